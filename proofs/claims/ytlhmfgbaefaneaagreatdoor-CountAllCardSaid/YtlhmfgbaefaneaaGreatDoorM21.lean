/-
  The steps of the walks, part 21: Scale, Get, Meth3, NatBad, IntB, IntC.
-/
import Derived.Laws.MakeOwn
import Derived.Test.YtlhmfgbaefaneaaGreatDoorM12
import Derived.Test.YtlhmfgbaefaneaaGreatDoorM20
import Derived.Test.YtlhmfgbaefaneaaGreatDoorM16
import Derived.Test.YtlhmfgbaefaneaaGreatDoorM02
set_option maxHeartbeats 4000000
set_option maxRecDepth 100000
namespace Go.Proofs.YtlhmfgbaefaneaaGreatDoor.nat
open Go.RowKit
theorem EA (d y a:Nat)(hd:d<18446744073709551616)(hy:y+1<18446744073709551616)(ha:a<18446744073709551616):∃h l s k:Nat,
  (∀w,Calls Tryz.prog 201 #[.int .u64 (d:Int),.int .u64 ((y:Int)+1)] w fun e w'=>e= .returned (.tuple #[.int .u64 (h:Int),.int .u64 (l:Int)])∧w'=w)∧
  (∀w,(callFunc 225 #[.int .u64 (l:Int),.int .u64 (a:Int),.int .u64 0]).run Tryz.prog w= .ok (.value (.tuple #[.int .u64 (s:Int),.int .u64 (k:Int)])) w)∧
  s<18446744073709551616∧h+k<18446744073709551616∧s+18446744073709551616*(h+k)=d+d*y+a:=by
 obtain⟨h,l,b1,b2,e1,r1⟩:=oL d (y+1) hd hy
 obtain⟨s,k,b3,b4,e2,r2⟩:=fO l a 0 b2 ha (by omega)
 have hp:d*(y+1)≤18446744073709551615*18446744073709551615:=Nat.mul_le_mul (by omega) (by omega)
 rw[Nat.mul_add,Nat.mul_one] at e1 hp
 exact⟨h,l,s,k,r1,r2,b3,by omega,by omega⟩
def RowT (w:World)(g:Nat)(L:List Nat)(R:List Value):Prop:=w.heap[g]?=some (.cells ((L.map fun d=>Value.int .u64 (d:Nat))++R).toArray 104 (0,0))
theorem RowT.row {w:World}{g:Nat}{L:List Nat}{R:List Value}(h:RowT w g L R):Row w g L:=⟨R,h⟩
theorem RowT.set {w:World}{g:Nat}{L:List Nat}{R:List Value}(h:RowT w g L R)(k:Nat)(hk:k<L.length)(d:Nat):RowT (w.setCell ⟨g,k,none⟩ (.int .u64 (d:Nat))) g (L.set k d) R:=by
 unfold RowT at h ⊢
 rw[heap_setCell_same w g k _ _ _ h]
 congr 2
 rw[List.setIfInBounds_toArray,List.set_append_left _ _ (by simpa using hk),List.map_set]
def CRel (w:World)(g y more:Nat)(R:List Value)(Z:List Nat)(i a:Nat)(wr:World):Prop:=
 ∃Z',Z'.length=Z.length∧Dig Z'∧a<18446744073709551616∧RowT wr g Z' R∧w.grownBy wr (some g)∧val Z'+18446744073709551616 ^ i*a=val Z+more+val (Z.take i)*y∧∀j,i≤j→dg Z' j=dg Z j
theorem CRel.next {w wr:World}{g y more:Nat}{R:List Value}{Z Z':List Nat}{i a s k:Nat}(h0:Z'.length=Z.length)(h1:Dig Z')(h3:RowT wr g Z' R)(h4:w.grownBy wr (some g))(h5:val Z'+18446744073709551616 ^ i*a=val Z+more+val (Z.take i)*y)(h6:∀j,i≤j→dg Z' j=dg Z j)
  (hi:i<Z.length) (hs:s<18446744073709551616) (hk:k<18446744073709551616) (he:s+18446744073709551616*k=dg Z' i+dg Z' i*y+a):CRel w g y more R Z (i+1) k (wr.setCell ⟨g,i,none⟩ (.int .u64 (s:Nat))):=
 ⟨Z'.set i s,by simpa using h0,h1.set hs,hk,h3.set _ (by omega) _,bF h4 (bZ _ _ _ _),by
   have e:dg Z' i=dg Z i:=h6 i (Nat.le_refl _)
   rw[add_one (by omega) he h5,aQ,Nat.add_mul,Nat.mul_assoc,e];omega,fun j hj=>by rw[cO (by omega)];exact h6 j (by omega)⟩
theorem Qw {B:Nat}(sv:Value)(z:List Nat)(y more:Nat)(w:World)(hO:w.ownsRow B 104 1 sv z.length (z.map fun d=>Value.int .u64 (d:Nat)))(hdz:Dig z)(hy:y+1<18446744073709551616)(hm:more<18446744073709551616)(hn:z.length≤4000000):
  Calls Tryz.prog 182 #[sv,.int .u64 ((y:Int)+1),.int .u64 (more:Nat)] w fun e w'=>∃(z':List Nat)(a:Nat),e= .returned (.int .u64 (a:Nat))∧(z'.length=z.length∧Dig z'∧val z'+18446744073709551616 ^ z.length*a=val z*(y+1)+more∧a<18446744073709551616∧w'.ownsRow B 104 1 sv z'.length (z'.map fun d=>Value.int .u64 (d:Nat)))∧w.grownBy w' sv.ownBlock:=by
 have HO:=Lib.hid hO
 rcases hO.2 with ⟨rfl,h0⟩|⟨g,cap,cur,rfl,hB,hh,hnc,hcm,hsz,htk⟩
 ·obtain rfl:=List.eq_nil_of_length_eq_zero h0
  clear hO hn h0
  go_enter Tryz.func182,Tryz.ntmps182
  go_wp2
  go_loopw [2,14] (fun rv iv wr=>iv= .int .i64 0∧rv= .int .u64 (more:Nat)∧w=wr) (fun _ _ _=>0)
  case atStart=>exact⟨rfl,rfl,rfl⟩
  case round=>
   obtain⟨rfl,rfl,rfl⟩:=hrel
   go_wp2
   go_ret
   exact⟨[],more,rfl,⟨rfl,Dig.nil,by simp[val],hm,HO.out⟩,iK _ _⟩
 ·obtain⟨n,hnl⟩:∃n,z.length=n:=⟨_,rfl⟩
  have HN:=Lib.hid hnl
  have hrow:RowT w g z (cur.toList.drop (z.length*1)):=by
   unfold RowT
   rw[←htk,List.take_append_drop,Array.toArray_toList]
   exact hh
  have HR:=Lib.hid (show n+(cur.toList.drop (z.length*1)).length=cap by simp;omega)
  generalize cur.toList.drop (z.length*1)=R at hrow HR
  have HS:=Lib.hid (show CRel w g y more R z 0 more w from⟨z,rfl,hdz,hm,hrow,iK _ _,by simp[val],fun _ _=>rfl⟩)
  have hgl:=hrow.row.lt
  unfold maxLen at hcm
  rw[hnl] at hnc hn ⊢
  clear hO hdz hrow hnl hh hsz htk cur
  go_enter Tryz.func182,Tryz.ntmps182
  go_wp2
  go_loopw [2,14] (fun rv iv wr=>∃i a:Nat,iv= .int .i64 i∧rv= .int .u64 a∧i≤n∧CRel w g y more R z i a wr) (fun _ iv _=>n - (intOf iv).toNat)
  case atStart=>exact⟨0,more,rfl,rfl,Nat.zero_le _,HS.out⟩
  case round=>
   obtain⟨i,a,rfl,rfl,hi,hrel⟩:=hrel
   obtain⟨Z',hl,hd,ha,hrow,hgr,hv,hup⟩:=hrel
   by_cases hlt:i<n
   ·have c1:=hrow.row.cell i (by rw[hl,HN.out];omega)
    have f1:=hrow.row.free i
    obtain⟨h,l,s,k,r1,r2,hs,hk,he⟩:=EA (dg Z' i) y a (bS hd i) hy ha
    have HNX:=Lib.hid (CRel.next hl hd hrow hgr hv hup (by rw[HN.out];exact hlt) hs hk he)
    have R1:=Lib.hid r1
    generalize dg Z' i=d at c1 R1
    clear he hrow hgr hv hl hd HS r1 hup HO
    go_wp2_with (go_at_call 201;refine(R1.out _).mono ?_;rintro e w' ⟨rfl,rfl⟩)
    go_roundw
    case rel=>exact⟨i+1,h+k,by go_num,by go_num,by omega,HNX.out⟩
    case measure=>simp[intOf];omega
   ·obtain rfl:i=n:=by omega
    have HV:=Lib.hid hv
    clear hv HS hup
    go_wp2
    go_ret
    refine⟨Z',a,rfl,⟨by rw[hl,HN.out],hd,?_,ha,?_⟩,hgr⟩
    ·have:=HV.out
     rw[List.take_of_length_le (by rw[HN.out];omega)] at this
     rw[this,Nat.mul_add]
     omega
    ·have e:Z'.length=i:=by rw[hl,HN.out]
     refine⟨by simp,Or.inr ⟨g,cap,_,by rw[e],hB,hrow,by omega,by unfold maxLen;omega,?_,?_⟩⟩
     ·have:=HR.out
      simp
      omega
     ·rw[Nat.mul_one]
      simp
end Go.Proofs.YtlhmfgbaefaneaaGreatDoor.nat
namespace Go.Proofs.YtlhmfgbaefaneaaGreatDoor.nat
open Go.RowKit
open Go.Proofs.YtlhmfgbaefaneaaGreatDoor.ref (str aD ch seg bU bA seg_lt vU)
theorem Ms {l:List UInt8}{k m i:Nat}(h:i<m):ch ((l.drop k).take m) i=ch l (k+i):=by
 unfold ch
 rw[List.getD_eq_getElem?_getD,List.getD_eq_getElem?_getD,List.getElem?_take_of_lt h,List.getElem?_drop]
theorem He {l:List UInt8}{k m:Nat} :∀j,j≤m→seg ((l.drop k).take m) 0 j=seg l k j
 |0,_=>rfl
 |j+1,h=>by rw[seg,seg,He j (by omega),Nat.zero_add,Ms (by omega)]
theorem Ht (l:List UInt8)(m:Nat): (str l).extract 0 m=str (l.take m):=by
 apply ByteArray.ext
 simp[str]
theorem Xl (l:List UInt8)(m:Nat): (str l).extract m l.length=str (l.drop m):=by
 apply ByteArray.ext
 simp[str,List.take_of_length_le]
theorem Qx {B:Nat}(sv:Value)(z:List Nat)(more:Nat)(w:World)(hO:w.ownsRow B 104 1 sv z.length (z.map fun d=>Value.int .u64 (d:Nat)))(hdz:Dig z)(hm:more<18446744073709551616)(hn:z.length≤4000000):
  Calls Tryz.prog 182 #[sv,.int .u64 10000000000000000000,.int .u64 (more:Nat)] w fun e w'=>∃(z':List Nat)(a:Nat),e= .returned (.int .u64 (a:Nat))∧(z'.length=z.length∧Dig z'∧val z'+18446744073709551616 ^ z.length*a=val z*10 ^ 19+more∧a<18446744073709551616∧w'.ownsRow B 104 1 sv z'.length (z'.map fun d=>Value.int .u64 (d:Nat)))∧w.grownBy w' sv.ownBlock:=by
 have h:=Qw sv z 9999999999999999999 more w hO hdz (by omega) hm hn
 rw[show((9999999999999999999:Nat):Int)+1=10000000000000000000 from rfl,show 9999999999999999999+1=10 ^ 19 from rfl] at h
 exact h
def KRel (w:World)(l:List UInt8)(sv nv:Value)(wr:World):Prop:=
 ∃(k:Nat)(z:List Nat),sv= .string (str (l.drop k))∧k≤l.length∧z.length≤k∧(k=0∨(l.length - k)%19=0)∧wr.ownsRow w.heap.size 104 1 nv z.length (z.map fun d=>Value.int .u64 (d:Nat))∧Below w.heap.size w wr∧Dig z∧val z=seg l 0 k
theorem KRel.next {w wr:World}{l:List UInt8}{nv:Value}{k m n:Nat}{z z':List Nat}{a:Nat}(hk:k+m≤l.length)(hm:0<m)(hz:z.length≤k)(hl:z'.length=z.length)(hd:Dig z')(ha:a<18446744073709551616)
  (h1:k=0∨m=19) (h2: (l.length - (k+m))%19=0) (hv:val z=seg l 0 k) (he:val z'+18446744073709551616 ^ z.length*a=val z*10 ^ 19+seg l k m) (hn:n=z'.length+1)
  (ho:wr.ownsRow w.heap.size 104 1 nv n ((z'++[a]).map fun d=>Value.int .u64 (d:Nat))) (hb:Below w.heap.size w wr):KRel w l (.string (str ((l.drop k).drop m))) nv wr:=by
 refine⟨k+m,z'++[a],by rw[List.drop_drop],hk,by simp;omega,Or.inr h2,by rw[show(z'++[a]).length=n by simp[hn]];exact ho,hb,hd.append (Dig.nil.cons ha),?_⟩
 rw[iD,hl,he,vU,Nat.zero_add,hv]
 rcases h1 with rfl|rfl
 ·simp[seg]
 ·rfl
theorem wF (l:List UInt8)(w:World)(h:bA l):
  Calls Tryz.prog 143 #[.string (str l)] w fun e w'=>∃v,e= .returned (.tuple #[v,.nilIface])∧(IsN w' v (seg l 0 l.length)∧v≠ .pointer none)∧Below w.heap.size w w':=by
 have hdec: (@decide (bA l) (Classical.propDecidable _))=true:=@decide_eq_true _ (Classical.propDecidable _) h
 have hNu:=Cx l w (by have:=h.2.1;omega)
 rw[hdec] at hNu
 have HNu:=Lib.hid hNu
 obtain⟨h1,h2,h3,h4⟩:=h
 have HD:=Lib.hid h4
 have hz: (str l).size=l.length:=aD l
 obtain⟨n,hn⟩:∃n,l.length=n:=⟨_,rfl⟩
 have HN:=Lib.hid hn
 have HS:=Lib.hid (show str l=str (l.drop 0) from rfl)
 rw[hn] at hz h1 h2
 generalize hs:str l=s at hz HNu HS
 clear hNu hdec h3 h4 hn hs
 obtain⟨i0,hi0,hz0,hz1,hz2⟩:=info_parts jP
 obtain⟨w1,hmk,hown,hgr⟩:=run_make_own (P:=Tryz.prog) w w.heap.size 78 104 i0 (.int .u64 0) 1 Tryz.underlying78 hi0 hz0 hz1 .i64 .i64 (n/19+1) (by rw[hz2];omega) (by unfold maxLen;omega) (Nat.le_refl _)
 rw[show(((n/19+1:Nat)):Int)=(n:Int)/19+1 by omega] at hmk
 generalize hc:n/19+1=C at hmk hown
 have HK:=Lib.hid (show KRel w l (.string s) (.slice (some ⟨w.heap.size,0,none⟩) 0 C) w1 from⟨0,[],by rw[HS.out],Nat.zero_le _,Nat.le_refl _,Or.inl rfl,hown,(Below.refl _ _).grown hgr (Nat.le_refl _) (fun k hk=>by cases hk),Dig.nil,rfl⟩)
 clear hown hgr i0 hi0 hz0 hz1 hz2 hc
 go_enter Tryz.func143,Tryz.ntmps143
 go_wp2_with (go_at_call 181;refine(HNu.out).mono ?_;rintro e w1 ⟨rfl,rfl⟩)
 go_loopw [0,4] (fun sv nv wr=>KRel w l sv nv wr) (fun sv _ _=>match sv with| .string b=>b.size|_=>0)
 case atStart=>exact HK.out
 case round=>
  obtain⟨k,z,rfl,hk,hz1,h19,hown,hbe,hdz,hv⟩:=hrel
  have hsz: (str (l.drop k)).size=n - k:=by rw[aD,List.length_drop,HN.out]
  rw[HN.out] at hk h19
  by_cases hlt:k<n
  ·obtain⟨r,hr⟩:∃r,r=n - k:=⟨_,rfl⟩
   obtain⟨m,hm⟩:∃m,m=(r - 1)%19+1:=⟨_,rfl⟩
   have hmi: ((r:Int) - 1)%19+1=(m:Int):=by omega
   have hkl: (l.drop k).length=r:=by rw[List.length_drop,HN.out];omega
   have hml: ((l.drop k).take m).length=m:=by rw[List.length_take,hkl];omega
   have hval:=Rm ((l.drop k).take m) wr (by rw[hml];omega) (fun i hi=>by
    rw[hml] at hi
    unfold bU
    rw[Ms hi]
    exact HD.out (k+i) (by rw[HN.out];omega))
   rw[hml,He m (Nat.le_refl _),←Ht] at hval
   have hvl:=seg_lt (l:=l) (st:=k) (m:=m) fun i h1 h2=>HD.out i (by rw[HN.out];omega)
   have hp:10 ^ m≤10 ^ 19:=Nat.pow_le_pow_right (by omega) (by omega)
   have hvb:seg l k m<18446744073709551616:=by omega
   have hfrom:=Xl (l.drop k) m
   rw[hkl] at hfrom
   have HSc:=Lib.hid (Qx u4 z (seg l k m) wr hown hdz hvb (by omega))
   have HNX:=Lib.hid (fun nv n z' a wr' hl hd ha he hn ho hb=>KRel.next (w:=w) (wr:=wr') (l:=l) (nv:=nv) (k:=k) (m:=m) (n:=n) (z:=z) (z':=z') (a:=a) (by rw[HN.out];omega) (by omega) hz1 hl hd ha (by omega) (by rw[HN.out];omega) hv he hn ho hb)
   have HB:=Lib.hid hbe
   have HZ:=Lib.hid hz1
   have HVal:=Lib.hid hval
   have HFrom:=Lib.hid hfrom
   have hts: (str (l.drop k)).size=r:=by rw[hsz,hr]
   have hr0: (0:Int)<(r:Int):=by omega
   have hmr:m≤r:=by omega
   have hr4:r≤4000:=by omega
   have hr1: (0:Int)≤(r:Int) - 1:=by omega
   have hm19:m≤19:=by omega
   have hm0:0<m:=by omega
   generalize str (l.drop k)=t at *
   generalize seg l k m=v at *
   have HM:=Lib.hid hm
   have HRr:=Lib.hid hr
   clear hval hfrom hkl hml hv hown hbe hdz hvl hp hvb hsz hz1 h19 hm HK hmk HS hr
   have hwb:=HB.out.size
   go_wp2_with (first
    |(go_at_call 183;with_reducible refine(HVal.out).mono ?_;rintro e w2 ⟨rfl,rfl⟩)
    |(go_at_call 182;with_reducible refine(HSc.out).mono ?_;rintro e w2 ⟨z',a,rfl,⟨hl,hd,he,ha,ho⟩,hg⟩
      have HHg:=Lib.hid hg
      have HL:=Lib.hid hl
      have HD':=Lib.hid hd
      have HE:=Lib.hid he
      have HA:=Lib.hid ha
      have HO:=Lib.hid ho
      have hb2:=HB.out.grown hg hwb (fun b hb=>(World.ownsRow.lt ho b hb).1)
      have HB2:=Lib.hid hb2
      have hwb2:=hb2.size
      have HO2:=Lib.hid (ho.alloc (.cells #[Value.int .u64 (a:Nat)] 104))
      have HLit:=Lib.hid (gN (w:=w2) (d:=a) (B:=w2.heap.size) (Nat.le_refl _)).rd
      clear hg hl hd he ha ho hb2 HSc)
    |(at_builtin;refine jK rfl _ _ rfl w.heap.size _ _ z' [a] rfl HO2.out rfl HLit.out ?c1 ?c2 ?_))
   case c1=>rw[HL.out];have:=HZ.out;simp;omega
   case c2=>simp;omega
   intro v' w3 hown hg3
   have hb3:=(HB2.out.alloc hwb2 (.cells #[Value.int .u64 (a:Nat)] 104)).grown hg3 (by simp;omega) (fun b hb=>(World.ownsRow.lt HO2.out b hb).1)
   have HK3:=Lib.hid (HNX.out v' (z'.length+1) z' a w3 HL.out HD'.out HA.out HE.out rfl (by simpa using hown) hb3)
   clear hown hg3 hb3 HLit HO2 HO HHg
   go_wp2
   refine⟨?_,?_⟩
   ·have:=HK3.out
    rw[←HFrom.out] at this
    exact this
   ·simp[ByteArray.size_extract]
    omega
  ·obtain rfl:k=n:=by omega
   have HT:=Lib.hid (jQ u4 z wr (Own.rX hown).rd hdz (by omega))
   have HV:=Lib.hid hv
   have HB:=Lib.hid hbe
   clear hv hbe hown hdz HK hmk h19
   have hts: (str (l.drop k)).size=0:=by omega
   generalize str (l.drop k)=t at *
   clear hsz
   go_wp2_with (go_at_call 166;with_reducible refine(HT.out).mono ?_;rintro e w2 ⟨v,rfl,⟨hi,hnv⟩,hb⟩;have HI:=Lib.hid hi;have HNv:=Lib.hid hnv;have HB2:=Lib.hid (Bu HB.out HB.out.size hb);clear hi hb hnv)
   go_ret2
   refine⟨_,rfl,⟨?_,HNv.out⟩,HB2.out⟩
   have:=HI.out
   rw[HV.out] at this
   rw[HN.out]
   exact this
end Go.Proofs.YtlhmfgbaefaneaaGreatDoor.nat
namespace Go.Proofs.YtlhmfgbaefaneaaGreatDoor.nat
open Go.RowKit
open Go.Proofs.YtlhmfgbaefaneaaGreatDoor.ref (str aD bA)
def OfC (c:Int)(P:World→Value→World→Prop):Prop:=∀w,Calls Tryz.prog 71 #[.int .i64 c] w fun e w'=>∃v,e= .returned v∧P w v w'
theorem Ym {P:World→Value→World→Prop}(hP:OfC 2 P)(a b:Value)(X Y:Nat)(w:World)(ha:IsN w a X)(hb:IsN w b Y)(hlt:X<Y)(hx: (digs X).length≤900000)(hy: (digs Y).length≤900000):
  Calls Tryz.prog 142 #[a,b] w fun e w'=>∃v m,e= .returned (.tuple #[.pointer none,v])∧P (w.drewN m) v w':=by
 have CM:=Lib.hid (gT a b X Y w ha hb (by omega) (by omega))
 obtain⟨c,hc⟩:∃c,c=cmp3 (X:Nat) (Y:Nat):=⟨_,rfl⟩
 have hc0:c<0:=by
  rw[hc]
  unfold cmp3
  rw[if_pos (by omega)]
  omega
 rw[←hc] at CM
 have HP:=Lib.hid hP
 clear ha hb hc
 go_enter Tryz.func142,Tryz.ntmps142
 go_wp2_with (first
  |(go_at_call 133;refine(CM.out).mono ?_;rintro e w1 ⟨rfl,m,rfl⟩;clear CM)
  |(go_at_call 71;refine(HP.out _).mono ?_;rintro e w2 ⟨v,rfl,hp⟩))
 go_ret2
 exact⟨_,m,rfl,hp⟩
theorem sW (a b:Value)(X Y:Nat)(w:World)(ha:IsN w a X)(hb:IsN w b Y)(h0:0<Y)(hx: (digs X).length≤900000)(hy: (digs Y).length≤900000):
  Calls Tryz.prog 144 #[a,b] w fun e w'=>∃q r,e= .returned (.tuple #[q,r,.nilIface])∧(IsN w' q (X/Y)∧q≠ .pointer none)∧(IsN w' r (X%Y)∧r≠ .pointer none)∧Below w.heap.size w w':=by
 have Z:=dY b Y w hb
 rw[decide_eq_false (by omega:¬Y=0)] at Z
 have HZ:=Lib.hid Z
 have L1:=Lib.hid (dK a X w ha)
 have L2:=Lib.hid (dK b Y w hb)
 have hyn:digs Y≠[]:=by
  intro h
  have:=aA Y
  rw[h] at this
  simp[val] at this
  omega
 have hq: (digs (X/Y)).length≤900000:=aR (Nat.div_le_self _ _) hx
 have hr: (digs (X%Y)).length≤900000:=aR (Nat.mod_le _ _) hx
 clear ha hb Z h0
 go_enter Tryz.func144,Tryz.ntmps144
 go_wp2_with (first
  |(go_at_call 164;refine(HZ.out).mono ?_;rintro e w1 ⟨rfl,rfl⟩;clear HZ)
  |(go_at_call 168;refine(L1.out).mono ?_;rintro e w1 ⟨sa,rfl,ha,rfl⟩;have HA:=Lib.hid ha;clear L1 ha)
  |(go_at_call 168;refine(L2.out).mono ?_;rintro e w1 ⟨sb,rfl,hb,rfl⟩
    have C:=Lib.hid (jE sa sb _ _ _ HA.out hb (aB X) (aB Y) hyn hx hy)
    rw[aA,aA] at C
    clear L2 hb)
  |(go_at_call 184;refine(C.out).mono ?_;rintro e w2 ⟨sq,sr,rfl,⟨hoq,hor⟩,hb2⟩
    have O1:=Lib.hid (jQ sq _ w2 hoq.rd (aB _).1 (by omega))
    have O2:=Lib.hid (fun w3 (h3:Below w2.heap.size w2 w3)=>jQ sr _ w3 (hor.rd.below h3) (aB _).1 (by omega))
    rw[aA] at O1
    rw[aA] at O2
    have HB2:=Lib.hid hb2
    clear C hoq hor hb2)
  |(go_at_call 166;refine(O1.out).mono ?_;rintro e w3 ⟨q,rfl,⟨hi,hn⟩,hb3⟩
    have HI:=Lib.hid hi
    have HN:=Lib.hid hn
    have O3:=Lib.hid (O2.out w3 hb3)
    have HB3:=Lib.hid (HB2.out.trans (hb3.mono HB2.out.size))
    clear O1 O2 hi hn hb3)
  |(go_at_call 166;refine(O3.out).mono ?_;rintro e w4 ⟨r,rfl,⟨hi,hn⟩,hb4⟩
    have HI2:=Lib.hid (HI.out.below hb4)
    have HB4:=Lib.hid (HB3.out.trans (hb4.mono HB3.out.size))
    have HJ:=Lib.hid (And.intro hi hn)
    clear O3 hi hn hb4))
 go_ret3
 exact⟨_,_,rfl,⟨HI2.out,HN.out⟩,HJ.out,HB4.out⟩
end Go.Proofs.YtlhmfgbaefaneaaGreatDoor.nat
namespace Go.Proofs.YtlhmfgbaefaneaaGreatDoor.nat
open Go.RowKit
open Go.Proofs.YtlhmfgbaefaneaaGreatDoor.ref (str aD bA)
def bI (c:Int):Value:= .iface 128 (.int .i64 c)
def Yc (c:Int)(w:World)(v:Value)(w':World):Prop:=v=bI c∧w=w'
theorem Wn (c:Int)(hc: (c==0)=false):OfC c (Yc c):=fun w=>by
 refine(flt.vN c w hc).mono ?_
 rintro e w' ⟨rfl,rfl⟩
 exact⟨_,rfl,rfl,rfl⟩
theorem Tq (a b:Value)(X Y:Nat)(w:World)(ha:IsN w a X)(hb:IsN w b Y)(hlt:X<Y)(hx: (digs X).length≤900000)(hy: (digs Y).length≤900000):
  Calls Tryz.prog 142 #[a,b] w fun e w'=>e= .returned (.tuple #[.pointer none,bI 2])∧∃m,w'=w.drewN m:=by
 refine(Ym (Wn 2 rfl) a b X Y w ha hb hlt hx hy).mono ?_
 rintro e w' ⟨v,m,rfl,rfl,rfl⟩
 exact⟨rfl,m,rfl⟩
end Go.Proofs.YtlhmfgbaefaneaaGreatDoor.nat
namespace Go.Proofs.YtlhmfgbaefaneaaGreatDoor.num
open Go.RowKit Go.Proofs.YtlhmfgbaefaneaaGreatDoor.nat
theorem AQ {z y:Int}(h:decide (z<0)=decide (y<0)):sgn (decide (z<0)) (z.natAbs+y.natAbs)=z+y:=by
 unfold sgn
 by_cases h1:z<0<;>by_cases h2:y<0<;>simp[h1,h2] at h ⊢ <;>omega
theorem Xh {z y:Int}(h:decide (z<0)≠decide (y<0))(hle:y.natAbs≤z.natAbs):sgn (decide (z<0)) (z.natAbs - y.natAbs)=z+y:=by
 unfold sgn
 by_cases h1:z<0<;>by_cases h2:y<0<;>simp[h1,h2] at h ⊢ <;>omega
theorem Xi {z y:Int}(h:decide (z<0)≠decide (y<0))(hlt:z.natAbs<y.natAbs):sgn (decide (y<0)) (y.natAbs - z.natAbs)=z+y:=by
 unfold sgn
 by_cases h1:z<0<;>by_cases h2:y<0<;>simp[h1,h2] at h ⊢ <;>omega
theorem Rt (a b:Value)(z y:Int)(w:World)(ha:IsZ w a z)(hb:IsZ w b y)(hx: (digs z.natAbs).length≤800000)(hy: (digs y.natAbs).length≤800000)(hs:decide (z<0)=decide (y<0)):
  Calls Tryz.prog 113 #[a,b] w fun e w'=>∃u,e= .returned u∧(IsZ w' u (z+y)∧u≠ .pointer none)∧Below w.heap.size w w':=by
 have B1:=bJ a z w ha
 have B2:=bJ b y w hb
 have A1:=Lib.hid (bO a z w ha)
 have A2:=Lib.hid (bO b y w hb)
 have M:=Lib.hid (fun na nb h1 h2=>nat.kY na nb z.natAbs y.natAbs w h1 h2 (by omega) (by omega))
 have N:=fun (w':World) nv hn=>dD (decide (z<0)) nv (z.natAbs+y.natAbs) w' hn
 rw[AQ hs] at N
 rw[←hs] at B2
 clear ha hb hs
 generalize decide (z<0)=b1 at *
 have HB1:=Lib.hid B1
 have HB2:=Lib.hid B2
 have HN:=Lib.hid N
 have hbb: (b1==b1)=true:=by simp
 clear B1 B2 N
 go_enter Tryz.func113,Tryz.ntmps113
 go_wp2_with (first
  |(go_at_call 129;(with_reducible refine(HB1.out).mono ?_);rintro e w1 ⟨rfl,rfl⟩)
  |(go_at_call 129;(with_reducible refine(HB2.out).mono ?_);rintro e w1 ⟨rfl,rfl⟩)
  |(go_at_call 130;(with_reducible refine(A1.out).mono ?_);rintro e w1 ⟨na,rfl,hn,rfl⟩;have HN1:=Lib.hid hn;clear A1 hn)
  |(go_at_call 130;(with_reducible refine(A2.out).mono ?_);rintro e w1 ⟨nb,rfl,hn,rfl⟩;have HN2:=Lib.hid hn;clear A2 hn)
  |(go_at_call 141;(with_reducible refine(M.out _ _ HN1.out HN2.out).mono ?_);rintro e w2 ⟨m,rfl,⟨hm,-⟩,hb2⟩;have HM:=Lib.hid hm;have HBl:=Lib.hid hb2;clear M hm hb2)
  |(go_at_call 128;(with_reducible refine(HN.out _ _ HM.out).mono ?_);rintro e w3 ⟨u,rfl,hu,hb⟩;have HU:=Lib.hid hu;have HB:=Lib.hid (HBl.out.trans (hb.mono HBl.out.size));clear hu hb))
 go_ret
 exact⟨_,rfl,HU.out,HB.out⟩
theorem Rs (a b:Value)(z y:Int)(w:World)(ha:IsZ w a z)(hb:IsZ w b y)(hx: (digs z.natAbs).length≤800000)(hs:decide (z<0)≠decide (y<0))(hle:y.natAbs≤z.natAbs):
  Calls Tryz.prog 113 #[a,b] w fun e w'=>∃u,e= .returned u∧(IsZ w' u (z+y)∧u≠ .pointer none)∧Below w.heap.size w w':=by
 have B1:=fun w' (h:Below w.heap.size w w')=>bJ a z w' (ha.below h)
 have B2:=bJ b y w hb
 have A1:=Lib.hid (bO a z w ha)
 have A2:=Lib.hid (bO b y w hb)
 have M:=Lib.hid (fun na nb h1 h2=>nat.Jf na nb z.natAbs y.natAbs w h1 h2 hle (by omega))
 have N:=fun (w':World) nv hn=>dD (decide (z<0)) nv (z.natAbs - y.natAbs) w' hn
 rw[Xh hs hle] at N
 clear ha hb hle
 generalize decide (z<0)=b1 at *
 generalize decide (y<0)=b2 at *
 have HB1:=Lib.hid B1
 have HB2:=Lib.hid B2
 have HN:=Lib.hid N
 have hbb: (b1==b2)=false:=by simp[hs]
 clear B1 B2 N hs
 go_enter Tryz.func113,Tryz.ntmps113
 go_wp2_with (first
  |(go_at_call 129;(with_reducible refine(HB1.out _ (Below.refl _ _)).mono ?_);rintro e w1 ⟨rfl,rfl⟩)
  |(go_at_call 129;(with_reducible refine(HB2.out).mono ?_);rintro e w1 ⟨rfl,rfl⟩;clear HB2)
  |(go_at_call 130;(with_reducible refine(A1.out).mono ?_);rintro e w1 ⟨na,rfl,hn,rfl⟩;have HN1:=Lib.hid hn;clear A1 hn)
  |(go_at_call 130;(with_reducible refine(A2.out).mono ?_);rintro e w1 ⟨nb,rfl,hn,rfl⟩;have HN2:=Lib.hid hn;clear A2 hn)
  |(go_at_call 142;(with_reducible refine(M.out _ _ HN1.out HN2.out).mono ?_);rintro e w2 ⟨m,rfl,⟨hm,-⟩,hb2⟩;have HM:=Lib.hid hm;have HBl:=Lib.hid hb2;clear M hm hb2)
  |(go_at_call 129;(with_reducible refine(HB1.out _ HBl.out).mono ?_);rintro e w1 ⟨rfl,rfl⟩)
  |(go_at_call 128;(with_reducible refine(HN.out _ _ HM.out).mono ?_);rintro e w3 ⟨u,rfl,hu,hb⟩;have HU:=Lib.hid hu;have HB:=Lib.hid (HBl.out.trans (hb.mono HBl.out.size));clear hu hb))
 go_ret
 exact⟨_,rfl,HU.out,HB.out⟩
theorem Rq (a b:Value)(z y:Int)(w:World)(ha:IsZ w a z)(hb:IsZ w b y)(hx: (digs z.natAbs).length≤800000)(hy: (digs y.natAbs).length≤800000)(hs:decide (z<0)≠decide (y<0))(hlt:z.natAbs<y.natAbs):
  Calls Tryz.prog 113 #[a,b] w fun e w'=>∃u,e= .returned u∧(IsZ w' u (z+y)∧u≠ .pointer none)∧Below w.heap.size w w':=by
 have B1:=bJ a z w ha
 have B2:=fun w' (h:Below w.heap.size w w')=>bJ b y w' (hb.below h)
 have A1:=Lib.hid (fun w' (h:Below w.heap.size w w')=>bO a z w' (ha.below h))
 have A2:=Lib.hid (fun w' (h:Below w.heap.size w w')=>bO b y w' (hb.below h))
 have M1:=Lib.hid (fun na nb h1 h2=>nat.Tq na nb z.natAbs y.natAbs w h1 h2 hlt (by omega) (by omega))
 have M2:=Lib.hid (fun (w':World) na nb h1 h2=>nat.Jf nb na y.natAbs z.natAbs w' h2 h1 (by omega) (by omega))
 have N:=fun (w':World) nv hn=>dD (decide (y<0)) nv (y.natAbs - z.natAbs) w' hn
 rw[Xi hs hlt] at N
 clear ha hb hlt
 generalize decide (z<0)=b1 at *
 generalize decide (y<0)=b2 at *
 have HB1:=Lib.hid B1
 have HB2:=Lib.hid B2
 have HN:=Lib.hid N
 have hbb: (b1==b2)=false:=by simp[hs]
 clear B1 B2 N hs
 unfold bI at M1
 go_enter Tryz.func113,Tryz.ntmps113
 go_wp2_with (first
  |(go_at_call 129;(with_reducible refine(HB1.out).mono ?_);rintro e w1 ⟨rfl,rfl⟩)
  |(go_at_call 129;(with_reducible refine(HB2.out _ (Below.refl _ _)).mono ?_);rintro e w1 ⟨rfl,rfl⟩)
  |(go_at_call 130;(with_reducible refine(A1.out _ (Below.refl _ _)).mono ?_);rintro e w1 ⟨na,rfl,hn,rfl⟩;have HN1:=Lib.hid hn;clear hn)
  |(go_at_call 130;(with_reducible refine(A2.out _ (Below.refl _ _)).mono ?_);rintro e w1 ⟨nb,rfl,hn,rfl⟩;have HN2:=Lib.hid hn;clear hn)
  |(go_at_call 142;(with_reducible refine(M1.out _ _ HN1.out HN2.out).mono ?_);rintro e w2 ⟨rfl,m,rfl⟩;clear M1 HN1 HN2)
  |(go_at_call 130;(with_reducible refine(A2.out _ (aK w m)).mono ?_);rintro e w1 ⟨nb,rfl,hn,rfl⟩;have HN4:=Lib.hid hn;clear A2 hn)
  |(go_at_call 130;(with_reducible refine(A1.out _ (aK w m)).mono ?_);rintro e w1 ⟨na,rfl,hn,rfl⟩;have HN3:=Lib.hid hn;clear A1 hn)
  |(go_at_call 142;(with_reducible refine(M2.out _ _ _ HN3.out HN4.out).mono ?_);rintro e w2 ⟨r,rfl,⟨hm,-⟩,hb2⟩;have HM:=Lib.hid hm;have HBl:=Lib.hid ((aK w m).trans hb2);clear M2 hm hb2)
  |(go_at_call 129;(with_reducible refine(HB2.out _ HBl.out).mono ?_);rintro e w1 ⟨rfl,rfl⟩)
  |(go_at_call 128;(with_reducible refine(HN.out _ _ HM.out).mono ?_);rintro e w3 ⟨u,rfl,hu,hb⟩;have HU:=Lib.hid hu;have HB:=Lib.hid (HBl.out.trans (hb.mono HBl.out.size));clear hu hb))
 go_ret
 exact⟨_,rfl,HU.out,HB.out⟩
theorem kY (a b:Value)(z y:Int)(w:World)(ha:IsZ w a z)(hb:IsZ w b y)(hx: (digs z.natAbs).length≤800000)(hy: (digs y.natAbs).length≤800000):
  Calls Tryz.prog 113 #[a,b] w fun e w'=>∃u,e= .returned u∧(IsZ w' u (z+y)∧u≠ .pointer none)∧Below w.heap.size w w':=by
 by_cases hs:decide (z<0)=decide (y<0)
 ·exact Rt a b z y w ha hb hx hy hs
 ·rcases Nat.lt_or_ge z.natAbs y.natAbs with h|h
  ·exact Rq a b z y w ha hb hx hy hs h
  ·exact Rs a b z y w ha hb hx hs h
end Go.Proofs.YtlhmfgbaefaneaaGreatDoor.num
namespace Go.Proofs.YtlhmfgbaefaneaaGreatDoor.num
open Go.RowKit Go.Proofs.YtlhmfgbaefaneaaGreatDoor.nat
theorem Pb {z y:Int}(h:sg z≠sg y):cmp3 (sg z) (sg y)=cmp3 z y:=by
 unfold sg cmp3 at *
 (repeat' split at h)<;>(repeat' split)<;>omega
theorem Zc {z y:Int}(h:sg z=sg y)(h1:z<0):cmp3 (y.natAbs:Nat) (z.natAbs:Nat)=cmp3 z y:=by
 unfold sg cmp3 at *
 (repeat' split at h)<;>(repeat' split)<;>omega
theorem Ui {z y:Int}(h:sg z=sg y)(h1:¬z<0):cmp3 (z.natAbs:Nat) (y.natAbs:Nat)=cmp3 z y:=by
 unfold sg cmp3 at *
 (repeat' split at h)<;>(repeat' split)<;>omega
theorem gT (a b:Value)(z y:Int)(w:World)(ha:IsZ w a z)(hb:IsZ w b y)(hx: (digs z.natAbs).length≤800000)(hy: (digs y.natAbs).length≤800000):
  Calls Tryz.prog 102 #[a,b] w fun e w'=>e= .returned (.int .i64 (cmp3 z y))∧∃m,w'=w.drewN m:=by
 have S1:=Lib.hid (dX a z w ha)
 have S2:=Lib.hid (dX b y w hb)
 by_cases hs:sg z=sg y
 ·have B1:=bJ a z w ha
  have A1:=Lib.hid (bO a z w ha)
  have A2:=Lib.hid (bO b y w hb)
  have hee: (sg z==sg y)=true:=by simp[hs]
  by_cases hz:z<0
  ·have C:=Lib.hid (fun na nb h1 h2=>nat.gT nb na y.natAbs z.natAbs w h2 h1 (by omega) (by omega))
   rw[Zc hs hz] at C
   rw[decide_eq_true hz] at B1
   have HB1:=Lib.hid B1
   clear ha hb B1 hz
   generalize sg z=s1 at *
   generalize sg y=s2 at *
   subst hs
   go_enter Tryz.func102,Tryz.ntmps102
   go_wp2_with (first
    |(go_at_call 126;(with_reducible refine(S1.out).mono ?_);rintro e w1 ⟨rfl,rfl⟩)
    |(go_at_call 126;(with_reducible refine(S2.out).mono ?_);rintro e w1 ⟨rfl,rfl⟩)
    |(go_at_call 129;(with_reducible refine(HB1.out).mono ?_);rintro e w1 ⟨rfl,rfl⟩)
    |(go_at_call 130;(with_reducible refine(A1.out).mono ?_);rintro e w1 ⟨na,rfl,hn,rfl⟩;have HN1:=Lib.hid hn;clear A1 hn)
    |(go_at_call 130;(with_reducible refine(A2.out).mono ?_);rintro e w1 ⟨nb,rfl,hn,rfl⟩;have HN2:=Lib.hid hn;clear A2 hn)
    |(go_at_call 133;(with_reducible refine(C.out _ _ HN1.out HN2.out).mono ?_);rintro e w2 ⟨rfl,m,rfl⟩;clear C))
   go_ret
   exact⟨rfl,m,rfl⟩
  ·have C:=Lib.hid (fun na nb h1 h2=>nat.gT na nb z.natAbs y.natAbs w h1 h2 (by omega) (by omega))
   rw[Ui hs hz] at C
   rw[decide_eq_false hz] at B1
   have HB1:=Lib.hid B1
   clear ha hb B1 hz
   generalize sg z=s1 at *
   generalize sg y=s2 at *
   subst hs
   go_enter Tryz.func102,Tryz.ntmps102
   go_wp2_with (first
    |(go_at_call 126;(with_reducible refine(S1.out).mono ?_);rintro e w1 ⟨rfl,rfl⟩)
    |(go_at_call 126;(with_reducible refine(S2.out).mono ?_);rintro e w1 ⟨rfl,rfl⟩)
    |(go_at_call 129;(with_reducible refine(HB1.out).mono ?_);rintro e w1 ⟨rfl,rfl⟩)
    |(go_at_call 130;(with_reducible refine(A1.out).mono ?_);rintro e w1 ⟨na,rfl,hn,rfl⟩;have HN1:=Lib.hid hn;clear A1 hn)
    |(go_at_call 130;(with_reducible refine(A2.out).mono ?_);rintro e w1 ⟨nb,rfl,hn,rfl⟩;have HN2:=Lib.hid hn;clear A2 hn)
    |(go_at_call 133;(with_reducible refine(C.out _ _ HN1.out HN2.out).mono ?_);rintro e w2 ⟨rfl,m,rfl⟩;clear C))
   go_ret
   exact⟨rfl,m,rfl⟩
 ·have hee: (sg z==sg y)=false:=by simp[hs]
  rw[←Pb hs]
  clear ha hb
  generalize sg z=s1 at *
  generalize sg y=s2 at *
  have C:=Lib.hid (wC s1 s2 w)
  clear hs
  go_enter Tryz.func102,Tryz.ntmps102
  go_wp2_with (first
   |(go_at_call 126;(with_reducible refine(S1.out).mono ?_);rintro e w1 ⟨rfl,rfl⟩)
   |(go_at_call 126;(with_reducible refine(S2.out).mono ?_);rintro e w1 ⟨rfl,rfl⟩)
   |(go_at_call 132;(with_reducible refine(C.out).mono ?_);rintro e w1 ⟨rfl,rfl⟩))
  go_ret
  exact⟨rfl,0,rfl⟩
theorem gD (z:Int)(w:World)(h1: -9223372036854775808≤z)(h2:z<9223372036854775808):
  Calls Tryz.prog 103 #[.int .i64 z] w fun e w'=>∃u,e= .returned u∧(IsZ w' u z∧u≠ .pointer none)∧Below w.heap.size w w':=by
 have O:=Lib.hid (nat.gD z.natAbs w (by omega))
 by_cases h0:z<0
 ·have N:=Lib.hid (fun (w':World) nv hn=>dD true nv z.natAbs w' hn)
  rw[show sgn true z.natAbs=z by unfold sgn;simp;omega] at N
  have e1: ((z.natAbs:Nat):Int)= -z:=by omega
  have e2:IntKind.u64.wrap (-IntKind.u64.wrap z)= -z:=by rw[IntKind.wrap_u64,IntKind.wrap_u64];omega
  rw[e1] at O
  go_enter Tryz.func103,Tryz.ntmps103
  go_wp2_with (first
   |(go_at_call 134;(with_reducible refine(O.out).mono ?_);rintro e w2 ⟨m,rfl,⟨hm,-⟩,hb2⟩;have HM:=Lib.hid hm;have HBl:=Lib.hid hb2;clear O hm hb2)
   |(go_at_call 128;(with_reducible refine(N.out _ _ HM.out).mono ?_);rintro e w3 ⟨u,rfl,hu,hb⟩;have HU:=Lib.hid hu;have HB:=Lib.hid (HBl.out.trans (hb.mono HBl.out.size));clear hu hb))
  go_ret
  exact⟨_,rfl,HU.out,HB.out⟩
 ·have N:=Lib.hid (fun (w':World) nv hn=>dD false nv z.natAbs w' hn)
  rw[show sgn false z.natAbs=z by unfold sgn;simp;omega] at N
  have e1: ((z.natAbs:Nat):Int)=z:=by omega
  rw[e1] at O
  go_enter Tryz.func103,Tryz.ntmps103
  go_wp2_with (first
   |(go_at_call 134;(with_reducible refine(O.out).mono ?_);rintro e w2 ⟨m,rfl,⟨hm,-⟩,hb2⟩;have HM:=Lib.hid hm;have HBl:=Lib.hid hb2;clear O hm hb2)
   |(go_at_call 128;(with_reducible refine(N.out _ _ HM.out).mono ?_);rintro e w3 ⟨u,rfl,hu,hb⟩;have HU:=Lib.hid hu;have HB:=Lib.hid (HBl.out.trans (hb.mono HBl.out.size));clear hu hb))
  go_ret
  exact⟨_,rfl,HU.out,HB.out⟩
end Go.Proofs.YtlhmfgbaefaneaaGreatDoor.num
