/-
  The steps of the walks, part 6: RefMul, RefSub, RefDiv.
-/
import Derived.Laws.MakeOwn
import Derived.Laws.AppendOwnNone
import Derived.RegionTactic
import Derived.BigRegion
import Derived.Test.YtlhmfgbaefaneaaGreatDoorM05
set_option maxHeartbeats 8000000
set_option maxRecDepth 100000
namespace Go.Proofs.YtlhmfgbaefaneaaGreatDoor.ref
open Go.RowKit
def Own (w:World)(base g cap:Nat)(o:List Nat):Prop:=w.ownsRow base 104 1 (.slice (some ⟨g,0,none⟩) o.length cap) o.length (o.map fun d=>Value.int .u64 (d:Nat))
theorem Own.cell {w:World}{base g cap:Nat}{o:List Nat}(h:Own w base g cap o)(k:Nat)(hk:k<o.length):w.cell? ⟨g,k,none⟩=some (.int .u64 (dg o k:Nat)):=by
 rw[World.ownsRow.cellAt h k (by omega)]
 exact oF hk _
theorem Own.frozen {w:World}{base g cap:Nat}{o:List Nat}(h:Own w base g cap o)(k:Nat):w.frozen? ⟨g,k,none⟩=false:=World.ownsRow.frozenAt h k
theorem Own.low {w:World}{base g cap:Nat}{o:List Nat}(h:Own w base g cap o):base≤g∧g<w.heap.size:=World.ownsRow.lt h g rfl
theorem Own.store {w:World}{base g cap:Nat}{o:List Nat}(h:Own w base g cap o)(j d:Nat)(u:Int)(hu:u=(d:Nat)):Own (w.setCell ⟨g,j,none⟩ (.int .u64 u)) base g cap (o.set j d):=by
 have h1:=(World.ownsRow.stored h j (.int .u64 u)).1
 unfold Own
 rw[List.length_set,List.map_set,←hu]
 exact h1
theorem Own.drewN {w:World}{base g cap:Nat}{o:List Nat}(h:Own w base g cap o)(n:Nat):Own (w.drewN n) base g cap o:=
 World.ownsRow.kept (row:=none) h ⟨rfl,rfl,rfl,Nat.le_refl _,fun _ _ _=>rfl⟩ (by simp[Value.ownBlock])
theorem Own.reads {w:World}{base g cap:Nat}{o:List Nat}(h:Own w base g cap o):Reads w (.slice (some ⟨g,0,none⟩) o.length cap) o:=Reads.Wo h
theorem Gq (w:World)(n:Nat)(hn:n≤maxLen):Own (w.alloc (.cells (madeCells #[Value.int .u64 0] (n*1)) 104)) w.heap.size w.heap.size n (List.replicate n 0):=by
 unfold Own
 have h:=World.ownsRow_lit (base:=w.heap.size) (e:=104) (size:=1) w (madeCells #[Value.int .u64 0] (n*1)) n (Nat.le_refl _) hn (by rw[size_madeCells])
 have e: (madeCells #[Value.int .u64 0] (n*1)).toList=(List.replicate n 0).map fun d:Nat=>Value.int .u64 (d:Nat):=by
  apply List.ext_getElem
  ·simp[madeCells]
  ·intro k h1 h2
   simp[madeCells,Nat.mod_one]
 rw[e] at h
 simpa using h
def MRel (w:World)(x y n g cap i:Nat)(wr:World):Prop:=
 ∃o:List Nat,o.length=n∧Own wr w.heap.size g cap o∧Below w.heap.size w wr∧Dig o∧val o=val ((digs x).take i)*y∧∀j,i+(digs y).length≤j→dg o j=0
def MIn (w:World)(x y n g cap i k c:Nat)(wr:World):Prop:=
 ∃o:List Nat,o.length=n∧Own wr w.heap.size g cap o∧Below w.heap.size w wr∧Dig o∧val o+1000000000 ^ (i+k)*c=val ((digs x).take i)*y+1000000000 ^ i*(dg (digs x) i*val ((digs y).take k))∧
  (∀j,i+(digs y).length≤j→i+k≤j→dg o j=0)∧c<1000000000∧(k≤(digs y).length∨k=(digs y).length+1∧c=0)
theorem Ea (a b:Value)(x y:Nat)(w:World)(ha:IsN w a x)(hb:IsN w b y)(h:digs x=[]∨digs y=[]):
  Calls Tryz.prog 177 #[a,b] w fun e w'=>∃sv,e= .returned sv∧IsN w' sv (x*y)∧Below w.heap.size w w':=by
 obtain⟨ao,acap,rfl,⟨a1,-⟩,a2,a3⟩:=ha
 obtain⟨bo,bcap,rfl,⟨b1,-⟩,b2,b3⟩:=hb
 have hz:=Lib.hid (show IsN w (.slice none 0 0) (x*y) from by
  have h0:x*y=0:=by
   rcases h with h|h
   ·have:=congrArg val h
    rw[aA] at this
    rw[show x=0 from this,Nat.zero_mul]
   ·have:=congrArg val h
    rw[aA] at this
    rw[show y=0 from this,Nat.mul_zero]
  rw[h0]
  unfold IsN
  rw[aX]
  exact⟨none,0,rfl,⟨Nat.le_refl _,fun _=>rfl⟩,Nat.zero_le _,Or.inl rfl⟩)
 rcases h with h|h
 ·have hl: (digs x).length=0:=by rw[h];rfl
  rw[hl]
  go_enter Tryz.func177,Tryz.ntmps177
  go_wp2
  go_ret
  exact⟨_,rfl,hz.out,Below.refl _ _⟩
 ·have hl: (digs y).length=0:=by rw[h];rfl
  rw[hl]
  generalize (digs x).length=na at *
  by_cases h0:na=0
  ·subst h0
   go_enter Tryz.func177,Tryz.ntmps177
   go_wp2
   go_ret
   exact⟨_,rfl,hz.out,Below.refl _ _⟩
  ·have h1: ((na:Int)==0)=false:=by simp;omega
   go_enter Tryz.func177,Tryz.ntmps177
   go_wp2
   go_ret
   exact⟨_,rfl,hz.out,Below.refl _ _⟩
theorem MIn.row {w wi:World}{x y n g cap i k:Nat}(h:MIn w x y n g cap i k 0 wi)(hk: (digs y).length≤k):MRel w x y n g cap (i+1) wi:=by
 obtain⟨o,hl,hO,hB,hD,hv,hz,_,hj⟩:=h
 refine⟨o,hl,hO,hB,hD,?_,fun j h=>hz j (by omega) (by omega)⟩
 rw[List.take_of_length_le hk,aA] at hv
 rw[aQ,Nat.add_mul,Nat.mul_assoc]
 omega
theorem MIn.next {w wi wj:World}{x y n g cap i k c:Nat}{o:List Nat}(hl:o.length=n)(hO:Own wi w.heap.size g cap o)(hB:Below w.heap.size w wj)(hD:Dig o)
  (hv:val o+1000000000 ^ (i+k)*c=val ((digs x).take i)*y+1000000000 ^ i*(dg (digs x) i*val ((digs y).take k))) (hz:∀j,i+(digs y).length≤j→i+k≤j→dg o j=0) (hc:c<1000000000)
  (hj:k≤(digs y).length) (u:Int) (hw:wj=wi.setCell ⟨g,i+k,none⟩ (.int .u64 u)) (hu:u=((dg o (i+k)+c+dg (digs x) i*dg (digs y) k)%1000000000:Nat)) (hgo:i+k<n):
  MIn w x y n g cap i (k+1) ((dg o (i+k)+c+dg (digs x) i*dg (digs y) k)/1000000000) wj:=by
 have d1:=bS hD (i+k)
 have d2:=bS (aB x).1 i
 have d3:=bS (aB y).1 k
 have hp:dg (digs x) i*dg (digs y) k≤999999999*999999999:=Nat.mul_le_mul (by omega) (by omega)
 refine⟨o.set (i+k) ((dg o (i+k)+c+dg (digs x) i*dg (digs y) k)%1000000000),by simp[hl],by rw[hw];exact hO.store _ _ _ hu,hB,hD.set (Nat.mod_lt _ (by omega)),Vv (by omega) hv,fun j h1 h2=> ?_,by omega,?_⟩
 ·rw[cO (by omega)]
  exact hz j h1 (by omega)
 ·by_cases hk:k<(digs y).length
  ·exact Or.inl (by omega)
  ·have h0:dg o (i+k)=0:=hz _ (by omega) (by omega)
   have h1:dg (digs y) k=0:=iV (by omega)
   refine Or.inr ⟨by omega,?_⟩
   rw[h0,h1,Nat.mul_zero]
   omega
theorem Td (a b:Value)(x y:Nat)(w:World)(ha:IsN w a x)(hb:IsN w b y)(hx: (digs x).length≤100000)(hy: (digs y).length≤100000)(hx0:digs x≠[])(hy0:digs y≠[]):
  Calls Tryz.prog 177 #[a,b] w fun e w'=>∃sv,e= .returned sv∧IsN w' sv (x*y)∧Below w.heap.size w w':=by
 obtain⟨i0,hi0,hz0,hz1,hz2⟩:=info_parts jP
 obtain⟨ao,acap,rfl,⟨a1,-⟩,a2,a3⟩:=ha
 obtain⟨bo,bcap,rfl,⟨b1,-⟩,b2,b3⟩:=hb
 obtain⟨ga,rfl,ca⟩:=a3.resolve_left hx0
 obtain⟨gb,rfl,cb⟩:=b3.resolve_left hy0
 unfold maxLen at a2 b2
 have hna0:0<(digs x).length:=List.length_pos_iff.2 hx0
 have hnb0:0<(digs y).length:=List.length_pos_iff.2 hy0
 generalize hN: (digs x).length=na at *
 generalize hM: (digs y).length=nb at *
 have HN:=Lib.hid hN
 have HM:=Lib.hid hM
 have HCA:=Lib.hid ca
 have HCB:=Lib.hid cb
 obtain⟨W1,hmk,HO1,HB1⟩:∃W1,(Instr.makeSlice 79 (.int .i64 ((na:Int)+nb)) (.int .i64 ((na:Int)+nb))).run Tryz.prog w= .ok (.slice (some ⟨w.heap.size,0,none⟩) (na+nb) (na+nb)) W1∧
   Hid (Own W1 w.heap.size w.heap.size (na+nb) (List.replicate (na+nb) 0))∧Hid (Below w.heap.size w W1):=by
  refine⟨_,?_,Gq w (na+nb) (by unfold maxLen;omega),(Below.refl _ _).alloc (Nat.le_refl _) _⟩
  have h:=run_make (P:=Tryz.prog) w 79 104 i0 (.int .u64 0) Tryz.underlying79 hi0 hz0 .i64 .i64 ((na:Int)+nb) ((na:Int)+nb) (by omega) (by omega) (by rw[hz2];omega) (by omega)
  rw[show((na:Int)+nb).toNat=na+nb by omega,hz1] at h
  exact h
 have p1: ((na:Int)==0)=false:=by simp;omega
 have p2: ((nb:Int)==0)=false:=by simp;omega
 clear hN hM ca cb hx0 hy0 a3 b3 hi0 hz0 hz1 hz2
 go_enter Tryz.func177,Tryz.ntmps177
 go_wp2
 go_loopw [6] (fun iv wr=>∃i:Nat,i≤na∧iv= .int .i64 i∧MRel w x y (na+nb) w.heap.size (na+nb) i wr) (fun iv _=>na - (intOf iv).toNat)
 case atStart=>exact⟨0,Nat.zero_le _,rfl,_,by simp,HO1.out,HB1.out,fQ _,by rw[fU];simp[val],fun j _=>jR _ _⟩
 case round=>
  obtain⟨i,hi,rfl,hrel⟩:=hrel
  have HR:=Lib.hid hrel
  clear hrel hmk
  by_cases hlt:i<na
  ·obtain⟨wo,rfl⟩:∃wo:World,wo=wr:=⟨_,rfl⟩
   go_wp2
   go_loopw [7,8] (fun cv kv wi=>∃k c:Nat,kv= .int .i64 k∧cv= .int .u64 c∧MIn w x y (na+nb) w.heap.size (na+nb) i k c wi) (fun _ kv _=>nb+2 - (intOf kv).toNat)
   case atStart=>
    obtain⟨o,hl,hO,hB,hD,hv,hz⟩:=HR.out
    exact⟨0,0,rfl,rfl,o,hl,hO,hB,hD,by rw[hv];simp[val],fun j h _=>hz j h,by omega,Or.inl (Nat.zero_le _)⟩
   case round=>
    obtain⟨k,c,rfl,rfl,hin⟩:=hrel
    have HI:=Lib.hid hin
    obtain⟨o,hl,hO,hB,hD,hv,hz,hc,hj⟩:=hin
    have hk2:k≤nb+1:=by have:=HM.out;omega
    have HO:=Lib.hid hO
    have HBl:=Lib.hid hB
    have HD:=Lib.hid hD
    have HV:=Lib.hid hv
    have HZ:=Lib.hid hz
    have HJ:=Lib.hid hj
    have HLo:=Lib.hid hl
    clear hO hB hD hv hz hj
    by_cases hkb:k<nb
    ·have c1:=HO.out.cell (i+k) (by rw[HLo.out];omega)
     have f1:=HO.out.frozen (i+k)
     have c2:=(HBl.out.cell (p:=⟨ga,i,none⟩) (aO (HCA.out i hlt))).trans (HCA.out i hlt)
     have c3:=(HBl.out.cell (p:=⟨gb,k,none⟩) (aO (HCB.out k hkb))).trans (HCB.out k hkb)
     have b1':=bS HD.out (i+k)
     have b2':=bS (aB x).1 i
     have b3':=bS (aB y).1 k
     have bp:dg (digs x) i*dg (digs y) k≤999999999*999999999:=Nat.mul_le_mul (by omega) (by omega)
     generalize hd1:dg o (i+k)=d1 at c1 b1'
     generalize hd2:dg (digs x) i=d2 at c2 b2' bp
     generalize hd3:dg (digs y) k=d3 at c3 b3' bp
     have HD1:=Lib.hid hd1
     have HD2:=Lib.hid hd2
     have HD3:=Lib.hid hd3
     have bq: (d2:Int)*(d3:Int)≤999999998000000001:=by rw[←Int.natCast_mul];omega
     have bq0:0≤(d2:Int)*(d3:Int):=Int.mul_nonneg (by omega) (by omega)
     clear hd1 hd2 hd3 bp hl
     go_wp2
     go_quiet (fail)
     go_wp2
     go_roundw
     case rel=>
      refine⟨k+1,(dg o (i+k)+c+dg (digs x) i*dg (digs y) k)/1000000000,by go_num,?_,MIn.next (wi:=wr.drewN _) HLo.out (HO.out.drewN _) ((aU HBl.out _).setCell HO.out.low.1 _) HD.out HV.out HZ.out hc (by rw[HM.out];omega) _ rfl ?_ (by omega)⟩
      ·rw[HD1.out,HD2.out,HD3.out];go_num
      ·rw[HD1.out,HD2.out,HD3.out];go_num
     case measure=>simp[intOf];omega
    ·by_cases hc0:c=0
     ·subst hc0
      have HE:=Lib.hid (MIn.row HI.out (by rw[HM.out];omega))
      go_wp2
      go_roundw
      case rel=>exact⟨i+1,by omega,by go_num,HE.out⟩
      case measure=>simp[intOf];omega
     ·have hk:k=nb:=by
       have h1:=HM.out
       rcases HJ.out with h|⟨_,h⟩<;>omega
      subst hk
      have c1:=HO.out.cell (i+k) (by rw[HLo.out];omega)
      have f1:=HO.out.frozen (i+k)
      have e1:=HZ.out (i+k) (by rw[HM.out];omega) (by omega)
      have e2:=Lib.hid (show dg (digs y) k=0 from iV (by rw[HM.out];omega))
      rw[e1] at c1
      have HE1:=Lib.hid e1
      have c0:0<c:=by omega
      clear e1 hl hc0
      go_wp2
      go_roundw
      case rel=>
       refine⟨k+1,(dg o (i+k)+c+dg (digs x) i*dg (digs y) k)/1000000000,by go_num,?_,MIn.next HLo.out HO.out (HBl.out.setCell HO.out.low.1 _) HD.out HV.out HZ.out hc (by rw[HM.out];omega) _ rfl ?_ (by omega)⟩
       ·rw[HE1.out,e2.out,Nat.mul_zero,Nat.zero_add,Nat.add_zero];go_num
       ·rw[HE1.out,e2.out,Nat.mul_zero,Nat.zero_add,Nat.add_zero];go_num
      case measure=>simp[intOf]<;>omega
  ·obtain⟨o,hl,hO,hB,hD,hv,hz⟩:=HR.out
   have hi':i=na:=by omega
   subst hi'
   have HT:=Lib.hid (oW _ o wr hO.reads hD)
   rw[hl] at HT
   have HV:=Lib.hid hv
   have HBl:=Lib.hid hB
   clear hO hB hD hv hz hl
   go_wp2_with (go_at_call 174;refine(HT.out).mono ?_;rintro e' w' ⟨sv',l',rfl,hr,hn,hval,rfl⟩;have HRd:=Lib.hid hr;have HNr:=Lib.hid hn;have HVl:=Lib.hid hval;clear hr hn hval)
   go_ret
   refine⟨_,rfl,?_,HBl.out⟩
   have h1:val l'=x*y:=by
    rw[HVl.out,HV.out,List.take_of_length_le (by rw[HN.out];omega),aA]
   rw[←h1]
   exact IsN.of HRd.out HNr.out
theorem iG (a b:Value)(x y:Nat)(w:World)(ha:IsN w a x)(hb:IsN w b y)(hx: (digs x).length≤100000)(hy: (digs y).length≤100000):
  Calls Tryz.prog 177 #[a,b] w fun e w'=>∃sv,e= .returned sv∧IsN w' sv (x*y)∧Below w.heap.size w w':=by
 by_cases hx0:digs x=[]
 ·exact Ea a b x y w ha hb (Or.inl hx0)
 ·by_cases hy0:digs y=[]
  ·exact Ea a b x y w ha hb (Or.inr hy0)
  ·exact Td a b x y w ha hb hx hy hx0 hy0
end Go.Proofs.YtlhmfgbaefaneaaGreatDoor.ref
namespace Go.Proofs.YtlhmfgbaefaneaaGreatDoor.ref
open Go.RowKit
theorem Own.gK {w:World}{base n:Nat}{v:Value}{l:List Nat}(h:w.ownsRow base 104 1 v n (l.map fun d=>Value.int .u64 (d:Nat)))(hn:l.length=n)(h0:0<n):∃g cap,v= .slice (some ⟨g,0,none⟩) n cap∧Own w base g cap l:=by
 rcases h.2 with ⟨_,hz⟩|⟨g,cap,cur,rfl,_⟩
 ·omega
 ·refine⟨g,cap,rfl,?_⟩
  unfold Own
  rw[hn]
  exact h
theorem Tv (a b:Value)(w:World)(ha:IsN w a 0)(hb:IsN w b 0):
  Calls Tryz.prog 176 #[a,b] w fun e w'=>∃sv,e= .returned sv∧IsN w' sv 0∧Below w.heap.size w w':=by
 obtain⟨i0,hi0,hz0,hz1,hz2⟩:=info_parts jP
 obtain⟨ao,acap,rfl,⟨a1,a4⟩,a2,-⟩:=ha
 obtain⟨bo,bcap,rfl,⟨b1,-⟩,b2,-⟩:=hb
 unfold maxLen at a2 b2
 have h0: (digs 0).length=0:=by rw[aX];rfl
 rw[h0] at *
 have hend:∀(w':World)(sv':Value)(l':List Nat),Reads w' sv' l'→Norm l'→val l'=val []→IsN w' sv' 0:=fun w' sv' l' h1 h2 h3=>by
  have:=IsN.of h1 h2
  rwa [h3] at this
 have HE:=Lib.hid hend
 have A4:=Lib.hid a4
 clear a4 hend h0 a1 b1
 rcases ao with _|ad
 ·obtain rfl:=A4.out rfl
  have HT:=Lib.hid (fun w:World=>oW (.slice none 0 0) [] w ⟨none,0,rfl,⟨Nat.le_refl _,fun _=>rfl⟩,Nat.zero_le _,Or.inl rfl⟩ Dig.nil)
  go_enter Tryz.func176,Tryz.ntmps176
  go_wp2_with (first|(at_builtin;refine wpList_append_own_none _ rfl _ _ 79 rfl w.heap.size 104 i0 1 Tryz.underlying79 hi0 (.slice none 0 0) 0 [] rfl (World.ownsRow_nil _ _ _ _) rfl ?_))
  refine wp_loop_rounds 1 ?_
  rw[rounds_succ]
  go_wp2_with (go_at_call 174;refine(HT.out _).mono ?_;rintro e' w' ⟨sv',l',rfl,hr,hn,hval,rfl⟩;have HRd:=Lib.hid hr;have HNr:=Lib.hid hn;have HVl:=Lib.hid hval;clear hr hn hval)
  go_ret
  exact⟨_,rfl,HE.out _ _ _ HRd.out HNr.out HVl.out,Below.refl _ _⟩
 ·go_enter Tryz.func176,Tryz.ntmps176
  go_wp2_with (at_builtin;refine wpList_append_own _ rfl _ _ 79 rfl w.heap.size 104 i0 (.int .u64 0) 1 8 Tryz.underlying79 hi0 hz0 hz1 hz2 rfl (by decide) (.slice none 0 0) 0 [] rfl (World.ownsRow_nil _ _ _ _) ad 0 acap [] rfl rfl ?c1 ?c2 ?c3 ?c4 ?c5 ?_)
  case c1=>intro j u hj;simp at hj
  case c2=>intro u hu;simp at hu
  case c3=>unfold maxLen;omega
  case c4=>omega
  case c5=>exact Nat.le_refl _
  intro v' w3 hown3 hg3 hiff
  subst hiff
  have HT:=Lib.hid (fun w:World=>oW (.slice none 0 0) [] w ⟨none,0,rfl,⟨Nat.le_refl _,fun _=>rfl⟩,Nat.zero_le _,Or.inl rfl⟩ Dig.nil)
  have HB:=Lib.hid (show Below w.heap.size w w3 from(Below.refl _ _).grown hg3 (Nat.le_refl _) (fun k hk=>by simp[Value.ownBlock] at hk))
  clear hown3 hg3
  go_wp2
  refine wp_loop_rounds 1 ?_
  rw[rounds_succ]
  go_wp2_with (go_at_call 174;refine(HT.out _).mono ?_;rintro e' w' ⟨sv',l',rfl,hr,hn,hval,rfl⟩;have HRd:=Lib.hid hr;have HNr:=Lib.hid hn;have HVl:=Lib.hid hval;clear hr hn hval)
  go_ret
  exact⟨_,rfl,HE.out _ _ _ HRd.out HNr.out HVl.out,HB.out⟩
def SRel (w:World)(x y n g cap i:Nat)(wr:World):Prop:=
 ∃o:List Nat,o.length=n∧Own wr w.heap.size g cap o∧Below w.heap.size w wr∧Dig o∧val o+val ((digs y).take i)=x
def SIn (w:World)(n g cap:Nat)(V D k:Nat)(wr:World):Prop:=
 ∃o:List Nat,o.length=n∧Own wr w.heap.size g cap o∧Below w.heap.size w wr∧Dig o∧val o+D=V+1000000000 ^ k
theorem Tt (a b:Value)(x y:Nat)(w:World)(ha:IsN w a x)(hb:IsN w b y)(hle:y≤x)(hx: (digs x).length≤100000)(hx0:digs x≠[]):
  Calls Tryz.prog 176 #[a,b] w fun e w'=>∃sv,e= .returned sv∧IsN w' sv (x - y)∧Below w.heap.size w w':=by
 obtain⟨i0,hi0,hz0,hz1,hz2⟩:=info_parts jP
 obtain⟨ao,acap,rfl,⟨a1,-⟩,a2,a3⟩:=ha
 obtain⟨bo,bcap,rfl,⟨b1,-⟩,b2,b3⟩:=hb
 obtain⟨ga,rfl,ca⟩:=a3.resolve_left hx0
 unfold maxLen at a2 b2
 have hna0:0<(digs x).length:=List.length_pos_iff.2 hx0
 have hnb: (digs y).length≤(digs x).length:=by
  by_cases h: (digs x).length<(digs y).length
  ·have:=jS h
   omega
  ·omega
 generalize hN: (digs x).length=na at *
 generalize hM: (digs y).length=nb at *
 have HN:=Lib.hid hN
 have HM:=Lib.hid hM
 have HCA:=Lib.hid ca
 have HLe:=Lib.hid hle
 clear hN hM ca hx0 hle
 go_enter Tryz.func176,Tryz.ntmps176
 go_wp2_with (at_builtin;refine wpList_append_own _ rfl _ _ 79 rfl w.heap.size 104 i0 (.int .u64 0) 1 8 Tryz.underlying79 hi0 hz0 hz1 hz2 rfl (by decide) (.slice none 0 0) 0 [] rfl (World.ownsRow_nil _ _ _ _) ⟨ga,0,none⟩ na acap ((digs x).map fun d=>Value.int .u64 (d:Nat)) rfl ?c0 ?c1 ?c2 ?c3 ?c4 ?c5 ?_)
 case c0=>rw[List.length_map,HN.out,Nat.mul_one]
 case c1=>
  intro j u hj
  have hjn:j<na:=by
   rw[List.getElem?_map] at hj
   have:=(List.getElem?_eq_some_iff.1 (Option.map_eq_some_iff.1 hj).choose_spec.1).choose
   rw[HN.out] at this
   exact this
  rw[oF (by rw[HN.out];exact hjn)] at hj
  have:=HCA.out j hjn
  simp only[Option.some.injEq] at hj
  subst hj
  have h2: (⟨ga,0,none⟩:Addr).add j=⟨ga,j,none⟩:=by unfold Addr.add;split<;>simp_all
  rw[h2]
  exact this
 case c2=>
  intro u hu
  obtain⟨d,_,rfl⟩:=List.mem_map.1 hu
  rfl
 case c3=>unfold maxLen;omega
 case c4=>omega
 case c5=>exact Nat.le_refl _
 intro v' w3 hown3 hg3 _
 obtain⟨g,cap,rfl,hO⟩:=Own.gK (n:=na) (l:=digs x) (by simpa using hown3) HN.out hna0
 have hB:Below w.heap.size w w3:=(Below.refl _ _).grown hg3 (Nat.le_refl _) (fun k hk=>by simp[Value.ownBlock] at hk)
 have HO:=Lib.hid hO
 have HB:=Lib.hid hB
 clear hown3 hg3 hO hB
 go_wp2
 go_loopw [6] (fun iv wr=>∃i:Nat,i≤nb∧iv= .int .i64 i∧SRel w x y na g cap i wr) (fun iv _=>nb - (intOf iv).toNat)
 case atStart=>exact⟨0,Nat.zero_le _,rfl,digs x,HN.out,HO.out,HB.out,(aB x).1,by simp[val,aA]⟩
 case round=>
  obtain⟨i,hi,rfl,hrel⟩:=hrel
  obtain⟨o,hl,hO,hB,hD,hv⟩:=hrel
  have HOo:=Lib.hid hO
  have HBo:=Lib.hid hB
  have HDo:=Lib.hid hD
  have HVo:=Lib.hid hv
  have HLo:=Lib.hid hl
  clear hO hB hD hv hl
  by_cases hlt:i<nb
  ·have hy0:digs y≠[]:=by
    intro h
    have:=HM.out
    rw[h] at this
    simp at this
    omega
   obtain⟨gb,rfl,cb⟩:=b3.resolve_left hy0
   have c1:=HOo.out.cell i (by rw[HLo.out];omega)
   have f1:=HOo.out.frozen i
   have c2:=(HBo.out.cell (p:=⟨gb,i,none⟩) (aO (cb i hlt))).trans (cb i hlt)
   have b1':=bS HDo.out i
   have b2':=bS (aB y).1 i
   generalize hd1:dg o i=d at c1 b1'
   generalize hd2:dg (digs y) i=e at c2 b2'
   have HD1:=Lib.hid hd1
   have HD2:=Lib.hid hd2
   have hin:i<na:=by omega
   clear hd1 hd2 hy0 cb b3
   by_cases hde:e≤d
   ·go_wp2
    go_quiet (fail)
    go_wp2
    go_region
    go_wp2
    go_roundw
    case rel=>
     refine⟨i+1,by omega,by go_num,o.set i (dg o i - dg (digs y) i),by rw[List.length_set];exact HLo.out,(HOo.out.drewN _).store i _ _ (by rw[HD1.out,HD2.out];go_num),(aU HBo.out _).setCell HOo.out.low.1 _,HDo.out.set (by have:=HD1.out;omega),Ra (by rw[HLo.out];exact hin) HVo.out (by rw[HD1.out,HD2.out];exact hde)⟩
    case measure=>simp[intOf];omega
   ·have hV:=Lib.hid (show 1000000000 ^ i*e≤val o from by
     have h1:=pF (digs y) i (by rw[HM.out];exact hlt)
     rw[aA,Nat.mul_add,HD2.out] at h1
     have h2:=HVo.out
     have h3:=HLe.out
     omega)
    have HS:=Lib.hid (Kw (o:=o) (b:=digs y) (i:=i) (V:=val o) (by rw[HLo.out];exact hin) rfl (by rw[HD2.out];exact b2'))
    rw[HD1.out,HD2.out] at HS
    have hde':d<e:=by omega
    clear hde
    go_wp2
    go_quiet (fail)
    go_wp2
    go_region
    go_wp2
    go_loopw [7] (fun kv wi=>∃k:Nat,kv= .int .i64 k∧SIn w na g cap (val o) (1000000000 ^ i*e) k wi) (fun kv _=>na - (intOf kv).toNat)
    case atStart=>
     exact⟨i+1,by go_num,o.set i (d+(1000000000 - e)),by rw[List.length_set];exact HLo.out,(HOo.out.drewN _).store i _ _ (by go_num),(aU HBo.out _).setCell HOo.out.low.1 _,HDo.out.set (by omega),HS.out⟩
    case round=>
     obtain⟨k,rfl,o2,hl2,hO2,hB2,hD2,hv2⟩:=hrel
     have hk:k<na:=by
      have:=qU hD2 hv2 hV.out
      omega
     have g1:=hO2.cell k (by omega)
     have g2:=hO2.frozen k
     have g3:=bS hD2 k
     have HO2:=Lib.hid hO2
     have HB2:=Lib.hid hB2
     have HD22:=Lib.hid hD2
     have HV2:=Lib.hid hv2
     have HL2:=Lib.hid hl2
     generalize hq:dg o2 k=q at g1 g3
     have HQ:=Lib.hid hq
     clear hO2 hB2 hD2 hv2 hl2 hq
     by_cases h0:q=0
     ·subst h0
      go_wp2
      go_roundw
      case rel=>exact⟨k+1,by go_num,o2.set k 999999999,by rw[List.length_set];exact HL2.out,HO2.out.store k _ _ (by go_num),HB2.out.setCell HO2.out.low.1 _,HD22.out.set (by omega),Ky (by rw[HL2.out];exact hk) HV2.out HQ.out⟩
      case measure=>simp[intOf];omega
     ·have hb: ((q:Int)==0)=false:=by simp;omega
      go_wp2
      go_roundw
      case rel=>
       refine⟨i+1,by omega,by go_num,o2.set k (dg o2 k - 1),by rw[List.length_set];exact HL2.out,HO2.out.store k _ _ (by rw[HQ.out];go_num),HB2.out.setCell HO2.out.low.1 _,HD22.out.set (by have:=HQ.out;omega),?_⟩
       have h1:=Xn (by rw[HL2.out];exact hk) HV2.out (by rw[HQ.out];exact h0)
       rw[aQ,HD2.out]
       have h2:=HVo.out
       omega
      case measure=>simp[intOf];omega
  ·have hi':i=nb:=by omega
   subst hi'
   have HT:=Lib.hid (oW _ o wr HOo.out.reads HDo.out)
   rw[HLo.out] at HT
   go_wp2_with (go_at_call 174;refine(HT.out).mono ?_;rintro e' w' ⟨sv',l',rfl,hr,hn,hval,rfl⟩;have HRd:=Lib.hid hr;have HNr:=Lib.hid hn;have HVl:=Lib.hid hval;clear hr hn hval)
   go_ret
   refine⟨_,rfl,?_,HBo.out⟩
   have h1:val l'=x - y:=by
    have h2:=HVo.out
    rw[List.take_of_length_le (by rw[HM.out];omega),aA] at h2
    have h3:=HVl.out
    omega
   rw[←h1]
   exact IsN.of HRd.out HNr.out
theorem Mg (a b:Value)(x y:Nat)(w:World)(ha:IsN w a x)(hb:IsN w b y)(hle:y≤x)(hx: (digs x).length≤100000):
  Calls Tryz.prog 176 #[a,b] w fun e w'=>∃sv,e= .returned sv∧IsN w' sv (x - y)∧Below w.heap.size w w':=by
 by_cases hx0:digs x=[]
 ·have h0:x=0:=by have:=congrArg val hx0;rwa [aA] at this
  subst h0
  obtain rfl:y=0:=by omega
  exact Tv a b w ha hb
 ·exact Tt a b x y w ha hb hle hx hx0
end Go.Proofs.YtlhmfgbaefaneaaGreatDoor.ref
namespace Go.Proofs.YtlhmfgbaefaneaaGreatDoor.ref
open Go.RowKit
theorem Aj {x y:Nat}(h:x≤y): (digs x).length≤(digs y).length:=by
 by_cases h1: (digs y).length<(digs x).length
 ·have:=jS h1
  omega
 ·omega
theorem eD {x n:Nat}(h:x<1000000000 ^ n): (digs x).length≤n:=by
 by_cases h0:digs x=[]
 ·rw[h0];exact Nat.zero_le _
 ·have h1:=(aB x).low h0
  rw[aA] at h1
  by_cases h2: (digs x).length≤n
  ·exact h2
  ·have:1000000000 ^ n≤1000000000 ^ ((digs x).length - 1):=Nat.pow_le_pow_right (by omega) (by omega)
   omega
theorem eU {x:Nat}(h:x≤1000000000): (digs x).length≤2:=eD (by omega)
theorem Bv {x y:Nat} :cmpN x y≤0↔x≤y:=by
 unfold cmpN
 split
 ·constructor<;>intro<;>omega
 ·split<;>constructor<;>intro<;>omega
theorem qZ (z:Int)(x:Nat)(hz:z=x)(hx:x≤18446744073709551615)(w:World):
  Calls Tryz.prog 108 #[.int .u64 z] w fun e w'=>∃sv,e= .returned sv∧IsN w' sv x∧Below w.heap.size w w':=by
 subst hz
 exact Mc x hx w
theorem guess {x y:Nat}(hl: (digs x).length=(digs y).length)(k:Nat)(hk:k+1=(digs y).length):x/y<dg (digs x) k/dg (digs y) k+1:=by
 have hx1:=pF (digs x) k (by omega)
 have hy1:=pF (digs y) k (by omega)
 rw[aA,List.drop_eq_nil_of_le (by omega)] at hx1
 rw[aA,List.drop_eq_nil_of_le (by omega)] at hy1
 simp only[val,Nat.mul_zero,Nat.add_zero] at hx1 hy1
 have hxl:=dR ((aB x).1.take k)
 rw[List.length_take,Nat.min_eq_left (by omega)] at hxl
 have ht:=jT (aB y) (by omega)
 rw[show(digs y).length - 1=k by omega] at ht
 have hq:x/y*y≤x:=Nat.div_mul_le_self x y
 have h1:x/y*(1000000000 ^ k*dg (digs y) k)≤x/y*y:=Nat.mul_le_mul_left _ (by omega)
 have h2:1000000000 ^ k*(x/y*dg (digs y) k)<1000000000 ^ k*(dg (digs x) k+1):=by
  rw[Nat.mul_left_comm,Nat.mul_add,Nat.mul_one]
  omega
 have h3:x/y*dg (digs y) k<dg (digs x) k+1:=Nat.lt_of_mul_lt_mul_left h2
 exact Nat.lt_succ_of_le ((Nat.le_div_iff_mul_le (Nat.pos_of_ne_zero ht)).2 (by omega))
def Ma (w:World)(x y:Nat)(lv hv:Value)(wr:World):Prop:=
 ∃lo hi:Nat,lv= .int .u64 lo∧hv= .int .u64 hi∧hi≤1000000000∧lo≤x/y∧x/y<hi∧Below w.heap.size w wr
theorem Vu (a b:Value)(x y:Nat)(w:World)(ha:IsN w a x)(hb:IsN w b y)(hy: (digs y).length≤100000)(hy0:digs y≠[])(hq:x/y<1000000000):
  Calls Tryz.prog 175 #[a,b] w fun e w'=>e= .returned (.int .u64 (x/y:Nat))∧Below w.heap.size w w':=by
 have HA:=Lib.hid ha
 have HB:=Lib.hid hb
 have HY:=Lib.hid hy
 have HQ:=Lib.hid hq
 have hypos:0<y:=by
  by_cases h:y=0
  ·subst h;exact absurd aX hy0
  ·omega
 obtain⟨ao,acap,rfl,⟨a1,-⟩,a2,a3⟩:=ha
 obtain⟨bo,bcap,rfl,⟨b1,-⟩,b2,b3⟩:=hb
 unfold maxLen at a2 b2
 obtain⟨gb,rfl,cb⟩:=b3.resolve_left hy0
 have hnb0:0<(digs y).length:=List.length_pos_iff.2 hy0
 have HGu:=Lib.hid (guess (x:=x) (y:=y))
 have HY0:=Lib.hid hy0
 clear hy hq hy0 b3
 generalize hN: (digs x).length=na at *
 generalize hM: (digs y).length=nb at *
 have HN:=Lib.hid hN
 have HM:=Lib.hid hM
 have HCB:=Lib.hid cb
 clear hN hM cb
 -- the loop,whatever the first guess
 by_cases hlt:na<nb
 ·have hr:=Lib.hid (show x/y=0 from Nat.div_eq_of_lt (jS (by rw[HN.out,HM.out];exact hlt)))
  go_enter Tryz.func175,Tryz.ntmps175
  go_wp2
  go_ret
  exact⟨by rw[hr.out];rfl,Below.refl _ _⟩
 ·by_cases heq:na=nb
  ·subst heq
   have hx0:digs x≠[]:=by intro h;have:=HN.out;rw[h] at this;simp at this;omega
   obtain⟨ga,rfl,ca⟩:=a3.resolve_left hx0
   have c1:=ca (na - 1) (by omega)
   have c2:=HCB.out (na - 1) (by omega)
   have d1:=bS (aB x).1 (na - 1)
   have d2:=bS (aB y).1 (na - 1)
   have d3:dg (digs y) (na - 1)≠0:=by
    have:=jT (aB y) (by rw[HM.out];exact hnb0)
    rwa [HM.out] at this
   have HG2:=Lib.hid (HGu.out rfl (na - 1) (by omega))
   generalize dg (digs x) (na - 1)=d at *
   generalize dg (digs y) (na - 1)=e at *
   have hdi: (d:Int)/(e:Int)≤999999999:=by rw[←Int.natCast_ediv];have:=Nat.div_le_self d e;omega
   have hdi0:0≤(d:Int)/(e:Int):=Int.ediv_nonneg (by omega) (by omega)
   have hdn:=Lib.hid (show d/e≤999999999 from by have:=Nat.div_le_self d e;omega)
   go_enter Tryz.func175,Tryz.ntmps175
   go_wp2
   go_quiet (fail)
   go_wp2
   go_loopw [5,6] (fun lv hv wr=>Ma w x y lv hv wr) (fun lv hv _=>(intOf hv).toNat - (intOf lv).toNat)
   case atStart=>exact⟨0,d/e+1,rfl,by go_num,by have:=hdn.out;omega,Nat.zero_le _,HG2.out,aU (Below.refl _ _) _⟩
   case round=>
    obtain⟨lo,hi,rfl,rfl,h1,h2,h3,hbel⟩:=hrel
    have hlh:lo<hi:=by omega
    have H2:=Lib.hid h2
    have H3:=Lib.hid h3
    have HBl:=Lib.hid hbel
    clear h2 h3 hbel
    by_cases hd:1<hi - lo
    ·have HOf:=Lib.hid (qZ (((lo:Int)+hi)/2) ((lo+hi)/2) (by omega) (by omega) wr)
     have hmid: (lo+hi)/2≤1000000000:=by omega
     go_wp2_with (go_at_call 108;refine(HOf.out).mono ?_;rintro e' w1 ⟨sv,rfl,hs,hb1⟩;have HS:=Lib.hid hs;have HB1:=Lib.hid hb1;clear hs hb1 HOf)
     have HMu:=Lib.hid (iG _ sv y ((lo+hi)/2) w1 (HB.out.below (HBl.out.trans (HB1.out.mono HBl.out.size))) HS.out (by rw[HM.out];exact HY.out) (by have:=eU hmid;omega))
     go_wp2_with (go_at_call 177;refine(HMu.out).mono ?_;rintro e' w2 ⟨pv,rfl,hp,hb2⟩;have HP:=Lib.hid hp;have HB2:=Lib.hid hb2;clear hp hb2 HMu)
     have HBa:=Lib.hid (HBl.out.trans ((HB1.out.trans (HB2.out.mono HB1.out.size)).mono HBl.out.size))
     have HCm:=Lib.hid (gT pv _ (y*((lo+hi)/2)) x w2 HP.out (HA.out.below HBa.out))
     by_cases hm:y*((lo+hi)/2)≤x
     ·have hc:=Bv.2 hm
      have HL:=Lib.hid (show(lo+hi)/2≤x/y from(Nat.le_div_iff_mul_le hypos).2 (by rw[Nat.mul_comm];exact hm))
      generalize cmpN (y*((lo+hi)/2)) x=cc at *
      clear hm
      go_wp2_with (go_at_call 107;refine(HCm.out).mono ?_;rintro e' w3 ⟨rfl,hb3⟩;have HB3:=Lib.hid hb3;clear hb3 HCm)
      go_roundw
      case rel=>exact⟨(lo+hi)/2,hi,by go_num,rfl,h1,HL.out,H3.out,HBa.out.trans (HB3.out.mono HBa.out.size)⟩
      case measure=>simp[intOf];omega
     ·have hc:¬cmpN (y*((lo+hi)/2)) x≤0:=fun h=>hm (Bv.1 h)
      have HL:=Lib.hid (show x/y<(lo+hi)/2 from(Nat.div_lt_iff_lt_mul hypos).2 (by rw[Nat.mul_comm];omega))
      generalize cmpN (y*((lo+hi)/2)) x=cc at *
      clear hm
      go_wp2_with (go_at_call 107;refine(HCm.out).mono ?_;rintro e' w3 ⟨rfl,hb3⟩;have HB3:=Lib.hid hb3;clear hb3 HCm)
      go_roundw
      case rel=>exact⟨lo,(lo+hi)/2,rfl,by go_num,by omega,H2.out,HL.out,HBa.out.trans (HB3.out.mono HBa.out.size)⟩
      case measure=>simp[intOf];omega
    ·have hr:=Lib.hid (show x/y=lo from by have:=H2.out;have:=H3.out;omega)
     go_wp2
     go_ret
     exact⟨by rw[hr.out];rfl,HBl.out⟩
  ·have hb2: ((na:Int)==(nb:Int))=false:=by simp;omega
   clear heq
   go_enter Tryz.func175,Tryz.ntmps175
   go_wp2
   go_loopw [5,6] (fun lv hv wr=>Ma w x y lv hv wr) (fun lv hv _=>(intOf hv).toNat - (intOf lv).toNat)
   case atStart=>exact⟨0,1000000000,rfl,by go_num,Nat.le_refl _,Nat.zero_le _,HQ.out,Below.refl _ _⟩
   case round=>
    obtain⟨lo,hi,rfl,rfl,h1,h2,h3,hbel⟩:=hrel
    have hlh:lo<hi:=by omega
    have H2:=Lib.hid h2
    have H3:=Lib.hid h3
    have HBl:=Lib.hid hbel
    clear h2 h3 hbel
    by_cases hd:1<hi - lo
    ·have HOf:=Lib.hid (qZ (((lo:Int)+hi)/2) ((lo+hi)/2) (by omega) (by omega) wr)
     have hmid: (lo+hi)/2≤1000000000:=by omega
     go_wp2_with (go_at_call 108;refine(HOf.out).mono ?_;rintro e' w1 ⟨sv,rfl,hs,hb1⟩;have HS:=Lib.hid hs;have HB1:=Lib.hid hb1;clear hs hb1 HOf)
     have HMu:=Lib.hid (iG _ sv y ((lo+hi)/2) w1 (HB.out.below (HBl.out.trans (HB1.out.mono HBl.out.size))) HS.out (by rw[HM.out];exact HY.out) (by have:=eU hmid;omega))
     go_wp2_with (go_at_call 177;refine(HMu.out).mono ?_;rintro e' w2 ⟨pv,rfl,hp,hb2⟩;have HP:=Lib.hid hp;have HB2:=Lib.hid hb2;clear hp hb2 HMu)
     have HBa:=Lib.hid (HBl.out.trans ((HB1.out.trans (HB2.out.mono HB1.out.size)).mono HBl.out.size))
     have HCm:=Lib.hid (gT pv _ (y*((lo+hi)/2)) x w2 HP.out (HA.out.below HBa.out))
     by_cases hm:y*((lo+hi)/2)≤x
     ·have hc:=Bv.2 hm
      have HL:=Lib.hid (show(lo+hi)/2≤x/y from(Nat.le_div_iff_mul_le hypos).2 (by rw[Nat.mul_comm];exact hm))
      generalize cmpN (y*((lo+hi)/2)) x=cc at *
      clear hm
      go_wp2_with (go_at_call 107;refine(HCm.out).mono ?_;rintro e' w3 ⟨rfl,hb3⟩;have HB3:=Lib.hid hb3;clear hb3 HCm)
      go_roundw
      case rel=>exact⟨(lo+hi)/2,hi,by go_num,rfl,h1,HL.out,H3.out,HBa.out.trans (HB3.out.mono HBa.out.size)⟩
      case measure=>simp[intOf];omega
     ·have hc:¬cmpN (y*((lo+hi)/2)) x≤0:=fun h=>hm (Bv.1 h)
      have HL:=Lib.hid (show x/y<(lo+hi)/2 from(Nat.div_lt_iff_lt_mul hypos).2 (by rw[Nat.mul_comm];omega))
      generalize cmpN (y*((lo+hi)/2)) x=cc at *
      clear hm
      go_wp2_with (go_at_call 107;refine(HCm.out).mono ?_;rintro e' w3 ⟨rfl,hb3⟩;have HB3:=Lib.hid hb3;clear hb3 HCm)
      go_roundw
      case rel=>exact⟨lo,(lo+hi)/2,rfl,by go_num,by omega,H2.out,HL.out,HBa.out.trans (HB3.out.mono HBa.out.size)⟩
      case measure=>simp[intOf];omega
    ·have hr:=Lib.hid (show x/y=lo from by have:=H2.out;have:=H3.out;omega)
     go_wp2
     go_ret
     exact⟨by rw[hr.out];rfl,HBl.out⟩
end Go.Proofs.YtlhmfgbaefaneaaGreatDoor.ref
