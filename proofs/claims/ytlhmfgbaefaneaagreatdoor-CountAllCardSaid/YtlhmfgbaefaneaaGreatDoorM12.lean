/-
  The steps of the walks, part 12: Sum, Prod1, Short, Kara, DivA.
-/
import Derived.Deep.RegionHeld3
import Derived.Laws.Bits64b
import Derived.Test.YtlhmfgbaefaneaaGreatDoorM11
set_option maxHeartbeats 4000000
set_option maxRecDepth 100000
namespace Go.Proofs.YtlhmfgbaefaneaaGreatDoor.nat
open Go.RowKit
theorem xA {x:List Nat}(h:Dig x)(n:Nat):Dig (x++List.replicate n 0):=h.append (fQ n)
theorem sS (x:List Nat)(n:Nat):val (x++List.replicate n 0)=val x:=by rw[val_append,fU];omega
theorem xN {x:List Nat}{n:Nat}(h:x.length≤n): (x++List.replicate (n - x.length) 0).length=n:=by simp;omega
theorem Row.whole {w:World}{g:Nat}{Z:List Nat}(h:Row w g Z):Row w g ([]++(Z++[])):=by simpa using h
theorem Row.vW {w:World}{g:Nat}{Z:List Nat}(h:Row w g ([]++(Z++[]))):Row w g Z:=by simpa using h
theorem kC {a b:Nat}(h:a≤b):18446744073709551616 ^ a≤18446744073709551616 ^ b:=Nat.pow_le_pow_right (by omega) h
theorem bG {l:List Nat}{n:Nat}(h:Dig l)(hl:l.length≤n):val l<18446744073709551616 ^ n:=Nat.lt_of_lt_of_le (dR h) (kC hl)
theorem bK {x n:Nat}(h:x<18446744073709551616 ^ n): (digs x).length≤n:=by
 by_cases hne:digs x=[]
 ·rw[hne];simp
 ·have h1:=(aB x).low hne
  rw[aA] at h1
  have:18446744073709551616 ^ ((digs x).length - 1)<18446744073709551616 ^ n:=Nat.lt_of_le_of_lt h1 h
  have:=(Nat.pow_lt_pow_iff_right (a:=18446744073709551616) (by omega)).1 this
  omega
theorem gV {l:List Nat}(h:Dig l): (digs (val l)).length≤l.length:=bK (dR h)
theorem Rb {V X Y c S:Nat}(h:V+18446744073709551616 ^ (S+1)*c=X+Y)(hx:X<18446744073709551616 ^ S)(hy:Y<18446744073709551616 ^ S):V=X+Y:=by
 rcases Nat.eq_zero_or_pos c with rfl|hc
 ·rw[Nat.mul_zero] at h
  exact h
 ·have h1:=Nat.le_mul_of_pos_right (18446744073709551616 ^ (S+1)) hc
  have h2:18446744073709551616 ^ (S+1)=18446744073709551616*18446744073709551616 ^ S:=by rw[Nat.pow_succ,Nat.mul_comm]
  have h3:18446744073709551616*18446744073709551616 ^ S≤18446744073709551616 ^ (S+1)*c:=by rw[←h2];exact h1
  clear h1 h2
  generalize 18446744073709551616 ^ (S+1)*c=T at *
  generalize 18446744073709551616 ^ S=P at *
  omega
theorem yI (sx:Value)(x:List Nat)(i:Int)(n:Nat)(w:World)(hi:i=n)(hx:Rd w sx x)(hle:x.length≤n)(hn:n≤8000000):
  Calls Tryz.prog 223 #[sx,.int .i64 i] w fun e w'=>e= .returned (.slice (some ⟨w.heap.size,0,none⟩) n n)∧Row w' w.heap.size (x++List.replicate (n - x.length) 0)∧Below w.heap.size w w':=by
 subst hi
 exact Xc sx x n w hx hle hn
theorem sM (sx sy:Value)(x y:List Nat)(w:World)(hx:Rd w sx x)(hy:Rd w sy y)(hdx:Dig x)(hdy:Dig y)(hn:x.length≤2000000)(hm:y.length≤2000000):
  Calls Tryz.prog 179 #[sx,sy] w fun e w'=>∃sv,e= .returned sv∧Own w' w.heap.size sv (digs (val x+val y))∧Below w.heap.size w w':=by
 have HX:=Lib.hid hx
 have HY:=Lib.hid hy
 have HDX:=Lib.hid hdx
 have HDY:=Lib.hid hdy
 obtain⟨ao,xcap,rfl,⟨h1,-⟩,h2,-⟩:=hx
 obtain⟨bo,ycap,rfl,⟨k1,-⟩,k2,-⟩:=hy
 obtain⟨N,hN⟩:∃N,x.length=N:=⟨_,rfl⟩
 obtain⟨M,hM⟩:∃M,y.length=M:=⟨_,rfl⟩
 obtain⟨S,hS,hS1,hS2⟩:∃S:Nat,max (N:Int) (M:Int)=(S:Int)∧N≤S∧M≤S∧S≤2000000:=⟨max N M,by omega,by omega,by omega,by omega⟩
 obtain⟨hS2,hS3⟩:=hS2
 have HN:=Lib.hid hN
 have HM:=Lib.hid hM
 have HS:=Lib.hid hS
 rw[hN] at h1 hn HX ⊢
 rw[hM] at k1 hm HY ⊢
 clear hdx hdy hN hM hS
 go_enter Tryz.func179,Tryz.ntmps179
 go_wp2_with (go_at_call 223;refine(yI _ x _ (S+1) w (by rw[HS.out];omega) HX.out (by rw[HN.out];omega) (by omega)).mono ?_;rintro e w1 ⟨rfl,hr1,hb1⟩)
 have HB1:=Lib.hid hb1
 have hadd:=nW w.heap.size 0 (S+1) (S+1) (.slice bo M ycap) [] (x++List.replicate (S+1 - x.length) 0) [] y w1 rfl (xN (by rw[HN.out];omega)) hr1.whole (xA HDX.out _) (HY.out.below hb1) (HY.out.apart (Nat.le_refl _)) HDY.out (by rw[HM.out];omega) (by omega) (Nat.le_refl _) (by unfold maxLen;omega)
 have HAD:=Lib.hid hadd
 clear hadd hr1 hb1
 go_wp2_with (go_at_call 211;refine(HAD.out).mono ?_;rintro e w2 ⟨Z',c,rfl,⟨hl,hd,hc,hv,hrow⟩,hgr⟩)
 have hc0:val Z'=val x+val y:=by
  rw[sS] at hv
  exact Rb hv (bG HDX.out (by rw[HN.out];exact hS1)) (bG HDY.out (by rw[HM.out];exact hS2))
 have hO:Own w2 w.heap.size (.slice (some ⟨w.heap.size,0,none⟩) (S+1) (S+1)) Z':=by
  have:=Own.gK (cap:=S+1) hrow.vW (Nat.le_refl _) (by omega) (by unfold maxLen;omega)
  rwa [hl] at this
 have HT:=Lib.hid (dG _ Z' w2 hO (by omega) hd)
 have HB2:=Lib.hid (below_grown HB1.out hgr HB1.out.size (Nat.le_refl _))
 rw[hc0] at HT
 clear hl hd hc hv hrow hgr hO hc0
 go_wp2_with (go_at_call 209;refine(HT.out).mono ?_;rintro e w3 ⟨sv,rfl,hO3,rfl⟩;have HO3:=Lib.hid hO3;clear hO3)
 go_ret
 exact⟨sv,rfl,HO3.out,HB2.out⟩
theorem oQ {B:Nat}(sv sx:Value)(z x:List Nat)(w:World)(hO:Own w B sv z)(hx:Rd w sx x)(hdz:Dig z)(hnx:Norm x)(hl:x.length≤z.length)(hv:val x≤val z)(hn:z.length≤4000000)(hap:∀g,B≤g→Apart g sx):
  Calls Tryz.prog 224 #[sv,sx] w fun e w'=>∃z',e= .returned (.tuple #[])∧(z'.length=z.length∧Dig z'∧val z'+val x=val z∧Own w' B sv z')∧Below B w w':=by
 have hO':=hO
 obtain⟨ao,cap,rfl,⟨h1,h4⟩,h2,h3⟩:=hO'
 rcases h3 with rfl|⟨g,rfl,hB,hrow⟩
 ·obtain rfl:x=[]:=List.eq_nil_of_length_eq_zero (by simpa using hl)
  obtain⟨bo,xcap,rfl,-⟩:=hx
  have HO:=Lib.hid hO
  simp only[List.length_nil]
  clear hO hap h4 hdz hnx hl hv hn
  go_enter Tryz.func224,Tryz.ntmps224
  go_wp2
  go_loopw [4,10] (fun cv iv wr=>iv= .int .i64 0∧cv= .int .u64 0∧w=wr) (fun _ _ _=>0)
  case atStart=>exact⟨rfl,rfl,rfl⟩
  case round=>
   obtain⟨rfl,rfl,rfl⟩:=hrel
   go_wp2
   go_loopw [4,7] (fun cv iv wr=>iv= .int .i64 0∧cv= .int .u64 0∧w=wr) (fun _ _ _=>0)
   case atStart=>exact⟨rfl,rfl,rfl⟩
   case round=>
    obtain⟨rfl,rfl,rfl⟩:=hrel
    go_wp2
    refine bodyPost_end (results_none rfl _ _ _) rfl ?_
    exact⟨[],rfl,⟨rfl,Dig.nil,rfl,HO.out⟩,Below.refl _ _⟩
 ·refine(uZ g 0 z.length cap sx [] z [] x w rfl rfl hrow.whole hdz hx (hap g hB) hnx.1 hl hv hn h1 h2).mono ?_
  rintro e w' ⟨Z',rfl,⟨hl',hd',hv',hr'⟩,hgr⟩
  refine⟨Z',rfl,⟨hl',hd',hv',?_⟩,?_⟩
  ·have:=Own.gK (cap:=cap) hr'.vW hB (by omega) h2
   rwa [hl'] at this
  ·exact⟨hgr.os,hgr.tape,hgr.output,hgr.size,fun k hk=>by
    by_cases hkw:k<w.heap.size
    ·exact hgr.block k hkw (by simp;omega)
    ·have:=hrow.lt
     omega⟩
theorem wZ (sx sy:Value)(x y:List Nat)(w:World)(hx:Rd w sx x)(hy:Rd w sy y)(hdx:Dig x)(hdy:Norm y)(hle:val y≤val x)(hn:x.length≤2000000):
  Calls Tryz.prog 180 #[sx,sy] w fun e w'=>∃sv,e= .returned sv∧Own w' w.heap.size sv (digs (val x - val y))∧Below w.heap.size w w':=by
 have HX:=Lib.hid hx
 have HY:=Lib.hid hy
 have HDX:=Lib.hid hdx
 have HDY:=Lib.hid hdy
 have HLE:=Lib.hid hle
 have hlen:y.length≤x.length:=by
  rw[hdy.fI]
  exact bK (Nat.lt_of_le_of_lt hle (dR hdx))
 have HL:=Lib.hid hlen
 clear hx hy hdx hdy hle hlen
 go_enter Tryz.func180,Tryz.ntmps180
 go_wp2_with (go_at_call 195;refine(gP _ x w HX.out (by omega)).mono ?_;rintro e w1 ⟨sv,rfl,hO,hb1⟩)
 have HO:=Lib.hid hO
 have HB1:=Lib.hid hb1
 have HSF:=Lib.hid (oQ sv sy x y w1 hO (HY.out.below hb1) HDX.out HDY.out HL.out HLE.out (by omega) (fun g hg=>HY.out.apart hg))
 clear hO hb1
 go_wp2_with (go_at_call 224;refine(HSF.out).mono ?_;rintro e w2 ⟨Z',rfl,⟨hl,hd,hv,hO2⟩,hb2⟩)
 have HT:=Lib.hid (dG _ Z' w2 hO2 (by omega) hd)
 have HB2:=Lib.hid (HB1.out.trans hb2)
 rw[show val Z'=val x - val y by omega] at HT
 clear hl hd hv hO2 hb2 HSF
 go_wp2_with (go_at_call 209;refine(HT.out).mono ?_;rintro e w3 ⟨sv',rfl,hO3,rfl⟩;have HO3:=Lib.hid hO3;clear hO3)
 go_ret
 exact⟨sv',rfl,HO3.out,HB2.out⟩
end Go.Proofs.YtlhmfgbaefaneaaGreatDoor.nat
namespace Go.Proofs.YtlhmfgbaefaneaaGreatDoor.nat
open Go.RowKit
theorem oL (x y:Nat)(hx:x<18446744073709551616)(hy:y<18446744073709551616):∃h l:Nat,h<18446744073709551616∧l<18446744073709551616∧l+18446744073709551616*h=x*y∧
  ∀w,Calls Tryz.prog 201 #[.int .u64 (x:Int),.int .u64 (y:Int)] w fun e w'=>e= .returned (.tuple #[.int .u64 (h:Int),.int .u64 (l:Int)])∧w'=w:=
 ⟨x*y/18446744073709551616,x*y%18446744073709551616,Nat.div_lt_of_lt_mul (Nat.mul_lt_mul'' hx hy),Nat.mod_lt _ (by omega),Nat.mod_add_div _ _,fun w=>zX x y hx hy w⟩
theorem DN (z x y a:Nat)(hz:z<18446744073709551616)(hx:x<18446744073709551616)(hy:y<18446744073709551616)(ha:a<18446744073709551616):∃h l s1 k1 s k2:Nat,
  (∀w,Calls Tryz.prog 201 #[.int .u64 (x:Int),.int .u64 (y:Int)] w fun e w'=>e= .returned (.tuple #[.int .u64 (h:Int),.int .u64 (l:Int)])∧w'=w)∧
  (∀w,(callFunc 225 #[.int .u64 (l:Int),.int .u64 (a:Int),.int .u64 0]).run Tryz.prog w= .ok (.value (.tuple #[.int .u64 (s1:Int),.int .u64 (k1:Int)])) w)∧
  (∀w,(callFunc 225 #[.int .u64 (z:Int),.int .u64 (s1:Int),.int .u64 0]).run Tryz.prog w= .ok (.value (.tuple #[.int .u64 (s:Int),.int .u64 (k2:Int)])) w)∧
  s<18446744073709551616∧h+k1<18446744073709551616∧h+k1+k2<18446744073709551616∧s+18446744073709551616*(h+k1+k2)=z+x*y+a:=by
 obtain⟨h,l,b1,b2,e1,r1⟩:=oL x y hx hy
 obtain⟨s1,k1,b3,b4,e2,r2⟩:=fO l a 0 b2 ha (by omega)
 obtain⟨s,k2,b5,b6,e3,r3⟩:=fO z s1 0 hz b3 (by omega)
 have hp:x*y≤18446744073709551615*18446744073709551615:=Nat.mul_le_mul (by omega) (by omega)
 exact⟨h,l,s1,k1,s,k2,r1,r2,r3,b5,by omega,by omega,by omega⟩
theorem DR (z x y a:Nat)(hz:z<18446744073709551616)(hx:x<18446744073709551616)(hy:y<18446744073709551616)(ha:a<18446744073709551616):∃h l s1 k1 s k2:Nat,
  (∀w,Calls Tryz.prog 201 #[.int .u64 (x:Int),.int .u64 (y:Int)] w fun e w'=>e= .returned (.tuple #[.int .u64 (h:Int),.int .u64 (l:Int)])∧w'=w)∧
  (∀w,(callFunc 225 #[.int .u64 (l:Int),.int .u64 (a:Int),.int .u64 0]).run Tryz.prog w= .ok (.value (.tuple #[.int .u64 (s1:Int),.int .u64 (k1:Int)])) w)∧
  (∀w,(callFunc 261 #[.int .u64 (z:Int),.int .u64 (s1:Int),.int .u64 0]).run Tryz.prog w= .ok (.value (.tuple #[.int .u64 (s:Int),.int .u64 (k2:Int)])) w)∧
  s<18446744073709551616∧h+k1<18446744073709551616∧h+k1+k2<18446744073709551616∧s+x*y+a=z+18446744073709551616*(h+k1+k2):=by
 obtain⟨h,l,b1,b2,e1,r1⟩:=oL x y hx hy
 obtain⟨s1,k1,b3,b4,e2,r2⟩:=fO l a 0 b2 ha (by omega)
 obtain⟨s,k2,b5,b6,e3,r3⟩:=sK z s1 0 hz b3 (by omega)
 have hp:x*y≤18446744073709551615*18446744073709551615:=Nat.mul_le_mul (by omega) (by omega)
 exact⟨h,l,s1,k1,s,k2,r1,r2,r3,b5,by omega,by omega,by omega⟩
def MRel (w:World)(g y:Nat)(A Z C x:List Nat)(i a:Nat)(wr:World):Prop:=
 ∃Z',Z'.length=Z.length∧Dig Z'∧a<18446744073709551616∧Row wr g (A++(Z'++C))∧w.grownBy wr (some g)∧val Z'+18446744073709551616 ^ i*a=val Z+val (x.take i)*y∧∀j,i≤j→dg Z' j=dg Z j
theorem MRel.next {w wr:World}{g y off:Nat}{A Z C x Z':List Nat}{i a s k:Nat}(h0:Z'.length=Z.length)(h1:Dig Z')(h3:Row wr g (A++(Z'++C)))(h4:w.grownBy wr (some g))(h5:val Z'+18446744073709551616 ^ i*a=val Z+val (x.take i)*y)(h6:∀j,i≤j→dg Z' j=dg Z j)
  (hA:A.length=off) (hi:i<Z.length) (hs:s<18446744073709551616) (hk:k<18446744073709551616) (he:s+18446744073709551616*k=dg Z' i+dg x i*y+a):MRel w g y A Z C x (i+1) k (wr.setCell ⟨g,off+i,none⟩ (.int .u64 (s:Nat))):=
 ⟨Z'.set i s,by simpa using h0,h1.set hs,hk,h3.zset hA i (by omega) rfl,bF h4 (bZ _ _ _ _),by rw[add_one (by omega) he h5,aQ,Nat.add_mul,Nat.mul_assoc];omega,fun j hj=>by rw[cO (by omega)];exact h6 j (by omega)⟩
theorem nZ (g off n cap y:Nat)(sx:Value)(A Z C x:List Nat)(w:World)(hA:A.length=off)(hZ:Z.length=n)(hr:Row w g (A++(Z++C)))(hdz:Dig Z)(hx:Rd w sx x)(hap:Apart g sx)(hdx:Dig x)(hle:x.length≤n)(hy:y<18446744073709551616)(hn:n≤4000000):
  Calls Tryz.prog 253 #[.slice (some ⟨g,off,none⟩) n cap,sx,.int .u64 (y:Nat)] w fun e w'=>∃Z' a,e= .returned (.int .u64 (a:Nat))∧(Z'.length=n∧Dig Z'∧a<18446744073709551616∧val Z'+18446744073709551616 ^ x.length*a=val Z+val x*y∧(∀j,x.length≤j→dg Z' j=dg Z j)∧Row w' g (A++(Z'++C)))∧w.grownBy w' (some g):=by
 have hx':=hx
 obtain⟨ao,xcap,rfl,⟨h1,h4⟩,h2,h3⟩:=hx'
 obtain⟨m,hm⟩:∃m,x.length=m:=⟨_,rfl⟩
 have HM:=Lib.hid hm
 have HX:=Lib.hid hx
 have HAP:=Lib.hid hap
 have HDX:=Lib.hid hdx
 have HA:=Lib.hid hA
 have HZ:=Lib.hid hZ
 unfold maxLen at h2
 rw[hm] at h1 hle HX HAP ⊢
 have HS:=Lib.hid (show MRel w g y A Z C x 0 0 w from⟨Z,rfl,hdz,by omega,hr,iK _ _,by simp[val],fun _ _=>rfl⟩)
 clear hx hap hdx hA hZ hm hr hdz h3 h4
 go_enter Tryz.func253,Tryz.ntmps253
 go_wp2
 go_loopw [7,15] (fun cv iv wr=>∃i a:Nat,iv= .int .i64 i∧cv= .int .u64 a∧i≤m∧MRel w g y A Z C x i a wr) (fun _ iv _=>m - (intOf iv).toNat)
 case atStart=>exact⟨0,0,rfl,rfl,Nat.zero_le _,HS.out⟩
 case round=>
  obtain⟨i,a,rfl,rfl,him,hrel⟩:=hrel
  obtain⟨Z',hl,hd,ha,hrow,hgr,hv,hup⟩:=hrel
  by_cases hlt:i<m
  ·obtain⟨gx,ox,rfl,hcx⟩:=dN HX.out (by omega)
   have c1:=hrow.vC HA.out i (by rw[hl,HZ.out];omega)
   have f1:=hrow.free (off+i)
   have c2:=(HX.out.kept hgr HAP.out).cellAt i hlt
   obtain⟨h,l,s1,k1,s,k2,r1,r2,r3,hs,b1,b2,he⟩:=DN (dg Z' i) (dg x i) y a (bS hd i) (bS HDX.out i) hy ha
   have HN:=Lib.hid (MRel.next hl hd hrow hgr hv hup HA.out (by rw[HZ.out];omega) hs b2 he)
   have R1:=Lib.hid r1
   generalize dg Z' i=d1 at c1 r3
   generalize dg x i=d2 at c2 r1 R1
   clear he hcx hrow hgr hv hl hd HS r1 hup
   go_wp2_with (go_at_call 201;refine(R1.out _).mono ?_;rintro e w' ⟨rfl,rfl⟩)
   go_roundw
   case rel=>exact⟨i+1,h+k1+k2,by go_num,by go_num,by omega,HN.out⟩
   case measure=>simp[intOf];omega
  ·have:i=m:=by omega
   subst this
   have HV:=Lib.hid hv
   have HU:=Lib.hid hup
   clear hv HS hup
   go_wp2
   go_ret
   refine⟨Z',a,rfl,⟨by rw[hl,HZ.out],hd,ha,?_,HU.out,hrow⟩,hgr⟩
   have:=HV.out
   rw[List.take_of_length_le (by rw[HM.out];omega)] at this
   exact this
def SRel (w:World)(g y:Nat)(A Z C x:List Nat)(i a:Nat)(wr:World):Prop:=
 ∃Z',Z'.length=Z.length∧Dig Z'∧a<18446744073709551616∧Row wr g (A++(Z'++C))∧w.grownBy wr (some g)∧val Z'+val (x.take i)*y=val Z+18446744073709551616 ^ i*a∧∀j,i≤j→dg Z' j=dg Z j
theorem SRel.next {w wr:World}{g y off:Nat}{A Z C x Z':List Nat}{i a s k:Nat}(h0:Z'.length=Z.length)(h1:Dig Z')(h3:Row wr g (A++(Z'++C)))(h4:w.grownBy wr (some g))(h5:val Z'+val (x.take i)*y=val Z+18446744073709551616 ^ i*a)(h6:∀j,i≤j→dg Z' j=dg Z j)
  (hA:A.length=off) (hi:i<Z.length) (hs:s<18446744073709551616) (hk:k<18446744073709551616) (he:s+dg x i*y+a=dg Z' i+18446744073709551616*k):SRel w g y A Z C x (i+1) k (wr.setCell ⟨g,off+i,none⟩ (.int .u64 (s:Nat))):=
 ⟨Z'.set i s,by simpa using h0,h1.set hs,hk,h3.zset hA i (by omega) rfl,bF h4 (bZ _ _ _ _),by rw[aQ,Nat.add_mul,Nat.mul_assoc];exact sub_one (by omega) he h5,fun j hj=>by rw[cO (by omega)];exact h6 j (by omega)⟩
theorem oU (g off n cap y:Nat)(sx:Value)(A Z C x:List Nat)(w:World)(hA:A.length=off)(hZ:Z.length=n)(hr:Row w g (A++(Z++C)))(hdz:Dig Z)(hx:Rd w sx x)(hap:Apart g sx)(hdx:Dig x)(hle:x.length≤n)(hy:y<18446744073709551616)(hn:n≤4000000):
  Calls Tryz.prog 275 #[.slice (some ⟨g,off,none⟩) n cap,sx,.int .u64 (y:Nat)] w fun e w'=>∃Z' a,e= .returned (.int .u64 (a:Nat))∧(Z'.length=n∧Dig Z'∧a<18446744073709551616∧val Z'+val x*y=val Z+18446744073709551616 ^ x.length*a∧(∀j,x.length≤j→dg Z' j=dg Z j)∧Row w' g (A++(Z'++C)))∧w.grownBy w' (some g):=by
 have hx':=hx
 obtain⟨ao,xcap,rfl,⟨h1,h4⟩,h2,h3⟩:=hx'
 obtain⟨m,hm⟩:∃m,x.length=m:=⟨_,rfl⟩
 have HM:=Lib.hid hm
 have HX:=Lib.hid hx
 have HAP:=Lib.hid hap
 have HDX:=Lib.hid hdx
 have HA:=Lib.hid hA
 have HZ:=Lib.hid hZ
 unfold maxLen at h2
 rw[hm] at h1 hle HX HAP ⊢
 have HS:=Lib.hid (show SRel w g y A Z C x 0 0 w from⟨Z,rfl,hdz,by omega,hr,iK _ _,by simp[val],fun _ _=>rfl⟩)
 clear hx hap hdx hA hZ hm hr hdz h3 h4
 go_enter Tryz.func275,Tryz.ntmps275
 go_wp2
 go_loopw [7,15] (fun cv iv wr=>∃i a:Nat,iv= .int .i64 i∧cv= .int .u64 a∧i≤m∧SRel w g y A Z C x i a wr) (fun _ iv _=>m - (intOf iv).toNat)
 case atStart=>exact⟨0,0,rfl,rfl,Nat.zero_le _,HS.out⟩
 case round=>
  obtain⟨i,a,rfl,rfl,him,hrel⟩:=hrel
  obtain⟨Z',hl,hd,ha,hrow,hgr,hv,hup⟩:=hrel
  by_cases hlt:i<m
  ·obtain⟨gx,ox,rfl,hcx⟩:=dN HX.out (by omega)
   have c1:=hrow.vC HA.out i (by rw[hl,HZ.out];omega)
   have f1:=hrow.free (off+i)
   have c2:=(HX.out.kept hgr HAP.out).cellAt i hlt
   obtain⟨h,l,s1,k1,s,k2,r1,r2,r3,hs,b1,b2,he⟩:=DR (dg Z' i) (dg x i) y a (bS hd i) (bS HDX.out i) hy ha
   have HN:=Lib.hid (SRel.next hl hd hrow hgr hv hup HA.out (by rw[HZ.out];omega) hs b2 he)
   have R1:=Lib.hid r1
   generalize dg Z' i=d1 at c1 r3
   generalize dg x i=d2 at c2 r1 R1
   clear he hcx hrow hgr hv hl hd HS r1 hup
   go_wp2_with (go_at_call 201;refine(R1.out _).mono ?_;rintro e w' ⟨rfl,rfl⟩)
   go_roundw
   case rel=>exact⟨i+1,h+k1+k2,by go_num,by go_num,by omega,HN.out⟩
   case measure=>simp[intOf];omega
  ·have:i=m:=by omega
   subst this
   have HV:=Lib.hid hv
   have HU:=Lib.hid hup
   clear hv HS hup
   go_wp2
   go_ret
   refine⟨Z',a,rfl,⟨by rw[hl,HZ.out],hd,ha,?_,HU.out,hrow⟩,hgr⟩
   have:=HV.out
   rw[List.take_of_length_le (by rw[HM.out];omega)] at this
   exact this
end Go.Proofs.YtlhmfgbaefaneaaGreatDoor.nat
namespace Go.Proofs.YtlhmfgbaefaneaaGreatDoor.nat
open Go.RowKit
theorem lZ (w:World)(i:Int)(n:Nat)(hi:i=n)(hn:n≤8000000):∃W1,(Instr.makeSlice 78 (.int .i64 i) (.int .i64 i)).run Tryz.prog w= .ok (.slice (some ⟨w.heap.size,0,none⟩) n n) W1∧
  Row W1 w.heap.size (List.replicate n 0)∧Below w.heap.size w W1:=by
 subst hi
 obtain⟨W1,h1,h2,h3,_⟩:=Nh w n hn
 exact⟨W1,h1,h2,h3⟩
theorem Uq (A Z:List Nat)(j:Nat):dg (A++Z) (A.length+j)=dg Z j:=by
 simp only[dg,List.getD_eq_getElem?_getD]
 rw[List.getElem?_append_right (by omega),Nat.add_sub_cancel_left]
theorem vS (Z:List Nat)(i j:Nat):dg (Z.drop i) j=dg Z (i+j):=by simp[dg]
def PRel (w:World)(x y:List Nat)(g T i:Nat)(wr:World):Prop:=
 ∃Z,Z.length=T∧Dig Z∧Row wr g Z∧Below w.heap.size w wr∧val Z=val x*val (y.take i)∧∀j,x.length+i≤j→dg Z j=0
theorem PRel.next {w wr w2:World}{x y Z Z':List Nat}{g T i a:Nat}(hl:Z.length=T)(hv:val Z=val x*val (y.take i))(hz:∀j,x.length+i≤j→dg Z j=0)(hb:Below w.heap.size w wr)(hg:w.heap.size≤g)(hT:x.length+i<T)
  (hl':Z'.length=T - i) (hd':Dig (Z.take i++Z')) (hv':val Z'+18446744073709551616 ^ x.length*a=val (Z.drop i)+val x*dg y i) (hu:∀j,x.length≤j→dg Z' j=dg (Z.drop i) j) (hr:Row w2 g (Z.take i++(Z'++[]))) (hgr:wr.grownBy w2 (some g)) (ha:a<18446744073709551616)
  {u:Int} (hu':u=(a:Nat)):PRel w x y g T (i+1) (w2.setCell ⟨g,i+x.length,none⟩ (.int .u64 u)):=by
 have hlt: (Z.take i).length=i:=by rw[List.length_take];omega
 have hL: (Z.take i++Z').length=T:=by rw[List.length_append,hlt,hl'];omega
 have hr2:Row w2 g (Z.take i++Z'):=by simpa using hr
 have e0:dg Z' x.length=0:=by
  rw[hu _ (Nat.le_refl _),vS]
  exact hz (i+x.length) (by omega)
 have e1:dg (Z.take i++Z') (i+x.length)=0:=by
  have:=Uq (Z.take i) Z' x.length
  rw[hlt] at this
  rw[this,e0]
 refine⟨(Z.take i++Z').set (i+x.length) a,by rw[List.length_set,hL],hd'.set ha,hr2.set _ (by omega) hu',below_grown (below_grown hb hgr hb.size hg) (bZ _ _ _ _) ?_ hg,?_,?_⟩
 ·have:=hb.size;have:=hgr.size;omega
 ·have h1:=gB (l:=Z.take i++Z') (j:=i+x.length) (d:=a) (by omega)
  rw[e1,Nat.mul_zero,Nat.add_zero] at h1
  rw[h1,val_append,hlt,Nat.pow_add,Nat.mul_assoc,Nat.add_assoc,←Nat.mul_add,hv',aQ,Nat.mul_add,Nat.mul_add,←hv]
  have h2:val Z=val (Z.take i)+18446744073709551616 ^ i*val (Z.drop i):=by
   have:=val_append (Z.take i) (Z.drop i)
   rwa [List.take_append_drop,hlt] at this
  rw[h2,Nat.add_assoc]
  congr 2
  rw[Nat.mul_left_comm]
 ·intro j hj
  rw[cO (by omega)]
  have:=Uq (Z.take i) Z' (j - i)
  rw[hlt,show i+(j - i)=j by omega] at this
  rw[this,hu _ (by omega),vS,show i+(j - i)=j by omega]
  exact hz j (by omega)
theorem mH (sx sy:Value)(x y:List Nat)(w:World)(hx:Rd w sx x)(hy:Rd w sy y)(hdx:Dig x)(hdy:Dig y)(hn:x.length≤2000000)(hm:y.length≤2000000):
  Calls Tryz.prog 210 #[sx,sy] w fun e w'=>∃sv,e= .returned sv∧Own w' w.heap.size sv (digs (val x*val y))∧Below w.heap.size w w':=by
 have HX:=Lib.hid hx
 have HY:=Lib.hid hy
 have HDX:=Lib.hid hdx
 have HDY:=Lib.hid hdy
 obtain⟨ao,xcap,rfl,⟨h1,-⟩,h2,-⟩:=hx
 obtain⟨bo,ycap,rfl,⟨k1,-⟩,k2,-⟩:=hy
 obtain⟨N,hN⟩:∃N,x.length=N:=⟨_,rfl⟩
 obtain⟨M,hM⟩:∃M,y.length=M:=⟨_,rfl⟩
 have HN:=Lib.hid hN
 have HM:=Lib.hid hM
 obtain⟨W1,hmk,hrow,hb⟩:=lZ w ((N:Int)+M) (N+M) (by omega) (by omega)
 have HS:=Lib.hid (show PRel w x y w.heap.size (N+M) 0 W1 from⟨_,by simp,fQ _,hrow,hb,by rw[fU];simp[val],fun j _=>jR _ _⟩)
 rw[hN] at h1 hn HX ⊢
 rw[hM] at k1 hm HY ⊢
 clear hdx hdy hN hM hrow hb
 go_enter Tryz.func210,Tryz.ntmps210
 go_wp2
 go_loopw [16] (fun iv wr=>∃i:Nat,i≤M∧iv= .int .i64 i∧PRel w x y w.heap.size (N+M) i wr) (fun iv _=>M - (intOf iv).toNat)
 case atStart=>exact⟨0,Nat.zero_le _,rfl,HS.out⟩
 case round=>
  obtain⟨i,him,rfl,hrel⟩:=hrel
  obtain⟨Z,hl,hd,hrow,hb,hv,hz⟩:=hrel
  by_cases hlt:i<M
  ·obtain⟨gy,oy,rfl,hcy⟩:=dN HY.out (by omega)
   have c2:=(HY.out.below hb).cellAt i hlt
   have D2:=bS HDY.out i
   have HAP:=Lib.hid (nZ w.heap.size i (N+M - i) (N+M - i) (dg y i) (.slice ao N xcap) (Z.take i) (Z.drop i) [] x wr (by rw[List.length_take];omega) (by rw[List.length_drop];omega) (by simpa using hrow) (hd.drop _) (HX.out.below hb) (HX.out.apart (Nat.le_refl _)) HDX.out (by rw[HN.out];omega) D2 (by omega))
   have HL:=Lib.hid hl
   have HD:=Lib.hid hd
   have HB:=Lib.hid hb
   have HV:=Lib.hid hv
   have HZ:=Lib.hid hz
   have HDy:=Lib.hid (show ∃d,d=dg y i from⟨_,rfl⟩)
   obtain⟨d,hdd⟩:=HDy.out
   rw[←hdd] at c2 HAP D2
   have HDd:=Lib.hid hdd
   clear hl hd hb hv hz hrow hcy hmk HS hdd HDy
   have e1: ((i:Int)+(N:Int)).toNat=i+N:=by omega
   go_wp2_with (go_at_call 253;refine(HAP.out).mono ?_;rintro e w2 ⟨Z',a,rfl,⟨hl',hd',ha,hv',hu,hr⟩,hgr⟩;have f1:=hr.free (i+N);have c3:=hr.cell (i+N) (by rw[List.length_append,List.length_append,List.length_take,hl',HL.out,List.length_nil];omega);have HP:=Lib.hid (PRel.next (u:=(a:Int)) HL.out HV.out HZ.out HB.out (Nat.le_refl _) (by rw[HN.out];omega) hl' ((HD.out.take _).append hd') (by rw[←HDd.out];exact hv') hu hr hgr ha rfl);clear hl' hd' ha hv' hu hr hgr HAP)
   go_roundw
   case rel=>exact⟨i+1,by omega,by go_num,by have:=HP.out;rw[HN.out] at this;exact this⟩
   case measure=>simp[intOf];omega
  ·have:i=M:=by omega
   subst this
   have hv2:val Z=val x*val y:=by rw[hv,List.take_of_length_le (by rw[HM.out];omega)]
   have hO:Own wr w.heap.size (.slice (some ⟨w.heap.size,0,none⟩) (N+i) (N+i)) Z:=by
    have:=Own.gK (cap:=N+i) hrow (Nat.le_refl _) (by omega) (by unfold maxLen;omega)
    rwa [hl] at this
   have HT:=Lib.hid (dG _ Z wr hO (by omega) hd)
   rw[hv2] at HT
   have HB:=Lib.hid hb
   clear hl hd hrow hb hv hz hv2 hO HS hmk
   go_wp2_with (go_at_call 209;refine(HT.out).mono ?_;rintro e w3 ⟨sv,rfl,hO3,rfl⟩;have HO3:=Lib.hid hO3;clear hO3)
   go_ret
   exact⟨sv,rfl,HO3.out,HB.out⟩
end Go.Proofs.YtlhmfgbaefaneaaGreatDoor.nat
namespace Go.Proofs.YtlhmfgbaefaneaaGreatDoor.nat
open Go.RowKit
theorem Dig.strip {l:List Nat}(h:Dig l):digs (val l)=l.take (digs (val l)).length:=by
 induction l with
 |nil=>rw[show val []=0 from rfl,aX];rfl
 |cons d l ih=>
  have h1:=h.head
  have ih:=ih h.tail
  have hv:val (d::l)=d+18446744073709551616*val l:=rfl
  by_cases h0:val (d::l)=0
  ·rw[h0,aX];rfl
  ·rw[gI h0,show val (d::l)%18446744073709551616=d by omega,show val (d::l)/18446744073709551616=val l by omega]
   rw[List.length_cons,List.take_succ_cons,←ih]
theorem yO (ao:Option Addr)(n cap:Nat)(l:List Nat)(w:World)(h:Rd w (.slice ao n cap) l)(hn:l.length=n)(hs:n≤4000000)(hd:Dig l):
  Calls Tryz.prog 209 #[.slice ao n cap] w fun e w'=>e= .returned (.slice ao (digs (val l)).length cap)∧w'=w:=by
 subst hn
 refine(sO ao cap l w h hs).mono ?_
 rintro e w' ⟨k,rfl,⟨hk,hv,hn⟩,rfl⟩
 have he:l.take k=digs (val l):=by rw[←hv];exact(hn hd).fI
 refine⟨?_,rfl⟩
 rw[←he,List.length_take,Nat.min_eq_left hk]
theorem Rd.strip {w:World}{ao:Option Addr}{n cap:Nat}{l:List Nat}(h:Rd w (.slice ao n cap) l)(hd:Dig l):Rd w (.slice ao (digs (val l)).length cap) (digs (val l)):=by
 obtain⟨ao',cap',he,⟨h1,h4⟩,h2,h3⟩:=h
 simp only[Value.slice.injEq] at he
 obtain⟨rfl,rfl,rfl⟩:=he
 have hl:=gV hd
 refine⟨ao,cap,rfl,⟨by omega,h4⟩,h2,?_⟩
 rcases h3 with rfl|⟨g,off,hg,hc⟩
 ·left;rw[show val []=0 from rfl,aX]
 ·right
  refine⟨g,off,hg,fun k hk=> ?_⟩
  rw[hc k (by omega)]
  have:=hd.strip
  rw[show dg (digs (val l)) k=dg l k by rw[this,kE hk]]
theorem kL (l:List Nat)(k:Nat)(hk:k≤l.length):val l=val (l.take k)+18446744073709551616 ^ k*val (l.drop k):=by
 have:=val_append (l.take k) (l.drop k)
 rwa [List.take_append_drop,List.length_take,Nat.min_eq_left hk] at this
theorem Wj {V S P c:Nat}(h:V+P*c=S)(hs:S<P):V=S:=by
 rcases Nat.eq_zero_or_pos c with rfl|hc
 ·simpa using h
 ·have:=Nat.le_mul_of_pos_right P hc
  omega
theorem mV (g h T cap:Nat)(sx:Value)(L x:List Nat)(w:World)(hL:L.length=T)(hh:h≤T)(hr:Row w g L)(hd:Dig L)(hx:Rd w sx x)(hap:Apart g sx)(hdx:Dig x)(hle:x.length≤T - h)(hsum:val L+18446744073709551616 ^ h*val x<18446744073709551616 ^ T)(hT:T≤4000000)(hcap:T - h≤cap)(hcm:cap≤maxLen):
  Calls Tryz.prog 211 #[.slice (some ⟨g,h,none⟩) (T - h) cap,sx] w fun e w'=>∃(c:Nat)(L':List Nat),e= .returned (.int .u64 (c:Nat))∧(L'.length=T∧Dig L'∧val L'=val L+18446744073709551616 ^ h*val x∧Row w' g L')∧w.grownBy w' (some g):=by
 have hlt: (L.take h).length=h:=by rw[List.length_take];omega
 refine(nW g h (T - h) cap sx (L.take h) (L.drop h) [] x w hlt (by rw[List.length_drop];omega) (by simpa using hr) (hd.drop _) hx hap hdx hle (by omega) hcap hcm).mono ?_
 rintro e w' ⟨Z',c,rfl,⟨hl,hd',hc,hv,hrow⟩,hgr⟩
 refine⟨c,L.take h++Z',rfl,⟨by rw[List.length_append,hlt,hl];omega,(hd.take _).append hd',?_,by simpa using hrow⟩,hgr⟩
 refine Wj (P:=18446744073709551616 ^ T) (c:=c) ?_ hsum
 rw[val_append,hlt,kL L h (by omega),Nat.add_assoc,Nat.add_assoc,←Nat.mul_add,←hv,Nat.mul_add,←Nat.mul_assoc,←Nat.pow_add,show h+(T - h)=T by omega]
def wI (n:Nat):Prop:=∀(sx sy:Value)(x y:List Nat)(w:World),Rd w sx x→Rd w sy y→Dig x→Dig y→x.length≤1000000→y.length≤1000000→(x.length≤n∨y.length≤n)→
 Calls Tryz.prog 167 #[sx,sy] w fun e w'=>∃sv,e= .returned sv∧Own w' w.heap.size sv (digs (val x*val y))∧Below w.heap.size w w'
theorem kara (xl xh yl yh P:Nat):xl*yl+P*((xl+xh)*(yl+yh) - xl*yl - xh*yh)+P*P*(xh*yh)=(xl+P*xh)*(yl+P*yh)∧xl*yl+xh*yh≤(xl+xh)*(yl+yh)∧(xl+xh)*(yl+yh) - xl*yl - xh*yh=xl*yh+xh*yl:=by
 have e: (xl+xh)*(yl+yh)=xl*yl+xh*yh+(xl*yh+xh*yl):=by
  rw[Nat.add_mul,Nat.mul_add,Nat.mul_add];omega
 have e2: (xl+xh)*(yl+yh) - xl*yl - xh*yh=xl*yh+xh*yl:=by omega
 refine⟨?_,by omega,e2⟩
 rw[e2,Nat.add_mul,Nat.mul_add,Nat.mul_add,Nat.mul_add]
 have a1:P*(xl*yh)=xl*(P*yh):=by rw[Nat.mul_left_comm]
 have a2:P*(xh*yl)=P*xh*yl:=by rw[Nat.mul_assoc]
 have a3:P*P*(xh*yh)=P*xh*(P*yh):=by rw[Nat.mul_mul_mul_comm]
 rw[a1,a2,a3]
 omega
theorem yF {n:Nat}(IH:wI n){sx sy:Value}{x y:List Nat}{X Y:Nat}{w:World}(hX:val x=X)(hY:val y=Y)(hx:Rd w sx x)(hy:Rd w sy y)(hdx:Dig x)(hdy:Dig y)(hn:x.length≤1000000)(hm:y.length≤1000000)(h:x.length≤n∨y.length≤n):
  Calls Tryz.prog 167 #[sx,sy] w fun e w'=>∃sv,e= .returned sv∧Own w' w.heap.size sv (digs (X*Y))∧Below w.heap.size w w':=by
 subst hX;subst hY
 exact IH sx sy x y w hx hy hdx hdy hn hm h
theorem BP {sx sy:Value}{x y:List Nat}{X Y:Nat}{w:World}(hX:val x=X)(hY:val y=Y)(hx:Rd w sx x)(hy:Rd w sy y)(hdx:Dig x)(hdy:Dig y)(hn:x.length≤2000000)(hm:y.length≤2000000):
  Calls Tryz.prog 179 #[sx,sy] w fun e w'=>∃sv,e= .returned sv∧Own w' w.heap.size sv (digs (X+Y))∧Below w.heap.size w w':=by
 subst hX;subst hY
 exact sM sx sy x y w hx hy hdx hdy hn hm
theorem Wx (a:Nat):18446744073709551616 ^ a*18446744073709551616 ^ a=18446744073709551616 ^ (2*a):=by rw[←Nat.pow_add];congr 1;omega
theorem eX {a b p q:Nat}(ha:a<18446744073709551616 ^ p)(hb:b<18446744073709551616 ^ q):a*b<18446744073709551616 ^ (p+q):=by
 rw[Nat.pow_add]
 exact Nat.mul_lt_mul'' ha hb
theorem mW {a b p:Nat}(ha:a<18446744073709551616 ^ p)(hb:b<18446744073709551616 ^ p):a+b<18446744073709551616 ^ (p+1):=by
 have h2:18446744073709551616 ^ (p+1)=18446744073709551616*18446744073709551616 ^ p:=by rw[Nat.pow_succ,Nat.mul_comm]
 rw[h2]
 generalize 18446744073709551616 ^ p=P at *
 omega
theorem Kb {n h X vx vy xl xh yl yh:Nat}(hn:n≤2*h)(h2:h+2≤n)(h3:2*h≤n+1)(hX:X=vx*vy)(ex:vx=xl+18446744073709551616 ^ h*xh)(ey:vy=yl+18446744073709551616 ^ h*yh)
  (bx:vx<18446744073709551616 ^ n) (by':vy<18446744073709551616 ^ n) (b1:xl<18446744073709551616 ^ h) (b2:xh<18446744073709551616 ^ (n - h)) (b3:yl<18446744073709551616 ^ h) (b4:yh<18446744073709551616 ^ (n - h)):
  (digs (xl*yl)).length≤2*h∧(digs (xh*yh)).length≤2*n - 2*h∧(digs (xl+xh)).length≤h+1∧(digs (yl+yh)).length≤h+1∧(digs ((xl+xh)*(yl+yh))).length≤2*h+2∧
  xl*yl+xh*yh≤(xl+xh)*(yl+yh)∧(digs ((xl+xh)*(yl+yh) - xl*yl - xh*yh)).length≤2*n - h∧
  xl*yl+18446744073709551616 ^ h*((xl+xh)*(yl+yh) - xl*yl - xh*yh)<18446744073709551616 ^ (2*n)∧
  xl*yl+18446744073709551616 ^ h*((xl+xh)*(yl+yh) - xl*yl - xh*yh)+18446744073709551616 ^ (2*h)*(xh*yh)=X∧X<18446744073709551616 ^ (2*n):=by
 obtain⟨k1,k2,k3⟩:=kara xl xh yl yh (18446744073709551616 ^ h)
 have hXn:X<18446744073709551616 ^ (2*n):=by
  have:=eX bx by'
  rw[hX]
  rwa [show n+n=2*n by omega] at this
 rw[Wx,←ex,←ey,←hX] at k1
 have b2':xh<18446744073709551616 ^ h:=Nat.lt_of_lt_of_le b2 (kC (by omega))
 have b4':yh<18446744073709551616 ^ h:=Nat.lt_of_lt_of_le b4 (kC (by omega))
 have s1:=mW b1 b2'
 have s2:=mW b3 b4'
 have s3:=eX s1 s2
 have m1:xl*yh<18446744073709551616 ^ (2*n - h - 1):=Nat.lt_of_lt_of_le (eX b1 b4) (kC (by omega))
 have m2:xh*yl<18446744073709551616 ^ (2*n - h - 1):=Nat.lt_of_lt_of_le (eX b2 b3) (kC (by omega))
 have m3:=mW m1 m2
 rw[←k3,show 2*n - h - 1+1=2*n - h by omega] at m3
 refine⟨bK (Nat.lt_of_lt_of_le (eX b1 b3) (kC (by omega))),bK (Nat.lt_of_lt_of_le (eX b2 b4) (kC (by omega))),bK s1,bK s2,bK (Nat.lt_of_lt_of_le s3 (kC (by omega))),k2,bK m3,?_,k1,hXn⟩
 refine Nat.lt_of_le_of_lt ?_ hXn
 rw[←k1]
 exact Nat.le_add_right _ _
end Go.Proofs.YtlhmfgbaefaneaaGreatDoor.nat
namespace Go.Proofs.YtlhmfgbaefaneaaGreatDoor.nat
open Go.RowKit
def Est (U u A B q r:Nat):Prop:=q*A+r=U∧(U*4294967296+u)/(A*4294967296+B)≤q
theorem Est.init {U u A B:Nat}(hu:u<4294967296)(hA:0<A):Est U u A B (U/A) (U%A):=by
 refine⟨by rw[Nat.mul_comm];exact Nat.div_add_mod U A,?_⟩
 have h1: (U*4294967296+u)/(A*4294967296+B)≤(U*4294967296+u)/(4294967296*A):=Nat.div_le_div_left (by omega) (by omega)
 rw[←Nat.div_div_eq_div_mul,show(U*4294967296+u)/4294967296=U by omega] at h1
 exact h1
theorem Est.times {U u A B q r:Nat}(h:Est U u A B q r):q*(A*4294967296+B)+r*4294967296=U*4294967296+q*B:=by
 have h1:=h.1
 have:q*(A*4294967296+B)=q*A*4294967296+q*B:=by rw[Nat.mul_add,Nat.mul_assoc]
 omega
theorem Est.le {U u A B q r:Nat}(h:Est U u A B q r)(hA:0<A)(ht:q*B≤4294967296*r+u):q=(U*4294967296+u)/(A*4294967296+B):=by
 have h1:=h.times
 have h2:=h.2
 refine Nat.le_antisymm ?_ h2
 rw[Nat.le_div_iff_mul_le (by omega)]
 omega
theorem Est.next {U u A B q r:Nat}(h:Est U u A B q r)(hY:U<A*4294967296+B)(hu:u<4294967296)(ht:4294967296≤q∨4294967296*r+u<q*B):0<q∧Est U u A B (q - 1) (r+A):=by
 have h1:=h.times
 have h2:=h.2
 have hlt: (U*4294967296+u)/(A*4294967296+B)<q:=by
  rcases ht with h3|h3
  ·refine Nat.lt_of_lt_of_le ?_ h3
   rw[Nat.div_lt_iff_lt_mul (by omega)]
   have:U*4294967296+4294967296≤(A*4294967296+B)*4294967296:=by omega
   rw[Nat.mul_comm 4294967296]
   omega
  ·rw[Nat.div_lt_iff_lt_mul (by omega)]
   omega
 have hq0:0<q:=Nat.lt_of_le_of_lt (Nat.zero_le _) hlt
 refine⟨hq0,?_,Nat.le_sub_one_of_lt hlt⟩
 have h3:=h.1
 have: (q - 1)*A+A=q*A:=by
  rw[←Nat.succ_mul];congr 1;omega
 omega
theorem Est.out {U u A B q r:Nat}(h:Est U u A B q r)(hA:0<A)(hB:B<4294967296)(hY:U<A*4294967296+B)(hr:4294967296≤r):q<4294967296∧q=(U*4294967296+u)/(A*4294967296+B):=by
 have h1:=h.1
 have hq:q<4294967296:=by
  rcases Nat.lt_or_ge q 4294967296 with h2|h2
  ·exact h2
  ·have:=Nat.mul_le_mul_right A h2
   omega
 refine⟨hq,h.le hA ?_⟩
 have:q*B≤4294967295*4294967295:=Nat.mul_le_mul (by omega) (by omega)
 omega
theorem jZ {U u A B:Nat}(hu:u<4294967296)(hY:U<A*4294967296+B): (U*4294967296+u)/(A*4294967296+B)<4294967296:=by
 rw[Nat.div_lt_iff_lt_mul (by omega)]
 have:U*4294967296+4294967296≤(A*4294967296+B)*4294967296:=by omega
 rw[Nat.mul_comm 4294967296]
 omega
theorem Xa {U u P R:Nat}(h:P+R=U*4294967296+u)(hR:R<18446744073709551616):
  IntKind.u64.wrap ((((U*4294967296%18446744073709551616+u)%18446744073709551616:Nat):Int) - ((P%18446744073709551616:Nat):Int))=(R:Int):=by
 rw[IntKind.wrap_u64]
 omega
theorem eF {U u Y q:Nat}(hq:q=(U*4294967296+u)/Y)(hY0:0<Y)(hY:Y<18446744073709551616):
  IntKind.u64.wrap ((((U*4294967296%18446744073709551616+u)%18446744073709551616:Nat):Int) - ((q*Y%18446744073709551616:Nat):Int))=(((U*4294967296+u)%Y:Nat):Int):=by
 refine Xa ?_ (Nat.lt_trans (Nat.mod_lt _ hY0) hY)
 rw[hq,Nat.mul_comm]
 exact Nat.div_add_mod _ _
theorem Hf {hi lo y s:Nat}(hs:s≤63)(hh:hi<y)(hl:lo<18446744073709551616)(hy1:y*2 ^ s<18446744073709551616):
  ∃H L V:Nat,H=hi*2 ^ s∧L=lo/2 ^ (64 - s)∧V=lo*2 ^ s%18446744073709551616∧H<18446744073709551616∧H+L<y*2 ^ s∧(H+L)*18446744073709551616+V=(hi*18446744073709551616+lo)*2 ^ s∧H|||L=H+L:=by
 refine⟨_,_,_,rfl,rfl,rfl,?_,?_,?_,?_⟩
 ·exact Nat.lt_of_le_of_lt (Nat.mul_le_mul_right _ (Nat.le_of_lt hh)) hy1
 ·have hL:lo/2 ^ (64 - s)<2 ^ s:=by
   rw[Nat.div_lt_iff_lt_mul (Nat.pow_pos (by omega)),←Nat.pow_add,show s+(64 - s)=64 by omega]
   exact hl
  have: (hi+1)*2 ^ s≤y*2 ^ s:=Nat.mul_le_mul_right _ hh
  rw[Nat.succ_mul] at this
  omega
 ·have e:2 ^ (64 - s)*2 ^ s=18446744073709551616:=by rw[←Nat.pow_add,show 64 - s+s=64 by omega]
  have h1:lo*2 ^ s/18446744073709551616=lo/2 ^ (64 - s):=by
   rw[←e,Nat.mul_div_mul_right _ _ (Nat.pow_pos (by omega))]
  have h2:=Nat.div_add_mod (lo*2 ^ s) 18446744073709551616
  rw[h1] at h2
  rw[Nat.add_mul,Nat.add_mul,Nat.mul_right_comm hi]
  omega
 ·have hL:lo/2 ^ (64 - s)<2 ^ s:=by
   rw[Nat.div_lt_iff_lt_mul (Nat.pow_pos (by omega)),←Nat.pow_add,show s+(64 - s)=64 by omega]
   exact hl
  have:=Nat.shiftLeft_add_eq_or_of_lt hL hi
  rw[Nat.shiftLeft_eq] at this
  exact this.symm
theorem Ju {N y s Y q1 r1 q0 r2 V u0:Nat}(hY:Y=y*2 ^ s)(hN:V*4294967296+u0=N*2 ^ s)(d1:Y*q1+r1=V)(d2:Y*q0+r2=r1*4294967296+u0)(m2:r2<Y):
  (q1*4294967296+q0)*y+r2/2 ^ s=N∧r2/2 ^ s<y:=by
 have hp:0<2 ^ s:=Nat.pow_pos (by omega)
 have e:Y*(q1*4294967296+q0)+r2=N*2 ^ s:=by
  rw[←hN,←d1,Nat.mul_add,←Nat.mul_assoc,Nat.add_mul,Nat.add_assoc,d2,Nat.add_assoc]
 have e2:N*2 ^ s=2 ^ s*(y*(q1*4294967296+q0))+r2:=by
  rw[←e,hY,Nat.mul_comm y,Nat.mul_assoc]
 have hd:2 ^ s∣r2:=by
  have h1:2 ^ s∣N*2 ^ s:=Nat.dvd_mul_left _ _
  rw[e2] at h1
  exact(Nat.dvd_add_right (Nat.dvd_mul_right _ _)).1 h1
 obtain⟨r,rfl⟩:=hd
 rw[Nat.mul_div_cancel_left _ hp]
 constructor
 ·rw[←Nat.mul_add,Nat.mul_comm] at e2
  have:=Nat.eq_of_mul_eq_mul_left hp e2
  rw[Nat.mul_comm _ y]
  exact this.symm
 ·rw[hY,Nat.mul_comm y] at m2
  exact Nat.lt_of_mul_lt_mul_left m2
theorem Lb {N y s Y U u1 u0:Nat}(hY:Y=y*2 ^ s)(hy:0<y)(hN: (U*4294967296+u1)*4294967296+u0=N*2 ^ s):
  ((U*4294967296+u1)/Y*4294967296+((U*4294967296+u1)%Y*4294967296+u0)/Y)*y+((U*4294967296+u1)%Y*4294967296+u0)%Y/2 ^ s=N∧((U*4294967296+u1)%Y*4294967296+u0)%Y/2 ^ s<y:=
 Ju hY hN (Nat.div_add_mod _ _) (Nat.div_add_mod _ _) (Nat.mod_lt _ (by rw[hY];exact Nat.mul_pos hy (Nat.pow_pos (by omega))))
end Go.Proofs.YtlhmfgbaefaneaaGreatDoor.nat
