/-
  The steps of the walks, part 17: Power, RootA, Lehmer, Mix, High.
-/
import Derived.Test.YtlhmfgbaefaneaaGreatDoorM16
set_option maxHeartbeats 4000000
set_option maxRecDepth 100000
namespace Go.Proofs.YtlhmfgbaefaneaaGreatDoor.nat
open Go.RowKit
theorem and_one (n:Int):bits .and .i64 n 1=n%2:=by
 have h1: (BitVec.ofInt 64 1).toNat=2 ^ 1 - 1:=by decide
 have key: (BitVec.ofInt 64 n&&&BitVec.ofInt 64 1).toNat=(n%((2 ^ 64:Nat):Int)).toNat%2 ^ 1:=by
  rw[BitVec.toNat_and,BitVec.toNat_ofInt,h1,Nat.and_two_pow_sub_one_eq_mod]
 show IntKind.i64.wrap ((BitVec.ofInt 64 n&&&BitVec.ofInt 64 1).toNat:Nat)=n%2
 rw[key,IntKind.wrap_i64]
 omega
theorem Uv {X K p:Nat}(hp:0<p):X ^ (K/2 ^ p)*X ^ (K/2 ^ p)*X ^ (K/2 ^ (p - 1)%2)=X ^ (K/2 ^ (p - 1)):=by
 have h1:K/2 ^ p=K/2 ^ (p - 1)/2:=by
  rw[Nat.div_div_eq_div_mul,←Nat.pow_succ]
  congr 2
  omega
 rw[h1,←Nat.pow_add,←Nat.pow_add]
 congr 1
 omega
theorem Au {X K j n:Nat}(hj:j≤K)(h: (digs (X ^ K)).length≤n)(hn:1≤n): (digs (X ^ j)).length≤n:=by
 rcases Nat.eq_zero_or_pos X with rfl|hX
 ·rcases Nat.eq_zero_or_pos j with rfl|h0
  ·exact Nat.le_trans (eU (by simp)) hn
  ·rw[Nat.zero_pow h0,aX];simp
 ·exact aR (Nat.pow_le_pow_right hX hj) h
theorem uD (sx:Value)(x:List Nat)(K:Nat)(w:World)(hx:Rd w sx x)(hnx:Norm x)(hs:x.length≤900000)(hK:K<9223372036854775808)(hb: (digs (val x ^ K)).length≤900000):
  Calls Tryz.prog 194 #[sx,.int .i64 (K:Int)] w fun e w'=>∃sv,e= .returned sv∧Own w' w.heap.size sv (digs (val x ^ K))∧Below w.heap.size w w':=by
 obtain⟨ao,xcap,rfl,-⟩:=id hx
 have HX:=Lib.hid hx
 have HNX:=Lib.hid hnx
 have HS:=Lib.hid hs
 have HBd:=Lib.hid hb
 have hb1:Below w.heap.size w (w.alloc (.cells #[Value.int .u64 1] 104)):=(Below.refl _ _).alloc (Nat.le_refl _) _
 have hO1:Own (w.alloc (.cells #[Value.int .u64 1] 104)) w.heap.size (.slice (some ⟨w.heap.size,0,none⟩) 1 1) (digs 1):=by
  have:=gN (w:=w) (d:=1) (B:=w.heap.size) (Nat.le_refl _)
  have e:digs 1=[1]:=by rw[gI (by omega),show 1%18446744073709551616=1 by omega,show 1/18446744073709551616=0 by omega,aX]
  rw[e]
  exact this
 have HO1:=Lib.hid hO1
 have HB1:=Lib.hid hb1
 have hmax:max (K:Int) 0=(K:Int):=by omega
 obtain⟨X,hX⟩:∃X,X=val x:=⟨_,rfl⟩
 rw[←hX] at HBd ⊢
 have HXe:=Lib.hid hX
 clear hx hnx hs hb hb1 hO1 hX
 go_enter Tryz.func194,Tryz.ntmps194
 go_wp2_with (go_at_call 237;refine(Ls K _ (by omega)).mono ?_;rintro e w1 ⟨p,rfl,⟨hp,hpk,-⟩,rfl⟩;have HPK:=Lib.hid hpk;clear hpk)
 go_loopw [5,6] (fun zv pv wr=>∃q:Nat,pv= .int .i64 ((q:Int) - 1)∧q≤64∧Own wr w.heap.size zv (digs (X ^ (K/2 ^ q)))∧Below w.heap.size w wr) (fun _ pv _=>(intOf pv+1).toNat)
 case atStart=>exact⟨p,rfl,hp,by rw[Nat.div_eq_of_lt HPK.out,Nat.pow_zero];exact HO1.out,HB1.out⟩
 case round=>
  obtain⟨q,rfl,hq,ho,hb⟩:=hrel
  clear HO1 HPK
  by_cases hq0:q=0
  ·subst hq0
   rw[Nat.pow_zero,Nat.div_one] at ho
   have HO:=Lib.hid ho
   have HB:=Lib.hid hb
   clear ho hb
   go_wp2
   go_ret
   exact⟨_,rfl,HO.out,HB.out⟩
  ·obtain⟨j,hj⟩:∃j,q=j+1:=⟨q - 1,by omega⟩
   subst hj
   have hstep:=Uv (X:=X) (K:=K) (p:=j+1) (by omega)
   rw[show j+1 - 1=j by omega] at hstep
   obtain⟨E,hE⟩:∃E,E=K/2 ^ (j+1):=⟨_,rfl⟩
   obtain⟨F,hF⟩:∃F,F=K/2 ^ j:=⟨_,rfl⟩
   rw[←hE] at hstep ho
   rw[←hF] at hstep
   have hEK:E≤K:=by rw[hE];exact Nat.div_le_self _ _
   have hFK:F≤K:=by rw[hF];exact Nat.div_le_self _ _
   have l1:=Au hEK HBd.out (by omega)
   have l2:=Au hFK HBd.out (by omega)
   have g1: ((j+1:Nat):Int) - 1=(j:Int):=by omega
   have g2: (K:Int)/2 ^ j=(F:Int):=by rw[iJ,←hF]
   have P1:=Lib.hid (jW _ _ _ _ wr ho.rd ho.rd (aB _).1 (aB _).1 (by omega) (by omega))
   rw[aA] at P1
   obtain⟨ao5,cap5,rfl,-⟩:=id ho
   have HB:=Lib.hid hb
   have HST:=Lib.hid hstep
   have HF:=Lib.hid hF
   have HL2:=Lib.hid l2
   have e0:¬((j:Int)<0):=by omega
   rw[g1]
   clear hstep hE hF l1 l2 ho hb hq0
   by_cases hbit:F%2=1
   ·have g3:bits .and .i64 (F:Int) 1=1:=by rw[and_one];omega
    have HST1:=Lib.hid (show X ^ E*X ^ E*X=X ^ F by have:=HST.out;rwa [hbit,Nat.pow_one] at this)
    have hEE: (digs (X ^ E*X ^ E)).length≤900000:=by
     rw[←Nat.pow_add]
     have:X ^ E*X ^ E*X=X ^ F:=HST1.out
     rcases Nat.eq_zero_or_pos X with h0|h0
     ·rw[h0]
      rcases Nat.eq_zero_or_pos (E+E) with h1|h1
      ·rw[h1,Nat.pow_zero];exact Nat.le_trans (eU (by omega)) (by omega)
      ·rw[Nat.zero_pow h1,aX];simp
     ·refine aR ?_ HL2.out
      rw[←this,←Nat.pow_add]
      exact Nat.le_mul_of_pos_right _ h0
    have HEE:=Lib.hid hEE
    clear hEE hbit
    go_wp2_with (first
     |(go_at_call 167;refine(P1.out).mono ?_;rintro e w2 ⟨sv,rfl,ho2,hb2⟩
       have HB2:=Lib.hid (HB.out.trans (hb2.mono HB.out.size))
       have P2:=Lib.hid (jW _ _ _ _ w2 ho2.rd (HX.out.below HB2.out) (aB _).1 HNX.out.1 (by have:=HEE.out;omega) (by have:=HS.out;omega))
       rw[aA,←HXe.out,HST1.out] at P2
       clear P1 ho2 hb2)
     |(go_at_call 167;refine(P2.out).mono ?_;rintro e w3 ⟨sv2,rfl,ho3,hb3⟩
       have HO3:=Lib.hid (ho3.mono HB2.out.size)
       have HB3:=Lib.hid (HB2.out.trans (hb3.mono HB2.out.size))
       clear P2 ho3 hb3))
    go_roundw
    case rel=>exact⟨j,by go_num,by omega,by rw[←HF.out];exact HO3.out,HB3.out⟩
    case measure=>simp[intOf]
   ·have g3:bits .and .i64 (F:Int) 1=0:=by rw[and_one];omega
    have HST1:=Lib.hid (show X ^ E*X ^ E=X ^ F by have:=HST.out;rwa [show F%2=0 by omega,Nat.pow_zero,Nat.mul_one] at this)
    rw[HST1.out] at P1
    go_wp2_with (go_at_call 167;refine(P1.out).mono ?_;rintro e w2 ⟨sv,rfl,ho2,hb2⟩;have HB2:=Lib.hid (HB.out.trans (hb2.mono HB.out.size));have HO2:=Lib.hid (ho2.mono HB.out.size);clear P1 ho2 hb2)
    go_roundw
    case rel=>exact⟨j,by go_num,by omega,by rw[←HF.out];exact HO2.out,HB2.out⟩
    case measure=>simp[intOf]
end Go.Proofs.YtlhmfgbaefaneaaGreatDoor.nat
namespace Go.Proofs.YtlhmfgbaefaneaaGreatDoor.nat
theorem Mj (v r:Nat)(a b:Nat)(h:r≤v)(h2:b≤a):b*v+r*a≤v*a+r*b:=by
 obtain⟨d,rfl⟩:∃d,v=r+d:=⟨v - r,by omega⟩
 obtain⟨e,rfl⟩:∃e,a=b+e:=⟨a - b,by omega⟩
 have:b*(r+d)+r*(b+e)+d*e=(r+d)*(b+e)+r*b:=by grind
 omega
theorem Eo (v r k:Nat):r ^ k*v+r*v ^ k≤v*v ^ k+r*r ^ k:=by
 rcases Nat.le_total r v with h|h
 ·exact Mj v r (v ^ k) (r ^ k) h (Nat.pow_le_pow_left h k)
 ·have:=Mj r v (r ^ k) (v ^ k) h (Nat.pow_le_pow_left h k)
  have e1:v ^ k*r=r*v ^ k:=Nat.mul_comm _ _
  have e2:v*r ^ k=r ^ k*v:=Nat.mul_comm _ _
  omega
theorem Gg (v r:Nat):∀k,(k+1)*r*v ^ k≤k*v ^ (k+1)+r ^ (k+1)
 |0=>by simp
 |k+1=>by
  have ih:=Nat.mul_le_mul_right v (Gg v r k)
  have h:=Eo v r (k+1)
  have e1: (k+1)*r*v ^ k*v=(k+1)*r*v ^ (k+1):=by rw[Nat.pow_succ,Nat.mul_assoc]
  have e2: (k*v ^ (k+1)+r ^ (k+1))*v=k*v ^ (k+2)+r ^ (k+1)*v:=by rw[Nat.add_mul,Nat.mul_assoc,←Nat.pow_succ]
  have e3:v*v ^ (k+1)=v ^ (k+2):=by rw[Nat.mul_comm,←Nat.pow_succ]
  have e4:r*r ^ (k+1)=r ^ (k+2):=by rw[Nat.mul_comm,←Nat.pow_succ]
  have e5: (k+1+1)*r*v ^ (k+1)=(k+1)*r*v ^ (k+1)+r*v ^ (k+1):=by rw[Nat.add_mul (k+1),Nat.add_mul,Nat.one_mul]
  have e6: (k+1)*v ^ (k+1+1)=k*v ^ (k+2)+v ^ (k+2):=by rw[Nat.add_mul,Nat.one_mul]
  rw[e1,e2] at ih
  rw[e3,e4] at h
  rw[e5,e6]
  show _≤_+r ^ (k+2)
  omega
theorem Kj {X v r k:Nat}(hv:0<v)(hk:0<k)(hr:r ^ (k+1)≤X):r≤(v*k+X/v ^ k)/(k+1):=by
 rw[Nat.le_div_iff_mul_le (by omega)]
 have h1:=Gg v r k
 have hp:0<v ^ k:=Nat.pow_pos hv
 rcases Nat.lt_or_ge (r*(k+1)) (v*k) with h|h
 ·exact Nat.le_trans (Nat.le_of_lt h) (Nat.le_add_right _ _)
 ·have h2:r*(k+1) - v*k≤X/v ^ k:=by
   rw[Nat.le_div_iff_mul_le hp]
   refine Nat.le_trans ?_ hr
   rw[Nat.sub_mul]
   have e1:r*(k+1)*v ^ k=(k+1)*r*v ^ k:=by rw[Nat.mul_comm r]
   have e2:v*k*v ^ k=k*v ^ (k+1):=by rw[Nat.pow_succ,Nat.mul_comm v k,Nat.mul_assoc,Nat.mul_comm v]
   rw[e1,e2]
   omega
  exact Nat.sub_le_iff_le_add'.1 h2
theorem Gp {X v k:Nat}(hv:0<v)(h:v≤(v*k+X/v ^ k)/(k+1)):v ^ (k+1)≤X:=by
 rw[Nat.le_div_iff_mul_le (by omega),Nat.mul_succ] at h
 have h2:v≤X/v ^ k:=Nat.le_of_add_le_add_left h
 rw[Nat.le_div_iff_mul_le (Nat.pow_pos hv)] at h2
 rw[Nat.pow_succ,Nat.mul_comm]
 exact h2
def jC (X k r:Nat):Prop:=r ^ k≤X∧X<(r+1) ^ k
theorem Kt {X k c r:Nat}(h:jC (X/2 ^ (c*k)) k r):X<((r+1)*2 ^ c) ^ k:=by
 rw[Nat.mul_pow,←Nat.pow_mul]
 have h1:X/2 ^ (c*k)+1≤(r+1) ^ k:=h.2
 have h2:=Nat.mul_le_mul_right (2 ^ (c*k)) h1
 have h3:=Nat.div_add_mod X (2 ^ (c*k))
 have h4:=Nat.mod_lt X (Nat.pow_pos (n:=c*k) (show 0<2 by omega))
 rw[Nat.add_mul,Nat.one_mul,Nat.mul_comm (X/_)] at h2
 omega
theorem Kr {X k c r:Nat}(h:jC (X/2 ^ (c*k)) k r)(hr:1≤r): ((r+1)*2 ^ c) ^ k≤2 ^ k*X:=by
 have h1: (r+1)*2 ^ c≤2*(r*2 ^ c):=by
  rw[←Nat.mul_assoc]
  exact Nat.mul_le_mul_right _ (by omega)
 refine Nat.le_trans (Nat.pow_le_pow_left h1 k) ?_
 rw[Nat.mul_pow,Nat.mul_pow,←Nat.pow_mul]
 refine Nat.mul_le_mul_left _ ?_
 refine Nat.le_trans (Nat.mul_le_mul_right _ h.1) ?_
 exact Nat.div_mul_le_self _ _
end Go.Proofs.YtlhmfgbaefaneaaGreatDoor.nat
namespace Go.Proofs.YtlhmfgbaefaneaaGreatDoor.nat
def LInv (a0 b0:Nat)(e:Bool)(nX nY tX tY a b:Nat):Prop:=
 (e=false→a+nY*b0=nX*a0∧b+tX*a0=tY*b0∧nX*tY=nY*tX+1)∧(e=true→a+nX*a0=nY*b0∧b+tY*b0=tX*a0∧nY*tX=nX*tY+1)
theorem LInv.sum {a0 b0:Nat}{e:Bool}{nX nY tX tY a b:Nat}(h:LInv a0 b0 e nX nY tX tY a b):a0=tY*a+nY*b∧b0=tX*a+nX*b:=by
 cases e
 ·obtain⟨h1,h2,h3⟩:=h.1 rfl
  constructor<;>grind
 ·obtain⟨h1,h2,h3⟩:=h.2 rfl
  constructor<;>grind
theorem LInv.next {a0 b0:Nat}{e:Bool}{nX nY tX tY a b q r:Nat}(h:LInv a0 b0 e nX nY tX tY a b)(hq:a=b*q+r):LInv a0 b0 (!e) tX tY (nX+q*tX) (nY+q*tY) b r:=by
 cases e
 ·obtain⟨h1,h2,h3⟩:=h.1 rfl
  refine⟨by simp,fun _=>⟨by omega,?_,?_⟩⟩<;>grind
 ·obtain⟨h1,h2,h3⟩:=h.2 rfl
  refine⟨fun _=>⟨by omega,?_,?_⟩,by simp⟩<;>grind
def QIs (x y:Nat)(e:Bool)(nX nY Q:Nat):Prop:=(e=false→Q+nY*y=nX*x)∧(e=true→Q+nX*x=nY*y)
def nV (x y:Nat)(e:Bool)(oX oY nX nY:Nat):Prop:=
 ∃P Q,QIs x y (!e) oX oY P∧QIs x y e nX nY Q∧Q<P∧P≤y∧x=nY*P+oY*Q∧y=nX*P+oX*Q
structure LS (x y a0 b0:Nat)(e:Bool)(oX oY nX nY tX tY a b:Nat):Prop where
 inv:LInv a0 b0 e nX nY tX tY a b
 le:b≤a
 k: (oX=0∧oY=0∧nX=1∧nY=0∧tX=0∧tY=1∧e=false)∨
  (nX≤nY∧tX≤tY∧1≤nY∧nY≤a∧(∃Q,QIs x y e nX nY Q∧Q≤y)∧(oY=0∨nV x y e oX oY nX nY))
theorem LS.start {x y a0 b0:Nat}(h:b0≤a0):LS x y a0 b0 false 0 0 1 0 0 1 a0 b0:=⟨⟨fun _=>by omega,by simp⟩,h,Or.inl (by simp)⟩
theorem LS.room {x y a0 b0 W:Nat}{e:Bool}{oX oY nX nY tX tY a b:Nat}(h:LS x y a0 b0 e oX oY nX nY tX tY a b)(ha:a0<W)(hb0:b0<W)(hb:1≤b):nX<W∧nY+tY<W∧tX<W∧a<W:=by
 obtain⟨e1,e2⟩:=h.inv.sum
 have hab:=h.le
 have h1:tY*1≤tY*a:=Nat.mul_le_mul_left _ (by omega)
 have h2:nY*1≤nY*b:=Nat.mul_le_mul_left _ hb
 have h3:tX*1≤tX*a:=Nat.mul_le_mul_left _ (by omega)
 have h4:nX*1≤nX*b:=Nat.mul_le_mul_left _ hb
 refine⟨by omega,by omega,by omega,?_⟩
 have:1≤tY:=by
  rcases h.k with h5|⟨h5,h6,h7,_⟩
  ·omega
  ·rcases Nat.eq_zero_or_pos tY with h0|h0
   ·have hx:tX=0:=by omega
    cases e
    ·have:=(h.inv.1 rfl).2.2
     rw[h0,hx] at this
     omega
    ·have:=(h.inv.2 rfl).2.2
     rw[h0,hx] at this
     omega
   ·exact h0
 have:=Nat.le_mul_of_pos_left a this
 omega
theorem Rc {x y a0 b0 x0 y0 F:Nat}{e:Bool}{nX nY tX tY a b Q:Nat}(hx:x=a0*F+x0)(hy:y=b0*F+y0)(hx0:x0<F)(hy0:y0<F)(hi:LInv a0 b0 e nX nY tX tY a b)(hn:nX≤nY)(ht:tX≤tY)(hn1:1≤nY)
  (hb:tY≤b) (hab:b+(nY+tY)≤a) (hQ:QIs x y e nX nY Q):∃V,QIs x y (!e) tX tY V∧V<Q:=by
 have m1:tY*y0≤b*F:=Nat.mul_le_mul hb (by omega)
 have m2:tX*x0≤b*F:=Nat.mul_le_mul (by omega) (by omega)
 have m3: (nX+tX)*x0<(nY+tY)*F:=Nat.mul_lt_mul_of_le_of_lt (by omega) hx0 (by omega)
 have m4: (nY+tY)*y0<(nY+tY)*F:=Nat.mul_lt_mul_of_le_of_lt (Nat.le_refl _) hy0 (by omega)
 have m5: (b+(nY+tY))*F≤a*F:=Nat.mul_le_mul_right _ hab
 rw[Nat.add_mul] at m3 m4
 rw[Nat.add_mul] at m5
 rw[Nat.add_mul] at m5
 cases e
 ·obtain⟨h1,h2,h3⟩:=hi.1 rfl
  have q1:=hQ.1 rfl
  have f1:a*F+nY*b0*F=nX*a0*F:=by rw[←Nat.add_mul,h1]
  have f2:b*F+tX*a0*F=tY*b0*F:=by rw[←Nat.add_mul,h2]
  have g1:nX*x=nX*a0*F+nX*x0:=by rw[hx,Nat.mul_add,Nat.mul_assoc]
  have g2:nY*y=nY*b0*F+nY*y0:=by rw[hy,Nat.mul_add,Nat.mul_assoc]
  have g3:tX*x=tX*a0*F+tX*x0:=by rw[hx,Nat.mul_add,Nat.mul_assoc]
  have g4:tY*y=tY*b0*F+tY*y0:=by rw[hy,Nat.mul_add,Nat.mul_assoc]
  rw[Nat.add_mul] at m4
  refine⟨tY*y - tX*x,⟨by simp,fun _=> ?_⟩,?_⟩<;>omega
 ·obtain⟨h1,h2,h3⟩:=hi.2 rfl
  have q1:=hQ.2 rfl
  have f1:a*F+nX*a0*F=nY*b0*F:=by rw[←Nat.add_mul,h1]
  have f2:b*F+tY*b0*F=tX*a0*F:=by rw[←Nat.add_mul,h2]
  have g1:nX*x=nX*a0*F+nX*x0:=by rw[hx,Nat.mul_add,Nat.mul_assoc]
  have g2:nY*y=nY*b0*F+nY*y0:=by rw[hy,Nat.mul_add,Nat.mul_assoc]
  have g3:tX*x=tX*a0*F+tX*x0:=by rw[hx,Nat.mul_add,Nat.mul_assoc]
  have g4:tY*y=tY*b0*F+tY*y0:=by rw[hy,Nat.mul_add,Nat.mul_assoc]
  rw[Nat.add_mul] at m3
  refine⟨tX*x - tY*y,⟨fun _=> ?_,by simp⟩,?_⟩<;>omega
theorem QIs.sums {x y a0 b0:Nat}{e:Bool}{nX nY tX tY a b Q V:Nat}(hi:LInv a0 b0 e nX nY tX tY a b)(hQ:QIs x y e nX nY Q)(hV:QIs x y (!e) tX tY V):x=tY*Q+nY*V∧y=tX*Q+nX*V:=by
 cases e
 ·obtain⟨h1,h2,h3⟩:=hi.1 rfl
  have q1:=hQ.1 rfl
  have q2:=hV.2 rfl
  constructor<;>grind
 ·obtain⟨h1,h2,h3⟩:=hi.2 rfl
  have q1:=hQ.2 rfl
  have q2:=hV.1 rfl
  constructor<;>grind
theorem LS.next {x y a0 b0 x0 y0 F q r:Nat}{e:Bool}{oX oY nX nY tX tY a b:Nat}(hx:x=a0*F+x0)(hy:y=b0*F+y0)(hx0:x0<F)(hy0:y0<F)(h:LS x y a0 b0 e oX oY nX nY tX tY a b)(hb:tY≤b)(hab:b+(nY+tY)≤a)(hb1:1≤b)
  (hq:a=b*q+r) (hr:r<b):LS x y a0 b0 (!e) nX nY tX tY (nX+q*tX) (nY+q*tY) b r:=by
 refine⟨h.inv.next hq,by omega,Or.inr ?_⟩
 have hq1:1≤q:=by
  rcases Nat.eq_zero_or_pos q with h0|h0
  ·subst h0;omega
  ·exact h0
 rcases h.k with ⟨rfl,rfl,rfl,rfl,rfl,rfl,rfl⟩|⟨k1,k2,k3,k4,⟨Q,k5,k6⟩,k7⟩
 ·refine⟨by omega,by omega,by omega,hb1,⟨y,⟨by simp,fun _=>by omega⟩,Nat.le_refl _⟩,Or.inl rfl⟩
 ·obtain⟨V,v1,v2⟩:=Rc hx hy hx0 hy0 h.inv k1 k2 k3 hb hab k5
  obtain⟨s1,s2⟩:=QIs.sums h.inv k5 v1
  have ht1:1≤tY:=by
   rcases Nat.eq_zero_or_pos tY with h0|h0
   ·have hx:tX=0:=by omega
    cases e
    ·have:=(h.inv.1 rfl).2.2
     rw[h0,hx] at this
     omega
    ·have:=(h.inv.2 rfl).2.2
     rw[h0,hx] at this
     omega
   ·exact h0
  have hm:q*tX≤q*tY:=Nat.mul_le_mul_left _ k2
  exact⟨k2,by omega,ht1,hb,⟨V,v1,by omega⟩,Or.inr ⟨Q,V,by simpa using k5,v1,v2,k6,s1,s2⟩⟩
theorem nV.gcd {x y:Nat}{e:Bool}{oX oY nX nY P Q:Nat}(hP:QIs x y (!e) oX oY P)(hQ:QIs x y e nX nY Q)(h1:x=nY*P+oY*Q)(h2:y=nX*P+oX*Q):Nat.gcd P Q=Nat.gcd x y:=by
 apply Nat.dvd_antisymm
 ·apply Nat.dvd_gcd
  ·rw[h1]
   exact Nat.dvd_add (Nat.dvd_mul_left_of_dvd (Nat.gcd_dvd_left P Q) _) (Nat.dvd_mul_left_of_dvd (Nat.gcd_dvd_right P Q) _)
  ·rw[h2]
   exact Nat.dvd_add (Nat.dvd_mul_left_of_dvd (Nat.gcd_dvd_left P Q) _) (Nat.dvd_mul_left_of_dvd (Nat.gcd_dvd_right P Q) _)
 ·have dx:=Nat.gcd_dvd_left x y
  have dy:=Nat.gcd_dvd_right x y
  apply Nat.dvd_gcd
  ·cases e
   ·have:=hP.2 rfl
    refine(Nat.dvd_add_right (Nat.dvd_mul_left_of_dvd dx oX)).1 ?_
    rw[Nat.add_comm,this]
    exact Nat.dvd_mul_left_of_dvd dy _
   ·have:=hP.1 rfl
    refine(Nat.dvd_add_right (Nat.dvd_mul_left_of_dvd dy oY)).1 ?_
    rw[Nat.add_comm,this]
    exact Nat.dvd_mul_left_of_dvd dx _
  ·cases e
   ·have:=hQ.1 rfl
    refine(Nat.dvd_add_right (Nat.dvd_mul_left_of_dvd dy nY)).1 ?_
    rw[Nat.add_comm,this]
    exact Nat.dvd_mul_left_of_dvd dx _
   ·have:=hQ.2 rfl
    refine(Nat.dvd_add_right (Nat.dvd_mul_left_of_dvd dx nX)).1 ?_
    rw[Nat.add_comm,this]
    exact Nat.dvd_mul_left_of_dvd dy _
end Go.Proofs.YtlhmfgbaefaneaaGreatDoor.nat
namespace Go.Proofs.YtlhmfgbaefaneaaGreatDoor.nat
open Go.RowKit
theorem sU {w:World}{d:Nat} :Rd (w.alloc (.cells #[Value.int .u64 (d:Int)] 104)) (.slice (some ⟨w.heap.size,0,none⟩) 1 1) [d]:=(gN (w:=w) (d:=d) (B:=w.heap.size) (Nat.le_refl _)).rd
theorem vT (sx sy:Value)(x y:List Nat)(p q:Nat)(w:World)(hx:Rd w sx x)(hy:Rd w sy y)(hdx:Dig x)(hdy:Dig y)(hp:p<18446744073709551616)(hq:q<18446744073709551616)(hle:val y*q≤val x*p)(hn:x.length≤1000000)(hm:y.length≤1000000):
  Calls Tryz.prog 259 #[sx,.int .u64 (p:Nat),sy,.int .u64 (q:Nat)] w fun e w'=>∃sv,e= .returned sv∧Own w' w.heap.size sv (digs (val x*p - val y*q))∧Below w.heap.size w w':=by
 obtain⟨ao,xcap,rfl,⟨h1,-⟩,h2,-⟩:=id hx
 obtain⟨bo,ycap,rfl,⟨k1,-⟩,k2,-⟩:=id hy
 obtain⟨N,hN⟩:∃N,x.length=N:=⟨_,rfl⟩
 obtain⟨M,hM⟩:∃M,y.length=M:=⟨_,rfl⟩
 obtain⟨S,hS,hS1,hS2,hS3⟩:∃S:Nat,max (N:Int) (M:Int)=(S:Int)∧N≤S∧M≤S∧S≤1000000:=⟨max N M,by omega,by omega,by omega,by omega⟩
 rw[hN] at h1 hn hx ⊢
 rw[hM] at k1 hm hy ⊢
 obtain⟨W1,hmk,hrow,hb⟩:=lZ w ((S:Int)+1) (S+1) (by omega) (by omega)
 have HX:=Lib.hid hx
 have HY:=Lib.hid hy
 have HDX:=Lib.hid hdx
 have HDY:=Lib.hid hdy
 have HN:=Lib.hid hN
 have HM:=Lib.hid hM
 have HLE:=Lib.hid hle
 have HB1:=Lib.hid hb
 have HG:=Lib.hid (show w.heap.size<W1.heap.size from hrow.lt)
 have AP:=Lib.hid (nZ w.heap.size 0 (S+1) (S+1) p (.slice ao N xcap) [] (List.replicate (S+1) 0) [] x W1 rfl (by simp) hrow.whole (fQ _) (hx.below hb) (hx.apart (Nat.le_refl _)) hdx (by omega) hp (by omega))
 have i1: (N:Int)<(S:Int)+1:=by omega
 have i2: (M:Int)≤(S:Int)+1:=by omega
 have i3:¬(S+1=M):=by omega
 have i4:¬(M=S+1):=by omega
 clear hx hy hdx hdy hN hM hle hb hrow
 go_enter Tryz.func259,Tryz.ntmps259
 go_wp2_with (first
  |(go_at_call 253;refine(AP.out).mono ?_;rintro e w2 ⟨Z1,a,rfl,⟨hl1,hd1,hab,hv1,hu1,hr1⟩,hg1⟩
    have r1:=hr1.vW
    have c1:=r1.cell N (by rw[hl1];omega)
    have f1:=r1.free N
    have hz1:dg Z1 N=0:=by rw[hu1 N (by rw[HN.out];omega),jR]
    have v2:val (Z1.set N a)=val x*p:=by
     have:=gB (l:=Z1) (j:=N) (d:=a) (by omega)
     rw[hz1,Nat.mul_zero,Nat.add_zero,←HN.out,hv1,fU,Nat.zero_add,HN.out] at this
     exact this
    have r2:=r1.set N (by rw[hl1];omega) (u:=(a:Int)) (d:=a) rfl
    have b2:=below_grown HB1.out hg1 HB1.out.size (Nat.le_refl _)
    have b3:=below_grown b2 (bZ w2 w.heap.size N (.int .u64 (a:Int))) b2.size (Nat.le_refl _)
    have SP:=Lib.hid (oU w.heap.size 0 (S+1) (S+1) q (.slice bo M ycap) [] (Z1.set N a) [] y _ rfl (by rw[List.length_set,hl1]) r2.whole (hd1.set hab) (HY.out.below b3) (HY.out.apart (Nat.le_refl _)) HDY.out (by rw[HM.out];omega) hq (by omega))
    have HV2:=Lib.hid v2
    have HB3:=Lib.hid b3
    clear AP hl1 hd1 hab hv1 hu1 hr1 hg1 r1 hz1 v2 r2 b2 b3)
  |(go_at_call 275;refine(SP.out).mono ?_;rintro e w3 ⟨Z3,owed,rfl,⟨hl3,hd3,hob,hv3,-,hr3⟩,hg3⟩
    have r3:=hr3.vW
    have b4:=below_grown HB3.out hg3 HB3.out.size (Nat.le_refl _)
    rw[HV2.out,HM.out] at hv3
    have p3:=kL Z3 M (by omega)
    have t3:=bG (hd3.take M) (show(Z3.take M).length≤M by rw[List.length_take];omega)
    have how:owed≤val (Z3.drop M):=by
     rcases Nat.lt_or_ge (val (Z3.drop M)) owed with h|h
     ·exfalso
      have h5:18446744073709551616 ^ M*(val (Z3.drop M)+1)≤18446744073709551616 ^ M*owed:=Nat.mul_le_mul_left _ h
      rw[Nat.mul_succ] at h5
      have:=HLE.out
      omega
     ·exact h
    have hlt: (Z3.take M).length=M:=by rw[List.length_take];omega
    have hba:Below w3.heap.size w3 (w3.alloc (.cells #[Value.int .u64 (owed:Int)] 104)):=(Below.refl _ _).alloc (Nat.le_refl _) _
    have SF:=Lib.hid (uZ w.heap.size M (S+1 - M) (S+1 - M) (.slice (some ⟨w3.heap.size,0,none⟩) 1 1) (Z3.take M) (Z3.drop M) [] [owed] (w3.alloc (.cells #[Value.int .u64 (owed:Int)] 104)) hlt (by rw[List.length_drop];omega) (by simpa using (r3.below hba r3.lt)) (hd3.drop _) sU
     (by rintro ad n c he _;simp only[Value.slice.injEq,Option.some.injEq] at he;obtain⟨rfl,_,_⟩:=he;have:=r3.lt;simp only;omega) (Dig.cons hob Dig.nil) (by simp;omega) (by simpa[val] using how) (by omega) (Nat.le_refl _) (by unfold maxLen;omega))
    have HFin:=Lib.hid (show ∀V,V+owed=val (Z3.drop M)→val (Z3.take M)+18446744073709551616 ^ M*V=val x*p - val y*q from fun V hV=>by
     have h6:18446744073709551616 ^ M*V+18446744073709551616 ^ M*owed=18446744073709551616 ^ M*val (Z3.drop M):=by rw[←Nat.mul_add,hV]
     omega)
    have HB5:=Lib.hid (b4.trans (hba.mono b4.size))
    have HD3:=Lib.hid (hd3.take M)
    have HL3:=Lib.hid hlt
    clear SP hl3 hd3 hob hv3 hr3 hg3 r3 b4 p3 t3 how hlt hba)
  |(go_at_call 224;refine(SF.out).mono ?_;rintro e w5 ⟨Z5,rfl,⟨hl5,hd5,hv5,hr5⟩,hg5⟩
    have r5:Row w5 w.heap.size (Z3.take M++Z5):=by simpa using hr5
    have l5: (Z3.take M++Z5).length=S+1:=by rw[List.length_append,HL3.out,hl5];omega
    have hO:Own w5 w.heap.size (.slice (some ⟨w.heap.size,0,none⟩) (S+1) (S+1)) (Z3.take M++Z5):=by
     have:=Own.gK (cap:=S+1) r5 (Nat.le_refl _) (by omega) (by unfold maxLen;omega)
     rwa [l5] at this
    have v5:val (Z3.take M++Z5)=val x*p - val y*q:=by
     rw[val_append,HL3.out]
     exact HFin.out _ (by simpa[val] using hv5)
    have HT:=Lib.hid (dG _ _ w5 hO (by omega) (HD3.out.append hd5))
    rw[v5] at HT
    have HB6:=Lib.hid (below_grown HB5.out hg5 HB5.out.size (Nat.le_refl _))
    clear SF hl5 hd5 hv5 hr5 hg5 r5 l5 hO v5)
  |(go_at_call 209;refine(HT.out).mono ?_;rintro e w6 ⟨sv,rfl,ho,rfl⟩;have HO:=Lib.hid ho;clear HT ho))
 go_ret
 exact⟨sv,rfl,HO.out,HB6.out⟩
end Go.Proofs.YtlhmfgbaefaneaaGreatDoor.nat
namespace Go.Proofs.YtlhmfgbaefaneaaGreatDoor.nat
open Go.RowKit
def hi2 (l:List Nat)(N:Nat):Nat:=dg l (N - 1)*18446744073709551616+dg l (N - 2)
theorem Dn {l:List Nat}{N:Nat}(hl:l.length≤N)(hN:2≤N):val l=val (l.take (N - 2))+18446744073709551616 ^ (N - 2)*hi2 l N:=by
 obtain⟨k,rfl⟩:∃k,N=k+2:=⟨N - 2,by omega⟩
 have h0:val l=val (l.take (k+1+1)):=by rw[List.take_of_length_le (by omega)]
 have p1:18446744073709551616 ^ (k+1)=18446744073709551616 ^ k*18446744073709551616:=by rw[Nat.pow_succ]
 rw[h0,aQ,aQ,p1,Nat.mul_assoc,Nat.add_assoc,←Nat.mul_add]
 unfold hi2
 rw[show k+2 - 1=k+1 by omega,show k+2 - 2=k by omega]
 congr 2
 omega
theorem xK {l:List Nat}{N R:Nat}(hl:l.length≤N)(hN:2≤N)(hd:Dig l):∃x0,val l=hi2 l N/2 ^ R*(18446744073709551616 ^ (N - 2)*2 ^ R)+x0∧x0<18446744073709551616 ^ (N - 2)*2 ^ R:=by
 have h1:=Dn hl hN
 have h2:=Nat.div_add_mod (hi2 l N) (2 ^ R)
 have h3:=bG (hd.take (N - 2)) (show(l.take (N - 2)).length≤N - 2 by rw[List.length_take];omega)
 have h4:hi2 l N%2 ^ R+1≤2 ^ R:=Nat.mod_lt _ (Nat.pow_pos (by omega))
 have h5:=Nat.mul_le_mul_left (18446744073709551616 ^ (N - 2)) h4
 rw[Nat.mul_succ] at h5
 refine⟨val (l.take (N - 2))+18446744073709551616 ^ (N - 2)*(hi2 l N%2 ^ R),?_,by omega⟩
 have h6:18446744073709551616 ^ (N - 2)*hi2 l N=hi2 l N/2 ^ R*(18446744073709551616 ^ (N - 2)*2 ^ R)+18446744073709551616 ^ (N - 2)*(hi2 l N%2 ^ R):=by
  rw[←Nat.mul_assoc,Nat.mul_comm (hi2 l N/2 ^ R),Nat.mul_assoc,←Nat.mul_add,Nat.mul_comm (hi2 l N/2 ^ R),h2]
 omega
theorem rQ {l:List Nat}{N s:Nat}(hs:s≤63):hi2 l N/2 ^ (64 - s)=dg l (N - 1)*2 ^ s+dg l (N - 2)/2 ^ (64 - s):=by
 unfold hi2
 have e: (18446744073709551616:Nat)=2 ^ s*2 ^ (64 - s):=by rw[←Nat.pow_add,show s+(64 - s)=64 by omega]
 rw[e,←Nat.mul_assoc,Nat.mul_comm _ (2 ^ (64 - s)),Nat.mul_add_div (Nat.pow_pos (by omega))]
theorem Gd {t s:Nat}(ht:t<18446744073709551616)(hs:s≤63):t/2 ^ (64 - s)<2 ^ s:=by
 rw[Nat.div_lt_iff_lt_mul (Nat.pow_pos (by omega)),←Nat.pow_add,show s+(64 - s)=64 by omega]
 exact ht
theorem Zn {x y:List Nat}{N R:Nat}(hx:x.length≤N)(hy:y.length≤N)(hN:2≤N)(hdx:Dig x)(hle:val y≤val x):hi2 y N≤hi2 x N∧hi2 y N/2 ^ R≤hi2 x N/2 ^ R∧(dg x (N - 2)<18446744073709551616→dg y (N - 1)≤dg x (N - 1)):=by
 have h1:=Dn hx hN
 have h2:=Dn hy hN
 have h3:=bG (hdx.take (N - 2)) (show(x.take (N - 2)).length≤N - 2 by rw[List.length_take];omega)
 have h4:hi2 y N≤hi2 x N:=by
  rcases Nat.lt_or_ge (hi2 x N) (hi2 y N) with h|h
  ·exfalso
   have h5:18446744073709551616 ^ (N - 2)*(hi2 x N+1)≤18446744073709551616 ^ (N - 2)*hi2 y N:=Nat.mul_le_mul_left _ h
   rw[Nat.mul_succ] at h5
   omega
  ·exact h
 refine⟨h4,Nat.div_le_div_right h4,fun ht=> ?_⟩
 unfold hi2 at h4
 omega
end Go.Proofs.YtlhmfgbaefaneaaGreatDoor.nat
