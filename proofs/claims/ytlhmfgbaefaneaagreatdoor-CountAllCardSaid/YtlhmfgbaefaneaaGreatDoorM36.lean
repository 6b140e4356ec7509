/-
  The steps of the walks, part 36: DecB, DecW, DecKit.
-/
import Derived.Test.YtlhmfgbaefaneaaGreatDoorM34
import Derived.Test.YtlhmfgbaefaneaaGreatDoorM35
import Derived.Test.YtlhmfgbaefaneaaGreatDoorM33
import Derived.Test.YtlhmfgbaefaneaaGreatDoorM04
import Derived.Test.YtlhmfgbaefaneaaGreatDoorM22
import Derived.Test.YtlhmfgbaefaneaaGreatDoorM31
import Derived.Test.YtlhmfgbaefaneaaGreatDoorM03
import Derived.Test.YtlhmfgbaefaneaaGreatDoorM07
set_option maxHeartbeats 4000000
set_option maxRecDepth 100000
namespace Go.Proofs.YtlhmfgbaefaneaaGreatDoor.dec
open Go.RowKit Go.Proofs.YtlhmfgbaefaneaaGreatDoor.nat Go.Proofs.YtlhmfgbaefaneaaGreatDoor.num Go.Proofs.YtlhmfgbaefaneaaGreatDoor.ch
open Go.Proofs.YtlhmfgbaefaneaaGreatDoor.rat (IsR Lr)
open Go.Proofs.YtlhmfgbaefaneaaGreatDoor.ref (str aD aJ cB iX signed bQ)
theorem Eh (a:Value)(q:Rat)(k:Nat)(mode:Int)(w:World)(ha:IsR w a q)(sq:Lr q 20000)(hk:k≤20)(hm:mode=1∨mode=2∨mode=3)(hs:sg q.num= -1):
  Calls Tryz.prog 146 #[a,.int .i64 (k:Nat),.int .i64 mode] w fun e w'=>e= .returned (.tuple #[.string (str (bQ (signed true (cB (q.num.natAbs*10 ^ k) q.den mode)) k)),.nilIface])∧Below w.heap.size w w':=by
 have H_a:=Lib.hid ha
 clear ha
 have h10:=mR hk
 have hT:Ln (q.num.natAbs*10 ^ k) 20021:=nS (tH sq.1) h10
 have:=SN.mk hT
 have:=fun mode=>SN.mk (Bo (x:=q.num.natAbs*10 ^ k) (d:=q.den) mode hT)
 have:=SZ.mk (show Lz q.num 20000 from sq.1)
 have:=SN.mk (show Ln q.den 20000 from sq.2)
 go_enter Tryz.func146,Tryz.ntmps146
 go_wp2_with (first
  |(go_at_call 185;(with_reducible refine cs (lK (k:Int) _ ⟨by omega,by omega⟩) ?_))
  |(go_at_call 186;(with_reducible refine cs (jF mode _ hm) ?_))
  |(go_at_call 150;(with_reducible refine cb (by (have c:=fun W v0 hh0=>rat.dX v0 q W hh0);(rw[hs] at c);exact c _ _ carry) ?_);intro W1 HB1)
  |(go_at_call 188;(with_reducible refine cx (iR _ q k mode _ carry sq hk) ?_);intro W2 u H_u N_u HB2)
  |(go_at_call 187;(with_reducible refine cb (oV true _ (cB (q.num.natAbs*10 ^ k) q.den mode) k _ carry sized hk) ?_);intro W3 HB3)
  |(fail "no arm"))
 go_ret2
 exact⟨rfl,steps⟩
theorem Je (a:Value)(q:Rat)(k:Nat)(mode:Int)(w:World)(ha:IsR w a q)(sq:Lr q 20000)(hk:k≤20)(hm:mode=1∨mode=2∨mode=3)(hs:sg q.num=0):
  Calls Tryz.prog 146 #[a,.int .i64 (k:Nat),.int .i64 mode] w fun e w'=>e= .returned (.tuple #[.string (str (bQ (signed false (cB (q.num.natAbs*10 ^ k) q.den mode)) k)),.nilIface])∧Below w.heap.size w w':=by
 have H_a:=Lib.hid ha
 clear ha
 have h10:=mR hk
 have hT:Ln (q.num.natAbs*10 ^ k) 20021:=nS (tH sq.1) h10
 have:=SN.mk hT
 have:=fun mode=>SN.mk (Bo (x:=q.num.natAbs*10 ^ k) (d:=q.den) mode hT)
 have:=SZ.mk (show Lz q.num 20000 from sq.1)
 have:=SN.mk (show Ln q.den 20000 from sq.2)
 go_enter Tryz.func146,Tryz.ntmps146
 go_wp2_with (first
  |(go_at_call 185;(with_reducible refine cs (lK (k:Int) _ ⟨by omega,by omega⟩) ?_))
  |(go_at_call 186;(with_reducible refine cs (jF mode _ hm) ?_))
  |(go_at_call 150;(with_reducible refine cb (by (have c:=fun W v0 hh0=>rat.dX v0 q W hh0);(rw[hs] at c);exact c _ _ carry) ?_);intro W1 HB1)
  |(go_at_call 188;(with_reducible refine cx (iR _ q k mode _ carry sq hk) ?_);intro W2 u H_u N_u HB2)
  |(go_at_call 187;(with_reducible refine cb (oV false _ (cB (q.num.natAbs*10 ^ k) q.den mode) k _ carry sized hk) ?_);intro W3 HB3)
  |(fail "no arm"))
 go_ret2
 exact⟨rfl,steps⟩
theorem Eg (a:Value)(q:Rat)(k:Nat)(mode:Int)(w:World)(ha:IsR w a q)(sq:Lr q 20000)(hk:k≤20)(hm:mode=1∨mode=2∨mode=3)(hs:sg q.num=1):
  Calls Tryz.prog 146 #[a,.int .i64 (k:Nat),.int .i64 mode] w fun e w'=>e= .returned (.tuple #[.string (str (bQ (signed false (cB (q.num.natAbs*10 ^ k) q.den mode)) k)),.nilIface])∧Below w.heap.size w w':=by
 have H_a:=Lib.hid ha
 clear ha
 have h10:=mR hk
 have hT:Ln (q.num.natAbs*10 ^ k) 20021:=nS (tH sq.1) h10
 have:=SN.mk hT
 have:=fun mode=>SN.mk (Bo (x:=q.num.natAbs*10 ^ k) (d:=q.den) mode hT)
 have:=SZ.mk (show Lz q.num 20000 from sq.1)
 have:=SN.mk (show Ln q.den 20000 from sq.2)
 go_enter Tryz.func146,Tryz.ntmps146
 go_wp2_with (first
  |(go_at_call 185;(with_reducible refine cs (lK (k:Int) _ ⟨by omega,by omega⟩) ?_))
  |(go_at_call 186;(with_reducible refine cs (jF mode _ hm) ?_))
  |(go_at_call 150;(with_reducible refine cb (by (have c:=fun W v0 hh0=>rat.dX v0 q W hh0);(rw[hs] at c);exact c _ _ carry) ?_);intro W1 HB1)
  |(go_at_call 188;(with_reducible refine cx (iR _ q k mode _ carry sq hk) ?_);intro W2 u H_u N_u HB2)
  |(go_at_call 187;(with_reducible refine cb (oV false _ (cB (q.num.natAbs*10 ^ k) q.den mode) k _ carry sized hk) ?_);intro W3 HB3)
  |(fail "no arm"))
 go_ret2
 exact⟨rfl,steps⟩
theorem Tp (a:Value)(q:Rat)(k:Nat)(mode:Int)(w:World)(ha:IsR w a q)(sq:Lr q 20000)(hk:k≤20)(hm:mode=1∨mode=2∨mode=3):
  Calls Tryz.prog 146 #[a,.int .i64 (k:Nat),.int .i64 mode] w fun e w'=>e= .returned (.tuple #[.string (str (Dh q k mode)),.nilIface])∧Below w.heap.size w w':=by
 unfold Dh
 rcases Ay q.num with ⟨hs,hb⟩|⟨hs,hb⟩|⟨hs,hb⟩<;>rw[hb]
 ·exact Eh a q k mode w ha sq hk hm hs
 ·exact Je a q k mode w ha sq hk hm hs
 ·exact Eg a q k mode w ha sq hk hm hs
theorem wL (a:Value)(q:Rat)(mode:Int)(w:World)(ha:IsR w a q)(sq:Lr q 20000)(hm:mode=1∨mode=2∨mode=3)(hs:sg q.num= -1)(h1: -9223372036854775808≤signed true (cB q.num.natAbs q.den mode))(h2:signed true (cB q.num.natAbs q.den mode)<9223372036854775808):
  Calls Tryz.prog 148 #[a,.int .i64 mode] w fun e w'=>e= .returned (.tuple #[.int .i64 (signed true (cB q.num.natAbs q.den mode)),.nilIface])∧Below w.heap.size w w':=by
 have H_a:=Lib.hid ha
 clear ha
 have RO:=fun W (v:Value)(h:IsR W v q)=>iR v q 0 mode W h sq (by decide)
 rw[show q.num.natAbs*10 ^ 0=q.num.natAbs by rw[Nat.pow_zero,Nat.mul_one],show((0:Nat):Int)=0 from rfl] at RO
 have RO:=Lib.hid RO
 go_enter Tryz.func148,Tryz.ntmps148
 go_wp2_with (first
  |(go_at_call 150;(with_reducible refine cb (by (have c:=fun W v0 hh0=>rat.dX v0 q W hh0);(rw[hs] at c);exact c _ _ carry) ?_);intro W1 HB1)
  |(go_at_call 188;(with_reducible refine cx (RO.out _ _ carry) ?_);intro W2 u H_u N_u HB2)
  |(go_at_call 128;(with_reducible refine cx (num.dD true _ (cB q.num.natAbs q.den mode) _ carry) ?_);intro W3 z H_z N_z HB3
    rw[kW] at H_z)
  |(go_at_call 192;(with_reducible refine cs (num.wJ _ (signed true (cB q.num.natAbs q.den mode)) _ carry h1 h2) ?_))
  |(go_at_call 186;(with_reducible refine cs (jF mode _ hm) ?_))
  |(fail "no arm"))
 go_ret2
 exact⟨rfl,steps⟩
theorem zC (a:Value)(q:Rat)(mode:Int)(w:World)(ha:IsR w a q)(sq:Lr q 20000)(hm:mode=1∨mode=2∨mode=3)(hs:sg q.num=0)(h1: -9223372036854775808≤signed false (cB q.num.natAbs q.den mode))(h2:signed false (cB q.num.natAbs q.den mode)<9223372036854775808):
  Calls Tryz.prog 148 #[a,.int .i64 mode] w fun e w'=>e= .returned (.tuple #[.int .i64 (signed false (cB q.num.natAbs q.den mode)),.nilIface])∧Below w.heap.size w w':=by
 have H_a:=Lib.hid ha
 clear ha
 have RO:=fun W (v:Value)(h:IsR W v q)=>iR v q 0 mode W h sq (by decide)
 rw[show q.num.natAbs*10 ^ 0=q.num.natAbs by rw[Nat.pow_zero,Nat.mul_one],show((0:Nat):Int)=0 from rfl] at RO
 have RO:=Lib.hid RO
 go_enter Tryz.func148,Tryz.ntmps148
 go_wp2_with (first
  |(go_at_call 150;(with_reducible refine cb (by (have c:=fun W v0 hh0=>rat.dX v0 q W hh0);(rw[hs] at c);exact c _ _ carry) ?_);intro W1 HB1)
  |(go_at_call 188;(with_reducible refine cx (RO.out _ _ carry) ?_);intro W2 u H_u N_u HB2)
  |(go_at_call 128;(with_reducible refine cx (num.dD false _ (cB q.num.natAbs q.den mode) _ carry) ?_);intro W3 z H_z N_z HB3
    rw[kW] at H_z)
  |(go_at_call 192;(with_reducible refine cs (num.wJ _ (signed false (cB q.num.natAbs q.den mode)) _ carry h1 h2) ?_))
  |(go_at_call 186;(with_reducible refine cs (jF mode _ hm) ?_))
  |(fail "no arm"))
 go_ret2
 exact⟨rfl,steps⟩
theorem wK (a:Value)(q:Rat)(mode:Int)(w:World)(ha:IsR w a q)(sq:Lr q 20000)(hm:mode=1∨mode=2∨mode=3)(hs:sg q.num=1)(h1: -9223372036854775808≤signed false (cB q.num.natAbs q.den mode))(h2:signed false (cB q.num.natAbs q.den mode)<9223372036854775808):
  Calls Tryz.prog 148 #[a,.int .i64 mode] w fun e w'=>e= .returned (.tuple #[.int .i64 (signed false (cB q.num.natAbs q.den mode)),.nilIface])∧Below w.heap.size w w':=by
 have H_a:=Lib.hid ha
 clear ha
 have RO:=fun W (v:Value)(h:IsR W v q)=>iR v q 0 mode W h sq (by decide)
 rw[show q.num.natAbs*10 ^ 0=q.num.natAbs by rw[Nat.pow_zero,Nat.mul_one],show((0:Nat):Int)=0 from rfl] at RO
 have RO:=Lib.hid RO
 go_enter Tryz.func148,Tryz.ntmps148
 go_wp2_with (first
  |(go_at_call 150;(with_reducible refine cb (by (have c:=fun W v0 hh0=>rat.dX v0 q W hh0);(rw[hs] at c);exact c _ _ carry) ?_);intro W1 HB1)
  |(go_at_call 188;(with_reducible refine cx (RO.out _ _ carry) ?_);intro W2 u H_u N_u HB2)
  |(go_at_call 128;(with_reducible refine cx (num.dD false _ (cB q.num.natAbs q.den mode) _ carry) ?_);intro W3 z H_z N_z HB3
    rw[kW] at H_z)
  |(go_at_call 192;(with_reducible refine cs (num.wJ _ (signed false (cB q.num.natAbs q.den mode)) _ carry h1 h2) ?_))
  |(go_at_call 186;(with_reducible refine cs (jF mode _ hm) ?_))
  |(fail "no arm"))
 go_ret2
 exact⟨rfl,steps⟩
theorem Tw (a:Value)(q:Rat)(mode:Int)(w:World)(ha:IsR w a q)(sq:Lr q 20000)(hm:mode=1∨mode=2∨mode=3)(h1: -9223372036854775808≤signed (decide (q.num<0)) (cB q.num.natAbs q.den mode))(h2:signed (decide (q.num<0)) (cB q.num.natAbs q.den mode)<9223372036854775808):
  Calls Tryz.prog 148 #[a,.int .i64 mode] w fun e w'=>e= .returned (.tuple #[.int .i64 (signed (decide (q.num<0)) (cB q.num.natAbs q.den mode)),.nilIface])∧Below w.heap.size w w':=by
 rcases Ay q.num with ⟨hs,hb⟩|⟨hs,hb⟩|⟨hs,hb⟩<;>rw[hb] at h1 h2 ⊢
 ·exact wL a q mode w ha sq hm hs h1 h2
 ·exact zC a q mode w ha sq hm hs h1 h2
 ·exact wK a q mode w ha sq hm hs h1 h2
end Go.Proofs.YtlhmfgbaefaneaaGreatDoor.dec
namespace Go.Proofs.YtlhmfgbaefaneaaGreatDoor.dec
open Go.Proofs.YtlhmfgbaefaneaaGreatDoor.ref (pad aY fM fC dB dJ bQ signed cB iX bA seg ch bU dI eG pY yL pV iO)
open Go.Proofs.YtlhmfgbaefaneaaGreatDoor.nat (mD Nj)
theorem Gr (m x:Nat)(h:x<10 ^ (m+1)):∀j,pad (j+(m+1)) x=List.replicate j 48++pad (m+1) x
 |0=>by rw[Nat.zero_add];rfl
 |j+1=>by
  rw[show j+1+(m+1)=(j+(m+1))+1 by omega,fM (Nat.lt_of_lt_of_le h (Nat.pow_le_pow_right (by omega) (by omega))),Gr m x h j]
  rfl
theorem Pg (x:Nat):∃m,x<10 ^ (m+1)∧(m=0∨10 ^ m≤x):=by
 obtain⟨m,h1,h2,-⟩:=pV x x (Nat.lt_of_lt_of_le (Nat.lt_pow_self (by omega)) (Nat.pow_le_pow_right (by omega) (Nat.le_succ x)))
 exact⟨m,h1,h2⟩
theorem oD (x:Nat):dJ x 0=Lib.decDigits x:=by
 have:=iU x
 unfold dJ
 rw[if_pos rfl]
 unfold dB
 rw[show 0+1 - (Lib.decDigits x).length=0 by omega]
 rfl
theorem qG (x:Nat){k:Nat}(hk:0<k):dJ x k=Lib.decDigits (x/10 ^ k)++46::pad k x:=by
 obtain⟨m,h1,h2⟩:=Pg x
 have hD:Lib.decDigits x=pad (m+1) x:=(fC m x h1 h2).symm
 obtain⟨M,hM⟩:∃M,M=max k m:=⟨_,rfl⟩
 have hP:dB (Lib.decDigits x) k=pad (M+1) x:=by
  unfold dB
  rw[hD,aY,←Gr m x h1,show k+1 - (m+1)+(m+1)=M+1 by omega]
 have hS:pad (M+1) x=pad (M+1 - k) (x/10 ^ k)++pad k x:=by
  have:=mD (M+1 - k) x k
  rwa [show M+1 - k+k=M+1 by omega] at this
 have hQ:pad (M+1 - k) (x/10 ^ k)=Lib.decDigits (x/10 ^ k):=by
  rw[show M+1 - k=(M - k)+1 by omega]
  refine fC (M - k) _ ?_ ?_
  ·rw[Nat.div_lt_iff_lt_mul (Nat.pow_pos (by omega)),←Nat.pow_add,show M - k+1+k=M+1 by omega]
   exact Nat.lt_of_lt_of_le h1 (Nat.pow_le_pow_right (by omega) (by omega))
  ·rcases(show M=k∨k<m∧M=m by omega) with h3|⟨h3,h4⟩
   ·exact Or.inl (by omega)
   ·refine Or.inr ?_
    rw[Nat.le_div_iff_mul_le (Nat.pow_pos (by omega)),←Nat.pow_add,show M - k+k=m by omega]
    omega
 unfold dJ
 rw[if_neg (by omega),hP,aY,hS]
 have hl: (pad (M+1 - k) (x/10 ^ k)).length=M+1 - k:=aY _ _
 rw[List.take_left' hl,List.drop_left' hl,hQ]
theorem Oz {x k p:Nat}(h:x<10 ^ (p+1))(hp:p<4000)(hk:k≤20):dI (dJ x k) x k:=by
 rcases Nat.eq_zero_or_pos k with rfl|h0
 ·rw[oD]
  obtain⟨h1,h2,-⟩:=iO h hp
  exact Or.inl ⟨rfl,h1,h2.symm⟩
 ·rw[qG x h0]
  obtain⟨h1,h2,-⟩:=iO (x:=x/10 ^ k) (Nat.lt_of_le_of_lt (Nat.div_le_self _ _) h) hp
  obtain⟨h3,h4⟩:=pY k x
  refine Or.inr ⟨_,_,rfl,h1,aY _ _,h0,hk,h3,?_⟩
  rw[h2,h4,Nat.mul_comm]
  exact(Nat.div_add_mod _ _).symm
theorem Rk {x k p:Nat}{below:Bool}(h:x<10 ^ (p+1))(hp:p<4000)(hk:k≤20)(hl: (bQ (signed below x) k).length≤60):
  eG (bQ (signed below x) k) (below&&decide (x≠0)) x k:=by
 refine⟨hl,dJ x k,?_,?_,Oz h hp hk⟩
 ·rw[jA]
  cases below<;>by_cases h0:x=0<;>simp[h0]
 ·intro hb
  simp at hb
  exact hb.2
theorem Xq {x k p:Nat}{below:Bool}(h:x<10 ^ (p+1))(hp:p<4000): (bQ (signed below x) k).length≤max p k+3:=by
 have h1: (dJ x k).length≤max p k+2:=by
  rcases Nat.eq_zero_or_pos k with rfl|h0
  ·rw[oD]
   have:=(iO h hp).2.2
   omega
  ·rw[qG x h0,List.length_append,List.length_cons,aY]
   by_cases hkp:k≤p
   ·have h2:x/10 ^ k<10 ^ (p - k+1):=by
     rw[Nat.div_lt_iff_lt_mul (Nat.pow_pos (by omega)),←Nat.pow_add,show p - k+1+k=p+1 by omega]
     exact h
    have:=(iO h2 (by omega)).2.2
    omega
   ·have h2:x/10 ^ k=0:=Nat.div_eq_of_lt (Nat.lt_of_lt_of_le h (Nat.pow_le_pow_right (by omega) (by omega)))
    rw[h2,Lib.decDigits_length,Lib.nDigits_small (by omega)]
    omega
 rw[jA]
 split
 ·rw[List.length_cons];omega
 ·omega
theorem Hg (z:Int):signed (decide (z<0)) z.natAbs=z:=by
 unfold signed
 by_cases h:z<0<;>simp[h]<;>omega
theorem Vk {z:Int}{k p:Nat}(h:z.natAbs<10 ^ (p+1))(hp:max p k+3≤60)(hk:k≤20):eG (bQ z k) (decide (z<0)) z.natAbs k:=by
 have hl:=Xq (below:=decide (z<0)) (k:=k) h (by omega)
 have hf:=Rk (below:=decide (z<0)) h (by omega) hk (by omega)
 rw[Hg] at hf
 have e: (decide (z<0)&&decide (z.natAbs≠0))=decide (z<0):=by
  by_cases h:z<0<;>simp[h]
  omega
 rwa [e] at hf
end Go.Proofs.YtlhmfgbaefaneaaGreatDoor.dec
namespace Go.Proofs.YtlhmfgbaefaneaaGreatDoor.law2
open Go.RowKit Go.Proofs.YtlhmfgbaefaneaaGreatDoor.nat
open Go.Proofs.YtlhmfgbaefaneaaGreatDoor.ref (str eG signed bQ)
def Im (w:World)(g:Nat)(v0 v1 v2:Value):Prop:=w.cell? ⟨g,0,none⟩=some v0∧w.cell? ⟨g,1,none⟩=some v1∧w.cell? ⟨g,2,none⟩=some v2
theorem Im.below {w w':World}{g:Nat}{v0 v1 v2:Value}(h:Im w g v0 v1 v2)(hb:Below w.heap.size w w'):Im w' g v0 v1 v2:=
 ⟨(hb.cell (p:=⟨g,0,none⟩) (aO h.1)).trans h.1,(hb.cell (p:=⟨g,1,none⟩) (aO h.2.1)).trans h.2.1,(hb.cell (p:=⟨g,2,none⟩) (aO h.2.2)).trans h.2.2⟩
theorem Sd (l:List UInt8)(neg:Bool)(n k:Nat)(q:Rat)(w:World)(hq:q=((signed neg n:Int):Rat)/((10 ^ k:Nat):Rat))(h:eG l neg n k):
  Calls Tryz.prog 147 #[.string (str l)] w fun e w'=>∃u,e= .returned (.tuple #[u,.int .i64 (k:Nat),.nilIface])∧(rat.IsR w' u q∧u≠ .pointer none)∧Below w.heap.size w w':=by
 have:=dec.wF l neg n k w h
 rwa [Rat.intCast_natCast,←hq] at this
end Go.Proofs.YtlhmfgbaefaneaaGreatDoor.law2
