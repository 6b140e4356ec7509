/-
  The steps of the walks, part 34: DecA, DecCut, DecForm, RefGetDec2, DecR.
-/
import Derived.Lib.Bytealg
import Derived.Laws.Externs
import Derived.Test.YtlhmfgbaefaneaaGreatDoorM33
import Derived.Test.YtlhmfgbaefaneaaGreatDoorM24
import Derived.Test.YtlhmfgbaefaneaaGreatDoorM04
import Derived.Test.YtlhmfgbaefaneaaGreatDoorM03
set_option maxHeartbeats 4000000
set_option maxRecDepth 100000
namespace Go.Proofs.YtlhmfgbaefaneaaGreatDoor.dec
open Go.RowKit Go.Proofs.YtlhmfgbaefaneaaGreatDoor.nat Go.Proofs.YtlhmfgbaefaneaaGreatDoor.num Go.Proofs.YtlhmfgbaefaneaaGreatDoor.ch
open Go.Proofs.YtlhmfgbaefaneaaGreatDoor.rat (IsR Lr)
open Go.Proofs.YtlhmfgbaefaneaaGreatDoor.ref (str aD aJ cB iX signed bQ)
theorem nO (k:Nat)(w:World)(hk:k≤20):
  Calls Tryz.prog 191 #[.int .i64 (k:Nat)] w fun e w'=>∃u,e= .returned u∧(nat.IsN w' u (10 ^ k)∧u≠ .pointer none)∧Below w.heap.size w w':=by
 have h10:=mR hk
 have:=SN.mk h10
 go_enter Tryz.func191,Tryz.ntmps191
 go_wp2_with (first
  |(go_at_call 134;(with_reducible refine cx (nat.lJ 10 10 rfl (by decide) _) ?_);intro W1 t H_t N_t HB1)
  |(go_at_call 151;(with_reducible refine cx (nat.Me _ 10 (k:Int) _ carry sized (by omega) (by rw[Int.toNat_natCast];exact sized)) ?_);intro W2 u H_u N_u HB2
    rw[Int.toNat_natCast] at H_u)
  |(fail "no arm"))
 go_ret
 exact⟨_,rfl,⟨carry,carry⟩,steps⟩
theorem lK (z:Int)(w:World)(h:0≤z∧z≤20):
  Calls Tryz.prog 185 #[.int .i64 z] w fun e w'=>e= .returned (.bool true)∧w=w':=by
 obtain⟨h1,h2⟩:=h
 go_enter Tryz.func185,Tryz.ntmps185
 go_wp2
 go_ret
 exact⟨rfl,rfl⟩
theorem jF (m:Int)(w:World)(h:m=1∨m=2∨m=3):
  Calls Tryz.prog 186 #[.int .i64 m] w fun e w'=>e= .returned (.bool true)∧w=w':=by
 rcases h with rfl|rfl|rfl
 all_goals
  go_enter Tryz.func186,Tryz.ntmps186
  go_wp2
  go_ret
  exact⟨rfl,rfl⟩
theorem Qd (a:Value)(X:Nat)(w:World)(ha:nat.IsN w a X)(sx:Ln X 200000)(ho:X%2=1):
  Calls Tryz.prog 263 #[a] w fun e w'=>e= .returned (.bool true)∧Below w.heap.size w w':=by
 have H_a:=Lib.hid ha
 clear ha
 have HO:=Lib.hid ho
 clear ho
 have:=SN.mk (show Ln X 200000 from sx)
 go_enter Tryz.func263,Tryz.ntmps263
 go_wp2_with (first
  |(go_at_call 134;(with_reducible refine cx (nat.lJ 2 2 rfl (by decide) _) ?_);intro W1 t H_t N_t HB1)
  |(go_at_call 144;(with_reducible refine Calls.mono (nat.sW _ _ X 2 _ carry carry (by decide) sized sized) ?_);rintro e W2 ⟨q,r,rfl,-,⟨h_r,n_r⟩,hb⟩
    have H_r:=Lib.hid h_r
    have N_r:=Lib.hid n_r
    have HB2:=Lib.hid hb
    clear h_r n_r hb)
  |(go_at_call 164;(with_reducible refine cs (by (have c:=fun W v0 hh0=>nat.dY v0 (X%2) W hh0);(rw[decide_eq_false (by have:=HO.out;omega)] at c);exact c _ _ carry) ?_))
  |(fail "no arm"))
 go_ret
 exact⟨rfl,steps⟩
theorem Vl (a:Value)(X:Nat)(w:World)(ha:nat.IsN w a X)(sx:Ln X 200000)(ho:X%2=0):
  Calls Tryz.prog 263 #[a] w fun e w'=>e= .returned (.bool false)∧Below w.heap.size w w':=by
 have H_a:=Lib.hid ha
 clear ha
 have HO:=Lib.hid ho
 clear ho
 have:=SN.mk (show Ln X 200000 from sx)
 go_enter Tryz.func263,Tryz.ntmps263
 go_wp2_with (first
  |(go_at_call 134;(with_reducible refine cx (nat.lJ 2 2 rfl (by decide) _) ?_);intro W1 t H_t N_t HB1)
  |(go_at_call 144;(with_reducible refine Calls.mono (nat.sW _ _ X 2 _ carry carry (by decide) sized sized) ?_);rintro e W2 ⟨q,r,rfl,-,⟨h_r,n_r⟩,hb⟩
    have H_r:=Lib.hid h_r
    have N_r:=Lib.hid n_r
    have HB2:=Lib.hid hb
    clear h_r n_r hb)
  |(go_at_call 164;(with_reducible refine cs (by (have c:=fun W v0 hh0=>nat.dY v0 (X%2) W hh0);(rw[decide_eq_true HO.out] at c);exact c _ _ carry) ?_))
  |(fail "no arm"))
 go_ret
 exact⟨rfl,steps⟩
theorem Qc (a:Value)(X:Nat)(w:World)(ha:nat.IsN w a X)(sx:Ln X 200000):
  Calls Tryz.prog 263 #[a] w fun e w'=>e= .returned (.bool (decide (X%2=1)))∧Below w.heap.size w w':=by
 rcases(show X%2=1∨X%2=0 by omega) with h|h
 ·rw[decide_eq_true h];exact Qd a X w ha sx h
 ·rw[decide_eq_false (by omega)];exact Vl a X w ha sx h
theorem xJ (mode C:Int)(a:Value)(X:Nat)(w:World)(ha:nat.IsN w a X)(sx:Ln X 200000)(k1: -9223372036854775808≤C)(k2:C<9223372036854775808):
  Calls Tryz.prog 228 #[.int .i64 mode,.int .i64 C,a] w fun e w'=>e= .returned (.bool (upB mode C (decide (X%2=1))))∧Below w.heap.size w w':=by
 have HO:=Lib.hid (Qc a X w ha sx)
 clear ha sx
 generalize decide (X%2=1)=o at *
 have hcase: (mode=1∧0≤C∧upB mode C o=true)∨(mode=1∧C<0∧upB mode C o=false)∨(mode=2∧0<C∧upB mode C o=true)∨(mode=2∧C=0∧upB mode C o=o)∨(mode=2∧C<0∧upB mode C o=false)∨((mode==1)=false∧(mode==2)=false∧upB mode C o=false):=by
  unfold upB
  by_cases h1:mode=1
  ·subst h1
   by_cases h2:0≤C
   ·exact Or.inl ⟨rfl,h2,by simp[h2]⟩
   ·exact Or.inr (Or.inl ⟨rfl,by omega,by simp;omega⟩)
  ·by_cases h3:mode=2
   ·subst h3
    rcases(show C<0∨C=0∨0<C by omega) with h|h|h
    ·exact Or.inr (Or.inr (Or.inr (Or.inr (Or.inl ⟨rfl,h,by simp;omega⟩))))
    ·subst h
     exact Or.inr (Or.inr (Or.inr (Or.inl ⟨rfl,rfl,by simp⟩)))
    ·exact Or.inr (Or.inr (Or.inl ⟨rfl,h,by simp[h]⟩))
   ·exact Or.inr (Or.inr (Or.inr (Or.inr (Or.inr ⟨by simp[h1],by simp[h3],by simp[h1,h3]⟩))))
 generalize upB mode C o=up at *
 rcases hcase with ⟨rfl,h1,rfl⟩|⟨rfl,h1,rfl⟩|⟨rfl,h1,rfl⟩|⟨rfl,rfl,rfl⟩|⟨rfl,h1,rfl⟩|⟨h0,h1,rfl⟩
 case' inr.inr.inl=>have h0:¬C=0:=by omega
 all_goals
  go_enter Tryz.func228,Tryz.ntmps228
  go_wp2_with (first
   |(go_at_call 263;(with_reducible refine(HO.out).mono ?_);rintro e w1 ⟨rfl,hb⟩)
   |(fail "no arm"))
  go_ret
  first
   |exact⟨rfl,hb⟩
   |exact⟨rfl,Below.refl _ _⟩
   |exact⟨by simp;omega,Below.refl _ _⟩
theorem wX (a:Value)(q:Rat)(k:Nat)(w:World)(ha:IsR w a q)(sq:Lr q 20000)(hk:k≤20):
  Calls Tryz.prog 227 #[a,.int .i64 (k:Nat)] w fun e w'=>∃s r,e= .returned (.tuple #[s,r])∧(nat.IsN w' s (q.num.natAbs*10 ^ k/q.den)∧s≠ .pointer none)∧(nat.IsN w' r (q.num.natAbs*10 ^ k%q.den)∧r≠ .pointer none)∧Below w.heap.size w w':=by
 have H_a:=Lib.hid ha
 clear ha
 have h10:=mR hk
 have:=SZ.mk (show Lz q.num 20000 from sq.1)
 have:=SN.mk (show Ln q.den 20000 from sq.2)
 have:=SN.mk (show Ln (10 ^ k) 21 from h10)
 go_enter Tryz.func227,Tryz.ntmps227
 go_wp2_with (first
  |(go_at_call 191;(with_reducible refine cx (nO k _ hk) ?_);intro W3 t H_t N_t HB3)
  |(go_at_call 138;(with_reducible refine cx (num.vK _ ((q.den:Nat):Int) _ carry) ?_);intro W6 y H_y N_y HB6
    rw[Int.natAbs_natCast] at H_y)
  |(go_at_call 144;(with_reducible refine Calls.mono (nat.sW _ _ ((Int.natAbs q.num)*(10 ^ k)) q.den _ carry carry q.den_pos sized sized) ?_);rintro e W7 ⟨s,r,rfl,⟨h_s,n_s⟩,⟨h_r,n_r⟩,hb⟩
    have H_s:=Lib.hid h_s
    have N_s:=Lib.hid n_s
    have H_r:=Lib.hid h_r
    have N_r:=Lib.hid n_r
    have HB7:=Lib.hid hb
    clear h_s n_s h_r n_r hb)
  |((with_reducible refine cx fx ?_);intro W v H N B)
  |(fail "no arm"))
 go_ret2
 exact⟨_,_,rfl,⟨H_s.out,carry⟩,⟨H_r.out,carry⟩,steps⟩
theorem Ku (a:Value)(q:Rat)(k:Nat)(mode:Int)(w:World)(ha:IsR w a q)(sq:Lr q 20000)(hk:k≤20)(hu:iX (q.num.natAbs*10 ^ k) q.den mode=true):
  Calls Tryz.prog 188 #[a,.int .i64 (k:Nat),.int .i64 mode] w fun e w'=>∃u,e= .returned u∧(nat.IsN w' u (cB (q.num.natAbs*10 ^ k) q.den mode)∧u≠ .pointer none)∧Below w.heap.size w w':=by
 have H_a:=Lib.hid ha
 clear ha
 have h10:=mR hk
 have hT:Ln (q.num.natAbs*10 ^ k) 20021:=nS (tH sq.1) h10
 rw[Vx hu]
 rw[←Ns] at hu
 obtain⟨T,hTT⟩:∃T,q.num.natAbs*10 ^ k=T:=⟨_,rfl⟩
 have CO:=fun W (v:Value)(h:IsR W v q)=>wX v q k W h sq hk
 rw[hTT] at hT hu CO ⊢
 have CO:=Lib.hid CO
 obtain⟨C,hC⟩:∃C,cmp3 ((T%q.den+T%q.den:Nat):Int) (q.den:Int)=C:=⟨_,rfl⟩
 rw[hC] at hu
 have hC1: -1≤C:=by rw[←hC];unfold cmp3;(repeat' split)<;>omega
 have hC2:C≤1:=by rw[←hC];unfold cmp3;(repeat' split)<;>omega
 clear hTT
 have:=SZ.mk (show Lz q.num 20000 from sq.1)
 have:=SN.mk (show Ln q.den 20000 from sq.2)
 have:=SN.mk (show Ln (T/q.den) 20021 from(jL (Nat.div_le_self _ _) hT))
 have:=SN.mk (show Ln (T%q.den) 20021 from(jL (Nat.mod_le _ _) hT))
 go_enter Tryz.func188,Tryz.ntmps188
 go_wp2_with (first
  |(go_at_call 227;(with_reducible refine Calls.mono (CO.out _ _ carry) ?_);rintro e W1 ⟨s,r,rfl,⟨h_s,n_s⟩,⟨h_r,n_r⟩,hb⟩
    have H_s:=Lib.hid h_s
    have N_s:=Lib.hid n_s
    have H_r:=Lib.hid h_r
    have N_r:=Lib.hid n_r
    have HB1:=Lib.hid hb
    clear h_s n_s h_r n_r hb)
  |(go_at_call 138;(with_reducible refine cx (num.vK _ ((q.den:Nat):Int) _ carry) ?_);intro W4 y H_y N_y HB4
    rw[Int.natAbs_natCast] at H_y)
  |(go_at_call 133;(with_reducible refine cb (by (have c:=fun W v0 v1 hh0 hh1=>nat.wD v0 v1 ((T%q.den)+(T%q.den)) q.den W hh0 hh1 sized sized);(rw[hC] at c);exact c _ _ _ carry carry) ?_);intro W5 HB5)
  |(go_at_call 228;(with_reducible refine cb (by (have c:=fun W v0 hh0=>xJ mode C v0 (T/q.den) W hh0 ((jL (Nat.div_le_self _ _) hT).le (by decide)) (by omega) (by omega));(rw[hu] at c);exact c _ _ carry) ?_);intro W6 HB6)
  |(go_at_call 134;(with_reducible refine cx (nat.lJ 1 1 rfl (by decide) _) ?_);intro W7 o H_o N_o HB7)
  |((with_reducible refine cx fx ?_);intro W v H N B)
  |(fail "no arm"))
 go_ret
 exact⟨_,rfl,⟨carry,carry⟩,steps⟩
theorem Gy (a:Value)(q:Rat)(k:Nat)(mode:Int)(w:World)(ha:IsR w a q)(sq:Lr q 20000)(hk:k≤20)(hu:iX (q.num.natAbs*10 ^ k) q.den mode=false):
  Calls Tryz.prog 188 #[a,.int .i64 (k:Nat),.int .i64 mode] w fun e w'=>∃u,e= .returned u∧(nat.IsN w' u (cB (q.num.natAbs*10 ^ k) q.den mode)∧u≠ .pointer none)∧Below w.heap.size w w':=by
 have H_a:=Lib.hid ha
 clear ha
 have h10:=mR hk
 have hT:Ln (q.num.natAbs*10 ^ k) 20021:=nS (tH sq.1) h10
 rw[Vw hu]
 rw[←Ns] at hu
 obtain⟨T,hTT⟩:∃T,q.num.natAbs*10 ^ k=T:=⟨_,rfl⟩
 have CO:=fun W (v:Value)(h:IsR W v q)=>wX v q k W h sq hk
 rw[hTT] at hT hu CO ⊢
 have CO:=Lib.hid CO
 obtain⟨C,hC⟩:∃C,cmp3 ((T%q.den+T%q.den:Nat):Int) (q.den:Int)=C:=⟨_,rfl⟩
 rw[hC] at hu
 have hC1: -1≤C:=by rw[←hC];unfold cmp3;(repeat' split)<;>omega
 have hC2:C≤1:=by rw[←hC];unfold cmp3;(repeat' split)<;>omega
 clear hTT
 have:=SZ.mk (show Lz q.num 20000 from sq.1)
 have:=SN.mk (show Ln q.den 20000 from sq.2)
 have:=SN.mk (show Ln (T/q.den) 20021 from(jL (Nat.div_le_self _ _) hT))
 have:=SN.mk (show Ln (T%q.den) 20021 from(jL (Nat.mod_le _ _) hT))
 go_enter Tryz.func188,Tryz.ntmps188
 go_wp2_with (first
  |(go_at_call 227;(with_reducible refine Calls.mono (CO.out _ _ carry) ?_);rintro e W1 ⟨s,r,rfl,⟨h_s,n_s⟩,⟨h_r,n_r⟩,hb⟩
    have H_s:=Lib.hid h_s
    have N_s:=Lib.hid n_s
    have H_r:=Lib.hid h_r
    have N_r:=Lib.hid n_r
    have HB1:=Lib.hid hb
    clear h_s n_s h_r n_r hb)
  |(go_at_call 138;(with_reducible refine cx (num.vK _ ((q.den:Nat):Int) _ carry) ?_);intro W4 y H_y N_y HB4
    rw[Int.natAbs_natCast] at H_y)
  |(go_at_call 133;(with_reducible refine cb (by (have c:=fun W v0 v1 hh0 hh1=>nat.wD v0 v1 ((T%q.den)+(T%q.den)) q.den W hh0 hh1 sized sized);(rw[hC] at c);exact c _ _ _ carry carry) ?_);intro W5 HB5)
  |(go_at_call 228;(with_reducible refine cb (by (have c:=fun W v0 hh0=>xJ mode C v0 (T/q.den) W hh0 ((jL (Nat.div_le_self _ _) hT).le (by decide)) (by omega) (by omega));(rw[hu] at c);exact c _ _ carry) ?_);intro W6 HB6)
  |((with_reducible refine cx fx ?_);intro W v H N B)
  |(fail "no arm"))
 go_ret
 exact⟨_,rfl,⟨carry,carry⟩,steps⟩
theorem iR (a:Value)(q:Rat)(k:Nat)(mode:Int)(w:World)(ha:IsR w a q)(sq:Lr q 20000)(hk:k≤20):
  Calls Tryz.prog 188 #[a,.int .i64 (k:Nat),.int .i64 mode] w fun e w'=>∃u,e= .returned u∧(nat.IsN w' u (cB (q.num.natAbs*10 ^ k) q.den mode)∧u≠ .pointer none)∧Below w.heap.size w w':=by
 rcases hu:iX (q.num.natAbs*10 ^ k) q.den mode with _|_
 ·exact Gy a q k mode w ha sq hk hu
 ·exact Ku a q k mode w ha sq hk hu
end Go.Proofs.YtlhmfgbaefaneaaGreatDoor.dec
namespace Go.Proofs.YtlhmfgbaefaneaaGreatDoor.dec
open Go.RowKit Go.Proofs.YtlhmfgbaefaneaaGreatDoor.nat Go.Proofs.YtlhmfgbaefaneaaGreatDoor.num
open Go.Proofs.YtlhmfgbaefaneaaGreatDoor.ref (str aD aJ)
theorem Pp (a b:List UInt8): (str (a++46::b)).extract 0 a.length=str a:=by apply ByteArray.ext;simp[str]
theorem Jt (a b:List UInt8): (str (a++46::b)).extract (a.length+1) (a++46::b).length=str b:=by
 apply ByteArray.ext
 simp[str]
 rw[List.take_of_length_le (by omega)]
theorem index_none {l:List UInt8}(h:∀c∈l,c≠46):Lib.indexByte l 46= -1:=by
 induction l with
 |nil=>rfl
 |cons b l ih=>
  unfold Lib.indexByte
  have hb: (b==46)=false:=by simpa using h b (by simp)
  rw[hb,ih fun c hc=>h c (by simp[hc])]
  rfl
theorem Vi {a b:List UInt8}(h:∀c∈a,c≠46):Lib.indexByte (a++46::b) 46=a.length:=by
 induction a with
 |nil=>rfl
 |cons x a ih=>
  have hx: (x==46)=false:=by simpa using h x (by simp)
  have hi:=ih fun c hc=>h c (by simp[hc])
  show Lib.indexByte (x:: (a++46::b)) 46=_
  unfold Lib.indexByte
  rw[hx,hi]
  have h1: ((a.length:Int)== -1)=false:=by simp
  simp only[Bool.false_eq_true,if_false,h1,List.length_cons]
  omega
theorem vD (l:List UInt8)(w:World):
  Calls Tryz.prog 286 #[.string (str l),.int .u8 46] w fun e w'=>e= .returned (.int .i64 (Lib.indexByte l 46))∧w=w':=by
 have hr:=fun w=>Lib.run_indexByteString (P:=Tryz.prog) (str l) 46 w
 rw[show(str l).data.toList=l from rfl,show((46:Int).toNat.toUInt8)=46 by decide] at hr
 generalize str l=s at *
 go_enter Tryz.func286,Tryz.ntmps286
 go_wp2
 rw[run_callFunc_extern Tryz.func288 (by kernel_rfl) (by kernel_rfl) (by kernel_rfl) (e:=Extern.BytealgIndexByte.indexByte) (by kernel_rfl),hr]
 simp only[Result.andThen]
 rw[Oper.upon_value]
 go_wp2
 go_ret
 exact⟨rfl,rfl⟩
theorem uM (l:List UInt8)(w:World):
  Calls Tryz.prog 277 #[.string (str l),.string ⟨#[46]⟩] w fun e w'=>e= .returned (.int .i64 (Lib.indexByte l 46))∧w=w':=by
 have HI:=Lib.hid (vD l w)
 have kz: (⟨#[46]⟩:ByteArray).size=1:=rfl
 have kg:∀h:0<(⟨#[46]⟩:ByteArray).size,((⟨#[46]⟩:ByteArray)[0]'h).toNat=46:=fun _=>rfl
 have hk: ((⟨#[46]⟩:ByteArray).toList==(str l).toList)=decide (l=[46]):=by
  rw[ByteArray.toList_eq,ByteArray.toList_eq]
  simp[str]
  by_cases h:l=[46]
  ·rw[decide_eq_true h,h];rfl
  ·rw[decide_eq_false h,beq_eq_false_iff_ne];exact fun e=>h e.symm
 by_cases hl:l=[46]
 ·rw[decide_eq_true hl] at hk
  have h0:Lib.indexByte l 46=0:=by rw[hl];rfl
  rw[h0]
  generalize (⟨#[46]⟩:ByteArray)=k at *
  generalize str l=s at *
  clear hl h0
  go_enter Tryz.func277,Tryz.ntmps277
  go_wp2
  go_ret
  exact⟨rfl,rfl⟩
 ·rw[decide_eq_false hl] at hk
  generalize (⟨#[46]⟩:ByteArray)=k at *
  generalize str l=s at *
  clear hl
  go_enter Tryz.func277,Tryz.ntmps277
  go_wp2_with (first
   |(go_at_call 286;(with_reducible refine(HI.out).mono ?_);rintro e w1 ⟨rfl,rfl⟩)
   |(fail "no arm"))
  go_ret
  exact⟨rfl,rfl⟩
theorem Nz (l:List UInt8)(w:World)(_hl:l.length≤4611686018427387904)(h:∀c∈l,c≠46):
  Calls Tryz.prog 230 #[.string (str l),.string ⟨#[46]⟩] w fun e w'=>e= .returned (.tuple #[.string (str l),.string (str []),.bool false])∧Below w.heap.size w w':=by
 have hI:=uM l w
 rw[index_none h] at hI
 have HI:=Lib.hid hI
 have he: (⟨#[]⟩:ByteArray)=str []:=rfl
 generalize (⟨#[46]⟩:ByteArray)=k at *
 generalize str l=s at *
 clear hI
 have HC:Hid (Calls Tryz.prog 264 #[.string s,.string k] w fun e w'=>e= .returned (.tuple #[.string s,.string ⟨#[]⟩,.bool false])∧w=w'):=Lib.hid (by
  go_enter Tryz.func264,Tryz.ntmps264
  go_wp2_with (first
   |(go_at_call 277;(with_reducible refine(HI.out).mono ?_);rintro e w1 ⟨rfl,rfl⟩)
   |(fail "no arm"))
  go_ret3
  exact⟨rfl,rfl⟩)
 rw[←he]
 clear he
 go_enter Tryz.func230,Tryz.ntmps230
 go_wp2_with (first
  |(go_at_call 264;(with_reducible refine(HC.out).mono ?_);rintro e w1 ⟨rfl,rfl⟩)
  |(fail "no arm"))
 go_ret3
 exact⟨rfl,Below.refl _ _⟩
theorem Ny (a b:List UInt8)(w:World)(hl: (a++46::b).length≤4611686018427387904)(h:∀c∈a,c≠46):
  Calls Tryz.prog 230 #[.string (str (a++46::b)),.string ⟨#[46]⟩] w fun e w'=>e= .returned (.tuple #[.string (str a),.string (str b),.bool true])∧Below w.heap.size w w':=by
 have hI:=uM (a++46::b) w
 rw[Vi h] at hI
 have HI:=Lib.hid hI
 have HA:=Lib.hid (Pp a b)
 have HB:=Lib.hid (Jt a b)
 have hz: (str (a++46::b)).size=a.length+(b.length+1):=by rw[aD];simp
 have kz: (⟨#[46]⟩:ByteArray).size=1:=rfl
 have hlen: (a++46::b).length=a.length+(b.length+1):=by simp
 rw[hlen] at HB hl
 generalize (⟨#[46]⟩:ByteArray)=k at *
 generalize str (a++46::b)=s at *
 generalize str a=sa at *
 generalize str b=sb at *
 generalize a.length=A at *
 generalize b.length=B at *
 clear hI hlen h
 have HC:Hid (Calls Tryz.prog 264 #[.string s,.string k] w fun e w'=>e= .returned (.tuple #[.string sa,.string sb,.bool true])∧Below w.heap.size w w'):=Lib.hid (by
  go_enter Tryz.func264,Tryz.ntmps264
  go_wp2_with (first
   |(go_at_call 277;(with_reducible refine(HI.out).mono ?_);rintro e w1 ⟨rfl,rfl⟩)
   |(fail "no arm"))
  go_quiet (fail)
  go_wp2
  go_ret3
  exact⟨by rw[HA.out,HB.out];rfl,aK _ _⟩)
 go_enter Tryz.func230,Tryz.ntmps230
 go_wp2_with (first
  |(go_at_call 264;(with_reducible refine(HC.out).mono ?_);rintro e w1 ⟨rfl,hb⟩)
  |(fail "no arm"))
 go_ret3
 exact⟨rfl,hb⟩
end Go.Proofs.YtlhmfgbaefaneaaGreatDoor.dec
namespace Go.Proofs.YtlhmfgbaefaneaaGreatDoor.ref
def dI (t:List UInt8)(n k:Nat):Prop:=
 (k=0∧bA t∧n=seg t 0 t.length)∨
   ∃a b,t=a++46::b∧bA a∧b.length=k∧1≤k∧k≤20∧(∀i,i<k→bU b i)∧n=seg a 0 a.length*10 ^ k+seg b 0 k
def eG (l:List UInt8)(neg:Bool)(n k:Nat):Prop:=
 l.length≤60∧∃t,l=(if neg then 45::t else t)∧(neg=true→n≠0)∧dI t n k
theorem xY {l:List UInt8}(h:bA l){d:UInt8}(hd:d.toNat<48){c:UInt8}(hc:c∈l):c≠d:=by
 rintro rfl
 have:=jU h hc
 omega
theorem oO (l:List UInt8): (∀c∈l,c≠46)∨∃a b,l=a++46::b∧∀c∈a,c≠46:=by
 induction l with
 |nil=>exact Or.inl fun c h=>by simp at h
 |cons x l ih=>
  by_cases hx:x=46
  ·exact Or.inr ⟨[],l,by rw[hx];rfl,fun c h=>by simp at h⟩
  ·rcases ih with h|⟨a,b,rfl,h⟩
   ·refine Or.inl fun c hc=> ?_
    rcases List.mem_cons.1 hc with rfl|hc
    ·exact hx
    ·exact h c hc
   ·refine Or.inr ⟨x::a,b,rfl,fun c hc=> ?_⟩
    rcases List.mem_cons.1 hc with rfl|hc
    ·exact hx
    ·exact h c hc
theorem Zf {d:UInt8}{a b a' b':List UInt8}(he:a++d::b=a'++d::b')(hn:∀c∈a,c≠d)(hn':∀c∈a',c≠d):a=a'∧b=b':=by
 induction a generalizing a' with
 |nil=>
  rcases a' with _|⟨c,a'⟩
  ·simp at he;exact⟨rfl,he⟩
  ·simp at he
   exact absurd he.1.symm (hn' c (by simp))
 |cons x a ih=>
  rcases a' with _|⟨c,a'⟩
  ·simp at he
   exact absurd he.1 (hn x (by simp))
  ·simp at he
   obtain⟨rfl,he⟩:=he
   obtain⟨rfl,rfl⟩:=ih he (fun c hc=>hn c (by simp[hc])) (fun c hc=>hn' c (by simp[hc]))
   exact⟨rfl,rfl⟩
theorem dI.whole {t:List UInt8}{n k:Nat}(h:dI t n k)(hn:∀c∈t,c≠46):k=0∧bA t∧n=seg t 0 t.length:=by
 rcases h with h|⟨a,b,rfl,_⟩
 ·exact h
 ·exact absurd rfl (hn 46 (by simp))
theorem dI.parts {a b:List UInt8}{n k:Nat}(h:dI (a++46::b) n k)(hn:∀c∈a,c≠46):
  bA a∧b.length=k∧1≤k∧k≤20∧(∀i,i<k→bU b i)∧n=seg a 0 a.length*10 ^ k+seg b 0 k:=by
 rcases h with ⟨-,h,-⟩|⟨a',b',he,h1,h2⟩
 ·exact absurd rfl (xY h (d:=46) (by decide) (by simp))
 ·obtain⟨rfl,rfl⟩:=Zf he hn fun c hc=>xY h1 (by decide) hc
  exact⟨h1,h2⟩
theorem dI.head {t:List UInt8}{n k:Nat}(h:dI t n k):∃c u,t=c::u∧48≤c.toNat∧c.toNat≤57:=by
 rcases h with ⟨-,h,-⟩|⟨a,b,rfl,h,-⟩
 ·rcases t with _|⟨c,u⟩
  ·exact absurd h.1 (by simp)
  ·exact⟨c,u,rfl,jU h (by simp)⟩
 ·rcases a with _|⟨c,u⟩
  ·exact absurd h.1 (by simp)
  ·exact⟨c,u++46::b,rfl,jU h (by simp)⟩
theorem eG.minus {t:List UInt8}{neg:Bool}{n k:Nat}(h:eG (45::t) neg n k):neg=true∧n≠0∧dI t n k:=by
 obtain⟨-,u,he,h1,h2⟩:=h
 cases neg
 ·obtain⟨c,v,rfl,hc⟩:=h2.head
  simp at he
  obtain⟨rfl,-⟩:=he
  simp at hc
 ·simp at he
  subst he
  exact⟨rfl,h1 rfl,h2⟩
theorem eG.plain {l:List UInt8}{neg:Bool}{n k:Nat}(h:eG l neg n k)(hl:∀t,l≠45::t):neg=false∧dI l n k:=by
 obtain⟨-,u,he,h1,h2⟩:=h
 cases neg
 ·simp at he
  subst he
  exact⟨rfl,h2⟩
 ·exact absurd he (hl u)
theorem dI.inj {t:List UInt8}{n k n' k':Nat}(h:dI t n k)(h':dI t n' k'):n=n'∧k=k':=by
 rcases oO t with hn|⟨a,b,rfl,hn⟩
 ·obtain⟨rfl,-,rfl⟩:=h.whole hn
  obtain⟨rfl,-,rfl⟩:=h'.whole hn
  exact⟨rfl,rfl⟩
 ·obtain⟨-,rfl,-,-,-,rfl⟩:=h.parts hn
  obtain⟨-,rfl,-,-,-,rfl⟩:=h'.parts hn
  exact⟨rfl,rfl⟩
theorem eG.inj {l:List UInt8}{p p':Bool}{n k n' k':Nat}(h:eG l p n k)(h':eG l p' n' k'):p=p'∧n=n'∧k=k':=by
 by_cases hm:∃t,l=45::t
 ·obtain⟨t,rfl⟩:=hm
  obtain⟨rfl,-,h1⟩:=h.minus
  obtain⟨rfl,-,h2⟩:=h'.minus
  exact⟨rfl,h1.inj h2⟩
 ·obtain⟨rfl,h1⟩:=h.plain fun t e=>hm ⟨t,e⟩
  obtain⟨rfl,h2⟩:=h'.plain fun t e=>hm ⟨t,e⟩
  exact⟨rfl,h1.inj h2⟩
end Go.Proofs.YtlhmfgbaefaneaaGreatDoor.ref
namespace Go.Proofs.YtlhmfgbaefaneaaGreatDoor.ref
open Go.RowKit
theorem yQ {c:Nat}(h1:48≤c)(h2:c≤57):IntKind.u64.wrap (IntKind.u8.wrap ((c:Int) - 48))=(c:Int) - 48:=by
 rcases(show c=48∨c=49∨c=50∨c=51∨c=52∨c=53∨c=54∨c=55∨c=56∨c=57 by omega) with rfl|rfl|rfl|rfl|rfl|rfl|rfl|rfl|rfl|rfl<;>rfl
theorem wY {b:List UInt8}{X i Y c:Nat}(hY:Y=X*10 ^ i+seg b 0 i)(hc:ch b i=c):Y*10+(c - 48)=X*10 ^ (i+1)+seg b 0 (i+1):=by
 have h:seg b 0 (i+1)=seg b 0 i*10+(ch b (0+i) - 48):=rfl
 rw[h,Nat.zero_add,hc,hY,Nat.pow_succ,Nat.add_mul,Nat.mul_assoc,Nat.add_assoc]
theorem Ct {Y i d:Nat}(h:Y<10 ^ (60+i))(hd:d≤9):Y*10+d<10 ^ (60+(i+1)):=by
 rw[show 60+(i+1)=(60+i)+1 by omega,Nat.pow_succ]
 omega
end Go.Proofs.YtlhmfgbaefaneaaGreatDoor.ref
namespace Go.Proofs.YtlhmfgbaefaneaaGreatDoor.dec
open Go.RowKit Go.Proofs.YtlhmfgbaefaneaaGreatDoor.nat Go.Proofs.YtlhmfgbaefaneaaGreatDoor.num
open Go.Proofs.YtlhmfgbaefaneaaGreatDoor.ref (str aD ch seg bU bA seg_lt dI eG oO wY Ct yQ)
def jB (l:List UInt8):Prop:=1≤l.length∧l.length≤20∧∀i,i<l.length→bU l i
open Classical in
theorem Jz (l:List UInt8)(w:World)(hl:l.length≤4611686018427387904):
  Calls Tryz.prog 231 #[.string (str l)] w fun e w'=>e= .returned (.bool (decide (jB l)))∧w=w':=by
 have hz: (str l).size=l.length:=aD l
 have HG:=Lib.hid (fun i (h:i<(str l).size)=>wP (l:=l) h)
 have HNo:=Lib.hid (fun h:¬jB l=>(decide_eq_false h:decide (jB l)=false))
 have HYes:=Lib.hid (fun h:jB l=>(decide_eq_true h:decide (jB l)=true))
 have HNum:=Lib.hid (show jB l↔1≤l.length∧l.length≤20∧∀i,i<l.length→bU l i from Iff.rfl)
 generalize str l=s at *
 generalize decide (jB l)=b at *
 generalize hn:l.length=n at *
 clear hn
 by_cases h0:n=0
 ·have hb:=HNo.out fun h=>by have:=(HNum.out.1 h).1;omega
  subst hb
  go_enter Tryz.func231,Tryz.ntmps231
  go_wp2
  go_ret
  exact⟨rfl,rfl⟩
 ·by_cases h4:20<n
  ·have hb:=HNo.out fun h=>by have:=(HNum.out.1 h).2.1;omega
   subst hb
   go_enter Tryz.func231,Tryz.ntmps231
   go_wp2
   go_ret
   exact⟨rfl,rfl⟩
  ·have hnb: ((n:Int)==0)=false:=by simp;omega
   go_enter Tryz.func231,Tryz.ntmps231
   go_wp2
   go_loopw [14] (fun iv wr=>w=wr∧∃i:Nat,i≤n∧iv= .int .i64 i∧∀j,j<i→bU l j) (fun iv _=>n - (intOf iv).toNat)
   case atStart=>exact⟨rfl,0,Nat.zero_le _,rfl,fun j hj=>by omega⟩
   case round=>
    obtain⟨rfl,i,hi,rfl,hdg⟩:=hrel
    have HDg:=Lib.hid hdg
    clear hdg
    by_cases hlt:i<n
    ·have hgk:∀h:i<s.size,(s[i]'h).toNat=ch l i:=fun h=>HG.out _ h
     have HB:=Lib.hid (show b=true→bU l i from fun hb=>by
      by_cases hN:jB l
      ·exact(HNum.out.1 hN).2.2 i hlt
      ·rw[HNo.out hN] at hb;cases hb)
     have HC:=Lib.hid (show bU l i↔48≤ch l i∧ch l i≤57 from Iff.rfl)
     generalize ch l i=c at *
     by_cases hc1:c<48
     ·have hb:b=false:=by
       cases b with
       |false=>rfl
       |true=>have:=HC.out.1 (HB.out rfl);omega
      subst hb
      go_wp2
      go_ret
      exact⟨rfl,rfl⟩
     ·by_cases hc2:57<c
      ·have hb:b=false:=by
        cases b with
        |false=>rfl
        |true=>have:=HC.out.1 (HB.out rfl);omega
       subst hb
       go_wp2
       go_ret
       exact⟨rfl,rfl⟩
      ·go_wp2
       refine⟨⟨trivial,i+1,by omega,by go_num,fun j hj=> ?_⟩,?_⟩
       ·by_cases h3:j<i
        ·exact HDg.out j h3
        ·obtain rfl:j=i:=by omega
         exact HC.out.2 ⟨by omega,by omega⟩
       ·simp[intOf];omega
    ·obtain rfl:i=n:=by omega
     have hb:=HYes.out (HNum.out.2 ⟨by omega,by omega,HDg.out⟩)
     subst hb
     go_wp2
     go_ret
     exact⟨rfl,rfl⟩
theorem Ka (l:List UInt8)(w:World)(h:jB l):
  Calls Tryz.prog 231 #[.string (str l)] w fun e w'=>e= .returned (.bool true)∧w=w':=by
 have:=Jz l w (by have:=h.2.1;omega)
 rwa [@decide_eq_true _ (Classical.propDecidable _) h] at this
theorem Es {t:List UInt8}{n k:Nat}(h:dI t n k):n<10 ^ t.length:=by
 rcases h with ⟨-,h,rfl⟩|⟨a,b,rfl,h,rfl,-,-,h1,rfl⟩
 ·exact seg_lt (l:=t) (st:=0) (m:=t.length) fun i _ hi=>h.2.2.2 i (by omega)
 ·have ha:=seg_lt (l:=a) (st:=0) (m:=a.length) fun i _ hi=>h.2.2.2 i (by omega)
  have hb:=seg_lt (l:=b) (st:=0) (m:=b.length) fun i _ hi=>h1 i (by omega)
  have e:10 ^ (a++46::b).length=10 ^ a.length*10 ^ b.length*10:=by
   rw[show(a++46::b).length=a.length+b.length+1 by simp;omega,Nat.pow_succ,Nat.pow_add]
  rw[e]
  generalize 10 ^ a.length=A at *
  generalize 10 ^ b.length=B at *
  generalize seg a 0 a.length=x at *
  generalize seg b 0 b.length=y at *
  have h2: (x+1)*B≤A*B:=Nat.mul_le_mul_right B ha
  rw[Nat.add_mul] at h2
  omega
theorem uR {t:List UInt8}{n k:Nat}(h:dI t n k):k≤20:=by
 rcases h with ⟨rfl,-⟩|⟨a,b,-,-,-,-,h,-⟩
 ·omega
 ·exact h
def Mf (V:World)(b:List UInt8)(X P:Nat)(nv iv:Value)(wr:World):Prop:=
 ∃i Y:Nat,i≤P∧iv= .int .i64 i∧(nat.IsN wr nv Y∧nv≠ .pointer none)∧(Y=X*10 ^ i+seg b 0 i∧Y<10 ^ (60+i))∧Below V.heap.size V wr
theorem Ai {c:Nat}(h1:48≤c)(h2:c≤57):IntKind.u64.wrap (IntKind.u8.wrap ((c:Int) - 48))=((c - 48:Nat):Int):=by rw[yQ h1 h2];omega
theorem Lu {Y i:Nat}(h:Y<10 ^ (60+i))(hi:i≤20):Ln Y 80:=rat.vM h (by omega)
theorem Ko (a:List UInt8)(w:World)(hl:a.length≤60)(hn:∀c∈a,c≠46)(ha:bA a):
  Calls Tryz.prog 190 #[.string (str a)] w fun e w'=>∃u,e= .returned (.tuple #[u,.int .i64 (([]:List UInt8).length:Nat),.bool true])∧(nat.IsN w' u (seg a 0 a.length*10 ^ ([]:List UInt8).length+seg ([]:List UInt8) 0 ([]:List UInt8).length)∧u≠ .pointer none)∧Below w.heap.size w w':=by
 have HC:=fun W=>Nz a W (by omega) hn
 obtain⟨b,hbe⟩:∃b:List UInt8,b=[]:=⟨_,rfl⟩
 rw[show str []=str b by rw[hbe]] at HC
 have HC:=Lib.hid HC
 rw[←hbe]
 have hab:a.length≤60:=hl
 have hbl:b.length≤20:=by rw[hbe];decide
 have hdg:∀i,i<b.length→bU b i:=by rw[hbe];intro i hi;simp at hi
 clear hbe
 have HN:=Lib.hid (fun W=>nat.wF a W ha)
 have hX:seg a 0 a.length<10 ^ 60:=Nat.lt_of_lt_of_le (seg_lt (l:=a) (st:=0) (m:=a.length) fun i _ hi=>ha.2.2.2 i (by omega)) (Nat.pow_le_pow_right (by omega) (by omega))
 have hzb: (str b).size=b.length:=aD b
 have HG:=Lib.hid (fun i (h:i<(str b).size)=>wP (l:=b) h)
 generalize seg a 0 a.length=X at *
 generalize str a=s0 at *
 generalize str a=sa at *
 generalize str b=sb at *
 have HDg:=Lib.hid hdg
 have HX:=Lib.hid hX
 clear hl hn ha hab hdg hX
 obtain⟨P,hP⟩:∃P,b.length=P:=⟨_,rfl⟩
 rw[hP] at hbl hzb HDg ⊢
 clear hP
 go_enter Tryz.func190,Tryz.ntmps190
 go_wp2_with (first
  |(go_at_call 230;(with_reducible refine(HC.out _).mono ?_);rintro e W1 ⟨rfl,hb⟩;have HB1:=Lib.hid hb;clear hb HC)
  |(go_at_call 143;(with_reducible refine(HN.out _).mono ?_);rintro e W2 ⟨u,rfl,⟨h_u,n_u⟩,hb⟩;have H_u:=Lib.hid h_u;have N_u:=Lib.hid n_u;have HB2:=Lib.hid (nat.aM HB1.out hb);clear h_u n_u hb HN)
  |(fail "no arm"))
 go_loopw [2,31] (fun nv iv wr=>Mf w b X P nv iv wr) (fun _ iv _=>P - (intOf iv).toNat)
 case atStart=>exact⟨0,X,Nat.zero_le _,rfl,⟨H_u.out,N_u.out⟩,⟨by rw[Nat.pow_zero,Nat.mul_one];rfl,HX.out⟩,HB2.out⟩
 case round=>
  obtain⟨i,Y,hi,rfl,⟨hn,hnn⟩,⟨hY,hlow⟩,hbv⟩:=hrel
  have HNv:=Lib.hid hn
  have HNn:=Lib.hid hnn
  have HY:=Lib.hid hY
  have HBV:=Lib.hid hbv
  clear hn hnn hY hbv
  by_cases hlt:i<P
  ·have hgk:∀h:i<sb.size,(sb[i]'h).toNat=ch b i:=fun h=>HG.out _ h
   have hdi:=HDg.out i hlt
   unfold bU at hdi
   obtain⟨hc1,hc2⟩:=hdi
   have HSt:=Lib.hid (fun c (hc:ch b i=c)=>wY HY.out hc)
   have HLow:=Lib.hid (fun d (hd:d≤9)=>Ct hlow hd)
   have HLn:=Lib.hid (Lu hlow (by omega))
   generalize hc:ch b i=c at *
   have HDA:=Lib.hid (Ai hc1 hc2)
   have hcd:c - 48<18446744073709551616:=by omega
   have hcd9:=Lib.hid (show c - 48≤9 by omega)
   have MU:=Lib.hid (fun W v0 v1 (h0:nat.IsN W v0 Y)(h1:nat.IsN W v1 10)=>nat.iG v0 v1 Y 10 W h0 h1 (HLn.out.le (by decide)) ((dW (x:=10) (by decide)).le (by decide)))
   have AD:=Lib.hid (fun W v0 v1 (h0:nat.IsN W v0 (Y*10))(h1:nat.IsN W v1 (c - 48))=>nat.kY v0 v1 (Y*10) (c - 48) W h0 h1 ((nS HLn.out (dW (x:=10) (by decide))).le (by decide)) ((dW (x:=c - 48) hcd).le (by decide)))
   clear hlow hc
   go_wp2
   go_region_held3 (fun w'=>Below wr.heap.size wr w')
    (first
      |exact(Below.refl _ _).drew
      |exact HB6.out
      |exact HB5.out
      |exact HB4.out
      |exact HB3.out)
    (first
    |(go_at_call 134;(with_reducible refine(nat.lJ 10 10 rfl (by decide) _).mono ?_);rintro e W3 ⟨t,rfl,⟨h_t,n_t⟩,hb⟩;have H_t:=Lib.hid h_t;have HB3:=Lib.hid (nat.aM (Below.refl _ _).drew hb);clear h_t n_t hb)
    |(go_at_call 131;(with_reducible refine(MU.out _ _ _ (HNv.out.below HB3.out) H_t.out).mono ?_);rintro e W4 ⟨m,rfl,⟨h_m,n_m⟩,hb⟩;have H_m:=Lib.hid h_m;have HB4:=Lib.hid (nat.aM HB3.out hb);clear h_m n_m hb)
    |(go_at_call 134;(with_reducible refine(nat.lJ _ (c - 48) HDA.out hcd _).mono ?_);rintro e W5 ⟨d,rfl,⟨h_d,n_d⟩,hb⟩;have H_d:=Lib.hid h_d;have H_m5:=Lib.hid (H_m.out.below hb);have HB5:=Lib.hid (nat.aM HB4.out hb);clear h_d n_d hb)
    |(go_at_call 141;(with_reducible refine(AD.out _ _ _ H_m5.out H_d.out).mono ?_);rintro e W6 ⟨v,rfl,⟨h_v,n_v⟩,hb⟩;have H_v:=Lib.hid h_v;have N_v:=Lib.hid n_v;have HB6:=Lib.hid (nat.aM HB5.out hb);clear h_v n_v hb)
    |(fail "no arm"))
   all_goals go_wp2
   all_goals
    refine⟨⟨i+1,Y*10+(c - 48),by omega,by go_num,⟨H_v.out,N_v.out⟩,⟨HSt.out c rfl,HLow.out _ hcd9.out⟩,nat.aM HBV.out HB6.out⟩,?_⟩
    simp[intOf]
    omega
  ·obtain rfl:i=P:=by omega
   go_wp2
   go_ret3
   exact⟨_,rfl,⟨by rw[←HY.out];exact HNv.out,HNn.out⟩,HBV.out⟩
theorem Kn (a b:List UInt8)(w:World)(hl: (a++46::b).length≤60)(hn:∀c∈a,c≠46)(ha:bA a)(hb:jB b):
  Calls Tryz.prog 190 #[.string (str (a++46::b))] w fun e w'=>∃u,e= .returned (.tuple #[u,.int .i64 (b.length:Nat),.bool true])∧(nat.IsN w' u (seg a 0 a.length*10 ^ b.length+seg b 0 b.length)∧u≠ .pointer none)∧Below w.heap.size w w':=by
 have HC:=Lib.hid (fun W=>Ny a b W (by omega) hn)
 have HP:=Lib.hid (fun W=>Ka b W hb)
 have hab:a.length+1+b.length≤60:=by simp at hl;omega
 have hbl:b.length≤20:=hb.2.1
 have hdg:=hb.2.2
 have HN:=Lib.hid (fun W=>nat.wF a W ha)
 have hX:seg a 0 a.length<10 ^ 60:=Nat.lt_of_lt_of_le (seg_lt (l:=a) (st:=0) (m:=a.length) fun i _ hi=>ha.2.2.2 i (by omega)) (Nat.pow_le_pow_right (by omega) (by omega))
 have hzb: (str b).size=b.length:=aD b
 have HG:=Lib.hid (fun i (h:i<(str b).size)=>wP (l:=b) h)
 generalize seg a 0 a.length=X at *
 generalize str (a++46::b)=s0 at *
 generalize str a=sa at *
 generalize str b=sb at *
 have HDg:=Lib.hid hdg
 have HX:=Lib.hid hX
 clear hl hn ha hab hdg hX hb
 obtain⟨P,hP⟩:∃P,b.length=P:=⟨_,rfl⟩
 rw[hP] at hbl hzb HDg ⊢
 clear hP
 go_enter Tryz.func190,Tryz.ntmps190
 go_wp2_with (first
  |(go_at_call 230;(with_reducible refine(HC.out _).mono ?_);rintro e W1 ⟨rfl,hb⟩;have HB1:=Lib.hid hb;clear hb HC)
  |(go_at_call 231;(with_reducible refine(HP.out _).mono ?_);rintro e w9 ⟨rfl,rfl⟩;clear HP)
  |(go_at_call 143;(with_reducible refine(HN.out _).mono ?_);rintro e W2 ⟨u,rfl,⟨h_u,n_u⟩,hb⟩;have H_u:=Lib.hid h_u;have N_u:=Lib.hid n_u;have HB2:=Lib.hid (nat.aM HB1.out hb);clear h_u n_u hb HN)
  |(fail "no arm"))
 go_loopw [2,31] (fun nv iv wr=>Mf w b X P nv iv wr) (fun _ iv _=>P - (intOf iv).toNat)
 case atStart=>exact⟨0,X,Nat.zero_le _,rfl,⟨H_u.out,N_u.out⟩,⟨by rw[Nat.pow_zero,Nat.mul_one];rfl,HX.out⟩,HB2.out⟩
 case round=>
  obtain⟨i,Y,hi,rfl,⟨hn,hnn⟩,⟨hY,hlow⟩,hbv⟩:=hrel
  have HNv:=Lib.hid hn
  have HNn:=Lib.hid hnn
  have HY:=Lib.hid hY
  have HBV:=Lib.hid hbv
  clear hn hnn hY hbv
  by_cases hlt:i<P
  ·have hgk:∀h:i<sb.size,(sb[i]'h).toNat=ch b i:=fun h=>HG.out _ h
   have hdi:=HDg.out i hlt
   unfold bU at hdi
   obtain⟨hc1,hc2⟩:=hdi
   have HSt:=Lib.hid (fun c (hc:ch b i=c)=>wY HY.out hc)
   have HLow:=Lib.hid (fun d (hd:d≤9)=>Ct hlow hd)
   have HLn:=Lib.hid (Lu hlow (by omega))
   generalize hc:ch b i=c at *
   have HDA:=Lib.hid (Ai hc1 hc2)
   have hcd:c - 48<18446744073709551616:=by omega
   have hcd9:=Lib.hid (show c - 48≤9 by omega)
   have MU:=Lib.hid (fun W v0 v1 (h0:nat.IsN W v0 Y)(h1:nat.IsN W v1 10)=>nat.iG v0 v1 Y 10 W h0 h1 (HLn.out.le (by decide)) ((dW (x:=10) (by decide)).le (by decide)))
   have AD:=Lib.hid (fun W v0 v1 (h0:nat.IsN W v0 (Y*10))(h1:nat.IsN W v1 (c - 48))=>nat.kY v0 v1 (Y*10) (c - 48) W h0 h1 ((nS HLn.out (dW (x:=10) (by decide))).le (by decide)) ((dW (x:=c - 48) hcd).le (by decide)))
   clear hlow hc
   go_wp2
   go_region_held3 (fun w'=>Below wr.heap.size wr w')
    (first
      |exact(Below.refl _ _).drew
      |exact HB6.out
      |exact HB5.out
      |exact HB4.out
      |exact HB3.out)
    (first
    |(go_at_call 134;(with_reducible refine(nat.lJ 10 10 rfl (by decide) _).mono ?_);rintro e W3 ⟨t,rfl,⟨h_t,n_t⟩,hb⟩;have H_t:=Lib.hid h_t;have HB3:=Lib.hid (nat.aM (Below.refl _ _).drew hb);clear h_t n_t hb)
    |(go_at_call 131;(with_reducible refine(MU.out _ _ _ (HNv.out.below HB3.out) H_t.out).mono ?_);rintro e W4 ⟨m,rfl,⟨h_m,n_m⟩,hb⟩;have H_m:=Lib.hid h_m;have HB4:=Lib.hid (nat.aM HB3.out hb);clear h_m n_m hb)
    |(go_at_call 134;(with_reducible refine(nat.lJ _ (c - 48) HDA.out hcd _).mono ?_);rintro e W5 ⟨d,rfl,⟨h_d,n_d⟩,hb⟩;have H_d:=Lib.hid h_d;have H_m5:=Lib.hid (H_m.out.below hb);have HB5:=Lib.hid (nat.aM HB4.out hb);clear h_d n_d hb)
    |(go_at_call 141;(with_reducible refine(AD.out _ _ _ H_m5.out H_d.out).mono ?_);rintro e W6 ⟨v,rfl,⟨h_v,n_v⟩,hb⟩;have H_v:=Lib.hid h_v;have N_v:=Lib.hid n_v;have HB6:=Lib.hid (nat.aM HB5.out hb);clear h_v n_v hb)
    |(fail "no arm"))
   all_goals go_wp2
   all_goals
    refine⟨⟨i+1,Y*10+(c - 48),by omega,by go_num,⟨H_v.out,N_v.out⟩,⟨HSt.out c rfl,HLow.out _ hcd9.out⟩,nat.aM HBV.out HB6.out⟩,?_⟩
    simp[intOf]
    omega
  ·obtain rfl:i=P:=by omega
   go_wp2
   go_ret3
   exact⟨_,rfl,⟨by rw[←HY.out];exact HNv.out,HNn.out⟩,HBV.out⟩
theorem Np (t:List UInt8)(n k:Nat)(w:World)(hl:t.length≤60)(h:dI t n k):
  Calls Tryz.prog 190 #[.string (str t)] w fun e w'=>∃u,e= .returned (.tuple #[u,.int .i64 (k:Nat),.bool true])∧(nat.IsN w' u n∧u≠ .pointer none)∧Below w.heap.size w w':=by
 rcases oO t with hn|⟨a,b,rfl,hn⟩
 ·obtain⟨rfl,h1,rfl⟩:=h.whole hn
  refine(Ko t w hl hn h1).mono ?_
  rintro e w' ⟨u,rfl,hu,hb⟩
  exact⟨u,rfl,⟨by simpa[seg] using hu.1,hu.2⟩,hb⟩
 ·obtain⟨h1,rfl,h2,h3,h4,rfl⟩:=h.parts hn
  exact Kn a b w hl hn h1 ⟨h2,h3,h4⟩
end Go.Proofs.YtlhmfgbaefaneaaGreatDoor.dec
