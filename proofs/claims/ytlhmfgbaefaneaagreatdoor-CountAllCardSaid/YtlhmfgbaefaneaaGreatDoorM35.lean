/-
  The steps of the walks, part 35: DecG, DecT.
-/
import Derived.Test.YtlhmfgbaefaneaaGreatDoorM34
import Derived.Test.YtlhmfgbaefaneaaGreatDoorM33
import Derived.Test.YtlhmfgbaefaneaaGreatDoorM23
import Derived.Test.YtlhmfgbaefaneaaGreatDoorM04
set_option maxHeartbeats 4000000
set_option maxRecDepth 100000
namespace Go.Proofs.YtlhmfgbaefaneaaGreatDoor.dec
open Go.RowKit Go.Proofs.YtlhmfgbaefaneaaGreatDoor.nat Go.Proofs.YtlhmfgbaefaneaaGreatDoor.num
open Go.Proofs.YtlhmfgbaefaneaaGreatDoor.ref (str aD ch seg bU bA seg_lt dI eG signed)
theorem Oc (t:List UInt8)(n k:Nat)(w:World)(hl:t.length≤60)(hm:∀u,t≠45::u)(h:dI t n k):
  Calls Tryz.prog 147 #[.string (str t)] w fun e w'=>∃u,e= .returned (.tuple #[u,.int .i64 (k:Nat),.nilIface])∧(rat.IsR w' u (((signed false n:Int):Rat)/(((10 ^ k:Nat):Int):Rat))∧u≠ .pointer none)∧Below w.heap.size w w':=by
 have hz0: (str t).size=t.length:=aD _
 have hlt:t.length≤60:=by exact hl
 have HC:=Lib.hid (fun W=>num.Sc t W (by omega) hm)
 have HR:=Lib.hid (fun W=>Np t n k W hlt h)
 have hk:=uR h
 have hln:Ln n 60:=rat.vM (Es h) hlt
 have h10:=mR hk
 have HT:=Lib.hid (fun W=>nO k W hk)
 have HN:=Lib.hid (fun W v (hv:nat.IsN W v n)=>num.dD false v n W hv)
 rw[kW] at HN
 have HD:=fun W v (hv:nat.IsN W v (10 ^ k))=>num.dD false v (10 ^ k) W hv
 rw[show num.sgn false (10 ^ k)=((10 ^ k:Nat):Int) from rfl] at HD
 have HD:=Lib.hid HD
 have HQ:=Lib.hid (fun W a b (ha:num.IsZ W a (signed false n))(hb:num.IsZ W b ((10 ^ k:Nat):Int))=>rat.wG a b _ _ W ha hb (show Lz (signed false n) 300000 from by unfold Lz signed;simp only[Bool.false_eq_true,if_false,Int.natAbs_natCast];exact hln.le (by decide)) (show Lz ((10 ^ k:Nat):Int) 300000 from by unfold Lz;rw[Int.natAbs_natCast];exact h10.le (by decide)) (by have:0<10 ^ k:=Nat.pow_pos (by omega);omega))
 generalize ((signed false n:Int):Rat)/(((10 ^ k:Nat):Int):Rat)=q at *
 generalize signed false n=Z at *
 generalize 10 ^ k=P at *
 generalize str t=s0 at *
 generalize t.length=N at *
 clear hlt hk hln h10 h hm
 go_enter Tryz.func147,Tryz.ntmps147
 go_wp2_with (first
  |(go_at_call 189;(with_reducible refine(HC.out _).mono ?_);rintro e w1 ⟨rfl,rfl⟩;clear HC)
  |(go_at_call 190;(with_reducible refine(HR.out _).mono ?_);rintro e W1 ⟨u,rfl,⟨h_u,n_u⟩,hb⟩;have H_u:=Lib.hid h_u;have HB1:=Lib.hid hb;clear h_u n_u hb HR)
  |(go_at_call 128;(with_reducible refine(HN.out _ _ H_u.out).mono ?_);rintro e W2 ⟨z,rfl,⟨h_z,n_z⟩,hb⟩;have H_z:=Lib.hid h_z;have HB2:=Lib.hid (nat.aM HB1.out hb);clear h_z n_z hb HN)
  |(go_at_call 191;(with_reducible refine(HT.out _).mono ?_);rintro e W3 ⟨t,rfl,⟨h_t,n_t⟩,hb⟩;have H_t:=Lib.hid h_t;have H_z3:=Lib.hid (H_z.out.below hb);have HB3:=Lib.hid (nat.aM HB2.out hb);clear h_t n_t hb HT)
  |(go_at_call 128;(with_reducible refine(HD.out _ _ H_t.out).mono ?_);rintro e W4 ⟨d,rfl,⟨h_d,n_d⟩,hb⟩;have H_d:=Lib.hid h_d;have H_z4:=Lib.hid (H_z3.out.below hb);have HB4:=Lib.hid (nat.aM HB3.out hb);clear h_d n_d hb HD)
  |(go_at_call 97;(with_reducible refine(HQ.out _ _ _ H_z4.out H_d.out).mono ?_);rintro e W5 ⟨v,rfl,⟨h_v,n_v⟩,hb⟩;have H_v:=Lib.hid h_v;have N_v:=Lib.hid n_v;have HB5:=Lib.hid (nat.aM HB4.out hb);clear h_v n_v hb HQ)
  |(fail "no arm"))
 go_ret3
 exact⟨_,rfl,⟨H_v.out,N_v.out⟩,HB5.out⟩
theorem Ob (t:List UInt8)(n k:Nat)(w:World)(hl: (45::t).length≤60)(h0:¬n=0)(h:dI t n k):
  Calls Tryz.prog 147 #[.string (str (45::t))] w fun e w'=>∃u,e= .returned (.tuple #[u,.int .i64 (k:Nat),.nilIface])∧(rat.IsR w' u (((signed true n:Int):Rat)/(((10 ^ k:Nat):Int):Rat))∧u≠ .pointer none)∧Below w.heap.size w w':=by
 have hz0: (str (45::t)).size=(45::t).length:=aD _
 have hlt:t.length≤60:=by simp at hl;omega
 have HC:=Lib.hid (fun W=>num.Nw t W (by omega))
 have HR:=Lib.hid (fun W=>Np t n k W hlt h)
 have hk:=uR h
 have hln:Ln n 60:=rat.vM (Es h) hlt
 have h10:=mR hk
 have HZ:=Lib.hid (fun W v (hv:nat.IsN W v n)=>nat.dY v n W hv)
 rw[decide_eq_false h0] at HZ
 have HT:=Lib.hid (fun W=>nO k W hk)
 have HN:=Lib.hid (fun W v (hv:nat.IsN W v n)=>num.dD true v n W hv)
 rw[kW] at HN
 have HD:=fun W v (hv:nat.IsN W v (10 ^ k))=>num.dD false v (10 ^ k) W hv
 rw[show num.sgn false (10 ^ k)=((10 ^ k:Nat):Int) from rfl] at HD
 have HD:=Lib.hid HD
 have HQ:=Lib.hid (fun W a b (ha:num.IsZ W a (signed true n))(hb:num.IsZ W b ((10 ^ k:Nat):Int))=>rat.wG a b _ _ W ha hb (show Lz (signed true n) 300000 from by unfold Lz signed;simp only[if_true,Int.natAbs_neg,Int.natAbs_natCast];exact hln.le (by decide)) (show Lz ((10 ^ k:Nat):Int) 300000 from by unfold Lz;rw[Int.natAbs_natCast];exact h10.le (by decide)) (by have:0<10 ^ k:=Nat.pow_pos (by omega);omega))
 generalize ((signed true n:Int):Rat)/(((10 ^ k:Nat):Int):Rat)=q at *
 generalize signed true n=Z at *
 generalize 10 ^ k=P at *
 generalize str (45::t)=s0 at *
 generalize str t=s1 at *
 generalize (45::t).length=N at *
 clear hlt hk hln h10 h h0
 go_enter Tryz.func147,Tryz.ntmps147
 go_wp2_with (first
  |(go_at_call 189;(with_reducible refine(HC.out _).mono ?_);rintro e w1 ⟨rfl,rfl⟩;clear HC)
  |(go_at_call 190;(with_reducible refine(HR.out _).mono ?_);rintro e W1 ⟨u,rfl,⟨h_u,n_u⟩,hb⟩;have H_u:=Lib.hid h_u;have HB1:=Lib.hid hb;clear h_u n_u hb HR)
  |(go_at_call 164;(with_reducible refine(HZ.out _ _ H_u.out).mono ?_);rintro e w9 ⟨rfl,rfl⟩;clear HZ)
  |(go_at_call 128;(with_reducible refine(HN.out _ _ H_u.out).mono ?_);rintro e W2 ⟨z,rfl,⟨h_z,n_z⟩,hb⟩;have H_z:=Lib.hid h_z;have HB2:=Lib.hid (nat.aM HB1.out hb);clear h_z n_z hb HN)
  |(go_at_call 191;(with_reducible refine(HT.out _).mono ?_);rintro e W3 ⟨t,rfl,⟨h_t,n_t⟩,hb⟩;have H_t:=Lib.hid h_t;have H_z3:=Lib.hid (H_z.out.below hb);have HB3:=Lib.hid (nat.aM HB2.out hb);clear h_t n_t hb HT)
  |(go_at_call 128;(with_reducible refine(HD.out _ _ H_t.out).mono ?_);rintro e W4 ⟨d,rfl,⟨h_d,n_d⟩,hb⟩;have H_d:=Lib.hid h_d;have H_z4:=Lib.hid (H_z3.out.below hb);have HB4:=Lib.hid (nat.aM HB3.out hb);clear h_d n_d hb HD)
  |(go_at_call 97;(with_reducible refine(HQ.out _ _ _ H_z4.out H_d.out).mono ?_);rintro e W5 ⟨v,rfl,⟨h_v,n_v⟩,hb⟩;have H_v:=Lib.hid h_v;have N_v:=Lib.hid n_v;have HB5:=Lib.hid (nat.aM HB4.out hb);clear h_v n_v hb HQ)
  |(fail "no arm"))
 go_ret3
 exact⟨_,rfl,⟨H_v.out,N_v.out⟩,HB5.out⟩
theorem wF (l:List UInt8)(neg:Bool)(n k:Nat)(w:World)(h:eG l neg n k):
  Calls Tryz.prog 147 #[.string (str l)] w fun e w'=>∃u,e= .returned (.tuple #[u,.int .i64 (k:Nat),.nilIface])∧(rat.IsR w' u (((signed neg n:Int):Rat)/(((10 ^ k:Nat):Int):Rat))∧u≠ .pointer none)∧Below w.heap.size w w':=by
 obtain⟨hl,t,rfl,h0,hb⟩:=h
 cases neg
 ·refine Oc t n k w hl ?_ hb
  rintro u rfl
  obtain⟨c,v,he,hc,-⟩:=hb.head
  simp at he
  obtain⟨rfl,-⟩:=he
  simp at hc
 ·exact Ob t n k w hl (h0 rfl) hb
end Go.Proofs.YtlhmfgbaefaneaaGreatDoor.dec
namespace Go.Proofs.YtlhmfgbaefaneaaGreatDoor.dec
open Go.RowKit Go.Proofs.YtlhmfgbaefaneaaGreatDoor.nat Go.Proofs.YtlhmfgbaefaneaaGreatDoor.num Go.Proofs.YtlhmfgbaefaneaaGreatDoor.ch
open Go.Proofs.YtlhmfgbaefaneaaGreatDoor.rat (IsR Lr)
open Go.Proofs.YtlhmfgbaefaneaaGreatDoor.ref (str aD aJ cB iX signed bQ)
theorem iU (x:Nat):1≤(Lib.decDigits x).length:=by
 rw[Lib.decDigits_length]
 by_cases h:x<10
 ·rw[Lib.nDigits_small h];exact Nat.le_refl _
 ·rw[Lib.nDigits_big (by omega)];omega
theorem yN (a:Value)(x k:Nat)(w:World)(ha:nat.IsN w a x)(hx:Ln x 40000)(hk:k≤20)(hm: (Lib.decDigits x).length≤k)(hk0:0<k):
  Calls Tryz.prog 187 #[.bool false,a,.int .i64 (k:Nat)] w fun e w'=>e= .returned (.string (str (bQ (signed false x) k)))∧Below w.heap.size w w':=by
 have HT:=Lib.hid (nat.bP a x w ha hx)
 have HA:=Lib.hid ha
 have hl1:=iU x
 have hl2:=eB hx
 rw[aD] at hl2
 rw[jA,if_neg (by simp)]
 unfold ref.dJ
 rw[if_neg (by omega)]
 clear ha hx
 generalize Lib.decDigits x=L at *
 obtain⟨l,hl⟩:∃l,L.length=l:=⟨_,rfl⟩
 rw[hl] at hl1 hl2 hm
 have hsl: (str L).size=l:=by rw[aD,hl]
 obtain⟨m,hmm⟩:∃m,m=k+1 - l:=⟨_,rfl⟩
 have hpad:ref.dB L k=List.replicate m 48++L:=by unfold ref.dB;rw[hl,hmm]
 have hrs: (str (List.replicate m 48)).size=m:=by rw[aD,List.length_replicate]
 have hcat:str (List.replicate m 48)++str L=str (ref.dB L k):=by rw[hpad,aJ]
 have hNL: (ref.dB L k).length=k+1:=by rw[ref.nK];omega
 have HRp:=Lib.hid (fun z (hz:z=(m:Int)) W=>date.jN z m hz W (by omega) (by omega))
 have hmi: (0:Int)<(k:Int)+1 - (l:Int):=by omega
 have hz1:¬9223372036854775807<(str (List.replicate m 48)).size+(str L).size:=by omega
 have HMM:=Lib.hid (show(k:Int)+1 - (l:Int)=(m:Int) by omega)
 obtain⟨N,hN⟩:∃N,N=k+1:=⟨_,rfl⟩
 rw[←hN] at hNL
 clear hpad
 generalize ref.dB L k=D at *
 generalize str (List.replicate m 48)=sr at *
 have hNk:k<N:=by omega
 have hNb:N≤900000:=by omega
 have hDl:D.length=N:=by exact hNL
 have hx1: (str D).extract 0 (N - k)=str (D.take (N - k)):=by apply ByteArray.ext;simp[str]
 have hx2: (str D).extract (N - k) N=str (D.drop (N - k)):=by
  apply ByteArray.ext
  simp[str,List.take_of_length_le,hDl]
 have hy1: (str (D.take (N - k))).size=N - k:=by rw[aD,List.length_take];omega
 have hy2: (str (D.drop (N - k))).size=k:=by rw[aD,List.length_drop];omega
 rw[hDl]
 have hS:str (D.take (N - k))++({data:=#[46]} :ByteArray)++str (D.drop (N - k))=str (D.take (N - k)++46::D.drop (N - k)):=by
  rw[show({data:=#[46]} :ByteArray)=str [46] from rfl,aJ,aJ,List.append_assoc]
  rfl
 have hsD: (str D).size=N:=by rw[aD,hDl]
 generalize D.take (N - k)++46::D.drop (N - k)=T at *
 generalize str (D.take (N - k))=a1 at *
 generalize str (D.drop (N - k))=a2 at *
 obtain⟨M,hM⟩:∃M,M=N - k:=⟨_,rfl⟩
 rw[←hM] at hx1 hx2 hy1
 have hMi: (N:Int) - (k:Int)=(M:Int):=by omega
 have hM1: (M:Int)≤(N:Int):=by omega
 have hk0b: (0:Int)<(k:Int):=by omega
 have h46: ({data:=#[46]} :ByteArray).size=1:=rfl
 have hs1:¬9223372036854775807<a1.size+({data:=#[46]} :ByteArray).size:=by omega
 have hs2:¬9223372036854775807<(a1++({data:=#[46]} :ByteArray)).size+a2.size:=by rw[ByteArray.size_append];omega
 have hs3:¬9223372036854775807<a1.size+1:=by omega
 have hs4:¬9223372036854775807<a1.size+1+a2.size:=by omega
 have HS:=Lib.hid hS
 generalize hsDD:str D=sD at *
 have HM:=Lib.hid hM
 clear hS hM hDl hm hsDD hk hNL hN hl hmm
 generalize str L=sL at *
 generalize str T=sT at *
 go_enter Tryz.func187,Tryz.ntmps187
 go_wp2_with (first
  |(go_at_call 135;(with_reducible refine(HT.out).mono ?_);rintro e W1 ⟨rfl,hb⟩
    have HA1:=Lib.hid (HA.out.below hb)
    have HB1:=Lib.hid hb
    clear hb)
  |(go_at_call 121;(with_reducible refine(HRp.out _ HMM.out _).mono ?_);rintro e W2 ⟨rfl,hb⟩
    have HA2:=Lib.hid (HA1.out.below hb)
    have HB2:=Lib.hid (nat.aM HB1.out hb)
    clear hb)
  |(fail "no arm"))
 go_quiet (fail)
 go_wp2_with (first
  |(go_at_call 135;(with_reducible refine(HT.out).mono ?_);rintro e W1 ⟨rfl,hb⟩
    have HA1:=Lib.hid (HA.out.below hb)
    have HB1:=Lib.hid hb
    clear hb)
  |(go_at_call 121;(with_reducible refine(HRp.out _ HMM.out _).mono ?_);rintro e W2 ⟨rfl,hb⟩
    have HA2:=Lib.hid (HA1.out.below hb)
    have HB2:=Lib.hid (nat.aM HB1.out hb)
    clear hb)
  |(fail "no arm"))
 go_ret
 exact⟨by rw[←HS.out];rfl,nat.aU HB2.out _⟩
theorem vJ (a:Value)(x k:Nat)(w:World)(ha:nat.IsN w a x)(hx:Ln x 40000)(hk:k≤20)(hm: (Lib.decDigits x).length≤k)(hk0:0<k)(h0:x=0):
  Calls Tryz.prog 187 #[.bool true,a,.int .i64 (k:Nat)] w fun e w'=>e= .returned (.string (str (bQ (signed true x) k)))∧Below w.heap.size w w':=by
 have HT:=Lib.hid (nat.bP a x w ha hx)
 have HA:=Lib.hid ha
 have HZ:=Lib.hid (fun W (h:nat.IsN W a x)=>nat.dY a x W h)
 rw[decide_eq_true h0] at HZ
 have hl1:=iU x
 have hl2:=eB hx
 rw[aD] at hl2
 rw[jA,if_neg (fun h=>h.2 h0)]
 unfold ref.dJ
 rw[if_neg (by omega)]
 clear ha hx h0
 generalize Lib.decDigits x=L at *
 obtain⟨l,hl⟩:∃l,L.length=l:=⟨_,rfl⟩
 rw[hl] at hl1 hl2 hm
 have hsl: (str L).size=l:=by rw[aD,hl]
 obtain⟨m,hmm⟩:∃m,m=k+1 - l:=⟨_,rfl⟩
 have hpad:ref.dB L k=List.replicate m 48++L:=by unfold ref.dB;rw[hl,hmm]
 have hrs: (str (List.replicate m 48)).size=m:=by rw[aD,List.length_replicate]
 have hcat:str (List.replicate m 48)++str L=str (ref.dB L k):=by rw[hpad,aJ]
 have hNL: (ref.dB L k).length=k+1:=by rw[ref.nK];omega
 have HRp:=Lib.hid (fun z (hz:z=(m:Int)) W=>date.jN z m hz W (by omega) (by omega))
 have hmi: (0:Int)<(k:Int)+1 - (l:Int):=by omega
 have hz1:¬9223372036854775807<(str (List.replicate m 48)).size+(str L).size:=by omega
 have HMM:=Lib.hid (show(k:Int)+1 - (l:Int)=(m:Int) by omega)
 obtain⟨N,hN⟩:∃N,N=k+1:=⟨_,rfl⟩
 rw[←hN] at hNL
 clear hpad
 generalize ref.dB L k=D at *
 generalize str (List.replicate m 48)=sr at *
 have hNk:k<N:=by omega
 have hNb:N≤900000:=by omega
 have hDl:D.length=N:=by exact hNL
 have hx1: (str D).extract 0 (N - k)=str (D.take (N - k)):=by apply ByteArray.ext;simp[str]
 have hx2: (str D).extract (N - k) N=str (D.drop (N - k)):=by
  apply ByteArray.ext
  simp[str,List.take_of_length_le,hDl]
 have hy1: (str (D.take (N - k))).size=N - k:=by rw[aD,List.length_take];omega
 have hy2: (str (D.drop (N - k))).size=k:=by rw[aD,List.length_drop];omega
 rw[hDl]
 have hS:str (D.take (N - k))++({data:=#[46]} :ByteArray)++str (D.drop (N - k))=str (D.take (N - k)++46::D.drop (N - k)):=by
  rw[show({data:=#[46]} :ByteArray)=str [46] from rfl,aJ,aJ,List.append_assoc]
  rfl
 have hsD: (str D).size=N:=by rw[aD,hDl]
 generalize D.take (N - k)++46::D.drop (N - k)=T at *
 generalize str (D.take (N - k))=a1 at *
 generalize str (D.drop (N - k))=a2 at *
 obtain⟨M,hM⟩:∃M,M=N - k:=⟨_,rfl⟩
 rw[←hM] at hx1 hx2 hy1
 have hMi: (N:Int) - (k:Int)=(M:Int):=by omega
 have hM1: (M:Int)≤(N:Int):=by omega
 have hk0b: (0:Int)<(k:Int):=by omega
 have h46: ({data:=#[46]} :ByteArray).size=1:=rfl
 have hs1:¬9223372036854775807<a1.size+({data:=#[46]} :ByteArray).size:=by omega
 have hs2:¬9223372036854775807<(a1++({data:=#[46]} :ByteArray)).size+a2.size:=by rw[ByteArray.size_append];omega
 have hs3:¬9223372036854775807<a1.size+1:=by omega
 have hs4:¬9223372036854775807<a1.size+1+a2.size:=by omega
 have HS:=Lib.hid hS
 generalize hsDD:str D=sD at *
 have HM:=Lib.hid hM
 clear hS hM hDl hm hsDD hk hNL hN hl hmm
 generalize str L=sL at *
 generalize str T=sT at *
 go_enter Tryz.func187,Tryz.ntmps187
 go_wp2_with (first
  |(go_at_call 135;(with_reducible refine(HT.out).mono ?_);rintro e W1 ⟨rfl,hb⟩
    have HA1:=Lib.hid (HA.out.below hb)
    have HB1:=Lib.hid hb
    clear hb)
  |(go_at_call 121;(with_reducible refine(HRp.out _ HMM.out _).mono ?_);rintro e W2 ⟨rfl,hb⟩
    have HA2:=Lib.hid (HA1.out.below hb)
    have HB2:=Lib.hid (nat.aM HB1.out hb)
    clear hb)
  |(go_at_call 164;(with_reducible refine(HZ.out _ (HA2.out.below (nat.aK _ _))).mono ?_);rintro e W3 ⟨rfl,rfl⟩)
  |(fail "no arm"))
 go_quiet (fail)
 go_wp2_with (first
  |(go_at_call 135;(with_reducible refine(HT.out).mono ?_);rintro e W1 ⟨rfl,hb⟩
    have HA1:=Lib.hid (HA.out.below hb)
    have HB1:=Lib.hid hb
    clear hb)
  |(go_at_call 121;(with_reducible refine(HRp.out _ HMM.out _).mono ?_);rintro e W2 ⟨rfl,hb⟩
    have HA2:=Lib.hid (HA1.out.below hb)
    have HB2:=Lib.hid (nat.aM HB1.out hb)
    clear hb)
  |(go_at_call 164;(with_reducible refine(HZ.out _ (HA2.out.below (nat.aK _ _))).mono ?_);rintro e W3 ⟨rfl,rfl⟩)
  |(fail "no arm"))
 go_ret
 exact⟨by rw[←HS.out];rfl,nat.aU HB2.out _⟩
theorem yM (a:Value)(x k:Nat)(w:World)(ha:nat.IsN w a x)(hx:Ln x 40000)(hk:k≤20)(hm: (Lib.decDigits x).length≤k)(hk0:0<k)(h0:¬x=0):
  Calls Tryz.prog 187 #[.bool true,a,.int .i64 (k:Nat)] w fun e w'=>e= .returned (.string (str (bQ (signed true x) k)))∧Below w.heap.size w w':=by
 have HT:=Lib.hid (nat.bP a x w ha hx)
 have HA:=Lib.hid ha
 have HZ:=Lib.hid (fun W (h:nat.IsN W a x)=>nat.dY a x W h)
 rw[decide_eq_false h0] at HZ
 have hl1:=iU x
 have hl2:=eB hx
 rw[aD] at hl2
 rw[jA,if_pos ⟨rfl,h0⟩]
 unfold ref.dJ
 rw[if_neg (by omega)]
 clear ha hx h0
 generalize Lib.decDigits x=L at *
 obtain⟨l,hl⟩:∃l,L.length=l:=⟨_,rfl⟩
 rw[hl] at hl1 hl2 hm
 have hsl: (str L).size=l:=by rw[aD,hl]
 obtain⟨m,hmm⟩:∃m,m=k+1 - l:=⟨_,rfl⟩
 have hpad:ref.dB L k=List.replicate m 48++L:=by unfold ref.dB;rw[hl,hmm]
 have hrs: (str (List.replicate m 48)).size=m:=by rw[aD,List.length_replicate]
 have hcat:str (List.replicate m 48)++str L=str (ref.dB L k):=by rw[hpad,aJ]
 have hNL: (ref.dB L k).length=k+1:=by rw[ref.nK];omega
 have HRp:=Lib.hid (fun z (hz:z=(m:Int)) W=>date.jN z m hz W (by omega) (by omega))
 have hmi: (0:Int)<(k:Int)+1 - (l:Int):=by omega
 have hz1:¬9223372036854775807<(str (List.replicate m 48)).size+(str L).size:=by omega
 have HMM:=Lib.hid (show(k:Int)+1 - (l:Int)=(m:Int) by omega)
 obtain⟨N,hN⟩:∃N,N=k+1:=⟨_,rfl⟩
 rw[←hN] at hNL
 clear hpad
 generalize ref.dB L k=D at *
 generalize str (List.replicate m 48)=sr at *
 have hNk:k<N:=by omega
 have hNb:N≤900000:=by omega
 have hDl:D.length=N:=by exact hNL
 have hx1: (str D).extract 0 (N - k)=str (D.take (N - k)):=by apply ByteArray.ext;simp[str]
 have hx2: (str D).extract (N - k) N=str (D.drop (N - k)):=by
  apply ByteArray.ext
  simp[str,List.take_of_length_le,hDl]
 have hy1: (str (D.take (N - k))).size=N - k:=by rw[aD,List.length_take];omega
 have hy2: (str (D.drop (N - k))).size=k:=by rw[aD,List.length_drop];omega
 rw[hDl]
 have hS:str (D.take (N - k))++({data:=#[46]} :ByteArray)++str (D.drop (N - k))=str (D.take (N - k)++46::D.drop (N - k)):=by
  rw[show({data:=#[46]} :ByteArray)=str [46] from rfl,aJ,aJ,List.append_assoc]
  rfl
 have hsD: (str D).size=N:=by rw[aD,hDl]
 generalize D.take (N - k)++46::D.drop (N - k)=T at *
 generalize str (D.take (N - k))=a1 at *
 generalize str (D.drop (N - k))=a2 at *
 obtain⟨M,hM⟩:∃M,M=N - k:=⟨_,rfl⟩
 rw[←hM] at hx1 hx2 hy1
 have hMi: (N:Int) - (k:Int)=(M:Int):=by omega
 have hM1: (M:Int)≤(N:Int):=by omega
 have hk0b: (0:Int)<(k:Int):=by omega
 have h46: ({data:=#[46]} :ByteArray).size=1:=rfl
 have hs1:¬9223372036854775807<a1.size+({data:=#[46]} :ByteArray).size:=by omega
 have hs2:¬9223372036854775807<(a1++({data:=#[46]} :ByteArray)).size+a2.size:=by rw[ByteArray.size_append];omega
 have hs3:¬9223372036854775807<a1.size+1:=by omega
 have hs4:¬9223372036854775807<a1.size+1+a2.size:=by omega
 have HS:=Lib.hid hS
 generalize hsDD:str D=sD at *
 have HM:=Lib.hid hM
 clear hS hM hDl hm hsDD hk hNL hN hl hmm
 generalize str L=sL at *
 have HR:Hid (({data:=#[45]} :ByteArray)++str T=str (45::T)):=Lib.hid (by rw[show({data:=#[45]} :ByteArray)=str [45] from rfl,aJ];rfl)
 generalize str (45::T)=sR at *
 generalize str T=sT at *
 have h45: ({data:=#[45]} :ByteArray).size=1:=rfl
 have hs5:¬9223372036854775807<({data:=#[45]} :ByteArray).size+(a1++({data:=#[46]} :ByteArray)++a2).size:=by rw[ByteArray.size_append,ByteArray.size_append];omega
 go_enter Tryz.func187,Tryz.ntmps187
 go_wp2_with (first
  |(go_at_call 135;(with_reducible refine(HT.out).mono ?_);rintro e W1 ⟨rfl,hb⟩
    have HA1:=Lib.hid (HA.out.below hb)
    have HB1:=Lib.hid hb
    clear hb)
  |(go_at_call 121;(with_reducible refine(HRp.out _ HMM.out _).mono ?_);rintro e W2 ⟨rfl,hb⟩
    have HA2:=Lib.hid (HA1.out.below hb)
    have HB2:=Lib.hid (nat.aM HB1.out hb)
    clear hb)
  |(go_at_call 164;(with_reducible refine(HZ.out _ (HA2.out.below (nat.aK _ _))).mono ?_);rintro e W3 ⟨rfl,rfl⟩)
  |(fail "no arm"))
 go_quiet (fail)
 go_wp2_with (first
  |(go_at_call 135;(with_reducible refine(HT.out).mono ?_);rintro e W1 ⟨rfl,hb⟩
    have HA1:=Lib.hid (HA.out.below hb)
    have HB1:=Lib.hid hb
    clear hb)
  |(go_at_call 121;(with_reducible refine(HRp.out _ HMM.out _).mono ?_);rintro e W2 ⟨rfl,hb⟩
    have HA2:=Lib.hid (HA1.out.below hb)
    have HB2:=Lib.hid (nat.aM HB1.out hb)
    clear hb)
  |(go_at_call 164;(with_reducible refine(HZ.out _ (HA2.out.below (nat.aK _ _))).mono ?_);rintro e W3 ⟨rfl,rfl⟩)
  |(fail "no arm"))
 go_ret
 exact⟨by rw[←HR.out,←HS.out];rfl,nat.aU HB2.out _⟩
theorem uG (a:Value)(x k:Nat)(w:World)(ha:nat.IsN w a x)(hx:Ln x 40000)(hk:k≤20)(hm:k<(Lib.decDigits x).length)(hk0:k=0):
  Calls Tryz.prog 187 #[.bool false,a,.int .i64 (k:Nat)] w fun e w'=>e= .returned (.string (str (bQ (signed false x) k)))∧Below w.heap.size w w':=by
 have HT:=Lib.hid (nat.bP a x w ha hx)
 have HA:=Lib.hid ha
 have hl1:=iU x
 have hl2:=eB hx
 rw[aD] at hl2
 rw[jA,if_neg (by simp)]
 unfold ref.dJ
 subst hk0
 rw[if_pos rfl]
 clear ha hx
 generalize Lib.decDigits x=L at *
 obtain⟨l,hl⟩:∃l,L.length=l:=⟨_,rfl⟩
 rw[hl] at hl1 hl2 hm
 have hsl: (str L).size=l:=by rw[aD,hl]
 have hpad:ref.dB L 0=L:=by unfold ref.dB;rw[hl,show 0+1 - l=0 by omega];rfl
 rw[hpad]
 have hmi:¬(0:Int)<0+1 - (l:Int):=by omega
 clear hpad
 clear hl hm
 generalize str L=sD at *
 go_enter Tryz.func187,Tryz.ntmps187
 go_wp2_with (first
  |(go_at_call 135;(with_reducible refine(HT.out).mono ?_);rintro e W1 ⟨rfl,hb⟩
    have HA1:=Lib.hid (HA.out.below hb)
    have HB1:=Lib.hid hb
    clear hb)
  |(fail "no arm"))
 go_ret
 exact⟨rfl,HB1.out⟩
theorem sN (a:Value)(x k:Nat)(w:World)(ha:nat.IsN w a x)(hx:Ln x 40000)(hk:k≤20)(hm:k<(Lib.decDigits x).length)(hk0:k=0)(h0:x=0):
  Calls Tryz.prog 187 #[.bool true,a,.int .i64 (k:Nat)] w fun e w'=>e= .returned (.string (str (bQ (signed true x) k)))∧Below w.heap.size w w':=by
 have HT:=Lib.hid (nat.bP a x w ha hx)
 have HA:=Lib.hid ha
 have HZ:=Lib.hid (fun W (h:nat.IsN W a x)=>nat.dY a x W h)
 rw[decide_eq_true h0] at HZ
 have hl1:=iU x
 have hl2:=eB hx
 rw[aD] at hl2
 rw[jA,if_neg (fun h=>h.2 h0)]
 unfold ref.dJ
 subst hk0
 rw[if_pos rfl]
 clear ha hx h0
 generalize Lib.decDigits x=L at *
 obtain⟨l,hl⟩:∃l,L.length=l:=⟨_,rfl⟩
 rw[hl] at hl1 hl2 hm
 have hsl: (str L).size=l:=by rw[aD,hl]
 have hpad:ref.dB L 0=L:=by unfold ref.dB;rw[hl,show 0+1 - l=0 by omega];rfl
 rw[hpad]
 have hmi:¬(0:Int)<0+1 - (l:Int):=by omega
 clear hpad
 clear hl hm
 generalize str L=sD at *
 go_enter Tryz.func187,Tryz.ntmps187
 go_wp2_with (first
  |(go_at_call 135;(with_reducible refine(HT.out).mono ?_);rintro e W1 ⟨rfl,hb⟩
    have HA1:=Lib.hid (HA.out.below hb)
    have HB1:=Lib.hid hb
    clear hb)
  |(go_at_call 164;(with_reducible refine(HZ.out _ (HA1.out)).mono ?_);rintro e W3 ⟨rfl,rfl⟩)
  |(fail "no arm"))
 go_ret
 exact⟨rfl,HB1.out⟩
theorem uF (a:Value)(x k:Nat)(w:World)(ha:nat.IsN w a x)(hx:Ln x 40000)(hk:k≤20)(hm:k<(Lib.decDigits x).length)(hk0:k=0)(h0:¬x=0):
  Calls Tryz.prog 187 #[.bool true,a,.int .i64 (k:Nat)] w fun e w'=>e= .returned (.string (str (bQ (signed true x) k)))∧Below w.heap.size w w':=by
 have HT:=Lib.hid (nat.bP a x w ha hx)
 have HA:=Lib.hid ha
 have HZ:=Lib.hid (fun W (h:nat.IsN W a x)=>nat.dY a x W h)
 rw[decide_eq_false h0] at HZ
 have hl1:=iU x
 have hl2:=eB hx
 rw[aD] at hl2
 rw[jA,if_pos ⟨rfl,h0⟩]
 unfold ref.dJ
 subst hk0
 rw[if_pos rfl]
 clear ha hx h0
 generalize Lib.decDigits x=L at *
 obtain⟨l,hl⟩:∃l,L.length=l:=⟨_,rfl⟩
 rw[hl] at hl1 hl2 hm
 have hsl: (str L).size=l:=by rw[aD,hl]
 have hpad:ref.dB L 0=L:=by unfold ref.dB;rw[hl,show 0+1 - l=0 by omega];rfl
 rw[hpad]
 have hmi:¬(0:Int)<0+1 - (l:Int):=by omega
 clear hpad
 have HR:Hid (({data:=#[45]} :ByteArray)++str L=str (45::L)):=Lib.hid (by rw[show({data:=#[45]} :ByteArray)=str [45] from rfl,aJ];rfl)
 generalize str (45::L)=sR at *
 clear hl hm
 generalize str L=sD at *
 have h45: ({data:=#[45]} :ByteArray).size=1:=rfl
 have hs5:¬9223372036854775807<({data:=#[45]} :ByteArray).size+sD.size:=by omega
 go_enter Tryz.func187,Tryz.ntmps187
 go_wp2_with (first
  |(go_at_call 135;(with_reducible refine(HT.out).mono ?_);rintro e W1 ⟨rfl,hb⟩
    have HA1:=Lib.hid (HA.out.below hb)
    have HB1:=Lib.hid hb
    clear hb)
  |(go_at_call 164;(with_reducible refine(HZ.out _ (HA1.out)).mono ?_);rintro e W3 ⟨rfl,rfl⟩)
  |(fail "no arm"))
 go_ret
 exact⟨by rw[←HR.out];rfl,HB1.out⟩
theorem vI (a:Value)(x k:Nat)(w:World)(ha:nat.IsN w a x)(hx:Ln x 40000)(hk:k≤20)(hm:k<(Lib.decDigits x).length)(hk0:0<k):
  Calls Tryz.prog 187 #[.bool false,a,.int .i64 (k:Nat)] w fun e w'=>e= .returned (.string (str (bQ (signed false x) k)))∧Below w.heap.size w w':=by
 have HT:=Lib.hid (nat.bP a x w ha hx)
 have HA:=Lib.hid ha
 have hl1:=iU x
 have hl2:=eB hx
 rw[aD] at hl2
 rw[jA,if_neg (by simp)]
 unfold ref.dJ
 rw[if_neg (by omega)]
 clear ha hx
 generalize Lib.decDigits x=L at *
 obtain⟨l,hl⟩:∃l,L.length=l:=⟨_,rfl⟩
 rw[hl] at hl1 hl2 hm
 have hsl: (str L).size=l:=by rw[aD,hl]
 have hpad:ref.dB L k=L:=by unfold ref.dB;rw[hl,show k+1 - l=0 by omega];rfl
 rw[hpad]
 have hmi:¬(0:Int)<(k:Int)+1 - (l:Int):=by omega
 clear hpad
 have hNk:k<l:=by omega
 have hNb:l≤900000:=by omega
 have hDl:L.length=l:=by exact hl
 have hx1: (str L).extract 0 (l - k)=str (L.take (l - k)):=by apply ByteArray.ext;simp[str]
 have hx2: (str L).extract (l - k) l=str (L.drop (l - k)):=by
  apply ByteArray.ext
  simp[str,List.take_of_length_le,hDl]
 have hy1: (str (L.take (l - k))).size=l - k:=by rw[aD,List.length_take];omega
 have hy2: (str (L.drop (l - k))).size=k:=by rw[aD,List.length_drop];omega
 rw[hDl]
 have hS:str (L.take (l - k))++({data:=#[46]} :ByteArray)++str (L.drop (l - k))=str (L.take (l - k)++46::L.drop (l - k)):=by
  rw[show({data:=#[46]} :ByteArray)=str [46] from rfl,aJ,aJ,List.append_assoc]
  rfl
 have hsD: (str L).size=l:=by rw[aD,hDl]
 generalize L.take (l - k)++46::L.drop (l - k)=T at *
 generalize str (L.take (l - k))=a1 at *
 generalize str (L.drop (l - k))=a2 at *
 obtain⟨M,hM⟩:∃M,M=l - k:=⟨_,rfl⟩
 rw[←hM] at hx1 hx2 hy1
 have hMi: (l:Int) - (k:Int)=(M:Int):=by omega
 have hM1: (M:Int)≤(l:Int):=by omega
 have hk0b: (0:Int)<(k:Int):=by omega
 have h46: ({data:=#[46]} :ByteArray).size=1:=rfl
 have hs1:¬9223372036854775807<a1.size+({data:=#[46]} :ByteArray).size:=by omega
 have hs2:¬9223372036854775807<(a1++({data:=#[46]} :ByteArray)).size+a2.size:=by rw[ByteArray.size_append];omega
 have hs3:¬9223372036854775807<a1.size+1:=by omega
 have hs4:¬9223372036854775807<a1.size+1+a2.size:=by omega
 have HS:=Lib.hid hS
 generalize hsDD:str L=sD at *
 have HM:=Lib.hid hM
 clear hS hM hDl hm hsDD hk hl
 generalize str T=sT at *
 go_enter Tryz.func187,Tryz.ntmps187
 go_wp2_with (first
  |(go_at_call 135;(with_reducible refine(HT.out).mono ?_);rintro e W1 ⟨rfl,hb⟩
    have HA1:=Lib.hid (HA.out.below hb)
    have HB1:=Lib.hid hb
    clear hb)
  |(fail "no arm"))
 go_quiet (fail)
 go_wp2_with (first
  |(go_at_call 135;(with_reducible refine(HT.out).mono ?_);rintro e W1 ⟨rfl,hb⟩
    have HA1:=Lib.hid (HA.out.below hb)
    have HB1:=Lib.hid hb
    clear hb)
  |(fail "no arm"))
 go_ret
 exact⟨by rw[←HS.out];rfl,nat.aU HB1.out _⟩
theorem uH (a:Value)(x k:Nat)(w:World)(ha:nat.IsN w a x)(hx:Ln x 40000)(hk:k≤20)(hm:k<(Lib.decDigits x).length)(hk0:0<k)(h0:x=0):
  Calls Tryz.prog 187 #[.bool true,a,.int .i64 (k:Nat)] w fun e w'=>e= .returned (.string (str (bQ (signed true x) k)))∧Below w.heap.size w w':=by
 have HT:=Lib.hid (nat.bP a x w ha hx)
 have HA:=Lib.hid ha
 have HZ:=Lib.hid (fun W (h:nat.IsN W a x)=>nat.dY a x W h)
 rw[decide_eq_true h0] at HZ
 have hl1:=iU x
 have hl2:=eB hx
 rw[aD] at hl2
 rw[jA,if_neg (fun h=>h.2 h0)]
 unfold ref.dJ
 rw[if_neg (by omega)]
 clear ha hx h0
 generalize Lib.decDigits x=L at *
 obtain⟨l,hl⟩:∃l,L.length=l:=⟨_,rfl⟩
 rw[hl] at hl1 hl2 hm
 have hsl: (str L).size=l:=by rw[aD,hl]
 have hpad:ref.dB L k=L:=by unfold ref.dB;rw[hl,show k+1 - l=0 by omega];rfl
 rw[hpad]
 have hmi:¬(0:Int)<(k:Int)+1 - (l:Int):=by omega
 clear hpad
 have hNk:k<l:=by omega
 have hNb:l≤900000:=by omega
 have hDl:L.length=l:=by exact hl
 have hx1: (str L).extract 0 (l - k)=str (L.take (l - k)):=by apply ByteArray.ext;simp[str]
 have hx2: (str L).extract (l - k) l=str (L.drop (l - k)):=by
  apply ByteArray.ext
  simp[str,List.take_of_length_le,hDl]
 have hy1: (str (L.take (l - k))).size=l - k:=by rw[aD,List.length_take];omega
 have hy2: (str (L.drop (l - k))).size=k:=by rw[aD,List.length_drop];omega
 rw[hDl]
 have hS:str (L.take (l - k))++({data:=#[46]} :ByteArray)++str (L.drop (l - k))=str (L.take (l - k)++46::L.drop (l - k)):=by
  rw[show({data:=#[46]} :ByteArray)=str [46] from rfl,aJ,aJ,List.append_assoc]
  rfl
 have hsD: (str L).size=l:=by rw[aD,hDl]
 generalize L.take (l - k)++46::L.drop (l - k)=T at *
 generalize str (L.take (l - k))=a1 at *
 generalize str (L.drop (l - k))=a2 at *
 obtain⟨M,hM⟩:∃M,M=l - k:=⟨_,rfl⟩
 rw[←hM] at hx1 hx2 hy1
 have hMi: (l:Int) - (k:Int)=(M:Int):=by omega
 have hM1: (M:Int)≤(l:Int):=by omega
 have hk0b: (0:Int)<(k:Int):=by omega
 have h46: ({data:=#[46]} :ByteArray).size=1:=rfl
 have hs1:¬9223372036854775807<a1.size+({data:=#[46]} :ByteArray).size:=by omega
 have hs2:¬9223372036854775807<(a1++({data:=#[46]} :ByteArray)).size+a2.size:=by rw[ByteArray.size_append];omega
 have hs3:¬9223372036854775807<a1.size+1:=by omega
 have hs4:¬9223372036854775807<a1.size+1+a2.size:=by omega
 have HS:=Lib.hid hS
 generalize hsDD:str L=sD at *
 have HM:=Lib.hid hM
 clear hS hM hDl hm hsDD hk hl
 generalize str T=sT at *
 go_enter Tryz.func187,Tryz.ntmps187
 go_wp2_with (first
  |(go_at_call 135;(with_reducible refine(HT.out).mono ?_);rintro e W1 ⟨rfl,hb⟩
    have HA1:=Lib.hid (HA.out.below hb)
    have HB1:=Lib.hid hb
    clear hb)
  |(go_at_call 164;(with_reducible refine(HZ.out _ (HA1.out.below (nat.aK _ _))).mono ?_);rintro e W3 ⟨rfl,rfl⟩)
  |(fail "no arm"))
 go_quiet (fail)
 go_wp2_with (first
  |(go_at_call 135;(with_reducible refine(HT.out).mono ?_);rintro e W1 ⟨rfl,hb⟩
    have HA1:=Lib.hid (HA.out.below hb)
    have HB1:=Lib.hid hb
    clear hb)
  |(go_at_call 164;(with_reducible refine(HZ.out _ (HA1.out.below (nat.aK _ _))).mono ?_);rintro e W3 ⟨rfl,rfl⟩)
  |(fail "no arm"))
 go_ret
 exact⟨by rw[←HS.out];rfl,nat.aU HB1.out _⟩
theorem vH (a:Value)(x k:Nat)(w:World)(ha:nat.IsN w a x)(hx:Ln x 40000)(hk:k≤20)(hm:k<(Lib.decDigits x).length)(hk0:0<k)(h0:¬x=0):
  Calls Tryz.prog 187 #[.bool true,a,.int .i64 (k:Nat)] w fun e w'=>e= .returned (.string (str (bQ (signed true x) k)))∧Below w.heap.size w w':=by
 have HT:=Lib.hid (nat.bP a x w ha hx)
 have HA:=Lib.hid ha
 have HZ:=Lib.hid (fun W (h:nat.IsN W a x)=>nat.dY a x W h)
 rw[decide_eq_false h0] at HZ
 have hl1:=iU x
 have hl2:=eB hx
 rw[aD] at hl2
 rw[jA,if_pos ⟨rfl,h0⟩]
 unfold ref.dJ
 rw[if_neg (by omega)]
 clear ha hx h0
 generalize Lib.decDigits x=L at *
 obtain⟨l,hl⟩:∃l,L.length=l:=⟨_,rfl⟩
 rw[hl] at hl1 hl2 hm
 have hsl: (str L).size=l:=by rw[aD,hl]
 have hpad:ref.dB L k=L:=by unfold ref.dB;rw[hl,show k+1 - l=0 by omega];rfl
 rw[hpad]
 have hmi:¬(0:Int)<(k:Int)+1 - (l:Int):=by omega
 clear hpad
 have hNk:k<l:=by omega
 have hNb:l≤900000:=by omega
 have hDl:L.length=l:=by exact hl
 have hx1: (str L).extract 0 (l - k)=str (L.take (l - k)):=by apply ByteArray.ext;simp[str]
 have hx2: (str L).extract (l - k) l=str (L.drop (l - k)):=by
  apply ByteArray.ext
  simp[str,List.take_of_length_le,hDl]
 have hy1: (str (L.take (l - k))).size=l - k:=by rw[aD,List.length_take];omega
 have hy2: (str (L.drop (l - k))).size=k:=by rw[aD,List.length_drop];omega
 rw[hDl]
 have hS:str (L.take (l - k))++({data:=#[46]} :ByteArray)++str (L.drop (l - k))=str (L.take (l - k)++46::L.drop (l - k)):=by
  rw[show({data:=#[46]} :ByteArray)=str [46] from rfl,aJ,aJ,List.append_assoc]
  rfl
 have hsD: (str L).size=l:=by rw[aD,hDl]
 generalize L.take (l - k)++46::L.drop (l - k)=T at *
 generalize str (L.take (l - k))=a1 at *
 generalize str (L.drop (l - k))=a2 at *
 obtain⟨M,hM⟩:∃M,M=l - k:=⟨_,rfl⟩
 rw[←hM] at hx1 hx2 hy1
 have hMi: (l:Int) - (k:Int)=(M:Int):=by omega
 have hM1: (M:Int)≤(l:Int):=by omega
 have hk0b: (0:Int)<(k:Int):=by omega
 have h46: ({data:=#[46]} :ByteArray).size=1:=rfl
 have hs1:¬9223372036854775807<a1.size+({data:=#[46]} :ByteArray).size:=by omega
 have hs2:¬9223372036854775807<(a1++({data:=#[46]} :ByteArray)).size+a2.size:=by rw[ByteArray.size_append];omega
 have hs3:¬9223372036854775807<a1.size+1:=by omega
 have hs4:¬9223372036854775807<a1.size+1+a2.size:=by omega
 have HS:=Lib.hid hS
 generalize hsDD:str L=sD at *
 have HM:=Lib.hid hM
 clear hS hM hDl hm hsDD hk hl
 have HR:Hid (({data:=#[45]} :ByteArray)++str T=str (45::T)):=Lib.hid (by rw[show({data:=#[45]} :ByteArray)=str [45] from rfl,aJ];rfl)
 generalize str (45::T)=sR at *
 generalize str T=sT at *
 have h45: ({data:=#[45]} :ByteArray).size=1:=rfl
 have hs5:¬9223372036854775807<({data:=#[45]} :ByteArray).size+(a1++({data:=#[46]} :ByteArray)++a2).size:=by rw[ByteArray.size_append,ByteArray.size_append];omega
 go_enter Tryz.func187,Tryz.ntmps187
 go_wp2_with (first
  |(go_at_call 135;(with_reducible refine(HT.out).mono ?_);rintro e W1 ⟨rfl,hb⟩
    have HA1:=Lib.hid (HA.out.below hb)
    have HB1:=Lib.hid hb
    clear hb)
  |(go_at_call 164;(with_reducible refine(HZ.out _ (HA1.out.below (nat.aK _ _))).mono ?_);rintro e W3 ⟨rfl,rfl⟩)
  |(fail "no arm"))
 go_quiet (fail)
 go_wp2_with (first
  |(go_at_call 135;(with_reducible refine(HT.out).mono ?_);rintro e W1 ⟨rfl,hb⟩
    have HA1:=Lib.hid (HA.out.below hb)
    have HB1:=Lib.hid hb
    clear hb)
  |(go_at_call 164;(with_reducible refine(HZ.out _ (HA1.out.below (nat.aK _ _))).mono ?_);rintro e W3 ⟨rfl,rfl⟩)
  |(fail "no arm"))
 go_ret
 exact⟨by rw[←HR.out,←HS.out];rfl,nat.aU HB1.out _⟩
theorem oV (below:Bool)(a:Value)(x k:Nat)(w:World)(ha:nat.IsN w a x)(hx:Ln x 40000)(hk:k≤20):
  Calls Tryz.prog 187 #[.bool below,a,.int .i64 (k:Nat)] w fun e w'=>e= .returned (.string (str (bQ (signed below x) k)))∧Below w.heap.size w w':=by
 have h1:=iU x
 cases below
 ·by_cases hm: (Lib.decDigits x).length≤k
  ·exact yN a x k w ha hx hk hm (by omega)
  ·by_cases hk0:k=0
   ·exact uG a x k w ha hx hk (by omega) hk0
   ·exact vI a x k w ha hx hk (by omega) (by omega)
 ·by_cases h0:x=0
  ·by_cases hm: (Lib.decDigits x).length≤k
   ·exact vJ a x k w ha hx hk hm (by omega) h0
   ·by_cases hk0:k=0
    ·exact sN a x k w ha hx hk (by omega) hk0 h0
    ·exact uH a x k w ha hx hk (by omega) (by omega) h0
  ·by_cases hm: (Lib.decDigits x).length≤k
   ·exact yM a x k w ha hx hk hm (by omega) h0
   ·by_cases hk0:k=0
    ·exact uF a x k w ha hx hk (by omega) hk0 h0
    ·exact vH a x k w ha hx hk (by omega) (by omega) h0
end Go.Proofs.YtlhmfgbaefaneaaGreatDoor.dec
