/-
  The steps of the walks, part 7: RefDv, RefPow, RefText, RefInt, RefI, RefOf, RefCmpI, RefQ.
-/
import Derived.Laws.IdiomStrings
import Derived.StillTailTactics
import Derived.Deep.RegionHeld3
import Derived.Test.YtlhmfgbaefaneaaGreatDoorM06
import Derived.Test.YtlhmfgbaefaneaaGreatDoorM04
set_option maxHeartbeats 8000000
set_option maxRecDepth 100000
namespace Go.Proofs.YtlhmfgbaefaneaaGreatDoor.ref
open Go.RowKit
theorem qE {w:World}{ops:Array Oper}{rest:List Oper}{o:Oper}{a:Act}{Q:Exit→Act→World→Prop}(hgd:o.guard=none)(s x:Operand)
  (ho:o.op= .call {callee:= .builtin .append,args:=#[s,x],argTypes:=#[79,79]})
  (base:Nat) (v sv:Value) (l1 l2:List Nat) (hs:a.eval s=v) (hown:w.ownsRow base 104 1 v l1.length (l1.map fun d=>Value.int .u64 (d:Nat))) (hx:a.eval x=sv) (hr:Reads w sv l2)
  (hlen:l1.length+l2.length≤200000) (hbase:base≤w.heap.size)
  (h:∀v' w',w'.ownsRow base 104 1 v' (l1.length+l2.length) ((l1++l2).map fun d=>Value.int .u64 (d:Nat))→w.grownBy w' v.ownBlock→wpList Tryz.prog ops Q rest (a.put o.dst v') w'):
  wpList Tryz.prog ops Q (o::rest) a w:=by
 obtain⟨i0,hi0,hz0,hz1,hz2⟩:=info_parts jP
 obtain⟨ao,cap,rfl,⟨h1,h4⟩,h2,h3⟩:=hr
 rcases ao with _|ad
 ·obtain rfl:=h4 rfl
  have hl:l2=[]:=List.eq_nil_of_length_eq_zero (by omega)
  subst hl
  refine wpList_append_own_none hgd s x 79 ho base 104 i0 1 Tryz.underlying79 hi0 v l1.length _ hs hown hx ?_
  have:=h v w (by simpa using hown) ⟨rfl,rfl,rfl,Nat.le_refl _,fun _ _ _=>rfl⟩
  exact this
 ·refine wpList_append_own w hgd s x 79 ho base 104 i0 (.int .u64 0) 1 8 Tryz.underlying79 hi0 hz0 hz1 hz2 rfl (by decide) v l1.length _ hs hown ad l2.length cap (l2.map fun d=>Value.int .u64 (d:Nat)) hx (by simp) ?_ ?_ (by unfold maxLen;omega) (by omega) hbase ?_
  ·intro j u hj
   have hjn:j<l2.length:=by
    rw[List.getElem?_map] at hj
    exact(List.getElem?_eq_some_iff.1 (Option.map_eq_some_iff.1 hj).choose_spec.1).choose
   rcases h3 with rfl|⟨g,hg,hc⟩
   ·simp at hjn
   ·obtain rfl:ad=⟨g,0,none⟩:=by simpa using hg
    rw[oF hjn] at hj
    have:=hc j hjn
    simp only[Option.some.injEq] at hj
    subst hj
    have h2: (⟨g,0,none⟩:Addr).add j=⟨g,j,none⟩:=by unfold Addr.add;split<;>simp_all
    rw[h2]
    exact this
  ·intro u hu
   obtain⟨d,_,rfl⟩:=List.mem_map.1 hu
   rfl
  ·intro v' w' ho hg _
   exact h v' w' (by rw[List.map_append];exact ho) hg
theorem Own.below {w w':World}{base g cap:Nat}{o:List Nat}(h:Own w base g cap o)(hb:Below w.heap.size w w'):Own w' base g cap o:=
 World.ownsRow.kept (row:=none) h ⟨hb.os,hb.tape,hb.output,hb.size,fun k hk _=>hb.block k hk⟩ (by simp[Value.ownBlock])
theorem Reads.setCell {w:World}{ao:Option Addr}{n cap:Nat}{l:List Nat}(h:Reads w (.slice ao n cap) l){p:Addr}(hp:∀a,ao=some a→a.block≠p.block)(u:Value):Reads (w.setCell p u) (.slice ao n cap) l:=by
 obtain⟨ao',cap',he,h1,h2,h3⟩:=h
 simp only[Value.slice.injEq] at he
 obtain⟨rfl,rfl,rfl⟩:=he
 refine⟨ao,cap,rfl,h1,h2,h3.imp id fun ⟨g,hg,hc⟩=>⟨g,hg,fun k hk=> ?_⟩⟩
 rw[World.cell?_of_block (w:=w) (a:=⟨g,k,none⟩) (Below.heap_setCell _ _ _ _ (hp ⟨g,0,none⟩ hg))]
 exact hc k hk
theorem Us {d A y:Nat}(hy:0<y): (d+1000000000*A)/y=1000000000*(A/y)+(d+1000000000*(A%y))/y∧(d+1000000000*A)%y=(d+1000000000*(A%y))%y:=by
 have h:d+1000000000*A=(d+1000000000*(A%y))+y*(1000000000*(A/y)):=by
  have h1:=Nat.div_add_mod A y
  have h2:1000000000*A=1000000000*(A%y)+y*(1000000000*(A/y)):=by
   rw[Nat.mul_left_comm,←Nat.mul_add]
   congr 1
   omega
  omega
 rw[h,Nat.add_mul_div_left _ _ hy,Nat.add_mul_mod_self_left]
 exact⟨by omega,rfl⟩
def BV (w:World)(x y n g:Nat)(rv iv:Value)(wr:World):Prop:=
 ∃(k:Nat)(qd:List Nat),k≤n∧iv= .int .i64 ((k:Int) - 1)∧IsN wr rv (val ((digs x).drop k)%y)∧qd.length=n∧Own wr w.heap.size g n qd∧Below w.heap.size w wr∧Dig qd∧
  val qd=1000000000 ^ k*(val ((digs x).drop k)/y)∧∀j,j<k→dg qd j=0
theorem qV (a b:Value)(x y:Nat)(w:World)(ha:IsN w a x)(hb:IsN w b y)(hx: (digs x).length≤90000)(hy: (digs y).length≤90000)(hy0:0<y):
  Calls Tryz.prog 137 #[a,b] w fun e w'=>∃qv rv,e= .returned (.tuple #[qv,rv])∧IsN w' qv (x/y)∧IsN w' rv (x%y)∧Below w.heap.size w w':=by
 obtain⟨i0,hi0,hz0,hz1,hz2⟩:=info_parts jP
 have HA:=Lib.hid ha
 have HB:=Lib.hid hb
 obtain⟨ao,acap,rfl,⟨a1,-⟩,a2,a3⟩:=ha
 unfold maxLen at a2
 generalize hN: (digs x).length=na at *
 generalize hM: (digs y).length=nb at *
 have HN:=Lib.hid hN
 have HM:=Lib.hid hM
 have HA3:=Lib.hid a3
 obtain⟨W1,hmk,HO1,HB1⟩:∃W1,(Instr.makeSlice 79 (.int .i64 (na:Int)) (.int .i64 (na:Int))).run Tryz.prog w= .ok (.slice (some ⟨w.heap.size,0,none⟩) na na) W1∧
   Hid (Own W1 w.heap.size w.heap.size na (List.replicate na 0))∧Hid (Below w.heap.size w W1):=by
  refine⟨_,?_,Gq w na (by unfold maxLen;omega),(Below.refl _ _).alloc (Nat.le_refl _) _⟩
  have h:=run_make (P:=Tryz.prog) w 79 104 i0 (.int .u64 0) Tryz.underlying79 hi0 hz0 .i64 .i64 (na:Int) (na:Int) (by omega) (by omega) (by rw[hz2];omega) (by omega)
  rw[show((na:Int)).toNat=na by omega,hz1] at h
  exact h
 clear hN hM hb a3 hi0 hz0 hz1 hz2
 go_enter Tryz.func137,Tryz.ntmps137
 go_wp2
 go_loopw [6,8] (fun rv iv wr=>BV w x y na w.heap.size rv iv wr) (fun _ iv _=>(intOf iv+1).toNat)
 case atStart=>
  refine⟨na,List.replicate na 0,Nat.le_refl _,by go_num,?_,by simp,HO1.out,HB1.out,fQ _,?_,fun j _=>jR _ _⟩
  ·rw[List.drop_eq_nil_of_le (by rw[HN.out];exact Nat.le_refl _)]
   show Reads _ _ (digs (0%y))
   rw[Nat.zero_mod,aX]
   exact⟨none,0,rfl,⟨Nat.le_refl _,fun _=>rfl⟩,Nat.zero_le _,Or.inl rfl⟩
  ·rw[List.drop_eq_nil_of_le (by rw[HN.out];exact Nat.le_refl _),fU]
   simp[val]
 case round=>
  obtain⟨k,qd,hk,rfl,hr,hl,hO,hBe,hD,hv,hz⟩:=hrel
  have HR:=Lib.hid hr
  have HO:=Lib.hid hO
  have HBe:=Lib.hid hBe
  have HD:=Lib.hid hD
  have HV:=Lib.hid hv
  have HZ:=Lib.hid hz
  have HL:=Lib.hid hl
  clear hr hO hBe hD hv hz hmk hl
  by_cases h0:k=0
  ·subst h0
   have HT:=Lib.hid (oW _ qd wr HO.out.reads HD.out)
   rw[HL.out] at HT
   go_wp2_with (go_at_call 174;refine(HT.out).mono ?_;rintro e' w' ⟨sv',l',rfl,hr,hn,hval,rfl⟩;have HRd:=Lib.hid hr;have HNr:=Lib.hid hn;have HVl:=Lib.hid hval;clear hr hn hval HT)
   go_ret2
   refine⟨_,_,rfl,?_,?_,HBe.out⟩
   ·have h1:=HVl.out
    rw[HV.out,List.drop_zero,aA,Nat.pow_zero,Nat.one_mul] at h1
    rw[←h1]
    exact IsN.of HRd.out HNr.out
   ·have h1:=HR.out
    rw[List.drop_zero,aA] at h1
    exact h1
  ·obtain⟨i,rfl⟩:∃i,k=i+1:=⟨k - 1,by omega⟩
   obtain⟨ga,rfl,ca⟩:=HA3.out.resolve_left (fun h=>by have:=HN.out;rw[h] at this;simp at this;omega)
   have c1:=(HBe.out.cell (p:=⟨ga,i,none⟩) (aO (ca i (by omega)))).trans (ca i (by omega))
   have d1:=bS (aB x).1 i
   clear ca
   generalize hA:val ((digs x).drop (i+1))=A at *
   have HAv:=Lib.hid hA
   generalize hdd:dg (digs x) i=d at c1 d1
   have HDD:=Lib.hid hdd
   clear hA hdd
   have ei: ((i+1:Nat):Int) - 1=(i:Int):=by omega
   rw[ei]
   have hlen:∀{A:Nat},(digs (A%y)).length≤nb:=fun {A} =>by
    have:=Aj (Nat.le_of_lt (Nat.mod_lt A hy0))
    rw[HM.out] at this
    exact this
   have HLe:=Lib.hid (hlen (A:=A))
   clear hlen
   have HW2:=Lib.hid (show(wr.alloc (.cells #[Value.int .u64 (d:Nat)] 104)).ownsRow wr.heap.size 104 1 (.slice (some ⟨wr.heap.size,0,none⟩) 1 1) [d].length ([d].map fun d=>Value.int .u64 (d:Nat)) from World.ownsRow_lit wr #[Value.int .u64 (d:Nat)] 1 (Nat.le_refl _) (by unfold maxLen;omega) rfl)
   have HR2:=Lib.hid (HR.out.below (w':=wr.alloc (.cells #[Value.int .u64 (d:Nat)] 104)) ((Below.refl _ _).alloc (Nat.le_refl _) _))
   go_wp2_with (at_builtin;refine qE rfl _ _ rfl wr.heap.size _ _ [d] (digs (A%y)) rfl HW2.out rfl HR2.out ?c1 ?c2 ?_)
   case c1=>have:=HLe.out;simp;omega
   case c2=>simp
   intro v' w3 hown hg3
   obtain⟨g',cap',rfl,hO'⟩:=Own.gK (n:=1+(digs (A%y)).length) (l:=d::digs (A%y)) (by simpa[Nat.add_comm] using hown) (by simp[Nat.add_comm]) (by omega)
   have hB3:Below wr.heap.size wr w3:=((Below.refl _ _).alloc (Nat.le_refl _) _).grown hg3 (by simp) (fun k hk=>by simp[Value.ownBlock] at hk;omega)
   have hD3:Dig (d::digs (A%y)):=(aB _).1.cons d1
   have HT:=Lib.hid (sO (some ⟨g',0,none⟩) cap' (d::digs (A%y)) w3 hO'.reads hD3)
   have HB3:=Lib.hid hB3
   have HG:=Lib.hid (show w.heap.size<g' from Nat.lt_of_lt_of_le HO.out.low.2 hO'.low.1)
   clear hown hg3 hO' hB3 hD3 HW2 HR2
   rw[show(d::digs (A%y)).length=1+(digs (A%y)).length from by simp[Nat.add_comm]] at HT
   go_wp2_with (go_at_call 174;refine(HT.out).mono ?_;rintro e' w' ⟨l',rfl,hr,hn,hval,rfl⟩;have HRd:=Lib.hid hr;have HNr:=Lib.hid hn;have HVl:=Lib.hid hval;clear hr hn hval HT)
   obtain⟨R,hRR⟩:∃R,val l'=R:=⟨_,rfl⟩
   have HRR:=Lib.hid (show R=d+1000000000*(A%y) from by rw[←hRR,HVl.out];show d+1000000000*val (digs (A%y))=_;rw[aA])
   have HRn:=Lib.hid (show IsN w3 (.slice (some ⟨g',0,none⟩) l'.length cap') R from by rw[←hRR];exact IsN.of HRd.out HNr.out)
   clear hRR
   have hlt:R<1000000000*y:=by have:=Nat.mod_lt A hy0;have:=HRR.out;omega
   have HRL:=Lib.hid (show(digs R).length≤100000 from by
    have h1:R<1000000000 ^ (nb+1):=by
     have h2:=dR (aB y).1
     rw[aA,HM.out] at h2
     rw[Nat.pow_succ]
     omega
    have:=eD h1
    omega)
   have hb0:digs y≠[]:=fun h=>by
    have:=congrArg val h
    rw[aA] at this
    simp[val] at this
    omega
   have HAB:=Lib.hid (HBe.out.trans (HB3.out.mono HBe.out.size))
   have hQ:R/y<1000000000:=(Nat.div_lt_iff_lt_mul hy0).2 hlt
   have HMo:=Lib.hid (Vu _ b _ y _ HRn.out (HB.out.below HAB.out) (by rw[HM.out];omega) hb0 hQ)
   generalize hqn:R/y=qn at *
   have HQn:=Lib.hid hqn
   have HYq:=Lib.hid (show y*qn≤R from by rw[←hqn];exact Nat.mul_div_le R y)
   clear hlt hb0 hqn
   go_wp2_with (go_at_call 175;refine(HMo.out).mono ?_;rintro e' w4 ⟨rfl,hb4⟩;have HB4:=Lib.hid (HB3.out.trans (hb4.mono HB3.out.size));have HRn4:=Lib.hid (HRn.out.below hb4);have HO4:=Lib.hid (HO.out.below HB4.out);have cq:=HO4.out.cell i (by rw[HL.out];omega);have fq:=HO4.out.frozen i;clear hb4 HMo)
   have HOf:=Lib.hid (fun w=>Mc qn (by omega) w)
   generalize hw5:w4.setCell ⟨w.heap.size,i,none⟩ (.int .u64 (qn:Nat))=w5 at *
   have HO5:=Lib.hid (show Own w5 w.heap.size w.heap.size na (qd.set i qn) from by rw[←hw5];exact HO4.out.store i qn _ rfl)
   have HB5:=Lib.hid (show Below w.heap.size w w5 from by rw[←hw5];exact(HBe.out.trans (HB4.out.mono HBe.out.size)).setCell (Nat.le_refl _) _)
   have HR5:=Lib.hid (show IsN w5 (.slice (some ⟨g',0,none⟩) l'.length cap') R from by rw[←hw5];exact Reads.setCell HRn4.out (fun a ha=>by obtain rfl:=(Option.some.inj ha).symm;have:=HG.out;show g'≠w.heap.size;omega) _)
   clear hw5 cq fq
   go_wp2_with (go_at_call 108;refine(HOf.out _).mono ?_;rintro e' w6 ⟨sv,rfl,hs,hb6⟩;have HS:=Lib.hid hs;have HB6:=Lib.hid hb6;clear hs hb6 HOf)
   have HMu:=Lib.hid (iG b sv y qn w6 (HB.out.below (HB5.out.trans (HB6.out.mono HB5.out.size))) HS.out (by rw[HM.out];omega) (by have:=eU (x:=qn) (by omega);omega))
   go_wp2_with (go_at_call 177;refine(HMu.out).mono ?_;rintro e' w7 ⟨pv,rfl,hp,hb7⟩;have HP:=Lib.hid hp;have HB7:=Lib.hid (HB6.out.trans (hb7.mono HB6.out.size));clear hp hb7 HMu)
   have HSu:=Lib.hid (Mg _ pv R (y*qn) w7 (HR5.out.below HB7.out) HP.out HYq.out HRL.out)
   go_wp2_with (go_at_call 176;refine(HSu.out).mono ?_;rintro e' w8 ⟨rv,rfl,hr8,hb8⟩;have HR8:=Lib.hid hr8;have HB8:=Lib.hid (HB7.out.trans (hb8.mono HB7.out.size));clear hr8 hb8 HSu)
   go_roundw
   case rel=>
    have hA':val ((digs x).drop i)=d+1000000000*A:=by
     rw[gX _ _ (by rw[HN.out];omega),HDD.out]
     show d+1000000000*val ((digs x).drop (i+1))=_
     rw[HAv.out]
    obtain⟨s1,s2⟩:=Us (d:=d) (A:=A) hy0
    rw[←HRR.out] at s1 s2
    rw[HQn.out] at s1
    refine⟨i,qd.set i qn,by omega,by go_num,?_,by rw[List.length_set];exact HL.out,HO5.out.below HB8.out,HB5.out.trans (HB8.out.mono HB5.out.size),HD.out.set hQ,?_,fun j hj=> ?_⟩
    ·rw[hA',s2]
     have h1:R - y*qn=R%y:=by have:=Nat.div_add_mod R y;rw[HQn.out] at this;omega
     rw[←h1]
     exact HR8.out
    ·rw[hA',s1]
     have h1:=gB (l:=qd) (j:=i) (d:=qn) (by rw[HL.out];omega)
     rw[HZ.out i (by omega),Nat.mul_zero,Nat.add_zero,HV.out] at h1
     rw[h1,Nat.pow_succ,Nat.mul_add,Nat.mul_assoc]
    ·rw[cO (by omega)]
     exact HZ.out j (by omega)
   case measure=>simp[intOf]<;>omega
end Go.Proofs.YtlhmfgbaefaneaaGreatDoor.ref
namespace Go.Proofs.YtlhmfgbaefaneaaGreatDoor.ref
open Go.RowKit
open Classical in
noncomputable def numOf (w:World)(sv:Value):Nat:=if h:∃x,IsN w sv x then h.choose else 0
theorem gJ {w:World}{sv:Value}{x:Nat}(h:IsN w sv x):numOf w sv=x:=by
 have hx:∃x,IsN w sv x:=⟨x,h⟩
 unfold numOf
 rw[dif_pos hx]
 exact IsN.inj hx.choose_spec h
theorem Fh {x:Nat} :digs x=[]↔x=0:=by
 constructor
 ·intro h
  have:=congrArg val h
  rwa [aA] at this
 ·rintro rfl
  exact aX
def CB (w:World)(x y:Nat)(av bv:Value)(wr:World):Prop:=
 ∃p q,IsN wr av p∧IsN wr bv q∧Nat.gcd p q=Nat.gcd x y∧(digs p).length≤90000∧(digs q).length≤90000∧Below w.heap.size w wr
theorem Bl (a b:Value)(x y:Nat)(w:World)(ha:IsN w a x)(hb:IsN w b y)(hx: (digs x).length≤90000)(hy: (digs y).length≤90000):
  Calls Tryz.prog 136 #[a,b] w fun e w'=>∃sv,e= .returned sv∧IsN w' sv (Nat.gcd x y)∧Below w.heap.size w w':=by
 have HA:=Lib.hid ha
 have HB:=Lib.hid hb
 have HX:=Lib.hid hx
 have HY:=Lib.hid hy
 clear ha hb hx hy
 go_enter Tryz.func136,Tryz.ntmps136
 go_wp2
 go_loopw [0,1] (fun av bv wr=>CB w x y av bv wr) (fun _ bv wr=>numOf wr bv)
 case atStart=>exact⟨x,y,HA.out,HB.out,rfl,HX.out,HY.out,Below.refl _ _⟩
 case round=>
  obtain⟨p,q,hp,hq,hg,hlp,hlq,hbe⟩:=hrel
  have HP:=Lib.hid hp
  have HQ:=Lib.hid hq
  have HG:=Lib.hid hg
  have HLp:=Lib.hid hlp
  have HLq:=Lib.hid hlq
  have HBe:=Lib.hid hbe
  obtain⟨bo,bcap,rfl,⟨b1,-⟩,b2,-⟩:=hq
  unfold maxLen at b2
  clear hp hg hlp hlq hbe
  by_cases h0:q=0
  ·subst h0
   rw[show(digs 0).length=0 from by rw[aX];rfl] at *
   go_wp2
   go_ret
   refine⟨_,rfl,?_,HBe.out⟩
   rw[←HG.out,Nat.gcd_zero_right]
   exact HP.out
  ·have hqp:0<q:=by omega
   have hl0:0<(digs q).length:=List.length_pos_iff.2 (fun h=>h0 (Fh.1 h))
   have HDv:=Lib.hid (qV _ _ p q _ HP.out HQ.out HLp.out HLq.out hqp)
   have hm: (digs (p%q)).length≤90000:=Nat.le_trans (Aj (Nat.le_of_lt (Nat.mod_lt p hqp))) HLq.out
   have HMd:=Lib.hid hm
   have HLt:=Lib.hid (Nat.mod_lt p hqp)
   have HN:=Lib.hid (gJ HQ.out)
   clear hm
   generalize hnq: (digs q).length=nq at *
   have HNq:=Lib.hid hnq
   clear hnq
   go_wp2_with (go_at_call 137;refine(HDv.out).mono ?_;rintro e' w1 ⟨qv,rv,rfl,-,hr,hb1⟩;have HR:=Lib.hid hr;have HB1:=Lib.hid hb1;clear hr hb1 HDv)
   go_roundw
   case rel=>exact⟨q,p%q,HQ.out.below HB1.out,HR.out,by rw[←HG.out,Nat.gcd_comm p q,Nat.gcd_rec q p,Nat.gcd_comm],by rw[HNq.out];exact HLq.out,HMd.out,HBe.out.trans (HB1.out.mono HBe.out.size)⟩
   case measure=>
    show numOf w1 rv<numOf _ _
    rw[gJ HR.out,HN.out]
    exact HLt.out
end Go.Proofs.YtlhmfgbaefaneaaGreatDoor.ref
namespace Go.Proofs.YtlhmfgbaefaneaaGreatDoor.ref
open Go.RowKit
theorem Un (w:World)(z:Int)(n:Nat)(hz:z=(n:Nat))(hn:n<256):
  (convert 130 9 (.slice (some ⟨w.heap.size,0,none⟩) 1 1)).run Tryz.prog (w.alloc (.cells #[.int .u8 z] 5))= .ok (.string (str [UInt8.ofNat n])) (w.alloc (.cells #[.int .u8 z] 5)):=by
 have h:=run_convert_bytes_back (P:=Tryz.prog) (w.alloc (.cells #[.int .u8 z] 5)) 130 9 5 ⟨w.heap.size,0,none⟩ 1 [UInt8.ofNat n] Tryz.underlying130 Tryz.underlying5 Tryz.underlying9 (fun j hj=>by
  obtain rfl:j=0:=by simpa using hj
  have h2: (⟨w.heap.size,0,none⟩:Addr).add 0=⟨w.heap.size,0,none⟩:=rfl
  rw[h2,cell_of_row _ w.heap.size 0 #[.int .u8 z] 5 (0,0) (heap_alloc_new w _)]
  subst hz
  simp[Nat.mod_eq_of_lt hn])
 exact h
def TRel (w:World)(x n:Nat)(sv iv:Value)(wr:World):Prop:=
 ∃i:Nat,i≤n∧iv= .int .i64 i∧sv= .string (str (pad (9*i) (val ((digs x).take i))))∧Below w.heap.size w wr
def TIn (w:World)(d:Nat)(l:List UInt8)(sv dv kv:Value)(wr:World):Prop:=
 ∃k:Nat,k≤9∧kv= .int .i64 k∧dv= .int .u64 (d/10 ^ k:Nat)∧sv= .string (str (pad k d++l))∧Below w.heap.size w wr
def T3 (w:World)(x n:Nat)(sv:Value)(wr:World):Prop:=
 ∃m:Nat,m≤9*n∧x<10 ^ m∧sv= .string (str (pad m x))∧Below w.heap.size w wr
def sizeOf':Value→Nat
 | .string s=>s.size
 |_=>0
theorem bP (a:Value)(x:Nat)(w:World)(ha:IsN w a x)(hx: (digs x).length≤100000):
  Calls Tryz.prog 110 #[a] w fun e w'=>e= .returned (.string (str (Lib.decDigits x)))∧Below w.heap.size w w':=by
 have HA:=Lib.hid ha
 obtain⟨ao,acap,rfl,⟨a1,-⟩,a2,a3⟩:=ha
 unfold maxLen at a2
 have HA3:=Lib.hid a3
 generalize hna: (digs x).length=na at *
 have HNa:=Lib.hid hna
 clear hna a3
 go_enter Tryz.func110,Tryz.ntmps110
 go_wp2
 go_loopw [3,4] (fun sv iv wr=>TRel w x na sv iv wr) (fun _ iv _=>na - (intOf iv).toNat)
 case atStart=>exact⟨0,Nat.zero_le _,rfl,rfl,Below.refl _ _⟩
 case round=>
  obtain⟨i,hi,rfl,rfl,hbe⟩:=hrel
  have HBe:=Lib.hid hbe
  clear hbe
  by_cases hlt:i<na
  ·obtain⟨ga,rfl,ca⟩:=HA3.out.resolve_left (fun h=>by have:=HNa.out;rw[h] at this;simp at this;omega)
   have c1:=(HBe.out.cell (p:=⟨ga,i,none⟩) (aO (ca i hlt))).trans (ca i hlt)
   have d1:=bS (aB x).1 i
   clear ca
   generalize hdd:dg (digs x) i=d at c1 d1
   have HDD:=Lib.hid hdd
   clear hdd
   generalize hll:pad (9*i) (val ((digs x).take i))=l at *
   have HLl:=Lib.hid hll
   clear hll
   go_wp2
   go_loopw [3,5,6] (fun sv dv kv wi=>TIn w d l sv dv kv wi) (fun _ _ kv _=>9 - (intOf kv).toNat)
   case atStart=>exact⟨0,Nat.zero_le _,rfl,by simp,rfl,HBe.out⟩
   case round=>
    obtain⟨k,hk,rfl,rfl,rfl,hb2⟩:=hrel
    have HB2:=Lib.hid hb2
    clear hb2
    by_cases h9:k<9
    ·have heb:d/10 ^ k<1000000000:=Nat.lt_of_le_of_lt (Nat.div_le_self _ _) d1
     have hd2:d/10 ^ (k+1)=d/10 ^ k/10:=by rw[Nat.pow_succ,Nat.div_div_eq_div_mul]
     have hs2:str [UInt8.ofNat (48+d/10 ^ k%10)]++str (pad k d++l)=str (pad (k+1) d++l):=by rw[aJ,cZ];rfl
     have hz0: (str (pad k d++l)).size=k+9*i:=by rw[aD,List.length_append,aY,←HLl.out,aY]
     generalize he:d/10 ^ k=e at *
     have HC:=Lib.hid (Un wr (48+(e:Int)%10) (48+e%10) (by omega) (by omega))
     have hz1: (str [UInt8.ofNat (48+e%10)]).size=1:=rfl
     generalize str [UInt8.ofNat (48+e%10)]=s1 at *
     generalize str (pad k d++l)=s0 at *
     have hz:¬9223372036854775807<s1.size+s0.size:=by omega
     have HS2:=Lib.hid hs2
     have HD2:=Lib.hid hd2
     have hc:=HC.out
     clear he hd2 hs2 HC hz0 hz1
     go_wp2
     go_roundw
     case rel=>exact⟨k+1,by omega,by go_num,by rw[HD2.out];go_num,by rw[HS2.out],HB2.out.alloc HB2.out.size _⟩
     case measure=>simp[intOf];omega
    ·obtain rfl:k=9:=by omega
     go_wp2
     go_roundw
     case rel=>
      refine⟨i+1,by omega,by go_num,?_,HB2.out⟩
      rw[aQ,HDD.out,sF,show 9*(i+1)=9+9*i by omega,gM (9*i) 9 _ _ (by
       have h1:=dR ((aB x).1.take i)
       rw[List.length_take,HNa.out,Nat.min_eq_left (by omega),sF] at h1
       exact h1),HLl.out]
     case measure=>simp[intOf];omega
  ·obtain rfl:i=na:=by omega
   go_wp2
   go_loopw [3] (fun sv wi=>T3 w x i sv wi) (fun sv wi=>sizeOf' sv)
   case atStart=>
    refine⟨9*i,by omega,?_,?_,HBe.out⟩
    ·have h1:=dR (aB x).1
     rw[aA,HNa.out,sF] at h1
     exact h1
    ·rw[List.take_of_length_le (by rw[HNa.out];exact Nat.le_refl _),aA]
   case round=>
    obtain⟨m,hm,hxm,rfl,hb3⟩:=hrel
    have HB3:=Lib.hid hb3
    clear hb3
    rcases m with _|m
    ·obtain rfl:x=0:=by simpa using hxm
     have hs:str (pad 0 0)=⟨#[]⟩:=rfl
     rw[hs]
     go_wp2
     go_ret
     exact⟨by rw[Lib.decDigits_one (by omega)];rfl,HB3.out⟩
    ·have hz: (str (pad (m+1) x)).size=m+1:=by rw[aD,aY]
     have hem: (str (pad (m+1) x)).toList.isEmpty=false:=by
      rw[ByteArray.toList_eq,cZ]
      rfl
     by_cases hm0:m=0
     ·subst hm0
      have he:=Lib.hid (congrArg str (fC 0 x hxm (Or.inl rfl)))
      generalize str (pad (0+1) x)=s at *
      go_wp2
      go_ret
      exact⟨by rw[he.out];rfl,HB3.out⟩
     ·obtain⟨m',rfl⟩:∃m',m=m'+1:=⟨m - 1,by omega⟩
      have ht:=mO (UInt8.ofNat (48+x/10 ^ (m'+1)%10)) (pad (m'+1) x)
      have hg:∀h:0<(str (pad (m'+1+1) x)).size,((str (pad (m'+1+1) x))[0]'h).toNat=(UInt8.ofNat (48+x/10 ^ (m'+1)%10)).toNat:=by
       rw[cZ (m'+1)]
       intro h
       rfl
      rw[←cZ] at ht
      by_cases hh:x<10 ^ (m'+1)
      ·rw[Nat.div_eq_of_lt hh] at hg
       have HT:=Lib.hid ht
       have HH:=Lib.hid hh
       generalize hss:str (pad (m'+1+1) x)=s at *
       have HSs:=Lib.hid hss
       have hg':∀h:0<s.size,(s[0]'h).toNat=48:=hg
       clear ht hh hg hxm hss hm0
       go_wp2
       go_roundw
       case rel=>exact⟨m'+1,by omega,HH.out,by rw[←hz,HT.out],HB3.out⟩
       case measure=>simp[sizeOf'];omega
      ·have he:=Lib.hid (congrArg str (fC (m'+1) x hxm (Or.inr (by omega))))
       have hne:=jV hxm (by omega)
       generalize (UInt8.ofNat (48+x/10 ^ (m'+1)%10)).toNat=c at *
       have hcb: ((c:Int)==48)=false:=by simp;omega
       generalize str (pad (m'+1+1) x)=s at *
       clear ht hh hxm hm0
       go_wp2
       go_ret
       exact⟨by rw[he.out];rfl,HB3.out⟩
end Go.Proofs.YtlhmfgbaefaneaaGreatDoor.ref
namespace Go.Proofs.YtlhmfgbaefaneaaGreatDoor.ref
open Go.RowKit
def IsI (w:World)(v:Value)(z:Int):Prop:=∃sv,v= .agg #[.bool (decide (z<0)),sv]∧IsN w sv z.natAbs
theorem IsI.below {w w':World}{v:Value}{z:Int}(h:IsI w v z)(hb:Below w.heap.size w w'):IsI w' v z:=by
 obtain⟨sv,rfl,hs⟩:=h
 exact⟨sv,rfl,hs.below hb⟩
theorem IsI.inj {w:World}{v:Value}{z z':Int}(h:IsI w v z)(h':IsI w v z'):z=z':=by
 obtain⟨sv,rfl,hs⟩:=h
 obtain⟨sv',he,hs'⟩:=h'
 have e:=Value.agg.inj he
 simp only[Array.mk.injEq,List.cons.injEq,Value.bool.injEq,and_true] at e
 obtain⟨e1,rfl⟩:=e
 have:=IsN.inj hs hs'
 simp only[decide_eq_decide] at e1
 omega
def signed (b:Bool)(x:Nat):Int:=if b then -(x:Int) else x
theorem IsI.signed {w:World}{sv:Value}{x:Nat}(b:Bool)(h:IsN w sv x):IsI w (.agg #[.bool (b&&decide (x≠0)),sv]) (signed b x):=by
 unfold Go.Proofs.YtlhmfgbaefaneaaGreatDoor.ref.signed
 cases b
 ·exact⟨sv,by simp,by simpa using h⟩
 ·have e:decide (-(x:Int)<0)=decide (x≠0):=by
   rw[decide_eq_decide]
   omega
  refine⟨sv,?_,by simpa using h⟩
  simp only[if_true,e,Bool.true_and]
theorem Lm (b:Bool)(a:Value)(x:Nat)(w:World)(ha:IsN w a x):
  Calls Tryz.prog 116 #[.bool b,a] w fun e w'=>∃v,e= .returned v∧IsI w' v (signed b x)∧Below w.heap.size w w':=by
 have HA:=Lib.hid ha
 obtain⟨ao,acap,rfl,⟨a1,-⟩,a2,-⟩:=ha
 unfold maxLen at a2
 have HX1:=Lib.hid (show 0<(digs x).length↔x≠0 from by
  have: (digs x).length=0↔x=0:=by rw[List.length_eq_zero_iff];exact Fh
  omega)
 generalize hna: (digs x).length=na at *
 clear hna
 have HS:=Lib.hid (fun (w':World)(hb:Below w.heap.size w w')=>IsI.signed b (HA.out.below hb))
 have hw:Below w.heap.size w (w.alloc (.cells #[Value.bool (b&&decide (0<na)),Value.slice ao na acap] 81)):=(Below.refl _ _).alloc (Nat.le_refl _) _
 have HW:=Lib.hid hw
 have hd:decide (x≠0)=decide (0<na):=by rw[decide_eq_decide];exact HX1.out.symm
 rw[hd] at HS
 clear hd hw
 by_cases h0:0<na
 all_goals
  cases b
  all_goals
   go_enter Tryz.func116,Tryz.ntmps116
   go_wp2
   first
    |(refine bodyPost_ret (v:= .agg #[.bool false,.slice ao na acap]) ?_ rfl ?_
      focus (simp[results,Tryz.results116,go_sem];done))
    |(refine bodyPost_ret (v:= .agg #[.bool true,.slice ao na acap]) ?_ rfl ?_
      focus (simp[results,Tryz.results116,go_sem];done))
   refine⟨_,rfl,?_,?_⟩
   ·first
     |(have h1:=HS.out _ HW.out
       simpa[h0] using h1)
     |skip
   ·first
     |(have h1:=HW.out
       simpa[h0] using h1)
     |skip
end Go.Proofs.YtlhmfgbaefaneaaGreatDoor.ref
namespace Go.Proofs.YtlhmfgbaefaneaaGreatDoor.ref
open Go.RowKit
theorem nM {w w2 w3:World}{n:Nat}(hn:w.heap.size=n)(h2:w2=w.alloc (.cells #[Value.bool false,.slice none 0 0] 81))(h:Below w2.heap.size w2 w3):
  w3.cell? ⟨n,0,none⟩=some (.bool false)∧w3.cell? ⟨n,1,none⟩=some (.slice none 0 0)∧w3.frozen? ⟨n,0,none⟩=false∧w3.frozen? ⟨n,1,none⟩=false:=by
 subst h2 hn
 have hs:w.heap.size<(w.alloc (.cells #[Value.bool false,.slice none 0 0] 81)).heap.size:=by simp
 refine⟨(h.cell (p:=⟨w.heap.size,0,none⟩) hs).trans ?_,(h.cell (p:=⟨w.heap.size,1,none⟩) hs).trans ?_,(h.frozen (p:=⟨w.heap.size,0,none⟩) hs).trans ?_,(h.frozen (p:=⟨w.heap.size,1,none⟩) hs).trans ?_⟩
 ·rw[cell_of_row _ w.heap.size 0 _ 81 (0,0) (heap_alloc_new w _)];rfl
 ·rw[cell_of_row _ w.heap.size 1 _ 81 (0,0) (heap_alloc_new w _)];rfl
 ·unfold World.frozen?
  rw[heap_alloc_new]
  rfl
 ·unfold World.frozen?
  rw[heap_alloc_new]
  rfl
theorem Reads.result {w:World}{sv:Value}{l:List Nat}{g:Nat}{b:Bool}(h:Reads w sv l)(c0:w.cell? ⟨g,0,none⟩=some (.bool b))(j:Nat)(u:Value):Reads (w.setCell ⟨g,j,none⟩ u) sv l:=by
 obtain⟨ao,cap,rfl,h1,h2,h3⟩:=h
 by_cases hl:l=[]
 ·exact⟨ao,cap,rfl,h1,h2,Or.inl hl⟩
 ·obtain⟨g',hg,hc⟩:=h3.resolve_left hl
  have hne:g'≠g:=by
   rintro rfl
   have:=(hc 0 (List.length_pos_iff.2 hl)).symm.trans c0
   simp at this
  refine⟨ao,cap,rfl,h1,h2,Or.inr ⟨g',hg,fun k hk=> ?_⟩⟩
  rw[World.cell?_of_block (w:=w) (a:=⟨g',k,none⟩) (Below.heap_setCell _ _ _ _ hne)]
  exact hc k hk
theorem Az {w:World}{g:Nat}{u0 u1:Value}(v0 v1:Value)(c0:w.cell? ⟨g,0,none⟩=some u0)(c1:w.cell? ⟨g,1,none⟩=some u1):
  (w.setCell ⟨g,0,none⟩ v0).cell? ⟨g,0,none⟩=some v0∧((w.setCell ⟨g,0,none⟩ v0).setCell ⟨g,1,none⟩ v1).cell? ⟨g,1,none⟩=some v1:=by
 constructor
 ·exact World.cell?_setCell_same' _ _ _ (by rw[c0];rfl)
 ·exact World.cell?_setCell_same' _ _ _ (by rw[World.cell?_setCell_other _ _ _ _ (by simp),c1];rfl)
theorem kV:∀(n x:Nat),x<10 ^ (n+1)→Lib.nDigits x≤n+1
 |0,x,h=>by rw[Lib.nDigits_small (by simpa using h)];exact Nat.le_refl _
 |n+1,x,h=>by
  by_cases h1:x<10
  ·rw[Lib.nDigits_small h1];omega
  ·rw[Lib.nDigits_big h1]
   have:=kV n (x/10) (by rw[Nat.pow_succ] at h;omega)
   omega
theorem eB {x m:Nat}(h: (digs x).length≤m): (str (Lib.decDigits x)).size≤9*m+1:=by
 rw[aD,Lib.decDigits_length]
 apply kV
 have h1:=dR (aB x).1
 rw[aA,sF] at h1
 have h2:10 ^ (9*(digs x).length)≤10 ^ (9*m+1):=Nat.pow_le_pow_right (by omega) (by omega)
 exact Nat.lt_of_lt_of_le h1 h2
theorem Od (v:Value)(z:Int)(w:World)(hv:IsI w v z)(hz: (digs z.natAbs).length≤100000):
  Calls Tryz.prog 109 #[v] w fun e w'=>e= .returned (.string (str (Lib.itoa z)))∧Below w.heap.size w w':=by
 obtain⟨sv,rfl,hs⟩:=hv
 have HS:=Lib.hid hs
 have HB:=Lib.hid ((Below.refl w.heap.size w).alloc (Nat.le_refl _) (.cells #[.bool (decide (z<0)),sv] 81))
 have HT:=Lib.hid (bP sv z.natAbs (w.alloc (.cells #[.bool (decide (z<0)),sv] 81)) (HS.out.below HB.out) hz)
 obtain⟨ao,acap,rfl,-⟩:=hs
 have hlen:=eB hz
 generalize (digs z.natAbs).length=n at *
 by_cases h:z<0
 ·have hz2:str (Lib.itoa z)=str [45]++str (Lib.decDigits z.natAbs):=by
   unfold Lib.itoa
   rw[if_pos h,aJ]
   rfl
  rw[decide_eq_true h] at HB HT ⊢
  rw[hz2]
  generalize str (Lib.decDigits z.natAbs)=s at *
  have h45: ({data:=#[45]} :ByteArray)=str [45]:=rfl
  have hsz:¬9223372036854775807<({data:=#[45]} :ByteArray).size+s.size:=by
   have: ({data:=#[45]} :ByteArray).size=1:=rfl
   omega
  go_enter Tryz.func109,Tryz.ntmps109
  go_wp2_with (go_at_call 110;refine(HT.out).mono ?_;rintro e' w3 ⟨rfl,hb3⟩;have HB3:=Lib.hid (HB.out.trans (hb3.mono HB.out.size));clear hb3 HT)
  go_ret
  exact⟨rfl,HB3.out⟩
 ·have hz2:str (Lib.itoa z)=str (Lib.decDigits z.natAbs):=by
   unfold Lib.itoa
   rw[if_neg h]
   congr 2
   omega
  rw[decide_eq_false h] at HB HT ⊢
  rw[hz2]
  generalize str (Lib.decDigits z.natAbs)=s at *
  go_enter Tryz.func109,Tryz.ntmps109
  go_wp2_with (go_at_call 110;refine(HT.out).mono ?_;rintro e' w3 ⟨rfl,hb3⟩;have HB3:=Lib.hid (HB.out.trans (hb3.mono HB.out.size));clear hb3 HT)
  go_ret
  exact⟨rfl,HB3.out⟩
end Go.Proofs.YtlhmfgbaefaneaaGreatDoor.ref
namespace Go.Proofs.YtlhmfgbaefaneaaGreatDoor.ref
open Go.RowKit
theorem gD (z:Int)(h1: -9223372036854775808≤z)(h2:z≤9223372036854775807)(w:World):
  Calls Tryz.prog 115 #[.int .i64 z] w fun e w'=>∃v,e= .returned v∧IsI w' v z∧Below w.heap.size w w':=by
 have HB:=Lib.hid ((Below.refl w.heap.size w).alloc (Nat.le_refl _) (.cells #[.bool false,.slice none 0 0] 81))
 by_cases h:z<0
 ·have HO:=Lib.hid (fun w=>qZ (-(z+1)+1) z.natAbs (by omega) (by omega) w)
  have hd:decide (z<0)=true:=by simp;omega
  go_enter Tryz.func115,Tryz.ntmps115
  go_wp2_with (go_at_call 108;refine(HO.out _).mono ?_;rintro e' w3 ⟨sv',rfl,hs',hb3⟩;obtain⟨c0,c1,f0,f1⟩:=nM (n:=w.heap.size) rfl rfl hb3;have HB3:=Lib.hid (HB.out.trans (hb3.mono HB.out.size));have HS3:=Lib.hid hs';obtain⟨ao',cap',rfl,-⟩:=hs';clear hb3 HO)
  obtain⟨q0,q1⟩:=Az (.bool true) (.slice ao' (digs z.natAbs).length cap') c0 c1
  generalize hnn: (digs z.natAbs).length=n' at *
  have HNn:=Lib.hid hnn
  clear hnn
  refine bodyPost_ret (v:= .agg #[.bool true,.slice ao' n' cap']) ?_ rfl ?_
  ·simp[results,Tryz.results115,go_sem,q0,q1]
  ·refine⟨_,rfl,⟨_,by rw[hd],Reads.result (Reads.result HS3.out c0 0 _) q0 1 _⟩,?_⟩
   exact(HB3.out.setCell (Nat.le_refl _) _).setCell (Nat.le_refl _) _
 ·have HO:=Lib.hid (fun w=>qZ (z) z.natAbs (by omega) (by omega) w)
  have hd:decide (z<0)=false:=by simp;omega
  go_enter Tryz.func115,Tryz.ntmps115
  go_wp2_with (go_at_call 108;refine(HO.out _).mono ?_;rintro e' w3 ⟨sv',rfl,hs',hb3⟩;obtain⟨c0,c1,f0,f1⟩:=nM (n:=w.heap.size) rfl rfl hb3;have HB3:=Lib.hid (HB.out.trans (hb3.mono HB.out.size));have HS3:=Lib.hid hs';obtain⟨ao',cap',rfl,-⟩:=hs';clear hb3 HO)
  obtain⟨q0,q1⟩:=Az (.bool false) (.slice ao' (digs z.natAbs).length cap') c0 c1
  generalize hnn: (digs z.natAbs).length=n' at *
  have HNn:=Lib.hid hnn
  clear hnn
  refine bodyPost_ret (v:= .agg #[.bool false,.slice ao' n' cap']) ?_ rfl ?_
  ·simp[results,Tryz.results115,go_sem,q0,q1]
  ·refine⟨_,rfl,⟨_,by rw[hd],Reads.result (Reads.result HS3.out c0 0 _) q0 1 _⟩,?_⟩
   exact(HB3.out.setCell (Nat.le_refl _) _).setCell (Nat.le_refl _) _
end Go.Proofs.YtlhmfgbaefaneaaGreatDoor.ref
namespace Go.Proofs.YtlhmfgbaefaneaaGreatDoor.ref
open Go.RowKit
def nT (V w3:World):Prop:=Below (V.alloc (.cells #[Value.bool false,.slice none 0 0] 81)).heap.size (V.alloc (.cells #[Value.bool false,.slice none 0 0] 81)) w3
theorem nT.cells {V w3:World}(h:nT V w3):
  w3.cell? ⟨V.heap.size,0,none⟩=some (.bool false)∧w3.cell? ⟨V.heap.size,1,none⟩=some (.slice none 0 0)∧w3.frozen? ⟨V.heap.size,0,none⟩=false∧w3.frozen? ⟨V.heap.size,1,none⟩=false:=nM rfl rfl h
theorem nT.on {V w2 w3:World}(h:nT V w2)(hb:Below w2.drew.heap.size w2.drew w3):nT V w3:=by
 have h2:=Below.drew h
 exact h2.trans (hb.mono h2.size)
theorem nT.at {V w2 w3:World}(h:nT V w2)(hb:Below w2.heap.size w2 w3):nT V w3:=by
 have h2:Below (V.alloc (.cells #[Value.bool false,.slice none 0 0] 81)).heap.size (V.alloc (.cells #[Value.bool false,.slice none 0 0] 81)) w2:=h
 exact h2.trans (hb.mono h2.size)
end Go.Proofs.YtlhmfgbaefaneaaGreatDoor.ref
namespace Go.Proofs.YtlhmfgbaefaneaaGreatDoor.ref
open Go.RowKit
def IsQ (w:World)(v:Value)(z:Int)(d:Nat):Prop:=∃s t,v= .agg #[.bool (decide (z<0)),s,t]∧IsN w s z.natAbs∧IsN w t d
theorem IsQ.below {w w':World}{v:Value}{z:Int}{d:Nat}(h:IsQ w v z d)(hb:Below w.heap.size w w'):IsQ w' v z d:=by
 obtain⟨s,t,rfl,hs,ht⟩:=h
 exact⟨s,t,rfl,hs.below hb,ht.below hb⟩
theorem IsQ.inj {w:World}{v:Value}{z z':Int}{d d':Nat}(h:IsQ w v z d)(h':IsQ w v z' d'):z=z'∧d=d':=by
 obtain⟨s,t,rfl,hs,ht⟩:=h
 obtain⟨s',t',he,hs',ht'⟩:=h'
 have e:=Value.agg.inj he
 simp only[Array.mk.injEq,List.cons.injEq,Value.bool.injEq,and_true] at e
 obtain⟨e1,rfl,rfl⟩:=e
 have:=IsN.inj hs hs'
 have:=IsN.inj ht ht'
 simp only[decide_eq_decide] at e1
 omega
def aV:Obj:= .cells #[Value.bool false,.slice none 0 0,.slice none 0 0] 83
theorem bC {w1 w3:World}{n:Nat}(h1:w1.heap[n]?=some aV) (h:Below w1.heap.size w1 w3):
  w3.cell? ⟨n,0,none⟩=some (.bool false)∧w3.cell? ⟨n,1,none⟩=some (.slice none 0 0)∧w3.cell? ⟨n,2,none⟩=some (.slice none 0 0)∧w3.frozen? ⟨n,0,none⟩=false∧w3.frozen? ⟨n,1,none⟩=false∧w3.frozen? ⟨n,2,none⟩=false:=by
 have hs:=(Array.getElem?_eq_some_iff.1 h1).1
 have h3:w3.heap[n]?=some (.cells #[Value.bool false,.slice none 0 0,.slice none 0 0] 83):=(h.block n hs).trans h1
 refine⟨?_,?_,?_,?_,?_,?_⟩
 ·rw[cell_of_row _ n 0 _ 83 (0,0) h3];rfl
 ·rw[cell_of_row _ n 1 _ 83 (0,0) h3];rfl
 ·rw[cell_of_row _ n 2 _ 83 (0,0) h3];rfl
 all_goals
  unfold World.frozen?
  rw[h3]
  rfl
theorem dS {w:World}{g:Nat}(v0 v1 v2:Value){u1 u2:Value}{b:Bool}(c0:w.cell? ⟨g,0,none⟩=some (.bool b))(c1:w.cell? ⟨g,1,none⟩=some u1)(c2:w.cell? ⟨g,2,none⟩=some u2):
  (w.setCell ⟨g,0,none⟩ v0).cell? ⟨g,0,none⟩=some v0∧((w.setCell ⟨g,0,none⟩ v0).setCell ⟨g,1,none⟩ v1).cell? ⟨g,0,none⟩=some v0∧((w.setCell ⟨g,0,none⟩ v0).setCell ⟨g,1,none⟩ v1).cell? ⟨g,1,none⟩=some v1∧
  (((w.setCell ⟨g,0,none⟩ v0).setCell ⟨g,1,none⟩ v1).setCell ⟨g,2,none⟩ v2).cell? ⟨g,0,none⟩=some v0∧(((w.setCell ⟨g,0,none⟩ v0).setCell ⟨g,1,none⟩ v1).setCell ⟨g,2,none⟩ v2).cell? ⟨g,1,none⟩=some v1∧(((w.setCell ⟨g,0,none⟩ v0).setCell ⟨g,1,none⟩ v1).setCell ⟨g,2,none⟩ v2).cell? ⟨g,2,none⟩=some v2:=by
 have a0: (w.setCell ⟨g,0,none⟩ v0).cell? ⟨g,0,none⟩=some v0:=World.cell?_setCell_same' _ _ _ (by rw[c0];rfl)
 have a1: (w.setCell ⟨g,0,none⟩ v0).cell? ⟨g,1,none⟩=some u1:=by rw[World.cell?_setCell_other _ _ _ _ (by simp),c1]
 have a2: (w.setCell ⟨g,0,none⟩ v0).cell? ⟨g,2,none⟩=some u2:=by rw[World.cell?_setCell_other _ _ _ _ (by simp),c2]
 have b0: ((w.setCell ⟨g,0,none⟩ v0).setCell ⟨g,1,none⟩ v1).cell? ⟨g,0,none⟩=some v0:=by rw[World.cell?_setCell_other _ _ _ _ (by simp),a0]
 have b1: ((w.setCell ⟨g,0,none⟩ v0).setCell ⟨g,1,none⟩ v1).cell? ⟨g,1,none⟩=some v1:=World.cell?_setCell_same' _ _ _ (by rw[a1];rfl)
 have b2: ((w.setCell ⟨g,0,none⟩ v0).setCell ⟨g,1,none⟩ v1).cell? ⟨g,2,none⟩=some u2:=by rw[World.cell?_setCell_other _ _ _ _ (by simp),a2]
 refine⟨a0,b0,b1,?_,?_,?_⟩
 ·rw[World.cell?_setCell_other _ _ _ _ (by simp),b0]
 ·rw[World.cell?_setCell_other _ _ _ _ (by simp),b1]
 ·exact World.cell?_setCell_same' _ _ _ (by rw[b2];rfl)
theorem bY {w:World}{g x:Nat}{v1 v2 sv:Value}{u1 u2:Value}{b b':Bool}(hs:IsN w sv x)(c0:w.cell? ⟨g,0,none⟩=some (.bool b))(c1:w.cell? ⟨g,1,none⟩=some u1)(c2:w.cell? ⟨g,2,none⟩=some u2):
  IsN (((w.setCell ⟨g,0,none⟩ (.bool b')).setCell ⟨g,1,none⟩ v1).setCell ⟨g,2,none⟩ v2) sv x:=by
 obtain⟨q0,q1,-⟩:=dS (.bool b') v1 v2 c0 c1 c2
 exact Reads.result (Reads.result (Reads.result hs c0 0 _) q0 1 _) q1 2 _
theorem dQ {w1 w:World}{B g:Nat}(h:Below B w1 w)(hg:B≤g)(v0 v1 v2:Value):Below B w1 (((w.setCell ⟨g,0,none⟩ v0).setCell ⟨g,1,none⟩ v1).setCell ⟨g,2,none⟩ v2):=
 ((h.setCell hg _).setCell hg _).setCell hg _
theorem IsI.nat {w:World}{s:Value}{d:Nat}(h:IsN w s d):IsI w (.agg #[.bool false,s]) (d:Int):=⟨s,by simp,by simpa using h⟩
end Go.Proofs.YtlhmfgbaefaneaaGreatDoor.ref
