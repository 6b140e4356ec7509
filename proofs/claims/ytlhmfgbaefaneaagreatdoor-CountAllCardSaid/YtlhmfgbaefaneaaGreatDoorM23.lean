/-
  The steps of the walks, part 23: TenP, Write, Trim, NatText, IntF, Size, RatM.
-/
import Derived.Deep.RegionHeld3
import Derived.Laws.IdiomStrings
import Derived.Test.YtlhmfgbaefaneaaGreatDoorM22
import Derived.Test.YtlhmfgbaefaneaaGreatDoorM04
set_option maxHeartbeats 4000000
set_option maxRecDepth 100000
namespace Go.Proofs.YtlhmfgbaefaneaaGreatDoor.nat
open Go.RowKit
def Mh (w:World)(X:Nat)(e:Ending)(w':World):Prop:=
 ∃pv p,e= .returned pv∧Tens w' w.heap.size pv p∧X<tp p∧(∀i,i<p→tp i≤X)∧Below w.heap.size w w'
def EX (w:World)(X n:Nat)(pv nv:Value)(wr:World):Prop:=
 ∃p,Tens wr w.heap.size pv p∧Own wr w.heap.size nv (digs (tp p))∧(digs (tp p)).length≤n+16∧(∀i,i<p→tp i≤X)∧Below w.heap.size w wr
theorem Tens.len {w:World}{B p:Nat}{pv:Value}(h:Tens w B pv p):∃ao cap,pv= .slice ao p cap:=by
 obtain⟨ss,h1,h2,_⟩:=h
 rcases h2.2 with ⟨rfl,h3⟩|⟨g,cap,cur,rfl,_⟩
 ·exact⟨_,_,by rw[←h1,h3]⟩
 ·exact⟨_,_,by rw[h1]⟩
set_option exponentiation.threshold 400 in
theorem Qt (sx:Value)(w:World)(hx:Rd w sx [10]):
  Calls Tryz.prog 194 #[sx,.int .i64 304] w fun e w'=>∃sv,e= .returned sv∧Own w' w.heap.size sv (digs (tp 0))∧Below w.heap.size w w':=by
 have e:val [10]=10:=rfl
 have hb: (digs (val [10] ^ 304)).length≤16:=bK (by rw[e];decide)
 have h:=uD sx [10] 304 w hx ⟨Dig.nil.cons (by omega),by simp⟩ (by simp) (by omega) (by omega)
 rw[e] at h
 exact h
set_option exponentiation.threshold 400 in
theorem Hu: (digs (tp 0)).length≤16:=bK (by decide)
theorem Ue (w:World)(v:Value)(t:TypeId): (w.alloc (.cells #[v] t)).cell? ⟨w.heap.size,0,none⟩=some v:=by
 unfold World.cell?
 rw[heap_alloc_new]
 rfl
theorem zR (sx:Value)(x:List Nat)(w:World)(hx:Rd w sx x)(hnx:Norm x)(hs:x.length≤400000):
  Calls Tryz.prog 171 #[sx] w fun e w'=>Mh w (val x) e w':=by
 obtain⟨ao,cap,rfl,⟨h1,h4⟩,h2,h3⟩:=id hx
 obtain⟨n,hn⟩:∃n,x.length=n:=⟨_,rfl⟩
 have HN:=Lib.hid hn
 have HX:=Lib.hid hx
 have HNx:=Lib.hid hnx
 rw[hn] at hs h1 HX ⊢
 clear hx hnx hn h3 h4 h1 h2
 have hal:=(Below.refl w.heap.size w).alloc (Nat.le_refl _) (.cells #[Value.int .u64 10] 104)
 have HAl:=Lib.hid hal
 have HTen:=Lib.hid (Qt (.slice (some ⟨w.heap.size,0,none⟩) 1 1) (w.alloc (.cells #[Value.int .u64 10] 104)) (gN (w:=w) (d:=10) (B:=w.heap.size) (Nat.le_refl _)).rd)
 clear hal
 go_enter Tryz.func171,Tryz.ntmps171
 go_wp2_with (go_at_call 194;with_reducible refine(HTen.out).mono ?_;rintro e w2 ⟨nv,rfl,ho,hb⟩;have HO:=Lib.hid ho;have HB:=Lib.hid hb;clear ho hb HTen)
 go_loopw [3,4] (fun pv nv wr=>EX w (val x) n pv nv wr) (fun pv _ _=>match pv with| .slice _ p _=>64*n+1 - p|_=>0)
 case atStart=>exact⟨0,Tens.nil _ _,HO.out.mono HAl.out.size,by have:=Hu;omega,fun i hi=>by omega,HAl.out.trans (HB.out.mono HAl.out.size)⟩
 case round=>
  obtain⟨p,ht,ho,hl,hle,hb⟩:=hrel
  obtain⟨N,hN⟩:∃N,(digs (tp p)).length=N:=⟨_,rfl⟩
  have hNl:N≤n+16:=by omega
  have HC:=Lib.hid (gG u4 (.slice ao n cap) (digs (tp p)) x wr ho.rd (HX.out.below hb) (aB _) HNx.out (by omega) (by rw[HN.out];omega))
  rw[aA] at HC
  obtain⟨c,hc⟩:∃c,c=cmp3 (tp p:Nat) (val x:Nat):=⟨_,rfl⟩
  rw[←hc] at HC
  have HT:=Lib.hid ht
  have HO':=Lib.hid ho
  have HLe:=Lib.hid hle
  have HB':=Lib.hid hb
  have HNN:=Lib.hid hN
  obtain⟨pao,pcap,rfl⟩:=ht.len
  obtain⟨nao,ncap,rfl,-⟩:=id ho
  rw[hN] at HO' HC ⊢
  clear hle hb ht ho hl hN HAl HB HO
  by_cases hcc:c≤0
  ·have hpX:tp p≤val x:=by
    rw[hc] at hcc
    unfold cmp3 at hcc
    split at hcc
    ·omega
    ·split at hcc<;>omega
   have HF:=Lib.hid (EH HNx.out.1 hpX)
   have HPX:=Lib.hid hpX
   have hwb:=HB'.out.size
   clear hc hpX
   obtain⟨ss,hs1,hs2,hs3⟩:=HT.out
   have HS1:=Lib.hid hs1
   have HS2:=Lib.hid hs2
   have HS3:=Lib.hid hs3
   clear hs1 hs2 hs3
   have HA1:=Lib.hid (fun m=>(yD HS2.out (aK wr m)).alloc (.cells #[.slice nao N ncap] 78))
   have HA2:=Lib.hid (fun m=>(show((wr.drewN m).alloc (.cells #[Value.slice nao N ncap] 78)).cell? ((⟨wr.heap.size,0,none⟩:Addr).add 0)=some (.slice nao N ncap) from by
    exact Ue (wr.drewN m) _ _))
   go_wp2_with (first
    |(go_at_call 170;with_reducible refine(HC.out).mono ?_;rintro e w3 ⟨rfl,m,rfl⟩)
    |(at_builtin;refine qF rfl _ _ rfl w.heap.size (.slice pao p pcap) (.slice nao N ncap) ⟨wr.heap.size,0,none⟩ ss rfl (HA1.out m) rfl (HA2.out m) ⟨_,_,_,rfl⟩ ?c3 ?c4 ?_))
   case c3=>rw[HS1.out];have:=HF.out;rw[HN.out] at this;omega
   case c4=>have: (wr.drewN m).heap.size=wr.heap.size:=rfl;simp;omega
   intro v' w4 hown hg4
   have hbd:=(aK wr m)
   have hba:=((aK wr m).alloc (Nat.le_refl _) (.cells #[Value.slice nao N ncap] 78))
   have hsz4:w.heap.size≤((wr.drewN m).alloc (.cells #[Value.slice nao N ncap] 78)).heap.size:=Nat.le_trans hwb hba.size
   have hb4:Below w.heap.size w w4:=(HB'.out.trans (hba.mono hwb)).grown hg4 hsz4 (fun b hb=>(World.ownsRow.lt (HA1.out m) b hb).1)
   have hn4:Own w4 w.heap.size (.slice nao N ncap) (digs (tp p)):=(HO'.out.below hba).past (HA1.out m) hg4
   have hT4:=Tens.next HS1.out (fun i u hi=>((HS3.out i u hi).below hba).past (HA1.out m) hg4) hn4 hown
   have hle4:∀i,i<p+1→tp i≤val x:=fun i hi=>by
    rcases Nat.lt_or_ge i p with h|h
    ·exact HLe.out i h
    ·obtain rfl:i=p:=by omega
     exact HPX.out
   obtain⟨ao4,cap4,rfl⟩:=hT4.len
   have HB4:=Lib.hid hb4
   have HN4:=Lib.hid hn4
   have HT4:=Lib.hid hT4
   have HLe4:=Lib.hid hle4
   have hw4:=hb4.size
   clear hown hg4 hbd hba hb4 hn4 hT4 hle4 HA1 HA2 HS1 HS2 HS3 HT HC HO' HLe HB'
   by_cases hbr:n<2*N - 1
   ·have HE:=Lib.hid (AZ HNx.out.1 p (by rw[HN.out,HNN.out];exact hbr))
    go_wp2
    go_ret
    exact⟨_,p+1,rfl,HT4.out,HE.out,HLe4.out,HB4.out⟩
   ·have HL4:=Lib.hid (EI (n:=n) (p:=p) (by rw[HNN.out];omega))
    have HP:=Lib.hid (jW _ _ _ _ w4 HN4.out.rd HN4.out.rd (aB (tp p)).1 (aB (tp p)).1 (by rw[HNN.out];omega) (by rw[HNN.out];omega))
    have HF':=Lib.hid (show p<64*n by have:=HF.out;rw[HN.out] at this;exact this)
    rw[aA,Dl] at HP
    go_wp2_with (go_at_call 167;with_reducible refine(HP.out).mono ?_;rintro e w5 ⟨sv,rfl,ho5,hb5⟩;have HO5:=Lib.hid (ho5.mono hw4);have HT5:=Lib.hid (HT4.out.below hb5);have HB5:=Lib.hid (HB4.out.trans (hb5.mono hw4));clear ho5 hb5)
    refine⟨?_,?_⟩
    ·exact⟨p+1,HT5.out,HO5.out,HL4.out,HLe4.out,HB5.out⟩
    ·have:=HF'.out
     simp
     omega
  ·have hpX:val x<tp p:=by
    rw[hc] at hcc
    unfold cmp3 at hcc
    split at hcc
    ·omega
    ·split at hcc<;>omega
   have HPX:=Lib.hid hpX
   clear hc hpX
   go_wp2_with (go_at_call 170;with_reducible refine(HC.out).mono ?_;rintro e w3 ⟨rfl,m,rfl⟩)
   go_ret
   exact⟨_,p,rfl,HT.out.below (aK _ _),HPX.out,HLe.out,HB'.out.trans ((aK _ _).mono HB'.out.size)⟩
end Go.Proofs.YtlhmfgbaefaneaaGreatDoor.nat
namespace Go.Proofs.YtlhmfgbaefaneaaGreatDoor.nat
open Go.RowKit
open Go.Proofs.YtlhmfgbaefaneaaGreatDoor.ref (str aD aJ pad aY cZ gM fM fC jV)
def Pows (w:World)(g:Nat)(pv:Value)(p:Nat):Prop:=
 ∃ao cap,pv= .slice ao p cap∧(p≤cap∧cap≤maxLen)∧(p=0∨∃b off,ao=some ⟨b,off,none⟩∧b≠g∧∀i,i<p→∃u,w.cell? ⟨b,off+i,none⟩=some u∧Rd w u (digs (tp i))∧Apart g u∧(digs (tp i)).length≤400000)
theorem Pows.kept {w w':World}{g p:Nat}{pv:Value}(h:Pows w g pv p)(hg:w.grownBy w' (some g)):Pows w' g pv p:=by
 obtain⟨ao,cap,h1,h2,h3⟩:=h
 refine⟨ao,cap,h1,h2,h3.imp id fun ⟨b,off,h4,h5,h6⟩=>⟨b,off,h4,h5,fun i hi=> ?_⟩⟩
 obtain⟨u,c,r,a,l⟩:=h6 i hi
 exact⟨u,hg.cell c (by simpa using h5),r.kept hg a,a,l⟩
theorem Pows.fewer {w:World}{g p cap:Nat}{ao:Option Addr}(h:Pows w g (.slice ao (p+1) cap) (p+1)):Pows w g (.slice ao p cap) p:=by
 obtain⟨ao',cap',h1,h2,h3⟩:=h
 simp only[Value.slice.injEq] at h1
 obtain⟨rfl,-,rfl⟩:=h1
 refine⟨_,_,rfl,⟨by omega,h2.2⟩,?_⟩
 rcases h3 with h3|⟨b,off,h4,h5,h6⟩
 ·omega
 ·exact Or.inr ⟨b,off,h4,h5,fun i hi=>h6 i (by omega)⟩
theorem Pows.drew {w:World}{g p:Nat}{pv:Value}(h:Pows w g pv p)(n:Nat):Pows (w.drewN n) g pv p:=h.kept (bE (aK w n) _)
theorem Jv {L0:List UInt8}{o h X:Nat}(hl:o+(h+h)≤L0.length):
  (L0.take o++(pad h (X/10 ^ h)++L0.drop (o+h))).take (o+h)++(pad h (X%10 ^ h)++(L0.take o++(pad h (X/10 ^ h)++L0.drop (o+h))).drop (o+h+h))=L0.take o++(pad (h+h) X++L0.drop (o+(h+h))):=by
 have h1: (L0.take o).length=o:=by rw[List.length_take];omega
 have h2: (L0.take o++pad h (X/10 ^ h)).length=o+h:=by rw[List.length_append,h1,aY]
 rw[Nj,mD,←List.append_assoc (L0.take o),List.take_left' h2,show o+h+h=(o+h)+h from rfl,←List.drop_drop,List.drop_left' h2,List.drop_drop,List.append_assoc,List.append_assoc,Nat.add_assoc]
def Tx (p:Nat):Prop:=∀(g o n c:Nat)(L0:List UInt8)(sx pv:Value)(X:Nat)(w:World),RowB w g L0→o+n≤L0.length→n≤c→c≤1000000000→n=304*2 ^ p→Rd w sx (digs X)→Apart g sx→(digs X).length≤400000→Pows w g pv p→
    Calls Tryz.prog 172 #[.slice (some ⟨g,o,none⟩) n c,sx,pv] w fun e w'=>e= .returned (.tuple #[])∧RowB w' g (L0.take o++(pad n X++L0.drop (o+n)))∧w.grownBy w' (some g)
theorem vB (g o n c p:Nat)(L0:List UInt8)(sx pv:Value)(X:Nat)(w:World)(hr:RowB w g L0)(hl:o+n≤L0.length)(hnc:n≤c)(hcm:c≤1000000000)(h19:n%19=0)(hx:Rd w sx (digs X))(hxl: (digs X).length≤400000)(hp:Pows w g pv p)(h0:p=0∨X=0):
  Calls Tryz.prog 172 #[.slice (some ⟨g,o,none⟩) n c,sx,pv] w fun e w'=>e= .returned (.tuple #[])∧RowB w' g (L0.take o++(pad n X++L0.drop (o+n)))∧w.grownBy w' (some g):=by
 have HS:=Lib.hid (yR g o n c L0 sx X w hr hl hnc hcm h19 hx hxl)
 obtain⟨ao,cap,rfl,-,-⟩:=hp
 obtain⟨xo,xcap,rfl,-⟩:=hx
 obtain⟨m,hm⟩:∃m,(digs X).length=m:=⟨_,rfl⟩
 have hm0:p=0∨m=0:=by
  rcases h0 with h|h
  ·exact Or.inl h
  ·right
   rw[←hm,h,aX]
   rfl
 rw[hm] at HS ⊢
 clear hr hl hm hxl h0
 by_cases hp0:p=0
 ·subst hp0
  go_enter Tryz.func172,Tryz.ntmps172
  go_wp2_with (go_at_call 214;with_reducible refine(HS.out).mono ?_;rintro e w2 ⟨rfl,h⟩;have HH:=Lib.hid h;clear h HS)
  (try simp only[Exit.inBlock,Exit.then])
  refine bodyPost_ret (results_none rfl _ _ _) rfl ?_
  exact⟨rfl,HH.out⟩
 ·obtain rfl:m=0:=by omega
  have hpb: ((p:Int)==0)=false:=by simp;omega
  go_enter Tryz.func172,Tryz.ntmps172
  go_wp2_with (go_at_call 214;with_reducible refine(HS.out).mono ?_;rintro e w2 ⟨rfl,h⟩;have HH:=Lib.hid h;clear h HS)
  (try simp only[Exit.inBlock,Exit.then])
  refine bodyPost_ret (results_none rfl _ _ _) rfl ?_
  exact⟨rfl,HH.out⟩
theorem Dr (p:Nat)(IH:Tx p)(g o n h c:Nat)(L0:List UInt8)(sx pv:Value)(X:Nat)(w:World)(hn:n=h+h)(hr:RowB w g L0)(hl:o+(h+h)≤L0.length)(hnc:n≤c)(hcm:c≤1000000000)(hh:h=304*2 ^ p)(hx:Rd w sx (digs X))(hax:Apart g sx)(hxl: (digs X).length≤400000)(hp:Pows w g pv (p+1))(h0:0<X):
  Calls Tryz.prog 172 #[.slice (some ⟨g,o,none⟩) n c,sx,pv] w fun e w'=>e= .returned (.tuple #[])∧RowB w' g (L0.take o++(pad (h+h) X++L0.drop (o+(h+h))))∧w.grownBy w' (some g):=by
 have HP:=Lib.hid hp
 obtain⟨ao,cap,rfl,⟨hp1,hp2⟩,hp3⟩:=hp
 obtain⟨b,off,rfl,hbg,hpc⟩:=hp3.resolve_left (by omega)
 obtain⟨u,cu,ru,au,lu⟩:=hpc p (by omega)
 have hT:tp p=10 ^ h:=by unfold tp;rw[hh]
 have hgB:=hr.lt
 have hDn:=aR (Nat.div_le_self X (tp p)) hxl
 have hDm:=aR (Nat.mod_le X (tp p)) hxl
 have hne:digs (tp p)≠[]:=by
  intro e
  have h1:=aA (tp p)
  rw[e] at h1
  have h2:=Xt p
  have h3:val []=0:=rfl
  omega
 have HD:=jE sx u (digs X) (digs (tp p)) w hx ru (aB _) (aB _) hne (by omega) (by omega)
 rw[aA,aA,hT] at HD
 rw[hT] at hDn hDm
 obtain⟨uo,ucap,rfl,-⟩:=id ru
 obtain⟨N,hN⟩:∃N,(digs (tp p)).length=N:=⟨_,rfl⟩
 rw[hN] at HD cu
 have HDv:=Lib.hid HD
 have HR:=Lib.hid hr
 have HL:=Lib.hid hl
 have HI:=Lib.hid IH
 have HH:=Lib.hid hh
 have HDn:=Lib.hid hDn
 have HDm:=Lib.hid hDm
 obtain⟨xo,xcap,rfl,-⟩:=id hx
 obtain⟨m,hm⟩:∃m,(digs X).length=m:=⟨_,rfl⟩
 have hm0:0<m:=by
  rw[←hm]
  refine Nat.pos_of_ne_zero fun e=> ?_
  have h1:=aA X
  rw[List.eq_nil_of_length_eq_zero e] at h1
  have h3:val []=0:=rfl
  omega
 have hmb: ((m:Int)==0)=false:=by simp;omega
 rw[hm] at hxl HDv ⊢
 have hh0:0<h:=by rw[hh];have:0<2 ^ p:=Nat.pow_pos (by omega);omega
 clear hpc ru au lu hN hT hne HD hr hl hx hax IH hh hp3 hDn hDm hm h0
 go_enter Tryz.func172,Tryz.ntmps172
 have q1: (n:Int)/2=(h:Int):=by omega
 have q2: (h:Int)≤(c:Int):=by omega
 have q3: (h:Int)≤(n:Int):=by omega
 have q4:¬c=h:=by omega
 have q5:n - h=h:=by omega
 have q6: (p:Int)≤(cap:Int):=by omega
 have q7: ((p:Int)+1==0)=false:=by simp;omega
 unfold maxLen at hp2
 have q8:n≤1000000000:=by omega
 have HN:=Lib.hid hn
 clear hn
 go_wp2_with (first
  |(go_at_call 184;with_reducible refine(HDv.out).mono ?_;rintro e w2 ⟨sq,sr,rfl,⟨hoq,hor⟩,hb2⟩
    have HQ:=Lib.hid hoq
    have HS:=Lib.hid hor
    have HB2:=Lib.hid hb2
    clear hoq hor hb2 HDv))
 obtain⟨qo,qcap,rfl,-⟩:=id HQ.out
 obtain⟨so,scap,rfl,-⟩:=id HS.out
 have W1:=Lib.hid (fun w' (hd:Below w2.heap.size w2 w')=>HI.out g o h c L0 (.slice qo (digs (X/10 ^ h)).length qcap) (.slice (some ⟨b,off,none⟩) p cap) (X/10 ^ h) w' ((HR.out.below HB2.out hgB).below hd (Nat.lt_of_lt_of_le hgB HB2.out.size)) (by have:=HL.out;omega) (by omega) hcm HH.out ((HQ.out.below hd).rd) (HQ.out.apart hgB) HDn.out ((HP.out.kept (bE HB2.out _)).fewer.kept (bE hd _)))
 have HP2:=Lib.hid (HP.out.kept (bE HB2.out (some g))).fewer
 have hg2:=Nat.lt_of_lt_of_le hgB HB2.out.size
 obtain⟨N1,hN1⟩:∃N1,(digs (X/10 ^ h)).length=N1:=⟨_,rfl⟩
 obtain⟨N2,hN2⟩:∃N2,(digs (X%10 ^ h)).length=N2:=⟨_,rfl⟩
 rw[hN1] at W1
 rw[hN1,hN2]
 have HN2:=Lib.hid hN2
 clear hN1 hN2 HQ
 go_region_held3 (fun _=>True) (trivial)
  (first
    |(go_at_call 172;with_reducible refine(W1.out _ (Below.refl _ _).drew).mono ?_;rintro e w3 ⟨rfl,hr3,hg3⟩
      have HR3:=Lib.hid hr3
      have HG3:=Lib.hid (bF (bE (Below.refl w2.heap.size w2).drew (some g)) hg3)
      clear hr3 hg3 W1))
 obtain⟨L1,hL1⟩:∃L1,L1=L0.take o++(pad h (X/10 ^ h)++L0.drop (o+h)):=⟨_,rfl⟩
 have hLl:L1.length=L0.length:=by
  have:=HL.out
  rw[hL1,List.length_append,List.length_append,aY,List.length_take,List.length_drop]
  omega
 have hg3b:=HR3.out.lt
 have W2:=Lib.hid (fun w' (hd:Below w3.heap.size w3 w')=>HI.out g (o+h) h (c - h) L1 (.slice so (digs (X%10 ^ h)).length scap) (.slice (some ⟨b,off,none⟩) p cap) (X%10 ^ h) w' ((by rw[hL1];exact HR3.out:RowB w3 g L1).below hd hg3b) (by have:=HL.out;omega) (by omega) (by omega) HH.out (((HS.out.rd).kept HG3.out (HS.out.apart hgB)).below hd) (HS.out.apart hgB) HDm.out ((HP2.out.kept HG3.out).kept (bE hd _)))
 have HL1:=Lib.hid hL1
 rw[HN2.out] at W2
 clear hL1 hLl
 go_wp2
 go_region_held3 (fun _=>True) (trivial)
  (first
    |(go_at_call 172;with_reducible refine(W2.out _ (Below.refl _ _).drew).mono ?_;rintro e w4 ⟨rfl,hr4,hg4⟩
      have HR4:=Lib.hid hr4
      have HG4:=Lib.hid (bF (bE (Below.refl w3.heap.size w3).drew (some g)) hg4)
      clear hr4 hg4 W2))
 go_wp2
 go_end0
 refine⟨rfl,?_,?_⟩
 ·have h1:=HR4.out
  rw[HL1.out,Jv HL.out] at h1
  exact h1
 ·exact bF (bF (bE HB2.out _) HG3.out) HG4.out
theorem Bb:∀p,Tx p
 |0=>fun g o n c L0 sx pv X w hr hl hnc hcm hn hx _ hxl hp=>vB g o n c 0 L0 sx pv X w hr hl hnc hcm (by rw[hn]) hx hxl hp (Or.inl rfl)
 |p+1=>fun g o n c L0 sx pv X w hr hl hnc hcm hn hx hax hxl hp=>by
  have hn2:n=304*2 ^ p+304*2 ^ p:=by rw[hn,Nat.pow_succ];omega
  rcases Nat.eq_zero_or_pos X with h0|h0
  ·exact vB g o n c (p+1) L0 sx pv X w hr hl hnc hcm (by omega) hx hxl hp (Or.inr h0)
  ·have h:=Dr p (Bb p) g o n (304*2 ^ p) c L0 sx pv X w hn2 hr (by omega) hnc hcm rfl hx hax hxl hp h0
   rw[←hn2] at h
   exact h
end Go.Proofs.YtlhmfgbaefaneaaGreatDoor.nat
namespace Go.Proofs.YtlhmfgbaefaneaaGreatDoor.nat
open Go.RowKit
open Go.Proofs.YtlhmfgbaefaneaaGreatDoor.ref (str aD aJ mO pad aY cZ gM fM fC jV)
def sizeOf':Value→Nat
 | .string s=>s.size
 |_=>0
theorem uI (M x:Nat)(w:World)(hx:x<10 ^ M)(h0:0<x)(hM:M≤100000000):
  Calls Tryz.prog 215 #[.string (str (pad M x)),.int .u8 48] w fun e w'=>e= .returned (.string (str (Lib.decDigits x)))∧w=w':=by
 have HX:=Lib.hid hx
 clear hx
 go_enter Tryz.func215,Tryz.ntmps215
 go_wp2
 go_loopw [0] (fun sv wr=>w=wr∧∃m:Nat,m≤M∧x<10 ^ m∧sv= .string (str (pad m x))) (fun sv _=>sizeOf' sv)
 case atStart=>exact⟨rfl,M,Nat.le_refl _,HX.out,rfl⟩
 case round=>
  obtain⟨rfl,m,hm,hxm,rfl⟩:=hrel
  rcases m with _|m
  ·simp at hxm
   omega
  ·have hz: (str (pad (m+1) x)).size=m+1:=by rw[aD,aY]
   have hem: (str (pad (m+1) x)).toList.isEmpty=false:=by
    rw[ByteArray.toList_eq,cZ]
    rfl
   have ht:=mO (UInt8.ofNat (48+x/10 ^ m%10)) (pad m x)
   have hg:∀h:0<(str (pad (m+1) x)).size,((str (pad (m+1) x))[0]'h).toNat=(UInt8.ofNat (48+x/10 ^ m%10)).toNat:=by
    rw[cZ m]
    intro h
    rfl
   rw[←cZ] at ht
   by_cases hh:x<10 ^ m
   ·rw[Nat.div_eq_of_lt hh] at hg
    have HT:=Lib.hid ht
    have HH:=Lib.hid hh
    generalize hss:str (pad (m+1) x)=s at *
    have HSs:=Lib.hid hss
    have hg':∀h:0<s.size,(s[0]'h).toNat=48:=hg
    clear ht hh hg hxm hss
    go_wp2
    go_roundw
    case rel=>exact⟨trivial,m,by omega,HH.out,by rw[←hz,HT.out]⟩
    case measure=>simp[sizeOf'];omega
   ·have he:=Lib.hid (congrArg str (fC m x hxm (Or.inr (by omega))))
    have hne:=jV hxm (by omega)
    generalize (UInt8.ofNat (48+x/10 ^ m%10)).toNat=c at *
    have hcb: ((c:Int)==48)=false:=by simp;omega
    generalize str (pad (m+1) x)=s at *
    clear ht hh hxm
    go_wp2
    go_ret
    exact⟨by rw[he.out];rfl,rfl⟩
theorem Bt (M x:Nat)(w:World)(hx:x<10 ^ M)(h0:0<x)(hM:M≤100000000):
  Calls Tryz.prog 173 #[.string (str (pad M x)),.string ⟨#[48]⟩] w fun e w'=>e= .returned (.string (str (Lib.decDigits x)))∧w=w':=by
 have HT:=Lib.hid (uI M x w hx h0 hM)
 have hz: (str (pad M x)).size=M:=by rw[aD,aY]
 have hem: (str (pad M x)).toList.isEmpty=false:=by
  rcases M with _|m
  ·simp at hx
   omega
  ·rw[ByteArray.toList_eq,cZ]
   rfl
 obtain⟨k,hk⟩:∃k:ByteArray,k=⟨#[48]⟩:=⟨_,rfl⟩
 have kz:k.size=1:=by rw[hk];rfl
 have kg:∀h:0<k.size,(k[0]'h).toNat=48:=by subst hk;intro _;rfl
 have ke:k.toList.isEmpty=false:=by rw[ByteArray.toList_eq,hk];rfl
 rw[←hk]
 clear hk
 generalize str (pad M x)=s at *
 clear hx h0
 go_enter Tryz.func173,Tryz.ntmps173
 go_wp2_with (go_at_call 215;with_reducible refine(HT.out).mono ?_;rintro e w2 ⟨rfl,rfl⟩)
 go_ret
 exact⟨rfl,rfl⟩
end Go.Proofs.YtlhmfgbaefaneaaGreatDoor.nat
namespace Go.Proofs.YtlhmfgbaefaneaaGreatDoor.nat
open Go.RowKit
open Go.Proofs.YtlhmfgbaefaneaaGreatDoor.ref (str aD aJ mO pad aY cZ gM fM fC jV)
theorem Tens.pows {w w':World}{B p g X:Nat}{pv:Value}(h:Tens w B pv p)(hb:Below w.heap.size w w')(hg:w.heap.size≤g)(hX: (digs X).length≤400000)(hle:∀i,i<p→tp i≤X):Pows w' g pv p:=by
 obtain⟨ss,h1,h2,h3⟩:=h
 have hl:=h1
 subst h1
 rcases h2.2 with ⟨rfl,h4⟩|⟨b,cap,cur,rfl,h5,h6,h7,h8,h9,h10⟩
 ·exact⟨_,_,by rw[h4],⟨by omega,by unfold maxLen;omega⟩,Or.inl h4⟩
 ·refine⟨_,_,rfl,⟨h7,h8⟩,Or.inr ⟨b,0,rfl,?_,fun i hi=> ?_⟩⟩
  ·have:=(Array.getElem?_eq_some_iff.1 h6).1
   omega
  ·have h2':w.ownsRow B 78 1 (.slice (some ⟨b,0,none⟩) ss.length cap) ss.length ss:=h2
   have hc:=h2'.cellAt i (by omega)
   rw[List.getElem?_eq_getElem hi] at hc
   have ho:=h3 i _ (List.getElem?_eq_getElem hi)
   refine⟨_,?_,(ho.below hb).rd,?_,aR (hle i hi) hX⟩
   ·rw[Nat.zero_add,hb.cell (p:=⟨b,i,none⟩) (aO hc)]
    exact hc
   ·exact ho.rd.apart hg
theorem Wy {X p n:Nat}(hX: (digs X).length≤n)(hn:n≤40000)(hle:∀i,i<p→tp i≤X):304*2 ^ p≤4000000:=by
 rcases p with _|p
 ·omega
 ·have h1:=hle p (by omega)
  have h2:=bG (aB X).1 hX
  rw[aA] at h2
  have h3:8 ^ (304*2 ^ p)≤tp p:=Nat.pow_le_pow_left (by omega) _
  have h4: (2:Nat) ^ (3*(304*2 ^ p))<2 ^ (64*n):=by
   rw[Nat.pow_mul 2 3,Nat.pow_mul 2 64]
   exact Nat.lt_of_le_of_lt (Nat.le_trans h3 h1) h2
  have h5:=(Nat.pow_lt_pow_iff_right (by omega:1<2)).1 h4
  rw[Nat.pow_succ]
  omega
theorem Qy {n p:Nat}(hn:n=304*2 ^ p)(hb:n≤4000000):wrap64 (304*2 ^ min p 64)=(n:Int):=by
 have h1:p<2 ^ p:=Nat.lt_two_pow_self
 have h2:p<64:=by
  rcases Nat.lt_or_ge p 64 with h|h
  ·exact h
  ·have h3:2 ^ 64≤2 ^ p:=Nat.pow_le_pow_right (by omega) h
   omega
 have h4: (304*2 ^ min p 64:Int)=(n:Int):=by
  rw[Nat.min_eq_left (by omega),hn]
  simp
 rw[h4]
 unfold wrap64
 omega
theorem Ng (b o:Nat)(sv:Value)(l:List Nat)(w:World)(h:w.cell? ⟨b,o,none⟩=some sv)(hr:Rd w sv l):
  Calls Tryz.prog 168 #[.pointer (some ⟨b,o,none⟩)] w fun e w'=>e= .returned sv∧w=w':=by
 obtain⟨ao,cap,rfl,-⟩:=hr
 go_enter Tryz.func168,Tryz.ntmps168
 go_wp2
 go_ret
 exact⟨rfl,rfl⟩
theorem Uo {g n:Nat}{l:List UInt8}{w:World}(h:RowB w g l)(hn:l.length=n):
  (convert 130 9 (.slice (some ⟨g,0,none⟩) n n)).run Tryz.prog w= .ok (.string (str l)) w:=by
 subst hn
 have h:=run_convert_bytes_back (P:=Tryz.prog) w 130 9 5 ⟨g,0,none⟩ l.length l Tryz.underlying130 Tryz.underlying5 Tryz.underlying9 (fun j hj=>by
  have h2: (⟨g,0,none⟩:Addr).add j=⟨g,j,none⟩:=by unfold Addr.add;split<;>simp_all
  rw[h2,h.cell j hj])
 exact h
theorem bP (a:Value)(X:Nat)(w:World)(ha:IsN w a X)(hx: (digs X).length≤40000):
  Calls Tryz.prog 135 #[a] w fun e w'=>e= .returned (.string (str (Lib.decDigits X)))∧Below w.heap.size w w':=by
 have Z:=Lib.hid (dY a X w ha)
 by_cases h0:X=0
 ·subst h0
  rw[decide_eq_true rfl] at Z
  clear ha hx
  go_enter Tryz.func135,Tryz.ntmps135
  go_wp2_with (go_at_call 164;refine(Z.out).mono ?_;rintro e w1 ⟨rfl,rfl⟩;clear Z)
  go_ret
  exact⟨by rw[Lib.decDigits_one (by omega)];rfl,Below.refl _ _⟩
 ·rw[decide_eq_false h0] at Z
  rcases ha with ⟨-,rfl⟩|⟨b,o,sx,rfl,h2,h3⟩
  ·exact absurd rfl h0
  have L1:=Lib.hid (Ng b o sx _ w h2 h3)
  have L2:=Lib.hid (fun w' (hb:Below w.heap.size w w')=>Ng b o sx _ w' ((hb.cell (p:=⟨b,o,none⟩) (aO h2)).trans h2) (h3.below hb))
  have HX:=Lib.hid hx
  have HS:=Lib.hid h3
  obtain⟨so,scap,rfl,-⟩:=id h3
  have HT:=Lib.hid (zR (.slice so (digs X).length scap) (digs X) w h3 (aB X) (by omega))
  rw[aA] at HT
  obtain⟨N,hN⟩:∃N,(digs X).length=N:=⟨_,rfl⟩
  rw[hN] at L1 L2 HT HS
  clear hx h3 h2 hN
  have h0':0<X:=by omega
  clear h0
  go_enter Tryz.func135,Tryz.ntmps135
  go_wp2_with (first
   |(go_at_call 164;with_reducible refine(Z.out).mono ?_;rintro e w1 ⟨rfl,rfl⟩;clear Z)
   |(go_at_call 168;with_reducible refine(L1.out).mono ?_;rintro e w1 ⟨rfl,rfl⟩;clear L1)
   |(go_at_call 171;with_reducible refine(HT.out).mono ?_;intro e w2 hh;unfold Mh at hh;obtain⟨pv,p,rfl,ht,hlt,hle,hb2⟩:=hh
     have HFew:=Lib.hid (Wy HX.out (Nat.le_refl _) hle)
     obtain⟨pao,pcap,rfl⟩:=ht.len
     obtain⟨n,hn⟩:∃n,n=304*2 ^ p:=⟨_,rfl⟩
     have hnb:n≤4000000:=by rw[hn];exact HFew.out
     have hsh:wrap64 (304*2 ^ min p 64)=(n:Int):=Qy hn hnb
     obtain⟨W1,hmk,hrow,hbm⟩:=Ke w2 n (by omega)
     have hbw:Below w.heap.size w W1:=hb2.trans (hbm.mono hb2.size)
     have HB:=Lib.hid hbw
     have hsz:=hb2.size
     have HL2:=Lib.hid (L2.out W1 hbw)
     have HW:=Lib.hid (Bb p w2.heap.size 0 n n (List.replicate n 0) _ _ X W1 hrow (by simp) (Nat.le_refl _) (by omega) hn (HS.out.below hbw) (HS.out.apart hb2.size) (by have:=HX.out;omega) (ht.pows hbm (Nat.le_refl _) (by have:=HX.out;omega) hle))
     rw[show(List.replicate n (0:UInt8)).take 0++(pad n X++(List.replicate n (0:UInt8)).drop (0+n))=pad n X by simp] at HW
     have HTr:=Lib.hid (fun w'=>Bt n X w' (by rw[hn];exact hlt) h0' (by omega))
     clear hn hrow hbm hbw ht hlt hle hb2 L2 HT HFew)
   |(go_at_call 168;with_reducible refine(HL2.out).mono ?_;rintro e w3 ⟨rfl,rfl⟩;clear HL2)
   |(go_at_call 172;with_reducible refine(HW.out).mono ?_;rintro e w4 ⟨rfl,hr4,hg4⟩
     have hcv:=Uo hr4 (aY _ _)
     have HG4:=Lib.hid hg4
     clear HW hr4 hg4)
   |(go_at_call 173;with_reducible refine(HTr.out _).mono ?_;rintro e w5 ⟨rfl,rfl⟩;clear HTr))
  go_ret
  refine⟨rfl,?_⟩
  exact below_grown HB.out HG4.out HB.out.size hsz
end Go.Proofs.YtlhmfgbaefaneaaGreatDoor.nat
namespace Go.Proofs.YtlhmfgbaefaneaaGreatDoor.num
open Go.RowKit Go.Proofs.YtlhmfgbaefaneaaGreatDoor.nat
open Go.Proofs.YtlhmfgbaefaneaaGreatDoor.ref (str aD mO aJ ch seg bU bA seg_lt eH nJ)
theorem Nw (t:List UInt8)(w:World)(hl:t.length≤4611686018427387904):
  Calls Tryz.prog 189 #[.string (str (45::t)),.string ⟨#[45]⟩] w fun e w'=>e= .returned (.tuple #[.string (str t),.bool true])∧w=w':=by
 have hz: (str (45::t)).size=t.length+1:=rfl
 have hx: (str (45::t)).extract 0 1=⟨#[45]⟩:=by apply ByteArray.ext;simp[str]
 have ht: (str (45::t)).extract 1 (t.length+1)=str t:=mO 45 t
 have kz: (⟨#[45]⟩:ByteArray).size=1:=rfl
 generalize (⟨#[45]⟩:ByteArray)=k at *
 generalize str (45::t)=s at *
 have HT:=Lib.hid ht
 clear ht
 go_enter Tryz.func189,Tryz.ntmps189
 go_wp2
 go_ret2
 refine⟨?_,rfl⟩
 rw[←HT.out]
 rfl
theorem Sc (l:List UInt8)(w:World)(hl:l.length≤4611686018427387904)(h:∀t,l≠45::t):
  Calls Tryz.prog 189 #[.string (str l),.string ⟨#[45]⟩] w fun e w'=>e= .returned (.tuple #[.string (str l),.bool false])∧w=w':=by
 rcases l with _|⟨c,t⟩
 ·have hz: (str []).size=0:=rfl
  have kz: (⟨#[45]⟩:ByteArray).size=1:=rfl
  generalize (⟨#[45]⟩:ByteArray)=k at *
  generalize str []=s at *
  go_enter Tryz.func189,Tryz.ntmps189
  go_wp2
  go_ret2
  exact⟨rfl,rfl⟩
 ·have hc:c≠45:=fun e=>h t (by rw[e])
  have hz: (str (c::t)).size=t.length+1:=rfl
  have hx: (str (c::t)).extract 0 1=str [c]:=by apply ByteArray.ext;simp[str]
  have hk: ((str [c]).toList==(⟨#[45]⟩:ByteArray).toList)=false:=by
   rw[ByteArray.toList_eq,ByteArray.toList_eq]
   simp[str,hc]
  have kz: (⟨#[45]⟩:ByteArray).size=1:=rfl
  generalize (⟨#[45]⟩:ByteArray)=k at *
  generalize str [c]=p at *
  generalize str (c::t)=s at *
  clear h
  go_enter Tryz.func189,Tryz.ntmps189
  go_wp2
  go_ret2
  exact⟨rfl,rfl⟩
theorem kV:∀(n x:Nat),x<10 ^ (n+1)→Lib.nDigits x≤n+1
 |0,x,h=>by rw[Lib.nDigits_small (by simpa using h)];exact Nat.le_refl _
 |n+1,x,h=>by
  by_cases h1:x<10
  ·rw[Lib.nDigits_small h1];omega
  ·rw[Lib.nDigits_big (by omega)]
   have:=kV n (x/10) (by rw[Nat.pow_succ] at h;omega)
   omega
theorem eB {x m:Nat}(h: (digs x).length≤m): (str (Lib.decDigits x)).size≤20*m+1:=by
 rw[aD,Lib.decDigits_length]
 have h1:=bG (aB x).1 h
 rw[aA] at h1
 have h2:x<10 ^ (20*m+1):=by
  refine Nat.lt_of_lt_of_le h1 ?_
  rw[Nat.pow_add,Nat.pow_mul]
  refine Nat.le_trans (Nat.pow_le_pow_left (show 18446744073709551616≤10 ^ 20 by decide) m) (Nat.le_mul_of_pos_right _ (by decide))
 exact kV _ _ (Nat.lt_of_lt_of_le h2 (Nat.pow_le_pow_right (by omega) (by omega)))
theorem bP (a:Value)(z:Int)(w:World)(ha:IsZ w a z)(hx: (digs z.natAbs).length≤40000):
  Calls Tryz.prog 105 #[a] w fun e w'=>e= .returned (.string (str (Lib.itoa z)))∧Below w.heap.size w w':=by
 have B:=bJ a z w ha
 have A:=Lib.hid (bO a z w ha)
 have T:=Lib.hid (fun na hn=>nat.bP na z.natAbs w hn hx)
 have hlen:=eB hx
 by_cases h:z<0
 ·have hz2:str (Lib.itoa z)=str [45]++str (Lib.decDigits z.natAbs):=by
   unfold Lib.itoa
   rw[if_pos h,aJ]
   rfl
  rw[decide_eq_true h] at B
  rw[hz2]
  have HB:=Lib.hid B
  generalize str (Lib.decDigits z.natAbs)=s at *
  have h45: ({data:=#[45]} :ByteArray)=str [45]:=rfl
  have hsz:¬9223372036854775807<({data:=#[45]} :ByteArray).size+s.size:=by
   have: ({data:=#[45]} :ByteArray).size=1:=rfl
   omega
  clear ha B hz2 h hx hlen
  go_enter Tryz.func105,Tryz.ntmps105
  go_wp2_with (first
   |(go_at_call 129;(with_reducible refine(HB.out).mono ?_);rintro e w1 ⟨rfl,rfl⟩)
   |(go_at_call 130;(with_reducible refine(A.out).mono ?_);rintro e w1 ⟨na,rfl,hn,rfl⟩;have HN:=Lib.hid hn;clear A hn)
   |(go_at_call 135;(with_reducible refine(T.out _ HN.out).mono ?_);rintro e w1 ⟨rfl,hb⟩;have HBl:=Lib.hid hb;clear T hb))
  go_ret
  exact⟨rfl,HBl.out⟩
 ·have hz2:str (Lib.itoa z)=str (Lib.decDigits z.natAbs):=by
   unfold Lib.itoa
   rw[if_neg h]
   congr 2
   omega
  rw[decide_eq_false h] at B
  rw[hz2]
  have HB:=Lib.hid B
  generalize str (Lib.decDigits z.natAbs)=s at *
  clear ha B hz2 h hx hlen
  go_enter Tryz.func105,Tryz.ntmps105
  go_wp2_with (first
   |(go_at_call 129;(with_reducible refine(HB.out).mono ?_);rintro e w1 ⟨rfl,rfl⟩)
   |(go_at_call 130;(with_reducible refine(A.out).mono ?_);rintro e w1 ⟨na,rfl,hn,rfl⟩;have HN:=Lib.hid hn;clear A hn)
   |(go_at_call 135;(with_reducible refine(T.out _ HN.out).mono ?_);rintro e w1 ⟨rfl,hb⟩;have HBl:=Lib.hid hb;clear T hb))
  go_ret
  exact⟨rfl,HBl.out⟩
end Go.Proofs.YtlhmfgbaefaneaaGreatDoor.num
namespace Go.Proofs.YtlhmfgbaefaneaaGreatDoor.nat
open Go.RowKit
theorem wD (a b:Value)(X Y:Nat)(w:World)(ha:IsN w a X)(hb:IsN w b Y)(hx: (digs X).length≤1000000)(hy: (digs Y).length≤1000000):
  Calls Tryz.prog 133 #[a,b] w fun e w'=>e= .returned (.int .i64 (cmp3 (X:Int) (Y:Int)))∧Below w.heap.size w w':=
 (gT a b X Y w ha hb hx hy).mono fun e w' h=>by
   obtain⟨rfl,m,rfl⟩:=h
   exact⟨rfl,aK _ _⟩
theorem aM {w w1 w2:World}(h:Below w.heap.size w w1)(k:Below w1.heap.size w1 w2):Below w.heap.size w w2:=h.trans (k.mono h.size)
theorem lJ (z:Int)(d:Nat)(hz:z=d)(h:d<18446744073709551616)(w:World):
  Calls Tryz.prog 134 #[.int .u64 z] w fun e w'=>∃v,e= .returned v∧(IsN w' v d∧v≠ .pointer none)∧Below w.heap.size w w':=by
 subst hz
 exact gD d w h
theorem IsN.some {w:World}{v:Value}{X:Nat}(h:IsN w v X)(hn:v≠ .pointer none):∃p,v= .pointer (some p):=by
 rcases h with ⟨h,-⟩|⟨b,o,sv,h,-⟩
 ·exact absurd h hn
 ·exact⟨_,h⟩
end Go.Proofs.YtlhmfgbaefaneaaGreatDoor.nat
namespace Go.Proofs.YtlhmfgbaefaneaaGreatDoor.num
open Go.RowKit Go.Proofs.YtlhmfgbaefaneaaGreatDoor.nat
theorem wD (a b:Value)(z y:Int)(w:World)(ha:IsZ w a z)(hb:IsZ w b y)(hx: (digs z.natAbs).length≤800000)(hy: (digs y.natAbs).length≤800000):
  Calls Tryz.prog 102 #[a,b] w fun e w'=>e= .returned (.int .i64 (cmp3 z y))∧Below w.heap.size w w':=
 (gT a b z y w ha hb hx hy).mono fun e w' h=>by
   obtain⟨rfl,m,rfl⟩:=h
   exact⟨rfl,aK _ _⟩
theorem IsZ.some {w:World}{v:Value}{z:Int}(h:IsZ w v z)(hn:v≠ .pointer none):∃p,v= .pointer (some p):=by
 rcases h with ⟨h,-⟩|⟨b,o,neg,sv,X,h,-⟩
 ·exact absurd h hn
 ·exact⟨_,h⟩
def Ln (x n:Nat):Prop:=(digs x).length≤n
def Lz (z:Int)(n:Nat):Prop:=(digs z.natAbs).length≤n
theorem Ln.le {x n m:Nat}(h:Ln x n)(hm:n≤m):Ln x m:=Nat.le_trans h hm
theorem Lz.le {x:Int}{n m:Nat}(h:Lz x n)(hm:n≤m):Lz x m:=Nat.le_trans h hm
theorem jL {x y n:Nat}(hxy:x≤y)(h:Ln y n):Ln x n:=aR hxy h
theorem CG {x n:Nat}(h:x<18446744073709551616 ^ n):Ln x n:=bK h
theorem dW {x:Nat}(h:x<18446744073709551616):Ln x 1:=bK (by rwa [Nat.pow_one])
theorem fF {z:Int}(h:z.natAbs<18446744073709551616):Lz z 1:=dW h
theorem Tc {z:Int}{n:Nat}(h:Lz z n):Lz (-z) n:=by unfold Lz;rw[Int.natAbs_neg];exact h
theorem Ir {x n:Nat}(h:Ln x n):Lz (x:Int) n:=by unfold Lz;rw[Int.natAbs_natCast];exact h
theorem tH {z:Int}{n:Nat}(h:Lz z n):Ln z.natAbs n:=h
theorem nS {x y n m:Nat}(hx:Ln x n)(hy:Ln y m):Ln (x*y) (n+m):=iW hx hy
theorem Ta {x y:Int}{n m:Nat}(hx:Lz x n)(hy:Lz y m):Lz (x*y) (n+m):=by unfold Lz;rw[Int.natAbs_mul];exact iW hx hy
theorem Iq {x y n m:Nat}(hx:Ln x n)(hy:Ln y m):Ln (x+y) (n+m+1):=kF (Nat.le_trans hx (by omega)) (Nat.le_trans hy (by omega))
theorem Sz {x y:Int}{n m:Nat}(hx:Lz x n)(hy:Lz y m):Lz (x+y) (n+m+1):=jL (Int.natAbs_add_le x y) (Iq hx hy)
theorem CK {x y:Int}{n m:Nat}(hx:Lz x n)(hy:Lz y m):Lz (x - y) (n+m+1):=by rw[Int.sub_eq_add_neg];exact Sz hx (Tc hy)
theorem Sy {x y n m:Nat}(hx:Ln x n)(hy:Ln y m):Ln (Nat.gcd x y) (n+m):=rJ (Nat.le_trans hx (by omega)) (Nat.le_trans hy (by omega))
theorem yK (b:Bool)(X:Nat): (sgn b X).natAbs=X:=by
 unfold sgn
 split
 ·rw[Int.natAbs_neg,Int.natAbs_natCast]
 ·rw[Int.natAbs_natCast]
theorem Zm (z y:Int): (Int.fdiv z y).natAbs≤z.natAbs:=by
 by_cases hy:y=0
 ·subst hy;simp
 by_cases hc:decide (z<0)=decide (y<0)∨z.natAbs%y.natAbs=0
 ·rw[(qN hy hc).1]
  rw[yK]
  exact Nat.div_le_self _ _
 ·rw[not_or] at hc
  rw[(qO hy hc.1 hc.2).1]
  rw[yK]
  have h2:2≤y.natAbs:=by
   rcases Nat.lt_or_ge y.natAbs 2 with h|h
   ·exfalso
    have h1:y.natAbs=1:=by omega
    rw[h1] at hc
    omega
   ·exact h
  have h1:0<z.natAbs:=by
   rcases Nat.eq_zero_or_pos z.natAbs with h|h
   ·rw[h] at hc;simp at hc
   ·exact h
  have h3:z.natAbs/y.natAbs≤z.natAbs/2:=Nat.div_le_div_left h2 (by omega)
  omega
theorem Lv {z y:Int}{n:Nat}(h:Lz z n):Lz (Int.fdiv z y) n:=jL (Zm z y) h
end Go.Proofs.YtlhmfgbaefaneaaGreatDoor.num
namespace Go.Proofs.YtlhmfgbaefaneaaGreatDoor.rat
theorem xX {q:Rat}{z:Int}{e:Nat}(he:0<e)(hc:Nat.gcd z.natAbs e=1)(h:q=(z:Rat)/(e:Rat)):q.num=z∧q.den=e:=by
 rw[h,←Rat.mkRat_eq_div,←Rat.mk_eq_mkRat z e (by omega) hc]
 exact⟨rfl,rfl⟩
theorem Xg (q:Rat):q=(q.num:Rat)/(q.den:Rat):=by rw[←Rat.mkRat_eq_div,Rat.mkRat_self]
theorem Mq {e:Nat}(h:0<e): (e:Rat)≠0:=by
 intro h0
 have:=Rat.natCast_pos.2 h
 rw[h0] at this
 exact Rat.lt_irrefl this
theorem rG {e:Int}(h:e≠0): (e:Rat)≠0:=fun h0=>h (Rat.intCast_inj.1 h0)
theorem xD {z g:Int}(hg:g≠0)(h:g∣z): ((Int.fdiv z g:Int):Rat)=(z:Rat)/(g:Rat):=by
 obtain⟨k,rfl⟩:=h
 rw[Int.mul_fdiv_cancel_left _ hg,Rat.intCast_mul,Rat.mul_comm,Rat.mul_div_cancel (rG hg)]
theorem Fs {z g:Int}(hg:g≠0)(h:g∣z): (Int.fdiv z g).natAbs=z.natAbs/g.natAbs:=by
 obtain⟨k,rfl⟩:=h
 rw[Int.mul_fdiv_cancel_left _ hg,Int.natAbs_mul,Nat.mul_div_cancel_left _ (by omega)]
theorem qH (z y:Int): ((Nat.gcd z.natAbs y.natAbs:Nat):Int)∣z:=by rw[←Int.dvd_natAbs,Int.ofNat_dvd];exact Nat.gcd_dvd_left _ _
theorem lM (z y:Int): ((Nat.gcd z.natAbs y.natAbs:Nat):Int)∣y:=by rw[←Int.dvd_natAbs,Int.ofNat_dvd];exact Nat.gcd_dvd_right _ _
def upN (z y:Int):Int:=if y<0 then -z else z
theorem Dm {z y:Int}(hy:y≠0)(hc:Nat.gcd z.natAbs y.natAbs=1): ((z:Rat)/(y:Rat)).num=upN z y∧((z:Rat)/(y:Rat)).den=y.natAbs:=by
 refine xX (by omega) ?_ ?_
 ·unfold upN
  split
  ·rw[Int.natAbs_neg];exact hc
  ·exact hc
 ·have h0:=rG hy
  unfold upN
  split
  ·rename_i h
   have e: (y.natAbs:Int)= -y:=by omega
   have e2: ((y.natAbs:Nat):Rat)= -(y:Rat):=by
    rw[←Rat.intCast_natCast,e,Rat.intCast_neg]
   rw[e2,Rat.intCast_neg]
   grind
  ·have e: (y.natAbs:Int)=y:=by omega
   have e2: ((y.natAbs:Nat):Rat)=(y:Rat):=by
    rw[←Rat.intCast_natCast,e]
   rw[e2]
end Go.Proofs.YtlhmfgbaefaneaaGreatDoor.rat
