/-
  The steps of the walks, part 15: ShiftD, Long, LongW.
-/
import Derived.Test.YtlhmfgbaefaneaaGreatDoorM14
set_option maxHeartbeats 4000000
set_option maxRecDepth 100000
namespace Go.Proofs.YtlhmfgbaefaneaaGreatDoor.nat
open Go.RowKit
def zZ (w:World)(B:Nat)(D:List Nat)(g T i:Nat)(wr:World):Prop:=
 ∃Z,Z.length=D.length∧Dig Z∧Row wr g Z∧Below B w wr∧Z.drop i=D.drop i∧val (Z.take i)*2 ^ T+dg D 0%2 ^ T=val (D.take i)+18446744073709551616 ^ i*(dg D i%2 ^ T)
theorem AO {d e T:Nat}(hT:T≤63): (d/2 ^ T+e*2 ^ (64 - T)%18446744073709551616)*2 ^ T+d%2 ^ T=d+18446744073709551616*(e%2 ^ T):=by
 have h1:=vV (x:=e) (T:=64 - T) (by omega)
 rw[show 64 - (64 - T)=T by omega] at h1
 have e0: (18446744073709551616:Nat)=2 ^ (64 - T)*2 ^ T:=by rw[←Nat.pow_add,show 64 - T+T=64 by omega]
 have h2:=Nat.div_add_mod d (2 ^ T)
 rw[Nat.mul_comm] at h2
 rw[h1,Nat.add_mul,Nat.mul_assoc,←e0,Nat.mul_comm (e%2 ^ T)]
 omega
theorem zZ.next {w wr2:World}{B g T i p:Nat}{D Z:List Nat}(hl:Z.length=D.length)(hd:Dig Z)(hdr:Z.drop i=D.drop i)(hv:val (Z.take i)*2 ^ T+dg D 0%2 ^ T=val (D.take i)+18446744073709551616 ^ i*(dg D i%2 ^ T))
  (hT:T≤63) (hi:i<D.length) (hp:p=dg D i/2 ^ T+dg D (i+1)*2 ^ (64 - T)%18446744073709551616) (hpb:p<18446744073709551616) (hr2:Row wr2 g (Z.set i p)) (hb2:Below B w wr2):zZ w B D g T (i+1) wr2:=by
 refine⟨Z.set i p,by simpa using hl,hd.set hpb,hr2,hb2,?_,?_⟩
 ·rw[List.drop_set_of_lt (by omega)]
  have:=congrArg (List.drop 1) hdr
  simpa[List.drop_drop,Nat.add_comm] using this
 ·have e1: (Z.set i p).take (i+1)=Z.take i++[p]:=by
   rw[qC _ i (by rw[List.length_set];omega),gH (by omega),List.take_set,List.set_eq_of_length_le (by rw[List.length_take];omega)]
  have hlt: (Z.take i).length=i:=by rw[List.length_take];omega
  rw[e1,iD,hlt,aQ,Nat.pow_succ]
  have h1:=AO (d:=dg D i) (e:=dg D (i+1)) hT
  rw[←hp] at h1
  have h2:18446744073709551616 ^ i*p*2 ^ T+18446744073709551616 ^ i*(dg D i%2 ^ T)=18446744073709551616 ^ i*dg D i+18446744073709551616 ^ i*18446744073709551616*(dg D (i+1)%2 ^ T):=by
   rw[Nat.mul_assoc,←Nat.mul_add,h1,Nat.mul_add,Nat.mul_assoc]
  rw[Nat.add_mul]
  generalize 18446744073709551616 ^ i*p*2 ^ T=a1 at *
  generalize 18446744073709551616 ^ i*(dg D i%2 ^ T)=a2 at *
  generalize 18446744073709551616 ^ i*dg D i=a3 at *
  generalize 18446744073709551616 ^ i*18446744073709551616*(dg D (i+1)%2 ^ T)=a4 at *
  generalize val (Z.take i)*2 ^ T=a5 at *
  generalize dg D 0%2 ^ T=a6 at *
  omega
theorem qJ (sx:Value)(x:List Nat)(c:Nat)(w:World)(hx:Rd w sx x)(hdx:Dig x)(hn:x.length≤1000000)(hc:c≤64000000):
  Calls Tryz.prog 240 #[sx,.int .i64 (c:Int)] w fun e w'=>∃sv,e= .returned sv∧Own w' w.heap.size sv (digs (val x/2 ^ c))∧Below w.heap.size w w':=by
 obtain⟨ao,xcap,rfl,⟨h1,-⟩,h2,-⟩:=id hx
 obtain⟨N,hN⟩:∃N,x.length=N:=⟨_,rfl⟩
 have HN:=Lib.hid hN
 obtain⟨S,hS⟩:∃S,S=c/64:=⟨_,rfl⟩
 obtain⟨T,hT⟩:∃T,T=c%64:=⟨_,rfl⟩
 have s1: (c:Int)/64=(S:Int):=by omega
 have s2: (c:Int)%64=(T:Int):=by omega
 have hTb:T≤63:=by omega
 have hSb:S≤1000000:=by omega
 have hce:2 ^ c=18446744073709551616 ^ S*2 ^ T:=by
  rw[show c=64*S+T by omega,Nat.pow_add,Nat.pow_mul]
 rw[hN] at h1 hn hx ⊢
 by_cases hSN: (N:Int)≤(S:Int)
 ·have hz:val x/2 ^ c=0:=by
   rw[Nat.div_eq_of_lt]
   refine Nat.lt_of_lt_of_le (bG hdx (show x.length≤S by omega)) ?_
   rw[hce]
   exact Nat.le_mul_of_pos_right _ (Nat.pow_pos (by omega))
  rw[hz]
  have HF:=Lib.hid (show Own w w.heap.size (.slice none 0 0) (digs 0) by rw[aX];exact Own.nil _ _)
  clear hx hdx hce hS hT hz
  go_enter Tryz.func240,Tryz.ntmps240
  go_wp2
  go_ret
  exact⟨_,rfl,HF.out,Below.refl _ _⟩
 ·obtain⟨gx,ox,rfl,-⟩:=dN hx (by omega)
  have hD:=hx.part S (N - S) (xcap - S) (by omega) (by omega) (by omega)
  rw[List.take_of_length_le (by rw[List.length_drop];omega)] at hD
  have lD: (x.drop S).length=N - S:=by rw[List.length_drop];omega
  have hval:val x/2 ^ c=val (x.drop S)/2 ^ T:=by
   have h3:=kL x S (by omega)
   have h4:=bG (hdx.take S) (show(x.take S).length≤S by rw[List.length_take];omega)
   rw[hce,←Nat.div_div_eq_div_mul,h3,Nat.add_mul_div_left _ _ (pow_pos S),Nat.div_eq_of_lt h4,Nat.zero_add]
  have CL:=Lib.hid (gP _ (x.drop S) w hD (by omega))
  have HV:=Lib.hid hval
  have HLD:=Lib.hid lD
  have HX:=Lib.hid hx
  have HDD:=Lib.hid (hdx.drop S)
  have hdg:=Lib.hid (show ∀j,dg (x.drop S) j=dg x (S+j) from fun j=>vS x S j)
  obtain⟨D,hDe⟩:∃D,D=x.drop S:=⟨_,rfl⟩
  rw[←hDe] at CL HV HLD HDD hdg
  rw[HV.out]
  have t1: (S:Int)≤(N:Int):=by omega
  have t2:¬(xcap=S):=by omega
  have t3:¬((N:Int)≤(S:Int)):=by omega
  obtain⟨M,hM⟩:∃M,M=N - S:=⟨_,rfl⟩
  rw[←hM] at CL HLD
  obtain⟨R,hR⟩:∃R,R=64 - T:=⟨_,rfl⟩
  have r1: (64:Int) - (T:Int)=(R:Int):=by omega
  have r2:IntKind.i64.wrap (64 - (T:Int))=(R:Int):=by rw[IntKind.wrap_i64];omega
  have HRR:=Lib.hid hR
  have HMM:=Lib.hid hM
  have hM0:0<M:=by omega
  have hMb:M≤1000000:=by omega
  have m1:N - S=M:=by omega
  clear hx hdx hce hS hT hD lD hval hDe hN hR hM
  go_enter Tryz.func240,Tryz.ntmps240
  go_wp2_with (go_at_call 195;refine(CL.out).mono ?_;rintro e w1 ⟨svz,rfl,hO,hb1⟩
               obtain⟨ao2,zcap,rfl,⟨z1,-⟩,z2,z3⟩:=hO
               obtain⟨g,rfl,hBg,hrow⟩:=z3.resolve_left (by rintro rfl;have:=HLD.out;simp at this;omega)
               rw[HLD.out] at z1
               rw[HLD.out]
               have HS:=Lib.hid (show zZ w w.heap.size D g T 0 w1 from⟨D,rfl,HDD.out,hrow,hb1,rfl,by simp[val]⟩)
               clear CL hrow hb1 z3)
  go_loopw [23] (fun iv wr=>∃i:Nat,i≤M∧iv= .int .i64 i∧zZ w w.heap.size D g T i wr) (fun iv _=>M - (intOf iv).toNat)
  case atStart=>exact⟨0,Nat.zero_le _,rfl,HS.out⟩
  case round=>
   obtain⟨i,hi,rfl,hrel⟩:=hrel
   obtain⟨Z,hl,hd,hrow,hb,hdr,hv⟩:=hrel
   clear HS
   rw[HLD.out] at hl
   by_cases hlt:i<M
   ·have c1:=hrow.cell i (by omega)
    have f1:=hrow.free i
    have hz0:dg Z i=dg D i:=by
     have:=congrArg (fun l=>dg l 0) hdr
     simpa[vS] using this
    rw[hz0] at c1
    have hdb:=bS HDD.out i
    obtain⟨a,ha⟩:∃a,a=dg D i/2 ^ T:=⟨_,rfl⟩
    have g2: ((dg D i:Nat):Int)/2 ^ T=(a:Int):=by rw[iJ,←ha]
    have HB:=Lib.hid hb
    have HA:=Lib.hid ha
    have hrow1:=hrow.set i (by omega) (u:=(a:Int)) (d:=a) rfl
    have hb1':=hb.setCell (p:=⟨g,i,none⟩) hBg (.int .u64 (a:Int))
    by_cases hin: (i:Int)+1<(M:Int)
    ·obtain⟨m,hm⟩:∃m,m=dg D (i+1)*2 ^ R%18446744073709551616:=⟨_,rfl⟩
     have hmb:m<18446744073709551616:=by rw[hm];exact Nat.mod_lt _ (by omega)
     have hm2:m=dg D (i+1)%2 ^ (64 - R)*2 ^ R:=by rw[hm,vV (by have:=HRR.out;omega)]
     have ha2:a<2 ^ R:=by
      rw[ha,Nat.div_lt_iff_lt_mul (Nat.pow_pos (by omega)),←Nat.pow_add,show R+T=64 by have:=HRR.out;omega]
      exact hdb
     have hor:=Df ha2 hm2
     have hab:a<18446744073709551616:=Nat.lt_of_le_of_lt (by rw[ha];exact Nat.div_le_self _ _) hdb
     have hsum:a+m<18446744073709551616:=by
      rw[←hor]
      exact Nat.or_lt_two_pow (n:=64) hab hmb
     obtain⟨sm,hsm⟩:∃sm,sm=a+m:=⟨_,rfl⟩
     have HNX:=Lib.hid (fun wr2 hr2 hb2=>zZ.next (B:=w.heap.size) (w:=w) (wr2:=wr2) (g:=g) (p:=sm) (by rw[hl,HLD.out]) hd hdr hv hTb (by rw[HLD.out];exact hlt) (by rw[hsm,ha,hm,HRR.out]) (by omega) hr2 hb2)
     have g3:IntKind.u64.wrap ((dg D (i+1):Nat)*2 ^ R)=(m:Int):=by rw[nP,hm]
     have g4:bits .or .u64 (a:Int) (m:Int)=(sm:Int):=by rw[bits_or_u64_nat _ _ hab hmb,hor,hsm]
     obtain⟨p1,hp1⟩:∃p,p=S+i:=⟨_,rfl⟩
     have g5:IntKind.i64.wrap ((S:Int)+(i:Int))=(p1:Int):=by rw[IntKind.wrap_i64];omega
     have g6:IntKind.i64.wrap ((p1:Int)+1)=((p1+1:Nat):Int):=by rw[IntKind.wrap_i64];omega
     have c3:=((HX.out.below hb).below (Below.refl _ _)).cellAt (p1+1) (by have:=HMM.out;omega)
     rw[show dg x (p1+1)=dg D (i+1) by rw[hdg.out];congr 1;omega] at c3
     have c4: (wr.setCell ⟨g,i,none⟩ (.int .u64 (a:Int))).cell? ⟨gx,ox+(p1+1),none⟩=some (.int .u64 (dg D (i+1):Nat)):=by
      have hne:gx≠g:=by
       have:=(HX.out.apart hBg) _ _ _ rfl (by omega)
       exact this
      exact(bZ wr g i _).cell c3 (by simpa using hne)
     have c5:=hrow1.cell i (by rw[List.length_set];omega)
     rw[gH (by omega)] at c5
     have f5:=hrow1.free i
     have hp2: (p1:Int)+1<(N:Int):=by have:=HMM.out;omega
     have HLZ:=Lib.hid hl
     have HR1:=Lib.hid hrow1
     have HB1':=Lib.hid hb1'
     generalize dg D (i+1)=ee at *
     generalize dg D i=d at *
     clear hl hd hrow hb hdr hv ha hm hm2 hor hsm hrow1 hb1' hz0 hp1 c3
     go_wp2
     go_region
     go_wp2
     go_roundw
     case rel=>
      refine⟨i+1,by omega,by go_num,HNX.out _ ?_ (((HB1'.out).drew).setCell hBg _)⟩
      have:=(HR1.out.drew 1).set i (by rw[List.length_set,HLZ.out];omega) (u:=(sm:Int)) (d:=sm) rfl
      rw[List.set_set] at this
      exact this
     case measure=>simp[intOf];omega
    ·have hab:a<18446744073709551616:=Nat.lt_of_le_of_lt (by rw[ha];exact Nat.div_le_self _ _) hdb
     have he0:dg D (i+1)=0:=iV (by rw[HLD.out];omega)
     have HNX:=Lib.hid (zZ.next (B:=w.heap.size) (w:=w) (g:=g) (p:=a) (by rw[hl,HLD.out]) hd hdr hv hTb (by rw[HLD.out];exact hlt) (by rw[ha,he0];simp) hab hrow1 hb1')
     generalize dg D i=d at *
     clear hl hd hrow hb hdr hv ha hrow1 hb1' hz0 he0
     go_wp2
     go_roundw
     case rel=>exact⟨i+1,by omega,by go_num,HNX.out⟩
     case measure=>simp[intOf];omega
   ·have:i=M:=by omega
    subst this
    have hv2:val Z=val D/2 ^ T:=by
     rw[List.take_of_length_le (by omega),List.take_of_length_le (by rw[HLD.out];omega),iV (l:=D) (k:=i) (by rw[HLD.out];omega),Nat.zero_mod,Nat.mul_zero,Nat.add_zero] at hv
     rw[←hv,Nat.mul_comm,Nat.mul_add_div (Nat.pow_pos (by omega)),Nat.div_eq_of_lt (Nat.mod_lt _ (Nat.pow_pos (by omega))),Nat.add_zero]
    have hO:Own wr w.heap.size (.slice (some ⟨g,0,none⟩) i zcap) Z:=by
     have:=Own.gK (cap:=zcap) hrow hBg (by omega) z2
     rwa [hl] at this
    have HT:=Lib.hid (dG _ Z wr hO (by omega) hd)
    rw[hv2] at HT
    have HB:=Lib.hid hb
    clear hl hd hrow hb hv hv2 hO hdr
    go_wp2_with (go_at_call 209;refine(HT.out).mono ?_;rintro e w3 ⟨sv,rfl,hO3,rfl⟩;have HO3:=Lib.hid hO3;clear hO3)
    go_ret
    exact⟨sv,rfl,HO3.out,HB.out⟩
end Go.Proofs.YtlhmfgbaefaneaaGreatDoor.nat
namespace Go.Proofs.YtlhmfgbaefaneaaGreatDoor.nat
open Go.RowKit
def LRel (w2:World)(gL gQ N n X' Y' k:Nat)(wr:World):Prop:=
 ∃L Q:List Nat,L.length=N+1∧Q.length=N - n+1∧Dig L∧Dig Q∧Row wr gL L∧Row wr gQ Q∧Below w2.heap.size w2 wr∧val Q*Y'+val L=X'∧val L<Y'*18446744073709551616 ^ k∧∀j,j<k→dg Q j=0
theorem Zq {L:List Nat}{N n i Y':Nat}(hl:L.length=N+1)(hi:i+n+1≤N+1)(hY:Y'<18446744073709551616 ^ n)(h:val L<Y'*18446744073709551616 ^ (i+1)):
  val ((L.drop i).take (n+1))<Y'*18446744073709551616∧val L=val (L.take i)+18446744073709551616 ^ i*val ((L.drop i).take (n+1))∧val (L.drop (i+n+1))=0∧L=L.take i++((L.drop i).take (n+1)++L.drop (i+n+1)):=by
 have e:L=L.take i++((L.drop i).take (n+1)++L.drop (i+n+1)):=by
  have h1: (L.drop i).take (n+1)++L.drop (i+n+1)=L.drop i:=by
   rw[show i+n+1=i+(n+1) by omega,←List.drop_drop,List.take_append_drop]
  rw[h1,List.take_append_drop]
 have l1: (L.take i).length=i:=by rw[List.length_take];omega
 have l2: ((L.drop i).take (n+1)).length=n+1:=by rw[List.length_take,List.length_drop];omega
 have v:val L=val (L.take i)+18446744073709551616 ^ i*(val ((L.drop i).take (n+1))+18446744073709551616 ^ (n+1)*val (L.drop (i+n+1))):=by
  have:=congrArg val e
  rwa [val_append,val_append,l1,l2] at this
 have hC:val (L.drop (i+n+1))=0:=by
  rcases Nat.eq_zero_or_pos (val (L.drop (i+n+1))) with h0|h0
  ·exact h0
  ·exfalso
   have h1:18446744073709551616 ^ i*18446744073709551616 ^ (n+1)≤val L:=by
    rw[v,Nat.mul_add,←Nat.mul_assoc]
    have:=Nat.le_mul_of_pos_right (18446744073709551616 ^ i*18446744073709551616 ^ (n+1)) h0
    omega
   have h2:Y'*18446744073709551616 ^ (i+1)≤18446744073709551616 ^ n*18446744073709551616 ^ (i+1):=Nat.mul_le_mul_right _ (Nat.le_of_lt hY)
   rw[←Nat.pow_add] at h1 h2
   rw[show n+(i+1)=i+(n+1) by omega] at h2
   omega
 rw[hC,Nat.mul_zero,Nat.add_zero] at v
 refine⟨?_,v,hC,e⟩
 have h3:18446744073709551616 ^ i*val ((L.drop i).take (n+1))<18446744073709551616 ^ i*(Y'*18446744073709551616):=by
  have:Y'*18446744073709551616 ^ (i+1)=18446744073709551616 ^ i*(Y'*18446744073709551616):=by
   rw[Nat.pow_succ,Nat.mul_left_comm]
  rw[←this]
  omega
 exact Nat.lt_of_mul_lt_mul_left h3
theorem LRel.next {w2 wr w4:World}{gL gQ N n X' Y' i:Nat}{L Q Z':List Nat}(hlL:L.length=N+1)(hlQ:Q.length=N - n+1)(hdL:Dig L)(hdQ:Dig Q)(hrQ:Row wr gQ Q)(hb:Below w2.heap.size w2 wr)(hv:val Q*Y'+val L=X')(hz:∀j,j<i+1→dg Q j=0)
  (hsz:val L=val (L.take i)+18446744073709551616 ^ i*val ((L.drop i).take (n+1))) (hC:val (L.drop (i+n+1))=0) (hi:i+n+1≤N+1) (hY0:0<Y') (hgL:w2.heap.size≤gL) (hgQ:gL<gQ)
  (hl':Z'.length=n+1) (hd':Dig Z') (hv':val Z'=val ((L.drop i).take (n+1))%Y') (hr':Row w4 gL (L.take i++(Z'++L.drop (i+n+1)))) (hg':wr.grownBy w4 (some gL)) (hdb:val ((L.drop i).take (n+1))/Y'<18446744073709551616):
  LRel w2 gL gQ N n X' Y' i (w4.setCell ⟨gQ,i,none⟩ (.int .u64 ((val ((L.drop i).take (n+1))/Y':Nat):Int))):=by
 have l1: (L.take i).length=i:=by rw[List.length_take];omega
 have vL':val (L.take i++(Z'++L.drop (i+n+1)))=val (L.take i)+18446744073709551616 ^ i*(val ((L.drop i).take (n+1))%Y'):=by
  rw[val_append,val_append,l1,hC,Nat.mul_zero,Nat.add_zero,hv']
 have b1:=bG (hdL.take i) (Nat.le_of_eq l1)
 obtain⟨V,hV⟩:∃V,V=val ((L.drop i).take (n+1)):=⟨_,rfl⟩
 rw[←hV] at hsz hv' hdb vL' ⊢
 refine⟨L.take i++(Z'++L.drop (i+n+1)),Q.set i (V/Y'),by rw[List.length_append,List.length_append,l1,hl',List.length_drop];omega,by simpa using hlQ,(hdL.take i).append (hd'.append (hdL.drop _)),hdQ.set hdb,
  hr'.kept (bZ _ _ _ _) (by simp;omega),(hrQ.kept hg' (by simp;omega)).set i (by omega) rfl,?_,?_,?_,?_⟩
 ·exact below_grown (below_grown hb hg' hb.size hgL) (bZ _ _ _ _) (Nat.le_trans hb.size hg'.size) (by omega)
 ·have h1:=gB (l:=Q) (j:=i) (d:=V/Y') (by omega)
  have hz1:=hz i (by omega)
  rw[hz1,Nat.mul_zero,Nat.add_zero] at h1
  rw[h1,vL',Nat.add_mul,←hv,hsz]
  have h2:=Nat.div_add_mod V Y'
  have h3:18446744073709551616 ^ i*(V/Y')*Y'+18446744073709551616 ^ i*(V%Y')=18446744073709551616 ^ i*V:=by
   rw[Nat.mul_assoc,←Nat.mul_add,Nat.mul_comm (V/Y'),h2]
  omega
 ·rw[vL']
  have h2:V%Y'+1≤Y':=Nat.mod_lt _ hY0
  have h3:=Nat.mul_le_mul_left (18446744073709551616 ^ i) h2
  rw[Nat.mul_succ,Nat.mul_comm _ Y'] at h3
  omega
 ·intro j hj
  rw[cO (by omega)]
  exact hz j (by omega)
theorem DJ {X Y q r s:Nat}(hY:0<Y)(h:q*(Y*2 ^ s)+r=X*2 ^ s)(hr:r<Y*2 ^ s):q=X/Y∧r/2 ^ s=X%Y:=by
 have hp:0<2 ^ s:=Nat.pow_pos (by omega)
 have h1:q=X*2 ^ s/(Y*2 ^ s):=by
  rw[←h,Nat.mul_comm q,Nat.mul_add_div (Nat.mul_pos hY hp),Nat.div_eq_of_lt hr,Nat.add_zero]
 have h2:r=X*2 ^ s%(Y*2 ^ s):=by
  rw[←h,Nat.mul_comm q,Nat.mul_add_mod,Nat.mod_eq_of_lt hr]
 rw[Nat.mul_div_mul_right _ _ hp] at h1
 rw[Nat.mul_mod_mul_right] at h2
 exact⟨h1,by rw[h2,Nat.mul_div_cancel _ hp]⟩
theorem Vo {x y:List Nat}{N n s:Nat}(hx:x.length=N)(hy:y.length=n)(hnN:n≤N)(hn:0<n)(hdx:Dig x)(hny:Norm y)(hs:s≤63)(h1:dg y (n - 1)*2 ^ s<18446744073709551616)(h2:9223372036854775808≤dg y (n - 1)*2 ^ s):
  val y*2 ^ s<18446744073709551616 ^ n∧(digs (val y*2 ^ s)).length=n∧val x*2 ^ s<val y*2 ^ s*18446744073709551616 ^ (N - n+1)∧val x*2 ^ s<18446744073709551616 ^ (N+1):=by
 have e1:val y=val (y.take (n - 1))+18446744073709551616 ^ (n - 1)*dg y (n - 1):=by
  rw[←aQ,List.take_of_length_le (by omega)]
 have b1:=bG (hny.1.take (n - 1)) (show(y.take (n - 1)).length≤n - 1 by rw[List.length_take];omega)
 have e2:18446744073709551616 ^ n=18446744073709551616 ^ (n - 1)*18446744073709551616:=by rw[←Nat.pow_succ];congr 1;omega
 have e4: (18446744073709551616:Nat)=2 ^ (64 - s)*2 ^ s:=by rw[←Nat.pow_add,show 64 - s+s=64 by omega]
 have c1:val y*2 ^ s<18446744073709551616 ^ n:=by
  have h3:dg y (n - 1)+1≤2 ^ (64 - s):=by
   have:dg y (n - 1)*2 ^ s<2 ^ (64 - s)*2 ^ s:=by rw[←e4];exact h1
   exact Nat.lt_of_mul_lt_mul_right this
  have h4:val y<18446744073709551616 ^ (n - 1)*(dg y (n - 1)+1):=by rw[e1,Nat.mul_succ];omega
  have h5:18446744073709551616 ^ (n - 1)*(dg y (n - 1)+1)*2 ^ s≤18446744073709551616 ^ (n - 1)*2 ^ (64 - s)*2 ^ s:=Nat.mul_le_mul_right _ (Nat.mul_le_mul_left _ h3)
  have h6:18446744073709551616 ^ (n - 1)*2 ^ (64 - s)*2 ^ s=18446744073709551616 ^ n:=by rw[Nat.mul_assoc,←e4,e2]
  have h7:val y*2 ^ s<18446744073709551616 ^ (n - 1)*(dg y (n - 1)+1)*2 ^ s:=Nat.mul_lt_mul_of_pos_right h4 (Nat.pow_pos (by omega))
  omega
 have c2:18446744073709551616 ^ (n - 1)*9223372036854775808≤val y*2 ^ s:=by
  rw[e1,Nat.add_mul,Nat.mul_assoc]
  have:=Nat.mul_le_mul_left (18446744073709551616 ^ (n - 1)) h2
  omega
 have c3:val x*2 ^ s<18446744073709551616 ^ N*9223372036854775808:=by
  have h3:=bG hdx (Nat.le_of_eq hx)
  have h4:2 ^ s≤9223372036854775808:=by
   have:2 ^ s≤2 ^ 63:=Nat.pow_le_pow_right (by omega) hs
   omega
  have h5:val x*2 ^ s<18446744073709551616 ^ N*2 ^ s:=Nat.mul_lt_mul_of_pos_right h3 (Nat.pow_pos (by omega))
  have h6:=Nat.mul_le_mul_left (18446744073709551616 ^ N) h4
  omega
 refine⟨c1,Nat.le_antisymm (bK c1) ?_,?_,?_⟩
 ·rcases Nat.lt_or_ge (digs (val y*2 ^ s)).length n with h|h
  ·exfalso
   have h3:=bG (aB (val y*2 ^ s)).1 (show _≤n - 1 by omega)
   rw[aA] at h3
   have h4:=Nat.le_mul_of_pos_right (18446744073709551616 ^ (n - 1)) (show 0<9223372036854775808 by omega)
   omega
  ·exact h
 ·refine Nat.lt_of_lt_of_le c3 ?_
  have h3:=Nat.mul_le_mul_right (18446744073709551616 ^ (N - n+1)) c2
  rw[Nat.mul_right_comm,←Nat.pow_add,show n - 1+(N - n+1)=N by omega] at h3
  exact h3
 ·refine Nat.lt_of_lt_of_le c3 ?_
  rw[Nat.pow_succ]
  exact Nat.mul_le_mul_left _ (by omega)
end Go.Proofs.YtlhmfgbaefaneaaGreatDoor.nat
namespace Go.Proofs.YtlhmfgbaefaneaaGreatDoor.nat
open Go.RowKit
theorem xO (sx sy:Value)(x y:List Nat)(w:World)(hx:Rd w sx x)(hy:Rd w sy y)(hdx:Dig x)(hny:Norm y)(hn2:2≤y.length)(hle:y.length≤x.length)(hs:x.length≤900000):
  Calls Tryz.prog 226 #[sx,sy] w fun e w'=>∃sq sr,e= .returned (.tuple #[sq,sr])∧(Own w' w.heap.size sq (digs (val x/val y))∧Own w' w.heap.size sr (digs (val x%val y)))∧Below w.heap.size w w':=by
 obtain⟨ao,xcap,rfl,⟨h1,-⟩,h2,-⟩:=id hx
 obtain⟨bo,ycap,rfl,⟨k1,-⟩,k2,-⟩:=id hy
 obtain⟨N,hN⟩:∃N,x.length=N:=⟨_,rfl⟩
 obtain⟨n,hn⟩:∃n,y.length=n:=⟨_,rfl⟩
 rw[hN] at h1 hs hx hle ⊢
 rw[hn] at k1 hn2 hy hle ⊢
 obtain⟨gy,oy,rfl,-⟩:=dN hy (by omega)
 unfold maxLen at h2 k2
 have htop:=jT hny (by omega)
 rw[hn] at htop
 obtain⟨s,⟨hs63,hs1,hs2⟩,LZ⟩:=tF (dg y (n - 1)) (bS hny.1 _) htop
 obtain⟨q1,q2,q3,q4⟩:=Vo hN hn hle (by omega) hdx hny hs63 hs1 hs2
 have hY0:0<val y:=by
  have:=hny.low (by rintro rfl;simp at hn;omega)
  have:=pow_pos (y.length - 1)
  omega
 have c1:=hy.cellAt (n - 1) (by omega)
 obtain⟨yt,hyt⟩:∃t,t=dg y (n - 1):=⟨_,rfl⟩
 rw[←hyt] at c1 LZ
 have e1: ((n:Int) - 1).toNat=n - 1:=by omega
 have HN:=Lib.hid hN
 have Hn:=Lib.hid hn
 have HX:=Lib.hid hx
 have HY:=Lib.hid hy
 have HDX:=Lib.hid hdx
 have HNY:=Lib.hid hny
 have HQ:=Lib.hid (And.intro q1 (And.intro q2 (And.intro q3 q4)))
 have HLZ:=Lib.hid LZ
 have HY0:=Lib.hid hY0
 have SU:=Lib.hid (lG _ y s w hy hny.1 (by omega) (by omega))
 obtain⟨X',hX'⟩:∃X',X'=val x*2 ^ s:=⟨_,rfl⟩
 obtain⟨Y',hY'⟩:∃Y',Y'=val y*2 ^ s:=⟨_,rfl⟩
 rw[←hX',←hY'] at HQ
 rw[←hY'] at SU
 have HX':=Lib.hid hX'
 have HY':=Lib.hid hY'
 have hY'0:0<Y':=by rw[hY'];exact Nat.mul_pos hY0 (Nat.pow_pos (by omega))
 clear hx hy hdx hny hN hn htop hs1 hs2 LZ q1 q2 q3 q4 hyt hX' hY' hY0
 go_enter Tryz.func226,Tryz.ntmps226
 go_wp2_with (first
  |(go_at_call 258;refine(HLZ.out _).mono ?_;rintro e w' ⟨rfl,rfl⟩)
  |(go_at_call 242;refine(SU.out).mono ?_;rintro e w1 ⟨sb,rfl,ho,hb⟩
    have HOB1:=Lib.hid ho
    have HB1:=Lib.hid hb
    have SU2:=Lib.hid (lG _ x s w1 (HX.out.below hb) HDX.out (by rw[HN.out];omega) (by omega))
    rw[←HX'.out] at SU2
    clear SU ho hb)
  |(go_at_call 242;refine(SU2.out).mono ?_;rintro e w2 ⟨sl,rfl,ho,hb⟩
    have HOB2:=Lib.hid (HOB1.out.below hb)
    have HB2:=Lib.hid (HB1.out.trans (hb.mono HB1.out.size))
    have hlen: (digs X').length≤N+1:=bK HQ.out.2.2.2
    have HLX:=Lib.hid hlen
    have RM:=Lib.hid (yI sl (digs X') ((N:Int)+1) (N+1) w2 (by omega) ho.rd hlen (by omega))
    clear SU2 ho hb HOB1 HB1 hlen)
  |(go_at_call 223;refine(RM.out).mono ?_;rintro e w3 ⟨rfl,hr,hb⟩
    obtain⟨W4,hmk,hrow4,hb4⟩:=lZ w3 ((N:Int) - n+1) (N - n+1) (by omega) (by omega)
    have HS:=Lib.hid (show LRel w2 w2.heap.size w3.heap.size N n X' Y' (N - n+1) W4 from
     ⟨digs X'++List.replicate (N+1 - (digs X').length) 0,List.replicate (N - n+1) 0,xN HLX.out,by simp,xA (aB _).1 _,fQ _,hr.below hb4 hr.lt,hrow4,hb.trans (hb4.mono hb.size),
      by rw[fU,Nat.zero_mul,Nat.zero_add,sS,aA],by rw[sS,aA];exact HQ.out.2.2.1,fun j _=>jR _ _⟩)
    have HG:=Lib.hid (show w2.heap.size<w3.heap.size from hr.lt)
    clear RM hr hb hrow4 hb4 HLX))
 go_loopw [9] (fun iv wr=>∃k:Nat,iv= .int .i64 ((k:Int) - 1)∧k≤N - n+1∧LRel w2 w2.heap.size w3.heap.size N n X' Y' k wr) (fun iv _=>(intOf iv+1).toNat)
 case atStart=>exact⟨N - n+1,by go_num,Nat.le_refl _,HS.out⟩
 case round=>
  obtain⟨k,rfl,hk,hrel⟩:=hrel
  clear HS hmk
  obtain⟨L,Q,hlL,hlQ,hdL,hdQ,hrL,hrQ,hb,hv,hlt,hz⟩:=hrel
  by_cases hk0:k=0
  ·subst hk0
   rw[Nat.pow_zero,Nat.mul_one] at hlt
   obtain⟨f1,f2⟩:=DJ (s:=s) (X:=val x) (Y:=val y) (q:=val Q) (r:=val L) HY0.out (by rw[←HY'.out,←HX'.out];exact hv) (by rw[←HY'.out];exact hlt)
   have hOQ:Own wr w3.heap.size (.slice (some ⟨w3.heap.size,0,none⟩) (N - n+1) (N - n+1)) Q:=by
    have:=Own.gK (cap:=N - n+1) hrQ (Nat.le_refl _) (by omega) (by unfold maxLen;omega)
    rwa [hlQ] at this
   have hOL:Own wr w2.heap.size (.slice (some ⟨w2.heap.size,0,none⟩) (N+1) (N+1)) L:=by
    have:=Own.gK (cap:=N+1) hrL (Nat.le_refl _) (by omega) (by unfold maxLen;omega)
    rwa [hlL] at this
   have T1:=Lib.hid (dG _ Q wr hOQ (by omega) hdQ)
   have T2:=Lib.hid (dG _ L wr hOL (by omega) hdL)
   have HB:=Lib.hid (HB2.out.trans (hb.mono HB2.out.size))
   have HF1:=Lib.hid f1
   have HF2:=Lib.hid f2
   have HLb:=Lib.hid (show(digs (val L)).length≤N+1 from by have:=gV hdL;omega)
   rw[f1] at T1
   clear hlL hlQ hdL hdQ hrL hrQ hb hv hlt hz f1 f2 hOQ hOL
   go_wp2_with (first
    |(go_at_call 209;refine(T1.out).mono ?_;rintro e w5 ⟨sq,rfl,ho,rfl⟩;have HOQ:=Lib.hid ho;clear T1 ho)
    |(go_at_call 209;refine(T2.out).mono ?_;rintro e w5 ⟨sl2,rfl,ho,rfl⟩
      have SD:=Lib.hid (qJ sl2 (digs (val L)) s _ ho.rd (aB _).1 (by have:=HLb.out;omega) (by omega))
      rw[aA,HF2.out] at SD
      clear T2 ho)
    |(go_at_call 240;refine(SD.out).mono ?_;rintro e w6 ⟨sr,rfl,ho,hb6⟩
      have HOR:=Lib.hid ho
      have HOQ6:=Lib.hid (HOQ.out.below hb6)
      have HB6:=Lib.hid (HB.out.trans (hb6.mono HB.out.size))
      clear SD ho hb6))
   go_ret2
   exact⟨_,_,rfl,⟨HOQ6.out.mono (Nat.le_trans HB2.out.size (Nat.le_of_lt HG.out)),HOR.out.mono HB.out.size⟩,HB6.out⟩
  ·obtain⟨i,hi⟩:∃i,i=k - 1:=⟨_,rfl⟩
   have hki:k=i+1:=by omega
   subst hki
   have hin:i+n+1≤N+1:=by omega
   obtain⟨p1,p2,p3,p4⟩:=Zq hlL hin HQ.out.1 hlt
   have hrL':Row wr w2.heap.size (L.take i++((L.drop i).take (n+1)++L.drop (i+n+1))):=by rw[←p4];exact hrL
   have l2: ((L.drop i).take (n+1)).length=n+1:=by rw[List.length_take,List.length_drop];omega
   have hdb:val ((L.drop i).take (n+1))/Y'<18446744073709551616:=by rw[Nat.div_lt_iff_lt_mul hY'0,Nat.mul_comm];exact p1
   obtain⟨ab,bcap,rfl,-⟩:=id (HOB2.out).rd
   have TD:=Lib.hid (zQ w2.heap.size i n (N+1 - i) (.slice ab (digs Y').length bcap) (L.take i) ((L.drop i).take (n+1)) (L.drop (i+n+1)) (digs Y') wr (by rw[List.length_take];omega) l2 hrL' ((hdL.drop _).take _) (HOB2.out.rd.below hb) (HOB2.out.rd.apart (Nat.le_refl _)) (aB _) HQ.out.2.1 hn2 (by rw[aA];exact p1) (by omega) (by omega) (by unfold maxLen;omega))
   rw[aA] at TD
   have HNX:=Lib.hid (fun (w4:World)(Z':List Nat)=>LRel.next (w2:=w2) (w4:=w4) (Z':=Z') (gL:=w2.heap.size) (gQ:=w3.heap.size) hlL hlQ hdL hdQ hrQ hb hv hz p2 p3 hin hY'0 (Nat.le_refl _) HG.out)
   have HRQ:=Lib.hid hrQ
   have HLQ:=Lib.hid hlQ
   have HDB:=Lib.hid hdb
   obtain⟨d,hd⟩:∃d,d=val ((L.drop i).take (n+1))/Y':=⟨_,rfl⟩
   rw[←hd] at TD
   have HD:=Lib.hid hd
   have g1: ((i+1:Nat):Int) - 1=(i:Int):=by omega
   have g2: (i:Int)+(n:Int)+1≤(N:Int)+1:=by omega
   have g3:i+n+1 - i=n+1:=by omega
   have g4:¬(N+1=i):=by omega
   have g5: (i:Int)<(N:Int) - n+1:=by omega
   have g6: ((i:Int)+(n:Int)+1).toNat=i+n+1:=by omega
   have g7:i<N - n+1:=by omega
   clear hlL hlQ hdL hdQ hrL hrQ hb hv hlt hz p1 p2 p3 p4 hrL' l2 hdb hd hi hk0
   rw[g1]
   go_wp2_with (go_at_call 262;refine(TD.out).mono ?_;rintro e w5 ⟨Z',rfl,⟨hl',hd',hv',hr'⟩,hg'⟩
                have hrQ5:=HRQ.out.kept hg' (by have:=HG.out;simp;omega)
                have c5:=hrQ5.cell i (by rw[HLQ.out];exact g7)
                have f5:=hrQ5.free i
                have HR:=Lib.hid (HNX.out w5 Z' hl' hd' hv' hr' hg' HDB.out)
                rw[←HD.out] at HR
                clear TD HNX hl' hd' hv' hr' hg' hrQ5)
   go_roundw
   case rel=>exact⟨i,by go_num,by omega,HR.out⟩
   case measure=>simp[intOf]
theorem gN {w:World}{B d:Nat}(hB:B≤w.heap.size):Own (w.alloc (.cells #[Value.int .u64 (d:Int)] 104)) B (.slice (some ⟨w.heap.size,0,none⟩) 1 1) [d]:=
 Own.gK (l:=[d]) ⟨[],by rw[heap_alloc_new];rfl⟩ hB (Nat.le_refl _) (by unfold maxLen;omega)
theorem eU {d:Nat}(h:d<18446744073709551616): (digs d).length≤1:=bK (n:=1) (by simpa using h)
theorem jE (sx sy:Value)(x y:List Nat)(w:World)(hx:Rd w sx x)(hy:Rd w sy y)(hnx:Norm x)(hny:Norm y)(hy0:y≠[])(hs:x.length≤900000)(ht:y.length≤900000):
  Calls Tryz.prog 184 #[sx,sy] w fun e w'=>∃sq sr,e= .returned (.tuple #[sq,sr])∧(Own w' w.heap.size sq (digs (val x/val y))∧Own w' w.heap.size sr (digs (val x%val y)))∧Below w.heap.size w w':=by
 have CM:=Lib.hid (gG sx sy x y w hx hy hnx hny (by omega) (by omega))
 have HX:=Lib.hid hx
 have HY:=Lib.hid hy
 have HNX:=Lib.hid hnx
 have HNY:=Lib.hid hny
 obtain⟨ao,xcap,rfl,⟨h1,-⟩,h2,-⟩:=id hx
 obtain⟨bo,ycap,rfl,⟨k1,-⟩,k2,-⟩:=id hy
 obtain⟨N,hN⟩:∃N,x.length=N:=⟨_,rfl⟩
 obtain⟨n,hn⟩:∃n,y.length=n:=⟨_,rfl⟩
 have hn0:0<n:=by rw[←hn];exact List.length_pos_iff.2 hy0
 have HN:=Lib.hid hN
 have Hn:=Lib.hid hn
 rw[hN] at h1 hs HX CM ⊢
 rw[hn] at k1 ht HY CM ⊢
 obtain⟨gy,oy,rfl,-⟩:=dN HY.out hn0
 clear hx hy hnx hny hN hn hy0
 rcases Nat.lt_or_ge (val x) (val y) with hlt|hge
 ·have hc:cmp3 (val x:Nat) (val y:Nat)= -1:=pR (by omega)
  rw[hc] at CM
  have HQ:=Lib.hid (show val x/val y=0 from Nat.div_eq_of_lt hlt)
  have HR:=Lib.hid (show val x%val y=val x from Nat.mod_eq_of_lt hlt)
  rw[HQ.out,HR.out,←HNX.out.fI,aX]
  have CL:=Lib.hid (fun (w':World)(hb:Below w.heap.size w w')=>gP _ x w' (HX.out.below hb) (by rw[HN.out];omega))
  clear hlt hc
  go_enter Tryz.func184,Tryz.ntmps184
  go_wp2_with (first
   |(go_at_call 170;refine(CM.out).mono ?_;rintro e w1 ⟨rfl,m,rfl⟩)
   |(go_at_call 195;refine(CL.out _ (aK w m)).mono ?_;rintro e w2 ⟨sv,rfl,ho,hb⟩;have HO:=Lib.hid ho;have HB:=Lib.hid ((aK w m).trans hb);clear ho hb))
  go_ret2
  exact⟨_,_,rfl,⟨Own.nil _ _,HO.out⟩,HB.out⟩
 ·have hc:¬cmp3 (val x:Nat) (val y:Nat)<0:=by
   unfold cmp3
   rw[if_neg (by omega)]
   split<;>omega
  obtain⟨c,hcc⟩:∃c,c=cmp3 (val x:Nat) (val y:Nat):=⟨_,rfl⟩
  rw[←hcc] at CM hc
  have hNn:n≤N:=by
   rcases Nat.lt_or_ge N n with h|h
   ·have:=HNX.out.short HNY.out (by rw[HN.out,Hn.out];exact h)
    omega
   ·exact h
  clear hcc hge
  by_cases hn1:n=1
  ·subst hn1
   have hyv:val y=dg y 0:=by
    have:=aQ y 0
    rw[List.take_of_length_le (by rw[Hn.out];omega)] at this
    simpa[val] using this
   have hy0:dg y 0≠0:=by have:=jT HNY.out (by rw[Hn.out];omega);rwa [Hn.out] at this
   have hyb:=bS HNY.out.1 0
   have c1:=HY.out.cellAt 0 (by omega)
   rw[Nat.add_zero] at c1
   rw[hyv]
   have CL:=Lib.hid (fun (w':World)(hb:Below w.heap.size w w')=>gP _ x w' (HX.out.below hb) (by rw[HN.out];omega))
   obtain⟨d,hd⟩:∃d,d=dg y 0:=⟨_,rfl⟩
   rw[←hd] at hy0 hyb c1 ⊢
   have HY2:=Lib.hid (show ∀w',Below w.heap.size w w'→w'.cell? ⟨gy,oy,none⟩=some (.int .u64 (d:Nat)) from fun w' hb=>(hb.cell (p:=⟨gy,oy,none⟩) (aO c1)).trans c1)
   clear hyv hd c1
   go_enter Tryz.func184,Tryz.ntmps184
   go_wp2_with (first
    |(go_at_call 170;refine(CM.out).mono ?_;rintro e w1 ⟨rfl,m,rfl⟩)
    |(go_at_call 195;refine(CL.out _ (aK w m)).mono ?_;rintro e w2 ⟨sv,rfl,ho,hb⟩
      have HB2:=Lib.hid ((aK w m).trans hb)
      have c2:=HY2.out w2 HB2.out
      have DW:=Lib.hid (gW sv x d w2 ho HNX.out.1 hyb (by omega) (by rw[HN.out];omega))
      clear ho hb)
    |(go_at_call 221;refine(DW.out).mono ?_;rintro e w3 ⟨q,r,rfl,⟨q1,q2,q3,q4,q5⟩,hb⟩
      have HB3:=Lib.hid (HB2.out.trans hb)
      have hq:val q=val x/d:=by
       rw[←q3,Nat.mul_comm,Nat.mul_add_div (by omega),Nat.div_eq_of_lt q4,Nat.add_zero]
      have hr:r=val x%d:=by
       rw[←q3,Nat.mul_comm,Nat.mul_add_mod,Nat.mod_eq_of_lt q4]
      have hb4:Below w3.heap.size w3 (w3.alloc (.cells #[Value.int .u64 (r:Int)] 104)):=(Below.refl _ _).alloc (Nat.le_refl _) _
      have T1:=Lib.hid (dG sv q _ (q5.below hb4) (by rw[q1,HN.out];omega) q2)
      have T2:=Lib.hid (dG _ [r] _ (gN (w:=w3) (d:=r) (B:=w.heap.size) HB3.out.size) (by simp) (Dig.cons (by omega) Dig.nil))
      have HB4:=Lib.hid (HB3.out.trans (hb4.mono HB3.out.size))
      have hv1:val [r]=r:=by simp[val]
      rw[hq] at T1
      rw[hv1,hr] at T2
      rw[hr] at T1 HB4
      subst hr
      clear DW q1 q2 q3 q4 q5 hb hq hb4 hv1)
    |(go_at_call 209;refine(T1.out).mono ?_;rintro e w4 ⟨sq,rfl,ho,rfl⟩;have HO1:=Lib.hid ho;clear T1 ho)
    |(go_at_call 209;refine(T2.out).mono ?_;rintro e w4 ⟨sr,rfl,ho,rfl⟩;have HO2:=Lib.hid ho;clear T2 ho))
   go_ret2
   exact⟨_,_,rfl,⟨HO1.out,HO2.out⟩,HB4.out⟩
  ·have hb1: ((n:Int)==1)=false:=by simp;omega
   have LD:=Lib.hid (fun (w':World)(hb:Below w.heap.size w w')=>xO _ _ x y w' (HX.out.below hb) (HY.out.below hb) HNX.out.1 HNY.out (by rw[Hn.out];omega) (by rw[Hn.out,HN.out];exact hNn) (by rw[HN.out];exact hs))
   go_enter Tryz.func184,Tryz.ntmps184
   go_wp2_with (first
    |(go_at_call 170;refine(CM.out).mono ?_;rintro e w1 ⟨rfl,m,rfl⟩)
    |(go_at_call 226;refine(LD.out _ (aK w m)).mono ?_;rintro e w2 ⟨sq,sr,rfl,⟨ho1,ho2⟩,hb⟩;have HO:=Lib.hid (And.intro ho1 ho2);have HB:=Lib.hid ((aK w m).trans hb);clear ho1 ho2 hb))
   go_ret2
   exact⟨_,_,rfl,HO.out,HB.out⟩
end Go.Proofs.YtlhmfgbaefaneaaGreatDoor.nat
