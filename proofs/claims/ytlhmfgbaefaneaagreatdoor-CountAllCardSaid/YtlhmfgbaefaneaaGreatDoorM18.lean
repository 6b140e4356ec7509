/-
  The steps of the walks, part 18: Lead, Apply.
-/
import Derived.Test.YtlhmfgbaefaneaaGreatDoorM17
set_option maxHeartbeats 8000000
set_option maxRecDepth 100000
namespace Go.Proofs.YtlhmfgbaefaneaaGreatDoor.nat
open Go.RowKit
theorem LS.one {x y a0 b0:Nat}{e:Bool}{oX oY nX nY tX tY a b:Nat}(h:LS x y a0 b0 e oX oY nX nY tX tY a b):1≤tY:=by
 rcases h.k with h5|⟨h5,h6,h7,_⟩
 ·omega
 ·rcases Nat.eq_zero_or_pos tY with h0|h0
  ·have hx:tX=0:=by omega
   cases e
   ·have:=(h.inv.1 rfl).2.2
    rw[h0,hx] at this
    omega
   ·have:=(h.inv.2 rfl).2.2
    rw[h0,hx] at this
    omega
  ·exact h0
def five (oX oY nX nY:Nat)(e:Bool):Obj:= .cells #[.int .u64 (oX:Nat),.int .u64 (oY:Nat),.int .u64 (nX:Nat),.int .u64 (nY:Nat),.bool e] 228 (0,0)
theorem bT {w:World}{b oX oY nX nY:Nat}{e:Bool}(h:w.heap[b]?=some (five oX oY nX nY e)):
  w.cell? ⟨b,0,none⟩=some (.int .u64 (oX:Nat))∧w.cell? ⟨b,1,none⟩=some (.int .u64 (oY:Nat))∧w.cell? ⟨b,2,none⟩=some (.int .u64 (nX:Nat))∧w.cell? ⟨b,3,none⟩=some (.int .u64 (nY:Nat))∧w.cell? ⟨b,4,none⟩=some (.bool e)∧∀k,w.frozen? ⟨b,k,none⟩=false:=by
 unfold five at h
 refine⟨?_,?_,?_,?_,?_,fun k=> ?_⟩<;>simp[World.cell?,World.frozen?,h]
theorem xG {w:World}{b oX oY nX nY uX uY vX vY:Nat}{e f:Bool}(h:w.heap[b]?=some (five oX oY nX nY e)):
  (((((w.setCell ⟨b,0,none⟩ (.int .u64 (uX:Nat))).setCell ⟨b,2,none⟩ (.int .u64 (vX:Nat))).setCell ⟨b,1,none⟩ (.int .u64 (uY:Nat))).setCell ⟨b,3,none⟩ (.int .u64 (vY:Nat))).setCell ⟨b,4,none⟩ (.bool f)).heap[b]?=some (five uX uY vX vY f):=by
 unfold five at h ⊢
 have h1:=heap_setCell_same w b 0 _ _ (.int .u64 (uX:Nat)) h
 have h2:=heap_setCell_same _ b 2 _ _ (.int .u64 (vX:Nat)) h1
 have h3:=heap_setCell_same _ b 1 _ _ (.int .u64 (uY:Nat)) h2
 have h4:=heap_setCell_same _ b 3 _ _ (.int .u64 (vY:Nat)) h3
 have h5:=heap_setCell_same _ b 4 _ _ (.bool f) h4
 rw[h5]
 rfl
theorem qM {w:World}{b k:Nat}{v0 v1 v2 v3 v4:Value}(h:k≠b):
  (((((w.setCell ⟨b,0,none⟩ v0).setCell ⟨b,2,none⟩ v1).setCell ⟨b,1,none⟩ v2).setCell ⟨b,3,none⟩ v3).setCell ⟨b,4,none⟩ v4).heap[k]?=w.heap[k]?:=by
 rw[Below.heap_setCell _ _ _ _ h,Below.heap_setCell _ _ _ _ h,Below.heap_setCell _ _ _ _ h,Below.heap_setCell _ _ _ _ h,Below.heap_setCell _ _ _ _ h]
def FRel (w:World)(X Y a0 b0:Nat)(av bv xv yv:Value)(wr:World):Prop:=
 ∃(e:Bool)(oX oY nX nY tX tY a b:Nat),av= .int .u64 (a:Nat)∧bv= .int .u64 (b:Nat)∧xv= .int .u64 (tX:Nat)∧yv= .int .u64 (tY:Nat)∧LS X Y a0 b0 e oX oY nX nY tX tY a b∧(oX<18446744073709551616∧oY<18446744073709551616∧nX<18446744073709551616∧nY<18446744073709551616)∧
  wr.heap[w.heap.size+1]?=some (five oX oY nX nY e)∧wr.heap[w.heap.size]?=some (five 0 0 0 0 false)∧Below w.heap.size w wr
def Ye (w:World)(X Y:Nat)(e':Ending)(w':World):Prop:=
 ∃(e:Bool)(oX oY nX nY:Nat),e'= .returned (.agg #[.int .u64 (oX:Nat),.int .u64 (oY:Nat),.int .u64 (nX:Nat),.int .u64 (nY:Nat),.bool e])∧
  ((oX<18446744073709551616∧oY<18446744073709551616∧nX<18446744073709551616∧nY<18446744073709551616)∧(oY=0∨nV X Y e oX oY nX nY))∧Below w.heap.size w w'
theorem kI {w:World}{b oX oY nX nY uX uY vX vY:Nat}{e f:Bool}(h:w.heap[b]?=some (five oX oY nX nY e)):
  (((((w.setCell ⟨b,0,none⟩ (.int .u64 (uX:Nat))).setCell ⟨b,1,none⟩ (.int .u64 (uY:Nat))).setCell ⟨b,2,none⟩ (.int .u64 (vX:Nat))).setCell ⟨b,3,none⟩ (.int .u64 (vY:Nat))).setCell ⟨b,4,none⟩ (.bool f)).heap[b]?=some (five uX uY vX vY f):=by
 unfold five at h ⊢
 have h1:=heap_setCell_same w b 0 _ _ (.int .u64 (uX:Nat)) h
 have h2:=heap_setCell_same _ b 1 _ _ (.int .u64 (uY:Nat)) h1
 have h3:=heap_setCell_same _ b 2 _ _ (.int .u64 (vX:Nat)) h2
 have h4:=heap_setCell_same _ b 3 _ _ (.int .u64 (vY:Nat)) h3
 have h5:=heap_setCell_same _ b 4 _ _ (.bool f) h4
 rw[h5]
 rfl
theorem lV (sx sy:Value)(x y:List Nat)(w:World)(hx:Rd w sx x)(hy:Rd w sy y)(hnx:Norm x)(hdy:Dig y)(hN2:2≤x.length)(hM2:2≤y.length)(hs:x.length≤900000)(hle:val y≤val x)(hlen:y.length≤x.length):
  Calls Tryz.prog 219 #[sx,sy] w fun e' w'=>Ye w (val x) (val y) e' w':=by
 obtain⟨ao,xcap,rfl,⟨h1,-⟩,h2,-⟩:=id hx
 obtain⟨bo,ycap,rfl,⟨k1,-⟩,k2,-⟩:=id hy
 obtain⟨N,hN⟩:∃N,x.length=N:=⟨_,rfl⟩
 obtain⟨M,hM⟩:∃M,y.length=M:=⟨_,rfl⟩
 rw[hN] at h1 hs hN2 hlen hx ⊢
 rw[hM] at k1 hM2 hlen hy ⊢
 obtain⟨gx,ox,rfl,-⟩:=dN hx (by omega)
 obtain⟨gy,oy,rfl,-⟩:=dN hy (by omega)
 unfold maxLen at h2 k2
 have htop:=jT hnx (by omega)
 rw[hN] at htop
 obtain⟨s,⟨hs63,hs1,hs2⟩,LZ⟩:=tF (dg x (N - 1)) (bS hnx.1 _) htop
 obtain⟨x0,px,px0⟩:=xK (R:=64 - s) (Nat.le_of_eq hN) hN2 hnx.1
 obtain⟨y0,py,py0⟩:=xK (R:=64 - s) (show y.length≤N by omega) hN2 hdy
 obtain⟨-,hb0a0,htops⟩:=Zn (R:=64 - s) (Nat.le_of_eq hN) (show y.length≤N by omega) hN2 hnx.1 hle
 have htops:=htops (bS hnx.1 _)
 rw[rQ hs63] at px
 rw[rQ hs63] at py
 rw[rQ hs63,rQ hs63] at hb0a0
 have lx:=Gd (bS hnx.1 (N - 2)) hs63
 have ly:=Gd (bS hdy (N - 2)) hs63
 have c1:=hx.cellAt (N - 1) (by omega)
 have c2:=hx.cellAt (N - 2) (by omega)
 have hm3:dg y (N - 1)*2 ^ s<18446744073709551616:=Nat.lt_of_le_of_lt (Nat.mul_le_mul_right _ htops) hs1
 obtain⟨m1,hm1⟩:∃m,m=dg x (N - 1)*2 ^ s:=⟨_,rfl⟩
 obtain⟨m2,hm2⟩:∃m,m=dg x (N - 2)/2 ^ (64 - s):=⟨_,rfl⟩
 obtain⟨m3,hm3e⟩:∃m,m=dg y (N - 1)*2 ^ s:=⟨_,rfl⟩
 obtain⟨m4,hm4⟩:∃m,m=dg y (N - 2)/2 ^ (64 - s):=⟨_,rfl⟩
 rw[←hm1,←hm2] at px hb0a0
 rw[←hm3e,←hm4] at py hb0a0
 rw[←hm2] at lx
 rw[←hm4] at ly
 have b1:m1<18446744073709551616:=by rw[hm1];exact hs1
 have b3:m3<18446744073709551616:=by rw[hm3e];exact hm3
 have s63:2 ^ s≤9223372036854775808:=by
  have:2 ^ s≤2 ^ 63:=Nat.pow_le_pow_right (by omega) hs63
  omega
 have o1:m1|||m2=m1+m2:=by rw[Nat.or_comm,Df lx hm1];omega
 have o3:m3|||m4=m3+m4:=by rw[Nat.or_comm,Df ly hm3e];omega
 obtain⟨a0,ha0⟩:∃a,a=m1+m2:=⟨_,rfl⟩
 obtain⟨b0,hb0⟩:∃b,b=m3+m4:=⟨_,rfl⟩
 rw[←ha0] at px hb0a0
 rw[←hb0] at py hb0a0
 have ba:a0<18446744073709551616:=by rw[ha0,←o1];exact Nat.or_lt_two_pow (n:=64) b1 (by omega)
 have bb:b0<18446744073709551616:=by omega
 have F1:IntKind.u64.wrap ((dg x (N - 1):Nat)*2 ^ s)=(m1:Int):=by rw[nP,←hm1,Nat.mod_eq_of_lt b1]
 have F2: ((dg x (N - 2):Nat):Int)/2 ^ (64 - s)=(m2:Int):=by rw[iJ,←hm2]
 have F3:bits .or .u64 (m1:Int) (m2:Int)=(a0:Int):=by rw[bits_or_u64_nat _ _ b1 (by omega),o1,←ha0]
 have F4:IntKind.u64.wrap ((dg y (N - 1):Nat)*2 ^ s)=(m3:Int):=by rw[nP,←hm3e,Nat.mod_eq_of_lt b3]
 have F5: ((dg y (N - 2):Nat):Int)/2 ^ (64 - s)=(m4:Int):=by rw[iJ,←hm4]
 have F6:bits .or .u64 (m3:Int) (m4:Int)=(b0:Int):=by rw[bits_or_u64_nat _ _ b3 (by omega),o3,←hb0]
 have LSS:=Lib.hid (LS.start (x:=val x) (y:=val y) hb0a0)
 have HY:=Lib.hid hy
 have HPX:=Lib.hid px
 have HPY:=Lib.hid py
 have HP0:=Lib.hid (And.intro px0 py0)
 have HBA:=Lib.hid (And.intro ba bb)
 have Hm3:=Lib.hid hm3e
 have Hm4:=Lib.hid hm4
 have Hb0:=Lib.hid hb0
 have HM:=Lib.hid hM
 have HDY:=Lib.hid hdy
 have n1:gx<w.heap.size:=aO c1
 have n2:gy<w.heap.size:=aO (hy.cellAt 0 (by omega))
 have q1:=fun o=>(((Below.refl w.heap.size w).alloc (Nat.le_refl _) o).cell (p:=⟨gx,ox+(N - 1),none⟩) n1).trans c1
 have q2:=fun o=>(((Below.refl w.heap.size w).alloc (Nat.le_refl _) o).cell (p:=⟨gx,ox+(N - 2),none⟩) n1).trans c2
 obtain⟨t1,ht1⟩:∃t,t=dg x (N - 1):=⟨_,rfl⟩
 obtain⟨t0,ht0⟩:∃t,t=dg x (N - 2):=⟨_,rfl⟩
 obtain⟨y1,hy1⟩:∃t,t=dg y (N - 1):=⟨_,rfl⟩
 obtain⟨y0',hy0⟩:∃t,t=dg y (N - 2):=⟨_,rfl⟩
 rw[←ht1] at F1 q1 LZ
 rw[←ht0] at F2 q2
 rw[←hy1] at F4
 rw[←hy0] at F5
 have Hy1:=Lib.hid hy1
 have Hy0:=Lib.hid hy0
 have LZ':=Lib.hid LZ
 have e1: ((N:Int) - 1).toNat=N - 1:=by omega
 have g1:IntKind.i64.wrap ((N:Int) - 1 - 1)=((N - 2:Nat):Int):=by rw[IntKind.wrap_i64];omega
 have g2: ((N:Int) - 1 - 1).toNat=N - 2:=by omega
 have g3:IntKind.i64.wrap (64 - (s:Int))=((64 - s:Nat):Int):=by rw[IntKind.wrap_i64];omega
 have g4:64 - (s:Int)=((64 - s:Nat):Int):=by omega
 have i1: (N:Int) - 1<(N:Int):=by omega
 have i2: ((N - 2:Nat):Int)<(N:Int):=by omega
 have i3: (0:Int)≤(N:Int) - 1:=by omega
 obtain⟨X,hX⟩:∃X,X=val x:=⟨_,rfl⟩
 obtain⟨Y,hYe⟩:∃Y,Y=val y:=⟨_,rfl⟩
 rw[←hX] at HPX LSS ⊢
 rw[←hYe] at HPY LSS ⊢
 have LSTART:=Lib.hid (fun (n:Nat)=>show FRel w X Y a0 b0 (.int .u64 (a0:Nat)) (.int .u64 (b0:Nat)) (.int .u64 ((0:Nat):Int)) (.int .u64 ((1:Nat):Int)) (((w.alloc (five 0 0 0 0 false)).drewN n).alloc (five 0 0 1 0 false)) from
  ⟨false,0,0,1,0,0,1,a0,b0,rfl,rfl,rfl,rfl,LSS.out,by omega,by
    have:=heap_alloc_new ((w.alloc (five 0 0 0 0 false)).drewN n) (five 0 0 1 0 false)
    rwa [show((w.alloc (five 0 0 0 0 false)).drewN n).heap.size=w.heap.size+1 from by show(w.alloc _).heap.size=_;simp] at this,by
    have h1:=Below.heap_alloc ((w.alloc (five 0 0 0 0 false)).drewN n) (five 0 0 1 0 false) w.heap.size (by show _<(w.alloc _).heap.size;simp)
    exact h1.trans (heap_alloc_new w _),((aU ((Below.refl _ _).alloc (Nat.le_refl _) _) n).alloc (by show _≤(w.alloc _).heap.size;simp) _)⟩)
 clear hx hnx hdy hN htop hs1 hs2 LZ px px0 py py0 hb0a0 htops lx ly c1 c2 hm3 hm1 hm2 hm3e hm4 b1 b3 s63 o1 o3 ha0 hb0 ba bb LSS ht1 ht0 hy1 hy0 hX hYe hle hy hM
 have UNF:five=fun oX oY nX nY e=>Obj.cells #[.int .u64 (oX:Nat),.int .u64 (oY:Nat),.int .u64 (nX:Nat),.int .u64 (nY:Nat),.bool e] 228 (0,0):=rfl
 rcases(show M=N∨(M<N∧N - 1=M)∨M+2≤N by omega) with hMN|⟨hMN,hMN1⟩|hMN
 ·subst hMN
  have d1:=HY.out.cellAt (M - 1) (by omega)
  have d2:=HY.out.cellAt (M - 2) (by omega)
  rw[←Hy1.out] at d1
  rw[←Hy0.out] at d2
  have q3:=fun o=>(((Below.refl w.heap.size w).alloc (Nat.le_refl _) o).cell (p:=⟨gy,oy+(M - 1),none⟩) n2).trans d1
  have q4:=fun o=>(((Below.refl w.heap.size w).alloc (Nat.le_refl _) o).cell (p:=⟨gy,oy+(M - 2),none⟩) n2).trans d2
  rw[UNF] at LSTART
  clear d1 d2
  go_enter Tryz.func219,Tryz.ntmps219
  go_wp2_with (go_at_call 258;refine(LZ'.out _).mono ?_;rintro e w' ⟨rfl,rfl⟩)
  go_quiet (fail)
  go_wp2
  go_quiet (fail)
  go_wp2
  go_loopw [7,8,10,11] (fun av bv xv yv wr=>FRel w X Y a0 b0 av bv xv yv wr) (fun _ bv _ _ _=>(intOf bv).toNat)
  case atStart=>exact LSTART.out _
  case round=>
   obtain⟨e,oX,oY,nX,nY,tX,tY,a,b,rfl,rfl,rfl,rfl,hls,hbd,hF,hR,hb⟩:=hrel
   clear LSTART UNF
   have hab:=hls.le
   have hone:=hls.one
   obtain⟨c0,c1,c2,c3,c4,cf⟩:=bT hF
   have cf0:=cf 0;have cf1:=cf 1;have cf2:=cf 2;have cf3:=cf 3;have cf4:=cf 4
   by_cases t1': (tY:Int)≤(b:Int)
   ·obtain⟨r1,r2,r3,r4⟩:=hls.room HBA.out.1 HBA.out.2 (by omega)
    by_cases t2: (nY:Int)+(tY:Int)≤(a:Int) - (b:Int)
    ·obtain⟨q,hq⟩:∃q,q=a/b:=⟨_,rfl⟩
     obtain⟨r,hr⟩:∃r,r=a%b:=⟨_,rfl⟩
     have hdiv:a=b*q+r:=by rw[hq,hr];exact(Nat.div_add_mod a b).symm
     have hrb:r<b:=by rw[hr];exact Nat.mod_lt _ (by omega)
     have hnx:=LS.next HPX.out HPY.out HP0.out.1 HP0.out.2 hls (by omega) (by omega) (by omega) hdiv hrb
     obtain⟨s1,s2⟩:=hnx.inv.sum
     obtain⟨u1,hu1⟩:∃u,u=q*tX:=⟨_,rfl⟩
     obtain⟨u2,hu2⟩:∃u,u=q*tY:=⟨_,rfl⟩
     rw[←hu1,←hu2] at hnx
     rw[←hu1] at s2
     rw[←hu2] at s1
     have z1:nX+u1<18446744073709551616:=by
      have:=Nat.le_mul_of_pos_right (nX+u1) (show 0<b by omega)
      have:=HBA.out.2
      omega
     have z2:nY+u2<18446744073709551616:=by
      have:=Nat.le_mul_of_pos_right (nY+u2) (show 0<b by omega)
      have:=HBA.out.1
      omega
     have G1: (a:Int)/(b:Int)=(q:Int):=by rw[hq,oG]
     have G2: (a:Int)%(b:Int)=(r:Int):=by rw[hr,Int.natCast_emod]
     have G3:IntKind.u64.wrap ((q:Int)*(tX:Int))=(u1:Int):=by rw[bX,←hu1,Nat.mod_eq_of_lt (by omega)]
     have G4:IntKind.u64.wrap ((q:Int)*(tY:Int))=(u2:Int):=by rw[bX,←hu2,Nat.mod_eq_of_lt (by omega)]
     have hqb:q<18446744073709551616:=by rw[hq];exact Nat.lt_of_le_of_lt (Nat.div_le_self _ _) r4
     have hb0':¬(b:Int)=0:=by omega
     have HNX:=Lib.hid hnx
     have HF:=Lib.hid hF
     have HR:=Lib.hid hR
     have HB:=Lib.hid hb
     have Hz:=Lib.hid (And.intro z1 z2)
     have tyb:tY<18446744073709551616:=by omega
     clear hls hq hr hdiv hnx s1 s2 hu1 hu2 hF hR hb cf
     go_wp2
     go_quiet (fail)
     go_wp2
     go_roundw
     case rel=>
      have k1:=xG (uX:=nX) (uY:=nY) (vX:=tX) (vY:=tY) (f:=!e) (show(wr.drewN nq).heap[w.heap.size+1]?=_ from HF.out)
      refine⟨!e,nX,nY,tX,tY,nX+u1,nY+u2,b,r,by go_num,G2▸rfl,by go_num,by go_num,HNX.out,⟨r1,hbd.2.2.2,r3,tyb⟩,k1,?_,?_⟩
      ·exact(qM (w:=wr.drewN nq) (by omega)).trans HR.out
      ·exact((((((aU HB.out nq).setCell (p:=⟨w.heap.size+1,0,none⟩) (Nat.le_succ _) _).setCell (p:=⟨w.heap.size+1,2,none⟩) (Nat.le_succ _) _).setCell (p:=⟨w.heap.size+1,1,none⟩) (Nat.le_succ _) _).setCell (p:=⟨w.heap.size+1,3,none⟩) (Nat.le_succ _) _).setCell (p:=⟨w.heap.size+1,4,none⟩) (Nat.le_succ _) _)
     case measure=>simp[intOf];omega
    ·have HK:=Lib.hid (show oY=0∨nV X Y e oX oY nX nY from hls.k.elim (fun h=>Or.inl h.2.1) (fun h=>h.2.2.2.2.2))
     have HB:=Lib.hid hb
     have HBD:=Lib.hid hbd
     obtain⟨d0,d1,d2,d3,d4,df⟩:=bT hR
     have df0:=df 0;have df1:=df 1;have df2:=df 2;have df3:=df 3;have df4:=df 4
     have HW:=Lib.hid (bT (kI (uX:=oX) (uY:=oY) (vX:=nX) (vY:=nY) (f:=e) hR))
     clear hls hb hbd cf df
     go_wp2
     obtain⟨x0',x1',x2',x3',x4',-⟩:=HW.out
     refine bodyPost_ret (v:= .agg #[.int .u64 (oX:Nat),.int .u64 (oY:Nat),.int .u64 (nX:Nat),.int .u64 (nY:Nat),.bool e]) ?_ rfl ?_
     ·simp[results,Tryz.results219,go_sem,x0',x1',x2',x3',x4']
     ·exact⟨e,oX,oY,nX,nY,rfl,⟨HBD.out,HK.out⟩,((((HB.out.setCell (p:=⟨w.heap.size,0,none⟩) (Nat.le_refl _) _).setCell (p:=⟨w.heap.size,1,none⟩) (Nat.le_refl _) _).setCell (p:=⟨w.heap.size,2,none⟩) (Nat.le_refl _) _).setCell (p:=⟨w.heap.size,3,none⟩) (Nat.le_refl _) _).setCell (p:=⟨w.heap.size,4,none⟩) (Nat.le_refl _) _⟩
   ·have HK:=Lib.hid (show oY=0∨nV X Y e oX oY nX nY from hls.k.elim (fun h=>Or.inl h.2.1) (fun h=>h.2.2.2.2.2))
    have HB:=Lib.hid hb
    have HBD:=Lib.hid hbd
    obtain⟨d0,d1,d2,d3,d4,df⟩:=bT hR
    have df0:=df 0;have df1:=df 1;have df2:=df 2;have df3:=df 3;have df4:=df 4
    have HW:=Lib.hid (bT (kI (uX:=oX) (uY:=oY) (vX:=nX) (vY:=nY) (f:=e) hR))
    clear hls hb hbd cf df
    go_wp2
    obtain⟨x0',x1',x2',x3',x4',-⟩:=HW.out
    refine bodyPost_ret (v:= .agg #[.int .u64 (oX:Nat),.int .u64 (oY:Nat),.int .u64 (nX:Nat),.int .u64 (nY:Nat),.bool e]) ?_ rfl ?_
    ·simp[results,Tryz.results219,go_sem,x0',x1',x2',x3',x4']
    ·exact⟨e,oX,oY,nX,nY,rfl,⟨HBD.out,HK.out⟩,((((HB.out.setCell (p:=⟨w.heap.size,0,none⟩) (Nat.le_refl _) _).setCell (p:=⟨w.heap.size,1,none⟩) (Nat.le_refl _) _).setCell (p:=⟨w.heap.size,2,none⟩) (Nat.le_refl _) _).setCell (p:=⟨w.heap.size,3,none⟩) (Nat.le_refl _) _).setCell (p:=⟨w.heap.size,4,none⟩) (Nat.le_refl _) _⟩
 ·have d2:=HY.out.cellAt (N - 2) (by omega)
  rw[←Hy0.out] at d2
  have q4:=fun o=>(((Below.refl w.heap.size w).alloc (Nat.le_refl _) o).cell (p:=⟨gy,oy+(N - 2),none⟩) n2).trans d2
  have hm30:m3=0:=by rw[Hm3.out,iV (by rw[HM.out];omega),Nat.zero_mul]
  have hb4: (m4:Int)=(b0:Int):=by have:=Hb0.out;omega
  have j1: ((N:Int) - 1 - (M:Int)== -1)=false:=by simp only[beq_eq_false_iff_ne,ne_eq];omega
  have j2: ((N:Int) - 1 - (M:Int)==0)=true:=by simp only[beq_iff_eq];omega
  have j3: (N:Int) - 2<(M:Int):=by omega
  have j4: ((N - 2:Nat):Int)<(M:Int):=by omega
  rw[hb4] at F5
  rw[UNF] at LSTART
  clear d2 hm30 F6 F4 hb4 hMN1
  go_enter Tryz.func219,Tryz.ntmps219
  go_wp2_with (go_at_call 258;refine(LZ'.out _).mono ?_;rintro e w' ⟨rfl,rfl⟩)
  go_quiet (fail)
  go_wp2
  go_loopw [7,8,10,11] (fun av bv xv yv wr=>FRel w X Y a0 b0 av bv xv yv wr) (fun _ bv _ _ _=>(intOf bv).toNat)
  case atStart=>exact LSTART.out _
  case round=>
   obtain⟨e,oX,oY,nX,nY,tX,tY,a,b,rfl,rfl,rfl,rfl,hls,hbd,hF,hR,hb⟩:=hrel
   clear LSTART UNF
   have hab:=hls.le
   have hone:=hls.one
   obtain⟨c0,c1,c2,c3,c4,cf⟩:=bT hF
   have cf0:=cf 0;have cf1:=cf 1;have cf2:=cf 2;have cf3:=cf 3;have cf4:=cf 4
   by_cases t1': (tY:Int)≤(b:Int)
   ·obtain⟨r1,r2,r3,r4⟩:=hls.room HBA.out.1 HBA.out.2 (by omega)
    by_cases t2: (nY:Int)+(tY:Int)≤(a:Int) - (b:Int)
    ·obtain⟨q,hq⟩:∃q,q=a/b:=⟨_,rfl⟩
     obtain⟨r,hr⟩:∃r,r=a%b:=⟨_,rfl⟩
     have hdiv:a=b*q+r:=by rw[hq,hr];exact(Nat.div_add_mod a b).symm
     have hrb:r<b:=by rw[hr];exact Nat.mod_lt _ (by omega)
     have hnx:=LS.next HPX.out HPY.out HP0.out.1 HP0.out.2 hls (by omega) (by omega) (by omega) hdiv hrb
     obtain⟨s1,s2⟩:=hnx.inv.sum
     obtain⟨u1,hu1⟩:∃u,u=q*tX:=⟨_,rfl⟩
     obtain⟨u2,hu2⟩:∃u,u=q*tY:=⟨_,rfl⟩
     rw[←hu1,←hu2] at hnx
     rw[←hu1] at s2
     rw[←hu2] at s1
     have z1:nX+u1<18446744073709551616:=by
      have:=Nat.le_mul_of_pos_right (nX+u1) (show 0<b by omega)
      have:=HBA.out.2
      omega
     have z2:nY+u2<18446744073709551616:=by
      have:=Nat.le_mul_of_pos_right (nY+u2) (show 0<b by omega)
      have:=HBA.out.1
      omega
     have G1: (a:Int)/(b:Int)=(q:Int):=by rw[hq,oG]
     have G2: (a:Int)%(b:Int)=(r:Int):=by rw[hr,Int.natCast_emod]
     have G3:IntKind.u64.wrap ((q:Int)*(tX:Int))=(u1:Int):=by rw[bX,←hu1,Nat.mod_eq_of_lt (by omega)]
     have G4:IntKind.u64.wrap ((q:Int)*(tY:Int))=(u2:Int):=by rw[bX,←hu2,Nat.mod_eq_of_lt (by omega)]
     have hqb:q<18446744073709551616:=by rw[hq];exact Nat.lt_of_le_of_lt (Nat.div_le_self _ _) r4
     have hb0':¬(b:Int)=0:=by omega
     have HNX:=Lib.hid hnx
     have HF:=Lib.hid hF
     have HR:=Lib.hid hR
     have HB:=Lib.hid hb
     have Hz:=Lib.hid (And.intro z1 z2)
     have tyb:tY<18446744073709551616:=by omega
     clear hls hq hr hdiv hnx s1 s2 hu1 hu2 hF hR hb cf
     go_wp2
     go_quiet (fail)
     go_wp2
     go_roundw
     case rel=>
      have k1:=xG (uX:=nX) (uY:=nY) (vX:=tX) (vY:=tY) (f:=!e) (show(wr.drewN nq).heap[w.heap.size+1]?=_ from HF.out)
      refine⟨!e,nX,nY,tX,tY,nX+u1,nY+u2,b,r,by go_num,G2▸rfl,by go_num,by go_num,HNX.out,⟨r1,hbd.2.2.2,r3,tyb⟩,k1,?_,?_⟩
      ·exact(qM (w:=wr.drewN nq) (by omega)).trans HR.out
      ·exact((((((aU HB.out nq).setCell (p:=⟨w.heap.size+1,0,none⟩) (Nat.le_succ _) _).setCell (p:=⟨w.heap.size+1,2,none⟩) (Nat.le_succ _) _).setCell (p:=⟨w.heap.size+1,1,none⟩) (Nat.le_succ _) _).setCell (p:=⟨w.heap.size+1,3,none⟩) (Nat.le_succ _) _).setCell (p:=⟨w.heap.size+1,4,none⟩) (Nat.le_succ _) _)
     case measure=>simp[intOf];omega
    ·have HK:=Lib.hid (show oY=0∨nV X Y e oX oY nX nY from hls.k.elim (fun h=>Or.inl h.2.1) (fun h=>h.2.2.2.2.2))
     have HB:=Lib.hid hb
     have HBD:=Lib.hid hbd
     obtain⟨d0,d1,d2,d3,d4,df⟩:=bT hR
     have df0:=df 0;have df1:=df 1;have df2:=df 2;have df3:=df 3;have df4:=df 4
     have HW:=Lib.hid (bT (kI (uX:=oX) (uY:=oY) (vX:=nX) (vY:=nY) (f:=e) hR))
     clear hls hb hbd cf df
     go_wp2
     obtain⟨x0',x1',x2',x3',x4',-⟩:=HW.out
     refine bodyPost_ret (v:= .agg #[.int .u64 (oX:Nat),.int .u64 (oY:Nat),.int .u64 (nX:Nat),.int .u64 (nY:Nat),.bool e]) ?_ rfl ?_
     ·simp[results,Tryz.results219,go_sem,x0',x1',x2',x3',x4']
     ·exact⟨e,oX,oY,nX,nY,rfl,⟨HBD.out,HK.out⟩,((((HB.out.setCell (p:=⟨w.heap.size,0,none⟩) (Nat.le_refl _) _).setCell (p:=⟨w.heap.size,1,none⟩) (Nat.le_refl _) _).setCell (p:=⟨w.heap.size,2,none⟩) (Nat.le_refl _) _).setCell (p:=⟨w.heap.size,3,none⟩) (Nat.le_refl _) _).setCell (p:=⟨w.heap.size,4,none⟩) (Nat.le_refl _) _⟩
   ·have HK:=Lib.hid (show oY=0∨nV X Y e oX oY nX nY from hls.k.elim (fun h=>Or.inl h.2.1) (fun h=>h.2.2.2.2.2))
    have HB:=Lib.hid hb
    have HBD:=Lib.hid hbd
    obtain⟨d0,d1,d2,d3,d4,df⟩:=bT hR
    have df0:=df 0;have df1:=df 1;have df2:=df 2;have df3:=df 3;have df4:=df 4
    have HW:=Lib.hid (bT (kI (uX:=oX) (uY:=oY) (vX:=nX) (vY:=nY) (f:=e) hR))
    clear hls hb hbd cf df
    go_wp2
    obtain⟨x0',x1',x2',x3',x4',-⟩:=HW.out
    refine bodyPost_ret (v:= .agg #[.int .u64 (oX:Nat),.int .u64 (oY:Nat),.int .u64 (nX:Nat),.int .u64 (nY:Nat),.bool e]) ?_ rfl ?_
    ·simp[results,Tryz.results219,go_sem,x0',x1',x2',x3',x4']
    ·exact⟨e,oX,oY,nX,nY,rfl,⟨HBD.out,HK.out⟩,((((HB.out.setCell (p:=⟨w.heap.size,0,none⟩) (Nat.le_refl _) _).setCell (p:=⟨w.heap.size,1,none⟩) (Nat.le_refl _) _).setCell (p:=⟨w.heap.size,2,none⟩) (Nat.le_refl _) _).setCell (p:=⟨w.heap.size,3,none⟩) (Nat.le_refl _) _).setCell (p:=⟨w.heap.size,4,none⟩) (Nat.le_refl _) _⟩
 ·have hm30:m3=0:=by rw[Hm3.out,iV (by rw[HM.out];omega),Nat.zero_mul]
  have hm40:m4=0:=by rw[Hm4.out,iV (by rw[HM.out];omega),Nat.zero_div]
  have hb4:b0=0:=by have:=Hb0.out;omega
  have j1: ((N:Int) - 1 - (M:Int)== -1)=false:=by simp only[beq_eq_false_iff_ne,ne_eq];omega
  have j2: ((N:Int) - 1 - (M:Int)==0)=false:=by simp only[beq_eq_false_iff_ne,ne_eq];omega
  rw[UNF] at LSTART
  clear hm30 hm40 F6 F4 F5
  have Hb4:=Lib.hid hb4
  clear hb4
  go_enter Tryz.func219,Tryz.ntmps219
  go_wp2_with (go_at_call 258;refine(LZ'.out _).mono ?_;rintro e w' ⟨rfl,rfl⟩)
  go_quiet (fail)
  go_wp2
  go_loopw [7,8,10,11] (fun av bv xv yv wr=>FRel w X Y a0 b0 av bv xv yv wr) (fun _ bv _ _ _=>(intOf bv).toNat)
  case atStart=>(have h:=LSTART.out nq;rw[Hb4.out] at h;rw[Hb4.out];exact h)
  case round=>
   obtain⟨e,oX,oY,nX,nY,tX,tY,a,b,rfl,rfl,rfl,rfl,hls,hbd,hF,hR,hb⟩:=hrel
   clear LSTART UNF
   have hab:=hls.le
   have hone:=hls.one
   obtain⟨c0,c1,c2,c3,c4,cf⟩:=bT hF
   have cf0:=cf 0;have cf1:=cf 1;have cf2:=cf 2;have cf3:=cf 3;have cf4:=cf 4
   by_cases t1': (tY:Int)≤(b:Int)
   ·obtain⟨r1,r2,r3,r4⟩:=hls.room HBA.out.1 HBA.out.2 (by omega)
    by_cases t2: (nY:Int)+(tY:Int)≤(a:Int) - (b:Int)
    ·obtain⟨q,hq⟩:∃q,q=a/b:=⟨_,rfl⟩
     obtain⟨r,hr⟩:∃r,r=a%b:=⟨_,rfl⟩
     have hdiv:a=b*q+r:=by rw[hq,hr];exact(Nat.div_add_mod a b).symm
     have hrb:r<b:=by rw[hr];exact Nat.mod_lt _ (by omega)
     have hnx:=LS.next HPX.out HPY.out HP0.out.1 HP0.out.2 hls (by omega) (by omega) (by omega) hdiv hrb
     obtain⟨s1,s2⟩:=hnx.inv.sum
     obtain⟨u1,hu1⟩:∃u,u=q*tX:=⟨_,rfl⟩
     obtain⟨u2,hu2⟩:∃u,u=q*tY:=⟨_,rfl⟩
     rw[←hu1,←hu2] at hnx
     rw[←hu1] at s2
     rw[←hu2] at s1
     have z1:nX+u1<18446744073709551616:=by
      have:=Nat.le_mul_of_pos_right (nX+u1) (show 0<b by omega)
      have:=HBA.out.2
      omega
     have z2:nY+u2<18446744073709551616:=by
      have:=Nat.le_mul_of_pos_right (nY+u2) (show 0<b by omega)
      have:=HBA.out.1
      omega
     have G1: (a:Int)/(b:Int)=(q:Int):=by rw[hq,oG]
     have G2: (a:Int)%(b:Int)=(r:Int):=by rw[hr,Int.natCast_emod]
     have G3:IntKind.u64.wrap ((q:Int)*(tX:Int))=(u1:Int):=by rw[bX,←hu1,Nat.mod_eq_of_lt (by omega)]
     have G4:IntKind.u64.wrap ((q:Int)*(tY:Int))=(u2:Int):=by rw[bX,←hu2,Nat.mod_eq_of_lt (by omega)]
     have hqb:q<18446744073709551616:=by rw[hq];exact Nat.lt_of_le_of_lt (Nat.div_le_self _ _) r4
     have hb0':¬(b:Int)=0:=by omega
     have HNX:=Lib.hid hnx
     have HF:=Lib.hid hF
     have HR:=Lib.hid hR
     have HB:=Lib.hid hb
     have Hz:=Lib.hid (And.intro z1 z2)
     have tyb:tY<18446744073709551616:=by omega
     clear hls hq hr hdiv hnx s1 s2 hu1 hu2 hF hR hb cf
     go_wp2
     go_quiet (fail)
     go_wp2
     go_roundw
     case rel=>
      have k1:=xG (uX:=nX) (uY:=nY) (vX:=tX) (vY:=tY) (f:=!e) (show(wr.drewN nq).heap[w.heap.size+1]?=_ from HF.out)
      refine⟨!e,nX,nY,tX,tY,nX+u1,nY+u2,b,r,by go_num,G2▸rfl,by go_num,by go_num,HNX.out,⟨r1,hbd.2.2.2,r3,tyb⟩,k1,?_,?_⟩
      ·exact(qM (w:=wr.drewN nq) (by omega)).trans HR.out
      ·exact((((((aU HB.out nq).setCell (p:=⟨w.heap.size+1,0,none⟩) (Nat.le_succ _) _).setCell (p:=⟨w.heap.size+1,2,none⟩) (Nat.le_succ _) _).setCell (p:=⟨w.heap.size+1,1,none⟩) (Nat.le_succ _) _).setCell (p:=⟨w.heap.size+1,3,none⟩) (Nat.le_succ _) _).setCell (p:=⟨w.heap.size+1,4,none⟩) (Nat.le_succ _) _)
     case measure=>simp[intOf];omega
    ·have HK:=Lib.hid (show oY=0∨nV X Y e oX oY nX nY from hls.k.elim (fun h=>Or.inl h.2.1) (fun h=>h.2.2.2.2.2))
     have HB:=Lib.hid hb
     have HBD:=Lib.hid hbd
     obtain⟨d0,d1,d2,d3,d4,df⟩:=bT hR
     have df0:=df 0;have df1:=df 1;have df2:=df 2;have df3:=df 3;have df4:=df 4
     have HW:=Lib.hid (bT (kI (uX:=oX) (uY:=oY) (vX:=nX) (vY:=nY) (f:=e) hR))
     clear hls hb hbd cf df
     go_wp2
     obtain⟨x0',x1',x2',x3',x4',-⟩:=HW.out
     refine bodyPost_ret (v:= .agg #[.int .u64 (oX:Nat),.int .u64 (oY:Nat),.int .u64 (nX:Nat),.int .u64 (nY:Nat),.bool e]) ?_ rfl ?_
     ·simp[results,Tryz.results219,go_sem,x0',x1',x2',x3',x4']
     ·exact⟨e,oX,oY,nX,nY,rfl,⟨HBD.out,HK.out⟩,((((HB.out.setCell (p:=⟨w.heap.size,0,none⟩) (Nat.le_refl _) _).setCell (p:=⟨w.heap.size,1,none⟩) (Nat.le_refl _) _).setCell (p:=⟨w.heap.size,2,none⟩) (Nat.le_refl _) _).setCell (p:=⟨w.heap.size,3,none⟩) (Nat.le_refl _) _).setCell (p:=⟨w.heap.size,4,none⟩) (Nat.le_refl _) _⟩
   ·have HK:=Lib.hid (show oY=0∨nV X Y e oX oY nX nY from hls.k.elim (fun h=>Or.inl h.2.1) (fun h=>h.2.2.2.2.2))
    have HB:=Lib.hid hb
    have HBD:=Lib.hid hbd
    obtain⟨d0,d1,d2,d3,d4,df⟩:=bT hR
    have df0:=df 0;have df1:=df 1;have df2:=df 2;have df3:=df 3;have df4:=df 4
    have HW:=Lib.hid (bT (kI (uX:=oX) (uY:=oY) (vX:=nX) (vY:=nY) (f:=e) hR))
    clear hls hb hbd cf df
    go_wp2
    obtain⟨x0',x1',x2',x3',x4',-⟩:=HW.out
    refine bodyPost_ret (v:= .agg #[.int .u64 (oX:Nat),.int .u64 (oY:Nat),.int .u64 (nX:Nat),.int .u64 (nY:Nat),.bool e]) ?_ rfl ?_
    ·simp[results,Tryz.results219,go_sem,x0',x1',x2',x3',x4']
    ·exact⟨e,oX,oY,nX,nY,rfl,⟨HBD.out,HK.out⟩,((((HB.out.setCell (p:=⟨w.heap.size,0,none⟩) (Nat.le_refl _) _).setCell (p:=⟨w.heap.size,1,none⟩) (Nat.le_refl _) _).setCell (p:=⟨w.heap.size,2,none⟩) (Nat.le_refl _) _).setCell (p:=⟨w.heap.size,3,none⟩) (Nat.le_refl _) _).setCell (p:=⟨w.heap.size,4,none⟩) (Nat.le_refl _) _⟩
end Go.Proofs.YtlhmfgbaefaneaaGreatDoor.nat
namespace Go.Proofs.YtlhmfgbaefaneaaGreatDoor.nat
open Go.RowKit
theorem Ji (sx sy:Value)(x y:List Nat)(oX oY nX nY P Q:Nat)(w:World)(hx:Rd w sx x)(hy:Rd w sy y)(hdx:Dig x)(hdy:Dig y)(hs:x.length≤900000)(ht:y.length≤900000)(hb:oX<18446744073709551616∧oY<18446744073709551616∧nX<18446744073709551616∧nY<18446744073709551616)
  (hP:P+val y*oY=val x*oX) (hQ:Q+val x*nX=val y*nY):
  Calls Tryz.prog 220 #[.agg #[.int .u64 (oX:Nat),.int .u64 (oY:Nat),.int .u64 (nX:Nat),.int .u64 (nY:Nat),.bool true],sx,sy] w fun e' w'=>∃sa sb,e'= .returned (.tuple #[sa,sb])∧(Own w' w.heap.size sa (digs P)∧Own w' w.heap.size sb (digs Q))∧Below w.heap.size w w':=by
 obtain⟨b1,b2,b3,b4⟩:=hb
 have HBa:=Lib.hid ((Below.refl w.heap.size w).alloc (Nat.le_refl _) (five oX oY nX nY true))
 have HX:=Lib.hid hx
 have HY:=Lib.hid hy
 have M1:=Lib.hid (fun (w':World)(hb:Below w.heap.size w w')=>vT sx sy x y oX oY w' (hx.below hb) (hy.below hb) hdx hdy (by omega) (by omega) (by omega) (by omega) (by omega))
 have M2:=Lib.hid (fun (w':World)(hb:Below w.heap.size w w')=>vT sy sx y x nY nX w' (hy.below hb) (hx.below hb) hdy hdx (by omega) (by omega) (by omega) (by omega) (by omega))
 rw[show val x*oX - val y*oY=P by omega] at M1
 rw[show val y*nY - val x*nX=Q by omega] at M2
 obtain⟨ao,xcap,rfl,-⟩:=id hx
 obtain⟨bo,ycap,rfl,-⟩:=id hy
 obtain⟨N,hN⟩:∃N,x.length=N:=⟨_,rfl⟩
 obtain⟨M,hM⟩:∃M,y.length=M:=⟨_,rfl⟩
 rw[hN,hM] at M1 M2 ⊢
 obtain⟨c0,c1,c2,c3,c4,-⟩:=bT (heap_alloc_new w (five oX oY nX nY true))
 have HSZ:=Lib.hid (show(w.alloc (five oX oY nX nY true)).heap.size=w.heap.size+1 by simp)
 clear hx hy hP hQ hs ht hN hM
 unfold five at HBa c0 c1 c2 c3 c4 HSZ
 go_enter Tryz.func220,Tryz.ntmps220
 go_wp2
 revert HBa c0 c1 c2 c3 c4 HSZ
 generalize w.alloc (Obj.cells #[Value.int .u64 (oX:Nat),.int .u64 (oY:Nat),.int .u64 (nX:Nat),.int .u64 (nY:Nat),.bool true] 228 (0,0))=w1
 intro HBa c0 c1 c2 c3 c4 HSZ
 go_region_held3 (fun w'=>w'.cell? ⟨w.heap.size,0,none⟩=some (.int .u64 (oX:Nat))∧w'.cell? ⟨w.heap.size,1,none⟩=some (.int .u64 (oY:Nat))∧w'.cell? ⟨w.heap.size,2,none⟩=some (.int .u64 (nX:Nat))∧w'.cell? ⟨w.heap.size,3,none⟩=some (.int .u64 (nY:Nat)))
  (first|exact⟨‹_›,‹_›,‹_›,‹_›⟩|exact⟨c0,c1,c2,c3⟩|go_keep)
  (first
    |(go_at_call 259;with_reducible refine(M1.out _ HBa.out.drew).mono ?_;rintro e' w2 ⟨sa,rfl,ho,hb2⟩
      have HOA:=Lib.hid ho
      have HB2:=Lib.hid (HBa.out.drew.trans (hb2.mono HBa.out.size))
      have d0:=(hb2.cell (p:=⟨w.heap.size,0,none⟩) (show w.heap.size<w1.heap.size by rw[HSZ.out];omega)).trans c0
      have d1:=(hb2.cell (p:=⟨w.heap.size,1,none⟩) (show w.heap.size<w1.heap.size by rw[HSZ.out];omega)).trans c1
      have d2:=(hb2.cell (p:=⟨w.heap.size,2,none⟩) (show w.heap.size<w1.heap.size by rw[HSZ.out];omega)).trans c2
      have d3:=(hb2.cell (p:=⟨w.heap.size,3,none⟩) (show w.heap.size<w1.heap.size by rw[HSZ.out];omega)).trans c3
      clear M1 ho hb2)
    |(go_at_call 259;with_reducible refine(M2.out _ HB2.out).mono ?_;rintro e' w3 ⟨sb,rfl,ho,hb3⟩
      have HOB:=Lib.hid (ho.mono (B':=w.heap.size) HB2.out.size)
      have HOA3:=Lib.hid ((HOA.out.below hb3).mono (B':=w.heap.size) HBa.out.size)
      have HB3:=Lib.hid (HB2.out.trans (hb3.mono HB2.out.size))
      have f0:=(hb3.cell (aO d0)).trans d0
      have f1:=(hb3.cell (aO d1)).trans d1
      have f2:=(hb3.cell (aO d2)).trans d2
      have f3:=(hb3.cell (aO d3)).trans d3
      clear M2 ho hb3))
 go_wp2
 go_ret2
 exact⟨_,_,rfl,⟨HOA3.out,HOB.out⟩,HB3.out⟩
theorem Ot (sx sy:Value)(x y:List Nat)(oX oY nX nY P Q:Nat)(w:World)(hx:Rd w sx x)(hy:Rd w sy y)(hdx:Dig x)(hdy:Dig y)(hs:x.length≤900000)(ht:y.length≤900000)(hb:oX<18446744073709551616∧oY<18446744073709551616∧nX<18446744073709551616∧nY<18446744073709551616)
  (hP:P+val x*oX=val y*oY) (hQ:Q+val y*nY=val x*nX):
  Calls Tryz.prog 220 #[.agg #[.int .u64 (oX:Nat),.int .u64 (oY:Nat),.int .u64 (nX:Nat),.int .u64 (nY:Nat),.bool false],sx,sy] w fun e' w'=>∃sa sb,e'= .returned (.tuple #[sa,sb])∧(Own w' w.heap.size sa (digs P)∧Own w' w.heap.size sb (digs Q))∧Below w.heap.size w w':=by
 obtain⟨b1,b2,b3,b4⟩:=hb
 have HBa:=Lib.hid ((Below.refl w.heap.size w).alloc (Nat.le_refl _) (five oX oY nX nY false))
 have HX:=Lib.hid hx
 have HY:=Lib.hid hy
 have M1:=Lib.hid (fun (w':World)(hb:Below w.heap.size w w')=>vT sy sx y x oY oX w' (hy.below hb) (hx.below hb) hdy hdx (by omega) (by omega) (by omega) (by omega) (by omega))
 have M2:=Lib.hid (fun (w':World)(hb:Below w.heap.size w w')=>vT sx sy x y nX nY w' (hx.below hb) (hy.below hb) hdx hdy (by omega) (by omega) (by omega) (by omega) (by omega))
 rw[show val y*oY - val x*oX=P by omega] at M1
 rw[show val x*nX - val y*nY=Q by omega] at M2
 obtain⟨ao,xcap,rfl,-⟩:=id hx
 obtain⟨bo,ycap,rfl,-⟩:=id hy
 obtain⟨N,hN⟩:∃N,x.length=N:=⟨_,rfl⟩
 obtain⟨M,hM⟩:∃M,y.length=M:=⟨_,rfl⟩
 rw[hN,hM] at M1 M2 ⊢
 obtain⟨c0,c1,c2,c3,c4,-⟩:=bT (heap_alloc_new w (five oX oY nX nY false))
 have HSZ:=Lib.hid (show(w.alloc (five oX oY nX nY false)).heap.size=w.heap.size+1 by simp)
 clear hx hy hP hQ hs ht hN hM
 unfold five at HBa c0 c1 c2 c3 c4 HSZ
 go_enter Tryz.func220,Tryz.ntmps220
 go_wp2
 revert HBa c0 c1 c2 c3 c4 HSZ
 generalize w.alloc (Obj.cells #[Value.int .u64 (oX:Nat),.int .u64 (oY:Nat),.int .u64 (nX:Nat),.int .u64 (nY:Nat),.bool false] 228 (0,0))=w1
 intro HBa c0 c1 c2 c3 c4 HSZ
 go_region_held3 (fun w'=>w'.cell? ⟨w.heap.size,0,none⟩=some (.int .u64 (oX:Nat))∧w'.cell? ⟨w.heap.size,1,none⟩=some (.int .u64 (oY:Nat))∧w'.cell? ⟨w.heap.size,2,none⟩=some (.int .u64 (nX:Nat))∧w'.cell? ⟨w.heap.size,3,none⟩=some (.int .u64 (nY:Nat)))
  (first|exact⟨‹_›,‹_›,‹_›,‹_›⟩|exact⟨c0,c1,c2,c3⟩|go_keep)
  (first
    |(go_at_call 259;with_reducible refine(M1.out _ HBa.out.drew).mono ?_;rintro e' w2 ⟨sa,rfl,ho,hb2⟩
      have HOA:=Lib.hid ho
      have HB2:=Lib.hid (HBa.out.drew.trans (hb2.mono HBa.out.size))
      have d0:=(hb2.cell (p:=⟨w.heap.size,0,none⟩) (show w.heap.size<w1.heap.size by rw[HSZ.out];omega)).trans c0
      have d1:=(hb2.cell (p:=⟨w.heap.size,1,none⟩) (show w.heap.size<w1.heap.size by rw[HSZ.out];omega)).trans c1
      have d2:=(hb2.cell (p:=⟨w.heap.size,2,none⟩) (show w.heap.size<w1.heap.size by rw[HSZ.out];omega)).trans c2
      have d3:=(hb2.cell (p:=⟨w.heap.size,3,none⟩) (show w.heap.size<w1.heap.size by rw[HSZ.out];omega)).trans c3
      clear M1 ho hb2)
    |(go_at_call 259;with_reducible refine(M2.out _ HB2.out).mono ?_;rintro e' w3 ⟨sb,rfl,ho,hb3⟩
      have HOB:=Lib.hid (ho.mono (B':=w.heap.size) HB2.out.size)
      have HOA3:=Lib.hid ((HOA.out.below hb3).mono (B':=w.heap.size) HBa.out.size)
      have HB3:=Lib.hid (HB2.out.trans (hb3.mono HB2.out.size))
      have f0:=(hb3.cell (aO d0)).trans d0
      have f1:=(hb3.cell (aO d1)).trans d1
      have f2:=(hb3.cell (aO d2)).trans d2
      have f3:=(hb3.cell (aO d3)).trans d3
      clear M2 ho hb3))
 go_wp2
 go_ret2
 exact⟨_,_,rfl,⟨HOA3.out,HOB.out⟩,HB3.out⟩
theorem Ac (sx sy:Value)(x y:List Nat)(e:Bool)(oX oY nX nY:Nat)(w:World)(hx:Rd w sx x)(hy:Rd w sy y)(hdx:Dig x)(hdy:Dig y)(hs:x.length≤900000)(ht:y.length≤900000)(hb:oX<18446744073709551616∧oY<18446744073709551616∧nX<18446744073709551616∧nY<18446744073709551616)
  (hO:nV (val x) (val y) e oX oY nX nY):
  Calls Tryz.prog 220 #[.agg #[.int .u64 (oX:Nat),.int .u64 (oY:Nat),.int .u64 (nX:Nat),.int .u64 (nY:Nat),.bool e],sx,sy] w fun e' w'=>∃P Q sa sb,e'= .returned (.tuple #[sa,sb])∧(Q<P∧P≤val y∧Nat.gcd P Q=Nat.gcd (val x) (val y)∧Own w' w.heap.size sa (digs P)∧Own w' w.heap.size sb (digs Q))∧Below w.heap.size w w':=by
 obtain⟨P,Q,hP,hQ,h1,h2,h3,h4⟩:=hO
 have hg:=nV.gcd hP hQ h3 h4
 cases e
 ·have p:=hP.2 rfl
  have q:=hQ.1 rfl
  refine(Ot sx sy x y oX oY nX nY P Q w hx hy hdx hdy hs ht hb (by rw[Nat.mul_comm (val x),Nat.mul_comm (val y)];exact p) (by rw[Nat.mul_comm (val x),Nat.mul_comm (val y)];exact q)).mono ?_
  rintro e' w' ⟨sa,sb,rfl,⟨ha,hb⟩,hbl⟩
  exact⟨P,Q,sa,sb,rfl,⟨h1,h2,hg,ha,hb⟩,hbl⟩
 ·have p:=hP.1 rfl
  have q:=hQ.2 rfl
  refine(Ji sx sy x y oX oY nX nY P Q w hx hy hdx hdy hs ht hb (by rw[Nat.mul_comm (val x),Nat.mul_comm (val y)];exact p) (by rw[Nat.mul_comm (val x),Nat.mul_comm (val y)];exact q)).mono ?_
  rintro e' w' ⟨sa,sb,rfl,⟨ha,hb⟩,hbl⟩
  exact⟨P,Q,sa,sb,rfl,⟨h1,h2,hg,ha,hb⟩,hbl⟩
end Go.Proofs.YtlhmfgbaefaneaaGreatDoor.nat
