/-
  The steps of the walks, part 32: Begun6, RollM, RolA.
-/
import Derived.BigQuiet
import Derived.Deep.QuietTactic
import Derived.Test.YtlhmfgbaefaneaaGreatDoorM31
import Derived.Test.YtlhmfgbaefaneaaGreatDoorM29
import Derived.Test.YtlhmfgbaefaneaaGreatDoorM28
import Derived.Test.YtlhmfgbaefaneaaGreatDoorM25
import Derived.Test.YtlhmfgbaefaneaaGreatDoorM27
set_option maxHeartbeats 4000000
set_option maxRecDepth 100000
namespace Go.Proofs.YtlhmfgbaefaneaaGreatDoor.law6
open Go Go.RowKit Go.Proofs.YtlhmfgbaefaneaaGreatDoor.day Go.Proofs.YtlhmfgbaefaneaaGreatDoor.date
open Go.Proofs.YtlhmfgbaefaneaaGreatDoor.ref (str aD)
open Go.Proofs.YtlhmfgbaefaneaaGreatDoor.ref6 (CAt iH iE aW aH)
theorem Ev (w:World):Calls Tryz.prog 67 #[] w fun e w'=>e= .returned (.int .i64 1)∧w=w':=by
 go_enter Tryz.func67,Tryz.ntmps67
 go_wp2
 go_ret
 exact⟨rfl,rfl⟩
theorem Vm {w:World}{v:Value}{q:Rat}(h:rat.IsR w v q)(hn:v≠ .pointer none):∃a,v= .pointer (some a):=by
 rcases h with ⟨h,-⟩|⟨b,o,y,h,-⟩
 ·exact absurd h hn
 ·exact⟨_,h⟩
def RBox (w:World)(g:Nat):Prop:=ref6.RAt w g 1 1 1 0 0 false
theorem RBox.new (w:World):RBox (w.alloc (.cells #[.int .i64 1,.int .i64 1,.int .i64 1,.int .i64 0,.int .i64 0,.bool false] 60)) w.heap.size:=ref6.RAt.new w 1 1 1 0 0 false
theorem RBox.below {w w':World}{g:Nat}(h:RBox w g)(hb:Below w.heap.size w w'):RBox w' g:=ref6.RAt.below h hb
theorem RBox.at {w:World}{g:Nat}(h:RBox w g):w.cell? ⟨g,0,none⟩=some (.int .i64 1)∧w.cell? ⟨g,1,none⟩=some (.int .i64 1)∧w.cell? ⟨g,2,none⟩=some (.int .i64 1)∧w.cell? ⟨g,3,none⟩=some (.int .i64 0)∧w.cell? ⟨g,4,none⟩=some (.int .i64 0)∧w.cell? ⟨g,5,none⟩=some (.bool false):=ref6.RAt.at h
theorem Wp (w:World):kR (w.alloc (.cells #[.int .i64 1,.int .i64 1,.int .i64 1,.int .i64 0,.int .i64 0,.bool false] 60)) (.slice (some ⟨w.heap.size,0,none⟩) 1 1) [⟨1,1,1,0,0,false⟩]:=by
 refine⟨_,_,rfl,by decide,fun k r hk=> ?_⟩
 obtain⟨rfl,rfl⟩:k=0∧r=⟨1,1,1,0,0,false⟩:=by
  cases k
  ·exact⟨rfl,by simpa using hk.symm⟩
  ·simp at hk
 obtain⟨c0,c1,c2,c3,c4,c5⟩:=(RBox.new w).at
 exact⟨w.heap.size,0,rfl,c0,c1,c2,c3,c4,c5⟩
theorem Qn (w:World)(o:Obj):kR ((w.alloc o).alloc (.cells #[.int .i64 1,.int .i64 1,.int .i64 1,.int .i64 0,.int .i64 0,.bool false] 60)) (.slice (some ⟨w.heap.size+1,0,none⟩) 1 1) [⟨1,1,1,0,0,false⟩]:=by
 have h:=Wp (w.alloc o)
 rwa [World.size_alloc] at h
theorem _root_.Go.Proofs.YtlhmfgbaefaneaaGreatDoor.law6.kD.below {w w':World}{v:Value}{us:List (Option Addr×List ref6.CalT)}(h:kD cal.dF w v us)(hb:Below w.heap.size w w'):kD cal.dF w' v us:=by
 obtain⟨ao,cap,rfl,h1,h2⟩:=h
 refine⟨ao,cap,rfl,h1,fun k u hk=> ?_⟩
 obtain⟨g,e,c,hc⟩:=h2 k u hk
 exact⟨g,e,ref6.cell_below c hb,hc.keep hb⟩
theorem _root_.Go.Proofs.YtlhmfgbaefaneaaGreatDoor.cal.dF.below {w w':World}{v:Value}{cs:List ref6.CalT}(h:cal.dF w v cs)(hb:Below w.heap.size w w'):cal.dF w' v cs:=h.keep hb
theorem Xu (w:World)(ac:Addr)(cs:List ref6.CalT)(h:cal.dF w (.pointer (some ac)) cs):kD cal.dF (w.alloc (.cells #[.pointer (some ac),.pointer none] 55)) (.slice (some ⟨w.heap.size,0,none⟩) 2 2) [(some ac,cs),(none,[])]:=by
 have hb:=(Below.refl w.heap.size w).alloc (Nat.le_refl _) (.cells #[.pointer (some ac),.pointer none] 55)
 refine⟨_,_,rfl,by simp,fun k u hk=> ?_⟩
 rcases(show(k=0∧u=(some ac,cs))∨(k=1∧u=(none,[])) from by
  match k,hk with
  |0,hk=>exact Or.inl ⟨rfl,by simpa using hk.symm⟩
  |1,hk=>exact Or.inr ⟨rfl,by simpa using hk.symm⟩
  |k+2,hk=>simp at hk) with ⟨rfl,rfl⟩|⟨rfl,rfl⟩
 ·exact⟨w.heap.size,rfl,by rw[cell_of_row _ w.heap.size _ _ _ (0,0) (heap_alloc_new _ _)];rfl,h.keep hb⟩
 ·exact⟨w.heap.size,rfl,by rw[cell_of_row _ w.heap.size _ _ _ (0,0) (heap_alloc_new _ _)];rfl,cal.nQ.none_ _⟩
theorem Ua (q:Rat)
  (P1: (∀W,Wd W→Calls Tryz.prog 22 #[.agg #[.int .i64 2000,.int .i64 2,.int .i64 29]] W fun e w'=>e= .returned (.tuple #[.int .i64 36583,.nilIface])∧Below W.heap.size W w'))
  (P2: (∀W,Wd W→Calls Tryz.prog 20 #[.int .i64 36583] W fun e w'=>e= .returned (.tuple #[.agg #[.int .i64 2000,.int .i64 2,.int .i64 29],.nilIface])∧Below W.heap.size W w'))
  (P3: (∀W,Wd W→Calls Tryz.prog 35 #[.int .i64 36583,.int .i64 12,.bool false] W fun e w'=>e= .returned (.tuple #[.int .i64 36948,.nilIface])∧Below W.heap.size W w'))
  (P4: (∀W,Wd W→Calls Tryz.prog 42 #[.int .i64 2024] W fun e w'=>e= .returned (.tuple #[.int .i64 45380,.nilIface])∧Below W.heap.size W w'))
  (P5: (∀W v,Wd W→cal.dF W v [⟨[⟨1,1,1,0,0,false⟩],[]⟩]→Calls Tryz.prog 55 #[v,.int .i64 0,.int .i64 1] W fun e w'=>e= .returned (.tuple #[.int .i64 1,.nilIface])∧Below W.heap.size W w'))
  (P6: (∀W,Wd W→Calls Tryz.prog 57 #[.int .i64 1,.int .i64 36583,.int .i64 36948,.int .i64 0,.int .i64 0,.int .i64 0] W fun e w'=>∃u,e= .returned (.tuple #[u,.nilIface])∧(rat.IsR w' u q∧u≠ .pointer none)∧Below W.heap.size W w'))
  (P7: (∀W,Wd W→Calls Tryz.prog 68 #[] W fun e w'=>e= .returned (.bool true)∧Below W.heap.size W w'))
  (P8: (∀W,Wd W→Calls Tryz.prog 23 #[.int .i64 36583] W fun e w'=>e= .returned (.string ⟨#[50,48,48,48,45,48,50,45,50,57]⟩)∧Below W.heap.size W w'))
  (P9: (∀W,Wd W→Calls Tryz.prog 23 #[.int .i64 36948] W fun e w'=>e= .returned (.string ⟨#[50,48,48,49,45,48,50,45,50,56]⟩)∧Below W.heap.size W w'))
  (P10: (∀W,Wd W→Calls Tryz.prog 23 #[.int .i64 45380] W fun e w'=>e= .returned (.string ⟨#[50,48,50,52,45,48,51,45,51,49]⟩)∧Below W.heap.size W w'))
  (P11: (∀W v,Wd W→cal.dF W v [⟨[⟨1,1,1,0,0,false⟩],[]⟩]→Calls Tryz.prog 50 #[v,.int .i64 0] W fun e w'=>e= .returned (.bool false)∧Below W.heap.size W w'))
  (P12: (∀W v,Wd W→cal.dF W v [⟨[⟨1,1,1,0,0,false⟩],[]⟩]→Calls Tryz.prog 50 #[v,.int .i64 1] W fun e w'=>e= .returned (.bool true)∧Below W.heap.size W w'))
  (P13: (∀W v,rat.IsR W v q→Calls Tryz.prog 62 #[v] W fun e w'=>e= .returned (.string ⟨#[51,53,57,47,51,54,48]⟩)∧Below W.heap.size W w'))
  (P14: (∀W,Calls Tryz.prog 26 #[.int .i64 0] W fun e w'=>e= .returned (.int .i64 1)∧W=w'))
  (P15: (∀W,Wd W→Calls Tryz.prog 69 #[.agg #[.int .i64 1,.int .i64 1,.int .i64 1,.int .i64 0,.int .i64 0,.bool false],.int .i64 0] W fun e w'=>e= .returned (.bool true)∧Below W.heap.size W w'))
  (P16: (∀W,Wd W→Calls Tryz.prog 38 #[.int .i64 36583] W fun e w'=>e= .returned (.bool true)∧Below W.heap.size W w')) (w:World) (hw:Wd w):
  Calls Tryz.prog 17 #[] w fun e w'=>e= .returned (.bool true)∧Below w.heap.size w w':=by
 have HW:=Lib.hid (fun W (h:Below w.heap.size w W)=>hw.keep h)
 have C1:=Lib.hid (fun (W:World)(hW:Wd W)=>P1 W hW)
 have C2:=Lib.hid (fun (W:World)(hW:Wd W)=>P2 W hW)
 have C3:=Lib.hid (fun (W:World)(hW:Wd W)=>P3 W hW)
 have C4:=Lib.hid (fun (W:World)(hW:Wd W)=>P4 W hW)
 have C5:=Lib.hid (fun (W:World)(hW:Wd W)(v:Value)(h:kR W v [⟨1,1,1,0,0,false⟩])=>cal.nQ.new v _ _ _ W hW h (law6.Qa W) (by decide))
 have C6:=Lib.hid (fun (W:World)(hW:Wd W)(v:Value)(h:cal.dF W v [⟨[⟨1,1,1,0,0,false⟩],[]⟩])=>P5 W v hW h)
 have C7:=Lib.hid (fun (W:World)=>Ev W)
 have C8:=Lib.hid (fun (W:World)(hW:Wd W)=>P6 W hW)
 have C9:=Lib.hid (fun (W:World)(hW:Wd W)=>P7 W hW)
 have C10:=Lib.hid (fun (W:World)(hW:Wd W)=>P8 W hW)
 have C11:=Lib.hid (fun (W:World)(hW:Wd W)=>P9 W hW)
 have C12:=Lib.hid (fun (W:World)(hW:Wd W)=>P10 W hW)
 have C13:=Lib.hid (fun (W:World)(hW:Wd W)(v:Value)(h:cal.dF W v [⟨[⟨1,1,1,0,0,false⟩],[]⟩])=>P11 W v hW h)
 have C14:=Lib.hid (fun (W:World)(hW:Wd W)(v:Value)(h:cal.dF W v [⟨[⟨1,1,1,0,0,false⟩],[]⟩])=>P12 W v hW h)
 have C15:=Lib.hid (fun (W:World)(v:Value)(h:rat.IsR W v q)=>P13 W v h)
 have C16:=Lib.hid (fun (W:World)=>P14 W)
 have C17:=Lib.hid (fun (W:World)(hW:Wd W)=>P15 W hW)
 have C18:=Lib.hid (fun (W:World)(hW:Wd W)=>P16 W hW)
 have C19:=Lib.hid (fun (W:World)(v:Value)(ac:Addr)(h:kD cal.dF W v [(some ac,[⟨[⟨1,1,1,0,0,false⟩],[]⟩]),(none,[])])=>cal.Lp v _ W h)
 have HR0:=Lib.hid (Below.refl w.heap.size w)
 clear P1 P2 P3 P4 P5 P6 P7 P8 P9 P10 P11 P12 P13 P14 P15 P16
 clear hw
 go_enter Tryz.func17,Tryz.ntmps17
 go_wp2_with (first
  |(go_at_call 22;(with_reducible refine(C1.out _ (HW.out _ HR0.out)).mono ?_);rintro e W1 ⟨rfl,hb⟩
    have HR1:=Lib.hid (aC HR0.out hb rfl)
    clear C1 hb)
  |(go_at_call 20;(with_reducible refine(C2.out _ (HW.out _ HR1.out)).mono ?_);rintro e W2 ⟨rfl,hb⟩
    have M2_0:=Lib.hid (CAt.new W2 2000 2 29)
    have HR2:=Lib.hid (Below.alloc (aC HR1.out hb rfl) (Below.size (aC HR1.out hb rfl)) (.cells #[.int .i64 2000,.int .i64 2,.int .i64 29] 23))
    obtain⟨q2_0_0,q2_0_1,q2_0_2,-⟩:=M2_0.out.cells
    clear C2 hb)
  |(go_at_call 35;(with_reducible refine(C3.out _ (HW.out _ HR2.out)).mono ?_);rintro e W3 ⟨rfl,hb⟩
    have M3_0:=Lib.hid (M2_0.out.below hb)
    have HR3:=Lib.hid (aC HR2.out hb rfl)
    obtain⟨q3_0_0,q3_0_1,q3_0_2,-⟩:=M3_0.out.cells
    clear q2_0_0 q2_0_1 q2_0_2 C3 hb)
  |(go_at_call 42;(with_reducible refine(C4.out _ (HW.out _ HR3.out)).mono ?_);rintro e W4 ⟨rfl,hb⟩
    have M4_0:=Lib.hid (M3_0.out.below hb)
    have HR4:=Lib.hid (aC HR3.out hb rfl)
    have Gr_4x:=Lib.hid (RBox.new W4)
    have M4_0a:=Lib.hid (M4_0.out.below ((Below.refl _ _).alloc (Nat.le_refl _) (.cells #[.int .i64 1,.int .i64 1,.int .i64 1,.int .i64 0,.int .i64 0,.bool false] 60)))
    clear M4_0;have M4_0:=M4_0a;clear M4_0a
    have HR4a:=Lib.hid (HR4.out.alloc HR4.out.size (.cells #[.int .i64 1,.int .i64 1,.int .i64 1,.int .i64 0,.int .i64 0,.bool false] 60))
    clear HR4;have HR4:=HR4a;clear HR4a
    have Gr_4:=Gr_4x;clear Gr_4x
    have Gs_4x:=Lib.hid (Qn W4 (.cells #[.int .i64 1,.int .i64 1,.int .i64 1,.int .i64 0,.int .i64 0,.bool false] 60))
    have M4_0a:=Lib.hid (M4_0.out.below ((Below.refl _ _).alloc (Nat.le_refl _) (.cells #[.int .i64 1,.int .i64 1,.int .i64 1,.int .i64 0,.int .i64 0,.bool false] 60)))
    clear M4_0;have M4_0:=M4_0a;clear M4_0a
    have Gr_4a:=Lib.hid (Gr_4.out.below ((Below.refl _ _).alloc (Nat.le_refl _) (.cells #[.int .i64 1,.int .i64 1,.int .i64 1,.int .i64 0,.int .i64 0,.bool false] 60)))
    clear Gr_4;have Gr_4:=Gr_4a;clear Gr_4a
    have HR4a:=Lib.hid (HR4.out.alloc HR4.out.size (.cells #[.int .i64 1,.int .i64 1,.int .i64 1,.int .i64 0,.int .i64 0,.bool false] 60))
    clear HR4;have HR4:=HR4a;clear HR4a
    have Gs_4:=Gs_4x;clear Gs_4x
    obtain⟨q4_0_0,q4_0_1,q4_0_2,-⟩:=M4_0.out.cells
    clear q3_0_0 q3_0_1 q3_0_2 C4 hb)
  |(go_at_call 44;(with_reducible refine(C5.out _ (HW.out _ HR4.out) _ Gs_4.out).mono ?_);rintro e W5 ⟨ac,rfl,h_c,hb⟩
    have M5_0:=Lib.hid (M4_0.out.below hb)
    have Gr_5:=Lib.hid (Gr_4.out.below hb)
    have Gs_5:=Lib.hid (Gs_4.out.below hb)
    have Gc_5:=Lib.hid h_c
    have HR5:=Lib.hid (aC HR4.out hb rfl)
    obtain⟨q5_0_0,q5_0_1,q5_0_2,-⟩:=M5_0.out.cells
    clear q4_0_0 q4_0_1 q4_0_2 C5 hb h_c)
  |(go_at_call 55;(with_reducible refine(C6.out _ (HW.out _ HR5.out) _ Gc_5.out).mono ?_);rintro e W6 ⟨rfl,hb⟩
    have M6_0:=Lib.hid (M5_0.out.below hb)
    have Gr_6:=Lib.hid (Gr_5.out.below hb)
    have Gs_6:=Lib.hid (Gs_5.out.below hb)
    have Gc_6:=Lib.hid (Gc_5.out.below hb)
    have HR6:=Lib.hid (aC HR5.out hb rfl)
    obtain⟨q6_0_0,q6_0_1,q6_0_2,-⟩:=M6_0.out.cells
    clear q5_0_0 q5_0_1 q5_0_2 C6 hb)
  |(go_at_call 67;(with_reducible refine(C7.out _).mono ?_);rintro e w9 ⟨rfl,rfl⟩
    have HR7:=Lib.hid HR6.out
    clear C7)
  |(go_at_call 57;(with_reducible refine(C8.out _ (HW.out _ HR7.out)).mono ?_);rintro e W8 ⟨u,rfl,⟨h_q,hun⟩,hb⟩
    obtain⟨au,rfl⟩:=Vm h_q hun
    clear hun
    have M8_0:=Lib.hid (M6_0.out.below hb)
    have Gr_8:=Lib.hid (Gr_6.out.below hb)
    have Gs_8:=Lib.hid (Gs_6.out.below hb)
    have Gc_8:=Lib.hid (Gc_6.out.below hb)
    have Gq_8:=Lib.hid h_q
    have HR8:=Lib.hid (aC HR7.out hb rfl)
    obtain⟨q8_0_0,q8_0_1,q8_0_2,-⟩:=M8_0.out.cells
    clear q6_0_0 q6_0_1 q6_0_2 C8 hb h_q)
  |(go_at_call 68;(with_reducible refine(C9.out _ (HW.out _ HR8.out)).mono ?_);rintro e W9 ⟨rfl,hb⟩
    have M9_0:=Lib.hid (M8_0.out.below hb)
    have Gr_9:=Lib.hid (Gr_8.out.below hb)
    have Gs_9:=Lib.hid (Gs_8.out.below hb)
    have Gc_9:=Lib.hid (Gc_8.out.below hb)
    have Gq_9:=Lib.hid (Gq_8.out.below hb)
    have HR9:=Lib.hid (aC HR8.out hb rfl)
    obtain⟨q9_0_0,q9_0_1,q9_0_2,-⟩:=M9_0.out.cells
    clear q8_0_0 q8_0_1 q8_0_2 C9 hb)
  |(go_at_call 23;(with_reducible refine(C10.out _ (HW.out _ HR9.out)).mono ?_);rintro e W10 ⟨rfl,hb⟩
    have M10_0:=Lib.hid (M9_0.out.below hb)
    have Gr_10:=Lib.hid (Gr_9.out.below hb)
    have Gs_10:=Lib.hid (Gs_9.out.below hb)
    have Gc_10:=Lib.hid (Gc_9.out.below hb)
    have Gq_10:=Lib.hid (Gq_9.out.below hb)
    have HR10:=Lib.hid (aC HR9.out hb rfl)
    obtain⟨q10_0_0,q10_0_1,q10_0_2,-⟩:=M10_0.out.cells
    clear q9_0_0 q9_0_1 q9_0_2 C10 hb)
  |(go_at_call 23;(with_reducible refine(C11.out _ (HW.out _ HR10.out)).mono ?_);rintro e W11 ⟨rfl,hb⟩
    have M11_0:=Lib.hid (M10_0.out.below hb)
    have Gr_11:=Lib.hid (Gr_10.out.below hb)
    have Gs_11:=Lib.hid (Gs_10.out.below hb)
    have Gc_11:=Lib.hid (Gc_10.out.below hb)
    have Gq_11:=Lib.hid (Gq_10.out.below hb)
    have HR11:=Lib.hid (aC HR10.out hb rfl)
    obtain⟨q11_0_0,q11_0_1,q11_0_2,-⟩:=M11_0.out.cells
    clear q10_0_0 q10_0_1 q10_0_2 C11 hb)
  |(go_at_call 23;(with_reducible refine(C12.out _ (HW.out _ HR11.out)).mono ?_);rintro e W12 ⟨rfl,hb⟩
    have M12_0:=Lib.hid (M11_0.out.below hb)
    have Gr_12:=Lib.hid (Gr_11.out.below hb)
    have Gs_12:=Lib.hid (Gs_11.out.below hb)
    have Gc_12:=Lib.hid (Gc_11.out.below hb)
    have Gq_12:=Lib.hid (Gq_11.out.below hb)
    have HR12:=Lib.hid (aC HR11.out hb rfl)
    obtain⟨q12_0_0,q12_0_1,q12_0_2,-⟩:=M12_0.out.cells
    clear q11_0_0 q11_0_1 q11_0_2 C12 hb)
  |(go_at_call 50;(with_reducible refine(C13.out _ (HW.out _ HR12.out) _ Gc_12.out).mono ?_);rintro e W13 ⟨rfl,hb⟩
    have M13_0:=Lib.hid (M12_0.out.below hb)
    have Gr_13:=Lib.hid (Gr_12.out.below hb)
    have Gs_13:=Lib.hid (Gs_12.out.below hb)
    have Gc_13:=Lib.hid (Gc_12.out.below hb)
    have Gq_13:=Lib.hid (Gq_12.out.below hb)
    have HR13:=Lib.hid (aC HR12.out hb rfl)
    obtain⟨q13_0_0,q13_0_1,q13_0_2,-⟩:=M13_0.out.cells
    clear q12_0_0 q12_0_1 q12_0_2 C13 hb)
  |(go_at_call 50;(with_reducible refine(C14.out _ (HW.out _ HR13.out) _ Gc_13.out).mono ?_);rintro e W14 ⟨rfl,hb⟩
    have M14_0:=Lib.hid (M13_0.out.below hb)
    have Gr_14:=Lib.hid (Gr_13.out.below hb)
    have Gs_14:=Lib.hid (Gs_13.out.below hb)
    have Gc_14:=Lib.hid (Gc_13.out.below hb)
    have Gq_14:=Lib.hid (Gq_13.out.below hb)
    have HR14:=Lib.hid (aC HR13.out hb rfl)
    obtain⟨q14_0_0,q14_0_1,q14_0_2,-⟩:=M14_0.out.cells
    clear q13_0_0 q13_0_1 q13_0_2 C14 hb)
  |(go_at_call 62;(with_reducible refine(C15.out _ _ Gq_14.out).mono ?_);rintro e W15 ⟨rfl,hb⟩
    have M15_0:=Lib.hid (M14_0.out.below hb)
    have Gr_15:=Lib.hid (Gr_14.out.below hb)
    have Gs_15:=Lib.hid (Gs_14.out.below hb)
    have Gc_15:=Lib.hid (Gc_14.out.below hb)
    have Gq_15:=Lib.hid (Gq_14.out.below hb)
    have HR15:=Lib.hid (aC HR14.out hb rfl)
    obtain⟨q15_0_0,q15_0_1,q15_0_2,-⟩:=M15_0.out.cells
    clear q14_0_0 q14_0_1 q14_0_2 C15 hb)
  |(go_at_call 26;(with_reducible refine(C16.out _).mono ?_);rintro e w9 ⟨rfl,rfl⟩
    have HR16:=Lib.hid HR15.out
    obtain⟨x0,x1,x2,x3,x4,x5⟩:=Gr_15.out.at
    clear C16)
  |(go_at_call 69;(with_reducible refine(C17.out _ (HW.out _ HR16.out)).mono ?_);rintro e W17 ⟨rfl,hb⟩
    have M17_0:=Lib.hid (M15_0.out.below hb)
    have Gr_17:=Lib.hid (Gr_15.out.below hb)
    have Gs_17:=Lib.hid (Gs_15.out.below hb)
    have Gc_17:=Lib.hid (Gc_15.out.below hb)
    have Gq_17:=Lib.hid (Gq_15.out.below hb)
    have HR17:=Lib.hid (aC HR16.out hb rfl)
    obtain⟨q17_0_0,q17_0_1,q17_0_2,-⟩:=M17_0.out.cells
    clear x0 x1 x2 x3 x4 x5
    clear q15_0_0 q15_0_1 q15_0_2 C17 hb)
  |(go_at_call 38;(with_reducible refine(C18.out _ (HW.out _ HR17.out)).mono ?_);rintro e W18 ⟨rfl,hb⟩
    have M18_0:=Lib.hid (M17_0.out.below hb)
    have Gr_18:=Lib.hid (Gr_17.out.below hb)
    have Gs_18:=Lib.hid (Gs_17.out.below hb)
    have Gc_18:=Lib.hid (Gc_17.out.below hb)
    have Gq_18:=Lib.hid (Gq_17.out.below hb)
    have HR18:=Lib.hid (aC HR17.out hb rfl)
    have Gj_18x:=Lib.hid ((show kD cal.dF (W18.alloc (.cells #[.pointer (some ac),.pointer none] 55)) (.slice (some ⟨W18.heap.size,0,none⟩) 2 2) [(some ac,[⟨[⟨1,1,1,0,0,false⟩],[]⟩]),(none,[])] from Xu W18 ac _ Gc_18.out))
    have M18_0a:=Lib.hid (M18_0.out.below ((Below.refl _ _).alloc (Nat.le_refl _) (.cells #[.pointer (some ac),.pointer none] 55)))
    clear M18_0;have M18_0:=M18_0a;clear M18_0a
    have Gr_18a:=Lib.hid (Gr_18.out.below ((Below.refl _ _).alloc (Nat.le_refl _) (.cells #[.pointer (some ac),.pointer none] 55)))
    clear Gr_18;have Gr_18:=Gr_18a;clear Gr_18a
    have Gs_18a:=Lib.hid (Gs_18.out.below ((Below.refl _ _).alloc (Nat.le_refl _) (.cells #[.pointer (some ac),.pointer none] 55)))
    clear Gs_18;have Gs_18:=Gs_18a;clear Gs_18a
    have Gc_18a:=Lib.hid (Gc_18.out.below ((Below.refl _ _).alloc (Nat.le_refl _) (.cells #[.pointer (some ac),.pointer none] 55)))
    clear Gc_18;have Gc_18:=Gc_18a;clear Gc_18a
    have Gq_18a:=Lib.hid (Gq_18.out.below ((Below.refl _ _).alloc (Nat.le_refl _) (.cells #[.pointer (some ac),.pointer none] 55)))
    clear Gq_18;have Gq_18:=Gq_18a;clear Gq_18a
    have HR18a:=Lib.hid (HR18.out.alloc HR18.out.size (.cells #[.pointer (some ac),.pointer none] 55))
    clear HR18;have HR18:=HR18a;clear HR18a
    have Gj_18:=Gj_18x;clear Gj_18x
    obtain⟨q18_0_0,q18_0_1,q18_0_2,-⟩:=M18_0.out.cells
    clear q17_0_0 q17_0_1 q17_0_2 C18 hb)
  |(go_at_call 49;(with_reducible refine(C19.out _ _ _ Gj_18.out).mono ?_);rintro e W19 ⟨⟨rfl,hjc⟩,hb⟩
    have M19_0:=Lib.hid (M18_0.out.below hb)
    have Gr_19:=Lib.hid (Gr_18.out.below hb)
    have Gs_19:=Lib.hid (Gs_18.out.below hb)
    have Gc_19:=Lib.hid (Gc_18.out.below hb)
    have Gq_19:=Lib.hid (Gq_18.out.below hb)
    have Gj_19:=Lib.hid (Gj_18.out.below hb)
    have HR19:=Lib.hid (aC HR18.out hb rfl)
    obtain⟨q19_0_0,q19_0_1,q19_0_2,-⟩:=M19_0.out.cells
    clear hjc
    clear q18_0_0 q18_0_1 q18_0_2 C19 hb)
  |(fail "no arm"))
 go_ret
 exact⟨rfl,HR19.out⟩
theorem Qh (w:World)(hw:law2.Hd w)(h:law2.iT):Calls Tryz.prog 68 #[] w fun e w'=>e= .returned (.bool true)∧Below w.heap.size w w':=by
 have HB:=Lib.hid (h w hw)
 clear h hw
 go_enter Tryz.func68,Tryz.ntmps68
 go_wp2_with (first
  |(go_at_call 117;(with_reducible refine(HB.out).mono ?_);rintro e w1 ⟨rfl,hb⟩;have HB1:=Lib.hid hb;clear hb)
  |(fail "no arm"))
 go_ret
 exact⟨rfl,HB1.out⟩
theorem Wq:ref6.aZ ([⟨[⟨1,1,1,0,0,false⟩],[]⟩]:List ref6.CalT) 0=false:=by
 have h:¬ref6.aZ ([⟨[⟨1,1,1,0,0,false⟩],[]⟩]:List ref6.CalT) 0=true:=fun h=>by
  have h2:=(ref6.rY (cs:=([⟨[⟨1,1,1,0,0,false⟩],[]⟩]:List ref6.CalT)) (y:=1900) (m:=1) (a:=1) (by decide)).1 (by rw[show aG 1900 1 1=0 from by decide+kernel];exact h)
  rw[show aG 1900 1 1=0 from by decide+kernel] at h2
  have h3:=(h2.2.2 _ (List.mem_singleton.2 rfl)).1 _ (List.mem_singleton.2 rfl)
  exact h3 (by decide+kernel)
 simpa using h
theorem Ws:ref6.aZ ([⟨[⟨1,1,1,0,0,false⟩],[]⟩]:List ref6.CalT) 1=true:=by
 have h2:=(ref6.rY (cs:=([⟨[⟨1,1,1,0,0,false⟩],[]⟩]:List ref6.CalT)) (y:=1900) (m:=1) (a:=2) (by decide)).2 (by
  rw[show aG 1900 1 2=1 from by decide+kernel]
  refine⟨by decide,by decide,fun c hc=> ?_⟩
  rw[List.mem_singleton.1 hc]
  refine⟨fun r hr=> ?_,fun z hz=>by cases hz⟩
  rw[List.mem_singleton.1 hr]
  show ¬ref6.fD 1 1 1 0 0 false 1900 1
  decide+kernel)
 rwa [show aG 1900 1 2=1 from by decide+kernel] at h2
theorem AL:ref6.iY ([⟨[⟨1,1,1,0,0,false⟩],[]⟩]:List ref6.CalT) 0 1=some 1:=by
 rw[ref6.Xb]
 exact ref6.iM (by decide) (by decide) Ws fun x h1 h2=>by
  rw[show x=0 by omega]
  exact Wq
theorem Jj (HR:RolC cal.dF)(HC:CntC)(H2:law2.iT):iT:=by
 intro w hw
 have P1:=fun W (hW:Wd W)=>wH 2000 2 29 (by decide) W hW.lens
 have P2:=fun W (hW:Wd W)=>dU 2000 2 29 (by decide) W hW.lens
 have e1:aG 2000 2 29=36583:=by decide+kernel
 have e2:aG 2001 2 28=36948:=by decide+kernel
 have e3:aG 2024 3 31=45380:=by decide+kernel
 have P3:=fun W (hW:Wd W)=>month.Vt.addYes 2000 2 29 12 false (by decide) (by decide) (by decide) (by decide) (by decide) W hW
 rw[show aG (mY 2000 2 12) (mM 2000 2 12) (ref6.clip false 2000 2 29 (mY 2000 2 12) (mM 2000 2 12))=36948 from by decide+kernel] at P3
 have P4:=fun W (hW:Wd W)=>easter.FD.yes 2024 (by decide) (by decide) W hW
 rw[show fT 2024=45380 from by decide+kernel] at P4
 have P6:=fun W (hW:Wd W)=>HC.part 1 2000 2 29 2001 2 28 0 0 0 (by decide) (by decide) (by decide) (by decide) (by rw[e1,e2];decide) (fun h=>by cases h) W hW
 have eq:uS 1 2000 2 29 2001 2 28 0 0 0=((359:Int):Rat)/((360:Int):Rat):=by
  unfold uS fG
  rw[if_neg (by decide),if_pos rfl,if_neg (by decide),show ref6.thirty 2000 2 29 2001 2 28=359 from by decide+kernel]
 have P8:=fun W (hW:Wd W)=>Bq 2000 2 29 (by decide) W hW.lens hW.tab
 have P9:=fun W (hW:Wd W)=>Bq 2001 2 28 (by decide) W hW.lens hW.tab
 have P10:=fun W (hW:Wd W)=>Bq 2024 3 31 (by decide) W hW.lens hW.tab
 rw[show str (iH 2000 2 29)=⟨#[50,48,48,48,45,48,50,45,50,57]⟩ from by kernel_rfl] at P8
 rw[show str (iH 2001 2 28)=⟨#[50,48,48,49,45,48,50,45,50,56]⟩ from by kernel_rfl] at P9
 rw[show str (iH 2024 3 31)=⟨#[50,48,50,52,45,48,51,45,51,49]⟩ from by kernel_rfl] at P10
 have P13:=fun (W:World)(v:Value)(h:rat.IsR W v (((359:Int):Rat)/((360:Int):Rat)))=>rat.bP v _ W h ((DL (by decide) (by decide) (by decide)).le (by decide))
 rw[show str (rat.rtxt (((359:Int):Rat)/((360:Int):Rat)))=⟨#[51,53,57,47,51,54,48]⟩ from by kernel_rfl] at P13
 have P14:=fun W=>gF 0 (by decide) W
 rw[show wday 0=1 from by decide] at P14
 have P15:=fun W (hW:Wd W)=>holi.FE.is 1 1 1 0 0 false 1900 1 1 (by decide) W hW
 rw[show aG 1900 1 1=0 from by decide+kernel,show decide (ref6.fD 1 1 1 0 0 false 1900 0)=true from by decide+kernel] at P15
 have P16:=fun W (hW:Wd W)=>month.Vt.last 2000 2 29 (by decide) W hW
 rw[show decide ((29:Int)=mlen 2000 2)=true from by decide] at P16
 rw[eq] at P6
 rw[e1] at P1 P2 P6 P8 P16
 rw[e2] at P6 P9
 rw[e3] at P10
 have P11:=fun (W:World)(v:Value)(_:Wd W)(h:cal.dF W v ([⟨[⟨1,1,1,0,0,false⟩],[]⟩]:List ref6.CalT))=>cal.kQ v _ 0 W h
 have P12:=fun (W:World)(v:Value)(_:Wd W)(h:cal.dF W v ([⟨[⟨1,1,1,0,0,false⟩],[]⟩]:List ref6.CalT))=>cal.kQ v _ 1 W h
 rw[Wq] at P11
 rw[Ws] at P12
 exact Ua _ P1 P2 P3 P4 (fun W v hW h=>HR.yes v ([⟨[⟨1,1,1,0,0,false⟩],[]⟩]:List ref6.CalT) 0 1 1 W hW h (fun h=>by omega) (by decide) (by decide) (by decide) AL) P6 (fun W hW=>Qh W hW.hd H2) P8 P9 P10 P11 P12 P13 P14 P15 P16 w hw
end Go.Proofs.YtlhmfgbaefaneaaGreatDoor.law6
namespace Go.Proofs.YtlhmfgbaefaneaaGreatDoor.ref6
open Go.Proofs.YtlhmfgbaefaneaaGreatDoor.day Go.Proofs.YtlhmfgbaefaneaaGreatDoor.law6
theorem xR (y:Int):∀k:Nat,k≤12→28*(k:Int)≤bL y k∧bL y k≤31*(k:Int)
 |0,_=>by simp[bL]
 |k+1,h=>by
  have ih:=xR y k (by omega)
  have l1:=kG (y:=y) (m:=(k:Nat)+1) (by omega) (by omega)
  have l2:=dO y ((k:Nat)+1)
  rw[jG]
  omega
theorem Qi {y m d y' d':Int}(h:aI y m d)(h':aI y' m d')(hy:y<y'):aG y m d+301<aG y' m d':=by
 obtain⟨m1,m2⟩:=h.month
 have a:=xR y (m - 1).toNat (by omega)
 have b:=xR y' (m - 1).toNat (by omega)
 have c:=h.1
 have:=dA (show(y - 1900).toNat+1≤(y' - 1900).toNat by omega)
 have l:=Dt (1900+((y - 1900).toNat:Nat))
 rw[kX] at this
 have e:=dO y m
 have e1:=h.2.2.2
 have e2:=h'.2.2.1
 unfold aG
 omega
theorem Wl {cs:List CalT}(hn:Near cs){y m d y' d':Int}(h:aI y m d)(h':aI y' m d')(hy:y<y'):∃x,aG y m d<x∧x<aG y' m d'∧aZ cs x=true:=by
 have hf:=Qi h h' hy
 obtain⟨a1,a2⟩:=aT h
 obtain⟨b1,b2⟩:=aT h'
 obtain⟨x,x1,x2,x3⟩:=hn (aG y m d+1) ⟨by omega,by omega⟩ ⟨by omega,by omega⟩
 exact⟨x,by omega,by omega,x3⟩
theorem Ki {cs:List CalT}(hn:Near cs){s y m d y' d':Int}(hs:s=1∨s= -1)(h:aI y m d)(h':aI y' m d')(ht:bB cs s (aG y m d)=some (aG y' m d')):y'=y:=by
 rcases Int.lt_trichotomy y y' with hy|hy|hy
 ·obtain⟨z,z1,z2,z3⟩:=Wl hn h h' hy
  rcases hs with rfl|rfl
  ·rw[(nH ht).2.2 z (by omega) z2] at z3;cases z3
  ·have:=(jH ht).1;omega
 ·exact hy.symm
 ·obtain⟨z,z1,z2,z3⟩:=Wl hn h' h hy
  rcases hs with rfl|rfl
  ·have:=(nH ht).1;omega
  ·rw[(jH ht).2.2 z z1 (by omega)] at z3;cases z3
end Go.Proofs.YtlhmfgbaefaneaaGreatDoor.ref6
namespace Go.Proofs.YtlhmfgbaefaneaaGreatDoor.roll
open Go Go.RowKit Go.Proofs.YtlhmfgbaefaneaaGreatDoor.day Go.Proofs.YtlhmfgbaefaneaaGreatDoor.date Go.Proofs.YtlhmfgbaefaneaaGreatDoor.law6
open Go.Proofs.YtlhmfgbaefaneaaGreatDoor.ref6 (CalT aZ bB addN iY fB Near)
theorem Ej {cs:List CalT}{s D:Int}(hs:s=1∨s= -1)(hD:aF D)(ho:aZ cs D=false):addN cs s 1 D=bB cs s D:=by
 have h1:∀t,bB cs s D=some t→bB cs s (D+s)=some t:=fun t ht=>by
  rcases hs with rfl|rfl
  ·obtain⟨t1,t2,t3⟩:=ref6.nH ht
   have hne:D≠t:=fun e=>by rw[e,t2] at ho;cases ho
   have hd:=ref6.dH t2
   exact ref6.iM ⟨by have:=hD.1;omega,by have:=hd.2;omega⟩ (by omega) t2 (fun x hx hx2=>t3 x (by omega) hx2)
  ·obtain⟨t1,t2,t3⟩:=ref6.jH ht
   have hne:D≠t:=fun e=>by rw[e,t2] at ho;cases ho
   have hd:=ref6.dH t2
   exact ref6.gZ ⟨by have:=hd.1;omega,by have:=hD.2;omega⟩ (by omega) t2 (fun x hx hx2=>t3 x hx (by omega))
 have h2:∀t,bB cs s (D+s)=some t→bB cs s D=some t:=fun t ht=>by
  rcases hs with rfl|rfl
  ·obtain⟨t1,t2,t3⟩:=ref6.nH ht
   exact ref6.iM hD (by omega) t2 (fun x hx hx2=>by
    by_cases e:x=D
    ·rw[e];exact ho
    ·exact t3 x (by omega) hx2)
  ·obtain⟨t1,t2,t3⟩:=ref6.jH ht
   exact ref6.gZ hD (by omega) t2 (fun x hx hx2=>by
    by_cases e:x=D
    ·rw[e];exact ho
    ·exact t3 x hx (by omega))
 have he:bB cs s (D+s)=bB cs s D:=by
  cases hu:bB cs s D with
  |some t=>exact h1 t hu
  |none=>
   cases hv:bB cs s (D+s) with
   |none=>rfl
   |some t=>rw[h2 t hv] at hu;cases hu
 simp only[addN]
 rw[he]
 cases bB cs s D<;>rfl
theorem Ql {cs:List CalT}{s D:Int}(hs:s=1∨s= -1)(ho:aZ cs D=true):bB cs s D=some D:=by
 have hD:=ref6.dH ho
 rcases hs with rfl|rfl
 ·exact ref6.iM hD (Int.le_refl _) ho (fun x h1 h2=>by omega)
 ·exact ref6.gZ hD (Int.le_refl _) ho (fun x h1 h2=>by omega)
def OEnd (cs:List CalT)(s D:Int)(w:World)(e:Ending)(w':World):Prop:=
 (∀t,bB cs s D=some t→e= .returned (.tuple #[.int .i64 t,.nilIface]))∧(bB cs s D=none→e= .returned (.tuple #[.int .i64 0,bI 4]))∧Below w.heap.size w w'
theorem yA (v:Value)(cs:List CalT)(D s:Int)(hs:s=1∨s= -1)(w:World)(hw:Wd w)(hc:cal.dF w v cs):
  Calls Tryz.prog 93 #[v,.int .i64 D,.int .i64 s] w fun e w'=>OEnd cs s D w e w':=by
 have HO:=Lib.hid (cal.kQ v cs D w hc)
 have HK:=Lib.hid (fun W (hb:Below w.heap.size w W)=>hw.keep hb)
 have HC:=Lib.hid (fun W (hb:Below w.heap.size w W)=>cal.nQ.keep w W v cs hc hb)
 obtain⟨a,er,hA,hE⟩:∃(a:Int)(er:Value),(aZ cs D=false→∀W,Below w.heap.size w W→Calls Tryz.prog 52 #[v,.int .i64 D,.int .i64 s] W fun e w'=>e= .returned (.tuple #[.int .i64 a,er])∧Below W.heap.size W w')∧
   (aZ cs D=false→∀W,Below w.heap.size w W→OEnd cs s D w (.returned (.tuple #[.int .i64 a,er])) W):=by
  by_cases hd:aF D
  ·cases hn:bB cs s D with
   |none=>
    refine⟨0,bI 4,fun ho W hb=> ?_,fun _ W hb=>⟨fun t h=>(by rw[hn] at h;cases h),fun _=>rfl,hb⟩⟩
    refine cal.nQ.addNo v cs D s W (hw.keep hb) (cal.nQ.keep w W v cs hc hb) hd (by omega) (by omega) ?_
    rw[←hn,←Ej hs hd ho]
    rcases hs with rfl|rfl<;>rfl
   |some t=>
    refine⟨t,.nilIface,fun ho W hb=> ?_,fun _ W hb=>⟨fun t' h=>(by rw[hn] at h;cases h;rfl),fun h=>(by rw[hn] at h;cases h),hb⟩⟩
    refine cal.nQ.add v cs D s t W (hw.keep hb) (cal.nQ.keep w W v cs hc hb) hd (by omega) (by omega) ?_
    rw[←hn,←Ej hs hd ho]
    rcases hs with rfl|rfl<;>rfl
  ·have hn:bB cs s D=none:=ref6.oM hd
   exact⟨0,bI 4,fun ho W hb=>cal.nQ.addDay v cs D s W (hw.keep hb) (cal.nQ.keep w W v cs hc hb) hd (by omega) (by omega),fun _ W hb=>⟨fun t h=>(by rw[hn] at h;cases h),fun _=>rfl,hb⟩⟩
 have HN:=Lib.hid (fun h:aZ cs D=true=>Ql hs h)
 cases ho:aZ cs D
 ·rw[ho] at HO
  have HA:=Lib.hid (hA ho)
  have HE:=Lib.hid (hE ho)
  clear hA hE hs hw hc ho HK HC HN
  go_enter Tryz.func93,Tryz.ntmps93
  go_wp2_with (first
   |(go_at_call 50;(with_reducible refine(HO.out).mono ?_);rintro e w1 ⟨rfl,hb⟩;have HB:=Lib.hid hb;clear hb HO)
   |(go_at_call 52;(with_reducible refine(HA.out _ HB.out).mono ?_);rintro e w2 ⟨rfl,hb⟩;have HB2:=Lib.hid (HB.out.trans (hb.mono HB.out.size));clear hb HA)
   |(fail "no arm"))
  go_ret2
  exact HE.out _ HB2.out
 ·rw[ho] at HO
  have HE:=Lib.hid (HN.out ho)
  clear hA hE hs hw hc ho HK HC HN
  go_enter Tryz.func93,Tryz.ntmps93
  go_wp2_with (first
   |(go_at_call 50;(with_reducible refine(HO.out).mono ?_);rintro e w1 ⟨rfl,hb⟩;have HB:=Lib.hid hb;clear hb HO)
   |(fail "no arm"))
  go_ret2
  exact⟨fun t h=>(by rw[HE.out] at h;cases h;rfl),fun h=>(by rw[HE.out] at h;cases h),HB.out⟩
theorem zO {cs:List CalT}(hn:Near cs){s D t:Int}(hs:s=1∨s= -1)(hD:aF D)(ht:bB cs s D=some t)(w:World)(hw:Wd w):
  Calls Tryz.prog 94 #[.int .i64 D,.int .i64 t] w fun e w'=>e= .returned (.bool (decide (fB t=fB D)))∧Below w.heap.size w w':=by
 have htd:aF t:=by
  rcases hs with rfl|rfl
  ·exact ref6.dH (ref6.nH ht).2.1
  ·exact ref6.dH (ref6.jH ht).2.1
 obtain⟨y,m,d,hc,rfl⟩:=hD.civil
 obtain⟨y',m',d',hc',rfl⟩:=htd.civil
 have HB:=Lib.hid (month.Vt.between y m d y' m' d' hc hc' w hw)
 have hy:m'=m→y'=y:=fun e=>by subst e;exact ref6.Ki hn hs hc hc' ht
 rw[ref6.xS hc,ref6.xS hc']
 obtain⟨m1,m2⟩:=hc.month
 obtain⟨n1,n2⟩:=hc'.month
 have HE:=Lib.hid (show decide (12*(y' - y)+(m' - m)=0)=decide (m'=m) from by
  by_cases e:m'=m
  ·have:=hy e
   rw[decide_eq_true e,decide_eq_true (by omega)]
  ·rw[decide_eq_false e,decide_eq_false (by omega)])
 clear hn hs hD ht htd hc hc' hw hy m1 m2 n1 n2
 generalize 12*(y' - y)+(m' - m)=k at *
 go_enter Tryz.func94,Tryz.ntmps94
 go_wp2_with (first
  |(go_at_call 40;(with_reducible refine(HB.out).mono ?_);rintro e w1 ⟨rfl,hb⟩;have HB1:=Lib.hid hb;clear hb HB)
  |(fail "no arm"))
 go_ret
 refine⟨?_,HB1.out⟩
 rw[←HE.out]
 by_cases e:k=0
 ·subst e;rfl
 ·rw[decide_eq_false e]
  show Ending.returned (.bool (k==0))=_
  rw[beq_eq_false_iff_ne.2 e]
end Go.Proofs.YtlhmfgbaefaneaaGreatDoor.roll
