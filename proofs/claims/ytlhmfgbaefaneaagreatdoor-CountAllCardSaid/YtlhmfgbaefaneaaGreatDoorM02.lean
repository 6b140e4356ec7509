/-
  The steps of the walks, part 2: As, AsJoin, AsTop, First, Next.
-/
import Derived.Below
import Derived.Carry
import Derived.Lib.Hide
import Derived.Outline
import Derived.Recover
import Derived.Test.YtlhmfgbaefaneaaGreatDoorM01
set_option maxHeartbeats 1000000
set_option maxRecDepth 100000
namespace Go.Proofs.YtlhmfgbaefaneaaGreatDoor.flt
open Go.RowKit Go.Extern.Stop Go.Stop Go.Extern
def Handle (w:World):Prop:=w.cell? ⟨1,0,none⟩=some (.iface 258 (.agg #[.pointer (some ⟨10,28,none⟩)]))
theorem aO {w:World}{a:Addr}{v:Value}(h:w.cell? a=some v):a.block<w.heap.size:=by
 rcases Nat.lt_or_ge a.block w.heap.size with h'|h'
 ·exact h'
 ·simp[World.cell?,Array.getElem?_eq_none h'] at h
theorem Handle.below {w w':World}{B:Nat}(h:Handle w)(hb:Below B w w')(hB:1<B):Handle w':=by
 unfold Handle at *
 rw[hb.cell (p:=⟨1,0,none⟩) hB];exact h
theorem Handle.pos {w:World}(h:Handle w):1<w.heap.size:=aO (a:=⟨1,0,none⟩) h
def kS (t:Addr)(v:Value)(w w':World):Prop:=∃w1,Below w.heap.size w w1∧w'=w1.setCell t v
theorem Zz (c:Int)(t:Addr)(old:Value)(w:World)(ht:w.cell? t=some old)(hf:w.frozen? t=false):
  Calls Tryz.prog 308 #[.int .i64 c,.iface 173 (.pointer (some t))] w fun e w'=>e= .returned (.bool true)∧
   w'=(w.alloc (.cells #[.int .i64 c,.string ⟨#[]⟩,.nilIface] 134)).setCell t (.pointer (some ⟨w.heap.size,0,none⟩)):=by
 have hlt:=aO ht
 have ht': (w.alloc (.cells #[.int .i64 c,.string ⟨#[]⟩,.nilIface] 134)).cell? t=some old:=by rw[World.cell?_alloc_lt _ _ t hlt];exact ht
 have hf': (w.alloc (.cells #[.int .i64 c,.string ⟨#[]⟩,.nilIface] 134)).frozen? t=false:=by rw[World.frozen?_alloc_old _ _ t (Nat.ne_of_lt hlt)];exact hf
 have aPP:=Ty
 go_enter Tryz.func308,Tryz.ntmps308
 go_wp2
 go_ret
 exact⟨rfl,rfl⟩
structure Ext:Prop where
 tyOf:∀(args:Array Value)(w:World),(callFunc 250 args).run Tryz.prog w=((ReflectliteType.typeOf args).run Tryz.prog w).andThen fun v w'=> .ok (.value v) w'
 asg:∀(args:Array Value)(w:World),(callFunc 319 args).run Tryz.prog w=((ReflectliteType.relation "AssignableTo" ReflectliteType.assignableTo args).run Tryz.prog w).andThen fun v w'=> .ok (.value v) w'
 elm:∀(args:Array Value)(w:World),(callFunc 251 args).run Tryz.prog w=((ReflectliteValue.method (ReflectliteValue.valueError "reflectlite.Value.Elem" 0) ReflectliteValue.elem args).run Tryz.prog w).andThen fun v w'=> .ok (.value v) w'
 vOf:∀(args:Array Value)(w:World),(callFunc 205 args).run Tryz.prog w=((ReflectliteValue.unpack (args.getD 0 (.tuple #[]))).run Tryz.prog w).andThen fun v w'=> .ok (.value v) w'
 set:∀(args:Array Value)(w:World),(callFunc 252 args).run Tryz.prog w=((ReflectliteValue.set args).run Tryz.prog w).andThen fun v w'=> .ok (.value v) w'
 typ:∀(args:Array Value)(w:World),(callFunc 206 args).run Tryz.prog w=((ReflectliteValue.methodAny (ReflectliteValue.valueError "reflectlite.Value.Type" 0) (fun t _ _ _=>ReflectliteType.toType t) args).run Tryz.prog w).andThen fun v w'=> .ok (.value v) w'
 nil:∀(args:Array Value)(w:World),(callFunc 207 args).run Tryz.prog w=((ReflectliteValue.method (ReflectliteValue.valueError "reflectlite.Value.IsNil" 0) ReflectliteValue.isNil args).run Tryz.prog w).andThen fun v w'=> .ok (.value v) w'
 knd:∀(args:Array Value)(w:World),(callFunc 304 args).run Tryz.prog w=(((ReflectliteType.abiMethod fun t=>(fun a:Nat=>Value.int IntKind.u8 (a:Int))<$>Rtype.kind t) args).run Tryz.prog w).andThen fun v w'=> .ok (.value v) w'
 rel:∀(args:Array Value)(w:World),(callFunc 321 args).run Tryz.prog w=((ReflectliteType.method ReflectliteType.elem args).run Tryz.prog w).andThen fun v w'=> .ok (.value v) w'
 imp:∀(args:Array Value)(w:World),(callFunc 322 args).run Tryz.prog w=((ReflectliteType.relation "Implements" ReflectliteType.implements_ args).run Tryz.prog w).andThen fun v w'=> .ok (.value v) w'
 cmp:∀(args:Array Value)(w:World),(callFunc 320 args).run Tryz.prog w=((ReflectliteType.method (fun t=>do Rtype.noPackHeld "Comparable" t;pure (.bool (←typeInfo t).comparable)) args).run Tryz.prog w).andThen fun v w'=> .ok (.value v) w'
theorem ext:Ext where
 tyOf:=@run_callFunc_extern Tryz.prog 250 _ ReflectliteType.typeOf Tryz.func250 (by kernel_rfl) (by kernel_rfl) (by kernel_rfl) (by kernel_rfl)
 asg:=@run_callFunc_extern Tryz.prog 319 _ (ReflectliteType.relation "AssignableTo" ReflectliteType.assignableTo) Tryz.func319 (by kernel_rfl) (by kernel_rfl) (by kernel_rfl) (by kernel_rfl)
 elm:=@run_callFunc_extern Tryz.prog 251 _ (ReflectliteValue.method (ReflectliteValue.valueError "reflectlite.Value.Elem" 0) ReflectliteValue.elem) Tryz.func251 (by kernel_rfl) (by kernel_rfl) (by kernel_rfl) (by kernel_rfl)
 vOf:=@run_callFunc_extern Tryz.prog 205 _ (fun args=>ReflectliteValue.unpack (args.getD 0 (.tuple #[]))) Tryz.func205 (by kernel_rfl) (by kernel_rfl) (by kernel_rfl) (by kernel_rfl)
 set:=@run_callFunc_extern Tryz.prog 252 _ ReflectliteValue.set Tryz.func252 (by kernel_rfl) (by kernel_rfl) (by kernel_rfl) (by kernel_rfl)
 typ:=@run_callFunc_extern Tryz.prog 206 _ (ReflectliteValue.methodAny (ReflectliteValue.valueError "reflectlite.Value.Type" 0) (fun t _ _ _=>ReflectliteType.toType t)) Tryz.func206 (by kernel_rfl) (by kernel_rfl) (by kernel_rfl) (by kernel_rfl)
 nil:=@run_callFunc_extern Tryz.prog 207 _ (ReflectliteValue.method (ReflectliteValue.valueError "reflectlite.Value.IsNil" 0) ReflectliteValue.isNil) Tryz.func207 (by kernel_rfl) (by kernel_rfl) (by kernel_rfl) (by kernel_rfl)
 knd:=@run_callFunc_extern Tryz.prog 304 _ (ReflectliteType.abiMethod fun t=>do pure (.int .u8 (←Rtype.kind t))) Tryz.func304 (by kernel_rfl) (by kernel_rfl) (by kernel_rfl) (by kernel_rfl)
 rel:=@run_callFunc_extern Tryz.prog 321 _ (ReflectliteType.method ReflectliteType.elem) Tryz.func321 (by kernel_rfl) (by kernel_rfl) (by kernel_rfl) (by kernel_rfl)
 imp:=@run_callFunc_extern Tryz.prog 322 _ (ReflectliteType.relation "Implements" ReflectliteType.implements_) Tryz.func322 (by kernel_rfl) (by kernel_rfl) (by kernel_rfl) (by kernel_rfl)
 cmp:=@run_callFunc_extern Tryz.prog 320 _ (ReflectliteType.method (fun t=>do Rtype.noPackHeld "Comparable" t;pure (.bool (←typeInfo t).comparable))) Tryz.func320 (by kernel_rfl) (by kernel_rfl) (by kernel_rfl) (by kernel_rfl)
theorem Pk (e t a:Addr)(old:Value)(w:World)(ha:w.cell? a=some (.pointer (some t)))(ht:w.cell? t=some old)(hf:w.frozen? t=false):
  Calls Tryz.prog 208 #[.iface 131 (.pointer (some e)),.iface 173 (.pointer (some t)),.agg #[.pointer (some ⟨10,173,none⟩),.pointer (some a),.int .u64 150],.iface 258 (.agg #[.pointer (some ⟨10,131,none⟩)])] w
   fun ev w'=>ev= .returned (.bool true)∧kS t (.pointer (some e)) w w':=by
 obtain⟨h1,h2,h3,h4,h5,-,-,-,-,-,-⟩:=ext
 have hla:=aO ha
 have hlt:=aO ht
 have tO:=BB
 have mA:=iL
 have aP:=Yt
 have vP:=Xv
 have el:=elemV a t (w.alloc (.cells #[.pointer (some ⟨10,173,none⟩),.pointer (some a),.int .u64 150] 208)) (by rw[World.cell?_alloc_lt _ _ a hla];exact ha)
 have st:=setP t ⟨w.heap.size+1,0,none⟩ e old ((w.alloc (.cells #[.pointer (some ⟨10,173,none⟩),.pointer (some a),.int .u64 150] 208)).alloc (.cells #[.pointer (some e)] 131))
  (by rw[World.cell?_alloc_at _ _ _ _ (by simp)];rfl)
  (by rw[World.cell?_alloc_lt _ _ t (by simp;omega),World.cell?_alloc_lt _ _ t hlt];exact ht)
  (by rw[World.frozen?_alloc_old _ _ t (by simp;omega),World.frozen?_alloc_old _ _ t (Nat.ne_of_lt hlt)];exact hf)
 go_enter Tryz.func208,Tryz.ntmps208
 go_wp2
 refine wp_loop_rounds 1 ?_
 rw[rounds_succ]
 go_wp2
 go_ret
 exact⟨rfl,_,((Below.refl _ _).alloc (Nat.le_refl _) _).alloc (by simp) _,rfl⟩
theorem Pn (c:Int)(t a:Addr)(old:Value)(w:World)(ht:w.cell? t=some old)(hf:w.frozen? t=false):
  Calls Tryz.prog 208 #[.iface 128 (.int .i64 c),.iface 173 (.pointer (some t)),.agg #[.pointer (some ⟨10,173,none⟩),.pointer (some a),.int .u64 150],.iface 258 (.agg #[.pointer (some ⟨10,131,none⟩)])] w
   fun ev w'=>ev= .returned (.bool true)∧∃b,w.heap.size≤b∧kS t (.pointer (some ⟨b,0,none⟩)) w w'∧w'.heap[b]?=some (.cells #[.int .i64 c,.string ⟨#[]⟩,.nilIface] 134 (0,0)):=by
 obtain⟨h1,h2,-,-,-,-,-,-,-,-,-⟩:=ext
 have hlt:=aO ht
 have tO:=Nr
 have mA:=iL
 have aL:=Yr
 have hA:=CX
 have mAs:=Vr
 have hP:=Zz c t old (w.alloc (.cells #[.pointer (some ⟨10,173,none⟩),.pointer (some a),.int .u64 150] 208)) (by rw[World.cell?_alloc_lt _ _ t hlt];exact ht) (by rw[World.frozen?_alloc_old _ _ t (Nat.ne_of_lt hlt)];exact hf)
 have HP:=Lib.hid hP
 clear hP
 go_enter Tryz.func208,Tryz.ntmps208
 go_wp2
 refine wp_loop_rounds 1 ?_
 rw[rounds_succ]
 go_wp2_with (go_at_call 308;refine(HP.out).mono ?_;rintro e w' ⟨rfl,rfl⟩)
 go_ret
 refine⟨rfl,w.heap.size+1,by omega,⟨_,((Below.refl _ _).alloc (Nat.le_refl _) _).alloc (by simp) _,rfl⟩,?_⟩
 rw[Below.heap_setCell _ _ _ _ (by omega)]
 show((w.heap.push _).push _)[w.heap.size+1]?=_
 rw[Array.getElem?_push,if_pos (by simp)]
theorem Pm (x:Value)(t a:Addr)(w:World):
  Calls Tryz.prog 208 #[.iface 302 x,.iface 173 (.pointer (some t)),.agg #[.pointer (some ⟨10,173,none⟩),.pointer (some a),.int .u64 150],.iface 258 (.agg #[.pointer (some ⟨10,131,none⟩)])] w
   fun ev w'=>ev= .returned (.bool false)∧Below w.heap.size w w':=by
 obtain⟨h1,h2,-,-,-,-,-,-,-,-,-⟩:=ext
 have tO:=BD
 have mA:=iL
 have aS:=Yu
 have hA:=FI
 have hU:=Vz
 have hUs:=Wi
 go_enter Tryz.func208,Tryz.ntmps208
 go_wp2
 refine wp_loop_rounds 1 ?_
 rw[rounds_succ]
 go_wp2
 go_ret
 exact⟨rfl,(Below.refl _ _).alloc (Nat.le_refl _) _⟩
end Go.Proofs.YtlhmfgbaefaneaaGreatDoor.flt
namespace Go.Proofs.YtlhmfgbaefaneaaGreatDoor.flt
open Go.RowKit Go.Extern.Stop Go.Stop Go.Extern
theorem kS.of_below {t:Addr}{v:Value}{w W w':World}(hb:Below w.heap.size w W)(h:kS t v W w'):kS t v w w':=by
 obtain⟨w1,h1,rfl⟩:=h
 exact⟨w1,hb.trans (h1.mono hb.size),rfl⟩
theorem mX {w:World}{a:Addr}{v:Value}(o:Obj)(h:w.cell? a=some v): (w.alloc o).cell? a=some v:=by
 rw[World.cell?_alloc_lt _ _ a (aO h)];exact h
theorem rO {w:World}{a:Addr}{v:Value}(o:Obj)(h:w.cell? a=some v)(hf:w.frozen? a=false): (w.alloc o).frozen? a=false:=by
 rw[World.frozen?_alloc_old _ _ a (Nat.ne_of_lt (aO h))];exact hf
end Go.Proofs.YtlhmfgbaefaneaaGreatDoor.flt
namespace Go.Proofs.YtlhmfgbaefaneaaGreatDoor.flt
open Go.RowKit Go.Extern.Stop Go.Stop Go.Extern
theorem Zi (t:Value)(w:World):Calls Tryz.prog 162 #[.nilIface,t] w fun e w'=>e= .returned (.bool false)∧w=w':=by
 go_enter Tryz.func162,Tryz.ntmps162
 go_wp2
 go_ret
 exact⟨rfl,rfl⟩
def pO (t:Addr)(w:World):World:=(w.alloc (.cells #[.pointer (some t)] 173)).alloc (.cells #[.pointer (some ⟨10,173,none⟩),.pointer (some ⟨w.heap.size,0,none⟩),.int .u64 150] 208)
theorem fP (t:Addr)(w:World):Below w.heap.size w (pO t w):=((Below.refl _ _).alloc (Nat.le_refl _) _).alloc (by simp) _
theorem rC (t:Addr)(w:World): (pO t w).cell? ⟨w.heap.size,0,none⟩=some (.pointer (some t)):=
 mX _ (by rw[World.cell?_alloc_at _ _ _ _ rfl];rfl)
theorem Jq (u:TypeId)(x:Value)(t:Addr)(b:Bool)(S:World→Prop)(w:World)(hg:Handle w)
  (hsub:Calls Tryz.prog 208 #[.iface u x,.iface 173 (.pointer (some t)),.agg #[.pointer (some ⟨10,173,none⟩),.pointer (some ⟨w.heap.size,0,none⟩),.int .u64 150],.iface 258 (.agg #[.pointer (some ⟨10,131,none⟩)])] (pO t w)
    fun ev w'=>ev= .returned (.bool b)∧S w'):
  Calls Tryz.prog 162 #[.iface u x,.iface 173 (.pointer (some t))] w fun ev w'=>ev= .returned (.bool b)∧S w':=by
 have HS:=Lib.hid hsub
 clear hsub
 unfold pO at HS
 obtain⟨-,-,-,h4,-,h6,h7,h8,h9,h10,-⟩:=ext
 have f6:=Rl
 have f7:=EL
 have mK:=Kh
 have mE:=Kg
 have mI:=tN
 have kPP:=DI
 have kP:=FH
 have eP:=CW
 have iP:=Fy
 have n8:=Zp ⟨w.heap.size,0,none⟩ t ((w.alloc (.cells #[.pointer (some t)] 173)).alloc (.cells #[.pointer (some ⟨10,173,none⟩),.pointer (some ⟨w.heap.size,0,none⟩),.int .u64 150] 208)) (rC t w)
 have hg2: ((w.alloc (.cells #[.pointer (some t)] 173)).alloc (.cells #[.pointer (some ⟨10,173,none⟩),.pointer (some ⟨w.heap.size,0,none⟩),.int .u64 150] 208)).cell? ⟨1,0,none⟩=some (.iface 258 (.agg #[.pointer (some ⟨10,28,none⟩)])):=hg.below (fP t w) hg.pos
 clear hg
 go_enter Tryz.func162,Tryz.ntmps162
 go_wp2_with (go_at_call 208;refine(HS.out).mono ?_;rintro e' w' ⟨rfl,hs⟩)
 go_ret
 exact⟨rfl,hs⟩
end Go.Proofs.YtlhmfgbaefaneaaGreatDoor.flt
namespace Go.Proofs.YtlhmfgbaefaneaaGreatDoor.flt
open Go.RowKit Go.Extern.Stop Go.Stop Go.Extern
theorem oI (p:Addr)(w:World):
  CallsD Tryz.prog 161 #[.pointer (some p)] .returning w fun e u' w'=>e= .returned (.tuple #[])∧u'= .returning∧w=w':=by
 refine callsD_of_wpS Tryz.func161 rfl fun c₀ cs hu=> ?_
 apply wpS_seq
 apply wpS_region
 simp[wpOpsS,go_sem,recoverD,hu,Tryz.ntmps161,Exit.thenS]
 refine wpS_cond (t:=false) (by simp[Act.eval,Array.replicate]) ?_
 simp only[Bool.false_eq_true,if_false]
 refine wpS_of_wp (wp_skip ?_)
 cases c₀
 simp_all [bodyPostS,results,Tryz.results161]
def fV (w:World):World:=w.alloc (.cells #[.pointer none] 131)
theorem gY (w:World):Below w.heap.size w (fV w):=(Below.refl _ _).alloc (Nat.le_refl _) _
theorem iQ (w:World): (fV w).cell? ⟨w.heap.size,0,none⟩=some (.pointer none):=by unfold fV;rw[World.cell?_alloc_at _ _ _ _ rfl];rfl
theorem jO (w:World): (fV w).frozen? ⟨w.heap.size,0,none⟩=false:=by simp[fV]
theorem kH {w:World}{a:Addr}{u:Value}(v:Value)(h:w.cell? a=some u): (w.setCell a v).cell? a=some v:=World.cell?_setCell_same' _ _ _ (by rw[h];rfl)
theorem kS.cell {t:Addr}{v old:Value}{w w':World}(h:kS t v w w')(ht:w.cell? t=some old):w'.cell? t=some v:=by
 obtain⟨w1,hb,rfl⟩:=h
 have h1:w1.cell? t=some old:=(hb.cell (aO ht)).trans ht
 exact kH v h1
theorem kS.frozen {t:Addr}{v old:Value}{w w':World}(h:kS t v w w')(ht:w.cell? t=some old)(hf:w.frozen? t=false):w'.frozen? t=false:=by
 obtain⟨w1,hb,rfl⟩:=h
 rw[World.frozen?_setCell]
 exact(hb.frozen (aO ht)).trans hf
theorem kS.below {t:Addr}{v:Value}{w w':World}{B:Nat}(h:kS t v w w')(hB:B≤w.heap.size)(ht:B≤t.block):Below B w w':=by
 obtain⟨w1,hb,rfl⟩:=h
 exact(hb.mono hB).setCell ht _
theorem Pq (v:Value)(e:Addr)(w:World)
  (hA:Calls Tryz.prog 162 #[v,.iface 173 (.pointer (some ⟨w.heap.size,0,none⟩))] (fV w) fun ev w'=>ev= .returned (.bool true)∧kS ⟨w.heap.size,0,none⟩ (.pointer (some e)) (fV w) w'):
  Calls Tryz.prog 123 #[v] w fun ev w'=>ev= .returned (.pointer (some e))∧Below w.heap.size w w':=by
 have hmf:∀(fn:Fn)(first cap:Array Value)(w:World),(Instr.makeFunc fn first cap).run Tryz.prog w= .ok (.func fn first cap) w:=fun _ _ _ _=>rfl
 have HA:=Lib.hid hA
 clear hA
 have F0:=Lib.hid (iQ w)
 have F1:=Lib.hid (jO w)
 have F2:=Lib.hid (gY w)
 unfold fV at HA F0 F1 F2
 go_enter_defers Tryz.func123,Tryz.ntmps123
 go_wp2_with (go_at_call 162;refine(HA.out).mono ?_;rintro e' w' ⟨rfl,hs⟩;have c0:=hs.cell F0.out;have z0:=hs.frozen F0.out F1.out;have HS:=Lib.hid hs;clear hs)
 refine leaves_cons (f:=161) (args:=#[.pointer (some ⟨w.heap.size,0,none⟩)]) (by simp) (by simp[go_sem]) ?_
 refine(oI ⟨w.heap.size,0,none⟩ _).mono ?_
 rintro e' u' w'' ⟨rfl,rfl,rfl⟩
 have c1:=kH (.pointer (some e)) c0
 have B1:Below w.heap.size w (w'.setCell ⟨w.heap.size,0,none⟩ (.pointer (some e))):=(F2.out.trans (kS.below HS.out (by simp) (Nat.le_refl _))).setCell (Nat.le_refl _) _
 simp[Leaves,settle,results,Tryz.results123,go_sem,c1,B1]
theorem Fu (v:Value)(c:Int)(w:World)
  (hA:Calls Tryz.prog 162 #[v,.iface 173 (.pointer (some ⟨w.heap.size,0,none⟩))] (fV w) fun ev w'=>ev= .returned (.bool true)∧∃b,(fV w).heap.size≤b∧kS ⟨w.heap.size,0,none⟩ (.pointer (some ⟨b,0,none⟩)) (fV w) w'∧w'.heap[b]?=some (.cells #[.int .i64 c,.string ⟨#[]⟩,.nilIface] 134 (0,0))):
  Calls Tryz.prog 123 #[v] w fun ev w'=>∃b,ev= .returned (.pointer (some ⟨b,0,none⟩))∧w.heap.size≤b∧Below w.heap.size w w'∧w'.heap[b]?=some (.cells #[.int .i64 c,.string ⟨#[]⟩,.nilIface] 134 (0,0)):=by
 have hmf:∀(fn:Fn)(first cap:Array Value)(w:World),(Instr.makeFunc fn first cap).run Tryz.prog w= .ok (.func fn first cap) w:=fun _ _ _ _=>rfl
 have HA:=Lib.hid hA
 clear hA
 have F0:=Lib.hid (iQ w)
 have F1:=Lib.hid (jO w)
 have F2:=Lib.hid (gY w)
 unfold fV at HA F0 F1 F2
 go_enter_defers Tryz.func123,Tryz.ntmps123
 go_wp2_with (go_at_call 162;refine(HA.out).mono ?_;rintro e' w' ⟨rfl,b,hb,hs,hk⟩;have HK:=Lib.hid hk;have HL:=Lib.hid hb;clear hk hb;have c0:=hs.cell F0.out;have z0:=hs.frozen F0.out F1.out;have HS:=Lib.hid hs;clear hs)
 refine leaves_cons (f:=161) (args:=#[.pointer (some ⟨w.heap.size,0,none⟩)]) (by simp) (by simp[go_sem]) ?_
 refine(oI ⟨w.heap.size,0,none⟩ _).mono ?_
 rintro e' u' w'' ⟨rfl,rfl,rfl⟩
 have c1:=kH (.pointer (some ⟨b,0,none⟩)) c0
 have B1:Below w.heap.size w (w'.setCell ⟨w.heap.size,0,none⟩ (.pointer (some ⟨b,0,none⟩))):=(F2.out.trans (kS.below HS.out (by simp) (Nat.le_refl _))).setCell (Nat.le_refl _) _
 have hl:w.heap.size<b:=by have:=HL.out;simp at this;omega
 have K1: (w'.setCell ⟨w.heap.size,0,none⟩ (.pointer (some ⟨b,0,none⟩))).heap[b]?=some (.cells #[.int .i64 c,.string ⟨#[]⟩,.nilIface] 134 (0,0)):=by
  rw[Below.heap_setCell _ _ _ _ (by simp;omega)];exact HK.out
 have hle:w.heap.size≤b:=by omega
 simp[Leaves,settle,results,Tryz.results123,go_sem,c1,B1,K1,hle]
theorem xE (v:Value)(w:World)
  (hA:Calls Tryz.prog 162 #[v,.iface 173 (.pointer (some ⟨w.heap.size,0,none⟩))] (fV w) fun ev w'=>ev= .returned (.bool false)∧Below (fV w).heap.size (fV w) w'):
  Calls Tryz.prog 123 #[v] w fun ev w'=>ev= .returned (.pointer none)∧Below w.heap.size w w':=by
 have hmf:∀(fn:Fn)(first cap:Array Value)(w:World),(Instr.makeFunc fn first cap).run Tryz.prog w= .ok (.func fn first cap) w:=fun _ _ _ _=>rfl
 have HA:=Lib.hid hA
 clear hA
 have F0:=Lib.hid (iQ w)
 have F1:=Lib.hid (jO w)
 have F2:=Lib.hid (gY w)
 unfold fV at HA F0 F1 F2
 go_enter_defers Tryz.func123,Tryz.ntmps123
 go_wp2_with (go_at_call 162;refine(HA.out).mono ?_;rintro e' w' ⟨rfl,hs⟩;have c0:=(hs.cell (aO F0.out)).trans F0.out;have z0:=(hs.frozen (aO F0.out)).trans F1.out;have HS:=Lib.hid hs;clear hs)
 refine leaves_cons (f:=161) (args:=#[.pointer (some ⟨w.heap.size,0,none⟩)]) (by simp) (by simp[go_sem]) ?_
 refine(oI ⟨w.heap.size,0,none⟩ _).mono ?_
 rintro e' u' w'' ⟨rfl,rfl,rfl⟩
 have c1:=kH (.pointer none) c0
 have B1:Below w.heap.size w (w'.setCell ⟨w.heap.size,0,none⟩ (.pointer none)):=(F2.out.trans (HS.out.mono (by simp))).setCell (Nat.le_refl _) _
 simp[Leaves,settle,results,Tryz.results123,go_sem,c1,B1]
theorem uQ (w:World): (pO ⟨w.heap.size,0,none⟩ (fV w)).cell? ⟨w.heap.size,0,none⟩=some (.pointer none):=mX _ (mX _ (iQ w))
theorem rD (w:World): (pO ⟨w.heap.size,0,none⟩ (fV w)).frozen? ⟨w.heap.size,0,none⟩=false:=rO _ (mX _ (iQ w)) (rO _ (iQ w) (jO w))
theorem Ak (w:World):Calls Tryz.prog 123 #[.nilIface] w fun ev w'=>ev= .returned (.pointer none)∧Below w.heap.size w w':=
 xE _ _ ((Zi _ _).mono fun _ _ ⟨he,hw⟩=>⟨he,hw▸Below.refl _ _⟩)
theorem uU (e:Addr)(w:World)(hg:Handle w):Calls Tryz.prog 123 #[.iface 131 (.pointer (some e))] w fun ev w'=>ev= .returned (.pointer (some e))∧Below w.heap.size w w':=
 Pq _ _ _ ((Jq _ _ _ true _ _ (hg.below (gY w) hg.pos) (Pk e _ _ _ _ (rC _ _) (uQ w) (rD w))).mono fun _ _ ⟨he,hs⟩=>⟨he,hs.of_below (fP _ _)⟩)
theorem uV (c:Int)(w:World)(hg:Handle w):Calls Tryz.prog 123 #[.iface 128 (.int .i64 c)] w fun ev w'=>∃b,ev= .returned (.pointer (some ⟨b,0,none⟩))∧w.heap.size≤b∧Below w.heap.size w w'∧w'.heap[b]?=some (.cells #[.int .i64 c,.string ⟨#[]⟩,.nilIface] 134 (0,0)):=
 Fu _ c _ ((Jq _ _ _ true _ _ (hg.below (gY w) hg.pos) (Pn c _ _ _ _ (uQ w) (rD w))).mono fun _ _ ⟨he,b,hb,hs,hk⟩=>⟨he,b,Nat.le_trans (fP _ _).size hb,hs.of_below (fP _ _),hk⟩)
theorem Fv (x:Value)(w:World)(hg:Handle w):Calls Tryz.prog 123 #[.iface 302 x] w fun ev w'=>ev= .returned (.pointer none)∧Below w.heap.size w w':=
 xE _ _ ((Jq _ _ _ false _ _ (hg.below (gY w) hg.pos) (Pm x _ _ _)).mono fun _ _ ⟨he,hs⟩=>⟨he,(fP _ _).trans (hs.mono (fP _ _).size)⟩)
end Go.Proofs.YtlhmfgbaefaneaaGreatDoor.flt
namespace Go.Proofs.YtlhmfgbaefaneaaGreatDoor.flt
open Go.RowKit Go.Extern.Stop Go.Stop Go.Extern
def bH (w:World)(b:Nat)(c:Int)(s:ByteArray)(e:Value):Prop:=w.heap[b]?=some (.cells #[.int .i64 c,.string s,e] 134 (0,0))
inductive Chain (w:World):Value→Nat→List (Nat×Int×ByteArray)→Prop
 |none (B:Nat):Chain w .nilIface B []
 |other (a:Addr) (B:Nat):a.block<B→Chain w (.iface 302 (.pointer (some a))) B []
 |plain (c:Int) (B:Nat):Chain w (.iface 128 (.int .i64 c)) B []
 |link (b:Nat) (c:Int) (s:ByteArray) (e:Value) (B:Nat) (l:List (Nat×Int×ByteArray)):bH w b c s e→b<B→Chain w e b l→Chain w (.iface 131 (.pointer (some ⟨b,0,none⟩))) B ((b,c,s)::l)
theorem bH.below {w w':World}{B b:Nat}{c:Int}{s:ByteArray}{e:Value}(h:bH w b c s e)(hb:Below B w w')(hB:b<B):bH w' b c s e:=(hb.block b hB).trans h
theorem bH.lt {w:World}{b:Nat}{c:Int}{s:ByteArray}{e:Value}(h:bH w b c s e):b<w.heap.size:=by
 rcases Nat.lt_or_ge b w.heap.size with h'|h'
 ·exact h'
 ·simp[bH,Array.getElem?_eq_none h'] at h
theorem bH.cell0 {w:World}{b:Nat}{c:Int}{s:ByteArray}{e:Value}(h:bH w b c s e):w.cell? ⟨b,0,none⟩=some (.int .i64 c):=by simp[World.cell?,bH] at *;simp[h]
theorem bH.cell1 {w:World}{b:Nat}{c:Int}{s:ByteArray}{e:Value}(h:bH w b c s e):w.cell? ⟨b,1,none⟩=some (.string s):=by simp[World.cell?,bH] at *;simp[h]
theorem bH.Mr {w:World}{b:Nat}{c:Int}{s:ByteArray}{e:Value}(h:bH w b c s e):w.cell? ⟨b,2,none⟩=some e:=by simp[World.cell?,bH] at *;simp[h]
theorem Chain.keep {w w':World}{v:Value}{B B':Nat}{l:List (Nat×Int×ByteArray)}(h:Chain w v B l)(hb:Below B' w w')(hB:B≤B'):Chain w' v B l:=by
 induction h with
 |none B=>exact .none B
 |other a B h=>exact .other a B h
 |plain c B=>exact .plain c B
 |link b c s e B l hf hlt _ ih=>exact .link b c s e B l (hf.below hb (by omega)) hlt (ih (by omega))
theorem Chain.mono {w:World}{v:Value}{B B':Nat}{l:List (Nat×Int×ByteArray)}(h:Chain w v B l)(hB:B≤B'):Chain w v B' l:=by
 cases h with
 |none=>exact .none _
 |other a _ h=>exact .other a _ (by omega)
 |plain c=>exact .plain c _
 |link b c s e _ l hf hlt hc=>exact .link b c s e _ l hf (by omega) hc
theorem vN (c:Int)(w:World)(hc: (c==0)=false):Calls Tryz.prog 71 #[.int .i64 c] w fun e w'=>e= .returned (.iface 128 (.int .i64 c))∧w=w':=by
 go_enter Tryz.func71,Tryz.ntmps71
 go_wp2
 go_ret
 exact⟨rfl,rfl⟩
theorem Yk (w:World):Calls Tryz.prog 71 #[.int .i64 0] w fun e w'=>e= .returned .nilIface∧w=w':=by
 go_enter Tryz.func71,Tryz.ntmps71
 go_wp2
 go_ret
 exact⟨rfl,rfl⟩
theorem Tf (c:Int)(s:ByteArray)(w:World)(hc: (c==0)=false):Calls Tryz.prog 234 #[.int .i64 c,.string s] w fun e w'=>e= .returned (.iface 131 (.pointer (some ⟨w.heap.size,0,none⟩)))∧w'=w.alloc (.cells #[.int .i64 c,.string s,.nilIface] 134):=by
 go_enter Tryz.func234,Tryz.ntmps234
 go_wp2
 go_ret
 exact⟨rfl,rfl⟩
theorem uN (b:Nat)(e:Value)(w:World)(h:w.cell? ⟨b,2,none⟩=some e):Calls Tryz.prog 313 #[.pointer (some ⟨b,0,none⟩)] w fun ev w'=>ev= .returned e∧w=w':=by
 go_enter Tryz.func313,Tryz.ntmps313
 go_wp2
 go_ret
 exact⟨rfl,rfl⟩
inductive Inner (w:World):Value→Value→Prop
 |none:Inner w .nilIface .nilIface
 |other (x:Value):Inner w (.iface 302 x) .nilIface
 |plain (x:Value):Inner w (.iface 128 x) .nilIface
 |link (b:Nat) (e:Value):w.cell? ⟨b,2,none⟩=some e→Inner w (.iface 131 (.pointer (some ⟨b,0,none⟩))) e
theorem Ov (xT:TypeId)(w:World): (Instr.typeAssert .nilIface xT 266 true).run Tryz.prog w= .ok (.tuple #[.nilIface,.bool false]) w:=by kernel_rfl
theorem Fq (v e:Value)(w:World)(h:Inner w v e):Calls Tryz.prog 279 #[v] w fun ev w'=>ev= .returned e∧w=w':=by
 have aN:=Ov
 have aS:=Vz
 have aL:=Vy
 have aP:=Vg
 have mU:=rU
 cases h
 case link b hc=>
  go_enter Tryz.func279,Tryz.ntmps279
  go_wp2
  go_ret
  exact⟨rfl,rfl⟩
 all_goals
  go_enter Tryz.func279,Tryz.ntmps279
  go_wp2
  go_ret
  exact⟨rfl,rfl⟩
theorem xU (p:Addr)(w:World):
  CallsD Tryz.prog 278 #[.pointer (some p)] .returning w fun e u' w'=>e= .returned (.tuple #[])∧u'= .returning∧w=w':=by
 refine callsD_of_wpS Tryz.func278 rfl fun c₀ cs hu=> ?_
 apply wpS_seq
 apply wpS_region
 simp[wpOpsS,go_sem,recoverD,hu,Tryz.ntmps278,Exit.thenS]
 refine wpS_cond (t:=false) (by simp[Act.eval,Array.replicate]) ?_
 simp only[Bool.false_eq_true,if_false]
 refine wpS_of_wp (wp_skip ?_)
 cases c₀
 simp_all [bodyPostS,results,Tryz.results278]
theorem Inner.keep {w w':World}{v e:Value}(h:Inner w v e)(hb:Below w.heap.size w w'):Inner w' v e:=by
 cases h with
 |none=>exact .none
 |other x=>exact .other x
 |plain x=>exact .plain x
 |link b e hc=>exact .link b e ((hb.cell (aO hc)).trans hc)
theorem xV (v e:Value)(w:World)(h:Inner w v e)(he:e= .nilIface∨∃u x,e= .iface u x):Calls Tryz.prog 265 #[v] w fun ev w'=>ev= .returned e∧Below w.heap.size w w':=by
 have hmf:∀(fn:Fn)(first cap:Array Value)(w:World),(Instr.makeFunc fn first cap).run Tryz.prog w= .ok (.func fn first cap) w:=fun _ _ _ _=>rfl
 have HU:=Lib.hid (Fq v e (w.alloc (.cells #[.nilIface] 28)) (h.keep ((Below.refl _ _).alloc (Nat.le_refl _) _)))
 clear h
 rcases he with rfl|⟨u,x,rfl⟩
 ·go_enter_defers Tryz.func265,Tryz.ntmps265
  go_wp2_with (go_at_call 279;refine(HU.out).mono ?_;rintro e' w' ⟨rfl,rfl⟩)
  refine leaves_cons (f:=278) (args:=#[.pointer (some ⟨w.heap.size,0,none⟩)]) (by simp) (by simp[go_sem]) ?_
  refine(xU ⟨w.heap.size,0,none⟩ _).mono ?_
  rintro e' u' w'' ⟨rfl,rfl,rfl⟩
  simp[Leaves,settle,results,Tryz.results265,go_sem]
  exact(Below.refl _ _).alloc (Nat.le_refl _) _
 ·go_enter_defers Tryz.func265,Tryz.ntmps265
  go_wp2_with (go_at_call 279;refine(HU.out).mono ?_;rintro e' w' ⟨rfl,rfl⟩)
  refine leaves_cons (f:=278) (args:=#[.pointer (some ⟨w.heap.size,0,none⟩)]) (by simp) (by simp[go_sem]) ?_
  refine(xU ⟨w.heap.size,0,none⟩ _).mono ?_
  rintro e' u' w'' ⟨rfl,rfl,rfl⟩
  simp[Leaves,settle,results,Tryz.results265,go_sem]
  exact(Below.refl _ _).alloc (Nat.le_refl _) _
end Go.Proofs.YtlhmfgbaefaneaaGreatDoor.flt
