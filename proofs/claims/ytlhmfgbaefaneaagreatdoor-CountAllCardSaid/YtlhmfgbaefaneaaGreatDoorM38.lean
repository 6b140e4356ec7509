/-
  The steps of the walks, part 38: Where, Builder, Text, Error, Is.
-/
import Derived.Deep.LoopGhost
import Derived.OwnWalk
import Derived.Test.YtlhmfgbaefaneaaGreatDoorProg
import Derived.WalkKit
import Derived.WalkSpells
import Derived.RegionTactic
import Derived.Lib.Builder
import Derived.Lib.AppendStr
import Derived.Lib.UnsafeStr
import Derived.Lib.Strings
import Derived.Laws.Externs
import Derived.Lib.Hide
import Derived.Carry
import Derived.Deep.RegionWith
import Derived.Test.YtlhmfgbaefaneaaGreatDoorM05
import Derived.Test.YtlhmfgbaefaneaaGreatDoorM37
set_option maxHeartbeats 4000000
set_option maxRecDepth 100000
namespace Go.Proofs.YtlhmfgbaefaneaaGreatDoor.flt
open Go.RowKit Go.Extern.Stop Go.Stop Go.Extern
inductive Fst:Value→Value→Prop
 |none:Fst .nilIface (.pointer none)
 |other (a:Addr):Fst (.iface 302 (.pointer (some a))) (.pointer none)
 |plain (c:Int) (b:Nat):Fst (.iface 128 (.int .i64 c)) (.pointer (some ⟨b,0,none⟩))
 |link (b:Nat):Fst (.iface 131 (.pointer (some ⟨b,0,none⟩))) (.pointer (some ⟨b,0,none⟩))
theorem oJ (v:Value)(B:Nat)(l:List (Nat×Int×ByteArray))(w:World)(hg:Handle w)(h:Chain w v B l):
  Calls Tryz.prog 123 #[v] w fun ev w'=>∃f,ev= .returned f∧Fst v f∧Below w.heap.size w w':=by
 cases h with
 |none=>exact(Ak w).mono fun _ _ ⟨he,hb⟩=>⟨_,he,.none,hb⟩
 |other a _ _=>exact(Fv _ w hg).mono fun _ _ ⟨he,hb⟩=>⟨_,he,.other a,hb⟩
 |plain c=>exact(uV c w hg).mono fun _ _ ⟨b,he,_,hb,_⟩=>⟨_,he,.plain c b,hb⟩
 |link b c s e _ l _ _ _=>exact(uU ⟨b,0,none⟩ w hg).mono fun _ _ ⟨he,hb⟩=>⟨_,he,.link b,hb⟩
def errM:Value→Nat
 | .iface _ (.pointer (some a))=>a.block+2
 | .iface _ _=>1
 |_=>0
def ats (l:List (Nat×Int×ByteArray)):List ByteArray:=(l.map fun x=>x.2.2).filter fun s=>!s.toList.isEmpty
theorem Chain.Cw {w:World}{v:Value}{B:Nat}{l:List (Nat×Int×ByteArray)}(h:Chain w v B l):errM v<B+2:=by
 cases h<;>simp[errM]<;>omega
def Met (w:World)(e:Value)(wr:World):Prop:=∃es clock,wr.heap[w.heap.size]?=some (.map es clock)∧∀x∈es.toList,∃b' c s e',x.key= .pointer (some ⟨b',0,none⟩)∧errM e<b'+2∧bH w b' c s e'
def WRel (w:World)(L:List (Nat×Int×ByteArray))(e sv f:Value)(wr:World):Prop:=
 ∃(done todo:List (Nat×Int×ByteArray))(B:Nat),L=done++todo∧Chain w e B todo∧B≤w.heap.size∧Fst e f∧Met w e wr∧wr.ownsRow w.heap.size 9 1 sv (ats done).length ((ats done).map Value.string)∧Below w.heap.size w wr
theorem Jw: (Tryz.prog.info? 9).map (fun i=>(i.zero,i.size,i.bytes))=some (some (.string .empty),1,16):=by kernel_rfl
theorem Xz (w:World): (zeroValue 279).run Tryz.prog w= .ok (.agg #[]) w:=by kernel_rfl
theorem own_ne {w:World}{base size n M clock:Nat}{e:TypeId}{v:Value}{xs:List Value}{es:Array MapEntry}(h:w.ownsRow base e size v n xs)(hm:w.heap[M]?=some (.map es clock)):v.ownBlock=none∨v.ownBlock≠some M:=by
 rcases h.2 with ⟨rfl,_⟩|⟨g,cap,cur,rfl,_,hg,_⟩
 ·exact Or.inl rfl
 ·refine Or.inr fun hh=> ?_
  simp[Value.ownBlock] at hh
  subst hh
  rw[hm] at hg
  cases hg
theorem own_below {w w':World}{base size n:Nat}{e:TypeId}{v:Value}{xs:List Value}(h:w.ownsRow base e size v n xs)(hb:Below w.heap.size w w'):w'.ownsRow base e size v n xs:=
 h.kept (row:=none) ⟨hb.os,hb.tape,hb.output,hb.size,fun k hk _=>hb.block k hk⟩ (by cases v.ownBlock<;>simp)
theorem lt_of_heap {w:World}{k:Nat}{o:Obj}(h:w.heap[k]?=some o):k<w.heap.size:=by
 rcases Nat.lt_or_ge k w.heap.size with h'|h'
 ·exact h'
 ·simp[Array.getElem?_eq_none h'] at h
theorem Vq {w:World}{M b clock:Nat}{es:Array MapEntry}{c:Int}{s:ByteArray}{e:Value}(hm:w.heap[M]?=some (.map es clock)) (hF:bH w b c s e) (hap:Apart w b es.toList):
  ∃W2,(Instr.mapUpdate 278 (.map (some M)) (.pointer (some ⟨b,0,none⟩)) (.agg #[])).run Tryz.prog (w.alloc (.cells #[] 279))= .ok () W2∧
   W2.heap[M]?=some (.map (es.push {key:= .pointer (some ⟨b,0,none⟩),val:= .agg #[],born:=clock}) (clock+1))∧w.grownBy W2 (some M):=by
 obtain⟨j,hj,hjs⟩:=Option.map_eq_some_iff.1 BO
 have a1: (w.alloc (.cells #[] 279)).heap[M]?=some (.map es clock):=(Below.heap_alloc _ _ _ (lt_of_heap hm)).trans hm
 have a2: (w.alloc (.cells #[] 279)).heap[b]?=some (.cells #[.int .i64 c,.string s,e] 134 (0,0)):=(Below.heap_alloc _ _ _ hF.lt).trans hF
 have a3:Apart (w.alloc (.cells #[] 279)) b es.toList:=fun x hx=>by
  obtain⟨b',ca,ta,hk,hne,hb'⟩:=hap x hx
  exact⟨b',ca,ta,hk,hne,(Below.heap_alloc _ _ _ (lt_of_heap hb')).trans hb'⟩
 refine⟨_,qD Tryz.underlying278 Tryz.underlying131 hj (by rw[hjs];decide) (.agg #[]) a1 a2 a3,zK a1,⟨rfl,rfl,rfl,by rw[zL];simp,fun k hk hne=> ?_⟩⟩
 rw[yG (fun e=>hne (by rw[e])),Below.heap_alloc _ _ _ hk]
theorem Gh {w W:World}{b clock clock':Nat}{es:Array MapEntry}{c:Int}{s:ByteArray}{e:Value}{l:List (Nat×Int×ByteArray)}(hm:W.heap[w.heap.size]?=some (.map (es.push {key:= .pointer (some ⟨b,0,none⟩),val:= .agg #[],born:=clock}) clock'))
  (hes:∀x∈es.toList,∃b' c s e',x.key= .pointer (some ⟨b',0,none⟩)∧errM (.iface 131 (.pointer (some ⟨b,0,none⟩)))<b'+2∧bH w b' c s e') (hfl:bH w b c s e) (hc:Chain w e b l):Met w e W:=by
 have h1:=hc.Cw
 refine⟨_,_,hm,fun x hx=> ?_⟩
 simp at hx
 rcases hx with hx|rfl
 ·obtain⟨b',c',s',e',hk,hlt,hf⟩:=hes x (by simpa using hx)
  exact⟨b',c',s',e',hk,by simp[errM] at hlt;omega,hf⟩
 ·exact⟨b,c,s,e,rfl,h1,hfl⟩
theorem Chain.form {w:World}{v:Value}{B:Nat}{l:List (Nat×Int×ByteArray)}(h:Chain w v B l):v= .nilIface∨∃u x,v= .iface u x:=by
 cases h
 ·exact Or.inl rfl
 all_goals exact Or.inr ⟨_,_,rfl⟩
theorem Mk (l:List (Nat×Int×ByteArray)): (ats l).length≤l.length:=by
 unfold ats
 exact Nat.le_trans (List.length_filter_le _ _) (by simp)
theorem Ow (done:List (Nat×Int×ByteArray))(b:Nat)(c:Int)(s:ByteArray)(h: (!s.toList.isEmpty)=false):ats (done++[(b,c,s)])=ats done:=by
 unfold ats
 rw[List.map_append,List.filter_append]
 simp[List.filter,h]
theorem Tz (done:List (Nat×Int×ByteArray))(b:Nat)(c:Int)(s:ByteArray)(h: (!s.toList.isEmpty)=true):ats (done++[(b,c,s)])=ats done++[s]:=by
 unfold ats
 rw[List.map_append,List.filter_append]
 simp[List.filter,h]
def Places (w:World)(xs:List ByteArray)(e:Ending)(w':World):Prop:=∃sv,e= .returned sv∧w'.ownsRow w.heap.size 9 1 sv xs.length (xs.map Value.string)∧Below w.heap.size w w'
theorem uO (v:Value)(B:Nat)(L:List (Nat×Int×ByteArray))(w:World)(hg:Handle w)(h:Chain w v B L)(hB:B≤w.heap.size)(hL:L.length≤100000):
  Calls Tryz.prog 235 #[v] w (Places w (ats L)):=by
 have hmm:=@run_makeMap Tryz.prog
 have bM:Below w.heap.size w (w.alloc (.map #[] 0)):=(Below.refl _ _).alloc (Nat.le_refl _) _
 have HF:=Lib.hid (oJ v B L (w.alloc (.map #[] 0)) (hg.below bM hg.pos) (h.keep bM hB))
 have HC:=Lib.hid h
 have HG:=Lib.hid hg
 have HM:=Lib.hid bM
 clear h hg bM
 go_enter Tryz.func235,Tryz.ntmps235
 go_wp2_with (go_at_call 123;refine(HF.out).mono ?_;rintro e' w' ⟨f,rfl,hf,hb⟩;have H1:=Lib.hid hf;have H2:=Lib.hid hb;clear hf hb)
 go_loopw [0,3,5] (fun e sv f wr=>WRel w L e sv f wr) (fun e _ _ _=>errM e)
 case atStart=>
  refine⟨[],L,B,rfl,HC.out,hB,H1.out,⟨#[],0,?_,by simp⟩,World.ownsRow_nil _ _ _ _,HM.out.trans (H2.out.mono (by simp))⟩
  rw[H2.out.block w.heap.size (by simp)]
  show(w.heap.push _)[w.heap.size]?=_
  simp
 case round=>
  obtain⟨done,todo,B',hLd,hch,hB',hfst,hmet,hown,hbel⟩:=hrel
  cases hch with
  |none=>
   cases hfst
   go_wp2
   go_ret
   exact⟨_,rfl,by rw[hLd,List.append_nil];exact hown,hbel⟩
  |other a _ ha=>
   cases hfst
   go_wp2
   go_ret
   exact⟨_,rfl,by rw[hLd,List.append_nil];exact hown,hbel⟩
  |plain c=>
   cases hfst with
   |plain _ b=>
   have hty:=run_eql_iface_types (P:=Tryz.prog) 128 131 (.int .i64 c) (.pointer (some ⟨b,0,none⟩)) Tryz.underlying28 (by decide) wr
   have HN:=Lib.hid (xV _ .nilIface wr (.plain (.int .i64 c)) (Or.inl rfl))
   have HL:=Lib.hid hLd
   clear hLd
   go_wp2_with (first|(go_at_call 265;refine(HN.out).mono ?_;rintro e' w1 ⟨rfl,hb1⟩;have HB1:=Lib.hid hb1;clear hb1)|(go_at_call 123;refine(Ak _).mono ?_;rintro e' w2 ⟨rfl,hb2⟩;have HB2:=Lib.hid hb2;clear hb2))
   go_roundw
   case rel=>
    have b12:Below wr.heap.size wr w2:=HB1.out.trans (HB2.out.mono HB1.out.size)
    obtain⟨es,clock,hm,hes⟩:=hmet
    refine⟨done,[],0,HL.out,.none 0,Nat.zero_le _,.none,⟨es,clock,(b12.block _ (lt_of_heap hm)).trans hm,fun x hx=> ?_⟩,own_below hown b12,hbel.trans (b12.mono hbel.size)⟩
    obtain⟨b',c',s',e',hk,hlt,hf⟩:=hes x hx
    exact⟨b',c',s',e',hk,by simp[errM],hf⟩
   case measure=>simp[errM]
  |link b c s e _ l hfl hlt hc=>
   cases hfst
   have F:bH wr b c s e:=hfl.below hbel (by omega)
   obtain⟨i,hi,hcmp⟩:=Option.map_eq_some_iff.1 FC
   obtain⟨j,hj,hjs⟩:=Option.map_eq_some_iff.1 BO
   have heq:=run_eql_iface_ptr_same (P:=Tryz.prog) wr ⟨b,0,none⟩ Tryz.underlying28 Tryz.underlying131 hi hcmp hj
   obtain⟨es,clock,hm,hes⟩:=hmet
   have hap:Apart wr b es.toList:=fun x hx=>by
    obtain⟨b',c',s',e',hk,hlt',hf'⟩:=hes x hx
    exact⟨b',_,_,hk,by simp[errM] at hlt';omega,hf'.below hbel hf'.lt⟩
   have hlk:=uE Tryz.underlying278 Tryz.underlying131 hj (by rw[hjs];decide) (Xz wr) hm F hap
   obtain⟨W2,hmu,hm2,hg2⟩:=Vq hm F hap
   have F2:bH W2 b c s e:=(hg2.block b F.lt (fun h=>by simp at h;rw[←h,F] at hm;cases hm)).trans F
   have c1:=F2.cell1
   have hM:=lt_of_heap hm
   have hbel2:Below w.heap.size w W2:=hbel.trans ⟨hg2.os,hg2.tape,hg2.output,hg2.size,fun k hk=>hg2.block k (by omega) (fun h=>by simp at h;omega)⟩
   have hown2:=hown.kept hg2 (own_ne hown hm)
   have HE:=Lib.hid hc.form
   have HCC:=Lib.hid hc
   have HES:=Lib.hid hes
   have HM2:=Lib.hid hm2
   have HB2:=Lib.hid hbel2
   have HF2:=Lib.hid F2
   have HO2:=Lib.hid hown2
   have HL:=Lib.hid hLd
   have HFL:=Lib.hid hfl
   clear hap hes hm hm2 hbel2 F2 hown2 hLd hfl F hg2 hbel hown hi hcmp hj hjs
   by_cases hs: (!s.toList.isEmpty)=true
   ·obtain⟨i0,hi0,hz0,hz1,hz2⟩:=info_parts Jw
    have HS:=Lib.hid hs
    have hlen: (ats done).length≤100000:=by
     have:=Mk done
     have h1:=HL.out
     rw[h1] at hL
     simp at hL
     omega
    go_wp2_with (at_builtin;refine wpList_append_own _ rfl _ _ 243 rfl w.heap.size 9 i0 (.string .empty) 1 16 Tryz.underlying243 hi0 hz0 hz1 hz2 rfl (by decide) _ _ _ rfl (HO2.out.alloc _) ⟨W2.heap.size,0,none⟩ 1 1 [.string s] rfl rfl ?c1 ?c2 ?c3 ?c4 ?c5 ?_)
    case c1=>
     intro j u hj
     match j,hj with
     |0,hj=>simp at hj;subst hj;simp[Addr.add]
    case c2=>intro u hu;simp at hu;subst hu;rfl
    case c3=>unfold maxLen;omega
    case c4=>omega
    case c5=>have:=HB2.out.size;simp;omega
    intro v' w3 hown3 hg3 _
    have hB3:Below w.heap.size w w3:=(HB2.out.alloc HB2.out.size _).grown hg3 (by have:=HB2.out.size;simp;omega) (fun k hk=>(HO2.out.lt k hk).1)
    have hM3:w3.heap[w.heap.size]?=_:=(hg3.block w.heap.size (by have:=lt_of_heap HM2.out;simp;omega) (by rcases own_ne HO2.out HM2.out with h|h;·rw[h];simp
                                                                                                          ·exact fun e=>h e.symm)).trans ((Below.heap_alloc _ _ _ (lt_of_heap HM2.out)).trans HM2.out)
    have F3:bH w3 b c s e:=HFL.out.below hB3 HFL.out.lt
    have HN:=Lib.hid (xV _ e w3 (.link b e F3.Mr) HE.out)
    have H3:=Lib.hid hB3
    have HM3:=Lib.hid hM3
    have HO3:=Lib.hid hown3
    clear hB3 hM3 hown3 hg3 F3
    go_wp2_with (go_at_call 265;refine(HN.out).mono ?_;rintro e' w4 ⟨rfl,hb4⟩;have HB4:=Lib.hid hb4;clear hb4)
    have HH:=Lib.hid (oJ e b l w4 (HG.out.below (H3.out.trans (HB4.out.mono H3.out.size)) HG.out.pos) (HCC.out.keep (H3.out.trans (HB4.out.mono H3.out.size)) (by omega)))
    go_wp2_with (go_at_call 123;refine(HH.out).mono ?_;rintro e' w5 ⟨f',rfl,hf5,hb5⟩;have HB5:=Lib.hid hb5;have HF5:=Lib.hid hf5;clear hb5 hf5)
    go_roundw
    case rel=>
     have b35:Below w3.heap.size w3 w5:=HB4.out.trans (HB5.out.mono HB4.out.size)
     refine⟨done++[(b,c,s)],l,b,by rw[HL.out];simp,HCC.out,by omega,HF5.out,Gh ((b35.block _ (lt_of_heap HM3.out)).trans HM3.out) HES.out HFL.out HCC.out,?_,H3.out.trans (b35.mono H3.out.size)⟩
     rw[Tz _ _ _ _ HS.out]
     simpa using own_below HO3.out b35
    case measure=>
     have:=HCC.out.Cw
     simpa[errM] using this
   ·have hs': (!s.toList.isEmpty)=false:=by simpa using hs
    have HS:=Lib.hid hs'
    clear hs
    have HN:=Lib.hid (xV _ e W2 (.link b e HF2.out.Mr) HE.out)
    go_wp2_with (go_at_call 265;refine(HN.out).mono ?_;rintro e' w4 ⟨rfl,hb4⟩;have HB4:=Lib.hid hb4;clear hb4)
    have HH:=Lib.hid (oJ e b l w4 (HG.out.below (HB2.out.trans (HB4.out.mono HB2.out.size)) HG.out.pos) (HCC.out.keep (HB2.out.trans (HB4.out.mono HB2.out.size)) (by omega)))
    go_wp2_with (go_at_call 123;refine(HH.out).mono ?_;rintro e' w5 ⟨f',rfl,hf5,hb5⟩;have HB5:=Lib.hid hb5;have HF5:=Lib.hid hf5;clear hb5 hf5)
    go_roundw
    case rel=>
     have b35:Below W2.heap.size W2 w5:=HB4.out.trans (HB5.out.mono HB4.out.size)
     refine⟨done++[(b,c,s)],l,b,by rw[HL.out];simp,HCC.out,by omega,HF5.out,Gh ((b35.block _ (lt_of_heap HM2.out)).trans HM2.out) HES.out HFL.out HCC.out,?_,HB2.out.trans (b35.mono HB2.out.size)⟩
     rw[Ow _ _ _ _ HS.out]
     exact own_below HO2.out b35
    case measure=>
     have:=HCC.out.Cw
     simpa[errM] using this
end Go.Proofs.YtlhmfgbaefaneaaGreatDoor.flt
namespace Go.Proofs.YtlhmfgbaefaneaaGreatDoor.flt
open Go.RowKit
theorem sizeBuilder: (Tryz.prog.info? 171).map (·.size)=some 2:=by kernel_rfl
theorem liesBuilder:liesAt Tryz.prog Tryz.prog.depth 171 (2/Tryz.prog.cellsOf 171) 0 171 1=true:=by kernel_rfl
theorem infoByte: (Tryz.prog.info? 5).map (fun i=>(i.zero,i.size,i.bytes))=some (some (.int .u8 0),1,1):=by kernel_rfl
theorem cellsByte:Tryz.prog.cellsOf 5=1:=by kernel_rfl
theorem wT (b:Nat)(w:World)(h0:w.cell? ⟨b,0,none⟩=some (.pointer (some ⟨b,0,none⟩))):
  Calls Tryz.prog 203 #[.pointer (some ⟨b,0,none⟩)] w fun e w'=>e= .returned (.tuple #[])∧w=w':=by
 obtain⟨j,hj,_⟩:=Option.map_eq_some_iff.1 sizeBuilder
 go_enter Tryz.func203,Tryz.ntmps203
 go_wp2
 rw[Lib.run_neq_ptr_same w _ Tryz.underlying169 hj]
 go_wp2
 go_end0
 exact⟨rfl,rfl⟩
theorem vE (b:Nat)(w:World)(h0:w.cell? ⟨b,0,none⟩=some (.pointer none))(hsh:w.shape? b=some (171,2))(hfz:w.frozen? ⟨b,0,none⟩=false):
  Calls Tryz.prog 203 #[.pointer (some ⟨b,0,none⟩)] w fun e w'=>e= .returned (.tuple #[])∧w'=w.setCell ⟨b,0,none⟩ (.pointer (some ⟨b,0,none⟩)):=by
 obtain⟨j,hj,hjs⟩:=Option.map_eq_some_iff.1 sizeBuilder
 go_enter Tryz.func203,Tryz.ntmps203
 go_wp2
 rw[Lib.run_to_unsafe w ⟨b,0,none⟩ Tryz.underlying169 Tryz.underlying205 hj (by rw[hjs];decide) hsh (Nat.zero_lt_succ 1)]
 simp only[Result.andThen]
 rw[Oper.upon_value]
 go_wp2
 rw[run_callFunc_extern Tryz.func248 (by kernel_rfl) (by kernel_rfl) (by kernel_rfl) (e:=Extern.AbiNoEscape.same) (by kernel_rfl)]
 rw[Lib.run_noEscape]
 simp only[Result.andThen]
 rw[Oper.upon_value]
 go_wp2
 rw[Lib.run_from_unsafe w ⟨b,0,none⟩ Tryz.underlying205 Tryz.underlying169 hj hsh liesBuilder]
 simp only[Result.andThen]
 rw[Oper.upon_value]
 go_wp2
 go_end0
 exact⟨rfl,rfl⟩
def Keeps (b:Nat)(w w':World):Prop:=∀k cs T fr,k≠b→T≠5→w.heap[k]?=some (.cells cs T fr)→w'.heap[k]?=some (.cells cs T fr)
theorem zG (B b:Nat)(bs:List Value)(w:World)(h:Lib.IsBuilder 171 5 B b bs w):
  Calls Tryz.prog 203 #[.pointer (some ⟨b,0,none⟩)] w fun e w'=>e= .returned (.tuple #[])∧(Lib.BuilderAt 171 5 B b (.pointer (some ⟨b,0,none⟩)) bs w'∧Below B w w'∧Keeps b w w'):=by
 rcases h with h|h
 ·refine(vE b w h.cell0 h.shape h.frozen0).mono ?_
  rintro e w' ⟨rfl,rfl⟩
  exact⟨rfl,h.used _,(Below.refl B w).setCell (p:=⟨b,0,none⟩) h.1 _,fun k cs T fr hk _ hh=>(Below.heap_setCell _ _ _ _ hk).trans hh⟩
 ·refine(wT b w h.cell0).mono ?_
  rintro e w' ⟨rfl,rfl⟩
  exact⟨rfl,h,Below.refl B _,fun _ _ _ _ _ _ hh=>hh⟩
theorem writeString (B b:Nat)(bs:List Value)(s:ByteArray)(w:World)(h:Lib.IsBuilder 171 5 B b bs w)(hlen:bs.length+s.size≤140737488355328)(hBw:B≤w.heap.size):
  Calls Tryz.prog 158 #[.pointer (some ⟨b,0,none⟩),.string s] w fun e w'=>e= .returned (.tuple #[.int .i64 s.size,.nilIface])∧(Lib.BuilderAt 171 5 B b (.pointer (some ⟨b,0,none⟩)) (bs++Lib.strCells s) w'∧Below B w w'∧Keeps b w w'):=by
 obtain⟨i0,hi,hz0,hz1,hz2⟩:=info_parts infoByte
 have HH:=Lib.hid h
 clear h
 go_enter Tryz.func158,Tryz.ntmps158
 go_wp2_with (go_at_call 203;refine(zG B b bs _ HH.out).mono ?_)
 rintro e w1 ⟨rfl,h1,hb1,hk1⟩
 have HK:=Lib.hid hk1
 clear hk1
 obtain⟨hB,v,hbk,hown,hne⟩:=h1
 have c0:w1.cell? ⟨b,0,none⟩=some (.pointer (some ⟨b,0,none⟩)):=by rw[Lib.cell_of_heap hbk];rfl
 have c1:w1.cell? ⟨b,1,none⟩=some v:=by rw[Lib.cell_of_heap hbk];rfl
 go_wp2_with (at_builtin;refine Lib.wpList_append_own_string _ rfl _ _ 130 9 rfl B 5 i0 Tryz.underlying130 Tryz.underlying9 hi hz0 hz1 hz2 _ _ _ rfl hown s rfl ?c3 ?c4 ?c5 ?_)
 case c3=>unfold maxLen;omega
 case c4=>omega
 case c5=>have:=hb1.size;omega
 intro v' w2 hown' hgrow _
 have hlt:b<w1.heap.size:=by
  rcases Nat.lt_or_ge b w1.heap.size with h'|h'
  ·exact h'
  ·simp[Array.getElem?_eq_none h'] at hbk
 have hb2:w2.heap[b]?=some (.cells #[.pointer (some ⟨b,0,none⟩),v] 171 (0,0)):=by
  rw[hgrow.block b hlt (fun e=>hne e.symm)]
  exact hbk
 have d0:w2.cell? ⟨b,0,none⟩=some (.pointer (some ⟨b,0,none⟩)):=by rw[Lib.cell_of_heap hb2];rfl
 have d1:w2.cell? ⟨b,1,none⟩=some v:=by rw[Lib.cell_of_heap hb2];rfl
 have f1:w2.frozen? ⟨b,1,none⟩=false:=Lib.frozen_of_heap hb2 1
 obtain⟨ao,n',cap,rfl⟩:∃ao n' cap,v'= .slice ao n' cap:=by
  rcases hown'.2 with ⟨hv,_⟩|⟨g,cap,cur,hv,_⟩
  ·exact⟨_,_,_,hv⟩
  ·exact⟨_,_,_,hv⟩
 go_wp2
 go_ret2
 refine⟨rfl,?_,?_,?_⟩
 ·exact Lib.BuilderAt.put (T:=171) (e:=5) hB hb2 (bs':=bs++Lib.strCells s) (by simpa[Lib.strCells_length] using hown') (by decide)
 ·exact(hb1.grown hgrow (by have:=hb1.size;omega) (fun k hk=>(hown.lt k hk).1)).setCell (p:=⟨b,1,none⟩) hB _
 ·intro k cs T fr hkb hT hh
  have h1:=HK.out k cs T fr hkb hT hh
  rw[Below.heap_setCell _ _ _ _ hkb]
  have hlt1:k<w1.heap.size:=by
   rcases Nat.lt_or_ge k w1.heap.size with h'|h'
   ·exact h'
   ·simp[Array.getElem?_eq_none h'] at h1
  refine(hgrow.block k hlt1 (fun e=> ?_)).trans h1
  rcases hown.2 with ⟨rfl,_⟩|⟨g,cap,cur,rfl,_,hg,_⟩
  ·simp[Value.ownBlock] at e
  ·simp[Value.ownBlock] at e
   subst e
   rw[h1] at hg
   simp at hg
   exact hT hg.2.1
theorem zF (B b:Nat)(l:List UInt8)(w:World)(h:Lib.IsBuilder 171 5 B b (Lib.byteCells l) w)(h0:l≠[]):
  Calls Tryz.prog 160 #[.pointer (some ⟨b,0,none⟩)] w fun e w'=>e= .returned (.string ⟨l.toArray⟩)∧Below B w w':=by
 obtain⟨p,hB,v,hbk,hown,hne⟩:∃p,Lib.BuilderAt 171 5 B b p (Lib.byteCells l) w:=by
  rcases h with h|h
  ·exact⟨_,h⟩
  ·exact⟨_,h⟩
 have hl0:l.length≠0:=by simpa using h0
 rw[Lib.byteCells_length] at hown
 obtain⟨g,cap,cur,rfl,hbg,hg,hnc,hcm,hcs,htake⟩:∃g cap cur,v= .slice (some ⟨g,0,none⟩) l.length cap∧B≤g∧w.heap[g]?=some (.cells cur 5 (0,0))∧l.length≤cap∧cap≤maxLen∧cur.size=cap*1∧cur.toList.take (l.length*1)=Lib.byteCells l:=by
  rcases hown.2 with ⟨_,hz⟩|⟨g,cap,cur,hv,r⟩
  ·exact absurd hz hl0
  ·exact⟨g,cap,cur,hv,r⟩
 have c1:w.drew.cell? ⟨b,1,none⟩=some (.slice (some ⟨g,0,none⟩) l.length cap):=by
  have:w.drew.heap[b]?=some (.cells #[p,.slice (some ⟨g,0,none⟩) l.length cap] 171 (0,0)):=hbk
  rw[Lib.cell_of_heap this];rfl
 have hSD: (Builtin.unsafeSliceData_ #[130] 204 #[.slice (some ⟨g,0,none⟩) l.length cap]).run Tryz.prog w.drew= .ok (.pointer (some ⟨g,0,none⟩)) w.drew:=
  Lib.run_unsafeSliceData_row _ _ _ _ _ _ (by omega)
 have hUS: (Builtin.unsafeString_ #[204,3] 9 #[.pointer (some ⟨g,0,none⟩),.int .i64 l.length]).run Tryz.prog w.drew= .ok (.string ⟨l.toArray⟩) (w.drew.freeze ⟨g,0,none⟩ l.length):=by
  refine Lib.run_unsafeString_row w.drew 204 3 9 5 Tryz.underlying204 cellsByte g cur.size (by have hg':w.drew.heap[g]?=some (.cells cur 5 (0,0)):=hg;simp[World.shape?,hg']) l h0 (by omega) (by unfold maxLen at hcm;omega) ?_
  intro j x hx
  have:=hown.cells (g:=g) rfl j (.int .u8 x.toNat) (by simp[Lib.byteCells,hx])
  exact this
 clear hown h hcs htake hg hbk hnc hcm
 go_enter Tryz.func160,Tryz.ntmps160
 go_wp2
 go_region
 all_goals (go_wp2;go_ret;exact⟨rfl,Lib.below_freeze (Below.drew (Below.refl B w)) (p:=⟨g,0,none⟩) hbg _⟩)
end Go.Proofs.YtlhmfgbaefaneaaGreatDoor.flt
namespace Go.Proofs.YtlhmfgbaefaneaaGreatDoor.flt
open Go.RowKit
def msg (c:Int):ByteArray:=⟨#[101,114,114,111,114,32]++(if c<10 then #[(48+c.toNat).toUInt8] else #[49,(38+c.toNat).toUInt8])⟩
theorem text1 (w:World):Calls Tryz.prog 310 #[.int .i64 1] w fun e w'=>e= .returned (.string (msg 1))∧w=w':=by
 go_enter Tryz.func310,Tryz.ntmps310
 go_wp2
 go_ret
 exact⟨rfl,rfl⟩
theorem FL (w:World):Calls Tryz.prog 310 #[.int .i64 2] w fun e w'=>e= .returned (.string (msg 2))∧w=w':=by
 go_enter Tryz.func310,Tryz.ntmps310
 go_wp2
 go_ret
 exact⟨rfl,rfl⟩
theorem FM (w:World):Calls Tryz.prog 310 #[.int .i64 3] w fun e w'=>e= .returned (.string (msg 3))∧w=w':=by
 go_enter Tryz.func310,Tryz.ntmps310
 go_wp2
 go_ret
 exact⟨rfl,rfl⟩
theorem FN (w:World):Calls Tryz.prog 310 #[.int .i64 4] w fun e w'=>e= .returned (.string (msg 4))∧w=w':=by
 go_enter Tryz.func310,Tryz.ntmps310
 go_wp2
 go_ret
 exact⟨rfl,rfl⟩
theorem FO (w:World):Calls Tryz.prog 310 #[.int .i64 5] w fun e w'=>e= .returned (.string (msg 5))∧w=w':=by
 go_enter Tryz.func310,Tryz.ntmps310
 go_wp2
 go_ret
 exact⟨rfl,rfl⟩
theorem FP (w:World):Calls Tryz.prog 310 #[.int .i64 6] w fun e w'=>e= .returned (.string (msg 6))∧w=w':=by
 go_enter Tryz.func310,Tryz.ntmps310
 go_wp2
 go_ret
 exact⟨rfl,rfl⟩
theorem FQ (w:World):Calls Tryz.prog 310 #[.int .i64 7] w fun e w'=>e= .returned (.string (msg 7))∧w=w':=by
 go_enter Tryz.func310,Tryz.ntmps310
 go_wp2
 go_ret
 exact⟨rfl,rfl⟩
theorem FR (w:World):Calls Tryz.prog 310 #[.int .i64 8] w fun e w'=>e= .returned (.string (msg 8))∧w=w':=by
 go_enter Tryz.func310,Tryz.ntmps310
 go_wp2
 go_ret
 exact⟨rfl,rfl⟩
theorem FT (w:World):Calls Tryz.prog 310 #[.int .i64 9] w fun e w'=>e= .returned (.string (msg 9))∧w=w':=by
 go_enter Tryz.func310,Tryz.ntmps310
 go_wp2
 go_ret
 exact⟨rfl,rfl⟩
theorem ED (w:World):Calls Tryz.prog 310 #[.int .i64 10] w fun e w'=>e= .returned (.string (msg 10))∧w=w':=by
 go_enter Tryz.func310,Tryz.ntmps310
 go_wp2
 go_ret
 exact⟨rfl,rfl⟩
theorem EF (w:World):Calls Tryz.prog 310 #[.int .i64 11] w fun e w'=>e= .returned (.string (msg 11))∧w=w':=by
 go_enter Tryz.func310,Tryz.ntmps310
 go_wp2
 go_ret
 exact⟨rfl,rfl⟩
theorem oV (c:Int)(h1:1≤c)(h2:c≤11)(w:World):Calls Tryz.prog 310 #[.int .i64 c] w fun e w'=>e= .returned (.string (msg c))∧w=w':=by
 have hc:c=1∨c=2∨c=3∨c=4∨c=5∨c=6∨c=7∨c=8∨c=9∨c=10∨c=11:=by omega
 rcases hc with rfl|rfl|rfl|rfl|rfl|rfl|rfl|rfl|rfl|rfl|rfl
 ·exact text1 w
 ·exact FL w
 ·exact FM w
 ·exact FN w
 ·exact FO w
 ·exact FP w
 ·exact FQ w
 ·exact FR w
 ·exact FT w
 ·exact ED w
 ·exact EF w
end Go.Proofs.YtlhmfgbaefaneaaGreatDoor.flt
namespace Go.Proofs.YtlhmfgbaefaneaaGreatDoor.flt
open Go.RowKit Go.Extern.Stop Go.Stop Go.Extern
def render (xs:List ByteArray):List UInt8:=xs.flatMap fun s=>s.data.toList++[58,32]
theorem Ff (s:ByteArray):s.data.toList.length=s.size:=by rw[Array.length_toList];rfl
theorem Kq (n m:Nat)(hm:n+2≤m)(xs:List ByteArray)(h:∀s∈xs,s.size≤n): (render xs).length≤xs.length*m:=by
 unfold render
 induction xs with
 |nil=>simp
 |cons s xs ih=>
  have h1:=ih (fun y hy=>h y (by simp[hy]))
  have h2:=h s (by simp)
  have h3:=Ff s
  simp only[List.flatMap_cons,List.length_append,List.length_cons,List.length_nil]
  rw[h3,Nat.succ_mul]
  omega
theorem sH (xs:List ByteArray)(h:∀s∈xs,s.size≤100000)(hl:xs.length≤100000): (render xs).length≤10000200000:=by
 have h1:=Kq 100000 100002 (by omega) xs h
 have h2:=Nat.mul_le_mul_right 100002 hl
 omega
theorem Gx (xs:List ByteArray)(k:Nat)(h:k<xs.length):render (xs.take (k+1))=render (xs.take k)++xs[k].data.toList++[58,32]:=by
 unfold render
 rw[List.take_succ_eq_append_getElem h,List.flatMap_append]
 simp only[List.flatMap_cons,List.flatMap_nil,List.append_nil,List.append_assoc]
theorem Ar {w w':World}{b base n:Nat}{v:Value}{xs:List Value}{cb:Array Value}(h:w.ownsRow base 9 1 v n xs)(hk:Keeps b w w')(hb:w.heap[b]?=some (.cells cb 171 (0,0))):w'.ownsRow base 9 1 v n xs:=by
 refine⟨h.1,?_⟩
 rcases h.2 with hn|⟨g,cap,cur,rfl,hbg,hg,r⟩
 ·exact .inl hn
 ·refine .inr ⟨g,cap,cur,rfl,hbg,hk g cur _ _ (fun e=> ?_) (by decide) hg,r⟩
  subst e
  rw[hg] at hb
  simp at hb
theorem Qo {w:World}{base size n:Nat}{e:TypeId}{v:Value}{xs:List Value}(h:w.ownsRow base e size v n xs):∃ao cap,v= .slice ao n cap:=by
 rcases h.2 with ⟨rfl,rfl⟩|⟨g,cap,cur,rfl,_⟩
 ·exact⟨_,_,rfl⟩
 ·exact⟨_,_,rfl⟩
theorem rF {B b:Nat}{bs:List Value}{w:World}(h:Lib.IsBuilder 171 5 B b bs w):∃cb,w.heap[b]?=some (.cells cb 171 (0,0)):=by
 rcases h with ⟨_,v,hb,_⟩|⟨_,v,hb,_⟩<;>exact⟨_,hb⟩
def ERel (w:World)(xs:List ByteArray)(sv:Value)(i:Value)(wr:World):Prop:=
 ∃k:Nat,k≤xs.length∧i= .int .i64 k∧Lib.IsBuilder 171 5 w.heap.size w.heap.size (Lib.byteCells (render (xs.take k))) wr∧(∃base,wr.ownsRow base 9 1 sv xs.length (xs.map Value.string))∧Below w.heap.size w wr
theorem Dy (b:Nat)(c:Int)(s:ByteArray)(B:Nat)(l:List (Nat×Int×ByteArray))(w:World)(hg:Handle w)(h:Chain w (.iface 131 (.pointer (some ⟨b,0,none⟩))) B ((b,c,s)::l))(hB:B≤w.heap.size)
  (hL: ((b,c,s)::l).length≤100000) (hS:∀x∈(b,c,s)::l,x.2.2.size≤100000) (h1:1≤c) (h2:c≤11):
  Calls Tryz.prog 311 #[.pointer (some ⟨b,0,none⟩)] w fun ev w'=>ev= .returned (.string ⟨(render (ats ((b,c,s)::l))++(msg c).data.toList).toArray⟩)∧Below w.heap.size w w':=by
 obtain⟨e,hf⟩:∃e,bH w b c s e:=by
  cases h with
  |link _ _ _ e _ _ hf _ _=>exact⟨e,hf⟩
 have xs_len:=Mk ((b,c,s)::l)
 have xs_sz:∀x∈ats ((b,c,s)::l),x.size≤100000:=by
  intro x hx
  unfold ats at hx
  rw[List.mem_filter,List.mem_map] at hx
  obtain⟨⟨y,hy,rfl⟩,_⟩:=hx
  exact hS y hy
 have bW:Below w.heap.size w (w.alloc (.cells #[.pointer none,.slice none 0 0] 171)):=(Below.refl _ _).alloc (Nat.le_refl _) _
 have iB:Lib.IsBuilder 171 5 w.heap.size w.heap.size (Lib.byteCells (render [])) (w.alloc (.cells #[.pointer none,.slice none 0 0] 171)):=
  Or.inl ⟨Nat.le_refl _,.slice none 0 0,by show(w.heap.push _)[w.heap.size]?=_;simp,World.ownsRow_nil _ _ _ _,by simp[Value.ownBlock]⟩
 have HW:=Lib.hid (uO _ B ((b,c,s)::l) (w.alloc (.cells #[.pointer none,.slice none 0 0] 171)) (hg.below bW hg.pos) (h.keep bW hB) (by simp;omega) hL)
 generalize hxs:ats ((b,c,s)::l)=xs at *
 clear hxs h hS
 have HI:=Lib.hid iB
 have HF:=Lib.hid hf
 have HB:=Lib.hid bW
 have HX:=Lib.hid xs_sz
 clear iB hf bW xs_sz
 go_enter Tryz.func311,Tryz.ntmps311
 go_wp2_with (go_at_call 235;refine(HW.out).mono ?_;rintro e' W2 ⟨sv,rfl,hown,hb2⟩;obtain⟨ao,cap,rfl⟩:=Qo hown;have HO:=Lib.hid hown;have HB2:=Lib.hid hb2;clear hown hb2)
 have bW2:Below w.heap.size w W2:=HB.out.trans (HB2.out.mono (by simp))
 have iW2:Lib.IsBuilder 171 5 w.heap.size w.heap.size (Lib.byteCells (render (xs.take 0))) W2:=
  Or.inl ⟨Nat.le_refl _,.slice none 0 0,by rw[HB2.out.block _ (by simp)];show(w.heap.push _)[w.heap.size]?=_;simp,World.ownsRow_nil _ _ _ _,by simp[Value.ownBlock]⟩
 have H2:=Lib.hid bW2
 have HI2:=Lib.hid iW2
 clear bW2 iW2
 go_loopw [12] (fun i wr=>ERel w xs (.slice ao xs.length cap) i wr) (fun i _=>xs.length - (intOf i).toNat)
 case atStart=>exact⟨0,Nat.zero_le _,rfl,HI2.out,⟨_,HO.out⟩,H2.out⟩
 case round=>
  obtain⟨k,hk,rfl,hI,⟨base,hown⟩,hbel⟩:=hrel
  by_cases hlt:k<xs.length
  ·obtain⟨g,rfl⟩:∃g,ao=some ⟨g,0,none⟩:=by
    rcases hown.2 with ⟨_,h0⟩|⟨g,cap',cur,hv,_⟩
    ·omega
    ·simp at hv
     exact⟨g,hv.1⟩
   have hcell:wr.cell? ⟨g,k,none⟩=some (.string xs[k]):=by
    have:=hown.cellAt k (by omega)
    rw[this]
    simp[List.getElem?_eq_getElem hlt]
   obtain⟨cb,hcb⟩:=rF hI
   have hsz: (render (xs.take k)).length≤10000200000:=sH _ (fun x hx=>HX.out x (List.mem_of_mem_take hx)) (Nat.le_trans (List.length_take_le' _ _) (by omega))
   have hs0:=HX.out xs[k] (List.getElem_mem hlt)
   have hW:=Lib.hid (writeString w.heap.size w.heap.size _ xs[k] wr hI (by rw[Lib.byteCells_length];omega) hbel.size)
   have HOW:=Lib.hid hown
   have HCB:=Lib.hid hcb
   have HBL:=Lib.hid hbel
   clear hI hown hcb hbel
   go_wp2_with (go_at_call 158;refine(hW.out).mono ?_;rintro e' w3 ⟨rfl,hI3,hb3,hk3⟩;have HI3:=Lib.hid hI3;have HB3:=Lib.hid hb3;have HK3:=Lib.hid hk3;clear hI3 hb3 hk3 hW)
   have hI3':Lib.IsBuilder 171 5 w.heap.size w.heap.size (Lib.byteCells (render (xs.take k)++xs[k].data.toList)) w3:=by
    rw[Lib.byteCells_append,←Lib.strCells_eq]
    exact Or.inr HI3.out
   have bl3:Below w.heap.size w w3:=HBL.out.trans HB3.out
   have hW4:=Lib.hid (writeString w.heap.size w.heap.size _ ⟨#[58,32]⟩ w3 hI3' (by rw[Lib.byteCells_length,List.length_append,Ff];show _+xs[k].size+2≤_;omega) bl3.size)
   have HBL3:=Lib.hid bl3
   clear hI3' bl3
   go_wp2_with (go_at_call 158;refine(hW4.out).mono ?_;rintro e' w4 ⟨rfl,hI4,hb4,hk4⟩;have HI4:=Lib.hid hI4;have HB4:=Lib.hid hb4;have HK4:=Lib.hid hk4;clear hI4 hb4 hk4 hW4)
   go_roundw
   case rel=>
    have o3:=Ar HOW.out HK3.out HCB.out
    obtain⟨cb3,hcb3⟩:=rF (Or.inr HI3.out)
    refine⟨k+1,by omega,by go_num,?_,⟨base,Ar o3 HK4.out hcb3⟩,HBL3.out.trans HB4.out⟩
    rw[Gx _ _ hlt,Lib.byteCells_append]
    exact Or.inr HI4.out
   case measure=>simp[intOf];omega
  ·have hkl:k=xs.length:=by omega
   subst hkl
   rw[List.take_length] at hI
   have hsz: (render xs).length≤10000200000:=sH _ HX.out (by omega)
   have hm: (msg c).size≤100:=by
    unfold msg
    show Array.size _≤100
    split<;>simp
   have hW:=Lib.hid (writeString w.heap.size w.heap.size _ (msg c) wr hI (by rw[Lib.byteCells_length];omega) hbel.size)
   have f0:=(HF.out.below hbel HF.out.lt).cell0
   have HT:=Lib.hid (oV c h1 h2 wr)
   have HBL:=Lib.hid hbel
   clear hI hown hbel h1 h2
   go_wp2_with (first|(go_at_call 310;refine(HT.out).mono ?_;rintro e' w' ⟨rfl,rfl⟩;clear HT)|(go_at_call 158;refine(hW.out).mono ?_;rintro e' w3 ⟨rfl,hI3,hb3,-⟩;have HI3:=Lib.hid hI3;have HB3:=Lib.hid hb3;clear hI3 hb3 hW))
   have hI4:Lib.IsBuilder 171 5 w.heap.size w.heap.size (Lib.byteCells (render xs++(msg c).data.toList)) w3:=by
    rw[Lib.byteCells_append,←Lib.strCells_eq]
    exact Or.inr HI3.out
   have hS:=Lib.hid (zF w.heap.size w.heap.size _ w3 hI4 (by unfold msg;simp))
   clear hI4
   go_wp2_with (go_at_call 160;refine(hS.out).mono ?_;rintro e' w4 ⟨rfl,hb4⟩;have HB4:=Lib.hid hb4;clear hb4 hS)
   go_ret
   exact⟨rfl,HBL.out.trans (HB3.out.trans HB4.out)⟩
end Go.Proofs.YtlhmfgbaefaneaaGreatDoor.flt
namespace Go.Proofs.YtlhmfgbaefaneaaGreatDoor.flt
open Go.RowKit Go.Extern.Stop Go.Stop Go.Extern
def iC (w:World)(v tgt:Value)(r:Bool):Prop:=(binOp .eql 28 v tgt).run Tryz.prog w= .ok (.bool r) w
structure Comp (u:TypeId):Prop where
 ty:∀v w,(ReflectliteType.typeOf #[.iface u v]).run Tryz.prog w= .ok (.iface 258 (.agg #[.pointer (some ⟨10,u,none⟩)])) w
 cm:∀w,(ReflectliteType.method (fun t=>do Rtype.noPackHeld "Comparable" t;(fun a=>Value.bool a.comparable)<$>typeInfo t) #[.agg #[.pointer (some ⟨10,u,none⟩)]]).run Tryz.prog w= .ok (.bool true) w
theorem Af:Comp 128:=⟨Nr,fun w=>by kernel_rfl⟩
theorem Po (c:Int)(u:TypeId)(x:Value)(r:Bool)(w:World)(h:iC w (.iface 128 (.int .i64 c)) (.iface u x) r):
  Calls Tryz.prog 266 #[.iface 128 (.int .i64 c),.iface u x,.bool true] w fun e w'=>e= .returned (.bool r)∧w=w':=by
 unfold iC at h
 have nI:=BM
 have nU:=Vy
 have nUs:=Wh
 cases r
 ·go_enter Tryz.func266,Tryz.ntmps266
  go_wp2
  refine wp_loop_rounds 1 ?_
  rw[rounds_succ]
  go_wp2
  go_ret
  exact⟨rfl,rfl⟩
 ·go_enter Tryz.func266,Tryz.ntmps266
  go_wp2
  refine wp_loop_rounds 1 ?_
  rw[rounds_succ]
  go_wp2
  go_ret
  exact⟨rfl,rfl⟩
theorem Ut (u1:TypeId)(x1:Value)(u:TypeId)(x:Value)(r:Bool)(w:World)(hC:Comp u)
  (h:Calls Tryz.prog 266 #[.iface u1 x1,.iface u x,.bool true] w fun e w'=>e= .returned (.bool r)∧w=w'):
  Calls Tryz.prog 236 #[.iface u1 x1,.iface u x] w fun e w'=>e= .returned (.bool r)∧w=w':=by
 have H:=Lib.hid h
 clear h
 obtain⟨e1,-,-,-,-,-,-,-,-,-,e11⟩:=ext
 have ty:=hC.ty
 have cm:=hC.cm
 have mC:=tL
 clear hC
 go_enter Tryz.func236,Tryz.ntmps236
 go_wp2_with (go_at_call 266;refine(H.out).mono ?_;rintro e' w' ⟨rfl,rfl⟩)
 go_ret
 exact⟨rfl,rfl⟩
theorem Pj (c:Int)(u:TypeId)(x:Value)(r:Bool)(w:World)(hC:Comp u)(h:iC w (.iface 128 (.int .i64 c)) (.iface u x) r):
  Calls Tryz.prog 236 #[.iface 128 (.int .i64 c),.iface u x] w fun e w'=>e= .returned (.bool r)∧w=w':=
 Ut _ _ _ _ r w hC (Po c u x r w h)
theorem Bj (b:Nat)(c:Int)(u:TypeId)(x:Value)(r:Bool)(w:World)(hc:w.cell? ⟨b,0,none⟩=some (.int .i64 c))(h0: (c==0)=false)(hC:Comp u)(h:iC w (.iface 128 (.int .i64 c)) (.iface u x) r):
  Calls Tryz.prog 312 #[.pointer (some ⟨b,0,none⟩),.iface u x] w fun e w'=>e= .returned (.bool r)∧w=w':=by
 have H1:=Lib.hid (vN c w h0)
 have H2:=Lib.hid (Pj c u x r w hC h)
 clear h h0 hC
 go_enter Tryz.func312,Tryz.ntmps312
 go_wp2_with (first|(go_at_call 71;refine(H1.out).mono ?_;rintro e' w' ⟨rfl,rfl⟩)|(go_at_call 236;refine(H2.out).mono ?_;rintro e' w' ⟨rfl,rfl⟩))
 go_ret
 exact⟨rfl,rfl⟩
inductive nR (w:World)(tgt:Value):Value→Bool→Prop
 |plain (c:Int) (r:Bool):iC w (.iface 128 (.int .i64 c)) tgt r→nR w tgt (.iface 128 (.int .i64 c)) r
 |other (x:Value) (r:Bool):iC w (.iface 302 x) tgt r→nR w tgt (.iface 302 x) r
 |same (b:Nat):iC w (.iface 131 (.pointer (some ⟨b,0,none⟩))) tgt true→nR w tgt (.iface 131 (.pointer (some ⟨b,0,none⟩))) true
 |code (b:Nat) (c:Int) (s:ByteArray) (e:Value):bH w b c s e→(c==0)=false→iC w (.iface 131 (.pointer (some ⟨b,0,none⟩))) tgt false→iC w (.iface 128 (.int .i64 c)) tgt true→nR w tgt (.iface 131 (.pointer (some ⟨b,0,none⟩))) true
 |last (b:Nat) (c:Int) (s:ByteArray):bH w b c s .nilIface→(c==0)=false→iC w (.iface 131 (.pointer (some ⟨b,0,none⟩))) tgt false→iC w (.iface 128 (.int .i64 c)) tgt false→nR w tgt (.iface 131 (.pointer (some ⟨b,0,none⟩))) false
 |on (b:Nat) (c:Int) (s:ByteArray) (u:TypeId) (x:Value) (r:Bool):bH w b c s (.iface u x)→(c==0)=false→iC w (.iface 131 (.pointer (some ⟨b,0,none⟩))) tgt false→iC w (.iface 128 (.int .i64 c)) tgt false→errM (.iface u x)<b+2→nR w tgt (.iface u x) r→nR w tgt (.iface 131 (.pointer (some ⟨b,0,none⟩))) r
theorem Zj (u:TypeId)(x v:Value)(r:Bool)(w:World)(hC:Comp u)(h:nR w (.iface u x) v r):
  Calls Tryz.prog 266 #[v,.iface u x,.bool true] w fun e w'=>e= .returned (.bool r)∧w=w':=by
 have hI:=CY
 have hU:=Vg
 have mI:=Vs
 have mU:=rU
 have nIL:=BM
 have nUL:=Vy
 have nUsL:=Wh
 have nIS:=FJ
 have nUS:=Vz
 have nUsS:=Wi
 have HC:=Lib.hid hC
 have HH:=Lib.hid h
 clear hC h
 go_enter Tryz.func266,Tryz.ntmps266
 go_wp2
 go_loopw [0] (fun v' wl=>w=wl∧nR w (.iface u x) v' r) (fun v' _=>errM v')
 case atStart=>exact⟨rfl,HH.out⟩
 case round=>
  obtain⟨rfl,hans⟩:=hrel
  clear HH
  cases hans with
  |plain c _ he=>
   unfold iC at he
   cases r<;>go_wp2<;>go_ret<;>exact⟨rfl,rfl⟩
  |other y _ he=>
   unfold iC at he
   cases r<;>go_wp2<;>go_ret<;>exact⟨rfl,rfl⟩
  |same b he=>
   unfold iC at he
   go_wp2
   go_ret
   exact⟨rfl,rfl⟩
  |code b c s e hf h0 he hp=>
   have HF:=Lib.hid (Bj b c u x true w hf.cell0 h0 HC.out hp)
   unfold iC at he
   clear hf h0 hp
   go_wp2_with (go_at_call 312;refine(HF.out).mono ?_;rintro e' w' ⟨rfl,rfl⟩)
   go_ret
   exact⟨rfl,rfl⟩
  |last b c s hf h0 he hp=>
   have HF:=Lib.hid (Bj b c u x false w hf.cell0 h0 HC.out hp)
   have HU:=Lib.hid (uN b _ w hf.Mr)
   unfold iC at he
   clear hf h0 hp
   go_wp2_with (first|(go_at_call 312;refine(HF.out).mono ?_;rintro e' w' ⟨rfl,rfl⟩)|(go_at_call 313;refine(HU.out).mono ?_;rintro e' w' ⟨rfl,rfl⟩))
   go_ret
   exact⟨rfl,rfl⟩
  |on b c s u1 x1 _ hf h0 he hp hlt hr=>
   have HF:=Lib.hid (Bj b c u x false w hf.cell0 h0 HC.out hp)
   have HU:=Lib.hid (uN b _ w hf.Mr)
   have HR:=Lib.hid hr
   have HL:=Lib.hid hlt
   unfold iC at he
   clear hf h0 hp hr hlt
   go_wp2_with (first|(go_at_call 312;refine(HF.out).mono ?_;rintro e' w' ⟨rfl,rfl⟩)|(go_at_call 313;refine(HU.out).mono ?_;rintro e' w' ⟨rfl,rfl⟩))
   go_roundw
   case rel=>exact⟨trivial,HR.out⟩
   case measure=>simpa[errM] using HL.out
theorem Na (u:TypeId)(x:Value)(u1:TypeId)(x1:Value)(r:Bool)(w:World)(hC:Comp u)(h:nR w (.iface u x) (.iface u1 x1) r):
  Calls Tryz.prog 236 #[.iface u1 x1,.iface u x] w fun e w'=>e= .returned (.bool r)∧w=w':=
 Ut _ _ _ _ r w hC (Zj u x _ r w hC h)
end Go.Proofs.YtlhmfgbaefaneaaGreatDoor.flt
