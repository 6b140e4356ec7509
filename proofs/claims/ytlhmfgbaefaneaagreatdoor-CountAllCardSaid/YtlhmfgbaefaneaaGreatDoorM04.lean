/-
  The steps of the walks, part 4: Nums, TextN, DateRep, Itoa, RefDate6, RefTxt6, RefMonth6, TextZ, TextD, RefGet6.
-/
import Derived.Lib.ItoaNum
import Derived.Laws.Externs
import Derived.Lib.Bytealg
import Derived.Lib.Hide
import Derived.Below
import Derived.WalkKit
import Derived.Shelf.LaysM
import Derived.Shelf.Strconv.Itoa3
import Derived.Test.YtlhmfgbaefaneaaGreatDoorProg
import Derived.Laws.IdiomStrings
import Derived.Deep.RegionHeld3
import Derived.Lib.Strings
import Derived.Lib.Small
import Derived.BigRegion
import Derived.Test.YtlhmfgbaefaneaaGreatDoorM03
import Derived.Test.YtlhmfgbaefaneaaGreatDoorM01
set_option maxHeartbeats 4000000
set_option maxRecDepth 100000
namespace Go.Proofs.YtlhmfgbaefaneaaGreatDoor.ref
def val:List Nat→Nat
 |[]=>0
 |d::r=>d+1000000000*val r
def Dig (l:List Nat):Prop:=∀d∈l,d<1000000000
def Norm (l:List Nat):Prop:=Dig l∧l.getLast?≠some 0
theorem Dig.nil:Dig []:=fun _ h=>by cases h
theorem Dig.cons {d:Nat}{l:List Nat}(h:d<1000000000)(hl:Dig l):Dig (d::l):=fun x hx=>by
 rcases List.mem_cons.1 hx with rfl|hx
 ·exact h
 ·exact hl x hx
theorem Dig.tail {d:Nat}{l:List Nat}(h:Dig (d::l)):Dig l:=fun x hx=>h x (List.mem_cons_of_mem _ hx)
theorem Dig.head {d:Nat}{l:List Nat}(h:Dig (d::l)):d<1000000000:=h d (List.mem_cons_self)
theorem Dig.append {a b:List Nat}(ha:Dig a)(hb:Dig b):Dig (a++b):=fun x hx=>by
 rcases List.mem_append.1 hx with h|h
 ·exact ha x h
 ·exact hb x h
theorem Dig.take {l:List Nat}(h:Dig l)(k:Nat):Dig (l.take k):=fun x hx=>h x (List.mem_of_mem_take hx)
theorem Dig.drop {l:List Nat}(h:Dig l)(k:Nat):Dig (l.drop k):=fun x hx=>h x (List.mem_of_mem_drop hx)
theorem Dig.get {l:List Nat}(h:Dig l)(k:Nat)(hk:k<l.length):l[k]<1000000000:=h _ (List.getElem_mem hk)
theorem val_append (a b:List Nat):val (a++b)=val a+1000000000 ^ a.length*val b:=by
 induction a with
 |nil=>simp[val]
 |cons d a ih=>
  simp only[List.cons_append,val,List.length_cons,ih,Nat.pow_succ]
  rw[Nat.mul_add,Nat.mul_comm (1000000000 ^ a.length) 1000000000,Nat.mul_assoc,Nat.add_assoc]
theorem dR {l:List Nat}(h:Dig l):val l<1000000000 ^ l.length:=by
 induction l with
 |nil=>simp[val]
 |cons d l ih=>
  have h1:=ih h.tail
  have h2:=h.head
  simp only[val,List.length_cons,Nat.pow_succ]
  omega
theorem pE (l:List Nat)(k:Nat)(hk:k<l.length):val l=val (l.take k)+1000000000 ^ k*(l[k]+1000000000*val (l.drop (k+1))):=by
 have h:l=l.take k++(l[k]::l.drop (k+1)):=by
  rw[←List.drop_eq_getElem_cons hk,List.take_append_drop]
 have h2:=val_append (l.take k) (l[k]::l.drop (k+1))
 rw[←h,List.length_take,Nat.min_eq_left (by omega)] at h2
 exact h2
theorem iD (l:List Nat)(d:Nat):val (l++[d])=val l+1000000000 ^ l.length*d:=by
 rw[val_append]
 simp[val]
theorem Norm.nil:Norm []:=⟨Dig.nil,by simp⟩
theorem tV {l:List Nat}{d:Nat}(h:Dig l)(hd:d<1000000000)(h0:d≠0):Norm (l++[d]):=
 ⟨h.append (Dig.cons hd Dig.nil),by simp[h0]⟩
theorem pow_pos (k:Nat):0<1000000000 ^ k:=Nat.pow_pos (by omega)
theorem Norm.low {l:List Nat}(h:Norm l)(hne:l≠[]):1000000000 ^ (l.length - 1)≤val l:=by
 obtain⟨a,d,rfl⟩:∃a d,l=a++[d]:=⟨l.dropLast,l.getLast hne,(List.dropLast_concat_getLast hne).symm⟩
 have h0:d≠0:=fun e=>h.2 (by simp[e])
 rw[iD]
 simp only[List.length_append,List.length_cons,List.length_nil,Nat.add_sub_cancel]
 have:=Nat.le_mul_of_pos_right (1000000000 ^ a.length) (Nat.pos_of_ne_zero h0)
 omega
theorem Norm.zero {l:List Nat}(h:Norm l):val l=0↔l=[]:=by
 constructor
 ·intro h0
  by_cases hne:l=[]
  ·exact hne
  ·have:=h.low hne
   have:=pow_pos (l.length - 1)
   omega
 ·rintro rfl
  rfl
theorem Norm.short {a b:List Nat}(ha:Norm a)(hb:Norm b)(h:a.length<b.length):val a<val b:=by
 have h1:=dR ha.1
 have hne:b≠[]:=by rintro rfl;simp at h
 have h2:=hb.low hne
 have h3:1000000000 ^ a.length≤1000000000 ^ (b.length - 1):=Nat.pow_le_pow_right (by omega) (by omega)
 omega
theorem sQ {a b:List Nat}(ha:Dig a)(k:Nat)(hka:k<a.length)(hkb:k<b.length)(hup:a.drop (k+1)=b.drop (k+1))(h:a[k]<b[k]):val a<val b:=by
 rw[pE a k hka,pE b k hkb,hup]
 have h1:=dR (ha.take k)
 rw[List.length_take,Nat.min_eq_left (by omega)] at h1
 have h2:1000000000 ^ k*(a[k]+1000000000*val (b.drop (k+1)))+1000000000 ^ k≤1000000000 ^ k*(b[k]+1000000000*val (b.drop (k+1))):=by
  rw[←Nat.mul_succ]
  exact Nat.mul_le_mul_left _ (by omega)
 omega
theorem Norm.inj:∀{a b:List Nat},Norm a→Norm b→val a=val b→a=b
 |[],b,_,hb,h=>((hb.zero).1 h.symm).symm
 |a,[],ha,_,h=>(ha.zero).1 h
 |d::a,e::b,ha,hb,h=>by
  have h1:=ha.1.head
  have h2:=hb.1.head
  simp only[val] at h
  have hd:d=e:=by omega
  have hv:val a=val b:=by omega
  have na:Norm a:=⟨ha.1.tail,fun hl=>ha.2 (by rw[List.getLast?_cons,hl];rfl)⟩
  have nb:Norm b:=⟨hb.1.tail,fun hl=>hb.2 (by rw[List.getLast?_cons,hl];rfl)⟩
  rw[hd,Norm.inj na nb hv]
theorem Fp {l:List Nat}(k:Nat)(hk:k<l.length)(h:k+1=l.length)(h0:l[k]=0):val (l.take k)=val l:=by
 rw[pE l k hk,h0,List.drop_eq_nil_of_le (by omega)]
 simp[val]
def dg (l:List Nat)(k:Nat):Nat:=l.getD k 0
theorem dL {l:List Nat}{k:Nat}(h:k<l.length):dg l k=l[k]:=by simp[dg,h]
theorem iV {l:List Nat}{k:Nat}(h:l.length≤k):dg l k=0:=by simp[dg,h]
theorem bS {l:List Nat}(h:Dig l)(k:Nat):dg l k<1000000000:=by
 by_cases hk:k<l.length
 ·rw[dL hk];exact h.get k hk
 ·rw[iV (by omega)];omega
theorem kE {l:List Nat}{k n:Nat}(h:k<n):dg (l.take n) k=dg l k:=by simp[dg,h]
theorem Jl {a b:List Nat}(hl:a.length=b.length)(h:∀k,k<a.length→dg a k=dg b k):a=b:=by
 apply List.ext_getElem hl
 intro k h1 h2
 have:=h k h1
 rwa [dL h1,dL h2] at this
theorem oF {l:List Nat}{k:Nat}(h:k<l.length){α:Type}(f:Nat→α): (l.map f)[k]?=some (f (dg l k)):=by simp[dg,h]
theorem pF (l:List Nat)(k:Nat)(hk:k<l.length):val l=val (l.take k)+1000000000 ^ k*(dg l k+1000000000*val (l.drop (k+1))):=by rw[dL hk];exact pE l k hk
theorem qC (l:List Nat)(k:Nat)(hk:k<l.length):l.take (k+1)=l.take k++[dg l k]:=by rw[dL hk,List.take_succ_eq_append_getElem hk]
theorem gX (l:List Nat)(k:Nat)(hk:k<l.length):l.drop k=dg l k::l.drop (k+1):=by rw[dL hk,List.drop_eq_getElem_cons hk]
theorem jT {l:List Nat}(h:Norm l)(hl:0<l.length):dg l (l.length - 1)≠0:=fun h0=>h.2 (by
 rw[List.getLast?_eq_getElem?,List.getElem?_eq_getElem (by omega),←dL (by omega),h0])
theorem oN {l:List Nat}(h:Dig l)(ht:0<l.length→dg l (l.length - 1)≠0):Norm l:=⟨h,fun hl=>by
 by_cases hn:0<l.length
 ·rw[List.getLast?_eq_getElem?,List.getElem?_eq_getElem (by omega),←dL (by omega)] at hl
  exact ht hn (by simpa using hl)
 ·obtain rfl:=List.eq_nil_of_length_eq_zero (show l.length=0 by omega)
  simp at hl⟩
theorem Cu {l:List Nat}(N:Nat)(h:l.length=N)(hN:1≤N)(h0:dg l (N - 1)=0):val (l.take (N - 1))=val l:=
 Fp (N - 1) (by omega) (by omega) (by rw[←dL (by omega)];exact h0)
theorem aQ (l:List Nat)(k:Nat):val (l.take (k+1))=val (l.take k)+1000000000 ^ k*dg l k:=by
 by_cases h:k<l.length
 ·rw[qC l k h,iD,List.length_take,Nat.min_eq_left (by omega)]
 ·rw[iV (by omega),List.take_of_length_le (by omega),List.take_of_length_le (by omega)]
  omega
theorem gH {l:List Nat}{j d:Nat}(h:j<l.length):dg (l.set j d) j=d:=by simp[dg,h]
theorem cO {l:List Nat}{j k d:Nat}(h:j≠k):dg (l.set j d) k=dg l k:=by simp[dg,h]
theorem Dig.set {l:List Nat}{j d:Nat}(h:Dig l)(hd:d<1000000000):Dig (l.set j d):=fun x hx=>by
 rcases List.mem_or_eq_of_mem_set hx with h1|h1
 ·exact h x h1
 ·rw[h1];exact hd
theorem gB {l:List Nat}{j d:Nat}(h:j<l.length):val (l.set j d)+1000000000 ^ j*dg l j=val l+1000000000 ^ j*d:=by
 have h1:=pF l j h
 have h2:=pF (l.set j d) j (by simpa using h)
 rw[gH h] at h2
 have e1: (l.set j d).take j=l.take j:=by rw[List.take_set,List.set_eq_of_length_le (by rw[List.length_take];omega)]
 have e2: (l.set j d).drop (j+1)=l.drop (j+1):=by rw[List.drop_set_of_lt (by omega)]
 rw[e1,e2] at h2
 rw[Nat.mul_add] at h1 h2
 omega
theorem fU (n:Nat):val (List.replicate n 0)=0:=by
 induction n with
 |zero=>rfl
 |succ n ih=>simp[List.replicate_succ,val,ih]
theorem fQ (n:Nat):Dig (List.replicate n 0):=fun x hx=>by rw[(List.mem_replicate.1 hx).2];omega
theorem jR (n k:Nat):dg (List.replicate n 0) k=0:=by
 unfold dg
 rw[List.getD_eq_getElem?_getD,List.getElem?_replicate]
 split<;>rfl
theorem Vv {o b:List Nat}{i k c ai V:Nat}(hj:i+k<o.length)(h:val o+1000000000 ^ (i+k)*c=V+1000000000 ^ i*(ai*val (b.take k))):
  val (o.set (i+k) ((dg o (i+k)+c+ai*dg b k)%1000000000))+1000000000 ^ (i+(k+1))*((dg o (i+k)+c+ai*dg b k)/1000000000)=V+1000000000 ^ i*(ai*val (b.take (k+1))):=by
 have h1:=gB (d:=(dg o (i+k)+c+ai*dg b k)%1000000000) hj
 have h2:1000000000 ^ (i+k)*(dg o (i+k)+c+ai*dg b k)=1000000000 ^ (i+k)*((dg o (i+k)+c+ai*dg b k)%1000000000)+1000000000 ^ (i+(k+1))*((dg o (i+k)+c+ai*dg b k)/1000000000):=by
  rw[show i+(k+1)=i+k+1 by omega,Nat.pow_succ,Nat.mul_assoc,←Nat.mul_add,Nat.mod_add_div]
 have h3:1000000000 ^ i*(ai*val (b.take (k+1)))=1000000000 ^ i*(ai*val (b.take k))+1000000000 ^ (i+k)*(ai*dg b k):=by
  rw[aQ,Nat.mul_add,Nat.mul_add,Nat.pow_add]
  congr 1
  rw[Nat.mul_left_comm ai,Nat.mul_assoc]
 rw[Nat.mul_add,Nat.mul_add] at h2
 omega
theorem Ra {o b:List Nat}{i X:Nat}(hi:i<o.length)(h:val o+val (b.take i)=X)(hle:dg b i≤dg o i):val (o.set i (dg o i - dg b i))+val (b.take (i+1))=X:=by
 have h1:=gB (d:=dg o i - dg b i) hi
 rw[aQ]
 have h2:1000000000 ^ i*dg o i=1000000000 ^ i*(dg o i - dg b i)+1000000000 ^ i*dg b i:=by
  rw[←Nat.mul_add,Nat.sub_add_cancel hle]
 omega
theorem Kw {o b:List Nat}{i V:Nat}(hi:i<o.length)(h:val o=V)(hb:dg b i<1000000000):val (o.set i (dg o i+(1000000000 - dg b i)))+1000000000 ^ i*dg b i=V+1000000000 ^ (i+1):=by
 have h1:=gB (d:=dg o i+(1000000000 - dg b i)) hi
 have h2:1000000000 ^ i*(dg o i+(1000000000 - dg b i))+1000000000 ^ i*dg b i=1000000000 ^ i*dg o i+1000000000 ^ (i+1):=by
  rw[←Nat.mul_add,Nat.pow_succ,←Nat.mul_add]
  congr 1
  omega
 omega
theorem Ky {o:List Nat}{k V D:Nat}(hk:k<o.length)(h:val o+D=V+1000000000 ^ k)(h0:dg o k=0):val (o.set k 999999999)+D=V+1000000000 ^ (k+1):=by
 have h1:=gB (d:=999999999) hk
 rw[h0,Nat.mul_zero] at h1
 rw[Nat.pow_succ]
 omega
theorem Xn {o:List Nat}{k V D:Nat}(hk:k<o.length)(h:val o+D=V+1000000000 ^ k)(h0:dg o k≠0):val (o.set k (dg o k - 1))+D=V:=by
 have h1:=gB (d:=dg o k - 1) hk
 have h2:1000000000 ^ k*dg o k=1000000000 ^ k*(dg o k - 1)+1000000000 ^ k:=by
  rw[←Nat.mul_succ]
  congr 1
  omega
 omega
theorem qU {o:List Nat}{k V D:Nat}(hd:Dig o)(h:val o+D=V+1000000000 ^ k)(hV:D≤V):k<o.length:=by
 have h1:=dR hd
 by_cases hk:k<o.length
 ·exact hk
 ·have h2:1000000000 ^ o.length≤1000000000 ^ k:=Nat.pow_le_pow_right (by omega) (by omega)
  omega
def digs (x:Nat):List Nat:=if h:x=0 then [] else x%1000000000::digs (x/1000000000)
termination_by x
decreasing_by omega
theorem aX:digs 0=[]:=by rw[digs];simp
theorem gI {x:Nat}(h:x≠0):digs x=x%1000000000::digs (x/1000000000):=by rw[digs];simp[h]
theorem aA (x:Nat):val (digs x)=x:=by
 induction x using Nat.strongRecOn with
 |_ x ih=>
  by_cases h:x=0
  ·subst h;rw[aX];rfl
  ·rw[gI h,val,ih (x/1000000000) (by omega)]
   omega
theorem aB (x:Nat):Norm (digs x):=by
 induction x using Nat.strongRecOn with
 |_ x ih=>
  by_cases h:x=0
  ·subst h;rw[aX];exact Norm.nil
  ·rw[gI h]
   obtain⟨h1,h2⟩:=ih (x/1000000000) (by omega)
   refine⟨Dig.cons (Nat.mod_lt _ (by omega)) h1,?_⟩
   by_cases hq:x/1000000000=0
   ·rw[hq,aX]
    simp
    omega
   ·rw[List.getLast?_cons]
    rw[gI hq] at h2 ⊢
    rw[List.getLast?_cons] at h2
    rw[List.getLast?_cons]
    simpa using h2
theorem Norm.fI {l:List Nat}(h:Norm l):l=digs (val l):=h.inj (aB _) (aA _).symm
end Go.Proofs.YtlhmfgbaefaneaaGreatDoor.ref
namespace Go.Proofs.YtlhmfgbaefaneaaGreatDoor.ref
def pad:Nat→Nat→List UInt8
 |0,_=>[]
 |k+1,d=>pad k (d/10)++[UInt8.ofNat (48+d%10)]
theorem aY:∀k d:Nat,(pad k d).length=k
 |0,_=>rfl
 |k+1,d=>by rw[pad,List.length_append,aY k];rfl
theorem cZ:∀k d:Nat,pad (k+1) d=UInt8.ofNat (48+d/10 ^ k%10)::pad k d
 |0,d=>by simp[pad]
 |k+1,d=>by
  rw[pad,cZ k (d/10),Nat.div_div_eq_div_mul,show 10*10 ^ k=10 ^ (k+1) by rw[Nat.pow_succ,Nat.mul_comm],List.cons_append]
  rfl
theorem gM:∀(k m u v:Nat),u<10 ^ k→pad (m+k) (u+10 ^ k*v)=pad m v++pad k u
 |0,m,u,v,h=>by
  obtain rfl:u=0:=by simpa using h
  simp[pad]
 |k+1,m,u,v,h=>by
  rw[Nat.pow_succ] at h
  have e:u+10 ^ (k+1)*v=u+10*(10 ^ k*v):=by rw[Nat.pow_succ,Nat.mul_comm (10 ^ k) 10,Nat.mul_assoc]
  rw[e,show m+(k+1)=(m+k)+1 by omega,pad,show(u+10*(10 ^ k*v))/10=u/10+10 ^ k*v by omega,gM k m (u/10) v (by omega),show(u+10*(10 ^ k*v))%10=u%10 by omega,List.append_assoc]
  rfl
theorem fM {m x:Nat}(h:x<10 ^ m):pad (m+1) x=48::pad m x:=by
 rw[cZ,Nat.div_eq_of_lt h]
 rfl
theorem fC:∀(m x:Nat),x<10 ^ (m+1)→(m=0∨10 ^ m≤x)→pad (m+1) x=Lib.decDigits x
 |0,x,h,_=>by
  rw[Lib.decDigits,dif_pos (by simpa using h),pad,pad,Nat.mod_eq_of_lt (by simpa using h)]
  rfl
 |m+1,x,h,h2=>by
  have h3:10 ^ (m+1)≤x:=h2.resolve_left (by omega)
  have hp:1≤10 ^ m:=Nat.pow_pos (by omega)
  rw[Nat.pow_succ] at h h3
  rw[Lib.decDigits,dif_neg (by omega),pad,fC m (x/10) (by omega) (Or.inr (by omega))]
theorem jV {m x:Nat}(h:x<10 ^ (m+1))(h2:10 ^ m≤x): (UInt8.ofNat (48+x/10 ^ m%10)).toNat≠48:=by
 have h1:1≤x/10 ^ m:=(Nat.le_div_iff_mul_le (Nat.pow_pos (by omega))).2 (by omega)
 have h3:x/10 ^ m<10:=(Nat.div_lt_iff_lt_mul (Nat.pow_pos (by omega))).2 (by rw[Nat.pow_succ] at h;omega)
 rw[UInt8.toNat_ofNat']
 omega
theorem sF (i:Nat):1000000000 ^ i=10 ^ (9*i):=by
 rw[Nat.pow_mul]
def str (l:List UInt8):ByteArray:=⟨l.toArray⟩
theorem aJ (a b:List UInt8):str a++str b=str (a++b):=by
 apply ByteArray.ext
 simp[str]
theorem aD (l:List UInt8): (str l).size=l.length:=rfl
theorem mO (c:UInt8)(l:List UInt8): (str (c::l)).extract 1 (str (c::l)).size=str l:=by
 apply ByteArray.ext
 simp[str,ByteArray.size]
def ch (l:List UInt8)(i:Nat):Nat:=(l.getD i 0).toNat
def seg (l:List UInt8)(st:Nat):Nat→Nat
 |0=>0
 |m+1=>seg l st m*10+(ch l (st+m) - 48)
def bU (l:List UInt8)(i:Nat):Prop:=48≤ch l i∧ch l i≤57
def bA (l:List UInt8):Prop:=1≤l.length∧l.length≤4000∧(1<l.length→ch l 0≠48)∧∀i,i<l.length→bU l i
theorem seg_lt {l:List UInt8}{st m:Nat}(h:∀i,st≤i→i<st+m→bU l i):seg l st m<10 ^ m:=by
 induction m with
 |zero=>simp[seg]
 |succ m ih=>
  have h1:=ih fun i h1 h2=>h i h1 (by omega)
  have h2:=h (st+m) (by omega) (by omega)
  unfold bU at h2
  rw[seg,Nat.pow_succ]
  omega
theorem vU (l:List UInt8)(st a:Nat):∀b,seg l st (a+b)=seg l st a*10 ^ b+seg l (st+a) b
 |0=>by simp[seg]
 |b+1=>by
  rw[←Nat.add_assoc,seg,seg,vU l st a b,Nat.pow_succ,Nat.add_mul,Nat.mul_assoc,show st+(a+b)=st+a+b by omega]
  omega
theorem yL {l:List UInt8} :∀m,m≤l.length→(∀i,i<m→bU l i)→l.take m=pad m (seg l 0 m)
 |0,_,_=>rfl
 |m+1,hm,h=>by
  have h2:=h m (by omega)
  unfold bU at h2
  have hc:ch l m=l[m].toNat:=by simp[ch,show m<l.length by omega]
  rw[List.take_succ_eq_append_getElem (by omega),yL m (by omega) fun i hi=>h i (by omega),seg,pad,Nat.zero_add,show(seg l 0 m*10+(ch l m - 48))/10=seg l 0 m by omega,
   show 48+(seg l 0 m*10+(ch l m - 48))%10=ch l m by omega,hc,UInt8.ofNat_toNat]
theorem bA.dec {l:List UInt8}(h:bA l):l=Lib.decDigits (seg l 0 l.length):=by
 obtain⟨h1,_,h3,h4⟩:=h
 have h5:=yL l.length (Nat.le_refl _) h4
 rw[List.take_length] at h5
 have h6:=seg_lt (st:=0) (m:=l.length) fun i _ hi=>h4 i (by omega)
 obtain⟨m,hm⟩:∃m,l.length=m+1:=⟨l.length - 1,by omega⟩
 rw[hm] at h5 h6 ⊢
 rw[←fC m _ h6 ?_]
 ·exact h5
 ·by_cases h0:m=0
  ·exact Or.inl h0
  ·right
   have h7:=vU l 0 1 m
   rw[Nat.add_comm 1 m] at h7
   have h8:=h4 0 (by omega)
   unfold bU at h8
   have h9:=h3 (by omega)
   have h10:1≤seg l 0 1:=by simp[seg];omega
   have h11:=Nat.mul_le_mul_right (10 ^ m) h10
   omega
end Go.Proofs.YtlhmfgbaefaneaaGreatDoor.ref
namespace Go.Proofs.YtlhmfgbaefaneaaGreatDoor.date
open Go Go.RowKit Go.Proofs.YtlhmfgbaefaneaaGreatDoor.nat
open Go.Proofs.YtlhmfgbaefaneaaGreatDoor.ref (str aD aJ)
theorem Yg (n:Nat)(w:World)(hn:n≤21):
  Calls Tryz.prog 155 #[.int .u64 1,.int .u64 (n:Nat)] w fun e w'=>e= .returned (.tuple #[.int .u64 0,.int .u64 (n:Nat)])∧w=w':=by
 have M:=nat.zX 1 n (by omega) (by omega) w
 rw[show 1*n/18446744073709551616=0 by omega,show 1*n%18446744073709551616=n by omega] at M
 have HM:Hid (Calls Tryz.prog 201 #[.int .u64 1,.int .u64 (n:Nat)] w fun e w'=>e= .returned (.tuple #[.int .u64 0,.int .u64 (n:Nat)])∧w'=w):=Lib.hid M
 clear M
 go_enter Tryz.func155,Tryz.ntmps155
 go_wp2_with (first
  |(go_at_call 201;(with_reducible refine(HM.out).mono ?_);rintro e w1 ⟨rfl,rfl⟩)
  |(fail "no arm"))
 go_ret2
 exact⟨rfl,rfl⟩
theorem lI (s p:ByteArray)(b:Bool)(w:World)(hp:p.size≤s.size)(_hs:s.size≤4611686018427387904)(hx: ((s.extract 0 p.size).toList==p.toList)=b):
  Calls Tryz.prog 156 #[.string s,.string p] w fun e w'=>e= .returned (.bool b)∧w=w':=by
 have HC:Hid (Calls Tryz.prog 202 #[.string s,.string p] w fun e w'=>e= .returned (.bool b)∧w=w'):=Lib.hid (by
  go_enter Tryz.func202,Tryz.ntmps202
  go_wp2
  go_ret
  exact⟨rfl,rfl⟩)
 clear hx
 go_enter Tryz.func156,Tryz.ntmps156
 go_wp2_with (first
  |(go_at_call 202;(with_reducible refine(HC.out).mono ?_);rintro e w1 ⟨rfl,rfl⟩)
  |(fail "no arm"))
 go_ret
 exact⟨rfl,rfl⟩
theorem Lh (n:Nat)(hn:n≤64): (⟨#[48,48,48,48,48,48,48,48,48,48,48,48,48,48,48,48,48,48,48,48,48,48,48,48,48,48,48,48,48,48,48,48,48,48,48,48,48,48,48,48,48,48,48,48,48,48,48,48,48,48,48,48,48,48,48,48,48,48,48,48,48,48,48,48]⟩:ByteArray).extract 0 n=str (List.replicate n 48):=by
 have h:∀L:List UInt8,(str L).extract 0 n=str (L.take n):=fun L=>by apply ByteArray.ext;simp[str]
 rw[show(⟨#[48,48,48,48,48,48,48,48,48,48,48,48,48,48,48,48,48,48,48,48,48,48,48,48,48,48,48,48,48,48,48,48,48,48,48,48,48,48,48,48,48,48,48,48,48,48,48,48,48,48,48,48,48,48,48,48,48,48,48,48,48,48,48,48]⟩:ByteArray)=str (List.replicate 64 48) from rfl,h,List.take_replicate,Nat.min_eq_left hn]
theorem jN (z:Int)(n:Nat)(hz:z=n)(w:World)(h1:1≤n)(h2:n≤21):
  Calls Tryz.prog 121 #[.string ⟨#[48]⟩,.int .i64 z] w fun e w'=>e= .returned (.string (str (List.replicate n 48)))∧Below w.heap.size w w':=by
 subst hz
 rcases(show n=1∨2≤n by omega) with rfl|h3
 ·have he: (⟨#[48]⟩:ByteArray)=str (List.replicate 1 48):=rfl
  rw[he]
  generalize str (List.replicate 1 48)=s at *
  clear he
  go_enter Tryz.func121,Tryz.ntmps121
  go_wp2
  go_ret
  exact⟨rfl,Below.refl _ _⟩
 ·have HM:=Lib.hid (fun W=>Yg n W h2)
  have HS:=Lib.hid (fun W=>lI ⟨#[32,32,32,32,32,32,32,32,32,32,32,32,32,32,32,32,32,32,32,32,32,32,32,32,32,32,32,32,32,32,32,32,32,32,32,32,32,32,32,32,32,32,32,32,32,32,32,32,32,32,32,32,32,32,32,32,32,32,32,32,32,32,32,32,32,32,32,32,32,32,32,32,32,32,32,32,32,32,32,32,32,32,32,32,32,32,32,32,32,32,32,32,32,32,32,32,32,32,32,32,32,32,32,32,32,32,32,32,32,32,32,32,32,32,32,32,32,32,32,32,32,32,32,32,32,32,32,32]⟩ ⟨#[48]⟩ false W (by decide) (by decide) (by decide+kernel))
  have HD:=Lib.hid (fun W=>lI ⟨#[45,45,45,45,45,45,45,45,45,45,45,45,45,45,45,45,45,45,45,45,45,45,45,45,45,45,45,45,45,45,45,45,45,45,45,45,45,45,45,45,45,45,45,45,45,45,45,45,45,45,45,45,45,45,45,45,45,45,45,45,45,45,45,45,45,45,45,45,45,45,45,45,45,45,45,45,45,45,45,45,45,45,45,45,45,45,45,45,45,45,45,45,45,45,45,45,45,45,45,45,45,45,45,45,45,45,45,45,45,45,45,45,45,45,45,45,45,45,45,45,45,45,45,45,45,45,45,45]⟩ ⟨#[48]⟩ false W (by decide) (by decide) (by decide+kernel))
  have HZ:=Lib.hid (fun W=>lI ⟨#[48,48,48,48,48,48,48,48,48,48,48,48,48,48,48,48,48,48,48,48,48,48,48,48,48,48,48,48,48,48,48,48,48,48,48,48,48,48,48,48,48,48,48,48,48,48,48,48,48,48,48,48,48,48,48,48,48,48,48,48,48,48,48,48]⟩ ⟨#[48]⟩ true W (by decide) (by decide) (by decide+kernel))
  have hx:=Lh n (by omega)
  have hsz: (⟨#[48,48,48,48,48,48,48,48,48,48,48,48,48,48,48,48,48,48,48,48,48,48,48,48,48,48,48,48,48,48,48,48,48,48,48,48,48,48,48,48,48,48,48,48,48,48,48,48,48,48,48,48,48,48,48,48,48,48,48,48,48,48,48,48]⟩:ByteArray).size=64:=rfl
  generalize str (List.replicate n 48)=R at *
  have kz: (⟨#[48]⟩:ByteArray).size=1:=rfl
  have kg:∀h:0<(⟨#[48]⟩:ByteArray).size,((⟨#[48]⟩:ByteArray)[0]'h).toNat=48:=fun _=>rfl
  generalize (⟨#[48]⟩:ByteArray)=k at *
  have hn0: ((n:Int)==0)=false:=by simp;omega
  have hn1: ((n:Int)==1)=false:=by simp;omega
  go_enter Tryz.func121,Tryz.ntmps121
  go_wp2_with (first
   |(go_at_call 155;(with_reducible refine(HM.out _).mono ?_);rintro e w1 ⟨rfl,rfl⟩)
   |(go_at_call 156;(with_reducible refine(HS.out _).mono ?_);rintro e w1 ⟨rfl,rfl⟩)
   |(go_at_call 156;(with_reducible refine(HD.out _).mono ?_);rintro e w1 ⟨rfl,rfl⟩)
   |(go_at_call 156;(with_reducible refine(HZ.out _).mono ?_);rintro e w1 ⟨rfl,rfl⟩)
   |(fail "no arm"))
  go_ret
  exact⟨rfl,Below.refl _ _⟩
theorem Ef (w:World):
  Calls Tryz.prog 121 #[.string ⟨#[48]⟩,.int .i64 0] w fun e w'=>e= .returned (.string (str []))∧Below w.heap.size w w':=by
 go_enter Tryz.func121,Tryz.ntmps121
 go_wp2
 go_ret
 exact⟨rfl,Below.refl _ _⟩
theorem Oi (z:Int)(n:Nat)(hz:z=n)(w:World)(h2:n≤21):
  Calls Tryz.prog 121 #[.string ⟨#[48]⟩,.int .i64 z] w fun e w'=>e= .returned (.string (str (List.replicate n 48)))∧Below w.heap.size w w':=by
 rcases Nat.eq_zero_or_pos n with h|h
 ·subst h
  subst hz
  exact Ef w
 ·exact jN z n hz w h h2
end Go.Proofs.YtlhmfgbaefaneaaGreatDoor.date
namespace Go.Proofs.YtlhmfgbaefaneaaGreatDoor.itoa
open Go Go.RowKit Go.Shelf
def Vn:Go.Shelf.Ren:=⟨fun|171=>120|243=>154|246=>199|283=>244|284=>245|285=>246|286=>247|129=>268|317=>269|318=>270|319=>271|320=>272|337=>280|338=>281|n=>n,fun|3=>3|9=>9|2=>2|4=>4|171=>250|0=>0|53=>104|37=>130|5=>5|173=>253|212=>285|51=>199|20=>20|213=>286|46=>165|232=>299|233=>300|n=>n,fun|17=>2|18=>8|19=>9|n=>n⟩
theorem layM:Go.Proofs.LaysM.n171 Tryz.prog Vn:={
 mixed:=by kernel_rfl
 f129:=Tryz.func268.trans (congrArg some (by kernel_rfl))
 f171:=Tryz.func120.trans (congrArg some (by kernel_rfl))
 f243:=Tryz.func154.trans (congrArg some (by kernel_rfl))
 f246:=Tryz.func199.trans (congrArg some (by kernel_rfl))
 f283:=Tryz.func244.trans (congrArg some (by kernel_rfl))
 f284:=Tryz.func245.trans (congrArg some (by kernel_rfl))
 f285:=Tryz.func246.trans (congrArg some (by kernel_rfl))
 f286:=Tryz.func247.trans (congrArg some (by kernel_rfl))
 f317:=Tryz.func269.trans (congrArg some (by kernel_rfl))
 f318:=Tryz.func270.trans (congrArg some (by kernel_rfl))
 f319:=Tryz.func271.trans (congrArg some (by kernel_rfl))
 f320:=Tryz.func272.trans (congrArg some (by kernel_rfl))
 f337:=Tryz.func280.trans (congrArg some (by kernel_rfl))
 f338:=Tryz.func281.trans (congrArg some (by kernel_rfl))
 t0:=Tryz.underlying0
 a0:=Tryz.isAgg0
 z0:=Tryz.sizeOf0
 v0:=Tryz.zeroValue0
 t2:=Tryz.underlying2
 a2:=Tryz.isAgg2
 z2:=Tryz.sizeOf2
 v2:=Tryz.zeroValue2
 t3:=Tryz.underlying3
 a3:=Tryz.isAgg3
 z3:=Tryz.sizeOf3
 v3:=Tryz.zeroValue3
 t4:=Tryz.underlying4
 a4:=Tryz.isAgg4
 z4:=Tryz.sizeOf4
 v4:=Tryz.zeroValue4
 t5:=Tryz.underlying5
 a5:=Tryz.isAgg5
 z5:=Tryz.sizeOf5
 v5:=Tryz.zeroValue5
 t9:=Tryz.underlying9
 a9:=Tryz.isAgg9
 z9:=Tryz.sizeOf9
 v9:=Tryz.zeroValue9
 t20:=Tryz.underlying20
 a20:=Tryz.isAgg20
 z20:=Tryz.sizeOf20
 v20:=Tryz.zeroValue20
 t37:=Tryz.underlying130
 a37:=Tryz.isAgg130
 z37:=Tryz.sizeOf130
 v37:=Tryz.zeroValue130
 t46:=Tryz.underlying165
 a46:=Tryz.isAgg165
 z46:=Tryz.sizeOf165
 v46:=Tryz.zeroValue165
 t51:=Tryz.underlying199
 a51:=Tryz.isAgg199
 z51:=Tryz.sizeOf199
 v51:=Tryz.zeroValue199
 t53:=Tryz.underlying104
 a53:=Tryz.isAgg104
 z53:=Tryz.sizeOf104
 v53:=Tryz.zeroValue104
 t171:=Tryz.underlying250
 a171:=Tryz.isAgg250
 z171:=Tryz.sizeOf250
 v171:=Tryz.zeroValue250
 t173:=Tryz.underlying253
 a173:=Tryz.isAgg253
 z173:=Tryz.sizeOf253
 v173:=Tryz.zeroValue253
 t212:=Tryz.underlying285
 a212:=Tryz.isAgg285
 z212:=Tryz.sizeOf285
 v212:=Tryz.zeroValue285
 t213:=Tryz.underlying286
 a213:=Tryz.isAgg286
 z213:=Tryz.sizeOf286
 t232:=Tryz.underlying299
 a232:=Tryz.isAgg299
 z232:=Tryz.sizeOf299
 v232:=Tryz.zeroValue299
 t233:=Tryz.underlying300
 a233:=Tryz.isAgg300
 z233:=Tryz.sizeOf300
 v233:=Tryz.zeroValue300
 g17:=by kernel_rfl
 g18:=by kernel_rfl
 g19:=by kernel_rfl
 i0:=by kernel_rfl
 i2:=by kernel_rfl
 i3:=by kernel_rfl
 i4:=by kernel_rfl
 i5:=by kernel_rfl
 i9:=by kernel_rfl
 i20:=by kernel_rfl
 i37:=by kernel_rfl
 i46:=by kernel_rfl
 i51:=by kernel_rfl
 i53:=by kernel_rfl
 i171:=by kernel_rfl
 i173:=by kernel_rfl
 i212:=by kernel_rfl
 i232:=by kernel_rfl
 i233:=by kernel_rfl
 m17:=by kernel_rfl
 m18:=by kernel_rfl
 m19:=by kernel_rfl}
def Tab (w:World):Prop:=∃t fr,w.heap[2]?=some (.cells (Lib.pow10Tab.map fun z=>Value.int .u64 z).toArray t fr)
theorem Tab.below {w w':World}{n:Nat}(h:Tab w)(hb:Below n w w')(hn:n=w.heap.size):Tab w':=by
 obtain⟨t,fr,h⟩:=h
 exact⟨t,fr,by rw[hb.block _ (by subst hn;exact(Array.getElem?_eq_some_iff.1 h).1),h]⟩
theorem Tab.keep {w w':World}(h:Tab w)(hb:Below w.heap.size w w'):Tab w':=h.below hb rfl
theorem below_grow (w:World)(k:Nat)(os:Array Obj):Below w.heap.size w (Sort.grow (w.drewN k) os):=by
 have hd:Below w.heap.size w (w.drewN k):=by
  induction k with
  |zero=>exact Below.refl _ _
  |succ k ih=>exact ih.drew
 refine hd.trans ⟨rfl,rfl,rfl,by simp[Sort.grow],fun j hj=> ?_⟩
 have:=hd.size
 simp only[Sort.grow]
 rw[Array.getElem?_append_left (by omega)]
theorem Sr (n:Int)(h0: -9223372036854775808≤n)(h1:n≤9223372036854775807)(w:World)(ht:Tab w):
  Calls Tryz.prog 120 #[.int .i64 n] w fun e w'=>e= .returned (.string ⟨(Lib.itoa n).toArray⟩)∧Below w.heap.size w w':=by
 obtain⟨t,fr,ht⟩:=ht
 refine(Any.strconv_Itoa layM n h0 h1 w ?_).mono ?_
 ·unfold Lib.TabIs World.var?
  rw[show Tryz.prog.globalNamed _=some 2 by kernel_rfl]
  simp only[Option.bind_some]
  rw[ht]
 ·rintro e w' ⟨rfl,k,os,rfl⟩
  exact⟨rfl,below_grow w k os⟩
end Go.Proofs.YtlhmfgbaefaneaaGreatDoor.itoa
namespace Go.Proofs.YtlhmfgbaefaneaaGreatDoor.ref6
open Go Go.RowKit Go.Proofs.YtlhmfgbaefaneaaGreatDoor.day
theorem Sq (n:Int)(w:World):
  Calls Tryz.prog 45 #[.int .i64 n] w fun e w'=>e= .returned (.bool (decide (aF n)))∧w=w':=by
 have HD:=Lib.hid (show decide (aF n)=(decide (0≤n)&&decide (n≤109572)) from by rw[Bool.eq_iff_iff,Bool.and_eq_true,decide_eq_true_iff,decide_eq_true_iff,decide_eq_true_iff];rfl)
 go_enter Tryz.func45,Tryz.ntmps45
 go_wp2
 all_goals
  go_ret
  refine⟨?_,rfl⟩
  rw[HD.out]
  simp[*]<;>omega
theorem bN {n:Int}(h:aF n)(w:World):Calls Tryz.prog 45 #[.int .i64 n] w fun e w'=>e= .returned (.bool true)∧w=w':=by
 have:=Sq n w
 rwa [decide_eq_true h] at this
theorem tC {n:Int}(h:¬aF n)(w:World):Calls Tryz.prog 45 #[.int .i64 n] w fun e w'=>e= .returned (.bool false)∧w=w':=by
 have:=Sq n w
 rwa [decide_eq_false h] at this
def thirty (y m d y' m' d':Int):Int:=360*(y' - y)+30*(m' - m)+min d' 30 - min d 30
theorem uL (y m d:Int)(h:aI y m d)(y' m' d':Int)(h':aI y' m' d')(w:World):
  Calls Tryz.prog 60 #[.int .i64 1,.int .i64 (aG y m d),.int .i64 (aG y' m' d')] w fun e w'=>e= .returned (.int .i64 (thirty y m d y' m' d'))∧Below w.heap.size w w':=by
 have HC:=Lib.hid (fun W=>dU y m d h W)
 have HC':=Lib.hid (fun W=>dU y' m' d' h' W)
 have HI:=Lib.hid (fun W=>bN (aT h) W)
 have HI':=Lib.hid (fun W=>bN (aT h') W)
 obtain⟨a1,a2,a5,a6⟩:=id h
 obtain⟨b1,b2,b5,b6⟩:=id h'
 obtain⟨a3,a4⟩:=h.month
 obtain⟨b3,b4⟩:=h'.month
 have a7:=dO y m
 have b7:=dO y' m'
 have a8:d≤31:=by omega
 have b8:d'≤31:=by omega
 clear h h' a6 b6 a7 b7
 unfold thirty
 generalize aG y m d=n at *
 generalize aG y' m' d'=n' at *
 go_enter Tryz.func60,Tryz.ntmps60
 go_wp2_with (first
  |(go_at_call 45;(with_reducible refine(HI.out _).mono ?_);rintro e w1 ⟨rfl,rfl⟩;clear HI)
  |(go_at_call 45;(with_reducible refine(HI'.out _).mono ?_);rintro e w1 ⟨rfl,rfl⟩;clear HI')
  |(go_at_call 21;(with_reducible refine(HC.out _).mono ?_);rintro e w1 ⟨rfl,hb⟩;have HB:=Lib.hid hb;clear hb HC)
  |(go_at_call 21;(with_reducible refine(HC'.out _).mono ?_);rintro e w2 ⟨rfl,hb⟩;have HB2:=Lib.hid (HB.out.trans (hb.mono HB.out.size));clear hb HC')
  |(fail "no arm"))
 all_goals
  go_ret
  exact⟨by go_num,(HB2.out.alloc HB2.out.size _).alloc (by have:=HB2.out.size;rw[qK];omega) _⟩
theorem Dx (k a b:Int)(hk:2≤k)(hk2:k≤4)(ha:aF a)(hb:aF b)(w:World):
  Calls Tryz.prog 60 #[.int .i64 k,.int .i64 a,.int .i64 b] w fun e w'=>e= .returned (.int .i64 (b - a))∧w=w':=by
 have HI:=Lib.hid (fun W=>bN ha W)
 have HI':=Lib.hid (fun W=>bN hb W)
 obtain⟨a1,a2⟩:=ha
 obtain⟨b1,b2⟩:=hb
 go_enter Tryz.func60,Tryz.ntmps60
 go_wp2_with (first
  |(go_at_call 45;(with_reducible refine(HI.out _).mono ?_);rintro e w1 ⟨rfl,rfl⟩;clear HI)
  |(go_at_call 45;(with_reducible refine(HI'.out _).mono ?_);rintro e w1 ⟨rfl,rfl⟩;clear HI')
  |(fail "no arm"))
 go_ret
 exact⟨rfl,rfl⟩
theorem Bf (k a b:Int)(h:¬(aF a∧aF b)∨k<1∨4<k)(w:World):
  Calls Tryz.prog 60 #[.int .i64 k,.int .i64 a,.int .i64 b] w fun e w'=>e= .returned (.int .i64 0)∧w=w':=by
 by_cases h1:aF a
 ·by_cases h2:aF b
  ·have HI:=Lib.hid (fun W=>bN h1 W)
   have HI':=Lib.hid (fun W=>bN h2 W)
   have hk:k<1∨4<k:=h.resolve_left (fun h=>h ⟨h1,h2⟩)
   clear h h1 h2
   go_enter Tryz.func60,Tryz.ntmps60
   rcases hk with hk|hk
   all_goals
    go_wp2_with (first
     |(go_at_call 45;(with_reducible refine(HI.out _).mono ?_);rintro e w1 ⟨rfl,rfl⟩;clear HI)
     |(go_at_call 45;(with_reducible refine(HI'.out _).mono ?_);rintro e w1 ⟨rfl,rfl⟩;clear HI')
     |(fail "no arm"))
    go_ret
    exact⟨rfl,rfl⟩
  ·have HI:=Lib.hid (fun W=>bN h1 W)
   have HI':=Lib.hid (fun W=>tC h2 W)
   clear h h1 h2
   go_enter Tryz.func60,Tryz.ntmps60
   go_wp2_with (first
    |(go_at_call 45;(with_reducible refine(HI.out _).mono ?_);rintro e w1 ⟨rfl,rfl⟩;clear HI)
    |(go_at_call 45;(with_reducible refine(HI'.out _).mono ?_);rintro e w1 ⟨rfl,rfl⟩;clear HI')
    |(fail "no arm"))
   go_ret
   exact⟨rfl,rfl⟩
 ·have HI:=Lib.hid (fun W=>tC h1 W)
  clear h h1
  go_enter Tryz.func60,Tryz.ntmps60
  go_wp2_with (first
   |(go_at_call 45;(with_reducible refine(HI.out _).mono ?_);rintro e w1 ⟨rfl,rfl⟩;clear HI)
   |(fail "no arm"))
  go_ret
  exact⟨rfl,rfl⟩
end Go.Proofs.YtlhmfgbaefaneaaGreatDoor.ref6
namespace Go.Proofs.YtlhmfgbaefaneaaGreatDoor.ref6
open Go Go.RowKit Go.Proofs.YtlhmfgbaefaneaaGreatDoor.day
open Go.Proofs.YtlhmfgbaefaneaaGreatDoor.ref (str pad aJ aD cZ aY)
def iH (y m d:Int):List UInt8:=pad 4 y.toNat++[45]++pad 2 m.toNat++[45]++pad 2 d.toNat
end Go.Proofs.YtlhmfgbaefaneaaGreatDoor.ref6
namespace Go.Proofs.YtlhmfgbaefaneaaGreatDoor.ref6
open Go Go.RowKit Go.Proofs.YtlhmfgbaefaneaaGreatDoor.day
def clip (fin:Bool)(y m d Y M:Int):Int:=if (fin=true∧d=mlen y m)∨mlen Y M<d then mlen Y M else d
end Go.Proofs.YtlhmfgbaefaneaaGreatDoor.ref6
namespace Go.Proofs.YtlhmfgbaefaneaaGreatDoor.ref
def eH (l:List UInt8)(z:Int):Prop:=(bA l∧z=(seg l 0 l.length:Nat))∨∃t,l=45::t∧bA t∧seg t 0 t.length≠0∧z= -(seg t 0 t.length:Nat)
theorem nJ {t:List UInt8} :¬bA (45::t):=fun h=>by
 have:=h.2.2.2 0 (by simp)
 unfold bU ch at this
 simp at this
theorem eH.itoa {l:List UInt8}{z:Int}(h:eH l z):l=Lib.itoa z:=by
 unfold Lib.itoa
 rcases h with ⟨h,rfl⟩|⟨t,rfl,h,h0,rfl⟩
 ·rw[if_neg (by omega)]
  exact h.dec
 ·rw[if_pos (by omega),show(-(seg t 0 t.length:Nat):Int).natAbs=seg t 0 t.length by omega,←h.dec]
theorem eH.inj {l:List UInt8}{z y:Int}(h:eH l z)(k:eH l y):z=y:=by
 rcases h with ⟨h,rfl⟩|⟨t,rfl,h,h0,rfl⟩
 ·rcases k with ⟨k,rfl⟩|⟨t,rfl,k,k0,rfl⟩
  ·rfl
  ·exact absurd h nJ
 ·rcases k with ⟨k,rfl⟩|⟨t',k1,k,k0,rfl⟩
  ·exact absurd k nJ
  ·simp at k1
   rw[k1]
end Go.Proofs.YtlhmfgbaefaneaaGreatDoor.ref
namespace Go.Proofs.YtlhmfgbaefaneaaGreatDoor.ref
theorem Yy {a b:List UInt8}{i:Nat}(h:i<a.length):ch (a++b) i=ch a i:=by
 unfold ch
 rw[List.getD_eq_getElem?_getD,List.getD_eq_getElem?_getD,List.getElem?_append_left h]
theorem Yx {a:List UInt8}{c:UInt8} :ch (a++[c]) a.length=c.toNat:=by
 unfold ch
 rw[List.getD_eq_getElem?_getD,List.getElem?_append_right (Nat.le_refl _),Nat.sub_self]
 rfl
theorem Aw {l l':List UInt8}{st:Nat} :∀m,(∀i,i<m→ch l (st+i)=ch l' (st+i))→seg l st m=seg l' st m
 |0,_=>rfl
 |m+1,h=>by rw[seg,seg,Aw m fun i hi=>h i (by omega),h m (by omega)]
theorem pY:∀k d:Nat,(∀i,i<k→bU (pad k d) i)∧seg (pad k d) 0 k=d%10 ^ k
 |0,d=>⟨fun i h=>absurd h (by omega),by simp[seg,Nat.mod_one]⟩
 |k+1,d=>by
  have ih:=pY k (d/10)
  have hl:=aY k (d/10)
  have hc:ch (pad (k+1) d) k=48+d%10:=by
   have h:=Yx (a:=pad k (d/10)) (c:=UInt8.ofNat (48+d%10))
   rw[hl,UInt8.toNat_ofNat'] at h
   rw[pad,h]
   omega
  have hlt:∀i,i<k→ch (pad (k+1) d) i=ch (pad k (d/10)) i:=fun i hi=>by rw[pad,Yy (by omega)]
  refine⟨fun i hi=> ?_,?_⟩
  ·rcases Nat.lt_or_ge i k with h|h
   ·have:=ih.1 i h
    unfold bU at this ⊢
    rw[hlt i h]
    exact this
   ·obtain rfl:i=k:=by omega
    unfold bU
    rw[hc]
    omega
  ·rw[seg,Nat.zero_add,hc,Aw (l':=pad k (d/10)) k (fun i hi=>by rw[Nat.zero_add];exact hlt i hi),ih.2,Nat.pow_succ,Nat.mul_comm (10 ^ k) 10,Nat.mod_mul]
   omega
theorem pV:∀(p x:Nat),x<10 ^ (p+1)→∃m,x<10 ^ (m+1)∧(m=0∨10 ^ m≤x)∧m≤p
 |0,x,h=>⟨0,h,Or.inl rfl,Nat.le_refl _⟩
 |p+1,x,h=>by
  rcases Nat.lt_or_ge x (10 ^ (p+1)) with h1|h1
  ·obtain⟨m,a,b,c⟩:=pV p x h1
   exact⟨m,a,b,by omega⟩
  ·exact⟨p+1,h,Or.inr h1,Nat.le_refl _⟩
theorem iO {x p:Nat}(h:x<10 ^ (p+1))(hp:p<4000):bA (Lib.decDigits x)∧seg (Lib.decDigits x) 0 (Lib.decDigits x).length=x∧(Lib.decDigits x).length≤p+1:=by
 obtain⟨m,h1,h2,h3⟩:=pV p x h
 have hr:=pY (m+1) x
 have hl:=aY (m+1) x
 rw[←fC m x h1 h2,hl]
 refine⟨⟨by omega,by omega,fun hm=> ?_,fun i hi=>hr.1 i (by omega)⟩,?_,by omega⟩
 ·have h4:=h2.resolve_left (by omega)
  have h5:=jV h1 h4
  have h6:ch (pad (m+1) x) 0=(UInt8.ofNat (48+x/10 ^ m%10)).toNat:=by rw[cZ];rfl
  rw[h6]
  exact h5
 ·rw[hr.2,Nat.mod_eq_of_lt h1]
end Go.Proofs.YtlhmfgbaefaneaaGreatDoor.ref
namespace Go.Proofs.YtlhmfgbaefaneaaGreatDoor.ref6
open Go Go.RowKit Go.Proofs.YtlhmfgbaefaneaaGreatDoor.day
open Go.Proofs.YtlhmfgbaefaneaaGreatDoor.ref (str aD ch seg bU)
theorem yH {l:List UInt8}{i:Nat}(h:i<(str l).size): ((str l)[i]'h).toNat=ch l i:=by
 have h':i<l.length:=by simpa[aD] using h
 show((str l).data[i]'h).toNat=_
 simp[str,ch,h']
def iE (l:List UInt8):Prop:=l.length=10∧ch l 4=45∧ch l 7=45∧∀i,i<10→i≠4→i≠7→bU l i
def Ll (l:List UInt8)(w:World)(e:Ending)(w':World):Prop:=
 (¬iE l→e= .returned (.tuple #[.int .i64 0,.int .i64 1]))∧
 (iE l→aI (seg l 0 4:Nat) (seg l 5 2:Nat) (seg l 8 2:Nat)→e= .returned (.tuple #[.int .i64 (aG (seg l 0 4:Nat) (seg l 5 2:Nat) (seg l 8 2:Nat)),.int .i64 0]))∧
 (iE l→¬aI (seg l 0 4:Nat) (seg l 5 2:Nat) (seg l 8 2:Nat)→e= .returned (.tuple #[.int .i64 0,.int .i64 4]))∧Below w.heap.size w w'
theorem Ll.form {l:List UInt8}{w w':World}(h:¬iE l)(hb:Below w.heap.size w w'):Ll l w (.returned (.tuple #[.int .i64 0,.int .i64 1])) w':=
 ⟨fun _=>rfl,fun hf=>absurd hf h,fun hf=>absurd hf h,hb⟩
def N3 (w:World)(b:Nat)(x y z:Nat):Prop:=w.heap[b]?=some (.cells #[.int .i64 (x:Int),.int .i64 (y:Int),.int .i64 (z:Int)] 101 (0,0))
theorem N3.cells {w:World}{g x y z:Nat}(h3:N3 w g x y z):
  w.cell? ⟨g,0,none⟩=some (.int .i64 (x:Int))∧w.cell? ⟨g,1,none⟩=some (.int .i64 (y:Int))∧w.cell? ⟨g,2,none⟩=some (.int .i64 (z:Int))∧w.frozen? ⟨g,0,none⟩=false∧w.frozen? ⟨g,1,none⟩=false∧w.frozen? ⟨g,2,none⟩=false:=by
 unfold N3 at h3
 refine⟨?_,?_,?_,?_,?_,?_⟩
 ·rw[cell_of_row _ g 0 _ _ (0,0) h3];rfl
 ·rw[cell_of_row _ g 1 _ _ (0,0) h3];rfl
 ·rw[cell_of_row _ g 2 _ _ (0,0) h3];rfl
 all_goals
  unfold World.frozen?
  rw[h3]
  rfl
theorem N3.set0 {w:World}{g x y z:Nat}(h:N3 w g x y z)(v:Nat):N3 (w.setCell ⟨g,0,none⟩ (.int .i64 (v:Int))) g v y z:=by
 unfold N3 at *;rw[heap_setCell_same w g 0 _ _ _ h];rfl
theorem N3.set1 {w:World}{g x y z:Nat}(h:N3 w g x y z)(v:Nat):N3 (w.setCell ⟨g,1,none⟩ (.int .i64 (v:Int))) g x v z:=by
 unfold N3 at *;rw[heap_setCell_same w g 1 _ _ _ h];rfl
theorem N3.set2 {w:World}{g x y z:Nat}(h:N3 w g x y z)(v:Nat):N3 (w.setCell ⟨g,2,none⟩ (.int .i64 (v:Int))) g x y v:=by
 unfold N3 at *;rw[heap_setCell_same w g 2 _ _ _ h];rfl
end Go.Proofs.YtlhmfgbaefaneaaGreatDoor.ref6
