import PyProof.Rows.All
import Wide.All
import OpenK.AllK
import Wide.FinOn
import Lean
import PyProof.EqAt
import PyProof.EqKinds
import PyProof.TupleCall
import PySem.Challenge.RW_balancehall_k08_whole_texts_by_signs
set_option Elab.async false
set_option linter.all false
set_option maxRecDepth 100000
namespace L2
open PySem PySem.Spec PyProof.Rows
abbrev Key:=Sum Int Str
def lN:Key→Value→Bool
 | .inl k,v=>Value.isInt k v
 | .inr x,v=>Value.isStrOf x v
def L3(w:World):Key→Int
 | .inl k=>hashInt k
 | .inr x=>hashStr w x
theorem bR:∀{k:Key} {v:Value},lN k v=true→(∃i t,k=Sum.inl i∧v=Value.int i t)∨(∃x t,k=Sum.inr x∧v=Value.str x t)
 | .inl i,v,h=>by
   obtain⟨t,e⟩:=Value.isInt_shape (k:=i) (v:=v) h
   exact .inl ⟨i,t,rfl,e⟩
 | .inr x,v,h=>by
   obtain⟨t,e⟩:=Value.isStrOf_shape (x:=x) (v:=v) h
   exact .inr ⟨x,t,rfl,e⟩
theorem vT(i:Int)(t:Tok):lN (.inl i) (.int i t)=true:=by simp [lN,Value.isInt]
theorem vU(x:Str)(t:Tok):lN (.inr x) (.str x t)=true:=by simp [lN,Value.isStrOf]
theorem Dr(a b:Int):decide ((Sum.inl a:Key)=Sum.inl b)=(a==b):=by
 by_cases e:a=b
 ·subst e;simp
 ·have h:¬(Sum.inl a:Key)=Sum.inl b:=fun q=>e (Sum.inl.inj q)
  rw[decide_eq_false h]
  exact(beq_eq_false_iff_ne.mpr e).symm
theorem Ds(a b:Str):decide ((Sum.inr a:Key)=Sum.inr b)=decide (a=b):=by
 by_cases e:a=b
 ·subst e;simp
 ·have h:¬(Sum.inr a:Key)=Sum.inr b:=fun q=>e (Sum.inr.inj q)
  rw[decide_eq_false h,decide_eq_false e]
theorem Dt(a:Int)(b:Str):decide ((Sum.inl a:Key)=Sum.inr b)=false:=decide_eq_false (fun q=>nomatch q)
theorem Du(a:Str)(b:Int):decide ((Sum.inr a:Key)=Sum.inl b)=false:=decide_eq_false (fun q=>nomatch q)
def bI(prog:Program)(w:World):PySem.KeyKind prog w Key where
 is:=lN
 hash:=L3 w
 inj:=fun v a b ha hb=>by
  rcases bR ha with ⟨i,t,rfl,rfl⟩ | ⟨x,t,rfl,rfl⟩
  ·rcases bR hb with ⟨j,u,rfl,e⟩ | ⟨y,u,rfl,e⟩
   ·injection e with e1 _;rw[e1]
   ·exact nomatch e
  ·rcases bR hb with ⟨j,u,rfl,e⟩ | ⟨y,u,rfl,e⟩
   ·exact nomatch e
   ·injection e with e1 _;rw[e1]
 byValue:=fun k v h=>by
  rcases bR h with ⟨i,t,rfl,rfl⟩ | ⟨x,t,rfl,rfl⟩<;>rfl
 pyHash:=fun hv h=>by
  rcases bR hv with ⟨i,t,rfl,rfl⟩ | ⟨x,t,rfl,rfl⟩
  ·exact wpAny_pyHash_int h
  ·exact wpAny_pyHash_str h
 eqBool:=fun hu hv h=>by
  rcases bR hu with ⟨i,t,rfl,rfl⟩ | ⟨x,t,rfl,rfl⟩
  ·rcases bR hv with ⟨j,u,rfl,rfl⟩ | ⟨y,u,rfl,rfl⟩
   ·rw[Dr] at h;exact wpAny_eqBool_int h
   ·rw[Dt] at h;exact SeqAt.EqAt.int_str i t y u _ _ _ _ h
  ·rcases bR hv with ⟨j,u,rfl,rfl⟩ | ⟨y,u,rfl,rfl⟩
   ·rw[Du] at h;exact SeqAt.EqAt.str_int x t j u _ _ _ _ h
   ·rw[Ds] at h;exact wpAny_eqBool_str h
 «strs» :=fun k x t v h=>by
  rcases bR h with ⟨i,u,rfl,e⟩ | ⟨y,u,rfl,e⟩
  ·exact nomatch e
  ·injection e with e1 _
   subst e1
   cases v<;>rfl
theorem sN(prog:Program)(w:World)(k:Key)(v:Value):(bI prog w).is k v=lN k v:=rfl
theorem qD(prog:Program)(w:World)(i:Int)(t:Tok):(bI prog w).is (.inl i) (.int i t)=true:=vT i t
theorem qF(prog:Program)(w:World)(x:Str)(t:Tok):(bI prog w).is (.inr x) (.str x t)=true:=vU x t
end L2
namespace L2
open PySem PySem.Spec PyProof.Rows
inductive V where
 |cw|bl (b:Bool) |int (i:Int) |str (x:Str) |sO (b:Array UInt8) |Cg (b:UInt64) |ref (a:Addr) |ty (n:String)
 deriving DecidableEq
def RelV:V→Value→Prop
 | .cw,u=>u=Value.none
 | .bl b,u=>u=Value.bool b
 | .int i,u=>∃t,u=Value.int i t
 | .str x,u=>∃t,u=Value.str x t
 | .sO b,u=>∃t,u=Value.bytes b t
 | .Cg b,u=>∃t,u=Value.float b t
 | .ref a,u=>u=Value.ref a
 | .ty n,u=>u=Value.type n
abbrev Vals:List V→List Value→Prop:=Paired RelV
theorem Vals.length{xs:List V}{us:List Value}(r:Vals xs us):xs.length=us.length:=Paired.length r
theorem Vals.get:∀{xs:List V} {us:List Value} {i:Nat} {x:V},Vals xs us→xs[i]? =some x→∃u,us[i]? =some u∧RelV x u
 |_,_,_,_, .nil,e=>by simp at e
 |_,_,0,_, .cons r _,e=>by simp at e;subst e;exact⟨_,rfl,r⟩
 |_,_,i+1,x, .cons _ t,e=>by
  obtain⟨u,h1,h2⟩:=Vals.get (i:=i) (x:=x) t (by simpa using e)
  exact⟨u,by simpa using h1,h2⟩
theorem Vals.append:∀{xs ys:List V} {us ws:List Value},Vals xs us→Vals ys ws→Vals (xs++ys) (us++ws)
 |_,_,_,_, .nil,s=>s
 |_,_,_,_, .cons r t,s=> .cons r (Vals.append t s)
theorem Vals.take:∀{xs:List V} {us:List Value} (n:Nat),Vals xs us→Vals (xs.take n) (us.take n)
 |_,_,0,_=> .nil
 |_,_,_+1, .nil=> .nil
 |_,_,n+1, .cons r t=> .cons r (Vals.take n t)
theorem Vals.drop:∀{xs:List V} {us:List Value} (n:Nat),Vals xs us→Vals (xs.drop n) (us.drop n)
 |_,_,0,r=>r
 |_,_,_+1, .nil=> .nil
 |_,_,n+1, .cons _ t=>Vals.drop n t
def eJ:Option V→Option Value→Prop
 |some v,some u=>RelV v u
 |none,none=>True
 |_,_=>False
def KV{κ:Type}:List (κ×V)→List (κ×Value)→Prop:=Paired fun (p:κ×V) (q:κ×Value)=>p.1=q.1∧RelV p.2 q.2
def kV:Key→V
 | .inl i=> .int i
 | .inr x=> .str x
inductive HO where
 |lst (xs:List V)
 |tup (xs:List V)
 |dK (kvs:List (Key×V)) |dT (kvs:List (List Key×V))
 |set (S:Int→Bool) (n:Nat)
 |ins (C dx:Addr) (fs:List (Str×V))
 |own (x:Addr)
 |xd (fs:List (Str×V))
 |met (f x:Addr)
 |L4 (lo hi:Int)
 |iG (o:Obj) (u:HO)
 |Ci (ps:Array Value)
 |ext (φ:Heap→Prop)
abbrev Hp:=Addr→Option HO
def upd(H:Hp)(a:Addr)(o:HO):Hp:=fun b=>if b=a then some o else H b
theorem ag{H:Hp}{a:Addr}{o:HO}:upd H a o a=some o:=by unfold upd;rw[if_pos rfl]
theorem ah{H:Hp}{a b:Addr}{o:HO}(h:b≠a):upd H a o b=H b:=by unfold upd;rw[if_neg h]
theorem oO{H:Hp}{a:Addr}{o u:HO}:upd (upd H a o) a u=upd H a u:=by
 funext b;unfold upd;split<;>rfl
theorem xJ{H:Hp}{a b:Addr}{o u:HO}(h:H a=some o)(h':H b=some u)(d:o≠u):a≠b:=by
 intro e;subst e;rw[h] at h';exact d (Option.some.inj h')
theorem af{H:Hp}{a b:Addr}{o:HO}(h:H a=some o)(h':H b=none):a≠b:=by
 intro e;subst e;rw[h] at h';cases h'
section
variable (P:Program)(w:World)
def bM(H:Hp)(h:Heap)(a:Addr):HO→Prop
 | .lst xs=>xs.length≤sizeLine∧∃(its:List Value) (n:Nat),Vals xs its∧h.get? a=some { cls:= .type "list",data:= .seq its.toArray n }
 | .tup xs=>xs.length≤sizeLine∧∃its:List Value,Vals xs its∧IsTup h a its.toArray
 | .dK kvs=>kvs.length≤sizeLine∧(a==sysModules)=false∧∃vs,KV kvs vs∧h.DictOf (bI P w) a vs
 | .dT kvs=>kvs.length≤sizeLine∧(a==sysModules)=false∧∃xs:List (List Key×Addr×Value),
   Paired (fun (p:List Key×V) (q:List Key×Addr×Value)=>p.1=q.1∧H q.2.1=some (.tup (p.1.map kV))∧RelV p.2 q.2.2) kvs xs∧
   ∃o es ep,h.get? a=some o∧o.ExactDict∧o.data= .dict es ep∧es.toList=xs.map (entryOfKey (tupleKind (bI P w)))∧(xs.map (·.1)).Nodup
 | .set S n=>h.SetOf (intKind P w) a S n
 | .ins C dx fs=>H dx=some (.own a)∧fs.length≤1000∧dx≠a∧h.get? a=some (PySem.W.instObj C dx)∧
   ∃mA,h.Ns1 dx mA∧(∀f,eJ (fs.lookup f) (mA f))∧PySem.Within mA (fs.map (·.1))
 | .own _=>∃o,h.get? a=some o
 | .xd fs=>∃mA,h.Ns1 a mA∧∀f,eJ (fs.lookup f) (mA f)
 | .L4 lo hi=>∃t u v,h.get? a=some { cls:= .type "range",data:= .fields #[.int lo t, .int hi u, .int 1 v] }
 | .iG o u=>h.get? a=some o∧bM H h a u
 | .Ci ps=>h.get? a=some { cls:= .none,data:= .fields ps }
 | .met f x=>h.get? a=some (PySem.W.methodObj (.ref f) (.ref x))
 | .ext φ=>φ h∧(∃o,h.get? a=some o)∧∀h1 h2:Heap,φ h1→(∀o,h1.get? a=some o→h2.get? a=some o)→φ h2
def gU(H:Hp)(h:Heap):Prop:=∀a o,H a=some o→bM P w H h a o
end
section
variable {P:Program}{w:World}{H H':Hp}{h h':Heap}{a:Addr}{o:HO}
theorem bM.lt(x:bM P w H h a o):a<h.objs.size:=by
 cases o with
 |lst xs=>obtain⟨_,_,_,_,e⟩:=x;exact Heap.lt_size e
 |tup xs=>obtain⟨_,_,_,p⟩:=x;exact p.lt
 |dK kvs=>obtain⟨_,_,_,_,o,_,_,e,_⟩:=x;exact Heap.lt_size e
 |dT kvs=>obtain⟨_,_,_,_,o,_,_,e,_⟩:=x;exact Heap.lt_size e
 |set S n=>obtain⟨o,_,_,_,e,_⟩:=x;exact Heap.lt_size e
 |ins C dx fs=>obtain⟨_,_,_,e,_⟩:=x;exact Heap.lt_size e
 |own y=>obtain⟨_,e⟩:=x;exact Heap.lt_size e
 |xd fs=>obtain⟨_,⟨_,_,_,e,_⟩,_⟩:=x;exact Heap.lt_size e
 |L4 lo hi=>obtain⟨_,_,_,e⟩:=x;exact Heap.lt_size e
 |iG ob u=>obtain⟨e,_⟩:=x;exact Heap.lt_size e
 |Ci ps=>exact Heap.lt_size (show h.get? a=some _ from x)
 |met f y=>exact Heap.lt_size (show h.get? a=some _ from x)
 |ext φ=>obtain⟨_,⟨_,e⟩,_⟩:=x;exact Heap.lt_size e
theorem Paired.Dv{α β:Type}{F G:α→β→Prop}:∀{l₁:List α} {l₂:List β},Paired F l₁ l₂→(∀a b,F a b→G a b)→Paired G l₁ l₂
 |_,_, .nil,_=> .nil
 |_,_, .cons r t,f=> .cons (f _ _ r) (Paired.Dv t f)
theorem bM.oP(x:bM P w H h a o)(k:∀b u,(b=a∨H b=some (.own a))→h.get? b=some u→h'.get? b=some u)
  (ho:∀b,H b=some (.own a)→H' b=some (.own a)) (ht:∀b xs,H b=some (.tup xs)→H' b=some (.tup xs)):bM P w H' h' a o:=by
 induction o with
 |lst xs=>obtain⟨z,its,n,r,e⟩:=x;exact⟨z,its,n,r,k _ _ (.inl rfl) e⟩
 |tup xs=>obtain⟨z,its,r,ob,e,c⟩:=x;exact⟨z,its,r,ob,k _ _ (.inl rfl) e,c⟩
 |dK kvs=>obtain⟨z,y,vs,r,ob,es,ep,e,c⟩:=x;exact⟨z,y,vs,r,ob,es,ep,k _ _ (.inl rfl) e,c⟩
 |dT kvs=>
  obtain⟨z,y,xs,r,ob,es,ep,e,c⟩:=x
  exact⟨z,y,xs,Paired.Dv r fun p q z=>⟨z.1,ht _ _ z.2.1,z.2.2⟩,ob,es,ep,k _ _ (.inl rfl) e,c⟩
 |set S n=>obtain⟨ob,es,ep,t,e,c⟩:=x;exact⟨ob,es,ep,t,k _ _ (.inl rfl) e,c⟩
 |ins C dx fs=>
  obtain⟨d,z,ne,e,mA,⟨od,es,ep,e2,c⟩,r⟩:=x
  exact⟨ho _ d,z,ne,k _ _ (.inl rfl) e,mA,⟨od,es,ep,k _ _ (.inr d) e2,c⟩,r⟩
 |own y=>obtain⟨ob,e⟩:=x;exact⟨ob,k _ _ (.inl rfl) e⟩
 |xd fs=>obtain⟨mA,⟨od,es,ep,e,c⟩,r⟩:=x;exact⟨mA,⟨od,es,ep,k _ _ (.inl rfl) e,c⟩,r⟩
 |L4 lo hi=>obtain⟨t,u,v,e⟩:=x;exact⟨t,u,v,k _ _ (.inl rfl) e⟩
 |iG ob u ih=>obtain⟨e,q⟩:=x;exact⟨k _ _ (.inl rfl) e,ih q⟩
 |Ci ps=>
  have e:h.get? a=some { cls:= .none,data:= .fields ps }:=x
  show h'.get? a=some { cls:= .none,data:= .fields ps }
  exact k a _ (.inl rfl) e
 |met f y=>
  have e:h.get? a=some (PySem.W.methodObj (.ref f) (.ref y)):=x
  show h'.get? a=some (PySem.W.methodObj (.ref f) (.ref y))
  exact k a _ (.inl rfl) e
 |ext φ=>obtain⟨p,⟨o,e⟩,st⟩:=x;exact⟨st _ _ p fun o q=>k _ _ (.inl rfl) q,⟨o,k _ _ (.inl rfl) e⟩,st⟩
theorem gU.lt(x:gU P w H h)(e:H a=some o):a<h.objs.size:=(x a o e).lt
theorem gU.fresh(x:gU P w H h)(e:h.objs.size≤a):H a=none:=by
 cases q:H a with
 |none=>rfl
 |some u=>exact absurd (Nat.lt_of_lt_of_le (x.lt q) e) (Nat.lt_irrefl _)
theorem gU.kept(x:gU P w H h)(k:∀b u,h.get? b=some u→h'.get? b=some u):gU P w H h':=fun a o e=>
 (x a o e).oP (fun b u _ q=>k b u q) (fun _ q=>q) fun _ _ q=>q
theorem gU.laid(x:gU P w H h)(k:∀b u,h.get? b=some u→h'.get? b=some u)(hp:h.objs.size≤a)(new:bM P w (upd H a o) h' a o):gU P w (upd H a o) h':=fun b u e=>by
 have hn:=x.fresh hp
 by_cases hb:b=a
 ·subst hb;rw[ag] at e;cases e;exact new
 ·rw[ah hb] at e
  exact(x b u e).oP (fun c v _ q=>k c v q) (fun c q=>by rw[ah (af q hn)];exact q) fun c xs q=>by rw[ah (af q hn)];exact q
end
def Rd(H:Hp)(a:Addr)(u:HO):Prop:=H a=some u∨∃o,H a=some (.iG o u)
theorem Rd.ok{P:Program}{w:World}{H:Hp}{h:Heap}{a:Addr}{u:HO}(r:Rd H a u)(x:gU P w H h):bM P w H h a u:=by
 rcases r with r| ⟨o,r⟩
 ·exact x a u r
 ·obtain⟨_,q⟩:=x a _ r
  exact q
def Gq:Option HO→Prop
 |some (.lst _)=>True
 |some (.dK _)=>True
 |some (.dT _)=>True
 |some (.set _ _)=>True
 |some (.ins _ _ _)=>True
 |some (.ext _)=>True
 |_=>False
section
variable {P:Program}{w:World}{H:Hp}{h h':Heap}{x e:Addr}{o':HO}
theorem gU.write(ok:gU P w H h)(mu:Gq (H x))(he:e=x∨H e=some (.own x))(k:∀b u,b≠e→h.get? b=some u→h'.get? b=some u)(F3:∃u,h'.get? e=some u)
  (new:bM P w (upd H x o') h' x o'):gU P w (upd H x o') h':=fun b u q=>by
 have Gs:∀c y,H c=some (.own y)→c≠x:=fun c y r z=>by subst z;rw[r] at mu;exact mu
 have L5:∀c xs,H c=some (.tup xs)→c≠x:=fun c xs r z=>by subst z;rw[r] at mu;exact mu
 by_cases hb:b=x
 ·subst hb;rw[ag] at q;cases q;exact new
 ·rw[ah hb] at q
  by_cases Dw:b=e
  ·have q':H b=some (.own x):=by
    rcases he with z|z
    ·exact absurd (Dw.trans z) hb
    ·rw[Dw];exact z
   rw[q] at q';cases q'
   obtain⟨v,hv⟩:=F3
   exact⟨v,by rw[Dw];exact hv⟩
  ·refine(ok b u q).oP (fun c v hc r=>k c v ?_ r) (fun c r=>by rw[ah (Gs c b r)];exact r) fun c xs r=>by rw[ah (L5 c xs r)];exact r
   rcases hc with rfl|hc
   ·exact Dw
   ·rintro rfl
    rcases he with z|z
    ·exact Gs c b hc z
    ·rw[hc] at z;cases z;exact hb rfl
end
structure Un(fs ex:List Addr)(H H':Hp)(h h':Heap):Prop where
 keep:∀b o,h.get? b=some o→H b=none→b∉fs→b∉ex→h'.get? b=some o
 slot:∀b o,h.get? b=some o→H b=none→b∈fs→b∉ex→∃sl,h'.get? b=some { o with slots:=sl }
 free:∀b o,h.get? b=some o→H b=none→b∉ex→H' b=none
 there:∀b o,h.get? b=some o→b∉ex→∃o',h'.get? b=some o'
 jO:∀b xs,H b=some (.tup xs)→H' b=some (.tup xs)
 jP:∀b o u,H b=some (.iG o u)→H' b=some (.iG o u)
 jQ:∀b ps,H b=some (.Ci ps)→∃more,H' b=some (.Ci (ps++more))
section
variable {fs Az ex Vp:List Addr}{H H1 H2:Hp}{h h1 h2 h':Heap}{a x e:Addr}{o:HO}
theorem Un.any(u:Un fs ex H H1 h h1){b:Addr}{ob:Obj}(q:h.get? b=some ob)(n:H b=none)(hx:b∉ex):∃sl,h1.get? b=some { ob with slots:=sl }:=by
 by_cases hb:b∈fs
 ·exact u.slot b ob q n hb hx
 ·exact⟨ob.slots,u.keep b ob q n hb hx⟩
theorem Un.kept(k:∀b u,h.get? b=some u→h'.get? b=some u):Un fs ex H H h h':=
 ⟨fun b ob q _ _ _=>k b ob q,fun b ob q _ _ _=>⟨ob.slots,k b ob q⟩,fun _ _ _ n _=>n,fun b ob q _=>⟨ob,k b ob q⟩,fun _ _ q=>q,fun _ _ _ q=>q,fun _ ps q=>⟨#[],by rw[q];simp⟩⟩
theorem Un.refl:Un fs ex H H h h:=Un.kept fun _ _ q=>q
theorem Un.laid(k:∀b u,h.get? b=some u→h'.get? b=some u)(hp:h.objs.size≤a)(hn:H a=none):Un fs ex H (upd H a o) h h' where
 keep:=fun b u q _ _ _=>k b u q
 slot:=fun b u q _ _ _=>⟨u.slots,k b u q⟩
 free:=fun b u q n _=>by rw[ah (Nat.ne_of_lt (Nat.lt_of_lt_of_le (Heap.lt_size q) hp))];exact n
 there:=fun b u q _=>⟨u,k b u q⟩
 jO:=fun b xs q=>by rw[ah (af q hn)];exact q
 jP:=fun b u xs q=>by rw[ah (af q hn)];exact q
 jQ:=fun b ps q=>⟨#[],by rw[ah (af q hn),q];simp⟩
theorem Un.write(mu:Gq (H x))(he:e=x∨H e=some (.own x))(k:∀b u,b≠e→h.get? b=some u→h'.get? b=some u)(F3:∃u,h'.get? e=some u):Un fs ex H (upd H x o) h h':=by
 have hx:∀b,H b=none→b≠x:=fun b n z=>by subst z;rw[n] at mu;exact mu
 have hb:∀b,H b=none→b≠e:=fun b n z=>by
  subst z
  rcases he with r|r
  ·exact hx b n r
  ·rw[n] at r;cases r
 have hm:∀b u,H b=some u→¬Gq (some u)→b≠x:=fun b u q nm z=>by subst z;rw[q] at mu;exact nm mu
 refine⟨fun b u q n _ _=>k b u (hb b n) q,fun b u q n _ _=>⟨u.slots,k b u (hb b n) q⟩,fun b u q n _=>by rw[ah (hx b n)];exact n,fun b u q _=>?_,
  fun b xs q=>by rw[ah (hm b _ q fun z=>z)];exact q,fun b u xs q=>by rw[ah (hm b _ q fun z=>z)];exact q,fun b ps q=>⟨#[],by rw[ah (hm b _ q fun z=>z),q];simp⟩⟩
 by_cases Dw:b=e
 ·subst Dw;exact F3
 ·exact⟨u,k b u Dw q⟩
end
def Lj(h:Heap)(H:Hp):List Addr:=(List.range h.objs.size).filter fun a=>(H a).isSome
def oQ(h:Heap)(H:Hp):Heap:=PySem.W.hideAll h (Lj h H)
theorem vV(h:Heap)(H:Hp):(oQ h H).objs.size=h.objs.size:=PySem.W.hideAll_size _ _
theorem xK{h:Heap}{H:Hp}{b:Addr}{o:Obj}(e:h.get? b=some o)(n:H b=none):(oQ h H).get? b=some o:=
 PySem.W.hideAll_get _ e fun hm=>by
  have q:(H b).isSome=true:=(List.mem_filter.mp hm).2
  rw[n] at q;simp at q
theorem AA{h:Heap}{H:Hp}{b:Addr}{o:Obj}(e:(oQ h H).get? b=some o):h.get? b=some o∧H b=none:=by
 have e':h.get? b=some o:=PySem.W.of_hideAll (Lj h H) e
 refine⟨e',?_⟩
 cases q:H b with
 |none=>rfl
 |some x=>
  have hm:b∈Lj h H:=List.mem_filter.mpr ⟨List.mem_range.mpr (Heap.lt_size e'),by simp [q]⟩
  have z:(oQ h H).get? b=none:=PySem.W.hideAll_none (Lj h H) hm
  rw[z] at e;cases e
def AB(g h:Heap)(L:Addr):List (Addr×Obj):=(List.range h.objs.size).filterMap fun a=>if a=L∨(g.get? a).isSome=true then none else (h.get? a).map fun o=>(a,o)
def rest(g h:Heap)(L d:Addr):List (Addr×Obj):=(AB g h L).filter fun p=>decide (p.1≠d)
end L2
namespace L2
open PySem PySem.Spec PyProof.Rows
structure Mod(K:PySem.W.Frag)(mg:Str→Option Value)(base:Heap):Prop where
 i8:K.In base
 glob:base.Ns mainGlobals mg
 blt:∃mb,base.Ns builtinsNs mb∧∀x:Str,x≠"__name__" →mb x=bootBuiltins x
 nolimit:base.NoLimit
structure Cx where
 prog:Program
 w:World
 K:PySem.W.Frag
 mg:Str→Option Value
 base:Heap
 A:Around
 N:List Str
 s₀:Shared
 H₀:Hp
 env:Env
 outer:List Env
 stack:List Env
 ex:List Addr
 fn:Str→Bool
 calm:Bool
 pn:List (Addr×Obj)
 xe:Value→Shared→Prop
def qz(l:List Env):List Addr:=l.filterMap (·.frame)
abbrev Cx.fs(X:Cx):List Addr:=qz X.outer
def L6(sc:Scope)(x:Str):Prop:=sc.names.lookup x=some .local∨sc.names.lookup x=some .cell∨sc.names.lookup x=some .free
def Loc(sc:Scope)(x:Str):Prop:=sc.names.lookup x=some .local∨sc.names.lookup x=some .cell
def Look(env:Env)(h:Heap)(m:Str→Option Value)(x:Str)(u:Value):Prop:=
 (env.kindOf x=some .local∧m x=some u)∨((env.kindOf x=some .cell∨env.kindOf x=some .free)∧∃c,env.cells.lookup x=some c∧h.IsCell c (some u))
structure Cx.Ok(X:Cx):Prop where
 mod:Mod X.K X.mg X.base
 kind:X.env.scope.kind= .function
 glob:X.env.globals=mainGlobals
 blt:X.env.builtins=builtinsNs
 above:X.s₀.heap.objs.size≤X.env.locals
 inj:∀x y c,X.env.cells.lookup x=some c→X.env.cells.lookup y=some c→x=y
 has:∀x,(X.env.kindOf x=some .cell∨X.env.kindOf x=some .free)→∃c,X.env.cells.lookup x=some c
 AD:∀x c,X.fn x=true→X.env.cells.lookup x=some c→X.s₀.heap.objs.size≤c
 hd:X.calm=true→X.A.handled=none
 frames:X.A.frames=some X.stack
 Cj:X.stack=X.outer∨(X.stack=X.env::X.outer∧X.env.frame=some X.env.locals)
 F4:∀b∈X.ex,b≠X.env.locals∧∀x c,X.env.cells.lookup x=some c→c≠b
 bs:∀b o,X.base.get? b=some o→X.s₀.heap.get? b=some o∧X.H₀ b=none
 vW:X.base.objs.size≤X.s₀.heap.objs.size
 oR:∀b o,X.base.get? b=some o→b∉X.ex
 oS:∀b∈X.ex,b∉X.fs
 iH:X.s₀.heap.FunFrames X.base X.outer
 xM:∀b∈X.fs,X.H₀ b=none
structure Inv(X:Cx)(pins:List (Addr×Obj))(σ:List (Option V))(H:Hp)(s:Shared):Prop where
 ok:X.Ok
 os:s.os=X.s₀.os
 bare:AllBare s.gens
 base:Un X.fs X.ex X.H₀ H X.s₀.heap s.heap
 loc:∃m,s.heap.Ns X.env.locals m∧∀(i:Nat) (x:Str) (v:V),X.N[i]? =some x→σ[i]? =some (some v)→L6 X.env.scope x→∃u,RelV v u∧Look X.env s.heap m x u
 cell:∀x c,X.env.cells.lookup x=some c→∃v,s.heap.IsCell c v
 free:H X.env.locals=none
 eF:∀x c,X.env.cells.lookup x=some c→H c=none
 pin:∀p∈X.pn++pins,s.heap.get? p.1=some p.2∧H p.1=none∧p.1≠X.env.locals∧p.1∉X.fs∧∀v,p.2.data≠ .cell v
 bg:gU X.prog X.w H s.heap
 len:σ.length=X.N.length
section
variable {X:Cx}{pins:List (Addr×Obj)}{σ:List (Option V)}{H H':Hp}{s:Shared}{h':Heap}
theorem Cx.Ok.L7(ok:X.Ok){b:Addr}{o:Obj}(e:X.base.get? b=some o):b∉X.fs:=fun hb=>by
 have:=(ok.iH.mem hb).1
 rw[e] at this;cases this
theorem Inv.bs(I:Inv X pins σ H s):∀b o,X.base.get? b=some o→s.heap.get? b=some o∧H b=none:=fun b o e=>
 ⟨I.base.keep b o (I.ok.bs b o e).1 (I.ok.bs b o e).2 (I.ok.L7 e) (I.ok.oR b o e),I.base.free b o (I.ok.bs b o e).1 (I.ok.bs b o e).2 (I.ok.oR b o e)⟩
theorem Inv.bk(I:Inv X pins σ H s):∀b o,X.base.get? b=some o→s.heap.get? b=some o:=fun b o e=>(I.bs b o e).1
theorem Inv.mod(I:Inv X pins σ H s):Mod X.K X.mg X.base:=I.ok.mod
theorem Inv.f9(I:Inv X pins σ H s):X.K.In s.heap:=I.ok.mod.i8.keeps I.bk
theorem Inv.lt(I:Inv X pins σ H s):X.env.locals<s.heap.objs.size:=let ⟨_,hn,_⟩:=I.loc;hn.lt
theorem Inv.sz(I:Inv X pins σ H s):X.s₀.heap.objs.size≤s.heap.objs.size:=Nat.le_trans I.ok.above (Nat.le_of_lt I.lt)
theorem Inv.L8(I:Inv X pins σ H s){a:Addr}(h:s.heap.objs.size≤a):a∉X.fs:=fun hb=>by
 obtain⟨_,o,ho,_⟩:=I.ok.iH.mem hb
 exact absurd (Nat.lt_of_lt_of_le (Heap.lt_size ho) (Nat.le_trans I.sz h)) (Nat.lt_irrefl _)
theorem Inv.AE(I:Inv X pins σ H s):∀x c,X.env.cells.lookup x=some c→c≠X.env.locals:=fun x c e z=>by
 obtain⟨v,o,ho,hd⟩:=I.cell x c e
 obtain⟨m,⟨o',es,ep,sP,lO,_⟩,_⟩:=I.loc
 rw[z,sP] at ho;cases ho;rw[lO] at hd;cases hd
theorem Inv.iH(I:Inv X pins σ H s):s.heap.FunFrames X.base X.outer:=by
 have all:∀(l:List Env),(∀b∈qz l,b∈X.fs)→X.s₀.heap.FunFrames X.base l→s.heap.FunFrames X.base l:=by
  intro l
  induction l with
  |nil=>intro _ _;trivial
  |cons env r ih=>
   intro hs hl
   obtain⟨hk,⟨L,o,hf,hn,ho,hd⟩,hr⟩:=hl
   have hL:L∈X.fs:=hs L (by unfold qz;rw[List.filterMap_cons,hf];exact List.mem_cons_self)
   obtain⟨sl,e⟩:=I.base.slot L o ho (I.ok.xM L hL) hL fun z=>I.ok.oS L z hL
   exact⟨hk,⟨L,_,hf,hn,e,hd⟩,ih (fun b hb=>hs b (by unfold qz;rw[List.filterMap_cons,hf];exact List.mem_cons_of_mem _ hb)) hr⟩
 exact all X.outer (fun _ hb=>hb) I.ok.iH
theorem Inv.stack(I:Inv X pins σ H s):s.heap.FunFrames X.base X.stack:=by
 rcases I.ok.Cj with e| ⟨e,hf⟩
 ·rw[e];exact I.iH
 ·rw[e]
  obtain⟨m,hn,_⟩:=I.loc
  refine .cons (by rw[I.ok.kind];decide) hf hn ?_ I.iH
  exact Heap.get?_none_of_le (Nat.le_trans I.ok.vW I.ok.above)
theorem Inv.oU(I:Inv X pins σ H s):∀b∈qz X.stack,b∈X.env.locals::X.fs:=fun b hb=>by
 rcases I.ok.Cj with e| ⟨e,hf⟩
 ·rw[e] at hb;exact List.mem_cons_of_mem _ hb
 ·rw[e] at hb
  unfold qz at hb
  rw[List.filterMap_cons,hf] at hb
  exact hb
theorem Inv.oV(I:Inv X pins σ H s):∀b∈qz X.stack,H b=none:=fun b hb=>by
 rcases List.mem_cons.mp (I.oU b hb) with e|hb
 ·rw[e];exact I.free
 ·obtain⟨_,o,ho,_⟩:=I.ok.iH.mem hb
  exact I.base.free b o ho (I.ok.xM b hb) fun z=>I.ok.oS b z hb
theorem Inv.step{g':Array GenState}{t':Nat}{d':Drawn}{ch:List Addr}(I:Inv X pins σ H s)
  (xw:∀b∈ch,(b∈X.ex∨X.s₀.heap.objs.size≤b)∧b≠X.env.locals∧(∀x c,X.env.cells.lookup x=some c→c≠b)∧∀p∈X.pn++pins,p.1≠b)
  (keep:∀b o,b≠X.env.locals→b∉X.fs→b∉ch→s.heap.get? b=some o→H b=none→h'.get? b=some o)
  (slot:∀b o,b≠X.env.locals→b∈X.fs→b∉ch→s.heap.get? b=some o→H b=none→∃sl,h'.get? b=some { o with slots:=sl }) (free:∀b o,b∉ch→s.heap.get? b=some o→H b=none→H' b=none)
  (there:∀b o,b∉ch→s.heap.get? b=some o→∃o',h'.get? b=some o')
  (jO:∀b xs,H b=some (.tup xs)→H' b=some (.tup xs)) (jP:∀b o u,H b=some (.iG o u)→H' b=some (.iG o u)) (jQ:∀b ps,H b=some (.Ci ps)→∃more,H' b=some (.Ci (ps++more)))
  (ns:∀m,s.heap.Ns X.env.locals m→h'.Ns X.env.locals m) (bg:gU X.prog X.w H' h') (hg:AllBare g'):
  Inv X pins σ H' { s with heap:=h',gens:=g',drawn:=d',toks:=t' }:=by
 have Ru:∀b o,X.s₀.heap.get? b=some o→b≠X.env.locals:=fun b o e=>Nat.ne_of_lt (Nat.lt_of_lt_of_le (Heap.lt_size e) I.ok.above)
 have Lk:∀b o,X.s₀.heap.get? b=some o→b∉X.ex→b∉ch:=fun b o e hx hb=>by
  rcases (xw b hb).1 with z|z
  ·exact hx z
  ·exact absurd (Nat.lt_of_lt_of_le (Heap.lt_size e) z) (Nat.lt_irrefl _)
 have cellK:∀x c,X.env.cells.lookup x=some c→∀v,s.heap.IsCell c v→h'.IsCell c v:=fun x c e v ⟨o,ho,hd⟩=>by
  have Gu:c∉ch:=fun z=>(xw c z).2.2.1 x c e rfl
  by_cases hc:c∈X.fs
  ·obtain⟨sl,q⟩:=slot c o (I.AE x c e) hc Gu ho (I.eF x c e)
   exact⟨_,q,hd⟩
  ·exact⟨o,keep c o (I.AE x c e) hc Gu ho (I.eF x c e),hd⟩
 refine⟨I.ok,I.os,hg,⟨fun b o e n hb hx=>?_,fun b o e n hb hx=>?_,fun b o e n hx=>?_,fun b o e hx=>?_,fun b xs e=>jO b xs (I.base.jO b xs e),fun b o xs e=>jP b o xs (I.base.jP b o xs e),fun b ps e=>?_⟩,?_,fun x c e=>?_,?_,fun x c e=>?_,fun p hp=>?_,bg,I.len⟩
 ·exact keep b o (Ru b o e) hb (Lk b o e hx) (I.base.keep b o e n hb hx) (I.base.free b o e n hx)
 ·obtain⟨sl,e1⟩:=I.base.slot b o e n hb hx
  obtain⟨Gv,e2⟩:=slot b _ (Ru b o e) hb (Lk b o e hx) e1 (I.base.free b o e n hx)
  exact⟨Gv,e2⟩
 ·obtain⟨o',e1⟩:=I.base.there b o e hx
  exact free b o' (Lk b o e hx) e1 (I.base.free b o e n hx)
 ·obtain⟨o',e1⟩:=I.base.there b o e hx
  exact there b o' (Lk b o e hx) e1
 ·obtain⟨m1,e1⟩:=I.base.jQ b ps e
  obtain⟨m2,e2⟩:=jQ b _ e1
  exact⟨m1++m2,by rw[e2,Array.append_assoc]⟩
 ·obtain⟨m,hn,hl⟩:=I.loc
  refine⟨m,ns m hn,fun i x v e1 e2 e3=>?_⟩
  obtain⟨u,r,l⟩:=hl i x v e1 e2 e3
  refine⟨u,r,?_⟩
  rcases l with l| ⟨k,c,e,z⟩
  ·exact .inl l
  ·exact .inr ⟨k,c,e,cellK x c e _ z⟩
 ·obtain⟨v,z⟩:=I.cell x c e
  exact⟨v,cellK x c e v z⟩
 ·obtain⟨m,⟨o,_,_,ho,_⟩,_⟩:=I.loc
  exact free _ o (fun z=>(xw _ z).2.1 rfl) ho I.free
 ·obtain⟨v,o,ho,hd⟩:=I.cell x c e
  exact free c o (fun z=>(xw c z).2.2.1 x c e rfl) ho (I.eF x c e)
 ·obtain⟨e,n,ne,nf,d⟩:=I.pin p hp
  have Gu:p.1∉ch:=fun z=>(xw p.1 z).2.2.2 p hp rfl
  exact⟨keep p.1 p.2 ne nf Gu e n,free p.1 p.2 Gu e n,ne,nf,d⟩
theorem Inv.un{t':Nat}(I:Inv X pins σ H s)(u:Un X.fs [] H H' s.heap h')(bg:gU X.prog X.w H' h'):Inv X pins σ H' { s with heap:=h',toks:=t' }:=by
 obtain⟨m,⟨o,es,ep,ho,r⟩,_⟩:=id I.loc
 obtain⟨sl,hL⟩:=u.any ho I.free (by simp)
 exact I.step (g':=s.gens) (d':=s.drawn) (ch:=[]) (fun _ z=>nomatch z) (fun b o _ hb _ e n=>u.keep b o e n hb (by simp)) (fun b o _ hb _ e n=>u.slot b o e n hb (by simp)) (fun b o _ e n=>u.free b o e n (by simp)) (fun b o _ e=>u.there b o e (by simp)) u.jO u.jP u.jQ (fun m' hm=>by
  obtain⟨o',Ll,Lm,sP,r'⟩:=hm
  rw[ho] at sP;cases sP
  exact⟨_,Ll,Lm,hL,r'⟩) bg I.bare
theorem Inv.call{g':Array GenState}{t':Nat}{d':Drawn}{ch:List Addr}(I:Inv X pins σ H s)(u:Un (qz X.stack) ch H H' s.heap h')(bg:gU X.prog X.w H' h')(hg:AllBare g')
  (xw:∀b∈ch,(b∈X.ex∨X.s₀.heap.objs.size≤b)∧b≠X.env.locals∧(∀x c,X.env.cells.lookup x=some c→c≠b)∧∀p∈X.pn++pins,p.1≠b):
  Inv X pins σ H' { s with heap:=h',gens:=g',drawn:=d',toks:=t' }:=by
 obtain⟨m,⟨o,es,ep,ho,r⟩,_⟩:=id I.loc
 obtain⟨sl,hL⟩:=u.any ho I.free fun z=>(xw _ z).2.1 rfl
 exact I.step (ch:=ch) xw (fun b o hL hb hc e n=>u.keep b o e n (fun z=>(List.mem_cons.mp (I.oU b z)).elim hL hb) hc) (fun b o _ _ hc e n=>u.any e n hc) (fun b o hc e n=>u.free b o e n hc) (fun b o hc e=>u.there b o e hc) u.jO u.jP u.jQ (fun m' hm=>by
  obtain⟨o',Ll,Lm,sP,r'⟩:=hm
  rw[ho] at sP;cases sP
  exact⟨_,Ll,Lm,hL,r'⟩) bg hg
theorem Inv.turned{t':Nat}{it:Addr}(I:Inv X pins σ H s)(k:∀b o,b≠it→s.heap.get? b=some o→h'.get? b=some o)(hn:H it=none)(hL:it≠X.env.locals)
  (h1:it∈X.ex∨X.s₀.heap.objs.size≤it) (h2:∀x c,X.env.cells.lookup x=some c→c≠it) (h3:∀p∈X.pn++pins,p.1≠it):Inv X pins σ H { s with heap:=h',toks:=t' }:=by
 have Rv:∀b u,H b=some u→b≠it:=fun b u e z=>by rw[z,hn] at e;cases e
 refine I.step (g':=s.gens) (d':=s.drawn) (ch:=[it]) (fun b hb=>?_) (fun b o _ _ hc e _=>k b o (fun z=>hc (by simp [z])) e) (fun b o _ _ hc e _=>⟨o.slots,k b o (fun z=>hc (by simp [z])) e⟩) (fun _ _ _ _ n=>n)
  (fun b o hc e=>⟨o,k b o (fun z=>hc (by simp [z])) e⟩) (fun _ _ e=>e) (fun _ _ _ e=>e) (fun b ps e=>⟨#[],by rw[e];simp⟩) (fun m hm=>?_) (fun b u e=>?_) I.bare
 ·have e:b=it:=by simpa using hb
  subst e
  exact⟨h1,hL,h2,h3⟩
 ·obtain⟨o,es,ep,ho,r⟩:=hm
  exact⟨o,es,ep,k _ o (Ne.symm hL) ho,r⟩
 ·refine(I.bg b u e).oP (fun c v hc q=>k c v ?_ q) (fun _ q=>q) fun _ _ q=>q
  rcases hc with z|z
  ·rw[z];exact Rv b u e
  ·exact Rv c _ z
theorem Inv.tok(I:Inv X pins σ H s)(t:Nat):Inv X pins σ H { s with toks:=t }:=I.un (h':=s.heap) (t':=t) Un.refl I.bg
theorem Inv.kept{t':Nat}(I:Inv X pins σ H s)(k:∀b u,s.heap.get? b=some u→h'.get? b=some u):Inv X pins σ H { s with heap:=h',toks:=t' }:=I.un (Un.kept k) (I.bg.kept k)
theorem Inv.laid{a:Addr}{o:HO}{t':Nat}(I:Inv X pins σ H s)(k:∀b u,s.heap.get? b=some u→h'.get? b=some u)(hp:s.heap.objs.size≤a)(new:bM X.prog X.w (upd H a o) h' a o):
  Inv X pins σ (upd H a o) { s with heap:=h',toks:=t' }:=I.un (Un.laid k hp (I.bg.fresh hp)) (I.bg.laid k hp new)
theorem Inv.write{x e:Addr}{o:HO}{t':Nat}(I:Inv X pins σ H s)(mu:Gq (H x))(he:e=x∨H e=some (.own x))(k:∀b u,b≠e→s.heap.get? b=some u→h'.get? b=some u)(F3:∃u,h'.get? e=some u)
  (new:bM X.prog X.w (upd H x o) h' x o):Inv X pins σ (upd H x o) { s with heap:=h',toks:=t' }:=I.un (Un.write mu he k F3) (I.bg.write mu he k F3 new)
theorem Inv.oW{Ck:List (Addr×Obj)}(I:Inv X pins σ H s)(h:∀p∈Ck,s.heap.get? p.1=some p.2∧H p.1=none∧p.1≠X.env.locals∧p.1∉X.fs∧∀v,p.2.data≠ .cell v):Inv X Ck σ H s:=
 ⟨I.ok,I.os,I.bare,I.base,I.loc,I.cell,I.free,I.eF,fun p hp=>(List.mem_append.mp hp).elim (fun z=>I.pin p (List.mem_append_left _ z)) (h p),I.bg,I.len⟩
theorem lP{N:List Str}(hN:N.Nodup){i j:Nat}{x:Str}(a:N[i]? =some x)(b:N[j]? =some x):i=j:=by
 obtain⟨h1,e1⟩:=List.getElem?_eq_some_iff.mp a
 obtain⟨h2,e2⟩:=List.getElem?_eq_some_iff.mp b
 exact(List.getElem_inj hN).mp (e1.trans e2.symm)
theorem vX{M:Model}{A:Around}{E:Value→Shared→Prop}{i:Nat}{x:Str}{v:V}{u:Value}{Q:Unit→Shared→Prop}(I:Inv X pins σ H s)(hN:X.N.Nodup)(hi:X.N[i]? =some x)(hx:Loc X.env.scope x)(r:RelV v u)
  (h:∀s',Inv X pins (σ.set i (some v)) H s'→(∃a,Heap.SameBut a s.heap s'.heap∧(a=X.env.locals∨X.env.cells.lookup x=some a))→Q () s') (hf:X.fn x=true∨X.env.scope.names.lookup x=some .local:=by first|exact .inl rfl|exact .inr rfl|assumption):wpAny M A (storeName X.env x u) Q E s:=by
 obtain⟨m,hn,hl⟩:=id I.loc
 have Dx:(X.env.scope.kind== .class||(X.env.scope.kind== .module&&X.env.locals != X.env.globals))=false:=by rw[I.ok.kind];rfl
 have Rw:i<σ.length:=by rw[I.len];exact(List.getElem?_eq_some_iff.mp hi).1
 have AE:=I.AE
 have tracked:∀{a:Addr} {h':Heap},(∃o,s.heap.get? a=some o∧H a=none)→Heap.SameBut a s.heap h'→gU X.prog X.w H h':=fun {a h'} ha hs b ob e=>by
  obtain⟨_,_,Cm⟩:=ha
  refine(I.bg b ob e).oP (fun c w' hc q=>(hs.2 c ?_).trans q) (fun _ q=>q) fun _ _ q=>q
  rintro rfl
  rcases hc with rfl|hc
  ·rw[Cm] at e;cases e
  ·rw[Cm] at hc;cases hc
 rcases hx with hk|hk
 ·refine wpAny_storeName_local hk hn (fun h' SD hs=>?_) Dx
  obtain⟨oL,_,_,Rx,_⟩:=id hn
  refine h _ ⟨I.ok,I.os,I.bare,⟨fun b o e n hb hx=>?_,fun b o e n hb hx=>?_,I.base.free,fun b o e hx=>?_,I.base.jO,I.base.jP,I.base.jQ⟩,⟨_,SD,fun j y v' e1 e2 e3=>?_⟩,fun y c e=>?_,I.free,I.eF,fun p hp=>?_,tracked ⟨oL,Rx,I.free⟩ hs,by simpa using I.len⟩ ⟨_,hs, .inl rfl⟩
  ·exact(hs.2 b (Nat.ne_of_lt (Nat.lt_of_lt_of_le (Heap.lt_size e) I.ok.above))).trans (I.base.keep b o e n hb hx)
  ·obtain⟨sl,e1⟩:=I.base.slot b o e n hb hx
   exact⟨sl,(hs.2 b (Nat.ne_of_lt (Nat.lt_of_lt_of_le (Heap.lt_size e) I.ok.above))).trans e1⟩
  ·obtain⟨o',e1⟩:=I.base.there b o e hx
   exact⟨o',(hs.2 b (Nat.ne_of_lt (Nat.lt_of_lt_of_le (Heap.lt_size e) I.ok.above))).trans e1⟩
  ·by_cases hj:j=i
   ·subst hj
    rw[hi] at e1;cases e1
    rw[List.getElem?_set_self Rw] at e2
    cases e2
    exact⟨u,r, .inl ⟨hk,by simp⟩⟩
   ·rw[List.getElem?_set_ne (Ne.symm hj)] at e2
    obtain⟨u',r',q⟩:=hl j y v' e1 e2 e3
    refine⟨u',r',?_⟩
    rcases q with ⟨k,e⟩ | ⟨k,c,e,z⟩
    ·refine .inl ⟨k,?_⟩
     have:y≠x:=fun e=>hj (lP hN e1 (e▸hi))
     simp [this,e]
    ·exact .inr ⟨k,c,e,z.sameBut hs (AE y c e)⟩
  ·obtain⟨w',z⟩:=I.cell y c e
   exact⟨w',z.sameBut hs (AE y c e)⟩
  ·obtain⟨e,n,ne,nf,d⟩:=I.pin p hp
   exact⟨(hs.2 p.1 ne).trans e,n,ne,nf,d⟩
 ·have L9:X.fn x=true:=by
   rcases hf with z|z
   ·exact z
   ·rw[z] at hk;cases hk
  obtain⟨c,hc⟩:=I.ok.has x (.inl hk)
  obtain⟨w',z⟩:=I.cell x c hc
  refine wpAny_storeName_cell I.ok.kind hk hc z (fun h' vY hs=>?_)
  obtain⟨oc,Ry,L'⟩:=id z
  refine h { s with heap:=h' } ⟨I.ok,I.os,I.bare,⟨fun b o e n hb hx=>?_,fun b o e n hb hx=>?_,I.base.free,fun b o e hx=>?_,I.base.jO,I.base.jP,I.base.jQ⟩,⟨m,hn.sameBut hs (Ne.symm (AE x c hc)),fun j y v' e1 e2 e3=>?_⟩,fun y c' e=>?_,I.free,I.eF,fun p hp=>?_,tracked ⟨oc,Ry,I.eF x c hc⟩ hs,by simpa using I.len⟩ ⟨c,hs, .inr hc⟩
  ·exact(hs.2 b (Nat.ne_of_lt (Nat.lt_of_lt_of_le (Heap.lt_size e) (I.ok.AD x c L9 hc)))).trans (I.base.keep b o e n hb hx)
  ·obtain⟨sl,e1⟩:=I.base.slot b o e n hb hx
   exact⟨sl,(hs.2 b (Nat.ne_of_lt (Nat.lt_of_lt_of_le (Heap.lt_size e) (I.ok.AD x c L9 hc)))).trans e1⟩
  ·obtain⟨o',e1⟩:=I.base.there b o e hx
   exact⟨o',(hs.2 b (Nat.ne_of_lt (Nat.lt_of_lt_of_le (Heap.lt_size e) (I.ok.AD x c L9 hc)))).trans e1⟩
  ·by_cases hj:j=i
   ·subst hj
    rw[hi] at e1;cases e1
    rw[List.getElem?_set_self Rw] at e2
    cases e2
    exact⟨u,r, .inr ⟨.inl hk,c,hc,vY⟩⟩
   ·rw[List.getElem?_set_ne (Ne.symm hj)] at e2
    obtain⟨u',r',q⟩:=hl j y v' e1 e2 e3
    refine⟨u',r',?_⟩
    rcases q with q| ⟨k,c',e,z'⟩
    ·exact .inl q
    ·refine .inr ⟨k,c',e,z'.sameBut hs ?_⟩
     rintro rfl
     exact hj (lP hN e1 (I.ok.inj _ _ _ e hc▸hi))
  ·by_cases Ln:c'=c
   ·subst Ln;exact⟨_,vY⟩
   ·obtain⟨w2,z2⟩:=I.cell y c' e
    exact⟨w2,z2.sameBut hs Ln⟩
  ·obtain⟨e,n,ne,nf,d⟩:=I.pin p hp
   refine⟨(hs.2 p.1 ?_).trans e,n,ne,nf,d⟩
   intro q
   rw[q,Ry] at e
   have q':oc=p.2:=Option.some.inj e
   exact d w' (by rw[←q'];exact L')
theorem store_ok{M:Model}{A:Around}{E:Value→Shared→Prop}{i:Nat}{x:Str}{v:V}{u:Value}{Q:Unit→Shared→Prop}(I:Inv X pins σ H s)(hN:X.N.Nodup)(hi:X.N[i]? =some x)(hx:Loc X.env.scope x)(r:RelV v u)
  (h:∀s',Inv X pins (σ.set i (some v)) H s'→Q () s') (hf:X.fn x=true∨X.env.scope.names.lookup x=some .local:=by first|exact .inl rfl|exact .inr rfl|assumption):wpAny M A (storeName X.env x u) Q E s:=
 vX I hN hi hx r (fun s' I' _=>h s' I') hf
theorem Inv.xN{s':Shared}{ch:List Addr}(I:Inv X pins σ H s)(ho:s'.os=s.os)(u:Un (qz X.stack) ch H H' s.heap s'.heap)(bg:gU X.prog X.w H' s'.heap)(hg:AllBare s'.gens)
  (xw:∀b∈ch,(b∈X.ex∨X.s₀.heap.objs.size≤b)∧b≠X.env.locals∧(∀x c,X.env.cells.lookup x=some c→c≠b)∧∀p∈X.pn++pins,p.1≠b):Inv X pins σ H' s':=by
 obtain⟨h',g',d',t',o'⟩:=s'
 have e:o'=s.os:=ho
 subst e
 exact I.call (g':=g') (t':=t') (d':=d') u bg hg xw
end
abbrev XK:=Value→Option Addr→Hp→Prop
abbrev St:=List (Option V)
abbrev VK:=V→Hp→Prop
abbrev TE:=St→Hp→VK→Prop
abbrev TT:=St→Hp→(Bool→Hp→Prop)→Prop
abbrev TA:=St→Hp→(List V→Hp→Prop)→Prop
structure Ends where
 nx:St→Hp→Prop
 rt:VK
 bk:St→Hp→Prop:=fun _ _=>False
 ct:St→Hp→Prop:=fun _ _=>False
abbrev TS:=Ends→St→Hp→Prop
def EP(X:Cx)(pins:List (Addr×Obj))(σ:St)(Q:VK)(u:Value)(s':Shared):Prop:=∃v H',Inv X pins σ H' s'∧RelV v u∧Q v H'
def TP(X:Cx)(pins:List (Addr×Obj))(σ:St)(Q:Bool→Hp→Prop)(b:Bool)(s':Shared):Prop:=∃H',Inv X pins σ H' s'∧Q b H'
def AP(X:Cx)(pins:List (Addr×Obj))(σ:St)(Q:List V→Hp→Prop)(us:List Value)(s':Shared):Prop:=∃vs H',Inv X pins σ H' s'∧Vals vs us∧Q vs H'
def SP(X:Cx)(pins:List (Addr×Obj))(D:Ends)(f:Flow)(s':Shared):Prop:=
 match f with
 | .next=>∃σ' H',Inv X pins σ' H' s'∧D.nx σ' H'
 | .brk=>∃σ' H',Inv X pins σ' H' s'∧D.bk σ' H'
 | .cont=>∃σ' H',Inv X pins σ' H' s'∧D.ct σ' H'
 | .ret u=>∃v σ' H',Inv X pins σ' H' s'∧RelV v u∧D.rt v H'
def PE(X:Cx)(e:Expr)(t:TE):Prop:=
 ∀(pins:List (Addr×Obj)) (s:Shared) (σ:St) (H:Hp) (Q:VK),Inv X pins σ H s→t σ H Q→wpAny (model X.prog X.w) X.A (eval e X.env) (EP X pins σ Q) X.xe s
def PT(X:Cx)(e:Expr)(t:TT):Prop:=
 ∀(pins:List (Addr×Obj)) (s:Shared) (σ:St) (H:Hp) (Q:Bool→Hp→Prop),Inv X pins σ H s→t σ H Q→wpAny (model X.prog X.w) X.A (isTrue e X.env (eval e X.env)) (TP X pins σ Q) X.xe s
def PW(X:Cx)(e:Expr)(t:TT):Prop:=
 ∀(whole:Sem Value) (pins:List (Addr×Obj)) (s:Shared) (σ:St) (H:Hp) (Q:Bool→Hp→Prop),Inv X pins σ H s→t σ H Q→wpAny (model X.prog X.w) X.A (isTrue e X.env whole) (TP X pins σ Q) X.xe s
theorem PW.pt{X:Cx}{e:Expr}{t:TT}(h:PW X e t):PT X e t:=h _
def PA(X:Cx)(es:List Expr)(t:TA):Prop:=
 ∀(pos:Pos) (pins:List (Addr×Obj)) (s:Shared) (σ:St) (H:Hp) (Q:List V→Hp→Prop),Inv X pins σ H s→t σ H Q→wpAny (model X.prog X.w) X.A (spliced (backTo pos (starEach es X.env))) (AP X pins σ Q) X.xe s
def PS(X:Cx)(st:Stmt)(t:TS):Prop:=
 ∀(pins:List (Addr×Obj)) (s:Shared) (σ:St) (H:Hp) (D:Ends),Inv X pins σ H s→t D σ H→wpAny (model X.prog X.w) X.A (exec st X.env) (SP X pins D) X.xe s
def jR(X:Cx)(st:List Stmt)(t:TS):Prop:=
 ∀(pins:List (Addr×Obj)) (s:Shared) (σ:St) (H:Hp) (D:Ends),Inv X pins σ H s→t D σ H→wpAny (model X.prog X.w) X.A (execs st X.env) (SP X pins D) X.xe s
theorem bK{α:Type}{t:Sem α}{Q Q':α→Shared→Prop}{M:Model}{A:Around}{E:Value→Shared→Prop}{s:Shared}(h:wpAny M A t Q E s)(hQ:∀a s,Q a s→Q' a s):wpAny M A t Q' E s:=wpAny_mono h hQ fun _ _ x=>x
end L2
namespace L2
open PySem PySem.Spec PyProof.Rows
section
variable {X:Cx}
inductive RV(i:Nat)(σ:St)(H:Hp)(Q:VK):Prop
 |mk (v:V) (e:σ[i]? =some (some v)) (q:Q v H)
def iU(i:Nat):TE:=fun σ H Q=>RV i σ H Q
def tC(v:V):TE:=fun _ H Q=>Q v H
theorem Dy{i:Nat}{x:Str}{pos:Pos}(hN:X.N[i]? =some x)(hv:L6 X.env.scope x)(hd:(x==("__debug__" :Str))=false:=by decide)(lQ:(x==("__classdict__" :Str))=false:=by decide):PE X (.Name x pos) (iU i):=by
 intro pins s σ H Q I h
 obtain⟨v,e,h⟩:=h
 obtain⟨m,hn,hl⟩:=I.loc
 obtain⟨u,r,l⟩:=hl i x v hN e hv
 have fin:EP X pins σ Q u s:=⟨v,H,I,r,h⟩
 rcases l with ⟨hk,hm⟩ | ⟨hk,c,hc,lR⟩
 ·exact wpAny_Name (wpAny_loadName_local I.ok.kind hk hn hm fin) hd
 ·rcases hk with hk|hk
  ·exact wpAny_Name (wpAny_loadName_cell I.ok.kind hk hc lR fin) hd
  ·exact wpAny_Name (wpAny_loadName_free I.ok.kind hk hc lR fin lQ) hd
theorem aj{i j pos}:PE X (.Constant (.int i) j pos) (tC (.int i)):=fun _ _ _ H _ I h=>wpAny_Constant_int ⟨.int i,H,I.tok _,⟨_,rfl⟩,h⟩
theorem gO{b j pos}:PE X (.Constant (.bool b) j pos) (tC (.bl b)):=fun _ _ _ H _ I h=>Constant_bool ⟨.bl b,H,I,rfl,h⟩
theorem lS{j pos}:PE X (.Constant .none j pos) (tC .cw):=fun _ _ _ H _ I h=>Constant_none ⟨.cw,H,I,rfl,h⟩
theorem ax{x j pos}:PE X (.Constant (.str x) j pos) (tC (.str x)):=fun _ _ _ H _ I h=>Calls.Constant_str ⟨.str x,H,I.tok _,⟨_,rfl⟩,h⟩
def Gl(X:Cx)(x:Str):Prop:=X.env.kindOf x=some .globalImplicit
theorem f'{E:Value→Shared→Prop}{pins:List (Addr×Obj)}{s:Shared}{σ:St}{H:Hp}{x:Str}{u:Value}{pos:Pos}{Q:Value→Shared→Prop}(I:Inv X pins σ H s)(hg:Gl X x)(hm:X.mg x=some u)(h:Q u s)
  (hd:(x==("__debug__" :Str))=false:=by decide):wpAny (model X.prog X.w) X.A (eval (.Name x pos) X.env) Q E s:=
 Calls.Name_function_global I.ok.kind hg (Calls.loadGlobal_global (by rw[I.ok.glob];exact I.mod.glob.keeps I.bk) hm h) hd
theorem oX{E:Value→Shared→Prop}{pins:List (Addr×Obj)}{s:Shared}{σ:St}{H:Hp}{x:Str}{u:Value}{pos:Pos}{Q:Value→Shared→Prop}(I:Inv X pins σ H s)(hg:Gl X x)(hm:X.mg x=none)(hv:bootBuiltins x=some u)(h:Q u s)
  (hn:x≠"__name__" :=by decide) (hd:(x==("__debug__" :Str))=false:=by decide):wpAny (model X.prog X.w) X.A (eval (.Name x pos) X.env) Q E s:=by
 obtain⟨mb,h1,h2⟩:=I.mod.blt
 exact Calls.Name_function_global I.ok.kind hg (Calls.loadGlobal_builtin (by rw[I.ok.glob];exact I.mod.glob.keeps I.bk) hm (by rw[I.ok.blt];exact h1.keeps I.bk) ((h2 x hn).trans hv) h) hd
theorem br{x:Str}{v:V}{u:Value}{pos:Pos}(hg:Gl X x)(hm:X.mg x=some u)(r:RelV v u)(hd:(x==("__debug__" :Str))=false:=by decide):PE X (.Name x pos) (tC v):=
 fun _ _ _ H _ I h=>f' I hg hm ⟨v,H,I,r,h⟩ hd
theorem kR{x:Str}{v:V}{u:Value}{pos:Pos}(hg:Gl X x)(hm:X.mg x=none)(hv:bootBuiltins x=some u)(r:RelV v u)(hn:x≠"__name__" :=by decide)(hd:(x==("__debug__" :Str))=false:=by decide):PE X (.Name x pos) (tC v):=
 fun _ _ _ H _ I h=>oX I hg hm hv ⟨v,H,I,r,h⟩ hn hd
variable {a b:Expr}{ta tb:TE}{pos:Pos}
def PC(X:Cx)(op:CmpOp)(a b:Expr)(t:TE):Prop:=
 ∀(pins:List (Addr×Obj)) (s:Shared) (σ:St) (H:Hp) (Q:VK),Inv X pins σ H s→t σ H Q→
  wpAny (model X.prog X.w) X.A (eval a X.env) (fun v s₁=>wpAny (model X.prog X.w) X.A (eval b X.env) (fun u s₂=>wpAny (model X.prog X.w) X.A (compareOp op v u) (EP X pins σ Q) X.xe s₂) X.xe s₁) X.xe s
theorem xO(b:Expr){op:CmpOp}(h:op≠ .In)(h2:op≠ .NotIn):behindInMarks op b=false:=by
 have e1:(op==CmpOp.In)=false:=by cases op<;>first|rfl|exact absurd rfl h
 have e2:(op==CmpOp.NotIn)=false:=by cases op<;>first|rfl|exact absurd rfl h2
 cases b<;>simp [behindInMarks,e1,e2]
def Ma(ta:TE):TE:=fun σ H Q=>ta σ H fun x H1=>Q (.bl (decide (x= .cw))) H1
theorem RelV.xP{x:V}{v:Value}(r:RelV x v):(v==Value.none)=decide (x= .cw):=by
 cases x with
 |cw=>cases r;rfl
 |bl _=>cases r;rfl
 |int _=>obtain⟨t,rfl⟩:=r;rfl
 |str _=>obtain⟨t,rfl⟩:=r;rfl
 |sO _=>obtain⟨t,rfl⟩:=r;rfl
 |Cg _=>obtain⟨t,rfl⟩:=r;rfl
 |ref _=>cases r;rfl
 |ty _=>cases r;rfl
theorem Dz{j pos'}(ha:PE X a ta):PC X .Is a (.Constant .none j pos') (Ma ta):=by
 intro pins s σ H Q I h
 refine bK (ha pins s σ H _ I h) fun v s1 ⟨x,H1,I1,r1,q1⟩=>?_
 exact Constant_none (is_none_gen ⟨.bl _,H1,I1,by rw[r1.xP];rfl,q1⟩)
def tB(t:TE):TT:=fun σ H Q=>t σ H fun x H1=>∃c,x= .bl c∧Q c H1
theorem DA{op:CmpOp}{t:TE}(h:PC X op a b t)(h1:behindInMarks op b=false:=by first|exact xO _ (by decide) (by decide) |rfl):PT X (.Compare a [op] [b] pos) (tB t):=by
 intro pins s σ H Q I hw
 refine wpAny_isTrue_Compare1 (bK (h pins s σ H _ I hw) fun v s1 h1=>bK h1 fun u s2 h2=>bK h2 fun c s3 ⟨x,H1,I1,r1,q1⟩=>?_) h1
 obtain⟨d,rfl,q⟩:=q1
 cases r1
 exact wpAny_truthy_bool ⟨H1,I1,q⟩
theorem dw{e:Expr}{t:TE}(h:PE X e t)(he:∀whole,isTrue e X.env whole=(do let v←whole;standAt e.pos;holding [v] (truthy v)):=by intro _;rfl):PT X e (tB t):=by
 intro pins s σ H Q I hw
 refine isTrue_plain (bK (h pins s σ H _ I hw) fun v s1 ⟨x,H1,I1,r1,q1⟩=>?_) (he _)
 obtain⟨d,rfl,q⟩:=q1
 cases r1
 exact wpAny_truthy_bool ⟨H1,I1,q⟩
variable {tA Lo:TT}{rest:List Expr}
def AF(t u:TT):TT:=fun σ H Q=>t σ H fun c H1=>if c=true then u σ H1 Q else Q false H1
def SE(t u:TT):TT:=fun σ H Q=>t σ H fun c H1=>if c=true then Q true H1 else u σ H1 Q
def Mb(t:TT):TT:=fun σ H Q=>t σ H fun c H1=>Q (!c) H1
theorem bZ(ha:PT X a tA):PW X (.BoolOp .And [a] pos) tA:=by
 intro wh pins s σ H Q I h
 refine isTrue_and (bK (ha pins s σ H Q I h) fun c s1 e=>?_)
 cases c with
 |true=>exact isTrue_and_nil e
 |false=>exact e
theorem eX(ha:PT X a tA):PW X (.BoolOp .Or [a] pos) tA:=by
 intro wh pins s σ H Q I h
 refine isTrue_or (bK (ha pins s σ H Q I h) fun c s1 e=>?_)
 cases c with
 |false=>exact isTrue_or_nil e
 |true=>exact e
theorem bX(ha:PT X a tA)(hb:PW X (.BoolOp .And (b::rest) pos) Lo):PW X (.BoolOp .And (a::b::rest) pos) (AF tA Lo):=by
 intro wh pins s σ H Q I h
 refine isTrue_and (bK (ha pins s σ H _ I h) fun c s1 ⟨H1,I1,q1⟩=>?_)
 cases c with
 |true=>exact hb wh pins s1 σ H1 Q I1 q1
 |false=>exact⟨H1,I1,q1⟩
theorem fK(ha:PT X a tA)(hb:PW X (.BoolOp .Or (b::rest) pos) Lo):PW X (.BoolOp .Or (a::b::rest) pos) (SE tA Lo):=by
 intro wh pins s σ H Q I h
 refine isTrue_or (bK (ha pins s σ H _ I h) fun c s1 ⟨H1,I1,q1⟩=>?_)
 cases c with
 |true=>exact⟨H1,I1,q1⟩
 |false=>exact hb wh pins s1 σ H1 Q I1 q1
theorem jS(ha:PT X a tA):PT X (.UnaryOp .Not a pos) (Mb tA):=by
 intro pins s σ H Q I h
 exact isTrue_not (ha pins s σ H (fun c H1=>Q (!c) H1) I h)
def Gw(ta tb:TE):TE:=fun σ H Q=>ta σ H fun x H1=>∃c,x= .bl c∧if c=true then tb σ H1 Q else Q (.bl false) H1
def Gx(ta:TE):TE:=fun σ H Q=>ta σ H fun x H1=>∃c,x= .bl c∧Q (.bl (!c)) H1
theorem sQ{op}{t:TE}(h:PE X a t):PE X (.BoolOp op [a] pos) t:=fun pins s σ H Q I hw=>BoolOp_one (h pins s σ H Q I hw)
theorem oY(ha:PE X a ta)(hb:PE X (.BoolOp .And (b::rest) pos) tb):PE X (.BoolOp .And (a::b::rest) pos) (Gw ta tb):=by
 intro pins s σ H Q I h
 refine BoolOp_and (bK (ha pins s σ H _ I h) fun v s1 ⟨x,H1,I1,r1,q1⟩=>?_)
 obtain⟨c,rfl,q1⟩:=q1
 cases r1
 refine wpAny_truthy_bool ?_
 cases c with
 |true=>exact hb pins s1 σ H1 Q I1 q1
 |false=>exact⟨.bl false,H1,I1,rfl,q1⟩
theorem DB(ha:PE X a ta):PE X (.UnaryOp .Not a pos) (Gx ta):=by
 intro pins s σ H Q I h
 refine UnaryOp_ (bK (ha pins s σ H _ I h) fun v s1 ⟨x,H1,I1,r1,q1⟩=>?_)
 obtain⟨c,rfl,q1⟩:=q1
 cases r1
 exact not_of (wpAny_truthy_bool ⟨.bl (!c),H1,I1,rfl,q1⟩)
def SF(t:TT)(ta tb:TE):TE:=fun σ H Q=>t σ H fun c H1=>if c=true then ta σ H1 Q else tb σ H1 Q
theorem qG{c:Expr}(hc:PT X c tA)(ha:PE X a ta)(hb:PE X b tb):PE X (.IfExp c a b pos) (SF tA ta tb):=by
 intro pins s σ H Q I h
 refine wpAny_IfExp (bK (hc pins s σ H _ I h) fun d s1 ⟨H1,I1,q1⟩=>?_)
 cases d with
 |true=>exact ha pins s1 σ H1 Q I1 q1
 |false=>exact hb pins s1 σ H1 Q I1 q1
end
end L2
namespace L2
open PySem PySem.Spec PyProof.Rows
def bF(K:PySem.W.Frag)(H:Hp)(a:Addr)(xs:List V):Prop:=
 Rd H a (.lst xs)∨
  ∃(o:Obj) (its:Array Value) (n:Nat),K.lookup a=some o∧o.cls= .type "list" ∧o.dict=none∧o.data= .seq its n∧its.size≤sizeLine∧Vals xs its.toList
def iI(K:PySem.W.Frag)(H:Hp)(a:Addr)(xs:List V):Prop:=
 Rd H a (.tup xs)∨
  ∃(o:Obj) (its:Array Value) (n:Nat),K.lookup a=some o∧o.cls= .type "tuple" ∧o.data= .seq its n∧its.size≤sizeLine∧Vals xs its.toList
def Mc:Value→Option V
 | .none=>some .cw
 | .bool b=>some (.bl b)
 | .int i _=>some (.int i)
 | .str x _=>some (.str x)
 | .bytes b _=>some (.sO b)
 | .float b _=>some (.Cg b)
 | .ref a=>some (.ref a)
 | .type n=>some (.ty n)
 |_=>none
theorem RelV.abs{x:V}{u:Value}(r:RelV x u):Mc u=some x:=by
 cases x with
 |cw=>cases r;rfl
 |bl _=>cases r;rfl
 |int _=>obtain⟨t,rfl⟩:=r;rfl
 |str _=>obtain⟨t,rfl⟩:=r;rfl
 |sO _=>obtain⟨t,rfl⟩:=r;rfl
 |Cg _=>obtain⟨t,rfl⟩:=r;rfl
 |ref _=>cases r;rfl
 |ty _=>cases r;rfl
theorem RelV.inj{x y:V}{u:Value}(r:RelV x u)(q:RelV y u):x=y:=Option.some.inj (r.abs.symm.trans q.abs)
theorem Vals.inj:∀{xs ys:List V} {us:List Value},Vals xs us→Vals ys us→xs=ys
 |_,_,_, .nil, .nil=>rfl
 |_,_,_, .cons r t, .cons r' t'=>by rw[r.inj r',Vals.inj t t']
section
variable {X:Cx}{pins:List (Addr×Obj)}{σ:St}{H:Hp}{s:Shared}{a:Addr}{xs ys:List V}
theorem bF.of{K:PySem.W.Frag}(h:H a=some (.lst xs)):bF K H a xs:= .inl (.inl h)
theorem iI.of{K:PySem.W.Frag}(h:H a=some (.tup xs)):iI K H a xs:= .inl (.inl h)
theorem Inv.list(I:Inv X pins σ H s)(h:bF X.K H a xs):∃its:List Value,Vals xs its∧PlainL s.heap a its.toArray∧xs.length≤sizeLine:=by
 rcases h with h| ⟨o,its,n,hk,hc,hd,hs,hz,r⟩
 ·obtain⟨z,its,n,r,e⟩:=h.ok I.bg
  exact⟨its,r,⟨_,n,e,rfl,rfl,rfl⟩,z⟩
 ·refine⟨its.toList,r,⟨o,n,I.f9 a o hk,hc,hd,by simpa using hs⟩,?_⟩
  have e:=r.length
  simp only [Array.length_toList] at e
  omega
theorem Inv.tuple(I:Inv X pins σ H s)(h:iI X.K H a xs):∃its:List Value,Vals xs its∧IsTup s.heap a its.toArray∧xs.length≤sizeLine:=by
 rcases h with h| ⟨o,its,n,hk,hc,hs,hz,r⟩
 ·obtain⟨z,its,r,p⟩:=h.ok I.bg
  exact⟨its,r,p,z⟩
 ·refine⟨its.toList,r,⟨o,I.f9 a o hk,hc,n,by simpa using hs⟩,?_⟩
  have e:=r.length
  simp only [Array.length_toList] at e
  omega
theorem Inv.xQ(I:Inv X pins σ H s)(h:bF X.K H a xs)(h':bF X.K H a ys):xs=ys:=by
 obtain⟨its,r,⟨o,n,e,_,_,d⟩,_⟩:=I.list h
 obtain⟨its',r',⟨o',n',e',_,_,d'⟩,_⟩:=I.list h'
 rw[e] at e';cases e'
 rw[d] at d'
 injection d' with d1 _
 have:its=its':=by simpa using congrArg Array.toList d1
 subst this
 exact r.inj r'
end
abbrev Cx.gW(X:Cx)(E:Value→Shared→Prop):Cx:={ X with xe:=E }
abbrev Cx.Av(X:Cx):Cx:=X.gW fun _ _=>False
theorem Cx.Ok.gW{X:Cx}(ok:X.Ok)(E:Value→Shared→Prop):(X.gW E).Ok:=
 ⟨ok.mod,ok.kind,ok.glob,ok.blt,ok.above,ok.inj,ok.has,ok.AD,ok.hd,ok.frames,ok.Cj,ok.F4,ok.bs,ok.vW,ok.oR,ok.oS,ok.iH,ok.xM⟩
theorem Cx.Ok.cP{X:Cx}{E:Value→Shared→Prop}(ok:(X.gW E).Ok):X.Ok:=
 ⟨ok.mod,ok.kind,ok.glob,ok.blt,ok.above,ok.inj,ok.has,ok.AD,ok.hd,ok.frames,ok.Cj,ok.F4,ok.bs,ok.vW,ok.oR,ok.oS,ok.iH,ok.xM⟩
section
variable {X:Cx}{pins:List (Addr×Obj)}{σ:St}{H:Hp}{s:Shared}{E:Value→Shared→Prop}
theorem Inv.gW(I:Inv X pins σ H s)(E:Value→Shared→Prop):Inv (X.gW E) pins σ H s:=⟨I.ok.gW E,I.os,I.bare,I.base,I.loc,I.cell,I.free,I.eF,I.pin,I.bg,I.len⟩
theorem Inv.cP(I:Inv (X.gW E) pins σ H s):Inv X pins σ H s:=⟨I.ok.cP,I.os,I.bare,I.base,I.loc,I.cell,I.free,I.eF,I.pin,I.bg,I.len⟩
theorem SP.cP{D:Ends}{f:Flow}{s':Shared}(h:SP (X.gW E) pins D f s'):SP X pins D f s':=by
 cases f with
 |next=>obtain⟨σ',H',I,q⟩:=h;exact⟨σ',H',I.cP,q⟩
 |brk=>obtain⟨σ',H',I,q⟩:=h;exact⟨σ',H',I.cP,q⟩
 |cont=>obtain⟨σ',H',I,q⟩:=h;exact⟨σ',H',I.cP,q⟩
 |ret u=>obtain⟨v,σ',H',I,r,q⟩:=h;exact⟨v,σ',H',I.cP,r,q⟩
theorem jR.Av{st:List Stmt}{t:TS}(h:jR X.Av st t):jR X st t:=fun pins s σ H D I hw=>
 wpAny_mono (h pins s σ H D (I.gW _) hw) (fun _ _ q=>q.cP) fun _ _ z=>False.elim z
end
section
variable {X:Cx}{st:Stmt}{rest:List Stmt}{t u:TS}{e:Expr}{te:TE}{pos:Pos}
def Gy:TS:=fun D σ H=>D.nx σ H
def AG(t u:TS):TS:=fun D σ H=>t { D with nx:=u D } σ H
theorem aK:jR X [] Gy:=fun _ _ σ H _ I h=>wpAny_execs_nil ⟨σ,H,I,h⟩
theorem ai(h1:PS X st t)(h2:jR X rest u):jR X (st::rest) (AG t u):=by
 intro pins s σ H D I h
 refine wpAny_execs_cons (bK (h1 pins s σ H { D with nx:=u D } I h) fun f s1 q=>?_)
 cases f with
 |next=>
  obtain⟨σ',H',I',q⟩:=q
  exact h2 pins s1 σ' H' D I' q
 |ret v=>exact q
 |brk=>exact q
 |cont=>exact q
theorem aq(h1:PS X st t):jR X [st] t:=by
 intro pins s σ H D I h
 refine wpAny_execs_cons (bK (h1 pins s σ H D I h) fun f s1 q=>?_)
 cases f with
 |next=>exact wpAny_execs_nil q
 |ret v=>exact q
 |brk=>exact q
 |cont=>exact q
theorem Inv.quiet{pins:List (Addr×Obj)}{σ:St}{H:Hp}{s:Shared}(I:Inv X pins σ H s):interactive X.env=false:=by simp [interactive,I.ok.kind]
def Gz(te:TE):TS:=fun D σ H=>te σ H fun _ H1=>D.nx σ H1
theorem bB(he:PE X e te)(hs:swapsWith e none pos.line X.env=pure false:=by rfl):PS X (.Expr e pos) (Gz te):=by
 intro pins s σ H D I h
 exact wpAny_Expr_any (bK (he pins s σ H _ I h) fun v s1 ⟨x,H1,I1,r1,q1⟩=>⟨σ,H1,I1,q1⟩) I.quiet hs
def GA(te:TE):TS:=fun D σ H=>te σ H D.rt
theorem ay(he:PE X e te):PS X (.Return (some e) pos) (GA te):=by
 intro pins s σ H D I h
 exact wpAny_Return_some (bK (he pins s σ H _ I h) fun v s1 ⟨x,H1,I1,r1,q1⟩=>⟨x,σ,H1,I1,r1,q1⟩)
def DC(c:TT)(t u:TS):TS:=fun D σ H=>c σ H fun b H1=>if b=true then t D σ H1 else u D σ H1
theorem aY{c:Expr}{a b:List Stmt}{tc:TT}(hc:PT X c tc)(ha:jR X a t)(hb:jR X b u):PS X (.If c a b pos) (DC tc t u):=by
 intro pins s σ H D I h
 refine wpAny_If (bK (hc pins s σ H _ I h) fun d s1 ⟨H1,I1,q1⟩=>?_)
 cases d with
 |true=>exact ha pins s1 σ H1 D I1 q1
 |false=>exact hb pins s1 σ H1 D I1 q1
end
abbrev TG:=V→St→Hp→(St→Hp→Prop)→Prop
abbrev DD:=List V→St→Hp→(St→Hp→Prop)→Prop
def PG(X:Cx)(target:Expr)(t:TG):Prop:=
 ∀(pins:List (Addr×Obj)) (s:Shared) (σ:St) (H:Hp) (v:V) (u:Value) (Q:St→Hp→Prop),Inv X pins σ H s→RelV v u→t v σ H Q→
  wpAny (model X.prog X.w) X.A (assign target X.env u) (fun _ s'=>∃σ' H',Inv X pins σ' H' s'∧Q σ' H') X.xe s
def GB(X:Cx)(ts:List Expr)(t:DD):Prop:=
 ∀(pins:List (Addr×Obj)) (s:Shared) (σ:St) (H:Hp) (vs:List V) (us:List Value) (Q:St→Hp→Prop),Inv X pins σ H s→Vals vs us→t vs σ H Q→
  wpAny (model X.prog X.w) X.A (assignInOrder ((assignEach ts X.env).map (·.2)) us) (fun _ s'=>∃σ' H',Inv X pins σ' H' s'∧Q σ' H') X.xe s
section
variable {X:Cx}{pos:Pos}
def fL(i:Nat):TG:=fun v σ H Q=>Q (σ.set i (some v)) H
theorem aX{i:Nat}{x:Str}(hN:X.N.Nodup)(hi:X.N[i]? =some x)(hx:Loc X.env.scope x)(hf:X.fn x=true∨X.env.scope.names.lookup x=some .local:=by first|exact .inl rfl|exact .inr rfl|assumption):PG X (.Name x pos) (fL i):=by
 intro pins s σ H v u Q I r h
 exact wpAny_assign_Name (store_ok I hN hi hx r (fun s' I'=>⟨_,H,I',h⟩) hf)
def Md:DD:=fun vs σ H Q=>vs=[]∧Q σ H
def GC(t:TG)(u:DD):DD:=fun vs σ H Q=>∃v r,vs=v::r∧t v σ H fun σ' H'=>u r σ' H' Q
theorem kS:GB X [] Md:=by
 intro pins s σ H vs us Q I r h
 obtain⟨e,h⟩:=h
 subst e
 cases r
 exact assignInOrder_nil ⟨σ,H,I,h⟩
theorem b4{e:Expr}{es:List Expr}{t:TG}{u:DD}(h1:PG X e t)(h2:GB X es u)
  (hs:(assignEach (e::es) X.env).map (·.2)=assign e X.env::(assignEach es X.env).map (·.2):=by rfl):GB X (e::es) (GC t u):=by
 intro pins s σ H vs us Q I r h
 obtain⟨v,vr,e1,h⟩:=h
 subst e1
 cases r with
 |cons r rr=>
  rw[hs]
  refine assignInOrder_cons (bK (h1 pins s σ H _ _ _ I r h) fun _ s1 ⟨σ1,H1,I1,q1⟩=>?_)
  exact h2 pins s1 σ1 H1 _ _ Q I1 rr q1
def Me(K:PySem.W.Frag)(n:Nat)(t:DD):TG:=fun v σ H Q=>∃a xs,v= .ref a∧iI K H a xs∧xs.length=n∧t xs σ H Q
theorem oZ{es:List Expr}{k:Nat}{t:DD}{n:Nat}(hc:X.calm=true)(h:GB X es t)
  (hn:(assignEach es X.env).length=n:=by rfl) (jT:(assignEach es X.env).findIdx? (·.1)=none:=by rfl):PG X (.Tuple es k pos) (Me X.K n t):=by
 intro pins s σ H v u Q I r hw
 obtain⟨a,xs,e1,hq,hl,hw⟩:=hw
 subst e1
 cases r
 obtain⟨its,rv,ht,hz⟩:=I.tuple hq
 refine assign_Tuple_tuple (I.ok.hd hc) ht (by simp [hn,←hl,rv.length]) jT fun h' hx=>?_
 have I1:Inv X pins σ H { s with heap:=h' }:=I.kept (t':=s.toks) fun b o e=>hx b o (Nat.ne_of_lt (Heap.lt_size e)) e
 exact h pins _ σ H xs _ Q I1 (by simpa using rv) hw
def DE(te:TE)(g:TG):TS:=fun D σ H=>te σ H fun x H1=>g x σ H1 D.nx
theorem o5{tg e:Expr}{te:TE}{g:TG}(he:PE X e te)(hg:PG X tg g)(hs:swapsWithSole [tg] e pos.line X.env=pure false:=by rfl)(hw:swappedStores [tg] e X.env=pure none:=by rfl)
  (h1:(assignEach [tg] X.env).map (·.2)=[assign tg X.env]:=by rfl):PS X (.Assign [tg] e pos) (DE te g):=by
 intro pins s σ H D I h
 refine wpAny_Assign_stores (bK (he pins s σ H _ I h) fun v s1 ⟨x,H1,I1,r1,q1⟩=>?_) hs hw
 rw[h1]
 exact bK (hg pins s1 σ H1 x v _ I1 r1 q1) fun _ s2 q=>q
theorem aL{i:Nat}{x:Str}{e:Expr}{te:TE}{pos':Pos}(hN:X.N.Nodup)(hi:X.N[i]? =some x)(hx:Loc X.env.scope x)(he:PE X e te)(hs:swapsWith e (some (.Name x pos')) pos.line X.env=pure false:=by rfl)(hf:X.fn x=true∨X.env.scope.names.lookup x=some .local:=by first|exact .inl rfl|exact .inr rfl|assumption):
  PS X (.Assign [.Name x pos'] e pos) (DE te (fL i)):=by
 intro pins s σ H D I h
 refine wpAny_Assign_Name (bK (he pins s σ H _ I h) fun v s1 ⟨y,H1,I1,r1,q1⟩=>?_) hs
 exact store_ok I1 hN hi hx r1 (fun s2 I2=>⟨_,H1,I2,q1⟩) hf
end
section
variable {X:Cx}{pos:Pos}
def DF(c:TT)(tb:TS):TS:=fun D σ H=>∃W:Nat→St→Hp→Prop,(∃m,W m σ H)∧∀m σ H,W m σ H→
 c σ H fun b H1=>if b=true then∃N:St→Hp→Prop,(∀σ' H',N σ' H'→∃m',m'<m∧W m' σ' H')∧tb { D with nx:=N,ct:=N,bk:=D.nx } σ H1 else D.nx σ H1
theorem gX{c:Expr}{body:List Stmt}{tc:TT}{tb:TS}(hp:PassesOwn (model X.prog X.w) X.A X.env X.xe)(hc:PT X c tc)(hb:jR X body tb):PS X (.While c body [] pos) (DF tc tb):=by
 intro pins s σ H D I h
 obtain⟨W,⟨m0,w0⟩,turn⟩:=h
 refine wpAny_While (codeAny_whileLoop (fun n s'=>∃σ' H',Inv X pins σ' H' s'∧W n σ' H') ?_ m0 ⟨σ,H,I,w0⟩)
 rintro n s1 ⟨σ1,H1,I1,w1⟩
 refine wpAny_passesOwn hp (bK (hc pins s1 σ1 H1 _ I1 (turn n σ1 H1 w1)) fun b s2 ⟨H2,I2,q2⟩=>?_)
 cases b with
 |true=>
  obtain⟨N,hN,q2⟩:=q2
  rw[if_pos rfl]
  refine wpAny_passesOwn hp (bK (hb pins s2 σ1 H2 _ I2 q2) fun f s3 q3=>?_)
  cases f with
  |next=>
   obtain⟨σ3,H3,I3,n3⟩:=q3
   obtain⟨m',hm,w3⟩:=hN σ3 H3 n3
   exact⟨m',hm,σ3,H3,I3,w3⟩
  |cont=>
   obtain⟨σ3,H3,I3,n3⟩:=q3
   obtain⟨m',hm,w3⟩:=hN σ3 H3 n3
   exact⟨m',hm,σ3,H3,I3,w3⟩
  |brk=>exact q3
  |ret v=>exact q3
 |false=>
  rw[if_neg Bool.false_ne_true]
  exact wpAny_execs_nil ⟨σ1,H2,I2,q2⟩
end
structure It where
 go:Nat→Hp→Prop
 vZ:Nat→Hp→V→Hp→Prop
 stop:Nat→Hp→Prop
def i9(X:Cx)(pins:List (Addr×Obj))(H:Hp)(b:Addr):Prop:=
 H b=none∧b≠X.env.locals∧b∉X.fs∧(b∈X.ex∨X.s₀.heap.objs.size≤b)∧(∀x c,X.env.cells.lookup x=some c→c≠b)∧∀p∈X.pn++pins,p.1≠b
theorem Inv.xR{X:Cx}{pins:List (Addr×Obj)}{σ:St}{H H':Hp}{s:Shared}{b:Addr}(I:Inv X pins σ H s)(hb:s.heap.objs.size≤b)(hn:H' b=none):i9 X pins H' b:=by
 refine⟨hn,Nat.ne_of_gt (Nat.lt_of_lt_of_le I.lt hb),I.L8 hb, .inr (Nat.le_trans I.sz hb),fun x c e z=>?_,fun p hp z=>?_⟩
 ·obtain⟨v,q⟩:=I.cell x c e
  exact absurd (Nat.lt_of_lt_of_le q.lt (by rw[z];exact hb)) (Nat.lt_irrefl _)
 ·exact absurd (Nat.lt_of_lt_of_le (Heap.lt_size (I.pin p hp).1) (by rw[z];exact hb)) (Nat.lt_irrefl _)
structure Turn(P:Program)(w:World)(K:PySem.W.Frag)(tg:Expr)(J:It)(fp:List Addr)(it:Addr)(tn:Nat→Heap→Prop):Prop where
 mem:it∈fp
 obj:∀i h,tn i h→∀b∈fp,∃o,h.get? b=some o∧∀v,o.data≠ .cell v
 keep:∀i h h',tn i h→(∀b∈fp,∀o,h.get? b=some o→h'.get? b=some o)→tn i h'
 item:∀(X:Cx),X.prog=P→X.w=w→X.K=K→X.calm=true→∀(i:Nat) (pins:List (Addr×Obj)) (s:Shared) (σ:St) (H:Hp) (E:Value→Shared→Prop),Inv X pins σ H s→(∀b∈fp,i9 X pins H b)→tn i s.heap→J.go i H→
  wpAny (model P w) X.A (pyNext (.ref it)) (fun r s1=>∃u,r=some u∧
   wpAny (model P w) X.A (letOwnedTupleGo tg (.ref it) u) (fun _ s2=>∃x H',Inv X pins σ H' s2∧RelV x u∧J.vZ i H x H'∧tn (i+1) s2.heap∧∀b∈fp,H' b=none) E s1) E s
 done:∀(X:Cx),X.prog=P→X.w=w→X.K=K→X.calm=true→∀(i:Nat) (pins:List (Addr×Obj)) (s:Shared) (σ:St) (H:Hp) (E:Value→Shared→Prop),Inv X pins σ H s→(∀b∈fp,i9 X pins H b)→tn i s.heap→J.stop i H→
  wpAny (model P w) X.A (pyNext (.ref it)) (fun r s1=>r=none∧Inv X pins σ H s1) E s
 self:∀(A:Around) (i:Nat) (s:Shared) (Q:Value→Shared→Prop) (E:Value→Shared→Prop),tn i s.heap→Q (.ref it) s→wpAny (model P w) A (pyIter (.ref it)) Q E s
abbrev TI:=St→Hp→(It→Hp→Prop)→Prop
def RA(X:Cx)(pins:List (Addr×Obj))(σ:St)(tg:Expr)(R:It→Hp→Prop)(Mf:Value)(s2:Shared):Prop:=
 ∃(it:Addr) (fp:List Addr) (tn:Nat→Heap→Prop) (J:It) (H':Hp),Mf= .ref it∧Inv X pins σ H' s2∧Turn X.prog X.w X.K tg J fp it tn∧tn 0 s2.heap∧(∀b∈fp,i9 X pins H' b)∧R J H'
def PI(X:Cx)(tg iter:Expr)(wi:TI):Prop:=
 ∀(pins:List (Addr×Obj)) (s:Shared) (σ:St) (H:Hp) (R:It→Hp→Prop),Inv X pins σ H s→wi σ H R→
  wpAny (model X.prog X.w) X.A (eval iter X.env) (fun v s1=>wpAny (model X.prog X.w) X.A (pyIter v) (RA X pins σ tg R) X.xe s1) X.xe s
theorem um{M:Model}{A:Around}{E:Value→Shared→Prop}{s:Shared}{tg:Expr}{it:Addr}{u:Value}{o:Obj}{n:String}{vs:Array Value}{Q:Unit→Shared→Prop}(ho:s.heap.get? it=some o)(hc:o.cls= .type n)(hd:o.data= .fields vs)
  (hn:["enumerate","zip","dict_itemiterator","dict_reverseitemiterator","odict_iterator","itertools.zip_longest","itertools.pairwise"].contains n=false) (hQ:Q () s):wpAny M A (letOwnedTupleGo tg (.ref it) u) Q E s:=by
 unfold letOwnedTupleGo
 cases tg<;>first
  |exact wpAny_pure hQ
  | (cases u<;>first
    |exact wpAny_pure hQ
    | (refine wpAny_bind (wpAny_load ho ?_)
       rw[hc,hd]
       show wpAny M A (if (["enumerate","zip","dict_itemiterator","dict_reverseitemiterator","odict_iterator","itertools.zip_longest","itertools.pairwise"].contains n&&vs[0]? ==some (rawInt _))=true then _ else _) Q E s
       rw[if_neg (by intro h;rw[hn,Bool.false_and] at h;cases h)]
       exact wpAny_pure hQ))
def Cn(K:PySem.W.Frag)(a:Addr):It:=
 ⟨fun i H=>∃xs x,bF K H a xs∧xs[i]? =some x,fun i H x H'=>H'=H∧∀xs,bF K H a xs→xs[i]? =some x,fun i H=>∃xs,bF K H a xs∧xs.length≤i⟩
def F5(lo:Int)(n:Nat):It:=⟨fun i _=>i<n,fun i H x H'=>H'=H∧x= .int (lo+i),fun i _=>n≤i⟩
theorem v8{P:Program}{w:World}{K:PySem.W.Frag}{tg:Expr}(a it:Addr):Turn P w K tg (Cn K a) [it] it (fun i h=>h.IsListIter it a i) where
 mem:=by simp
 obj:=fun i h st b hb=>by
  have e:b=it:=by simpa using hb
  subst e
  obtain⟨o,e,c,d⟩:=st
  exact⟨o,e,fun v z=>by rw[d] at z;cases z⟩
 keep:=fun i h h' st k=>st.at fun o e=>k it (by simp) o e
 item:=by
  intro X hP hw hK hc i pins s σ H E I hf st hg
  subst hP hw hK
  obtain⟨xs,x,hq,hx⟩:=hg
  obtain⟨its,rv,p,hz⟩:=I.list hq
  obtain⟨u,hu,ru⟩:=rv.get hx
  obtain⟨f0,f1,f2,f3,f4,f5⟩:=hf it (by simp)
  refine wpAny_pyNext_list_item st p.isList (x:=u) (by simpa using hu) fun h' xx sb=>?_
  have I1:Inv X pins σ H { s with heap:=h' }:=I.turned (t':=s.toks) (fun b o hb e=>(sb.2 b hb).trans e) f0 f1 f3 f4 f5
  obtain⟨o,e,c,d⟩:=id xx
  exact⟨u,rfl,um (s:={ s with heap:=h' }) e c d (by decide) ⟨x,H,I1,ru,⟨rfl,fun ys hy=>by rw[I.xQ hy hq];exact hx⟩,xx,fun b hb=>(hf b hb).1⟩⟩
 done:=by
  intro X hP hw hK hc i pins s σ H E I hf st hg
  subst hP hw hK
  obtain⟨xs,hq,hx⟩:=hg
  obtain⟨its,rv,p,hz⟩:=I.list hq
  obtain⟨f0,f1,f2,f3,f4,f5⟩:=hf it (by simp)
  have hl:=rv.length
  exact wpAny_pyNext_list_end (I.ok.hd hc) st p.isList (by simp;omega) fun h' eb=>⟨rfl,I.turned (t':=s.toks) (fun b o hb e=>eb b o hb e) f0 f1 f3 f4 f5⟩
 self:=fun _ _ _ _ _ st h=>wpAny_pyIter_listiter st h
theorem sR{P:Program}{w:World}{K:PySem.W.Frag}{tg:Expr}(it:Addr)(lo:Int)(n:Nat):Turn P w K tg (F5 lo n) [it] it (fun i h=>IsRangeIter h it (lo+(i:Nat)*1) ((n:Int) - (i:Nat)) 1) where
 mem:=by simp
 obj:=fun i h st b hb=>by
  have e:b=it:=by simpa using hb
  subst e
  exact⟨_,st,fun v z=>by
   have z':Data.fields _=Data.cell v:=z
   cases z'⟩
 keep:=fun i h h' st k=>k it (by simp) _ st
 item:=by
  intro X hP hw hK hc i pins s σ H E I hf st hg
  subst hP hw hK
  obtain⟨f0,f1,f2,f3,f4,f5⟩:=hf it (by simp)
  have W:=Walks.range (prog:=X.prog) (w:=X.w) (I.ok.hd hc) it lo 1 n
  refine W.item i s _ _ hg st fun v h' tk hv xx kk=>?_
  obtain⟨t,rfl⟩:=hv
  have I1:Inv X pins σ H { s with heap:=h',toks:=tk }:=I.turned (fun b o hb e=>kk b o (by simpa using hb) e) f0 f1 f3 f4 f5
  refine⟨_,rfl,um (s:={ s with heap:=h',toks:=tk }) (n:="range_iterator") xx rfl rfl (by decide) ⟨.int (lo+i),H,I1,⟨t,?_⟩,⟨rfl,rfl⟩,xx,fun b hb=>(hf b hb).1⟩⟩
  rw[Int.mul_one]
 done:=by
  intro X hP hw hK hc i pins s σ H E I hf st hg
  subst hP hw hK
  obtain⟨f0,f1,f2,f3,f4,f5⟩:=hf it (by simp)
  exact wpAny_pyNext_range_end (I.ok.hd hc) st (by have:n≤i:=hg;omega) fun h' eb=>⟨rfl,I.turned (t':=s.toks) (fun b o hb e=>eb b o hb e) f0 f1 f3 f4 f5⟩
 self:=fun _ _ _ _ _ st h=>wpAny_pyIter_rangeiter st h
end L2
namespace L2
open PySem PySem.Spec PyProof.Rows
section
variable {X:Cx}{tg:Expr}
def GD(K:PySem.W.Frag)(tl:TE):TI:=fun σ H R=>tl σ H fun x H1=>∃a,x= .ref a∧(∃xs,bF K H1 a xs)∧R (Cn K a) H1
theorem eK{l:Expr}{tl:TE}(hl:PE X l tl):PI X tg l (GD X.K tl):=by
 intro pins s σ H R I h
 refine bK (hl pins s σ H _ I h) fun v s1 ⟨x,H1,I1,r1,q1⟩=>?_
 obtain⟨a,e,⟨xs,hq⟩,q⟩:=q1
 subst e
 cases r1
 obtain⟨its,rv,p,hz⟩:=I1.list hq
 refine wpAny_pyIter_list p.isList ?_
 refine⟨s1.heap.objs.size,[s1.heap.objs.size],_,_,H1,rfl,I1.kept (t':=s1.toks) fun b o e=>Heap.get?_push_of_some _ e,v8 a _,⟨_,Heap.get?_push_size _ rfl,rfl,rfl⟩,fun b hb=>?_,q⟩
 have e:b=s1.heap.objs.size:=by simpa using hb
 subst e
 exact I1.xR (Nat.le_refl _) (I1.bg.fresh (Nat.le_refl _))
theorem xS{pins:List (Addr×Obj)}{σ:St}{H:Hp}{s:Shared}{R:It→Hp→Prop}{E:Value→Shared→Prop}{lo hi:Int}{t u v:Tok}{tk:Nat}(I:Inv X pins σ H s)(h1: -(2^62)≤lo)(h2:lo<2^62)(h3: -(2^62)≤hi)(h4:hi<2^62)
  (q:R (F5 lo (hi - lo).toNat) H):wpAny (model X.prog X.w) X.A (pyIter (.ref s.heap.objs.size)) (RA X pins σ tg R) E { s with heap:=s.heap.push { cls:= .type "range",data:= .fields #[.int lo t, .int hi u, .int 1 v] },toks:=tk }:=by
 refine wpAny_pyIter_range (IsRange.new ..) (small_one h1 h2 h3 h4) ?_
 have I1:Inv X pins σ H { s with heap:=s.heap.push { cls:= .type "range",data:= .fields #[.int lo t, .int hi u, .int 1 v] },toks:=tk }:=I.kept fun b o e=>Heap.get?_push_of_some _ e
 refine⟨(s.heap.push { cls:= .type "range",data:= .fields #[.int lo t, .int hi u, .int 1 v] }).objs.size,[(s.heap.push { cls:= .type "range",data:= .fields #[.int lo t, .int hi u, .int 1 v] }).objs.size],_,_,H,rfl,
  I1.kept (t':=tk) fun b o e=>Heap.get?_push_of_some _ e,sR _ lo (hi - lo).toNat,?_,fun b hb=>?_,q⟩
 ·have e1:lo+((0 :Nat):Int)*1=lo:=by simp
  have e2:(((hi - lo).toNat:Nat):Int) - ((0 :Nat):Int)=Builtin.Range.rangeSize lo hi 1:=by rw[rangeSize_one];split<;>omega
  show IsRangeIter _ _ (lo+((0 :Nat):Int)*1) ((((hi - lo).toNat:Nat):Int) - ((0 :Nat):Int)) 1
  rw[e1,e2]
  exact Heap.get?_push_size _ rfl
 ·have e:b=(s.heap.push { cls:= .type "range",data:= .fields #[.int lo t, .int hi u, .int 1 v] }).objs.size:=by simpa using hb
  subst e
  exact I1.xR (Nat.le_refl _) (I1.bg.fresh (Nat.le_refl _))
def GF(ta:TA):TI:=fun σ H R=>ta σ H fun vs H1=>∃j:Int,vs=[.int j]∧ -(2^62)≤j∧j<2^62∧R (F5 0 j.toNat) H1
theorem fM{a:Expr}{ta:TA}{p pos:Pos}(hg:Gl X "range")(hm:X.mg "range" =none)(ha:PA X [a] ta)(hs:starEach [a] X.env=[(false,eval a X.env)]:=by rfl):PI X tg (.Call (.Name "range" p) [a] [] pos) (GF ta):=by
 intro pins s σ H R I h
 refine Call_ (oX I hg hm boot_range (PyProof.Rows.callWith_type1 (bK (ha pos pins s σ H _ I h) fun us s1 ⟨vs,H1,I1,r1,q1⟩=>?_) hs rfl))
 obtain⟨j,e,q1,q2,q⟩:=q1
 subst e
 cases r1 with
 |cons r rr=>
  cases rr
  obtain⟨t,rfl⟩:=r
  exact call_range_1 (xS I1 (by omega) (by omega) q1 q2 (by simpa using q))
def GG(wi:TI)(g:TG)(tb:TS):TS:=fun D σ H=>wi σ H fun J H1=>∃W:Nat→Nat→St→Hp→Prop,(∃m,W 0 m σ H1)∧∀i m σ H,W i m σ H→
 (J.stop i H∧D.nx σ H)∨(J.go i H∧∃N:St→Hp→Prop,(∀σ' H',N σ' H'→∃m',m'<m∧W (i+1) m' σ' H')∧∀x H',J.vZ i H x H'→g x σ H' fun σ2 H2=>tb { D with nx:=N,ct:=N,bk:=D.nx } σ2 H2)
def lT(fp:List Addr)(h:Heap):List (Addr×Obj):=fp.filterMap fun b=>(h.get? b).map fun o=>(b,o)
theorem gf{fp:List Addr}{h:Heap}{b:Addr}{o:Obj}(hb:b∈fp)(e:h.get? b=some o):(b,o)∈lT fp h:=List.mem_filterMap.mpr ⟨b,hb,by rw[e];rfl⟩
theorem wa{fp:List Addr}{h:Heap}{p:Addr×Obj}(hp:p∈lT fp h):p.1∈fp∧h.get? p.1=some p.2:=by
 obtain⟨b,hb,e⟩:=List.mem_filterMap.mp hp
 cases q:h.get? b with
 |none=>rw[q] at e;cases e
 |some o=>
  rw[q] at e
  have e':(b,o)=p:=Option.some.inj e
  subst e'
  exact⟨hb,q⟩
theorem Inv.pinned{pins:List (Addr×Obj)}{σ:St}{H:Hp}{s:Shared}{fp:List Addr}(I:Inv X pins σ H s)(hf:∀b∈fp,i9 X pins H b)(ho:∀b∈fp,∃o,s.heap.get? b=some o∧∀v,o.data≠ .cell v):Inv X (pins++lT fp s.heap) σ H s:=
 I.oW fun p hp=>(List.mem_append.mp hp).elim (fun z=>I.pin p (List.mem_append_right _ z)) fun z=>by
   obtain⟨hb,e⟩:=wa z
   obtain⟨f0,f1,f2,_⟩:=hf p.1 hb
   obtain⟨o,e',d⟩:=ho p.1 hb
   rw[e] at e';cases e'
   exact⟨e,f0,f1,f2,d⟩
theorem Inv.eh{pins pl:List (Addr×Obj)}{σ:St}{H:Hp}{s:Shared}(I:Inv X (pins++pl) σ H s):Inv X pins σ H s:=I.oW fun p hp=>I.pin p (List.mem_append_right _ (List.mem_append_left _ hp))
theorem eA{iter:Expr}{body:List Stmt}{wi:TI}{g:TG}{tb:TS}{pos:Pos}(hp:PassesOwn (model X.prog X.w) X.A X.env X.xe)(hc:X.calm=true)(hi:PI X tg iter wi)(hg:PG X tg g)(hb:jR X body tb)
  (hs:∀x,foldedSetIterable iter X.env x=pure x:=by intro _;rfl):PS X (.For tg iter body [] pos) (GG wi g tb):=by
 intro pins s σ H D I h
 refine wpAny_For (bK (hi pins s σ H _ I h) fun v s1 h1=>bK h1 fun Mf s2 h2=>?_) hs
 obtain⟨it,fp,tn,J,H2,e,I2,T,DG,f2,W,⟨m0,w0⟩,turn⟩:=h2
 subst e
 have sS:∀{H':Hp},(∀b∈fp,H' b=none)→∀b∈fp,i9 X pins H' b:=fun hn b hb=>⟨hn b hb,(f2 b hb).2⟩
 refine codeAny_forLoop_any (fun n s'=>∃i σ' H',Inv X pins σ' H' s'∧tn i s'.heap∧(∀b∈fp,H' b=none)∧W i n σ' H') ?_ m0 ⟨0,σ,H2,I2,DG,fun b hb=>(f2 b hb).1,w0⟩
 rintro n s3 ⟨i,σ3,H3,I3,Lp,RB,w3⟩
 rcases turn i n σ3 H3 w3 with ⟨stop,qn⟩ | ⟨go,N,hN,step⟩
 ·refine wpAny_passesOwn hp (bK (T.done X rfl rfl rfl hc i pins s3 σ3 H3 X.xe I3 (sS RB) Lp stop) fun r s4 ⟨hr,I4⟩=>?_)
  subst hr
  exact wpAny_execs_nil ⟨σ3,H3,I4,qn⟩
 ·refine wpAny_passesOwn hp (bK (T.item X rfl rfl rfl hc i pins s3 σ3 H3 X.xe I3 (sS RB) Lp go) fun r s4 ⟨u,hr,h4⟩=>?_)
  subst hr
  refine wpAny_passesOwn hp (bK h4 fun _ s5 ⟨x,H5,I5,r5,y5,Mg,SH⟩=>?_)
  have SI:=I5.pinned (sS SH) (T.obj _ _ Mg)
  refine wpAny_passesOwn hp (bK (hg _ s5 σ3 H5 x u _ SI r5 (step x H5 y5)) fun _ s6 ⟨σ6,H6,I6,q6⟩=>?_)
  refine wpAny_passesOwn hp (bK (hb _ s6 σ6 H6 _ I6 q6) fun f s7 q7=>?_)
  have again:∀{σ7:St} {H7:Hp},Inv X (pins++lT fp s5.heap) σ7 H7 s7→N σ7 H7→∃m,m<n∧∃i σ' H',Inv X pins σ' H' s7∧tn i s7.heap∧(∀b∈fp,H' b=none)∧W i m σ' H':=fun {σ7 H7} I7 n7=>by
   obtain⟨m',hm,w7⟩:=hN σ7 H7 n7
   refine⟨m',hm,i+1,σ7,H7,I7.eh,T.keep _ _ _ Mg fun b hb o e=>(I7.pin (b,o) (List.mem_append_right _ (List.mem_append_right _ (gf hb e)))).1,fun b hb=>?_,w7⟩
   obtain⟨o,e,d⟩:=T.obj _ _ Mg b hb
   exact(I7.pin (b,o) (List.mem_append_right _ (List.mem_append_right _ (gf hb e)))).2.1
  cases f with
  |next=>obtain⟨σ7,H7,I7,n7⟩:=q7;exact again I7 n7
  |cont=>obtain⟨σ7,H7,I7,n7⟩:=q7;exact again I7 n7
  |brk=>obtain⟨σ7,H7,I7,q7⟩:=q7;exact⟨σ7,H7,I7.eh,q7⟩
  |ret v=>obtain⟨x7,σ7,H7,I7,r7,q7⟩:=q7;exact⟨x7,σ7,H7,I7.eh,r7,q7⟩
end
theorem i'{K:PySem.W.Frag}{a:Addr}{xs:List V}{g:TG}{tb:TS}{D:Ends}{σ:St}{H:Hp}(Pv:Nat→St→Hp→Prop)(h0:Pv 0 σ H)(hl:∀i σ H,i≤xs.length→Pv i σ H→bF K H a xs)
  (hs:∀i x σ H,xs[i]? =some x→Pv i σ H→g x σ H fun σ2 H2=>tb { D with nx:=Pv (i+1),ct:=Pv (i+1),bk:=D.nx } σ2 H2) (hd:∀σ H,Pv xs.length σ H→D.nx σ H):
  ∃W:Nat→Nat→St→Hp→Prop,(∃m,W 0 m σ H)∧∀i m σ H,W i m σ H→
   ((Cn K a).stop i H∧D.nx σ H)∨((Cn K a).go i H∧∃N:St→Hp→Prop,(∀σ' H',N σ' H'→∃m',m'<m∧W (i+1) m' σ' H')∧∀x H',(Cn K a).vZ i H x H'→g x σ H' fun σ2 H2=>tb { D with nx:=N,ct:=N,bk:=D.nx } σ2 H2):=by
 refine⟨fun i m σ H=>m=xs.length - i∧i≤xs.length∧Pv i σ H,⟨xs.length,by simp,Nat.zero_le _,h0⟩,?_⟩
 rintro i m σ H ⟨rfl,hi,p⟩
 have q:=hl i σ H hi p
 by_cases F6:i<xs.length
 ·refine .inr ⟨⟨xs,xs[i],q,by simp [F6]⟩,Pv (i+1),fun σ' H' p'=>⟨xs.length - (i+1),by omega,rfl,F6,p'⟩,fun x H' y=>?_⟩
  obtain⟨e,y⟩:=y
  subst e
  exact hs i x σ _ (y xs q) p
 ·have e:i=xs.length:=by omega
  subst e
  exact .inl ⟨⟨xs,q,Nat.le_refl _⟩,hd σ H p⟩
theorem fN{lo:Int}{n:Nat}{g:TG}{tb:TS}{D:Ends}{σ:St}{H:Hp}(Pv:Nat→St→Hp→Prop)(h0:Pv 0 σ H)
  (hs:∀i σ H,i<n→Pv i σ H→g (.int (lo+i)) σ H fun σ2 H2=>tb { D with nx:=Pv (i+1),ct:=Pv (i+1),bk:=D.nx } σ2 H2) (hd:∀σ H,Pv n σ H→D.nx σ H):
  ∃W:Nat→Nat→St→Hp→Prop,(∃m,W 0 m σ H)∧∀i m σ H,W i m σ H→
   ((F5 lo n).stop i H∧D.nx σ H)∨((F5 lo n).go i H∧∃N:St→Hp→Prop,(∀σ' H',N σ' H'→∃m',m'<m∧W (i+1) m' σ' H')∧∀x H',(F5 lo n).vZ i H x H'→g x σ H' fun σ2 H2=>tb { D with nx:=N,ct:=N,bk:=D.nx } σ2 H2):=by
 refine⟨fun i m σ H=>m=n - i∧i≤n∧Pv i σ H,⟨n,by simp,Nat.zero_le _,h0⟩,?_⟩
 rintro i m σ H ⟨rfl,hi,p⟩
 by_cases F6:i<n
 ·refine .inr ⟨F6,Pv (i+1),fun σ' H' p'=>⟨n - (i+1),by omega,rfl,F6,p'⟩,fun x H' y=>?_⟩
  obtain⟨e,y⟩:=y
  subst e y
  exact hs i σ _ F6 p
 ·have e:i=n:=by omega
  subst e
  exact .inl ⟨Nat.le_refl _,hd σ H p⟩
end L2
namespace L2
open PySem PySem.Spec PyProof.Rows
abbrev R2:=V→V→Hp→VK→Prop
def jM(X:Cx)(f:Value→Value→Sem Value)(r:R2):Prop:=
 ∀(pins:List (Addr×Obj)) (s:Shared) (σ:St) (H:Hp) (x y:V) (v u:Value) (Q:VK),Inv X pins σ H s→RelV x v→RelV y u→r x y H Q→
  wpAny (model X.prog X.w) X.A (f v u) (EP X pins σ Q) X.xe s
def Mh(X:Cx)(f:Value→Sem Value)(r:V→Hp→VK→Prop):Prop:=
 ∀(pins:List (Addr×Obj)) (s:Shared) (σ:St) (H:Hp) (x:V) (v:Value) (Q:VK),Inv X pins σ H s→RelV x v→r x H Q→
  wpAny (model X.prog X.w) X.A (f v) (EP X pins σ Q) X.xe s
def gP(X:Cx)(f:Value)(r:List V→Hp→VK→Prop):Prop:=
 ∀(pins:List (Addr×Obj)) (s:Shared) (σ:St) (H:Hp) (xs:List V) (us:List Value) (Q:VK),Inv X pins σ H s→Vals xs us→r xs H Q→
  wpAny (model X.prog X.w) X.A (call f us) (EP X pins σ Q) X.xe s
def Mi(X:Cx)(r:V→Hp→(Bool→Hp→Prop)→Prop):Prop:=
 ∀(pins:List (Addr×Obj)) (s:Shared) (σ:St) (H:Hp) (x:V) (v:Value) (Q:Bool→Hp→Prop),Inv X pins σ H s→RelV x v→r x H Q→
  wpAny (model X.prog X.w) X.A (truthy v) (TP X pins σ Q) X.xe s
def xy(r:R2)(ta tb:TE):TE:=fun σ H Q=>ta σ H fun x H1=>tb σ H1 fun y H2=>r x y H2 Q
def SJ(r:V→Hp→VK→Prop)(ta:TE):TE:=fun σ H Q=>ta σ H fun x H1=>r x H1 Q
inductive RI(C:Int→Int→Prop)(g:Int→Int→V)(x y:V)(H:Hp)(Q:VK):Prop
 |mk (i j:Int) (e:x= .int i) (f:y= .int j) (c:C i j) (q:Q (g i j) H)
def rI(C:Int→Int→Prop)(g:Int→Int→V):R2:=RI C g
inductive RJ(g:Int→Int→V)(x y:V)(H:Hp)(Q:VK):Prop
 |mk (i j:Int) (e:x= .int i) (f:y= .int j) (q:Q (g i j) H)
def xT(g:Int→Int→V):R2:=RJ g
def rU(g:Int→V):V→Hp→VK→Prop:=fun x H Q=>∃i,x= .int i∧Q (g i) H
section
variable {X:Cx}{a b c:Expr}{ta tb tc:TE}{pos:Pos}
theorem DH(ha:PE X a ta)(hb:PE X b tb){pins:List (Addr×Obj)}{s:Shared}{σ:St}{H:Hp}{R:V→V→Hp→Prop}(I:Inv X pins σ H s)
  (h:ta σ H fun x H1=>tb σ H1 fun y H2=>R x y H2) {Q:Value→Shared→Prop} {f:Value→Value→Sem Value}
  (hf:∀v u s2 x y H2,Inv X pins σ H2 s2→RelV x v→RelV y u→R x y H2→wpAny (model X.prog X.w) X.A (f v u) Q X.xe s2):
  wpAny (model X.prog X.w) X.A (eval a X.env) (fun v s₁=>wpAny (model X.prog X.w) X.A (eval b X.env) (fun u s₂=>wpAny (model X.prog X.w) X.A (f v u) Q X.xe s₂) X.xe s₁) X.xe s:=by
 refine bK (ha pins s σ H _ I h) fun v s1 ⟨x,H1,I1,r1,q1⟩=>?_
 refine bK (hb pins s1 σ H1 _ I1 q1) fun u s2 ⟨y,H2,I2,r2,q2⟩=>?_
 exact hf v u s2 x y H2 I2 r1 r2 q2
theorem aw{op:Operator}{r:R2}(ho:jM X (binaryOp op) r)(ha:PE X a ta)(hb:PE X b tb):PE X (.BinOp a op b pos) (xy r ta tb):=by
 intro pins s σ H Q I h
 exact wpAny_BinOp (DH ha hb I h fun v u s2 x y H2 I2 rx ry q=>ho pins s2 σ H2 x y v u Q I2 rx ry q)
theorem kz{op:UnaryOp}{r:V→Hp→VK→Prop}(ho:Mh X (unaryOp op) r)(ha:PE X a ta):PE X (.UnaryOp op a pos) (SJ r ta):=by
 intro pins s σ H Q I h
 exact UnaryOp_ (bK (ha pins s σ H _ I h) fun v s1 ⟨x,H1,I1,r1,q1⟩=>ho pins s1 σ H1 x v Q I1 r1 q1)
theorem Lq{f:Value→Value→Sem Value}{C:Int→Int→Prop}{g:Int→Int→Int}
  (rule:∀(i j:Int) (t u:Tok) (s:Shared) (Q:Value→Shared→Prop) (E:Value→Shared→Prop),C i j→Q (.int (g i j) s.toks) { s with toks:=s.toks+1 }→wpAny (model X.prog X.w) X.A (f (.int i t) (.int j u)) Q E s):
  jM X f (rI C fun i j=> .int (g i j)):=by
 intro pins s σ H x y v u Q I rx ry h
 obtain⟨i,j,rfl,rfl,hc,q⟩:=h
 obtain⟨t,rfl⟩:=rx
 obtain⟨t',rfl⟩:=ry
 exact rule i j t t' s _ _ hc ⟨.int (g i j),H,I.tok _,⟨_,rfl⟩,q⟩
theorem GH{f:Value→Value→Sem Value}{g:Int→Int→Int}
  (rule:∀(i j:Int) (t u:Tok) (s:Shared) (Q:Value→Shared→Prop) (E:Value→Shared→Prop),Q (.int (g i j) s.toks) { s with toks:=s.toks+1 }→wpAny (model X.prog X.w) X.A (f (.int i t) (.int j u)) Q E s):
  jM X f (xT fun i j=> .int (g i j)):=by
 intro pins s σ H x y v u Q I rx ry h
 obtain⟨i,j,rfl,rfl,q⟩:=h
 obtain⟨t,rfl⟩:=rx
 obtain⟨t',rfl⟩:=ry
 exact rule i j t t' s _ _ ⟨.int (g i j),H,I.tok _,⟨_,rfl⟩,q⟩
theorem AH{f:Value→Value→Sem Value}{g:Int→Int→Bool}
  (rule:∀(i j:Int) (t u:Tok) (s:Shared) (Q:Value→Shared→Prop) (E:Value→Shared→Prop),Q (.bool (g i j)) s→wpAny (model X.prog X.w) X.A (f (.int i t) (.int j u)) Q E s):
  jM X f (xT fun i j=> .bl (g i j)):=by
 intro pins s σ H x y v u Q I rx ry h
 obtain⟨i,j,rfl,rfl,q⟩:=h
 obtain⟨t,rfl⟩:=rx
 obtain⟨t',rfl⟩:=ry
 exact rule i j t t' s _ _ ⟨.bl (g i j),H,I,rfl,q⟩
def Mj(i j:Int):Prop:=0<j∧j<1073741824
def Ml(i j:Int):Prop:=0≤j∧j≤1000000∧i.natAbs<2^64
def wb(i j:Int):Prop:=(-(2^64) <i∧i<2^64)∨(-(2^64) <j∧j<2^64)
theorem wb.ok{i j:Int}(h:wb i j):IntMulOk i j:=by
 rcases h with ⟨h1,h2⟩ | ⟨h1,h2⟩
 ·exact .of_left (intBits_le_64 h1 h2)
 ·exact .of_right (intBits_le_64 h1 h2)
theorem cf:jM X (binaryOp .Add) (xT fun i j=> .int (i+j)):=GH fun _ _ _ _ _ _ _ q=>add_int q
theorem jU:jM X (binaryOp .Sub) (xT fun i j=> .int (i - j)):=GH fun _ _ _ _ _ _ _ q=>sub_int q
theorem jV:jM X (binaryOp .Mult) (rI wb fun i j=> .int (i*j)):=Lq fun _ _ _ _ _ _ _ hc q=>mul_int q hc.ok
theorem bC:jM X (binaryOp .FloorDiv) (rI Mj fun i j=> .int (i/j)):=Lq fun i j _ _ _ _ _ hc q=>by
 have h1:(0 :Int) <j:=hc.1
 have h2:j<1073741824:=hc.2
 exact floordiv_int (by omega) (by rw[Int.fdiv_eq_ediv_of_nonneg i (by omega)];exact q) (.inl (PyProof.noPylong_small (by omega)))
theorem a7:jM X (binaryOp .Mod) (rI (fun _ j=>0<j) fun i j=> .int (i%j)):=Lq fun i j _ _ _ _ _ hc q=>by
 have h1:(0 :Int) <j:=hc
 exact mod_int' (by omega) (by rw[Int.fmod_eq_emod_of_nonneg i (by omega)];exact q)
theorem xU:jM X (binaryOp .Pow) (rI Ml fun i j=> .int (i^j.toNat)):=Lq fun _ _ _ _ _ _ _ hc q=>pow_int_small hc.1 hc.2.1 hc.2.2 q
theorem SK{f:Value→Sem Value}{g:Int→Int}
  (rule:∀(i:Int) (t:Tok) (s:Shared) (Q:Value→Shared→Prop) (E:Value→Shared→Prop),Q (.int (g i) s.toks) { s with toks:=s.toks+1 }→wpAny (model X.prog X.w) X.A (f (.int i t)) Q E s):
  Mh X f (rU fun i=> .int (g i)):=by
 intro pins s σ H x v Q I rx h
 obtain⟨i,rfl,q⟩:=h
 obtain⟨t,rfl⟩:=rx
 exact rule i t s _ _ ⟨.int (g i),H,I.tok _,⟨_,rfl⟩,q⟩
theorem gY:Mh X (unaryOp .USub) (rU fun i=> .int (-i)):=SK fun _ _ _ _ _ q=>neg_int q
end
def GI:V→V→Bool
 | .cw, .cw=>true| .cw, .int _=>true| .int _, .cw=>true| .cw, .bl _=>true| .bl _, .cw=>true| .cw, .str _=>true| .str _, .cw=>true
 | .int _, .int _=>true| .bl _, .bl _=>true| .str _, .str _=>true| .sO _, .sO _=>true
 | .int _, .str _=>true| .str _, .int _=>true| .bl _, .str _=>true| .str _, .bl _=>true
 |_,_=>false
def SM:R2:=fun x y H Q=>GI x y=true∧Q (.bl (decide (x=y))) H
def SQ:R2:=fun x y H Q=>GI x y=true∧Q (.bl (!decide (x=y))) H
theorem uo{i j:Int}:decide (V.int i=V.int j)=(i==j):=by
 rw[Bool.eq_iff_iff]
 simp
theorem xV{i j:Bool}:decide (V.bl i=V.bl j)=(i==j):=by
 rw[Bool.eq_iff_iff]
 simp
theorem uq{i j:Str}:decide (V.str i=V.str j)=(i==j):=by
 rw[Bool.eq_iff_iff]
 simp
theorem ur{i j:Array UInt8}:decide (V.sO i=V.sO j)=(i.toList==j.toList):=by
 rw[Bool.eq_iff_iff]
 cases i
 cases j
 simp
section
variable {X:Cx}{a b c:Expr}{ta tb tc:TE}{pos:Pos}
theorem bp{pins:List (Addr×Obj)}{σ:St}{H:Hp}{s:Shared}{Q:VK}{k k':Bool}(I:Inv X pins σ H s)(q:Q (.bl k) H)(e:k=k'):EP X pins σ Q (.bool k') s:=by
 subst e
 exact⟨.bl k,H,I,rfl,q⟩
theorem aW:jM X (compareOp .Eq) SM:=by
 intro pins s σ H x y v u Q I rx ry h
 obtain⟨hs,q⟩:=h
 cases x with
 |cw=>
  cases rx
  cases y with
  |cw=>cases ry;exact PySem.EqNone.eq_none_none (bp I q (by simp))
  |bl j=>cases ry;exact PySem.EqNone.eq_none_bool (bp I q (by simp))
  |int j=>obtain⟨t',rfl⟩:=ry;exact PySem.EqNone.eq_none_int (bp I q (by simp))
  |str j=>obtain⟨t',rfl⟩:=ry;exact PySem.EqNone.eq_none_str (bp I q (by simp))
  |_=>exact absurd (show false=true from hs) Bool.false_ne_true
 |bl i=>
  cases rx
  cases y with
  |cw=>cases ry;exact PySem.EqNone.eq_bool_none (bp I q (by simp))
  |bl j=>cases ry;exact eq_bool (bp I q xV)
  |str j=>obtain⟨t',rfl⟩:=ry;exact PySem.EqMixed.eq_bool_str (bp I q (by simp))
  |_=>exact absurd (show false=true from hs) Bool.false_ne_true
 |int i=>
  obtain⟨t,rfl⟩:=rx
  cases y with
  |cw=>cases ry;exact PySem.EqNone.eq_int_none (bp I q (by simp))
  |int j=>obtain⟨t',rfl⟩:=ry;exact eq_int (bp I q uo)
  |str j=>obtain⟨t',rfl⟩:=ry;exact PySem.EqMixed.eq_int_str (bp I q (by simp))
  |_=>exact absurd (show false=true from hs) Bool.false_ne_true
 |str i=>
  obtain⟨t,rfl⟩:=rx
  cases y with
  |cw=>cases ry;exact PySem.EqNone.eq_str_none (bp I q (by simp))
  |bl j=>cases ry;exact PySem.EqMixed.eq_str_bool (bp I q (by simp))
  |int j=>obtain⟨t',rfl⟩:=ry;exact PySem.EqMixed.eq_str_int (bp I q (by simp))
  |str j=>obtain⟨t',rfl⟩:=ry;exact eq_str (bp I q uq)
  |_=>exact absurd (show false=true from hs) Bool.false_ne_true
 |sO i=>
  obtain⟨t,rfl⟩:=rx
  cases y with
  |sO j=>obtain⟨t',rfl⟩:=ry;exact PySem.W.eq_bytes (bp I q ur)
  |_=>exact absurd (show false=true from hs) Bool.false_ne_true
 |_=>cases y<;>exact absurd (show false=true from hs) Bool.false_ne_true
theorem uu:jM X (compareOp .NotEq) SQ:=by
 intro pins s σ H x y v u Q I rx ry h
 obtain⟨hs,q⟩:=h
 cases x with
 |cw=>
  cases rx
  cases y with
  |cw=>cases ry;exact PySem.EqNone.ne_none_none (bp I q (by simp))
  |bl j=>cases ry;exact PySem.EqNone.ne_none_bool (bp I q (by simp))
  |int j=>obtain⟨t',rfl⟩:=ry;exact PySem.EqNone.ne_none_int (bp I q (by simp))
  |str j=>obtain⟨t',rfl⟩:=ry;exact PySem.EqNone.ne_none_str (bp I q (by simp))
  |_=>exact absurd (show false=true from hs) Bool.false_ne_true
 |bl i=>
  cases rx
  cases y with
  |cw=>cases ry;exact PySem.EqNone.ne_bool_none (bp I q (by simp))
  |bl j=>cases ry;exact ne_bool (bp I q (congrArg not xV))
  |str j=>obtain⟨t',rfl⟩:=ry;exact PySem.EqMixed.ne_bool_str (bp I q (by simp))
  |_=>exact absurd (show false=true from hs) Bool.false_ne_true
 |int i=>
  obtain⟨t,rfl⟩:=rx
  cases y with
  |cw=>cases ry;exact PySem.EqNone.ne_int_none (bp I q (by simp))
  |int j=>obtain⟨t',rfl⟩:=ry;exact ne_int (bp I q (congrArg not uo))
  |str j=>obtain⟨t',rfl⟩:=ry;exact PySem.EqMixed.ne_int_str (bp I q (by simp))
  |_=>exact absurd (show false=true from hs) Bool.false_ne_true
 |str i=>
  obtain⟨t,rfl⟩:=rx
  cases y with
  |cw=>cases ry;exact PySem.EqNone.ne_str_none (bp I q (by simp))
  |bl j=>cases ry;exact PySem.EqMixed.ne_str_bool (bp I q (by simp))
  |int j=>obtain⟨t',rfl⟩:=ry;exact PySem.EqMixed.ne_str_int (bp I q (by simp))
  |str j=>obtain⟨t',rfl⟩:=ry;exact ne_str (bp I q (congrArg not uq))
  |_=>exact absurd (show false=true from hs) Bool.false_ne_true
 |sO i=>
  obtain⟨t,rfl⟩:=rx
  cases y with
  |sO j=>obtain⟨t',rfl⟩:=ry;exact PySem.W.ne_bytes (bp I q (congrArg not ur))
  |_=>exact absurd (show false=true from hs) Bool.false_ne_true
 |_=>cases y<;>exact absurd (show false=true from hs) Bool.false_ne_true
theorem lU:jM X (compareOp .Lt) (xT fun i j=> .bl (decide (i<j))):=AH fun _ _ _ _ _ _ _ q=>lt_int q
theorem Co:jM X (compareOp .LtE) (xT fun i j=> .bl (decide (i≤j))):=AH fun _ _ _ _ _ _ _ q=>le_int q
theorem kA:jM X (compareOp .Gt) (xT fun i j=> .bl (decide (j<i))):=AH fun _ _ _ _ _ _ _ q=>gt_int q
theorem Cp:jM X (compareOp .GtE) (xT fun i j=> .bl (decide (j≤i))):=AH fun _ _ _ _ _ _ _ q=>ge_int q
theorem nI:jM X (compareOp .In) (fun x y H Q=>∃i j,x= .str i∧y= .str j∧Q (.bl (!(Builtin.Str.occurrences j i 0 j.length 1).isEmpty)) H):=by
 intro pins s σ H x y v u Q I rx ry h
 obtain⟨i,j,rfl,rfl,q⟩:=h
 obtain⟨t,rfl⟩:=rx
 obtain⟨t',rfl⟩:=ry
 exact in_str (bp I q rfl)
theorem aA(b:Expr){op:CmpOp}(h:op≠ .In:=by decide)(h2:op≠ .NotIn:=by decide):behindInMarks op b=false:=by
 have e1:(op==CmpOp.In)=false:=by cases op<;>first|rfl|exact absurd rfl h
 have e2:(op==CmpOp.NotIn)=false:=by cases op<;>first|rfl|exact absurd rfl h2
 cases b<;>simp [behindInMarks,e1,e2]
theorem d3{op:CmpOp}{r:R2}(ho:jM X (compareOp op) r)(ha:PE X a ta)(hb:PE X b tb)(hm:behindInMarks op b=false):PE X (.Compare a [op] [b] pos) (xy r ta tb):=by
 intro pins s σ H Q I h
 exact wpAny_Compare1 (DH ha hb I h fun v u s2 x y H2 I2 rx ry q=>ho pins s2 σ H2 x y v u Q I2 rx ry q) hm
def GJ(t:TE):TT:=fun σ H Q=>t σ H fun x H'=>∃k,x= .bl k∧Q k H'
theorem au{op:CmpOp}{r:R2}(ho:jM X (compareOp op) r)(ha:PE X a ta)(hb:PE X b tb)(hm:behindInMarks op b=false):PT X (.Compare a [op] [b] pos) (GJ (xy r ta tb)):=by
 intro pins s σ H Q I h
 refine wpAny_isTrue_Compare1 (bK (ha pins s σ H _ I h) fun v s1 ⟨x,H1,I1,r1,q1⟩=>bK (hb pins s1 σ H1 _ I1 q1) fun u s2 ⟨y,H2,I2,r2,q2⟩=>
  bK (ho pins s2 σ H2 x y v u _ I2 r1 r2 q2) fun c s3 ⟨z,H3,I3,r3,k,e,q3⟩=>?_) hm
 subst e
 cases r3
 exact wpAny_truthy_bool ⟨H3,I3,q3⟩
def DI(r r':R2)(ta tb tc:TE):TE:=fun σ H Q=>ta σ H fun x H1=>tb σ H1 fun y H2=>r x y H2 fun z H3=>∃k,z= .bl k∧
 (if k=true then tc σ H3 fun w' H4=>r' y w' H4 Q else Q (.bl false) H3)
theorem lV{op Mm:CmpOp}{r r':R2}(ho:jM X (compareOp op) r)(sP:jM X (compareOp Mm) r')(ha:PE X a ta)(hb:PE X b tb)(hc:PE X c tc)
  (hm:lastMarks [op,Mm] [b,c]=false:=by with_unfolding_all rfl):PE X (.Compare a [op,Mm] [b,c] pos) (DI r r' ta tb tc):=by
 intro pins s σ H Q I h
 refine Compare_chain (bK (ha pins s σ H _ I h) fun v s1 ⟨x,H1,I1,r1,q1⟩=>chain_link (bK (hb pins s1 σ H1 _ I1 q1) fun u s2 ⟨y,H2,I2,r2,q2⟩=>
  bK (ho pins s2 σ H2 x y v u _ I2 r1 r2 q2) fun d s3 ⟨z,H3,I3,r3,k,e,q3⟩=>?_)) hm
 subst e
 cases r3
 refine wpAny_truthy_bool ?_
 cases k with
 |false=>exact ite_ff ⟨.bl false,H3,I3,rfl,q3⟩
 |true=>exact ite_tt (chain_last (bK (hc pins s3 σ H3 _ I3 q3) fun w' s4 ⟨z',H4,I4,r4,q4⟩=>sP pins s4 σ H4 y z' u w' Q I4 r2 r4 q4))
def GK(K:PySem.W.Frag)(x:V)(H:Hp)(k:Bool):Prop:=
 match x with
 | .cw=>k=false
 | .bl b=>k=b
 | .int i=>k=(i != 0)
 | .str y=>y.length≤sizeLine∧k=((y.length:Int) != 0)
 | .sO y=>y.size≤sizeLine∧k=((y.size:Int) != 0)
 | .ref p=>(∃xs,bF K H p xs∧k=!xs.isEmpty)∨(∃xs,iI K H p xs∧k=!xs.isEmpty)∨∃kvs,H p=some (.dK kvs)∧k=!kvs.isEmpty
 |_=>False
theorem sT{κ:Type}{kvs:List (κ×V)}{vs:List (κ×Value)}(r:KV kvs vs):(!vs.isEmpty)=!kvs.isEmpty:=by
 cases r<;>rfl
theorem lX{xs:List V}{its:List Value}(r:Vals xs its):(!its.toArray.isEmpty)=!xs.isEmpty:=by
 cases r<;>simp
theorem iV:(sizeLine:Nat) <2^63:=by rw[sizeLine_eq];decide
theorem DJ:Mi X (fun x H Q=>∃k,GK X.K x H k∧Q k H):=by
 intro pins s σ H x v Q I rx h
 obtain⟨k,e,q⟩:=h
 have hl:=iV
 have hs:sizeLine=16777216:=sizeLine_eq
 cases x with
 |cw=>
  cases rx
  have e':k=false:=e
  subst e'
  exact truthy_none ⟨H,I,q⟩
 |bl b=>
  cases rx
  have e':k=b:=e
  subst e'
  exact wpAny_truthy_bool ⟨H,I,q⟩
 |int i=>
  obtain⟨t,rfl⟩:=rx
  have e':k=(i != 0):=e
  subst e'
  exact PySem.P.truthy_int ⟨H,I,q⟩
 |str y=>
  obtain⟨t,rfl⟩:=rx
  obtain⟨hy,e'⟩:y.length≤sizeLine∧k=((y.length:Int) != 0):=e
  subst e'
  exact PySem.P.truthy_str (by omega) ⟨H,I.tok _,q⟩
 |sO y=>
  obtain⟨t,rfl⟩:=rx
  obtain⟨hy,e'⟩:y.size≤sizeLine∧k=((y.size:Int) != 0):=e
  subst e'
  exact PySem.W.truthy_bytes (by omega) ⟨H,I.tok _,q⟩
 |ref p=>
  cases rx
  have e':(∃xs,bF X.K H p xs∧k=!xs.isEmpty)∨(∃xs,iI X.K H p xs∧k=!xs.isEmpty)∨∃kvs,H p=some (.dK kvs)∧k=!kvs.isEmpty:=e
  rcases e' with ⟨xs,hx,e'⟩ | ⟨xs,hx,e'⟩ | ⟨kvs,hx,e'⟩
  ·subst e'
   obtain⟨its,r,pl,hz⟩:=I.list hx
   have hlen:=r.length
   exact wpAny_truthy_list pl.isList (by simp only [List.size_toArray];omega) ⟨H,I.tok _,by rw[lX r];exact q⟩
  ·subst e'
   obtain⟨its,r,pl,hz⟩:=I.tuple hx
   have hlen:=r.length
   exact truthy_tuple pl (by simp only [List.size_toArray];omega) ⟨H,I.tok _,by rw[lX r];exact q⟩
  ·subst e'
   obtain⟨hz,hS,vs,r,m⟩:kvs.length≤sizeLine∧(p==sysModules)=false∧∃vs,KV kvs vs∧s.heap.DictOf (bI X.prog X.w) p vs:=I.bg p _ hx
   have hlen:kvs.length=vs.length:=Paired.length r
   exact wpAny_truthy_dict hS m (by omega) ⟨H,I.tok _,by rw[sT r];exact q⟩
 |_=>exact(show False from e).elim
theorem qH(ha:PE X a ta)(he:∀whole,isTrue a X.env whole=(do let v←whole;standAt a.pos;holding [v] (truthy v))):
  PT X a (fun σ H Q=>ta σ H fun x H'=>∃k,GK X.K x H' k∧Q k H'):=by
 intro pins s σ H Q I h
 exact isTrue_plain (bK (ha pins s σ H _ I h) fun v s1 ⟨x,H1,I1,r1,q1⟩=>DJ pins s1 σ H1 x v Q I1 r1 q1) (he _)
theorem aF:jM X (binaryOp .Add) (fun x y H Q=>∃i j,x= .str i∧y= .str j∧i.length+j.length≤sizeLine∧Q (.str (i++j)) H):=by
 intro pins s σ H x y v u Q I rx ry h
 obtain⟨i,j,rfl,rfl,hz,q⟩:=h
 obtain⟨t,rfl⟩:=rx
 obtain⟨t',rfl⟩:=ry
 exact add_str (fun t' tk=>⟨.str (i++j),H,I.tok _,⟨_,rfl⟩,q⟩) hz
theorem vals1{x:V}{us:List Value}(r:Vals [x] us):∃u,us=[u]∧RelV x u:=by
 cases r with
 |cons r1 r2=>cases r2;exact⟨_,rfl,r1⟩
theorem vals2{x y:V}{us:List Value}(r:Vals [x,y] us):∃u w',us=[u,w']∧RelV x u∧RelV y w':=by
 cases r with
 |cons r1 r2=>
  cases r2 with
  |cons r3 r4=>cases r4;exact⟨_,_,rfl,r1,r3⟩
theorem qI:gP X (.builtin "abs") (fun xs H Q=>∃i,xs=[.int i]∧Q (.int (if i<0 then -i else i)) H):=by
 intro pins s σ H xs us Q I r h
 obtain⟨i,rfl,q⟩:=h
 obtain⟨u,rfl,t,rfl⟩:=vals1 r
 exact call_abs_int fun u tk=>⟨.int (if i<0 then -i else i),H,I.tok _,⟨_,rfl⟩,q⟩
theorem nJ:gP X (.type "int") (fun xs H Q=>(∃i,xs=[.int i]∧Q (.int i) H)∨∃k,xs=[.bl k]∧Q (.int (if k then 1 else 0)) H):=by
 intro pins s σ H xs us Q I r h
 rcases h with ⟨i,rfl,q⟩ | ⟨k,rfl,q⟩
 ·obtain⟨u,rfl,t,rfl⟩:=vals1 r
  exact call_int_int ⟨.int i,H,I,⟨_,rfl⟩,q⟩
 ·obtain⟨u,rfl,r1⟩:=vals1 r
  cases r1
  exact call_int_bool ⟨.int (if k then 1 else 0),H,I.tok _,⟨_,rfl⟩,q⟩
theorem ja:gP X (.type "str") (fun xs H Q=>∃i,xs=[.int i]∧i.natAbs.log2<1920∧Q (.str (toString i)) H):=by
 intro pins s σ H xs us Q I r h
 obtain⟨i,rfl,hz,q⟩:=h
 obtain⟨u,rfl,t,rfl⟩:=vals1 r
 exact PySem.P.str_of_int hz ⟨.str _,H,I.tok _,⟨_,rfl⟩,q⟩
end
end L2
namespace L2
open PySem PySem.Spec PyProof.Rows
structure sU(h:Heap)(x dx C:Addr)(mA:Str→Option Value):Prop where
 obj:h.get? x=some (PySem.W.instObj C dx)
 ns:h.Ns1 dx mA
 ne:dx≠x
theorem nK{h:Heap}{dx:Addr}{mA:Str→Option Value}(n:h.Ns1 dx mA):∃od,h.get? dx=some od∧∀name,PySem.W.lookIn name od=some (mA name):=by
 obtain⟨o,es,ep,ho,hd,hk,_,hm⟩:=n
 refine⟨o,ho,fun name=>?_⟩
 have e:=hm name
 unfold nsFind findBy at e
 rw[←Array.find?_toList] at e
 unfold PySem.W.lookIn
 rw[hd]
 dsimp only
 split
 ·rename_i y q
  rw[q] at e
  exact congrArg some e
 ·rename_i q
  rw[q] at e
  have a:es.toList.any (·.refKey)=false:=by
   rw[List.any_eq_false]
   intro y hy
   obtain⟨z,t,Mn⟩:=hk y (Array.mem_toList_iff.mp hy)
   simp [DictEntry.refKey,Mn]
  have a':¬es.toList.any (·.refKey)=true:=by rw[a];exact Bool.false_ne_true
  rw[if_neg a']
  exact congrArg some e
theorem sU.look{h:Heap}{x dx C:Addr}{mA:Str→Option Value}(I:sU h x dx C mA):∃od,PySem.W.InstAt h x (PySem.W.instObj C dx) C (some od)∧∀name,PySem.W.lookIn name od=some (mA name):=
 let ⟨od,ho,hl⟩:=nK I.ns
 ⟨od,⟨I.obj,rfl,rfl,ho⟩,hl⟩
section
variable {prog:Program}{w:World}{A:Around}{E:Value→Shared→Prop}{s:Shared}{K:PySem.W.Frag}{x dx C f:Addr}{mA:Str→Option Value}{name:Str}{v:Value}
theorem get_map{expr:Bool}{Q:Value→Shared→Prop}(X:K.In s.heap)(I:sU s.heap x dx C mA)(hg:PySem.W.plainGet K C name=true)(hh:PySem.W.hasDictIn K C=true)
  (ha:PySem.W.findIn K (.ref C) name=some none) (hv:mA name=some v) (SR:PySem.W.handedIn v=true) (h:Q v { s with toks:=s.toks+1 }):
  wpAny (model prog w) A (getAttr (.ref x) name expr) Q E s:=by
 obtain⟨od,J,hl⟩:=I.look
 exact PySem.W.get_value X J (PySem.W.plainGet_of hg).1 (PySem.W.findObj_own hh ha rfl (by rw[hl,hv])) SR h
theorem xW{pl:Sem Bool}{Q:Value×List Value→Shared→Prop}(X:K.In s.heap)(I:sU s.heap x dx C mA)(hg:PySem.W.plainGet K C name=true)
  (hf:PySem.W.findIn K (.ref C) name=some (some (.ref f))) (ht:PySem.W.isFn K (.ref f)=true) (hv:mA name=none) (h:Q (.ref f,[.ref x]) s):
  wpAny (model prog w) A (getMethod (.ref x) name pl) Q E s:=by
 obtain⟨od,J,hl⟩:=I.look
 exact PySem.W.method_fn X J (PySem.W.plainGet_of hg).1 (PySem.W.plainGet_of hg).2 hf (beq_iff_eq.mp ht) (by show (PySem.W.lookIn name od).map (·.isSome)=some false;rw[hl,hv];rfl) h
theorem AI{ns:List Str}{Q:Unit→Shared→Prop}(X:K.In s.heap)(I:sU s.heap x dx C mA)
  (hs:PySem.W.findIn K (.ref C) "__setattr__" =some (some (.builtin "object.__setattr__"))) (hp:PySem.W.plainOver K C=true) (ht:PySem.W.takerIn K C name=some none) (hh:PySem.W.hasDictIn K C=true)
  (hw:PySem.Within mA ns) (hsz:ns.length≤sizeLine)
  (h:∀h',sU h' x dx C (fun y=>if y=name then some v else mA y)→Heap.SameBut dx s.heap h'→Q () { s with heap:=h',toks:=s.toks+2 }):
  wpAny (model prog w) A (setAttr (.ref x) name v) Q E s:=by
 obtain⟨od,J,hl⟩:=I.look
 refine PySem.W.set_plain X J hs (PySem.W.osa_open (s:={ s with toks:=s.toks+1 }) (r:=none) X J hp ht fun b=>?_)
 obtain⟨cd,hc,lO⟩:=PySem.W.any_some hh
 have hx:s.heap.get? x=some ⟨.ref C,some dx, .plain,#[]⟩:=I.obj
 refine wpAny_bind (wpAny_pure (wpAny_bind (wpAny_bind (wpAny_loadPart hx (wpAny_bind (PySem.W.Looks.here (s:={ s with toks:=s.toks+1 }) (PySem.W.looks_clsIn X hc) ?_))))))
 rw[lO]
 refine wpAny_pure (a:=some dx) (wpAny_bind (wpAny_pure (wpAny_bind ?_)))
 refine wpAny_nsSet1 (s:={ s with toks:=s.toks+1 }) I.ns fun h' F7 RC=>?_
 obtain⟨oD,Vq,Vr,SS,SU,SV⟩:=F7.count (PySem.Within.cons name v hw)
 refine wpAny_bind (wpAny_lookBehind SS (by rw[SU];exact pastItsLine_dict (Nat.le_trans SV (by rw[List.length_cons];omega))) ?_)
 exact wpAny_pure (h _ ⟨(RC.2 _ (Ne.symm I.ne)).trans I.obj,F7,I.ne⟩ RC)
theorem xX{R:Result→Shared→Prop}{vs:List Value}{kw:List (Str×Value)}(X:K.In s.heap)(hm:PySem.W.makesIn K C=true)
  (hi:PySem.W.findIn K (.ref C) "__init__" =some (some (.ref f))) (hf:PySem.W.typeIn K (.ref f)=some (.type "function"))
  (h:codeAny (model prog w) (A.under (.builtin "type.__call__" ⟨.ref C::vs,kw⟩)) (.call (.ref f) ⟨.ref (s.heap.objs.size+1)::vs,kw⟩) (PySem.W.InitBack (s.heap.objs.size+1) R)
   { s with heap:=(s.heap.push PySem.W.emptyDict).push (PySem.W.instObj C s.heap.objs.size) }):
  codeAny (model prog w) A (.call (.ref C) ⟨vs,kw⟩) R s:=by
 obtain⟨hh,g,d,t,os⟩:=s
 exact PySem.W.make_core (PySem.W.makes_of X hm) (PySem.W.looks_findIn X hi) (fun self=>PySem.W.bind_fn X self hf) (.inl rfl) h
end
def dc(f:Str)(v:V):List (Str×V)→List (Str×V)
 | []=>[(f,v)]
 | (g,x)::r=>if g=f then (g,v)::r else (g,x)::dc f v r
theorem aQ(f g:Str)(v:V):∀fs:List (Str×V),(dc f v fs).lookup g=if g=f then some v else fs.lookup g
 | []=>by
   show List.lookup g [(f,v)]=_
   by_cases h:g=f
   ·have hb:(g==f)=true:=beq_iff_eq.mpr h
    simp only [List.lookup,hb,if_pos h]
   ·have hb:(g==f)=false:=beq_eq_false_iff_ne.mpr h
    simp only [List.lookup,hb,if_neg h]
 | (k,x)::r=>by
   have ih:=aQ f g v r
   rw[show dc f v ((k,x)::r)=(if k=f then (k,v)::r else (k,x)::dc f v r) from rfl]
   by_cases hk:k=f
   ·rw[if_pos hk]
    by_cases h:g=k
    ·have hb:(g==k)=true:=beq_iff_eq.mpr h
     simp only [List.lookup,hb,if_pos (h.trans hk)]
    ·have hb:(g==k)=false:=beq_eq_false_iff_ne.mpr h
     simp only [List.lookup,hb,if_neg (fun e:g=f=>h (e.trans hk.symm))]
   ·rw[if_neg hk]
    by_cases h:g=k
    ·have hb:(g==k)=true:=beq_iff_eq.mpr h
     simp only [List.lookup,hb,if_neg (fun e:g=f=>hk (h.symm.trans e))]
    ·have hb:(g==k)=false:=beq_eq_false_iff_ne.mpr h
     simp only [List.lookup,hb]
     exact ih
theorem fO(f:Str)(v:V):∀fs:List (Str×V),f∈(dc f v fs).map (·.1)∧∀g,g∈fs.map (·.1)→g∈(dc f v fs).map (·.1)
 | []=>⟨by simp [dc],fun g h=>by simp at h⟩
 | (k,x)::r=>by
   obtain⟨i1,i2⟩:=fO f v r
   rw[show dc f v ((k,x)::r)=(if k=f then (k,v)::r else (k,x)::dc f v r) from rfl]
   by_cases hk:k=f
   ·rw[if_pos hk]
    subst hk
    exact⟨by simp,fun g h=>by simpa using h⟩
   ·rw[if_neg hk]
    refine⟨?_,fun g h=>?_⟩
    ·rw[List.map_cons]
     exact List.mem_cons_of_mem _ i1
    ·rw[List.map_cons] at h ⊢
     rcases List.mem_cons.mp h with e|e
     ·exact List.mem_cons.mpr (.inl e)
     ·exact List.mem_cons_of_mem _ (i2 g e)
theorem kB(f:Str)(v:V):∀fs:List (Str×V),(dc f v fs).length≤fs.length+1
 | []=>by simp [dc]
 | (k,x)::r=>by
   have ih:=kB f v r
   rw[show dc f v ((k,x)::r)=(if k=f then (k,v)::r else (k,x)::dc f v r) from rfl]
   by_cases hk:k=f
   ·rw[if_pos hk,List.length_cons,List.length_cons];omega
   ·rw[if_neg hk,List.length_cons,List.length_cons];omega
theorem eJ.some_of{v:V}{o:Option Value}(r:eJ (some v) o):∃u,o=some u∧RelV v u:=by
 cases o with
 |none=>exact(show False from r).elim
 |some u=>exact⟨u,rfl,r⟩
theorem eJ.none_of{o:Option Value}(r:eJ none o):o=none:=by
 cases o with
 |none=>rfl
 |some u=>exact(show False from r).elim
theorem nL{v:V}{u:Value}(r:RelV v u):PySem.W.handedIn u=true:=by
 cases v with
 |cw=>cases (show u=Value.none from r);rfl
 |bl b=>cases (show u=Value.bool b from r);rfl
 |int i=>obtain⟨t,e⟩:=(show∃t,u=Value.int i t from r);cases e;rfl
 |str x=>obtain⟨t,e⟩:=(show∃t,u=Value.str x t from r);cases e;rfl
 |sO b=>obtain⟨t,e⟩:=(show∃t,u=Value.bytes b t from r);cases e;rfl
 |Cg b=>obtain⟨t,e⟩:=(show∃t,u=Value.float b t from r);cases e;rfl
 |ref a=>cases (show u=Value.ref a from r);rfl
 |ty n=>cases (show u=Value.type n from r);rfl
section
variable {P:Program}{w:World}{H H':Hp}{h h':Heap}{a C dx:Addr}{fs Az:List (Str×V)}
theorem kT(bg:gU P w H h)(e:H a=some (.ins C dx fs)):∃mA,sU h a dx C mA∧(∀f,eJ (fs.lookup f) (mA f))∧PySem.Within mA (fs.map (·.1))∧fs.length≤1000∧H dx=some (.own a):=by
 obtain⟨d,z,ne,ob,mA,n,r,q⟩:=(show bM P w H h a (.ins C dx fs) from bg a _ e)
 exact⟨mA,⟨ob,n,ne⟩,r,q,z,d⟩
end
structure qJ(K:PySem.W.Frag)(C:Addr):Prop where
 pg:PySem.W.plainGet K C Str.empty=true
 hd:PySem.W.hasDictIn K C=true
 po:PySem.W.plainOver K C=true
 sa:PySem.W.findIn K (.ref C) "__setattr__" =some (some (.builtin "object.__setattr__"))
theorem qJ.get{K:PySem.W.Frag}{C:Addr}(c:qJ K C)(f:Str):PySem.W.plainGet K C f=true:=c.pg
def cE(K:PySem.W.Frag)(C:Addr)(f:Str):Prop:=PySem.W.findIn K (.ref C) f=some none
theorem cE.GL{K:PySem.W.Frag}{C:Addr}{f:Str}(n:cE K C f):PySem.W.takerIn K C f=some none:=by
 unfold PySem.W.takerIn
 rw[show PySem.W.findIn K (.ref C) f=some none from n]
 rfl
structure Meth(K:PySem.W.Frag)(C:Addr)(m:Str)(f:Addr):Prop where
 at_:PySem.W.findIn K (.ref C) m=some (some (.ref f))
 fn:PySem.W.isFn K (.ref f)=true
 kp:PySem.W.keepIn K (.ref f)=true
section
variable {X:Cx}{pins:List (Addr×Obj)}{σ:St}{H:Hp}{s:Shared}{a C dx:Addr}{fs:List (Str×V)}{f:Str}{v:V}{A:Around}{E:Value→Shared→Prop}
theorem lY{b:Bool}{Q:Value→Shared→Prop}(I:Inv X pins σ H s)(e:H a=some (.ins C dx fs))(c:qJ X.K C)(n:cE X.K C f)(l:fs.lookup f=some v)
  (h:∀u s',Inv X pins σ H s'→RelV v u→Q u s'):wpAny (model X.prog X.w) A (getAttr (.ref a) f b) Q E s:=by
 obtain⟨mA,O,r,_,_,_⟩:=kT I.bg e
 obtain⟨u,hu,ru⟩:=eJ.some_of (v:=v) (o:=mA f) (by rw[←l];exact r f)
 exact get_map I.f9 O (c.get f) c.hd n hu (nL ru) (h u _ (I.tok _) ru)
theorem iW{m:Str}{g:Addr}{pl:Sem Bool}{Q:Value×List Value→Shared→Prop}(I:Inv X pins σ H s)(e:H a=some (.ins C dx fs))(c:qJ X.K C)(k:Meth X.K C m g)(l:fs.lookup m=none)
  (h:Q (.ref g,[.ref a]) s):wpAny (model X.prog X.w) A (getMethod (.ref a) m pl) Q E s:=by
 obtain⟨mA,O,r,_,_,_⟩:=kT I.bg e
 have hn:mA m=none:=eJ.none_of (by rw[←l];exact r m)
 exact xW I.f9 O (c.get m) k.at_ k.fn hn h
theorem l4{y:V}{u:Value}{Q:Unit→Shared→Prop}(I:Inv X pins σ H s)(e:H a=some (.ins C dx fs))(c:qJ X.K C)(n:cE X.K C f)(hl:fs.length<1000)(ry:RelV y u)
  (h:∀s',Inv X pins σ (upd H a (.ins C dx (dc f y fs))) s'→Q () s'):wpAny (model X.prog X.w) A (setAttr (.ref a) f u) Q E s:=by
 obtain⟨mA,O,r,wi,_,ho⟩:=kT I.bg e
 have hz:(fs.map (·.1)).length≤sizeLine:=by rw[List.length_map,sizeLine_eq];omega
 refine AI I.f9 O c.sa c.po n.GL c.hd wi hz fun h' O' sb=>h _ ?_
 have hd:∃o,h'.get? dx=some o:=let ⟨o,_,_,e',_⟩:=O'.ns;⟨o,e'⟩
 refine I.write (x:=a) (e:=dx) (by rw[e];exact True.intro) (.inr ho) (fun b q hb z=>(sb.2 b hb).trans z) hd ?_
 refine⟨by rw[ah O.ne];exact ho,?_,O.ne,O'.obj,_,O'.ns,fun g=>?_,fun g hg=>?_⟩
 ·have:=kB f y fs;omega
 ·show eJ ((dc f y fs).lookup g) (if g=f then some u else mA g)
  rw[aQ]
  by_cases q:g=f
  ·rw[if_pos q,if_pos q];exact ry
  ·rw[if_neg q,if_neg q];exact r g
 ·by_cases q:g=f
  ·rw[q];exact(fO f y fs).1
  ·refine(fO f y fs).2 g (wi g fun z=>hg ?_)
   show (if g=f then some u else mA g)=none
   rw[if_neg q];exact z
theorem Inv.made(I:Inv X pins σ H s):Inv X pins σ (upd (upd H s.heap.objs.size (.own (s.heap.objs.size+1))) (s.heap.objs.size+1) (.ins C s.heap.objs.size []))
  { s with heap:=(s.heap.push PySem.W.emptyDict).push (PySem.W.instObj C s.heap.objs.size) }:=by
 have e1:(s.heap.push PySem.W.emptyDict).get? s.heap.objs.size=some PySem.W.emptyDict:=Heap.get?_push_size s.heap rfl
 have e2:((s.heap.push PySem.W.emptyDict).push (PySem.W.instObj C s.heap.objs.size)).get? (s.heap.objs.size+1)=some (PySem.W.instObj C s.heap.objs.size):=by
  have:=Heap.get?_push_size (s.heap.push PySem.W.emptyDict) (o:=PySem.W.instObj C s.heap.objs.size) rfl
  rwa [Heap.size_push] at this
 have e3:(s.heap.push PySem.W.emptyDict).Ns s.heap.objs.size (fun _=>none):=⟨PySem.W.emptyDict,#[],_,e1,rfl,(fun e he=>absurd he (by simp)),fun _=>rfl⟩
 have I1:=I.laid (a:=s.heap.objs.size) (o:= .own (s.heap.objs.size+1)) (h':=s.heap.push PySem.W.emptyDict) (t':=s.toks) (fun b u q=>Heap.get?_push_of_some _ q) (Nat.le_refl _) ⟨_,e1⟩
 refine I1.laid (a:=s.heap.objs.size+1) (o:= .ins C s.heap.objs.size []) (t':=s.toks) (fun b u q=>Heap.get?_push_of_some _ q) (Nat.le_of_eq (Heap.size_push _ _)) ?_
 have ne:s.heap.objs.size≠s.heap.objs.size+1:=Nat.ne_of_lt (Nat.lt_succ_self _)
 refine⟨by rw[ah ne,ag],Nat.zero_le _,ne,e2,fun _=>none,(Heap.Ns1.of_empty e3).at fun o q=>Heap.get?_push_of_some _ q,fun _=>True.intro,fun y hy=>absurd rfl hy⟩
theorem uv{prog:Program}{w:World}{env:Env}{e:Expr}{f:Str}{pos:Pos}{s:Shared}{Q:Value→Shared→Prop}(hb:attributeBase e f env (eval e env)=eval e env)
  (h:wpAny (model prog w) A (eval e env) (fun o s₁=>wpAny (model prog w) A (getAttr o f true) Q E s₁) E s):wpAny (model prog w) A (eval (.Attribute e f pos) env) Q E s:=
 Attribute_any_ h (by rw[arm_eval_Attribute,hb])
end
def Mo(K:PySem.W.Frag)(ta:TE)(f:Str):TE:=fun σ H Q=>ta σ H fun x H1=>∃a C dx fs v,x= .ref a∧H1 a=some (.ins C dx fs)∧qJ K C∧cE K C f∧fs.lookup f=some v∧Q v H1
def Mp(K:PySem.W.Frag)(ta tv:TE)(f:Str):TS:=fun D σ H=>tv σ H fun y H1=>ta σ H1 fun x H2=>∃a C dx fs,x= .ref a∧H2 a=some (.ins C dx fs)∧qJ K C∧cE K C f∧fs.length<1000∧
 D.nx σ (upd H2 a (.ins C dx (dc f y fs)))
def GN(X:Cx)(op:Operator)(rd:V→V→Hp→VK→Prop):Prop:=
 ∀(pins:List (Addr×Obj)) (s:Shared) (σ:St) (H:Hp) (x y:V) (u v:Value) (Q:VK),Inv X pins σ H s→RelV x u→RelV y v→rd x y H Q→wpAny (model X.prog X.w) X.A (inplaceOp op u v) (EP X pins σ Q) X.xe s
def AJ(K:PySem.W.Frag)(ta tv:TE)(rd:V→V→Hp→VK→Prop)(f:Str):TS:=fun D σ H=>ta σ H fun x H1=>∃a C dx fs v,x= .ref a∧H1 a=some (.ins C dx fs)∧qJ K C∧cE K C f∧fs.lookup f=some v∧
 tv σ H1 fun y H2=>rd v y H2 fun z H3=>∃d5 Az,H3 a=some (.ins C d5 Az)∧Az.length<1000∧D.nx σ (upd H3 a (.ins C d5 (dc f z Az)))
section
variable {X:Cx}{o e value:Expr}{f:Str}{pos pos' GO:Pos}{ta tv:TE}
theorem bh(he:PE X e ta)(hb:attributeBase e f X.env (eval e X.env)=eval e X.env):PE X (.Attribute e f pos) (Mo X.K ta f):=by
 intro pins s σ H Q I h
 refine uv hb (bK (he pins s σ H _ I h) fun u s1 ⟨x,H1,I1,rx,a,C,dx,fs,v,ex,ea,c,n,l,q⟩=>?_)
 subst ex
 obtain rfl:u=Value.ref a:=rx
 exact lY I1 ea c n l fun u' s2 I2 ru=>⟨v,H1,I2,ru,q⟩
theorem fD(ha:PE X o ta)(hv:PE X value tv)(hs:swapsWith value (some (.Attribute o f pos')) pos.line X.env=pure false):PS X (.Assign [.Attribute o f pos'] value pos) (Mp X.K ta tv f):=by
 intro pins s σ H D I h
 refine plainObj_wpAny_Assign_Attribute (bK (hv pins s σ H _ I h) fun u s1 ⟨y,H1,I1,ry,q⟩=>bK (ha pins s1 σ H1 _ I1 q) fun ov s2 ⟨x,H2,I2,rx,a,C,dx,fs,ex,ea,c,n,l,q2⟩=>?_) hs
 subst ex
 obtain rfl:ov=Value.ref a:=rx
 exact l4 I2 ea c n l ry fun s3 I3=>⟨σ,_,I3,q2⟩
theorem ig{op:Operator}{rd:V→V→Hp→VK→Prop}(ha:PE X o ta)(hv:PE X value tv)(SW:GN X op rd):PS X (.AugAssign (.Attribute o f GO) op value pos) (AJ X.K ta tv rd f):=by
 intro pins s σ H D I h
 refine wpAny_AugAssign_AttributeAny (bK (ha pins s σ H _ I h) fun ov s1 ⟨x,H1,I1,rx,a,C,dx,fs,v,ex,ea,c,n,l,q⟩=>?_)
 subst ex
 obtain rfl:ov=Value.ref a:=rx
 refine lY I1 ea c n l fun u s2 I2 ru=>bK (hv pins s2 σ H1 _ I2 q) fun w3 s3 ⟨y,H2,I3,ry,q3⟩=>bK (SW pins s3 σ H2 v y u w3 _ I3 ru ry q3) fun w4 s4 ⟨z,H3,I4,rz,d5,Az,SY,l',q4⟩=>?_
 exact l4 I4 SY c n l' rz fun s5 I5=>⟨σ,_,I5,q4⟩
def Mq:V→V→Hp→VK→Prop:=fun x y H Q=>∃i j,x= .int i∧y= .int j∧Q (.int (i+j)) H
theorem o6:GN X .Add Mq:=by
 rintro pins s σ H x y u v Q I rx ry ⟨i,j,rfl,rfl,q⟩
 obtain⟨t,rfl⟩:=(show∃t,u=Value.int i t from rx)
 obtain⟨t',rfl⟩:=(show∃t',v=Value.int j t' from ry)
 exact PyProof.Rows.iadd_int ⟨.int (i+j),H,I.tok _,⟨_,rfl⟩,q⟩
end
section
variable {X:Cx}{pins:List (Addr×Obj)}{σ:St}{H:Hp}{s:Shared}{A:Around}{E:Value→Shared→Prop}{Q:Value→Shared→Prop}{c:Value}{b:Bool}
inductive jW(K:PySem.W.Frag)(H:Hp):V→Value→Prop where
 |cw:jW K H .cw (.type "NoneType")
 |bl (x:Bool):jW K H (.bl x) (.type "bool")
 |int (i:Int):jW K H (.int i) (.type "int")
 |str (x:Str):jW K H (.str x) (.type "str")
 |Cg (x:UInt64):jW K H (.Cg x) (.type "float")
 |lst {a:Addr} {xs:List V} (e:H a=some (.lst xs)):jW K H (.ref a) (.type "list")
 |iG {a:Addr} {o:Obj} {xs:List V} (e:H a=some (.iG o (.lst xs))):jW K H (.ref a) (.type "list")
 |tup {a:Addr} {xs:List V} (e:H a=some (.tup xs)):jW K H (.ref a) (.type "tuple")
 |dK {a:Addr} {kvs:List (Key×V)} (e:H a=some (.dK kvs)):jW K H (.ref a) (.type "dict")
 |dT {a:Addr} {kvs:List (List Key×V)} (e:H a=some (.dT kvs)):jW K H (.ref a) (.type "dict")
 |ins {a C dx:Addr} {fs:List (Str×V)} (e:H a=some (.ins C dx fs)) (cl:qJ K C) (ha:PySem.W.findIn K (.ref C) "__class__" =some (some (.builtin "object.__class__")))
   (hn:PySem.W.specialIn K (.builtin "object.__class__") "__get__" =some (some (.builtin "getset_descriptor.__get__"))) (RD:PySem.W.takesIn K (.builtin "object.__class__")=some true)
   (hm:PySem.W.mroIn K C (.type "object")=some true):jW K H (.ref a) (.ref C)
theorem wc{x:V}{u t:Value}(I:Inv X pins σ H s)(rx:RelV x u)(ty:jW X.K H x t)(e:PySem.W.kitOne X.K t c=some b)(h:∀tk,Q (.bool b) { s with toks:=tk }):
  wpAny (model X.prog X.w) A (call (.builtin "isinstance") [u,c]) Q E s:=by
 cases ty with
 |cw=>cases (show u=Value.none from rx);exact PySem.W.kia_one PySem.W.kitx_none I.f9 True.intro e (fun z=>nomatch z) h
 |bl y=>cases (show u=Value.bool y from rx);exact PySem.W.kia_one PySem.W.kitx_bool I.f9 True.intro e (fun z=>nomatch z) h
 |int i=>obtain⟨t,q⟩:=(show∃t,u=Value.int i t from rx);cases q;exact PySem.W.kia_one PySem.W.kitx_int I.f9 True.intro e (fun z=>nomatch z) h
 |str y=>obtain⟨t,q⟩:=(show∃t,u=Value.str y t from rx);cases q;exact PySem.W.kia_one PySem.W.kitx_str I.f9 True.intro e (fun z=>nomatch z) h
 |Cg y=>obtain⟨t,q⟩:=(show∃t,u=Value.float y t from rx);cases q;exact PySem.W.kia_one PySem.W.kitx_float I.f9 True.intro e (fun z=>nomatch z) h
 | @lst a xs ea=>
   cases (show u=Value.ref a from rx)
   obtain⟨_,_,n,_,h1⟩:=(show bM X.prog X.w H s.heap a (.lst xs) from I.bg a _ ea)
   exact PySem.W.kia_one PySem.W.kitx_list I.f9 ⟨_,h1,rfl⟩ e (fun z=>nomatch z) h
 | @iG a ob xs ea=>
   cases (show u=Value.ref a from rx)
   obtain⟨_,_,_,n,_,h1⟩:=(show bM X.prog X.w H s.heap a (.iG ob (.lst xs)) from I.bg a _ ea)
   exact PySem.W.kia_one PySem.W.kitx_list I.f9 ⟨_,h1,rfl⟩ e (fun z=>nomatch z) h
 | @tup a xs ea=>
   cases (show u=Value.ref a from rx)
   obtain⟨_,_,_,p⟩:=(show bM X.prog X.w H s.heap a (.tup xs) from I.bg a _ ea)
   obtain⟨o,h1,h2,_⟩:=p
   exact PySem.W.kia_one PySem.W.kitx_tuple I.f9 ⟨o,h1,h2⟩ e (fun z=>nomatch z) h
 | @dK a kvs ea=>
   cases (show u=Value.ref a from rx)
   obtain⟨_,_,vs,_,p⟩:=(show bM X.prog X.w H s.heap a (.dK kvs) from I.bg a _ ea)
   obtain⟨o,es,ep,h1,h2,_⟩:=p
   exact PySem.W.kia_one PySem.W.kitx_dict I.f9 ⟨o,h1,h2.1⟩ e (fun z=>nomatch z) h
 | @dT a kvs ea=>
   cases (show u=Value.ref a from rx)
   obtain⟨_,_,xs,_,o,es,ep,h1,h2,_⟩:=(show bM X.prog X.w H s.heap a (.dT kvs) from I.bg a _ ea)
   exact PySem.W.kia_one PySem.W.kitx_dict I.f9 ⟨o,h1,h2.1⟩ e (fun z=>nomatch z) h
 | @ins a C dx fs ea cl ha hn RD hm=>
   cases (show u=Value.ref a from rx)
   obtain⟨mA,O,_⟩:=kT I.bg ea
   obtain⟨od,J,_⟩:=O.look
   exact PySem.W.kia_one (PySem.W.kitx_own (cl.get _) cl.hd ha hn RD hm) I.f9 J e (fun z=>nomatch z) h
end
end L2
namespace L2
open PySem PySem.Spec PyProof.Rows
structure cj(k:Nat)(A:Around):Prop where
 hd:A.handled=none
 dp:A.depth+3*k+5<recursionLimit
 un:A.units+16*k+200<cLine
theorem cj.mono{j k:Nat}{A:Around}(r:cj k A)(h:j≤k):cj j A:=⟨r.hd,by have:=r.dp;omega,by have:=r.un;omega⟩
theorem cj.deeper{k:Nat}{A:Around}(r:cj (k+1) A)(env:Env):cj k (A.deeper env):=
 ⟨r.hd,by have:=r.dp;show A.depth+1+3*k+5<_;omega,by have:=r.un;show A.units+3+16*k+200<_;omega⟩
theorem sV{A:Around}{C:Addr}{us:List Value}{kw:List (Str×Value)}:(A.under (.builtin "type.__call__" ⟨.ref C::us,kw⟩)).depth=A.depth+1:=by
 first|rfl|simp [Around.under,Code.weight,Code.isCreation,Code.isGuard,Code.isCaller,Code.frames,Code.isFrame,guardIds]
theorem sW{A:Around}{C:Addr}{us:List Value}{kw:List (Str×Value)}:(A.under (.builtin "type.__call__" ⟨.ref C::us,kw⟩)).units=A.units+1:=by
 first|rfl|simp [Around.under,Code.cUnits,Code.frames,Code.isFrame]
theorem cj.make{k:Nat}{A:Around}(r:cj (k+1) A)(C:Addr)(us:List Value)(kw:List (Str×Value)):cj k (A.under (.builtin "type.__call__" ⟨.ref C::us,kw⟩)):=
 ⟨r.hd,by have:=r.dp;rw[sV];omega,by have:=r.un;rw[sW];omega⟩
theorem cj.depth{k:Nat}{A:Around}(r:cj k A):A.depth<recursionLimit:=by have:=r.dp;omega
theorem cj.units{k:Nat}{A:Around}(r:cj k A):A.units+64<cLine:=by have:=r.un;omega
theorem cj.DK{k:Nat}{A:Around}(r:cj k A):A.units<cLine:=by have:=r.un;omega
def DL:TA:=fun _ H Q=>Q [] H
def GP(ta:TE)(tr:TA):TA:=fun σ H Q=>ta σ H fun x H1=>tr σ H1 fun xs H2=>Q (x::xs) H2
section
variable {X:Cx}{e:Expr}{es:List Expr}{te:TE}{t:TA}{pos:Pos}
theorem ak:PA X [] DL:=fun _ _ _ _ H Q I h=>Calls.spliced_nil ⟨[],H,I, .nil,h⟩
theorem aa(ha:PE X e te)(hr:PA X es t)(hs:starEach (e::es) X.env=(false,eval e X.env)::starEach es X.env:=by rfl):PA X (e::es) (GP te t):=by
 intro pos pins s σ H Q I h
 rw[hs]
 show wpAny _ _ (spliced ((false,eval e X.env)::backTo pos (starEach es X.env))) _ _ s
 refine Calls.spliced_cons (bK (ha pins s σ H _ I h) fun u s1 ⟨x,H1,I1,r1,q1⟩=>?_)
 exact bK (hr pos pins s1 σ H1 _ I1 q1) fun us s2 ⟨xs,H2,I2,r2,q2⟩=>⟨x::xs,H2,I2, .cons r1 r2,q2⟩
def Mr(t:TA):TE:=fun σ H Q=>t σ H fun xs H1=>xs.length≤sizeLine∧∀p,H1 p=none→Q (.ref p) (upd H1 p (.tup xs))
def Ms(t:TA):TE:=fun σ H Q=>t σ H fun xs H1=>xs.length≤sizeLine∧∀p,H1 p=none→Q (.ref p) (upd H1 p (.lst xs))
theorem bO{x1}(h:PA X es t):PE X (.Tuple es x1 pos) (Mr t):=by
 intro pins s σ H Q I hq
 refine wpAny_Tuple_spliced (bK (h pos pins s σ H _ I hq) fun us s1 ⟨xs,H1,I1,r,z,q⟩=>⟨by rw[←r.length];exact z,?_⟩)
 have hf:H1 s1.heap.objs.size=none:=I1.bg.fresh (Nat.le_refl _)
 refine⟨.ref s1.heap.objs.size,upd H1 s1.heap.objs.size (.tup xs),I1.laid (t':=s1.toks) (fun b u e=>Heap.get?_push_of_some _ e) (Nat.le_refl _) ?_,rfl,q _ hf⟩
 exact⟨z,us,r,⟨_,Heap.get?_push_size _ rfl,rfl,_,rfl⟩⟩
theorem b7(h:PA X es t):PE X (.List es pos) (Ms t):=by
 intro pins s σ H Q I hq
 refine wpAny_List_spliced (bK (h pos pins s σ H _ I hq) fun us s1 ⟨xs,H1,I1,r,z,q⟩=>⟨by rw[←r.length];exact z,?_⟩)
 have hf:H1 s1.heap.objs.size=none:=I1.bg.fresh (Nat.le_refl _)
 refine⟨.ref s1.heap.objs.size,upd H1 s1.heap.objs.size (.lst xs),I1.laid (t':=s1.toks) (fun b u e=>Heap.get?_push_of_some _ e) (Nat.le_refl _) ?_,rfl,q _ hf⟩
 exact⟨z,us,0,r,Heap.get?_push_size _ rfl⟩
end
abbrev Sp:=List V→Hp→VK→XK→Prop
abbrev xA:=List Env→Hp→Shared→XK→Value→Shared→Prop
structure sX(P:Program)(w:World)(K:PySem.W.Frag)(mg:Str→Option Value)(base:Heap)(A:Around)(outer:List Env)(s:Shared)(H:Hp):Prop where
 frames:A.frames=some outer
 mod:Mod K mg base
 bs:∀b o,base.get? b=some o→s.heap.get? b=some o∧H b=none
 vW:base.objs.size≤s.heap.objs.size
 iH:s.heap.FunFrames base outer
 xM:∀b∈qz outer,H b=none
 bg:gU P w H s.heap
 bare:AllBare s.gens
def CE(outer:List Env)(P:Program)(w:World)(H:Hp)(s:Shared)(Q:VK)(u:Value)(s':Shared):Prop:=
 ∃v H',s'.os=s.os∧AllBare s'.gens∧Un (qz outer) [] H H' s.heap s'.heap∧gU P w H' s'.heap∧RelV v u∧Q v H'
def CR(CX:xA)(outer:List Env)(P:Program)(w:World)(H:Hp)(s:Shared)(Q:VK)(E:XK)(r:Result)(s':Shared):Prop:=
 match r with
 | .ok (.ret u)=>CE outer P w H s Q u s'
 | .ok _=>False
 | .error e=>CX outer H s E e s'
structure ei(P:Program)(w:World)(K:PySem.W.Frag)(mg:Str→Option Value)(base:Heap)(CX:xA)(k:Nat)(f:Addr)(fd:FuncData)(ps:List Str)(sp:Sp):Prop where
 len:∀vs H Q E,sp vs H Q E→vs.length=ps.length
 run:∀(A:Around) (outer:List Env) (s:Shared) (H:Hp) (args:Args) (us:List Value) (vs:List V) (Q:VK) (E:XK),cj k A→sX P w K mg base A outer s H→BindsTo s fd args (ps.zip us)→Vals vs us→sp vs H Q E→
  codeAny (model P w) A (.call (.ref f) args) (CR CX outer P w H s Q E) s
theorem sX.make{P:Program}{w:World}{K:PySem.W.Frag}{mg:Str→Option Value}{base:Heap}{A:Around}{outer:List Env}{s:Shared}{H:Hp}(e:sX P w K mg base A outer s H)(C:Addr)(us:List Value)(kw:List (Str×Value)):
  sX P w K mg base (A.under (.builtin "type.__call__" ⟨.ref C::us,kw⟩)) outer s H:=⟨by first|exact e.frames| (simpa [Around.under,Code.envs,Code.isFrame,pushEnvs] using e.frames),e.mod,e.bs,e.vW,e.iH,e.xM,e.bg,e.bare⟩
section
variable {X:Cx}{pins:List (Addr×Obj)}{σ:St}{H:Hp}{s s':Shared}
theorem Inv.AK(I:Inv X pins σ H s):sX X.prog X.w X.K X.mg X.base X.A X.stack s H:=
 ⟨I.ok.frames,I.ok.mod,I.bs,Nat.le_trans I.ok.vW I.sz,I.stack,I.oV,I.bg,I.bare⟩
theorem Inv.after{Q:VK}{u:Value}(I:Inv X pins σ H s)(h:CE X.stack X.prog X.w H s Q u s'):EP X pins σ Q u s':=by
 obtain⟨v,H',os,bare,un,bg,r,q⟩:=h
 obtain⟨hh,g,d,t,S0⟩:=s'
 obtain rfl:S0=s.os:=os
 exact⟨v,H',I.call (h':=hh) (g':=g) (d':=d) (t':=t) (ch:=[]) un bg bare (fun b z=>absurd z (by simp)),r,q⟩
end
def GQ(sp:Sp)(ij:List V)(E:XK)(t:TA):TE:=fun σ H Q=>t σ H fun vs H1=>sp (vs++ij) H1 Q E
def GR(C:Addr)(m:Str)(sp:Sp)(ij:List V)(E:XK)(ta:TE)(t:TA):TE:=fun σ H Q=>ta σ H fun x H1=>∃a dx fs,x= .ref a∧H1 a=some (.ins C dx fs)∧fs.lookup m=none∧
 t σ H1 fun vs H2=>sp (x::(vs++ij)) H2 Q E
def GS(C:Addr)(sp:Sp)(ij:List V)(E:XK)(t:TA):TE:=fun σ H Q=>t σ H fun vs H1=>∀x dx,H1 x=none→H1 dx=none→dx≠x→
 sp (.ref x::(vs++ij)) (upd (upd H1 dx (.own x)) x (.ins C dx [])) (fun v H2=>v= .cw∧Q (.ref x) H2) E
def Binds(K:PySem.W.Frag)(fd:FuncData)(ps:List Str)(ds:List Value):Prop:=
 ∀(s:Shared) (us:List Value),K.In s.heap→(us++ds).length=ps.length→BindsTo s fd ⟨us,[]⟩ (ps.zip (us++ds))
theorem Binds.all{K:PySem.W.Frag}{fd:FuncData}{ps:List Str}(h:∀us:List Value,us.length=ps.length→bindArgs fd ⟨us,[]⟩=pure (ps.zip us)):Binds K fd ps []:=fun s us _ hl=>by
 rw[List.append_nil] at hl ⊢
 exact .of_eq (h us hl)
def Passes(CX:xA)(X:Cx)(E:XK):Prop:=∀(pins:List (Addr×Obj)) (σ:St) (H:Hp) (s:Shared) (e:Value) (s':Shared),Inv X pins σ H s→CX X.stack H s E e s'→X.xe e s'
section
variable {X:Cx}{CX:xA}{k:Nat}{f C:Addr}{fd:FuncData}{ps:List Str}{sp:Sp}{ij:List V}{ds:List Value}{E:XK}{x m:Str}{p pos apos:Pos}{e o:Expr}{es:List Expr}{ta:TE}{t:TA}
theorem xY{pins:List (Addr×Obj)}{σ:St}{H:Hp}{s:Shared}{Q:VK}{us:List Value}{vs:List V}(F:ei X.prog X.w X.K X.mg X.base CX k f fd ps sp)(hr:cj k X.A)(hb:Binds X.K fd ps ds)(hd:Vals ij ds)(hx:Passes CX X E)
  (I:Inv X pins σ H s) (r:Vals vs us) (h:sp (vs++ij) H Q E):wpAny (model X.prog X.w) X.A (call (.ref f) us) (EP X pins σ Q) X.xe s:=by
 have r2:Vals (vs++ij) (us++ds):=r.append hd
 have hl:(us++ds).length=ps.length:=by rw[←r2.length];exact F.len _ _ _ _ h
 refine wpAny_call (codeAny_mono (F.run X.A X.stack s H ⟨us,[]⟩ (us++ds) (vs++ij) Q E hr I.AK (hb s us I.f9 hl) r2 h) fun r s' hq=>?_)
 cases r with
 |error e=>exact hx pins σ H s e s' I hq
 |ok fl=>
  cases fl with
  |ret u=>exact I.after hq
  |next=>exact False.elim hq
  |brk=>exact False.elim hq
  |cont=>exact False.elim hq
theorem aJ(F:ei X.prog X.w X.K X.mg X.base CX k f fd ps sp)(hr:cj k X.A)(hg:Gl X x)(hm:X.mg x=some (.ref f))(hk:PySem.W.keepIn X.K (.ref f)=true)(hb:Binds X.K fd ps ds)(hd:Vals ij ds)(hx:Passes CX X E)
  (ha:PA X (e::es) t) (xZ:(x==("__debug__" :Str))=false:=by decide) (he:starEach (e::es) X.env=(false,eval e X.env)::starEach es X.env:=by rfl) (nM:(backTo pos (starEach es X.env)).any (·.1)=false:=by rfl):
  PE X (.Call (.Name x p) (e::es) [] pos) (GQ sp ij E t):=by
 intro pins s σ H Q I h
 refine wpAny_Call_Name_kw (f' I hg hm ?_ xZ)
 refine PySem.W.callWith_K (h₀:=X.base) I.ok.mod.i8 hk (bK (ha pos pins s σ H _ I h) fun us s1 ⟨vs,H1,I1,r,q⟩=>⟨I1.f9,?_⟩) he nM
 exact xY F hr hb hd hx I1 r q
theorem bq{pl:Sem Bool}(he:PE X o ta)(c:qJ X.K C)(hm:Meth X.K C m f)(F:ei X.prog X.w X.K X.mg X.base CX k f fd ps sp)(hr:cj k X.A)(hb:Binds X.K fd ps ds)(hd:Vals ij ds)(hx:Passes CX X E)
  (ht:eval (.Call (.Attribute o m apos) [] [] pos) X.env=(do
   let ov←eval o X.env
   standAt apos.atName
   let (f,first)←holding [ov] (getMethod ov m pl)
   callWith pos f first (backTo pos (starEach [] X.env)) (backToKw pos (keywordEach [] X.env))):=by rfl):
  PE X (.Call (.Attribute o m apos) [] [] pos) (GR C m sp ij E ta DL):=by
 intro pins s σ H Q I h
 refine PySem.W.methodCall_KW (pl:=pl) (bK (he pins s σ H _ I h) fun u s1 ⟨x,H1,I1,rx,a,dx,fs,ex,ea,l,q⟩=>?_) ht
 subst ex
 obtain rfl:u=Value.ref a:=rx
 refine iW I1 ea c hm l ?_
 exact PySem.W.callWith_K0 (first:=[.ref a]) I1.f9 hm.kp (xY (us:=[.ref a]) (vs:=[.ref a]) F hr hb hd hx I1 (.cons rfl .nil) q)
structure Mk(K:PySem.W.Frag)(C f:Addr):Prop where
 makes:PySem.W.makesIn K C=true
 init:PySem.W.findIn K (.ref C) "__init__" =some (some (.ref f))
 fn:PySem.W.isFn K (.ref f)=true
 kp:PySem.W.keepIn K (.ref C)=true
theorem x2{pins:List (Addr×Obj)}{σ:St}{H:Hp}{s:Shared}{Q:VK}{us:List Value}{vs:List V}(M:Mk X.K C f)(F:ei X.prog X.w X.K X.mg X.base CX k f fd ps sp)(hr:cj (k+1) X.A)(hb:Binds X.K fd ps ds)(hd:Vals ij ds)
  (hx:Passes CX X E) (I:Inv X pins σ H s) (r:Vals vs us)
  (h:∀x dx,H x=none→H dx=none→dx≠x→sp (.ref x::(vs++ij)) (upd (upd H dx (.own x)) x (.ins C dx [])) (fun v H2=>v= .cw∧Q (.ref x) H2) E):
  wpAny (model X.prog X.w) X.A (call (.ref C) us) (EP X pins σ Q) X.xe s:=by
 have hq:=h (s.heap.objs.size+1) s.heap.objs.size (I.bg.fresh (Nat.le_succ _)) (I.bg.fresh (Nat.le_refl _)) (Nat.ne_of_lt (Nat.lt_succ_self _))
 have I2:=Inv.made (C:=C) I
 have r2:Vals (V.ref (s.heap.objs.size+1)::(vs++ij)) (Value.ref (s.heap.objs.size+1)::(us++ds)):= .cons rfl (r.append hd)
 have hl:(Value.ref (s.heap.objs.size+1)::us++ds).length=ps.length:=by
  have e:=r2.length
  rw[F.len _ _ _ _ hq] at e
  exact e.symm
 refine wpAny_call (xX (f:=f) I.f9 M.makes M.init (beq_iff_eq.mp M.fn) (codeAny_mono (F.run _ X.stack _ _ ⟨Value.ref (s.heap.objs.size+1)::us,[]⟩ (Value.ref (s.heap.objs.size+1)::(us++ds)) _ _ E (hr.make C us [])
  (I2.AK.make C us []) (hb _ (Value.ref (s.heap.objs.size+1)::us) I2.f9 hl) r2 hq) fun r s' nu=>?_))
 cases r with
 |error e=>exact hx pins σ _ _ e s' I2 nu
 |ok fl=>
  cases fl with
  |ret u=>
   obtain⟨v,H',I3,rv,ev,q3⟩:=I2.after nu
   subst ev
   exact⟨rv,⟨V.ref (s.heap.objs.size+1),H',I3,rfl,q3⟩⟩
  |next=>exact False.elim nu
  |brk=>exact False.elim nu
  |cont=>exact False.elim nu
theorem gg(M:Mk X.K C f)(F:ei X.prog X.w X.K X.mg X.base CX k f fd ps sp)(hr:cj (k+1) X.A)(hg:Gl X x)(hm:X.mg x=some (.ref C))(hb:Binds X.K fd ps ds)(hd:Vals ij ds)(hx:Passes CX X E)
  (ha:PA X (e::es) t) (xZ:(x==("__debug__" :Str))=false:=by decide) (he:starEach (e::es) X.env=(false,eval e X.env)::starEach es X.env:=by rfl) (nM:(backTo pos (starEach es X.env)).any (·.1)=false:=by rfl):
  PE X (.Call (.Name x p) (e::es) [] pos) (GS C sp ij E t):=by
 intro pins s σ H Q I h
 refine wpAny_Call_Name_kw (f' I hg hm ?_ xZ)
 refine PySem.W.callWith_K (h₀:=X.base) I.ok.mod.i8 M.kp (bK (ha pos pins s σ H _ I h) fun us s1 ⟨vs,H1,I1,r,q⟩=>⟨I1.f9,?_⟩) he nM
 exact x2 M F hr hb hd hx I1 r q
end
section
variable {X:Cx}{CX:xA}{k:Nat}{f C:Addr}{fd:FuncData}{ps ks:List Str}{sp:Sp}{E:XK}{x m:Str}{p pos apos S2:Pos}{e o:Expr}{es:List Expr}{Vs:List Keyword}{te ta:TE}{t tk:TA}{nm:Option Str}
variable {g:List Value→List Value→List Value}{gV:List V→List V→List V}
end
structure az(N P:List Str)(sc:Scope):Prop where
 kind:sc.kind= .function
 co:sc.isCoroutine=false
 gen:sc.isGenerator=false
 nd:N.Nodup
 pre:N.take P.length=P
 par:∀x∈P,sc.names.lookup x=some .local∨sc.names.lookup x=some .cell
 DM:∀y∈sc.names,y.2≠ .free
theorem nN{kindOf:Str→Option NameKind}{x:Str}:∀{binds:List (Str×Value)} {m:Str→Option Value},(∀v,(x,v)∉binds)→bindL kindOf binds m x=m x
 | [],_,_=>rfl
 | (n,v)::r,m,h=>by
   unfold bindL
   rw[nN fun w hw=>h w (List.mem_cons_of_mem _ hw)]
   split
   ·have:x≠n:=by rintro rfl;exact h v List.mem_cons_self
    simp [this]
   ·rfl
theorem nO{kindOf:Str→Option NameKind}{x:Str}:∀{binds:List (Str×Value)} {m:Str→Option Value},(∀v,(x,v)∉binds)→bindC kindOf binds m x=m x
 | [],_,_=>rfl
 | (n,v)::r,m,h=>by
   unfold bindC
   rw[nO fun w hw=>h w (List.mem_cons_of_mem _ hw)]
   split
   ·rfl
   ·have:x≠n:=by rintro rfl;exact h v List.mem_cons_self
    simp [this]
theorem nQ{kindOf:Str→Option NameKind}{x:Str}{v:Value}:∀{P:List Str} {vs:List Value} {i:Nat} {m:Str→Option Value},P.Nodup→P[i]? =some x→vs[i]? =some v→kindOf x=some .local→
  bindL kindOf (P.zip vs) m x=some v
 | [],_,_,_,_,h,_,_=>by simp at h
 |_::_,[],_,_,_,_,h,_=>by simp at h
 |p::P,w::vs,0,m,nd,h1,h2,hk=>by
  simp at h1 h2;subst h1;subst h2
  show bindL kindOf ((p,w)::P.zip vs) m p=_
  unfold bindL
  rw[nN fun v hv=>(List.nodup_cons.mp nd).1 (List.of_mem_zip hv).1,if_pos hk]
  simp
 |p::P,w::vs,i+1,m,nd,h1,h2,hk=>by
  show bindL kindOf ((p,w)::P.zip vs) m x=_
  unfold bindL
  exact nQ (i:=i) (List.nodup_cons.mp nd).2 (by simpa using h1) (by simpa using h2) hk
theorem nR{kindOf:Str→Option NameKind}{x:Str}{v:Value}:∀{P:List Str} {vs:List Value} {i:Nat} {m:Str→Option Value},P.Nodup→P[i]? =some x→vs[i]? =some v→kindOf x≠some .local→
  bindC kindOf (P.zip vs) m x=some v
 | [],_,_,_,_,h,_,_=>by simp at h
 |_::_,[],_,_,_,_,h,_=>by simp at h
 |p::P,w::vs,0,m,nd,h1,h2,hk=>by
  simp at h1 h2;subst h1;subst h2
  show bindC kindOf ((p,w)::P.zip vs) m p=_
  unfold bindC
  rw[nO fun v hv=>(List.nodup_cons.mp nd).1 (List.of_mem_zip hv).1,if_neg hk]
  simp
 |p::P,w::vs,i+1,m,nd,h1,h2,hk=>by
  show bindC kindOf ((p,w)::P.zip vs) m x=_
  unfold bindC
  exact nR (i:=i) (List.nodup_cons.mp nd).2 (by simpa using h1) (by simpa using h2) hk
def start(N:List Str)(vs:List V):St:=vs.map some++List.replicate (N.length - vs.length) none
def gR(CX:xA)(P:Program)(w:World)(K:PySem.W.Frag)(mg:Str→Option Value)(base:Heap)(N:List Str)(qual:Str)(scope:Scope)(f:Addr)(cd:Value)(A:Around)(outer:List Env)(s:Shared)(H:Hp)(E:XK):Cx where
 prog:=P
 w:=w
 K:=K
 mg:=mg
 base:=base
 A:=A.deeper (envOfC qual scope s.heap.objs.size f cd)
 N:=N
 s₀:=s
 H₀:=H
 env:=envOfC qual scope s.heap.objs.size f cd
 outer:=outer
 stack:=envOfC qual scope s.heap.objs.size f cd::outer
 ex:=[]
 calm:=true
 fn:=fun _=>true
 pn:=[]
 xe:=fun e s'=>wpAny (model P w) (A.deeper (envOfC qual scope s.heap.objs.size f cd)) (leaving (envOfC qual scope s.heap.objs.size f cd) e) (fun _ Mt=>CX outer H s E e Mt) (fun e' Mt=>CX outer H s E e' Mt) s'
theorem qK{sc:Scope}{n:Nat}{x:Str}(h:sc.names.lookup x=some .cell):∃c,(cellsFrom n sc.names []).lookup x=some c:=by
 have q:=PySem.W.cellsFrom_some sc.names n [] (.inl h)
 exact Option.isSome_iff_exists.mp q
theorem wd{CX:xA}{P:Program}{w:World}{K:PySem.W.Frag}{mg:Str→Option Value}{base:Heap}{N ps:List Str}{qual:Str}{scope:Scope}{f:Addr}{cd:Value}{A:Around}{outer:List Env}{s s1:Shared}{H:Hp}{E:XK}{us:List Value}{vs:List V}
  (S:az N ps scope) (hd:A.handled=none) (e0:sX P w K mg base A outer s H) (hl:vs.length=ps.length) (r:Vals vs us)
  (x:InCallC s s.heap.objs.size (bindL (envOfC qual scope s.heap.objs.size f cd).kindOf (ps.zip us) fun _=>none) (cellsFrom (s.heap.objs.size+1) scope.names []) (bindC (envOfC qual scope s.heap.objs.size f cd).kindOf (ps.zip us) fun _=>none) s1):
  Inv (gR CX P w K mg base N qual scope f cd A outer s H E) [] (start N vs) H s1:=by
 have nM:ps.length≤N.length:=by have:=congrArg List.length S.pre;rw[List.length_take] at this;omega
 obtain⟨h1,tk,rfl,hk⟩:=x.done
 have GU:∀b:Addr,b∉(gR CX P w K mg base N qual scope f cd A outer s H E).ex:=fun b z=>absurd (show b∈([]:List Addr) from z) (by simp)
 refine⟨⟨e0.mod,S.kind,rfl,rfl,Nat.le_refl _,fun y z c h1 h2=>?_,fun y hy=>?_,fun y c _ h=>?_,fun _=>hd,Around.frames_deeper e0.frames, .inr ⟨rfl,rfl⟩,fun b z=>absurd z (GU b),e0.bs,e0.vW,fun b _ _=>GU b,fun b z=>absurd z (GU b),e0.iH,e0.xM⟩,
  rfl,e0.bare,Un.kept hk,⟨_,x.toInCall.ns,fun i y v h1 h2 h3=>?_⟩,fun y c h=>⟨_,x.cell y c h⟩,e0.bg.fresh (Nat.le_refl _),fun y c h=>?_,fun p hp=>absurd (show p∈([]:List (Addr×Obj)) from hp) (by simp),e0.bg.kept hk,?_⟩
 ·exact name_of_addr x.apart (PySem.mem_of_lookup h1) (PySem.mem_of_lookup h2)
 ·have hy:scope.names.lookup y=some .cell∨scope.names.lookup y=some .free:=hy
  rcases hy with hy|hy
  ·exact qK hy
  ·exact absurd rfl (S.DM _ (PySem.mem_of_lookup hy))
 ·exact Nat.le_of_lt (x.above y c (PySem.mem_of_lookup h))
 ·have hi:i<vs.length:=by
   unfold start at h2
   by_cases hi:i<vs.length
   ·exact hi
   ·rw[List.getElem?_append_right (by simpa using hi)] at h2
    rw[List.getElem?_replicate] at h2
    split at h2<;>cases h2
  have ha:vs[i]? =some v:=by
   unfold start at h2
   rw[List.getElem?_append_left (by simpa using hi),List.getElem?_map] at h2
   cases e:vs[i]? with
   |none=>rw[e] at h2;cases h2
   |some a=>rw[e] at h2;cases h2;rfl
  obtain⟨u,hu,rv⟩:=r.get ha
  have hp:ps[i]? =some y:=by
   rw[←S.pre,List.getElem?_take_of_lt (by omega)];exact h1
  have RE:ps.Nodup:=by rw[←S.pre];exact S.nd.sublist (List.take_sublist _ _)
  refine⟨u,rv,?_⟩
  rcases S.par y (List.mem_of_getElem? hp) with k|k
  ·exact .inl ⟨k,nQ RE hp hu k⟩
  ·obtain⟨c,e⟩:=qK (n:=s.heap.objs.size+1) k
   refine .inr ⟨.inl k,c,e,?_⟩
   have q:=x.cell y c e
   rw[nR RE hp hu (by show scope.names.lookup y≠_;rw[k];decide)] at q
   exact q
 ·exact e0.bg.fresh (Nat.le_of_lt (x.above y c (PySem.mem_of_lookup h)))
 ·unfold start
  show _=N.length
  rw[List.length_append,List.length_map,List.length_replicate]
  omega
theorem fn_of{CX:xA}{P:Program}{w:World}{K:PySem.W.Frag}{mg:Str→Option Value}{base:Heap}{k:Nat}{f:Addr}{name qual:Str}{params:Arguments}{body:List Stmt}{scope:Scope}{dV kV doc pm ba ct oc:Value}{an od:Option Addr}
  {nv:Array (Option Value)} {N ps:List Str} {sp:Sp} (lk:K.lookup f=some ⟨oc,od, .func (PySem.W.fnOf name qual params body scope dV kV doc pm an ba ct),nv⟩) (lQ:PySem.W.codeIn K ba qual=true) (S:az N ps scope)
  (len:∀vs H Q E,sp vs H Q E→vs.length=ps.length)
  (dz:∀(A:Around) (outer:List Env) (s:Shared) (H:Hp) (vs:List V) (Q:VK) (E:XK),cj k (A.deeper (envOfC qual scope s.heap.objs.size f ba))→sp vs H Q E→
   ∃t,jR (gR CX P w K mg base N qual scope f ba A outer s H E) body t∧t { nx:=fun _ H'=>Q .cw H',rt:=Q } (start N vs) H):
  ei P w K mg base CX (k+1) f (PySem.W.fnOf name qual params body scope dV kV doc pm an ba ct) ps sp:=by
 refine⟨len,fun A outer s H args us vs Q E hr e0 hb r xB=>?_⟩
 have hl:=len _ _ _ _ xB
 have KX:K.In s.heap:=e0.mod.i8.keeps fun b o e=>(e0.bs b o e).1
 have lim:s.heap.NoLimit:=e0.mod.nolimit.keeps fun b o e=>(e0.bs b o e).1
 have GV:∀y∈ps.zip us,scope.names.lookup y.1=some .local∨(scope.names.lookup y.1=some .cell∧((cellsFrom (s.heap.objs.size+1) scope.names []).lookup y.1).isSome=true):=fun⟨n,v⟩ hy=>by
  rcases S.par n (List.of_mem_zip hy).1 with q|q
  ·exact .inl q
  ·exact .inr ⟨q,PySem.W.cellsFrom_some _ _ _ (.inl q)⟩
 refine codeAny_call_function hr.depth (KX _ _ lk) rfl S.co S.gen rfl (PySem.W.codeRec_of KX lQ) (hb _ _ _ _ ?_)
 refine wpAny_newFunctionEnv_cells S.kind GV fun env he s1 x=>?_
 subst he
 refine⟨lim.keeps x.toInCall.keep,codeAny_func ?_⟩
 obtain⟨t,ht,hq⟩:=dz A outer s H vs Q E (hr.deeper _) xB
 have I:Inv (gR CX P w K mg base N qual scope f ba A outer s H E) [] (start N vs) H s1:=wd S hr.hd e0 hl r x
 refine wpAny_mono (ht [] s1 (start N vs) H _ I hq) (fun fl s' hs=>?_) fun e s' hs=>hs
 have fin:∀{σ':St} {H':Hp} {v:V} {u:Value},Inv (gR CX P w K mg base N qual scope f ba A outer s H E) [] σ' H' s'→RelV v u→Q v H'→CE outer P w H s Q u s':=
  fun {σ' H' v u} J rv q=>⟨v,H',J.os,J.bare,J.base,J.bg,rv,q⟩
 cases fl with
 |ret u=>
  obtain⟨v,σ',H',J,rv,q⟩:=hs
  exact fin J rv q
 |next=>
  obtain⟨σ',H',J,q⟩:=hs
  exact fin (v:=V.cw) (u:=Value.none) J rfl q
 |brk=>
  obtain⟨_,_,_,q⟩:=hs
  exact False.elim q
 |cont=>
  obtain⟨_,_,_,q⟩:=hs
  exact False.elim q
end L2
namespace L2
open PySem PySem.Spec PyProof.Rows
section
variable {X:Cx}{x:Str}{p pos:Pos}{e:Expr}{es:List Expr}{t:TA}{id T:String}{r:List V→Hp→VK→Prop}
def RF(r:List V→Hp→VK→Prop)(t:TA):TE:=fun σ H Q=>t σ H fun vs H1=>r vs H1 Q
theorem a9(hc:gP X (.builtin id) r)(hg:Gl X x)(hm:X.mg x=none)(hv:bootBuiltins x=some (.builtin id))(ha:PA X (e::es) t)(hn:x≠"__name__" :=by decide)(xZ:(x==("__debug__" :Str))=false:=by decide)
  (he:starEach (e::es) X.env=(false,eval e X.env)::starEach es X.env:=by rfl) (nM:(backTo pos (starEach es X.env)).any (·.1)=false:=by rfl):PE X (.Call (.Name x p) (e::es) [] pos) (RF r t):=by
 intro pins s σ H Q I h
 refine wpAny_Call_Name_kw (oX I hg hm hv ?_ hn xZ)
 exact PyProof.Rows.callWith_builtin1 (bK (ha pos pins s σ H _ I h) fun us s1 ⟨vs,H1,I1,r1,q1⟩=>hc pins s1 σ H1 vs us Q I1 r1 q1) he nM
theorem dm(hc:gP X (.type T) r)(hg:Gl X x)(hm:X.mg x=none)(hv:bootBuiltins x=some (.type T))(ha:PA X (e::es) t)(hn:x≠"__name__" :=by decide)(xZ:(x==("__debug__" :Str))=false:=by decide)
  (he:starEach (e::es) X.env=(false,eval e X.env)::starEach es X.env:=by rfl) (nM:(backTo pos (starEach es X.env)).any (·.1)=false:=by rfl):PE X (.Call (.Name x p) (e::es) [] pos) (RF r t):=by
 intro pins s σ H Q I h
 refine wpAny_Call_Name_kw (oX I hg hm hv ?_ hn xZ)
 exact PyProof.Rows.callWith_type1 (bK (ha pos pins s σ H _ I h) fun us s1 ⟨vs,H1,I1,r1,q1⟩=>hc pins s1 σ H1 vs us Q I1 r1 q1) he nM
end
end L2
namespace L2
open PySem PySem.Spec PyProof.Rows
section
variable {κ:Type}[DecidableEq κ]
def b8(kvs:List (κ×V))(k:κ):Option V:=(kvs.find? fun kv=>decide (kv.1=k)).map (·.2)
def putK(kvs:List (κ×V))(k:κ)(v:V):List (κ×V):=
 if (kvs.any fun kv=>decide (kv.1=k))=true then kvs.map (fun kv=>if kv.1=k then (kv.1,v) else kv) else kvs++[(k,v)]
theorem cx{p:κ×V}{r:List (κ×V)}{k:κ}(e:p.1=k):b8 (p::r) k=some p.2:=by simp [b8,List.find?_cons,e]
theorem cy{p:κ×V}{r:List (κ×V)}{k:κ}(e:¬p.1=k):b8 (p::r) k=b8 r k:=by simp [b8,List.find?_cons,e]
theorem dA(k:κ):∀kvs:List (κ×V),(kvs.any fun kv=>decide (kv.1=k))=(b8 kvs k).isSome
 | []=>rfl
 |p::r=>by
  rw[List.any_cons]
  by_cases e:p.1=k
  ·simp only [cx e,decide_eq_true e,Bool.true_or,Option.isSome_some]
  ·rw[cy e,decide_eq_false e,Bool.false_or];exact dA k r
theorem qM(k j:κ)(y:V):∀kvs:List (κ×V),b8 (kvs.map fun kv=>if kv.1=k then (kv.1,y) else kv) j=(b8 kvs j).map fun x=>if j=k then y else x
 | []=>rfl
 |p::r=>by
  have ih:=qM k j y r
  rw[List.map_cons]
  by_cases h:p.1=k
  ·rw[if_pos h]
   by_cases e:p.1=j
   ·rw[cx (p:=(p.1,y)) e,cx e,Option.map_some,if_pos (e.symm.trans h)]
   ·rw[cy (p:=(p.1,y)) e,cy e,ih]
  ·rw[if_neg h]
   by_cases e:p.1=j
   ·rw[cx (p:=p) e,cx e,Option.map_some,if_neg (fun z=>h (e.trans z))]
   ·rw[cy (p:=p) e,cy e,ih]
theorem nU(k j:κ)(y:V):∀kvs:List (κ×V),b8 kvs k=none→b8 (kvs++[(k,y)]) j=if j=k then some y else b8 kvs j
 | [],_=>by
   by_cases e:k=j
   ·rw[if_pos e.symm];exact cx (p:=(k,y)) e
   ·rw[if_neg (fun z=>e z.symm)];exact cy (p:=(k,y)) e
 |p::r,hn=>by
  rw[List.cons_append]
  have hk:¬p.1=k:=fun z=>by rw[cx z] at hn;cases hn
  rw[cy hk] at hn
  have ih:=nU k j y r hn
  by_cases e:p.1=j
  ·rw[cx e,cx e,if_neg (fun z=>hk (e.trans z))]
  ·rw[cy e,cy e,ih]
theorem x3(kvs:List (κ×V))(k j:κ)(y:V):b8 (putK kvs k y) j=if j=k then some y else b8 kvs j:=by
 unfold putK
 by_cases a:(kvs.any fun kv=>decide (kv.1=k))=true
 ·rw[if_pos a,qM]
  rw[dA] at a
  by_cases e:j=k
  ·obtain⟨x,hx⟩:=Option.isSome_iff_exists.mp a
   rw[if_pos e,e,hx,Option.map_some,if_pos rfl]
  ·rw[if_neg e]
   cases b8 kvs j with
   |none=>rfl
   |some x=>rw[Option.map_some,if_neg e]
 ·rw[if_neg a]
  refine nU k j y kvs ?_
  rw[dA] at a
  cases q:b8 kvs k with
  |none=>rfl
  |some x=>rw[q] at a;exact(a rfl).elim
theorem eo(kvs:List (κ×V))(k:κ)(v:V):(putK kvs k v).length≤kvs.length+1:=by
 unfold putK
 split
 ·rw[List.length_map];omega
 ·rw[List.length_append,List.length_cons,List.length_nil];omega
theorem qN{kvs:List (κ×V)}{k:κ}(v:V)(h:b8 kvs k=none):putK kvs k v=kvs++[(k,v)]:=by
 unfold putK
 rw[dA,h]
 exact if_neg (by decide)
theorem eJ.we{o:Option V}{u:Option Value}(r:eJ o u):o.isSome=u.isSome:=by
 cases o with
 |none=>cases u with
  |none=>rfl
  |some _=>exact(show False from r).elim
 |some _=>cases u with
  |none=>exact(show False from r).elim
  |some _=>rfl
theorem eJ.getD{o:Option V}{u:Option Value}{d:V}{d':Value}(r:eJ o u)(rd:RelV d d'):RelV (o.getD d) (u.getD d'):=by
 cases o with
 |none=>cases u with
  |none=>exact rd
  |some _=>exact(show False from r).elim
 |some _=>cases u with
  |none=>exact(show False from r).elim
  |some _=>exact r
theorem KV.val{kvs:List (κ×V)}{vs:List (κ×Value)}(r:KV kvs vs)(k:κ):eJ (b8 kvs k) (valueAt vs k):=by
 unfold KV at r
 induction r with
 |nil=>exact True.intro
 | @cons p q ps qs h t ih=>
   obtain⟨h1,h2⟩:=h
   by_cases e:p.1=k
   ·have e':q.1=k:=h1.symm.trans e
    have b:valueAt (q::qs) k=some q.2:=by simp [valueAt,List.find?_cons,e']
    rw[cx e,b];exact h2
   ·have e':¬q.1=k:=fun z=>e (h1.trans z)
    have b:valueAt (q::qs) k=valueAt qs k:=by simp [valueAt,List.find?_cons,e']
    rw[cy e,b];exact ih
theorem KV.any{kvs:List (κ×V)}{vs:List (κ×Value)}(r:KV kvs vs)(k:κ):(kvs.any fun kv=>decide (kv.1=k))=vs.any fun kv=>decide (kv.1=k):=by
 unfold KV at r
 induction r with
 |nil=>rfl
 |cons h t ih=>rw[List.any_cons,List.any_cons,ih,h.1]
theorem KV.DN{kvs:List (κ×V)}{vs:List (κ×Value)}(r:KV kvs vs)(k:κ){y:V}{u:Value}(ry:RelV y u):
  KV (kvs.map fun kv=>if kv.1=k then (kv.1,y) else kv) (vs.map fun kv=>if kv.1=k then (kv.1,u) else kv):=by
 unfold KV at r ⊢
 induction r with
 |nil=>exact .nil
 | @cons p q ps qs h t ih=>
   rw[List.map_cons,List.map_cons]
   refine .cons ?_ ih
   obtain⟨h1,h2⟩:=h
   by_cases e:p.1=k
   ·rw[if_pos e,if_pos (h1.symm.trans e)];exact⟨h1,ry⟩
   ·rw[if_neg e,if_neg (fun z=>e (h1.trans z))];exact⟨h1,h2⟩
theorem KV.put{kvs:List (κ×V)}{vs:List (κ×Value)}(r:KV kvs vs)(k:κ){y:V}{u:Value}(ry:RelV y u):KV (putK kvs k y) (stored vs k u):=by
 unfold putK stored
 rw[r.any k]
 by_cases e:(vs.any fun kv=>decide (kv.1=k))=true
 ·rw[if_pos e,if_pos e];exact r.DN k ry
 ·rw[if_neg e,if_neg e];exact Paired.snoc r ⟨rfl,ry⟩
theorem KV.keys{kvs:List (κ×V)}{vs:List (κ×Value)}(r:KV kvs vs):kvs.map (·.1)=vs.map (·.1):=by
 unfold KV at r
 induction r with
 |nil=>rfl
 |cons h t ih=>rw[List.map_cons,List.map_cons,ih,h.1]
theorem KV.length{kvs:List (κ×V)}{vs:List (κ×Value)}(r:KV kvs vs):kvs.length=vs.length:=Paired.length r
end
theorem qO{P:Program}{w:World}{k:Key}{u:Value}(r:RelV (kV k) u):(bI P w).is k u=true:=by
 cases k with
 |inl i=>obtain⟨t,e⟩:=(show∃t,u=Value.int i t from r);subst e;exact qD P w i t
 |inr x=>obtain⟨t,e⟩:=(show∃t,u=Value.str x t from r);subst e;exact qF P w x t
theorem items_are{P:Program}{w:World}:∀{ks:List Key} {us:List Value},Vals (ks.map kV) us→ItemsAre (bI P w) ks us
 | [],_,r=>by rw[List.map_nil] at r;cases r;exact .nil
 |k::ks,_,r=>by
  rw[List.map_cons] at r
  cases r with
  |cons h t=>exact .cons (qO h) (items_are t)
abbrev KT(H:Hp):List (List Key×V)→List (List Key×Addr×Value)→Prop:=Paired fun p q=>p.1=q.1∧H q.2.1=some (.tup (p.1.map kV))∧RelV p.2 q.2.2
theorem KT.val{H:Hp}{kvs:List (List Key×V)}{xs:List (List Key×Addr×Value)}(r:KT H kvs xs)(k:List Key):eJ (b8 kvs k) ((atKey xs k).map (·.2)):=by
 induction r with
 |nil=>exact True.intro
 | @cons p q ps qs h t ih=>
   obtain⟨h1,_,h2⟩:=h
   by_cases e:p.1=k
   ·have e':q.1=k:=h1.symm.trans e
    have b:atKey (q::qs) k=some q.2:=by simp [atKey,List.find?_cons,e']
    rw[cx e,b];exact h2
   ·have e':¬q.1=k:=fun z=>e (h1.trans z)
    have b:atKey (q::qs) k=atKey qs k:=by simp [atKey,List.find?_cons,e']
    rw[cy e,b];exact ih
theorem KT.DN{H:Hp}{kvs:List (List Key×V)}{xs:List (List Key×Addr×Value)}(r:KT H kvs xs)(k:List Key){y:V}{u:Value}(ry:RelV y u):
  KT H (kvs.map fun kv=>if kv.1=k then (kv.1,y) else kv) (xs.map (putAt k u)):=by
 induction r with
 |nil=>exact .nil
 | @cons p q ps qs h t ih=>
   rw[List.map_cons,List.map_cons]
   refine .cons ?_ ih
   obtain⟨h1,h2,h3⟩:=h
   unfold putAt
   by_cases e:p.1=k
   ·rw[if_pos e,if_pos (h1.symm.trans e)];exact⟨h1,h2,ry⟩
   ·rw[if_neg e,if_neg (fun z=>e (h1.trans z))];exact⟨h1,h2,h3⟩
theorem KT.put{H:Hp}{kvs:List (List Key×V)}{xs:List (List Key×Addr×Value)}(r:KT H kvs xs)(k:List Key){b:Addr}{y:V}{u:Value}(hb:H b=some (.tup (k.map kV)))(ry:RelV y u):
  KT H (putK kvs k y) (storedH xs k b u):=by
 have e:(kvs.any fun kv=>decide (kv.1=k))=(atKey xs k).isSome:=by
  rw[dA,(r.val k).we,Option.isSome_map]
 unfold putK storedH
 rw[e]
 by_cases q:(atKey xs k).isSome=true
 ·rw[if_pos q,if_pos q];exact r.DN k ry
 ·rw[if_neg q,if_neg q];exact Paired.snoc r ⟨rfl,hb,ry⟩
theorem KT.keeps{H H':Hp}{kvs:List (List Key×V)}{xs:List (List Key×Addr×Value)}(r:KT H kvs xs)(ht:∀b ys,H b=some (.tup ys)→H' b=some (.tup ys)):KT H' kvs xs:=
 Paired.Dv r fun _ _ z=>⟨z.1,ht _ _ z.2.1,z.2.2⟩
section
variable {P:Program}{w:World}{H:Hp}{h:Heap}{a:Addr}
theorem Cq{u:HO}(ok:gU P w H h)(e:Rd H a u):bM P w H h a u:=e.ok ok
theorem jb{kvs:List (Key×V)}(ok:gU P w H h)(e:Rd H a (.dK kvs)):kvs.length≤sizeLine∧(a==sysModules)=false∧∃vs,KV kvs vs∧h.DictOf (bI P w) a vs:=
 show bM P w H h a (.dK kvs) from Cq ok e
theorem uw{kvs:List (Key×V)}(ok:gU P w H h)(e:H a=some (.dK kvs)):kvs.length≤sizeLine∧(a==sysModules)=false∧∃vs,KV kvs vs∧h.DictOf (bI P w) a vs:=jb ok (.inl e)
theorem key_of{ks:List Key}(ok:gU P w H h)(e:H a=some (.tup (ks.map kV))):(tupleKind (bI P w)).is h ks a:=by
 obtain⟨_,its,r,o,h1,h2,n,h3⟩:=(show bM P w H h a (.tup (ks.map kV)) from ok a _ e)
 exact⟨o,its.toArray,n,h1,h2,h3,by simpa using items_are r⟩
theorem qP{kvs:List (List Key×V)}(ok:gU P w H h)(e:Rd H a (.dT kvs)):kvs.length≤sizeLine∧(a==sysModules)=false∧
  ∃xs,KT H kvs xs∧h.DictOfH (tupleKind (bI P w)) a xs:=by
 obtain⟨z,y,xs,r,o,es,ep,h1,h2,h3,h4,h5⟩:=(show bM P w H h a (.dT kvs) from Cq ok e)
 refine⟨z,y,xs,r,o,es,ep,h1,h2,h3,h4,fun x hx=>?_,h5⟩
 have all:∀{l:List (List Key×V)} {m:List (List Key×Addr×Value)},KT H l m→∀x∈m,(tupleKind (bI P w)).is h x.1 x.2.1:=by
  intro l m q
  induction q with
  |nil=>intro x hx;exact nomatch hx
  | @cons p q ps qs hq t ih=>
    intro x hx
    rcases List.mem_cons.mp hx with e|hx
    ·subst e
     exact key_of ok (by rw[←hq.1];exact hq.2.1)
    ·exact ih x hx
 exact all r x hx
theorem GW{kvs:List (List Key×V)}(ok:gU P w H h)(e:H a=some (.dT kvs)):kvs.length≤sizeLine∧(a==sysModules)=false∧
  ∃xs,KT H kvs xs∧h.DictOfH (tupleKind (bI P w)) a xs:=qP ok (.inl e)
end
def qQ(H:Hp)(a:Addr)(y:V)(r:Option V):Prop:=
 (∃kvs k,Rd H a (.dK kvs)∧y=kV k∧r=b8 kvs k)∨∃kvs k b,Rd H a (.dT kvs)∧y= .ref b∧H b=some (.tup (k.map kV))∧r=b8 kvs k
def x4(H:Hp)(a:Addr)(y v:V)(H':Hp):Prop:=
 (∃kvs k,H a=some (.dK kvs)∧y=kV k∧kvs.length<sizeLine∧H'=upd H a (.dK (putK kvs k v)))∨
 ∃kvs k b,H a=some (.dT kvs)∧y= .ref b∧H b=some (.tup (k.map kV))∧kvs.length<sizeLine∧H'=upd H a (.dT (putK kvs k v))
theorem qQ.k{H:Hp}{a:Addr}{kvs:List (Key×V)}{k:Key}(e:H a=some (.dK kvs)):qQ H a (kV k) (b8 kvs k):= .inl ⟨kvs,k, .inl e,rfl,rfl⟩
theorem x4.k{H:Hp}{a:Addr}{kvs:List (Key×V)}{k:Key}{v:V}(e:H a=some (.dK kvs))(hl:kvs.length<sizeLine):x4 H a (kV k) v (upd H a (.dK (putK kvs k v))):= .inl ⟨kvs,k,e,rfl,hl,rfl⟩
section
variable {X:Cx}{pins:List (Addr×Obj)}{σ:St}{H:Hp}{s:Shared}{a:Addr}{y v:V}{u r:Value}{o:Option V}{A:Around}{E:Value→Shared→Prop}
theorem Inv.big(I:Inv X pins σ H s):sysModules<s.heap.objs.size:=by
 have h:mainGlobals<s.heap.objs.size:=(I.mod.glob.keeps I.bk).lt
 exact Nat.lt_trans (by decide) h
theorem wg{Q:Value→Shared→Prop}(hu:A.units+1<cLine)(I:Inv X pins σ H s)(g:qQ H a y (some v))(ry:RelV y u)(h:∀w' s',Inv X pins σ H s'→RelV v w'→Q w' s'):
  wpAny (model X.prog X.w) A (getItem (.ref a) u) Q E s:=by
 rcases g with ⟨kvs,k,e,ey,l⟩ | ⟨kvs,k,b,e,ey,eb,l⟩
 ·subst ey
  obtain⟨z,hd,vs,rel,dd⟩:=jb I.bg e
  obtain⟨w',hw,qR⟩:=eJ.some_of (v:=v) (o:=valueAt vs k) (by rw[l];exact rel.val k)
  exact wpAny_getItem_of (qO ry) dd.mapOf hw (h w' _ (I.tok _) qR)
 ·subst ey
  cases (show u=Value.ref b from ry)
  obtain⟨z,hd,xs,rel,dd⟩:=qP I.bg e
  obtain⟨w',hw,qR⟩:=eJ.some_of (v:=v) (o:=(atKey xs k).map (·.2)) (by rw[l];exact rel.val k)
  obtain⟨p,hp,AL⟩:=Option.map_eq_some_iff.mp hw
  refine wpAny_getItem_heap (tupleKind_room_in1 hu) (key_of I.bg eb) dd hp ?_
  rw[AL]
  exact h w' _ (I.tok _) qR
theorem o7{h':Heap}{t':Nat}{ob:HO}(I:Inv X pins σ H s)(mu:Gq (H a))(hs:Heap.SameBut a s.heap h')(he:∃q,h'.get? a=some q)(new:bM X.prog X.w (upd H a ob) h' a ob):
  Inv X pins σ (upd H a ob) { s with heap:=h',toks:=t' }:=
 I.write (x:=a) (e:=a) mu (.inl rfl) (fun b q hb z=>(hs.2 b hb).trans z) he new
theorem x5{P:Program}{w:World}{H':Hp}{h':Heap}{kvs:List (Key×V)}{vs:List (Key×Value)}(z:kvs.length≤sizeLine)(hd:(a==sysModules)=false)(rel:KV kvs vs)(dd:h'.DictOf (bI P w) a vs):
  bM P w H' h' a (.dK kvs):=⟨z,hd,vs,rel,dd⟩
theorem wj{H':Hp}{Q:Unit→Shared→Prop}(hu:A.units+1<cLine)(I:Inv X pins σ H s)(g:x4 H a y v H')(ry:RelV y u)(rv:RelV v r)(h:∀s',Inv X pins σ H' s'→Q () s'):
  wpAny (model X.prog X.w) A (setItem (.ref a) u r) Q E s:=by
 rcases g with ⟨kvs,k,e,ey,l,eH⟩ | ⟨kvs,k,b,e,ey,eb,l,eH⟩
 ·subst ey eH
  obtain⟨z,hd,vs,rel,dd⟩:=uw I.bg e
  have hz:vs.length≤sizeLine:=by rw[←rel.length];exact z
  have hl:(putK kvs k v).length≤sizeLine:=by have:=eo kvs k v;omega
  refine wpAny_setItem_pairs (hsz:=hz) (qO ry) dd fun h' Cr hs=>h _ ?_
  have he:∃q,h'.get? a=some q:=let ⟨q,_,_,hq,_⟩:=Cr;⟨q,hq⟩
  exact o7 I (by rw[e];exact True.intro) hs he (x5 hl hd (rel.put k rv) Cr)
 ·subst ey eH
  cases (show u=Value.ref b from ry)
  obtain⟨z,hd,xs,rel,dd⟩:=GW I.bg e
  have hz:xs.length≤sizeLine:=by rw[←Paired.length rel];exact z
  have hl:(putK kvs k v).length≤sizeLine:=by have:=eo kvs k v;omega
  refine wpAny_setItem_heap (hsz:=hz) (tupleKind_room_in1 hu) (key_of I.bg eb) dd fun h' Cr hs=>h _ ?_
  obtain⟨q,es,ep,hq,h2,h3,h4,_,h5⟩:=Cr
  refine o7 I (by rw[e];exact True.intro) hs ⟨q,hq⟩ ⟨hl,hd,_,(rel.put k eb rv).keeps fun c ys ec=>?_,q,es,ep,hq,h2,h3,h4,h5⟩
  rw[ah (xJ ec e (fun z=>nomatch z))]
  exact ec
end
section
variable {X:Cx}{pins:List (Addr×Obj)}{σ:St}{H:Hp}{s:Shared}{a:Addr}{kvs:List (Key×V)}{k:Key}{u:Value}{A:Around}{E:Value→Shared→Prop}
theorem GX{Q:Value→Shared→Prop}(I:Inv X pins σ H s)(e:Rd H a (.dK kvs))(h:∀t s',Inv X pins σ H s'→Q (.int kvs.length t) s'):wpAny (model X.prog X.w) A (call (.builtin "len") [.ref a]) Q E s:=by
 obtain⟨z,hd,vs,rel,dd⟩:=jb I.bg e
 refine call_len_dict hd dd (by rw[←rel.length];rw[sizeLine_eq] at z;omega) ?_
 rw[←rel.length]
 exact h _ _ (I.tok _)
end
def GY(i:Expr):Prop:=∀ov iv,subscripted i false ov iv=operate [ov,iv] (getItem ov iv)
theorem AM{prog:Program}{w:World}{A:Around}{E:Value→Shared→Prop}{s:Shared}{env:Env}{value slice:Expr}{pos:Pos}{T id:String}{Q:Value→Shared→Prop}
  (hl:typeLookup (.type T) "__getitem__" =pure (some (.builtin id))) (hs:GY slice)
  (h:wpAny (model prog w) A (eval value env) (fun o s₁=>wpAny (model prog w) A (eval slice env) (fun i s₂=>s₂.TypeIs o T∧wpAny (model prog w) A (getItem o i) Q E s₂) E s₁) E s):
  wpAny (model prog w) A (eval (.Subscript value slice pos) env) Q E s:=by
 refine Subscript_ (wpAny_mono h (fun o s₁ h₁=>wpAny_mono h₁ (fun i s₂ h₂=>?_) fun _ _ x=>x) fun _ _ x=>x)
 obtain⟨hT,h₂⟩:=h₂
 unfold subscriptTail
 refine wpAny_bind ?_
 rw[getitemInPython_of_ne hT.not_modules]
 refine wpAny_bind (wpAny_specialOf hT hl ?_)
 have fin:wpAny (model prog w) A (subscripted slice false o i) (fun r s₃=>wpAny (model prog w) A (letTemporaryGo value o r >>= fun _=>pure r) Q E s₃) E s₂:=by
  rw[hs o i]
  exact wpAny_operating (wpAny_mono h₂ (fun r s₃ h₃=>wpAny_bind (wpAny_letTemporaryGo (wpAny_pure h₃))) fun _ _ x=>x)
 first
  |exact wpAny_pure (wpAny_bind fin)
  |exact wpAny_bind (wpAny_pure (wpAny_bind fin))
  |exact wpAny_bind fin
theorem qS{X:Cx}{pins:List (Addr×Obj)}{σ:St}{H:Hp}{s:Shared}{a:Addr}{y:V}{o:Option V}(I:Inv X pins σ H s)(g:qQ H a y o):s.TypeIs (.ref a) "dict" :=by
 rcases g with ⟨kvs,k,e,_,_⟩ | ⟨kvs,k,b,e,_,_,_⟩
 ·obtain⟨_,_,vs,_,dd⟩:=jb I.bg e
  exact dd.typeIs
 ·obtain⟨_,_,xs,_,dd⟩:=qP I.bg e
  exact dd.typeIs
def Cs(td ty:TE):TE:=fun σ H Q=>td σ H fun x H1=>ty σ H1 fun y H2=>∃a v,x= .ref a∧qQ H2 a y (some v)∧Q v H2
def Ct(td ty tv:TE):TS:=fun D σ H=>tv σ H fun v H1=>td σ H1 fun x H2=>ty σ H2 fun y H3=>∃a H4,x= .ref a∧x4 H3 a y v H4∧D.nx σ H4
section
variable {X:Cx}{o i e value:Expr}{pos pos' GO:Pos}{td ty tv:TE}
theorem jc(hu:X.A.units+1<cLine)(ho:PE X o td)(hi:PE X i ty)(hs:GY i):PE X (.Subscript o i pos) (Cs td ty):=by
 intro pins s σ H Q I h
 refine AM PySem.F.slot_dict_getitem.lookup hs (bK (ho pins s σ H _ I h) fun u s1 ⟨x,H1,I1,rx,q1⟩=>bK (hi pins s1 σ H1 _ I1 q1) fun iv s2 ⟨y,H2,I2,ry,a,v,ex,g,q2⟩=>?_)
 subst ex
 obtain rfl:u=Value.ref a:=rx
 exact⟨qS I2 g,wg hu I2 g ry fun w' s3 I3 qR=>⟨v,H2,I3,qR,q2⟩⟩
theorem ux(hu:X.A.units+1<cLine)(ho:PE X o td)(hi:PE X i ty)(hv:PE X value tv)(hs:swapsWith value (some (.Subscript o i pos')) pos.line X.env=pure false):
  PS X (.Assign [.Subscript o i pos'] value pos) (Ct td ty tv):=by
 intro pins s σ H D I h
 refine wpAny_Assign_Subscript (bK (hv pins s σ H _ I h) fun r s1 ⟨v,H1,I1,rv,q1⟩=>bK (ho pins s1 σ H1 _ I1 q1) fun u s2 ⟨x,H2,I2,rx,q2⟩=>bK (hi pins s2 σ H2 _ I2 q2) fun iv s3 ⟨y,H3,I3,ry,a,H4,ex,g,q3⟩=>?_) hs
 subst ex
 obtain rfl:u=Value.ref a:=rx
 exact wj hu I3 g ry rv fun s4 I4=>⟨σ,H4,I4,q3⟩
end
theorem qT{P:Program}{w:World}{H:Hp}(h:Heap)(hb:sysModules<h.objs.size):bM P w H (h.push { cls:= .type "dict",data:= .dict #[] }) h.objs.size (.dK []):=
 ⟨Nat.zero_le _,beq_eq_false_iff_ne.mpr (Ne.symm (Nat.ne_of_lt hb)),[], .nil,Heap.DictOf.new h⟩
def DO:TE:=fun _ H Q=>∀p,H p=none→Q (.ref p) (upd H p (.dK []))
section
variable {X:Cx}{pos:Pos}
theorem l6:PE X (.Dict [] [] pos) DO:=fun pins s σ H Q I h=>
 wpAny_Dict_empty ⟨.ref s.heap.objs.size,_,I.laid (a:=s.heap.objs.size) (o:= .dK []) (t':=s.toks) (fun _ _ q=>Heap.get?_push_of_some _ q) (Nat.le_refl _) (qT s.heap I.big),rfl,h _ (I.bg.fresh (Nat.le_refl _))⟩
end
def sY:List (TE×TE)→St→Hp→(List (V×V)→Hp→Prop)→Prop
 | [],_,H,Q=>Q [] H
 | (tk,tv)::r,σ,H,Q=>tk σ H fun x H1=>tv σ H1 fun y H2=>sY r σ H2 fun ps H3=>Q ((x,y)::ps) H3
abbrev VV:List (V×V)→List (Value×Value)→Prop:=Paired fun p q=>RelV p.1 q.1∧RelV p.2 q.2
def Lr(X:Cx)(pos:Pos)(keys:List (Option Expr))(values:List Expr)(AN:List (TE×TE)):Prop:=
 ∀(pins:List (Addr×Obj)) (s:Shared) (σ:St) (H:Hp) (Q:List (V×V)→Hp→Prop),Inv X pins σ H s→sY AN σ H Q→
  wpAny (model X.prog X.w) X.A (evalPairs (pairTrees keys values X.env pos)) (fun vs s'=>∃ps H',Inv X pins σ H' s'∧VV ps vs∧Q ps H') X.xe s
theorem kU{X:Cx}{pos:Pos}:Lr X pos [] [] []:=fun pins s σ H Q I h=>pairTrees_nil_walk ⟨[],H,I, .nil,h⟩
theorem eY{X:Cx}{pos:Pos}{k v:Expr}{ks:List (Option Expr)}{vs:List Expr}{tk tv:TE}{AN:List (TE×TE)}(hk:PE X k tk)(hv:PE X v tv)(hr:Lr X pos ks vs AN):
  Lr X pos (some k::ks) (v::vs) ((tk,tv)::AN):=fun pins s σ H Q I h=>
 pairTrees_cons_walk (bK (hk pins s σ H _ I h) fun u s1 ⟨x,H1,I1,rx,q1⟩=>bK (hv pins s1 σ H1 _ I1 q1) fun w2 s2 ⟨y,H2,I2,ry,q2⟩=>
  bK (hr pins s2 σ H2 _ I2 q2) fun ws s3 ⟨ps,H3,I3,rel,q3⟩=>⟨(x,y)::ps,H3,I3, .cons ⟨rx,ry⟩ rel,q3⟩)
def fE(kvs more:List (Key×V)):List (Key×V):=more.foldl (fun acc kv=>putK acc kv.1 kv.2) kvs
theorem KV.merge:∀{more:List (Key×V)} {rs:List (Key×Value)} {kvs:List (Key×V)} {vs:List (Key×Value)},KV more rs→KV kvs vs→KV (fE kvs more) (merged vs rs):=by
 intro more rs kvs vs r
 unfold KV at r
 induction r generalizing kvs vs with
 |nil=>intro q;exact q
 | @cons p q ps qs h t ih=>
   intro r0
   have e:KV (putK kvs p.1 p.2) (stored vs q.1 q.2):=by
    have:=r0.put p.1 h.2
    rw[←h.1];exact this
   exact ih e
theorem iO:∀(more kvs:List (Key×V)),(fE kvs more).length≤kvs.length+more.length
 | [],kvs=>by show kvs.length≤kvs.length+0;omega
 |p::r,kvs=>by
  have h1:=iO r (putK kvs p.1 p.2)
  have h2:=eo kvs p.1 p.2
  show (fE (putK kvs p.1 p.2) r).length≤_
  rw[List.length_cons];omega
theorem l7{P:Program}{w:World}:∀{kvs:List (Key×V)} {ws:List (Value×Value)},VV (kvs.map fun kv=>(kV kv.1,kv.2)) ws→∃rs,Carries (bI P w) ws rs∧KV kvs rs
 | [],_,r=>by rw[List.map_nil] at r;cases r;exact⟨[],True.intro, .nil⟩
 |p::kvs,_,r=>by
  rw[List.map_cons] at r
  cases r with
  | @cons a b as bs h t=>
    obtain⟨rs,c,q⟩:=l7 (P:=P) (w:=w) t
    obtain⟨b1,b2⟩:=b
    exact⟨(p.1,b2)::rs,⟨qO h.1,rfl,c⟩, .cons ⟨rfl,h.2⟩ q⟩
def GZ(AN:List (TE×TE)):TE:=fun σ H Q=>∀p,H p=none→sY AN σ (upd H p (.dK [])) fun ps H2=>H2 p=some (.dK [])∧∃kvs:List (Key×V),ps=kvs.map (fun kv=>(kV kv.1,kv.2))∧kvs.length≤15∧Q (.ref p) (upd H2 p (.dK (fE [] kvs)))
theorem kW{X:Cx}{pos:Pos}{keys:List (Option Expr)}{values:List Expr}{AN:List (TE×TE)}(h:Lr X pos keys values AN)(qU:keys.all (·.isSome)=true)(hl:keys.length=values.length)(h0:keys≠[])
  (S3:keys.length≤15):PE X (.Dict keys values pos) (GZ AN):=by
 intro pins s σ H Q I q
 have hn:=I.bg.fresh (Nat.le_refl s.heap.objs.size)
 have I1:=I.laid (a:=s.heap.objs.size) (o:= .dK []) (h':=s.heap.push { cls:= .type "dict",data:= .dict #[] }) (t':=s.toks) (fun _ _ q=>Heap.get?_push_of_some _ q) (Nat.le_refl _) (qT s.heap I.big)
 refine wpAny_Dict_walk (knd:=bI X.prog X.w) qU hl h0 S3 (bK (h pins _ σ _ _ I1 (q _ hn)) fun ws s2 ⟨ps,H2,I2,rel,e,kvs,ep,lk,q2⟩=>?_)
 subst ep
 obtain⟨rs,c,rk⟩:=l7 (P:=X.prog) (w:=X.w) rel
 obtain⟨z,hd,Vt,r0,dd⟩:=uw I2.bg e
 cases r0
 refine⟨rs,c,dd,fun h' Cr hs=>⟨.ref s.heap.objs.size,_,?_,rfl,q2⟩⟩
 have hz:(fE [] kvs).length≤sizeLine:=by
  have h1:=iO kvs []
  rw[List.length_nil] at h1
  rw[sizeLine_eq];omega
 have he:∃q,h'.get? s.heap.objs.size=some q:=let ⟨q,_,_,hq,_⟩:=Cr;⟨q,hq⟩
 exact o7 I2 (by rw[e];exact True.intro) hs he (x5 hz hd (rk.merge .nil) Cr)
structure M2(X:Cx)(o:Expr)(m:Str)(apos:Pos)(e f:Expr)(e7:Pos):Prop where
 base:attributeBase o m X.env (eval o X.env)=eval o X.env
 S':((backTo e7 (starEach [e,f] X.env)).all (fun x=>!x.1)&&(backToKw e7 (keywordEach [] X.env)).all (fun x=>x.1.isSome)
  &&decide (([e,f]:List Expr).length+([]:List Keyword).length+(if ([]:List Keyword).isEmpty then 0 else 1) <30))=true
 line:(apos.endLine==e7.line)=true
 trees:backTo e7 (starEach [e,f] X.env)=[(false,eval e X.env),(false,eval f X.env)]
def RG(H:Hp)(a:Addr):Prop:=(∃kvs,Rd H a (.dK kvs))∨∃kvs,Rd H a (.dT kvs)
theorem DP{X:Cx}{pins:List (Addr×Obj)}{σ:St}{H:Hp}{s:Shared}{a:Addr}(I:Inv X pins σ H s)(d:RG H a):
  s.TypeIs (.ref a) "dict" ∧(∀b,Value.ref a= .ref b→∃ob,s.heap.get? b=some ob∧ob.dict=none)∧(a==sysModules)=false:=by
 rcases d with ⟨kvs,e⟩ | ⟨kvs,e⟩
 ·obtain⟨_,hd,vs,_,dd⟩:=jb I.bg e
  refine⟨dd.typeIs,fun b q=>?_,hd⟩
  cases q
  obtain⟨ob,_,_,h1,h2,_⟩:=dd
  exact⟨ob,h1,h2.2.1⟩
 ·obtain⟨_,hd,xs,_,dd⟩:=qP I.bg e
  refine⟨dd.typeIs,fun b q=>?_,hd⟩
  cases q
  obtain⟨ob,_,_,h1,h2,_⟩:=dd
  exact⟨ob,h1,h2.2.1⟩
section
variable {X:Cx}{pins:List (Addr×Obj)}{σ:St}{H:Hp}{s:Shared}{a:Addr}{y d:V}{u r:Value}{o:Option V}{A:Around}{E:Value→Shared→Prop}
theorem DQ{Q:Value→Shared→Prop}(hu:A.units+1<cLine)(I:Inv X pins σ H s)(g:qQ H a y o)(ry:RelV y u)(rd:RelV d r)(h:∀w' s',Inv X pins σ H s'→RelV (o.getD d) w'→Q w' s'):
  wpAny (model X.prog X.w) A (call (.builtin "dict.get") [.ref a,u,r]) Q E s:=by
 rcases g with ⟨kvs,k,e,ey,l⟩ | ⟨kvs,k,b,e,ey,eb,l⟩
 ·subst ey
  obtain⟨z,hd,vs,rel,dd⟩:=jb I.bg e
  refine call_meetsIn PySem.F.slot_dict_get dd.typeIs PySem.F.entry_dict_get (PySem.F.args_dict_get_3 _ _ _) (meets_dict_get_default (bI X.prog X.w) a (qO ry) hd r) ⟨_,dd.mapOf,h _ _ (I.tok _) ?_⟩
  rw[l]
  exact(rel.val k).getD rd
 ·subst ey
  cases (show u=Value.ref b from ry)
  obtain⟨z,hd,xs,rel,dd⟩:=qP I.bg e
  refine call_meetsIn PySem.F.slot_dict_get dd.typeIs PySem.F.entry_dict_get (PySem.F.args_dict_get_3 _ _ _) (meetsH_dict_get_default (tupleKind (bI X.prog X.w)) a b hd r) ⟨tupleKind_room_in1 hu,k,xs,key_of I.bg eb,dd,h _ _ (I.tok _) ?_⟩
  rw[l]
  exact(rel.val k).getD rd
end
def x6(td ty tx:TE):TE:=fun σ H Q=>td σ H fun x H1=>∃a,x= .ref a∧RG H1 a∧ty σ H1 fun y H2=>tx σ H2 fun z H3=>∃o,qQ H3 a y o∧Q (o.getD z) H3
section
variable {X:Cx}{o e f:Expr}{apos e7:Pos}{td ty tx:TE}
theorem l8(hu:X.A.units+1<cLine)(ho:PE X o td)(he:PE X e ty)(hf:PE X f tx)(m:M2 X o "get" apos e f e7):PE X (.Call (.Attribute o "get" apos) [e,f] [] e7) (x6 td ty tx):=by
 intro pins s σ H Q I h
 refine wpAny_Call_method m.base m.S' m.line PySem.F.plainAttrs_dict PySem.F.slot_dict_get PySem.F.type_dict_get (bK (ho pins s σ H _ I h) fun u s1 ⟨x,H1,I1,rx,a,ex,d,q1⟩=>?_)
 subst ex
 obtain rfl:u=Value.ref a:=rx
 obtain⟨t1,t2,_⟩:=DP I1 d
 refine⟨t1,t2,?_⟩
 rw[m.trees]
 refine Calls.callWith_builtin rfl (Calls.evalArgs_plain (Calls.spliced_cons (bK (he pins s1 σ H1 _ I1 q1) fun iv s2 ⟨y,H2,I2,ry,q2⟩=>
  Calls.spliced_cons (bK (hf pins s2 σ H2 _ I2 q2) fun fv s3 ⟨z,H3,I3,rz,ov,g,q3⟩=>Calls.spliced_nil ?_))))
 exact DQ hu I3 g ry rz fun w' s4 I4 qR=>⟨_,H3,I4,qR,q3⟩
end
section
variable {X:Cx}{pins:List (Addr×Obj)}{σ:St}{H:Hp}{s:Shared}{a:Addr}{kvs:List (Key×V)}{A:Around}{E:Value→Shared→Prop}
end
section
variable {X:Cx}{pins:List (Addr×Obj)}{σ:St}{H:Hp}{s:Shared}{a:Addr}{y:V}{u:Value}{A:Around}{E:Value→Shared→Prop}
end
end L2
namespace HT
open PySem PyProof.Rows
section
open PySem.SeqAt
open PySem.AutoSeq1 (wpAny_loadPart')
open PySem.MeetsSeq PySem.MeetsSeq2 PySem.MeetsSeq3
end
section
variable {prog:Program}{w:World}{A:Around}{E:Value→Shared→Prop}{s:Shared}
def qV(n d:Nat):Option Int→Nat
 |none=>d
 |some v=>if v<0 then (v+(n:Int)).toNat else min v.toNat n
theorem x8(n d:Nat):qV n d none=d:=rfl
theorem o8(n d k:Nat):qV n d (some (k:Int))=min k n:=by
 show (if (k:Int) <0 then ((k:Int)+(n:Int)).toNat else min (k:Int).toNat n)=min k n
 rw[if_neg (by omega),Int.toNat_natCast]
end
end HT
namespace L2
open PySem PySem.Spec PyProof.Rows
abbrev TO:=St→Hp→(Option Int→Hp→Prop)→Prop
def PO(X:Cx)(e:Option Expr)(t:TO):Prop:=
 ∀(pins:List (Addr×Obj)) (s:Shared) (σ:St) (H:Hp) (Q:Option Int→Hp→Prop),Inv X pins σ H s→t σ H Q→
  wpAny (model X.prog X.w) X.A (evalPart e X.env) (fun u s'=>∃o H',Inv X pins σ H' s'∧IsPart u o∧Q o H') X.xe s
def AO:TO:=fun _ H Q=>Q none H
def G0(t:TE):TO:=fun σ H Q=>t σ H fun x H1=>∃i,x= .int i∧Q (some i) H1
theorem intsAre_of{ns:List Int}:∀{us:List Value},Vals (ns.map V.int) us→IntsAre us ns:=by
 induction ns with
 |nil=>intro us r;rw[List.map_nil] at r;cases r;exact .nil
 |cons n ns ih=>
  intro us r
  rw[List.map_cons] at r
  cases r with
  |cons r1 r2=>
   obtain⟨t,e⟩:=r1
   subst e
   exact .cons n t (ih r2)
section
variable {X:Cx}{e:Expr}{te:TE}{lo hi:Option Expr}{tl th:TO}{pos p2:Pos}
theorem cY:PO X none AO:=by
 intro pins s σ H Q I h
 rw[evalPart_none]
 exact wpAny_pure ⟨none,H,I, .none,h⟩
theorem bu(h:PE X e te):PO X (some e) (G0 te):=by
 intro pins s σ H Q I hw
 rw[evalPart_some]
 refine bK (h pins s σ H _ I hw) fun u s1 ⟨x,H1,I1,r1,q1⟩=>?_
 obtain⟨i,rfl,q⟩:=q1
 obtain⟨t,rfl⟩:=r1
 exact⟨some i,H1,I1, .int i t,q⟩
def Mu(X:Cx)(r:V→Option Int→Option Int→Hp→VK→Prop):Prop:=
 ∀(pins:List (Addr×Obj)) (s:Shared) (σ:St) (H:Hp) (x:V) (v vl vu:Value) (lo hi:Option Int) (sl:Addr) (Q:VK),Inv X pins σ H s→RelV x v→s.heap.IsSliceOf sl vl vu .none→IsPart vl lo→IsPart vu hi→r x lo hi H Q→
  ∃T id,typeLookup (.type T) "__getitem__" =pure (some (.builtin id))∧s.TypeIs v T∧wpAny (model X.prog X.w) X.A (getItem v (.ref sl)) (EP X pins σ Q) X.xe s
def Ta(r:V→Option Int→Option Int→Hp→VK→Prop)(te:TE)(tl th:TO):TE:=fun σ H Q=>te σ H fun x H1=>tl σ H1 fun l H2=>th σ H2 fun u H3=>r x l u H3 Q
theorem bE{r:V→Option Int→Option Int→Hp→VK→Prop}(hr:Mu X r)(he:PE X e te)(hl:PO X lo tl)(hu:PO X hi th):PE X (.Subscript e (.Slice lo hi none p2) pos) (Ta r te tl th):=by
 intro pins s σ H Q I h
 refine Subscript_ (bK (he pins s σ H _ I h) fun v s1 ⟨x,H1,I1,r1,q1⟩=>?_)
 refine wpAny_Slice (bK (hl pins s1 σ H1 _ I1 q1) fun vl s2 ⟨l,H2,I2,pl,q2⟩=>bK (hu pins s2 σ H2 _ I2 q2) fun vu s3 ⟨u,H3,I3,pu,q3⟩=>?_)
 rw[evalPart_none]
 refine wpAny_pure ?_
 have I4:Inv X pins σ H3 { s3 with heap:=s3.heap.push { cls:= .type "slice",data:= .fields #[vl,vu, .none] } }:=I3.kept (t':=s3.toks) fun b ob q=>Heap.get?_push_of_some _ q
 obtain⟨T,id,hT,ht,hg⟩:=hr pins { s3 with heap:=s3.heap.push { cls:= .type "slice",data:= .fields #[vl,vu, .none] } } σ H3 x v vl vu l u s3.heap.objs.size Q I4 r1 (Heap.IsSliceOf.new ..) pl pu q3
 show wpAny (model X.prog X.w) X.A (subscriptTail e (.Slice lo hi none p2) v (.ref s3.heap.objs.size)) (EP X pins σ Q) X.xe { s3 with heap:=s3.heap.push { cls:= .type "slice",data:= .fields #[vl,vu, .none] } }
 exact tail_any (ops:=[.ref s3.heap.objs.size,v]) ht hT hg (by with_unfolding_all rfl)
def l9(xs:List V)(lo hi:Option Int):List V:=(xs.drop (HT.qV xs.length 0 lo)).take (HT.qV xs.length xs.length hi - HT.qV xs.length 0 lo)
theorem qW(xs:List V)(lo hi:Option Int):(l9 xs lo hi).length≤xs.length:=by
 unfold l9
 rw[List.length_take,List.length_drop]
 omega
end
end L2
namespace L2
open PySem PySem.Spec PyProof.Rows
def Cu(n:Nat)(i:Int):Option Nat:=if 0≤i then (if i<n then some i.toNat else none) else if -(n:Int)≤i then some (i+n).toNat else none
def xC{α:Type}(xs:List α)(i:Int):Option α:=(Cu xs.length i).bind fun j=>xs[j]?
theorem AQ{n:Nat}{i:Int}{j:Nat}(h:Cu n i=some j):seqIndex? i n=some j∧j<n∧ -(n:Int)≤i∧i<n:=by
 unfold Cu at h
 by_cases h0:0≤i
 ·rw[if_pos h0] at h
  by_cases h1:i<n
  ·rw[if_pos h1] at h
   have e:i.toNat=j:=Option.some.inj h
   exact⟨by rw[seqIndex_of h0 h1,e],by omega,by omega,h1⟩
  ·rw[if_neg h1] at h;cases h
 ·rw[if_neg h0] at h
  by_cases h1: -(n:Int)≤i
  ·rw[if_pos h1] at h
   have e:(i+n).toNat=j:=Option.some.inj h
   exact⟨by rw[seqIndex_neg (by omega) h1,e],by omega,h1,by omega⟩
  ·rw[if_neg h1] at h;cases h
theorem o9{α:Type}{xs:List α}{i:Int}{v:α}(h:xC xs i=some v):∃j,seqIndex? i xs.length=some j∧xs[j]? =some v∧j<xs.length∧ -(xs.length:Int)≤i∧i<xs.length:=by
 unfold xC at h
 cases e:Cu xs.length i with
 |none=>rw[e] at h;cases h
 |some j=>
  rw[e] at h
  obtain⟨h1,h2,h3,h4⟩:=AQ e
  exact⟨j,h1,h,h2,h3,h4⟩
theorem pe{α:Type}{xs:List α}{j:Nat}{v:α}(h:xs[j]? =some v):xC xs (j:Int)=some v:=by
 have hj:j<xs.length:=(List.getElem?_eq_some_iff.mp h).1
 have e:Cu xs.length (j:Int)=some j:=by
  unfold Cu
  rw[if_pos (by omega),if_pos (by omega)];simp
 unfold xC;rw[e];exact h
theorem gZ{α:Type}(xs:List α)(v:α):xC (xs++[v]) (-1)=some v:=by
 have hl:(xs++[v]).length=xs.length+1:=by simp
 have e:Cu (xs++[v]).length (-1)=some xs.length:=by
  unfold Cu
  rw[hl,if_neg (by decide),if_pos (by omega)]
  congr 1
  omega
 unfold xC
 rw[e]
 show (xs++[v])[xs.length]? =some v
 simp
def AR(b:Expr):Prop:=∀o i,subscripted b false o i=operate [o,i] (getItem o i)
def Ls(X:Cx)(r:R2):Prop:=
 ∀(value slice:Expr) (pins:List (Addr×Obj)) (s:Shared) (σ:St) (H:Hp) (x y:V) (v u:Value) (Q:VK),Inv X pins σ H s→RelV x v→RelV y u→r x y H Q→
  subscripted slice false v u=operate [v,u] (getItem v u)→wpAny (model X.prog X.w) X.A (subscriptTail value slice v u) (EP X pins σ Q) X.xe s
def Lu(X:Cx)(id:String)(r:V→List V→Hp→VK→Prop):Prop:=
 ∀(pins:List (Addr×Obj)) (s:Shared) (σ:St) (H:Hp) (x:V) (xs:List V) (v:Value) (us:List Value) (Q:VK),Inv X pins σ H s→RelV x v→Vals xs us→r x xs H Q→
  wpAny (model X.prog X.w) X.A (call (.builtin id) (v::us)) (EP X pins σ Q) X.xe s
section
variable {X:Cx}{a b:Expr}{ta tb:TE}{pos:Pos}
theorem bw{r:R2}(hr:Ls X r)(ha:PE X a ta)(hb:PE X b tb)(hs:AR b):PE X (.Subscript a b pos) (xy r ta tb):=by
 intro pins s σ H Q I h
 exact Subscript_ (DH ha hb I h fun v u s2 x y H2 I2 rx ry q=>hr a b pins s2 σ H2 x y v u Q I2 rx ry q (hs _ _))
def Mv(K:PySem.W.Frag):R2:=fun x y H Q=>∃p xs i v,x= .ref p∧y= .int i∧bF K H p xs∧xC xs i=some v∧Q v H
def Mw(K:PySem.W.Frag):R2:=fun x y H Q=>∃p xs i v,x= .ref p∧y= .int i∧iI K H p xs∧xC xs i=some v∧Q v H
def Mx:R2:=fun x y H Q=>∃z i c,x= .str z∧y= .int i∧z.length≤sizeLine∧xC z.cps.toList i=some c∧Q (.str ⟨#[c]⟩) H
theorem cC:Ls X (Mv X.K):=by
 intro value slice pins s σ H x y v u Q I rx ry h hs
 obtain⟨p,xs,i,z,rfl,rfl,hq,he,q⟩:=h
 cases rx
 obtain⟨t,rfl⟩:=ry
 obtain⟨its,r,pl,hz⟩:=I.list hq
 obtain⟨j,h1,h2,h3,h4,h5⟩:=o9 he
 obtain⟨w,ew,qR⟩:=r.get h2
 have hl:=r.length
 have hn:=iV
 have fin:EP X pins σ Q w s:=⟨z,H,I,qR,q⟩
 by_cases h0:0≤i
 ·have hj:i.toNat=j:=by
   rw[seqIndex_of h0 h5] at h1
   exact Option.some.inj h1
  exact item_listR pl.isList h0 (by omega) (by rw[hj];simpa using ew) fin hs
 ·have hj:(i+(its.toArray.size:Int)).toNat=j:=by
   rw[seqIndex_neg (by omega) h4] at h1
   rw[List.size_toArray,←hl]
   exact Option.some.inj h1
  exact subscriptTail_builtinR (x:=w) pl.isList.typeIs slot_list_getitem.lookup
   (wpAny_getItem_list_neg (Q:=fun r s'=>r=w∧EP X pins σ Q r s') pl.isList (by omega) (by rw[List.size_toArray]<;>omega) (by omega) (by rw[hj];simpa using ew) ⟨rfl,fin⟩) hs
theorem ck:Ls X (Mw X.K):=by
 intro value slice pins s σ H x y v u Q I rx ry h hs
 obtain⟨p,xs,i,z,rfl,rfl,hq,he,q⟩:=h
 cases rx
 obtain⟨t,rfl⟩:=ry
 obtain⟨its,r,pl,hz⟩:=I.tuple hq
 obtain⟨j,h1,h2,h3,h4,h5⟩:=o9 he
 obtain⟨w,ew,qR⟩:=r.get h2
 have hl:=r.length
 have hn:=iV
 have fin:EP X pins σ Q w s:=⟨z,H,I,qR,q⟩
 exact subscriptTail_builtinR (x:=w) pl.typeIs slot_tuple_getitem.lookup
  (getItem_tuple (j:=j) (Q:=fun r s'=>r=w∧EP X pins σ Q r s') pl (by omega) (by omega) (by rw[List.size_toArray,←hl];exact h1) (by simpa using ew) ⟨rfl,fin⟩) hs
theorem jX:Ls X Mx:=by
 intro value slice pins s σ H x y v u Q I rx ry h hs
 obtain⟨z,i,c,rfl,rfl,hz,he,q⟩:=h
 obtain⟨t,rfl⟩:=rx
 obtain⟨t',rfl⟩:=ry
 obtain⟨j,h1,h2,h3,h4,h5⟩:=o9 he
 have hl:z.cps.toList.length=z.length:=by simp [Str.length]
 rw[hl] at h1 h4 h5
 have hn:=iV
 exact tail_any (typeIs_str s z t) slot_str_getitem.lookup (getItem_str (c:=c) (by
  have e1:decide (i< -(2^63 :Int))=false:=decide_eq_false (by omega)
  have e2:decide (i≥2^63)=false:=decide_eq_false (by omega)
  rw[e1,e2,Bool.or_false]) (by rw[h1];simpa using h2) ⟨.str ⟨#[c]⟩,H,I.tok _,⟨_,rfl⟩,q⟩) hs
theorem slice_bounds(lo hi:Option Int)(n:Nat):(sliceBounds lo hi none n).1=((HT.qV n 0 lo:Nat):Int)∧(sliceBounds lo hi none n).2.1=((HT.qV n n hi:Nat):Int)∧(sliceBounds lo hi none n).2.2=1:=by
 refine⟨?_,?_,rfl⟩
 ·cases lo with
  |none=>simp [sliceBounds,HT.qV]
  |some i=>
   simp only [sliceBounds,HT.qV,Option.getD_none,show (1 :Int) >0 by decide,if_true]
   by_cases h:i<0
   ·simp only [h,if_true]<;>omega
   ·simp only [h,if_false]<;>omega
 ·cases hi with
  |none=>simp [sliceBounds,HT.qV]
  |some i=>
   simp only [sliceBounds,HT.qV,Option.getD_none,show (1 :Int) >0 by decide,if_true]
   by_cases h:i<0
   ·simp only [h,if_true]<;>omega
   ·simp only [h,if_false]<;>omega
theorem nz(its:List Value)(lo hi:Option Int):slicePick its.toArray lo hi none=((its.drop (HT.qV its.length 0 lo)).take (HT.qV its.length its.length hi - HT.qV its.length 0 lo)).toArray:=by
 obtain⟨h1,h2,h3⟩:=slice_bounds lo hi its.toArray.size
 unfold slicePick
 rw[h1,h2,h3]
 simp only [sliceRange_one,pick_run,List.size_toArray]<;>rfl
def My(K:PySem.W.Frag):V→Option Int→Option Int→Hp→VK→Prop:=fun x lo hi H Q=>∃a xs,x= .ref a∧bF K H a xs∧∀p,H p=none→Q (.ref p) (upd H p (.lst (l9 xs lo hi)))
theorem kX:Mu X (My X.K):=by
 intro pins s σ H x v vl vu lo hi sl Q I rx hs pl pu h
 obtain⟨a,xs,rfl,hx,q⟩:=h
 cases rx
 obtain⟨its,r,ht,hz⟩:=I.list hx
 have hlen:=r.length
 refine⟨"list",_,slot_list_getitem.lookup,ht.isList.typeIs,?_⟩
 refine wpAny_getItem_list_slice ht.isList hs pl pu .none (by simp) ?_ (by rw[List.size_toArray]<;>omega)
 rw[nz,←hlen]
 refine⟨.ref s.heap.objs.size,_,I.laid (t':=s.toks) (o:= .lst (l9 xs lo hi)) (fun b ob q=>Heap.get?_push_of_some _ q) (Nat.le_refl _) ?_,rfl,q _ (I.bg.fresh (Nat.le_refl _))⟩
 exact⟨Nat.le_trans (qW xs lo hi) hz,_,0,(r.drop (HT.qV xs.length 0 lo)).take (HT.qV xs.length xs.length hi - HT.qV xs.length 0 lo),Heap.get?_push_size _ rfl⟩
def gQ:V→Bool
 | .cw=>true
 | .bl _=>true
 | .int _=>true
 | .str _=>true
 |_=>false
def wk:V→V→Bool
 | .cw, .cw=>true
 | .bl a, .bl b=>a==b
 | .bl a, .int b=>(if a then 1 else 0)==b
 | .int a, .bl b=>a==(if b then 1 else 0)
 | .int a, .int b=>a==b
 | .str a, .str b=>a==b
 |_,_=>false
theorem x9{A:Around}{s:Shared}{y x:V}{u v:Value}(ry:RelV y u)(rx:RelV x v)(fy:gQ y=true)(fx:gQ x=true):SeqAt.EqAt A s u v (wk y x):=by
 cases y with
 |cw=>
  cases ry
  cases x with
  |cw=>cases rx;exact SeqAt.EqAt.same _
  |bl b=>cases rx;exact SeqAt.EqAt.none_bool b
  |int b=>obtain⟨t,rfl⟩:=rx;exact SeqAt.EqAt.none_int b t
  |str b=>obtain⟨t,rfl⟩:=rx;exact SeqAt.EqAt.none_str b t
  |_=>exact absurd (show false=true from fx) Bool.false_ne_true
 |bl a=>
  cases ry
  cases x with
  |cw=>cases rx;exact SeqAt.EqAt.bool_none a
  |bl b=>cases rx;exact SeqAt.EqAt.bool_bool a b
  |int b=>obtain⟨t,rfl⟩:=rx;exact SeqAt.EqAt.bool_int a b t
  |str b=>obtain⟨t,rfl⟩:=rx;exact SeqAt.EqAt.bool_str a b t
  |_=>exact absurd (show false=true from fx) Bool.false_ne_true
 |int a=>
  obtain⟨t',rfl⟩:=ry
  cases x with
  |cw=>cases rx;exact SeqAt.EqAt.int_none a t'
  |bl b=>cases rx;exact SeqAt.EqAt.int_bool a t' b
  |int b=>obtain⟨t,rfl⟩:=rx;exact SeqAt.EqAt.int_int a t' b t
  |str b=>obtain⟨t,rfl⟩:=rx;exact SeqAt.EqAt.int_str a t' b t
  |_=>exact absurd (show false=true from fx) Bool.false_ne_true
 |str a=>
  obtain⟨t',rfl⟩:=ry
  cases x with
  |cw=>cases rx;exact SeqAt.EqAt.str_none a t'
  |bl b=>cases rx;exact SeqAt.EqAt.str_bool a t' b
  |int b=>obtain⟨t,rfl⟩:=rx;exact SeqAt.EqAt.str_int a t' b t
  |str b=>obtain⟨t,rfl⟩:=rx;exact SeqAt.EqAt.str_str a t' b t
  |_=>exact absurd (show false=true from fx) Bool.false_ne_true
 |_=>exact absurd (show false=true from fy) Bool.false_ne_true
def x'(x:V)(u:Value):Bool:=match u with
 | .none=>wk .cw x
 | .bool b=>wk (.bl b) x
 | .int i _=>wk (.int i) x
 | .str z _=>wk (.str z) x
 |_=>false
theorem sZ{x y:V}{u:Value}(r:RelV y u)(f:gQ y=true):x' x u=wk y x:=by
 cases y with
 |cw=>cases r;rfl
 |bl b=>cases r;rfl
 |int i=>obtain⟨t,rfl⟩:=r;rfl
 |str z=>obtain⟨t,rfl⟩:=r;rfl
 |_=>exact absurd (show false=true from f) Bool.false_ne_true
theorem ph{x:V}:∀{xs:List V} {us:List Value},Vals xs us→xs.all gQ=true→us.any (x' x)=xs.any fun y=>wk y x
 |_,_, .nil,_=>rfl
 |y::xs,u::us, .cons r t,f=>by
  rw[List.all_cons,Bool.and_eq_true] at f
  rw[List.any_cons,List.any_cons,sZ r f.1,ph t f.2]
theorem jd{A:Around}{s:Shared}{x:V}{v:Value}(rx:RelV x v)(fx:gQ x=true):∀{xs:List V} {us:List Value},Vals xs us→xs.all gQ=true→∀u∈us,SeqAt.EqAt A s u v (x' x u)
 |_,_, .nil,_=>fun u hu=>by cases hu
 |y::xs,u::us, .cons r t,f=>fun u' hu=>by
  rw[List.all_cons,Bool.and_eq_true] at f
  rcases List.mem_cons.mp hu with rfl|hu
  ·rw[sZ r f.1];exact x9 r rx f.1 fx
  ·exact jd rx fx t f.2 u' hu
def Lv(x:V)(xs:List V):Bool:=xs.any fun y=>wk y x
def Tb(K:PySem.W.Frag)(neg:Bool):R2:=fun x y H Q=>∃p xs,y= .ref p∧(bF K H p xs∨iI K H p xs)∧gQ x=true∧xs.all gQ=true∧Q (.bl (if neg then !Lv x xs else Lv x xs)) H
theorem wm:jM X (compareOp .In) (Tb X.K false):=by
 intro pins s σ H x y v u Q I rx ry h
 obtain⟨p,xs,rfl,hq,fx,fs,q⟩:=h
 cases ry
 rcases hq with hq|hq
 ·obtain⟨its,r,pl,hz⟩:=I.list hq
  refine SeqAt.in_listAt (x' x) pl.isList (fun w hw=>jd rx fx r fs w (by simpa using hw)) ⟨.bl _,H,I,rfl,?_⟩
  rw[show its.toArray.any (x' x)=its.any (x' x) by simp,ph r fs]
  exact q
 ·obtain⟨its,r,pl,hz⟩:=I.tuple hq
  refine SeqAt.in_tupleAt (x' x) pl (fun w hw=>jd rx fx r fs w (by simpa using hw)) ⟨.bl _,H,I,rfl,?_⟩
  rw[show its.toArray.any (x' x)=its.any (x' x) by simp,ph r fs]
  exact q
theorem cm:gP X (.builtin "len") (fun xs H Q=>∃p ys,xs=[.ref p]∧(bF X.K H p ys∨iI X.K H p ys)∧Q (.int ys.length) H):=by
 intro pins s σ H xs us Q I r h
 obtain⟨p,ys,rfl,hq,q⟩:=h
 obtain⟨u,rfl,rx⟩:=vals1 r
 cases rx
 have hn:=iV
 rcases hq with hq|hq
 ·obtain⟨its,r',pl,hz⟩:=I.list hq
  have hlen:=r'.length
  exact Calls.call_len_list pl.isList (by simp only [List.size_toArray]<;>omega) ⟨.int ys.length,H,I.tok _,⟨s.toks+1,by rw[List.size_toArray,hlen]⟩,q⟩
 ·obtain⟨its,r',pl,hz⟩:=I.tuple hq
  have hlen:=r'.length
  exact len_tuple pl (by simp only [List.size_toArray]<;>omega) ⟨.int ys.length,H,I.tok _,⟨s.toks+1,by rw[List.size_toArray,hlen]⟩,q⟩
theorem bP:gP X (.builtin "len") (fun xs H Q=>∃z,xs=[.str z]∧z.length≤sizeLine∧Q (.int z.length) H):=by
 intro pins s σ H xs us Q I r h
 obtain⟨z,rfl,hz,q⟩:=h
 obtain⟨u,rfl,t,rfl⟩:=vals1 r
 have hn:=iV
 exact len_str (by omega) ⟨.int z.length,H,I.tok _,⟨_,rfl⟩,q⟩
theorem gi:gP X (.type "list") (fun xs H Q=>∃p ys,xs=[.ref p]∧(bF X.K H p ys∨iI X.K H p ys)∧∀l,H l=none→Q (.ref l) (upd H l (.lst ys))):=by
 intro pins s σ H xs us Q I r h
 obtain⟨p,ys,rfl,hq,q⟩:=h
 obtain⟨u,rfl,rx⟩:=vals1 r
 cases rx
 have fin:∀(its:List Value),Vals ys its→ys.length≤sizeLine→∀(h':Heap) (c':Nat),(∀b o',s.heap.get? b=some o'→h'.get? b=some o')→
   h'.get? s.heap.objs.size=some { cls:= .type "list",dict:=none,data:= .seq its.toArray c',slots:=#[] }→EP X pins σ Q (.ref s.heap.objs.size) { s with heap:=h' }:=fun its r' hz h' c' kp e=>
  ⟨.ref s.heap.objs.size,_,I.laid (t':=s.toks) kp (Nat.le_refl _) (show bM X.prog X.w _ h' _ (.lst ys) from ⟨hz,its,c',r',e⟩),rfl,q _ (I.bg.fresh (Nat.le_refl _))⟩
 rcases hq with hq|hq
 ·obtain⟨its,r',pl,hz⟩:=I.list hq
  have hlen:=r'.length
  obtain⟨o,ho,hc,n,hd⟩:=pl.isList
  exact call_list_seq p (.inl rfl) ho hc hd (fun h' c' kp e=>fin its r' hz h' c' kp e) (by simp only [List.size_toArray]<;>omega)
 ·obtain⟨its,r',pl,hz⟩:=I.tuple hq
  have hlen:=r'.length
  obtain⟨o,ho,hc,n,hd⟩:=pl
  exact call_list_seq p (.inr rfl) ho hc hd (fun h' c' kp e=>fin its r' hz h' c' kp e) (by simp only [List.size_toArray]<;>omega)
def Mz(K:PySem.W.Frag)(T:String)(x:V)(H:Hp):Prop:=match x with
 | .str _=>T="str"
 | .int _=>T="int"
 | .ref p=>(T="list" ∧∃xs,bF K H p xs)∨(T="tuple" ∧∃o,K.lookup p=some o∧o.cls= .type "tuple" ∧o.dict=none)∨
   (T="dict" ∧((∃kvs,H p=some (.dK kvs))∨∃kvs,H p=some (.dT kvs)))∨(T="set" ∧∃S n,H p=some (.set S n))
 |_=>False
theorem ya{pins:List (Addr×Obj)}{σ:St}{H:Hp}{s:Shared}{T:String}{x:V}{v:Value}(I:Inv X pins σ H s)(r:RelV x v)(ty:Mz X.K T x H):
  s.TypeIs v T∧∀a,v= .ref a→∃ob,s.heap.get? a=some ob∧ob.dict=none:=by
 cases x with
 |str z=>
  obtain⟨t,rfl⟩:=r
  cases (show T="str" from ty)
  exact⟨typeIs_str s z t,fun _ e=>nomatch e⟩
 |int i=>
  obtain⟨t,rfl⟩:=r
  cases (show T="int" from ty)
  exact⟨typeIs_int s i t,fun _ e=>nomatch e⟩
 |ref p=>
  cases r
  rcases ty with ⟨rfl,xs,hq⟩ | ⟨rfl,o,hk,hc,hd⟩ | ⟨rfl,hk⟩ | ⟨rfl,S,n,hk⟩
  ·obtain⟨its,_,pl,_⟩:=I.list hq
   refine⟨pl.isList.typeIs,fun a e=>?_⟩
   cases e
   obtain⟨o,n,e,c,hd,_⟩:=pl
   exact⟨o,e,hd⟩
  ·refine⟨⟨o,I.f9 p o hk,hc⟩,fun a e=>?_⟩
   cases e
   exact⟨o,I.f9 _ o hk,hd⟩
  ·have z:∃o,s.heap.get? p=some o∧o.ExactDict:=by
    rcases hk with ⟨kvs,hk⟩ | ⟨kvs,hk⟩
    ·obtain⟨_,_,_,_,o,_,_,e,ex,_⟩:=I.bg p _ hk
     exact⟨o,e,ex⟩
    ·obtain⟨_,_,_,_,o,_,_,e,ex,_⟩:=I.bg p _ hk
     exact⟨o,e,ex⟩
   obtain⟨o,e,ex⟩:=z
   refine⟨⟨o,e,ex.1⟩,fun a e2=>?_⟩
   cases e2
   exact⟨o,e,ex.2.1⟩
  ·obtain⟨o,_,_,_,e,ex,_⟩:=I.bg p _ hk
   refine⟨⟨o,e,ex.1⟩,fun a e2=>?_⟩
   cases e2
   exact⟨o,e,ex.2.1⟩
 |_=>exact False.elim ty
def MA(K:PySem.W.Frag)(T:String)(r:V→List V→Hp→VK→Prop)(to:TE):TE:=fun σ H Q=>to σ H fun x H1=>Mz K T x H1∧r x [] H1 Q
def Tc(K:PySem.W.Frag)(T:String)(r:V→List V→Hp→VK→Prop)(to:TE)(t:TA):TE:=fun σ H Q=>to σ H fun x H1=>Mz K T x H1∧t σ H1 fun xs H2=>r x xs H2 Q
variable {o e:Expr}{es:List Expr}{to:TE}{t:TA}{name:Str}{apos e7:Pos}{T id:String}{r:V→List V→Hp→VK→Prop}
theorem yb(pa:PlainAttrs T)(slot:Slot T name id)(MB:typeOf (.builtin id)=pure (.type "method_descriptor"))(hm:Lu X id r)(ho:PE X o to)
  (ma:attributeBase o name X.env (eval o X.env)=eval o X.env:=by rfl) (md:(apos.endLine==e7.line)=true:=by rfl):PE X (.Call (.Attribute o name apos) [] [] e7) (MA X.K T r to):=by
 intro pins s σ H Q I h
 refine wpAny_Call_method0_late ma md (bK (ho pins s σ H _ I h) fun v s1 ⟨x,H1,I1,r1,ty,q1⟩=>?_)
 obtain⟨h1,h2⟩:=ya I1 r1 ty
 exact⟨T,id,pa,slot,MB,h1,h2,Calls.callWith_builtin rfl (PySem.evalArgs_none (hm pins s1 σ H1 x [] v [] Q I1 r1 .nil q1))⟩
theorem eG(pa:PlainAttrs T)(slot:Slot T name id)(MB:typeOf (.builtin id)=pure (.type "method_descriptor"))(hm:Lu X id r)(ho:PE X o to)(ha:PA X (e::es) t)
  (ma:attributeBase o name X.env (eval o X.env)=eval o X.env:=by rfl)
  (MC:((backTo e7 (starEach (e::es) X.env)).all (fun x=>!x.1)&&(backToKw e7 (keywordEach [] X.env)).all (fun x=>x.1.isSome)
   &&decide ((e::es).length+([]:List Keyword).length+(if ([]:List Keyword).isEmpty then 0 else 1) <30))=true:=by rfl)
  (md:(apos.endLine==e7.line)=true:=by rfl) (hs:starEach (e::es) X.env=(false,eval e X.env)::starEach es X.env:=by rfl) (DR:(backTo e7 (starEach es X.env)).any (·.1)=false:=by rfl):
  PE X (.Call (.Attribute o name apos) (e::es) [] e7) (Tc X.K T r to t):=by
 intro pins s σ H Q I h
 refine wpAny_Call_method_late ma MC md rfl (bK (ho pins s σ H _ I h) fun v s1 ⟨x,H1,I1,r1,ty,q1⟩=>?_)
 obtain⟨h1,h2⟩:=ya I1 r1 ty
 refine⟨T,id,pa,slot,MB,h1,h2,?_⟩
 have hA:=ha e7 pins s1 σ H1 _ I1 q1
 rw[hs] at hA ⊢
 refine Calls.callWith_builtin (by show (false||(backTo e7 (starEach es X.env)).any (·.1))=false;rw[DR]<;>rfl) (Calls.evalArgs_plain ?_)
 exact bK hA fun us s2 ⟨vs,H2,I2,r2,q2⟩=>hm pins s2 σ H2 x vs v us Q I2 r1 r2 q2
end
end L2
namespace L2
open PySem PySem.Spec PyProof.Rows
def RH(X:Cx)(id:String)(r:V→List V→Hp→VK→Prop):Prop:=
 ∀(pins:List (Addr×Obj)) (s:Shared) (σ:St) (H:Hp) (x:V) (xs:List V) (v:Value) (us:List Value) (Q:VK),Inv X pins σ H s→RelV x v→Vals xs us→r x xs H Q→
  wpAny (model X.prog X.w) X.A (call (.builtin id) (v::us)) (EP X pins σ Q) X.xe s
theorem Vals.one:∀{x:V} {us:List Value},Vals [x] us→∃u,us=[u]∧RelV x u
 |_,_, .cons r .nil=>⟨_,rfl,r⟩
theorem Vals.zero:∀{us:List Value},Vals [] us→us=[]
 |_, .nil=>rfl
theorem Vals.dropLast{xs:List V}{us:List Value}(h:Vals xs us):Vals xs.dropLast us.dropLast:=by
 induction h with
 |nil=>exact .nil
 |cons r t ih=>
  cases t with
  |nil=>exact .nil
  |cons q t'=>exact .cons r ih
theorem tf{α:Type}(l:List α):l.eraseIdx (l.length - 1)=l.dropLast:=by
 induction l with
 |nil=>rfl
 |cons a r ih=>
  cases r with
  |nil=>rfl
  |cons b r=>
   have e:(a::b::r).length - 1=((b::r).length - 1)+1:=by
    have h1:(a::b::r).length=r.length+2:=rfl
    have h2:(b::r).length=r.length+1:=rfl
    omega
   rw[e,List.eraseIdx_cons_succ,ih]
   all_goals rfl
section
variable {X:Cx}{pins:List (Addr×Obj)}{σ:St}{H:Hp}{s:Shared}{l b:Addr}{xs ys zs:List V}
theorem Inv.G1{its its':List Value}{n:Nat}{f:Array Value→Array Value}{t':Nat}(I:Inv X pins σ H s)(hH:H l=some (.lst xs))
  (e:s.heap.get? l=some { cls:= .type "list",data:= .seq its.toArray n }) (hf:f its.toArray=its'.toArray) (hv:Vals ys its') (hz:ys.length≤sizeLine):
  Inv X pins σ (upd H l (.lst ys)) { s with heap:=s.heap.update l (Obj.mapSeq f),toks:=t' }:=by
 have q:=PySem.IsL.update e f
 rw[hf] at q
 refine I.write (x:=l) (e:=l) (by rw[hH];exact trivial) (.inl rfl) (fun b' u hb hu=>(Heap.get?_update_other s.heap (Obj.mapSeq f) (Ne.symm hb)).trans hu) ⟨_,q⟩ ?_
 exact⟨hz,its',_,hv,q⟩
theorem Inv.MD{its:List Value}{t':Nat}(I:Inv X pins σ H s)(hv:Vals ys its)(hz:ys.length≤sizeLine):
  Inv X pins σ (upd H s.heap.objs.size (.lst ys)) { s with heap:=s.heap.push { cls:= .type "list",data:= .seq its.toArray },toks:=t' }:=
 I.laid (fun _ _ q=>Heap.get?_push_of_some _ q) (Nat.le_refl _) ⟨hz,its,0,hv,Heap.get?_push_size _ rfl⟩
theorem Inv.G2(I:Inv X pins σ H s)(hH:H l=some (.lst xs)):xs.length≤sizeLine∧∃(its:List Value) (n:Nat),Vals xs its∧xs.length=its.length∧s.heap.get? l=some { cls:= .type "list",data:= .seq its.toArray n }:=by
 obtain⟨z,its,n,r,e⟩:=I.bg l _ hH
 exact⟨z,its,n,r,r.length,e⟩
end
section
variable {X:Cx}
def AS:V→List V→Hp→VK→Prop:=fun x vs H Q=>∃l xs y,x= .ref l∧vs=[y]∧H l=some (.lst xs)∧xs.length<sizeLine∧Q .cw (upd H l (.lst (xs++[y])))
theorem cg:RH X "list.append" AS:=by
 intro pins s σ H x vs v us Q I rx rv h
 obtain⟨l,xs,y,rfl,rfl,hH,hz,q⟩:=h
 cases rx
 obtain⟨u,rfl,ru⟩:=rv.one
 obtain⟨z,its,n,r,hl,e⟩:=I.G2 hH
 refine call_meets F.slot_list_append ⟨_,e,rfl⟩ F.entry_list_append (F.args_list_append_2 _ _) (PySem.list_append l its.toArray n u (by rw[List.size_toArray];omega)) ⟨e,?_⟩
 refine⟨.cw,_,I.G1 (its':=its++[u]) hH e (by simp) (r.append (.cons ru .nil)) ?_,rfl,q⟩
 rw[List.length_append,List.length_singleton]
 omega
def ME:V→List V→Hp→VK→Prop:=fun x vs H Q=>∃l xs y,x= .ref l∧vs=[]∧H l=some (.lst xs)∧xs[xs.length - 1]? =some y∧Q y (upd H l (.lst xs.dropLast))
theorem yc:RH X "list.pop" ME:=by
 intro pins s σ H x vs v us Q I rx rv h
 obtain⟨l,xs,y,rfl,rfl,hH,hy,q⟩:=h
 cases rx
 have MF:=rv.zero
 subst MF
 obtain⟨z,its,n,r,hl,e⟩:=I.G2 hH
 obtain⟨u,hu,ru⟩:=r.get hy
 have MG:its.toArray[its.toArray.size - 1]? =some u:=by
  show its.toArray[its.length - 1]? =some u
  rw[←Array.getElem?_toList,←hl]
  exact hu
 refine call_meets F.slot_list_pop ⟨_,e,rfl⟩ F.entry_list_pop (F.args_list_pop_1 _) (MeetsSeq.list_pop_last l its.toArray n u MG (by rw[List.size_toArray];omega)) ⟨e,?_⟩
 refine⟨y,_,I.G1 (its':=its.dropLast) hH e ?_ r.dropLast ?_,ru,q⟩
 ·show its.toArray.eraseIdxIfInBounds (its.toArray.size - 1)=its.dropLast.toArray
  rw[List.size_toArray,List.eraseIdxIfInBounds_toArray,tf]
 ·rw[List.length_dropLast]
  omega
end
section
variable {prog:Program}{w:World}{A:Around}{E:Value→Shared→Prop}{s:Shared}
end
section
variable {X:Cx}
end
end L2
namespace RK
open PySem PySem.W PySem.Calls PyProof.Rows
theorem kK{P:Params}{h:Heap}:∀(ns:List Int) (vs:List Value),WellAll P h vs (ns.map WData.int)→IntsAre vs ns:=by
 intro ns
 induction ns with
 |nil=>
  intro vs w
  rw[List.map_nil] at w
  cases w
  exact .nil
 |cons n ns ih=>
  intro vs w
  rw[List.map_cons] at w
  cases w with
  |cons a b=>
   cases a
   exact .cons _ _ (ih _ b)
theorem wo{l:OpenLaw}{n:Nat}(hn:l.most=some n){P:Params}{h:Heap}{args:List WData}{vals:List Value}
  (AU:l.row.toRowW.claim.pre args=true) (Lw:WellAll P h vals args):
  ∃a vs ns,vals=[Value.ref a]∧args=[WData.list (ns.map WData.int)]∧h.get? a=some { cls:= .type "list",data:= .seq vs.toArray }∧IntsAre vs ns∧ns.length≤n:=by
 have Td:WShape.hasAll [] args [.list .int]=true:=(pre_splitW AU).1
 have hc:l.pre.holds [] { args:=args }=true:=(pre_splitW AU).2
 obtain⟨d,r,rfl,h1,h2⟩:=hasAllW_cons Td
 obtain rfl:=hasAllW_nil h2
 obtain⟨xs,rfl,h3⟩:=hasW_list h1
 obtain⟨ns,rfl⟩:=items_int h3
 have hlen:ns.length≤n:=by
  unfold OpenLaw.pre at hc
  have h4:(WTm.not (.lt (.lit (.int (n:Int))) (.len (.arg 0)))).holds [] { args:=[.list (ns.map .int)] }=true:=by
   have h4:=(holds_andW hc).1
   rw[hn] at h4
   exact h4
  have h5:=condW_of h4 (w_not (w_lt w_lit (w_len_list (w_arg rfl))))
  rw[List.length_map] at h5
  refine Nat.le_of_not_lt fun q=>?_
  have q':(n:Int) < ((ns.length:Nat):Int):=by omega
  first
   | (rw[decide_eq_true q'] at h5;exact absurd h5 (by decide))
   | (simp at h5;omega)
 cases Lw with
 |cons w1 w2=>
  cases w2
  cases w1 with
  |list ho qU=>exact⟨_,_,ns,rfl,rfl,ho,kK ns _ qU,hlen⟩
theorem wq(l:OpenLaw)(args:List WData):l.row.toRowW.claim.post args (.bool true) args=true:=
 postW_of (r:=l.row.toRowW) (X:=(true==true))
  (show WShape.has [] (.bool true) .bool=true by first|rfl|decide|simp [WShape.has,WShape.arms,WShape.armsAll])
  (show (WTm.eq .res (.lit (.bool true))).value [] { args:=args,res:=some (.bool true),after:=args }=some (.bool (true==true)) from w_eq_bool (w_res rfl) w_lit) rfl
theorem qX{l:OpenLaw}{n:Nat}{q:Program}{loose:List Str}{XP:(Str→Option Value)→Heap→Prop}{YP:World→Heap→Prop}{d:DefRec}
  (hn:l.most=some n) (G3:d.params.defaults=[])
  (call:∀(w:World) (s₀ s₁:Shared) (mg mb:Str→Option Value) (fa:Addr) (o:Obj) (pm cd doc:Value) (a:Addr) (vs:List Value) (ns:List Int),
   Ground q loose [] XP w s₀ mg mb s₁.heap→YP w s₁.heap→
   s₁.heap.get? fa=some o→o.data= .func (docDef d.name d.params d.body d.scope pm cd doc)→s₁.heap.CodeRec cd d.name→mg d.name=some (.ref fa)→
   s₁.heap.get? a=some { cls:= .type "list",data:= .seq vs.toArray }→IntsAre vs ns→ns.length≤n→s₁.gens=#[]→
   codeAny (model l.prog w) callerA (.call (.ref fa) ⟨[.ref a],[]⟩) (fun r s'=>r= .ok (.ret (.bool true))∧OldK s₁.heap s'.heap∧s'.os=s₁.os∧AllBare s'.gens) s₁):
  WalkO q loose XP YP l.row.toRowW d [] (fun f vs=>PySem.call f vs):=by
 intro w s₀ s₁ mg mb G Y fa o pm cd doc dV kV ho hd lQ hD G4 hg args vals as AU Tf Vu Lw MH
 obtain rfl:dV= .none:=Dflts.none hD G3
 obtain rfl:kV= .none:=Dflts.noKw hD
 obtain⟨a,vs,ns,rfl,rfl,DS,hints,hlen⟩:=wo hn AU Lw
 refine enter_call (codeAny_mono (call w s₀ s₁ mg mb fa o pm cd doc a vs ns G Y ho (fd_plain hd) lQ G4 DS hints hlen hg) fun r s' hq=>?_)
 obtain⟨rfl,h2,h3,h4⟩:=hq
 exact⟨.inl ⟨.bool true, .bool true,[],rfl,fun _=>rfl, .bool true,wq l _,fun _=>⟨List.Pairwise.nil,fun _ hm=>(nomatch hm)⟩⟩,h2,h3,h4⟩
section
variable {prog:Program}{w:World}{A:Around}{E:Value→Shared→Prop}{s:Shared}{K:Frag}
end
end RK
namespace L2
open PySem PySem.Spec PyProof.Rows
theorem nV:∀{vs:List Value} {ns:List Int},IntsAre vs ns→Vals (ns.map V.int) vs
 |_,_, .nil=> .nil
 |_,_, .cons n t h=> .cons ⟨t,rfl⟩ (nV h)
def DT(H:Hp):Prop:=∀b,H b=none∨∃o xs,H b=some (.iG o (.lst xs))
theorem yd{P:Program}{w:World}{K:PySem.W.Frag}{mg mb:Str→Option Value}{CX:xA}{k:Nat}{fa a:Addr}{fd:FuncData}{x:Str}{sp:Sp}{s₁:Shared}{vs:List Value}{ns:List Int}
  (KX:K.In s₁.heap) (Cv:s₁.heap.Ns mainGlobals mg) (hb:s₁.heap.Ns builtinsNs mb) (Tg:∀x:Str,x≠"__name__" →mb x=bootBuiltins x) (MI:s₁.heap.NoLimit) (hg:s₁.gens=#[])
  (ha:s₁.heap.get? a=some { cls:= .type "list",data:= .seq vs.toArray }) (hi:IntsAre vs ns) (hl:ns.length≤sizeLine) (hr:cj k callerA)
  (F:∀base:Heap,K.In base→base.Ns mainGlobals mg→ei P w K mg base CX k fa fd [x] sp) (G5:∀(s:Shared) (u:Value),BindsTo s fd ⟨[u],[]⟩ [(x,u)])
  (xB:∀H:Hp,DT H→bF K H a (ns.map V.int)→sp [.ref a] H (fun v _=>v= .bl true) fun _ _ _=>False)
  (MJ:∀H e s',CX [] H s₁ (fun _ _ _=>False) e s'→False):
  codeAny (model P w) callerA (.call (.ref fa) ⟨[.ref a],[]⟩) (fun r s'=>r= .ok (.ret (.bool true))∧OldK s₁.heap s'.heap∧s'.os=s₁.os∧AllBare s'.gens) s₁:=by
 have rv:=nV hi
 have MK:=hi.length
 have core:∀H:Hp,DT H→bF K H a (ns.map V.int)→gU P w H s₁.heap→(∀b,H b≠none→b=a)→(H a≠none→K.lookup a=none)→
   codeAny (model P w) callerA (.call (.ref fa) ⟨[.ref a],[]⟩) (fun r s'=>r= .ok (.ret (.bool true))∧OldK s₁.heap s'.heap∧s'.os=s₁.os∧AllBare s'.gens) s₁:=by
  intro H hO hS bg hA hK
  have base_of:∀{b:Addr} {o:Obj},s₁.heap.get? b=some o→H b=none→(oQ s₁.heap H).get? b=some o:=fun e n=>xK e n
  have GU:∀{b:Addr} {o:Obj} {es:Array DictEntry} {ep:Nat},s₁.heap.get? b=some o→o.data= .dict es ep→H b=none:=fun {b o es ep} e d=>by
   cases q:H b with
   |none=>rfl
   |some u=>
    have e':b=a:=hA b (by rw[q];simp)
    subst e'
    rw[ha] at e;cases e
    have d':Data.seq vs.toArray _=Data.dict es ep:=d
    cases d'
  have Lx:∀{b:Addr} {m:Str→Option Value},s₁.heap.Ns b m→(oQ s₁.heap H).Ns b m:=fun {b m} ⟨o,es,ep,e,d,r⟩=>⟨o,es,ep,base_of e (GU e d),d,r⟩
  have RL:K.In (oQ s₁.heap H):=fun b o e=>base_of (KX b o e) (by
   cases q:H b with
   |none=>rfl
   |some u=>
    have e':b=a:=hA b (by rw[q];simp)
    subst e'
    rw[hK (by rw[q];simp)] at e;cases e)
  have hM:Mod K mg (oQ s₁.heap H):=⟨RL,Lx Cv,⟨mb,Lx hb,Tg⟩,let ⟨mc,h1,h2⟩:=MI;⟨mc,Lx h1,h2⟩⟩
  have e0:sX P w K mg (oQ s₁.heap H) callerA [] s₁ H:=⟨rfl,hM,fun b o e=>AA e,Nat.le_of_eq (vV _ _),trivial,fun b hb=>absurd (show b∈([]:List Addr) from hb) (by simp),bg, .of_eq hg⟩
  refine codeAny_mono ((F _ RL (Lx Cv)).run callerA [] s₁ H ⟨[.ref a],[]⟩ [.ref a] [.ref a] _ _ hr e0 (G5 s₁ (.ref a)) (.cons rfl .nil) (xB H hO hS)) fun r s' h=>?_
  cases r with
  |error e=>exact(MJ H e s' h).elim
  |ok fl=>
   cases fl with
   |next=>exact False.elim h
   |brk=>exact False.elim h
   |cont=>exact False.elim h
   |ret u=>
    obtain⟨v,H',os,bare,un,ML,r',q⟩:=h
    have q':v= .bl true:=q
    subst q'
    obtain rfl:u=Value.bool true:=r'
    refine⟨rfl,OldK.of_keep fun b o e=>?_,os,bare⟩
    cases q:H b with
    |none=>exact un.keep b o e q (by intro z;exact absurd (show b∈([]:List Addr) from z) (by simp)) (by simp)
    |some u=>
     rcases hO b with z| ⟨ob,xs,z⟩
     ·rw[q] at z;cases z
     ·have z2:=un.jP b ob _ z
      obtain⟨e1,_⟩:=bg b _ z
      obtain⟨e2,_⟩:=ML b _ z2
      rw[e] at e1;cases e1
      exact e2
 cases hk:K.lookup a with
 |some o=>
  have e:=KX a o hk
  rw[ha] at e
  cases e
  refine core (fun _=>none) (fun _=> .inl rfl) (.inr ⟨_,vs.toArray,_,hk,rfl,rfl,rfl,by rw[List.size_toArray,MK];exact hl,by simpa using rv⟩) (fun b u z=>by have z':(none:Option HO)=some u:=z;cases z') (fun b z=>absurd rfl z) fun z=>absurd rfl z
 |none=>
  refine core (fun b=>if b=a then some (.iG { cls:= .type "list",data:= .seq vs.toArray } (.lst (ns.map V.int))) else none) (fun b=>?_) (.inl (.inr ⟨{ cls:= .type "list",data:= .seq vs.toArray },if_pos rfl⟩)) (fun b u z=>?_) (fun b z=>?_) fun _=>hk
  ·by_cases hb:b=a
   ·exact .inr ⟨_,_,if_pos hb⟩
   ·exact .inl (if_neg hb)
  ·by_cases hb:b=a
   ·have z':=(if_pos hb).symm.trans z
    cases z'
    subst hb
    exact⟨ha,by rw[List.length_map];exact hl,vs,_,rv,ha⟩
   ·have z':=(if_neg hb).symm.trans z
    cases z'
  ·by_cases hb:b=a
   ·exact hb
   ·exact absurd (if_neg hb) z
end L2
namespace L2
open PySem PySem.Spec PyProof.Rows
theorem AV{l:PySem.W.OpenLaw}{n k:Nat}{q:Program}{loose:List Str}{XP:(Str→Option Value)→Heap→Prop}{YP:World→Heap→Prop}{d:DefRec}{K:Params→PySem.W.Frag}{CX:World→xA}{sp:World→Sp}{x:Str}
  (hn:l.most=some n) (F7:n≤sizeLine) (G3:d.params.defaults=[]) (hr:cj k callerA)
  (hY:∀(w:World) (h:Heap),YP w h→(K w.params).In h)
  (F:∀(w:World) (mg:Str→Option Value) (fa:Addr) (h:Heap),(K w.params).In h→h.Ns mainGlobals mg→mg d.name=some (.ref fa)→
   ∃fd:FuncData,(∀(s:Shared) (u:Value),BindsTo s fd ⟨[u],[]⟩ [(x,u)])∧
    ∀base:Heap,(K w.params).In base→base.Ns mainGlobals mg→ei l.prog w (K w.params) mg base (CX w) k fa fd [x] (sp w))
  (xB:∀(w:World) (H:Hp) (a:Addr) (ns:List Int),ns.length≤n→DT H→bF (K w.params) H a (ns.map V.int)→sp w [.ref a] H (fun v _=>v= .bl true) fun _ _ _=>False)
  (MJ:∀(w:World) (H:Hp) (s:Shared) (e:Value) (s':Shared),CX w [] H s (fun _ _ _=>False) e s'→False):
  PySem.W.WalkO q loose XP YP l.row.toRowW d [] (fun f vs=>PySem.call f vs):=by
 refine RK.qX hn G3 fun w s₀ s₁ mg mb fa o pm cd doc a vs ns G Y ho hd lQ G4 DS hints hlen hg=>?_
 have KX:=hY w _ Y
 obtain⟨fd,hb,hF⟩:=F w mg fa _ KX G.T.g G4
 exact yd KX G.T.g G.T.b G.T.builtins G.T.nolimit hg DS hints (Nat.le_trans hlen F7) hr hF hb (fun H hO hS=>xB w H a ns hlen hO hS) fun H e s'=>MJ w H s₁ e s'
end L2
namespace L2
open PySem PySem.Spec PyProof.Rows
def inClass(s:Stmt)(j:Nat):Stmt:=match s with
 | .ClassDef _ _ _ body _ _ _ _ _ _ _=>body.getD j (.Pass ⟨0,0,0,0⟩)
 |_=> .Pass ⟨0,0,0,0⟩
def bD(s:Stmt):Arguments:=match s with
 | .FunctionDef _ a _ _ _ _ _ _ _ _=>a
 |_=>{ posonlyargs:=[],args:=[],vararg:=none,kwonlyargs:=[],kw_defaults:=[],kwarg:=none,defaults:=[] }
def aZ(s:Stmt):List Stmt:=match s with
 | .FunctionDef _ _ b _ _ _ _ _ _ _=>b
 |_=>[]
def ao(s:Stmt):Scope:=match s with
 | .FunctionDef _ _ _ _ _ _ sc _ _ _=>sc
 |_=>{ kind:= .function,names:=[],isGenerator:=false,isCoroutine:=false }
abbrev pj:xA:=fun _ _ _ _ _ _=>False
abbrev E0:XK:=fun _ _ _=>False
theorem aM{X:Cx}:Passes pj X E0:=fun _ _ _ _ _ _ _ h=>h.elim
structure xD(K:PySem.W.Frag)(x qual:Str)(st:Stmt)(f:Addr)(fd:FuncData):Prop where
 ex:∃(oc:Value) (od:Option Addr) (kV doc pm:Value) (an:Option Addr) (ba ct:Value) (nv:Array (Option Value)),
  fd=PySem.W.fnOf x qual (bD st) (aZ st) (ao st) .none kV doc pm an ba ct∧K.lookup f=some ⟨oc,od, .func fd,nv⟩∧PySem.W.codeIn K ba qual=true
 kp:PySem.W.keepIn K (.ref f)=true
section
variable {P:Program}{w:World}{K:PySem.W.Frag}{mg:Str→Option Value}{base:Heap}
theorem xD.ok{x qual:Str}{st:Stmt}{f:Addr}{fd:FuncData}{N ps:List Str}{k:Nat}{sp:Sp}(F:xD K x qual st f fd)(S:az N ps (ao st))(len:∀vs H Q E,sp vs H Q E→vs.length=ps.length)
  (dz:∀(ba:Value) (A:Around) (outer:List Env) (s:Shared) (H:Hp) (vs:List V) (Q:VK) (E:XK),cj k (A.deeper (envOfC qual (ao st) s.heap.objs.size f ba))→sp vs H Q E→
   ∃t,jR (gR pj P w K mg base N qual (ao st) f ba A outer s H E).Av (aZ st) t∧t { nx:=fun _ H'=>Q .cw H',rt:=Q } (start N vs) H):ei P w K mg base pj (k+1) f fd ps sp:=by
 obtain⟨oc,od,kV,doc,pm,an,ba,ct,nv,rfl,lk,lQ⟩:=F.ex
 refine fn_of lk lQ S len fun A outer s H vs Q E hr xB=>?_
 obtain⟨t,h,q⟩:=dz ba A outer s H vs Q E hr xB
 exact⟨t,h.Av,q⟩
theorem xD.binds{x qual:Str}{st:Stmt}{f:Addr}{fd:FuncData}{ps:List Str}(F:xD K x qual st f fd)
  (h:∀(kV doc pm:Value) (an:Option Addr) (ba ct:Value) (us:List Value),us.length=ps.length→bindArgs (PySem.W.fnOf x qual (bD st) (aZ st) (ao st) .none kV doc pm an ba ct) ⟨us,[]⟩=pure (ps.zip us)):Binds K fd ps []:=by
 obtain⟨oc,od,kV,doc,pm,an,ba,ct,nv,rfl,lk,lQ⟩:=F.ex
 exact .all (h kV doc pm an ba ct)
theorem DU{x qual:Str}{st:Stmt}{f:Addr}{oc:Value}{od an:Option Addr}{nv:Array (Option Value)}{kV doc pm ba ct:Value}(l:K.lookup f=some ⟨oc,od, .func (PySem.W.fnOf x qual (bD st) (aZ st) (ao st) .none kV doc pm an ba ct),nv⟩)
  (c:PySem.W.codeIn K ba qual=true) (k:PySem.W.keepIn K (.ref f)=true):xD K x qual st f (PySem.W.fnOf x qual (bD st) (aZ st) (ao st) .none kV doc pm an ba ct):=⟨⟨oc,od,kV,doc,pm,an,ba,ct,nv,rfl,l,c⟩,k⟩
end
theorem nX{A:Around}{k:Nat}(hr:cj k A):A.units+1<cLine:=Nat.lt_of_le_of_lt (Nat.add_le_add_left (by decide:1≤64) _) hr.units
theorem n8{n:Nat}(h:n≤1000):n<sizeLine:=Nat.lt_of_le_of_lt h (by decide)
section
variable {X:Cx}
theorem pv(i:Nat){x:Str}{pos:Pos}(hN:X.N[i]? =some x:=by rfl)(hv:L6 X.env.scope x:=by first|exact Or.inl rfl|exact Or.inr (Or.inl rfl) |exact Or.inr (Or.inr rfl))(hd:(x==("__debug__" :Str))=false:=by decide)
  (lQ:(x==("__classdict__" :Str))=false:=by decide):PE X (.Name x pos) (iU i):=Dy hN hv hd lQ
end
theorem cQ{A B:Prop}(h:B):if false=true then A else B:=by
 rw[if_neg Bool.false_ne_true]
 exact h
theorem cA{A B:Prop}(h:A):if true=true then A else B:=by
 rw[if_pos rfl]
 exact h
theorem dq{c A B:Prop}[Decidable c](h1:c→A)(h2:¬c→B):if c then A else B:=by
 by_cases h:c
 ·rw[if_pos h]
  exact h1 h
 ·rw[if_neg h]
  exact h2 h
theorem uz{c A B:Prop}[Decidable c](hc:c)(h:B):if (!decide c)=true then A else B:=by
 rw[decide_eq_true hc]
 exact cQ h
def aD(H H':Hp):Prop:=∀b o,H b=some o→H' b=some o
theorem aD.refl(H:Hp):aD H H:=fun _ _ h=>h
theorem aD.trans{H H1 H2:Hp}(a:aD H H1)(b:aD H1 H2):aD H H2:=fun c o h=>b c o (a c o h)
theorem aD.free{H H':Hp}(e:aD H H'){l:Addr}(h:H' l=Option.none):H l=Option.none:=by
 cases q:H l with
 |none=>rfl
 |some o=>
  rw[e l o q] at h
  cases h
theorem aD.seq{K:PySem.W.Frag}{H H':Hp}{a:Addr}{xs:List V}(e:aD H H')(h:bF K H a xs):bF K H' a xs:=by
 rcases h with (h| ⟨o,h⟩) |h
 ·exact .inl (.inl (e _ _ h))
 ·exact .inl (.inr ⟨o,e _ _ h⟩)
 ·exact .inr h
section
variable {κ:Type}[DecidableEq κ]
theorem me{kvs:List (κ×V)}{k:κ}(h:b8 kvs k=none):¬k∈kvs.map (·.1):=by
 intro m
 obtain⟨p,hp,e⟩:=List.mem_map.mp m
 have q:(kvs.any fun kv=>decide (kv.1=k))=true:=List.any_eq_true.mpr ⟨p,hp,decide_eq_true e⟩
 rw[dA,h] at q
 exact absurd q (by simp)
theorem uA{kvs:List (κ×V)}{k:κ}{v:V}(h:b8 kvs k=some v):k∈kvs.map (·.1):=by
 have q:(kvs.any fun kv=>decide (kv.1=k))=true:=by
  rw[dA,h]
  all_goals rfl
 obtain⟨p,hp,e⟩:=List.any_eq_true.mp q
 exact List.mem_map.mpr ⟨p,hp,of_decide_eq_true e⟩
theorem uF:∀{l:List κ} {k:κ},l.Nodup→¬k∈l→(l++[k]).Nodup
 | [],k,_,_=>by simp
 |a::r,k,h,hk=>by
  obtain⟨h1,h2⟩:=List.nodup_cons.mp h
  show (a::(r++[k])).Nodup
  refine List.nodup_cons.mpr ⟨fun m=>?_,uF h2 fun m=>hk (List.mem_cons.mpr (Or.inr m))⟩
  rcases List.mem_append.mp m with q|q
  ·exact h1 q
  ·exact hk (List.mem_cons.mpr (Or.inl (List.mem_singleton.mp q).symm))
theorem AW{kvs:List (κ×V)}{k:κ}(v:V)(hn:(kvs.map (·.1)).Nodup)(h:b8 kvs k=none):((putK kvs k v).map (·.1)).Nodup:=by
 rw[qN v h,List.map_append]
 exact uF hn (me h)
end
end L2
namespace L2
open PySem PySem.Spec PyProof.Rows
section
variable {X:Cx}{pins:List (Addr×Obj)}{σ:St}{H:Hp}{s:Shared}{a:Addr}{u u':HO}
theorem Inv.Cw(I:Inv X pins σ H s)(e:H a=some u)(nw:bM X.prog X.w (upd H a u') s.heap a u')
  (h1:∀xs,X.H₀ a≠some (.tup xs)) (h2:∀o z,X.H₀ a≠some (.iG o z)) (h3:∀ps,X.H₀ a≠some (.Ci ps))
  (n1:∀x,u≠ .own x) (n2:∀xs,u≠ .tup xs):Inv X pins σ (upd H a u') s:=by
 have na:∀b,H b=none→(upd H a u') b=none:=fun b q=>by
  rw[ah (fun z=>by rw[z,e] at q;cases q)];exact q
 have B:=I.base
 refine⟨I.ok,I.os,I.bare,⟨B.keep,B.slot,fun b o q n x=>na b (B.free b o q n x),B.there,fun b xs q=>?_,fun b o z q=>?_,fun b ps q=>?_⟩,
  I.loc,I.cell,na _ I.free,fun x c q=>na _ (I.eF x c q),fun p hp=>?_,fun b o q=>?_,I.len⟩
 ·rw[ah (show b≠a from fun z=>h1 xs (by rw[←z];exact q))];exact B.jO b xs q
 ·rw[ah (show b≠a from fun z'=>h2 o z (by rw[←z'];exact q))];exact B.jP b o z q
 ·rw[ah (show b≠a from fun z'=>h3 ps (by rw[←z'];exact q))];exact B.jQ b ps q
 ·obtain⟨p1,p2,p3⟩:=I.pin p hp
  exact⟨p1,na _ p2,p3⟩
 ·by_cases hb:b=a
  ·subst hb
   rw[ag] at q
   cases q
   exact nw
  ·rw[ah hb] at q
   refine(I.bg b o q).oP (fun _ _ _ z=>z) (fun c z=>?_) fun c xs z=>?_
   ·rw[ah (fun z'=>by rw[z',e] at z;exact n1 b (Option.some.inj z))];exact z
   ·rw[ah (fun z'=>by rw[z',e] at z;exact n2 xs (Option.some.inj z))];exact z
def NF(X:Cx)(a:Addr):Prop:=∀o z,X.H₀ a≠some (.iG o z)
theorem Inv.nf{kvs:List (Key×V)}(I:Inv X pins σ H s)(e:H a=some (.dK kvs)):NF X a:=fun o z q=>by
 have:=I.base.jP a o z q
 rw[e] at this;cases this
theorem Inv.freeze{kvs:List (Key×V)}(I:Inv X pins σ H s)(e:H a=some (.dK kvs)):∃o,s.heap.get? a=some o∧Inv X pins σ (upd H a (.iG o (.dK kvs))) s:=by
 have ok:=I.bg a _ e
 obtain⟨z,hd,vs,rel,dd⟩:=uw I.bg e
 obtain⟨o,es,ep,ho,r⟩:=id dd
 refine⟨o,ho,I.Cw e ⟨ho,z,hd,vs,rel,dd⟩ (fun xs q=>?_) (I.nf e) (fun ps q=>?_) (fun x q=>by cases q) fun xs q=>by cases q⟩
 ·have:=I.base.jO a xs q
  rw[e] at this;cases this
 ·obtain⟨m,q'⟩:=I.base.jQ a ps q
  rw[e] at q';cases q'
theorem Inv.ye{kvs:List (Key×V)}{o:Obj}(I:Inv X pins σ H s)(e:H a=some (.iG o (.dK kvs)))(nf:NF X a):Inv X pins σ (upd H a (.dK kvs)) s:=by
 obtain⟨ho,z,hd,vs,rel,dd⟩:=(show bM X.prog X.w H s.heap a (.iG o (.dK kvs)) from I.bg a _ e)
 refine I.Cw e (show bM X.prog X.w _ s.heap a (.dK kvs) from ⟨z,hd,vs,rel,dd⟩) (fun xs q=>?_) nf (fun ps q=>?_) (fun x q=>by cases q) fun xs q=>by cases q
 ·have:=I.base.jO a xs q
  rw[e] at this;cases this
 ·obtain⟨m,q'⟩:=I.base.jQ a ps q
  rw[e] at q';cases q'
theorem mf{o:HO}(e:H a=some o):upd H a o=H:=by
 funext b
 by_cases hb:b=a
 ·subst hb;rw[ag,e]
 ·rw[ah hb]
end
def Cy(a:Addr)(o:Obj)(kvs:List (Key×V)):It:=
 ⟨fun i H=>H a=some (.iG o (.dK kvs))∧i<kvs.length,fun i H x H'=>H'=H∧∃k v,kvs[i]? =some (k,v)∧x=kV k,fun i H=>H a=some (.iG o (.dK kvs))∧kvs.length≤i⟩
theorem KV.get{κ:Type}:∀{kvs:List (κ×V)} {vs:List (κ×Value)} {i:Nat} {k:κ} {v:V},KV kvs vs→kvs[i]? =some (k,v)→∃u,vs[i]? =some (k,u)∧RelV v u
 |_,_,_,_,_, .nil,h=>by simp at h
 |_,_,0,k,v, .cons (a:=p) (b:=q) r _,h=>by
  have hp:p=(k,v):=by simpa using h
  subst hp
  have e:k=q.1:=r.1
  exact⟨q.2,by rw[List.getElem?_cons_zero,e],r.2⟩
 |_,_,i+1,_,_, .cons _ t,h=>by
  simp only [List.getElem?_cons_succ] at h ⊢
  exact KV.get (kvs:=_) t h
theorem AX{P:Program}{w:World}{k:Key}{u:Value}(h:(bI P w).is k u=true):RelV (kV k) u:=by
 rw[sN] at h
 rcases bR h with ⟨i,t,rfl,rfl⟩ | ⟨x,t,rfl,rfl⟩
 ·exact⟨t,rfl⟩
 ·exact⟨t,rfl⟩
theorem yf{P:Program}{w:World}{H:Hp}{h:Heap}{a:Addr}{o:Obj}{kvs:List (Key×V)}{es:Array DictEntry}{ep:Nat}(ok:gU P w H h)(e:H a=some (.iG o (.dK kvs)))(hd:o.data= .dict es ep):
  ∃vs,KV kvs vs∧h.DictAt (bI P w) a vs ep∧(a==sysModules)=false:=by
 obtain⟨ho,z,hs,vs,rel,dd⟩:=(show bM P w H h a (.iG o (.dK kvs)) from ok a _ e)
 obtain⟨o',Ll,Lm,sP,ex,lO,r⟩:=dd
 rw[ho] at sP;cases sP
 rw[hd] at lO;cases lO
 exact⟨vs,rel,⟨o,es,ho,ex,hd,r⟩,hs⟩
theorem wt{P:Program}{w:World}{K:PySem.W.Frag}{tg:Expr}(a it:Addr)(o:Obj)(kvs:List (Key×V)){es:Array DictEntry}{ep:Nat}(hd:o.data= .dict es ep):
  Turn P w K tg (Cy a o kvs) [it] it (fun i h=>h.IsKeyIter it a i kvs.length ep) where
 mem:=by simp
 obj:=fun i h st b hb=>by
  have e:b=it:=by simpa using hb
  subst e
  obtain⟨o,e,c,d⟩:=st
  exact⟨o,e,fun v z=>by rw[d] at z;cases z⟩
 keep:=fun i h h' st k=>let ⟨o,ho,r⟩:=st;⟨o,k it (by simp) o ho,r⟩
 item:=by
  intro X hP hw hK hc i pins s σ H E I hf st hg
  subst hP hw hK
  obtain⟨hz,hi⟩:=hg
  obtain⟨vs,rel,dd,hs⟩:=yf I.bg hz hd
  obtain⟨k,v,F8⟩:∃k v,kvs[i]? =some (k,v):=⟨kvs[i].1,kvs[i].2,by simp [hi]⟩
  obtain⟨u,hu,ru⟩:=rel.get F8
  obtain⟨f0,f1,f2,f3,f4,f5⟩:=hf it (by simp)
  rw[rel.length] at st
  refine wpAny_pyNext_dict_item st dd hu fun key h' hk xx sb=>?_
  rw[←rel.length] at xx
  have I1:Inv X pins σ H { s with heap:=h' }:=I.turned (t':=s.toks) (fun b o hb e=>(sb.2 b hb).trans e) f0 f1 f3 f4 f5
  obtain⟨oi,e,c,d⟩:=id xx
  exact⟨key,rfl,um (s:={ s with heap:=h' }) e c d (by decide) ⟨kV k,H,I1,AX hk,⟨rfl,k,v,F8,rfl⟩,xx,fun b hb=>(hf b hb).1⟩⟩
 done:=by
  intro X hP hw hK hc i pins s σ H E I hf st hg
  subst hP hw hK
  obtain⟨hz,hi⟩:=hg
  obtain⟨vs,rel,dd,hs⟩:=yf I.bg hz hd
  obtain⟨f0,f1,f2,f3,f4,f5⟩:=hf it (by simp)
  rw[rel.length] at st hi
  exact wpAny_pyNext_dict_end (I.ok.hd hc) st dd (List.getElem?_eq_none hi) fun h' eb=>⟨rfl,I.turned (t':=s.toks) (fun b o hb e=>eb b o hb e) f0 f1 f3 f4 f5⟩
 self:=fun _ _ _ _ _ st h=>wpAny_pyIter_keyiter st h
section
variable {X:Cx}{tg:Expr}
def Cz(X:Cx)(td:TE):TI:=fun σ H R=>td σ H fun x H1=>∃a kvs,x= .ref a∧H1 a=some (.dK kvs)∧∀o,NF X a→R (Cy a o kvs) (upd H1 a (.iG o (.dK kvs)))
theorem pk{l:Expr}{tl:TE}(hl:PE X l tl):PI X tg l (Cz X tl):=by
 intro pins s σ H R I h
 refine bK (hl pins s σ H _ I h) fun v s1 ⟨x,H1,I1,r1,q1⟩=>?_
 obtain⟨a,kvs,e,hk,q⟩:=q1
 subst e
 cases r1
 obtain⟨o,ho,I2⟩:=I1.freeze hk
 obtain⟨z,hs,vs,rel,dd⟩:=uw I1.bg hk
 obtain⟨ep,da⟩:=dd.dictAt
 obtain⟨o',es,sP,ex,hd,_⟩:=id da
 rw[ho] at sP;cases sP
 refine wpAny_pyIter_dict hs da ?_
 refine⟨s1.heap.objs.size,[s1.heap.objs.size],_,_,_,rfl,I2.kept (t':=s1.toks) fun b o e=>Heap.get?_push_of_some _ e,wt a _ o kvs hd,?_,fun b hb=>?_,q o (I1.nf hk)⟩
 ·rw[rel.length]
  exact⟨_,Heap.get?_push_size _ rfl,rfl,rfl⟩
 ·have e:b=s1.heap.objs.size:=by simpa using hb
  subst e
  exact I2.xR (Nat.le_refl _) (I2.bg.fresh (Nat.le_refl _))
def Th(X:Cx)(Q:Hp→Prop)(H:Hp):Prop:=∃a o kvs,H a=some (.iG o (.dK kvs))∧NF X a∧Q (upd H a (.dK kvs))
def CA(X:Cx)(t:TS):TS:=fun D σ H=>t { nx:=fun σ'=>Th X (D.nx σ'),rt:=fun v=>Th X (D.rt v),bk:=fun σ'=>Th X (D.bk σ'),ct:=fun σ'=>Th X (D.ct σ') } σ H
theorem uG{st:Stmt}{t:TS}(h:PS X st t):PS X st (CA X t):=by
 intro pins s σ H D I q
 refine bK (h pins s σ H _ I q) fun f s' z=>?_
 cases f with
 |next=>obtain⟨σ',H',J,a,o,kvs,e,nf,q⟩:=z;exact⟨σ',_,J.ye e nf,q⟩
 |brk=>obtain⟨σ',H',J,a,o,kvs,e,nf,q⟩:=z;exact⟨σ',_,J.ye e nf,q⟩
 |cont=>obtain⟨σ',H',J,a,o,kvs,e,nf,q⟩:=z;exact⟨σ',_,J.ye e nf,q⟩
 |ret u=>obtain⟨v,σ',H',J,r,a,o,kvs,e,nf,q⟩:=z;exact⟨v,σ',_,J.ye e nf,r,q⟩
theorem AY{e:Expr}{t:TE}(h:PE X e t):PE X e (fun σ H Q=>t σ H fun v=>Th X (Q v)):=by
 intro pins s σ H Q I q
 refine bK (h pins s σ H _ I q) fun u s' z=>?_
 obtain⟨v,H',J,r,a,o,kvs,e,nf,q⟩:=z
 exact⟨v,_,J.ye e nf,r,q⟩
end
theorem yg{X:Cx}{a:Addr}{o:Obj}{kvs:List (Key×V)}{g:TG}{tb:TS}{D:Ends}{σ:St}{H:Hp}(nf:NF X a)(Pv:Nat→St→Hp→Prop)(h0:Pv 0 σ H)(hl:∀i σ H,Pv i σ H→H a=some (.dK kvs))
  (hs:∀i k v σ H,kvs[i]? =some (k,v)→Pv i σ H→g (kV k) σ (upd H a (.iG o (.dK kvs))) fun σ2 H2=>tb { nx:=fun σ' H'=>H' a=some (.iG o (.dK kvs))∧Pv (i+1) σ' (upd H' a (.dK kvs)),ct:=fun σ' H'=>H' a=some (.iG o (.dK kvs))∧Pv (i+1) σ' (upd H' a (.dK kvs)),bk:=fun σ'=>Th X (D.nx σ'),rt:=fun v=>Th X (D.rt v) } σ2 H2)
  (hd:∀σ H,Pv kvs.length σ H→D.nx σ H):
  ∃W:Nat→Nat→St→Hp→Prop,(∃m,W 0 m σ (upd H a (.iG o (.dK kvs))))∧∀i m σ H,W i m σ H→((Cy a o kvs).stop i H∧Th X (D.nx σ) H)∨
   ((Cy a o kvs).go i H∧∃N:St→Hp→Prop,(∀σ' H',N σ' H'→∃m',m'<m∧W (i+1) m' σ' H')∧∀x H',(Cy a o kvs).vZ i H x H'→g x σ H' fun σ2 H2=>tb { nx:=N,ct:=N,bk:=fun σ'=>Th X (D.nx σ'),rt:=fun v=>Th X (D.rt v) } σ2 H2):=by
 refine⟨fun i m σ H=>m+i=kvs.length∧H a=some (.iG o (.dK kvs))∧Pv i σ (upd H a (.dK kvs)),⟨kvs.length,by omega,ag,?_⟩,?_⟩
 ·rw[oO,mf (hl _ _ _ h0)];exact h0
 ·rintro i m σ H ⟨hm,hz,hp⟩
  by_cases hi:i<kvs.length
  ·refine .inr ⟨⟨hz,hi⟩,fun σ' H'=>H' a=some (.iG o (.dK kvs))∧Pv (i+1) σ' (upd H' a (.dK kvs)),fun σ' H' q=>⟨m - 1,by omega,by omega,q⟩,?_⟩
   rintro x H' ⟨rfl,k,v,F8,rfl⟩
   have:=hs i k v σ _ F8 hp
   rw[oO,mf hz] at this
   exact this
  ·have e:i=kvs.length:=by omega
   subst e
   exact .inl ⟨⟨hz,Nat.le_refl _⟩,a,o,kvs,hz,nf,hd _ _ hp⟩
def G6:V→Option Value
 | .ty n=>some (.type n)
 | .ref a=>some (.ref a)
 |_=>none
theorem fk{X:Cx}:gP X (.builtin "isinstance") (fun xs H Q=>∃x c cv t b,xs=[x,c]∧G6 c=some cv∧jW X.K H x t∧PySem.W.kitOne X.K t cv=some b∧Q (.bl b) H):=by
 intro pins s σ H xs us Q I r h
 obtain⟨x,c,cv,t,b,rfl,hc,ty,e,q⟩:=h
 obtain⟨u,v,rfl,ru,rv⟩:=vals2 r
 have hv:v=cv:=by
  cases c<;>simp only [G6,Option.some.injEq,reduceCtorEq] at hc
  ·cases (show v=Value.ref _ from rv);exact hc
  ·cases (show v=Value.type _ from rv);exact hc
 subst hv
 exact wc I ru ty e fun tk=>⟨.bl b,H,I.tok tk,rfl,q⟩
theorem ti{X:Cx}:gP X (.builtin "len") (fun xs H Q=>∃a kvs,xs=[.ref a]∧Rd H a (.dK kvs)∧Q (.int kvs.length) H):=by
 intro pins s σ H xs us Q I r h
 obtain⟨a,kvs,rfl,hk,q⟩:=h
 obtain⟨u,rfl,ru⟩:=vals1 r
 cases ru
 exact GX I hk fun t s' I'=>⟨.int kvs.length,H,I',⟨t,rfl⟩,q⟩
theorem Inv.yh{X:Cx}{pins:List (Addr×Obj)}{σ:St}{H:Hp}{s:Shared}{a:Addr}{kvs:List (Key×V)}(I:Inv X pins σ H s)(e:Rd H a (.dK kvs)):(kvs.map (·.1)).Nodup:=by
 obtain⟨z,hd,vs,rel,dd⟩:=jb I.bg e
 obtain⟨_,da⟩:=dd.dictAt
 rw[rel.keys]
 exact da.nodup
def wu(kb:List (Key×V))(p:Key×V):Bool:=match b8 kb p.1 with
 |none=>false
 |some y=>wk p.2 y
def Ly(ka kb:List (Key×V)):Bool:=ka.length==kb.length&&ka.all (wu kb)
def n9(ka:List (Key×V)):Prop:=∀p∈ka,gQ p.2=true
theorem wx{kb:List (Key×V)}(hb:n9 kb){k:Key}{y:V}(h:b8 kb k=some y):gQ y=true:=by
 unfold b8 at h
 cases e:kb.find? fun kv=>decide (kv.1=k) with
 |none=>rw[e] at h;cases h
 |some p=>
  rw[e] at h
  cases h
  exact hb p (List.mem_of_find?_eq_some e)
theorem uH{A:Around}{s:Shared}{kb:List (Key×V)}{vb:List (Key×Value)}(rb:KV kb vb)(fb:n9 kb):∀{ka:List (Key×V)} {va:List (Key×Value)},KV ka va→n9 ka→PySem.W.KeqHits A s vb va (ka.all (wu kb))
 |_,_, .nil,_=> .nil
 | (k,x)::r,(k',u)::r', .cons hp t,fa=>by
   obtain⟨e1,ru⟩:=hp
   have e1:k=k':=e1
   subst e1
   have ih:=uH (A:=A) (s:=s) rb fb t fun p hp=>fa p (List.mem_cons_of_mem _ hp)
   have hv:=rb.val k
   rw[List.all_cons]
   cases e:b8 kb k with
   |none=>
    rw[e] at hv
    have:wu kb (k,x)=false:=by simp only [wu,e]
    rw[this,Bool.false_and]
    exact .miss (eJ.none_of hv)
   |some y=>
    rw[e] at hv
    obtain⟨uy,ey,ry⟩:=eJ.some_of hv
    have:wu kb (k,x)=wk x y:=by simp only [wu,e]
    rw[this]
    exact .hit ey (x9 ru ry (fa (k,x) (List.mem_cons_self ..)) (wx fb e)) ih
section
variable {X:Cx}
def MM(neg:Bool):R2:=fun x y H Q=>∃a b ka kb,x= .ref a∧y= .ref b∧Rd H a (.dK ka)∧Rd H b (.dK kb)∧n9 ka∧n9 kb∧((ka.map (·.1)).Nodup→(kb.map (·.1)).Nodup→Q (.bl (neg^^Ly ka kb)) H)
theorem DV(hu:X.A.units<cLine):jM X (compareOp .Eq) (MM false):=by
 intro pins s σ H x y v u Q I rx ry h
 obtain⟨a,b,ka,kb,rfl,rfl,ha,hb,fa,fb,q⟩:=h
 cases rx
 cases ry
 obtain⟨za,da,va,ra,Ti⟩:=jb I.bg ha
 obtain⟨zb,db,vb,rb,Tj⟩:=jb I.bg hb
 refine PySem.W.keq_eq da db Ti Tj hu (fun _=>uH rb fb ra fa) ⟨.bl (Ly ka kb),H,I,?_,?_⟩
 ·show Value.bool _=Value.bool _
  rw[←ra.length,←rb.length]
  rfl
 ·have q:=q (I.yh ha) (I.yh hb)
  simpa using q
end
theorem qY:∀{kvs:List (Key×V)} {p:Key×V},(kvs.map (·.1)).Nodup→p∈kvs→b8 kvs p.1=some p.2
 |q::r,p,nd,hp=>by
  rw[List.map_cons,List.nodup_cons] at nd
  rcases List.mem_cons.mp hp with rfl|hr
  ·exact cx rfl
  ·rw[cy (fun e=>nd.1 (e▸List.mem_map_of_mem (f:=(·.1)) hr))]
   exact qY nd.2 hr
end L2
namespace L2
open PySem PySem.Spec PyProof.Rows
def qZ(X:Cx)(pins:List (Addr×Obj))(N:List Str)(scope:Scope)(cl:List (Str×Addr))(fp:List Addr)(s:Shared)(H:Hp):Cx where
 prog:=X.prog
 w:=X.w
 K:=X.K
 mg:=X.mg
 base:=X.base
 A:=X.A
 N:=N
 s₀:=s
 H₀:=H
 env:=compEnvC scope cl s.heap.objs.size X.env
 outer:=X.stack
 stack:=X.stack
 ex:=fp
 fn:=fun _=>false
 calm:=X.calm
 pn:=X.pn++pins
 xe:=fun _ _=>False
structure G7(X:Cx)(N:List Str)(fr:List (Option Nat))(scope:Scope)(cl:List (Str×Addr)):Prop where
 MN:closureFor scope X.env=pure cl
 kind:scope.kind= .function
 pq:∀y∈scope.names,y.2≠ .cell
 names:∀y∈scope.names,y.2= .local→scope.names.lookup y.1=some .local
 cells:∀x c,cl.lookup x=some c→X.env.cells.lookup x=some c
 has:∀x,((relabel scope X.env).names.lookup x=some .cell∨(relabel scope X.env).names.lookup x=some .free)→∃c,cl.lookup x=some c
 len:fr.length=N.length
 out:∀(i j:Nat) (x:Str),N[i]? =some x→fr[i]? =some (some j)→X.N[j]? =some x∧X.env.kindOf x=some .cell∧((relabel scope X.env).names.lookup x=some .cell∨(relabel scope X.env).names.lookup x=some .free)
end L2
namespace L2
open PySem PySem.Spec PyProof.Rows
def jY(env:Env):List (Str×NameKind)→List (Str×Addr)→List (Str×Addr)
 | [],cs=>cs
 | (n,k)::r,cs=>jY env r (if (k== .free)=true then (n,(env.cells.lookup n).getD 0)::cs else cs)
def yi(scope:Scope)(env:Env):List (Str×Addr):=jY env scope.names []
theorem uJ{env:Env}:∀{names:List (Str×NameKind)} (cs:List (Str×Addr)),(∀y∈names,y.2= .free→∃c,env.cells.lookup y.1=some c)→
  (forIn names cs fun (x:Str×NameKind) cs=>match x with
   | (name,kind)=>if (kind==NameKind.free)=true then do let c←cellOf env name;pure (ForInStep.yield ((name,c)::cs)) else pure (ForInStep.yield cs):Sem (List (Str×Addr)))=pure (jY env names cs)
 | [],cs,_=>rfl
 | (n,k)::r,cs,h=>by
   rw[List.forIn_cons]
   dsimp only
   have ih:=fun cs=>uJ (env:=env) (names:=r) cs fun y hy=>h y (List.mem_cons_of_mem _ hy)
   by_cases hk:(k==NameKind.free)=true
   ·obtain⟨c,hc⟩:=h (n,k) (List.mem_cons_self ..) (by simpa using hk)
    rw[if_pos hk,show jY env ((n,k)::r) cs=jY env r ((n,c)::cs) by rw[jY,if_pos hk,hc];rfl]
    have e:cellOf env n=pure c:=by unfold cellOf;rw[hc]
    rw[e]
    exact ih _
   ·rw[if_neg hk,show jY env ((n,k)::r) cs=jY env r cs by rw[jY,if_neg hk]]
    exact ih _
theorem AZ{scope:Scope}{env:Env}(h:∀y∈scope.names,y.2= .free→∃c,env.cells.lookup y.1=some c):closureFor scope env=pure (yi scope env):=by
 have t:=uJ (env:=env) [] h
 have e:closureFor scope env=((forIn scope.names ([]:List (Str×Addr)) fun (x:Str×NameKind) cs=>match x with
   | (name,kind)=>if (kind==NameKind.free)=true then do let c←cellOf env name;pure (ForInStep.yield ((name,c)::cs)) else pure (ForInStep.yield cs)) >>= fun cs=>pure cs:Sem (List (Str×Addr))):=rfl
 rw[e,t]
 rfl
theorem mh{env:Env}:∀{names:List (Str×NameKind)} {cs:List (Str×Addr)},(∀y∈names,y.2= .free→∃c,env.cells.lookup y.1=some c)→(∀x c,cs.lookup x=some c→env.cells.lookup x=some c)→∀x c,(jY env names cs).lookup x=some c→env.cells.lookup x=some c
 | [],_,_,hc,x,c,h=>hc x c h
 | (n,k)::r,cs,hn,hc,x,c,h=>by
   rw[jY] at h
   refine mh (names:=r) (fun y hy=>hn y (List.mem_cons_of_mem _ hy)) (fun x c h=>?_) x c h
   by_cases hk:(k==NameKind.free)=true
   ·rw[if_pos hk] at h
    obtain⟨c',vY⟩:=hn (n,k) (List.mem_cons_self ..) (by simpa using hk)
    rw[List.lookup_cons] at h
    cases e:x==n with
    |true=>
     rw[e] at h
     have ex:x=n:=by simpa using e
     subst ex
     rw[vY] at h ⊢
     exact h
    |false=>
     rw[e] at h
     exact hc x c h
   ·rw[if_neg hk] at h
    exact hc x c h
theorem q9{env:Env}:∀{names:List (Str×NameKind)} {cs:List (Str×Addr)} {x:Str},((x,NameKind.free)∈names∨∃c,cs.lookup x=some c)→∃c,(jY env names cs).lookup x=some c
 | [],_,_,h=>h.elim (fun z=>by cases z) fun z=>z
 | (n,k)::r,cs,x,h=>by
   rw[jY]
   refine q9 (names:=r) ?_
   by_cases hk:(k==NameKind.free)=true
   ·rw[if_pos hk,List.lookup_cons]
    cases e:x==n with
    |true=>exact .inr ⟨_,rfl⟩
    |false=>
     rcases h with h|h
     ·rcases List.mem_cons.mp h with z|z
      ·cases z
       simp at e
      ·exact .inl z
     ·exact .inr h
   ·rw[if_neg hk]
    rcases h with h|h
    ·rcases List.mem_cons.mp h with z|z
     ·cases z
      exact absurd rfl hk
     ·exact .inl z
    ·exact .inr h
theorem g5{env:Env}(x:Str):∀names:List (Str×NameKind),
  (names.map fun (y:Str×NameKind)=>match y with
   | (n,k)=>if (k==NameKind.free&&env.scope.kind== .function&&env.kindOf n==some .cell)=true then (n,NameKind.cell) else (n,k)).lookup x
   =(names.lookup x).map fun k=>if (k==NameKind.free&&env.scope.kind== .function&&env.kindOf x==some .cell)=true then NameKind.cell else k
 | []=>rfl
 | (n,k)::r=>by
   have ih:=g5 (env:=env) x r
   rw[List.map_cons,List.lookup_cons]
   by_cases e:(x==n)=true
   ·have ex:x=n:=by simpa using e
    subst ex
    dsimp only
    by_cases hc:(k==NameKind.free&&env.scope.kind== .function&&env.kindOf x==some .cell)=true
    ·rw[if_pos hc,List.lookup_cons,beq_self_eq_true]
     dsimp only [Option.map]
     rw[if_pos hc]
    ·rw[if_neg hc,List.lookup_cons,beq_self_eq_true]
     dsimp only [Option.map]
     rw[if_neg hc]
   ·have e':(x==n)=false:=by simpa using e
    dsimp only
    by_cases hc:(k==NameKind.free&&env.scope.kind== .function&&env.kindOf n==some .cell)=true
    ·rw[if_pos hc,List.lookup_cons,e']
     exact ih
    ·rw[if_neg hc,List.lookup_cons,e']
     exact ih
structure DW(sc scope:Scope)(NX N:List Str)(fr:List (Option Nat)):Prop where
 G8:sc.kind= .function
 kind:scope.kind= .function
 pq:∀y∈scope.names,y.2≠ .cell
 names:∀y∈scope.names,y.2= .local→scope.names.lookup y.1=some .local
 free:∀y∈scope.names,y.2= .free→sc.names.lookup y.1=some .cell
 len:fr.length=N.length
 out:((List.range N.length).all fun i=>match fr[i]? with
  |some (some j)=>(match N[i]? with
   |some x=>(NX[j]? ==some x)&&(scope.names.lookup x==some .free)
   |none=>false)
  |_=>true)=true
theorem jZ{names:List (Str×NameKind)}{x:Str}{k:NameKind}(h:names.lookup x=some k):(x,k)∈names:=PySem.mem_of_lookup h
theorem DW.Tn{X:Cx}{sc scope:Scope}{NX N:List Str}{fr:List (Option Nat)}(B:DW sc scope NX N fr)(e1:X.env.scope=sc)(e2:X.N=NX)(ok:X.Ok):G7 X N fr scope (yi scope X.env):=by
 subst e1 e2
 have fc:∀y∈scope.names,y.2= .free→∃c,X.env.cells.lookup y.1=some c:=fun y hy hf=>ok.has y.1 (.inl (B.free y hy hf))
 have lk:∀x,(relabel scope X.env).names.lookup x=(scope.names.lookup x).map fun k=>if (k==NameKind.free&&X.env.scope.kind== .function&&X.env.kindOf x==some .cell)=true then NameKind.cell else k:=fun x=>g5 x scope.names
 have DX:∀x,scope.names.lookup x=some .free→(relabel scope X.env).names.lookup x=some .cell:=fun x hx=>by
  have hk:X.env.kindOf x=some .cell:=B.free (x, .free) (jZ hx) rfl
  rw[lk,hx,Option.map_some,hk,B.G8]
  rfl
 refine⟨AZ fc,B.kind,B.pq,B.names,fun x c h=>mh fc (fun x c h=>by cases h) x c h,fun x h=>q9 (.inl ?_),B.len,fun i j x h1 h2=>?_⟩
 ·rw[lk] at h
  cases e:scope.names.lookup x with
  |none=>rw[e] at h;rcases h with h|h<;>cases h
  |some k=>
   rw[e,Option.map_some] at h
   have hm:=jZ e
   cases k with
   |free=>exact hm
   |cell=>exact absurd rfl (B.pq _ hm)
   |_=>rcases h with h|h<;>simp at h
 ·have hi:i<N.length:=(List.getElem?_eq_some_iff.mp h1).1
  have:=List.all_eq_true.mp B.out i (List.mem_range.mpr hi)
  rw[h2] at this
  dsimp only at this
  rw[h1] at this
  dsimp only at this
  rw[Bool.and_eq_true] at this
  have a1:X.N[j]? =some x:=by simpa using this.1
  have a2:scope.names.lookup x=some .free:=by simpa using this.2
  exact⟨a1,B.free (x, .free) (jZ a2) rfl, .inl (DX x a2)⟩
end L2
namespace L2
open PySem PySem.Spec PyProof.Rows
def startB(fr:List (Option Nat))(σ:St):St:=fr.map fun o=>o.bind fun j=>(σ[j]?).join
theorem tj{fr:List (Option Nat)}{σ:St}{i:Nat}{v:V}(h:(startB fr σ)[i]? =some (some v)):∃j,fr[i]? =some (some j)∧σ[j]? =some (some v):=by
 unfold startB at h
 rw[List.getElem?_map] at h
 cases e:fr[i]? with
 |none=>rw[e] at h;cases h
 |some o=>
  rw[e] at h
  cases o with
  |none=>cases h
  |some j=>
   have h':(σ[j]?).join=some v:=Option.some.inj h
   cases q:σ[j]? with
   |none=>rw[q] at h';cases h'
   |some z=>rw[q] at h';exact⟨j,rfl,by rw[q];exact congrArg some h'⟩
section
variable {X:Cx}{pins:List (Addr×Obj)}{σ:St}{H:Hp}{s:Shared}{N:List Str}{fr:List (Option Nat)}{scope:Scope}{cl:List (Str×Addr)}{fp:List Addr}
theorem yj(B:G7 X N fr scope cl)(I:Inv X pins σ H s)(f:∀b∈fp,i9 X pins H b∧b<s.heap.objs.size):(qZ X pins N scope cl fp s H).Ok where
 mod:=I.mod
 kind:=B.kind
 glob:=I.ok.glob
 blt:=I.ok.blt
 above:=Nat.le_refl _
 inj:=fun x y c h1 h2=>I.ok.inj x y c (B.cells x c h1) (B.cells y c h2)
 has:=fun x h=>B.has x h
 AD:=fun x c h=>by cases h
 hd:=I.ok.hd
 frames:=I.ok.frames
 Cj:= .inl rfl
 F4:=fun b hb=>⟨Nat.ne_of_lt (f b hb).2,fun x c h=>(f b hb).1.2.2.2.2.1 x c (B.cells x c h)⟩
 bs:=I.bs
 vW:=Nat.le_trans I.ok.vW I.sz
 oR:=fun b o e hb=>by
  rcases (f b hb).1.2.2.2.1 with h|h
  ·exact I.ok.oR b o e h
  ·exact absurd (Nat.lt_of_lt_of_le (Heap.lt_size e) (Nat.le_trans I.ok.vW h)) (Nat.lt_irrefl _)
 oS:=fun b hb h=>by
  rcases List.mem_cons.mp (I.oU b h) with z|z
  ·exact(f b hb).1.2.1 z
  ·exact(f b hb).1.2.2.1 z
 iH:=I.stack
 xM:=I.oV
theorem wy{h1:Heap}{t1:Nat}(B:G7 X N fr scope cl)(I:Inv X pins σ H s)(f:∀b∈fp,i9 X pins H b∧b<s.heap.objs.size)(Cv:h1.Ns s.heap.objs.size fun _=>none)
  (DY:∀b o,s.heap.get? b=some o→h1.get? b=some o):Inv (qZ X pins N scope cl fp s H) [] (startB fr σ) H { s with heap:=h1,toks:=t1 }:=by
 obtain⟨m,hm,hl⟩:=I.loc
 refine⟨yj B I f,rfl,I.bare,Un.kept DY,⟨_,Cv,fun i x v e1 e2 _=>?_⟩,fun x c h=>?_,I.bg.fresh (Nat.le_refl _),fun x c h=>I.eF x c (B.cells x c h),fun p hp=>?_,I.bg.kept DY,?_⟩
 ·obtain⟨j,ej,es⟩:=tj e2
  obtain⟨o1,o2,o3⟩:=B.out i j x e1 ej
  obtain⟨u,ru,L⟩:=hl j x v o1 es (.inr (.inl o2))
  refine⟨u,ru, .inr ⟨o3,?_⟩⟩
  obtain⟨c,hc⟩:=B.has x o3
  rcases L with ⟨k1,_⟩ | ⟨_,c',vY,cc⟩
  ·rw[o2] at k1;cases k1
  ·rw[B.cells x c hc] at vY
   cases vY
   exact⟨c,hc,cc.keeps DY⟩
 ·obtain⟨v,hv⟩:=I.cell x c (B.cells x c h)
  exact⟨v,hv.keeps DY⟩
 ·have CB:p∈X.pn++pins:=by rw[List.append_nil] at hp;exact hp
  obtain⟨p1,p2,p3,p4,p5⟩:=I.pin p CB
  exact⟨DY _ _ p1,p2,Nat.ne_of_lt (Heap.lt_size p1),fun z=>(List.mem_cons.mp (I.oU _ z)).elim p3 p4,p5⟩
 ·show (startB fr σ).length=N.length
  unfold startB
  rw[List.length_map,B.len]
end
def F9(X:Cx)(cs:List Expr)(t:TT):Prop:=
 ∀(pins:List (Addr×Obj)) (s:Shared) (σ:St) (H:Hp) (Q:Bool→Hp→Prop),Inv X pins σ H s→t σ H Q→
  wpAny (model X.prog X.w) X.A (forIn cs true fun c r=>if r=true then do let ok←isTrue c X.env (eval c X.env);pure (ForInStep.yield ok) else pure (ForInStep.yield r)) (TP X pins σ Q) X.xe s
def MO:TT:=fun _ H Q=>Q true H
theorem ik{X:Cx}:F9 X [] MO:=fun pins s σ H Q I h=>by
 rw[List.forIn_nil]
 exact wpAny_pure ⟨H,I,h⟩
theorem A0{X:Cx}{c:Expr}{t:TT}(h:PT X c t):F9 X [c] t:=fun pins s σ H Q I q=>by
 rw[List.forIn_cons,if_pos rfl]
 refine wpAny_bind (wpAny_bind (bK (h pins s σ H Q I q) fun b s' z=>?_))
 refine wpAny_pure ?_
 dsimp only
 rw[List.forIn_nil]
 exact wpAny_pure z
section
variable {prog:Program}{w:World}{A:Around}{R:Result→Shared→Prop}{s:Shared}
theorem comp_loop{elt tg iter:Expr}{ifs:List Expr}{scope:Scope}{pos:Pos}{it acc:Value}{env:Env}(J:Nat→Shared→Prop)
  (turn:∀n s,J n s→wpAny (model prog w) A (pyNext it) (fun r s₁=>match r with
   |none=>R (.ok .next) s₁
   |some v=>wpAny (model prog w) A (letOwnedTupleGo tg it v) (fun _ sg=>wpAny (model prog w) A (assign tg env v) (fun _ s₂=>
     wpAny (model prog w) A (forIn ifs true fun c r=>if r=true then do let ok←isTrue c env (eval c env);pure (ForInStep.yield ok) else pure (ForInStep.yield r)) (fun ok s₃=>
      if ok=true then wpAny (model prog w) A (eval elt env) (fun x s₄=>wpAny (model prog w) A (call (.builtin "list.append") [acc,x]) (fun _ s₅=>∃m,m<n∧J m s₅) (fun _ _=>False) s₄) (fun _ _=>False) s₃
      else∃m,m<n∧J m s₃) (fun _ _=>False) s₂) (fun _ _=>False) sg) (fun _ _=>False) s₁) (fun _ _=>False) s)
  (n:Nat) (h:J n s):codeAny (model prog w) A (.compLoop (.ListComp elt [⟨tg,iter,ifs,0⟩] scope pos) 0 it acc env) R s:=by
 refine codeAny_loop rfl J (fun n s hJ=>?_) n h
 show wpAny _ A ((compTurn (.ListComp elt [⟨tg,iter,ifs,0⟩] scope pos) 0 it acc env).onRaise (fun x=>do noteFrame x env;theTreesLotGoes x)) _ _ s
 refine wpAny_noted ?_
 rw[compTurn_list]
 have no:∀{P:Value→Shared→Prop} (a:Value) (s:Shared),(fun (_:Value) (_:Shared)=>False) a s→P a s:=fun _ _ z=>False.elim z
 refine wpAny_bind (wpAny_standAt (wpAny_bind (wpAny_mono (turn n s hJ) (fun r s₁ h₁=>?_) no)))
 cases r with
 |none=>exact wpAny_pure h₁
 |some v=>
  refine wpAny_bind (wpAny_mono h₁ (fun _ sg hg=>?_) no)
  refine wpAny_bind (wpAny_mono hg (fun _ s₂ h₂=>wpAny_bind (wpAny_mono h₂ (fun ok s₃ h₃=>?_) no)) no)
  cases ok with
  |false=>exact wpAny_pure ⟨rfl,h₃⟩
  |true=>exact wpAny_bind (wpAny_bind (wpAny_mono h₃ (fun x s₄ h₄=>wpAny_bind (wpAny_mono h₄ (fun _ s₅ h₅=>wpAny_pure (wpAny_pure ⟨rfl,h₅⟩)) no)) no))
end
def G9(wi:TI)(fr:List (Option Nat))(g:TG)(tt:TT)(te:TE):TE:=fun σ H Q=>wi σ H fun J H1=>∀D,H1 D=none→∃W:Nat→Nat→St→Hp→Prop,(∃m,W 0 m (startB fr σ) (upd H1 D (.lst [])))∧∀i m σ H,W i m σ H→
 (J.stop i H∧Q (.ref D) H)∨(J.go i H∧∀x H2,J.vZ i H x H2→g x σ H2 fun σ3 H3=>tt σ3 H3 fun b H4=>if b=true
   then te σ3 H4 fun y H5=>∃ys,H5 D=some (.lst ys)∧ys.length<sizeLine∧∃m',m'<m∧W (i+1) m' σ3 (upd H5 D (.lst (ys++[y])))
   else∃m',m'<m∧W (i+1) m' σ3 H4)
section
variable {X:Cx}{elt tg iter:Expr}{ifs:List Expr}{scope:Scope}{pos:Pos}{N:List Str}{fr:List (Option Nat)}{cl:List (Str×Addr)}{wi:TI}{g:TG}{tt:TT}{te:TE}
theorem A1(B:G7 X N fr scope cl)(hc:X.calm=true)
  (hg:∀pins fp s H,PG (qZ X pins N scope cl fp s H) tg g) (ht:∀pins fp s H,F9 (qZ X pins N scope cl fp s H) ifs tt) (he:∀pins fp s H,PE (qZ X pins N scope cl fp s H) elt te)
  {pins:List (Addr×Obj)} {s3:Shared} {σ:St} {H3:Hp} {Q:VK} {it D:Addr} {fp:List Addr} {tn:Nat→Heap→Prop} {J:It} (I3:Inv X pins σ H3 s3) (T:Turn X.prog X.w X.K tg J fp it tn) (Lp:tn 0 s3.heap) (f3:∀b∈fp,i9 X pins H3 b∧b<s3.heap.objs.size)
  {W:Nat→Nat→St→Hp→Prop} {m0:Nat} (w0:W 0 m0 (startB fr σ) H3)
  (turn:∀i m σ H,W i m σ H→(J.stop i H∧Q (.ref D) H)∨(J.go i H∧∀x H2,J.vZ i H x H2→g x σ H2 fun σ3 H3=>tt σ3 H3 fun b H4=>if b=true
    then te σ3 H4 fun y H5=>∃ys,H5 D=some (.lst ys)∧ys.length<sizeLine∧∃m',m'<m∧W (i+1) m' σ3 (upd H5 D (.lst (ys++[y])))
    else∃m',m'<m∧W (i+1) m' σ3 H4))
  {R:Result→Shared→Prop} (hR:∀s' H',Inv X pins σ H' s'→i9 X pins H' s3.heap.objs.size→(∃m,s'.heap.Ns s3.heap.objs.size m)→Q (.ref D) H'→R (.ok .next) s')
  {h₁:Heap} {t1:Nat} (Cv:h₁.Ns s3.heap.objs.size fun _=>none) (G':∀b o,s3.heap.get? b=some o→h₁.get? b=some o):
  codeAny (model X.prog X.w) X.A (.compLoop (.ListComp elt [⟨tg,iter,ifs,0⟩] scope pos) 0 (.ref it) (.ref D) (compEnvC scope cl s3.heap.objs.size X.env)) R { s3 with heap:=h₁,toks:=t1 }:=by
 have Ib:=wy (t1:=t1) B I3 f3 Cv G'
 have sS:∀{H':Hp},(∀b∈fp,H' b=none)→∀b∈fp,i9 (qZ X pins N scope cl fp s3 H3) [] H' b:=fun hn b hb=>
  ⟨hn b hb,Nat.ne_of_lt (f3 b hb).2,(yj B I3 f3).oS b hb, .inl hb,fun x c h=>(f3 b hb).1.2.2.2.2.1 x c (B.cells x c h),fun p hp=>(f3 b hb).1.2.2.2.2.2 p (by rw[List.append_nil] at hp;exact hp)⟩
 refine comp_loop (fun n s'=>∃i σ' H',Inv (qZ X pins N scope cl fp s3 H3) [] σ' H' s'∧tn i s'.heap∧(∀b∈fp,H' b=none)∧W i n σ' H') ?_ m0
  ⟨0,_,_,Ib,T.keep _ _ _ Lp fun b _ o e=>G' b o e,fun b hb=>(f3 b hb).1.1,w0⟩
 rintro n s4 ⟨i,σ4,H4,I4,RM,RN,w4⟩
 rcases turn i n σ4 H4 w4 with ⟨stop,qn⟩ | ⟨go,step⟩
 ·refine bK (T.done (qZ X pins N scope cl fp s3 H3) rfl rfl rfl hc i [] s4 σ4 H4 _ I4 (sS RN) RM stop) fun r s5 ⟨hr,I5⟩=>?_
  subst hr
  have J5:Inv X pins σ H4 s5:=I3.xN (ch:=fp) I5.os I5.base I5.bg I5.bare fun b hb=>⟨(f3 b hb).1.2.2.2.1,(f3 b hb).1.2.1,(f3 b hb).1.2.2.2.2.1,(f3 b hb).1.2.2.2.2.2⟩
  obtain⟨mm,To,_⟩:=I5.loc
  exact hR s5 H4 J5 (I3.xR (Nat.le_refl _) I5.free) ⟨mm,To⟩ qn
 ·refine bK (T.item (qZ X pins N scope cl fp s3 H3) rfl rfl rfl hc i [] s4 σ4 H4 _ I4 (sS RN) RM go) fun r s5 ⟨u,hr,h5⟩=>?_
  subst hr
  refine bK h5 fun _ s6 ⟨x,H6,I6,r6,y6,MP,Tp⟩=>?_
  have Tq:=I6.pinned (sS Tp) (T.obj _ _ MP)
  have back:∀{s7:Shared} {σ7:St} {H7:Hp} {m':Nat},Inv (qZ X pins N scope cl fp s3 H3) ([]++lT fp s6.heap) σ7 H7 s7→m'<n→W (i+1) m' σ7 H7→
    ∃m,m<n∧∃i σ' H',Inv (qZ X pins N scope cl fp s3 H3) [] σ' H' s7∧tn i s7.heap∧(∀b∈fp,H' b=none)∧W i m σ' H':=fun {s7 σ7 H7 m'} I7 hm w7=>by
   refine⟨m',hm,i+1,σ7,H7,I7.eh,T.keep _ _ _ MP fun b hb o e=>(I7.pin (b,o) (List.mem_append_right _ (List.mem_append_right _ (gf hb e)))).1,fun b hb=>?_,w7⟩
   obtain⟨o,e,d⟩:=T.obj _ _ MP b hb
   exact(I7.pin (b,o) (List.mem_append_right _ (List.mem_append_right _ (gf hb e)))).2.1
  refine bK (hg _ _ _ _ _ s6 σ4 H6 x u _ Tq r6 (step x H6 y6)) fun _ s7 ⟨σ7,H7,I7,q7⟩=>?_
  refine bK (ht _ _ _ _ _ s7 σ7 H7 _ I7 q7) fun ok s8 ⟨H8,I8,q8⟩=>?_
  cases ok with
  |false=>
   rw[if_neg (by decide)] at q8 ⊢
   obtain⟨m',hm,w8⟩:=q8
   exact back I8 hm w8
  |true=>
   rw[if_pos rfl] at q8 ⊢
   refine bK (he _ _ _ _ _ s8 σ7 H8 _ I8 q8) fun y s9 ⟨v9,H9,I9,r9,ys,Ts,Tt,m',hm,w9⟩=>?_
   refine bK (cg _ s9 σ7 H9 (.ref D) [v9] _ [y] (fun _ H'=>W (i+1) m' σ7 H') I9 rfl (.cons r9 .nil) ⟨_,ys,v9,rfl,rfl,Ts,Tt,w9⟩) fun _ Vv ⟨_,Vw,Tu,_,Tv⟩=>?_
   exact back Tu hm Tv
theorem yk(B:G7 X N fr scope cl)(hc:X.calm=true)
  (hg:∀pins fp s H,PG (qZ X pins N scope cl fp s H) tg g) (ht:∀pins fp s H,F9 (qZ X pins N scope cl fp s H) ifs tt) (he:∀pins fp s H,PE (qZ X pins N scope cl fp s H) elt te)
  {pins:List (Addr×Obj)} {s2:Shared} {σ:St} {H2:Hp} {Q:VK} {E:Value→Shared→Prop} {it:Addr} {fp:List Addr} {tn:Nat→Heap→Prop} {J:It} (I2:Inv X pins σ H2 s2) (T:Turn X.prog X.w X.K tg J fp it tn) (DG:tn 0 s2.heap) (f2:∀b∈fp,i9 X pins H2 b)
  (q:∀D,H2 D=none→∃W:Nat→Nat→St→Hp→Prop,(∃m,W 0 m (startB fr σ) (upd H2 D (.lst [])))∧∀i m σ H,W i m σ H→
   (J.stop i H∧Q (.ref D) H)∨(J.go i H∧∀x H2,J.vZ i H x H2→g x σ H2 fun σ3 H3=>tt σ3 H3 fun b H4=>if b=true
     then te σ3 H4 fun y H5=>∃ys,H5 D=some (.lst ys)∧ys.length<sizeLine∧∃m',m'<m∧W (i+1) m' σ3 (upd H5 D (.lst (ys++[y])))
     else∃m',m'<m∧W (i+1) m' σ3 H4))
  {RR:Value→Addr→Result→Shared→Prop}
  (Tw:∀D C s' H',Inv X pins σ H' s'→i9 X pins H' C→(∃m,s'.heap.Ns C m)→Q (.ref D) H'→RR (.ref D) C (.ok .next) s'):
  wpAny (model X.prog X.w) X.A (newList []) (fun acc s₃=>wpAny (model X.prog X.w) X.A (newFunctionEnv scope X.env.globals cl [] X.env.qual none .none (some X.env)) (fun Hg s₄=>
   codeAny (model X.prog X.w) X.A (.compStart (.ListComp elt [⟨tg,iter,ifs,0⟩] scope pos) 0 (.ref it) acc { Hg with scope:=relabel scope X.env }) (RR acc Hg.locals) s₄) E s₃) E s2:=by
 have hD:H2 s2.heap.objs.size=none:=I2.bg.fresh (Nat.le_refl _)
 obtain⟨W,⟨m0,w0⟩,turn⟩:=q s2.heap.objs.size hD
 have I3:=I2.MD (ys:=[]) (its:=[]) (t':=s2.toks) .nil (by decide)
 have RO:∀b∈fp,b<s2.heap.objs.size:=fun b hb=>by
  obtain⟨o,e,_⟩:=T.obj _ _ DG b hb
  exact Heap.lt_size e
 refine wpAny_newObj_type (wpAny_newFunctionEnv B.pq (by intro y hy;simp at hy) (fun h₁ Cv DY=>?_) B.kind)
 have RP:∀b o,s2.heap.get? b=some o→(s2.heap.push { cls:= .type "list",data:= .seq ([]:List Value).toArray }).get? b=some o:=fun b o e=>Heap.get?_push_of_some _ e
 have G':∀b o,(s2.heap.push { cls:= .type "list",data:= .seq ([]:List Value).toArray }).get? b=some o→h₁.get? b=some o:=fun b o e=>DY.extBut b o (Nat.ne_of_lt (Heap.lt_size e)) (Heap.get?_push_of_some _ e)
 have f3:∀b∈fp,i9 X pins (upd H2 s2.heap.objs.size (.lst [])) b∧b< (s2.heap.push { cls:= .type "list",data:= .seq ([]:List Value).toArray }).objs.size:=fun b hb=>by
  refine⟨⟨?_,(f2 b hb).2⟩,?_⟩
  ·rw[ah (Nat.ne_of_lt (RO b hb))]
   exact(f2 b hb).1
  ·rw[Heap.size_push]
   exact Nat.lt_succ_of_lt (RO b hb)
 have fin:=A1 (iter:=iter) (pos:=pos) (D:=s2.heap.objs.size) (t1:=s2.toks) (R:=RR (.ref s2.heap.objs.size) (s2.heap.push { cls:= .type "list",data:= .seq ([]:List Value).toArray }).objs.size) B hc hg ht he I3 T (T.keep _ _ _ DG fun b _ o e=>RP b o e) f3 w0 turn
  (fun s' H' J' f m q=>Tw _ _ s' H' J' f m q) Cv G'
 exact codeAny_compStart_list fin (T.self _ 0 _ _ _ (T.keep _ _ _ DG fun b _ o e=>G' b o (RP b o e)) fin)
theorem gj{sc:Scope}{NX:List Str}(S:DW sc scope NX N fr)(e1:X.env.scope=sc)(e2:X.N=NX)(hc:X.calm=true)(hi:PI X tg iter wi)
  (hg:∀pins fp s H,PG (qZ X pins N scope (yi scope X.env) fp s H) tg g) (ht:∀pins fp s H,F9 (qZ X pins N scope (yi scope X.env) fp s H) ifs tt) (he:∀pins fp s H,PE (qZ X pins N scope (yi scope X.env) fp s H) elt te)
  (hs:∀x,foldedSetIterable iter X.env x=pure x:=by intro _;rfl):PE X (.ListComp elt [⟨tg,iter,ifs,0⟩] scope pos) (G9 wi fr g tt te):=by
 intro pins s σ H Q I h
 have B:=S.Tn e1 e2 I.ok
 rw[eval_ListComp]
 refine wpAny_comprehension_free (use:=none) rfl hs B.MN B.kind B.names (bK (hi pins s σ H _ I h) fun v s1 h1=>bK h1 fun Mf s2 h2=>?_)
 obtain⟨it,fp,tn,J,H2,e,I2,T,DG,f2,q⟩:=h2
 subst e
 refine yk (RR:=fun acc C=>compPost (model X.prog X.w) X.A X.xe none (EP X pins σ Q) acc C) B hc hg ht he I2 T DG f2 q ?_
 intro D C s' H' J' fC ⟨m,hm⟩ qn
 refine⟨m,hm,fun h' Tx=>⟨.ref D,H',?_,rfl,qn⟩⟩
 obtain⟨f0,f1,_,f3,f4,f5⟩:=fC
 exact J'.turned (t':=s'.toks) (fun b o hb e=>(Tx.2 b hb).trans e) f0 f1 f3 f4 f5
end
end L2
namespace PySem
namespace F
end F
section
variable {prog:Program}{w:World}{K:Type}[DecidableEq K]{knd:KeyKind prog w K}{A:Around}{E:Value→Shared→Prop}{s:Shared}
end
end PySem
namespace PySem
section
variable {prog:Program}{w:World}{K:Type}[DecidableEq K]{knd:KeyKind prog w K}{A:Around}{E:Value→Shared→Prop}{s:Shared}
end
end PySem
namespace L2
open PySem PySem.Spec PyProof.Rows
def DZ(K:PySem.W.Frag):V→List V→Hp→VK→Prop:=fun x vs H Q=>∃l xs y,∃j:Nat,x= .ref l∧vs=[y]∧bF K H l xs∧xs.all gQ=true∧gQ y=true∧xs.findIdx? (fun z=>wk z y)=some j∧Q (.int j) H
theorem yl{X:Cx}:Lu X "list.index" (DZ X.K):=by
 intro pins s σ H x vs v us Q I rx rv h
 obtain⟨l,xs,y,j,rfl,rfl,hS,fl,fy,hj,q⟩:=h
 cases rx
 obtain⟨u,rfl,ru⟩:=rv.one
 obtain⟨its,r,p,z⟩:=I.list hS
 obtain⟨o,ho,Lz,n,hd⟩:=p.isList
 obtain⟨c,dd,dt,sl⟩:=o
 simp only at Lz hd
 subst Lz hd
 obtain⟨RQ,Tz,TB⟩:=List.findIdx?_eq_some_iff_getElem.mp hj
 have hlen:=r.length
 have all:∀i (h1:i<xs.length) (h2:i<its.length),x' y its[i]=wk xs[i] y:=fun i h1 h2=>by
  obtain⟨w',hw,qR⟩:=r.get (List.getElem?_eq_getElem h1)
  rw[List.getElem?_eq_getElem h2] at hw
  have e:its[i]=w':=Option.some.inj hw
  rw[e]
  exact sZ qR (List.all_eq_true.mp fl _ (List.getElem_mem h1))
 refine call_meets F.slot_list_index ⟨_,ho,rfl⟩ F.entry_list_index (F.args_list_index_2 _ _) (SeqAt.list_indexAt l its.toArray n dd sl u (x' y) j (by rw[List.size_toArray];omega) ?_ ?_ ?_) ⟨ho,?_,?_⟩
 ·have:(sizeLine:Nat) <2^63:=iV
  omega
 ·rw[List.getElem_toArray,all j RQ (by omega)]
  exact Tz
 ·intro m hm TC
  rw[List.size_toArray] at hm
  rw[List.getElem_toArray,all m (by omega) hm]
  have:=TB m TC
  simpa using this
 ·intro y' MG
  exact jd ru fy r fl y' (by simpa using MG)
 ·exact⟨.int j,H,I.tok _,⟨_,rfl⟩,q⟩
end L2
namespace L2
open PySem PySem.Spec PyProof.Rows
structure A2(K:PySem.W.Frag)(x qual:Str)(st:Stmt)(f:Addr)(fd:FuncData)(dV:Value):Prop where
 ex:∃(oc:Value) (od:Option Addr) (kV doc pm:Value) (an:Option Addr) (ba ct:Value) (nv:Array (Option Value)),
  fd=PySem.W.fnOf x qual (bD st) (aZ st) (ao st) dV kV doc pm an ba ct∧K.lookup f=some ⟨oc,od, .func fd,nv⟩∧PySem.W.codeIn K ba qual=true
 kp:PySem.W.keepIn K (.ref f)=true
section
variable {P:Program}{w:World}{K:PySem.W.Frag}{mg:Str→Option Value}{base:Heap}
theorem A2.ok{x qual:Str}{st:Stmt}{f:Addr}{fd:FuncData}{dV:Value}{N ps:List Str}{k:Nat}{sp:Sp}(F:A2 K x qual st f fd dV)(S:az N ps (ao st))(len:∀vs H Q E,sp vs H Q E→vs.length=ps.length)
  (dz:∀(ba:Value) (A:Around) (outer:List Env) (s:Shared) (H:Hp) (vs:List V) (Q:VK) (E:XK),cj k (A.deeper (envOfC qual (ao st) s.heap.objs.size f ba))→sp vs H Q E→
   ∃t,jR (gR pj P w K mg base N qual (ao st) f ba A outer s H E).Av (aZ st) t∧t { nx:=fun _ H'=>Q .cw H',rt:=Q } (start N vs) H):ei P w K mg base pj (k+1) f fd ps sp:=by
 obtain⟨oc,od,kV,doc,pm,an,ba,ct,nv,rfl,lk,lQ⟩:=F.ex
 refine fn_of lk lQ S len fun A outer s H vs Q E hr xB=>?_
 obtain⟨t,h,q⟩:=dz ba A outer s H vs Q E hr xB
 exact⟨t,h.Av,q⟩
theorem kY{x qual:Str}{st:Stmt}{f:Addr}{oc dV:Value}{od an:Option Addr}{nv:Array (Option Value)}{kV doc pm ba ct:Value}(l:K.lookup f=some ⟨oc,od, .func (PySem.W.fnOf x qual (bD st) (aZ st) (ao st) dV kV doc pm an ba ct),nv⟩)
  (c:PySem.W.codeIn K ba qual=true) (k:PySem.W.keepIn K (.ref f)=true):A2 K x qual st f (PySem.W.fnOf x qual (bD st) (aZ st) (ao st) dV kV doc pm an ba ct) dV:=⟨⟨oc,od,kV,doc,pm,an,ba,ct,nv,rfl,l,c⟩,k⟩
def Def(K:PySem.W.Frag)(mg:Str→Option Value)(x q:Str)(st:Stmt)(ps:List Str):Prop:=∃f fd,xD K x q st f fd∧Binds K fd ps []∧mg x=some (.ref f)
structure TF(P:Program)(w:World)(K:PySem.W.Frag)(mg:Str→Option Value)(base:Heap)(k:Nat)(x:Str)(ps:List Str)(sp:Sp)(f:Addr)(fd:FuncData):Prop where
 ok:ei P w K mg base pj k f fd ps sp
 kp:PySem.W.keepIn K (.ref f)=true
 b:Binds K fd ps []
 g:mg x=some (.ref f)
def a4(P:Program)(w:World)(K:PySem.W.Frag)(mg:Str→Option Value)(base:Heap)(k:Nat)(x:Str)(ps:List Str)(sp:Sp):Prop:=∃f fd,TF P w K mg base k x ps sp f fd
theorem Def.eB{x q:Str}{st:Stmt}{N ps:List Str}{k:Nat}{sp:Sp}(D:Def K mg x q st ps)(S:az N ps (ao st))(len:∀vs H Q E,sp vs H Q E→vs.length=ps.length)
  (dz:∀(f:Addr) (ba:Value) (A:Around) (outer:List Env) (s:Shared) (H:Hp) (vs:List V) (Q:VK) (E:XK),cj k (A.deeper (envOfC q (ao st) s.heap.objs.size f ba))→sp vs H Q E→
   ∃t,jR (gR pj P w K mg base N q (ao st) f ba A outer s H E).Av (aZ st) t∧t { nx:=fun _ H'=>Q .cw H',rt:=Q } (start N vs) H):a4 P w K mg base (k+1) x ps sp:=by
 obtain⟨f,fd,F,b,g⟩:=D
 exact⟨f,fd,F.ok S len (dz f),F.kp,b,g⟩
def bG(K:PySem.W.Frag)(C:Addr)(m q:Str)(st:Stmt)(ps:List Str):Prop:=∃f fd,xD K m q st f fd∧Binds K fd ps []∧Meth K C m f
structure MQ(P:Program)(w:World)(K:PySem.W.Frag)(mg:Str→Option Value)(base:Heap)(k:Nat)(C:Addr)(m:Str)(ps:List Str)(sp:Sp)(f:Addr)(fd:FuncData):Prop where
 ok:ei P w K mg base pj k f fd ps sp
 m:Meth K C m f
 b:Binds K fd ps []
def bW(P:Program)(w:World)(K:PySem.W.Frag)(mg:Str→Option Value)(base:Heap)(k:Nat)(C:Addr)(m:Str)(ps:List Str)(sp:Sp):Prop:=∃f fd,MQ P w K mg base k C m ps sp f fd
theorem bG.eB{C:Addr}{m q:Str}{st:Stmt}{N ps:List Str}{k:Nat}{sp:Sp}(D:bG K C m q st ps)(S:az N ps (ao st))(len:∀vs H Q E,sp vs H Q E→vs.length=ps.length)
  (dz:∀(f:Addr) (ba:Value) (A:Around) (outer:List Env) (s:Shared) (H:Hp) (vs:List V) (Q:VK) (E:XK),cj k (A.deeper (envOfC q (ao st) s.heap.objs.size f ba))→sp vs H Q E→
   ∃t,jR (gR pj P w K mg base N q (ao st) f ba A outer s H E).Av (aZ st) t∧t { nx:=fun _ H'=>Q .cw H',rt:=Q } (start N vs) H):bW P w K mg base (k+1) C m ps sp:=by
 obtain⟨f,fd,F,b,g⟩:=D
 exact⟨f,fd,F.ok S len (dz f),g,b⟩
def j0(K:PySem.W.Frag)(C:Addr)(q:Str)(st:Stmt)(ps:List Str)(ds:List Int):Prop:=∃f fd dV,A2 K "__init__" q st f fd dV∧Mk K C f∧∀j,j≤ds.length→∃us,Vals ((ds.drop j).map V.int) us∧Binds K fd ps us
structure MR(P:Program)(w:World)(K:PySem.W.Frag)(mg:Str→Option Value)(base:Heap)(k:Nat)(C:Addr)(ps:List Str)(ds:List Int)(sp:Sp)(f:Addr)(fd:FuncData):Prop where
 ok:ei P w K mg base pj k f fd ps sp
 m:Mk K C f
 b:∀j,j≤ds.length→∃us,Vals ((ds.drop j).map V.int) us∧Binds K fd ps us
def fP(P:Program)(w:World)(K:PySem.W.Frag)(mg:Str→Option Value)(base:Heap)(k:Nat)(C:Addr)(ps:List Str)(ds:List Int)(sp:Sp):Prop:=∃f fd,MR P w K mg base k C ps ds sp f fd
theorem j0.eB{C:Addr}{q:Str}{st:Stmt}{N ps:List Str}{ds:List Int}{k:Nat}{sp:Sp}(D:j0 K C q st ps ds)(S:az N ps (ao st))(len:∀vs H Q E,sp vs H Q E→vs.length=ps.length)
  (dz:∀(f:Addr) (ba:Value) (A:Around) (outer:List Env) (s:Shared) (H:Hp) (vs:List V) (Q:VK) (E:XK),cj k (A.deeper (envOfC q (ao st) s.heap.objs.size f ba))→sp vs H Q E→
   ∃t,jR (gR pj P w K mg base N q (ao st) f ba A outer s H E).Av (aZ st) t∧t { nx:=fun _ H'=>Q .cw H',rt:=Q } (start N vs) H):fP P w K mg base (k+1) C ps ds sp:=by
 obtain⟨f,fd,dV,F,g,b⟩:=D
 exact⟨f,fd,F.ok S len (dz f),g,b⟩
end
theorem aD.new{H:Hp}{p:Addr}{o:HO}(h:H p=none):aD H (upd H p o):=fun b q e=>by
 rw[ah (af e h)];exact e
theorem int_at{ns:List Int}{i:Nat}{y:V}(h:(ns.map V.int)[i]? =some y):∃z,ns[i]? =some z∧y=V.int z:=by
 rw[List.getElem?_map] at h
 cases e:ns[i]? with
 |none=>rw[e] at h;cases h
 |some z=>rw[e] at h;exact⟨z,rfl,(Option.some.inj h).symm⟩
end L2
namespace L2
open PySem
theorem cH:bootBuiltins "len" =some (.builtin "len"):=PySem.boot_len
theorem d6:bootBuiltins "isinstance" =some (.builtin "isinstance"):=by decide+kernel
theorem pw:bootBuiltins "int" =some (.type "int"):=by decide+kernel
theorem tm:bootBuiltins "str" =some (.type "str"):=by decide+kernel
theorem A3:bootBuiltins "bool" =some (.type "bool"):=by decide+kernel
theorem px:bootBuiltins "list" =some (.type "list"):=by decide+kernel
theorem A4:bootBuiltins "dict" =some (.type "dict"):=by decide+kernel
theorem D0:bootBuiltins "sum" =some (.builtin "sum"):=by decide+kernel
theorem bY{c A B:Prop}[Decidable c](hc:c)(h:A):if decide c=true then A else B:=by
 rw[if_pos (decide_eq_true hc)];exact h
theorem bT{c A B:Prop}[Decidable c](hc:¬c)(h:B):if decide c=true then A else B:=by
 rw[if_neg (by rw[decide_eq_false hc];decide)];exact h
theorem iX{α:Type}{xs:List α}{i:Int}(h0:0≤i)(h1:i<xs.length):∃v,v∈xs∧xC xs i=some v:=by
 have hl:i.toNat<xs.length:=by omega
 refine⟨xs[i.toNat],List.getElem_mem hl,?_⟩
 have:=pe (List.getElem?_eq_getElem hl)
 rwa [Int.toNat_of_nonneg h0] at this
theorem bb(x y:Str):(x++y).length=x.length+y.length:=by
 show (x.cps++y.cps).size=_
 rw[Array.size_append];rfl
theorem og{n:Int}(h1:0≤n)(h2:n<2^64):n.natAbs.log2<1920:=by
 by_cases h:n.natAbs=0
 ·rw[h];decide
 ·have:=(Nat.log2_lt h (k:=64)).mpr (by omega)
  omega
end L2
namespace L2
open PySem PySem.Spec PyProof.Rows
inductive oh:List Expr→List V→Prop where
 |nil:oh [] []
 |int {i:Int} {j} {pos:Pos} {es:List Expr} {vs:List V} (t:oh es vs):oh (.Constant (.int i) j pos::es) (.int i::vs)
 |str {x:Str} {j} {pos:Pos} {es:List Expr} {vs:List V} (t:oh es vs):oh (.Constant (.str x) j pos::es) (.str x::vs)
def Hh(vs:List V):TA:=fun _ H Q=>Q vs H
theorem uO{X:Cx}{es:List Expr}{vs:List V}(h:oh es vs):PA X es (Hh vs):=by
 induction h with
 |nil=>exact ak
 |int t ih=>exact fun pos pins s σ H Q I q=>aa aj ih rfl pos pins s σ H Q I q
 |str t ih=>exact fun pos pins s σ H Q I q=>aa ax ih rfl pos pins s σ H Q I q
section
variable {K:PySem.W.Frag}
theorem je{T:String}:PySem.W.kitOne K (.type T) (.type T)=some true:=by
 unfold PySem.W.kitOne
 rw[if_pos (by simp)]
theorem D4{T U:String}{b:Bool}(h1:(Value.type T==Value.type U)=false)(h2:PySem.W.kitMeta U=true)(h3:(fastBuiltinMro T).map (·.contains (Value.type U))=some b):PySem.W.kitOne K (.type T) (.type U)=some b:=by
 unfold PySem.W.kitOne
 rw[if_neg (by rw[h1];decide)]
 unfold PySem.W.kitCls
 dsimp only
 rw[if_pos h2]
 exact h3
theorem pA:PySem.W.kitOne K (.type "int") (.type "bool")=some false:=D4 (by decide+kernel) (by decide+kernel) (by decide+kernel)
end
end L2
namespace L2
open PySem PySem.Spec PyProof.Rows
section
variable {X:Cx}{elt tg iter:Expr}{ifs:List Expr}{scope:Scope}{pos Hi py:Pos}{N:List Str}{fr:List (Option Nat)}{wi:TI}{g:TG}{tt:TT}{te:TE}
end
theorem fQ{K:PySem.W.Frag}{a D:Addr}{xs:List V}{g:TG}{tt:TT}{te:TE}{Q:Hp→Prop}{σ:St}{H:Hp}(Pv:Nat→St→Hp→Prop)(h0:Pv 0 σ H)(hl:∀i σ H,i≤xs.length→Pv i σ H→bF K H a xs)
  (hs:∀i x σ H,xs[i]? =some x→Pv i σ H→∀N:St→Hp→Prop,(∀σ' H',Pv (i+1) σ' H'→N σ' H')→g x σ H fun σ3 H3=>tt σ3 H3 fun b H4=>if b=true then te σ3 H4 fun y H5=>∃ys,H5 D=some (.lst ys)∧ys.length<sizeLine∧N σ3 (upd H5 D (.lst (ys++[y]))) else N σ3 H4)
  (hd:∀σ H,Pv xs.length σ H→Q H):
  ∃W:Nat→Nat→St→Hp→Prop,(∃m,W 0 m σ H)∧∀i m σ H,W i m σ H→((Cn K a).stop i H∧Q H)∨((Cn K a).go i H∧∀x H2,(Cn K a).vZ i H x H2→g x σ H2 fun σ3 H3=>tt σ3 H3 fun b H4=>if b=true
   then te σ3 H4 fun y H5=>∃ys,H5 D=some (.lst ys)∧ys.length<sizeLine∧∃m',m'<m∧W (i+1) m' σ3 (upd H5 D (.lst (ys++[y])))
   else∃m',m'<m∧W (i+1) m' σ3 H4):=by
 refine⟨fun i m σ H=>m+i=xs.length∧Pv i σ H,⟨xs.length,rfl,h0⟩,?_⟩
 rintro i m σ H ⟨hm,hp⟩
 have sq:=hl i σ H (by omega) hp
 by_cases hi:i<xs.length
 ·refine .inr ⟨⟨xs,xs[i],sq,List.getElem?_eq_getElem hi⟩,?_⟩
  rintro x H2 ⟨rfl,hx⟩
  exact hs i x σ H2 (hx xs sq) hp _ fun σ' H' q=>⟨m - 1,by omega,by omega,q⟩
 ·have e:i=xs.length:=by omega
  subst e
  exact .inl ⟨⟨xs,sq,Nat.le_refl _⟩,hd σ H hp⟩
theorem wz{a D:Addr}{o:Obj}{kvs:List (Key×V)}{g:TG}{tt:TT}{te:TE}{Q:Hp→Prop}{σ:St}{H:Hp}(Pv:Nat→St→Hp→Prop)(h0:Pv 0 σ H)(hl:∀i σ H,Pv i σ H→H a=some (.iG o (.dK kvs)))
  (hs:∀i k v σ H,kvs[i]? =some (k,v)→Pv i σ H→∀N:St→Hp→Prop,(∀σ' H',Pv (i+1) σ' H'→N σ' H')→g (kV k) σ H fun σ3 H3=>tt σ3 H3 fun b H4=>if b=true then te σ3 H4 fun y H5=>∃ys,H5 D=some (.lst ys)∧ys.length<sizeLine∧N σ3 (upd H5 D (.lst (ys++[y]))) else N σ3 H4)
  (hd:∀σ H,Pv kvs.length σ H→Q H):
  ∃W:Nat→Nat→St→Hp→Prop,(∃m,W 0 m σ H)∧∀i m σ H,W i m σ H→((Cy a o kvs).stop i H∧Q H)∨((Cy a o kvs).go i H∧∀x H2,(Cy a o kvs).vZ i H x H2→g x σ H2 fun σ3 H3=>tt σ3 H3 fun b H4=>if b=true
   then te σ3 H4 fun y H5=>∃ys,H5 D=some (.lst ys)∧ys.length<sizeLine∧∃m',m'<m∧W (i+1) m' σ3 (upd H5 D (.lst (ys++[y])))
   else∃m',m'<m∧W (i+1) m' σ3 H4):=by
 refine⟨fun i m σ H=>m+i=kvs.length∧Pv i σ H,⟨kvs.length,rfl,h0⟩,?_⟩
 rintro i m σ H ⟨hm,hp⟩
 have hz:=hl i σ H hp
 by_cases hi:i<kvs.length
 ·refine .inr ⟨⟨hz,hi⟩,?_⟩
  rintro x H2 ⟨rfl,k,v,F8,rfl⟩
  exact hs i k v σ H2 F8 hp _ fun σ' H' q=>⟨m - 1,by omega,by omega,q⟩
 ·have e:i=kvs.length:=by omega
  subst e
  exact .inl ⟨⟨hz,Nat.le_refl _⟩,hd σ H hp⟩
end L2
namespace L2
open PySem PySem.Spec PyProof.Rows
section
variable {X:Cx}
def MS(t u:TE):TE:=fun σ H Q=>t σ H Q∨u σ H Q
theorem ym{e:Expr}{t u:TE}(h:PE X e t)(h':PE X e u):PE X e (MS t u):=fun pins s σ H Q I q=>
 q.elim (fun z=>h pins s σ H Q I z) fun z=>h' pins s σ H Q I z
theorem yn(hc:X.calm=true):gP X (.builtin "sum") (fun xs H Q=>∃p,∃ns:List Int,xs=[.ref p]∧bF X.K H p (ns.map V.int)∧Q (.int ns.sum) H):=by
 intro pins s σ H xs us Q I r h
 obtain⟨p,ns,rfl,hS,q⟩:=h
 obtain⟨u,rfl,ru⟩:=vals1 r
 cases ru
 obtain⟨its,rv,pl,hz⟩:=I.list hS
 have hi:IntsAre its ns:=intsAre_of rv
 obtain⟨ys,hy⟩:=hi.allInts.items
 have hl:s.heap.IsList p (intItems ys):=hy▸pl.isList
 refine sum_intListG (I.ok.hd hc) hl fun h' tk t' hk=>?_
 have e1:ns=ys.toList.map (·.1):=by
  rw[←nums_intItems,←hy]
  exact(show numsOf its.toArray.toList=ns from hi.numsOf).symm
 have e2:preSum (numAt ys) ys.size=ns.sum:=by rw[preSum_eq,List.take_of_length_le (by simp),e1]
 exact⟨.int ns.sum,H,I.kept hk,⟨_,by rw[e2]⟩,q⟩
theorem mi:∀{xs:List Str} {us:List Value},Vals (xs.map V.str) us→StrsAre us xs
 | [],_, .nil=> .nil
 |x::r,_, .cons h t=>by
  obtain⟨tk,e⟩:=(show∃t,_=Value.str x t from h)
  subst e
  exact .cons x tk (mi t)
def rJoin(K:PySem.W.Frag):V→List V→Hp→VK→Prop:=fun x vs H Q=>∃z l,∃ys:List Str,x= .str z∧vs=[.ref l]∧bF K H l (ys.map V.str)∧(ys.map (·.length)).sum+ys.length*z.length≤16777216∧Q (.str (Txt.join z ys)) H
theorem jf:Lu X "str.join" (rJoin X.K):=by
 intro pins s σ H x vs v us Q I rx rv h
 obtain⟨z,l,ys,rfl,rfl,hS,hz,q⟩:=h
 obtain⟨t,e⟩:=(show∃t,v=Value.str z t from rx)
 subst e
 obtain⟨u,rfl,ru⟩:=rv.one
 cases ru
 obtain⟨its,r,p,_⟩:=I.list hS
 exact join_list p.isList (by simpa using mi r) hz fun t' k=>⟨.str (Txt.join z ys),H,I.tok k,⟨t',rfl⟩,q⟩
mutual
inductive D5(K:PySem.W.Frag)(H:Hp):V→PyData→Prop where
 |cw:D5 K H .cw .none
 |bl (b:Bool):D5 K H (.bl b) (.bool b)
 |int (i:Int):D5 K H (.int i) (.int i)
 |str (x:Str):D5 K H (.str x) (.str x)
 |lst {a:Addr} {xs:List V} {ds:List PyData} (h:bF K H a xs) (t:yo K H xs ds):D5 K H (.ref a) (.list ds)
 |tup {a:Addr} {xs:List V} {ds:List PyData} (h:iI K H a xs) (t:yo K H xs ds):D5 K H (.ref a) (.tuple ds)
inductive yo(K:PySem.W.Frag)(H:Hp):List V→List PyData→Prop where
 |nil:yo K H [] []
 |cons {x:V} {d:PyData} {xs:List V} {ds:List PyData} (h:D5 K H x d) (t:yo K H xs ds):yo K H (x::xs) (d::ds)
end
end
end L2
namespace L2
open PySem PySem.Spec PyProof.Rows
section
variable {X:Cx}
end
theorem il{tt:TT}{A B r:TS}{D:Ends}{σ:St}{H:Hp}(Pm:St→Hp→Prop)(h:∀N:St→Hp→Prop,(∀σ' H',Pm σ' H'→N σ' H')→DC tt A B { D with nx:=N } σ H)(hr:∀σ' H',Pm σ' H'→r D σ' H'):AG (DC tt A B) r D σ H:=h _ hr
section
variable {X:Cx}{pins:List (Addr×Obj)}{σ:St}{H:Hp}{s:Shared}{h':Heap}
end
theorem yp:bootBuiltins "abs" =some (.builtin "abs"):=by decide+kernel
theorem D6(xs:List V)(k:Nat):l9 xs none (some (k:Int))=xs.take k:=by
 unfold l9
 rw[HT.x8,HT.o8,List.drop_zero,Nat.sub_zero]
 rcases Nat.le_total k xs.length with h|h
 ·rw[Nat.min_eq_left h]
 ·rw[Nat.min_eq_right h,List.take_length,List.take_of_length_le h]
theorem rf(xs:List V)(j k:Nat):l9 xs (some (j:Int)) (some (k:Int))=(xs.drop j).take (k - j):=by
 unfold l9
 rw[HT.o8,HT.o8]
 rcases Nat.le_total j xs.length with h|h
 ·rw[Nat.min_eq_left h]
  rcases Nat.le_total k xs.length with h'|h'
  ·rw[Nat.min_eq_left h']
  ·rw[Nat.min_eq_right h',List.take_of_length_le (by rw[List.length_drop];exact Nat.le_refl _),List.take_of_length_le (by rw[List.length_drop];omega)]
 ·rw[Nat.min_eq_right h,List.drop_length,List.drop_of_length_le h,List.take_nil,List.take_nil]
end L2
namespace L2
open PySem PySem.Spec PyProof.Rows
section
variable {K:PySem.W.Frag}{g:TG}{tt:TT}{te:TE}{tb:TS}{D:Ends}
end
end L2
namespace L2
open PySem PySem.Spec PyProof.Rows
section
variable {X:Cx}{pins:List (Addr×Obj)}{σ:St}{H:Hp}{s:Shared}{N:List Str}{fr:List (Option Nat)}{scope:Scope}{fp:List Addr}
end
section
variable {X:Cx}{elt tg iter:Expr}{ifs:List Expr}{scope:Scope}{pos Hi py:Pos}{N:List Str}{fr:List (Option Nat)}{wi:TI}{g:TG}{tt:TT}{te:TE}
end
section
variable {X:Cx}{tg:Expr}(K:PySem.W.Frag)
end
end L2
namespace L2
open PySem PySem.Spec PyProof.Rows
section
variable {K:PySem.W.Frag}{g:TG}{tt:TT}{te:TE}
end
section
variable {X:Cx}(K:PySem.W.Frag)
end
end L2
namespace L2
open PySem PySem.Spec PyProof.Rows
section
variable {K:PySem.W.Frag}{g:TG}{tt:TT}{te:TE}
end
end L2
namespace L2
open PySem PySem.Spec PyProof.Rows
section
variable {X:Cx}
end
end L2
namespace L2
open PySem PySem.Spec PyProof.Rows
section
variable {X:Cx}
end
end L2
namespace L2
open PySem PySem.Spec PyProof.Rows PySem.W
section
variable {O:KeyOrd}{k:Nat→O.α}{n:Nat}{I:Shared→Prop}{cmp:Nat→Nat→(Bool→Shared→Prop)→Shared→Prop}
end
end L2
namespace PySem.SeqAt
open AutoSeq1 (wpAny_loadPart')
open MeetsSeq MeetsSeq2 MeetsSeq3
def A5(e c:Nat→Bool):List Nat→Bool
 | []=>false
 |j::r=>if e j=true then A5 e c r else c j
end PySem.SeqAt
namespace L2
open PySem PySem.Spec PyProof.Rows PySem.SeqAt PySem.W
@[reducible] def MT:KeyOrd where
  α:=List Int
  blt a b:=decide (a<b)
  irrefl a:=by simp
  trans a b c h1 h2:=by simp only [decide_eq_true_eq] at*;exact List.lt_trans h1 h2
  negTrans a b c h:=by
   simp only [decide_eq_true_eq] at*
   by_cases Hj:a<b
   ·exact .inl Hj
   ·exact .inr (List.lt_of_le_of_lt (List.not_lt.mp Hj) h)
  total a b h1 h2:=by simp only [decide_eq_false_iff_not] at*;exact List.le_antisymm (List.not_lt.mp h2) (List.not_lt.mp h1)
theorem A6:∀(xs ys:List Int) (d:Nat) (f g:Nat→Int),xs.length=ys.length→(∀j,j<xs.length→f (d+j)=xs.getD j 0)→(∀j,j<xs.length→g (d+j)=ys.getD j 0)→
  A5 (fun j=>f j==g j) (fun j=>decide (f j<g j)) (List.range' d xs.length)=decide (xs<ys)
 | [],[],d,f,g,_,_,_=>by simp [A5]
 |x::xs,y::ys,d,f,g,hl,hf,hg=>by
  have h0:=hf 0 (by simp)
  have g0:=hg 0 (by simp)
  simp at h0 g0
  have ih:=A6 xs ys (d+1) f g (by simpa using hl) (fun j hj=>by
   have:=hf (j+1) (by simp;omega)
   rw[show d+1+j=d+(j+1) by omega,this];simp) (fun j hj=>by
   have:=hg (j+1) (by simp;omega)
   rw[show d+1+j=d+(j+1) by omega,this];simp)
  rw[List.length_cons,List.range'_succ,A5,ih,h0,g0]
  by_cases e:x=y
  ·subst e
   rw[if_pos (by simp)]
   simp [List.cons_lt_cons_iff]
  ·rw[if_neg (by simpa using e)]
   simp [List.cons_lt_cons_iff,e]
section
variable {prog:Program}{w:World}{A:Around}{E:Value→Shared→Prop}{s:Shared}
end
section
variable {X:Cx}
end
end L2
namespace L2
open PySem PySem.Spec PyProof.Rows
section
variable {X:Cx}
end
end L2
namespace L2
open PySem PySem.Spec PyProof.Rows
section
variable {K:PySem.W.Frag}{g:TG}{tt:TT}{te:TE}
theorem yq{J:It}{L:Addr}{Q:Hp→Prop}{σ:St}{H:Hp}(n:Nat)(H0:Hp)(S:St→Prop)(Pv:Nat→List V→Prop)(TH:∀i H',i<n→aD H0 H'→J.go i H')(Hk:∀H',aD H0 H'→J.stop n H')
  (TJ:H0 L=none) (hσ:S σ) (h0:aD H0 H) (hL:H L=some (.lst [])) (p0:Pv 0 []) (hz:n≤sizeLine) (hl:∀i ys,Pv i ys→ys.length≤i)
  (turn:∀i σ H' ys,i<n→S σ→aD H0 H'→H' L=some (.lst ys)→Pv i ys→∀(N:St→V→Hp→Prop) (M:St→Hp→Prop),(∀σ3 y H5,S σ3→aD H0 H5→H5 L=some (.lst ys)→Pv (i+1) (ys++[y])→N σ3 y H5)→(∀σ3 H4,S σ3→aD H0 H4→H4 L=some (.lst ys)→Pv (i+1) ys→M σ3 H4)→
   ∀x H2,J.vZ i H' x H2→g x σ H2 fun σ3 H3=>tt σ3 H3 fun b H4=>if b=true then te σ3 H4 fun y H5=>N σ3 y H5 else M σ3 H4)
  (fin:∀H' ys,aD H0 H'→H' L=some (.lst ys)→Pv n ys→Q H'):
  ∃W:Nat→Nat→St→Hp→Prop,(∃m,W 0 m σ H)∧∀i m σ H,W i m σ H→(J.stop i H∧Q H)∨(J.go i H∧∀x H2,J.vZ i H x H2→g x σ H2 fun σ3 H3=>tt σ3 H3 fun b H4=>if b=true
   then te σ3 H4 fun y H5=>∃ys,H5 L=some (.lst ys)∧ys.length<sizeLine∧∃m',m'<m∧W (i+1) m' σ3 (upd H5 L (.lst (ys++[y])))
   else∃m',m'<m∧W (i+1) m' σ3 H4):=by
 refine⟨fun i m σ H=>m+i=n∧S σ∧aD H0 H∧∃ys,H L=some (.lst ys)∧Pv i ys,⟨n,rfl,hσ,h0,[],hL,p0⟩,?_⟩
 rintro i m σ H ⟨hm,hs,uQ,ys,yr,hp⟩
 by_cases hi:i<n
 ·refine .inr ⟨TH i H hi uQ,fun x H2 hy=>turn i σ H ys hi hs uQ yr hp _ _ (fun σ3 y H5 k1 k2 k3 k4=>?_) (fun σ3 H4 k1 k2 k3 k4=>?_) x H2 hy⟩
  ·refine⟨ys,k3,by have:=hl i ys hp;omega,m - 1,by omega,by omega,k1,fun b o e=>?_,ys++[y],ag,k4⟩
   rw[ah (af e TJ)];exact k2 b o e
  ·exact⟨m - 1,by omega,by omega,k1,k2,ys,k3,k4⟩
 ·have e:i=n:=by omega
  subst e
  exact .inl ⟨Hk H uQ,fin H ys uQ yr hp⟩
end
section
variable {X:Cx}
end
end L2
namespace L2
open PySem PySem.Spec PyProof.Rows
section
variable {K:PySem.W.Frag}{g:TG}{tt:TT}{te:TE}
end
section
variable {X:Cx}
end
end L2
namespace PySem.W
open PySem PySem.Calls PyProof.Rows PyProof.V PySem.Spec
section
variable {prog:Program}{w:World}{A:Around}{E:Value→Shared→Prop}{s:Shared}{T:String}{r d:Addr}{n:Nat}{P:Nat→Value→Prop}{OK:Heap→Prop}
end
end PySem.W
namespace L2
open PySem PySem.Spec PyProof.Rows PySem.W
section
variable {X:Cx}
end
end L2
namespace L2
open PySem PySem.Spec PyProof.Rows
section
variable {X:Cx}
def MU(K:PySem.W.Frag):R2:=fun x y H Q=>∃a b xs,x= .ref a∧y= .ref b∧bF K H a xs∧bF K H b []∧Q (.bl xs.isEmpty) H
theorem pB(hu:X.A.units+1<cLine):jM X (compareOp .Eq) (MU X.K):=by
 intro pins s σ H x y v u Q I rx ry h
 obtain⟨a,b,xs,rfl,rfl,hx,hy,q⟩:=h
 cases rx
 cases ry
 obtain⟨its,rv,p,_⟩:=I.list hx
 obtain⟨TK,qR,p',_⟩:=I.list hy
 cases qR
 have Hl:X.A.units<cLine:=by omega
 cases xs with
 |nil=>
  cases rv
  exact SeqAt.eq_listAt (e:=fun _=>true) p.isList p'.isList rfl Hl (fun j h1 h2=>absurd h1 (by simp)) ⟨.bl true,H,I,by simp [RelV],q⟩
 |cons z zs=>
  cases rv with
  |cons r1 r2=>exact SeqAt.eq_list_lengthsAt p.isList p'.isList (by simp) Hl ⟨.bl false,H,I,rfl,q⟩
end
end L2
namespace L2
open PySem PySem.Spec PyProof.Rows
section
variable {X:Cx}
theorem eR:jM X (compareOp .LtE) (fun x y H Q=>∃i j,x= .str i∧y= .str j∧Q (.bl (!decide (j.cps.toList<i.cps.toList))) H):=by
 intro pins s σ H x y v u Q I rx ry h
 obtain⟨i,j,rfl,rfl,q⟩:=h
 obtain⟨t,rfl⟩:=(show∃t,v=Value.str i t from rx)
 obtain⟨t',rfl⟩:=(show∃t,u=Value.str j t from ry)
 exact PySem.P.le_str ⟨.bl _,H,I,rfl,q⟩
theorem wA:gP X (.type "int") (fun xs H Q=>∃x n,xs=[.str x]∧PySem.intText? x=some n∧x.length≤640∧Q (.int n) H):=by
 intro pins s σ H xs us Q I r h
 obtain⟨x,n,rfl,hn,hl,q⟩:=h
 obtain⟨u,rfl,ru⟩:=vals1 r
 obtain⟨t,rfl⟩:=(show∃t,u=Value.str x t from ru)
 exact PySem.W.KIN.call_text hn hl ⟨.int n,H,I.tok _,⟨_,rfl⟩,q⟩
def MV:V→Option Int→Option Int→Hp→VK→Prop:=fun x lo hi H Q=>∃y,x= .str y∧y.length≤sizeLine∧Q (.str (Txt.slice y lo hi)) H
theorem dB:Mu X MV:=by
 intro pins s σ H x v vl vu lo hi sl Q I rx hs pl pu h
 obtain⟨y,rfl,hz,q⟩:=h
 obtain⟨t,rfl⟩:=(show∃t,v=Value.str y t from rx)
 refine⟨"str",_,F.slot_str_getitem.lookup,typeIs_str _ _ _,?_⟩
 cases pl with
 |none=>cases pu with
  |none=>exact wpAny_getItem_str_slice (l:=none) (u:=none) (st:=none) hs rfl (post_val_or_str ⟨Nat.le_trans (Txt.slice_le y _ _) hz,fun t' k=>⟨.str _,H,I.tok k,⟨t',rfl⟩,q⟩⟩)
  |int j uj=>exact wpAny_getItem_str_slice (l:=none) (u:=some (j,uj)) (st:=none) hs rfl (post_val_or_str ⟨Nat.le_trans (Txt.slice_le y _ _) hz,fun t' k=>⟨.str _,H,I.tok k,⟨t',rfl⟩,q⟩⟩)
 |int i ui=>cases pu with
  |none=>exact wpAny_getItem_str_slice (l:=some (i,ui)) (u:=none) (st:=none) hs rfl (post_val_or_str ⟨Nat.le_trans (Txt.slice_le y _ _) hz,fun t' k=>⟨.str _,H,I.tok k,⟨t',rfl⟩,q⟩⟩)
  |int j uj=>exact wpAny_getItem_str_slice (l:=some (i,ui)) (u:=some (j,uj)) (st:=none) hs rfl (post_val_or_str ⟨Nat.le_trans (Txt.slice_le y _ _) hz,fun t' k=>⟨.str _,H,I.tok k,⟨t',rfl⟩,q⟩⟩)
end
def Hm(x:Str):It:=⟨fun i _=>i<x.length,fun i H v H'=>H'=H∧∃c,x.cps[i]? =some c∧v= .str ⟨#[c]⟩,fun i _=>x.length≤i⟩
theorem yt{P:Program}{w:World}{K:PySem.W.Frag}{tg:Expr}(it:Addr)(x:Str)(t:Tok):
  Turn P w K tg (Hm x) [it] it (fun i h=>h.IsStrIter it "str_ascii_iterator" x t i) where
 mem:=by simp
 obj:=fun i h st b hb=>by
  have e:b=it:=by simpa using hb
  subst e
  obtain⟨o,e,c,d⟩:=st
  exact⟨o,e,fun v z=>by rw[d] at z;cases z⟩
 keep:=fun i h h' st k=>let ⟨o,ho,r⟩:=st;⟨o,k it (by simp) o ho,r⟩
 item:=by
  intro X hP hw hK hc i pins s σ H E I hf st hg
  subst hP hw hK
  have hg:i<x.cps.size:=hg
  obtain⟨f0,f1,f2,f3,f4,f5⟩:=hf it (by simp)
  refine wpAny_pyNext_ascii_item st (Array.getElem?_eq_getElem hg) fun h' xx sb=>?_
  have I1:Inv X pins σ H { s with heap:=h',toks:=s.toks+1 }:=I.turned (t':=s.toks+1) (fun b o hb e=>(sb.2 b hb).trans e) f0 f1 f3 f4 f5
  obtain⟨oi,e,c,d⟩:=id xx
  exact⟨_,rfl,um (s:={ s with heap:=h',toks:=s.toks+1 }) e c d (by decide) ⟨.str ⟨#[x.cps[i]]⟩,H,I1,⟨_,rfl⟩,⟨rfl,_,Array.getElem?_eq_getElem hg,rfl⟩,xx,fun b hb=>(hf b hb).1⟩⟩
 done:=by
  intro X hP hw hK hc i pins s σ H E I hf st hg
  subst hP hw hK
  have hg:x.cps.size≤i:=hg
  obtain⟨f0,f1,f2,f3,f4,f5⟩:=hf it (by simp)
  exact wpAny_pyNext_ascii_end (I.ok.hd hc) st (Array.getElem?_eq_none hg) fun h' eb=>⟨rfl,I.turned (t':=s.toks) (fun b o hb e=>eb b o hb e) f0 f1 f3 f4 f5⟩
 self:=fun _ _ _ _ _ st h=>wpAny_pyIter_striter_ascii st h
section
variable {X:Cx}{tg:Expr}
def MW(tl:TE):TI:=fun σ H R=>tl σ H fun v H1=>∃x,v= .str x∧x.cps.all (· <128)=true∧R (Hm x) H1
theorem yu{l:Expr}{tl:TE}(hl:PE X l tl):PI X tg l (MW tl):=by
 intro pins s σ H R I h
 refine bK (hl pins s σ H _ I h) fun v s1 ⟨y,H1,I1,r1,x,e,ha,q⟩=>?_
 subst e
 obtain⟨t,rfl⟩:=(show∃t,v=Value.str x t from r1)
 refine wpAny_pyIter_ascii ha ?_
 refine⟨s1.heap.objs.size,[s1.heap.objs.size],_,_,_,rfl,I1.kept (t':=s1.toks) fun b o e=>Heap.get?_push_of_some _ e,yt _ x t,?_,fun b hb=>?_,q⟩
 ·exact⟨_,Heap.get?_push_size _ rfl,rfl,rfl⟩
 ·have e:b=s1.heap.objs.size:=by simpa using hb
  subst e
  exact I1.xR (Nat.le_refl _) (I1.bg.fresh (Nat.le_refl _))
end
theorem A7{x:Str}{g:TG}{tb:TS}{D:Ends}{σ:St}{H:Hp}(Pv:Nat→St→Hp→Prop)(h0:Pv 0 σ H)
  (hs:∀i c σ H,x.cps[i]? =some c→Pv i σ H→g (.str ⟨#[c]⟩) σ H fun σ2 H2=>tb { D with nx:=Pv (i+1),ct:=Pv (i+1),bk:=D.nx } σ2 H2) (hd:∀σ H,Pv x.length σ H→D.nx σ H):
  ∃W:Nat→Nat→St→Hp→Prop,(∃m,W 0 m σ H)∧∀i m σ H,W i m σ H→
   ((Hm x).stop i H∧D.nx σ H)∨((Hm x).go i H∧∃N:St→Hp→Prop,(∀σ' H',N σ' H'→∃m',m'<m∧W (i+1) m' σ' H')∧∀v H',(Hm x).vZ i H v H'→g v σ H' fun σ2 H2=>tb { D with nx:=N,ct:=N,bk:=D.nx } σ2 H2):=by
 refine⟨fun i m σ H=>m+i=x.length∧Pv i σ H,⟨x.length,rfl,h0⟩,?_⟩
 rintro i m σ H ⟨hm,p⟩
 by_cases hi:i<x.length
 ·refine .inr ⟨hi,Pv (i+1),fun σ' H' q=>⟨m - 1,by omega,by omega,q⟩,?_⟩
  rintro v H' ⟨rfl,c,hc,rfl⟩
  exact hs i c σ _ hc p
 ·have e:i=x.length:=by omega
  subst e
  exact .inl ⟨Nat.le_refl _,hd σ H p⟩
end L2
namespace L2
open PySem PySem.Spec PyProof.Rows
section
variable {X:Cx}
end
end L2
namespace PySem.W
open PySem PySem.Calls PyProof.Rows PyProof.V PySem.Spec
section
variable {prog:Program}{w:World}{A:Around}{E:Value→Shared→Prop}{s:Shared}{T:String}{r d:Addr}{n:Nat}{P:Nat→Value→Prop}{OK:Heap→Prop}
end
end PySem.W
namespace L2
open PySem PySem.Spec PyProof.Rows PySem.W
section
variable {X:Cx}
end
section
variable {X:Cx}{pins:List (Addr×Obj)}{σ:St}{H:Hp}{s:Shared}{a b:Addr}{kvs more:List (Key×V)}{A:Around}{E:Value→Shared→Prop}
end
section
variable {X:Cx}{o e:Expr}{apos e7:Pos}{td ty:TE}
end
end L2
namespace L2
open PySem PySem.Spec PyProof.Rows
end L2
namespace L2
open PySem PySem.Spec PyProof.Rows
end L2
namespace L2
open PySem PySem.Spec PyProof.Rows PySem.W
section
variable {X:Cx}
end
end L2
namespace L2
open PySem PySem.Spec PyProof.Rows
end L2
namespace L2
open PySem PySem.Spec PyProof.Rows
section
variable {X:Cx}
end
end L2
namespace L2
open PySem PySem.Spec PyProof.Rows
section
variable {X:Cx}
end
end L2
namespace L2
open PySem PySem.Spec PyProof.Rows
section
variable {X:Cx}
def MX(K:PySem.W.Frag):R2:=fun x y H Q=>∃a b xs,x= .ref a∧y= .ref b∧bF K H a xs∧bF K H b []∧Q (.bl (!xs.isEmpty)) H
theorem D7(hu:X.A.units+1<cLine):jM X (compareOp .NotEq) (MX X.K):=by
 intro pins s σ H x y v u Q I rx ry h
 obtain⟨a,b,xs,rfl,rfl,hx,hy,q⟩:=h
 cases rx
 cases ry
 obtain⟨its,rv,p,_⟩:=I.list hx
 obtain⟨TK,qR,p',_⟩:=I.list hy
 cases qR
 have Hl:X.A.units<cLine:=by omega
 cases xs with
 |nil=>
  cases rv
  exact SeqAt.RcNeAt.lists (e:=fun _=>true) p.isList p'.isList rfl Hl (fun j h1 h2=>absurd h1 (by simp)) _ _ _ _ ⟨.bl false,H,I,by simp [RelV],q⟩
 |cons z zs=>
  cases rv with
  |cons r1 r2=>exact SeqAt.RcNeAt.lists_lengths p.isList p'.isList (by simp) Hl _ _ _ _ ⟨.bl true,H,I,rfl,q⟩
end
end L2
namespace PySem
structure Heap.j3(h:Heap)(e:Addr)(tb:Option Addr):Prop where
 ex:∃oe vs,h.get? e=some oe∧oe.data= .fields vs∧vs[1]? =some (tb.elim Value.none Value.ref)
 tr:∀T,tb=some T→T≠e∧∃oT ts,h.get? T=some oT∧oT.data= .fields ts∧3<ts.size
structure Heap.Moved(fs:List Addr)(e:Addr)(tb:Option Addr)(h h':Heap):Prop where
 keep:∀b o,h.get? b=some o→b≠e→tb≠some b→b∉fs→h'.get? b=some o
 slot:∀b o,h.get? b=some o→b≠e→tb≠some b→∃sl,h'.get? b=some { o with slots:=sl }
 self:∀o,h.get? e=some o→∃vs,h'.get? e=some { o with data:= .fields vs }
 ent:∀b o,tb=some b→b≠e→h.get? b=some o→∃o',h'.get? b=some o'
 size:h.objs.size≤h'.objs.size
theorem Heap.Moved.there{fs:List Addr}{e:Addr}{tb:Option Addr}{h h':Heap}(m:Heap.Moved fs e tb h h')(b:Addr)(o:Obj)(q:h.get? b=some o):∃o',h'.get? b=some o':=by
 by_cases be:b=e
 ·subst be
  obtain⟨vs,z⟩:=m.self o q
  exact⟨_,z⟩
 ·by_cases bt:tb=some b
  ·exact m.ent b o bt be q
  ·obtain⟨sl,z⟩:=m.slot b o q be bt
   exact⟨_,z⟩
theorem Heap.Moved.refl{fs:List Addr}{e:Addr}{tb:Option Addr}{h:Heap}(x:h.j3 e tb):Heap.Moved fs e tb h h:=
 ⟨fun _ _ q _ _ _=>q,fun _ o q _ _=>⟨o.slots,q⟩,fun o q=>by
  obtain⟨oe,vs,he,hd,_⟩:=x.ex
  rw[q] at he
  cases he
  exact⟨vs,by rw[q,←hd]⟩,fun _ o _ _ q=>⟨o,q⟩,Nat.le_refl _⟩
theorem Heap.Moved.trans{fs:List Addr}{e:Addr}{tb RS:Option Addr}{h h1 h2:Heap}(x:Heap.Moved fs e tb h h1)(y:Heap.Moved fs e RS h1 h2)(n:∀T,RS=some T→tb=some T∨h.objs.size≤T):Heap.Moved fs e tb h h2 where
 keep:=fun b o q be bt bf=>y.keep b o (x.keep b o q be bt bf) be (fun z=>(n b z).elim bt fun w=>absurd (Heap.lt_size q) (Nat.not_lt.mpr w)) bf
 slot:=fun b o q be bt=>by
  obtain⟨sl,z⟩:=x.slot b o q be bt
  obtain⟨Gv,z'⟩:=y.slot b _ z be (fun z=>(n b z).elim bt fun w=>absurd (Heap.lt_size q) (Nat.not_lt.mpr w))
  exact⟨Gv,z'⟩
 self:=fun o q=>by
  obtain⟨vs,z⟩:=x.self o q
  obtain⟨RT,z'⟩:=y.self _ z
  exact⟨RT,z'⟩
 ent:=fun b o _ be q=>by
  obtain⟨o1,z⟩:=x.there b o q
  exact y.there b o1 z
 size:=Nat.le_trans x.size y.size
theorem Heap.Moved.mono{fs Az:List Addr}{e:Addr}{tb:Option Addr}{h h':Heap}(x:Heap.Moved fs e tb h h')(k:∀b∈fs,b∈Az):Heap.Moved Az e tb h h':=
 ⟨fun b o q be bt bf=>x.keep b o q be bt fun z=>bf (k b z),x.slot,x.self,x.ent,x.size⟩
theorem pD{o:Obj}{vs:Array Value}(hd:o.data= .fields vs)(f:Array Value→Array Value):o.mapFields f={ o with data:= .fields (f vs) }:=by
 obtain⟨a,b,c,d⟩:=o
 cases hd
 rfl
section
variable {M:Model}{A:Around}{E:Value→Shared→Prop}{s:Shared}
theorem rg{base:Heap}{env:Env}{outer:List Env}{L e:Addr}{oe:Obj}{vs:Array Value}{MY:Value}{nx:Bool}{Q:Unit→Shared→Prop}(fr:A.frames=some (env::outer))(fl:s.heap.FunFrames base (env::outer))(hL:env.frame=some L)
  (xe:s.heap.get? e=some oe) (xd:oe.data= .fields vs) (xs:1<vs.size)
  (k:∀h' T,h'.j3 e (some T)→s.heap.objs.size≤T→Heap.Moved ((env::outer).filterMap (·.frame)) e none s.heap h'→Q () { s with heap:=h' }):
  wpAny M A (do let a←frameOf env;let pl←entryPlaceOf L nx;let b←EntryCells.newEntry MY a .none (rawInt L) .none pl;setField (.ref e) 1 b) Q E s:=by
 have TM:e∉(env::outer).filterMap (·.frame):=fun z=>by
  obtain⟨_,o,q,nf⟩:=fl.mem z
  rw[xe] at q
  cases q
  exact nf vs xd
 refine wpAny_bind (wpAny_frameOf_fun fr fl hL fun g1 so=>?_)
 refine wpAny_bind (wpAny_entryPlaceOf fun pl ok=>?_)
 unfold EntryCells.newEntry newFields
 refine wpAny_bind (wpAny_newObj_type ?_ (ok.sizeOk5 _ _ _ _ _))
 have e1:g1.get? e=some oe:=(so.2.1 e TM).trans xe
 generalize hO:({ cls:= .type "traceback",dict:=none,data:= .fields ([MY, .ref L, .none,rawInt L, .none]++(if pl.isEmpty then List.replicate 6 Value.none else pl)).toArray }:Obj)=ob
 have e2:=Heap.get?_push_of_some (h:=g1) ob e1
 refine wpAny_setField e2 xd xs ?_
 have Te:g1.objs.size≠e:=Nat.ne_of_gt (Heap.lt_size e1)
 have nf:ob.isFreed=false:=by rw[←hO];rfl
 have eT:(g1.push ob).get? g1.objs.size=some ob:=Heap.get?_push_size g1 nf
 have e3:=Heap.get?_update_self (Obj.mapFields (·.setIfInBounds 1 (Value.ref g1.objs.size))) e2 (Obj.isFreed_of_fields (Obj.data_mapFields xd _))
 refine k _ g1.objs.size ⟨⟨_,_,e3,Obj.data_mapFields xd _,by simp [xs]⟩,fun T z=>?_⟩ (Nat.le_of_eq so.1.symm) ⟨fun b o q be _ bf=>?_,fun b o q be _=>?_,fun o q=>?_,fun b o z=>(by cases z),?_⟩
 ·cases z
  refine⟨Te,ob,([MY, .ref L, .none,rawInt L, .none]++(if pl.isEmpty then List.replicate 6 Value.none else pl)).toArray,?_,by rw[←hO],by simp only [List.size_toArray,List.length_append,List.length_cons,List.length_nil];omega⟩
  rw[Heap.get?_update_other _ _ (Ne.symm Te)]
  exact eT
 ·rw[Heap.get?_update_other _ _ (Ne.symm be)]
  exact Heap.get?_push_of_some _ ((so.2.1 b bf).trans q)
 ·obtain⟨sl,z⟩:=so.2.2 b o q
  refine⟨sl,?_⟩
  rw[Heap.get?_update_other _ _ (Ne.symm be)]
  exact Heap.get?_push_of_some _ z
 ·rw[xe] at q
  cases q
  exact⟨_,e3.trans (by rw[pD xd])⟩
 ·show s.heap.objs.size≤((g1.push ob).update e _).objs.size
  rw[Heap.size_after_update,Heap.size_push,←so.1]
  exact Nat.le_succ _
theorem fR{e:Addr}{tb fr:Option Addr}{Q:Unit→Shared→Prop}(x:s.heap.j3 e tb)(k:∀h',h'.j3 e tb→Heap.Moved [] e tb s.heap h'→Q () { s with heap:=h' }):wpAny M A (setFlight (.ref e) fr) Q E s:=by
 obtain⟨oe,vs,he,hd,h1⟩:=x.ex
 unfold setFlight
 refine wpAny_bind (wpAny_field he hd h1 ?_)
 cases tb with
 |none=>
  rw[if_neg (by decide)]
  exact wpAny_pure (k _ x (.refl x))
 |some T=>
  obtain⟨ne,oT,ts,hT,dT,sz⟩:=x.tr T rfl
  rw[if_pos (show ((some T).elim Value.none Value.ref != Value.none)=true from by simp)]
  generalize (fr.elim Value.none fun f=>rawInt f)=v3
  refine wpAny_setField hT dT sz ?_
  have F':(s.heap.update T (Obj.mapFields (·.setIfInBounds 3 v3))).get? e=some oe:=(Heap.get?_update_other _ _ ne).trans he
  have LA:=Heap.get?_update_self (Obj.mapFields (·.setIfInBounds 3 v3)) hT (Obj.isFreed_of_fields (Obj.data_mapFields dT _))
  refine k _ ⟨⟨oe,vs,F',hd,h1⟩,fun T' z=>?_⟩ ⟨fun b o q _ bt _=>?_,fun b o q _ bt=>⟨o.slots,?_⟩,fun o q=>?_,fun b o z _ _=>?_,?_⟩
  ·cases z
   exact⟨ne,_,_,LA,Obj.data_mapFields dT _,by simp [sz]⟩
  ·exact(Heap.get?_update_other _ _ fun z=>bt (by rw[z])).trans q
  ·exact(Heap.get?_update_other _ _ fun z=>bt (by rw[z])).trans q
  ·rw[he] at q
   cases q
   exact⟨vs,by rw[F',←hd]⟩
  ·cases z
   exact⟨_,LA⟩
  ·show s.heap.objs.size≤(s.heap.update T _).objs.size
   rw[Heap.size_after_update]
   exact Nat.le_refl _
theorem pE{base:Heap}{env:Env}{outer:List Env}{L e:Addr}{tb:Option Addr}{Q:Unit→Shared→Prop}(fr:A.frames=some (env::outer))(fl:s.heap.FunFrames base (env::outer))(hL:env.frame=some L)(x:s.heap.j3 e tb)
  (k:∀h' T,h'.j3 e (some T)→tb=some T∨s.heap.objs.size≤T→Heap.Moved ((env::outer).filterMap (·.frame)) e tb s.heap h'→Q () { s with heap:=h' }):wpAny M A (noteFrame (.ref e) env) Q E s:=by
 obtain⟨oe,vs,he,hd,h1⟩:=id x.ex
 have RU:1<vs.size:=(Array.getElem?_eq_some_iff.mp h1).1
 unfold noteFrame
 simp only [hL]
 refine wpAny_bind (wpAny_field he hd h1 ?_)
 cases tb with
 |none=>
  rw[if_neg (by decide)]
  exact rg fr fl hL he hd RU fun h' T a b c=>k h' T a (.inr b) c
 |some T=>
  obtain⟨ne,oT,ts,hT,dT,sz⟩:=x.tr T rfl
  rw[if_pos (show ((some T).elim Value.none Value.ref != Value.none)=true from by simp)]
  have h3:ts[3]? =some ts[3]:=Array.getElem?_eq_getElem sz
  refine wpAny_bind (wpAny_field hT dT h3 ?_)
  by_cases c:(ts[3]==rawInt L)=true
  ·rw[if_pos c]
   exact wpAny_pure (k _ T x (.inl rfl) (.refl x))
  ·rw[if_neg c]
   refine wpAny_bind (wpAny_setField hT dT sz ?_)
   have ot:∀b,b≠T→(s.heap.update T (Obj.mapFields (·.setIfInBounds 3 Value.none))).get? b=s.heap.get? b:=fun b z=>Heap.get?_update_other _ _ (Ne.symm z)
   have LA:=Heap.get?_update_self (Obj.mapFields (·.setIfInBounds 3 Value.none)) hT (Obj.isFreed_of_fields (Obj.data_mapFields dT _))
   have zs:(s.heap.update T (Obj.mapFields (·.setIfInBounds 3 Value.none))).objs.size=s.heap.objs.size:=Heap.size_after_update ..
   refine rg (s:={ s with heap:=s.heap.update T (Obj.mapFields (·.setIfInBounds 3 Value.none)) }) fr (fl.of_keeps fun b o q nf=>⟨o,(ot b fun z=>?_).trans q,rfl⟩) hL ((ot e (Ne.symm ne)).trans he) hd RU fun h' T' a b c=>k h' T' a (.inr (by rw[←zs];exact b)) ?_
   ·rw[z,hT] at q
    cases q
    exact nf ts dT
   ·refine⟨fun b o q be bt bf=>c.keep b o ((ot b fun z=>bt (by rw[z])).trans q) be (fun z=>by cases z) bf,fun b o q be bt=>c.slot b o ((ot b fun z=>bt (by rw[z])).trans q) be fun z=>(by cases z),fun o q=>c.self o ((ot e (Ne.symm ne)).trans q),fun b o z be q=>?_,?_⟩
    ·cases z
     exact c.there _ _ LA
    ·rw[←zs]
     exact c.size
theorem yv{base:Heap}{env:Env}{outer:List Env}{L e:Addr}{tb:Option Addr}{Q:Unit→Shared→Prop}(fr:A.frames=some (env::outer))(fl:s.heap.FunFrames base (env::outer))(hL:env.frame=some L)(x:s.heap.j3 e tb)
  (k:∀h' T,h'.j3 e (some T)→tb=some T∨s.heap.objs.size≤T→Heap.Moved ((env::outer).filterMap (·.frame)) e tb s.heap h'→Q () { s with heap:=h' }):wpAny M A (leaving env (.ref e)) Q E s:=by
 unfold leaving
 refine wpAny_bind (pE fr fl hL x fun h1 T a b c=>fR (s:={ s with heap:=h1 }) a fun h2 a' c'=>k h2 T a' b (c.trans (c'.mono fun _ z=>absurd z (by simp)) fun T' z=>?_))
 cases z
 exact b
theorem A8{env:Env}{e T:Addr}{Q:Unit→Shared→Prop}(x:s.heap.j3 e (some T))(k:∀h',h'.j3 e (some T)→Heap.Moved [] e (some T) s.heap h'→Q () { s with heap:=h' }):
  wpAny M A (do
   if (←field (.ref e) 1)== .none then unsupported "frame.own-activation:exception-without-traceback"
   setFlight (.ref e) env.frame) Q E s:=by
 obtain⟨oe,vs,he,hd,h1⟩:=id x.ex
 refine wpAny_bind (wpAny_field he hd h1 ?_)
 rw[if_neg (by simp)]
 exact fR x k
end
end PySem
namespace PySem.W
open PySem PySem.Calls PyProof.Rows PySem.Builtin PySem.Builtin.ObjectAttr
abbrev qA:List Value:=[.type "ValueError", .type "Exception", .type "BaseException", .type "object"]
structure dN(K:Frag)(C HE f:Addr):Prop where
 obj:∃(nm q:Str) (N:Addr) (bs:List Value) (sn:List Str) (sub:List Value) (ab:Bool) (col:Option Bool) (dd:Option Addr) (k0 k1 k2 k3 k5:Option Value),
  K.lookup C=some (excClassObj nm q C N bs (.ref HE::qA) true sn sub ab col dd k0 k1 k2 k3 k5 "ValueError.__new__")
 init:findIn K (.ref C) "__init__" =some (some (.ref f))
 fn:typeIn K (.ref f)=some (.type "function")
 sa:findIn K (.ref C) "__setattr__" =some (some (.builtin "object.__setattr__"))
 ga:findIn K (.ref C) "__getattribute__" =some (some (.builtin "BaseException.__getattribute__"))
 gh:findIn K (.ref C) "__getattr__" =some none
theorem gk{C HE:Addr}{T:String}{b:Bool}(h:qA.contains (.type T)=b):(Value.ref C:: .ref HE::qA).contains (.type T)=b:=by
 rw[List.contains_cons,List.contains_cons,h]
 rfl
section
variable {prog:Program}{w:World}{A:Around}{E:Value→Shared→Prop}{R:Result→Shared→Prop}{h:Heap}{g:Array GenState}{d:Drawn}{t:Nat}{os:OsState}
variable {nm q:Str}{C N HE:Addr}{bs:List Value}{sn:List Str}{sub:List Value}{ab:Bool}{col:Option Bool}{dd:Option Addr}{k0 k1 k2 k3 k5:Option Value}
abbrev mj(vs:List Value):Obj:={ cls:= .type "tuple",data:= .seq vs.toArray }
abbrev ml(C t:Addr):Obj:={ cls:= .ref C,data:= .fields #[.ref t, .none, .none, .none, .bool false, .none] }
theorem pF{M:Model}{rest:List Value}{Q:Unit→Shared→Prop}(kC:h.get? C=some (excClassObj nm q C N bs (.ref HE::qA) true sn sub ab col dd k0 k1 k2 k3 k5 "ValueError.__new__"))
  (z:Q () ⟨h,g,d,t,os⟩):wpAny M A (checkBuiltinCall "ValueError.__new__" ⟨.ref C::rest,[]⟩) Q E ⟨h,g,d,t,os⟩:=by
 have F:=PySem.F.excBase_ValueError
 have c1:(Value.ref C:: .ref HE::qA).contains (.type "ValueError")=true:=gk (by decide+kernel)
 have f0:=F.noStar
 simp only [checkBuiltinCall,F.newKind,F.newSplit,F.newRow]
 repeat (first|refine wpAny_loadPart_at kC ?_| (refine wpAny_isSubtype_exc kC ?_;rw[c1]) |refine wpAny_staticBase_exc kC ?_|refine wpAny_madeBy_exc kC ?_|simp only [bne_self_eq_false,Bool.false_eq_true,if_false] |wp_step)
 exact z
theorem D8{rest:List Value}(kC:h.get? C=some (excClassObj nm q C N bs (.ref HE::qA) true sn sub ab col dd k0 k1 k2 k3 k5 "ValueError.__new__"))
  (z:R (.ok (.ret (.ref (h.objs.size+1)))) ⟨(h.push (mj rest)).push (ml C h.objs.size),g,d,t,os⟩) (hz:rest.length≤sizeLine):
  codeAny (model prog w) A (.builtin "ValueError.__new__" ⟨.ref C::rest,[]⟩) R ⟨h,g,d,t,os⟩:=by
 have F:=PySem.F.excBase_ValueError
 have f0:=F.ends
 have c1:(Value.ref C:: .ref HE::qA).contains (.type "ValueError")=true:=gk (by decide+kernel)
 have c2:(Value.ref C:: .ref HE::qA).contains (.type "AttributeError")=false:=gk (by decide+kernel)
 have c3:(Value.ref C:: .ref HE::qA).contains (.type "NameError")=false:=gk (by decide+kernel)
 refine codeAny_builtinAt F.entry ?_
 unfold Builtin.«BaseException.__new__»
 refine wpAt_bind ?_
 show wpAt _ _ _ (stack >>= _) _ _ _
 refine wpAt_bind (wpAt_stack fun p below=>wpAt_of_wpAny ?_)
 wp_walk
 refine wpAt_of_wpAny ?_
 rw[F.owner]
 repeat (first|with_reducible refine wpAny_madeHere_exc F.canon kC ?_|with_reducible refine wpAny_loadPart_at kC ?_| (with_reducible refine wpAny_isSubtype_exc kC ?_;first|rw[c1] |rw[c2] |rw[c3]) |wp_step)
 show R _ _
 rw[Heap.size_push]
 exact z
end
section
variable {prog:Program}{w:World}{A:Around}{E:Value→Shared→Prop}{R:Result→Shared→Prop}{s:Shared}{K:Frag}{C HE f:Addr}
theorem A9{vs:List Value}(X:K.In s.heap)(Z:dN K C HE f)(hz:vs.length≤sizeLine)
  (k:codeAny (model prog w) (A.under (.builtin "type.__call__" ⟨.ref C::vs,[]⟩)) (.call (.ref f) ⟨.ref (s.heap.objs.size+1)::vs,[]⟩) (InitBack (s.heap.objs.size+1) R) { s with heap:=(s.heap.push (mj vs)).push (ml C s.heap.objs.size) }):
  codeAny (model prog w) A (.call (.ref C) ⟨vs,[]⟩) R s:=by
 obtain⟨hp,g,d,t,os⟩:=s
 obtain⟨nm,q,N,bs,sn,sub,ab,col,dd,k0,k1,k2,k3,k5,hK⟩:=Z.obj
 have kC:=X _ _ hK
 have F:=PySem.F.excBase_ValueError
 have f1:=tc_lookup
 have f2:=tc_bind (.ref C)
 have hT:(⟨hp,g,d,t,os⟩:Shared).TypeIs (.ref C) "type" :=⟨_,kC,rfl⟩
 refine codeAny_of_tree ?_
 show wpAny _ _ (callAny (.ref C) _) _ _ _
 repeat (any_goals (first|assumption|with_reducible refine wpAny_loadPart_at kC ?_|wp_step))
 refine⟨rfl,?_⟩
 refine codeAny_call_builtin_at (Code.quiet_builtin _ (by decide+kernel)) entry_typeCall (wpAny_check_type_call_sub kC ?_)
 repeat (first|with_reducible refine wpAny_loadPart_at kC ?_|with_reducible refine wpAny_madeBy_exc kC ?_|wp_step)
 refine codeAny_call_builtin_code (Code.quiet_builtin _ F.quiet) (pF kC ?_)
 refine D8 kC ?_ hz
 show wpAny _ _ _ _ _ _
 have keeps:∀b o,hp.get? b=some o→((hp.push (mj vs)).push (ml C hp.objs.size)).get? b=some o:=fun b o e=>Heap.get?_push_of_some _ (Heap.get?_push_of_some _ e)
 have TN:=keeps _ _ kC
 have X1:K.In ((hp.push (mj vs)).push (ml C hp.objs.size)):=fun b o e=>keeps b o (X b o e)
 have eg:((hp.push (mj vs)).push (ml C hp.objs.size)).get? (hp.objs.size+1)=some (ml C hp.objs.size):=by heap_get
 have c0:(Value.ref C:: .ref HE::qA).contains (.ref C)=true:=by simp
 unfold isInstance
 repeat (first|with_reducible refine wpAny_loadPart_at eg ?_|wp_step)
 show wpAny _ _ (isSubtype (.ref C) (.ref C)) _ _ _
 refine wpAny_isSubtype_exc TN ?_
 rw[c0]
 repeat (first|with_reducible refine wpAny_loadPart_at eg ?_|wp_step)
 show wpAny _ _ (typeLookup (.ref C) _) _ _ _
 refine looks_findIn X1 Z.init _ _ _ _ (fun _ _ e=>e) ?_
 refine wpAny_holding (wpAny_bind (bind_fn X1 _ Z.fn _ _ _ _ (fun _ _ e=>e) ?_))
 refine wpAny_bind (wpAny_call (codeAny_mono k fun r s' y=>?_))
 cases r with
 |error z=>exact y
 |ok fl=>
  cases fl with
  |ret u=>
   obtain⟨eu,y⟩:=y
   subst eu
   exact wpAny_pure (wpAny_pure y)
  |next=>exact y.elim
  |brk=>exact y.elim
  |cont=>exact y.elim
end
section
variable {prog:Program}{w:World}{A:Around}{E:Value→Shared→Prop}{R:Result→Shared→Prop}{s:Shared}{K:Frag}{C HE f e:Addr}{ox:Obj}{od:Option Obj}{vs:Array Value}{name:Str}{v:Value}{tk:Tok}
theorem dN.cd(Z:dN K C HE f):∃cd,clsIn K C=some cd∧cd.mro= .ref C:: .ref HE::qA∧cd.hasDict=true:=by
 obtain⟨nm,q,N,bs,sn,sub,ab,col,dd,k0,k1,k2,k3,k5,hK⟩:=Z.obj
 exact⟨_,by unfold clsIn;rw[hK],rfl,rfl⟩
theorem dN.mro(Z:dN K C HE f){T:String}{b:Bool}(h:qA.contains (.type T)=b):mroIn K C (.type T)=some b:=by
 obtain⟨cd,a,m,_⟩:=Z.cd
 unfold mroIn
 rw[a,Option.bind_some,m,gk h]
 rfl
theorem yw(X:K.In s.heap)(Z:dN K C HE f)(I:InstAt s.heap e ox C od)(ht:takerIn K C name=some none)
  (k:∀b,wpAny (model prog w) A.in1 (storeInOwnDict (.ref e) (.ref C) (.str name tk) name v b)
   (fun fin s'=>match fin with| .done f=>R (.ok f) s'| .again c'=>c'.quiet=true∧codeAny (model prog w) A c' R s') (fun e s'=>R (.error e) s') s):
  codeAny (model prog w) A (.call (.builtin "object.__setattr__") ⟨[.ref e, .str name tk,v],[]⟩) R s:=by
 have SO:=PySem.F.store_object
 obtain⟨cd,hc,hm,_⟩:=Z.cd
 have sub:Looks (model prog w) s.heap (isInstance (.ref e) (.type "object")) true:=I.type.andThen (looks_mroIn X (Z.mro (by decide+kernel)))
 refine codeAny_call_builtin SO.slot.plain SO.entry (@check_slot (model prog w) _ _ s "object.__setattr__" "object" "__setattr__" (.ref e) [.str name tk,v] [] _ SO.kind SO.split sub (SO.args (.ref e) (.str name tk) v) ?_)
 obtain⟨attr,ha,hr⟩:=Option.bind_eq_some_iff.mp ht
 have lm:Looks (model prog w) s.heap (mroOf (.ref C)) cd.mro:=(looks_clsIn X hc).andThen .now
 have l3:Looks (model prog w) s.heap (storeTaker? attr) none:=by
  cases attr with
  |none=>exact .now
  |some a=>
   obtain⟨b,hb,eb⟩:=Option.map_eq_some_iff.mp hr
   refine(looks_takesIn X hb).andThen ?_
   cases b with
   |true=>cases eb
   |false=>exact .now
 rw[osa_eq,refuse_eq]
 refine wpAny_bind (wpAny_bind (I.type.here (wpAny_bind (lm.here ?_))))
 rw[hm,refuseLoop_ref,refuseLoop_ref,PySem.F.store_ValueError.passes]
 exact wpAny_pure (wpAny_bind (I.type.here (wpAny_bind ((looks_findIn X ha).here (wpAny_bind (l3.here (k _)))))))
theorem A'{Q:Unit→Shared→Prop}(X:K.In s.heap)(Z:dN K C HE f)(ht:takerIn K C name=some none)(hx:s.heap.get? e=some ox)(hc:ox.cls= .ref C)(hd:ox.data= .fields vs)(hn:ox.dict=none)
  (k:∀h' MZ,h'.get? e=some { ox with dict:=some s.heap.objs.size }→h'.Ns1 s.heap.objs.size (fun y=>if y=name then some v else none)→(∀b o,b≠e→s.heap.get? b=some o→h'.get? b=some o)→Q () { s with heap:=h',toks:=MZ }):
  wpAny (model prog w) A (setAttr (.ref e) name v) Q E s:=by
 have I:InstAt s.heap e ox C none:=⟨hx,hc,by unfold notCls;rw[hd],by rw[hn];trivial⟩
 obtain⟨cd,lQ,_,hh⟩:=Z.cd
 refine set_plain X I Z.sa (yw (s:={ s with toks:=s.toks+1 }) X Z I ht fun b=>?_)
 obtain⟨oc,LB,M0,nv⟩:=ox
 dsimp only at hc hd hn
 subst hc hd hn
 refine wpAny_bind (wpAny_pure (wpAny_bind (wpAny_bind (wpAny_loadPart hx (wpAny_bind (Looks.here (s:={ s with toks:=s.toks+1 }) (looks_clsIn X lQ) ?_))))))
 rw[hh]
 have xs:e≠s.heap.objs.size:=Nat.ne_of_lt (Heap.lt_size hx)
 rw[if_neg (by decide)]
 have RW:=Heap.get?_push_of_some (h:=s.heap) { cls:= .type "dict",data:= .dict #[] } hx
 refine wpAny_bind (wpAny_alloc' (wpAny_bind (wpAny_update' RW (wpAny_pure ?_))))
 generalize hG:(s.heap.push { cls:= .type "dict",data:= .dict #[] }).update e (fun o=>{ cls:=o.cls,dict:=some s.heap.objs.size,data:=o.data,slots:=o.slots })=G
 have gd:G.get? s.heap.objs.size=some { cls:= .type "dict",data:= .dict #[] }:=by
  rw[←hG]
  exact(Heap.get?_update_ne _ _ _ _ (Ne.symm xs)).trans (Heap.get?_push_at rfl rfl)
 have gx:G.get? e=some { cls:= .ref C,dict:=some s.heap.objs.size,data:= .fields vs,slots:=nv }:=by
  rw[←hG]
  exact Heap.get?_update_self _ RW rfl
 have go:∀b o,b≠e→s.heap.get? b=some o→G.get? b=some o:=fun b o be q=>by
  rw[←hG]
  exact(Heap.get?_update_ne _ _ _ _ be).trans (Heap.get?_push_of_some _ q)
 have gn:G.Ns s.heap.objs.size (fun _=>none):=⟨_,#[],_,gd,rfl,fun y hy=>absurd hy (by simp),fun _=>rfl⟩
 show wpAny _ _ (storeInDict s.heap.objs.size (.str name s.toks) name v) _ _ { s with heap:=G,toks:=s.toks+1 }
 unfold storeInDict newKeyGuard
 refine wpAny_bind (wpAny_pure (wpAny_bind (wpAny_nsSet1 (s:={ s with heap:=G,toks:=s.toks+1 }) (Heap.Ns1.of_empty gn) fun h' n2 s2=>?_)))
 obtain⟨o2,e2,p2,q2,d2,c2⟩:=n2.count (PySem.Within.cons name v PySem.Within.nil)
 refine wpAny_bind (wpAny_lookBehind q2 (by rw[d2];exact pastItsLine_dict (Nat.le_trans c2 (by rw[List.length_cons,List.length_nil,sizeLine_eq];omega))) ?_)
 exact wpAny_pure (k _ _ ((s2.2 e xs).trans gx) n2 fun b o be q=>(s2.2 b (Nat.ne_of_lt (Heap.lt_size q))).trans (go b o be q))
theorem Ba{Q:Unit→Shared→Prop}{dx:Addr}{mA:Str→Option Value}{ns:List Str}(X:K.In s.heap)(Z:dN K C HE f)(ht:takerIn K C name=some none)(hx:s.heap.get? e=some ox)(hc:ox.cls= .ref C)(hd:ox.data= .fields vs)(hn:ox.dict=some dx)
  (N1:s.heap.Ns1 dx mA) (hw:PySem.Within mA ns) (hsz:ns.length≤1000)
  (k:∀h',h'.Ns1 dx (fun y=>if y=name then some v else mA y)→Heap.SameBut dx s.heap h'→Q () { s with heap:=h',toks:=s.toks+2 }):
  wpAny (model prog w) A (setAttr (.ref e) name v) Q E s:=by
 obtain⟨oD,ed,pd,TQ,dD,_⟩:=id N1
 have I:InstAt s.heap e ox C (some oD):=⟨hx,hc,by unfold notCls;rw[hd],by rw[hn];exact TQ⟩
 obtain⟨cd,lQ,_,hh⟩:=Z.cd
 refine set_plain X I Z.sa (yw (s:={ s with toks:=s.toks+1 }) X Z I ht fun b=>?_)
 obtain⟨oc,LB,M0,nv⟩:=ox
 dsimp only at hc hd hn
 subst hc hd hn
 refine wpAny_bind (wpAny_pure (wpAny_bind (wpAny_bind (wpAny_loadPart hx (wpAny_bind (Looks.here (s:={ s with toks:=s.toks+1 }) (looks_clsIn X lQ) ?_))))))
 rw[hh]
 refine wpAny_pure (a:=some dx) (wpAny_bind (wpAny_pure (wpAny_bind ?_)))
 refine wpAny_nsSet1 (s:={ s with toks:=s.toks+1 }) N1 fun h' n2 s2=>?_
 obtain⟨o2,e2,p2,q2,d2,c2⟩:=n2.count (PySem.Within.cons name v hw)
 refine wpAny_bind (wpAny_lookBehind q2 (by rw[d2];exact pastItsLine_dict (Nat.le_trans c2 (by rw[List.length_cons,sizeLine_eq];omega))) ?_)
 exact wpAny_pure (k _ n2 s2)
theorem D9{Q:Value→Shared→Prop}{expr:Bool}(X:K.In s.heap)(Z:dN K C HE f)(I:InstAt s.heap e ox C od)(hf:findObj K C od name=some (.value v))(hh:handedIn v=true)(k:Q v { s with toks:=s.toks+1 }):
  wpAny (model prog w) A (getAttr (.ref e) name expr) Q E s:=by
 have T0:=I.type (M:=model prog w)
 have SG:=PySem.F.attr_ValueError.ga
 refine wpAny_bind (wpAny_mkText (wpAny_holding (wpAny_bind (T0 _ _ _ _ (fun _ _ y=>y) (wpAny_bind (looks_findIn X Z.ga _ _ _ _ (fun _ _ y=>y) ?_))))))
 dsimp only
 rw[show (onTheHeap (Value.ref C)&&Value.builtin "BaseException.__getattribute__" ==Value.builtin "object.__getattribute__")=false from by rw[show (Value.builtin "BaseException.__getattribute__" ==Value.builtin "object.__getattribute__")=false from by decide+kernel,Bool.and_false],if_neg (by decide)]
 refine wpAny_bind (looks_hook X (show (if onTheHeap (Value.ref C) then findIn K (.ref C) "__getattr__" else some none)=some none from Z.gh) _ _ _ _ (fun _ _ y=>y) (wpAny_bind (wpAny_attempt (wpAny_holding ?_))))
 unfold callGetattribute
 rw[show (expr&&onTheHeap (Value.builtin "BaseException.__getattribute__"))=false from Bool.and_false _,if_neg (by decide)]
 unfold boundAndCalled
 rw[SG.bind]
 refine wpAny_bind (wpAny_pure ?_)
 show wpAny _ _ (call (.builtin "BaseException.__getattribute__") [.ref e, .str name s.toks]) _ _ _
 refine wpAny_call (codeAny_call_builtin SG.plain PySem.F.entry_bexc_ga ?_)
 refine @check_slot (model prog w) _ _ { s with toks:=s.toks+1 } "BaseException.__getattribute__" "BaseException" "__getattribute__" (.ref e) [.str name s.toks] [] _ (by decide+kernel) (by decide+kernel) (T0.andThen (looks_mroIn X (Z.mro (by decide+kernel)))) (PySem.F.args_bexc_ga _ _) ?_
 have l1:=looks_find (M:=model prog w) X I hf
 unfold Builtin.«object.__getattribute__»
 refine wpAny_bind (wpAny_of_eq (a:=(Value.ref e,[Value.str name s.toks])) rfl ?_)
 refine wpAny_bind (wpAny_pure (a:=name) (wpAny_bind (T0 _ _ _ _ (fun _ _ y=>y) (wpAny_bind (l1 _ _ _ _ (fun _ _ y=>y) (wpAny_pure ?_))))))
 show wpAny _ _ (handedOut v) _ _ _
 rw[handedOut_of hh]
 exact wpAny_pure k
end
section
variable {M:Model}{A:Around}{E:Value→Shared→Prop}{s:Shared}{K:Frag}{env:Env}
theorem yx{x:Sem Value}{Q:Flow→Shared→Prop}(ha:A.handled=none)
  (k:wpAny M A x (fun v s1=>∃e oe vs C HE f,v= .ref e∧K.In s1.heap∧dN K C HE f∧s1.heap.get? e=some oe∧oe.cls= .ref C∧oe.data= .fields vs∧vs[1]? =some .none∧E (.ref e) s1) E s):wpAny M A (raiseStmt env (some x) none) Q E s:=by
 unfold raiseStmt
 refine wpAny_bind (wpAny_mono k (fun v s1 y=>?_) fun _ _ y=>y)
 obtain⟨e,oe,vs,C,HE,f,rfl,X,Z,he,hc,hd,h1,hE⟩:=y
 have cB:(Value.ref C:: .ref HE::qA).contains (.type "BaseException")=true:=gk (by decide+kernel)
 obtain⟨nm,q,N,bs,sn,sub,ab,col,dd,k0,k1,k2,k3,k5,hK⟩:=Z.obj
 have kC:=X _ _ hK
 obtain⟨hp,g,d,tk,os⟩:=s1
 obtain⟨oc,LB,M0,nv⟩:=oe
 dsimp only at hc hd
 subst hc hd
 repeat (first|with_reducible refine wpAny_loadPart_at he ?_|with_reducible refine wpAny_loadPart_at kC ?_| (with_reducible refine wpAny_isSubtype_exc kC ?_;rw[cB]) |wp_step)
 rw[h1]
 refine wpAny_pure ?_
 rw[if_neg (by decide)]
 exact wpAny_pure (wpAny_raiseNew_none ha hE)
end
section
variable {prog:Program}{w:World}{A:Around}{E:Value→Shared→Prop}{s:Shared}{K:Frag}{C HE f e:Addr}{ox:Obj}{vs:Array Value}
theorem yy{us:List Value}{Q:Value→Shared→Prop}(X:K.In s.heap)(Z:dN K C HE f)(hx:s.heap.get? e=some ox)(hc:ox.cls= .ref C)(hd:ox.data= .fields vs)(h0:0<vs.size)(hz:us.length≤sizeLine)
  (k:∀h',h'.get? e=some { ox with data:= .fields (vs.setIfInBounds 0 (.ref s.heap.objs.size)) }→(∀b o,b≠e→s.heap.get? b=some o→h'.get? b=some o)→Q .none { s with heap:=h' }):
  wpAny (model prog w) A (call (.builtin "ValueError.__init__") (.ref e::us)) Q E s:=by
 have F:=PySem.F.excBase_ValueError
 obtain⟨nm,q,N,bs,sn,sub,ab,col,dd,k0,k1,k2,k3,k5,hK⟩:=Z.obj
 have kC:=X _ _ hK
 have c1:(Value.ref C:: .ref HE::qA).contains (.type "ValueError")=true:=gk (by decide+kernel)
 obtain⟨hp,g,d,t,os⟩:=s
 obtain⟨oc,LB,M0,nv⟩:=ox
 dsimp only at hc hd
 subst hc hd
 refine wpAny_call (codeAny_call_builtin F.init.plain F.initEntry ?_)
 have f0:=F.noStar
 simp only [checkBuiltinCall,F.initKind,F.initSplit,F.initRow]
 repeat (first|with_reducible refine wpAny_loadPart_at hx ?_|with_reducible refine wpAny_loadPart_at kC ?_| (with_reducible refine wpAny_isSubtype_exc kC ?_;rw[c1]) |wp_step)
 refine wpAny_onRaise ?_
 rw[show∀(a b:String) (n:Nat),Bind.check ⟨.positional,"*","ValueError", .self,[⟨"args", .varPos,false⟩]⟩ a b n (List.map (fun x=>x.fst) ({ pos:=Value.ref e::us }:Args).kw)=pure () from fun a b n=>check_star_args _ _ _ _ _ _]
 refine wpAny_pure ?_
 wp_walk
 rw[show vs[0]? =some vs[0] from Array.getElem?_eq_getElem h0]
 refine wpAny_pure (wpAny_bind (wpAny_setField (Heap.get?_push_of_some _ hx) rfl h0 ?_))
 generalize hG:((hp.push (mj us)).update e (Obj.mapFields (·.setIfInBounds 0 (Value.ref hp.objs.size))))=G
 have gx:G.get? e=some { cls:= .ref C,dict:=LB,data:= .fields (vs.setIfInBounds 0 (.ref hp.objs.size)),slots:=nv }:=by
  rw[←hG]
  exact Heap.get?_update_self (Obj.mapFields (·.setIfInBounds 0 (Value.ref hp.objs.size))) (Heap.get?_push_of_some (mj us) hx) rfl
 have go:∀b o,b≠e→hp.get? b=some o→G.get? b=some o:=fun b o be q=>by
  rw[←hG]
  exact(Heap.get?_update_other _ _ (Ne.symm be)).trans (Heap.get?_push_of_some _ q)
 have fin:=k G gx go
 generalize vs[0]=v0
 cases v0 with
 |ref a=>
  dsimp only
  repeat wp_step
  exact fin
 |_=>exact wpAny_pure (wpAny_pure fin)
end
end PySem.W
namespace L2
open PySem PySem.Spec PyProof.Rows
def xE(dx:Addr)(fs:List (Str×V)):HO:= .ext fun h=>∃mA,h.Ns1 dx mA∧(∀f,eJ (fs.lookup f) (mA f))∧PySem.Within mA (fs.map (·.1))
def rh(e C:Addr)(dx:Option Addr):HO:= .ext fun h=>∃o vs,h.get? e=some o∧o.cls= .ref C∧o.dict=dx∧o.data= .fields vs∧vs[1]? =some .none
def wB(e C:Addr)(dx:Option Addr):HO:= .ext fun h=>∃o vs,h.get? e=some o∧o.cls= .ref C∧o.dict=dx∧o.data= .fields vs
section
variable {P:Program}{w:World}{H:Hp}{h:Heap}{e C dx:Addr}{od:Option Addr}{o:Obj}{vs:Array Value}
theorem CC(he:h.get? e=some o)(hc:o.cls= .ref C)(hd:o.dict=od)(hf:o.data= .fields vs):bM P w H h e (wB e C od):=
 ⟨⟨o,vs,he,hc,hd,hf⟩,⟨o,he⟩,fun _ _ ⟨o,vs,a,b⟩ k=>⟨o,vs,k _ a,b⟩⟩
theorem yz(he:h.get? e=some o)(hc:o.cls= .ref C)(hd:o.dict=od)(hf:o.data= .fields vs)(h1:vs[1]? =some .none):bM P w H h e (rh e C od):=
 ⟨⟨o,vs,he,hc,hd,hf,h1⟩,⟨o,he⟩,fun _ _ ⟨o,vs,a,b⟩ k=>⟨o,vs,k _ a,b⟩⟩
theorem CD{fs:List (Str×V)}{mA:Str→Option Value}(n:h.Ns1 dx mA)(r:∀f,eJ (fs.lookup f) (mA f))(wi:PySem.Within mA (fs.map (·.1))):bM P w H h dx (xE dx fs):=by
 obtain⟨o,es,ep,ho,z⟩:=id n
 exact⟨⟨mA,n,r,wi⟩,⟨o,ho⟩,fun _ _ ⟨m,⟨o,es,ep,ho,z⟩,r⟩ k=>⟨m,⟨o,es,ep,k _ ho,z⟩,r⟩⟩
theorem tp(ok:gU P w H h)(q:H e=some (wB e C od)):∃o vs,h.get? e=some o∧o.cls= .ref C∧o.dict=od∧o.data= .fields vs:=(ok e _ q).1
theorem pG(ok:gU P w H h)(q:H e=some (rh e C od)):∃o vs,h.get? e=some o∧o.cls= .ref C∧o.dict=od∧o.data= .fields vs∧vs[1]? =some .none:=(ok e _ q).1
theorem yA{fs:List (Str×V)}(ok:gU P w H h)(q:H dx=some (xE dx fs)):∃mA,h.Ns1 dx mA∧(∀f,eJ (fs.lookup f) (mA f))∧PySem.Within mA (fs.map (·.1)):=(ok dx _ q).1
end
structure g6(X:Cx)(T:Addr):Prop where
 above:X.s₀.heap.objs.size≤T
 loc:T≠X.env.locals
 cell:∀x c,X.env.cells.lookup x=some c→c≠T
 pn:∀p∈X.pn,p.1≠T
section
variable {X:Cx}{pins:List (Addr×Obj)}{σ:St}{H:Hp}{s:Shared}{e C:Addr}{od tb:Option Addr}{h':Heap}{ER:St→XK}{v:Value}
theorem Inv.CF(I:Inv X pins σ H s){T:Addr}(h:s.heap.objs.size≤T):g6 X T:=by
 refine⟨Nat.le_trans I.sz h,fun z=>?_,fun x c q z=>?_,fun p hp z=>?_⟩
 ·subst z
  exact absurd I.lt (Nat.not_lt.mpr h)
 ·obtain⟨_,o,ho,_⟩:=I.cell x c q
  subst z
  exact absurd (Heap.lt_size ho) (Nat.not_lt.mpr h)
 ·have q:=(I.pin p (List.mem_append_left _ hp)).1
  rw[z] at q
  exact absurd (Heap.lt_size q) (Nat.not_lt.mpr h)
def jg(X:Cx)(ER:St→XK)(v:Value)(s:Shared):Prop:=
 ∃e C dx σ H tb,v= .ref e∧Inv X [] σ H s∧H e=some (wB e C dx)∧s.heap.j3 e tb∧(∀T,tb=some T→H T=none∧g6 X T)∧ER σ (.ref C) dx H
def Lets(X:Cx)(ER:St→XK):Prop:=∀v s,jg X ER v s→X.xe v s
theorem g6.cP{E:Value→Shared→Prop}{T:Addr}(n:g6 (X.gW E) T):g6 X T:=⟨n.above,n.loc,n.cell,n.pn⟩
theorem jg.cP{E:Value→Shared→Prop}(z:jg (X.gW E) ER v s):jg X ER v s:=by
 obtain⟨e,C,dx,σ,H,tb,ev,I,he,fl,ht,hE⟩:=z
 exact⟨e,C,dx,σ,H,tb,ev,I.cP,he,fl,fun T q=>⟨(ht T q).1,(ht T q).2.cP⟩,hE⟩
theorem yB:Lets (X.gW (jg X ER)) ER:=fun _ _ z=>z.cP
theorem Inv.CG(I:Inv X pins σ H s):Inv X [] σ H s:=I.oW fun p hp=>absurd hp (by simp)
theorem Inv.moved(I:Inv X [] σ H s)(he:H e=some (wB e C od))(ht:∀T,tb=some T→H T=none∧g6 X T)(m:Heap.Moved (qz X.stack) e tb s.heap h'):Inv X [] σ H { s with heap:=h' }:=by
 have ne:∀b,H b=none→b≠e:=fun b n z=>by
  subst z
  rw[he] at n
  cases n
 refine I.xN (s':={ s with heap:=h' }) (H':=H) (ch:=tb.toList) rfl ⟨fun b o q n hb hx=>m.keep b o q (ne b n) (fun z=>hx (by rw[z];simp)) hb,fun b o q n hb hx=>m.slot b o q (ne b n) fun z=>hx (by rw[z];simp),fun _ _ _ n _=>n,fun b o q _=>m.there b o q,
  fun _ _ q=>q,fun _ _ _ q=>q,fun _ ps q=>⟨#[],by simpa using q⟩⟩ (fun a o q=>?_) I.bare fun b hb=>?_
 ·by_cases ae:a=e
  ·subst ae
   rw[he] at q
   cases q
   obtain⟨o,vs,h1,h2,h3,h4⟩:=tp I.bg he
   obtain⟨RT,z⟩:=m.self o h1
   exact CC z h2 h3 rfl
  ·refine(I.bg a o q).oP (fun b u hb z=>?_) (fun _ q=>q) fun _ _ q=>q
   have uR:∃o',H b=some o':=by
    rcases hb with hb|hb
    ·exact⟨o,by rw[hb];exact q⟩
    ·exact⟨_,hb⟩
   obtain⟨o',uR⟩:=uR
   refine m.keep b u z (fun z=>?_) (fun z=>?_) fun z=>?_
   ·rcases hb with hb|hb
    ·exact ae (hb.symm.trans z)
    ·rw[z,he] at hb
     cases hb
   ·rw[(ht b z).1] at uR
    cases uR
   ·rw[I.oV b z] at uR
    cases uR
 ·have z:tb=some b:=by
   cases tb with
   |none=>simp at hb
   |some T=>simp at hb;rw[hb]
  obtain⟨_,n⟩:=ht b z
  exact⟨.inr n.above,Ne.symm (Ne.symm n.loc),n.cell,by simpa using n.pn⟩
def Bb(X:Cx):Prop:=X.stack=X.env::X.outer∧X.env.frame=some X.env.locals
theorem j4(hs:Bb X)(I:Inv X pins σ H s):X.A.frames=some (X.env::X.outer)∧s.heap.FunFrames X.base (X.env::X.outer):=by
 refine⟨by rw[I.ok.frames,hs.1],?_⟩
 rw[←hs.1]
 exact I.stack
theorem tq(I:Inv X [] σ H s){tb:Option Addr}{T:Addr}(ht:∀T,tb=some T→H T=none∧g6 X T)(b:tb=some T∨s.heap.objs.size≤T):∀T',some T=some T'→H T'=none∧g6 X T':=fun T' z=>by
 cases z
 rcases b with b|b
 ·exact ht T b
 ·exact⟨I.bg.fresh b,I.CF b⟩
theorem wC(hs:Bb X):PassesOwn (model X.prog X.w) X.A X.env (jg X ER):=by
 intro v s' z
 obtain⟨e,C,dx,σ,H,tb,ev,I,he,fl,ht,hE⟩:=z
 subst ev
 obtain⟨fr,ff⟩:=j4 hs I
 refine pE fr ff hs.2 fl fun h1 T a b m=>?_
 have m1:Heap.Moved (qz X.stack) e tb s'.heap h1:=by unfold qz;rw[hs.1];exact m
 have I1:=I.moved he ht m1
 have t1:=tq I ht b
 refine A8 (s:={ s' with heap:=h1 }) a fun h2 a2 m2=>?_
 exact⟨e,C,dx,σ,H,some T,rfl,I1.moved he t1 (m2.mono fun _ z=>absurd z (by simp)),he,a2,t1,hE⟩
end
def tu(P:Program)(w:World):xA:=fun outer H s E v s'=>
 ∃e C dx H' tb,v= .ref e∧s'.os=s.os∧AllBare s'.gens∧Un (qz outer) [] H H' s.heap s'.heap∧gU P w H' s'.heap∧H' e=some (wB e C dx)∧s'.heap.j3 e tb∧(∀T,tb=some T→H' T=none∧s.heap.objs.size≤T)∧E (.ref C) dx H'
section
variable {P:Program}{w:World}{K:PySem.W.Frag}{mg:Str→Option Value}{base:Heap}{N ps:List Str}{qual:Str}{scope:Scope}{f:Addr}{cd:Value}{A:Around}{outer:List Env}{s s':Shared}{H:Hp}{E:XK}{v:Value}
theorem ri(z:jg (gR (tu P w) P w K mg base N qual scope f cd A outer s H E) (fun _=>E) v s'):(gR (tu P w) P w K mg base N qual scope f cd A outer s H E).xe v s':=by
 obtain⟨e,C,dx,σ,H',tb,ev,I,he,fl,ht,hE⟩:=z
 subst ev
 obtain⟨fr,ff⟩:=j4 (X:=gR (tu P w) P w K mg base N qual scope f cd A outer s H E) ⟨rfl,rfl⟩ I
 refine yv fr ff rfl fl fun h1 T a b m=>?_
 have I1:=I.moved he ht m
 have t1:=tq I ht b
 have hB:=I.base
 have ne:∀b,H' b=none→b≠e:=fun b n z=>by
  subst z
  rw[he] at n
  cases n
 have nt:∀b o,s.heap.get? b=some o→tb≠some b:=fun b o q z=>absurd (Heap.lt_size q) (Nat.not_lt.mpr (ht b z).2.above)
 refine⟨e,C,dx,H',some T,rfl,I.os,I.bare,⟨fun b o q n hb hx=>?_,fun b o q n hb hx=>?_,hB.free,fun b o q hx=>?_,hB.jO,hB.jP,hB.jQ⟩,I1.bg,he,a,fun T' z=>⟨(t1 T' z).1,(t1 T' z).2.above⟩,hE⟩
 ·refine m.keep b o (hB.keep b o q n hb hx) (ne b (hB.free b o q n hx)) (nt b o q) fun z=>?_
  rcases List.mem_cons.mp (show b∈s.heap.objs.size::qz outer from z) with z|z
  ·exact absurd (Heap.lt_size q) (by rw[z];exact Nat.lt_irrefl _)
  ·exact hb z
 ·obtain⟨sl,z⟩:=hB.slot b o q n hb hx
  obtain⟨Gv,z'⟩:=m.slot b _ z (ne b (hB.free b o q n hx)) (nt b o q)
  exact⟨Gv,z'⟩
 ·obtain⟨o',z⟩:=hB.there b o q hx
  exact m.there b o' z
def CH(P:Program)(w:World)(K:PySem.W.Frag)(mg:Str→Option Value)(base:Heap)(N:List Str)(qual:Str)(scope:Scope)(f:Addr)(cd:Value)(A:Around)(outer:List Env)(s:Shared)(H:Hp)(E:XK):Cx:=
 (gR (tu P w) P w K mg base N qual scope f cd A outer s H E).gW (jg (gR (tu P w) P w K mg base N qual scope f cd A outer s H E) fun _=>E)
theorem a5:Lets (CH P w K mg base N qual scope f cd A outer s H E) (fun _=>E):=fun _ _ z=>z.cP
theorem mn:PassesOwn (model P w) (CH P w K mg base N qual scope f cd A outer s H E).A (CH P w K mg base N qual scope f cd A outer s H E).env (CH P w K mg base N qual scope f cd A outer s H E).xe:=wC (X:=gR (tu P w) P w K mg base N qual scope f cd A outer s H E) ⟨rfl,rfl⟩
theorem Bc{st:List Stmt}{t:TS}(h:jR (CH P w K mg base N qual scope f cd A outer s H E) st t):jR (gR (tu P w) P w K mg base N qual scope f cd A outer s H E) st t:=fun pins s1 σ H1 D I hw=>
 wpAny_mono (h pins s1 σ H1 D (I.gW _) hw) (fun _ _ q=>q.cP) fun _ _ z=>ri z
theorem xD.sJ{x:Str}{st:Stmt}{fd:FuncData}{k:Nat}{sp:Sp}(F:xD K x qual st f fd)(S:az N ps (ao st))(len:∀vs H Q E,sp vs H Q E→vs.length=ps.length)
  (dz:∀(ba:Value) (A:Around) (outer:List Env) (s:Shared) (H:Hp) (vs:List V) (Q:VK) (E:XK),cj k (A.deeper (envOfC qual (ao st) s.heap.objs.size f ba))→sp vs H Q E→
   ∃t,jR (CH P w K mg base N qual (ao st) f ba A outer s H E) (aZ st) t∧t { nx:=fun _ H'=>Q .cw H',rt:=Q } (start N vs) H):ei P w K mg base (tu P w) (k+1) f fd ps sp:=by
 obtain⟨oc,od,kV,doc,pm,an,ba,ct,nv,rfl,lk,lQ⟩:=F.ex
 refine fn_of lk lQ S len fun A outer s H vs Q E hr xB=>?_
 obtain⟨t,h,q⟩:=dz ba A outer s H vs Q E hr xB
 exact⟨t,Bc h,q⟩
end
section
variable {X:Cx}{pins:List (Addr×Obj)}{σ:St}{H:Hp}{s s':Shared}{ER:St→XK}{v:Value}
theorem wD(L:Lets X ER)(I:Inv X pins σ H s)(h:tu X.prog X.w X.stack H s (ER σ) v s'):X.xe v s':=by
 obtain⟨e,C,dx,H',tb,ev,os,bare,un,bg,he,fl,ht,hE⟩:=h
 have I1:Inv X pins σ H' s':=I.xN os un bg bare fun b z=>absurd z (by simp)
 exact L v s' ⟨e,C,dx,σ,H',tb,ev,I1.CG,he,fl,fun T z=>⟨(ht T z).1,I.CF (ht T z).2⟩,hE⟩
end
section
variable {X:Cx}{k:Nat}{f C:Addr}{fd:FuncData}{ps:List Str}{sp:Sp}{ij:List V}{ds:List Value}{ER:St→XK}{x m:Str}{p pos apos:Pos}{e o:Expr}{es:List Expr}{ta:TE}{t:TA}
def D'(sp:Sp)(ij:List V)(ER:St→XK)(t:TA):TE:=fun σ H Q=>t σ H fun vs H1=>sp (vs++ij) H1 Q (ER σ)
def yC(C:Addr)(m:Str)(sp:Sp)(ij:List V)(ER:St→XK)(ta:TE)(t:TA):TE:=fun σ H Q=>ta σ H fun x H1=>∃a dx fs,x= .ref a∧H1 a=some (.ins C dx fs)∧fs.lookup m=none∧
 t σ H1 fun vs H2=>sp (x::(vs++ij)) H2 Q (ER σ)
theorem pH{pins:List (Addr×Obj)}{σ:St}{H:Hp}{s:Shared}{Q:VK}{us:List Value}{vs:List V}(F:ei X.prog X.w X.K X.mg X.base (tu X.prog X.w) k f fd ps sp)(hr:cj k X.A)(hb:Binds X.K fd ps ds)(hd:Vals ij ds)(L:Lets X ER)
  (I:Inv X pins σ H s) (r:Vals vs us) (h:sp (vs++ij) H Q (ER σ)):wpAny (model X.prog X.w) X.A (call (.ref f) us) (EP X pins σ Q) X.xe s:=by
 have r2:Vals (vs++ij) (us++ds):=r.append hd
 have hl:(us++ds).length=ps.length:=by rw[←r2.length];exact F.len _ _ _ _ h
 refine wpAny_call (codeAny_mono (F.run X.A X.stack s H ⟨us,[]⟩ (us++ds) (vs++ij) Q (ER σ) hr I.AK (hb s us I.f9 hl) r2 h) fun r s' hq=>?_)
 cases r with
 |error e=>exact wD L I hq
 |ok fl=>
  cases fl with
  |ret u=>exact I.after hq
  |next=>exact False.elim hq
  |brk=>exact False.elim hq
  |cont=>exact False.elim hq
theorem rj(F:ei X.prog X.w X.K X.mg X.base (tu X.prog X.w) k f fd ps sp)(hr:cj k X.A)(hg:Gl X x)(hm:X.mg x=some (.ref f))(hk:PySem.W.keepIn X.K (.ref f)=true)(hb:Binds X.K fd ps ds)(hd:Vals ij ds)(L:Lets X ER)
  (ha:PA X (e::es) t) (xZ:(x==("__debug__" :Str))=false:=by decide) (he:starEach (e::es) X.env=(false,eval e X.env)::starEach es X.env:=by rfl) (nM:(backTo pos (starEach es X.env)).any (·.1)=false:=by rfl):
  PE X (.Call (.Name x p) (e::es) [] pos) (D' sp ij ER t):=by
 intro pins s σ H Q I h
 refine wpAny_Call_Name_kw (f' I hg hm ?_ xZ)
 refine PySem.W.callWith_K (h₀:=X.base) I.ok.mod.i8 hk (bK (ha pos pins s σ H _ I h) fun us s1 ⟨vs,H1,I1,r,q⟩=>⟨I1.f9,?_⟩) he nM
 exact pH F hr hb hd L I1 r q
theorem bV{pl:Sem Bool}(he:PE X o ta)(c:qJ X.K C)(hm:Meth X.K C m f)(F:ei X.prog X.w X.K X.mg X.base (tu X.prog X.w) k f fd ps sp)(hr:cj k X.A)(hb:Binds X.K fd ps ds)(hd:Vals ij ds)(L:Lets X ER)(ha:PA X (e::es) t)
  (jT:starEach (e::es) X.env=(false,eval e X.env)::starEach es X.env:=by rfl) (nM:(backTo pos (starEach es X.env)).any (·.1)=false:=by rfl)
  (ht:eval (.Call (.Attribute o m apos) (e::es) [] pos) X.env=(do
   let ov←eval o X.env
   standAt apos.atName
   let (f,first)←holding [ov] (getMethod ov m pl)
   callWith pos f first (backTo pos (starEach (e::es) X.env)) (backToKw pos (keywordEach [] X.env))):=by rfl):
  PE X (.Call (.Attribute o m apos) (e::es) [] pos) (yC C m sp ij ER ta t):=by
 intro pins s σ H Q I h
 refine PySem.W.methodCall_KW (pl:=pl) (bK (he pins s σ H _ I h) fun u s1 ⟨x,H1,I1,rx,a,dx,fs,ex,ea,l,q⟩=>?_) ht
 subst ex
 obtain rfl:u=Value.ref a:=rx
 refine iW I1 ea c hm l ?_
 refine PySem.W.callWith_K (first:=[.ref a]) (h₀:=X.base) I.ok.mod.i8 hm.kp (bK (ha pos pins s1 σ H1 _ I1 q) fun us s2 ⟨vs,H2,I2,r,q2⟩=>⟨I2.f9,?_⟩) jT nM
 exact pH (us:= .ref a::us) (vs:= .ref a::vs) F hr hb hd L I2 (.cons rfl r) q2
theorem cN{pl:Sem Bool}(he:PE X o ta)(c:qJ X.K C)(hm:Meth X.K C m f)(F:ei X.prog X.w X.K X.mg X.base (tu X.prog X.w) k f fd ps sp)(hr:cj k X.A)(hb:Binds X.K fd ps ds)(hd:Vals ij ds)(L:Lets X ER)
  (ht:eval (.Call (.Attribute o m apos) [] [] pos) X.env=(do
   let ov←eval o X.env
   standAt apos.atName
   let (f,first)←holding [ov] (getMethod ov m pl)
   callWith pos f first (backTo pos (starEach [] X.env)) (backToKw pos (keywordEach [] X.env))):=by rfl):
  PE X (.Call (.Attribute o m apos) [] [] pos) (yC C m sp ij ER ta DL):=by
 intro pins s σ H Q I h
 refine PySem.W.methodCall_KW (pl:=pl) (bK (he pins s σ H _ I h) fun u s1 ⟨x,H1,I1,rx,a,dx,fs,ex,ea,l,q⟩=>?_) ht
 subst ex
 obtain rfl:u=Value.ref a:=rx
 refine iW I1 ea c hm l ?_
 exact PySem.W.callWith_K0 (first:=[.ref a]) I1.f9 hm.kp (pH (us:=[.ref a]) (vs:=[.ref a]) F hr hb hd L I1 (.cons rfl .nil) q)
def Ea(C:Addr)(sp:Sp)(t:TA):TE:=fun σ H Q=>t σ H fun vs H1=>vs.length≤100∧∀x,H1 x=none→sp (.ref x::vs) (upd H1 x (rh x C none)) (fun v H2=>v= .cw∧Q (.ref x) H2) E0
theorem wF{HE:Addr}{pins:List (Addr×Obj)}{σ:St}{H:Hp}{s:Shared}{Q:VK}{us:List Value}{vs:List V}(Z:PySem.W.dN X.K C HE f)(F:ei X.prog X.w X.K X.mg X.base pj k f fd ps sp)(hr:cj (k+1) X.A)(hb:Binds X.K fd ps [])
  (I:Inv X pins σ H s) (r:Vals vs us) (hz:vs.length≤100) (h:∀x,H x=none→sp (.ref x::vs) (upd H x (rh x C none)) (fun v H2=>v= .cw∧Q (.ref x) H2) E0):
  wpAny (model X.prog X.w) X.A (call (.ref C) us) (EP X pins σ Q) X.xe s:=by
 have hq:=h (s.heap.objs.size+1) (I.bg.fresh (Nat.le_succ _))
 have e2:((s.heap.push (PySem.W.mj us)).push (PySem.W.ml C s.heap.objs.size)).get? (s.heap.objs.size+1)=some (PySem.W.ml C s.heap.objs.size):=by
  have:=Heap.get?_push_size (s.heap.push (PySem.W.mj us)) (o:=PySem.W.ml C s.heap.objs.size) rfl
  rwa [Heap.size_push] at this
 have I2:Inv X pins σ (upd H (s.heap.objs.size+1) (rh (s.heap.objs.size+1) C none)) { s with heap:=(s.heap.push (PySem.W.mj us)).push (PySem.W.ml C s.heap.objs.size) }:=
  I.laid (a:=s.heap.objs.size+1) (t':=s.toks) (fun b u q=>Heap.get?_push_of_some _ (Heap.get?_push_of_some _ q)) (Nat.le_succ _) (yz e2 rfl rfl rfl rfl)
 have r2:Vals (V.ref (s.heap.objs.size+1)::vs) (Value.ref (s.heap.objs.size+1)::us):= .cons rfl r
 have hl:(Value.ref (s.heap.objs.size+1)::us++[]).length=ps.length:=by
  have e:=r2.length
  rw[F.len _ _ _ _ hq] at e
  rw[List.append_nil]
  exact e.symm
 have MF:us.length≤sizeLine:=by
  rw[←r.length]
  exact Nat.le_trans hz (by rw[sizeLine_eq];decide)
 have LC:=hb { s with heap:=(s.heap.push (PySem.W.mj us)).push (PySem.W.ml C s.heap.objs.size) } (Value.ref (s.heap.objs.size+1)::us) I2.f9 hl
 rw[List.append_nil] at LC
 refine wpAny_call (PySem.W.A9 I.f9 Z MF (codeAny_mono (F.run _ X.stack _ _ ⟨Value.ref (s.heap.objs.size+1)::us,[]⟩ (Value.ref (s.heap.objs.size+1)::us) _ _ E0 (hr.make C us []) (I2.AK.make C us []) LC r2 hq) fun r s' nu=>?_))
 cases r with
 |error e=>exact False.elim nu
 |ok fl=>
  cases fl with
  |ret u=>
   obtain⟨v,H',I3,rv,ev,q3⟩:=I2.after nu
   subst ev
   exact⟨rv,⟨V.ref (s.heap.objs.size+1),H',I3,rfl,q3⟩⟩
  |next=>exact False.elim nu
  |brk=>exact False.elim nu
  |cont=>exact False.elim nu
theorem fS{HE:Addr}(Z:PySem.W.dN X.K C HE f)(F:ei X.prog X.w X.K X.mg X.base pj k f fd ps sp)(hr:cj (k+1) X.A)(hg:Gl X x)(hm:X.mg x=some (.ref C))(hk:PySem.W.keepIn X.K (.ref C)=true)(hb:Binds X.K fd ps [])
  (ha:PA X (e::es) t) (xZ:(x==("__debug__" :Str))=false:=by decide) (he:starEach (e::es) X.env=(false,eval e X.env)::starEach es X.env:=by rfl) (nM:(backTo pos (starEach es X.env)).any (·.1)=false:=by rfl):
  PE X (.Call (.Name x p) (e::es) [] pos) (Ea C sp t):=by
 intro pins s σ H Q I h
 refine wpAny_Call_Name_kw (f' I hg hm ?_ xZ)
 refine PySem.W.callWith_K (h₀:=X.base) I.ok.mod.i8 hk (bK (ha pos pins s σ H _ I h) fun us s1 ⟨vs,H1,I1,r,q⟩=>⟨I1.f9,?_⟩) he nM
 exact wF Z F hr hb I1 r q.1 q.2
def Eb(K:PySem.W.Frag)(te:TE)(ER:St→XK):TS:=fun _ σ H=>te σ H fun v H1=>∃e C HE f dx,v= .ref e∧PySem.W.dN K C HE f∧H1 e=some (rh e C dx)∧ER σ (.ref C) dx (upd H1 e (wB e C dx))
theorem fT{ex:Expr}{te:TE}(hc:X.calm=true)(L:Lets X ER)(he:PE X ex te):PS X (.Raise (some ex) none pos) (Eb X.K te ER):=by
 intro pins s σ H D I h
 rw[arm_exec_Raise]
 refine wpAny_bind (wpAny_standAt (PySem.W.yx (K:=X.K) (I.ok.hd hc) (wpAny_bind (bK (he pins s σ H _ I h) fun u s1 ⟨v,H1,I1,rv,e,C,HE,f,dx,ev,Z,hx,q⟩=>wpAny_bind (wpAny_standAt (wpAny_pure ?_))))))
 subst ev
 obtain rfl:u=Value.ref e:=rv
 obtain⟨o,vs,h1,h2,h3,h4,h5⟩:=pG I1.bg hx
 refine⟨e,o,vs,C,HE,f,rfl,I1.f9,Z,h1,h2,h4,h5,L _ _ ⟨e,C,dx,σ,_,none,rfl,?_,ag,⟨⟨o,vs,h1,h4,h5⟩,fun T z=>by cases z⟩,fun T z=>(by cases z),q⟩⟩
 have J:=I1.CG.write (x:=e) (e:=e) (o:=wB e C dx) (h':=s1.heap) (t':=s1.toks) (by rw[hx];exact True.intro) (.inl rfl) (fun _ _ _ q=>q) ⟨o,h1⟩ (CC h1 h2 h3 h4)
 exact J
end
end L2
namespace L2
open PySem PySem.Spec PyProof.Rows
theorem Ec{H:Hp}{e:Addr}{o:HO}(h:H e=some o):upd H e o=H:=by
 funext b
 by_cases z:b=e
 ·subst z
  rw[ag,h]
 ·rw[ah z]
section
variable {X:Cx}{x f:Str}{a b o value ex:Expr}{ta tb tv:TE}{p pos apos pos':Pos}
structure CI(K:PySem.W.Frag)(HE:Addr):Prop where
 sp:PySem.W.specialIn K (.ref HE) "__getattribute__" =some (some (.builtin "type.__getattribute__"))
 rd:PySem.W.readsIn K HE (.type "type")=true
 fc:PySem.W.findCls K (.ref HE) (.type "type") "__init__" =some (.val (.builtin "ValueError.__init__"))
def Ed(K:PySem.W.Frag)(ta tb:TE):TE:=fun σ H Q=>ta σ H fun v H1=>tb σ H1 fun _ H2=>∃e C HE f dx,v= .ref e∧PySem.W.dN K C HE f∧H2 e=some (rh e C dx)∧Q .cw H2
theorem rl{HE:Addr}{pl:Sem Bool}(hg:Gl X x)(hm:X.mg x=some (.ref HE))(B:CI X.K HE)(ha:PE X a ta)(hb:PE X b tb)(hd:(x==("__debug__" :Str))=false:=by decide)
  (jT:starEach [a,b] X.env=(false,eval a X.env)::starEach [b] X.env:=by rfl) (M1:starEach [b] X.env=(false,eval b X.env)::starEach [] X.env:=by rfl) (nM:(backTo pos (starEach [b] X.env)).any (·.1)=false:=by rfl)
  (ht:eval (.Call (.Attribute (.Name x p) "__init__" apos) [a,b] [] pos) X.env=(do
   let ov←eval (.Name x p) X.env
   standAt apos.atName
   let (f,first)←holding [ov] (getMethod ov "__init__" pl)
   callWith pos f first (backTo pos (starEach [a,b] X.env)) (backToKw pos (keywordEach [] X.env))):=by rfl):
  PE X (.Call (.Attribute (.Name x p) "__init__" apos) [a,b] [] pos) (Ed X.K ta tb):=by
 intro pins s σ H Q I h
 refine PySem.W.methodCall_KW (pl:=pl) (f' I hg hm ?_ hd) ht
 refine PySem.W.method_cls I.f9 B.sp (PySem.W.cls_value I.f9 B.rd B.fc rfl ?_)
 have I0:=I.tok (s.toks+1)
 refine PyProof.Rows.callWith_builtin1 (bK (aa ha (aa hb ak M1) jT pos pins _ σ H (fun vs H2=>match vs with| [v,_]=>∃e C HE f dx,v=V.ref e∧PySem.W.dN X.K C HE f∧H2 e=some (rh e C dx)∧Q .cw H2|_=>False) I0 h) fun us s1 ⟨vs,H2,I2,r,q⟩=>?_) jT nM
 match vs,q with
 | [v,u],q=>
   obtain⟨e,C,HE,f,dx,e1,Z,hx,q⟩:=q
   subst e1
   obtain⟨u1,u2,rfl,r1,r2⟩:=vals2 r
   obtain rfl:u1=Value.ref e:=r1
   obtain⟨ob,vs,h1,h2,h3,h4,h5⟩:=pG I2.bg hx
   have sz:1<vs.size:=(Array.getElem?_eq_some_iff.mp h5).1
   refine PySem.W.yy I2.f9 Z h1 h2 h4 (by omega) (by rw[sizeLine_eq,List.length_cons,List.length_nil];decide) fun h' g1 g2=>⟨.cw,H2,?_,rfl,q⟩
   have J:=I2.write (x:=e) (e:=e) (o:=rh e C dx) (h':=h') (t':=s1.toks) (by rw[hx];exact True.intro) (.inl rfl) (fun b o be q=>g2 b o be q) ⟨_,g1⟩ (yz g1 h2 h3 rfl (by rw[Array.getElem?_setIfInBounds_ne (by decide)];exact h5))
   rw[Ec hx] at J
   exact J
def Hn(K:PySem.W.Frag)(ta tv:TE)(f:Str):TS:=fun D σ H=>tv σ H fun y H1=>ta σ H1 fun v H2=>∃e C HE g,v= .ref e∧PySem.W.dN K C HE g∧PySem.W.takerIn K C f=some none∧
 ((H2 e=some (rh e C none)∧∀dx,H2 dx=none→dx≠e→D.nx σ (upd (upd H2 dx (xE dx [(f,y)])) e (rh e C (some dx))))∨
  ∃dx fs,H2 e=some (rh e C (some dx))∧H2 dx=some (xE dx fs)∧fs.length<1000∧D.nx σ (upd H2 dx (xE dx (dc f y fs))))
theorem uS(ha:PE X o ta)(hv:PE X value tv)(hs:swapsWith value (some (.Attribute o f pos')) pos.line X.env=pure false):PS X (.Assign [.Attribute o f pos'] value pos) (Hn X.K ta tv f):=by
 intro pins s σ H D I h
 refine plainObj_wpAny_Assign_Attribute (bK (hv pins s σ H _ I h) fun u s1 ⟨y,H1,I1,ry,q⟩=>bK (ha pins s1 σ H1 _ I1 q) fun ov s2 ⟨x,H2,I2,rx,e,C,HE,g,ex,Z,tk,q2⟩=>?_) hs
 subst ex
 obtain rfl:ov=Value.ref e:=rx
 rcases q2 with ⟨hx,q2⟩ | ⟨dx,fs,hx,hd,hl,q2⟩
 ·obtain⟨ob,vs,h1,h2,h3,h4,h5⟩:=pG I2.bg hx
  refine PySem.W.A' I2.f9 Z tk h1 h2 h4 h3 fun h' MZ g1 g2 g3=>?_
  have ne:s2.heap.objs.size≠e:=Nat.ne_of_gt (Heap.lt_size h1)
  have fr:=I2.bg.fresh (Nat.le_refl s2.heap.objs.size)
  generalize hN:s2.heap.objs.size=n at g1 g2 ne fr
  have at':∀b o,H2 b=some o→b≠e→upd (upd H2 n (xE n [(f,y)])) e (rh e C (some n)) b=some o:=fun b o q be=>by
   rw[ah be,ah (af q fr)]
   exact q
  refine⟨σ,upd (upd H2 n (xE n [(f,y)])) e (rh e C (some n)),I2.un (h':=h') (t':=MZ) ⟨fun b o q nn _ _=>g3 b o (fun z=>?_) q,fun b o q nn _ _=>⟨o.slots,g3 b o (fun z=>?_) q⟩,fun b o q nn _=>?_,fun b o q _=>?_,fun b xs q=>at' b _ q fun z=>?_,fun b o u q=>at' b _ q fun z=>?_,fun b ps q=>⟨#[],?_⟩⟩ fun b o q=>?_,q2 n fr ne⟩
  ·rw[z,hx] at nn;cases nn
  ·rw[z,hx] at nn;cases nn
  ·rw[ah (fun z=>by rw[z,hx] at nn;cases nn),ah (fun z=>by rw[z,←hN] at q;exact absurd (Heap.lt_size q) (Nat.lt_irrefl _))]
   exact nn
  ·by_cases be:b=e
   ·subst be
    exact⟨_,g1⟩
   ·exact⟨o,g3 b o be q⟩
  ·rw[z,hx] at q;cases q
  ·rw[z,hx] at q;cases q
  ·rw[Array.append_empty]
   exact at' b _ q fun z=>by rw[z,hx] at q;cases q
  ·by_cases be:b=e
   ·subst be
    rw[ag] at q
    cases q
    exact yz g1 h2 rfl h4 h5
   ·rw[ah be] at q
    by_cases bn:b=n
    ·subst bn
     rw[ag] at q
     cases q
     refine CD g2 (fun g=>?_) fun g hg=>?_
     ·by_cases eg:g=f
      ·subst eg
       simp only [List.lookup,beq_self_eq_true,if_true]
       exact ry
      ·have e1:(g==f)=false:=by simpa using eg
       simp only [List.lookup,e1,if_neg eg]
       exact True.intro
     ·by_cases eg:g=f
      ·simp [eg]
      ·exact absurd (if_neg eg) hg
    ·rw[ah bn] at q
     refine(I2.bg b o q).oP (fun c u hc z=>g3 c u (fun ce=>?_) z) (fun c z=>at' c _ z fun ce=>?_) fun c xs z=>at' c _ z fun ce=>?_
     ·rcases hc with hc|hc
      ·exact be (hc.symm.trans ce)
      ·rw[ce,hx] at hc;cases hc
     ·rw[ce,hx] at z;cases z
     ·rw[ce,hx] at z;cases z
 ·obtain⟨ob,vs,h1,h2,h3,h4,h5⟩:=pG I2.bg hx
  obtain⟨mA,n1,r1,w1⟩:=yA I2.bg hd
  have hz:(fs.map (·.1)).length≤1000:=by rw[List.length_map];omega
  refine PySem.W.Ba I2.f9 Z tk h1 h2 h4 h3 n1 w1 hz fun h' g1 sb=>⟨σ,_,?_,q2⟩
  have lO:∃o,h'.get? dx=some o:=let ⟨o,_,_,e',_⟩:=g1;⟨o,e'⟩
  refine I2.write (x:=dx) (e:=dx) (t':=s2.toks+2) (by rw[hd];exact True.intro) (.inl rfl) (fun b q hb z=>(sb.2 b hb).trans z) lO (CD g1 (fun g=>?_) fun g hg=>?_)
  ·rw[aQ]
   by_cases q:g=f
   ·rw[if_pos q,if_pos q];exact ry
   ·rw[if_neg q,if_neg q];exact r1 g
  ·by_cases q:g=f
   ·rw[q];exact(fO f y fs).1
   ·exact(fO f y fs).2 g (w1 g fun z=>hg (by rw[if_neg q];exact z))
def CJ(K:PySem.W.Frag)(ta:TE)(f:Str):TE:=fun σ H Q=>ta σ H fun v H1=>∃e C HE g dx fs y,v= .ref e∧PySem.W.dN K C HE g∧PySem.W.findIn K (.ref C) f=some none∧H1 e=some (wB e C (some dx))∧H1 dx=some (xE dx fs)∧fs.lookup f=some y∧Q y H1
theorem Bd(he:PE X ex ta)(hb:attributeBase ex f X.env (eval ex X.env)=eval ex X.env):PE X (.Attribute ex f pos) (CJ X.K ta f):=by
 intro pins s σ H Q I h
 refine uv hb (bK (he pins s σ H _ I h) fun u s1 ⟨x,H1,I1,rx,e,C,HE,g,dx,fs,y,ex,Z,fi,hx,hd,l,q⟩=>?_)
 subst ex
 obtain rfl:u=Value.ref e:=rx
 obtain⟨ob,vs,h1,h2,h3,h4⟩:=tp I1.bg hx
 obtain⟨mA,n1,r1,w1⟩:=yA I1.bg hd
 obtain⟨od,ho,hl⟩:=nK n1
 obtain⟨u,hu,ru⟩:=eJ.some_of (v:=y) (o:=mA f) (by rw[←l];exact r1 f)
 obtain⟨cd,lQ,_,hh⟩:=Z.cd
 have J:PySem.W.InstAt s1.heap e ob C (some od):=⟨h1,h2,by unfold PySem.W.notCls;rw[h4],by rw[h3];exact ho⟩
 exact PySem.W.D9 I1.f9 Z J (PySem.W.findObj_own (by unfold PySem.W.hasDictIn;rw[lQ];exact hh) fi rfl (by rw[hl,hu])) (nL ru) ⟨y,H1,I1.tok _,ru,q⟩
def M3(ta:TE):TE:=fun σ H Q=>ta σ H fun v H1=>(∃i,v= .int i∧i.natAbs.log2<1920∧Q (.str (toString i)) H1)∨∃y,v= .str y∧y.length≤sizeLine∧Q (.str y) H1
theorem yD(he:PE X ex ta):PE X (.FormattedValue ex (-1) none pos) (M3 ta):=by
 intro pins s σ H Q I h
 refine FormattedValue_plain (bK (he pins s σ H _ I h) fun u s1 ⟨v,H1,I1,rv,q⟩=>?_)
 rcases q with ⟨i,rfl,hi,q⟩ | ⟨y,rfl,hy,q⟩
 ·obtain⟨t,rfl⟩:=rv
  exact formatField_int_small hi ⟨.str (toString i),H1,I1.tok _,⟨_,rfl⟩,q⟩
 ·obtain⟨t,rfl⟩:=rv
  exact formatField_str (fun t' tk=>⟨.str y,H1,I1.tok tk,⟨_,rfl⟩,q⟩) hy
def PF(X:Cx)(es:List Expr)(t:Str→TE):Prop:=
 ∀(acc:Str) (pins:List (Addr×Obj)) (s:Shared) (σ:St) (H:Hp) (Q:VK),Inv X pins σ H s→t acc σ H Q→wpAny (model X.prog X.w) X.A (joinParts acc (evalEach es X.env)) (EP X pins σ Q) X.xe s
def Ho:Str→TE:=fun acc _ H Q=>acc.length≤sizeLine∧Q (.str acc) H
def Ee(te:TE)(t:Str→TE):Str→TE:=fun acc σ H Q=>te σ H fun v H1=>∃y,v= .str y∧(acc++y).length≤sizeLine∧t (acc++y) σ H1 Q
theorem yE:PF X [] Ho:=fun acc pins s σ H Q I h=>joinParts_nil ⟨.str acc,H,I.tok _,⟨_,rfl⟩,h.2⟩ h.1
theorem ip{es:List Expr}{t:Str→TE}(he:PE X ex ta)(hr:PF X es t)(hs:evalEach (ex::es) X.env=eval ex X.env::evalEach es X.env:=by rfl):PF X (ex::es) (Ee ta t):=by
 intro acc pins s σ H Q I h
 rw[hs]
 refine joinParts_cons (bK (he pins s σ H _ I h) fun u s1 ⟨v,H1,I1,rv,y,ev,hz,q⟩=>?_)
 subst ev
 obtain⟨t',rfl⟩:=rv
 exact⟨hz,hr (acc++y) pins s1 σ H1 Q I1 q⟩
theorem uU{v1 v2:Expr}{es:List Expr}{t:Str→TE}(h:PF X (v1::v2::es) t):PE X (.JoinedStr (v1::v2::es) pos) (t Str.empty):=fun pins s σ H Q I hw=>JoinedStr_many (h Str.empty pins s σ H Q I hw)
end
end L2
namespace PySem.W
open PySem PySem.Calls PyProof.Rows
structure yF(K:Frag)(PC:Addr):Prop where
 obj:∃(nm q:Str) (N:Addr) (bs bm:List Value) (hd:Bool) (sn:List Str) (sub:List Value) (ab:Bool) (col:Option Bool) (dd:Option Addr) (k0 k1 k2 k3 k5:Option Value) (RX:String),
  K.lookup PC=some (excClassObj nm q PC N bs bm hd sn sub ab col dd k0 k1 k2 k3 k5 RX)∧bm.contains (.type "BaseException")=true
theorem dN.par{K:Frag}{C HE f:Addr}(Z:dN K C HE f):yF K C:=by
 obtain⟨nm,q,N,bs,sn,sub,ab,col,dd,k0,k1,k2,k3,k5,hK⟩:=Z.obj
 exact⟨nm,q,N,bs,_,_,sn,sub,ab,col,dd,k0,k1,k2,k3,k5,_,hK,by rw[List.contains_cons,show qA.contains (.type "BaseException")=true from by decide+kernel,Bool.or_true]⟩
theorem tw{M:Model}{A:Around}{E:Value→Shared→Prop}{s:Shared}{K:Frag}{C HE f e PC:Addr}{ox:Obj}{b:Bool}{Q:Bool→Shared→Prop}(X:K.In s.heap)(Z:dN K C HE f)(Y:yF K PC)(hx:s.heap.get? e=some ox)(hc:ox.cls= .ref C)
  (hm:mroIn K C (.ref PC)=some b) (k:Q b s):wpAny M A (excMatches (.ref e) (.ref PC)) Q E s:=by
 obtain⟨nm,q,N,bs,sn,sub,ab,col,dd,k0,k1,k2,k3,k5,hK⟩:=Z.obj
 obtain⟨Vx,q',N',Vy,bm,lO,Vz,TU,VA,TV,Cr,VB,VC,VD,VE,VF,RX,hP,hB⟩:=Y.obj
 obtain⟨cd,lQ,em,_⟩:=Z.cd
 have cb:(Value.ref C:: .ref HE::qA).contains (.ref PC)=b:=by
  unfold mroIn at hm
  rw[lQ,Option.bind_some,em] at hm
  exact Option.some.inj hm
 have kC:=X _ _ hK
 have kP:=X _ _ hP
 have cB:(Value.ref PC::bm).contains (.type "BaseException")=true:=by rw[List.contains_cons,hB,Bool.or_true]
 have ft:=tc_notTuple
 obtain⟨hp,g,d,tk,os⟩:=s
 unfold excMatches
 repeat (first| (with_reducible refine wpAny_loadPart_at hx ?_;rw[hc]) |with_reducible refine wpAny_loadPart_at kP ?_| (with_reducible refine wpAny_isSubtype_exc kP ?_;rw[cB]) | (with_reducible refine wpAny_isSubtype_exc kC ?_;rw[cb]) |wp_step)
 cases b<;>(wp_walk;exact k)
end PySem.W
namespace L2
open PySem PySem.Spec PyProof.Rows
abbrev Cx.pinned(X:Cx)(pn:List (Addr×Obj)):Cx:={ X with pn:=X.pn++pn }
abbrev Cx.mark(X:Cx)(e:Addr):Cx:={ X with A:=X.A.mark (some (.ref e)),calm:=false,xe:=fun _ _=>False }
section
variable {X:Cx}{pins pn:List (Addr×Obj)}{σ:St}{H:Hp}{s:Shared}{ER:St→XK}{v:Value}{D:Ends}{fl:Flow}
theorem Cx.Ok.pinned(ok:X.Ok):(X.pinned pn).Ok:=⟨ok.mod,ok.kind,ok.glob,ok.blt,ok.above,ok.inj,ok.has,ok.AD,ok.hd,ok.frames,ok.Cj,ok.F4,ok.bs,ok.vW,ok.oR,ok.oS,ok.iH,ok.xM⟩
theorem Cx.Ok.eh(ok:(X.pinned pn).Ok):X.Ok:=⟨ok.mod,ok.kind,ok.glob,ok.blt,ok.above,ok.inj,ok.has,ok.AD,ok.hd,ok.frames,ok.Cj,ok.F4,ok.bs,ok.vW,ok.oR,ok.oS,ok.iH,ok.xM⟩
theorem Inv.M4(I:Inv X pins σ H s):Inv (X.pinned pins) [] σ H s:=⟨I.ok.pinned,I.os,I.bare,I.base,I.loc,I.cell,I.free,I.eF,fun p hp=>I.pin p (by simpa using hp),I.bg,I.len⟩
theorem Inv.Be(I:Inv (X.pinned pn) pins σ H s):Inv X pn σ H s:=⟨I.ok.eh,I.os,I.bare,I.base,I.loc,I.cell,I.free,I.eF,fun p hp=>I.pin p (List.mem_append_left _ hp),I.bg,I.len⟩
theorem SP.eh(h:SP (X.pinned pn) pins D fl s):SP X pn D fl s:=by
 cases fl with
 |next=>obtain⟨σ',H',I,q⟩:=h;exact⟨σ',H',I.Be,q⟩
 |brk=>obtain⟨σ',H',I,q⟩:=h;exact⟨σ',H',I.Be,q⟩
 |cont=>obtain⟨σ',H',I,q⟩:=h;exact⟨σ',H',I.Be,q⟩
 |ret u=>obtain⟨v,σ',H',I,r,q⟩:=h;exact⟨v,σ',H',I.Be,r,q⟩
theorem Bf:Lets X (fun _ _ _ _=>False):=fun _ _ ⟨_,_,_,_,_,_,_,_,_,_,_,z⟩=>z.elim
theorem Inv.mark(I:Inv X pins σ H s)(e:Addr):Inv (X.mark e) pins σ H s:=
 ⟨⟨I.ok.mod,I.ok.kind,I.ok.glob,I.ok.blt,I.ok.above,I.ok.inj,I.ok.has,I.ok.AD,fun z=>(by cases z),I.ok.frames,I.ok.Cj,I.ok.F4,I.ok.bs,I.ok.vW,I.ok.oR,I.ok.oS,I.ok.iH,I.ok.xM⟩,I.os,I.bare,I.base,I.loc,I.cell,I.free,I.eF,I.pin,I.bg,I.len⟩
theorem Inv.unmark{e:Addr}(I:Inv (X.mark e) pins σ H s)(ok:X.Ok):Inv X pins σ H s:=⟨ok,I.os,I.bare,I.base,I.loc,I.cell,I.free,I.eF,I.pin,I.bg,I.len⟩
def PH(X:Cx)(hs:List ExceptHandler)(th:Ends→St→XK):Prop:=
 ∀(s:Shared) (σ:St) (H:Hp) (D:Ends) (e C:Addr) (dx:Option Addr) (T:Addr),Inv X [] σ H s→H e=some (wB e C dx)→s.heap.j3 e (some T)→H T=none→g6 X T→th D σ (.ref C) dx H→
  wpAny (model X.prog X.w) X.A (handleBy (.ref e) X.env hs) (SP X [] D) X.xe s
theorem Ef(L:Lets X ER):PH X [] (fun _=>ER):=by
 intro s σ H D e C dx T I he fl hT nT hE
 refine wpAny_handleBy_nil ?_
 obtain⟨oe,vs,h1,h2,h3⟩:=id fl.ex
 unfold PySem.passOn
 refine wpAny_bind (wpAny_field h1 h2 h3 ?_)
 rw[if_neg (by simp)]
 have ht:∀T',some T=some T'→H T'=none∧g6 X T':=fun T' z=>by cases z;exact⟨hT,nT⟩
 refine wpAny_bind (fR fl fun h' a m=>wpAny_throw (L _ _ ⟨e,C,dx,σ,H,some T,rfl,I.moved he ht (m.mono fun _ z=>absurd z (by simp)),he,a,ht,hE⟩))
def Hq(K:PySem.W.Frag)(PC:Addr)(i:Nat)(ts:TS)(tr:Ends→St→XK):Ends→St→XK:=fun D σ cv dx H=>
 ∃C HE f b,cv= .ref C∧PySem.W.dN K C HE f∧PySem.W.mroIn K C (.ref PC)=some b∧
  if b=true then∀e,H e=some (wB e C dx)→ts { D with nx:=fun σ1 H1=>D.nx (σ1.set i none) H1,bk:=fun σ1 H1=>D.bk (σ1.set i none) H1,ct:=fun σ1 H1=>D.ct (σ1.set i none) H1 } (σ.set i (some (.ref e))) H else tr D σ cv dx H
theorem name_goes{i:Nat}{n:Str}{pos:Pos}{Q:Unit→Shared→Prop}{A:Around}{E:Value→Shared→Prop}(I:Inv X pins σ H s)(hN:X.N.Nodup)(hi:X.N[i]? =some n)(hl:X.env.scope.names.lookup n=some .local)
  (k:∀s',Inv X pins (σ.set i none) H s'→Q () s'):wpAny (model X.prog X.w) A (do bindName X.env n .none;unbindBehindTheSuite X.env n pos) Q E s:=by
 have Dx:(X.env.scope.kind== .class||(X.env.scope.kind== .module&&X.env.locals != X.env.globals))=false:=by rw[I.ok.kind];rfl
 refine wpAny_bind (wpAny_bindName (store_ok I hN hi (.inl hl) (v:= .cw) rfl (fun s1 J=>?_) (.inr hl)))
 have RY:i<σ.length:=by rw[I.len];exact(List.getElem?_eq_some_iff.mp hi).1
 obtain⟨m,hn,MH⟩:=id J.loc
 obtain⟨u,_,lk⟩:=MH i n .cw hi (by rw[List.getElem?_set_self RY]) (.inl hl)
 have TY:(m n).isSome=true:=by
  rcases lk with ⟨_,z⟩ | ⟨z,_⟩
  ·rw[z];rfl
  ·rcases z with z|z
   ·have:X.env.scope.names.lookup n=some .cell:=z
    rw[hl] at this;cases this
   ·have:X.env.scope.names.lookup n=some .free:=z
    rw[hl] at this;cases this
 unfold unbindBehindTheSuite
 refine wpAny_onRaise ?_
 unfold unbindName
 refine wpAny_bind (wpAny_point (wpAny_bind ?_))
 unfold deleteName
 have kl:X.env.kindOf n=some .local:=hl
 simp only [kl,Dx]
 rw[if_neg (by decide)]
 refine wpAny_bind (wpAny_nsDel_keeps hn fun h2 v2 F7 sb=>?_)
 rw[TY]
 refine wpAny_pure (wpAny_point (k _ ?_))
 obtain⟨oL,_,_,Rx,_⟩:=id hn
 have lo:∀b o,X.s₀.heap.get? b=some o→b≠X.env.locals:=fun b o q=>Nat.ne_of_lt (Nat.lt_of_lt_of_le (Heap.lt_size q) J.ok.above)
 refine⟨J.ok,J.os,J.bare,⟨fun b o e nn hb hx=>(sb.2 b (lo b o e)).trans (J.base.keep b o e nn hb hx),fun b o e nn hb hx=>?_,J.base.free,fun b o e hx=>?_,J.base.jO,J.base.jP,J.base.jQ⟩,⟨_,F7,fun j y v' e1 e2 e3=>?_⟩,fun y c e=>?_,J.free,J.eF,fun p hp=>?_,fun b ob e=>?_,by simpa using I.len⟩
 ·obtain⟨sl,e1⟩:=J.base.slot b o e nn hb hx
  exact⟨sl,(sb.2 b (lo b o e)).trans e1⟩
 ·obtain⟨o',e1⟩:=J.base.there b o e hx
  exact⟨o',(sb.2 b (lo b o e)).trans e1⟩
 ·by_cases hj:j=i
  ·subst hj
   rw[List.getElem?_set_self RY] at e2
   cases e2
  ·rw[List.getElem?_set_ne (Ne.symm hj)] at e2
   obtain⟨u',r',q⟩:=MH j y v' e1 (by rw[List.getElem?_set_ne (Ne.symm hj)];exact e2) e3
   refine⟨u',r',?_⟩
   rcases q with ⟨k,e⟩ | ⟨k,c,e,z⟩
   ·refine .inl ⟨k,?_⟩
    have:y≠n:=fun e=>hj (lP hN e1 (e▸hi))
    simp [this,e]
   ·exact .inr ⟨k,c,e,z.sameBut sb (J.AE y c e)⟩
 ·obtain⟨w',z⟩:=J.cell y c e
  exact⟨w',z.sameBut sb (J.AE y c e)⟩
 ·obtain⟨e,nn,ne,nf,d⟩:=J.pin p hp
  exact⟨(sb.2 p.1 ne).trans e,nn,ne,nf,d⟩
 ·refine(J.bg b ob e).oP (fun c w' hc q=>(sb.2 c ?_).trans q) (fun _ q=>q) fun _ _ q=>q
  rintro rfl
  rcases hc with rfl|hc
  ·rw[J.free] at e;cases e
  ·rw[J.free] at hc;cases hc
theorem Hr{x n:Str}{np pos:Pos}{b0:Stmt}{rm:List Stmt}{rest:List ExceptHandler}{PC:Addr}{i:Nat}{ts:TS}{tr:Ends→St→XK}(hg:Gl X x)(hm:X.mg x=some (.ref PC))(Y:PySem.W.yF X.K PC)(hN:X.N.Nodup)(hi:X.N[i]? =some n)
  (hl:X.env.scope.names.lookup n=some .local) (M5:∀e,jR (X.mark e) (b0::rm) ts) (hr:PH X rest tr) (hd:(x==("__debug__" :Str))=false:=by decide):
  PH X (.ExceptHandler (some (.Name x np)) (some n) (b0::rm) pos::rest) (Hq X.K PC i ts tr):=by
 intro s σ H D e C dx T I he fl hT nT hE
 obtain⟨C',HE,f,b,ec,Z,mb,hE⟩:=hE
 cases ec
 obtain⟨o,vs,o1,o2,o3,o4⟩:=tp I.bg he
 have ht:∀T',some T=some T'→H T'=none∧g6 X T':=fun T' z=>by cases z;exact⟨hT,nT⟩
 refine wpAny_handleBy_cons (codeAny_handlers_test (f' (X:=X.mark e) (I.mark e) hg hm (PySem.W.tw I.f9 Z Y o1 o2 mb ?_) hd)) (by intro z;cases z)
 cases b with
 |false=>exact hr s σ H D e C dx T I he fl hT nT hE
 |true=>
  have hE:=hE e he
  refine codeAny_handlers_suite_as (fR fl fun h1 a m=>?_)
  have I1:=I.moved he ht (m.mono fun _ z=>absurd z (by simp))
  refine store_ok I1 hN hi (.inl hl) (v:= .ref e) rfl (fun s2 I2=>?_) (.inr hl)
  refine wpAny_mono (M5 e [] s2 _ H _ (I2.mark e) hE) (fun f s3 q=>?_) fun _ _ z=>False.elim z
  cases f with
  |next=>
   obtain⟨σ',H',I3,q⟩:=q
   exact name_goes (I3.unmark I.ok) hN hi hl fun s4 I4=>⟨_,H',I4,q⟩
  |brk=>
   obtain⟨σ',H',I3,q⟩:=q
   exact name_goes (I3.unmark I.ok) hN hi hl fun s4 I4=>⟨_,H',I4,q⟩
  |cont=>
   obtain⟨σ',H',I3,q⟩:=q
   exact name_goes (I3.unmark I.ok) hN hi hl fun s4 I4=>⟨_,H',I4,q⟩
  |ret u=>
   obtain⟨v,σ',H',I3,r,q⟩:=q
   exact name_goes (I3.unmark I.ok) hN hi hl fun s4 I4=>⟨v,_,H',I4,r,q⟩
def Hs(tb:(St→XK)→TS)(th:Ends→St→XK):TS:=fun D σ H=>tb (th D) D σ H
theorem Bg{body:List Stmt}{h0:ExceptHandler}{hs:List ExceptHandler}{pos:Pos}{tb:(St→XK)→TS}{th:Ends→St→XK}(fm:Bb X)(hb:∀pn RZ,jR ((X.pinned pn).gW (jg (X.pinned pn) RZ)) body (tb RZ))(hh:∀pn,PH (X.pinned pn) (h0::hs) th):
  PS X (.Try body (h0::hs) [] [] pos) (Hs tb th):=by
 intro pins s σ H D I h
 have fin:∀{f s1},SP (X.pinned pins) [] D f s1→SP X pins D f s1:=fun q=>q.eh
 refine wpAny_Try_except (wpAny_mono (hb pins (th D) [] s σ H D (I.M4.gW _) h) (fun f s1 q=>?_) fun v s1 z=>?_)
 ·have q:=fin q.cP
  cases f with
  |next=>exact wpAny_execs_nil q
  |brk=>exact q
  |cont=>exact q
  |ret u=>exact q
 ·obtain⟨e,C,dx,σ1,H1,tb,ev,I1,he,fl,ht,hE⟩:=z
  subst ev
  have M6:Bb (X.pinned pins):=fm
  obtain⟨fr,ff⟩:=j4 M6 I1
  refine pE fr ff M6.2 fl fun h2 T a b m=>?_
  have m1:Heap.Moved (qz (X.pinned pins).stack) e tb s1.heap h2:=by unfold qz;rw[M6.1];exact m
  have I2:=I1.moved he ht m1
  have t1:=tq I1 ht b
  refine fR (s:={ s1 with heap:=h2 }) a fun h3 a3 m3=>?_
  have I3:=I2.moved he t1 (m3.mono fun _ z=>absurd z (by simp))
  exact bK (hh pins _ σ1 H1 D e C dx T I3 he a3 (t1 T rfl).1 (t1 T rfl).2 hE) fun f s4 q=>fin q
end
end L2
namespace L2
open PySem PySem.Spec PyProof.Rows
section
variable {X:Cx}{tg:Expr}
end
section
variable {K:PySem.W.Frag}{g:TG}{tt:TT}{te:TE}
end
end L2
namespace L2
open PySem PySem.Spec PyProof.Rows PySem.W
section
variable {X:Cx}
end
end L2
namespace L2
open PySem PySem.Spec PyProof.Rows
section
variable {P:Program}{w:World}{K:PySem.W.Frag}{mg:Str→Option Value}{base:Heap}
end
end L2
namespace PySem.W
open PySem PySem.Spec PySem.Calls PyProof.Rows
section
variable {prog:Program}{w:World}{A:Around}{E:Value→Shared→Prop}{s:Shared}{K:Frag}{e C HE f:Addr}{ox:Obj}{od:Option Obj}
end
end PySem.W
namespace L2
open PySem PySem.Spec PyProof.Rows
end L2
namespace M7
open PySem PySem.Spec PySem.Builtin PySem.Builtin.Str
end M7
namespace L2
open PySem PySem.Spec PyProof.Rows
section
variable {X:Cx}
end
section
variable {X:Cx}
theorem Eg(K:PySem.W.Frag)(hK:X.K=K){x n:Str}{np pos:Pos}{b0:Stmt}{rm:List Stmt}{rest:List ExceptHandler}{PC:Addr}{i:Nat}{ts:TS}{tr:Ends→St→XK}(hg:Gl X x)(hm:X.mg x=some (.ref PC))(Y:PySem.W.yF K PC)(hN:X.N.Nodup)(hi:X.N[i]? =some n)
  (hl:X.env.scope.names.lookup n=some .local) (M5:∀e,jR (X.mark e) (b0::rm) ts) (hr:PH X rest tr) (hd:(x==("__debug__" :Str))=false:=by decide):
  PH X (.ExceptHandler (some (.Name x np)) (some n) (b0::rm) pos::rest) (Hq K PC i ts tr):=by
 subst hK
 exact Hr hg hm Y hN hi hl M5 hr hd
end
section
variable {P:Program}{w:World}{K:PySem.W.Frag}{mg:Str→Option Value}{base:Heap}
structure M8(P:Program)(w:World)(K:PySem.W.Frag)(mg:Str→Option Value)(base:Heap)(k:Nat)(x:Str)(ps:List Str)(sp:Sp)(f:Addr)(fd:FuncData):Prop where
 ok:ei P w K mg base (tu P w) k f fd ps sp
 kp:PySem.W.keepIn K (.ref f)=true
 b:Binds K fd ps []
 g:mg x=some (.ref f)
def rn(P:Program)(w:World)(K:PySem.W.Frag)(mg:Str→Option Value)(base:Heap)(k:Nat)(x:Str)(ps:List Str)(sp:Sp):Prop:=∃f fd,M8 P w K mg base k x ps sp f fd
structure Hu(P:Program)(w:World)(K:PySem.W.Frag)(mg:Str→Option Value)(base:Heap)(k:Nat)(C:Addr)(m:Str)(ps:List Str)(sp:Sp)(f:Addr)(fd:FuncData):Prop where
 ok:ei P w K mg base (tu P w) k f fd ps sp
 m:Meth K C m f
 b:Binds K fd ps []
def a8(P:Program)(w:World)(K:PySem.W.Frag)(mg:Str→Option Value)(base:Heap)(k:Nat)(C:Addr)(m:Str)(ps:List Str)(sp:Sp):Prop:=∃f fd,Hu P w K mg base k C m ps sp f fd
theorem Def.iJ{x q:Str}{st:Stmt}{N ps:List Str}{k:Nat}{sp:Sp}(D:Def K mg x q st ps)(S:az N ps (ao st))(len:∀vs H Q E,sp vs H Q E→vs.length=ps.length)
  (dz:∀(f:Addr) (ba:Value) (A:Around) (outer:List Env) (s:Shared) (H:Hp) (vs:List V) (Q:VK) (E:XK),cj k (A.deeper (envOfC q (ao st) s.heap.objs.size f ba))→sp vs H Q E→
   ∃t,jR (CH P w K mg base N q (ao st) f ba A outer s H E) (aZ st) t∧t { nx:=fun _ H'=>Q .cw H',rt:=Q } (start N vs) H):rn P w K mg base (k+1) x ps sp:=by
 obtain⟨f,fd,F,b,g⟩:=D
 exact⟨f,fd,F.sJ S len (dz f),F.kp,b,g⟩
theorem bG.iJ{C:Addr}{m q:Str}{st:Stmt}{N ps:List Str}{k:Nat}{sp:Sp}(D:bG K C m q st ps)(S:az N ps (ao st))(len:∀vs H Q E,sp vs H Q E→vs.length=ps.length)
  (dz:∀(f:Addr) (ba:Value) (A:Around) (outer:List Env) (s:Shared) (H:Hp) (vs:List V) (Q:VK) (E:XK),cj k (A.deeper (envOfC q (ao st) s.heap.objs.size f ba))→sp vs H Q E→
   ∃t,jR (CH P w K mg base N q (ao st) f ba A outer s H E) (aZ st) t∧t { nx:=fun _ H'=>Q .cw H',rt:=Q } (start N vs) H):a8 P w K mg base (k+1) C m ps sp:=by
 obtain⟨f,fd,F,b,g⟩:=D
 exact⟨f,fd,F.sJ S len (dz f),g,b⟩
def tD(K:PySem.W.Frag)(mg:Str→Option Value)(x:Str)(C HE:Addr)(q:Str)(st:Stmt)(ps:List Str):Prop:=∃f fd,xD K "__init__" q st f fd∧PySem.W.dN K C HE f∧Binds K fd ps []∧mg x=some (.ref C)∧PySem.W.keepIn K (.ref C)=true
structure Hw(P:Program)(w:World)(K:PySem.W.Frag)(mg:Str→Option Value)(base:Heap)(k:Nat)(x:Str)(C HE:Addr)(ps:List Str)(sp:Sp)(f:Addr)(fd:FuncData):Prop where
 ok:ei P w K mg base pj k f fd ps sp
 z:PySem.W.dN K C HE f
 b:Binds K fd ps []
 g:mg x=some (.ref C)
 kp:PySem.W.keepIn K (.ref C)=true
def g7(P:Program)(w:World)(K:PySem.W.Frag)(mg:Str→Option Value)(base:Heap)(k:Nat)(x:Str)(C HE:Addr)(ps:List Str)(sp:Sp):Prop:=∃f fd,Hw P w K mg base k x C HE ps sp f fd
theorem tD.eB{x q:Str}{C HE:Addr}{st:Stmt}{N ps:List Str}{k:Nat}{sp:Sp}(D:tD K mg x C HE q st ps)(S:az N ps (ao st))(len:∀vs H Q E,sp vs H Q E→vs.length=ps.length)
  (dz:∀(f:Addr) (ba:Value) (A:Around) (outer:List Env) (s:Shared) (H:Hp) (vs:List V) (Q:VK) (E:XK),cj k (A.deeper (envOfC q (ao st) s.heap.objs.size f ba))→sp vs H Q E→
   ∃t,jR (gR pj P w K mg base N q (ao st) f ba A outer s H E).Av (aZ st) t∧t { nx:=fun _ H'=>Q .cw H',rt:=Q } (start N vs) H):g7 P w K mg base (k+1) x C HE ps sp:=by
 obtain⟨f,fd,F,Z,b,g,kp⟩:=D
 exact⟨f,fd,F.ok S len (dz f),Z,b,g,kp⟩
end
end L2
namespace M7
open PySem PySem.Spec PySem.Calls PyProof.Rows
section
variable {prog:Program}{w:World}{A:Around}{I:Addr}{fp wr:List Addr}{n:Nat}{P:Nat→Value→Prop}{St:Nat→Heap→Prop}
end
section
variable {prog:Program}{w:World}{A:Around}{E:Value→Shared→Prop}{s:Shared}{l:Addr}{xs:Array (Int×Tok)}{d:Value}
end
end M7
namespace L2
open PySem PySem.Spec PyProof.Rows
section
variable {X:Cx}
end
end L2
namespace L2
open PySem PySem.Spec
section
variable {X:Cx}
end
end L2
namespace L2
open PySem PySem.Spec
end L2
namespace L2
open PySem PySem.Spec PyProof.Rows
theorem R0{p:List Value→Prop}(us:List Value)(e:us.length=1)(h:∀a,p [a]):p us:=by
 cases us with
 |nil=>cases e
 |cons a us=>cases us with
  |nil=>exact h a
  |cons b us=>simp at e
theorem ln2{p:List Value→Prop}(us:List Value)(e:us.length=2)(h:∀a b,p [a,b]):p us:=by
 cases us with
 |nil=>cases e
 |cons a us=>exact R0 (p:=fun us=>p (a::us)) us (by simpa using e) (h a)
theorem R1{p:List Value→Prop}(us:List Value)(e:us.length=3)(h:∀a b c,p [a,b,c]):p us:=by
 cases us with
 |nil=>cases e
 |cons a us=>exact ln2 (p:=fun us=>p (a::us)) us (by simpa using e) (h a)
section
variable {K:PySem.W.Frag}{h:Heap}{mg:Str→Option Value}{x m q:Str}{st:Stmt}{ps:List Str}{f C HE:Addr}
def dO(K:PySem.W.Frag)(x q:Str)(st:Stmt)(f:Addr):Prop:=(∃fd,xD K x q st f fd)∧PySem.W.isFn K (.ref f)=true
def BB(x q:Str)(st:Stmt)(ps:List Str)(kV doc pm:Value)(an:Option Addr)(ba ct:Value)(us:List Value):Prop:=bindArgs (PySem.W.fnOf x q (bD st) (aZ st) (ao st) .none kV doc pm an ba ct) ⟨us,[]⟩=pure (ps.zip us)
def BA(x q:Str)(st:Stmt)(ps:List Str):Prop:=∀(kV doc pm:Value) (an:Option Addr) (ba ct:Value) (us:List Value),us.length=ps.length→BB x q st ps kV doc pm an ba ct us
theorem iP{p0:Str}(h:∀(kV doc pm:Value) (an:Option Addr) (ba ct u0:Value),BB x q st [p0] kV doc pm an ba ct [u0]):BA x q st [p0]:=fun kV doc pm an ba ct us hl=>R0 (p:=BB x q st [p0] kV doc pm an ba ct) us hl (h kV doc pm an ba ct)
theorem qB{p0 p1:Str}(h:∀(kV doc pm:Value) (an:Option Addr) (ba ct u0 u1:Value),BB x q st [p0,p1] kV doc pm an ba ct [u0,u1]):BA x q st [p0,p1]:=fun kV doc pm an ba ct us hl=>ln2 (p:=BB x q st [p0,p1] kV doc pm an ba ct) us hl (h kV doc pm an ba ct)
theorem M9{p0 p1 p2:Str}(h:∀(kV doc pm:Value) (an:Option Addr) (ba ct u0 u1 u2:Value),BB x q st [p0,p1,p2] kV doc pm an ba ct [u0,u1,u2]):BA x q st [p0,p1,p2]:=fun kV doc pm an ba ct us hl=>R1 (p:=BB x q st [p0,p1,p2] kV doc pm an ba ct) us hl (h kV doc pm an ba ct)
theorem dM{N P:List Str}{sc:Scope}(a:sc.kind= .function:=by rfl)(b:sc.isCoroutine=false:=by rfl)(c:sc.isGenerator=false:=by rfl)(d:N.Nodup:=by decide+kernel)(e:N.take P.length=P:=by rfl)(f:∀x∈P,sc.names.lookup x=some .local∨sc.names.lookup x=some .cell:=by decide+kernel)(g:∀y∈sc.names,y.2≠ .free:=by decide+kernel):az N P sc:=⟨a,b,c,d,e,f,g⟩
theorem b5(X:K.In h)(G:h.Ns mainGlobals mg)(a:PySem.W.nsIn K mainGlobals x=some (some (.ref f)))(l:dO K x q st f)(b:BA x q st ps):Def K mg x q st ps:=by
 obtain⟨⟨fd,F⟩,_⟩:=l
 exact⟨f,fd,F,F.binds b,PySem.W.mg_of X G a⟩
theorem cT(a:PySem.W.findIn K (.ref C) m=some (some (.ref f)))(l:dO K m q st f)(b:BA m q st ps):bG K C m q st ps:=by
 obtain⟨⟨fd,F⟩,i⟩:=l
 exact⟨f,fd,F,F.binds b,⟨a,i,F.kp⟩⟩
theorem Hy(k:PySem.W.makesIn K C=true)(a:PySem.W.findIn K (.ref C) "__init__" =some (some (.ref f)))(kc:PySem.W.keepIn K (.ref C)=true)(l:dO K "__init__" q st f)(b:BA "__init__" q st ps):j0 K C q st ps []:=by
 obtain⟨⟨fd,F⟩,i⟩:=l
 exact⟨f,fd, .none,⟨F.ex,F.kp⟩,⟨k,a,i,kc⟩,fun j _=>⟨[],by rw[List.drop_nil];exact .nil,F.binds b⟩⟩
theorem CK(Z:PySem.W.dN K C HE f)(g:mg x=some (.ref C))(kc:PySem.W.keepIn K (.ref C)=true)(l:dO K "__init__" q st f)(b:BA "__init__" q st ps):tD K mg x C HE q st ps:=by
 obtain⟨⟨fd,F⟩,i⟩:=l
 exact⟨f,fd,F,Z,F.binds b,g,kc⟩
end
end L2
namespace L2
open PySem PySem.Spec PyProof.Rows PySem.W PySem.Calls
section
variable {prog:Program}{w:World}{κ:Type}[DecidableEq κ]{knd:KeyKind prog w κ}{A:Around}{E:Value→Shared→Prop}{s:Shared}{d it:Addr}{i ep:Nat}{kvs:List (κ×Value)}
end
section
variable {X:Cx}
end
end L2
namespace L2
open PySem PySem.Spec PyProof.Rows
end L2
namespace L2
open PySem PySem.Spec
theorem yG{X:Cx}{f:Str}{ex:Expr}{ta:TE}{pos:Pos}(K:PySem.W.Frag)(hK:X.K=K)(he:PE X ex ta)(hb:attributeBase ex f X.env (eval ex X.env)=eval ex X.env):PE X (.Attribute ex f pos) (CJ K ta f):=by
 subst hK
 exact Bd he hb
end L2
namespace L2
open PySem PySem.Spec PyProof.Rows PySem.W
section
variable {X:Cx}
end
end L2
namespace L2
open PySem PySem.Spec PyProof.Rows
section
variable {prog:Program}{w:World}{A:Around}{R:Result→Shared→Prop}{s:Shared}
end
section
variable {X:Cx}{elt tg iter:Expr}{ifs:List Expr}{scope:Scope}{pos:Pos}{N:List Str}{fr:List (Option Nat)}{cl:List (Str×Addr)}{wi:TI}{g:TG}{tt:TT}{te:TE}
variable {VG:(St→XK)→TE}{ER:St→XK}
variable {Hi py:Pos}
end
end L2
namespace L2
open PySem PySem.Spec PyProof.Rows
section
variable {X:Cx}{e o:Expr}{es:List Expr}{t:TA}{ta:TE}{x m:Str}{ps:List Str}{sp:Sp}{f C:Addr}{fd:FuncData}{k n:Nat}{p apos pos:Pos}
end
end L2
namespace L2
open PySem
theorem LD{p:Nat→Prop}(a:p 0)(b:p 1)(j:Nat)(h:j≤1):p j:=by
 cases j with
 |zero=>exact a
 |succ j=>cases j with
  |zero=>exact b
  |succ j=>omega
theorem LF{K:PySem.W.Frag}{fd:FuncData}{ps:List Str}{ds:List Value}(l:ps.length=2+ds.length)(h:∀s a b,K.In s.heap→BindsTo s fd ⟨[a,b],[]⟩ (ps.zip ([a,b]++ds))):Binds K fd ps ds:=fun s us hk hl=>ln2 (p:=fun us=>BindsTo s fd ⟨us,[]⟩ (ps.zip (us++ds))) us (by rw[List.length_append] at hl;omega) fun a b=>h s a b hk
theorem LG{K:PySem.W.Frag}{fd:FuncData}{ps:List Str}{ds:List Value}(l:ps.length=3+ds.length)(h:∀s a b c,K.In s.heap→BindsTo s fd ⟨[a,b,c],[]⟩ (ps.zip ([a,b,c]++ds))):Binds K fd ps ds:=fun s us hk hl=>R1 (p:=fun us=>BindsTo s fd ⟨us,[]⟩ (ps.zip (us++ds))) us (by rw[List.length_append] at hl;omega) fun a b c=>h s a b c hk
end L2
namespace L2
open PySem PySem.Spec PyProof.Rows
section
variable {X:Cx}{o:Expr}{to:TE}{apos e7:Pos}
def CL(f:Str→Bool)(to:TE):TE:=fun σ H Q=>to σ H fun x H1=>∃z,x= .str z∧Q (.bl (f z)) H1
theorem iY(ho:PE X o to)(ma:attributeBase o "isupper" X.env (eval o X.env)=eval o X.env:=by rfl)(md:(apos.endLine==e7.line)=true:=by rfl):PE X (.Call (.Attribute o "isupper" apos) [] [] e7) (CL Txt.isupper to):=by
 intro pins s σ H Q I h
 refine wpAny_Call_method0_late ma md (bK (ho pins s σ H _ I h) fun v s1 ⟨x,H1,I1,r1,z,ex,q1⟩=>?_)
 subst ex
 obtain⟨t,rfl⟩:=(show∃t,v=Value.str z t from r1)
 exact⟨"str","str.isupper",PySem.F.plainAttrs_str,PySem.F.slot_str_isupper,PySem.F.type_str_isupper,typeIs_str s1 z t,(fun _ e=>nomatch e),Calls.callWith_builtin rfl (PySem.evalArgs_none (call_gives F.slot_str_isupper (typeIs_str _ _ _) F.entry_str_isupper (F.args_str_isupper_1 _) (gives_str_isupper z t) ⟨.bl _,H1,I1,rfl,q1⟩))⟩
theorem tE(ho:PE X o to)(ma:attributeBase o "islower" X.env (eval o X.env)=eval o X.env:=by rfl)(md:(apos.endLine==e7.line)=true:=by rfl):PE X (.Call (.Attribute o "islower" apos) [] [] e7) (CL Txt.islower to):=by
 intro pins s σ H Q I h
 refine wpAny_Call_method0_late ma md (bK (ho pins s σ H _ I h) fun v s1 ⟨x,H1,I1,r1,z,ex,q1⟩=>?_)
 subst ex
 obtain⟨t,rfl⟩:=(show∃t,v=Value.str z t from r1)
 exact⟨"str","str.islower",PySem.F.plainAttrs_str,PySem.F.slot_str_islower,PySem.F.type_str_islower,typeIs_str s1 z t,(fun _ e=>nomatch e),Calls.callWith_builtin rfl (PySem.evalArgs_none (call_gives F.slot_str_islower (typeIs_str _ _ _) F.entry_str_islower (F.args_str_islower_1 _) (gives_str_islower z t) ⟨.bl _,H1,I1,rfl,q1⟩))⟩
def HA:R2:=fun x y H Q=>∃(z:Str) (n:Nat),x= .str z∧y= .int (n:Int)∧2≤n∧n≤100∧z.length≠0∧z.length≤100∧Q (.str ⟨(List.replicate n z.cps).foldl (·++·) #[]⟩) H
theorem uV(a:Array Nat):∀(n:Nat) (acc:Array Nat),((List.replicate n a).foldl (·++·) acc).size=acc.size+a.size*n
 |0,acc=>by simp
 |n+1,acc=>by
  rw[List.replicate_succ,List.foldl_cons,uV a n,Array.size_append,Nat.mul_succ]
  omega
theorem uW:jM X (binaryOp .Mult) HA:=by
 intro pins s σ H x y v u Q I rx ry h
 obtain⟨z,n,rfl,rfl,n1,n2,z0,z1,q⟩:=h
 obtain⟨t,rfl⟩:=(show∃t,v=Value.str z t from rx)
 obtain⟨t2,rfl⟩:=(show∃t,u=Value.int _ t from ry)
 have big:(10000 :Nat)≤sizeLine:=by decide
 have VH:z.length*n≤10000:=Nat.mul_le_mul z1 n2
 have e1:((n:Int)==1||z.length==0)=false:=by
  have h1:((n:Int)==1)=false:=by simp only [beq_eq_false_iff_ne];omega
  have h2:(z.length==0)=false:=by simp only [beq_eq_false_iff_ne];exact z0
  rw[h1,h2];rfl
 refine PySem.P.mul_str (by rw[decide_eq_false (by omega),decide_eq_false (by omega)];rfl) (fun _ _=>?_) (fun _ _=>?_) ?_
 ·have hd:(100 :Int)≤(2^63 - 1) /(n:Int):=by
   rw[Int.le_ediv_iff_mul_le (by omega)]
   omega
  omega
 ·unfold Builtin.Str.tooLong
  rw[Int.toNat_natCast]
  simp only [decide_eq_false_iff_not]
  omega
 ·rw[if_neg (by omega),if_neg (by rw[e1];simp),Int.toNat_natCast]
  refine⟨?_,⟨.str _,H,I.tok _,⟨_,rfl⟩,q⟩⟩
  show ((List.replicate n z.cps).foldl (·++·) #[]).size≤sizeLine
  rw[uV]
  have:z.cps.size=z.length:=rfl
  rw[this]
  simp only [Array.size_empty]
  omega
end
end L2
set_option maxHeartbeats 4000000
namespace Na
open PySem L2
def top(i:Nat):Stmt:=PySem.Challenge.pw_balancehall_k08_whole_texts_by_signs.main.body.getD i (.Pass ⟨0,0,0,0⟩)
abbrev pI:Stmt:=top 12
abbrev pJ:Stmt:=top 13
abbrev kZ:Stmt:=top 14
abbrev fo:Stmt:=top 15
abbrev iq:Stmt:=top 17
abbrev fU:Stmt:=top 18
abbrev fV:Stmt:=inClass (top 20) 0
abbrev pK:Stmt:=inClass (top 20) 1
abbrev k7:Stmt:=inClass (top 20) 2
abbrev dS:Stmt:=inClass (top 21) 0
abbrev ir:Stmt:=inClass (top 21) 1
abbrev fW:Stmt:=inClass (top 21) 2
abbrev dU:Stmt:=inClass (top 22) 0
abbrev fq:Stmt:=inClass (top 22) 1
abbrev eL:Stmt:=inClass (top 22) 2
abbrev jh:Stmt:=top 29
abbrev eM:Stmt:=top 30
abbrev dW:Stmt:=inClass (top 31) 0
abbrev ji:Stmt:=inClass (top 31) 1
abbrev jj:Stmt:=inClass (top 31) 2
abbrev pL:Stmt:=inClass (top 32) 0
abbrev uX:Stmt:=inClass (top 32) 1
abbrev uY:Stmt:=inClass (top 32) 2
abbrev jk:Stmt:=inClass (top 32) 3
abbrev jl:Stmt:=inClass (top 32) 4
abbrev k8:Stmt:=inClass (top 32) 5
abbrev gm:Stmt:=inClass (top 32) 6
abbrev jm:Stmt:=inClass (top 32) 7
abbrev mq:Stmt:=inClass (top 32) 8
abbrev iu:Stmt:=inClass (top 32) 9
abbrev pM:Stmt:=inClass (top 32) 10
abbrev k9:Stmt:=inClass (top 32) 11
abbrev jo:Stmt:=inClass (top 32) 12
abbrev jq:Stmt:=inClass (top 32) 13
abbrev iw:Stmt:=top 33
abbrev lh:Stmt:=top 35
abbrev pN:Stmt:=top 36
abbrev pO:Stmt:=top 37
abbrev uZ:Stmt:=top 38
abbrev pP:Stmt:=top 39
abbrev jr:Stmt:=top 40
abbrev u3:Stmt:=top 41
abbrev lj:Stmt:=top 42
abbrev eN:Stmt:=top 43
abbrev ll:Stmt:=top 44
abbrev rq:Stmt:=top 45
abbrev mr:Stmt:=top 55
abbrev pQ:Stmt:=top 46
abbrev lq:Stmt:=top 47
abbrev pR:Stmt:=top 48
abbrev lr:Stmt:=top 49
abbrev pS:Stmt:=top 50
abbrev js:Stmt:=top 51
abbrev lu:Stmt:=top 52
abbrev u4:Stmt:=top 53
abbrev pT:Stmt:=top 54
abbrev pU:Stmt:=inClass (top 3) 0
abbrev Bh:Stmt:=inClass (top 4) 0
theorem TZ:¬(("kind" :Str)="count"):=by decide+kernel
def pV(k:Str)(n:Int):List (Str×V):=dc "count" (.int n) (dc "kind" (.str k) [])
theorem oj(k:Str)(n:Int):(pV k n).lookup ("kind" :Str)=some (.str k):=by
 unfold pV
 rw[aQ,if_neg TZ,aQ,if_pos rfl]
theorem mv(k:Str)(n:Int):(pV k n).lookup ("count" :Str)=some (.int n):=by
 unfold pV
 rw[aQ,if_pos rfl]
theorem u5(k:Str)(n:Int){m:Str}(h1:¬m="count")(h2:¬m="kind"):(pV k n).lookup m=none:=by
 unfold pV
 rw[aQ,if_neg h1,aQ,if_neg h2]
 all_goals rfl
def dX(C:Addr)(H:Hp)(p:Addr)(k:Str)(n:Int):Prop:=∃dx,H p=some (.ins C dx (pV k n))
theorem dX.same{C:Addr}{H H':Hp}{p:Addr}{k:Str}{n:Int}(a:dX C H p k n)(e:aD H H'):dX C H' p k n:=let ⟨dx,h⟩:=a;⟨dx,e _ _ h⟩
def dh(kvs:List (Key×V)):Prop:=∀p∈kvs,∃i,p.2=V.int i
def eS(kvs:List (Key×V))(k:Key):Int:=match b8 kvs k with
 |some (.int i)=>i
 |_=>0
theorem rA{kvs:List (Key×V)}{k:Key}(h:b8 kvs k=none):eS kvs k=0:=by unfold eS;rw[h]
theorem yH{kvs:List (Key×V)}{k:Key}{i:Int}(h:b8 kvs k=some (.int i)):eS kvs k=i:=by unfold eS;rw[h]
def du(kvs:List (Key×V))(k:Key)(n:Int):List (Key×V):=putK kvs k (.int (eS kvs k+n))
def bQ(t:Int)(acc:List (Key×V))(as:List (Str×Int)):List (Key×V):=as.foldl (fun acc p=>du acc (Sum.inr p.1) (p.2*t)) acc
def iK(c:Int)(acc:List (Key×V))(l:List (Key×V))(all:List (Key×V)):List (Key×V):=l.foldl (fun acc p=>du acc p.1 (eS all p.1*c)) acc
theorem wG{kvs:List (Key×V)}{k:Key}{v:V}(e:b8 kvs k=some v):(k,v)∈kvs:=by
 unfold b8 at e
 cases f:kvs.find? fun kv=>decide (kv.1=k) with
 |none=>rw[f] at e;cases e
 |some p=>
  rw[f] at e
  cases e
  have h1:=List.mem_of_find?_eq_some f
  have h2:p.1=k:=by simpa using List.find?_some f
  rw[←h2];exact h1
theorem dh.look{kvs:List (Key×V)}(h:dh kvs){k:Key}{v:V}(e:b8 kvs k=some v):v= .int (eS kvs k):=by
 obtain⟨i,hi⟩:=h _ (wG e)
 have hi:v= .int i:=hi
 subst hi
 rw[yH e]
theorem dh.at{kvs:List (Key×V)}(h:dh kvs)(k:Key):(b8 kvs k).getD (.int 0)= .int (eS kvs k):=by
 cases e:b8 kvs k with
 |none=>rw[rA e];rfl
 |some v=>rw[h.look e];rfl
theorem tF{kvs:List (Key×V)}{k:Key}{v:V}(h:(kvs.map (·.1)).Nodup):((putK kvs k v).map (·.1)).Nodup:=by
 cases e:b8 kvs k with
 |none=>exact AW v h e
 |some x=>
  have ha:(kvs.any fun kv=>decide (kv.1=k))=true:=by rw[dA,e];rfl
  unfold putK
  rw[if_pos ha,List.map_map]
  have:((fun (x:Key×V)=>x.1)∘fun kv=>if kv.1=k then (kv.1,v) else kv)=fun (x:Key×V)=>x.1:=by
   funext y
   simp only [Function.comp]
   split<;>rfl
  rw[this]
  exact h
theorem dh.put{kvs:List (Key×V)}(h:dh kvs)(k:Key)(i:Int):dh (putK kvs k (.int i)):=by
 intro p hp
 unfold putK at hp
 split at hp
 ·obtain⟨q,hq,e⟩:=List.mem_map.mp hp
  subst e
  split
  ·exact⟨i,rfl⟩
  ·exact h q hq
 ·rcases List.mem_append.mp hp with hq|hq
  ·exact h p hq
  ·have e:p=(k,V.int i):=by simpa using hq
   exact⟨i,by rw[e]⟩
theorem dh.add{kvs:List (Key×V)}(h:dh kvs)(k:Key)(n:Int):dh (du kvs k n):=h.put k _
theorem u6(t:Int):∀(as:List (Str×Int)) (acc:List (Key×V)),dh acc→dh (bQ t acc as)
 | [],_,h=>h
 |_::r,_,h=>u6 t r _ (h.add _ _)
theorem yI(t:Int):∀(as:List (Str×Int)) (acc:List (Key×V)),(acc.map (·.1)).Nodup→((bQ t acc as).map (·.1)).Nodup
 | [],_,h=>h
 |_::r,_,h=>yI t r _ (tF h)
theorem u7(t:Int):∀(as:List (Str×Int)) (acc:List (Key×V)),(bQ t acc as).length≤acc.length+as.length
 | [],_=>Nat.le_refl _
 |p::r,acc=>by
  have:=u7 t r (du acc (Sum.inr p.1) (p.2*t))
  have h2:=eo acc (Sum.inr p.1 :Key) (.int (eS acc (Sum.inr p.1)+p.2*t))
  have e:(du acc (Sum.inr p.1) (p.2*t)).length≤acc.length+1:=h2
  show (bQ t (du acc (Sum.inr p.1) (p.2*t)) r).length≤_
  rw[List.length_cons]
  omega
def di(n:Int):Str:=if n=1 then "" else (toString n:Str)
theorem tG:∀n:Nat,n<1000→(di (n:Int)).length≤3:=by decide+kernel
theorem fX{n:Int}(h:1≤n)(h':n≤999):(di n).length≤3:=by
 have:=tG n.toNat (by omega)
 rwa [Int.toNat_of_nonneg (by omega)] at this
def jn(ys:List Str):Str:=Str.join ⟨#[]⟩ ys
theorem join_eq(ys:List Str):Txt.join "" ys=jn ys:=by
 have h:=PyProof.Rows.join_closes (sep:="") (sep':=⟨#[]⟩) (ys:=ys) (by decide+kernel)
 unfold jn
 simpa using h
theorem Bi(x:Str)(r:List Str):jn (x::r)=x++jn r:=PyProof.Rows.join_nil_cons x r
theorem om(x y z:Str):x++y++z=x++(y++z):=by
 show (⟨(x.cps++y.cps)++z.cps⟩:Str)=⟨x.cps++(y.cps++z.cps)⟩
 rw[Array.append_assoc]
theorem Nb:¬(("parts" :Str)="count"):=by decide+kernel
def jt(l:Addr)(n:Int):List (Str×V):=dc "count" (.int n) (dc "parts" (.ref l) [])
theorem fu(l:Addr)(n:Int):(jt l n).lookup ("parts" :Str)=some (.ref l):=by
 unfold jt
 rw[aQ,if_neg Nb,aQ,if_pos rfl]
theorem fw(l:Addr)(n:Int):(jt l n).lookup ("count" :Str)=some (.int n):=by
 unfold jt
 rw[aQ,if_pos rfl]
theorem ju(l:Addr)(n:Int){m:Str}(h1:¬m="count")(h2:¬m="parts"):(jt l n).lookup m=none:=by
 unfold jt
 rw[aQ,if_neg h1,aQ,if_neg h2]
 all_goals rfl
def rB(K:PySem.W.Frag):Sp:=fun vs H Q _=>∃(a:Addr) (ns:List Int) (k:Nat),vs=[.ref a, .int k]∧bF K H a (ns.map V.int)∧ns.length≤63∧∀n,Q (.int n) H
def j5:List Int:=[999979,999983,1000003,1000033,1000037,1000081,1000099]
def ly:Sp:=fun vs H Q _=>∃(c p:Int) (j:Nat),vs=[.int c, .int p]∧j<7∧j5[j]? =some p∧∀n H',aD H H'→Q (.int n) H'
def u9:Sp:=fun vs H Q _=>∃i:Int,vs=[.int i]∧Q (.bl true) H
def e8:Sp:=fun vs H Q _=>∃n:Int,vs=[.int n]∧1≤n∧n≤999∧Q (.str (di n)) H
def yJ(C:Addr):Sp:=fun vs H Q _=>∃(p dx:Addr) (k:Str) (n:Int),vs=[.ref p, .str k, .int n]∧H p=some (.ins C dx [])∧∀H',H' p=some (.ins C dx (pV k n))→(∀b o,H b=some o→b≠p→H' b=some o)→Q .cw H'
def pW(C:Addr):Sp:=fun vs H Q _=>∃(p:Addr) (k:Str) (n:Int),vs=[.ref p]∧dX C H p k n∧k.length≤3∧1≤n∧n≤999∧Q (.str (k++di n)) H
def mw(C:Addr):Sp:=fun vs H Q _=>∃(p:Addr) (k:Str) (n:Int),vs=[.ref p]∧dX C H p k n∧∀d,H d=none→Q (.ref d) (upd H d (.dK [(Sum.inr k, .int n)]))
structure fF(K:PySem.W.Frag)(mg:Str→Option Value)(C:Addr):Prop where
 eC:qJ K C
 pX:cE K C "kind"
 mx:cE K C "count"
 Eh:mg "Atom" =some (.ref C)
 er:mg "len" =none
 yK:mg "str" =none
 vc:mg "int" =none
 Ei:mg "bool" =none
 jv:mg "range" =none
 eO:mg "isinstance" =none
 k1:PySem.W.kitOne K (.type "int") (.type "int")=some true
 k2:PySem.W.kitOne K (.type "int") (.type "bool")=some false
 k3:PySem.W.kitOne K (.type "dict") (.type "dict")=some true
 k4:PySem.W.kitOne K (.type "str") (.type "str")=some true
 k6:PySem.W.kitOne K (.type "list") (.type "list")=some true
theorem eP{x y:Str}(h:x.cps.toList=y.cps.toList):x=y:=by
 cases x;cases y
 congr 1
 exact Array.toList_inj.mp h
theorem Bj(a b n:Nat):Builtin.Str.strSliceIndices (some (a:Int)) (some (b:Int)) 1 n=Builtin.Str.strSliceIndices (some (a:Int)) (some ((min b n:Nat):Int)) 1 n:=by
 have h2:¬((b:Int) <0):=by omega
 have h3:¬(((min b n:Nat):Int) <0):=by omega
 have e2:max (0 :Int) (min (b:Int) (n:Int))=max (0 :Int) (min ((min b n:Nat):Int) (n:Int)):=by omega
 simp only [Builtin.Str.strSliceIndices,h2,h3,if_false,e2,show ((1 :Int) >0)=True from by simp,if_true]
theorem fY(x:Str){a b:Nat}(Hj:a≤b)(ha:a≤x.length):(Txt.slice x (some (a:Int)) (some (b:Int))).cps.toList=(x.cps.toList.drop a).take (b - a):=by
 have hm:a≤min b x.length:=by omega
 have hb:min b x.length≤x.length:=by omega
 have h1:=StrLaws.sliced_plain x hm hb
 have h2:=StrLaws.strSliceIndices_plain hm hb
 have hl:x.cps.toList.length=x.length:=by simp [Str.length]
 unfold Txt.slice
 rw[Bj]
 split
 ·rename_i h
  have h:(Builtin.Str.strSliceIndices (some (a:Int)) (some ((min b x.length:Nat):Int)) 1 x.length).length=x.length:=by simpa using h
  rw[h2,List.length_map,List.length_range] at h
  by_cases hz:x.length=0
  ·have:x.cps.toList=[]:=List.length_eq_zero_iff.mp (by omega)
   rw[this];simp
  ·have e:a=0:=by omega
   subst e
   rw[List.drop_zero,List.take_of_length_le (by omega)]
 ·show (List.filterMap _ _).toArray.toList=_
  rw[h1,List.take_eq_take_iff,List.length_drop,hl]
  omega
def e9(x:Str)(p:Nat):Str:=⟨((x.cps.toList.drop p).take 1).toArray⟩
theorem wH(x:Str){p:Nat}(hp:p≤x.length):Txt.slice x (some (p:Int)) (some ((p:Int)+1))=e9 x p:=by
 apply eP
 have:=fY x (a:=p) (b:=p+1) (by omega) hp
 rw[Nat.add_sub_cancel_left] at this
 exact this
def inR(lo hi:Nat)(s:Str):Bool:=match s.cps.toList with
 | [c]=>decide (lo≤c)&&decide (c≤hi)
 |_=>false
theorem Ej(lo:Nat)(s:Str)(h:s.cps.toList.length≤1):(!decide (s.cps.toList< [lo]))=(match s.cps.toList with| [c]=>decide (lo≤c) |_=>false):=by
 match hh:s.cps.toList,h with
 | [],_=>simp
 | [c],_=>
   have:([c] < [lo])↔c<lo:=by simp [List.cons_lt_cons_iff]
   by_cases hc:c<lo
   ·rw[decide_eq_true (this.mpr hc)];simp;omega
   ·rw[decide_eq_false (fun z=>hc (this.mp z))];simp;omega
 |_::_::_,h=>simp at h
theorem Ek(hi:Nat)(s:Str)(h:s.cps.toList.length≤1):(!decide ([hi] <s.cps.toList))=(match s.cps.toList with| [c]=>decide (c≤hi) |_=>true):=by
 match hh:s.cps.toList,h with
 | [],_=>simp
 | [c],_=>
   have:([hi] < [c])↔hi<c:=by simp [List.cons_lt_cons_iff]
   by_cases hc:hi<c
   ·rw[decide_eq_true (this.mpr hc)];simp;omega
   ·rw[decide_eq_false (fun z=>hc (this.mp z))];simp;omega
 |_::_::_,h=>simp at h
theorem jw(x:Str)(p:Nat):(e9 x p).cps.toList.length≤1:=by
 unfold e9
 simp
 omega
def Not(f:Nat→Bool)(l:List Nat):Prop:=∀c,l.head? =some c→f c=false
def jN(c:Nat):Bool:=decide (48≤c)&&decide (c≤57)
def j6(c:Nat):Bool:=decide (97≤c)&&decide (c≤122)
def iQ(c:Nat):Bool:=decide (65≤c)&&decide (c≤90)
def bA(n:Int):List Nat:=(di n).cps.toList
theorem pY:bA 1=[]:=by decide+kernel
theorem fZ{n:Nat}(h:n≠1):bA (n:Int)=(Nat.toDigits 10 n).map Char.toNat:=by
 unfold bA di
 rw[if_neg (by omega)]
 exact PySem.W.KIN.signs_num n
theorem lz(n:Nat):(bA (n:Int)).all jN=true:=by
 by_cases h:n=1
 ·subst h;rw[show ((1 :Nat):Int)=1 from rfl,pY];rfl
 ·rw[fZ h,List.all_eq_true]
  intro c hc
  obtain⟨ch,xw,e⟩:=List.mem_map.mp hc
  have r:=PyProof.Rows.digit_range (Nat.isDigit_of_mem_toDigits (by decide) (by decide) xw)
  rw[←e]
  simp only [jN,Bool.and_eq_true,decide_eq_true_eq]
  exact r
theorem yL(n:Nat):Nat.toDigits 10 n≠[]:=by
 intro e
 have h:=PySem.toDigits_len_ge 10 n
 rw[e] at h
 exact absurd h (by decide)
theorem yM:∀n:Nat,n≠0→(Nat.toDigits 10 n).head? ≠some '0' :=by
 intro n
 induction n using Nat.strongRecOn with
 |_ m ih=>
  intro h0
  by_cases h:m<10
  ·rw[Nat.toDigits_of_lt_base h]
   have:∀m:Nat,m<10→m≠0→[Nat.digitChar m].head? ≠some '0' :=by decide
   exact this m h h0
  ·have hm:m%10<10:=Nat.mod_lt m (by decide)
   have t:Nat.toDigits 10 (m/10)++Nat.toDigits 10 (m%10)=Nat.toDigits 10 (10*(m/10)+m%10):=Nat.toDigits_append_toDigits (by decide) (by omega) hm
   rw[Nat.div_add_mod] at t
   have:=ih (m/10) (by omega) (by omega)
   rw[←t]
   cases hh:Nat.toDigits 10 (m/10) with
   |nil=>exact absurd hh (yL _)
   |cons c r=>
    rw[hh] at this
    exact this
theorem yN(n:Nat)(h0:n≠0):(bA (n:Int)).head? ≠some 48:=by
 by_cases h:n=1
 ·subst h;rw[show ((1 :Nat):Int)=1 from rfl,pY];simp
 ·rw[fZ h,List.head?_map]
  intro z
  cases e:(Nat.toDigits 10 n).head? with
  |none=>rw[e] at z;cases z
  |some c=>
   rw[e] at z
   have z:c.toNat=48:=by simpa using z
   have:c='0' :=by
    apply Char.ext
    apply UInt32.toNat_inj.mp
    exact z
   exact yM n h0 (by rw[e,this])
theorem Bk(n:Nat):bA (n:Int)≠[49]:=by
 by_cases h:n=1
 ·subst h;rw[show ((1 :Nat):Int)=1 from rfl,pY];simp
 ·rw[fZ h]
  intro z
  have:=PySem.W.KIN.val_back n
  rw[z] at this
  exact h this.symm
theorem Bl(n:Nat)(h:bA (n:Int)=[]):n=1:=by
 by_cases e:n=1
 ·exact e
 ·rw[fZ e] at h
  exact absurd (List.map_eq_nil_iff.mp h) (yL n)
theorem wI{n:Nat}{k:Nat}(hk:0<k)(h:n<10^k):(di (n:Int)).length≤k:=by
 unfold di
 split
 ·exact Nat.zero_le _
 ·rw[PySem.ofString_length]
  show (Nat.repr n).length≤k
  rw[Nat.length_repr_le_iff hk]
  exact h
theorem Bm(n:Nat)(h:n<10^12)(h1:n≠1):PySem.intText? (di (n:Int))=some (n:Int):=by
 have hd:PySem.NumText.AllDigits (di (n:Int)).cps.toList:=by
  intro c hc
  have:=List.all_eq_true.mp (lz n) c hc
  simpa only [jN,Bool.and_eq_true,decide_eq_true_eq] using this
 have mz:(di (n:Int)).cps.toList≠[]:=fun z=>h1 (Bl n z)
 have e:=PySem.intText_digits hd mz (Nat.le_trans (wI (by decide) h) (by decide))
 rw[show (di (n:Int)).cps.toList=_ from fZ h1,PySem.W.KIN.val_back] at e
 exact e
instance Nc (k:Key) (K:List Key):Decidable (k∈K):=decidable_of_iff ((K.any fun x=>decide (x=k))=true) (by simp)
def b9(acc:List (Key×V))(l:List (Key×Int)):List (Key×V):=l.foldl (fun acc p=>du acc p.1 p.2) acc
def gS(K:List Key)(k:Key):List Key:=if k∈K then K else K++[k]
def g8(K L:List Key):List Key:=L.foldl gS K
def sumK(l:List (Key×Int))(j:Key):Int:=(l.map fun p=>if p.1=j then p.2 else 0).sum
theorem Bn(D:List (Key×V))(k j:Key)(n:Int):eS (putK D k (.int n)) j=if j=k then n else eS D j:=by
 unfold eS
 rw[x3]
 by_cases h:j=k
 ·rw[if_pos h,if_pos h]
 ·rw[if_neg h,if_neg h]
theorem lA(D:List (Key×V))(k j:Key)(n:Int):eS (du D k n) j=eS D j+if k=j then n else 0:=by
 unfold du
 rw[Bn]
 by_cases h:j=k
 ·rw[if_pos h,if_pos h.symm,h]
 ·rw[if_neg h,if_neg (Ne.symm h),Int.add_zero]
theorem jx(D:List (Key×V))(k:Key)(v:V):(putK D k v).map (·.1)=gS (D.map (·.1)) k:=by
 unfold gS
 cases e:b8 D k with
 |none=>rw[if_neg (me e),qN v e,List.map_append];rfl
 |some x=>
  rw[if_pos (uA e)]
  have ha:(D.any fun kv=>decide (kv.1=k))=true:=by rw[dA,e];rfl
  unfold putK
  rw[if_pos ha,List.map_map]
  apply List.map_congr_left
  intro p _
  simp only [Function.comp]
  split<;>rfl
theorem jy:∀(l:List (Key×Int)) (acc:List (Key×V)),(b9 acc l).map (·.1)=g8 (acc.map (·.1)) (l.map (·.1))
 | [],_=>rfl
 |p::r,acc=>by
  show (b9 (du acc p.1 p.2) r).map (·.1)=g8 (gS (acc.map (·.1)) p.1) (r.map (·.1))
  rw[jy r]
  unfold du
  rw[jx]
theorem lB:∀(l:List (Key×Int)) (acc:List (Key×V)) (j:Key),eS (b9 acc l) j=eS acc j+sumK l j
 | [],acc,j=>by show eS acc j=eS acc j+0;rw[Int.add_zero]
 |p::r,acc,j=>by
  show eS (b9 (du acc p.1 p.2) r) j=eS acc j+((if p.1=j then p.2 else 0)+sumK r j)
  rw[lB r,lA,Int.add_assoc]
theorem lC:∀(l:List (Key×Int)) (acc:List (Key×V)),dh acc→dh (b9 acc l)
 | [],_,h=>h
 |_::r,_,h=>lC r _ (h.add _ _)
theorem tH:∀(l:List (Key×Int)) (acc:List (Key×V)),(acc.map (·.1)).Nodup→((b9 acc l).map (·.1)).Nodup
 | [],_,h=>h
 |_::r,_,h=>tH r _ (tF h)
theorem ve{D:List (Key×V)}(hI:dh D)(hn:(D.map (·.1)).Nodup):D=(D.map (·.1)).map fun k=>(k,V.int (eS D k)):=by
 rw[List.map_map]
 refine(List.map_id D).symm.trans ?_
 apply List.map_congr_left
 intro p hp
 have e:=qY hn hp
 have:=hI.look e
 show p=(p.1,V.int (eS D p.1))
 rw[←this]
theorem yO{A B:List (Key×V)}(hA:dh A)(hB:dh B)(nA:(A.map (·.1)).Nodup)(hk:A.map (·.1)=B.map (·.1))(hz:∀k,eS A k=eS B k):A=B:=by
 rw[ve hA nA,ve hB (hk▸nA),←hk]
 apply List.map_congr_left
 intro k _
 rw[hz k]
theorem yP{K:List Key}{k j:Key}:j∈gS K k↔j∈K∨j=k:=by
 unfold gS
 split
 ·rename_i h
  exact⟨.inl,fun z=>z.elim id fun e=>e▸h⟩
 ·simp
theorem rC:∀{L K:List Key} {j:Key},j∈g8 K L↔j∈K∨j∈L
 | [],K,j=>by show j∈K↔_;simp
 |x::L,K,j=>by
  show j∈g8 (gS K x) L↔_
  rw[rC,yP,List.mem_cons,or_assoc]
theorem wJ(K M:List Key)(x:Key):g8 K (gS M x)=gS (g8 K M) x:=by
 unfold gS
 by_cases h:x∈M
 ·rw[if_pos h,if_pos (rC.mpr (.inr h))]
 ·rw[if_neg h]
  unfold g8
  rw[List.foldl_append]
  rfl
theorem oq(K:List Key):∀(L M:List Key),g8 K (g8 M L)=g8 (g8 K M) L
 | [],M=>rfl
 |x::L,M=>by
  show g8 K (g8 (gS M x) L)=g8 (gS (g8 K M) x) L
  rw[oq K L,wJ]
theorem vf(f:Key→Int)(j:Key):∀{Ks:List Key},Ks.Nodup→(Ks.map fun k=>if k=j then f k else 0).sum=if j∈Ks then f j else 0
 | [],_=>by simp
 |k::Ks,h=>by
  rw[List.nodup_cons] at h
  rw[List.map_cons,List.sum_cons,vf f j h.2]
  by_cases e:k=j
  ·subst e
   rw[if_pos rfl,if_neg h.1,if_pos (List.mem_cons_self ..),Int.add_zero]
  ·rw[if_neg e,Int.zero_add]
   have:(j∈k::Ks)↔j∈Ks:=by rw[List.mem_cons];exact⟨fun z=>z.elim (fun w=>absurd w.symm e) id, .inr⟩
   by_cases hj:j∈Ks
   ·rw[if_pos hj,if_pos (this.mpr hj)]
   ·rw[if_neg hj,if_neg (fun z=>hj (this.mp z))]
theorem vg{D:List (Key×V)}{j:Key}(h:¬j∈D.map (·.1)):eS D j=0:=by
 cases e:b8 D j with
 |none=>exact rA e
 |some x=>exact absurd (uA e) h
theorem rD(c:Int)(j:Key):∀l:List (Key×Int),sumK (l.map fun p=>(p.1,p.2*c)) j=sumK l j*c
 | []=>by show (0 :Int)=0*c;rw[Int.zero_mul]
 |p::r=>by
  show (if p.1=j then p.2*c else 0)+sumK (r.map fun p=>(p.1,p.2*c)) j=((if p.1=j then p.2 else 0)+sumK r j)*c
  rw[rD c j r,Int.add_mul]
  split
  ·rfl
  ·rw[Int.zero_mul]
theorem add_dict(c:Int){acc:List (Key×V)}(hI:dh acc)(hn:(acc.map (·.1)).Nodup)(l:List (Key×Int)):
  b9 acc ((b9 [] l).map fun p=>(p.1,eS (b9 [] l) p.1*c))=b9 acc (l.map fun p=>(p.1,p.2*c)):=by
 have hD:dh (b9 [] l):=lC l [] fun p hp=>by cases hp
 have nD:((b9 [] l).map (·.1)).Nodup:=tH l [] List.nodup_nil
 refine yO (lC _ _ hI) (lC _ _ hI) (tH _ _ hn) ?_ fun j=>?_
 ·rw[jy,jy,List.map_map,List.map_map]
  show g8 (acc.map (·.1)) ((b9 [] l).map (·.1))=g8 (acc.map (·.1)) (l.map (·.1))
  rw[jy,oq]
  rfl
 ·rw[lB,lB,rD]
  congr 1
  have e:=vf (fun k=>eS (b9 [] l) k*c) j nD
  rw[List.map_map] at e
  have e2:sumK ((b9 [] l).map fun p=>(p.1,eS (b9 [] l) p.1*c)) j=if j∈(b9 [] l).map (·.1) then eS (b9 [] l) j*c else 0:=by
   rw[←e]
   unfold sumK
   rw[List.map_map]
   rfl
  have e3:eS (b9 [] l) j=sumK l j:=by
   rw[lB]
   show (0 :Int)+_=_
   rw[Int.zero_add]
  rw[e2]
  split
  ·rw[e3]
  ·rename_i h
   rw[←e3,vg h,Int.zero_mul]
theorem pZ(t:Int):∀(as:List (Str×Int)) (acc:List (Key×V)),bQ t acc as=b9 acc (as.map fun p=>((Sum.inr p.1 :Key),p.2*t))
 | [],_=>rfl
 |p::r,acc=>pZ t r _
theorem vh(c:Int)(all:List (Key×V)):∀(l acc:List (Key×V)),iK c acc l all=b9 acc (l.map fun p=>(p.1,eS all p.1*c))
 | [],_=>rfl
 |p::r,acc=>vh c all r _
theorem vj(c t:Int)(as:List (Str×Int)){acc:List (Key×V)}(hI:dh acc)(hn:(acc.map (·.1)).Nodup):iK c acc (bQ t [] as) (bQ t [] as)=bQ (t*c) acc as:=by
 rw[vh,pZ,pZ,add_dict c hI hn,List.map_map]
 congr 1
 apply List.map_congr_left
 intro p _
 show ((Sum.inr p.1 :Key),p.2*t*c)=(Sum.inr p.1,p.2*(t*c))
 rw[Int.mul_assoc]
theorem Nd:¬(("text" :Str)="place"):=by decide+kernel
def fe(x:Str)(p:Nat):List (Str×V):=dc "place" (.int p) (dc "text" (.str x) [])
theorem gp(x:Str)(p:Nat):(fe x p).lookup ("text" :Str)=some (.str x):=by
 unfold fe
 rw[aQ,if_neg Nd,aQ,if_pos rfl]
theorem aS(x:Str)(p:Nat):(fe x p).lookup ("place" :Str)=some (.int p):=by
 unfold fe
 rw[aQ,if_pos rfl]
theorem aN(x:Str)(p:Nat){m:Str}(h1:¬m="place")(h2:¬m="text"):(fe x p).lookup m=none:=by
 unfold fe
 rw[aQ,if_neg h1,aQ,if_neg h2]
 all_goals rfl
theorem ix(x:Str)(p q:Nat):dc "place" (.int q) (fe x p)=fe x q:=by
 unfold fe
 simp only [dc,if_neg Nd,if_true]
theorem iy(x:Str)(p:Nat):(fe x p).length<1000:=by
 unfold fe
 simp only [dc,if_neg Nd]
 show 2<1000
 decide
def dv(R:Addr)(H:Hp)(r:Addr)(x:Str)(p:Nat):Prop:=∃dx,H r=some (.ins R dx (fe x p))
def Kept(r:Addr)(H H':Hp):Prop:=∀b o,H b=some o→b≠r→H' b=some o
theorem Kept.refl(r:Addr)(H:Hp):Kept r H H:=fun _ _ h _=>h
theorem Kept.trans{r:Addr}{H H' dP:Hp}(h:Kept r H H')(h':Kept r H' dP):Kept r H dP:=fun b o e n=>h' b o (h b o e n) n
theorem Kept.of{r:Addr}{H H':Hp}(h:aD H H'):Kept r H H':=fun b o e _=>h b o e
def CM(lo hi:Nat):Sp:=fun vs H Q _=>∃s:Str,vs=[.str s]∧s.cps.toList.length≤1∧Q (.bl (inR lo hi s)) H
def vk(R:Addr):Sp:=fun vs H Q _=>∃(r dx:Addr) (x:Str),vs=[.ref r, .str x]∧H r=some (.ins R dx [])∧∀H',dv R H' r x 0→Kept r H H'→Q .cw H'
def gq(R:Addr):Sp:=fun vs H Q _=>∃(r:Addr) (x:Str) (p:Nat),vs=[.ref r]∧dv R H r x p∧p≤x.length∧x.length≤1000∧Q (.str (e9 x p)) H
def lD(k:List Nat):Prop:=∃c r,k=c::r∧iQ c=true∧r.all j6=true∧r.length≤2
structure mB(K:PySem.W.Frag)(mg:Str→Option Value)(C R:Addr)(uK uN:Tok):Prop extends fF K mg C where
 av:qJ K R
 jz:cE K R "text"
 bj:cE K R "place"
 mC:mg "LONGEST_KIND" =some (.int 3 uK)
 kL:mg "LONGEST_COUNT" =some (.int 3 uN)
section
seal jR PS PE PT PW PA PG GB PI PC F9
variable {P:Program}{w:World}{K:PySem.W.Frag}{mg:Str→Option Value}{base:Heap}{C R G Pc Fo:Addr}{uK uN uB uE uM:Tok}
theorem Bo:az ["sign"] ["sign"] (ao pI):=dM
theorem Bp:az ["sign"] ["sign"] (ao pJ):=dM
theorem yQ:az ["sign"] ["sign"] (ao kZ):=dM
theorem tI(lo hi:Nat)(s:Str)(h:s.cps.toList.length≤1):(if (!decide (s.cps.toList< [lo]))=true then (!decide ([hi] <s.cps.toList)) else false)=inR lo hi s:=by
 rw[Ej lo s h,Ek hi s h]
 unfold inR
 match hh:s.cps.toList,h with
 | [],_=>rfl
 | [c],_=>
   show (if decide (lo≤c)=true then decide (c≤hi) else false)=(decide (lo≤c)&&decide (c≤hi))
   cases decide (lo≤c)<;>rfl
 |_::_::_,h=>simp at h
theorem yR(D:Def K mg "is_great" "is_great" pI ["sign"]):a4 P w K mg base 1 "is_great" ["sign"] (CM 65 90):=by
 refine D.eB Bo (fun vs H Q E h=>?_) (fun f ba A outer s H vs Q E hr h=>?_)
 ·obtain⟨n,rfl,_⟩:=h
  rfl
 ·obtain⟨x,rfl,hl,q⟩:=h
  refine⟨_,(aq
     (ay (lV eR eR ax (pv 0) ax))),?_⟩
  rw[←tI 65 90 x hl] at q
  have e1:("A" :Str).cps.toList=[65]:=by decide+kernel
  have e2:("Z" :Str).cps.toList=[90]:=by decide+kernel
  refine⟨_,rfl,_,_,rfl,rfl,_,rfl,?_⟩
  rw[e1]
  cases hh:(!decide (x.cps.toList< [65])) with
  |false=>rw[hh] at q;exact cQ q
  |true=>rw[hh] at q;exact cA ⟨_,_,rfl,rfl,by rw[e2];exact q⟩
theorem yS(D:Def K mg "is_small" "is_small" pJ ["sign"]):a4 P w K mg base 1 "is_small" ["sign"] (CM 97 122):=by
 refine D.eB Bp (fun vs H Q E h=>?_) (fun f ba A outer s H vs Q E hr h=>?_)
 ·obtain⟨n,rfl,_⟩:=h
  rfl
 ·obtain⟨x,rfl,hl,q⟩:=h
  refine⟨_,(aq
     (ay (lV eR eR ax (pv 0) ax))),?_⟩
  rw[←tI 97 122 x hl] at q
  have e1:("a" :Str).cps.toList=[97]:=by decide+kernel
  have e2:("z" :Str).cps.toList=[122]:=by decide+kernel
  refine⟨_,rfl,_,_,rfl,rfl,_,rfl,?_⟩
  rw[e1]
  cases hh:(!decide (x.cps.toList< [97])) with
  |false=>rw[hh] at q;exact cQ q
  |true=>rw[hh] at q;exact cA ⟨_,_,rfl,rfl,by rw[e2];exact q⟩
theorem wK(D:Def K mg "is_figure" "is_figure" kZ ["sign"]):a4 P w K mg base 1 "is_figure" ["sign"] (CM 48 57):=by
 refine D.eB yQ (fun vs H Q E h=>?_) (fun f ba A outer s H vs Q E hr h=>?_)
 ·obtain⟨n,rfl,_⟩:=h
  rfl
 ·obtain⟨x,rfl,hl,q⟩:=h
  refine⟨_,(aq
     (ay (lV eR eR ax (pv 0) ax))),?_⟩
  rw[←tI 48 57 x hl] at q
  have e1:("0" :Str).cps.toList=[48]:=by decide+kernel
  have e2:("9" :Str).cps.toList=[57]:=by decide+kernel
  refine⟨_,rfl,_,_,rfl,rfl,_,rfl,?_⟩
  rw[e1]
  cases hh:(!decide (x.cps.toList< [48])) with
  |false=>rw[hh] at q;exact cQ q
  |true=>rw[hh] at q;exact cA ⟨_,_,rfl,rfl,by rw[e2];exact q⟩
theorem Bq:az ["self","text"] ["self","text"] (ao pL):=dM
theorem yT(D:j0 K R "Reader.__init__" pL ["self","text"] [])(T:mB K mg C R uK uN):fP P w K mg base 1 R ["self","text"] [] (vk R):=by
 refine D.eB Bq (fun vs H Q E h=>?_) (fun f ba A outer s H vs Q E hr h=>?_)
 ·obtain⟨r,dx,x,rfl,_⟩:=h
  rfl
 ·obtain⟨r,dx,x,rfl,hp,q⟩:=h
  refine⟨_,(ai
     (fD (pv 0) (pv 1) rfl)
    (aq
     (fD (pv 0) aj rfl))),?_⟩
  refine⟨_,rfl,_,rfl,r,R,dx,[],rfl,hp,T.av,T.jz,(by show 0<1000;decide),_,rfl,r,R,dx,_,rfl,ag,T.av,T.bj,(by show 1<1000;decide),?_⟩
  refine q _ ⟨dx,ag⟩ fun b o e hb=>?_
  rw[ah hb,ah hb]
  exact e
theorem El:az ["self"] ["self"] (ao uX):=dM
theorem Br(D:bG K R "sign" "Reader.sign" uX ["self"])(T:mB K mg C R uK uN):bW P w K mg base 1 R "sign" ["self"] (gq R):=by
 refine D.eB El (fun vs H Q E h=>?_) (fun f ba A outer s H vs Q E hr h=>?_)
 ·obtain⟨r,x,p,rfl,_⟩:=h
  rfl
 ·obtain⟨r,x,p,rfl,⟨dx,hR⟩,hp,hx,q⟩:=h
  have big:(1000 :Nat)≤sizeLine:=by decide
  refine⟨_,(aq
     (ay (bE dB (bh (pv 0) rfl) (bu (bh (pv 0) rfl)) (bu (aw cf (bh (pv 0) rfl) aj))))),?_⟩
  rw[←wH x hp] at q
  exact⟨_,rfl,r,R,dx,_,_,rfl,hR,T.av,T.jz,gp _ _,_,rfl,r,R,dx,_,_,rfl,hR,T.av,T.bj,aS _ _,_,rfl,_,rfl,r,R,dx,_,_,rfl,hR,T.av,T.bj,aS _ _,_,_,rfl,rfl,_,rfl,x,rfl,by omega,q⟩
theorem Em:az ["self","sign"] ["self","sign"] (ao uY):=dM
theorem ou:az ["self","signs","sign"] ["self","signs"] (ao jk):=dM
theorem wM:az ["self"] ["self"] (ao jl):=dM
theorem yU{n:Int}(h1:1≤n)(h2:n<10^12):∃m:Nat,n=(m:Int)∧m<10^12∧m≠0:=⟨n.toNat,by omega,by omega,by omega⟩
theorem j7:az ["self","longest","begin","written"] ["self","longest"] (ao jo):=dM
theorem yV:az ["self"] ["self"] (ao k9):=dM
theorem a6{r a:Addr}{H H':Hp}{o:HO}(k:Kept r H H')(hr:H' r=some o)(h:H' a=none):H a=none:=by
 cases hh:H a with
 |none=>rfl
 |some o'=>
  by_cases e:a=r
  ·rw[e,hr] at h;cases h
  ·rw[k a o' hh e] at h;cases h
theorem p6:az ["self","begin","kind"] ["self"] (ao pM):=dM
inductive Tr where
 |one (k:List Nat) (n:Int)
 |gr (ts:List Tr) (n:Int)
def cJ:Nat→Tr→List Nat
 |_, .one k n=>k++bA n
 |0, .gr _ _=>[]
 |d+1, .gr ts n=>40::(ts.flatMap (cJ d)++41::bA n)
def kD:Nat→Tr→Prop
 |_, .one k n=>lD k∧1≤n∧n≤999
 |0, .gr _ _=>False
 |d+1, .gr ts n=>ts≠[]∧(∀t∈ts,kD d t)∧1≤n∧n≤999
def dj(C G:Addr):Nat→Hp→Addr→Tr→Prop
 |_,H,p, .one k n=>dX C H p ⟨k.toArray⟩ n
 |0,_,_, .gr _ _=>False
 |d+1,H,p, .gr ts n=>∃dx l ps,H p=some (.ins G dx (jt l n))∧H l=some (.lst (ps.map V.ref))∧Paired (dj C G d H) ps ts
def En(C G:Addr)(d:Nat)(H H':Hp)(a:Addr)(t:Tr):Prop:=∀dP,(∀b o,H b=none→H' b=some o→dP b=some o)→dj C G d dP a t
def Nf(C G L:Addr)(d:Nat)(H H':Hp)(a:Addr)(t:Tr):Prop:=∀dP,(∀b o,H b=none→b≠L→H' b=some o→dP b=some o)→dj C G d dP a t
def HB(C G:Addr)(d:Nat)(H H':Hp)(l:Addr)(ts:List Tr):Prop:=H l=none∧∃ps,H' l=some (.lst (ps.map V.ref))∧∀dP,(∀b o,H b=none→H' b=some o→dP b=some o)→Paired (dj C G d dP) ps ts
structure kM(K:PySem.W.Frag)(mg:Str→Option Value)(C R G:Addr)(uK uN uB uE uM:Tok):Prop extends mB K mg C R uK uN where
 cZ:qJ K G
 j8:cE K G "parts"
 j9:cE K G "count"
 Bs:mg "Group" =some (.ref G)
 d7:mg "GROUP_BEGIN" =some (.str "(" uB)
 kE:mg "GROUP_END" =some (.str ")" uE)
 g9:mg "MOST_GROUPS_AROUND" =some (.int 3 uM)
theorem Bt:("(" :Str)=⟨#[40]⟩:=by decide+kernel
theorem Ga:(")" :Str)=⟨#[41]⟩:=by decide+kernel
theorem Eo{d:Nat}{t:Tr}(h:kD d t):∃c r,cJ d t=c::r∧((iQ c=true∧∃k n,t= .one k n)∨(c=40∧∃ts n,t= .gr ts n)):=by
 cases t with
 |one k n=>
  have h:lD k∧1≤n∧n≤999:=by cases d<;>exact h
  obtain⟨⟨c,r,rfl,hc,_⟩,_⟩:=h
  have e:cJ d (.one (c::r) n)=c::(r++bA n):=by cases d<;>rfl
  exact⟨c,_,e, .inl ⟨hc,_,_,rfl⟩⟩
 |gr ts n=>
  cases d with
  |zero=>exact h.elim
  |succ d=>exact⟨40,_,rfl, .inr ⟨rfl,_,_,rfl⟩⟩
theorem Bu:az ["self","around"] ["self","around"] (ao mq):=dM
def jA(X:Addr):Sp:=fun vs H Q _=>∃(p dx l:Addr) (c:Int) (xs:List V),vs=[.ref p, .ref l, .int c]∧H p=some (.ins X dx [])∧H l=some (.lst xs)∧
 ∀n H',H n=none→H' p=some (.ins X dx (jt n c))→H' n=some (.lst xs)→(∀b o,H b=some o→b≠p→H' b=some o)→Q .cw H'
theorem f6{H:Hp}{a b m:Addr}{o o':HO}(h:(upd (upd H a o) b o') m=none):H m=none:=by
 by_cases e:m=b
 ·rw[e,ag] at h;cases h
 ·rw[ah e] at h
  by_cases e':m=a
  ·rw[e',ag] at h;cases h
  ·rwa [ah e'] at h
theorem mD:az ["self","around","parts"] ["self","around"] (ao iu):=dM
theorem jB{d:Nat}:∀{ts:List Tr},(∀t∈ts,kD d t)→ts.length≤(ts.flatMap (cJ d)).length
 | [],_=>Nat.le_refl _
 |t::ts,h=>by
  obtain⟨c,r,e,_⟩:=Eo (h t (List.mem_cons_self ..))
  have:=jB (d:=d) (ts:=ts) fun u hu=>h u (List.mem_cons_of_mem _ hu)
  rw[List.flatMap_cons,List.length_append,e,List.length_cons,List.length_cons]
  omega
theorem aR{α β:Type}{p q:α→β→Prop}(h:∀a b,p a b→q a b):∀{as:List α} {bs:List β},Paired p as bs→Paired q as bs
 |_,_, .nil=> .nil
 |_,_, .cons x t=> .cons (h _ _ x) (aR h t)
theorem dn{α β:Type}{p:α→β→Prop}{a:α}{b:β}(x:p a b):∀{as:List α} {bs:List β},Paired p as bs→Paired p (as++[a]) (bs++[b])
 |_,_, .nil=> .cons x .nil
 |_,_, .cons y t=> .cons y (dn x t)
theorem rE:az ["self","around","parts"] ["self","around"] (ao jm):=dM
def mE(n:Int):List Nat:=if n=0 then [] else 94::(bA (if n<0 then -n else n)++[if 0<n then 43 else 45])
structure HC(K:PySem.W.Frag)(mg:Str→Option Value)(C R:Addr)(uK uN uC uP uI:Tok):Prop extends mB K mg C R uK uN where
 fG:mg "CHARGE_MARK" =some (.str "^" uC)
 yW:mg "PLUS" =some (.str "+" uP)
 p7:mg "MINUS" =some (.str "-" uI)
theorem HD:("^" :Str)=⟨#[94]⟩:=by decide+kernel
theorem Ng:("+" :Str)=⟨#[43]⟩:=by decide+kernel
theorem Ep:("-" :Str)=⟨#[45]⟩:=by decide+kernel
theorem vm{c b:Nat}(h:c≠b):¬V.str (⟨#[c]⟩:Str)=V.str (⟨#[b]⟩:Str):=by
 intro z
 have z:(⟨#[c]⟩:Str)=⟨#[b]⟩:=by injection z
 exact h (by have:=congrArg (fun s:Str=>s.cps.toList) z;simpa using this)
theorem ow:az ["self","count"] ["self"] (ao jq):=dM
theorem Nh:¬(("pieces" :Str)="charge"):=by decide+kernel
def kF(l:Addr)(n:Int):List (Str×V):=dc "charge" (.int n) (dc "pieces" (.ref l) [])
theorem gu(l:Addr)(n:Int):(kF l n).lookup ("pieces" :Str)=some (.ref l):=by
 unfold kF
 rw[aQ,if_neg Nh,aQ,if_pos rfl]
theorem p8(l:Addr)(n:Int):(kF l n).lookup ("charge" :Str)=some (.int n):=by
 unfold kF
 rw[aQ,if_pos rfl]
theorem rF(l:Addr)(n:Int){m:Str}(h1:¬m="charge")(h2:¬m="pieces"):(kF l n).lookup m=none:=by
 unfold kF
 rw[aQ,if_neg h1,aQ,if_neg h2]
 all_goals rfl
def p9(X:Addr):Sp:=fun vs H Q _=>∃(p dx l:Addr) (c:Int) (xs:List V),vs=[.ref p, .ref l, .int c]∧H p=some (.ins X dx [])∧H l=some (.lst xs)∧
 ∀n H',H n=none→H' p=some (.ins X dx (kF n c))→H' n=some (.lst xs)→(∀b o,H b=some o→b≠p→H' b=some o)→Q .cw H'
abbrev d8:=Int×List Tr
def gv(C G Pc:Addr)(d:Nat)(H:Hp)(p:Addr)(x:d8):Prop:=∃dx l ps,H p=some (.ins Pc dx (jt l x.1))∧H l=some (.lst (ps.map V.ref))∧Paired (dj C G d H) ps x.2
def mF(C G Pc Fo:Addr)(d:Nat)(H:Hp)(f:Addr)(xs:List d8)(n:Int):Prop:=∃dx l ps,H f=some (.ins Fo dx (kF l n))∧H l=some (.lst (ps.map V.ref))∧Paired (gv C G Pc d H) ps xs
def HF(C G Pc L:Addr)(d:Nat)(H H':Hp)(p:Addr)(x:d8):Prop:=∀dP,(∀b o,H b=none→b≠L→H' b=some o→dP b=some o)→gv C G Pc d dP p x
def Er(C G Pc Fo:Addr)(d:Nat)(H H':Hp)(f:Addr)(xs:List d8)(n:Int):Prop:=∀dP,(∀b o,H b=none→H' b=some o→dP b=some o)→mF C G Pc Fo d dP f xs n
def dY(d:Nat)(x:d8):List Nat:=bA x.1++x.2.flatMap (cJ d)
def bU(d:Nat)(xs:List d8):List Nat:=xs.flatMap fun x=>46::dY d x
def wL(d:Nat):List d8→Int→List Nat
 | [],_=>[101,94,45]
 |x::r,n=>x.2.flatMap (cJ d)++(bU d r++mE n)
def sJ(d:Nat)(x:d8):Prop:=x.2≠[]∧(∀t∈x.2,kD d t)∧1≤x.1∧x.1≤999
def yX(d:Nat):List d8→Int→Prop
 | [],n=>n= -1
 |x::r,n=>x.1=1∧(∀y∈x::r,sJ d y)∧ -999≤n∧n≤999
structure hU(K:PySem.W.Frag)(mg:Str→Option Value)(C R G Pc Fo:Addr)(uK uN uB uE uM uC uP uI uD uL uT:Tok):Prop extends kM K mg C R G uK uN uB uE uM,HC K mg C R uK uN uC uP uI where
 cp:qJ K Pc
 bx:qJ K Fo
 j':cE K Pc "parts"
 ki:cE K Pc "count"
 gw:cE K Fo "pieces"
 mG:cE K Fo "charge"
 vn:mg "Piece" =some (.ref Pc)
 oy:mg "Formula" =some (.ref Fo)
 yY:mg "Reader" =some (.ref R)
 hV:mg "PIECE_DOT" =some (.str "." uD)
 iZ:mg "ELECTRON" =some (.str "e^-" uL)
 mH:mg "LONGEST_TEXT" =some (.int 400 uT)
 n_list:mg "list" =none
 CN:mg "abs" =none
theorem eE:("e^-" :Str)=⟨#[101,94,45]⟩:=by decide+kernel
theorem rG:az ["self"] ["self"] (ao gm):=dM
theorem qa(d:Nat):∀xs:List d8,xs.length≤(bU d xs).length
 | []=>Nat.le_refl _
 |y::r=>by
  have ih:=qa d r
  show r.length+1≤(46::dY d y++bU d r).length
  rw[List.length_append,List.length_cons]
  omega
theorem LH:("." :Str)=⟨#[46]⟩:=by decide+kernel
theorem mI:az ["self","pieces","count"] ["self"] (ao k8):=dM
theorem wN:az ["text"] ["text"] (ao jh):=dM
theorem i0:az ["text","reader","formula"] ["text"] (ao iw):=dM
theorem Bv:∀(w:List Nat),w.all jN=true→w.head? ≠some 48→w≠[]→∃n:Nat,0<n∧(Nat.toDigits 10 n).map Char.toNat=w∧n<10^w.length:=by
 have one:∀c:Nat,c<10→(Nat.toDigits 10 c).map Char.toNat=[c+48]:=by decide
 intro w
 induction hl:w.length generalizing w with
 |zero=>intro _ _ h;exact absurd (List.length_eq_zero_iff.mp hl) h
 |succ m ih=>
  intro ha hh _
  obtain⟨v,c,rfl⟩:∃v c,w=v++[c]:=⟨w.dropLast,w.getLast (by intro z;rw[z] at hl;cases hl),(List.dropLast_concat_getLast _).symm⟩
  rw[List.all_append,Bool.and_eq_true] at ha
  obtain⟨ha,hc⟩:=ha
  have hc:48≤c∧c≤57:=by simpa [jN] using hc
  have hv:v.length=m:=by simpa using hl
  cases v with
  |nil=>
   have VI:c≠48:=fun z=>hh (by rw[z];rfl)
   refine⟨c - 48,by omega,?_,by have:m=0:=hv.symm;subst this;omega⟩
   rw[one (c - 48) (by omega)]
   show [c - 48+48]=[c]
   rw[Nat.sub_add_cancel hc.1]
  |cons b r=>
   obtain⟨n,n0,en,nl⟩:=ih (b::r) hv ha (fun z=>hh (by simpa using z)) (by simp)
   refine⟨10*n+(c - 48),by omega,?_,?_⟩
   ·rw[←Nat.toDigits_append_toDigits (by decide) n0 (by omega:c - 48<10),List.map_append,en,one (c - 48) (by omega),Nat.sub_add_cancel hc.1]
   ·have:m+1=(b::r).length+1:=by omega
    rw[Nat.pow_succ]
    omega
theorem Es{w:List Nat}(ha:w.all jN=true)(hh:w.head? ≠some 48)(h1:w≠[49]):∃n:Nat,bA (n:Int)=w∧0<n∧(w=[]∧n=1∨w≠[]∧n≠1)∧n<10^(w.length+1)∧(w≠[]→n<10^w.length):=by
 by_cases hw:w=[]
 ·subst hw
  exact⟨1,pY,by decide, .inl ⟨rfl,rfl⟩,by decide,fun z=>absurd rfl z⟩
 ·obtain⟨n,n0,en,nl⟩:=Bv w ha hh hw
  have n1:n≠1:=fun z=>h1 (by rw[←en,z];rfl)
  exact⟨n,by rw[fZ n1,en],n0, .inr ⟨hw,n1⟩,Nat.lt_of_lt_of_le nl (Nat.pow_le_pow_right (by decide) (by omega)),fun _=>nl⟩
abbrev sf(x:Str)(p:Nat):List Nat:=x.cps.toList.drop p
def kN(lg:Nat)(u:List Nat)(n:Int)(v:List Nat):Prop:=u=bA n++v∧1≤n∧n<10^lg∧(bA n).length≤lg∧(Not jN v∨(bA n).length=lg)
def rH(u v:List Nat):Prop:=v=u∧u.head? =some 48∨u=49::v∧Not jN v
def kG(u k:List Nat)(n:Int)(v:List Nat):Prop:=∃w,u=k++w∧lD k∧(k.length=3∨Not j6 w)∧kN 3 w n v
def vo(u v:List Nat):Prop:=v=u∧Not iQ u∨∃k w,u=k++w∧lD k∧(k.length=3∨Not j6 w)∧rH w v
def More(u:List Nat):Prop:=∃c,u.head? =some c∧(iQ c=true∨c=40)
inductive Sq(p:List Nat→Tr→List Nat→Prop)(u:List Nat):List Tr→List Nat→Prop
 |one (t:Tr) (v:List Nat) (h:p u t v):Sq p u [t] v
 |snoc (ts:List Tr) (w:List Nat) (t:Tr) (v:List Nat) (s:Sq p u ts w) (m:More w) (h:p w t v):Sq p u (ts++[t]) v
def Bw(p:List Nat→Tr→List Nat→Prop)(u:List Nat)(ts:List Tr)(v:List Nat):Prop:=Sq p u ts v∧¬More v
def Gb(p:List Nat→Tr→List Nat→Prop)(b:List Nat→List Nat→Prop)(u v:List Nat):Prop:=b u v∨∃ts w,Sq p u ts w∧More w∧b w v
def nj:Nat→List Nat→Tr→List Nat→Prop
 |0,u,t,v=>∃k n,t= .one k n∧kG u k n v
 |d+1,u,t,v=>(u.head? ≠some 40∧∃k n,t= .one k n∧kG u k n v)∨∃u' ts n w,u=40::u'∧t= .gr ts n∧Bw (nj d) u' ts (41::w)∧kN 3 w n v
def Et:Nat→List Nat→List Nat→Prop
 |0,u,v=>vo u v
 |d+1,u,v=>(u.head? ≠some 40∧vo u v)∨∃u',u=40::u'∧(Gb (nj d) (Et d) u' v∨(∃ts,Bw (nj d) u' ts v∧v.head? ≠some 41)∨∃ts w,Bw (nj d) u' ts (41::w)∧rH w v)
def LI(u:List Nat)(n:Int)(v:List Nat):Prop:=(u.head? ≠some 94∧n=0∧v=u)∨∃u' m w,u=94::u'∧kN 3 u' m w∧(w=45::v∧n= -m∨w=43::v∧n=m)
def R3(u v:List Nat):Prop:=∃u',u=94::u'∧(rH u' v∨∃m,kN 3 u' m v∧v.head? ≠some 45∧v.head? ≠some 43)
def R4(u v:List Nat):Prop:=u=101::v∧v.head? ≠some 94∨u=101::94::v∧v.head? ≠some 45
inductive Aw(u:List Nat):List d8→List Nat→Prop
 |one (ts:List Tr) (v:List Nat) (h:Bw (nj 4) u ts v):Aw u [(1,ts)] v
 |snoc (ps:List d8) (w:List Nat) (m:Int) (w1:List Nat) (ts:List Tr) (v:List Nat) (s:Aw u ps (46::w)) (n:kN 3 w m w1) (h:Bw (nj 4) w1 ts v):Aw u (ps++[(m,ts)]) v
def Eu(u:List Nat)(xs:List d8)(n:Int)(v:List Nat):Prop:=(u=101::94::45::v∧xs=[]∧n= -1)∨u.head? ≠some 101∧∃w,Aw u xs w∧w.head? ≠some 46∧LI w n v
def Ni(u v:List Nat):Prop:=R4 u v∨u.head? ≠some 101∧(Gb (nj 4) (Et 4) u v∨(∃ps w,Aw u ps (46::w)∧(rH w v∨∃m w1,kN 3 w m w1∧Gb (nj 4) (Et 4) w1 v))∨∃ps w,Aw u ps w∧w.head? ≠some 46∧R3 w v)
def R5(u v:List Nat):Prop:=Ni u v∨∃xs n,Eu u xs n v∧v≠[]
theorem kj(x:Str)(p:Nat):(sf x p).length=x.length - p:=by
 unfold sf
 rw[List.length_drop]
 simp [Str.length]
theorem CO(x:Str)(p:Nat):e9 x p=⟨((sf x p).take 1).toArray⟩:=rfl
theorem eI{x:Str}{p c:Nat}:(V.str (e9 x p)=V.str (⟨#[c]⟩:Str))↔(sf x p).head? =some c:=by
 rw[CO]
 cases hs:sf x p with
 |nil=>
  refine⟨fun z=>?_,fun z=>by cases z⟩
  have z:(⟨((([]:List Nat)).take 1).toArray⟩:Str)=⟨#[c]⟩:=by injection z
  have:=congrArg (fun s:Str=>s.cps.toList) z
  simp at this
 |cons b r=>
  refine⟨fun z=>?_,fun z=>?_⟩
  ·have z:(⟨((b::r).take 1).toArray⟩:Str)=⟨#[c]⟩:=by injection z
   have:=congrArg (fun s:Str=>s.cps.toList) z
   simpa using this
  ·have:b=c:=by simpa using z
   rw[this]
   rfl
theorem dC{x:Str}{p c:Nat}(h:(sf x p).head? =some c):sf x p=c::sf x (p+1)∧p+1≤x.length:=by
 have hl:=kj x p
 have ed:sf x (p+1)=(sf x p).drop 1:=by unfold sf;rw[List.drop_drop]
 cases hs:sf x p with
 |nil=>rw[hs] at h;cases h
 |cons b r=>
  rw[hs] at h hl ed
  have:b=c:=by simpa using h
  rw[List.length_cons] at hl
  exact⟨by rw[ed,this];rfl,by omega⟩
theorem mJ{x:Str}{p:Nat}(lo hi:Nat):inR lo hi (e9 x p)=true↔∃c,(sf x p).head? =some c∧(decide (lo≤c)&&decide (c≤hi))=true:=by
 rw[CO]
 cases hs:sf x p with
 |nil=>exact⟨fun z=>(by cases z),fun⟨c,z,_⟩=>(by cases z)⟩
 |cons b r=>
  refine⟨fun z=>⟨b,rfl,z⟩,fun⟨c,z,h⟩=>?_⟩
  have:b=c:=by simpa using z
  rw[this]
  exact h
theorem tJ{x:Str}{p lo hi:Nat}(h:inR lo hi (e9 x p)=false):Not (fun c=>decide (lo≤c)&&decide (c≤hi)) (sf x p):=fun c z=>by
 cases hb:(decide (lo≤c)&&decide (c≤hi)) with
 |false=>exact hb
 |true=>rw[(mJ lo hi).mpr ⟨c,z,hb⟩] at h;cases h
theorem yZ{x:Str}{p j:Nat}(h:p+j≤x.length):∃w,sf x p=w++sf x (p+j)∧w.length=j∧Txt.slice x (some (p:Int)) (some ((p+j:Nat):Int))=⟨w.toArray⟩:=by
 have hl:=kj x p
 have ed:sf x (p+j)=(sf x p).drop j:=by unfold sf;rw[List.drop_drop]
 refine⟨(sf x p).take j,by rw[ed,List.take_append_drop],by rw[List.length_take];omega,?_⟩
 apply eP
 rw[fY x (by omega) (by omega),Nat.add_sub_cancel_left]
variable {HE NF TL:Addr}
structure qb(K:PySem.W.Frag)(mg:Str→Option Value)(HE NF TL:Addr):Prop where
 kH:mg "HallError" =some (.ref HE)
 jC:CI K HE
 rJ:mg "NoFormula" =some (.ref NF)
 Gd:mg "TooLong" =some (.ref TL)
 Bx:PySem.W.takerIn K NF "place" =some none
 Ew:PySem.W.takerIn K TL "many" =some none
theorem rK{n:Int}(h0:0≤n)(h:n<10^50):(toString n:Str).length≤50:=by
 obtain⟨m,rfl⟩:=Int.eq_ofNat_of_zero_le h0
 rw[PySem.ofString_length]
 show (Nat.repr m).length≤50
 rw[Nat.length_repr_le_iff (by decide)]
 omega
theorem rL{n:Int}(h0:0≤n)(h:n<10^50):n.natAbs.log2<1920:=by
 by_cases e:n.natAbs=0
 ·rw[e];decide
 ·have:=(Nat.log2_lt e (k:=200)).mpr (by omega)
  omega
def mK(X:Addr)(fld:Str):Sp:=fun vs H Q _=>∃(e:Addr) (n:Int),vs=[.ref e, .int n]∧H e=some (rh e X none)∧0≤n∧n<10^50∧
 ∀dx H',H dx=none→dx≠e→H' e=some (rh e X (some dx))→H' dx=some (xE dx [(fld, .int n)])→(∀b o,H b=some o→b≠e→H' b=some o)→Q .cw H'
theorem HG:az ["self","place"] ["self","place"] (ao Bh):=dM
theorem By:az ["self","many"] ["self","many"] (ao pU):=dM
theorem Ex(D:tD K mg "NoFormula" NF HE "NoFormula.__init__" Bh ["self","place"])(T:qb K mg HE NF TL):g7 P w K mg base 1 "NoFormula" NF HE ["self","place"] (mK NF "place"):=by
 obtain⟨f0,_,_,Z,_⟩:=id D
 refine D.eB HG (fun vs H Q E h=>?_) (fun f ba A outer s H vs Q E hr h=>?_)
 ·obtain⟨e,n,rfl,_⟩:=h
  rfl
 ·obtain⟨e,n,rfl,he,n0,n1,q⟩:=h
  have big:(2000 :Nat)≤sizeLine:=by decide
  have z1:=rK n0 n1
  have y1:("no formula, by place " :Str).length=21:=by decide+kernel
  have y2:(" of the text" :Str).length=12:=by decide+kernel
  have y0:(Str.empty).length=0:=rfl
  refine⟨_,(ai
     (bB (rl rfl T.kH T.jC (pv 0) (uU (ip ax (ip (yD (pv 1)) (ip ax yE))))))
    (aq
     (uS (pv 0) (pv 1) rfl))),?_⟩
  refine⟨_,rfl,_,rfl,?_,_,rfl, .inl ⟨_,rfl,rL n0 n1,_,rfl,?_,_,rfl,?_,?_,e,NF,HE,f0,none,rfl,Z,he,?_⟩⟩
  any_goals (simp only [bb,y0,y1,y2];omega)
  refine⟨_,rfl,_,rfl,e,NF,HE,f0,rfl,Z,T.Bx, .inl ⟨he,fun dx mL kO=>?_⟩⟩
  refine q dx _ mL kO ag (by rw[ah kO,ag]) fun b o z nb=>?_
  rw[ah nb,ah (af z mL)]
  exact z
theorem y3(D:tD K mg "TooLong" TL HE "TooLong.__init__" pU ["self","many"])(T:qb K mg HE NF TL):g7 P w K mg base 1 "TooLong" TL HE ["self","many"] (mK TL "many"):=by
 obtain⟨f0,_,_,Z,_⟩:=id D
 refine D.eB By (fun vs H Q E h=>?_) (fun f ba A outer s H vs Q E hr h=>?_)
 ·obtain⟨e,n,rfl,_⟩:=h
  rfl
 ·obtain⟨e,n,rfl,he,n0,n1,q⟩:=h
  have big:(2000 :Nat)≤sizeLine:=by decide
  have z1:=rK n0 n1
  have y1:("the text is too long to be read: " :Str).length=33:=by decide+kernel
  have y2:(" signs" :Str).length=6:=by decide+kernel
  have y0:(Str.empty).length=0:=rfl
  refine⟨_,(ai
     (bB (rl rfl T.kH T.jC (pv 0) (uU (ip ax (ip (yD (pv 1)) (ip ax yE))))))
    (aq
     (uS (pv 0) (pv 1) rfl))),?_⟩
  refine⟨_,rfl,_,rfl,?_,_,rfl, .inl ⟨_,rfl,rL n0 n1,_,rfl,?_,_,rfl,?_,?_,e,TL,HE,f0,none,rfl,Z,he,?_⟩⟩
  any_goals (simp only [bb,y0,y1,y2];omega)
  refine⟨_,rfl,_,rfl,e,TL,HE,f0,rfl,Z,T.Ew, .inl ⟨he,fun dx mL kO=>?_⟩⟩
  refine q dx _ mL kO ag (by rw[ah kO,ag]) fun b o z nb=>?_
  rw[ah nb,ah (af z mL)]
  exact z
def Rz(NF:Addr)(H:Hp)(r:Addr)(E:XK)(e:Nat):Prop:=∀b dx H',H b=none→H dx=none→H' b=some (wB b NF (some dx))→H' dx=some (xE dx [("place", .int (e:Int))])→Kept r H H'→E (.ref NF) (some dx) H'
theorem Rz.on{NF:Addr}{H H1:Hp}{r:Addr}{E:XK}{e:Nat}{o:HO}(h:Rz NF H r E e)(k:Kept r H H1)(hr:H1 r=some o):Rz NF H1 r E e:=fun b dx H' nb nd h1 h2 k2=>h b dx H' (a6 k hr nb) (a6 k hr nd) h1 h2 (k.trans k2)
def iz(NF R:Addr):Sp:=fun vs H Q E=>∃(r:Addr) (x:Str) (p c:Nat),vs=[.ref r, .str ⟨#[c]⟩]∧dv R H r x p∧p≤x.length∧x.length≤1000∧
 ((sf x p).head? =some c→∀H',dv R H' r x (p+1)→Kept r H H'→Q .cw H')∧((sf x p).head? ≠some c→Rz NF H r E p)
def mM(NF R:Addr):Sp:=fun vs H Q E=>∃(r:Addr) (x:Str) (p:Nat) (s:Str),vs=[.ref r, .str s]∧s.cps.all (· <128)=true∧dv R H r x p∧p≤x.length∧x.length≤1000∧
 (sf x p=s.cps.toList++sf x (p+s.length)→p+s.length≤x.length→∀H',dv R H' r x (p+s.length)→Kept r H H'→Q .cw H')∧
 (∀i c,s.cps.toList[i]? =some c→sf x p=s.cps.toList.take i++sf x (p+i)→(sf x (p+i)).head? ≠some c→p+i≤x.length→Rz NF H r E (p+i))
def mN(NF R:Addr):Sp:=fun vs H Q E=>∃(r:Addr) (x:Str) (p:Nat),vs=[.ref r]∧dv R H r x p∧p≤x.length∧x.length≤1000∧(p=x.length→Q .cw H)∧(p<x.length→Rz NF H r E p)
theorem rM{H:Hp}{r:Addr}{E:XK}{e:Nat}(q:Rz NF H r E e){b dx:Addr}{H5:Hp}(hb:H b=none)(hd:H dx=none)(kO:dx≠b)(wO:H5 dx=some (xE dx [("place", .int (e:Int))]))(k5:∀b' o,(upd H b (rh b NF none)) b'=some o→b'≠b→H5 b'=some o):E (.ref NF) (some dx) (upd H5 b (wB b NF (some dx))):=by
 refine q b dx _ hb hd ag (by rw[ah kO];exact wO) fun b' o z _=>?_
 have Ey:b'≠b:=af z hb
 rw[ah Ey]
 exact k5 _ _ (by rw[ah Ey];exact z) Ey
theorem y4(D:bG K R "take" "Reader.take" uY ["self","sign"])(T:mB K mg C R uK uN)(TE:qb K mg HE NF TL)(c1:bW P w K mg base 1 R "sign" ["self"] (gq R))(c2:g7 P w K mg base 1 "NoFormula" NF HE ["self","place"] (mK NF "place")):a8 P w K mg base 3 R "take" ["self","sign"] (iz NF R):=by
 obtain⟨_,_,ar⟩:=c1
 obtain⟨_,_,aE⟩:=c2
 refine D.iJ Em (fun vs H Q E h=>?_) (fun f ba A outer s H vs Q E hr h=>?_)
 ·obtain⟨r,x,p,c,rfl,_⟩:=h
  rfl
 ·obtain⟨r,x,p,c,rfl,⟨dx,hR⟩,hp,hx,q,qE⟩:=h
  refine⟨_,(ai
     (aY (au uu (bq (pv 0) T.av ar.m ar.ok (hr.mono (by decide)) ar.b .nil aM) (pv 1) (aA _))
      (aq
       (fT rfl a5 (fS aE.z aE.ok (hr.mono (by decide)) rfl aE.g aE.kp aE.b (aa (bh (pv 0) rfl) ak))))
      aK)
    (aq
     (ig (pv 0) aj o6))),?_⟩
  refine⟨_,rfl,r,dx,_,rfl,hR,aN _ _ (by decide+kernel) (by decide+kernel),r,x,p,rfl,⟨dx,hR⟩,hp,hx,_,rfl,rfl,_,rfl,?_⟩
  by_cases hc:(sf x p).head? =some c
  ·refine uz (eI.mpr hc) ?_
   refine⟨_,rfl,r,R,dx,_,_,rfl,hR,T.av,T.bj,aS _ _,_,_,rfl,rfl,dx,_,hR,iy _ _,?_⟩
   refine q hc _ ⟨dx,?_⟩ fun b o e hb=>?_
   ·rw[ag]
    exact congrArg (fun z=>some (HO.ins R dx z)) (ix x p (p+1))
   ·rw[ah hb];exact e
  ·have ne:¬V.str (e9 x p)=V.str (⟨#[c]⟩:Str):=fun z=>hc (eI.mp z)
   rw[decide_eq_false ne]
   refine cA ⟨_,rfl,r,R,dx,_,_,rfl,hR,T.av,T.bj,aS _ _,(by show 1≤100;decide),fun b hb=>?_⟩
   refine⟨b,_,rfl,ag,by omega,by omega,fun d5 H5 mL kO y7 wO k5=>⟨rfl,b,NF,HE,_,some d5,rfl,aE.z,y7,?_⟩⟩
   exact rM (qE hc) hb (by rw[ah kO] at mL;exact mL) kO wO k5
variable {HE NF TL:Addr}
theorem rN(D:bG K R "take_all" "Reader.take_all" jk ["self","signs"])(T:mB K mg C R uK uN)(c1:a8 P w K mg base 3 R "take" ["self","sign"] (iz NF R)):a8 P w K mg base 4 R "take_all" ["self","signs"] (mM NF R):=by
 obtain⟨_,_,aH⟩:=c1
 refine D.iJ ou (fun vs H Q E h=>?_) (fun f ba A outer s H vs Q E hr h=>?_)
 ·obtain⟨r,x,p,sg,rfl,_⟩:=h
  rfl
 ·obtain⟨r,x,p,sg,rfl,ha,hR,hp,hx,q,qE⟩:=h
  refine⟨_,(aq
     (eA mn rfl (yu (pv 1)) (aX (i:=2) ou.nd rfl (Or.inl rfl))
      (aq
       (bB (bV (pv 0) T.av aH.m aH.ok (hr.mono (by decide)) aH.b .nil a5 (aa (pv 2) ak)))))),?_⟩
  refine⟨_,rfl,sg,rfl,ha,A7 (fun i σ H'=>∃v:Option V,σ=[some (.ref r),some (.str sg),v]∧dv R H' r x (p+i)∧Kept r H H'∧sf x p=sg.cps.toList.take i++sf x (p+i)∧p+i≤x.length) ⟨none,rfl,hR,Kept.refl r H,rfl,hp⟩ ?_ ?_⟩
  ·rintro i c σ H' hc ⟨v,rfl,⟨dx,dQ⟩,kk,es,LJ⟩
   have vY:sg.cps.toList[i]? =some c:=by rw[Array.getElem?_toList];exact hc
   refine⟨_,rfl,r,dx,_,rfl,dQ,aN _ _ (by decide+kernel) (by decide+kernel),_,rfl,r,x,p+i,c,rfl,⟨dx,dQ⟩,LJ,hx,fun hd dP Nj T1=>?_,fun hd=>(qE i c vY es hd LJ).on kk dQ⟩
   obtain⟨e1,e2⟩:=dC hd
   refine⟨_,rfl,Nj,kk.trans T1,?_,e2⟩
   rw[es,e1,List.take_add_one,vY,List.append_assoc]
   rfl
  ·rintro σ H' ⟨v,rfl,dQ,kk,es,LJ⟩
   have hl:sg.cps.toList.length=sg.length:=by simp [Str.length]
   refine q ?_ LJ _ dQ kk
   have:sg.cps.toList.take sg.length=sg.cps.toList:=List.take_of_length_le (by omega)
   rw[←this]
   exact es
theorem rO(D:bG K R "take_end" "Reader.take_end" jl ["self"])(T:mB K mg C R uK uN)(TE:qb K mg HE NF TL)(c2:g7 P w K mg base 1 "NoFormula" NF HE ["self","place"] (mK NF "place")):a8 P w K mg base 3 R "take_end" ["self"] (mN NF R):=by
 obtain⟨_,_,aE⟩:=c2
 refine D.iJ wM (fun vs H Q E h=>?_) (fun f ba A outer s H vs Q E hr h=>?_)
 ·obtain⟨r,x,p,rfl,_⟩:=h
  rfl
 ·obtain⟨r,x,p,rfl,⟨dx,hR⟩,hp,hx,q,qE⟩:=h
  refine⟨_,(aq
     (aY (au lU (bh (pv 0) rfl) (a9 bP rfl T.er cH (aa (bh (pv 0) rfl) ak)) (aA _))
      (aq
       (fT rfl a5 (fS aE.z aE.ok (hr.mono (by decide)) rfl aE.g aE.kp aE.b (aa (bh (pv 0) rfl) ak))))
      aK)),?_⟩
  refine⟨_,rfl,r,R,dx,_,_,rfl,hR,T.av,T.bj,aS _ _,_,rfl,r,R,dx,_,_,rfl,hR,T.av,T.jz,gp _ _,x,rfl,Nat.le_trans hx (by decide),_,_,rfl,rfl,_,rfl,?_⟩
  by_cases hc:p<x.length
  ·refine bY (by omega) ⟨_,rfl,r,R,dx,_,_,rfl,hR,T.av,T.bj,aS _ _,(by show 1≤100;decide),fun b hb=>?_⟩
   refine⟨b,_,rfl,ag,by omega,by omega,fun d5 H5 mL kO y7 wO k5=>⟨rfl,b,NF,HE,_,some d5,rfl,aE.z,y7,?_⟩⟩
   exact rM (qE hc) hb (by rw[ah kO] at mL;exact mL) kO wO k5
  ·exact bT (by omega) (q (by omega))
def oz(NF R:Addr):Sp:=fun vs H Q E=>∃(r:Addr) (x:Str) (p lg:Nat),vs=[.ref r, .int (lg:Int)]∧dv R H r x p∧p≤x.length∧x.length≤1000∧2≤lg∧lg≤12∧
 (∀n q H',kN lg (sf x p) n (sf x q)→p≤q→q≤x.length→dv R H' r x q→Kept r H H'→Q (.int n) H')∧(∀e,rH (sf x p) (sf x e)→p≤e→e≤x.length→Rz NF H r E e)
def eU(NF R:Addr):Sp:=fun vs H Q E=>∃(r:Addr) (x:Str) (p:Nat),vs=[.ref r]∧dv R H r x p∧p≤x.length∧x.length≤1000∧
 (∀n q H',kN 3 (sf x p) n (sf x q)→p≤q→q≤x.length→dv R H' r x q→Kept r H H'→Q (.int n) H')∧(∀e,rH (sf x p) (sf x e)→p≤e→e≤x.length→Rz NF H r E e)
theorem tK(D:bG K R "read_number" "Reader.read_number" jo ["self","longest"])(T:mB K mg C R uK uN)(TE:qb K mg HE NF TL)(c1:bW P w K mg base 1 R "sign" ["self"] (gq R))(c2:a4 P w K mg base 1 "is_figure" ["sign"] (CM 48 57))(c3:g7 P w K mg base 1 "NoFormula" NF HE ["self","place"] (mK NF "place")):a8 P w K mg base 3 R "read_number" ["self","longest"] (oz NF R):=by
 obtain⟨_,_,ar⟩:=c1
 obtain⟨_,_,fz⟩:=c2
 obtain⟨_,_,aE⟩:=c3
 refine D.iJ j7 (fun vs H Q E h=>?_) (fun f ba A outer s H vs Q E hr h=>?_)
 ·obtain⟨r,x,p,lg,rfl,_⟩:=h
  rfl
 ·obtain⟨r,x,p,lg,rfl,⟨dx,hR⟩,hp,hx,l2,T2,q,qE⟩:=h
  have big:(1000 :Nat)≤sizeLine:=by decide
  have e0:("0" :Str)=⟨#[48]⟩:=by decide+kernel
  have e1:("1" :Str)=⟨#[49]⟩:=by decide+kernel
  refine⟨_,(ai
     (aY (au aW (bq (pv 0) T.av ar.m ar.ok (hr.mono (by decide)) ar.b .nil aM) ax (aA _))
      (aq
       (fT rfl a5 (fS aE.z aE.ok (hr.mono (by decide)) rfl aE.g aE.kp aE.b (aa (bh (pv 0) rfl) ak))))
      aK)
    (ai
     (aL (i:=2) j7.nd rfl (Or.inl rfl) (bh (pv 0) rfl))
    (ai
     (gX mn (PW.pt (bX (dw (aJ fz.ok (hr.mono (by decide)) rfl fz.g fz.kp fz.b .nil aM (aa (bq (pv 0) T.av ar.m ar.ok (hr.mono (by decide)) ar.b .nil aM) ak))) (bZ (au lU (aw jU (bh (pv 0) rfl) (pv 2)) (pv 1) (aA _)))))
      (aq
       (ig (pv 0) aj o6)))
    (ai
     (aL (i:=3) j7.nd rfl (Or.inl rfl) (bE dB (bh (pv 0) rfl) (bu (pv 2)) (bu (bh (pv 0) rfl))))
    (ai
     (aY (au aW (pv 3) ax (aA _))
      (aq
       (fT rfl a5 (fS aE.z aE.ok (hr.mono (by decide)) rfl aE.g aE.kp aE.b (aa (bh (pv 0) rfl) ak))))
      aK)
    (aq
     (ay (qG (qH (pv 3) (fun _=>rfl)) (dm wA rfl T.vc pw (aa (pv 3) ak)) aj)))))))),?_⟩
  refine⟨_,rfl,r,dx,_,rfl,hR,aN _ _ (by decide+kernel) (by decide+kernel),r,x,p,rfl,⟨dx,hR⟩,hp,hx,rfl,_,rfl,?_⟩
  by_cases h0:(sf x p).head? =some 48
  ·refine bY (by rw[e0];exact eI.mpr h0) ⟨_,rfl,r,R,dx,_,_,rfl,hR,T.av,T.bj,aS _ _,(by show 1≤100;decide),fun b hb=>?_⟩
   refine⟨b,_,rfl,ag,by omega,by omega,fun d5 H5 mL kO y7 wO k5=>⟨rfl,b,NF,HE,_,some d5,rfl,aE.z,y7,?_⟩⟩
   exact rM (qE p (.inl ⟨rfl,h0⟩) (Nat.le_refl _) hp) hb (by rw[ah kO] at mL;exact mL) kO wO k5
  refine bT (by rw[e0];exact fun z=>h0 (eI.mp z)) ?_
  refine⟨_,rfl,r,R,dx,_,_,rfl,hR,T.av,T.bj,aS _ _,?_⟩
  refine⟨fun k σ H'=>∃j:Nat,k+j=lg∧p+j≤x.length∧(∃w,sf x p=w++sf x (p+j)∧w.length=j∧w.all jN=true)∧σ=[some (.ref r),some (.int lg),some (.int p),none]∧dv R H' r x (p+j)∧Kept r H H',⟨lg,0,by omega,hp,⟨[],rfl,rfl,rfl⟩,rfl,⟨dx,hR⟩,Kept.refl r H⟩,?_⟩
  rintro k σ H' ⟨j,hk,hj,⟨w,ew,wl,wf⟩,rfl,⟨d5,dQ⟩,kk⟩
  have wh:w.head? ≠some 48:=fun z=>h0 (by
   rw[ew]
   cases w with
   |nil=>cases z
   |cons c r=>simpa using z)
  refine⟨_,rfl,r,d5,_,rfl,dQ,aN _ _ (by decide+kernel) (by decide+kernel),r,x,p+j,rfl,⟨d5,dQ⟩,hj,hx,_,rfl,jw _ _,_,rfl,?_⟩
  by_cases hf:inR 48 57 (e9 x (p+j))=true∧j<lg
  ·obtain⟨ev,T3⟩:=hf
   obtain⟨c,hc,cF⟩:=(mJ 48 57).mp ev
   rw[ev]
   refine cA ⟨_,rfl,r,R,d5,_,_,rfl,dQ,T.av,T.bj,aS _ _,_,rfl,_,_,rfl,rfl,_,rfl,_,_,rfl,rfl,_,rfl,bY (by omega) ?_⟩
   refine⟨_,fun σ' dP h=>⟨k - 1,by omega,h⟩,?_⟩
   obtain⟨Nk,R6⟩:=dC hc
   refine⟨_,rfl,r,R,d5,_,_,rfl,dQ,T.av,T.bj,aS _ _,_,_,rfl,rfl,d5,_,dQ,iy _ _,?_⟩
   refine⟨j+1,by omega,R6,⟨w++[c],by rw[ew,Nk,List.append_assoc];rfl,by rw[List.length_append,wl];rfl,by rw[List.all_append,wf];simpa [jN] using cF⟩,rfl,⟨d5,?_⟩,fun b o z w=>?_⟩
   ·rw[ag]
    exact congrArg (fun z=>some (HO.ins R d5 z)) (ix x (p+j) (p+j+1))
   ·rw[ah w];exact kk b o z w
  have he:Not jN (sf x (p+j))∨j=lg:=by
   cases ev:inR 48 57 (e9 x (p+j)) with
   |true=>exact .inr (by have:¬j<lg:=fun z=>hf ⟨ev,z⟩;omega)
   |false=>exact .inl (tJ ev)
  have ec:Txt.slice x (some (p:Int)) (some ((p+j:Nat):Int))=⟨w.toArray⟩:=by
   obtain⟨w',Nk,R6,T4⟩:=yZ hj
   rw[T4,List.append_cancel_right (Nk.symm.trans ew)]
  cases ev:inR 48 57 (e9 x (p+j))
  case' true=>
   refine cA ⟨_,rfl,r,R,d5,_,_,rfl,dQ,T.av,T.bj,aS _ _,_,rfl,_,_,rfl,rfl,_,rfl,_,_,rfl,rfl,_,rfl,bT (by have:¬j<lg:=fun z=>hf ⟨ev,z⟩;omega) ?_⟩
  case' false=>
   refine cQ (cQ ?_)
  all_goals
   refine⟨_,rfl,r,R,d5,_,_,rfl,dQ,T.av,T.jz,gp _ _,_,rfl,_,rfl,_,rfl,r,R,d5,_,_,rfl,dQ,T.av,T.bj,aS _ _,_,rfl,x,rfl,by omega,?_⟩
   rw[ec]
   by_cases Nl:w=[49]
   ·subst Nl
    have RQ:j=1:=wl.symm
    refine⟨_,rfl,rfl,_,rfl,bY (by rw[e1]) ⟨_,rfl,r,R,d5,_,_,rfl,dQ,T.av,T.bj,aS _ _,(by show 1≤100;decide),fun b hb=>?_⟩⟩
    refine⟨b,_,rfl,ag,by omega,by omega,fun mO H5 mL kO y7 wO k5=>⟨rfl,b,NF,HE,_,some mO,rfl,aE.z,y7,?_⟩⟩
    exact rM ((qE (p+j) (.inr ⟨ew,he.elim id fun z=>by omega⟩) (by omega) hj).on kk dQ) hb (by rw[ah kO] at mL;exact mL) kO wO k5
   ·obtain⟨n,en,n0,hn,_,nl⟩:=Es wf wh Nl
    have es:(⟨w.toArray⟩:Str)=di (n:Int):=eP (by rw[←en];rfl)
    have nw:¬V.str (di (n:Int))=V.str "1" :=by
     rw[←es,e1]
     intro z
     have z:(⟨w.toArray⟩:Str)=⟨#[49]⟩:=by injection z
     exact Nl (by have:=congrArg (fun s:Str=>s.cps.toList) z;simpa using this)
    have lf:(di (n:Int)).length=j:=by rw[←es,←wl];simp [Str.length]
    have nb:n<10^lg:=by
     by_cases hw:w=[]
     ·have:n=1:=by rcases hn with z|z;exact z.2;exact absurd hw z.1
      rw[this]
      exact Nat.one_lt_pow (by omega) (by decide)
     ·exact Nat.lt_of_lt_of_le (nl hw) (Nat.pow_le_pow_right (by decide) (by omega))
    have T5:n<10^12:=Nat.lt_of_lt_of_le nb (Nat.pow_le_pow_right (by decide) T2)
    have fin:=q n (p+j) H' ⟨by rw[en];exact ew,by omega,by exact_mod_cast nb,by rw[en];omega,by rw[en,wl];exact he⟩ (by omega) hj ⟨d5,dQ⟩ kk
    rw[es]
    refine⟨_,rfl,rfl,_,rfl,bT nw ?_⟩
    refine⟨_,rfl,_,⟨by rw[lf];omega,rfl⟩,?_⟩
    rcases hn with ⟨hw,hn⟩ | ⟨hw,hn⟩
    ·have ez:(((di (n:Int)).length:Int) != 0)=false:=by rw[lf,←wl,hw];rfl
     rw[ez]
     rw[hn] at fin
     exact cQ fin
    ·have ez:(((di (n:Int)).length:Int) != 0)=true:=by
      rw[lf,←wl]
      have:w.length≠0:=fun z=>hw (List.length_eq_zero_iff.mp z)
      simp only [bne_iff_ne,ne_eq]
      omega
     rw[ez]
     exact cA ⟨_,rfl,_,_,rfl,Bm n T5 hn,by rw[lf];omega,fin⟩
theorem tL(D:bG K R "read_count" "Reader.read_count" k9 ["self"])(T:mB K mg C R uK uN)(c1:a8 P w K mg base 3 R "read_number" ["self","longest"] (oz NF R)):a8 P w K mg base 4 R "read_count" ["self"] (eU NF R):=by
 obtain⟨_,_,cK⟩:=c1
 refine D.iJ yV (fun vs H Q E h=>?_) (fun f ba A outer s H vs Q E hr h=>?_)
 ·obtain⟨r,x,p,rfl,_⟩:=h
  rfl
 ·obtain⟨r,x,p,rfl,⟨dx,hR⟩,hp,hx,q,qE⟩:=h
  refine⟨_,(aq
     (ay (bV (pv 0) T.av cK.m cK.ok (hr.mono (by decide)) cK.b .nil a5 (aa (br (v:= .int 3) rfl T.kL ⟨_,rfl⟩) ak)))),?_⟩
  exact⟨_,rfl,r,dx,_,rfl,hR,aN _ _ (by decide+kernel) (by decide+kernel),r,x,p,3,rfl,⟨dx,hR⟩,hp,hx,by decide,by decide,q,qE⟩
variable {HE NF TL:Addr}
def mP(NF C R:Addr):Sp:=fun vs H Q E=>∃(r:Addr) (x:Str) (p:Nat),vs=[.ref r]∧dv R H r x p∧p≤x.length∧x.length≤1000∧
 (∀k n q a H',kG (sf x p) k n (sf x q)→p≤q→q≤x.length→H a=none→dX C H' a ⟨k.toArray⟩ n→dv R H' r x q→Kept r H H'→Q (.ref a) H')∧(∀e,vo (sf x p) (sf x e)→p≤e→e≤x.length→Rz NF H r E e)
theorem wQ(D:bG K R "read_atom" "Reader.read_atom" pM ["self"])(T:mB K mg C R uK uN)(TE:qb K mg HE NF TL)(c1:bW P w K mg base 1 R "sign" ["self"] (gq R))(c2:a4 P w K mg base 1 "is_great" ["sign"] (CM 65 90))(c3:a4 P w K mg base 1 "is_small" ["sign"] (CM 97 122))(c4:a8 P w K mg base 4 R "read_count" ["self"] (eU NF R))
  (c5:fP P w K mg base 1 C ["self","kind","count"] [1] (yJ C)) (c6:g7 P w K mg base 1 "NoFormula" NF HE ["self","place"] (mK NF "place")):a8 P w K mg base 5 R "read_atom" ["self"] (mP NF C R):=by
 obtain⟨_,_,ar⟩:=c1
 obtain⟨_,_,cq⟩:=c2
 obtain⟨_,_,gy⟩:=c3
 obtain⟨_,_,aI⟩:=c4
 obtain⟨_,_,eC⟩:=c5
 obtain⟨_,y8,y9⟩:=eC.b 1 (by decide)
 obtain⟨_,_,aE⟩:=c6
 refine D.iJ p6 (fun vs H Q E h=>?_) (fun f ba A outer s H vs Q E hr h=>?_)
 ·obtain⟨r,x,p,rfl,_⟩:=h
  rfl
 ·obtain⟨r,x,p,rfl,⟨dx,hR⟩,hp,hx,q,qE⟩:=h
  have big:(1000 :Nat)≤sizeLine:=by decide
  refine⟨_,(ai
     (aY (jS (dw (aJ cq.ok (hr.mono (by decide)) rfl cq.g cq.kp cq.b .nil aM (aa (bq (pv 0) T.av ar.m ar.ok (hr.mono (by decide)) ar.b .nil aM) ak))))
      (aq
       (fT rfl a5 (fS aE.z aE.ok (hr.mono (by decide)) rfl aE.g aE.kp aE.b (aa (bh (pv 0) rfl) ak))))
      aK)
    (ai
     (aL (i:=1) p6.nd rfl (Or.inl rfl) (bh (pv 0) rfl))
    (ai
     (ig (pv 0) aj o6)
    (ai
     (gX mn (PW.pt (bX (dw (aJ gy.ok (hr.mono (by decide)) rfl gy.g gy.kp gy.b .nil aM (aa (bq (pv 0) T.av ar.m ar.ok (hr.mono (by decide)) ar.b .nil aM) ak))) (bZ (au lU (aw jU (bh (pv 0) rfl) (pv 1)) (br (v:= .int 3) rfl T.mC ⟨_,rfl⟩) (aA _)))))
      (aq
       (ig (pv 0) aj o6)))
    (ai
     (aL (i:=2) p6.nd rfl (Or.inl rfl) (bE dB (bh (pv 0) rfl) (bu (pv 1)) (bu (bh (pv 0) rfl))))
    (aq
     (ay (gg eC.m eC.ok (hr.mono (by decide)) rfl T.Eh y9 y8 aM (aa (pv 2) (aa (cN (pv 0) T.av aI.m aI.ok (hr.mono (by decide)) aI.b .nil a5) ak)))))))))),?_⟩
  refine⟨_,rfl,r,dx,_,rfl,hR,aN _ _ (by decide+kernel) (by decide+kernel),r,x,p,rfl,⟨dx,hR⟩,hp,hx,_,rfl,jw _ _,_,rfl,?_⟩
  cases ev:inR 65 90 (e9 x p) with
  |false=>
   refine cA ⟨_,rfl,r,R,dx,_,_,rfl,hR,T.av,T.bj,aS _ _,(by show 1≤100;decide),fun b hb=>?_⟩
   refine⟨b,_,rfl,ag,by omega,by omega,fun mO H5 mL kO y7 wO k5=>⟨rfl,b,NF,HE,_,some mO,rfl,aE.z,y7,?_⟩⟩
   exact rM (qE p (.inl ⟨rfl,tJ ev⟩) (Nat.le_refl _) hp) hb (by rw[ah kO] at mL;exact mL) kO wO k5
  |true=>
  obtain⟨c,hc,cG⟩:=(mJ 65 90).mp ev
  obtain⟨e1,e2⟩:=dC hc
  refine cQ ?_
  refine⟨_,rfl,r,R,dx,_,_,rfl,hR,T.av,T.bj,aS _ _,?_⟩
  refine⟨_,rfl,r,R,dx,_,_,rfl,hR,T.av,T.bj,aS _ _,_,_,rfl,rfl,dx,_,hR,iy _ _,?_⟩
  have gz:(upd H r (.ins R dx (dc "place" (.int ((p:Int)+1)) (fe x p)))) r=some (.ins R dx (fe x (p+1))):=by
   rw[ag]
   exact congrArg (fun z=>some (HO.ins R dx z)) (ix x p (p+1))
  have k1:Kept r H (upd H r (.ins R dx (dc "place" (.int ((p:Int)+1)) (fe x p)))):=fun b o z w=>by rw[ah w];exact z
  generalize upd H r _=H1 at gz k1 ⊢
  refine⟨fun m σ H'=>∃j:Nat,m+j=2∧p+1+j≤x.length∧(∃w,sf x (p+1)=w++sf x (p+1+j)∧w.length=j∧w.all j6=true)∧σ=[some (.ref r),some (.int p),none]∧dv R H' r x (p+1+j)∧Kept r H H',⟨2,0,rfl,e2,⟨[],rfl,rfl,rfl⟩,rfl,⟨dx,gz⟩,k1⟩,?_⟩
  rintro m σ H' ⟨j,hm,hj,⟨w,ew,wl,wf⟩,rfl,⟨d5,dQ⟩,kk⟩
  refine⟨_,rfl,r,d5,_,rfl,dQ,aN _ _ (by decide+kernel) (by decide+kernel),r,x,p+1+j,rfl,⟨d5,dQ⟩,hj,hx,_,rfl,jw _ _,_,rfl,?_⟩
  by_cases hf:inR 97 122 (e9 x (p+1+j))=true∧j<2
  ·obtain⟨ev,T3⟩:=hf
   obtain⟨b,hb,bS⟩:=(mJ 97 122).mp ev
   rw[ev]
   refine cA ⟨_,rfl,r,R,d5,_,_,rfl,dQ,T.av,T.bj,aS _ _,_,rfl,_,_,rfl,rfl,_,_,rfl,rfl,_,rfl,bY (by omega) ?_⟩
   refine⟨_,fun σ' dP h=>⟨m - 1,by omega,h⟩,?_⟩
   obtain⟨f1,f2⟩:=dC hb
   refine⟨_,rfl,r,R,d5,_,_,rfl,dQ,T.av,T.bj,aS _ _,_,_,rfl,rfl,d5,_,dQ,iy _ _,?_⟩
   refine⟨j+1,by omega,f2,⟨w++[b],by rw[ew,f1,List.append_assoc];rfl,by rw[List.length_append,wl];rfl,by rw[List.all_append,wf];simpa [j6] using bS⟩,rfl,⟨d5,?_⟩,fun b o z w=>?_⟩
   ·rw[ag]
    exact congrArg (fun z=>some (HO.ins R d5 z)) (ix x (p+1+j) (p+1+j+1))
   ·rw[ah w];exact kk b o z w
  have he:(c::w).length=3∨Not j6 (sf x (p+1+j)):=by
   cases ev:inR 97 122 (e9 x (p+1+j)) with
   |true=>exact .inl (by have:¬j<2:=fun z=>hf ⟨ev,z⟩;rw[List.length_cons];omega)
   |false=>exact .inr (tJ ev)
  have Nn:sf x p=(c::w)++sf x (p+1+j):=by rw[e1,ew];rfl
  have ok:lD (c::w):=⟨c,w,rfl,by simpa [iQ] using cG,wf,by omega⟩
  have ec:Txt.slice x (some (p:Int)) (some ((p+1+j:Nat):Int))=⟨(c::w).toArray⟩:=by
   obtain⟨w',a1,a2,a3⟩:=yZ (x:=x) (p:=p) (j:=1+j) (by omega)
   rw[←Nat.add_assoc] at a1 a3
   rw[a3,List.append_cancel_right (a1.symm.trans Nn)]
  cases ev:inR 97 122 (e9 x (p+1+j))
  case' true=>
   refine cA ⟨_,rfl,r,R,d5,_,_,rfl,dQ,T.av,T.bj,aS _ _,_,rfl,_,_,rfl,rfl,_,_,rfl,rfl,_,rfl,bT (by have:¬j<2:=fun z=>hf ⟨ev,z⟩;omega) ?_⟩
  case' false=>
   refine cQ (cQ ?_)
  all_goals
   refine⟨_,rfl,r,R,d5,_,_,rfl,dQ,T.av,T.jz,gp _ _,_,rfl,_,rfl,_,rfl,r,R,d5,_,_,rfl,dQ,T.av,T.bj,aS _ _,_,rfl,x,rfl,by omega,?_⟩
   rw[ec]
   refine⟨_,rfl,_,rfl,r,d5,_,rfl,dQ,aN _ _ (by decide+kernel) (by decide+kernel),r,x,p+1+j,rfl,⟨d5,dQ⟩,hj,hx,fun n q' H2 hN Ez hq iA k2=>?_,fun e hB LK F'=>(qE e (.inr ⟨c::w,_,Nn,ok,he,hB⟩) (by omega) F').on kk dQ⟩
   obtain⟨mO,iA⟩:=iA
   refine fun a da na T6 VJ=>⟨a,da,_,n,rfl,ag,fun H3 h3 k3=>⟨rfl,?_⟩⟩
   have s3:aD H2 H3:=fun b o z=>k3 b o (by rw[ah (af z na),ah (af z T6)];exact z) (af z na)
   have kf:=(kk.trans k2)
   exact q (c::w) n q' a H3 ⟨_,Nn,ok,he,hN⟩ (by omega) hq (a6 kf iA na) ⟨da,h3⟩ ⟨mO,s3 _ _ iA⟩ (kf.trans (Kept.of s3))
variable {HE NF TL:Addr}
def rP(NF C G R:Addr)(d:Nat):Sp:=fun vs H Q E=>∃(r:Addr) (x:Str) (p a:Nat),vs=[.ref r, .int a]∧dv R H r x p∧p≤x.length∧x.length≤1000∧a+d=4∧
 (∀t q y H',nj d (sf x p) t (sf x q)→p<q→q≤x.length→H y=none→En C G d H H' y t→dv R H' r x q→Kept r H H'→Q (.ref y) H')∧(∀e,Et d (sf x p) (sf x e)→p≤e→e≤x.length→Rz NF H r E e)
def km(NF C G R:Addr):Nat→Sp
 |0=>fun _ _ _ _=>False
 |d+1=>fun vs H Q E=>∃(r:Addr) (x:Str) (p a:Nat) (u':List Nat),vs=[.ref r, .int a]∧dv R H r x p∧p≤x.length∧x.length≤1000∧a+d+1=4∧sf x p=40::u'∧
  (∀ts n w q y H',Bw (nj d) u' ts (41::w)→kN 3 w n (sf x q)→p<q→q≤x.length→H y=none→En C G (d+1) H H' y (.gr ts n)→dv R H' r x q→Kept r H H'→Q (.ref y) H')∧
  (∀e,(Gb (nj d) (Et d) u' (sf x e)∨(∃ts,Bw (nj d) u' ts (sf x e)∧(sf x e).head? ≠some 41)∨∃ts w,Bw (nj d) u' ts (41::w)∧rH w (sf x e))→p≤e→e≤x.length→Rz NF H r E e)
def iB(NF C G R:Addr)(d:Nat):Sp:=fun vs H Q E=>∃(r:Addr) (x:Str) (p a:Nat),vs=[.ref r, .int a]∧dv R H r x p∧p≤x.length∧x.length≤1000∧a+d=4∧
 (∀ts q l H',Bw (nj d) (sf x p) ts (sf x q)→p<q→q≤x.length→HB C G d H H' l ts→dv R H' r x q→Kept r H H'→Q (.ref l) H')∧(∀e,Gb (nj d) (Et d) (sf x p) (sf x e)→p≤e→e≤x.length→Rz NF H r E e)
theorem kG.lt{x:Str}{p q:Nat}{k:List Nat}{n:Int}(h:kG (sf x p) k n (sf x q))(hp:p≤x.length)(hq:q≤x.length):p<q:=by
 obtain⟨w,e,⟨c,r,rfl,_⟩,_,e2,_⟩:=h
 have:=congrArg List.length e
 rw[e2,List.length_append,List.length_append,kj,kj,List.length_cons] at this
 omega
theorem oA(d:Nat)(D:bG K R "read_part" "Reader.read_part" mq ["self","around"])(T:kM K mg C R G uK uN uB uE uM)(c1:bW P w K mg base 1 R "sign" ["self"] (gq R))(c2:a8 P w K mg base 5 R "read_atom" ["self"] (mP NF C R))(c3:a8 P w K mg base (3*d+5) R "read_group" ["self","around"] (km NF C G R d)):
  a8 P w K mg base (3*d+6) R "read_part" ["self","around"] (rP NF C G R d):=by
 obtain⟨_,_,ar⟩:=c1
 obtain⟨_,_,dk⟩:=c2
 obtain⟨_,_,cR⟩:=c3
 refine D.iJ Bu (fun vs H Q E h=>?_) (fun f ba A outer s H vs Q E hr h=>?_)
 ·obtain⟨r,x,p,a,rfl,_⟩:=h
  rfl
 ·obtain⟨r,x,p,a,rfl,⟨dx,hR⟩,hp,hx,ha,q,qE⟩:=h
  refine⟨_,(ai
     (aY (PW.pt (bX (au aW (bq (pv 0) T.av ar.m ar.ok (hr.mono (by omega)) ar.b .nil aM) (br (v:= .str "(") rfl T.d7 ⟨_,rfl⟩) (aA _)) (bZ (au Co (pv 1) (br (v:= .int 3) rfl T.g9 ⟨_,rfl⟩) (aA _)))))
      (aq
       (ay (bV (pv 0) T.av cR.m cR.ok (hr.mono (by omega)) cR.b .nil a5 (aa (pv 1) ak))))
      aK)
    (aq
     (ay (cN (pv 0) T.av dk.m dk.ok (hr.mono (by omega)) dk.b .nil a5)))),?_⟩
  refine⟨_,rfl,r,dx,_,rfl,hR,aN _ _ (by decide+kernel) (by decide+kernel),r,x,p,rfl,⟨dx,hR⟩,hp,hx,rfl,_,rfl,?_⟩
  have atom:∀{k:List Nat} {n:Int} {y:Addr} {H':Hp},H y=none→dX C H' y ⟨k.toArray⟩ n→En C G d H H' y (.one k n):=fun {k n y H'} ny hA dP ke=>by
   obtain⟨dy,hA⟩:=hA
   have e:dj C G d dP y (.one k n)=dX C dP y ⟨k.toArray⟩ n:=by cases d<;>rfl
   rw[e]
   exact⟨dy,ke _ _ ny hA⟩
  by_cases ko:(sf x p).head? =some 40
  ·refine bY (by rw[Bt];exact eI.mpr ko) ?_
   obtain⟨e1,e2⟩:=dC ko
   cases d with
   |zero=>
    refine⟨_,rfl,_,_,rfl,rfl,_,rfl,bT (by omega) ?_⟩
    exact⟨_,rfl,r,dx,_,rfl,hR,aN _ _ (by decide+kernel) (by decide+kernel),r,x,p,rfl,⟨dx,hR⟩,hp,hx,fun k n q' y H' hA Ez hq ny hy dQ kp=>q (.one k n) q' y H' ⟨k,n,rfl,hA⟩ (hA.lt hp hq) hq ny (atom ny hy) dQ kp,fun e hB=>qE e hB⟩
   |succ d=>
    refine⟨_,rfl,_,_,rfl,rfl,_,rfl,bY (by omega) ?_⟩
    exact⟨_,rfl,r,dx,_,rfl,hR,aN _ _ (by decide+kernel) (by decide+kernel),_,rfl,r,x,p,a,_,rfl,⟨dx,hR⟩,hp,hx,by omega,e1,fun ts n w q' y H' hS hN Ez hq ny hy dQ kp=>q (.gr ts n) q' y H' (.inr ⟨_,ts,n,w,e1,rfl,hS,hN⟩) Ez hq ny hy dQ kp,fun e hB=>qE e (.inr ⟨_,e1,hB⟩)⟩
  ·refine bT (by rw[Bt];exact fun z=>ko (eI.mp z)) ?_
   refine⟨_,rfl,r,dx,_,rfl,hR,aN _ _ (by decide+kernel) (by decide+kernel),r,x,p,rfl,⟨dx,hR⟩,hp,hx,fun k n q' y H' hA Ez hq ny hy dQ kp=>q (.one k n) q' y H' ?_ (hA.lt hp hq) hq ny (atom ny hy) dQ kp,fun e hB=>qE e ?_⟩
   ·cases d with
    |zero=>exact⟨k,n,rfl,hA⟩
    |succ d=>exact .inl ⟨ko,k,n,rfl,hA⟩
   ·cases d with
    |zero=>exact hB
    |succ d=>exact .inl ⟨ko,hB⟩
variable {HE NF TL:Addr}
theorem rQ(D:bG K R "read_group" "Reader.read_group" iu ["self","around"]):a8 P w K mg base 5 R "read_group" ["self","around"] (km NF C G R 0):=
 D.iJ (k:=4) mD (fun vs H Q E h=>h.elim) (fun f ba A outer s H vs Q E hr h=>h.elim)
theorem tM(d:Nat)(D:bG K R "read_group" "Reader.read_group" iu ["self","around"])(T:kM K mg C R G uK uN uB uE uM)(c1:a8 P w K mg base 3 R "take" ["self","sign"] (iz NF R))(c2:a8 P w K mg base 4 R "read_count" ["self"] (eU NF R))(c3:a8 P w K mg base (3*d+7) R "read_parts" ["self","around"] (iB NF C G R d))
  (c4:fP P w K mg base 1 G ["self","parts","count"] [1] (jA G)):a8 P w K mg base (3*d+8) R "read_group" ["self","around"] (km NF C G R (d+1)):=by
 obtain⟨_,_,aH⟩:=c1
 obtain⟨_,_,aI⟩:=c2
 obtain⟨_,_,aT⟩:=c3
 obtain⟨_,_,cZ⟩:=c4
 obtain⟨_,wR,wU⟩:=cZ.b 1 (by decide)
 refine D.iJ mD (fun vs H Q E h=>?_) (fun f ba A outer s H vs Q E hr h=>?_)
 ·obtain⟨r,x,p,a,u',rfl,_⟩:=h
  rfl
 ·obtain⟨r,x,p,a,u',rfl,⟨dx,hR⟩,hp,hx,ha,hu,q,qE⟩:=h
  refine⟨_,(ai
     (bB (bV (pv 0) T.av aH.m aH.ok (hr.mono (by omega)) aH.b .nil a5 (aa (br (v:= .str "(") rfl T.d7 ⟨_,rfl⟩) ak)))
    (ai
     (aL (i:=2) mD.nd rfl (Or.inl rfl) (bV (pv 0) T.av aT.m aT.ok (hr.mono (by omega)) aT.b .nil a5 (aa (aw cf (pv 1) aj) ak)))
    (ai
     (bB (bV (pv 0) T.av aH.m aH.ok (hr.mono (by omega)) aH.b .nil a5 (aa (br (v:= .str ")") rfl T.kE ⟨_,rfl⟩) ak)))
    (aq
     (ay (gg cZ.m cZ.ok (hr.mono (by omega)) rfl T.Bs wU wR aM (aa (pv 2) (aa (cN (pv 0) T.av aI.m aI.ok (hr.mono (by omega)) aI.b .nil a5) ak)))))))),?_⟩
  have ko:(sf x p).head? =some 40:=by rw[hu];rfl
  obtain⟨eu,e2⟩:=dC ko
  have T7:u'=sf x (p+1):=by rw[hu] at eu;injection eu
  subst T7
  refine⟨_,rfl,r,dx,_,rfl,hR,aN _ _ (by decide+kernel) (by decide+kernel),r,x,p,40,congrArg (fun z=>[V.ref r,V.str z]) Bt,⟨dx,hR⟩,hp,hx,fun _ H1 gz k1=>?_,fun n=>absurd ko n⟩
  obtain⟨vp,gz⟩:=gz
  refine⟨_,rfl,r,vp,_,rfl,gz,aN _ _ (by decide+kernel) (by decide+kernel),_,rfl,_,_,rfl,rfl,r,x,p+1,a+1,rfl,⟨vp,gz⟩,e2,hx,by omega,fun ts q2 l H2 hS EA rR hN iA k2=>?_,fun e hB h1 h2=>(qE e (.inl hB) (by omega) h2).on k1 gz⟩
  obtain⟨mO,iA⟩:=iA
  obtain⟨zd,ps,HH,nk⟩:=hN
  refine⟨_,rfl,r,mO,_,rfl,iA,aN _ _ (by decide+kernel) (by decide+kernel),r,x,q2,41,congrArg (fun z=>[V.ref r,V.str z]) Ga,⟨mO,iA⟩,rR,hx,fun xF H3 nq k3=>?_,fun n=>(qE q2 (.inr (.inl ⟨ts,hS,n⟩)) (by omega) rR).on (k1.trans k2) iA⟩
  obtain⟨EB,nq⟩:=nq
  obtain⟨e3,T8⟩:=dC xF
  rw[e3] at hS
  refine⟨_,rfl,_,rfl,r,EB,_,rfl,nq,aN _ _ (by decide+kernel) (by decide+kernel),r,x,q2+1,rfl,⟨EB,nq⟩,T8,hx,fun n q4 H4 T9 Ua EC wV k4=>?_,fun e hB h1 h2=>(qE e (.inr (.inr ⟨ts,_,hS,hB⟩)) (by omega) h2).on ((k1.trans k2).trans k3) nq⟩
  obtain⟨LL,wV⟩:=wV
  have R7:l≠r:=fun z=>by rw[z,gz] at zd;cases zd
  have Np:=k4 _ _ (k3 _ _ HH R7) R7
  refine fun g dg ng CP neg=>⟨g,dg,l,n,ps.map V.ref,rfl,ag,?_,fun m H5 hm hg Ge kp=>⟨rfl,?_⟩⟩
  ·rw[ah (af Np ng),ah (af Np CP)];exact Np
  have s5:aD H4 H5:=fun b o z=>kp b o (by rw[ah (af z ng),ah (af z CP)];exact z) (af z ng)
  have kf:Kept r H H4:=((k1.trans k2).trans k3).trans k4
  refine q ts n _ q4 g H5 hS T9 (by omega) EC (a6 kf wV ng) (fun dP ke=>?_) ⟨LL,s5 _ _ wV⟩ (kf.trans (Kept.of s5))
  refine⟨dg,m,ps,ke _ _ (a6 kf wV ng) hg,ke _ _ (a6 kf wV (f6 hm)) Ge,nk dP fun b o z1 z2=>?_⟩
  have CQ:b≠r:=fun z=>by rw[z,gz] at z1;cases z1
  exact ke _ _ (a6 k1 gz z1) (s5 _ _ (k4 _ _ (k3 _ _ z2 CQ) CQ))
theorem mQ(d:Nat)(D:bG K R "read_parts" "Reader.read_parts" jm ["self","around"])(T:kM K mg C R G uK uN uB uE uM)(c1:bW P w K mg base 1 R "sign" ["self"] (gq R))(c2:a4 P w K mg base 1 "is_great" ["sign"] (CM 65 90))(c3:a8 P w K mg base (3*d+6) R "read_part" ["self","around"] (rP NF C G R d)):
  a8 P w K mg base (3*d+7) R "read_parts" ["self","around"] (iB NF C G R d):=by
 obtain⟨_,_,ar⟩:=c1
 obtain⟨_,_,cq⟩:=c2
 obtain⟨_,_,bH⟩:=c3
 refine D.iJ rE (fun vs H Q E h=>?_) (fun f ba A outer s H vs Q E hr h=>?_)
 ·obtain⟨r,x,p,a,rfl,_⟩:=h
  rfl
 ·obtain⟨r,x,p,a,rfl,⟨dx,hR⟩,hp,hx,ha,q,qE⟩:=h
  have big:(2000 :Nat)≤sizeLine:=by decide
  refine⟨_,(ai
     (aL (i:=2) rE.nd rfl (Or.inl rfl) (b7 (aa (bV (pv 0) T.av bH.m bH.ok (hr.mono (by omega)) bH.b .nil a5 (aa (pv 1) ak)) ak)))
    (ai
     (gX mn (PW.pt (fK (dw (aJ cq.ok (hr.mono (by omega)) rfl cq.g cq.kp cq.b .nil aM (aa (bq (pv 0) T.av ar.m ar.ok (hr.mono (by omega)) ar.b .nil aM) ak))) (eX (au aW (bq (pv 0) T.av ar.m ar.ok (hr.mono (by omega)) ar.b .nil aM) (br (v:= .str "(") rfl T.d7 ⟨_,rfl⟩) (aA _)))))
      (aq
       (bB (eG PySem.F.plainAttrs_list PySem.F.slot_list_append PySem.F.type_list_append cg (pv 2) (aa (bV (pv 0) T.av bH.m bH.ok (hr.mono (by omega)) bH.b .nil a5 (aa (pv 1) ak)) ak)))))
    (aq
     (ay (pv 2))))),?_⟩
  refine⟨_,rfl,r,dx,_,rfl,hR,aN _ _ (by decide+kernel) (by decide+kernel),_,rfl,r,x,p,a,rfl,⟨dx,hR⟩,hp,hx,ha,fun t q1 y H1 hP Ez R8 ny hN gz k1=>⟨(by show 1≤sizeLine;decide),fun L hL=>?_⟩,fun e hB=>qE e (.inl hB)⟩
  obtain⟨vp,gz⟩:=gz
  have LM:H L=none:=a6 k1 gz hL
  have CS:L≠r:=fun z=>by rw[z,gz] at hL;cases hL
  refine⟨fun m σ H'=>∃q' ts,m+q'=x.length∧p<q'∧Sq (nj d) (sf x p) ts (sf x q')∧σ=[some (.ref r),some (.int a),some (.ref L)]∧dv R H' r x q'∧Kept r H H'∧∃ps,H' L=some (.lst (ps.map V.ref))∧ps.length≤q'∧Paired (Nf C G L d H H') ps ts,⟨x.length - q1,q1,[t],by omega,Ez, .one t _ hP,rfl,⟨vp,?_⟩,?_,[y],ag,by show 1≤q1;omega,?_⟩,?_⟩
  ·rw[ah (Ne.symm CS),gz]
  ·exact k1.trans (Kept.of (aD.new hL))
  ·refine .cons (fun dP ke=>hN dP fun b o z1 z2=>?_) .nil
   have CT:b≠L:=af z2 hL
   exact ke b o z1 CT (by rw[ah CT];exact z2)
  rintro m σ H' ⟨q',ts,hm,Nq,hS,rfl,⟨d5,dQ⟩,kk,ps,ED,nM,hP⟩
  have nu:q'≤x.length:=by omega
  refine⟨_,rfl,r,d5,_,rfl,dQ,aN _ _ (by decide+kernel) (by decide+kernel),r,x,q',rfl,⟨d5,dQ⟩,nu,hx,_,rfl,jw _ _,_,rfl,?_⟩
  by_cases hM:More (sf x q')
  ·obtain⟨c,hc,Ln⟩:=id hM
   have nk:ps.length<sizeLine:=by omega
   rcases Ln with hg|Nr
   case' inl=>
    have ev:inR 65 90 (e9 x q')=true:=(mJ 65 90).mpr ⟨c,hc,hg⟩
    rw[ev]
    refine cA (cA ?_)
   case' inr=>
    subst Nr
    have ev:inR 65 90 (e9 x q')=false:=by
     cases ev:inR 65 90 (e9 x q') with
     |false=>rfl
     |true=>
      obtain⟨b,hb,uR⟩:=(mJ 65 90).mp ev
      rw[hc] at hb
      cases hb
      cases uR
    rw[ev]
    refine cQ ⟨_,rfl,r,d5,_,rfl,dQ,aN _ _ (by decide+kernel) (by decide+kernel),r,x,_,rfl,⟨d5,dQ⟩,nu,hx,rfl,_,rfl,bY (by rw[Bt];exact eI.mpr hc) ?_⟩
   all_goals
    refine⟨_,fun σ' dP h=>h,?_⟩
    refine⟨_,rfl, .inl ⟨rfl,_,bF.of ED⟩,_,rfl,r,d5,_,rfl,dQ,aN _ _ (by decide+kernel) (by decide+kernel),_,rfl,r,x,q',a,rfl,⟨d5,dQ⟩,nu,hx,ha,fun t q2 y H2 hT EA rR ny hN iA k2=>?_,fun e hB h1 h2=>(qE e (.inr ⟨ts,_,hS,hM,hB⟩) (by omega) h2).on kk dQ⟩
    obtain⟨mO,iA⟩:=iA
    have Ub:=k2 _ _ ED CS
    refine⟨L,_,_,rfl,rfl,Ub,by rw[List.length_map];exact nk,?_⟩
    refine⟨x.length - q2,by omega,q2,ts++[t],by omega,by omega, .snoc ts _ t _ hS hM hT,rfl,⟨mO,?_⟩,fun b o z w=>?_,ps++[y],by rw[ag,List.map_append];rfl,by rw[List.length_append];show ps.length+1≤q2;omega,?_⟩
    ·rw[ah (Ne.symm CS),iA]
    ·rw[ah (af z LM)]
     exact k2 _ _ (kk _ _ z w) w
    ·refine dn (fun dP ke=>hN dP fun b o z1 z2=>?_) (aR (fun c t h dP ke=>h dP fun b o z1 z2 z3=>ke b o z1 z2 ?_) hP)
     ·have CT:b≠L:=fun z=>by rw[z,ED] at z1;cases z1
      exact ke b o (a6 kk dQ z1) CT (by rw[ah CT];exact z2)
     ·have CQ:b≠r:=fun z=>by rw[z,hR] at z1;cases z1
      rw[ah z2]
      exact k2 _ _ z3 CQ
  ·have ev:inR 65 90 (e9 x q')=false:=by
    cases ev:inR 65 90 (e9 x q') with
    |false=>rfl
    |true=>
     obtain⟨b,hb,uR⟩:=(mJ 65 90).mp ev
     exact absurd ⟨b,hb, .inl uR⟩ hM
   rw[ev]
   refine cQ ⟨_,rfl,r,d5,_,rfl,dQ,aN _ _ (by decide+kernel) (by decide+kernel),r,x,_,rfl,⟨d5,dQ⟩,nu,hx,rfl,_,rfl,bT (by rw[Bt];exact fun z=>hM ⟨40,eI.mp z, .inr rfl⟩) ?_⟩
   exact⟨_,rfl,q ts q' L H' ⟨hS,hM⟩ Nq nu ⟨LM,ps,ED,fun dP ke=>aR (fun c t h=>h dP fun b o z1 _ z3=>ke b o z1 z3) hP⟩ ⟨d5,dQ⟩ kk⟩
theorem oB(D1:bG K R "read_group" "Reader.read_group" iu ["self","around"])(D2:bG K R "read_part" "Reader.read_part" mq ["self","around"])(D3:bG K R "read_parts" "Reader.read_parts" jm ["self","around"])(T:kM K mg C R G uK uN uB uE uM)
  (c1:bW P w K mg base 1 R "sign" ["self"] (gq R)) (c2:a4 P w K mg base 1 "is_great" ["sign"] (CM 65 90)) (c3:a8 P w K mg base 5 R "read_atom" ["self"] (mP NF C R)) (c4:a8 P w K mg base 3 R "take" ["self","sign"] (iz NF R)) (c5:a8 P w K mg base 4 R "read_count" ["self"] (eU NF R))
  (c6:fP P w K mg base 1 G ["self","parts","count"] [1] (jA G)):∀d:Nat,a8 P w K mg base (3*d+7) R "read_parts" ["self","around"] (iB NF C G R d)
 |0=>mQ 0 D3 T c1 c2 (oA 0 D2 T c1 c3 (rQ D1))
 |d+1=>mQ (d+1) D3 T c1 c2 (oA (d+1) D2 T c1 c3 (by rw[show 3*(d+1)+5=3*d+8 by omega];exact tM d D1 T c4 c5 (oB D1 D2 D3 T c1 c2 c3 c4 c5 c6 d) c6))
variable {HE NF TL:Addr}{uC uP uI uD uL uT:Tok}
def mR(NF R:Addr):Sp:=fun vs H Q E=>∃(r:Addr) (x:Str) (p:Nat),vs=[.ref r]∧dv R H r x p∧p≤x.length∧x.length≤1000∧
 (∀n q H',LI (sf x p) n (sf x q)→p≤q→q≤x.length→dv R H' r x q→Kept r H H'→Q (.int n) H')∧(∀e,R3 (sf x p) (sf x e)→p≤e→e≤x.length→Rz NF H r E e)
theorem rS(D:bG K R "read_charge" "Reader.read_charge" jq ["self"])(T:HC K mg C R uK uN uC uP uI)(c1:bW P w K mg base 1 R "sign" ["self"] (gq R))(c2:a8 P w K mg base 3 R "take" ["self","sign"] (iz NF R))(c3:a8 P w K mg base 4 R "read_count" ["self"] (eU NF R)):
  a8 P w K mg base 5 R "read_charge" ["self"] (mR NF R):=by
 obtain⟨_,_,ar⟩:=c1
 obtain⟨_,_,aH⟩:=c2
 obtain⟨_,_,aI⟩:=c3
 refine D.iJ ow (fun vs H Q E h=>?_) (fun f ba A outer s H vs Q E hr h=>?_)
 ·obtain⟨r,x,p,rfl,_⟩:=h
  rfl
 ·obtain⟨r,x,p,rfl,⟨dx,hR⟩,hp,hx,q,qE⟩:=h
  refine⟨_,(ai
     (aY (au uu (bq (pv 0) T.av ar.m ar.ok (hr.mono (by decide)) ar.b .nil aM) (br (v:= .str "^") rfl T.fG ⟨_,rfl⟩) (aA _))
      (aq
       (ay aj))
      aK)
    (ai
     (bB (bV (pv 0) T.av aH.m aH.ok (hr.mono (by decide)) aH.b .nil a5 (aa (br (v:= .str "^") rfl T.fG ⟨_,rfl⟩) ak)))
    (ai
     (aL (i:=1) ow.nd rfl (Or.inl rfl) (cN (pv 0) T.av aI.m aI.ok (hr.mono (by decide)) aI.b .nil a5))
    (ai
     (aY (au aW (bq (pv 0) T.av ar.m ar.ok (hr.mono (by decide)) ar.b .nil aM) (br (v:= .str "-") rfl T.p7 ⟨_,rfl⟩) (aA _))
      (ai
       (bB (bV (pv 0) T.av aH.m aH.ok (hr.mono (by decide)) aH.b .nil a5 (aa (br (v:= .str "-") rfl T.p7 ⟨_,rfl⟩) ak)))
      (aq
       (ay (kz gY (pv 1)))))
      aK)
    (ai
     (bB (bV (pv 0) T.av aH.m aH.ok (hr.mono (by decide)) aH.b .nil a5 (aa (br (v:= .str "+") rfl T.yW ⟨_,rfl⟩) ak)))
    (aq
     (ay (pv 1)))))))),?_⟩
  refine⟨_,rfl,r,dx,_,rfl,hR,aN _ _ (by decide+kernel) (by decide+kernel),r,x,p,rfl,⟨dx,hR⟩,hp,hx,rfl,_,rfl,?_⟩
  by_cases h0:(sf x p).head? =some 94
  ·have eq:V.str (e9 x p)=V.str "^" :=by rw[HD];exact eI.mpr h0
   rw[decide_eq_true eq]
   refine cQ ?_
   obtain⟨e1,e2⟩:=dC h0
   refine⟨_,rfl,r,dx,_,rfl,hR,aN _ _ (by decide+kernel) (by decide+kernel),r,x,p,94,congrArg (fun z=>[V.ref r,V.str z]) HD,⟨dx,hR⟩,hp,hx,fun _ H1 gz k1=>?_,fun n=>absurd h0 n⟩
   obtain⟨vp,gz⟩:=gz
   refine⟨_,rfl,r,vp,_,rfl,gz,aN _ _ (by decide+kernel) (by decide+kernel),r,x,p+1,rfl,⟨vp,gz⟩,e2,hx,fun m q2 H2 hN EA rR iA k2=>?_,fun e hB h1 h2=>(qE e ⟨_,e1, .inl hB⟩ (by omega) h2).on k1 gz⟩
   obtain⟨mO,iA⟩:=iA
   have kk:=k1.trans k2
   refine⟨_,rfl,r,mO,_,rfl,iA,aN _ _ (by decide+kernel) (by decide+kernel),r,x,_,rfl,⟨mO,iA⟩,rR,hx,rfl,_,rfl,?_⟩
   by_cases EE:(sf x q2).head? =some 45
   ·obtain⟨f1,f2⟩:=dC EE
    refine bY (by rw[Ep];exact eI.mpr EE) ?_
    refine⟨_,rfl,r,mO,_,rfl,iA,aN _ _ (by decide+kernel) (by decide+kernel),r,x,q2,45,congrArg (fun z=>[V.ref r,V.str z]) Ep,⟨mO,iA⟩,rR,hx,fun _ H3 nq k3=>?_,fun n=>absurd EE n⟩
    exact⟨_,rfl,_,rfl,q (-m) (q2+1) H3 (.inr ⟨_,m,_,e1,hN, .inl ⟨f1,rfl⟩⟩) (by omega) f2 nq (kk.trans k3)⟩
   ·refine bT (by rw[Ep];exact fun z=>EE (eI.mp z)) ?_
    refine⟨_,rfl,r,mO,_,rfl,iA,aN _ _ (by decide+kernel) (by decide+kernel),r,x,q2,43,congrArg (fun z=>[V.ref r,V.str z]) Ng,⟨mO,iA⟩,rR,hx,fun HI H3 nq k3=>?_,fun HI=>(qE q2 ⟨_,e1, .inr ⟨m,hN,EE,HI⟩⟩ (by omega) rR).on kk iA⟩
    obtain⟨f1,f2⟩:=dC HI
    exact⟨_,rfl,q m (q2+1) H3 (.inr ⟨_,m,_,e1,hN, .inr ⟨f1,rfl⟩⟩) (by omega) f2 nq (kk.trans k3)⟩
  ·have ne:¬V.str (e9 x p)=V.str "^" :=by rw[HD];exact fun z=>h0 (eI.mp z)
   rw[decide_eq_false ne]
   exact cA (q 0 p H (.inl ⟨h0,rfl,rfl⟩) (Nat.le_refl _) hp ⟨dx,hR⟩ (Kept.refl r H))
def jD(NF C G Pc Fo R:Addr):Sp:=fun vs H Q E=>∃(r:Addr) (x:Str) (p:Nat),vs=[.ref r]∧dv R H r x p∧p≤x.length∧x.length≤1000∧(sf x p).head? =some 101∧
 (sf x p=101::94::45::sf x (p+3)→p+3≤x.length→∀f H',H f=none→Er C G Pc Fo 4 H H' f [] (-1)→dv R H' r x (p+3)→Kept r H H'→Q (.ref f) H')∧(∀e,R4 (sf x p) (sf x e)→p≤e→e≤x.length→Rz NF H r E e)
theorem nB(D:bG K R "read_electron" "Reader.read_electron" gm ["self"])(T:hU K mg C R G Pc Fo uK uN uB uE uM uC uP uI uD uL uT)(c1:a8 P w K mg base 4 R "take_all" ["self","signs"] (mM NF R))(c2:fP P w K mg base 1 Fo ["self","pieces","charge"] [0] (p9 Fo)):
  a8 P w K mg base 5 R "read_electron" ["self"] (jD NF C G Pc Fo R):=by
 obtain⟨_,_,dE⟩:=c1
 obtain⟨_,_,bx⟩:=c2
 obtain⟨_,hX,hZ⟩:=bx.b 1 (by decide)
 refine D.iJ rG (fun vs H Q E h=>?_) (fun f ba A outer s H vs Q E hr h=>?_)
 ·obtain⟨r,x,p,rfl,_⟩:=h
  rfl
 ·obtain⟨r,x,p,rfl,⟨dx,hR⟩,hp,hx,Nt,q,qE⟩:=h
  refine⟨_,(ai
     (bB (bV (pv 0) T.av dE.m dE.ok (hr.mono (by decide)) dE.b .nil a5 (aa (br (v:= .str "e^-") rfl T.iZ ⟨_,rfl⟩) ak)))
    (aq
     (ay (gg bx.m bx.ok (hr.mono (by decide)) rfl T.oy hZ hX aM (aa (b7 ak) (aa (kz gY aj) ak)))))),?_⟩
  have ee:("e^-" :Str).cps.toList=[101,94,45]:=by decide+kernel
  have ea:("e^-" :Str).cps.all (· <128)=true:=by decide+kernel
  have el:("e^-" :Str).length=3:=by decide+kernel
  refine⟨_,rfl,r,dx,_,rfl,hR,aN _ _ (by decide+kernel) (by decide+kernel),r,x,p,_,rfl,ea,⟨dx,hR⟩,hp,hx,fun hs Bz H1 gz k1=>?_,fun i c hc hs hn hl=>?_⟩
  ·obtain⟨vp,gz⟩:=gz
   rw[ee,el] at hs
   rw[el] at Bz gz
   refine⟨(by show 0≤sizeLine;decide),fun l hl=>⟨1,rfl,fun g dg ng CP neg=>⟨g,dg,l, -1,[],rfl,ag,?_,fun m H5 hm hg Ge kp=>⟨rfl,?_⟩⟩⟩⟩
   ·rw[ah (af ag ng),ah (af ag CP)];exact ag
   have sl:aD H1 (upd H1 l (.lst [])):=aD.new hl
   have s5:aD (upd H1 l (.lst [])) H5:=fun b o z=>kp b o (by rw[ah (af z ng),ah (af z CP)];exact z) (af z ng)
   have kf:Kept r H (upd H1 l (.lst [])):=k1.trans (Kept.of sl)
   have LN:=sl _ _ gz
   exact q hs Bz g H5 (a6 kf LN ng) (fun dP ke=>⟨dg,m,[],ke _ _ (a6 kf LN ng) hg,ke _ _ (a6 kf LN (f6 hm)) Ge, .nil⟩) ⟨vp,s5 _ _ LN⟩ (kf.trans (Kept.of s5))
  ·rw[ee] at hc hs
   refine qE (p+i) ?_ (by omega) hl
   match i,hc with
   |0,hc=>
    have:101=c:=by simpa using hc
    subst this
    exact absurd Nt hn
   |1,hc=>
    have:94=c:=by simpa using hc
    subst this
    exact .inl ⟨hs,hn⟩
   |2,hc=>
    have:45=c:=by simpa using hc
    subst this
    exact .inr ⟨hs,hn⟩
def oC(NF C G Pc Fo R:Addr):Sp:=fun vs H Q E=>∃(r:Addr) (x:Str) (p:Nat),vs=[.ref r]∧dv R H r x p∧p≤x.length∧x.length≤1000∧
 (∀xs n q f H',Eu (sf x p) xs n (sf x q)→p≤q→q≤x.length→H f=none→Er C G Pc Fo 4 H H' f xs n→dv R H' r x q→Kept r H H'→Q (.ref f) H')∧(∀e,Ni (sf x p) (sf x e)→p≤e→e≤x.length→Rz NF H r E e)
theorem tN(D:bG K R "read_whole" "Reader.read_whole" k8 ["self"])(T:hU K mg C R G Pc Fo uK uN uB uE uM uC uP uI uD uL uT)(c1:bW P w K mg base 1 R "sign" ["self"] (gq R))(c2:a8 P w K mg base 3 R "take" ["self","sign"] (iz NF R))(c3:a8 P w K mg base 4 R "read_count" ["self"] (eU NF R))(c4:a8 P w K mg base 19 R "read_parts" ["self","around"] (iB NF C G R 4))
  (c5:a8 P w K mg base 5 R "read_charge" ["self"] (mR NF R)) (c6:a8 P w K mg base 5 R "read_electron" ["self"] (jD NF C G Pc Fo R)) (c7:fP P w K mg base 1 Pc ["self","parts","count"] [1] (jA Pc)) (c8:fP P w K mg base 1 Fo ["self","pieces","charge"] [0] (p9 Fo)):
  a8 P w K mg base 20 R "read_whole" ["self"] (oC NF C G Pc Fo R):=by
 obtain⟨_,_,ar⟩:=c1
 obtain⟨_,_,aH⟩:=c2
 obtain⟨_,_,aI⟩:=c3
 obtain⟨_,_,aT⟩:=c4
 obtain⟨_,_,cL⟩:=c5
 obtain⟨_,_,cu⟩:=c6
 obtain⟨_,_,cp⟩:=c7
 obtain⟨_,_,bx⟩:=c8
 obtain⟨_,wW,wX⟩:=cp.b 0 (by decide)
 obtain⟨_,wY,wZ⟩:=cp.b 1 (by decide)
 obtain⟨_,hX,hZ⟩:=bx.b 1 (by decide)
 refine D.iJ mI (fun vs H Q E h=>?_) (fun f ba A outer s H vs Q E hr h=>?_)
 ·obtain⟨r,x,p,rfl,_⟩:=h
  rfl
 ·obtain⟨r,x,p,rfl,⟨dx,hR⟩,hp,hx,q,qE⟩:=h
  have big:(2000 :Nat)≤sizeLine:=by decide
  refine⟨_,(ai
     (aY (au aW (bq (pv 0) T.av ar.m ar.ok (hr.mono (by decide)) ar.b .nil aM) (bw jX (br (v:= .str "e^-") rfl T.iZ ⟨_,rfl⟩) aj (fun _ _=>rfl)) (aA _))
      (aq
       (ay (cN (pv 0) T.av cu.m cu.ok (hr.mono (by decide)) cu.b .nil a5)))
      aK)
    (ai
     (aL (i:=1) mI.nd rfl (Or.inl rfl) (b7 (aa (gg cp.m cp.ok (hr.mono (by decide)) rfl T.vn wX wW aM (aa (bV (pv 0) T.av aT.m aT.ok (hr.mono (by decide)) aT.b .nil a5 (aa aj ak)) ak)) ak)))
    (ai
     (gX mn (au aW (bq (pv 0) T.av ar.m ar.ok (hr.mono (by decide)) ar.b .nil aM) (br (v:= .str ".") rfl T.hV ⟨_,rfl⟩) (aA _))
      (ai
       (bB (bV (pv 0) T.av aH.m aH.ok (hr.mono (by decide)) aH.b .nil a5 (aa (br (v:= .str ".") rfl T.hV ⟨_,rfl⟩) ak)))
      (ai
       (aL (i:=2) mI.nd rfl (Or.inl rfl) (cN (pv 0) T.av aI.m aI.ok (hr.mono (by decide)) aI.b .nil a5))
      (aq
       (bB (eG PySem.F.plainAttrs_list PySem.F.slot_list_append PySem.F.type_list_append cg (pv 1) (aa (gg cp.m cp.ok (hr.mono (by decide)) rfl T.vn wZ wY aM (aa (bV (pv 0) T.av aT.m aT.ok (hr.mono (by decide)) aT.b .nil a5 (aa aj ak)) (aa (pv 2) ak))) ak)))))))
    (aq
     (ay (gg bx.m bx.ok (hr.mono (by decide)) rfl T.oy hZ hX aM (aa (pv 1) (aa (cN (pv 0) T.av cL.m cL.ok (hr.mono (by decide)) cL.b .nil a5) ak)))))))),?_⟩
  refine⟨_,rfl,r,dx,_,rfl,hR,aN _ _ (by decide+kernel) (by decide+kernel),r,x,p,rfl,⟨dx,hR⟩,hp,hx,"e^-",0,101,rfl,rfl,(by decide+kernel),(by decide+kernel),rfl,_,rfl,?_⟩
  by_cases h0:(sf x p).head? =some 101
  ·refine bY (eI.mpr h0) ?_
   exact⟨_,rfl,r,dx,_,rfl,hR,aN _ _ (by decide+kernel) (by decide+kernel),r,x,p,rfl,⟨dx,hR⟩,hp,hx,h0,fun hs hl f H' nf hF dQ k'=>q [] (-1) (p+3) f H' (.inl ⟨hs,rfl,rfl⟩) (by omega) hl nf hF dQ k',fun e hB=>qE e (.inl hB)⟩
  ·refine bT (fun z=>h0 (eI.mp z)) ?_
   refine⟨_,rfl,r,dx,_,rfl,hR,aN _ _ (by decide+kernel) (by decide+kernel),r,x,p,0,rfl,⟨dx,hR⟩,hp,hx,rfl,fun Nu q1 l H1 hS R8 Uc hN gz k1=>?_,fun e hB=>qE e (.inr ⟨h0, .inl hB⟩)⟩
   obtain⟨vp,gz⟩:=gz
   obtain⟨EF,R9,zd,Nv⟩:=hN
   refine fun g dg ng CP neg=>⟨g,dg,l,1,R9.map V.ref,rfl,ag,?_,fun m H2 hm hg Ge kp=>⟨rfl,(by show 1≤sizeLine;decide),fun L hL=>?_⟩⟩
   ·rw[ah (af zd ng),ah (af zd CP)];exact zd
   have s2:aD H1 H2:=fun b o z=>kp b o (by rw[ah (af z ng),ah (af z CP)];exact z) (af z ng)
   have iA:=s2 _ _ gz
   have k2:Kept r H H2:=k1.trans (Kept.of s2)
   have LM:H L=none:=a6 k2 iA hL
   have CS:L≠r:=fun z=>by rw[z,iA] at hL;cases hL
   have sL:aD H2 (upd H2 L (.lst [V.ref g])):=aD.new hL
   have Ud:=a6 k1 gz ng
   have Ue:=a6 k1 gz (f6 hm)
   have first:HF C G Pc L 4 H (upd H2 L (.lst [V.ref g])) g (1,Nu):=fun dP ke=>
    ⟨dg,m,R9,ke _ _ Ud (af hg hL) (sL _ _ hg),ke _ _ Ue (af Ge hL) (sL _ _ Ge),Nv dP fun b o z1 z2=>ke b o z1 (af (s2 _ _ z2) hL) (sL _ _ (s2 _ _ z2))⟩
   refine⟨fun k σ H'=>∃q' xs,k+q'=x.length∧p<q'∧Aw (sf x p) xs (sf x q')∧(∃v:Option V,σ=[some (.ref r),some (.ref L),v])∧dv R H' r x q'∧Kept r H H'∧∃ps,H' L=some (.lst (ps.map V.ref))∧ps.length≤q'∧Paired (HF C G Pc L 4 H H') ps xs,⟨x.length - q1,q1,[(1,Nu)],by omega,R8, .one Nu _ hS,⟨none,rfl⟩,⟨vp,sL _ _ iA⟩,k2.trans (Kept.of sL),[g],ag,by show 1≤q1;omega, .cons first .nil⟩,?_⟩
   rintro k σ H' ⟨q',xs,hk,Ez,Gf,⟨v,rfl⟩,⟨d5,dQ⟩,kk,ps,ED,nM,hP⟩
   have nu:q'≤x.length:=by omega
   refine⟨_,rfl,r,d5,_,rfl,dQ,aN _ _ (by decide+kernel) (by decide+kernel),r,x,_,rfl,⟨d5,dQ⟩,nu,hx,rfl,_,rfl,?_⟩
   by_cases BC:(sf x q').head? =some 46
   ·obtain⟨f1,f2⟩:=dC BC
    rw[f1] at Gf
    refine bY (by rw[LH];exact eI.mpr BC) ?_
    refine⟨_,fun σ' dP h=>h,?_⟩
    refine⟨_,rfl,r,d5,_,rfl,dQ,aN _ _ (by decide+kernel) (by decide+kernel),r,x,q',46,congrArg (fun z=>[V.ref r,V.str z]) LH,⟨d5,dQ⟩,nu,hx,fun _ H3 nq k3=>?_,fun n=>absurd BC n⟩
    obtain⟨EB,nq⟩:=nq
    refine⟨_,rfl,r,EB,_,rfl,nq,aN _ _ (by decide+kernel) (by decide+kernel),r,x,q'+1,rfl,⟨EB,nq⟩,f2,hx,fun c q4 H4 hC Ua EC wV k4=>?_,fun e hB h1 h2=>(qE e (.inr ⟨h0, .inr (.inl ⟨xs,_,Gf, .inl hB⟩)⟩) (by omega) h2).on (kk.trans k3) nq⟩
    obtain⟨LL,wV⟩:=wV
    have LO:=k3.trans k4
    have Nw:=LO _ _ ED CS
    refine⟨_,rfl, .inl ⟨rfl,_,bF.of Nw⟩,_,rfl,r,LL,_,rfl,wV,aN _ _ (by decide+kernel) (by decide+kernel),r,x,q4,0,rfl,⟨LL,wV⟩,EC,hx,rfl,fun R' q5 l' H5 Ug VL Uh Ui HJ k5=>?_,fun e hB h1 h2=>(qE e (.inr ⟨h0, .inr (.inl ⟨xs,_,Gf, .inr ⟨c,_,hC,hB⟩⟩)⟩) (by omega) h2).on (kk.trans LO) wV⟩
    obtain⟨Uj,HJ⟩:=HJ
    obtain⟨Uk,Gg,EG,Nx⟩:=Ui
    refine⟨_,rfl,fun g' HK xG ze Ny=>⟨g',HK,l',c,Gg.map V.ref,rfl,ag,?_,fun m' H6 Nz NA EH NB=>⟨rfl,?_⟩⟩⟩
    ·rw[ah (af EG xG),ah (af EG ze)];exact EG
    have s6:aD H5 H6:=fun b o z=>NB b o (by rw[ah (af z xG),ah (af z ze)];exact z) (af z xG)
    have Sa:Kept r H' H6:=(LO.trans k5).trans (Kept.of s6)
    have NC:=k5 _ _ Nw CS
    have Ul:=s6 _ _ NC
    have Sb:Kept r H H4:=kk.trans LO
    have Sd:Kept r H H5:=Sb.trans k5
    refine⟨L,_,_,rfl,rfl,Ul,by rw[List.length_map];omega,x.length - q5,by omega,q5,xs++[(c,R')],by omega,by omega, .snoc xs _ c _ R' _ Gf hC Ug,⟨_,rfl⟩,⟨Uj,?_⟩,fun b o z w=>?_,ps++[g'],by rw[ag,List.map_append];rfl,by rw[List.length_append];show ps.length+1≤q5;omega,?_⟩
    ·rw[ah (Ne.symm CS),s6 _ _ HJ]
    ·rw[ah (af z LM)]
     exact Sa _ _ (kk _ _ z w) w
    ·refine dn (fun dP ke=>?_) (aR (fun c t h dP ke=>h dP fun b o z1 z2 z3=>ke b o z1 z2 ?_) hP)
     ·have u:∀{b o},H6 b=some o→b≠L→(upd H6 L (.lst (ps.map V.ref++[V.ref g']))) b=some o:=fun {b o} z w=>by rw[ah w];exact z
      have Se:g'≠L:=fun z=>by rw[z,NC] at xG;cases xG
      have ND:=f6 Nz
      have Sf:m'≠L:=fun z=>by rw[z,NC] at ND;cases ND
      refine⟨HK,m',Gg,ke _ _ (a6 Sd HJ xG) Se (u NA Se),ke _ _ (a6 Sd HJ ND) Sf (u EH Sf),Nx dP fun b o z1 z2=>?_⟩
      have CT:b≠L:=fun z=>by rw[z,Nw] at z1;cases z1
      exact ke b o (a6 Sb wV z1) CT (u (s6 _ _ z2) CT)
     ·have CQ:b≠r:=fun z=>by rw[z,hR] at z1;cases z1
      rw[ah z2]
      exact Sa _ _ z3 CQ
   ·refine bT (by rw[LH];exact fun z=>BC (eI.mp z)) ?_
    refine⟨_,rfl,_,rfl,r,d5,_,rfl,dQ,aN _ _ (by decide+kernel) (by decide+kernel),r,x,q',rfl,⟨d5,dQ⟩,nu,hx,fun n q3 H3 hC VM NG nq k3=>?_,fun e hB h1 h2=>(qE e (.inr ⟨h0, .inr (.inr ⟨xs,_,Gf,BC,hB⟩)⟩) (by omega) h2).on kk dQ⟩
    obtain⟨EB,nq⟩:=nq
    have NH:=k3 _ _ ED CS
    have LQ:=kk.trans k3
    refine fun g' HK xG ze Ny=>⟨g',HK,L,n,ps.map V.ref,rfl,ag,?_,fun m' H6 Nz NA EH NB=>⟨rfl,?_⟩⟩
    ·rw[ah (af NH xG),ah (af NH ze)];exact NH
    have s6:aD H3 H6:=fun b o z=>NB b o (by rw[ah (af z xG),ah (af z ze)];exact z) (af z xG)
    refine q xs n q3 g' H6 (.inr ⟨h0,_,Gf,BC,hC⟩) (by omega) NG (a6 LQ nq xG) (fun dP ke=>?_) ⟨EB,s6 _ _ nq⟩ (LQ.trans (Kept.of s6))
    refine⟨HK,m',ps,ke _ _ (a6 LQ nq xG) NA,ke _ _ (a6 LQ nq (f6 Nz)) EH,aR (fun c t h=>h dP fun b o z1 z2 z3=>ke b o z1 ?_) hP⟩
    have CQ:b≠r:=fun z=>by rw[z,hR] at z1;cases z1
    exact s6 _ _ (k3 _ _ z3 CQ)
variable {HE NF TL:Addr}{uC uP uI uD uL uT:Tok}
def Rf(X:Addr)(fld:Str)(H:Hp)(E:XK)(e:Nat):Prop:=∀b dx H',H b=none→H dx=none→H' b=some (wB b X (some dx))→H' dx=some (xE dx [(fld, .int (e:Int))])→aD H H'→E (.ref X) (some dx) H'
def mS(TL:Addr):Sp:=fun vs H Q E=>∃x:Str,vs=[.str x]∧x.length≤10000∧(x.length≤400→Q .cw H)∧(400<x.length→Rf TL "many" H E x.length)
def vq(NF TL C G Pc Fo:Addr):Sp:=fun vs H Q E=>∃x:Str,vs=[.str x]∧x.length≤10000∧
 (x.length≤400→∀xs n f H',Eu x.cps.toList xs n []→H f=none→Er C G Pc Fo 4 H H' f xs n→aD H H'→Q (.ref f) H')∧
 (x.length≤400→∀e,e≤x.length→R5 x.cps.toList (sf x e)→Rf NF "place" H E e)∧(400<x.length→Rf TL "many" H E x.length)
theorem rT(D:Def K mg "refuse_too_long" "refuse_too_long" jh ["text"])(T:hU K mg C R G Pc Fo uK uN uB uE uM uC uP uI uD uL uT)(TE:qb K mg HE NF TL)(c1:g7 P w K mg base 1 "TooLong" TL HE ["self","many"] (mK TL "many")):rn P w K mg base 3 "refuse_too_long" ["text"] (mS TL):=by
 obtain⟨_,_,eV⟩:=c1
 refine D.iJ wN (fun vs H Q E h=>?_) (fun f ba A outer s H vs Q E hr h=>?_)
 ·obtain⟨x,rfl,_⟩:=h
  rfl
 ·obtain⟨x,rfl,hx,q,qE⟩:=h
  have big:(10000 :Nat)≤sizeLine:=by decide
  refine⟨_,(aq
     (aY (au kA (a9 bP rfl T.er cH (aa (pv 0) ak)) (br (v:= .int 400) rfl T.mH ⟨_,rfl⟩) (aA _))
      (aq
       (fT rfl a5 (fS eV.z eV.ok (hr.mono (by decide)) rfl eV.g eV.kp eV.b (aa (a9 bP rfl T.er cH (aa (pv 0) ak)) ak))))
      aK)),?_⟩
  refine⟨_,rfl,x,rfl,by omega,_,_,rfl,rfl,_,rfl,?_⟩
  by_cases h:400<x.length
  ·refine bY (by omega) ⟨_,rfl,x,rfl,by omega,(by show 1≤100;decide),fun b hb=>?_⟩
   refine⟨b,_,rfl,ag,by omega,by omega,fun mO H5 mL kO y7 wO k5=>⟨rfl,b,TL,HE,_,some mO,rfl,eV.z,y7,?_⟩⟩
   rw[ah kO] at mL
   refine qE h b mO _ hb mL ag (by rw[ah kO];exact wO) fun b' o z=>?_
   have Ey:b'≠b:=af z hb
   rw[ah Ey]
   exact k5 _ _ (by rw[ah Ey];exact z) Ey
  ·exact bT (by omega) (q (by omega))
theorem qc(D:Def K mg "read_formula" "read_formula" iw ["text"])(T:hU K mg C R G Pc Fo uK uN uB uE uM uC uP uI uD uL uT)(c1:rn P w K mg base 3 "refuse_too_long" ["text"] (mS TL))(c2:fP P w K mg base 1 R ["self","text"] [] (vk R))(c3:a8 P w K mg base 20 R "read_whole" ["self"] (oC NF C G Pc Fo R))(c4:a8 P w K mg base 3 R "take_end" ["self"] (mN NF R)):
  rn P w K mg base 21 "read_formula" ["text"] (vq NF TL C G Pc Fo):=by
 obtain⟨_,_,cD⟩:=c1
 obtain⟨_,_,av⟩:=c2
 obtain⟨_,_,cS⟩:=c3
 obtain⟨_,_,dF⟩:=c4
 obtain⟨_,tO,tP⟩:=av.b 0 (by decide)
 refine D.iJ i0 (fun vs H Q E h=>?_) (fun f ba A outer s H vs Q E hr h=>?_)
 ·obtain⟨x,rfl,_⟩:=h
  rfl
 ·obtain⟨x,rfl,hx,q,qE,qL⟩:=h
  refine⟨_,(ai
     (bB (rj cD.ok (hr.mono (by decide)) rfl cD.g cD.kp cD.b .nil a5 (aa (pv 0) ak)))
    (ai
     (aL (i:=1) i0.nd rfl (Or.inl rfl) (gg av.m av.ok (hr.mono (by decide)) rfl T.yY tP tO aM (aa (pv 0) ak)))
    (ai
     (aL (i:=2) i0.nd rfl (Or.inl rfl) (cN (pv 1) T.av cS.m cS.ok (hr.mono (by decide)) cS.b .nil a5))
    (ai
     (bB (cN (pv 1) T.av dF.m dF.ok (hr.mono (by decide)) dF.b .nil a5))
    (aq
     (ay (pv 2))))))),?_⟩
  refine⟨_,rfl,x,rfl,hx,fun h4=>?_,qL⟩
  have q:=q h4
  have qE:=qE h4
  refine⟨_,rfl,fun r dr nr Um VN=>⟨r,dr,x,rfl,ag,fun H1 gz k1=>⟨rfl,?_⟩⟩⟩
  obtain⟨vp,gz⟩:=gz
  have s1:aD H H1:=fun b o z=>k1 b o (by rw[ah (af z nr),ah (af z Um)];exact z) (af z nr)
  have back:∀b,H1 b=none→H b=none:=fun b z=>by
   cases hh:H b with
   |none=>rfl
   |some o=>rw[s1 _ _ hh] at z;cases z
  have up:∀{e},Rf NF "place" H E e→Rz NF H1 r E e:=fun h b dx H' nb nd h1 h2 k=>h b dx H' (back b nb) (back dx nd) h1 h2 fun b o z=>k b o (s1 _ _ z) (af z nr)
  have xl:x.cps.toList.length=x.length:=by simp [Str.length]
  refine⟨_,rfl,r,vp,_,rfl,gz,aN _ _ (by decide+kernel) (by decide+kernel),r,x,0,rfl,⟨vp,gz⟩,Nat.zero_le _,by omega,fun xs n q2 f H2 hW _ EA nf hF iA k2=>?_,fun e hB _ he=>up (qE e he (.inl hB))⟩
  obtain⟨mO,iA⟩:=iA
  refine⟨_,rfl,r,mO,_,rfl,iA,aN _ _ (by decide+kernel) (by decide+kernel),r,x,q2,rfl,⟨mO,iA⟩,EA,by omega,fun h=>?_,fun h=>(up (qE q2 EA (.inr ⟨xs,n,hW,?_⟩))).on k2 iA⟩
  ·refine⟨_,rfl,q xs n f H2 ?_ (back f nf) (fun dP ke=>hF dP fun b o z1 z2=>ke b o (back b z1) z2) fun b o z=>k2 b o (s1 _ _ z) (af z nr)⟩
   have:sf x q2=[]:=List.drop_eq_nil_of_le (by omega)
   rw[←this]
   exact hW
  ·intro z
   have:=kj x q2
   rw[z] at this
   simp at this
   omega
inductive Nm where
 |start|HL|part|dot|i3|minus|bo|stop
 deriving DecidableEq
structure S8 where
 nm:Nm
 sm:Nat
 fg:Nat
 al:Bool
def vt(s:S8)(dp c:Nat):Option (S8×Nat):=if s.fg=3∨s.fg=0∧c=48 then none else some (⟨s.nm,0,s.fg+1,decide (s.fg=0)&&decide (c=49)⟩,dp)
def zg(s:S8)(dp c:Nat):Option (S8×Nat):=if iQ c=true then some (⟨.part,2,0,false⟩,dp) else if s.nm= .start∧c=101 then some (⟨.i3,0,0,false⟩,dp) else if s.nm= .part∧0<s.sm∧s.fg=0 then some (⟨.part,s.sm - 1,0,false⟩,dp) else none
def BD(m:Nm):Nat:=if m= .i3 then 94 else if m= .minus then 45 else 43
def iL(s:S8)(dp c:Nat):Option (S8×Nat):=
 if jN c=true∧(s.nm= .part∨s.nm= .dot∨s.nm= .bo) then vt s dp c
 else if s.al=true∨s.nm= .stop then none
 else if s.nm= .i3∨s.nm= .minus∨s.nm= .bo then (if c=BD s.nm∨s.nm= .bo∧c=45 then some (⟨if s.nm= .i3 then .minus else .stop,0,0,false⟩,dp) else none)
 else if iQ c=true∨j6 c=true then zg s dp c
 else if c=40∧dp<4 then some (⟨.HL,0,0,false⟩,dp+1)
 else if s.nm= .part∧c=41∧0<dp then some (⟨.part,0,0,false⟩,dp - 1)
 else if s.nm= .part∧(c=46∨c=94)∧dp=0 then some (⟨if c=46 then .dot else .bo,0,0,false⟩,dp)
 else none
def rV(s:S8)(dp:Nat):Prop:=s.nm= .stop∨s.nm= .part∧dp=0∧s.al=false
instance (s:S8) (dp:Nat):Decidable (rV s dp):=by unfold rV;infer_instance
def vd:S8→Nat→List Nat→Option (List Nat)
 |s,dp,[]=>if rV s dp then none else some []
 |s,dp,c::r=>match iL s dp c with
  |none=>some (c::r)
  |some (s',d')=>vd s' d' r
theorem iR{s:S8}{dp c:Nat}{r:List Nat}(h:iL s dp c=none):vd s dp (c::r)=some (c::r):=by rw[vd,h]
theorem dR{s s':S8}{dp d' c:Nat}{r:List Nat}(h:iL s dp c=some (s',d')):vd s dp (c::r)=vd s' d' r:=by rw[vd,h]
theorem mT{s:S8}{dp:Nat}(h:¬rV s dp):vd s dp []=some []:=by rw[vd,if_neg h]
theorem mU{c:Nat}(h:jN c=true):iQ c=false∧j6 c=false∧c≠40∧c≠41∧c≠46∧c≠94∧c≠45∧c≠43∧c≠101:=by
 simp only [jN,iQ,j6,Bool.and_eq_true,decide_eq_true_eq,Bool.and_eq_false_iff,decide_eq_false_iff_not] at*
 omega
theorem HM{c:Nat}(h:iQ c=true):jN c=false∧j6 c=false∧c≠40:=by
 simp only [jN,iQ,j6,Bool.and_eq_true,decide_eq_true_eq,Bool.and_eq_false_iff,decide_eq_false_iff_not] at*
 omega
theorem vv{c:Nat}(h:j6 c=true):jN c=false∧iQ c=false∧c≠40:=by
 simp only [jN,iQ,j6,Bool.and_eq_true,decide_eq_true_eq,Bool.and_eq_false_iff,decide_eq_false_iff_not] at*
 omega
theorem BE{s:S8}{dp:Nat}(hn:s.nm= .part∨s.nm= .dot∨s.nm= .bo):∀(w v:List Nat),w.all jN=true→s.fg+w.length≤3→(s.fg=0→w.head? ≠some 48)→w≠[]→
  vd s dp (w++v)=vd ⟨s.nm,0,s.fg+w.length,decide (s.fg=0)&&decide (w=[49])⟩ dp v:=by
 intro w
 induction w generalizing s with
 |nil=>intro _ _ _ _ h;exact absurd rfl h
 |cons c r ih=>
  intro v ha hl h0 _
  rw[List.all_cons,Bool.and_eq_true] at ha
  rw[List.length_cons] at hl
  have e:iL s dp c=some (⟨s.nm,0,s.fg+1,decide (s.fg=0)&&decide (c=49)⟩,dp):=by
   unfold iL vt
   rw[if_pos ⟨ha.1,hn⟩,if_neg]
   rintro (z| ⟨z1,z2⟩)
   ·omega
   ·exact h0 z1 (by rw[z2];rfl)
  rw[List.cons_append,dR e]
  cases r with
  |nil=>
   have:(decide ([c]=[49]):Bool)=decide (c=49):=by simp
   rw[this]
   rfl
  |cons b t=>
   rw[ih (s:=⟨s.nm,0,s.fg+1,decide (s.fg=0)&&decide (c=49)⟩) hn v ha.2 (by show s.fg+1+(b::t).length≤3;omega) (fun z=>absurd z (Nat.succ_ne_zero _)) (by simp)]
   show vd ⟨s.nm,0,s.fg+1+(b::t).length,decide (s.fg+1=0)&&_⟩ dp v=_
   have e1:(decide (s.fg+1=0):Bool)=false:=by simp
   have e2:(decide (c::b::t=[49]):Bool)=false:=by simp
   rw[e1,e2,Bool.and_false,Bool.false_and,List.length_cons (a:=c)]
   rw[show s.fg+1+(b::t).length=s.fg+((b::t).length+1) by omega]
def NI(s:S8)(v:List Nat):Prop:=∀c,v.head? =some c→jN c=true→s.fg=3
theorem kq{s:S8}{dp:Nat}(hn:s.nm= .part∨s.nm= .dot∨s.nm= .bo)(hf:s.fg=0)(ha:s.al=false){u v:List Nat}{n:Int}(h:kN 3 u n v):∃s',vd s dp u=vd s' dp v∧s'.nm=s.nm∧s'.al=false∧NI s' v∧(s'=s∧u=v∨s'.fg≠0):=by
 obtain⟨e,n1,n2,hl,hv⟩:=h
 obtain⟨m,rfl,m1,m0⟩:=yU n1 (by omega)
 by_cases hw:bA (m:Int)=[]
 ·rw[hw] at e hl hv
  refine⟨s,by rw[e];rfl,rfl,ha,fun c hc hF=>?_, .inl ⟨rfl,e⟩⟩
  rcases hv with z|z
  ·rw[z c hc] at hF;cases hF
  ·cases z
 ·have Uo:=Bk m
  have e2:=BE (s:=s) (dp:=dp) hn (bA (m:Int)) v (lz m) (by omega) (fun _=>yN m m0) hw
  refine⟨⟨s.nm,0,s.fg+(bA (m:Int)).length,false⟩,?_,rfl,rfl,fun c hc hF=>?_, .inr ?_⟩
  ·rw[e,e2]
   have:(decide (bA (m:Int)=[49]):Bool)=false:=by simpa using Uo
   rw[this,Bool.and_false]
  ·rcases hv with z|z
   ·rw[z c hc] at hF;cases hF
   ·show s.fg+(bA (m:Int)).length=3
    omega
  ·show s.fg+(bA (m:Int)).length≠0
   have:(bA (m:Int)).length≠0:=fun z=>hw (List.length_eq_zero_iff.mp z)
   omega
theorem lE{s:S8}{dp:Nat}(hn:s.nm= .part∨s.nm= .dot∨s.nm= .bo)(hf:s.fg=0){u v:List Nat}(h:rH u v):vd s dp u=some v:=by
 rcases h with ⟨rfl,h⟩ | ⟨rfl,h⟩
 ·cases v with
  |nil=>cases h
  |cons c r=>
   have:c=48:=by simpa using h
   subst this
   refine iR ?_
   unfold iL vt
   rw[if_pos ⟨rfl,hn⟩,if_pos (.inr ⟨hf,rfl⟩)]
 ·have e:iL s dp 49=some (⟨s.nm,0,1,true⟩,dp):=by
   unfold iL vt
   rw[if_pos ⟨rfl,hn⟩,if_neg (by rw[hf];decide),hf]
   rfl
  rw[dR e]
  cases v with
  |nil=>
   refine mT ?_
   rintro (z| ⟨_,_,z⟩)
   ·rcases hn with n|n|n<;>(have z:s.nm= .stop:=z;rw[n] at z;cases z)
   ·cases z
  |cons c r=>
   refine iR ?_
   unfold iL
   rw[if_neg (fun z=>by rw[h c rfl] at z;cases z.1),if_pos (.inl rfl)]
def xH(s:S8)(v:List Nat):Prop:=s.nm= .part∧s.al=false∧NI s v∧∀c,v.head? =some c→j6 c=true→s.sm=0∨s.fg≠0
def gT(s:S8)(u:List Nat):Prop:=s.al=false∧(s.nm= .start∧u.head? ≠some 101∨s.nm= .HL∨s.nm= .dot∧NI s u∨s.nm= .part∧More u)
theorem gT.nm{s:S8}{u:List Nat}(h:gT s u):s.nm≠ .stop∧s.nm≠ .i3∧s.nm≠ .minus∧s.nm≠ .bo:=by
 rcases h.2 with z|z|z|z
 ·rw[z.1];decide
 ·rw[z];decide
 ·rw[z.1];decide
 ·rw[z.1];decide
theorem w5{s:S8}{dp c:Nat}{r:List Nat}(h:gT s (c::r))(hg:iQ c=true):iL s dp c=some (⟨.part,2,0,false⟩,dp):=by
 obtain⟨n1,n2,n3,n4⟩:=h.nm
 have ha:=h.1
 unfold iL zg
 rw[if_neg (fun z=>by rw[(HM hg).1] at z;cases z.1),if_neg (fun z=>by rcases z with z|z;rw[ha] at z;cases z;exact n1 z),if_neg (fun z=>by rcases z with z|z|z;exact n2 z;exact n3 z;exact n4 z),if_pos (.inl hg),if_pos hg]
theorem w6{sm dp c:Nat}(h:j6 c=true):iL ⟨.part,sm+1,0,false⟩ dp c=some (⟨.part,sm,0,false⟩,dp):=by
 unfold iL zg
 rw[if_neg (fun z=>by rw[(vv h).1] at z;cases z.1),if_neg (by simp),if_neg (by simp),if_pos (.inr h),if_neg (by rw[(vv h).2.1];simp),if_neg (by simp),if_pos ⟨rfl,Nat.succ_pos _,rfl⟩]
 rfl
theorem oE:∀(w v:List Nat) (sm dp:Nat),w.all j6=true→vd ⟨.part,sm+w.length,0,false⟩ dp (w++v)=vd ⟨.part,sm,0,false⟩ dp v
 | [],v,sm,dp,_=>rfl
 |c::r,v,sm,dp,h=>by
  rw[List.all_cons,Bool.and_eq_true] at h
  rw[List.length_cons,←Nat.add_assoc,List.cons_append,dR (w6 h.1),oE r v sm dp h.2]
theorem vw{s:S8}{dp:Nat}{k w:List Nat}(h:gT s (k++w))(hk:lD k):vd s dp (k++w)=vd ⟨.part,3 - k.length,0,false⟩ dp w:=by
 obtain⟨c,r,rfl,hg,hs,hl⟩:=hk
 rw[List.cons_append] at h ⊢
 rw[dR (w5 h hg)]
 have:=oE r w (2 - r.length) dp hs
 rw[show 2 - r.length+r.length=2 by omega] at this
 rw[this,List.length_cons]
 rw[show 3 - (r.length+1)=2 - r.length by omega]
theorem rW{s:S8}{dp:Nat}{u k v:List Nat}{n:Int}(h:gT s u)(a:kG u k n v):∃s',vd s dp u=vd s' dp v∧xH s' v:=by
 obtain⟨w,rfl,hk,hs,hN⟩:=a
 rw[vw h hk]
 obtain⟨s',e,h1,h2,h3,h4⟩:=kq (s:=⟨.part,3 - k.length,0,false⟩) (dp:=dp) (.inl rfl) rfl rfl hN
 refine⟨s',e,h1,h2,h3,fun c hc hS=>?_⟩
 rcases h4 with ⟨rfl,rfl⟩ |z
 ·rcases hs with z|z
  ·left
   show 3 - k.length=0
   omega
  ·rw[z c hc] at hS;cases hS
 ·exact .inr z
theorem rX{s:S8}{dp:Nat}{u v:List Nat}(h:gT s u)(h4:dp=4∨u.head? ≠some 40)(a:vo u v):vd s dp u=some v:=by
 rcases a with ⟨rfl,a⟩ | ⟨k,w,rfl,hk,hs,hN⟩
 ·obtain⟨n1,n2,n3,n4⟩:=h.nm
  have ha:=h.1
  cases v with
  |nil=>
   refine mT ?_
   rintro (z| ⟨z,_⟩)
   ·exact n1 z
   ·rcases h.2 with y|y|y|y
    ·rw[y.1] at z;cases z
    ·rw[y] at z;cases z
    ·rw[y.1] at z;cases z
    ·obtain⟨c,hc,_⟩:=y.2;cases hc
  |cons c r=>
   refine iR ?_
   have hg:iQ c=false:=a c rfl
   unfold iL
   by_cases hF:jN c=true
   ·by_cases hp:s.nm= .part∨s.nm= .dot∨s.nm= .bo
    ·rw[if_pos ⟨hF,hp⟩]
     unfold vt
     rcases h.2 with y|y|y|y
     ·rw[y.1] at hp;rcases hp with z|z|z<;>cases z
     ·rw[y] at hp;rcases hp with z|z|z<;>cases z
     ·rw[if_pos (.inl (y.2 c rfl hF))]
     ·obtain⟨b,hb,uR⟩:=y.2
      have:c=b:=by simpa using hb
      subst this
      rcases uR with z|z
      ·rw[hg] at z;cases z
      ·exact absurd z (mU hF).2.2.1
    ·rw[if_neg (fun z=>hp z.2),if_neg (fun z=>by rcases z with z|z;rw[ha] at z;cases z;exact n1 z),if_neg (fun z=>by rcases z with z|z|z;exact n2 z;exact n3 z;exact n4 z),if_neg (by rw[hg,(mU hF).2.1];simp),if_neg (fun z=>(mU hF).2.2.1 z.1),if_neg (fun z=>(mU hF).2.2.2.1 z.2.1),if_neg (fun z=>by rcases z.2.1 with y|y;exact(mU hF).2.2.2.2.1 y;exact(mU hF).2.2.2.2.2.1 y)]
   ·rw[if_neg (fun z=>hF z.1),if_neg (fun z=>by rcases z with z|z;rw[ha] at z;cases z;exact n1 z),if_neg (fun z=>by rcases z with z|z|z;exact n2 z;exact n3 z;exact n4 z)]
    have Sg:c≠40→s.nm≠ .part:=fun ko hp=>by
     rcases h.2 with y|y|y|y
     ·rw[y.1] at hp;cases hp
     ·rw[y] at hp;cases hp
     ·rw[y.1] at hp;cases hp
     ·obtain⟨b,hb,uR⟩:=y.2
      have:c=b:=by simpa using hb
      subst this
      rcases uR with z|z
      ·rw[hg] at z;cases z
      ·exact ko z
    by_cases hS:j6 c=true
    ·rw[if_pos (.inr hS)]
     unfold zg
     have hp:=Sg (vv hS).2.2
     rw[if_neg (by rw[hg];simp),if_neg,if_neg (fun z=>hp z.1)]
     rintro ⟨z1,z2⟩
     rcases h.2 with y|y|y|y
     ·exact y.2 (by rw[z2];rfl)
     ·rw[y] at z1;cases z1
     ·rw[y.1] at z1;cases z1
     ·rw[y.1] at z1;cases z1
    ·rw[if_neg (by rw[hg];rintro (z|z);cases z;exact hS z)]
     by_cases ko:c=40
     ·subst ko
      have d4:dp=4:=h4.elim id fun z=>absurd rfl z
      rw[if_neg (fun z=>by omega),if_neg (fun z=>by cases z.2.1),if_neg (fun z=>by rcases z.2.1 with y|y<;>cases y)]
     ·have hp:=Sg ko
      rw[if_neg (fun z=>ko z.1),if_neg (fun z=>hp z.1),if_neg (fun z=>hp z.1)]
 ·rw[vw h hk]
  exact lE (.inl rfl) rfl hN
theorem xH.exp{s:S8}{v:List Nat}(h:xH s v)(m:More v):gT s v:=⟨h.2.1, .inr (.inr (.inr ⟨h.1,m⟩))⟩
theorem oF{p:List Nat→Tr→List Nat→Prop}{dp:Nat}(hp:∀s u t v,gT s u→p u t v→∃s',vd s dp u=vd s' dp v∧xH s' v){s:S8}{u:List Nat}(h:gT s u):∀{ts:List Tr} {v:List Nat},Sq p u ts v→∃s',vd s dp u=vd s' dp v∧xH s' v:=by
 intro ts v q
 induction q with
 |one t v a=>exact hp s u t v h a
 |snoc ts w t v _ m a ih=>
  obtain⟨s',e,c⟩:=ih
  obtain⟨s2,e2,c2⟩:=hp s' w t v (c.exp m) a
  exact⟨s2,e.trans e2,c2⟩
theorem tQ{p:List Nat→Tr→List Nat→Prop}{b:List Nat→List Nat→Prop}{dp:Nat}(hp:∀s u t v,gT s u→p u t v→∃s',vd s dp u=vd s' dp v∧xH s' v)(hb:∀s u v,gT s u→b u v→vd s dp u=some v){s:S8}{u v:List Nat}(h:gT s u)(q:Gb p b u v):vd s dp u=some v:=by
 rcases q with q| ⟨ts,w,q,m,a⟩
 ·exact hb s u v h q
 ·obtain⟨s',e,c⟩:=oF hp h q
  rw[e]
  exact hb s' w v (c.exp m) a
theorem rY{s:S8}{dp:Nat}{r:List Nat}(h:gT s (40::r))(hd:dp<4):iL s dp 40=some (⟨.HL,0,0,false⟩,dp+1):=by
 obtain⟨n1,n2,n3,n4⟩:=h.nm
 have ha:=h.1
 unfold iL
 rw[if_neg (fun z=>by cases z.1),if_neg (fun z=>by rcases z with z|z;rw[ha] at z;cases z;exact n1 z),if_neg (fun z=>by rcases z with z|z|z;exact n2 z;exact n3 z;exact n4 z),if_neg (by decide),if_pos ⟨rfl,hd⟩]
theorem rZ{s:S8}{dp:Nat}{r:List Nat}(h:xH s (41::r)):iL s (dp+1) 41=some (⟨.part,0,0,false⟩,dp):=by
 obtain⟨hn,ha,_⟩:=h
 unfold iL
 rw[if_neg (fun z=>by cases z.1),if_neg (by rw[ha,hn];decide),if_neg (by rw[hn];decide),if_neg (by decide),if_neg (fun z=>by cases z.1),if_pos ⟨hn,rfl,Nat.succ_pos _⟩]
 rfl
theorem xH.no{s:S8}{dp c:Nat}{r:List Nat}(h:xH s (c::r))(hm:¬More (c::r))(xF:c=41→dp=0)(h0:c=46∨c=94→dp≠0):iL s dp c=none:=by
 obtain⟨hn,ha,hF,hS⟩:=h
 have hg:iQ c=false:=by
  cases e:iQ c with
  |false=>rfl
  |true=>exact absurd ⟨c,rfl, .inl e⟩ hm
 have ko:c≠40:=fun z=>hm ⟨c,rfl, .inr z⟩
 unfold iL
 by_cases f:jN c=true
 ·rw[if_pos ⟨f, .inl hn⟩]
  unfold vt
  rw[if_pos (.inl (hF c rfl f))]
 ·rw[if_neg (fun z=>f z.1),if_neg (by rw[ha,hn];decide),if_neg (by rw[hn];decide)]
  by_cases hs:j6 c=true
  ·rw[if_pos (.inr hs)]
   unfold zg
   rw[if_neg (by rw[hg];simp),if_neg (by rw[hn];rintro ⟨z,_⟩;cases z),if_neg]
   rintro ⟨_,z1,z2⟩
   rcases hS c rfl hs with z|z
   ·omega
   ·exact z z2
  ·rw[if_neg (by rw[hg];rintro (z|z);cases z;exact hs z),if_neg (fun z=>ko z.1),if_neg (fun z=>by have:=xF z.2.1;omega),if_neg (fun z=>h0 z.2.1 z.2.2)]
theorem qd:∀(d dp:Nat),dp+d=4→(∀s u t v,gT s u→nj d u t v→∃s',vd s dp u=vd s' dp v∧xH s' v)∧(∀s u v,gT s u→Et d u v→vd s dp u=some v)
 |0,dp,hd=>⟨fun s u t v h ⟨k,n,_,a⟩=>rW h a,fun s u v h a=>rX h (.inl hd) a⟩
 |d+1,dp,hd=>by
  obtain⟨hG,hB⟩:=qd d (dp+1) (by omega)
  have e0:∀u':List Nat,gT ⟨.HL,0,0,false⟩ u':=fun u'=>⟨rfl, .inr (.inl rfl)⟩
  refine⟨fun s u t v h a=>?_,fun s u v h a=>?_⟩
  ·rcases a with ⟨_,k,n,_,a⟩ | ⟨u',ts,n,w,rfl,rfl,⟨q,_⟩,hN⟩
   ·exact rW h a
   ·obtain⟨s',e,c⟩:=oF hG (e0 u') q
    obtain⟨s2,e2,h1,h2,h3,h4⟩:=kq (s:=⟨.part,0,0,false⟩) (dp:=dp) (.inl rfl) rfl rfl hN
    refine⟨s2,by rw[dR (rY h (by omega)),e,dR (rZ c),e2],h1,h2,h3,fun b hb hS=>?_⟩
    rcases h4 with ⟨z,_⟩ |z
    ·rw[z];exact .inl rfl
    ·exact .inr z
  ·rcases a with ⟨ko,a⟩ | ⟨u',rfl,a⟩
   ·exact rX h (.inr ko) a
   ·rw[dR (rY h (by omega))]
    rcases a with a| ⟨ts,⟨q,hm⟩,xF⟩ | ⟨ts,w,⟨q,_⟩,hN⟩
    ·exact tQ hG hB (e0 u') a
    ·obtain⟨s',e,c⟩:=oF hG (e0 u') q
     rw[e]
     cases v with
     |nil=>
      refine mT ?_
      rintro (z| ⟨_,z,_⟩)
      ·rw[c.1] at z;cases z
      ·omega
     |cons b r=>exact iR (c.no hm (fun z=>absurd (by rw[z];rfl) xF) fun _=>Nat.succ_ne_zero _)
    ·obtain⟨s',e,c⟩:=oF hG (e0 u') q
     rw[e,dR (rZ c)]
     exact lE (.inl rfl) rfl hN
theorem lF{s:S8}{c:Nat}{r:List Nat}(h:xH s (c::r))(hc:c=46∨c=94):iL s 0 c=some (⟨if c=46 then .dot else .bo,0,0,false⟩,0):=by
 obtain⟨hn,ha,_⟩:=h
 have h1:jN c=false∧iQ c=false∧j6 c=false∧c≠40∧c≠41:=by rcases hc with rfl|rfl<;>decide
 unfold iL
 rw[if_neg (fun z=>by rw[h1.1] at z;cases z.1),if_neg (by rw[ha,hn];decide),if_neg (by rw[hn];decide),if_neg (by rw[h1.2.1,h1.2.2.1];simp),if_neg (fun z=>h1.2.2.2.1 z.1),if_neg (fun z=>h1.2.2.2.2 z.2.1),if_pos ⟨hn,hc,rfl⟩]
theorem tR{s:S8}{u:List Nat}(h:gT s u):∀{ps:List d8} {v:List Nat},Aw u ps v→(∃s',vd s 0 u=vd s' 0 v∧xH s' v)∧¬More v:=by
 obtain⟨hG,hB⟩:=qd 4 0 rfl
 intro ps v q
 induction q with
 |one ts v a=>exact⟨oF hG h a.1,a.2⟩
 |snoc ps w m w1 ts v _ n a ih=>
  obtain⟨⟨s',e,c⟩,_⟩:=ih
  obtain⟨s2,e2,h1,h2,h3,_⟩:=kq (s:=⟨.dot,0,0,false⟩) (dp:=0) (.inr (.inl rfl)) rfl rfl n
  obtain⟨s3,e3,c3⟩:=oF hG (s:=s2) ⟨h2, .inr (.inr (.inl ⟨h1,h3⟩))⟩ a.1
  exact⟨⟨s3,by rw[e,dR (lF c (.inl rfl))];exact e2.trans e3,c3⟩,a.2⟩
def vx:S8:=⟨.start,0,0,false⟩
theorem EI:∀v:List Nat,vd vx 0 (101::v)=vd ⟨.i3,0,0,false⟩ 0 v:=fun _=>dR rfl
theorem zh{u v:List Nat}{xs:List d8}{n:Int}(h:Eu u xs n v):vd vx 0 u=if v=[] then none else some v:=by
 rcases h with ⟨rfl,_⟩ | ⟨h0,w,q,BC,c⟩
 ·rw[EI,dR (s':=⟨.minus,0,0,false⟩) (d':=0) rfl,dR (s':=⟨.stop,0,0,false⟩) (d':=0) rfl]
  cases v with
  |nil=>rfl
  |cons c r=>
   rw[if_neg (by simp)]
   refine iR ?_
   unfold iL
   rw[if_neg (by rintro ⟨_,z|z|z⟩<;>cases z),if_pos (.inr rfl)]
 ·obtain⟨⟨s',e,cl⟩,hm⟩:=tR (s:=vx) ⟨rfl, .inl ⟨rfl,h0⟩⟩ q
  rw[e]
  rcases c with ⟨Up,_,rfl⟩ | ⟨u',m,w2,rfl,hN,hs⟩
  ·cases v with
   |nil=>
    rw[if_pos rfl,vd,if_pos (.inr ⟨cl.1,rfl,cl.2.1⟩)]
   |cons b r=>
    rw[if_neg (by simp)]
    exact iR (cl.no hm (fun _=>rfl) fun z=>by
     rcases z with z|z
     ·exact absurd (by rw[z];rfl) BC
     ·exact absurd (by rw[z];rfl) Up)
  ·obtain⟨s2,e2,h1,h2,h3,_⟩:=kq (s:=⟨.bo,0,0,false⟩) (dp:=0) (.inr (.inr rfl)) rfl rfl hN
   rw[dR (lF cl (.inr rfl))]
   show vd ⟨.bo,0,0,false⟩ 0 u'=_
   rw[e2]
   have hs:∃b,w2=b::v∧(b=45∨b=43):=by
    rcases hs with ⟨z,_⟩ | ⟨z,_⟩
    ·exact⟨_,z, .inl rfl⟩
    ·exact⟨_,z, .inr rfl⟩
   obtain⟨b,rfl,hb⟩:=hs
   have hn:s2.nm= .bo:=h1
   have en:iL s2 0 b=some (⟨.stop,0,0,false⟩,0):=by
    unfold iL
    rw[if_neg (by rcases hb with rfl|rfl<;>(rintro ⟨z,_⟩;cases z)),if_neg (by rw[h2,hn];decide),if_pos (.inr (.inr hn)),hn,if_pos (by rcases hb with rfl|rfl;exact .inr ⟨rfl,rfl⟩;exact .inl rfl)]
    rfl
   rw[dR en]
   cases v with
   |nil=>rfl
   |cons c r=>
    rw[if_neg (by simp)]
    refine iR ?_
    unfold iL
    rw[if_neg (by rintro ⟨_,z|z|z⟩<;>cases z),if_pos (.inr rfl)]
theorem EJ{u v:List Nat}(h:Ni u v):vd vx 0 u=some v:=by
 have ro:∀(m:Nm) (c:Nat) (r:List Nat),(m= .i3∧c≠94∨m= .minus∧c≠45)→vd ⟨m,0,0,false⟩ 0 (c::r)=some (c::r):=fun m c r hh=>by
  refine iR ?_
  unfold iL
  rcases hh with ⟨rfl,z⟩ | ⟨rfl,z⟩
  ·rw[if_neg (by rintro ⟨_,z|z|z⟩<;>cases z),if_neg (by decide),if_pos (.inl rfl),if_neg (by rintro (y| ⟨y,_⟩);exact z y;cases y)]
  ·rw[if_neg (by rintro ⟨_,z|z|z⟩<;>cases z),if_neg (by decide),if_pos (.inr (.inl rfl)),if_neg (by rintro (y| ⟨y,_⟩);exact z y;cases y)]
 rcases h with h| ⟨h0,h⟩
 ·rcases h with ⟨rfl,h⟩ | ⟨rfl,h⟩
  ·rw[EI]
   cases v with
   |nil=>rfl
   |cons c r=>exact ro _ _ _ (.inl ⟨rfl,fun z=>h (by rw[z];rfl)⟩)
  ·rw[EI,dR (s':=⟨.minus,0,0,false⟩) (d':=0) rfl]
   cases v with
   |nil=>rfl
   |cons c r=>exact ro _ _ _ (.inr ⟨rfl,fun z=>h (by rw[z];rfl)⟩)
 ·obtain⟨hG,hB⟩:=qd 4 0 rfl
  have ex:gT vx u:=⟨rfl, .inl ⟨rfl,h0⟩⟩
  rcases h with h| ⟨ps,w,q,h⟩ | ⟨ps,w,q,BC,h⟩
  ·exact tQ hG hB ex h
  ·obtain⟨⟨s',e,cl⟩,_⟩:=tR ex q
   rw[e,dR (lF cl (.inl rfl))]
   show vd ⟨.dot,0,0,false⟩ 0 w=_
   rcases h with h| ⟨m,w1,n,h⟩
   ·exact lE (.inr (.inl rfl)) rfl h
   ·obtain⟨s2,e2,h1,h2,h3,_⟩:=kq (s:=⟨.dot,0,0,false⟩) (dp:=0) (.inr (.inl rfl)) rfl rfl n
    rw[e2]
    exact tQ hG hB ⟨h2, .inr (.inr (.inl ⟨h1,h3⟩))⟩ h
  ·obtain⟨⟨s',e,cl⟩,_⟩:=tR ex q
   obtain⟨u',rfl,h⟩:=h
   rw[e,dR (lF cl (.inr rfl))]
   show vd ⟨.bo,0,0,false⟩ 0 u'=_
   rcases h with h| ⟨m,n,EE,HI⟩
   ·exact lE (.inr (.inr rfl)) rfl h
   ·obtain⟨s2,e2,h1,h2,h3,_⟩:=kq (s:=⟨.bo,0,0,false⟩) (dp:=0) (.inr (.inr rfl)) rfl rfl n
    have hn:s2.nm= .bo:=h1
    rw[e2]
    cases v with
    |nil=>
     refine mT ?_
     rintro (z| ⟨z,_⟩)<;>(rw[hn] at z;cases z)
    |cons c r=>
     refine iR ?_
     unfold iL
     by_cases f:jN c=true
     ·rw[if_pos ⟨f, .inr (.inr hn)⟩]
      unfold vt
      rw[if_pos (.inl (h3 c rfl f))]
     ·rw[if_neg (fun z=>f z.1),if_neg (by rw[h2,hn];decide),if_pos (.inr (.inr hn)),hn,if_neg]
      rintro (z| ⟨_,z⟩)
      ·exact HI (by rw[show c=43 from z];rfl)
      ·exact EE (by rw[z];rfl)
theorem EK{u v:List Nat}(h:R5 u v):vd vx 0 u=some v:=by
 rcases h with h| ⟨xs,n,h,hv⟩
 ·exact EJ h
 ·rw[zh h,if_neg hv]
variable {uC uP uI uD uL uT:Tok}
def tS:Nm→Str
 | .start=>"start"
 | .HL=>"open"
 | .part=>"part"
 | .dot=>"dot"
 | .i3=>"roof"
 | .minus=>"minus"
 | .bo=>"charge"
 | .stop=>"end"
theorem BF:∀{a b:Nm},tS a=tS b→a=b:=by
 intro a b
 cases a<;>cases b<;>first| (intro _;rfl) | (intro h;exact absurd h (by decide+kernel))
theorem bN{a b:Nm}:V.str (tS a)=V.str (tS b)↔a=b:=⟨fun h=>BF (by injection h),fun h=>by rw[h]⟩
def zi(H:Hp)(t:Addr)(s:S8):Prop:=H t=some (.tup [.str (tS s.nm), .int (s.sm:Int), .int (s.fg:Int), .bl s.al])
def EL(H:Hp)(r:Option (S8×Nat))(Q:VK):Prop:=(r=none→∀H',aD H H'→Q .cw H')∧∀s' d',r=some (s',d')→∀b t H',zi H' t s'→H' b=some (.tup [.ref t, .int (d':Int)])→aD H H'→Q (.ref b) H'
def kr(f:S8→Nat→Nat→Option (S8×Nat)):Sp:=fun vs H Q _=>∃(a:Addr) (s:S8) (dp c:Nat),vs=[.ref a, .int (dp:Int), .str ⟨#[c]⟩]∧zi H a s∧c<128∧EL H (f s dp c) Q
theorem f7:az ["_law_state","_law_deep","_law_sign_here","_law_name","_law_smalls","_law_figures_here","_law_alone"] ["_law_state","_law_deep","_law_sign_here"] (ao js):=dM
theorem fA{c b:Nat}:V.str (⟨#[c]⟩:Str)=V.str (⟨#[b]⟩:Str)↔c=b:=⟨fun h=>Classical.byContradiction fun n=>vm n h,fun h=>by rw[h]⟩
theorem EM{H:Hp}{t b:Addr}{xs:List V}{ys:HO}(ht:H t=none)(hb:(upd H t (.tup xs)) b=none):(upd (upd H t (.tup xs)) b ys) t=some (.tup xs)∧aD H (upd (upd H t (.tup xs)) b ys):=by
 have ne:t≠b:=fun z=>by rw[←z,ag] at hb;cases hb
 exact⟨by rw[ah ne,ag],(aD.new ht).trans (aD.new hb)⟩
theorem Sh:("0" :Str)=⟨#[48]⟩:=by decide+kernel
theorem Uq:("1" :Str)=⟨#[49]⟩:=by decide+kernel
theorem tT(D:Def K mg "_law_figure" "_law_figure" js ["_law_state","_law_deep","_law_sign_here"])(T:hU K mg C R G Pc Fo uK uN uB uE uM uC uP uI uD uL uT):a4 P w K mg base 1 "_law_figure" ["_law_state","_law_deep","_law_sign_here"] (kr vt):=by
 refine D.eB f7 (fun vs H Q E h=>?_) (fun f ba A outer s H vs Q E hr h=>?_)
 ·obtain⟨a,s,dp,c,rfl,_⟩:=h
  rfl
 ·obtain⟨a,s,dp,c,rfl,hS,hc,q0,q1⟩:=h
  refine⟨_,(ai
     (o5 (pv 0) (oZ rfl (b4 (aX (i:=3) f7.nd rfl (Or.inl rfl)) (b4 (aX (i:=4) f7.nd rfl (Or.inl rfl)) (b4 (aX (i:=5) f7.nd rfl (Or.inl rfl)) (b4 (aX (i:=6) f7.nd rfl (Or.inl rfl)) kS))))))
    (ai
     (aY (PW.pt (fK (au aW (pv 5) aj (aA _)) (eX (PW.pt (bX (au aW (pv 5) aj (aA _)) (bZ (au aW (pv 2) ax (aA _))))))))
      (aq
       (ay lS))
      aK)
    (aq
     (ay (bO (aa (bO (aa (pv 3) (aa aj (aa (aw cf (pv 5) aj) (aa (oY (d3 aW (pv 5) aj (aA _)) (sQ (d3 aW (pv 2) ax (aA _)))) ak))))) (aa (pv 1) ak))))))),?_⟩
  refine⟨_,rfl,a,_,rfl,iI.of hS,rfl,_,_,rfl,_,_,rfl,_,_,rfl,_,_,rfl,rfl,?_⟩
  have vi:∀{i j:Int},¬i=j→¬V.int i=V.int j:=fun h z=>h (by injection z)
  have oG:s.fg=3∨s.fg=0∧c=48→Q .cw H:=fun h=>q0 (by unfold vt;rw[if_pos h]) H (aD.refl H)
  by_cases h3:s.fg=3
  ·exact⟨_,rfl,rfl,_,rfl,bY (by rw[h3];rfl) (oG (.inl h3))⟩
  refine⟨_,rfl,rfl,_,rfl,bT (vi (by omega)) ?_⟩
  by_cases h0:s.fg=0
  ·refine⟨_,rfl,rfl,_,rfl,bY (by rw[h0];rfl) ?_⟩
   by_cases LR:c=48
   ·exact⟨_,rfl,rfl,_,rfl,bY (by rw[LR,Sh]) (oG (.inr ⟨h0,LR⟩))⟩
   refine⟨_,rfl,rfl,_,rfl,bT (by rw[Sh];exact fun z=>LR (fA.mp z)) ?_⟩
   have e:vt s dp c=some (⟨s.nm,0,s.fg+1,decide (c=49)⟩,dp):=by
    unfold vt
    rw[if_neg (by rintro (z|z);exact h3 z;exact LR z.2),decide_eq_true h0,Bool.true_and]
   refine⟨_,rfl,_,rfl,_,_,rfl,rfl,_,rfl,rfl,true,by rw[h0];rfl,cA ⟨_,rfl,rfl,(by show 4≤sizeLine;decide),fun t ht=>⟨_,rfl,(by show 2≤sizeLine;decide),fun b hb=>?_⟩⟩⟩
   obtain⟨z1,z2⟩:=EM (ys:= .tup [.ref t, .int (dp:Int)]) ht hb
   refine q1 _ _ e b t _ ?_ ag z2
   unfold zi
   rw[z1]
   have:(decide (V.str (⟨#[c]⟩:Str)=V.str "1"):Bool)=decide (c=49):=by rw[Uq];exact decide_eq_decide.mpr fA
   rw[this]
   rfl
  ·refine⟨_,rfl,rfl,_,rfl,bT (vi (by omega)) ?_⟩
   have e:vt s dp c=some (⟨s.nm,0,s.fg+1,false⟩,dp):=by
    unfold vt
    rw[if_neg (by rintro (z|z);exact h3 z;exact h0 z.1),decide_eq_false h0,Bool.false_and]
   refine⟨_,rfl,_,rfl,_,_,rfl,rfl,_,rfl,rfl,false,by rw[decide_eq_false (vi (by omega))],cQ ⟨(by show 4≤sizeLine;decide),fun t ht=>⟨_,rfl,(by show 2≤sizeLine;decide),fun b hb=>?_⟩⟩⟩
   obtain⟨z1,z2⟩:=EM (ys:= .tup [.ref t, .int (dp:Int)]) ht hb
   exact q1 _ _ e b t _ z1 ag z2
theorem EL.on{H H1:Hp}{r:Option (S8×Nat)}{Q:VK}(h:EL H r Q)(e:aD H H1):EL H1 r Q:=⟨fun z H' k=>h.1 z H' (e.trans k),fun s' d' z b t H' a1 a2 k=>h.2 s' d' z b t H' a1 a2 (e.trans k)⟩
theorem EL.go{H:Hp}{r:Option (S8×Nat)}{Q:VK}(q:EL H r Q){s':S8}{d':Nat}(e:r=some (s',d')){t b:Addr}{i:Int}(hi:i=(d':Int))(ht:H t=none)(hb:(upd H t (.tup [.str (tS s'.nm), .int (s'.sm:Int), .int (s'.fg:Int), .bl s'.al])) b=none):Q (.ref b) (upd (upd H t (.tup [.str (tS s'.nm), .int (s'.sm:Int), .int (s'.fg:Int), .bl s'.al])) b (.tup [.ref t, .int i])):=by
 subst hi
 obtain⟨z1,z2⟩:=EM (ys:= .tup [.ref t, .int (d':Int)]) ht hb
 exact q.2 _ _ e b t _ z1 ag z2
theorem vy:∀c:Nat,c<128→Txt.isupper ⟨#[c]⟩=iQ c:=by decide+kernel
theorem CU:∀c:Nat,c<128→Txt.islower ⟨#[c]⟩=j6 c:=by decide+kernel
theorem HN:∀c:Nat,c<128→(!(Builtin.Str.occurrences "0123456789" ⟨#[c]⟩ 0 ("0123456789" :Str).length 1).isEmpty)=jN c:=by decide+kernel
theorem zj:∀c:Nat,c<128→(!(Builtin.Str.occurrences ".^" ⟨#[c]⟩ 0 (".^" :Str).length 1).isEmpty)=(decide (c=46)||decide (c=94)):=by decide+kernel
theorem HP:∀m:Nm,Lv (V.str (tS m)) [.str "part", .str "dot", .str "charge"]=(decide (m= .part)||(decide (m= .dot)||decide (m= .bo))):=by
 intro m
 cases m<;>decide+kernel
theorem HQ:("e" :Str)=⟨#[101]⟩:=by decide+kernel
theorem h8:az ["_law_state","_law_deep","_law_sign_here","_law_name","_law_smalls","_law_figures_here","_law_alone"] ["_law_state","_law_deep","_law_sign_here"] (ao lu):=dM
theorem xa(D:Def K mg "_law_letter" "_law_letter" lu ["_law_state","_law_deep","_law_sign_here"]):a4 P w K mg base 1 "_law_letter" ["_law_state","_law_deep","_law_sign_here"] (kr zg):=by
 refine D.eB h8 (fun vs H Q E h=>?_) (fun f ba A outer s H vs Q E hr h=>?_)
 ·obtain⟨a,s,dp,c,rfl,_⟩:=h
  rfl
 ·obtain⟨a,s,dp,c,rfl,hS,hc,q⟩:=h
  refine⟨_,(ai
     (o5 (pv 0) (oZ rfl (b4 (aX (i:=3) h8.nd rfl (Or.inl rfl)) (b4 (aX (i:=4) h8.nd rfl (Or.inl rfl)) (b4 (aX (i:=5) h8.nd rfl (Or.inl rfl)) (b4 (aX (i:=6) h8.nd rfl (Or.inl rfl)) kS))))))
    (ai
     (aY (dw (iY (pv 2)))
      (aq
       (ay (bO (aa (bO (aa ax (aa aj (aa aj (aa gO ak))))) (aa (pv 1) ak)))))
      aK)
    (ai
     (aY (PW.pt (bX (au aW (pv 3) ax (aA _)) (bZ (au aW (pv 2) ax (aA _)))))
      (aq
       (ay (bO (aa (bO (aa ax (aa aj (aa aj (aa gO ak))))) (aa (pv 1) ak)))))
      aK)
    (ai
     (aY (PW.pt (bX (au aW (pv 3) ax (aA _)) (bX (au kA (pv 4) aj (aA _)) (bZ (au aW (pv 5) aj (aA _))))))
      (aq
       (ay (bO (aa (bO (aa ax (aa (aw jU (pv 4) aj) (aa aj (aa gO ak))))) (aa (pv 1) ak)))))
      aK)
    (aq
     (ay lS)))))),?_⟩
  refine⟨_,rfl,a,_,rfl,iI.of hS,rfl,_,_,rfl,_,_,rfl,_,_,rfl,_,_,rfl,rfl,?_⟩
  have vi:∀{i j:Int},¬i=j→¬V.int i=V.int j:=fun h z=>h (by injection z)
  have e:zg s dp c=zg s dp c:=rfl
  conv at e=>rhs;unfold zg
  refine⟨_,rfl,_,rfl,_,rfl,?_⟩
  rw[vy c hc]
  by_cases hG:iQ c=true
  ·rw[hG]
   rw[if_pos hG] at e
   exact cA ⟨(by show 4≤sizeLine;decide),fun t ht=>⟨_,rfl,(by show 2≤sizeLine;decide),fun b hb=>q.go e rfl ht hb⟩⟩
  rw[if_neg hG] at e
  refine dq (fun z=>absurd z hG) fun _=>?_
  by_cases h1:s.nm= .start
  ·by_cases h2:c=101
   ·rw[if_pos ⟨h1,h2⟩] at e
    exact⟨_,rfl,rfl,_,rfl,bY (bN (b:= .start) |>.mpr h1) ⟨_,rfl,rfl,_,rfl,bY (by rw[h2,HQ]) ⟨(by show 4≤sizeLine;decide),fun t ht=>⟨_,rfl,(by show 2≤sizeLine;decide),fun b hb=>q.go e rfl ht hb⟩⟩⟩⟩
   ·rw[if_neg (fun z=>h2 z.2),if_neg (by rw[h1];rintro ⟨z,_⟩;cases z)] at e
    refine⟨_,rfl,rfl,_,rfl,bY (bN (b:= .start) |>.mpr h1) ⟨_,rfl,rfl,_,rfl,bT (by rw[HQ];exact fun z=>h2 (fA.mp z)) ?_⟩⟩
    exact⟨_,rfl,rfl,_,rfl,bT (fun z=>by have:=bN (b:= .part) |>.mp z;rw[h1] at this;cases this) (q.1 e H (aD.refl H))⟩
  ·rw[if_neg (fun z=>h1 z.1)] at e
   refine⟨_,rfl,rfl,_,rfl,bT (fun z=>h1 (bN (b:= .start) |>.mp z)) ?_⟩
   by_cases h2:s.nm= .part
   ·refine⟨_,rfl,rfl,_,rfl,bY (bN (b:= .part) |>.mpr h2) ?_⟩
    by_cases h3:0<s.sm
    ·refine⟨_,rfl,_,_,rfl,rfl,_,rfl,bY (by omega) ?_⟩
     by_cases h4:s.fg=0
     ·rw[if_pos ⟨h2,h3,h4⟩] at e
      refine⟨_,rfl,rfl,_,rfl,bY (by rw[h4];rfl) ⟨_,rfl,_,_,rfl,rfl,(by show 4≤sizeLine;decide),fun t ht=>⟨_,rfl,(by show 2≤sizeLine;decide),fun b hb=>?_⟩⟩⟩
      have es:((s.sm:Int) - 1)=((s.sm - 1 :Nat):Int):=by omega
      rw[es] at hb ⊢
      exact q.go e rfl ht hb
     ·rw[if_neg (fun z=>h4 z.2.2)] at e
      exact⟨_,rfl,rfl,_,rfl,bT (vi (by omega)) (q.1 e H (aD.refl H))⟩
    ·rw[if_neg (fun z=>h3 z.2.1)] at e
     exact⟨_,rfl,_,_,rfl,rfl,_,rfl,bT (by omega) (q.1 e H (aD.refl H))⟩
   ·rw[if_neg (fun z=>h2 z.1)] at e
    exact⟨_,rfl,rfl,_,rfl,bT (fun z=>h2 (bN (b:= .part) |>.mp z)) (q.1 e H (aD.refl H))⟩
variable {uC uP uI uD uL uT:Tok}
theorem mV:az ["_law_state","_law_deep","_law_sign_here","_law_name","_law_smalls","_law_figures_here","_law_alone"] ["_law_state","_law_deep","_law_sign_here"] (ao u4):=dM
theorem BG(D:Def K mg "_law_next" "_law_next" u4 ["_law_state","_law_deep","_law_sign_here"])(c1:a4 P w K mg base 1 "_law_figure" ["_law_state","_law_deep","_law_sign_here"] (kr vt))(c2:a4 P w K mg base 1 "_law_letter" ["_law_state","_law_deep","_law_sign_here"] (kr zg)):a4 P w K mg base 2 "_law_next" ["_law_state","_law_deep","_law_sign_here"] (kr iL):=by
 obtain⟨_,_,gA⟩:=c1
 obtain⟨_,_,gB⟩:=c2
 refine D.eB mV (fun vs H Q E h=>?_) (fun f ba A outer s H vs Q E hr h=>?_)
 ·obtain⟨a,s,dp,c,rfl,_⟩:=h
  rfl
 ·obtain⟨a,s,dp,c,rfl,hS,hc,q⟩:=h
  have hu:=nX hr
  refine⟨_,(ai
     (o5 (pv 0) (oZ rfl (b4 (aX (i:=3) mV.nd rfl (Or.inl rfl)) (b4 (aX (i:=4) mV.nd rfl (Or.inl rfl)) (b4 (aX (i:=5) mV.nd rfl (Or.inl rfl)) (b4 (aX (i:=6) mV.nd rfl (Or.inl rfl)) kS))))))
    (ai
     (aY (PW.pt (bX (au nI (pv 2) ax (by with_unfolding_all rfl)) (bZ (au wm (pv 3) (b7 (aa ax (aa ax (aa ax ak)))) (by with_unfolding_all rfl)))))
      (aq
       (ay (aJ gA.ok (hr.mono (by decide)) rfl gA.g gA.kp gA.b .nil aM (aa (pv 0) (aa (pv 1) (aa (pv 2) ak))))))
      aK)
    (ai
     (aY (PW.pt (fK (dw (pv 6)) (eX (au aW (pv 3) ax (aA _)))))
      (aq
       (ay lS))
      aK)
    (ai
     (aY (PW.pt (fK (au aW (pv 3) ax (aA _)) (fK (au aW (pv 3) ax (aA _)) (eX (au aW (pv 3) ax (aA _))))))
      (ai
       (aY (PW.pt (fK (au aW (pv 2) (jc hu (kW (eY ax ax (eY ax ax (eY ax ax kU))) rfl rfl (by intro z;cases z) (by decide)) (pv 3) (fun _ _=>rfl)) (aA _)) (eX (PW.pt (bX (au aW (pv 3) ax (aA _)) (bZ (au aW (pv 2) ax (aA _))))))))
        (aq
         (ay (bO (aa (bO (aa (l8 hu (kW (eY ax ax kU) rfl rfl (by intro z;cases z) (by decide)) (pv 3) ax ⟨rfl,rfl,rfl,rfl⟩) (aa aj (aa aj (aa gO ak))))) (aa (pv 1) ak)))))
        aK)
      (aq
       (ay lS)))
      aK)
    (ai
     (aY (PW.pt (fK (dw (iY (pv 2))) (eX (dw (tE (pv 2))))))
      (aq
       (ay (aJ gB.ok (hr.mono (by decide)) rfl gB.g gB.kp gB.b .nil aM (aa (pv 0) (aa (pv 1) (aa (pv 2) ak))))))
      aK)
    (ai
     (aY (PW.pt (bX (au aW (pv 2) ax (aA _)) (bZ (au lU (pv 1) aj (aA _)))))
      (aq
       (ay (bO (aa (bO (aa ax (aa aj (aa aj (aa gO ak))))) (aa (aw cf (pv 1) aj) ak)))))
      aK)
    (ai
     (aY (PW.pt (bX (au aW (pv 3) ax (aA _)) (bX (au aW (pv 2) ax (aA _)) (bZ (au kA (pv 1) aj (aA _))))))
      (aq
       (ay (bO (aa (bO (aa ax (aa aj (aa aj (aa gO ak))))) (aa (aw jU (pv 1) aj) ak)))))
      aK)
    (ai
     (aY (PW.pt (bX (au aW (pv 3) ax (aA _)) (bX (au nI (pv 2) ax (by with_unfolding_all rfl)) (bZ (au aW (pv 1) aj (aA _))))))
      (aq
       (ay (bO (aa (bO (aa (jc hu (kW (eY ax ax (eY ax ax kU)) rfl rfl (by intro z;cases z) (by decide)) (pv 2) (fun _ _=>rfl)) (aa aj (aa aj (aa gO ak))))) (aa (pv 1) ak)))))
      aK)
    (aq
     (ay lS)))))))))),?_⟩
  refine⟨_,rfl,a,_,rfl,iI.of hS,rfl,_,_,rfl,_,_,rfl,_,_,rfl,_,_,rfl,rfl,?_⟩
  have vi:∀{i j:Int},¬i=j→¬V.int i=V.int j:=fun h z=>h (by injection z)
  have e:iL s dp c=iL s dp c:=rfl
  conv at e=>rhs;unfold iL
  dsimp only [fL]
  refine il (fun σ' H'=>σ'=[some (.ref a),some (.int (dp:Int)),some (.str ⟨#[c]⟩),some (.str (tS s.nm)),some (.int (s.sm:Int)),some (.int (s.fg:Int)),some (.bl s.al)]∧aD H H'∧¬(jN c=true∧(s.nm= .part∨s.nm= .dot∨s.nm= .bo))) (fun N hN=>?_) ?_
  ·refine⟨_,rfl,_,_,rfl,rfl,_,rfl,?_⟩
   rw[HN c hc]
   by_cases hF:jN c=true
   ·rw[hF]
    refine cA ⟨_,rfl,(by show 3≤sizeLine;decide),fun l hl=>⟨l,_,rfl, .inl (bF.of ag),rfl,rfl,_,rfl,?_⟩⟩
    show if Lv (V.str (tS s.nm)) [.str "part", .str "dot", .str "charge"]=true then _ else _
    rw[HP]
    by_cases hn:s.nm= .part∨s.nm= .dot∨s.nm= .bo
    ·have:(decide (s.nm= .part)||(decide (s.nm= .dot)||decide (s.nm= .bo)))=true:=by simpa using hn
     rw[this]
     rw[if_pos ⟨hF,hn⟩] at e
     refine cA ⟨_,rfl,_,rfl,_,rfl,a,s,dp,c,rfl,(aD.new hl) _ _ hS,hc,?_⟩
     rw[←e]
     exact q.on (aD.new hl)
    ·have:(decide (s.nm= .part)||(decide (s.nm= .dot)||decide (s.nm= .bo)))=false:=by simpa using hn
     rw[this]
     exact cQ (hN _ _ ⟨rfl,aD.new hl,fun z=>hn z.2⟩)
   ·refine dq (fun z=>absurd z hF) fun _=>hN _ _ ⟨rfl,aD.refl H,fun z=>hF z.1⟩
  rintro σ H1 ⟨rfl,e1,h1⟩
  have hS:zi H1 a s:=e1 _ _ hS
  have q:=q.on e1
  clear e1
  rw[if_neg h1] at e
  by_cases LS:s.al=true
  ·rw[if_pos (.inl LS)] at e
   refine⟨_,rfl,_,rfl,?_⟩
   rw[LS]
   exact cA (q.1 e H1 (aD.refl _))
  refine⟨_,rfl,_,rfl,dq (fun z=>absurd z LS) fun _=>?_⟩
  by_cases jT:s.nm= .stop
  ·rw[if_pos (.inr jT)] at e
   exact⟨_,rfl,rfl,_,rfl,bY (bN (b:= .stop) |>.mpr jT) (q.1 e H1 (aD.refl _))⟩
  refine⟨_,rfl,rfl,_,rfl,bT (fun z=>jT (bN (b:= .stop) |>.mp z)) ?_⟩
  rw[if_neg (by rintro (z|z);exact LS z;exact jT z)] at e
  by_cases hr:s.nm= .i3∨s.nm= .minus∨s.nm= .bo
  ·rw[if_pos hr] at e
   have body:∀(m:Nm),s.nm=m→(m= .i3∨m= .minus∨m= .bo)→True:=fun _ _ _=>trivial
   rcases hr with hr|hr|hr
   case' inl=>refine⟨_,rfl,rfl,_,rfl,bY (bN (b:= .i3) |>.mpr hr) ?_⟩
   case' inr.inl=>refine⟨_,rfl,rfl,_,rfl,bT (fun z=>by have:=bN (b:= .i3) |>.mp z;rw[hr] at this;cases this) ⟨_,rfl,rfl,_,rfl,bY (bN (b:= .minus) |>.mpr hr) ?_⟩⟩
   case' inr.inr=>refine⟨_,rfl,rfl,_,rfl,bT (fun z=>by have:=bN (b:= .i3) |>.mp z;rw[hr] at this;cases this) ⟨_,rfl,rfl,_,rfl,bT (fun z=>by have:=bN (b:= .minus) |>.mp z;rw[hr] at this;cases this) ⟨_,rfl,rfl,_,rfl,bY (bN (b:= .bo) |>.mpr hr) ?_⟩⟩⟩
   all_goals
    refine⟨_,rfl,fun p hp=>⟨ag,[(Sum.inr "roof", .str "^"),(Sum.inr "minus", .str "-"),(Sum.inr "charge", .str "+")],rfl,(by show 3≤15;decide),_,rfl,p, .str ⟨#[BD s.nm]⟩,rfl,?_⟩⟩
    refine⟨.inl ⟨_,Sum.inr (tS s.nm), .inl ag,rfl,by rw[hr];decide+kernel⟩,rfl,_,rfl,?_⟩
    have hd:aD H1 (upd (upd H1 p (.dK [])) p (.dK (fE [] [(Sum.inr "roof", .str "^"),(Sum.inr "minus", .str "-"),(Sum.inr "charge", .str "+")]))):=fun b o z=>by
     have nb:=af z hp
     rw[ah nb,ah nb]
     exact z
    generalize (upd (upd H1 p (.dK [])) p (.dK (fE [] [(Sum.inr "roof", .str "^"),(Sum.inr "minus", .str "-"),(Sum.inr "charge", .str "+")])))=H2 at hd ⊢
    have q:=q.on hd
    by_cases h5:c=BD s.nm∨s.nm= .bo∧c=45
    ·rw[if_pos h5] at e
     by_cases h6:c=BD s.nm
     case' pos=>refine bY (by rw[h6]) ?_
     case' neg=>
      have h7:=h5.resolve_left h6
      refine bT (fun z=>h6 (fA.mp z)) ⟨_,rfl,rfl,_,rfl,bY (bN (b:= .bo) |>.mpr h7.1) ⟨_,rfl,rfl,_,rfl,bY (by rw[h7.2,Ep]) ?_⟩⟩
     all_goals
      refine fun p2 AL=>⟨ag,[(Sum.inr "roof", .str "minus")],rfl,(by show 1≤15;decide),p2,rfl, .inl ⟨_, .inl ag⟩,_,rfl,_, .inl ⟨_,Sum.inr (tS s.nm), .inl ag,rfl,rfl⟩,(by show 4≤sizeLine;decide),fun t ht=>⟨_,rfl,(by show 2≤sizeLine;decide),fun b hb=>?_⟩⟩
      have hd2:aD H2 (upd (upd H2 p2 (.dK [])) p2 (.dK (fE [] [(Sum.inr "roof", .str "minus")]))):=fun b o z=>by
       have nb:=af z AL
       rw[ah nb,ah nb]
       exact z
      have ev:(b8 (fE [] [(Sum.inr "roof", .str "minus")]) (Sum.inr (tS s.nm))).getD (.str "end")= .str (tS (if s.nm= .i3 then .minus else .stop)):=by rw[hr];decide+kernel
      rw[ev] at hb ⊢
      exact(q.on hd2).go e rfl ht hb
    ·rw[if_neg h5] at e
     refine bT (fun z=>h5 (.inl (fA.mp z))) ?_
     by_cases h7:s.nm= .bo
     ·exact⟨_,rfl,rfl,_,rfl,bY (bN (b:= .bo) |>.mpr h7) ⟨_,rfl,rfl,_,rfl,bT (by rw[Ep];exact fun z=>h5 (.inr ⟨h7,fA.mp z⟩)) (q.1 e _ (aD.refl _))⟩⟩
     ·exact⟨_,rfl,rfl,_,rfl,bT (fun z=>h7 (bN (b:= .bo) |>.mp z)) (q.1 e _ (aD.refl _))⟩
  rw[if_neg hr] at e
  refine⟨_,rfl,rfl,_,rfl,bT (fun z=>hr (.inl (bN (b:= .i3) |>.mp z))) ⟨_,rfl,rfl,_,rfl,bT (fun z=>hr (.inr (.inl (bN (b:= .minus) |>.mp z)))) ⟨_,rfl,rfl,_,rfl,bT (fun z=>hr (.inr (.inr (bN (b:= .bo) |>.mp z)))) ?_⟩⟩⟩
  by_cases hl:iQ c=true∨j6 c=true
  ·rw[if_pos hl] at e
   refine⟨_,rfl,_,rfl,_,rfl,?_⟩
   rw[vy c hc]
   have fin:EL H1 (zg s dp c) Q:=by rw[←e];exact q
   by_cases hg:iQ c=true
   ·rw[hg]
    exact cA (cA ⟨_,rfl,_,rfl,_,rfl,a,s,dp,c,rfl,hS,hc,fin⟩)
   ·refine dq (fun z=>absurd z hg) fun _=>⟨_,rfl,_,rfl,_,rfl,?_⟩
    rw[CU c hc,hl.resolve_left hg]
    exact cA ⟨_,rfl,_,rfl,_,rfl,a,s,dp,c,rfl,hS,hc,fin⟩
  rw[if_neg hl] at e
  have g0:iQ c=false:=by cases z:iQ c;rfl;exact absurd (.inl z) hl
  have s0:j6 c=false:=by cases z:j6 c;rfl;exact absurd (.inr z) hl
  refine⟨_,rfl,_,rfl,_,rfl,?_⟩
  rw[vy c hc,g0]
  refine cQ ⟨_,rfl,_,rfl,_,rfl,?_⟩
  rw[CU c hc,s0]
  refine cQ ?_
  by_cases ko:c=40
  ·refine⟨_,rfl,rfl,_,rfl,bY (by rw[ko,Bt]) ?_⟩
   by_cases h4:dp<4
   ·rw[if_pos ⟨ko,h4⟩] at e
    exact⟨_,rfl,_,_,rfl,rfl,_,rfl,bY (by omega) ⟨(by show 4≤sizeLine;decide),fun t ht=>⟨_,rfl,_,_,rfl,rfl,(by show 2≤sizeLine;decide),fun b hb=>q.go e (by omega) ht hb⟩⟩⟩
   ·rw[if_neg (fun z=>h4 z.2),if_neg (by rw[ko];rintro ⟨_,z,_⟩;cases z),if_neg (by rw[ko];rintro ⟨_,z|z,_⟩<;>cases z)] at e
    refine⟨_,rfl,_,_,rfl,rfl,_,rfl,bT (by omega) ?_⟩
    by_cases hp:s.nm= .part
    ·refine⟨_,rfl,rfl,_,rfl,bY (bN (b:= .part) |>.mpr hp) ⟨_,rfl,rfl,_,rfl,bT (by rw[ko,Ga];exact vm (by decide)) ?_⟩⟩
     refine⟨_,rfl,rfl,_,rfl,bY (bN (b:= .part) |>.mpr hp) ⟨_,rfl,_,_,rfl,rfl,_,rfl,?_⟩⟩
     rw[zj c hc,ko]
     exact cQ (q.1 e _ (aD.refl _))
    ·exact⟨_,rfl,rfl,_,rfl,bT (fun z=>hp (bN (b:= .part) |>.mp z)) ⟨_,rfl,rfl,_,rfl,bT (fun z=>hp (bN (b:= .part) |>.mp z)) (q.1 e _ (aD.refl _))⟩⟩
  rw[if_neg (fun z=>ko z.1)] at e
  refine⟨_,rfl,rfl,_,rfl,bT (by rw[Bt];exact fun z=>ko (fA.mp z)) ?_⟩
  by_cases hp:s.nm= .part
  ·refine⟨_,rfl,rfl,_,rfl,bY (bN (b:= .part) |>.mpr hp) ?_⟩
   by_cases xF:c=41
   ·refine⟨_,rfl,rfl,_,rfl,bY (by rw[xF,Ga]) ?_⟩
    by_cases h0:0<dp
    ·rw[if_pos ⟨hp,xF,h0⟩] at e
     exact⟨_,rfl,_,_,rfl,rfl,_,rfl,bY (by omega) ⟨(by show 4≤sizeLine;decide),fun t ht=>⟨_,rfl,_,_,rfl,rfl,(by show 2≤sizeLine;decide),fun b hb=>q.go e (by omega) ht hb⟩⟩⟩
    ·rw[if_neg (fun z=>h0 z.2.2),if_neg (by rw[xF];rintro ⟨_,z|z,_⟩<;>cases z)] at e
     refine⟨_,rfl,_,_,rfl,rfl,_,rfl,bT (by omega) ⟨_,rfl,rfl,_,rfl,bY (bN (b:= .part) |>.mpr hp) ⟨_,rfl,_,_,rfl,rfl,_,rfl,?_⟩⟩⟩
     rw[zj c hc,xF]
     exact cQ (q.1 e _ (aD.refl _))
   rw[if_neg (fun z=>xF z.2.1)] at e
   refine⟨_,rfl,rfl,_,rfl,bT (by rw[Ga];exact fun z=>xF (fA.mp z)) ⟨_,rfl,rfl,_,rfl,bY (bN (b:= .part) |>.mpr hp) ⟨_,rfl,_,_,rfl,rfl,_,rfl,?_⟩⟩⟩
   rw[zj c hc]
   by_cases hd:c=46∨c=94
   ·have:(decide (c=46)||decide (c=94))=true:=by simpa using hd
    rw[this]
    refine cA ?_
    by_cases h0:dp=0
    ·rw[if_pos ⟨hp,hd,h0⟩] at e
     refine⟨_,rfl,rfl,_,rfl,bY (by rw[h0];rfl) ?_⟩
     refine fun p2 AL=>⟨ag,[(Sum.inr ".", .str "dot"),(Sum.inr "^", .str "charge")],rfl,(by show 2≤15;decide),_,rfl,p2, .str (tS (if c=46 then .dot else .bo)),rfl, .inl ⟨_,Sum.inr ⟨#[c]⟩, .inl ag,rfl,by rcases hd with rfl|rfl<;>decide+kernel⟩,(by show 4≤sizeLine;decide),fun t ht=>⟨_,rfl,(by show 2≤sizeLine;decide),fun b hb=>?_⟩⟩
     have hd2:aD H1 (upd (upd H1 p2 (.dK [])) p2 (.dK (fE [] [(Sum.inr ".", .str "dot"),(Sum.inr "^", .str "charge")]))):=fun b o z=>by
      have nb:=af z AL
      rw[ah nb,ah nb]
      exact z
     exact(q.on hd2).go e rfl ht hb
    ·rw[if_neg (fun z=>h0 z.2.2)] at e
     exact⟨_,rfl,rfl,_,rfl,bT (vi (by omega)) (q.1 e _ (aD.refl _))⟩
   ·have:(decide (c=46)||decide (c=94))=false:=by simpa using hd
    rw[this]
    rw[if_neg (fun z=>hd z.2.1)] at e
    exact cQ (q.1 e _ (aD.refl _))
  ·rw[if_neg (fun z=>hp z.1),if_neg (fun z=>hp z.1)] at e
   exact⟨_,rfl,rfl,_,rfl,bT (fun z=>hp (bN (b:= .part) |>.mp z)) ⟨_,rfl,rfl,_,rfl,bT (fun z=>hp (bN (b:= .part) |>.mp z)) (q.1 e _ (aD.refl _))⟩⟩
def sM(x:List Nat):Int:=match vd vx 0 x with
 |none=> -1
 |some v=>(x.length:Int) - v.length
def vz:Sp:=fun vs H Q _=>∃x:Str,vs=[.str x]∧x.cps.all (· <128)=true∧x.length≤1000∧∀H',aD H H'→Q (.int (sM x.cps.toList)) H'
theorem aU(a b:List Nat):(⟨a.toArray⟩:Str)++⟨b.toArray⟩=⟨(a++b).toArray⟩:=by
 show (⟨a.toArray++b.toArray⟩:Str)=_
 simp
theorem lG(d:Nat):∀ts:List Tr,jn (ts.map fun t=>(⟨(cJ d t).toArray⟩:Str))=⟨(ts.flatMap (cJ d)).toArray⟩
 | []=>rfl
 |t::ts=>by
  rw[List.map_cons,Bi,lG d ts,aU,List.flatMap_cons]
theorem aB(a:List Nat):(⟨a.toArray⟩:Str).length=a.length:=by simp [Str.length]
theorem b6(n:Int):di n=⟨(bA n).toArray⟩:=by
 apply eP
 simp [bA]
theorem gC{d:Nat}{ts:List Tr}{t:Tr}(h:t∈ts):(cJ d t).length≤(ts.flatMap (cJ d)).length:=by
 obtain⟨s,r,rfl⟩:=List.append_of_mem h
 rw[List.flatMap_append,List.flatMap_cons,List.length_append,List.length_append]
 omega
def ku(C G:Addr):Nat→Sp
 |0=>fun _ _ _ _=>False
 |d+1=>fun vs H Q _=>∃(g:Addr) (ts:List Tr) (n:Int),vs=[.ref g]∧dj C G (d+1) H g (.gr ts n)∧kD (d+1) (.gr ts n)∧(cJ (d+1) (.gr ts n)).length≤1000∧∀H',aD H H'→Q (.str ⟨(cJ (d+1) (.gr ts n)).toArray⟩) H'
def iC(C G:Addr)(d:Nat):Sp:=fun vs H Q _=>∃(l:Addr) (ps:List Addr) (ts:List Tr),vs=[.ref l]∧H l=some (.lst (ps.map V.ref))∧Paired (dj C G d H) ps ts∧(∀t∈ts,kD d t)∧(ts.flatMap (cJ d)).length≤1000∧∀H',aD H H'→Q (.str ⟨(ts.flatMap (cJ d)).toArray⟩) H'
theorem dj.same{C G:Addr}:∀{d:Nat} {H H':Hp} {p:Addr} {t:Tr},dj C G d H p t→aD H H'→dj C G d H' p t
 |0,H,H',p, .one k n,h,e=>dX.same h e
 |d+1,H,H',p, .one k n,h,e=>dX.same (C:=C) (k:=⟨k.toArray⟩) (n:=n) h e
 |0,_,_,_, .gr _ _,h,_=>h.elim
 |d+1,H,H',p, .gr ts n,⟨dx,l,ps,h1,h2,h3⟩,e=>⟨dx,l,ps,e _ _ h1,e _ _ h2,aR (fun a b h=>dj.same h e) h3⟩
theorem cM{α β:Type}{p:α→β→Prop}:∀{as:List α} {bs:List β} {i:Nat} {a:α},Paired p as bs→as[i]? =some a→∃b,bs[i]? =some b∧p a b
 |_,_,_,_, .nil,h=>by simp at h
 |_,_,0,_, .cons h _,e=>⟨_,rfl,by have e:=Option.some.inj e;rw[←e];exact h⟩
 |_,_,i+1,_, .cons _ t,e=>cM (i:=i) t e
theorem zk:az ["parts"] ["parts"] (ao iq):=dM
theorem qe{k:List Nat}(h:lD k):(⟨k.toArray⟩:Str).length≤3:=by
 obtain⟨c,r,rfl,_,_,hl⟩:=h
 rw[aB,List.length_cons]
 omega
theorem mW(d:Nat)(D:Def K mg "parts_shown" "parts_shown" iq ["parts"])(T:kM K mg C R G uK uN uB uE uM)(c1:bW P w K mg base 2 C "shown" ["self"] (pW C))(c2:bW P w K mg base (2*d+2) G "shown" ["self"] (ku C G d)):a4 P w K mg base (2*d+3) "parts_shown" ["parts"] (iC C G d):=by
 obtain⟨_,_,gD⟩:=c1
 obtain⟨_,_,fH⟩:=c2
 refine D.eB zk (fun vs H Q E h=>?_) (fun f ba A outer s H vs Q E hr h=>?_)
 ·obtain⟨l,ps,ts,rfl,_⟩:=h
  rfl
 ·obtain⟨l,ps,ts,rfl,hl,hP,bg,hz,q⟩:=h
  have big:(2000 :Nat) <sizeLine:=by decide
  have Si:=jB bg
  have lp:ps.length=ts.length:=Paired.length hP
  refine⟨_,(aq
     (ay (eG PySem.F.plainAttrs_str PySem.F.slot_str_join PySem.F.type_str_join jf ax (aa (gj (sc:=(ao iq)) (NX:=["parts"]) (N:=["part"]) (fr:=[none]) ⟨by rfl,by rfl,by decide+kernel,by decide+kernel,by decide+kernel,by rfl,by decide+kernel⟩ rfl rfl rfl (eK (pv 0)) (fun _ _ _ _=>(aX (i:=0) (show (["part"]:List Str).Nodup by decide+kernel) rfl (Or.inl rfl) (Or.inr rfl))) (fun _ _ _ _=>ik) (fun _ _ _ _=>(ym (bq (pv 0) T.eC gD.m gD.ok (hr.mono (by omega)) gD.b .nil aM) (bq (pv 0) T.cZ fH.m fH.ok (hr.mono (by omega)) fH.b .nil aM)))) ak)))),?_⟩
  refine⟨rfl,_,rfl,l,rfl,⟨_,bF.of hl⟩,fun D hD=>fQ (K:=K) (a:=l) (D:=D) (xs:=ps.map V.ref) (fun i σ H'=>∃v:Option V,σ=[v]∧aD H H'∧H' D=some (.lst ((ts.take i).map fun t=>V.str ⟨(cJ d t).toArray⟩)))
   ?_ (fun i σ H' _ ⟨_,_,e,_⟩=>bF.of (e _ _ hl)) ?_ ?_⟩
  ·exact⟨none,rfl,aD.new hD,ag⟩
  ·rintro i v σ H' hi ⟨v',rfl,e,lH⟩ N hN
   rw[List.getElem?_map] at hi
   obtain⟨p,hp,rfl⟩:∃p,ps[i]? =some p∧v=V.ref p:=by
    cases hh:ps[i]? with
    |none=>rw[hh] at hi;cases hi
    |some p=>rw[hh] at hi;exact⟨p,rfl,(Option.some.inj hi).symm⟩
   obtain⟨t,ht,hT⟩:=cM hP hp
   have hT:=hT.same e
   have tU:=bg t (List.mem_of_getElem? ht)
   have lt:=Nat.le_trans (gC (d:=d) (List.mem_of_getElem? ht)) hz
   have fin:∀dP,aD H' dP→∃ys,dP D=some (.lst ys)∧ys.length<sizeLine∧N [some (V.ref p)] (upd dP D (.lst (ys++[V.str ⟨(cJ d t).toArray⟩]))):=fun dP e'=>by
    refine⟨_,e' _ _ lH,?_,hN _ _ ⟨_,rfl,fun b o z=>?_,?_⟩⟩
    ·rw[List.length_map]
     have:(ts.take i).length≤ts.length:=List.length_take_le' _ _
     omega
    ·rw[ah (af z hD)]
     exact e' _ _ (e _ _ z)
    ·rw[ag,List.take_add_one,ht,List.map_append]
     rfl
   cases t with
   |one k n=>
    have xI:lD k∧1≤n∧n≤999:=by cases d<;>exact tU
    have hA:dX C H' p ⟨k.toArray⟩ n:=by cases d<;>exact hT
    have et:(⟨(cJ d (.one k n)).toArray⟩:Str)=⟨k.toArray⟩++di n:=by
     rw[b6,aU]
     cases d<;>rfl
    obtain⟨dx,CB⟩:=id hA
    have:=fin H' (aD.refl _)
    rw[et] at this
    exact Or.inl ⟨_,rfl,p,dx,_,rfl,CB,u5 _ _ (by decide+kernel) (by decide+kernel),p,_,n,rfl,hA,qe xI.1,xI.2.1,xI.2.2,this⟩
   |gr us n=>
    cases d with
    |zero=>exact tU.elim
    |succ d=>
     obtain⟨dx,l',Gg,h1,h2,h3⟩:=id hT
     exact Or.inr ⟨_,rfl,p,dx,_,rfl,h1,ju _ _ (by decide+kernel) (by decide+kernel),p,us,n,rfl,hT,tU,lt,fin⟩
  ·rintro σ H' ⟨v,rfl,e,lH⟩
   rw[List.length_map,lp,List.take_length] at lH
   have es:((ts.map fun t=>(⟨(cJ d t).toArray⟩:Str)).map (·.length)).sum=(ts.flatMap (cJ d)).length:=by
    rw[List.map_map,List.length_flatMap]
    congr 1
   refine⟨_,D,ts.map (fun t=>⟨(cJ d t).toArray⟩),rfl,rfl,bF.of (by rw[lH,List.map_map];rfl),?_,?_⟩
   ·have e0:("" :Str).length=0:=by decide+kernel
    rw[es,e0]
    omega
   ·rw[join_eq,lG]
    exact q _ e
theorem r8:az ["self"] ["self"] (ao ir):=dM
theorem tV(D:bG K G "shown" "Group.shown" ir ["self"]):bW P w K mg base 2 G "shown" ["self"] (ku C G 0):=
 D.eB (k:=1) r8 (fun vs H Q E h=>h.elim) (fun f ba A outer s H vs Q E hr h=>h.elim)
theorem tW(d:Nat)(D:bG K G "shown" "Group.shown" ir ["self"])(T:kM K mg C R G uK uN uB uE uM)(c1:a4 P w K mg base (2*d+3) "parts_shown" ["parts"] (iC C G d))(c2:a4 P w K mg base 1 "count_shown" ["count"] e8):bW P w K mg base (2*d+4) G "shown" ["self"] (ku C G (d+1)):=by
 obtain⟨_,_,bJ⟩:=c1
 obtain⟨_,_,aO⟩:=c2
 refine D.eB r8 (fun vs H Q E h=>?_) (fun f ba A outer s H vs Q E hr h=>?_)
 ·obtain⟨g,ts,n,rfl,_⟩:=h
  rfl
 ·obtain⟨g,ts,n,rfl,⟨dx,l,ps,hg,hl,hP⟩,⟨mz,bg,n1,n2⟩,hz,q⟩:=h
  have big:(2000 :Nat)≤sizeLine:=by decide
  have hz:(40::(ts.flatMap (cJ d)++41::bA n)).length≤1000:=hz
  rw[List.length_cons,List.length_append,List.length_cons] at hz
  have e1:("(" :Str).length=1:=by decide+kernel
  have e2:(")" :Str).length=1:=by decide+kernel
  have lf:(di n).length=(bA n).length:=by rw[b6,aB]
  have ee:(⟨(cJ (d+1) (.gr ts n)).toArray⟩:Str)="(" ++⟨(ts.flatMap (cJ d)).toArray⟩++")" ++di n:=by
   rw[b6,Bt,Ga]
   rw[show (⟨#[40]⟩:Str)=⟨[40].toArray⟩ from rfl,show (⟨#[41]⟩:Str)=⟨[41].toArray⟩ from rfl,aU,aU,aU]
   simp [cJ]
  rw[ee] at q
  refine⟨_,(aq
     (ay (aw aF (aw aF (aw aF (br (v:= .str "(") rfl T.d7 ⟨_,rfl⟩) (aJ bJ.ok (hr.mono (by omega)) rfl bJ.g bJ.kp bJ.b .nil aM (aa (bh (pv 0) rfl) ak))) (br (v:= .str ")") rfl T.kE ⟨_,rfl⟩)) (aJ aO.ok (hr.mono (by omega)) rfl aO.g aO.kp aO.b .nil aM (aa (bh (pv 0) rfl) ak))))),?_⟩
  refine⟨_,rfl,g,G,dx,_,_,rfl,hg,T.cZ,T.j8,fu _ _,l,ps,ts,rfl,hl,hP,bg,by omega,fun H1 s1=>⟨_,_,rfl,rfl,?_,_,_,rfl,rfl,?_,_,rfl,g,G,dx,_,_,rfl,s1 _ _ hg,T.cZ,T.j9,fw _ _,n,rfl,n1,n2,_,_,rfl,rfl,?_,q _ s1⟩⟩
  ·rw[e1,aB]
   omega
  ·rw[bb,e1,e2,aB]
   omega
  ·rw[bb,bb,e1,e2,aB,lf]
   omega
theorem oH(D1:Def K mg "parts_shown" "parts_shown" iq ["parts"])(D2:bG K G "shown" "Group.shown" ir ["self"])(T:kM K mg C R G uK uN uB uE uM)(c1:bW P w K mg base 2 C "shown" ["self"] (pW C))(c2:a4 P w K mg base 1 "count_shown" ["count"] e8):∀d:Nat,a4 P w K mg base (2*d+3) "parts_shown" ["parts"] (iC C G d)
 |0=>mW 0 D1 T c1 (tV D2)
 |d+1=>mW (d+1) D1 T c1 (by rw[show 2*(d+1)+2=2*d+4 by omega];exact tW d D2 T (oH D1 D2 T c1 c2 d) c2)
variable {uC uP uI uD uL uT:Tok}
def iS(C G Pc:Addr)(d:Nat):Sp:=fun vs H Q _=>∃(q:Addr) (x:d8),vs=[.ref q]∧gv C G Pc d H q x∧sJ d x∧(dY d x).length≤1000∧∀H',aD H H'→Q (.str ⟨(dY d x).toArray⟩) H'
theorem qf:az ["self"] ["self"] (ao fq):=dM
theorem mX(d:Nat)(D:bG K Pc "shown" "Piece.shown" fq ["self"])(T:hU K mg C R G Pc Fo uK uN uB uE uM uC uP uI uD uL uT)(c1:a4 P w K mg base (2*d+3) "parts_shown" ["parts"] (iC C G d))(c2:a4 P w K mg base 1 "count_shown" ["count"] e8):bW P w K mg base (2*d+4) Pc "shown" ["self"] (iS C G Pc d):=by
 obtain⟨_,_,bJ⟩:=c1
 obtain⟨_,_,aO⟩:=c2
 refine D.eB qf (fun vs H Q E h=>?_) (fun f ba A outer s H vs Q E hr h=>?_)
 ·obtain⟨p,x,rfl,_⟩:=h
  rfl
 ·obtain⟨p,x,rfl,⟨dx,l,ps,hp,hl,hP⟩,⟨mz,bg,n1,n2⟩,hz,q⟩:=h
  have big:(2000 :Nat)≤sizeLine:=by decide
  have Sj:=hz
  unfold dY at Sj q
  rw[List.length_append] at Sj
  have lf:(di x.1).length=(bA x.1).length:=by rw[b6,aB]
  rw[←aU,←b6] at q
  refine⟨_,(aq
     (ay (aw aF (aJ aO.ok (hr.mono (by omega)) rfl aO.g aO.kp aO.b .nil aM (aa (bh (pv 0) rfl) ak)) (aJ bJ.ok (hr.mono (by omega)) rfl bJ.g bJ.kp bJ.b .nil aM (aa (bh (pv 0) rfl) ak))))),?_⟩
  refine⟨_,rfl,p,Pc,dx,_,_,rfl,hp,T.cp,T.ki,fw _ _,x.1,rfl,n1,n2,_,rfl,p,Pc,dx,_,_,rfl,hp,T.cp,T.j',fu _ _,l,ps,x.2,rfl,hl,hP,bg,by omega,fun H1 e1=>⟨_,_,rfl,rfl,?_,q _ e1⟩⟩
  rw[lf,aB]
  omega
def oI:Sp:=fun vs H Q _=>∃n:Int,vs=[.int n]∧ -999≤n∧n≤999∧Q (.str ⟨(mE n).toArray⟩) H
theorem qg{n:Int}(h1: -999≤n)(h2:n≤999):(mE n).length≤5:=by
 unfold mE
 split
 ·exact Nat.zero_le _
 ·rename_i h0
  have:=fX (n:=if n<0 then -n else n) (by split<;>omega) (by split<;>omega)
  rw[b6,aB] at this
  rw[List.length_cons,List.length_append]
  simp
  omega
theorem nC:az ["charge"] ["charge"] (ao eM):=dM
theorem kx(D:Def K mg "charge_shown" "charge_shown" eM ["charge"])(T:hU K mg C R G Pc Fo uK uN uB uE uM uC uP uI uD uL uT)(c1:a4 P w K mg base 1 "count_shown" ["count"] e8):a4 P w K mg base 2 "charge_shown" ["charge"] oI:=by
 obtain⟨_,_,aO⟩:=c1
 refine D.eB nC (fun vs H Q E h=>?_) (fun f ba A outer s H vs Q E hr h=>?_)
 ·obtain⟨n,rfl,_⟩:=h
  rfl
 ·obtain⟨n,rfl,h1,h2,q⟩:=h
  have big:(2000 :Nat)≤sizeLine:=by decide
  refine⟨_,(ai
     (aY (au aW (pv 0) aj (aA _))
      (aq
       (ay ax))
      aK)
    (aq
     (ay (aw aF (aw aF (br (v:= .str "^") rfl T.fG ⟨_,rfl⟩) (aJ aO.ok (hr.mono (by decide)) rfl aO.g aO.kp aO.b .nil aM (aa (a9 qI rfl T.CN yp (aa (pv 0) ak)) ak))) (qG (au kA (pv 0) aj (aA _)) (br (v:= .str "+") rfl T.yW ⟨_,rfl⟩) (br (v:= .str "-") rfl T.p7 ⟨_,rfl⟩)))))),?_⟩
  refine⟨_,rfl,rfl,_,rfl,dq (fun e=>?_) fun e=>?_⟩
  ·have e:n=0:=by simpa using e
   subst e
   have e0:(⟨(mE 0).toArray⟩:Str)="" :=by decide+kernel
   rw[e0] at q
   exact q
  ·have e:¬n=0:=by simpa using e
   have a1:1≤(if n<0 then -n else n):=by split<;>omega
   have a2:(if n<0 then -n else n)≤999:=by split<;>omega
   have z:=fX a1 a2
   have e1:("^" :Str).length=1:=by decide+kernel
   refine⟨_,rfl,n,rfl,_,rfl,a1,a2,_,_,rfl,rfl,by rw[e1];omega,_,rfl,_,_,rfl,rfl,?_⟩
   have ec:(⟨(mE n).toArray⟩:Str)="^" ++di (if n<0 then -n else n)++(if 0<n then ("+" :Str) else ("-" :Str)):=by
    unfold mE
    rw[if_neg e,b6,HD,Ng,Ep]
    rw[show (⟨#[94]⟩:Str)=⟨[94].toArray⟩ from rfl,aU]
    by_cases hp:0<n
    ·rw[if_pos hp,if_pos hp,show (⟨#[43]⟩:Str)=⟨[43].toArray⟩ from rfl,aU]
     simp
    ·rw[if_neg hp,if_neg hp,show (⟨#[45]⟩:Str)=⟨[45].toArray⟩ from rfl,aU]
     simp
   rw[ec] at q
   refine⟨_,rfl,dq (fun e=>?_) fun e=>?_⟩
   ·have e:0<n:=by simpa using e
    rw[if_pos e] at q
    refine⟨_,_,rfl,rfl,?_,q⟩
    have e2:("+" :Str).length=1:=by decide+kernel
    rw[bb,e1,e2]
    omega
   ·have e:¬0<n:=by simpa using e
    rw[if_neg e] at q
    refine⟨_,_,rfl,rfl,?_,q⟩
    have e2:("-" :Str).length=1:=by decide+kernel
    rw[bb,e1,e2]
    omega
def oJ(C G Pc Fo:Addr)(d:Nat):Sp:=fun vs H Q _=>∃(f:Addr) (xs:List d8) (n:Int),vs=[.ref f]∧mF C G Pc Fo d H f xs n∧yX d xs n∧(wL d xs n).length≤1000∧∀H',aD H H'→Q (.str ⟨(wL d xs n).toArray⟩) H'
theorem ky(d:Nat):∀(x:d8) (r:List d8),Str.join "." ((x::r).map fun y=>(⟨(dY d y).toArray⟩:Str))=⟨(dY d x++bU d r).toArray⟩
 |x,[]=>by
  show (⟨(dY d x).toArray⟩:Str)=⟨(dY d x++[]).toArray⟩
  rw[List.append_nil]
 |x,y::r=>by
  show (⟨(dY d x).toArray⟩:Str)++"." ++Str.join "." ((y::r).map fun y=>(⟨(dY d y).toArray⟩:Str))=⟨(dY d x++(46::dY d y++bU d r)).toArray⟩
  rw[ky d y r,LH,show (⟨#[46]⟩:Str)=⟨[46].toArray⟩ from rfl,aU,aU]
  simp
theorem gv.same{C G Pc:Addr}{d:Nat}{H H':Hp}{p:Addr}{x:d8}(h:gv C G Pc d H p x)(e:aD H H'):gv C G Pc d H' p x:=
 let ⟨dx,l,ps,h1,h2,h3⟩:=h;⟨dx,l,ps,e _ _ h1,e _ _ h2,aR (fun _ _ h=>dj.same h e) h3⟩
theorem mF.same{C G Pc Fo:Addr}{d:Nat}{H H':Hp}{p:Addr}{xs:List d8}{n:Int}(h:mF C G Pc Fo d H p xs n)(e:aD H H'):mF C G Pc Fo d H' p xs n:=
 let ⟨dx,l,ps,h1,h2,h3⟩:=h;⟨dx,l,ps,e _ _ h1,e _ _ h2,aR (fun _ _ h=>gv.same h e) h3⟩
theorem zl:az ["self"] ["self"] (ao ji):=dM
theorem tX(d:Nat)(D:bG K Fo "shown" "Formula.shown" ji ["self"])(T:hU K mg C R G Pc Fo uK uN uB uE uM uC uP uI uD uL uT)(c1:bW P w K mg base (2*d+4) Pc "shown" ["self"] (iS C G Pc d))(c2:a4 P w K mg base 2 "charge_shown" ["charge"] oI):bW P w K mg base (2*d+5) Fo "shown" ["self"] (oJ C G Pc Fo d):=by
 obtain⟨_,_,fI⟩:=c1
 obtain⟨_,_,dG⟩:=c2
 refine D.eB zl (fun vs H Q E h=>?_) (fun f ba A outer s H vs Q E hr h=>?_)
 ·obtain⟨f,xs,n,rfl,_⟩:=h
  rfl
 ·obtain⟨f,xs,n,rfl,⟨dx,l,ps,hf,hl,hP⟩,bg,hz,q⟩:=h
  have big:(3000 :Nat) <sizeLine:=by decide
  have lp:ps.length=xs.length:=Paired.length hP
  refine⟨_,(ai
     (aY (jS (qH (bh (pv 0) rfl) (fun _=>rfl)))
      (aq
       (ay (br (v:= .str "e^-") rfl T.iZ ⟨_,rfl⟩)))
      aK)
    (aq
     (ay (aw aF (eG PySem.F.plainAttrs_str PySem.F.slot_str_join PySem.F.type_str_join jf (br (v:= .str ".") rfl T.hV ⟨_,rfl⟩) (aa (gj (sc:=(ao ji)) (NX:=["self"]) (N:=["piece"]) (fr:=[none]) ⟨by rfl,by rfl,by decide+kernel,by decide+kernel,by decide+kernel,by rfl,by decide+kernel⟩ rfl rfl rfl (eK (bh (pv 0) rfl)) (fun _ _ _ _=>(aX (i:=0) (show (["piece"]:List Str).Nodup by decide+kernel) rfl (Or.inl rfl) (Or.inr rfl))) (fun _ _ _ _=>ik) (fun _ _ _ _=>(bq (pv 0) T.cp fI.m fI.ok (hr.mono (by omega)) fI.b .nil aM))) ak)) (aJ dG.ok (hr.mono (by omega)) rfl dG.g dG.kp dG.b .nil aM (aa (bh (pv 0) rfl) ak)))))),?_⟩
  refine⟨_,rfl,f,Fo,dx,_,_,rfl,hf,T.bx,T.gw,gu _ _,_, .inl ⟨_,bF.of hl,rfl⟩,?_⟩
  cases xs with
  |nil=>
   have hp:ps=[]:=List.length_eq_zero_iff.mp lp
   subst hp
   refine cA ?_
   have e0:(⟨(wL d [] n).toArray⟩:Str)="e^-" :=by rw[eE];rfl
   rw[e0] at q
   exact q _ (aD.refl _)
  |cons x0 r0=>
   obtain⟨NJ,EN,n1,n2⟩:=bg
   have LK:(!(ps.map V.ref).isEmpty)=true:=by
    cases ps with
    |nil=>simp at lp
    |cons _ _=>rfl
   rw[LK]
   refine cQ ?_
   have zc:=qg n1 n2
   have ez:wL d (x0::r0) n=(dY d x0++bU d r0)++mE n:=by
    show x0.2.flatMap (cJ d)++(bU d r0++mE n)=_
    unfold dY
    rw[NJ,show bA 1=[] from rfl,List.nil_append,List.append_assoc]
   rw[ez,List.length_append,List.length_append] at hz
   have Ur:=qa d r0
   have each:∀y∈x0::r0,(dY d y).length≤1000:=fun y hy=>by
    rcases List.mem_cons.mp hy with rfl|hy
    ·omega
    ·obtain⟨a,b,rfl⟩:=List.append_of_mem hy
     have:(bU d (a++y::b)).length=(bU d a).length+(46::dY d y++bU d b).length:=by
      unfold bU
      rw[List.flatMap_append,List.length_append,List.flatMap_cons]
     rw[this,List.length_append,List.length_cons] at hz
     omega
   refine⟨rfl,_,rfl,f,Fo,dx,_,_,rfl,hf,T.bx,T.gw,gu _ _,l,rfl,⟨_,bF.of hl⟩,fun D hD=>fQ (K:=K) (a:=l) (D:=D) (xs:=ps.map V.ref) (fun i σ H'=>∃v:Option V,σ=[v]∧aD H H'∧H' D=some (.lst (((x0::r0).take i).map fun x=>V.str ⟨(dY d x).toArray⟩)))
    ?_ (fun i σ H' _ ⟨_,_,e,_⟩=>bF.of (e _ _ hl)) ?_ ?_⟩
   ·exact⟨none,rfl,aD.new hD,ag⟩
   ·rintro i v σ H' hi ⟨v',rfl,e,lH⟩ N hN
    rw[List.getElem?_map] at hi
    obtain⟨p,hp,rfl⟩:∃p,ps[i]? =some p∧v=V.ref p:=by
     cases hh:ps[i]? with
     |none=>rw[hh] at hi;cases hi
     |some p=>rw[hh] at hi;exact⟨p,rfl,(Option.some.inj hi).symm⟩
    obtain⟨y,hy,hY⟩:=cM hP hp
    have hY:=hY.same e
    obtain⟨d5,l',Gg,h1,h2⟩:=id hY
    have my:=List.mem_of_getElem? hy
    refine⟨_,rfl,p,d5,_,rfl,h1,ju _ _ (by decide+kernel) (by decide+kernel),p,y,rfl,hY,EN y my,each y my,fun dP e'=>⟨_,e' _ _ lH,?_,hN _ _ ⟨_,rfl,fun b o z=>?_,?_⟩⟩⟩
    ·rw[List.length_map]
     have:((x0::r0).take i).length≤(x0::r0).length:=List.length_take_le' _ _
     rw[List.length_cons] at this
     omega
    ·rw[ah (af z hD)]
     exact e' _ _ (e _ _ z)
    ·rw[ag,List.take_add_one,hy,List.map_append]
     rfl
   ·rintro σ H' ⟨v,rfl,e,lH⟩
    rw[List.length_map,lp,List.take_length] at lH
    have ej:Txt.join "." ((x0::r0).map fun y=>(⟨(dY d y).toArray⟩:Str))=⟨(dY d x0++bU d r0).toArray⟩:=by
     have:=PyProof.Rows.join_closes (sep:=".") (sep':=".") (ys:=(x0::r0).map fun y=>(⟨(dY d y).toArray⟩:Str)) rfl
     rw[←ky]
     simpa using this
    have es:(((x0::r0).map fun y=>(⟨(dY d y).toArray⟩:Str)).map (·.length)).sum≤(dY d x0).length+(bU d r0).length:=by
     rw[List.map_map,List.map_cons,List.sum_cons]
     have:∀r:List d8,(r.map ((·.length)∘fun y=>(⟨(dY d y).toArray⟩:Str))).sum≤(bU d r).length:=fun r=>by
      induction r with
      |nil=>exact Nat.le_refl _
      |cons y r ih=>
       show (⟨(dY d y).toArray⟩:Str).length+(r.map ((·.length)∘fun y=>(⟨(dY d y).toArray⟩:Str))).sum≤(46::dY d y++bU d r).length
       rw[aB,List.length_append,List.length_cons]
       omega
     have h2:=this r0
     show (⟨(dY d x0).toArray⟩:Str).length+_≤_
     rw[aB]
     omega
    refine⟨_,D,(x0::r0).map (fun y=>⟨(dY d y).toArray⟩),rfl,rfl,bF.of (by rw[lH,List.map_map];rfl),?_,?_⟩
    ·have e0:("." :Str).length=1:=by decide+kernel
     rw[e0,List.length_map,List.length_cons]
     omega
    ·rw[ej]
     refine⟨_,rfl,f,Fo,dx,_,_,rfl,e _ _ hf,T.bx,T.mG,p8 _ _,n,rfl,n1,n2,_,_,rfl,rfl,?_,?_⟩
     ·rw[aB,aB,List.length_append]
      omega
     ·rw[aU,←ez]
      exact q _ e
theorem qh:az ["count"] ["count"] (ao fo):=dM
theorem mY(D:Def K mg "count_shown" "count_shown" fo ["count"])(T:fF K mg C):a4 P w K mg base 1 "count_shown" ["count"] e8:=by
 refine D.eB qh (fun vs H Q E h=>?_) (fun f ba A outer s H vs Q E hr h=>?_)
 ·obtain⟨n,rfl,_⟩:=h
  rfl
 ·obtain⟨n,rfl,h1,h2,k⟩:=h
  refine⟨_,(ai
     (aY (au aW (pv 0) aj (aA _))
      (aq
       (ay ax))
      aK)
    (aq
     (ay (dm ja rfl T.yK tm (aa (pv 0) ak))))),?_⟩
  refine⟨_,rfl,rfl,_,rfl,dq (fun e=>?_) fun e=>?_⟩
  ·have e:n=1:=by simpa using e
   subst e
   exact k
  ·have e:¬n=1:=by simpa using e
   refine⟨_,rfl,_,rfl,og (by omega) (by omega),?_⟩
   unfold di at k
   rw[if_neg e] at k
   exact k
theorem xb:az ["_law_count_here"] ["_law_count_here"] (ao jr):=dM
theorem tY(D:Def K mg "_law_figures" "_law_figures" jr ["_law_count_here"])(T:fF K mg C):a4 P w K mg base 1 "_law_figures" ["_law_count_here"] e8:=by
 refine D.eB xb (fun vs H Q E h=>?_) (fun f ba A outer s H vs Q E hr h=>?_)
 ·obtain⟨n,rfl,_⟩:=h
  rfl
 ·obtain⟨n,rfl,h1,h2,k⟩:=h
  refine⟨_,(ai
     (aY (au aW (pv 0) aj (aA _))
      (aq
       (ay ax))
      aK)
    (aq
     (ay (dm ja rfl T.yK tm (aa (pv 0) ak))))),?_⟩
  refine⟨_,rfl,rfl,_,rfl,dq (fun e=>?_) fun e=>?_⟩
  ·have e:n=1:=by simpa using e
   subst e
   exact k
  ·have e:¬n=1:=by simpa using e
   refine⟨_,rfl,_,rfl,og (by omega) (by omega),?_⟩
   unfold di at k
   rw[if_neg e] at k
   exact k
theorem EO:az ["self","kind","count"] ["self","kind","count"] (ao fV):=dM
theorem BH(D:j0 K C "Atom.__init__" fV ["self","kind","count"] [1])(T:fF K mg C):fP P w K mg base 1 C ["self","kind","count"] [1] (yJ C):=by
 refine D.eB EO (fun vs H Q E h=>?_) (fun f ba A outer s H vs Q E hr h=>?_)
 ·obtain⟨p,dx,k,n,rfl,_⟩:=h
  rfl
 ·obtain⟨p,dx,k,n,rfl,hp,q⟩:=h
  refine⟨_,(ai
     (fD (pv 0) (pv 1) rfl)
    (aq
     (fD (pv 0) (pv 2) rfl))),?_⟩
  refine⟨_,rfl,_,rfl,p,C,dx,[],rfl,hp,T.eC,T.pX,(by show 0<1000;decide),_,rfl,_,rfl,p,C,dx,_,rfl,ag,T.eC,T.mx,(by show 1<1000;decide),?_⟩
  refine q _ ag fun b o e hb=>?_
  rw[ah hb,ah hb]
  exact e
theorem BI:az ["self"] ["self"] (ao pK):=dM
theorem zm(D:bG K C "shown" "Atom.shown" pK ["self"])(T:fF K mg C)(c1:a4 P w K mg base 1 "count_shown" ["count"] e8):bW P w K mg base 2 C "shown" ["self"] (pW C):=by
 obtain⟨_,_,aO⟩:=c1
 refine D.eB BI (fun vs H Q E h=>?_) (fun f ba A outer s H vs Q E hr h=>?_)
 ·obtain⟨p,k,n,rfl,_⟩:=h
  rfl
 ·obtain⟨p,k,n,rfl,⟨dx,hp⟩,hk,h1,h2,q⟩:=h
  refine⟨_,(aq
     (ay (aw aF (bh (pv 0) rfl) (aJ aO.ok (hr.mono (by decide)) rfl aO.g aO.kp aO.b .nil aM (aa (bh (pv 0) rfl) ak))))),?_⟩
  refine⟨_,rfl,p,C,dx,_,_,rfl,hp,T.eC,T.pX,oj _ _,_,rfl,p,C,dx,_,_,rfl,hp,T.eC,T.mx,mv _ _,n,rfl,h1,h2,_,_,rfl,rfl,?_,q⟩
  have:=fX h1 h2
  have:(100 :Nat)≤sizeLine:=by decide
  omega
theorem zo:az ["_law_script","_law_k"] ["_law_script","_law_k"] (ao lh):=dM
theorem tZ(D:Def K mg "_law_cell_at" "_law_cell_at" lh ["_law_script","_law_k"])(T:fF K mg C):a4 P w K mg base 1 "_law_cell_at" ["_law_script","_law_k"] (rB K):=by
 refine D.eB zo (fun vs H Q E h=>?_) (fun f ba A outer s H vs Q E hr h=>?_)
 ·obtain⟨a,ns,k,rfl,_⟩:=h
  rfl
 ·obtain⟨a,ns,k,rfl,hS,hl,q⟩:=h
  refine⟨_,(ai
     (aY (au lU (pv 1) (a9 cm rfl T.er cH (aa (pv 0) ak)) (aA _))
      (aq
       (ay (bw cC (pv 0) (pv 1) (fun _ _=>rfl))))
      aK)
    (aq
     (ay aj))),?_⟩
  refine⟨_,rfl,_,rfl,a,_,rfl, .inl hS,_,_,rfl,rfl,_,rfl,dq (fun e=>?_) fun e=>?_⟩
  ·have e:k<ns.length:=by simpa using e
   exact⟨_,rfl,_,rfl,a,_,_,V.int ns[k],rfl,rfl,hS,pe (by rw[List.getElem?_map,List.getElem?_eq_getElem e];rfl),q _⟩
  ·exact q 0
theorem jE:az ["_law_cell","_law_prime","_law_digits","_law_step","_law_number"] ["_law_cell","_law_prime"] (ao pN):=dM
theorem t4{j:Nat}{p:Int}(h:j5[j]? =some p):0<p:=by
 have all:∀q∈j5,(0 :Int) <q:=by decide
 exact all p (List.mem_of_getElem? h)
theorem xc:∀j:Nat,j<7→∀p,j5[j]? =some p→(j5.map V.int).findIdx? (fun z=>wk z (.int p))=some j:=by
 intro j hj p hp
 match j,hj with
 |0,_=>cases hp;rfl
 |1,_=>cases hp;rfl
 |2,_=>cases hp;rfl
 |3,_=>cases hp;rfl
 |4,_=>cases hp;rfl
 |5,_=>cases hp;rfl
 |6,_=>cases hp;rfl
theorem zp(D:Def K mg "_law_mixed" "_law_mixed" pN ["_law_cell","_law_prime"])(T:fF K mg C):a4 P w K mg base 1 "_law_mixed" ["_law_cell","_law_prime"] ly:=by
 refine D.eB jE (fun vs H Q E h=>?_) (fun f ba A outer s H vs Q E hr h=>?_)
 ·obtain⟨c,p,j,rfl,_⟩:=h
  rfl
 ·obtain⟨c,p,j,rfl,hj,hp,q⟩:=h
  have pp:=t4 hp
  refine⟨_,(ai
     (aY (PW.pt (bX (au aW (aw a7 (pv 0) aj) aj (aA _)) (bZ (au kA (pv 0) (aw xU aj aj) (aA _)))))
      (ai
       (aL (i:=2) jE.nd rfl (Or.inl rfl) (aw bC (pv 0) aj))
      (ai
       (eA PassesOwn.never rfl (fM rfl T.jv (aa (eG PySem.F.plainAttrs_list PySem.F.slot_list_index PySem.F.type_list_index yl (b7 (uO (.int (.int (.int (.int (.int (.int (.int .nil))))))))) (aa (pv 1) ak)) ak)) (aX (i:=3) jE.nd rfl (Or.inl rfl))
        (aq
         (aL (i:=2) jE.nd rfl (Or.inl rfl) (aw bC (pv 2) aj))))
      (aq
       (ay (aw a7 (aw a7 (pv 2) aj) (pv 1))))))
      aK)
    (ai
     (aL (i:=4) jE.nd rfl (Or.inl rfl) (aw cf (aw a7 (pv 0) aj) aj))
    (aq
     (ay (aw a7 (aw cf (aw jV (aw jV (pv 4) (pv 4)) aj) (pv 4)) (pv 1)))))),?_⟩
  have low:∀H':Hp,aD H H'→AG (DE (xy (xT fun i j=> .int (i+j)) (xy (rI (fun _ j=>0<j) fun i j=> .int (i%j)) (iU 0) (tC (.int 2147483647))) (tC (.int 7))) (fL 4))
    (GA (xy (rI (fun _ j=>0<j) fun i j=> .int (i%j)) (xy (xT fun i j=> .int (i+j)) (xy (rI wb fun i j=> .int (i*j)) (xy (rI wb fun i j=> .int (i*j)) (iU 4) (iU 4)) (tC (.int 48271))) (iU 4)) (iU 1)))
    { nx:=fun _ H'=>Q .cw H',rt:=Q } [some (.int c),some (.int p),none,none,none] H':=fun H' e=>by
   have b0:0≤c%2147483647:=Int.emod_nonneg _ (by decide)
   have b1:c%2147483647<2147483647:=Int.emod_lt_of_pos _ (by decide)
   exact⟨_,rfl,_,_,rfl,rfl,(by show (0 :Int) <2147483647;decide),_,_,rfl,rfl,_,rfl,_,rfl,_,_,rfl,rfl, .inl ⟨by omega,by omega⟩,_,_,rfl,rfl, .inr ⟨by decide,by decide⟩,_,rfl,_,_,rfl,rfl,_,rfl,_,_,rfl,rfl,pp,q _ _ e⟩
  refine⟨_,rfl,_,_,rfl,rfl,(by show (0 :Int) <2;decide),rfl,_,rfl,dq (fun _=>?_) fun _=>low H (aD.refl H)⟩
  refine⟨_,rfl,_,_,rfl,rfl,⟨by decide,by decide,by decide⟩,_,_,rfl,rfl,_,rfl,dq (fun _=>?_) fun _=>low H (aD.refl H)⟩
  refine⟨_,rfl,_,_,rfl,rfl,⟨by decide,by decide⟩,(by show 7≤sizeLine;decide),fun l hl=>⟨.inl ⟨rfl,_,bF.of ag⟩,_,rfl,l,j5.map V.int,_,j,rfl,rfl,bF.of ag,rfl,rfl,xc j hj p hp,?_⟩⟩
  refine⟨_,rfl,by omega,by omega,fN (fun i σ H'=>∃(z:Int) (v:Option V),σ=[some (.int c),some (.int p),some (.int z),v,none]∧aD H H') ⟨_,none,rfl,aD.new hl⟩ ?_ ?_⟩
  ·rintro i σ H' hi ⟨z,v,rfl,e⟩
   exact⟨_,rfl,_,_,rfl,rfl,⟨by decide,by decide⟩,_,_,rfl,e⟩
  ·rintro σ H' ⟨z,v,rfl,e⟩
   exact⟨_,rfl,_,_,rfl,rfl,(by show (0 :Int) <1000003;decide),_,rfl,_,_,rfl,rfl,pp,q _ _ e⟩
theorem BJ:az ["_law_found"] ["_law_found"] (ao pO):=dM
theorem zq(D:Def K mg "_law_whole" "_law_whole" pO ["_law_found"])(T:fF K mg C):a4 P w K mg base 1 "_law_whole" ["_law_found"] u9:=by
 refine D.eB BJ (fun vs H Q E h=>?_) (fun f ba A outer s H vs Q E hr h=>?_)
 ·obtain⟨i,rfl,_⟩:=h
  rfl
 ·obtain⟨i,rfl,q⟩:=h
  refine⟨_,(aq
     (ay (oY (a9 fk rfl T.eO d6 (aa (pv 0) (aa (kR (v:= .ty "int") rfl T.vc pw rfl) ak))) (sQ (DB (a9 fk rfl T.eO d6 (aa (pv 0) (aa (kR (v:= .ty "bool") rfl T.Ei A3 rfl) ak)))))))),?_⟩
  exact⟨_,rfl,_,_,_,_,_,rfl,rfl, .int i,T.k1,_,rfl,cA ⟨_,rfl,_,_,_,_,_,rfl,rfl, .int i,T.k2,_,rfl,q⟩⟩
abbrev great:Str:="ABCDEFGHIJKLMNOPQRSTUVWXYZ"
abbrev small:Str:="abcdefghijklmnopqrstuvwxyz"
theorem xf:great.cps.toList.length=26:=by decide+kernel
theorem xg:small.cps.toList.length=26:=by decide+kernel
def HR:List Str:=["C","Co","O","Cob","H","N","No","B","Ob","Nob"]
theorem i4:az ["_law_number","_law_great","_law_small","_law_kind_here","_law_k"] ["_law_number"] (ao uZ):=dM
def vA:Sp:=fun vs H Q _=>∃n:Int,vs=[.int n]∧∀(k:List Nat) H',lD k→aD H H'→Q (.str ⟨k.toArray⟩) H'
def ES:List Nat→Bool
 |c::r=>iQ c&&r.all j6&&decide (r.length≤2)
 | []=>false
theorem ET:∀{l:List Nat},ES l=true→lD l
 | [],h=>by cases h
 |c::r,h=>by
  simp only [ES,Bool.and_eq_true,decide_eq_true_eq] at h
  exact⟨c,r,rfl,h.1.1,h.1.2,h.2⟩
theorem EU:HR.all (fun x=>ES x.cps.toList)=true:=by decide+kernel
theorem xh:great.cps.toList.all iQ=true:=by decide+kernel
theorem xi:small.cps.toList.all j6=true:=by decide+kernel
theorem zr(D:Def K mg "_law_kind" "_law_kind" uZ ["_law_number"])(T:fF K mg C):a4 P w K mg base 1 "_law_kind" ["_law_number"] vA:=by
 refine D.eB i4 (fun vs H Q E h=>?_) (fun f ba A outer s H vs Q E hr h=>?_)
 ·obtain⟨n,rfl,_⟩:=h
  rfl
 ·obtain⟨n,rfl,q⟩:=h
  refine⟨_,(ai
     (aL (i:=1) i4.nd rfl (Or.inl rfl) ax)
    (ai
     (aL (i:=2) i4.nd rfl (Or.inl rfl) ax)
    (ai
     (aY (au aW (aw a7 (pv 0) aj) aj (aA _))
      (aq
       (ay (bw cC (b7 (uO (.str (.str (.str (.str (.str (.str (.str (.str (.str (.str .nil)))))))))))) (aw a7 (aw bC (pv 0) aj) aj) (fun _ _=>rfl))))
      aK)
    (ai
     (aL (i:=0) i4.nd rfl (Or.inl rfl) (aw bC (pv 0) aj))
    (ai
     (aL (i:=3) i4.nd rfl (Or.inl rfl) (bw jX (pv 1) (aw a7 (pv 0) aj) (fun _ _=>rfl)))
    (ai
     (eA PassesOwn.never rfl (fM rfl T.jv (aa (aw a7 (aw bC (pv 0) aj) aj) ak)) (aX (i:=4) i4.nd rfl (Or.inl rfl))
      (aq
       (aL (i:=3) i4.nd rfl (Or.inl rfl) (aw aF (pv 3) (bw jX (pv 2) (aw a7 (aw bC (pv 0) (aw cf aj (aw jV aj (pv 4)))) aj) (fun _ _=>rfl))))))
    (aq
     (ay (pv 3))))))))),?_⟩
  refine⟨_,rfl,_,_,rfl,rfl,(by show (0 :Int) <2;decide),rfl,_,rfl,dq (fun _=>?_) fun _=>?_⟩
  ·have b0:0≤n/2%10:=Int.emod_nonneg _ (by decide)
   have b1:n/2%10<10:=Int.emod_lt_of_pos _ (by decide)
   obtain⟨v,hv,mZ⟩:=iX (xs:=HR.map V.str) b0 b1
   obtain⟨k,hk,rfl⟩:=List.mem_map.mp hv
   have ek:(⟨k.cps.toList.toArray⟩:Str)=k:=eP (by simp)
   have Us:=ET (List.all_eq_true.mp EU k hk)
   have q':∀l (hl:H l=none),Q (.str k) (upd H l (.lst (HR.map V.str))):=fun l hl=>by
    have:=q k.cps.toList _ Us (aD.new (o:= .lst (HR.map V.str)) hl)
    rwa [ek] at this
   exact⟨(by show 10≤sizeLine;decide),fun l hl=>⟨_,rfl,_,_,rfl,rfl,⟨by decide,by decide⟩,_,_,rfl,rfl,(by show (0 :Int) <10;decide),l,HR.map V.str,_,_,rfl,rfl,bF.of ag,mZ,q' l hl⟩⟩
  ·have b0:0≤n/2%26:=Int.emod_nonneg _ (by decide)
   have b1:n/2%26<26:=Int.emod_lt_of_pos _ (by decide)
   have b2:0≤n/2/26%3:=Int.emod_nonneg _ (by decide)
   have b3:n/2/26%3<3:=Int.emod_lt_of_pos _ (by decide)
   obtain⟨c,hc,mZ⟩:=iX (xs:=great.cps.toList) b0 (by rw[xf];exact b1)
   have gc:=List.all_eq_true.mp xh c hc
   refine⟨_,rfl,_,_,rfl,rfl,⟨by decide,by decide⟩,_,rfl,_,rfl,_,_,rfl,rfl,(by show (0 :Int) <26;decide),great,_,c,rfl,rfl,(by decide+kernel),mZ,?_⟩
   refine⟨_,rfl,_,_,rfl,rfl,⟨by decide,by decide⟩,_,_,rfl,rfl,(by show (0 :Int) <3;decide),_,rfl,by omega,by omega,
    fN (fun i σ H'=>∃(r:List Nat) (v:Option V),σ=[some (.int (n/2)),some (.str great),some (.str small),some (.str ⟨(c::r).toArray⟩),v]∧r.all j6=true∧r.length≤i∧H'=H) ⟨[],none,rfl,rfl,Nat.le_refl _,rfl⟩ ?_ ?_⟩
   ·rintro i σ H' hi ⟨r,v,rfl,ha,hk,rfl⟩
    have c0:0≤n/2/(78+1950*(0+(i:Int))) %26:=Int.emod_nonneg _ (by decide)
    have c1:n/2/(78+1950*(0+(i:Int))) %26<26:=Int.emod_lt_of_pos _ (by decide)
    obtain⟨c2,NK,EV⟩:=iX (xs:=small.cps.toList) c0 (by rw[xg];exact c1)
    have Ut:=List.all_eq_true.mp xi c2 NK
    have l2:(⟨#[c2]⟩:Str).length=1:=rfl
    have big:(100 :Nat)≤sizeLine:=by decide
    have e2:(⟨(c::r).toArray⟩:Str)++⟨#[c2]⟩=⟨(c::(r++[c2])).toArray⟩:=aU (c::r) [c2]
    refine⟨_,rfl,_,rfl,_,rfl,_,rfl,_,_,rfl,rfl, .inl ⟨by decide,by decide⟩,_,_,rfl,rfl,_,_,rfl,rfl,⟨by omega,by omega⟩,_,_,rfl,rfl,(by show (0 :Int) <26;decide),small,_,c2,rfl,rfl,(by decide+kernel),EV,_,_,rfl,rfl,?_,r++[c2],some (.int (0+(i:Int))),?_,?_,?_,rfl⟩
    ·rw[aB,l2,List.length_cons]
     omega
    ·rw[←e2]
     rfl
    ·rw[List.all_append,ha]
     simpa using Ut
    ·rw[List.length_append]
     show r.length+1≤i+1
     omega
   ·rintro σ H' ⟨r,v,rfl,ha,hk,rfl⟩
    exact⟨_,rfl,q (c::r) _ ⟨c,r,rfl,gc,ha,by omega⟩ (aD.refl _)⟩
def qi:Sp:=fun vs H Q _=>∃n:Int,vs=[.int n]∧∀c H',1≤c→c≤999→aD H H'→Q (.int c) H'
theorem BK:az ["_law_number"] ["_law_number"] (ao pP):=dM
theorem zt(D:Def K mg "_law_count" "_law_count" pP ["_law_number"]):a4 P w K mg base 1 "_law_count" ["_law_number"] qi:=by
 refine D.eB BK (fun vs H Q E h=>?_) (fun f ba A outer s H vs Q E hr h=>?_)
 ·obtain⟨n,rfl,_⟩:=h
  rfl
 ·obtain⟨n,rfl,q⟩:=h
  refine⟨_,(aq
     (ay (bw cC (b7 (aa aj (aa aj (aa (aw cf aj (aw a7 (aw bC (pv 0) aj) aj)) (aa (aw cf aj (aw a7 (aw bC (pv 0) aj) aj)) ak))))) (aw a7 (pv 0) aj) (fun _ _=>rfl)))),?_⟩
  have b0:0≤n%4:=Int.emod_nonneg _ (by decide)
  have b1:n%4<4:=Int.emod_lt_of_pos _ (by decide)
  have d0:0≤n/4%11:=Int.emod_nonneg _ (by decide)
  have d1:n/4%11<11:=Int.emod_lt_of_pos _ (by decide)
  have e0:0≤n/4%999:=Int.emod_nonneg _ (by decide)
  have e1:n/4%999<999:=Int.emod_lt_of_pos _ (by decide)
  obtain⟨v,hv,mZ⟩:=iX (xs:=[V.int 1,V.int 1,V.int (2+n/4%11),V.int (1+n/4%999)]) b0 b1
  have hc:∃c,v=V.int c∧1≤c∧c≤999:=by
   simp only [List.mem_cons,List.not_mem_nil,or_false] at hv
   rcases hv with rfl|rfl|rfl|rfl
   ·exact⟨1,rfl,by decide,by decide⟩
   ·exact⟨1,rfl,by decide,by decide⟩
   ·exact⟨_,rfl,by omega,by omega⟩
   ·exact⟨_,rfl,by omega,by omega⟩
  obtain⟨c,rfl,c0,c1⟩:=hc
  exact⟨_,rfl,_,_,rfl,rfl,⟨by decide,by decide⟩,_,_,rfl,rfl,(by show (0 :Int) <11;decide),_,_,rfl,rfl,_,rfl,_,_,rfl,rfl,⟨by decide,by decide⟩,_,_,rfl,rfl,(by show (0 :Int) <999;decide),_,_,rfl,rfl,(by show 4≤sizeLine;decide),
   fun l hl=>⟨_,rfl,_,_,rfl,rfl,(by show (0 :Int) <4;decide),l,_,_,_,rfl,rfl,bF.of ag,mZ,q c _ c0 c1 (aD.new hl)⟩⟩
variable {uC uP uI uD uL uT:Tok}
theorem BL:az ["self","parts","count"] ["self","parts","count"] (ao dS):=dM
theorem zu(D:j0 K G "Group.__init__" dS ["self","parts","count"] [1])(T:hU K mg C R G Pc Fo uK uN uB uE uM uC uP uI uD uL uT):fP P w K mg base 1 G ["self","parts","count"] [1] (jA G):=by
 refine D.eB BL (fun vs H Q E h=>?_) (fun f ba A outer s H vs Q E hr h=>?_)
 ·obtain⟨p,dx,l,c,xs,rfl,_⟩:=h
  rfl
 ·obtain⟨p,dx,l,c,xs,rfl,hp,hl,q⟩:=h
  refine⟨_,(ai
     (fD (pv 0) (dm gi rfl T.n_list px (aa (pv 1) ak)) rfl)
    (aq
     (fD (pv 0) (pv 2) rfl))),?_⟩
  refine⟨_,rfl,l,xs,rfl, .inl (bF.of hl),fun n hn=>?_⟩
  have zv:p≠n:=af hp hn
  refine⟨_,rfl,p,G,dx,[],rfl,(by rw[ah zv];exact hp),T.cZ,T.j8,(by show 0<1000;decide),_,rfl,_,rfl,p,G,dx,_,rfl,ag,T.cZ,T.j9,(by show 1<1000;decide),?_⟩
  refine q n _ hn ag (by rw[ah (Ne.symm zv),ah (Ne.symm zv),ag]) fun b o e hb=>?_
  rw[ah hb,ah hb,ah (af e hn)]
  exact e
theorem BM:az ["self","parts","count"] ["self","parts","count"] (ao dU):=dM
theorem zw(D:j0 K Pc "Piece.__init__" dU ["self","parts","count"] [1])(T:hU K mg C R G Pc Fo uK uN uB uE uM uC uP uI uD uL uT):fP P w K mg base 1 Pc ["self","parts","count"] [1] (jA Pc):=by
 refine D.eB BM (fun vs H Q E h=>?_) (fun f ba A outer s H vs Q E hr h=>?_)
 ·obtain⟨p,dx,l,c,xs,rfl,_⟩:=h
  rfl
 ·obtain⟨p,dx,l,c,xs,rfl,hp,hl,q⟩:=h
  refine⟨_,(ai
     (fD (pv 0) (dm gi rfl T.n_list px (aa (pv 1) ak)) rfl)
    (aq
     (fD (pv 0) (pv 2) rfl))),?_⟩
  refine⟨_,rfl,l,xs,rfl, .inl (bF.of hl),fun n hn=>?_⟩
  have zv:p≠n:=af hp hn
  refine⟨_,rfl,p,Pc,dx,[],rfl,(by rw[ah zv];exact hp),T.cp,T.j',(by show 0<1000;decide),_,rfl,_,rfl,p,Pc,dx,_,rfl,ag,T.cp,T.ki,(by show 1<1000;decide),?_⟩
  refine q n _ hn ag (by rw[ah (Ne.symm zv),ah (Ne.symm zv),ag]) fun b o e hb=>?_
  rw[ah hb,ah hb,ah (af e hn)]
  exact e
theorem BN:az ["self","pieces","charge"] ["self","pieces","charge"] (ao dW):=dM
theorem zx(D:j0 K Fo "Formula.__init__" dW ["self","pieces","charge"] [0])(T:hU K mg C R G Pc Fo uK uN uB uE uM uC uP uI uD uL uT):fP P w K mg base 1 Fo ["self","pieces","charge"] [0] (p9 Fo):=by
 refine D.eB BN (fun vs H Q E h=>?_) (fun f ba A outer s H vs Q E hr h=>?_)
 ·obtain⟨p,dx,l,c,xs,rfl,_⟩:=h
  rfl
 ·obtain⟨p,dx,l,c,xs,rfl,hp,hl,q⟩:=h
  refine⟨_,(ai
     (fD (pv 0) (dm gi rfl T.n_list px (aa (pv 1) ak)) rfl)
    (aq
     (fD (pv 0) (pv 2) rfl))),?_⟩
  refine⟨_,rfl,l,xs,rfl, .inl (bF.of hl),fun n hn=>?_⟩
  have zv:p≠n:=af hp hn
  refine⟨_,rfl,p,Fo,dx,[],rfl,(by rw[ah zv];exact hp),T.bx,T.gw,(by show 0<1000;decide),_,rfl,_,rfl,p,Fo,dx,_,rfl,ag,T.bx,T.mG,(by show 1<1000;decide),?_⟩
  refine q n _ hn ag (by rw[ah (Ne.symm zv),ah (Ne.symm zv),ag]) fun b o e hb=>?_
  rw[ah hb,ah hb,ah (af e hn)]
  exact e
def bc:Nat→Int→Tr→List (Str×Int)
 |_,m, .one k n=>[(⟨k.toArray⟩,n*m)]
 |0,_, .gr _ _=>[]
 |d+1,m, .gr ts n=>ts.flatMap (bc d (n*m))
def cU(d:Nat)(x:d8):List (Str×Int):=x.2.flatMap (bc d x.1)
def cW(d:Nat)(xs:List d8):List (Key×V):=bQ 1 [] (xs.flatMap (cU d))
theorem vB(c:Int):∀(as:List (Str×Int)) (acc:List (Key×V)),bQ 1 acc (as.map fun p=>(p.1,p.2*c))=bQ c acc as
 | [],_=>rfl
 |p::r,acc=>by
  show bQ 1 (du acc (Sum.inr p.1) (p.2*c*1)) (r.map fun p=>(p.1,p.2*c))=bQ c (du acc (Sum.inr p.1) (p.2*c)) r
  rw[Int.mul_one,vB c r]
theorem dh.vC{kvs:List (Key×V)}(h:dh kvs){k:Key}{v:V}(hm:(k,v)∈kvs):b8 kvs k=some (.int (eS kvs k)):=by
 cases f:b8 kvs k with
 |none=>exact absurd (List.mem_map_of_mem (f:=(·.1)) hm) (me f)
 |some x=>rw[h.look f]
theorem take_snoc{α:Type}{l:List α}{i:Nat}{a:α}(h:l[i]? =some a):l.take (i+1)=l.take i++[a]:=by
 rw[List.take_add_one,h]
 rfl
theorem EW(n:Int):xC [V.str "-",V.str "+"] (if decide (n>0)=true then 1 else 0)=some (V.str (if 0<n then ("+" :Str) else ("-" :Str))):=by
 by_cases h:0<n
 ·rw[if_pos (decide_eq_true h),if_pos h]
  rfl
 ·rw[if_neg (by simpa using h),if_neg h]
  rfl
theorem BO{n:Int}(e:¬n=0):(⟨(mE n).toArray⟩:Str)="^" ++di (if n<0 then -n else n)++(if 0<n then ("+" :Str) else ("-" :Str)):=by
 unfold mE
 rw[if_neg e,b6,HD,Ng,Ep]
 rw[show (⟨#[94]⟩:Str)=⟨[94].toArray⟩ from rfl,aU]
 by_cases hp:0<n
 ·rw[if_pos hp,if_pos hp,show (⟨#[43]⟩:Str)=⟨[43].toArray⟩ from rfl,aU]
  simp
 ·rw[if_neg hp,if_neg hp,show (⟨#[45]⟩:Str)=⟨[45].toArray⟩ from rfl,aU]
  simp
theorem eH:("H" :Str)=⟨[72].toArray⟩:=by decide+kernel
variable {uC uP uI uD uL uT:Tok}
variable {uC uP uI uD uL uT:Tok}
theorem m4(c:Int):∀(d:Nat) (m:Int) (t:Tr),bc d (m*c) t=(bc d m t).map fun p=>(p.1,p.2*c)
 |d,m, .one k n=>by
  have e1:bc d (m*c) (.one k n)=[(⟨k.toArray⟩,n*(m*c))]:=by cases d<;>rfl
  have e2:bc d m (.one k n)=[(⟨k.toArray⟩,n*m)]:=by cases d<;>rfl
  rw[e1,e2,List.map_cons,List.map_nil,Int.mul_assoc]
 |0,_, .gr _ _=>rfl
 |d+1,m, .gr ts n=>by
  show ts.flatMap (bc d (n*(m*c)))=(ts.flatMap (bc d (n*m))).map _
  rw[List.map_flatMap,←Int.mul_assoc]
  congr 1
  funext t
  exact m4 c d (n*m) t
theorem vD(t:Int)(acc:List (Key×V))(as bs:List (Str×Int)):bQ t acc (as++bs)=bQ t (bQ t acc as) bs:=by
 unfold bQ
 rw[List.foldl_append]
theorem zy(t:Int){acc:List (Key×V)}(hI:dh acc)(hn:(acc.map (·.1)).Nodup)(d:Nat)(x:Tr):
  iK t acc (bQ 1 [] (bc d 1 x)) (bQ 1 [] (bc d 1 x))=bQ 1 acc (bc d t x):=by
 have e:=m4 t d 1 x
 rw[Int.one_mul] at e
 rw[vj t 1 (bc d 1 x) hI hn,Int.one_mul,e,vB]
theorem EX:dh []:=fun p hp=>by cases hp
theorem mul_int(c:Int)(all:List (Key×V)):∀(l acc:List (Key×V)),dh acc→dh (iK c acc l all)
 | [],_,h=>h
 |_::r,_,h=>mul_int c all r _ (h.add _ _)
theorem vE(c:Int)(all:List (Key×V)):∀(l acc:List (Key×V)),(iK c acc l all).length≤acc.length+l.length
 | [],_=>Nat.le_refl _
 |p::r,acc=>by
  have h1:=vE c all r (du acc p.1 (eS all p.1*c))
  have h2:(du acc p.1 (eS all p.1*c)).length≤acc.length+1:=eo _ _ _
  show (iK c (du acc p.1 (eS all p.1*c)) r all).length≤_
  rw[List.length_cons]
  omega
theorem n8{n:Nat}(h:n≤1000):n<sizeLine:=Nat.lt_of_le_of_lt h (by decide)
theorem zA{H:Hp}{d e:Addr}{A F B E:HO}(mz:d≠e)(he:H e=some E):upd (upd (upd (upd H d A) e F) d B) e E=upd H d B:=by
 funext b
 by_cases h1:b=e
 ·subst h1
  rw[ag,ah (Ne.symm mz),he]
 ·rw[ah h1]
  by_cases h2:b=d
  ·subst h2
   rw[ag,ag]
  ·rw[ah h2,ah h1,ah h2,ah h2]
theorem zB(c:Int)(all acc:List (Key×V)){i:Nat}{p:Key×V}(h:all[i]? =some p):iK c acc (all.take (i+1)) all=du (iK c acc (all.take i) all) p.1 (eS all p.1*c):=by
 unfold iK
 rw[take_snoc h,List.foldl_append]
 rfl
theorem m5{X:Cx}{D:Ends}{l d e:Addr}{t:Int}{v3 v5:Option V}{H:Hp}{acc i8:List (Key×V)}(hu:X.A.units+1<cLine)(hd:H d=some (.dK acc))(he:H e=some (.dK i8))(mz:d≠e)(hI:dh acc)(Uv:dh i8)(hl:acc.length+i8.length≤1000)(t1:1≤t)(t2:t≤999)
  (fin:∀z:Option V,D.nx [some (.ref l),some (.int t),some (.ref d),v3,some (.ref e),z] (upd H d (.dK (iK t acc i8 i8)))):
  CA X (GG (Cz X (iU 4)) (fL 5) (Ct (iU 2) (iU 5) (xy (xT fun i j=> .int (i+j)) (x6 (iU 2) (iU 5) (tC (.int 0))) (xy (rI wb fun i j=> .int (i*j)) (Cs (iU 4) (iU 5)) (iU 1))))) D [some (.ref l),some (.int t),some (.ref d),v3,some (.ref e),v5] H:=by
 refine⟨_,rfl,e,i8,rfl,he,fun o nf=>yg nf (fun j σ H'=>∃z:Option V,σ=[some (.ref l),some (.int t),some (.ref d),v3,some (.ref e),z]∧H'=upd H d (.dK (iK t acc (i8.take j) i8))) ?_ ?_ ?_ ?_⟩
 ·exact⟨v5,rfl,(mf hd).symm⟩
 ·rintro i σ H' ⟨_,_,rfl⟩
  rw[ah (Ne.symm mz)]
  exact he
 ·rintro i k v σ H' hi ⟨z,rfl,rfl⟩
  have NL:∀o',(upd (upd H d (.dK (iK t acc (i8.take i) i8))) e o') d=some (.dK (iK t acc (i8.take i) i8)):=fun o'=>by rw[ah mz];exact ag
  have hv:=Uv.vC (List.mem_of_getElem? hi)
  have Uw:dh (iK t acc (i8.take i) i8):=mul_int t i8 _ _ hI
  have VO:=vE t i8 (i8.take i) acc
  have VP:(i8.take i).length≤i8.length:=List.length_take_le' _ _
  refine⟨_,rfl,d,rfl, .inl ⟨_, .inl (NL _)⟩,_,rfl,_,qQ.k (k:=k) (NL _),_,rfl,_,rfl,e,V.int (eS i8 k),rfl, .inl ⟨_,k, .inr ⟨o,ag⟩,rfl,hv.symm⟩,_,rfl,_,_,rfl,rfl, .inr ⟨by omega,by omega⟩,_,_,Uw.at k,rfl,_,rfl,_,rfl,d,_,rfl,x4.k (k:=k) (NL _) (n8 ?_),?_⟩
  ·omega
  ·refine⟨by rw[ah (Ne.symm mz)];exact ag,some (kV k),rfl,?_⟩
   rw[zA mz he,zB t i8 acc hi]
   rfl
 ·rintro σ H' ⟨z,rfl,rfl⟩
  rw[List.take_length]
  exact fin z
theorem cz:az ["parts","times","total","part","inner","kind"] ["parts","times"] (ao fU):=dM
theorem zC:az ["self"] ["self"] (ao k7):=dM
theorem xj(D:bG K C "counts" "Atom.counts" k7 ["self"])(T:fF K mg C):bW P w K mg base 1 C "counts" ["self"] (mw C):=by
 refine D.eB zC (fun vs H Q E h=>?_) (fun f ba A outer s H vs Q E hr h=>?_)
 ·obtain⟨p,k,n,rfl,_⟩:=h
  rfl
 ·obtain⟨p,k,n,rfl,⟨dx,hp⟩,q⟩:=h
  refine⟨_,(aq
     (ay (kW (eY (bh (pv 0) rfl) (bh (pv 0) rfl) kU) rfl rfl (by intro z;cases z) (by decide)))),?_⟩
  intro d hd
  have CB:∀o,(upd H d o) p=some (.ins C dx (pV k n)):=fun o=>by rw[ah (af hp hd)];exact hp
  refine⟨_,rfl,p,C,dx,_,_,rfl,CB _,T.eC,T.pX,oj _ _,_,rfl,p,C,dx,_,_,rfl,CB _,T.eC,T.mx,mv _ _,ag,[(Sum.inr k, .int n)],rfl,(by show 1≤15;decide),?_⟩
  rw[oO]
  exact q d hd
def i5(C G:Addr):Nat→Sp
 |0=>fun _ _ _ _=>False
 |d+1=>fun vs H Q _=>∃(g:Addr) (ts:List Tr) (n:Int),vs=[.ref g]∧dj C G (d+1) H g (.gr ts n)∧kD (d+1) (.gr ts n)∧(bc (d+1) 1 (.gr ts n)).length≤400∧∀e H',H e=none→H' e=some (.dK (bQ 1 [] (bc (d+1) 1 (.gr ts n))))→aD H H'→Q (.ref e) H'
def gE(C G:Addr)(d:Nat):Sp:=fun vs H Q _=>∃(l:Addr) (ps:List Addr) (ts:List Tr) (t:Int),vs=[.ref l, .int t]∧H l=some (.lst (ps.map V.ref))∧Paired (dj C G d H) ps ts∧(∀x∈ts,kD d x)∧1≤t∧t≤999∧(ts.flatMap (bc d t)).length≤400∧
 ∀e H',H e=none→H' e=some (.dK (bQ 1 [] (ts.flatMap (bc d t))))→aD H H'→Q (.ref e) H'
theorem xk(d:Nat)(t:Int)(x:Tr):(bc d t x).length=(bc d 1 x).length:=by
 have e:=m4 t d 1 x
 rw[Int.one_mul] at e
 rw[e,List.length_map]
theorem qj{d:Nat}{t:Int}{ts:List Tr}{x:Tr}(h:x∈ts):(bc d 1 x).length≤(ts.flatMap (bc d t)).length:=by
 rw[←xk d t x]
 obtain⟨as,bs,rfl⟩:=List.append_of_mem h
 rw[List.flatMap_append,List.flatMap_cons,List.length_append,List.length_append]
 omega
theorem BP(k:Str)(n:Int):bQ 1 [] [(k,n*1)]=[(Sum.inr k, .int n)]:=by
 show putK [] (Sum.inr k) (.int (eS [] (Sum.inr k)+n*1*1))=_
 rw[show eS [] (Sum.inr k:Key)=0 from rfl,Int.zero_add,Int.mul_one,Int.mul_one]
 rfl
theorem nE{d:Nat}{t:Int}(ts:List Tr)(i:Nat):((ts.take i).flatMap (bc d t)).length≤(ts.flatMap (bc d t)).length:=by
 conv=>rhs;rw[←List.take_append_drop i ts,List.flatMap_append,List.length_append]
 omega
theorem qk(l:List (Str×Int)):((bQ 1 [] l).map (·.1)).Nodup:=yI 1 l [] List.nodup_nil
theorem dH(l:List (Str×Int)):dh (bQ 1 [] l):=u6 1 l [] EX
theorem h9(l:List (Str×Int)):(bQ 1 [] l).length≤l.length:=by
 have:=u7 1 l []
 rw[List.length_nil] at this
 omega
theorem kI(d:Nat)(D:Def K mg "parts_counts" "parts_counts" fU ["parts","times"])(T:kM K mg C R G uK uN uB uE uM)(c1:bW P w K mg base 1 C "counts" ["self"] (mw C))(c2:bW P w K mg base (2*d+1) G "counts" ["self"] (i5 C G d)):a4 P w K mg base (2*d+2) "parts_counts" ["parts","times"] (gE C G d):=by
 obtain⟨_,_,fJ⟩:=c1
 obtain⟨_,_,fh⟩:=c2
 refine D.eB cz (fun vs H Q E h=>?_) (fun f ba A outer s H vs Q E hr h=>?_)
 ·obtain⟨l,ps,ts,t,rfl,_⟩:=h
  rfl
 ·obtain⟨l,ps,ts,t,rfl,hl,hP,bg,t1,t2,hz,q⟩:=h
  have hu:=nX hr
  have lp:ps.length=ts.length:=Paired.length hP
  refine⟨_,(ai
     (aL (i:=2) cz.nd rfl (Or.inl rfl) l6)
    (ai
     (eA PassesOwn.never rfl (eK (pv 0)) (aX (i:=3) cz.nd rfl (Or.inl rfl))
      (ai
       (aL (i:=4) cz.nd rfl (Or.inl rfl) (ym (bq (pv 3) T.eC fJ.m fJ.ok (hr.mono (by omega)) fJ.b .nil aM) (bq (pv 3) T.cZ fh.m fh.ok (hr.mono (by omega)) fh.b .nil aM)))
      (aq
       (uG (eA PassesOwn.never rfl (pk (pv 4)) (aX (i:=5) cz.nd rfl (Or.inl rfl))
        (aq
         (ux hu (pv 2) (pv 5) (aw cf (l8 hu (pv 2) (pv 5) aj ⟨rfl,rfl,rfl,rfl⟩) (aw jV (jc hu (pv 4) (pv 5) (fun _ _=>rfl)) (pv 1))) rfl)))))))
    (aq
     (ay (pv 2))))),?_⟩
  intro e0 Ax
  refine⟨_,rfl,l,rfl,⟨_,bF.of (aD.new Ax _ _ hl)⟩,i' (K:=K) (a:=l) (xs:=ps.map V.ref) (fun i σ H'=>∃v u z:Option V,σ=[some (.ref l),some (.int t),some (.ref e0),v,u,z]∧aD H H'∧H' e0=some (.dK (bQ 1 [] ((ts.take i).flatMap (bc d t))))) ?_ (fun i σ H' _ ⟨_,_,_,_,e,_⟩=>bF.of (e _ _ hl)) ?_ ?_⟩
  ·exact⟨none,none,none,rfl,aD.new Ax,ag⟩
  ·rintro i v σ H' hi ⟨v',u,z,rfl,e,lO⟩
   rw[List.getElem?_map] at hi
   obtain⟨p,hp,rfl⟩:∃p,ps[i]? =some p∧v=V.ref p:=by
    cases hh:ps[i]? with
    |none=>rw[hh] at hi;cases hi
    |some p=>rw[hh] at hi;exact⟨p,rfl,(Option.some.inj hi).symm⟩
   obtain⟨x,hx,hT⟩:=cM hP hp
   have hT:=hT.same e
   have HS:=bg x (List.mem_of_getElem? hx)
   have lx:=Nat.le_trans (qj (d:=d) (t:=t) (List.mem_of_getElem? hx)) hz
   have li:=Nat.le_trans (nE (d:=d) (t:=t) ts i) hz
   have zD:bQ 1 [] ((ts.take (i+1)).flatMap (bc d t))=iK t (bQ 1 [] ((ts.take i).flatMap (bc d t))) (bQ 1 [] (bc d 1 x)) (bQ 1 [] (bc d 1 x)):=by
    rw[zy t (dH _) (qk _),take_snoc hx,List.flatMap_append,List.flatMap_cons,List.flatMap_nil,List.append_nil,vD]
   have hlen:(bQ 1 [] ((ts.take i).flatMap (bc d t))).length+(bQ 1 [] (bc d 1 x)).length≤1000:=by
    have:=h9 ((ts.take i).flatMap (bc d t))
    have:=h9 (bc d 1 x)
    omega
   cases x with
   |one k n=>
    have xI:lD k∧1≤n∧n≤999:=by cases d<;>exact HS
    have hA:dX C H' p ⟨k.toArray⟩ n:=by cases d<;>exact hT
    have ef:bc d 1 (.one k n)=[(⟨k.toArray⟩,n*1)]:=by cases d<;>rfl
    rw[ef,BP] at zD hlen
    obtain⟨dx,CB⟩:=id hA
    refine Or.inl ⟨_,rfl,p,dx,_,rfl,CB,u5 _ _ (by decide+kernel) (by decide+kernel),p,_,n,rfl,hA,fun b hb=>?_⟩
    have nb:e0≠b:=af lO hb
    refine m5 hu (by rw[ah nb];exact lO) ag nb (dH _) (fun q hq=>⟨n,by rw[List.mem_singleton.mp hq]⟩) hlen t1 t2 fun z'=>⟨_,_,_,rfl,fun b' o w'=>?_,?_⟩
    ·rw[ah (af w' Ax),ah (af (e _ _ w') hb)]
     exact e _ _ w'
    ·rw[ag,zD]
   |gr us n=>
    cases d with
    |zero=>exact HS.elim
    |succ d=>
     obtain⟨dx,l',Gg,h1,h2,h3⟩:=id hT
     refine Or.inr ⟨_,rfl,p,dx,_,rfl,h1,ju _ _ (by decide+kernel) (by decide+kernel),p,us,n,rfl,hT,HS,lx,fun b dP nb hb e'=>?_⟩
     refine m5 hu (e' _ _ lO) hb (af lO nb) (dH _) (dH _) hlen t1 t2 fun z'=>⟨_,_,_,rfl,fun b' o w'=>?_,?_⟩
     ·rw[ah (af w' Ax)]
      exact e' _ _ (e _ _ w')
     ·rw[ag,zD]
  ·rintro σ H' ⟨v,u,z,rfl,e,lO⟩
   rw[List.length_map,lp,List.take_length] at lO
   exact⟨_,rfl,q e0 H' Ax lO e⟩
theorem oK:az ["self"] ["self"] (ao fW):=dM
theorem sd(D:bG K G "counts" "Group.counts" fW ["self"]):bW P w K mg base 1 G "counts" ["self"] (i5 C G 0):=
 D.eB (k:=0) oK (fun vs H Q E h=>h.elim) (fun f ba A outer s H vs Q E hr h=>h.elim)
theorem se(d:Nat)(D:bG K G "counts" "Group.counts" fW ["self"])(T:kM K mg C R G uK uN uB uE uM)(c1:a4 P w K mg base (2*d+2) "parts_counts" ["parts","times"] (gE C G d)):bW P w K mg base (2*d+3) G "counts" ["self"] (i5 C G (d+1)):=by
 obtain⟨_,_,aV⟩:=c1
 refine D.eB oK (fun vs H Q E h=>?_) (fun f ba A outer s H vs Q E hr h=>?_)
 ·obtain⟨g,ts,n,rfl,_⟩:=h
  rfl
 ·obtain⟨g,ts,n,rfl,⟨dx,l,ps,h1,h2,h3⟩,⟨ne,bg,n1,n2⟩,hz,q⟩:=h
  have e:bc (d+1) 1 (.gr ts n)=ts.flatMap (bc d n):=by
   show ts.flatMap (bc d (n*1))=_
   rw[Int.mul_one]
  rw[e] at hz q
  refine⟨_,(aq
     (ay (aJ aV.ok (hr.mono (by omega)) rfl aV.g aV.kp aV.b .nil aM (aa (bh (pv 0) rfl) (aa (bh (pv 0) rfl) ak))))),?_⟩
  exact⟨_,rfl,g,G,dx,_,_,rfl,h1,T.cZ,T.j8,fu _ _,_,rfl,g,G,dx,_,_,rfl,h1,T.cZ,T.j9,fw _ _,l,ps,ts,n,rfl,h2,h3,bg,n1,n2,hz,q⟩
theorem m6(D1:Def K mg "parts_counts" "parts_counts" fU ["parts","times"])(D2:bG K G "counts" "Group.counts" fW ["self"])(T:kM K mg C R G uK uN uB uE uM)(c1:bW P w K mg base 1 C "counts" ["self"] (mw C)):∀d:Nat,a4 P w K mg base (2*d+2) "parts_counts" ["parts","times"] (gE C G d)
 |0=>kI 0 D1 T c1 (sd D2)
 |d+1=>kI (d+1) D1 T c1 (se d D2 T (m6 D1 D2 T c1 d))
def ia(C G Pc:Addr)(d:Nat):Sp:=fun vs H Q _=>∃(q:Addr) (x:d8),vs=[.ref q]∧gv C G Pc d H q x∧sJ d x∧(cU d x).length≤400∧∀e H',H e=none→H' e=some (.dK (bQ 1 [] (cU d x)))→aD H H'→Q (.ref e) H'
theorem nF:az ["self"] ["self"] (ao eL):=dM
theorem kQ(d:Nat)(D:bG K Pc "counts" "Piece.counts" eL ["self"])(T:hU K mg C R G Pc Fo uK uN uB uE uM uC uP uI uD uL uT)(c1:a4 P w K mg base (2*d+2) "parts_counts" ["parts","times"] (gE C G d)):bW P w K mg base (2*d+3) Pc "counts" ["self"] (ia C G Pc d):=by
 obtain⟨_,_,aV⟩:=c1
 refine D.eB nF (fun vs H Q E h=>?_) (fun f ba A outer s H vs Q E hr h=>?_)
 ·obtain⟨q,x,rfl,_⟩:=h
  rfl
 ·obtain⟨g,x,rfl,⟨dx,l,ps,h1,h2,h3⟩,⟨ne,bg,n1,n2⟩,hz,q⟩:=h
  refine⟨_,(aq
     (ay (aJ aV.ok (hr.mono (by omega)) rfl aV.g aV.kp aV.b .nil aM (aa (bh (pv 0) rfl) (aa (bh (pv 0) rfl) ak))))),?_⟩
  exact⟨_,rfl,g,Pc,dx,_,_,rfl,h1,T.cp,T.j',fu _ _,_,rfl,g,Pc,dx,_,_,rfl,h1,T.cp,T.ki,fw _ _,l,ps,x.2,x.1,rfl,h2,h3,bg,n1,n2,hz,q⟩
def m7(C G Pc:Addr)(d:Nat):Sp:=fun vs H Q _=>∃(l:Addr) (ps:List Addr) (xs:List d8),vs=[.ref l, .int 1]∧H l=some (.lst (ps.map V.ref))∧Paired (gv C G Pc d H) ps xs∧(∀x∈xs,sJ d x)∧(xs.flatMap (cU d)).length≤400∧
 ∀e H',H e=none→H' e=some (.dK (cW d xs))→aD H H'→Q (.ref e) H'
theorem sh(d:Nat)(D:Def K mg "parts_counts" "parts_counts" fU ["parts","times"])(T:hU K mg C R G Pc Fo uK uN uB uE uM uC uP uI uD uL uT)(c1:bW P w K mg base (2*d+3) Pc "counts" ["self"] (ia C G Pc d)):a4 P w K mg base (2*d+4) "parts_counts" ["parts","times"] (m7 C G Pc d):=by
 obtain⟨_,_,fj⟩:=c1
 refine D.eB cz (fun vs H Q E h=>?_) (fun f ba A outer s H vs Q E hr h=>?_)
 ·obtain⟨l,ps,xs,rfl,_⟩:=h
  rfl
 ·obtain⟨l,ps,xs,rfl,hl,hP,bg,hz,q⟩:=h
  have hu:=nX hr
  have lp:ps.length=xs.length:=Paired.length hP
  refine⟨_,(ai
     (aL (i:=2) cz.nd rfl (Or.inl rfl) l6)
    (ai
     (eA PassesOwn.never rfl (eK (pv 0)) (aX (i:=3) cz.nd rfl (Or.inl rfl))
      (ai
       (aL (i:=4) cz.nd rfl (Or.inl rfl) (bq (pv 3) T.cp fj.m fj.ok (hr.mono (by omega)) fj.b .nil aM))
      (aq
       (uG (eA PassesOwn.never rfl (pk (pv 4)) (aX (i:=5) cz.nd rfl (Or.inl rfl))
        (aq
         (ux hu (pv 2) (pv 5) (aw cf (l8 hu (pv 2) (pv 5) aj ⟨rfl,rfl,rfl,rfl⟩) (aw jV (jc hu (pv 4) (pv 5) (fun _ _=>rfl)) (pv 1))) rfl)))))))
    (aq
     (ay (pv 2))))),?_⟩
  intro e0 Ax
  refine⟨_,rfl,l,rfl,⟨_,bF.of (aD.new Ax _ _ hl)⟩,i' (K:=K) (a:=l) (xs:=ps.map V.ref) (fun i σ H'=>∃v u z:Option V,σ=[some (.ref l),some (.int 1),some (.ref e0),v,u,z]∧aD H H'∧H' e0=some (.dK (cW d (xs.take i)))) ?_ (fun i σ H' _ ⟨_,_,_,_,e,_⟩=>bF.of (e _ _ hl)) ?_ ?_⟩
  ·exact⟨none,none,none,rfl,aD.new Ax,ag⟩
  ·rintro i v σ H' hi ⟨v',u,z,rfl,e,lO⟩
   rw[List.getElem?_map] at hi
   obtain⟨p,hp,rfl⟩:∃p,ps[i]? =some p∧v=V.ref p:=by
    cases hh:ps[i]? with
    |none=>rw[hh] at hi;cases hi
    |some p=>rw[hh] at hi;exact⟨p,rfl,(Option.some.inj hi).symm⟩
   obtain⟨x,hx,hT⟩:=cM hP hp
   have hT:=hT.same e
   have HS:=bg x (List.mem_of_getElem? hx)
   have lx:(cU d x).length≤400:=by
    refine Nat.le_trans ?_ hz
    obtain⟨as,bs,rfl⟩:=List.append_of_mem (List.mem_of_getElem? hx)
    rw[List.flatMap_append,List.flatMap_cons,List.length_append,List.length_append]
    omega
   have li:((xs.take i).flatMap (cU d)).length≤400:=by
    refine Nat.le_trans ?_ hz
    conv=>rhs;rw[←List.take_append_drop i xs,List.flatMap_append,List.length_append]
    omega
   have zD:cW d (xs.take (i+1))=iK 1 (cW d (xs.take i)) (bQ 1 [] (cU d x)) (bQ 1 [] (cU d x)):=by
    unfold cW
    rw[vj 1 1 (cU d x) (dH _) (qk _),take_snoc hx,List.flatMap_append,List.flatMap_cons,List.flatMap_nil,List.append_nil,vD]
    rfl
   obtain⟨dx,l',Gg,h1,h2,h3⟩:=id hT
   refine⟨_,rfl,p,dx,_,rfl,h1,ju _ _ (by decide+kernel) (by decide+kernel),p,x,rfl,hT,HS,lx,fun b dP nb hb e'=>?_⟩
   refine m5 hu (e' _ _ lO) hb (af lO nb) (dH _) (dH _) ?_ (by decide) (by decide) fun z'=>⟨_,_,_,rfl,fun b' o w'=>?_,?_⟩
   ·have z1:(cW d (xs.take i)).length≤((xs.take i).flatMap (cU d)).length:=h9 ((xs.take i).flatMap (cU d))
    have z2:=h9 (cU d x)
    omega
   ·rw[ah (af w' Ax)]
    exact e' _ _ (e _ _ w')
   ·rw[ag,zD]
  ·rintro σ H' ⟨v,u,z,rfl,e,lO⟩
   rw[List.length_map,lp,List.take_length] at lO
   exact⟨_,rfl,q e0 H' Ax lO e⟩
def m8(C G Pc Fo:Addr)(d:Nat):Sp:=fun vs H Q _=>∃(f:Addr) (xs:List d8) (n:Int),vs=[.ref f]∧mF C G Pc Fo d H f xs n∧yX d xs n∧(xs.flatMap (cU d)).length≤400∧∀e H',H e=none→H' e=some (.dK (cW d xs))→aD H H'→Q (.ref e) H'
theorem BQ{d:Nat}{xs:List d8}{n:Int}(h:yX d xs n):∀x∈xs,sJ d x:=by
 cases xs with
 |nil=>intro x hx;cases hx
 |cons y r=>exact h.2.1
theorem xm:az ["self"] ["self"] (ao jj):=dM
theorem si(d:Nat)(D:bG K Fo "counts" "Formula.counts" jj ["self"])(T:hU K mg C R G Pc Fo uK uN uB uE uM uC uP uI uD uL uT)(c1:a4 P w K mg base (2*d+4) "parts_counts" ["parts","times"] (m7 C G Pc d)):bW P w K mg base (2*d+5) Fo "counts" ["self"] (m8 C G Pc Fo d):=by
 obtain⟨_,_,aV⟩:=c1
 refine D.eB xm (fun vs H Q E h=>?_) (fun f ba A outer s H vs Q E hr h=>?_)
 ·obtain⟨f,xs,n,rfl,_⟩:=h
  rfl
 ·obtain⟨g,xs,n,rfl,⟨dx,l,ps,h1,h2,h3⟩,bg,hz,q⟩:=h
  refine⟨_,(aq
     (ay (aJ aV.ok (hr.mono (by omega)) rfl aV.g aV.kp aV.b .nil aM (aa (bh (pv 0) rfl) (aa aj ak))))),?_⟩
  exact⟨_,rfl,g,Fo,dx,_,_,rfl,h1,T.bx,T.gw,gu _ _,l,ps,xs,rfl,h2,h3,BQ bg,hz,q⟩
variable {uC uP uI uD uL uT:Tok}
def LT:Nat→List Addr→Hp→Addr→Tr→Prop
 |_,W,H,a, .one k n=>H a=some (.tup [.str "atom", .str ⟨k.toArray⟩, .int n])∧a∉W
 |0,_,_,_, .gr _ _=>False
 |d+1,W,H,a, .gr ts n=>∃l ps,H a=some (.tup [.str "group", .ref l, .int n])∧a∉W∧l∉W∧H l=some (.lst (ps.map V.ref))∧Paired (LT d W H) ps ts
theorem LT.keep:∀{d:Nat} {W W':List Addr} {H H':Hp} {a:Addr} {t:Tr},LT d W H a t→(∀b o,H b=some o→b∉W→H' b=some o∧b∉W')→LT d W' H' a t
 |0,W,W',H,H',a, .one k n,h,e=>e _ _ h.1 h.2
 |d+1,W,W',H,H',a, .one k n,h,e=>e _ _ h.1 h.2
 |0,_,_,_,_,_, .gr _ _,h,_=>h.elim
 |d+1,W,W',H,H',a, .gr ts n,⟨l,ps,h1,h2,h3,h4,h5⟩,e=>⟨l,ps,(e _ _ h1 h2).1,(e _ _ h1 h2).2,(e _ _ h4 h3).2,(e _ _ h4 h3).1,aR (fun _ _ z=>LT.keep z e) h5⟩
theorem LT.same{d:Nat}{W:List Addr}{H H':Hp}{a:Addr}{t:Tr}(h:LT d W H a t)(e:aD H H'):LT d W H' a t:=h.keep fun b o z w=>⟨e _ _ z,w⟩
theorem LT.nil{d:Nat}{W:List Addr}{H:Hp}{a:Addr}{t:Tr}(h:LT d W H a t):LT d [] H a t:=h.keep fun b o z _=>⟨z,by simp⟩
def LP(d:Nat)(H:Hp)(a:Addr)(x:d8):Prop:=∃l ps,H a=some (.tup [.str "piece", .ref l, .int x.1])∧H l=some (.lst (ps.map V.ref))∧Paired (LT d [] H) ps x.2
theorem LP.same{d:Nat}{H H':Hp}{a:Addr}{x:d8}(h:LP d H a x)(e:aD H H'):LP d H' a x:=let ⟨l,ps,h1,h2,h3⟩:=h;⟨l,ps,e _ _ h1,e _ _ h2,aR (fun _ _ z=>z.same e) h3⟩
def zE:Sp:=fun vs H Q _=>∃n m:Int,vs=[.int n, .int m]∧∀(a:Addr) (k:List Nat) (c:Int) H',lD k→1≤c→c≤999→H a=none→H' a=some (.tup [.str "atom", .str ⟨k.toArray⟩, .int c])→aD H H'→Q (.ref a) H'
theorem EY:az ["_law_number","_law_other"] ["_law_number","_law_other"] (ao u3):=dM
theorem BR(D:Def K mg "_law_part" "_law_part" u3 ["_law_number","_law_other"])(c1:a4 P w K mg base 1 "_law_kind" ["_law_number"] vA)(c2:a4 P w K mg base 1 "_law_count" ["_law_number"] qi):a4 P w K mg base 2 "_law_part" ["_law_number","_law_other"] zE:=by
 obtain⟨_,_,jF⟩:=c1
 obtain⟨_,_,cO⟩:=c2
 refine D.eB EY (fun vs H Q E h=>?_) (fun f ba A outer s H vs Q E hr h=>?_)
 ·obtain⟨n,m,rfl,_⟩:=h
  rfl
 ·obtain⟨n,m,rfl,q⟩:=h
  refine⟨_,(aq
     (ay (bO (aa ax (aa (aJ jF.ok (hr.mono (by decide)) rfl jF.g jF.kp jF.b .nil aM (aa (pv 0) ak)) (aa (aJ cO.ok (hr.mono (by decide)) rfl cO.g cO.kp cO.b .nil aM (aa (pv 1) ak)) ak)))))),?_⟩
  exact⟨_,rfl,n,rfl,fun k H1 hk e1=>⟨_,rfl,m,rfl,fun c H2 c1 c2 e2=>⟨(by show 3≤sizeLine;decide),fun t ht=>q t k c _ hk c1 c2 ((e1.trans e2).free ht) ag ((e1.trans e2).trans (aD.new ht))⟩⟩⟩
theorem EZ{c A B:Prop}[Decidable c](h:¬c)(hb:B):if (decide c)=true then A else B:=by
 rw[decide_eq_false h]
 exact cQ hb
theorem HU:¬V.str ("group" :Str)=V.str ("atom" :Str):=by decide+kernel
theorem HV:¬V.str ("piece" :Str)=V.str ("atom" :Str):=by decide+kernel
theorem HW:¬V.str ("piece" :Str)=V.str ("group" :Str):=by decide+kernel
def ib:Nat→Sp
 |0=>fun _ _ _ _=>False
 |d+1=>fun vs H Q _=>∃(a:Addr) (t:Tr),vs=[.ref a]∧LT d [] H a t∧kD d t∧(cJ d t).length≤1000∧∀H',aD H H'→Q (.str ⟨(cJ d t).toArray⟩) H'
theorem ic:az ["_law_part_here","_law_inner"] ["_law_part_here"] (ao eN):=dM
theorem t5(D:Def K mg "_law_shown" "_law_shown" eN ["_law_part_here"]):a4 P w K mg base 1 "_law_shown" ["_law_part_here"] (ib 0):=
 D.eB (k:=0) ic (fun vs H Q E h=>h.elim) (fun f ba A outer s H vs Q E hr h=>h.elim)
theorem t6(d:Nat)(D:Def K mg "_law_shown" "_law_shown" eN ["_law_part_here"])(T:fF K mg C)(c1:a4 P w K mg base (d+1) "_law_shown" ["_law_part_here"] (ib d))(c2:a4 P w K mg base 1 "_law_figures" ["_law_count_here"] e8):a4 P w K mg base (d+2) "_law_shown" ["_law_part_here"] (ib (d+1)):=by
 obtain⟨_,_,bL⟩:=c1
 obtain⟨_,_,aG⟩:=c2
 refine D.eB ic (fun vs H Q E h=>?_) (fun f ba A outer s H vs Q E hr h=>?_)
 ·obtain⟨a,t,rfl,_⟩:=h
  rfl
 ·obtain⟨a,t,rfl,hT,bg,hz,q⟩:=h
  have big:(3000 :Nat) <sizeLine:=by decide
  refine⟨_,(ai
     (aY (au aW (bw ck (pv 0) aj (fun _ _=>rfl)) ax (aA _))
      (aq
       (ay (aw aF (bw ck (pv 0) aj (fun _ _=>rfl)) (aJ aG.ok (hr.mono (by omega)) rfl aG.g aG.kp aG.b .nil aM (aa (bw ck (pv 0) aj (fun _ _=>rfl)) ak)))))
      aK)
    (ai
     (aL (i:=1) ic.nd rfl (Or.inl rfl) (eG PySem.F.plainAttrs_str PySem.F.slot_str_join PySem.F.type_str_join jf ax (aa (gj (sc:=(ao eN)) (NX:=["_law_part_here","_law_inner"]) (N:=["_law_one"]) (fr:=[none]) ⟨by rfl,by rfl,by decide+kernel,by decide+kernel,by decide+kernel,by rfl,by decide+kernel⟩ rfl rfl rfl (eK (bw ck (pv 0) aj (fun _ _=>rfl))) (fun _ _ _ _=>(aX (i:=0) (show (["_law_one"]:List Str).Nodup by decide+kernel) rfl (Or.inl rfl) (Or.inr rfl))) (fun _ _ _ _=>ik) (fun _ _ _ _=>(aJ bL.ok (hr.mono (by omega)) rfl bL.g bL.kp bL.b .nil aM (aa (pv 0) ak)))) ak)))
    (ai
     (aY (au aW (bw ck (pv 0) aj (fun _ _=>rfl)) ax (aA _))
      (aq
       (ay (aw aF (aw aF (aw aF ax (pv 1)) ax) (aJ aG.ok (hr.mono (by omega)) rfl aG.g aG.kp aG.b .nil aM (aa (bw ck (pv 0) aj (fun _ _=>rfl)) ak)))))
      aK)
    (aq
     (ay (aw aF (aJ aG.ok (hr.mono (by omega)) rfl aG.g aG.kp aG.b .nil aM (aa (bw ck (pv 0) aj (fun _ _=>rfl)) ak)) (pv 1))))))),?_⟩
  cases t with
  |one k n=>
   have xI:lD k∧1≤n∧n≤999:=by cases d<;>exact bg
   have hA:H a=some (.tup [.str "atom", .str ⟨k.toArray⟩, .int n]):=by cases d<;>exact hT.1
   have et:(⟨(cJ d (.one k n)).toArray⟩:Str)=⟨k.toArray⟩++di n:=by
    rw[b6,aU]
    cases d<;>rfl
   have lk:=qe xI.1
   have lf:=fX xI.2.1 xI.2.2
   rw[et] at q
   refine⟨_,rfl,a,_,_,V.str "atom",rfl,rfl,iI.of hA,rfl,rfl,_,rfl,cA ?_⟩
   exact⟨_,rfl,a,_,_,V.str ⟨k.toArray⟩,rfl,rfl,iI.of hA,rfl,_,rfl,a,_,_,V.int n,rfl,rfl,iI.of hA,rfl,n,rfl,xI.2.1,xI.2.2,_,_,rfl,rfl,by omega,q H (aD.refl _)⟩
  |gr ts n=>
   cases d with
   |zero=>exact bg.elim
   |succ d=>
    obtain⟨l,ps,hA,_,_,hl,hP⟩:=hT
    obtain⟨mz,zF,n1,n2⟩:=bg
    have hz:(40::(ts.flatMap (cJ d)++41::bA n)).length≤1000:=hz
    rw[List.length_cons,List.length_append,List.length_cons] at hz
    have Si:=jB zF
    have lp:ps.length=ts.length:=Paired.length hP
    refine⟨_,rfl,a,_,_,V.str "group",rfl,rfl,iI.of hA,rfl,rfl,_,rfl,EZ HU ?_⟩
    refine⟨rfl,_,rfl,a,_,_,V.ref l,rfl,rfl,iI.of hA,rfl,l,rfl,⟨_,bF.of hl⟩,fun D1 HX=>fQ (K:=K) (a:=l) (D:=D1) (xs:=ps.map V.ref) (fun i σ H'=>∃v:Option V,σ=[v]∧aD H H'∧H' D1=some (.lst ((ts.take i).map fun t=>V.str ⟨(cJ d t).toArray⟩)))
     ?_ (fun i σ H' _ ⟨_,_,e,_⟩=>bF.of (e _ _ hl)) ?_ ?_⟩
    ·exact⟨none,rfl,aD.new HX,ag⟩
    ·rintro i v σ H' hi ⟨v',rfl,e,lH⟩ N hN
     rw[List.getElem?_map] at hi
     obtain⟨p,hp,rfl⟩:∃p,ps[i]? =some p∧v=V.ref p:=by
      cases hh:ps[i]? with
      |none=>rw[hh] at hi;cases hi
      |some p=>rw[hh] at hi;exact⟨p,rfl,(Option.some.inj hi).symm⟩
     obtain⟨t,ht,hT⟩:=cM hP hp
     have tU:=zF t (List.mem_of_getElem? ht)
     have lt:=gC (d:=d) (List.mem_of_getElem? ht)
     refine⟨_,rfl,p,t,rfl,hT.same e,tU,by omega,fun dP e'=>⟨_,e' _ _ lH,?_,hN _ _ ⟨_,rfl,fun b o z=>?_,?_⟩⟩⟩
     ·rw[List.length_map]
      have:(ts.take i).length≤ts.length:=List.length_take_le' _ _
      omega
     ·rw[ah (af z HX)]
      exact e' _ _ (e _ _ z)
     ·rw[ag,List.take_add_one,ht,List.map_append]
      rfl
    ·rintro σ H' ⟨v,rfl,e,lH⟩
     rw[List.length_map,lp,List.take_length] at lH
     have es:((ts.map fun t=>(⟨(cJ d t).toArray⟩:Str)).map (·.length)).sum=(ts.flatMap (cJ d)).length:=by
      rw[List.map_map,List.length_flatMap]
      congr 1
     have e0:("" :Str).length=0:=by decide+kernel
     refine⟨_,D1,ts.map (fun t=>⟨(cJ d t).toArray⟩),rfl,rfl,bF.of (by rw[lH,List.map_map];rfl),by rw[es,e0];omega,?_⟩
     rw[join_eq,lG]
     have l1:("(" :Str).length=1:=by decide+kernel
     have l2:(")" :Str).length=1:=by decide+kernel
     have lf:(di n).length=(bA n).length:=by rw[b6,aB]
     have ee:(⟨(cJ (d+1) (.gr ts n)).toArray⟩:Str)="(" ++⟨(ts.flatMap (cJ d)).toArray⟩++")" ++di n:=by
      rw[b6,Bt,Ga]
      rw[show (⟨#[40]⟩:Str)=⟨[40].toArray⟩ from rfl,show (⟨#[41]⟩:Str)=⟨[41].toArray⟩ from rfl,aU,aU,aU]
      simp [cJ]
     rw[ee] at q
     have HY:=e _ _ hA
     refine⟨_,rfl,a,_,_,V.str "group",rfl,rfl,iI.of HY,rfl,rfl,_,rfl,cA ?_⟩
     refine⟨_,rfl,_,_,rfl,rfl,?_,_,_,rfl,rfl,?_,_,rfl,a,_,_,V.int n,rfl,rfl,iI.of HY,rfl,n,rfl,n1,n2,_,_,rfl,rfl,?_,q _ e⟩
     ·rw[l1,aB]
      omega
     ·rw[bb,l1,l2,aB]
      omega
     ·rw[bb,bb,l1,l2,aB,lf]
      omega
theorem oM(D:Def K mg "_law_shown" "_law_shown" eN ["_law_part_here"])(T:fF K mg C)(c2:a4 P w K mg base 1 "_law_figures" ["_law_count_here"] e8):∀d,a4 P w K mg base (d+1) "_law_shown" ["_law_part_here"] (ib d)
 |0=>t5 D
 |d+1=>t6 d D T (oM D T c2 d) c2
variable {uC uP uI uD uL uT:Tok}
def sj(d:Nat):Sp:=fun vs H Q _=>∃(a:Addr) (x:d8),vs=[.ref a]∧LP d H a x∧sJ d x∧(dY d x).length≤1000∧∀H',aD H H'→Q (.str ⟨(dY d x).toArray⟩) H'
theorem xn(d:Nat)(D:Def K mg "_law_shown" "_law_shown" eN ["_law_part_here"])(T:fF K mg C)(c1:a4 P w K mg base (d+2) "_law_shown" ["_law_part_here"] (ib (d+1)))(c2:a4 P w K mg base 1 "_law_figures" ["_law_count_here"] e8):a4 P w K mg base (d+3) "_law_shown" ["_law_part_here"] (sj d):=by
 obtain⟨_,_,bL⟩:=c1
 obtain⟨_,_,aG⟩:=c2
 refine D.eB ic (fun vs H Q E h=>?_) (fun f ba A outer s H vs Q E hr h=>?_)
 ·obtain⟨a,x,rfl,_⟩:=h
  rfl
 ·obtain⟨a,x,rfl,⟨l,ps,hA,hl,hP⟩,⟨mz,zF,n1,n2⟩,hz,q⟩:=h
  have big:(3000 :Nat) <sizeLine:=by decide
  have Si:=jB zF
  have lp:ps.length=x.2.length:=Paired.length hP
  unfold dY at hz
  rw[List.length_append] at hz
  refine⟨_,(ai
     (aY (au aW (bw ck (pv 0) aj (fun _ _=>rfl)) ax (aA _))
      (aq
       (ay (aw aF (bw ck (pv 0) aj (fun _ _=>rfl)) (aJ aG.ok (hr.mono (by omega)) rfl aG.g aG.kp aG.b .nil aM (aa (bw ck (pv 0) aj (fun _ _=>rfl)) ak)))))
      aK)
    (ai
     (aL (i:=1) ic.nd rfl (Or.inl rfl) (eG PySem.F.plainAttrs_str PySem.F.slot_str_join PySem.F.type_str_join jf ax (aa (gj (sc:=(ao eN)) (NX:=["_law_part_here","_law_inner"]) (N:=["_law_one"]) (fr:=[none]) ⟨by rfl,by rfl,by decide+kernel,by decide+kernel,by decide+kernel,by rfl,by decide+kernel⟩ rfl rfl rfl (eK (bw ck (pv 0) aj (fun _ _=>rfl))) (fun _ _ _ _=>(aX (i:=0) (show (["_law_one"]:List Str).Nodup by decide+kernel) rfl (Or.inl rfl) (Or.inr rfl))) (fun _ _ _ _=>ik) (fun _ _ _ _=>(aJ bL.ok (hr.mono (by omega)) rfl bL.g bL.kp bL.b .nil aM (aa (pv 0) ak)))) ak)))
    (ai
     (aY (au aW (bw ck (pv 0) aj (fun _ _=>rfl)) ax (aA _))
      (aq
       (ay (aw aF (aw aF (aw aF ax (pv 1)) ax) (aJ aG.ok (hr.mono (by omega)) rfl aG.g aG.kp aG.b .nil aM (aa (bw ck (pv 0) aj (fun _ _=>rfl)) ak)))))
      aK)
    (aq
     (ay (aw aF (aJ aG.ok (hr.mono (by omega)) rfl aG.g aG.kp aG.b .nil aM (aa (bw ck (pv 0) aj (fun _ _=>rfl)) ak)) (pv 1))))))),?_⟩
  refine⟨_,rfl,a,_,_,V.str "piece",rfl,rfl,iI.of hA,rfl,rfl,_,rfl,EZ HV ?_⟩
  refine⟨rfl,_,rfl,a,_,_,V.ref l,rfl,rfl,iI.of hA,rfl,l,rfl,⟨_,bF.of hl⟩,fun D1 HX=>fQ (K:=K) (a:=l) (D:=D1) (xs:=ps.map V.ref) (fun i σ H'=>∃v:Option V,σ=[v]∧aD H H'∧H' D1=some (.lst ((x.2.take i).map fun t=>V.str ⟨(cJ d t).toArray⟩)))
   ?_ (fun i σ H' _ ⟨_,_,e,_⟩=>bF.of (e _ _ hl)) ?_ ?_⟩
  ·exact⟨none,rfl,aD.new HX,ag⟩
  ·rintro i v σ H' hi ⟨v',rfl,e,lH⟩ N hN
   rw[List.getElem?_map] at hi
   obtain⟨p,hp,rfl⟩:∃p,ps[i]? =some p∧v=V.ref p:=by
    cases hh:ps[i]? with
    |none=>rw[hh] at hi;cases hi
    |some p=>rw[hh] at hi;exact⟨p,rfl,(Option.some.inj hi).symm⟩
   obtain⟨t,ht,hT⟩:=cM hP hp
   have tU:=zF t (List.mem_of_getElem? ht)
   have lt:=gC (d:=d) (List.mem_of_getElem? ht)
   refine⟨_,rfl,p,t,rfl,hT.same e,tU,by omega,fun dP e'=>⟨_,e' _ _ lH,?_,hN _ _ ⟨_,rfl,fun b o z=>?_,?_⟩⟩⟩
   ·rw[List.length_map]
    have:(x.2.take i).length≤x.2.length:=List.length_take_le' _ _
    omega
   ·rw[ah (af z HX)]
    exact e' _ _ (e _ _ z)
   ·rw[ag,List.take_add_one,ht,List.map_append]
    rfl
  ·rintro σ H' ⟨v,rfl,e,lH⟩
   rw[List.length_map,lp,List.take_length] at lH
   have es:((x.2.map fun t=>(⟨(cJ d t).toArray⟩:Str)).map (·.length)).sum=(x.2.flatMap (cJ d)).length:=by
    rw[List.map_map,List.length_flatMap]
    congr 1
   have e0:("" :Str).length=0:=by decide+kernel
   refine⟨_,D1,x.2.map (fun t=>⟨(cJ d t).toArray⟩),rfl,rfl,bF.of (by rw[lH,List.map_map];rfl),by rw[es,e0];omega,?_⟩
   rw[join_eq,lG]
   have lf:(di x.1).length=(bA x.1).length:=by rw[b6,aB]
   have ee:(⟨(dY d x).toArray⟩:Str)=di x.1++⟨(x.2.flatMap (cJ d)).toArray⟩:=by
    rw[b6,aU]
    rfl
   rw[ee] at q
   have HY:=e _ _ hA
   refine⟨_,rfl,a,_,_,V.str "piece",rfl,rfl,iI.of HY,rfl,rfl,_,rfl,EZ HW ?_⟩
   exact⟨_,rfl,a,_,_,V.int x.1,rfl,rfl,iI.of HY,rfl,x.1,rfl,n1,n2,_,rfl,_,_,rfl,rfl,by rw[lf,aB];omega,q _ e⟩
def Sk(d:Nat)(H:Hp)(l:Addr)(xs:List d8):Prop:=∃ps,H l=some (.lst (ps.map V.ref))∧Paired (LP d H) ps xs
def vF(d:Nat):Sp:=fun vs H Q _=>∃(l:Addr) (xs:List d8) (n:Int),vs=[.ref l, .int n]∧Sk d H l xs∧yX d xs n∧(wL d xs n).length≤1000∧∀H',aD H H'→Q (.str ⟨(wL d xs n).toArray⟩) H'
theorem zG:az ["_law_pieces_here","_law_charge_here","_law_text_here"] ["_law_pieces_here","_law_charge_here"] (ao rq):=dM
theorem zH(d:Nat)(D:Def K mg "_law_text" "_law_text" rq ["_law_pieces_here","_law_charge_here"])(T:hU K mg C R G Pc Fo uK uN uB uE uM uC uP uI uD uL uT)(c1:a4 P w K mg base (d+3) "_law_shown" ["_law_part_here"] (sj d))(c2:a4 P w K mg base 1 "_law_figures" ["_law_count_here"] e8):a4 P w K mg base (d+4) "_law_text" ["_law_pieces_here","_law_charge_here"] (vF d):=by
 obtain⟨_,_,bL⟩:=c1
 obtain⟨_,_,aG⟩:=c2
 refine D.eB zG (fun vs H Q E h=>?_) (fun f ba A outer s H vs Q E hr h=>?_)
 ·obtain⟨l,xs,n,rfl,_⟩:=h
  rfl
 ·obtain⟨l,xs,n,rfl,⟨ps,hl,hP⟩,bg,hz,q⟩:=h
  have hu:=nX hr
  have big:(3000 :Nat) <sizeLine:=by decide
  have lp:ps.length=xs.length:=Paired.length hP
  refine⟨_,(ai
     (aY (au (pB hu) (pv 0) (b7 ak) (aA _))
      (aq
       (ay ax))
      aK)
    (ai
     (aL (i:=2) zG.nd rfl (Or.inl rfl) (eG PySem.F.plainAttrs_str PySem.F.slot_str_join PySem.F.type_str_join jf ax (aa (gj (sc:=(ao rq)) (NX:=["_law_pieces_here","_law_charge_here","_law_text_here"]) (N:=["_law_piece"]) (fr:=[none]) ⟨by rfl,by rfl,by decide+kernel,by decide+kernel,by decide+kernel,by rfl,by decide+kernel⟩ rfl rfl rfl (eK (pv 0)) (fun _ _ _ _=>(aX (i:=0) (show (["_law_piece"]:List Str).Nodup by decide+kernel) rfl (Or.inl rfl) (Or.inr rfl))) (fun _ _ _ _=>ik) (fun _ _ _ _=>(aJ bL.ok (hr.mono (by omega)) rfl bL.g bL.kp bL.b .nil aM (aa (pv 0) ak)))) ak)))
    (ai
     (aY (au aW (pv 1) aj (aA _))
      (aq
       (ay (pv 2)))
      aK)
    (aq
     (ay (aw aF (aw aF (aw aF (pv 2) ax) (aJ aG.ok (hr.mono (by omega)) rfl aG.g aG.kp aG.b .nil aM (aa (a9 qI rfl T.CN yp (aa (pv 1) ak)) ak))) (bw cC (b7 (aa ax (aa ax ak))) (dm nJ rfl T.vc pw (aa (d3 kA (pv 1) aj (aA _)) ak)) (fun _ _=>rfl)))))))),?_⟩
  refine⟨_,rfl,(by show 0≤sizeLine;decide),fun z Ux=>?_⟩
  have sz:=aD.new (o:= .lst []) Ux
  have zd:=sz _ _ hl
  refine⟨l,z,_,rfl,rfl,bF.of zd,bF.of ag,_,rfl,?_⟩
  generalize upd H z (.lst [])=H1 at sz zd ⊢
  cases xs with
  |nil=>
   have hp:ps=[]:=List.length_eq_zero_iff.mp lp
   subst hp
   refine cA ?_
   have e0:(⟨(wL d [] n).toArray⟩:Str)="e^-" :=by rw[eE];rfl
   rw[e0] at q
   exact q _ sz
  |cons x0 r0=>
   obtain⟨NJ,EN,n1,n2⟩:=bg
   have LK:(ps.map V.ref).isEmpty=false:=by
    cases ps with
    |nil=>simp at lp
    |cons _ _=>rfl
   rw[LK]
   refine cQ ?_
   have zc:=qg n1 n2
   have ez:wL d (x0::r0) n=(dY d x0++bU d r0)++mE n:=by
    show x0.2.flatMap (cJ d)++(bU d r0++mE n)=_
    unfold dY
    rw[NJ,show bA 1=[] from rfl,List.nil_append,List.append_assoc]
   rw[ez,List.length_append,List.length_append] at hz
   have Ur:=qa d r0
   have each:∀y∈x0::r0,(dY d y).length≤1000:=fun y hy=>by
    rcases List.mem_cons.mp hy with rfl|hy
    ·omega
    ·obtain⟨a,b,rfl⟩:=List.append_of_mem hy
     have:(bU d (a++y::b)).length=(bU d a).length+(46::dY d y++bU d b).length:=by
      unfold bU
      rw[List.flatMap_append,List.length_append,List.flatMap_cons]
     rw[this,List.length_append,List.length_cons] at hz
     omega
   have Uy:Paired (LP d H1) ps (x0::r0):=aR (fun _ _ z=>z.same sz) hP
   refine⟨rfl,_,rfl,l,rfl,⟨_,bF.of zd⟩,fun D1 hD=>fQ (K:=K) (a:=l) (D:=D1) (xs:=ps.map V.ref) (fun i σ H'=>∃v:Option V,σ=[v]∧aD H1 H'∧H' D1=some (.lst (((x0::r0).take i).map fun x=>V.str ⟨(dY d x).toArray⟩)))
    ?_ (fun i σ H' _ ⟨_,_,e,_⟩=>bF.of (e _ _ zd)) ?_ ?_⟩
   ·exact⟨none,rfl,aD.new hD,ag⟩
   ·rintro i v σ H' hi ⟨v',rfl,e,lH⟩ N hN
    rw[List.getElem?_map] at hi
    obtain⟨p,hp,rfl⟩:∃p,ps[i]? =some p∧v=V.ref p:=by
     cases hh:ps[i]? with
     |none=>rw[hh] at hi;cases hi
     |some p=>rw[hh] at hi;exact⟨p,rfl,(Option.some.inj hi).symm⟩
    obtain⟨y,hy,hY⟩:=cM Uy hp
    have my:=List.mem_of_getElem? hy
    refine⟨_,rfl,p,y,rfl,hY.same e,EN y my,each y my,fun dP e'=>⟨_,e' _ _ lH,?_,hN _ _ ⟨_,rfl,fun b o z=>?_,?_⟩⟩⟩
    ·rw[List.length_map]
     have:((x0::r0).take i).length≤(x0::r0).length:=List.length_take_le' _ _
     rw[List.length_cons] at this
     omega
    ·rw[ah (af z hD)]
     exact e' _ _ (e _ _ z)
    ·rw[ag,List.take_add_one,hy,List.map_append]
     rfl
   ·rintro σ H' ⟨v,rfl,e,lH⟩
    rw[List.length_map,lp,List.take_length] at lH
    have ej:Txt.join "." ((x0::r0).map fun y=>(⟨(dY d y).toArray⟩:Str))=⟨(dY d x0++bU d r0).toArray⟩:=by
     have:=PyProof.Rows.join_closes (sep:=".") (sep':=".") (ys:=(x0::r0).map fun y=>(⟨(dY d y).toArray⟩:Str)) rfl
     rw[←ky]
     simpa using this
    have es:(((x0::r0).map fun y=>(⟨(dY d y).toArray⟩:Str)).map (·.length)).sum≤(dY d x0).length+(bU d r0).length:=by
     rw[List.map_map,List.map_cons,List.sum_cons]
     have:∀r:List d8,(r.map ((·.length)∘fun y=>(⟨(dY d y).toArray⟩:Str))).sum≤(bU d r).length:=fun r=>by
      induction r with
      |nil=>exact Nat.le_refl _
      |cons y r ih=>
       show (⟨(dY d y).toArray⟩:Str).length+(r.map ((·.length)∘fun y=>(⟨(dY d y).toArray⟩:Str))).sum≤(46::dY d y++bU d r).length
       rw[aB,List.length_append,List.length_cons]
       omega
     have h2:=this r0
     show (⟨(dY d x0).toArray⟩:Str).length+_≤_
     rw[aB]
     omega
    refine⟨_,D1,(x0::r0).map (fun y=>⟨(dY d y).toArray⟩),rfl,rfl,bF.of (by rw[lH,List.map_map];rfl),?_,?_⟩
    ·have e0:("." :Str).length=1:=by decide+kernel
     rw[e0,List.length_map,List.length_cons]
     omega
    ·rw[ej]
     rw[ez] at q
     refine⟨_,rfl,rfl,_,rfl,dq (fun c=>?_) fun c=>?_⟩
     ·have c:n=0:=by simpa using c
      subst c
      rw[show mE 0=[] from rfl,List.append_nil] at q
      exact⟨_,rfl,q _ (sz.trans e)⟩
     ·have c:¬n=0:=by simpa using c
      have a1:1≤(if n<0 then -n else n):=by split<;>omega
      have a2:(if n<0 then -n else n)≤999:=by split<;>omega
      have zf:=fX a1 a2
      have l1:("^" :Str).length=1:=by decide+kernel
      rw[←aU,BO c] at q
      refine⟨_,rfl,_,_,rfl,rfl,by rw[l1,aB,List.length_append];omega,_,rfl,n,rfl,_,rfl,a1,a2,_,_,rfl,rfl,by rw[bb,l1,aB,List.length_append];omega,(by show 2≤sizeLine;decide),fun y hy=>?_⟩
      have sy:=aD.new (o:= .lst [V.str "-",V.str "+"]) hy
      refine⟨_,rfl,_,_,rfl,rfl, .inr ⟨_,rfl,y,_,_,_,rfl,rfl,bF.of ag,EW n,_,_,rfl,rfl,?_,?_⟩⟩
      ·have l2:(if 0<n then ("+" :Str) else ("-" :Str)).length=1:=by split<;>decide+kernel
       rw[bb,bb,l1,l2,aB,List.length_append]
       omega
      ·have:=q _ ((sz.trans e).trans sy)
       rw[←om,←om] at this
       exact this
variable {uC uP uI uD uL uT:Tok}
def ms(d:Nat)(t:Tr):Nat:=(cJ d t).length
def i6(d:Nat)(ts:List Tr):Nat:=(ts.map (ms d)).sum
theorem zI(d:Nat)(ts:List Tr)(t:Tr):i6 d (ts++[t])=i6 d ts+ms d t:=by
 unfold i6
 rw[List.map_append,List.sum_append]
 simp
theorem BS{n:Int}(h1:1≤n)(h2:n≤999):(bA n).length≤3:=by
 have:=fX h1 h2
 rwa [b6,aB] at this
theorem ql(d:Nat)(k:List Nat)(n:Int):ms d (.one k n)=k.length+(bA n).length:=by
 unfold ms
 rw[show cJ d (.one k n)=k++bA n by cases d<;>rfl,List.length_append]
theorem lI{d:Nat}{k:List Nat}{n:Int}(hk:lD k)(n1:1≤n)(n2:n≤999):ms d (.one k n)≤6:=by
 have h1:=qe hk
 rw[aB] at h1
 have h2:=BS n1 n2
 rw[ql]
 omega
theorem BU{k:List Nat}(h:lD k):1≤k.length:=by
 obtain⟨c,r,rfl,_⟩:=h
 rw[List.length_cons]
 omega
theorem E1{d:Nat}{t:Tr}(h:kD d t):1≤ms d t:=by
 cases t with
 |one k n=>
  have xI:lD k∧1≤n∧n≤999:=by cases d<;>exact h
  have:=BU xI.1
  rw[ql]
  omega
 |gr ts n=>
  cases d with
  |zero=>exact h.elim
  |succ d=>
   show 1≤(40::(ts.flatMap (cJ d)++41::bA n)).length
   rw[List.length_cons]
   omega
theorem m9(d:Nat)(ts:List Tr):(ts.flatMap (cJ d)).length=i6 d ts:=by
 unfold i6 ms
 rw[List.length_flatMap]
theorem HZ(d:Nat)(ts:List Tr)(n:Int):ms (d+1) (.gr ts n)=2+i6 d ts+(bA n).length:=by
 show (40::(ts.flatMap (cJ d)++41::bA n)).length=_
 rw[List.length_cons,List.length_append,List.length_cons,m9]
 omega
theorem sk{d:Nat}{k:List Nat}{n:Int}(hk:lD k)(n1:1≤n)(n2:n≤999):i6 d [.one k n]≤6:=by
 have:=lI (d:=d) hk n1 n2
 unfold i6
 rw[List.map_cons,List.map_nil,List.sum_cons,List.sum_nil]
 omega
theorem BV{n:Int}(h1:1≤n)(h2:n≤3):(bA n).length≤1:=by
 have e:n=1∨n=2∨n=3:=by omega
 rcases e with rfl|rfl|rfl<;>decide+kernel
def kJ(ks:List (List Nat))(d:Nat)(t:Tr):Prop:=∀m,∀p∈bc d m t,∃k∈ks,p.1=⟨k.toArray⟩
theorem kJ.more{ks oN:List (List Nat)}{d:Nat}{t:Tr}(h:kJ ks d t)(e:∀k∈ks,k∈oN):kJ oN d t:=fun m p hp=>let ⟨k,hk,hp⟩:=h m p hp;⟨k,e k hk,hp⟩
theorem kJ.one{ks:List (List Nat)}{d:Nat}{k:List Nat}{n:Int}(h:k∈ks):kJ ks d (.one k n):=fun m p hp=>by
 rw[show bc d m (.one k n)=[(⟨k.toArray⟩,n*m)] by cases d<;>rfl] at hp
 have e:p=(⟨k.toArray⟩,n*m):=by simpa using hp
 exact⟨k,h,by rw[e]⟩
theorem kJ.gr{ks:List (List Nat)}{d:Nat}{ts:List Tr}{n:Int}(h:∀t∈ts,kJ ks d t):kJ ks (d+1) (.gr ts n):=fun m p hp=>by
 obtain⟨t,ht,hp⟩:=List.mem_flatMap.mp (show p∈ts.flatMap (bc d (n*m)) from hp)
 exact h t ht _ p hp
structure zJ(ks:List (List Nat))(W:List Addr)(H:Hp)(d:Nat)(l:Addr)(us:List Tr):Prop where
 at_:∃ps,H l=some (.lst (ps.map V.ref))∧Paired (LT d W H) ps us
 ok:∀t∈us,kD d t
 kd:∀t∈us,kJ ks d t
theorem zJ.keep{ks oN:List (List Nat)}{W W':List Addr}{H H':Hp}{d:Nat}{l:Addr}{us:List Tr}(h:zJ ks W H d l us)(hl:∀o,H l=some o→H' l=some o)(e:∀b o,H b=some o→b∉W→H' b=some o∧b∉W')(hk:∀k∈ks,k∈oN):zJ oN W' H' d l us:=by
 obtain⟨ps,h1,h2⟩:=h.at_
 exact⟨⟨ps,hl _ h1,aR (fun _ _ z=>z.keep e) h2⟩,h.ok,fun t ht=>(h.kd t ht).more hk⟩
theorem zJ.snoc{ks:List (List Nat)}{W:List Addr}{H:Hp}{d:Nat}{l a:Addr}{us:List Tr}{t:Tr}(h:zJ ks W H d l us)(hW:l∈W)(ht:LT d W H a t)(tU:kD d t)(kt:kJ ks d t):∃ps:List Addr,H l=some (.lst (ps.map V.ref))∧zJ ks W (upd H l (.lst (ps.map V.ref++[V.ref a]))) d l (us++[t]):=by
 obtain⟨ps,h1,h2⟩:=h.at_
 have kb:∀b o,H b=some o→b∉W→(upd H l (.lst (ps.map V.ref++[V.ref a]))) b=some o∧b∉W:=fun b o z w=>⟨by rw[ah fun y=>w (by rw[y];exact hW)];exact z,w⟩
 refine⟨ps,h1,⟨⟨ps++[a],by rw[ag,List.map_append];rfl,dn (p:=LT d W _) (ht.keep kb) (aR (fun _ _ z=>z.keep kb) h2)⟩,fun x hx=>?_,fun x hx=>?_⟩⟩
 ·rcases List.mem_append.mp hx with hx|hx
  ·exact h.ok x hx
  ·have:x=t:=by simpa using hx
   rw[this];exact tU
 ·rcases List.mem_append.mp hx with hx|hx
  ·exact h.kd x hx
  ·have:x=t:=by simpa using hx
   rw[this];exact kt
def E2(ks:List (List Nat))(W:List Addr)(H:Hp)(a:Addr)(x:d8):Prop:=∃l,H a=some (.tup [.str "piece", .ref l, .int x.1])∧a∉W∧l∉W∧zJ ks W H 4 l x.2∧x.2≠[]∧1≤x.1∧x.1≤999
theorem E2.keep{ks oN:List (List Nat)}{W W':List Addr}{H H':Hp}{a:Addr}{x:d8}(h:E2 ks W H a x)(e:∀b o,H b=some o→b∉W→H' b=some o∧b∉W')(hk:∀k∈ks,k∈oN):E2 oN W' H' a x:=by
 obtain⟨l,h1,h2,h3,h4,h5⟩:=h
 obtain⟨ps,hl,_⟩:=h4.at_
 exact⟨l,(e _ _ h1 h2).1,(e _ _ h1 h2).2,(e _ _ hl h3).2,h4.keep (fun o z=>(e _ _ z h3).1) e hk,h5⟩
def em(us:List Tr):Nat:=match us with
 | []=>2
 |_=>0
def sr:Nat→List (Addr×List Tr)→Nat
 |_,[]=>0
 |j,z::r=>4+em z.2+i6 (4 - j) z.2+sr (j+1) r
theorem fB:∀(j:Nat) (Y Z:List (Addr×List Tr)),sr j (Y++Z)=sr j Y+sr (j+Y.length) Z
 |j,[],Z=>by simp [sr]
 |j,y::Y,Z=>by
  rw[List.cons_append,sr,fB (j+1) Y Z,sr,List.length_cons,show j+1+Y.length=j+(Y.length+1) by omega]
  omega
def lJ(xs:List d8):Nat:=(xs.map fun x=>4+i6 4 x.2).sum
theorem BW(us:List Tr)(t:Tr):em (us++[t])=0:=by
 cases us<;>rfl
def Ops(ks:List (List Nat))(W:List Addr)(H:Hp):Nat→List (Addr×List Tr)→Prop
 |_,[]=>True
 |j,z::r=>zJ ks W H (4 - j) z.1 z.2∧Ops ks W H (j+1) r
theorem Ops.keep{ks oN:List (List Nat)}{W W':List Addr}{H H':Hp}(e:∀b o,H b=some o→b∉W→H' b=some o∧b∉W')(hk:∀k∈ks,k∈oN):∀{j:Nat} {Z:List (Addr×List Tr)},Ops ks W H j Z→(∀z∈Z,∀o,H z.1=some o→H' z.1=some o)→Ops oN W' H' j Z
 |_,[],_,_=>trivial
 |_,z::_,h,hz=>⟨h.1.keep (hz z (List.mem_cons_self ..)) e hk,Ops.keep e hk h.2 fun y hy=>hz y (List.mem_cons_of_mem _ hy)⟩
theorem Ops.app{ks:List (List Nat)}{W:List Addr}{H:Hp}:∀{j:Nat} {Y Z:List (Addr×List Tr)},Ops ks W H j (Y++Z)↔Ops ks W H j Y∧Ops ks W H (j+Y.length) Z
 |j,[],Z=>by simp [Ops]
 |j,y::Y,Z=>by
  rw[List.cons_append,Ops,Ops,Ops.app,List.length_cons,show j+1+Y.length=j+(Y.length+1) by omega,and_assoc]
structure iM(N B:Nat)(H0 H:Hp)(PL ST:Addr)(pa:List Addr)(pz:Addr)(xs:List d8)(c:Int)(Z:List (Addr×List Tr))(ks:List (List Nat)):Prop where
 pl:H PL=some (.lst ((pa++[pz]).map V.ref))
 st:H ST=some (.lst ((Z.map (·.1)).map V.ref))
 nd:(PL::ST::Z.map (·.1)).Nodup
 l1:1≤Z.length
 l5:Z.length≤5
 cl:Paired (E2 ks (PL::ST::Z.map (·.1)) H) pa xs
 pz:∃z,Z[0]? =some z∧H pz=some (.tup [.str "piece", .ref z.1, .int c])∧pz∉PL::ST::Z.map (·.1)
 c1:1≤c∧c≤999
 c0:xs=[]→c=1
 h1:∀x,xs[0]? =some x→x.1=1
 op:Ops ks (PL::ST::Z.map (·.1)) H 0 Z
 kn:ks.length≤N
 kh:[72]∈ks
 mu:lJ xs+sr 0 Z≤B
 sm:aD H0 H
 nw:H0 PL=none∧H0 ST=none∧∀z∈Z,H0 z.1=none
section
variable {N B:Nat}{H0 H H':Hp}{PL ST:Addr}{pa:List Addr}{pz:Addr}{xs:List d8}{c:Int}{Z Y:List (Addr×List Tr)}{ks:List (List Nat)}
theorem lK:∀{j:Nat} {Z:List (Addr×List Tr)} {W:List Addr},Ops ks W H j Z→∀z∈Z,∃(d:Nat),zJ ks W H d z.1 z.2
 |_,[],_,_,z,hz=>by cases hz
 |j,y::r,W,h,z,hz=>by
  rcases List.mem_cons.mp hz with rfl|hz
  ·exact⟨_,h.1⟩
  ·exact lK h.2 z hz
theorem iM.same(S:iM N B H0 H PL ST pa pz xs c Z ks)(e:aD H H'):iM N B H0 H' PL ST pa pz xs c Z ks:=by
 have kb:∀b o,H b=some o→b∉PL::ST::Z.map (·.1)→H' b=some o∧b∉PL::ST::Z.map (·.1):=fun b o z w=>⟨e _ _ z,w⟩
 obtain⟨z,h1,h2,h3⟩:=S.pz
 exact⟨e _ _ S.pl,e _ _ S.st,S.nd,S.l1,S.l5,aR (fun _ _ z=>z.keep kb fun _ h=>h) S.cl,⟨z,h1,e _ _ h2,h3⟩,S.c1,S.c0,S.h1,S.op.keep kb (fun _ h=>h) (fun z _ o w=>e _ _ w),S.kn,S.kh,S.mu,S.sm.trans e,S.nw⟩
theorem iM.kind(S:iM N B H0 H PL ST pa pz xs c Z ks)(k:List Nat):iM (N+1) B H0 H PL ST pa pz xs c Z (ks++[k]):=by
 have kb:∀b o,H b=some o→b∉PL::ST::Z.map (·.1)→H b=some o∧b∉PL::ST::Z.map (·.1):=fun b o z w=>⟨z,w⟩
 have kk:∀x∈ks,x∈ks++[k]:=fun x hx=>List.mem_append_left _ hx
 exact⟨S.pl,S.st,S.nd,S.l1,S.l5,aR (fun _ _ z=>z.keep kb kk) S.cl,S.pz,S.c1,S.c0,S.h1,S.op.keep kb kk (fun z _ o w=>w),by rw[List.length_append];exact Nat.succ_le_succ S.kn,kk _ S.kh,S.mu,S.sm,S.nw⟩
theorem iM.more{B':Nat}(S:iM N B H0 H PL ST pa pz xs c Z ks)(h:B≤B'):iM N B' H0 H PL ST pa pz xs c Z ks:=⟨S.pl,S.st,S.nd,S.l1,S.l5,S.cl,S.pz,S.c1,S.c0,S.h1,S.op,S.kn,S.kh,Nat.le_trans S.mu h,S.sm,S.nw⟩
theorem iM.app{l a:Addr}{us:List Tr}{t:Tr}{B':Nat}(S:iM N B H0 H PL ST pa pz xs c (Y++[(l,us)]) ks)(ht:LT (4 - Y.length) (PL::ST::(Y++[(l,us)]).map (·.1)) H a t)(tU:kD (4 - Y.length) t)(kt:kJ ks (4 - Y.length) t)(hB:B+ms (4 - Y.length) t≤B'+em us):
  ∃ps:List Addr,H l=some (.lst (ps.map V.ref))∧ps.length=us.length∧iM N B' H0 (upd H l (.lst (ps.map V.ref++[V.ref a]))) PL ST pa pz xs c (Y++[(l,us++[t])]) ks:=by
 have eW:(Y++[(l,us++[t])]).map (·.1)=(Y++[(l,us)]).map (·.1):=by rw[List.map_append,List.map_append];rfl
 have oo:=Ops.app.mp S.op
 rw[Nat.zero_add] at oo
 have hW:l∈PL::ST::(Y++[(l,us)]).map (·.1):=by simp
 obtain⟨ps,hl,O'⟩:=oo.2.1.snoc hW ht tU kt
 have t7:ps.length=us.length:=by
  obtain⟨qs,hq,EA⟩:=oo.2.1.at_
  rw[hl] at hq
  have e:ps.map V.ref=qs.map V.ref:=by injection hq with e;injection e
  have:=congrArg List.length e
  rw[List.length_map,List.length_map] at this
  rw[this]
  exact Paired.length EA
 have nd:=S.nd
 simp only [List.map_append,List.map_cons,List.map_nil] at nd
 have nP:PL≠l:=fun z=>by simp [z] at nd
 have nS:ST≠l:=fun z=>by simp [z] at nd
 have nY:∀y∈Y,y.1≠l:=fun y hy z=>by
  rw[List.nodup_cons,List.nodup_cons,List.nodup_append] at nd
  exact nd.2.2.2.2 _ (List.mem_map.mpr ⟨y,hy,z⟩) l (by simp) rfl
 have kb:∀b o,H b=some o→b∉PL::ST::(Y++[(l,us)]).map (·.1)→(upd H l (.lst (ps.map V.ref++[V.ref a]))) b=some o∧b∉PL::ST::(Y++[(l,us)]).map (·.1):=fun b o z w=>⟨by rw[ah fun y=>w (by rw[y];exact hW)];exact z,w⟩
 refine⟨ps,hl,t7,⟨by rw[ah nP];exact S.pl,by rw[ah nS,eW];exact S.st,by rw[eW];exact S.nd,by simp,by have:=S.l5;simpa using this,?_,?_,S.c1,S.c0,S.h1,?_,S.kn,S.kh,?_,fun b o z=>?_,?_⟩⟩
 ·rw[eW]
  exact aR (fun _ _ z=>z.keep kb fun _ h=>h) S.cl
 ·obtain⟨z,h1,h2,h3⟩:=S.pz
  rw[eW]
  cases Y with
  |nil=>
   have e:z=(l,us):=by simpa using h1.symm
   subst e
   exact⟨(l,us++[t]),rfl,(kb _ _ h2 h3).1,h3⟩
  |cons y r=>exact⟨z,h1,(kb _ _ h2 h3).1,h3⟩
 ·rw[eW]
  refine Ops.app.mpr ⟨oo.1.keep kb (fun _ h=>h) fun y hy o z=>by rw[ah (nY y hy)];exact z,?_⟩
  rw[Nat.zero_add]
  exact⟨O',trivial⟩
 ·have h1:=S.mu
  rw[fB] at h1 ⊢
  rw[Nat.zero_add] at h1 ⊢
  simp only [sr] at h1 ⊢
  rw[BW,zI]
  omega
 ·have nl:b≠l:=af z (S.nw.2.2 _ (List.mem_append_right _ (List.mem_singleton.mpr rfl)))
  rw[ah nl]
  exact S.sm _ _ z
 ·refine⟨S.nw.1,S.nw.2.1,fun z hz=>?_⟩
  rcases List.mem_append.mp hz with hz|hz
  ·exact S.nw.2.2 z (List.mem_append_left _ hz)
  ·have e:z=(l,us++[t]):=by simpa using hz
   rw[e]
   exact S.nw.2.2 (l,us) (List.mem_append_right _ (List.mem_singleton.mpr rfl))
theorem iM.push{g:Addr}{us:List Tr}{ps:List Addr}(S:iM N B H0 H PL ST pa pz xs c Z ks)(h4:Z.length≤4)(ng:H g=none)(ho:Paired (LT (4 - Z.length) (PL::ST::Z.map (·.1)) H) ps us)(tU:∀t∈us,kD (4 - Z.length) t)(kt:∀t∈us,kJ ks (4 - Z.length) t):
  iM N (B+(4+em us+i6 (4 - Z.length) us)) H0 (upd (upd H g (.lst (ps.map V.ref))) ST (.lst ((Z.map (·.1)).map V.ref++[V.ref g]))) PL ST pa pz xs c (Z++[(g,us)]) ks:=by
 have nP:PL≠g:=af S.pl ng
 have nS:ST≠g:=af S.st ng
 have nZ:∀z∈Z,z.1≠g:=fun z hz=>by
  obtain⟨d,O⟩:=lK S.op z hz
  obtain⟨qs,hq,_⟩:=O.at_
  exact af hq ng
 have nd:=S.nd
 have NM:PL≠ST:=fun z=>by simp [z] at nd
 have NN:∀z∈Z,z.1≠ST:=fun z hz w=>by
  rw[List.nodup_cons,List.nodup_cons] at nd
  exact nd.2.1 (by rw[←w];exact List.mem_map.mpr ⟨z,hz,rfl⟩)
 have eW:(Z++[(g,us)]).map (·.1)=Z.map (·.1)++[g]:=by rw[List.map_append];rfl
 have NO:∀b,b∉PL::ST::Z.map (·.1)→b≠g→b∉PL::ST::(Z++[(g,us)]).map (·.1):=fun b h1 h2 h3=>by
  rw[eW] at h3
  simp only [List.mem_cons,List.mem_append,List.not_mem_nil,or_false] at h1 h3
  rcases h3 with h3|h3|h3|h3
  ·exact h1 (.inl h3)
  ·exact h1 (.inr (.inl h3))
  ·exact h1 (.inr (.inr h3))
  ·exact h2 h3
 have kb:∀b o,H b=some o→b∉PL::ST::Z.map (·.1)→(upd (upd H g (.lst (ps.map V.ref))) ST (.lst ((Z.map (·.1)).map V.ref++[V.ref g]))) b=some o∧b∉PL::ST::(Z++[(g,us)]).map (·.1):=fun b o z w=>
  ⟨by rw[ah fun y=>w (by rw[y];simp),ah (af z ng)];exact z,NO b w (af z ng)⟩
 refine⟨by rw[ah NM,ah nP];exact S.pl,by rw[ag,eW,List.map_append];rfl,?_,by simp,by simp;omega,aR (fun _ _ z=>z.keep kb fun _ h=>h) S.cl,?_,S.c1,S.c0,S.h1,?_,S.kn,S.kh,?_,fun b o z=>?_,?_⟩
 ·rw[eW]
  have:(PL::ST::(Z.map (·.1)++[g]))=(PL::ST::Z.map (·.1))++[g]:=rfl
  rw[this,List.nodup_append]
  refine⟨nd,by simp,fun x hx y hy=>?_⟩
  have e:y=g:=by simpa using hy
  subst e
  simp only [List.mem_cons] at hx
  rcases hx with rfl|rfl|hx
  ·exact nP
  ·exact nS
  ·obtain⟨z,hz,rfl⟩:=List.mem_map.mp hx
   exact nZ z hz
 ·obtain⟨z,h1,h2,h3⟩:=S.pz
  refine⟨z,?_,(kb _ _ h2 h3).1,(kb _ _ h2 h3).2⟩
  rw[List.getElem?_append_left (List.getElem?_eq_some_iff.mp h1).1]
  exact h1
 ·refine Ops.app.mpr ⟨S.op.keep kb (fun _ h=>h) fun z hz o w=>by rw[ah (NN z hz),ah (nZ z hz)];exact w,?_⟩
  rw[Nat.zero_add]
  exact⟨⟨⟨ps,by rw[ah (Ne.symm nS)];exact ag,aR (fun _ _ z=>z.keep kb) ho⟩,tU,kt⟩,trivial⟩
 ·have h1:=S.mu
  rw[fB,Nat.zero_add]
  simp only [sr]
  omega
 ·rw[ah (af z S.nw.2.1),ah (af (S.sm _ _ z) ng)]
  exact S.sm _ _ z
 ·refine⟨S.nw.1,S.nw.2.1,fun z hz=>?_⟩
  rcases List.mem_append.mp hz with hz|hz
  ·exact S.nw.2.2 z hz
  ·have e:z=(g,us):=by simpa using hz
   rw[e]
   exact S.sm.free ng
theorem iM.close{l1 l2 a:Addr}{u1 u2:List Tr}{n:Int}(S:iM N B H0 H PL ST pa pz xs c (Y++[(l1,u1),(l2,u2)]) ks)(mz:u2≠[])(na:H a=none)(n1:1≤n)(n2:n≤999){B':Nat}(hB:B+(bA n).length≤B'+2):
  ∃ps:List Addr,(upd (upd H ST (.lst ((Y.map (·.1)++[l1]).map V.ref))) a (.tup [.str "group", .ref l2, .int n])) l1=some (.lst (ps.map V.ref))∧ps.length=u1.length∧iM N B' H0 (upd (upd (upd H ST (.lst ((Y.map (·.1)++[l1]).map V.ref))) a (.tup [.str "group", .ref l2, .int n])) l1 (.lst (ps.map V.ref++[V.ref a]))) PL ST pa pz xs c (Y++[(l1,u1++[.gr u2 n])]) ks:=by
 have nd:=S.nd
 have eZ:Y++[(l1,u1),(l2,u2)]=(Y++[(l1,u1)])++[(l2,u2)]:=by simp
 have l5:=S.l5
 rw[List.length_append] at l5
 have l5:Y.length+2≤5:=l5
 have oo:=S.op
 rw[eZ] at oo
 have oo:=Ops.app.mp oo
 rw[Nat.zero_add,List.length_append] at oo
 obtain⟨op,o2,_⟩:=oo
 rw[←eZ] at op o2
 have o2:zJ ks _ H (4 - (Y.length+1)) l2 u2:=o2
 obtain⟨Uz,HH,UA⟩:=o2.at_
 have hm:∀b,b∉PL::ST::(Y++[(l1,u1),(l2,u2)]).map (·.1)→b∉PL::ST::(Y++[(l1,u1)]).map (·.1):=fun b h1 h2=>h1 (by
  simp only [List.map_append,List.map_cons,List.map_nil,List.mem_cons,List.mem_append,List.not_mem_nil,or_false] at h2 ⊢
  rcases h2 with h2|h2|h2|h2
  ·exact .inl h2
  ·exact .inr (.inl h2)
  ·exact .inr (.inr (.inl h2))
  ·exact .inr (.inr (.inr (.inl h2))))
 have NP:=nd
 simp only [List.map_append,List.map_cons,List.map_nil] at NP
 rw[List.nodup_cons,List.nodup_cons,List.nodup_append] at NP
 obtain⟨q1,q2,q3,q4,q5⟩:=NP
 simp only [List.mem_cons,List.mem_append,List.not_mem_nil,or_false,not_or] at q1 q2
 have UB:l2∉PL::ST::(Y++[(l1,u1)]).map (·.1):=by
  simp only [List.map_append,List.map_cons,List.map_nil,List.mem_cons,List.mem_append,List.not_mem_nil,or_false,not_or]
  refine⟨fun z=>q1.2.2.2 z.symm,fun z=>q2.2.2 z.symm,fun z=>q5 _ z l2 (by simp) rfl,fun z=>?_⟩
  rw[z] at q4
  simp at q4
 have NM:PL≠ST:=q1.1
 have Sl:PL≠a:=af S.pl na
 have Gh:ST≠a:=af S.st na
 have NN:∀z∈Y++[(l1,u1)],z.1≠ST:=fun z hz w=>by
  rcases List.mem_append.mp hz with hz|hz
  ·exact q2.1 (by rw[←w];exact List.mem_map.mpr ⟨z,hz,rfl⟩)
  ·have e:z=(l1,u1):=by simpa using hz
   rw[e] at w
   exact q2.2.1 w.symm
 have UC:l2≠ST:=fun z=>q2.2.2 z.symm
 have kb:∀b o,H b=some o→b∉PL::ST::(Y++[(l1,u1),(l2,u2)]).map (·.1)→(upd (upd H ST (.lst ((Y.map (·.1)++[l1]).map V.ref))) a (.tup [.str "group", .ref l2, .int n])) b=some o∧b∉PL::ST::(Y++[(l1,u1)]).map (·.1):=fun b o z w=>
  ⟨by rw[ah (af z na),ah fun y=>w (by rw[y];simp)];exact z,hm b w⟩
 have mu:=S.mu
 rw[eZ,fB,Nat.zero_add,List.length_append] at mu
 simp only [sr] at mu
 have NQ:em u2=0:=by
  cases u2 with
  |nil=>exact absurd rfl mz
  |cons _ _=>rfl
 have mu:lJ xs+(sr 0 (Y++[(l1,u1)])+(4+em u2+i6 (4 - (Y.length+1)) u2+0))≤B:=mu
 rw[NQ] at mu
 have S1:iM N (B - (4+i6 (4 - (Y.length+1)) u2)) H0 (upd (upd H ST (.lst ((Y.map (·.1)++[l1]).map V.ref))) a (.tup [.str "group", .ref l2, .int n])) PL ST pa pz xs c (Y++[(l1,u1)]) ks:=by
  refine⟨by rw[ah Sl,ah NM];exact S.pl,by rw[ah Gh,ag];simp,?_,by simp,by simp;omega,aR (fun _ _ z=>z.keep kb fun _ h=>h) S.cl,?_,S.c1,S.c0,S.h1,?_,S.kn,S.kh,by omega,fun b o z=>?_,⟨S.nw.1,S.nw.2.1,fun z hz=>S.nw.2.2 z (by rw[eZ];exact List.mem_append_left _ hz)⟩⟩
  ·have e:(PL::ST::(Y++[(l1,u1),(l2,u2)]).map (·.1))=(PL::ST::(Y++[(l1,u1)]).map (·.1))++[l2]:=by simp
   rw[e,List.nodup_append] at nd
   exact nd.1
  ·obtain⟨z,h1,h2,h3⟩:=S.pz
   refine⟨z,?_,(kb _ _ h2 h3).1,(kb _ _ h2 h3).2⟩
   rw[eZ,List.getElem?_append_left (by simp)] at h1
   exact h1
  ·exact op.keep kb (fun _ h=>h) fun z hz o w=>by rw[ah (af w na),ah (NN z hz)];exact w
  ·rw[ah (af (S.sm _ _ z) na),ah (af z S.nw.2.1)]
   exact S.sm _ _ z
 have ed:4 - Y.length=(4 - (Y.length+1))+1:=by omega
 have hT:LT (4 - Y.length) (PL::ST::(Y++[(l1,u1)]).map (·.1)) (upd (upd H ST (.lst ((Y.map (·.1)++[l1]).map V.ref))) a (.tup [.str "group", .ref l2, .int n])) a (.gr u2 n):=by
  rw[ed]
  refine⟨l2,Uz,ag,?_,UB,by rw[ah (af HH na),ah UC];exact HH,aR (fun _ _ z=>z.keep kb) UA⟩
  intro z
  simp only [List.mem_cons] at z
  rcases z with z|z|z
  ·exact Sl z.symm
  ·exact Gh z.symm
  ·obtain⟨y,hy,e⟩:=List.mem_map.mp z
   obtain⟨d,O⟩:=lK S.op y (by rw[eZ];exact List.mem_append_left _ hy)
   obtain⟨qs,hq,_⟩:=O.at_
   rw[e,na] at hq
   cases hq
 have UD:kD (4 - Y.length) (.gr u2 n):=by
  rw[ed]
  exact⟨mz,o2.ok,n1,n2⟩
 have kg:kJ ks (4 - Y.length) (.gr u2 n):=by
  rw[ed]
  exact kJ.gr o2.kd
 have UE:ms (4 - Y.length) (.gr u2 n)=2+i6 (4 - (Y.length+1)) u2+(bA n).length:=by
  rw[ed,HZ]
 exact S1.app hT UD kg (by rw[UE];omega)
theorem iM.CV{l g b qC:Addr}{u us:List Tr}{ps:List Addr}{n:Int}(S:iM N B H0 H PL ST pa pz xs c [(l,u)] ks)(mz:u≠[])(ng:H g=none)(nb:H b=none)(ns:H qC=none)(gb:g≠b)(gs:g≠qC)(bs:b≠qC)(n1:1≤n)(n2:n≤999)(ho:Paired (LT 4 [PL,ST,l] H) ps us)(tU:∀t∈us,kD 4 t)(kt:∀t∈us,kJ ks 4 t):
  iM N (B+(4+em us+i6 4 us)) H0 (upd (upd (upd (upd H g (.lst (ps.map V.ref))) b (.tup [.str "piece", .ref g, .int n])) PL (.lst ((pa++[pz]).map V.ref++[V.ref b]))) qC (.lst [V.ref g])) PL qC (pa++[pz]) b (xs++[(c,u)]) n [(g,us)] ks:=by
 have LU:PL≠g:=af S.pl ng
 have Ia:PL≠b:=af S.pl nb
 have LV:PL≠qC:=af S.pl ns
 have nd:=S.nd
 simp only [List.map_cons,List.map_nil] at nd
 have Sm:PL≠l:=fun z=>by simp [z] at nd
 have VQ:ST≠l:=fun z=>by simp [z] at nd
 obtain⟨z,h1,h2,h3⟩:=S.pz
 have e:z=(l,u):=by simpa using h1.symm
 subst e
 have o1:zJ ks [PL,ST,l] H 4 l u:=S.op.1
 obtain⟨VR,EF,_⟩:=o1.at_
 have kb:∀x o,H x=some o→x∉[PL,ST,l]→(upd (upd (upd (upd H g (.lst (ps.map V.ref))) b (.tup [.str "piece", .ref g, .int n])) PL (.lst ((pa++[pz]).map V.ref++[V.ref b]))) qC (.lst [V.ref g])) x=some o∧x∉[PL,qC,g]:=fun x o z w=>
  ⟨by rw[ah (af z ns),ah fun y=>w (by rw[y];simp),ah (af z nb),ah (af z ng)];exact z,fun y=>by
   simp only [List.mem_cons,List.not_mem_nil,or_false] at y w
   rcases y with y|y|y
   ·exact w (.inl y)
   ·exact af z ns y
   ·exact af z ng y⟩
 have Ic:∀o,H l=some o→(upd (upd (upd (upd H g (.lst (ps.map V.ref))) b (.tup [.str "piece", .ref g, .int n])) PL (.lst ((pa++[pz]).map V.ref++[V.ref b]))) qC (.lst [V.ref g])) l=some o:=fun o z=>by
  rw[ah (af z ns),ah (Ne.symm Sm),ah (af z nb),ah (af z ng)]
  exact z
 have lW:l∉[PL,qC,g]:=fun y=>by
  simp only [List.mem_cons,List.not_mem_nil,or_false] at y
  rcases y with y|y|y
  ·exact Sm y.symm
  ·exact af EF ns y
  ·exact af EF ng y
 refine⟨by rw[ah LV,ag,List.map_append,List.map_append,List.map_append];rfl,ag,by simp [LV,LU,Ne.symm gs],by simp,by simp,?_,⟨(g,us),rfl,by rw[ah bs,ah (Ne.symm Ia)];exact ag,by simp [Ne.symm Ia,bs,Ne.symm gb]⟩,⟨n1,n2⟩,(fun z=>by simp at z),?_,⟨⟨⟨ps,?_,aR (fun _ _ z=>z.keep kb) ho⟩,tU,kt⟩,trivial⟩,S.kn,S.kh,?_,fun x o z=>?_,⟨S.nw.1,S.sm.free ns,fun z hz=>?_⟩⟩
 ·refine dn (p:=E2 ks _ _) ⟨l,(kb _ _ h2 h3).1,(kb _ _ h2 h3).2,lW,o1.keep Ic kb fun _ h=>h,mz,S.c1.1,S.c1.2⟩ (aR (fun _ _ z=>z.keep kb fun _ h=>h) S.cl)
 ·intro x hx
  cases xs with
  |nil=>
   have e:x=(c,u):=by simpa using hx.symm
   rw[e]
   exact S.c0 rfl
  |cons y r=>exact S.h1 x hx
 ·rw[ah gs,ah (Ne.symm LU),ah gb]
  exact ag
 ·have h1:=S.mu
  have NQ:em u=0:=by
   cases u with
   |nil=>exact absurd rfl mz
   |cons _ _=>rfl
  simp only [sr] at h1 ⊢
  have e1:lJ (xs++[(c,u)])=lJ xs+(4+i6 4 u):=by
   unfold lJ
   rw[List.map_append,List.sum_append]
   simp
  rw[e1]
  have h1:lJ xs+(4+em u+i6 4 u+0)≤B:=h1
  show lJ xs+(4+i6 4 u)+(4+em us+i6 4 us+0)≤_
  omega
 ·have zz:=S.sm _ _ z
  rw[ah (af zz ns),ah (af z S.nw.1),ah (af zz nb),ah (af zz ng)]
  exact zz
 ·have e:z=(g,us):=by simpa using hz
  rw[e]
  exact S.sm.free ng
end
variable {uC uP uI uD uL uT:Tok}
theorem CW{t u:TT}{σ:St}{H:Hp}{Q:Bool→Hp→Prop}{b1 b2:Bool}(ht:∀R:Bool→Hp→Prop,R b1 H→t σ H R)(hu:b1=true→∀R:Bool→Hp→Prop,R b2 H→u σ H R)(hq:Q (b1&&b2) H):AF t u σ H Q:=by
 refine ht _ ?_
 cases b1 with
 |false=>exact cQ hq
 |true=>exact cA (hu rfl _ hq)
theorem E3{t u v:TT}{σ:St}{H:Hp}{Q:Bool→Hp→Prop}{b1 b2:Bool}(ht:∀R:Bool→Hp→Prop,R b1 H→t σ H R)(hu:∀R:Bool→Hp→Prop,R b2 H→u σ H R)(hv:b1=true→b2=true→v σ H Q)(hf:Q false H):AF t (AF u v) σ H Q:=by
 refine ht _ ?_
 cases b1 with
 |false=>exact cQ hf
 |true=>
  refine cA (hu _ ?_)
  cases b2 with
  |false=>exact cQ hf
  |true=>exact cA (hv rfl rfl)
theorem nc{α:Type}{Z:List α}(h:1≤Z.length):∃Y a,Z=Y++[a]:=by
 have ne:Z≠[]:=fun z=>by rw[z] at h;simp at h
 exact⟨Z.dropLast,Z.getLast ne,(List.dropLast_concat_getLast ne).symm⟩
theorem su{α:Type}{Z:List α}(h:2≤Z.length):∃Y a b,Z=Y++[a,b]:=by
 obtain⟨Y,b,rfl⟩:=nc (Z:=Z) (by omega)
 rw[List.length_append] at h
 obtain⟨X,a,rfl⟩:=nc (Z:=Y) (by have:Y.length+1≥2:=h;omega)
 exact⟨X,a,b,by simp⟩
theorem ie{H:Hp}{a b:Addr}{x y:HO}(h:a≠b):upd (upd H a x) b y=upd (upd H b y) a x:=by
 funext c
 by_cases h1:c=a
 ·subst h1
  rw[ah h,ag,ag]
 ·by_cases h2:c=b
  ·subst h2
   rw[ag,ah h1,ag]
  ·rw[ah h2,ah h1,ah h1,ah h2]
theorem sv(a:Addr)(c:Int):∃ps:List Addr,l9 [V.ref a] none (some (c%2))=ps.map V.ref∧(ps=[]∨ps=[a]):=by
 have h0:=Int.emod_nonneg c (show (2 :Int)≠0 by decide)
 have h1:=Int.emod_lt_of_pos c (show (0 :Int) <2 by decide)
 obtain⟨j,hj⟩:∃j:Nat,c%2=(j:Int):=⟨(c%2).toNat,by omega⟩
 rw[hj,D6]
 have:j=0∨j=1:=by omega
 rcases this with rfl|rfl
 ·exact⟨[],rfl, .inl rfl⟩
 ·exact⟨[a],rfl, .inr rfl⟩
theorem iM.E4{N B:Nat}{H0 H:Hp}{PL ST:Addr}{pa:List Addr}{pz:Addr}{xs:List d8}{c:Int}{Z:List (Addr×List Tr)}{ks:List (List Nat)}(S:iM N B H0 H PL ST pa pz xs c Z ks){a:Addr}(h:H a=none):a∉PL::ST::Z.map (·.1):=fun z=>by
 simp only [List.mem_cons] at z
 rcases z with z|z|z
 ·rw[z,S.pl] at h;cases h
 ·rw[z,S.st] at h;cases h
 ·obtain⟨y,hy,e⟩:=List.mem_map.mp z
  obtain⟨d,O⟩:=lK S.op y hy
  obtain⟨qs,hq,_⟩:=O.at_
  rw[e,h] at hq
  cases hq
theorem nh{d:Nat}:∀{us:List Tr},(∀t∈us,kD d t)→us.length≤i6 d us
 | [],_=>Nat.zero_le _
 |t::r,ho=>by
  have h1:=E1 (ho t (List.mem_cons_self ..))
  have h2:=nh (us:=r) fun y hy=>ho y (List.mem_cons_of_mem _ hy)
  unfold i6 at h2 ⊢
  rw[List.length_cons,List.map_cons,List.sum_cons]
  omega
def sx(K:PySem.W.Frag):Sp:=fun vs H Q _=>∃(a:Addr) (ns:List Int),vs=[.ref a]∧bF K H a (ns.map V.int)∧ns.length≤38∧∀(l:Addr) (xs:List d8) (ks:List (List Nat)) H',aD H H'→Sk 4 H' l xs→xs≠[]→(∀n, -999≤n→n≤999→yX 4 xs n∧(wL 4 xs n).length≤400)→lJ xs≤386→ks.length≤39→(∀x∈xs,∀t∈x.2,kJ ks 4 t)→Q (.ref l) H'
theorem cV:az ["_law_cells","_law_pieces_here","_law_stack","_law_cell","_law_way","_law_count_here","_law_atom","_law_some"] ["_law_cells"] (ao lj):=dM
theorem gF{d:Nat}{W:List Addr}{H:Hp}{a:Addr}{k:List Nat}{n:Int}(h:H a=some (.tup [.str "atom", .str ⟨k.toArray⟩, .int n]))(w:a∉W):LT d W H a (.one k n):=by cases d<;>exact⟨h,w⟩
theorem gG{d:Nat}{k:List Nat}{n:Int}(hk:lD k)(n1:1≤n)(n2:n≤999):kD d (.one k n):=by cases d<;>exact⟨hk,n1,n2⟩
theorem xo(D:Def K mg "_law_pieces" "_law_pieces" lj ["_law_cells"])(T:fF K mg C)(c1:a4 P w K mg base 1 "_law_mixed" ["_law_cell","_law_prime"] ly)(c2:a4 P w K mg base 1 "_law_count" ["_law_number"] qi)(c3:a4 P w K mg base 2 "_law_part" ["_law_number","_law_other"] zE):a4 P w K mg base 3 "_law_pieces" ["_law_cells"] (sx K):=by
 obtain⟨_,_,aP⟩:=c1
 obtain⟨_,_,cO⟩:=c2
 obtain⟨_,_,jG⟩:=c3
 refine D.eB cV (fun vs H Q E h=>?_) (fun f ba A outer s H vs Q E hr h=>?_)
 ·obtain⟨a,ns,rfl,_⟩:=h
  rfl
 ·obtain⟨a,ns,rfl,hS,VS,q⟩:=h
  have hu:=nX hr
  have big:(3000 :Nat) <sizeLine:=by decide
  refine⟨_,(ai
     (aL (i:=1) cV.nd rfl (Or.inl rfl) (b7 (aa (bO (aa ax (aa (b7 ak) (aa aj ak)))) ak)))
    (ai
     (aL (i:=2) cV.nd rfl (Or.inl rfl) (b7 (aa (bw ck (bw cC (pv 1) aj (fun _ _=>rfl)) aj (fun _ _=>rfl)) ak)))
    (ai
     (eA PassesOwn.never rfl (eK (pv 0)) (aX (i:=3) cV.nd rfl (Or.inl rfl))
      (ai
       (aL (i:=4) cV.nd rfl (Or.inl rfl) (aw a7 (aJ aP.ok (hr.mono (by decide)) rfl aP.g aP.kp aP.b .nil aM (aa (pv 3) (aa aj ak))) aj))
      (ai
       (aL (i:=5) cV.nd rfl (Or.inl rfl) (aJ cO.ok (hr.mono (by decide)) rfl cO.g cO.kp cO.b .nil aM (aa (aJ aP.ok (hr.mono (by decide)) rfl aP.g aP.kp aP.b .nil aM (aa (pv 3) (aa aj ak))) ak)))
      (ai
       (aL (i:=6) cV.nd rfl (Or.inl rfl) (aJ jG.ok (hr.mono (by decide)) rfl jG.g jG.kp jG.b .nil aM (aa (aJ aP.ok (hr.mono (by decide)) rfl aP.g aP.kp aP.b .nil aM (aa (pv 3) (aa aj ak))) (aa (aJ aP.ok (hr.mono (by decide)) rfl aP.g aP.kp aP.b .nil aM (aa (pv 3) (aa aj ak))) ak))))
      (aq
       (aY (PW.pt (bX (au aW (pv 4) aj (aA _)) (bZ (au lU (a9 cm rfl T.er cH (aa (pv 2) ak)) aj (aA _)))))
        (aq
         (bB (eG PySem.F.plainAttrs_list PySem.F.slot_list_append PySem.F.type_list_append cg (pv 2) (aa (bE kX (b7 (aa (pv 6) ak)) cY (bu (aw a7 (pv 3) aj))) ak))))
        (aq
         (aY (PW.pt (bX (au aW (pv 4) aj (aA _)) (bZ (au kA (a9 cm rfl T.er cH (aa (pv 2) ak)) aj (aA _)))))
          (ai
           (aL (i:=7) cV.nd rfl (Or.inl rfl) (yb PySem.F.plainAttrs_list PySem.F.slot_list_pop PySem.F.type_list_pop yc (pv 2)))
          (ai
           (aY (au (pB hu) (pv 7) (b7 ak) (aA _))
            (aq
             (bB (eG PySem.F.plainAttrs_list PySem.F.slot_list_append PySem.F.type_list_append cg (pv 7) (aa (pv 6) ak))))
            aK)
          (aq
           (bB (eG PySem.F.plainAttrs_list PySem.F.slot_list_append PySem.F.type_list_append cg (bw cC (pv 2) (kz gY aj) (fun _ _=>rfl)) (aa (bO (aa ax (aa (pv 7) (aa (pv 5) ak)))) ak))))))
          (aq
           (aY (PW.pt (bX (au aW (pv 4) aj (aA _)) (bX (au aW (a9 cm rfl T.er cH (aa (pv 2) ak)) aj (aA _)) (bZ (au (D7 hu) (bw cC (pv 2) aj (fun _ _=>rfl)) (b7 ak) (aA _))))))
            (ai
             (bB (eG PySem.F.plainAttrs_list PySem.F.slot_list_append PySem.F.type_list_append cg (pv 1) (aa (bO (aa ax (aa (bE kX (b7 (aa (pv 6) ak)) cY (bu (aw a7 (pv 3) aj))) (aa (pv 5) ak)))) ak)))
            (aq
             (aL (i:=2) cV.nd rfl (Or.inl rfl) (b7 (aa (bw ck (bw cC (pv 1) (kz gY aj) (fun _ _=>rfl)) aj (fun _ _=>rfl)) ak)))))
            (aq
             (bB (eG PySem.F.plainAttrs_list PySem.F.slot_list_append PySem.F.type_list_append cg (bw cC (pv 2) (kz gY aj) (fun _ _=>rfl)) (aa (pv 6) ak))))))))))))))
    (ai
     (gX PassesOwn.never (au kA (a9 cm rfl T.er cH (aa (pv 2) ak)) aj (aA _))
      (ai
       (aL (i:=7) cV.nd rfl (Or.inl rfl) (yb PySem.F.plainAttrs_list PySem.F.slot_list_pop PySem.F.type_list_pop yc (pv 2)))
      (ai
       (aY (au (pB hu) (pv 7) (b7 ak) (aA _))
        (aq
         (bB (eG PySem.F.plainAttrs_list PySem.F.slot_list_append PySem.F.type_list_append cg (pv 7) (aa (bO (aa ax (aa ax (aa aj ak)))) ak))))
        aK)
      (aq
       (bB (eG PySem.F.plainAttrs_list PySem.F.slot_list_append PySem.F.type_list_append cg (bw cC (pv 2) (kz gY aj) (fun _ _=>rfl)) (aa (bO (aa ax (aa (pv 7) (aa (aw cf aj (aw a7 (a9 cm rfl T.er cH (aa (pv 7) ak)) aj)) ak)))) ak)))))))
    (ai
     (aY (au (pB hu) (bw cC (pv 2) aj (fun _ _=>rfl)) (b7 ak) (aA _))
      (aq
       (bB (eG PySem.F.plainAttrs_list PySem.F.slot_list_append PySem.F.type_list_append cg (bw cC (pv 2) aj (fun _ _=>rfl)) (aa (bO (aa ax (aa ax (aa aj ak)))) ak))))
      aK)
    (aq
     (ay (pv 1)))))))),?_⟩
  refine⟨(by show 0≤sizeLine;decide),fun l0 EF=>⟨(by show 3≤sizeLine;decide),fun t0 NR=>⟨(by show 1≤sizeLine;decide),fun PL Sn=>?_⟩⟩⟩
  have s1:=aD.new (o:= .lst []) EF
  have s2:=aD.new (o:= .tup [.str "piece",V.ref l0,V.int 1]) NR
  have s3:=aD.new (o:= .lst [V.ref t0]) Sn
  have e3:=(s1.trans s2).trans s3
  have Bz:=s3 _ _ (s2 _ _ (ag (H:=H) (a:=l0) (o:= .lst [])))
  have Gi:=s3 _ _ (ag (H:=upd H l0 (.lst [])) (a:=t0) (o:= .tup [.str "piece",V.ref l0,V.int 1]))
  have E5:(upd (upd (upd H l0 (.lst [])) t0 (.tup [.str "piece",V.ref l0,V.int 1])) PL (.lst [V.ref t0])) PL=some (.lst [V.ref t0]):=ag
  have UG:=(s1.trans s2).free Sn
  generalize upd (upd (upd H l0 (.lst [])) t0 (.tup [.str "piece",V.ref l0,V.int 1])) PL (.lst [V.ref t0])=H3 at s3 e3 Bz Gi E5 ⊢
  dsimp only [fL]
  refine⟨_,rfl,PL,_,_, .ref t0,rfl,rfl,bF.of E5,rfl,t0,_,_, .ref l0,rfl,rfl,iI.of Gi,rfl,(by show 1≤sizeLine;decide),fun ST Ie=>?_⟩
  have s4:=aD.new (o:= .lst [V.ref l0]) Ie
  have S4:iM 1 6 H (upd H3 ST (.lst [V.ref l0])) PL ST [] t0 [] 1 [(l0,[])] [[72]]:=by
   have n1:PL≠ST:=af E5 Ie
   have n2:PL≠l0:=fun z=>by rw[z] at E5;rw[E5] at Bz;cases Bz
   have n3:ST≠l0:=Ne.symm (af Bz Ie)
   have n4:t0≠PL:=xJ Gi E5 (by intro z;cases z)
   have n5:t0≠ST:=af Gi Ie
   have n6:t0≠l0:=xJ Gi Bz (by intro z;cases z)
   exact⟨s4 _ _ E5,ag,by simp [n1,n2,n3],by simp,by simp, .nil,⟨(l0,[]),rfl,s4 _ _ Gi,by simp [n4,n5,n6]⟩,⟨by decide,by decide⟩,(fun _=>rfl),(fun x hx=>by simp at hx),⟨⟨⟨[],s4 _ _ Bz, .nil⟩,(fun t ht=>by cases ht),(fun t ht=>by cases ht)⟩,trivial⟩,by simp,by simp,(by show 0+(4+2+0+0)≤6;decide),e3.trans s4,⟨UG,e3.free Ie,fun z hz=>by
    have e:z=(l0,[]):=by simpa using hz
    rw[e];exact EF⟩⟩
  generalize upd H3 ST (.lst [V.ref l0])=H4 at s4 S4 ⊢
  have e4:=S4.sm
  dsimp only [fL]
  refine⟨_,rfl,a,rfl,⟨_,e4.seq hS⟩,i' (K:=K) (a:=a) (xs:=ns.map V.int) (fun i σ H'=>∃(ST:Addr) (pa:List Addr) (pz:Addr) (xs:List d8) (c:Int) (Z:List (Addr×List Tr)) (ks:List (List Nat)) (v3 v4 v5 v6 v7:Option V),σ=[some (.ref a),some (.ref PL),some (.ref ST),v3,v4,v5,v6,v7]∧iM (i+1) (10*i+6) H H' PL ST pa pz xs c Z ks) ?_ (fun i σ H' _ ⟨_,_,_,_,_,_,_,_,_,_,_,_,_,S⟩=>S.sm.seq hS) ?_ ?_⟩
  ·exact⟨ST,[],t0,[],1,[(l0,[])],[[72]],none,none,none,none,none,rfl,S4⟩
  ·rintro i y σ H5 hi ⟨ST,pa,pz,xs,c,Z,ks,v3,v4,v5,v6,v7,rfl,S5⟩
   obtain⟨cell,lR,rfl⟩:=int_at hi
   refine⟨_,rfl,cell,999979,0,rfl,by decide,rfl,fun w1 Ha ea=>⟨_,_,rfl,rfl,(by show (0 :Int) <8;decide),?_⟩⟩
   refine⟨_,rfl,cell,1000037,4,rfl,by decide,rfl,fun w2 Hb eb=>⟨w2,rfl,fun cn Hc LW LX ec=>?_⟩⟩
   refine⟨_,rfl,cell,1000003,2,rfl,by decide,rfl,fun w3 Hd ed=>⟨_,rfl,cell,1000033,3,rfl,by decide,rfl,fun w4 He ee=>⟨w3,w4,rfl,fun at_ k n Hf hk n1 n2 nat mZ ef=>?_⟩⟩⟩
   have S6:=((((((S5.same ea).same eb).same ec).same ed).same ee).same ef).kind k
   have nW:at_∉PL::ST::Z.map (·.1):=(((((S5.same ea).same eb).same ec).same ed).same ee).E4 nat
   have kk:k∈ks++[k]:=List.mem_append_right _ (List.mem_singleton.mpr rfl)
   generalize ks++[k]=oN at S6 kk
   clear S5 hi ea eb ec ed ee ef nat
   have l1:=S6.l1
   have l5:=S6.l5
   have jT:=S6.st
   dsimp only [fL]
   refine CW (fun R r=>⟨_,rfl,rfl,_,rfl,r⟩) (fun _ R r=>⟨_,rfl,ST,_,rfl, .inl (bF.of jT),_,_,rfl,rfl,_,rfl,r⟩) (dq (fun g1=>?_) fun g1=>?_)
   ·have h4:Z.length≤4:=by
     rw[Bool.and_eq_true] at g1
     have:=g1.2
     rw[List.length_map,List.length_map] at this
     have:(Z.length:Int) <5:=by simpa using this
     omega
    obtain⟨ps,E6,nk⟩:=sv at_ cell
    refine⟨_,rfl, .inl ⟨rfl,_,bF.of jT⟩,_,rfl,(by show 1≤sizeLine;decide),fun q0 NS=>⟨_,rfl,_,_,rfl,rfl,(by show (0 :Int) <2;decide),_,rfl,q0,_,rfl,bF.of ag,fun g hg=>?_⟩⟩
    have sq:=aD.new (o:= .lst [V.ref at_]) NS
    have S7:=S6.same sq
    have zK:=sq _ _ mZ
    generalize upd Hf q0 (.lst [V.ref at_])=H7 at sq S7 zK hg ⊢
    rw[E6]
    refine⟨ST,_,_,rfl,rfl,by rw[ah (af S7.st hg)];exact S7.st,by rw[List.length_map,List.length_map];omega,?_⟩
    rcases nk with rfl|rfl
    ·exact⟨ST,pa,pz,xs,c,Z++[(g,[])],oN,_,_,_,_,_,rfl,(S7.push (us:=[]) h4 hg .nil (fun t ht=>by cases ht) (fun t ht=>by cases ht)).more (by show 10*i+6+(4+2+0)≤10*(i+1)+6;omega)⟩
    ·refine⟨ST,pa,pz,xs,c,Z++[(g,[.one k n])],oN,_,_,_,_,_,rfl,(S7.push (us:=[.one k n]) h4 hg (.cons (gF zK nW) .nil) (fun t ht=>?_) (fun t ht=>?_)).more ?_⟩
     ·rw[show t= .one k n by simpa using ht]
      exact gG hk n1 n2
     ·rw[show t= .one k n by simpa using ht]
      exact kJ.one kk
     ·have:=sk (d:=4 - Z.length) hk n1 n2
      show 10*i+6+(4+0+i6 (4 - Z.length) [.one k n])≤10*(i+1)+6
      omega
   refine CW (fun R r=>⟨_,rfl,rfl,_,rfl,r⟩) (fun _ R r=>⟨_,rfl,ST,_,rfl, .inl (bF.of jT),_,_,rfl,rfl,_,rfl,r⟩) (dq (fun g2=>?_) fun g2=>?_)
   ·have h2:2≤Z.length:=by
     rw[Bool.and_eq_true] at g2
     have:=g2.2
     rw[List.length_map,List.length_map] at this
     have:(1 :Int) <Z.length:=by simpa using this
     omega
    obtain⟨Y,⟨la,ua⟩,⟨lb,ub⟩,rfl⟩:=su h2
    have E7:((Y++[(la,ua),(lb,ub)]).map (·.1)).map V.ref=((Y.map (·.1)++[la]).map V.ref)++[V.ref lb]:=by simp
    rw[E7] at jT
    have hY:(Y++[(la,ua)]).length=Y.length+1:=by simp
    refine⟨_,rfl, .inl ⟨rfl,_,bF.of jT⟩,ST,_, .ref lb,rfl,rfl,jT,by simp,?_⟩
    rw[List.dropLast_concat]
    have eZ:Y++[(la,ua),(lb,ub)]=(Y++[(la,ua)])++[(lb,ub)]:=by simp
    have SZ:=S6
    rw[eZ] at SZ
    have ob:=(Ops.app.mp SZ.op).2.1
    obtain⟨pb,NT,NU⟩:=ob.at_
    have zL:=Paired.length NU
    have nd:=S6.nd
    have E8:lb≠ST:=fun z=>by
     rw[z] at nd
     simp at nd
    have Gh:la≠ST:=fun z=>by
     rw[z] at nd
     simp at nd
    dsimp only [fL]
    refine il (fun σ' H'=>σ'=[some (.ref a),some (.ref PL),some (.ref ST),some (.int cell),some (.int (w1%8)),some (.int cn),some (.ref at_),some (.ref lb)]∧∃(Hv:Hp) (zM:List Tr),zM≠[]∧iM (i+1+1) (10*i+10) H Hv PL ST pa pz xs c (Y++[(la,ua),(lb,zM)]) oN∧H'=upd Hv ST (.lst ((Y.map (·.1)++[la]).map V.ref))) (fun N hN=>?_) ?_
    ·refine⟨_,rfl,(by show 0≤sizeLine;decide),fun z hz=>?_⟩
     have E9:ST≠z:=af ag hz
     have NV:Hf z=none:=by rwa [ah (Ne.symm E9)] at hz
     have sz:=aD.new (o:= .lst []) NV
     have Sz:=S6.same sz
     have ez:upd (upd Hf ST (.lst ((Y.map (·.1)++[la]).map V.ref))) z (.lst [])=upd (upd Hf z (.lst [])) ST (.lst ((Y.map (·.1)++[la]).map V.ref)):=ie E9
     rw[ez]
     have zN:=sz _ _ NT
     have zO:=sz _ _ mZ
     have NW:z≠ST:=Ne.symm E9
     have zP:(upd (upd Hf z (.lst [])) ST (.lst ((Y.map (·.1)++[la]).map V.ref))) z=some (.lst []):=by rw[ah NW];exact ag
     generalize upd Hf z (.lst [])=Hz at sz Sz zN zO zP ⊢
     have xp:(upd Hz ST (.lst ((Y.map (·.1)++[la]).map V.ref))) lb=some (.lst (pb.map V.ref)):=by rw[ah E8];exact zN
     refine⟨lb,z,_,rfl,rfl,bF.of xp,bF.of zP,_,rfl,dq (fun g3=>?_) fun g3=>?_⟩
     ·have Ig:ub=[]:=by
       have:pb=[]:=by simpa using g3
       rw[this] at zL
       exact List.length_eq_zero_iff.mp zL.symm
      subst Ig
      have E':pb=[]:=List.length_eq_zero_iff.mp zL
      subst E'
      rw[eZ] at Sz
      have Gj:at_∉PL::ST::((Y++[(la,ua)])++[(lb,([]:List Tr))]).map (·.1):=by rw[←eZ];exact nW
      obtain⟨ps,nk,t7,S8⟩:=Sz.app (t:= .one k n) (B':=10*i+10) (gF zO Gj) (gG hk n1 n2) (kJ.one kk) (by have:=lI (d:=4 - (Y++[(la,ua)]).length) hk n1 n2;show _≤_+2;omega)
      have NY:ps=[]:=List.length_eq_zero_iff.mp t7
      subst NY
      refine⟨_,rfl, .inl ⟨rfl,_,bF.of xp⟩,_,rfl,lb,_,_,rfl,rfl,xp,(by show 0<sizeLine;decide),hN _ _ ⟨rfl,_,[.one k n],by simp,?_,ie (Ne.symm E8)⟩⟩
      have:=S8
      rw[show (Y++[(la,ua)])++[(lb,[]++[Tr.one k n])]=Y++[(la,ua),(lb,[Tr.one k n])] by simp] at this
      exact this
     ·refine hN _ _ ⟨rfl,Hz,ub,fun z=>?_,Sz.more (by omega),rfl⟩
      rw[z] at zL
      have:pb=[]:=List.length_eq_zero_iff.mp zL
      rw[this] at g3
      simp at g3
    rintro σ' H' ⟨rfl,Hv,zM,mz,Sv,rfl⟩
    have zQ:(upd Hv ST (.lst ((Y.map (·.1)++[la]).map V.ref))) ST=some (.lst ((Y.map (·.1)).map V.ref++[V.ref la])):=by rw[ag,List.map_append];rfl
    have Gk:=Sv
    rw[show Y++[(la,ua),(lb,zM)]=Y++((la,ua)::[(lb,zM)]) from rfl] at Gk
    have oa:=(Ops.app.mp Gk.op).2.1
    obtain⟨NZ,N0,N2⟩:=oa.at_
    have Fb:(upd Hv ST (.lst ((Y.map (·.1)++[la]).map V.ref))) la=some (.lst (NZ.map V.ref)):=by rw[ah Gh];exact N0
    refine⟨_,rfl,1,rfl,ST,_,_, .ref la,rfl,rfl,bF.of zQ,gZ _ _, .inl ⟨rfl,_,bF.of Fb⟩,_,rfl,_,rfl,(by show 3≤sizeLine;decide),fun gt Ih=>?_⟩
    have N3:ST≠gt:=af zQ Ih
    have N4:Hv gt=none:=by rwa [ah (Ne.symm N3)] at Ih
    obtain⟨ps,nk,t7,S9⟩:=Sv.close mz N4 LW LX (B':=10*(i+1)+6) (by have:=BS LW LX;omega)
    have mu:=Sv.mu
    have UH:ua.length≤1000:=by
     rw[fB] at mu
     simp only [sr] at mu
     have hm:ua.length≤i6 (4 - (0+Y.length)) ua:=nh oa.ok
     have Fc:i<38:=by
      have:=(List.getElem?_eq_some_iff.mp lR).1
      omega
     omega
    refine⟨la,_,_,rfl,rfl,nk,by rw[List.length_map,t7];omega,⟨ST,pa,pz,xs,c,_,oN,_,_,_,_,_,rfl,S9⟩⟩
   refine E3 (fun R r=>⟨_,rfl,rfl,_,rfl,r⟩) (fun R r=>⟨_,rfl,ST,_,rfl, .inl (bF.of jT),rfl,_,rfl,r⟩) (fun _ g3=>?_) (cQ ?_)
   ·have UI:Z.length=1:=by
     rw[List.length_map,List.length_map] at g3
     have:(Z.length:Int)=1:=by simpa using g3
     omega
    obtain⟨⟨l,u⟩,rfl⟩:∃z,Z=[z]:=List.length_eq_one_iff.mp UI
    obtain⟨pu,N5,N6⟩:=S6.op.1.at_
    have Fd:=Paired.length N6
    refine⟨_,rfl,ST,_,_, .ref l,rfl,rfl,bF.of jT,rfl,(by show 0≤sizeLine;decide),fun z hz=>?_⟩
    have sz:=aD.new (o:= .lst []) hz
    have SX:=S6.same sz
    have Ii:=sz _ _ mZ
    have Gm:=sz _ _ N5
    have zP:(upd Hf z (.lst [])) z=some (.lst []):=ag
    generalize upd Hf z (.lst [])=Hx at sz SX Ii Gm zP ⊢
    refine⟨l,z,_,rfl,rfl,bF.of Gm,bF.of zP,_,rfl,dq (fun g4=>?_) fun g4=>?_⟩
    ·have Ij:u≠[]:=fun w=>by
      rw[w] at Fd
      have:pu=[]:=List.length_eq_zero_iff.mp Fd
      rw[this] at g4
      simp at g4
     obtain⟨ps,E6,nk⟩:=sv at_ cell
     have nM:=SX.pl
     refine⟨_,rfl, .inl ⟨rfl,_,bF.of nM⟩,_,rfl,(by show 1≤sizeLine;decide),fun q0 NS=>⟨_,rfl,_,_,rfl,rfl,(by show (0 :Int) <2;decide),_,rfl,q0,_,rfl,bF.of ag,fun g hg=>?_⟩⟩
     have sq:=aD.new (o:= .lst [V.ref at_]) NS
     have S7:=SX.same sq
     have zK:=sq _ _ Ii
     generalize upd Hx q0 (.lst [V.ref at_])=H7 at sq S7 zK hg ⊢
     rw[E6]
     refine⟨_,rfl,(by show 3≤sizeLine;decide),fun b hb=>?_⟩
     have gb:g≠b:=af ag hb
     have N7:H7 b=none:=by rwa [ah (Ne.symm gb)] at hb
     have LU:PL≠g:=af S7.pl hg
     have Ia:PL≠b:=af S7.pl N7
     have VT:pa.length≤1000:=by
      have:=Paired.length S7.cl
      have mu:=S7.mu
      have hm:∀ys:List d8,ys.length≤lJ ys:=by
       intro ys
       induction ys with
       |nil=>exact Nat.zero_le _
       |cons y r ih=>
        unfold lJ at ih ⊢
        rw[List.length_cons,List.map_cons,List.sum_cons]
        omega
      have:=hm xs
      have Fc:i<38:=by
       have:=(List.getElem?_eq_some_iff.mp lR).1
       omega
      omega
     refine⟨PL,_,_,rfl,rfl,by rw[ah Ia,ah LU];exact S7.pl,by rw[List.length_map,List.length_append];show _+1<sizeLine;omega,?_⟩
     have So:(upd (upd (upd H7 g (.lst (ps.map V.ref))) b (.tup [.str "piece", .ref g, .int cn])) PL (.lst ((pa++[pz]).map V.ref++[V.ref b]))) PL=some (.lst ((pa++[pz]).map V.ref++[V.ref b])):=ag
     have Sr:(upd (upd (upd H7 g (.lst (ps.map V.ref))) b (.tup [.str "piece", .ref g, .int cn])) PL (.lst ((pa++[pz]).map V.ref++[V.ref b]))) b=some (.tup [.str "piece", .ref g, .int cn]):=by rw[ah (Ne.symm Ia)];exact ag
     refine⟨_,rfl,1,rfl,PL,_,_, .ref b,rfl,rfl,bF.of So,gZ _ _,b,_,_, .ref g,rfl,rfl,iI.of Sr,rfl,(by show 1≤sizeLine;decide),fun qC Fe=>?_⟩
     have LV:PL≠qC:=af So Fe
     have N8:b≠qC:=af Sr Fe
     have h1:(upd H7 g (.lst (ps.map V.ref))) qC=none:=by rwa [ah (Ne.symm LV),ah (Ne.symm N8)] at Fe
     have N9:g≠qC:=af ag h1
     have h2:H7 qC=none:=by rwa [ah (Ne.symm N9)] at h1
     rcases nk with rfl|rfl
     ·exact⟨qC,_,_,_,_,_,oN,_,_,_,_,_,rfl,(S7.CV (us:=[]) Ij hg N7 h2 gb N9 N8 LW LX .nil (fun t ht=>by cases ht) (fun t ht=>by cases ht)).more (by show 10*i+6+(4+2+0)≤10*(i+1)+6;omega)⟩
     ·refine⟨qC,_,_,_,_,_,oN,_,_,_,_,_,rfl,(S7.CV (us:=[.one k n]) Ij hg N7 h2 gb N9 N8 LW LX (.cons (gF zK nW) .nil) (fun t ht=>?_) (fun t ht=>?_)).more ?_⟩
      ·rw[show t= .one k n by simpa using ht]
       exact gG hk n1 n2
      ·rw[show t= .one k n by simpa using ht]
       exact kJ.one kk
      ·have:=sk (d:=4) hk n1 n2
       show 10*i+6+(4+0+i6 4 [.one k n])≤10*(i+1)+6
       omega
    ·obtain⟨Y,l',us,UJ⟩:∃(Y:List (Addr×List Tr)) (l':Addr) (us:List Tr),[(l,u)]=Y++[(l',us)]:=⟨[],l,u,rfl⟩
     rw[UJ] at SX nW
     have E7:((Y++[(l',us)]).map (·.1)).map V.ref=(Y.map (·.1)).map V.ref++[V.ref l']:=by simp
     have Ik:=SX.st
     rw[E7] at Ik
     obtain⟨ps,nk,t7,S9⟩:=SX.app (t:= .one k n) (B':=10*(i+1)+6) (gF Ii nW) (gG hk n1 n2) (kJ.one kk) (by have:=lI (d:=4 - Y.length) hk n1 n2;omega)
     have UK:us.length≤1000:=by
      have mu:=SX.mu
      rw[fB] at mu
      simp only [sr] at mu
      have ol:=(Ops.app.mp SX.op).2.1
      have:us.length≤i6 (4 - (0+Y.length)) us:=nh ol.ok
      have Fc:i<38:=by
       have:=(List.getElem?_eq_some_iff.mp lR).1
       omega
      omega
     exact⟨_,rfl,1,rfl,ST,_,_, .ref l',rfl,rfl,bF.of Ik,gZ _ _, .inl ⟨rfl,_,bF.of nk⟩,_,rfl,l',_,_,rfl,rfl,nk,by rw[List.length_map,t7];omega,⟨ST,pa,pz,xs,c,_,oN,_,_,_,_,_,rfl,S9⟩⟩
   ·have SX:=S6
    have Ii:=mZ
    obtain⟨Y,⟨l,us⟩,rfl⟩:=nc l1
    have E7:((Y++[(l,us)]).map (·.1)).map V.ref=(Y.map (·.1)).map V.ref++[V.ref l]:=by simp
    have Ik:=SX.st
    rw[E7] at Ik
    obtain⟨ps,nk,t7,S9⟩:=SX.app (t:= .one k n) (B':=10*(i+1)+6) (gF Ii nW) (gG hk n1 n2) (kJ.one kk) (by have:=lI (d:=4 - Y.length) hk n1 n2;omega)
    have UK:us.length≤1000:=by
     have mu:=SX.mu
     rw[fB] at mu
     simp only [sr] at mu
     have ol:=(Ops.app.mp SX.op).2.1
     have:us.length≤i6 (4 - (0+Y.length)) us:=nh ol.ok
     have Fc:i<38:=by
      have:=(List.getElem?_eq_some_iff.mp lR).1
      omega
     omega
    exact⟨_,rfl,1,rfl,ST,_,_, .ref l,rfl,rfl,bF.of Ik,gZ _ _, .inl ⟨rfl,_,bF.of nk⟩,_,rfl,l,_,_,rfl,rfl,nk,by rw[List.length_map,t7];omega,⟨ST,pa,pz,xs,c,_,oN,_,_,_,_,_,rfl,S9⟩⟩
  ·rintro σ H5 ⟨ST,pa,pz,xs,c,Z,ks,v3,v4,v5,v6,v7,rfl,S5⟩
   rw[List.length_map] at S5
   have S5:iM 39 386 H H5 PL ST pa pz xs c Z ks:=by
    have:=S5.more (B':=386) (by omega)
    exact⟨this.pl,this.st,this.nd,this.l1,this.l5,this.cl,this.pz,this.c1,this.c0,this.h1,this.op,by have:=this.kn;omega,this.kh,this.mu,this.sm,this.nw⟩
   have Ss:lD [72]:=⟨72,[],rfl,by decide,by decide,by decide⟩
   have Su:(V.str "H" :V)=V.str ⟨[72].toArray⟩:=by rw[eH]
   refine⟨fun m σ H'=>∃(Z:List (Addr×List Tr)) (v7:Option V),σ=[some (.ref a),some (.ref PL),some (.ref ST),v3,v4,v5,v6,v7]∧Z.length=m∧iM 39 386 H H' PL ST pa pz xs c Z ks,⟨_,Z,v7,rfl,rfl,S5⟩,?_⟩
   clear S5 v7
   rintro m σ H6 ⟨Z,v7,rfl,lZ,S6⟩
   have jT:=S6.st
   refine⟨_,rfl,ST,_,rfl, .inl (bF.of jT),_,_,rfl,rfl,_,rfl,dq (fun g1=>?_) fun g1=>?_⟩
   ·have h2:2≤Z.length:=by
     rw[List.length_map,List.length_map] at g1
     have:(1 :Int) <Z.length:=by simpa using g1
     omega
    refine⟨fun σ' H'=>∃(Z':List (Addr×List Tr)) (v7:Option V),σ'=[some (.ref a),some (.ref PL),some (.ref ST),v3,v4,v5,v6,v7]∧Z'.length<m∧iM 39 386 H H' PL ST pa pz xs c Z' ks,(fun σ' H' ⟨Z',v7,e1,e2,e3⟩=>⟨_,e2,Z',v7,e1,rfl,e3⟩),?_⟩
    obtain⟨Y,⟨la,ua⟩,⟨lb,ub⟩,rfl⟩:=su h2
    have E7:((Y++[(la,ua),(lb,ub)]).map (·.1)).map V.ref=((Y.map (·.1)++[la]).map V.ref)++[V.ref lb]:=by simp
    rw[E7] at jT
    refine⟨_,rfl, .inl ⟨rfl,_,bF.of jT⟩,ST,_, .ref lb,rfl,rfl,jT,by simp,?_⟩
    rw[List.dropLast_concat]
    have eZ:Y++[(la,ua),(lb,ub)]=(Y++[(la,ua)])++[(lb,ub)]:=by simp
    have SZ:=S6
    rw[eZ] at SZ
    have ob:=(Ops.app.mp SZ.op).2.1
    obtain⟨pb,NT,NU⟩:=ob.at_
    have zL:=Paired.length NU
    have nd:=S6.nd
    have E8:lb≠ST:=fun z=>by
     rw[z] at nd
     simp at nd
    have Gh:la≠ST:=fun z=>by
     rw[z] at nd
     simp at nd
    dsimp only [fL]
    refine il (fun σ' H'=>σ'=[some (.ref a),some (.ref PL),some (.ref ST),v3,v4,v5,v6,some (.ref lb)]∧∃(Hv:Hp) (zM:List Tr),zM≠[]∧iM 39 386 H Hv PL ST pa pz xs c (Y++[(la,ua),(lb,zM)]) ks∧H'=upd Hv ST (.lst ((Y.map (·.1)++[la]).map V.ref))) (fun N hN=>?_) ?_
    ·refine⟨_,rfl,(by show 0≤sizeLine;decide),fun z hz=>?_⟩
     have E9:ST≠z:=af ag hz
     have NV:H6 z=none:=by rwa [ah (Ne.symm E9)] at hz
     have sz:=aD.new (o:= .lst []) NV
     have Sz:=S6.same sz
     have ez:upd (upd H6 ST (.lst ((Y.map (·.1)++[la]).map V.ref))) z (.lst [])=upd (upd H6 z (.lst [])) ST (.lst ((Y.map (·.1)++[la]).map V.ref)):=ie E9
     rw[ez]
     have zN:=sz _ _ NT
     have NW:z≠ST:=Ne.symm E9
     have zP:(upd (upd H6 z (.lst [])) ST (.lst ((Y.map (·.1)++[la]).map V.ref))) z=some (.lst []):=by rw[ah NW];exact ag
     generalize upd H6 z (.lst [])=Hz at sz Sz zN zP ⊢
     have xp:(upd Hz ST (.lst ((Y.map (·.1)++[la]).map V.ref))) lb=some (.lst (pb.map V.ref)):=by rw[ah E8];exact zN
     refine⟨lb,z,_,rfl,rfl,bF.of xp,bF.of zP,_,rfl,dq (fun g3=>?_) fun g3=>?_⟩
     ·have Ig:ub=[]:=by
       have:pb=[]:=by simpa using g3
       rw[this] at zL
       exact List.length_eq_zero_iff.mp zL.symm
      subst Ig
      have E':pb=[]:=List.length_eq_zero_iff.mp zL
      subst E'
      refine⟨_,rfl, .inl ⟨rfl,_,bF.of xp⟩,(by show 3≤sizeLine;decide),fun at_ mZ=>?_⟩
      have Sw:ST≠at_:=af ag mZ
      have zO:Hz at_=none:=by rwa [ah (Ne.symm Sw)] at mZ
      have st:=aD.new (o:= .tup [.str "atom", .str "H", .int 2]) zO
      have St:=Sz.same st
      have Gj:at_∉PL::ST::(Y++[(la,ua),(lb,([]:List Tr))]).map (·.1):=Sz.E4 zO
      rw[eZ] at St Gj
      have hA:(upd Hz at_ (.tup [.str "atom", .str "H", .int 2])) at_=some (.tup [.str "atom", .str ⟨[72].toArray⟩, .int 2]):=by rw[ag,Su]
      have ec:upd (upd Hz ST (.lst ((Y.map (·.1)++[la]).map V.ref))) at_ (.tup [.str "atom", .str "H", .int 2])=upd (upd Hz at_ (.tup [.str "atom", .str "H", .int 2])) ST (.lst ((Y.map (·.1)++[la]).map V.ref)):=ie Sw
      rw[ec]
      generalize upd Hz at_ (.tup [.str "atom", .str "H", .int 2])=Ht at st St hA ⊢
      obtain⟨ps,nk,t7,S8⟩:=St.app (t:= .one [72] 2) (B':=386) (gF hA Gj) (gG Ss (by decide) (by decide)) (kJ.one S6.kh) (by rw[ql];decide+kernel)
      have NY:ps=[]:=List.length_eq_zero_iff.mp t7
      subst NY
      have Oa:(upd Ht ST (.lst ((Y.map (·.1)++[la]).map V.ref))) lb=some (.lst []):=by rw[ah E8];exact nk
      refine⟨lb,_,_,rfl,rfl,Oa,(by show 0<sizeLine;decide),hN _ _ ⟨rfl,_,[.one [72] 2],by simp,?_,ie (Ne.symm E8)⟩⟩
      have:=S8
      rw[show (Y++[(la,ua)])++[(lb,[]++[Tr.one [72] 2])]=Y++[(la,ua),(lb,[Tr.one [72] 2])] by simp] at this
      exact this
     ·refine hN _ _ ⟨rfl,Hz,ub,fun z=>?_,Sz,rfl⟩
      rw[z] at zL
      have:pb=[]:=List.length_eq_zero_iff.mp zL
      rw[this] at g3
      simp at g3
    rintro σ' H' ⟨rfl,Hv,zM,mz,Sv,rfl⟩
    have zQ:(upd Hv ST (.lst ((Y.map (·.1)++[la]).map V.ref))) ST=some (.lst ((Y.map (·.1)).map V.ref++[V.ref la])):=by rw[ag,List.map_append];rfl
    have Gk:=Sv
    rw[show Y++[(la,ua),(lb,zM)]=Y++((la,ua)::[(lb,zM)]) from rfl] at Gk
    have oa:=(Ops.app.mp Gk.op).2.1
    have UL:=(Ops.app.mp Gk.op).2.2.1
    obtain⟨NZ,N0,N2⟩:=oa.at_
    obtain⟨Il,Ob,UM⟩:=UL.at_
    have Fb:(upd Hv ST (.lst ((Y.map (·.1)++[la]).map V.ref))) la=some (.lst (NZ.map V.ref)):=by rw[ah Gh];exact N0
    have Oc:(upd Hv ST (.lst ((Y.map (·.1)++[la]).map V.ref))) lb=some (.lst (Il.map V.ref)):=by rw[ah E8];exact Ob
    have m0:0≤((Il.map V.ref).length:Int) %3:=Int.emod_nonneg _ (by decide)
    have m1:((Il.map V.ref).length:Int) %3<3:=Int.emod_lt_of_pos _ (by decide)
    refine⟨_,rfl,1,rfl,ST,_,_, .ref la,rfl,rfl,bF.of zQ,gZ _ _, .inl ⟨rfl,_,bF.of Fb⟩,_,rfl,_,rfl,lb,_,rfl, .inl (bF.of Oc),_,_,rfl,rfl,(by show (0 :Int) <3;decide),_,_,rfl,rfl,(by show 3≤sizeLine;decide),fun gt Ih=>?_⟩
    have N3:ST≠gt:=af zQ Ih
    have N4:Hv gt=none:=by rwa [ah (Ne.symm N3)] at Ih
    obtain⟨ps,nk,t7,S9⟩:=Sv.close (n:=1+((Il.map V.ref).length:Int) %3) mz N4 (by omega) (by omega) (B':=386) (by have:=BV (n:=1+((Il.map V.ref).length:Int) %3) (by omega) (by omega);omega)
    have mu:=Sv.mu
    have UH:ua.length≤1000:=by
     rw[fB] at mu
     simp only [sr] at mu
     have:ua.length≤i6 (4 - (0+Y.length)) ua:=nh oa.ok
     omega
    refine⟨la,_,_,rfl,rfl,nk,by rw[List.length_map,t7];omega,⟨_,_,rfl,?_,S9⟩⟩
    rw[←lZ]
    simp
   ·have h1:Z.length=1:=by
     rw[List.length_map,List.length_map] at g1
     have:¬(1 :Int) <Z.length:=by simpa using g1
     have:=S6.l1
     omega
    obtain⟨⟨l,u⟩,rfl⟩:∃z,Z=[z]:=List.length_eq_one_iff.mp h1
    obtain⟨pu,N5,N6⟩:=S6.op.1.at_
    have Fd:=Paired.length N6
    have fin:∀(Hx:Hp) (u:List Tr),u≠[]→iM 39 386 H Hx PL ST pa pz xs c [(l,u)] ks→Q (.ref PL) Hx:=by
     intro Hx u Ij SX
     obtain⟨z,z1,z2,z3⟩:=SX.pz
     have e:z=(l,u):=by simpa using z1.symm
     subst e
     have toLP:∀p x,E2 ks [PL,ST,l] Hx p x→LP 4 Hx p x:=fun p x ⟨l',h1,_,_,O,_⟩=>by
      obtain⟨qs,q1,q2⟩:=O.at_
      exact⟨l',qs,h1,q1,aR (fun _ _ z=>z.nil) q2⟩
     obtain⟨qs,q1,q2⟩:=SX.op.1.at_
     have Lz:∀x∈xs,sJ 4 x∧∀t∈x.2,kJ ks 4 t:=fun x hx=>by
      have:∀{as:List Addr} {bs:List d8},Paired (E2 ks [PL,ST,l] Hx) as bs→∀x∈bs,sJ 4 x∧∀t∈x.2,kJ ks 4 t:=by
       intro as bs h
       induction h with
       |nil=>intro x hx;cases hx
       |cons h _ ih=>
        intro x hx
        rcases List.mem_cons.mp hx with rfl|hx
        ·obtain⟨_,_,_,_,O,a1,a2,a3⟩:=h
         exact⟨⟨a1,O.ok,a2,a3⟩,O.kd⟩
        ·exact ih x hx
      exact this SX.cl x hx
     have qU:∀x∈xs++[(c,u)],sJ 4 x∧∀t∈x.2,kJ ks 4 t:=fun x hx=>by
      rcases List.mem_append.mp hx with hx|hx
      ·exact Lz x hx
      ·have e:x=(c,u):=by simpa using hx
       rw[e]
       exact⟨⟨Ij,SX.op.1.ok,SX.c1.1,SX.c1.2⟩,SX.op.1.kd⟩
     have Im:lJ (xs++[(c,u)])≤386:=by
      have h1:=SX.mu
      have NQ:em u=0:=by
       cases u with
       |nil=>exact absurd rfl Ij
       |cons _ _=>rfl
      have h1:lJ xs+(4+em u+i6 4 u+0)≤386:=h1
      have e1:lJ (xs++[(c,u)])=lJ xs+(4+i6 4 u):=by
       unfold lJ
       rw[List.map_append,List.sum_append]
       simp
      omega
     have Ff:∀ys:List d8,(∀y∈ys,sJ 4 y)→(bU 4 ys).length≤lJ ys:=by
      intro ys
      induction ys with
      |nil=>intro _;exact Nat.zero_le _
      |cons y r ih=>
       intro hy
       have h1:=ih fun z hz=>hy z (List.mem_cons_of_mem _ hz)
       obtain⟨_,ho,b1,b2⟩:=hy y (List.mem_cons_self ..)
       have h2:=m9 4 y.2
       have h3:=BS b1 b2
       have e1:lJ (y::r)=4+i6 4 y.2+lJ r:=by unfold lJ;rw[List.map_cons,List.sum_cons]
       have e2:(bU 4 (y::r)).length=1+((bA y.1).length+(y.2.flatMap (cJ 4)).length)+(bU 4 r).length:=by
        unfold bU dY
        rw[List.flatMap_cons,List.length_append,List.length_cons,List.length_append]
        omega
       rw[e1,e2]
       omega
     refine q PL (xs++[(c,u)]) ks Hx SX.sm ⟨pa++[pz],SX.pl,dn (p:=LP 4 Hx) ⟨l,qs,z2,q1,aR (fun _ _ z=>z.nil) q2⟩ (aR toLP SX.cl)⟩ (by simp) (fun n n1 n2=>?_) Im SX.kn fun x hx=>(qU x hx).2
     have hc:=qg n1 n2
     have hd:=Ff (xs++[(c,u)]) fun y hy=>(qU y hy).1
     have h0:∀x,(xs++[(c,u)])[0]? =some x→x.1=1:=fun x hx=>by
      cases xs with
      |nil=>
       have e:x=(c,u):=by simpa using hx.symm
       rw[e]
       exact SX.c0 rfl
      |cons y r=>exact SX.h1 x hx
     have yr:xs++[(c,u)]≠[]:=by simp
     generalize xs++[(c,u)]=ys at qU Im hd h0 yr
     cases ys with
     |nil=>exact absurd rfl yr
     |cons y r=>
      refine⟨⟨h0 y rfl,fun z hz=>(qU z hz).1,n1,n2⟩,?_⟩
      have e2:(bU 4 (y::r)).length=1+((bA y.1).length+(y.2.flatMap (cJ 4)).length)+(bU 4 r).length:=by
       unfold bU dY
       rw[List.flatMap_cons,List.length_append,List.length_cons,List.length_append]
       omega
      show (y.2.flatMap (cJ 4)++(bU 4 r++mE n)).length≤400
      rw[List.length_append,List.length_append]
      omega
    refine⟨_,rfl,ST,_,_, .ref l,rfl,rfl,bF.of jT,rfl,(by show 0≤sizeLine;decide),fun z hz=>?_⟩
    have sz:=aD.new (o:= .lst []) hz
    have SX:=S6.same sz
    have Gm:=sz _ _ N5
    have Io:=sz _ _ jT
    have zP:(upd H6 z (.lst [])) z=some (.lst []):=ag
    generalize upd H6 z (.lst [])=Hx at sz SX Gm Io zP ⊢
    refine⟨l,z,_,rfl,rfl,bF.of Gm,bF.of zP,_,rfl,dq (fun g4=>?_) fun g4=>?_⟩
    ·have Ig:u=[]:=by
      have:pu=[]:=by simpa using g4
      rw[this] at Fd
      exact List.length_eq_zero_iff.mp Fd.symm
     subst Ig
     refine⟨_,rfl,ST,_,_, .ref l,rfl,rfl,bF.of Io,rfl, .inl ⟨rfl,_,bF.of Gm⟩,(by show 3≤sizeLine;decide),fun at_ mZ=>?_⟩
     have st:=aD.new (o:= .tup [.str "atom", .str "H", .int 2]) mZ
     have St:=SX.same st
     have Gj:at_∉PL::ST::(([]:List (Addr×List Tr))++[(l,([]:List Tr))]).map (·.1):=SX.E4 mZ
     have hA:(upd Hx at_ (.tup [.str "atom", .str "H", .int 2])) at_=some (.tup [.str "atom", .str ⟨[72].toArray⟩, .int 2]):=by rw[ag,Su]
     generalize upd Hx at_ (.tup [.str "atom", .str "H", .int 2])=Ht at st St hA ⊢
     obtain⟨ps,nk,t7,S8⟩:=iM.app (Y:=[]) (t:= .one [72] 2) (B':=386) St (gF hA Gj) (gG Ss (by decide) (by decide)) (kJ.one S6.kh) (by rw[ql];decide+kernel)
     exact⟨l,_,_,rfl,rfl,nk,by rw[List.length_map,t7];show 0<sizeLine;omega,⟨_,rfl,fin _ _ (by simp) S8⟩⟩
    ·refine⟨_,rfl,fin Hx u (fun w=>?_) SX⟩
     rw[w] at Fd
     have:pu=[]:=List.length_eq_zero_iff.mp Fd
     rw[this] at g4
     simp at g4
def sA:Sp:=fun vs H Q _=>∃n:Int,vs=[.int n]∧∀c, -999≤c→c≤999→Q (.int c) H
theorem zR:az ["_law_cell"] ["_law_cell"] (ao ll):=dM
theorem xq(D:Def K mg "_law_charge" "_law_charge" ll ["_law_cell"]):a4 P w K mg base 1 "_law_charge" ["_law_cell"] sA:=by
 refine D.eB zR (fun vs H Q E h=>?_) (fun f ba A outer s H vs Q E hr h=>?_)
 ·obtain⟨n,rfl,_⟩:=h
  rfl
 ·obtain⟨n,rfl,q⟩:=h
  refine⟨_,(ai
     (aY (au aW (aw a7 (pv 0) aj) aj (aA _))
      (aq
       (ay aj))
      aK)
    (aq
     (ay (aw jU (aw a7 (aw bC (pv 0) aj) aj) aj)))),?_⟩
  refine⟨_,rfl,_,_,rfl,rfl,(by show (0 :Int) <3;decide),rfl,_,rfl,dq (fun _=>?_) fun _=>?_⟩
  ·exact q 0 (by decide) (by decide)
  ·have e0:0≤n/3%1999:=Int.emod_nonneg _ (by decide)
   have e1:n/3%1999<1999:=Int.emod_lt_of_pos _ (by decide)
   exact⟨_,rfl,_,_,rfl,rfl,⟨by decide,by decide⟩,_,_,rfl,rfl,(by show (0 :Int) <1999;decide),_,_,rfl,rfl,q _ (by omega) (by omega)⟩
variable {uC uP uI uD uL uT:Tok}
theorem Fg{x:Str}{i:Nat}(h:i<x.length):∃c,x.cps.toList[i]? =some c∧x.cps.toList.drop i=c::x.cps.toList.drop (i+1):=by
 have hl:x.cps.toList.length=x.length:=by simp [Str.length]
 have hi:i<x.cps.toList.length:=by omega
 exact⟨_,List.getElem?_eq_getElem hi,List.drop_eq_getElem_cons hi⟩
theorem Fh{x:Str}(ha:x.cps.all (· <128)=true){i c:Nat}(h:x.cps.toList[i]? =some c):c<128:=by
 have:=Array.all_eq_true.mp ha
 rw[Array.getElem?_toList] at h
 obtain⟨hi,e⟩:=Array.getElem?_eq_some_iff.mp h
 have:=this i hi
 rw[e] at this
 simpa using this
theorem gH:az ["_law_text_here","_law_state","_law_deep","_law_k","_law_found"] ["_law_text_here"] (ao pT):=dM
theorem zS(D:Def K mg "_law_place" "_law_place" pT ["_law_text_here"])(T:fF K mg C)(c1:a4 P w K mg base 2 "_law_next" ["_law_state","_law_deep","_law_sign_here"] (kr iL)):a4 P w K mg base 3 "_law_place" ["_law_text_here"] vz:=by
 obtain⟨_,_,jH⟩:=c1
 refine D.eB gH (fun vs H Q E h=>?_) (fun f ba A outer s H vs Q E hr h=>?_)
 ·obtain⟨x,rfl,_⟩:=h
  rfl
 ·obtain⟨x,rfl,ha,hx,q⟩:=h
  have big:(2000 :Nat)≤sizeLine:=by decide
  have hl:x.cps.toList.length=x.length:=by simp [Str.length]
  have vi:∀{i j:Int},¬i=j→¬V.int i=V.int j:=fun h z=>h (by injection z)
  refine⟨_,(ai
     (aL (i:=1) gH.nd rfl (Or.inl rfl) (bO (aa ax (aa aj (aa aj (aa gO ak))))))
    (ai
     (aL (i:=2) gH.nd rfl (Or.inl rfl) aj)
    (ai
     (eA PassesOwn.never rfl (fM rfl T.jv (aa (a9 bP rfl T.er cH (aa (pv 0) ak)) ak)) (aX (i:=3) gH.nd rfl (Or.inl rfl))
      (ai
       (aL (i:=4) gH.nd rfl (Or.inl rfl) (aJ jH.ok (hr.mono (by decide)) rfl jH.g jH.kp jH.b .nil aM (aa (pv 1) (aa (pv 2) (aa (bw jX (pv 0) (pv 3) (fun _ _=>rfl)) ak)))))
      (ai
       (aY (DA (Dz (pv 4)))
        (aq
         (ay (pv 3)))
        aK)
      (aq
       (o5 (pv 4) (oZ rfl (b4 (aX (i:=1) gH.nd rfl (Or.inl rfl)) (b4 (aX (i:=2) gH.nd rfl (Or.inl rfl)) kS))))))))
    (ai
     (aY (PW.pt (fK (au aW (bw ck (pv 1) aj (fun _ _=>rfl)) ax (aA _)) (eX (PW.pt (bX (au aW (bw ck (pv 1) aj (fun _ _=>rfl)) ax (aA _)) (bX (au aW (pv 2) aj (aA _)) (bZ (jS (dw (bw ck (pv 1) aj (fun _ _=>rfl)))))))))))
      (aq
       (ay (kz gY aj)))
      aK)
    (aq
     (ay (a9 bP rfl T.er cH (aa (pv 0) ak)))))))),?_⟩
  refine⟨(by show 4≤sizeLine;decide),fun t0 NR=>?_⟩
  refine⟨_,rfl,x,rfl,by omega,_,rfl,by omega,by omega,fN (fun i σ H'=>∃(s:S8) (dp:Nat) (t:Addr) (v3 v4:Option V),σ=[some (.str x),some (.ref t),some (.int (dp:Int)),v3,v4]∧zi H' t s∧aD H H'∧i≤x.length∧vd vx 0 x.cps.toList=vd s dp (x.cps.toList.drop i)) ⟨vx,0,t0,none,none,rfl,ag,aD.new NR,Nat.zero_le _,rfl⟩ ?_ ?_⟩
  ·rintro i σ H1 hi ⟨s,dp,t,v3,v4,rfl,hS,e1,_,hv⟩
   have hi:i<x.length:=by omega
   obtain⟨c,hc,hd⟩:=Fg hi
   refine⟨_,rfl,_,rfl,_,rfl,_,rfl,x,_,c,rfl,rfl,by omega,?_,t,s,dp,c,rfl,hS,Fh ha hc,fun e H2 k2=>?_,fun s' d' e b t2 H2 UN LC k2=>?_⟩
   ·rw[show ((0 :Int)+(i:Int))=((i:Nat):Int) by omega]
    exact pe hc
   ·refine⟨_,rfl,_,rfl,bY rfl ⟨_,rfl,?_⟩⟩
    have:=q H2 (e1.trans k2)
    rw[hd,iR e,←hd] at hv
    have ep:sM x.cps.toList=(0 :Int)+(i:Int):=by
     unfold sM
     rw[hv]
     show (x.cps.toList.length:Int) - ((x.cps.toList.drop i).length:Int)=0+(i:Int)
     rw[List.length_drop]
     omega
    rw[ep] at this
    exact this
   ·refine⟨_,rfl,_,rfl,bT (by intro z;cases z) ⟨_,rfl,b,_,rfl,iI.of LC,rfl,_,_,rfl,_,_,rfl,rfl,?_⟩⟩
    exact⟨s',d',t2,_,_,rfl,UN,e1.trans k2,by omega,by rw[hv,hd,dR e]⟩
  ·rintro σ H1 ⟨s,dp,t,v3,v4,rfl,hS,e1,_,hv⟩
   have hn:x.cps.toList.drop x.length=[]:=List.drop_eq_nil_of_le (by omega)
   have hv:vd vx 0 x.cps.toList=vd s dp []:=by rw[hv,←hn];rfl
   have fin:=q H1 e1
   have yes:rV s dp→sM x.cps.toList= -1:=fun h=>by unfold sM;rw[hv,vd,if_pos h]
   have no:¬rV s dp→sM x.cps.toList=(x.length:Int):=fun h=>by
    unfold sM
    rw[hv,mT h]
    show (x.cps.toList.length:Int) - (([]:List Nat).length:Int)=_
    rw[hl]
    exact Int.sub_zero _
   have Ip:rV s dp→Q (.int (-1)) H1:=fun h=>by rw[yes h] at fin;exact fin
   have Fi:¬rV s dp→Q (.int (x.length:Int)) H1:=fun h=>by rw[no h] at fin;exact fin
   by_cases h1:s.nm= .stop
   ·exact⟨_,rfl,t,_,_,_,rfl,rfl,iI.of hS,rfl,rfl,_,rfl,bY (bN (b:= .stop) |>.mpr h1) (cA ⟨1,rfl,Ip (.inl h1)⟩)⟩
   refine⟨_,rfl,t,_,_,_,rfl,rfl,iI.of hS,rfl,rfl,_,rfl,bT (fun z=>h1 (bN (b:= .stop) |>.mp z)) ?_⟩
   by_cases h2:s.nm= .part
   ·refine⟨_,rfl,t,_,_,_,rfl,rfl,iI.of hS,rfl,rfl,_,rfl,bY (bN (b:= .part) |>.mpr h2) ?_⟩
    by_cases h3:dp=0
    ·refine⟨_,rfl,rfl,_,rfl,bY (by rw[h3];rfl) ?_⟩
     refine⟨_,rfl,t,_,_,_,rfl,rfl,iI.of hS,rfl,_,rfl,?_⟩
     cases h4:s.al with
     |false=>exact cA ⟨1,rfl,Ip (.inr ⟨h2,h3,h4⟩)⟩
     |true=>exact cQ ⟨_,rfl,x,rfl,by omega,Fi (by rintro (z| ⟨_,_,z⟩);exact h1 z;rw[h4] at z;cases z)⟩
    ·exact⟨_,rfl,rfl,_,rfl,bT (vi (by omega)) ⟨_,rfl,x,rfl,by omega,Fi (by rintro (z| ⟨_,z,_⟩);exact h1 z;exact h3 z)⟩⟩
   ·exact⟨_,rfl,t,_,_,_,rfl,rfl,iI.of hS,rfl,rfl,_,rfl,bT (fun z=>h2 (bN (b:= .part) |>.mp z)) ⟨_,rfl,x,rfl,by omega,Fi (by rintro (z| ⟨z,_⟩);exact h1 z;exact h2 z)⟩⟩
variable {uC uP uI uD uL uT:Tok}
def cX(l:List Nat):Prop:=∀c∈l,c<128
theorem cX.app{a b:List Nat}(ha:cX a)(hb:cX b):cX (a++b):=fun c hc=>(List.mem_append.mp hc).elim (ha c) (hb c)
theorem cX.take{a:List Nat}(h:cX a)(n:Nat):cX (a.take n):=fun c hc=>h c (List.mem_of_mem_take hc)
theorem cX.drop{a:List Nat}(h:cX a)(n:Nat):cX (a.drop n):=fun c hc=>h c (List.mem_of_mem_drop hc)
theorem cX.str{x:Str}(h:cX x.cps.toList):x.cps.all (· <128)=true:=by
 rw[Array.all_eq_true]
 intro i hi
 have:=h x.cps[i] (by rw[Array.mem_toList_iff];exact Array.getElem_mem hi)
 simpa using this
theorem lL{n:Int}(h1:1≤n)(h2:n≤999):cX (bA n):=fun c hc=>by
 obtain⟨m,rfl,m1,m0⟩:=yU h1 (by omega)
 have:=List.all_eq_true.mp (lz m) c hc
 simp only [jN,Bool.and_eq_true,decide_eq_true_eq] at this
 omega
theorem BX{k:List Nat}(h:lD k):cX k:=by
 obtain⟨c,r,rfl,hg,hs,_⟩:=h
 intro b hb
 rcases List.mem_cons.mp hb with rfl|hb
 ·simp only [iQ,Bool.and_eq_true,decide_eq_true_eq] at hg
  omega
 ·have:=List.all_eq_true.mp hs b hb
  simp only [j6,Bool.and_eq_true,decide_eq_true_eq] at this
  omega
theorem vG:∀(d:Nat) (t:Tr),kD d t→cX (cJ d t)
 |d, .one k n,h=>by
  have h:lD k∧1≤n∧n≤999:=by cases d<;>exact h
  have e:cJ d (.one k n)=k++bA n:=by cases d<;>rfl
  rw[e]
  exact(BX h.1).app (lL h.2.1 h.2.2)
 |0, .gr _ _,h=>h.elim
 |d+1, .gr ts n,⟨_,h,n1,n2⟩=>by
  intro c hc
  rcases List.mem_cons.mp (show c∈40::(ts.flatMap (cJ d)++41::bA n) from hc) with rfl|hc
  ·decide
  ·rcases List.mem_append.mp hc with hc|hc
   ·obtain⟨t,ht,hc⟩:=List.mem_flatMap.mp hc
    exact vG d t (h t ht) c hc
   ·rcases List.mem_cons.mp hc with rfl|hc
    ·decide
    ·exact lL n1 n2 c hc
theorem zT{d:Nat}{ts:List Tr}(h:∀t∈ts,kD d t):cX (ts.flatMap (cJ d)):=fun c hc=>by
 obtain⟨t,ht,hc⟩:=List.mem_flatMap.mp hc
 exact vG d t (h t ht) c hc
theorem Fj{xs:List d8}{n:Int}(h:yX 4 xs n):cX (wL 4 xs n):=by
 cases xs with
 |nil=>
  have:∀c∈[101,94,45],c<128:=by decide
  exact this
 |cons x r=>
  obtain⟨_,ho,n1,n2⟩:=h
  refine(zT (ho x (List.mem_cons_self ..)).2.1).app (cX.app (fun c hc=>?_) fun c hc=>?_)
  ·obtain⟨y,hy,hc⟩:=List.mem_flatMap.mp hc
   obtain⟨_,o1,o2,o3⟩:=ho y (List.mem_cons_of_mem _ hy)
   rcases List.mem_cons.mp hc with rfl|hc
   ·decide
   ·exact((lL o2 o3).app (zT o1)) c hc
  ·unfold mE at hc
   by_cases h0:n=0
   ·rw[if_pos h0] at hc;cases hc
   ·rw[if_neg h0] at hc
    rcases List.mem_cons.mp hc with rfl|hc
    ·decide
    ·rcases List.mem_append.mp hc with hc|hc
     ·exact lL (by split<;>omega) (by split<;>omega) c hc
     ·have:c=if 0<n then 43 else 45:=by simpa using hc
      rw[this]
      split<;>decide
theorem Fl{xs:List d8}{n:Int}(h:yX 4 xs n)(Im:lJ xs≤386):(wL 4 xs n).length≤391:=by
 have Ff:∀ys:List d8,(∀y∈ys,sJ 4 y)→(bU 4 ys).length≤lJ ys:=by
  intro ys
  induction ys with
  |nil=>intro _;exact Nat.zero_le _
  |cons y r ih=>
   intro hy
   have h1:=ih fun z hz=>hy z (List.mem_cons_of_mem _ hz)
   obtain⟨_,ho,b1,b2⟩:=hy y (List.mem_cons_self ..)
   have h2:=m9 4 y.2
   have h3:=BS b1 b2
   have e1:lJ (y::r)=4+i6 4 y.2+lJ r:=by unfold lJ;rw[List.map_cons,List.sum_cons]
   have e2:(bU 4 (y::r)).length=1+((bA y.1).length+(y.2.flatMap (cJ 4)).length)+(bU 4 r).length:=by
    unfold bU dY
    rw[List.flatMap_cons,List.length_append,List.length_cons,List.length_append]
    omega
   rw[e1,e2]
   omega
 cases xs with
 |nil=>exact(by decide:3≤391)
 |cons y r=>
  obtain⟨_,ho,n1,n2⟩:=h
  have hd:=Ff (y::r) ho
  have hc:=qg n1 n2
  have e2:(bU 4 (y::r)).length=1+((bA y.1).length+(y.2.flatMap (cJ 4)).length)+(bU 4 r).length:=by
   unfold bU dY
   rw[List.flatMap_cons,List.length_append,List.length_cons,List.length_append]
   omega
  rw[show wL 4 (y::r) n=y.2.flatMap (cJ 4)++(bU 4 r++mE n) from rfl,List.length_append,List.length_append]
  omega
theorem zU(x:Str){a:Nat}(ha:a≤x.length):(Txt.slice x none (some (a:Int))).cps.toList=x.cps.toList.take a:=by
 have:=fY x (a:=0) (b:=a) (Nat.zero_le _) (Nat.zero_le _)
 rw[List.drop_zero,Nat.sub_zero] at this
 rw[←this]
 have e:∀n,Builtin.Str.strSliceIndices none (some (a:Int)) 1 n=Builtin.Str.strSliceIndices (some ((0 :Nat):Int)) (some (a:Int)) 1 n:=fun n=>by
  simp only [Builtin.Str.strSliceIndices,show ((1 :Int) >0)=True from by simp,if_true]
  congr 1
 unfold Txt.slice
 rw[e]
theorem sC(x:Str){a:Nat}(ha:a≤x.length):(Txt.slice x (some (a:Int)) none).cps.toList=x.cps.toList.drop a:=by
 have hl:x.cps.toList.length=x.length:=by simp [Str.length]
 have:=fY x (a:=a) (b:=x.length) ha ha
 rw[List.take_of_length_le (by rw[List.length_drop];omega)] at this
 rw[←this]
 have e:Builtin.Str.strSliceIndices (some (a:Int)) none 1 x.length=Builtin.Str.strSliceIndices (some (a:Int)) (some ((x.length:Nat):Int)) 1 x.length:=by
  simp only [Builtin.Str.strSliceIndices,show ((1 :Int) >0)=True from by simp,if_true]
  congr 1
  have:¬((x.length:Nat):Int) <0:=by omega
  rw[if_neg this]
  omega
 unfold Txt.slice
 rw[e]
def qm:Sp:=fun vs H Q _=>∃(n:Int) (b:Bool),vs=[.int n, .bl b]∧∀c H',c<128→aD H H'→Q (.str ⟨#[c]⟩) H'
theorem qo:az ["_law_number","_law_wide","_law_some"] ["_law_number","_law_wide"] (ao pQ):=dM
def Gn:Str:=" !\"#$&'()*+,-./0123456789:;<=>?@ABCDEFGHIJKLMNOPQRSTUVWXYZ[\\]^_`"
def Gp:Str:="abcdefghijklmnopqrstuvwxyz{|}~"
def LY:Str:="HCHoeHC(()))01239..^+-"
theorem zV:(Gn++Gp).cps.toList.length=94:=by decide+kernel
theorem zW:(Gn++Gp).cps.toList.all (fun c=>decide (c<128))=true:=by decide+kernel
theorem BY:LY.cps.toList.length=22:=by decide+kernel
theorem BZ:LY.cps.toList.all (fun c=>decide (c<128))=true:=by decide+kernel
theorem zX(D:Def K mg "_law_sign" "_law_sign" pQ ["_law_number","_law_wide"])(T:fF K mg C):a4 P w K mg base 1 "_law_sign" ["_law_number","_law_wide"] qm:=by
 refine D.eB qo (fun vs H Q E h=>?_) (fun f ba A outer s H vs Q E hr h=>?_)
 ·obtain⟨n,b,rfl,_⟩:=h
  rfl
 ·obtain⟨n,b,rfl,q⟩:=h
  have big:(2000 :Nat)≤sizeLine:=by decide
  refine⟨_,(ai
     (aY (PW.pt (fK (dw (pv 1)) (eX (au aW (aw a7 (pv 0) aj) aj (aA _)))))
      (ai
       (aL (i:=2) qo.nd rfl (Or.inl rfl) ax)
      (ai
       (aL (i:=2) qo.nd rfl (Or.inl rfl) (aw aF (pv 2) ax))
      (aq
       (ay (bw jX (pv 2) (aw a7 (aw bC (pv 0) aj) aj) (fun _ _=>rfl))))))
      aK)
    (aq
     (ay (bw jX ax (aw a7 (aw bC (pv 0) aj) aj) (fun _ _=>rfl))))),?_⟩
  have a0:0≤n/8%94:=Int.emod_nonneg _ (by decide)
  have a1:n/8%94<94:=Int.emod_lt_of_pos _ (by decide)
  have b0:0≤n/8%22:=Int.emod_nonneg _ (by decide)
  have b1:n/8%22<22:=Int.emod_lt_of_pos _ (by decide)
  obtain⟨c,hc,mZ⟩:=iX (xs:=(Gn++Gp).cps.toList) a0 (by rw[zV];exact a1)
  obtain⟨c2,NK,EV⟩:=iX (xs:=LY.cps.toList) b0 (by rw[BY];exact b1)
  have k1:c<128:=by simpa using List.all_eq_true.mp zW c hc
  have k2:c2<128:=by simpa using List.all_eq_true.mp BZ c2 NK
  have vH:(Gn++Gp).length≤sizeLine:=by decide+kernel
  refine il (fun σ' H'=>σ'=[some (.int n),some (.bl b),none]∧H'=H) (fun N hN=>?_) ?_
  ·cases b with
   |true=>
    refine⟨_,rfl,_,rfl,cA ?_⟩
    refine⟨_,rfl,_,_,rfl,rfl,by rw[←bb];exact vH,?_⟩
    exact⟨_,rfl,_,rfl,_,_,rfl,rfl,⟨by decide,by decide⟩,_,_,rfl,rfl,(by show (0 :Int) <94;decide),Gn++Gp,_,c,rfl,rfl,vH,mZ,q c H k1 (aD.refl H)⟩
   |false=>
    refine⟨_,rfl,_,rfl,cQ ⟨_,rfl,_,_,rfl,rfl,(by show (0 :Int) <8;decide),rfl,_,rfl,dq (fun _=>?_) fun _=>hN _ _ ⟨rfl,rfl⟩⟩⟩
    refine⟨_,rfl,_,_,rfl,rfl,by rw[←bb];exact vH,?_⟩
    exact⟨_,rfl,_,rfl,_,_,rfl,rfl,⟨by decide,by decide⟩,_,_,rfl,rfl,(by show (0 :Int) <94;decide),Gn++Gp,_,c,rfl,rfl,vH,mZ,q c H k1 (aD.refl H)⟩
  ·rintro σ H1 ⟨rfl,rfl⟩
   exact⟨_,rfl,_,_,rfl,rfl,⟨by decide,by decide⟩,_,_,rfl,rfl,(by show (0 :Int) <22;decide),LY,_,c2,rfl,rfl,(by decide+kernel),EV,q c2 H1 k2 (aD.refl H1)⟩
variable {uC uP uI uD uL uT:Tok}
theorem sD(l:List Nat){a:Nat}(h:a≤l.length):Txt.slice ⟨l.toArray⟩ none (some (a:Int))=⟨(l.take a).toArray⟩:=eP (by rw[zU _ (by rw[aB];exact h)])
theorem vI(l:List Nat){a:Nat}(h:a≤l.length):Txt.slice ⟨l.toArray⟩ (some (a:Int)) none=⟨(l.drop a).toArray⟩:=eP (by rw[sC _ (by rw[aB];exact h)])
theorem Fm(l:List Nat){a b:Nat}(Hj:a≤b)(h:a≤l.length):Txt.slice ⟨l.toArray⟩ (some (a:Int)) (some (b:Int))=⟨((l.drop a).take (b - a)).toArray⟩:=eP (by rw[fY _ Hj (by rw[aB];exact h)])
theorem zY(l:List Nat){a:Nat}(h:a≤l.length):Txt.slice ⟨l.toArray⟩ (some ((a:Int)+1)) none=⟨(l.drop (a+1)).toArray⟩:=by
 by_cases hl:a+1≤l.length
 ·rw[show ((a:Int)+1)=((a+1 :Nat):Int) by omega]
  exact vI l hl
 ·have ea:a=l.length:=by omega
  apply eP
  have hl:(⟨l.toArray⟩:Str).length=l.length:=aB l
  have e:Builtin.Str.strSliceIndices (some ((a:Int)+1)) none 1 (⟨l.toArray⟩:Str).length=Builtin.Str.strSliceIndices (some ((l.length:Nat):Int)) none 1 (⟨l.toArray⟩:Str).length:=by
   rw[hl]
   simp only [Builtin.Str.strSliceIndices,show ((1 :Int) >0)=True from by simp,if_true]
   congr 1
   have h1:¬((a:Int)+1) <0:=by omega
   have h2:¬((l.length:Nat):Int) <0:=by omega
   rw[if_neg h1,if_neg h2]
   omega
  have h2:=sC (⟨l.toArray⟩:Str) (a:=l.length) (by rw[hl];exact Nat.le_refl _)
  have h3:Txt.slice ⟨l.toArray⟩ (some ((a:Int)+1)) none=Txt.slice ⟨l.toArray⟩ (some ((l.length:Nat):Int)) none:=by
   unfold Txt.slice
   rw[e]
  rw[h3,h2]
  show l.drop l.length=l.drop (a+1)
  rw[List.drop_eq_nil_of_le (Nat.le_refl _),List.drop_eq_nil_of_le (by omega)]
def sE:Sp:=fun vs H Q _=>∃(l:List Nat) (n:Int),vs=[.str ⟨l.toArray⟩, .int n]∧cX l∧l.length≤1000∧∀l' H',cX l'→l'.length≤l.length+1→aD H H'→Q (.str ⟨l'.toArray⟩) H'
theorem jI:az ["_law_text_here","_law_cell","_law_at","_law_sign_here","_law_way"] ["_law_text_here","_law_cell"] (ao lq):=dM
theorem xr(D:Def K mg "_law_spoilt" "_law_spoilt" lq ["_law_text_here","_law_cell"])(T:fF K mg C)(c1:a4 P w K mg base 1 "_law_sign" ["_law_number","_law_wide"] qm)(c2:a4 P w K mg base 1 "_law_mixed" ["_law_cell","_law_prime"] ly):a4 P w K mg base 2 "_law_spoilt" ["_law_text_here","_law_cell"] sE:=by
 obtain⟨_,_,dI⟩:=c1
 obtain⟨_,_,aP⟩:=c2
 refine D.eB jI (fun vs H Q E h=>?_) (fun f ba A outer s H vs Q E hr h=>?_)
 ·obtain⟨l,n,rfl,_⟩:=h
  rfl
 ·obtain⟨l,n,rfl,ha,hl,q⟩:=h
  have big:(4000 :Nat)≤sizeLine:=by decide
  have xl:(⟨l.toArray⟩:Str).length=l.length:=aB l
  refine⟨_,(ai
     (aL (i:=2) jI.nd rfl (Or.inl rfl) (aw a7 (pv 1) (aw cf (a9 bP rfl T.er cH (aa (pv 0) ak)) aj)))
    (ai
     (aL (i:=3) jI.nd rfl (Or.inl rfl) (aJ dI.ok (hr.mono (by decide)) rfl dI.g dI.kp dI.b .nil aM (aa (aJ aP.ok (hr.mono (by decide)) rfl aP.g aP.kp aP.b .nil aM (aa (pv 1) (aa aj ak))) (aa gO ak))))
    (ai
     (aL (i:=4) jI.nd rfl (Or.inl rfl) (aw a7 (aJ aP.ok (hr.mono (by decide)) rfl aP.g aP.kp aP.b .nil aM (aa (pv 1) (aa aj ak))) aj))
    (ai
     (aY (au aW (pv 4) aj (aA _))
      (aq
       (ay (aw aF (aw aF (bE dB (pv 0) cY (bu (pv 2))) (pv 3)) (bE dB (pv 0) (bu (pv 2)) cY))))
      aK)
    (ai
     (aY (au aW (pv 4) aj (aA _))
      (aq
       (ay (aw aF (bE dB (pv 0) cY (bu (pv 2))) (bE dB (pv 0) (bu (aw cf (pv 2) aj)) cY))))
      aK)
    (ai
     (aY (au aW (pv 4) aj (aA _))
      (aq
       (ay (aw aF (aw aF (bE dB (pv 0) cY (bu (pv 2))) (pv 3)) (bE dB (pv 0) (bu (aw cf (pv 2) aj)) cY))))
      aK)
    (aq
     (ay (aw aF (aw aF (bE dB (pv 0) cY (bu (pv 2))) (bE dB (pv 0) (bu (pv 2)) (bu (aw cf (pv 2) aj)))) (bE dB (pv 0) (bu (pv 2)) cY)))))))))),?_⟩
  refine⟨_,rfl,_,rfl,⟨l.toArray⟩,rfl,by omega,_,_,rfl,rfl,_,_,rfl,rfl,by omega,?_⟩
  obtain⟨a,ea⟩:=Int.eq_ofNat_of_zero_le (Int.emod_nonneg n (show (((⟨l.toArray⟩:Str).length:Int)+1)≠0 by omega))
  have al:a≤l.length:=by
   have:=Int.emod_lt_of_pos n (show (0 :Int) < ((⟨l.toArray⟩:Str).length:Int)+1 by omega)
   omega
  rw[ea]
  refine⟨_,rfl,n,1000081,5,rfl,by decide,rfl,fun z1 H1 e1=>⟨z1,false,rfl,fun c H2 hc e2=>?_⟩⟩
  refine⟨_,rfl,n,1000099,6,rfl,by decide,rfl,fun z2 H3 e3=>⟨_,_,rfl,rfl,by decide,?_⟩⟩
  have LZ:=e1.trans (e2.trans e3)
  have s1:cX [c]:=fun b hb=>by rw[List.mem_singleton.mp hb];exact hc
  have ce:(⟨#[c]⟩:Str)=⟨[c].toArray⟩:=rfl
  refine⟨_,rfl,rfl,_,rfl,dq (fun _=>?_) fun _=>?_⟩
  ·refine⟨_,rfl,_,rfl,_,rfl,⟨l.toArray⟩,rfl,by omega,?_⟩
   rw[sD l al]
   refine⟨_,rfl,_,_,rfl,rfl,by rw[aB,ce,aB,List.length_take];show _+1≤_;omega,?_⟩
   refine⟨_,rfl,_,rfl,_,rfl,⟨l.toArray⟩,rfl,by omega,?_⟩
   rw[vI l al,ce,aU]
   refine⟨_,_,rfl,rfl,by rw[aB,aB,List.length_append,List.length_take,List.length_drop];show _+1+_≤_;omega,?_⟩
   rw[aU]
   exact q _ H3 (((ha.take a).app s1).app (ha.drop a)) (by rw[List.length_append,List.length_append,List.length_take,List.length_drop];show _+1+_≤_;omega) LZ
  ·refine⟨_,rfl,rfl,_,rfl,dq (fun _=>?_) fun _=>?_⟩
   ·refine⟨_,rfl,_,rfl,_,rfl,⟨l.toArray⟩,rfl,by omega,?_⟩
    rw[sD l al]
    refine⟨_,rfl,_,rfl,_,_,rfl,rfl,_,rfl,⟨l.toArray⟩,rfl,by omega,?_⟩
    rw[zY l al]
    refine⟨_,_,rfl,rfl,by rw[aB,aB,List.length_take,List.length_drop];omega,?_⟩
    rw[aU]
    exact q _ H3 ((ha.take a).app (ha.drop _)) (by rw[List.length_append,List.length_take,List.length_drop];omega) LZ
   ·refine⟨_,rfl,rfl,_,rfl,dq (fun _=>?_) fun _=>?_⟩
    ·refine⟨_,rfl,_,rfl,_,rfl,⟨l.toArray⟩,rfl,by omega,?_⟩
     rw[sD l al]
     refine⟨_,rfl,_,_,rfl,rfl,by rw[aB,ce,aB,List.length_take];show _+1≤_;omega,?_⟩
     refine⟨_,rfl,_,rfl,_,_,rfl,rfl,_,rfl,⟨l.toArray⟩,rfl,by omega,?_⟩
     rw[zY l al,ce,aU]
     refine⟨_,_,rfl,rfl,by rw[aB,aB,List.length_append,List.length_take,List.length_drop];show _+1+_≤_;omega,?_⟩
     rw[aU]
     exact q _ H3 (((ha.take a).app s1).app (ha.drop _)) (by rw[List.length_append,List.length_append,List.length_take,List.length_drop];show _+1+_≤_;omega) LZ
    ·refine⟨_,rfl,_,rfl,_,rfl,⟨l.toArray⟩,rfl,by omega,?_⟩
     rw[sD l al]
     refine⟨_,rfl,_,rfl,_,rfl,_,rfl,_,_,rfl,rfl,_,rfl,⟨l.toArray⟩,rfl,by omega,?_⟩
     rw[show ((a:Int)+1)=((a+1 :Nat):Int) by omega,Fm l (a:=a) (b:=a+1) (by omega) al,show a+1 - a=1 by omega]
     refine⟨_,_,rfl,rfl,by rw[aB,aB,List.length_take,List.length_take,List.length_drop];omega,?_⟩
     refine⟨_,rfl,_,rfl,_,rfl,⟨l.toArray⟩,rfl,by omega,?_⟩
     rw[vI l al,aU]
     refine⟨_,_,rfl,rfl,by rw[aB,aB,List.length_append,List.length_take,List.length_take,List.length_drop];omega,?_⟩
     rw[aU]
     exact q _ H3 (((ha.take a).app ((ha.drop a).take 1)).app (ha.drop a)) (by rw[List.length_append,List.length_append,List.length_take,List.length_take,List.length_drop];omega) LZ
def vJ(K:PySem.W.Frag):Sp:=fun vs H Q _=>∃(a:Addr) (ns:List Int) (b:Bool),vs=[.ref a, .bl b]∧bF K H a (ns.map V.int)∧ns.length≤61∧∀l H',cX l→l.length≤366→aD H H'→Q (.str ⟨l.toArray⟩) H'
theorem eQ:az ["_law_cells","_law_wide","_law_text_here","_law_cell","_law_left","_law_k","_law_number"] ["_law_cells","_law_wide"] (ao pR):=dM
theorem zZ(D:Def K mg "_law_signs_drawn" "_law_signs_drawn" pR ["_law_cells","_law_wide"])(T:fF K mg C)(c1:a4 P w K mg base 1 "_law_sign" ["_law_number","_law_wide"] qm)(c2:a4 P w K mg base 1 "_law_mixed" ["_law_cell","_law_prime"] ly):a4 P w K mg base 2 "_law_signs_drawn" ["_law_cells","_law_wide"] (vJ K):=by
 obtain⟨_,_,dI⟩:=c1
 obtain⟨_,_,aP⟩:=c2
 refine D.eB eQ (fun vs H Q E h=>?_) (fun f ba A outer s H vs Q E hr h=>?_)
 ·obtain⟨a,ns,b,rfl,_⟩:=h
  rfl
 ·obtain⟨a,ns,b,rfl,hS,hlen,q⟩:=h
  have big:(4000 :Nat)≤sizeLine:=by decide
  refine⟨_,(ai
     (aL (i:=2) eQ.nd rfl (Or.inl rfl) ax)
    (ai
     (eA PassesOwn.never rfl (eK (pv 0)) (aX (i:=3) eQ.nd rfl (Or.inl rfl))
      (ai
       (aL (i:=4) eQ.nd rfl (Or.inl rfl) (aw bC (pv 3) aj))
      (aq
       (eA PassesOwn.never rfl (fM rfl T.jv (aa (aw a7 (aw bC (pv 3) aj) aj) ak)) (aX (i:=5) eQ.nd rfl (Or.inl rfl))
        (ai
         (aL (i:=6) eQ.nd rfl (Or.inl rfl) (aw a7 (pv 4) aj))
        (ai
         (aY (PW.pt (fK (au aW (aw a7 (pv 3) aj) aj (aA _)) (eX (au aW (pv 4) aj (aA _)))))
          (aq
           (aL (i:=6) eQ.nd rfl (Or.inl rfl) (aJ aP.ok (hr.mono (by decide)) rfl aP.g aP.kp aP.b .nil aM (aa (aw cf (pv 3) (aw jV aj (pv 5))) (aa aj ak)))))
          aK)
        (ai
         (aL (i:=2) eQ.nd rfl (Or.inl rfl) (aw aF (pv 2) (aJ dI.ok (hr.mono (by decide)) rfl dI.g dI.kp dI.b .nil aM (aa (pv 6) (aa (pv 1) ak)))))
        (aq
         (aL (i:=4) eQ.nd rfl (Or.inl rfl) (aw bC (pv 4) aj))))))))))
    (aq
     (ay (pv 2))))),?_⟩
  refine⟨_,rfl,a,rfl,⟨_,hS⟩,i' (K:=K) (a:=a) (xs:=ns.map V.int) (fun i σ H'=>∃(l:List Nat) (v3 v4 v5 v6:Option V),σ=[some (.ref a),some (.bl b),some (.str ⟨l.toArray⟩),v3,v4,v5,v6]∧cX l∧l.length≤6*i∧aD H H') ⟨[],none,none,none,none,rfl,(fun _ z=>by cases z),Nat.zero_le _,aD.refl H⟩ (fun i σ H' _ ⟨_,_,_,_,_,_,_,_,e⟩=>e.seq hS) ?_ ?_⟩
  ·rintro i x σ H1 hx ⟨l,v3,v4,v5,v6,rfl,ha,Od,e1⟩
   have hi:i<ns.length:=by
    have:=(List.getElem?_eq_some_iff.mp hx).1
    rwa [List.length_map] at this
   obtain⟨m,rfl⟩:∃m,x=V.int m:=by
    obtain⟨m,_,e⟩:=List.mem_map.mp (List.mem_of_getElem? hx)
    exact⟨m,e.symm⟩
   have b0:0≤m/2%7:=Int.emod_nonneg _ (by decide)
   have b1:m/2%7<7:=Int.emod_lt_of_pos _ (by decide)
   refine⟨_,rfl,_,_,rfl,rfl,⟨by decide,by decide⟩,_,rfl,_,_,rfl,rfl,⟨by decide,by decide⟩,_,_,rfl,rfl,(by show (0 :Int) <7;decide),_,rfl,by omega,by omega,fN (fun j σ H'=>∃(l':List Nat) (z:Int) (v5 v6:Option V),σ=[some (.ref a),some (.bl b),some (.str ⟨l'.toArray⟩),some (.int m),some (.int z),v5,v6]∧cX l'∧l'.length≤l.length+j∧aD H H') ⟨l,_,v5,v6,rfl,ha,Nat.le_refl _,e1⟩ ?_ ?_⟩
   ·rintro j σ H2 hj ⟨l',z,v5,v6,rfl,B0,L0,e2⟩
    refine⟨_,rfl,_,_,rfl,rfl,(by show (0 :Int) <752;decide),?_⟩
    dsimp only [fL]
    refine il (fun σ' H'=>∃y:Int,σ'=[some (.ref a),some (.bl b),some (.str ⟨l'.toArray⟩),some (.int m),some (.int z),some (.int (0+(j:Int))),some (.int y)]∧aD H H') (fun N hN=>?_) ?_
    ·refine⟨_,rfl,_,_,rfl,rfl,(by show (0 :Int) <2;decide),rfl,_,rfl,dq (fun _=>?_) fun _=>⟨_,rfl,rfl,_,rfl,dq (fun _=>?_) fun _=>hN _ _ ⟨_,rfl,e2⟩⟩⟩
     ·exact⟨_,rfl,_,rfl,_,_,rfl,rfl, .inl ⟨by decide,by decide⟩,_,_,rfl,rfl,_,1000003,2,rfl,by decide,rfl,fun y H3 e3=>hN _ _ ⟨y,rfl,e2.trans e3⟩⟩
     ·exact⟨_,rfl,_,rfl,_,_,rfl,rfl, .inl ⟨by decide,by decide⟩,_,_,rfl,rfl,_,1000003,2,rfl,by decide,rfl,fun y H3 e3=>hN _ _ ⟨y,rfl,e2.trans e3⟩⟩
    rintro σ H3 ⟨y,rfl,e3⟩
    refine⟨_,rfl,_,rfl,_,rfl,y,b,rfl,fun c H4 hc e4=>⟨_,_,rfl,rfl,by rw[aB];show l'.length+1≤_;omega,?_⟩⟩
    rw[show (⟨l'.toArray⟩:Str)++⟨#[c]⟩=⟨(l'++[c]).toArray⟩ from aU l' [c]]
    exact⟨_,rfl,_,_,rfl,rfl,⟨by decide,by decide⟩,l'++[c],_,_,_,rfl,B0.app fun d hd=>by rw[List.mem_singleton.mp hd];exact hc,by rw[List.length_append];show l'.length+1≤_;omega,e3.trans e4⟩
   ·rintro σ H2 ⟨l',z,v5,v6,rfl,B0,L0,e2⟩
    exact⟨l',_,_,_,_,rfl,B0,by omega,e2⟩
  ·rintro σ H1 ⟨l,v3,v4,v5,v6,rfl,ha,Od,e1⟩
   rw[List.length_map] at Od
   exact⟨_,rfl,q l H1 ha (by omega) e1⟩
def sF:Sp:=fun vs H Q _=>∃(l:List Nat) (n:Int),vs=[.str ⟨l.toArray⟩, .int n]∧cX l∧l.length≤1000∧∀l' H',cX l'→l'.length≤l.length+13→aD H H'→Q (.str ⟨l'.toArray⟩) H'
theorem jJ:az ["_law_text_here","_law_cell","_law_deep","_law_at","_law_nest"] ["_law_text_here","_law_cell"] (ao lr):=dM
theorem qp(c:Nat):∀(n:Nat) (acc:List Nat),(List.replicate n #[c]).foldl (·++·) acc.toArray=(acc++List.replicate n c).toArray
 |0,acc=>by simp
 |n+1,acc=>by
  rw[List.replicate_succ,List.foldl_cons,show acc.toArray++#[c]=(acc++[c]).toArray by simp,qp c n,List.append_assoc,List.replicate_succ]
  rfl
theorem xt(D:Def K mg "_law_nested" "_law_nested" lr ["_law_text_here","_law_cell"])(T:fF K mg C):a4 P w K mg base 1 "_law_nested" ["_law_text_here","_law_cell"] sF:=by
 refine D.eB jJ (fun vs H Q E h=>?_) (fun f ba A outer s H vs Q E hr h=>?_)
 ·obtain⟨l,n,rfl,_⟩:=h
  rfl
 ·obtain⟨l,n,rfl,ha,hl,q⟩:=h
  have big:(4000 :Nat)≤sizeLine:=by decide
  have xl:(⟨l.toArray⟩:Str).length=l.length:=aB l
  refine⟨_,(ai
     (aL (i:=2) jJ.nd rfl (Or.inl rfl) (aw cf aj (aw a7 (pv 1) aj)))
    (ai
     (aL (i:=3) jJ.nd rfl (Or.inl rfl) (bw cC (b7 (aa (a9 bP rfl T.er cH (aa (pv 0) ak)) (aa aj (aa (aw a7 (aw bC (pv 1) aj) (aw cf (a9 bP rfl T.er cH (aa (pv 0) ak)) aj)) ak)))) (aw a7 (aw bC (pv 1) aj) aj) (fun _ _=>rfl)))
    (ai
     (aL (i:=4) jJ.nd rfl (Or.inl rfl) (aw aF (aw aF (aw uW ax (pv 2)) ax) (aw uW ax (aw jU (pv 2) (aw a7 (aw bC (pv 1) aj) aj)))))
    (aq
     (ay (aw aF (aw aF (bE dB (pv 0) cY (bu (pv 3))) (pv 4)) (bE dB (pv 0) (bu (pv 3)) cY))))))),?_⟩
  have d0:0≤n%4:=Int.emod_nonneg _ (by decide)
  have d1:n%4<4:=Int.emod_lt_of_pos _ (by decide)
  have f0:0≤n/4%2:=Int.emod_nonneg _ (by decide)
  have f1:n/4%2<2:=Int.emod_lt_of_pos _ (by decide)
  have g0:0≤n/8%3:=Int.emod_nonneg _ (by decide)
  have g1:n/8%3<3:=Int.emod_lt_of_pos _ (by decide)
  obtain⟨dd,Sx⟩:=Int.eq_ofNat_of_zero_le (show 0≤3+n%4 by omega)
  obtain⟨de,UO⟩:=Int.eq_ofNat_of_zero_le (show 0≤3+n%4 - n/4%2 by omega)
  refine⟨_,rfl,_,_,rfl,rfl,(by show (0 :Int) <4;decide),_,_,rfl,rfl,?_⟩
  refine⟨_,rfl,⟨l.toArray⟩,rfl,by omega,_,rfl,_,_,rfl,rfl,⟨by decide,by decide⟩,_,rfl,⟨l.toArray⟩,rfl,by omega,_,_,rfl,rfl,_,_,rfl,rfl,by omega,(by show 3≤sizeLine;decide),fun p hp=>?_⟩
  obtain⟨v,hv,mZ⟩:=iX (xs:=[V.int ((⟨l.toArray⟩:Str).length:Int),V.int 0,V.int (n/24%(((⟨l.toArray⟩:Str).length:Int)+1))]) g0 g1
  have UP:=Int.emod_nonneg (n/24) (show (((⟨l.toArray⟩:Str).length:Int)+1)≠0 by omega)
  have VU:=Int.emod_lt_of_pos (n/24) (show (0 :Int) < ((⟨l.toArray⟩:Str).length:Int)+1 by omega)
  obtain⟨at',rfl,al⟩:∃a:Nat,v=V.int (a:Int)∧a≤l.length:=by
   have:v=V.int ((⟨l.toArray⟩:Str).length:Int)∨v=V.int 0∨v=V.int (n/24%(((⟨l.toArray⟩:Str).length:Int)+1)):=by simpa using hv
   rcases this with rfl|rfl|rfl
   ·exact⟨l.length,by rw[xl],Nat.le_refl _⟩
   ·exact⟨0,rfl,Nat.zero_le _⟩
   ·exact⟨(n/24%(((⟨l.toArray⟩:Str).length:Int)+1)).toNat,by rw[Int.toNat_of_nonneg UP],by omega⟩
  refine⟨_,rfl,_,_,rfl,rfl,⟨by decide,by decide⟩,_,_,rfl,rfl,(by show (0 :Int) <3;decide),p,_,_,_,rfl,rfl,bF.of ag,mZ,?_⟩
  rw[Sx]
  have o1:("(" :Str).cps=#[40]:=by decide+kernel
  have o2:(")" :Str).cps=#[41]:=by decide+kernel
  have o3:("H" :Str)=⟨[72].toArray⟩:=by decide+kernel
  have n1:("(" :Str).length=1:=by decide+kernel
  have n2:(")" :Str).length=1:=by decide+kernel
  refine⟨_,rfl,"(",dd,rfl,rfl,by omega,by omega,by rw[n1];decide,by rw[n1];decide,?_⟩
  rw[o1,show (#[]:Array Nat)=([]:List Nat).toArray from rfl,qp 40 dd [],List.nil_append,o3]
  refine⟨_,_,rfl,rfl,by rw[aB,aB,List.length_replicate];show dd+1≤_;omega,?_⟩
  rw[aU]
  refine⟨_,rfl,_,rfl,_,_,rfl,rfl,⟨by decide,by decide⟩,_,_,rfl,rfl,(by show (0 :Int) <2;decide),_,_,rfl,rfl,")",de,rfl,?_,by omega,by omega,by rw[n2];decide,by rw[n2];decide,?_⟩
  ·rw[←Sx,←UO]
  rw[o2,show (#[]:Array Nat)=([]:List Nat).toArray from rfl,qp 41 de [],List.nil_append]
  refine⟨_,_,rfl,rfl,by rw[aB,aB,List.length_append,List.length_replicate,List.length_replicate];show dd+1+de≤_;omega,?_⟩
  rw[aU]
  refine⟨_,rfl,_,rfl,_,rfl,⟨l.toArray⟩,rfl,by omega,?_⟩
  rw[sD l al]
  refine⟨_,rfl,_,_,rfl,rfl,by rw[aB,aB,List.length_append,List.length_append,List.length_replicate,List.length_replicate,List.length_take];show _+(dd+1+de)≤_;omega,?_⟩
  refine⟨_,rfl,_,rfl,_,rfl,⟨l.toArray⟩,rfl,by omega,?_⟩
  rw[vI l al,aU]
  have rp:∀(c m:Nat),c<128→cX (List.replicate m c):=fun c m h b hb=>by rw[(List.mem_replicate.mp hb).2];exact h
  refine⟨_,_,rfl,rfl,by rw[aB,aB,List.length_append,List.length_append,List.length_append,List.length_replicate,List.length_replicate,List.length_take,List.length_drop];show _+(dd+1+de)+_≤_;omega,?_⟩
  rw[aU]
  refine q _ _ (((ha.take at').app (((rp 40 dd (by decide)).app fun b hb=>by rw[List.mem_singleton.mp hb];decide).app (rp 41 de (by decide)))).app (ha.drop at')) ?_ (aD.new hp)
  rw[List.length_append,List.length_append,List.length_append,List.length_append,List.length_replicate,List.length_replicate,List.length_take,List.length_drop]
  show _+(dd+1+de)+_≤_
  omega
variable {uC uP uI uD uL uT:Tok}
theorem kN.ok{u v:List Nat}{n:Int}(h:kN 3 u n v):u=bA n++v∧1≤n∧n≤999:=⟨h.1,h.2.1,by have:=h.2.2.1;omega⟩
theorem kG.ok{u k v:List Nat}{n:Int}(h:kG u k n v):u=(k++bA n)++v∧lD k∧1≤n∧n≤999:=by
 obtain⟨w,rfl,hk,_,hN⟩:=h
 obtain⟨e,n1,n2⟩:=hN.ok
 exact⟨by rw[e,List.append_assoc],hk,n1,n2⟩
theorem Sq.ok{p:List Nat→Tr→List Nat→Prop}{d:Nat}(hp:∀u t v,p u t v→u=cJ d t++v∧kD d t){u:List Nat}:∀{ts:List Tr} {v:List Nat},Sq p u ts v→u=ts.flatMap (cJ d)++v∧ts≠[]∧∀t∈ts,kD d t:=by
 intro ts v h
 induction h with
 |one t v a=>
  obtain⟨e,o⟩:=hp u t v a
  refine⟨by rw[e];simp,by simp,fun t' ht=>by rw[List.mem_singleton.mp ht];exact o⟩
 |snoc ts w t v _ _ a ih=>
  obtain⟨e,_,o⟩:=ih
  obtain⟨e2,o2⟩:=hp w t v a
  refine⟨by rw[e,e2,List.flatMap_append,List.append_assoc];simp,by simp,fun t' ht=>?_⟩
  rcases List.mem_append.mp ht with z|z
  ·exact o t' z
  ·rw[List.mem_singleton.mp z];exact o2
theorem nj.ok:∀(d:Nat) (u:List Nat) (t:Tr) (v:List Nat),nj d u t v→u=cJ d t++v∧kD d t
 |0,u,t,v,h=>by
  obtain⟨k,n,rfl,a⟩:=h
  obtain⟨e,o⟩:=a.ok
  exact⟨e,o⟩
 |d+1,u,t,v,h=>by
  rcases h with ⟨_,k,n,rfl,a⟩ | ⟨u',ts,n,w,rfl,rfl,⟨q,_⟩,hN⟩
  ·obtain⟨e,o⟩:=a.ok
   exact⟨e,o⟩
  ·obtain⟨e,ne,o⟩:=q.ok (nj.ok d)
   obtain⟨e2,n1,n2⟩:=hN.ok
   refine⟨?_,ne,o,n1,n2⟩
   rw[e,e2]
   show 40::(ts.flatMap (cJ d)++41::(bA n++v))=40::(ts.flatMap (cJ d)++41::bA n)++v
   simp
theorem Aw.ok{u:List Nat}:∀{ps:List d8} {v:List Nat},Aw u ps v→∃x r,ps=x::r∧x.1=1∧u=x.2.flatMap (cJ 4)++(bU 4 r++v)∧∀y∈ps,sJ 4 y:=by
 intro ps v h
 induction h with
 |one ts v a=>
  obtain⟨e,ne,o⟩:=a.1.ok (nj.ok 4)
  exact⟨(1,ts),[],rfl,rfl,e,fun y hy=>by rw[List.mem_singleton.mp hy];exact⟨ne,o,(by show (1 :Int)≤1;decide),(by show (1 :Int)≤999;decide)⟩⟩
 |snoc ps w m w1 ts v _ n a ih=>
  obtain⟨x,r,rfl,x1,e,o⟩:=ih
  obtain⟨e2,n1,n2⟩:=n.ok
  obtain⟨e3,ne,o3⟩:=a.1.ok (nj.ok 4)
  refine⟨x,r++[(m,ts)],rfl,x1,?_,fun y hy=>?_⟩
  ·rw[e,e2,e3]
   unfold bU dY
   rw[List.flatMap_append]
   simp
  ·rcases List.mem_append.mp (show y∈(x::r)++[(m,ts)] from hy) with z|z
   ·exact o y z
   ·rw[List.mem_singleton.mp z];exact⟨ne,o3,n1,n2⟩
theorem LI.ok{u v:List Nat}{n:Int}(h:LI u n v):u=mE n++v∧ -999≤n∧n≤999:=by
 rcases h with ⟨_,rfl,rfl⟩ | ⟨u',m,w,rfl,hN,hs⟩
 ·exact⟨rfl,by decide,by decide⟩
 ·obtain⟨e,n1,n2⟩:=hN.ok
  rcases hs with ⟨rfl,rfl⟩ | ⟨rfl,rfl⟩
  ·refine⟨?_,by omega,by omega⟩
   unfold mE
   rw[if_neg (by omega),if_pos (by omega),if_neg (by omega),Int.neg_neg,e]
   simp
  ·refine⟨?_,by omega,by omega⟩
   unfold mE
   rw[if_neg (by omega),if_neg (by omega),if_pos (by omega),e]
   simp
theorem Eu.ok{u:List Nat}{xs:List d8}{n:Int}(h:Eu u xs n []):u=wL 4 xs n∧yX 4 xs n:=by
 rcases h with ⟨rfl,rfl,rfl⟩ | ⟨_,w,q,_,c⟩
 ·exact⟨rfl,rfl⟩
 ·obtain⟨x,r,rfl,x1,e,o⟩:=q.ok
  obtain⟨e2,n1,n2⟩:=c.ok
  exact⟨by rw[e,e2,List.append_nil];rfl,x1,o,n1,n2⟩
def sG(K:PySem.W.Frag):Sp:=fun vs H Q _=>∃(a:Addr) (ns:List Int),vs=[.ref a]∧bF K H a (ns.map V.int)∧ns.length≤63∧∀l H',cX l→l.length≤400→aD H H'→Q (.str ⟨l.toArray⟩) H'
theorem gI:az ["_law_script","_law_cell","_law_text_here","_law_k"] ["_law_script"] (ao pS):=dM
theorem z4(D:Def K mg "_law_drawn" "_law_drawn" pS ["_law_script"])(T:fF K mg C)(c1:a4 P w K mg base 1 "_law_cell_at" ["_law_script","_law_k"] (rB K))(c2:a4 P w K mg base 2 "_law_signs_drawn" ["_law_cells","_law_wide"] (vJ K))(c3:a4 P w K mg base 3 "_law_pieces" ["_law_cells"] (sx K))(c4:a4 P w K mg base 1 "_law_charge" ["_law_cell"] sA)(c5:a4 P w K mg base 8 "_law_text" ["_law_pieces_here","_law_charge_here"] (vF 4))(c6:a4 P w K mg base 1 "_law_nested" ["_law_text_here","_law_cell"] sF)(c7:a4 P w K mg base 2 "_law_spoilt" ["_law_text_here","_law_cell"] sE):a4 P w K mg base 9 "_law_drawn" ["_law_script"] (sG K):=by
 obtain⟨_,_,bz⟩:=c1
 obtain⟨_,_,c9⟩:=c2
 obtain⟨_,_,gJ⟩:=c3
 obtain⟨_,_,gK⟩:=c4
 obtain⟨_,_,jK⟩:=c5
 obtain⟨_,_,gL⟩:=c6
 obtain⟨_,_,gM⟩:=c7
 refine D.eB gI (fun vs H Q E h=>?_) (fun f ba A outer s H vs Q E hr h=>?_)
 ·obtain⟨a,ns,rfl,_⟩:=h
  rfl
 ·obtain⟨a,ns,rfl,hS,hlen,q⟩:=h
  have big:(4000 :Nat)≤sizeLine:=by decide
  refine⟨_,(ai
     (aL (i:=1) gI.nd rfl (Or.inl rfl) (aJ bz.ok (hr.mono (by decide)) rfl bz.g bz.kp bz.b .nil aM (aa (pv 0) (aa aj ak))))
    (ai
     (aL (i:=2) gI.nd rfl (Or.inl rfl) (bw cC (b7 (aa ax (aa ax ak))) (dm nJ rfl T.vc pw (aa (d3 aW (aw a7 (aw bC (pv 1) aj) aj) aj (aA _)) ak)) (fun _ _=>rfl)))
    (ai
     (aY (au aW (aw a7 (pv 1) aj) aj (aA _))
      (aq
       (ay (aw aF (pv 2) (aJ c9.ok (hr.mono (by decide)) rfl c9.g c9.kp c9.b .nil aM (aa (bE kX (pv 0) (bu aj) (bu aj)) (aa (d3 aW (aw a7 (aw bC (pv 1) aj) aj) aj (aA _)) ak))))))
      aK)
    (ai
     (aL (i:=2) gI.nd rfl (Or.inl rfl) (aw aF (pv 2) (aJ jK.ok (hr.mono (by decide)) rfl jK.g jK.kp jK.b .nil aM (aa (aJ gJ.ok (hr.mono (by decide)) rfl gJ.g gJ.kp gJ.b .nil aM (aa (bE kX (pv 0) (bu aj) (bu aj)) ak)) (aa (aJ gK.ok (hr.mono (by decide)) rfl gK.g gK.kp gK.b .nil aM (aa (aJ bz.ok (hr.mono (by decide)) rfl bz.g bz.kp bz.b .nil aM (aa (pv 0) (aa aj ak))) ak)) ak)))))
    (ai
     (aY (PW.pt (bX (au aW (aw a7 (aw bC (pv 1) aj) aj) aj (aA _)) (bZ (au lU (a9 bP rfl T.er cH (aa (pv 2) ak)) aj (aA _)))))
      (aq
       (aL (i:=2) gI.nd rfl (Or.inl rfl) (aJ gL.ok (hr.mono (by decide)) rfl gL.g gL.kp gL.b .nil aM (aa (pv 2) (aa (aw bC (pv 1) aj) ak)))))
      aK)
    (ai
     (eA PassesOwn.never rfl (fM rfl T.jv (aa (aw a7 (aw bC (pv 1) aj) aj) ak)) (aX (i:=3) gI.nd rfl (Or.inl rfl))
      (aq
       (aL (i:=2) gI.nd rfl (Or.inl rfl) (aJ gM.ok (hr.mono (by decide)) rfl gM.g gM.kp gM.b .nil aM (aa (pv 2) (aa (aw a7 (aJ bz.ok (hr.mono (by decide)) rfl bz.g bz.kp bz.b .nil aM (aa (pv 0) (aa (aw cf aj (pv 3)) ak))) (aw xU aj aj)) ak))))))
    (aq
     (ay (pv 2))))))))),?_⟩
  refine⟨_,rfl,a,ns,0,rfl,hS,hlen,fun n=>?_⟩
  have ex:∀k:Bool,∃l0:List Nat,cX l0∧l0.length≤3∧xC [V.str "",V.str "e^-"] (if k then 1 else 0)=some (V.str ⟨l0.toArray⟩):=fun k=>by
   cases k with
   |false=>exact⟨[],(fun _ z=>by cases z),by decide,by decide+kernel⟩
   |true=>exact⟨[101,94,45],(by decide:∀c∈[101,94,45],c<128),by decide,by decide+kernel⟩
  obtain⟨l0,h0,EF,mZ⟩:=ex (decide (V.int (n/6%16)=V.int 3))
  refine⟨(by show 2≤sizeLine;decide),fun p hp=>⟨_,rfl,_,_,rfl,rfl,⟨by decide,by decide⟩,_,_,rfl,rfl,(by show (0 :Int) <16;decide),rfl, .inr ⟨_,rfl,p,_,_,_,rfl,rfl,bF.of ag,mZ,?_⟩⟩⟩
  have e1:aD H (upd H p (.lst [V.str "",V.str "e^-"])):=aD.new hp
  generalize upd H p (.lst [V.str "",V.str "e^-"])=H1 at e1 ⊢
  refine⟨_,rfl,_,_,rfl,rfl,(by show (0 :Int) <2;decide),rfl,_,rfl,dq (fun _=>?_) fun _=>?_⟩
  ·have ec:l9 (ns.map V.int) (some (2 :Int)) (some (63 :Int))=((ns.drop 2).take 61).map V.int:=by
    rw[show (2 :Int)=((2 :Nat):Int) from rfl,show (63 :Int)=((63 :Nat):Int) from rfl,rf,List.map_take,List.map_drop]
   refine⟨_,rfl,_,rfl,2,rfl,63,rfl,a,_,rfl,e1.seq hS,fun p2 AL=>?_⟩
   rw[ec]
   refine⟨_,rfl,_,_,rfl,rfl,⟨by decide,by decide⟩,_,_,rfl,rfl,(by show (0 :Int) <3;decide),rfl,p2,_,_,rfl,bF.of ag,by rw[List.length_take];omega,fun l H3 hl Od e3=>⟨_,_,rfl,rfl,by rw[aB,aB];omega,?_⟩⟩
   rw[aU]
   exact q _ H3 (h0.app hl) (by rw[List.length_append];omega) (e1.trans ((aD.new AL).trans e3))
  have ec:l9 (ns.map V.int) (some (2 :Int)) (some (40 :Int))=((ns.drop 2).take 38).map V.int:=by
   rw[show (2 :Int)=((2 :Nat):Int) from rfl,show (40 :Int)=((40 :Nat):Int) from rfl,rf,List.map_take,List.map_drop]
  refine⟨_,rfl,_,rfl,2,rfl,40,rfl,a,_,rfl,e1.seq hS,fun p2 AL=>?_⟩
  rw[ec]
  refine⟨p2,_,rfl,bF.of ag,(by rw[List.length_take];omega),fun lp xs ks H2 e2 hL mz hW Im VW UQ=>?_⟩
  have e2:=e1.trans ((aD.new AL).trans e2)
  refine⟨_,rfl,a,ns,1,rfl,e2.seq hS,hlen,fun n1=>⟨_,rfl,fun ch g1 g2=>?_⟩⟩
  have bg:=(hW ch g1 g2).1
  have Lw:=Fl bg Im
  refine⟨lp,xs,ch,rfl,hL,bg,by omega,fun H3 e3=>⟨_,_,rfl,rfl,by rw[aB,aB];omega,?_⟩⟩
  rw[aU]
  have e3:=e2.trans e3
  have ha:=h0.app (Fj bg)
  have hl:(l0++wL 4 xs ch).length≤394:=by rw[List.length_append];omega
  generalize l0++wL 4 xs ch=l at ha hl ⊢
  dsimp only [fL]
  refine il (fun σ' H'=>∃l:List Nat,σ'=[some (.ref a),some (.int n),some (.str ⟨l.toArray⟩),none]∧cX l∧l.length≤394∧aD H H') (fun N hN=>?_) ?_
  ·refine⟨_,rfl,_,_,rfl,rfl,⟨by decide,by decide⟩,_,_,rfl,rfl,(by show (0 :Int) <3;decide),rfl,_,rfl,dq (fun _=>?_) fun _=>hN _ _ ⟨l,rfl,ha,hl,e3⟩⟩
   refine⟨_,rfl,⟨l.toArray⟩,rfl,by rw[aB];omega,_,_,rfl,rfl,_,rfl,?_⟩
   by_cases UR:l.length<380
   ·refine bY (by rw[aB];omega) ⟨_,rfl,_,rfl,_,_,rfl,rfl,⟨by decide,by decide⟩,l,_,rfl,ha,by omega,fun l' H4 B0 L0 e4=>hN _ _ ⟨l',rfl,B0,by omega,e3.trans e4⟩⟩
   ·exact bT (by rw[aB];omega) (hN _ _ ⟨l,rfl,ha,hl,e3⟩)
  rintro σ H4 ⟨l,rfl,ha,hl,e4⟩
  have b0:0≤n/2%4:=Int.emod_nonneg _ (by decide)
  have b1:n/2%4<4:=Int.emod_lt_of_pos _ (by decide)
  refine⟨_,rfl,_,_,rfl,rfl,⟨by decide,by decide⟩,_,_,rfl,rfl,(by show (0 :Int) <4;decide),_,rfl,by omega,by omega,fN (fun i σ H'=>∃(l':List Nat) (v:Option V),σ=[some (.ref a),some (.int n),some (.str ⟨l'.toArray⟩),v]∧cX l'∧l'.length≤l.length+i∧aD H H') ⟨l,none,rfl,ha,Nat.le_refl _,e4⟩ ?_ ?_⟩
  ·rintro i σ H5 hi ⟨l',v,rfl,B0,L0,e5⟩
   refine⟨_,rfl,_,rfl,_,rfl,_,_,rfl,rfl,a,ns,40+i,congrArg (fun z=>[V.ref a,V.int z]) (show (40 :Int)+(0+(i:Int))=((40+i:Nat):Int) by omega),e5.seq hS,hlen,fun m=>⟨_,_,rfl,rfl,⟨by decide,by decide,by decide⟩,_,_,rfl,rfl,(by decide),l',_,rfl,B0,by omega,fun l2 H6 US HH e6=>?_⟩⟩
   exact⟨l2,_,rfl,US,by omega,e5.trans e6⟩
  ·rintro σ H5 ⟨l',v,rfl,B0,L0,e5⟩
   exact⟨_,rfl,q l' H5 B0 (by omega) e5⟩
def i7(l:List Nat):Nat:=(l.filter iQ).length
theorem d9(a b:List Nat):i7 (a++b)=i7 a+i7 b:=by unfold i7;rw[List.filter_append,List.length_append]
theorem jL{c:Nat}(h:iQ c=false)(l:List Nat):i7 (c::l)=i7 l:=by unfold i7;rw[List.filter_cons,h];rfl
theorem t8{l:List Nat}(h:∀c∈l,iQ c=false):i7 l=0:=by
 unfold i7
 rw[List.filter_eq_nil_iff.mpr fun c hc=>by rw[h c hc];simp]
 rfl
theorem lM{n:Int}(h1:1≤n)(h2:n≤999):i7 (bA n)=0:=t8 fun c hc=>by
 obtain⟨m,rfl,m1,m0⟩:=yU h1 (by omega)
 exact(mU (List.all_eq_true.mp (lz m) c hc)).1
theorem z5{k:List Nat}(h:lD k):i7 k=1:=by
 obtain⟨c,r,rfl,hg,hs,_⟩:=h
 have:i7 r=0:=t8 fun b hb=>(vv (List.all_eq_true.mp hs b hb)).2.1
 unfold i7 at this ⊢
 rw[List.filter_cons,hg]
 show (r.filter iQ).length+1=1
 omega
theorem z6:∀(d:Nat) (t:Tr) (m:Int),kD d t→1≤m→i7 (cJ d t)=(bc d m t).length∧∀p∈bc d m t,1≤p.2
 |d, .one k n,m,h,hm=>by
  have h:lD k∧1≤n∧n≤999:=by cases d<;>exact h
  have e:cJ d (.one k n)=k++bA n:=by cases d<;>rfl
  have e2:bc d m (.one k n)=[(⟨k.toArray⟩,n*m)]:=by cases d<;>rfl
  rw[e,e2,d9,z5 h.1,lM h.2.1 h.2.2]
  refine⟨rfl,fun p hp=>?_⟩
  rw[List.mem_singleton.mp hp]
  show 1≤n*m
  have:=Int.mul_le_mul h.2.1 hm (by decide) (by omega)
  omega
 |0, .gr _ _,_,h,_=>h.elim
 |d+1, .gr ts n,m,⟨_,h,n1,n2⟩,hm=>by
  have e:cJ (d+1) (.gr ts n)=40::(ts.flatMap (cJ d)++41::bA n):=rfl
  have e2:bc (d+1) m (.gr ts n)=ts.flatMap (bc d (n*m)):=rfl
  have UT:1≤n*m:=by have:=Int.mul_le_mul n1 hm (by decide) (by omega);omega
  rw[e,e2,jL (by decide),d9,jL (by decide),lM n1 n2,Nat.add_zero]
  have:∀ts:List Tr,(∀t∈ts,kD d t)→i7 (ts.flatMap (cJ d))=(ts.flatMap (bc d (n*m))).length∧∀p∈ts.flatMap (bc d (n*m)),1≤p.2:=by
   intro ts
   induction ts with
   |nil=>intro _;exact⟨rfl,fun p hp=>by cases hp⟩
   |cons t r ih=>
    intro h
    obtain⟨i1,i2⟩:=ih fun t ht=>h t (List.mem_cons_of_mem _ ht)
    obtain⟨j1,j2⟩:=z6 d t (n*m) (h t (List.mem_cons_self ..)) UT
    rw[List.flatMap_cons,List.flatMap_cons,d9,List.length_append,i1,j1]
    refine⟨rfl,fun p hp=>?_⟩
    rcases List.mem_append.mp hp with z|z
    ·exact j2 p z
    ·exact i2 p z
  exact this ts h
theorem qq{m:Int}(hm:1≤m):∀{ts:List Tr},(∀t∈ts,kD 4 t)→i7 (ts.flatMap (cJ 4))=(ts.flatMap (bc 4 m)).length∧∀p∈ts.flatMap (bc 4 m),1≤p.2
 | [],_=>⟨rfl,fun p hp=>by cases hp⟩
 |t::r,h=>by
  obtain⟨i1,i2⟩:=qq hm fun t ht=>h t (List.mem_cons_of_mem _ ht)
  obtain⟨j1,j2⟩:=z6 4 t m (h t (List.mem_cons_self ..)) hm
  rw[List.flatMap_cons,List.flatMap_cons,d9,List.length_append,i1,j1]
  refine⟨rfl,fun p hp=>?_⟩
  rcases List.mem_append.mp hp with z|z
  ·exact j2 p z
  ·exact i2 p z
theorem sH:∀{r:List d8},(∀y∈r,sJ 4 y)→i7 (bU 4 r)=(r.flatMap (cU 4)).length∧∀p∈r.flatMap (cU 4),1≤p.2
 | [],_=>⟨rfl,fun p hp=>by cases hp⟩
 |y::r,h=>by
  obtain⟨i1,i2⟩:=sH fun y hy=>h y (List.mem_cons_of_mem _ hy)
  obtain⟨_,o,n1,n2⟩:=h y (List.mem_cons_self ..)
  obtain⟨j1,j2⟩:=qq n1 o
  have e:bU 4 (y::r)=46::(bA y.1++y.2.flatMap (cJ 4))++bU 4 r:=by unfold bU dY;rw[List.flatMap_cons]
  rw[e,d9,jL (by decide),d9,lM n1 n2,Nat.zero_add,i1,j1,List.flatMap_cons,List.length_append]
  refine⟨rfl,fun p hp=>?_⟩
  rcases List.mem_append.mp hp with z|z
  ·exact j2 p z
  ·exact i2 p z
theorem z7{xs:List d8}{n:Int}(h:yX 4 xs n):i7 (wL 4 xs n)=(xs.flatMap (cU 4)).length∧∀p∈xs.flatMap (cU 4),1≤p.2:=by
 cases xs with
 |nil=>exact⟨by show i7 [101,94,45]=0;decide,fun p hp=>by cases hp⟩
 |cons x r=>
  obtain⟨x1,o,n1,n2⟩:=h
  obtain⟨i1,i2⟩:=sH (r:=r) fun y hy=>o y (List.mem_cons_of_mem _ hy)
  obtain⟨_,o1,m1,m2⟩:=o x (List.mem_cons_self ..)
  obtain⟨j1,j2⟩:=qq m1 o1
  have hc:i7 (mE n)=0:=by
   unfold mE
   by_cases h0:n=0
   ·rw[if_pos h0];rfl
   ·rw[if_neg h0,jL (by decide),d9,lM (by split<;>omega) (by split<;>omega)]
    split<;>decide
  rw[show wL 4 (x::r) n=x.2.flatMap (cJ 4)++(bU 4 r++mE n) from rfl,d9,d9,hc,i1,j1,List.flatMap_cons,List.length_append]
  refine⟨rfl,fun p hp=>?_⟩
  rcases List.mem_append.mp hp with z|z
  ·exact j2 p z
  ·exact i2 p z
def Ay(D:List (Key×V))(ks:List Key):Int:=(ks.map (eS D)).sum
theorem t9{D:List (Key×V)}{k:Key}{n:Int}:∀{ks:List Key},¬k∈ks→(ks.map (eS (du D k n))).sum=(ks.map (eS D)).sum
 | [],_=>rfl
 |j::r,h=>by
  rw[List.map_cons,List.map_cons,List.sum_cons,List.sum_cons,t9 fun z=>h (List.mem_cons_of_mem _ z),lA,if_neg fun z=>h (by rw[z];exact List.mem_cons_self ..),Int.add_zero]
theorem CY{D:List (Key×V)}{k:Key}{n:Int}:∀{ks:List Key},ks.Nodup→k∈ks→(ks.map (eS (du D k n))).sum=(ks.map (eS D)).sum+n
 | [],_,h=>by cases h
 |j::r,hn,h=>by
  rw[List.nodup_cons] at hn
  rw[List.map_cons,List.map_cons,List.sum_cons,List.sum_cons,lA]
  rcases List.mem_cons.mp h with e|h
  ·subst e
   rw[if_pos rfl,t9 hn.1]
   omega
  ·rw[CY hn.2 h,if_neg fun z=>hn.1 (by rw[←z];exact h)]
   omega
theorem Fn{D:List (Key×V)}(hn:(D.map (·.1)).Nodup)(k:Key)(n:Int):Ay (du D k n) ((du D k n).map (·.1))=Ay D (D.map (·.1))+n:=by
 unfold Ay
 have e:(du D k n).map (·.1)=gS (D.map (·.1)) k:=jx D k _
 rw[e]
 unfold gS
 by_cases h:k∈D.map (·.1)
 ·rw[if_pos h,CY hn h]
 ·rw[if_neg h,List.map_append,List.sum_append,t9 h]
  show _+(eS (du D k n) k+0)=_
  rw[lA,if_pos rfl,vg h]
  omega
theorem z8:∀(as:List (Str×Int)) (acc:List (Key×V)),(acc.map (·.1)).Nodup→Ay (bQ 1 acc as) ((bQ 1 acc as).map (·.1))=Ay acc (acc.map (·.1))+(as.map (·.2)).sum
 | [],acc,_=>by rw[List.map_nil,List.sum_nil,Int.add_zero];rfl
 |p::r,acc,h=>by
  have e:bQ 1 acc (p::r)=bQ 1 (du acc (Sum.inr p.1) (p.2*1)) r:=rfl
  rw[e,z8 r (du acc (Sum.inr p.1) (p.2*1)) (tF h),Fn h,List.map_cons,List.sum_cons,Int.mul_one,Int.add_assoc]
theorem z9:∀{as:List (Str×Int)},(∀p∈as,1≤p.2)→(as.length:Int)≤(as.map (·.2)).sum
 | [],_=>Int.le_refl _
 |p::r,h=>by
  have:=z9 fun p hp=>h p (List.mem_cons_of_mem _ hp)
  have:=h p (List.mem_cons_self ..)
  rw[List.map_cons,List.sum_cons,List.length_cons]
  omega
theorem vK{K:List Key}{k j:Key}(h:j∈K∨j=k):j∈gS K k:=by
 unfold gS
 by_cases z:k∈K
 ·rw[if_pos z]
  rcases h with h|h
  ·exact h
  ·rw[h];exact z
 ·rw[if_neg z]
  exact List.mem_append.mpr (h.imp id fun e=>by rw[e];exact List.mem_singleton.mpr rfl)
theorem sI:∀(as:List (Str×Int)) (acc:List (Key×V)) (j:Key),j∈acc.map (·.1)→j∈(bQ 1 acc as).map (·.1)
 | [],_,_,h=>h
 |p::r,acc,j,h=>by
  have e:bQ 1 acc (p::r)=bQ 1 (du acc (Sum.inr p.1) (p.2*1)) r:=rfl
  rw[e]
  refine sI r _ j ?_
  rw[show (du acc (Sum.inr p.1) (p.2*1)).map (·.1)=gS (acc.map (·.1)) (Sum.inr p.1) from jx acc _ _]
  exact vK (.inl h)
theorem B1(p:Str×Int)(r:List (Str×Int)):(Sum.inr p.1 :Key)∈(bQ 1 [] (p::r)).map (·.1):=by
 have e:bQ 1 [] (p::r)=bQ 1 (du [] (Sum.inr p.1) (p.2*1)) r:=rfl
 rw[e]
 refine sI r _ _ ?_
 rw[show (du [] (Sum.inr p.1) (p.2*1)).map (·.1)=gS (([]:List (Key×V)).map (·.1)) (Sum.inr p.1) from jx [] _ _]
 exact vK (.inr rfl)
theorem Aa{xs:List d8}{n:Int}(h:yX 4 xs n):(i7 (wL 4 xs n)=0↔cW 4 xs=[])∧(cW 4 xs).length≤i7 (wL 4 xs n)∧(i7 (wL 4 xs n):Int)≤Ay (cW 4 xs) ((cW 4 xs).map (·.1)):=by
 obtain⟨e,hp⟩:=z7 h
 have hs:=z8 (xs.flatMap (cU 4)) [] List.nodup_nil
 have hl:(cW 4 xs).length≤(xs.flatMap (cU 4)).length:=h9 _
 rw[e]
 refine⟨⟨fun z=>?_,fun z=>?_⟩,hl,?_⟩
 ·exact List.length_eq_zero_iff.mp (by omega)
 ·cases hf:xs.flatMap (cU 4) with
  |nil=>rfl
  |cons p r=>
   exfalso
   have:bQ 1 [] (p::r)=[]:=by rw[←hf];exact z
   have h2:=B1 p r
   rw[this] at h2
   cases h2
 ·show _≤Ay (bQ 1 [] _) _
  have e0:Ay ([]:List (Key×V)) []=0:=rfl
  rw[show cW 4 xs=bQ 1 [] (xs.flatMap (cU 4)) from rfl,hs,List.map_nil,e0,Int.zero_add]
  exact z9 hp
variable {HE NF TL:Addr}{uC uP uI uD uL uT:Tok}
structure Iq(K:PySem.W.Frag)(mg:Str→Option Value)(C R G Pc Fo HE NF TL:Addr)(uK uN uB uE uM uC uP uI uD uL uT:Tok):Prop extends hU K mg C R G Pc Fo uK uN uB uE uM uC uP uI uD uL uT,qb K mg HE NF TL where
 Fp:mg "dict" =none
 Ir:mg "sum" =none
 qr:PySem.W.yF K NF
 B2:PySem.W.findIn K (.ref NF) "place" =some none
 qt:PySem.W.mroIn K NF (.ref NF)=some true
theorem Ab{A r:TS}{D:Ends}{σ:L2.St}{H:Hp}(Pm:L2.St→Hp→Prop)(h:∀N:L2.St→Hp→Prop,(∀σ' H',Pm σ' H'→N σ' H')→A { D with nx:=N } σ H)(hr:∀σ' H',Pm σ' H'→r D σ' H'):AG A r D σ H:=h _ hr
def vL(K:PySem.W.Frag):Sp:=fun vs H Q _=>∃(a:Addr) (ns:List Int),vs=[.ref a]∧bF K H a (ns.map V.int)∧ns.length≤63∧∀H',Q (.bl true) H'
theorem CZ:∀{l:List Nat} {s:S8} {dp:Nat} {u:List Nat},vd s dp l=some u→u.length≤l.length
 | [],s,dp,u,h=>by
   rw[vd] at h
   split at h
   ·cases h
   ·cases h;exact Nat.le_refl _
 |c::r,s,dp,u,h=>by
  rw[vd] at h
  split at h
  ·cases h;exact Nat.le_refl _
  ·exact Nat.le_succ_of_le (CZ h)
theorem iT:az ["_law_script","_law_text_here","_law_due","_law_told","_law_found","e","_law_counts","_law_shown_here","_law_greats"] ["_law_script"] (ao mr):=dM
theorem Fq{f f0:Addr}{fd:FuncData}(F:xD K "law" "law" mr f fd)(T:Iq K mg C R G Pc Fo HE NF TL uK uN uB uE uM uC uP uI uD uL uT)(Z:PySem.W.dN K NF HE f0)(c1:a4 P w K mg base 9 "_law_drawn" ["_law_script"] (sG K))(c2:a4 P w K mg base 3 "_law_place" ["_law_text_here"] vz)(c3:rn P w K mg base 21 "read_formula" ["text"] (vq NF TL C G Pc Fo))(c4:a4 P w K mg base 1 "_law_whole" ["_law_found"] u9)(c5:bW P w K mg base 13 Fo "counts" ["self"] (m8 C G Pc Fo 4))(c6:bW P w K mg base 13 Fo "shown" ["self"] (oJ C G Pc Fo 4)):
  ei P w K mg base pj 22 f fd ["_law_script"] (vL K):=by
 obtain⟨_,_,iD⟩:=c1
 obtain⟨_,_,iE⟩:=c2
 obtain⟨_,_,dJ⟩:=c3
 obtain⟨_,_,iF⟩:=c4
 obtain⟨_,_,dZ⟩:=c5
 obtain⟨_,_,eD⟩:=c6
 refine F.ok iT (fun vs H Q E h=>?_) (fun ba A outer s H vs Q E hr h=>?_)
 ·obtain⟨a,ns,rfl,_⟩:=h
  rfl
 ·obtain⟨a,ns,rfl,hS,hlen,q⟩:=h
  have hu:=nX hr
  have UU:=hr.DK
  have big:(3000 :Nat) <sizeLine:=by decide
  refine⟨_,(ai
     (aL (i:=1) iT.nd rfl (Or.inl rfl) (aJ iD.ok (hr.mono (by decide)) rfl iD.g iD.kp iD.b .nil aM (aa (pv 0) ak)))
    (ai
     (aL (i:=2) iT.nd rfl (Or.inl rfl) (aJ iE.ok (hr.mono (by decide)) rfl iE.g iE.kp iE.b .nil aM (aa (pv 1) ak)))
    (ai
     (aL (i:=3) iT.nd rfl (Or.inl rfl) (kz gY aj))
    (ai
     (Bg ⟨rfl,rfl⟩ (fun _ _=>
      (aq
       (aL (i:=4) iT.nd rfl (Or.inl rfl) (rj dJ.ok (hr.mono (by decide)) rfl dJ.g dJ.kp dJ.b .nil yB (aa (pv 1) ak))))) (fun _=>(Eg K rfl (i:=5) rfl T.rJ T.qr iT.nd rfl rfl (fun _=>
      (aq
       (aL (i:=3) iT.nd rfl (Or.inl rfl) (yG K rfl (pv 5) rfl)))) (Ef Bf))))
    (ai
     (aY (PW.pt (fK (jS (dw (aJ iF.ok (hr.mono (by decide)) rfl iF.g iF.kp iF.b .nil aM (aa (pv 3) ak)))) (eX (au uu (pv 3) (pv 2) (aA _)))))
      (aq
       (ay gO))
      aK)
    (ai
     (aY (au Cp (pv 2) aj (aA _))
      (aq
       (ay gO))
      aK)
    (ai
     (aL (i:=6) iT.nd rfl (Or.inr rfl) (bq (pv 4) T.bx dZ.m dZ.ok (hr.mono (by decide)) dZ.b .nil aM))
    (ai
     (aL (i:=7) iT.nd rfl (Or.inl rfl) (bq (pv 4) T.bx eD.m eD.ok (hr.mono (by decide)) eD.b .nil aM))
    (ai
     (aL (i:=8) iT.nd rfl (Or.inl rfl) (a9 cm rfl T.er cH (aa (gj (sc:=(ao mr)) (NX:=["_law_script","_law_text_here","_law_due","_law_told","_law_found","e","_law_counts","_law_shown_here","_law_greats"]) (N:=["_law_sign_here"]) (fr:=[none]) ⟨by rfl,by rfl,by decide+kernel,by decide+kernel,by decide+kernel,by rfl,by decide+kernel⟩ rfl rfl rfl (yu (pv 1)) (fun _ _ _ _=>(aX (i:=0) (show (["_law_sign_here"]:List Str).Nodup by decide+kernel) rfl (Or.inl rfl) (Or.inr rfl))) (fun _ _ _ _=>(A0 (dw (iY (pv 0))))) (fun _ _ _ _=>(pv 0))) ak)))
    (ai
     (aY (PW.pt (fK (jS (dw (a9 fk rfl T.eO d6 (aa (pv 7) (aa (kR (v:= .ty "str") rfl T.yK tm rfl) ak))))) (fK (au uu (pv 7) (pv 1) (aA _)) (eX (jS (dw (a9 fk rfl T.eO d6 (aa (pv 6) (aa (kR (v:= .ty "dict") rfl T.Fp A4 rfl) ak)))))))))
      (aq
       (ay gO))
      aK)
    (aq
     (ay (oY (d3 aW (d3 aW (pv 8) aj (aA _)) (d3 (DV UU) (pv 6) l6 (aA _)) (aA _)) (oY (d3 Co (a9 ti rfl T.er cH (aa (pv 6) ak)) (pv 8) (aA _)) (sQ (d3 Cp (a9 (yn rfl) rfl T.Ir D0 (aa (AY (gj (sc:=(ao mr)) (NX:=["_law_script","_law_text_here","_law_due","_law_told","_law_found","e","_law_counts","_law_shown_here","_law_greats"]) (N:=["_law_one","_law_counts"]) (fr:=[none,some 6]) ⟨by rfl,by rfl,by decide+kernel,by decide+kernel,by decide+kernel,by rfl,by decide+kernel⟩ rfl rfl rfl (pk (pv 6)) (fun _ _ _ _=>(aX (i:=0) (show (["_law_one","_law_counts"]:List Str).Nodup by decide+kernel) rfl (Or.inl rfl) (Or.inr rfl))) (fun _ _ _ _=>ik) (fun _ _ _ _=>(jc hu (pv 1) (pv 0) (fun _ _=>rfl))))) ak)) (pv 8) (aA _))))))))))))))))),?_⟩
  refine⟨_,rfl,a,ns,rfl,hS,hlen,fun l H1 ha hl e1=>?_⟩
  have xl:(⟨l.toArray⟩:Str).length=l.length:=aB l
  have asc:(⟨l.toArray⟩:Str).cps.all (· <128)=true:=cX.str ha
  refine⟨_,rfl,⟨l.toArray⟩,rfl,asc,by omega,fun H2 e2=>?_⟩
  have el:(⟨l.toArray⟩:Str).cps.toList=l:=rfl
  rw[el]
  refine⟨1,rfl,?_⟩
  dsimp only [fL]
  refine Ab (fun σ' H'=>∃v:Option V,(vd vx 0 l≠none∧σ'=[some (.ref a),some (.str ⟨l.toArray⟩),some (.int (sM l)),some (.int (sM l)),none,v,none,none,none])∨∃(f:Addr) (xs:List d8) (n:Int),vd vx 0 l=none∧σ'=[some (.ref a),some (.str ⟨l.toArray⟩),some (.int (sM l)),some (.int (-1)),some (.ref f),v,none,none,none]∧mF C G Pc Fo 4 H' f xs n∧l=wL 4 xs n∧yX 4 xs n) (fun N hN=>?_) ?_
  ·refine⟨_,rfl,⟨l.toArray⟩,rfl,by omega,fun _ xs n f H3 hW nf hF e3=>?_,fun _ e he hB b dx H3 nb nd h1 h2 e3=>?_,fun h=>absurd h (by omega)⟩
   ·obtain⟨UW,ok⟩:=Eu.ok hW
    have hv:=zh hW
    rw[if_pos rfl] at hv
    exact hN _ _ ⟨none, .inr ⟨f,xs,n,hv,rfl,hF H3 fun _ _ _ z=>z,UW,ok⟩⟩
   ·have hv:vd vx 0 l=some (sf ⟨l.toArray⟩ e):=EK hB
    have ep:sM l=(e:Int):=by
     unfold sM
     rw[hv]
     show (l.length:Int) - ((sf ⟨l.toArray⟩ e).length:Int)=(e:Int)
     rw[kj,xl]
     omega
    refine⟨NF,HE,f0,true,rfl,Z,T.qt,cA fun e' F'=>?_⟩
    refine⟨_,rfl,e',NF,HE,f0,dx,_, .int (e:Int),rfl,Z,T.B2,F',h2,rfl,?_⟩
    refine hN _ _ ⟨none, .inl ⟨by rw[hv];simp,?_⟩⟩
    rw[ep]
    rfl
  rintro σ H3 ⟨v,⟨hv,rfl⟩ | ⟨f,xs,n,hv,rfl,hF,rfl,ok⟩⟩
  ·have hp:0≤sM l:=by
    unfold sM
    cases hz:vd vx 0 l with
    |none=>exact absurd hz hv
    |some u=>
     have:=CZ hz
     show 0≤(l.length:Int) - (u.length:Int)
     omega
   refine⟨_,rfl,_,rfl,_,rfl,cQ ⟨_,rfl,_,rfl,rfl,_,rfl,uz rfl ?_⟩⟩
   exact⟨_,rfl,_,_,rfl,rfl,_,rfl,bY (by omega) (q _)⟩
  ·have hp:sM (wL 4 xs n)= -1:=by unfold sM;rw[hv]
   rw[hp]
   refine⟨_,rfl,_,rfl,_,rfl,cQ ⟨_,rfl,_,rfl,rfl,_,rfl,uz rfl ?_⟩⟩
   refine⟨_,rfl,_,_,rfl,rfl,_,rfl,bT (by decide) ?_⟩
   obtain⟨df,lf,pf,hf,_⟩:=id hF
   obtain⟨gN,_⟩:=z7 ok
   have gl:i7 (wL 4 xs n)≤400:=Nat.le_trans (List.length_filter_le _ _) hl
   refine⟨_,rfl,f,df,_,rfl,hf,rF _ _ (by decide+kernel) (by decide+kernel),f,xs,n,rfl,hF,ok,by omega,fun d H4 nd hd e4=>?_⟩
   refine⟨_,rfl,f,df,_,rfl,e4 _ _ hf,rF _ _ (by decide+kernel) (by decide+kernel),f,xs,n,rfl,hF.same e4,ok,by omega,fun H5 e5=>?_⟩
   have UX:=e5 _ _ hd
   clear hF hf hd e4 e5
   refine⟨_,rfl,⟨(wL 4 xs n).toArray⟩,rfl,asc,fun M hM=>yq (wL 4 xs n).length H5 (fun σ=>∃v:Option V,σ=[v]) (fun i ys=>ys.length=i7 ((wL 4 xs n).take i)) (fun i H' hi _=>?_) (fun H' _=>?_) hM ⟨none,rfl⟩ (aD.new hM) ag rfl (by omega) (fun i ys h=>?_) ?_ ?_⟩
   ·show i< (⟨(wL 4 xs n).toArray⟩:Str).length
    omega
   ·show (⟨(wL 4 xs n).toArray⟩:Str).length≤(wL 4 xs n).length
    omega
   ·rw[h]
    exact Nat.le_trans (List.length_filter_le _ _) (by rw[List.length_take];omega)
   ·rintro i σ H' ys hi ⟨v2,rfl⟩ e6 L1 yr N M' hN UY x H6 ⟨rfl,c,hc,rfl⟩
    have vY:(wL 4 xs n)[i]? =some c:=by
     have:=hc
     rw[←Array.getElem?_toList] at this
     exact this
    have tk:(wL 4 xs n).take (i+1)=(wL 4 xs n).take i++[c]:=by rw[List.take_add_one,vY];rfl
    refine⟨_,rfl,_,rfl,_,rfl,?_⟩
    rw[vy c (ha c (List.mem_of_getElem? vY))]
    have g1:i7 ((wL 4 xs n).take (i+1))=i7 ((wL 4 xs n).take i)+i7 [c]:=by rw[tk,d9]
    by_cases hg:iQ c=true
    ·rw[hg]
     refine cA ⟨_,rfl,hN _ _ _ ⟨_,rfl⟩ e6 L1 ?_⟩
     rw[List.length_append,yr,g1]
     unfold i7
     rw[List.filter_cons,hg]
     rfl
    ·refine dq (fun z=>absurd z hg) fun _=>UY _ _ ⟨_,rfl⟩ e6 L1 ?_
     rw[yr,g1]
     have:i7 [c]=0:=t8 fun b hb=>by rw[List.mem_singleton.mp hb];exact Bool.eq_false_iff.mpr hg
     omega
   ·intro H6 ys e6 L1 yr
    rw[List.take_length] at yr
    have Oe:=e6 _ _ UX
    refine⟨M,ys,rfl, .inl (bF.of L1),?_⟩
    rw[yr]
    refine⟨_,rfl,_,_,_,_,_,rfl,rfl, .str _,T.k4,_,rfl,cQ ⟨_,rfl,_,rfl,rfl,_,rfl,uz rfl ⟨_,rfl,_,_,_,_,_,rfl,rfl, .dK Oe,T.k3,_,rfl,cQ ?_⟩⟩⟩
    obtain⟨g0,g1,g2⟩:=Aa ok
    have fl:n9 (cW 4 xs):=fun p hp=>by obtain⟨i,e⟩:=dH _ p hp;rw[e];rfl
    have UZ:(cW 4 xs).length≤400:=Nat.le_trans g1 gl
    have VX:((cW 4 xs).map (·.1)).Nodup:=qk _
    have cI:dh (cW 4 xs):=dH _
    refine⟨_,rfl,rfl,_,rfl,fun p hp=>⟨d,p,_,[],rfl,rfl, .inl ?_, .inl ag,fl,(fun _ z=>by cases z),fun _ _=>⟨rfl,true,?_,cA ?_⟩⟩⟩
    ·exact(aD.new hp) _ _ Oe
    ·have e2:Ly (cW 4 xs) []=decide (cW 4 xs=[]):=by
      unfold Ly
      cases hz:cW 4 xs with
      |nil=>rfl
      |cons _ _=>rfl
     have e1:(decide (V.int (i7 (wL 4 xs n):Int)=V.int 0):Bool)=decide (cW 4 xs=[]):=by
      refine decide_eq_decide.mpr ⟨fun z=>g0.mp ?_,fun z=>?_⟩
      ·injection z with z
       omega
      ·rw[g0.mpr z];rfl
     rw[e1,e2,Bool.false_xor,decide_eq_true rfl]
    have Of:(upd H6 p (.dK [])) d=some (.dK (cW 4 xs)):=(aD.new hp) _ _ Oe
    generalize upd H6 p (.dK [])=H7 at Of ⊢
    refine⟨_,rfl,d,_,rfl, .inl Of,_,rfl,_,_,rfl,rfl,true,by rw[decide_eq_true (by omega)],cA ?_⟩
    refine⟨_,rfl,d,cW 4 xs,rfl,Of,fun o nf L hL=>?_⟩
    have Og:L≠d:=fun z=>by rw[z,ag] at hL;cases hL
    refine wz (a:=d) (D:=L) (kvs:=cW 4 xs) (fun i σ H'=>∃v:Option V,σ=[v,some (.ref d)]∧H' d=some (.iG o (.dK (cW 4 xs)))∧H' L=some (.lst ((((cW 4 xs).take i).map fun q=>eS (cW 4 xs) q.1).map V.int))) ?_ (fun i σ H' ⟨_,_,z,_⟩=>z) ?_ ?_
    ·exact⟨none,rfl,by rw[ah (Ne.symm Og),ag],ag⟩
    ·rintro i k v2 σ H' hi ⟨v',rfl,f1,f2⟩ N hN
     have hv:=cI.vC (List.mem_of_getElem? hi)
     have VY:=(List.getElem?_eq_some_iff.mp hi).1
     refine⟨_,rfl,_,rfl,d,V.int (eS (cW 4 xs) k),rfl, .inl ⟨_,k, .inr ⟨o,f1⟩,rfl,hv.symm⟩,_,f2,by rw[List.length_map,List.length_map,List.length_take];omega,hN _ _ ⟨_,rfl,by rw[ah (Ne.symm Og)];exact f1,?_⟩⟩
     rw[ag,List.take_add_one,hi]
     simp
    ·rintro σ H' ⟨v',rfl,f1,f2⟩
     rw[List.take_length] at f2
     refine⟨d,o,_,f1,nf,L,_,rfl,bF.of (by rw[ah Og];exact f2),_,rfl,_,_,rfl,rfl,?_⟩
     have:((cW 4 xs).map fun q=>eS (cW 4 xs) q.1).sum=Ay (cW 4 xs) ((cW 4 xs).map (·.1)):=by
      unfold Ay
      rw[List.map_map]
      rfl
     rw[this,decide_eq_true (by omega)]
     exact q _
end
theorem all_mk{l:PySem.W.OpenLaw}{w:World}{K:PySem.W.Frag}{h:Heap}{mg:Str→Option Value}{fa C Gr Pc Fo Rd HE NF TL Iu Iv Iw Iy Iz vM IA B3 IB B4 IC ID IE B5 IF IG IH II IJ IK IL IM C0 IP IQ C1 IS IT C2 IU IV IW IX IY IZ B6 B7 Ja Jb Jc Jd Je Jf Jg Jh Ji Jj Jk C3 C4 C5 C6 C7 C8 C9 Dc Dd Fs:Addr}(X:K.In h)(G:h.Ns mainGlobals mg)(U0:mg "law" =some (.ref fa))
  {Ft uc Jl Ac Jm Ad Jn Ae Jo De:Option Addr} {Fu Jp Jq Jr Js:Array (Option Value)} {Fv ud ue uf qu ug Jt Af Ag Ah vN Ai Ju Aj Ak Al vO Am Jv An Ao Ap vP Aq Jw Df Dg Dh Ar Di:Value}
  {qv:Addr} {B8:Value} {B9:Option Addr} {Ca:Array (Option Value)} {Fw:Nat} {As:Tok}
  {vQ:Addr} {Fx:Value} {Fy:Option Addr} {Fz:Array (Option Value)} {Jx:Nat} {Dj:Tok}
  {vR:Addr} {FA:Value} {FC:Option Addr} {FD:Array (Option Value)} {Jy:Nat} {Dk:Tok}
  {vS:Addr} {FE:Value} {FF:Option Addr} {FG:Array (Option Value)} {Jz:Nat} {Dl:Tok}
  {uK uN uB uE uM uC uP uI uD uL uT:Tok}
  (aC:PySem.W.nsIn K mainGlobals "Atom" =some (some (.ref C)))
  (U1:PySem.W.nsIn K mainGlobals "Group" =some (some (.ref Gr)))
  (U2:PySem.W.nsIn K mainGlobals "Piece" =some (some (.ref Pc)))
  (U3:PySem.W.nsIn K mainGlobals "Formula" =some (some (.ref Fo)))
  (U4:PySem.W.nsIn K mainGlobals "Reader" =some (some (.ref Rd)))
  (U5:PySem.W.nsIn K mainGlobals "HallError" =some (some (.ref HE)))
  (Sy:PySem.W.nsIn K mainGlobals "NoFormula" =some (some (.ref NF)))
  (SA:PySem.W.nsIn K mainGlobals "TooLong" =some (some (.ref TL)))
  (Oh:PySem.W.nsIn K mainGlobals "is_great" =some (some (.ref Iu)))
  (Oi:dO K "is_great" "is_great" pI Iu)
  (Oj:PySem.W.nsIn K mainGlobals "is_small" =some (some (.ref Iv)))
  (Ol:dO K "is_small" "is_small" pJ Iv)
  (Om:PySem.W.nsIn K mainGlobals "is_figure" =some (some (.ref Iw)))
  (Oo:dO K "is_figure" "is_figure" kZ Iw)
  (Oq:PySem.W.nsIn K mainGlobals "count_shown" =some (some (.ref Iy)))
  (Ot:dO K "count_shown" "count_shown" fo Iy)
  (Ou:PySem.W.nsIn K mainGlobals "parts_shown" =some (some (.ref Iz)))
  (Ov:dO K "parts_shown" "parts_shown" iq Iz)
  (JA:PySem.W.findIn K (.ref C) "__init__" =some (some (.ref vM)))
  (JB:PySem.W.isFn K (.ref vM)=true)
  (JC:K.lookup vM=some ⟨Fv,Ft, .func (PySem.W.fnOf "__init__" "Atom.__init__" (bD fV) (aZ fV) (ao fV) (.ref qv) ud ue uf uc qu ug),Fu⟩)
  (Dm:K.lookup qv=some ⟨B8,B9, .seq #[.int 1 As] Fw,Ca⟩)
  (JD:PySem.W.codeIn K qu "Atom.__init__" =true)
  (JE:PySem.W.keepIn K (.ref vM)=true)
  (Ow:PySem.W.findIn K (.ref C) "shown" =some (some (.ref IA)))
  (Ox:dO K "shown" "Atom.shown" pK IA)
  (Oy:PySem.W.findIn K (.ref Gr) "__init__" =some (some (.ref B3)))
  (Oz:PySem.W.isFn K (.ref B3)=true)
  (OA:K.lookup B3=some ⟨Jt,Jl, .func (PySem.W.fnOf "__init__" "Group.__init__" (bD dS) (aZ dS) (ao dS) (.ref vQ) Af Ag Ah Ac vN Ai),Jp⟩)
  (JF:K.lookup vQ=some ⟨Fx,Fy, .seq #[.int 1 Dj] Jx,Fz⟩)
  (OB:PySem.W.codeIn K vN "Group.__init__" =true)
  (OC:PySem.W.keepIn K (.ref B3)=true)
  (OD:PySem.W.findIn K (.ref Gr) "shown" =some (some (.ref IB)))
  (OE:dO K "shown" "Group.shown" ir IB)
  (OF:PySem.W.findIn K (.ref Pc) "__init__" =some (some (.ref B4)))
  (OG:PySem.W.isFn K (.ref B4)=true)
  (OH:K.lookup B4=some ⟨Ju,Jm, .func (PySem.W.fnOf "__init__" "Piece.__init__" (bD dU) (aZ dU) (ao dU) (.ref vR) Aj Ak Al Ad vO Am),Jq⟩)
  (JG:K.lookup vR=some ⟨FA,FC, .seq #[.int 1 Dk] Jy,FD⟩)
  (OI:PySem.W.codeIn K vO "Piece.__init__" =true)
  (OJ:PySem.W.keepIn K (.ref B4)=true)
  (OL:PySem.W.findIn K (.ref Pc) "shown" =some (some (.ref IC)))
  (OM:dO K "shown" "Piece.shown" fq IC)
  (ON:PySem.W.nsIn K mainGlobals "refuse_too_long" =some (some (.ref ID)))
  (OO:dO K "refuse_too_long" "refuse_too_long" jh ID)
  (OP:PySem.W.nsIn K mainGlobals "charge_shown" =some (some (.ref IE)))
  (OQ:dO K "charge_shown" "charge_shown" eM IE)
  (OR:PySem.W.findIn K (.ref Fo) "__init__" =some (some (.ref B5)))
  (OS:PySem.W.isFn K (.ref B5)=true)
  (OT:K.lookup B5=some ⟨Jv,Jn, .func (PySem.W.fnOf "__init__" "Formula.__init__" (bD dW) (aZ dW) (ao dW) (.ref vS) An Ao Ap Ae vP Aq),Jr⟩)
  (JH:K.lookup vS=some ⟨FE,FF, .seq #[.int 0 Dl] Jz,FG⟩)
  (OU:PySem.W.codeIn K vP "Formula.__init__" =true)
  (OV:PySem.W.keepIn K (.ref B5)=true)
  (OW:PySem.W.findIn K (.ref Fo) "shown" =some (some (.ref IF)))
  (OX:dO K "shown" "Formula.shown" ji IF)
  (OY:PySem.W.findIn K (.ref Rd) "__init__" =some (some (.ref IG)))
  (OZ:dO K "__init__" "Reader.__init__" pL IG)
  (O0:PySem.W.findIn K (.ref Rd) "sign" =some (some (.ref IH)))
  (O1:dO K "sign" "Reader.sign" uX IH)
  (O2:PySem.W.findIn K (.ref Rd) "take" =some (some (.ref II)))
  (O3:dO K "take" "Reader.take" uY II)
  (O4:PySem.W.findIn K (.ref Rd) "take_all" =some (some (.ref IJ)))
  (O5:dO K "take_all" "Reader.take_all" jk IJ)
  (O6:PySem.W.findIn K (.ref Rd) "take_end" =some (some (.ref IK)))
  (O7:dO K "take_end" "Reader.take_end" jl IK)
  (O8:PySem.W.findIn K (.ref Rd) "read_whole" =some (some (.ref IL)))
  (O9:dO K "read_whole" "Reader.read_whole" k8 IL)
  (Pa:PySem.W.findIn K (.ref Rd) "read_electron" =some (some (.ref IM)))
  (Pb:dO K "read_electron" "Reader.read_electron" gm IM)
  (JI:PySem.W.findIn K (.ref Rd) "read_parts" =some (some (.ref C0)))
  (JJ:dO K "read_parts" "Reader.read_parts" jm C0)
  (Pd:PySem.W.findIn K (.ref Rd) "read_part" =some (some (.ref IP)))
  (Pe:dO K "read_part" "Reader.read_part" mq IP)
  (Pf:PySem.W.findIn K (.ref Rd) "read_group" =some (some (.ref IQ)))
  (Pg:dO K "read_group" "Reader.read_group" iu IQ)
  (JK:PySem.W.findIn K (.ref Rd) "read_atom" =some (some (.ref C1)))
  (JL:dO K "read_atom" "Reader.read_atom" pM C1)
  (Ph:PySem.W.findIn K (.ref Rd) "read_count" =some (some (.ref IS)))
  (Pj:dO K "read_count" "Reader.read_count" k9 IS)
  (Pk:PySem.W.findIn K (.ref Rd) "read_number" =some (some (.ref IT)))
  (Pl:dO K "read_number" "Reader.read_number" jo IT)
  (JM:PySem.W.findIn K (.ref Rd) "read_charge" =some (some (.ref C2)))
  (JN:dO K "read_charge" "Reader.read_charge" jq C2)
  (Po:PySem.W.nsIn K mainGlobals "read_formula" =some (some (.ref IU)))
  (Pp:dO K "read_formula" "read_formula" iw IU)
  (Pq:PySem.W.nsIn K mainGlobals "parts_counts" =some (some (.ref IV)))
  (Pr:dO K "parts_counts" "parts_counts" fU IV)
  (Pt:PySem.W.findIn K (.ref C) "counts" =some (some (.ref IW)))
  (Pu:dO K "counts" "Atom.counts" k7 IW)
  (Pw:PySem.W.findIn K (.ref Gr) "counts" =some (some (.ref IX)))
  (Px:dO K "counts" "Group.counts" fW IX)
  (Pz:PySem.W.findIn K (.ref Pc) "counts" =some (some (.ref IY)))
  (PB:dO K "counts" "Piece.counts" eL IY)
  (PD:PySem.W.findIn K (.ref Fo) "counts" =some (some (.ref IZ)))
  (PJ:dO K "counts" "Formula.counts" jj IZ)
  (PK:PySem.W.findIn K (.ref NF) "__init__" =some (some (.ref B6)))
  (PM:dO K "__init__" "NoFormula.__init__" Bh B6)
  (PN:PySem.W.findIn K (.ref TL) "__init__" =some (some (.ref B7)))
  (PQ:dO K "__init__" "TooLong.__init__" pU B7)
  (PR:PySem.W.nsIn K mainGlobals "_law_cell_at" =some (some (.ref Ja)))
  (PU:dO K "_law_cell_at" "_law_cell_at" lh Ja)
  (PV:PySem.W.nsIn K mainGlobals "_law_mixed" =some (some (.ref Jb)))
  (PX:dO K "_law_mixed" "_law_mixed" pN Jb)
  (PY:PySem.W.nsIn K mainGlobals "_law_whole" =some (some (.ref Jc)))
  (PZ:dO K "_law_whole" "_law_whole" pO Jc)
  (P0:PySem.W.nsIn K mainGlobals "_law_kind" =some (some (.ref Jd)))
  (P1:dO K "_law_kind" "_law_kind" uZ Jd)
  (P2:PySem.W.nsIn K mainGlobals "_law_count" =some (some (.ref Je)))
  (P4:dO K "_law_count" "_law_count" pP Je)
  (P5:PySem.W.nsIn K mainGlobals "_law_figures" =some (some (.ref Jf)))
  (P6:dO K "_law_figures" "_law_figures" jr Jf)
  (P7:PySem.W.nsIn K mainGlobals "_law_part" =some (some (.ref Jg)))
  (P8:dO K "_law_part" "_law_part" u3 Jg)
  (P9:PySem.W.nsIn K mainGlobals "_law_pieces" =some (some (.ref Jh)))
  (P':dO K "_law_pieces" "_law_pieces" lj Jh)
  (Qa:PySem.W.nsIn K mainGlobals "_law_shown" =some (some (.ref Ji)))
  (Qb:dO K "_law_shown" "_law_shown" eN Ji)
  (Qc:PySem.W.nsIn K mainGlobals "_law_charge" =some (some (.ref Jj)))
  (Qd:dO K "_law_charge" "_law_charge" ll Jj)
  (Qe:PySem.W.nsIn K mainGlobals "_law_text" =some (some (.ref Jk)))
  (Qf:dO K "_law_text" "_law_text" rq Jk)
  (JO:PySem.W.nsIn K mainGlobals "_law_sign" =some (some (.ref C3)))
  (JP:dO K "_law_sign" "_law_sign" pQ C3)
  (JQ:PySem.W.nsIn K mainGlobals "_law_spoilt" =some (some (.ref C4)))
  (JR:dO K "_law_spoilt" "_law_spoilt" lq C4)
  (JS:PySem.W.nsIn K mainGlobals "_law_signs_drawn" =some (some (.ref C5)))
  (JT:dO K "_law_signs_drawn" "_law_signs_drawn" pR C5)
  (JU:PySem.W.nsIn K mainGlobals "_law_nested" =some (some (.ref C6)))
  (JV:dO K "_law_nested" "_law_nested" lr C6)
  (JW:PySem.W.nsIn K mainGlobals "_law_drawn" =some (some (.ref C7)))
  (JX:dO K "_law_drawn" "_law_drawn" pS C7)
  (JY:PySem.W.nsIn K mainGlobals "_law_figure" =some (some (.ref C8)))
  (JZ:dO K "_law_figure" "_law_figure" js C8)
  (J0:PySem.W.nsIn K mainGlobals "_law_letter" =some (some (.ref C9)))
  (J1:dO K "_law_letter" "_law_letter" lu C9)
  (J2:PySem.W.nsIn K mainGlobals "_law_next" =some (some (.ref Dc)))
  (J3:dO K "_law_next" "_law_next" u4 Dc)
  (J4:PySem.W.nsIn K mainGlobals "_law_place" =some (some (.ref Dd)))
  (J6:dO K "_law_place" "_law_place" pT Dd)
  (Qg:PySem.W.nsIn K mainGlobals "law" =some (some (.ref Fs)))
  (Qh:K.lookup Fs=some ⟨Jw,Jo, .func (PySem.W.fnOf "law" "law" (bD mr) (aZ mr) (ao mr) .none Df Dg Dh De Ar Di),Js⟩)
  (Qi:PySem.W.codeIn K Ar "law" =true)
  (Qj:PySem.W.keepIn K (.ref Fs)=true)
  (J7:PySem.W.typeIn K (.ref B6)=some (.type "function"))
  (Qk:PySem.W.findIn K (.ref NF) "__setattr__" =some (some (.builtin "object.__setattr__")))
  (Ql:PySem.W.findIn K (.ref NF) "__getattribute__" =some (some (.builtin "BaseException.__getattribute__")))
  (Qm:PySem.W.findIn K (.ref NF) "__getattr__" =some none)
  (Qn:PySem.W.keepIn K (.ref NF)=true)
  (Qo:∃(nm q:Str) (N:Addr) (bs:List Value) (sn:List Str) (sub:List Value) (ab:Bool) (col:Option Bool) (dd:Option Addr) (k0 k1 k2 k3 k5:Option Value),K.lookup NF=some (excClassObj nm q NF N bs (.ref HE::PySem.W.qA) true sn sub ab col dd k0 k1 k2 k3 k5 "ValueError.__new__"))
  (J8:PySem.W.typeIn K (.ref B7)=some (.type "function"))
  (Qq:PySem.W.findIn K (.ref TL) "__setattr__" =some (some (.builtin "object.__setattr__")))
  (Qr:PySem.W.findIn K (.ref TL) "__getattribute__" =some (some (.builtin "BaseException.__getattribute__")))
  (Qs:PySem.W.findIn K (.ref TL) "__getattr__" =some none)
  (Qt:PySem.W.keepIn K (.ref TL)=true)
  (Qu:∃(nm q:Str) (N:Addr) (bs:List Value) (sn:List Str) (sub:List Value) (ab:Bool) (col:Option Bool) (dd:Option Addr) (k0 k1 k2 k3 k5:Option Value),K.lookup TL=some (excClassObj nm q TL N bs (.ref HE::PySem.W.qA) true sn sub ab col dd k0 k1 k2 k3 k5 "ValueError.__new__"))
  (U6:PySem.W.plainGet K C Str.empty=true)
  (U7:PySem.W.hasDictIn K C=true)
  (U8:PySem.W.plainOver K C=true)
  (U9:PySem.W.findIn K (.ref C) "__setattr__" =some (some (.builtin "object.__setattr__")))
  (U':PySem.W.makesIn K C=true)
  (Va:PySem.W.keepIn K (.ref C)=true)
  (Qv:PySem.W.plainGet K Gr Str.empty=true)
  (Qw:PySem.W.hasDictIn K Gr=true)
  (Qx:PySem.W.plainOver K Gr=true)
  (Qy:PySem.W.findIn K (.ref Gr) "__setattr__" =some (some (.builtin "object.__setattr__")))
  (Qz:PySem.W.makesIn K Gr=true)
  (QA:PySem.W.keepIn K (.ref Gr)=true)
  (QB:PySem.W.plainGet K Pc Str.empty=true)
  (QC:PySem.W.hasDictIn K Pc=true)
  (QD:PySem.W.plainOver K Pc=true)
  (QE:PySem.W.findIn K (.ref Pc) "__setattr__" =some (some (.builtin "object.__setattr__")))
  (QF:PySem.W.makesIn K Pc=true)
  (QG:PySem.W.keepIn K (.ref Pc)=true)
  (QH:PySem.W.plainGet K Fo Str.empty=true)
  (QI:PySem.W.hasDictIn K Fo=true)
  (QJ:PySem.W.plainOver K Fo=true)
  (QK:PySem.W.findIn K (.ref Fo) "__setattr__" =some (some (.builtin "object.__setattr__")))
  (QL:PySem.W.makesIn K Fo=true)
  (QM:PySem.W.keepIn K (.ref Fo)=true)
  (QN:PySem.W.plainGet K Rd Str.empty=true)
  (QO:PySem.W.hasDictIn K Rd=true)
  (QP:PySem.W.plainOver K Rd=true)
  (QQ:PySem.W.findIn K (.ref Rd) "__setattr__" =some (some (.builtin "object.__setattr__")))
  (QR:PySem.W.makesIn K Rd=true)
  (QS:PySem.W.keepIn K (.ref Rd)=true)
  (J9:PySem.W.findIn K (.ref C) "kind" =some none)
  (FH:PySem.W.findIn K (.ref C) "count" =some none)
  (Vb:PySem.W.findIn K (.ref Gr) "parts" =some none)
  (Vc:PySem.W.findIn K (.ref Gr) "count" =some none)
  (Vd:PySem.W.findIn K (.ref Pc) "parts" =some none)
  (Nb:PySem.W.findIn K (.ref Pc) "count" =some none)
  (Ve:PySem.W.findIn K (.ref Fo) "pieces" =some none)
  (Vf:PySem.W.findIn K (.ref Fo) "charge" =some none)
  (Vg:PySem.W.findIn K (.ref Rd) "text" =some none)
  (Vh:PySem.W.findIn K (.ref Rd) "place" =some none)
  (Vi:PySem.W.findIn K (.ref NF) "place" =some none)
  (VZ:PySem.W.findIn K (.ref TL) "many" =some none)
  (Ka:PySem.W.nsIn K mainGlobals "len" =some none)
  (Kb:PySem.W.nsIn K mainGlobals "str" =some none)
  (Kc:PySem.W.nsIn K mainGlobals "int" =some none)
  (FI:PySem.W.nsIn K mainGlobals "bool" =some none)
  (Cb:PySem.W.nsIn K mainGlobals "range" =some none)
  (qw:PySem.W.nsIn K mainGlobals "isinstance" =some none)
  (FJ:PySem.W.nsIn K mainGlobals "list" =some none)
  (Kd:PySem.W.nsIn K mainGlobals "abs" =some none)
  (FK:PySem.W.nsIn K mainGlobals "dict" =some none)
  (Ke:PySem.W.nsIn K mainGlobals "sum" =some none)
  (nG:PySem.W.nsIn K mainGlobals "LONGEST_KIND" =some (some (.int 3 uK)))
  (ni:PySem.W.nsIn K mainGlobals "LONGEST_COUNT" =some (some (.int 3 uN)))
  (qx:PySem.W.nsIn K mainGlobals "GROUP_BEGIN" =some (some (.str "(" uB)))
  (uh:PySem.W.nsIn K mainGlobals "GROUP_END" =some (some (.str ")" uE)))
  (iN:PySem.W.nsIn K mainGlobals "MOST_GROUPS_AROUND" =some (some (.int 3 uM)))
  (qy:PySem.W.nsIn K mainGlobals "CHARGE_MARK" =some (some (.str "^" uC)))
  (Kf:PySem.W.nsIn K mainGlobals "PLUS" =some (some (.str "+" uP)))
  (FL:PySem.W.nsIn K mainGlobals "MINUS" =some (some (.str "-" uI)))
  (uk:PySem.W.nsIn K mainGlobals "PIECE_DOT" =some (some (.str "." uD)))
  (xu:PySem.W.nsIn K mainGlobals "ELECTRON" =some (some (.str "e^-" uL)))
  (nH:PySem.W.nsIn K mainGlobals "LONGEST_TEXT" =some (some (.int 400 uT)))
  (Vj:PySem.W.specialIn K (.ref HE) "__getattribute__" =some (some (.builtin "type.__getattribute__")))
  (Vk:PySem.W.readsIn K HE (.type "type")=true)
  (Vl:PySem.W.findCls K (.ref HE) (.type "type") "__init__" =some (.val (.builtin "ValueError.__init__")))
  (Vm:PySem.W.takerIn K NF "place" =some none)
  (Vn:PySem.W.takerIn K TL "many" =some none)
  (Vo:PySem.W.mroIn K NF (.ref NF)=some true)
  :∃fd:FuncData,(∀(s:Shared) (v:Value),BindsTo s fd ⟨[v],[]⟩ [("_law_script",v)])∧∀base:Heap,K.In base→base.Ns mainGlobals mg→ei l.prog w K mg base pj 22 fa fd ["_law_script"] (vL K):=by
 have e:=U0.symm.trans (PySem.W.mg_of X G Qg)
 cases e
 have T:hU K mg C Rd Gr Pc Fo uK uN uB uE uM uC uP uI uD uL uT:=⟨⟨⟨⟨⟨U6,U7,U8,U9⟩,J9,FH,PySem.W.mg_of X G aC,PySem.W.mg_none_of X G Ka,PySem.W.mg_none_of X G Kb,PySem.W.mg_none_of X G Kc,PySem.W.mg_none_of X G FI,PySem.W.mg_none_of X G Cb,PySem.W.mg_none_of X G qw,je,pA,je,je,je⟩,⟨QN,QO,QP,QQ⟩,Vg,Vh,PySem.W.mg_of X G nG,PySem.W.mg_of X G ni⟩,⟨Qv,Qw,Qx,Qy⟩,Vb,Vc,PySem.W.mg_of X G U1,PySem.W.mg_of X G qx,PySem.W.mg_of X G uh,PySem.W.mg_of X G iN⟩,PySem.W.mg_of X G qy,PySem.W.mg_of X G Kf,PySem.W.mg_of X G FL,⟨QB,QC,QD,QE⟩,⟨QH,QI,QJ,QK⟩,Vd,Nb,Ve,Vf,PySem.W.mg_of X G U2,PySem.W.mg_of X G U3,PySem.W.mg_of X G U4,PySem.W.mg_of X G uk,PySem.W.mg_of X G xu,PySem.W.mg_of X G nH,PySem.W.mg_none_of X G FJ,PySem.W.mg_none_of X G Kd⟩
 have Kg:Def K mg "is_great" "is_great" pI ["sign"]:=b5 X G Oh Oi (iP fun _ _ _ _ _ _ _=>rfl)
 have Kh:Def K mg "is_small" "is_small" pJ ["sign"]:=b5 X G Oj Ol (iP fun _ _ _ _ _ _ _=>rfl)
 have Ki:Def K mg "is_figure" "is_figure" kZ ["sign"]:=b5 X G Om Oo (iP fun _ _ _ _ _ _ _=>rfl)
 have Kj:Def K mg "count_shown" "count_shown" fo ["count"]:=b5 X G Oq Ot (iP fun _ _ _ _ _ _ _=>rfl)
 have Kk:Def K mg "parts_shown" "parts_shown" iq ["parts"]:=b5 X G Ou Ov (iP fun _ _ _ _ _ _ _=>rfl)
 have FN:j0 K C "Atom.__init__" fV ["self","kind","count"] [1]:=⟨_,_,_,kY (st:=fV) JC JD JE,⟨U',JA,JB,Va⟩,LD (⟨[.int 1 As], .cons ⟨_,rfl⟩ (.nil),LF rfl fun _ _ _ hk=>PySem.W.binds_K (K:=K) (fd:=PySem.W.fnOf "__init__" "Atom.__init__" (bD fV) (aZ fV) (ao fV) (.ref qv) ud ue uf uc qu ug) hk rfl Dm rfl rfl rfl⟩) (⟨[], .nil,LG rfl fun _ _ _ _ hk=>PySem.W.binds_K (K:=K) (fd:=PySem.W.fnOf "__init__" "Atom.__init__" (bD fV) (aZ fV) (ao fV) (.ref qv) ud ue uf uc qu ug) hk rfl Dm rfl rfl rfl⟩)⟩
 have Kl:bG K C "shown" "Atom.shown" pK ["self"]:=cT Ow Ox (iP fun _ _ _ _ _ _ _=>rfl)
 have Km:j0 K Gr "Group.__init__" dS ["self","parts","count"] [1]:=⟨_,_,_,kY (st:=dS) OA OB OC,⟨Qz,Oy,Oz,QA⟩,LD (⟨[.int 1 Dj], .cons ⟨_,rfl⟩ (.nil),LF rfl fun _ _ _ hk=>PySem.W.binds_K (K:=K) (fd:=PySem.W.fnOf "__init__" "Group.__init__" (bD dS) (aZ dS) (ao dS) (.ref vQ) Af Ag Ah Ac vN Ai) hk rfl JF rfl rfl rfl⟩) (⟨[], .nil,LG rfl fun _ _ _ _ hk=>PySem.W.binds_K (K:=K) (fd:=PySem.W.fnOf "__init__" "Group.__init__" (bD dS) (aZ dS) (ao dS) (.ref vQ) Af Ag Ah Ac vN Ai) hk rfl JF rfl rfl rfl⟩)⟩
 have Kn:bG K Gr "shown" "Group.shown" ir ["self"]:=cT OD OE (iP fun _ _ _ _ _ _ _=>rfl)
 have Ko:j0 K Pc "Piece.__init__" dU ["self","parts","count"] [1]:=⟨_,_,_,kY (st:=dU) OH OI OJ,⟨QF,OF,OG,QG⟩,LD (⟨[.int 1 Dk], .cons ⟨_,rfl⟩ (.nil),LF rfl fun _ _ _ hk=>PySem.W.binds_K (K:=K) (fd:=PySem.W.fnOf "__init__" "Piece.__init__" (bD dU) (aZ dU) (ao dU) (.ref vR) Aj Ak Al Ad vO Am) hk rfl JG rfl rfl rfl⟩) (⟨[], .nil,LG rfl fun _ _ _ _ hk=>PySem.W.binds_K (K:=K) (fd:=PySem.W.fnOf "__init__" "Piece.__init__" (bD dU) (aZ dU) (ao dU) (.ref vR) Aj Ak Al Ad vO Am) hk rfl JG rfl rfl rfl⟩)⟩
 have Kp:bG K Pc "shown" "Piece.shown" fq ["self"]:=cT OL OM (iP fun _ _ _ _ _ _ _=>rfl)
 have Kq:Def K mg "refuse_too_long" "refuse_too_long" jh ["text"]:=b5 X G ON OO (iP fun _ _ _ _ _ _ _=>rfl)
 have Kr:Def K mg "charge_shown" "charge_shown" eM ["charge"]:=b5 X G OP OQ (iP fun _ _ _ _ _ _ _=>rfl)
 have Kt:j0 K Fo "Formula.__init__" dW ["self","pieces","charge"] [0]:=⟨_,_,_,kY (st:=dW) OT OU OV,⟨QL,OR,OS,QM⟩,LD (⟨[.int 0 Dl], .cons ⟨_,rfl⟩ (.nil),LF rfl fun _ _ _ hk=>PySem.W.binds_K (K:=K) (fd:=PySem.W.fnOf "__init__" "Formula.__init__" (bD dW) (aZ dW) (ao dW) (.ref vS) An Ao Ap Ae vP Aq) hk rfl JH rfl rfl rfl⟩) (⟨[], .nil,LG rfl fun _ _ _ _ hk=>PySem.W.binds_K (K:=K) (fd:=PySem.W.fnOf "__init__" "Formula.__init__" (bD dW) (aZ dW) (ao dW) (.ref vS) An Ao Ap Ae vP Aq) hk rfl JH rfl rfl rfl⟩)⟩
 have Ku:bG K Fo "shown" "Formula.shown" ji ["self"]:=cT OW OX (iP fun _ _ _ _ _ _ _=>rfl)
 have Kv:j0 K Rd "Reader.__init__" pL ["self","text"] []:=Hy QR OY QS OZ (qB fun _ _ _ _ _ _ _ _=>rfl)
 have Kw:bG K Rd "sign" "Reader.sign" uX ["self"]:=cT O0 O1 (iP fun _ _ _ _ _ _ _=>rfl)
 have Kx:bG K Rd "take" "Reader.take" uY ["self","sign"]:=cT O2 O3 (qB fun _ _ _ _ _ _ _ _=>rfl)
 have Ky:bG K Rd "take_all" "Reader.take_all" jk ["self","signs"]:=cT O4 O5 (qB fun _ _ _ _ _ _ _ _=>rfl)
 have Kz:bG K Rd "take_end" "Reader.take_end" jl ["self"]:=cT O6 O7 (iP fun _ _ _ _ _ _ _=>rfl)
 have KA:bG K Rd "read_whole" "Reader.read_whole" k8 ["self"]:=cT O8 O9 (iP fun _ _ _ _ _ _ _=>rfl)
 have KC:bG K Rd "read_electron" "Reader.read_electron" gm ["self"]:=cT Pa Pb (iP fun _ _ _ _ _ _ _=>rfl)
 have FO:bG K Rd "read_parts" "Reader.read_parts" jm ["self","around"]:=cT JI JJ (qB fun _ _ _ _ _ _ _ _=>rfl)
 have KD:bG K Rd "read_part" "Reader.read_part" mq ["self","around"]:=cT Pd Pe (qB fun _ _ _ _ _ _ _ _=>rfl)
 have KG:bG K Rd "read_group" "Reader.read_group" iu ["self","around"]:=cT Pf Pg (qB fun _ _ _ _ _ _ _ _=>rfl)
 have FP:bG K Rd "read_atom" "Reader.read_atom" pM ["self"]:=cT JK JL (iP fun _ _ _ _ _ _ _=>rfl)
 have KH:bG K Rd "read_count" "Reader.read_count" k9 ["self"]:=cT Ph Pj (iP fun _ _ _ _ _ _ _=>rfl)
 have KI:bG K Rd "read_number" "Reader.read_number" jo ["self","longest"]:=cT Pk Pl (qB fun _ _ _ _ _ _ _ _=>rfl)
 have FQ:bG K Rd "read_charge" "Reader.read_charge" jq ["self"]:=cT JM JN (iP fun _ _ _ _ _ _ _=>rfl)
 have KJ:Def K mg "read_formula" "read_formula" iw ["text"]:=b5 X G Po Pp (iP fun _ _ _ _ _ _ _=>rfl)
 have Dn:Def K mg "parts_counts" "parts_counts" fU ["parts","times"]:=b5 X G Pq Pr (qB fun _ _ _ _ _ _ _ _=>rfl)
 have KL:bG K C "counts" "Atom.counts" k7 ["self"]:=cT Pt Pu (iP fun _ _ _ _ _ _ _=>rfl)
 have KN:bG K Gr "counts" "Group.counts" fW ["self"]:=cT Pw Px (iP fun _ _ _ _ _ _ _=>rfl)
 have KO:bG K Pc "counts" "Piece.counts" eL ["self"]:=cT Pz PB (iP fun _ _ _ _ _ _ _=>rfl)
 have KP:bG K Fo "counts" "Formula.counts" jj ["self"]:=cT PD PJ (iP fun _ _ _ _ _ _ _=>rfl)
 have Au:PySem.W.dN K NF HE B6:=⟨Qo,PK,J7,Qk,Ql,Qm⟩
 have KQ:tD K mg "NoFormula" NF HE "NoFormula.__init__" Bh ["self","place"]:=CK Au (PySem.W.mg_of X G Sy) Qn PM (qB fun _ _ _ _ _ _ _ _=>rfl)
 have KR:PySem.W.dN K TL HE B7:=⟨Qu,PN,J8,Qq,Qr,Qs⟩
 have KS:tD K mg "TooLong" TL HE "TooLong.__init__" pU ["self","many"]:=CK KR (PySem.W.mg_of X G SA) Qt PQ (qB fun _ _ _ _ _ _ _ _=>rfl)
 have KU:Def K mg "_law_cell_at" "_law_cell_at" lh ["_law_script","_law_k"]:=b5 X G PR PU (qB fun _ _ _ _ _ _ _ _=>rfl)
 have KW:Def K mg "_law_mixed" "_law_mixed" pN ["_law_cell","_law_prime"]:=b5 X G PV PX (qB fun _ _ _ _ _ _ _ _=>rfl)
 have KY:Def K mg "_law_whole" "_law_whole" pO ["_law_found"]:=b5 X G PY PZ (iP fun _ _ _ _ _ _ _=>rfl)
 have KZ:Def K mg "_law_kind" "_law_kind" uZ ["_law_number"]:=b5 X G P0 P1 (iP fun _ _ _ _ _ _ _=>rfl)
 have K0:Def K mg "_law_count" "_law_count" pP ["_law_number"]:=b5 X G P2 P4 (iP fun _ _ _ _ _ _ _=>rfl)
 have K1:Def K mg "_law_figures" "_law_figures" jr ["_law_count_here"]:=b5 X G P5 P6 (iP fun _ _ _ _ _ _ _=>rfl)
 have K2:Def K mg "_law_part" "_law_part" u3 ["_law_number","_law_other"]:=b5 X G P7 P8 (qB fun _ _ _ _ _ _ _ _=>rfl)
 have K3:Def K mg "_law_pieces" "_law_pieces" lj ["_law_cells"]:=b5 X G P9 P' (iP fun _ _ _ _ _ _ _=>rfl)
 have Dp:Def K mg "_law_shown" "_law_shown" eN ["_law_part_here"]:=b5 X G Qa Qb (iP fun _ _ _ _ _ _ _=>rfl)
 have K4:Def K mg "_law_charge" "_law_charge" ll ["_law_cell"]:=b5 X G Qc Qd (iP fun _ _ _ _ _ _ _=>rfl)
 have K5:Def K mg "_law_text" "_law_text" rq ["_law_pieces_here","_law_charge_here"]:=b5 X G Qe Qf (qB fun _ _ _ _ _ _ _ _=>rfl)
 have FR:Def K mg "_law_sign" "_law_sign" pQ ["_law_number","_law_wide"]:=b5 X G JO JP (qB fun _ _ _ _ _ _ _ _=>rfl)
 have FT:Def K mg "_law_spoilt" "_law_spoilt" lq ["_law_text_here","_law_cell"]:=b5 X G JQ JR (qB fun _ _ _ _ _ _ _ _=>rfl)
 have FU:Def K mg "_law_signs_drawn" "_law_signs_drawn" pR ["_law_cells","_law_wide"]:=b5 X G JS JT (qB fun _ _ _ _ _ _ _ _=>rfl)
 have FV:Def K mg "_law_nested" "_law_nested" lr ["_law_text_here","_law_cell"]:=b5 X G JU JV (qB fun _ _ _ _ _ _ _ _=>rfl)
 have FW:Def K mg "_law_drawn" "_law_drawn" pS ["_law_script"]:=b5 X G JW JX (iP fun _ _ _ _ _ _ _=>rfl)
 have FX:Def K mg "_law_figure" "_law_figure" js ["_law_state","_law_deep","_law_sign_here"]:=b5 X G JY JZ (M9 fun _ _ _ _ _ _ _ _ _=>rfl)
 have FY:Def K mg "_law_letter" "_law_letter" lu ["_law_state","_law_deep","_law_sign_here"]:=b5 X G J0 J1 (M9 fun _ _ _ _ _ _ _ _ _=>rfl)
 have FZ:Def K mg "_law_next" "_law_next" u4 ["_law_state","_law_deep","_law_sign_here"]:=b5 X G J2 J3 (M9 fun _ _ _ _ _ _ _ _ _=>rfl)
 have F0:Def K mg "_law_place" "_law_place" pT ["_law_text_here"]:=b5 X G J4 J6 (iP fun _ _ _ _ _ _ _=>rfl)
 have QT:=DU (st:=mr) Qh Qi Qj
 refine⟨PySem.W.fnOf "law" "law" (bD mr) (aZ mr) (ao mr) .none Df Dg Dh De Ar Di,fun s v=> .of_eq rfl,fun base _ _=>?_⟩
 have TE:qb K mg HE NF TL:=⟨PySem.W.mg_of X G U5,⟨Vj,Vk,Vl⟩,PySem.W.mg_of X G Sy,PySem.W.mg_of X G SA,Vm,Vn⟩
 have TX:Iq K mg C Rd Gr Pc Fo HE NF TL uK uN uB uE uM uC uP uI uD uL uT:=⟨T,TE,PySem.W.mg_none_of X G FK,PySem.W.mg_none_of X G Ke,Au.par,Vi,Vo⟩
 have TT:kM K mg C Rd Gr uK uN uB uE uM:=T.tokM
 have TR:mB K mg C Rd uK uN:=TT.tomB
 have TA:fF K mg C:=TR.tofF
 have K6:=yR (P:=l.prog) (w:=w) (base:=base) Kg
 have QU:=yS (P:=l.prog) (w:=w) (base:=base) Kh
 have QV:=wK (P:=l.prog) (w:=w) (base:=base) Ki
 have Cc:=mY (P:=l.prog) (w:=w) (base:=base) Kj TA
 have QW:=BH (P:=l.prog) (w:=w) (base:=base) FN TA
 have QX:=zm Kl TA Cc
 have QY:=zu (P:=l.prog) (w:=w) (base:=base) Km T
 have QZ:=zw (P:=l.prog) (w:=w) (base:=base) Ko T
 have K7:=zx (P:=l.prog) (w:=w) (base:=base) Kt T
 have Q0:=yT (P:=l.prog) (w:=w) (base:=base) Kv TR
 have xv:=Br (P:=l.prog) (w:=w) (base:=base) Kw TR
 have Cd:=Ex (P:=l.prog) (w:=w) (base:=base) KQ TE
 have Q1:=y3 (P:=l.prog) (w:=w) (base:=base) KS TE
 have Ce:=y4 Kx TR TE xv Cd
 have Q2:=rN Ky TR Ce
 have Q3:=rO Kz TR TE Cd
 have Q4:=tK KI TR TE xv QV Cd
 have Cf:=tL KH TR Q4
 have K8:=wQ FP TR TE xv K6 QU Cf QW Cd
 have K9:=oB KG KD FO TT xv K6 K8 Ce Cf QY 4
 have K':=rS FQ T.toHC xv Ce Cf
 have Q5:=nB KC T Q2 K7
 have Q6:=tN KA T xv Ce Cf K9 K' Q5 QZ K7
 have Q7:=rT Kq T TE Q1
 have Q8:=qc KJ T Q7 Q0 Q6 Q3
 have Q9:=oH Kk Kn TT QX Cc 4
 have Ra:=mX 4 Kp T Q9 Cc
 have Rb:=kx Kr T Cc
 have Rc:=tX 4 Ku T Ra Rb
 have Rg:=xj (P:=l.prog) (w:=w) (base:=base) KL TA
 have Rh:=m6 Dn KN TT Rg 4
 have Ri:=kQ 4 KO T Rh
 have Rj:=sh 4 Dn T Ri
 have Rk:=si 4 KP T Rj
 have Rl:=tZ (P:=l.prog) (w:=w) (base:=base) KU TA
 have F1:=zp (P:=l.prog) (w:=w) (base:=base) KW TA
 have Rm:=zq (P:=l.prog) (w:=w) (base:=base) KY TA
 have Rn:=zr (P:=l.prog) (w:=w) (base:=base) KZ TA
 have La:=zt (P:=l.prog) (w:=w) (base:=base) K0
 have F2:=tY (P:=l.prog) (w:=w) (base:=base) K1 TA
 have Ro:=BR K2 Rn La
 have Rp:=xo K3 TA F1 La Ro
 have Rq:=xn 4 Dp TA (oM Dp TA F2 5) F2
 have Rr:=zH 4 K5 T Rq F2
 have Rt:=xq (P:=l.prog) (w:=w) (base:=base) K4
 have Dq:=zX (P:=l.prog) (w:=w) (base:=base) FR TA
 have Lb:=xr FT TA Dq F1
 have Lc:=zZ FU TA Dq F1
 have Ld:=xt (P:=l.prog) (w:=w) (base:=base) FV TA
 have Le:=z4 FW TA Rl Lc Rp Rt Rr Ld Lb
 have Lf:=tT (P:=l.prog) (w:=w) (base:=base) FX T
 have Lg:=xa (P:=l.prog) (w:=w) (base:=base) FY
 have Lh:=BG FZ Lf Lg
 have Li:=zS F0 TA Lh
 exact Fq QT TX Au Le Li Q8 Rm Rk Rc
theorem walk{l:PySem.W.OpenLaw}{q:Program}{loose:List Str}{XP:(Str→Option Value)→Heap→Prop}{YP:World→Heap→Prop}{d:DefRec}{K:Params→PySem.W.Frag}(hn:l.most=some 63)(G3:d.params.defaults=[])
  (hY:∀(w:World) (h:Heap),YP w h→(K w.params).In h)
  (F:∀(w:World) (mg:Str→Option Value) (fa:Addr) (h:Heap),(K w.params).In h→h.Ns mainGlobals mg→mg d.name=some (.ref fa)→
   ∃fd:FuncData,(∀(s:Shared) (u:Value),BindsTo s fd ⟨[u],[]⟩ [("_law_script",u)])∧∀base:Heap,(K w.params).In base→base.Ns mainGlobals mg→ei l.prog w (K w.params) mg base pj 22 fa fd ["_law_script"] (vL (K w.params))):
  PySem.W.WalkO q loose XP YP l.row.toRowW d [] (fun f vs=>PySem.call f vs):=
 L2.AV (n:=63) (k:=22) (x:="_law_script") (CX:=fun _=>pj) (sp:=fun w=>vL (K w.params)) hn (by decide) G3 ⟨rfl,by decide,by decide⟩ hY F (fun _ _ a ns hl _ hS=>⟨a,ns,rfl,hS,hl,fun _=>rfl⟩) fun _ _ _ _ _ z=>z
end Na
open PySem PySem.W PyProof.Rows
namespace PySem.W.Fast
def tw11144215395271895426:=True
def tw16404775155560022423:=True
def tw15777974521818765274:=True
def tw11778075990757662312:=True
def tw16982403136519651163:=True
def tw411587562804855058:=True
def tw1661954905937380644:=True
def tw15297558677960911665:=True
def tw11934755060863770541:=True
def tw14849139941499543850:=True
def tw6271465783777789632:=True
def tw14669031502145302591:=True
def tw6171999737338066985:=True
def tw8861489860434331100:=True
def tw14404565525210604362:=True
def tw13178980952379574963:=True
def tw16438007782645948863:=True
def tw4258883814519834746:=True
def tw6714532026189938174:=True
def tw4951583774987842802:=True
def tw17465222973199906139:=True
def tw6935396377601927188:=True
def tw12301172403347095399:=True
def tw18346154966721537070:=True
def tw11499565775334897353:=True
def tw15618398176070958379:=True
def tw482013468386826281:=True
def tw8377871135073406184:=True
def tw6435335440288337359:=True
def tw6428087951008197621:=True
def tw11059087135975915284:=True
def tw16455473349979040034:=True
def tw16205079997492383754:=True
def tw8100624045465462485:=True
def tw16571791741075276352:=True
def tw757133471334404770:=True
def tw18213818348846819579:=True
def tw2798037893469284175:=True
def tw6108506190752415243:=True
def tw4731432023856109333:=True
def tw16087368895602730852:=True
def tw1365559101741709963:=True
def tw13290528268491977962:=True
def tw11046296497005293109:=True
def tw13589191502077593524:=True
def tw15217774090706982111:=True
def tw4625677783843891337:=True
def tw16450228914971253387:=True
def tw7866732207404903562:=True
def tw2734226735617040734:=True
def tw13015543892389004005:=True
def tw12740017839969721580:=True
def tw6324828081933545847:=True
def tw9555247013110699905:=True
def tw1423278090443006689:=True
def tw3533530779573248696:=True
def tw7776056509386105072:=True
def tw4722975585177607721:=True
def tw15830540489871839119:=True
def tw6400821778664429894:=True
def tw8076874992616122396:=True
def tw15423129638431309444:=True
def tw742705687483278357:=True
def tw3365872566067076152:=True
def tw1976849294772968289:=True
def tw17285776884764938777:=True
def tw11331749356430526254:=True
def tw15154561845973136155:=True
def tw11169645047043530629:=True
def tw3810920875183080838:=True
def tw3943631408844378716:=True
def tw14466150547567074065:=True
def tw12930160168546792101:=True
def tw8222634520708389270:=True
def tw3935021921484924573:=True
def tw2726960102292966933:=True
def tw2723833999636522528:=True
def tw8683770205183535090:=True
def tw7567021298861689500:=True
def tw10032323723040452234:=True
def tw12952337109206333290:=True
def tw2660695077970937074:=True
def tw13846574242735276127:=True
def tw3139412574190283575:=True
def tw3868574449246797617:=True
def tw9784232747829226186:=True
def tw6413599889290297354:=True
def tw8071895962542448854:=True
def tw2550985847739180426:=True
def tw10797330108881591468:=True
def tw1887315886488813957:=True
def tw4636291051376736242:=True
def tw12191018376670145529:=True
def tw8757463562402109186:=True
def tw1216109617598908450:=True
def tw4368897833245587716:=True
def tw15431450225571118932:=True
def tw5971395141019035213:=True
def tw7430164385994188827:=True
def tw8338592981201584874:=True
def tw5330041944056435680:=True
def tw16392042317592816103:=True
def tw10460151728399154950:=True
def tw11862900851126066251:=True
def tw5482412051873496031:=True
def tw17343715281740503134:=True
def tw6549318721840928321:=True
def tw12942671400420747875:=True
def tw17479770985532314865:=True
def tw3220414166920716695:=True
def tw18108058476796596531:=True
def tw18378404208342339869:=True
def tw7363004524131493638:=True
def tw16136542201109659603:=True
def tw4123212969849430962:=True
def tw13466254333370119763:=True
def tw14111206190287413072:=True
def tw14526973470584324696:=True
def tw12650881793534857779:=True
def tw2382463201876400280:=True
def tw2550977914673058331:=True
def tw17592437477073877375:=True
def tw2249962517878540352:=True
def tw6365800639885677228:=True
def tw14175785188837679189:=True
def tw12153306333667652596:=True
def tw2174529471058753491:=True
def tw17902051872424640132:=True
def tw17590656175914414586:=True
def tw15381549080265744702:=True
def tw6014368880928901754:=True
def tw2459758876583054116:=True
def tw16465800438159117928:=True
def tw5128372984988682998:=True
def tw3398210795740384110:=True
def tw5281612481019584800:=True
def tw13744133754538092247:=True
def tw9841966027330585308:=True
def tw13090362758746305763:=True
def tw8682625695737833216:=True
def tw2173566778131400743:=True
def tw15862580390806894752:=True
def tw8062292462617492662:=True
def tw14591197241038805613:=True
def tw1006467534682690662:=True
def tw13450610526495779425:=True
def tw6200550819914699108:=True
def tw4038718619537771398:=True
def tw7214346850889453074:=True
def tw10154705060383407427:=True
def tw15481923165591227758:=True
def tw17461384397283508599:=True
def tw11209232769649799307:=True
def tw6794559485152508085:=True
def tw3179599399967571478:=True
def tw14707579641845727001:=True
def tw14848960095434217764:=True
def tw10117959233289314050:=True
def tw17395324258963906556:=True
def tw14732268897337815799:=True
def tw1843915303785592151:=True
def tw1843965439971531582:=True
def tw6024271686466573239:=True
def tw13552041847910188288:=True
def tw12340422280315928347:=True
def tw11028130968537757653:=True
def tw10860695635345302518:=True
def tw7996727916631382502:=True
def tw16420510171267816093:=True
def tw14680175694282057415:=True
def tw14608846861246068683:=True
def tw3586367758281884484:=True
def tw11373770503827286534:=True
def tw6042581719881954571:=True
def tw15830046159209196458:=True
def tw944179237172192046:=True
def tw16408867513141230434:=True
def tw18250060496835063519:=True
def tw14125268858062461577:=True
def tw11121128611277787303:=True
def tw7127497764842612965:=True
def tw13202059110032576300:=True
def tw5064687188042089041:=True
def tw7626176834761294338:=True
def tw7593697377097473097:=True
def tw5632417245301995460:=True
def tw15236607116564862294:=True
def tw6528343175781043890:=True
def tw1174894378614430444:=True
def tw10726568726671215265:=True
def tw519428830270931036:=True
def tw2970328541008257651:=True
def tw13822471964068161003:=True
def tw5964902012589207286:=True
def tw11381944226973226913:=True
def tw1195912544679145719:=True
def tw10567714992874162384:=True
def tw13469866015033849327:=True
def tw11028659950456960094:=True
def tw17232306059666444049:=True
def tw17772089101090492346:=True
def tw4722991125675476249:=True
def tw10047298513518143644:=True
def tw7768356734761336004:=True
def tw12504390786777113052:=True
def tw12228325281813913477:=True
def tw5634808103031779267:=True
def tw9992230278964819339:=True
def tw3996183901999584735:=True
def tw1463783475182261868:=True
def tw144873738934419342:=True
def tw4003668768337673599:=True
def tw5151162583159803855:=True
def tw12615460388352532263:=True
def tw13904378803780105063:=True
def tw18109483707656732490:=True
def tw11644481971900535717:=True
def tw11176583921468288836:=True
def tw2767677063376086166:=True
def tw10116054501584109243:=True
def tw13595363638798763493:=True
def tw3950430678245717417:=True
def tw17879385913939039418:=True
def tw9234693170033358086:=True
def tw5661399164964328362:=True
def tw5193232190777796066:=True
def tw17555695882654023212:=True
def tw16806170701783753655:=True
def tw5436068050164571213:=True
def tw9664501112522386498:=True
def tw9574085134770262:=True
def tw14399502527485394199:=True
def tw11931337782524366635:=True
def tw4019918393080733886:=True
def tw1944483727369259928:=True
def tw4715214140569985479:=True
def tw17024948338765968283:=True
def tw3841012334379993791:=True
def tw16412894285233601749:=True
def tw4003152826858256450:=True
def tw16063694981765026339:=True
def tw6670950055263747714:=True
def tw8683424942051035634:=True
def tw9500422378478583118:=True
def tw1996586415747173895:=True
def tw3156304350590014241:=True
def tw4521058339003434419:=True
def tw3996373075957117792:=True
def tw15445458774828887562:=True
def tw13423098140430192790:=True
def tw15113632943592183419:=True
def tw15908815596035585643:=True
def tw5575364943971592241:=True
def tw9272577564380956641:=True
def tw9128734593451741732:=True
def tw1042299941691733405:=True
def tw17408228878631102455:=True
def tw15582507687053196677:=True
def tw15590847825549967906:=True
def tw8192659030812490504:=True
def tw10218969517394475286:=True
def tw5422068214102074424:=True
def tw15083189229967789641:=True
def tw13413582581356499965:=True
def tw7004733292885639418:=True
def tw14196042124222600744:=True
def tw1372400740397387994:=True
def tw7238325339033899585:=True
def tw514788701644930696:=True
def tw4594142526439833097:=True
def tw6243247361894229278:=True
def tw15289656831623799345:=True
def tw8578217244592552108:=True
def tw14458193463451334643:=True
def tw11847984505181861965:=True
def tw3407700218681763325:=True
def tw13389804693363716937:=True
def tw919571656058598531:=True
def tw12847666139447746944:=True
def tw1472695167301851343:=True
def tw1333423861049318924:=True
def tw7961925229162839194:=True
def tw4836950948039331358:=True
def tw12040527918492668414:=True
def tw1524055484808421562:=True
def tw7541828820564552986:=True
def tw675641181386170688:=True
def tw16333184886959209247:=True
def tw15668764019736622784:=True
def tw8545802342626484928:=True
def tw4781238918088799325:=True
def tw14071083645018409177:=True
def tw4019373202483272348:=True
def tw3757968545634395870:=True
def tw7136870223037938536:=True
def tw16946683470487736953:=True
def tw10204917802188143106:=True
def tw9855610417597034269:=True
def tw647055353644238927:=True
def tw13962961972175689661:=True
def tw2925685204975842689:=True
def tw10508703908323320915:=True
def tw6801610201863077680:=True
def tw2709766016751066797:=True
def tw17734252803685139813:=True
def tw4699558733026305420:=True
def tw6035027989852311262:=True
def tw17897873256526052484:=True
def tw15786808959474226198:=True
def tw9785805235888196885:=True
def tw1643378064007737652:=True
end PySem.W.Fast
set_option maxRecDepth 100000 in
set_option maxHeartbeats 0 in
theorem PySem.Challenge.cw_balancehall_k08_whole_texts_by_signs_holds : PySem.Challenge.rw_balancehall_k08_whole_texts_by_signs.Holds := by
 w_on;o_law;k_head;(case hw=>w_witness2)
 k_fill
 refine Na.walk (l:=PySem.Challenge.rw_balancehall_k08_whole_texts_by_signs) rfl rfl (fun w h Y=>PySem.W.kIn_of Y) ?F
 case F=>
  intro w mg fa h KX G G4
  apply Na.all_mk KX G G4
  all_goals first|k_is|exact⟨⟨_,⟨⟨_,_,_,_,_,_,_,_,_,rfl,by k_is,by k_is⟩,by k_is⟩⟩,by k_is⟩ |exact⟨_,_,_,_,_,_,_,_,_,_,_,_,_,_,by k_is⟩
