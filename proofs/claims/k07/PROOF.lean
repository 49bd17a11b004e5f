import PyProof.Rows.All
import Wide.All
import OpenK.AllK
import Wide.FinOn
import Lean
import PyProof.EqAt
import PyProof.EqKinds
import PyProof.TupleCall
import PySem.Challenge.RW_balancehall_k07_no_formula
set_option Elab.async false
set_option linter.all false
set_option maxRecDepth 100000
namespace L2
open PySem PySem.Spec PyProof.Rows
abbrev Key:=Sum Int Str
def zR:Key→Value→Bool
 | .inl k,v=>Value.isInt k v
 | .inr x,v=>Value.isStrOf x v
def ID(w:World):Key→Int
 | .inl k=>hashInt k
 | .inr x=>hashStr w x
theorem bM:∀{k:Key} {v:Value},zR k v=true→(∃i t,k=Sum.inl i∧v=Value.int i t)∨(∃x t,k=Sum.inr x∧v=Value.str x t)
 | .inl i,v,h=>by
   obtain⟨t,e⟩:=Value.isInt_shape (k:=i) (v:=v) h
   exact .inl ⟨i,t,rfl,e⟩
 | .inr x,v,h=>by
   obtain⟨t,e⟩:=Value.isStrOf_shape (x:=x) (v:=v) h
   exact .inr ⟨x,t,rfl,e⟩
theorem AO(a b:Int):decide ((Sum.inl a:Key)=Sum.inl b)=(a==b):=by
 by_cases e:a=b
 ·subst e;simp
 ·have h:¬(Sum.inl a:Key)=Sum.inl b:=fun q=>e (Sum.inl.inj q)
  rw[decide_eq_false h]
  exact(beq_eq_false_iff_ne.mpr e).symm
theorem AQ(a b:Str):decide ((Sum.inr a:Key)=Sum.inr b)=decide (a=b):=by
 by_cases e:a=b
 ·subst e;simp
 ·have h:¬(Sum.inr a:Key)=Sum.inr b:=fun q=>e (Sum.inr.inj q)
  rw[decide_eq_false h,decide_eq_false e]
theorem AR(a:Int)(b:Str):decide ((Sum.inl a:Key)=Sum.inr b)=false:=decide_eq_false (fun q=>nomatch q)
theorem AS(a:Str)(b:Int):decide ((Sum.inr a:Key)=Sum.inl b)=false:=decide_eq_false (fun q=>nomatch q)
def mf(prog:Program)(w:World):PySem.KeyKind prog w Key where
 is:=zR
 hash:=ID w
 inj:=fun v a b ha hb=>by
  rcases bM ha with ⟨i,t,rfl,rfl⟩ | ⟨x,t,rfl,rfl⟩
  ·rcases bM hb with ⟨j,u,rfl,e⟩ | ⟨y,u,rfl,e⟩
   ·injection e with e1 _;rw[e1]
   ·exact nomatch e
  ·rcases bM hb with ⟨j,u,rfl,e⟩ | ⟨y,u,rfl,e⟩
   ·exact nomatch e
   ·injection e with e1 _;rw[e1]
 byValue:=fun k v h=>by
  rcases bM h with ⟨i,t,rfl,rfl⟩ | ⟨x,t,rfl,rfl⟩<;>rfl
 pyHash:=fun hv h=>by
  rcases bM hv with ⟨i,t,rfl,rfl⟩ | ⟨x,t,rfl,rfl⟩
  ·exact wpAny_pyHash_int h
  ·exact wpAny_pyHash_str h
 eqBool:=fun hu hv h=>by
  rcases bM hu with ⟨i,t,rfl,rfl⟩ | ⟨x,t,rfl,rfl⟩
  ·rcases bM hv with ⟨j,u,rfl,rfl⟩ | ⟨y,u,rfl,rfl⟩
   ·rw[AO] at h;exact wpAny_eqBool_int h
   ·rw[AR] at h;exact SeqAt.EqAt.int_str i t y u _ _ _ _ h
  ·rcases bM hv with ⟨j,u,rfl,rfl⟩ | ⟨y,u,rfl,rfl⟩
   ·rw[AS] at h;exact SeqAt.EqAt.str_int x t j u _ _ _ _ h
   ·rw[AQ] at h;exact wpAny_eqBool_str h
 «strs» :=fun k x t v h=>by
  rcases bM h with ⟨i,u,rfl,e⟩ | ⟨y,u,rfl,e⟩
  ·exact nomatch e
  ·injection e with e1 _
   subst e1
   cases v<;>rfl
end L2
namespace L2
open PySem PySem.Spec PyProof.Rows
inductive V where
 |bR|bl (b:Bool) |int (i:Int) |str (x:Str) |pR (b:Array UInt8) |zS (b:UInt64) |ref (a:Addr) |ty (n:String)
 deriving DecidableEq
def RelV:V→Value→Prop
 | .bR,u=>u=Value.none
 | .bl b,u=>u=Value.bool b
 | .int i,u=>∃t,u=Value.int i t
 | .str x,u=>∃t,u=Value.str x t
 | .pR b,u=>∃t,u=Value.bytes b t
 | .zS b,u=>∃t,u=Value.float b t
 | .ref a,u=>u=Value.ref a
 | .ty n,u=>u=Value.type n
abbrev Vals:List V→List Value→Prop:=Paired RelV
theorem Vals.length{xs:List V}{us:List Value}(r:Vals xs us):xs.length=us.length:=Paired.length r
theorem Vals.get:∀{xs:List V} {us:List Value} {i:Nat} {x:V},Vals xs us→xs[i]? =some x→∃u,us[i]? =some u∧RelV x u
 |_,_,_,_, .nil,e=>by simp at e
 |_,_,0,_, .cons r _,e=>by simp at e;subst e;exact⟨_,rfl,r⟩
 |_,_,i+1,x, .cons _ t,e=>by
  obtain⟨u,h1,h2⟩:=Vals.get (i:=i) (x:=x) t (by simpa using e)
  exact⟨u,by simpa using h1,h2⟩
theorem Vals.append:∀{xs ys:List V} {us ws:List Value},Vals xs us→Vals ys ws→Vals (xs++ys) (us++ws)
 |_,_,_,_, .nil,s=>s
 |_,_,_,_, .cons r t,s=> .cons r (Vals.append t s)
theorem Vals.take:∀{xs:List V} {us:List Value} (n:Nat),Vals xs us→Vals (xs.take n) (us.take n)
 |_,_,0,_=> .nil
 |_,_,_+1, .nil=> .nil
 |_,_,n+1, .cons r t=> .cons r (Vals.take n t)
theorem Vals.drop:∀{xs:List V} {us:List Value} (n:Nat),Vals xs us→Vals (xs.drop n) (us.drop n)
 |_,_,0,r=>r
 |_,_,_+1, .nil=> .nil
 |_,_,n+1, .cons _ t=>Vals.drop n t
def g9:Option V→Option Value→Prop
 |some v,some u=>RelV v u
 |none,none=>True
 |_,_=>False
def KV{κ:Type}:List (κ×V)→List (κ×Value)→Prop:=Paired fun (p:κ×V) (q:κ×Value)=>p.1=q.1∧RelV p.2 q.2
def kV:Key→V
 | .inl i=> .int i
 | .inr x=> .str x
inductive HO where
 |lst (xs:List V)
 |tup (xs:List V)
 |dK (eB:List (Key×V)) |dT (eB:List (List Key×V))
 |set (S:Int→Bool) (n:Nat)
 |ins (C dx:Addr) (fs:List (Str×V))
 |own (x:Addr)
 |xd (fs:List (Str×V))
 |met (f x:Addr)
 |IE (lo hi:Int)
 |pS (o:Obj) (u:HO)
 |AU (ps:Array Value)
 |ext (φ:Heap→Prop)
abbrev Hp:=Addr→Option HO
def upd(H:Hp)(a:Addr)(o:HO):Hp:=fun b=>if b=a then some o else H b
theorem ag{H:Hp}{a:Addr}{o:HO}:upd H a o a=some o:=by unfold upd;rw[if_pos rfl]
theorem ah{H:Hp}{a b:Addr}{o:HO}(h:b≠a):upd H a o b=H b:=by unfold upd;rw[if_neg h]
theorem zT{H:Hp}{a b:Addr}{o u:HO}(h:H a=some o)(h':H b=some u)(d:o≠u):a≠b:=by
 intro e;subst e;rw[h] at h';exact d (Option.some.inj h')
theorem af{H:Hp}{a b:Addr}{o:HO}(h:H a=some o)(h':H b=none):a≠b:=by
 intro e;subst e;rw[h] at h';cases h'
section
variable (P:Program)(w:World)
def cp(H:Hp)(h:Heap)(a:Addr):HO→Prop
 | .lst xs=>xs.length≤sizeLine∧∃(its:List Value) (n:Nat),Vals xs its∧h.get? a=some { cls:= .type "list",data:= .seq its.toArray n }
 | .tup xs=>xs.length≤sizeLine∧∃its:List Value,Vals xs its∧IsTup h a its.toArray
 | .dK eB=>eB.length≤sizeLine∧(a==sysModules)=false∧∃vs,KV eB vs∧h.DictOf (mf P w) a vs
 | .dT eB=>eB.length≤sizeLine∧(a==sysModules)=false∧∃xs:List (List Key×Addr×Value),
   Paired (fun (p:List Key×V) (q:List Key×Addr×Value)=>p.1=q.1∧H q.2.1=some (.tup (p.1.map kV))∧RelV p.2 q.2.2) eB xs∧
   ∃o es ep,h.get? a=some o∧o.ExactDict∧o.data= .dict es ep∧es.toList=xs.map (entryOfKey (tupleKind (mf P w)))∧(xs.map (·.1)).Nodup
 | .set S n=>h.SetOf (intKind P w) a S n
 | .ins C dx fs=>H dx=some (.own a)∧fs.length≤1000∧dx≠a∧h.get? a=some (PySem.W.instObj C dx)∧
   ∃mA,h.Ns1 dx mA∧(∀f,g9 (fs.lookup f) (mA f))∧PySem.Within mA (fs.map (·.1))
 | .own _=>∃o,h.get? a=some o
 | .xd fs=>∃mA,h.Ns1 a mA∧∀f,g9 (fs.lookup f) (mA f)
 | .IE lo hi=>∃t u v,h.get? a=some { cls:= .type "range",data:= .fields #[.int lo t, .int hi u, .int 1 v] }
 | .pS o u=>h.get? a=some o∧cp H h a u
 | .AU ps=>h.get? a=some { cls:= .none,data:= .fields ps }
 | .met f x=>h.get? a=some (PySem.W.methodObj (.ref f) (.ref x))
 | .ext φ=>φ h∧(∃o,h.get? a=some o)∧∀h1 h2:Heap,φ h1→(∀o,h1.get? a=some o→h2.get? a=some o)→φ h2
def iO(H:Hp)(h:Heap):Prop:=∀a o,H a=some o→cp P w H h a o
end
section
variable {P:Program}{w:World}{H H':Hp}{h h':Heap}{a:Addr}{o:HO}
theorem cp.lt(x:cp P w H h a o):a<h.objs.size:=by
 cases o with
 |lst xs=>obtain⟨_,_,_,_,e⟩:=x;exact Heap.lt_size e
 |tup xs=>obtain⟨_,_,_,p⟩:=x;exact p.lt
 |dK eB=>obtain⟨_,_,_,_,o,_,_,e,_⟩:=x;exact Heap.lt_size e
 |dT eB=>obtain⟨_,_,_,_,o,_,_,e,_⟩:=x;exact Heap.lt_size e
 |set S n=>obtain⟨o,_,_,_,e,_⟩:=x;exact Heap.lt_size e
 |ins C dx fs=>obtain⟨_,_,_,e,_⟩:=x;exact Heap.lt_size e
 |own y=>obtain⟨_,e⟩:=x;exact Heap.lt_size e
 |xd fs=>obtain⟨_,⟨_,_,_,e,_⟩,_⟩:=x;exact Heap.lt_size e
 |IE lo hi=>obtain⟨_,_,_,e⟩:=x;exact Heap.lt_size e
 |pS ob u=>obtain⟨e,_⟩:=x;exact Heap.lt_size e
 |AU ps=>exact Heap.lt_size (show h.get? a=some _ from x)
 |met f y=>exact Heap.lt_size (show h.get? a=some _ from x)
 |ext φ=>obtain⟨_,⟨_,e⟩,_⟩:=x;exact Heap.lt_size e
theorem Paired.DC{α β:Type}{F G:α→β→Prop}:∀{l₁:List α} {l₂:List β},Paired F l₁ l₂→(∀a b,F a b→G a b)→Paired G l₁ l₂
 |_,_, .nil,_=> .nil
 |_,_, .cons r t,f=> .cons (f _ _ r) (Paired.DC t f)
theorem cp.og(x:cp P w H h a o)(k:∀b u,(b=a∨H b=some (.own a))→h.get? b=some u→h'.get? b=some u)
  (ho:∀b,H b=some (.own a)→H' b=some (.own a)) (ht:∀b xs,H b=some (.tup xs)→H' b=some (.tup xs)):cp P w H' h' a o:=by
 induction o with
 |lst xs=>obtain⟨z,its,n,r,e⟩:=x;exact⟨z,its,n,r,k _ _ (.inl rfl) e⟩
 |tup xs=>obtain⟨z,its,r,ob,e,c⟩:=x;exact⟨z,its,r,ob,k _ _ (.inl rfl) e,c⟩
 |dK eB=>obtain⟨z,y,vs,r,ob,es,ep,e,c⟩:=x;exact⟨z,y,vs,r,ob,es,ep,k _ _ (.inl rfl) e,c⟩
 |dT eB=>
  obtain⟨z,y,xs,r,ob,es,ep,e,c⟩:=x
  exact⟨z,y,xs,Paired.DC r fun p q z=>⟨z.1,ht _ _ z.2.1,z.2.2⟩,ob,es,ep,k _ _ (.inl rfl) e,c⟩
 |set S n=>obtain⟨ob,es,ep,t,e,c⟩:=x;exact⟨ob,es,ep,t,k _ _ (.inl rfl) e,c⟩
 |ins C dx fs=>
  obtain⟨d,z,ne,e,mA,⟨od,es,ep,e2,c⟩,r⟩:=x
  exact⟨ho _ d,z,ne,k _ _ (.inl rfl) e,mA,⟨od,es,ep,k _ _ (.inr d) e2,c⟩,r⟩
 |own y=>obtain⟨ob,e⟩:=x;exact⟨ob,k _ _ (.inl rfl) e⟩
 |xd fs=>obtain⟨mA,⟨od,es,ep,e,c⟩,r⟩:=x;exact⟨mA,⟨od,es,ep,k _ _ (.inl rfl) e,c⟩,r⟩
 |IE lo hi=>obtain⟨t,u,v,e⟩:=x;exact⟨t,u,v,k _ _ (.inl rfl) e⟩
 |pS ob u ih=>obtain⟨e,q⟩:=x;exact⟨k _ _ (.inl rfl) e,ih q⟩
 |AU ps=>
  have e:h.get? a=some { cls:= .none,data:= .fields ps }:=x
  show h'.get? a=some { cls:= .none,data:= .fields ps }
  exact k a _ (.inl rfl) e
 |met f y=>
  have e:h.get? a=some (PySem.W.methodObj (.ref f) (.ref y)):=x
  show h'.get? a=some (PySem.W.methodObj (.ref f) (.ref y))
  exact k a _ (.inl rfl) e
 |ext φ=>obtain⟨p,⟨o,e⟩,st⟩:=x;exact⟨st _ _ p fun o q=>k _ _ (.inl rfl) q,⟨o,k _ _ (.inl rfl) e⟩,st⟩
theorem iO.lt(x:iO P w H h)(e:H a=some o):a<h.objs.size:=(x a o e).lt
theorem iO.fresh(x:iO P w H h)(e:h.objs.size≤a):H a=none:=by
 cases q:H a with
 |none=>rfl
 |some u=>exact absurd (Nat.lt_of_lt_of_le (x.lt q) e) (Nat.lt_irrefl _)
theorem iO.kept(x:iO P w H h)(k:∀b u,h.get? b=some u→h'.get? b=some u):iO P w H h':=fun a o e=>
 (x a o e).og (fun b u _ q=>k b u q) (fun _ q=>q) fun _ _ q=>q
theorem iO.laid(x:iO P w H h)(k:∀b u,h.get? b=some u→h'.get? b=some u)(hp:h.objs.size≤a)(new:cp P w (upd H a o) h' a o):iO P w (upd H a o) h':=fun b u e=>by
 have hn:=x.fresh hp
 by_cases hb:b=a
 ·subst hb;rw[ag] at e;cases e;exact new
 ·rw[ah hb] at e
  exact(x b u e).og (fun c v _ q=>k c v q) (fun c q=>by rw[ah (af q hn)];exact q) fun c xs q=>by rw[ah (af q hn)];exact q
end
def Rd(H:Hp)(a:Addr)(u:HO):Prop:=H a=some u∨∃o,H a=some (.pS o u)
theorem Rd.ok{P:Program}{w:World}{H:Hp}{h:Heap}{a:Addr}{u:HO}(r:Rd H a u)(x:iO P w H h):cp P w H h a u:=by
 rcases r with r| ⟨o,r⟩
 ·exact x a u r
 ·obtain⟨_,q⟩:=x a _ r
  exact q
def HI:Option HO→Prop
 |some (.lst _)=>True
 |some (.dK _)=>True
 |some (.dT _)=>True
 |some (.set _ _)=>True
 |some (.ins _ _ _)=>True
 |some (.ext _)=>True
 |_=>False
section
variable {P:Program}{w:World}{H:Hp}{h h':Heap}{x e:Addr}{o':HO}
theorem iO.write(ok:iO P w H h)(mu:HI (H x))(he:e=x∨H e=some (.own x))(k:∀b u,b≠e→h.get? b=some u→h'.get? b=some u)(De:∃u,h'.get? e=some u)
  (new:cp P w (upd H x o') h' x o'):iO P w (upd H x o') h':=fun b u q=>by
 have DD:∀c y,H c=some (.own y)→c≠x:=fun c y r z=>by subst z;rw[r] at mu;exact mu
 have IF:∀c xs,H c=some (.tup xs)→c≠x:=fun c xs r z=>by subst z;rw[r] at mu;exact mu
 by_cases hb:b=x
 ·subst hb;rw[ag] at q;cases q;exact new
 ·rw[ah hb] at q
  by_cases AV:b=e
  ·have q':H b=some (.own x):=by
    rcases he with z|z
    ·exact absurd (AV.trans z) hb
    ·rw[AV];exact z
   rw[q] at q';cases q'
   obtain⟨v,hv⟩:=De
   exact⟨v,by rw[AV];exact hv⟩
  ·refine(ok b u q).og (fun c v hc r=>k c v ?_ r) (fun c r=>by rw[ah (DD c b r)];exact r) fun c xs r=>by rw[ah (IF c xs r)];exact r
   rcases hc with rfl|hc
   ·exact AV
   ·rintro rfl
    rcases he with z|z
    ·exact DD c b hc z
    ·rw[hc] at z;cases z;exact hb rfl
end
structure Un(fs ex:List Addr)(H H':Hp)(h h':Heap):Prop where
 keep:∀b o,h.get? b=some o→H b=none→b∉fs→b∉ex→h'.get? b=some o
 slot:∀b o,h.get? b=some o→H b=none→b∈fs→b∉ex→∃sl,h'.get? b=some { o with slots:=sl }
 free:∀b o,h.get? b=some o→H b=none→b∉ex→H' b=none
 there:∀b o,h.get? b=some o→b∉ex→∃o',h'.get? b=some o'
 kR:∀b xs,H b=some (.tup xs)→H' b=some (.tup xs)
 jW:∀b o u,H b=some (.pS o u)→H' b=some (.pS o u)
 kS:∀b ps,H b=some (.AU ps)→∃more,H' b=some (.AU (ps++more))
section
variable {fs xR ex Sr:List Addr}{H H1 H2:Hp}{h h1 h2 h':Heap}{a x e:Addr}{o:HO}
theorem Un.any(u:Un fs ex H H1 h h1){b:Addr}{ob:Obj}(q:h.get? b=some ob)(n:H b=none)(hx:b∉ex):∃sl,h1.get? b=some { ob with slots:=sl }:=by
 by_cases hb:b∈fs
 ·exact u.slot b ob q n hb hx
 ·exact⟨ob.slots,u.keep b ob q n hb hx⟩
theorem Un.kept(k:∀b u,h.get? b=some u→h'.get? b=some u):Un fs ex H H h h':=
 ⟨fun b ob q _ _ _=>k b ob q,fun b ob q _ _ _=>⟨ob.slots,k b ob q⟩,fun _ _ _ n _=>n,fun b ob q _=>⟨ob,k b ob q⟩,fun _ _ q=>q,fun _ _ _ q=>q,fun _ ps q=>⟨#[],by rw[q];simp⟩⟩
theorem Un.refl:Un fs ex H H h h:=Un.kept fun _ _ q=>q
theorem Un.laid(k:∀b u,h.get? b=some u→h'.get? b=some u)(hp:h.objs.size≤a)(hn:H a=none):Un fs ex H (upd H a o) h h' where
 keep:=fun b u q _ _ _=>k b u q
 slot:=fun b u q _ _ _=>⟨u.slots,k b u q⟩
 free:=fun b u q n _=>by rw[ah (Nat.ne_of_lt (Nat.lt_of_lt_of_le (Heap.lt_size q) hp))];exact n
 there:=fun b u q _=>⟨u,k b u q⟩
 kR:=fun b xs q=>by rw[ah (af q hn)];exact q
 jW:=fun b u xs q=>by rw[ah (af q hn)];exact q
 kS:=fun b ps q=>⟨#[],by rw[ah (af q hn),q];simp⟩
theorem Un.write(mu:HI (H x))(he:e=x∨H e=some (.own x))(k:∀b u,b≠e→h.get? b=some u→h'.get? b=some u)(De:∃u,h'.get? e=some u):Un fs ex H (upd H x o) h h':=by
 have hx:∀b,H b=none→b≠x:=fun b n z=>by subst z;rw[n] at mu;exact mu
 have hb:∀b,H b=none→b≠e:=fun b n z=>by
  subst z
  rcases he with r|r
  ·exact hx b n r
  ·rw[n] at r;cases r
 have hm:∀b u,H b=some u→¬HI (some u)→b≠x:=fun b u q nm z=>by subst z;rw[q] at mu;exact nm mu
 refine⟨fun b u q n _ _=>k b u (hb b n) q,fun b u q n _ _=>⟨u.slots,k b u (hb b n) q⟩,fun b u q n _=>by rw[ah (hx b n)];exact n,fun b u q _=>?_,
  fun b xs q=>by rw[ah (hm b _ q fun z=>z)];exact q,fun b u xs q=>by rw[ah (hm b _ q fun z=>z)];exact q,fun b ps q=>⟨#[],by rw[ah (hm b _ q fun z=>z),q];simp⟩⟩
 by_cases AV:b=e
 ·subst AV;exact De
 ·exact⟨u,k b u AV q⟩
end
def HJ(h:Heap)(H:Hp):List Addr:=(List.range h.objs.size).filter fun a=>(H a).isSome
def mh(h:Heap)(H:Hp):Heap:=PySem.W.hideAll h (HJ h H)
theorem sP(h:Heap)(H:Hp):(mh h H).objs.size=h.objs.size:=PySem.W.hideAll_size _ _
theorem uA{h:Heap}{H:Hp}{b:Addr}{o:Obj}(e:h.get? b=some o)(n:H b=none):(mh h H).get? b=some o:=
 PySem.W.hideAll_get _ e fun hm=>by
  have q:(H b).isSome=true:=(List.mem_filter.mp hm).2
  rw[n] at q;simp at q
theorem xS{h:Heap}{H:Hp}{b:Addr}{o:Obj}(e:(mh h H).get? b=some o):h.get? b=some o∧H b=none:=by
 have e':h.get? b=some o:=PySem.W.of_hideAll (HJ h H) e
 refine⟨e',?_⟩
 cases q:H b with
 |none=>rfl
 |some x=>
  have hm:b∈HJ h H:=List.mem_filter.mpr ⟨List.mem_range.mpr (Heap.lt_size e'),by simp [q]⟩
  have z:(mh h H).get? b=none:=PySem.W.hideAll_none (HJ h H) hm
  rw[z] at e;cases e
def xT(g h:Heap)(L:Addr):List (Addr×Obj):=(List.range h.objs.size).filterMap fun a=>if a=L∨(g.get? a).isSome=true then none else (h.get? a).map fun o=>(a,o)
def rest(g h:Heap)(L d:Addr):List (Addr×Obj):=(xT g h L).filter fun p=>decide (p.1≠d)
end L2
namespace L2
open PySem PySem.Spec PyProof.Rows
structure Mod(K:PySem.W.Frag)(mg:Str→Option Value)(base:Heap):Prop where
 AW:K.In base
 glob:base.Ns mainGlobals mg
 blt:∃mb,base.Ns builtinsNs mb∧∀x:Str,x≠"__name__" →mb x=bootBuiltins x
 nolimit:base.NoLimit
structure Cx where
 prog:Program
 w:World
 K:PySem.W.Frag
 mg:Str→Option Value
 base:Heap
 A:Around
 N:List Str
 s₀:Shared
 H₀:Hp
 env:Env
 outer:List Env
 stack:List Env
 ex:List Addr
 fn:Str→Bool
 calm:Bool
 pn:List (Addr×Obj)
 xe:Value→Shared→Prop
def nV(l:List Env):List Addr:=l.filterMap (·.frame)
abbrev Cx.fs(X:Cx):List Addr:=nV X.outer
def IG(sc:Scope)(x:Str):Prop:=sc.names.lookup x=some .local∨sc.names.lookup x=some .cell∨sc.names.lookup x=some .free
def Loc(sc:Scope)(x:Str):Prop:=sc.names.lookup x=some .local∨sc.names.lookup x=some .cell
def Look(env:Env)(h:Heap)(m:Str→Option Value)(x:Str)(u:Value):Prop:=
 (env.kindOf x=some .local∧m x=some u)∨((env.kindOf x=some .cell∨env.kindOf x=some .free)∧∃c,env.cells.lookup x=some c∧h.IsCell c (some u))
structure Cx.Ok(X:Cx):Prop where
 mod:Mod X.K X.mg X.base
 kind:X.env.scope.kind= .function
 glob:X.env.globals=mainGlobals
 blt:X.env.builtins=builtinsNs
 above:X.s₀.heap.objs.size≤X.env.locals
 inj:∀x y c,X.env.cells.lookup x=some c→X.env.cells.lookup y=some c→x=y
 has:∀x,(X.env.kindOf x=some .cell∨X.env.kindOf x=some .free)→∃c,X.env.cells.lookup x=some c
 xU:∀x c,X.fn x=true→X.env.cells.lookup x=some c→X.s₀.heap.objs.size≤c
 hd:X.calm=true→X.A.handled=none
 frames:X.A.frames=some X.stack
 zU:X.stack=X.outer∨(X.stack=X.env::X.outer∧X.env.frame=some X.env.locals)
 Df:∀b∈X.ex,b≠X.env.locals∧∀x c,X.env.cells.lookup x=some c→c≠b
 bs:∀b o,X.base.get? b=some o→X.s₀.heap.get? b=some o∧X.H₀ b=none
 sQ:X.base.objs.size≤X.s₀.heap.objs.size
 mi:∀b o,X.base.get? b=some o→b∉X.ex
 mj:∀b∈X.ex,b∉X.fs
 gI:X.s₀.heap.FunFrames X.base X.outer
 uF:∀b∈X.fs,X.H₀ b=none
structure Inv(X:Cx)(pins:List (Addr×Obj))(σ:List (Option V))(H:Hp)(s:Shared):Prop where
 ok:X.Ok
 os:s.os=X.s₀.os
 bare:AllBare s.gens
 base:Un X.fs X.ex X.H₀ H X.s₀.heap s.heap
 loc:∃m,s.heap.Ns X.env.locals m∧∀(i:Nat) (x:Str) (v:V),X.N[i]? =some x→σ[i]? =some (some v)→IG X.env.scope x→∃u,RelV v u∧Look X.env s.heap m x u
 cell:∀x c,X.env.cells.lookup x=some c→∃v,s.heap.IsCell c v
 free:H X.env.locals=none
 dR:∀x c,X.env.cells.lookup x=some c→H c=none
 pin:∀p∈X.pn++pins,s.heap.get? p.1=some p.2∧H p.1=none∧p.1≠X.env.locals∧p.1∉X.fs∧∀v,p.2.data≠ .cell v
 bz:iO X.prog X.w H s.heap
 len:σ.length=X.N.length
section
variable {X:Cx}{pins:List (Addr×Obj)}{σ:List (Option V)}{H H':Hp}{s:Shared}{h':Heap}
theorem Cx.Ok.IH(ok:X.Ok){b:Addr}{o:Obj}(e:X.base.get? b=some o):b∉X.fs:=fun hb=>by
 have:=(ok.gI.mem hb).1
 rw[e] at this;cases this
theorem Inv.bs(I:Inv X pins σ H s):∀b o,X.base.get? b=some o→s.heap.get? b=some o∧H b=none:=fun b o e=>
 ⟨I.base.keep b o (I.ok.bs b o e).1 (I.ok.bs b o e).2 (I.ok.IH e) (I.ok.mi b o e),I.base.free b o (I.ok.bs b o e).1 (I.ok.bs b o e).2 (I.ok.mi b o e)⟩
theorem Inv.bk(I:Inv X pins σ H s):∀b o,X.base.get? b=some o→s.heap.get? b=some o:=fun b o e=>(I.bs b o e).1
theorem Inv.mod(I:Inv X pins σ H s):Mod X.K X.mg X.base:=I.ok.mod
theorem Inv.eQ(I:Inv X pins σ H s):X.K.In s.heap:=I.ok.mod.AW.keeps I.bk
theorem Inv.lt(I:Inv X pins σ H s):X.env.locals<s.heap.objs.size:=let ⟨_,hn,_⟩:=I.loc;hn.lt
theorem Inv.sz(I:Inv X pins σ H s):X.s₀.heap.objs.size≤s.heap.objs.size:=Nat.le_trans I.ok.above (Nat.le_of_lt I.lt)
theorem Inv.II(I:Inv X pins σ H s){a:Addr}(h:s.heap.objs.size≤a):a∉X.fs:=fun hb=>by
 obtain⟨_,o,ho,_⟩:=I.ok.gI.mem hb
 exact absurd (Nat.lt_of_lt_of_le (Heap.lt_size ho) (Nat.le_trans I.sz h)) (Nat.lt_irrefl _)
theorem Inv.xV(I:Inv X pins σ H s):∀x c,X.env.cells.lookup x=some c→c≠X.env.locals:=fun x c e z=>by
 obtain⟨v,o,ho,hd⟩:=I.cell x c e
 obtain⟨m,⟨o',es,ep,xW,Dg,_⟩,_⟩:=I.loc
 rw[z,xW] at ho;cases ho;rw[Dg] at hd;cases hd
theorem Inv.gI(I:Inv X pins σ H s):s.heap.FunFrames X.base X.outer:=by
 have all:∀(l:List Env),(∀b∈nV l,b∈X.fs)→X.s₀.heap.FunFrames X.base l→s.heap.FunFrames X.base l:=by
  intro l
  induction l with
  |nil=>intro _ _;trivial
  |cons env r ih=>
   intro hs hl
   obtain⟨hk,⟨L,o,hf,hn,ho,hd⟩,hr⟩:=hl
   have hL:L∈X.fs:=hs L (by unfold nV;rw[List.filterMap_cons,hf];exact List.mem_cons_self)
   obtain⟨sl,e⟩:=I.base.slot L o ho (I.ok.uF L hL) hL fun z=>I.ok.mj L z hL
   exact⟨hk,⟨L,_,hf,hn,e,hd⟩,ih (fun b hb=>hs b (by unfold nV;rw[List.filterMap_cons,hf];exact List.mem_cons_of_mem _ hb)) hr⟩
 exact all X.outer (fun _ hb=>hb) I.ok.gI
theorem Inv.stack(I:Inv X pins σ H s):s.heap.FunFrames X.base X.stack:=by
 rcases I.ok.zU with e| ⟨e,hf⟩
 ·rw[e];exact I.gI
 ·rw[e]
  obtain⟨m,hn,_⟩:=I.loc
  refine .cons (by rw[I.ok.kind];decide) hf hn ?_ I.gI
  exact Heap.get?_none_of_le (Nat.le_trans I.ok.sQ I.ok.above)
theorem Inv.ml(I:Inv X pins σ H s):∀b∈nV X.stack,b∈X.env.locals::X.fs:=fun b hb=>by
 rcases I.ok.zU with e| ⟨e,hf⟩
 ·rw[e] at hb;exact List.mem_cons_of_mem _ hb
 ·rw[e] at hb
  unfold nV at hb
  rw[List.filterMap_cons,hf] at hb
  exact hb
theorem Inv.mn(I:Inv X pins σ H s):∀b∈nV X.stack,H b=none:=fun b hb=>by
 rcases List.mem_cons.mp (I.ml b hb) with e|hb
 ·rw[e];exact I.free
 ·obtain⟨_,o,ho,_⟩:=I.ok.gI.mem hb
  exact I.base.free b o ho (I.ok.uF b hb) fun z=>I.ok.mj b z hb
theorem Inv.step{g':Array GenState}{t':Nat}{d':Drawn}{ch:List Addr}(I:Inv X pins σ H s)
  (uu:∀b∈ch,(b∈X.ex∨X.s₀.heap.objs.size≤b)∧b≠X.env.locals∧(∀x c,X.env.cells.lookup x=some c→c≠b)∧∀p∈X.pn++pins,p.1≠b)
  (keep:∀b o,b≠X.env.locals→b∉X.fs→b∉ch→s.heap.get? b=some o→H b=none→h'.get? b=some o)
  (slot:∀b o,b≠X.env.locals→b∈X.fs→b∉ch→s.heap.get? b=some o→H b=none→∃sl,h'.get? b=some { o with slots:=sl }) (free:∀b o,b∉ch→s.heap.get? b=some o→H b=none→H' b=none)
  (there:∀b o,b∉ch→s.heap.get? b=some o→∃o',h'.get? b=some o')
  (kR:∀b xs,H b=some (.tup xs)→H' b=some (.tup xs)) (jW:∀b o u,H b=some (.pS o u)→H' b=some (.pS o u)) (kS:∀b ps,H b=some (.AU ps)→∃more,H' b=some (.AU (ps++more)))
  (ns:∀m,s.heap.Ns X.env.locals m→h'.Ns X.env.locals m) (bz:iO X.prog X.w H' h') (hg:AllBare g'):
  Inv X pins σ H' { s with heap:=h',gens:=g',drawn:=d',toks:=t' }:=by
 have NS:∀b o,X.s₀.heap.get? b=some o→b≠X.env.locals:=fun b o e=>Nat.ne_of_lt (Nat.lt_of_lt_of_le (Heap.lt_size e) I.ok.above)
 have HK:∀b o,X.s₀.heap.get? b=some o→b∉X.ex→b∉ch:=fun b o e hx hb=>by
  rcases (uu b hb).1 with z|z
  ·exact hx z
  ·exact absurd (Nat.lt_of_lt_of_le (Heap.lt_size e) z) (Nat.lt_irrefl _)
 have cellK:∀x c,X.env.cells.lookup x=some c→∀v,s.heap.IsCell c v→h'.IsCell c v:=fun x c e v ⟨o,ho,hd⟩=>by
  have DE:c∉ch:=fun z=>(uu c z).2.2.1 x c e rfl
  by_cases hc:c∈X.fs
  ·obtain⟨sl,q⟩:=slot c o (I.xV x c e) hc DE ho (I.dR x c e)
   exact⟨_,q,hd⟩
  ·exact⟨o,keep c o (I.xV x c e) hc DE ho (I.dR x c e),hd⟩
 refine⟨I.ok,I.os,hg,⟨fun b o e n hb hx=>?_,fun b o e n hb hx=>?_,fun b o e n hx=>?_,fun b o e hx=>?_,fun b xs e=>kR b xs (I.base.kR b xs e),fun b o xs e=>jW b o xs (I.base.jW b o xs e),fun b ps e=>?_⟩,?_,fun x c e=>?_,?_,fun x c e=>?_,fun p hp=>?_,bz,I.len⟩
 ·exact keep b o (NS b o e) hb (HK b o e hx) (I.base.keep b o e n hb hx) (I.base.free b o e n hx)
 ·obtain⟨sl,e1⟩:=I.base.slot b o e n hb hx
  obtain⟨AX,e2⟩:=slot b _ (NS b o e) hb (HK b o e hx) e1 (I.base.free b o e n hx)
  exact⟨AX,e2⟩
 ·obtain⟨o',e1⟩:=I.base.there b o e hx
  exact free b o' (HK b o e hx) e1 (I.base.free b o e n hx)
 ·obtain⟨o',e1⟩:=I.base.there b o e hx
  exact there b o' (HK b o e hx) e1
 ·obtain⟨m1,e1⟩:=I.base.kS b ps e
  obtain⟨m2,e2⟩:=kS b _ e1
  exact⟨m1++m2,by rw[e2,Array.append_assoc]⟩
 ·obtain⟨m,hn,hl⟩:=I.loc
  refine⟨m,ns m hn,fun i x v e1 e2 e3=>?_⟩
  obtain⟨u,r,l⟩:=hl i x v e1 e2 e3
  refine⟨u,r,?_⟩
  rcases l with l| ⟨k,c,e,z⟩
  ·exact .inl l
  ·exact .inr ⟨k,c,e,cellK x c e _ z⟩
 ·obtain⟨v,z⟩:=I.cell x c e
  exact⟨v,cellK x c e v z⟩
 ·obtain⟨m,⟨o,_,_,ho,_⟩,_⟩:=I.loc
  exact free _ o (fun z=>(uu _ z).2.1 rfl) ho I.free
 ·obtain⟨v,o,ho,hd⟩:=I.cell x c e
  exact free c o (fun z=>(uu c z).2.2.1 x c e rfl) ho (I.dR x c e)
 ·obtain⟨e,n,ne,nf,d⟩:=I.pin p hp
  have DE:p.1∉ch:=fun z=>(uu p.1 z).2.2.2 p hp rfl
  exact⟨keep p.1 p.2 ne nf DE e n,free p.1 p.2 DE e n,ne,nf,d⟩
theorem Inv.un{t':Nat}(I:Inv X pins σ H s)(u:Un X.fs [] H H' s.heap h')(bz:iO X.prog X.w H' h'):Inv X pins σ H' { s with heap:=h',toks:=t' }:=by
 obtain⟨m,⟨o,es,ep,ho,r⟩,_⟩:=id I.loc
 obtain⟨sl,hL⟩:=u.any ho I.free (by simp)
 exact I.step (g':=s.gens) (d':=s.drawn) (ch:=[]) (fun _ z=>nomatch z) (fun b o _ hb _ e n=>u.keep b o e n hb (by simp)) (fun b o _ hb _ e n=>u.slot b o e n hb (by simp)) (fun b o _ e n=>u.free b o e n (by simp)) (fun b o _ e=>u.there b o e (by simp)) u.kR u.jW u.kS (fun m' hm=>by
  obtain⟨o',IJ,IK,xW,r'⟩:=hm
  rw[ho] at xW;cases xW
  exact⟨_,IJ,IK,hL,r'⟩) bz I.bare
theorem Inv.call{g':Array GenState}{t':Nat}{d':Drawn}{ch:List Addr}(I:Inv X pins σ H s)(u:Un (nV X.stack) ch H H' s.heap h')(bz:iO X.prog X.w H' h')(hg:AllBare g')
  (uu:∀b∈ch,(b∈X.ex∨X.s₀.heap.objs.size≤b)∧b≠X.env.locals∧(∀x c,X.env.cells.lookup x=some c→c≠b)∧∀p∈X.pn++pins,p.1≠b):
  Inv X pins σ H' { s with heap:=h',gens:=g',drawn:=d',toks:=t' }:=by
 obtain⟨m,⟨o,es,ep,ho,r⟩,_⟩:=id I.loc
 obtain⟨sl,hL⟩:=u.any ho I.free fun z=>(uu _ z).2.1 rfl
 exact I.step (ch:=ch) uu (fun b o hL hb hc e n=>u.keep b o e n (fun z=>(List.mem_cons.mp (I.ml b z)).elim hL hb) hc) (fun b o _ _ hc e n=>u.any e n hc) (fun b o hc e n=>u.free b o e n hc) (fun b o hc e=>u.there b o e hc) u.kR u.jW u.kS (fun m' hm=>by
  obtain⟨o',IJ,IK,xW,r'⟩:=hm
  rw[ho] at xW;cases xW
  exact⟨_,IJ,IK,hL,r'⟩) bz hg
theorem Inv.turned{t':Nat}{it:Addr}(I:Inv X pins σ H s)(k:∀b o,b≠it→s.heap.get? b=some o→h'.get? b=some o)(hn:H it=none)(hL:it≠X.env.locals)
  (h1:it∈X.ex∨X.s₀.heap.objs.size≤it) (h2:∀x c,X.env.cells.lookup x=some c→c≠it) (h3:∀p∈X.pn++pins,p.1≠it):Inv X pins σ H { s with heap:=h',toks:=t' }:=by
 have NT:∀b u,H b=some u→b≠it:=fun b u e z=>by rw[z,hn] at e;cases e
 refine I.step (g':=s.gens) (d':=s.drawn) (ch:=[it]) (fun b hb=>?_) (fun b o _ _ hc e _=>k b o (fun z=>hc (by simp [z])) e) (fun b o _ _ hc e _=>⟨o.slots,k b o (fun z=>hc (by simp [z])) e⟩) (fun _ _ _ _ n=>n)
  (fun b o hc e=>⟨o,k b o (fun z=>hc (by simp [z])) e⟩) (fun _ _ e=>e) (fun _ _ _ e=>e) (fun b ps e=>⟨#[],by rw[e];simp⟩) (fun m hm=>?_) (fun b u e=>?_) I.bare
 ·have e:b=it:=by simpa using hb
  subst e
  exact⟨h1,hL,h2,h3⟩
 ·obtain⟨o,es,ep,ho,r⟩:=hm
  exact⟨o,es,ep,k _ o (Ne.symm hL) ho,r⟩
 ·refine(I.bz b u e).og (fun c v hc q=>k c v ?_ q) (fun _ q=>q) fun _ _ q=>q
  rcases hc with z|z
  ·rw[z];exact NT b u e
  ·exact NT c _ z
theorem Inv.tok(I:Inv X pins σ H s)(t:Nat):Inv X pins σ H { s with toks:=t }:=I.un (h':=s.heap) (t':=t) Un.refl I.bz
theorem Inv.kept{t':Nat}(I:Inv X pins σ H s)(k:∀b u,s.heap.get? b=some u→h'.get? b=some u):Inv X pins σ H { s with heap:=h',toks:=t' }:=I.un (Un.kept k) (I.bz.kept k)
theorem Inv.laid{a:Addr}{o:HO}{t':Nat}(I:Inv X pins σ H s)(k:∀b u,s.heap.get? b=some u→h'.get? b=some u)(hp:s.heap.objs.size≤a)(new:cp X.prog X.w (upd H a o) h' a o):
  Inv X pins σ (upd H a o) { s with heap:=h',toks:=t' }:=I.un (Un.laid k hp (I.bz.fresh hp)) (I.bz.laid k hp new)
theorem Inv.write{x e:Addr}{o:HO}{t':Nat}(I:Inv X pins σ H s)(mu:HI (H x))(he:e=x∨H e=some (.own x))(k:∀b u,b≠e→s.heap.get? b=some u→h'.get? b=some u)(De:∃u,h'.get? e=some u)
  (new:cp X.prog X.w (upd H x o) h' x o):Inv X pins σ (upd H x o) { s with heap:=h',toks:=t' }:=I.un (Un.write mu he k De) (I.bz.write mu he k De new)
theorem Inv.mq{zV:List (Addr×Obj)}(I:Inv X pins σ H s)(h:∀p∈zV,s.heap.get? p.1=some p.2∧H p.1=none∧p.1≠X.env.locals∧p.1∉X.fs∧∀v,p.2.data≠ .cell v):Inv X zV σ H s:=
 ⟨I.ok,I.os,I.bare,I.base,I.loc,I.cell,I.free,I.dR,fun p hp=>(List.mem_append.mp hp).elim (fun z=>I.pin p (List.mem_append_left _ z)) (h p),I.bz,I.len⟩
theorem jX{N:List Str}(hN:N.Nodup){i j:Nat}{x:Str}(a:N[i]? =some x)(b:N[j]? =some x):i=j:=by
 obtain⟨h1,e1⟩:=List.getElem?_eq_some_iff.mp a
 obtain⟨h2,e2⟩:=List.getElem?_eq_some_iff.mp b
 exact(List.getElem_inj hN).mp (e1.trans e2.symm)
theorem sR{M:Model}{A:Around}{E:Value→Shared→Prop}{i:Nat}{x:Str}{v:V}{u:Value}{Q:Unit→Shared→Prop}(I:Inv X pins σ H s)(hN:X.N.Nodup)(hi:X.N[i]? =some x)(hx:Loc X.env.scope x)(r:RelV v u)
  (h:∀s',Inv X pins (σ.set i (some v)) H s'→(∃a,Heap.SameBut a s.heap s'.heap∧(a=X.env.locals∨X.env.cells.lookup x=some a))→Q () s') (hf:X.fn x=true∨X.env.scope.names.lookup x=some .local:=by first|exact .inl rfl|exact .inr rfl|assumption):wpAny M A (storeName X.env x u) Q E s:=by
 obtain⟨m,hn,hl⟩:=id I.loc
 have AY:(X.env.scope.kind== .class||(X.env.scope.kind== .module&&X.env.locals != X.env.globals))=false:=by rw[I.ok.kind];rfl
 have NU:i<σ.length:=by rw[I.len];exact(List.getElem?_eq_some_iff.mp hi).1
 have xV:=I.xV
 have tracked:∀{a:Addr} {h':Heap},(∃o,s.heap.get? a=some o∧H a=none)→Heap.SameBut a s.heap h'→iO X.prog X.w H h':=fun {a h'} ha hs b ob e=>by
  obtain⟨_,_,zW⟩:=ha
  refine(I.bz b ob e).og (fun c w' hc q=>(hs.2 c ?_).trans q) (fun _ q=>q) fun _ _ q=>q
  rintro rfl
  rcases hc with rfl|hc
  ·rw[zW] at e;cases e
  ·rw[zW] at hc;cases hc
 rcases hx with hk|hk
 ·refine wpAny_storeName_local hk hn (fun h' O4 hs=>?_) AY
  obtain⟨oL,_,_,NV,_⟩:=id hn
  refine h _ ⟨I.ok,I.os,I.bare,⟨fun b o e n hb hx=>?_,fun b o e n hb hx=>?_,I.base.free,fun b o e hx=>?_,I.base.kR,I.base.jW,I.base.kS⟩,⟨_,O4,fun j y v' e1 e2 e3=>?_⟩,fun y c e=>?_,I.free,I.dR,fun p hp=>?_,tracked ⟨oL,NV,I.free⟩ hs,by simpa using I.len⟩ ⟨_,hs, .inl rfl⟩
  ·exact(hs.2 b (Nat.ne_of_lt (Nat.lt_of_lt_of_le (Heap.lt_size e) I.ok.above))).trans (I.base.keep b o e n hb hx)
  ·obtain⟨sl,e1⟩:=I.base.slot b o e n hb hx
   exact⟨sl,(hs.2 b (Nat.ne_of_lt (Nat.lt_of_lt_of_le (Heap.lt_size e) I.ok.above))).trans e1⟩
  ·obtain⟨o',e1⟩:=I.base.there b o e hx
   exact⟨o',(hs.2 b (Nat.ne_of_lt (Nat.lt_of_lt_of_le (Heap.lt_size e) I.ok.above))).trans e1⟩
  ·by_cases hj:j=i
   ·subst hj
    rw[hi] at e1;cases e1
    rw[List.getElem?_set_self NU] at e2
    cases e2
    exact⟨u,r, .inl ⟨hk,by simp⟩⟩
   ·rw[List.getElem?_set_ne (Ne.symm hj)] at e2
    obtain⟨u',r',q⟩:=hl j y v' e1 e2 e3
    refine⟨u',r',?_⟩
    rcases q with ⟨k,e⟩ | ⟨k,c,e,z⟩
    ·refine .inl ⟨k,?_⟩
     have:y≠x:=fun e=>hj (jX hN e1 (e▸hi))
     simp [this,e]
    ·exact .inr ⟨k,c,e,z.sameBut hs (xV y c e)⟩
  ·obtain⟨w',z⟩:=I.cell y c e
   exact⟨w',z.sameBut hs (xV y c e)⟩
  ·obtain⟨e,n,ne,nf,d⟩:=I.pin p hp
   exact⟨(hs.2 p.1 ne).trans e,n,ne,nf,d⟩
 ·have IL:X.fn x=true:=by
   rcases hf with z|z
   ·exact z
   ·rw[z] at hk;cases hk
  obtain⟨c,hc⟩:=I.ok.has x (.inl hk)
  obtain⟨w',z⟩:=I.cell x c hc
  refine wpAny_storeName_cell I.ok.kind hk hc z (fun h' xI hs=>?_)
  obtain⟨oc,NW,IM⟩:=id z
  refine h { s with heap:=h' } ⟨I.ok,I.os,I.bare,⟨fun b o e n hb hx=>?_,fun b o e n hb hx=>?_,I.base.free,fun b o e hx=>?_,I.base.kR,I.base.jW,I.base.kS⟩,⟨m,hn.sameBut hs (Ne.symm (xV x c hc)),fun j y v' e1 e2 e3=>?_⟩,fun y c' e=>?_,I.free,I.dR,fun p hp=>?_,tracked ⟨oc,NW,I.dR x c hc⟩ hs,by simpa using I.len⟩ ⟨c,hs, .inr hc⟩
  ·exact(hs.2 b (Nat.ne_of_lt (Nat.lt_of_lt_of_le (Heap.lt_size e) (I.ok.xU x c IL hc)))).trans (I.base.keep b o e n hb hx)
  ·obtain⟨sl,e1⟩:=I.base.slot b o e n hb hx
   exact⟨sl,(hs.2 b (Nat.ne_of_lt (Nat.lt_of_lt_of_le (Heap.lt_size e) (I.ok.xU x c IL hc)))).trans e1⟩
  ·obtain⟨o',e1⟩:=I.base.there b o e hx
   exact⟨o',(hs.2 b (Nat.ne_of_lt (Nat.lt_of_lt_of_le (Heap.lt_size e) (I.ok.xU x c IL hc)))).trans e1⟩
  ·by_cases hj:j=i
   ·subst hj
    rw[hi] at e1;cases e1
    rw[List.getElem?_set_self NU] at e2
    cases e2
    exact⟨u,r, .inr ⟨.inl hk,c,hc,xI⟩⟩
   ·rw[List.getElem?_set_ne (Ne.symm hj)] at e2
    obtain⟨u',r',q⟩:=hl j y v' e1 e2 e3
    refine⟨u',r',?_⟩
    rcases q with q| ⟨k,c',e,z'⟩
    ·exact .inl q
    ·refine .inr ⟨k,c',e,z'.sameBut hs ?_⟩
     rintro rfl
     exact hj (jX hN e1 (I.ok.inj _ _ _ e hc▸hi))
  ·by_cases rf:c'=c
   ·subst rf;exact⟨_,xI⟩
   ·obtain⟨w2,z2⟩:=I.cell y c' e
    exact⟨w2,z2.sameBut hs rf⟩
  ·obtain⟨e,n,ne,nf,d⟩:=I.pin p hp
   refine⟨(hs.2 p.1 ?_).trans e,n,ne,nf,d⟩
   intro q
   rw[q,NW] at e
   have q':oc=p.2:=Option.some.inj e
   exact d w' (by rw[←q'];exact IM)
theorem store_ok{M:Model}{A:Around}{E:Value→Shared→Prop}{i:Nat}{x:Str}{v:V}{u:Value}{Q:Unit→Shared→Prop}(I:Inv X pins σ H s)(hN:X.N.Nodup)(hi:X.N[i]? =some x)(hx:Loc X.env.scope x)(r:RelV v u)
  (h:∀s',Inv X pins (σ.set i (some v)) H s'→Q () s') (hf:X.fn x=true∨X.env.scope.names.lookup x=some .local:=by first|exact .inl rfl|exact .inr rfl|assumption):wpAny M A (storeName X.env x u) Q E s:=
 sR I hN hi hx r (fun s' I' _=>h s' I') hf
theorem Inv.uG{s':Shared}{ch:List Addr}(I:Inv X pins σ H s)(ho:s'.os=s.os)(u:Un (nV X.stack) ch H H' s.heap s'.heap)(bz:iO X.prog X.w H' s'.heap)(hg:AllBare s'.gens)
  (uu:∀b∈ch,(b∈X.ex∨X.s₀.heap.objs.size≤b)∧b≠X.env.locals∧(∀x c,X.env.cells.lookup x=some c→c≠b)∧∀p∈X.pn++pins,p.1≠b):Inv X pins σ H' s':=by
 obtain⟨h',g',d',t',o'⟩:=s'
 have e:o'=s.os:=ho
 subst e
 exact I.call (g':=g') (t':=t') (d':=d') u bz hg uu
end
abbrev XK:=Value→Option Addr→Hp→Prop
abbrev St:=List (Option V)
abbrev VK:=V→Hp→Prop
abbrev TE:=St→Hp→VK→Prop
abbrev TT:=St→Hp→(Bool→Hp→Prop)→Prop
abbrev TA:=St→Hp→(List V→Hp→Prop)→Prop
structure Ends where
 nx:St→Hp→Prop
 rt:VK
 bk:St→Hp→Prop:=fun _ _=>False
 ct:St→Hp→Prop:=fun _ _=>False
abbrev TS:=Ends→St→Hp→Prop
def EP(X:Cx)(pins:List (Addr×Obj))(σ:St)(Q:VK)(u:Value)(s':Shared):Prop:=∃v H',Inv X pins σ H' s'∧RelV v u∧Q v H'
def TP(X:Cx)(pins:List (Addr×Obj))(σ:St)(Q:Bool→Hp→Prop)(b:Bool)(s':Shared):Prop:=∃H',Inv X pins σ H' s'∧Q b H'
def AP(X:Cx)(pins:List (Addr×Obj))(σ:St)(Q:List V→Hp→Prop)(us:List Value)(s':Shared):Prop:=∃vs H',Inv X pins σ H' s'∧Vals vs us∧Q vs H'
def SP(X:Cx)(pins:List (Addr×Obj))(D:Ends)(f:Flow)(s':Shared):Prop:=
 match f with
 | .next=>∃σ' H',Inv X pins σ' H' s'∧D.nx σ' H'
 | .brk=>∃σ' H',Inv X pins σ' H' s'∧D.bk σ' H'
 | .cont=>∃σ' H',Inv X pins σ' H' s'∧D.ct σ' H'
 | .ret u=>∃v σ' H',Inv X pins σ' H' s'∧RelV v u∧D.rt v H'
def PE(X:Cx)(e:Expr)(t:TE):Prop:=
 ∀(pins:List (Addr×Obj)) (s:Shared) (σ:St) (H:Hp) (Q:VK),Inv X pins σ H s→t σ H Q→wpAny (model X.prog X.w) X.A (eval e X.env) (EP X pins σ Q) X.xe s
def PT(X:Cx)(e:Expr)(t:TT):Prop:=
 ∀(pins:List (Addr×Obj)) (s:Shared) (σ:St) (H:Hp) (Q:Bool→Hp→Prop),Inv X pins σ H s→t σ H Q→wpAny (model X.prog X.w) X.A (isTrue e X.env (eval e X.env)) (TP X pins σ Q) X.xe s
def PW(X:Cx)(e:Expr)(t:TT):Prop:=
 ∀(whole:Sem Value) (pins:List (Addr×Obj)) (s:Shared) (σ:St) (H:Hp) (Q:Bool→Hp→Prop),Inv X pins σ H s→t σ H Q→wpAny (model X.prog X.w) X.A (isTrue e X.env whole) (TP X pins σ Q) X.xe s
theorem PW.pt{X:Cx}{e:Expr}{t:TT}(h:PW X e t):PT X e t:=h _
def PA(X:Cx)(es:List Expr)(t:TA):Prop:=
 ∀(pos:Pos) (pins:List (Addr×Obj)) (s:Shared) (σ:St) (H:Hp) (Q:List V→Hp→Prop),Inv X pins σ H s→t σ H Q→wpAny (model X.prog X.w) X.A (spliced (backTo pos (starEach es X.env))) (AP X pins σ Q) X.xe s
def PS(X:Cx)(st:Stmt)(t:TS):Prop:=
 ∀(pins:List (Addr×Obj)) (s:Shared) (σ:St) (H:Hp) (D:Ends),Inv X pins σ H s→t D σ H→wpAny (model X.prog X.w) X.A (exec st X.env) (SP X pins D) X.xe s
def iR(X:Cx)(st:List Stmt)(t:TS):Prop:=
 ∀(pins:List (Addr×Obj)) (s:Shared) (σ:St) (H:Hp) (D:Ends),Inv X pins σ H s→t D σ H→wpAny (model X.prog X.w) X.A (execs st X.env) (SP X pins D) X.xe s
theorem bP{α:Type}{t:Sem α}{Q Q':α→Shared→Prop}{M:Model}{A:Around}{E:Value→Shared→Prop}{s:Shared}(h:wpAny M A t Q E s)(hQ:∀a s,Q a s→Q' a s):wpAny M A t Q' E s:=wpAny_mono h hQ fun _ _ x=>x
end L2
namespace L2
open PySem PySem.Spec PyProof.Rows
section
variable {X:Cx}
inductive RV(i:Nat)(σ:St)(H:Hp)(Q:VK):Prop
 |mk (v:V) (e:σ[i]? =some (some v)) (q:Q v H)
def pT(i:Nat):TE:=fun σ H Q=>RV i σ H Q
def tC(v:V):TE:=fun _ H Q=>Q v H
theorem AZ{i:Nat}{x:Str}{pos:Pos}(hN:X.N[i]? =some x)(hv:IG X.env.scope x)(hd:(x==("__debug__" :Str))=false:=by decide)(jY:(x==("__classdict__" :Str))=false:=by decide):PE X (.Name x pos) (pT i):=by
 intro pins s σ H Q I h
 obtain⟨v,e,h⟩:=h
 obtain⟨m,hn,hl⟩:=I.loc
 obtain⟨u,r,l⟩:=hl i x v hN e hv
 have fin:EP X pins σ Q u s:=⟨v,H,I,r,h⟩
 rcases l with ⟨hk,hm⟩ | ⟨hk,c,hc,jZ⟩
 ·exact wpAny_Name (wpAny_loadName_local I.ok.kind hk hn hm fin) hd
 ·rcases hk with hk|hk
  ·exact wpAny_Name (wpAny_loadName_cell I.ok.kind hk hc jZ fin) hd
  ·exact wpAny_Name (wpAny_loadName_free I.ok.kind hk hc jZ fin jY) hd
theorem ao{i j pos}:PE X (.Constant (.int i) j pos) (tC (.int i)):=fun _ _ _ H _ I h=>wpAny_Constant_int ⟨.int i,H,I.tok _,⟨_,rfl⟩,h⟩
theorem fJ{b j pos}:PE X (.Constant (.bool b) j pos) (tC (.bl b)):=fun _ _ _ H _ I h=>Constant_bool ⟨.bl b,H,I,rfl,h⟩
theorem pU{j pos}:PE X (.Constant .none j pos) (tC .bR):=fun _ _ _ H _ I h=>Constant_none ⟨.bR,H,I,rfl,h⟩
theorem aG{x j pos}:PE X (.Constant (.str x) j pos) (tC (.str x)):=fun _ _ _ H _ I h=>Calls.Constant_str ⟨.str x,H,I.tok _,⟨_,rfl⟩,h⟩
def Gl(X:Cx)(x:Str):Prop:=X.env.kindOf x=some .globalImplicit
theorem eS{E:Value→Shared→Prop}{pins:List (Addr×Obj)}{s:Shared}{σ:St}{H:Hp}{x:Str}{u:Value}{pos:Pos}{Q:Value→Shared→Prop}(I:Inv X pins σ H s)(hg:Gl X x)(hm:X.mg x=some u)(h:Q u s)
  (hd:(x==("__debug__" :Str))=false:=by decide):wpAny (model X.prog X.w) X.A (eval (.Name x pos) X.env) Q E s:=
 Calls.Name_function_global I.ok.kind hg (Calls.loadGlobal_global (by rw[I.ok.glob];exact I.mod.glob.keeps I.bk) hm h) hd
theorem mr{E:Value→Shared→Prop}{pins:List (Addr×Obj)}{s:Shared}{σ:St}{H:Hp}{x:Str}{u:Value}{pos:Pos}{Q:Value→Shared→Prop}(I:Inv X pins σ H s)(hg:Gl X x)(hm:X.mg x=none)(hv:bootBuiltins x=some u)(h:Q u s)
  (hn:x≠"__name__" :=by decide) (hd:(x==("__debug__" :Str))=false:=by decide):wpAny (model X.prog X.w) X.A (eval (.Name x pos) X.env) Q E s:=by
 obtain⟨mb,h1,h2⟩:=I.mod.blt
 exact Calls.Name_function_global I.ok.kind hg (Calls.loadGlobal_builtin (by rw[I.ok.glob];exact I.mod.glob.keeps I.bk) hm (by rw[I.ok.blt];exact h1.keeps I.bk) ((h2 x hn).trans hv) h) hd
theorem aV{x:Str}{v:V}{u:Value}{pos:Pos}(hg:Gl X x)(hm:X.mg x=some u)(r:RelV v u)(hd:(x==("__debug__" :Str))=false:=by decide):PE X (.Name x pos) (tC v):=
 fun _ _ _ H _ I h=>eS I hg hm ⟨v,H,I,r,h⟩ hd
theorem mv{x:Str}{v:V}{u:Value}{pos:Pos}(hg:Gl X x)(hm:X.mg x=none)(hv:bootBuiltins x=some u)(r:RelV v u)(hn:x≠"__name__" :=by decide)(hd:(x==("__debug__" :Str))=false:=by decide):PE X (.Name x pos) (tC v):=
 fun _ _ _ H _ I h=>mr I hg hm hv ⟨v,H,I,r,h⟩ hn hd
variable {a b:Expr}{ta tb:TE}{pos:Pos}
def PC(X:Cx)(op:CmpOp)(a b:Expr)(t:TE):Prop:=
 ∀(pins:List (Addr×Obj)) (s:Shared) (σ:St) (H:Hp) (Q:VK),Inv X pins σ H s→t σ H Q→
  wpAny (model X.prog X.w) X.A (eval a X.env) (fun v s₁=>wpAny (model X.prog X.w) X.A (eval b X.env) (fun u s₂=>wpAny (model X.prog X.w) X.A (compareOp op v u) (EP X pins σ Q) X.xe s₂) X.xe s₁) X.xe s
theorem uH(b:Expr){op:CmpOp}(h:op≠ .In)(h2:op≠ .NotIn):behindInMarks op b=false:=by
 have e1:(op==CmpOp.In)=false:=by cases op<;>first|rfl|exact absurd rfl h
 have e2:(op==CmpOp.NotIn)=false:=by cases op<;>first|rfl|exact absurd rfl h2
 cases b<;>simp [behindInMarks,e1,e2]
def IP(ta:TE):TE:=fun σ H Q=>ta σ H fun x H1=>Q (.bl (decide (x= .bR))) H1
def DF(ta:TE):TE:=fun σ H Q=>ta σ H fun x H1=>Q (.bl (!decide (x= .bR))) H1
theorem RelV.oh{x:V}{v:Value}(r:RelV x v):(v==Value.none)=decide (x= .bR):=by
 cases x with
 |bR=>cases r;rfl
 |bl _=>cases r;rfl
 |int _=>obtain⟨t,rfl⟩:=r;rfl
 |str _=>obtain⟨t,rfl⟩:=r;rfl
 |pR _=>obtain⟨t,rfl⟩:=r;rfl
 |zS _=>obtain⟨t,rfl⟩:=r;rfl
 |ref _=>cases r;rfl
 |ty _=>cases r;rfl
theorem A0{j pos'}(ha:PE X a ta):PC X .Is a (.Constant .none j pos') (IP ta):=by
 intro pins s σ H Q I h
 refine bP (ha pins s σ H _ I h) fun v s1 ⟨x,H1,I1,r1,q1⟩=>?_
 exact Constant_none (is_none_gen ⟨.bl _,H1,I1,by rw[r1.oh];rfl,q1⟩)
theorem xX{j pos'}(ha:PE X a ta):PC X .IsNot a (.Constant .none j pos') (DF ta):=by
 intro pins s σ H Q I h
 refine bP (ha pins s σ H _ I h) fun v s1 ⟨x,H1,I1,r1,q1⟩=>?_
 exact Constant_none (isnot_none_gen ⟨.bl _,H1,I1,by rw[r1.oh];rfl,q1⟩)
def tB(t:TE):TT:=fun σ H Q=>t σ H fun x H1=>∃c,x= .bl c∧Q c H1
theorem uJ{op:CmpOp}{t:TE}(h:PC X op a b t)(h1:behindInMarks op b=false:=by first|exact uH _ (by decide) (by decide) |rfl):PT X (.Compare a [op] [b] pos) (tB t):=by
 intro pins s σ H Q I hw
 refine wpAny_isTrue_Compare1 (bP (h pins s σ H _ I hw) fun v s1 h1=>bP h1 fun u s2 h2=>bP h2 fun c s3 ⟨x,H1,I1,r1,q1⟩=>?_) h1
 obtain⟨d,rfl,q⟩:=q1
 cases r1
 exact wpAny_truthy_bool ⟨H1,I1,q⟩
theorem du{e:Expr}{t:TE}(h:PE X e t)(he:∀whole,isTrue e X.env whole=(do let v←whole;standAt e.pos;holding [v] (truthy v)):=by intro _;rfl):PT X e (tB t):=by
 intro pins s σ H Q I hw
 refine isTrue_plain (bP (h pins s σ H _ I hw) fun v s1 ⟨x,H1,I1,r1,q1⟩=>?_) (he _)
 obtain⟨d,rfl,q⟩:=q1
 cases r1
 exact wpAny_truthy_bool ⟨H1,I1,q⟩
variable {tA HL:TT}{rest:List Expr}
def xY(t u:TT):TT:=fun σ H Q=>t σ H fun c H1=>if c=true then u σ H1 Q else Q false H1
def O5(t u:TT):TT:=fun σ H Q=>t σ H fun c H1=>if c=true then Q true H1 else u σ H1 Q
def IQ(t:TT):TT:=fun σ H Q=>t σ H fun c H1=>Q (!c) H1
theorem eU(ha:PT X a tA):PW X (.BoolOp .And [a] pos) tA:=by
 intro wh pins s σ H Q I h
 refine isTrue_and (bP (ha pins s σ H Q I h) fun c s1 e=>?_)
 cases c with
 |true=>exact isTrue_and_nil e
 |false=>exact e
theorem iS(ha:PT X a tA):PW X (.BoolOp .Or [a] pos) tA:=by
 intro wh pins s σ H Q I h
 refine isTrue_or (bP (ha pins s σ H Q I h) fun c s1 e=>?_)
 cases c with
 |false=>exact isTrue_or_nil e
 |true=>exact e
theorem fK(ha:PT X a tA)(hb:PW X (.BoolOp .And (b::rest) pos) HL):PW X (.BoolOp .And (a::b::rest) pos) (xY tA HL):=by
 intro wh pins s σ H Q I h
 refine isTrue_and (bP (ha pins s σ H _ I h) fun c s1 ⟨H1,I1,q1⟩=>?_)
 cases c with
 |true=>exact hb wh pins s1 σ H1 Q I1 q1
 |false=>exact⟨H1,I1,q1⟩
theorem gN(ha:PT X a tA)(hb:PW X (.BoolOp .Or (b::rest) pos) HL):PW X (.BoolOp .Or (a::b::rest) pos) (O5 tA HL):=by
 intro wh pins s σ H Q I h
 refine isTrue_or (bP (ha pins s σ H _ I h) fun c s1 ⟨H1,I1,q1⟩=>?_)
 cases c with
 |true=>exact⟨H1,I1,q1⟩
 |false=>exact hb wh pins s1 σ H1 Q I1 q1
theorem pV(ha:PT X a tA):PT X (.UnaryOp .Not a pos) (IQ tA):=by
 intro pins s σ H Q I h
 exact isTrue_not (ha pins s σ H (fun c H1=>Q (!c) H1) I h)
def DG(ta tb:TE):TE:=fun σ H Q=>ta σ H fun x H1=>∃c,x= .bl c∧if c=true then tb σ H1 Q else Q (.bl false) H1
def IS(ta tb:TE):TE:=fun σ H Q=>ta σ H fun x H1=>∃c,x= .bl c∧if c=true then Q (.bl true) H1 else tb σ H1 Q
def DH(ta:TE):TE:=fun σ H Q=>ta σ H fun x H1=>∃c,x= .bl c∧Q (.bl (!c)) H1
theorem pW{op}{t:TE}(h:PE X a t):PE X (.BoolOp op [a] pos) t:=fun pins s σ H Q I hw=>BoolOp_one (h pins s σ H Q I hw)
theorem A1(ha:PE X a ta)(hb:PE X (.BoolOp .And (b::rest) pos) tb):PE X (.BoolOp .And (a::b::rest) pos) (DG ta tb):=by
 intro pins s σ H Q I h
 refine BoolOp_and (bP (ha pins s σ H _ I h) fun v s1 ⟨x,H1,I1,r1,q1⟩=>?_)
 obtain⟨c,rfl,q1⟩:=q1
 cases r1
 refine wpAny_truthy_bool ?_
 cases c with
 |true=>exact hb pins s1 σ H1 Q I1 q1
 |false=>exact⟨.bl false,H1,I1,rfl,q1⟩
theorem rg(ha:PE X a ta)(hb:PE X (.BoolOp .Or (b::rest) pos) tb):PE X (.BoolOp .Or (a::b::rest) pos) (IS ta tb):=by
 intro pins s σ H Q I h
 refine BoolOp_or (bP (ha pins s σ H _ I h) fun v s1 ⟨x,H1,I1,r1,q1⟩=>?_)
 obtain⟨c,rfl,q1⟩:=q1
 cases r1
 refine wpAny_truthy_bool ?_
 cases c with
 |false=>exact hb pins s1 σ H1 Q I1 q1
 |true=>exact⟨.bl true,H1,I1,rfl,q1⟩
theorem A2(ha:PE X a ta):PE X (.UnaryOp .Not a pos) (DH ta):=by
 intro pins s σ H Q I h
 refine UnaryOp_ (bP (ha pins s σ H _ I h) fun v s1 ⟨x,H1,I1,r1,q1⟩=>?_)
 obtain⟨c,rfl,q1⟩:=q1
 cases r1
 exact not_of (wpAny_truthy_bool ⟨.bl (!c),H1,I1,rfl,q1⟩)
def O6(t:TT)(ta tb:TE):TE:=fun σ H Q=>t σ H fun c H1=>if c=true then ta σ H1 Q else tb σ H1 Q
theorem oj{c:Expr}(hc:PT X c tA)(ha:PE X a ta)(hb:PE X b tb):PE X (.IfExp c a b pos) (O6 tA ta tb):=by
 intro pins s σ H Q I h
 refine wpAny_IfExp (bP (hc pins s σ H _ I h) fun d s1 ⟨H1,I1,q1⟩=>?_)
 cases d with
 |true=>exact ha pins s1 σ H1 Q I1 q1
 |false=>exact hb pins s1 σ H1 Q I1 q1
end
end L2
namespace L2
open PySem PySem.Spec PyProof.Rows
def bC(K:PySem.W.Frag)(H:Hp)(a:Addr)(xs:List V):Prop:=
 Rd H a (.lst xs)∨
  ∃(o:Obj) (its:Array Value) (n:Nat),K.lookup a=some o∧o.cls= .type "list" ∧o.dict=none∧o.data= .seq its n∧its.size≤sizeLine∧Vals xs its.toList
def g8(K:PySem.W.Frag)(H:Hp)(a:Addr)(xs:List V):Prop:=
 Rd H a (.tup xs)∨
  ∃(o:Obj) (its:Array Value) (n:Nat),K.lookup a=some o∧o.cls= .type "tuple" ∧o.data= .seq its n∧its.size≤sizeLine∧Vals xs its.toList
def IT:Value→Option V
 | .none=>some .bR
 | .bool b=>some (.bl b)
 | .int i _=>some (.int i)
 | .str x _=>some (.str x)
 | .bytes b _=>some (.pR b)
 | .float b _=>some (.zS b)
 | .ref a=>some (.ref a)
 | .type n=>some (.ty n)
 |_=>none
theorem RelV.abs{x:V}{u:Value}(r:RelV x u):IT u=some x:=by
 cases x with
 |bR=>cases r;rfl
 |bl _=>cases r;rfl
 |int _=>obtain⟨t,rfl⟩:=r;rfl
 |str _=>obtain⟨t,rfl⟩:=r;rfl
 |pR _=>obtain⟨t,rfl⟩:=r;rfl
 |zS _=>obtain⟨t,rfl⟩:=r;rfl
 |ref _=>cases r;rfl
 |ty _=>cases r;rfl
theorem RelV.inj{x y:V}{u:Value}(r:RelV x u)(q:RelV y u):x=y:=Option.some.inj (r.abs.symm.trans q.abs)
theorem Vals.inj:∀{xs ys:List V} {us:List Value},Vals xs us→Vals ys us→xs=ys
 |_,_,_, .nil, .nil=>rfl
 |_,_,_, .cons r t, .cons r' t'=>by rw[r.inj r',Vals.inj t t']
section
variable {X:Cx}{pins:List (Addr×Obj)}{σ:St}{H:Hp}{s:Shared}{a:Addr}{xs ys:List V}
theorem bC.of{K:PySem.W.Frag}(h:H a=some (.lst xs)):bC K H a xs:= .inl (.inl h)
theorem g8.of{K:PySem.W.Frag}(h:H a=some (.tup xs)):g8 K H a xs:= .inl (.inl h)
theorem Inv.list(I:Inv X pins σ H s)(h:bC X.K H a xs):∃its:List Value,Vals xs its∧PlainL s.heap a its.toArray∧xs.length≤sizeLine:=by
 rcases h with h| ⟨o,its,n,hk,hc,hd,hs,hz,r⟩
 ·obtain⟨z,its,n,r,e⟩:=h.ok I.bz
  exact⟨its,r,⟨_,n,e,rfl,rfl,rfl⟩,z⟩
 ·refine⟨its.toList,r,⟨o,n,I.eQ a o hk,hc,hd,by simpa using hs⟩,?_⟩
  have e:=r.length
  simp only [Array.length_toList] at e
  omega
theorem Inv.tuple(I:Inv X pins σ H s)(h:g8 X.K H a xs):∃its:List Value,Vals xs its∧IsTup s.heap a its.toArray∧xs.length≤sizeLine:=by
 rcases h with h| ⟨o,its,n,hk,hc,hs,hz,r⟩
 ·obtain⟨z,its,r,p⟩:=h.ok I.bz
  exact⟨its,r,p,z⟩
 ·refine⟨its.toList,r,⟨o,I.eQ a o hk,hc,n,by simpa using hs⟩,?_⟩
  have e:=r.length
  simp only [Array.length_toList] at e
  omega
theorem Inv.uO(I:Inv X pins σ H s)(h:bC X.K H a xs)(h':bC X.K H a ys):xs=ys:=by
 obtain⟨its,r,⟨o,n,e,_,_,d⟩,_⟩:=I.list h
 obtain⟨its',r',⟨o',n',e',_,_,d'⟩,_⟩:=I.list h'
 rw[e] at e';cases e'
 rw[d] at d'
 injection d' with d1 _
 have:its=its':=by simpa using congrArg Array.toList d1
 subst this
 exact r.inj r'
end
abbrev Cx.fL(X:Cx)(E:Value→Shared→Prop):Cx:={ X with xe:=E }
abbrev Cx.xJ(X:Cx):Cx:=X.fL fun _ _=>False
theorem Cx.Ok.fL{X:Cx}(ok:X.Ok)(E:Value→Shared→Prop):(X.fL E).Ok:=
 ⟨ok.mod,ok.kind,ok.glob,ok.blt,ok.above,ok.inj,ok.has,ok.xU,ok.hd,ok.frames,ok.zU,ok.Df,ok.bs,ok.sQ,ok.mi,ok.mj,ok.gI,ok.uF⟩
theorem Cx.Ok.cq{X:Cx}{E:Value→Shared→Prop}(ok:(X.fL E).Ok):X.Ok:=
 ⟨ok.mod,ok.kind,ok.glob,ok.blt,ok.above,ok.inj,ok.has,ok.xU,ok.hd,ok.frames,ok.zU,ok.Df,ok.bs,ok.sQ,ok.mi,ok.mj,ok.gI,ok.uF⟩
section
variable {X:Cx}{pins:List (Addr×Obj)}{σ:St}{H:Hp}{s:Shared}{E:Value→Shared→Prop}
theorem Inv.fL(I:Inv X pins σ H s)(E:Value→Shared→Prop):Inv (X.fL E) pins σ H s:=⟨I.ok.fL E,I.os,I.bare,I.base,I.loc,I.cell,I.free,I.dR,I.pin,I.bz,I.len⟩
theorem Inv.cq(I:Inv (X.fL E) pins σ H s):Inv X pins σ H s:=⟨I.ok.cq,I.os,I.bare,I.base,I.loc,I.cell,I.free,I.dR,I.pin,I.bz,I.len⟩
theorem SP.cq{D:Ends}{f:Flow}{s':Shared}(h:SP (X.fL E) pins D f s'):SP X pins D f s':=by
 cases f with
 |next=>obtain⟨σ',H',I,q⟩:=h;exact⟨σ',H',I.cq,q⟩
 |brk=>obtain⟨σ',H',I,q⟩:=h;exact⟨σ',H',I.cq,q⟩
 |cont=>obtain⟨σ',H',I,q⟩:=h;exact⟨σ',H',I.cq,q⟩
 |ret u=>obtain⟨v,σ',H',I,r,q⟩:=h;exact⟨v,σ',H',I.cq,r,q⟩
theorem iR.xJ{st:List Stmt}{t:TS}(h:iR X.xJ st t):iR X st t:=fun pins s σ H D I hw=>
 wpAny_mono (h pins s σ H D (I.fL _) hw) (fun _ _ q=>q.cq) fun _ _ z=>False.elim z
end
section
variable {X:Cx}{st:Stmt}{rest:List Stmt}{t u:TS}{e:Expr}{te:TE}{pos:Pos}
def DI:TS:=fun D σ H=>D.nx σ H
def uQ(t u:TS):TS:=fun D σ H=>t { D with nx:=u D } σ H
theorem aQ:iR X [] DI:=fun _ _ σ H _ I h=>wpAny_execs_nil ⟨σ,H,I,h⟩
theorem aj(h1:PS X st t)(h2:iR X rest u):iR X (st::rest) (uQ t u):=by
 intro pins s σ H D I h
 refine wpAny_execs_cons (bP (h1 pins s σ H { D with nx:=u D } I h) fun f s1 q=>?_)
 cases f with
 |next=>
  obtain⟨σ',H',I',q⟩:=q
  exact h2 pins s1 σ' H' D I' q
 |ret v=>exact q
 |brk=>exact q
 |cont=>exact q
theorem aq(h1:PS X st t):iR X [st] t:=by
 intro pins s σ H D I h
 refine wpAny_execs_cons (bP (h1 pins s σ H D I h) fun f s1 q=>?_)
 cases f with
 |next=>exact wpAny_execs_nil q
 |ret v=>exact q
 |brk=>exact q
 |cont=>exact q
theorem Inv.quiet{pins:List (Addr×Obj)}{σ:St}{H:Hp}{s:Shared}(I:Inv X pins σ H s):interactive X.env=false:=by simp [interactive,I.ok.kind]
def DJ(te:TE):TS:=fun D σ H=>te σ H fun _ H1=>D.nx σ H1
theorem bq(he:PE X e te)(hs:swapsWith e none pos.line X.env=pure false:=by rfl):PS X (.Expr e pos) (DJ te):=by
 intro pins s σ H D I h
 exact wpAny_Expr_any (bP (he pins s σ H _ I h) fun v s1 ⟨x,H1,I1,r1,q1⟩=>⟨σ,H1,I1,q1⟩) I.quiet hs
def DK(te:TE):TS:=fun D σ H=>te σ H D.rt
theorem aE(he:PE X e te):PS X (.Return (some e) pos) (DK te):=by
 intro pins s σ H D I h
 exact wpAny_Return_some (bP (he pins s σ H _ I h) fun v s1 ⟨x,H1,I1,r1,q1⟩=>⟨x,σ,H1,I1,r1,q1⟩)
def A3(c:TT)(t u:TS):TS:=fun D σ H=>c σ H fun b H1=>if b=true then t D σ H1 else u D σ H1
theorem a7{c:Expr}{a b:List Stmt}{tc:TT}(hc:PT X c tc)(ha:iR X a t)(hb:iR X b u):PS X (.If c a b pos) (A3 tc t u):=by
 intro pins s σ H D I h
 refine wpAny_If (bP (hc pins s σ H _ I h) fun d s1 ⟨H1,I1,q1⟩=>?_)
 cases d with
 |true=>exact ha pins s1 σ H1 D I1 q1
 |false=>exact hb pins s1 σ H1 D I1 q1
end
abbrev TG:=V→St→Hp→(St→Hp→Prop)→Prop
abbrev O7:=List V→St→Hp→(St→Hp→Prop)→Prop
def PG(X:Cx)(target:Expr)(t:TG):Prop:=
 ∀(pins:List (Addr×Obj)) (s:Shared) (σ:St) (H:Hp) (v:V) (u:Value) (Q:St→Hp→Prop),Inv X pins σ H s→RelV v u→t v σ H Q→
  wpAny (model X.prog X.w) X.A (assign target X.env u) (fun _ s'=>∃σ' H',Inv X pins σ' H' s'∧Q σ' H') X.xe s
def O8(X:Cx)(ts:List Expr)(t:O7):Prop:=
 ∀(pins:List (Addr×Obj)) (s:Shared) (σ:St) (H:Hp) (vs:List V) (us:List Value) (Q:St→Hp→Prop),Inv X pins σ H s→Vals vs us→t vs σ H Q→
  wpAny (model X.prog X.w) X.A (assignInOrder ((assignEach ts X.env).map (·.2)) us) (fun _ s'=>∃σ' H',Inv X pins σ' H' s'∧Q σ' H') X.xe s
section
variable {X:Cx}{pos:Pos}
def fM(i:Nat):TG:=fun v σ H Q=>Q (σ.set i (some v)) H
theorem dF{i:Nat}{x:Str}(hN:X.N.Nodup)(hi:X.N[i]? =some x)(hx:Loc X.env.scope x)(hf:X.fn x=true∨X.env.scope.names.lookup x=some .local:=by first|exact .inl rfl|exact .inr rfl|assumption):PG X (.Name x pos) (fM i):=by
 intro pins s σ H v u Q I r h
 exact wpAny_assign_Name (store_ok I hN hi hx r (fun s' I'=>⟨_,H,I',h⟩) hf)
def A4(te:TE)(g:TG):TS:=fun D σ H=>te σ H fun x H1=>g x σ H1 D.nx
theorem aP{i:Nat}{x:Str}{e:Expr}{te:TE}{pos':Pos}(hN:X.N.Nodup)(hi:X.N[i]? =some x)(hx:Loc X.env.scope x)(he:PE X e te)(hs:swapsWith e (some (.Name x pos')) pos.line X.env=pure false:=by rfl)(hf:X.fn x=true∨X.env.scope.names.lookup x=some .local:=by first|exact .inl rfl|exact .inr rfl|assumption):
  PS X (.Assign [.Name x pos'] e pos) (A4 te (fM i)):=by
 intro pins s σ H D I h
 refine wpAny_Assign_Name (bP (he pins s σ H _ I h) fun v s1 ⟨y,H1,I1,r1,q1⟩=>?_) hs
 exact store_ok I1 hN hi hx r1 (fun s2 I2=>⟨_,H1,I2,q1⟩) hf
end
section
variable {X:Cx}{pos:Pos}
def A5(c:TT)(tb:TS):TS:=fun D σ H=>∃W:Nat→St→Hp→Prop,(∃m,W m σ H)∧∀m σ H,W m σ H→
 c σ H fun b H1=>if b=true then∃N:St→Hp→Prop,(∀σ' H',N σ' H'→∃m',m'<m∧W m' σ' H')∧tb { D with nx:=N,ct:=N,bk:=D.nx } σ H1 else D.nx σ H1
theorem fN{c:Expr}{body:List Stmt}{tc:TT}{tb:TS}(hp:PassesOwn (model X.prog X.w) X.A X.env X.xe)(hc:PT X c tc)(hb:iR X body tb):PS X (.While c body [] pos) (A5 tc tb):=by
 intro pins s σ H D I h
 obtain⟨W,⟨m0,w0⟩,turn⟩:=h
 refine wpAny_While (codeAny_whileLoop (fun n s'=>∃σ' H',Inv X pins σ' H' s'∧W n σ' H') ?_ m0 ⟨σ,H,I,w0⟩)
 rintro n s1 ⟨σ1,H1,I1,w1⟩
 refine wpAny_passesOwn hp (bP (hc pins s1 σ1 H1 _ I1 (turn n σ1 H1 w1)) fun b s2 ⟨H2,I2,q2⟩=>?_)
 cases b with
 |true=>
  obtain⟨N,hN,q2⟩:=q2
  rw[if_pos rfl]
  refine wpAny_passesOwn hp (bP (hb pins s2 σ1 H2 _ I2 q2) fun f s3 q3=>?_)
  cases f with
  |next=>
   obtain⟨σ3,H3,I3,n3⟩:=q3
   obtain⟨m',hm,w3⟩:=hN σ3 H3 n3
   exact⟨m',hm,σ3,H3,I3,w3⟩
  |cont=>
   obtain⟨σ3,H3,I3,n3⟩:=q3
   obtain⟨m',hm,w3⟩:=hN σ3 H3 n3
   exact⟨m',hm,σ3,H3,I3,w3⟩
  |brk=>exact q3
  |ret v=>exact q3
 |false=>
  rw[if_neg Bool.false_ne_true]
  exact wpAny_execs_nil ⟨σ1,H2,I2,q2⟩
end
structure It where
 go:Nat→Hp→Prop
 xZ:Nat→Hp→V→Hp→Prop
 stop:Nat→Hp→Prop
def hI(X:Cx)(pins:List (Addr×Obj))(H:Hp)(b:Addr):Prop:=
 H b=none∧b≠X.env.locals∧b∉X.fs∧(b∈X.ex∨X.s₀.heap.objs.size≤b)∧(∀x c,X.env.cells.lookup x=some c→c≠b)∧∀p∈X.pn++pins,p.1≠b
theorem Inv.x2{X:Cx}{pins:List (Addr×Obj)}{σ:St}{H H':Hp}{s:Shared}{b:Addr}(I:Inv X pins σ H s)(hb:s.heap.objs.size≤b)(hn:H' b=none):hI X pins H' b:=by
 refine⟨hn,Nat.ne_of_gt (Nat.lt_of_lt_of_le I.lt hb),I.II hb, .inr (Nat.le_trans I.sz hb),fun x c e z=>?_,fun p hp z=>?_⟩
 ·obtain⟨v,q⟩:=I.cell x c e
  exact absurd (Nat.lt_of_lt_of_le q.lt (by rw[z];exact hb)) (Nat.lt_irrefl _)
 ·exact absurd (Nat.lt_of_lt_of_le (Heap.lt_size (I.pin p hp).1) (by rw[z];exact hb)) (Nat.lt_irrefl _)
structure Turn(P:Program)(w:World)(K:PySem.W.Frag)(tg:Expr)(J:It)(fp:List Addr)(it:Addr)(tn:Nat→Heap→Prop):Prop where
 mem:it∈fp
 obj:∀i h,tn i h→∀b∈fp,∃o,h.get? b=some o∧∀v,o.data≠ .cell v
 keep:∀i h h',tn i h→(∀b∈fp,∀o,h.get? b=some o→h'.get? b=some o)→tn i h'
 item:∀(X:Cx),X.prog=P→X.w=w→X.K=K→X.calm=true→∀(i:Nat) (pins:List (Addr×Obj)) (s:Shared) (σ:St) (H:Hp) (E:Value→Shared→Prop),Inv X pins σ H s→(∀b∈fp,hI X pins H b)→tn i s.heap→J.go i H→
  wpAny (model P w) X.A (pyNext (.ref it)) (fun r s1=>∃u,r=some u∧
   wpAny (model P w) X.A (letOwnedTupleGo tg (.ref it) u) (fun _ s2=>∃x H',Inv X pins σ H' s2∧RelV x u∧J.xZ i H x H'∧tn (i+1) s2.heap∧∀b∈fp,H' b=none) E s1) E s
 done:∀(X:Cx),X.prog=P→X.w=w→X.K=K→X.calm=true→∀(i:Nat) (pins:List (Addr×Obj)) (s:Shared) (σ:St) (H:Hp) (E:Value→Shared→Prop),Inv X pins σ H s→(∀b∈fp,hI X pins H b)→tn i s.heap→J.stop i H→
  wpAny (model P w) X.A (pyNext (.ref it)) (fun r s1=>r=none∧Inv X pins σ H s1) E s
 self:∀(A:Around) (i:Nat) (s:Shared) (Q:Value→Shared→Prop) (E:Value→Shared→Prop),tn i s.heap→Q (.ref it) s→wpAny (model P w) A (pyIter (.ref it)) Q E s
abbrev TI:=St→Hp→(It→Hp→Prop)→Prop
def NY(X:Cx)(pins:List (Addr×Obj))(σ:St)(tg:Expr)(R:It→Hp→Prop)(IU:Value)(s2:Shared):Prop:=
 ∃(it:Addr) (fp:List Addr) (tn:Nat→Heap→Prop) (J:It) (H':Hp),IU= .ref it∧Inv X pins σ H' s2∧Turn X.prog X.w X.K tg J fp it tn∧tn 0 s2.heap∧(∀b∈fp,hI X pins H' b)∧R J H'
def PI(X:Cx)(tg iter:Expr)(wi:TI):Prop:=
 ∀(pins:List (Addr×Obj)) (s:Shared) (σ:St) (H:Hp) (R:It→Hp→Prop),Inv X pins σ H s→wi σ H R→
  wpAny (model X.prog X.w) X.A (eval iter X.env) (fun v s1=>wpAny (model X.prog X.w) X.A (pyIter v) (NY X pins σ tg R) X.xe s1) X.xe s
theorem uR{M:Model}{A:Around}{E:Value→Shared→Prop}{s:Shared}{tg:Expr}{it:Addr}{u:Value}{o:Obj}{n:String}{vs:Array Value}{Q:Unit→Shared→Prop}(ho:s.heap.get? it=some o)(hc:o.cls= .type n)(hd:o.data= .fields vs)
  (hn:["enumerate","zip","dict_itemiterator","dict_reverseitemiterator","odict_iterator","itertools.zip_longest","itertools.pairwise"].contains n=false) (hQ:Q () s):wpAny M A (letOwnedTupleGo tg (.ref it) u) Q E s:=by
 unfold letOwnedTupleGo
 cases tg<;>first
  |exact wpAny_pure hQ
  | (cases u<;>first
    |exact wpAny_pure hQ
    | (refine wpAny_bind (wpAny_load ho ?_)
       rw[hc,hd]
       show wpAny M A (if (["enumerate","zip","dict_itemiterator","dict_reverseitemiterator","odict_iterator","itertools.zip_longest","itertools.pairwise"].contains n&&vs[0]? ==some (rawInt _))=true then _ else _) Q E s
       rw[if_neg (by intro h;rw[hn,Bool.false_and] at h;cases h)]
       exact wpAny_pure hQ))
def zX(K:PySem.W.Frag)(a:Addr):It:=
 ⟨fun i H=>∃xs x,bC K H a xs∧xs[i]? =some x,fun i H x H'=>H'=H∧∀xs,bC K H a xs→xs[i]? =some x,fun i H=>∃xs,bC K H a xs∧xs.length≤i⟩
def Dh(lo:Int)(n:Nat):It:=⟨fun i _=>i<n,fun i H x H'=>H'=H∧x= .int (lo+i),fun i _=>n≤i⟩
theorem sS{P:Program}{w:World}{K:PySem.W.Frag}{tg:Expr}(a it:Addr):Turn P w K tg (zX K a) [it] it (fun i h=>h.IsListIter it a i) where
 mem:=by simp
 obj:=fun i h st b hb=>by
  have e:b=it:=by simpa using hb
  subst e
  obtain⟨o,e,c,d⟩:=st
  exact⟨o,e,fun v z=>by rw[d] at z;cases z⟩
 keep:=fun i h h' st k=>st.at fun o e=>k it (by simp) o e
 item:=by
  intro X hP hw hK hc i pins s σ H E I hf st hg
  subst hP hw hK
  obtain⟨xs,x,hq,hx⟩:=hg
  obtain⟨its,rv,p,hz⟩:=I.list hq
  obtain⟨u,hu,ru⟩:=rv.get hx
  obtain⟨f0,f1,f2,f3,f4,f5⟩:=hf it (by simp)
  refine wpAny_pyNext_list_item st p.isList (x:=u) (by simpa using hu) fun h' zY sb=>?_
  have I1:Inv X pins σ H { s with heap:=h' }:=I.turned (t':=s.toks) (fun b o hb e=>(sb.2 b hb).trans e) f0 f1 f3 f4 f5
  obtain⟨o,e,c,d⟩:=id zY
  exact⟨u,rfl,uR (s:={ s with heap:=h' }) e c d (by decide) ⟨x,H,I1,ru,⟨rfl,fun ys hy=>by rw[I.uO hy hq];exact hx⟩,zY,fun b hb=>(hf b hb).1⟩⟩
 done:=by
  intro X hP hw hK hc i pins s σ H E I hf st hg
  subst hP hw hK
  obtain⟨xs,hq,hx⟩:=hg
  obtain⟨its,rv,p,hz⟩:=I.list hq
  obtain⟨f0,f1,f2,f3,f4,f5⟩:=hf it (by simp)
  have hl:=rv.length
  exact wpAny_pyNext_list_end (I.ok.hd hc) st p.isList (by simp;omega) fun h' eb=>⟨rfl,I.turned (t':=s.toks) (fun b o hb e=>eb b o hb e) f0 f1 f3 f4 f5⟩
 self:=fun _ _ _ _ _ st h=>wpAny_pyIter_listiter st h
theorem pX{P:Program}{w:World}{K:PySem.W.Frag}{tg:Expr}(it:Addr)(lo:Int)(n:Nat):Turn P w K tg (Dh lo n) [it] it (fun i h=>IsRangeIter h it (lo+(i:Nat)*1) ((n:Int) - (i:Nat)) 1) where
 mem:=by simp
 obj:=fun i h st b hb=>by
  have e:b=it:=by simpa using hb
  subst e
  exact⟨_,st,fun v z=>by
   have z':Data.fields _=Data.cell v:=z
   cases z'⟩
 keep:=fun i h h' st k=>k it (by simp) _ st
 item:=by
  intro X hP hw hK hc i pins s σ H E I hf st hg
  subst hP hw hK
  obtain⟨f0,f1,f2,f3,f4,f5⟩:=hf it (by simp)
  have W:=Walks.range (prog:=X.prog) (w:=X.w) (I.ok.hd hc) it lo 1 n
  refine W.item i s _ _ hg st fun v h' tk hv zY kk=>?_
  obtain⟨t,rfl⟩:=hv
  have I1:Inv X pins σ H { s with heap:=h',toks:=tk }:=I.turned (fun b o hb e=>kk b o (by simpa using hb) e) f0 f1 f3 f4 f5
  refine⟨_,rfl,uR (s:={ s with heap:=h',toks:=tk }) (n:="range_iterator") zY rfl rfl (by decide) ⟨.int (lo+i),H,I1,⟨t,?_⟩,⟨rfl,rfl⟩,zY,fun b hb=>(hf b hb).1⟩⟩
  rw[Int.mul_one]
 done:=by
  intro X hP hw hK hc i pins s σ H E I hf st hg
  subst hP hw hK
  obtain⟨f0,f1,f2,f3,f4,f5⟩:=hf it (by simp)
  exact wpAny_pyNext_range_end (I.ok.hd hc) st (by have:n≤i:=hg;omega) fun h' eb=>⟨rfl,I.turned (t':=s.toks) (fun b o hb e=>eb b o hb e) f0 f1 f3 f4 f5⟩
 self:=fun _ _ _ _ _ st h=>wpAny_pyIter_rangeiter st h
end L2
namespace L2
open PySem PySem.Spec PyProof.Rows
section
variable {X:Cx}{tg:Expr}
def DL(K:PySem.W.Frag)(tl:TE):TI:=fun σ H R=>tl σ H fun x H1=>∃a,x= .ref a∧(∃xs,bC K H1 a xs)∧R (zX K a) H1
theorem gm{l:Expr}{tl:TE}(hl:PE X l tl):PI X tg l (DL X.K tl):=by
 intro pins s σ H R I h
 refine bP (hl pins s σ H _ I h) fun v s1 ⟨x,H1,I1,r1,q1⟩=>?_
 obtain⟨a,e,⟨xs,hq⟩,q⟩:=q1
 subst e
 cases r1
 obtain⟨its,rv,p,hz⟩:=I1.list hq
 refine wpAny_pyIter_list p.isList ?_
 refine⟨s1.heap.objs.size,[s1.heap.objs.size],_,_,H1,rfl,I1.kept (t':=s1.toks) fun b o e=>Heap.get?_push_of_some _ e,sS a _,⟨_,Heap.get?_push_size _ rfl,rfl,rfl⟩,fun b hb=>?_,q⟩
 have e:b=s1.heap.objs.size:=by simpa using hb
 subst e
 exact I1.x2 (Nat.le_refl _) (I1.bz.fresh (Nat.le_refl _))
theorem uS{pins:List (Addr×Obj)}{σ:St}{H:Hp}{s:Shared}{R:It→Hp→Prop}{E:Value→Shared→Prop}{lo hi:Int}{t u v:Tok}{tk:Nat}(I:Inv X pins σ H s)(h1: -(2^62)≤lo)(h2:lo<2^62)(h3: -(2^62)≤hi)(h4:hi<2^62)
  (q:R (Dh lo (hi - lo).toNat) H):wpAny (model X.prog X.w) X.A (pyIter (.ref s.heap.objs.size)) (NY X pins σ tg R) E { s with heap:=s.heap.push { cls:= .type "range",data:= .fields #[.int lo t, .int hi u, .int 1 v] },toks:=tk }:=by
 refine wpAny_pyIter_range (IsRange.new ..) (small_one h1 h2 h3 h4) ?_
 have I1:Inv X pins σ H { s with heap:=s.heap.push { cls:= .type "range",data:= .fields #[.int lo t, .int hi u, .int 1 v] },toks:=tk }:=I.kept fun b o e=>Heap.get?_push_of_some _ e
 refine⟨(s.heap.push { cls:= .type "range",data:= .fields #[.int lo t, .int hi u, .int 1 v] }).objs.size,[(s.heap.push { cls:= .type "range",data:= .fields #[.int lo t, .int hi u, .int 1 v] }).objs.size],_,_,H,rfl,
  I1.kept (t':=tk) fun b o e=>Heap.get?_push_of_some _ e,pX _ lo (hi - lo).toNat,?_,fun b hb=>?_,q⟩
 ·have e1:lo+((0 :Nat):Int)*1=lo:=by simp
  have e2:(((hi - lo).toNat:Nat):Int) - ((0 :Nat):Int)=Builtin.Range.rangeSize lo hi 1:=by rw[rangeSize_one];split<;>omega
  show IsRangeIter _ _ (lo+((0 :Nat):Int)*1) ((((hi - lo).toNat:Nat):Int) - ((0 :Nat):Int)) 1
  rw[e1,e2]
  exact Heap.get?_push_size _ rfl
 ·have e:b=(s.heap.push { cls:= .type "range",data:= .fields #[.int lo t, .int hi u, .int 1 v] }).objs.size:=by simpa using hb
  subst e
  exact I1.x2 (Nat.le_refl _) (I1.bz.fresh (Nat.le_refl _))
def DM(ta:TA):TI:=fun σ H R=>ta σ H fun vs H1=>∃j:Int,vs=[.int j]∧ -(2^62)≤j∧j<2^62∧R (Dh 0 j.toNat) H1
theorem lj{a:Expr}{ta:TA}{p pos:Pos}(hg:Gl X "range")(hm:X.mg "range" =none)(ha:PA X [a] ta)(hs:starEach [a] X.env=[(false,eval a X.env)]:=by rfl):PI X tg (.Call (.Name "range" p) [a] [] pos) (DM ta):=by
 intro pins s σ H R I h
 refine Call_ (mr I hg hm boot_range (PyProof.Rows.callWith_type1 (bP (ha pos pins s σ H _ I h) fun us s1 ⟨vs,H1,I1,r1,q1⟩=>?_) hs rfl))
 obtain⟨j,e,q1,q2,q⟩:=q1
 subst e
 cases r1 with
 |cons r rr=>
  cases rr
  obtain⟨t,rfl⟩:=r
  exact call_range_1 (uS I1 (by omega) (by omega) q1 q2 (by simpa using q))
def IV(wi:TI)(g:TG)(tb:TS):TS:=fun D σ H=>wi σ H fun J H1=>∃W:Nat→Nat→St→Hp→Prop,(∃m,W 0 m σ H1)∧∀i m σ H,W i m σ H→
 (J.stop i H∧D.nx σ H)∨(J.go i H∧∃N:St→Hp→Prop,(∀σ' H',N σ' H'→∃m',m'<m∧W (i+1) m' σ' H')∧∀x H',J.xZ i H x H'→g x σ H' fun σ2 H2=>tb { D with nx:=N,ct:=N,bk:=D.nx } σ2 H2)
def j0(fp:List Addr)(h:Heap):List (Addr×Obj):=fp.filterMap fun b=>(h.get? b).map fun o=>(b,o)
theorem eV{fp:List Addr}{h:Heap}{b:Addr}{o:Obj}(hb:b∈fp)(e:h.get? b=some o):(b,o)∈j0 fp h:=List.mem_filterMap.mpr ⟨b,hb,by rw[e];rfl⟩
theorem sT{fp:List Addr}{h:Heap}{p:Addr×Obj}(hp:p∈j0 fp h):p.1∈fp∧h.get? p.1=some p.2:=by
 obtain⟨b,hb,e⟩:=List.mem_filterMap.mp hp
 cases q:h.get? b with
 |none=>rw[q] at e;cases e
 |some o=>
  rw[q] at e
  have e':(b,o)=p:=Option.some.inj e
  subst e'
  exact⟨hb,q⟩
theorem Inv.pinned{pins:List (Addr×Obj)}{σ:St}{H:Hp}{s:Shared}{fp:List Addr}(I:Inv X pins σ H s)(hf:∀b∈fp,hI X pins H b)(ho:∀b∈fp,∃o,s.heap.get? b=some o∧∀v,o.data≠ .cell v):Inv X (pins++j0 fp s.heap) σ H s:=
 I.mq fun p hp=>(List.mem_append.mp hp).elim (fun z=>I.pin p (List.mem_append_right _ z)) fun z=>by
   obtain⟨hb,e⟩:=sT z
   obtain⟨f0,f1,f2,_⟩:=hf p.1 hb
   obtain⟨o,e',d⟩:=ho p.1 hb
   rw[e] at e';cases e'
   exact⟨e,f0,f1,f2,d⟩
theorem Inv.dm{pins pl:List (Addr×Obj)}{σ:St}{H:Hp}{s:Shared}(I:Inv X (pins++pl) σ H s):Inv X pins σ H s:=I.mq fun p hp=>I.pin p (List.mem_append_right _ (List.mem_append_left _ hp))
theorem mw{iter:Expr}{body:List Stmt}{wi:TI}{g:TG}{tb:TS}{pos:Pos}(hp:PassesOwn (model X.prog X.w) X.A X.env X.xe)(hc:X.calm=true)(hi:PI X tg iter wi)(hg:PG X tg g)(hb:iR X body tb)
  (hs:∀x,foldedSetIterable iter X.env x=pure x:=by intro _;rfl):PS X (.For tg iter body [] pos) (IV wi g tb):=by
 intro pins s σ H D I h
 refine wpAny_For (bP (hi pins s σ H _ I h) fun v s1 h1=>bP h1 fun IU s2 h2=>?_) hs
 obtain⟨it,fp,tn,J,H2,e,I2,T,A6,f2,W,⟨m0,w0⟩,turn⟩:=h2
 subst e
 have pY:∀{H':Hp},(∀b∈fp,H' b=none)→∀b∈fp,hI X pins H' b:=fun hn b hb=>⟨hn b hb,(f2 b hb).2⟩
 refine codeAny_forLoop_any (fun n s'=>∃i σ' H',Inv X pins σ' H' s'∧tn i s'.heap∧(∀b∈fp,H' b=none)∧W i n σ' H') ?_ m0 ⟨0,σ,H2,I2,A6,fun b hb=>(f2 b hb).1,w0⟩
 rintro n s3 ⟨i,σ3,H3,I3,HM,NZ,w3⟩
 rcases turn i n σ3 H3 w3 with ⟨stop,qn⟩ | ⟨go,N,hN,step⟩
 ·refine wpAny_passesOwn hp (bP (T.done X rfl rfl rfl hc i pins s3 σ3 H3 X.xe I3 (pY NZ) HM stop) fun r s4 ⟨hr,I4⟩=>?_)
  subst hr
  exact wpAny_execs_nil ⟨σ3,H3,I4,qn⟩
 ·refine wpAny_passesOwn hp (bP (T.item X rfl rfl rfl hc i pins s3 σ3 H3 X.xe I3 (pY NZ) HM go) fun r s4 ⟨u,hr,h4⟩=>?_)
  subst hr
  refine wpAny_passesOwn hp (bP h4 fun _ s5 ⟨x,H5,I5,r5,y5,IW,O9⟩=>?_)
  have Pa:=I5.pinned (pY O9) (T.obj _ _ IW)
  refine wpAny_passesOwn hp (bP (hg _ s5 σ3 H5 x u _ Pa r5 (step x H5 y5)) fun _ s6 ⟨σ6,H6,I6,q6⟩=>?_)
  refine wpAny_passesOwn hp (bP (hb _ s6 σ6 H6 _ I6 q6) fun f s7 q7=>?_)
  have again:∀{σ7:St} {H7:Hp},Inv X (pins++j0 fp s5.heap) σ7 H7 s7→N σ7 H7→∃m,m<n∧∃i σ' H',Inv X pins σ' H' s7∧tn i s7.heap∧(∀b∈fp,H' b=none)∧W i m σ' H':=fun {σ7 H7} I7 n7=>by
   obtain⟨m',hm,w7⟩:=hN σ7 H7 n7
   refine⟨m',hm,i+1,σ7,H7,I7.dm,T.keep _ _ _ IW fun b hb o e=>(I7.pin (b,o) (List.mem_append_right _ (List.mem_append_right _ (eV hb e)))).1,fun b hb=>?_,w7⟩
   obtain⟨o,e,d⟩:=T.obj _ _ IW b hb
   exact(I7.pin (b,o) (List.mem_append_right _ (List.mem_append_right _ (eV hb e)))).2.1
  cases f with
  |next=>obtain⟨σ7,H7,I7,n7⟩:=q7;exact again I7 n7
  |cont=>obtain⟨σ7,H7,I7,n7⟩:=q7;exact again I7 n7
  |brk=>obtain⟨σ7,H7,I7,q7⟩:=q7;exact⟨σ7,H7,I7.dm,q7⟩
  |ret v=>obtain⟨x7,σ7,H7,I7,r7,q7⟩:=q7;exact⟨x7,σ7,H7,I7.dm,r7,q7⟩
end
theorem uU{K:PySem.W.Frag}{a:Addr}{xs:List V}{g:TG}{tb:TS}{D:Ends}{σ:St}{H:Hp}(Pv:Nat→St→Hp→Prop)(h0:Pv 0 σ H)(hl:∀i σ H,i≤xs.length→Pv i σ H→bC K H a xs)
  (hs:∀i x σ H,xs[i]? =some x→Pv i σ H→g x σ H fun σ2 H2=>tb { D with nx:=Pv (i+1),ct:=Pv (i+1),bk:=D.nx } σ2 H2) (hd:∀σ H,Pv xs.length σ H→D.nx σ H):
  ∃W:Nat→Nat→St→Hp→Prop,(∃m,W 0 m σ H)∧∀i m σ H,W i m σ H→
   ((zX K a).stop i H∧D.nx σ H)∨((zX K a).go i H∧∃N:St→Hp→Prop,(∀σ' H',N σ' H'→∃m',m'<m∧W (i+1) m' σ' H')∧∀x H',(zX K a).xZ i H x H'→g x σ H' fun σ2 H2=>tb { D with nx:=N,ct:=N,bk:=D.nx } σ2 H2):=by
 refine⟨fun i m σ H=>m=xs.length - i∧i≤xs.length∧Pv i σ H,⟨xs.length,by simp,Nat.zero_le _,h0⟩,?_⟩
 rintro i m σ H ⟨rfl,hi,p⟩
 have q:=hl i σ H hi p
 by_cases Di:i<xs.length
 ·refine .inr ⟨⟨xs,xs[i],q,by simp [Di]⟩,Pv (i+1),fun σ' H' p'=>⟨xs.length - (i+1),by omega,rfl,Di,p'⟩,fun x H' y=>?_⟩
  obtain⟨e,y⟩:=y
  subst e
  exact hs i x σ _ (y xs q) p
 ·have e:i=xs.length:=by omega
  subst e
  exact .inl ⟨⟨xs,q,Nat.le_refl _⟩,hd σ H p⟩
theorem lq{lo:Int}{n:Nat}{g:TG}{tb:TS}{D:Ends}{σ:St}{H:Hp}(Pv:Nat→St→Hp→Prop)(h0:Pv 0 σ H)
  (hs:∀i σ H,i<n→Pv i σ H→g (.int (lo+i)) σ H fun σ2 H2=>tb { D with nx:=Pv (i+1),ct:=Pv (i+1),bk:=D.nx } σ2 H2) (hd:∀σ H,Pv n σ H→D.nx σ H):
  ∃W:Nat→Nat→St→Hp→Prop,(∃m,W 0 m σ H)∧∀i m σ H,W i m σ H→
   ((Dh lo n).stop i H∧D.nx σ H)∨((Dh lo n).go i H∧∃N:St→Hp→Prop,(∀σ' H',N σ' H'→∃m',m'<m∧W (i+1) m' σ' H')∧∀x H',(Dh lo n).xZ i H x H'→g x σ H' fun σ2 H2=>tb { D with nx:=N,ct:=N,bk:=D.nx } σ2 H2):=by
 refine⟨fun i m σ H=>m=n - i∧i≤n∧Pv i σ H,⟨n,by simp,Nat.zero_le _,h0⟩,?_⟩
 rintro i m σ H ⟨rfl,hi,p⟩
 by_cases Di:i<n
 ·refine .inr ⟨Di,Pv (i+1),fun σ' H' p'=>⟨n - (i+1),by omega,rfl,Di,p'⟩,fun x H' y=>?_⟩
  obtain⟨e,y⟩:=y
  subst e y
  exact hs i σ _ Di p
 ·have e:i=n:=by omega
  subst e
  exact .inl ⟨Nat.le_refl _,hd σ H p⟩
end L2
namespace L2
open PySem PySem.Spec PyProof.Rows
abbrev R2:=V→V→Hp→VK→Prop
def iP(X:Cx)(f:Value→Value→Sem Value)(r:R2):Prop:=
 ∀(pins:List (Addr×Obj)) (s:Shared) (σ:St) (H:Hp) (x y:V) (v u:Value) (Q:VK),Inv X pins σ H s→RelV x v→RelV y u→r x y H Q→
  wpAny (model X.prog X.w) X.A (f v u) (EP X pins σ Q) X.xe s
def IX(X:Cx)(f:Value→Sem Value)(r:V→Hp→VK→Prop):Prop:=
 ∀(pins:List (Addr×Obj)) (s:Shared) (σ:St) (H:Hp) (x:V) (v:Value) (Q:VK),Inv X pins σ H s→RelV x v→r x H Q→
  wpAny (model X.prog X.w) X.A (f v) (EP X pins σ Q) X.xe s
def fO(X:Cx)(f:Value)(r:List V→Hp→VK→Prop):Prop:=
 ∀(pins:List (Addr×Obj)) (s:Shared) (σ:St) (H:Hp) (xs:List V) (us:List Value) (Q:VK),Inv X pins σ H s→Vals xs us→r xs H Q→
  wpAny (model X.prog X.w) X.A (call f us) (EP X pins σ Q) X.xe s
def IY(X:Cx)(r:V→Hp→(Bool→Hp→Prop)→Prop):Prop:=
 ∀(pins:List (Addr×Obj)) (s:Shared) (σ:St) (H:Hp) (x:V) (v:Value) (Q:Bool→Hp→Prop),Inv X pins σ H s→RelV x v→r x H Q→
  wpAny (model X.prog X.w) X.A (truthy v) (TP X pins σ Q) X.xe s
def xK(r:R2)(ta tb:TE):TE:=fun σ H Q=>ta σ H fun x H1=>tb σ H1 fun y H2=>r x y H2 Q
def Pb(r:V→Hp→VK→Prop)(ta:TE):TE:=fun σ H Q=>ta σ H fun x H1=>r x H1 Q
inductive RI(C:Int→Int→Prop)(g:Int→Int→V)(x y:V)(H:Hp)(Q:VK):Prop
 |mk (i j:Int) (e:x= .int i) (f:y= .int j) (c:C i j) (q:Q (g i j) H)
def rI(C:Int→Int→Prop)(g:Int→Int→V):R2:=RI C g
inductive RJ(g:Int→Int→V)(x y:V)(H:Hp)(Q:VK):Prop
 |mk (i j:Int) (e:x= .int i) (f:y= .int j) (q:Q (g i j) H)
def x3(g:Int→Int→V):R2:=RJ g
def rU(g:Int→V):V→Hp→VK→Prop:=fun x H Q=>∃i,x= .int i∧Q (g i) H
section
variable {X:Cx}{a b c:Expr}{ta tb tc:TE}{pos:Pos}
theorem A7(ha:PE X a ta)(hb:PE X b tb){pins:List (Addr×Obj)}{s:Shared}{σ:St}{H:Hp}{R:V→V→Hp→Prop}(I:Inv X pins σ H s)
  (h:ta σ H fun x H1=>tb σ H1 fun y H2=>R x y H2) {Q:Value→Shared→Prop} {f:Value→Value→Sem Value}
  (hf:∀v u s2 x y H2,Inv X pins σ H2 s2→RelV x v→RelV y u→R x y H2→wpAny (model X.prog X.w) X.A (f v u) Q X.xe s2):
  wpAny (model X.prog X.w) X.A (eval a X.env) (fun v s₁=>wpAny (model X.prog X.w) X.A (eval b X.env) (fun u s₂=>wpAny (model X.prog X.w) X.A (f v u) Q X.xe s₂) X.xe s₁) X.xe s:=by
 refine bP (ha pins s σ H _ I h) fun v s1 ⟨x,H1,I1,r1,q1⟩=>?_
 refine bP (hb pins s1 σ H1 _ I1 q1) fun u s2 ⟨y,H2,I2,r2,q2⟩=>?_
 exact hf v u s2 x y H2 I2 r1 r2 q2
theorem az{op:Operator}{r:R2}(ho:iP X (binaryOp op) r)(ha:PE X a ta)(hb:PE X b tb):PE X (.BinOp a op b pos) (xK r ta tb):=by
 intro pins s σ H Q I h
 exact wpAny_BinOp (A7 ha hb I h fun v u s2 x y H2 I2 rx ry q=>ho pins s2 σ H2 x y v u Q I2 rx ry q)
theorem hU{op:UnaryOp}{r:V→Hp→VK→Prop}(ho:IX X (unaryOp op) r)(ha:PE X a ta):PE X (.UnaryOp op a pos) (Pb r ta):=by
 intro pins s σ H Q I h
 exact UnaryOp_ (bP (ha pins s σ H _ I h) fun v s1 ⟨x,H1,I1,r1,q1⟩=>ho pins s1 σ H1 x v Q I1 r1 q1)
theorem HN{f:Value→Value→Sem Value}{C:Int→Int→Prop}{g:Int→Int→Int}
  (rule:∀(i j:Int) (t u:Tok) (s:Shared) (Q:Value→Shared→Prop) (E:Value→Shared→Prop),C i j→Q (.int (g i j) s.toks) { s with toks:=s.toks+1 }→wpAny (model X.prog X.w) X.A (f (.int i t) (.int j u)) Q E s):
  iP X f (rI C fun i j=> .int (g i j)):=by
 intro pins s σ H x y v u Q I rx ry h
 obtain⟨i,j,rfl,rfl,hc,q⟩:=h
 obtain⟨t,rfl⟩:=rx
 obtain⟨t',rfl⟩:=ry
 exact rule i j t t' s _ _ hc ⟨.int (g i j),H,I.tok _,⟨_,rfl⟩,q⟩
theorem DN{f:Value→Value→Sem Value}{g:Int→Int→Int}
  (rule:∀(i j:Int) (t u:Tok) (s:Shared) (Q:Value→Shared→Prop) (E:Value→Shared→Prop),Q (.int (g i j) s.toks) { s with toks:=s.toks+1 }→wpAny (model X.prog X.w) X.A (f (.int i t) (.int j u)) Q E s):
  iP X f (x3 fun i j=> .int (g i j)):=by
 intro pins s σ H x y v u Q I rx ry h
 obtain⟨i,j,rfl,rfl,q⟩:=h
 obtain⟨t,rfl⟩:=rx
 obtain⟨t',rfl⟩:=ry
 exact rule i j t t' s _ _ ⟨.int (g i j),H,I.tok _,⟨_,rfl⟩,q⟩
theorem A8{f:Value→Value→Sem Value}{g:Int→Int→Bool}
  (rule:∀(i j:Int) (t u:Tok) (s:Shared) (Q:Value→Shared→Prop) (E:Value→Shared→Prop),Q (.bool (g i j)) s→wpAny (model X.prog X.w) X.A (f (.int i t) (.int j u)) Q E s):
  iP X f (x3 fun i j=> .bl (g i j)):=by
 intro pins s σ H x y v u Q I rx ry h
 obtain⟨i,j,rfl,rfl,q⟩:=h
 obtain⟨t,rfl⟩:=rx
 obtain⟨t',rfl⟩:=ry
 exact rule i j t t' s _ _ ⟨.bl (g i j),H,I,rfl,q⟩
def IZ(i j:Int):Prop:=0<j∧j<1073741824
def Ja(i j:Int):Prop:=0≤j∧j≤1000000∧i.natAbs<2^64
def uV(i j:Int):Prop:=(-(2^64) <i∧i<2^64)∨(-(2^64) <j∧j<2^64)
theorem uV.ok{i j:Int}(h:uV i j):IntMulOk i j:=by
 rcases h with ⟨h1,h2⟩ | ⟨h1,h2⟩
 ·exact .of_left (intBits_le_64 h1 h2)
 ·exact .of_right (intBits_le_64 h1 h2)
theorem dv:iP X (binaryOp .Add) (x3 fun i j=> .int (i+j)):=DN fun _ _ _ _ _ _ _ q=>add_int q
theorem mx:iP X (binaryOp .Sub) (x3 fun i j=> .int (i - j)):=DN fun _ _ _ _ _ _ _ q=>sub_int q
theorem pZ:iP X (binaryOp .Mult) (rI uV fun i j=> .int (i*j)):=HN fun _ _ _ _ _ _ _ hc q=>mul_int q hc.ok
theorem cf:iP X (binaryOp .FloorDiv) (rI IZ fun i j=> .int (i/j)):=HN fun i j _ _ _ _ _ hc q=>by
 have h1:(0 :Int) <j:=hc.1
 have h2:j<1073741824:=hc.2
 exact floordiv_int (by omega) (by rw[Int.fdiv_eq_ediv_of_nonneg i (by omega)];exact q) (.inl (PyProof.noPylong_small (by omega)))
theorem bg:iP X (binaryOp .Mod) (rI (fun _ j=>0<j) fun i j=> .int (i%j)):=HN fun i j _ _ _ _ _ hc q=>by
 have h1:(0 :Int) <j:=hc
 exact mod_int' (by omega) (by rw[Int.fmod_eq_emod_of_nonneg i (by omega)];exact q)
theorem A9:iP X (binaryOp .Pow) (rI Ja fun i j=> .int (i^j.toNat)):=HN fun _ _ _ _ _ _ _ hc q=>pow_int_small hc.1 hc.2.1 hc.2.2 q
theorem Pd{f:Value→Sem Value}{g:Int→Int}
  (rule:∀(i:Int) (t:Tok) (s:Shared) (Q:Value→Shared→Prop) (E:Value→Shared→Prop),Q (.int (g i) s.toks) { s with toks:=s.toks+1 }→wpAny (model X.prog X.w) X.A (f (.int i t)) Q E s):
  IX X f (rU fun i=> .int (g i)):=by
 intro pins s σ H x v Q I rx h
 obtain⟨i,rfl,q⟩:=h
 obtain⟨t,rfl⟩:=rx
 exact rule i t s _ _ ⟨.int (g i),H,I.tok _,⟨_,rfl⟩,q⟩
theorem eX:IX X (unaryOp .USub) (rU fun i=> .int (-i)):=Pd fun _ _ _ _ _ q=>neg_int q
end
def DO:V→V→Bool
 | .bR, .bR=>true| .bR, .int _=>true| .int _, .bR=>true| .bR, .bl _=>true| .bl _, .bR=>true| .bR, .str _=>true| .str _, .bR=>true
 | .int _, .int _=>true| .bl _, .bl _=>true| .str _, .str _=>true| .pR _, .pR _=>true
 | .int _, .str _=>true| .str _, .int _=>true| .bl _, .str _=>true| .str _, .bl _=>true
 |_,_=>false
def Pe:R2:=fun x y H Q=>DO x y=true∧Q (.bl (decide (x=y))) H
def Pf:R2:=fun x y H Q=>DO x y=true∧Q (.bl (!decide (x=y))) H
theorem rh{i j:Int}:decide (V.int i=V.int j)=(i==j):=by
 rw[Bool.eq_iff_iff]
 simp
theorem uW{i j:Bool}:decide (V.bl i=V.bl j)=(i==j):=by
 rw[Bool.eq_iff_iff]
 simp
theorem ri{i j:Str}:decide (V.str i=V.str j)=(i==j):=by
 rw[Bool.eq_iff_iff]
 simp
theorem rj{i j:Array UInt8}:decide (V.pR i=V.pR j)=(i.toList==j.toList):=by
 rw[Bool.eq_iff_iff]
 cases i
 cases j
 simp
section
variable {X:Cx}{a b c:Expr}{ta tb tc:TE}{pos:Pos}
theorem ba{pins:List (Addr×Obj)}{σ:St}{H:Hp}{s:Shared}{Q:VK}{k k':Bool}(I:Inv X pins σ H s)(q:Q (.bl k) H)(e:k=k'):EP X pins σ Q (.bool k') s:=by
 subst e
 exact⟨.bl k,H,I,rfl,q⟩
theorem bN:iP X (compareOp .Eq) Pe:=by
 intro pins s σ H x y v u Q I rx ry h
 obtain⟨hs,q⟩:=h
 cases x with
 |bR=>
  cases rx
  cases y with
  |bR=>cases ry;exact PySem.EqNone.eq_none_none (ba I q (by simp))
  |bl j=>cases ry;exact PySem.EqNone.eq_none_bool (ba I q (by simp))
  |int j=>obtain⟨t',rfl⟩:=ry;exact PySem.EqNone.eq_none_int (ba I q (by simp))
  |str j=>obtain⟨t',rfl⟩:=ry;exact PySem.EqNone.eq_none_str (ba I q (by simp))
  |_=>exact absurd (show false=true from hs) Bool.false_ne_true
 |bl i=>
  cases rx
  cases y with
  |bR=>cases ry;exact PySem.EqNone.eq_bool_none (ba I q (by simp))
  |bl j=>cases ry;exact eq_bool (ba I q uW)
  |str j=>obtain⟨t',rfl⟩:=ry;exact PySem.EqMixed.eq_bool_str (ba I q (by simp))
  |_=>exact absurd (show false=true from hs) Bool.false_ne_true
 |int i=>
  obtain⟨t,rfl⟩:=rx
  cases y with
  |bR=>cases ry;exact PySem.EqNone.eq_int_none (ba I q (by simp))
  |int j=>obtain⟨t',rfl⟩:=ry;exact eq_int (ba I q rh)
  |str j=>obtain⟨t',rfl⟩:=ry;exact PySem.EqMixed.eq_int_str (ba I q (by simp))
  |_=>exact absurd (show false=true from hs) Bool.false_ne_true
 |str i=>
  obtain⟨t,rfl⟩:=rx
  cases y with
  |bR=>cases ry;exact PySem.EqNone.eq_str_none (ba I q (by simp))
  |bl j=>cases ry;exact PySem.EqMixed.eq_str_bool (ba I q (by simp))
  |int j=>obtain⟨t',rfl⟩:=ry;exact PySem.EqMixed.eq_str_int (ba I q (by simp))
  |str j=>obtain⟨t',rfl⟩:=ry;exact eq_str (ba I q ri)
  |_=>exact absurd (show false=true from hs) Bool.false_ne_true
 |pR i=>
  obtain⟨t,rfl⟩:=rx
  cases y with
  |pR j=>obtain⟨t',rfl⟩:=ry;exact PySem.W.eq_bytes (ba I q rj)
  |_=>exact absurd (show false=true from hs) Bool.false_ne_true
 |_=>cases y<;>exact absurd (show false=true from hs) Bool.false_ne_true
theorem zZ:iP X (compareOp .NotEq) Pf:=by
 intro pins s σ H x y v u Q I rx ry h
 obtain⟨hs,q⟩:=h
 cases x with
 |bR=>
  cases rx
  cases y with
  |bR=>cases ry;exact PySem.EqNone.ne_none_none (ba I q (by simp))
  |bl j=>cases ry;exact PySem.EqNone.ne_none_bool (ba I q (by simp))
  |int j=>obtain⟨t',rfl⟩:=ry;exact PySem.EqNone.ne_none_int (ba I q (by simp))
  |str j=>obtain⟨t',rfl⟩:=ry;exact PySem.EqNone.ne_none_str (ba I q (by simp))
  |_=>exact absurd (show false=true from hs) Bool.false_ne_true
 |bl i=>
  cases rx
  cases y with
  |bR=>cases ry;exact PySem.EqNone.ne_bool_none (ba I q (by simp))
  |bl j=>cases ry;exact ne_bool (ba I q (congrArg not uW))
  |str j=>obtain⟨t',rfl⟩:=ry;exact PySem.EqMixed.ne_bool_str (ba I q (by simp))
  |_=>exact absurd (show false=true from hs) Bool.false_ne_true
 |int i=>
  obtain⟨t,rfl⟩:=rx
  cases y with
  |bR=>cases ry;exact PySem.EqNone.ne_int_none (ba I q (by simp))
  |int j=>obtain⟨t',rfl⟩:=ry;exact ne_int (ba I q (congrArg not rh))
  |str j=>obtain⟨t',rfl⟩:=ry;exact PySem.EqMixed.ne_int_str (ba I q (by simp))
  |_=>exact absurd (show false=true from hs) Bool.false_ne_true
 |str i=>
  obtain⟨t,rfl⟩:=rx
  cases y with
  |bR=>cases ry;exact PySem.EqNone.ne_str_none (ba I q (by simp))
  |bl j=>cases ry;exact PySem.EqMixed.ne_str_bool (ba I q (by simp))
  |int j=>obtain⟨t',rfl⟩:=ry;exact PySem.EqMixed.ne_str_int (ba I q (by simp))
  |str j=>obtain⟨t',rfl⟩:=ry;exact ne_str (ba I q (congrArg not ri))
  |_=>exact absurd (show false=true from hs) Bool.false_ne_true
 |pR i=>
  obtain⟨t,rfl⟩:=rx
  cases y with
  |pR j=>obtain⟨t',rfl⟩:=ry;exact PySem.W.ne_bytes (ba I q (congrArg not rj))
  |_=>exact absurd (show false=true from hs) Bool.false_ne_true
 |_=>cases y<;>exact absurd (show false=true from hs) Bool.false_ne_true
theorem om:iP X (compareOp .Lt) (x3 fun i j=> .bl (decide (i<j))):=A8 fun _ _ _ _ _ _ _ q=>lt_int q
theorem DP:iP X (compareOp .LtE) (x3 fun i j=> .bl (decide (i≤j))):=A8 fun _ _ _ _ _ _ _ q=>le_int q
theorem fP:iP X (compareOp .Gt) (x3 fun i j=> .bl (decide (j<i))):=A8 fun _ _ _ _ _ _ _ q=>gt_int q
theorem sU:iP X (compareOp .In) (fun x y H Q=>∃i j,x= .str i∧y= .str j∧Q (.bl (!(Builtin.Str.occurrences j i 0 j.length 1).isEmpty)) H):=by
 intro pins s σ H x y v u Q I rx ry h
 obtain⟨i,j,rfl,rfl,q⟩:=h
 obtain⟨t,rfl⟩:=rx
 obtain⟨t',rfl⟩:=ry
 exact in_str (ba I q rfl)
theorem aJ(b:Expr){op:CmpOp}(h:op≠ .In:=by decide)(h2:op≠ .NotIn:=by decide):behindInMarks op b=false:=by
 have e1:(op==CmpOp.In)=false:=by cases op<;>first|rfl|exact absurd rfl h
 have e2:(op==CmpOp.NotIn)=false:=by cases op<;>first|rfl|exact absurd rfl h2
 cases b<;>simp [behindInMarks,e1,e2]
theorem jy{op:CmpOp}{r:R2}(ho:iP X (compareOp op) r)(ha:PE X a ta)(hb:PE X b tb)(hm:behindInMarks op b=false):PE X (.Compare a [op] [b] pos) (xK r ta tb):=by
 intro pins s σ H Q I h
 exact wpAny_Compare1 (A7 ha hb I h fun v u s2 x y H2 I2 rx ry q=>ho pins s2 σ H2 x y v u Q I2 rx ry q) hm
def DQ(t:TE):TT:=fun σ H Q=>t σ H fun x H'=>∃k,x= .bl k∧Q k H'
theorem aA{op:CmpOp}{r:R2}(ho:iP X (compareOp op) r)(ha:PE X a ta)(hb:PE X b tb)(hm:behindInMarks op b=false):PT X (.Compare a [op] [b] pos) (DQ (xK r ta tb)):=by
 intro pins s σ H Q I h
 refine wpAny_isTrue_Compare1 (bP (ha pins s σ H _ I h) fun v s1 ⟨x,H1,I1,r1,q1⟩=>bP (hb pins s1 σ H1 _ I1 q1) fun u s2 ⟨y,H2,I2,r2,q2⟩=>
  bP (ho pins s2 σ H2 x y v u _ I2 r1 r2 q2) fun c s3 ⟨z,H3,I3,r3,k,e,q3⟩=>?_) hm
 subst e
 cases r3
 exact wpAny_truthy_bool ⟨H3,I3,q3⟩
def Ba(r r':R2)(ta tb tc:TE):TE:=fun σ H Q=>ta σ H fun x H1=>tb σ H1 fun y H2=>r x y H2 fun z H3=>∃k,z= .bl k∧
 (if k=true then tc σ H3 fun w' H4=>r' y w' H4 Q else Q (.bl false) H3)
theorem j1{op Jb:CmpOp}{r r':R2}(ho:iP X (compareOp op) r)(xW:iP X (compareOp Jb) r')(ha:PE X a ta)(hb:PE X b tb)(hc:PE X c tc)
  (hm:lastMarks [op,Jb] [b,c]=false:=by with_unfolding_all rfl):PE X (.Compare a [op,Jb] [b,c] pos) (Ba r r' ta tb tc):=by
 intro pins s σ H Q I h
 refine Compare_chain (bP (ha pins s σ H _ I h) fun v s1 ⟨x,H1,I1,r1,q1⟩=>chain_link (bP (hb pins s1 σ H1 _ I1 q1) fun u s2 ⟨y,H2,I2,r2,q2⟩=>
  bP (ho pins s2 σ H2 x y v u _ I2 r1 r2 q2) fun d s3 ⟨z,H3,I3,r3,k,e,q3⟩=>?_)) hm
 subst e
 cases r3
 refine wpAny_truthy_bool ?_
 cases k with
 |false=>exact ite_ff ⟨.bl false,H3,I3,rfl,q3⟩
 |true=>exact ite_tt (chain_last (bP (hc pins s3 σ H3 _ I3 q3) fun w' s4 ⟨z',H4,I4,r4,q4⟩=>xW pins s4 σ H4 y z' u w' Q I4 r2 r4 q4))
def DR(K:PySem.W.Frag)(x:V)(H:Hp)(k:Bool):Prop:=
 match x with
 | .bR=>k=false
 | .bl b=>k=b
 | .int i=>k=(i != 0)
 | .str y=>y.length≤sizeLine∧k=((y.length:Int) != 0)
 | .pR y=>y.size≤sizeLine∧k=((y.size:Int) != 0)
 | .ref p=>(∃xs,bC K H p xs∧k=!xs.isEmpty)∨(∃xs,g8 K H p xs∧k=!xs.isEmpty)∨∃eB,H p=some (.dK eB)∧k=!eB.isEmpty
 |_=>False
theorem p6{κ:Type}{eB:List (κ×V)}{vs:List (κ×Value)}(r:KV eB vs):(!vs.isEmpty)=!eB.isEmpty:=by
 cases r<;>rfl
theorem j2{xs:List V}{its:List Value}(r:Vals xs its):(!its.toArray.isEmpty)=!xs.isEmpty:=by
 cases r<;>simp
theorem gT:(sizeLine:Nat) <2^63:=by rw[sizeLine_eq];decide
theorem Bb:IY X (fun x H Q=>∃k,DR X.K x H k∧Q k H):=by
 intro pins s σ H x v Q I rx h
 obtain⟨k,e,q⟩:=h
 have hl:=gT
 have hs:sizeLine=16777216:=sizeLine_eq
 cases x with
 |bR=>
  cases rx
  have e':k=false:=e
  subst e'
  exact truthy_none ⟨H,I,q⟩
 |bl b=>
  cases rx
  have e':k=b:=e
  subst e'
  exact wpAny_truthy_bool ⟨H,I,q⟩
 |int i=>
  obtain⟨t,rfl⟩:=rx
  have e':k=(i != 0):=e
  subst e'
  exact PySem.P.truthy_int ⟨H,I,q⟩
 |str y=>
  obtain⟨t,rfl⟩:=rx
  obtain⟨hy,e'⟩:y.length≤sizeLine∧k=((y.length:Int) != 0):=e
  subst e'
  exact PySem.P.truthy_str (by omega) ⟨H,I.tok _,q⟩
 |pR y=>
  obtain⟨t,rfl⟩:=rx
  obtain⟨hy,e'⟩:y.size≤sizeLine∧k=((y.size:Int) != 0):=e
  subst e'
  exact PySem.W.truthy_bytes (by omega) ⟨H,I.tok _,q⟩
 |ref p=>
  cases rx
  have e':(∃xs,bC X.K H p xs∧k=!xs.isEmpty)∨(∃xs,g8 X.K H p xs∧k=!xs.isEmpty)∨∃eB,H p=some (.dK eB)∧k=!eB.isEmpty:=e
  rcases e' with ⟨xs,hx,e'⟩ | ⟨xs,hx,e'⟩ | ⟨eB,hx,e'⟩
  ·subst e'
   obtain⟨its,r,pl,hz⟩:=I.list hx
   have hlen:=r.length
   exact wpAny_truthy_list pl.isList (by simp only [List.size_toArray];omega) ⟨H,I.tok _,by rw[j2 r];exact q⟩
  ·subst e'
   obtain⟨its,r,pl,hz⟩:=I.tuple hx
   have hlen:=r.length
   exact truthy_tuple pl (by simp only [List.size_toArray];omega) ⟨H,I.tok _,by rw[j2 r];exact q⟩
  ·subst e'
   obtain⟨hz,hS,vs,r,m⟩:eB.length≤sizeLine∧(p==sysModules)=false∧∃vs,KV eB vs∧s.heap.DictOf (mf X.prog X.w) p vs:=I.bz p _ hx
   have hlen:eB.length=vs.length:=Paired.length r
   exact wpAny_truthy_dict hS m (by omega) ⟨H,I.tok _,by rw[p6 r];exact q⟩
 |_=>exact(show False from e).elim
theorem oq(ha:PE X a ta)(he:∀whole,isTrue a X.env whole=(do let v←whole;standAt a.pos;holding [v] (truthy v))):
  PT X a (fun σ H Q=>ta σ H fun x H'=>∃k,DR X.K x H' k∧Q k H'):=by
 intro pins s σ H Q I h
 exact isTrue_plain (bP (ha pins s σ H _ I h) fun v s1 ⟨x,H1,I1,r1,q1⟩=>Bb pins s1 σ H1 x v Q I1 r1 q1) (he _)
theorem aL:iP X (binaryOp .Add) (fun x y H Q=>∃i j,x= .str i∧y= .str j∧i.length+j.length≤sizeLine∧Q (.str (i++j)) H):=by
 intro pins s σ H x y v u Q I rx ry h
 obtain⟨i,j,rfl,rfl,hz,q⟩:=h
 obtain⟨t,rfl⟩:=rx
 obtain⟨t',rfl⟩:=ry
 exact add_str (fun t' tk=>⟨.str (i++j),H,I.tok _,⟨_,rfl⟩,q⟩) hz
theorem vals1{x:V}{us:List Value}(r:Vals [x] us):∃u,us=[u]∧RelV x u:=by
 cases r with
 |cons r1 r2=>cases r2;exact⟨_,rfl,r1⟩
theorem vals2{x y:V}{us:List Value}(r:Vals [x,y] us):∃u w',us=[u,w']∧RelV x u∧RelV y w':=by
 cases r with
 |cons r1 r2=>
  cases r2 with
  |cons r3 r4=>cases r4;exact⟨_,_,rfl,r1,r3⟩
theorem ou:fO X (.builtin "abs") (fun xs H Q=>∃i,xs=[.int i]∧Q (.int (if i<0 then -i else i)) H):=by
 intro pins s σ H xs us Q I r h
 obtain⟨i,rfl,q⟩:=h
 obtain⟨u,rfl,t,rfl⟩:=vals1 r
 exact call_abs_int fun u tk=>⟨.int (if i<0 then -i else i),H,I.tok _,⟨_,rfl⟩,q⟩
theorem sV:fO X (.type "int") (fun xs H Q=>(∃i,xs=[.int i]∧Q (.int i) H)∨∃k,xs=[.bl k]∧Q (.int (if k then 1 else 0)) H):=by
 intro pins s σ H xs us Q I r h
 rcases h with ⟨i,rfl,q⟩ | ⟨k,rfl,q⟩
 ·obtain⟨u,rfl,t,rfl⟩:=vals1 r
  exact call_int_int ⟨.int i,H,I,⟨_,rfl⟩,q⟩
 ·obtain⟨u,rfl,r1⟩:=vals1 r
  cases r1
  exact call_int_bool ⟨.int (if k then 1 else 0),H,I.tok _,⟨_,rfl⟩,q⟩
theorem hV:fO X (.type "str") (fun xs H Q=>∃i,xs=[.int i]∧i.natAbs.log2<1920∧Q (.str (toString i)) H):=by
 intro pins s σ H xs us Q I r h
 obtain⟨i,rfl,hz,q⟩:=h
 obtain⟨u,rfl,t,rfl⟩:=vals1 r
 exact PySem.P.str_of_int hz ⟨.str _,H,I.tok _,⟨_,rfl⟩,q⟩
end
end L2
namespace L2
open PySem PySem.Spec PyProof.Rows
structure p7(h:Heap)(x dx C:Addr)(mA:Str→Option Value):Prop where
 obj:h.get? x=some (PySem.W.instObj C dx)
 ns:h.Ns1 dx mA
 ne:dx≠x
theorem iT{h:Heap}{dx:Addr}{mA:Str→Option Value}(n:h.Ns1 dx mA):∃od,h.get? dx=some od∧∀name,PySem.W.lookIn name od=some (mA name):=by
 obtain⟨o,es,ep,ho,hd,hk,_,hm⟩:=n
 refine⟨o,ho,fun name=>?_⟩
 have e:=hm name
 unfold nsFind findBy at e
 rw[←Array.find?_toList] at e
 unfold PySem.W.lookIn
 rw[hd]
 dsimp only
 split
 ·rename_i y q
  rw[q] at e
  exact congrArg some e
 ·rename_i q
  rw[q] at e
  have a:es.toList.any (·.refKey)=false:=by
   rw[List.any_eq_false]
   intro y hy
   obtain⟨z,t,Jc⟩:=hk y (Array.mem_toList_iff.mp hy)
   simp [DictEntry.refKey,Jc]
  have a':¬es.toList.any (·.refKey)=true:=by rw[a];exact Bool.false_ne_true
  rw[if_neg a']
  exact congrArg some e
theorem p7.look{h:Heap}{x dx C:Addr}{mA:Str→Option Value}(I:p7 h x dx C mA):∃od,PySem.W.InstAt h x (PySem.W.instObj C dx) C (some od)∧∀name,PySem.W.lookIn name od=some (mA name):=
 let ⟨od,ho,hl⟩:=iT I.ns
 ⟨od,⟨I.obj,rfl,rfl,ho⟩,hl⟩
section
variable {prog:Program}{w:World}{A:Around}{E:Value→Shared→Prop}{s:Shared}{K:PySem.W.Frag}{x dx C f:Addr}{mA:Str→Option Value}{name:Str}{v:Value}
theorem get_map{expr:Bool}{Q:Value→Shared→Prop}(X:K.In s.heap)(I:p7 s.heap x dx C mA)(hg:PySem.W.plainGet K C name=true)(hh:PySem.W.hasDictIn K C=true)
  (ha:PySem.W.findIn K (.ref C) name=some none) (hv:mA name=some v) (Pg:PySem.W.handedIn v=true) (h:Q v { s with toks:=s.toks+1 }):
  wpAny (model prog w) A (getAttr (.ref x) name expr) Q E s:=by
 obtain⟨od,J,hl⟩:=I.look
 exact PySem.W.get_value X J (PySem.W.plainGet_of hg).1 (PySem.W.findObj_own hh ha rfl (by rw[hl,hv])) Pg h
theorem uX{pl:Sem Bool}{Q:Value×List Value→Shared→Prop}(X:K.In s.heap)(I:p7 s.heap x dx C mA)(hg:PySem.W.plainGet K C name=true)
  (hf:PySem.W.findIn K (.ref C) name=some (some (.ref f))) (ht:PySem.W.isFn K (.ref f)=true) (hv:mA name=none) (h:Q (.ref f,[.ref x]) s):
  wpAny (model prog w) A (getMethod (.ref x) name pl) Q E s:=by
 obtain⟨od,J,hl⟩:=I.look
 exact PySem.W.method_fn X J (PySem.W.plainGet_of hg).1 (PySem.W.plainGet_of hg).2 hf (beq_iff_eq.mp ht) (by show (PySem.W.lookIn name od).map (·.isSome)=some false;rw[hl,hv];rfl) h
theorem x4{ns:List Str}{Q:Unit→Shared→Prop}(X:K.In s.heap)(I:p7 s.heap x dx C mA)
  (hs:PySem.W.findIn K (.ref C) "__setattr__" =some (some (.builtin "object.__setattr__"))) (hp:PySem.W.plainOver K C=true) (ht:PySem.W.takerIn K C name=some none) (hh:PySem.W.hasDictIn K C=true)
  (hw:PySem.Within mA ns) (Ph:ns.length≤sizeLine)
  (h:∀h',p7 h' x dx C (fun y=>if y=name then some v else mA y)→Heap.SameBut dx s.heap h'→Q () { s with heap:=h',toks:=s.toks+2 }):
  wpAny (model prog w) A (setAttr (.ref x) name v) Q E s:=by
 obtain⟨od,J,hl⟩:=I.look
 refine PySem.W.set_plain X J hs (PySem.W.osa_open (s:={ s with toks:=s.toks+1 }) (r:=none) X J hp ht fun b=>?_)
 obtain⟨cd,hc,Dg⟩:=PySem.W.any_some hh
 have hx:s.heap.get? x=some ⟨.ref C,some dx, .plain,#[]⟩:=I.obj
 refine wpAny_bind (wpAny_pure (wpAny_bind (wpAny_bind (wpAny_loadPart hx (wpAny_bind (PySem.W.Looks.here (s:={ s with toks:=s.toks+1 }) (PySem.W.looks_clsIn X hc) ?_))))))
 rw[Dg]
 refine wpAny_pure (a:=some dx) (wpAny_bind (wpAny_pure (wpAny_bind ?_)))
 refine wpAny_nsSet1 (s:={ s with toks:=s.toks+1 }) I.ns fun h' Dj N0=>?_
 obtain⟨oD,Ss,Su,Pj,Pk,x5⟩:=Dj.count (PySem.Within.cons name v hw)
 refine wpAny_bind (wpAny_lookBehind Pj (by rw[Pk];exact pastItsLine_dict (Nat.le_trans x5 (by rw[List.length_cons];omega))) ?_)
 exact wpAny_pure (h _ ⟨(N0.2 _ (Ne.symm I.ne)).trans I.obj,Dj,I.ne⟩ N0)
theorem uY{R:Result→Shared→Prop}{vs:List Value}{kw:List (Str×Value)}(X:K.In s.heap)(hm:PySem.W.makesIn K C=true)
  (hi:PySem.W.findIn K (.ref C) "__init__" =some (some (.ref f))) (hf:PySem.W.typeIn K (.ref f)=some (.type "function"))
  (h:codeAny (model prog w) (A.under (.builtin "type.__call__" ⟨.ref C::vs,kw⟩)) (.call (.ref f) ⟨.ref (s.heap.objs.size+1)::vs,kw⟩) (PySem.W.InitBack (s.heap.objs.size+1) R)
   { s with heap:=(s.heap.push PySem.W.emptyDict).push (PySem.W.instObj C s.heap.objs.size) }):
  codeAny (model prog w) A (.call (.ref C) ⟨vs,kw⟩) R s:=by
 obtain⟨hh,g,d,t,os⟩:=s
 exact PySem.W.make_core (PySem.W.makes_of X hm) (PySem.W.looks_findIn X hi) (fun self=>PySem.W.bind_fn X self hf) (.inl rfl) h
end
def cC(f:Str)(v:V):List (Str×V)→List (Str×V)
 | []=>[(f,v)]
 | (g,x)::r=>if g=f then (g,v)::r else (g,x)::cC f v r
theorem aO(f g:Str)(v:V):∀fs:List (Str×V),(cC f v fs).lookup g=if g=f then some v else fs.lookup g
 | []=>by
   show List.lookup g [(f,v)]=_
   by_cases h:g=f
   ·have hb:(g==f)=true:=beq_iff_eq.mpr h
    simp only [List.lookup,hb,if_pos h]
   ·have hb:(g==f)=false:=beq_eq_false_iff_ne.mpr h
    simp only [List.lookup,hb,if_neg h]
 | (k,x)::r=>by
   have ih:=aO f g v r
   rw[show cC f v ((k,x)::r)=(if k=f then (k,v)::r else (k,x)::cC f v r) from rfl]
   by_cases hk:k=f
   ·rw[if_pos hk]
    by_cases h:g=k
    ·have hb:(g==k)=true:=beq_iff_eq.mpr h
     simp only [List.lookup,hb,if_pos (h.trans hk)]
    ·have hb:(g==k)=false:=beq_eq_false_iff_ne.mpr h
     simp only [List.lookup,hb,if_neg (fun e:g=f=>h (e.trans hk.symm))]
   ·rw[if_neg hk]
    by_cases h:g=k
    ·have hb:(g==k)=true:=beq_iff_eq.mpr h
     simp only [List.lookup,hb,if_neg (fun e:g=f=>hk (h.symm.trans e))]
    ·have hb:(g==k)=false:=beq_eq_false_iff_ne.mpr h
     simp only [List.lookup,hb]
     exact ih
theorem eC(f:Str)(v:V):∀fs:List (Str×V),f∈(cC f v fs).map (·.1)∧∀g,g∈fs.map (·.1)→g∈(cC f v fs).map (·.1)
 | []=>⟨by simp [cC],fun g h=>by simp at h⟩
 | (k,x)::r=>by
   obtain⟨i1,i2⟩:=eC f v r
   rw[show cC f v ((k,x)::r)=(if k=f then (k,v)::r else (k,x)::cC f v r) from rfl]
   by_cases hk:k=f
   ·rw[if_pos hk]
    subst hk
    exact⟨by simp,fun g h=>by simpa using h⟩
   ·rw[if_neg hk]
    refine⟨?_,fun g h=>?_⟩
    ·rw[List.map_cons]
     exact List.mem_cons_of_mem _ i1
    ·rw[List.map_cons] at h ⊢
     rcases List.mem_cons.mp h with e|e
     ·exact List.mem_cons.mpr (.inl e)
     ·exact List.mem_cons_of_mem _ (i2 g e)
theorem ji(f:Str)(v:V):∀fs:List (Str×V),(cC f v fs).length≤fs.length+1
 | []=>by simp [cC]
 | (k,x)::r=>by
   have ih:=ji f v r
   rw[show cC f v ((k,x)::r)=(if k=f then (k,v)::r else (k,x)::cC f v r) from rfl]
   by_cases hk:k=f
   ·rw[if_pos hk,List.length_cons,List.length_cons];omega
   ·rw[if_neg hk,List.length_cons,List.length_cons];omega
theorem g9.some_of{v:V}{o:Option Value}(r:g9 (some v) o):∃u,o=some u∧RelV v u:=by
 cases o with
 |none=>exact(show False from r).elim
 |some u=>exact⟨u,rfl,r⟩
theorem g9.none_of{o:Option Value}(r:g9 none o):o=none:=by
 cases o with
 |none=>rfl
 |some u=>exact(show False from r).elim
theorem lr{v:V}{u:Value}(r:RelV v u):PySem.W.handedIn u=true:=by
 cases v with
 |bR=>cases (show u=Value.none from r);rfl
 |bl b=>cases (show u=Value.bool b from r);rfl
 |int i=>obtain⟨t,e⟩:=(show∃t,u=Value.int i t from r);cases e;rfl
 |str x=>obtain⟨t,e⟩:=(show∃t,u=Value.str x t from r);cases e;rfl
 |pR b=>obtain⟨t,e⟩:=(show∃t,u=Value.bytes b t from r);cases e;rfl
 |zS b=>obtain⟨t,e⟩:=(show∃t,u=Value.float b t from r);cases e;rfl
 |ref a=>cases (show u=Value.ref a from r);rfl
 |ty n=>cases (show u=Value.type n from r);rfl
section
variable {P:Program}{w:World}{H H':Hp}{h h':Heap}{a C dx:Addr}{fs xR:List (Str×V)}
theorem jz(bz:iO P w H h)(e:H a=some (.ins C dx fs)):∃mA,p7 h a dx C mA∧(∀f,g9 (fs.lookup f) (mA f))∧PySem.Within mA (fs.map (·.1))∧fs.length≤1000∧H dx=some (.own a):=by
 obtain⟨d,z,ne,ob,mA,n,r,q⟩:=(show cp P w H h a (.ins C dx fs) from bz a _ e)
 exact⟨mA,⟨ob,n,ne⟩,r,q,z,d⟩
end
structure nX(K:PySem.W.Frag)(C:Addr):Prop where
 pg:PySem.W.plainGet K C Str.empty=true
 hd:PySem.W.hasDictIn K C=true
 po:PySem.W.plainOver K C=true
 sa:PySem.W.findIn K (.ref C) "__setattr__" =some (some (.builtin "object.__setattr__"))
theorem nX.get{K:PySem.W.Frag}{C:Addr}(c:nX K C)(f:Str):PySem.W.plainGet K C f=true:=c.pg
def b5(K:PySem.W.Frag)(C:Addr)(f:Str):Prop:=PySem.W.findIn K (.ref C) f=some none
theorem b5.DS{K:PySem.W.Frag}{C:Addr}{f:Str}(n:b5 K C f):PySem.W.takerIn K C f=some none:=by
 unfold PySem.W.takerIn
 rw[show PySem.W.findIn K (.ref C) f=some none from n]
 rfl
structure Meth(K:PySem.W.Frag)(C:Addr)(m:Str)(f:Addr):Prop where
 at_:PySem.W.findIn K (.ref C) m=some (some (.ref f))
 fn:PySem.W.isFn K (.ref f)=true
 kp:PySem.W.keepIn K (.ref f)=true
section
variable {X:Cx}{pins:List (Addr×Obj)}{σ:St}{H:Hp}{s:Shared}{a C dx:Addr}{fs:List (Str×V)}{f:Str}{v:V}{A:Around}{E:Value→Shared→Prop}
theorem j3{b:Bool}{Q:Value→Shared→Prop}(I:Inv X pins σ H s)(e:H a=some (.ins C dx fs))(c:nX X.K C)(n:b5 X.K C f)(l:fs.lookup f=some v)
  (h:∀u s',Inv X pins σ H s'→RelV v u→Q u s'):wpAny (model X.prog X.w) A (getAttr (.ref a) f b) Q E s:=by
 obtain⟨mA,O,r,_,_,_⟩:=jz I.bz e
 obtain⟨u,hu,ru⟩:=g9.some_of (v:=v) (o:=mA f) (by rw[←l];exact r f)
 exact get_map I.eQ O (c.get f) c.hd n hu (lr ru) (h u _ (I.tok _) ru)
theorem gU{m:Str}{g:Addr}{pl:Sem Bool}{Q:Value×List Value→Shared→Prop}(I:Inv X pins σ H s)(e:H a=some (.ins C dx fs))(c:nX X.K C)(k:Meth X.K C m g)(l:fs.lookup m=none)
  (h:Q (.ref g,[.ref a]) s):wpAny (model X.prog X.w) A (getMethod (.ref a) m pl) Q E s:=by
 obtain⟨mA,O,r,_,_,_⟩:=jz I.bz e
 have hn:mA m=none:=g9.none_of (by rw[←l];exact r m)
 exact uX I.eQ O (c.get m) k.at_ k.fn hn h
theorem j4{y:V}{u:Value}{Q:Unit→Shared→Prop}(I:Inv X pins σ H s)(e:H a=some (.ins C dx fs))(c:nX X.K C)(n:b5 X.K C f)(hl:fs.length<1000)(ry:RelV y u)
  (h:∀s',Inv X pins σ (upd H a (.ins C dx (cC f y fs))) s'→Q () s'):wpAny (model X.prog X.w) A (setAttr (.ref a) f u) Q E s:=by
 obtain⟨mA,O,r,wi,_,ho⟩:=jz I.bz e
 have hz:(fs.map (·.1)).length≤sizeLine:=by rw[List.length_map,sizeLine_eq];omega
 refine x4 I.eQ O c.sa c.po n.DS c.hd wi hz fun h' O' sb=>h _ ?_
 have hd:∃o,h'.get? dx=some o:=let ⟨o,_,_,e',_⟩:=O'.ns;⟨o,e'⟩
 refine I.write (x:=a) (e:=dx) (by rw[e];exact True.intro) (.inr ho) (fun b q hb z=>(sb.2 b hb).trans z) hd ?_
 refine⟨by rw[ah O.ne];exact ho,?_,O.ne,O'.obj,_,O'.ns,fun g=>?_,fun g hg=>?_⟩
 ·have:=ji f y fs;omega
 ·show g9 ((cC f y fs).lookup g) (if g=f then some u else mA g)
  rw[aO]
  by_cases q:g=f
  ·rw[if_pos q,if_pos q];exact ry
  ·rw[if_neg q,if_neg q];exact r g
 ·by_cases q:g=f
  ·rw[q];exact(eC f y fs).1
  ·refine(eC f y fs).2 g (wi g fun z=>hg ?_)
   show (if g=f then some u else mA g)=none
   rw[if_neg q];exact z
theorem Inv.made(I:Inv X pins σ H s):Inv X pins σ (upd (upd H s.heap.objs.size (.own (s.heap.objs.size+1))) (s.heap.objs.size+1) (.ins C s.heap.objs.size []))
  { s with heap:=(s.heap.push PySem.W.emptyDict).push (PySem.W.instObj C s.heap.objs.size) }:=by
 have e1:(s.heap.push PySem.W.emptyDict).get? s.heap.objs.size=some PySem.W.emptyDict:=Heap.get?_push_size s.heap rfl
 have e2:((s.heap.push PySem.W.emptyDict).push (PySem.W.instObj C s.heap.objs.size)).get? (s.heap.objs.size+1)=some (PySem.W.instObj C s.heap.objs.size):=by
  have:=Heap.get?_push_size (s.heap.push PySem.W.emptyDict) (o:=PySem.W.instObj C s.heap.objs.size) rfl
  rwa [Heap.size_push] at this
 have e3:(s.heap.push PySem.W.emptyDict).Ns s.heap.objs.size (fun _=>none):=⟨PySem.W.emptyDict,#[],_,e1,rfl,(fun e he=>absurd he (by simp)),fun _=>rfl⟩
 have I1:=I.laid (a:=s.heap.objs.size) (o:= .own (s.heap.objs.size+1)) (h':=s.heap.push PySem.W.emptyDict) (t':=s.toks) (fun b u q=>Heap.get?_push_of_some _ q) (Nat.le_refl _) ⟨_,e1⟩
 refine I1.laid (a:=s.heap.objs.size+1) (o:= .ins C s.heap.objs.size []) (t':=s.toks) (fun b u q=>Heap.get?_push_of_some _ q) (Nat.le_of_eq (Heap.size_push _ _)) ?_
 have ne:s.heap.objs.size≠s.heap.objs.size+1:=Nat.ne_of_lt (Nat.lt_succ_self _)
 refine⟨by rw[ah ne,ag],Nat.zero_le _,ne,e2,fun _=>none,(Heap.Ns1.of_empty e3).at fun o q=>Heap.get?_push_of_some _ q,fun _=>True.intro,fun y hy=>absurd rfl hy⟩
theorem rk{prog:Program}{w:World}{env:Env}{e:Expr}{f:Str}{pos:Pos}{s:Shared}{Q:Value→Shared→Prop}(hb:attributeBase e f env (eval e env)=eval e env)
  (h:wpAny (model prog w) A (eval e env) (fun o s₁=>wpAny (model prog w) A (getAttr o f true) Q E s₁) E s):wpAny (model prog w) A (eval (.Attribute e f pos) env) Q E s:=
 Attribute_any_ h (by rw[arm_eval_Attribute,hb])
end
def Jd(K:PySem.W.Frag)(ta:TE)(f:Str):TE:=fun σ H Q=>ta σ H fun x H1=>∃a C dx fs v,x= .ref a∧H1 a=some (.ins C dx fs)∧nX K C∧b5 K C f∧fs.lookup f=some v∧Q v H1
def Je(K:PySem.W.Frag)(ta tv:TE)(f:Str):TS:=fun D σ H=>tv σ H fun y H1=>ta σ H1 fun x H2=>∃a C dx fs,x= .ref a∧H2 a=some (.ins C dx fs)∧nX K C∧b5 K C f∧fs.length<1000∧
 D.nx σ (upd H2 a (.ins C dx (cC f y fs)))
def DT(X:Cx)(op:Operator)(rd:V→V→Hp→VK→Prop):Prop:=
 ∀(pins:List (Addr×Obj)) (s:Shared) (σ:St) (H:Hp) (x y:V) (u v:Value) (Q:VK),Inv X pins σ H s→RelV x u→RelV y v→rd x y H Q→wpAny (model X.prog X.w) X.A (inplaceOp op u v) (EP X pins σ Q) X.xe s
def x6(K:PySem.W.Frag)(ta tv:TE)(rd:V→V→Hp→VK→Prop)(f:Str):TS:=fun D σ H=>ta σ H fun x H1=>∃a C dx fs v,x= .ref a∧H1 a=some (.ins C dx fs)∧nX K C∧b5 K C f∧fs.lookup f=some v∧
 tv σ H1 fun y H2=>rd v y H2 fun z H3=>∃dj xR,H3 a=some (.ins C dj xR)∧xR.length<1000∧D.nx σ (upd H3 a (.ins C dj (cC f z xR)))
section
variable {X:Cx}{o e value:Expr}{f:Str}{pos pos' DU:Pos}{ta tv:TE}
theorem bu(he:PE X e ta)(hb:attributeBase e f X.env (eval e X.env)=eval e X.env):PE X (.Attribute e f pos) (Jd X.K ta f):=by
 intro pins s σ H Q I h
 refine rk hb (bP (he pins s σ H _ I h) fun u s1 ⟨x,H1,I1,rx,a,C,dx,fs,v,ex,ea,c,n,l,q⟩=>?_)
 subst ex
 obtain rfl:u=Value.ref a:=rx
 exact j3 I1 ea c n l fun u' s2 I2 ru=>⟨v,H1,I2,ru,q⟩
theorem eh(ha:PE X o ta)(hv:PE X value tv)(hs:swapsWith value (some (.Attribute o f pos')) pos.line X.env=pure false):PS X (.Assign [.Attribute o f pos'] value pos) (Je X.K ta tv f):=by
 intro pins s σ H D I h
 refine plainObj_wpAny_Assign_Attribute (bP (hv pins s σ H _ I h) fun u s1 ⟨y,H1,I1,ry,q⟩=>bP (ha pins s1 σ H1 _ I1 q) fun ov s2 ⟨x,H2,I2,rx,a,C,dx,fs,ex,ea,c,n,l,q2⟩=>?_) hs
 subst ex
 obtain rfl:ov=Value.ref a:=rx
 exact j4 I2 ea c n l ry fun s3 I3=>⟨σ,_,I3,q2⟩
theorem gp{op:Operator}{rd:V→V→Hp→VK→Prop}(ha:PE X o ta)(hv:PE X value tv)(Pl:DT X op rd):PS X (.AugAssign (.Attribute o f DU) op value pos) (x6 X.K ta tv rd f):=by
 intro pins s σ H D I h
 refine wpAny_AugAssign_AttributeAny (bP (ha pins s σ H _ I h) fun ov s1 ⟨x,H1,I1,rx,a,C,dx,fs,v,ex,ea,c,n,l,q⟩=>?_)
 subst ex
 obtain rfl:ov=Value.ref a:=rx
 refine j3 I1 ea c n l fun u s2 I2 ru=>bP (hv pins s2 σ H1 _ I2 q) fun w3 s3 ⟨y,H2,I3,ry,q3⟩=>bP (Pl pins s3 σ H2 v y u w3 _ I3 ru ry q3) fun w4 s4 ⟨z,H3,I4,rz,dj,xR,Po,l',q4⟩=>?_
 exact j4 I4 Po c n l' rz fun s5 I5=>⟨σ,_,I5,q4⟩
def Jf:V→V→Hp→VK→Prop:=fun x y H Q=>∃i j,x= .int i∧y= .int j∧Q (.int (i+j)) H
theorem mz:DT X .Add Jf:=by
 rintro pins s σ H x y u v Q I rx ry ⟨i,j,rfl,rfl,q⟩
 obtain⟨t,rfl⟩:=(show∃t,u=Value.int i t from rx)
 obtain⟨t',rfl⟩:=(show∃t',v=Value.int j t' from ry)
 exact PyProof.Rows.iadd_int ⟨.int (i+j),H,I.tok _,⟨_,rfl⟩,q⟩
end
section
variable {X:Cx}{pins:List (Addr×Obj)}{σ:St}{H:Hp}{s:Shared}{A:Around}{E:Value→Shared→Prop}{Q:Value→Shared→Prop}{c:Value}{b:Bool}
inductive iU(K:PySem.W.Frag)(H:Hp):V→Value→Prop where
 |bR:iU K H .bR (.type "NoneType")
 |bl (x:Bool):iU K H (.bl x) (.type "bool")
 |int (i:Int):iU K H (.int i) (.type "int")
 |str (x:Str):iU K H (.str x) (.type "str")
 |zS (x:UInt64):iU K H (.zS x) (.type "float")
 |lst {a:Addr} {xs:List V} (e:H a=some (.lst xs)):iU K H (.ref a) (.type "list")
 |pS {a:Addr} {o:Obj} {xs:List V} (e:H a=some (.pS o (.lst xs))):iU K H (.ref a) (.type "list")
 |tup {a:Addr} {xs:List V} (e:H a=some (.tup xs)):iU K H (.ref a) (.type "tuple")
 |dK {a:Addr} {eB:List (Key×V)} (e:H a=some (.dK eB)):iU K H (.ref a) (.type "dict")
 |dT {a:Addr} {eB:List (List Key×V)} (e:H a=some (.dT eB)):iU K H (.ref a) (.type "dict")
 |ins {a C dx:Addr} {fs:List (Str×V)} (e:H a=some (.ins C dx fs)) (cl:nX K C) (ha:PySem.W.findIn K (.ref C) "__class__" =some (some (.builtin "object.__class__")))
   (hn:PySem.W.specialIn K (.builtin "object.__class__") "__get__" =some (some (.builtin "getset_descriptor.__get__"))) (HP:PySem.W.takesIn K (.builtin "object.__class__")=some true)
   (hm:PySem.W.mroIn K C (.type "object")=some true):iU K H (.ref a) (.ref C)
theorem sW{x:V}{u t:Value}(I:Inv X pins σ H s)(rx:RelV x u)(ty:iU X.K H x t)(e:PySem.W.kitOne X.K t c=some b)(h:∀tk,Q (.bool b) { s with toks:=tk }):
  wpAny (model X.prog X.w) A (call (.builtin "isinstance") [u,c]) Q E s:=by
 cases ty with
 |bR=>cases (show u=Value.none from rx);exact PySem.W.kia_one PySem.W.kitx_none I.eQ True.intro e (fun z=>nomatch z) h
 |bl y=>cases (show u=Value.bool y from rx);exact PySem.W.kia_one PySem.W.kitx_bool I.eQ True.intro e (fun z=>nomatch z) h
 |int i=>obtain⟨t,q⟩:=(show∃t,u=Value.int i t from rx);cases q;exact PySem.W.kia_one PySem.W.kitx_int I.eQ True.intro e (fun z=>nomatch z) h
 |str y=>obtain⟨t,q⟩:=(show∃t,u=Value.str y t from rx);cases q;exact PySem.W.kia_one PySem.W.kitx_str I.eQ True.intro e (fun z=>nomatch z) h
 |zS y=>obtain⟨t,q⟩:=(show∃t,u=Value.float y t from rx);cases q;exact PySem.W.kia_one PySem.W.kitx_float I.eQ True.intro e (fun z=>nomatch z) h
 | @lst a xs ea=>
   cases (show u=Value.ref a from rx)
   obtain⟨_,_,n,_,h1⟩:=(show cp X.prog X.w H s.heap a (.lst xs) from I.bz a _ ea)
   exact PySem.W.kia_one PySem.W.kitx_list I.eQ ⟨_,h1,rfl⟩ e (fun z=>nomatch z) h
 | @pS a ob xs ea=>
   cases (show u=Value.ref a from rx)
   obtain⟨_,_,_,n,_,h1⟩:=(show cp X.prog X.w H s.heap a (.pS ob (.lst xs)) from I.bz a _ ea)
   exact PySem.W.kia_one PySem.W.kitx_list I.eQ ⟨_,h1,rfl⟩ e (fun z=>nomatch z) h
 | @tup a xs ea=>
   cases (show u=Value.ref a from rx)
   obtain⟨_,_,_,p⟩:=(show cp X.prog X.w H s.heap a (.tup xs) from I.bz a _ ea)
   obtain⟨o,h1,h2,_⟩:=p
   exact PySem.W.kia_one PySem.W.kitx_tuple I.eQ ⟨o,h1,h2⟩ e (fun z=>nomatch z) h
 | @dK a eB ea=>
   cases (show u=Value.ref a from rx)
   obtain⟨_,_,vs,_,p⟩:=(show cp X.prog X.w H s.heap a (.dK eB) from I.bz a _ ea)
   obtain⟨o,es,ep,h1,h2,_⟩:=p
   exact PySem.W.kia_one PySem.W.kitx_dict I.eQ ⟨o,h1,h2.1⟩ e (fun z=>nomatch z) h
 | @dT a eB ea=>
   cases (show u=Value.ref a from rx)
   obtain⟨_,_,xs,_,o,es,ep,h1,h2,_⟩:=(show cp X.prog X.w H s.heap a (.dT eB) from I.bz a _ ea)
   exact PySem.W.kia_one PySem.W.kitx_dict I.eQ ⟨o,h1,h2.1⟩ e (fun z=>nomatch z) h
 | @ins a C dx fs ea cl ha hn HP hm=>
   cases (show u=Value.ref a from rx)
   obtain⟨mA,O,_⟩:=jz I.bz ea
   obtain⟨od,J,_⟩:=O.look
   exact PySem.W.kia_one (PySem.W.kitx_own (cl.get _) cl.hd ha hn HP hm) I.eQ J e (fun z=>nomatch z) h
end
end L2
namespace L2
open PySem PySem.Spec PyProof.Rows
structure bW(k:Nat)(A:Around):Prop where
 hd:A.handled=none
 dp:A.depth+3*k+5<recursionLimit
 un:A.units+16*k+200<cLine
theorem bW.mono{j k:Nat}{A:Around}(r:bW k A)(h:j≤k):bW j A:=⟨r.hd,by have:=r.dp;omega,by have:=r.un;omega⟩
theorem bW.deeper{k:Nat}{A:Around}(r:bW (k+1) A)(env:Env):bW k (A.deeper env):=
 ⟨r.hd,by have:=r.dp;show A.depth+1+3*k+5<_;omega,by have:=r.un;show A.units+3+16*k+200<_;omega⟩
theorem p8{A:Around}{C:Addr}{us:List Value}{kw:List (Str×Value)}:(A.under (.builtin "type.__call__" ⟨.ref C::us,kw⟩)).depth=A.depth+1:=by
 first|rfl|simp [Around.under,Code.weight,Code.isCreation,Code.isGuard,Code.isCaller,Code.frames,Code.isFrame,guardIds]
theorem p9{A:Around}{C:Addr}{us:List Value}{kw:List (Str×Value)}:(A.under (.builtin "type.__call__" ⟨.ref C::us,kw⟩)).units=A.units+1:=by
 first|rfl|simp [Around.under,Code.cUnits,Code.frames,Code.isFrame]
theorem bW.make{k:Nat}{A:Around}(r:bW (k+1) A)(C:Addr)(us:List Value)(kw:List (Str×Value)):bW k (A.under (.builtin "type.__call__" ⟨.ref C::us,kw⟩)):=
 ⟨r.hd,by have:=r.dp;rw[p8];omega,by have:=r.un;rw[p9];omega⟩
theorem bW.depth{k:Nat}{A:Around}(r:bW k A):A.depth<recursionLimit:=by have:=r.dp;omega
theorem bW.units{k:Nat}{A:Around}(r:bW k A):A.units+64<cLine:=by have:=r.un;omega
def Bc:TA:=fun _ H Q=>Q [] H
def DV(ta:TE)(tr:TA):TA:=fun σ H Q=>ta σ H fun x H1=>tr σ H1 fun xs H2=>Q (x::xs) H2
section
variable {X:Cx}{e:Expr}{es:List Expr}{te:TE}{t:TA}{pos:Pos}
theorem ai:PA X [] Bc:=fun _ _ _ _ H Q I h=>Calls.spliced_nil ⟨[],H,I, .nil,h⟩
theorem aa(ha:PE X e te)(hr:PA X es t)(hs:starEach (e::es) X.env=(false,eval e X.env)::starEach es X.env:=by rfl):PA X (e::es) (DV te t):=by
 intro pos pins s σ H Q I h
 rw[hs]
 show wpAny _ _ (spliced ((false,eval e X.env)::backTo pos (starEach es X.env))) _ _ s
 refine Calls.spliced_cons (bP (ha pins s σ H _ I h) fun u s1 ⟨x,H1,I1,r1,q1⟩=>?_)
 exact bP (hr pos pins s1 σ H1 _ I1 q1) fun us s2 ⟨xs,H2,I2,r2,q2⟩=>⟨x::xs,H2,I2, .cons r1 r2,q2⟩
def Jg(t:TA):TE:=fun σ H Q=>t σ H fun xs H1=>xs.length≤sizeLine∧∀p,H1 p=none→Q (.ref p) (upd H1 p (.tup xs))
def Jh(t:TA):TE:=fun σ H Q=>t σ H fun xs H1=>xs.length≤sizeLine∧∀p,H1 p=none→Q (.ref p) (upd H1 p (.lst xs))
theorem cu{x1}(h:PA X es t):PE X (.Tuple es x1 pos) (Jg t):=by
 intro pins s σ H Q I hq
 refine wpAny_Tuple_spliced (bP (h pos pins s σ H _ I hq) fun us s1 ⟨xs,H1,I1,r,z,q⟩=>⟨by rw[←r.length];exact z,?_⟩)
 have hf:H1 s1.heap.objs.size=none:=I1.bz.fresh (Nat.le_refl _)
 refine⟨.ref s1.heap.objs.size,upd H1 s1.heap.objs.size (.tup xs),I1.laid (t':=s1.toks) (fun b u e=>Heap.get?_push_of_some _ e) (Nat.le_refl _) ?_,rfl,q _ hf⟩
 exact⟨z,us,r,⟨_,Heap.get?_push_size _ rfl,rfl,_,rfl⟩⟩
theorem bH(h:PA X es t):PE X (.List es pos) (Jh t):=by
 intro pins s σ H Q I hq
 refine wpAny_List_spliced (bP (h pos pins s σ H _ I hq) fun us s1 ⟨xs,H1,I1,r,z,q⟩=>⟨by rw[←r.length];exact z,?_⟩)
 have hf:H1 s1.heap.objs.size=none:=I1.bz.fresh (Nat.le_refl _)
 refine⟨.ref s1.heap.objs.size,upd H1 s1.heap.objs.size (.lst xs),I1.laid (t':=s1.toks) (fun b u e=>Heap.get?_push_of_some _ e) (Nat.le_refl _) ?_,rfl,q _ hf⟩
 exact⟨z,us,0,r,Heap.get?_push_size _ rfl⟩
end
abbrev Sp:=List V→Hp→VK→XK→Prop
abbrev uv:=List Env→Hp→Shared→XK→Value→Shared→Prop
structure qa(P:Program)(w:World)(K:PySem.W.Frag)(mg:Str→Option Value)(base:Heap)(A:Around)(outer:List Env)(s:Shared)(H:Hp):Prop where
 frames:A.frames=some outer
 mod:Mod K mg base
 bs:∀b o,base.get? b=some o→s.heap.get? b=some o∧H b=none
 sQ:base.objs.size≤s.heap.objs.size
 gI:s.heap.FunFrames base outer
 uF:∀b∈nV outer,H b=none
 bz:iO P w H s.heap
 bare:AllBare s.gens
def CE(outer:List Env)(P:Program)(w:World)(H:Hp)(s:Shared)(Q:VK)(u:Value)(s':Shared):Prop:=
 ∃v H',s'.os=s.os∧AllBare s'.gens∧Un (nV outer) [] H H' s.heap s'.heap∧iO P w H' s'.heap∧RelV v u∧Q v H'
def CR(CX:uv)(outer:List Env)(P:Program)(w:World)(H:Hp)(s:Shared)(Q:VK)(E:XK)(r:Result)(s':Shared):Prop:=
 match r with
 | .ok (.ret u)=>CE outer P w H s Q u s'
 | .ok _=>False
 | .error e=>CX outer H s E e s'
structure dn(P:Program)(w:World)(K:PySem.W.Frag)(mg:Str→Option Value)(base:Heap)(CX:uv)(k:Nat)(f:Addr)(fd:FuncData)(ps:List Str)(sp:Sp):Prop where
 len:∀vs H Q E,sp vs H Q E→vs.length=ps.length
 run:∀(A:Around) (outer:List Env) (s:Shared) (H:Hp) (args:Args) (us:List Value) (vs:List V) (Q:VK) (E:XK),bW k A→qa P w K mg base A outer s H→BindsTo s fd args (ps.zip us)→Vals vs us→sp vs H Q E→
  codeAny (model P w) A (.call (.ref f) args) (CR CX outer P w H s Q E) s
theorem qa.make{P:Program}{w:World}{K:PySem.W.Frag}{mg:Str→Option Value}{base:Heap}{A:Around}{outer:List Env}{s:Shared}{H:Hp}(e:qa P w K mg base A outer s H)(C:Addr)(us:List Value)(kw:List (Str×Value)):
  qa P w K mg base (A.under (.builtin "type.__call__" ⟨.ref C::us,kw⟩)) outer s H:=⟨by first|exact e.frames| (simpa [Around.under,Code.envs,Code.isFrame,pushEnvs] using e.frames),e.mod,e.bs,e.sQ,e.gI,e.uF,e.bz,e.bare⟩
section
variable {X:Cx}{pins:List (Addr×Obj)}{σ:St}{H:Hp}{s s':Shared}
theorem Inv.x8(I:Inv X pins σ H s):qa X.prog X.w X.K X.mg X.base X.A X.stack s H:=
 ⟨I.ok.frames,I.ok.mod,I.bs,Nat.le_trans I.ok.sQ I.sz,I.stack,I.mn,I.bz,I.bare⟩
theorem Inv.after{Q:VK}{u:Value}(I:Inv X pins σ H s)(h:CE X.stack X.prog X.w H s Q u s'):EP X pins σ Q u s':=by
 obtain⟨v,H',os,bare,un,bz,r,q⟩:=h
 obtain⟨hh,g,d,t,Pp⟩:=s'
 obtain rfl:Pp=s.os:=os
 exact⟨v,H',I.call (h':=hh) (g':=g) (d':=d) (t':=t) (ch:=[]) un bz bare (fun b z=>absurd z (by simp)),r,q⟩
end
def DW(sp:Sp)(gq:List V)(E:XK)(t:TA):TE:=fun σ H Q=>t σ H fun vs H1=>sp (vs++gq) H1 Q E
def DX(C:Addr)(m:Str)(sp:Sp)(gq:List V)(E:XK)(ta:TE)(t:TA):TE:=fun σ H Q=>ta σ H fun x H1=>∃a dx fs,x= .ref a∧H1 a=some (.ins C dx fs)∧fs.lookup m=none∧
 t σ H1 fun vs H2=>sp (x::(vs++gq)) H2 Q E
def DY(C:Addr)(sp:Sp)(gq:List V)(E:XK)(t:TA):TE:=fun σ H Q=>t σ H fun vs H1=>∀x dx,H1 x=none→H1 dx=none→dx≠x→
 sp (.ref x::(vs++gq)) (upd (upd H1 dx (.own x)) x (.ins C dx [])) (fun v H2=>v= .bR∧Q (.ref x) H2) E
def Binds(K:PySem.W.Frag)(fd:FuncData)(ps:List Str)(ds:List Value):Prop:=
 ∀(s:Shared) (us:List Value),K.In s.heap→(us++ds).length=ps.length→BindsTo s fd ⟨us,[]⟩ (ps.zip (us++ds))
theorem Binds.all{K:PySem.W.Frag}{fd:FuncData}{ps:List Str}(h:∀us:List Value,us.length=ps.length→bindArgs fd ⟨us,[]⟩=pure (ps.zip us)):Binds K fd ps []:=fun s us _ hl=>by
 rw[List.append_nil] at hl ⊢
 exact .of_eq (h us hl)
def Passes(CX:uv)(X:Cx)(E:XK):Prop:=∀(pins:List (Addr×Obj)) (σ:St) (H:Hp) (s:Shared) (e:Value) (s':Shared),Inv X pins σ H s→CX X.stack H s E e s'→X.xe e s'
section
variable {X:Cx}{CX:uv}{k:Nat}{f C:Addr}{fd:FuncData}{ps:List Str}{sp:Sp}{gq:List V}{ds:List Value}{E:XK}{x m:Str}{p pos apos:Pos}{e o:Expr}{es:List Expr}{ta:TE}{t:TA}
theorem uZ{pins:List (Addr×Obj)}{σ:St}{H:Hp}{s:Shared}{Q:VK}{us:List Value}{vs:List V}(F:dn X.prog X.w X.K X.mg X.base CX k f fd ps sp)(hr:bW k X.A)(hb:Binds X.K fd ps ds)(hd:Vals gq ds)(hx:Passes CX X E)
  (I:Inv X pins σ H s) (r:Vals vs us) (h:sp (vs++gq) H Q E):wpAny (model X.prog X.w) X.A (call (.ref f) us) (EP X pins σ Q) X.xe s:=by
 have r2:Vals (vs++gq) (us++ds):=r.append hd
 have hl:(us++ds).length=ps.length:=by rw[←r2.length];exact F.len _ _ _ _ h
 refine wpAny_call (codeAny_mono (F.run X.A X.stack s H ⟨us,[]⟩ (us++ds) (vs++gq) Q E hr I.x8 (hb s us I.eQ hl) r2 h) fun r s' hq=>?_)
 cases r with
 |error e=>exact hx pins σ H s e s' I hq
 |ok fl=>
  cases fl with
  |ret u=>exact I.after hq
  |next=>exact False.elim hq
  |brk=>exact False.elim hq
  |cont=>exact False.elim hq
theorem aF(F:dn X.prog X.w X.K X.mg X.base CX k f fd ps sp)(hr:bW k X.A)(hg:Gl X x)(hm:X.mg x=some (.ref f))(hk:PySem.W.keepIn X.K (.ref f)=true)(hb:Binds X.K fd ps ds)(hd:Vals gq ds)(hx:Passes CX X E)
  (ha:PA X (e::es) t) (u3:(x==("__debug__" :Str))=false:=by decide) (he:starEach (e::es) X.env=(false,eval e X.env)::starEach es X.env:=by rfl) (lu:(backTo pos (starEach es X.env)).any (·.1)=false:=by rfl):
  PE X (.Call (.Name x p) (e::es) [] pos) (DW sp gq E t):=by
 intro pins s σ H Q I h
 refine wpAny_Call_Name_kw (eS I hg hm ?_ u3)
 refine PySem.W.callWith_K (h₀:=X.base) I.ok.mod.AW hk (bP (ha pos pins s σ H _ I h) fun us s1 ⟨vs,H1,I1,r,q⟩=>⟨I1.eQ,?_⟩) he lu
 exact uZ F hr hb hd hx I1 r q
theorem bF{pl:Sem Bool}(he:PE X o ta)(c:nX X.K C)(hm:Meth X.K C m f)(F:dn X.prog X.w X.K X.mg X.base CX k f fd ps sp)(hr:bW k X.A)(hb:Binds X.K fd ps ds)(hd:Vals gq ds)(hx:Passes CX X E)
  (ht:eval (.Call (.Attribute o m apos) [] [] pos) X.env=(do
   let ov←eval o X.env
   standAt apos.atName
   let (f,first)←holding [ov] (getMethod ov m pl)
   callWith pos f first (backTo pos (starEach [] X.env)) (backToKw pos (keywordEach [] X.env))):=by rfl):
  PE X (.Call (.Attribute o m apos) [] [] pos) (DX C m sp gq E ta Bc):=by
 intro pins s σ H Q I h
 refine PySem.W.methodCall_KW (pl:=pl) (bP (he pins s σ H _ I h) fun u s1 ⟨x,H1,I1,rx,a,dx,fs,ex,ea,l,q⟩=>?_) ht
 subst ex
 obtain rfl:u=Value.ref a:=rx
 refine gU I1 ea c hm l ?_
 exact PySem.W.callWith_K0 (first:=[.ref a]) I1.eQ hm.kp (uZ (us:=[.ref a]) (vs:=[.ref a]) F hr hb hd hx I1 (.cons rfl .nil) q)
structure Mk(K:PySem.W.Frag)(C f:Addr):Prop where
 makes:PySem.W.makesIn K C=true
 init:PySem.W.findIn K (.ref C) "__init__" =some (some (.ref f))
 fn:PySem.W.isFn K (.ref f)=true
 kp:PySem.W.keepIn K (.ref C)=true
theorem u4{pins:List (Addr×Obj)}{σ:St}{H:Hp}{s:Shared}{Q:VK}{us:List Value}{vs:List V}(M:Mk X.K C f)(F:dn X.prog X.w X.K X.mg X.base CX k f fd ps sp)(hr:bW (k+1) X.A)(hb:Binds X.K fd ps ds)(hd:Vals gq ds)
  (hx:Passes CX X E) (I:Inv X pins σ H s) (r:Vals vs us)
  (h:∀x dx,H x=none→H dx=none→dx≠x→sp (.ref x::(vs++gq)) (upd (upd H dx (.own x)) x (.ins C dx [])) (fun v H2=>v= .bR∧Q (.ref x) H2) E):
  wpAny (model X.prog X.w) X.A (call (.ref C) us) (EP X pins σ Q) X.xe s:=by
 have hq:=h (s.heap.objs.size+1) s.heap.objs.size (I.bz.fresh (Nat.le_succ _)) (I.bz.fresh (Nat.le_refl _)) (Nat.ne_of_lt (Nat.lt_succ_self _))
 have I2:=Inv.made (C:=C) I
 have r2:Vals (V.ref (s.heap.objs.size+1)::(vs++gq)) (Value.ref (s.heap.objs.size+1)::(us++ds)):= .cons rfl (r.append hd)
 have hl:(Value.ref (s.heap.objs.size+1)::us++ds).length=ps.length:=by
  have e:=r2.length
  rw[F.len _ _ _ _ hq] at e
  exact e.symm
 refine wpAny_call (uY (f:=f) I.eQ M.makes M.init (beq_iff_eq.mp M.fn) (codeAny_mono (F.run _ X.stack _ _ ⟨Value.ref (s.heap.objs.size+1)::us,[]⟩ (Value.ref (s.heap.objs.size+1)::(us++ds)) _ _ E (hr.make C us [])
  (I2.x8.make C us []) (hb _ (Value.ref (s.heap.objs.size+1)::us) I2.eQ hl) r2 hq) fun r s' kT=>?_))
 cases r with
 |error e=>exact hx pins σ _ _ e s' I2 kT
 |ok fl=>
  cases fl with
  |ret u=>
   obtain⟨v,H',I3,rv,ev,q3⟩:=I2.after kT
   subst ev
   exact⟨rv,⟨V.ref (s.heap.objs.size+1),H',I3,rfl,q3⟩⟩
  |next=>exact False.elim kT
  |brk=>exact False.elim kT
  |cont=>exact False.elim kT
theorem eY(M:Mk X.K C f)(F:dn X.prog X.w X.K X.mg X.base CX k f fd ps sp)(hr:bW (k+1) X.A)(hg:Gl X x)(hm:X.mg x=some (.ref C))(hb:Binds X.K fd ps ds)(hd:Vals gq ds)(hx:Passes CX X E)
  (ha:PA X (e::es) t) (u3:(x==("__debug__" :Str))=false:=by decide) (he:starEach (e::es) X.env=(false,eval e X.env)::starEach es X.env:=by rfl) (lu:(backTo pos (starEach es X.env)).any (·.1)=false:=by rfl):
  PE X (.Call (.Name x p) (e::es) [] pos) (DY C sp gq E t):=by
 intro pins s σ H Q I h
 refine wpAny_Call_Name_kw (eS I hg hm ?_ u3)
 refine PySem.W.callWith_K (h₀:=X.base) I.ok.mod.AW M.kp (bP (ha pos pins s σ H _ I h) fun us s1 ⟨vs,H1,I1,r,q⟩=>⟨I1.eQ,?_⟩) he lu
 exact u4 M F hr hb hd hx I1 r q
end
section
variable {X:Cx}{CX:uv}{k:Nat}{f C:Addr}{fd:FuncData}{ps ks:List Str}{sp:Sp}{E:XK}{x m:Str}{p pos apos Pq:Pos}{e o:Expr}{es:List Expr}{Sw:List Keyword}{te ta:TE}{t tk:TA}{nm:Option Str}
variable {g:List Value→List Value→List Value}{gV:List V→List V→List V}
end
structure ax(N P:List Str)(sc:Scope):Prop where
 kind:sc.kind= .function
 co:sc.isCoroutine=false
 gen:sc.isGenerator=false
 nd:N.Nodup
 pre:N.take P.length=P
 par:∀x∈P,sc.names.lookup x=some .local∨sc.names.lookup x=some .cell
 Bd:∀y∈sc.names,y.2≠ .free
theorem lx{kindOf:Str→Option NameKind}{x:Str}:∀{binds:List (Str×Value)} {m:Str→Option Value},(∀v,(x,v)∉binds)→bindL kindOf binds m x=m x
 | [],_,_=>rfl
 | (n,v)::r,m,h=>by
   unfold bindL
   rw[lx fun w hw=>h w (List.mem_cons_of_mem _ hw)]
   split
   ·have:x≠n:=by rintro rfl;exact h v List.mem_cons_self
    simp [this]
   ·rfl
theorem lz{kindOf:Str→Option NameKind}{x:Str}:∀{binds:List (Str×Value)} {m:Str→Option Value},(∀v,(x,v)∉binds)→bindC kindOf binds m x=m x
 | [],_,_=>rfl
 | (n,v)::r,m,h=>by
   unfold bindC
   rw[lz fun w hw=>h w (List.mem_cons_of_mem _ hw)]
   split
   ·rfl
   ·have:x≠n:=by rintro rfl;exact h v List.mem_cons_self
    simp [this]
theorem lA{kindOf:Str→Option NameKind}{x:Str}{v:Value}:∀{P:List Str} {vs:List Value} {i:Nat} {m:Str→Option Value},P.Nodup→P[i]? =some x→vs[i]? =some v→kindOf x=some .local→
  bindL kindOf (P.zip vs) m x=some v
 | [],_,_,_,_,h,_,_=>by simp at h
 |_::_,[],_,_,_,_,h,_=>by simp at h
 |p::P,w::vs,0,m,nd,h1,h2,hk=>by
  simp at h1 h2;subst h1;subst h2
  show bindL kindOf ((p,w)::P.zip vs) m p=_
  unfold bindL
  rw[lx fun v hv=>(List.nodup_cons.mp nd).1 (List.of_mem_zip hv).1,if_pos hk]
  simp
 |p::P,w::vs,i+1,m,nd,h1,h2,hk=>by
  show bindL kindOf ((p,w)::P.zip vs) m x=_
  unfold bindL
  exact lA (i:=i) (List.nodup_cons.mp nd).2 (by simpa using h1) (by simpa using h2) hk
theorem lB{kindOf:Str→Option NameKind}{x:Str}{v:Value}:∀{P:List Str} {vs:List Value} {i:Nat} {m:Str→Option Value},P.Nodup→P[i]? =some x→vs[i]? =some v→kindOf x≠some .local→
  bindC kindOf (P.zip vs) m x=some v
 | [],_,_,_,_,h,_,_=>by simp at h
 |_::_,[],_,_,_,_,h,_=>by simp at h
 |p::P,w::vs,0,m,nd,h1,h2,hk=>by
  simp at h1 h2;subst h1;subst h2
  show bindC kindOf ((p,w)::P.zip vs) m p=_
  unfold bindC
  rw[lz fun v hv=>(List.nodup_cons.mp nd).1 (List.of_mem_zip hv).1,if_neg hk]
  simp
 |p::P,w::vs,i+1,m,nd,h1,h2,hk=>by
  show bindC kindOf ((p,w)::P.zip vs) m x=_
  unfold bindC
  exact lB (i:=i) (List.nodup_cons.mp nd).2 (by simpa using h1) (by simpa using h2) hk
def start(N:List Str)(vs:List V):St:=vs.map some++List.replicate (N.length - vs.length) none
def fF(CX:uv)(P:Program)(w:World)(K:PySem.W.Frag)(mg:Str→Option Value)(base:Heap)(N:List Str)(qual:Str)(scope:Scope)(f:Addr)(cd:Value)(A:Around)(outer:List Env)(s:Shared)(H:Hp)(E:XK):Cx where
 prog:=P
 w:=w
 K:=K
 mg:=mg
 base:=base
 A:=A.deeper (envOfC qual scope s.heap.objs.size f cd)
 N:=N
 s₀:=s
 H₀:=H
 env:=envOfC qual scope s.heap.objs.size f cd
 outer:=outer
 stack:=envOfC qual scope s.heap.objs.size f cd::outer
 ex:=[]
 calm:=true
 fn:=fun _=>true
 pn:=[]
 xe:=fun e s'=>wpAny (model P w) (A.deeper (envOfC qual scope s.heap.objs.size f cd)) (leaving (envOfC qual scope s.heap.objs.size f cd) e) (fun _ Ji=>CX outer H s E e Ji) (fun e' Ji=>CX outer H s E e' Ji) s'
theorem ow{sc:Scope}{n:Nat}{x:Str}(h:sc.names.lookup x=some .cell):∃c,(cellsFrom n sc.names []).lookup x=some c:=by
 have q:=PySem.W.cellsFrom_some sc.names n [] (.inl h)
 exact Option.isSome_iff_exists.mp q
theorem sX{CX:uv}{P:Program}{w:World}{K:PySem.W.Frag}{mg:Str→Option Value}{base:Heap}{N ps:List Str}{qual:Str}{scope:Scope}{f:Addr}{cd:Value}{A:Around}{outer:List Env}{s s1:Shared}{H:Hp}{E:XK}{us:List Value}{vs:List V}
  (S:ax N ps scope) (hd:A.handled=none) (e0:qa P w K mg base A outer s H) (hl:vs.length=ps.length) (r:Vals vs us)
  (x:InCallC s s.heap.objs.size (bindL (envOfC qual scope s.heap.objs.size f cd).kindOf (ps.zip us) fun _=>none) (cellsFrom (s.heap.objs.size+1) scope.names []) (bindC (envOfC qual scope s.heap.objs.size f cd).kindOf (ps.zip us) fun _=>none) s1):
  Inv (fF CX P w K mg base N qual scope f cd A outer s H E) [] (start N vs) H s1:=by
 have lu:ps.length≤N.length:=by have:=congrArg List.length S.pre;rw[List.length_take] at this;omega
 obtain⟨h1,tk,rfl,hk⟩:=x.done
 have DZ:∀b:Addr,b∉(fF CX P w K mg base N qual scope f cd A outer s H E).ex:=fun b z=>absurd (show b∈([]:List Addr) from z) (by simp)
 refine⟨⟨e0.mod,S.kind,rfl,rfl,Nat.le_refl _,fun y z c h1 h2=>?_,fun y hy=>?_,fun y c _ h=>?_,fun _=>hd,Around.frames_deeper e0.frames, .inr ⟨rfl,rfl⟩,fun b z=>absurd z (DZ b),e0.bs,e0.sQ,fun b _ _=>DZ b,fun b z=>absurd z (DZ b),e0.gI,e0.uF⟩,
  rfl,e0.bare,Un.kept hk,⟨_,x.toInCall.ns,fun i y v h1 h2 h3=>?_⟩,fun y c h=>⟨_,x.cell y c h⟩,e0.bz.fresh (Nat.le_refl _),fun y c h=>?_,fun p hp=>absurd (show p∈([]:List (Addr×Obj)) from hp) (by simp),e0.bz.kept hk,?_⟩
 ·exact name_of_addr x.apart (PySem.mem_of_lookup h1) (PySem.mem_of_lookup h2)
 ·have hy:scope.names.lookup y=some .cell∨scope.names.lookup y=some .free:=hy
  rcases hy with hy|hy
  ·exact ow hy
  ·exact absurd rfl (S.Bd _ (PySem.mem_of_lookup hy))
 ·exact Nat.le_of_lt (x.above y c (PySem.mem_of_lookup h))
 ·have hi:i<vs.length:=by
   unfold start at h2
   by_cases hi:i<vs.length
   ·exact hi
   ·rw[List.getElem?_append_right (by simpa using hi)] at h2
    rw[List.getElem?_replicate] at h2
    split at h2<;>cases h2
  have ha:vs[i]? =some v:=by
   unfold start at h2
   rw[List.getElem?_append_left (by simpa using hi),List.getElem?_map] at h2
   cases e:vs[i]? with
   |none=>rw[e] at h2;cases h2
   |some a=>rw[e] at h2;cases h2;rfl
  obtain⟨u,hu,rv⟩:=r.get ha
  have hp:ps[i]? =some y:=by
   rw[←S.pre,List.getElem?_take_of_lt (by omega)];exact h1
  have N2:ps.Nodup:=by rw[←S.pre];exact S.nd.sublist (List.take_sublist _ _)
  refine⟨u,rv,?_⟩
  rcases S.par y (List.mem_of_getElem? hp) with k|k
  ·exact .inl ⟨k,lA N2 hp hu k⟩
  ·obtain⟨c,e⟩:=ow (n:=s.heap.objs.size+1) k
   refine .inr ⟨.inl k,c,e,?_⟩
   have q:=x.cell y c e
   rw[lB N2 hp hu (by show scope.names.lookup y≠_;rw[k];decide)] at q
   exact q
 ·exact e0.bz.fresh (Nat.le_of_lt (x.above y c (PySem.mem_of_lookup h)))
 ·unfold start
  show _=N.length
  rw[List.length_append,List.length_map,List.length_replicate]
  omega
theorem fn_of{CX:uv}{P:Program}{w:World}{K:PySem.W.Frag}{mg:Str→Option Value}{base:Heap}{k:Nat}{f:Addr}{name qual:Str}{params:Arguments}{body:List Stmt}{scope:Scope}{dV kV doc pm bb ct oc:Value}{an od:Option Addr}
  {kU:Array (Option Value)} {N ps:List Str} {sp:Sp} (lk:K.lookup f=some ⟨oc,od, .func (PySem.W.fnOf name qual params body scope dV kV doc pm an bb ct),kU⟩) (jY:PySem.W.codeIn K bb qual=true) (S:ax N ps scope)
  (len:∀vs H Q E,sp vs H Q E→vs.length=ps.length)
  (cN:∀(A:Around) (outer:List Env) (s:Shared) (H:Hp) (vs:List V) (Q:VK) (E:XK),bW k (A.deeper (envOfC qual scope s.heap.objs.size f bb))→sp vs H Q E→
   ∃t,iR (fF CX P w K mg base N qual scope f bb A outer s H E) body t∧t { nx:=fun _ H'=>Q .bR H',rt:=Q } (start N vs) H):
  dn P w K mg base CX (k+1) f (PySem.W.fnOf name qual params body scope dV kV doc pm an bb ct) ps sp:=by
 refine⟨len,fun A outer s H args us vs Q E hr e0 hb r uw=>?_⟩
 have hl:=len _ _ _ _ uw
 have KX:K.In s.heap:=e0.mod.AW.keeps fun b o e=>(e0.bs b o e).1
 have lim:s.heap.NoLimit:=e0.mod.nolimit.keeps fun b o e=>(e0.bs b o e).1
 have D0:∀y∈ps.zip us,scope.names.lookup y.1=some .local∨(scope.names.lookup y.1=some .cell∧((cellsFrom (s.heap.objs.size+1) scope.names []).lookup y.1).isSome=true):=fun⟨n,v⟩ hy=>by
  rcases S.par n (List.of_mem_zip hy).1 with q|q
  ·exact .inl q
  ·exact .inr ⟨q,PySem.W.cellsFrom_some _ _ _ (.inl q)⟩
 refine codeAny_call_function hr.depth (KX _ _ lk) rfl S.co S.gen rfl (PySem.W.codeRec_of KX jY) (hb _ _ _ _ ?_)
 refine wpAny_newFunctionEnv_cells S.kind D0 fun env he s1 x=>?_
 subst he
 refine⟨lim.keeps x.toInCall.keep,codeAny_func ?_⟩
 obtain⟨t,ht,hq⟩:=cN A outer s H vs Q E (hr.deeper _) uw
 have I:Inv (fF CX P w K mg base N qual scope f bb A outer s H E) [] (start N vs) H s1:=sX S hr.hd e0 hl r x
 refine wpAny_mono (ht [] s1 (start N vs) H _ I hq) (fun fl s' hs=>?_) fun e s' hs=>hs
 have fin:∀{σ':St} {H':Hp} {v:V} {u:Value},Inv (fF CX P w K mg base N qual scope f bb A outer s H E) [] σ' H' s'→RelV v u→Q v H'→CE outer P w H s Q u s':=
  fun {σ' H' v u} J rv q=>⟨v,H',J.os,J.bare,J.base,J.bz,rv,q⟩
 cases fl with
 |ret u=>
  obtain⟨v,σ',H',J,rv,q⟩:=hs
  exact fin J rv q
 |next=>
  obtain⟨σ',H',J,q⟩:=hs
  exact fin (v:=V.bR) (u:=Value.none) J rfl q
 |brk=>
  obtain⟨_,_,_,q⟩:=hs
  exact False.elim q
 |cont=>
  obtain⟨_,_,_,q⟩:=hs
  exact False.elim q
end L2
namespace L2
open PySem PySem.Spec PyProof.Rows
section
variable {X:Cx}{x:Str}{p pos:Pos}{e:Expr}{es:List Expr}{t:TA}{id T:String}{r:List V→Hp→VK→Prop}
def N3(r:List V→Hp→VK→Prop)(t:TA):TE:=fun σ H Q=>t σ H fun vs H1=>r vs H1 Q
theorem aS(hc:fO X (.builtin id) r)(hg:Gl X x)(hm:X.mg x=none)(hv:bootBuiltins x=some (.builtin id))(ha:PA X (e::es) t)(hn:x≠"__name__" :=by decide)(u3:(x==("__debug__" :Str))=false:=by decide)
  (he:starEach (e::es) X.env=(false,eval e X.env)::starEach es X.env:=by rfl) (lu:(backTo pos (starEach es X.env)).any (·.1)=false:=by rfl):PE X (.Call (.Name x p) (e::es) [] pos) (N3 r t):=by
 intro pins s σ H Q I h
 refine wpAny_Call_Name_kw (mr I hg hm hv ?_ hn u3)
 exact PyProof.Rows.callWith_builtin1 (bP (ha pos pins s σ H _ I h) fun us s1 ⟨vs,H1,I1,r1,q1⟩=>hc pins s1 σ H1 vs us Q I1 r1 q1) he lu
theorem cW(hc:fO X (.type T) r)(hg:Gl X x)(hm:X.mg x=none)(hv:bootBuiltins x=some (.type T))(ha:PA X (e::es) t)(hn:x≠"__name__" :=by decide)(u3:(x==("__debug__" :Str))=false:=by decide)
  (he:starEach (e::es) X.env=(false,eval e X.env)::starEach es X.env:=by rfl) (lu:(backTo pos (starEach es X.env)).any (·.1)=false:=by rfl):PE X (.Call (.Name x p) (e::es) [] pos) (N3 r t):=by
 intro pins s σ H Q I h
 refine wpAny_Call_Name_kw (mr I hg hm hv ?_ hn u3)
 exact PyProof.Rows.callWith_type1 (bP (ha pos pins s σ H _ I h) fun us s1 ⟨vs,H1,I1,r1,q1⟩=>hc pins s1 σ H1 vs us Q I1 r1 q1) he lu
end
end L2
namespace L2
open PySem PySem.Spec PyProof.Rows
section
variable {κ:Type}[DecidableEq κ]
end
section
variable {P:Program}{w:World}{H:Hp}{h:Heap}{a:Addr}
end
section
variable {X:Cx}{pins:List (Addr×Obj)}{σ:St}{H:Hp}{s:Shared}{a:Addr}{y v:V}{u r:Value}{o:Option V}{A:Around}{E:Value→Shared→Prop}
end
section
variable {X:Cx}{pins:List (Addr×Obj)}{σ:St}{H:Hp}{s:Shared}{a:Addr}{eB:List (Key×V)}{k:Key}{u:Value}{A:Around}{E:Value→Shared→Prop}
end
section
variable {X:Cx}{o i e value:Expr}{pos pos' DU:Pos}{td ty tv:TE}
end
section
variable {X:Cx}{pos:Pos}
end
section
variable {X:Cx}{pins:List (Addr×Obj)}{σ:St}{H:Hp}{s:Shared}{a:Addr}{y d:V}{u r:Value}{o:Option V}{A:Around}{E:Value→Shared→Prop}
end
section
variable {X:Cx}{o e f:Expr}{apos js:Pos}{td ty tx:TE}
end
section
variable {X:Cx}{pins:List (Addr×Obj)}{σ:St}{H:Hp}{s:Shared}{a:Addr}{eB:List (Key×V)}{A:Around}{E:Value→Shared→Prop}
end
section
variable {X:Cx}{pins:List (Addr×Obj)}{σ:St}{H:Hp}{s:Shared}{a:Addr}{y:V}{u:Value}{A:Around}{E:Value→Shared→Prop}
end
end L2
namespace HT
open PySem PyProof.Rows
section
open PySem.SeqAt
open PySem.AutoSeq1 (wpAny_loadPart')
open PySem.MeetsSeq PySem.MeetsSeq2 PySem.MeetsSeq3
end
section
variable {prog:Program}{w:World}{A:Around}{E:Value→Shared→Prop}{s:Shared}
def oy(n d:Nat):Option Int→Nat
 |none=>d
 |some v=>if v<0 then (v+(n:Int)).toNat else min v.toNat n
theorem u5(n d:Nat):oy n d none=d:=rfl
theorem mB(n d k:Nat):oy n d (some (k:Int))=min k n:=by
 show (if (k:Int) <0 then ((k:Int)+(n:Int)).toNat else min (k:Int).toNat n)=min k n
 rw[if_neg (by omega),Int.toNat_natCast]
end
end HT
namespace L2
open PySem PySem.Spec PyProof.Rows
abbrev TO:=St→Hp→(Option Int→Hp→Prop)→Prop
def PO(X:Cx)(e:Option Expr)(t:TO):Prop:=
 ∀(pins:List (Addr×Obj)) (s:Shared) (σ:St) (H:Hp) (Q:Option Int→Hp→Prop),Inv X pins σ H s→t σ H Q→
  wpAny (model X.prog X.w) X.A (evalPart e X.env) (fun u s'=>∃o H',Inv X pins σ H' s'∧IsPart u o∧Q o H') X.xe s
def x9:TO:=fun _ H Q=>Q none H
def D4(t:TE):TO:=fun σ H Q=>t σ H fun x H1=>∃i,x= .int i∧Q (some i) H1
section
variable {X:Cx}{e:Expr}{te:TE}{lo hi:Option Expr}{tl th:TO}{pos p2:Pos}
theorem d5:PO X none x9:=by
 intro pins s σ H Q I h
 rw[evalPart_none]
 exact wpAny_pure ⟨none,H,I, .none,h⟩
theorem bQ(h:PE X e te):PO X (some e) (D4 te):=by
 intro pins s σ H Q I hw
 rw[evalPart_some]
 refine bP (h pins s σ H _ I hw) fun u s1 ⟨x,H1,I1,r1,q1⟩=>?_
 obtain⟨i,rfl,q⟩:=q1
 obtain⟨t,rfl⟩:=r1
 exact⟨some i,H1,I1, .int i t,q⟩
def Jj(X:Cx)(r:V→Option Int→Option Int→Hp→VK→Prop):Prop:=
 ∀(pins:List (Addr×Obj)) (s:Shared) (σ:St) (H:Hp) (x:V) (v vl vu:Value) (lo hi:Option Int) (sl:Addr) (Q:VK),Inv X pins σ H s→RelV x v→s.heap.IsSliceOf sl vl vu .none→IsPart vl lo→IsPart vu hi→r x lo hi H Q→
  ∃T id,typeLookup (.type T) "__getitem__" =pure (some (.builtin id))∧s.TypeIs v T∧wpAny (model X.prog X.w) X.A (getItem v (.ref sl)) (EP X pins σ Q) X.xe s
def Pr(r:V→Option Int→Option Int→Hp→VK→Prop)(te:TE)(tl th:TO):TE:=fun σ H Q=>te σ H fun x H1=>tl σ H1 fun l H2=>th σ H2 fun u H3=>r x l u H3 Q
theorem bX{r:V→Option Int→Option Int→Hp→VK→Prop}(hr:Jj X r)(he:PE X e te)(hl:PO X lo tl)(hu:PO X hi th):PE X (.Subscript e (.Slice lo hi none p2) pos) (Pr r te tl th):=by
 intro pins s σ H Q I h
 refine Subscript_ (bP (he pins s σ H _ I h) fun v s1 ⟨x,H1,I1,r1,q1⟩=>?_)
 refine wpAny_Slice (bP (hl pins s1 σ H1 _ I1 q1) fun vl s2 ⟨l,H2,I2,pl,q2⟩=>bP (hu pins s2 σ H2 _ I2 q2) fun vu s3 ⟨u,H3,I3,pu,q3⟩=>?_)
 rw[evalPart_none]
 refine wpAny_pure ?_
 have I4:Inv X pins σ H3 { s3 with heap:=s3.heap.push { cls:= .type "slice",data:= .fields #[vl,vu, .none] } }:=I3.kept (t':=s3.toks) fun b ob q=>Heap.get?_push_of_some _ q
 obtain⟨T,id,hT,ht,hg⟩:=hr pins { s3 with heap:=s3.heap.push { cls:= .type "slice",data:= .fields #[vl,vu, .none] } } σ H3 x v vl vu l u s3.heap.objs.size Q I4 r1 (Heap.IsSliceOf.new ..) pl pu q3
 show wpAny (model X.prog X.w) X.A (subscriptTail e (.Slice lo hi none p2) v (.ref s3.heap.objs.size)) (EP X pins σ Q) X.xe { s3 with heap:=s3.heap.push { cls:= .type "slice",data:= .fields #[vl,vu, .none] } }
 exact tail_any (ops:=[.ref s3.heap.objs.size,v]) ht hT hg (by with_unfolding_all rfl)
def kW(xs:List V)(lo hi:Option Int):List V:=(xs.drop (HT.oy xs.length 0 lo)).take (HT.oy xs.length xs.length hi - HT.oy xs.length 0 lo)
theorem oz(xs:List V)(lo hi:Option Int):(kW xs lo hi).length≤xs.length:=by
 unfold kW
 rw[List.length_take,List.length_drop]
 omega
end
end L2
namespace L2
open PySem PySem.Spec PyProof.Rows
def xM(n:Nat)(i:Int):Option Nat:=if 0≤i then (if i<n then some i.toNat else none) else if -(n:Int)≤i then some (i+n).toNat else none
def sY{α:Type}(xs:List α)(i:Int):Option α:=(xM xs.length i).bind fun j=>xs[j]?
theorem x'{n:Nat}{i:Int}{j:Nat}(h:xM n i=some j):seqIndex? i n=some j∧j<n∧ -(n:Int)≤i∧i<n:=by
 unfold xM at h
 by_cases h0:0≤i
 ·rw[if_pos h0] at h
  by_cases h1:i<n
  ·rw[if_pos h1] at h
   have e:i.toNat=j:=Option.some.inj h
   exact⟨by rw[seqIndex_of h0 h1,e],by omega,by omega,h1⟩
  ·rw[if_neg h1] at h;cases h
 ·rw[if_neg h0] at h
  by_cases h1: -(n:Int)≤i
  ·rw[if_pos h1] at h
   have e:(i+n).toNat=j:=Option.some.inj h
   exact⟨by rw[seqIndex_neg (by omega) h1,e],by omega,h1,by omega⟩
  ·rw[if_neg h1] at h;cases h
theorem mC{α:Type}{xs:List α}{i:Int}{v:α}(h:sY xs i=some v):∃j,seqIndex? i xs.length=some j∧xs[j]? =some v∧j<xs.length∧ -(xs.length:Int)≤i∧i<xs.length:=by
 unfold sY at h
 cases e:xM xs.length i with
 |none=>rw[e] at h;cases h
 |some j=>
  rw[e] at h
  obtain⟨h1,h2,h3,h4⟩:=x' e
  exact⟨j,h1,h,h2,h3,h4⟩
theorem rm{α:Type}{xs:List α}{j:Nat}{v:α}(h:xs[j]? =some v):sY xs (j:Int)=some v:=by
 have hj:j<xs.length:=(List.getElem?_eq_some_iff.mp h).1
 have e:xM xs.length (j:Int)=some j:=by
  unfold xM
  rw[if_pos (by omega),if_pos (by omega)];simp
 unfold sY;rw[e];exact h
theorem dS{α:Type}(xs:List α)(v:α):sY (xs++[v]) (-1)=some v:=by
 have hl:(xs++[v]).length=xs.length+1:=by simp
 have e:xM (xs++[v]).length (-1)=some xs.length:=by
  unfold xM
  rw[hl,if_neg (by decide),if_pos (by omega)]
  congr 1
  omega
 unfold sY
 rw[e]
 show (xs++[v])[xs.length]? =some v
 simp
def yb(b:Expr):Prop:=∀o i,subscripted b false o i=operate [o,i] (getItem o i)
def HQ(X:Cx)(r:R2):Prop:=
 ∀(value slice:Expr) (pins:List (Addr×Obj)) (s:Shared) (σ:St) (H:Hp) (x y:V) (v u:Value) (Q:VK),Inv X pins σ H s→RelV x v→RelV y u→r x y H Q→
  subscripted slice false v u=operate [v,u] (getItem v u)→wpAny (model X.prog X.w) X.A (subscriptTail value slice v u) (EP X pins σ Q) X.xe s
def Be(X:Cx)(id:String)(r:V→List V→Hp→VK→Prop):Prop:=
 ∀(pins:List (Addr×Obj)) (s:Shared) (σ:St) (H:Hp) (x:V) (xs:List V) (v:Value) (us:List Value) (Q:VK),Inv X pins σ H s→RelV x v→Vals xs us→r x xs H Q→
  wpAny (model X.prog X.w) X.A (call (.builtin id) (v::us)) (EP X pins σ Q) X.xe s
section
variable {X:Cx}{a b:Expr}{ta tb:TE}{pos:Pos}
theorem bh{r:R2}(hr:HQ X r)(ha:PE X a ta)(hb:PE X b tb)(hs:yb b):PE X (.Subscript a b pos) (xK r ta tb):=by
 intro pins s σ H Q I h
 exact Subscript_ (A7 ha hb I h fun v u s2 x y H2 I2 rx ry q=>hr a b pins s2 σ H2 x y v u Q I2 rx ry q (hs _ _))
def Jk(K:PySem.W.Frag):R2:=fun x y H Q=>∃p xs i v,x= .ref p∧y= .int i∧bC K H p xs∧sY xs i=some v∧Q v H
def Jl(K:PySem.W.Frag):R2:=fun x y H Q=>∃p xs i v,x= .ref p∧y= .int i∧g8 K H p xs∧sY xs i=some v∧Q v H
def Jm:R2:=fun x y H Q=>∃z i c,x= .str z∧y= .int i∧z.length≤sizeLine∧sY z.cps.toList i=some c∧Q (.str ⟨#[c]⟩) H
theorem bJ:HQ X (Jk X.K):=by
 intro value slice pins s σ H x y v u Q I rx ry h hs
 obtain⟨p,xs,i,z,rfl,rfl,hq,he,q⟩:=h
 cases rx
 obtain⟨t,rfl⟩:=ry
 obtain⟨its,r,pl,hz⟩:=I.list hq
 obtain⟨j,h1,h2,h3,h4,h5⟩:=mC he
 obtain⟨w,ew,yc⟩:=r.get h2
 have hl:=r.length
 have hn:=gT
 have fin:EP X pins σ Q w s:=⟨z,H,I,yc,q⟩
 by_cases h0:0≤i
 ·have hj:i.toNat=j:=by
   rw[seqIndex_of h0 h5] at h1
   exact Option.some.inj h1
  exact item_listR pl.isList h0 (by omega) (by rw[hj];simpa using ew) fin hs
 ·have hj:(i+(its.toArray.size:Int)).toNat=j:=by
   rw[seqIndex_neg (by omega) h4] at h1
   rw[List.size_toArray,←hl]
   exact Option.some.inj h1
  exact subscriptTail_builtinR (x:=w) pl.isList.typeIs slot_list_getitem.lookup
   (wpAny_getItem_list_neg (Q:=fun r s'=>r=w∧EP X pins σ Q r s') pl.isList (by omega) (by rw[List.size_toArray]<;>omega) (by omega) (by rw[hj];simpa using ew) ⟨rfl,fin⟩) hs
theorem b6:HQ X (Jl X.K):=by
 intro value slice pins s σ H x y v u Q I rx ry h hs
 obtain⟨p,xs,i,z,rfl,rfl,hq,he,q⟩:=h
 cases rx
 obtain⟨t,rfl⟩:=ry
 obtain⟨its,r,pl,hz⟩:=I.tuple hq
 obtain⟨j,h1,h2,h3,h4,h5⟩:=mC he
 obtain⟨w,ew,yc⟩:=r.get h2
 have hl:=r.length
 have hn:=gT
 have fin:EP X pins σ Q w s:=⟨z,H,I,yc,q⟩
 exact subscriptTail_builtinR (x:=w) pl.typeIs slot_tuple_getitem.lookup
  (getItem_tuple (j:=j) (Q:=fun r s'=>r=w∧EP X pins σ Q r s') pl (by omega) (by omega) (by rw[List.size_toArray,←hl];exact h1) (by simpa using ew) ⟨rfl,fin⟩) hs
theorem j5:HQ X Jm:=by
 intro value slice pins s σ H x y v u Q I rx ry h hs
 obtain⟨z,i,c,rfl,rfl,hz,he,q⟩:=h
 obtain⟨t,rfl⟩:=rx
 obtain⟨t',rfl⟩:=ry
 obtain⟨j,h1,h2,h3,h4,h5⟩:=mC he
 have hl:z.cps.toList.length=z.length:=by simp [Str.length]
 rw[hl] at h1 h4 h5
 have hn:=gT
 exact tail_any (typeIs_str s z t) slot_str_getitem.lookup (getItem_str (c:=c) (by
  have e1:decide (i< -(2^63 :Int))=false:=decide_eq_false (by omega)
  have e2:decide (i≥2^63)=false:=decide_eq_false (by omega)
  rw[e1,e2,Bool.or_false]) (by rw[h1];simpa using h2) ⟨.str ⟨#[c]⟩,H,I.tok _,⟨_,rfl⟩,q⟩) hs
theorem slice_bounds(lo hi:Option Int)(n:Nat):(sliceBounds lo hi none n).1=((HT.oy n 0 lo:Nat):Int)∧(sliceBounds lo hi none n).2.1=((HT.oy n n hi:Nat):Int)∧(sliceBounds lo hi none n).2.2=1:=by
 refine⟨?_,?_,rfl⟩
 ·cases lo with
  |none=>simp [sliceBounds,HT.oy]
  |some i=>
   simp only [sliceBounds,HT.oy,Option.getD_none,show (1 :Int) >0 by decide,if_true]
   by_cases h:i<0
   ·simp only [h,if_true]<;>omega
   ·simp only [h,if_false]<;>omega
 ·cases hi with
  |none=>simp [sliceBounds,HT.oy]
  |some i=>
   simp only [sliceBounds,HT.oy,Option.getD_none,show (1 :Int) >0 by decide,if_true]
   by_cases h:i<0
   ·simp only [h,if_true]<;>omega
   ·simp only [h,if_false]<;>omega
theorem kX(its:List Value)(lo hi:Option Int):slicePick its.toArray lo hi none=((its.drop (HT.oy its.length 0 lo)).take (HT.oy its.length its.length hi - HT.oy its.length 0 lo)).toArray:=by
 obtain⟨h1,h2,h3⟩:=slice_bounds lo hi its.toArray.size
 unfold slicePick
 rw[h1,h2,h3]
 simp only [sliceRange_one,pick_run,List.size_toArray]<;>rfl
def Jn(K:PySem.W.Frag):V→Option Int→Option Int→Hp→VK→Prop:=fun x lo hi H Q=>∃a xs,x= .ref a∧bC K H a xs∧∀p,H p=none→Q (.ref p) (upd H p (.lst (kW xs lo hi)))
theorem mD:Jj X (Jn X.K):=by
 intro pins s σ H x v vl vu lo hi sl Q I rx hs pl pu h
 obtain⟨a,xs,rfl,hx,q⟩:=h
 cases rx
 obtain⟨its,r,ht,hz⟩:=I.list hx
 have hlen:=r.length
 refine⟨"list",_,slot_list_getitem.lookup,ht.isList.typeIs,?_⟩
 refine wpAny_getItem_list_slice ht.isList hs pl pu .none (by simp) ?_ (by rw[List.size_toArray]<;>omega)
 rw[kX,←hlen]
 refine⟨.ref s.heap.objs.size,_,I.laid (t':=s.toks) (o:= .lst (kW xs lo hi)) (fun b ob q=>Heap.get?_push_of_some _ q) (Nat.le_refl _) ?_,rfl,q _ (I.bz.fresh (Nat.le_refl _))⟩
 exact⟨Nat.le_trans (oz xs lo hi) hz,_,0,(r.drop (HT.oy xs.length 0 lo)).take (HT.oy xs.length xs.length hi - HT.oy xs.length 0 lo),Heap.get?_push_size _ rfl⟩
def gO:V→Bool
 | .bR=>true
 | .bl _=>true
 | .int _=>true
 | .str _=>true
 |_=>false
def u6:V→V→Bool
 | .bR, .bR=>true
 | .bl a, .bl b=>a==b
 | .bl a, .int b=>(if a then 1 else 0)==b
 | .int a, .bl b=>a==(if b then 1 else 0)
 | .int a, .int b=>a==b
 | .str a, .str b=>a==b
 |_,_=>false
theorem Bf{A:Around}{s:Shared}{y x:V}{u v:Value}(ry:RelV y u)(rx:RelV x v)(fy:gO y=true)(fx:gO x=true):SeqAt.EqAt A s u v (u6 y x):=by
 cases y with
 |bR=>
  cases ry
  cases x with
  |bR=>cases rx;exact SeqAt.EqAt.same _
  |bl b=>cases rx;exact SeqAt.EqAt.none_bool b
  |int b=>obtain⟨t,rfl⟩:=rx;exact SeqAt.EqAt.none_int b t
  |str b=>obtain⟨t,rfl⟩:=rx;exact SeqAt.EqAt.none_str b t
  |_=>exact absurd (show false=true from fx) Bool.false_ne_true
 |bl a=>
  cases ry
  cases x with
  |bR=>cases rx;exact SeqAt.EqAt.bool_none a
  |bl b=>cases rx;exact SeqAt.EqAt.bool_bool a b
  |int b=>obtain⟨t,rfl⟩:=rx;exact SeqAt.EqAt.bool_int a b t
  |str b=>obtain⟨t,rfl⟩:=rx;exact SeqAt.EqAt.bool_str a b t
  |_=>exact absurd (show false=true from fx) Bool.false_ne_true
 |int a=>
  obtain⟨t',rfl⟩:=ry
  cases x with
  |bR=>cases rx;exact SeqAt.EqAt.int_none a t'
  |bl b=>cases rx;exact SeqAt.EqAt.int_bool a t' b
  |int b=>obtain⟨t,rfl⟩:=rx;exact SeqAt.EqAt.int_int a t' b t
  |str b=>obtain⟨t,rfl⟩:=rx;exact SeqAt.EqAt.int_str a t' b t
  |_=>exact absurd (show false=true from fx) Bool.false_ne_true
 |str a=>
  obtain⟨t',rfl⟩:=ry
  cases x with
  |bR=>cases rx;exact SeqAt.EqAt.str_none a t'
  |bl b=>cases rx;exact SeqAt.EqAt.str_bool a t' b
  |int b=>obtain⟨t,rfl⟩:=rx;exact SeqAt.EqAt.str_int a t' b t
  |str b=>obtain⟨t,rfl⟩:=rx;exact SeqAt.EqAt.str_str a t' b t
  |_=>exact absurd (show false=true from fx) Bool.false_ne_true
 |_=>exact absurd (show false=true from fy) Bool.false_ne_true
def u7(x:V)(u:Value):Bool:=match u with
 | .none=>u6 .bR x
 | .bool b=>u6 (.bl b) x
 | .int i _=>u6 (.int i) x
 | .str z _=>u6 (.str z) x
 |_=>false
theorem qb{x y:V}{u:Value}(r:RelV y u)(f:gO y=true):u7 x u=u6 y x:=by
 cases y with
 |bR=>cases r;rfl
 |bl b=>cases r;rfl
 |int i=>obtain⟨t,rfl⟩:=r;rfl
 |str z=>obtain⟨t,rfl⟩:=r;rfl
 |_=>exact absurd (show false=true from f) Bool.false_ne_true
theorem mE{x:V}:∀{xs:List V} {us:List Value},Vals xs us→xs.all gO=true→us.any (u7 x)=xs.any fun y=>u6 y x
 |_,_, .nil,_=>rfl
 |y::xs,u::us, .cons r t,f=>by
  rw[List.all_cons,Bool.and_eq_true] at f
  rw[List.any_cons,List.any_cons,qb r f.1,mE t f.2]
theorem hZ{A:Around}{s:Shared}{x:V}{v:Value}(rx:RelV x v)(fx:gO x=true):∀{xs:List V} {us:List Value},Vals xs us→xs.all gO=true→∀u∈us,SeqAt.EqAt A s u v (u7 x u)
 |_,_, .nil,_=>fun u hu=>by cases hu
 |y::xs,u::us, .cons r t,f=>fun u' hu=>by
  rw[List.all_cons,Bool.and_eq_true] at f
  rcases List.mem_cons.mp hu with rfl|hu
  ·rw[qb r f.1];exact Bf r rx f.1 fx
  ·exact hZ rx fx t f.2 u' hu
def HR(x:V)(xs:List V):Bool:=xs.any fun y=>u6 y x
def Pt(K:PySem.W.Frag)(neg:Bool):R2:=fun x y H Q=>∃p xs,y= .ref p∧(bC K H p xs∨g8 K H p xs)∧gO x=true∧xs.all gO=true∧Q (.bl (if neg then !HR x xs else HR x xs)) H
theorem sZ:iP X (compareOp .In) (Pt X.K false):=by
 intro pins s σ H x y v u Q I rx ry h
 obtain⟨p,xs,rfl,hq,fx,fs,q⟩:=h
 cases ry
 rcases hq with hq|hq
 ·obtain⟨its,r,pl,hz⟩:=I.list hq
  refine SeqAt.in_listAt (u7 x) pl.isList (fun w hw=>hZ rx fx r fs w (by simpa using hw)) ⟨.bl _,H,I,rfl,?_⟩
  rw[show its.toArray.any (u7 x)=its.any (u7 x) by simp,mE r fs]
  exact q
 ·obtain⟨its,r,pl,hz⟩:=I.tuple hq
  refine SeqAt.in_tupleAt (u7 x) pl (fun w hw=>hZ rx fx r fs w (by simpa using hw)) ⟨.bl _,H,I,rfl,?_⟩
  rw[show its.toArray.any (u7 x)=its.any (u7 x) by simp,mE r fs]
  exact q
theorem cg:fO X (.builtin "len") (fun xs H Q=>∃p ys,xs=[.ref p]∧(bC X.K H p ys∨g8 X.K H p ys)∧Q (.int ys.length) H):=by
 intro pins s σ H xs us Q I r h
 obtain⟨p,ys,rfl,hq,q⟩:=h
 obtain⟨u,rfl,rx⟩:=vals1 r
 cases rx
 have hn:=gT
 rcases hq with hq|hq
 ·obtain⟨its,r',pl,hz⟩:=I.list hq
  have hlen:=r'.length
  exact Calls.call_len_list pl.isList (by simp only [List.size_toArray]<;>omega) ⟨.int ys.length,H,I.tok _,⟨s.toks+1,by rw[List.size_toArray,hlen]⟩,q⟩
 ·obtain⟨its,r',pl,hz⟩:=I.tuple hq
  have hlen:=r'.length
  exact len_tuple pl (by simp only [List.size_toArray]<;>omega) ⟨.int ys.length,H,I.tok _,⟨s.toks+1,by rw[List.size_toArray,hlen]⟩,q⟩
theorem bA:fO X (.builtin "len") (fun xs H Q=>∃z,xs=[.str z]∧z.length≤sizeLine∧Q (.int z.length) H):=by
 intro pins s σ H xs us Q I r h
 obtain⟨z,rfl,hz,q⟩:=h
 obtain⟨u,rfl,t,rfl⟩:=vals1 r
 have hn:=gT
 exact len_str (by omega) ⟨.int z.length,H,I.tok _,⟨_,rfl⟩,q⟩
theorem e7:fO X (.type "list") (fun xs H Q=>∃p ys,xs=[.ref p]∧(bC X.K H p ys∨g8 X.K H p ys)∧∀l,H l=none→Q (.ref l) (upd H l (.lst ys))):=by
 intro pins s σ H xs us Q I r h
 obtain⟨p,ys,rfl,hq,q⟩:=h
 obtain⟨u,rfl,rx⟩:=vals1 r
 cases rx
 have fin:∀(its:List Value),Vals ys its→ys.length≤sizeLine→∀(h':Heap) (c':Nat),(∀b o',s.heap.get? b=some o'→h'.get? b=some o')→
   h'.get? s.heap.objs.size=some { cls:= .type "list",dict:=none,data:= .seq its.toArray c',slots:=#[] }→EP X pins σ Q (.ref s.heap.objs.size) { s with heap:=h' }:=fun its r' hz h' c' kp e=>
  ⟨.ref s.heap.objs.size,_,I.laid (t':=s.toks) kp (Nat.le_refl _) (show cp X.prog X.w _ h' _ (.lst ys) from ⟨hz,its,c',r',e⟩),rfl,q _ (I.bz.fresh (Nat.le_refl _))⟩
 rcases hq with hq|hq
 ·obtain⟨its,r',pl,hz⟩:=I.list hq
  have hlen:=r'.length
  obtain⟨o,ho,hc,n,hd⟩:=pl.isList
  exact call_list_seq p (.inl rfl) ho hc hd (fun h' c' kp e=>fin its r' hz h' c' kp e) (by simp only [List.size_toArray]<;>omega)
 ·obtain⟨its,r',pl,hz⟩:=I.tuple hq
  have hlen:=r'.length
  obtain⟨o,ho,hc,n,hd⟩:=pl
  exact call_list_seq p (.inr rfl) ho hc hd (fun h' c' kp e=>fin its r' hz h' c' kp e) (by simp only [List.size_toArray]<;>omega)
def Jo(K:PySem.W.Frag)(T:String)(x:V)(H:Hp):Prop:=match x with
 | .str _=>T="str"
 | .int _=>T="int"
 | .ref p=>(T="list" ∧∃xs,bC K H p xs)∨(T="tuple" ∧∃o,K.lookup p=some o∧o.cls= .type "tuple" ∧o.dict=none)∨
   (T="dict" ∧((∃eB,H p=some (.dK eB))∨∃eB,H p=some (.dT eB)))∨(T="set" ∧∃S n,H p=some (.set S n))
 |_=>False
theorem u9{pins:List (Addr×Obj)}{σ:St}{H:Hp}{s:Shared}{T:String}{x:V}{v:Value}(I:Inv X pins σ H s)(r:RelV x v)(ty:Jo X.K T x H):
  s.TypeIs v T∧∀a,v= .ref a→∃ob,s.heap.get? a=some ob∧ob.dict=none:=by
 cases x with
 |str z=>
  obtain⟨t,rfl⟩:=r
  cases (show T="str" from ty)
  exact⟨typeIs_str s z t,fun _ e=>nomatch e⟩
 |int i=>
  obtain⟨t,rfl⟩:=r
  cases (show T="int" from ty)
  exact⟨typeIs_int s i t,fun _ e=>nomatch e⟩
 |ref p=>
  cases r
  rcases ty with ⟨rfl,xs,hq⟩ | ⟨rfl,o,hk,hc,hd⟩ | ⟨rfl,hk⟩ | ⟨rfl,S,n,hk⟩
  ·obtain⟨its,_,pl,_⟩:=I.list hq
   refine⟨pl.isList.typeIs,fun a e=>?_⟩
   cases e
   obtain⟨o,n,e,c,hd,_⟩:=pl
   exact⟨o,e,hd⟩
  ·refine⟨⟨o,I.eQ p o hk,hc⟩,fun a e=>?_⟩
   cases e
   exact⟨o,I.eQ _ o hk,hd⟩
  ·have z:∃o,s.heap.get? p=some o∧o.ExactDict:=by
    rcases hk with ⟨eB,hk⟩ | ⟨eB,hk⟩
    ·obtain⟨_,_,_,_,o,_,_,e,ex,_⟩:=I.bz p _ hk
     exact⟨o,e,ex⟩
    ·obtain⟨_,_,_,_,o,_,_,e,ex,_⟩:=I.bz p _ hk
     exact⟨o,e,ex⟩
   obtain⟨o,e,ex⟩:=z
   refine⟨⟨o,e,ex.1⟩,fun a e2=>?_⟩
   cases e2
   exact⟨o,e,ex.2.1⟩
  ·obtain⟨o,_,_,_,e,ex,_⟩:=I.bz p _ hk
   refine⟨⟨o,e,ex.1⟩,fun a e2=>?_⟩
   cases e2
   exact⟨o,e,ex.2.1⟩
 |_=>exact False.elim ty
def Jp(K:PySem.W.Frag)(T:String)(r:V→List V→Hp→VK→Prop)(to:TE):TE:=fun σ H Q=>to σ H fun x H1=>Jo K T x H1∧r x [] H1 Q
def Pu(K:PySem.W.Frag)(T:String)(r:V→List V→Hp→VK→Prop)(to:TE)(t:TA):TE:=fun σ H Q=>to σ H fun x H1=>Jo K T x H1∧t σ H1 fun xs H2=>r x xs H2 Q
variable {o e:Expr}{es:List Expr}{to:TE}{t:TA}{name:Str}{apos js:Pos}{T id:String}{r:V→List V→Hp→VK→Prop}
theorem va(pa:PlainAttrs T)(slot:Slot T name id)(Jq:typeOf (.builtin id)=pure (.type "method_descriptor"))(hm:Be X id r)(ho:PE X o to)
  (vb:attributeBase o name X.env (eval o X.env)=eval o X.env:=by rfl) (vc:(apos.endLine==js.line)=true:=by rfl):PE X (.Call (.Attribute o name apos) [] [] js) (Jp X.K T r to):=by
 intro pins s σ H Q I h
 refine wpAny_Call_method0_late vb vc (bP (ho pins s σ H _ I h) fun v s1 ⟨x,H1,I1,r1,ty,q1⟩=>?_)
 obtain⟨h1,h2⟩:=u9 I1 r1 ty
 exact⟨T,id,pa,slot,Jq,h1,h2,Calls.callWith_builtin rfl (PySem.evalArgs_none (hm pins s1 σ H1 x [] v [] Q I1 r1 .nil q1))⟩
theorem cH(pa:PlainAttrs T)(slot:Slot T name id)(Jq:typeOf (.builtin id)=pure (.type "method_descriptor"))(hm:Be X id r)(ho:PE X o to)(ha:PA X (e::es) t)
  (vb:attributeBase o name X.env (eval o X.env)=eval o X.env:=by rfl)
  (Jr:((backTo js (starEach (e::es) X.env)).all (fun x=>!x.1)&&(backToKw js (keywordEach [] X.env)).all (fun x=>x.1.isSome)
   &&decide ((e::es).length+([]:List Keyword).length+(if ([]:List Keyword).isEmpty then 0 else 1) <30))=true:=by rfl)
  (vc:(apos.endLine==js.line)=true:=by rfl) (hs:starEach (e::es) X.env=(false,eval e X.env)::starEach es X.env:=by rfl) (Bg:(backTo js (starEach es X.env)).any (·.1)=false:=by rfl):
  PE X (.Call (.Attribute o name apos) (e::es) [] js) (Pu X.K T r to t):=by
 intro pins s σ H Q I h
 refine wpAny_Call_method_late vb Jr vc rfl (bP (ho pins s σ H _ I h) fun v s1 ⟨x,H1,I1,r1,ty,q1⟩=>?_)
 obtain⟨h1,h2⟩:=u9 I1 r1 ty
 refine⟨T,id,pa,slot,Jq,h1,h2,?_⟩
 have hA:=ha js pins s1 σ H1 _ I1 q1
 rw[hs] at hA ⊢
 refine Calls.callWith_builtin (by show (false||(backTo js (starEach es X.env)).any (·.1))=false;rw[Bg]<;>rfl) (Calls.evalArgs_plain ?_)
 exact bP hA fun us s2 ⟨vs,H2,I2,r2,q2⟩=>hm pins s2 σ H2 x vs v us Q I2 r1 r2 q2
end
end L2
namespace L2
open PySem PySem.Spec PyProof.Rows
def N4(X:Cx)(id:String)(r:V→List V→Hp→VK→Prop):Prop:=
 ∀(pins:List (Addr×Obj)) (s:Shared) (σ:St) (H:Hp) (x:V) (xs:List V) (v:Value) (us:List Value) (Q:VK),Inv X pins σ H s→RelV x v→Vals xs us→r x xs H Q→
  wpAny (model X.prog X.w) X.A (call (.builtin id) (v::us)) (EP X pins σ Q) X.xe s
theorem Vals.one:∀{x:V} {us:List Value},Vals [x] us→∃u,us=[u]∧RelV x u
 |_,_, .cons r .nil=>⟨_,rfl,r⟩
theorem Vals.zero:∀{us:List Value},Vals [] us→us=[]
 |_, .nil=>rfl
theorem Vals.dropLast{xs:List V}{us:List Value}(h:Vals xs us):Vals xs.dropLast us.dropLast:=by
 induction h with
 |nil=>exact .nil
 |cons r t ih=>
  cases t with
  |nil=>exact .nil
  |cons q t'=>exact .cons r ih
theorem qc{α:Type}(l:List α):l.eraseIdx (l.length - 1)=l.dropLast:=by
 induction l with
 |nil=>rfl
 |cons a r ih=>
  cases r with
  |nil=>rfl
  |cons b r=>
   have e:(a::b::r).length - 1=((b::r).length - 1)+1:=by
    have h1:(a::b::r).length=r.length+2:=rfl
    have h2:(b::r).length=r.length+1:=rfl
    omega
   rw[e,List.eraseIdx_cons_succ,ih]
   all_goals rfl
section
variable {X:Cx}{pins:List (Addr×Obj)}{σ:St}{H:Hp}{s:Shared}{l b:Addr}{xs ys zs:List V}
theorem Inv.D5{its its':List Value}{n:Nat}{f:Array Value→Array Value}{t':Nat}(I:Inv X pins σ H s)(hH:H l=some (.lst xs))
  (e:s.heap.get? l=some { cls:= .type "list",data:= .seq its.toArray n }) (hf:f its.toArray=its'.toArray) (hv:Vals ys its') (hz:ys.length≤sizeLine):
  Inv X pins σ (upd H l (.lst ys)) { s with heap:=s.heap.update l (Obj.mapSeq f),toks:=t' }:=by
 have q:=PySem.IsL.update e f
 rw[hf] at q
 refine I.write (x:=l) (e:=l) (by rw[hH];exact trivial) (.inl rfl) (fun b' u hb hu=>(Heap.get?_update_other s.heap (Obj.mapSeq f) (Ne.symm hb)).trans hu) ⟨_,q⟩ ?_
 exact⟨hz,its',_,hv,q⟩
theorem Inv.Js{its:List Value}{t':Nat}(I:Inv X pins σ H s)(hv:Vals ys its)(hz:ys.length≤sizeLine):
  Inv X pins σ (upd H s.heap.objs.size (.lst ys)) { s with heap:=s.heap.push { cls:= .type "list",data:= .seq its.toArray },toks:=t' }:=
 I.laid (fun _ _ q=>Heap.get?_push_of_some _ q) (Nat.le_refl _) ⟨hz,its,0,hv,Heap.get?_push_size _ rfl⟩
theorem Inv.fresh(I:Inv X pins σ H s):H s.heap.objs.size=none:=I.bz.fresh (Nat.le_refl _)
theorem Inv.D6(I:Inv X pins σ H s)(hH:H l=some (.lst xs)):xs.length≤sizeLine∧∃(its:List Value) (n:Nat),Vals xs its∧xs.length=its.length∧s.heap.get? l=some { cls:= .type "list",data:= .seq its.toArray n }:=by
 obtain⟨z,its,n,r,e⟩:=I.bz l _ hH
 exact⟨z,its,n,r,r.length,e⟩
end
section
variable {X:Cx}
def yd:V→List V→Hp→VK→Prop:=fun x vs H Q=>∃l xs y,x= .ref l∧vs=[y]∧H l=some (.lst xs)∧xs.length<sizeLine∧Q .bR (upd H l (.lst (xs++[y])))
theorem bT:N4 X "list.append" yd:=by
 intro pins s σ H x vs v us Q I rx rv h
 obtain⟨l,xs,y,rfl,rfl,hH,hz,q⟩:=h
 cases rx
 obtain⟨u,rfl,ru⟩:=rv.one
 obtain⟨z,its,n,r,hl,e⟩:=I.D6 hH
 refine call_meets F.slot_list_append ⟨_,e,rfl⟩ F.entry_list_append (F.args_list_append_2 _ _) (PySem.list_append l its.toArray n u (by rw[List.size_toArray];omega)) ⟨e,?_⟩
 refine⟨.bR,_,I.D5 (its':=its++[u]) hH e (by simp) (r.append (.cons ru .nil)) ?_,rfl,q⟩
 rw[List.length_append,List.length_singleton]
 omega
def Jt:V→List V→Hp→VK→Prop:=fun x vs H Q=>∃l xs y,x= .ref l∧vs=[]∧H l=some (.lst xs)∧xs[xs.length - 1]? =some y∧Q y (upd H l (.lst xs.dropLast))
theorem ve:N4 X "list.pop" Jt:=by
 intro pins s σ H x vs v us Q I rx rv h
 obtain⟨l,xs,y,rfl,rfl,hH,hy,q⟩:=h
 cases rx
 have Ju:=rv.zero
 subst Ju
 obtain⟨z,its,n,r,hl,e⟩:=I.D6 hH
 obtain⟨u,hu,ru⟩:=r.get hy
 have Jv:its.toArray[its.toArray.size - 1]? =some u:=by
  show its.toArray[its.length - 1]? =some u
  rw[←Array.getElem?_toList,←hl]
  exact hu
 refine call_meets F.slot_list_pop ⟨_,e,rfl⟩ F.entry_list_pop (F.args_list_pop_1 _) (MeetsSeq.list_pop_last l its.toArray n u Jv (by rw[List.size_toArray];omega)) ⟨e,?_⟩
 refine⟨y,_,I.D5 (its':=its.dropLast) hH e ?_ r.dropLast ?_,ru,q⟩
 ·show its.toArray.eraseIdxIfInBounds (its.toArray.size - 1)=its.dropLast.toArray
  rw[List.size_toArray,List.eraseIdxIfInBounds_toArray,qc]
 ·rw[List.length_dropLast]
  omega
end
section
variable {prog:Program}{w:World}{A:Around}{E:Value→Shared→Prop}{s:Shared}
end
section
variable {X:Cx}
end
end L2
namespace N5
open PySem PySem.W PySem.Calls PyProof.Rows
theorem jt{P:Params}{h:Heap}:∀(ns:List Int) (vs:List Value),WellAll P h vs (ns.map WData.int)→IntsAre vs ns:=by
 intro ns
 induction ns with
 |nil=>
  intro vs w
  rw[List.map_nil] at w
  cases w
  exact .nil
 |cons n ns ih=>
  intro vs w
  rw[List.map_cons] at w
  cases w with
  |cons a b=>
   cases a
   exact .cons _ _ (ih _ b)
theorem tf{l:OpenLaw}{n:Nat}(hn:l.most=some n){P:Params}{h:Heap}{args:List WData}{vals:List Value}
  (ye:l.row.toRowW.claim.pre args=true) (Dk:WellAll P h vals args):
  ∃a vs ns,vals=[Value.ref a]∧args=[WData.list (ns.map WData.int)]∧h.get? a=some { cls:= .type "list",data:= .seq vs.toArray }∧IntsAre vs ns∧ns.length≤n:=by
 have Dl:WShape.hasAll [] args [.list .int]=true:=(pre_splitW ye).1
 have hc:l.pre.holds [] { args:=args }=true:=(pre_splitW ye).2
 obtain⟨d,r,rfl,h1,h2⟩:=hasAllW_cons Dl
 obtain rfl:=hasAllW_nil h2
 obtain⟨xs,rfl,h3⟩:=hasW_list h1
 obtain⟨ns,rfl⟩:=items_int h3
 have hlen:ns.length≤n:=by
  unfold OpenLaw.pre at hc
  have h4:(WTm.not (.lt (.lit (.int (n:Int))) (.len (.arg 0)))).holds [] { args:=[.list (ns.map .int)] }=true:=by
   have h4:=(holds_andW hc).1
   rw[hn] at h4
   exact h4
  have h5:=condW_of h4 (w_not (w_lt w_lit (w_len_list (w_arg rfl))))
  rw[List.length_map] at h5
  refine Nat.le_of_not_lt fun q=>?_
  have q':(n:Int) < ((ns.length:Nat):Int):=by omega
  first
   | (rw[decide_eq_true q'] at h5;exact absurd h5 (by decide))
   | (simp at h5;omega)
 cases Dk with
 |cons w1 w2=>
  cases w2
  cases w1 with
  |list ho ti=>exact⟨_,_,ns,rfl,rfl,ho,jt ns _ ti,hlen⟩
theorem tj(l:OpenLaw)(args:List WData):l.row.toRowW.claim.post args (.bool true) args=true:=
 postW_of (r:=l.row.toRowW) (X:=(true==true))
  (show WShape.has [] (.bool true) .bool=true by first|rfl|decide|simp [WShape.has,WShape.arms,WShape.armsAll])
  (show (WTm.eq .res (.lit (.bool true))).value [] { args:=args,res:=some (.bool true),after:=args }=some (.bool (true==true)) from w_eq_bool (w_res rfl) w_lit) rfl
theorem oA{l:OpenLaw}{n:Nat}{q:Program}{loose:List Str}{XP:(Str→Option Value)→Heap→Prop}{YP:World→Heap→Prop}{d:DefRec}
  (hn:l.most=some n) (D7:d.params.defaults=[])
  (call:∀(w:World) (s₀ s₁:Shared) (mg mb:Str→Option Value) (fa:Addr) (o:Obj) (pm cd doc:Value) (a:Addr) (vs:List Value) (ns:List Int),
   Ground q loose [] XP w s₀ mg mb s₁.heap→YP w s₁.heap→
   s₁.heap.get? fa=some o→o.data= .func (docDef d.name d.params d.body d.scope pm cd doc)→s₁.heap.CodeRec cd d.name→mg d.name=some (.ref fa)→
   s₁.heap.get? a=some { cls:= .type "list",data:= .seq vs.toArray }→IntsAre vs ns→ns.length≤n→s₁.gens=#[]→
   codeAny (model l.prog w) callerA (.call (.ref fa) ⟨[.ref a],[]⟩) (fun r s'=>r= .ok (.ret (.bool true))∧OldK s₁.heap s'.heap∧s'.os=s₁.os∧AllBare s'.gens) s₁):
  WalkO q loose XP YP l.row.toRowW d [] (fun f vs=>PySem.call f vs):=by
 intro w s₀ s₁ mg mb G Y fa o pm cd doc dV kV ho hd jY hD D8 hg args vals as ye Pw Sx Dk Jw
 obtain rfl:dV= .none:=Dflts.none hD D7
 obtain rfl:kV= .none:=Dflts.noKw hD
 obtain⟨a,vs,ns,rfl,rfl,Bh,hints,hlen⟩:=tf hn ye Dk
 refine enter_call (codeAny_mono (call w s₀ s₁ mg mb fa o pm cd doc a vs ns G Y ho (fd_plain hd) jY D8 Bh hints hlen hg) fun r s' hq=>?_)
 obtain⟨rfl,h2,h3,h4⟩:=hq
 exact⟨.inl ⟨.bool true, .bool true,[],rfl,fun _=>rfl, .bool true,tj l _,fun _=>⟨List.Pairwise.nil,fun _ hm=>(nomatch hm)⟩⟩,h2,h3,h4⟩
section
variable {prog:Program}{w:World}{A:Around}{E:Value→Shared→Prop}{s:Shared}{K:Frag}
end
end N5
namespace L2
open PySem PySem.Spec PyProof.Rows
theorem lC:∀{vs:List Value} {ns:List Int},IntsAre vs ns→Vals (ns.map V.int) vs
 |_,_, .nil=> .nil
 |_,_, .cons n t h=> .cons ⟨t,rfl⟩ (lC h)
def Bi(H:Hp):Prop:=∀b,H b=none∨∃o xs,H b=some (.pS o (.lst xs))
theorem vf{P:Program}{w:World}{K:PySem.W.Frag}{mg mb:Str→Option Value}{CX:uv}{k:Nat}{fa a:Addr}{fd:FuncData}{x:Str}{sp:Sp}{s₁:Shared}{vs:List Value}{ns:List Int}
  (KX:K.In s₁.heap) (z0:s₁.heap.Ns mainGlobals mg) (hb:s₁.heap.Ns builtinsNs mb) (Px:∀x:Str,x≠"__name__" →mb x=bootBuiltins x) (Jx:s₁.heap.NoLimit) (hg:s₁.gens=#[])
  (ha:s₁.heap.get? a=some { cls:= .type "list",data:= .seq vs.toArray }) (hi:IntsAre vs ns) (hl:ns.length≤sizeLine) (hr:bW k callerA)
  (F:∀base:Heap,K.In base→base.Ns mainGlobals mg→dn P w K mg base CX k fa fd [x] sp) (D9:∀(s:Shared) (u:Value),BindsTo s fd ⟨[u],[]⟩ [(x,u)])
  (uw:∀H:Hp,Bi H→bC K H a (ns.map V.int)→sp [.ref a] H (fun v _=>v= .bl true) fun _ _ _=>False)
  (Jy:∀H e s',CX [] H s₁ (fun _ _ _=>False) e s'→False):
  codeAny (model P w) callerA (.call (.ref fa) ⟨[.ref a],[]⟩) (fun r s'=>r= .ok (.ret (.bool true))∧OldK s₁.heap s'.heap∧s'.os=s₁.os∧AllBare s'.gens) s₁:=by
 have rv:=lC hi
 have Jz:=hi.length
 have core:∀H:Hp,Bi H→bC K H a (ns.map V.int)→iO P w H s₁.heap→(∀b,H b≠none→b=a)→(H a≠none→K.lookup a=none)→
   codeAny (model P w) callerA (.call (.ref fa) ⟨[.ref a],[]⟩) (fun r s'=>r= .ok (.ret (.bool true))∧OldK s₁.heap s'.heap∧s'.os=s₁.os∧AllBare s'.gens) s₁:=by
  intro H hO hS bz hA hK
  have base_of:∀{b:Addr} {o:Obj},s₁.heap.get? b=some o→H b=none→(mh s₁.heap H).get? b=some o:=fun e n=>uA e n
  have DZ:∀{b:Addr} {o:Obj} {es:Array DictEntry} {ep:Nat},s₁.heap.get? b=some o→o.data= .dict es ep→H b=none:=fun {b o es ep} e d=>by
   cases q:H b with
   |none=>rfl
   |some u=>
    have e':b=a:=hA b (by rw[q];simp)
    subst e'
    rw[ha] at e;cases e
    have d':Data.seq vs.toArray _=Data.dict es ep:=d
    cases d'
  have HS:∀{b:Addr} {m:Str→Option Value},s₁.heap.Ns b m→(mh s₁.heap H).Ns b m:=fun {b m} ⟨o,es,ep,e,d,r⟩=>⟨o,es,ep,base_of e (DZ e d),d,r⟩
  have N6:K.In (mh s₁.heap H):=fun b o e=>base_of (KX b o e) (by
   cases q:H b with
   |none=>rfl
   |some u=>
    have e':b=a:=hA b (by rw[q];simp)
    subst e'
    rw[hK (by rw[q];simp)] at e;cases e)
  have hM:Mod K mg (mh s₁.heap H):=⟨N6,HS z0,⟨mb,HS hb,Px⟩,let ⟨mc,h1,h2⟩:=Jx;⟨mc,HS h1,h2⟩⟩
  have e0:qa P w K mg (mh s₁.heap H) callerA [] s₁ H:=⟨rfl,hM,fun b o e=>xS e,Nat.le_of_eq (sP _ _),trivial,fun b hb=>absurd (show b∈([]:List Addr) from hb) (by simp),bz, .of_eq hg⟩
  refine codeAny_mono ((F _ N6 (HS z0)).run callerA [] s₁ H ⟨[.ref a],[]⟩ [.ref a] [.ref a] _ _ hr e0 (D9 s₁ (.ref a)) (.cons rfl .nil) (uw H hO hS)) fun r s' h=>?_
  cases r with
  |error e=>exact(Jy H e s' h).elim
  |ok fl=>
   cases fl with
   |next=>exact False.elim h
   |brk=>exact False.elim h
   |cont=>exact False.elim h
   |ret u=>
    obtain⟨v,H',os,bare,un,JA,r',q⟩:=h
    have q':v= .bl true:=q
    subst q'
    obtain rfl:u=Value.bool true:=r'
    refine⟨rfl,OldK.of_keep fun b o e=>?_,os,bare⟩
    cases q:H b with
    |none=>exact un.keep b o e q (by intro z;exact absurd (show b∈([]:List Addr) from z) (by simp)) (by simp)
    |some u=>
     rcases hO b with z| ⟨ob,xs,z⟩
     ·rw[q] at z;cases z
     ·have z2:=un.jW b ob _ z
      obtain⟨e1,_⟩:=bz b _ z
      obtain⟨e2,_⟩:=JA b _ z2
      rw[e] at e1;cases e1
      exact e2
 cases hk:K.lookup a with
 |some o=>
  have e:=KX a o hk
  rw[ha] at e
  cases e
  refine core (fun _=>none) (fun _=> .inl rfl) (.inr ⟨_,vs.toArray,_,hk,rfl,rfl,rfl,by rw[List.size_toArray,Jz];exact hl,by simpa using rv⟩) (fun b u z=>by have z':(none:Option HO)=some u:=z;cases z') (fun b z=>absurd rfl z) fun z=>absurd rfl z
 |none=>
  refine core (fun b=>if b=a then some (.pS { cls:= .type "list",data:= .seq vs.toArray } (.lst (ns.map V.int))) else none) (fun b=>?_) (.inl (.inr ⟨{ cls:= .type "list",data:= .seq vs.toArray },if_pos rfl⟩)) (fun b u z=>?_) (fun b z=>?_) fun _=>hk
  ·by_cases hb:b=a
   ·exact .inr ⟨_,_,if_pos hb⟩
   ·exact .inl (if_neg hb)
  ·by_cases hb:b=a
   ·have z':=(if_pos hb).symm.trans z
    cases z'
    subst hb
    exact⟨ha,by rw[List.length_map];exact hl,vs,_,rv,ha⟩
   ·have z':=(if_neg hb).symm.trans z
    cases z'
  ·by_cases hb:b=a
   ·exact hb
   ·exact absurd (if_neg hb) z
end L2
namespace L2
open PySem PySem.Spec PyProof.Rows
theorem yf{l:PySem.W.OpenLaw}{n k:Nat}{q:Program}{loose:List Str}{XP:(Str→Option Value)→Heap→Prop}{YP:World→Heap→Prop}{d:DefRec}{K:Params→PySem.W.Frag}{CX:World→uv}{sp:World→Sp}{x:Str}
  (hn:l.most=some n) (Dj:n≤sizeLine) (D7:d.params.defaults=[]) (hr:bW k callerA)
  (hY:∀(w:World) (h:Heap),YP w h→(K w.params).In h)
  (F:∀(w:World) (mg:Str→Option Value) (fa:Addr) (h:Heap),(K w.params).In h→h.Ns mainGlobals mg→mg d.name=some (.ref fa)→
   ∃fd:FuncData,(∀(s:Shared) (u:Value),BindsTo s fd ⟨[u],[]⟩ [(x,u)])∧
    ∀base:Heap,(K w.params).In base→base.Ns mainGlobals mg→dn l.prog w (K w.params) mg base (CX w) k fa fd [x] (sp w))
  (uw:∀(w:World) (H:Hp) (a:Addr) (ns:List Int),ns.length≤n→Bi H→bC (K w.params) H a (ns.map V.int)→sp w [.ref a] H (fun v _=>v= .bl true) fun _ _ _=>False)
  (Jy:∀(w:World) (H:Hp) (s:Shared) (e:Value) (s':Shared),CX w [] H s (fun _ _ _=>False) e s'→False):
  PySem.W.WalkO q loose XP YP l.row.toRowW d [] (fun f vs=>PySem.call f vs):=by
 refine N5.oA hn D7 fun w s₀ s₁ mg mb fa o pm cd doc a vs ns G Y ho hd jY D8 Bh hints hlen hg=>?_
 have KX:=hY w _ Y
 obtain⟨fd,hb,hF⟩:=F w mg fa _ KX G.T.g D8
 exact vf KX G.T.g G.T.b G.T.builtins G.T.nolimit hg Bh hints (Nat.le_trans hlen Dj) hr hF hb (fun H hO hS=>uw w H a ns hlen hO hS) fun H e s'=>Jy w H s₁ e s'
end L2
namespace L2
open PySem PySem.Spec PyProof.Rows
def inClass(s:Stmt)(j:Nat):Stmt:=match s with
 | .ClassDef _ _ _ body _ _ _ _ _ _ _=>body.getD j (.Pass ⟨0,0,0,0⟩)
 |_=> .Pass ⟨0,0,0,0⟩
def br(s:Stmt):Arguments:=match s with
 | .FunctionDef _ a _ _ _ _ _ _ _ _=>a
 |_=>{ posonlyargs:=[],args:=[],vararg:=none,kwonlyargs:=[],kw_defaults:=[],kwarg:=none,defaults:=[] }
def aW(s:Stmt):List Stmt:=match s with
 | .FunctionDef _ _ b _ _ _ _ _ _ _=>b
 |_=>[]
def ak(s:Stmt):Scope:=match s with
 | .FunctionDef _ _ _ _ _ _ sc _ _ _=>sc
 |_=>{ kind:= .function,names:=[],isGenerator:=false,isCoroutine:=false }
abbrev mF:uv:=fun _ _ _ _ _ _=>False
abbrev E0:XK:=fun _ _ _=>False
theorem aM{X:Cx}:Passes mF X E0:=fun _ _ _ _ _ _ _ h=>h.elim
structure ux(K:PySem.W.Frag)(x qual:Str)(st:Stmt)(f:Addr)(fd:FuncData):Prop where
 ex:∃(oc:Value) (od:Option Addr) (kV doc pm:Value) (an:Option Addr) (bb ct:Value) (kU:Array (Option Value)),
  fd=PySem.W.fnOf x qual (br st) (aW st) (ak st) .none kV doc pm an bb ct∧K.lookup f=some ⟨oc,od, .func fd,kU⟩∧PySem.W.codeIn K bb qual=true
 kp:PySem.W.keepIn K (.ref f)=true
section
variable {P:Program}{w:World}{K:PySem.W.Frag}{mg:Str→Option Value}{base:Heap}
theorem ux.ok{x qual:Str}{st:Stmt}{f:Addr}{fd:FuncData}{N ps:List Str}{k:Nat}{sp:Sp}(F:ux K x qual st f fd)(S:ax N ps (ak st))(len:∀vs H Q E,sp vs H Q E→vs.length=ps.length)
  (cN:∀(bb:Value) (A:Around) (outer:List Env) (s:Shared) (H:Hp) (vs:List V) (Q:VK) (E:XK),bW k (A.deeper (envOfC qual (ak st) s.heap.objs.size f bb))→sp vs H Q E→
   ∃t,iR (fF mF P w K mg base N qual (ak st) f bb A outer s H E).xJ (aW st) t∧t { nx:=fun _ H'=>Q .bR H',rt:=Q } (start N vs) H):dn P w K mg base mF (k+1) f fd ps sp:=by
 obtain⟨oc,od,kV,doc,pm,an,bb,ct,kU,rfl,lk,jY⟩:=F.ex
 refine fn_of lk jY S len fun A outer s H vs Q E hr uw=>?_
 obtain⟨t,h,q⟩:=cN bb A outer s H vs Q E hr uw
 exact⟨t,h.xJ,q⟩
theorem ux.binds{x qual:Str}{st:Stmt}{f:Addr}{fd:FuncData}{ps:List Str}(F:ux K x qual st f fd)
  (h:∀(kV doc pm:Value) (an:Option Addr) (bb ct:Value) (us:List Value),us.length=ps.length→bindArgs (PySem.W.fnOf x qual (br st) (aW st) (ak st) .none kV doc pm an bb ct) ⟨us,[]⟩=pure (ps.zip us)):Binds K fd ps []:=by
 obtain⟨oc,od,kV,doc,pm,an,bb,ct,kU,rfl,lk,jY⟩:=F.ex
 exact .all (h kV doc pm an bb ct)
theorem Bj{x qual:Str}{st:Stmt}{f:Addr}{oc:Value}{od an:Option Addr}{kU:Array (Option Value)}{kV doc pm bb ct:Value}(l:K.lookup f=some ⟨oc,od, .func (PySem.W.fnOf x qual (br st) (aW st) (ak st) .none kV doc pm an bb ct),kU⟩)
  (c:PySem.W.codeIn K bb qual=true) (k:PySem.W.keepIn K (.ref f)=true):ux K x qual st f (PySem.W.fnOf x qual (br st) (aW st) (ak st) .none kV doc pm an bb ct):=⟨⟨oc,od,kV,doc,pm,an,bb,ct,kU,rfl,l,c⟩,k⟩
end
theorem z4{A:Around}{k:Nat}(hr:bW k A):A.units+1<cLine:=Nat.lt_of_le_of_lt (Nat.add_le_add_left (by decide:1≤64) _) hr.units
section
variable {X:Cx}
theorem pv(i:Nat){x:Str}{pos:Pos}(hN:X.N[i]? =some x:=by rfl)(hv:IG X.env.scope x:=by first|exact Or.inl rfl|exact Or.inr (Or.inl rfl) |exact Or.inr (Or.inr rfl))(hd:(x==("__debug__" :Str))=false:=by decide)
  (jY:(x==("__classdict__" :Str))=false:=by decide):PE X (.Name x pos) (pT i):=AZ hN hv hd jY
end
theorem bZ{A B:Prop}(h:B):if false=true then A else B:=by
 rw[if_neg Bool.false_ne_true]
 exact h
theorem cO{A B:Prop}(h:A):if true=true then A else B:=by
 rw[if_pos rfl]
 exact h
theorem dG{c A B:Prop}[Decidable c](h1:c→A)(h2:¬c→B):if c then A else B:=by
 by_cases h:c
 ·rw[if_pos h]
  exact h1 h
 ·rw[if_neg h]
  exact h2 h
theorem D'{c A B:Prop}[Decidable c](hc:c)(h:B):if (!decide c)=true then A else B:=by
 rw[decide_eq_true hc]
 exact bZ h
def aK(H H':Hp):Prop:=∀b o,H b=some o→H' b=some o
theorem aK.refl(H:Hp):aK H H:=fun _ _ h=>h
theorem aK.trans{H H1 H2:Hp}(a:aK H H1)(b:aK H1 H2):aK H H2:=fun c o h=>b c o (a c o h)
theorem aK.free{H H':Hp}(e:aK H H'){l:Addr}(h:H' l=Option.none):H l=Option.none:=by
 cases q:H l with
 |none=>rfl
 |some o=>
  rw[e l o q] at h
  cases h
theorem aK.seq{K:PySem.W.Frag}{H H':Hp}{a:Addr}{xs:List V}(e:aK H H')(h:bC K H a xs):bC K H' a xs:=by
 rcases h with (h| ⟨o,h⟩) |h
 ·exact .inl (.inl (e _ _ h))
 ·exact .inl (.inr ⟨o,e _ _ h⟩)
 ·exact .inr h
section
variable {κ:Type}[DecidableEq κ]
end
end L2
namespace L2
open PySem PySem.Spec PyProof.Rows
section
variable {X:Cx}{pins:List (Addr×Obj)}{σ:St}{H:Hp}{s:Shared}{a:Addr}{u u':HO}
def NF(X:Cx)(a:Addr):Prop:=∀o z,X.H₀ a≠some (.pS o z)
end
section
variable {X:Cx}{tg:Expr}
end
def yg:V→Option Value
 | .ty n=>some (.type n)
 | .ref a=>some (.ref a)
 |_=>none
theorem jj{X:Cx}:fO X (.builtin "isinstance") (fun xs H Q=>∃x c cv t b,xs=[x,c]∧yg c=some cv∧iU X.K H x t∧PySem.W.kitOne X.K t cv=some b∧Q (.bl b) H):=by
 intro pins s σ H xs us Q I r h
 obtain⟨x,c,cv,t,b,rfl,hc,ty,e,q⟩:=h
 obtain⟨u,v,rfl,ru,rv⟩:=vals2 r
 have hv:v=cv:=by
  cases c<;>simp only [yg,Option.some.injEq,reduceCtorEq] at hc
  ·cases (show v=Value.ref _ from rv);exact hc
  ·cases (show v=Value.type _ from rv);exact hc
 subst hv
 exact sW I ru ty e fun tk=>⟨.bl b,H,I.tok tk,rfl,q⟩
section
variable {X:Cx}
end
end L2
namespace L2
open PySem PySem.Spec PyProof.Rows
def oB(X:Cx)(pins:List (Addr×Obj))(N:List Str)(scope:Scope)(cl:List (Str×Addr))(fp:List Addr)(s:Shared)(H:Hp):Cx where
 prog:=X.prog
 w:=X.w
 K:=X.K
 mg:=X.mg
 base:=X.base
 A:=X.A
 N:=N
 s₀:=s
 H₀:=H
 env:=compEnvC scope cl s.heap.objs.size X.env
 outer:=X.stack
 stack:=X.stack
 ex:=fp
 fn:=fun _=>false
 calm:=X.calm
 pn:=X.pn++pins
 xe:=fun _ _=>False
structure Ea(X:Cx)(N:List Str)(fr:List (Option Nat))(scope:Scope)(cl:List (Str×Addr)):Prop where
 JB:closureFor scope X.env=pure cl
 kind:scope.kind= .function
 mG:∀y∈scope.names,y.2≠ .cell
 names:∀y∈scope.names,y.2= .local→scope.names.lookup y.1=some .local
 cells:∀x c,cl.lookup x=some c→X.env.cells.lookup x=some c
 has:∀x,((relabel scope X.env).names.lookup x=some .cell∨(relabel scope X.env).names.lookup x=some .free)→∃c,cl.lookup x=some c
 len:fr.length=N.length
 out:∀(i j:Nat) (x:Str),N[i]? =some x→fr[i]? =some (some j)→X.N[j]? =some x∧X.env.kindOf x=some .cell∧((relabel scope X.env).names.lookup x=some .cell∨(relabel scope X.env).names.lookup x=some .free)
end L2
namespace L2
open PySem PySem.Spec PyProof.Rows
def iW(env:Env):List (Str×NameKind)→List (Str×Addr)→List (Str×Addr)
 | [],cs=>cs
 | (n,k)::r,cs=>iW env r (if (k== .free)=true then (n,(env.cells.lookup n).getD 0)::cs else cs)
def vg(scope:Scope)(env:Env):List (Str×Addr):=iW env scope.names []
theorem rn{env:Env}:∀{names:List (Str×NameKind)} (cs:List (Str×Addr)),(∀y∈names,y.2= .free→∃c,env.cells.lookup y.1=some c)→
  (forIn names cs fun (x:Str×NameKind) cs=>match x with
   | (name,kind)=>if (kind==NameKind.free)=true then do let c←cellOf env name;pure (ForInStep.yield ((name,c)::cs)) else pure (ForInStep.yield cs):Sem (List (Str×Addr)))=pure (iW env names cs)
 | [],cs,_=>rfl
 | (n,k)::r,cs,h=>by
   rw[List.forIn_cons]
   dsimp only
   have ih:=fun cs=>rn (env:=env) (names:=r) cs fun y hy=>h y (List.mem_cons_of_mem _ hy)
   by_cases hk:(k==NameKind.free)=true
   ·obtain⟨c,hc⟩:=h (n,k) (List.mem_cons_self ..) (by simpa using hk)
    rw[if_pos hk,show iW env ((n,k)::r) cs=iW env r ((n,c)::cs) by rw[iW,if_pos hk,hc];rfl]
    have e:cellOf env n=pure c:=by unfold cellOf;rw[hc]
    rw[e]
    exact ih _
   ·rw[if_neg hk,show iW env ((n,k)::r) cs=iW env r cs by rw[iW,if_neg hk]]
    exact ih _
theorem yh{scope:Scope}{env:Env}(h:∀y∈scope.names,y.2= .free→∃c,env.cells.lookup y.1=some c):closureFor scope env=pure (vg scope env):=by
 have t:=rn (env:=env) [] h
 have e:closureFor scope env=((forIn scope.names ([]:List (Str×Addr)) fun (x:Str×NameKind) cs=>match x with
   | (name,kind)=>if (kind==NameKind.free)=true then do let c←cellOf env name;pure (ForInStep.yield ((name,c)::cs)) else pure (ForInStep.yield cs)) >>= fun cs=>pure cs:Sem (List (Str×Addr))):=rfl
 rw[e,t]
 rfl
theorem j6{env:Env}:∀{names:List (Str×NameKind)} {cs:List (Str×Addr)},(∀y∈names,y.2= .free→∃c,env.cells.lookup y.1=some c)→(∀x c,cs.lookup x=some c→env.cells.lookup x=some c)→∀x c,(iW env names cs).lookup x=some c→env.cells.lookup x=some c
 | [],_,_,hc,x,c,h=>hc x c h
 | (n,k)::r,cs,hn,hc,x,c,h=>by
   rw[iW] at h
   refine j6 (names:=r) (fun y hy=>hn y (List.mem_cons_of_mem _ hy)) (fun x c h=>?_) x c h
   by_cases hk:(k==NameKind.free)=true
   ·rw[if_pos hk] at h
    obtain⟨c',xI⟩:=hn (n,k) (List.mem_cons_self ..) (by simpa using hk)
    rw[List.lookup_cons] at h
    cases e:x==n with
    |true=>
     rw[e] at h
     have ex:x=n:=by simpa using e
     subst ex
     rw[xI] at h ⊢
     exact h
    |false=>
     rw[e] at h
     exact hc x c h
   ·rw[if_neg hk] at h
    exact hc x c h
theorem oC{env:Env}:∀{names:List (Str×NameKind)} {cs:List (Str×Addr)} {x:Str},((x,NameKind.free)∈names∨∃c,cs.lookup x=some c)→∃c,(iW env names cs).lookup x=some c
 | [],_,_,h=>h.elim (fun z=>by cases z) fun z=>z
 | (n,k)::r,cs,x,h=>by
   rw[iW]
   refine oC (names:=r) ?_
   by_cases hk:(k==NameKind.free)=true
   ·rw[if_pos hk,List.lookup_cons]
    cases e:x==n with
    |true=>exact .inr ⟨_,rfl⟩
    |false=>
     rcases h with h|h
     ·rcases List.mem_cons.mp h with z|z
      ·cases z
       simp at e
      ·exact .inl z
     ·exact .inr h
   ·rw[if_neg hk]
    rcases h with h|h
    ·rcases List.mem_cons.mp h with z|z
     ·cases z
      exact absurd rfl hk
     ·exact .inl z
    ·exact .inr h
theorem fQ{env:Env}(x:Str):∀names:List (Str×NameKind),
  (names.map fun (y:Str×NameKind)=>match y with
   | (n,k)=>if (k==NameKind.free&&env.scope.kind== .function&&env.kindOf n==some .cell)=true then (n,NameKind.cell) else (n,k)).lookup x
   =(names.lookup x).map fun k=>if (k==NameKind.free&&env.scope.kind== .function&&env.kindOf x==some .cell)=true then NameKind.cell else k
 | []=>rfl
 | (n,k)::r=>by
   have ih:=fQ (env:=env) x r
   rw[List.map_cons,List.lookup_cons]
   by_cases e:(x==n)=true
   ·have ex:x=n:=by simpa using e
    subst ex
    dsimp only
    by_cases hc:(k==NameKind.free&&env.scope.kind== .function&&env.kindOf x==some .cell)=true
    ·rw[if_pos hc,List.lookup_cons,beq_self_eq_true]
     dsimp only [Option.map]
     rw[if_pos hc]
    ·rw[if_neg hc,List.lookup_cons,beq_self_eq_true]
     dsimp only [Option.map]
     rw[if_neg hc]
   ·have e':(x==n)=false:=by simpa using e
    dsimp only
    by_cases hc:(k==NameKind.free&&env.scope.kind== .function&&env.kindOf n==some .cell)=true
    ·rw[if_pos hc,List.lookup_cons,e']
     exact ih
    ·rw[if_neg hc,List.lookup_cons,e']
     exact ih
structure Bk(sc scope:Scope)(NX N:List Str)(fr:List (Option Nat)):Prop where
 Eb:sc.kind= .function
 kind:scope.kind= .function
 mG:∀y∈scope.names,y.2≠ .cell
 names:∀y∈scope.names,y.2= .local→scope.names.lookup y.1=some .local
 free:∀y∈scope.names,y.2= .free→sc.names.lookup y.1=some .cell
 len:fr.length=N.length
 out:((List.range N.length).all fun i=>match fr[i]? with
  |some (some j)=>(match N[i]? with
   |some x=>(NX[j]? ==some x)&&(scope.names.lookup x==some .free)
   |none=>false)
  |_=>true)=true
theorem iX{names:List (Str×NameKind)}{x:Str}{k:NameKind}(h:names.lookup x=some k):(x,k)∈names:=PySem.mem_of_lookup h
theorem Bk.Pz{X:Cx}{sc scope:Scope}{NX N:List Str}{fr:List (Option Nat)}(B:Bk sc scope NX N fr)(e1:X.env.scope=sc)(e2:X.N=NX)(ok:X.Ok):Ea X N fr scope (vg scope X.env):=by
 subst e1 e2
 have fc:∀y∈scope.names,y.2= .free→∃c,X.env.cells.lookup y.1=some c:=fun y hy hf=>ok.has y.1 (.inl (B.free y hy hf))
 have lk:∀x,(relabel scope X.env).names.lookup x=(scope.names.lookup x).map fun k=>if (k==NameKind.free&&X.env.scope.kind== .function&&X.env.kindOf x==some .cell)=true then NameKind.cell else k:=fun x=>fQ x scope.names
 have Bl:∀x,scope.names.lookup x=some .free→(relabel scope X.env).names.lookup x=some .cell:=fun x hx=>by
  have hk:X.env.kindOf x=some .cell:=B.free (x, .free) (iX hx) rfl
  rw[lk,hx,Option.map_some,hk,B.Eb]
  rfl
 refine⟨yh fc,B.kind,B.mG,B.names,fun x c h=>j6 fc (fun x c h=>by cases h) x c h,fun x h=>oC (.inl ?_),B.len,fun i j x h1 h2=>?_⟩
 ·rw[lk] at h
  cases e:scope.names.lookup x with
  |none=>rw[e] at h;rcases h with h|h<;>cases h
  |some k=>
   rw[e,Option.map_some] at h
   have hm:=iX e
   cases k with
   |free=>exact hm
   |cell=>exact absurd rfl (B.mG _ hm)
   |_=>rcases h with h|h<;>simp at h
 ·have hi:i<N.length:=(List.getElem?_eq_some_iff.mp h1).1
  have:=List.all_eq_true.mp B.out i (List.mem_range.mpr hi)
  rw[h2] at this
  dsimp only at this
  rw[h1] at this
  dsimp only at this
  rw[Bool.and_eq_true] at this
  have a1:X.N[j]? =some x:=by simpa using this.1
  have a2:scope.names.lookup x=some .free:=by simpa using this.2
  exact⟨a1,B.free (x, .free) (iX a2) rfl, .inl (Bl x a2)⟩
end L2
namespace L2
open PySem PySem.Spec PyProof.Rows
def startB(fr:List (Option Nat))(σ:St):St:=fr.map fun o=>o.bind fun j=>(σ[j]?).join
theorem qd{fr:List (Option Nat)}{σ:St}{i:Nat}{v:V}(h:(startB fr σ)[i]? =some (some v)):∃j,fr[i]? =some (some j)∧σ[j]? =some (some v):=by
 unfold startB at h
 rw[List.getElem?_map] at h
 cases e:fr[i]? with
 |none=>rw[e] at h;cases h
 |some o=>
  rw[e] at h
  cases o with
  |none=>cases h
  |some j=>
   have h':(σ[j]?).join=some v:=Option.some.inj h
   cases q:σ[j]? with
   |none=>rw[q] at h';cases h'
   |some z=>rw[q] at h';exact⟨j,rfl,by rw[q];exact congrArg some h'⟩
section
variable {X:Cx}{pins:List (Addr×Obj)}{σ:St}{H:Hp}{s:Shared}{N:List Str}{fr:List (Option Nat)}{scope:Scope}{cl:List (Str×Addr)}{fp:List Addr}
theorem vh(B:Ea X N fr scope cl)(I:Inv X pins σ H s)(f:∀b∈fp,hI X pins H b∧b<s.heap.objs.size):(oB X pins N scope cl fp s H).Ok where
 mod:=I.mod
 kind:=B.kind
 glob:=I.ok.glob
 blt:=I.ok.blt
 above:=Nat.le_refl _
 inj:=fun x y c h1 h2=>I.ok.inj x y c (B.cells x c h1) (B.cells y c h2)
 has:=fun x h=>B.has x h
 xU:=fun x c h=>by cases h
 hd:=I.ok.hd
 frames:=I.ok.frames
 zU:= .inl rfl
 Df:=fun b hb=>⟨Nat.ne_of_lt (f b hb).2,fun x c h=>(f b hb).1.2.2.2.2.1 x c (B.cells x c h)⟩
 bs:=I.bs
 sQ:=Nat.le_trans I.ok.sQ I.sz
 mi:=fun b o e hb=>by
  rcases (f b hb).1.2.2.2.1 with h|h
  ·exact I.ok.mi b o e h
  ·exact absurd (Nat.lt_of_lt_of_le (Heap.lt_size e) (Nat.le_trans I.ok.sQ h)) (Nat.lt_irrefl _)
 mj:=fun b hb h=>by
  rcases List.mem_cons.mp (I.ml b h) with z|z
  ·exact(f b hb).1.2.1 z
  ·exact(f b hb).1.2.2.1 z
 gI:=I.stack
 uF:=I.mn
theorem tm{h1:Heap}{t1:Nat}(B:Ea X N fr scope cl)(I:Inv X pins σ H s)(f:∀b∈fp,hI X pins H b∧b<s.heap.objs.size)(z0:h1.Ns s.heap.objs.size fun _=>none)
  (Bm:∀b o,s.heap.get? b=some o→h1.get? b=some o):Inv (oB X pins N scope cl fp s H) [] (startB fr σ) H { s with heap:=h1,toks:=t1 }:=by
 obtain⟨m,hm,hl⟩:=I.loc
 refine⟨vh B I f,rfl,I.bare,Un.kept Bm,⟨_,z0,fun i x v e1 e2 _=>?_⟩,fun x c h=>?_,I.bz.fresh (Nat.le_refl _),fun x c h=>I.dR x c (B.cells x c h),fun p hp=>?_,I.bz.kept Bm,?_⟩
 ·obtain⟨j,ej,es⟩:=qd e2
  obtain⟨o1,o2,o3⟩:=B.out i j x e1 ej
  obtain⟨u,ru,L⟩:=hl j x v o1 es (.inr (.inl o2))
  refine⟨u,ru, .inr ⟨o3,?_⟩⟩
  obtain⟨c,hc⟩:=B.has x o3
  rcases L with ⟨k1,_⟩ | ⟨_,c',xI,cc⟩
  ·rw[o2] at k1;cases k1
  ·rw[B.cells x c hc] at xI
   cases xI
   exact⟨c,hc,cc.keeps Bm⟩
 ·obtain⟨v,hv⟩:=I.cell x c (B.cells x c h)
  exact⟨v,hv.keeps Bm⟩
 ·have JC:p∈X.pn++pins:=by rw[List.append_nil] at hp;exact hp
  obtain⟨p1,p2,p3,p4,p5⟩:=I.pin p JC
  exact⟨Bm _ _ p1,p2,Nat.ne_of_lt (Heap.lt_size p1),fun z=>(List.mem_cons.mp (I.ml _ z)).elim p3 p4,p5⟩
 ·show (startB fr σ).length=N.length
  unfold startB
  rw[List.length_map,B.len]
end
def Ec(X:Cx)(cs:List Expr)(t:TT):Prop:=
 ∀(pins:List (Addr×Obj)) (s:Shared) (σ:St) (H:Hp) (Q:Bool→Hp→Prop),Inv X pins σ H s→t σ H Q→
  wpAny (model X.prog X.w) X.A (forIn cs true fun c r=>if r=true then do let ok←isTrue c X.env (eval c X.env);pure (ForInStep.yield ok) else pure (ForInStep.yield r)) (TP X pins σ Q) X.xe s
def JD:TT:=fun _ H Q=>Q true H
theorem h9{X:Cx}:Ec X [] JD:=fun pins s σ H Q I h=>by
 rw[List.forIn_nil]
 exact wpAny_pure ⟨H,I,h⟩
section
variable {prog:Program}{w:World}{A:Around}{R:Result→Shared→Prop}{s:Shared}
theorem comp_loop{elt tg iter:Expr}{ifs:List Expr}{scope:Scope}{pos:Pos}{it acc:Value}{env:Env}(J:Nat→Shared→Prop)
  (turn:∀n s,J n s→wpAny (model prog w) A (pyNext it) (fun r s₁=>match r with
   |none=>R (.ok .next) s₁
   |some v=>wpAny (model prog w) A (letOwnedTupleGo tg it v) (fun _ sg=>wpAny (model prog w) A (assign tg env v) (fun _ s₂=>
     wpAny (model prog w) A (forIn ifs true fun c r=>if r=true then do let ok←isTrue c env (eval c env);pure (ForInStep.yield ok) else pure (ForInStep.yield r)) (fun ok s₃=>
      if ok=true then wpAny (model prog w) A (eval elt env) (fun x s₄=>wpAny (model prog w) A (call (.builtin "list.append") [acc,x]) (fun _ s₅=>∃m,m<n∧J m s₅) (fun _ _=>False) s₄) (fun _ _=>False) s₃
      else∃m,m<n∧J m s₃) (fun _ _=>False) s₂) (fun _ _=>False) sg) (fun _ _=>False) s₁) (fun _ _=>False) s)
  (n:Nat) (h:J n s):codeAny (model prog w) A (.compLoop (.ListComp elt [⟨tg,iter,ifs,0⟩] scope pos) 0 it acc env) R s:=by
 refine codeAny_loop rfl J (fun n s hJ=>?_) n h
 show wpAny _ A ((compTurn (.ListComp elt [⟨tg,iter,ifs,0⟩] scope pos) 0 it acc env).onRaise (fun x=>do noteFrame x env;theTreesLotGoes x)) _ _ s
 refine wpAny_noted ?_
 rw[compTurn_list]
 have no:∀{P:Value→Shared→Prop} (a:Value) (s:Shared),(fun (_:Value) (_:Shared)=>False) a s→P a s:=fun _ _ z=>False.elim z
 refine wpAny_bind (wpAny_standAt (wpAny_bind (wpAny_mono (turn n s hJ) (fun r s₁ h₁=>?_) no)))
 cases r with
 |none=>exact wpAny_pure h₁
 |some v=>
  refine wpAny_bind (wpAny_mono h₁ (fun _ sg hg=>?_) no)
  refine wpAny_bind (wpAny_mono hg (fun _ s₂ h₂=>wpAny_bind (wpAny_mono h₂ (fun ok s₃ h₃=>?_) no)) no)
  cases ok with
  |false=>exact wpAny_pure ⟨rfl,h₃⟩
  |true=>exact wpAny_bind (wpAny_bind (wpAny_mono h₃ (fun x s₄ h₄=>wpAny_bind (wpAny_mono h₄ (fun _ s₅ h₅=>wpAny_pure (wpAny_pure ⟨rfl,h₅⟩)) no)) no))
end
def Ed(wi:TI)(fr:List (Option Nat))(g:TG)(tt:TT)(te:TE):TE:=fun σ H Q=>wi σ H fun J H1=>∀D,H1 D=none→∃W:Nat→Nat→St→Hp→Prop,(∃m,W 0 m (startB fr σ) (upd H1 D (.lst [])))∧∀i m σ H,W i m σ H→
 (J.stop i H∧Q (.ref D) H)∨(J.go i H∧∀x H2,J.xZ i H x H2→g x σ H2 fun σ3 H3=>tt σ3 H3 fun b H4=>if b=true
   then te σ3 H4 fun y H5=>∃ys,H5 D=some (.lst ys)∧ys.length<sizeLine∧∃m',m'<m∧W (i+1) m' σ3 (upd H5 D (.lst (ys++[y])))
   else∃m',m'<m∧W (i+1) m' σ3 H4)
section
variable {X:Cx}{elt tg iter:Expr}{ifs:List Expr}{scope:Scope}{pos:Pos}{N:List Str}{fr:List (Option Nat)}{cl:List (Str×Addr)}{wi:TI}{g:TG}{tt:TT}{te:TE}
theorem yi(B:Ea X N fr scope cl)(hc:X.calm=true)
  (hg:∀pins fp s H,PG (oB X pins N scope cl fp s H) tg g) (ht:∀pins fp s H,Ec (oB X pins N scope cl fp s H) ifs tt) (he:∀pins fp s H,PE (oB X pins N scope cl fp s H) elt te)
  {pins:List (Addr×Obj)} {s3:Shared} {σ:St} {H3:Hp} {Q:VK} {it D:Addr} {fp:List Addr} {tn:Nat→Heap→Prop} {J:It} (I3:Inv X pins σ H3 s3) (T:Turn X.prog X.w X.K tg J fp it tn) (HM:tn 0 s3.heap) (f3:∀b∈fp,hI X pins H3 b∧b<s3.heap.objs.size)
  {W:Nat→Nat→St→Hp→Prop} {m0:Nat} (w0:W 0 m0 (startB fr σ) H3)
  (turn:∀i m σ H,W i m σ H→(J.stop i H∧Q (.ref D) H)∨(J.go i H∧∀x H2,J.xZ i H x H2→g x σ H2 fun σ3 H3=>tt σ3 H3 fun b H4=>if b=true
    then te σ3 H4 fun y H5=>∃ys,H5 D=some (.lst ys)∧ys.length<sizeLine∧∃m',m'<m∧W (i+1) m' σ3 (upd H5 D (.lst (ys++[y])))
    else∃m',m'<m∧W (i+1) m' σ3 H4))
  {R:Result→Shared→Prop} (hR:∀s' H',Inv X pins σ H' s'→hI X pins H' s3.heap.objs.size→(∃m,s'.heap.Ns s3.heap.objs.size m)→Q (.ref D) H'→R (.ok .next) s')
  {h₁:Heap} {t1:Nat} (z0:h₁.Ns s3.heap.objs.size fun _=>none) (Ee:∀b o,s3.heap.get? b=some o→h₁.get? b=some o):
  codeAny (model X.prog X.w) X.A (.compLoop (.ListComp elt [⟨tg,iter,ifs,0⟩] scope pos) 0 (.ref it) (.ref D) (compEnvC scope cl s3.heap.objs.size X.env)) R { s3 with heap:=h₁,toks:=t1 }:=by
 have Ib:=tm (t1:=t1) B I3 f3 z0 Ee
 have pY:∀{H':Hp},(∀b∈fp,H' b=none)→∀b∈fp,hI (oB X pins N scope cl fp s3 H3) [] H' b:=fun hn b hb=>
  ⟨hn b hb,Nat.ne_of_lt (f3 b hb).2,(vh B I3 f3).mj b hb, .inl hb,fun x c h=>(f3 b hb).1.2.2.2.2.1 x c (B.cells x c h),fun p hp=>(f3 b hb).1.2.2.2.2.2 p (by rw[List.append_nil] at hp;exact hp)⟩
 refine comp_loop (fun n s'=>∃i σ' H',Inv (oB X pins N scope cl fp s3 H3) [] σ' H' s'∧tn i s'.heap∧(∀b∈fp,H' b=none)∧W i n σ' H') ?_ m0
  ⟨0,_,_,Ib,T.keep _ _ _ HM fun b _ o e=>Ee b o e,fun b hb=>(f3 b hb).1.1,w0⟩
 rintro n s4 ⟨i,σ4,H4,I4,N7,N8,w4⟩
 rcases turn i n σ4 H4 w4 with ⟨stop,qn⟩ | ⟨go,step⟩
 ·refine bP (T.done (oB X pins N scope cl fp s3 H3) rfl rfl rfl hc i [] s4 σ4 H4 _ I4 (pY N8) N7 stop) fun r s5 ⟨hr,I5⟩=>?_
  subst hr
  have J5:Inv X pins σ H4 s5:=I3.uG (ch:=fp) I5.os I5.base I5.bz I5.bare fun b hb=>⟨(f3 b hb).1.2.2.2.1,(f3 b hb).1.2.1,(f3 b hb).1.2.2.2.2.1,(f3 b hb).1.2.2.2.2.2⟩
  obtain⟨mm,PB,_⟩:=I5.loc
  exact hR s5 H4 J5 (I3.x2 (Nat.le_refl _) I5.free) ⟨mm,PB⟩ qn
 ·refine bP (T.item (oB X pins N scope cl fp s3 H3) rfl rfl rfl hc i [] s4 σ4 H4 _ I4 (pY N8) N7 go) fun r s5 ⟨u,hr,h5⟩=>?_
  subst hr
  refine bP h5 fun _ s6 ⟨x,H6,I6,r6,y6,JE,PD⟩=>?_
  have PJ:=I6.pinned (pY PD) (T.obj _ _ JE)
  have back:∀{s7:Shared} {σ7:St} {H7:Hp} {m':Nat},Inv (oB X pins N scope cl fp s3 H3) ([]++j0 fp s6.heap) σ7 H7 s7→m'<n→W (i+1) m' σ7 H7→
    ∃m,m<n∧∃i σ' H',Inv (oB X pins N scope cl fp s3 H3) [] σ' H' s7∧tn i s7.heap∧(∀b∈fp,H' b=none)∧W i m σ' H':=fun {s7 σ7 H7 m'} I7 hm w7=>by
   refine⟨m',hm,i+1,σ7,H7,I7.dm,T.keep _ _ _ JE fun b hb o e=>(I7.pin (b,o) (List.mem_append_right _ (List.mem_append_right _ (eV hb e)))).1,fun b hb=>?_,w7⟩
   obtain⟨o,e,d⟩:=T.obj _ _ JE b hb
   exact(I7.pin (b,o) (List.mem_append_right _ (List.mem_append_right _ (eV hb e)))).2.1
  refine bP (hg _ _ _ _ _ s6 σ4 H6 x u _ PJ r6 (step x H6 y6)) fun _ s7 ⟨σ7,H7,I7,q7⟩=>?_
  refine bP (ht _ _ _ _ _ s7 σ7 H7 _ I7 q7) fun ok s8 ⟨H8,I8,q8⟩=>?_
  cases ok with
  |false=>
   rw[if_neg (by decide)] at q8 ⊢
   obtain⟨m',hm,w8⟩:=q8
   exact back I8 hm w8
  |true=>
   rw[if_pos rfl] at q8 ⊢
   refine bP (he _ _ _ _ _ s8 σ7 H8 _ I8 q8) fun y s9 ⟨v9,H9,I9,r9,ys,PK,PM,m',hm,w9⟩=>?_
   refine bP (bT _ s9 σ7 H9 (.ref D) [v9] _ [y] (fun _ H'=>W (i+1) m' σ7 H') I9 rfl (.cons r9 .nil) ⟨_,ys,v9,rfl,rfl,PK,PM,w9⟩) fun _ Sy ⟨_,SA,PN,_,PQ⟩=>?_
   exact back PN hm PQ
theorem vi(B:Ea X N fr scope cl)(hc:X.calm=true)
  (hg:∀pins fp s H,PG (oB X pins N scope cl fp s H) tg g) (ht:∀pins fp s H,Ec (oB X pins N scope cl fp s H) ifs tt) (he:∀pins fp s H,PE (oB X pins N scope cl fp s H) elt te)
  {pins:List (Addr×Obj)} {s2:Shared} {σ:St} {H2:Hp} {Q:VK} {E:Value→Shared→Prop} {it:Addr} {fp:List Addr} {tn:Nat→Heap→Prop} {J:It} (I2:Inv X pins σ H2 s2) (T:Turn X.prog X.w X.K tg J fp it tn) (A6:tn 0 s2.heap) (f2:∀b∈fp,hI X pins H2 b)
  (q:∀D,H2 D=none→∃W:Nat→Nat→St→Hp→Prop,(∃m,W 0 m (startB fr σ) (upd H2 D (.lst [])))∧∀i m σ H,W i m σ H→
   (J.stop i H∧Q (.ref D) H)∨(J.go i H∧∀x H2,J.xZ i H x H2→g x σ H2 fun σ3 H3=>tt σ3 H3 fun b H4=>if b=true
     then te σ3 H4 fun y H5=>∃ys,H5 D=some (.lst ys)∧ys.length<sizeLine∧∃m',m'<m∧W (i+1) m' σ3 (upd H5 D (.lst (ys++[y])))
     else∃m',m'<m∧W (i+1) m' σ3 H4))
  {RR:Value→Addr→Result→Shared→Prop}
  (PR:∀D C s' H',Inv X pins σ H' s'→hI X pins H' C→(∃m,s'.heap.Ns C m)→Q (.ref D) H'→RR (.ref D) C (.ok .next) s'):
  wpAny (model X.prog X.w) X.A (newList []) (fun acc s₃=>wpAny (model X.prog X.w) X.A (newFunctionEnv scope X.env.globals cl [] X.env.qual none .none (some X.env)) (fun Ef s₄=>
   codeAny (model X.prog X.w) X.A (.compStart (.ListComp elt [⟨tg,iter,ifs,0⟩] scope pos) 0 (.ref it) acc { Ef with scope:=relabel scope X.env }) (RR acc Ef.locals) s₄) E s₃) E s2:=by
 have hD:H2 s2.heap.objs.size=none:=I2.bz.fresh (Nat.le_refl _)
 obtain⟨W,⟨m0,w0⟩,turn⟩:=q s2.heap.objs.size hD
 have I3:=I2.Js (ys:=[]) (its:=[]) (t':=s2.toks) .nil (by decide)
 have N9:∀b∈fp,b<s2.heap.objs.size:=fun b hb=>by
  obtain⟨o,e,_⟩:=T.obj _ _ A6 b hb
  exact Heap.lt_size e
 refine wpAny_newObj_type (wpAny_newFunctionEnv B.mG (by intro y hy;simp at hy) (fun h₁ z0 Bm=>?_) B.kind)
 have Oa:∀b o,s2.heap.get? b=some o→(s2.heap.push { cls:= .type "list",data:= .seq ([]:List Value).toArray }).get? b=some o:=fun b o e=>Heap.get?_push_of_some _ e
 have Ee:∀b o,(s2.heap.push { cls:= .type "list",data:= .seq ([]:List Value).toArray }).get? b=some o→h₁.get? b=some o:=fun b o e=>Bm.extBut b o (Nat.ne_of_lt (Heap.lt_size e)) (Heap.get?_push_of_some _ e)
 have f3:∀b∈fp,hI X pins (upd H2 s2.heap.objs.size (.lst [])) b∧b< (s2.heap.push { cls:= .type "list",data:= .seq ([]:List Value).toArray }).objs.size:=fun b hb=>by
  refine⟨⟨?_,(f2 b hb).2⟩,?_⟩
  ·rw[ah (Nat.ne_of_lt (N9 b hb))]
   exact(f2 b hb).1
  ·rw[Heap.size_push]
   exact Nat.lt_succ_of_lt (N9 b hb)
 have fin:=yi (iter:=iter) (pos:=pos) (D:=s2.heap.objs.size) (t1:=s2.toks) (R:=RR (.ref s2.heap.objs.size) (s2.heap.push { cls:= .type "list",data:= .seq ([]:List Value).toArray }).objs.size) B hc hg ht he I3 T (T.keep _ _ _ A6 fun b _ o e=>Oa b o e) f3 w0 turn
  (fun s' H' J' f m q=>PR _ _ s' H' J' f m q) z0 Ee
 exact codeAny_compStart_list fin (T.self _ 0 _ _ _ (T.keep _ _ _ A6 fun b _ o e=>Ee b o (Oa b o e)) fin)
theorem ia{sc:Scope}{NX:List Str}(S:Bk sc scope NX N fr)(e1:X.env.scope=sc)(e2:X.N=NX)(hc:X.calm=true)(hi:PI X tg iter wi)
  (hg:∀pins fp s H,PG (oB X pins N scope (vg scope X.env) fp s H) tg g) (ht:∀pins fp s H,Ec (oB X pins N scope (vg scope X.env) fp s H) ifs tt) (he:∀pins fp s H,PE (oB X pins N scope (vg scope X.env) fp s H) elt te)
  (hs:∀x,foldedSetIterable iter X.env x=pure x:=by intro _;rfl):PE X (.ListComp elt [⟨tg,iter,ifs,0⟩] scope pos) (Ed wi fr g tt te):=by
 intro pins s σ H Q I h
 have B:=S.Pz e1 e2 I.ok
 rw[eval_ListComp]
 refine wpAny_comprehension_free (use:=none) rfl hs B.JB B.kind B.names (bP (hi pins s σ H _ I h) fun v s1 h1=>bP h1 fun IU s2 h2=>?_)
 obtain⟨it,fp,tn,J,H2,e,I2,T,A6,f2,q⟩:=h2
 subst e
 refine vi (RR:=fun acc C=>compPost (model X.prog X.w) X.A X.xe none (EP X pins σ Q) acc C) B hc hg ht he I2 T A6 f2 q ?_
 intro D C s' H' J' fC ⟨m,hm⟩ qn
 refine⟨m,hm,fun h' PU=>⟨.ref D,H',?_,rfl,qn⟩⟩
 obtain⟨f0,f1,_,f3,f4,f5⟩:=fC
 exact J'.turned (t':=s'.toks) (fun b o hb e=>(PU.2 b hb).trans e) f0 f1 f3 f4 f5
end
end L2
namespace PySem
namespace F
end F
section
variable {prog:Program}{w:World}{K:Type}[DecidableEq K]{knd:KeyKind prog w K}{A:Around}{E:Value→Shared→Prop}{s:Shared}
end
end PySem
namespace PySem
section
variable {prog:Program}{w:World}{K:Type}[DecidableEq K]{knd:KeyKind prog w K}{A:Around}{E:Value→Shared→Prop}{s:Shared}
end
end PySem
namespace L2
open PySem PySem.Spec PyProof.Rows
def Bn(K:PySem.W.Frag):V→List V→Hp→VK→Prop:=fun x vs H Q=>∃l xs y,∃j:Nat,x= .ref l∧vs=[y]∧bC K H l xs∧xs.all gO=true∧gO y=true∧xs.findIdx? (fun z=>u6 z y)=some j∧Q (.int j) H
theorem vj{X:Cx}:Be X "list.index" (Bn X.K):=by
 intro pins s σ H x vs v us Q I rx rv h
 obtain⟨l,xs,y,j,rfl,rfl,hS,fl,fy,hj,q⟩:=h
 cases rx
 obtain⟨u,rfl,ru⟩:=rv.one
 obtain⟨its,r,p,z⟩:=I.list hS
 obtain⟨o,ho,Bo,n,hd⟩:=p.isList
 obtain⟨c,dd,dt,sl⟩:=o
 simp only at Bo hd
 subst Bo hd
 obtain⟨Ob,PV,PX⟩:=List.findIdx?_eq_some_iff_getElem.mp hj
 have hlen:=r.length
 have all:∀i (h1:i<xs.length) (h2:i<its.length),u7 y its[i]=u6 xs[i] y:=fun i h1 h2=>by
  obtain⟨w',hw,yc⟩:=r.get (List.getElem?_eq_getElem h1)
  rw[List.getElem?_eq_getElem h2] at hw
  have e:its[i]=w':=Option.some.inj hw
  rw[e]
  exact qb yc (List.all_eq_true.mp fl _ (List.getElem_mem h1))
 refine call_meets F.slot_list_index ⟨_,ho,rfl⟩ F.entry_list_index (F.args_list_index_2 _ _) (SeqAt.list_indexAt l its.toArray n dd sl u (u7 y) j (by rw[List.size_toArray];omega) ?_ ?_ ?_) ⟨ho,?_,?_⟩
 ·have:(sizeLine:Nat) <2^63:=gT
  omega
 ·rw[List.getElem_toArray,all j Ob (by omega)]
  exact PV
 ·intro m hm PY
  rw[List.size_toArray] at hm
  rw[List.getElem_toArray,all m (by omega) hm]
  have:=PX m PY
  simpa using this
 ·intro y' Jv
  exact hZ ru fy r fl y' (by simpa using Jv)
 ·exact⟨.int j,H,I.tok _,⟨_,rfl⟩,q⟩
end L2
namespace L2
open PySem PySem.Spec PyProof.Rows
structure yj(K:PySem.W.Frag)(x qual:Str)(st:Stmt)(f:Addr)(fd:FuncData)(dV:Value):Prop where
 ex:∃(oc:Value) (od:Option Addr) (kV doc pm:Value) (an:Option Addr) (bb ct:Value) (kU:Array (Option Value)),
  fd=PySem.W.fnOf x qual (br st) (aW st) (ak st) dV kV doc pm an bb ct∧K.lookup f=some ⟨oc,od, .func fd,kU⟩∧PySem.W.codeIn K bb qual=true
 kp:PySem.W.keepIn K (.ref f)=true
section
variable {P:Program}{w:World}{K:PySem.W.Frag}{mg:Str→Option Value}{base:Heap}
theorem yj.ok{x qual:Str}{st:Stmt}{f:Addr}{fd:FuncData}{dV:Value}{N ps:List Str}{k:Nat}{sp:Sp}(F:yj K x qual st f fd dV)(S:ax N ps (ak st))(len:∀vs H Q E,sp vs H Q E→vs.length=ps.length)
  (cN:∀(bb:Value) (A:Around) (outer:List Env) (s:Shared) (H:Hp) (vs:List V) (Q:VK) (E:XK),bW k (A.deeper (envOfC qual (ak st) s.heap.objs.size f bb))→sp vs H Q E→
   ∃t,iR (fF mF P w K mg base N qual (ak st) f bb A outer s H E).xJ (aW st) t∧t { nx:=fun _ H'=>Q .bR H',rt:=Q } (start N vs) H):dn P w K mg base mF (k+1) f fd ps sp:=by
 obtain⟨oc,od,kV,doc,pm,an,bb,ct,kU,rfl,lk,jY⟩:=F.ex
 refine fn_of lk jY S len fun A outer s H vs Q E hr uw=>?_
 obtain⟨t,h,q⟩:=cN bb A outer s H vs Q E hr uw
 exact⟨t,h.xJ,q⟩
theorem jA{x qual:Str}{st:Stmt}{f:Addr}{oc dV:Value}{od an:Option Addr}{kU:Array (Option Value)}{kV doc pm bb ct:Value}(l:K.lookup f=some ⟨oc,od, .func (PySem.W.fnOf x qual (br st) (aW st) (ak st) dV kV doc pm an bb ct),kU⟩)
  (c:PySem.W.codeIn K bb qual=true) (k:PySem.W.keepIn K (.ref f)=true):yj K x qual st f (PySem.W.fnOf x qual (br st) (aW st) (ak st) dV kV doc pm an bb ct) dV:=⟨⟨oc,od,kV,doc,pm,an,bb,ct,kU,rfl,l,c⟩,k⟩
def Def(K:PySem.W.Frag)(mg:Str→Option Value)(x q:Str)(st:Stmt)(ps:List Str):Prop:=∃f fd,ux K x q st f fd∧Binds K fd ps []∧mg x=some (.ref f)
structure PZ(P:Program)(w:World)(K:PySem.W.Frag)(mg:Str→Option Value)(base:Heap)(k:Nat)(x:Str)(ps:List Str)(sp:Sp)(f:Addr)(fd:FuncData):Prop where
 ok:dn P w K mg base mF k f fd ps sp
 kp:PySem.W.keepIn K (.ref f)=true
 b:Binds K fd ps []
 g:mg x=some (.ref f)
def bj(P:Program)(w:World)(K:PySem.W.Frag)(mg:Str→Option Value)(base:Heap)(k:Nat)(x:Str)(ps:List Str)(sp:Sp):Prop:=∃f fd,PZ P w K mg base k x ps sp f fd
theorem Def.e9{x q:Str}{st:Stmt}{N ps:List Str}{k:Nat}{sp:Sp}(D:Def K mg x q st ps)(S:ax N ps (ak st))(len:∀vs H Q E,sp vs H Q E→vs.length=ps.length)
  (cN:∀(f:Addr) (bb:Value) (A:Around) (outer:List Env) (s:Shared) (H:Hp) (vs:List V) (Q:VK) (E:XK),bW k (A.deeper (envOfC q (ak st) s.heap.objs.size f bb))→sp vs H Q E→
   ∃t,iR (fF mF P w K mg base N q (ak st) f bb A outer s H E).xJ (aW st) t∧t { nx:=fun _ H'=>Q .bR H',rt:=Q } (start N vs) H):bj P w K mg base (k+1) x ps sp:=by
 obtain⟨f,fd,F,b,g⟩:=D
 exact⟨f,fd,F.ok S len (cN f),F.kp,b,g⟩
def bL(K:PySem.W.Frag)(C:Addr)(m q:Str)(st:Stmt)(ps:List Str):Prop:=∃f fd,ux K m q st f fd∧Binds K fd ps []∧Meth K C m f
structure JF(P:Program)(w:World)(K:PySem.W.Frag)(mg:Str→Option Value)(base:Heap)(k:Nat)(C:Addr)(m:Str)(ps:List Str)(sp:Sp)(f:Addr)(fd:FuncData):Prop where
 ok:dn P w K mg base mF k f fd ps sp
 m:Meth K C m f
 b:Binds K fd ps []
def cI(P:Program)(w:World)(K:PySem.W.Frag)(mg:Str→Option Value)(base:Heap)(k:Nat)(C:Addr)(m:Str)(ps:List Str)(sp:Sp):Prop:=∃f fd,JF P w K mg base k C m ps sp f fd
theorem bL.e9{C:Addr}{m q:Str}{st:Stmt}{N ps:List Str}{k:Nat}{sp:Sp}(D:bL K C m q st ps)(S:ax N ps (ak st))(len:∀vs H Q E,sp vs H Q E→vs.length=ps.length)
  (cN:∀(f:Addr) (bb:Value) (A:Around) (outer:List Env) (s:Shared) (H:Hp) (vs:List V) (Q:VK) (E:XK),bW k (A.deeper (envOfC q (ak st) s.heap.objs.size f bb))→sp vs H Q E→
   ∃t,iR (fF mF P w K mg base N q (ak st) f bb A outer s H E).xJ (aW st) t∧t { nx:=fun _ H'=>Q .bR H',rt:=Q } (start N vs) H):cI P w K mg base (k+1) C m ps sp:=by
 obtain⟨f,fd,F,b,g⟩:=D
 exact⟨f,fd,F.ok S len (cN f),g,b⟩
def iY(K:PySem.W.Frag)(C:Addr)(q:Str)(st:Stmt)(ps:List Str)(ds:List Int):Prop:=∃f fd dV,yj K "__init__" q st f fd dV∧Mk K C f∧∀j,j≤ds.length→∃us,Vals ((ds.drop j).map V.int) us∧Binds K fd ps us
structure JG(P:Program)(w:World)(K:PySem.W.Frag)(mg:Str→Option Value)(base:Heap)(k:Nat)(C:Addr)(ps:List Str)(ds:List Int)(sp:Sp)(f:Addr)(fd:FuncData):Prop where
 ok:dn P w K mg base mF k f fd ps sp
 m:Mk K C f
 b:∀j,j≤ds.length→∃us,Vals ((ds.drop j).map V.int) us∧Binds K fd ps us
def eD(P:Program)(w:World)(K:PySem.W.Frag)(mg:Str→Option Value)(base:Heap)(k:Nat)(C:Addr)(ps:List Str)(ds:List Int)(sp:Sp):Prop:=∃f fd,JG P w K mg base k C ps ds sp f fd
theorem iY.e9{C:Addr}{q:Str}{st:Stmt}{N ps:List Str}{ds:List Int}{k:Nat}{sp:Sp}(D:iY K C q st ps ds)(S:ax N ps (ak st))(len:∀vs H Q E,sp vs H Q E→vs.length=ps.length)
  (cN:∀(f:Addr) (bb:Value) (A:Around) (outer:List Env) (s:Shared) (H:Hp) (vs:List V) (Q:VK) (E:XK),bW k (A.deeper (envOfC q (ak st) s.heap.objs.size f bb))→sp vs H Q E→
   ∃t,iR (fF mF P w K mg base N q (ak st) f bb A outer s H E).xJ (aW st) t∧t { nx:=fun _ H'=>Q .bR H',rt:=Q } (start N vs) H):eD P w K mg base (k+1) C ps ds sp:=by
 obtain⟨f,fd,dV,F,g,b⟩:=D
 exact⟨f,fd,F.ok S len (cN f),g,b⟩
end
theorem aK.new{H:Hp}{p:Addr}{o:HO}(h:H p=none):aK H (upd H p o):=fun b q e=>by
 rw[ah (af e h)];exact e
theorem int_at{ns:List Int}{i:Nat}{y:V}(h:(ns.map V.int)[i]? =some y):∃z,ns[i]? =some z∧y=V.int z:=by
 rw[List.getElem?_map] at h
 cases e:ns[i]? with
 |none=>rw[e] at h;cases h
 |some z=>rw[e] at h;exact⟨z,rfl,(Option.some.inj h).symm⟩
end L2
namespace L2
open PySem
theorem cw:bootBuiltins "len" =some (.builtin "len"):=PySem.boot_len
theorem aY:bootBuiltins "isinstance" =some (.builtin "isinstance"):=by decide+kernel
theorem qe:bootBuiltins "int" =some (.type "int"):=by decide+kernel
theorem vk:bootBuiltins "str" =some (.type "str"):=by decide+kernel
theorem yk:bootBuiltins "bool" =some (.type "bool"):=by decide+kernel
theorem mH:bootBuiltins "list" =some (.type "list"):=by decide+kernel
theorem fG{c A B:Prop}[Decidable c](hc:c)(h:A):if decide c=true then A else B:=by
 rw[if_pos (decide_eq_true hc)];exact h
theorem ei{c A B:Prop}[Decidable c](hc:¬c)(h:B):if decide c=true then A else B:=by
 rw[if_neg (by rw[decide_eq_false hc];decide)];exact h
theorem fR{α:Type}{xs:List α}{i:Int}(h0:0≤i)(h1:i<xs.length):∃v,v∈xs∧sY xs i=some v:=by
 have hl:i.toNat<xs.length:=by omega
 refine⟨xs[i.toNat],List.getElem_mem hl,?_⟩
 have:=rm (List.getElem?_eq_getElem hl)
 rwa [Int.toNat_of_nonneg h0] at this
theorem bc(x y:Str):(x++y).length=x.length+y.length:=by
 show (x.cps++y.cps).size=_
 rw[Array.size_append];rfl
theorem lD{n:Int}(h1:0≤n)(h2:n<2^64):n.natAbs.log2<1920:=by
 by_cases h:n.natAbs=0
 ·rw[h];decide
 ·have:=(Nat.log2_lt h (k:=64)).mpr (by omega)
  omega
end L2
namespace L2
open PySem PySem.Spec PyProof.Rows
inductive lE:List Expr→List V→Prop where
 |nil:lE [] []
 |int {i:Int} {j} {pos:Pos} {es:List Expr} {vs:List V} (t:lE es vs):lE (.Constant (.int i) j pos::es) (.int i::vs)
 |str {x:Str} {j} {pos:Pos} {es:List Expr} {vs:List V} (t:lE es vs):lE (.Constant (.str x) j pos::es) (.str x::vs)
def Eg(vs:List V):TA:=fun _ H Q=>Q vs H
theorem rq{X:Cx}{es:List Expr}{vs:List V}(h:lE es vs):PA X es (Eg vs):=by
 induction h with
 |nil=>exact ai
 |int t ih=>exact fun pos pins s σ H Q I q=>aa ao ih rfl pos pins s σ H Q I q
 |str t ih=>exact fun pos pins s σ H Q I q=>aa aG ih rfl pos pins s σ H Q I q
section
variable {K:PySem.W.Frag}
theorem ib{T:String}:PySem.W.kitOne K (.type T) (.type T)=some true:=by
 unfold PySem.W.kitOne
 rw[if_pos (by simp)]
theorem Bp{T U:String}{b:Bool}(h1:(Value.type T==Value.type U)=false)(h2:PySem.W.kitMeta U=true)(h3:(fastBuiltinMro T).map (·.contains (Value.type U))=some b):PySem.W.kitOne K (.type T) (.type U)=some b:=by
 unfold PySem.W.kitOne
 rw[if_neg (by rw[h1];decide)]
 unfold PySem.W.kitCls
 dsimp only
 rw[if_pos h2]
 exact h3
theorem mI:PySem.W.kitOne K (.type "int") (.type "bool")=some false:=Bp (by decide+kernel) (by decide+kernel) (by decide+kernel)
end
end L2
namespace L2
open PySem PySem.Spec PyProof.Rows
section
variable {X:Cx}{elt tg iter:Expr}{ifs:List Expr}{scope:Scope}{pos Eh py:Pos}{N:List Str}{fr:List (Option Nat)}{wi:TI}{g:TG}{tt:TT}{te:TE}
end
theorem eF{K:PySem.W.Frag}{a D:Addr}{xs:List V}{g:TG}{tt:TT}{te:TE}{Q:Hp→Prop}{σ:St}{H:Hp}(Pv:Nat→St→Hp→Prop)(h0:Pv 0 σ H)(hl:∀i σ H,i≤xs.length→Pv i σ H→bC K H a xs)
  (hs:∀i x σ H,xs[i]? =some x→Pv i σ H→∀N:St→Hp→Prop,(∀σ' H',Pv (i+1) σ' H'→N σ' H')→g x σ H fun σ3 H3=>tt σ3 H3 fun b H4=>if b=true then te σ3 H4 fun y H5=>∃ys,H5 D=some (.lst ys)∧ys.length<sizeLine∧N σ3 (upd H5 D (.lst (ys++[y]))) else N σ3 H4)
  (hd:∀σ H,Pv xs.length σ H→Q H):
  ∃W:Nat→Nat→St→Hp→Prop,(∃m,W 0 m σ H)∧∀i m σ H,W i m σ H→((zX K a).stop i H∧Q H)∨((zX K a).go i H∧∀x H2,(zX K a).xZ i H x H2→g x σ H2 fun σ3 H3=>tt σ3 H3 fun b H4=>if b=true
   then te σ3 H4 fun y H5=>∃ys,H5 D=some (.lst ys)∧ys.length<sizeLine∧∃m',m'<m∧W (i+1) m' σ3 (upd H5 D (.lst (ys++[y])))
   else∃m',m'<m∧W (i+1) m' σ3 H4):=by
 refine⟨fun i m σ H=>m+i=xs.length∧Pv i σ H,⟨xs.length,rfl,h0⟩,?_⟩
 rintro i m σ H ⟨hm,hp⟩
 have sq:=hl i σ H (by omega) hp
 by_cases hi:i<xs.length
 ·refine .inr ⟨⟨xs,xs[i],sq,List.getElem?_eq_getElem hi⟩,?_⟩
  rintro x H2 ⟨rfl,hx⟩
  exact hs i x σ H2 (hx xs sq) hp _ fun σ' H' q=>⟨m - 1,by omega,by omega,q⟩
 ·have e:i=xs.length:=by omega
  subst e
  exact .inl ⟨⟨xs,sq,Nat.le_refl _⟩,hd σ H hp⟩
end L2
namespace L2
open PySem PySem.Spec PyProof.Rows
section
variable {X:Cx}
def JH(t u:TE):TE:=fun σ H Q=>t σ H Q∨u σ H Q
theorem Bq{e:Expr}{t u:TE}(h:PE X e t)(h':PE X e u):PE X e (JH t u):=fun pins s σ H Q I q=>
 q.elim (fun z=>h pins s σ H Q I z) fun z=>h' pins s σ H Q I z
theorem j7:∀{xs:List Str} {us:List Value},Vals (xs.map V.str) us→StrsAre us xs
 | [],_, .nil=> .nil
 |x::r,_, .cons h t=>by
  obtain⟨tk,e⟩:=(show∃t,_=Value.str x t from h)
  subst e
  exact .cons x tk (j7 t)
def rJoin(K:PySem.W.Frag):V→List V→Hp→VK→Prop:=fun x vs H Q=>∃z l,∃ys:List Str,x= .str z∧vs=[.ref l]∧bC K H l (ys.map V.str)∧(ys.map (·.length)).sum+ys.length*z.length≤16777216∧Q (.str (Txt.join z ys)) H
theorem ic:Be X "str.join" (rJoin X.K):=by
 intro pins s σ H x vs v us Q I rx rv h
 obtain⟨z,l,ys,rfl,rfl,hS,hz,q⟩:=h
 obtain⟨t,e⟩:=(show∃t,v=Value.str z t from rx)
 subst e
 obtain⟨u,rfl,ru⟩:=rv.one
 cases ru
 obtain⟨its,r,p,_⟩:=I.list hS
 exact join_list p.isList (by simpa using j7 r) hz fun t' k=>⟨.str (Txt.join z ys),H,I.tok k,⟨t',rfl⟩,q⟩
mutual
inductive xN(K:PySem.W.Frag)(H:Hp):V→PyData→Prop where
 |bR:xN K H .bR .none
 |bl (b:Bool):xN K H (.bl b) (.bool b)
 |int (i:Int):xN K H (.int i) (.int i)
 |str (x:Str):xN K H (.str x) (.str x)
 |lst {a:Addr} {xs:List V} {ds:List PyData} (h:bC K H a xs) (t:qf K H xs ds):xN K H (.ref a) (.list ds)
 |tup {a:Addr} {xs:List V} {ds:List PyData} (h:g8 K H a xs) (t:qf K H xs ds):xN K H (.ref a) (.tuple ds)
inductive qf(K:PySem.W.Frag)(H:Hp):List V→List PyData→Prop where
 |nil:qf K H [] []
 |cons {x:V} {d:PyData} {xs:List V} {ds:List PyData} (h:xN K H x d) (t:qf K H xs ds):qf K H (x::xs) (d::ds)
end
mutual
theorem fS{pins:List (Addr×Obj)}{σ:St}{H:Hp}{s:Shared}(I:Inv X pins σ H s){x:V}{d:PyData}(h:xN X.K H x d){u:Value}(r:RelV x u):∃as,Reads s.heap u d as:=by
 cases h with
 |bR=>cases (show u=Value.none from r);exact⟨_, .none⟩
 |bl b=>cases (show u=Value.bool b from r);exact⟨_, .bool b⟩
 |int i=>obtain⟨t,rfl⟩:=(show∃t,u=Value.int i t from r);exact⟨_, .int i t⟩
 |str y=>obtain⟨t,rfl⟩:=(show∃t,u=Value.str y t from r);exact⟨_, .str y t⟩
 | @lst a xs ds hS t=>
   cases (show u=Value.ref a from r)
   obtain⟨its,rv,p,_⟩:=I.list hS
   obtain⟨o,ho,hc,n,hd⟩:=p.isList
   obtain⟨as,ra⟩:=fT I t rv
   exact⟨_, .list ho hc hd (by simpa using ra)⟩
 | @tup a xs ds hS t=>
   cases (show u=Value.ref a from r)
   obtain⟨its,rv,p,_⟩:=I.tuple hS
   obtain⟨o,ho,hc,n,hd⟩:=p
   obtain⟨as,ra⟩:=fT I t rv
   exact⟨_, .tuple ho hc hd (by simpa using ra)⟩
theorem fT{pins:List (Addr×Obj)}{σ:St}{H:Hp}{s:Shared}(I:Inv X pins σ H s){xs:List V}{ds:List PyData}(h:qf X.K H xs ds){us:List Value}(r:Vals xs us):∃as,ReadsAll s.heap us ds as:=by
 cases h with
 |nil=>cases r;exact⟨_, .nil⟩
 |cons h t=>
  cases r with
  |cons r1 r2=>
   obtain⟨as,ra⟩:=fS I h r1
   obtain⟨bs,rb⟩:=fT I t r2
   exact⟨_, .cons ra rb⟩
end
def Ei(neg:Bool)(K:PySem.W.Frag):R2:=fun x y H Q=>∃d e,xN K H x d∧xN K H y e∧SeqAt.shaped d=true∧SeqAt.shaped e=true∧Q (.bl (neg^^PyData.eqv d e)) H
theorem Br(hu:X.A.units+64<cLine):iP X (compareOp .Eq) (Ei false X.K):=by
 intro pins s σ H x y v u Q I rx ry h
 obtain⟨d,e,hd,he,sd,se,q⟩:=h
 obtain⟨as,ra⟩:=fS I hd rx
 obtain⟨bs,rb⟩:=fS I he ry
 exact SeqAt.compareEq_shaped ra rb sd se hu ⟨.bl (PyData.eqv d e),H,I,rfl,by simpa using q⟩
theorem vm(hu:X.A.units+64<cLine):iP X (compareOp .NotEq) (Ei true X.K):=by
 intro pins s σ H x y v u Q I rx ry h
 obtain⟨d,e,hd,he,sd,se,q⟩:=h
 obtain⟨as,ra⟩:=fS I hd rx
 obtain⟨bs,rb⟩:=fS I he ry
 exact SeqAt.compareNe_shaped ra rb sd se hu ⟨.bl (!PyData.eqv d e),H,I,rfl,by simpa using q⟩
end
end L2
namespace L2
open PySem PySem.Spec PyProof.Rows
section
variable {X:Cx}
end
theorem jB{tt:TT}{A B r:TS}{D:Ends}{σ:St}{H:Hp}(Pm:St→Hp→Prop)(h:∀N:St→Hp→Prop,(∀σ' H',Pm σ' H'→N σ' H')→A3 tt A B { D with nx:=N } σ H)(hr:∀σ' H',Pm σ' H'→r D σ' H'):uQ (A3 tt A B) r D σ H:=h _ hr
section
variable {X:Cx}{pins:List (Addr×Obj)}{σ:St}{H:Hp}{s:Shared}{h':Heap}
end
theorem vn:bootBuiltins "abs" =some (.builtin "abs"):=by decide+kernel
theorem Bs(xs:List V)(k:Nat):kW xs none (some (k:Int))=xs.take k:=by
 unfold kW
 rw[HT.u5,HT.mB,List.drop_zero,Nat.sub_zero]
 rcases Nat.le_total k xs.length with h|h
 ·rw[Nat.min_eq_left h]
 ·rw[Nat.min_eq_right h,List.take_length,List.take_of_length_le h]
theorem vo(xs:List V)(j k:Nat):kW xs (some (j:Int)) (some (k:Int))=(xs.drop j).take (k - j):=by
 unfold kW
 rw[HT.mB,HT.mB]
 rcases Nat.le_total j xs.length with h|h
 ·rw[Nat.min_eq_left h]
  rcases Nat.le_total k xs.length with h'|h'
  ·rw[Nat.min_eq_left h']
  ·rw[Nat.min_eq_right h',List.take_of_length_le (by rw[List.length_drop];exact Nat.le_refl _),List.take_of_length_le (by rw[List.length_drop];omega)]
 ·rw[Nat.min_eq_right h,List.drop_length,List.drop_of_length_le h,List.take_nil,List.take_nil]
end L2
namespace L2
open PySem PySem.Spec PyProof.Rows
section
variable {K:PySem.W.Frag}{g:TG}{tt:TT}{te:TE}{tb:TS}{D:Ends}
end
end L2
namespace L2
open PySem PySem.Spec PyProof.Rows
section
variable {X:Cx}{pins:List (Addr×Obj)}{σ:St}{H:Hp}{s:Shared}{N:List Str}{fr:List (Option Nat)}{scope:Scope}{fp:List Addr}
end
section
variable {X:Cx}{elt tg iter:Expr}{ifs:List Expr}{scope:Scope}{pos Eh py:Pos}{N:List Str}{fr:List (Option Nat)}{wi:TI}{g:TG}{tt:TT}{te:TE}
end
section
variable {X:Cx}{tg:Expr}(K:PySem.W.Frag)
end
end L2
namespace L2
open PySem PySem.Spec PyProof.Rows
section
variable {K:PySem.W.Frag}{g:TG}{tt:TT}{te:TE}
end
mutual
theorem ie:∀d:PyData,d.canLay0=true→PyData.eqv d d=true
 | .none,_=>by simp [PyData.eqv]
 | .bool _,_=>by simp [PyData.eqv]
 | .int _,_=>by simp [PyData.eqv]
 | .str _,_=>by simp [PyData.eqv]
 | .list xs,h=>by rw[PyData.eqv];exact fU xs (by simpa [PyData.canLay0] using h)
 | .tuple xs,h=>by rw[PyData.eqv];exact fU xs (by simpa [PyData.canLay0] using h)
 | .dict _,h=>by simp [PyData.canLay0] at h
theorem fU:∀xs:List PyData,PyData.canLayAll0 xs=true→PyData.eqvAll xs xs=true
 | [],_=>by simp [PyData.eqvAll]
 |x::xs,h=>by
  have h':x.canLay0=true∧PyData.canLayAll0 xs=true:=by simpa [PyData.canLayAll0] using h
  rw[PyData.eqvAll,ie x h'.1,fU xs h'.2];rfl
end
theorem lF{d:PyData}(h1:d.canLay0=true)(h2:d.depth≤64):SeqAt.shaped d=true:=by
 unfold SeqAt.shaped;rw[h1,decide_eq_true h2];rfl
section
variable {X:Cx}(K:PySem.W.Frag)
end
end L2
namespace L2
open PySem PySem.Spec PyProof.Rows
section
variable {K:PySem.W.Frag}{g:TG}{tt:TT}{te:TE}
end
end L2
namespace L2
open PySem PySem.Spec PyProof.Rows
section
variable {X:Cx}
end
end L2
namespace L2
open PySem PySem.Spec PyProof.Rows
section
variable {X:Cx}
end
end L2
namespace L2
open PySem PySem.Spec PyProof.Rows PySem.W
section
variable {O:KeyOrd}{k:Nat→O.α}{n:Nat}{I:Shared→Prop}{cmp:Nat→Nat→(Bool→Shared→Prop)→Shared→Prop}
end
end L2
namespace PySem.SeqAt
open AutoSeq1 (wpAny_loadPart')
open MeetsSeq MeetsSeq2 MeetsSeq3
def ym(e c:Nat→Bool):List Nat→Bool
 | []=>false
 |j::r=>if e j=true then ym e c r else c j
end PySem.SeqAt
namespace L2
open PySem PySem.Spec PyProof.Rows PySem.SeqAt PySem.W
@[reducible] def JI:KeyOrd where
  α:=List Int
  blt a b:=decide (a<b)
  irrefl a:=by simp
  trans a b c h1 h2:=by simp only [decide_eq_true_eq] at*;exact List.lt_trans h1 h2
  negTrans a b c h:=by
   simp only [decide_eq_true_eq] at*
   by_cases JJ:a<b
   ·exact .inl JJ
   ·exact .inr (List.lt_of_le_of_lt (List.not_lt.mp JJ) h)
  total a b h1 h2:=by simp only [decide_eq_false_iff_not] at*;exact List.le_antisymm (List.not_lt.mp h2) (List.not_lt.mp h1)
theorem yn:∀(xs ys:List Int) (d:Nat) (f g:Nat→Int),xs.length=ys.length→(∀j,j<xs.length→f (d+j)=xs.getD j 0)→(∀j,j<xs.length→g (d+j)=ys.getD j 0)→
  ym (fun j=>f j==g j) (fun j=>decide (f j<g j)) (List.range' d xs.length)=decide (xs<ys)
 | [],[],d,f,g,_,_,_=>by simp [ym]
 |x::xs,y::ys,d,f,g,hl,hf,hg=>by
  have h0:=hf 0 (by simp)
  have g0:=hg 0 (by simp)
  simp at h0 g0
  have ih:=yn xs ys (d+1) f g (by simpa using hl) (fun j hj=>by
   have:=hf (j+1) (by simp;omega)
   rw[show d+1+j=d+(j+1) by omega,this];simp) (fun j hj=>by
   have:=hg (j+1) (by simp;omega)
   rw[show d+1+j=d+(j+1) by omega,this];simp)
  rw[List.length_cons,List.range'_succ,ym,ih,h0,g0]
  by_cases e:x=y
  ·subst e
   rw[if_pos (by simp)]
   simp [List.cons_lt_cons_iff]
  ·rw[if_neg (by simpa using e)]
   simp [List.cons_lt_cons_iff,e]
section
variable {prog:Program}{w:World}{A:Around}{E:Value→Shared→Prop}{s:Shared}
end
section
variable {X:Cx}
end
end L2
namespace L2
open PySem PySem.Spec PyProof.Rows
section
variable {X:Cx}
end
end L2
namespace L2
open PySem PySem.Spec PyProof.Rows
section
variable {K:PySem.W.Frag}{g:TG}{tt:TT}{te:TE}
end
section
variable {X:Cx}
end
end L2
namespace L2
open PySem PySem.Spec PyProof.Rows
section
variable {K:PySem.W.Frag}{g:TG}{tt:TT}{te:TE}
end
section
variable {X:Cx}
end
end L2
namespace PySem.W
open PySem PySem.Calls PyProof.Rows PyProof.V PySem.Spec
section
variable {prog:Program}{w:World}{A:Around}{E:Value→Shared→Prop}{s:Shared}{T:String}{r d:Addr}{n:Nat}{P:Nat→Value→Prop}{OK:Heap→Prop}
end
end PySem.W
namespace L2
open PySem PySem.Spec PyProof.Rows PySem.W
section
variable {X:Cx}
end
end L2
namespace L2
open PySem PySem.Spec PyProof.Rows
section
variable {X:Cx}
def JK(K:PySem.W.Frag):R2:=fun x y H Q=>∃a b xs,x= .ref a∧y= .ref b∧bC K H a xs∧bC K H b []∧Q (.bl xs.isEmpty) H
theorem mJ(hu:X.A.units+1<cLine):iP X (compareOp .Eq) (JK X.K):=by
 intro pins s σ H x y v u Q I rx ry h
 obtain⟨a,b,xs,rfl,rfl,hx,hy,q⟩:=h
 cases rx
 cases ry
 obtain⟨its,rv,p,_⟩:=I.list hx
 obtain⟨P0,yc,p',_⟩:=I.list hy
 cases yc
 have Ej:X.A.units<cLine:=by omega
 cases xs with
 |nil=>
  cases rv
  exact SeqAt.eq_listAt (e:=fun _=>true) p.isList p'.isList rfl Ej (fun j h1 h2=>absurd h1 (by simp)) ⟨.bl true,H,I,by simp [RelV],q⟩
 |cons z zs=>
  cases rv with
  |cons r1 r2=>exact SeqAt.eq_list_lengthsAt p.isList p'.isList (by simp) Ej ⟨.bl false,H,I,rfl,q⟩
end
end L2
namespace L2
open PySem PySem.Spec PyProof.Rows
section
variable {X:Cx}
theorem dN:iP X (compareOp .LtE) (fun x y H Q=>∃i j,x= .str i∧y= .str j∧Q (.bl (!decide (j.cps.toList<i.cps.toList))) H):=by
 intro pins s σ H x y v u Q I rx ry h
 obtain⟨i,j,rfl,rfl,q⟩:=h
 obtain⟨t,rfl⟩:=(show∃t,v=Value.str i t from rx)
 obtain⟨t',rfl⟩:=(show∃t,u=Value.str j t from ry)
 exact PySem.P.le_str ⟨.bl _,H,I,rfl,q⟩
theorem tq:fO X (.type "int") (fun xs H Q=>∃x n,xs=[.str x]∧PySem.intText? x=some n∧x.length≤640∧Q (.int n) H):=by
 intro pins s σ H xs us Q I r h
 obtain⟨x,n,rfl,hn,hl,q⟩:=h
 obtain⟨u,rfl,ru⟩:=vals1 r
 obtain⟨t,rfl⟩:=(show∃t,u=Value.str x t from ru)
 exact PySem.W.KIN.call_text hn hl ⟨.int n,H,I.tok _,⟨_,rfl⟩,q⟩
def JL:V→Option Int→Option Int→Hp→VK→Prop:=fun x lo hi H Q=>∃y,x= .str y∧y.length≤sizeLine∧Q (.str (Txt.slice y lo hi)) H
theorem fb:Jj X JL:=by
 intro pins s σ H x v vl vu lo hi sl Q I rx hs pl pu h
 obtain⟨y,rfl,hz,q⟩:=h
 obtain⟨t,rfl⟩:=(show∃t,v=Value.str y t from rx)
 refine⟨"str",_,F.slot_str_getitem.lookup,typeIs_str _ _ _,?_⟩
 cases pl with
 |none=>cases pu with
  |none=>exact wpAny_getItem_str_slice (l:=none) (u:=none) (st:=none) hs rfl (post_val_or_str ⟨Nat.le_trans (Txt.slice_le y _ _) hz,fun t' k=>⟨.str _,H,I.tok k,⟨t',rfl⟩,q⟩⟩)
  |int j uj=>exact wpAny_getItem_str_slice (l:=none) (u:=some (j,uj)) (st:=none) hs rfl (post_val_or_str ⟨Nat.le_trans (Txt.slice_le y _ _) hz,fun t' k=>⟨.str _,H,I.tok k,⟨t',rfl⟩,q⟩⟩)
 |int i ui=>cases pu with
  |none=>exact wpAny_getItem_str_slice (l:=some (i,ui)) (u:=none) (st:=none) hs rfl (post_val_or_str ⟨Nat.le_trans (Txt.slice_le y _ _) hz,fun t' k=>⟨.str _,H,I.tok k,⟨t',rfl⟩,q⟩⟩)
  |int j uj=>exact wpAny_getItem_str_slice (l:=some (i,ui)) (u:=some (j,uj)) (st:=none) hs rfl (post_val_or_str ⟨Nat.le_trans (Txt.slice_le y _ _) hz,fun t' k=>⟨.str _,H,I.tok k,⟨t',rfl⟩,q⟩⟩)
end
def Ek(x:Str):It:=⟨fun i _=>i<x.length,fun i H v H'=>H'=H∧∃c,x.cps[i]? =some c∧v= .str ⟨#[c]⟩,fun i _=>x.length≤i⟩
theorem vp{P:Program}{w:World}{K:PySem.W.Frag}{tg:Expr}(it:Addr)(x:Str)(t:Tok):
  Turn P w K tg (Ek x) [it] it (fun i h=>h.IsStrIter it "str_ascii_iterator" x t i) where
 mem:=by simp
 obj:=fun i h st b hb=>by
  have e:b=it:=by simpa using hb
  subst e
  obtain⟨o,e,c,d⟩:=st
  exact⟨o,e,fun v z=>by rw[d] at z;cases z⟩
 keep:=fun i h h' st k=>let ⟨o,ho,r⟩:=st;⟨o,k it (by simp) o ho,r⟩
 item:=by
  intro X hP hw hK hc i pins s σ H E I hf st hg
  subst hP hw hK
  have hg:i<x.cps.size:=hg
  obtain⟨f0,f1,f2,f3,f4,f5⟩:=hf it (by simp)
  refine wpAny_pyNext_ascii_item st (Array.getElem?_eq_getElem hg) fun h' zY sb=>?_
  have I1:Inv X pins σ H { s with heap:=h',toks:=s.toks+1 }:=I.turned (t':=s.toks+1) (fun b o hb e=>(sb.2 b hb).trans e) f0 f1 f3 f4 f5
  obtain⟨oi,e,c,d⟩:=id zY
  exact⟨_,rfl,uR (s:={ s with heap:=h',toks:=s.toks+1 }) e c d (by decide) ⟨.str ⟨#[x.cps[i]]⟩,H,I1,⟨_,rfl⟩,⟨rfl,_,Array.getElem?_eq_getElem hg,rfl⟩,zY,fun b hb=>(hf b hb).1⟩⟩
 done:=by
  intro X hP hw hK hc i pins s σ H E I hf st hg
  subst hP hw hK
  have hg:x.cps.size≤i:=hg
  obtain⟨f0,f1,f2,f3,f4,f5⟩:=hf it (by simp)
  exact wpAny_pyNext_ascii_end (I.ok.hd hc) st (Array.getElem?_eq_none hg) fun h' eb=>⟨rfl,I.turned (t':=s.toks) (fun b o hb e=>eb b o hb e) f0 f1 f3 f4 f5⟩
 self:=fun _ _ _ _ _ st h=>wpAny_pyIter_striter_ascii st h
section
variable {X:Cx}{tg:Expr}
def JM(tl:TE):TI:=fun σ H R=>tl σ H fun v H1=>∃x,v= .str x∧x.cps.all (· <128)=true∧R (Ek x) H1
theorem Bt{l:Expr}{tl:TE}(hl:PE X l tl):PI X tg l (JM tl):=by
 intro pins s σ H R I h
 refine bP (hl pins s σ H _ I h) fun v s1 ⟨y,H1,I1,r1,x,e,ha,q⟩=>?_
 subst e
 obtain⟨t,rfl⟩:=(show∃t,v=Value.str x t from r1)
 refine wpAny_pyIter_ascii ha ?_
 refine⟨s1.heap.objs.size,[s1.heap.objs.size],_,_,_,rfl,I1.kept (t':=s1.toks) fun b o e=>Heap.get?_push_of_some _ e,vp _ x t,?_,fun b hb=>?_,q⟩
 ·exact⟨_,Heap.get?_push_size _ rfl,rfl,rfl⟩
 ·have e:b=s1.heap.objs.size:=by simpa using hb
  subst e
  exact I1.x2 (Nat.le_refl _) (I1.bz.fresh (Nat.le_refl _))
end
theorem yo{x:Str}{g:TG}{tb:TS}{D:Ends}{σ:St}{H:Hp}(Pv:Nat→St→Hp→Prop)(h0:Pv 0 σ H)
  (hs:∀i c σ H,x.cps[i]? =some c→Pv i σ H→g (.str ⟨#[c]⟩) σ H fun σ2 H2=>tb { D with nx:=Pv (i+1),ct:=Pv (i+1),bk:=D.nx } σ2 H2) (hd:∀σ H,Pv x.length σ H→D.nx σ H):
  ∃W:Nat→Nat→St→Hp→Prop,(∃m,W 0 m σ H)∧∀i m σ H,W i m σ H→
   ((Ek x).stop i H∧D.nx σ H)∨((Ek x).go i H∧∃N:St→Hp→Prop,(∀σ' H',N σ' H'→∃m',m'<m∧W (i+1) m' σ' H')∧∀v H',(Ek x).xZ i H v H'→g v σ H' fun σ2 H2=>tb { D with nx:=N,ct:=N,bk:=D.nx } σ2 H2):=by
 refine⟨fun i m σ H=>m+i=x.length∧Pv i σ H,⟨x.length,rfl,h0⟩,?_⟩
 rintro i m σ H ⟨hm,p⟩
 by_cases hi:i<x.length
 ·refine .inr ⟨hi,Pv (i+1),fun σ' H' q=>⟨m - 1,by omega,by omega,q⟩,?_⟩
  rintro v H' ⟨rfl,c,hc,rfl⟩
  exact hs i c σ _ hc p
 ·have e:i=x.length:=by omega
  subst e
  exact .inl ⟨Nat.le_refl _,hd σ H p⟩
end L2
namespace L2
open PySem PySem.Spec PyProof.Rows
section
variable {X:Cx}
end
end L2
namespace PySem.W
open PySem PySem.Calls PyProof.Rows PyProof.V PySem.Spec
section
variable {prog:Program}{w:World}{A:Around}{E:Value→Shared→Prop}{s:Shared}{T:String}{r d:Addr}{n:Nat}{P:Nat→Value→Prop}{OK:Heap→Prop}
end
end PySem.W
namespace L2
open PySem PySem.Spec PyProof.Rows PySem.W
section
variable {X:Cx}
end
section
variable {X:Cx}{pins:List (Addr×Obj)}{σ:St}{H:Hp}{s:Shared}{a b:Addr}{eB more:List (Key×V)}{A:Around}{E:Value→Shared→Prop}
end
section
variable {X:Cx}{o e:Expr}{apos js:Pos}{td ty:TE}
end
end L2
namespace L2
open PySem PySem.Spec PyProof.Rows
end L2
namespace L2
open PySem PySem.Spec PyProof.Rows
end L2
namespace L2
open PySem PySem.Spec PyProof.Rows PySem.W
section
variable {X:Cx}
end
end L2
namespace L2
open PySem PySem.Spec PyProof.Rows
end L2
namespace L2
open PySem PySem.Spec PyProof.Rows
section
variable {X:Cx}
end
end L2
namespace L2
open PySem PySem.Spec PyProof.Rows
section
variable {X:Cx}
end
end L2
namespace L2
open PySem PySem.Spec PyProof.Rows
section
variable {X:Cx}
def JN(K:PySem.W.Frag):R2:=fun x y H Q=>∃a b xs,x= .ref a∧y= .ref b∧bC K H a xs∧bC K H b []∧Q (.bl (!xs.isEmpty)) H
theorem Bu(hu:X.A.units+1<cLine):iP X (compareOp .NotEq) (JN X.K):=by
 intro pins s σ H x y v u Q I rx ry h
 obtain⟨a,b,xs,rfl,rfl,hx,hy,q⟩:=h
 cases rx
 cases ry
 obtain⟨its,rv,p,_⟩:=I.list hx
 obtain⟨P0,yc,p',_⟩:=I.list hy
 cases yc
 have Ej:X.A.units<cLine:=by omega
 cases xs with
 |nil=>
  cases rv
  exact SeqAt.RcNeAt.lists (e:=fun _=>true) p.isList p'.isList rfl Ej (fun j h1 h2=>absurd h1 (by simp)) _ _ _ _ ⟨.bl false,H,I,by simp [RelV],q⟩
 |cons z zs=>
  cases rv with
  |cons r1 r2=>exact SeqAt.RcNeAt.lists_lengths p.isList p'.isList (by simp) Ej _ _ _ _ ⟨.bl true,H,I,rfl,q⟩
end
end L2
namespace PySem
structure Heap.iZ(h:Heap)(e:Addr)(tb:Option Addr):Prop where
 ex:∃oe vs,h.get? e=some oe∧oe.data= .fields vs∧vs[1]? =some (tb.elim Value.none Value.ref)
 tr:∀T,tb=some T→T≠e∧∃oT ts,h.get? T=some oT∧oT.data= .fields ts∧3<ts.size
structure Heap.Moved(fs:List Addr)(e:Addr)(tb:Option Addr)(h h':Heap):Prop where
 keep:∀b o,h.get? b=some o→b≠e→tb≠some b→b∉fs→h'.get? b=some o
 slot:∀b o,h.get? b=some o→b≠e→tb≠some b→∃sl,h'.get? b=some { o with slots:=sl }
 self:∀o,h.get? e=some o→∃vs,h'.get? e=some { o with data:= .fields vs }
 ent:∀b o,tb=some b→b≠e→h.get? b=some o→∃o',h'.get? b=some o'
 size:h.objs.size≤h'.objs.size
theorem Heap.Moved.there{fs:List Addr}{e:Addr}{tb:Option Addr}{h h':Heap}(m:Heap.Moved fs e tb h h')(b:Addr)(o:Obj)(q:h.get? b=some o):∃o',h'.get? b=some o':=by
 by_cases be:b=e
 ·subst be
  obtain⟨vs,z⟩:=m.self o q
  exact⟨_,z⟩
 ·by_cases bt:tb=some b
  ·exact m.ent b o bt be q
  ·obtain⟨sl,z⟩:=m.slot b o q be bt
   exact⟨_,z⟩
theorem Heap.Moved.refl{fs:List Addr}{e:Addr}{tb:Option Addr}{h:Heap}(x:h.iZ e tb):Heap.Moved fs e tb h h:=
 ⟨fun _ _ q _ _ _=>q,fun _ o q _ _=>⟨o.slots,q⟩,fun o q=>by
  obtain⟨oe,vs,he,hd,_⟩:=x.ex
  rw[q] at he
  cases he
  exact⟨vs,by rw[q,←hd]⟩,fun _ o _ _ q=>⟨o,q⟩,Nat.le_refl _⟩
theorem Heap.Moved.trans{fs:List Addr}{e:Addr}{tb Oc:Option Addr}{h h1 h2:Heap}(x:Heap.Moved fs e tb h h1)(y:Heap.Moved fs e Oc h1 h2)(n:∀T,Oc=some T→tb=some T∨h.objs.size≤T):Heap.Moved fs e tb h h2 where
 keep:=fun b o q be bt bf=>y.keep b o (x.keep b o q be bt bf) be (fun z=>(n b z).elim bt fun w=>absurd (Heap.lt_size q) (Nat.not_lt.mpr w)) bf
 slot:=fun b o q be bt=>by
  obtain⟨sl,z⟩:=x.slot b o q be bt
  obtain⟨AX,z'⟩:=y.slot b _ z be (fun z=>(n b z).elim bt fun w=>absurd (Heap.lt_size q) (Nat.not_lt.mpr w))
  exact⟨AX,z'⟩
 self:=fun o q=>by
  obtain⟨vs,z⟩:=x.self o q
  obtain⟨Bv,z'⟩:=y.self _ z
  exact⟨Bv,z'⟩
 ent:=fun b o _ be q=>by
  obtain⟨o1,z⟩:=x.there b o q
  exact y.there b o1 z
 size:=Nat.le_trans x.size y.size
theorem Heap.Moved.mono{fs xR:List Addr}{e:Addr}{tb:Option Addr}{h h':Heap}(x:Heap.Moved fs e tb h h')(k:∀b∈fs,b∈xR):Heap.Moved xR e tb h h':=
 ⟨fun b o q be bt bf=>x.keep b o q be bt fun z=>bf (k b z),x.slot,x.self,x.ent,x.size⟩
theorem mK{o:Obj}{vs:Array Value}(hd:o.data= .fields vs)(f:Array Value→Array Value):o.mapFields f={ o with data:= .fields (f vs) }:=by
 obtain⟨a,b,c,d⟩:=o
 cases hd
 rfl
section
variable {M:Model}{A:Around}{E:Value→Shared→Prop}{s:Shared}
theorem oE{base:Heap}{env:Env}{outer:List Env}{L e:Addr}{oe:Obj}{vs:Array Value}{JO:Value}{nx:Bool}{Q:Unit→Shared→Prop}(fr:A.frames=some (env::outer))(fl:s.heap.FunFrames base (env::outer))(hL:env.frame=some L)
  (xe:s.heap.get? e=some oe) (xd:oe.data= .fields vs) (xs:1<vs.size)
  (k:∀h' T,h'.iZ e (some T)→s.heap.objs.size≤T→Heap.Moved ((env::outer).filterMap (·.frame)) e none s.heap h'→Q () { s with heap:=h' }):
  wpAny M A (do let a←frameOf env;let pl←entryPlaceOf L nx;let b←EntryCells.newEntry JO a .none (rawInt L) .none pl;setField (.ref e) 1 b) Q E s:=by
 have P1:e∉(env::outer).filterMap (·.frame):=fun z=>by
  obtain⟨_,o,q,nf⟩:=fl.mem z
  rw[xe] at q
  cases q
  exact nf vs xd
 refine wpAny_bind (wpAny_frameOf_fun fr fl hL fun g1 so=>?_)
 refine wpAny_bind (wpAny_entryPlaceOf fun pl ok=>?_)
 unfold EntryCells.newEntry newFields
 refine wpAny_bind (wpAny_newObj_type ?_ (ok.sizeOk5 _ _ _ _ _))
 have e1:g1.get? e=some oe:=(so.2.1 e P1).trans xe
 generalize hO:({ cls:= .type "traceback",dict:=none,data:= .fields ([JO, .ref L, .none,rawInt L, .none]++(if pl.isEmpty then List.replicate 6 Value.none else pl)).toArray }:Obj)=ob
 have e2:=Heap.get?_push_of_some (h:=g1) ob e1
 refine wpAny_setField e2 xd xs ?_
 have Te:g1.objs.size≠e:=Nat.ne_of_gt (Heap.lt_size e1)
 have nf:ob.isFreed=false:=by rw[←hO];rfl
 have eT:(g1.push ob).get? g1.objs.size=some ob:=Heap.get?_push_size g1 nf
 have e3:=Heap.get?_update_self (Obj.mapFields (·.setIfInBounds 1 (Value.ref g1.objs.size))) e2 (Obj.isFreed_of_fields (Obj.data_mapFields xd _))
 refine k _ g1.objs.size ⟨⟨_,_,e3,Obj.data_mapFields xd _,by simp [xs]⟩,fun T z=>?_⟩ (Nat.le_of_eq so.1.symm) ⟨fun b o q be _ bf=>?_,fun b o q be _=>?_,fun o q=>?_,fun b o z=>(by cases z),?_⟩
 ·cases z
  refine⟨Te,ob,([JO, .ref L, .none,rawInt L, .none]++(if pl.isEmpty then List.replicate 6 Value.none else pl)).toArray,?_,by rw[←hO],by simp only [List.size_toArray,List.length_append,List.length_cons,List.length_nil];omega⟩
  rw[Heap.get?_update_other _ _ (Ne.symm Te)]
  exact eT
 ·rw[Heap.get?_update_other _ _ (Ne.symm be)]
  exact Heap.get?_push_of_some _ ((so.2.1 b bf).trans q)
 ·obtain⟨sl,z⟩:=so.2.2 b o q
  refine⟨sl,?_⟩
  rw[Heap.get?_update_other _ _ (Ne.symm be)]
  exact Heap.get?_push_of_some _ z
 ·rw[xe] at q
  cases q
  exact⟨_,e3.trans (by rw[mK xd])⟩
 ·show s.heap.objs.size≤((g1.push ob).update e _).objs.size
  rw[Heap.size_after_update,Heap.size_push,←so.1]
  exact Nat.le_succ _
theorem eG{e:Addr}{tb fr:Option Addr}{Q:Unit→Shared→Prop}(x:s.heap.iZ e tb)(k:∀h',h'.iZ e tb→Heap.Moved [] e tb s.heap h'→Q () { s with heap:=h' }):wpAny M A (setFlight (.ref e) fr) Q E s:=by
 obtain⟨oe,vs,he,hd,h1⟩:=x.ex
 unfold setFlight
 refine wpAny_bind (wpAny_field he hd h1 ?_)
 cases tb with
 |none=>
  rw[if_neg (by decide)]
  exact wpAny_pure (k _ x (.refl x))
 |some T=>
  obtain⟨ne,oT,ts,hT,dT,sz⟩:=x.tr T rfl
  rw[if_pos (show ((some T).elim Value.none Value.ref != Value.none)=true from by simp)]
  generalize (fr.elim Value.none fun f=>rawInt f)=v3
  refine wpAny_setField hT dT sz ?_
  have z5:(s.heap.update T (Obj.mapFields (·.setIfInBounds 3 v3))).get? e=some oe:=(Heap.get?_update_other _ _ ne).trans he
  have HU:=Heap.get?_update_self (Obj.mapFields (·.setIfInBounds 3 v3)) hT (Obj.isFreed_of_fields (Obj.data_mapFields dT _))
  refine k _ ⟨⟨oe,vs,z5,hd,h1⟩,fun T' z=>?_⟩ ⟨fun b o q _ bt _=>?_,fun b o q _ bt=>⟨o.slots,?_⟩,fun o q=>?_,fun b o z _ _=>?_,?_⟩
  ·cases z
   exact⟨ne,_,_,HU,Obj.data_mapFields dT _,by simp [sz]⟩
  ·exact(Heap.get?_update_other _ _ fun z=>bt (by rw[z])).trans q
  ·exact(Heap.get?_update_other _ _ fun z=>bt (by rw[z])).trans q
  ·rw[he] at q
   cases q
   exact⟨vs,by rw[z5,←hd]⟩
  ·cases z
   exact⟨_,HU⟩
  ·show s.heap.objs.size≤(s.heap.update T _).objs.size
   rw[Heap.size_after_update]
   exact Nat.le_refl _
theorem mL{base:Heap}{env:Env}{outer:List Env}{L e:Addr}{tb:Option Addr}{Q:Unit→Shared→Prop}(fr:A.frames=some (env::outer))(fl:s.heap.FunFrames base (env::outer))(hL:env.frame=some L)(x:s.heap.iZ e tb)
  (k:∀h' T,h'.iZ e (some T)→tb=some T∨s.heap.objs.size≤T→Heap.Moved ((env::outer).filterMap (·.frame)) e tb s.heap h'→Q () { s with heap:=h' }):wpAny M A (noteFrame (.ref e) env) Q E s:=by
 obtain⟨oe,vs,he,hd,h1⟩:=id x.ex
 have Od:1<vs.size:=(Array.getElem?_eq_some_iff.mp h1).1
 unfold noteFrame
 simp only [hL]
 refine wpAny_bind (wpAny_field he hd h1 ?_)
 cases tb with
 |none=>
  rw[if_neg (by decide)]
  exact oE fr fl hL he hd Od fun h' T a b c=>k h' T a (.inr b) c
 |some T=>
  obtain⟨ne,oT,ts,hT,dT,sz⟩:=x.tr T rfl
  rw[if_pos (show ((some T).elim Value.none Value.ref != Value.none)=true from by simp)]
  have h3:ts[3]? =some ts[3]:=Array.getElem?_eq_getElem sz
  refine wpAny_bind (wpAny_field hT dT h3 ?_)
  by_cases c:(ts[3]==rawInt L)=true
  ·rw[if_pos c]
   exact wpAny_pure (k _ T x (.inl rfl) (.refl x))
  ·rw[if_neg c]
   refine wpAny_bind (wpAny_setField hT dT sz ?_)
   have ot:∀b,b≠T→(s.heap.update T (Obj.mapFields (·.setIfInBounds 3 Value.none))).get? b=s.heap.get? b:=fun b z=>Heap.get?_update_other _ _ (Ne.symm z)
   have HU:=Heap.get?_update_self (Obj.mapFields (·.setIfInBounds 3 Value.none)) hT (Obj.isFreed_of_fields (Obj.data_mapFields dT _))
   have zs:(s.heap.update T (Obj.mapFields (·.setIfInBounds 3 Value.none))).objs.size=s.heap.objs.size:=Heap.size_after_update ..
   refine oE (s:={ s with heap:=s.heap.update T (Obj.mapFields (·.setIfInBounds 3 Value.none)) }) fr (fl.of_keeps fun b o q nf=>⟨o,(ot b fun z=>?_).trans q,rfl⟩) hL ((ot e (Ne.symm ne)).trans he) hd Od fun h' T' a b c=>k h' T' a (.inr (by rw[←zs];exact b)) ?_
   ·rw[z,hT] at q
    cases q
    exact nf ts dT
   ·refine⟨fun b o q be bt bf=>c.keep b o ((ot b fun z=>bt (by rw[z])).trans q) be (fun z=>by cases z) bf,fun b o q be bt=>c.slot b o ((ot b fun z=>bt (by rw[z])).trans q) be fun z=>(by cases z),fun o q=>c.self o ((ot e (Ne.symm ne)).trans q),fun b o z be q=>?_,?_⟩
    ·cases z
     exact c.there _ _ HU
    ·rw[←zs]
     exact c.size
theorem vq{base:Heap}{env:Env}{outer:List Env}{L e:Addr}{tb:Option Addr}{Q:Unit→Shared→Prop}(fr:A.frames=some (env::outer))(fl:s.heap.FunFrames base (env::outer))(hL:env.frame=some L)(x:s.heap.iZ e tb)
  (k:∀h' T,h'.iZ e (some T)→tb=some T∨s.heap.objs.size≤T→Heap.Moved ((env::outer).filterMap (·.frame)) e tb s.heap h'→Q () { s with heap:=h' }):wpAny M A (leaving env (.ref e)) Q E s:=by
 unfold leaving
 refine wpAny_bind (mL fr fl hL x fun h1 T a b c=>eG (s:={ s with heap:=h1 }) a fun h2 a' c'=>k h2 T a' b (c.trans (c'.mono fun _ z=>absurd z (by simp)) fun T' z=>?_))
 cases z
 exact b
theorem yp{env:Env}{e T:Addr}{Q:Unit→Shared→Prop}(x:s.heap.iZ e (some T))(k:∀h',h'.iZ e (some T)→Heap.Moved [] e (some T) s.heap h'→Q () { s with heap:=h' }):
  wpAny M A (do
   if (←field (.ref e) 1)== .none then unsupported "frame.own-activation:exception-without-traceback"
   setFlight (.ref e) env.frame) Q E s:=by
 obtain⟨oe,vs,he,hd,h1⟩:=id x.ex
 refine wpAny_bind (wpAny_field he hd h1 ?_)
 rw[if_neg (by simp)]
 exact eG x k
end
end PySem
namespace PySem.W
open PySem PySem.Calls PyProof.Rows PySem.Builtin PySem.Builtin.ObjectAttr
abbrev oF:List Value:=[.type "ValueError", .type "Exception", .type "BaseException", .type "object"]
structure cj(K:Frag)(C HE f:Addr):Prop where
 obj:∃(nm q:Str) (N:Addr) (bs:List Value) (sn:List Str) (sub:List Value) (ab:Bool) (col:Option Bool) (dd:Option Addr) (k0 k1 k2 k3 k5:Option Value),
  K.lookup C=some (excClassObj nm q C N bs (.ref HE::oF) true sn sub ab col dd k0 k1 k2 k3 k5 "ValueError.__new__")
 init:findIn K (.ref C) "__init__" =some (some (.ref f))
 fn:typeIn K (.ref f)=some (.type "function")
 sa:findIn K (.ref C) "__setattr__" =some (some (.builtin "object.__setattr__"))
 ga:findIn K (.ref C) "__getattribute__" =some (some (.builtin "BaseException.__getattribute__"))
 gh:findIn K (.ref C) "__getattr__" =some none
theorem fe{C HE:Addr}{T:String}{b:Bool}(h:oF.contains (.type T)=b):(Value.ref C:: .ref HE::oF).contains (.type T)=b:=by
 rw[List.contains_cons,List.contains_cons,h]
 rfl
section
variable {prog:Program}{w:World}{A:Around}{E:Value→Shared→Prop}{R:Result→Shared→Prop}{h:Heap}{g:Array GenState}{d:Drawn}{t:Nat}{os:OsState}
variable {nm q:Str}{C N HE:Addr}{bs:List Value}{sn:List Str}{sub:List Value}{ab:Bool}{col:Option Bool}{dd:Option Addr}{k0 k1 k2 k3 k5:Option Value}
abbrev j8(vs:List Value):Obj:={ cls:= .type "tuple",data:= .seq vs.toArray }
abbrev j9(C t:Addr):Obj:={ cls:= .ref C,data:= .fields #[.ref t, .none, .none, .none, .bool false, .none] }
theorem mM{M:Model}{rest:List Value}{Q:Unit→Shared→Prop}(kC:h.get? C=some (excClassObj nm q C N bs (.ref HE::oF) true sn sub ab col dd k0 k1 k2 k3 k5 "ValueError.__new__"))
  (z:Q () ⟨h,g,d,t,os⟩):wpAny M A (checkBuiltinCall "ValueError.__new__" ⟨.ref C::rest,[]⟩) Q E ⟨h,g,d,t,os⟩:=by
 have F:=PySem.F.excBase_ValueError
 have c1:(Value.ref C:: .ref HE::oF).contains (.type "ValueError")=true:=fe (by decide+kernel)
 have f0:=F.noStar
 simp only [checkBuiltinCall,F.newKind,F.newSplit,F.newRow]
 repeat (first|refine wpAny_loadPart_at kC ?_| (refine wpAny_isSubtype_exc kC ?_;rw[c1]) |refine wpAny_staticBase_exc kC ?_|refine wpAny_madeBy_exc kC ?_|simp only [bne_self_eq_false,Bool.false_eq_true,if_false] |wp_step)
 exact z
theorem Bw{rest:List Value}(kC:h.get? C=some (excClassObj nm q C N bs (.ref HE::oF) true sn sub ab col dd k0 k1 k2 k3 k5 "ValueError.__new__"))
  (z:R (.ok (.ret (.ref (h.objs.size+1)))) ⟨(h.push (j8 rest)).push (j9 C h.objs.size),g,d,t,os⟩) (hz:rest.length≤sizeLine):
  codeAny (model prog w) A (.builtin "ValueError.__new__" ⟨.ref C::rest,[]⟩) R ⟨h,g,d,t,os⟩:=by
 have F:=PySem.F.excBase_ValueError
 have f0:=F.ends
 have c1:(Value.ref C:: .ref HE::oF).contains (.type "ValueError")=true:=fe (by decide+kernel)
 have c2:(Value.ref C:: .ref HE::oF).contains (.type "AttributeError")=false:=fe (by decide+kernel)
 have c3:(Value.ref C:: .ref HE::oF).contains (.type "NameError")=false:=fe (by decide+kernel)
 refine codeAny_builtinAt F.entry ?_
 unfold Builtin.«BaseException.__new__»
 refine wpAt_bind ?_
 show wpAt _ _ _ (stack >>= _) _ _ _
 refine wpAt_bind (wpAt_stack fun p below=>wpAt_of_wpAny ?_)
 wp_walk
 refine wpAt_of_wpAny ?_
 rw[F.owner]
 repeat (first|with_reducible refine wpAny_madeHere_exc F.canon kC ?_|with_reducible refine wpAny_loadPart_at kC ?_| (with_reducible refine wpAny_isSubtype_exc kC ?_;first|rw[c1] |rw[c2] |rw[c3]) |wp_step)
 show R _ _
 rw[Heap.size_push]
 exact z
end
section
variable {prog:Program}{w:World}{A:Around}{E:Value→Shared→Prop}{R:Result→Shared→Prop}{s:Shared}{K:Frag}{C HE f:Addr}
theorem yq{vs:List Value}(X:K.In s.heap)(Z:cj K C HE f)(hz:vs.length≤sizeLine)
  (k:codeAny (model prog w) (A.under (.builtin "type.__call__" ⟨.ref C::vs,[]⟩)) (.call (.ref f) ⟨.ref (s.heap.objs.size+1)::vs,[]⟩) (InitBack (s.heap.objs.size+1) R) { s with heap:=(s.heap.push (j8 vs)).push (j9 C s.heap.objs.size) }):
  codeAny (model prog w) A (.call (.ref C) ⟨vs,[]⟩) R s:=by
 obtain⟨hp,g,d,t,os⟩:=s
 obtain⟨nm,q,N,bs,sn,sub,ab,col,dd,k0,k1,k2,k3,k5,hK⟩:=Z.obj
 have kC:=X _ _ hK
 have F:=PySem.F.excBase_ValueError
 have f1:=tc_lookup
 have f2:=tc_bind (.ref C)
 have hT:(⟨hp,g,d,t,os⟩:Shared).TypeIs (.ref C) "type" :=⟨_,kC,rfl⟩
 refine codeAny_of_tree ?_
 show wpAny _ _ (callAny (.ref C) _) _ _ _
 repeat (any_goals (first|assumption|with_reducible refine wpAny_loadPart_at kC ?_|wp_step))
 refine⟨rfl,?_⟩
 refine codeAny_call_builtin_at (Code.quiet_builtin _ (by decide+kernel)) entry_typeCall (wpAny_check_type_call_sub kC ?_)
 repeat (first|with_reducible refine wpAny_loadPart_at kC ?_|with_reducible refine wpAny_madeBy_exc kC ?_|wp_step)
 refine codeAny_call_builtin_code (Code.quiet_builtin _ F.quiet) (mM kC ?_)
 refine Bw kC ?_ hz
 show wpAny _ _ _ _ _ _
 have keeps:∀b o,hp.get? b=some o→((hp.push (j8 vs)).push (j9 C hp.objs.size)).get? b=some o:=fun b o e=>Heap.get?_push_of_some _ (Heap.get?_push_of_some _ e)
 have P2:=keeps _ _ kC
 have X1:K.In ((hp.push (j8 vs)).push (j9 C hp.objs.size)):=fun b o e=>keeps b o (X b o e)
 have eg:((hp.push (j8 vs)).push (j9 C hp.objs.size)).get? (hp.objs.size+1)=some (j9 C hp.objs.size):=by heap_get
 have c0:(Value.ref C:: .ref HE::oF).contains (.ref C)=true:=by simp
 unfold isInstance
 repeat (first|with_reducible refine wpAny_loadPart_at eg ?_|wp_step)
 show wpAny _ _ (isSubtype (.ref C) (.ref C)) _ _ _
 refine wpAny_isSubtype_exc P2 ?_
 rw[c0]
 repeat (first|with_reducible refine wpAny_loadPart_at eg ?_|wp_step)
 show wpAny _ _ (typeLookup (.ref C) _) _ _ _
 refine looks_findIn X1 Z.init _ _ _ _ (fun _ _ e=>e) ?_
 refine wpAny_holding (wpAny_bind (bind_fn X1 _ Z.fn _ _ _ _ (fun _ _ e=>e) ?_))
 refine wpAny_bind (wpAny_call (codeAny_mono k fun r s' y=>?_))
 cases r with
 |error z=>exact y
 |ok fl=>
  cases fl with
  |ret u=>
   obtain⟨eu,y⟩:=y
   subst eu
   exact wpAny_pure (wpAny_pure y)
  |next=>exact y.elim
  |brk=>exact y.elim
  |cont=>exact y.elim
end
section
variable {prog:Program}{w:World}{A:Around}{E:Value→Shared→Prop}{R:Result→Shared→Prop}{s:Shared}{K:Frag}{C HE f e:Addr}{ox:Obj}{od:Option Obj}{vs:Array Value}{name:Str}{v:Value}{tk:Tok}
theorem cj.cd(Z:cj K C HE f):∃cd,clsIn K C=some cd∧cd.mro= .ref C:: .ref HE::oF∧cd.hasDict=true:=by
 obtain⟨nm,q,N,bs,sn,sub,ab,col,dd,k0,k1,k2,k3,k5,hK⟩:=Z.obj
 exact⟨_,by unfold clsIn;rw[hK],rfl,rfl⟩
theorem cj.mro(Z:cj K C HE f){T:String}{b:Bool}(h:oF.contains (.type T)=b):mroIn K C (.type T)=some b:=by
 obtain⟨cd,a,m,_⟩:=Z.cd
 unfold mroIn
 rw[a,Option.bind_some,m,fe h]
 rfl
theorem vr(X:K.In s.heap)(Z:cj K C HE f)(I:InstAt s.heap e ox C od)(ht:takerIn K C name=some none)
  (k:∀b,wpAny (model prog w) A.in1 (storeInOwnDict (.ref e) (.ref C) (.str name tk) name v b)
   (fun fin s'=>match fin with| .done f=>R (.ok f) s'| .again c'=>c'.quiet=true∧codeAny (model prog w) A c' R s') (fun e s'=>R (.error e) s') s):
  codeAny (model prog w) A (.call (.builtin "object.__setattr__") ⟨[.ref e, .str name tk,v],[]⟩) R s:=by
 have SO:=PySem.F.store_object
 obtain⟨cd,hc,hm,_⟩:=Z.cd
 have sub:Looks (model prog w) s.heap (isInstance (.ref e) (.type "object")) true:=I.type.andThen (looks_mroIn X (Z.mro (by decide+kernel)))
 refine codeAny_call_builtin SO.slot.plain SO.entry (@check_slot (model prog w) _ _ s "object.__setattr__" "object" "__setattr__" (.ref e) [.str name tk,v] [] _ SO.kind SO.split sub (SO.args (.ref e) (.str name tk) v) ?_)
 obtain⟨attr,ha,hr⟩:=Option.bind_eq_some_iff.mp ht
 have lm:Looks (model prog w) s.heap (mroOf (.ref C)) cd.mro:=(looks_clsIn X hc).andThen .now
 have l3:Looks (model prog w) s.heap (storeTaker? attr) none:=by
  cases attr with
  |none=>exact .now
  |some a=>
   obtain⟨b,hb,eb⟩:=Option.map_eq_some_iff.mp hr
   refine(looks_takesIn X hb).andThen ?_
   cases b with
   |true=>cases eb
   |false=>exact .now
 rw[osa_eq,refuse_eq]
 refine wpAny_bind (wpAny_bind (I.type.here (wpAny_bind (lm.here ?_))))
 rw[hm,refuseLoop_ref,refuseLoop_ref,PySem.F.store_ValueError.passes]
 exact wpAny_pure (wpAny_bind (I.type.here (wpAny_bind ((looks_findIn X ha).here (wpAny_bind (l3.here (k _)))))))
theorem yr{Q:Unit→Shared→Prop}(X:K.In s.heap)(Z:cj K C HE f)(ht:takerIn K C name=some none)(hx:s.heap.get? e=some ox)(hc:ox.cls= .ref C)(hd:ox.data= .fields vs)(hn:ox.dict=none)
  (k:∀h' JP,h'.get? e=some { ox with dict:=some s.heap.objs.size }→h'.Ns1 s.heap.objs.size (fun y=>if y=name then some v else none)→(∀b o,b≠e→s.heap.get? b=some o→h'.get? b=some o)→Q () { s with heap:=h',toks:=JP }):
  wpAny (model prog w) A (setAttr (.ref e) name v) Q E s:=by
 have I:InstAt s.heap e ox C none:=⟨hx,hc,by unfold notCls;rw[hd],by rw[hn];trivial⟩
 obtain⟨cd,jY,_,hh⟩:=Z.cd
 refine set_plain X I Z.sa (vr (s:={ s with toks:=s.toks+1 }) X Z I ht fun b=>?_)
 obtain⟨oc,HV,JQ,kU⟩:=ox
 dsimp only at hc hd hn
 subst hc hd hn
 refine wpAny_bind (wpAny_pure (wpAny_bind (wpAny_bind (wpAny_loadPart hx (wpAny_bind (Looks.here (s:={ s with toks:=s.toks+1 }) (looks_clsIn X jY) ?_))))))
 rw[hh]
 have xs:e≠s.heap.objs.size:=Nat.ne_of_lt (Heap.lt_size hx)
 rw[if_neg (by decide)]
 have Oe:=Heap.get?_push_of_some (h:=s.heap) { cls:= .type "dict",data:= .dict #[] } hx
 refine wpAny_bind (wpAny_alloc' (wpAny_bind (wpAny_update' Oe (wpAny_pure ?_))))
 generalize hG:(s.heap.push { cls:= .type "dict",data:= .dict #[] }).update e (fun o=>{ cls:=o.cls,dict:=some s.heap.objs.size,data:=o.data,slots:=o.slots })=G
 have gd:G.get? s.heap.objs.size=some { cls:= .type "dict",data:= .dict #[] }:=by
  rw[←hG]
  exact(Heap.get?_update_ne _ _ _ _ (Ne.symm xs)).trans (Heap.get?_push_at rfl rfl)
 have gx:G.get? e=some { cls:= .ref C,dict:=some s.heap.objs.size,data:= .fields vs,slots:=kU }:=by
  rw[←hG]
  exact Heap.get?_update_self _ Oe rfl
 have go:∀b o,b≠e→s.heap.get? b=some o→G.get? b=some o:=fun b o be q=>by
  rw[←hG]
  exact(Heap.get?_update_ne _ _ _ _ be).trans (Heap.get?_push_of_some _ q)
 have gn:G.Ns s.heap.objs.size (fun _=>none):=⟨_,#[],_,gd,rfl,fun y hy=>absurd hy (by simp),fun _=>rfl⟩
 show wpAny _ _ (storeInDict s.heap.objs.size (.str name s.toks) name v) _ _ { s with heap:=G,toks:=s.toks+1 }
 unfold storeInDict newKeyGuard
 refine wpAny_bind (wpAny_pure (wpAny_bind (wpAny_nsSet1 (s:={ s with heap:=G,toks:=s.toks+1 }) (Heap.Ns1.of_empty gn) fun h' n2 s2=>?_)))
 obtain⟨o2,e2,p2,q2,d2,c2⟩:=n2.count (PySem.Within.cons name v PySem.Within.nil)
 refine wpAny_bind (wpAny_lookBehind q2 (by rw[d2];exact pastItsLine_dict (Nat.le_trans c2 (by rw[List.length_cons,List.length_nil,sizeLine_eq];omega))) ?_)
 exact wpAny_pure (k _ _ ((s2.2 e xs).trans gx) n2 fun b o be q=>(s2.2 b (Nat.ne_of_lt (Heap.lt_size q))).trans (go b o be q))
theorem yt{Q:Unit→Shared→Prop}{dx:Addr}{mA:Str→Option Value}{ns:List Str}(X:K.In s.heap)(Z:cj K C HE f)(ht:takerIn K C name=some none)(hx:s.heap.get? e=some ox)(hc:ox.cls= .ref C)(hd:ox.data= .fields vs)(hn:ox.dict=some dx)
  (N1:s.heap.Ns1 dx mA) (hw:PySem.Within mA ns) (Ph:ns.length≤1000)
  (k:∀h',h'.Ns1 dx (fun y=>if y=name then some v else mA y)→Heap.SameBut dx s.heap h'→Q () { s with heap:=h',toks:=s.toks+2 }):
  wpAny (model prog w) A (setAttr (.ref e) name v) Q E s:=by
 obtain⟨oD,ed,pd,P4,dD,_⟩:=id N1
 have I:InstAt s.heap e ox C (some oD):=⟨hx,hc,by unfold notCls;rw[hd],by rw[hn];exact P4⟩
 obtain⟨cd,jY,_,hh⟩:=Z.cd
 refine set_plain X I Z.sa (vr (s:={ s with toks:=s.toks+1 }) X Z I ht fun b=>?_)
 obtain⟨oc,HV,JQ,kU⟩:=ox
 dsimp only at hc hd hn
 subst hc hd hn
 refine wpAny_bind (wpAny_pure (wpAny_bind (wpAny_bind (wpAny_loadPart hx (wpAny_bind (Looks.here (s:={ s with toks:=s.toks+1 }) (looks_clsIn X jY) ?_))))))
 rw[hh]
 refine wpAny_pure (a:=some dx) (wpAny_bind (wpAny_pure (wpAny_bind ?_)))
 refine wpAny_nsSet1 (s:={ s with toks:=s.toks+1 }) N1 fun h' n2 s2=>?_
 obtain⟨o2,e2,p2,q2,d2,c2⟩:=n2.count (PySem.Within.cons name v hw)
 refine wpAny_bind (wpAny_lookBehind q2 (by rw[d2];exact pastItsLine_dict (Nat.le_trans c2 (by rw[List.length_cons,sizeLine_eq];omega))) ?_)
 exact wpAny_pure (k _ n2 s2)
theorem Bx{Q:Value→Shared→Prop}{expr:Bool}(X:K.In s.heap)(Z:cj K C HE f)(I:InstAt s.heap e ox C od)(hf:findObj K C od name=some (.value v))(hh:handedIn v=true)(k:Q v { s with toks:=s.toks+1 }):
  wpAny (model prog w) A (getAttr (.ref e) name expr) Q E s:=by
 have T0:=I.type (M:=model prog w)
 have SG:=PySem.F.attr_ValueError.ga
 refine wpAny_bind (wpAny_mkText (wpAny_holding (wpAny_bind (T0 _ _ _ _ (fun _ _ y=>y) (wpAny_bind (looks_findIn X Z.ga _ _ _ _ (fun _ _ y=>y) ?_))))))
 dsimp only
 rw[show (onTheHeap (Value.ref C)&&Value.builtin "BaseException.__getattribute__" ==Value.builtin "object.__getattribute__")=false from by rw[show (Value.builtin "BaseException.__getattribute__" ==Value.builtin "object.__getattribute__")=false from by decide+kernel,Bool.and_false],if_neg (by decide)]
 refine wpAny_bind (looks_hook X (show (if onTheHeap (Value.ref C) then findIn K (.ref C) "__getattr__" else some none)=some none from Z.gh) _ _ _ _ (fun _ _ y=>y) (wpAny_bind (wpAny_attempt (wpAny_holding ?_))))
 unfold callGetattribute
 rw[show (expr&&onTheHeap (Value.builtin "BaseException.__getattribute__"))=false from Bool.and_false _,if_neg (by decide)]
 unfold boundAndCalled
 rw[SG.bind]
 refine wpAny_bind (wpAny_pure ?_)
 show wpAny _ _ (call (.builtin "BaseException.__getattribute__") [.ref e, .str name s.toks]) _ _ _
 refine wpAny_call (codeAny_call_builtin SG.plain PySem.F.entry_bexc_ga ?_)
 refine @check_slot (model prog w) _ _ { s with toks:=s.toks+1 } "BaseException.__getattribute__" "BaseException" "__getattribute__" (.ref e) [.str name s.toks] [] _ (by decide+kernel) (by decide+kernel) (T0.andThen (looks_mroIn X (Z.mro (by decide+kernel)))) (PySem.F.args_bexc_ga _ _) ?_
 have l1:=looks_find (M:=model prog w) X I hf
 unfold Builtin.«object.__getattribute__»
 refine wpAny_bind (wpAny_of_eq (a:=(Value.ref e,[Value.str name s.toks])) rfl ?_)
 refine wpAny_bind (wpAny_pure (a:=name) (wpAny_bind (T0 _ _ _ _ (fun _ _ y=>y) (wpAny_bind (l1 _ _ _ _ (fun _ _ y=>y) (wpAny_pure ?_))))))
 show wpAny _ _ (handedOut v) _ _ _
 rw[handedOut_of hh]
 exact wpAny_pure k
end
section
variable {M:Model}{A:Around}{E:Value→Shared→Prop}{s:Shared}{K:Frag}{env:Env}
theorem vt{x:Sem Value}{Q:Flow→Shared→Prop}(ha:A.handled=none)
  (k:wpAny M A x (fun v s1=>∃e oe vs C HE f,v= .ref e∧K.In s1.heap∧cj K C HE f∧s1.heap.get? e=some oe∧oe.cls= .ref C∧oe.data= .fields vs∧vs[1]? =some .none∧E (.ref e) s1) E s):wpAny M A (raiseStmt env (some x) none) Q E s:=by
 unfold raiseStmt
 refine wpAny_bind (wpAny_mono k (fun v s1 y=>?_) fun _ _ y=>y)
 obtain⟨e,oe,vs,C,HE,f,rfl,X,Z,he,hc,hd,h1,hE⟩:=y
 have cB:(Value.ref C:: .ref HE::oF).contains (.type "BaseException")=true:=fe (by decide+kernel)
 obtain⟨nm,q,N,bs,sn,sub,ab,col,dd,k0,k1,k2,k3,k5,hK⟩:=Z.obj
 have kC:=X _ _ hK
 obtain⟨hp,g,d,tk,os⟩:=s1
 obtain⟨oc,HV,JQ,kU⟩:=oe
 dsimp only at hc hd
 subst hc hd
 repeat (first|with_reducible refine wpAny_loadPart_at he ?_|with_reducible refine wpAny_loadPart_at kC ?_| (with_reducible refine wpAny_isSubtype_exc kC ?_;rw[cB]) |wp_step)
 rw[h1]
 refine wpAny_pure ?_
 rw[if_neg (by decide)]
 exact wpAny_pure (wpAny_raiseNew_none ha hE)
end
section
variable {prog:Program}{w:World}{A:Around}{E:Value→Shared→Prop}{s:Shared}{K:Frag}{C HE f e:Addr}{ox:Obj}{vs:Array Value}
theorem vv{us:List Value}{Q:Value→Shared→Prop}(X:K.In s.heap)(Z:cj K C HE f)(hx:s.heap.get? e=some ox)(hc:ox.cls= .ref C)(hd:ox.data= .fields vs)(h0:0<vs.size)(hz:us.length≤sizeLine)
  (k:∀h',h'.get? e=some { ox with data:= .fields (vs.setIfInBounds 0 (.ref s.heap.objs.size)) }→(∀b o,b≠e→s.heap.get? b=some o→h'.get? b=some o)→Q .none { s with heap:=h' }):
  wpAny (model prog w) A (call (.builtin "ValueError.__init__") (.ref e::us)) Q E s:=by
 have F:=PySem.F.excBase_ValueError
 obtain⟨nm,q,N,bs,sn,sub,ab,col,dd,k0,k1,k2,k3,k5,hK⟩:=Z.obj
 have kC:=X _ _ hK
 have c1:(Value.ref C:: .ref HE::oF).contains (.type "ValueError")=true:=fe (by decide+kernel)
 obtain⟨hp,g,d,t,os⟩:=s
 obtain⟨oc,HV,JQ,kU⟩:=ox
 dsimp only at hc hd
 subst hc hd
 refine wpAny_call (codeAny_call_builtin F.init.plain F.initEntry ?_)
 have f0:=F.noStar
 simp only [checkBuiltinCall,F.initKind,F.initSplit,F.initRow]
 repeat (first|with_reducible refine wpAny_loadPart_at hx ?_|with_reducible refine wpAny_loadPart_at kC ?_| (with_reducible refine wpAny_isSubtype_exc kC ?_;rw[c1]) |wp_step)
 refine wpAny_onRaise ?_
 rw[show∀(a b:String) (n:Nat),Bind.check ⟨.positional,"*","ValueError", .self,[⟨"args", .varPos,false⟩]⟩ a b n (List.map (fun x=>x.fst) ({ pos:=Value.ref e::us }:Args).kw)=pure () from fun a b n=>check_star_args _ _ _ _ _ _]
 refine wpAny_pure ?_
 wp_walk
 rw[show vs[0]? =some vs[0] from Array.getElem?_eq_getElem h0]
 refine wpAny_pure (wpAny_bind (wpAny_setField (Heap.get?_push_of_some _ hx) rfl h0 ?_))
 generalize hG:((hp.push (j8 us)).update e (Obj.mapFields (·.setIfInBounds 0 (Value.ref hp.objs.size))))=G
 have gx:G.get? e=some { cls:= .ref C,dict:=HV,data:= .fields (vs.setIfInBounds 0 (.ref hp.objs.size)),slots:=kU }:=by
  rw[←hG]
  exact Heap.get?_update_self (Obj.mapFields (·.setIfInBounds 0 (Value.ref hp.objs.size))) (Heap.get?_push_of_some (j8 us) hx) rfl
 have go:∀b o,b≠e→hp.get? b=some o→G.get? b=some o:=fun b o be q=>by
  rw[←hG]
  exact(Heap.get?_update_other _ _ (Ne.symm be)).trans (Heap.get?_push_of_some _ q)
 have fin:=k G gx go
 generalize vs[0]=v0
 cases v0 with
 |ref a=>
  dsimp only
  repeat wp_step
  exact fin
 |_=>exact wpAny_pure (wpAny_pure fin)
end
end PySem.W
namespace L2
open PySem PySem.Spec PyProof.Rows
def qg(dx:Addr)(fs:List (Str×V)):HO:= .ext fun h=>∃mA,h.Ns1 dx mA∧(∀f,g9 (fs.lookup f) (mA f))∧PySem.Within mA (fs.map (·.1))
def oG(e C:Addr)(dx:Option Addr):HO:= .ext fun h=>∃o vs,h.get? e=some o∧o.cls= .ref C∧o.dict=dx∧o.data= .fields vs∧vs[1]? =some .none
def oH(e C:Addr)(dx:Option Addr):HO:= .ext fun h=>∃o vs,h.get? e=some o∧o.cls= .ref C∧o.dict=dx∧o.data= .fields vs
section
variable {P:Program}{w:World}{H:Hp}{h:Heap}{e C dx:Addr}{od:Option Addr}{o:Obj}{vs:Array Value}
theorem z6(he:h.get? e=some o)(hc:o.cls= .ref C)(hd:o.dict=od)(hf:o.data= .fields vs):cp P w H h e (oH e C od):=
 ⟨⟨o,vs,he,hc,hd,hf⟩,⟨o,he⟩,fun _ _ ⟨o,vs,a,b⟩ k=>⟨o,vs,k _ a,b⟩⟩
theorem vw(he:h.get? e=some o)(hc:o.cls= .ref C)(hd:o.dict=od)(hf:o.data= .fields vs)(h1:vs[1]? =some .none):cp P w H h e (oG e C od):=
 ⟨⟨o,vs,he,hc,hd,hf,h1⟩,⟨o,he⟩,fun _ _ ⟨o,vs,a,b⟩ k=>⟨o,vs,k _ a,b⟩⟩
theorem z7{fs:List (Str×V)}{mA:Str→Option Value}(n:h.Ns1 dx mA)(r:∀f,g9 (fs.lookup f) (mA f))(wi:PySem.Within mA (fs.map (·.1))):cp P w H h dx (qg dx fs):=by
 obtain⟨o,es,ep,ho,z⟩:=id n
 exact⟨⟨mA,n,r,wi⟩,⟨o,ho⟩,fun _ _ ⟨m,⟨o,es,ep,ho,z⟩,r⟩ k=>⟨m,⟨o,es,ep,k _ ho,z⟩,r⟩⟩
theorem j'(ok:iO P w H h)(q:H e=some (oH e C od)):∃o vs,h.get? e=some o∧o.cls= .ref C∧o.dict=od∧o.data= .fields vs:=(ok e _ q).1
theorem mN(ok:iO P w H h)(q:H e=some (oG e C od)):∃o vs,h.get? e=some o∧o.cls= .ref C∧o.dict=od∧o.data= .fields vs∧vs[1]? =some .none:=(ok e _ q).1
theorem qh{fs:List (Str×V)}(ok:iO P w H h)(q:H dx=some (qg dx fs)):∃mA,h.Ns1 dx mA∧(∀f,g9 (fs.lookup f) (mA f))∧PySem.Within mA (fs.map (·.1)):=(ok dx _ q).1
end
structure fV(X:Cx)(T:Addr):Prop where
 above:X.s₀.heap.objs.size≤T
 loc:T≠X.env.locals
 cell:∀x c,X.env.cells.lookup x=some c→c≠T
 pn:∀p∈X.pn,p.1≠T
section
variable {X:Cx}{pins:List (Addr×Obj)}{σ:St}{H:Hp}{s:Shared}{e C:Addr}{od tb:Option Addr}{h':Heap}{ER:St→XK}{v:Value}
theorem Inv.z8(I:Inv X pins σ H s){T:Addr}(h:s.heap.objs.size≤T):fV X T:=by
 refine⟨Nat.le_trans I.sz h,fun z=>?_,fun x c q z=>?_,fun p hp z=>?_⟩
 ·subst z
  exact absurd I.lt (Nat.not_lt.mpr h)
 ·obtain⟨_,o,ho,_⟩:=I.cell x c q
  subst z
  exact absurd (Heap.lt_size ho) (Nat.not_lt.mpr h)
 ·have q:=(I.pin p (List.mem_append_left _ hp)).1
  rw[z] at q
  exact absurd (Heap.lt_size q) (Nat.not_lt.mpr h)
def ig(X:Cx)(ER:St→XK)(v:Value)(s:Shared):Prop:=
 ∃e C dx σ H tb,v= .ref e∧Inv X [] σ H s∧H e=some (oH e C dx)∧s.heap.iZ e tb∧(∀T,tb=some T→H T=none∧fV X T)∧ER σ (.ref C) dx H
def Lets(X:Cx)(ER:St→XK):Prop:=∀v s,ig X ER v s→X.xe v s
theorem fV.cq{E:Value→Shared→Prop}{T:Addr}(n:fV (X.fL E) T):fV X T:=⟨n.above,n.loc,n.cell,n.pn⟩
theorem ig.cq{E:Value→Shared→Prop}(z:ig (X.fL E) ER v s):ig X ER v s:=by
 obtain⟨e,C,dx,σ,H,tb,ev,I,he,fl,ht,hE⟩:=z
 exact⟨e,C,dx,σ,H,tb,ev,I.cq,he,fl,fun T q=>⟨(ht T q).1,(ht T q).2.cq⟩,hE⟩
theorem vx:Lets (X.fL (ig X ER)) ER:=fun _ _ z=>z.cq
theorem Inv.z9(I:Inv X pins σ H s):Inv X [] σ H s:=I.mq fun p hp=>absurd hp (by simp)
theorem Inv.moved(I:Inv X [] σ H s)(he:H e=some (oH e C od))(ht:∀T,tb=some T→H T=none∧fV X T)(m:Heap.Moved (nV X.stack) e tb s.heap h'):Inv X [] σ H { s with heap:=h' }:=by
 have ne:∀b,H b=none→b≠e:=fun b n z=>by
  subst z
  rw[he] at n
  cases n
 refine I.uG (s':={ s with heap:=h' }) (H':=H) (ch:=tb.toList) rfl ⟨fun b o q n hb hx=>m.keep b o q (ne b n) (fun z=>hx (by rw[z];simp)) hb,fun b o q n hb hx=>m.slot b o q (ne b n) fun z=>hx (by rw[z];simp),fun _ _ _ n _=>n,fun b o q _=>m.there b o q,
  fun _ _ q=>q,fun _ _ _ q=>q,fun _ ps q=>⟨#[],by simpa using q⟩⟩ (fun a o q=>?_) I.bare fun b hb=>?_
 ·by_cases ae:a=e
  ·subst ae
   rw[he] at q
   cases q
   obtain⟨o,vs,h1,h2,h3,h4⟩:=j' I.bz he
   obtain⟨Bv,z⟩:=m.self o h1
   exact z6 z h2 h3 rfl
  ·refine(I.bz a o q).og (fun b u hb z=>?_) (fun _ q=>q) fun _ _ q=>q
   have rA:∃o',H b=some o':=by
    rcases hb with hb|hb
    ·exact⟨o,by rw[hb];exact q⟩
    ·exact⟨_,hb⟩
   obtain⟨o',rA⟩:=rA
   refine m.keep b u z (fun z=>?_) (fun z=>?_) fun z=>?_
   ·rcases hb with hb|hb
    ·exact ae (hb.symm.trans z)
    ·rw[z,he] at hb
     cases hb
   ·rw[(ht b z).1] at rA
    cases rA
   ·rw[I.mn b z] at rA
    cases rA
 ·have z:tb=some b:=by
   cases tb with
   |none=>simp at hb
   |some T=>simp at hb;rw[hb]
  obtain⟨_,n⟩:=ht b z
  exact⟨.inr n.above,Ne.symm (Ne.symm n.loc),n.cell,by simpa using n.pn⟩
def yu(X:Cx):Prop:=X.stack=X.env::X.outer∧X.env.frame=some X.env.locals
theorem i0(hs:yu X)(I:Inv X pins σ H s):X.A.frames=some (X.env::X.outer)∧s.heap.FunFrames X.base (X.env::X.outer):=by
 refine⟨by rw[I.ok.frames,hs.1],?_⟩
 rw[←hs.1]
 exact I.stack
theorem qi(I:Inv X [] σ H s){tb:Option Addr}{T:Addr}(ht:∀T,tb=some T→H T=none∧fV X T)(b:tb=some T∨s.heap.objs.size≤T):∀T',some T=some T'→H T'=none∧fV X T':=fun T' z=>by
 cases z
 rcases b with b|b
 ·exact ht T b
 ·exact⟨I.bz.fresh b,I.z8 b⟩
theorem tu(hs:yu X):PassesOwn (model X.prog X.w) X.A X.env (ig X ER):=by
 intro v s' z
 obtain⟨e,C,dx,σ,H,tb,ev,I,he,fl,ht,hE⟩:=z
 subst ev
 obtain⟨fr,ff⟩:=i0 hs I
 refine mL fr ff hs.2 fl fun h1 T a b m=>?_
 have m1:Heap.Moved (nV X.stack) e tb s'.heap h1:=by unfold nV;rw[hs.1];exact m
 have I1:=I.moved he ht m1
 have t1:=qi I ht b
 refine yp (s:={ s' with heap:=h1 }) a fun h2 a2 m2=>?_
 exact⟨e,C,dx,σ,H,some T,rfl,I1.moved he t1 (m2.mono fun _ z=>absurd z (by simp)),he,a2,t1,hE⟩
end
def qj(P:Program)(w:World):uv:=fun outer H s E v s'=>
 ∃e C dx H' tb,v= .ref e∧s'.os=s.os∧AllBare s'.gens∧Un (nV outer) [] H H' s.heap s'.heap∧iO P w H' s'.heap∧H' e=some (oH e C dx)∧s'.heap.iZ e tb∧(∀T,tb=some T→H' T=none∧s.heap.objs.size≤T)∧E (.ref C) dx H'
section
variable {P:Program}{w:World}{K:PySem.W.Frag}{mg:Str→Option Value}{base:Heap}{N ps:List Str}{qual:Str}{scope:Scope}{f:Addr}{cd:Value}{A:Around}{outer:List Env}{s s':Shared}{H:Hp}{E:XK}{v:Value}
theorem oI(z:ig (fF (qj P w) P w K mg base N qual scope f cd A outer s H E) (fun _=>E) v s'):(fF (qj P w) P w K mg base N qual scope f cd A outer s H E).xe v s':=by
 obtain⟨e,C,dx,σ,H',tb,ev,I,he,fl,ht,hE⟩:=z
 subst ev
 obtain⟨fr,ff⟩:=i0 (X:=fF (qj P w) P w K mg base N qual scope f cd A outer s H E) ⟨rfl,rfl⟩ I
 refine vq fr ff rfl fl fun h1 T a b m=>?_
 have I1:=I.moved he ht m
 have t1:=qi I ht b
 have hB:=I.base
 have ne:∀b,H' b=none→b≠e:=fun b n z=>by
  subst z
  rw[he] at n
  cases n
 have nt:∀b o,s.heap.get? b=some o→tb≠some b:=fun b o q z=>absurd (Heap.lt_size q) (Nat.not_lt.mpr (ht b z).2.above)
 refine⟨e,C,dx,H',some T,rfl,I.os,I.bare,⟨fun b o q n hb hx=>?_,fun b o q n hb hx=>?_,hB.free,fun b o q hx=>?_,hB.kR,hB.jW,hB.kS⟩,I1.bz,he,a,fun T' z=>⟨(t1 T' z).1,(t1 T' z).2.above⟩,hE⟩
 ·refine m.keep b o (hB.keep b o q n hb hx) (ne b (hB.free b o q n hx)) (nt b o q) fun z=>?_
  rcases List.mem_cons.mp (show b∈s.heap.objs.size::nV outer from z) with z|z
  ·exact absurd (Heap.lt_size q) (by rw[z];exact Nat.lt_irrefl _)
  ·exact hb z
 ·obtain⟨sl,z⟩:=hB.slot b o q n hb hx
  obtain⟨AX,z'⟩:=m.slot b _ z (ne b (hB.free b o q n hx)) (nt b o q)
  exact⟨AX,z'⟩
 ·obtain⟨o',z⟩:=hB.there b o q hx
  exact m.there b o' z
def Aa(P:Program)(w:World)(K:PySem.W.Frag)(mg:Str→Option Value)(base:Heap)(N:List Str)(qual:Str)(scope:Scope)(f:Addr)(cd:Value)(A:Around)(outer:List Env)(s:Shared)(H:Hp)(E:XK):Cx:=
 (fF (qj P w) P w K mg base N qual scope f cd A outer s H E).fL (ig (fF (qj P w) P w K mg base N qual scope f cd A outer s H E) fun _=>E)
theorem aX:Lets (Aa P w K mg base N qual scope f cd A outer s H E) (fun _=>E):=fun _ _ z=>z.cq
theorem ka:PassesOwn (model P w) (Aa P w K mg base N qual scope f cd A outer s H E).A (Aa P w K mg base N qual scope f cd A outer s H E).env (Aa P w K mg base N qual scope f cd A outer s H E).xe:=tu (X:=fF (qj P w) P w K mg base N qual scope f cd A outer s H E) ⟨rfl,rfl⟩
theorem yv{st:List Stmt}{t:TS}(h:iR (Aa P w K mg base N qual scope f cd A outer s H E) st t):iR (fF (qj P w) P w K mg base N qual scope f cd A outer s H E) st t:=fun pins s1 σ H1 D I hw=>
 wpAny_mono (h pins s1 σ H1 D (I.fL _) hw) (fun _ _ q=>q.cq) fun _ _ z=>oI z
theorem ux.oJ{x:Str}{st:Stmt}{fd:FuncData}{k:Nat}{sp:Sp}(F:ux K x qual st f fd)(S:ax N ps (ak st))(len:∀vs H Q E,sp vs H Q E→vs.length=ps.length)
  (cN:∀(bb:Value) (A:Around) (outer:List Env) (s:Shared) (H:Hp) (vs:List V) (Q:VK) (E:XK),bW k (A.deeper (envOfC qual (ak st) s.heap.objs.size f bb))→sp vs H Q E→
   ∃t,iR (Aa P w K mg base N qual (ak st) f bb A outer s H E) (aW st) t∧t { nx:=fun _ H'=>Q .bR H',rt:=Q } (start N vs) H):dn P w K mg base (qj P w) (k+1) f fd ps sp:=by
 obtain⟨oc,od,kV,doc,pm,an,bb,ct,kU,rfl,lk,jY⟩:=F.ex
 refine fn_of lk jY S len fun A outer s H vs Q E hr uw=>?_
 obtain⟨t,h,q⟩:=cN bb A outer s H vs Q E hr uw
 exact⟨t,yv h,q⟩
end
section
variable {X:Cx}{pins:List (Addr×Obj)}{σ:St}{H:Hp}{s s':Shared}{ER:St→XK}{v:Value}
theorem tw(L:Lets X ER)(I:Inv X pins σ H s)(h:qj X.prog X.w X.stack H s (ER σ) v s'):X.xe v s':=by
 obtain⟨e,C,dx,H',tb,ev,os,bare,un,bz,he,fl,ht,hE⟩:=h
 have I1:Inv X pins σ H' s':=I.uG os un bz bare fun b z=>absurd z (by simp)
 exact L v s' ⟨e,C,dx,σ,H',tb,ev,I1.z9,he,fl,fun T z=>⟨(ht T z).1,I.z8 (ht T z).2⟩,hE⟩
end
section
variable {X:Cx}{k:Nat}{f C:Addr}{fd:FuncData}{ps:List Str}{sp:Sp}{gq:List V}{ds:List Value}{ER:St→XK}{x m:Str}{p pos apos:Pos}{e o:Expr}{es:List Expr}{ta:TE}{t:TA}
def By(sp:Sp)(gq:List V)(ER:St→XK)(t:TA):TE:=fun σ H Q=>t σ H fun vs H1=>sp (vs++gq) H1 Q (ER σ)
def vy(C:Addr)(m:Str)(sp:Sp)(gq:List V)(ER:St→XK)(ta:TE)(t:TA):TE:=fun σ H Q=>ta σ H fun x H1=>∃a dx fs,x= .ref a∧H1 a=some (.ins C dx fs)∧fs.lookup m=none∧
 t σ H1 fun vs H2=>sp (x::(vs++gq)) H2 Q (ER σ)
theorem mO{pins:List (Addr×Obj)}{σ:St}{H:Hp}{s:Shared}{Q:VK}{us:List Value}{vs:List V}(F:dn X.prog X.w X.K X.mg X.base (qj X.prog X.w) k f fd ps sp)(hr:bW k X.A)(hb:Binds X.K fd ps ds)(hd:Vals gq ds)(L:Lets X ER)
  (I:Inv X pins σ H s) (r:Vals vs us) (h:sp (vs++gq) H Q (ER σ)):wpAny (model X.prog X.w) X.A (call (.ref f) us) (EP X pins σ Q) X.xe s:=by
 have r2:Vals (vs++gq) (us++ds):=r.append hd
 have hl:(us++ds).length=ps.length:=by rw[←r2.length];exact F.len _ _ _ _ h
 refine wpAny_call (codeAny_mono (F.run X.A X.stack s H ⟨us,[]⟩ (us++ds) (vs++gq) Q (ER σ) hr I.x8 (hb s us I.eQ hl) r2 h) fun r s' hq=>?_)
 cases r with
 |error e=>exact tw L I hq
 |ok fl=>
  cases fl with
  |ret u=>exact I.after hq
  |next=>exact False.elim hq
  |brk=>exact False.elim hq
  |cont=>exact False.elim hq
theorem oK(F:dn X.prog X.w X.K X.mg X.base (qj X.prog X.w) k f fd ps sp)(hr:bW k X.A)(hg:Gl X x)(hm:X.mg x=some (.ref f))(hk:PySem.W.keepIn X.K (.ref f)=true)(hb:Binds X.K fd ps ds)(hd:Vals gq ds)(L:Lets X ER)
  (ha:PA X (e::es) t) (u3:(x==("__debug__" :Str))=false:=by decide) (he:starEach (e::es) X.env=(false,eval e X.env)::starEach es X.env:=by rfl) (lu:(backTo pos (starEach es X.env)).any (·.1)=false:=by rfl):
  PE X (.Call (.Name x p) (e::es) [] pos) (By sp gq ER t):=by
 intro pins s σ H Q I h
 refine wpAny_Call_Name_kw (eS I hg hm ?_ u3)
 refine PySem.W.callWith_K (h₀:=X.base) I.ok.mod.AW hk (bP (ha pos pins s σ H _ I h) fun us s1 ⟨vs,H1,I1,r,q⟩=>⟨I1.eQ,?_⟩) he lu
 exact mO F hr hb hd L I1 r q
theorem bI{pl:Sem Bool}(he:PE X o ta)(c:nX X.K C)(hm:Meth X.K C m f)(F:dn X.prog X.w X.K X.mg X.base (qj X.prog X.w) k f fd ps sp)(hr:bW k X.A)(hb:Binds X.K fd ps ds)(hd:Vals gq ds)(L:Lets X ER)(ha:PA X (e::es) t)
  (lG:starEach (e::es) X.env=(false,eval e X.env)::starEach es X.env:=by rfl) (lu:(backTo pos (starEach es X.env)).any (·.1)=false:=by rfl)
  (ht:eval (.Call (.Attribute o m apos) (e::es) [] pos) X.env=(do
   let ov←eval o X.env
   standAt apos.atName
   let (f,first)←holding [ov] (getMethod ov m pl)
   callWith pos f first (backTo pos (starEach (e::es) X.env)) (backToKw pos (keywordEach [] X.env))):=by rfl):
  PE X (.Call (.Attribute o m apos) (e::es) [] pos) (vy C m sp gq ER ta t):=by
 intro pins s σ H Q I h
 refine PySem.W.methodCall_KW (pl:=pl) (bP (he pins s σ H _ I h) fun u s1 ⟨x,H1,I1,rx,a,dx,fs,ex,ea,l,q⟩=>?_) ht
 subst ex
 obtain rfl:u=Value.ref a:=rx
 refine gU I1 ea c hm l ?_
 refine PySem.W.callWith_K (first:=[.ref a]) (h₀:=X.base) I.ok.mod.AW hm.kp (bP (ha pos pins s1 σ H1 _ I1 q) fun us s2 ⟨vs,H2,I2,r,q2⟩=>⟨I2.eQ,?_⟩) lG lu
 exact mO (us:= .ref a::us) (vs:= .ref a::vs) F hr hb hd L I2 (.cons rfl r) q2
theorem ck{pl:Sem Bool}(he:PE X o ta)(c:nX X.K C)(hm:Meth X.K C m f)(F:dn X.prog X.w X.K X.mg X.base (qj X.prog X.w) k f fd ps sp)(hr:bW k X.A)(hb:Binds X.K fd ps ds)(hd:Vals gq ds)(L:Lets X ER)
  (ht:eval (.Call (.Attribute o m apos) [] [] pos) X.env=(do
   let ov←eval o X.env
   standAt apos.atName
   let (f,first)←holding [ov] (getMethod ov m pl)
   callWith pos f first (backTo pos (starEach [] X.env)) (backToKw pos (keywordEach [] X.env))):=by rfl):
  PE X (.Call (.Attribute o m apos) [] [] pos) (vy C m sp gq ER ta Bc):=by
 intro pins s σ H Q I h
 refine PySem.W.methodCall_KW (pl:=pl) (bP (he pins s σ H _ I h) fun u s1 ⟨x,H1,I1,rx,a,dx,fs,ex,ea,l,q⟩=>?_) ht
 subst ex
 obtain rfl:u=Value.ref a:=rx
 refine gU I1 ea c hm l ?_
 exact PySem.W.callWith_K0 (first:=[.ref a]) I1.eQ hm.kp (mO (us:=[.ref a]) (vs:=[.ref a]) F hr hb hd L I1 (.cons rfl .nil) q)
def Bz(C:Addr)(sp:Sp)(t:TA):TE:=fun σ H Q=>t σ H fun vs H1=>vs.length≤100∧∀x,H1 x=none→sp (.ref x::vs) (upd H1 x (oG x C none)) (fun v H2=>v= .bR∧Q (.ref x) H2) E0
theorem tD{HE:Addr}{pins:List (Addr×Obj)}{σ:St}{H:Hp}{s:Shared}{Q:VK}{us:List Value}{vs:List V}(Z:PySem.W.cj X.K C HE f)(F:dn X.prog X.w X.K X.mg X.base mF k f fd ps sp)(hr:bW (k+1) X.A)(hb:Binds X.K fd ps [])
  (I:Inv X pins σ H s) (r:Vals vs us) (hz:vs.length≤100) (h:∀x,H x=none→sp (.ref x::vs) (upd H x (oG x C none)) (fun v H2=>v= .bR∧Q (.ref x) H2) E0):
  wpAny (model X.prog X.w) X.A (call (.ref C) us) (EP X pins σ Q) X.xe s:=by
 have hq:=h (s.heap.objs.size+1) (I.bz.fresh (Nat.le_succ _))
 have e2:((s.heap.push (PySem.W.j8 us)).push (PySem.W.j9 C s.heap.objs.size)).get? (s.heap.objs.size+1)=some (PySem.W.j9 C s.heap.objs.size):=by
  have:=Heap.get?_push_size (s.heap.push (PySem.W.j8 us)) (o:=PySem.W.j9 C s.heap.objs.size) rfl
  rwa [Heap.size_push] at this
 have I2:Inv X pins σ (upd H (s.heap.objs.size+1) (oG (s.heap.objs.size+1) C none)) { s with heap:=(s.heap.push (PySem.W.j8 us)).push (PySem.W.j9 C s.heap.objs.size) }:=
  I.laid (a:=s.heap.objs.size+1) (t':=s.toks) (fun b u q=>Heap.get?_push_of_some _ (Heap.get?_push_of_some _ q)) (Nat.le_succ _) (vw e2 rfl rfl rfl rfl)
 have r2:Vals (V.ref (s.heap.objs.size+1)::vs) (Value.ref (s.heap.objs.size+1)::us):= .cons rfl r
 have hl:(Value.ref (s.heap.objs.size+1)::us++[]).length=ps.length:=by
  have e:=r2.length
  rw[F.len _ _ _ _ hq] at e
  rw[List.append_nil]
  exact e.symm
 have Ju:us.length≤sizeLine:=by
  rw[←r.length]
  exact Nat.le_trans hz (by rw[sizeLine_eq];decide)
 have Of:=hb { s with heap:=(s.heap.push (PySem.W.j8 us)).push (PySem.W.j9 C s.heap.objs.size) } (Value.ref (s.heap.objs.size+1)::us) I2.eQ hl
 rw[List.append_nil] at Of
 refine wpAny_call (PySem.W.yq I.eQ Z Ju (codeAny_mono (F.run _ X.stack _ _ ⟨Value.ref (s.heap.objs.size+1)::us,[]⟩ (Value.ref (s.heap.objs.size+1)::us) _ _ E0 (hr.make C us []) (I2.x8.make C us []) Of r2 hq) fun r s' kT=>?_))
 cases r with
 |error e=>exact False.elim kT
 |ok fl=>
  cases fl with
  |ret u=>
   obtain⟨v,H',I3,rv,ev,q3⟩:=I2.after kT
   subst ev
   exact⟨rv,⟨V.ref (s.heap.objs.size+1),H',I3,rfl,q3⟩⟩
  |next=>exact False.elim kT
  |brk=>exact False.elim kT
  |cont=>exact False.elim kT
theorem eI{HE:Addr}(Z:PySem.W.cj X.K C HE f)(F:dn X.prog X.w X.K X.mg X.base mF k f fd ps sp)(hr:bW (k+1) X.A)(hg:Gl X x)(hm:X.mg x=some (.ref C))(hk:PySem.W.keepIn X.K (.ref C)=true)(hb:Binds X.K fd ps [])
  (ha:PA X (e::es) t) (u3:(x==("__debug__" :Str))=false:=by decide) (he:starEach (e::es) X.env=(false,eval e X.env)::starEach es X.env:=by rfl) (lu:(backTo pos (starEach es X.env)).any (·.1)=false:=by rfl):
  PE X (.Call (.Name x p) (e::es) [] pos) (Bz C sp t):=by
 intro pins s σ H Q I h
 refine wpAny_Call_Name_kw (eS I hg hm ?_ u3)
 refine PySem.W.callWith_K (h₀:=X.base) I.ok.mod.AW hk (bP (ha pos pins s σ H _ I h) fun us s1 ⟨vs,H1,I1,r,q⟩=>⟨I1.eQ,?_⟩) he lu
 exact tD Z F hr hb I1 r q.1 q.2
def BC(K:PySem.W.Frag)(te:TE)(ER:St→XK):TS:=fun _ σ H=>te σ H fun v H1=>∃e C HE f dx,v= .ref e∧PySem.W.cj K C HE f∧H1 e=some (oG e C dx)∧ER σ (.ref C) dx (upd H1 e (oH e C dx))
theorem eJ{ex:Expr}{te:TE}(hc:X.calm=true)(L:Lets X ER)(he:PE X ex te):PS X (.Raise (some ex) none pos) (BC X.K te ER):=by
 intro pins s σ H D I h
 rw[arm_exec_Raise]
 refine wpAny_bind (wpAny_standAt (PySem.W.vt (K:=X.K) (I.ok.hd hc) (wpAny_bind (bP (he pins s σ H _ I h) fun u s1 ⟨v,H1,I1,rv,e,C,HE,f,dx,ev,Z,hx,q⟩=>wpAny_bind (wpAny_standAt (wpAny_pure ?_))))))
 subst ev
 obtain rfl:u=Value.ref e:=rv
 obtain⟨o,vs,h1,h2,h3,h4,h5⟩:=mN I1.bz hx
 refine⟨e,o,vs,C,HE,f,rfl,I1.eQ,Z,h1,h2,h4,h5,L _ _ ⟨e,C,dx,σ,_,none,rfl,?_,ag,⟨⟨o,vs,h1,h4,h5⟩,fun T z=>by cases z⟩,fun T z=>(by cases z),q⟩⟩
 have J:=I1.z9.write (x:=e) (e:=e) (o:=oH e C dx) (h':=s1.heap) (t':=s1.toks) (by rw[hx];exact True.intro) (.inl rfl) (fun _ _ _ q=>q) ⟨o,h1⟩ (z6 h1 h2 h3 h4)
 exact J
end
end L2
namespace L2
open PySem PySem.Spec PyProof.Rows
theorem BD{H:Hp}{e:Addr}{o:HO}(h:H e=some o):upd H e o=H:=by
 funext b
 by_cases z:b=e
 ·subst z
  rw[ag,h]
 ·rw[ah z]
section
variable {X:Cx}{x f:Str}{a b o value ex:Expr}{ta tb tv:TE}{p pos apos pos':Pos}
structure Ab(K:PySem.W.Frag)(HE:Addr):Prop where
 sp:PySem.W.specialIn K (.ref HE) "__getattribute__" =some (some (.builtin "type.__getattribute__"))
 rd:PySem.W.readsIn K HE (.type "type")=true
 fc:PySem.W.findCls K (.ref HE) (.type "type") "__init__" =some (.val (.builtin "ValueError.__init__"))
def BE(K:PySem.W.Frag)(ta tb:TE):TE:=fun σ H Q=>ta σ H fun v H1=>tb σ H1 fun _ H2=>∃e C HE f dx,v= .ref e∧PySem.W.cj K C HE f∧H2 e=some (oG e C dx)∧Q .bR H2
theorem oM{HE:Addr}{pl:Sem Bool}(hg:Gl X x)(hm:X.mg x=some (.ref HE))(B:Ab X.K HE)(ha:PE X a ta)(hb:PE X b tb)(hd:(x==("__debug__" :Str))=false:=by decide)
  (lG:starEach [a,b] X.env=(false,eval a X.env)::starEach [b] X.env:=by rfl) (JR:starEach [b] X.env=(false,eval b X.env)::starEach [] X.env:=by rfl) (lu:(backTo pos (starEach [b] X.env)).any (·.1)=false:=by rfl)
  (ht:eval (.Call (.Attribute (.Name x p) "__init__" apos) [a,b] [] pos) X.env=(do
   let ov←eval (.Name x p) X.env
   standAt apos.atName
   let (f,first)←holding [ov] (getMethod ov "__init__" pl)
   callWith pos f first (backTo pos (starEach [a,b] X.env)) (backToKw pos (keywordEach [] X.env))):=by rfl):
  PE X (.Call (.Attribute (.Name x p) "__init__" apos) [a,b] [] pos) (BE X.K ta tb):=by
 intro pins s σ H Q I h
 refine PySem.W.methodCall_KW (pl:=pl) (eS I hg hm ?_ hd) ht
 refine PySem.W.method_cls I.eQ B.sp (PySem.W.cls_value I.eQ B.rd B.fc rfl ?_)
 have I0:=I.tok (s.toks+1)
 refine PyProof.Rows.callWith_builtin1 (bP (aa ha (aa hb ai JR) lG pos pins _ σ H (fun vs H2=>match vs with| [v,_]=>∃e C HE f dx,v=V.ref e∧PySem.W.cj X.K C HE f∧H2 e=some (oG e C dx)∧Q .bR H2|_=>False) I0 h) fun us s1 ⟨vs,H2,I2,r,q⟩=>?_) lG lu
 match vs,q with
 | [v,u],q=>
   obtain⟨e,C,HE,f,dx,e1,Z,hx,q⟩:=q
   subst e1
   obtain⟨u1,u2,rfl,r1,r2⟩:=vals2 r
   obtain rfl:u1=Value.ref e:=r1
   obtain⟨ob,vs,h1,h2,h3,h4,h5⟩:=mN I2.bz hx
   have sz:1<vs.size:=(Array.getElem?_eq_some_iff.mp h5).1
   refine PySem.W.vv I2.eQ Z h1 h2 h4 (by omega) (by rw[sizeLine_eq,List.length_cons,List.length_nil];decide) fun h' g1 g2=>⟨.bR,H2,?_,rfl,q⟩
   have J:=I2.write (x:=e) (e:=e) (o:=oG e C dx) (h':=h') (t':=s1.toks) (by rw[hx];exact True.intro) (.inl rfl) (fun b o be q=>g2 b o be q) ⟨_,g1⟩ (vw g1 h2 h3 rfl (by rw[Array.getElem?_setIfInBounds_ne (by decide)];exact h5))
   rw[BD hx] at J
   exact J
def El(K:PySem.W.Frag)(ta tv:TE)(f:Str):TS:=fun D σ H=>tv σ H fun y H1=>ta σ H1 fun v H2=>∃e C HE g,v= .ref e∧PySem.W.cj K C HE g∧PySem.W.takerIn K C f=some none∧
 ((H2 e=some (oG e C none)∧∀dx,H2 dx=none→dx≠e→D.nx σ (upd (upd H2 dx (qg dx [(f,y)])) e (oG e C (some dx))))∨
  ∃dx fs,H2 e=some (oG e C (some dx))∧H2 dx=some (qg dx fs)∧fs.length<1000∧D.nx σ (upd H2 dx (qg dx (cC f y fs))))
theorem rB(ha:PE X o ta)(hv:PE X value tv)(hs:swapsWith value (some (.Attribute o f pos')) pos.line X.env=pure false):PS X (.Assign [.Attribute o f pos'] value pos) (El X.K ta tv f):=by
 intro pins s σ H D I h
 refine plainObj_wpAny_Assign_Attribute (bP (hv pins s σ H _ I h) fun u s1 ⟨y,H1,I1,ry,q⟩=>bP (ha pins s1 σ H1 _ I1 q) fun ov s2 ⟨x,H2,I2,rx,e,C,HE,g,ex,Z,tk,q2⟩=>?_) hs
 subst ex
 obtain rfl:ov=Value.ref e:=rx
 rcases q2 with ⟨hx,q2⟩ | ⟨dx,fs,hx,hd,hl,q2⟩
 ·obtain⟨ob,vs,h1,h2,h3,h4,h5⟩:=mN I2.bz hx
  refine PySem.W.yr I2.eQ Z tk h1 h2 h4 h3 fun h' JP g1 g2 g3=>?_
  have ne:s2.heap.objs.size≠e:=Nat.ne_of_gt (Heap.lt_size h1)
  have fr:=I2.bz.fresh (Nat.le_refl s2.heap.objs.size)
  generalize hN:s2.heap.objs.size=n at g1 g2 ne fr
  have at':∀b o,H2 b=some o→b≠e→upd (upd H2 n (qg n [(f,y)])) e (oG e C (some n)) b=some o:=fun b o q be=>by
   rw[ah be,ah (af q fr)]
   exact q
  refine⟨σ,upd (upd H2 n (qg n [(f,y)])) e (oG e C (some n)),I2.un (h':=h') (t':=JP) ⟨fun b o q nn _ _=>g3 b o (fun z=>?_) q,fun b o q nn _ _=>⟨o.slots,g3 b o (fun z=>?_) q⟩,fun b o q nn _=>?_,fun b o q _=>?_,fun b xs q=>at' b _ q fun z=>?_,fun b o u q=>at' b _ q fun z=>?_,fun b ps q=>⟨#[],?_⟩⟩ fun b o q=>?_,q2 n fr ne⟩
  ·rw[z,hx] at nn;cases nn
  ·rw[z,hx] at nn;cases nn
  ·rw[ah (fun z=>by rw[z,hx] at nn;cases nn),ah (fun z=>by rw[z,←hN] at q;exact absurd (Heap.lt_size q) (Nat.lt_irrefl _))]
   exact nn
  ·by_cases be:b=e
   ·subst be
    exact⟨_,g1⟩
   ·exact⟨o,g3 b o be q⟩
  ·rw[z,hx] at q;cases q
  ·rw[z,hx] at q;cases q
  ·rw[Array.append_empty]
   exact at' b _ q fun z=>by rw[z,hx] at q;cases q
  ·by_cases be:b=e
   ·subst be
    rw[ag] at q
    cases q
    exact vw g1 h2 rfl h4 h5
   ·rw[ah be] at q
    by_cases bn:b=n
    ·subst bn
     rw[ag] at q
     cases q
     refine z7 g2 (fun g=>?_) fun g hg=>?_
     ·by_cases eg:g=f
      ·subst eg
       simp only [List.lookup,beq_self_eq_true,if_true]
       exact ry
      ·have e1:(g==f)=false:=by simpa using eg
       simp only [List.lookup,e1,if_neg eg]
       exact True.intro
     ·by_cases eg:g=f
      ·simp [eg]
      ·exact absurd (if_neg eg) hg
    ·rw[ah bn] at q
     refine(I2.bz b o q).og (fun c u hc z=>g3 c u (fun ce=>?_) z) (fun c z=>at' c _ z fun ce=>?_) fun c xs z=>at' c _ z fun ce=>?_
     ·rcases hc with hc|hc
      ·exact be (hc.symm.trans ce)
      ·rw[ce,hx] at hc;cases hc
     ·rw[ce,hx] at z;cases z
     ·rw[ce,hx] at z;cases z
 ·obtain⟨ob,vs,h1,h2,h3,h4,h5⟩:=mN I2.bz hx
  obtain⟨mA,n1,r1,w1⟩:=qh I2.bz hd
  have hz:(fs.map (·.1)).length≤1000:=by rw[List.length_map];omega
  refine PySem.W.yt I2.eQ Z tk h1 h2 h4 h3 n1 w1 hz fun h' g1 sb=>⟨σ,_,?_,q2⟩
  have Dg:∃o,h'.get? dx=some o:=let ⟨o,_,_,e',_⟩:=g1;⟨o,e'⟩
  refine I2.write (x:=dx) (e:=dx) (t':=s2.toks+2) (by rw[hd];exact True.intro) (.inl rfl) (fun b q hb z=>(sb.2 b hb).trans z) Dg (z7 g1 (fun g=>?_) fun g hg=>?_)
  ·rw[aO]
   by_cases q:g=f
   ·rw[if_pos q,if_pos q];exact ry
   ·rw[if_neg q,if_neg q];exact r1 g
  ·by_cases q:g=f
   ·rw[q];exact(eC f y fs).1
   ·exact(eC f y fs).2 g (w1 g fun z=>hg (by rw[if_neg q];exact z))
def Em(K:PySem.W.Frag)(ta:TE)(f:Str):TE:=fun σ H Q=>ta σ H fun v H1=>∃e C HE g dx fs y,v= .ref e∧PySem.W.cj K C HE g∧PySem.W.findIn K (.ref C) f=some none∧H1 e=some (oH e C (some dx))∧H1 dx=some (qg dx fs)∧fs.lookup f=some y∧Q y H1
theorem jC(he:PE X ex ta)(hb:attributeBase ex f X.env (eval ex X.env)=eval ex X.env):PE X (.Attribute ex f pos) (Em X.K ta f):=by
 intro pins s σ H Q I h
 refine rk hb (bP (he pins s σ H _ I h) fun u s1 ⟨x,H1,I1,rx,e,C,HE,g,dx,fs,y,ex,Z,fi,hx,hd,l,q⟩=>?_)
 subst ex
 obtain rfl:u=Value.ref e:=rx
 obtain⟨ob,vs,h1,h2,h3,h4⟩:=j' I1.bz hx
 obtain⟨mA,n1,r1,w1⟩:=qh I1.bz hd
 obtain⟨od,ho,hl⟩:=iT n1
 obtain⟨u,hu,ru⟩:=g9.some_of (v:=y) (o:=mA f) (by rw[←l];exact r1 f)
 obtain⟨cd,jY,_,hh⟩:=Z.cd
 have J:PySem.W.InstAt s1.heap e ob C (some od):=⟨h1,h2,by unfold PySem.W.notCls;rw[h4],by rw[h3];exact ho⟩
 exact PySem.W.Bx I1.eQ Z J (PySem.W.findObj_own (by unfold PySem.W.hasDictIn;rw[jY];exact hh) fi rfl (by rw[hl,hu])) (lr ru) ⟨y,H1,I1.tok _,ru,q⟩
def JS(ta:TE):TE:=fun σ H Q=>ta σ H fun v H1=>(∃i,v= .int i∧i.natAbs.log2<1920∧Q (.str (toString i)) H1)∨∃y,v= .str y∧y.length≤sizeLine∧Q (.str y) H1
theorem vz(he:PE X ex ta):PE X (.FormattedValue ex (-1) none pos) (JS ta):=by
 intro pins s σ H Q I h
 refine FormattedValue_plain (bP (he pins s σ H _ I h) fun u s1 ⟨v,H1,I1,rv,q⟩=>?_)
 rcases q with ⟨i,rfl,hi,q⟩ | ⟨y,rfl,hy,q⟩
 ·obtain⟨t,rfl⟩:=rv
  exact formatField_int_small hi ⟨.str (toString i),H1,I1.tok _,⟨_,rfl⟩,q⟩
 ·obtain⟨t,rfl⟩:=rv
  exact formatField_str (fun t' tk=>⟨.str y,H1,I1.tok tk,⟨_,rfl⟩,q⟩) hy
def PF(X:Cx)(es:List Expr)(t:Str→TE):Prop:=
 ∀(acc:Str) (pins:List (Addr×Obj)) (s:Shared) (σ:St) (H:Hp) (Q:VK),Inv X pins σ H s→t acc σ H Q→wpAny (model X.prog X.w) X.A (joinParts acc (evalEach es X.env)) (EP X pins σ Q) X.xe s
def En:Str→TE:=fun acc _ H Q=>acc.length≤sizeLine∧Q (.str acc) H
def BF(te:TE)(t:Str→TE):Str→TE:=fun acc σ H Q=>te σ H fun v H1=>∃y,v= .str y∧(acc++y).length≤sizeLine∧t (acc++y) σ H1 Q
theorem vA:PF X [] En:=fun acc pins s σ H Q I h=>joinParts_nil ⟨.str acc,H,I.tok _,⟨_,rfl⟩,h.2⟩ h.1
theorem gu{es:List Expr}{t:Str→TE}(he:PE X ex ta)(hr:PF X es t)(hs:evalEach (ex::es) X.env=eval ex X.env::evalEach es X.env:=by rfl):PF X (ex::es) (BF ta t):=by
 intro acc pins s σ H Q I h
 rw[hs]
 refine joinParts_cons (bP (he pins s σ H _ I h) fun u s1 ⟨v,H1,I1,rv,y,ev,hz,q⟩=>?_)
 subst ev
 obtain⟨t',rfl⟩:=rv
 exact⟨hz,hr (acc++y) pins s1 σ H1 Q I1 q⟩
theorem rC{v1 v2:Expr}{es:List Expr}{t:Str→TE}(h:PF X (v1::v2::es) t):PE X (.JoinedStr (v1::v2::es) pos) (t Str.empty):=fun pins s σ H Q I hw=>JoinedStr_many (h Str.empty pins s σ H Q I hw)
end
end L2
namespace PySem.W
open PySem PySem.Calls PyProof.Rows
structure yw(K:Frag)(PC:Addr):Prop where
 obj:∃(nm q:Str) (N:Addr) (bs bm:List Value) (hd:Bool) (sn:List Str) (sub:List Value) (ab:Bool) (col:Option Bool) (dd:Option Addr) (k0 k1 k2 k3 k5:Option Value) (HW:String),
  K.lookup PC=some (excClassObj nm q PC N bs bm hd sn sub ab col dd k0 k1 k2 k3 k5 HW)∧bm.contains (.type "BaseException")=true
theorem qk{M:Model}{A:Around}{E:Value→Shared→Prop}{s:Shared}{K:Frag}{C HE f e PC:Addr}{ox:Obj}{b:Bool}{Q:Bool→Shared→Prop}(X:K.In s.heap)(Z:cj K C HE f)(Y:yw K PC)(hx:s.heap.get? e=some ox)(hc:ox.cls= .ref C)
  (hm:mroIn K C (.ref PC)=some b) (k:Q b s):wpAny M A (excMatches (.ref e) (.ref PC)) Q E s:=by
 obtain⟨nm,q,N,bs,sn,sub,ab,col,dd,k0,k1,k2,k3,k5,hK⟩:=Z.obj
 obtain⟨SD,q',N',SE,bm,Dg,SF,P5,SH,P6,SI,SJ,SK,SM,SQ,SR,HW,hP,hB⟩:=Y.obj
 obtain⟨cd,jY,em,_⟩:=Z.cd
 have cb:(Value.ref C:: .ref HE::oF).contains (.ref PC)=b:=by
  unfold mroIn at hm
  rw[jY,Option.bind_some,em] at hm
  exact Option.some.inj hm
 have kC:=X _ _ hK
 have kP:=X _ _ hP
 have cB:(Value.ref PC::bm).contains (.type "BaseException")=true:=by rw[List.contains_cons,hB,Bool.or_true]
 have ft:=tc_notTuple
 obtain⟨hp,g,d,tk,os⟩:=s
 unfold excMatches
 repeat (first| (with_reducible refine wpAny_loadPart_at hx ?_;rw[hc]) |with_reducible refine wpAny_loadPart_at kP ?_| (with_reducible refine wpAny_isSubtype_exc kP ?_;rw[cB]) | (with_reducible refine wpAny_isSubtype_exc kC ?_;rw[cb]) |wp_step)
 cases b<;>(wp_walk;exact k)
end PySem.W
namespace L2
open PySem PySem.Spec PyProof.Rows
abbrev Cx.pinned(X:Cx)(pn:List (Addr×Obj)):Cx:={ X with pn:=X.pn++pn }
abbrev Cx.mark(X:Cx)(e:Addr):Cx:={ X with A:=X.A.mark (some (.ref e)),calm:=false,xe:=fun _ _=>False }
section
variable {X:Cx}{pins pn:List (Addr×Obj)}{σ:St}{H:Hp}{s:Shared}{ER:St→XK}{v:Value}{D:Ends}{fl:Flow}
theorem Cx.Ok.pinned(ok:X.Ok):(X.pinned pn).Ok:=⟨ok.mod,ok.kind,ok.glob,ok.blt,ok.above,ok.inj,ok.has,ok.xU,ok.hd,ok.frames,ok.zU,ok.Df,ok.bs,ok.sQ,ok.mi,ok.mj,ok.gI,ok.uF⟩
theorem Cx.Ok.dm(ok:(X.pinned pn).Ok):X.Ok:=⟨ok.mod,ok.kind,ok.glob,ok.blt,ok.above,ok.inj,ok.has,ok.xU,ok.hd,ok.frames,ok.zU,ok.Df,ok.bs,ok.sQ,ok.mi,ok.mj,ok.gI,ok.uF⟩
theorem Inv.JT(I:Inv X pins σ H s):Inv (X.pinned pins) [] σ H s:=⟨I.ok.pinned,I.os,I.bare,I.base,I.loc,I.cell,I.free,I.dR,fun p hp=>I.pin p (by simpa using hp),I.bz,I.len⟩
theorem Inv.yx(I:Inv (X.pinned pn) pins σ H s):Inv X pn σ H s:=⟨I.ok.dm,I.os,I.bare,I.base,I.loc,I.cell,I.free,I.dR,fun p hp=>I.pin p (List.mem_append_left _ hp),I.bz,I.len⟩
theorem SP.dm(h:SP (X.pinned pn) pins D fl s):SP X pn D fl s:=by
 cases fl with
 |next=>obtain⟨σ',H',I,q⟩:=h;exact⟨σ',H',I.yx,q⟩
 |brk=>obtain⟨σ',H',I,q⟩:=h;exact⟨σ',H',I.yx,q⟩
 |cont=>obtain⟨σ',H',I,q⟩:=h;exact⟨σ',H',I.yx,q⟩
 |ret u=>obtain⟨v,σ',H',I,r,q⟩:=h;exact⟨v,σ',H',I.yx,r,q⟩
theorem yy:Lets X (fun _ _ _ _=>False):=fun _ _ ⟨_,_,_,_,_,_,_,_,_,_,_,z⟩=>z.elim
theorem Inv.mark(I:Inv X pins σ H s)(e:Addr):Inv (X.mark e) pins σ H s:=
 ⟨⟨I.ok.mod,I.ok.kind,I.ok.glob,I.ok.blt,I.ok.above,I.ok.inj,I.ok.has,I.ok.xU,fun z=>(by cases z),I.ok.frames,I.ok.zU,I.ok.Df,I.ok.bs,I.ok.sQ,I.ok.mi,I.ok.mj,I.ok.gI,I.ok.uF⟩,I.os,I.bare,I.base,I.loc,I.cell,I.free,I.dR,I.pin,I.bz,I.len⟩
theorem Inv.unmark{e:Addr}(I:Inv (X.mark e) pins σ H s)(ok:X.Ok):Inv X pins σ H s:=⟨ok,I.os,I.bare,I.base,I.loc,I.cell,I.free,I.dR,I.pin,I.bz,I.len⟩
def PH(X:Cx)(hs:List ExceptHandler)(th:Ends→St→XK):Prop:=
 ∀(s:Shared) (σ:St) (H:Hp) (D:Ends) (e C:Addr) (dx:Option Addr) (T:Addr),Inv X [] σ H s→H e=some (oH e C dx)→s.heap.iZ e (some T)→H T=none→fV X T→th D σ (.ref C) dx H→
  wpAny (model X.prog X.w) X.A (handleBy (.ref e) X.env hs) (SP X [] D) X.xe s
theorem BG(L:Lets X ER):PH X [] (fun _=>ER):=by
 intro s σ H D e C dx T I he fl hT nT hE
 refine wpAny_handleBy_nil ?_
 obtain⟨oe,vs,h1,h2,h3⟩:=id fl.ex
 unfold PySem.passOn
 refine wpAny_bind (wpAny_field h1 h2 h3 ?_)
 rw[if_neg (by simp)]
 have ht:∀T',some T=some T'→H T'=none∧fV X T':=fun T' z=>by cases z;exact⟨hT,nT⟩
 refine wpAny_bind (eG fl fun h' a m=>wpAny_throw (L _ _ ⟨e,C,dx,σ,H,some T,rfl,I.moved he ht (m.mono fun _ z=>absurd z (by simp)),he,a,ht,hE⟩))
def Eo(K:PySem.W.Frag)(PC:Addr)(i:Nat)(ts:TS)(tr:Ends→St→XK):Ends→St→XK:=fun D σ cv dx H=>
 ∃C HE f b,cv= .ref C∧PySem.W.cj K C HE f∧PySem.W.mroIn K C (.ref PC)=some b∧
  if b=true then∀e,H e=some (oH e C dx)→ts { D with nx:=fun σ1 H1=>D.nx (σ1.set i none) H1,bk:=fun σ1 H1=>D.bk (σ1.set i none) H1,ct:=fun σ1 H1=>D.ct (σ1.set i none) H1 } (σ.set i (some (.ref e))) H else tr D σ cv dx H
theorem name_goes{i:Nat}{n:Str}{pos:Pos}{Q:Unit→Shared→Prop}{A:Around}{E:Value→Shared→Prop}(I:Inv X pins σ H s)(hN:X.N.Nodup)(hi:X.N[i]? =some n)(hl:X.env.scope.names.lookup n=some .local)
  (k:∀s',Inv X pins (σ.set i none) H s'→Q () s'):wpAny (model X.prog X.w) A (do bindName X.env n .none;unbindBehindTheSuite X.env n pos) Q E s:=by
 have AY:(X.env.scope.kind== .class||(X.env.scope.kind== .module&&X.env.locals != X.env.globals))=false:=by rw[I.ok.kind];rfl
 refine wpAny_bind (wpAny_bindName (store_ok I hN hi (.inl hl) (v:= .bR) rfl (fun s1 J=>?_) (.inr hl)))
 have Og:i<σ.length:=by rw[I.len];exact(List.getElem?_eq_some_iff.mp hi).1
 obtain⟨m,hn,Jw⟩:=id J.loc
 obtain⟨u,_,lk⟩:=Jw i n .bR hi (by rw[List.getElem?_set_self Og]) (.inl hl)
 have P7:(m n).isSome=true:=by
  rcases lk with ⟨_,z⟩ | ⟨z,_⟩
  ·rw[z];rfl
  ·rcases z with z|z
   ·have:X.env.scope.names.lookup n=some .cell:=z
    rw[hl] at this;cases this
   ·have:X.env.scope.names.lookup n=some .free:=z
    rw[hl] at this;cases this
 unfold unbindBehindTheSuite
 refine wpAny_onRaise ?_
 unfold unbindName
 refine wpAny_bind (wpAny_point (wpAny_bind ?_))
 unfold deleteName
 have kl:X.env.kindOf n=some .local:=hl
 simp only [kl,AY]
 rw[if_neg (by decide)]
 refine wpAny_bind (wpAny_nsDel_keeps hn fun h2 v2 Dj sb=>?_)
 rw[P7]
 refine wpAny_pure (wpAny_point (k _ ?_))
 obtain⟨oL,_,_,NV,_⟩:=id hn
 have lo:∀b o,X.s₀.heap.get? b=some o→b≠X.env.locals:=fun b o q=>Nat.ne_of_lt (Nat.lt_of_lt_of_le (Heap.lt_size q) J.ok.above)
 refine⟨J.ok,J.os,J.bare,⟨fun b o e nn hb hx=>(sb.2 b (lo b o e)).trans (J.base.keep b o e nn hb hx),fun b o e nn hb hx=>?_,J.base.free,fun b o e hx=>?_,J.base.kR,J.base.jW,J.base.kS⟩,⟨_,Dj,fun j y v' e1 e2 e3=>?_⟩,fun y c e=>?_,J.free,J.dR,fun p hp=>?_,fun b ob e=>?_,by simpa using I.len⟩
 ·obtain⟨sl,e1⟩:=J.base.slot b o e nn hb hx
  exact⟨sl,(sb.2 b (lo b o e)).trans e1⟩
 ·obtain⟨o',e1⟩:=J.base.there b o e hx
  exact⟨o',(sb.2 b (lo b o e)).trans e1⟩
 ·by_cases hj:j=i
  ·subst hj
   rw[List.getElem?_set_self Og] at e2
   cases e2
  ·rw[List.getElem?_set_ne (Ne.symm hj)] at e2
   obtain⟨u',r',q⟩:=Jw j y v' e1 (by rw[List.getElem?_set_ne (Ne.symm hj)];exact e2) e3
   refine⟨u',r',?_⟩
   rcases q with ⟨k,e⟩ | ⟨k,c,e,z⟩
   ·refine .inl ⟨k,?_⟩
    have:y≠n:=fun e=>hj (jX hN e1 (e▸hi))
    simp [this,e]
   ·exact .inr ⟨k,c,e,z.sameBut sb (J.xV y c e)⟩
 ·obtain⟨w',z⟩:=J.cell y c e
  exact⟨w',z.sameBut sb (J.xV y c e)⟩
 ·obtain⟨e,nn,ne,nf,d⟩:=J.pin p hp
  exact⟨(sb.2 p.1 ne).trans e,nn,ne,nf,d⟩
 ·refine(J.bz b ob e).og (fun c w' hc q=>(sb.2 c ?_).trans q) (fun _ q=>q) fun _ _ q=>q
  rintro rfl
  rcases hc with rfl|hc
  ·rw[J.free] at e;cases e
  ·rw[J.free] at hc;cases hc
theorem Ep{x n:Str}{np pos:Pos}{b0:Stmt}{oN:List Stmt}{rest:List ExceptHandler}{PC:Addr}{i:Nat}{ts:TS}{tr:Ends→St→XK}(hg:Gl X x)(hm:X.mg x=some (.ref PC))(Y:PySem.W.yw X.K PC)(hN:X.N.Nodup)(hi:X.N[i]? =some n)
  (hl:X.env.scope.names.lookup n=some .local) (JU:∀e,iR (X.mark e) (b0::oN) ts) (hr:PH X rest tr) (hd:(x==("__debug__" :Str))=false:=by decide):
  PH X (.ExceptHandler (some (.Name x np)) (some n) (b0::oN) pos::rest) (Eo X.K PC i ts tr):=by
 intro s σ H D e C dx T I he fl hT nT hE
 obtain⟨C',HE,f,b,ec,Z,mb,hE⟩:=hE
 cases ec
 obtain⟨o,vs,o1,o2,o3,o4⟩:=j' I.bz he
 have ht:∀T',some T=some T'→H T'=none∧fV X T':=fun T' z=>by cases z;exact⟨hT,nT⟩
 refine wpAny_handleBy_cons (codeAny_handlers_test (eS (X:=X.mark e) (I.mark e) hg hm (PySem.W.qk I.eQ Z Y o1 o2 mb ?_) hd)) (by intro z;cases z)
 cases b with
 |false=>exact hr s σ H D e C dx T I he fl hT nT hE
 |true=>
  have hE:=hE e he
  refine codeAny_handlers_suite_as (eG fl fun h1 a m=>?_)
  have I1:=I.moved he ht (m.mono fun _ z=>absurd z (by simp))
  refine store_ok I1 hN hi (.inl hl) (v:= .ref e) rfl (fun s2 I2=>?_) (.inr hl)
  refine wpAny_mono (JU e [] s2 _ H _ (I2.mark e) hE) (fun f s3 q=>?_) fun _ _ z=>False.elim z
  cases f with
  |next=>
   obtain⟨σ',H',I3,q⟩:=q
   exact name_goes (I3.unmark I.ok) hN hi hl fun s4 I4=>⟨_,H',I4,q⟩
  |brk=>
   obtain⟨σ',H',I3,q⟩:=q
   exact name_goes (I3.unmark I.ok) hN hi hl fun s4 I4=>⟨_,H',I4,q⟩
  |cont=>
   obtain⟨σ',H',I3,q⟩:=q
   exact name_goes (I3.unmark I.ok) hN hi hl fun s4 I4=>⟨_,H',I4,q⟩
  |ret u=>
   obtain⟨v,σ',H',I3,r,q⟩:=q
   exact name_goes (I3.unmark I.ok) hN hi hl fun s4 I4=>⟨v,_,H',I4,r,q⟩
def Er(tb:(St→XK)→TS)(th:Ends→St→XK):TS:=fun D σ H=>tb (th D) D σ H
theorem yz{body:List Stmt}{h0:ExceptHandler}{hs:List ExceptHandler}{pos:Pos}{tb:(St→XK)→TS}{th:Ends→St→XK}(fm:yu X)(hb:∀pn Oh,iR ((X.pinned pn).fL (ig (X.pinned pn) Oh)) body (tb Oh))(hh:∀pn,PH (X.pinned pn) (h0::hs) th):
  PS X (.Try body (h0::hs) [] [] pos) (Er tb th):=by
 intro pins s σ H D I h
 have fin:∀{f s1},SP (X.pinned pins) [] D f s1→SP X pins D f s1:=fun q=>q.dm
 refine wpAny_Try_except (wpAny_mono (hb pins (th D) [] s σ H D (I.JT.fL _) h) (fun f s1 q=>?_) fun v s1 z=>?_)
 ·have q:=fin q.cq
  cases f with
  |next=>exact wpAny_execs_nil q
  |brk=>exact q
  |cont=>exact q
  |ret u=>exact q
 ·obtain⟨e,C,dx,σ1,H1,tb,ev,I1,he,fl,ht,hE⟩:=z
  subst ev
  have JV:yu (X.pinned pins):=fm
  obtain⟨fr,ff⟩:=i0 JV I1
  refine mL fr ff JV.2 fl fun h2 T a b m=>?_
  have m1:Heap.Moved (nV (X.pinned pins).stack) e tb s1.heap h2:=by unfold nV;rw[JV.1];exact m
  have I2:=I1.moved he ht m1
  have t1:=qi I1 ht b
  refine eG (s:={ s1 with heap:=h2 }) a fun h3 a3 m3=>?_
  have I3:=I2.moved he t1 (m3.mono fun _ z=>absurd z (by simp))
  exact bP (hh pins _ σ1 H1 D e C dx T I3 he a3 (t1 T rfl).1 (t1 T rfl).2 hE) fun f s4 q=>fin q
end
end L2
namespace L2
open PySem PySem.Spec PyProof.Rows
section
variable {X:Cx}{tg:Expr}
end
section
variable {K:PySem.W.Frag}{g:TG}{tt:TT}{te:TE}
end
end L2
namespace L2
open PySem PySem.Spec PyProof.Rows PySem.W
section
variable {X:Cx}
end
end L2
namespace L2
open PySem PySem.Spec PyProof.Rows
section
variable {P:Program}{w:World}{K:PySem.W.Frag}{mg:Str→Option Value}{base:Heap}
end
end L2
namespace PySem.W
open PySem PySem.Spec PySem.Calls PyProof.Rows
section
variable {prog:Program}{w:World}{A:Around}{E:Value→Shared→Prop}{s:Shared}{K:Frag}{e C HE f:Addr}{ox:Obj}{od:Option Obj}
theorem oO{name:Str}{a g:Value}(hc:(clsIn K C).isSome=true)(ha:findIn K (.ref C) name=some (some a))(hg:specialIn K a "__get__" =some (some g))(ht:takesIn K a=some true):findObj K C od name=some (.bind g a):=by
 obtain⟨cd,hc⟩:=Option.isSome_iff_exists.mp hc
 unfold findObj
 rw[hc,Option.bind_some,ha,Option.bind_some]
 simp [hg,ht]
theorem vB{Q:Option Value→Shared→Prop}(X:K.In s.heap)(Z:cj K C HE f)(I:InstAt s.heap e ox C od)(hf:findObj K C od "__class__" =some (.bind (.builtin "getset_descriptor.__get__") (.builtin "object.__class__")))
  (h:Q (some (.ref C)) { s with toks:=s.toks+1 }):wpAny (model prog w) A (getAttr? (.ref e) "__class__") Q E s:=by
 have T0:=I.type (M:=model prog w)
 have SG:=PySem.F.attr_ValueError.ga
 unfold getAttr? getAttrBy? getAttrBy
 refine wpAny_bind (wpAny_mkText (wpAny_bind (wpAny_attempt (wpAny_holding (wpAny_bind (T0 _ _ _ _ (fun _ _ y=>y) (wpAny_bind (looks_findIn X Z.ga _ _ _ _ (fun _ _ y=>y) ?_))))))))
 dsimp only
 rw[show (onTheHeap (Value.ref C)&&Value.builtin "BaseException.__getattribute__" ==Value.builtin "object.__getattribute__")=false from by rw[show (Value.builtin "BaseException.__getattribute__" ==Value.builtin "object.__getattribute__")=false from by decide+kernel,Bool.and_false],if_neg (by decide)]
 refine wpAny_bind (looks_hook X (show (if onTheHeap (Value.ref C) then findIn K (.ref C) "__getattr__" else some none)=some none from Z.gh) _ _ _ _ (fun _ _ y=>y) (wpAny_bind (wpAny_attempt (wpAny_holding ?_))))
 unfold callGetattribute
 rw[show (false&&onTheHeap (Value.builtin "BaseException.__getattribute__"))=false from rfl,if_neg (by decide)]
 unfold boundAndCalled
 rw[SG.bind]
 refine wpAny_bind (wpAny_pure ?_)
 show wpAny _ _ (call (.builtin "BaseException.__getattribute__") [.ref e, .str "__class__" s.toks]) _ _ _
 refine wpAny_call (codeAny_call_builtin SG.plain PySem.F.entry_bexc_ga ?_)
 refine @check_slot (model prog w) _ _ { s with toks:=s.toks+1 } "BaseException.__getattribute__" "BaseException" "__getattribute__" (.ref e) [.str "__class__" s.toks] [] _ (by decide+kernel) (by decide+kernel) (T0.andThen (looks_mroIn X (Z.mro (by decide+kernel)))) (PySem.F.args_bexc_ga _ _) ?_
 have l1:=looks_find (M:=model prog w) X I hf
 unfold Builtin.«object.__getattribute__»
 refine wpAny_bind (wpAny_of_eq (a:=(Value.ref e,[Value.str "__class__" s.toks])) rfl ?_)
 refine wpAny_bind (wpAny_pure (a:=("__class__" :Str)) (wpAny_bind (T0 _ _ _ _ (fun _ _ y=>y) (wpAny_bind (l1 _ _ _ _ (fun _ _ y=>y) ?_)))))
 show wpAny _ _ (holding [Value.builtin "object.__class__"] (call (.builtin "getset_descriptor.__get__") [.builtin "object.__class__", .ref e, .ref C]) >>= ret) _ _ _
 refine wpAny_bind (wpAny_holding (wpAny_call (class_get (s:={ s with toks:=s.toks+1 }) (ox:=ox) (od:=od) X I (Z.mro (by decide+kernel)) ?_)))
 refine wpAny_pure ?_
 show wpAny _ _ (handedOut (Value.ref C)) _ _ _
 rw[handedOut_of rfl]
 exact wpAny_pure (wpAny_pure h)
theorem vC(Z:cj K C HE f)(ha:findIn K (.ref C) "__class__" =some (some (.builtin "object.__class__")))(hn:specialIn K (.builtin "object.__class__") "__get__" =some (some (.builtin "getset_descriptor.__get__")))(HP:takesIn K (.builtin "object.__class__")=some true):
  KitX K (.ref e) (.ref C) (fun h=>InstAt h e ox C od) where
 ty:=fun _ _ _ I=>I.type
 it:=fun _ _ X _=>by
  obtain⟨P8,x5,_⟩:=Z.cd
  unfold clsIn at x5
  split at x5
  ·rename_i c' d' P9 AX ho
   intro A' Q' E' s' k q
   unfold isType loadHead
   exact wpAny_bind (wpAny_loadPart (k _ _ (X _ _ ho)) (wpAny_pure q))
  ·cases x5
 ne:=fun h tp dd its n sl X P'=>by
  obtain⟨P8,x5,_⟩:=Z.cd
  refine Bool.eq_false_iff.mpr fun q=>?_
  have e:C=tp:=Value.ref.inj (beq_iff_eq.mp q)
  subst e
  unfold clsIn at x5
  split at x5
  ·rename_i c' d' P9 AX ho
   have z:=(X _ _ ho).symm.trans P'
   cases z
  ·cases x5
 ca:=fun X I k=>vB X Z I (oO (by obtain⟨cd,hc,_⟩:=Z.cd;rw[hc];rfl) ha hn HP) k
end
end PySem.W
namespace L2
open PySem PySem.Spec PyProof.Rows
def tE(H:Hp)(e C:Addr):Prop:=H e=some (oH e C none)∨∃dx fs,H e=some (oH e C (some dx))∧H dx=some (qg dx fs)
structure Oi(K:PySem.W.Frag)(C:Addr):Prop where
 cls:PySem.W.findIn K (.ref C) "__class__" =some (some (.builtin "object.__class__"))
 get:PySem.W.specialIn K (.builtin "object.__class__") "__get__" =some (some (.builtin "getset_descriptor.__get__"))
 takes:PySem.W.takesIn K (.builtin "object.__class__")=some true
theorem bo{X:Cx}:fO X (.builtin "isinstance") (fun xs H Q=>∃e c cv C HE f b,xs=[.ref e,c]∧yg c=some cv∧PySem.W.cj X.K C HE f∧Oi X.K C∧tE H e C∧PySem.W.kitOne X.K (.ref C) cv=some b∧Q (.bl b) H):=by
 intro pins s σ H xs us Q I r h
 obtain⟨e,c,cv,C,HE,f,b,rfl,hc,Z,Y,hE,ek,q⟩:=h
 obtain⟨u,v,rfl,ru,rv⟩:=vals2 r
 have hv:v=cv:=by
  cases c<;>simp only [yg,Option.some.injEq,reduceCtorEq] at hc
  ·cases (show v=Value.ref _ from rv);exact hc
  ·cases (show v=Value.type _ from rv);exact hc
 subst hv
 cases (show u=Value.ref e from ru)
 have J:∃ob od,PySem.W.InstAt s.heap e ob C od:=by
  rcases hE with hx| ⟨dx,fs,hx,hd⟩
  ·obtain⟨ob,vs,h1,h2,h3,h4⟩:=j' I.bz hx
   exact⟨ob,none,h1,h2,by unfold PySem.W.notCls;rw[h4],by rw[h3];trivial⟩
  ·obtain⟨ob,vs,h1,h2,h3,h4⟩:=j' I.bz hx
   obtain⟨mA,n1,r1,w1⟩:=qh I.bz hd
   obtain⟨od,ho,hl⟩:=iT n1
   exact⟨ob,some od,h1,h2,by unfold PySem.W.notCls;rw[h4],by rw[h3];exact ho⟩
 obtain⟨ob,od,J⟩:=J
 exact PySem.W.kia_one (PySem.W.vC Z Y.cls Y.get Y.takes) I.eQ J ek (fun z=>nomatch z) fun tk=>⟨.bl b,H,I.tok tk,rfl,q⟩
end L2
namespace JW
open PySem PySem.Spec PySem.Builtin PySem.Builtin.Str
end JW
namespace L2
open PySem PySem.Spec PyProof.Rows
section
variable {X:Cx}
theorem kY:bootBuiltins "ValueError" =some (.type "ValueError"):=by decide+kernel
end
section
variable {X:Cx}
theorem BH(K:PySem.W.Frag)(hK:X.K=K){x n:Str}{np pos:Pos}{b0:Stmt}{oN:List Stmt}{rest:List ExceptHandler}{PC:Addr}{i:Nat}{ts:TS}{tr:Ends→St→XK}(hg:Gl X x)(hm:X.mg x=some (.ref PC))(Y:PySem.W.yw K PC)(hN:X.N.Nodup)(hi:X.N[i]? =some n)
  (hl:X.env.scope.names.lookup n=some .local) (JU:∀e,iR (X.mark e) (b0::oN) ts) (hr:PH X rest tr) (hd:(x==("__debug__" :Str))=false:=by decide):
  PH X (.ExceptHandler (some (.Name x np)) (some n) (b0::oN) pos::rest) (Eo K PC i ts tr):=by
 subst hK
 exact Ep hg hm Y hN hi hl JU hr hd
end
section
variable {P:Program}{w:World}{K:PySem.W.Frag}{mg:Str→Option Value}{base:Heap}
structure JX(P:Program)(w:World)(K:PySem.W.Frag)(mg:Str→Option Value)(base:Heap)(k:Nat)(x:Str)(ps:List Str)(sp:Sp)(f:Addr)(fd:FuncData):Prop where
 ok:dn P w K mg base (qj P w) k f fd ps sp
 kp:PySem.W.keepIn K (.ref f)=true
 b:Binds K fd ps []
 g:mg x=some (.ref f)
def oP(P:Program)(w:World)(K:PySem.W.Frag)(mg:Str→Option Value)(base:Heap)(k:Nat)(x:Str)(ps:List Str)(sp:Sp):Prop:=∃f fd,JX P w K mg base k x ps sp f fd
structure Es(P:Program)(w:World)(K:PySem.W.Frag)(mg:Str→Option Value)(base:Heap)(k:Nat)(C:Addr)(m:Str)(ps:List Str)(sp:Sp)(f:Addr)(fd:FuncData):Prop where
 ok:dn P w K mg base (qj P w) k f fd ps sp
 m:Meth K C m f
 b:Binds K fd ps []
def a0(P:Program)(w:World)(K:PySem.W.Frag)(mg:Str→Option Value)(base:Heap)(k:Nat)(C:Addr)(m:Str)(ps:List Str)(sp:Sp):Prop:=∃f fd,Es P w K mg base k C m ps sp f fd
theorem Def.gJ{x q:Str}{st:Stmt}{N ps:List Str}{k:Nat}{sp:Sp}(D:Def K mg x q st ps)(S:ax N ps (ak st))(len:∀vs H Q E,sp vs H Q E→vs.length=ps.length)
  (cN:∀(f:Addr) (bb:Value) (A:Around) (outer:List Env) (s:Shared) (H:Hp) (vs:List V) (Q:VK) (E:XK),bW k (A.deeper (envOfC q (ak st) s.heap.objs.size f bb))→sp vs H Q E→
   ∃t,iR (Aa P w K mg base N q (ak st) f bb A outer s H E) (aW st) t∧t { nx:=fun _ H'=>Q .bR H',rt:=Q } (start N vs) H):oP P w K mg base (k+1) x ps sp:=by
 obtain⟨f,fd,F,b,g⟩:=D
 exact⟨f,fd,F.oJ S len (cN f),F.kp,b,g⟩
theorem bL.gJ{C:Addr}{m q:Str}{st:Stmt}{N ps:List Str}{k:Nat}{sp:Sp}(D:bL K C m q st ps)(S:ax N ps (ak st))(len:∀vs H Q E,sp vs H Q E→vs.length=ps.length)
  (cN:∀(f:Addr) (bb:Value) (A:Around) (outer:List Env) (s:Shared) (H:Hp) (vs:List V) (Q:VK) (E:XK),bW k (A.deeper (envOfC q (ak st) s.heap.objs.size f bb))→sp vs H Q E→
   ∃t,iR (Aa P w K mg base N q (ak st) f bb A outer s H E) (aW st) t∧t { nx:=fun _ H'=>Q .bR H',rt:=Q } (start N vs) H):a0 P w K mg base (k+1) C m ps sp:=by
 obtain⟨f,fd,F,b,g⟩:=D
 exact⟨f,fd,F.oJ S len (cN f),g,b⟩
def ql(K:PySem.W.Frag)(mg:Str→Option Value)(x:Str)(C HE:Addr)(q:Str)(st:Stmt)(ps:List Str):Prop:=∃f fd,ux K "__init__" q st f fd∧PySem.W.cj K C HE f∧Binds K fd ps []∧mg x=some (.ref C)∧PySem.W.keepIn K (.ref C)=true
structure Et(P:Program)(w:World)(K:PySem.W.Frag)(mg:Str→Option Value)(base:Heap)(k:Nat)(x:Str)(C HE:Addr)(ps:List Str)(sp:Sp)(f:Addr)(fd:FuncData):Prop where
 ok:dn P w K mg base mF k f fd ps sp
 z:PySem.W.cj K C HE f
 b:Binds K fd ps []
 g:mg x=some (.ref C)
 kp:PySem.W.keepIn K (.ref C)=true
def fW(P:Program)(w:World)(K:PySem.W.Frag)(mg:Str→Option Value)(base:Heap)(k:Nat)(x:Str)(C HE:Addr)(ps:List Str)(sp:Sp):Prop:=∃f fd,Et P w K mg base k x C HE ps sp f fd
theorem ql.e9{x q:Str}{C HE:Addr}{st:Stmt}{N ps:List Str}{k:Nat}{sp:Sp}(D:ql K mg x C HE q st ps)(S:ax N ps (ak st))(len:∀vs H Q E,sp vs H Q E→vs.length=ps.length)
  (cN:∀(f:Addr) (bb:Value) (A:Around) (outer:List Env) (s:Shared) (H:Hp) (vs:List V) (Q:VK) (E:XK),bW k (A.deeper (envOfC q (ak st) s.heap.objs.size f bb))→sp vs H Q E→
   ∃t,iR (fF mF P w K mg base N q (ak st) f bb A outer s H E).xJ (aW st) t∧t { nx:=fun _ H'=>Q .bR H',rt:=Q } (start N vs) H):fW P w K mg base (k+1) x C HE ps sp:=by
 obtain⟨f,fd,F,Z,b,g,kp⟩:=D
 exact⟨f,fd,F.ok S len (cN f),Z,b,g,kp⟩
end
end L2
namespace JW
open PySem PySem.Spec PySem.Calls PyProof.Rows
section
variable {prog:Program}{w:World}{A:Around}{I:Addr}{fp wr:List Addr}{n:Nat}{P:Nat→Value→Prop}{St:Nat→Heap→Prop}
end
section
variable {prog:Program}{w:World}{A:Around}{E:Value→Shared→Prop}{s:Shared}{l:Addr}{xs:Array (Int×Tok)}{d:Value}
end
end JW
namespace L2
open PySem PySem.Spec PyProof.Rows
section
variable {X:Cx}
end
end L2
namespace L2
open PySem PySem.Spec
section
variable {X:Cx}
end
end L2
namespace L2
open PySem PySem.Spec
theorem bK{K:PySem.W.Frag}{C P:Addr}(h1:PySem.W.isClsIn K P=true)(h2:PySem.W.typeIn K (.ref P)=some (.type "type"))(h3:PySem.W.mroIn K C (.ref P)=some false)(h4:PySem.W.mroIn K C (.ref C)=some true):PySem.W.kitOne K (.ref C) (.ref P)=some false:=by
 have gP:¬(Value.ref C==Value.ref P)=true:=fun e=>by
  have e:Value.ref C=Value.ref P:=by simpa using e
  rw[←e,h4] at h3
  cases h3
 unfold PySem.W.kitOne
 rw[if_neg gP]
 unfold PySem.W.kitCls
 dsimp only
 rw[if_pos (by rw[show (PySem.W.clsIn K P).isSome=true from h1,h2,Bool.true_and];decide+kernel)]
 exact h3
theorem rD{K:PySem.W.Frag}{C HE f:Addr}(Z:PySem.W.cj K C HE f):PySem.W.kitOne K (.ref C) (.type "ValueError")=some true:=by
 unfold PySem.W.kitOne
 rw[if_neg (by simp)]
 unfold PySem.W.kitCls
 dsimp only
 rw[if_pos (by decide+kernel)]
 exact Z.mro (by decide+kernel)
theorem oQ{K:PySem.W.Frag}(v:Value):PySem.W.kitOne K v v=some true:=by
 unfold PySem.W.kitOne
 rw[if_pos (by simp)]
end L2
namespace L2
open PySem PySem.Spec PyProof.Rows
theorem Oj{p:List Value→Prop}(us:List Value)(e:us.length=1)(h:∀a,p [a]):p us:=by
 cases us with
 |nil=>cases e
 |cons a us=>cases us with
  |nil=>exact h a
  |cons b us=>simp at e
theorem ln2{p:List Value→Prop}(us:List Value)(e:us.length=2)(h:∀a b,p [a,b]):p us:=by
 cases us with
 |nil=>cases e
 |cons a us=>exact Oj (p:=fun us=>p (a::us)) us (by simpa using e) (h a)
theorem Qa{p:List Value→Prop}(us:List Value)(e:us.length=3)(h:∀a b c,p [a,b,c]):p us:=by
 cases us with
 |nil=>cases e
 |cons a us=>exact ln2 (p:=fun us=>p (a::us)) us (by simpa using e) (h a)
section
variable {K:PySem.W.Frag}{h:Heap}{mg:Str→Option Value}{x m q:Str}{st:Stmt}{ps:List Str}{f C HE:Addr}
def dU(K:PySem.W.Frag)(x q:Str)(st:Stmt)(f:Addr):Prop:=(∃fd,ux K x q st f fd)∧PySem.W.isFn K (.ref f)=true
def BB(x q:Str)(st:Stmt)(ps:List Str)(kV doc pm:Value)(an:Option Addr)(bb ct:Value)(us:List Value):Prop:=bindArgs (PySem.W.fnOf x q (br st) (aW st) (ak st) .none kV doc pm an bb ct) ⟨us,[]⟩=pure (ps.zip us)
def BA(x q:Str)(st:Stmt)(ps:List Str):Prop:=∀(kV doc pm:Value) (an:Option Addr) (bb ct:Value) (us:List Value),us.length=ps.length→BB x q st ps kV doc pm an bb ct us
theorem ij{p0:Str}(h:∀(kV doc pm:Value) (an:Option Addr) (bb ct u0:Value),BB x q st [p0] kV doc pm an bb ct [u0]):BA x q st [p0]:=fun kV doc pm an bb ct us hl=>Oj (p:=BB x q st [p0] kV doc pm an bb ct) us hl (h kV doc pm an bb ct)
theorem rE{p0 p1:Str}(h:∀(kV doc pm:Value) (an:Option Addr) (bb ct u0 u1:Value),BB x q st [p0,p1] kV doc pm an bb ct [u0,u1]):BA x q st [p0,p1]:=fun kV doc pm an bb ct us hl=>ln2 (p:=BB x q st [p0,p1] kV doc pm an bb ct) us hl (h kV doc pm an bb ct)
theorem dO{N P:List Str}{sc:Scope}(a:sc.kind= .function:=by rfl)(b:sc.isCoroutine=false:=by rfl)(c:sc.isGenerator=false:=by rfl)(d:N.Nodup:=by decide+kernel)(e:N.take P.length=P:=by rfl)(f:∀x∈P,sc.names.lookup x=some .local∨sc.names.lookup x=some .cell:=by decide+kernel)(g:∀y∈sc.names,y.2≠ .free:=by decide+kernel):ax N P sc:=⟨a,b,c,d,e,f,g⟩
theorem b7(X:K.In h)(G:h.Ns mainGlobals mg)(a:PySem.W.nsIn K mainGlobals x=some (some (.ref f)))(l:dU K x q st f)(b:BA x q st ps):Def K mg x q st ps:=by
 obtain⟨⟨fd,F⟩,_⟩:=l
 exact⟨f,fd,F,F.binds b,PySem.W.mg_of X G a⟩
theorem dq(a:PySem.W.findIn K (.ref C) m=some (some (.ref f)))(l:dU K m q st f)(b:BA m q st ps):bL K C m q st ps:=by
 obtain⟨⟨fd,F⟩,i⟩:=l
 exact⟨f,fd,F,F.binds b,⟨a,i,F.kp⟩⟩
theorem Eu(k:PySem.W.makesIn K C=true)(a:PySem.W.findIn K (.ref C) "__init__" =some (some (.ref f)))(kc:PySem.W.keepIn K (.ref C)=true)(l:dU K "__init__" q st f)(b:BA "__init__" q st ps):iY K C q st ps []:=by
 obtain⟨⟨fd,F⟩,i⟩:=l
 exact⟨f,fd, .none,⟨F.ex,F.kp⟩,⟨k,a,i,kc⟩,fun j _=>⟨[],by rw[List.drop_nil];exact .nil,F.binds b⟩⟩
theorem Ac(Z:PySem.W.cj K C HE f)(g:mg x=some (.ref C))(kc:PySem.W.keepIn K (.ref C)=true)(l:dU K "__init__" q st f)(b:BA "__init__" q st ps):ql K mg x C HE q st ps:=by
 obtain⟨⟨fd,F⟩,i⟩:=l
 exact⟨f,fd,F,Z,F.binds b,g,kc⟩
end
end L2
namespace L2
open PySem PySem.Spec PyProof.Rows PySem.W PySem.Calls
section
variable {prog:Program}{w:World}{κ:Type}[DecidableEq κ]{knd:KeyKind prog w κ}{A:Around}{E:Value→Shared→Prop}{s:Shared}{d it:Addr}{i ep:Nat}{eB:List (κ×Value)}
end
section
variable {X:Cx}
end
end L2
namespace L2
open PySem PySem.Spec PyProof.Rows
end L2
namespace L2
open PySem PySem.Spec
end L2
namespace L2
open PySem PySem.Spec PyProof.Rows PySem.W
section
variable {X:Cx}
end
end L2
namespace L2
open PySem PySem.Spec PyProof.Rows
section
variable {prog:Program}{w:World}{A:Around}{R:Result→Shared→Prop}{s:Shared}
end
section
variable {X:Cx}{elt tg iter:Expr}{ifs:List Expr}{scope:Scope}{pos:Pos}{N:List Str}{fr:List (Option Nat)}{cl:List (Str×Addr)}{wi:TI}{g:TG}{tt:TT}{te:TE}
variable {SS:(St→XK)→TE}{ER:St→XK}
variable {Eh py:Pos}
end
end L2
namespace L2
open PySem PySem.Spec PyProof.Rows
section
variable {X:Cx}{e o:Expr}{es:List Expr}{t:TA}{ta:TE}{x m:Str}{ps:List Str}{sp:Sp}{f C:Addr}{fd:FuncData}{k n:Nat}{p apos pos:Pos}
end
end L2
namespace L2
open PySem
theorem HX{p:Nat→Prop}(a:p 0)(b:p 1)(j:Nat)(h:j≤1):p j:=by
 cases j with
 |zero=>exact a
 |succ j=>cases j with
  |zero=>exact b
  |succ j=>omega
theorem HY{K:PySem.W.Frag}{fd:FuncData}{ps:List Str}{ds:List Value}(l:ps.length=2+ds.length)(h:∀s a b,K.In s.heap→BindsTo s fd ⟨[a,b],[]⟩ (ps.zip ([a,b]++ds))):Binds K fd ps ds:=fun s us hk hl=>ln2 (p:=fun us=>BindsTo s fd ⟨us,[]⟩ (ps.zip (us++ds))) us (by rw[List.length_append] at hl;omega) fun a b=>h s a b hk
theorem HZ{K:PySem.W.Frag}{fd:FuncData}{ps:List Str}{ds:List Value}(l:ps.length=3+ds.length)(h:∀s a b c,K.In s.heap→BindsTo s fd ⟨[a,b,c],[]⟩ (ps.zip ([a,b,c]++ds))):Binds K fd ps ds:=fun s us hk hl=>Qa (p:=fun us=>BindsTo s fd ⟨us,[]⟩ (ps.zip (us++ds))) us (by rw[List.length_append] at hl;omega) fun a b c=>h s a b c hk
end L2
namespace L2
open PySem PySem.Spec PyProof.Rows
section
variable {X:Cx}{o:Expr}{to:TE}{apos js:Pos}
end
end L2
namespace L2
open PySem PySem.Spec PyProof.Rows
section
variable {X:Cx}
def yA:V→List V→Hp→VK→Prop:=fun x vs H Q=>∃z y:Str,x= .str z∧vs=[.str y]∧z.length≤sizeLine∧Q (.str (Txt.rstripChars z y)) H
theorem tF:Be X "str.rstrip" yA:=by
 intro pins s σ H x vs v us Q I rx rv h
 obtain⟨z,y,rfl,rfl,hz,q⟩:=h
 obtain⟨t,rfl⟩:=(show∃t,v=Value.str z t from rx)
 obtain⟨u,rfl,ru⟩:=rv.one
 obtain⟨t2,rfl⟩:=(show∃t,u=Value.str y t from ru)
 exact SC.rstripChars (fun t' k=>⟨.str _,H,I.tok k,⟨t',rfl⟩,q⟩) hz
def BI:V→List V→Hp→VK→Prop:=fun x vs H Q=>∃z y:Str,x= .str z∧vs=[.str y]∧Q (.int (Txt.count z y)) H
theorem oR:Be X "str.count" BI:=by
 intro pins s σ H x vs v us Q I rx rv h
 obtain⟨z,y,rfl,rfl,q⟩:=h
 obtain⟨t,rfl⟩:=(show∃t,v=Value.str z t from rx)
 obtain⟨u,rfl,ru⟩:=rv.one
 obtain⟨t2,rfl⟩:=(show∃t,u=Value.str y t from ru)
 exact SC.count ⟨.int _,H,I.tok _,⟨_,rfl⟩,q⟩
def qm:V→List V→Hp→VK→Prop:=fun x vs H Q=>∃z y:Str,x= .str z∧vs=[.str y]∧(y.length==0)=false∧z.length≤sizeLine∧∀p,H p=none→Q (.ref p) (upd H p (.tup [.str (Txt.partition z y).1, .str (Txt.partition z y).2.1, .str (Txt.partition z y).2.2]))
theorem mP:Be X "str.partition" qm:=by
 intro pins s σ H x vs v us Q I rx rv h
 obtain⟨z,y,rfl,rfl,hy,hz,q⟩:=h
 obtain⟨t,rfl⟩:=(show∃t,v=Value.str z t from rx)
 obtain⟨u,rfl,ru⟩:=rv.one
 obtain⟨t2,rfl⟩:=(show∃t,u=Value.str y t from ru)
 refine call_meets F.slot_str_partition (typeIs_str _ _ _) F.entry_str_partition (F.args_str_partition_2 _ _) (meets_str_partition z y t t2 hy hz) ?_
 have q':=q _ I.fresh
 unfold Txt.partition at q'
 revert q'
 cases Builtin.Str.occurrences z y 0 z.length 1 with
 |nil=>
  intro q'
  refine⟨.ref _,_,I.laid (fun b u e=>Heap.get?_push_of_some _ e) (Nat.le_refl _) ?_,rfl,q'⟩
  exact⟨(by show 3≤sizeLine;decide),_, .cons ⟨_,rfl⟩ (.cons ⟨_,rfl⟩ (.cons ⟨_,rfl⟩ .nil)),⟨_,Heap.get?_push_size _ rfl,rfl,_,rfl⟩⟩
 |cons i r=>
  intro q'
  refine⟨.ref _,_,I.laid (fun b u e=>Heap.get?_push_of_some _ e) (Nat.le_refl _) ?_,rfl,q'⟩
  exact⟨(by show 3≤sizeLine;decide),_, .cons ⟨_,rfl⟩ (.cons ⟨_,rfl⟩ (.cons ⟨_,rfl⟩ .nil)),⟨_,Heap.get?_push_size _ rfl,rfl,_,rfl⟩⟩
def Ew:R2:=fun x y H Q=>∃(c:Nat) (n:Int),x= .str ⟨#[c]⟩∧y= .int n∧ -10000≤n∧n≤10000∧Q (.str ⟨(List.replicate n.toNat c).toArray⟩) H
theorem rF(c:Nat):∀(n:Nat) (acc:List Nat),(List.replicate n #[c]).foldl (·++·) acc.toArray=(acc++List.replicate n c).toArray
 |0,acc=>by simp
 |n+1,acc=>by
  rw[List.replicate_succ,List.foldl_cons,show acc.toArray++#[c]=(acc++[c]).toArray by simp,rF c n,List.append_assoc,List.replicate_succ]
  rfl
theorem yB:iP X (binaryOp .Mult) Ew:=by
 intro pins s σ H x y v u Q I rx ry h
 obtain⟨c,n,rfl,rfl,n1,n2,q⟩:=h
 obtain⟨t,rfl⟩:=(show∃t,v=Value.str ⟨#[c]⟩ t from rx)
 obtain⟨t2,rfl⟩:=(show∃t,u=Value.int _ t from ry)
 have big:(10000 :Nat)≤sizeLine:=by decide
 have l1:(⟨#[c]⟩:Str).length=1:=rfl
 by_cases h1:n<1
 ·have e:n.toNat=0:=by omega
  rw[e] at q
  exact PySem.P.mul_str_none h1 (by omega) ⟨.str Str.empty,H,I.tok _,⟨_,rfl⟩,q⟩
 ·refine PySem.P.mul_str (by rw[decide_eq_false (by omega),decide_eq_false (by omega)];rfl) (fun _ _=>?_) (fun _ _=>?_) ?_
  ·rw[l1]
   have hd:(1 :Int)≤(2^63 - 1) /n:=by
    rw[Int.le_ediv_iff_mul_le (by omega)]
    omega
   omega
  ·unfold Builtin.Str.tooLong
   rw[l1]
   simp only [decide_eq_false_iff_not]
   omega
  ·rw[if_neg h1]
   by_cases h2:n=1
   ·subst h2
    exact⟨.str _,H,I,⟨_,rfl⟩,q⟩
   ·have e1:(n==1||(⟨#[c]⟩:Str).length==0)=false:=by
     have z:(n==1)=false:=by simp only [beq_eq_false_iff_ne];exact h2
     rw[z];rfl
    rw[if_neg (by rw[e1];simp)]
    have e2:(List.replicate n.toNat (⟨#[c]⟩:Str).cps).foldl (·++·) #[]=(List.replicate n.toNat c).toArray:=by
     have:=rF c n.toNat []
     rw[List.nil_append] at this
     exact this
    rw[e2]
    refine⟨?_,⟨.str _,H,I.tok _,⟨_,rfl⟩,q⟩⟩
    show (List.replicate n.toNat c).toArray.size≤sizeLine
    simp
    omega
end
end L2
set_option maxHeartbeats 4000000
namespace JY
open PySem L2
def top(i:Nat):Stmt:=PySem.Challenge.pw_balancehall_k07_no_formula.main.body.getD i (.Pass ⟨0,0,0,0⟩)
abbrev mQ:Stmt:=top 20
abbrev mR:Stmt:=top 21
abbrev jD:Stmt:=top 22
abbrev d6:Stmt:=top 23
abbrev gv:Stmt:=top 25
abbrev eK:Stmt:=inClass (top 27) 0
abbrev mS:Stmt:=inClass (top 27) 1
abbrev cX:Stmt:=inClass (top 28) 0
abbrev gw:Stmt:=inClass (top 28) 1
abbrev cY:Stmt:=inClass (top 29) 0
abbrev d7:Stmt:=inClass (top 29) 1
abbrev ik:Stmt:=top 36
abbrev dH:Stmt:=top 37
abbrev cZ:Stmt:=inClass (top 38) 0
abbrev il:Stmt:=inClass (top 38) 1
abbrev mT:Stmt:=inClass (top 39) 0
abbrev rG:Stmt:=inClass (top 39) 1
abbrev rH:Stmt:=inClass (top 39) 2
abbrev ip:Stmt:=inClass (top 39) 3
abbrev iq:Stmt:=inClass (top 39) 4
abbrev jE:Stmt:=inClass (top 39) 5
abbrev fh:Stmt:=inClass (top 39) 6
abbrev ir:Stmt:=inClass (top 39) 7
abbrev ki:Stmt:=inClass (top 39) 8
abbrev gy:Stmt:=inClass (top 39) 9
abbrev mU:Stmt:=inClass (top 39) 10
abbrev jF:Stmt:=inClass (top 39) 11
abbrev iu:Stmt:=inClass (top 39) 12
abbrev iv:Stmt:=inClass (top 39) 13
abbrev gz:Stmt:=top 40
abbrev jG:Stmt:=top 42
abbrev mV:Stmt:=top 43
abbrev mW:Stmt:=top 44
abbrev rJ:Stmt:=top 45
abbrev mX:Stmt:=top 46
abbrev iw:Stmt:=top 47
abbrev rK:Stmt:=top 48
abbrev jH:Stmt:=top 49
abbrev dI:Stmt:=top 50
abbrev jI:Stmt:=top 51
abbrev oS:Stmt:=top 52
abbrev mY:Stmt:=top 57
abbrev mZ:Stmt:=inClass (top 3) 0
abbrev yC:Stmt:=inClass (top 4) 0
abbrev jJ:Stmt:=top 53
abbrev rL:Stmt:=top 54
abbrev rM:Stmt:=top 55
abbrev yD:Stmt:=top 56
theorem Qb:¬(("kind" :Str)="count"):=by decide+kernel
def oU(k:Str)(n:Int):List (Str×V):=cC "count" (.int n) (cC "kind" (.str k) [])
theorem tG(k:Str)(n:Int):(oU k n).lookup ("kind" :Str)=some (.str k):=by
 unfold oU
 rw[aO,if_neg Qb,aO,if_pos rfl]
theorem qo(k:Str)(n:Int):(oU k n).lookup ("count" :Str)=some (.int n):=by
 unfold oU
 rw[aO,if_pos rfl]
theorem yE(k:Str)(n:Int){m:Str}(h1:¬m="count")(h2:¬m="kind"):(oU k n).lookup m=none:=by
 unfold oU
 rw[aO,if_neg h1,aO,if_neg h2]
 all_goals rfl
def dW(C:Addr)(H:Hp)(p:Addr)(k:Str)(n:Int):Prop:=∃dx,H p=some (.ins C dx (oU k n))
theorem dW.same{C:Addr}{H H':Hp}{p:Addr}{k:Str}{n:Int}(a:dW C H p k n)(e:aK H H'):dW C H' p k n:=let ⟨dx,h⟩:=a;⟨dx,e _ _ h⟩
def cD(n:Int):Str:=if n=1 then "" else (toString n:Str)
theorem qp:∀n:Nat,n<1000→(cD (n:Int)).length≤3:=by decide+kernel
theorem eL{n:Int}(h:1≤n)(h':n≤999):(cD n).length≤3:=by
 have:=qp n.toNat (by omega)
 rwa [Int.toNat_of_nonneg (by omega)] at this
def jn(ys:List Str):Str:=Str.join ⟨#[]⟩ ys
theorem join_eq(ys:List Str):Txt.join "" ys=jn ys:=by
 have h:=PyProof.Rows.join_closes (sep:="") (sep':=⟨#[]⟩) (ys:=ys) (by decide+kernel)
 unfold jn
 simpa using h
theorem yF(x:Str)(r:List Str):jn (x::r)=x++jn r:=PyProof.Rows.join_nil_cons x r
theorem lH(x y z:Str):x++y++z=x++(y++z):=by
 show (⟨(x.cps++y.cps)++z.cps⟩:Str)=⟨x.cps++(y.cps++z.cps)⟩
 rw[Array.append_assoc]
theorem JZ:¬(("parts" :Str)="count"):=by decide+kernel
def ix(l:Addr)(n:Int):List (Str×V):=cC "count" (.int n) (cC "parts" (.ref l) [])
theorem jk(l:Addr)(n:Int):(ix l n).lookup ("parts" :Str)=some (.ref l):=by
 unfold ix
 rw[aO,if_neg JZ,aO,if_pos rfl]
theorem jl(l:Addr)(n:Int):(ix l n).lookup ("count" :Str)=some (.int n):=by
 unfold ix
 rw[aO,if_pos rfl]
theorem oV(l:Addr)(n:Int){m:Str}(h1:¬m="count")(h2:¬m="parts"):(ix l n).lookup m=none:=by
 unfold ix
 rw[aO,if_neg h1,aO,if_neg h2]
 all_goals rfl
def oW(K:PySem.W.Frag):Sp:=fun vs H Q _=>∃(a:Addr) (ns:List Int) (k:Nat),vs=[.ref a, .int k]∧bC K H a (ns.map V.int)∧ns.length≤63∧∀n,Q (.int n) H
def i9:List Int:=[999979,999983,1000003,1000033,1000037,1000081,1000099]
def rN:Sp:=fun vs H Q _=>∃(c p:Int) (j:Nat),vs=[.int c, .int p]∧j<7∧i9[j]? =some p∧∀n H',aK H H'→Q (.int n) H'
def rO:Sp:=fun vs H Q _=>∃i:Int,vs=[.int i]∧Q (.bl true) H
def dX:Sp:=fun vs H Q _=>∃n:Int,vs=[.int n]∧1≤n∧n≤999∧Q (.str (cD n)) H
def vD(C:Addr):Sp:=fun vs H Q _=>∃(p dx:Addr) (k:Str) (n:Int),vs=[.ref p, .str k, .int n]∧H p=some (.ins C dx [])∧∀H',H' p=some (.ins C dx (oU k n))→(∀b o,H b=some o→b≠p→H' b=some o)→Q .bR H'
def m6(C:Addr):Sp:=fun vs H Q _=>∃(p:Addr) (k:Str) (n:Int),vs=[.ref p]∧dW C H p k n∧k.length≤3∧1≤n∧n≤999∧Q (.str (k++cD n)) H
structure fX(K:PySem.W.Frag)(mg:Str→Option Value)(C:Addr):Prop where
 fj:nX K C
 rP:b5 K C "kind"
 oX:b5 K C "count"
 BJ:mg "Atom" =some (.ref C)
 dB:mg "len" =none
 Ad:mg "str" =none
 vE:mg "int" =none
 BK:mg "bool" =none
 rQ:mg "range" =none
 a4:mg "isinstance" =none
 k1:PySem.W.kitOne K (.type "int") (.type "int")=some true
 k2:PySem.W.kitOne K (.type "int") (.type "bool")=some false
 k3:PySem.W.kitOne K (.type "dict") (.type "dict")=some true
 k4:PySem.W.kitOne K (.type "str") (.type "str")=some true
 k6:PySem.W.kitOne K (.type "list") (.type "list")=some true
theorem dJ{x y:Str}(h:x.cps.toList=y.cps.toList):x=y:=by
 cases x;cases y
 congr 1
 exact Array.toList_inj.mp h
theorem yG(a b n:Nat):Builtin.Str.strSliceIndices (some (a:Int)) (some (b:Int)) 1 n=Builtin.Str.strSliceIndices (some (a:Int)) (some ((min b n:Nat):Int)) 1 n:=by
 have h2:¬((b:Int) <0):=by omega
 have h3:¬(((min b n:Nat):Int) <0):=by omega
 have e2:max (0 :Int) (min (b:Int) (n:Int))=max (0 :Int) (min ((min b n:Nat):Int) (n:Int)):=by omega
 simp only [Builtin.Str.strSliceIndices,h2,h3,if_false,e2,show ((1 :Int) >0)=True from by simp,if_true]
theorem gA(x:Str){a b:Nat}(JJ:a≤b)(ha:a≤x.length):(Txt.slice x (some (a:Int)) (some (b:Int))).cps.toList=(x.cps.toList.drop a).take (b - a):=by
 have hm:a≤min b x.length:=by omega
 have hb:min b x.length≤x.length:=by omega
 have h1:=StrLaws.sliced_plain x hm hb
 have h2:=StrLaws.strSliceIndices_plain hm hb
 have hl:x.cps.toList.length=x.length:=by simp [Str.length]
 unfold Txt.slice
 rw[yG]
 split
 ·rename_i h
  have h:(Builtin.Str.strSliceIndices (some (a:Int)) (some ((min b x.length:Nat):Int)) 1 x.length).length=x.length:=by simpa using h
  rw[h2,List.length_map,List.length_range] at h
  by_cases hz:x.length=0
  ·have:x.cps.toList=[]:=List.length_eq_zero_iff.mp (by omega)
   rw[this];simp
  ·have e:a=0:=by omega
   subst e
   rw[List.drop_zero,List.take_of_length_le (by omega)]
 ·show (List.filterMap _ _).toArray.toList=_
  rw[h1,List.take_eq_take_iff,List.length_drop,hl]
  omega
def dY(x:Str)(p:Nat):Str:=⟨((x.cps.toList.drop p).take 1).toArray⟩
theorem tH(x:Str){p:Nat}(hp:p≤x.length):Txt.slice x (some (p:Int)) (some ((p:Int)+1))=dY x p:=by
 apply dJ
 have:=gA x (a:=p) (b:=p+1) (by omega) hp
 rw[Nat.add_sub_cancel_left] at this
 exact this
def inR(lo hi:Nat)(s:Str):Bool:=match s.cps.toList with
 | [c]=>decide (lo≤c)&&decide (c≤hi)
 |_=>false
theorem BL(lo:Nat)(s:Str)(h:s.cps.toList.length≤1):(!decide (s.cps.toList< [lo]))=(match s.cps.toList with| [c]=>decide (lo≤c) |_=>false):=by
 match hh:s.cps.toList,h with
 | [],_=>simp
 | [c],_=>
   have:([c] < [lo])↔c<lo:=by simp [List.cons_lt_cons_iff]
   by_cases hc:c<lo
   ·rw[decide_eq_true (this.mpr hc)];simp;omega
   ·rw[decide_eq_false (fun z=>hc (this.mp z))];simp;omega
 |_::_::_,h=>simp at h
theorem BM(hi:Nat)(s:Str)(h:s.cps.toList.length≤1):(!decide ([hi] <s.cps.toList))=(match s.cps.toList with| [c]=>decide (c≤hi) |_=>true):=by
 match hh:s.cps.toList,h with
 | [],_=>simp
 | [c],_=>
   have:([hi] < [c])↔hi<c:=by simp [List.cons_lt_cons_iff]
   by_cases hc:hi<c
   ·rw[decide_eq_true (this.mpr hc)];simp;omega
   ·rw[decide_eq_false (fun z=>hc (this.mp z))];simp;omega
 |_::_::_,h=>simp at h
theorem iy(x:Str)(p:Nat):(dY x p).cps.toList.length≤1:=by
 unfold dY
 simp
 omega
def Not(f:Nat→Bool)(l:List Nat):Prop:=∀c,l.head? =some c→f c=false
def cJ(c:Nat):Bool:=decide (48≤c)&&decide (c≤57)
def eR(c:Nat):Bool:=decide (97≤c)&&decide (c≤122)
def gB(c:Nat):Bool:=decide (65≤c)&&decide (c≤90)
def a8(n:Int):List Nat:=(cD n).cps.toList
theorem m7:a8 1=[]:=by decide+kernel
theorem eM{n:Nat}(h:n≠1):a8 (n:Int)=(Nat.toDigits 10 n).map Char.toNat:=by
 unfold a8 cD
 rw[if_neg (by omega)]
 exact PySem.W.KIN.signs_num n
theorem iz(n:Nat):(a8 (n:Int)).all cJ=true:=by
 by_cases h:n=1
 ·subst h;rw[show ((1 :Nat):Int)=1 from rfl,m7];rfl
 ·rw[eM h,List.all_eq_true]
  intro c hc
  obtain⟨ch,uu,e⟩:=List.mem_map.mp hc
  have r:=PyProof.Rows.digit_range (Nat.isDigit_of_mem_toDigits (by decide) (by decide) uu)
  rw[←e]
  simp only [cJ,Bool.and_eq_true,decide_eq_true_eq]
  exact r
theorem vF(n:Nat):Nat.toDigits 10 n≠[]:=by
 intro e
 have h:=PySem.toDigits_len_ge 10 n
 rw[e] at h
 exact absurd h (by decide)
theorem vG:∀n:Nat,n≠0→(Nat.toDigits 10 n).head? ≠some '0' :=by
 intro n
 induction n using Nat.strongRecOn with
 |_ m ih=>
  intro h0
  by_cases h:m<10
  ·rw[Nat.toDigits_of_lt_base h]
   have:∀m:Nat,m<10→m≠0→[Nat.digitChar m].head? ≠some '0' :=by decide
   exact this m h h0
  ·have hm:m%10<10:=Nat.mod_lt m (by decide)
   have t:Nat.toDigits 10 (m/10)++Nat.toDigits 10 (m%10)=Nat.toDigits 10 (10*(m/10)+m%10):=Nat.toDigits_append_toDigits (by decide) (by omega) hm
   rw[Nat.div_add_mod] at t
   have:=ih (m/10) (by omega) (by omega)
   rw[←t]
   cases hh:Nat.toDigits 10 (m/10) with
   |nil=>exact absurd hh (vF _)
   |cons c r=>
    rw[hh] at this
    exact this
theorem vH(n:Nat)(h0:n≠0):(a8 (n:Int)).head? ≠some 48:=by
 by_cases h:n=1
 ·subst h;rw[show ((1 :Nat):Int)=1 from rfl,m7];simp
 ·rw[eM h,List.head?_map]
  intro z
  cases e:(Nat.toDigits 10 n).head? with
  |none=>rw[e] at z;cases z
  |some c=>
   rw[e] at z
   have z:c.toNat=48:=by simpa using z
   have:c='0' :=by
    apply Char.ext
    apply UInt32.toNat_inj.mp
    exact z
   exact vG n h0 (by rw[e,this])
theorem yH(n:Nat):a8 (n:Int)≠[49]:=by
 by_cases h:n=1
 ·subst h;rw[show ((1 :Nat):Int)=1 from rfl,m7];simp
 ·rw[eM h]
  intro z
  have:=PySem.W.KIN.val_back n
  rw[z] at this
  exact h this.symm
theorem yI(n:Nat)(h:a8 (n:Int)=[]):n=1:=by
 by_cases e:n=1
 ·exact e
 ·rw[eM e] at h
  exact absurd (List.map_eq_nil_iff.mp h) (vF n)
theorem tI{n:Nat}{k:Nat}(hk:0<k)(h:n<10^k):(cD (n:Int)).length≤k:=by
 unfold cD
 split
 ·exact Nat.zero_le _
 ·rw[PySem.ofString_length]
  show (Nat.repr n).length≤k
  rw[Nat.length_repr_le_iff hk]
  exact h
theorem yJ(n:Nat)(h:n<10^12)(h1:n≠1):PySem.intText? (cD (n:Int))=some (n:Int):=by
 have hd:PySem.NumText.AllDigits (cD (n:Int)).cps.toList:=by
  intro c hc
  have:=List.all_eq_true.mp (iz n) c hc
  simpa only [cJ,Bool.and_eq_true,decide_eq_true_eq] using this
 have gP:(cD (n:Int)).cps.toList≠[]:=fun z=>h1 (yI n z)
 have e:=PySem.intText_digits hd gP (Nat.le_trans (tI (by decide) h) (by decide))
 rw[show (cD (n:Int)).cps.toList=_ from eM h1,PySem.W.KIN.val_back] at e
 exact e
instance J0 (k:Key) (K:List Key):Decidable (k∈K):=decidable_of_iff ((K.any fun x=>decide (x=k))=true) (by simp)
theorem J1:¬(("text" :Str)="place"):=by decide+kernel
def dZ(x:Str)(p:Nat):List (Str×V):=cC "place" (.int p) (cC "text" (.str x) [])
theorem fk(x:Str)(p:Nat):(dZ x p).lookup ("text" :Str)=some (.str x):=by
 unfold dZ
 rw[aO,if_neg J1,aO,if_pos rfl]
theorem aT(x:Str)(p:Nat):(dZ x p).lookup ("place" :Str)=some (.int p):=by
 unfold dZ
 rw[aO,if_pos rfl]
theorem aI(x:Str)(p:Nat){m:Str}(h1:¬m="place")(h2:¬m="text"):(dZ x p).lookup m=none:=by
 unfold dZ
 rw[aO,if_neg h1,aO,if_neg h2]
 all_goals rfl
theorem gC(x:Str)(p q:Nat):cC "place" (.int q) (dZ x p)=dZ x q:=by
 unfold dZ
 simp only [cC,if_neg J1,if_true]
theorem gD(x:Str)(p:Nat):(dZ x p).length<1000:=by
 unfold dZ
 simp only [cC,if_neg J1]
 show 2<1000
 decide
def cM(R:Addr)(H:Hp)(r:Addr)(x:Str)(p:Nat):Prop:=∃dx,H r=some (.ins R dx (dZ x p))
def Kept(r:Addr)(H H':Hp):Prop:=∀b o,H b=some o→b≠r→H' b=some o
theorem Kept.refl(r:Addr)(H:Hp):Kept r H H:=fun _ _ h _=>h
theorem Kept.trans{r:Addr}{H H' c9:Hp}(h:Kept r H H')(h':Kept r H' c9):Kept r H c9:=fun b o e n=>h' b o (h b o e n) n
theorem Kept.of{r:Addr}{H H':Hp}(h:aK H H'):Kept r H H':=fun b o e _=>h b o e
def Ae(lo hi:Nat):Sp:=fun vs H Q _=>∃s:Str,vs=[.str s]∧s.cps.toList.length≤1∧Q (.bl (inR lo hi s)) H
def rR(R:Addr):Sp:=fun vs H Q _=>∃(r dx:Addr) (x:Str),vs=[.ref r, .str x]∧H r=some (.ins R dx [])∧∀H',cM R H' r x 0→Kept r H H'→Q .bR H'
def fo(R:Addr):Sp:=fun vs H Q _=>∃(r:Addr) (x:Str) (p:Nat),vs=[.ref r]∧cM R H r x p∧p≤x.length∧x.length≤1000∧Q (.str (dY x p)) H
def jK(k:List Nat):Prop:=∃c r,k=c::r∧gB c=true∧r.all eR=true∧r.length≤2
structure kj(K:PySem.W.Frag)(mg:Str→Option Value)(C R:Addr)(uK uN:Tok):Prop extends fX K mg C where
 au:nX K R
 iA:b5 K R "text"
 a9:b5 K R "place"
 km:mg "LONGEST_KIND" =some (.int 3 uK)
 ju:mg "LONGEST_COUNT" =some (.int 3 uN)
section
seal iR PS PE PT PW PA PG O8 PI PC Ec
variable {P:Program}{w:World}{K:PySem.W.Frag}{mg:Str→Option Value}{base:Heap}{C R G Pc Fo:Addr}{uK uN uB uE uM:Tok}
theorem yK:ax ["sign"] ["sign"] (ak mQ):=dO
theorem yL:ax ["sign"] ["sign"] (ak mR):=dO
theorem vI:ax ["sign"] ["sign"] (ak jD):=dO
theorem qq(lo hi:Nat)(s:Str)(h:s.cps.toList.length≤1):(if (!decide (s.cps.toList< [lo]))=true then (!decide ([hi] <s.cps.toList)) else false)=inR lo hi s:=by
 rw[BL lo s h,BM hi s h]
 unfold inR
 match hh:s.cps.toList,h with
 | [],_=>rfl
 | [c],_=>
   show (if decide (lo≤c)=true then decide (c≤hi) else false)=(decide (lo≤c)&&decide (c≤hi))
   cases decide (lo≤c)<;>rfl
 |_::_::_,h=>simp at h
theorem vJ(D:Def K mg "is_great" "is_great" mQ ["sign"]):bj P w K mg base 1 "is_great" ["sign"] (Ae 65 90):=by
 refine D.e9 yK (fun vs H Q E h=>?_) (fun f bb A outer s H vs Q E hr h=>?_)
 ·obtain⟨n,rfl,_⟩:=h
  rfl
 ·obtain⟨x,rfl,hl,q⟩:=h
  refine⟨_,(aq
     (aE (j1 dN dN aG (pv 0) aG))),?_⟩
  rw[←qq 65 90 x hl] at q
  have e1:("A" :Str).cps.toList=[65]:=by decide+kernel
  have e2:("Z" :Str).cps.toList=[90]:=by decide+kernel
  refine⟨_,rfl,_,_,rfl,rfl,_,rfl,?_⟩
  rw[e1]
  cases hh:(!decide (x.cps.toList< [65])) with
  |false=>rw[hh] at q;exact bZ q
  |true=>rw[hh] at q;exact cO ⟨_,_,rfl,rfl,by rw[e2];exact q⟩
theorem vK(D:Def K mg "is_small" "is_small" mR ["sign"]):bj P w K mg base 1 "is_small" ["sign"] (Ae 97 122):=by
 refine D.e9 yL (fun vs H Q E h=>?_) (fun f bb A outer s H vs Q E hr h=>?_)
 ·obtain⟨n,rfl,_⟩:=h
  rfl
 ·obtain⟨x,rfl,hl,q⟩:=h
  refine⟨_,(aq
     (aE (j1 dN dN aG (pv 0) aG))),?_⟩
  rw[←qq 97 122 x hl] at q
  have e1:("a" :Str).cps.toList=[97]:=by decide+kernel
  have e2:("z" :Str).cps.toList=[122]:=by decide+kernel
  refine⟨_,rfl,_,_,rfl,rfl,_,rfl,?_⟩
  rw[e1]
  cases hh:(!decide (x.cps.toList< [97])) with
  |false=>rw[hh] at q;exact bZ q
  |true=>rw[hh] at q;exact cO ⟨_,_,rfl,rfl,by rw[e2];exact q⟩
theorem tJ(D:Def K mg "is_figure" "is_figure" jD ["sign"]):bj P w K mg base 1 "is_figure" ["sign"] (Ae 48 57):=by
 refine D.e9 vI (fun vs H Q E h=>?_) (fun f bb A outer s H vs Q E hr h=>?_)
 ·obtain⟨n,rfl,_⟩:=h
  rfl
 ·obtain⟨x,rfl,hl,q⟩:=h
  refine⟨_,(aq
     (aE (j1 dN dN aG (pv 0) aG))),?_⟩
  rw[←qq 48 57 x hl] at q
  have e1:("0" :Str).cps.toList=[48]:=by decide+kernel
  have e2:("9" :Str).cps.toList=[57]:=by decide+kernel
  refine⟨_,rfl,_,_,rfl,rfl,_,rfl,?_⟩
  rw[e1]
  cases hh:(!decide (x.cps.toList< [48])) with
  |false=>rw[hh] at q;exact bZ q
  |true=>rw[hh] at q;exact cO ⟨_,_,rfl,rfl,by rw[e2];exact q⟩
theorem yM:ax ["self","text"] ["self","text"] (ak mT):=dO
theorem vL(D:iY K R "Reader.__init__" mT ["self","text"] [])(T:kj K mg C R uK uN):eD P w K mg base 1 R ["self","text"] [] (rR R):=by
 refine D.e9 yM (fun vs H Q E h=>?_) (fun f bb A outer s H vs Q E hr h=>?_)
 ·obtain⟨r,dx,x,rfl,_⟩:=h
  rfl
 ·obtain⟨r,dx,x,rfl,hp,q⟩:=h
  refine⟨_,(aj
     (eh (pv 0) (pv 1) rfl)
    (aq
     (eh (pv 0) ao rfl))),?_⟩
  refine⟨_,rfl,_,rfl,r,R,dx,[],rfl,hp,T.au,T.iA,(by show 0<1000;decide),_,rfl,r,R,dx,_,rfl,ag,T.au,T.a9,(by show 1<1000;decide),?_⟩
  refine q _ ⟨dx,ag⟩ fun b o e hb=>?_
  rw[ah hb,ah hb]
  exact e
theorem BN:ax ["self"] ["self"] (ak rG):=dO
theorem yO(D:bL K R "sign" "Reader.sign" rG ["self"])(T:kj K mg C R uK uN):cI P w K mg base 1 R "sign" ["self"] (fo R):=by
 refine D.e9 BN (fun vs H Q E h=>?_) (fun f bb A outer s H vs Q E hr h=>?_)
 ·obtain⟨r,x,p,rfl,_⟩:=h
  rfl
 ·obtain⟨r,x,p,rfl,⟨dx,hR⟩,hp,hx,q⟩:=h
  have big:(1000 :Nat)≤sizeLine:=by decide
  refine⟨_,(aq
     (aE (bX fb (bu (pv 0) rfl) (bQ (bu (pv 0) rfl)) (bQ (az dv (bu (pv 0) rfl) ao))))),?_⟩
  rw[←tH x hp] at q
  exact⟨_,rfl,r,R,dx,_,_,rfl,hR,T.au,T.iA,fk _ _,_,rfl,r,R,dx,_,_,rfl,hR,T.au,T.a9,aT _ _,_,rfl,_,rfl,r,R,dx,_,_,rfl,hR,T.au,T.a9,aT _ _,_,_,rfl,rfl,_,rfl,x,rfl,by omega,q⟩
theorem BO:ax ["self","sign"] ["self","sign"] (ak rH):=dO
theorem lI:ax ["self","signs","sign"] ["self","signs"] (ak ip):=dO
theorem tK:ax ["self"] ["self"] (ak iq):=dO
theorem rS{n:Int}(h1:1≤n)(h2:n<10^12):∃m:Nat,n=(m:Int)∧m<10^12∧m≠0:=⟨n.toNat,by omega,by omega,by omega⟩
theorem i':ax ["self","longest","begin","written"] ["self","longest"] (ak iu):=dO
theorem vM:ax ["self"] ["self"] (ak jF):=dO
theorem aZ{r a:Addr}{H H':Hp}{o:HO}(k:Kept r H H')(hr:H' r=some o)(h:H' a=none):H a=none:=by
 cases hh:H a with
 |none=>rfl
 |some o'=>
  by_cases e:a=r
  ·rw[e,hr] at h;cases h
  ·rw[k a o' hh e] at h;cases h
theorem yP{f:Nat→Bool}{l post:List Nat}(h1:∀c∈l,f c=false)(h2:Not f post):Not f (l++post):=by
 cases l with
 |nil=>exact h2
 |cons c r=>
  intro d hd
  have e:c=d:=by simpa using hd
  rw[←e]
  exact h1 c (List.mem_cons_self ..)
theorem vN{n:Int}(h1:1≤n)(h2:n≤999):∀c∈a8 n,eR c=false:=by
 intro c hc
 obtain⟨m,rfl,m1,m0⟩:=rS h1 (by omega)
 have:=List.all_eq_true.mp (iz m) c hc
 simp only [cJ,eR,Bool.and_eq_true,decide_eq_true_eq] at*
 simp
 omega
theorem m8:ax ["self","begin","kind"] ["self"] (ak mU):=dO
inductive Tr where
 |one (k:List Nat) (n:Int)
 |gr (ts:List Tr) (n:Int)
def bD:Nat→Tr→List Nat
 |_, .one k n=>k++a8 n
 |0, .gr _ _=>[]
 |d+1, .gr ts n=>40::(ts.flatMap (bD d)++41::a8 n)
def iQ:Nat→Tr→Prop
 |_, .one k n=>jK k∧1≤n∧n≤999
 |0, .gr _ _=>False
 |d+1, .gr ts n=>ts≠[]∧(∀t∈ts,iQ d t)∧1≤n∧n≤999
def dc(C G:Addr):Nat→Hp→Addr→Tr→Prop
 |_,H,p, .one k n=>dW C H p ⟨k.toArray⟩ n
 |0,_,_, .gr _ _=>False
 |d+1,H,p, .gr ts n=>∃dx l ps,H p=some (.ins G dx (ix l n))∧H l=some (.lst (ps.map V.ref))∧Paired (dc C G d H) ps ts
def BP(C G:Addr)(d:Nat)(H H':Hp)(a:Addr)(t:Tr):Prop:=∀c9,(∀b o,H b=none→H' b=some o→c9 b=some o)→dc C G d c9 a t
def J2(C G L:Addr)(d:Nat)(H H':Hp)(a:Addr)(t:Tr):Prop:=∀c9,(∀b o,H b=none→b≠L→H' b=some o→c9 b=some o)→dc C G d c9 a t
def Ex(C G:Addr)(d:Nat)(H H':Hp)(l:Addr)(ts:List Tr):Prop:=H l=none∧∃ps,H' l=some (.lst (ps.map V.ref))∧∀c9,(∀b o,H b=none→H' b=some o→c9 b=some o)→Paired (dc C G d c9) ps ts
def Stop(post:List Nat):Prop:=Not cJ post∧Not eR post∧Not gB post∧Not (fun c=>decide (c=40)) post
structure m9(K:PySem.W.Frag)(mg:Str→Option Value)(C R G:Addr)(uK uN uB uE uM:Tok):Prop extends kj K mg C R uK uN where
 dM:nX K G
 lJ:b5 K G "parts"
 lK:b5 K G "count"
 yQ:mg "Group" =some (.ref G)
 dk:mg "GROUP_BEGIN" =some (.str "(" uB)
 jm:mg "GROUP_END" =some (.str ")" uE)
 fY:mg "MOST_GROUPS_AROUND" =some (.int 3 uM)
theorem Af:("(" :Str)=⟨#[40]⟩:=by decide+kernel
theorem Ia:(")" :Str)=⟨#[41]⟩:=by decide+kernel
theorem nh{d:Nat}{t:Tr}(h:iQ d t):∃c r,bD d t=c::r∧((gB c=true∧∃k n,t= .one k n)∨(c=40∧∃ts n,t= .gr ts n)):=by
 cases t with
 |one k n=>
  have h:jK k∧1≤n∧n≤999:=by cases d<;>exact h
  obtain⟨⟨c,r,rfl,hc,_⟩,_⟩:=h
  have e:bD d (.one (c::r) n)=c::(r++a8 n):=by cases d<;>rfl
  exact⟨c,_,e, .inl ⟨hc,_,_,rfl⟩⟩
 |gr ts n=>
  cases d with
  |zero=>exact h.elim
  |succ d=>exact⟨40,_,rfl, .inr ⟨rfl,_,_,rfl⟩⟩
theorem yR:ax ["self","around"] ["self","around"] (ak ki):=dO
def iB(X:Addr):Sp:=fun vs H Q _=>∃(p dx l:Addr) (c:Int) (xs:List V),vs=[.ref p, .ref l, .int c]∧H p=some (.ins X dx [])∧H l=some (.lst xs)∧
 ∀n H',H n=none→H' p=some (.ins X dx (ix n c))→H' n=some (.lst xs)→(∀b o,H b=some o→b≠p→H' b=some o)→Q .bR H'
theorem eO{H:Hp}{a b m:Addr}{o o':HO}(h:(upd (upd H a o) b o') m=none):H m=none:=by
 by_cases e:m=b
 ·rw[e,ag] at h;cases h
 ·rw[ah e] at h
  by_cases e':m=a
  ·rw[e',ag] at h;cases h
  ·rwa [ah e'] at h
theorem BQ(l:List Nat):Stop (41::l):=by
 refine⟨?_,?_,?_,?_⟩<;>(intro c hc;have e:41=c:=by simpa using hc)<;>subst e<;>decide
theorem ko:ax ["self","around","parts"] ["self","around"] (ak gy):=dO
theorem iC{d:Nat}:∀{ts:List Tr},(∀t∈ts,iQ d t)→ts.length≤(ts.flatMap (bD d)).length
 | [],_=>Nat.le_refl _
 |t::ts,h=>by
  obtain⟨c,r,e,_⟩:=nh (h t (List.mem_cons_self ..))
  have:=iC (d:=d) (ts:=ts) fun u hu=>h u (List.mem_cons_of_mem _ hu)
  rw[List.flatMap_cons,List.length_append,e,List.length_cons,List.length_cons]
  omega
theorem list_at{α:Type}{l:List α}{i:Nat}(h:i<l.length):l=l.take i++l[i]::l.drop (i+1):=by
 conv=>lhs;rw[←List.take_append_drop i l]
 congr 1
 exact List.drop_eq_getElem_cons h
theorem kq{d:Nat}{ts:List Tr}{post:List Nat}(h:∀t∈ts,iQ d t)(hs:Stop post):Not cJ (ts.flatMap (bD d)++post)∧Not eR (ts.flatMap (bD d)++post):=by
 cases ts with
 |nil=>exact⟨hs.1,hs.2.1⟩
 |cons t ts=>
  obtain⟨c,r,e,hc⟩:=nh (h t (List.mem_cons_self ..))
  have hc:gB c=true∨c=40:=hc.elim (fun z=> .inl z.1) fun z=> .inr z.1
  rw[List.flatMap_cons,e]
  refine⟨fun b hb=>?_,fun b hb=>?_⟩<;>have eb:c=b:=by simpa using hb
  ·subst eb
   rcases hc with hc|rfl
   ·simp only [gB,cJ,Bool.and_eq_true,decide_eq_true_eq] at*
    simp
    omega
   ·decide
  ·subst eb
   rcases hc with hc|rfl
   ·simp only [gB,eR,Bool.and_eq_true,decide_eq_true_eq] at*
    simp
    omega
   ·decide
theorem aR{α β:Type}{p q:α→β→Prop}(h:∀a b,p a b→q a b):∀{as:List α} {bs:List β},Paired p as bs→Paired q as bs
 |_,_, .nil=> .nil
 |_,_, .cons x t=> .cons (h _ _ x) (aR h t)
theorem cK{α β:Type}{p:α→β→Prop}{a:α}{b:β}(x:p a b):∀{as:List α} {bs:List β},Paired p as bs→Paired p (as++[a]) (bs++[b])
 |_,_, .nil=> .cons x .nil
 |_,_, .cons y t=> .cons y (cK x t)
theorem oY:ax ["self","around","parts"] ["self","around"] (ak ir):=dO
def fH(n:Int):List Nat:=if n=0 then [] else 94::(a8 (if n<0 then -n else n)++[if 0<n then 43 else 45])
def J3(post:List Nat):Prop:=post=[]∨∃r,post=32::r
theorem J3.stop{post:List Nat}(h:J3 post):Stop post:=by
 rcases h with rfl| ⟨r,rfl⟩
 ·refine⟨?_,?_,?_,?_⟩<;>(intro c hc;cases hc)
 ·refine⟨?_,?_,?_,?_⟩<;>(intro c hc;have e:32=c:=by simpa using hc)<;>subst e<;>decide
structure Ey(K:PySem.W.Frag)(mg:Str→Option Value)(C R:Addr)(uK uN uC uP uI:Tok):Prop extends kj K mg C R uK uN where
 eo:mg "CHARGE_MARK" =some (.str "^" uC)
 vO:mg "PLUS" =some (.str "+" uP)
 ni:mg "MINUS" =some (.str "-" uI)
theorem Ag:("^" :Str)=⟨#[94]⟩:=by decide+kernel
theorem J4:("+" :Str)=⟨#[43]⟩:=by decide+kernel
theorem Ez:("-" :Str)=⟨#[45]⟩:=by decide+kernel
theorem lL:ax ["self","count"] ["self"] (ak iv):=dO
theorem J6:¬(("pieces" :Str)="charge"):=by decide+kernel
def jo(l:Addr)(n:Int):List (Str×V):=cC "charge" (.int n) (cC "pieces" (.ref l) [])
theorem iD(l:Addr)(n:Int):(jo l n).lookup ("pieces" :Str)=some (.ref l):=by
 unfold jo
 rw[aO,if_neg J6,aO,if_pos rfl]
theorem nj(l:Addr)(n:Int):(jo l n).lookup ("charge" :Str)=some (.int n):=by
 unfold jo
 rw[aO,if_pos rfl]
theorem vP(l:Addr)(n:Int){m:Str}(h1:¬m="charge")(h2:¬m="pieces"):(jo l n).lookup m=none:=by
 unfold jo
 rw[aO,if_neg h1,aO,if_neg h2]
 all_goals rfl
def nk(X:Addr):Sp:=fun vs H Q _=>∃(p dx l:Addr) (c:Int) (xs:List V),vs=[.ref p, .ref l, .int c]∧H p=some (.ins X dx [])∧H l=some (.lst xs)∧
 ∀n H',H n=none→H' p=some (.ins X dx (jo n c))→H' n=some (.lst xs)→(∀b o,H b=some o→b≠p→H' b=some o)→Q .bR H'
abbrev de:=Int×List Tr
def ja(C G Pc:Addr)(d:Nat)(H:Hp)(p:Addr)(x:de):Prop:=∃dx l ps,H p=some (.ins Pc dx (ix l x.1))∧H l=some (.lst (ps.map V.ref))∧Paired (dc C G d H) ps x.2
def vQ(C G Pc Fo:Addr)(d:Nat)(H:Hp)(f:Addr)(xs:List de)(n:Int):Prop:=∃dx l ps,H f=some (.ins Fo dx (jo l n))∧H l=some (.lst (ps.map V.ref))∧Paired (ja C G Pc d H) ps xs
def EA(C G Pc L:Addr)(d:Nat)(H H':Hp)(p:Addr)(x:de):Prop:=∀c9,(∀b o,H b=none→b≠L→H' b=some o→c9 b=some o)→ja C G Pc d c9 p x
def BR(C G Pc Fo:Addr)(d:Nat)(H H':Hp)(f:Addr)(xs:List de)(n:Int):Prop:=∀c9,(∀b o,H b=none→H' b=some o→c9 b=some o)→vQ C G Pc Fo d c9 f xs n
def dh(d:Nat)(x:de):List Nat:=a8 x.1++x.2.flatMap (bD d)
def a5(d:Nat)(xs:List de):List Nat:=xs.flatMap fun x=>46::dh d x
def wL(d:Nat):List de→Int→List Nat
 | [],_=>[101,94,45]
 |x::r,n=>x.2.flatMap (bD d)++(a5 d r++fH n)
def oJ(d:Nat)(x:de):Prop:=x.2≠[]∧(∀t∈x.2,iQ d t)∧1≤x.1∧x.1≤999
def xO(d:Nat):List de→Int→Prop
 | [],n=>n= -1
 |x::r,n=>x.1=1∧(∀y∈x::r,oJ d y)∧ -999≤n∧n≤999
structure jv(K:PySem.W.Frag)(mg:Str→Option Value)(C R G Pc Fo:Addr)(uK uN uB uE uM uC uP uI uD uL uT:Tok):Prop extends m9 K mg C R G uK uN uB uE uM,Ey K mg C R uK uN uC uP uI where
 cA:nX K Pc
 bw:nX K Fo
 lM:b5 K Pc "parts"
 lN:b5 K Pc "count"
 gW:b5 K Fo "pieces"
 kr:b5 K Fo "charge"
 rT:mg "Piece" =some (.ref Pc)
 lO:mg "Formula" =some (.ref Fo)
 vR:mg "Reader" =some (.ref R)
 fZ:mg "PIECE_DOT" =some (.str "." uD)
 gX:mg "ELECTRON" =some (.str "e^-" uL)
 ku:mg "LONGEST_TEXT" =some (.int 400 uT)
 n_list:mg "list" =none
 Ah:mg "abs" =none
theorem eE:("e^-" :Str)=⟨#[101,94,45]⟩:=by decide+kernel
theorem oZ:ax ["self"] ["self"] (ak fh):=dO
theorem nq(n:Int):fH n=[]∨∃r,fH n=94::r:=by
 unfold fH
 split
 ·exact .inl rfl
 ·exact .inr ⟨_,rfl⟩
theorem lP{c:Nat}{l:List Nat}(h:c=46∨c=94):Stop (c::l):=by
 refine⟨?_,?_,?_,?_⟩<;>(intro b hb;have e:c=b:=by simpa using hb)<;>subst e<;>rcases h with rfl|rfl<;>decide
theorem tL(d:Nat)(xs:List de)(n:Int){post:List Nat}(Qc:J3 post):Stop (a5 d xs++(fH n++post)):=by
 cases xs with
 |nil=>
  show Stop (fH n++post)
  rcases nq n with e| ⟨r,e⟩
  ·rw[e];exact Qc.stop
  ·rw[e];exact lP (.inr rfl)
 |cons x r=>exact lP (.inl rfl)
theorem nu(d:Nat):∀xs:List de,xs.length≤(a5 d xs).length
 | []=>Nat.le_refl _
 |y::r=>by
  have ih:=nu d r
  show r.length+1≤(46::dh d y++a5 d r).length
  rw[List.length_append,List.length_cons]
  omega
theorem Dm:("." :Str)=⟨#[46]⟩:=by decide+kernel
theorem kv:ax ["self","pieces","count"] ["self"] (ak jE):=dO
theorem tM:ax ["text"] ["text"] (ak ik):=dO
theorem gY:ax ["text","reader","formula"] ["text"] (ak gz):=dO
theorem yS:∀(w:List Nat),w.all cJ=true→w.head? ≠some 48→w≠[]→∃n:Nat,0<n∧(Nat.toDigits 10 n).map Char.toNat=w∧n<10^w.length:=by
 have one:∀c:Nat,c<10→(Nat.toDigits 10 c).map Char.toNat=[c+48]:=by decide
 intro w
 induction hl:w.length generalizing w with
 |zero=>intro _ _ h;exact absurd (List.length_eq_zero_iff.mp hl) h
 |succ m ih=>
  intro ha hh _
  obtain⟨v,c,rfl⟩:∃v c,w=v++[c]:=⟨w.dropLast,w.getLast (by intro z;rw[z] at hl;cases hl),(List.dropLast_concat_getLast _).symm⟩
  rw[List.all_append,Bool.and_eq_true] at ha
  obtain⟨ha,hc⟩:=ha
  have hc:48≤c∧c≤57:=by simpa [cJ] using hc
  have hv:v.length=m:=by simpa using hl
  cases v with
  |nil=>
   have SU:c≠48:=fun z=>hh (by rw[z];rfl)
   refine⟨c - 48,by omega,?_,by have:m=0:=hv.symm;subst this;omega⟩
   rw[one (c - 48) (by omega)]
   show [c - 48+48]=[c]
   rw[Nat.sub_add_cancel hc.1]
  |cons b r=>
   obtain⟨n,n0,en,nl⟩:=ih (b::r) hv ha (fun z=>hh (by simpa using z)) (by simp)
   refine⟨10*n+(c - 48),by omega,?_,?_⟩
   ·rw[←Nat.toDigits_append_toDigits (by decide) n0 (by omega:c - 48<10),List.map_append,en,one (c - 48) (by omega),Nat.sub_add_cancel hc.1]
   ·have:m+1=(b::r).length+1:=by omega
    rw[Nat.pow_succ]
    omega
theorem BS{w:List Nat}(ha:w.all cJ=true)(hh:w.head? ≠some 48)(h1:w≠[49]):∃n:Nat,a8 (n:Int)=w∧0<n∧(w=[]∧n=1∨w≠[]∧n≠1)∧n<10^(w.length+1)∧(w≠[]→n<10^w.length):=by
 by_cases hw:w=[]
 ·subst hw
  exact⟨1,m7,by decide, .inl ⟨rfl,rfl⟩,by decide,fun z=>absurd rfl z⟩
 ·obtain⟨n,n0,en,nl⟩:=yS w ha hh hw
  have n1:n≠1:=fun z=>h1 (by rw[←en,z];rfl)
  exact⟨n,by rw[eM n1,en],n0, .inr ⟨hw,n1⟩,Nat.lt_of_lt_of_le nl (Nat.pow_le_pow_right (by decide) (by omega)),fun _=>nl⟩
abbrev sf(x:Str)(p:Nat):List Nat:=x.cps.toList.drop p
def iE(lg:Nat)(u:List Nat)(n:Int)(v:List Nat):Prop:=u=a8 n++v∧1≤n∧n<10^lg∧(a8 n).length≤lg∧(Not cJ v∨(a8 n).length=lg)
def o5(u v:List Nat):Prop:=v=u∧u.head? =some 48∨u=49::v∧Not cJ v
def gQ(u k:List Nat)(n:Int)(v:List Nat):Prop:=∃w,u=k++w∧jK k∧(k.length=3∨Not eR w)∧iE 3 w n v
def rV(u v:List Nat):Prop:=v=u∧Not gB u∨∃k w,u=k++w∧jK k∧(k.length=3∨Not eR w)∧o5 w v
def More(u:List Nat):Prop:=∃c,u.head? =some c∧(gB c=true∨c=40)
inductive Sq(p:List Nat→Tr→List Nat→Prop)(u:List Nat):List Tr→List Nat→Prop
 |one (t:Tr) (v:List Nat) (h:p u t v):Sq p u [t] v
 |snoc (ts:List Tr) (w:List Nat) (t:Tr) (v:List Nat) (s:Sq p u ts w) (m:More w) (h:p w t v):Sq p u (ts++[t]) v
def xP(p:List Nat→Tr→List Nat→Prop)(u:List Nat)(ts:List Tr)(v:List Nat):Prop:=Sq p u ts v∧¬More v
def Dn(p:List Nat→Tr→List Nat→Prop)(b:List Nat→List Nat→Prop)(u v:List Nat):Prop:=b u v∨∃ts w,Sq p u ts w∧More w∧b w v
def gZ:Nat→List Nat→Tr→List Nat→Prop
 |0,u,t,v=>∃k n,t= .one k n∧gQ u k n v
 |d+1,u,t,v=>(u.head? ≠some 40∧∃k n,t= .one k n∧gQ u k n v)∨∃u' ts n w,u=40::u'∧t= .gr ts n∧xP (gZ d) u' ts (41::w)∧iE 3 w n v
def BU:Nat→List Nat→List Nat→Prop
 |0,u,v=>rV u v
 |d+1,u,v=>(u.head? ≠some 40∧rV u v)∨∃u',u=40::u'∧(Dn (gZ d) (BU d) u' v∨(∃ts,xP (gZ d) u' ts v∧v.head? ≠some 41)∨∃ts w,xP (gZ d) u' ts (41::w)∧o5 w v)
def Ic(u:List Nat)(n:Int)(v:List Nat):Prop:=(u.head? ≠some 94∧n=0∧v=u)∨∃u' m w,u=94::u'∧iE 3 u' m w∧(w=45::v∧n= -m∨w=43::v∧n=m)
def Ol(u v:List Nat):Prop:=∃u',u=94::u'∧(o5 u' v∨∃m,iE 3 u' m v∧v.head? ≠some 45∧v.head? ≠some 43)
def Om(u v:List Nat):Prop:=u=101::v∧v.head? ≠some 94∨u=101::94::v∧v.head? ≠some 45
inductive pQ(u:List Nat):List de→List Nat→Prop
 |one (ts:List Tr) (v:List Nat) (h:xP (gZ 4) u ts v):pQ u [(1,ts)] v
 |snoc (ps:List de) (w:List Nat) (m:Int) (w1:List Nat) (ts:List Tr) (v:List Nat) (s:pQ u ps (46::w)) (n:iE 3 w m w1) (h:xP (gZ 4) w1 ts v):pQ u (ps++[(m,ts)]) v
def yU(u:List Nat)(xs:List de)(n:Int)(v:List Nat):Prop:=(u=101::94::45::v∧xs=[]∧n= -1)∨u.head? ≠some 101∧∃w,pQ u xs w∧w.head? ≠some 46∧Ic w n v
def J7(u v:List Nat):Prop:=Om u v∨u.head? ≠some 101∧(Dn (gZ 4) (BU 4) u v∨(∃ps w,pQ u ps (46::w)∧(o5 w v∨∃m w1,iE 3 w m w1∧Dn (gZ 4) (BU 4) w1 v))∨∃ps w,pQ u ps w∧w.head? ≠some 46∧Ol w v)
def Oo(u v:List Nat):Prop:=J7 u v∨∃xs n,yU u xs n v∧v≠[]
theorem jb(x:Str)(p:Nat):(sf x p).length=x.length - p:=by
 unfold sf
 rw[List.length_drop]
 simp [Str.length]
theorem Ai(x:Str)(p:Nat):dY x p=⟨((sf x p).take 1).toArray⟩:=rfl
theorem dC{x:Str}{p c:Nat}:(V.str (dY x p)=V.str (⟨#[c]⟩:Str))↔(sf x p).head? =some c:=by
 rw[Ai]
 cases hs:sf x p with
 |nil=>
  refine⟨fun z=>?_,fun z=>by cases z⟩
  have z:(⟨((([]:List Nat)).take 1).toArray⟩:Str)=⟨#[c]⟩:=by injection z
  have:=congrArg (fun s:Str=>s.cps.toList) z
  simp at this
 |cons b r=>
  refine⟨fun z=>?_,fun z=>?_⟩
  ·have z:(⟨((b::r).take 1).toArray⟩:Str)=⟨#[c]⟩:=by injection z
   have:=congrArg (fun s:Str=>s.cps.toList) z
   simpa using this
  ·have:b=c:=by simpa using z
   rw[this]
   rfl
theorem cP{x:Str}{p c:Nat}(h:(sf x p).head? =some c):sf x p=c::sf x (p+1)∧p+1≤x.length:=by
 have hl:=jb x p
 have ed:sf x (p+1)=(sf x p).drop 1:=by unfold sf;rw[List.drop_drop]
 cases hs:sf x p with
 |nil=>rw[hs] at h;cases h
 |cons b r=>
  rw[hs] at h hl ed
  have:b=c:=by simpa using h
  rw[List.length_cons] at hl
  exact⟨by rw[ed,this];rfl,by omega⟩
theorem kx{x:Str}{p:Nat}(lo hi:Nat):inR lo hi (dY x p)=true↔∃c,(sf x p).head? =some c∧(decide (lo≤c)&&decide (c≤hi))=true:=by
 rw[Ai]
 cases hs:sf x p with
 |nil=>exact⟨fun z=>(by cases z),fun⟨c,z,_⟩=>(by cases z)⟩
 |cons b r=>
  refine⟨fun z=>⟨b,rfl,z⟩,fun⟨c,z,h⟩=>?_⟩
  have:b=c:=by simpa using z
  rw[this]
  exact h
theorem qr{x:Str}{p lo hi:Nat}(h:inR lo hi (dY x p)=false):Not (fun c=>decide (lo≤c)&&decide (c≤hi)) (sf x p):=fun c z=>by
 cases hb:(decide (lo≤c)&&decide (c≤hi)) with
 |false=>exact hb
 |true=>rw[(kx lo hi).mpr ⟨c,z,hb⟩] at h;cases h
theorem vS{x:Str}{p j:Nat}(h:p+j≤x.length):∃w,sf x p=w++sf x (p+j)∧w.length=j∧Txt.slice x (some (p:Int)) (some ((p+j:Nat):Int))=⟨w.toArray⟩:=by
 have hl:=jb x p
 have ed:sf x (p+j)=(sf x p).drop j:=by unfold sf;rw[List.drop_drop]
 refine⟨(sf x p).take j,by rw[ed,List.take_append_drop],by rw[List.length_take];omega,?_⟩
 apply dJ
 rw[gA x (by omega) (by omega),Nat.add_sub_cancel_left]
variable {HE NF TL:Addr}
structure nv(K:PySem.W.Frag)(mg:Str→Option Value)(HE NF TL:Addr):Prop where
 f6:mg "HallError" =some (.ref HE)
 iF:Ab K HE
 o6:mg "NoFormula" =some (.ref NF)
 tN:mg "TooLong" =some (.ref TL)
 yV:PySem.W.takerIn K NF "place" =some none
 BV:PySem.W.takerIn K TL "many" =some none
theorem o7{n:Int}(h0:0≤n)(h:n<10^50):(toString n:Str).length≤50:=by
 obtain⟨m,rfl⟩:=Int.eq_ofNat_of_zero_le h0
 rw[PySem.ofString_length]
 show (Nat.repr m).length≤50
 rw[Nat.length_repr_le_iff (by decide)]
 omega
theorem o8{n:Int}(h0:0≤n)(h:n<10^50):n.natAbs.log2<1920:=by
 by_cases e:n.natAbs=0
 ·rw[e];decide
 ·have:=(Nat.log2_lt e (k:=200)).mpr (by omega)
  omega
def ky(X:Addr)(fld:Str):Sp:=fun vs H Q _=>∃(e:Addr) (n:Int),vs=[.ref e, .int n]∧H e=some (oG e X none)∧0≤n∧n<10^50∧
 ∀dx H',H dx=none→dx≠e→H' e=some (oG e X (some dx))→H' dx=some (qg dx [(fld, .int n)])→(∀b o,H b=some o→b≠e→H' b=some o)→Q .bR H'
theorem EB:ax ["self","place"] ["self","place"] (ak yC):=dO
theorem yW:ax ["self","many"] ["self","many"] (ak mZ):=dO
theorem BW(D:ql K mg "NoFormula" NF HE "NoFormula.__init__" yC ["self","place"])(T:nv K mg HE NF TL):fW P w K mg base 1 "NoFormula" NF HE ["self","place"] (ky NF "place"):=by
 obtain⟨f0,_,_,Z,_⟩:=id D
 refine D.e9 EB (fun vs H Q E h=>?_) (fun f bb A outer s H vs Q E hr h=>?_)
 ·obtain⟨e,n,rfl,_⟩:=h
  rfl
 ·obtain⟨e,n,rfl,he,n0,n1,q⟩:=h
  have big:(2000 :Nat)≤sizeLine:=by decide
  have z1:=o7 n0 n1
  have y1:("no formula, by place " :Str).length=21:=by decide+kernel
  have y2:(" of the text" :Str).length=12:=by decide+kernel
  have y0:(Str.empty).length=0:=rfl
  refine⟨_,(aj
     (bq (oM rfl T.f6 T.iF (pv 0) (rC (gu aG (gu (vz (pv 1)) (gu aG vA))))))
    (aq
     (rB (pv 0) (pv 1) rfl))),?_⟩
  refine⟨_,rfl,_,rfl,?_,_,rfl, .inl ⟨_,rfl,o8 n0 n1,_,rfl,?_,_,rfl,?_,?_,e,NF,HE,f0,none,rfl,Z,he,?_⟩⟩
  any_goals (simp only [bc,y0,y1,y2];omega)
  refine⟨_,rfl,_,rfl,e,NF,HE,f0,rfl,Z,T.yV, .inl ⟨he,fun dx gK jw=>?_⟩⟩
  refine q dx _ gK jw ag (by rw[ah jw,ag]) fun b o z nb=>?_
  rw[ah nb,ah (af z gK)]
  exact z
theorem vT(D:ql K mg "TooLong" TL HE "TooLong.__init__" mZ ["self","many"])(T:nv K mg HE NF TL):fW P w K mg base 1 "TooLong" TL HE ["self","many"] (ky TL "many"):=by
 obtain⟨f0,_,_,Z,_⟩:=id D
 refine D.e9 yW (fun vs H Q E h=>?_) (fun f bb A outer s H vs Q E hr h=>?_)
 ·obtain⟨e,n,rfl,_⟩:=h
  rfl
 ·obtain⟨e,n,rfl,he,n0,n1,q⟩:=h
  have big:(2000 :Nat)≤sizeLine:=by decide
  have z1:=o7 n0 n1
  have y1:("the text is too long to be read: " :Str).length=33:=by decide+kernel
  have y2:(" signs" :Str).length=6:=by decide+kernel
  have y0:(Str.empty).length=0:=rfl
  refine⟨_,(aj
     (bq (oM rfl T.f6 T.iF (pv 0) (rC (gu aG (gu (vz (pv 1)) (gu aG vA))))))
    (aq
     (rB (pv 0) (pv 1) rfl))),?_⟩
  refine⟨_,rfl,_,rfl,?_,_,rfl, .inl ⟨_,rfl,o8 n0 n1,_,rfl,?_,_,rfl,?_,?_,e,TL,HE,f0,none,rfl,Z,he,?_⟩⟩
  any_goals (simp only [bc,y0,y1,y2];omega)
  refine⟨_,rfl,_,rfl,e,TL,HE,f0,rfl,Z,T.BV, .inl ⟨he,fun dx gK jw=>?_⟩⟩
  refine q dx _ gK jw ag (by rw[ah jw,ag]) fun b o z nb=>?_
  rw[ah nb,ah (af z gK)]
  exact z
def Rz(NF:Addr)(H:Hp)(r:Addr)(E:XK)(e:Nat):Prop:=∀b dx H',H b=none→H dx=none→H' b=some (oH b NF (some dx))→H' dx=some (qg dx [("place", .int (e:Int))])→Kept r H H'→E (.ref NF) (some dx) H'
theorem Rz.on{NF:Addr}{H H1:Hp}{r:Addr}{E:XK}{e:Nat}{o:HO}(h:Rz NF H r E e)(k:Kept r H H1)(hr:H1 r=some o):Rz NF H1 r E e:=fun b dx H' nb nd h1 h2 k2=>h b dx H' (aZ k hr nb) (aZ k hr nd) h1 h2 (k.trans k2)
def gE(NF R:Addr):Sp:=fun vs H Q E=>∃(r:Addr) (x:Str) (p c:Nat),vs=[.ref r, .str ⟨#[c]⟩]∧cM R H r x p∧p≤x.length∧x.length≤1000∧
 ((sf x p).head? =some c→∀H',cM R H' r x (p+1)→Kept r H H'→Q .bR H')∧((sf x p).head? ≠some c→Rz NF H r E p)
def kz(NF R:Addr):Sp:=fun vs H Q E=>∃(r:Addr) (x:Str) (p:Nat) (s:Str),vs=[.ref r, .str s]∧s.cps.all (· <128)=true∧cM R H r x p∧p≤x.length∧x.length≤1000∧
 (sf x p=s.cps.toList++sf x (p+s.length)→p+s.length≤x.length→∀H',cM R H' r x (p+s.length)→Kept r H H'→Q .bR H')∧
 (∀i c,s.cps.toList[i]? =some c→sf x p=s.cps.toList.take i++sf x (p+i)→(sf x (p+i)).head? ≠some c→p+i≤x.length→Rz NF H r E (p+i))
def kA(NF R:Addr):Sp:=fun vs H Q E=>∃(r:Addr) (x:Str) (p:Nat),vs=[.ref r]∧cM R H r x p∧p≤x.length∧x.length≤1000∧(p=x.length→Q .bR H)∧(p<x.length→Rz NF H r E p)
theorem o9{H:Hp}{r:Addr}{E:XK}{e:Nat}(q:Rz NF H r E e){b dx:Addr}{H5:Hp}(hb:H b=none)(hd:H dx=none)(jw:dx≠b)(tO:H5 dx=some (qg dx [("place", .int (e:Int))]))(k5:∀b' o,(upd H b (oG b NF none)) b'=some o→b'≠b→H5 b'=some o):E (.ref NF) (some dx) (upd H5 b (oH b NF (some dx))):=by
 refine q b dx _ hb hd ag (by rw[ah jw];exact tO) fun b' o z _=>?_
 have BX:b'≠b:=af z hb
 rw[ah BX]
 exact k5 _ _ (by rw[ah BX];exact z) BX
theorem vU(D:bL K R "take" "Reader.take" rH ["self","sign"])(T:kj K mg C R uK uN)(TE:nv K mg HE NF TL)(c1:cI P w K mg base 1 R "sign" ["self"] (fo R))(c2:fW P w K mg base 1 "NoFormula" NF HE ["self","place"] (ky NF "place")):a0 P w K mg base 3 R "take" ["self","sign"] (gE NF R):=by
 obtain⟨_,_,ar⟩:=c1
 obtain⟨_,_,aw⟩:=c2
 refine D.gJ BO (fun vs H Q E h=>?_) (fun f bb A outer s H vs Q E hr h=>?_)
 ·obtain⟨r,x,p,c,rfl,_⟩:=h
  rfl
 ·obtain⟨r,x,p,c,rfl,⟨dx,hR⟩,hp,hx,q,qE⟩:=h
  refine⟨_,(aj
     (a7 (aA zZ (bF (pv 0) T.au ar.m ar.ok (hr.mono (by decide)) ar.b .nil aM) (pv 1) (aJ _))
      (aq
       (eJ rfl aX (eI aw.z aw.ok (hr.mono (by decide)) rfl aw.g aw.kp aw.b (aa (bu (pv 0) rfl) ai))))
      aQ)
    (aq
     (gp (pv 0) ao mz))),?_⟩
  refine⟨_,rfl,r,dx,_,rfl,hR,aI _ _ (by decide+kernel) (by decide+kernel),r,x,p,rfl,⟨dx,hR⟩,hp,hx,_,rfl,rfl,_,rfl,?_⟩
  by_cases hc:(sf x p).head? =some c
  ·refine D' (dC.mpr hc) ?_
   refine⟨_,rfl,r,R,dx,_,_,rfl,hR,T.au,T.a9,aT _ _,_,_,rfl,rfl,dx,_,hR,gD _ _,?_⟩
   refine q hc _ ⟨dx,?_⟩ fun b o e hb=>?_
   ·rw[ag]
    exact congrArg (fun z=>some (HO.ins R dx z)) (gC x p (p+1))
   ·rw[ah hb];exact e
  ·have ne:¬V.str (dY x p)=V.str (⟨#[c]⟩:Str):=fun z=>hc (dC.mp z)
   rw[decide_eq_false ne]
   refine cO ⟨_,rfl,r,R,dx,_,_,rfl,hR,T.au,T.a9,aT _ _,(by show 1≤100;decide),fun b hb=>?_⟩
   refine⟨b,_,rfl,ag,by omega,by omega,fun dj H5 gK jw vV tO k5=>⟨rfl,b,NF,HE,_,some dj,rfl,aw.z,vV,?_⟩⟩
   exact o9 (qE hc) hb (by rw[ah jw] at gK;exact gK) jw tO k5
variable {HE NF TL:Addr}
theorem pe(D:bL K R "take_all" "Reader.take_all" ip ["self","signs"])(T:kj K mg C R uK uN)(c1:a0 P w K mg base 3 R "take" ["self","sign"] (gE NF R)):a0 P w K mg base 4 R "take_all" ["self","signs"] (kz NF R):=by
 obtain⟨_,_,aB⟩:=c1
 refine D.gJ lI (fun vs H Q E h=>?_) (fun f bb A outer s H vs Q E hr h=>?_)
 ·obtain⟨r,x,p,sg,rfl,_⟩:=h
  rfl
 ·obtain⟨r,x,p,sg,rfl,ha,hR,hp,hx,q,qE⟩:=h
  refine⟨_,(aq
     (mw ka rfl (Bt (pv 1)) (dF (i:=2) lI.nd rfl (Or.inl rfl))
      (aq
       (bq (bI (pv 0) T.au aB.m aB.ok (hr.mono (by decide)) aB.b .nil aX (aa (pv 2) ai)))))),?_⟩
  refine⟨_,rfl,sg,rfl,ha,yo (fun i σ H'=>∃v:Option V,σ=[some (.ref r),some (.str sg),v]∧cM R H' r x (p+i)∧Kept r H H'∧sf x p=sg.cps.toList.take i++sf x (p+i)∧p+i≤x.length) ⟨none,rfl,hR,Kept.refl r H,rfl,hp⟩ ?_ ?_⟩
  ·rintro i c σ H' hc ⟨v,rfl,⟨dx,cU⟩,kk,es,Ie⟩
   have xI:sg.cps.toList[i]? =some c:=by rw[Array.getElem?_toList];exact hc
   refine⟨_,rfl,r,dx,_,rfl,cU,aI _ _ (by decide+kernel) (by decide+kernel),_,rfl,r,x,p+i,c,rfl,⟨dx,cU⟩,Ie,hx,fun hd c9 J8 Qd=>?_,fun hd=>(qE i c xI es hd Ie).on kk cU⟩
   obtain⟨e1,e2⟩:=cP hd
   refine⟨_,rfl,J8,kk.trans Qd,?_,e2⟩
   rw[es,e1,List.take_add_one,xI,List.append_assoc]
   rfl
  ·rintro σ H' ⟨v,rfl,cU,kk,es,Ie⟩
   have hl:sg.cps.toList.length=sg.length:=by simp [Str.length]
   refine q ?_ Ie _ cU kk
   have:sg.cps.toList.take sg.length=sg.cps.toList:=List.take_of_length_le (by omega)
   rw[←this]
   exact es
theorem ph(D:bL K R "take_end" "Reader.take_end" iq ["self"])(T:kj K mg C R uK uN)(TE:nv K mg HE NF TL)(c2:fW P w K mg base 1 "NoFormula" NF HE ["self","place"] (ky NF "place")):a0 P w K mg base 3 R "take_end" ["self"] (kA NF R):=by
 obtain⟨_,_,aw⟩:=c2
 refine D.gJ tK (fun vs H Q E h=>?_) (fun f bb A outer s H vs Q E hr h=>?_)
 ·obtain⟨r,x,p,rfl,_⟩:=h
  rfl
 ·obtain⟨r,x,p,rfl,⟨dx,hR⟩,hp,hx,q,qE⟩:=h
  refine⟨_,(aq
     (a7 (aA om (bu (pv 0) rfl) (aS bA rfl T.dB cw (aa (bu (pv 0) rfl) ai)) (aJ _))
      (aq
       (eJ rfl aX (eI aw.z aw.ok (hr.mono (by decide)) rfl aw.g aw.kp aw.b (aa (bu (pv 0) rfl) ai))))
      aQ)),?_⟩
  refine⟨_,rfl,r,R,dx,_,_,rfl,hR,T.au,T.a9,aT _ _,_,rfl,r,R,dx,_,_,rfl,hR,T.au,T.iA,fk _ _,x,rfl,Nat.le_trans hx (by decide),_,_,rfl,rfl,_,rfl,?_⟩
  by_cases hc:p<x.length
  ·refine fG (by omega) ⟨_,rfl,r,R,dx,_,_,rfl,hR,T.au,T.a9,aT _ _,(by show 1≤100;decide),fun b hb=>?_⟩
   refine⟨b,_,rfl,ag,by omega,by omega,fun dj H5 gK jw vV tO k5=>⟨rfl,b,NF,HE,_,some dj,rfl,aw.z,vV,?_⟩⟩
   exact o9 (qE hc) hb (by rw[ah jw] at gK;exact gK) jw tO k5
  ·exact ei (by omega) (q (by omega))
def lQ(NF R:Addr):Sp:=fun vs H Q E=>∃(r:Addr) (x:Str) (p lg:Nat),vs=[.ref r, .int (lg:Int)]∧cM R H r x p∧p≤x.length∧x.length≤1000∧2≤lg∧lg≤12∧
 (∀n q H',iE lg (sf x p) n (sf x q)→p≤q→q≤x.length→cM R H' r x q→Kept r H H'→Q (.int n) H')∧(∀e,o5 (sf x p) (sf x e)→p≤e→e≤x.length→Rz NF H r E e)
def dP(NF R:Addr):Sp:=fun vs H Q E=>∃(r:Addr) (x:Str) (p:Nat),vs=[.ref r]∧cM R H r x p∧p≤x.length∧x.length≤1000∧
 (∀n q H',iE 3 (sf x p) n (sf x q)→p≤q→q≤x.length→cM R H' r x q→Kept r H H'→Q (.int n) H')∧(∀e,o5 (sf x p) (sf x e)→p≤e→e≤x.length→Rz NF H r E e)
theorem qt(D:bL K R "read_number" "Reader.read_number" iu ["self","longest"])(T:kj K mg C R uK uN)(TE:nv K mg HE NF TL)(c1:cI P w K mg base 1 R "sign" ["self"] (fo R))(c2:bj P w K mg base 1 "is_figure" ["sign"] (Ae 48 57))(c3:fW P w K mg base 1 "NoFormula" NF HE ["self","place"] (ky NF "place")):a0 P w K mg base 3 R "read_number" ["self","longest"] (lQ NF R):=by
 obtain⟨_,_,ar⟩:=c1
 obtain⟨_,_,d8⟩:=c2
 obtain⟨_,_,aw⟩:=c3
 refine D.gJ i' (fun vs H Q E h=>?_) (fun f bb A outer s H vs Q E hr h=>?_)
 ·obtain⟨r,x,p,lg,rfl,_⟩:=h
  rfl
 ·obtain⟨r,x,p,lg,rfl,⟨dx,hR⟩,hp,hx,l2,Qe,q,qE⟩:=h
  have big:(1000 :Nat)≤sizeLine:=by decide
  have e0:("0" :Str)=⟨#[48]⟩:=by decide+kernel
  have e1:("1" :Str)=⟨#[49]⟩:=by decide+kernel
  refine⟨_,(aj
     (a7 (aA bN (bF (pv 0) T.au ar.m ar.ok (hr.mono (by decide)) ar.b .nil aM) aG (aJ _))
      (aq
       (eJ rfl aX (eI aw.z aw.ok (hr.mono (by decide)) rfl aw.g aw.kp aw.b (aa (bu (pv 0) rfl) ai))))
      aQ)
    (aj
     (aP (i:=2) i'.nd rfl (Or.inl rfl) (bu (pv 0) rfl))
    (aj
     (fN ka (PW.pt (fK (du (aF d8.ok (hr.mono (by decide)) rfl d8.g d8.kp d8.b .nil aM (aa (bF (pv 0) T.au ar.m ar.ok (hr.mono (by decide)) ar.b .nil aM) ai))) (eU (aA om (az mx (bu (pv 0) rfl) (pv 2)) (pv 1) (aJ _)))))
      (aq
       (gp (pv 0) ao mz)))
    (aj
     (aP (i:=3) i'.nd rfl (Or.inl rfl) (bX fb (bu (pv 0) rfl) (bQ (pv 2)) (bQ (bu (pv 0) rfl))))
    (aj
     (a7 (aA bN (pv 3) aG (aJ _))
      (aq
       (eJ rfl aX (eI aw.z aw.ok (hr.mono (by decide)) rfl aw.g aw.kp aw.b (aa (bu (pv 0) rfl) ai))))
      aQ)
    (aq
     (aE (oj (oq (pv 3) (fun _=>rfl)) (cW tq rfl T.vE qe (aa (pv 3) ai)) ao)))))))),?_⟩
  refine⟨_,rfl,r,dx,_,rfl,hR,aI _ _ (by decide+kernel) (by decide+kernel),r,x,p,rfl,⟨dx,hR⟩,hp,hx,rfl,_,rfl,?_⟩
  by_cases h0:(sf x p).head? =some 48
  ·refine fG (by rw[e0];exact dC.mpr h0) ⟨_,rfl,r,R,dx,_,_,rfl,hR,T.au,T.a9,aT _ _,(by show 1≤100;decide),fun b hb=>?_⟩
   refine⟨b,_,rfl,ag,by omega,by omega,fun dj H5 gK jw vV tO k5=>⟨rfl,b,NF,HE,_,some dj,rfl,aw.z,vV,?_⟩⟩
   exact o9 (qE p (.inl ⟨rfl,h0⟩) (Nat.le_refl _) hp) hb (by rw[ah jw] at gK;exact gK) jw tO k5
  refine ei (by rw[e0];exact fun z=>h0 (dC.mp z)) ?_
  refine⟨_,rfl,r,R,dx,_,_,rfl,hR,T.au,T.a9,aT _ _,?_⟩
  refine⟨fun k σ H'=>∃j:Nat,k+j=lg∧p+j≤x.length∧(∃w,sf x p=w++sf x (p+j)∧w.length=j∧w.all cJ=true)∧σ=[some (.ref r),some (.int lg),some (.int p),none]∧cM R H' r x (p+j)∧Kept r H H',⟨lg,0,by omega,hp,⟨[],rfl,rfl,rfl⟩,rfl,⟨dx,hR⟩,Kept.refl r H⟩,?_⟩
  rintro k σ H' ⟨j,hk,hj,⟨w,ew,wl,wf⟩,rfl,⟨dj,cU⟩,kk⟩
  have wh:w.head? ≠some 48:=fun z=>h0 (by
   rw[ew]
   cases w with
   |nil=>cases z
   |cons c r=>simpa using z)
  refine⟨_,rfl,r,dj,_,rfl,cU,aI _ _ (by decide+kernel) (by decide+kernel),r,x,p+j,rfl,⟨dj,cU⟩,hj,hx,_,rfl,iy _ _,_,rfl,?_⟩
  by_cases hf:inR 48 57 (dY x (p+j))=true∧j<lg
  ·obtain⟨ev,Qf⟩:=hf
   obtain⟨c,hc,cF⟩:=(kx 48 57).mp ev
   rw[ev]
   refine cO ⟨_,rfl,r,R,dj,_,_,rfl,cU,T.au,T.a9,aT _ _,_,rfl,_,_,rfl,rfl,_,rfl,_,_,rfl,rfl,_,rfl,fG (by omega) ?_⟩
   refine⟨_,fun σ' c9 h=>⟨k - 1,by omega,h⟩,?_⟩
   obtain⟨J9,Oq⟩:=cP hc
   refine⟨_,rfl,r,R,dj,_,_,rfl,cU,T.au,T.a9,aT _ _,_,_,rfl,rfl,dj,_,cU,gD _ _,?_⟩
   refine⟨j+1,by omega,Oq,⟨w++[c],by rw[ew,J9,List.append_assoc];rfl,by rw[List.length_append,wl];rfl,by rw[List.all_append,wf];simpa [cJ] using cF⟩,rfl,⟨dj,?_⟩,fun b o z w=>?_⟩
   ·rw[ag]
    exact congrArg (fun z=>some (HO.ins R dj z)) (gC x (p+j) (p+j+1))
   ·rw[ah w];exact kk b o z w
  have he:Not cJ (sf x (p+j))∨j=lg:=by
   cases ev:inR 48 57 (dY x (p+j)) with
   |true=>exact .inr (by have:¬j<lg:=fun z=>hf ⟨ev,z⟩;omega)
   |false=>exact .inl (qr ev)
  have ec:Txt.slice x (some (p:Int)) (some ((p+j:Nat):Int))=⟨w.toArray⟩:=by
   obtain⟨w',J9,Oq,Qg⟩:=vS hj
   rw[Qg,List.append_cancel_right (J9.symm.trans ew)]
  cases ev:inR 48 57 (dY x (p+j))
  case' true=>
   refine cO ⟨_,rfl,r,R,dj,_,_,rfl,cU,T.au,T.a9,aT _ _,_,rfl,_,_,rfl,rfl,_,rfl,_,_,rfl,rfl,_,rfl,ei (by have:¬j<lg:=fun z=>hf ⟨ev,z⟩;omega) ?_⟩
  case' false=>
   refine bZ (bZ ?_)
  all_goals
   refine⟨_,rfl,r,R,dj,_,_,rfl,cU,T.au,T.iA,fk _ _,_,rfl,_,rfl,_,rfl,r,R,dj,_,_,rfl,cU,T.au,T.a9,aT _ _,_,rfl,x,rfl,by omega,?_⟩
   rw[ec]
   by_cases Ka:w=[49]
   ·subst Ka
    have Ob:j=1:=wl.symm
    refine⟨_,rfl,rfl,_,rfl,fG (by rw[e1]) ⟨_,rfl,r,R,dj,_,_,rfl,cU,T.au,T.a9,aT _ _,(by show 1≤100;decide),fun b hb=>?_⟩⟩
    refine⟨b,_,rfl,ag,by omega,by omega,fun kB H5 gK jw vV tO k5=>⟨rfl,b,NF,HE,_,some kB,rfl,aw.z,vV,?_⟩⟩
    exact o9 ((qE (p+j) (.inr ⟨ew,he.elim id fun z=>by omega⟩) (by omega) hj).on kk cU) hb (by rw[ah jw] at gK;exact gK) jw tO k5
   ·obtain⟨n,en,n0,hn,_,nl⟩:=BS wf wh Ka
    have es:(⟨w.toArray⟩:Str)=cD (n:Int):=dJ (by rw[←en];rfl)
    have nw:¬V.str (cD (n:Int))=V.str "1" :=by
     rw[←es,e1]
     intro z
     have z:(⟨w.toArray⟩:Str)=⟨#[49]⟩:=by injection z
     exact Ka (by have:=congrArg (fun s:Str=>s.cps.toList) z;simpa using this)
    have lf:(cD (n:Int)).length=j:=by rw[←es,←wl];simp [Str.length]
    have nb:n<10^lg:=by
     by_cases hw:w=[]
     ·have:n=1:=by rcases hn with z|z;exact z.2;exact absurd hw z.1
      rw[this]
      exact Nat.one_lt_pow (by omega) (by decide)
     ·exact Nat.lt_of_lt_of_le (nl hw) (Nat.pow_le_pow_right (by decide) (by omega))
    have Qh:n<10^12:=Nat.lt_of_lt_of_le nb (Nat.pow_le_pow_right (by decide) Qe)
    have fin:=q n (p+j) H' ⟨by rw[en];exact ew,by omega,by exact_mod_cast nb,by rw[en];omega,by rw[en,wl];exact he⟩ (by omega) hj ⟨dj,cU⟩ kk
    rw[es]
    refine⟨_,rfl,rfl,_,rfl,ei nw ?_⟩
    refine⟨_,rfl,_,⟨by rw[lf];omega,rfl⟩,?_⟩
    rcases hn with ⟨hw,hn⟩ | ⟨hw,hn⟩
    ·have ez:(((cD (n:Int)).length:Int) != 0)=false:=by rw[lf,←wl,hw];rfl
     rw[ez]
     rw[hn] at fin
     exact bZ fin
    ·have ez:(((cD (n:Int)).length:Int) != 0)=true:=by
      rw[lf,←wl]
      have:w.length≠0:=fun z=>hw (List.length_eq_zero_iff.mp z)
      simp only [bne_iff_ne,ne_eq]
      omega
     rw[ez]
     exact cO ⟨_,rfl,_,_,rfl,yJ n Qh hn,by rw[lf];omega,fin⟩
theorem qu(D:bL K R "read_count" "Reader.read_count" jF ["self"])(T:kj K mg C R uK uN)(c1:a0 P w K mg base 3 R "read_number" ["self","longest"] (lQ NF R)):a0 P w K mg base 4 R "read_count" ["self"] (dP NF R):=by
 obtain⟨_,_,b8⟩:=c1
 refine D.gJ vM (fun vs H Q E h=>?_) (fun f bb A outer s H vs Q E hr h=>?_)
 ·obtain⟨r,x,p,rfl,_⟩:=h
  rfl
 ·obtain⟨r,x,p,rfl,⟨dx,hR⟩,hp,hx,q,qE⟩:=h
  refine⟨_,(aq
     (aE (bI (pv 0) T.au b8.m b8.ok (hr.mono (by decide)) b8.b .nil aX (aa (aV (v:= .int 3) rfl T.ju ⟨_,rfl⟩) ai)))),?_⟩
  exact⟨_,rfl,r,dx,_,rfl,hR,aI _ _ (by decide+kernel) (by decide+kernel),r,x,p,3,rfl,⟨dx,hR⟩,hp,hx,by decide,by decide,q,qE⟩
variable {HE NF TL:Addr}
def kD(NF C R:Addr):Sp:=fun vs H Q E=>∃(r:Addr) (x:Str) (p:Nat),vs=[.ref r]∧cM R H r x p∧p≤x.length∧x.length≤1000∧
 (∀k n q a H',gQ (sf x p) k n (sf x q)→p≤q→q≤x.length→H a=none→dW C H' a ⟨k.toArray⟩ n→cM R H' r x q→Kept r H H'→Q (.ref a) H')∧(∀e,rV (sf x p) (sf x e)→p≤e→e≤x.length→Rz NF H r E e)
theorem tP(D:bL K R "read_atom" "Reader.read_atom" mU ["self"])(T:kj K mg C R uK uN)(TE:nv K mg HE NF TL)(c1:cI P w K mg base 1 R "sign" ["self"] (fo R))(c2:bj P w K mg base 1 "is_great" ["sign"] (Ae 65 90))(c3:bj P w K mg base 1 "is_small" ["sign"] (Ae 97 122))(c4:a0 P w K mg base 4 R "read_count" ["self"] (dP NF R))
  (c5:eD P w K mg base 1 C ["self","kind","count"] [1] (vD C)) (c6:fW P w K mg base 1 "NoFormula" NF HE ["self","place"] (ky NF "place")):a0 P w K mg base 5 R "read_atom" ["self"] (kD NF C R):=by
 obtain⟨_,_,ar⟩:=c1
 obtain⟨_,_,bU⟩:=c2
 obtain⟨_,_,fq⟩:=c3
 obtain⟨_,_,aD⟩:=c4
 obtain⟨_,_,fj⟩:=c5
 obtain⟨_,vW,vX⟩:=fj.b 1 (by decide)
 obtain⟨_,_,aw⟩:=c6
 refine D.gJ m8 (fun vs H Q E h=>?_) (fun f bb A outer s H vs Q E hr h=>?_)
 ·obtain⟨r,x,p,rfl,_⟩:=h
  rfl
 ·obtain⟨r,x,p,rfl,⟨dx,hR⟩,hp,hx,q,qE⟩:=h
  have big:(1000 :Nat)≤sizeLine:=by decide
  refine⟨_,(aj
     (a7 (pV (du (aF bU.ok (hr.mono (by decide)) rfl bU.g bU.kp bU.b .nil aM (aa (bF (pv 0) T.au ar.m ar.ok (hr.mono (by decide)) ar.b .nil aM) ai))))
      (aq
       (eJ rfl aX (eI aw.z aw.ok (hr.mono (by decide)) rfl aw.g aw.kp aw.b (aa (bu (pv 0) rfl) ai))))
      aQ)
    (aj
     (aP (i:=1) m8.nd rfl (Or.inl rfl) (bu (pv 0) rfl))
    (aj
     (gp (pv 0) ao mz)
    (aj
     (fN ka (PW.pt (fK (du (aF fq.ok (hr.mono (by decide)) rfl fq.g fq.kp fq.b .nil aM (aa (bF (pv 0) T.au ar.m ar.ok (hr.mono (by decide)) ar.b .nil aM) ai))) (eU (aA om (az mx (bu (pv 0) rfl) (pv 1)) (aV (v:= .int 3) rfl T.km ⟨_,rfl⟩) (aJ _)))))
      (aq
       (gp (pv 0) ao mz)))
    (aj
     (aP (i:=2) m8.nd rfl (Or.inl rfl) (bX fb (bu (pv 0) rfl) (bQ (pv 1)) (bQ (bu (pv 0) rfl))))
    (aq
     (aE (eY fj.m fj.ok (hr.mono (by decide)) rfl T.BJ vX vW aM (aa (pv 2) (aa (ck (pv 0) T.au aD.m aD.ok (hr.mono (by decide)) aD.b .nil aX) ai)))))))))),?_⟩
  refine⟨_,rfl,r,dx,_,rfl,hR,aI _ _ (by decide+kernel) (by decide+kernel),r,x,p,rfl,⟨dx,hR⟩,hp,hx,_,rfl,iy _ _,_,rfl,?_⟩
  cases ev:inR 65 90 (dY x p) with
  |false=>
   refine cO ⟨_,rfl,r,R,dx,_,_,rfl,hR,T.au,T.a9,aT _ _,(by show 1≤100;decide),fun b hb=>?_⟩
   refine⟨b,_,rfl,ag,by omega,by omega,fun kB H5 gK jw vV tO k5=>⟨rfl,b,NF,HE,_,some kB,rfl,aw.z,vV,?_⟩⟩
   exact o9 (qE p (.inl ⟨rfl,qr ev⟩) (Nat.le_refl _) hp) hb (by rw[ah jw] at gK;exact gK) jw tO k5
  |true=>
  obtain⟨c,hc,cG⟩:=(kx 65 90).mp ev
  obtain⟨e1,e2⟩:=cP hc
  refine bZ ?_
  refine⟨_,rfl,r,R,dx,_,_,rfl,hR,T.au,T.a9,aT _ _,?_⟩
  refine⟨_,rfl,r,R,dx,_,_,rfl,hR,T.au,T.a9,aT _ _,_,_,rfl,rfl,dx,_,hR,gD _ _,?_⟩
  have fu:(upd H r (.ins R dx (cC "place" (.int ((p:Int)+1)) (dZ x p)))) r=some (.ins R dx (dZ x (p+1))):=by
   rw[ag]
   exact congrArg (fun z=>some (HO.ins R dx z)) (gC x p (p+1))
  have k1:Kept r H (upd H r (.ins R dx (cC "place" (.int ((p:Int)+1)) (dZ x p)))):=fun b o z w=>by rw[ah w];exact z
  generalize upd H r _=H1 at fu k1 ⊢
  refine⟨fun m σ H'=>∃j:Nat,m+j=2∧p+1+j≤x.length∧(∃w,sf x (p+1)=w++sf x (p+1+j)∧w.length=j∧w.all eR=true)∧σ=[some (.ref r),some (.int p),none]∧cM R H' r x (p+1+j)∧Kept r H H',⟨2,0,rfl,e2,⟨[],rfl,rfl,rfl⟩,rfl,⟨dx,fu⟩,k1⟩,?_⟩
  rintro m σ H' ⟨j,hm,hj,⟨w,ew,wl,wf⟩,rfl,⟨dj,cU⟩,kk⟩
  refine⟨_,rfl,r,dj,_,rfl,cU,aI _ _ (by decide+kernel) (by decide+kernel),r,x,p+1+j,rfl,⟨dj,cU⟩,hj,hx,_,rfl,iy _ _,_,rfl,?_⟩
  by_cases hf:inR 97 122 (dY x (p+1+j))=true∧j<2
  ·obtain⟨ev,Qf⟩:=hf
   obtain⟨b,hb,bS⟩:=(kx 97 122).mp ev
   rw[ev]
   refine cO ⟨_,rfl,r,R,dj,_,_,rfl,cU,T.au,T.a9,aT _ _,_,rfl,_,_,rfl,rfl,_,_,rfl,rfl,_,rfl,fG (by omega) ?_⟩
   refine⟨_,fun σ' c9 h=>⟨m - 1,by omega,h⟩,?_⟩
   obtain⟨f1,f2⟩:=cP hb
   refine⟨_,rfl,r,R,dj,_,_,rfl,cU,T.au,T.a9,aT _ _,_,_,rfl,rfl,dj,_,cU,gD _ _,?_⟩
   refine⟨j+1,by omega,f2,⟨w++[b],by rw[ew,f1,List.append_assoc];rfl,by rw[List.length_append,wl];rfl,by rw[List.all_append,wf];simpa [eR] using bS⟩,rfl,⟨dj,?_⟩,fun b o z w=>?_⟩
   ·rw[ag]
    exact congrArg (fun z=>some (HO.ins R dj z)) (gC x (p+1+j) (p+1+j+1))
   ·rw[ah w];exact kk b o z w
  have he:(c::w).length=3∨Not eR (sf x (p+1+j)):=by
   cases ev:inR 97 122 (dY x (p+1+j)) with
   |true=>exact .inl (by have:¬j<2:=fun z=>hf ⟨ev,z⟩;rw[List.length_cons];omega)
   |false=>exact .inr (qr ev)
  have Kb:sf x p=(c::w)++sf x (p+1+j):=by rw[e1,ew];rfl
  have ok:jK (c::w):=⟨c,w,rfl,by simpa [gB] using cG,wf,by omega⟩
  have ec:Txt.slice x (some (p:Int)) (some ((p+1+j:Nat):Int))=⟨(c::w).toArray⟩:=by
   obtain⟨w',a1,a2,a3⟩:=vS (x:=x) (p:=p) (j:=1+j) (by omega)
   rw[←Nat.add_assoc] at a1 a3
   rw[a3,List.append_cancel_right (a1.symm.trans Kb)]
  cases ev:inR 97 122 (dY x (p+1+j))
  case' true=>
   refine cO ⟨_,rfl,r,R,dj,_,_,rfl,cU,T.au,T.a9,aT _ _,_,rfl,_,_,rfl,rfl,_,_,rfl,rfl,_,rfl,ei (by have:¬j<2:=fun z=>hf ⟨ev,z⟩;omega) ?_⟩
  case' false=>
   refine bZ (bZ ?_)
  all_goals
   refine⟨_,rfl,r,R,dj,_,_,rfl,cU,T.au,T.iA,fk _ _,_,rfl,_,rfl,_,rfl,r,R,dj,_,_,rfl,cU,T.au,T.a9,aT _ _,_,rfl,x,rfl,by omega,?_⟩
   rw[ec]
   refine⟨_,rfl,_,rfl,r,dj,_,rfl,cU,aI _ _ (by decide+kernel) (by decide+kernel),r,x,p+1+j,rfl,⟨dj,cU⟩,hj,hx,fun n q' H2 hN BY hq gF k2=>?_,fun e hB Ig z5=>(qE e (.inr ⟨c::w,_,Kb,ok,he,hB⟩) (by omega) z5).on kk cU⟩
   obtain⟨kB,gF⟩:=gF
   refine fun a da na Qi SV=>⟨a,da,_,n,rfl,ag,fun H3 h3 k3=>⟨rfl,?_⟩⟩
   have s3:aK H2 H3:=fun b o z=>k3 b o (by rw[ah (af z na),ah (af z Qi)];exact z) (af z na)
   have kf:=(kk.trans k2)
   exact q (c::w) n q' a H3 ⟨_,Kb,ok,he,hN⟩ (by omega) hq (aZ kf gF na) ⟨da,h3⟩ ⟨kB,s3 _ _ gF⟩ (kf.trans (Kept.of s3))
variable {HE NF TL:Addr}
def pj(NF C G R:Addr)(d:Nat):Sp:=fun vs H Q E=>∃(r:Addr) (x:Str) (p a:Nat),vs=[.ref r, .int a]∧cM R H r x p∧p≤x.length∧x.length≤1000∧a+d=4∧
 (∀t q y H',gZ d (sf x p) t (sf x q)→p<q→q≤x.length→H y=none→BP C G d H H' y t→cM R H' r x q→Kept r H H'→Q (.ref y) H')∧(∀e,BU d (sf x p) (sf x e)→p≤e→e≤x.length→Rz NF H r E e)
def jc(NF C G R:Addr):Nat→Sp
 |0=>fun _ _ _ _=>False
 |d+1=>fun vs H Q E=>∃(r:Addr) (x:Str) (p a:Nat) (u':List Nat),vs=[.ref r, .int a]∧cM R H r x p∧p≤x.length∧x.length≤1000∧a+d+1=4∧sf x p=40::u'∧
  (∀ts n w q y H',xP (gZ d) u' ts (41::w)→iE 3 w n (sf x q)→p<q→q≤x.length→H y=none→BP C G (d+1) H H' y (.gr ts n)→cM R H' r x q→Kept r H H'→Q (.ref y) H')∧
  (∀e,(Dn (gZ d) (BU d) u' (sf x e)∨(∃ts,xP (gZ d) u' ts (sf x e)∧(sf x e).head? ≠some 41)∨∃ts w,xP (gZ d) u' ts (41::w)∧o5 w (sf x e))→p≤e→e≤x.length→Rz NF H r E e)
def gG(NF C G R:Addr)(d:Nat):Sp:=fun vs H Q E=>∃(r:Addr) (x:Str) (p a:Nat),vs=[.ref r, .int a]∧cM R H r x p∧p≤x.length∧x.length≤1000∧a+d=4∧
 (∀ts q l H',xP (gZ d) (sf x p) ts (sf x q)→p<q→q≤x.length→Ex C G d H H' l ts→cM R H' r x q→Kept r H H'→Q (.ref l) H')∧(∀e,Dn (gZ d) (BU d) (sf x p) (sf x e)→p≤e→e≤x.length→Rz NF H r E e)
theorem gQ.lt{x:Str}{p q:Nat}{k:List Nat}{n:Int}(h:gQ (sf x p) k n (sf x q))(hp:p≤x.length)(hq:q≤x.length):p<q:=by
 obtain⟨w,e,⟨c,r,rfl,_⟩,_,e2,_⟩:=h
 have:=congrArg List.length e
 rw[e2,List.length_append,List.length_append,jb,jb,List.length_cons] at this
 omega
theorem lR(d:Nat)(D:bL K R "read_part" "Reader.read_part" ki ["self","around"])(T:m9 K mg C R G uK uN uB uE uM)(c1:cI P w K mg base 1 R "sign" ["self"] (fo R))(c2:a0 P w K mg base 5 R "read_atom" ["self"] (kD NF C R))(c3:a0 P w K mg base (3*d+5) R "read_group" ["self","around"] (jc NF C G R d)):
  a0 P w K mg base (3*d+6) R "read_part" ["self","around"] (pj NF C G R d):=by
 obtain⟨_,_,ar⟩:=c1
 obtain⟨_,_,cE⟩:=c2
 obtain⟨_,_,cx⟩:=c3
 refine D.gJ yR (fun vs H Q E h=>?_) (fun f bb A outer s H vs Q E hr h=>?_)
 ·obtain⟨r,x,p,a,rfl,_⟩:=h
  rfl
 ·obtain⟨r,x,p,a,rfl,⟨dx,hR⟩,hp,hx,ha,q,qE⟩:=h
  refine⟨_,(aj
     (a7 (PW.pt (fK (aA bN (bF (pv 0) T.au ar.m ar.ok (hr.mono (by omega)) ar.b .nil aM) (aV (v:= .str "(") rfl T.dk ⟨_,rfl⟩) (aJ _)) (eU (aA DP (pv 1) (aV (v:= .int 3) rfl T.fY ⟨_,rfl⟩) (aJ _)))))
      (aq
       (aE (bI (pv 0) T.au cx.m cx.ok (hr.mono (by omega)) cx.b .nil aX (aa (pv 1) ai))))
      aQ)
    (aq
     (aE (ck (pv 0) T.au cE.m cE.ok (hr.mono (by omega)) cE.b .nil aX)))),?_⟩
  refine⟨_,rfl,r,dx,_,rfl,hR,aI _ _ (by decide+kernel) (by decide+kernel),r,x,p,rfl,⟨dx,hR⟩,hp,hx,rfl,_,rfl,?_⟩
  have atom:∀{k:List Nat} {n:Int} {y:Addr} {H':Hp},H y=none→dW C H' y ⟨k.toArray⟩ n→BP C G d H H' y (.one k n):=fun {k n y H'} ny hA c9 ke=>by
   obtain⟨dy,hA⟩:=hA
   have e:dc C G d c9 y (.one k n)=dW C c9 y ⟨k.toArray⟩ n:=by cases d<;>rfl
   rw[e]
   exact⟨dy,ke _ _ ny hA⟩
  by_cases lS:(sf x p).head? =some 40
  ·refine fG (by rw[Af];exact dC.mpr lS) ?_
   obtain⟨e1,e2⟩:=cP lS
   cases d with
   |zero=>
    refine⟨_,rfl,_,_,rfl,rfl,_,rfl,ei (by omega) ?_⟩
    exact⟨_,rfl,r,dx,_,rfl,hR,aI _ _ (by decide+kernel) (by decide+kernel),r,x,p,rfl,⟨dx,hR⟩,hp,hx,fun k n q' y H' hA BY hq ny hy cU kp=>q (.one k n) q' y H' ⟨k,n,rfl,hA⟩ (hA.lt hp hq) hq ny (atom ny hy) cU kp,fun e hB=>qE e hB⟩
   |succ d=>
    refine⟨_,rfl,_,_,rfl,rfl,_,rfl,fG (by omega) ?_⟩
    exact⟨_,rfl,r,dx,_,rfl,hR,aI _ _ (by decide+kernel) (by decide+kernel),_,rfl,r,x,p,a,_,rfl,⟨dx,hR⟩,hp,hx,by omega,e1,fun ts n w q' y H' hS hN BY hq ny hy cU kp=>q (.gr ts n) q' y H' (.inr ⟨_,ts,n,w,e1,rfl,hS,hN⟩) BY hq ny hy cU kp,fun e hB=>qE e (.inr ⟨_,e1,hB⟩)⟩
  ·refine ei (by rw[Af];exact fun z=>lS (dC.mp z)) ?_
   refine⟨_,rfl,r,dx,_,rfl,hR,aI _ _ (by decide+kernel) (by decide+kernel),r,x,p,rfl,⟨dx,hR⟩,hp,hx,fun k n q' y H' hA BY hq ny hy cU kp=>q (.one k n) q' y H' ?_ (hA.lt hp hq) hq ny (atom ny hy) cU kp,fun e hB=>qE e ?_⟩
   ·cases d with
    |zero=>exact⟨k,n,rfl,hA⟩
    |succ d=>exact .inl ⟨lS,k,n,rfl,hA⟩
   ·cases d with
    |zero=>exact hB
    |succ d=>exact .inl ⟨lS,hB⟩
variable {HE NF TL:Addr}
theorem pk(D:bL K R "read_group" "Reader.read_group" gy ["self","around"]):a0 P w K mg base 5 R "read_group" ["self","around"] (jc NF C G R 0):=
 D.gJ (k:=4) ko (fun vs H Q E h=>h.elim) (fun f bb A outer s H vs Q E hr h=>h.elim)
theorem qv(d:Nat)(D:bL K R "read_group" "Reader.read_group" gy ["self","around"])(T:m9 K mg C R G uK uN uB uE uM)(c1:a0 P w K mg base 3 R "take" ["self","sign"] (gE NF R))(c2:a0 P w K mg base 4 R "read_count" ["self"] (dP NF R))(c3:a0 P w K mg base (3*d+7) R "read_parts" ["self","around"] (gG NF C G R d))
  (c4:eD P w K mg base 1 G ["self","parts","count"] [1] (iB G)):a0 P w K mg base (3*d+8) R "read_group" ["self","around"] (jc NF C G R (d+1)):=by
 obtain⟨_,_,aB⟩:=c1
 obtain⟨_,_,aD⟩:=c2
 obtain⟨_,_,aU⟩:=c3
 obtain⟨_,_,dM⟩:=c4
 obtain⟨_,tQ,tR⟩:=dM.b 1 (by decide)
 refine D.gJ ko (fun vs H Q E h=>?_) (fun f bb A outer s H vs Q E hr h=>?_)
 ·obtain⟨r,x,p,a,u',rfl,_⟩:=h
  rfl
 ·obtain⟨r,x,p,a,u',rfl,⟨dx,hR⟩,hp,hx,ha,hu,q,qE⟩:=h
  refine⟨_,(aj
     (bq (bI (pv 0) T.au aB.m aB.ok (hr.mono (by omega)) aB.b .nil aX (aa (aV (v:= .str "(") rfl T.dk ⟨_,rfl⟩) ai)))
    (aj
     (aP (i:=2) ko.nd rfl (Or.inl rfl) (bI (pv 0) T.au aU.m aU.ok (hr.mono (by omega)) aU.b .nil aX (aa (az dv (pv 1) ao) ai)))
    (aj
     (bq (bI (pv 0) T.au aB.m aB.ok (hr.mono (by omega)) aB.b .nil aX (aa (aV (v:= .str ")") rfl T.jm ⟨_,rfl⟩) ai)))
    (aq
     (aE (eY dM.m dM.ok (hr.mono (by omega)) rfl T.yQ tR tQ aM (aa (pv 2) (aa (ck (pv 0) T.au aD.m aD.ok (hr.mono (by omega)) aD.b .nil aX) ai)))))))),?_⟩
  have lS:(sf x p).head? =some 40:=by rw[hu];rfl
  obtain⟨eu,e2⟩:=cP lS
  have Qj:u'=sf x (p+1):=by rw[hu] at eu;injection eu
  subst Qj
  refine⟨_,rfl,r,dx,_,rfl,hR,aI _ _ (by decide+kernel) (by decide+kernel),r,x,p,40,congrArg (fun z=>[V.ref r,V.str z]) Af,⟨dx,hR⟩,hp,hx,fun _ H1 fu k1=>?_,fun n=>absurd lS n⟩
  obtain⟨rW,fu⟩:=fu
  refine⟨_,rfl,r,rW,_,rfl,fu,aI _ _ (by decide+kernel) (by decide+kernel),_,rfl,_,_,rfl,rfl,r,x,p+1,a+1,rfl,⟨rW,fu⟩,e2,hx,by omega,fun ts q2 l H2 hS BZ pq hN gF k2=>?_,fun e hB h1 h2=>(qE e (.inl hB) (by omega) h2).on k1 fu⟩
  obtain⟨kB,gF⟩:=gF
  obtain⟨vY,ps,Ih,kO⟩:=hN
  refine⟨_,rfl,r,kB,_,rfl,gF,aI _ _ (by decide+kernel) (by decide+kernel),r,x,q2,41,congrArg (fun z=>[V.ref r,V.str z]) Ia,⟨kB,gF⟩,pq,hx,fun B0 H3 kQ k3=>?_,fun n=>(qE q2 (.inr (.inl ⟨ts,hS,n⟩)) (by omega) pq).on (k1.trans k2) gF⟩
  obtain⟨B1,kQ⟩:=kQ
  obtain⟨e3,Qk⟩:=cP B0
  rw[e3] at hS
  refine⟨_,rfl,_,rfl,r,B1,_,rfl,kQ,aI _ _ (by decide+kernel) (by decide+kernel),r,x,q2+1,rfl,⟨B1,kQ⟩,Qk,hx,fun n q4 H4 Ql Qm B2 tS k4=>?_,fun e hB h1 h2=>(qE e (.inr (.inr ⟨ts,_,hS,hB⟩)) (by omega) h2).on ((k1.trans k2).trans k3) kQ⟩
  obtain⟨Ii,tS⟩:=tS
  have Ot:l≠r:=fun z=>by rw[z,fu] at vY;cases vY
  have Kc:=k4 _ _ (k3 _ _ Ih Ot) Ot
  refine fun g dg ng Aj neg=>⟨g,dg,l,n,ps.map V.ref,rfl,ag,?_,fun m H5 hm hg Dp kp=>⟨rfl,?_⟩⟩
  ·rw[ah (af Kc ng),ah (af Kc Aj)];exact Kc
  have s5:aK H4 H5:=fun b o z=>kp b o (by rw[ah (af z ng),ah (af z Aj)];exact z) (af z ng)
  have kf:Kept r H H4:=((k1.trans k2).trans k3).trans k4
  refine q ts n _ q4 g H5 hS Ql (by omega) B2 (aZ kf tS ng) (fun c9 ke=>?_) ⟨Ii,s5 _ _ tS⟩ (kf.trans (Kept.of s5))
  refine⟨dg,m,ps,ke _ _ (aZ kf tS ng) hg,ke _ _ (aZ kf tS (eO hm)) Dp,kO c9 fun b o z1 z2=>?_⟩
  have Ak:b≠r:=fun z=>by rw[z,fu] at z1;cases z1
  exact ke _ _ (aZ k1 fu z1) (s5 _ _ (k4 _ _ (k3 _ _ z2 Ak) Ak))
theorem kE(d:Nat)(D:bL K R "read_parts" "Reader.read_parts" ir ["self","around"])(T:m9 K mg C R G uK uN uB uE uM)(c1:cI P w K mg base 1 R "sign" ["self"] (fo R))(c2:bj P w K mg base 1 "is_great" ["sign"] (Ae 65 90))(c3:a0 P w K mg base (3*d+6) R "read_part" ["self","around"] (pj NF C G R d)):
  a0 P w K mg base (3*d+7) R "read_parts" ["self","around"] (gG NF C G R d):=by
 obtain⟨_,_,ar⟩:=c1
 obtain⟨_,_,bU⟩:=c2
 obtain⟨_,_,bx⟩:=c3
 refine D.gJ oY (fun vs H Q E h=>?_) (fun f bb A outer s H vs Q E hr h=>?_)
 ·obtain⟨r,x,p,a,rfl,_⟩:=h
  rfl
 ·obtain⟨r,x,p,a,rfl,⟨dx,hR⟩,hp,hx,ha,q,qE⟩:=h
  have big:(2000 :Nat)≤sizeLine:=by decide
  refine⟨_,(aj
     (aP (i:=2) oY.nd rfl (Or.inl rfl) (bH (aa (bI (pv 0) T.au bx.m bx.ok (hr.mono (by omega)) bx.b .nil aX (aa (pv 1) ai)) ai)))
    (aj
     (fN ka (PW.pt (gN (du (aF bU.ok (hr.mono (by omega)) rfl bU.g bU.kp bU.b .nil aM (aa (bF (pv 0) T.au ar.m ar.ok (hr.mono (by omega)) ar.b .nil aM) ai))) (iS (aA bN (bF (pv 0) T.au ar.m ar.ok (hr.mono (by omega)) ar.b .nil aM) (aV (v:= .str "(") rfl T.dk ⟨_,rfl⟩) (aJ _)))))
      (aq
       (bq (cH PySem.F.plainAttrs_list PySem.F.slot_list_append PySem.F.type_list_append bT (pv 2) (aa (bI (pv 0) T.au bx.m bx.ok (hr.mono (by omega)) bx.b .nil aX (aa (pv 1) ai)) ai)))))
    (aq
     (aE (pv 2))))),?_⟩
  refine⟨_,rfl,r,dx,_,rfl,hR,aI _ _ (by decide+kernel) (by decide+kernel),_,rfl,r,x,p,a,rfl,⟨dx,hR⟩,hp,hx,ha,fun t q1 y H1 hP BY Ou ny hN fu k1=>⟨(by show 1≤sizeLine;decide),fun L hL=>?_⟩,fun e hB=>qE e (.inl hB)⟩
  obtain⟨rW,fu⟩:=fu
  have Ij:H L=none:=aZ k1 fu hL
  have Al:L≠r:=fun z=>by rw[z,fu] at hL;cases hL
  refine⟨fun m σ H'=>∃q' ts,m+q'=x.length∧p<q'∧Sq (gZ d) (sf x p) ts (sf x q')∧σ=[some (.ref r),some (.int a),some (.ref L)]∧cM R H' r x q'∧Kept r H H'∧∃ps,H' L=some (.lst (ps.map V.ref))∧ps.length≤q'∧Paired (J2 C G L d H H') ps ts,⟨x.length - q1,q1,[t],by omega,BY, .one t _ hP,rfl,⟨rW,?_⟩,?_,[y],ag,by show 1≤q1;omega,?_⟩,?_⟩
  ·rw[ah (Ne.symm Al),fu]
  ·exact k1.trans (Kept.of (aK.new hL))
  ·refine .cons (fun c9 ke=>hN c9 fun b o z1 z2=>?_) .nil
   have Am:b≠L:=af z2 hL
   exact ke b o z1 Am (by rw[ah Am];exact z2)
  rintro m σ H' ⟨q',ts,hm,Kd,hS,rfl,⟨dj,cU⟩,kk,ps,B3,lu,hP⟩
  have kT:q'≤x.length:=by omega
  refine⟨_,rfl,r,dj,_,rfl,cU,aI _ _ (by decide+kernel) (by decide+kernel),r,x,q',rfl,⟨dj,cU⟩,kT,hx,_,rfl,iy _ _,_,rfl,?_⟩
  by_cases hM:More (sf x q')
  ·obtain⟨c,hc,rf⟩:=id hM
   have kO:ps.length<sizeLine:=by omega
   rcases rf with hg|Ke
   case' inl=>
    have ev:inR 65 90 (dY x q')=true:=(kx 65 90).mpr ⟨c,hc,hg⟩
    rw[ev]
    refine cO (cO ?_)
   case' inr=>
    subst Ke
    have ev:inR 65 90 (dY x q')=false:=by
     cases ev:inR 65 90 (dY x q') with
     |false=>rfl
     |true=>
      obtain⟨b,hb,rA⟩:=(kx 65 90).mp ev
      rw[hc] at hb
      cases hb
      cases rA
    rw[ev]
    refine bZ ⟨_,rfl,r,dj,_,rfl,cU,aI _ _ (by decide+kernel) (by decide+kernel),r,x,_,rfl,⟨dj,cU⟩,kT,hx,rfl,_,rfl,fG (by rw[Af];exact dC.mpr hc) ?_⟩
   all_goals
    refine⟨_,fun σ' c9 h=>h,?_⟩
    refine⟨_,rfl, .inl ⟨rfl,_,bC.of B3⟩,_,rfl,r,dj,_,rfl,cU,aI _ _ (by decide+kernel) (by decide+kernel),_,rfl,r,x,q',a,rfl,⟨dj,cU⟩,kT,hx,ha,fun t q2 y H2 hT BZ pq ny hN gF k2=>?_,fun e hB h1 h2=>(qE e (.inr ⟨ts,_,hS,hM,hB⟩) (by omega) h2).on kk cU⟩
    obtain⟨kB,gF⟩:=gF
    have Qn:=k2 _ _ B3 Al
    refine⟨L,_,_,rfl,rfl,Qn,by rw[List.length_map];exact kO,?_⟩
    refine⟨x.length - q2,by omega,q2,ts++[t],by omega,by omega, .snoc ts _ t _ hS hM hT,rfl,⟨kB,?_⟩,fun b o z w=>?_,ps++[y],by rw[ag,List.map_append];rfl,by rw[List.length_append];show ps.length+1≤q2;omega,?_⟩
    ·rw[ah (Ne.symm Al),gF]
    ·rw[ah (af z Ij)]
     exact k2 _ _ (kk _ _ z w) w
    ·refine cK (fun c9 ke=>hN c9 fun b o z1 z2=>?_) (aR (fun c t h c9 ke=>h c9 fun b o z1 z2 z3=>ke b o z1 z2 ?_) hP)
     ·have Am:b≠L:=fun z=>by rw[z,B3] at z1;cases z1
      exact ke b o (aZ kk cU z1) Am (by rw[ah Am];exact z2)
     ·have Ak:b≠r:=fun z=>by rw[z,hR] at z1;cases z1
      rw[ah z2]
      exact k2 _ _ z3 Ak
  ·have ev:inR 65 90 (dY x q')=false:=by
    cases ev:inR 65 90 (dY x q') with
    |false=>rfl
    |true=>
     obtain⟨b,hb,rA⟩:=(kx 65 90).mp ev
     exact absurd ⟨b,hb, .inl rA⟩ hM
   rw[ev]
   refine bZ ⟨_,rfl,r,dj,_,rfl,cU,aI _ _ (by decide+kernel) (by decide+kernel),r,x,_,rfl,⟨dj,cU⟩,kT,hx,rfl,_,rfl,ei (by rw[Af];exact fun z=>hM ⟨40,dC.mp z, .inr rfl⟩) ?_⟩
   exact⟨_,rfl,q ts q' L H' ⟨hS,hM⟩ Kd kT ⟨Ij,ps,B3,fun c9 ke=>aR (fun c t h=>h c9 fun b o z1 _ z3=>ke b o z1 z3) hP⟩ ⟨dj,cU⟩ kk⟩
theorem lT(D1:bL K R "read_group" "Reader.read_group" gy ["self","around"])(D2:bL K R "read_part" "Reader.read_part" ki ["self","around"])(D3:bL K R "read_parts" "Reader.read_parts" ir ["self","around"])(T:m9 K mg C R G uK uN uB uE uM)
  (c1:cI P w K mg base 1 R "sign" ["self"] (fo R)) (c2:bj P w K mg base 1 "is_great" ["sign"] (Ae 65 90)) (c3:a0 P w K mg base 5 R "read_atom" ["self"] (kD NF C R)) (c4:a0 P w K mg base 3 R "take" ["self","sign"] (gE NF R)) (c5:a0 P w K mg base 4 R "read_count" ["self"] (dP NF R))
  (c6:eD P w K mg base 1 G ["self","parts","count"] [1] (iB G)):∀d:Nat,a0 P w K mg base (3*d+7) R "read_parts" ["self","around"] (gG NF C G R d)
 |0=>kE 0 D3 T c1 c2 (lR 0 D2 T c1 c3 (pk D1))
 |d+1=>kE (d+1) D3 T c1 c2 (lR (d+1) D2 T c1 c3 (by rw[show 3*(d+1)+5=3*d+8 by omega];exact qv d D1 T c4 c5 (lT D1 D2 D3 T c1 c2 c3 c4 c5 c6 d) c6))
variable {HE NF TL:Addr}{uC uP uI uD uL uT:Tok}
def kF(NF R:Addr):Sp:=fun vs H Q E=>∃(r:Addr) (x:Str) (p:Nat),vs=[.ref r]∧cM R H r x p∧p≤x.length∧x.length≤1000∧
 (∀n q H',Ic (sf x p) n (sf x q)→p≤q→q≤x.length→cM R H' r x q→Kept r H H'→Q (.int n) H')∧(∀e,Ol (sf x p) (sf x e)→p≤e→e≤x.length→Rz NF H r E e)
theorem pw(D:bL K R "read_charge" "Reader.read_charge" iv ["self"])(T:Ey K mg C R uK uN uC uP uI)(c1:cI P w K mg base 1 R "sign" ["self"] (fo R))(c2:a0 P w K mg base 3 R "take" ["self","sign"] (gE NF R))(c3:a0 P w K mg base 4 R "read_count" ["self"] (dP NF R)):
  a0 P w K mg base 5 R "read_charge" ["self"] (kF NF R):=by
 obtain⟨_,_,ar⟩:=c1
 obtain⟨_,_,aB⟩:=c2
 obtain⟨_,_,aD⟩:=c3
 refine D.gJ lL (fun vs H Q E h=>?_) (fun f bb A outer s H vs Q E hr h=>?_)
 ·obtain⟨r,x,p,rfl,_⟩:=h
  rfl
 ·obtain⟨r,x,p,rfl,⟨dx,hR⟩,hp,hx,q,qE⟩:=h
  refine⟨_,(aj
     (a7 (aA zZ (bF (pv 0) T.au ar.m ar.ok (hr.mono (by decide)) ar.b .nil aM) (aV (v:= .str "^") rfl T.eo ⟨_,rfl⟩) (aJ _))
      (aq
       (aE ao))
      aQ)
    (aj
     (bq (bI (pv 0) T.au aB.m aB.ok (hr.mono (by decide)) aB.b .nil aX (aa (aV (v:= .str "^") rfl T.eo ⟨_,rfl⟩) ai)))
    (aj
     (aP (i:=1) lL.nd rfl (Or.inl rfl) (ck (pv 0) T.au aD.m aD.ok (hr.mono (by decide)) aD.b .nil aX))
    (aj
     (a7 (aA bN (bF (pv 0) T.au ar.m ar.ok (hr.mono (by decide)) ar.b .nil aM) (aV (v:= .str "-") rfl T.ni ⟨_,rfl⟩) (aJ _))
      (aj
       (bq (bI (pv 0) T.au aB.m aB.ok (hr.mono (by decide)) aB.b .nil aX (aa (aV (v:= .str "-") rfl T.ni ⟨_,rfl⟩) ai)))
      (aq
       (aE (hU eX (pv 1)))))
      aQ)
    (aj
     (bq (bI (pv 0) T.au aB.m aB.ok (hr.mono (by decide)) aB.b .nil aX (aa (aV (v:= .str "+") rfl T.vO ⟨_,rfl⟩) ai)))
    (aq
     (aE (pv 1)))))))),?_⟩
  refine⟨_,rfl,r,dx,_,rfl,hR,aI _ _ (by decide+kernel) (by decide+kernel),r,x,p,rfl,⟨dx,hR⟩,hp,hx,rfl,_,rfl,?_⟩
  by_cases h0:(sf x p).head? =some 94
  ·have eq:V.str (dY x p)=V.str "^" :=by rw[Ag];exact dC.mpr h0
   rw[decide_eq_true eq]
   refine bZ ?_
   obtain⟨e1,e2⟩:=cP h0
   refine⟨_,rfl,r,dx,_,rfl,hR,aI _ _ (by decide+kernel) (by decide+kernel),r,x,p,94,congrArg (fun z=>[V.ref r,V.str z]) Ag,⟨dx,hR⟩,hp,hx,fun _ H1 fu k1=>?_,fun n=>absurd h0 n⟩
   obtain⟨rW,fu⟩:=fu
   refine⟨_,rfl,r,rW,_,rfl,fu,aI _ _ (by decide+kernel) (by decide+kernel),r,x,p+1,rfl,⟨rW,fu⟩,e2,hx,fun m q2 H2 hN BZ pq gF k2=>?_,fun e hB h1 h2=>(qE e ⟨_,e1, .inl hB⟩ (by omega) h2).on k1 fu⟩
   obtain⟨kB,gF⟩:=gF
   have kk:=k1.trans k2
   refine⟨_,rfl,r,kB,_,rfl,gF,aI _ _ (by decide+kernel) (by decide+kernel),r,x,_,rfl,⟨kB,gF⟩,pq,hx,rfl,_,rfl,?_⟩
   by_cases xQ:(sf x q2).head? =some 45
   ·obtain⟨f1,f2⟩:=cP xQ
    refine fG (by rw[Ez];exact dC.mpr xQ) ?_
    refine⟨_,rfl,r,kB,_,rfl,gF,aI _ _ (by decide+kernel) (by decide+kernel),r,x,q2,45,congrArg (fun z=>[V.ref r,V.str z]) Ez,⟨kB,gF⟩,pq,hx,fun _ H3 kQ k3=>?_,fun n=>absurd xQ n⟩
    exact⟨_,rfl,_,rfl,q (-m) (q2+1) H3 (.inr ⟨_,m,_,e1,hN, .inl ⟨f1,rfl⟩⟩) (by omega) f2 kQ (kk.trans k3)⟩
   ·refine ei (by rw[Ez];exact fun z=>xQ (dC.mp z)) ?_
    refine⟨_,rfl,r,kB,_,rfl,gF,aI _ _ (by decide+kernel) (by decide+kernel),r,x,q2,43,congrArg (fun z=>[V.ref r,V.str z]) J4,⟨kB,gF⟩,pq,hx,fun B4 H3 kQ k3=>?_,fun B4=>(qE q2 ⟨_,e1, .inr ⟨m,hN,xQ,B4⟩⟩ (by omega) pq).on kk gF⟩
    obtain⟨f1,f2⟩:=cP B4
    exact⟨_,rfl,q m (q2+1) H3 (.inr ⟨_,m,_,e1,hN, .inr ⟨f1,rfl⟩⟩) (by omega) f2 kQ (kk.trans k3)⟩
  ·have ne:¬V.str (dY x p)=V.str "^" :=by rw[Ag];exact fun z=>h0 (dC.mp z)
   rw[decide_eq_false ne]
   exact cO (q 0 p H (.inl ⟨h0,rfl,rfl⟩) (Nat.le_refl _) hp ⟨dx,hR⟩ (Kept.refl r H))
def iG(NF C G Pc Fo R:Addr):Sp:=fun vs H Q E=>∃(r:Addr) (x:Str) (p:Nat),vs=[.ref r]∧cM R H r x p∧p≤x.length∧x.length≤1000∧(sf x p).head? =some 101∧
 (sf x p=101::94::45::sf x (p+3)→p+3≤x.length→∀f H',H f=none→BR C G Pc Fo 4 H H' f [] (-1)→cM R H' r x (p+3)→Kept r H H'→Q (.ref f) H')∧(∀e,Om (sf x p) (sf x e)→p≤e→e≤x.length→Rz NF H r E e)
theorem kZ(D:bL K R "read_electron" "Reader.read_electron" fh ["self"])(T:jv K mg C R G Pc Fo uK uN uB uE uM uC uP uI uD uL uT)(c1:a0 P w K mg base 4 R "take_all" ["self","signs"] (kz NF R))(c2:eD P w K mg base 1 Fo ["self","pieces","charge"] [0] (nk Fo)):
  a0 P w K mg base 5 R "read_electron" ["self"] (iG NF C G Pc Fo R):=by
 obtain⟨_,_,cQ⟩:=c1
 obtain⟨_,_,bw⟩:=c2
 obtain⟨_,f7,f9⟩:=bw.b 1 (by decide)
 refine D.gJ oZ (fun vs H Q E h=>?_) (fun f bb A outer s H vs Q E hr h=>?_)
 ·obtain⟨r,x,p,rfl,_⟩:=h
  rfl
 ·obtain⟨r,x,p,rfl,⟨dx,hR⟩,hp,hx,Kf,q,qE⟩:=h
  refine⟨_,(aj
     (bq (bI (pv 0) T.au cQ.m cQ.ok (hr.mono (by decide)) cQ.b .nil aX (aa (aV (v:= .str "e^-") rfl T.gX ⟨_,rfl⟩) ai)))
    (aq
     (aE (eY bw.m bw.ok (hr.mono (by decide)) rfl T.lO f9 f7 aM (aa (bH ai) (aa (hU eX ao) ai)))))),?_⟩
  have ee:("e^-" :Str).cps.toList=[101,94,45]:=by decide+kernel
  have ea:("e^-" :Str).cps.all (· <128)=true:=by decide+kernel
  have el:("e^-" :Str).length=3:=by decide+kernel
  refine⟨_,rfl,r,dx,_,rfl,hR,aI _ _ (by decide+kernel) (by decide+kernel),r,x,p,_,rfl,ea,⟨dx,hR⟩,hp,hx,fun hs yX H1 fu k1=>?_,fun i c hc hs hn hl=>?_⟩
  ·obtain⟨rW,fu⟩:=fu
   rw[ee,el] at hs
   rw[el] at yX fu
   refine⟨(by show 0≤sizeLine;decide),fun l hl=>⟨1,rfl,fun g dg ng Aj neg=>⟨g,dg,l, -1,[],rfl,ag,?_,fun m H5 hm hg Dp kp=>⟨rfl,?_⟩⟩⟩⟩
   ·rw[ah (af ag ng),ah (af ag Aj)];exact ag
   have sl:aK H1 (upd H1 l (.lst [])):=aK.new hl
   have s5:aK (upd H1 l (.lst [])) H5:=fun b o z=>kp b o (by rw[ah (af z ng),ah (af z Aj)];exact z) (af z ng)
   have kf:Kept r H (upd H1 l (.lst [])):=k1.trans (Kept.of sl)
   have Ik:=sl _ _ fu
   exact q hs yX g H5 (aZ kf Ik ng) (fun c9 ke=>⟨dg,m,[],ke _ _ (aZ kf Ik ng) hg,ke _ _ (aZ kf Ik (eO hm)) Dp, .nil⟩) ⟨rW,s5 _ _ Ik⟩ (kf.trans (Kept.of s5))
  ·rw[ee] at hc hs
   refine qE (p+i) ?_ (by omega) hl
   match i,hc with
   |0,hc=>
    have:101=c:=by simpa using hc
    subst this
    exact absurd Kf hn
   |1,hc=>
    have:94=c:=by simpa using hc
    subst this
    exact .inl ⟨hs,hn⟩
   |2,hc=>
    have:45=c:=by simpa using hc
    subst this
    exact .inr ⟨hs,hn⟩
def lU(NF C G Pc Fo R:Addr):Sp:=fun vs H Q E=>∃(r:Addr) (x:Str) (p:Nat),vs=[.ref r]∧cM R H r x p∧p≤x.length∧x.length≤1000∧
 (∀xs n q f H',yU (sf x p) xs n (sf x q)→p≤q→q≤x.length→H f=none→BR C G Pc Fo 4 H H' f xs n→cM R H' r x q→Kept r H H'→Q (.ref f) H')∧(∀e,J7 (sf x p) (sf x e)→p≤e→e≤x.length→Rz NF H r E e)
theorem qw(D:bL K R "read_whole" "Reader.read_whole" jE ["self"])(T:jv K mg C R G Pc Fo uK uN uB uE uM uC uP uI uD uL uT)(c1:cI P w K mg base 1 R "sign" ["self"] (fo R))(c2:a0 P w K mg base 3 R "take" ["self","sign"] (gE NF R))(c3:a0 P w K mg base 4 R "read_count" ["self"] (dP NF R))(c4:a0 P w K mg base 19 R "read_parts" ["self","around"] (gG NF C G R 4))
  (c5:a0 P w K mg base 5 R "read_charge" ["self"] (kF NF R)) (c6:a0 P w K mg base 5 R "read_electron" ["self"] (iG NF C G Pc Fo R)) (c7:eD P w K mg base 1 Pc ["self","parts","count"] [1] (iB Pc)) (c8:eD P w K mg base 1 Fo ["self","pieces","charge"] [0] (nk Fo)):
  a0 P w K mg base 20 R "read_whole" ["self"] (lU NF C G Pc Fo R):=by
 obtain⟨_,_,ar⟩:=c1
 obtain⟨_,_,aB⟩:=c2
 obtain⟨_,_,aD⟩:=c3
 obtain⟨_,_,aU⟩:=c4
 obtain⟨_,_,b9⟩:=c5
 obtain⟨_,_,bV⟩:=c6
 obtain⟨_,_,cA⟩:=c7
 obtain⟨_,_,bw⟩:=c8
 obtain⟨_,tT,tU⟩:=cA.b 0 (by decide)
 obtain⟨_,tV,tW⟩:=cA.b 1 (by decide)
 obtain⟨_,f7,f9⟩:=bw.b 1 (by decide)
 refine D.gJ kv (fun vs H Q E h=>?_) (fun f bb A outer s H vs Q E hr h=>?_)
 ·obtain⟨r,x,p,rfl,_⟩:=h
  rfl
 ·obtain⟨r,x,p,rfl,⟨dx,hR⟩,hp,hx,q,qE⟩:=h
  have big:(2000 :Nat)≤sizeLine:=by decide
  refine⟨_,(aj
     (a7 (aA bN (bF (pv 0) T.au ar.m ar.ok (hr.mono (by decide)) ar.b .nil aM) (bh j5 (aV (v:= .str "e^-") rfl T.gX ⟨_,rfl⟩) ao (fun _ _=>rfl)) (aJ _))
      (aq
       (aE (ck (pv 0) T.au bV.m bV.ok (hr.mono (by decide)) bV.b .nil aX)))
      aQ)
    (aj
     (aP (i:=1) kv.nd rfl (Or.inl rfl) (bH (aa (eY cA.m cA.ok (hr.mono (by decide)) rfl T.rT tU tT aM (aa (bI (pv 0) T.au aU.m aU.ok (hr.mono (by decide)) aU.b .nil aX (aa ao ai)) ai)) ai)))
    (aj
     (fN ka (aA bN (bF (pv 0) T.au ar.m ar.ok (hr.mono (by decide)) ar.b .nil aM) (aV (v:= .str ".") rfl T.fZ ⟨_,rfl⟩) (aJ _))
      (aj
       (bq (bI (pv 0) T.au aB.m aB.ok (hr.mono (by decide)) aB.b .nil aX (aa (aV (v:= .str ".") rfl T.fZ ⟨_,rfl⟩) ai)))
      (aj
       (aP (i:=2) kv.nd rfl (Or.inl rfl) (ck (pv 0) T.au aD.m aD.ok (hr.mono (by decide)) aD.b .nil aX))
      (aq
       (bq (cH PySem.F.plainAttrs_list PySem.F.slot_list_append PySem.F.type_list_append bT (pv 1) (aa (eY cA.m cA.ok (hr.mono (by decide)) rfl T.rT tW tV aM (aa (bI (pv 0) T.au aU.m aU.ok (hr.mono (by decide)) aU.b .nil aX (aa ao ai)) (aa (pv 2) ai))) ai)))))))
    (aq
     (aE (eY bw.m bw.ok (hr.mono (by decide)) rfl T.lO f9 f7 aM (aa (pv 1) (aa (ck (pv 0) T.au b9.m b9.ok (hr.mono (by decide)) b9.b .nil aX) ai)))))))),?_⟩
  refine⟨_,rfl,r,dx,_,rfl,hR,aI _ _ (by decide+kernel) (by decide+kernel),r,x,p,rfl,⟨dx,hR⟩,hp,hx,"e^-",0,101,rfl,rfl,(by decide+kernel),(by decide+kernel),rfl,_,rfl,?_⟩
  by_cases h0:(sf x p).head? =some 101
  ·refine fG (dC.mpr h0) ?_
   exact⟨_,rfl,r,dx,_,rfl,hR,aI _ _ (by decide+kernel) (by decide+kernel),r,x,p,rfl,⟨dx,hR⟩,hp,hx,h0,fun hs hl f H' nf hF cU k'=>q [] (-1) (p+3) f H' (.inl ⟨hs,rfl,rfl⟩) (by omega) hl nf hF cU k',fun e hB=>qE e (.inl hB)⟩
  ·refine ei (fun z=>h0 (dC.mp z)) ?_
   refine⟨_,rfl,r,dx,_,rfl,hR,aI _ _ (by decide+kernel) (by decide+kernel),r,x,p,0,rfl,⟨dx,hR⟩,hp,hx,rfl,fun Kg q1 l H1 hS Ou Qo hN fu k1=>?_,fun e hB=>qE e (.inr ⟨h0, .inl hB⟩)⟩
   obtain⟨rW,fu⟩:=fu
   obtain⟨Dq,Ov,vY,Kh⟩:=hN
   refine fun g dg ng Aj neg=>⟨g,dg,l,1,Ov.map V.ref,rfl,ag,?_,fun m H2 hm hg Dp kp=>⟨rfl,(by show 1≤sizeLine;decide),fun L hL=>?_⟩⟩
   ·rw[ah (af vY ng),ah (af vY Aj)];exact vY
   have s2:aK H1 H2:=fun b o z=>kp b o (by rw[ah (af z ng),ah (af z Aj)];exact z) (af z ng)
   have gF:=s2 _ _ fu
   have k2:Kept r H H2:=k1.trans (Kept.of s2)
   have Ij:H L=none:=aZ k2 gF hL
   have Al:L≠r:=fun z=>by rw[z,gF] at hL;cases hL
   have sL:aK H2 (upd H2 L (.lst [V.ref g])):=aK.new hL
   have Qq:=aZ k1 fu ng
   have Qr:=aZ k1 fu (eO hm)
   have first:EA C G Pc L 4 H (upd H2 L (.lst [V.ref g])) g (1,Kg):=fun c9 ke=>
    ⟨dg,m,Ov,ke _ _ Qq (af hg hL) (sL _ _ hg),ke _ _ Qr (af Dp hL) (sL _ _ Dp),Kh c9 fun b o z1 z2=>ke b o z1 (af (s2 _ _ z2) hL) (sL _ _ (s2 _ _ z2))⟩
   refine⟨fun k σ H'=>∃q' xs,k+q'=x.length∧p<q'∧pQ (sf x p) xs (sf x q')∧(∃v:Option V,σ=[some (.ref r),some (.ref L),v])∧cM R H' r x q'∧Kept r H H'∧∃ps,H' L=some (.lst (ps.map V.ref))∧ps.length≤q'∧Paired (EA C G Pc L 4 H H') ps xs,⟨x.length - q1,q1,[(1,Kg)],by omega,Ou, .one Kg _ hS,⟨none,rfl⟩,⟨rW,sL _ _ gF⟩,k2.trans (Kept.of sL),[g],ag,by show 1≤q1;omega, .cons first .nil⟩,?_⟩
   rintro k σ H' ⟨q',xs,hk,BY,Dr,⟨v,rfl⟩,⟨dj,cU⟩,kk,ps,B3,lu,hP⟩
   have kT:q'≤x.length:=by omega
   refine⟨_,rfl,r,dj,_,rfl,cU,aI _ _ (by decide+kernel) (by decide+kernel),r,x,_,rfl,⟨dj,cU⟩,kT,hx,rfl,_,rfl,?_⟩
   by_cases k7:(sf x q').head? =some 46
   ·obtain⟨f1,f2⟩:=cP k7
    rw[f1] at Dr
    refine fG (by rw[Dm];exact dC.mpr k7) ?_
    refine⟨_,fun σ' c9 h=>h,?_⟩
    refine⟨_,rfl,r,dj,_,rfl,cU,aI _ _ (by decide+kernel) (by decide+kernel),r,x,q',46,congrArg (fun z=>[V.ref r,V.str z]) Dm,⟨dj,cU⟩,kT,hx,fun _ H3 kQ k3=>?_,fun n=>absurd k7 n⟩
    obtain⟨B1,kQ⟩:=kQ
    refine⟨_,rfl,r,B1,_,rfl,kQ,aI _ _ (by decide+kernel) (by decide+kernel),r,x,q'+1,rfl,⟨B1,kQ⟩,f2,hx,fun c q4 H4 hC Qm B2 tS k4=>?_,fun e hB h1 h2=>(qE e (.inr ⟨h0, .inr (.inl ⟨xs,_,Dr, .inl hB⟩)⟩) (by omega) h2).on (kk.trans k3) kQ⟩
    obtain⟨Ii,tS⟩:=tS
    have Il:=k3.trans k4
    have Ki:=Il _ _ B3 Al
    refine⟨_,rfl, .inl ⟨rfl,_,bC.of Ki⟩,_,rfl,r,Ii,_,rfl,tS,aI _ _ (by decide+kernel) (by decide+kernel),r,x,q4,0,rfl,⟨Ii,tS⟩,B2,hx,rfl,fun Ow q5 l' H5 Qs SW Qt Im EC k5=>?_,fun e hB h1 h2=>(qE e (.inr ⟨h0, .inr (.inl ⟨xs,_,Dr, .inr ⟨c,_,hC,hB⟩⟩)⟩) (by omega) h2).on (kk.trans Il) tS⟩
    obtain⟨Qu,EC⟩:=EC
    obtain⟨Qv,Io,B5,Kj⟩:=Im
    refine⟨_,rfl,fun g' ED uy vZ Kk=>⟨g',ED,l',c,Io.map V.ref,rfl,ag,?_,fun m' H6 Kl Km B6 Kn=>⟨rfl,?_⟩⟩⟩
    ·rw[ah (af B5 uy),ah (af B5 vZ)];exact B5
    have s6:aK H5 H6:=fun b o z=>Kn b o (by rw[ah (af z uy),ah (af z vZ)];exact z) (af z uy)
    have Ox:Kept r H' H6:=(Il.trans k5).trans (Kept.of s6)
    have Ko:=k5 _ _ Ki Al
    have Qw:=s6 _ _ Ko
    have Oy:Kept r H H4:=kk.trans Il
    have Oz:Kept r H H5:=Oy.trans k5
    refine⟨L,_,_,rfl,rfl,Qw,by rw[List.length_map];omega,x.length - q5,by omega,q5,xs++[(c,Ow)],by omega,by omega, .snoc xs _ c _ Ow _ Dr hC Qs,⟨_,rfl⟩,⟨Qu,?_⟩,fun b o z w=>?_,ps++[g'],by rw[ag,List.map_append];rfl,by rw[List.length_append];show ps.length+1≤q5;omega,?_⟩
    ·rw[ah (Ne.symm Al),s6 _ _ EC]
    ·rw[ah (af z Ij)]
     exact Ox _ _ (kk _ _ z w) w
    ·refine cK (fun c9 ke=>?_) (aR (fun c t h c9 ke=>h c9 fun b o z1 z2 z3=>ke b o z1 z2 ?_) hP)
     ·have u:∀{b o},H6 b=some o→b≠L→(upd H6 L (.lst (ps.map V.ref++[V.ref g']))) b=some o:=fun {b o} z w=>by rw[ah w];exact z
      have OA:g'≠L:=fun z=>by rw[z,Ko] at uy;cases uy
      have Kp:=eO Kl
      have OB:m'≠L:=fun z=>by rw[z,Ko] at Kp;cases Kp
      refine⟨ED,m',Io,ke _ _ (aZ Oz EC uy) OA (u Km OA),ke _ _ (aZ Oz EC Kp) OB (u B6 OB),Kj c9 fun b o z1 z2=>?_⟩
      have Am:b≠L:=fun z=>by rw[z,Ki] at z1;cases z1
      exact ke b o (aZ Oy tS z1) Am (u (s6 _ _ z2) Am)
     ·have Ak:b≠r:=fun z=>by rw[z,hR] at z1;cases z1
      rw[ah z2]
      exact Ox _ _ z3 Ak
   ·refine ei (by rw[Dm];exact fun z=>k7 (dC.mp z)) ?_
    refine⟨_,rfl,_,rfl,r,dj,_,rfl,cU,aI _ _ (by decide+kernel) (by decide+kernel),r,x,q',rfl,⟨dj,cU⟩,kT,hx,fun n q3 H3 hC SY Kq kQ k3=>?_,fun e hB h1 h2=>(qE e (.inr ⟨h0, .inr (.inr ⟨xs,_,Dr,k7,hB⟩)⟩) (by omega) h2).on kk cU⟩
    obtain⟨B1,kQ⟩:=kQ
    have Kr:=k3 _ _ B3 Al
    have Ip:=kk.trans k3
    refine fun g' ED uy vZ Kk=>⟨g',ED,L,n,ps.map V.ref,rfl,ag,?_,fun m' H6 Kl Km B6 Kn=>⟨rfl,?_⟩⟩
    ·rw[ah (af Kr uy),ah (af Kr vZ)];exact Kr
    have s6:aK H3 H6:=fun b o z=>Kn b o (by rw[ah (af z uy),ah (af z vZ)];exact z) (af z uy)
    refine q xs n q3 g' H6 (.inr ⟨h0,_,Dr,k7,hC⟩) (by omega) Kq (aZ Ip kQ uy) (fun c9 ke=>?_) ⟨B1,s6 _ _ kQ⟩ (Ip.trans (Kept.of s6))
    refine⟨ED,m',ps,ke _ _ (aZ Ip kQ uy) Km,ke _ _ (aZ Ip kQ (eO Kl)) B6,aR (fun c t h=>h c9 fun b o z1 z2 z3=>ke b o z1 ?_) hP⟩
    have Ak:b≠r:=fun z=>by rw[z,hR] at z1;cases z1
    exact s6 _ _ (k3 _ _ z3 Ak)
variable {HE NF TL:Addr}{uC uP uI uD uL uT:Tok}
def Rf(X:Addr)(fld:Str)(H:Hp)(E:XK)(e:Nat):Prop:=∀b dx H',H b=none→H dx=none→H' b=some (oH b X (some dx))→H' dx=some (qg dx [(fld, .int (e:Int))])→aK H H'→E (.ref X) (some dx) H'
def kG(TL:Addr):Sp:=fun vs H Q E=>∃x:Str,vs=[.str x]∧x.length≤10000∧(x.length≤400→Q .bR H)∧(400<x.length→Rf TL "many" H E x.length)
def rX(NF TL C G Pc Fo:Addr):Sp:=fun vs H Q E=>∃x:Str,vs=[.str x]∧x.length≤10000∧
 (x.length≤400→∀xs n f H',yU x.cps.toList xs n []→H f=none→BR C G Pc Fo 4 H H' f xs n→aK H H'→Q (.ref f) H')∧
 (x.length≤400→∀e,e≤x.length→Oo x.cps.toList (sf x e)→Rf NF "place" H E e)∧(400<x.length→Rf TL "many" H E x.length)
theorem px(D:Def K mg "refuse_too_long" "refuse_too_long" ik ["text"])(T:jv K mg C R G Pc Fo uK uN uB uE uM uC uP uI uD uL uT)(TE:nv K mg HE NF TL)(c1:fW P w K mg base 1 "TooLong" TL HE ["self","many"] (ky TL "many")):oP P w K mg base 3 "refuse_too_long" ["text"] (kG TL):=by
 obtain⟨_,_,dQ⟩:=c1
 refine D.gJ tM (fun vs H Q E h=>?_) (fun f bb A outer s H vs Q E hr h=>?_)
 ·obtain⟨x,rfl,_⟩:=h
  rfl
 ·obtain⟨x,rfl,hx,q,qE⟩:=h
  have big:(10000 :Nat)≤sizeLine:=by decide
  refine⟨_,(aq
     (a7 (aA fP (aS bA rfl T.dB cw (aa (pv 0) ai)) (aV (v:= .int 400) rfl T.ku ⟨_,rfl⟩) (aJ _))
      (aq
       (eJ rfl aX (eI dQ.z dQ.ok (hr.mono (by decide)) rfl dQ.g dQ.kp dQ.b (aa (aS bA rfl T.dB cw (aa (pv 0) ai)) ai))))
      aQ)),?_⟩
  refine⟨_,rfl,x,rfl,by omega,_,_,rfl,rfl,_,rfl,?_⟩
  by_cases h:400<x.length
  ·refine fG (by omega) ⟨_,rfl,x,rfl,by omega,(by show 1≤100;decide),fun b hb=>?_⟩
   refine⟨b,_,rfl,ag,by omega,by omega,fun kB H5 gK jw vV tO k5=>⟨rfl,b,TL,HE,_,some kB,rfl,dQ.z,vV,?_⟩⟩
   rw[ah jw] at gK
   refine qE h b kB _ hb gK ag (by rw[ah jw];exact tO) fun b' o z=>?_
   have BX:b'≠b:=af z hb
   rw[ah BX]
   exact k5 _ _ (by rw[ah BX];exact z) BX
  ·exact ei (by omega) (q (by omega))
theorem nz(D:Def K mg "read_formula" "read_formula" gz ["text"])(T:jv K mg C R G Pc Fo uK uN uB uE uM uC uP uI uD uL uT)(c1:oP P w K mg base 3 "refuse_too_long" ["text"] (kG TL))(c2:eD P w K mg base 1 R ["self","text"] [] (rR R))(c3:a0 P w K mg base 20 R "read_whole" ["self"] (lU NF C G Pc Fo R))(c4:a0 P w K mg base 3 R "take_end" ["self"] (kA NF R)):
  oP P w K mg base 21 "read_formula" ["text"] (rX NF TL C G Pc Fo):=by
 obtain⟨_,_,b4⟩:=c1
 obtain⟨_,_,au⟩:=c2
 obtain⟨_,_,cy⟩:=c3
 obtain⟨_,_,cR⟩:=c4
 obtain⟨_,qx,qy⟩:=au.b 0 (by decide)
 refine D.gJ gY (fun vs H Q E h=>?_) (fun f bb A outer s H vs Q E hr h=>?_)
 ·obtain⟨x,rfl,_⟩:=h
  rfl
 ·obtain⟨x,rfl,hx,q,qE,qL⟩:=h
  refine⟨_,(aj
     (bq (oK b4.ok (hr.mono (by decide)) rfl b4.g b4.kp b4.b .nil aX (aa (pv 0) ai)))
    (aj
     (aP (i:=1) gY.nd rfl (Or.inl rfl) (eY au.m au.ok (hr.mono (by decide)) rfl T.vR qy qx aM (aa (pv 0) ai)))
    (aj
     (aP (i:=2) gY.nd rfl (Or.inl rfl) (ck (pv 1) T.au cy.m cy.ok (hr.mono (by decide)) cy.b .nil aX))
    (aj
     (bq (ck (pv 1) T.au cR.m cR.ok (hr.mono (by decide)) cR.b .nil aX))
    (aq
     (aE (pv 2))))))),?_⟩
  refine⟨_,rfl,x,rfl,hx,fun h4=>?_,qL⟩
  have q:=q h4
  have qE:=qE h4
  refine⟨_,rfl,fun r dr nr Qx S0=>⟨r,dr,x,rfl,ag,fun H1 fu k1=>⟨rfl,?_⟩⟩⟩
  obtain⟨rW,fu⟩:=fu
  have s1:aK H H1:=fun b o z=>k1 b o (by rw[ah (af z nr),ah (af z Qx)];exact z) (af z nr)
  have back:∀b,H1 b=none→H b=none:=fun b z=>by
   cases hh:H b with
   |none=>rfl
   |some o=>rw[s1 _ _ hh] at z;cases z
  have up:∀{e},Rf NF "place" H E e→Rz NF H1 r E e:=fun h b dx H' nb nd h1 h2 k=>h b dx H' (back b nb) (back dx nd) h1 h2 fun b o z=>k b o (s1 _ _ z) (af z nr)
  have xl:x.cps.toList.length=x.length:=by simp [Str.length]
  refine⟨_,rfl,r,rW,_,rfl,fu,aI _ _ (by decide+kernel) (by decide+kernel),r,x,0,rfl,⟨rW,fu⟩,Nat.zero_le _,by omega,fun xs n q2 f H2 hW _ BZ nf hF gF k2=>?_,fun e hB _ he=>up (qE e he (.inl hB))⟩
  obtain⟨kB,gF⟩:=gF
  refine⟨_,rfl,r,kB,_,rfl,gF,aI _ _ (by decide+kernel) (by decide+kernel),r,x,q2,rfl,⟨kB,gF⟩,BZ,by omega,fun h=>?_,fun h=>(up (qE q2 BZ (.inr ⟨xs,n,hW,?_⟩))).on k2 gF⟩
  ·refine⟨_,rfl,q xs n f H2 ?_ (back f nf) (fun c9 ke=>hF c9 fun b o z1 z2=>ke b o (back b z1) z2) fun b o z=>k2 b o (s1 _ _ z) (af z nr)⟩
   have:sf x q2=[]:=List.drop_eq_nil_of_le (by omega)
   rw[←this]
   exact hW
  ·intro z
   have:=jb x q2
   rw[z] at this
   simp at this
   omega
inductive Nm where
 |start|B7|part|dot|f'|minus|bG|stop
 deriving DecidableEq
structure S8 where
 nm:Nm
 sm:Nat
 fg:Nat
 al:Bool
def An(s:S8)(dp c:Nat):Option (S8×Nat):=if s.fg=3∨s.fg=0∧c=48 then none else some (⟨s.nm,0,s.fg+1,decide (s.fg=0)&&decide (c=49)⟩,dp)
def Ds(s:S8)(dp c:Nat):Option (S8×Nat):=if gB c=true then some (⟨.part,2,0,false⟩,dp) else if s.nm= .start∧c=101 then some (⟨.f',0,0,false⟩,dp) else if s.nm= .part∧0<s.sm∧s.fg=0 then some (⟨.part,s.sm - 1,0,false⟩,dp) else none
def B8(m:Nm):Nat:=if m= .f' then 94 else if m= .minus then 45 else 43
def gf(s:S8)(dp c:Nat):Option (S8×Nat):=
 if cJ c=true∧(s.nm= .part∨s.nm= .dot∨s.nm= .bG) then An s dp c
 else if s.al=true∨s.nm= .stop then none
 else if s.nm= .f'∨s.nm= .minus∨s.nm= .bG then (if c=B8 s.nm∨s.nm= .bG∧c=45 then some (⟨if s.nm= .f' then .minus else .stop,0,0,false⟩,dp) else none)
 else if gB c=true∨eR c=true then Ds s dp c
 else if c=40∧dp<4 then some (⟨.B7,0,0,false⟩,dp+1)
 else if s.nm= .part∧c=41∧0<dp then some (⟨.part,0,0,false⟩,dp - 1)
 else if s.nm= .part∧(c=46∨c=94)∧dp=0 then some (⟨if c=46 then .dot else .bG,0,0,false⟩,dp)
 else none
def qz(s:S8)(dp:Nat):Prop:=s.nm= .stop∨s.nm= .part∧dp=0∧s.al=false
instance (s:S8) (dp:Nat):Decidable (qz s dp):=by unfold qz;infer_instance
def vd:S8→Nat→List Nat→Option (List Nat)
 |s,dp,[]=>if qz s dp then none else some []
 |s,dp,c::r=>match gf s dp c with
  |none=>some (c::r)
  |some (s',d')=>vd s' d' r
theorem gR{s:S8}{dp c:Nat}{r:List Nat}(h:gf s dp c=none):vd s dp (c::r)=some (c::r):=by rw[vd,h]
theorem cV{s s':S8}{dp d' c:Nat}{r:List Nat}(h:gf s dp c=some (s',d')):vd s dp (c::r)=vd s' d' r:=by rw[vd,h]
theorem jd{s:S8}{dp:Nat}(h:¬qz s dp):vd s dp []=some []:=by rw[vd,if_neg h]
theorem jq{c:Nat}(h:cJ c=true):gB c=false∧eR c=false∧c≠40∧c≠41∧c≠46∧c≠94∧c≠45∧c≠43∧c≠101:=by
 simp only [cJ,gB,eR,Bool.and_eq_true,decide_eq_true_eq,Bool.and_eq_false_iff,decide_eq_false_iff_not] at*
 omega
theorem EE{c:Nat}(h:gB c=true):cJ c=false∧eR c=false∧c≠40:=by
 simp only [cJ,gB,eR,Bool.and_eq_true,decide_eq_true_eq,Bool.and_eq_false_iff,decide_eq_false_iff_not] at*
 omega
theorem v8{c:Nat}(h:eR c=true):cJ c=false∧gB c=false∧c≠40:=by
 simp only [cJ,gB,eR,Bool.and_eq_true,decide_eq_true_eq,Bool.and_eq_false_iff,decide_eq_false_iff_not] at*
 omega
theorem yY{s:S8}{dp:Nat}(hn:s.nm= .part∨s.nm= .dot∨s.nm= .bG):∀(w v:List Nat),w.all cJ=true→s.fg+w.length≤3→(s.fg=0→w.head? ≠some 48)→w≠[]→
  vd s dp (w++v)=vd ⟨s.nm,0,s.fg+w.length,decide (s.fg=0)&&decide (w=[49])⟩ dp v:=by
 intro w
 induction w generalizing s with
 |nil=>intro _ _ _ _ h;exact absurd rfl h
 |cons c r ih=>
  intro v ha hl h0 _
  rw[List.all_cons,Bool.and_eq_true] at ha
  rw[List.length_cons] at hl
  have e:gf s dp c=some (⟨s.nm,0,s.fg+1,decide (s.fg=0)&&decide (c=49)⟩,dp):=by
   unfold gf An
   rw[if_pos ⟨ha.1,hn⟩,if_neg]
   rintro (z| ⟨z1,z2⟩)
   ·omega
   ·exact h0 z1 (by rw[z2];rfl)
  rw[List.cons_append,cV e]
  cases r with
  |nil=>
   have:(decide ([c]=[49]):Bool)=decide (c=49):=by simp
   rw[this]
   rfl
  |cons b t=>
   rw[ih (s:=⟨s.nm,0,s.fg+1,decide (s.fg=0)&&decide (c=49)⟩) hn v ha.2 (by show s.fg+1+(b::t).length≤3;omega) (fun z=>absurd z (Nat.succ_ne_zero _)) (by simp)]
   show vd ⟨s.nm,0,s.fg+1+(b::t).length,decide (s.fg+1=0)&&_⟩ dp v=_
   have e1:(decide (s.fg+1=0):Bool)=false:=by simp
   have e2:(decide (c::b::t=[49]):Bool)=false:=by simp
   rw[e1,e2,Bool.and_false,Bool.false_and,List.length_cons (a:=c)]
   rw[show s.fg+1+(b::t).length=s.fg+((b::t).length+1) by omega]
def Ks(s:S8)(v:List Nat):Prop:=∀c,v.head? =some c→cJ c=true→s.fg=3
theorem je{s:S8}{dp:Nat}(hn:s.nm= .part∨s.nm= .dot∨s.nm= .bG)(hf:s.fg=0)(ha:s.al=false){u v:List Nat}{n:Int}(h:iE 3 u n v):∃s',vd s dp u=vd s' dp v∧s'.nm=s.nm∧s'.al=false∧Ks s' v∧(s'=s∧u=v∨s'.fg≠0):=by
 obtain⟨e,n1,n2,hl,hv⟩:=h
 obtain⟨m,rfl,m1,m0⟩:=rS n1 (by omega)
 by_cases hw:a8 (m:Int)=[]
 ·rw[hw] at e hl hv
  refine⟨s,by rw[e];rfl,rfl,ha,fun c hc hF=>?_, .inl ⟨rfl,e⟩⟩
  rcases hv with z|z
  ·rw[z c hc] at hF;cases hF
  ·cases z
 ·have Qy:=yH m
  have e2:=yY (s:=s) (dp:=dp) hn (a8 (m:Int)) v (iz m) (by omega) (fun _=>vH m m0) hw
  refine⟨⟨s.nm,0,s.fg+(a8 (m:Int)).length,false⟩,?_,rfl,rfl,fun c hc hF=>?_, .inr ?_⟩
  ·rw[e,e2]
   have:(decide (a8 (m:Int)=[49]):Bool)=false:=by simpa using Qy
   rw[this,Bool.and_false]
  ·rcases hv with z|z
   ·rw[z c hc] at hF;cases hF
   ·show s.fg+(a8 (m:Int)).length=3
    omega
  ·show s.fg+(a8 (m:Int)).length≠0
   have:(a8 (m:Int)).length≠0:=fun z=>hw (List.length_eq_zero_iff.mp z)
   omega
theorem jL{s:S8}{dp:Nat}(hn:s.nm= .part∨s.nm= .dot∨s.nm= .bG)(hf:s.fg=0){u v:List Nat}(h:o5 u v):vd s dp u=some v:=by
 rcases h with ⟨rfl,h⟩ | ⟨rfl,h⟩
 ·cases v with
  |nil=>cases h
  |cons c r=>
   have:c=48:=by simpa using h
   subst this
   refine gR ?_
   unfold gf An
   rw[if_pos ⟨rfl,hn⟩,if_pos (.inr ⟨hf,rfl⟩)]
 ·have e:gf s dp 49=some (⟨s.nm,0,1,true⟩,dp):=by
   unfold gf An
   rw[if_pos ⟨rfl,hn⟩,if_neg (by rw[hf];decide),hf]
   rfl
  rw[cV e]
  cases v with
  |nil=>
   refine jd ?_
   rintro (z| ⟨_,_,z⟩)
   ·rcases hn with n|n|n<;>(have z:s.nm= .stop:=z;rw[n] at z;cases z)
   ·cases z
  |cons c r=>
   refine gR ?_
   unfold gf
   rw[if_neg (fun z=>by rw[h c rfl] at z;cases z.1),if_pos (.inl rfl)]
def uz(s:S8)(v:List Nat):Prop:=s.nm= .part∧s.al=false∧Ks s v∧∀c,v.head? =some c→eR c=true→s.sm=0∨s.fg≠0
def fI(s:S8)(u:List Nat):Prop:=s.al=false∧(s.nm= .start∧u.head? ≠some 101∨s.nm= .B7∨s.nm= .dot∧Ks s u∨s.nm= .part∧More u)
theorem fI.nm{s:S8}{u:List Nat}(h:fI s u):s.nm≠ .stop∧s.nm≠ .f'∧s.nm≠ .minus∧s.nm≠ .bG:=by
 rcases h.2 with z|z|z|z
 ·rw[z.1];decide
 ·rw[z];decide
 ·rw[z.1];decide
 ·rw[z.1];decide
theorem lV{s:S8}{dp c:Nat}{r:List Nat}(h:fI s (c::r))(hg:gB c=true):gf s dp c=some (⟨.part,2,0,false⟩,dp):=by
 obtain⟨n1,n2,n3,n4⟩:=h.nm
 have ha:=h.1
 unfold gf Ds
 rw[if_neg (fun z=>by rw[(EE hg).1] at z;cases z.1),if_neg (fun z=>by rcases z with z|z;rw[ha] at z;cases z;exact n1 z),if_neg (fun z=>by rcases z with z|z|z;exact n2 z;exact n3 z;exact n4 z),if_pos (.inl hg),if_pos hg]
theorem tX{sm dp c:Nat}(h:eR c=true):gf ⟨.part,sm+1,0,false⟩ dp c=some (⟨.part,sm,0,false⟩,dp):=by
 unfold gf Ds
 rw[if_neg (fun z=>by rw[(v8 h).1] at z;cases z.1),if_neg (by simp),if_neg (by simp),if_pos (.inr h),if_neg (by rw[(v8 h).2.1];simp),if_neg (by simp),if_pos ⟨rfl,Nat.succ_pos _,rfl⟩]
 rfl
theorem lX:∀(w v:List Nat) (sm dp:Nat),w.all eR=true→vd ⟨.part,sm+w.length,0,false⟩ dp (w++v)=vd ⟨.part,sm,0,false⟩ dp v
 | [],v,sm,dp,_=>rfl
 |c::r,v,sm,dp,h=>by
  rw[List.all_cons,Bool.and_eq_true] at h
  rw[List.length_cons,←Nat.add_assoc,List.cons_append,cV (tX h.1),lX r v sm dp h.2]
theorem rY{s:S8}{dp:Nat}{k w:List Nat}(h:fI s (k++w))(hk:jK k):vd s dp (k++w)=vd ⟨.part,3 - k.length,0,false⟩ dp w:=by
 obtain⟨c,r,rfl,hg,hs,hl⟩:=hk
 rw[List.cons_append] at h ⊢
 rw[cV (lV h hg)]
 have:=lX r w (2 - r.length) dp hs
 rw[show 2 - r.length+r.length=2 by omega] at this
 rw[this,List.length_cons]
 rw[show 3 - (r.length+1)=2 - r.length by omega]
theorem pA{s:S8}{dp:Nat}{u k v:List Nat}{n:Int}(h:fI s u)(a:gQ u k n v):∃s',vd s dp u=vd s' dp v∧uz s' v:=by
 obtain⟨w,rfl,hk,hs,hN⟩:=a
 rw[rY h hk]
 obtain⟨s',e,h1,h2,h3,h4⟩:=je (s:=⟨.part,3 - k.length,0,false⟩) (dp:=dp) (.inl rfl) rfl rfl hN
 refine⟨s',e,h1,h2,h3,fun c hc hS=>?_⟩
 rcases h4 with ⟨rfl,rfl⟩ |z
 ·rcases hs with z|z
  ·left
   show 3 - k.length=0
   omega
  ·rw[z c hc] at hS;cases hS
 ·exact .inr z
theorem pB{s:S8}{dp:Nat}{u v:List Nat}(h:fI s u)(h4:dp=4∨u.head? ≠some 40)(a:rV u v):vd s dp u=some v:=by
 rcases a with ⟨rfl,a⟩ | ⟨k,w,rfl,hk,hs,hN⟩
 ·obtain⟨n1,n2,n3,n4⟩:=h.nm
  have ha:=h.1
  cases v with
  |nil=>
   refine jd ?_
   rintro (z| ⟨z,_⟩)
   ·exact n1 z
   ·rcases h.2 with y|y|y|y
    ·rw[y.1] at z;cases z
    ·rw[y] at z;cases z
    ·rw[y.1] at z;cases z
    ·obtain⟨c,hc,_⟩:=y.2;cases hc
  |cons c r=>
   refine gR ?_
   have hg:gB c=false:=a c rfl
   unfold gf
   by_cases hF:cJ c=true
   ·by_cases hp:s.nm= .part∨s.nm= .dot∨s.nm= .bG
    ·rw[if_pos ⟨hF,hp⟩]
     unfold An
     rcases h.2 with y|y|y|y
     ·rw[y.1] at hp;rcases hp with z|z|z<;>cases z
     ·rw[y] at hp;rcases hp with z|z|z<;>cases z
     ·rw[if_pos (.inl (y.2 c rfl hF))]
     ·obtain⟨b,hb,rA⟩:=y.2
      have:c=b:=by simpa using hb
      subst this
      rcases rA with z|z
      ·rw[hg] at z;cases z
      ·exact absurd z (jq hF).2.2.1
    ·rw[if_neg (fun z=>hp z.2),if_neg (fun z=>by rcases z with z|z;rw[ha] at z;cases z;exact n1 z),if_neg (fun z=>by rcases z with z|z|z;exact n2 z;exact n3 z;exact n4 z),if_neg (by rw[hg,(jq hF).2.1];simp),if_neg (fun z=>(jq hF).2.2.1 z.1),if_neg (fun z=>(jq hF).2.2.2.1 z.2.1),if_neg (fun z=>by rcases z.2.1 with y|y;exact(jq hF).2.2.2.2.1 y;exact(jq hF).2.2.2.2.2.1 y)]
   ·rw[if_neg (fun z=>hF z.1),if_neg (fun z=>by rcases z with z|z;rw[ha] at z;cases z;exact n1 z),if_neg (fun z=>by rcases z with z|z|z;exact n2 z;exact n3 z;exact n4 z)]
    have OC:c≠40→s.nm≠ .part:=fun lS hp=>by
     rcases h.2 with y|y|y|y
     ·rw[y.1] at hp;cases hp
     ·rw[y] at hp;cases hp
     ·rw[y.1] at hp;cases hp
     ·obtain⟨b,hb,rA⟩:=y.2
      have:c=b:=by simpa using hb
      subst this
      rcases rA with z|z
      ·rw[hg] at z;cases z
      ·exact lS z
    by_cases hS:eR c=true
    ·rw[if_pos (.inr hS)]
     unfold Ds
     have hp:=OC (v8 hS).2.2
     rw[if_neg (by rw[hg];simp),if_neg,if_neg (fun z=>hp z.1)]
     rintro ⟨z1,z2⟩
     rcases h.2 with y|y|y|y
     ·exact y.2 (by rw[z2];rfl)
     ·rw[y] at z1;cases z1
     ·rw[y.1] at z1;cases z1
     ·rw[y.1] at z1;cases z1
    ·rw[if_neg (by rw[hg];rintro (z|z);cases z;exact hS z)]
     by_cases lS:c=40
     ·subst lS
      have d4:dp=4:=h4.elim id fun z=>absurd rfl z
      rw[if_neg (fun z=>by omega),if_neg (fun z=>by cases z.2.1),if_neg (fun z=>by rcases z.2.1 with y|y<;>cases y)]
     ·have hp:=OC lS
      rw[if_neg (fun z=>lS z.1),if_neg (fun z=>hp z.1),if_neg (fun z=>hp z.1)]
 ·rw[rY h hk]
  exact jL (.inl rfl) rfl hN
theorem uz.exp{s:S8}{v:List Nat}(h:uz s v)(m:More v):fI s v:=⟨h.2.1, .inr (.inr (.inr ⟨h.1,m⟩))⟩
theorem lY{p:List Nat→Tr→List Nat→Prop}{dp:Nat}(hp:∀s u t v,fI s u→p u t v→∃s',vd s dp u=vd s' dp v∧uz s' v){s:S8}{u:List Nat}(h:fI s u):∀{ts:List Tr} {v:List Nat},Sq p u ts v→∃s',vd s dp u=vd s' dp v∧uz s' v:=by
 intro ts v q
 induction q with
 |one t v a=>exact hp s u t v h a
 |snoc ts w t v _ m a ih=>
  obtain⟨s',e,c⟩:=ih
  obtain⟨s2,e2,c2⟩:=hp s' w t v (c.exp m) a
  exact⟨s2,e.trans e2,c2⟩
theorem qA{p:List Nat→Tr→List Nat→Prop}{b:List Nat→List Nat→Prop}{dp:Nat}(hp:∀s u t v,fI s u→p u t v→∃s',vd s dp u=vd s' dp v∧uz s' v)(hb:∀s u v,fI s u→b u v→vd s dp u=some v){s:S8}{u v:List Nat}(h:fI s u)(q:Dn p b u v):vd s dp u=some v:=by
 rcases q with q| ⟨ts,w,q,m,a⟩
 ·exact hb s u v h q
 ·obtain⟨s',e,c⟩:=lY hp h q
  rw[e]
  exact hb s' w v (c.exp m) a
theorem pD{s:S8}{dp:Nat}{r:List Nat}(h:fI s (40::r))(hd:dp<4):gf s dp 40=some (⟨.B7,0,0,false⟩,dp+1):=by
 obtain⟨n1,n2,n3,n4⟩:=h.nm
 have ha:=h.1
 unfold gf
 rw[if_neg (fun z=>by cases z.1),if_neg (fun z=>by rcases z with z|z;rw[ha] at z;cases z;exact n1 z),if_neg (fun z=>by rcases z with z|z|z;exact n2 z;exact n3 z;exact n4 z),if_neg (by decide),if_pos ⟨rfl,hd⟩]
theorem pE{s:S8}{dp:Nat}{r:List Nat}(h:uz s (41::r)):gf s (dp+1) 41=some (⟨.part,0,0,false⟩,dp):=by
 obtain⟨hn,ha,_⟩:=h
 unfold gf
 rw[if_neg (fun z=>by cases z.1),if_neg (by rw[ha,hn];decide),if_neg (by rw[hn];decide),if_neg (by decide),if_neg (fun z=>by cases z.1),if_pos ⟨hn,rfl,Nat.succ_pos _⟩]
 rfl
theorem uz.no{s:S8}{dp c:Nat}{r:List Nat}(h:uz s (c::r))(hm:¬More (c::r))(B0:c=41→dp=0)(h0:c=46∨c=94→dp≠0):gf s dp c=none:=by
 obtain⟨hn,ha,hF,hS⟩:=h
 have hg:gB c=false:=by
  cases e:gB c with
  |false=>rfl
  |true=>exact absurd ⟨c,rfl, .inl e⟩ hm
 have lS:c≠40:=fun z=>hm ⟨c,rfl, .inr z⟩
 unfold gf
 by_cases f:cJ c=true
 ·rw[if_pos ⟨f, .inl hn⟩]
  unfold An
  rw[if_pos (.inl (hF c rfl f))]
 ·rw[if_neg (fun z=>f z.1),if_neg (by rw[ha,hn];decide),if_neg (by rw[hn];decide)]
  by_cases hs:eR c=true
  ·rw[if_pos (.inr hs)]
   unfold Ds
   rw[if_neg (by rw[hg];simp),if_neg (by rw[hn];rintro ⟨z,_⟩;cases z),if_neg]
   rintro ⟨_,z1,z2⟩
   rcases hS c rfl hs with z|z
   ·omega
   ·exact z z2
  ·rw[if_neg (by rw[hg];rintro (z|z);cases z;exact hs z),if_neg (fun z=>lS z.1),if_neg (fun z=>by have:=B0 z.2.1;omega),if_neg (fun z=>h0 z.2.1 z.2.2)]
theorem nA:∀(d dp:Nat),dp+d=4→(∀s u t v,fI s u→gZ d u t v→∃s',vd s dp u=vd s' dp v∧uz s' v)∧(∀s u v,fI s u→BU d u v→vd s dp u=some v)
 |0,dp,hd=>⟨fun s u t v h ⟨k,n,_,a⟩=>pA h a,fun s u v h a=>pB h (.inl hd) a⟩
 |d+1,dp,hd=>by
  obtain⟨hG,hB⟩:=nA d (dp+1) (by omega)
  have e0:∀u':List Nat,fI ⟨.B7,0,0,false⟩ u':=fun u'=>⟨rfl, .inr (.inl rfl)⟩
  refine⟨fun s u t v h a=>?_,fun s u v h a=>?_⟩
  ·rcases a with ⟨_,k,n,_,a⟩ | ⟨u',ts,n,w,rfl,rfl,⟨q,_⟩,hN⟩
   ·exact pA h a
   ·obtain⟨s',e,c⟩:=lY hG (e0 u') q
    obtain⟨s2,e2,h1,h2,h3,h4⟩:=je (s:=⟨.part,0,0,false⟩) (dp:=dp) (.inl rfl) rfl rfl hN
    refine⟨s2,by rw[cV (pD h (by omega)),e,cV (pE c),e2],h1,h2,h3,fun b hb hS=>?_⟩
    rcases h4 with ⟨z,_⟩ |z
    ·rw[z];exact .inl rfl
    ·exact .inr z
  ·rcases a with ⟨lS,a⟩ | ⟨u',rfl,a⟩
   ·exact pB h (.inr lS) a
   ·rw[cV (pD h (by omega))]
    rcases a with a| ⟨ts,⟨q,hm⟩,B0⟩ | ⟨ts,w,⟨q,_⟩,hN⟩
    ·exact qA hG hB (e0 u') a
    ·obtain⟨s',e,c⟩:=lY hG (e0 u') q
     rw[e]
     cases v with
     |nil=>
      refine jd ?_
      rintro (z| ⟨_,z,_⟩)
      ·rw[c.1] at z;cases z
      ·omega
     |cons b r=>exact gR (c.no hm (fun z=>absurd (by rw[z];rfl) B0) fun _=>Nat.succ_ne_zero _)
    ·obtain⟨s',e,c⟩:=lY hG (e0 u') q
     rw[e,cV (pE c)]
     exact jL (.inl rfl) rfl hN
theorem jM{s:S8}{c:Nat}{r:List Nat}(h:uz s (c::r))(hc:c=46∨c=94):gf s 0 c=some (⟨if c=46 then .dot else .bG,0,0,false⟩,0):=by
 obtain⟨hn,ha,_⟩:=h
 have h1:cJ c=false∧gB c=false∧eR c=false∧c≠40∧c≠41:=by rcases hc with rfl|rfl<;>decide
 unfold gf
 rw[if_neg (fun z=>by rw[h1.1] at z;cases z.1),if_neg (by rw[ha,hn];decide),if_neg (by rw[hn];decide),if_neg (by rw[h1.2.1,h1.2.2.1];simp),if_neg (fun z=>h1.2.2.2.1 z.1),if_neg (fun z=>h1.2.2.2.2 z.2.1),if_pos ⟨hn,hc,rfl⟩]
theorem qB{s:S8}{u:List Nat}(h:fI s u):∀{ps:List de} {v:List Nat},pQ u ps v→(∃s',vd s 0 u=vd s' 0 v∧uz s' v)∧¬More v:=by
 obtain⟨hG,hB⟩:=nA 4 0 rfl
 intro ps v q
 induction q with
 |one ts v a=>exact⟨lY hG h a.1,a.2⟩
 |snoc ps w m w1 ts v _ n a ih=>
  obtain⟨⟨s',e,c⟩,_⟩:=ih
  obtain⟨s2,e2,h1,h2,h3,_⟩:=je (s:=⟨.dot,0,0,false⟩) (dp:=0) (.inr (.inl rfl)) rfl rfl n
  obtain⟨s3,e3,c3⟩:=lY hG (s:=s2) ⟨h2, .inr (.inr (.inl ⟨h1,h3⟩))⟩ a.1
  exact⟨⟨s3,by rw[e,cV (jM c (.inl rfl))];exact e2.trans e3,c3⟩,a.2⟩
def l4:S8:=⟨.start,0,0,false⟩
theorem B9:∀v:List Nat,vd l4 0 (101::v)=vd ⟨.f',0,0,false⟩ 0 v:=fun _=>cV rfl
theorem qC{u v:List Nat}{xs:List de}{n:Int}(h:yU u xs n v):vd l4 0 u=if v=[] then none else some v:=by
 rcases h with ⟨rfl,_⟩ | ⟨h0,w,q,k7,c⟩
 ·rw[B9,cV (s':=⟨.minus,0,0,false⟩) (d':=0) rfl,cV (s':=⟨.stop,0,0,false⟩) (d':=0) rfl]
  cases v with
  |nil=>rfl
  |cons c r=>
   rw[if_neg (by simp)]
   refine gR ?_
   unfold gf
   rw[if_neg (by rintro ⟨_,z|z|z⟩<;>cases z),if_pos (.inr rfl)]
 ·obtain⟨⟨s',e,cl⟩,hm⟩:=qB (s:=l4) ⟨rfl, .inl ⟨rfl,h0⟩⟩ q
  rw[e]
  rcases c with ⟨yZ,_,rfl⟩ | ⟨u',m,w2,rfl,hN,hs⟩
  ·cases v with
   |nil=>
    rw[if_pos rfl,vd,if_pos (.inr ⟨cl.1,rfl,cl.2.1⟩)]
   |cons b r=>
    rw[if_neg (by simp)]
    exact gR (cl.no hm (fun _=>rfl) fun z=>by
     rcases z with z|z
     ·exact absurd (by rw[z];rfl) k7
     ·exact absurd (by rw[z];rfl) yZ)
  ·obtain⟨s2,e2,h1,h2,h3,_⟩:=je (s:=⟨.bG,0,0,false⟩) (dp:=0) (.inr (.inr rfl)) rfl rfl hN
   rw[cV (jM cl (.inr rfl))]
   show vd ⟨.bG,0,0,false⟩ 0 u'=_
   rw[e2]
   have hs:∃b,w2=b::v∧(b=45∨b=43):=by
    rcases hs with ⟨z,_⟩ | ⟨z,_⟩
    ·exact⟨_,z, .inl rfl⟩
    ·exact⟨_,z, .inr rfl⟩
   obtain⟨b,rfl,hb⟩:=hs
   have hn:s2.nm= .bG:=h1
   have en:gf s2 0 b=some (⟨.stop,0,0,false⟩,0):=by
    unfold gf
    rw[if_neg (by rcases hb with rfl|rfl<;>(rintro ⟨z,_⟩;cases z)),if_neg (by rw[h2,hn];decide),if_pos (.inr (.inr hn)),hn,if_pos (by rcases hb with rfl|rfl;exact .inr ⟨rfl,rfl⟩;exact .inl rfl)]
    rfl
   rw[cV en]
   cases v with
   |nil=>rfl
   |cons c r=>
    rw[if_neg (by simp)]
    refine gR ?_
    unfold gf
    rw[if_neg (by rintro ⟨_,z|z|z⟩<;>cases z),if_pos (.inr rfl)]
theorem Ca{u v:List Nat}(h:J7 u v):vd l4 0 u=some v:=by
 have ro:∀(m:Nm) (c:Nat) (r:List Nat),(m= .f'∧c≠94∨m= .minus∧c≠45)→vd ⟨m,0,0,false⟩ 0 (c::r)=some (c::r):=fun m c r hh=>by
  refine gR ?_
  unfold gf
  rcases hh with ⟨rfl,z⟩ | ⟨rfl,z⟩
  ·rw[if_neg (by rintro ⟨_,z|z|z⟩<;>cases z),if_neg (by decide),if_pos (.inl rfl),if_neg (by rintro (y| ⟨y,_⟩);exact z y;cases y)]
  ·rw[if_neg (by rintro ⟨_,z|z|z⟩<;>cases z),if_neg (by decide),if_pos (.inr (.inl rfl)),if_neg (by rintro (y| ⟨y,_⟩);exact z y;cases y)]
 rcases h with h| ⟨h0,h⟩
 ·rcases h with ⟨rfl,h⟩ | ⟨rfl,h⟩
  ·rw[B9]
   cases v with
   |nil=>rfl
   |cons c r=>exact ro _ _ _ (.inl ⟨rfl,fun z=>h (by rw[z];rfl)⟩)
  ·rw[B9,cV (s':=⟨.minus,0,0,false⟩) (d':=0) rfl]
   cases v with
   |nil=>rfl
   |cons c r=>exact ro _ _ _ (.inr ⟨rfl,fun z=>h (by rw[z];rfl)⟩)
 ·obtain⟨hG,hB⟩:=nA 4 0 rfl
  have ex:fI l4 u:=⟨rfl, .inl ⟨rfl,h0⟩⟩
  rcases h with h| ⟨ps,w,q,h⟩ | ⟨ps,w,q,k7,h⟩
  ·exact qA hG hB ex h
  ·obtain⟨⟨s',e,cl⟩,_⟩:=qB ex q
   rw[e,cV (jM cl (.inl rfl))]
   show vd ⟨.dot,0,0,false⟩ 0 w=_
   rcases h with h| ⟨m,w1,n,h⟩
   ·exact jL (.inr (.inl rfl)) rfl h
   ·obtain⟨s2,e2,h1,h2,h3,_⟩:=je (s:=⟨.dot,0,0,false⟩) (dp:=0) (.inr (.inl rfl)) rfl rfl n
    rw[e2]
    exact qA hG hB ⟨h2, .inr (.inr (.inl ⟨h1,h3⟩))⟩ h
  ·obtain⟨⟨s',e,cl⟩,_⟩:=qB ex q
   obtain⟨u',rfl,h⟩:=h
   rw[e,cV (jM cl (.inr rfl))]
   show vd ⟨.bG,0,0,false⟩ 0 u'=_
   rcases h with h| ⟨m,n,xQ,B4⟩
   ·exact jL (.inr (.inr rfl)) rfl h
   ·obtain⟨s2,e2,h1,h2,h3,_⟩:=je (s:=⟨.bG,0,0,false⟩) (dp:=0) (.inr (.inr rfl)) rfl rfl n
    have hn:s2.nm= .bG:=h1
    rw[e2]
    cases v with
    |nil=>
     refine jd ?_
     rintro (z| ⟨z,_⟩)<;>(rw[hn] at z;cases z)
    |cons c r=>
     refine gR ?_
     unfold gf
     by_cases f:cJ c=true
     ·rw[if_pos ⟨f, .inr (.inr hn)⟩]
      unfold An
      rw[if_pos (.inl (h3 c rfl f))]
     ·rw[if_neg (fun z=>f z.1),if_neg (by rw[h2,hn];decide),if_pos (.inr (.inr hn)),hn,if_neg]
      rintro (z| ⟨_,z⟩)
      ·exact B4 (by rw[show c=43 from z];rfl)
      ·exact xQ (by rw[z];rfl)
theorem Cb{u v:List Nat}(h:Oo u v):vd l4 0 u=some v:=by
 rcases h with h| ⟨xs,n,h,hv⟩
 ·exact Ca h
 ·rw[qC h,if_neg hv]
theorem a6(a b:List Nat):(⟨a.toArray⟩:Str)++⟨b.toArray⟩=⟨(a++b).toArray⟩:=by
 show (⟨a.toArray++b.toArray⟩:Str)=_
 simp
theorem jN(d:Nat):∀ts:List Tr,jn (ts.map fun t=>(⟨(bD d t).toArray⟩:Str))=⟨(ts.flatMap (bD d)).toArray⟩
 | []=>rfl
 |t::ts=>by
  rw[List.map_cons,yF,jN d ts,a6,List.flatMap_cons]
theorem aH(a:List Nat):(⟨a.toArray⟩:Str).length=a.length:=by simp [Str.length]
theorem bO(n:Int):cD n=⟨(a8 n).toArray⟩:=by
 apply dJ
 simp [a8]
theorem fv{d:Nat}{ts:List Tr}{t:Tr}(h:t∈ts):(bD d t).length≤(ts.flatMap (bD d)).length:=by
 obtain⟨s,r,rfl⟩:=List.append_of_mem h
 rw[List.flatMap_append,List.flatMap_cons,List.length_append,List.length_append]
 omega
def jf(C G:Addr):Nat→Sp
 |0=>fun _ _ _ _=>False
 |d+1=>fun vs H Q _=>∃(g:Addr) (ts:List Tr) (n:Int),vs=[.ref g]∧dc C G (d+1) H g (.gr ts n)∧iQ (d+1) (.gr ts n)∧(bD (d+1) (.gr ts n)).length≤1000∧∀H',aK H H'→Q (.str ⟨(bD (d+1) (.gr ts n)).toArray⟩) H'
def gH(C G:Addr)(d:Nat):Sp:=fun vs H Q _=>∃(l:Addr) (ps:List Addr) (ts:List Tr),vs=[.ref l]∧H l=some (.lst (ps.map V.ref))∧Paired (dc C G d H) ps ts∧(∀t∈ts,iQ d t)∧(ts.flatMap (bD d)).length≤1000∧∀H',aK H H'→Q (.str ⟨(ts.flatMap (bD d)).toArray⟩) H'
theorem dc.same{C G:Addr}:∀{d:Nat} {H H':Hp} {p:Addr} {t:Tr},dc C G d H p t→aK H H'→dc C G d H' p t
 |0,H,H',p, .one k n,h,e=>dW.same h e
 |d+1,H,H',p, .one k n,h,e=>dW.same (C:=C) (k:=⟨k.toArray⟩) (n:=n) h e
 |0,_,_,_, .gr _ _,h,_=>h.elim
 |d+1,H,H',p, .gr ts n,⟨dx,l,ps,h1,h2,h3⟩,e=>⟨dx,l,ps,e _ _ h1,e _ _ h2,aR (fun a b h=>dc.same h e) h3⟩
theorem di{α β:Type}{p:α→β→Prop}:∀{as:List α} {bs:List β} {i:Nat} {a:α},Paired p as bs→as[i]? =some a→∃b,bs[i]? =some b∧p a b
 |_,_,_,_, .nil,h=>by simp at h
 |_,_,0,_, .cons h _,e=>⟨_,rfl,by have e:=Option.some.inj e;rw[←e];exact h⟩
 |_,_,i+1,_, .cons _ t,e=>di (i:=i) t e
theorem wa:ax ["parts"] ["parts"] (ak gv):=dO
theorem nB{k:List Nat}(h:jK k):(⟨k.toArray⟩:Str).length≤3:=by
 obtain⟨c,r,rfl,_,_,hl⟩:=h
 rw[aH,List.length_cons]
 omega
theorem kH(d:Nat)(D:Def K mg "parts_shown" "parts_shown" gv ["parts"])(T:m9 K mg C R G uK uN uB uE uM)(c1:cI P w K mg base 2 C "shown" ["self"] (m6 C))(c2:cI P w K mg base (2*d+2) G "shown" ["self"] (jf C G d)):bj P w K mg base (2*d+3) "parts_shown" ["parts"] (gH C G d):=by
 obtain⟨_,_,fw⟩:=c1
 obtain⟨_,_,er⟩:=c2
 refine D.e9 wa (fun vs H Q E h=>?_) (fun f bb A outer s H vs Q E hr h=>?_)
 ·obtain⟨l,ps,ts,rfl,_⟩:=h
  rfl
 ·obtain⟨l,ps,ts,rfl,hl,hP,bz,hz,q⟩:=h
  have big:(2000 :Nat) <sizeLine:=by decide
  have OD:=iC bz
  have lp:ps.length=ts.length:=Paired.length hP
  refine⟨_,(aq
     (aE (cH PySem.F.plainAttrs_str PySem.F.slot_str_join PySem.F.type_str_join ic aG (aa (ia (sc:=(ak gv)) (NX:=["parts"]) (N:=["part"]) (fr:=[none]) ⟨by rfl,by rfl,by decide+kernel,by decide+kernel,by decide+kernel,by rfl,by decide+kernel⟩ rfl rfl rfl (gm (pv 0)) (fun _ _ _ _=>(dF (i:=0) (show (["part"]:List Str).Nodup by decide+kernel) rfl (Or.inl rfl) (Or.inr rfl))) (fun _ _ _ _=>h9) (fun _ _ _ _=>(Bq (bF (pv 0) T.fj fw.m fw.ok (hr.mono (by omega)) fw.b .nil aM) (bF (pv 0) T.dM er.m er.ok (hr.mono (by omega)) er.b .nil aM)))) ai)))),?_⟩
  refine⟨rfl,_,rfl,l,rfl,⟨_,bC.of hl⟩,fun D hD=>eF (K:=K) (a:=l) (D:=D) (xs:=ps.map V.ref) (fun i σ H'=>∃v:Option V,σ=[v]∧aK H H'∧H' D=some (.lst ((ts.take i).map fun t=>V.str ⟨(bD d t).toArray⟩)))
   ?_ (fun i σ H' _ ⟨_,_,e,_⟩=>bC.of (e _ _ hl)) ?_ ?_⟩
  ·exact⟨none,rfl,aK.new hD,ag⟩
  ·rintro i v σ H' hi ⟨v',rfl,e,jO⟩ N hN
   rw[List.getElem?_map] at hi
   obtain⟨p,hp,rfl⟩:∃p,ps[i]? =some p∧v=V.ref p:=by
    cases hh:ps[i]? with
    |none=>rw[hh] at hi;cases hi
    |some p=>rw[hh] at hi;exact⟨p,rfl,(Option.some.inj hi).symm⟩
   obtain⟨t,ht,hT⟩:=di hP hp
   have hT:=hT.same e
   have n8:=bz t (List.mem_of_getElem? ht)
   have lt:=Nat.le_trans (fv (d:=d) (List.mem_of_getElem? ht)) hz
   have fin:∀c9,aK H' c9→∃ys,c9 D=some (.lst ys)∧ys.length<sizeLine∧N [some (V.ref p)] (upd c9 D (.lst (ys++[V.str ⟨(bD d t).toArray⟩]))):=fun c9 e'=>by
    refine⟨_,e' _ _ jO,?_,hN _ _ ⟨_,rfl,fun b o z=>?_,?_⟩⟩
    ·rw[List.length_map]
     have:(ts.take i).length≤ts.length:=List.length_take_le' _ _
     omega
    ·rw[ah (af z hD)]
     exact e' _ _ (e _ _ z)
    ·rw[ag,List.take_add_one,ht,List.map_append]
     rfl
   cases t with
   |one k n=>
    have wb:jK k∧1≤n∧n≤999:=by cases d<;>exact n8
    have hA:dW C H' p ⟨k.toArray⟩ n:=by cases d<;>exact hT
    have et:(⟨(bD d (.one k n)).toArray⟩:Str)=⟨k.toArray⟩++cD n:=by
     rw[bO,a6]
     cases d<;>rfl
    obtain⟨dx,JC⟩:=id hA
    have:=fin H' (aK.refl _)
    rw[et] at this
    exact Or.inl ⟨_,rfl,p,dx,_,rfl,JC,yE _ _ (by decide+kernel) (by decide+kernel),p,_,n,rfl,hA,nB wb.1,wb.2.1,wb.2.2,this⟩
   |gr us n=>
    cases d with
    |zero=>exact n8.elim
    |succ d=>
     obtain⟨dx,l',Io,h1,h2,h3⟩:=id hT
     exact Or.inr ⟨_,rfl,p,dx,_,rfl,h1,oV _ _ (by decide+kernel) (by decide+kernel),p,us,n,rfl,hT,n8,lt,fin⟩
  ·rintro σ H' ⟨v,rfl,e,jO⟩
   rw[List.length_map,lp,List.take_length] at jO
   have es:((ts.map fun t=>(⟨(bD d t).toArray⟩:Str)).map (·.length)).sum=(ts.flatMap (bD d)).length:=by
    rw[List.map_map,List.length_flatMap]
    congr 1
   refine⟨_,D,ts.map (fun t=>⟨(bD d t).toArray⟩),rfl,rfl,bC.of (by rw[jO,List.map_map];rfl),?_,?_⟩
   ·have e0:("" :Str).length=0:=by decide+kernel
    rw[es,e0]
    omega
   ·rw[join_eq,jN]
    exact q _ e
theorem pF:ax ["self"] ["self"] (ak gw):=dO
theorem qD(D:bL K G "shown" "Group.shown" gw ["self"]):cI P w K mg base 2 G "shown" ["self"] (jf C G 0):=
 D.e9 (k:=1) pF (fun vs H Q E h=>h.elim) (fun f bb A outer s H vs Q E hr h=>h.elim)
theorem qF(d:Nat)(D:bL K G "shown" "Group.shown" gw ["self"])(T:m9 K mg C R G uK uN uB uE uM)(c1:bj P w K mg base (2*d+3) "parts_shown" ["parts"] (gH C G d))(c2:bj P w K mg base 1 "count_shown" ["count"] dX):cI P w K mg base (2*d+4) G "shown" ["self"] (jf C G (d+1)):=by
 obtain⟨_,_,bB⟩:=c1
 obtain⟨_,_,aN⟩:=c2
 refine D.e9 pF (fun vs H Q E h=>?_) (fun f bb A outer s H vs Q E hr h=>?_)
 ·obtain⟨g,ts,n,rfl,_⟩:=h
  rfl
 ·obtain⟨g,ts,n,rfl,⟨dx,l,ps,hg,hl,hP⟩,⟨gP,bz,n1,n2⟩,hz,q⟩:=h
  have big:(2000 :Nat)≤sizeLine:=by decide
  have hz:(40::(ts.flatMap (bD d)++41::a8 n)).length≤1000:=hz
  rw[List.length_cons,List.length_append,List.length_cons] at hz
  have e1:("(" :Str).length=1:=by decide+kernel
  have e2:(")" :Str).length=1:=by decide+kernel
  have lf:(cD n).length=(a8 n).length:=by rw[bO,aH]
  have ee:(⟨(bD (d+1) (.gr ts n)).toArray⟩:Str)="(" ++⟨(ts.flatMap (bD d)).toArray⟩++")" ++cD n:=by
   rw[bO,Af,Ia]
   rw[show (⟨#[40]⟩:Str)=⟨[40].toArray⟩ from rfl,show (⟨#[41]⟩:Str)=⟨[41].toArray⟩ from rfl,a6,a6,a6]
   simp [bD]
  rw[ee] at q
  refine⟨_,(aq
     (aE (az aL (az aL (az aL (aV (v:= .str "(") rfl T.dk ⟨_,rfl⟩) (aF bB.ok (hr.mono (by omega)) rfl bB.g bB.kp bB.b .nil aM (aa (bu (pv 0) rfl) ai))) (aV (v:= .str ")") rfl T.jm ⟨_,rfl⟩)) (aF aN.ok (hr.mono (by omega)) rfl aN.g aN.kp aN.b .nil aM (aa (bu (pv 0) rfl) ai))))),?_⟩
  refine⟨_,rfl,g,G,dx,_,_,rfl,hg,T.dM,T.lJ,jk _ _,l,ps,ts,rfl,hl,hP,bz,by omega,fun H1 s1=>⟨_,_,rfl,rfl,?_,_,_,rfl,rfl,?_,_,rfl,g,G,dx,_,_,rfl,s1 _ _ hg,T.dM,T.lK,jl _ _,n,rfl,n1,n2,_,_,rfl,rfl,?_,q _ s1⟩⟩
  ·rw[e1,aH]
   omega
  ·rw[bc,e1,e2,aH]
   omega
  ·rw[bc,bc,e1,e2,aH,lf]
   omega
theorem l6(D1:Def K mg "parts_shown" "parts_shown" gv ["parts"])(D2:bL K G "shown" "Group.shown" gw ["self"])(T:m9 K mg C R G uK uN uB uE uM)(c1:cI P w K mg base 2 C "shown" ["self"] (m6 C))(c2:bj P w K mg base 1 "count_shown" ["count"] dX):∀d:Nat,bj P w K mg base (2*d+3) "parts_shown" ["parts"] (gH C G d)
 |0=>kH 0 D1 T c1 (qD D2)
 |d+1=>kH (d+1) D1 T c1 (by rw[show 2*(d+1)+2=2*d+4 by omega];exact qF d D2 T (l6 D1 D2 T c1 c2 d) c2)
variable {uC uP uI uD uL uT:Tok}
def gS(C G Pc:Addr)(d:Nat):Sp:=fun vs H Q _=>∃(q:Addr) (x:de),vs=[.ref q]∧ja C G Pc d H q x∧oJ d x∧(dh d x).length≤1000∧∀H',aK H H'→Q (.str ⟨(dh d x).toArray⟩) H'
theorem nC:ax ["self"] ["self"] (ak d7):=dO
theorem kI(d:Nat)(D:bL K Pc "shown" "Piece.shown" d7 ["self"])(T:jv K mg C R G Pc Fo uK uN uB uE uM uC uP uI uD uL uT)(c1:bj P w K mg base (2*d+3) "parts_shown" ["parts"] (gH C G d))(c2:bj P w K mg base 1 "count_shown" ["count"] dX):cI P w K mg base (2*d+4) Pc "shown" ["self"] (gS C G Pc d):=by
 obtain⟨_,_,bB⟩:=c1
 obtain⟨_,_,aN⟩:=c2
 refine D.e9 nC (fun vs H Q E h=>?_) (fun f bb A outer s H vs Q E hr h=>?_)
 ·obtain⟨p,x,rfl,_⟩:=h
  rfl
 ·obtain⟨p,x,rfl,⟨dx,l,ps,hp,hl,hP⟩,⟨gP,bz,n1,n2⟩,hz,q⟩:=h
  have big:(2000 :Nat)≤sizeLine:=by decide
  have OE:=hz
  unfold dh at OE q
  rw[List.length_append] at OE
  have lf:(cD x.1).length=(a8 x.1).length:=by rw[bO,aH]
  rw[←a6,←bO] at q
  refine⟨_,(aq
     (aE (az aL (aF aN.ok (hr.mono (by omega)) rfl aN.g aN.kp aN.b .nil aM (aa (bu (pv 0) rfl) ai)) (aF bB.ok (hr.mono (by omega)) rfl bB.g bB.kp bB.b .nil aM (aa (bu (pv 0) rfl) ai))))),?_⟩
  refine⟨_,rfl,p,Pc,dx,_,_,rfl,hp,T.cA,T.lN,jl _ _,x.1,rfl,n1,n2,_,rfl,p,Pc,dx,_,_,rfl,hp,T.cA,T.lM,jk _ _,l,ps,x.2,rfl,hl,hP,bz,by omega,fun H1 e1=>⟨_,_,rfl,rfl,?_,q _ e1⟩⟩
  rw[lf,aH]
  omega
def l7:Sp:=fun vs H Q _=>∃n:Int,vs=[.int n]∧ -999≤n∧n≤999∧Q (.str ⟨(fH n).toArray⟩) H
theorem nD{n:Int}(h1: -999≤n)(h2:n≤999):(fH n).length≤5:=by
 unfold fH
 split
 ·exact Nat.zero_le _
 ·rename_i h0
  have:=eL (n:=if n<0 then -n else n) (by split<;>omega) (by split<;>omega)
  rw[bO,aH] at this
  rw[List.length_cons,List.length_append]
  simp
  omega
theorem k8:ax ["charge"] ["charge"] (ak dH):=dO
theorem jg(D:Def K mg "charge_shown" "charge_shown" dH ["charge"])(T:jv K mg C R G Pc Fo uK uN uB uE uM uC uP uI uD uL uT)(c1:bj P w K mg base 1 "count_shown" ["count"] dX):bj P w K mg base 2 "charge_shown" ["charge"] l7:=by
 obtain⟨_,_,aN⟩:=c1
 refine D.e9 k8 (fun vs H Q E h=>?_) (fun f bb A outer s H vs Q E hr h=>?_)
 ·obtain⟨n,rfl,_⟩:=h
  rfl
 ·obtain⟨n,rfl,h1,h2,q⟩:=h
  have big:(2000 :Nat)≤sizeLine:=by decide
  refine⟨_,(aj
     (a7 (aA bN (pv 0) ao (aJ _))
      (aq
       (aE aG))
      aQ)
    (aq
     (aE (az aL (az aL (aV (v:= .str "^") rfl T.eo ⟨_,rfl⟩) (aF aN.ok (hr.mono (by decide)) rfl aN.g aN.kp aN.b .nil aM (aa (aS ou rfl T.Ah vn (aa (pv 0) ai)) ai))) (oj (aA fP (pv 0) ao (aJ _)) (aV (v:= .str "+") rfl T.vO ⟨_,rfl⟩) (aV (v:= .str "-") rfl T.ni ⟨_,rfl⟩)))))),?_⟩
  refine⟨_,rfl,rfl,_,rfl,dG (fun e=>?_) fun e=>?_⟩
  ·have e:n=0:=by simpa using e
   subst e
   have e0:(⟨(fH 0).toArray⟩:Str)="" :=by decide+kernel
   rw[e0] at q
   exact q
  ·have e:¬n=0:=by simpa using e
   have a1:1≤(if n<0 then -n else n):=by split<;>omega
   have a2:(if n<0 then -n else n)≤999:=by split<;>omega
   have z:=eL a1 a2
   have e1:("^" :Str).length=1:=by decide+kernel
   refine⟨_,rfl,n,rfl,_,rfl,a1,a2,_,_,rfl,rfl,by rw[e1];omega,_,rfl,_,_,rfl,rfl,?_⟩
   have ec:(⟨(fH n).toArray⟩:Str)="^" ++cD (if n<0 then -n else n)++(if 0<n then ("+" :Str) else ("-" :Str)):=by
    unfold fH
    rw[if_neg e,bO,Ag,J4,Ez]
    rw[show (⟨#[94]⟩:Str)=⟨[94].toArray⟩ from rfl,a6]
    by_cases hp:0<n
    ·rw[if_pos hp,if_pos hp,show (⟨#[43]⟩:Str)=⟨[43].toArray⟩ from rfl,a6]
     simp
    ·rw[if_neg hp,if_neg hp,show (⟨#[45]⟩:Str)=⟨[45].toArray⟩ from rfl,a6]
     simp
   rw[ec] at q
   refine⟨_,rfl,dG (fun e=>?_) fun e=>?_⟩
   ·have e:0<n:=by simpa using e
    rw[if_pos e] at q
    refine⟨_,_,rfl,rfl,?_,q⟩
    have e2:("+" :Str).length=1:=by decide+kernel
    rw[bc,e1,e2]
    omega
   ·have e:¬0<n:=by simpa using e
    rw[if_neg e] at q
    refine⟨_,_,rfl,rfl,?_,q⟩
    have e2:("-" :Str).length=1:=by decide+kernel
    rw[bc,e1,e2]
    omega
def l8(C G Pc Fo:Addr)(d:Nat):Sp:=fun vs H Q _=>∃(f:Addr) (xs:List de) (n:Int),vs=[.ref f]∧vQ C G Pc Fo d H f xs n∧xO d xs n∧(wL d xs n).length≤1000∧∀H',aK H H'→Q (.str ⟨(wL d xs n).toArray⟩) H'
theorem jh(d:Nat):∀(x:de) (r:List de),Str.join "." ((x::r).map fun y=>(⟨(dh d y).toArray⟩:Str))=⟨(dh d x++a5 d r).toArray⟩
 |x,[]=>by
  show (⟨(dh d x).toArray⟩:Str)=⟨(dh d x++[]).toArray⟩
  rw[List.append_nil]
 |x,y::r=>by
  show (⟨(dh d x).toArray⟩:Str)++"." ++Str.join "." ((y::r).map fun y=>(⟨(dh d y).toArray⟩:Str))=⟨(dh d x++(46::dh d y++a5 d r)).toArray⟩
  rw[jh d y r,Dm,show (⟨#[46]⟩:Str)=⟨[46].toArray⟩ from rfl,a6,a6]
  simp
theorem ja.same{C G Pc:Addr}{d:Nat}{H H':Hp}{p:Addr}{x:de}(h:ja C G Pc d H p x)(e:aK H H'):ja C G Pc d H' p x:=
 let ⟨dx,l,ps,h1,h2,h3⟩:=h;⟨dx,l,ps,e _ _ h1,e _ _ h2,aR (fun _ _ h=>dc.same h e) h3⟩
theorem wc:ax ["self"] ["self"] (ak il):=dO
theorem qG(d:Nat)(D:bL K Fo "shown" "Formula.shown" il ["self"])(T:jv K mg C R G Pc Fo uK uN uB uE uM uC uP uI uD uL uT)(c1:cI P w K mg base (2*d+4) Pc "shown" ["self"] (gS C G Pc d))(c2:bj P w K mg base 2 "charge_shown" ["charge"] l7):cI P w K mg base (2*d+5) Fo "shown" ["self"] (l8 C G Pc Fo d):=by
 obtain⟨_,_,eA⟩:=c1
 obtain⟨_,_,cS⟩:=c2
 refine D.e9 wc (fun vs H Q E h=>?_) (fun f bb A outer s H vs Q E hr h=>?_)
 ·obtain⟨f,xs,n,rfl,_⟩:=h
  rfl
 ·obtain⟨f,xs,n,rfl,⟨dx,l,ps,hf,hl,hP⟩,bz,hz,q⟩:=h
  have big:(3000 :Nat) <sizeLine:=by decide
  have lp:ps.length=xs.length:=Paired.length hP
  refine⟨_,(aj
     (a7 (pV (oq (bu (pv 0) rfl) (fun _=>rfl)))
      (aq
       (aE (aV (v:= .str "e^-") rfl T.gX ⟨_,rfl⟩)))
      aQ)
    (aq
     (aE (az aL (cH PySem.F.plainAttrs_str PySem.F.slot_str_join PySem.F.type_str_join ic (aV (v:= .str ".") rfl T.fZ ⟨_,rfl⟩) (aa (ia (sc:=(ak il)) (NX:=["self"]) (N:=["piece"]) (fr:=[none]) ⟨by rfl,by rfl,by decide+kernel,by decide+kernel,by decide+kernel,by rfl,by decide+kernel⟩ rfl rfl rfl (gm (bu (pv 0) rfl)) (fun _ _ _ _=>(dF (i:=0) (show (["piece"]:List Str).Nodup by decide+kernel) rfl (Or.inl rfl) (Or.inr rfl))) (fun _ _ _ _=>h9) (fun _ _ _ _=>(bF (pv 0) T.cA eA.m eA.ok (hr.mono (by omega)) eA.b .nil aM))) ai)) (aF cS.ok (hr.mono (by omega)) rfl cS.g cS.kp cS.b .nil aM (aa (bu (pv 0) rfl) ai)))))),?_⟩
  refine⟨_,rfl,f,Fo,dx,_,_,rfl,hf,T.bw,T.gW,iD _ _,_, .inl ⟨_,bC.of hl,rfl⟩,?_⟩
  cases xs with
  |nil=>
   have hp:ps=[]:=List.length_eq_zero_iff.mp lp
   subst hp
   refine cO ?_
   have e0:(⟨(wL d [] n).toArray⟩:Str)="e^-" :=by rw[eE];rfl
   rw[e0] at q
   exact q _ (aK.refl _)
  |cons x0 r0=>
   obtain⟨Kt,Cc,n1,n2⟩:=bz
   have Ig:(!(ps.map V.ref).isEmpty)=true:=by
    cases ps with
    |nil=>simp at lp
    |cons _ _=>rfl
   rw[Ig]
   refine bZ ?_
   have zc:=nD n1 n2
   have ez:wL d (x0::r0) n=(dh d x0++a5 d r0)++fH n:=by
    show x0.2.flatMap (bD d)++(a5 d r0++fH n)=_
    unfold dh
    rw[Kt,show a8 1=[] from rfl,List.nil_append,List.append_assoc]
   rw[ez,List.length_append,List.length_append] at hz
   have Qz:=nu d r0
   have each:∀y∈x0::r0,(dh d y).length≤1000:=fun y hy=>by
    rcases List.mem_cons.mp hy with rfl|hy
    ·omega
    ·obtain⟨a,b,rfl⟩:=List.append_of_mem hy
     have:(a5 d (a++y::b)).length=(a5 d a).length+(46::dh d y++a5 d b).length:=by
      unfold a5
      rw[List.flatMap_append,List.length_append,List.flatMap_cons]
     rw[this,List.length_append,List.length_cons] at hz
     omega
   refine⟨rfl,_,rfl,f,Fo,dx,_,_,rfl,hf,T.bw,T.gW,iD _ _,l,rfl,⟨_,bC.of hl⟩,fun D hD=>eF (K:=K) (a:=l) (D:=D) (xs:=ps.map V.ref) (fun i σ H'=>∃v:Option V,σ=[v]∧aK H H'∧H' D=some (.lst (((x0::r0).take i).map fun x=>V.str ⟨(dh d x).toArray⟩)))
    ?_ (fun i σ H' _ ⟨_,_,e,_⟩=>bC.of (e _ _ hl)) ?_ ?_⟩
   ·exact⟨none,rfl,aK.new hD,ag⟩
   ·rintro i v σ H' hi ⟨v',rfl,e,jO⟩ N hN
    rw[List.getElem?_map] at hi
    obtain⟨p,hp,rfl⟩:∃p,ps[i]? =some p∧v=V.ref p:=by
     cases hh:ps[i]? with
     |none=>rw[hh] at hi;cases hi
     |some p=>rw[hh] at hi;exact⟨p,rfl,(Option.some.inj hi).symm⟩
    obtain⟨y,hy,hY⟩:=di hP hp
    have hY:=hY.same e
    obtain⟨dj,l',Io,h1,h2⟩:=id hY
    have my:=List.mem_of_getElem? hy
    refine⟨_,rfl,p,dj,_,rfl,h1,oV _ _ (by decide+kernel) (by decide+kernel),p,y,rfl,hY,Cc y my,each y my,fun c9 e'=>⟨_,e' _ _ jO,?_,hN _ _ ⟨_,rfl,fun b o z=>?_,?_⟩⟩⟩
    ·rw[List.length_map]
     have:((x0::r0).take i).length≤(x0::r0).length:=List.length_take_le' _ _
     rw[List.length_cons] at this
     omega
    ·rw[ah (af z hD)]
     exact e' _ _ (e _ _ z)
    ·rw[ag,List.take_add_one,hy,List.map_append]
     rfl
   ·rintro σ H' ⟨v,rfl,e,jO⟩
    rw[List.length_map,lp,List.take_length] at jO
    have ej:Txt.join "." ((x0::r0).map fun y=>(⟨(dh d y).toArray⟩:Str))=⟨(dh d x0++a5 d r0).toArray⟩:=by
     have:=PyProof.Rows.join_closes (sep:=".") (sep':=".") (ys:=(x0::r0).map fun y=>(⟨(dh d y).toArray⟩:Str)) rfl
     rw[←jh]
     simpa using this
    have es:(((x0::r0).map fun y=>(⟨(dh d y).toArray⟩:Str)).map (·.length)).sum≤(dh d x0).length+(a5 d r0).length:=by
     rw[List.map_map,List.map_cons,List.sum_cons]
     have:∀r:List de,(r.map ((·.length)∘fun y=>(⟨(dh d y).toArray⟩:Str))).sum≤(a5 d r).length:=fun r=>by
      induction r with
      |nil=>exact Nat.le_refl _
      |cons y r ih=>
       show (⟨(dh d y).toArray⟩:Str).length+(r.map ((·.length)∘fun y=>(⟨(dh d y).toArray⟩:Str))).sum≤(46::dh d y++a5 d r).length
       rw[aH,List.length_append,List.length_cons]
       omega
     have h2:=this r0
     show (⟨(dh d x0).toArray⟩:Str).length+_≤_
     rw[aH]
     omega
    refine⟨_,D,(x0::r0).map (fun y=>⟨(dh d y).toArray⟩),rfl,rfl,bC.of (by rw[jO,List.map_map];rfl),?_,?_⟩
    ·have e0:("." :Str).length=1:=by decide+kernel
     rw[e0,List.length_map,List.length_cons]
     omega
    ·rw[ej]
     refine⟨_,rfl,f,Fo,dx,_,_,rfl,e _ _ hf,T.bw,T.kr,nj _ _,n,rfl,n1,n2,_,_,rfl,rfl,?_,?_⟩
     ·rw[aH,aH,List.length_append]
      omega
     ·rw[a6,←ez]
      exact q _ e
theorem nE:ax ["count"] ["count"] (ak d6):=dO
theorem kJ(D:Def K mg "count_shown" "count_shown" d6 ["count"])(T:fX K mg C):bj P w K mg base 1 "count_shown" ["count"] dX:=by
 refine D.e9 nE (fun vs H Q E h=>?_) (fun f bb A outer s H vs Q E hr h=>?_)
 ·obtain⟨n,rfl,_⟩:=h
  rfl
 ·obtain⟨n,rfl,h1,h2,k⟩:=h
  refine⟨_,(aj
     (a7 (aA bN (pv 0) ao (aJ _))
      (aq
       (aE aG))
      aQ)
    (aq
     (aE (cW hV rfl T.Ad vk (aa (pv 0) ai))))),?_⟩
  refine⟨_,rfl,rfl,_,rfl,dG (fun e=>?_) fun e=>?_⟩
  ·have e:n=1:=by simpa using e
   subst e
   exact k
  ·have e:¬n=1:=by simpa using e
   refine⟨_,rfl,_,rfl,lD (by omega) (by omega),?_⟩
   unfold cD at k
   rw[if_neg e] at k
   exact k
theorem tY:ax ["_law_count_here"] ["_law_count_here"] (ak iw):=dO
theorem qH(D:Def K mg "_law_figures" "_law_figures" iw ["_law_count_here"])(T:fX K mg C):bj P w K mg base 1 "_law_figures" ["_law_count_here"] dX:=by
 refine D.e9 tY (fun vs H Q E h=>?_) (fun f bb A outer s H vs Q E hr h=>?_)
 ·obtain⟨n,rfl,_⟩:=h
  rfl
 ·obtain⟨n,rfl,h1,h2,k⟩:=h
  refine⟨_,(aj
     (a7 (aA bN (pv 0) ao (aJ _))
      (aq
       (aE aG))
      aQ)
    (aq
     (aE (cW hV rfl T.Ad vk (aa (pv 0) ai))))),?_⟩
  refine⟨_,rfl,rfl,_,rfl,dG (fun e=>?_) fun e=>?_⟩
  ·have e:n=1:=by simpa using e
   subst e
   exact k
  ·have e:¬n=1:=by simpa using e
   refine⟨_,rfl,_,rfl,lD (by omega) (by omega),?_⟩
   unfold cD at k
   rw[if_neg e] at k
   exact k
theorem Cd:ax ["self","kind","count"] ["self","kind","count"] (ak eK):=dO
theorem y9(D:iY K C "Atom.__init__" eK ["self","kind","count"] [1])(T:fX K mg C):eD P w K mg base 1 C ["self","kind","count"] [1] (vD C):=by
 refine D.e9 Cd (fun vs H Q E h=>?_) (fun f bb A outer s H vs Q E hr h=>?_)
 ·obtain⟨p,dx,k,n,rfl,_⟩:=h
  rfl
 ·obtain⟨p,dx,k,n,rfl,hp,q⟩:=h
  refine⟨_,(aj
     (eh (pv 0) (pv 1) rfl)
    (aq
     (eh (pv 0) (pv 2) rfl))),?_⟩
  refine⟨_,rfl,_,rfl,p,C,dx,[],rfl,hp,T.fj,T.rP,(by show 0<1000;decide),_,rfl,_,rfl,p,C,dx,_,rfl,ag,T.fj,T.oX,(by show 1<1000;decide),?_⟩
  refine q _ ag fun b o e hb=>?_
  rw[ah hb,ah hb]
  exact e
theorem za:ax ["self"] ["self"] (ak mS):=dO
theorem wd(D:bL K C "shown" "Atom.shown" mS ["self"])(T:fX K mg C)(c1:bj P w K mg base 1 "count_shown" ["count"] dX):cI P w K mg base 2 C "shown" ["self"] (m6 C):=by
 obtain⟨_,_,aN⟩:=c1
 refine D.e9 za (fun vs H Q E h=>?_) (fun f bb A outer s H vs Q E hr h=>?_)
 ·obtain⟨p,k,n,rfl,_⟩:=h
  rfl
 ·obtain⟨p,k,n,rfl,⟨dx,hp⟩,hk,h1,h2,q⟩:=h
  refine⟨_,(aq
     (aE (az aL (bu (pv 0) rfl) (aF aN.ok (hr.mono (by decide)) rfl aN.g aN.kp aN.b .nil aM (aa (bu (pv 0) rfl) ai))))),?_⟩
  refine⟨_,rfl,p,C,dx,_,_,rfl,hp,T.fj,T.rP,tG _ _,_,rfl,p,C,dx,_,_,rfl,hp,T.fj,T.oX,qo _ _,n,rfl,h1,h2,_,_,rfl,rfl,?_,q⟩
  have:=eL h1 h2
  have:(100 :Nat)≤sizeLine:=by decide
  omega
theorem we:ax ["_law_script","_law_k"] ["_law_script","_law_k"] (ak jG):=dO
theorem qI(D:Def K mg "_law_cell_at" "_law_cell_at" jG ["_law_script","_law_k"])(T:fX K mg C):bj P w K mg base 1 "_law_cell_at" ["_law_script","_law_k"] (oW K):=by
 refine D.e9 we (fun vs H Q E h=>?_) (fun f bb A outer s H vs Q E hr h=>?_)
 ·obtain⟨a,ns,k,rfl,_⟩:=h
  rfl
 ·obtain⟨a,ns,k,rfl,hS,hl,q⟩:=h
  refine⟨_,(aj
     (a7 (aA om (pv 1) (aS cg rfl T.dB cw (aa (pv 0) ai)) (aJ _))
      (aq
       (aE (bh bJ (pv 0) (pv 1) (fun _ _=>rfl))))
      aQ)
    (aq
     (aE ao))),?_⟩
  refine⟨_,rfl,_,rfl,a,_,rfl, .inl hS,_,_,rfl,rfl,_,rfl,dG (fun e=>?_) fun e=>?_⟩
  ·have e:k<ns.length:=by simpa using e
   exact⟨_,rfl,_,rfl,a,_,_,V.int ns[k],rfl,rfl,hS,rm (by rw[List.getElem?_map,List.getElem?_eq_getElem e];rfl),q _⟩
  ·exact q 0
theorem iH:ax ["_law_cell","_law_prime","_law_digits","_law_step","_law_number"] ["_law_cell","_law_prime"] (ak mV):=dO
theorem qJ{j:Nat}{p:Int}(h:i9[j]? =some p):0<p:=by
 have all:∀q∈i9,(0 :Int) <q:=by decide
 exact all p (List.mem_of_getElem? h)
theorem tZ:∀j:Nat,j<7→∀p,i9[j]? =some p→(i9.map V.int).findIdx? (fun z=>u6 z (.int p))=some j:=by
 intro j hj p hp
 match j,hj with
 |0,_=>cases hp;rfl
 |1,_=>cases hp;rfl
 |2,_=>cases hp;rfl
 |3,_=>cases hp;rfl
 |4,_=>cases hp;rfl
 |5,_=>cases hp;rfl
 |6,_=>cases hp;rfl
theorem wg(D:Def K mg "_law_mixed" "_law_mixed" mV ["_law_cell","_law_prime"])(T:fX K mg C):bj P w K mg base 1 "_law_mixed" ["_law_cell","_law_prime"] rN:=by
 refine D.e9 iH (fun vs H Q E h=>?_) (fun f bb A outer s H vs Q E hr h=>?_)
 ·obtain⟨c,p,j,rfl,_⟩:=h
  rfl
 ·obtain⟨c,p,j,rfl,hj,hp,q⟩:=h
  have pp:=qJ hp
  refine⟨_,(aj
     (a7 (PW.pt (fK (aA bN (az bg (pv 0) ao) ao (aJ _)) (eU (aA fP (pv 0) (az A9 ao ao) (aJ _)))))
      (aj
       (aP (i:=2) iH.nd rfl (Or.inl rfl) (az cf (pv 0) ao))
      (aj
       (mw PassesOwn.never rfl (lj rfl T.rQ (aa (cH PySem.F.plainAttrs_list PySem.F.slot_list_index PySem.F.type_list_index vj (bH (rq (.int (.int (.int (.int (.int (.int (.int .nil))))))))) (aa (pv 1) ai)) ai)) (dF (i:=3) iH.nd rfl (Or.inl rfl))
        (aq
         (aP (i:=2) iH.nd rfl (Or.inl rfl) (az cf (pv 2) ao))))
      (aq
       (aE (az bg (az bg (pv 2) ao) (pv 1))))))
      aQ)
    (aj
     (aP (i:=4) iH.nd rfl (Or.inl rfl) (az dv (az bg (pv 0) ao) ao))
    (aq
     (aE (az bg (az dv (az pZ (az pZ (pv 4) (pv 4)) ao) (pv 4)) (pv 1)))))),?_⟩
  have low:∀H':Hp,aK H H'→uQ (A4 (xK (x3 fun i j=> .int (i+j)) (xK (rI (fun _ j=>0<j) fun i j=> .int (i%j)) (pT 0) (tC (.int 2147483647))) (tC (.int 7))) (fM 4))
    (DK (xK (rI (fun _ j=>0<j) fun i j=> .int (i%j)) (xK (x3 fun i j=> .int (i+j)) (xK (rI uV fun i j=> .int (i*j)) (xK (rI uV fun i j=> .int (i*j)) (pT 4) (pT 4)) (tC (.int 48271))) (pT 4)) (pT 1)))
    { nx:=fun _ H'=>Q .bR H',rt:=Q } [some (.int c),some (.int p),none,none,none] H':=fun H' e=>by
   have b0:0≤c%2147483647:=Int.emod_nonneg _ (by decide)
   have b1:c%2147483647<2147483647:=Int.emod_lt_of_pos _ (by decide)
   exact⟨_,rfl,_,_,rfl,rfl,(by show (0 :Int) <2147483647;decide),_,_,rfl,rfl,_,rfl,_,rfl,_,_,rfl,rfl, .inl ⟨by omega,by omega⟩,_,_,rfl,rfl, .inr ⟨by decide,by decide⟩,_,rfl,_,_,rfl,rfl,_,rfl,_,_,rfl,rfl,pp,q _ _ e⟩
  refine⟨_,rfl,_,_,rfl,rfl,(by show (0 :Int) <2;decide),rfl,_,rfl,dG (fun _=>?_) fun _=>low H (aK.refl H)⟩
  refine⟨_,rfl,_,_,rfl,rfl,⟨by decide,by decide,by decide⟩,_,_,rfl,rfl,_,rfl,dG (fun _=>?_) fun _=>low H (aK.refl H)⟩
  refine⟨_,rfl,_,_,rfl,rfl,⟨by decide,by decide⟩,(by show 7≤sizeLine;decide),fun l hl=>⟨.inl ⟨rfl,_,bC.of ag⟩,_,rfl,l,i9.map V.int,_,j,rfl,rfl,bC.of ag,rfl,rfl,tZ j hj p hp,?_⟩⟩
  refine⟨_,rfl,by omega,by omega,lq (fun i σ H'=>∃(z:Int) (v:Option V),σ=[some (.int c),some (.int p),some (.int z),v,none]∧aK H H') ⟨_,none,rfl,aK.new hl⟩ ?_ ?_⟩
  ·rintro i σ H' hi ⟨z,v,rfl,e⟩
   exact⟨_,rfl,_,_,rfl,rfl,⟨by decide,by decide⟩,_,_,rfl,e⟩
  ·rintro σ H' ⟨z,v,rfl,e⟩
   exact⟨_,rfl,_,_,rfl,rfl,(by show (0 :Int) <1000003;decide),_,rfl,_,_,rfl,rfl,pp,q _ _ e⟩
theorem zb:ax ["_law_found"] ["_law_found"] (ak mW):=dO
theorem wj(D:Def K mg "_law_whole" "_law_whole" mW ["_law_found"])(T:fX K mg C):bj P w K mg base 1 "_law_whole" ["_law_found"] rO:=by
 refine D.e9 zb (fun vs H Q E h=>?_) (fun f bb A outer s H vs Q E hr h=>?_)
 ·obtain⟨i,rfl,_⟩:=h
  rfl
 ·obtain⟨i,rfl,q⟩:=h
  refine⟨_,(aq
     (aE (A1 (aS jj rfl T.a4 aY (aa (pv 0) (aa (mv (v:= .ty "int") rfl T.vE qe rfl) ai))) (pW (A2 (aS jj rfl T.a4 aY (aa (pv 0) (aa (mv (v:= .ty "bool") rfl T.BK yk rfl) ai)))))))),?_⟩
  exact⟨_,rfl,_,_,_,_,_,rfl,rfl, .int i,T.k1,_,rfl,cO ⟨_,rfl,_,_,_,_,_,rfl,rfl, .int i,T.k2,_,rfl,q⟩⟩
abbrev great:Str:="ABCDEFGHIJKLMNOPQRSTUVWXYZ"
abbrev small:Str:="abcdefghijklmnopqrstuvwxyz"
theorem t4:great.cps.toList.length=26:=by decide+kernel
theorem t9:small.cps.toList.length=26:=by decide+kernel
def EF:List Str:=["C","Co","O","Cob","H","N","No","B","Ob","Nob"]
theorem g5:ax ["_law_number","_law_great","_law_small","_law_kind_here","_law_k"] ["_law_number"] (ak rJ):=dO
def rZ:Sp:=fun vs H Q _=>∃n:Int,vs=[.int n]∧∀(k:List Nat) H',jK k→aK H H'→Q (.str ⟨k.toArray⟩) H'
def Ce:List Nat→Bool
 |c::r=>gB c&&r.all eR&&decide (r.length≤2)
 | []=>false
theorem Cf:∀{l:List Nat},Ce l=true→jK l
 | [],h=>by cases h
 |c::r,h=>by
  simp only [Ce,Bool.and_eq_true,decide_eq_true_eq] at h
  exact⟨c,r,rfl,h.1.1,h.1.2,h.2⟩
theorem Cg:EF.all (fun x=>Ce x.cps.toList)=true:=by decide+kernel
theorem uc:great.cps.toList.all gB=true:=by decide+kernel
theorem ud:small.cps.toList.all eR=true:=by decide+kernel
theorem wm(D:Def K mg "_law_kind" "_law_kind" rJ ["_law_number"])(T:fX K mg C):bj P w K mg base 1 "_law_kind" ["_law_number"] rZ:=by
 refine D.e9 g5 (fun vs H Q E h=>?_) (fun f bb A outer s H vs Q E hr h=>?_)
 ·obtain⟨n,rfl,_⟩:=h
  rfl
 ·obtain⟨n,rfl,q⟩:=h
  refine⟨_,(aj
     (aP (i:=1) g5.nd rfl (Or.inl rfl) aG)
    (aj
     (aP (i:=2) g5.nd rfl (Or.inl rfl) aG)
    (aj
     (a7 (aA bN (az bg (pv 0) ao) ao (aJ _))
      (aq
       (aE (bh bJ (bH (rq (.str (.str (.str (.str (.str (.str (.str (.str (.str (.str .nil)))))))))))) (az bg (az cf (pv 0) ao) ao) (fun _ _=>rfl))))
      aQ)
    (aj
     (aP (i:=0) g5.nd rfl (Or.inl rfl) (az cf (pv 0) ao))
    (aj
     (aP (i:=3) g5.nd rfl (Or.inl rfl) (bh j5 (pv 1) (az bg (pv 0) ao) (fun _ _=>rfl)))
    (aj
     (mw PassesOwn.never rfl (lj rfl T.rQ (aa (az bg (az cf (pv 0) ao) ao) ai)) (dF (i:=4) g5.nd rfl (Or.inl rfl))
      (aq
       (aP (i:=3) g5.nd rfl (Or.inl rfl) (az aL (pv 3) (bh j5 (pv 2) (az bg (az cf (pv 0) (az dv ao (az pZ ao (pv 4)))) ao) (fun _ _=>rfl))))))
    (aq
     (aE (pv 3))))))))),?_⟩
  refine⟨_,rfl,_,_,rfl,rfl,(by show (0 :Int) <2;decide),rfl,_,rfl,dG (fun _=>?_) fun _=>?_⟩
  ·have b0:0≤n/2%10:=Int.emod_nonneg _ (by decide)
   have b1:n/2%10<10:=Int.emod_lt_of_pos _ (by decide)
   obtain⟨v,hv,l9⟩:=fR (xs:=EF.map V.str) b0 b1
   obtain⟨k,hk,rfl⟩:=List.mem_map.mp hv
   have ek:(⟨k.cps.toList.toArray⟩:Str)=k:=dJ (by simp)
   have QA:=Cf (List.all_eq_true.mp Cg k hk)
   have q':∀l (hl:H l=none),Q (.str k) (upd H l (.lst (EF.map V.str))):=fun l hl=>by
    have:=q k.cps.toList _ QA (aK.new (o:= .lst (EF.map V.str)) hl)
    rwa [ek] at this
   exact⟨(by show 10≤sizeLine;decide),fun l hl=>⟨_,rfl,_,_,rfl,rfl,⟨by decide,by decide⟩,_,_,rfl,rfl,(by show (0 :Int) <10;decide),l,EF.map V.str,_,_,rfl,rfl,bC.of ag,l9,q' l hl⟩⟩
  ·have b0:0≤n/2%26:=Int.emod_nonneg _ (by decide)
   have b1:n/2%26<26:=Int.emod_lt_of_pos _ (by decide)
   have b2:0≤n/2/26%3:=Int.emod_nonneg _ (by decide)
   have b3:n/2/26%3<3:=Int.emod_lt_of_pos _ (by decide)
   obtain⟨c,hc,l9⟩:=fR (xs:=great.cps.toList) b0 (by rw[t4];exact b1)
   have gc:=List.all_eq_true.mp uc c hc
   refine⟨_,rfl,_,_,rfl,rfl,⟨by decide,by decide⟩,_,rfl,_,rfl,_,_,rfl,rfl,(by show (0 :Int) <26;decide),great,_,c,rfl,rfl,(by decide+kernel),l9,?_⟩
   refine⟨_,rfl,_,_,rfl,rfl,⟨by decide,by decide⟩,_,_,rfl,rfl,(by show (0 :Int) <3;decide),_,rfl,by omega,by omega,
    lq (fun i σ H'=>∃(r:List Nat) (v:Option V),σ=[some (.int (n/2)),some (.str great),some (.str small),some (.str ⟨(c::r).toArray⟩),v]∧r.all eR=true∧r.length≤i∧H'=H) ⟨[],none,rfl,rfl,Nat.le_refl _,rfl⟩ ?_ ?_⟩
   ·rintro i σ H' hi ⟨r,v,rfl,ha,hk,rfl⟩
    have c0:0≤n/2/(78+1950*(0+(i:Int))) %26:=Int.emod_nonneg _ (by decide)
    have c1:n/2/(78+1950*(0+(i:Int))) %26<26:=Int.emod_lt_of_pos _ (by decide)
    obtain⟨c2,QB,wo⟩:=fR (xs:=small.cps.toList) c0 (by rw[t9];exact c1)
    have QC:=List.all_eq_true.mp ud c2 QB
    have l2:(⟨#[c2]⟩:Str).length=1:=rfl
    have big:(100 :Nat)≤sizeLine:=by decide
    have e2:(⟨(c::r).toArray⟩:Str)++⟨#[c2]⟩=⟨(c::(r++[c2])).toArray⟩:=a6 (c::r) [c2]
    refine⟨_,rfl,_,rfl,_,rfl,_,rfl,_,_,rfl,rfl, .inl ⟨by decide,by decide⟩,_,_,rfl,rfl,_,_,rfl,rfl,⟨by omega,by omega⟩,_,_,rfl,rfl,(by show (0 :Int) <26;decide),small,_,c2,rfl,rfl,(by decide+kernel),wo,_,_,rfl,rfl,?_,r++[c2],some (.int (0+(i:Int))),?_,?_,?_,rfl⟩
    ·rw[aH,l2,List.length_cons]
     omega
    ·rw[←e2]
     rfl
    ·rw[List.all_append,ha]
     simpa using QC
    ·rw[List.length_append]
     show r.length+1≤i+1
     omega
   ·rintro σ H' ⟨r,v,rfl,ha,hk,rfl⟩
    exact⟨_,rfl,q (c::r) _ ⟨c,r,rfl,gc,ha,by omega⟩ (aK.refl _)⟩
def nG:Sp:=fun vs H Q _=>∃n:Int,vs=[.int n]∧∀c H',1≤c→c≤999→aK H H'→Q (.int c) H'
theorem zd:ax ["_law_number"] ["_law_number"] (ak mX):=dO
theorem wq(D:Def K mg "_law_count" "_law_count" mX ["_law_number"]):bj P w K mg base 1 "_law_count" ["_law_number"] nG:=by
 refine D.e9 zd (fun vs H Q E h=>?_) (fun f bb A outer s H vs Q E hr h=>?_)
 ·obtain⟨n,rfl,_⟩:=h
  rfl
 ·obtain⟨n,rfl,q⟩:=h
  refine⟨_,(aq
     (aE (bh bJ (bH (aa ao (aa ao (aa (az dv ao (az bg (az cf (pv 0) ao) ao)) (aa (az dv ao (az bg (az cf (pv 0) ao) ao)) ai))))) (az bg (pv 0) ao) (fun _ _=>rfl)))),?_⟩
  have b0:0≤n%4:=Int.emod_nonneg _ (by decide)
  have b1:n%4<4:=Int.emod_lt_of_pos _ (by decide)
  have d0:0≤n/4%11:=Int.emod_nonneg _ (by decide)
  have d1:n/4%11<11:=Int.emod_lt_of_pos _ (by decide)
  have e0:0≤n/4%999:=Int.emod_nonneg _ (by decide)
  have e1:n/4%999<999:=Int.emod_lt_of_pos _ (by decide)
  obtain⟨v,hv,l9⟩:=fR (xs:=[V.int 1,V.int 1,V.int (2+n/4%11),V.int (1+n/4%999)]) b0 b1
  have hc:∃c,v=V.int c∧1≤c∧c≤999:=by
   simp only [List.mem_cons,List.not_mem_nil,or_false] at hv
   rcases hv with rfl|rfl|rfl|rfl
   ·exact⟨1,rfl,by decide,by decide⟩
   ·exact⟨1,rfl,by decide,by decide⟩
   ·exact⟨_,rfl,by omega,by omega⟩
   ·exact⟨_,rfl,by omega,by omega⟩
  obtain⟨c,rfl,c0,c1⟩:=hc
  exact⟨_,rfl,_,_,rfl,rfl,⟨by decide,by decide⟩,_,_,rfl,rfl,(by show (0 :Int) <11;decide),_,_,rfl,rfl,_,rfl,_,_,rfl,rfl,⟨by decide,by decide⟩,_,_,rfl,rfl,(by show (0 :Int) <999;decide),_,_,rfl,rfl,(by show 4≤sizeLine;decide),
   fun l hl=>⟨_,rfl,_,_,rfl,rfl,(by show (0 :Int) <4;decide),l,_,_,_,rfl,rfl,bC.of ag,l9,q c _ c0 c1 (aK.new hl)⟩⟩
variable {uC uP uI uD uL uT:Tok}
theorem ze:ax ["self","parts","count"] ["self","parts","count"] (ak cX):=dO
theorem wt(D:iY K G "Group.__init__" cX ["self","parts","count"] [1])(T:jv K mg C R G Pc Fo uK uN uB uE uM uC uP uI uD uL uT):eD P w K mg base 1 G ["self","parts","count"] [1] (iB G):=by
 refine D.e9 ze (fun vs H Q E h=>?_) (fun f bb A outer s H vs Q E hr h=>?_)
 ·obtain⟨p,dx,l,c,xs,rfl,_⟩:=h
  rfl
 ·obtain⟨p,dx,l,c,xs,rfl,hp,hl,q⟩:=h
  refine⟨_,(aj
     (eh (pv 0) (cW e7 rfl T.n_list mH (aa (pv 1) ai)) rfl)
    (aq
     (eh (pv 0) (pv 2) rfl))),?_⟩
  refine⟨_,rfl,l,xs,rfl, .inl (bC.of hl),fun n hn=>?_⟩
  have wu:p≠n:=af hp hn
  refine⟨_,rfl,p,G,dx,[],rfl,(by rw[ah wu];exact hp),T.dM,T.lJ,(by show 0<1000;decide),_,rfl,_,rfl,p,G,dx,_,rfl,ag,T.dM,T.lK,(by show 1<1000;decide),?_⟩
  refine q n _ hn ag (by rw[ah (Ne.symm wu),ah (Ne.symm wu),ag]) fun b o e hb=>?_
  rw[ah hb,ah hb,ah (af e hn)]
  exact e
theorem zg:ax ["self","parts","count"] ["self","parts","count"] (ak cY):=dO
theorem wx(D:iY K Pc "Piece.__init__" cY ["self","parts","count"] [1])(T:jv K mg C R G Pc Fo uK uN uB uE uM uC uP uI uD uL uT):eD P w K mg base 1 Pc ["self","parts","count"] [1] (iB Pc):=by
 refine D.e9 zg (fun vs H Q E h=>?_) (fun f bb A outer s H vs Q E hr h=>?_)
 ·obtain⟨p,dx,l,c,xs,rfl,_⟩:=h
  rfl
 ·obtain⟨p,dx,l,c,xs,rfl,hp,hl,q⟩:=h
  refine⟨_,(aj
     (eh (pv 0) (cW e7 rfl T.n_list mH (aa (pv 1) ai)) rfl)
    (aq
     (eh (pv 0) (pv 2) rfl))),?_⟩
  refine⟨_,rfl,l,xs,rfl, .inl (bC.of hl),fun n hn=>?_⟩
  have wu:p≠n:=af hp hn
  refine⟨_,rfl,p,Pc,dx,[],rfl,(by rw[ah wu];exact hp),T.cA,T.lM,(by show 0<1000;decide),_,rfl,_,rfl,p,Pc,dx,_,rfl,ag,T.cA,T.lN,(by show 1<1000;decide),?_⟩
  refine q n _ hn ag (by rw[ah (Ne.symm wu),ah (Ne.symm wu),ag]) fun b o e hb=>?_
  rw[ah hb,ah hb,ah (af e hn)]
  exact e
theorem zh:ax ["self","pieces","charge"] ["self","pieces","charge"] (ak cZ):=dO
theorem wz(D:iY K Fo "Formula.__init__" cZ ["self","pieces","charge"] [0])(T:jv K mg C R G Pc Fo uK uN uB uE uM uC uP uI uD uL uT):eD P w K mg base 1 Fo ["self","pieces","charge"] [0] (nk Fo):=by
 refine D.e9 zh (fun vs H Q E h=>?_) (fun f bb A outer s H vs Q E hr h=>?_)
 ·obtain⟨p,dx,l,c,xs,rfl,_⟩:=h
  rfl
 ·obtain⟨p,dx,l,c,xs,rfl,hp,hl,q⟩:=h
  refine⟨_,(aj
     (eh (pv 0) (cW e7 rfl T.n_list mH (aa (pv 1) ai)) rfl)
    (aq
     (eh (pv 0) (pv 2) rfl))),?_⟩
  refine⟨_,rfl,l,xs,rfl, .inl (bC.of hl),fun n hn=>?_⟩
  have wu:p≠n:=af hp hn
  refine⟨_,rfl,p,Fo,dx,[],rfl,(by rw[ah wu];exact hp),T.bw,T.gW,(by show 0<1000;decide),_,rfl,_,rfl,p,Fo,dx,_,rfl,ag,T.bw,T.kr,(by show 1<1000;decide),?_⟩
  refine q n _ hn ag (by rw[ah (Ne.symm wu),ah (Ne.symm wu),ag]) fun b o e hb=>?_
  rw[ah hb,ah hb,ah (af e hn)]
  exact e
def r8:Nat→Int→Tr→List (Str×Int)
 |_,m, .one k n=>[(⟨k.toArray⟩,n*m)]
 |0,_, .gr _ _=>[]
 |d+1,m, .gr ts n=>ts.flatMap (r8 d (n*m))
theorem Ci(n:Int):sY [V.str "-",V.str "+"] (if decide (n>0)=true then 1 else 0)=some (V.str (if 0<n then ("+" :Str) else ("-" :Str))):=by
 by_cases h:0<n
 ·rw[if_pos (decide_eq_true h),if_pos h]
  rfl
 ·rw[if_neg (by simpa using h),if_neg h]
  rfl
theorem zi{n:Int}(e:¬n=0):(⟨(fH n).toArray⟩:Str)="^" ++cD (if n<0 then -n else n)++(if 0<n then ("+" :Str) else ("-" :Str)):=by
 unfold fH
 rw[if_neg e,bO,Ag,J4,Ez]
 rw[show (⟨#[94]⟩:Str)=⟨[94].toArray⟩ from rfl,a6]
 by_cases hp:0<n
 ·rw[if_pos hp,if_pos hp,show (⟨#[43]⟩:Str)=⟨[43].toArray⟩ from rfl,a6]
  simp
 ·rw[if_neg hp,if_neg hp,show (⟨#[45]⟩:Str)=⟨[45].toArray⟩ from rfl,a6]
  simp
theorem eH:("H" :Str)=⟨[72].toArray⟩:=by decide+kernel
variable {uC uP uI uD uL uT:Tok}
variable {uC uP uI uD uL uT:Tok}
def LT:Nat→List Addr→Hp→Addr→Tr→Prop
 |_,W,H,a, .one k n=>H a=some (.tup [.str "atom", .str ⟨k.toArray⟩, .int n])∧a∉W
 |0,_,_,_, .gr _ _=>False
 |d+1,W,H,a, .gr ts n=>∃l ps,H a=some (.tup [.str "group", .ref l, .int n])∧a∉W∧l∉W∧H l=some (.lst (ps.map V.ref))∧Paired (LT d W H) ps ts
theorem LT.keep:∀{d:Nat} {W W':List Addr} {H H':Hp} {a:Addr} {t:Tr},LT d W H a t→(∀b o,H b=some o→b∉W→H' b=some o∧b∉W')→LT d W' H' a t
 |0,W,W',H,H',a, .one k n,h,e=>e _ _ h.1 h.2
 |d+1,W,W',H,H',a, .one k n,h,e=>e _ _ h.1 h.2
 |0,_,_,_,_,_, .gr _ _,h,_=>h.elim
 |d+1,W,W',H,H',a, .gr ts n,⟨l,ps,h1,h2,h3,h4,h5⟩,e=>⟨l,ps,(e _ _ h1 h2).1,(e _ _ h1 h2).2,(e _ _ h4 h3).2,(e _ _ h4 h3).1,aR (fun _ _ z=>LT.keep z e) h5⟩
theorem LT.same{d:Nat}{W:List Addr}{H H':Hp}{a:Addr}{t:Tr}(h:LT d W H a t)(e:aK H H'):LT d W H' a t:=h.keep fun b o z w=>⟨e _ _ z,w⟩
theorem LT.nil{d:Nat}{W:List Addr}{H:Hp}{a:Addr}{t:Tr}(h:LT d W H a t):LT d [] H a t:=h.keep fun b o z _=>⟨z,by simp⟩
def LP(d:Nat)(H:Hp)(a:Addr)(x:de):Prop:=∃l ps,H a=some (.tup [.str "piece", .ref l, .int x.1])∧H l=some (.lst (ps.map V.ref))∧Paired (LT d [] H) ps x.2
theorem LP.same{d:Nat}{H H':Hp}{a:Addr}{x:de}(h:LP d H a x)(e:aK H H'):LP d H' a x:=let ⟨l,ps,h1,h2,h3⟩:=h;⟨l,ps,e _ _ h1,e _ _ h2,aR (fun _ _ z=>z.same e) h3⟩
def wA:Sp:=fun vs H Q _=>∃n m:Int,vs=[.int n, .int m]∧∀(a:Addr) (k:List Nat) (c:Int) H',jK k→1≤c→c≤999→H a=none→H' a=some (.tup [.str "atom", .str ⟨k.toArray⟩, .int c])→aK H H'→Q (.ref a) H'
theorem Cj:ax ["_law_number","_law_other"] ["_law_number","_law_other"] (ak rK):=dO
theorem zj(D:Def K mg "_law_part" "_law_part" rK ["_law_number","_law_other"])(c1:bj P w K mg base 1 "_law_kind" ["_law_number"] rZ)(c2:bj P w K mg base 1 "_law_count" ["_law_number"] nG):bj P w K mg base 2 "_law_part" ["_law_number","_law_other"] wA:=by
 obtain⟨_,_,iI⟩:=c1
 obtain⟨_,_,cm⟩:=c2
 refine D.e9 Cj (fun vs H Q E h=>?_) (fun f bb A outer s H vs Q E hr h=>?_)
 ·obtain⟨n,m,rfl,_⟩:=h
  rfl
 ·obtain⟨n,m,rfl,q⟩:=h
  refine⟨_,(aq
     (aE (cu (aa aG (aa (aF iI.ok (hr.mono (by decide)) rfl iI.g iI.kp iI.b .nil aM (aa (pv 0) ai)) (aa (aF cm.ok (hr.mono (by decide)) rfl cm.g cm.kp cm.b .nil aM (aa (pv 1) ai)) ai)))))),?_⟩
  exact⟨_,rfl,n,rfl,fun k H1 hk e1=>⟨_,rfl,m,rfl,fun c H2 c1 c2 e2=>⟨(by show 3≤sizeLine;decide),fun t ht=>q t k c _ hk c1 c2 ((e1.trans e2).free ht) ag ((e1.trans e2).trans (aK.new ht))⟩⟩⟩
theorem Ck{c A B:Prop}[Decidable c](h:¬c)(hb:B):if (decide c)=true then A else B:=by
 rw[decide_eq_false h]
 exact bZ hb
theorem EG:¬V.str ("group" :Str)=V.str ("atom" :Str):=by decide+kernel
theorem EH:¬V.str ("piece" :Str)=V.str ("atom" :Str):=by decide+kernel
theorem EI:¬V.str ("piece" :Str)=V.str ("group" :Str):=by decide+kernel
def gg:Nat→Sp
 |0=>fun _ _ _ _=>False
 |d+1=>fun vs H Q _=>∃(a:Addr) (t:Tr),vs=[.ref a]∧LT d [] H a t∧iQ d t∧(bD d t).length≤1000∧∀H',aK H H'→Q (.str ⟨(bD d t).toArray⟩) H'
theorem gi:ax ["_law_part_here","_law_inner"] ["_law_part_here"] (ak dI):=dO
theorem qK(D:Def K mg "_law_shown" "_law_shown" dI ["_law_part_here"]):bj P w K mg base 1 "_law_shown" ["_law_part_here"] (gg 0):=
 D.e9 (k:=0) gi (fun vs H Q E h=>h.elim) (fun f bb A outer s H vs Q E hr h=>h.elim)
theorem qM(d:Nat)(D:Def K mg "_law_shown" "_law_shown" dI ["_law_part_here"])(T:fX K mg C)(c1:bj P w K mg base (d+1) "_law_shown" ["_law_part_here"] (gg d))(c2:bj P w K mg base 1 "_law_figures" ["_law_count_here"] dX):bj P w K mg base (d+2) "_law_shown" ["_law_part_here"] (gg (d+1)):=by
 obtain⟨_,_,bE⟩:=c1
 obtain⟨_,_,ay⟩:=c2
 refine D.e9 gi (fun vs H Q E h=>?_) (fun f bb A outer s H vs Q E hr h=>?_)
 ·obtain⟨a,t,rfl,_⟩:=h
  rfl
 ·obtain⟨a,t,rfl,hT,bz,hz,q⟩:=h
  have big:(3000 :Nat) <sizeLine:=by decide
  refine⟨_,(aj
     (a7 (aA bN (bh b6 (pv 0) ao (fun _ _=>rfl)) aG (aJ _))
      (aq
       (aE (az aL (bh b6 (pv 0) ao (fun _ _=>rfl)) (aF ay.ok (hr.mono (by omega)) rfl ay.g ay.kp ay.b .nil aM (aa (bh b6 (pv 0) ao (fun _ _=>rfl)) ai)))))
      aQ)
    (aj
     (aP (i:=1) gi.nd rfl (Or.inl rfl) (cH PySem.F.plainAttrs_str PySem.F.slot_str_join PySem.F.type_str_join ic aG (aa (ia (sc:=(ak dI)) (NX:=["_law_part_here","_law_inner"]) (N:=["_law_one"]) (fr:=[none]) ⟨by rfl,by rfl,by decide+kernel,by decide+kernel,by decide+kernel,by rfl,by decide+kernel⟩ rfl rfl rfl (gm (bh b6 (pv 0) ao (fun _ _=>rfl))) (fun _ _ _ _=>(dF (i:=0) (show (["_law_one"]:List Str).Nodup by decide+kernel) rfl (Or.inl rfl) (Or.inr rfl))) (fun _ _ _ _=>h9) (fun _ _ _ _=>(aF bE.ok (hr.mono (by omega)) rfl bE.g bE.kp bE.b .nil aM (aa (pv 0) ai)))) ai)))
    (aj
     (a7 (aA bN (bh b6 (pv 0) ao (fun _ _=>rfl)) aG (aJ _))
      (aq
       (aE (az aL (az aL (az aL aG (pv 1)) aG) (aF ay.ok (hr.mono (by omega)) rfl ay.g ay.kp ay.b .nil aM (aa (bh b6 (pv 0) ao (fun _ _=>rfl)) ai)))))
      aQ)
    (aq
     (aE (az aL (aF ay.ok (hr.mono (by omega)) rfl ay.g ay.kp ay.b .nil aM (aa (bh b6 (pv 0) ao (fun _ _=>rfl)) ai)) (pv 1))))))),?_⟩
  cases t with
  |one k n=>
   have wb:jK k∧1≤n∧n≤999:=by cases d<;>exact bz
   have hA:H a=some (.tup [.str "atom", .str ⟨k.toArray⟩, .int n]):=by cases d<;>exact hT.1
   have et:(⟨(bD d (.one k n)).toArray⟩:Str)=⟨k.toArray⟩++cD n:=by
    rw[bO,a6]
    cases d<;>rfl
   have lk:=nB wb.1
   have lf:=eL wb.2.1 wb.2.2
   rw[et] at q
   refine⟨_,rfl,a,_,_,V.str "atom",rfl,rfl,g8.of hA,rfl,rfl,_,rfl,cO ?_⟩
   exact⟨_,rfl,a,_,_,V.str ⟨k.toArray⟩,rfl,rfl,g8.of hA,rfl,_,rfl,a,_,_,V.int n,rfl,rfl,g8.of hA,rfl,n,rfl,wb.2.1,wb.2.2,_,_,rfl,rfl,by omega,q H (aK.refl _)⟩
  |gr ts n=>
   cases d with
   |zero=>exact bz.elim
   |succ d=>
    obtain⟨l,ps,hA,_,_,hl,hP⟩:=hT
    obtain⟨gP,wB,n1,n2⟩:=bz
    have hz:(40::(ts.flatMap (bD d)++41::a8 n)).length≤1000:=hz
    rw[List.length_cons,List.length_append,List.length_cons] at hz
    have OD:=iC wB
    have lp:ps.length=ts.length:=Paired.length hP
    refine⟨_,rfl,a,_,_,V.str "group",rfl,rfl,g8.of hA,rfl,rfl,_,rfl,Ck EG ?_⟩
    refine⟨rfl,_,rfl,a,_,_,V.ref l,rfl,rfl,g8.of hA,rfl,l,rfl,⟨_,bC.of hl⟩,fun D1 EJ=>eF (K:=K) (a:=l) (D:=D1) (xs:=ps.map V.ref) (fun i σ H'=>∃v:Option V,σ=[v]∧aK H H'∧H' D1=some (.lst ((ts.take i).map fun t=>V.str ⟨(bD d t).toArray⟩)))
     ?_ (fun i σ H' _ ⟨_,_,e,_⟩=>bC.of (e _ _ hl)) ?_ ?_⟩
    ·exact⟨none,rfl,aK.new EJ,ag⟩
    ·rintro i v σ H' hi ⟨v',rfl,e,jO⟩ N hN
     rw[List.getElem?_map] at hi
     obtain⟨p,hp,rfl⟩:∃p,ps[i]? =some p∧v=V.ref p:=by
      cases hh:ps[i]? with
      |none=>rw[hh] at hi;cases hi
      |some p=>rw[hh] at hi;exact⟨p,rfl,(Option.some.inj hi).symm⟩
     obtain⟨t,ht,hT⟩:=di hP hp
     have n8:=wB t (List.mem_of_getElem? ht)
     have lt:=fv (d:=d) (List.mem_of_getElem? ht)
     refine⟨_,rfl,p,t,rfl,hT.same e,n8,by omega,fun c9 e'=>⟨_,e' _ _ jO,?_,hN _ _ ⟨_,rfl,fun b o z=>?_,?_⟩⟩⟩
     ·rw[List.length_map]
      have:(ts.take i).length≤ts.length:=List.length_take_le' _ _
      omega
     ·rw[ah (af z EJ)]
      exact e' _ _ (e _ _ z)
     ·rw[ag,List.take_add_one,ht,List.map_append]
      rfl
    ·rintro σ H' ⟨v,rfl,e,jO⟩
     rw[List.length_map,lp,List.take_length] at jO
     have es:((ts.map fun t=>(⟨(bD d t).toArray⟩:Str)).map (·.length)).sum=(ts.flatMap (bD d)).length:=by
      rw[List.map_map,List.length_flatMap]
      congr 1
     have e0:("" :Str).length=0:=by decide+kernel
     refine⟨_,D1,ts.map (fun t=>⟨(bD d t).toArray⟩),rfl,rfl,bC.of (by rw[jO,List.map_map];rfl),by rw[es,e0];omega,?_⟩
     rw[join_eq,jN]
     have l1:("(" :Str).length=1:=by decide+kernel
     have l2:(")" :Str).length=1:=by decide+kernel
     have lf:(cD n).length=(a8 n).length:=by rw[bO,aH]
     have ee:(⟨(bD (d+1) (.gr ts n)).toArray⟩:Str)="(" ++⟨(ts.flatMap (bD d)).toArray⟩++")" ++cD n:=by
      rw[bO,Af,Ia]
      rw[show (⟨#[40]⟩:Str)=⟨[40].toArray⟩ from rfl,show (⟨#[41]⟩:Str)=⟨[41].toArray⟩ from rfl,a6,a6,a6]
      simp [bD]
     rw[ee] at q
     have EK:=e _ _ hA
     refine⟨_,rfl,a,_,_,V.str "group",rfl,rfl,g8.of EK,rfl,rfl,_,rfl,cO ?_⟩
     refine⟨_,rfl,_,_,rfl,rfl,?_,_,_,rfl,rfl,?_,_,rfl,a,_,_,V.int n,rfl,rfl,g8.of EK,rfl,n,rfl,n1,n2,_,_,rfl,rfl,?_,q _ e⟩
     ·rw[l1,aH]
      omega
     ·rw[bc,l1,l2,aH]
      omega
     ·rw[bc,bc,l1,l2,aH,lf]
      omega
theorem ma(D:Def K mg "_law_shown" "_law_shown" dI ["_law_part_here"])(T:fX K mg C)(c2:bj P w K mg base 1 "_law_figures" ["_law_count_here"] dX):∀d,bj P w K mg base (d+1) "_law_shown" ["_law_part_here"] (gg d)
 |0=>qK D
 |d+1=>qM d D T (ma D T c2 d) c2
variable {uC uP uI uD uL uT:Tok}
def pG(d:Nat):Sp:=fun vs H Q _=>∃(a:Addr) (x:de),vs=[.ref a]∧LP d H a x∧oJ d x∧(dh d x).length≤1000∧∀H',aK H H'→Q (.str ⟨(dh d x).toArray⟩) H'
theorem ue(d:Nat)(D:Def K mg "_law_shown" "_law_shown" dI ["_law_part_here"])(T:fX K mg C)(c1:bj P w K mg base (d+2) "_law_shown" ["_law_part_here"] (gg (d+1)))(c2:bj P w K mg base 1 "_law_figures" ["_law_count_here"] dX):bj P w K mg base (d+3) "_law_shown" ["_law_part_here"] (pG d):=by
 obtain⟨_,_,bE⟩:=c1
 obtain⟨_,_,ay⟩:=c2
 refine D.e9 gi (fun vs H Q E h=>?_) (fun f bb A outer s H vs Q E hr h=>?_)
 ·obtain⟨a,x,rfl,_⟩:=h
  rfl
 ·obtain⟨a,x,rfl,⟨l,ps,hA,hl,hP⟩,⟨gP,wB,n1,n2⟩,hz,q⟩:=h
  have big:(3000 :Nat) <sizeLine:=by decide
  have OD:=iC wB
  have lp:ps.length=x.2.length:=Paired.length hP
  unfold dh at hz
  rw[List.length_append] at hz
  refine⟨_,(aj
     (a7 (aA bN (bh b6 (pv 0) ao (fun _ _=>rfl)) aG (aJ _))
      (aq
       (aE (az aL (bh b6 (pv 0) ao (fun _ _=>rfl)) (aF ay.ok (hr.mono (by omega)) rfl ay.g ay.kp ay.b .nil aM (aa (bh b6 (pv 0) ao (fun _ _=>rfl)) ai)))))
      aQ)
    (aj
     (aP (i:=1) gi.nd rfl (Or.inl rfl) (cH PySem.F.plainAttrs_str PySem.F.slot_str_join PySem.F.type_str_join ic aG (aa (ia (sc:=(ak dI)) (NX:=["_law_part_here","_law_inner"]) (N:=["_law_one"]) (fr:=[none]) ⟨by rfl,by rfl,by decide+kernel,by decide+kernel,by decide+kernel,by rfl,by decide+kernel⟩ rfl rfl rfl (gm (bh b6 (pv 0) ao (fun _ _=>rfl))) (fun _ _ _ _=>(dF (i:=0) (show (["_law_one"]:List Str).Nodup by decide+kernel) rfl (Or.inl rfl) (Or.inr rfl))) (fun _ _ _ _=>h9) (fun _ _ _ _=>(aF bE.ok (hr.mono (by omega)) rfl bE.g bE.kp bE.b .nil aM (aa (pv 0) ai)))) ai)))
    (aj
     (a7 (aA bN (bh b6 (pv 0) ao (fun _ _=>rfl)) aG (aJ _))
      (aq
       (aE (az aL (az aL (az aL aG (pv 1)) aG) (aF ay.ok (hr.mono (by omega)) rfl ay.g ay.kp ay.b .nil aM (aa (bh b6 (pv 0) ao (fun _ _=>rfl)) ai)))))
      aQ)
    (aq
     (aE (az aL (aF ay.ok (hr.mono (by omega)) rfl ay.g ay.kp ay.b .nil aM (aa (bh b6 (pv 0) ao (fun _ _=>rfl)) ai)) (pv 1))))))),?_⟩
  refine⟨_,rfl,a,_,_,V.str "piece",rfl,rfl,g8.of hA,rfl,rfl,_,rfl,Ck EH ?_⟩
  refine⟨rfl,_,rfl,a,_,_,V.ref l,rfl,rfl,g8.of hA,rfl,l,rfl,⟨_,bC.of hl⟩,fun D1 EJ=>eF (K:=K) (a:=l) (D:=D1) (xs:=ps.map V.ref) (fun i σ H'=>∃v:Option V,σ=[v]∧aK H H'∧H' D1=some (.lst ((x.2.take i).map fun t=>V.str ⟨(bD d t).toArray⟩)))
   ?_ (fun i σ H' _ ⟨_,_,e,_⟩=>bC.of (e _ _ hl)) ?_ ?_⟩
  ·exact⟨none,rfl,aK.new EJ,ag⟩
  ·rintro i v σ H' hi ⟨v',rfl,e,jO⟩ N hN
   rw[List.getElem?_map] at hi
   obtain⟨p,hp,rfl⟩:∃p,ps[i]? =some p∧v=V.ref p:=by
    cases hh:ps[i]? with
    |none=>rw[hh] at hi;cases hi
    |some p=>rw[hh] at hi;exact⟨p,rfl,(Option.some.inj hi).symm⟩
   obtain⟨t,ht,hT⟩:=di hP hp
   have n8:=wB t (List.mem_of_getElem? ht)
   have lt:=fv (d:=d) (List.mem_of_getElem? ht)
   refine⟨_,rfl,p,t,rfl,hT.same e,n8,by omega,fun c9 e'=>⟨_,e' _ _ jO,?_,hN _ _ ⟨_,rfl,fun b o z=>?_,?_⟩⟩⟩
   ·rw[List.length_map]
    have:(x.2.take i).length≤x.2.length:=List.length_take_le' _ _
    omega
   ·rw[ah (af z EJ)]
    exact e' _ _ (e _ _ z)
   ·rw[ag,List.take_add_one,ht,List.map_append]
    rfl
  ·rintro σ H' ⟨v,rfl,e,jO⟩
   rw[List.length_map,lp,List.take_length] at jO
   have es:((x.2.map fun t=>(⟨(bD d t).toArray⟩:Str)).map (·.length)).sum=(x.2.flatMap (bD d)).length:=by
    rw[List.map_map,List.length_flatMap]
    congr 1
   have e0:("" :Str).length=0:=by decide+kernel
   refine⟨_,D1,x.2.map (fun t=>⟨(bD d t).toArray⟩),rfl,rfl,bC.of (by rw[jO,List.map_map];rfl),by rw[es,e0];omega,?_⟩
   rw[join_eq,jN]
   have lf:(cD x.1).length=(a8 x.1).length:=by rw[bO,aH]
   have ee:(⟨(dh d x).toArray⟩:Str)=cD x.1++⟨(x.2.flatMap (bD d)).toArray⟩:=by
    rw[bO,a6]
    rfl
   rw[ee] at q
   have EK:=e _ _ hA
   refine⟨_,rfl,a,_,_,V.str "piece",rfl,rfl,g8.of EK,rfl,rfl,_,rfl,Ck EI ?_⟩
   exact⟨_,rfl,a,_,_,V.int x.1,rfl,rfl,g8.of EK,rfl,x.1,rfl,n1,n2,_,rfl,_,_,rfl,rfl,by rw[lf,aH];omega,q _ e⟩
def OF(d:Nat)(H:Hp)(l:Addr)(xs:List de):Prop:=∃ps,H l=some (.lst (ps.map V.ref))∧Paired (LP d H) ps xs
def sh(d:Nat):Sp:=fun vs H Q _=>∃(l:Addr) (xs:List de) (n:Int),vs=[.ref l, .int n]∧OF d H l xs∧xO d xs n∧(wL d xs n).length≤1000∧∀H',aK H H'→Q (.str ⟨(wL d xs n).toArray⟩) H'
theorem wC:ax ["_law_pieces_here","_law_charge_here","_law_text_here"] ["_law_pieces_here","_law_charge_here"] (ak oS):=dO
theorem wD(d:Nat)(D:Def K mg "_law_text" "_law_text" oS ["_law_pieces_here","_law_charge_here"])(T:jv K mg C R G Pc Fo uK uN uB uE uM uC uP uI uD uL uT)(c1:bj P w K mg base (d+3) "_law_shown" ["_law_part_here"] (pG d))(c2:bj P w K mg base 1 "_law_figures" ["_law_count_here"] dX):bj P w K mg base (d+4) "_law_text" ["_law_pieces_here","_law_charge_here"] (sh d):=by
 obtain⟨_,_,bE⟩:=c1
 obtain⟨_,_,ay⟩:=c2
 refine D.e9 wC (fun vs H Q E h=>?_) (fun f bb A outer s H vs Q E hr h=>?_)
 ·obtain⟨l,xs,n,rfl,_⟩:=h
  rfl
 ·obtain⟨l,xs,n,rfl,⟨ps,hl,hP⟩,bz,hz,q⟩:=h
  have hu:=z4 hr
  have big:(3000 :Nat) <sizeLine:=by decide
  have lp:ps.length=xs.length:=Paired.length hP
  refine⟨_,(aj
     (a7 (aA (mJ hu) (pv 0) (bH ai) (aJ _))
      (aq
       (aE aG))
      aQ)
    (aj
     (aP (i:=2) wC.nd rfl (Or.inl rfl) (cH PySem.F.plainAttrs_str PySem.F.slot_str_join PySem.F.type_str_join ic aG (aa (ia (sc:=(ak oS)) (NX:=["_law_pieces_here","_law_charge_here","_law_text_here"]) (N:=["_law_piece"]) (fr:=[none]) ⟨by rfl,by rfl,by decide+kernel,by decide+kernel,by decide+kernel,by rfl,by decide+kernel⟩ rfl rfl rfl (gm (pv 0)) (fun _ _ _ _=>(dF (i:=0) (show (["_law_piece"]:List Str).Nodup by decide+kernel) rfl (Or.inl rfl) (Or.inr rfl))) (fun _ _ _ _=>h9) (fun _ _ _ _=>(aF bE.ok (hr.mono (by omega)) rfl bE.g bE.kp bE.b .nil aM (aa (pv 0) ai)))) ai)))
    (aj
     (a7 (aA bN (pv 1) ao (aJ _))
      (aq
       (aE (pv 2)))
      aQ)
    (aq
     (aE (az aL (az aL (az aL (pv 2) aG) (aF ay.ok (hr.mono (by omega)) rfl ay.g ay.kp ay.b .nil aM (aa (aS ou rfl T.Ah vn (aa (pv 1) ai)) ai))) (bh bJ (bH (aa aG (aa aG ai))) (cW sV rfl T.vE qe (aa (jy fP (pv 1) ao (aJ _)) ai)) (fun _ _=>rfl)))))))),?_⟩
  refine⟨_,rfl,(by show 0≤sizeLine;decide),fun z QD=>?_⟩
  have sz:=aK.new (o:= .lst []) QD
  have vY:=sz _ _ hl
  refine⟨l,z,_,rfl,rfl,bC.of vY,bC.of ag,_,rfl,?_⟩
  generalize upd H z (.lst [])=H1 at sz vY ⊢
  cases xs with
  |nil=>
   have hp:ps=[]:=List.length_eq_zero_iff.mp lp
   subst hp
   refine cO ?_
   have e0:(⟨(wL d [] n).toArray⟩:Str)="e^-" :=by rw[eE];rfl
   rw[e0] at q
   exact q _ sz
  |cons x0 r0=>
   obtain⟨Kt,Cc,n1,n2⟩:=bz
   have Ig:(ps.map V.ref).isEmpty=false:=by
    cases ps with
    |nil=>simp at lp
    |cons _ _=>rfl
   rw[Ig]
   refine bZ ?_
   have zc:=nD n1 n2
   have ez:wL d (x0::r0) n=(dh d x0++a5 d r0)++fH n:=by
    show x0.2.flatMap (bD d)++(a5 d r0++fH n)=_
    unfold dh
    rw[Kt,show a8 1=[] from rfl,List.nil_append,List.append_assoc]
   rw[ez,List.length_append,List.length_append] at hz
   have Qz:=nu d r0
   have each:∀y∈x0::r0,(dh d y).length≤1000:=fun y hy=>by
    rcases List.mem_cons.mp hy with rfl|hy
    ·omega
    ·obtain⟨a,b,rfl⟩:=List.append_of_mem hy
     have:(a5 d (a++y::b)).length=(a5 d a).length+(46::dh d y++a5 d b).length:=by
      unfold a5
      rw[List.flatMap_append,List.length_append,List.flatMap_cons]
     rw[this,List.length_append,List.length_cons] at hz
     omega
   have QE:Paired (LP d H1) ps (x0::r0):=aR (fun _ _ z=>z.same sz) hP
   refine⟨rfl,_,rfl,l,rfl,⟨_,bC.of vY⟩,fun D1 hD=>eF (K:=K) (a:=l) (D:=D1) (xs:=ps.map V.ref) (fun i σ H'=>∃v:Option V,σ=[v]∧aK H1 H'∧H' D1=some (.lst (((x0::r0).take i).map fun x=>V.str ⟨(dh d x).toArray⟩)))
    ?_ (fun i σ H' _ ⟨_,_,e,_⟩=>bC.of (e _ _ vY)) ?_ ?_⟩
   ·exact⟨none,rfl,aK.new hD,ag⟩
   ·rintro i v σ H' hi ⟨v',rfl,e,jO⟩ N hN
    rw[List.getElem?_map] at hi
    obtain⟨p,hp,rfl⟩:∃p,ps[i]? =some p∧v=V.ref p:=by
     cases hh:ps[i]? with
     |none=>rw[hh] at hi;cases hi
     |some p=>rw[hh] at hi;exact⟨p,rfl,(Option.some.inj hi).symm⟩
    obtain⟨y,hy,hY⟩:=di QE hp
    have my:=List.mem_of_getElem? hy
    refine⟨_,rfl,p,y,rfl,hY.same e,Cc y my,each y my,fun c9 e'=>⟨_,e' _ _ jO,?_,hN _ _ ⟨_,rfl,fun b o z=>?_,?_⟩⟩⟩
    ·rw[List.length_map]
     have:((x0::r0).take i).length≤(x0::r0).length:=List.length_take_le' _ _
     rw[List.length_cons] at this
     omega
    ·rw[ah (af z hD)]
     exact e' _ _ (e _ _ z)
    ·rw[ag,List.take_add_one,hy,List.map_append]
     rfl
   ·rintro σ H' ⟨v,rfl,e,jO⟩
    rw[List.length_map,lp,List.take_length] at jO
    have ej:Txt.join "." ((x0::r0).map fun y=>(⟨(dh d y).toArray⟩:Str))=⟨(dh d x0++a5 d r0).toArray⟩:=by
     have:=PyProof.Rows.join_closes (sep:=".") (sep':=".") (ys:=(x0::r0).map fun y=>(⟨(dh d y).toArray⟩:Str)) rfl
     rw[←jh]
     simpa using this
    have es:(((x0::r0).map fun y=>(⟨(dh d y).toArray⟩:Str)).map (·.length)).sum≤(dh d x0).length+(a5 d r0).length:=by
     rw[List.map_map,List.map_cons,List.sum_cons]
     have:∀r:List de,(r.map ((·.length)∘fun y=>(⟨(dh d y).toArray⟩:Str))).sum≤(a5 d r).length:=fun r=>by
      induction r with
      |nil=>exact Nat.le_refl _
      |cons y r ih=>
       show (⟨(dh d y).toArray⟩:Str).length+(r.map ((·.length)∘fun y=>(⟨(dh d y).toArray⟩:Str))).sum≤(46::dh d y++a5 d r).length
       rw[aH,List.length_append,List.length_cons]
       omega
     have h2:=this r0
     show (⟨(dh d x0).toArray⟩:Str).length+_≤_
     rw[aH]
     omega
    refine⟨_,D1,(x0::r0).map (fun y=>⟨(dh d y).toArray⟩),rfl,rfl,bC.of (by rw[jO,List.map_map];rfl),?_,?_⟩
    ·have e0:("." :Str).length=1:=by decide+kernel
     rw[e0,List.length_map,List.length_cons]
     omega
    ·rw[ej]
     rw[ez] at q
     refine⟨_,rfl,rfl,_,rfl,dG (fun c=>?_) fun c=>?_⟩
     ·have c:n=0:=by simpa using c
      subst c
      rw[show fH 0=[] from rfl,List.append_nil] at q
      exact⟨_,rfl,q _ (sz.trans e)⟩
     ·have c:¬n=0:=by simpa using c
      have a1:1≤(if n<0 then -n else n):=by split<;>omega
      have a2:(if n<0 then -n else n)≤999:=by split<;>omega
      have zf:=eL a1 a2
      have l1:("^" :Str).length=1:=by decide+kernel
      rw[←a6,zi c] at q
      refine⟨_,rfl,_,_,rfl,rfl,by rw[l1,aH,List.length_append];omega,_,rfl,n,rfl,_,rfl,a1,a2,_,_,rfl,rfl,by rw[bc,l1,aH,List.length_append];omega,(by show 2≤sizeLine;decide),fun y hy=>?_⟩
      have sy:=aK.new (o:= .lst [V.str "-",V.str "+"]) hy
      refine⟨_,rfl,_,_,rfl,rfl, .inr ⟨_,rfl,y,_,_,_,rfl,rfl,bC.of ag,Ci n,_,_,rfl,rfl,?_,?_⟩⟩
      ·have l2:(if 0<n then ("+" :Str) else ("-" :Str)).length=1:=by split<;>decide+kernel
       rw[bc,bc,l1,l2,aH,List.length_append]
       omega
      ·have:=q _ ((sz.trans e).trans sy)
       rw[←lH,←lH] at this
       exact this
variable {uC uP uI uD uL uT:Tok}
def ms(d:Nat)(t:Tr):Nat:=(bD d t).length
def g6(d:Nat)(ts:List Tr):Nat:=(ts.map (ms d)).sum
theorem wF(d:Nat)(ts:List Tr)(t:Tr):g6 d (ts++[t])=g6 d ts+ms d t:=by
 unfold g6
 rw[List.map_append,List.sum_append]
 simp
theorem wG{n:Int}(h1:1≤n)(h2:n≤999):(a8 n).length≤3:=by
 have:=eL h1 h2
 rwa [bO,aH] at this
theorem nH(d:Nat)(k:List Nat)(n:Int):ms d (.one k n)=k.length+(a8 n).length:=by
 unfold ms
 rw[show bD d (.one k n)=k++a8 n by cases d<;>rfl,List.length_append]
theorem jP{d:Nat}{k:List Nat}{n:Int}(hk:jK k)(n1:1≤n)(n2:n≤999):ms d (.one k n)≤6:=by
 have h1:=nB hk
 rw[aH] at h1
 have h2:=wG n1 n2
 rw[nH]
 omega
theorem zk{k:List Nat}(h:jK k):1≤k.length:=by
 obtain⟨c,r,rfl,_⟩:=h
 rw[List.length_cons]
 omega
theorem Cm{d:Nat}{t:Tr}(h:iQ d t):1≤ms d t:=by
 cases t with
 |one k n=>
  have wb:jK k∧1≤n∧n≤999:=by cases d<;>exact h
  have:=zk wb.1
  rw[nH]
  omega
 |gr ts n=>
  cases d with
  |zero=>exact h.elim
  |succ d=>
   show 1≤(40::(ts.flatMap (bD d)++41::a8 n)).length
   rw[List.length_cons]
   omega
theorem kK(d:Nat)(ts:List Tr):(ts.flatMap (bD d)).length=g6 d ts:=by
 unfold g6 ms
 rw[List.length_flatMap]
theorem EL(d:Nat)(ts:List Tr)(n:Int):ms (d+1) (.gr ts n)=2+g6 d ts+(a8 n).length:=by
 show (40::(ts.flatMap (bD d)++41::a8 n)).length=_
 rw[List.length_cons,List.length_append,List.length_cons,kK]
 omega
theorem pH{d:Nat}{k:List Nat}{n:Int}(hk:jK k)(n1:1≤n)(n2:n≤999):g6 d [.one k n]≤6:=by
 have:=jP (d:=d) hk n1 n2
 unfold g6
 rw[List.map_cons,List.map_nil,List.sum_cons,List.sum_nil]
 omega
theorem zm{n:Int}(h1:1≤n)(h2:n≤3):(a8 n).length≤1:=by
 have e:n=1∨n=2∨n=3:=by omega
 rcases e with rfl|rfl|rfl<;>decide+kernel
def jr(ks:List (List Nat))(d:Nat)(t:Tr):Prop:=∀m,∀p∈r8 d m t,∃k∈ks,p.1=⟨k.toArray⟩
theorem jr.more{ks md:List (List Nat)}{d:Nat}{t:Tr}(h:jr ks d t)(e:∀k∈ks,k∈md):jr md d t:=fun m p hp=>let ⟨k,hk,hp⟩:=h m p hp;⟨k,e k hk,hp⟩
theorem jr.one{ks:List (List Nat)}{d:Nat}{k:List Nat}{n:Int}(h:k∈ks):jr ks d (.one k n):=fun m p hp=>by
 rw[show r8 d m (.one k n)=[(⟨k.toArray⟩,n*m)] by cases d<;>rfl] at hp
 have e:p=(⟨k.toArray⟩,n*m):=by simpa using hp
 exact⟨k,h,by rw[e]⟩
theorem jr.gr{ks:List (List Nat)}{d:Nat}{ts:List Tr}{n:Int}(h:∀t∈ts,jr ks d t):jr ks (d+1) (.gr ts n):=fun m p hp=>by
 obtain⟨t,ht,hp⟩:=List.mem_flatMap.mp (show p∈ts.flatMap (r8 d (n*m)) from hp)
 exact h t ht _ p hp
structure wH(ks:List (List Nat))(W:List Addr)(H:Hp)(d:Nat)(l:Addr)(us:List Tr):Prop where
 at_:∃ps,H l=some (.lst (ps.map V.ref))∧Paired (LT d W H) ps us
 ok:∀t∈us,iQ d t
 kd:∀t∈us,jr ks d t
theorem wH.keep{ks md:List (List Nat)}{W W':List Addr}{H H':Hp}{d:Nat}{l:Addr}{us:List Tr}(h:wH ks W H d l us)(hl:∀o,H l=some o→H' l=some o)(e:∀b o,H b=some o→b∉W→H' b=some o∧b∉W')(hk:∀k∈ks,k∈md):wH md W' H' d l us:=by
 obtain⟨ps,h1,h2⟩:=h.at_
 exact⟨⟨ps,hl _ h1,aR (fun _ _ z=>z.keep e) h2⟩,h.ok,fun t ht=>(h.kd t ht).more hk⟩
theorem wH.snoc{ks:List (List Nat)}{W:List Addr}{H:Hp}{d:Nat}{l a:Addr}{us:List Tr}{t:Tr}(h:wH ks W H d l us)(hW:l∈W)(ht:LT d W H a t)(n8:iQ d t)(kt:jr ks d t):∃ps:List Addr,H l=some (.lst (ps.map V.ref))∧wH ks W (upd H l (.lst (ps.map V.ref++[V.ref a]))) d l (us++[t]):=by
 obtain⟨ps,h1,h2⟩:=h.at_
 have kb:∀b o,H b=some o→b∉W→(upd H l (.lst (ps.map V.ref++[V.ref a]))) b=some o∧b∉W:=fun b o z w=>⟨by rw[ah fun y=>w (by rw[y];exact hW)];exact z,w⟩
 refine⟨ps,h1,⟨⟨ps++[a],by rw[ag,List.map_append];rfl,cK (p:=LT d W _) (ht.keep kb) (aR (fun _ _ z=>z.keep kb) h2)⟩,fun x hx=>?_,fun x hx=>?_⟩⟩
 ·rcases List.mem_append.mp hx with hx|hx
  ·exact h.ok x hx
  ·have:x=t:=by simpa using hx
   rw[this];exact n8
 ·rcases List.mem_append.mp hx with hx|hx
  ·exact h.kd x hx
  ·have:x=t:=by simpa using hx
   rw[this];exact kt
def Cn(ks:List (List Nat))(W:List Addr)(H:Hp)(a:Addr)(x:de):Prop:=∃l,H a=some (.tup [.str "piece", .ref l, .int x.1])∧a∉W∧l∉W∧wH ks W H 4 l x.2∧x.2≠[]∧1≤x.1∧x.1≤999
theorem Cn.keep{ks md:List (List Nat)}{W W':List Addr}{H H':Hp}{a:Addr}{x:de}(h:Cn ks W H a x)(e:∀b o,H b=some o→b∉W→H' b=some o∧b∉W')(hk:∀k∈ks,k∈md):Cn md W' H' a x:=by
 obtain⟨l,h1,h2,h3,h4,h5⟩:=h
 obtain⟨ps,hl,_⟩:=h4.at_
 exact⟨l,(e _ _ h1 h2).1,(e _ _ h1 h2).2,(e _ _ hl h3).2,h4.keep (fun o z=>(e _ _ z h3).1) e hk,h5⟩
def em(us:List Tr):Nat:=match us with
 | []=>2
 |_=>0
def pI:Nat→List (Addr×List Tr)→Nat
 |_,[]=>0
 |j,z::r=>4+em z.2+g6 (4 - j) z.2+pI (j+1) r
theorem d9:∀(j:Nat) (Y Z:List (Addr×List Tr)),pI j (Y++Z)=pI j Y+pI (j+Y.length) Z
 |j,[],Z=>by simp [pI]
 |j,y::Y,Z=>by
  rw[List.cons_append,pI,d9 (j+1) Y Z,pI,List.length_cons,show j+1+Y.length=j+(Y.length+1) by omega]
  omega
def jQ(xs:List de):Nat:=(xs.map fun x=>4+g6 4 x.2).sum
theorem zo(us:List Tr)(t:Tr):em (us++[t])=0:=by
 cases us<;>rfl
def Ops(ks:List (List Nat))(W:List Addr)(H:Hp):Nat→List (Addr×List Tr)→Prop
 |_,[]=>True
 |j,z::r=>wH ks W H (4 - j) z.1 z.2∧Ops ks W H (j+1) r
theorem Ops.keep{ks md:List (List Nat)}{W W':List Addr}{H H':Hp}(e:∀b o,H b=some o→b∉W→H' b=some o∧b∉W')(hk:∀k∈ks,k∈md):∀{j:Nat} {Z:List (Addr×List Tr)},Ops ks W H j Z→(∀z∈Z,∀o,H z.1=some o→H' z.1=some o)→Ops md W' H' j Z
 |_,[],_,_=>trivial
 |_,z::_,h,hz=>⟨h.1.keep (hz z (List.mem_cons_self ..)) e hk,Ops.keep e hk h.2 fun y hy=>hz y (List.mem_cons_of_mem _ hy)⟩
theorem Ops.app{ks:List (List Nat)}{W:List Addr}{H:Hp}:∀{j:Nat} {Y Z:List (Addr×List Tr)},Ops ks W H j (Y++Z)↔Ops ks W H j Y∧Ops ks W H (j+Y.length) Z
 |j,[],Z=>by simp [Ops]
 |j,y::Y,Z=>by
  rw[List.cons_append,Ops,Ops,Ops.app,List.length_cons,show j+1+Y.length=j+(Y.length+1) by omega,and_assoc]
structure gL(N B:Nat)(H0 H:Hp)(PL ST:Addr)(pa:List Addr)(pz:Addr)(xs:List de)(c:Int)(Z:List (Addr×List Tr))(ks:List (List Nat)):Prop where
 pl:H PL=some (.lst ((pa++[pz]).map V.ref))
 st:H ST=some (.lst ((Z.map (·.1)).map V.ref))
 nd:(PL::ST::Z.map (·.1)).Nodup
 l1:1≤Z.length
 l5:Z.length≤5
 cl:Paired (Cn ks (PL::ST::Z.map (·.1)) H) pa xs
 pz:∃z,Z[0]? =some z∧H pz=some (.tup [.str "piece", .ref z.1, .int c])∧pz∉PL::ST::Z.map (·.1)
 c1:1≤c∧c≤999
 c0:xs=[]→c=1
 h1:∀x,xs[0]? =some x→x.1=1
 op:Ops ks (PL::ST::Z.map (·.1)) H 0 Z
 kn:ks.length≤N
 kh:[72]∈ks
 mu:jQ xs+pI 0 Z≤B
 sm:aK H0 H
 nw:H0 PL=none∧H0 ST=none∧∀z∈Z,H0 z.1=none
section
variable {N B:Nat}{H0 H H':Hp}{PL ST:Addr}{pa:List Addr}{pz:Addr}{xs:List de}{c:Int}{Z Y:List (Addr×List Tr)}{ks:List (List Nat)}
theorem jR:∀{j:Nat} {Z:List (Addr×List Tr)} {W:List Addr},Ops ks W H j Z→∀z∈Z,∃(d:Nat),wH ks W H d z.1 z.2
 |_,[],_,_,z,hz=>by cases hz
 |j,y::r,W,h,z,hz=>by
  rcases List.mem_cons.mp hz with rfl|hz
  ·exact⟨_,h.1⟩
  ·exact jR h.2 z hz
theorem gL.same(S:gL N B H0 H PL ST pa pz xs c Z ks)(e:aK H H'):gL N B H0 H' PL ST pa pz xs c Z ks:=by
 have kb:∀b o,H b=some o→b∉PL::ST::Z.map (·.1)→H' b=some o∧b∉PL::ST::Z.map (·.1):=fun b o z w=>⟨e _ _ z,w⟩
 obtain⟨z,h1,h2,h3⟩:=S.pz
 exact⟨e _ _ S.pl,e _ _ S.st,S.nd,S.l1,S.l5,aR (fun _ _ z=>z.keep kb fun _ h=>h) S.cl,⟨z,h1,e _ _ h2,h3⟩,S.c1,S.c0,S.h1,S.op.keep kb (fun _ h=>h) (fun z _ o w=>e _ _ w),S.kn,S.kh,S.mu,S.sm.trans e,S.nw⟩
theorem gL.kind(S:gL N B H0 H PL ST pa pz xs c Z ks)(k:List Nat):gL (N+1) B H0 H PL ST pa pz xs c Z (ks++[k]):=by
 have kb:∀b o,H b=some o→b∉PL::ST::Z.map (·.1)→H b=some o∧b∉PL::ST::Z.map (·.1):=fun b o z w=>⟨z,w⟩
 have kk:∀x∈ks,x∈ks++[k]:=fun x hx=>List.mem_append_left _ hx
 exact⟨S.pl,S.st,S.nd,S.l1,S.l5,aR (fun _ _ z=>z.keep kb kk) S.cl,S.pz,S.c1,S.c0,S.h1,S.op.keep kb kk (fun z _ o w=>w),by rw[List.length_append];exact Nat.succ_le_succ S.kn,kk _ S.kh,S.mu,S.sm,S.nw⟩
theorem gL.more{B':Nat}(S:gL N B H0 H PL ST pa pz xs c Z ks)(h:B≤B'):gL N B' H0 H PL ST pa pz xs c Z ks:=⟨S.pl,S.st,S.nd,S.l1,S.l5,S.cl,S.pz,S.c1,S.c0,S.h1,S.op,S.kn,S.kh,Nat.le_trans S.mu h,S.sm,S.nw⟩
theorem gL.app{l a:Addr}{us:List Tr}{t:Tr}{B':Nat}(S:gL N B H0 H PL ST pa pz xs c (Y++[(l,us)]) ks)(ht:LT (4 - Y.length) (PL::ST::(Y++[(l,us)]).map (·.1)) H a t)(n8:iQ (4 - Y.length) t)(kt:jr ks (4 - Y.length) t)(hB:B+ms (4 - Y.length) t≤B'+em us):
  ∃ps:List Addr,H l=some (.lst (ps.map V.ref))∧ps.length=us.length∧gL N B' H0 (upd H l (.lst (ps.map V.ref++[V.ref a]))) PL ST pa pz xs c (Y++[(l,us++[t])]) ks:=by
 have eW:(Y++[(l,us++[t])]).map (·.1)=(Y++[(l,us)]).map (·.1):=by rw[List.map_append,List.map_append];rfl
 have oo:=Ops.app.mp S.op
 rw[Nat.zero_add] at oo
 have hW:l∈PL::ST::(Y++[(l,us)]).map (·.1):=by simp
 obtain⟨ps,hl,O'⟩:=oo.2.1.snoc hW ht n8 kt
 have qN:ps.length=us.length:=by
  obtain⟨qs,hq,BZ⟩:=oo.2.1.at_
  rw[hl] at hq
  have e:ps.map V.ref=qs.map V.ref:=by injection hq with e;injection e
  have:=congrArg List.length e
  rw[List.length_map,List.length_map] at this
  rw[this]
  exact Paired.length BZ
 have nd:=S.nd
 simp only [List.map_append,List.map_cons,List.map_nil] at nd
 have nP:PL≠l:=fun z=>by simp [z] at nd
 have nS:ST≠l:=fun z=>by simp [z] at nd
 have nY:∀y∈Y,y.1≠l:=fun y hy z=>by
  rw[List.nodup_cons,List.nodup_cons,List.nodup_append] at nd
  exact nd.2.2.2.2 _ (List.mem_map.mpr ⟨y,hy,z⟩) l (by simp) rfl
 have kb:∀b o,H b=some o→b∉PL::ST::(Y++[(l,us)]).map (·.1)→(upd H l (.lst (ps.map V.ref++[V.ref a]))) b=some o∧b∉PL::ST::(Y++[(l,us)]).map (·.1):=fun b o z w=>⟨by rw[ah fun y=>w (by rw[y];exact hW)];exact z,w⟩
 refine⟨ps,hl,qN,⟨by rw[ah nP];exact S.pl,by rw[ah nS,eW];exact S.st,by rw[eW];exact S.nd,by simp,by have:=S.l5;simpa using this,?_,?_,S.c1,S.c0,S.h1,?_,S.kn,S.kh,?_,fun b o z=>?_,?_⟩⟩
 ·rw[eW]
  exact aR (fun _ _ z=>z.keep kb fun _ h=>h) S.cl
 ·obtain⟨z,h1,h2,h3⟩:=S.pz
  rw[eW]
  cases Y with
  |nil=>
   have e:z=(l,us):=by simpa using h1.symm
   subst e
   exact⟨(l,us++[t]),rfl,(kb _ _ h2 h3).1,h3⟩
  |cons y r=>exact⟨z,h1,(kb _ _ h2 h3).1,h3⟩
 ·rw[eW]
  refine Ops.app.mpr ⟨oo.1.keep kb (fun _ h=>h) fun y hy o z=>by rw[ah (nY y hy)];exact z,?_⟩
  rw[Nat.zero_add]
  exact⟨O',trivial⟩
 ·have h1:=S.mu
  rw[d9] at h1 ⊢
  rw[Nat.zero_add] at h1 ⊢
  simp only [pI] at h1 ⊢
  rw[zo,wF]
  omega
 ·have nl:b≠l:=af z (S.nw.2.2 _ (List.mem_append_right _ (List.mem_singleton.mpr rfl)))
  rw[ah nl]
  exact S.sm _ _ z
 ·refine⟨S.nw.1,S.nw.2.1,fun z hz=>?_⟩
  rcases List.mem_append.mp hz with hz|hz
  ·exact S.nw.2.2 z (List.mem_append_left _ hz)
  ·have e:z=(l,us++[t]):=by simpa using hz
   rw[e]
   exact S.nw.2.2 (l,us) (List.mem_append_right _ (List.mem_singleton.mpr rfl))
theorem gL.push{g:Addr}{us:List Tr}{ps:List Addr}(S:gL N B H0 H PL ST pa pz xs c Z ks)(h4:Z.length≤4)(ng:H g=none)(ho:Paired (LT (4 - Z.length) (PL::ST::Z.map (·.1)) H) ps us)(n8:∀t∈us,iQ (4 - Z.length) t)(kt:∀t∈us,jr ks (4 - Z.length) t):
  gL N (B+(4+em us+g6 (4 - Z.length) us)) H0 (upd (upd H g (.lst (ps.map V.ref))) ST (.lst ((Z.map (·.1)).map V.ref++[V.ref g]))) PL ST pa pz xs c (Z++[(g,us)]) ks:=by
 have nP:PL≠g:=af S.pl ng
 have nS:ST≠g:=af S.st ng
 have nZ:∀z∈Z,z.1≠g:=fun z hz=>by
  obtain⟨d,O⟩:=jR S.op z hz
  obtain⟨qs,hq,_⟩:=O.at_
  exact af hq ng
 have nd:=S.nd
 have Ku:PL≠ST:=fun z=>by simp [z] at nd
 have Kv:∀z∈Z,z.1≠ST:=fun z hz w=>by
  rw[List.nodup_cons,List.nodup_cons] at nd
  exact nd.2.1 (by rw[←w];exact List.mem_map.mpr ⟨z,hz,rfl⟩)
 have eW:(Z++[(g,us)]).map (·.1)=Z.map (·.1)++[g]:=by rw[List.map_append];rfl
 have Kw:∀b,b∉PL::ST::Z.map (·.1)→b≠g→b∉PL::ST::(Z++[(g,us)]).map (·.1):=fun b h1 h2 h3=>by
  rw[eW] at h3
  simp only [List.mem_cons,List.mem_append,List.not_mem_nil,or_false] at h1 h3
  rcases h3 with h3|h3|h3|h3
  ·exact h1 (.inl h3)
  ·exact h1 (.inr (.inl h3))
  ·exact h1 (.inr (.inr h3))
  ·exact h2 h3
 have kb:∀b o,H b=some o→b∉PL::ST::Z.map (·.1)→(upd (upd H g (.lst (ps.map V.ref))) ST (.lst ((Z.map (·.1)).map V.ref++[V.ref g]))) b=some o∧b∉PL::ST::(Z++[(g,us)]).map (·.1):=fun b o z w=>
  ⟨by rw[ah fun y=>w (by rw[y];simp),ah (af z ng)];exact z,Kw b w (af z ng)⟩
 refine⟨by rw[ah Ku,ah nP];exact S.pl,by rw[ag,eW,List.map_append];rfl,?_,by simp,by simp;omega,aR (fun _ _ z=>z.keep kb fun _ h=>h) S.cl,?_,S.c1,S.c0,S.h1,?_,S.kn,S.kh,?_,fun b o z=>?_,?_⟩
 ·rw[eW]
  have:(PL::ST::(Z.map (·.1)++[g]))=(PL::ST::Z.map (·.1))++[g]:=rfl
  rw[this,List.nodup_append]
  refine⟨nd,by simp,fun x hx y hy=>?_⟩
  have e:y=g:=by simpa using hy
  subst e
  simp only [List.mem_cons] at hx
  rcases hx with rfl|rfl|hx
  ·exact nP
  ·exact nS
  ·obtain⟨z,hz,rfl⟩:=List.mem_map.mp hx
   exact nZ z hz
 ·obtain⟨z,h1,h2,h3⟩:=S.pz
  refine⟨z,?_,(kb _ _ h2 h3).1,(kb _ _ h2 h3).2⟩
  rw[List.getElem?_append_left (List.getElem?_eq_some_iff.mp h1).1]
  exact h1
 ·refine Ops.app.mpr ⟨S.op.keep kb (fun _ h=>h) fun z hz o w=>by rw[ah (Kv z hz),ah (nZ z hz)];exact w,?_⟩
  rw[Nat.zero_add]
  exact⟨⟨⟨ps,by rw[ah (Ne.symm nS)];exact ag,aR (fun _ _ z=>z.keep kb) ho⟩,n8,kt⟩,trivial⟩
 ·have h1:=S.mu
  rw[d9,Nat.zero_add]
  simp only [pI]
  omega
 ·rw[ah (af z S.nw.2.1),ah (af (S.sm _ _ z) ng)]
  exact S.sm _ _ z
 ·refine⟨S.nw.1,S.nw.2.1,fun z hz=>?_⟩
  rcases List.mem_append.mp hz with hz|hz
  ·exact S.nw.2.2 z hz
  ·have e:z=(g,us):=by simpa using hz
   rw[e]
   exact S.sm.free ng
theorem gL.close{l1 l2 a:Addr}{u1 u2:List Tr}{n:Int}(S:gL N B H0 H PL ST pa pz xs c (Y++[(l1,u1),(l2,u2)]) ks)(gP:u2≠[])(na:H a=none)(n1:1≤n)(n2:n≤999){B':Nat}(hB:B+(a8 n).length≤B'+2):
  ∃ps:List Addr,(upd (upd H ST (.lst ((Y.map (·.1)++[l1]).map V.ref))) a (.tup [.str "group", .ref l2, .int n])) l1=some (.lst (ps.map V.ref))∧ps.length=u1.length∧gL N B' H0 (upd (upd (upd H ST (.lst ((Y.map (·.1)++[l1]).map V.ref))) a (.tup [.str "group", .ref l2, .int n])) l1 (.lst (ps.map V.ref++[V.ref a]))) PL ST pa pz xs c (Y++[(l1,u1++[.gr u2 n])]) ks:=by
 have nd:=S.nd
 have eZ:Y++[(l1,u1),(l2,u2)]=(Y++[(l1,u1)])++[(l2,u2)]:=by simp
 have l5:=S.l5
 rw[List.length_append] at l5
 have l5:Y.length+2≤5:=l5
 have oo:=S.op
 rw[eZ] at oo
 have oo:=Ops.app.mp oo
 rw[Nat.zero_add,List.length_append] at oo
 obtain⟨op,o2,_⟩:=oo
 rw[←eZ] at op o2
 have o2:wH ks _ H (4 - (Y.length+1)) l2 u2:=o2
 obtain⟨QF,Ih,QG⟩:=o2.at_
 have hm:∀b,b∉PL::ST::(Y++[(l1,u1),(l2,u2)]).map (·.1)→b∉PL::ST::(Y++[(l1,u1)]).map (·.1):=fun b h1 h2=>h1 (by
  simp only [List.map_append,List.map_cons,List.map_nil,List.mem_cons,List.mem_append,List.not_mem_nil,or_false] at h2 ⊢
  rcases h2 with h2|h2|h2|h2
  ·exact .inl h2
  ·exact .inr (.inl h2)
  ·exact .inr (.inr (.inl h2))
  ·exact .inr (.inr (.inr (.inl h2))))
 have Kx:=nd
 simp only [List.map_append,List.map_cons,List.map_nil] at Kx
 rw[List.nodup_cons,List.nodup_cons,List.nodup_append] at Kx
 obtain⟨q1,q2,q3,q4,q5⟩:=Kx
 simp only [List.mem_cons,List.mem_append,List.not_mem_nil,or_false,not_or] at q1 q2
 have QH:l2∉PL::ST::(Y++[(l1,u1)]).map (·.1):=by
  simp only [List.map_append,List.map_cons,List.map_nil,List.mem_cons,List.mem_append,List.not_mem_nil,or_false,not_or]
  refine⟨fun z=>q1.2.2.2 z.symm,fun z=>q2.2.2 z.symm,fun z=>q5 _ z l2 (by simp) rfl,fun z=>?_⟩
  rw[z] at q4
  simp at q4
 have Ku:PL≠ST:=q1.1
 have OG:PL≠a:=af S.pl na
 have Dt:ST≠a:=af S.st na
 have Kv:∀z∈Y++[(l1,u1)],z.1≠ST:=fun z hz w=>by
  rcases List.mem_append.mp hz with hz|hz
  ·exact q2.1 (by rw[←w];exact List.mem_map.mpr ⟨z,hz,rfl⟩)
  ·have e:z=(l1,u1):=by simpa using hz
   rw[e] at w
   exact q2.2.1 w.symm
 have QI:l2≠ST:=fun z=>q2.2.2 z.symm
 have kb:∀b o,H b=some o→b∉PL::ST::(Y++[(l1,u1),(l2,u2)]).map (·.1)→(upd (upd H ST (.lst ((Y.map (·.1)++[l1]).map V.ref))) a (.tup [.str "group", .ref l2, .int n])) b=some o∧b∉PL::ST::(Y++[(l1,u1)]).map (·.1):=fun b o z w=>
  ⟨by rw[ah (af z na),ah fun y=>w (by rw[y];simp)];exact z,hm b w⟩
 have mu:=S.mu
 rw[eZ,d9,Nat.zero_add,List.length_append] at mu
 simp only [pI] at mu
 have Ky:em u2=0:=by
  cases u2 with
  |nil=>exact absurd rfl gP
  |cons _ _=>rfl
 have mu:jQ xs+(pI 0 (Y++[(l1,u1)])+(4+em u2+g6 (4 - (Y.length+1)) u2+0))≤B:=mu
 rw[Ky] at mu
 have S1:gL N (B - (4+g6 (4 - (Y.length+1)) u2)) H0 (upd (upd H ST (.lst ((Y.map (·.1)++[l1]).map V.ref))) a (.tup [.str "group", .ref l2, .int n])) PL ST pa pz xs c (Y++[(l1,u1)]) ks:=by
  refine⟨by rw[ah OG,ah Ku];exact S.pl,by rw[ah Dt,ag];simp,?_,by simp,by simp;omega,aR (fun _ _ z=>z.keep kb fun _ h=>h) S.cl,?_,S.c1,S.c0,S.h1,?_,S.kn,S.kh,by omega,fun b o z=>?_,⟨S.nw.1,S.nw.2.1,fun z hz=>S.nw.2.2 z (by rw[eZ];exact List.mem_append_left _ hz)⟩⟩
  ·have e:(PL::ST::(Y++[(l1,u1),(l2,u2)]).map (·.1))=(PL::ST::(Y++[(l1,u1)]).map (·.1))++[l2]:=by simp
   rw[e,List.nodup_append] at nd
   exact nd.1
  ·obtain⟨z,h1,h2,h3⟩:=S.pz
   refine⟨z,?_,(kb _ _ h2 h3).1,(kb _ _ h2 h3).2⟩
   rw[eZ,List.getElem?_append_left (by simp)] at h1
   exact h1
  ·exact op.keep kb (fun _ h=>h) fun z hz o w=>by rw[ah (af w na),ah (Kv z hz)];exact w
  ·rw[ah (af (S.sm _ _ z) na),ah (af z S.nw.2.1)]
   exact S.sm _ _ z
 have ed:4 - Y.length=(4 - (Y.length+1))+1:=by omega
 have hT:LT (4 - Y.length) (PL::ST::(Y++[(l1,u1)]).map (·.1)) (upd (upd H ST (.lst ((Y.map (·.1)++[l1]).map V.ref))) a (.tup [.str "group", .ref l2, .int n])) a (.gr u2 n):=by
  rw[ed]
  refine⟨l2,QF,ag,?_,QH,by rw[ah (af Ih na),ah QI];exact Ih,aR (fun _ _ z=>z.keep kb) QG⟩
  intro z
  simp only [List.mem_cons] at z
  rcases z with z|z|z
  ·exact OG z.symm
  ·exact Dt z.symm
  ·obtain⟨y,hy,e⟩:=List.mem_map.mp z
   obtain⟨d,O⟩:=jR S.op y (by rw[eZ];exact List.mem_append_left _ hy)
   obtain⟨qs,hq,_⟩:=O.at_
   rw[e,na] at hq
   cases hq
 have QJ:iQ (4 - Y.length) (.gr u2 n):=by
  rw[ed]
  exact⟨gP,o2.ok,n1,n2⟩
 have kg:jr ks (4 - Y.length) (.gr u2 n):=by
  rw[ed]
  exact jr.gr o2.kd
 have QK:ms (4 - Y.length) (.gr u2 n)=2+g6 (4 - (Y.length+1)) u2+(a8 n).length:=by
  rw[ed,EL]
 exact S1.app hT QJ kg (by rw[QK];omega)
theorem gL.Ao{l g b n9:Addr}{u us:List Tr}{ps:List Addr}{n:Int}(S:gL N B H0 H PL ST pa pz xs c [(l,u)] ks)(gP:u≠[])(ng:H g=none)(nb:H b=none)(ns:H n9=none)(gb:g≠b)(gs:g≠n9)(bs:b≠n9)(n1:1≤n)(n2:n≤999)(ho:Paired (LT 4 [PL,ST,l] H) ps us)(n8:∀t∈us,iQ 4 t)(kt:∀t∈us,jr ks 4 t):
  gL N (B+(4+em us+g6 4 us)) H0 (upd (upd (upd (upd H g (.lst (ps.map V.ref))) b (.tup [.str "piece", .ref g, .int n])) PL (.lst ((pa++[pz]).map V.ref++[V.ref b]))) n9 (.lst [V.ref g])) PL n9 (pa++[pz]) b (xs++[(c,u)]) n [(g,us)] ks:=by
 have Iq:PL≠g:=af S.pl ng
 have EM:PL≠b:=af S.pl nb
 have Ir:PL≠n9:=af S.pl ns
 have nd:=S.nd
 simp only [List.map_cons,List.map_nil] at nd
 have OH:PL≠l:=fun z=>by simp [z] at nd
 have S2:ST≠l:=fun z=>by simp [z] at nd
 obtain⟨z,h1,h2,h3⟩:=S.pz
 have e:z=(l,u):=by simpa using h1.symm
 subst e
 have o1:wH ks [PL,ST,l] H 4 l u:=S.op.1
 obtain⟨S3,Dq,_⟩:=o1.at_
 have kb:∀x o,H x=some o→x∉[PL,ST,l]→(upd (upd (upd (upd H g (.lst (ps.map V.ref))) b (.tup [.str "piece", .ref g, .int n])) PL (.lst ((pa++[pz]).map V.ref++[V.ref b]))) n9 (.lst [V.ref g])) x=some o∧x∉[PL,n9,g]:=fun x o z w=>
  ⟨by rw[ah (af z ns),ah fun y=>w (by rw[y];simp),ah (af z nb),ah (af z ng)];exact z,fun y=>by
   simp only [List.mem_cons,List.not_mem_nil,or_false] at y w
   rcases y with y|y|y
   ·exact w (.inl y)
   ·exact af z ns y
   ·exact af z ng y⟩
 have EN:∀o,H l=some o→(upd (upd (upd (upd H g (.lst (ps.map V.ref))) b (.tup [.str "piece", .ref g, .int n])) PL (.lst ((pa++[pz]).map V.ref++[V.ref b]))) n9 (.lst [V.ref g])) l=some o:=fun o z=>by
  rw[ah (af z ns),ah (Ne.symm OH),ah (af z nb),ah (af z ng)]
  exact z
 have lW:l∉[PL,n9,g]:=fun y=>by
  simp only [List.mem_cons,List.not_mem_nil,or_false] at y
  rcases y with y|y|y
  ·exact OH y.symm
  ·exact af Dq ns y
  ·exact af Dq ng y
 refine⟨by rw[ah Ir,ag,List.map_append,List.map_append,List.map_append];rfl,ag,by simp [Ir,Iq,Ne.symm gs],by simp,by simp,?_,⟨(g,us),rfl,by rw[ah bs,ah (Ne.symm EM)];exact ag,by simp [Ne.symm EM,bs,Ne.symm gb]⟩,⟨n1,n2⟩,(fun z=>by simp at z),?_,⟨⟨⟨ps,?_,aR (fun _ _ z=>z.keep kb) ho⟩,n8,kt⟩,trivial⟩,S.kn,S.kh,?_,fun x o z=>?_,⟨S.nw.1,S.sm.free ns,fun z hz=>?_⟩⟩
 ·refine cK (p:=Cn ks _ _) ⟨l,(kb _ _ h2 h3).1,(kb _ _ h2 h3).2,lW,o1.keep EN kb fun _ h=>h,gP,S.c1.1,S.c1.2⟩ (aR (fun _ _ z=>z.keep kb fun _ h=>h) S.cl)
 ·intro x hx
  cases xs with
  |nil=>
   have e:x=(c,u):=by simpa using hx.symm
   rw[e]
   exact S.c0 rfl
  |cons y r=>exact S.h1 x hx
 ·rw[ah gs,ah (Ne.symm Iq),ah gb]
  exact ag
 ·have h1:=S.mu
  have Ky:em u=0:=by
   cases u with
   |nil=>exact absurd rfl gP
   |cons _ _=>rfl
  simp only [pI] at h1 ⊢
  have e1:jQ (xs++[(c,u)])=jQ xs+(4+g6 4 u):=by
   unfold jQ
   rw[List.map_append,List.sum_append]
   simp
  rw[e1]
  have h1:jQ xs+(4+em u+g6 4 u+0)≤B:=h1
  show jQ xs+(4+g6 4 u)+(4+em us+g6 4 us+0)≤_
  omega
 ·have zz:=S.sm _ _ z
  rw[ah (af zz ns),ah (af z S.nw.1),ah (af zz nb),ah (af zz ng)]
  exact zz
 ·have e:z=(g,us):=by simpa using hz
  rw[e]
  exact S.sm.free ng
end
variable {uC uP uI uD uL uT:Tok}
theorem Ap{t u:TT}{σ:St}{H:Hp}{Q:Bool→Hp→Prop}{b1 b2:Bool}(ht:∀R:Bool→Hp→Prop,R b1 H→t σ H R)(hu:b1=true→∀R:Bool→Hp→Prop,R b2 H→u σ H R)(hq:Q (b1&&b2) H):xY t u σ H Q:=by
 refine ht _ ?_
 cases b1 with
 |false=>exact bZ hq
 |true=>exact cO (hu rfl _ hq)
theorem Co{t u v:TT}{σ:St}{H:Hp}{Q:Bool→Hp→Prop}{b1 b2:Bool}(ht:∀R:Bool→Hp→Prop,R b1 H→t σ H R)(hu:∀R:Bool→Hp→Prop,R b2 H→u σ H R)(hv:b1=true→b2=true→v σ H Q)(hf:Q false H):xY t (xY u v) σ H Q:=by
 refine ht _ ?_
 cases b1 with
 |false=>exact bZ hf
 |true=>
  refine cO (hu _ ?_)
  cases b2 with
  |false=>exact bZ hf
  |true=>exact cO (hv rfl rfl)
theorem kL{α:Type}{Z:List α}(h:1≤Z.length):∃Y a,Z=Y++[a]:=by
 have ne:Z≠[]:=fun z=>by rw[z] at h;simp at h
 exact⟨Z.dropLast,Z.getLast ne,(List.dropLast_concat_getLast ne).symm⟩
theorem pJ{α:Type}{Z:List α}(h:2≤Z.length):∃Y a b,Z=Y++[a,b]:=by
 obtain⟨Y,b,rfl⟩:=kL (Z:=Z) (by omega)
 rw[List.length_append] at h
 obtain⟨X,a,rfl⟩:=kL (Z:=Y) (by have:Y.length+1≥2:=h;omega)
 exact⟨X,a,b,by simp⟩
theorem gj{H:Hp}{a b:Addr}{x y:HO}(h:a≠b):upd (upd H a x) b y=upd (upd H b y) a x:=by
 funext c
 by_cases h1:c=a
 ·subst h1
  rw[ah h,ag,ag]
 ·by_cases h2:c=b
  ·subst h2
   rw[ag,ah h1,ag]
  ·rw[ah h2,ah h1,ah h1,ah h2]
theorem pK(a:Addr)(c:Int):∃ps:List Addr,kW [V.ref a] none (some (c%2))=ps.map V.ref∧(ps=[]∨ps=[a]):=by
 have h0:=Int.emod_nonneg c (show (2 :Int)≠0 by decide)
 have h1:=Int.emod_lt_of_pos c (show (0 :Int) <2 by decide)
 obtain⟨j,hj⟩:∃j:Nat,c%2=(j:Int):=⟨(c%2).toNat,by omega⟩
 rw[hj,Bs]
 have:j=0∨j=1:=by omega
 rcases this with rfl|rfl
 ·exact⟨[],rfl, .inl rfl⟩
 ·exact⟨[a],rfl, .inr rfl⟩
theorem gL.Cp{N B:Nat}{H0 H:Hp}{PL ST:Addr}{pa:List Addr}{pz:Addr}{xs:List de}{c:Int}{Z:List (Addr×List Tr)}{ks:List (List Nat)}(S:gL N B H0 H PL ST pa pz xs c Z ks){a:Addr}(h:H a=none):a∉PL::ST::Z.map (·.1):=fun z=>by
 simp only [List.mem_cons] at z
 rcases z with z|z|z
 ·rw[z,S.pl] at h;cases h
 ·rw[z,S.st] at h;cases h
 ·obtain⟨y,hy,e⟩:=List.mem_map.mp z
  obtain⟨d,O⟩:=jR S.op y hy
  obtain⟨qs,hq,_⟩:=O.at_
  rw[e,h] at hq
  cases hq
theorem kM{d:Nat}:∀{us:List Tr},(∀t∈us,iQ d t)→us.length≤g6 d us
 | [],_=>Nat.zero_le _
 |t::r,ho=>by
  have h1:=Cm (ho t (List.mem_cons_self ..))
  have h2:=kM (us:=r) fun y hy=>ho y (List.mem_cons_of_mem _ hy)
  unfold g6 at h2 ⊢
  rw[List.length_cons,List.map_cons,List.sum_cons]
  omega
def pL(K:PySem.W.Frag):Sp:=fun vs H Q _=>∃(a:Addr) (ns:List Int),vs=[.ref a]∧bC K H a (ns.map V.int)∧ns.length≤38∧∀(l:Addr) (xs:List de) (ks:List (List Nat)) H',aK H H'→OF 4 H' l xs→xs≠[]→(∀n, -999≤n→n≤999→xO 4 xs n∧(wL 4 xs n).length≤400)→jQ xs≤386→ks.length≤39→(∀x∈xs,∀t∈x.2,jr ks 4 t)→Q (.ref l) H'
theorem cz:ax ["_law_cells","_law_pieces_here","_law_stack","_law_cell","_law_way","_law_count_here","_law_atom","_law_some"] ["_law_cells"] (ak jH):=dO
theorem fz{d:Nat}{W:List Addr}{H:Hp}{a:Addr}{k:List Nat}{n:Int}(h:H a=some (.tup [.str "atom", .str ⟨k.toArray⟩, .int n]))(w:a∉W):LT d W H a (.one k n):=by cases d<;>exact⟨h,w⟩
theorem fA{d:Nat}{k:List Nat}{n:Int}(hk:jK k)(n1:1≤n)(n2:n≤999):iQ d (.one k n):=by cases d<;>exact⟨hk,n1,n2⟩
theorem uf(D:Def K mg "_law_pieces" "_law_pieces" jH ["_law_cells"])(T:fX K mg C)(c1:bj P w K mg base 1 "_law_mixed" ["_law_cell","_law_prime"] rN)(c2:bj P w K mg base 1 "_law_count" ["_law_number"] nG)(c3:bj P w K mg base 2 "_law_part" ["_law_number","_law_other"] wA):bj P w K mg base 3 "_law_pieces" ["_law_cells"] (pL K):=by
 obtain⟨_,_,bp⟩:=c1
 obtain⟨_,_,cm⟩:=c2
 obtain⟨_,_,iJ⟩:=c3
 refine D.e9 cz (fun vs H Q E h=>?_) (fun f bb A outer s H vs Q E hr h=>?_)
 ·obtain⟨a,ns,rfl,_⟩:=h
  rfl
 ·obtain⟨a,ns,rfl,hS,S',q⟩:=h
  have hu:=z4 hr
  have big:(3000 :Nat) <sizeLine:=by decide
  refine⟨_,(aj
     (aP (i:=1) cz.nd rfl (Or.inl rfl) (bH (aa (cu (aa aG (aa (bH ai) (aa ao ai)))) ai)))
    (aj
     (aP (i:=2) cz.nd rfl (Or.inl rfl) (bH (aa (bh b6 (bh bJ (pv 1) ao (fun _ _=>rfl)) ao (fun _ _=>rfl)) ai)))
    (aj
     (mw PassesOwn.never rfl (gm (pv 0)) (dF (i:=3) cz.nd rfl (Or.inl rfl))
      (aj
       (aP (i:=4) cz.nd rfl (Or.inl rfl) (az bg (aF bp.ok (hr.mono (by decide)) rfl bp.g bp.kp bp.b .nil aM (aa (pv 3) (aa ao ai))) ao))
      (aj
       (aP (i:=5) cz.nd rfl (Or.inl rfl) (aF cm.ok (hr.mono (by decide)) rfl cm.g cm.kp cm.b .nil aM (aa (aF bp.ok (hr.mono (by decide)) rfl bp.g bp.kp bp.b .nil aM (aa (pv 3) (aa ao ai))) ai)))
      (aj
       (aP (i:=6) cz.nd rfl (Or.inl rfl) (aF iJ.ok (hr.mono (by decide)) rfl iJ.g iJ.kp iJ.b .nil aM (aa (aF bp.ok (hr.mono (by decide)) rfl bp.g bp.kp bp.b .nil aM (aa (pv 3) (aa ao ai))) (aa (aF bp.ok (hr.mono (by decide)) rfl bp.g bp.kp bp.b .nil aM (aa (pv 3) (aa ao ai))) ai))))
      (aq
       (a7 (PW.pt (fK (aA bN (pv 4) ao (aJ _)) (eU (aA om (aS cg rfl T.dB cw (aa (pv 2) ai)) ao (aJ _)))))
        (aq
         (bq (cH PySem.F.plainAttrs_list PySem.F.slot_list_append PySem.F.type_list_append bT (pv 2) (aa (bX mD (bH (aa (pv 6) ai)) d5 (bQ (az bg (pv 3) ao))) ai))))
        (aq
         (a7 (PW.pt (fK (aA bN (pv 4) ao (aJ _)) (eU (aA fP (aS cg rfl T.dB cw (aa (pv 2) ai)) ao (aJ _)))))
          (aj
           (aP (i:=7) cz.nd rfl (Or.inl rfl) (va PySem.F.plainAttrs_list PySem.F.slot_list_pop PySem.F.type_list_pop ve (pv 2)))
          (aj
           (a7 (aA (mJ hu) (pv 7) (bH ai) (aJ _))
            (aq
             (bq (cH PySem.F.plainAttrs_list PySem.F.slot_list_append PySem.F.type_list_append bT (pv 7) (aa (pv 6) ai))))
            aQ)
          (aq
           (bq (cH PySem.F.plainAttrs_list PySem.F.slot_list_append PySem.F.type_list_append bT (bh bJ (pv 2) (hU eX ao) (fun _ _=>rfl)) (aa (cu (aa aG (aa (pv 7) (aa (pv 5) ai)))) ai))))))
          (aq
           (a7 (PW.pt (fK (aA bN (pv 4) ao (aJ _)) (fK (aA bN (aS cg rfl T.dB cw (aa (pv 2) ai)) ao (aJ _)) (eU (aA (Bu hu) (bh bJ (pv 2) ao (fun _ _=>rfl)) (bH ai) (aJ _))))))
            (aj
             (bq (cH PySem.F.plainAttrs_list PySem.F.slot_list_append PySem.F.type_list_append bT (pv 1) (aa (cu (aa aG (aa (bX mD (bH (aa (pv 6) ai)) d5 (bQ (az bg (pv 3) ao))) (aa (pv 5) ai)))) ai)))
            (aq
             (aP (i:=2) cz.nd rfl (Or.inl rfl) (bH (aa (bh b6 (bh bJ (pv 1) (hU eX ao) (fun _ _=>rfl)) ao (fun _ _=>rfl)) ai)))))
            (aq
             (bq (cH PySem.F.plainAttrs_list PySem.F.slot_list_append PySem.F.type_list_append bT (bh bJ (pv 2) (hU eX ao) (fun _ _=>rfl)) (aa (pv 6) ai))))))))))))))
    (aj
     (fN PassesOwn.never (aA fP (aS cg rfl T.dB cw (aa (pv 2) ai)) ao (aJ _))
      (aj
       (aP (i:=7) cz.nd rfl (Or.inl rfl) (va PySem.F.plainAttrs_list PySem.F.slot_list_pop PySem.F.type_list_pop ve (pv 2)))
      (aj
       (a7 (aA (mJ hu) (pv 7) (bH ai) (aJ _))
        (aq
         (bq (cH PySem.F.plainAttrs_list PySem.F.slot_list_append PySem.F.type_list_append bT (pv 7) (aa (cu (aa aG (aa aG (aa ao ai)))) ai))))
        aQ)
      (aq
       (bq (cH PySem.F.plainAttrs_list PySem.F.slot_list_append PySem.F.type_list_append bT (bh bJ (pv 2) (hU eX ao) (fun _ _=>rfl)) (aa (cu (aa aG (aa (pv 7) (aa (az dv ao (az bg (aS cg rfl T.dB cw (aa (pv 7) ai)) ao)) ai)))) ai)))))))
    (aj
     (a7 (aA (mJ hu) (bh bJ (pv 2) ao (fun _ _=>rfl)) (bH ai) (aJ _))
      (aq
       (bq (cH PySem.F.plainAttrs_list PySem.F.slot_list_append PySem.F.type_list_append bT (bh bJ (pv 2) ao (fun _ _=>rfl)) (aa (cu (aa aG (aa aG (aa ao ai)))) ai))))
      aQ)
    (aq
     (aE (pv 1)))))))),?_⟩
  refine⟨(by show 0≤sizeLine;decide),fun l0 Dq=>⟨(by show 3≤sizeLine;decide),fun t0 QL=>⟨(by show 1≤sizeLine;decide),fun PL OI=>?_⟩⟩⟩
  have s1:=aK.new (o:= .lst []) Dq
  have s2:=aK.new (o:= .tup [.str "piece",V.ref l0,V.int 1]) QL
  have s3:=aK.new (o:= .lst [V.ref t0]) OI
  have e3:=(s1.trans s2).trans s3
  have yX:=s3 _ _ (s2 _ _ (ag (H:=H) (a:=l0) (o:= .lst [])))
  have Du:=s3 _ _ (ag (H:=upd H l0 (.lst [])) (a:=t0) (o:= .tup [.str "piece",V.ref l0,V.int 1]))
  have Cq:(upd (upd (upd H l0 (.lst [])) t0 (.tup [.str "piece",V.ref l0,V.int 1])) PL (.lst [V.ref t0])) PL=some (.lst [V.ref t0]):=ag
  have QM:=(s1.trans s2).free OI
  generalize upd (upd (upd H l0 (.lst [])) t0 (.tup [.str "piece",V.ref l0,V.int 1])) PL (.lst [V.ref t0])=H3 at s3 e3 yX Du Cq ⊢
  dsimp only [fM]
  refine⟨_,rfl,PL,_,_, .ref t0,rfl,rfl,bC.of Cq,rfl,t0,_,_, .ref l0,rfl,rfl,g8.of Du,rfl,(by show 1≤sizeLine;decide),fun ST EO=>?_⟩
  have s4:=aK.new (o:= .lst [V.ref l0]) EO
  have S4:gL 1 6 H (upd H3 ST (.lst [V.ref l0])) PL ST [] t0 [] 1 [(l0,[])] [[72]]:=by
   have n1:PL≠ST:=af Cq EO
   have n2:PL≠l0:=fun z=>by rw[z] at Cq;rw[Cq] at yX;cases yX
   have n3:ST≠l0:=Ne.symm (af yX EO)
   have n4:t0≠PL:=zT Du Cq (by intro z;cases z)
   have n5:t0≠ST:=af Du EO
   have n6:t0≠l0:=zT Du yX (by intro z;cases z)
   exact⟨s4 _ _ Cq,ag,by simp [n1,n2,n3],by simp,by simp, .nil,⟨(l0,[]),rfl,s4 _ _ Du,by simp [n4,n5,n6]⟩,⟨by decide,by decide⟩,(fun _=>rfl),(fun x hx=>by simp at hx),⟨⟨⟨[],s4 _ _ yX, .nil⟩,(fun t ht=>by cases ht),(fun t ht=>by cases ht)⟩,trivial⟩,by simp,by simp,(by show 0+(4+2+0+0)≤6;decide),e3.trans s4,⟨QM,e3.free EO,fun z hz=>by
    have e:z=(l0,[]):=by simpa using hz
    rw[e];exact Dq⟩⟩
  generalize upd H3 ST (.lst [V.ref l0])=H4 at s4 S4 ⊢
  have e4:=S4.sm
  dsimp only [fM]
  refine⟨_,rfl,a,rfl,⟨_,e4.seq hS⟩,uU (K:=K) (a:=a) (xs:=ns.map V.int) (fun i σ H'=>∃(ST:Addr) (pa:List Addr) (pz:Addr) (xs:List de) (c:Int) (Z:List (Addr×List Tr)) (ks:List (List Nat)) (v3 v4 v5 v6 v7:Option V),σ=[some (.ref a),some (.ref PL),some (.ref ST),v3,v4,v5,v6,v7]∧gL (i+1) (10*i+6) H H' PL ST pa pz xs c Z ks) ?_ (fun i σ H' _ ⟨_,_,_,_,_,_,_,_,_,_,_,_,_,S⟩=>S.sm.seq hS) ?_ ?_⟩
  ·exact⟨ST,[],t0,[],1,[(l0,[])],[[72]],none,none,none,none,none,rfl,S4⟩
  ·rintro i y σ H5 hi ⟨ST,pa,pz,xs,c,Z,ks,v3,v4,v5,v6,v7,rfl,S5⟩
   obtain⟨cell,jZ,rfl⟩:=int_at hi
   refine⟨_,rfl,cell,999979,0,rfl,by decide,rfl,fun w1 Ha ea=>⟨_,_,rfl,rfl,(by show (0 :Int) <8;decide),?_⟩⟩
   refine⟨_,rfl,cell,1000037,4,rfl,by decide,rfl,fun w2 Hb eb=>⟨w2,rfl,fun cn Hc Iu Iv ec=>?_⟩⟩
   refine⟨_,rfl,cell,1000003,2,rfl,by decide,rfl,fun w3 Hd ed=>⟨_,rfl,cell,1000033,3,rfl,by decide,rfl,fun w4 He ee=>⟨w3,w4,rfl,fun at_ k n Hf hk n1 n2 nat l9 ef=>?_⟩⟩⟩
   have S6:=((((((S5.same ea).same eb).same ec).same ed).same ee).same ef).kind k
   have nW:at_∉PL::ST::Z.map (·.1):=(((((S5.same ea).same eb).same ec).same ed).same ee).Cp nat
   have kk:k∈ks++[k]:=List.mem_append_right _ (List.mem_singleton.mpr rfl)
   generalize ks++[k]=md at S6 kk
   clear S5 hi ea eb ec ed ee ef nat
   have l1:=S6.l1
   have l5:=S6.l5
   have lG:=S6.st
   dsimp only [fM]
   refine Ap (fun R r=>⟨_,rfl,rfl,_,rfl,r⟩) (fun _ R r=>⟨_,rfl,ST,_,rfl, .inl (bC.of lG),_,_,rfl,rfl,_,rfl,r⟩) (dG (fun g1=>?_) fun g1=>?_)
   ·have h4:Z.length≤4:=by
     rw[Bool.and_eq_true] at g1
     have:=g1.2
     rw[List.length_map,List.length_map] at this
     have:(Z.length:Int) <5:=by simpa using this
     omega
    obtain⟨ps,Cr,kO⟩:=pK at_ cell
    refine⟨_,rfl, .inl ⟨rfl,_,bC.of lG⟩,_,rfl,(by show 1≤sizeLine;decide),fun q0 Kz=>⟨_,rfl,_,_,rfl,rfl,(by show (0 :Int) <2;decide),_,rfl,q0,_,rfl,bC.of ag,fun g hg=>?_⟩⟩
    have sq:=aK.new (o:= .lst [V.ref at_]) Kz
    have S7:=S6.same sq
    have wI:=sq _ _ l9
    generalize upd Hf q0 (.lst [V.ref at_])=H7 at sq S7 wI hg ⊢
    rw[Cr]
    refine⟨ST,_,_,rfl,rfl,by rw[ah (af S7.st hg)];exact S7.st,by rw[List.length_map,List.length_map];omega,?_⟩
    rcases kO with rfl|rfl
    ·exact⟨ST,pa,pz,xs,c,Z++[(g,[])],md,_,_,_,_,_,rfl,(S7.push (us:=[]) h4 hg .nil (fun t ht=>by cases ht) (fun t ht=>by cases ht)).more (by show 10*i+6+(4+2+0)≤10*(i+1)+6;omega)⟩
    ·refine⟨ST,pa,pz,xs,c,Z++[(g,[.one k n])],md,_,_,_,_,_,rfl,(S7.push (us:=[.one k n]) h4 hg (.cons (fz wI nW) .nil) (fun t ht=>?_) (fun t ht=>?_)).more ?_⟩
     ·rw[show t= .one k n by simpa using ht]
      exact fA hk n1 n2
     ·rw[show t= .one k n by simpa using ht]
      exact jr.one kk
     ·have:=pH (d:=4 - Z.length) hk n1 n2
      show 10*i+6+(4+0+g6 (4 - Z.length) [.one k n])≤10*(i+1)+6
      omega
   refine Ap (fun R r=>⟨_,rfl,rfl,_,rfl,r⟩) (fun _ R r=>⟨_,rfl,ST,_,rfl, .inl (bC.of lG),_,_,rfl,rfl,_,rfl,r⟩) (dG (fun g2=>?_) fun g2=>?_)
   ·have h2:2≤Z.length:=by
     rw[Bool.and_eq_true] at g2
     have:=g2.2
     rw[List.length_map,List.length_map] at this
     have:(1 :Int) <Z.length:=by simpa using this
     omega
    obtain⟨Y,⟨la,ua⟩,⟨lb,ub⟩,rfl⟩:=pJ h2
    have Cs:((Y++[(la,ua),(lb,ub)]).map (·.1)).map V.ref=((Y.map (·.1)++[la]).map V.ref)++[V.ref lb]:=by simp
    rw[Cs] at lG
    have hY:(Y++[(la,ua)]).length=Y.length+1:=by simp
    refine⟨_,rfl, .inl ⟨rfl,_,bC.of lG⟩,ST,_, .ref lb,rfl,rfl,lG,by simp,?_⟩
    rw[List.dropLast_concat]
    have eZ:Y++[(la,ua),(lb,ub)]=(Y++[(la,ua)])++[(lb,ub)]:=by simp
    have SZ:=S6
    rw[eZ] at SZ
    have ob:=(Ops.app.mp SZ.op).2.1
    obtain⟨pb,KA,KC⟩:=ob.at_
    have wJ:=Paired.length KC
    have nd:=S6.nd
    have Ct:lb≠ST:=fun z=>by
     rw[z] at nd
     simp at nd
    have Dt:la≠ST:=fun z=>by
     rw[z] at nd
     simp at nd
    dsimp only [fM]
    refine jB (fun σ' H'=>σ'=[some (.ref a),some (.ref PL),some (.ref ST),some (.int cell),some (.int (w1%8)),some (.int cn),some (.ref at_),some (.ref lb)]∧∃(Hv:Hp) (wK:List Tr),wK≠[]∧gL (i+1+1) (10*i+10) H Hv PL ST pa pz xs c (Y++[(la,ua),(lb,wK)]) md∧H'=upd Hv ST (.lst ((Y.map (·.1)++[la]).map V.ref))) (fun N hN=>?_) ?_
    ·refine⟨_,rfl,(by show 0≤sizeLine;decide),fun z hz=>?_⟩
     have Cu:ST≠z:=af ag hz
     have KD:Hf z=none:=by rwa [ah (Ne.symm Cu)] at hz
     have sz:=aK.new (o:= .lst []) KD
     have Sz:=S6.same sz
     have ez:upd (upd Hf ST (.lst ((Y.map (·.1)++[la]).map V.ref))) z (.lst [])=upd (upd Hf z (.lst [])) ST (.lst ((Y.map (·.1)++[la]).map V.ref)):=gj Cu
     rw[ez]
     have wM:=sz _ _ KA
     have wO:=sz _ _ l9
     have KG:z≠ST:=Ne.symm Cu
     have wQ:(upd (upd Hf z (.lst [])) ST (.lst ((Y.map (·.1)++[la]).map V.ref))) z=some (.lst []):=by rw[ah KG];exact ag
     generalize upd Hf z (.lst [])=Hz at sz Sz wM wO wQ ⊢
     have ug:(upd Hz ST (.lst ((Y.map (·.1)++[la]).map V.ref))) lb=some (.lst (pb.map V.ref)):=by rw[ah Ct];exact wM
     refine⟨lb,z,_,rfl,rfl,bC.of ug,bC.of wQ,_,rfl,dG (fun g3=>?_) fun g3=>?_⟩
     ·have ES:ub=[]:=by
       have:pb=[]:=by simpa using g3
       rw[this] at wJ
       exact List.length_eq_zero_iff.mp wJ.symm
      subst ES
      have Cv:pb=[]:=List.length_eq_zero_iff.mp wJ
      subst Cv
      rw[eZ] at Sz
      have Dv:at_∉PL::ST::((Y++[(la,ua)])++[(lb,([]:List Tr))]).map (·.1):=by rw[←eZ];exact nW
      obtain⟨ps,kO,qN,S8⟩:=Sz.app (t:= .one k n) (B':=10*i+10) (fz wO Dv) (fA hk n1 n2) (jr.one kk) (by have:=jP (d:=4 - (Y++[(la,ua)]).length) hk n1 n2;show _≤_+2;omega)
      have KH:ps=[]:=List.length_eq_zero_iff.mp qN
      subst KH
      refine⟨_,rfl, .inl ⟨rfl,_,bC.of ug⟩,_,rfl,lb,_,_,rfl,rfl,ug,(by show 0<sizeLine;decide),hN _ _ ⟨rfl,_,[.one k n],by simp,?_,gj (Ne.symm Ct)⟩⟩
      have:=S8
      rw[show (Y++[(la,ua)])++[(lb,[]++[Tr.one k n])]=Y++[(la,ua),(lb,[Tr.one k n])] by simp] at this
      exact this
     ·refine hN _ _ ⟨rfl,Hz,ub,fun z=>?_,Sz.more (by omega),rfl⟩
      rw[z] at wJ
      have:pb=[]:=List.length_eq_zero_iff.mp wJ
      rw[this] at g3
      simp at g3
    rintro σ' H' ⟨rfl,Hv,wK,gP,Sv,rfl⟩
    have wR:(upd Hv ST (.lst ((Y.map (·.1)++[la]).map V.ref))) ST=some (.lst ((Y.map (·.1)).map V.ref++[V.ref la])):=by rw[ag,List.map_append];rfl
    have Dw:=Sv
    rw[show Y++[(la,ua),(lb,wK)]=Y++((la,ua)::[(lb,wK)]) from rfl] at Dw
    have oa:=(Ops.app.mp Dw.op).2.1
    obtain⟨KI,KJ,KL⟩:=oa.at_
    have Cw:(upd Hv ST (.lst ((Y.map (·.1)++[la]).map V.ref))) la=some (.lst (KI.map V.ref)):=by rw[ah Dt];exact KJ
    refine⟨_,rfl,1,rfl,ST,_,_, .ref la,rfl,rfl,bC.of wR,dS _ _, .inl ⟨rfl,_,bC.of Cw⟩,_,rfl,_,rfl,(by show 3≤sizeLine;decide),fun gt ET=>?_⟩
    have KN:ST≠gt:=af wR ET
    have KO:Hv gt=none:=by rwa [ah (Ne.symm KN)] at ET
    obtain⟨ps,kO,qN,S9⟩:=Sv.close gP KO Iu Iv (B':=10*(i+1)+6) (by have:=wG Iu Iv;omega)
    have mu:=Sv.mu
    have QN:ua.length≤1000:=by
     rw[d9] at mu
     simp only [pI] at mu
     have hm:ua.length≤g6 (4 - (0+Y.length)) ua:=kM oa.ok
     have Cy:i<38:=by
      have:=(List.getElem?_eq_some_iff.mp jZ).1
      omega
     omega
    refine⟨la,_,_,rfl,rfl,kO,by rw[List.length_map,qN];omega,⟨ST,pa,pz,xs,c,_,md,_,_,_,_,_,rfl,S9⟩⟩
   refine Co (fun R r=>⟨_,rfl,rfl,_,rfl,r⟩) (fun R r=>⟨_,rfl,ST,_,rfl, .inl (bC.of lG),rfl,_,rfl,r⟩) (fun _ g3=>?_) (bZ ?_)
   ·have QO:Z.length=1:=by
     rw[List.length_map,List.length_map] at g3
     have:(Z.length:Int)=1:=by simpa using g3
     omega
    obtain⟨⟨l,u⟩,rfl⟩:∃z,Z=[z]:=List.length_eq_one_iff.mp QO
    obtain⟨pu,KP,KQ⟩:=S6.op.1.at_
    have Cz:=Paired.length KQ
    refine⟨_,rfl,ST,_,_, .ref l,rfl,rfl,bC.of lG,rfl,(by show 0≤sizeLine;decide),fun z hz=>?_⟩
    have sz:=aK.new (o:= .lst []) hz
    have SX:=S6.same sz
    have EU:=sz _ _ l9
    have Dx:=sz _ _ KP
    have wQ:(upd Hf z (.lst [])) z=some (.lst []):=ag
    generalize upd Hf z (.lst [])=Hx at sz SX EU Dx wQ ⊢
    refine⟨l,z,_,rfl,rfl,bC.of Dx,bC.of wQ,_,rfl,dG (fun g4=>?_) fun g4=>?_⟩
    ·have EV:u≠[]:=fun w=>by
      rw[w] at Cz
      have:pu=[]:=List.length_eq_zero_iff.mp Cz
      rw[this] at g4
      simp at g4
     obtain⟨ps,Cr,kO⟩:=pK at_ cell
     have lu:=SX.pl
     refine⟨_,rfl, .inl ⟨rfl,_,bC.of lu⟩,_,rfl,(by show 1≤sizeLine;decide),fun q0 Kz=>⟨_,rfl,_,_,rfl,rfl,(by show (0 :Int) <2;decide),_,rfl,q0,_,rfl,bC.of ag,fun g hg=>?_⟩⟩
     have sq:=aK.new (o:= .lst [V.ref at_]) Kz
     have S7:=SX.same sq
     have wI:=sq _ _ EU
     generalize upd Hx q0 (.lst [V.ref at_])=H7 at sq S7 wI hg ⊢
     rw[Cr]
     refine⟨_,rfl,(by show 3≤sizeLine;decide),fun b hb=>?_⟩
     have gb:g≠b:=af ag hb
     have KR:H7 b=none:=by rwa [ah (Ne.symm gb)] at hb
     have Iq:PL≠g:=af S7.pl hg
     have EM:PL≠b:=af S7.pl KR
     have Ta:pa.length≤1000:=by
      have:=Paired.length S7.cl
      have mu:=S7.mu
      have hm:∀ys:List de,ys.length≤jQ ys:=by
       intro ys
       induction ys with
       |nil=>exact Nat.zero_le _
       |cons y r ih=>
        unfold jQ at ih ⊢
        rw[List.length_cons,List.map_cons,List.sum_cons]
        omega
      have:=hm xs
      have Cy:i<38:=by
       have:=(List.getElem?_eq_some_iff.mp jZ).1
       omega
      omega
     refine⟨PL,_,_,rfl,rfl,by rw[ah EM,ah Iq];exact S7.pl,by rw[List.length_map,List.length_append];show _+1<sizeLine;omega,?_⟩
     have OJ:(upd (upd (upd H7 g (.lst (ps.map V.ref))) b (.tup [.str "piece", .ref g, .int cn])) PL (.lst ((pa++[pz]).map V.ref++[V.ref b]))) PL=some (.lst ((pa++[pz]).map V.ref++[V.ref b])):=ag
     have OL:(upd (upd (upd H7 g (.lst (ps.map V.ref))) b (.tup [.str "piece", .ref g, .int cn])) PL (.lst ((pa++[pz]).map V.ref++[V.ref b]))) b=some (.tup [.str "piece", .ref g, .int cn]):=by rw[ah (Ne.symm EM)];exact ag
     refine⟨_,rfl,1,rfl,PL,_,_, .ref b,rfl,rfl,bC.of OJ,dS _ _,b,_,_, .ref g,rfl,rfl,g8.of OL,rfl,(by show 1≤sizeLine;decide),fun n9 CA=>?_⟩
     have Ir:PL≠n9:=af OJ CA
     have KS:b≠n9:=af OL CA
     have h1:(upd H7 g (.lst (ps.map V.ref))) n9=none:=by rwa [ah (Ne.symm Ir),ah (Ne.symm KS)] at CA
     have KU:g≠n9:=af ag h1
     have h2:H7 n9=none:=by rwa [ah (Ne.symm KU)] at h1
     rcases kO with rfl|rfl
     ·exact⟨n9,_,_,_,_,_,md,_,_,_,_,_,rfl,(S7.Ao (us:=[]) EV hg KR h2 gb KU KS Iu Iv .nil (fun t ht=>by cases ht) (fun t ht=>by cases ht)).more (by show 10*i+6+(4+2+0)≤10*(i+1)+6;omega)⟩
     ·refine⟨n9,_,_,_,_,_,md,_,_,_,_,_,rfl,(S7.Ao (us:=[.one k n]) EV hg KR h2 gb KU KS Iu Iv (.cons (fz wI nW) .nil) (fun t ht=>?_) (fun t ht=>?_)).more ?_⟩
      ·rw[show t= .one k n by simpa using ht]
       exact fA hk n1 n2
      ·rw[show t= .one k n by simpa using ht]
       exact jr.one kk
      ·have:=pH (d:=4) hk n1 n2
       show 10*i+6+(4+0+g6 4 [.one k n])≤10*(i+1)+6
       omega
    ·obtain⟨Y,l',us,QP⟩:∃(Y:List (Addr×List Tr)) (l':Addr) (us:List Tr),[(l,u)]=Y++[(l',us)]:=⟨[],l,u,rfl⟩
     rw[QP] at SX nW
     have Cs:((Y++[(l',us)]).map (·.1)).map V.ref=(Y.map (·.1)).map V.ref++[V.ref l']:=by simp
     have EW:=SX.st
     rw[Cs] at EW
     obtain⟨ps,kO,qN,S9⟩:=SX.app (t:= .one k n) (B':=10*(i+1)+6) (fz EU nW) (fA hk n1 n2) (jr.one kk) (by have:=jP (d:=4 - Y.length) hk n1 n2;omega)
     have QQ:us.length≤1000:=by
      have mu:=SX.mu
      rw[d9] at mu
      simp only [pI] at mu
      have ol:=(Ops.app.mp SX.op).2.1
      have:us.length≤g6 (4 - (0+Y.length)) us:=kM ol.ok
      have Cy:i<38:=by
       have:=(List.getElem?_eq_some_iff.mp jZ).1
       omega
      omega
     exact⟨_,rfl,1,rfl,ST,_,_, .ref l',rfl,rfl,bC.of EW,dS _ _, .inl ⟨rfl,_,bC.of kO⟩,_,rfl,l',_,_,rfl,rfl,kO,by rw[List.length_map,qN];omega,⟨ST,pa,pz,xs,c,_,md,_,_,_,_,_,rfl,S9⟩⟩
   ·have SX:=S6
    have EU:=l9
    obtain⟨Y,⟨l,us⟩,rfl⟩:=kL l1
    have Cs:((Y++[(l,us)]).map (·.1)).map V.ref=(Y.map (·.1)).map V.ref++[V.ref l]:=by simp
    have EW:=SX.st
    rw[Cs] at EW
    obtain⟨ps,kO,qN,S9⟩:=SX.app (t:= .one k n) (B':=10*(i+1)+6) (fz EU nW) (fA hk n1 n2) (jr.one kk) (by have:=jP (d:=4 - Y.length) hk n1 n2;omega)
    have QQ:us.length≤1000:=by
     have mu:=SX.mu
     rw[d9] at mu
     simp only [pI] at mu
     have ol:=(Ops.app.mp SX.op).2.1
     have:us.length≤g6 (4 - (0+Y.length)) us:=kM ol.ok
     have Cy:i<38:=by
      have:=(List.getElem?_eq_some_iff.mp jZ).1
      omega
     omega
    exact⟨_,rfl,1,rfl,ST,_,_, .ref l,rfl,rfl,bC.of EW,dS _ _, .inl ⟨rfl,_,bC.of kO⟩,_,rfl,l,_,_,rfl,rfl,kO,by rw[List.length_map,qN];omega,⟨ST,pa,pz,xs,c,_,md,_,_,_,_,_,rfl,S9⟩⟩
  ·rintro σ H5 ⟨ST,pa,pz,xs,c,Z,ks,v3,v4,v5,v6,v7,rfl,S5⟩
   rw[List.length_map] at S5
   have S5:gL 39 386 H H5 PL ST pa pz xs c Z ks:=by
    have:=S5.more (B':=386) (by omega)
    exact⟨this.pl,this.st,this.nd,this.l1,this.l5,this.cl,this.pz,this.c1,this.c0,this.h1,this.op,by have:=this.kn;omega,this.kh,this.mu,this.sm,this.nw⟩
   have OM:jK [72]:=⟨72,[],rfl,by decide,by decide,by decide⟩
   have ON:(V.str "H" :V)=V.str ⟨[72].toArray⟩:=by rw[eH]
   refine⟨fun m σ H'=>∃(Z:List (Addr×List Tr)) (v7:Option V),σ=[some (.ref a),some (.ref PL),some (.ref ST),v3,v4,v5,v6,v7]∧Z.length=m∧gL 39 386 H H' PL ST pa pz xs c Z ks,⟨_,Z,v7,rfl,rfl,S5⟩,?_⟩
   clear S5 v7
   rintro m σ H6 ⟨Z,v7,rfl,lZ,S6⟩
   have lG:=S6.st
   refine⟨_,rfl,ST,_,rfl, .inl (bC.of lG),_,_,rfl,rfl,_,rfl,dG (fun g1=>?_) fun g1=>?_⟩
   ·have h2:2≤Z.length:=by
     rw[List.length_map,List.length_map] at g1
     have:(1 :Int) <Z.length:=by simpa using g1
     omega
    refine⟨fun σ' H'=>∃(Z':List (Addr×List Tr)) (v7:Option V),σ'=[some (.ref a),some (.ref PL),some (.ref ST),v3,v4,v5,v6,v7]∧Z'.length<m∧gL 39 386 H H' PL ST pa pz xs c Z' ks,(fun σ' H' ⟨Z',v7,e1,e2,e3⟩=>⟨_,e2,Z',v7,e1,rfl,e3⟩),?_⟩
    obtain⟨Y,⟨la,ua⟩,⟨lb,ub⟩,rfl⟩:=pJ h2
    have Cs:((Y++[(la,ua),(lb,ub)]).map (·.1)).map V.ref=((Y.map (·.1)++[la]).map V.ref)++[V.ref lb]:=by simp
    rw[Cs] at lG
    refine⟨_,rfl, .inl ⟨rfl,_,bC.of lG⟩,ST,_, .ref lb,rfl,rfl,lG,by simp,?_⟩
    rw[List.dropLast_concat]
    have eZ:Y++[(la,ua),(lb,ub)]=(Y++[(la,ua)])++[(lb,ub)]:=by simp
    have SZ:=S6
    rw[eZ] at SZ
    have ob:=(Ops.app.mp SZ.op).2.1
    obtain⟨pb,KA,KC⟩:=ob.at_
    have wJ:=Paired.length KC
    have nd:=S6.nd
    have Ct:lb≠ST:=fun z=>by
     rw[z] at nd
     simp at nd
    have Dt:la≠ST:=fun z=>by
     rw[z] at nd
     simp at nd
    dsimp only [fM]
    refine jB (fun σ' H'=>σ'=[some (.ref a),some (.ref PL),some (.ref ST),v3,v4,v5,v6,some (.ref lb)]∧∃(Hv:Hp) (wK:List Tr),wK≠[]∧gL 39 386 H Hv PL ST pa pz xs c (Y++[(la,ua),(lb,wK)]) ks∧H'=upd Hv ST (.lst ((Y.map (·.1)++[la]).map V.ref))) (fun N hN=>?_) ?_
    ·refine⟨_,rfl,(by show 0≤sizeLine;decide),fun z hz=>?_⟩
     have Cu:ST≠z:=af ag hz
     have KD:H6 z=none:=by rwa [ah (Ne.symm Cu)] at hz
     have sz:=aK.new (o:= .lst []) KD
     have Sz:=S6.same sz
     have ez:upd (upd H6 ST (.lst ((Y.map (·.1)++[la]).map V.ref))) z (.lst [])=upd (upd H6 z (.lst [])) ST (.lst ((Y.map (·.1)++[la]).map V.ref)):=gj Cu
     rw[ez]
     have wM:=sz _ _ KA
     have KG:z≠ST:=Ne.symm Cu
     have wQ:(upd (upd H6 z (.lst [])) ST (.lst ((Y.map (·.1)++[la]).map V.ref))) z=some (.lst []):=by rw[ah KG];exact ag
     generalize upd H6 z (.lst [])=Hz at sz Sz wM wQ ⊢
     have ug:(upd Hz ST (.lst ((Y.map (·.1)++[la]).map V.ref))) lb=some (.lst (pb.map V.ref)):=by rw[ah Ct];exact wM
     refine⟨lb,z,_,rfl,rfl,bC.of ug,bC.of wQ,_,rfl,dG (fun g3=>?_) fun g3=>?_⟩
     ·have ES:ub=[]:=by
       have:pb=[]:=by simpa using g3
       rw[this] at wJ
       exact List.length_eq_zero_iff.mp wJ.symm
      subst ES
      have Cv:pb=[]:=List.length_eq_zero_iff.mp wJ
      subst Cv
      refine⟨_,rfl, .inl ⟨rfl,_,bC.of ug⟩,(by show 3≤sizeLine;decide),fun at_ l9=>?_⟩
      have OO:ST≠at_:=af ag l9
      have wO:Hz at_=none:=by rwa [ah (Ne.symm OO)] at l9
      have st:=aK.new (o:= .tup [.str "atom", .str "H", .int 2]) wO
      have St:=Sz.same st
      have Dv:at_∉PL::ST::(Y++[(la,ua),(lb,([]:List Tr))]).map (·.1):=Sz.Cp wO
      rw[eZ] at St Dv
      have hA:(upd Hz at_ (.tup [.str "atom", .str "H", .int 2])) at_=some (.tup [.str "atom", .str ⟨[72].toArray⟩, .int 2]):=by rw[ag,ON]
      have ec:upd (upd Hz ST (.lst ((Y.map (·.1)++[la]).map V.ref))) at_ (.tup [.str "atom", .str "H", .int 2])=upd (upd Hz at_ (.tup [.str "atom", .str "H", .int 2])) ST (.lst ((Y.map (·.1)++[la]).map V.ref)):=gj OO
      rw[ec]
      generalize upd Hz at_ (.tup [.str "atom", .str "H", .int 2])=Ht at st St hA ⊢
      obtain⟨ps,kO,qN,S8⟩:=St.app (t:= .one [72] 2) (B':=386) (fz hA Dv) (fA OM (by decide) (by decide)) (jr.one S6.kh) (by rw[nH];decide+kernel)
      have KH:ps=[]:=List.length_eq_zero_iff.mp qN
      subst KH
      have KW:(upd Ht ST (.lst ((Y.map (·.1)++[la]).map V.ref))) lb=some (.lst []):=by rw[ah Ct];exact kO
      refine⟨lb,_,_,rfl,rfl,KW,(by show 0<sizeLine;decide),hN _ _ ⟨rfl,_,[.one [72] 2],by simp,?_,gj (Ne.symm Ct)⟩⟩
      have:=S8
      rw[show (Y++[(la,ua)])++[(lb,[]++[Tr.one [72] 2])]=Y++[(la,ua),(lb,[Tr.one [72] 2])] by simp] at this
      exact this
     ·refine hN _ _ ⟨rfl,Hz,ub,fun z=>?_,Sz,rfl⟩
      rw[z] at wJ
      have:pb=[]:=List.length_eq_zero_iff.mp wJ
      rw[this] at g3
      simp at g3
    rintro σ' H' ⟨rfl,Hv,wK,gP,Sv,rfl⟩
    have wR:(upd Hv ST (.lst ((Y.map (·.1)++[la]).map V.ref))) ST=some (.lst ((Y.map (·.1)).map V.ref++[V.ref la])):=by rw[ag,List.map_append];rfl
    have Dw:=Sv
    rw[show Y++[(la,ua),(lb,wK)]=Y++((la,ua)::[(lb,wK)]) from rfl] at Dw
    have oa:=(Ops.app.mp Dw.op).2.1
    have QR:=(Ops.app.mp Dw.op).2.2.1
    obtain⟨KI,KJ,KL⟩:=oa.at_
    obtain⟨EX,KY,QS⟩:=QR.at_
    have Cw:(upd Hv ST (.lst ((Y.map (·.1)++[la]).map V.ref))) la=some (.lst (KI.map V.ref)):=by rw[ah Dt];exact KJ
    have KZ:(upd Hv ST (.lst ((Y.map (·.1)++[la]).map V.ref))) lb=some (.lst (EX.map V.ref)):=by rw[ah Ct];exact KY
    have m0:0≤((EX.map V.ref).length:Int) %3:=Int.emod_nonneg _ (by decide)
    have m1:((EX.map V.ref).length:Int) %3<3:=Int.emod_lt_of_pos _ (by decide)
    refine⟨_,rfl,1,rfl,ST,_,_, .ref la,rfl,rfl,bC.of wR,dS _ _, .inl ⟨rfl,_,bC.of Cw⟩,_,rfl,_,rfl,lb,_,rfl, .inl (bC.of KZ),_,_,rfl,rfl,(by show (0 :Int) <3;decide),_,_,rfl,rfl,(by show 3≤sizeLine;decide),fun gt ET=>?_⟩
    have KN:ST≠gt:=af wR ET
    have KO:Hv gt=none:=by rwa [ah (Ne.symm KN)] at ET
    obtain⟨ps,kO,qN,S9⟩:=Sv.close (n:=1+((EX.map V.ref).length:Int) %3) gP KO (by omega) (by omega) (B':=386) (by have:=zm (n:=1+((EX.map V.ref).length:Int) %3) (by omega) (by omega);omega)
    have mu:=Sv.mu
    have QN:ua.length≤1000:=by
     rw[d9] at mu
     simp only [pI] at mu
     have:ua.length≤g6 (4 - (0+Y.length)) ua:=kM oa.ok
     omega
    refine⟨la,_,_,rfl,rfl,kO,by rw[List.length_map,qN];omega,⟨_,_,rfl,?_,S9⟩⟩
    rw[←lZ]
    simp
   ·have h1:Z.length=1:=by
     rw[List.length_map,List.length_map] at g1
     have:¬(1 :Int) <Z.length:=by simpa using g1
     have:=S6.l1
     omega
    obtain⟨⟨l,u⟩,rfl⟩:∃z,Z=[z]:=List.length_eq_one_iff.mp h1
    obtain⟨pu,KP,KQ⟩:=S6.op.1.at_
    have Cz:=Paired.length KQ
    have fin:∀(Hx:Hp) (u:List Tr),u≠[]→gL 39 386 H Hx PL ST pa pz xs c [(l,u)] ks→Q (.ref PL) Hx:=by
     intro Hx u EV SX
     obtain⟨z,z1,z2,z3⟩:=SX.pz
     have e:z=(l,u):=by simpa using z1.symm
     subst e
     have toLP:∀p x,Cn ks [PL,ST,l] Hx p x→LP 4 Hx p x:=fun p x ⟨l',h1,_,_,O,_⟩=>by
      obtain⟨qs,q1,q2⟩:=O.at_
      exact⟨l',qs,h1,q1,aR (fun _ _ z=>z.nil) q2⟩
     obtain⟨qs,q1,q2⟩:=SX.op.1.at_
     have Bo:∀x∈xs,oJ 4 x∧∀t∈x.2,jr ks 4 t:=fun x hx=>by
      have:∀{as:List Addr} {bs:List de},Paired (Cn ks [PL,ST,l] Hx) as bs→∀x∈bs,oJ 4 x∧∀t∈x.2,jr ks 4 t:=by
       intro as bs h
       induction h with
       |nil=>intro x hx;cases hx
       |cons h _ ih=>
        intro x hx
        rcases List.mem_cons.mp hx with rfl|hx
        ·obtain⟨_,_,_,_,O,a1,a2,a3⟩:=h
         exact⟨⟨a1,O.ok,a2,a3⟩,O.kd⟩
        ·exact ih x hx
      exact this SX.cl x hx
     have ti:∀x∈xs++[(c,u)],oJ 4 x∧∀t∈x.2,jr ks 4 t:=fun x hx=>by
      rcases List.mem_append.mp hx with hx|hx
      ·exact Bo x hx
      ·have e:x=(c,u):=by simpa using hx
       rw[e]
       exact⟨⟨EV,SX.op.1.ok,SX.c1.1,SX.c1.2⟩,SX.op.1.kd⟩
     have Dy:jQ (xs++[(c,u)])≤386:=by
      have h1:=SX.mu
      have Ky:em u=0:=by
       cases u with
       |nil=>exact absurd rfl EV
       |cons _ _=>rfl
      have h1:jQ xs+(4+em u+g6 4 u+0)≤386:=h1
      have e1:jQ (xs++[(c,u)])=jQ xs+(4+g6 4 u):=by
       unfold jQ
       rw[List.map_append,List.sum_append]
       simp
      omega
     have CB:∀ys:List de,(∀y∈ys,oJ 4 y)→(a5 4 ys).length≤jQ ys:=by
      intro ys
      induction ys with
      |nil=>intro _;exact Nat.zero_le _
      |cons y r ih=>
       intro hy
       have h1:=ih fun z hz=>hy z (List.mem_cons_of_mem _ hz)
       obtain⟨_,ho,b1,b2⟩:=hy y (List.mem_cons_self ..)
       have h2:=kK 4 y.2
       have h3:=wG b1 b2
       have e1:jQ (y::r)=4+g6 4 y.2+jQ r:=by unfold jQ;rw[List.map_cons,List.sum_cons]
       have e2:(a5 4 (y::r)).length=1+((a8 y.1).length+(y.2.flatMap (bD 4)).length)+(a5 4 r).length:=by
        unfold a5 dh
        rw[List.flatMap_cons,List.length_append,List.length_cons,List.length_append]
        omega
       rw[e1,e2]
       omega
     refine q PL (xs++[(c,u)]) ks Hx SX.sm ⟨pa++[pz],SX.pl,cK (p:=LP 4 Hx) ⟨l,qs,z2,q1,aR (fun _ _ z=>z.nil) q2⟩ (aR toLP SX.cl)⟩ (by simp) (fun n n1 n2=>?_) Dy SX.kn fun x hx=>(ti x hx).2
     have hc:=nD n1 n2
     have hd:=CB (xs++[(c,u)]) fun y hy=>(ti y hy).1
     have h0:∀x,(xs++[(c,u)])[0]? =some x→x.1=1:=fun x hx=>by
      cases xs with
      |nil=>
       have e:x=(c,u):=by simpa using hx.symm
       rw[e]
       exact SX.c0 rfl
      |cons y r=>exact SX.h1 x hx
     have OP:xs++[(c,u)]≠[]:=by simp
     generalize xs++[(c,u)]=ys at ti Dy hd h0 OP
     cases ys with
     |nil=>exact absurd rfl OP
     |cons y r=>
      refine⟨⟨h0 y rfl,fun z hz=>(ti z hz).1,n1,n2⟩,?_⟩
      have e2:(a5 4 (y::r)).length=1+((a8 y.1).length+(y.2.flatMap (bD 4)).length)+(a5 4 r).length:=by
       unfold a5 dh
       rw[List.flatMap_cons,List.length_append,List.length_cons,List.length_append]
       omega
      show (y.2.flatMap (bD 4)++(a5 4 r++fH n)).length≤400
      rw[List.length_append,List.length_append]
      omega
    refine⟨_,rfl,ST,_,_, .ref l,rfl,rfl,bC.of lG,rfl,(by show 0≤sizeLine;decide),fun z hz=>?_⟩
    have sz:=aK.new (o:= .lst []) hz
    have SX:=S6.same sz
    have Dx:=sz _ _ KP
    have EY:=sz _ _ lG
    have wQ:(upd H6 z (.lst [])) z=some (.lst []):=ag
    generalize upd H6 z (.lst [])=Hx at sz SX Dx EY wQ ⊢
    refine⟨l,z,_,rfl,rfl,bC.of Dx,bC.of wQ,_,rfl,dG (fun g4=>?_) fun g4=>?_⟩
    ·have ES:u=[]:=by
      have:pu=[]:=by simpa using g4
      rw[this] at Cz
      exact List.length_eq_zero_iff.mp Cz.symm
     subst ES
     refine⟨_,rfl,ST,_,_, .ref l,rfl,rfl,bC.of EY,rfl, .inl ⟨rfl,_,bC.of Dx⟩,(by show 3≤sizeLine;decide),fun at_ l9=>?_⟩
     have st:=aK.new (o:= .tup [.str "atom", .str "H", .int 2]) l9
     have St:=SX.same st
     have Dv:at_∉PL::ST::(([]:List (Addr×List Tr))++[(l,([]:List Tr))]).map (·.1):=SX.Cp l9
     have hA:(upd Hx at_ (.tup [.str "atom", .str "H", .int 2])) at_=some (.tup [.str "atom", .str ⟨[72].toArray⟩, .int 2]):=by rw[ag,ON]
     generalize upd Hx at_ (.tup [.str "atom", .str "H", .int 2])=Ht at st St hA ⊢
     obtain⟨ps,kO,qN,S8⟩:=gL.app (Y:=[]) (t:= .one [72] 2) (B':=386) St (fz hA Dv) (fA OM (by decide) (by decide)) (jr.one S6.kh) (by rw[nH];decide+kernel)
     exact⟨l,_,_,rfl,rfl,kO,by rw[List.length_map,qN];show 0<sizeLine;omega,⟨_,rfl,fin _ _ (by simp) S8⟩⟩
    ·refine⟨_,rfl,fin Hx u (fun w=>?_) SX⟩
     rw[w] at Cz
     have:pu=[]:=List.length_eq_zero_iff.mp Cz
     rw[this] at g4
     simp at g4
def pM:Sp:=fun vs H Q _=>∃n:Int,vs=[.int n]∧∀c, -999≤c→c≤999→Q (.int c) H
theorem wU:ax ["_law_cell"] ["_law_cell"] (ak jI):=dO
theorem uh(D:Def K mg "_law_charge" "_law_charge" jI ["_law_cell"]):bj P w K mg base 1 "_law_charge" ["_law_cell"] pM:=by
 refine D.e9 wU (fun vs H Q E h=>?_) (fun f bb A outer s H vs Q E hr h=>?_)
 ·obtain⟨n,rfl,_⟩:=h
  rfl
 ·obtain⟨n,rfl,q⟩:=h
  refine⟨_,(aj
     (a7 (aA bN (az bg (pv 0) ao) ao (aJ _))
      (aq
       (aE ao))
      aQ)
    (aq
     (aE (az mx (az bg (az cf (pv 0) ao) ao) ao)))),?_⟩
  refine⟨_,rfl,_,_,rfl,rfl,(by show (0 :Int) <3;decide),rfl,_,rfl,dG (fun _=>?_) fun _=>?_⟩
  ·exact q 0 (by decide) (by decide)
  ·have e0:0≤n/3%1999:=Int.emod_nonneg _ (by decide)
   have e1:n/3%1999<1999:=Int.emod_lt_of_pos _ (by decide)
   exact⟨_,rfl,_,_,rfl,rfl,⟨by decide,by decide⟩,_,_,rfl,rfl,(by show (0 :Int) <1999;decide),_,_,rfl,rfl,q _ (by omega) (by omega)⟩
variable {uC uP uI uD uL uT:Tok}
def dz(l:List Nat):Prop:=∀c∈l,c<128
theorem dz.app{a b:List Nat}(ha:dz a)(hb:dz b):dz (a++b):=fun c hc=>(List.mem_append.mp hc).elim (ha c) (hb c)
theorem dz.take{a:List Nat}(h:dz a)(n:Nat):dz (a.take n):=fun c hc=>h c (List.mem_of_mem_take hc)
theorem dz.drop{a:List Nat}(h:dz a)(n:Nat):dz (a.drop n):=fun c hc=>h c (List.mem_of_mem_drop hc)
theorem jS{n:Int}(h1:1≤n)(h2:n≤999):dz (a8 n):=fun c hc=>by
 obtain⟨m,rfl,m1,m0⟩:=rS h1 (by omega)
 have:=List.all_eq_true.mp (iz m) c hc
 simp only [cJ,Bool.and_eq_true,decide_eq_true_eq] at this
 omega
theorem zp{k:List Nat}(h:jK k):dz k:=by
 obtain⟨c,r,rfl,hg,hs,_⟩:=h
 intro b hb
 rcases List.mem_cons.mp hb with rfl|hb
 ·simp only [gB,Bool.and_eq_true,decide_eq_true_eq] at hg
  omega
 ·have:=List.all_eq_true.mp hs b hb
  simp only [eR,Bool.and_eq_true,decide_eq_true_eq] at this
  omega
theorem si:∀(d:Nat) (t:Tr),iQ d t→dz (bD d t)
 |d, .one k n,h=>by
  have h:jK k∧1≤n∧n≤999:=by cases d<;>exact h
  have e:bD d (.one k n)=k++a8 n:=by cases d<;>rfl
  rw[e]
  exact(zp h.1).app (jS h.2.1 h.2.2)
 |0, .gr _ _,h=>h.elim
 |d+1, .gr ts n,⟨_,h,n1,n2⟩=>by
  intro c hc
  rcases List.mem_cons.mp (show c∈40::(ts.flatMap (bD d)++41::a8 n) from hc) with rfl|hc
  ·decide
  ·rcases List.mem_append.mp hc with hc|hc
   ·obtain⟨t,ht,hc⟩:=List.mem_flatMap.mp hc
    exact si d t (h t ht) c hc
   ·rcases List.mem_cons.mp hc with rfl|hc
    ·decide
    ·exact jS n1 n2 c hc
theorem wV{d:Nat}{ts:List Tr}(h:∀t∈ts,iQ d t):dz (ts.flatMap (bD d)):=fun c hc=>by
 obtain⟨t,ht,hc⟩:=List.mem_flatMap.mp hc
 exact si d t (h t ht) c hc
theorem CC{xs:List de}{n:Int}(h:xO 4 xs n):dz (wL 4 xs n):=by
 cases xs with
 |nil=>
  have:∀c∈[101,94,45],c<128:=by decide
  exact this
 |cons x r=>
  obtain⟨_,ho,n1,n2⟩:=h
  refine(wV (ho x (List.mem_cons_self ..)).2.1).app (dz.app (fun c hc=>?_) fun c hc=>?_)
  ·obtain⟨y,hy,hc⟩:=List.mem_flatMap.mp hc
   obtain⟨_,o1,o2,o3⟩:=ho y (List.mem_cons_of_mem _ hy)
   rcases List.mem_cons.mp hc with rfl|hc
   ·decide
   ·exact((jS o2 o3).app (wV o1)) c hc
  ·unfold fH at hc
   by_cases h0:n=0
   ·rw[if_pos h0] at hc;cases hc
   ·rw[if_neg h0] at hc
    rcases List.mem_cons.mp hc with rfl|hc
    ·decide
    ·rcases List.mem_append.mp hc with hc|hc
     ·exact jS (by split<;>omega) (by split<;>omega) c hc
     ·have:c=if 0<n then 43 else 45:=by simpa using hc
      rw[this]
      split<;>decide
theorem CD{xs:List de}{n:Int}(h:xO 4 xs n)(Dy:jQ xs≤386):(wL 4 xs n).length≤391:=by
 have CB:∀ys:List de,(∀y∈ys,oJ 4 y)→(a5 4 ys).length≤jQ ys:=by
  intro ys
  induction ys with
  |nil=>intro _;exact Nat.zero_le _
  |cons y r ih=>
   intro hy
   have h1:=ih fun z hz=>hy z (List.mem_cons_of_mem _ hz)
   obtain⟨_,ho,b1,b2⟩:=hy y (List.mem_cons_self ..)
   have h2:=kK 4 y.2
   have h3:=wG b1 b2
   have e1:jQ (y::r)=4+g6 4 y.2+jQ r:=by unfold jQ;rw[List.map_cons,List.sum_cons]
   have e2:(a5 4 (y::r)).length=1+((a8 y.1).length+(y.2.flatMap (bD 4)).length)+(a5 4 r).length:=by
    unfold a5 dh
    rw[List.flatMap_cons,List.length_append,List.length_cons,List.length_append]
    omega
   rw[e1,e2]
   omega
 cases xs with
 |nil=>exact(by decide:3≤391)
 |cons y r=>
  obtain⟨_,ho,n1,n2⟩:=h
  have hd:=CB (y::r) ho
  have hc:=nD n1 n2
  have e2:(a5 4 (y::r)).length=1+((a8 y.1).length+(y.2.flatMap (bD 4)).length)+(a5 4 r).length:=by
   unfold a5 dh
   rw[List.flatMap_cons,List.length_append,List.length_cons,List.length_append]
   omega
  rw[show wL 4 (y::r) n=y.2.flatMap (bD 4)++(a5 4 r++fH n) from rfl,List.length_append,List.length_append]
  omega
theorem wW(x:Str){a:Nat}(ha:a≤x.length):(Txt.slice x none (some (a:Int))).cps.toList=x.cps.toList.take a:=by
 have:=gA x (a:=0) (b:=a) (Nat.zero_le _) (Nat.zero_le _)
 rw[List.drop_zero,Nat.sub_zero] at this
 rw[←this]
 have e:∀n,Builtin.Str.strSliceIndices none (some (a:Int)) 1 n=Builtin.Str.strSliceIndices (some ((0 :Nat):Int)) (some (a:Int)) 1 n:=fun n=>by
  simp only [Builtin.Str.strSliceIndices,show ((1 :Int) >0)=True from by simp,if_true]
  congr 1
 unfold Txt.slice
 rw[e]
theorem wX(x:Str){a:Nat}(ha:a≤x.length):(Txt.slice x (some (a:Int)) none).cps.toList=x.cps.toList.drop a:=by
 have hl:x.cps.toList.length=x.length:=by simp [Str.length]
 have:=gA x (a:=a) (b:=x.length) ha ha
 rw[List.take_of_length_le (by rw[List.length_drop];omega)] at this
 rw[←this]
 have e:Builtin.Str.strSliceIndices (some (a:Int)) none 1 x.length=Builtin.Str.strSliceIndices (some (a:Int)) (some ((x.length:Nat):Int)) 1 x.length:=by
  simp only [Builtin.Str.strSliceIndices,show ((1 :Int) >0)=True from by simp,if_true]
  congr 1
  have:¬((x.length:Nat):Int) <0:=by omega
  rw[if_neg this]
  omega
 unfold Txt.slice
 rw[e]
theorem Aq(l:List Nat){a:Nat}(h:a≤l.length):Txt.slice ⟨l.toArray⟩ none (some (a:Int))=⟨(l.take a).toArray⟩:=dJ (by rw[wW _ (by rw[aH];exact h)])
theorem wY(l:List Nat){a:Nat}(h:a≤l.length):Txt.slice ⟨l.toArray⟩ (some (a:Int)) none=⟨(l.drop a).toArray⟩:=dJ (by rw[wX _ (by rw[aH];exact h)])
theorem iE.ok{u v:List Nat}{n:Int}(h:iE 3 u n v):u=a8 n++v∧1≤n∧n≤999:=⟨h.1,h.2.1,by have:=h.2.2.1;omega⟩
theorem gQ.ok{u k v:List Nat}{n:Int}(h:gQ u k n v):u=(k++a8 n)++v∧jK k∧1≤n∧n≤999:=by
 obtain⟨w,rfl,hk,_,hN⟩:=h
 obtain⟨e,n1,n2⟩:=hN.ok
 exact⟨by rw[e,List.append_assoc],hk,n1,n2⟩
theorem Sq.ok{p:List Nat→Tr→List Nat→Prop}{d:Nat}(hp:∀u t v,p u t v→u=bD d t++v∧iQ d t){u:List Nat}:∀{ts:List Tr} {v:List Nat},Sq p u ts v→u=ts.flatMap (bD d)++v∧ts≠[]∧∀t∈ts,iQ d t:=by
 intro ts v h
 induction h with
 |one t v a=>
  obtain⟨e,o⟩:=hp u t v a
  refine⟨by rw[e];simp,by simp,fun t' ht=>by rw[List.mem_singleton.mp ht];exact o⟩
 |snoc ts w t v _ _ a ih=>
  obtain⟨e,_,o⟩:=ih
  obtain⟨e2,o2⟩:=hp w t v a
  refine⟨by rw[e,e2,List.flatMap_append,List.append_assoc];simp,by simp,fun t' ht=>?_⟩
  rcases List.mem_append.mp ht with z|z
  ·exact o t' z
  ·rw[List.mem_singleton.mp z];exact o2
theorem gZ.ok:∀(d:Nat) (u:List Nat) (t:Tr) (v:List Nat),gZ d u t v→u=bD d t++v∧iQ d t
 |0,u,t,v,h=>by
  obtain⟨k,n,rfl,a⟩:=h
  obtain⟨e,o⟩:=a.ok
  exact⟨e,o⟩
 |d+1,u,t,v,h=>by
  rcases h with ⟨_,k,n,rfl,a⟩ | ⟨u',ts,n,w,rfl,rfl,⟨q,_⟩,hN⟩
  ·obtain⟨e,o⟩:=a.ok
   exact⟨e,o⟩
  ·obtain⟨e,ne,o⟩:=q.ok (gZ.ok d)
   obtain⟨e2,n1,n2⟩:=hN.ok
   refine⟨?_,ne,o,n1,n2⟩
   rw[e,e2]
   show 40::(ts.flatMap (bD d)++41::(a8 n++v))=40::(ts.flatMap (bD d)++41::a8 n)++v
   simp
theorem pQ.ok{u:List Nat}:∀{ps:List de} {v:List Nat},pQ u ps v→∃x r,ps=x::r∧x.1=1∧u=x.2.flatMap (bD 4)++(a5 4 r++v)∧∀y∈ps,oJ 4 y:=by
 intro ps v h
 induction h with
 |one ts v a=>
  obtain⟨e,ne,o⟩:=a.1.ok (gZ.ok 4)
  exact⟨(1,ts),[],rfl,rfl,e,fun y hy=>by rw[List.mem_singleton.mp hy];exact⟨ne,o,(by show (1 :Int)≤1;decide),(by show (1 :Int)≤999;decide)⟩⟩
 |snoc ps w m w1 ts v _ n a ih=>
  obtain⟨x,r,rfl,x1,e,o⟩:=ih
  obtain⟨e2,n1,n2⟩:=n.ok
  obtain⟨e3,ne,o3⟩:=a.1.ok (gZ.ok 4)
  refine⟨x,r++[(m,ts)],rfl,x1,?_,fun y hy=>?_⟩
  ·rw[e,e2,e3]
   unfold a5 dh
   rw[List.flatMap_append]
   simp
  ·rcases List.mem_append.mp (show y∈(x::r)++[(m,ts)] from hy) with z|z
   ·exact o y z
   ·rw[List.mem_singleton.mp z];exact⟨ne,o3,n1,n2⟩
theorem Ic.ok{u v:List Nat}{n:Int}(h:Ic u n v):u=fH n++v∧ -999≤n∧n≤999:=by
 rcases h with ⟨_,rfl,rfl⟩ | ⟨u',m,w,rfl,hN,hs⟩
 ·exact⟨rfl,by decide,by decide⟩
 ·obtain⟨e,n1,n2⟩:=hN.ok
  rcases hs with ⟨rfl,rfl⟩ | ⟨rfl,rfl⟩
  ·refine⟨?_,by omega,by omega⟩
   unfold fH
   rw[if_neg (by omega),if_pos (by omega),if_neg (by omega),Int.neg_neg,e]
   simp
  ·refine⟨?_,by omega,by omega⟩
   unfold fH
   rw[if_neg (by omega),if_neg (by omega),if_pos (by omega),e]
   simp
theorem yU.ok{u:List Nat}{xs:List de}{n:Int}(h:yU u xs n []):u=wL 4 xs n∧xO 4 xs n:=by
 rcases h with ⟨rfl,rfl,rfl⟩ | ⟨_,w,q,_,c⟩
 ·exact⟨rfl,rfl⟩
 ·obtain⟨x,r,rfl,x1,e,o⟩:=q.ok
  obtain⟨e2,n1,n2⟩:=c.ok
  exact⟨by rw[e,e2,List.append_nil];rfl,x1,o,n1,n2⟩
theorem iE.Iw{n:Int}{v:List Nat}(n1:1≤n)(n2:n≤999)(h:Not cJ v):iE 3 (a8 n++v) n v:=⟨rfl,n1,by omega,wG n1 n2, .inl h⟩
theorem gQ.OQ{k v:List Nat}{n:Int}(hk:jK k)(n1:1≤n)(n2:n≤999)(h:Not cJ v)(hs:Not eR v):gQ ((k++a8 n)++v) k n v:=
 ⟨a8 n++v,List.append_assoc ..,hk, .inr (yP (vN n1 n2) hs), .Iw n1 n2 h⟩
theorem Stop.more{v:List Nat}(h:Stop v):¬More v:=fun⟨c,hc,z⟩=>by
 rcases z with z|z
 ·rw[h.2.2.1 c hc] at z;cases z
 ·have:=h.2.2.2 c hc
  simp [z] at this
theorem Sq.K0{d:Nat}(hp:∀t v,iQ d t→Not cJ v→Not eR v→gZ d (bD d t++v) t v){ts:List Tr}(gP:ts≠[])(ho:∀t∈ts,iQ d t){v:List Nat}(hs:Stop v):xP (gZ d) (ts.flatMap (bD d)++v) ts v:=by
 have step:∀i,i<ts.length→Sq (gZ d) (ts.flatMap (bD d)++v) (ts.take (i+1)) ((ts.drop (i+1)).flatMap (bD d)++v):=by
  intro i
  induction i with
  |zero=>
   intro h
   have e:ts=ts[0]::ts.drop 1:=by have:=list_at h;simpa using this
   have nn:=kq (d:=d) (ts:=ts.drop 1) (fun t ht=>ho t (List.mem_of_mem_drop ht)) hs
   have:=Sq.one (p:=gZ d) (u:=ts.flatMap (bD d)++v) ts[0] ((ts.drop 1).flatMap (bD d)++v) (by
    have e2:ts.flatMap (bD d)++v=bD d ts[0]++((ts.drop 1).flatMap (bD d)++v):=by
     conv=>lhs;rw[e]
     rw[List.flatMap_cons,List.append_assoc]
    rw[e2]
    exact hp _ _ (ho _ (List.getElem_mem h)) nn.1 nn.2)
   have e1:ts.take 1=[ts[0]]:=by rw[List.take_add_one,List.getElem?_eq_getElem h];rfl
   rw[Nat.zero_add,e1]
   exact this
  |succ i ih=>
   intro h
   have q:=ih (by omega)
   have e:ts.drop (i+1)=ts[i+1]::ts.drop (i+2):=List.drop_eq_getElem_cons h
   have n8:=ho _ (List.getElem_mem h)
   have nn:=kq (d:=d) (ts:=ts.drop (i+2)) (fun t ht=>ho t (List.mem_of_mem_drop ht)) hs
   obtain⟨c,r,hc,ht⟩:=nh n8
   have em:(ts.drop (i+1)).flatMap (bD d)++v=bD d ts[i+1]++((ts.drop (i+2)).flatMap (bD d)++v):=by rw[e,List.flatMap_cons,List.append_assoc]
   rw[em] at q
   rw[List.take_add_one,List.getElem?_eq_getElem h]
   refine .snoc _ _ _ _ q ⟨c,by rw[hc];rfl,ht.imp (·.1) (·.1)⟩ (hp _ _ n8 nn.1 nn.2)
 have hl:0<ts.length:=List.length_pos_iff.mpr gP
 have:=step (ts.length - 1) (by omega)
 rw[show ts.length - 1+1=ts.length by omega,List.take_length,List.drop_eq_nil_of_le (Nat.le_refl _)] at this
 exact⟨this,hs.more⟩
theorem gZ.K1:∀(d:Nat) (t:Tr) (v:List Nat),iQ d t→Not cJ v→Not eR v→gZ d (bD d t++v) t v
 |0, .one k n,v,h,hf,hs=>⟨k,n,rfl, .OQ h.1 h.2.1 h.2.2 hf hs⟩
 |0, .gr _ _,_,h,_,_=>h.elim
 |d+1, .one k n,v,h,hf,hs=>by
  refine .inl ⟨?_,k,n,rfl, .OQ h.1 h.2.1 h.2.2 hf hs⟩
  obtain⟨c,r,rfl,hg,_⟩:=h.1
  intro z
  have:c=40:=by simpa [bD] using z
  subst this
  cases hg
 |d+1, .gr ts n,v,⟨gP,ho,n1,n2⟩,hf,hs=>by
  refine .inr ⟨ts.flatMap (bD d)++41::(a8 n++v),ts,n,a8 n++v,?_,rfl,Sq.K0 (gZ.K1 d) gP ho (BQ _), .Iw n1 n2 hf⟩
  show 40::(ts.flatMap (bD d)++41::a8 n)++v=_
  simp
theorem pQ.QT{x:de}{r:List de}(x1:x.1=1)(ho:∀y∈x::r,oJ 4 y){v:List Nat}(hs:∀ys:List de,Stop (a5 4 ys++v)):pQ (x.2.flatMap (bD 4)++(a5 4 r++v)) (x::r) v:=by
 have step:∀i,i≤r.length→pQ (x.2.flatMap (bD 4)++(a5 4 r++v)) (x::r.take i) (a5 4 (r.drop i)++v):=by
  intro i
  induction i with
  |zero=>
   intro _
   obtain⟨ne,o,_⟩:=ho x (List.mem_cons_self ..)
   have:=pQ.one x.2 (a5 4 r++v) (Sq.K0 (gZ.K1 4) ne o (hs r))
   rw[←x1] at this
   exact this
  |succ i ih=>
   intro h
   have q:=ih (by omega)
   have hi:i<r.length:=h
   have e:r.drop i=r[i]::r.drop (i+1):=List.drop_eq_getElem_cons hi
   obtain⟨ne,o,n1,n2⟩:=ho r[i] (List.mem_cons_of_mem _ (List.getElem_mem hi))
   have em:a5 4 (r.drop i)++v=46::(a8 r[i].1++(r[i].2.flatMap (bD 4)++(a5 4 (r.drop (i+1))++v))):=by
    rw[e]
    unfold a5 dh
    rw[List.flatMap_cons]
    simp
   rw[em] at q
   have st:=hs (r.drop (i+1))
   have nn:=kq o st
   have:=pQ.snoc _ _ r[i].1 _ r[i].2 _ q (.Iw n1 n2 nn.1) (Sq.K0 (gZ.K1 4) ne o st)
   rw[List.take_add_one,List.getElem?_eq_getElem hi]
   exact this
 have:=step r.length (Nat.le_refl _)
 rw[List.take_length,List.drop_eq_nil_of_le (Nat.le_refl _)] at this
 exact this
theorem yU.QU{xs:List de}{n:Int}(h:xO 4 xs n):yU (wL 4 xs n) xs n []:=by
 cases xs with
 |nil=>
  have:n= -1:=h
  subst this
  exact .inl ⟨rfl,rfl,rfl⟩
 |cons x r=>
  obtain⟨x1,ho,n1,n2⟩:=h
  obtain⟨ne,o,_⟩:=ho x (List.mem_cons_self ..)
  refine .inr ⟨?_,fH n,?_,?_,?_⟩
  ·have t0:0<x.2.length:=List.length_pos_iff.mpr ne
   obtain⟨c,rest,hc,ht⟩:=nh (o _ (List.getElem_mem t0))
   have e:x.2=x.2[0]::x.2.drop 1:=by have:=list_at t0;simpa using this
   intro z
   have:c=101:=by
    rw[show wL 4 (x::r) n=x.2.flatMap (bD 4)++(a5 4 r++fH n) from rfl,e,List.flatMap_cons,hc] at z
    simpa using z
   subst this
   rcases ht with ⟨hg,_⟩ | ⟨z,_⟩
   ·cases hg
   ·cases z
  ·exact pQ.QT x1 ho fun ys=>by
    have:=tL 4 ys n (post:=[]) (.inl rfl)
    rwa [List.append_nil] at this
  ·rcases nq n with e| ⟨rr,e⟩<;>rw[e]<;>simp
  ·by_cases h0:n=0
   ·subst h0
    exact .inl ⟨by simp [fH],rfl,rfl⟩
   ·refine .inr ⟨a8 (if n<0 then -n else n)++[if 0<n then 43 else 45],(if n<0 then -n else n),[if 0<n then 43 else 45],by unfold fH;rw[if_neg h0], .Iw (by split<;>omega) (by split<;>omega) (fun c hc=>?_),?_⟩
    ·have e:(if 0<n then 43 else 45)=c:=by simpa using hc
     rw[←e]
     split<;>rfl
    ·by_cases hp:0<n
     ·right
      rw[if_pos hp,if_neg (by omega)]
      exact⟨rfl,rfl⟩
     ·left
      rw[if_neg hp,if_pos (by omega)]
      exact⟨rfl,by omega⟩
theorem sj{xs:List de}{n:Int}(h:xO 4 xs n):vd l4 0 (wL 4 xs n)=none:=by
 rw[qC (.QU h),if_pos rfl]
def wk:S8→Nat→List Nat→Option (S8×Nat)
 |s,dp,[]=>some (s,dp)
 |s,dp,c::r=>match gf s dp c with
  |none=>none
  |some (s',d')=>wk s' d' r
theorem sk:∀{l m:List Nat} {s s':S8} {dp d':Nat},wk s dp l=some (s',d')→vd s dp (l++m)=vd s' d' m
 | [],m,s,s',dp,d',h=>by cases h;rfl
 |c::r,m,s,s',dp,d',h=>by
  rw[wk] at h
  split at h
  ·cases h
  ·rename_i s1 d1 e
   rw[List.cons_append,cV e,sk h]
theorem sr:∀{l m:List Nat} {s:S8} {dp:Nat},vd s dp (l++m)=none→∃s' d',wk s dp l=some (s',d')
 | [],m,s,dp,_=>⟨s,dp,rfl⟩
 |c::r,m,s,dp,h=>by
  rw[List.cons_append,vd] at h
  split at h
  ·cases h
  ·rename_i s1 d1 e
   obtain⟨s',d',z⟩:=sr h
   exact⟨s',d',by rw[wk,e];exact z⟩
theorem su:∀{l:List Nat} {c:Nat} {s s':S8} {dp d':Nat},wk s dp (l++[c])=some (s',d')→∃s1 d1,wk s dp l=some (s1,d1)∧gf s1 d1 c=some (s',d')
 | [],c,s,s',dp,d',h=>by
   rw[List.nil_append,wk] at h
   split at h
   ·cases h
   ·rename_i s1 d1 e
    cases h
    exact⟨s,dp,rfl,e⟩
 |b::r,c,s,s',dp,d',h=>by
  rw[List.cons_append,wk] at h
  split at h
  ·cases h
  ·rename_i s1 d1 e
   obtain⟨s2,d2,z1,z2⟩:=su h
   exact⟨s2,d2,by rw[wk,e];exact z1,z2⟩
def jx(u:List Nat):List Nat:=(u.reverse.takeWhile cJ).reverse
def eP(u:List Nat):List Nat:=(u.reverse.dropWhile cJ).reverse
theorem Dz(u:List Nat):u=eP u++jx u:=by
 unfold eP jx
 rw[←List.reverse_append,List.takeWhile_append_dropWhile,List.reverse_reverse]
theorem iK(u:List Nat)(c:Nat):jx (u++[c])=if cJ c=true then jx u++[c] else []:=by
 unfold jx
 rw[List.reverse_append]
 show ((c::u.reverse).takeWhile cJ).reverse=_
 rw[List.takeWhile_cons]
 by_cases h:cJ c=true
 ·rw[if_pos h,if_pos h,List.reverse_cons]
 ·rw[if_neg h,if_neg h];rfl
theorem gk(u:List Nat)(c:Nat):eP (u++[c])=if cJ c=true then eP u else u++[c]:=by
 unfold eP
 rw[List.reverse_append]
 show ((c::u.reverse).dropWhile cJ).reverse=_
 rw[List.dropWhile_cons]
 by_cases h:cJ c=true
 ·rw[if_pos h,if_pos h]
 ·rw[if_neg h,if_neg h,List.reverse_cons,List.reverse_reverse]
def E8(u:List Nat)(s:S8)(dp:Nat):Prop:=
 u.count 40=dp+u.count 41∧
 (s.nm= .start→u=[]∧dp=0∧s.al=false)∧
 (s.nm= .B7→u.getLast? =some 40)∧
 (s.nm= .part→(∃c,(eP u).getLast? =some c∧(gB c=true∨eR c=true∨c=41))∧s.fg=(jx u).length∧(s.al=true↔jx u=[49]))∧
 (s.nm= .dot→(eP u).getLast? =some 46∧dp=0)∧
 (s.nm= .bG→(eP u).getLast? =some 94∧dp=0)∧
 (s.nm= .f'→u=[101]∧dp=0)∧
 (s.nm= .minus→u=[101,94]∧dp=0)∧
 (s.nm= .stop→(∃c,u.getLast? =some c∧(c=43∨c=45))∧dp=0)
theorem pN(u:List Nat)(c b:Nat):(u++[c]).count b=u.count b+if c=b then 1 else 0:=by
 rw[List.count_append,List.count_singleton]
 by_cases h:c=b
 ·subst h;simp
 ·simp [h]
theorem E8.step{u:List Nat}{s s':S8}{dp d' c:Nat}(h:E8 u s dp)(e:gf s dp c=some (s',d')):E8 (u++[c]) s' d':=by
 obtain⟨h0,h1,h2,h3,h4,h5,h6,h7,h8⟩:=h
 have hk:∀{s':S8} {d':Nat},u.count 40+(if c=40 then 1 else 0)=d'+(u.count 41+if c=41 then 1 else 0)→(u++[c]).count 40=d'+(u++[c]).count 41:=fun {_ d'} z=>by
  rw[pN,pN]
  exact z
 have last:(u++[c]).getLast? =some c:=by simp
 unfold gf at e
 by_cases c1:cJ c=true∧(s.nm= .part∨s.nm= .dot∨s.nm= .bG)
 ·rw[if_pos c1] at e
  obtain⟨hF,hn⟩:=c1
  unfold An at e
  split at e
  ·cases e
  ·cases e
   have nf:=jq hF
   have t1:jx (u++[c])=jx u++[c]:=by rw[iK,if_pos hF]
   have t2:eP (u++[c])=eP u:=by rw[gk,if_pos hF]
   refine⟨hk (s':=s) (by rw[if_neg nf.2.2.1,if_neg nf.2.2.2.1];omega),?_,?_,?_,?_,?_,?_,?_,?_⟩
   ·intro z;have z:s.nm= .start:=z;rcases hn with y|y|y<;>(rw[y] at z;cases z)
   ·intro z;have z:s.nm= .B7:=z;rcases hn with y|y|y<;>(rw[y] at z;cases z)
   ·intro z
    have z:s.nm= .part:=z
    obtain⟨p1,p2,p3⟩:=h3 z
    refine⟨by rw[t2];exact p1,by rw[t1,List.length_append];show s.fg+1=_;rw[p2];rfl,?_⟩
    show (decide (s.fg=0)&&decide (c=49))=true↔_
    rw[t1,p2]
    constructor
    ·intro y
     rw[Bool.and_eq_true,decide_eq_true_eq,decide_eq_true_eq] at y
     rw[List.length_eq_zero_iff.mp y.1,y.2]
     rfl
    ·intro y
     have ly:=congrArg List.length y
     rw[List.length_append] at ly
     have l0:(jx u).length=0:=by simp at ly;rw[ly];rfl
     rw[List.length_eq_zero_iff.mp l0] at y
     have:c=49:=by simpa using y
     rw[this,l0]
     rfl
   ·intro z
    have z:s.nm= .dot:=z
    rw[t2]
    exact h4 z
   ·intro z
    have z:s.nm= .bG:=z
    rw[t2]
    exact h5 z
   ·intro z;have z:s.nm= .f':=z;rcases hn with y|y|y<;>(rw[y] at z;cases z)
   ·intro z;have z:s.nm= .minus:=z;rcases hn with y|y|y<;>(rw[y] at z;cases z)
   ·intro z;have z:s.nm= .stop:=z;rcases hn with y|y|y<;>(rw[y] at z;cases z)
 rw[if_neg c1] at e
 by_cases c2:s.al=true∨s.nm= .stop
 ·rw[if_pos c2] at e;cases e
 rw[if_neg c2] at e
 by_cases c3:s.nm= .f'∨s.nm= .minus∨s.nm= .bG
 ·rw[if_pos c3] at e
  by_cases c4:c=B8 s.nm∨s.nm= .bG∧c=45
  ·rw[if_pos c4] at e
   cases e
   have d0:dp=0:=by
    rcases c3 with z|z|z
    ·exact(h6 z).2
    ·exact(h7 z).2
    ·exact(h5 z).2
   have hc:c=94∧s.nm= .f'∨(c=43∨c=45)∧s.nm≠ .f':=by
    rcases c3 with z|z|z
    ·left
     rcases c4 with y|y
     ·rw[z] at y;exact⟨y,z⟩
     ·rw[z] at y;cases y.1
    ·right
     rcases c4 with y|y
     ·rw[z] at y;exact⟨.inr y,by rw[z];decide⟩
     ·rw[z] at y;cases y.1
    ·right
     rcases c4 with y|y
     ·rw[z] at y;exact⟨.inl y,by rw[z];decide⟩
     ·exact⟨.inr y.2,by rw[z];decide⟩
   have n4:c≠40∧c≠41:=by
    rcases hc with ⟨z,_⟩ | ⟨z|z,_⟩<;>(rw[z];decide)
   refine⟨hk (s':=s) (by rw[if_neg n4.1,if_neg n4.2];omega),?_,?_,?_,?_,?_,?_,?_,?_⟩
   all_goals
    intro z
    rcases hc with ⟨hc,hr⟩ | ⟨hc,hr⟩
   any_goals (have z:(if s.nm= .f' then Nm.minus else .stop)=_:=z;rw[if_pos hr] at z;first| (cases z;done) |exact⟨by rw[(h6 hr).1,hc];rfl,d0⟩)
   any_goals (have z:(if s.nm= .f' then Nm.minus else .stop)=_:=z;rw[if_neg hr] at z;first| (cases z;done) |exact⟨⟨c,last,hc⟩,d0⟩)
  ·rw[if_neg c4] at e;cases e
 rw[if_neg c3] at e
 have nF:gB c=true∨eR c=true∨c=40∨c=41∨c=46∨c=94→cJ c=false:=by
  intro z
  simp only [gB,eR,cJ,Bool.and_eq_true,decide_eq_true_eq,Bool.and_eq_false_iff,decide_eq_false_iff_not] at*
  omega
 by_cases c5:gB c=true∨eR c=true
 ·rw[if_pos c5] at e
  have f0:cJ c=false:=nF (c5.elim .inl fun z=> .inr (.inl z))
  have n4:c≠40∧c≠41:=by
   simp only [gB,eR,Bool.and_eq_true,decide_eq_true_eq] at c5
   omega
  have t1:jx (u++[c])=[]:=by rw[iK,if_neg (by rw[f0];simp)]
  have t2:eP (u++[c])=u++[c]:=by rw[gk,if_neg (by rw[f0];simp)]
  have part:∀sm,E8 (u++[c]) ⟨.part,sm,0,false⟩ dp:=fun sm=>by
   refine⟨hk (s':=s) (by rw[if_neg n4.1,if_neg n4.2];omega),?_,?_,?_,?_,?_,?_,?_,?_⟩
   any_goals (intro z;cases z;done)
   intro _
   refine⟨⟨c,by rw[t2];exact last,c5.elim .inl fun z=> .inr (.inl z)⟩,by rw[t1];rfl,?_⟩
   rw[t1]
   exact⟨fun z=>(by cases z),fun z=>(by cases z)⟩
  unfold Ds at e
  split at e
  ·cases e;exact part 2
  ·split at e
   ·rename_i hh
    cases e
    obtain⟨u0,d0,_⟩:=h1 hh.1
    refine⟨hk (s':=s) (by rw[if_neg n4.1,if_neg n4.2];omega),?_,?_,?_,?_,?_,?_,?_,?_⟩
    any_goals (intro z;cases z;done)
    intro _
    rw[u0,hh.2]
    exact⟨rfl,d0⟩
   ·split at e
    ·cases e;exact part _
    ·cases e
 rw[if_neg c5] at e
 by_cases c6:c=40∧dp<4
 ·rw[if_pos c6] at e
  cases e
  refine⟨hk (s':=s) (by rw[if_pos c6.1,if_neg (by rw[c6.1];decide)];omega),?_,?_,?_,?_,?_,?_,?_,?_⟩
  any_goals (intro z;cases z;done)
  intro _
  rw[last,c6.1]
 rw[if_neg c6] at e
 by_cases c7:s.nm= .part∧c=41∧0<dp
 ·rw[if_pos c7] at e
  cases e
  have f0:cJ c=false:=nF (.inr (.inr (.inr (.inl c7.2.1))))
  have t1:jx (u++[c])=[]:=by rw[iK,if_neg (by rw[f0];simp)]
  have t2:eP (u++[c])=u++[c]:=by rw[gk,if_neg (by rw[f0];simp)]
  refine⟨hk (s':=s) (by rw[if_neg (by rw[c7.2.1];decide),if_pos c7.2.1];omega),?_,?_,?_,?_,?_,?_,?_,?_⟩
  any_goals (intro z;cases z;done)
  intro _
  refine⟨⟨c,by rw[t2];exact last, .inr (.inr c7.2.1)⟩,by rw[t1];rfl,?_⟩
  rw[t1]
  exact⟨fun z=>(by cases z),fun z=>(by cases z)⟩
 rw[if_neg c7] at e
 split at e
 ·rename_i hh
  cases e
  obtain⟨hp,hc,d0⟩:=hh
  have f0:cJ c=false:=nF (.inr (.inr (.inr (.inr hc))))
  have t2:eP (u++[c])=u++[c]:=by rw[gk,if_neg (by rw[f0];simp)]
  have n4:c≠40∧c≠41:=by rcases hc with z|z<;>(rw[z];decide)
  refine⟨hk (s':=s) (by rw[if_neg n4.1,if_neg n4.2];omega),?_,?_,?_,?_,?_,?_,?_,?_⟩
  all_goals
   intro z
   have z:(if c=46 then Nm.dot else .bG)=_:=z
   by_cases k7:c=46
  any_goals (rw[if_pos k7] at z;first| (cases z;done) |exact⟨by rw[t2,last,k7],d0⟩)
  any_goals (rw[if_neg k7] at z;first| (cases z;done) |exact⟨by rw[t2,last,hc.resolve_left k7],d0⟩)
 ·cases e
theorem Ar:∀{u:List Nat} {s:S8} {dp:Nat},wk l4 0 u=some (s,dp)→E8 u s dp:=by
 intro u
 induction hn:u.length generalizing u with
 |zero=>
  intro s dp h
  have:u=[]:=List.length_eq_zero_iff.mp hn
  subst this
  cases h
  refine⟨rfl,?_,?_,?_,?_,?_,?_,?_,?_⟩
  any_goals (intro z;cases z;done)
  exact fun _=>⟨rfl,rfl,rfl⟩
 |succ n ih=>
  intro s dp h
  obtain⟨v,c,rfl⟩:∃v c,u=v++[c]:=⟨u.dropLast,u.getLast (by intro z;rw[z] at hn;cases hn),(List.dropLast_concat_getLast _).symm⟩
  obtain⟨s1,d1,w1,w2⟩:=su h
  exact(ih (by simpa using hn) w1).step w2
def DA(u:List Nat):Prop:=(u=[]∨(∃c,u.getLast? =some c∧(c=40∨c=46∨c=94))∨u=[101]∨u=[101,94])∨(jx u=[49]∨(eP u).getLast? =some 94)∨u.count 41<u.count 40∨(eP u).getLast? =some 46
theorem OR{u:List Nat}{s:S8}{dp:Nat}(h:wk l4 0 u=some (s,dp)):DA u↔¬qz s dp:=by
 obtain⟨h0,h1,h2,h3,h4,h5,h6,h7,h8⟩:=Ar h
 cases hn:s.nm with
 |start=>exact⟨fun _ z=>(by rcases z with z|z;rw[hn] at z;cases z;rw[hn] at z;cases z.1),fun _=> .inl (.inl (h1 hn).1)⟩
 |B7=>exact⟨fun _ z=>(by rcases z with z|z;rw[hn] at z;cases z;rw[hn] at z;cases z.1),fun _=> .inl (.inr (.inl ⟨40,h2 hn, .inl rfl⟩))⟩
 |dot=>exact⟨fun _ z=>(by rcases z with z|z;rw[hn] at z;cases z;rw[hn] at z;cases z.1),fun _=> .inr (.inr (.inr (h4 hn).1))⟩
 |bG=>exact⟨fun _ z=>(by rcases z with z|z;rw[hn] at z;cases z;rw[hn] at z;cases z.1),fun _=> .inr (.inl (.inr (h5 hn).1))⟩
 |f'=>exact⟨fun _ z=>(by rcases z with z|z;rw[hn] at z;cases z;rw[hn] at z;cases z.1),fun _=> .inl (.inr (.inr (.inl (h6 hn).1)))⟩
 |minus=>exact⟨fun _ z=>(by rcases z with z|z;rw[hn] at z;cases z;rw[hn] at z;cases z.1),fun _=> .inl (.inr (.inr (.inr (h7 hn).1)))⟩
 |stop=>
  obtain⟨⟨c,hc,rf⟩,d0⟩:=h8 hn
  have hF:cJ c=false:=by rcases rf with rfl|rfl<;>rfl
  have hu:u=u.dropLast++[c]:=by
   have gP:u≠[]:=fun z=>by rw[z] at hc;cases hc
   rw[List.getLast?_eq_some_getLast gP] at hc
   cases hc
   exact(List.dropLast_concat_getLast gP).symm
  have t1:jx u=[]:=by rw[hu,iK,if_neg (by rw[hF];simp)]
  have t2:eP u=u:=by rw[hu,gk,if_neg (by rw[hF];simp)]
  refine⟨fun z=>?_,fun z=>absurd (.inl hn) z⟩
  exfalso
  rcases z with (z| ⟨b,hb,z⟩ |z|z) | (z|z) |z|z
  ·rw[z] at hc;cases hc
  ·rw[hc] at hb;cases hb;rcases rf with rfl|rfl<;>(rcases z with z|z|z<;>cases z)
  ·rw[z] at hc;cases hc;rcases rf with z|z<;>cases z
  ·rw[z] at hc;cases hc;rcases rf with z|z<;>cases z
  ·rw[t1] at z;cases z
  ·rw[t2,hc] at z;cases z;rcases rf with z|z<;>cases z
  ·omega
  ·rw[t2,hc] at z;cases z;rcases rf with z|z<;>cases z
 |part=>
  obtain⟨⟨c,hc,rf⟩,hf,OS⟩:=h3 hn
  have nc:c≠40∧c≠46∧c≠94∧cJ c=false:=by
   simp only [gB,eR,cJ,Bool.and_eq_true,decide_eq_true_eq,Bool.and_eq_false_iff,decide_eq_false_iff_not] at*
   omega
  constructor
  ·rintro z (y| ⟨_,y1,y2⟩)
   ·rw[hn] at y;cases y
   ·rcases z with (z| ⟨b,hb,z⟩ |z|z) | (z|z) |z|z
    ·rw[z] at hc;cases hc
    ·
     by_cases ht:jx u=[]
     ·have:eP u=u:=by have:=Dz u;rw[ht,List.append_nil] at this;exact this.symm
      rw[this,hb] at hc
      cases hc
      rcases z with z|z|z
      ·exact nc.1 z
      ·exact nc.2.1 z
      ·exact nc.2.2.1 z
     ·have e:=Dz u
      have:u.getLast? =(jx u).getLast? :=by
       conv=>lhs;rw[e]
       rw[List.getLast?_append]
       cases hz:(jx u).getLast? with
       |none=>exact absurd (List.getLast?_eq_none_iff.mp hz) ht
       |some b=>rfl
      rw[this] at hb
      have hm:=List.mem_of_getLast? hb
      have:cJ b=true:=by
       unfold jx at hm
       exact List.all_eq_true.mp List.all_takeWhile b (List.mem_reverse.mp hm)
      rcases z with rfl|rfl|rfl<;>cases this
    ·rw[z] at h
     have:s.nm= .f':=by cases h;rfl
     rw[hn] at this;cases this
    ·rw[z] at h
     have:s.nm= .minus:=by cases h;rfl
     rw[hn] at this;cases this
    ·rw[OS.mpr z] at y2;cases y2
    ·rw[hc] at z;cases z;exact nc.2.2.1 rfl
    ·omega
    ·rw[hc] at z;cases z;exact nc.2.1 rfl
  ·intro z
   by_cases hd:dp=0
   ·have:s.al=true:=by
     cases e:s.al with
     |true=>rfl
     |false=>exact absurd (.inr ⟨hn,hd,e⟩) z
    exact .inr (.inl (.inl (OS.mp this)))
   ·exact .inr (.inr (.inl (by omega)))
variable {HE NF TL X1 X2 X3 X4 X5 X6 X7 X8:Addr}{uC uP uI uD uL uT:Tok}
structure CF(K:PySem.W.Frag)(mg:Str→Option Value)(HE NF TL X1 X2 X3 X4 X5 X6 X7 X8:Addr):Prop extends nv K mg HE NF TL where
 a4:mg "isinstance" =none
 nI:mg "ValueError" =none
 nJ:PySem.W.yw K HE
 pO:mg "NoBalance" =some (.ref X1)
 qO:mg "NoChange" =some (.ref X2)
 wZ:mg "NoName" =some (.ref X3)
 zq:mg "NoRow" =some (.ref X4)
 uk:mg "NoSplit" =some (.ref X5)
 zr:mg "Short" =some (.ref X6)
 um:mg "TooMany" =some (.ref X7)
 nK:mg "Unbalanced" =some (.ref X8)
 i1:∀{X},X=NF∨X=TL→PySem.W.kitOne K (.ref X) (.ref X1)=some false
 i2:∀{X},X=NF∨X=TL→PySem.W.kitOne K (.ref X) (.ref X2)=some false
 i3:∀{X},X=NF∨X=TL→PySem.W.kitOne K (.ref X) (.ref X3)=some false
 i4:∀{X},X=NF∨X=TL→PySem.W.kitOne K (.ref X) (.ref X4)=some false
 i5:∀{X},X=NF∨X=TL→PySem.W.kitOne K (.ref X) (.ref X5)=some false
 i6:∀{X},X=NF∨X=TL→PySem.W.kitOne K (.ref X) (.ref X6)=some false
 i7:∀{X},X=NF∨X=TL→PySem.W.kitOne K (.ref X) (.ref X7)=some false
 i8:∀{X},X=NF∨X=TL→PySem.W.kitOne K (.ref X) (.ref X8)=some false
 iV:∀{X},X=NF∨X=TL→PySem.W.kitOne K (.ref X) (.type "ValueError")=some true
 QV:PySem.W.kitOne K (.ref NF) (.ref TL)=some false
 QW:PySem.W.kitOne K (.ref TL) (.ref NF)=some false
 QX:PySem.W.kitOne K (.ref NF) (.ref NF)=some true
 QY:PySem.W.kitOne K (.ref TL) (.ref TL)=some true
 qP:∀{X},X=NF∨X=TL→Oi K X
 EZ:∀{X},X=NF∨X=TL→PySem.W.mroIn K X (.ref HE)=some true
 sv:PySem.W.findIn K (.ref NF) "place" =some none
 xa:PySem.W.findIn K (.ref TL) "many" =some none
def pP(NF TL:Addr):Sp:=fun vs H Q _=>∃e X:Addr,vs=[.ref e]∧(X=NF∨X=TL)∧tE H e X∧Q (.bl false) H
theorem xb:ax ["_law_e"] ["_law_e"] (ak jJ):=dO
theorem uo{f0 f1:Addr}(D:Def K mg "_law_others" "_law_others" jJ ["_law_e"])(T:CF K mg HE NF TL X1 X2 X3 X4 X5 X6 X7 X8)(Z:PySem.W.cj K NF HE f0)(Z1:PySem.W.cj K TL HE f1):bj P w K mg base 1 "_law_others" ["_law_e"] (pP NF TL):=by
 refine D.e9 xb (fun vs H Q E h=>?_) (fun f bb A outer s H vs Q E hr h=>?_)
 ·obtain⟨e,X,rfl,_⟩:=h
  rfl
 ·obtain⟨e,X,rfl,hX,hE,q⟩:=h
  obtain⟨g,ZX⟩:∃g,PySem.W.cj K X HE g:=by
   rcases hX with rfl|rfl
   ·exact⟨_,Z⟩
   ·exact⟨_,Z1⟩
  have Y:=T.qP hX
  refine⟨_,(aj
     (a7 (PW.pt (gN (du (aS bo rfl T.a4 aY (aa (pv 0) (aa (aV (v:= .ref _) rfl T.pO rfl) ai)))) (gN (du (aS bo rfl T.a4 aY (aa (pv 0) (aa (aV (v:= .ref _) rfl T.qO rfl) ai)))) (gN (du (aS bo rfl T.a4 aY (aa (pv 0) (aa (aV (v:= .ref _) rfl T.wZ rfl) ai)))) (iS (du (aS bo rfl T.a4 aY (aa (pv 0) (aa (aV (v:= .ref _) rfl T.zq rfl) ai)))))))))
      (aq
       (aE fJ))
      aQ)
    (aq
     (aE (rg (aS bo rfl T.a4 aY (aa (pv 0) (aa (aV (v:= .ref _) rfl T.uk rfl) ai))) (rg (aS bo rfl T.a4 aY (aa (pv 0) (aa (aV (v:= .ref _) rfl T.zr rfl) ai))) (rg (aS bo rfl T.a4 aY (aa (pv 0) (aa (aV (v:= .ref _) rfl T.um rfl) ai))) (pW (aS bo rfl T.a4 aY (aa (pv 0) (aa (aV (v:= .ref _) rfl T.nK rfl) ai)))))))))),?_⟩
  refine⟨_,rfl,e,_,_,X,HE,g,false,rfl,rfl,ZX,Y,hE,T.i1 hX,_,rfl,bZ ⟨_,rfl,e,_,_,X,HE,g,false,rfl,rfl,ZX,Y,hE,T.i2 hX,_,rfl,bZ ⟨_,rfl,e,_,_,X,HE,g,false,rfl,rfl,ZX,Y,hE,T.i3 hX,_,rfl,bZ ⟨_,rfl,e,_,_,X,HE,g,false,rfl,rfl,ZX,Y,hE,T.i4 hX,_,rfl,bZ ?_⟩⟩⟩⟩
  exact⟨_,rfl,e,_,_,X,HE,g,false,rfl,rfl,ZX,Y,hE,T.i5 hX,_,rfl,bZ ⟨_,rfl,e,_,_,X,HE,g,false,rfl,rfl,ZX,Y,hE,T.i6 hX,_,rfl,bZ ⟨_,rfl,e,_,_,X,HE,g,false,rfl,rfl,ZX,Y,hE,T.i7 hX,_,rfl,bZ ⟨_,rfl,e,_,_,X,HE,g,false,rfl,rfl,ZX,Y,hE,T.i8 hX,q⟩⟩⟩⟩
def sx(l:List Nat):List V:=if 400<l.length then [.int 2, .int (l.length:Int), .bl true] else match vd l4 0 l with
 |none=>[.int 0, .str ⟨l.toArray⟩, .bl true]
 |some v=>[.int 1, .int ((l.length:Int) - v.length), .bl true]
structure E1(K:PySem.W.Frag)(mg:Str→Option Value)(Fo HE NF TL X1 X2 X3 X4 X5 X6 X7 X8:Addr):Prop extends CF K mg HE NF TL X1 X2 X3 X4 X5 X6 X7 X8 where
 bw:nX K Fo
def xc:Sp:=fun vs H Q _=>∃l:List Nat,vs=[.str ⟨l.toArray⟩]∧l.length≤9000∧∀t H',H' t=some (.tup (sx l))→aK H H'→Q (.ref t) H'
theorem g7:ax ["_law_text_here","_law_caught","_law_found","_law_e","_law_some"] ["_law_text_here"] (ak rL):=dO
theorem As{v:V}{i:Nat}{r:TS}{D:Ends}{σ:L2.St}{H:Hp}(h:r D (σ.set i (some v)) H):uQ (A4 (tC v) (fM i)) r D σ H:=h
theorem xf{A r:TS}{D:Ends}{σ:L2.St}{H:Hp}(Pm:L2.St→Hp→Prop)(h:∀N:L2.St→Hp→Prop,(∀σ' H',Pm σ' H'→N σ' H')→A { D with nx:=N } σ H)(hr:∀σ' H',Pm σ' H'→r D σ' H'):uQ A r D σ H:=h _ hr
theorem zt{f0 f1:Addr}(D:Def K mg "_law_told" "_law_told" rL ["_law_text_here"])(T:E1 K mg Fo HE NF TL X1 X2 X3 X4 X5 X6 X7 X8)(Z:PySem.W.cj K NF HE f0)(Z1:PySem.W.cj K TL HE f1)(c1:oP P w K mg base 21 "read_formula" ["text"] (rX NF TL C G Pc Fo))(c2:cI P w K mg base 13 Fo "shown" ["self"] (l8 C G Pc Fo 4))(c3:bj P w K mg base 1 "_law_others" ["_law_e"] (pP NF TL))(c4:bj P w K mg base 1 "_law_whole" ["_law_found"] rO):bj P w K mg base 22 "_law_told" ["_law_text_here"] xc:=by
 obtain⟨_,_,cT⟩:=c1
 obtain⟨_,_,dA⟩:=c2
 obtain⟨_,_,fB⟩:=c3
 obtain⟨_,_,cL⟩:=c4
 refine D.e9 g7 (fun vs H Q E h=>?_) (fun f bb A outer s H vs Q E hr h=>?_)
 ·obtain⟨l,rfl,_⟩:=h
  rfl
 ·obtain⟨l,rfl,hl,q⟩:=h
  have xl:(⟨l.toArray⟩:Str).length=l.length:=aH l
  have big:(10000 :Nat)≤sizeLine:=by decide
  refine⟨_,(aj
     (aP (i:=1) g7.nd rfl (Or.inl rfl) pU)
    (aj
     (aP (i:=2) g7.nd rfl (Or.inl rfl) pU)
    (aj
     (yz ⟨rfl,rfl⟩ (fun _ _=>
      (aq
       (aP (i:=2) g7.nd rfl (Or.inl rfl) (oK cT.ok (hr.mono (by decide)) rfl cT.g cT.kp cT.b .nil vx (aa (pv 0) ai))))) (fun _=>(BH K rfl (i:=3) rfl T.f6 T.nJ g7.nd rfl rfl (fun _=>
      (aq
       (aP (i:=1) g7.nd rfl (Or.inl rfl) (pv 3)))) (BG yy))))
    (aj
     (a7 (uJ (A0 (pv 1)))
      (aq
       (aE (cu (aa ao (aa (bF (pv 2) T.bw dA.m dA.ok (hr.mono (by decide)) dA.b .nil aM) (aa fJ ai))))))
      aQ)
    (aj
     (aP (i:=4) g7.nd rfl (Or.inl rfl) (bH (aa (aS bo rfl T.a4 aY (aa (pv 1) (aa (aV (v:= .ref _) rfl T.o6 rfl) ai))) (aa (aS bo rfl T.a4 aY (aa (pv 1) (aa (aV (v:= .ref _) rfl T.tN rfl) ai))) ai))))
    (aj
     (a7 (PW.pt (gN (aA bN (bh bJ (pv 4) ao (fun _ _=>rfl)) (bh bJ (pv 4) ao (fun _ _=>rfl)) (aJ _)) (gN (du (aF fB.ok (hr.mono (by decide)) rfl fB.g fB.kp fB.b .nil aM (aa (pv 1) ai))) (iS (pV (du (aS bo rfl T.a4 aY (aa (pv 1) (aa (mv (v:= .ty "ValueError") rfl T.nI kY rfl) ai)))))))))
      (aq
       (aE (cu (aa ao (aa ao (aa fJ ai))))))
      aQ)
    (aj
     (a7 (du (bh bJ (pv 4) ao (fun _ _=>rfl)))
      (aq
       (aE (cu (aa ao (aa (jC (pv 1) rfl) (aa (aF cL.ok (hr.mono (by decide)) rfl cL.g cL.kp cL.b .nil aM (aa (jC (pv 1) rfl) ai)) ai))))))
      aQ)
    (aq
     (aE (cu (aa ao (aa (jC (pv 1) rfl) (aa (aF cL.ok (hr.mono (by decide)) rfl cL.g cL.kp cL.b .nil aM (aa (jC (pv 1) rfl) ai)) ai))))))))))))),?_⟩
  refine As (As ?_)
  refine xf (fun σ' H'=>(∃(f:Addr) (xs:List de) (n:Int),l.length≤400∧vd l4 0 l=none∧σ'=[some (.str ⟨l.toArray⟩),some .bR,some (.ref f),none,none]∧vQ C G Pc Fo 4 H' f xs n∧l=wL 4 xs n∧xO 4 xs n∧aK H H')∨
   (∃(e dx:Addr) (v:List Nat),l.length≤400∧vd l4 0 l=some v∧σ'=[some (.str ⟨l.toArray⟩),some (.ref e),some .bR,none,none]∧H' e=some (oH e NF (some dx))∧H' dx=some (qg dx [("place", .int ((l.length:Int) - v.length))])∧aK H H')∨
   ∃(e dx:Addr),400<l.length∧σ'=[some (.str ⟨l.toArray⟩),some (.ref e),some .bR,none,none]∧H' e=some (oH e TL (some dx))∧H' dx=some (qg dx [("many", .int (l.length:Int))])∧aK H H') (fun N hN=>?_) ?_
  ·refine⟨_,rfl,⟨l.toArray⟩,rfl,by omega,fun h4 xs n f H3 hW nf hF e3=>?_,fun h4 e he hB b dx H3 nb nd h1 h2 e3=>?_,fun h4 b dx H3 nb nd h1 h2 e3=>?_⟩
   ·obtain⟨QZ,ok⟩:=yU.ok hW
    have hv:=qC hW
    rw[if_pos rfl] at hv
    exact hN _ _ (.inl ⟨f,xs,n,by omega,hv,rfl,hF H3 fun _ _ _ z=>z,QZ,ok,e3⟩)
   ·have hv:vd l4 0 l=some (sf ⟨l.toArray⟩ e):=Cb hB
    have ep:(l.length:Int) - ((sf ⟨l.toArray⟩ e).length:Int)=(e:Int):=by
     rw[jb,xl]
     omega
    refine⟨NF,HE,f0,true,rfl,Z,T.EZ (.inl rfl),cO fun e' z5=>?_⟩
    exact⟨_,rfl,hN _ _ (.inr (.inl ⟨e',dx,_,by omega,hv,rfl,z5,by rw[ep];exact h2,e3⟩))⟩
   ·refine⟨TL,HE,f1,true,rfl,Z1,T.EZ (.inr rfl),cO fun e' z5=>?_⟩
    exact⟨_,rfl,hN _ _ (.inr (.inr ⟨e',dx,by omega,rfl,z5,by rw[←xl];exact h2,e3⟩))⟩
  rintro σ H3 (⟨f,xs,n,h4,hv,rfl,hF,OT,ok,e3⟩ | ⟨e,dx,v,h4,hv,rfl,he,gK,e3⟩ | ⟨e,dx,h4,rfl,he,gK,e3⟩)
  ·have tl:sx l=[.int 0, .str ⟨l.toArray⟩, .bl true]:=by unfold sx;rw[if_neg (by omega),hv]
   obtain⟨df,lf,pf,hf,_⟩:=id hF
   refine⟨_,rfl,_,rfl,fG rfl ?_⟩
   refine⟨_,rfl,f,df,_,rfl,hf,vP _ _ (by decide+kernel) (by decide+kernel),f,xs,n,rfl,hF,ok,by rw[←OT];omega,fun H5 e5=>⟨(by show 3≤sizeLine;decide),fun t ht=>?_⟩⟩
   refine q t _ ?_ ((e3.trans e5).trans (aK.new ht))
   rw[ag,tl,←OT]
  ·have tl:sx l=[.int 1, .int ((l.length:Int) - v.length), .bl true]:=by unfold sx;rw[if_neg (by omega),hv]
   have hE:tE H3 e NF:= .inr ⟨dx,_,he,gK⟩
   refine⟨_,rfl,_,rfl,ei (by intro z;cases z) ?_⟩
   refine⟨_,rfl,e,_,_,NF,HE,f0,true,rfl,rfl,Z,T.qP (.inl rfl),hE,T.QX,_,rfl,e,_,_,NF,HE,f0,false,rfl,rfl,Z,T.qP (.inl rfl),hE,T.QV,(by show 2≤sizeLine;decide),fun L hL=>?_⟩
   have sL:=aK.new (o:= .lst [V.bl true,V.bl false]) hL
   have E2:tE (upd H3 L (.lst [V.bl true,V.bl false])) e NF:= .inr ⟨dx,_,sL _ _ he,sL _ _ gK⟩
   refine⟨_,rfl,L,_,_,V.bl true,rfl,rfl,bC.of ag,rfl,_,rfl,L,_,_,V.bl false,rfl,rfl,bC.of ag,rfl,rfl,_,rfl,ei (by intro z;cases z) ⟨_,rfl,e,NF,rfl, .inl rfl,E2,_,rfl,bZ ⟨_,rfl,e,_,_,NF,HE,f0,true,rfl,rfl,Z,T.qP (.inl rfl),E2,T.iV (.inl rfl),_,rfl,bZ ?_⟩⟩⟩
   refine⟨_,rfl,L,_,_,V.bl true,rfl,rfl,bC.of ag,rfl,_,rfl,cO ?_⟩
   refine⟨_,rfl,e,NF,HE,f0,dx,_,_,rfl,Z,T.sv,sL _ _ he,sL _ _ gK,rfl,_,rfl,e,NF,HE,f0,dx,_,_,rfl,Z,T.sv,sL _ _ he,sL _ _ gK,rfl,_,rfl,(by show 3≤sizeLine;decide),fun t ht=>?_⟩
   refine q t _ ?_ (e3.trans (sL.trans (aK.new ht)))
   rw[ag,tl]
  ·have tl:sx l=[.int 2, .int (l.length:Int), .bl true]:=by unfold sx;rw[if_pos h4]
   have hE:tE H3 e TL:= .inr ⟨dx,_,he,gK⟩
   refine⟨_,rfl,_,rfl,ei (by intro z;cases z) ?_⟩
   refine⟨_,rfl,e,_,_,TL,HE,f1,false,rfl,rfl,Z1,T.qP (.inr rfl),hE,T.QW,_,rfl,e,_,_,TL,HE,f1,true,rfl,rfl,Z1,T.qP (.inr rfl),hE,T.QY,(by show 2≤sizeLine;decide),fun L hL=>?_⟩
   have sL:=aK.new (o:= .lst [V.bl false,V.bl true]) hL
   have E2:tE (upd H3 L (.lst [V.bl false,V.bl true])) e TL:= .inr ⟨dx,_,sL _ _ he,sL _ _ gK⟩
   refine⟨_,rfl,L,_,_,V.bl false,rfl,rfl,bC.of ag,rfl,_,rfl,L,_,_,V.bl true,rfl,rfl,bC.of ag,rfl,rfl,_,rfl,ei (by intro z;cases z) ⟨_,rfl,e,TL,rfl, .inr rfl,E2,_,rfl,bZ ⟨_,rfl,e,_,_,TL,HE,f1,true,rfl,rfl,Z1,T.qP (.inr rfl),E2,T.iV (.inr rfl),_,rfl,bZ ?_⟩⟩⟩
   refine⟨_,rfl,L,_,_,V.bl false,rfl,rfl,bC.of ag,rfl,_,rfl,bZ ?_⟩
   refine⟨_,rfl,e,TL,HE,f1,dx,_,_,rfl,Z1,T.xa,sL _ _ he,sL _ _ gK,rfl,_,rfl,e,TL,HE,f1,dx,_,_,rfl,Z1,T.xa,sL _ _ he,sL _ _ gK,rfl,_,rfl,(by show 3≤sizeLine;decide),fun t ht=>?_⟩
   refine q t _ ?_ (e3.trans (sL.trans (aK.new ht)))
   rw[ag,tl]
theorem sub_one{x:Str}{c i:Nat}:Builtin.Str.subAt x ⟨#[c]⟩ i=true↔x.cps.toList[i]? =some c:=by
 unfold Builtin.Str.subAt
 show (x.cps.extract i (i+1)==#[c])=true↔_
 rw[beq_iff_eq,←Array.toList_inj,Array.toList_extract]
 show ((x.cps.toList.drop i).take (i+1 - i))=[c]↔_
 rw[Nat.add_sub_cancel_left]
 rw[←List.head?_drop]
 cases x.cps.toList.drop i with
 |nil=>simp
 |cons a r=>simp
open PySem.StrLaws in
theorem nL(x:Str)(c hi lim:Nat):∀(n lo:Nat) (st:Array Nat×Nat),st.2≤lo→st.1.size+n≤lim→
  (forIn (List.range' lo n) st (occBody x ⟨#[c]⟩ hi lim)).run.1.size=st.1.size+((List.range' lo n).filter fun i=>decide (i+1≤hi)&&Builtin.Str.subAt x ⟨#[c]⟩ i).length
 |0,lo,st,_,_=>rfl
 |n+1,lo,st,h1,h2=>by
  rw[List.range'_succ,List.forIn_cons,List.filter_cons]
  have l1:(⟨#[c]⟩:Str).length=1:=rfl
  by_cases h:lo+1≤hi∧Builtin.Str.subAt x ⟨#[c]⟩ lo=true
  ·have e:occBody x ⟨#[c]⟩ hi lim lo st=pure (ForInStep.yield (st.1.push lo,lo+1)):=by
    unfold occBody
    rw[if_pos ⟨⟨⟨by omega,h1⟩,by rw[l1];exact h.1⟩,h.2⟩]
    rfl
   rw[e]
   have e2:(decide (lo+1≤hi)&&Builtin.Str.subAt x ⟨#[c]⟩ lo)=true:=by rw[h.2,decide_eq_true h.1];rfl
   rw[if_pos e2]
   show (forIn (List.range' (lo+1) n) (st.1.push lo,lo+1) (occBody x ⟨#[c]⟩ hi lim)).run.1.size=_
   rw[nL x c hi lim n (lo+1) _ (Nat.le_refl _) (by rw[Array.size_push];omega),Array.size_push,List.length_cons]
   omega
  ·have e:occBody x ⟨#[c]⟩ hi lim lo st=pure (ForInStep.yield (st.1,st.2)):=by
    unfold occBody
    rw[if_neg fun z=>h ⟨by have:=z.1.2;rw[l1] at this;exact this,z.2⟩]
   rw[e]
   have e2:¬(decide (lo+1≤hi)&&Builtin.Str.subAt x ⟨#[c]⟩ lo)=true:=fun z=>h (by simpa using z)
   rw[if_neg e2]
   show (forIn (List.range' (lo+1) n) (st.1,st.2) (occBody x ⟨#[c]⟩ hi lim)).run.1.size=_
   rw[nL x c hi lim n (lo+1) _ (Nat.le_succ_of_le h1) (by show st.1.size+n≤lim;omega)]
theorem sA(c:Nat):∀(l:List Nat) (lo:Nat) (m:List Nat),m.length=lo→((List.range' lo (l.length+1)).filter fun i=>decide (i+1≤lo+l.length)&&decide ((m++l)[i]? =some c)).length=l.count c
 | [],lo,m,_=>by
   show ((List.range' lo 1).filter _).length=0
   simp
   intro h
   omega
 |a::r,lo,m,hm=>by
  rw[List.length_cons,List.range'_succ,List.filter_cons]
  have e0:(m++a::r)[lo]? =some a:=by rw[List.getElem?_append_right (by omega),hm,Nat.sub_self];rfl
  have ih:=sA c r (lo+1) (m++[a]) (by rw[List.length_append,hm];rfl)
  rw[List.append_assoc] at ih
  have e1:(fun i=>decide (i+1≤lo+(r.length+1))&&decide ((m++a::r)[i]? =some c))=fun i=>decide (i+1≤lo+1+r.length)&&decide ((m++([a]++r))[i]? =some c):=by
   funext i
   rw[show lo+(r.length+1)=lo+1+r.length by omega]
   rfl
  rw[e1,e0,decide_eq_true (by omega),Bool.true_and]
  by_cases h:a=c
  ·subst h
   rw[if_pos (by simp),List.length_cons,ih,List.count_cons_self]
  ·have h':¬(some a=some c):=fun z=>h (Option.some.inj z)
   rw[if_neg (by simpa using h'),ih,List.count_cons_of_ne h]
theorem count_is(l:List Nat)(c:Nat):Txt.count ⟨l.toArray⟩ ⟨#[c]⟩=(l.count c:Int):=by
 have xl:(⟨l.toArray⟩:Str).length=l.length:=aH l
 unfold Txt.count
 rw[PySem.StrLaws.occ_eq,Array.length_toList,xl]
 show ((forIn (List.range' 0 (l.length+1)) ((#[]:Array Nat),0) (PySem.StrLaws.occBody ⟨l.toArray⟩ ⟨#[c]⟩ l.length (l.length+1))).run.1.size:Int)=_
 rw[nL ⟨l.toArray⟩ c l.length (l.length+1) (l.length+1) 0 (#[],0) (Nat.le_refl _) (by show 0+(l.length+1)≤_;omega)]
 have:=sA c l 0 [] rfl
 rw[Nat.zero_add,List.nil_append] at this
 rw[←this]
 congr 1
 show 0+_=_
 rw[Nat.zero_add]
 congr 2
 funext i
 congr 1
 have:=@sub_one ⟨l.toArray⟩ c i
 cases hb:Builtin.Str.subAt ⟨l.toArray⟩ ⟨#[c]⟩ i with
 |true=>exact(decide_eq_true (this.mp hb)).symm
 |false=>exact(decide_eq_false fun z=>by rw[this.mpr z] at hb;cases hb).symm
theorem xg(l:List Nat):Txt.rstripChars ⟨l.toArray⟩ "1234567890" =⟨(eP l).toArray⟩:=by
 have xl:(⟨l.toArray⟩:Str).length=l.length:=aH l
 have dig:∀c:Nat,("1234567890" :Str).cps.contains c=cJ c:=by
  intro c
  have e:("1234567890" :Str).cps=#[49,50,51,52,53,54,55,56,57,48]:=by decide+kernel
  rw[e]
  by_cases h:c<58
  ·have:∀c:Nat,c<58→(#[49,50,51,52,53,54,55,56,57,48]:Array Nat).contains c=cJ c:=by decide+kernel
   exact this c h
  ·have h1:cJ c=false:=by
    simp only [cJ,Bool.and_eq_false_iff,decide_eq_false_iff_not]
    omega
   rw[h1]
   have:¬(#[49,50,51,52,53,54,55,56,57,48]:Array Nat).contains c=true:=by
    intro z
    have:c∈(#[49,50,51,52,53,54,55,56,57,48]:Array Nat):=Array.contains_iff_mem.mp z
    simp at this
    omega
   exact Bool.eq_false_iff.mpr this
 have ef:("1234567890" :Str).cps.contains=cJ:=funext dig
 have h8:=Dz l
 have hl:=congrArg List.length h8
 rw[List.length_append] at hl
 have et:(l.reverse.takeWhile cJ).length=(jx l).length:=by unfold jx;rw[List.length_reverse]
 unfold Txt.rstripChars Txt.stripBy
 rw[ef]
 have hi:stripHi cJ true ⟨l.toArray⟩ 0=(eP l).length:=by
  unfold stripHi
  rw[if_pos rfl,xl]
  show l.length - ((l.drop 0).reverse.takeWhile cJ).length=_
  rw[List.drop_zero,et]
  omega
 have lo:stripLo cJ false ⟨l.toArray⟩=0:=rfl
 have tk:l.take (eP l).length=eP l:=by
  have:(eP l++jx l).take (eP l).length=eP l:=List.take_left ..
  rwa [←h8] at this
 unfold stripSame stripped
 rw[lo,hi,xl]
 by_cases hz:(eP l).length=l.length
 ·rw[if_pos (by simp [hz])]
  have:eP l=l:=by rw[←tk,hz,List.take_length]
  rw[this]
 ·rw[if_neg (by simp [hz])]
  apply dJ
  show (l.toArray.extract 0 (eP l).length).toList=eP l
  rw[Array.toList_extract]
  show (l.drop 0).take ((eP l).length - 0)=eP l
  rw[List.drop_zero,Nat.sub_zero,tk]
theorem qQ{p:Nat→Bool}:∀{l:List Nat},(∀b∈l,p b=true)→l.takeWhile p=l
 | [],_=>rfl
 |a::r,h=>by rw[List.takeWhile_cons,if_pos (h a (List.mem_cons_self ..)),qQ fun b hb=>h b (List.mem_cons_of_mem _ hb)]
theorem qR{p:Nat→Bool}{c:Nat}{r:List Nat}(hc:p c=false):∀{a:List Nat},(∀b∈a,p b=true)→(a++c::r).takeWhile p=a
 | [],_=>by rw[List.nil_append,List.takeWhile_cons,if_neg (by rw[hc];simp)]
 |b::a,h=>by rw[List.cons_append,List.takeWhile_cons,if_pos (h b (List.mem_cons_self ..)),qR hc fun b hb=>h b (List.mem_cons_of_mem _ hb)]
theorem zu(l:List Nat)(c:Nat):(Txt.partition ⟨l.toArray⟩ ⟨#[c]⟩).1=⟨(l.takeWhile (fun b=>decide (b≠c))).toArray⟩:=by
 have xl:(⟨l.toArray⟩:Str).length=l.length:=aH l
 have l1:(⟨#[c]⟩:Str).length=1:=rfl
 have at':∀i,PySem.StrLaws.At ⟨l.toArray⟩ ⟨#[c]⟩ (⟨l.toArray⟩:Str).length i↔l[i]? =some c:=fun i=>by
  constructor
  ·intro h
   exact sub_one.mp h.2
  ·intro h
   refine⟨?_,sub_one.mpr h⟩
   have:=(List.getElem?_eq_some_iff.mp h).1
   rw[xl,l1]
   omega
 unfold Txt.partition
 rcases PySem.StrLaws.occ_head ⟨l.toArray⟩ ⟨#[c]⟩ 1 (Nat.le_refl _) with ⟨e,h⟩ | ⟨i,r,e,h1,h2⟩
 ·rw[e]
  have:l.takeWhile (fun b=>decide (b≠c))=l:=qQ fun b hb=>by
   obtain⟨i,hi⟩:=List.mem_iff_getElem?.mp hb
   have:b≠c:=fun z=>h i ((at' i).mpr (by rw[hi,z]))
   simpa using this
  rw[this]
 ·rw[e]
  have g1:=(at' i).mp h1
  have Q0:=(List.getElem?_eq_some_iff.mp g1).1
  have g2:∀k,k<i→l[k]? ≠some c:=fun k hk z=>h2 k hk ((at' k).mpr z)
  have e1:l=l.take i++c::l.drop (i+1):=by
   have:=list_at Q0
   rw[(List.getElem?_eq_some_iff.mp g1).2] at this
   exact this
  have e2:l.takeWhile (fun b=>decide (b≠c))=l.take i:=by
   have:=qR (p:=fun b=>decide (b≠c)) (c:=c) (r:=l.drop (i+1)) (by simp) (a:=l.take i) (fun b hb=>by
    obtain⟨k,hk⟩:=List.mem_iff_getElem?.mp hb
    rw[List.getElem?_take] at hk
    split at hk
    ·rename_i Q1
     have:b≠c:=fun z=>g2 k Q1 (by rw[hk,z])
     simpa using this
    ·cases hk)
   rwa [←e1] at this
  apply dJ
  show (l.toArray.extract 0 i).toList=l.takeWhile (fun b=>decide (b≠c))
  rw[e2,Array.toList_extract]
  show (l.drop 0).take (i - 0)=l.take i
  rw[List.drop_zero,Nat.sub_zero]
theorem zv(l:List Nat):Txt.slice ⟨l.toArray⟩ (some (-1)) none=⟨(l.drop (l.length - 1)).toArray⟩:=by
 have xl:(⟨l.toArray⟩:Str).length=l.length:=aH l
 have e:Builtin.Str.strSliceIndices (some (-1)) none 1 l.length=Builtin.Str.strSliceIndices (some ((l.length - 1 :Nat):Int)) none 1 l.length:=by
  simp only [Builtin.Str.strSliceIndices,show ((1 :Int) >0)=True from by simp,if_true]
  congr 1
  rw[if_pos (by decide),if_neg (by omega)]
  omega
 have h2:=wY l (a:=l.length - 1) (by omega)
 rw[←h2]
 unfold Txt.slice
 rw[xl,e]
theorem jT(l:List Nat)(c:Nat):V.str (Txt.slice ⟨l.toArray⟩ (some (-1)) none)=V.str ⟨#[c]⟩↔l.getLast? =some c:=by
 rw[zv]
 cases h:l.getLast? with
 |none=>
  rw[List.getLast?_eq_none_iff.mp h]
  refine⟨fun z=>?_,fun z=>by cases z⟩
  have z:(⟨([]:List Nat).toArray⟩:Str)=⟨#[c]⟩:=by injection z
  have:=congrArg (fun s:Str=>s.cps.toList) z
  simp at this
 |some b=>
  have gP:l≠[]:=fun z=>by rw[z] at h;cases h
  have e:l.drop (l.length - 1)=[b]:=by
   have e1:l=l.dropLast++[b]:=by
    rw[List.getLast?_eq_some_getLast gP] at h
    cases h
    exact(List.dropLast_concat_getLast gP).symm
   conv=>lhs;rw[e1]
   rw[List.length_append]
   show (l.dropLast++[b]).drop (l.dropLast.length+1 - 1)=[b]
   rw[Nat.add_sub_cancel,List.drop_left]
  rw[e]
  refine⟨fun z=>?_,fun z=>?_⟩
  ·have z:(⟨[b].toArray⟩:Str)=⟨#[c]⟩:=by injection z
   have:=congrArg (fun s:Str=>s.cps.toList) z
   have:b=c:=by simpa using this
   rw[this]
  ·cases z;rfl
theorem dS{l:List Nat}{b:Nat}(h:l.getLast? =some b):sY l (-1)=some b:=by
 have gP:l≠[]:=fun z=>by rw[z] at h;cases h
 have hl:0<l.length:=List.length_pos_iff.mpr gP
 rw[List.getLast?_eq_getElem?] at h
 have e:xM l.length (-1)=some (l.length - 1):=by
  unfold xM
  have h1:((-1 :Int)+(l.length:Int))=((l.length - 1 :Nat):Int):=by omega
  simp only [show ((-1 :Int) <0) from by decide,if_true,h1]
  simp
  try omega
 unfold sY
 rw[e]
 exact h
variable {uC uP uI uD uL uT:Tok}
def xh:Sp:=fun vs H Q _=>∃l:List Nat,vs=[.str ⟨l.toArray⟩]∧dz l∧l.length≤9000∧(DA l→∀H',aK H H'→Q (.bl true) H')∧(¬DA l→∀H',aK H H'→Q (.bl false) H')
theorem xi:ax ["_law_text_here","_law_head"] ["_law_text_here"] (ak rM):=dO
theorem jU{a b:List Nat}:V.str (⟨a.toArray⟩:Str)=V.str (⟨b.toArray⟩:Str)↔a=b:=by
 refine⟨fun z=>?_,fun z=>by rw[z]⟩
 have z:(⟨a.toArray⟩:Str)=⟨b.toArray⟩:=by injection z
 have:=congrArg (fun s:Str=>s.cps.toList) z
 simpa using this
theorem E3:∀c:Nat,c<128→(!(Builtin.Str.occurrences "(.^" ⟨#[c]⟩ 0 ("(.^" :Str).length 1).isEmpty)=(decide (c=40)||(decide (c=46)||decide (c=94))):=by decide+kernel
theorem eN:("" :Str)=⟨([]:List Nat).toArray⟩:=by decide+kernel
theorem OU:("1" :Str)=⟨[49].toArray⟩:=by decide+kernel
theorem Q2:("e" :Str)=⟨[101].toArray⟩:=by decide+kernel
theorem Q3:("e^" :Str)=⟨[101,94].toArray⟩:=by decide+kernel
theorem zw(D:Def K mg "_law_open" "_law_open" rM ["_law_text_here"])(T:fX K mg C):bj P w K mg base 1 "_law_open" ["_law_text_here"] xh:=by
 refine D.e9 xi (fun vs H Q E h=>?_) (fun f bb A outer s H vs Q E hr h=>?_)
 ·obtain⟨l,rfl,_⟩:=h
  rfl
 ·obtain⟨l,rfl,ha,hl,q1,q2⟩:=h
  have big:(10000 :Nat)≤sizeLine:=by decide
  have xl:(⟨l.toArray⟩:Str).length=l.length:=aH l
  refine⟨_,(aj
     (a7 (PW.pt (gN (aA bN (pv 0) aG (aJ _)) (gN (aA sU (bh j5 (pv 0) (hU eX ao) (fun _ _=>rfl)) aG (by with_unfolding_all rfl)) (iS (aA sZ (pv 0) (bH (aa aG (aa aG ai))) (by with_unfolding_all rfl))))))
      (aq
       (aE fJ))
      aQ)
    (aj
     (aP (i:=1) xi.nd rfl (Or.inl rfl) (cH PySem.F.plainAttrs_str PySem.F.slot_str_rstrip PySem.F.type_str_rstrip tF (pv 0) (aa aG ai)))
    (aj
     (a7 (PW.pt (gN (aA bN (bX fb (pv 0) (bQ (aS bA rfl T.dB cw (aa (pv 1) ai))) d5) aG (aJ _)) (iS (aA bN (bX fb (pv 1) (bQ (hU eX ao)) d5) aG (aJ _)))))
      (aq
       (aE fJ))
      aQ)
    (aq
     (aE (rg (jy fP (cH PySem.F.plainAttrs_str PySem.F.slot_str_count PySem.F.type_str_count oR (pv 0) (aa aG ai)) (cH PySem.F.plainAttrs_str PySem.F.slot_str_count PySem.F.type_str_count oR (pv 0) (aa aG ai)) (aJ _)) (pW (jy bN (bX fb (pv 1) (bQ (hU eX ao)) d5) aG (aJ _))))))))),?_⟩
  by_cases h0:l=[]
  ·exact⟨_,rfl,rfl,_,rfl,fG (by rw[eN];exact jU.mpr h0) (q1 (.inl (.inl h0)) H (aK.refl H))⟩
  obtain⟨b,hb⟩:∃b,l.getLast? =some b:=⟨_,List.getLast?_eq_some_getLast h0⟩
  have K2:b<128:=ha b (List.mem_of_getLast? hb)
  refine⟨_,rfl,rfl,_,rfl,ei (by rw[eN];exact fun z=>h0 (jU.mp z)) ⟨_,rfl,1,rfl,⟨l.toArray⟩, -1,b,rfl,rfl,by omega,dS hb,_,_,rfl,rfl,_,rfl,?_⟩⟩
  rw[E3 b K2]
  by_cases Iy:b=40∨b=46∨b=94
  ·have:(decide (b=40)||(decide (b=46)||decide (b=94)))=true:=by simpa using Iy
   rw[this]
   exact cO (cO (q1 (.inl (.inr (.inl ⟨b,hb,Iy⟩))) H (aK.refl H)))
  have:(decide (b=40)||(decide (b=46)||decide (b=94)))=false:=by simpa using Iy
  rw[this]
  refine bZ ⟨_,rfl,(by show 2≤sizeLine;decide),fun p hp=>⟨p,_,rfl, .inl (bC.of ag),rfl,rfl,_,rfl,?_⟩⟩
  have e1:aK H (upd H p (.lst [V.str "e",V.str "e^"])):=aK.new hp
  show if HR (V.str ⟨l.toArray⟩) [V.str "e",V.str "e^"]=true then _ else _
  have Q4:HR (V.str ⟨l.toArray⟩) [V.str "e",V.str "e^"]=(decide (l=[101])||decide (l=[101,94])):=by
   show (("e" :Str)==⟨l.toArray⟩||(("e^" :Str)==⟨l.toArray⟩||false))=_
   rw[Q2,Q3,Bool.or_false]
   have q:∀a:List Nat,((⟨a.toArray⟩:Str)==⟨l.toArray⟩)=decide (l=a):=fun a=>by
    by_cases z:l=a
    ·rw[z,decide_eq_true rfl];exact beq_self_eq_true _
    ·rw[decide_eq_false z,beq_eq_false_iff_ne]
     intro y
     have:=congrArg (fun s:Str=>s.cps.toList) y
     exact z (by simpa using this.symm)
   rw[q,q]
  rw[Q4]
  by_cases he:l=[101]∨l=[101,94]
  ·have:(decide (l=[101])||decide (l=[101,94]))=true:=by simpa using he
   rw[this]
   exact cO (q1 (.inl (.inr (.inr he))) _ e1)
  have:(decide (l=[101])||decide (l=[101,94]))=false:=by simpa using he
  rw[this]
  refine bZ ?_
  have n1:¬(l=[]∨(∃c,l.getLast? =some c∧(c=40∨c=46∨c=94))∨l=[101]∨l=[101,94]):=by
   rintro (z| ⟨c,hc,z⟩ |z)
   ·exact h0 z
   ·rw[hb] at hc;cases hc;exact Iy z
   ·exact he z
  have h8:=Dz l
  have Q5:(eP l).length≤l.length:=by have:=congrArg List.length h8;rw[List.length_append] at this;omega
  have dl:l.drop (eP l).length=jx l:=by
   have:(eP l++jx l).drop (eP l).length=jx l:=List.drop_left ..
   rwa [←h8] at this
  refine⟨_,rfl,rfl,⟨l.toArray⟩,_,rfl,rfl,by omega,?_⟩
  rw[xg]
  have Q6:(⟨(eP l).toArray⟩:Str).length=(eP l).length:=aH _
  refine⟨_,rfl,_,rfl,⟨(eP l).toArray⟩,rfl,by omega,_,rfl,⟨l.toArray⟩,rfl,by omega,?_⟩
  rw[Q6,wY l Q5,dl]
  refine⟨rfl,_,rfl,?_⟩
  by_cases ht:jx l=[49]
  ·exact fG (by rw[OU];exact jU.mpr ht) (cO (q1 (.inr (.inl (.inl ht))) _ e1))
  refine ei (by rw[OU];exact fun z=>ht (jU.mp z)) ?_
  refine⟨_,rfl,1,rfl,_,rfl,⟨(eP l).toArray⟩,rfl,by omega,rfl,_,rfl,?_⟩
  by_cases yZ:(eP l).getLast? =some 94
  ·exact fG (by rw[Ag];exact(jT _ _).mpr yZ) (q1 (.inr (.inl (.inr yZ))) _ e1)
  refine ei (by rw[Ag];exact fun z=>yZ ((jT _ _).mp z)) ?_
  refine⟨_,rfl,rfl,⟨l.toArray⟩,_,rfl,rfl,_,rfl,rfl,⟨l.toArray⟩,_,rfl,rfl,?_⟩
  rw[Af,Ia,count_is,count_is]
  refine⟨_,_,rfl,rfl,decide (l.count 41<l.count 40),?_,?_⟩
  ·have:(decide ((l.count 41 :Int) < (l.count 40 :Int)):Bool)=decide (l.count 41<l.count 40):=decide_eq_decide.mpr (by omega)
   rw[this]
  by_cases hc:l.count 41<l.count 40
  ·exact fG hc (q1 (.inr (.inr (.inl hc))) _ e1)
  refine ei hc ⟨_,rfl,1,rfl,_,rfl,⟨(eP l).toArray⟩,rfl,by omega,rfl,?_⟩
  by_cases k7:(eP l).getLast? =some 46
  ·rw[decide_eq_true (by rw[Dm];exact(jT _ _).mpr k7)]
   exact q1 (.inr (.inr (.inr k7))) _ e1
  ·rw[decide_eq_false (by rw[Dm];exact fun z=>k7 ((jT _ _).mp z))]
   refine q2 ?_ _ e1
   rintro (z| (z|z) |z|z)
   ·exact n1 z
   ·exact ht z
   ·exact yZ z
   ·exact hc z
   ·exact k7 z
def E4(l:List Nat)(at':Option Nat):List V→Prop:=fun vs=>
 (400<l.length→vs=[.int 2, .int (l.length:Int), .bl true])∧(l.length≤400→(∀p,at'=some p→vs=[.int 1, .int (p:Int), .bl true])∧(at'=none→(DA l→vs=[.int 1, .int (l.length:Int), .bl true])∧(¬DA l→vs=[.int 0, .str ⟨l.toArray⟩, .bl true])))
def E5:Option Nat→V
 |none=> .bR
 |some p=> .int (p:Int)
def Au:Sp:=fun vs H Q _=>∃(l:List Nat) (at':Option Nat),vs=[.str ⟨l.toArray⟩,E5 at']∧dz l∧l.length≤9000∧∀t Bv H',E4 l at' Bv→H' t=some (.tup Bv)→aK H H'→Q (.ref t) H'
theorem E6:ax ["_law_text_here","_law_at"] ["_law_text_here","_law_at"] (ak yD):=dO
theorem CG(D:Def K mg "_law_due" "_law_due" yD ["_law_text_here","_law_at"])(T:fX K mg C)(c1:bj P w K mg base 1 "_law_open" ["_law_text_here"] xh):bj P w K mg base 2 "_law_due" ["_law_text_here","_law_at"] Au:=by
 obtain⟨_,_,iL⟩:=c1
 refine D.e9 E6 (fun vs H Q E h=>?_) (fun f bb A outer s H vs Q E hr h=>?_)
 ·obtain⟨l,at',rfl,_⟩:=h
  rfl
 ·obtain⟨l,at',rfl,ha,hl,q⟩:=h
  have big:(10000 :Nat)≤sizeLine:=by decide
  have xl:(⟨l.toArray⟩:Str).length=l.length:=aH l
  refine⟨_,(aj
     (a7 (aA fP (aS bA rfl T.dB cw (aa (pv 0) ai)) ao (aJ _))
      (aq
       (aE (cu (aa ao (aa (aS bA rfl T.dB cw (aa (pv 0) ai)) (aa fJ ai))))))
      aQ)
    (aj
     (a7 (uJ (xX (pv 1)))
      (aq
       (aE (cu (aa ao (aa (pv 1) (aa fJ ai))))))
      aQ)
    (aj
     (a7 (du (aF iL.ok (hr.mono (by decide)) rfl iL.g iL.kp iL.b .nil aM (aa (pv 0) ai)))
      (aq
       (aE (cu (aa ao (aa (aS bA rfl T.dB cw (aa (pv 0) ai)) (aa fJ ai))))))
      aQ)
    (aq
     (aE (cu (aa ao (aa (pv 0) (aa fJ ai))))))))),?_⟩
  by_cases h4:400<l.length
  ·refine⟨_,rfl,⟨l.toArray⟩,rfl,by omega,_,_,rfl,rfl,_,rfl,fG (by rw[xl];omega) ⟨_,rfl,⟨l.toArray⟩,rfl,by omega,(by show 3≤sizeLine;decide),fun t ht=>?_⟩⟩
   rw[xl]
   exact q t _ _ ⟨fun _=>rfl,fun z=>absurd h4 (by omega)⟩ ag (aK.new ht)
  refine⟨_,rfl,⟨l.toArray⟩,rfl,by omega,_,_,rfl,rfl,_,rfl,ei (by rw[xl];omega) ?_⟩
  cases at' with
  |some p=>
   refine⟨_,rfl,_,rfl,dG (fun _=>?_) fun z=>absurd rfl z⟩
   exact⟨_,rfl,(by show 3≤sizeLine;decide),fun t ht=>q t _ _ ⟨fun z=>absurd z h4,fun _=>⟨fun p' z=>(by cases z;rfl),fun z=>(by cases z)⟩⟩ ag (aK.new ht)⟩
  |none=>
   refine⟨_,rfl,_,rfl,dG (fun z=>absurd z (by decide)) fun _=>?_⟩
   refine⟨_,rfl,l,rfl,ha,hl,fun ho H1 e1=>⟨_,rfl,cO ?_⟩,fun ho H1 e1=>⟨_,rfl,bZ ?_⟩⟩
   ·refine⟨_,rfl,⟨l.toArray⟩,rfl,by omega,(by show 3≤sizeLine;decide),fun t ht=>?_⟩
    rw[xl]
    exact q t _ _ ⟨fun z=>absurd z h4,fun _=>⟨fun p' z=>(by cases z),fun _=>⟨fun _=>rfl,fun z=>absurd ho z⟩⟩⟩ ag (e1.trans (aK.new ht))
   ·exact⟨_,rfl,(by show 3≤sizeLine;decide),fun t ht=>q t _ _ ⟨fun z=>absurd z h4,fun _=>⟨fun p' z=>(by cases z),fun _=>⟨fun z=>absurd z ho,fun _=>rfl⟩⟩⟩ ag (e1.trans (aK.new ht))⟩
variable {HE NF TL X1 X2 X3 X4 X5 X6 X7 X8:Addr}{uC uP uI uD uL uT:Tok}
def G7(l:List Nat)(at':Option Nat):Prop:=dz l∧l.length≤9000∧∀vs,E4 l at' vs→vs=sx l
theorem nM{l:List Nat}{s:S8}{dp:Nat}(ha:dz l)(hl:l.length≤9000)(h:wk l4 0 l=some (s,dp)):G7 l none:=by
 refine⟨ha,hl,fun vs ⟨d1,d2⟩=>?_⟩
 unfold sx
 by_cases h4:400<l.length
 ·rw[if_pos h4];exact d1 h4
 ·rw[if_neg h4]
  obtain⟨d3,d4⟩:=(d2 (by omega)).2 rfl
  have hv:vd l4 0 l=vd s dp []:=by have:=sk (m:=[]) h;rwa [List.append_nil] at this
  by_cases ho:DA l
  ·rw[hv,jd ((OR h).mp ho)]
   rw[d3 ho]
   show _=[V.int 1,V.int ((l.length:Int) - (([]:List Nat).length:Int)),V.bl true]
   rw[show (([]:List Nat).length:Int)=0 from rfl,Int.sub_zero]
  ·have CH:qz s dp:=Classical.byContradiction fun z=>ho ((OR h).mpr z)
   rw[hv,vd,if_pos CH]
   exact d4 ho
def K3(c:Nat):Prop:=cJ c=false∧gB c=false∧eR c=false∧c≠40∧c≠41∧c≠46∧c≠94∧c≠45∧c≠43
theorem zx{c:Nat}(h:K3 c)(s:S8)(dp:Nat):gf s dp c=none:=by
 obtain⟨f,g,sm,lS,B0,k7,yZ,xQ,B4⟩:=h
 unfold gf
 rw[if_neg (fun z=>by rw[f] at z;cases z.1)]
 by_cases c2:s.al=true∨s.nm= .stop
 ·rw[if_pos c2]
 ·rw[if_neg c2]
  by_cases c3:s.nm= .f'∨s.nm= .minus∨s.nm= .bG
  ·rw[if_pos c3,if_neg]
   rintro (z| ⟨_,z⟩)
   ·unfold B8 at z
    split at z
    ·exact yZ z
    ·split at z
     ·exact xQ z
     ·exact B4 z
   ·exact xQ z
  ·rw[if_neg c3,if_neg (by rw[g,sm];simp),if_neg (fun z=>lS z.1),if_neg (fun z=>B0 z.2.1),if_neg (fun z=>by rcases z.2.1 with y|y;exact k7 y;exact yZ y)]
theorem xj{u r:List Nat}{c:Nat}{s:S8}{dp:Nat}(ha:dz (u++c::r))(hl:(u++c::r).length≤9000)(h:wk l4 0 u=some (s,dp))(hc:K3 c):G7 (u++c::r) (some u.length):=by
 refine⟨ha,hl,fun vs ⟨d1,d2⟩=>?_⟩
 unfold sx
 by_cases h4:400< (u++c::r).length
 ·rw[if_pos h4];exact d1 h4
 ·rw[if_neg h4,sk h,gR (zx hc s dp)]
  rw[(d2 (by omega)).1 _ rfl]
  show _=[V.int 1,V.int (((u++c::r).length:Int) - ((c::r).length:Int)),V.bl true]
  rw[List.length_append]
  have:((u.length+(c::r).length:Nat):Int) - ((c::r).length:Int)=(u.length:Int):=by omega
  rw[this]
def me(l:List Nat):Prop:=∀c∈l,c≠94∧c≠43∧c≠45
theorem me.app{a b:List Nat}(ha:me a)(hb:me b):me (a++b):=fun c hc=>(List.mem_append.mp hc).elim (ha c) (hb c)
theorem me.cons{c:Nat}{b:List Nat}(hc:c≠94∧c≠43∧c≠45)(hb:me b):me (c::b):=fun d hd=>(List.mem_cons.mp hd).elim (fun e=>by rw[e];exact hc) (hb d)
theorem qS{n:Int}(h1:1≤n)(h2:n≤999):me (a8 n):=fun c hc=>by
 obtain⟨m,rfl,m1,m0⟩:=rS h1 (by omega)
 have:=jq (List.all_eq_true.mp (iz m) c hc)
 exact⟨this.2.2.2.2.2.1,this.2.2.2.2.2.2.2.1,this.2.2.2.2.2.2.1⟩
theorem CI{k:List Nat}(h:jK k):me k:=by
 obtain⟨c,r,rfl,hg,hs,_⟩:=h
 intro b hb
 rcases List.mem_cons.mp hb with rfl|hb
 ·simp only [gB,Bool.and_eq_true,decide_eq_true_eq] at hg
  omega
 ·have:=List.all_eq_true.mp hs b hb
  simp only [eR,Bool.and_eq_true,decide_eq_true_eq] at this
  omega
theorem xk:∀(d:Nat) (t:Tr),iQ d t→me (bD d t)
 |d, .one k n,h=>by
  have h:jK k∧1≤n∧n≤999:=by cases d<;>exact h
  have e:bD d (.one k n)=k++a8 n:=by cases d<;>rfl
  rw[e]
  exact(CI h.1).app (qS h.2.1 h.2.2)
 |0, .gr _ _,h=>h.elim
 |d+1, .gr ts n,⟨_,h,n1,n2⟩=>by
  show me (40::(ts.flatMap (bD d)++41::a8 n))
  refine .cons (by decide) (me.app (fun c hc=>?_) (.cons (by decide) (qS n1 n2)))
  obtain⟨t,ht,hc⟩:=List.mem_flatMap.mp hc
  exact xk d t (h t ht) c hc
theorem xm{ts:List Tr}(h:∀t∈ts,iQ 4 t):me (ts.flatMap (bD 4)):=fun c hc=>by
 obtain⟨t,ht,hc⟩:=List.mem_flatMap.mp hc
 exact xk 4 t (h t ht) c hc
theorem xn{r:List de}(h:∀y∈r,oJ 4 y):me (a5 4 r):=fun c hc=>by
 obtain⟨y,hy,hc⟩:=List.mem_flatMap.mp hc
 obtain⟨_,o1,o2,o3⟩:=h y hy
 exact(me.cons (c:=46) (by decide) ((qS o2 o3).app (xm o1))) c hc
def hT:Tr:= .one [72] 1
theorem Av:iQ 4 hT:=⟨⟨72,[],rfl,by decide,by decide,by decide⟩,by decide,by decide⟩
theorem Aw{u:List Nat}(h:u=[72]∨∃x r,x.1=1∧(∀y∈x::r,oJ 4 y)∧u=72::(x.2.flatMap (bD 4)++a5 4 r)):me u∧∃s,wk l4 0 u=some (s,0)∧s.nm= .part∧s.al=false:=by
 have key:∀(x:de) (r:List de),x.1=1→(∀y∈x::r,oJ 4 y)→wL 4 (x::r) 0=u→me u∧∃s,wk l4 0 u=some (s,0)∧s.nm= .part∧s.al=false:=by
  intro x r x1 ho e
  have ok:xO 4 (x::r) 0:=⟨x1,ho,by decide,by decide⟩
  have hv:=sj ok
  rw[e] at hv
  have pl:me u:=by
   rw[←e]
   show me (x.2.flatMap (bD 4)++(a5 4 r++fH 0))
   rw[show fH 0=[] from rfl,List.append_nil]
   exact(xm (ho x (List.mem_cons_self ..)).2.1).app (xn fun y hy=>ho y (List.mem_cons_of_mem _ hy))
  obtain⟨s,dp,hw⟩:=sr (l:=u) (m:=[]) (by rw[List.append_nil];exact hv)
  have Iz:vd s dp []=none:=by
   have:=sk (m:=[]) hw
   rw[List.append_nil] at this
   rw[←this];exact hv
  have CH:qz s dp:=Classical.byContradiction fun z=>by rw[jd z] at Iz;cases Iz
  rcases CH with z| ⟨z1,z2,z3⟩
  ·obtain⟨⟨c,hc,rf⟩,_⟩:=(Ar hw).2.2.2.2.2.2.2.2 z
   have:=pl c (List.mem_of_getLast? hc)
   rcases rf with y|y
   ·exact absurd y this.2.1
   ·exact absurd y this.2.2
  ·subst z2
   exact⟨pl,s,hw,z1,z3⟩
 rcases h with rfl| ⟨x,r,x1,ho,rfl⟩
 ·exact key (1,[hT]) [] rfl (fun y hy=>by rw[List.mem_singleton.mp hy];exact⟨by simp,fun t ht=>by rw[List.mem_singleton.mp ht];exact Av,(by show (1 :Int)≤1;decide),(by show (1 :Int)≤999;decide)⟩) (by decide+kernel)
 ·obtain⟨ne,o,n1,n2⟩:=ho x (List.mem_cons_self ..)
  refine key (1,hT::x.2) r rfl (fun y hy=>?_) ?_
  ·rcases List.mem_cons.mp hy with rfl|hy
   ·exact⟨by simp,fun t ht=>(List.mem_cons.mp ht).elim (fun e=>by rw[e];exact Av) (o t),(by show (1 :Int)≤1;decide),(by show (1 :Int)≤999;decide)⟩
   ·exact ho y (List.mem_cons_of_mem _ hy)
  ·show (hT::x.2).flatMap (bD 4)++(a5 4 r++fH 0)=72::(x.2.flatMap (bD 4)++a5 4 r)
   rw[List.flatMap_cons,show bD 4 hT=[72] by decide+kernel,show fH 0=[] from rfl,List.append_nil]
   rfl
theorem xo:∀{l m:List Nat} {s s':S8} {dp d':Nat},wk s dp l=some (s',d')→wk s dp (l++m)=wk s' d' m
 | [],m,s,s',dp,d',h=>by cases h;rfl
 |c::r,m,s,s',dp,d',h=>by
  rw[wk] at h
  split at h
  ·cases h
  ·rename_i s1 d1 e
   rw[List.cons_append,wk,e]
   exact xo h
theorem E7:∀(k:Nat) {s:S8},s.nm= .part→s.al=false→∃s',wk s 0 (List.replicate k 72)=some (s',0)
 |0,s,_,_=>⟨s,rfl⟩
 |k+1,s,hn,ha=>by
  have e:gf s 0 72=some (⟨.part,2,0,false⟩,0):=lV (r:=[]) ⟨ha, .inr (.inr (.inr ⟨hn,⟨72,rfl, .inl rfl⟩⟩))⟩ rfl
  obtain⟨s',h⟩:=E7 k (s:=⟨.part,2,0,false⟩) rfl rfl
  exact⟨s',by rw[List.replicate_succ,wk,e];exact h⟩
theorem zy{x:de}{r:List de}{n:Int}(ho:∀y∈x::r,oJ 4 y):(72::wL 4 (x::r) n).takeWhile (fun b=>decide (b≠94))=72::(x.2.flatMap (bD 4)++a5 4 r):=by
 have pl:∀b∈72::(x.2.flatMap (bD 4)++a5 4 r),decide (b≠94)=true:=fun b hb=>by
  have:me (72::(x.2.flatMap (bD 4)++a5 4 r)):= .cons (by decide) ((xm (ho x (List.mem_cons_self ..)).2.1).app (xn fun y hy=>ho y (List.mem_cons_of_mem _ hy)))
  exact decide_eq_true (this b hb).1
 have e:72::wL 4 (x::r) n=(72::(x.2.flatMap (bD 4)++a5 4 r))++fH n:=by
  show 72::(x.2.flatMap (bD 4)++(a5 4 r++fH n))=_
  simp
 rw[e]
 rcases nq n with z| ⟨rr,z⟩
 ·rw[z,List.append_nil]
  exact qQ pl
 ·rw[z]
  exact qR (by simp) pl
variable {HE NF TL X1 X2 X3 X4 X5 X6 X7 X8:Addr}{uC uP uI uD uL uT:Tok}
theorem IA:("H" :Str)=⟨#[72]⟩:=by decide+kernel
theorem Ax:("#" :Str)=⟨[35].toArray⟩:=by decide+kernel
theorem OV:("Ho" :Str)=⟨[72,111].toArray⟩:=by decide+kernel
def IB:Str:="!#$&*,/:;<=>?\x40[]_{|}~"
theorem zA:IB.cps.toList.length=21:=by decide+kernel
theorem zB:∀c∈IB.cps.toList,(cJ c=false∧gB c=false∧eR c=false∧c≠40∧c≠41∧c≠46∧c≠94∧c≠45∧c≠43)∧c<128:=by decide+kernel
def sC(K:PySem.W.Frag):Sp:=fun vs H Q _=>∃(a:Addr) (ns:List Int),vs=[.ref a]∧bC K H a (ns.map V.int)∧ns.length≤63∧∀H',Q (.bl true) H'
theorem dE:ax ["_law_script","_law_text_here","_law_way","_law_at","_law_cut","_law_head","_law_more","_law_sign","_law_due_here"] ["_law_script"] (ak mY):=dO
theorem CJ{f:Addr}{fd:FuncData}(F:ux K "law" "law" mY f fd)(T:fX K mg C)(c1:bj P w K mg base 1 "_law_cell_at" ["_law_script","_law_k"] (oW K))(c2:bj P w K mg base 3 "_law_pieces" ["_law_cells"] (pL K))(c3:bj P w K mg base 1 "_law_charge" ["_law_cell"] pM)(c4:bj P w K mg base 8 "_law_text" ["_law_pieces_here","_law_charge_here"] (sh 4))(c5:bj P w K mg base 2 "_law_due" ["_law_text_here","_law_at"] Au)(c6:bj P w K mg base 22 "_law_told" ["_law_text_here"] xc):
  dn P w K mg base mF 23 f fd ["_law_script"] (sC K):=by
 obtain⟨_,_,av⟩:=c1
 obtain⟨_,_,fD⟩:=c2
 obtain⟨_,_,fE⟩:=c3
 obtain⟨_,_,iM⟩:=c4
 obtain⟨_,_,jV⟩:=c5
 obtain⟨_,_,bY⟩:=c6
 refine F.ok dE (fun vs H Q E h=>?_) (fun bb A outer s H vs Q E hr h=>?_)
 ·obtain⟨a,ns,rfl,_⟩:=h
  rfl
 ·obtain⟨a,ns,rfl,hS,hlen,q⟩:=h
  have CK:=hr.units
  have big:(10000 :Nat)≤sizeLine:=by decide
  refine⟨_,(aj
     (aP (i:=1) dE.nd rfl (Or.inl rfl) (aF iM.ok (hr.mono (by decide)) rfl iM.g iM.kp iM.b .nil aM (aa (aF fD.ok (hr.mono (by decide)) rfl fD.g fD.kp fD.b .nil aM (aa (bX mD (pv 0) (bQ ao) (bQ ao)) ai)) (aa (aF fE.ok (hr.mono (by decide)) rfl fE.g fE.kp fE.b .nil aM (aa (aF av.ok (hr.mono (by decide)) rfl av.g av.kp av.b .nil aM (aa (pv 0) (aa ao ai))) ai)) ai))))
    (aj
     (aP (i:=2) dE.nd rfl (Or.inl rfl) (az bg (aF av.ok (hr.mono (by decide)) rfl av.g av.kp av.b .nil aM (aa (pv 0) (aa ao ai))) ao))
    (aj
     (aP (i:=3) dE.nd rfl (Or.inl rfl) pU)
    (aj
     (aP (i:=4) dE.nd rfl (Or.inl rfl) (az bg (az cf (aF av.ok (hr.mono (by decide)) rfl av.g av.kp av.b .nil aM (aa (pv 0) (aa ao ai))) ao) (az dv (aS bA rfl T.dB cw (aa (pv 1) ai)) ao)))
    (aj
     (a7 (aA fP (pv 2) ao (aJ _))
      (aj
       (aP (i:=5) dE.nd rfl (Or.inl rfl) (bh b6 (cH PySem.F.plainAttrs_str PySem.F.slot_str_partition PySem.F.type_str_partition mP (bh bJ (bH (aa aG (aa (az aL aG (pv 1)) ai))) (az bg (aF av.ok (hr.mono (by decide)) rfl av.g av.kp av.b .nil aM (aa (pv 0) (aa ao ai))) ao) (fun _ _=>rfl)) (aa aG ai)) ao (fun _ _=>rfl)))
      (aj
       (aP (i:=6) dE.nd rfl (Or.inl rfl) (az bg (az cf (aF av.ok (hr.mono (by decide)) rfl av.g av.kp av.b .nil aM (aa (pv 0) (aa ao ai))) ao) (bh bJ (bH (aa ao (aa ao ai))) (az bg (az cf (aF av.ok (hr.mono (by decide)) rfl av.g av.kp av.b .nil aM (aa (pv 0) (aa ao ai))) ao) ao) (fun _ _=>rfl))))
      (aj
       (a7 (aA bN (az bg (aF av.ok (hr.mono (by decide)) rfl av.g av.kp av.b .nil aM (aa (pv 0) (aa ao ai))) ao) ao (aJ _))
        (aq
         (aP (i:=6) dE.nd rfl (Or.inl rfl) (az dv (az dv ao (az bg (pv 2) ao)) (az bg (az cf (aF av.ok (hr.mono (by decide)) rfl av.g av.kp av.b .nil aM (aa (pv 0) (aa ao ai))) ao) ao))))
        aQ)
      (aj
       (aP (i:=1) dE.nd rfl (Or.inl rfl) (az aL (pv 5) (az yB aG (az mx (az dv ao (pv 6)) (aS bA rfl T.dB cw (aa (pv 5) ai))))))
      (aq
       (a7 (aA bN (az bg (aF av.ok (hr.mono (by decide)) rfl av.g av.kp av.b .nil aM (aa (pv 0) (aa ao ai))) ao) ao (aJ _))
        (aj
         (aP (i:=3) dE.nd rfl (Or.inl rfl) (aS bA rfl T.dB cw (aa (pv 1) ai)))
        (aq
         (aP (i:=1) dE.nd rfl (Or.inl rfl) (az aL (pv 1) aG))))
        aQ))))))
      (aq
       (a7 (aA fP (pv 2) ao (aJ _))
        (aj
         (aP (i:=3) dE.nd rfl (Or.inl rfl) (pv 4))
        (aj
         (aP (i:=7) dE.nd rfl (Or.inl rfl) (bh j5 aG (az bg (aF av.ok (hr.mono (by decide)) rfl av.g av.kp av.b .nil aM (aa (pv 0) (aa ao ai))) ao) (fun _ _=>rfl)))
        (aq
         (aP (i:=1) dE.nd rfl (Or.inl rfl) (az aL (az aL (bX fb (pv 1) d5 (bQ (pv 4))) (pv 7)) (bh bJ (bH (aa aG (aa (bX fb (pv 1) (bQ (pv 4)) d5) ai))) (az bg (pv 2) ao) (fun _ _=>rfl)))))))
        (aq
         (a7 (aA fP (pv 2) ao (aJ _))
          (aq
           (aP (i:=1) dE.nd rfl (Or.inl rfl) (bX fb (pv 1) d5 (bQ (pv 4)))))
          aQ)))))
    (aj
     (aP (i:=8) dE.nd rfl (Or.inl rfl) (aF jV.ok (hr.mono (by decide)) rfl jV.g jV.kp jV.b .nil aM (aa (pv 1) (aa (pv 3) ai))))
    (aj
     (a7 (PW.pt (gN (aA (vm CK) (aF bY.ok (hr.mono (by decide)) rfl bY.g bY.kp bY.b .nil aM (aa (pv 1) ai)) (pv 8) (aJ _)) (iS (aA (vm CK) (aF bY.ok (hr.mono (by decide)) rfl bY.g bY.kp bY.b .nil aM (aa aG ai)) (cu (aa ao (aa aG (aa fJ ai)))) (aJ _)))))
      (aq
       (aE fJ))
      aQ)
    (aq
     (aE (jy (Br CK) (aF bY.ok (hr.mono (by decide)) rfl bY.g bY.kp bY.b .nil aM (aa (pv 1) ai)) (pv 8) (aJ _))))))))))),?_⟩
  have ec:kW (ns.map V.int) (some (2 :Int)) (some (40 :Int))=((ns.drop 2).take 38).map V.int:=by
   rw[show (2 :Int)=((2 :Nat):Int) from rfl,show (40 :Int)=((40 :Nat):Int) from rfl,vo,List.map_take,List.map_drop]
  refine⟨_,rfl,2,rfl,40,rfl,a,_,rfl,hS,fun p2 OW=>?_⟩
  rw[ec]
  refine⟨p2,_,rfl,bC.of ag,(by rw[List.length_take];omega),fun lp xs ks H2 e2 hL gP hW Dy Q7 K4=>?_⟩
  have e2:=(aK.new OW).trans e2
  refine⟨_,rfl,a,ns,0,rfl,e2.seq hS,hlen,fun n0=>⟨_,rfl,fun ch g1 g2=>?_⟩⟩
  have bz:=(hW ch g1 g2).1
  have Dk:=CD bz Dy
  refine⟨lp,xs,ch,rfl,hL,bz,by omega,fun H3 e3=>?_⟩
  have e3:=e2.trans e3
  have qT:=CC bz
  have sD:=sj bz
  obtain⟨x0,r0,rfl⟩:∃x0 r0,xs=x0::r0:=by
   cases xs with
   |nil=>exact absurd rfl gP
   |cons x r=>exact⟨x,r,rfl⟩
  have E9:=zy (x:=x0) (r:=r0) (n:=ch) bz.2.1
  have h7:=Aw (u:=72::(x0.2.flatMap (bD 4)++a5 4 r0)) (.inr ⟨x0,r0,bz.1,bz.2.1,rfl⟩)
  have K5:(72::(x0.2.flatMap (bD 4)++a5 4 r0)).length≤392:=by
   have e:(wL 4 (x0::r0) ch).length=(x0.2.flatMap (bD 4)++a5 4 r0).length+(fH ch).length:=by
    show (x0.2.flatMap (bD 4)++(a5 4 r0++fH ch)).length=_
    rw[List.length_append,List.length_append,List.length_append]
    omega
   rw[List.length_cons]
   omega
  have K6:dz (72::(x0.2.flatMap (bD 4)++a5 4 r0)):=fun c hc=>by
   rw[←E9] at hc
   rcases List.mem_cons.mp ((List.takeWhile_sublist _).subset hc) with z|z
   ·rw[z];decide
   ·exact qT c z
  clear hL gP hW Dy Q7 K4 e2 OW
  generalize hl:wL 4 (x0::r0) ch=l at Dk qT sD E9 ⊢
  generalize hu:72::(x0.2.flatMap (bD 4)++a5 4 r0)=u at E9 h7 K5 K6
  have xl:(⟨l.toArray⟩:Str).length=l.length:=aH l
  refine⟨_,rfl,a,ns,1,rfl,e3.seq hS,hlen,fun n1=>⟨_,_,rfl,rfl,(by show (0 :Int) <8;decide),?_⟩⟩
  refine⟨_,rfl,a,ns,1,rfl,e3.seq hS,hlen,fun n2=>⟨_,_,rfl,rfl,⟨by decide,by decide⟩,_,rfl,⟨l.toArray⟩,rfl,by omega,_,_,rfl,rfl,_,_,rfl,rfl,by omega,?_⟩⟩
  obtain⟨ct,Q8⟩:=Int.eq_ofNat_of_zero_le (Int.emod_nonneg (n2/8) (show (((⟨l.toArray⟩:Str).length:Int)+1)≠0 by omega))
  have K7:ct≤l.length:=by
   have:=Int.emod_lt_of_pos (n2/8) (show (0 :Int) < ((⟨l.toArray⟩:Str).length:Int)+1 by omega)
   omega
  rw[Q8]
  have w0:0≤n1%8:=Int.emod_nonneg _ (by decide)
  have w8:n1%8<8:=Int.emod_lt_of_pos _ (by decide)
  generalize n1%8=wy at w0 w8 ⊢
  obtain⟨sb,db,K8⟩:=sr (l:=l.take ct) (m:=l.drop ct) (by rw[List.take_append_drop];exact sD)
  dsimp only [fM]
  refine jB (fun σ' H'=>∃(l':List Nat) (at':Option Nat) (v4 v5 v6 v7:Option V),σ'=[some (.ref a),some (.str ⟨l'.toArray⟩),some (.int wy),some (E5 at'),v4,v5,v6,v7,none]∧G7 l' at'∧aK H H') (fun N hN=>?_) ?_
  ·refine⟨_,rfl,_,_,rfl,rfl,_,rfl,dG (fun _=>?_) fun _=>?_⟩
   ·
    have l1:(⟨#[72]⟩:Str).length=1:=rfl
    have Q9:("H" :Str)++⟨l.toArray⟩=⟨(72::l).toArray⟩:=by rw[IA];exact a6 [72] l
    refine⟨_,rfl,_,_,rfl,rfl,by rw[IA,l1];omega,(by show 2≤sizeLine;decide),fun p hp=>?_⟩
    rw[Q9]
    have ep:=e3.trans (aK.new (o:= .lst [V.str "H",V.str ⟨(72::l).toArray⟩]) hp)
    refine⟨_,rfl,a,ns,0,rfl,ep.seq hS,hlen,fun m0=>⟨_,_,rfl,rfl,(by show (0 :Int) <2;decide),?_⟩⟩
    have b0:0≤m0%2:=Int.emod_nonneg _ (by decide)
    have b1:m0%2<2:=Int.emod_lt_of_pos _ (by decide)
    obtain⟨v,hv,l9⟩:=fR (xs:=[V.str "H",V.str ⟨(72::l).toArray⟩]) b0 b1
    obtain⟨z,rfl,Tb,Ra⟩:∃z:List Nat,v=V.str ⟨z.toArray⟩∧z.length≤500∧∃y:List Nat,z.takeWhile (fun b=>decide (b≠94))=y∧y.length≤392∧dz y∧∃s,wk l4 0 y=some (s,0)∧s.nm= .part∧s.al=false:=by
     have:v=V.str "H" ∨v=V.str ⟨(72::l).toArray⟩:=by simpa using hv
     rcases this with rfl|rfl
     ·obtain⟨_,s,k1,k2,k3⟩:=Aw (u:=[72]) (.inl rfl)
      exact⟨[72],congrArg V.str IA,by decide,[72],by decide,by decide,(by decide:∀c∈[72],c<128),s,k1,k2,k3⟩
     ·obtain⟨_,s,k1,k2,k3⟩:=h7
      exact⟨72::l,rfl,by rw[List.length_cons];omega,u,E9,K5,K6,s,k1,k2,k3⟩
    obtain⟨y,ey,yl,ya,sy,k1,k2,k3⟩:=Ra
    have zl:(⟨z.toArray⟩:Str).length=z.length:=aH z
    refine⟨p,_,_,_,rfl,rfl,bC.of ag,l9,rfl,⟨z.toArray⟩,"^",rfl,rfl,by decide+kernel,by omega,fun pt Rb=>⟨pt,_,_,V.str (Txt.partition ⟨z.toArray⟩ "^").1,rfl,rfl,g8.of ag,rfl,?_⟩⟩
    have K9:=ep.trans (aK.new (o:= .tup [V.str (Txt.partition ⟨z.toArray⟩ "^").1,V.str (Txt.partition ⟨z.toArray⟩ "^").2.1,V.str (Txt.partition ⟨z.toArray⟩ "^").2.2]) Rb)
    generalize upd _ pt _=H4 at K9 ⊢
    rw[Ag,zu,ey]
    have Tc:(⟨y.toArray⟩:Str).length=y.length:=aH y
    refine⟨_,rfl,a,ns,1,rfl,K9.seq hS,hlen,fun m1=>⟨_,_,rfl,rfl,⟨by decide,by decide⟩,(by show 2≤sizeLine;decide),fun p3 Rc=>?_⟩⟩
    have DB:=K9.trans (aK.new (o:= .lst [V.int 20,V.int 2000]) Rc)
    refine⟨_,rfl,a,ns,0,rfl,DB.seq hS,hlen,fun m2=>?_⟩
    have c0:0≤m2/2%2:=Int.emod_nonneg _ (by decide)
    have c1:m2/2%2<2:=Int.emod_lt_of_pos _ (by decide)
    obtain⟨v2,Iz,wo⟩:=fR (xs:=[V.int 20,V.int 2000]) c0 c1
    obtain⟨z2,rfl,Fb,Rg⟩:∃z2:Int,v2=V.int z2∧0<z2∧z2≤2000:=by
     have:v2=V.int 20∨v2=V.int 2000:=by simpa using Iz
     rcases this with rfl|rfl
     ·exact⟨20,rfl,by decide,by decide⟩
     ·exact⟨2000,rfl,by decide,by decide⟩
    refine⟨_,_,rfl,rfl,⟨by decide,by decide⟩,_,_,rfl,rfl,(by show (0 :Int) <2;decide),p3,_,_,_,rfl,rfl,bC.of ag,wo,_,_,rfl,rfl,Fb,?_⟩
    have d0:0≤m1/8%z2:=Int.emod_nonneg _ (by omega)
    have d1:m1/8%z2<z2:=Int.emod_lt_of_pos _ Fb
    generalize upd H4 p3 _=H5 at DB ⊢
    dsimp only [fM]
    refine jB (fun σ' H'=>∃mo:Int,0≤mo∧mo≤2000∧σ'=[some (.ref a),some (.str ⟨l.toArray⟩),some (.int wy),some .bR,some (.int (ct:Int)),some (.str ⟨y.toArray⟩),some (.int mo),none,none]∧aK H H') (fun N' Im=>?_) ?_
    ·refine⟨_,rfl,a,ns,2,rfl,DB.seq hS,hlen,fun m3=>⟨_,_,rfl,rfl,(by show (0 :Int) <2;decide),rfl,_,rfl,dG (fun _=>?_) fun _=>Im _ _ ⟨_,d0,by omega,rfl,DB⟩⟩⟩
     refine⟨_,rfl,_,_,rfl,rfl,(by show (0 :Int) <2;decide),_,_,rfl,rfl,_,rfl,a,ns,1,rfl,DB.seq hS,hlen,fun m4=>⟨_,_,rfl,rfl,⟨by decide,by decide⟩,_,_,rfl,rfl,(by show (0 :Int) <2;decide),_,_,rfl,rfl,Im _ _ ⟨_,?_,?_,rfl,DB⟩⟩⟩
     ·have:=Int.emod_nonneg wy (show (2 :Int)≠0 by decide)
      have:=Int.emod_nonneg (m4/8) (show (2 :Int)≠0 by decide)
      omega
     ·have:=Int.emod_lt_of_pos wy (show (0 :Int) <2 by decide)
      have:=Int.emod_lt_of_pos (m4/8) (show (0 :Int) <2 by decide)
      omega
    rintro σ H6 ⟨mo,Td,Tf,rfl,e6⟩
    refine⟨_,rfl,_,rfl,_,_,rfl,rfl,_,rfl,⟨y.toArray⟩,rfl,by omega,_,_,rfl,rfl,72,_,congrArg V.str IA,rfl,by omega,by omega,?_⟩
    refine⟨_,_,rfl,rfl,by rw[aH,aH,List.length_replicate];omega,?_⟩
    rw[a6]
    have rl:(List.replicate (390+mo - ((⟨y.toArray⟩:Str).length:Int)).toNat 72).length≤2390:=by rw[List.length_replicate];omega
    have ra:dz (List.replicate (390+mo - ((⟨y.toArray⟩:Str).length:Int)).toNat 72):=fun b hb=>by rw[(List.mem_replicate.mp hb).2];decide
    obtain⟨s',hH⟩:=E7 (390+mo - ((⟨y.toArray⟩:Str).length:Int)).toNat k2 k3
    have hw:=xo (m:=List.replicate (390+mo - ((⟨y.toArray⟩:Str).length:Int)).toNat 72) k1
    rw[hH] at hw
    generalize hq:List.replicate (390+mo - ((⟨y.toArray⟩:Str).length:Int)).toNat 72=rp at rl ra hw ⊢
    have ll:(y++rp).length≤2800:=by rw[List.length_append];omega
    have la:=ya.app ra
    refine⟨_,rfl,a,ns,2,rfl,e6.seq hS,hlen,fun m5=>⟨_,_,rfl,rfl,(by show (0 :Int) <3;decide),rfl,_,rfl,dG (fun _=>?_) fun _=>hN _ _ ⟨y++rp,none,_,_,_,_,rfl,nM la (by omega) hw,e6⟩⟩⟩
    refine⟨_,rfl,⟨(y++rp).toArray⟩,rfl,by rw[aH];omega,?_⟩
    rw[aH]
    refine⟨_,rfl,_,_,rfl,rfl,by rw[Ax,aH,aH];show _+1≤_;omega,?_⟩
    rw[Ax,a6]
    refine hN _ _ ⟨(y++rp)++[35],some (y++rp).length,_,_,_,_,rfl,xj (la.app (by decide:∀c∈[35],c<128)) (by rw[List.length_append];show _+1≤_;omega) hw (by unfold K3;decide),e6⟩
   ·refine⟨_,rfl,_,_,rfl,rfl,_,rfl,dG (fun _=>?_) fun _=>?_⟩
    ·
     refine⟨_,rfl,_,rfl,a,ns,0,rfl,e3.seq hS,hlen,fun m0=>?_⟩
     have b0:0≤m0%21:=Int.emod_nonneg _ (by decide)
     have b1:m0%21<21:=Int.emod_lt_of_pos _ (by decide)
     obtain⟨c,hc,l9⟩:=fR (xs:=IB.cps.toList) b0 (by rw[zA];exact b1)
     obtain⟨cb,K'⟩:=zB c hc
     refine⟨_,_,rfl,rfl,(by show (0 :Int) <21;decide),IB,_,c,rfl,rfl,(by decide+kernel),l9,?_⟩
     have ce:(⟨#[c]⟩:Str)=⟨[c].toArray⟩:=rfl
     refine⟨_,rfl,_,rfl,_,rfl,⟨l.toArray⟩,rfl,by omega,?_⟩
     rw[Aq l K7]
     refine⟨_,rfl,_,_,rfl,rfl,by rw[aH,ce,aH,List.length_take];show _+1≤_;omega,?_⟩
     rw[ce,a6]
     refine⟨_,rfl,_,rfl,_,rfl,⟨l.toArray⟩,rfl,by omega,(by show 2≤sizeLine;decide),fun p hp=>?_⟩
     rw[wY l K7]
     have ep:=e3.trans (aK.new (o:= .lst [V.str "",V.str ⟨(l.drop ct).toArray⟩]) hp)
     have v0:0≤wy%2:=Int.emod_nonneg _ (by decide)
     have v1:wy%2<2:=Int.emod_lt_of_pos _ (by decide)
     obtain⟨v,hv,wo⟩:=fR (xs:=[V.str "",V.str ⟨(l.drop ct).toArray⟩]) v0 v1
     obtain⟨r,rfl,Tg,Rh⟩:∃r:List Nat,v=V.str ⟨r.toArray⟩∧r.length≤391∧dz r:=by
      have:v=V.str "" ∨v=V.str ⟨(l.drop ct).toArray⟩:=by simpa using hv
      rcases this with rfl|rfl
      ·exact⟨[],congrArg V.str eN,by decide,fun _ z=>(by cases z)⟩
      ·exact⟨l.drop ct,rfl,by rw[List.length_drop];omega,qT.drop ct⟩
     refine⟨_,rfl,_,_,rfl,rfl,(by show (0 :Int) <2;decide),p,_,_,_,rfl,rfl,bC.of ag,wo,_,_,rfl,rfl,by rw[aH,aH,List.length_append,List.length_take];show _+1+_≤_;omega,?_⟩
     rw[a6,List.append_assoc]
     have OX:(l.take ct).length=ct:=by rw[List.length_take];omega
     have g:=xj (u:=l.take ct) (c:=c) (r:=r) ((qT.take ct).app fun b hb=>(List.mem_cons.mp hb).elim (fun e=>by rw[e];exact K') (Rh b)) (by rw[List.length_append,List.length_cons,OX];omega) K8 cb
     rw[OX] at g
     exact hN _ _ ⟨l.take ct++([c]++r),some ct,_,_,_,_,rfl,g,ep⟩
    ·refine⟨_,rfl,_,_,rfl,rfl,_,rfl,dG (fun _=>?_) fun _=>?_⟩
     ·refine⟨_,rfl,_,rfl,_,rfl,⟨l.toArray⟩,rfl,by omega,?_⟩
      rw[Aq l K7]
      exact hN _ _ ⟨l.take ct,none,_,_,_,_,rfl,nM (qT.take ct) (by rw[List.length_take];omega) K8,e3⟩
     ·obtain⟨sw,dw,Ri⟩:=sr (l:=l) (m:=[]) (by rw[List.append_nil];exact sD)
      exact hN _ _ ⟨l,none,_,_,_,_,rfl,nM qT (by omega) Ri,e3⟩
  clear hl hu h7 K5 K6 E9 K8 sD qT Dk e3
  rintro σ H3 ⟨l,at',v4,v5,v6,v7,rfl,⟨ha,hl,La⟩,e3⟩
  refine⟨_,rfl,_,rfl,l,at',rfl,ha,hl,fun td Bv H4 Rj OY e4=>?_⟩
  have ev:=La Bv Rj
  subst ev
  have OZ:PyData.strOk ⟨l.toArray⟩=true:=by
   unfold PyData.strOk
   rw[Array.all_eq_true]
   intro i hi
   have:=ha (l.toArray[i]) (by rw[←List.mem_toArray];exact Array.getElem_mem hi)
   exact decide_eq_true (Nat.lt_trans this (by decide))
  obtain⟨ds,IC,Bo,Dl⟩:∃ds:List PyData,(∀H:Hp,qf K H (sx l) ds)∧(PyData.tuple ds).canLay0=true∧SeqAt.shaped (.tuple ds)=true:=by
   unfold sx
   split
   ·exact⟨[.int 2, .int (l.length:Int), .bool true],fun _=> .cons (.int _) (.cons (.int _) (.cons (.bl _) .nil)),rfl,rfl⟩
   ·split
    ·exact⟨[.int 0, .str ⟨l.toArray⟩, .bool true],fun _=> .cons (.int _) (.cons (.str _) (.cons (.bl _) .nil)),by simp [PyData.canLay0,PyData.canLayAll0,OZ],lF (by simp [PyData.canLay0,PyData.canLayAll0,OZ]) (by simp [PyData.depth,PyData.depthAll])⟩
    ·rename_i v _
     exact⟨[.int 1, .int ((l.length:Int) - v.length), .bool true],fun _=> .cons (.int _) (.cons (.int _) (.cons (.bl _) .nil)),rfl,rfl⟩
  refine⟨_,rfl,l,rfl,hl,fun t5 H5 Rk e5=>⟨_,rfl, .tuple ds, .tuple ds, .tup (g8.of Rk) (IC _), .tup (g8.of (e5 _ _ OY)) (IC _),Dl,Dl,?_⟩⟩
  rw[ie _ Bo]
  refine⟨_,rfl,bZ ?_⟩
  have Fc:(PyData.tuple [.int 0, .str "Ho", .bool true]).canLay0=true:=by decide+kernel
  have Fd:=lF Fc (by simp [PyData.depth,PyData.depthAll])
  have Rl:sx [72,111]=[.int 0, .str ⟨[72,111].toArray⟩, .bl true]:=by
   unfold sx
   rw[if_neg (by decide),show vd l4 0 [72,111]=none by decide+kernel]
  refine⟨[72,111],congrArg (fun z=>[V.str z]) OV,by decide,fun t6 H6 O0 e6=>⟨(by show 3≤sizeLine;decide),fun t7 O1=>?_⟩⟩
  rw[Rl,←OV] at O0
  refine⟨.tuple [.int 0, .str "Ho", .bool true], .tuple [.int 0, .str "Ho", .bool true], .tup (g8.of ((aK.new O1) _ _ O0)) (.cons (.int _) (.cons (.str _) (.cons (.bl _) .nil))), .tup (g8.of ag) (.cons (.int _) (.cons (.str _) (.cons (.bl _) .nil))),Fd,Fd,?_⟩
  rw[ie _ Fc]
  refine⟨_,rfl,bZ ?_⟩
  have Rm:aK H4 (upd H6 t7 (.tup [V.int 0,V.str "Ho",V.bl true])):=e5.trans (e6.trans (aK.new O1))
  refine⟨_,rfl,l,rfl,hl,fun t8 H8 Dz e8=>⟨_,rfl, .tuple ds, .tuple ds, .tup (g8.of Dz) (IC _), .tup (g8.of (e8 _ _ (Rm _ _ OY))) (IC _),Dl,Dl,?_⟩⟩
  rw[ie _ Bo]
  exact q _
end
theorem all_mk{l:PySem.W.OpenLaw}{w:World}{K:PySem.W.Frag}{h:Heap}{mg:Str→Option Value}{fa C Gr Pc Fo Rd HE NF TL X1 X2 X3 X4 X5 X6 X7 X8 Fe Ff Fg Fh Fi sE Fj zC Fl zD Fm Fn Fp zE Fq Fs Ft Fu Fv Fw Fx Fy Ay Fz FA Az FC FD AA FE zF zG FF FG FH FI FJ FK FL FN FO FP FQ FR FT AB AD CL:Addr}(X:K.In h)(G:h.Ns mainGlobals mg)(Rn:mg "law" =some (.ref fa))
  {CM qU FU xp FV xq FW xr FX AE:Option Addr} {CN FY FZ F0 F1:Array (Option Value)} {CO qV qW qX nN qY F2 xt xu xv sF xw F3 xx xy xA sG xB F4 xC xD xE sH xF F5 AF AG AH xG AI:Value}
  {nO:Addr} {zH:Value} {zI:Option Addr} {zJ:Array (Option Value)} {CP:Nat} {xH:Tok}
  {sI:Addr} {CQ:Value} {CS:Option Addr} {CT:Array (Option Value)} {F6:Nat} {AJ:Tok}
  {sJ:Addr} {CU:Value} {CV:Option Addr} {CW:Array (Option Value)} {F7:Nat} {AK:Tok}
  {sM:Addr} {CY:Value} {CZ:Option Addr} {C0:Array (Option Value)} {F8:Nat} {AL:Tok}
  {uK uN uB uE uM uC uP uI uD uL uT:Tok}
  (aC:PySem.W.nsIn K mainGlobals "Atom" =some (some (.ref C)))
  (Ro:PySem.W.nsIn K mainGlobals "Group" =some (some (.ref Gr)))
  (Rp:PySem.W.nsIn K mainGlobals "Piece" =some (some (.ref Pc)))
  (Rq:PySem.W.nsIn K mainGlobals "Formula" =some (some (.ref Fo)))
  (Rr:PySem.W.nsIn K mainGlobals "Reader" =some (some (.ref Rd)))
  (Rt:PySem.W.nsIn K mainGlobals "HallError" =some (some (.ref HE)))
  (O2:PySem.W.nsIn K mainGlobals "NoFormula" =some (some (.ref NF)))
  (O3:PySem.W.nsIn K mainGlobals "TooLong" =some (some (.ref TL)))
  (Ru:PySem.W.nsIn K mainGlobals "NoBalance" =some (some (.ref X1)))
  (Rv:PySem.W.nsIn K mainGlobals "NoChange" =some (some (.ref X2)))
  (Rw:PySem.W.nsIn K mainGlobals "NoName" =some (some (.ref X3)))
  (Rx:PySem.W.nsIn K mainGlobals "NoRow" =some (some (.ref X4)))
  (Ry:PySem.W.nsIn K mainGlobals "NoSplit" =some (some (.ref X5)))
  (RA:PySem.W.nsIn K mainGlobals "Short" =some (some (.ref X6)))
  (RB:PySem.W.nsIn K mainGlobals "TooMany" =some (some (.ref X7)))
  (RC:PySem.W.nsIn K mainGlobals "Unbalanced" =some (some (.ref X8)))
  (Lb:PySem.W.nsIn K mainGlobals "is_great" =some (some (.ref Fe)))
  (Lc:dU K "is_great" "is_great" mQ Fe)
  (Ld:PySem.W.nsIn K mainGlobals "is_small" =some (some (.ref Ff)))
  (Le:dU K "is_small" "is_small" mR Ff)
  (Lf:PySem.W.nsIn K mainGlobals "is_figure" =some (some (.ref Fg)))
  (Lg:dU K "is_figure" "is_figure" jD Fg)
  (Lh:PySem.W.nsIn K mainGlobals "count_shown" =some (some (.ref Fh)))
  (Li:dU K "count_shown" "count_shown" d6 Fh)
  (Lj:PySem.W.nsIn K mainGlobals "parts_shown" =some (some (.ref Fi)))
  (Lk:dU K "parts_shown" "parts_shown" gv Fi)
  (F9:PySem.W.findIn K (.ref C) "__init__" =some (some (.ref sE)))
  (F':PySem.W.isFn K (.ref sE)=true)
  (Ga:K.lookup sE=some ⟨CO,CM, .func (PySem.W.fnOf "__init__" "Atom.__init__" (br eK) (aW eK) (ak eK) (.ref nO) qV qW qX qU nN qY),CN⟩)
  (AM:K.lookup nO=some ⟨zH,zI, .seq #[.int 1 xH] CP,zJ⟩)
  (Gb:PySem.W.codeIn K nN "Atom.__init__" =true)
  (Gd:PySem.W.keepIn K (.ref sE)=true)
  (Ll:PySem.W.findIn K (.ref C) "shown" =some (some (.ref Fj)))
  (Lm:dU K "shown" "Atom.shown" mS Fj)
  (Ln:PySem.W.findIn K (.ref Gr) "__init__" =some (some (.ref zC)))
  (Lo:PySem.W.isFn K (.ref zC)=true)
  (Lp:K.lookup zC=some ⟨F2,FU, .func (PySem.W.fnOf "__init__" "Group.__init__" (br cX) (aW cX) (ak cX) (.ref sI) xt xu xv xp sF xw),FY⟩)
  (Ge:K.lookup sI=some ⟨CQ,CS, .seq #[.int 1 AJ] F6,CT⟩)
  (Lq:PySem.W.codeIn K sF "Group.__init__" =true)
  (Lr:PySem.W.keepIn K (.ref zC)=true)
  (Ls:PySem.W.findIn K (.ref Gr) "shown" =some (some (.ref Fl)))
  (Lu:dU K "shown" "Group.shown" gw Fl)
  (Lv:PySem.W.findIn K (.ref Pc) "__init__" =some (some (.ref zD)))
  (Lw:PySem.W.isFn K (.ref zD)=true)
  (Lx:K.lookup zD=some ⟨F3,FV, .func (PySem.W.fnOf "__init__" "Piece.__init__" (br cY) (aW cY) (ak cY) (.ref sJ) xx xy xA xq sG xB),FZ⟩)
  (Gf:K.lookup sJ=some ⟨CU,CV, .seq #[.int 1 AK] F7,CW⟩)
  (Ly:PySem.W.codeIn K sG "Piece.__init__" =true)
  (Lz:PySem.W.keepIn K (.ref zD)=true)
  (LA:PySem.W.findIn K (.ref Pc) "shown" =some (some (.ref Fm)))
  (LB:dU K "shown" "Piece.shown" d7 Fm)
  (LC:PySem.W.nsIn K mainGlobals "refuse_too_long" =some (some (.ref Fn)))
  (LD:dU K "refuse_too_long" "refuse_too_long" ik Fn)
  (LF:PySem.W.nsIn K mainGlobals "charge_shown" =some (some (.ref Fp)))
  (LG:dU K "charge_shown" "charge_shown" dH Fp)
  (LH:PySem.W.findIn K (.ref Fo) "__init__" =some (some (.ref zE)))
  (LI:PySem.W.isFn K (.ref zE)=true)
  (LJ:K.lookup zE=some ⟨F4,FW, .func (PySem.W.fnOf "__init__" "Formula.__init__" (br cZ) (aW cZ) (ak cZ) (.ref sM) xC xD xE xr sH xF),F0⟩)
  (Gg:K.lookup sM=some ⟨CY,CZ, .seq #[.int 0 AL] F8,C0⟩)
  (LK:PySem.W.codeIn K sH "Formula.__init__" =true)
  (LL:PySem.W.keepIn K (.ref zE)=true)
  (LM:PySem.W.findIn K (.ref Fo) "shown" =some (some (.ref Fq)))
  (LN:dU K "shown" "Formula.shown" il Fq)
  (LO:PySem.W.findIn K (.ref Rd) "__init__" =some (some (.ref Fs)))
  (LQ:dU K "__init__" "Reader.__init__" mT Fs)
  (LR:PySem.W.findIn K (.ref Rd) "sign" =some (some (.ref Ft)))
  (LS:dU K "sign" "Reader.sign" rG Ft)
  (LU:PySem.W.findIn K (.ref Rd) "take" =some (some (.ref Fu)))
  (LV:dU K "take" "Reader.take" rH Fu)
  (LW:PySem.W.findIn K (.ref Rd) "take_all" =some (some (.ref Fv)))
  (LX:dU K "take_all" "Reader.take_all" ip Fv)
  (LY:PySem.W.findIn K (.ref Rd) "take_end" =some (some (.ref Fw)))
  (LZ:dU K "take_end" "Reader.take_end" iq Fw)
  (L0:PySem.W.findIn K (.ref Rd) "read_whole" =some (some (.ref Fx)))
  (L1:dU K "read_whole" "Reader.read_whole" jE Fx)
  (L3:PySem.W.findIn K (.ref Rd) "read_electron" =some (some (.ref Fy)))
  (L4:dU K "read_electron" "Reader.read_electron" fh Fy)
  (Gh:PySem.W.findIn K (.ref Rd) "read_parts" =some (some (.ref Ay)))
  (Gi:dU K "read_parts" "Reader.read_parts" ir Ay)
  (L5:PySem.W.findIn K (.ref Rd) "read_part" =some (some (.ref Fz)))
  (L6:dU K "read_part" "Reader.read_part" ki Fz)
  (L7:PySem.W.findIn K (.ref Rd) "read_group" =some (some (.ref FA)))
  (L8:dU K "read_group" "Reader.read_group" gy FA)
  (Gj:PySem.W.findIn K (.ref Rd) "read_atom" =some (some (.ref Az)))
  (Gk:dU K "read_atom" "Reader.read_atom" mU Az)
  (L9:PySem.W.findIn K (.ref Rd) "read_count" =some (some (.ref FC)))
  (L':dU K "read_count" "Reader.read_count" jF FC)
  (Ma:PySem.W.findIn K (.ref Rd) "read_number" =some (some (.ref FD)))
  (Mb:dU K "read_number" "Reader.read_number" iu FD)
  (Gm:PySem.W.findIn K (.ref Rd) "read_charge" =some (some (.ref AA)))
  (Gn:dU K "read_charge" "Reader.read_charge" iv AA)
  (Mc:PySem.W.nsIn K mainGlobals "read_formula" =some (some (.ref FE)))
  (Md:dU K "read_formula" "read_formula" gz FE)
  (Me:PySem.W.findIn K (.ref NF) "__init__" =some (some (.ref zF)))
  (Mf:dU K "__init__" "NoFormula.__init__" yC zF)
  (Mg:PySem.W.findIn K (.ref TL) "__init__" =some (some (.ref zG)))
  (Mh:dU K "__init__" "TooLong.__init__" mZ zG)
  (Mi:PySem.W.nsIn K mainGlobals "_law_cell_at" =some (some (.ref FF)))
  (Mj:dU K "_law_cell_at" "_law_cell_at" jG FF)
  (Ml:PySem.W.nsIn K mainGlobals "_law_mixed" =some (some (.ref FG)))
  (Mm:dU K "_law_mixed" "_law_mixed" mV FG)
  (Mn:PySem.W.nsIn K mainGlobals "_law_whole" =some (some (.ref FH)))
  (Mo:dU K "_law_whole" "_law_whole" mW FH)
  (Mp:PySem.W.nsIn K mainGlobals "_law_kind" =some (some (.ref FI)))
  (Mq:dU K "_law_kind" "_law_kind" rJ FI)
  (Mr:PySem.W.nsIn K mainGlobals "_law_count" =some (some (.ref FJ)))
  (Ms:dU K "_law_count" "_law_count" mX FJ)
  (Mt:PySem.W.nsIn K mainGlobals "_law_figures" =some (some (.ref FK)))
  (Mu:dU K "_law_figures" "_law_figures" iw FK)
  (Mv:PySem.W.nsIn K mainGlobals "_law_part" =some (some (.ref FL)))
  (Mw:dU K "_law_part" "_law_part" rK FL)
  (Mx:PySem.W.nsIn K mainGlobals "_law_pieces" =some (some (.ref FN)))
  (My:dU K "_law_pieces" "_law_pieces" jH FN)
  (Mz:PySem.W.nsIn K mainGlobals "_law_shown" =some (some (.ref FO)))
  (MA:dU K "_law_shown" "_law_shown" dI FO)
  (MB:PySem.W.nsIn K mainGlobals "_law_charge" =some (some (.ref FP)))
  (MC:dU K "_law_charge" "_law_charge" jI FP)
  (MD:PySem.W.nsIn K mainGlobals "_law_text" =some (some (.ref FQ)))
  (ME:dU K "_law_text" "_law_text" oS FQ)
  (MF:PySem.W.nsIn K mainGlobals "_law_others" =some (some (.ref FR)))
  (MG:dU K "_law_others" "_law_others" jJ FR)
  (MH:PySem.W.nsIn K mainGlobals "_law_told" =some (some (.ref FT)))
  (MI:dU K "_law_told" "_law_told" rL FT)
  (Gp:PySem.W.nsIn K mainGlobals "_law_open" =some (some (.ref AB)))
  (Gq:dU K "_law_open" "_law_open" rM AB)
  (Gs:PySem.W.nsIn K mainGlobals "_law_due" =some (some (.ref AD)))
  (Gu:dU K "_law_due" "_law_due" yD AD)
  (MJ:PySem.W.nsIn K mainGlobals "law" =some (some (.ref CL)))
  (MK:K.lookup CL=some ⟨F5,FX, .func (PySem.W.fnOf "law" "law" (br mY) (aW mY) (ak mY) .none AF AG AH AE xG AI),F1⟩)
  (ML:PySem.W.codeIn K xG "law" =true)
  (MM:PySem.W.keepIn K (.ref CL)=true)
  (Gv:PySem.W.typeIn K (.ref zF)=some (.type "function"))
  (MN:PySem.W.findIn K (.ref NF) "__setattr__" =some (some (.builtin "object.__setattr__")))
  (MO:PySem.W.findIn K (.ref NF) "__getattribute__" =some (some (.builtin "BaseException.__getattribute__")))
  (MP:PySem.W.findIn K (.ref NF) "__getattr__" =some none)
  (MQ:PySem.W.keepIn K (.ref NF)=true)
  (MR:∃(nm q:Str) (N:Addr) (bs:List Value) (sn:List Str) (sub:List Value) (ab:Bool) (col:Option Bool) (dd:Option Addr) (k0 k1 k2 k3 k5:Option Value),K.lookup NF=some (excClassObj nm q NF N bs (.ref HE::PySem.W.oF) true sn sub ab col dd k0 k1 k2 k3 k5 "ValueError.__new__"))
  (Gw:PySem.W.typeIn K (.ref zG)=some (.type "function"))
  (MS:PySem.W.findIn K (.ref TL) "__setattr__" =some (some (.builtin "object.__setattr__")))
  (MT:PySem.W.findIn K (.ref TL) "__getattribute__" =some (some (.builtin "BaseException.__getattribute__")))
  (MU:PySem.W.findIn K (.ref TL) "__getattr__" =some none)
  (MV:PySem.W.keepIn K (.ref TL)=true)
  (MW:∃(nm q:Str) (N:Addr) (bs:List Value) (sn:List Str) (sub:List Value) (ab:Bool) (col:Option Bool) (dd:Option Addr) (k0 k1 k2 k3 k5:Option Value),K.lookup TL=some (excClassObj nm q TL N bs (.ref HE::PySem.W.oF) true sn sub ab col dd k0 k1 k2 k3 k5 "ValueError.__new__"))
  (RD:PySem.W.plainGet K C Str.empty=true)
  (RE:PySem.W.hasDictIn K C=true)
  (RF:PySem.W.plainOver K C=true)
  (RG:PySem.W.findIn K (.ref C) "__setattr__" =some (some (.builtin "object.__setattr__")))
  (RH:PySem.W.makesIn K C=true)
  (RK:PySem.W.keepIn K (.ref C)=true)
  (MX:PySem.W.plainGet K Gr Str.empty=true)
  (MY:PySem.W.hasDictIn K Gr=true)
  (MZ:PySem.W.plainOver K Gr=true)
  (M0:PySem.W.findIn K (.ref Gr) "__setattr__" =some (some (.builtin "object.__setattr__")))
  (M1:PySem.W.makesIn K Gr=true)
  (M3:PySem.W.keepIn K (.ref Gr)=true)
  (M4:PySem.W.plainGet K Pc Str.empty=true)
  (M5:PySem.W.hasDictIn K Pc=true)
  (M6:PySem.W.plainOver K Pc=true)
  (M7:PySem.W.findIn K (.ref Pc) "__setattr__" =some (some (.builtin "object.__setattr__")))
  (M8:PySem.W.makesIn K Pc=true)
  (M9:PySem.W.keepIn K (.ref Pc)=true)
  (Gx:PySem.W.plainGet K Fo Str.empty=true)
  (Gy:PySem.W.hasDictIn K Fo=true)
  (Gz:PySem.W.plainOver K Fo=true)
  (GA:PySem.W.findIn K (.ref Fo) "__setattr__" =some (some (.builtin "object.__setattr__")))
  (M':PySem.W.makesIn K Fo=true)
  (Na:PySem.W.keepIn K (.ref Fo)=true)
  (Nb:PySem.W.plainGet K Rd Str.empty=true)
  (Nc:PySem.W.hasDictIn K Rd=true)
  (Nd:PySem.W.plainOver K Rd=true)
  (Nf:PySem.W.findIn K (.ref Rd) "__setattr__" =some (some (.builtin "object.__setattr__")))
  (Ng:PySem.W.makesIn K Rd=true)
  (Nh:PySem.W.keepIn K (.ref Rd)=true)
  (GB:PySem.W.findIn K (.ref C) "kind" =some none)
  (C1:PySem.W.findIn K (.ref C) "count" =some none)
  (RL:PySem.W.findIn K (.ref Gr) "parts" =some none)
  (RM:PySem.W.findIn K (.ref Gr) "count" =some none)
  (RN:PySem.W.findIn K (.ref Pc) "parts" =some none)
  (JZ:PySem.W.findIn K (.ref Pc) "count" =some none)
  (RO:PySem.W.findIn K (.ref Fo) "pieces" =some none)
  (RP:PySem.W.findIn K (.ref Fo) "charge" =some none)
  (RQ:PySem.W.findIn K (.ref Rd) "text" =some none)
  (RS:PySem.W.findIn K (.ref Rd) "place" =some none)
  (RT:PySem.W.findIn K (.ref NF) "place" =some none)
  (RU:PySem.W.findIn K (.ref TL) "many" =some none)
  (GC:PySem.W.nsIn K mainGlobals "len" =some none)
  (GD:PySem.W.nsIn K mainGlobals "str" =some none)
  (GF:PySem.W.nsIn K mainGlobals "int" =some none)
  (C2:PySem.W.nsIn K mainGlobals "bool" =some none)
  (zK:PySem.W.nsIn K mainGlobals "range" =some none)
  (iN:PySem.W.nsIn K mainGlobals "isinstance" =some none)
  (C3:PySem.W.nsIn K mainGlobals "list" =some none)
  (GG:PySem.W.nsIn K mainGlobals "abs" =some none)
  (nQ:PySem.W.nsIn K mainGlobals "ValueError" =some none)
  (k9:PySem.W.nsIn K mainGlobals "LONGEST_KIND" =some (some (.int 3 uK)))
  (kN:PySem.W.nsIn K mainGlobals "LONGEST_COUNT" =some (some (.int 3 uN)))
  (nR:PySem.W.nsIn K mainGlobals "GROUP_BEGIN" =some (some (.str "(" uB)))
  (qZ:PySem.W.nsIn K mainGlobals "GROUP_END" =some (some (.str ")" uE)))
  (gM:PySem.W.nsIn K mainGlobals "MOST_GROUPS_AROUND" =some (some (.int 3 uM)))
  (nU:PySem.W.nsIn K mainGlobals "CHARGE_MARK" =some (some (.str "^" uC)))
  (GH:PySem.W.nsIn K mainGlobals "PLUS" =some (some (.str "+" uP)))
  (C4:PySem.W.nsIn K mainGlobals "MINUS" =some (some (.str "-" uI)))
  (q9:PySem.W.nsIn K mainGlobals "PIECE_DOT" =some (some (.str "." uD)))
  (uq:PySem.W.nsIn K mainGlobals "ELECTRON" =some (some (.str "e^-" uL)))
  (lh:PySem.W.nsIn K mainGlobals "LONGEST_TEXT" =some (some (.int 400 uT)))
  (RW:PySem.W.specialIn K (.ref HE) "__getattribute__" =some (some (.builtin "type.__getattribute__")))
  (RX:PySem.W.readsIn K HE (.type "type")=true)
  (RY:PySem.W.findCls K (.ref HE) (.type "type") "__init__" =some (.val (.builtin "ValueError.__init__")))
  (RZ:PySem.W.takerIn K NF "place" =some none)
  (R0:PySem.W.takerIn K TL "many" =some none)
  (zL:PySem.W.mroIn K NF (.ref NF)=some true)
  (zM:PySem.W.mroIn K TL (.ref TL)=some true)
  (R1:PySem.W.mroIn K NF (.ref HE)=some true)
  (R3:PySem.W.mroIn K TL (.ref HE)=some true)
  (R4:∃(nm q:Str) (N:Addr) (bs bm:List Value) (hd:Bool) (sn:List Str) (sub:List Value) (ab:Bool) (col:Option Bool) (dd:Option Addr) (k0 k1 k2 k3 k5:Option Value) (HW:String),K.lookup HE=some (excClassObj nm q HE N bs bm hd sn sub ab col dd k0 k1 k2 k3 k5 HW)∧bm.contains (.type "BaseException")=true)
  (R5:PySem.W.findIn K (.ref NF) "__class__" =some (some (.builtin "object.__class__")))
  (R6:PySem.W.findIn K (.ref TL) "__class__" =some (some (.builtin "object.__class__")))
  (t2:PySem.W.specialIn K (.builtin "object.__class__") "__get__" =some (some (.builtin "getset_descriptor.__get__")))
  (t3:PySem.W.takesIn K (.builtin "object.__class__")=some true)
  (wN:PySem.W.isClsIn K NF=true)
  (yN:PySem.W.typeIn K (.ref NF)=some (.type "type"))
  (wT:PySem.W.isClsIn K TL=true)
  (yT:PySem.W.typeIn K (.ref TL)=some (.type "type"))
  (R7:PySem.W.mroIn K NF (.ref TL)=some false)
  (R8:PySem.W.mroIn K TL (.ref NF)=some false)
  (w1:PySem.W.isClsIn K X1=true)
  (y1:PySem.W.typeIn K (.ref X1)=some (.type "type"))
  (R9:PySem.W.mroIn K NF (.ref X1)=some false)
  (R':PySem.W.mroIn K TL (.ref X1)=some false)
  (w2:PySem.W.isClsIn K X2=true)
  (y2:PySem.W.typeIn K (.ref X2)=some (.type "type"))
  (Sa:PySem.W.mroIn K NF (.ref X2)=some false)
  (Sb:PySem.W.mroIn K TL (.ref X2)=some false)
  (w3:PySem.W.isClsIn K X3=true)
  (y3:PySem.W.typeIn K (.ref X3)=some (.type "type"))
  (Sd:PySem.W.mroIn K NF (.ref X3)=some false)
  (Se:PySem.W.mroIn K TL (.ref X3)=some false)
  (w4:PySem.W.isClsIn K X4=true)
  (y4:PySem.W.typeIn K (.ref X4)=some (.type "type"))
  (Sf:PySem.W.mroIn K NF (.ref X4)=some false)
  (Sg:PySem.W.mroIn K TL (.ref X4)=some false)
  (w5:PySem.W.isClsIn K X5=true)
  (y5:PySem.W.typeIn K (.ref X5)=some (.type "type"))
  (Sh:PySem.W.mroIn K NF (.ref X5)=some false)
  (Si:PySem.W.mroIn K TL (.ref X5)=some false)
  (w6:PySem.W.isClsIn K X6=true)
  (y6:PySem.W.typeIn K (.ref X6)=some (.type "type"))
  (Sj:PySem.W.mroIn K NF (.ref X6)=some false)
  (Sk:PySem.W.mroIn K TL (.ref X6)=some false)
  (w7:PySem.W.isClsIn K X7=true)
  (y7:PySem.W.typeIn K (.ref X7)=some (.type "type"))
  (Sl:PySem.W.mroIn K NF (.ref X7)=some false)
  (Sm:PySem.W.mroIn K TL (.ref X7)=some false)
  (w8:PySem.W.isClsIn K X8=true)
  (y8:PySem.W.typeIn K (.ref X8)=some (.type "type"))
  (Sn:PySem.W.mroIn K NF (.ref X8)=some false)
  (So:PySem.W.mroIn K TL (.ref X8)=some false)
  :∃fd:FuncData,(∀(s:Shared) (v:Value),BindsTo s fd ⟨[v],[]⟩ [("_law_script",v)])∧∀base:Heap,K.In base→base.Ns mainGlobals mg→dn l.prog w K mg base mF 23 fa fd ["_law_script"] (sC K):=by
 have e:=Rn.symm.trans (PySem.W.mg_of X G MJ)
 cases e
 have T:jv K mg C Rd Gr Pc Fo uK uN uB uE uM uC uP uI uD uL uT:=⟨⟨⟨⟨⟨RD,RE,RF,RG⟩,GB,C1,PySem.W.mg_of X G aC,PySem.W.mg_none_of X G GC,PySem.W.mg_none_of X G GD,PySem.W.mg_none_of X G GF,PySem.W.mg_none_of X G C2,PySem.W.mg_none_of X G zK,PySem.W.mg_none_of X G iN,ib,mI,ib,ib,ib⟩,⟨Nb,Nc,Nd,Nf⟩,RQ,RS,PySem.W.mg_of X G k9,PySem.W.mg_of X G kN⟩,⟨MX,MY,MZ,M0⟩,RL,RM,PySem.W.mg_of X G Ro,PySem.W.mg_of X G nR,PySem.W.mg_of X G qZ,PySem.W.mg_of X G gM⟩,PySem.W.mg_of X G nU,PySem.W.mg_of X G GH,PySem.W.mg_of X G C4,⟨M4,M5,M6,M7⟩,⟨Gx,Gy,Gz,GA⟩,RN,JZ,RO,RP,PySem.W.mg_of X G Rp,PySem.W.mg_of X G Rq,PySem.W.mg_of X G Rr,PySem.W.mg_of X G q9,PySem.W.mg_of X G uq,PySem.W.mg_of X G lh,PySem.W.mg_none_of X G C3,PySem.W.mg_none_of X G GG⟩
 have GI:Def K mg "is_great" "is_great" mQ ["sign"]:=b7 X G Lb Lc (ij fun _ _ _ _ _ _ _=>rfl)
 have GJ:Def K mg "is_small" "is_small" mR ["sign"]:=b7 X G Ld Le (ij fun _ _ _ _ _ _ _=>rfl)
 have GK:Def K mg "is_figure" "is_figure" jD ["sign"]:=b7 X G Lf Lg (ij fun _ _ _ _ _ _ _=>rfl)
 have GL:Def K mg "count_shown" "count_shown" d6 ["count"]:=b7 X G Lh Li (ij fun _ _ _ _ _ _ _=>rfl)
 have GN:Def K mg "parts_shown" "parts_shown" gv ["parts"]:=b7 X G Lj Lk (ij fun _ _ _ _ _ _ _=>rfl)
 have C5:iY K C "Atom.__init__" eK ["self","kind","count"] [1]:=⟨_,_,_,jA (st:=eK) Ga Gb Gd,⟨RH,F9,F',RK⟩,HX (⟨[.int 1 xH], .cons ⟨_,rfl⟩ (.nil),HY rfl fun _ _ _ hk=>PySem.W.binds_K (K:=K) (fd:=PySem.W.fnOf "__init__" "Atom.__init__" (br eK) (aW eK) (ak eK) (.ref nO) qV qW qX qU nN qY) hk rfl AM rfl rfl rfl⟩) (⟨[], .nil,HZ rfl fun _ _ _ _ hk=>PySem.W.binds_K (K:=K) (fd:=PySem.W.fnOf "__init__" "Atom.__init__" (br eK) (aW eK) (ak eK) (.ref nO) qV qW qX qU nN qY) hk rfl AM rfl rfl rfl⟩)⟩
 have GO:bL K C "shown" "Atom.shown" mS ["self"]:=dq Ll Lm (ij fun _ _ _ _ _ _ _=>rfl)
 have GP:iY K Gr "Group.__init__" cX ["self","parts","count"] [1]:=⟨_,_,_,jA (st:=cX) Lp Lq Lr,⟨M1,Ln,Lo,M3⟩,HX (⟨[.int 1 AJ], .cons ⟨_,rfl⟩ (.nil),HY rfl fun _ _ _ hk=>PySem.W.binds_K (K:=K) (fd:=PySem.W.fnOf "__init__" "Group.__init__" (br cX) (aW cX) (ak cX) (.ref sI) xt xu xv xp sF xw) hk rfl Ge rfl rfl rfl⟩) (⟨[], .nil,HZ rfl fun _ _ _ _ hk=>PySem.W.binds_K (K:=K) (fd:=PySem.W.fnOf "__init__" "Group.__init__" (br cX) (aW cX) (ak cX) (.ref sI) xt xu xv xp sF xw) hk rfl Ge rfl rfl rfl⟩)⟩
 have GQ:bL K Gr "shown" "Group.shown" gw ["self"]:=dq Ls Lu (ij fun _ _ _ _ _ _ _=>rfl)
 have GR:iY K Pc "Piece.__init__" cY ["self","parts","count"] [1]:=⟨_,_,_,jA (st:=cY) Lx Ly Lz,⟨M8,Lv,Lw,M9⟩,HX (⟨[.int 1 AK], .cons ⟨_,rfl⟩ (.nil),HY rfl fun _ _ _ hk=>PySem.W.binds_K (K:=K) (fd:=PySem.W.fnOf "__init__" "Piece.__init__" (br cY) (aW cY) (ak cY) (.ref sJ) xx xy xA xq sG xB) hk rfl Gf rfl rfl rfl⟩) (⟨[], .nil,HZ rfl fun _ _ _ _ hk=>PySem.W.binds_K (K:=K) (fd:=PySem.W.fnOf "__init__" "Piece.__init__" (br cY) (aW cY) (ak cY) (.ref sJ) xx xy xA xq sG xB) hk rfl Gf rfl rfl rfl⟩)⟩
 have GS:bL K Pc "shown" "Piece.shown" d7 ["self"]:=dq LA LB (ij fun _ _ _ _ _ _ _=>rfl)
 have GU:Def K mg "refuse_too_long" "refuse_too_long" ik ["text"]:=b7 X G LC LD (ij fun _ _ _ _ _ _ _=>rfl)
 have GV:Def K mg "charge_shown" "charge_shown" dH ["charge"]:=b7 X G LF LG (ij fun _ _ _ _ _ _ _=>rfl)
 have GW:iY K Fo "Formula.__init__" cZ ["self","pieces","charge"] [0]:=⟨_,_,_,jA (st:=cZ) LJ LK LL,⟨M',LH,LI,Na⟩,HX (⟨[.int 0 AL], .cons ⟨_,rfl⟩ (.nil),HY rfl fun _ _ _ hk=>PySem.W.binds_K (K:=K) (fd:=PySem.W.fnOf "__init__" "Formula.__init__" (br cZ) (aW cZ) (ak cZ) (.ref sM) xC xD xE xr sH xF) hk rfl Gg rfl rfl rfl⟩) (⟨[], .nil,HZ rfl fun _ _ _ _ hk=>PySem.W.binds_K (K:=K) (fd:=PySem.W.fnOf "__init__" "Formula.__init__" (br cZ) (aW cZ) (ak cZ) (.ref sM) xC xD xE xr sH xF) hk rfl Gg rfl rfl rfl⟩)⟩
 have GX:bL K Fo "shown" "Formula.shown" il ["self"]:=dq LM LN (ij fun _ _ _ _ _ _ _=>rfl)
 have GY:iY K Rd "Reader.__init__" mT ["self","text"] []:=Eu Ng LO Nh LQ (rE fun _ _ _ _ _ _ _ _=>rfl)
 have GZ:bL K Rd "sign" "Reader.sign" rG ["self"]:=dq LR LS (ij fun _ _ _ _ _ _ _=>rfl)
 have G0:bL K Rd "take" "Reader.take" rH ["self","sign"]:=dq LU LV (rE fun _ _ _ _ _ _ _ _=>rfl)
 have G1:bL K Rd "take_all" "Reader.take_all" ip ["self","signs"]:=dq LW LX (rE fun _ _ _ _ _ _ _ _=>rfl)
 have G2:bL K Rd "take_end" "Reader.take_end" iq ["self"]:=dq LY LZ (ij fun _ _ _ _ _ _ _=>rfl)
 have G3:bL K Rd "read_whole" "Reader.read_whole" jE ["self"]:=dq L0 L1 (ij fun _ _ _ _ _ _ _=>rfl)
 have G4:bL K Rd "read_electron" "Reader.read_electron" fh ["self"]:=dq L3 L4 (ij fun _ _ _ _ _ _ _=>rfl)
 have C6:bL K Rd "read_parts" "Reader.read_parts" ir ["self","around"]:=dq Gh Gi (rE fun _ _ _ _ _ _ _ _=>rfl)
 have G5:bL K Rd "read_part" "Reader.read_part" ki ["self","around"]:=dq L5 L6 (rE fun _ _ _ _ _ _ _ _=>rfl)
 have G6:bL K Rd "read_group" "Reader.read_group" gy ["self","around"]:=dq L7 L8 (rE fun _ _ _ _ _ _ _ _=>rfl)
 have C7:bL K Rd "read_atom" "Reader.read_atom" mU ["self"]:=dq Gj Gk (ij fun _ _ _ _ _ _ _=>rfl)
 have G8:bL K Rd "read_count" "Reader.read_count" jF ["self"]:=dq L9 L' (ij fun _ _ _ _ _ _ _=>rfl)
 have G9:bL K Rd "read_number" "Reader.read_number" iu ["self","longest"]:=dq Ma Mb (rE fun _ _ _ _ _ _ _ _=>rfl)
 have C8:bL K Rd "read_charge" "Reader.read_charge" iv ["self"]:=dq Gm Gn (ij fun _ _ _ _ _ _ _=>rfl)
 have G':Def K mg "read_formula" "read_formula" gz ["text"]:=b7 X G Mc Md (ij fun _ _ _ _ _ _ _=>rfl)
 have sN:PySem.W.cj K NF HE zF:=⟨MR,Me,Gv,MN,MO,MP⟩
 have Hg:ql K mg "NoFormula" NF HE "NoFormula.__init__" yC ["self","place"]:=Ac sN (PySem.W.mg_of X G O2) MQ Mf (rE fun _ _ _ _ _ _ _ _=>rfl)
 have sO:PySem.W.cj K TL HE zG:=⟨MW,Mg,Gw,MS,MT,MU⟩
 have Hh:ql K mg "TooLong" TL HE "TooLong.__init__" mZ ["self","many"]:=Ac sO (PySem.W.mg_of X G O3) MV Mh (rE fun _ _ _ _ _ _ _ _=>rfl)
 have Hi:Def K mg "_law_cell_at" "_law_cell_at" jG ["_law_script","_law_k"]:=b7 X G Mi Mj (rE fun _ _ _ _ _ _ _ _=>rfl)
 have Hj:Def K mg "_law_mixed" "_law_mixed" mV ["_law_cell","_law_prime"]:=b7 X G Ml Mm (rE fun _ _ _ _ _ _ _ _=>rfl)
 have Hk:Def K mg "_law_whole" "_law_whole" mW ["_law_found"]:=b7 X G Mn Mo (ij fun _ _ _ _ _ _ _=>rfl)
 have Hl:Def K mg "_law_kind" "_law_kind" rJ ["_law_number"]:=b7 X G Mp Mq (ij fun _ _ _ _ _ _ _=>rfl)
 have Hm:Def K mg "_law_count" "_law_count" mX ["_law_number"]:=b7 X G Mr Ms (ij fun _ _ _ _ _ _ _=>rfl)
 have Hn:Def K mg "_law_figures" "_law_figures" iw ["_law_count_here"]:=b7 X G Mt Mu (ij fun _ _ _ _ _ _ _=>rfl)
 have Ho:Def K mg "_law_part" "_law_part" rK ["_law_number","_law_other"]:=b7 X G Mv Mw (rE fun _ _ _ _ _ _ _ _=>rfl)
 have Hq:Def K mg "_law_pieces" "_law_pieces" jH ["_law_cells"]:=b7 X G Mx My (ij fun _ _ _ _ _ _ _=>rfl)
 have AN:Def K mg "_law_shown" "_law_shown" dI ["_law_part_here"]:=b7 X G Mz MA (ij fun _ _ _ _ _ _ _=>rfl)
 have Hr:Def K mg "_law_charge" "_law_charge" jI ["_law_cell"]:=b7 X G MB MC (ij fun _ _ _ _ _ _ _=>rfl)
 have Hs:Def K mg "_law_text" "_law_text" oS ["_law_pieces_here","_law_charge_here"]:=b7 X G MD ME (rE fun _ _ _ _ _ _ _ _=>rfl)
 have Hu:Def K mg "_law_others" "_law_others" jJ ["_law_e"]:=b7 X G MF MG (ij fun _ _ _ _ _ _ _=>rfl)
 have Hw:Def K mg "_law_told" "_law_told" rL ["_law_text_here"]:=b7 X G MH MI (ij fun _ _ _ _ _ _ _=>rfl)
 have C9:Def K mg "_law_open" "_law_open" rM ["_law_text_here"]:=b7 X G Gp Gq (ij fun _ _ _ _ _ _ _=>rfl)
 have Dc:Def K mg "_law_due" "_law_due" yD ["_law_text_here","_law_at"]:=b7 X G Gs Gu (rE fun _ _ _ _ _ _ _ _=>rfl)
 have Ni:=Bj (st:=mY) MK ML MM
 refine⟨PySem.W.fnOf "law" "law" (br mY) (aW mY) (ak mY) .none AF AG AH AE xG AI,fun s v=> .of_eq rfl,fun base _ _=>?_⟩
 have TE:nv K mg HE NF TL:=⟨PySem.W.mg_of X G Rt,⟨RW,RX,RY⟩,PySem.W.mg_of X G O2,PySem.W.mg_of X G O3,RZ,R0⟩
 have TO:CF K mg HE NF TL X1 X2 X3 X4 X5 X6 X7 X8:=⟨TE,PySem.W.mg_none_of X G iN,PySem.W.mg_none_of X G nQ,⟨R4⟩,PySem.W.mg_of X G Ru,PySem.W.mg_of X G Rv,PySem.W.mg_of X G Rw,PySem.W.mg_of X G Rx,PySem.W.mg_of X G Ry,PySem.W.mg_of X G RA,PySem.W.mg_of X G RB,PySem.W.mg_of X G RC,(fun h=>by rcases h with rfl|rfl;exact bK w1 y1 R9 zL;exact bK w1 y1 R' zM),(fun h=>by rcases h with rfl|rfl;exact bK w2 y2 Sa zL;exact bK w2 y2 Sb zM),(fun h=>by rcases h with rfl|rfl;exact bK w3 y3 Sd zL;exact bK w3 y3 Se zM),(fun h=>by rcases h with rfl|rfl;exact bK w4 y4 Sf zL;exact bK w4 y4 Sg zM),(fun h=>by rcases h with rfl|rfl;exact bK w5 y5 Sh zL;exact bK w5 y5 Si zM),(fun h=>by rcases h with rfl|rfl;exact bK w6 y6 Sj zL;exact bK w6 y6 Sk zM),(fun h=>by rcases h with rfl|rfl;exact bK w7 y7 Sl zL;exact bK w7 y7 Sm zM),(fun h=>by rcases h with rfl|rfl;exact bK w8 y8 Sn zL;exact bK w8 y8 So zM),(fun h=>by rcases h with rfl|rfl;exact rD sN;exact rD sO),bK wT yT R7 zL,bK wN yN R8 zM,oQ _,oQ _,(fun h=>by rcases h with rfl|rfl;exact⟨R5,t2,t3⟩;exact⟨R6,t2,t3⟩),(fun h=>by rcases h with rfl|rfl;exact R1;exact R3),RT,RU⟩
 have TD:E1 K mg Fo HE NF TL X1 X2 X3 X4 X5 X6 X7 X8:=⟨TO,⟨Gx,Gy,Gz,GA⟩⟩
 have TT:m9 K mg C Rd Gr uK uN uB uE uM:=T.tom9
 have TR:kj K mg C Rd uK uN:=TT.tokj
 have TA:fX K mg C:=TR.tofX
 have Hy:=vJ (P:=l.prog) (w:=w) (base:=base) GI
 have Nj:=vK (P:=l.prog) (w:=w) (base:=base) GJ
 have Nk:=tJ (P:=l.prog) (w:=w) (base:=base) GK
 have zN:=kJ (P:=l.prog) (w:=w) (base:=base) GL TA
 have Nl:=y9 (P:=l.prog) (w:=w) (base:=base) C5 TA
 have Nn:=wd GO TA zN
 have Np:=wt (P:=l.prog) (w:=w) (base:=base) GP T
 have Nq:=wx (P:=l.prog) (w:=w) (base:=base) GR T
 have HA:=wz (P:=l.prog) (w:=w) (base:=base) GW T
 have Nr:=vL (P:=l.prog) (w:=w) (base:=base) GY TR
 have ur:=yO (P:=l.prog) (w:=w) (base:=base) GZ TR
 have zO:=BW (P:=l.prog) (w:=w) (base:=base) Hg TE
 have Nt:=vT (P:=l.prog) (w:=w) (base:=base) Hh TE
 have zP:=vU G0 TR TE ur zO
 have Nu:=pe G1 TR zP
 have Nv:=ph G2 TR TE zO
 have Nw:=qt G9 TR TE ur Nk zO
 have zQ:=qu G8 TR Nw
 have HB:=tP C7 TR TE ur Hy Nj zQ Nl zO
 have HC:=lT G6 G5 C6 TT ur Hy HB zP zQ Np 4
 have HD:=pw C8 T.toEy ur zP zQ
 have Nx:=kZ G4 T Nu HA
 have Ny:=qw G3 T ur zP zQ HC HD Nx Nq HA
 have Nz:=px GU T TE Nt
 have NA:=nz G' T Nz Nr Ny Nv
 have NB:=l6 GN GQ TT Nn zN 4
 have NC:=kI 4 GS T NB zN
 have ND:=jg GV T zN
 have NG:=qG 4 GX T NC ND
 have NH:=qI (P:=l.prog) (w:=w) (base:=base) Hi TA
 have NI:=wg (P:=l.prog) (w:=w) (base:=base) Hj TA
 have NJ:=wj (P:=l.prog) (w:=w) (base:=base) Hk TA
 have NK:=wm (P:=l.prog) (w:=w) (base:=base) Hl TA
 have HF:=wq (P:=l.prog) (w:=w) (base:=base) Hm
 have Dd:=qH (P:=l.prog) (w:=w) (base:=base) Hn TA
 have NL:=zj Ho NK HF
 have NM:=uf Hq TA NI HF NL
 have NN:=ue 4 AN TA (ma AN TA Dd 5) Dd
 have NO:=wD 4 Hs T NN Dd
 have NP:=uh (P:=l.prog) (w:=w) (base:=base) Hr
 have NQ:=uo (P:=l.prog) (w:=w) (base:=base) Hu TO sN sO
 have NR:=zt Hw TD sN sO NA NG NQ NJ
 have HG:=zw (P:=l.prog) (w:=w) (base:=base) C9 TA
 have HH:=CG Dc TA HG
 exact CJ Ni TA NH NM NP NO HH NR
theorem walk{l:PySem.W.OpenLaw}{q:Program}{loose:List Str}{XP:(Str→Option Value)→Heap→Prop}{YP:World→Heap→Prop}{d:DefRec}{K:Params→PySem.W.Frag}(hn:l.most=some 63)(D7:d.params.defaults=[])
  (hY:∀(w:World) (h:Heap),YP w h→(K w.params).In h)
  (F:∀(w:World) (mg:Str→Option Value) (fa:Addr) (h:Heap),(K w.params).In h→h.Ns mainGlobals mg→mg d.name=some (.ref fa)→
   ∃fd:FuncData,(∀(s:Shared) (u:Value),BindsTo s fd ⟨[u],[]⟩ [("_law_script",u)])∧∀base:Heap,(K w.params).In base→base.Ns mainGlobals mg→dn l.prog w (K w.params) mg base mF 23 fa fd ["_law_script"] (sC (K w.params))):
  PySem.W.WalkO q loose XP YP l.row.toRowW d [] (fun f vs=>PySem.call f vs):=
 L2.yf (n:=63) (k:=23) (x:="_law_script") (CX:=fun _=>mF) (sp:=fun w=>sC (K w.params)) hn (by decide) D7 ⟨rfl,by decide,by decide⟩ hY F (fun _ _ a ns hl _ hS=>⟨a,ns,rfl,hS,hl,fun _=>rfl⟩) fun _ _ _ _ _ z=>z
end JY
open PySem PySem.W PyProof.Rows
namespace PySem.W.Fast
def tw2252908118032487448:=True
def tw12833550852530275229:=True
def tw4801844624763162438:=True
def tw4372966980167869175:=True
def tw16515236541772481706:=True
def tw5425798007124072372:=True
def tw10956980946554168515:=True
def tw13368205583799920583:=True
def tw11186102512215681675:=True
def tw11742499605918396436:=True
def tw15949615999958003189:=True
def tw13797128427762558951:=True
def tw15271426010784045500:=True
def tw4461010333367318805:=True
def tw6343928481021844603:=True
def tw8896425924262354918:=True
def tw7138255804776481298:=True
def tw5682793565734235845:=True
def tw5659620236709953488:=True
def tw15789734006918355063:=True
def tw11577991044337583456:=True
def tw11566696788649887473:=True
def tw10041200638398210011:=True
def tw3444012778239036498:=True
def tw18441586850363966698:=True
def tw5675097853553713653:=True
def tw1036838448476196733:=True
def tw3923028857080242267:=True
def tw16028678854389536639:=True
def tw6999978485111196246:=True
def tw18312780383272363076:=True
def tw6876117887678278512:=True
def tw7084250394157310606:=True
def tw1589109765335792711:=True
def tw4618259978013136053:=True
def tw14712002601532656453:=True
def tw16579385384288249178:=True
def tw1257357825284092743:=True
def tw10765468899399818454:=True
def tw7067779789374852426:=True
def tw16606333216889567447:=True
def tw8895816299627871281:=True
def tw17573070321266046233:=True
def tw2203196244218653281:=True
def tw12097882473085503014:=True
def tw12638166487167858583:=True
def tw4446045671264381050:=True
def tw7580175969456678960:=True
def tw14921985235798332861:=True
def tw4020089526222217858:=True
def tw8803557463536175131:=True
def tw5869260907265038174:=True
def tw14397231764378260762:=True
def tw18224230116381725365:=True
def tw8313888689052686612:=True
def tw9302088649884942837:=True
def tw12864707973873560272:=True
def tw12527506056144722274:=True
def tw4659184822033115492:=True
def tw2820461866471817244:=True
def tw2773310910648947634:=True
def tw2522049405410179300:=True
def tw18207240574650766285:=True
def tw6649703147882398437:=True
def tw12205638747606336252:=True
def tw3518874615909400915:=True
def tw3872885253765711276:=True
def tw13552442287104766074:=True
def tw6212350930978455889:=True
def tw5419852171852964177:=True
def tw1514006261220797875:=True
def tw16185136553016798206:=True
def tw11645295502491798368:=True
def tw14501201212250559355:=True
def tw15950674092880790956:=True
def tw10759705956260635825:=True
def tw11833112785353649117:=True
def tw1913739443725440998:=True
def tw15693711029495302162:=True
def tw6604565190865639075:=True
def tw4814136702466517737:=True
def tw13238654804210431972:=True
def tw366073725572699129:=True
def tw7526855104864453813:=True
def tw11405748654919931915:=True
def tw823380543142944044:=True
def tw13664746409526660872:=True
def tw2977550502652713062:=True
def tw16375190803546782105:=True
def tw15927264700566481296:=True
def tw5921462543991388022:=True
def tw816774509952619726:=True
def tw1657870846834852337:=True
def tw14380708943145773805:=True
def tw1840466168837380646:=True
def tw18372545887092235064:=True
def tw3587551497127447081:=True
def tw12451391210505831263:=True
def tw9079923149840080274:=True
def tw15381349460100437983:=True
def tw8505802371025352590:=True
def tw8051618443207562097:=True
def tw8713124037322340827:=True
def tw17787380322740714691:=True
def tw16079393933845064446:=True
def tw12281842948037018576:=True
def tw12009853322908916177:=True
def tw2453123103294056642:=True
def tw16660240345008586595:=True
def tw4919786625086111065:=True
def tw18030555238633501353:=True
def tw4283355423215499382:=True
def tw3283081331592560935:=True
def tw8714833487754688110:=True
def tw751777429036334833:=True
def tw4911863234943942482:=True
def tw12932317159222709137:=True
def tw15753278486018252591:=True
def tw15640849054124279076:=True
def tw13710430732385102164:=True
def tw16643024387458019354:=True
def tw17515260498371583367:=True
def tw10356591902523641308:=True
def tw7985093637974174716:=True
def tw3371887626743384919:=True
def tw3209687296247785648:=True
def tw3974523696866725474:=True
def tw18357896809535795510:=True
def tw16123423097834011123:=True
def tw13449981594358421975:=True
def tw2613056732865745530:=True
def tw16061669176327403656:=True
def tw6397953613819703570:=True
def tw17775398090390021722:=True
def tw2569481428848047841:=True
def tw12477278543736267524:=True
def tw7998965266676294120:=True
def tw8518779200128100895:=True
def tw13901973038875383940:=True
def tw3126547411290101026:=True
def tw8035250782437751388:=True
def tw10023601176521518555:=True
def tw13085141840632374096:=True
def tw6358135762494729270:=True
def tw9908998957236683149:=True
def tw582401721680606139:=True
def tw9071833308389421010:=True
def tw563101354427328953:=True
def tw16366612455366442673:=True
def tw15827783608531819250:=True
def tw1412364516737851132:=True
def tw17793125273571508059:=True
def tw7149891397444996214:=True
def tw10594226986515309201:=True
def tw10001460197372817035:=True
def tw12777963030775158718:=True
def tw5717978263575676090:=True
def tw14711420623379757005:=True
def tw8560269911445358476:=True
def tw4200339890684634445:=True
def tw17002824159793708496:=True
def tw10835521219180175573:=True
def tw10321325010318953616:=True
def tw270651877036246088:=True
def tw7486686946075086555:=True
def tw2350207834075491426:=True
def tw3100232099387505664:=True
def tw11632193140916787993:=True
def tw1832282413654676149:=True
def tw13430994958189673949:=True
def tw5668950849497940589:=True
def tw571351655167993779:=True
def tw228734728515532654:=True
def tw7772037039521778287:=True
def tw5919649445947892148:=True
def tw4068601171267251367:=True
def tw6330784419387518458:=True
def tw6386406881722281617:=True
def tw14916836013117211867:=True
def tw18132982549488241411:=True
def tw9773145466264918898:=True
def tw17673675326266796520:=True
def tw4658212873480238863:=True
def tw900704400458170883:=True
def tw16533384938265188371:=True
def tw5930899082718729140:=True
def tw2610950884380735186:=True
def tw10109589127319597254:=True
def tw10701796222462433489:=True
def tw9289613205792247813:=True
def tw11633720163650085027:=True
def tw15255311282167506861:=True
def tw4952252002101275803:=True
def tw3527229021175454021:=True
def tw4528539588139133806:=True
def tw157090000266068746:=True
def tw14175717143979075287:=True
def tw12778194669233540060:=True
def tw4204802570430379666:=True
def tw9613699589922811551:=True
def tw9329629469540745630:=True
def tw14743742222670764501:=True
def tw15551454675012083737:=True
def tw18139949698827737315:=True
def tw8861589005429082736:=True
def tw7320228147589191797:=True
def tw8126277156486452086:=True
def tw17870694595229700836:=True
def tw17531257998547031873:=True
def tw5745434541470200446:=True
def tw3045083154556491829:=True
def tw7197492608538161152:=True
def tw14768102812581470215:=True
def tw12664801527273040550:=True
def tw5556619682008110488:=True
def tw14962645549705896019:=True
def tw15836215832581428044:=True
def tw8202228707836582456:=True
def tw12871599426352635045:=True
def tw18273737290759997637:=True
def tw16076114701372664711:=True
def tw18356549844180156971:=True
def tw7761186723090419613:=True
def tw40698293893048877:=True
def tw2635304095102464903:=True
def tw13571728670348619126:=True
def tw5604932018928129627:=True
def tw10480034932557015720:=True
def tw11470697205400442942:=True
def tw18255060088485215264:=True
def tw13962796780209423241:=True
def tw6615252321916142412:=True
def tw7941544861969647688:=True
def tw14216680800758918795:=True
def tw16995428608702181928:=True
def tw804291351731941775:=True
def tw18407317337068440102:=True
def tw14735058764944354700:=True
def tw17160764691547488449:=True
def tw9990864617302164328:=True
def tw8078289957396736984:=True
def tw11171919481471883313:=True
def tw8709778577394386743:=True
def tw8759480097931895771:=True
def tw5547242029593051574:=True
def tw14997549852426514442:=True
def tw7604762226413314580:=True
def tw11555606258018836032:=True
def tw3293606744868901715:=True
def tw1145658953915135911:=True
def tw12303991571474056309:=True
def tw15408103039203370675:=True
def tw18260371384968382637:=True
def tw1686003548858872868:=True
def tw6080623105796529381:=True
def tw10460346934933129236:=True
def tw10553204882168531683:=True
def tw4699721413476590004:=True
def tw1172837143372974026:=True
def tw6831459423346035691:=True
def tw5117777340356367079:=True
def tw90880872245599072:=True
def tw9578661989307610642:=True
def tw1926867243277542354:=True
def tw11233577808013657330:=True
def tw17994961981168990537:=True
def tw18365944384617477442:=True
def tw1599747903426029310:=True
def tw2081451117975606759:=True
def tw2531862930852423747:=True
def tw6509249628569804414:=True
def tw16470263998714941581:=True
def tw15718403864108221691:=True
def tw10534344279958709912:=True
def tw6943925968053311831:=True
def tw13510429979672292550:=True
def tw6953622227151751789:=True
def tw2888174235510304018:=True
def tw13649377672023597899:=True
def tw6857964445995580722:=True
def tw347979133929392760:=True
def tw12662702639743567291:=True
def tw14932256234331015869:=True
def tw3548050147780666038:=True
def tw8844985721663638177:=True
def tw5579834852230018851:=True
def tw17083916538226744155:=True
def tw1010996469185977430:=True
def tw1859686014943621797:=True
def tw9855291525425951046:=True
def tw18095020711916278231:=True
def tw11973642626474799538:=True
def tw978009281668734756:=True
def tw1704942077708014356:=True
def tw1690105894141343800:=True
def tw15245331305922300761:=True
def tw7966722155112067876:=True
def tw1008889103318675586:=True
def tw3651703991814732095:=True
def tw10661471084019634351:=True
def tw6707513958353990337:=True
def tw9195123750165750190:=True
def tw13404505640524204048:=True
def tw14109695195860721126:=True
def tw15131725491656680836:=True
def tw18058547613416898211:=True
def tw16104581205382248016:=True
def tw3327178503569833942:=True
def tw2743447481715411846:=True
def tw10990567315941290584:=True
def tw9475191714284175491:=True
def tw14442480961543502565:=True
def tw5494483843360740884:=True
def tw8148179767362644854:=True
def tw16952555694260163170:=True
def tw1924914771183231111:=True
def tw8177506608484798086:=True
def tw16791706758264813433:=True
def tw5917228771682229207:=True
def tw11381116075465303570:=True
def tw14213096006255220971:=True
def tw1492144680644933806:=True
def tw7202952510961881024:=True
def tw7649897237905387663:=True
def tw15100860405777890089:=True
def tw1458689457496853498:=True
def tw4748504793775496390:=True
def tw4688187559409764059:=True
def tw15430069307098223094:=True
def tw15594622230506353955:=True
def tw2620954405776073093:=True
def tw3325130054220765229:=True
def tw14673920258443890524:=True
def tw13744451497670677249:=True
def tw4591382523036206091:=True
def tw943122599040287717:=True
def tw10479506933807306000:=True
def tw17423399457149598540:=True
def tw2383924460183157071:=True
def tw8840670737974285818:=True
def tw7455347251894094697:=True
def tw8630399246200723399:=True
def tw2174059072996534553:=True
def tw12727355248461208372:=True
def tw7052247110032095329:=True
def tw6822913252264944893:=True
def tw3705331935925253433:=True
def tw7380302142680598203:=True
def tw15546270139187926340:=True
def tw5799369683241924774:=True
def tw7506593618249389629:=True
def tw1896306997139126585:=True
def tw7551609648534926892:=True
def tw4525573962668457965:=True
def tw44294896614819936:=True
def tw12253790117352345874:=True
def tw16376407760651659516:=True
def tw5946107806038288246:=True
def tw16904714504148353784:=True
def tw15359804832469410497:=True
def tw4303886258019163451:=True
def tw14815015670288389877:=True
def tw9421003279238565947:=True
def tw3641900964970878655:=True
def tw6127892964353748371:=True
def tw4368010885338077670:=True
def tw876997211966693449:=True
def tw14678952931864748208:=True
def tw6596503936389282099:=True
def tw11992997551347350727:=True
def tw4234835399348966087:=True
def tw10002585157489872625:=True
def tw6234908659461320695:=True
def tw1579897027424977335:=True
def tw16138652556804801794:=True
def tw7546643800141683577:=True
end PySem.W.Fast
set_option maxRecDepth 100000 in
set_option maxHeartbeats 0 in
theorem PySem.Challenge.cw_balancehall_k07_no_formula_holds : PySem.Challenge.rw_balancehall_k07_no_formula.Holds := by
 w_on;o_law;k_head;(case hw=>w_witness2)
 k_fill
 refine JY.walk (l:=PySem.Challenge.rw_balancehall_k07_no_formula) rfl rfl (fun w h Y=>PySem.W.kIn_of Y) ?F
 case F=>
  intro w mg fa h KX G D8
  apply JY.all_mk KX G D8
  all_goals first|k_is|exact⟨⟨_,⟨⟨_,_,_,_,_,_,_,_,_,rfl,by k_is,by k_is⟩,by k_is⟩⟩,by k_is⟩ |exact⟨_,_,_,_,_,_,_,_,_,_,_,_,_,_,_,_,_,by k_is,by decide+kernel⟩ |exact⟨_,_,_,_,_,_,_,_,_,_,_,_,_,_,by k_is⟩
