import PyProof.Rows.All
import Wide.All
import OpenK.AllK
import Wide.FinOn
import Lean
import PyProof.EqAt
import PyProof.EqKinds
import PyProof.TupleCall
import PySem.Challenge.RW_balancehall_k56_whole_orders_meet
set_option Elab.async false
set_option linter.all false
set_option maxRecDepth 100000
namespace L2
open PySem PySem.Spec PyProof.Rows
abbrev Key:=Sum Int Str
def qh:Key→Value→Bool
 | .inl k,v=>Value.isInt k v
 | .inr x,v=>Value.isStrOf x v
def ZE(w:World):Key→Int
 | .inl k=>hashInt k
 | .inr x=>hashStr w x
theorem cm:∀{k:Key} {v:Value},qh k v=true→(∃i t,k=Sum.inl i∧v=Value.int i t)∨(∃x t,k=Sum.inr x∧v=Value.str x t)
 | .inl i,v,h=>by
   obtain⟨t,e⟩:=Value.isInt_shape (k:=i) (v:=v) h
   exact .inl ⟨i,t,rfl,e⟩
 | .inr x,v,h=>by
   obtain⟨t,e⟩:=Value.isStrOf_shape (x:=x) (v:=v) h
   exact .inr ⟨x,t,rfl,e⟩
theorem CW(i:Int)(t:Tok):qh (.inl i) (.int i t)=true:=by simp [qh,Value.isInt]
theorem CY(x:Str)(t:Tok):qh (.inr x) (.str x t)=true:=by simp [qh,Value.isStrOf]
theorem NA(a b:Int):decide ((Sum.inl a:Key)=Sum.inl b)=(a==b):=by
 by_cases e:a=b
 ·subst e;simp
 ·have h:¬(Sum.inl a:Key)=Sum.inl b:=fun q=>e (Sum.inl.inj q)
  rw[decide_eq_false h]
  exact(beq_eq_false_iff_ne.mpr e).symm
theorem NB(a b:Str):decide ((Sum.inr a:Key)=Sum.inr b)=decide (a=b):=by
 by_cases e:a=b
 ·subst e;simp
 ·have h:¬(Sum.inr a:Key)=Sum.inr b:=fun q=>e (Sum.inr.inj q)
  rw[decide_eq_false h,decide_eq_false e]
theorem NC(a:Int)(b:Str):decide ((Sum.inl a:Key)=Sum.inr b)=false:=decide_eq_false (fun q=>nomatch q)
theorem ND(a:Str)(b:Int):decide ((Sum.inr a:Key)=Sum.inl b)=false:=decide_eq_false (fun q=>nomatch q)
def bD(prog:Program)(w:World):PySem.KeyKind prog w Key where
 is:=qh
 hash:=ZE w
 inj:=fun v a b ha hb=>by
  rcases cm ha with ⟨i,t,rfl,rfl⟩ | ⟨x,t,rfl,rfl⟩
  ·rcases cm hb with ⟨j,u,rfl,e⟩ | ⟨y,u,rfl,e⟩
   ·injection e with e1 _;rw[e1]
   ·exact nomatch e
  ·rcases cm hb with ⟨j,u,rfl,e⟩ | ⟨y,u,rfl,e⟩
   ·exact nomatch e
   ·injection e with e1 _;rw[e1]
 byValue:=fun k v h=>by
  rcases cm h with ⟨i,t,rfl,rfl⟩ | ⟨x,t,rfl,rfl⟩<;>rfl
 pyHash:=fun hv h=>by
  rcases cm hv with ⟨i,t,rfl,rfl⟩ | ⟨x,t,rfl,rfl⟩
  ·exact wpAny_pyHash_int h
  ·exact wpAny_pyHash_str h
 eqBool:=fun hu hv h=>by
  rcases cm hu with ⟨i,t,rfl,rfl⟩ | ⟨x,t,rfl,rfl⟩
  ·rcases cm hv with ⟨j,u,rfl,rfl⟩ | ⟨y,u,rfl,rfl⟩
   ·rw[NA] at h;exact wpAny_eqBool_int h
   ·rw[NC] at h;exact SeqAt.EqAt.int_str i t y u _ _ _ _ h
  ·rcases cm hv with ⟨j,u,rfl,rfl⟩ | ⟨y,u,rfl,rfl⟩
   ·rw[ND] at h;exact SeqAt.EqAt.str_int x t j u _ _ _ _ h
   ·rw[NB] at h;exact wpAny_eqBool_str h
 «strs» :=fun k x t v h=>by
  rcases cm h with ⟨i,u,rfl,e⟩ | ⟨y,u,rfl,e⟩
  ·exact nomatch e
  ·injection e with e1 _
   subst e1
   cases v<;>rfl
theorem qi(prog:Program)(w:World)(k:Key)(v:Value):(bD prog w).is k v=qh k v:=rfl
theorem xJ(prog:Program)(w:World)(i:Int)(t:Tok):(bD prog w).is (.inl i) (.int i t)=true:=CW i t
theorem xK(prog:Program)(w:World)(x:Str)(t:Tok):(bD prog w).is (.inr x) (.str x t)=true:=CY x t
end L2
namespace L2
open PySem PySem.Spec PyProof.Rows
inductive V where
 |cS|bl (b:Bool) |int (i:Int) |str (x:Str) |zA (b:Array UInt8) |Ma (b:UInt64) |ref (a:Addr) |ty (n:String)
 deriving DecidableEq
def RelV:V→Value→Prop
 | .cS,u=>u=Value.none
 | .bl b,u=>u=Value.bool b
 | .int i,u=>∃t,u=Value.int i t
 | .str x,u=>∃t,u=Value.str x t
 | .zA b,u=>∃t,u=Value.bytes b t
 | .Ma b,u=>∃t,u=Value.float b t
 | .ref a,u=>u=Value.ref a
 | .ty n,u=>u=Value.type n
abbrev Vals:List V→List Value→Prop:=Paired RelV
theorem Vals.length{xs:List V}{us:List Value}(r:Vals xs us):xs.length=us.length:=Paired.length r
theorem Vals.get:∀{xs:List V} {us:List Value} {i:Nat} {x:V},Vals xs us→xs[i]? =some x→∃u,us[i]? =some u∧RelV x u
 |_,_,_,_, .nil,e=>by simp at e
 |_,_,0,_, .cons r _,e=>by simp at e;subst e;exact⟨_,rfl,r⟩
 |_,_,i+1,x, .cons _ t,e=>by
  obtain⟨u,h1,h2⟩:=Vals.get (i:=i) (x:=x) t (by simpa using e)
  exact⟨u,by simpa using h1,h2⟩
theorem Vals.set{x:V}{u:Value}(r:RelV x u):∀{xs:List V} {us:List Value} (i:Nat),Vals xs us→Vals (xs.set i x) (us.set i u)
 |_,_,_, .nil=> .nil
 |_,_,0, .cons _ t=> .cons r t
 |_,_,i+1, .cons q t=> .cons q (Vals.set r i t)
theorem Vals.append:∀{xs ys:List V} {us ws:List Value},Vals xs us→Vals ys ws→Vals (xs++ys) (us++ws)
 |_,_,_,_, .nil,s=>s
 |_,_,_,_, .cons r t,s=> .cons r (Vals.append t s)
theorem Vals.take:∀{xs:List V} {us:List Value} (n:Nat),Vals xs us→Vals (xs.take n) (us.take n)
 |_,_,0,_=> .nil
 |_,_,_+1, .nil=> .nil
 |_,_,n+1, .cons r t=> .cons r (Vals.take n t)
theorem Vals.drop:∀{xs:List V} {us:List Value} (n:Nat),Vals xs us→Vals (xs.drop n) (us.drop n)
 |_,_,0,r=>r
 |_,_,_+1, .nil=> .nil
 |_,_,n+1, .cons _ t=>Vals.drop n t
def iN:Option V→Option Value→Prop
 |some v,some u=>RelV v u
 |none,none=>True
 |_,_=>False
def KV{κ:Type}:List (κ×V)→List (κ×Value)→Prop:=Paired fun (p:κ×V) (q:κ×Value)=>p.1=q.1∧RelV p.2 q.2
def kV:Key→V
 | .inl i=> .int i
 | .inr x=> .str x
inductive HO where
 |lst (xs:List V)
 |tup (xs:List V)
 |dK (kvs:List (Key×V)) |dT (kvs:List (List Key×V))
 |set (S:Int→Bool) (n:Nat)
 |ins (C dx:Addr) (fs:List (Str×V))
 |own (x:Addr)
 |xd (fs:List (Str×V))
 |met (f x:Addr)
 |ZF (lo hi:Int)
 |d8 (o:Obj) (u:HO)
 |Mb (ps:Array Value)
 |ext (φ:Heap→Prop)
abbrev Hp:=Addr→Option HO
def upd(H:Hp)(a:Addr)(o:HO):Hp:=fun b=>if b=a then some o else H b
theorem aa{H:Hp}{a:Addr}{o:HO}:upd H a o a=some o:=by unfold upd;rw[if_pos rfl]
theorem ah{H:Hp}{a b:Addr}{o:HO}(h:b≠a):upd H a o b=H b:=by unfold upd;rw[if_neg h]
theorem jc{H:Hp}{a:Addr}{o u:HO}:upd (upd H a o) a u=upd H a u:=by
 funext b;unfold upd;split<;>rfl
theorem cG{H:Hp}{a b:Addr}{o u:HO}(h:H a=some o)(h':H b=some u)(d:o≠u):a≠b:=by
 intro e;subst e;rw[h] at h';exact d (Option.some.inj h')
theorem ag{H:Hp}{a b:Addr}{o:HO}(h:H a=some o)(h':H b=none):a≠b:=by
 intro e;subst e;rw[h] at h';cases h'
section
variable (P:Program)(w:World)
def cn(H:Hp)(h:Heap)(a:Addr):HO→Prop
 | .lst xs=>xs.length≤sizeLine∧∃(its:List Value) (n:Nat),Vals xs its∧h.get? a=some { cls:= .type "list",data:= .seq its.toArray n }
 | .tup xs=>xs.length≤sizeLine∧∃its:List Value,Vals xs its∧IsTup h a its.toArray
 | .dK kvs=>kvs.length≤sizeLine∧(a==sysModules)=false∧∃vs,KV kvs vs∧h.DictOf (bD P w) a vs
 | .dT kvs=>kvs.length≤sizeLine∧(a==sysModules)=false∧∃xs:List (List Key×Addr×Value),
   Paired (fun (p:List Key×V) (q:List Key×Addr×Value)=>p.1=q.1∧H q.2.1=some (.tup (p.1.map kV))∧RelV p.2 q.2.2) kvs xs∧
   ∃o es ep,h.get? a=some o∧o.ExactDict∧o.data= .dict es ep∧es.toList=xs.map (entryOfKey (tupleKind (bD P w)))∧(xs.map (·.1)).Nodup
 | .set S n=>h.SetOf (intKind P w) a S n
 | .ins C dx fs=>H dx=some (.own a)∧fs.length≤1000∧dx≠a∧h.get? a=some (PySem.W.instObj C dx)∧
   ∃mA,h.Ns1 dx mA∧(∀f,iN (fs.lookup f) (mA f))∧PySem.Within mA (fs.map (·.1))
 | .own _=>∃o,h.get? a=some o
 | .xd fs=>∃mA,h.Ns1 a mA∧∀f,iN (fs.lookup f) (mA f)
 | .ZF lo hi=>∃t u v,h.get? a=some { cls:= .type "range",data:= .fields #[.int lo t, .int hi u, .int 1 v] }
 | .d8 o u=>h.get? a=some o∧cn H h a u
 | .Mb ps=>h.get? a=some { cls:= .none,data:= .fields ps }
 | .met f x=>h.get? a=some (PySem.W.methodObj (.ref f) (.ref x))
 | .ext φ=>φ h∧(∃o,h.get? a=some o)∧∀h1 h2:Heap,φ h1→(∀o,h1.get? a=some o→h2.get? a=some o)→φ h2
def jR(H:Hp)(h:Heap):Prop:=∀a o,H a=some o→cn P w H h a o
end
section
variable {P:Program}{w:World}{H H':Hp}{h h':Heap}{a:Addr}{o:HO}
theorem cn.lt(x:cn P w H h a o):a<h.objs.size:=by
 cases o with
 |lst xs=>obtain⟨_,_,_,_,e⟩:=x;exact Heap.lt_size e
 |tup xs=>obtain⟨_,_,_,p⟩:=x;exact p.lt
 |dK kvs=>obtain⟨_,_,_,_,o,_,_,e,_⟩:=x;exact Heap.lt_size e
 |dT kvs=>obtain⟨_,_,_,_,o,_,_,e,_⟩:=x;exact Heap.lt_size e
 |set S n=>obtain⟨o,_,_,_,e,_⟩:=x;exact Heap.lt_size e
 |ins C dx fs=>obtain⟨_,_,_,e,_⟩:=x;exact Heap.lt_size e
 |own y=>obtain⟨_,e⟩:=x;exact Heap.lt_size e
 |xd fs=>obtain⟨_,⟨_,_,_,e,_⟩,_⟩:=x;exact Heap.lt_size e
 |ZF lo hi=>obtain⟨_,_,_,e⟩:=x;exact Heap.lt_size e
 |d8 ob u=>obtain⟨e,_⟩:=x;exact Heap.lt_size e
 |Mb ps=>exact Heap.lt_size (show h.get? a=some _ from x)
 |met f y=>exact Heap.lt_size (show h.get? a=some _ from x)
 |ext φ=>obtain⟨_,⟨_,e⟩,_⟩:=x;exact Heap.lt_size e
theorem Paired.NG{α β:Type}{F G:α→β→Prop}:∀{l₁:List α} {l₂:List β},Paired F l₁ l₂→(∀a b,F a b→G a b)→Paired G l₁ l₂
 |_,_, .nil,_=> .nil
 |_,_, .cons r t,f=> .cons (f _ _ r) (Paired.NG t f)
theorem cn.sI(x:cn P w H h a o)(k:∀b u,(b=a∨H b=some (.own a))→h.get? b=some u→h'.get? b=some u)
  (ho:∀b,H b=some (.own a)→H' b=some (.own a)) (ht:∀b xs,H b=some (.tup xs)→H' b=some (.tup xs)):cn P w H' h' a o:=by
 induction o with
 |lst xs=>obtain⟨z,its,n,r,e⟩:=x;exact⟨z,its,n,r,k _ _ (.inl rfl) e⟩
 |tup xs=>obtain⟨z,its,r,ob,e,c⟩:=x;exact⟨z,its,r,ob,k _ _ (.inl rfl) e,c⟩
 |dK kvs=>obtain⟨z,y,vs,r,ob,es,ep,e,c⟩:=x;exact⟨z,y,vs,r,ob,es,ep,k _ _ (.inl rfl) e,c⟩
 |dT kvs=>
  obtain⟨z,y,xs,r,ob,es,ep,e,c⟩:=x
  exact⟨z,y,xs,Paired.NG r fun p q z=>⟨z.1,ht _ _ z.2.1,z.2.2⟩,ob,es,ep,k _ _ (.inl rfl) e,c⟩
 |set S n=>obtain⟨ob,es,ep,t,e,c⟩:=x;exact⟨ob,es,ep,t,k _ _ (.inl rfl) e,c⟩
 |ins C dx fs=>
  obtain⟨d,z,ne,e,mA,⟨od,es,ep,e2,c⟩,r⟩:=x
  exact⟨ho _ d,z,ne,k _ _ (.inl rfl) e,mA,⟨od,es,ep,k _ _ (.inr d) e2,c⟩,r⟩
 |own y=>obtain⟨ob,e⟩:=x;exact⟨ob,k _ _ (.inl rfl) e⟩
 |xd fs=>obtain⟨mA,⟨od,es,ep,e,c⟩,r⟩:=x;exact⟨mA,⟨od,es,ep,k _ _ (.inl rfl) e,c⟩,r⟩
 |ZF lo hi=>obtain⟨t,u,v,e⟩:=x;exact⟨t,u,v,k _ _ (.inl rfl) e⟩
 |d8 ob u ih=>obtain⟨e,q⟩:=x;exact⟨k _ _ (.inl rfl) e,ih q⟩
 |Mb ps=>
  have e:h.get? a=some { cls:= .none,data:= .fields ps }:=x
  show h'.get? a=some { cls:= .none,data:= .fields ps }
  exact k a _ (.inl rfl) e
 |met f y=>
  have e:h.get? a=some (PySem.W.methodObj (.ref f) (.ref y)):=x
  show h'.get? a=some (PySem.W.methodObj (.ref f) (.ref y))
  exact k a _ (.inl rfl) e
 |ext φ=>obtain⟨p,⟨o,e⟩,st⟩:=x;exact⟨st _ _ p fun o q=>k _ _ (.inl rfl) q,⟨o,k _ _ (.inl rfl) e⟩,st⟩
theorem jR.lt(x:jR P w H h)(e:H a=some o):a<h.objs.size:=(x a o e).lt
theorem jR.fresh(x:jR P w H h)(e:h.objs.size≤a):H a=none:=by
 cases q:H a with
 |none=>rfl
 |some u=>exact absurd (Nat.lt_of_lt_of_le (x.lt q) e) (Nat.lt_irrefl _)
theorem jR.kept(x:jR P w H h)(k:∀b u,h.get? b=some u→h'.get? b=some u):jR P w H h':=fun a o e=>
 (x a o e).sI (fun b u _ q=>k b u q) (fun _ q=>q) fun _ _ q=>q
theorem jR.laid(x:jR P w H h)(k:∀b u,h.get? b=some u→h'.get? b=some u)(hp:h.objs.size≤a)(new:cn P w (upd H a o) h' a o):jR P w (upd H a o) h':=fun b u e=>by
 have hn:=x.fresh hp
 by_cases hb:b=a
 ·subst hb;rw[aa] at e;cases e;exact new
 ·rw[ah hb] at e
  exact(x b u e).sI (fun c v _ q=>k c v q) (fun c q=>by rw[ah (ag q hn)];exact q) fun c xs q=>by rw[ah (ag q hn)];exact q
end
def Rd(H:Hp)(a:Addr)(u:HO):Prop:=H a=some u∨∃o,H a=some (.d8 o u)
theorem Rd.ok{P:Program}{w:World}{H:Hp}{h:Heap}{a:Addr}{u:HO}(r:Rd H a u)(x:jR P w H h):cn P w H h a u:=by
 rcases r with r| ⟨o,r⟩
 ·exact x a u r
 ·obtain⟨_,q⟩:=x a _ r
  exact q
def Ry:Option HO→Prop
 |some (.lst _)=>True
 |some (.dK _)=>True
 |some (.dT _)=>True
 |some (.set _ _)=>True
 |some (.ins _ _ _)=>True
 |some (.ext _)=>True
 |_=>False
section
variable {P:Program}{w:World}{H:Hp}{h h':Heap}{x e:Addr}{o':HO}
theorem jR.write(ok:jR P w H h)(mu:Ry (H x))(he:e=x∨H e=some (.own x))(k:∀b u,b≠e→h.get? b=some u→h'.get? b=some u)(Q2:∃u,h'.get? e=some u)
  (new:cn P w (upd H x o') h' x o'):jR P w (upd H x o') h':=fun b u q=>by
 have Rz:∀c y,H c=some (.own y)→c≠x:=fun c y r z=>by subst z;rw[r] at mu;exact mu
 have ZG:∀c xs,H c=some (.tup xs)→c≠x:=fun c xs r z=>by subst z;rw[r] at mu;exact mu
 by_cases hb:b=x
 ·subst hb;rw[aa] at q;cases q;exact new
 ·rw[ah hb] at q
  by_cases NH:b=e
  ·have q':H b=some (.own x):=by
    rcases he with z|z
    ·exact absurd (NH.trans z) hb
    ·rw[NH];exact z
   rw[q] at q';cases q'
   obtain⟨v,hv⟩:=Q2
   exact⟨v,by rw[NH];exact hv⟩
  ·refine(ok b u q).sI (fun c v hc r=>k c v ?_ r) (fun c r=>by rw[ah (Rz c b r)];exact r) fun c xs r=>by rw[ah (ZG c xs r)];exact r
   rcases hc with rfl|hc
   ·exact NH
   ·rintro rfl
    rcases he with z|z
    ·exact Rz c b hc z
    ·rw[hc] at z;cases z;exact hb rfl
end
structure Un(fs ex:List Addr)(H H':Hp)(h h':Heap):Prop where
 keep:∀b o,h.get? b=some o→H b=none→b∉fs→b∉ex→h'.get? b=some o
 slot:∀b o,h.get? b=some o→H b=none→b∈fs→b∉ex→∃sl,h'.get? b=some { o with slots:=sl }
 free:∀b o,h.get? b=some o→H b=none→b∉ex→H' b=none
 there:∀b o,h.get? b=some o→b∉ex→∃o',h'.get? b=some o'
 pk:∀b xs,H b=some (.tup xs)→H' b=some (.tup xs)
 pq:∀b o u,H b=some (.d8 o u)→H' b=some (.d8 o u)
 pw:∀b ps,H b=some (.Mb ps)→∃more,H' b=some (.Mb (ps++more))
section
variable {fs JF ex ex':List Addr}{H H1 H2:Hp}{h h1 h2 h':Heap}{a x e:Addr}{o:HO}
theorem Un.any(u:Un fs ex H H1 h h1){b:Addr}{ob:Obj}(q:h.get? b=some ob)(n:H b=none)(hx:b∉ex):∃sl,h1.get? b=some { ob with slots:=sl }:=by
 by_cases hb:b∈fs
 ·exact u.slot b ob q n hb hx
 ·exact⟨ob.slots,u.keep b ob q n hb hx⟩
theorem Un.kept(k:∀b u,h.get? b=some u→h'.get? b=some u):Un fs ex H H h h':=
 ⟨fun b ob q _ _ _=>k b ob q,fun b ob q _ _ _=>⟨ob.slots,k b ob q⟩,fun _ _ _ n _=>n,fun b ob q _=>⟨ob,k b ob q⟩,fun _ _ q=>q,fun _ _ _ q=>q,fun _ ps q=>⟨#[],by rw[q];simp⟩⟩
theorem Un.refl:Un fs ex H H h h:=Un.kept fun _ _ q=>q
theorem Un.laid(k:∀b u,h.get? b=some u→h'.get? b=some u)(hp:h.objs.size≤a)(hn:H a=none):Un fs ex H (upd H a o) h h' where
 keep:=fun b u q _ _ _=>k b u q
 slot:=fun b u q _ _ _=>⟨u.slots,k b u q⟩
 free:=fun b u q n _=>by rw[ah (Nat.ne_of_lt (Nat.lt_of_lt_of_le (Heap.lt_size q) hp))];exact n
 there:=fun b u q _=>⟨u,k b u q⟩
 pk:=fun b xs q=>by rw[ah (ag q hn)];exact q
 pq:=fun b u xs q=>by rw[ah (ag q hn)];exact q
 pw:=fun b ps q=>⟨#[],by rw[ah (ag q hn),q];simp⟩
theorem Un.write(mu:Ry (H x))(he:e=x∨H e=some (.own x))(k:∀b u,b≠e→h.get? b=some u→h'.get? b=some u)(Q2:∃u,h'.get? e=some u):Un fs ex H (upd H x o) h h':=by
 have hx:∀b,H b=none→b≠x:=fun b n z=>by subst z;rw[n] at mu;exact mu
 have hb:∀b,H b=none→b≠e:=fun b n z=>by
  subst z
  rcases he with r|r
  ·exact hx b n r
  ·rw[n] at r;cases r
 have hm:∀b u,H b=some u→¬Ry (some u)→b≠x:=fun b u q nm z=>by subst z;rw[q] at mu;exact nm mu
 refine⟨fun b u q n _ _=>k b u (hb b n) q,fun b u q n _ _=>⟨u.slots,k b u (hb b n) q⟩,fun b u q n _=>by rw[ah (hx b n)];exact n,fun b u q _=>?_,
  fun b xs q=>by rw[ah (hm b _ q fun z=>z)];exact q,fun b u xs q=>by rw[ah (hm b _ q fun z=>z)];exact q,fun b ps q=>⟨#[],by rw[ah (hm b _ q fun z=>z),q];simp⟩⟩
 by_cases NH:b=e
 ·subst NH;exact Q2
 ·exact⟨u,k b u NH q⟩
end
def YH(h:Heap)(H:Hp):List Addr:=(List.range h.objs.size).filter fun a=>(H a).isSome
def vc(h:Heap)(H:Hp):Heap:=PySem.W.hideAll h (YH h H)
theorem CZ(h:Heap)(H:Hp):(vc h H).objs.size=h.objs.size:=PySem.W.hideAll_size _ _
theorem E1{h:Heap}{H:Hp}{b:Addr}{o:Obj}(e:h.get? b=some o)(n:H b=none):(vc h H).get? b=some o:=
 PySem.W.hideAll_get _ e fun hm=>by
  have q:(H b).isSome=true:=(List.mem_filter.mp hm).2
  rw[n] at q;simp at q
theorem JG{h:Heap}{H:Hp}{b:Addr}{o:Obj}(e:(vc h H).get? b=some o):h.get? b=some o∧H b=none:=by
 have e':h.get? b=some o:=PySem.W.of_hideAll (YH h H) e
 refine⟨e',?_⟩
 cases q:H b with
 |none=>rfl
 |some x=>
  have hm:b∈YH h H:=List.mem_filter.mpr ⟨List.mem_range.mpr (Heap.lt_size e'),by simp [q]⟩
  have z:(vc h H).get? b=none:=PySem.W.hideAll_none (YH h H) hm
  rw[z] at e;cases e
def JH(g h:Heap)(L:Addr):List (Addr×Obj):=(List.range h.objs.size).filterMap fun a=>if a=L∨(g.get? a).isSome=true then none else (h.get? a).map fun o=>(a,o)
def rest(g h:Heap)(L d:Addr):List (Addr×Obj):=(JH g h L).filter fun p=>decide (p.1≠d)
end L2
namespace L2
open PySem PySem.Spec PyProof.Rows
structure Mod(K:PySem.W.Frag)(mg:Str→Option Value)(base:Heap):Prop where
 gq:K.In base
 glob:base.Ns mainGlobals mg
 blt:∃mb,base.Ns builtinsNs mb∧∀x:Str,x≠"__name__" →mb x=bootBuiltins x
 nolimit:base.NoLimit
structure Cx where
 prog:Program
 w:World
 K:PySem.W.Frag
 mg:Str→Option Value
 base:Heap
 A:Around
 N:List Str
 s₀:Shared
 H₀:Hp
 env:Env
 outer:List Env
 stack:List Env
 ex:List Addr
 fn:Str→Bool
 calm:Bool
 pn:List (Addr×Obj)
 xe:Value→Shared→Prop
def xu(l:List Env):List Addr:=l.filterMap (·.frame)
abbrev Cx.fs(X:Cx):List Addr:=xu X.outer
def ZH(sc:Scope)(x:Str):Prop:=sc.names.lookup x=some .local∨sc.names.lookup x=some .cell∨sc.names.lookup x=some .free
def Loc(sc:Scope)(x:Str):Prop:=sc.names.lookup x=some .local∨sc.names.lookup x=some .cell
def Look(env:Env)(h:Heap)(m:Str→Option Value)(x:Str)(u:Value):Prop:=
 (env.kindOf x=some .local∧m x=some u)∨((env.kindOf x=some .cell∨env.kindOf x=some .free)∧∃c,env.cells.lookup x=some c∧h.IsCell c (some u))
structure Cx.Ok(X:Cx):Prop where
 mod:Mod X.K X.mg X.base
 kind:X.env.scope.kind= .function
 glob:X.env.globals=mainGlobals
 blt:X.env.builtins=builtinsNs
 above:X.s₀.heap.objs.size≤X.env.locals
 inj:∀x y c,X.env.cells.lookup x=some c→X.env.cells.lookup y=some c→x=y
 has:∀x,(X.env.kindOf x=some .cell∨X.env.kindOf x=some .free)→∃c,X.env.cells.lookup x=some c
 JI:∀x c,X.fn x=true→X.env.cells.lookup x=some c→X.s₀.heap.objs.size≤c
 hd:X.calm=true→X.A.handled=none
 frames:X.A.frames=some X.stack
 Mc:X.stack=X.outer∨(X.stack=X.env::X.outer∧X.env.frame=some X.env.locals)
 Q3:∀b∈X.ex,b≠X.env.locals∧∀x c,X.env.cells.lookup x=some c→c≠b
 bs:∀b o,X.base.get? b=some o→X.s₀.heap.get? b=some o∧X.H₀ b=none
 C0:X.base.objs.size≤X.s₀.heap.objs.size
 vd:∀b o,X.base.get? b=some o→b∉X.ex
 ve:∀b∈X.ex,b∉X.fs
 lq:X.s₀.heap.FunFrames X.base X.outer
 E2:∀b∈X.fs,X.H₀ b=none
structure Inv(X:Cx)(pins:List (Addr×Obj))(σ:List (Option V))(H:Hp)(s:Shared):Prop where
 ok:X.Ok
 os:s.os=X.s₀.os
 bare:AllBare s.gens
 base:Un X.fs X.ex X.H₀ H X.s₀.heap s.heap
 loc:∃m,s.heap.Ns X.env.locals m∧∀(i:Nat) (x:Str) (v:V),X.N[i]? =some x→σ[i]? =some (some v)→ZH X.env.scope x→∃u,RelV v u∧Look X.env s.heap m x u
 cell:∀x c,X.env.cells.lookup x=some c→∃v,s.heap.IsCell c v
 free:H X.env.locals=none
 gY:∀x c,X.env.cells.lookup x=some c→H c=none
 pin:∀p∈X.pn++pins,s.heap.get? p.1=some p.2∧H p.1=none∧p.1≠X.env.locals∧p.1∉X.fs∧∀v,p.2.data≠ .cell v
 aV:jR X.prog X.w H s.heap
 len:σ.length=X.N.length
section
variable {X:Cx}{pins:List (Addr×Obj)}{σ:List (Option V)}{H H':Hp}{s:Shared}{h':Heap}
theorem Cx.Ok.ZI(ok:X.Ok){b:Addr}{o:Obj}(e:X.base.get? b=some o):b∉X.fs:=fun hb=>by
 have:=(ok.lq.mem hb).1
 rw[e] at this;cases this
theorem Inv.bs(I:Inv X pins σ H s):∀b o,X.base.get? b=some o→s.heap.get? b=some o∧H b=none:=fun b o e=>
 ⟨I.base.keep b o (I.ok.bs b o e).1 (I.ok.bs b o e).2 (I.ok.ZI e) (I.ok.vd b o e),I.base.free b o (I.ok.bs b o e).1 (I.ok.bs b o e).2 (I.ok.vd b o e)⟩
theorem Inv.bk(I:Inv X pins σ H s):∀b o,X.base.get? b=some o→s.heap.get? b=some o:=fun b o e=>(I.bs b o e).1
theorem Inv.mod(I:Inv X pins σ H s):Mod X.K X.mg X.base:=I.ok.mod
theorem Inv.jN(I:Inv X pins σ H s):X.K.In s.heap:=I.ok.mod.gq.keeps I.bk
theorem Inv.lt(I:Inv X pins σ H s):X.env.locals<s.heap.objs.size:=let ⟨_,hn,_⟩:=I.loc;hn.lt
theorem Inv.sz(I:Inv X pins σ H s):X.s₀.heap.objs.size≤s.heap.objs.size:=Nat.le_trans I.ok.above (Nat.le_of_lt I.lt)
theorem Inv.ZJ(I:Inv X pins σ H s){a:Addr}(h:s.heap.objs.size≤a):a∉X.fs:=fun hb=>by
 obtain⟨_,o,ho,_⟩:=I.ok.lq.mem hb
 exact absurd (Nat.lt_of_lt_of_le (Heap.lt_size ho) (Nat.le_trans I.sz h)) (Nat.lt_irrefl _)
theorem Inv.NI(I:Inv X pins σ H s):∀x c,X.env.cells.lookup x=some c→c≠X.env.locals:=fun x c e z=>by
 obtain⟨v,o,ho,hd⟩:=I.cell x c e
 obtain⟨m,⟨o',es,ep,xv,eQ,_⟩,_⟩:=I.loc
 rw[z,xv] at ho;cases ho;rw[eQ] at hd;cases hd
theorem Inv.lq(I:Inv X pins σ H s):s.heap.FunFrames X.base X.outer:=by
 have all:∀(l:List Env),(∀b∈xu l,b∈X.fs)→X.s₀.heap.FunFrames X.base l→s.heap.FunFrames X.base l:=by
  intro l
  induction l with
  |nil=>intro _ _;trivial
  |cons env r ih=>
   intro hs hl
   obtain⟨hk,⟨L,o,hf,hn,ho,hd⟩,hr⟩:=hl
   have hL:L∈X.fs:=hs L (by unfold xu;rw[List.filterMap_cons,hf];exact List.mem_cons_self)
   obtain⟨sl,e⟩:=I.base.slot L o ho (I.ok.E2 L hL) hL fun z=>I.ok.ve L z hL
   exact⟨hk,⟨L,_,hf,hn,e,hd⟩,ih (fun b hb=>hs b (by unfold xu;rw[List.filterMap_cons,hf];exact List.mem_cons_of_mem _ hb)) hr⟩
 exact all X.outer (fun _ hb=>hb) I.ok.lq
theorem Inv.stack(I:Inv X pins σ H s):s.heap.FunFrames X.base X.stack:=by
 rcases I.ok.Mc with e| ⟨e,hf⟩
 ·rw[e];exact I.lq
 ·rw[e]
  obtain⟨m,hn,_⟩:=I.loc
  refine .cons (by rw[I.ok.kind];decide) hf hn ?_ I.lq
  exact Heap.get?_none_of_le (Nat.le_trans I.ok.C0 I.ok.above)
theorem Inv.vf(I:Inv X pins σ H s):∀b∈xu X.stack,b∈X.env.locals::X.fs:=fun b hb=>by
 rcases I.ok.Mc with e| ⟨e,hf⟩
 ·rw[e] at hb;exact List.mem_cons_of_mem _ hb
 ·rw[e] at hb
  unfold xu at hb
  rw[List.filterMap_cons,hf] at hb
  exact hb
theorem Inv.vg(I:Inv X pins σ H s):∀b∈xu X.stack,H b=none:=fun b hb=>by
 rcases List.mem_cons.mp (I.vf b hb) with e|hb
 ·rw[e];exact I.free
 ·obtain⟨_,o,ho,_⟩:=I.ok.lq.mem hb
  exact I.base.free b o ho (I.ok.E2 b hb) fun z=>I.ok.ve b z hb
theorem Inv.step{g':Array GenState}{t':Nat}{d':Drawn}{ch:List Addr}(I:Inv X pins σ H s)
  (EK:∀b∈ch,(b∈X.ex∨X.s₀.heap.objs.size≤b)∧b≠X.env.locals∧(∀x c,X.env.cells.lookup x=some c→c≠b)∧∀p∈X.pn++pins,p.1≠b)
  (keep:∀b o,b≠X.env.locals→b∉X.fs→b∉ch→s.heap.get? b=some o→H b=none→h'.get? b=some o)
  (slot:∀b o,b≠X.env.locals→b∈X.fs→b∉ch→s.heap.get? b=some o→H b=none→∃sl,h'.get? b=some { o with slots:=sl }) (free:∀b o,b∉ch→s.heap.get? b=some o→H b=none→H' b=none)
  (there:∀b o,b∉ch→s.heap.get? b=some o→∃o',h'.get? b=some o')
  (pk:∀b xs,H b=some (.tup xs)→H' b=some (.tup xs)) (pq:∀b o u,H b=some (.d8 o u)→H' b=some (.d8 o u)) (pw:∀b ps,H b=some (.Mb ps)→∃more,H' b=some (.Mb (ps++more)))
  (ns:∀m,s.heap.Ns X.env.locals m→h'.Ns X.env.locals m) (aV:jR X.prog X.w H' h') (hg:AllBare g'):
  Inv X pins σ H' { s with heap:=h',gens:=g',drawn:=d',toks:=t' }:=by
 have RA:∀b o,X.s₀.heap.get? b=some o→b≠X.env.locals:=fun b o e=>Nat.ne_of_lt (Nat.lt_of_lt_of_le (Heap.lt_size e) I.ok.above)
 have YI:∀b o,X.s₀.heap.get? b=some o→b∉X.ex→b∉ch:=fun b o e hx hb=>by
  rcases (EK b hb).1 with z|z
  ·exact hx z
  ·exact absurd (Nat.lt_of_lt_of_le (Heap.lt_size e) z) (Nat.lt_irrefl _)
 have cellK:∀x c,X.env.cells.lookup x=some c→∀v,s.heap.IsCell c v→h'.IsCell c v:=fun x c e v ⟨o,ho,hd⟩=>by
  have E3:c∉ch:=fun z=>(EK c z).2.2.1 x c e rfl
  by_cases hc:c∈X.fs
  ·obtain⟨sl,q⟩:=slot c o (I.NI x c e) hc E3 ho (I.gY x c e)
   exact⟨_,q,hd⟩
  ·exact⟨o,keep c o (I.NI x c e) hc E3 ho (I.gY x c e),hd⟩
 refine⟨I.ok,I.os,hg,⟨fun b o e n hb hx=>?_,fun b o e n hb hx=>?_,fun b o e n hx=>?_,fun b o e hx=>?_,fun b xs e=>pk b xs (I.base.pk b xs e),fun b o xs e=>pq b o xs (I.base.pq b o xs e),fun b ps e=>?_⟩,?_,fun x c e=>?_,?_,fun x c e=>?_,fun p hp=>?_,aV,I.len⟩
 ·exact keep b o (RA b o e) hb (YI b o e hx) (I.base.keep b o e n hb hx) (I.base.free b o e n hx)
 ·obtain⟨sl,e1⟩:=I.base.slot b o e n hb hx
  obtain⟨RB,e2⟩:=slot b _ (RA b o e) hb (YI b o e hx) e1 (I.base.free b o e n hx)
  exact⟨RB,e2⟩
 ·obtain⟨o',e1⟩:=I.base.there b o e hx
  exact free b o' (YI b o e hx) e1 (I.base.free b o e n hx)
 ·obtain⟨o',e1⟩:=I.base.there b o e hx
  exact there b o' (YI b o e hx) e1
 ·obtain⟨m1,e1⟩:=I.base.pw b ps e
  obtain⟨m2,e2⟩:=pw b _ e1
  exact⟨m1++m2,by rw[e2,Array.append_assoc]⟩
 ·obtain⟨m,hn,hl⟩:=I.loc
  refine⟨m,ns m hn,fun i x v e1 e2 e3=>?_⟩
  obtain⟨u,r,l⟩:=hl i x v e1 e2 e3
  refine⟨u,r,?_⟩
  rcases l with l| ⟨k,c,e,z⟩
  ·exact .inl l
  ·exact .inr ⟨k,c,e,cellK x c e _ z⟩
 ·obtain⟨v,z⟩:=I.cell x c e
  exact⟨v,cellK x c e v z⟩
 ·obtain⟨m,⟨o,_,_,ho,_⟩,_⟩:=I.loc
  exact free _ o (fun z=>(EK _ z).2.1 rfl) ho I.free
 ·obtain⟨v,o,ho,hd⟩:=I.cell x c e
  exact free c o (fun z=>(EK c z).2.2.1 x c e rfl) ho (I.gY x c e)
 ·obtain⟨e,n,ne,nf,d⟩:=I.pin p hp
  have E3:p.1∉ch:=fun z=>(EK p.1 z).2.2.2 p hp rfl
  exact⟨keep p.1 p.2 ne nf E3 e n,free p.1 p.2 E3 e n,ne,nf,d⟩
theorem Inv.un{t':Nat}(I:Inv X pins σ H s)(u:Un X.fs [] H H' s.heap h')(aV:jR X.prog X.w H' h'):Inv X pins σ H' { s with heap:=h',toks:=t' }:=by
 obtain⟨m,⟨o,es,ep,ho,r⟩,_⟩:=id I.loc
 obtain⟨sl,hL⟩:=u.any ho I.free (by simp)
 exact I.step (g':=s.gens) (d':=s.drawn) (ch:=[]) (fun _ z=>nomatch z) (fun b o _ hb _ e n=>u.keep b o e n hb (by simp)) (fun b o _ hb _ e n=>u.slot b o e n hb (by simp)) (fun b o _ e n=>u.free b o e n (by simp)) (fun b o _ e=>u.there b o e (by simp)) u.pk u.pq u.pw (fun m' hm=>by
  obtain⟨o',YJ,YK,xv,r'⟩:=hm
  rw[ho] at xv;cases xv
  exact⟨_,YJ,YK,hL,r'⟩) aV I.bare
theorem Inv.call{g':Array GenState}{t':Nat}{d':Drawn}{ch:List Addr}(I:Inv X pins σ H s)(u:Un (xu X.stack) ch H H' s.heap h')(aV:jR X.prog X.w H' h')(hg:AllBare g')
  (EK:∀b∈ch,(b∈X.ex∨X.s₀.heap.objs.size≤b)∧b≠X.env.locals∧(∀x c,X.env.cells.lookup x=some c→c≠b)∧∀p∈X.pn++pins,p.1≠b):
  Inv X pins σ H' { s with heap:=h',gens:=g',drawn:=d',toks:=t' }:=by
 obtain⟨m,⟨o,es,ep,ho,r⟩,_⟩:=id I.loc
 obtain⟨sl,hL⟩:=u.any ho I.free fun z=>(EK _ z).2.1 rfl
 exact I.step (ch:=ch) EK (fun b o hL hb hc e n=>u.keep b o e n (fun z=>(List.mem_cons.mp (I.vf b z)).elim hL hb) hc) (fun b o _ _ hc e n=>u.any e n hc) (fun b o hc e n=>u.free b o e n hc) (fun b o hc e=>u.there b o e hc) u.pk u.pq u.pw (fun m' hm=>by
  obtain⟨o',YJ,YK,xv,r'⟩:=hm
  rw[ho] at xv;cases xv
  exact⟨_,YJ,YK,hL,r'⟩) aV hg
theorem Inv.turned{t':Nat}{it:Addr}(I:Inv X pins σ H s)(k:∀b o,b≠it→s.heap.get? b=some o→h'.get? b=some o)(hn:H it=none)(hL:it≠X.env.locals)
  (h1:it∈X.ex∨X.s₀.heap.objs.size≤it) (h2:∀x c,X.env.cells.lookup x=some c→c≠it) (h3:∀p∈X.pn++pins,p.1≠it):Inv X pins σ H { s with heap:=h',toks:=t' }:=by
 have nit:∀b u,H b=some u→b≠it:=fun b u e z=>by rw[z,hn] at e;cases e
 refine I.step (g':=s.gens) (d':=s.drawn) (ch:=[it]) (fun b hb=>?_) (fun b o _ _ hc e _=>k b o (fun z=>hc (by simp [z])) e) (fun b o _ _ hc e _=>⟨o.slots,k b o (fun z=>hc (by simp [z])) e⟩) (fun _ _ _ _ n=>n)
  (fun b o hc e=>⟨o,k b o (fun z=>hc (by simp [z])) e⟩) (fun _ _ e=>e) (fun _ _ _ e=>e) (fun b ps e=>⟨#[],by rw[e];simp⟩) (fun m hm=>?_) (fun b u e=>?_) I.bare
 ·have e:b=it:=by simpa using hb
  subst e
  exact⟨h1,hL,h2,h3⟩
 ·obtain⟨o,es,ep,ho,r⟩:=hm
  exact⟨o,es,ep,k _ o (Ne.symm hL) ho,r⟩
 ·refine(I.aV b u e).sI (fun c v hc q=>k c v ?_ q) (fun _ q=>q) fun _ _ q=>q
  rcases hc with z|z
  ·rw[z];exact nit b u e
  ·exact nit c _ z
theorem Inv.tok(I:Inv X pins σ H s)(t:Nat):Inv X pins σ H { s with toks:=t }:=I.un (h':=s.heap) (t':=t) Un.refl I.aV
theorem Inv.kept{t':Nat}(I:Inv X pins σ H s)(k:∀b u,s.heap.get? b=some u→h'.get? b=some u):Inv X pins σ H { s with heap:=h',toks:=t' }:=I.un (Un.kept k) (I.aV.kept k)
theorem Inv.laid{a:Addr}{o:HO}{t':Nat}(I:Inv X pins σ H s)(k:∀b u,s.heap.get? b=some u→h'.get? b=some u)(hp:s.heap.objs.size≤a)(new:cn X.prog X.w (upd H a o) h' a o):
  Inv X pins σ (upd H a o) { s with heap:=h',toks:=t' }:=I.un (Un.laid k hp (I.aV.fresh hp)) (I.aV.laid k hp new)
theorem Inv.write{x e:Addr}{o:HO}{t':Nat}(I:Inv X pins σ H s)(mu:Ry (H x))(he:e=x∨H e=some (.own x))(k:∀b u,b≠e→s.heap.get? b=some u→h'.get? b=some u)(Q2:∃u,h'.get? e=some u)
  (new:cn X.prog X.w (upd H x o) h' x o):Inv X pins σ (upd H x o) { s with heap:=h',toks:=t' }:=I.un (Un.write mu he k Q2) (I.aV.write mu he k Q2 new)
theorem Inv.vh{Md:List (Addr×Obj)}(I:Inv X pins σ H s)(h:∀p∈Md,s.heap.get? p.1=some p.2∧H p.1=none∧p.1≠X.env.locals∧p.1∉X.fs∧∀v,p.2.data≠ .cell v):Inv X Md σ H s:=
 ⟨I.ok,I.os,I.bare,I.base,I.loc,I.cell,I.free,I.gY,fun p hp=>(List.mem_append.mp hp).elim (fun z=>I.pin p (List.mem_append_left _ z)) (h p),I.aV,I.len⟩
theorem xM{N:List Str}(hN:N.Nodup){i j:Nat}{x:Str}(a:N[i]? =some x)(b:N[j]? =some x):i=j:=by
 obtain⟨h1,e1⟩:=List.getElem?_eq_some_iff.mp a
 obtain⟨h2,e2⟩:=List.getElem?_eq_some_iff.mp b
 exact(List.getElem_inj hN).mp (e1.trans e2.symm)
theorem sX{M:Model}{A:Around}{E:Value→Shared→Prop}{i:Nat}{x:Str}{v:V}{u:Value}{Q:Unit→Shared→Prop}(I:Inv X pins σ H s)(hN:X.N.Nodup)(hi:X.N[i]? =some x)(hx:Loc X.env.scope x)(r:RelV v u)
  (h:∀s',Inv X pins (σ.set i (some v)) H s'→(∃a,Heap.SameBut a s.heap s'.heap∧(a=X.env.locals∨X.env.cells.lookup x=some a))→Q () s') (hf:X.fn x=true∨X.env.scope.names.lookup x=some .local:=by first|exact .inl rfl|exact .inr rfl|assumption):wpAny M A (storeName X.env x u) Q E s:=by
 obtain⟨m,hn,hl⟩:=id I.loc
 have ZK:(X.env.scope.kind== .class||(X.env.scope.kind== .module&&X.env.locals != X.env.globals))=false:=by rw[I.ok.kind];rfl
 have hiσ:i<σ.length:=by rw[I.len];exact(List.getElem?_eq_some_iff.mp hi).1
 have NI:=I.NI
 have tracked:∀{a:Addr} {h':Heap},(∃o,s.heap.get? a=some o∧H a=none)→Heap.SameBut a s.heap h'→jR X.prog X.w H h':=fun {a h'} ha hs b ob e=>by
  obtain⟨_,_,Me⟩:=ha
  refine(I.aV b ob e).sI (fun c w' hc q=>(hs.2 c ?_).trans q) (fun _ q=>q) fun _ _ q=>q
  rintro rfl
  rcases hc with rfl|hc
  ·rw[Me] at e;cases e
  ·rw[Me] at hc;cases hc
 rcases hx with hk|hk
 ·refine wpAny_storeName_local hk hn (fun h' NJ hs=>?_) ZK
  obtain⟨oL,_,_,RC,_⟩:=id hn
  refine h _ ⟨I.ok,I.os,I.bare,⟨fun b o e n hb hx=>?_,fun b o e n hb hx=>?_,I.base.free,fun b o e hx=>?_,I.base.pk,I.base.pq,I.base.pw⟩,⟨_,NJ,fun j y v' e1 e2 e3=>?_⟩,fun y c e=>?_,I.free,I.gY,fun p hp=>?_,tracked ⟨oL,RC,I.free⟩ hs,by simpa using I.len⟩ ⟨_,hs, .inl rfl⟩
  ·exact(hs.2 b (Nat.ne_of_lt (Nat.lt_of_lt_of_le (Heap.lt_size e) I.ok.above))).trans (I.base.keep b o e n hb hx)
  ·obtain⟨sl,e1⟩:=I.base.slot b o e n hb hx
   exact⟨sl,(hs.2 b (Nat.ne_of_lt (Nat.lt_of_lt_of_le (Heap.lt_size e) I.ok.above))).trans e1⟩
  ·obtain⟨o',e1⟩:=I.base.there b o e hx
   exact⟨o',(hs.2 b (Nat.ne_of_lt (Nat.lt_of_lt_of_le (Heap.lt_size e) I.ok.above))).trans e1⟩
  ·by_cases hj:j=i
   ·subst hj
    rw[hi] at e1;cases e1
    rw[List.getElem?_set_self hiσ] at e2
    cases e2
    exact⟨u,r, .inl ⟨hk,by simp⟩⟩
   ·rw[List.getElem?_set_ne (Ne.symm hj)] at e2
    obtain⟨u',r',q⟩:=hl j y v' e1 e2 e3
    refine⟨u',r',?_⟩
    rcases q with ⟨k,e⟩ | ⟨k,c,e,z⟩
    ·refine .inl ⟨k,?_⟩
     have:y≠x:=fun e=>hj (xM hN e1 (e▸hi))
     simp [this,e]
    ·exact .inr ⟨k,c,e,z.sameBut hs (NI y c e)⟩
  ·obtain⟨w',z⟩:=I.cell y c e
   exact⟨w',z.sameBut hs (NI y c e)⟩
  ·obtain⟨e,n,ne,nf,d⟩:=I.pin p hp
   exact⟨(hs.2 p.1 ne).trans e,n,ne,nf,d⟩
 ·have ZL:X.fn x=true:=by
   rcases hf with z|z
   ·exact z
   ·rw[z] at hk;cases hk
  obtain⟨c,hc⟩:=I.ok.has x (.inl hk)
  obtain⟨w',z⟩:=I.cell x c hc
  refine wpAny_storeName_cell I.ok.kind hk hc z (fun h' Js hs=>?_)
  obtain⟨oc,hoc,ZM⟩:=id z
  refine h { s with heap:=h' } ⟨I.ok,I.os,I.bare,⟨fun b o e n hb hx=>?_,fun b o e n hb hx=>?_,I.base.free,fun b o e hx=>?_,I.base.pk,I.base.pq,I.base.pw⟩,⟨m,hn.sameBut hs (Ne.symm (NI x c hc)),fun j y v' e1 e2 e3=>?_⟩,fun y c' e=>?_,I.free,I.gY,fun p hp=>?_,tracked ⟨oc,hoc,I.gY x c hc⟩ hs,by simpa using I.len⟩ ⟨c,hs, .inr hc⟩
  ·exact(hs.2 b (Nat.ne_of_lt (Nat.lt_of_lt_of_le (Heap.lt_size e) (I.ok.JI x c ZL hc)))).trans (I.base.keep b o e n hb hx)
  ·obtain⟨sl,e1⟩:=I.base.slot b o e n hb hx
   exact⟨sl,(hs.2 b (Nat.ne_of_lt (Nat.lt_of_lt_of_le (Heap.lt_size e) (I.ok.JI x c ZL hc)))).trans e1⟩
  ·obtain⟨o',e1⟩:=I.base.there b o e hx
   exact⟨o',(hs.2 b (Nat.ne_of_lt (Nat.lt_of_lt_of_le (Heap.lt_size e) (I.ok.JI x c ZL hc)))).trans e1⟩
  ·by_cases hj:j=i
   ·subst hj
    rw[hi] at e1;cases e1
    rw[List.getElem?_set_self hiσ] at e2
    cases e2
    exact⟨u,r, .inr ⟨.inl hk,c,hc,Js⟩⟩
   ·rw[List.getElem?_set_ne (Ne.symm hj)] at e2
    obtain⟨u',r',q⟩:=hl j y v' e1 e2 e3
    refine⟨u',r',?_⟩
    rcases q with q| ⟨k,c',e,z'⟩
    ·exact .inl q
    ·refine .inr ⟨k,c',e,z'.sameBut hs ?_⟩
     rintro rfl
     exact hj (xM hN e1 (I.ok.inj _ _ _ e hc▸hi))
  ·by_cases hcc:c'=c
   ·subst hcc;exact⟨_,Js⟩
   ·obtain⟨w2,z2⟩:=I.cell y c' e
    exact⟨w2,z2.sameBut hs hcc⟩
  ·obtain⟨e,n,ne,nf,d⟩:=I.pin p hp
   refine⟨(hs.2 p.1 ?_).trans e,n,ne,nf,d⟩
   intro q
   rw[q,hoc] at e
   have q':oc=p.2:=Option.some.inj e
   exact d w' (by rw[←q'];exact ZM)
theorem store_ok{M:Model}{A:Around}{E:Value→Shared→Prop}{i:Nat}{x:Str}{v:V}{u:Value}{Q:Unit→Shared→Prop}(I:Inv X pins σ H s)(hN:X.N.Nodup)(hi:X.N[i]? =some x)(hx:Loc X.env.scope x)(r:RelV v u)
  (h:∀s',Inv X pins (σ.set i (some v)) H s'→Q () s') (hf:X.fn x=true∨X.env.scope.names.lookup x=some .local:=by first|exact .inl rfl|exact .inr rfl|assumption):wpAny M A (storeName X.env x u) Q E s:=
 sX I hN hi hx r (fun s' I' _=>h s' I') hf
theorem Inv.E4{s':Shared}{ch:List Addr}(I:Inv X pins σ H s)(ho:s'.os=s.os)(u:Un (xu X.stack) ch H H' s.heap s'.heap)(aV:jR X.prog X.w H' s'.heap)(hg:AllBare s'.gens)
  (EK:∀b∈ch,(b∈X.ex∨X.s₀.heap.objs.size≤b)∧b≠X.env.locals∧(∀x c,X.env.cells.lookup x=some c→c≠b)∧∀p∈X.pn++pins,p.1≠b):Inv X pins σ H' s':=by
 obtain⟨h',g',d',t',o'⟩:=s'
 have e:o'=s.os:=ho
 subst e
 exact I.call (g':=g') (t':=t') (d':=d') u aV hg EK
end
abbrev XK:=Value→Option Addr→Hp→Prop
abbrev St:=List (Option V)
abbrev VK:=V→Hp→Prop
abbrev TE:=St→Hp→VK→Prop
abbrev TT:=St→Hp→(Bool→Hp→Prop)→Prop
abbrev TA:=St→Hp→(List V→Hp→Prop)→Prop
structure Ends where
 nx:St→Hp→Prop
 rt:VK
 bk:St→Hp→Prop:=fun _ _=>False
 ct:St→Hp→Prop:=fun _ _=>False
abbrev TS:=Ends→St→Hp→Prop
def EP(X:Cx)(pins:List (Addr×Obj))(σ:St)(Q:VK)(u:Value)(s':Shared):Prop:=∃v H',Inv X pins σ H' s'∧RelV v u∧Q v H'
def TP(X:Cx)(pins:List (Addr×Obj))(σ:St)(Q:Bool→Hp→Prop)(b:Bool)(s':Shared):Prop:=∃H',Inv X pins σ H' s'∧Q b H'
def AP(X:Cx)(pins:List (Addr×Obj))(σ:St)(Q:List V→Hp→Prop)(us:List Value)(s':Shared):Prop:=∃vs H',Inv X pins σ H' s'∧Vals vs us∧Q vs H'
def SP(X:Cx)(pins:List (Addr×Obj))(D:Ends)(f:Flow)(s':Shared):Prop:=
 match f with
 | .next=>∃σ' H',Inv X pins σ' H' s'∧D.nx σ' H'
 | .brk=>∃σ' H',Inv X pins σ' H' s'∧D.bk σ' H'
 | .cont=>∃σ' H',Inv X pins σ' H' s'∧D.ct σ' H'
 | .ret u=>∃v σ' H',Inv X pins σ' H' s'∧RelV v u∧D.rt v H'
def PE(X:Cx)(e:Expr)(t:TE):Prop:=
 ∀(pins:List (Addr×Obj)) (s:Shared) (σ:St) (H:Hp) (Q:VK),Inv X pins σ H s→t σ H Q→wpAny (model X.prog X.w) X.A (eval e X.env) (EP X pins σ Q) X.xe s
def PT(X:Cx)(e:Expr)(t:TT):Prop:=
 ∀(pins:List (Addr×Obj)) (s:Shared) (σ:St) (H:Hp) (Q:Bool→Hp→Prop),Inv X pins σ H s→t σ H Q→wpAny (model X.prog X.w) X.A (isTrue e X.env (eval e X.env)) (TP X pins σ Q) X.xe s
def PW(X:Cx)(e:Expr)(t:TT):Prop:=
 ∀(whole:Sem Value) (pins:List (Addr×Obj)) (s:Shared) (σ:St) (H:Hp) (Q:Bool→Hp→Prop),Inv X pins σ H s→t σ H Q→wpAny (model X.prog X.w) X.A (isTrue e X.env whole) (TP X pins σ Q) X.xe s
theorem PW.pt{X:Cx}{e:Expr}{t:TT}(h:PW X e t):PT X e t:=h _
def PA(X:Cx)(es:List Expr)(t:TA):Prop:=
 ∀(pos:Pos) (pins:List (Addr×Obj)) (s:Shared) (σ:St) (H:Hp) (Q:List V→Hp→Prop),Inv X pins σ H s→t σ H Q→wpAny (model X.prog X.w) X.A (spliced (backTo pos (starEach es X.env))) (AP X pins σ Q) X.xe s
def PS(X:Cx)(st:Stmt)(t:TS):Prop:=
 ∀(pins:List (Addr×Obj)) (s:Shared) (σ:St) (H:Hp) (D:Ends),Inv X pins σ H s→t D σ H→wpAny (model X.prog X.w) X.A (exec st X.env) (SP X pins D) X.xe s
def lK(X:Cx)(st:List Stmt)(t:TS):Prop:=
 ∀(pins:List (Addr×Obj)) (s:Shared) (σ:St) (H:Hp) (D:Ends),Inv X pins σ H s→t D σ H→wpAny (model X.prog X.w) X.A (execs st X.env) (SP X pins D) X.xe s
theorem bV{α:Type}{t:Sem α}{Q Q':α→Shared→Prop}{M:Model}{A:Around}{E:Value→Shared→Prop}{s:Shared}(h:wpAny M A t Q E s)(hQ:∀a s,Q a s→Q' a s):wpAny M A t Q' E s:=wpAny_mono h hQ fun _ _ x=>x
end L2
namespace L2
open PySem PySem.Spec PyProof.Rows
section
variable {X:Cx}
inductive RV(i:Nat)(σ:St)(H:Hp)(Q:VK):Prop
 |mk (v:V) (e:σ[i]? =some (some v)) (q:Q v H)
def jS(i:Nat):TE:=fun σ H Q=>RV i σ H Q
def tC(v:V):TE:=fun _ H Q=>Q v H
theorem NK{i:Nat}{x:Str}{pos:Pos}(hN:X.N[i]? =some x)(hv:ZH X.env.scope x)(hd:(x==("__debug__" :Str))=false:=by decide)(qj:(x==("__classdict__" :Str))=false:=by decide):PE X (.Name x pos) (jS i):=by
 intro pins s σ H Q I h
 obtain⟨v,e,h⟩:=h
 obtain⟨m,hn,hl⟩:=I.loc
 obtain⟨u,r,l⟩:=hl i x v hN e hv
 have fin:EP X pins σ Q u s:=⟨v,H,I,r,h⟩
 rcases l with ⟨hk,hm⟩ | ⟨hk,c,hc,Mf⟩
 ·exact wpAny_Name (wpAny_loadName_local I.ok.kind hk hn hm fin) hd
 ·rcases hk with hk|hk
  ·exact wpAny_Name (wpAny_loadName_cell I.ok.kind hk hc Mf fin) hd
  ·exact wpAny_Name (wpAny_loadName_free I.ok.kind hk hc Mf fin qj) hd
theorem aq{i j pos}:PE X (.Constant (.int i) j pos) (tC (.int i)):=fun _ _ _ H _ I h=>wpAny_Constant_int ⟨.int i,H,I.tok _,⟨_,rfl⟩,h⟩
theorem jT{b j pos}:PE X (.Constant (.bool b) j pos) (tC (.bl b)):=fun _ _ _ H _ I h=>Constant_bool ⟨.bl b,H,I,rfl,h⟩
theorem zB{j pos}:PE X (.Constant .none j pos) (tC .cS):=fun _ _ _ H _ I h=>Constant_none ⟨.cS,H,I,rfl,h⟩
theorem bH{x j pos}:PE X (.Constant (.str x) j pos) (tC (.str x)):=fun _ _ _ H _ I h=>Calls.Constant_str ⟨.str x,H,I.tok _,⟨_,rfl⟩,h⟩
def Gl(X:Cx)(x:Str):Prop:=X.env.kindOf x=some .globalImplicit
theorem jd{E:Value→Shared→Prop}{pins:List (Addr×Obj)}{s:Shared}{σ:St}{H:Hp}{x:Str}{u:Value}{pos:Pos}{Q:Value→Shared→Prop}(I:Inv X pins σ H s)(hg:Gl X x)(hm:X.mg x=some u)(h:Q u s)
  (hd:(x==("__debug__" :Str))=false:=by decide):wpAny (model X.prog X.w) X.A (eval (.Name x pos) X.env) Q E s:=
 Calls.Name_function_global I.ok.kind hg (Calls.loadGlobal_global (by rw[I.ok.glob];exact I.mod.glob.keeps I.bk) hm h) hd
theorem lL{E:Value→Shared→Prop}{pins:List (Addr×Obj)}{s:Shared}{σ:St}{H:Hp}{x:Str}{u:Value}{pos:Pos}{Q:Value→Shared→Prop}(I:Inv X pins σ H s)(hg:Gl X x)(hm:X.mg x=none)(hv:bootBuiltins x=some u)(h:Q u s)
  (hn:x≠"__name__" :=by decide) (hd:(x==("__debug__" :Str))=false:=by decide):wpAny (model X.prog X.w) X.A (eval (.Name x pos) X.env) Q E s:=by
 obtain⟨mb,h1,h2⟩:=I.mod.blt
 exact Calls.Name_function_global I.ok.kind hg (Calls.loadGlobal_builtin (by rw[I.ok.glob];exact I.mod.glob.keeps I.bk) hm (by rw[I.ok.blt];exact h1.keeps I.bk) ((h2 x hn).trans hv) h) hd
theorem bw{x:Str}{v:V}{u:Value}{pos:Pos}(hg:Gl X x)(hm:X.mg x=some u)(r:RelV v u)(hd:(x==("__debug__" :Str))=false:=by decide):PE X (.Name x pos) (tC v):=
 fun _ _ _ H _ I h=>jd I hg hm ⟨v,H,I,r,h⟩ hd
theorem vi{x:Str}{v:V}{u:Value}{pos:Pos}(hg:Gl X x)(hm:X.mg x=none)(hv:bootBuiltins x=some u)(r:RelV v u)(hn:x≠"__name__" :=by decide)(hd:(x==("__debug__" :Str))=false:=by decide):PE X (.Name x pos) (tC v):=
 fun _ _ _ H _ I h=>lL I hg hm hv ⟨v,H,I,r,h⟩ hn hd
variable {a b:Expr}{ta tb:TE}{pos:Pos}
def PC(X:Cx)(op:CmpOp)(a b:Expr)(t:TE):Prop:=
 ∀(pins:List (Addr×Obj)) (s:Shared) (σ:St) (H:Hp) (Q:VK),Inv X pins σ H s→t σ H Q→
  wpAny (model X.prog X.w) X.A (eval a X.env) (fun v s₁=>wpAny (model X.prog X.w) X.A (eval b X.env) (fun u s₂=>wpAny (model X.prog X.w) X.A (compareOp op v u) (EP X pins σ Q) X.xe s₂) X.xe s₁) X.xe s
theorem E5(b:Expr){op:CmpOp}(h:op≠ .In)(h2:op≠ .NotIn):behindInMarks op b=false:=by
 have e1:(op==CmpOp.In)=false:=by cases op<;>first|rfl|exact absurd rfl h
 have e2:(op==CmpOp.NotIn)=false:=by cases op<;>first|rfl|exact absurd rfl h2
 cases b<;>simp [behindInMarks,e1,e2]
def ZN(ta:TE):TE:=fun σ H Q=>ta σ H fun x H1=>Q (.bl (decide (x= .cS))) H1
def RD(ta:TE):TE:=fun σ H Q=>ta σ H fun x H1=>Q (.bl (!decide (x= .cS))) H1
theorem RelV.xN{x:V}{v:Value}(r:RelV x v):(v==Value.none)=decide (x= .cS):=by
 cases x with
 |cS=>cases r;rfl
 |bl _=>cases r;rfl
 |int _=>obtain⟨t,rfl⟩:=r;rfl
 |str _=>obtain⟨t,rfl⟩:=r;rfl
 |zA _=>obtain⟨t,rfl⟩:=r;rfl
 |Ma _=>obtain⟨t,rfl⟩:=r;rfl
 |ref _=>cases r;rfl
 |ty _=>cases r;rfl
theorem E6{j pos'}(ha:PE X a ta):PC X .Is a (.Constant .none j pos') (ZN ta):=by
 intro pins s σ H Q I h
 refine bV (ha pins s σ H _ I h) fun v s1 ⟨x,H1,I1,r1,q1⟩=>?_
 exact Constant_none (is_none_gen ⟨.bl _,H1,I1,by rw[r1.xN];rfl,q1⟩)
theorem A8{j pos'}(ha:PE X a ta):PC X .IsNot a (.Constant .none j pos') (RD ta):=by
 intro pins s σ H Q I h
 refine bV (ha pins s σ H _ I h) fun v s1 ⟨x,H1,I1,r1,q1⟩=>?_
 exact Constant_none (isnot_none_gen ⟨.bl _,H1,I1,by rw[r1.xN];rfl,q1⟩)
def tB(t:TE):TT:=fun σ H Q=>t σ H fun x H1=>∃c,x= .bl c∧Q c H1
theorem vj{op:CmpOp}{t:TE}(h:PC X op a b t)(h1:behindInMarks op b=false:=by first|exact E5 _ (by decide) (by decide) |rfl):PT X (.Compare a [op] [b] pos) (tB t):=by
 intro pins s σ H Q I hw
 refine wpAny_isTrue_Compare1 (bV (h pins s σ H _ I hw) fun v s1 h1=>bV h1 fun u s2 h2=>bV h2 fun c s3 ⟨x,H1,I1,r1,q1⟩=>?_) h1
 obtain⟨d,rfl,q⟩:=q1
 cases r1
 exact wpAny_truthy_bool ⟨H1,I1,q⟩
theorem fK{e:Expr}{t:TE}(h:PE X e t)(he:∀whole,isTrue e X.env whole=(do let v←whole;standAt e.pos;holding [v] (truthy v)):=by intro _;rfl):PT X e (tB t):=by
 intro pins s σ H Q I hw
 refine isTrue_plain (bV (h pins s σ H _ I hw) fun v s1 ⟨x,H1,I1,r1,q1⟩=>?_) (he _)
 obtain⟨d,rfl,q⟩:=q1
 cases r1
 exact wpAny_truthy_bool ⟨H1,I1,q⟩
variable {tA YL:TT}{rest:List Expr}
def ZO(t u:TT):TT:=fun σ H Q=>t σ H fun c H1=>if c=true then u σ H1 Q else Q false H1
def tOr(t u:TT):TT:=fun σ H Q=>t σ H fun c H1=>if c=true then Q true H1 else u σ H1 Q
def ZP(t:TT):TT:=fun σ H Q=>t σ H fun c H1=>Q (!c) H1
theorem kG(ha:PT X a tA):PW X (.BoolOp .And [a] pos) tA:=by
 intro wh pins s σ H Q I h
 refine isTrue_and (bV (ha pins s σ H Q I h) fun c s1 e=>?_)
 cases c with
 |true=>exact isTrue_and_nil e
 |false=>exact e
theorem vk(ha:PT X a tA):PW X (.BoolOp .Or [a] pos) tA:=by
 intro wh pins s σ H Q I h
 refine isTrue_or (bV (ha pins s σ H Q I h) fun c s1 e=>?_)
 cases c with
 |false=>exact isTrue_or_nil e
 |true=>exact e
theorem lM(ha:PT X a tA)(hb:PW X (.BoolOp .And (b::rest) pos) YL):PW X (.BoolOp .And (a::b::rest) pos) (ZO tA YL):=by
 intro wh pins s σ H Q I h
 refine isTrue_and (bV (ha pins s σ H _ I h) fun c s1 ⟨H1,I1,q1⟩=>?_)
 cases c with
 |true=>exact hb wh pins s1 σ H1 Q I1 q1
 |false=>exact⟨H1,I1,q1⟩
theorem xO(ha:PT X a tA)(hb:PW X (.BoolOp .Or (b::rest) pos) YL):PW X (.BoolOp .Or (a::b::rest) pos) (tOr tA YL):=by
 intro wh pins s σ H Q I h
 refine isTrue_or (bV (ha pins s σ H _ I h) fun c s1 ⟨H1,I1,q1⟩=>?_)
 cases c with
 |true=>exact⟨H1,I1,q1⟩
 |false=>exact hb wh pins s1 σ H1 Q I1 q1
theorem jU(ha:PT X a tA):PT X (.UnaryOp .Not a pos) (ZP tA):=by
 intro pins s σ H Q I h
 exact isTrue_not (ha pins s σ H (fun c H1=>Q (!c) H1) I h)
def RE(ta tb:TE):TE:=fun σ H Q=>ta σ H fun x H1=>∃c,x= .bl c∧if c=true then tb σ H1 Q else Q (.bl false) H1
def RF(ta:TE):TE:=fun σ H Q=>ta σ H fun x H1=>∃c,x= .bl c∧Q (.bl (!c)) H1
theorem NL{op}{t:TE}(h:PE X a t):PE X (.BoolOp op [a] pos) t:=fun pins s σ H Q I hw=>BoolOp_one (h pins s σ H Q I hw)
theorem NM(ha:PE X a ta)(hb:PE X (.BoolOp .And (b::rest) pos) tb):PE X (.BoolOp .And (a::b::rest) pos) (RE ta tb):=by
 intro pins s σ H Q I h
 refine BoolOp_and (bV (ha pins s σ H _ I h) fun v s1 ⟨x,H1,I1,r1,q1⟩=>?_)
 obtain⟨c,rfl,q1⟩:=q1
 cases r1
 refine wpAny_truthy_bool ?_
 cases c with
 |true=>exact hb pins s1 σ H1 Q I1 q1
 |false=>exact⟨.bl false,H1,I1,rfl,q1⟩
theorem NN(ha:PE X a ta):PE X (.UnaryOp .Not a pos) (RF ta):=by
 intro pins s σ H Q I h
 refine UnaryOp_ (bV (ha pins s σ H _ I h) fun v s1 ⟨x,H1,I1,r1,q1⟩=>?_)
 obtain⟨c,rfl,q1⟩:=q1
 cases r1
 exact not_of (wpAny_truthy_bool ⟨.bl (!c),H1,I1,rfl,q1⟩)
def tIf(t:TT)(ta tb:TE):TE:=fun σ H Q=>t σ H fun c H1=>if c=true then ta σ H1 Q else tb σ H1 Q
theorem xP{c:Expr}(hc:PT X c tA)(ha:PE X a ta)(hb:PE X b tb):PE X (.IfExp c a b pos) (tIf tA ta tb):=by
 intro pins s σ H Q I h
 refine wpAny_IfExp (bV (hc pins s σ H _ I h) fun d s1 ⟨H1,I1,q1⟩=>?_)
 cases d with
 |true=>exact ha pins s1 σ H1 Q I1 q1
 |false=>exact hb pins s1 σ H1 Q I1 q1
end
end L2
namespace L2
open PySem PySem.Spec PyProof.Rows
def bJ(K:PySem.W.Frag)(H:Hp)(a:Addr)(xs:List V):Prop:=
 Rd H a (.lst xs)∨
  ∃(o:Obj) (its:Array Value) (n:Nat),K.lookup a=some o∧o.cls= .type "list" ∧o.dict=none∧o.data= .seq its n∧its.size≤sizeLine∧Vals xs its.toList
def ir(K:PySem.W.Frag)(H:Hp)(a:Addr)(xs:List V):Prop:=
 Rd H a (.tup xs)∨
  ∃(o:Obj) (its:Array Value) (n:Nat),K.lookup a=some o∧o.cls= .type "tuple" ∧o.data= .seq its n∧its.size≤sizeLine∧Vals xs its.toList
def ZQ:Value→Option V
 | .none=>some .cS
 | .bool b=>some (.bl b)
 | .int i _=>some (.int i)
 | .str x _=>some (.str x)
 | .bytes b _=>some (.zA b)
 | .float b _=>some (.Ma b)
 | .ref a=>some (.ref a)
 | .type n=>some (.ty n)
 |_=>none
theorem RelV.abs{x:V}{u:Value}(r:RelV x u):ZQ u=some x:=by
 cases x with
 |cS=>cases r;rfl
 |bl _=>cases r;rfl
 |int _=>obtain⟨t,rfl⟩:=r;rfl
 |str _=>obtain⟨t,rfl⟩:=r;rfl
 |zA _=>obtain⟨t,rfl⟩:=r;rfl
 |Ma _=>obtain⟨t,rfl⟩:=r;rfl
 |ref _=>cases r;rfl
 |ty _=>cases r;rfl
theorem RelV.inj{x y:V}{u:Value}(r:RelV x u)(q:RelV y u):x=y:=Option.some.inj (r.abs.symm.trans q.abs)
theorem Vals.inj:∀{xs ys:List V} {us:List Value},Vals xs us→Vals ys us→xs=ys
 |_,_,_, .nil, .nil=>rfl
 |_,_,_, .cons r t, .cons r' t'=>by rw[r.inj r',Vals.inj t t']
section
variable {X:Cx}{pins:List (Addr×Obj)}{σ:St}{H:Hp}{s:Shared}{a:Addr}{xs ys:List V}
theorem bJ.of{K:PySem.W.Frag}(h:H a=some (.lst xs)):bJ K H a xs:= .inl (.inl h)
theorem ir.of{K:PySem.W.Frag}(h:H a=some (.tup xs)):ir K H a xs:= .inl (.inl h)
theorem Inv.list(I:Inv X pins σ H s)(h:bJ X.K H a xs):∃its:List Value,Vals xs its∧PlainL s.heap a its.toArray∧xs.length≤sizeLine:=by
 rcases h with h| ⟨o,its,n,hk,hc,hd,hs,hz,r⟩
 ·obtain⟨z,its,n,r,e⟩:=h.ok I.aV
  exact⟨its,r,⟨_,n,e,rfl,rfl,rfl⟩,z⟩
 ·refine⟨its.toList,r,⟨o,n,I.jN a o hk,hc,hd,by simpa using hs⟩,?_⟩
  have e:=r.length
  simp only [Array.length_toList] at e
  omega
theorem Inv.tuple(I:Inv X pins σ H s)(h:ir X.K H a xs):∃its:List Value,Vals xs its∧IsTup s.heap a its.toArray∧xs.length≤sizeLine:=by
 rcases h with h| ⟨o,its,n,hk,hc,hs,hz,r⟩
 ·obtain⟨z,its,r,p⟩:=h.ok I.aV
  exact⟨its,r,p,z⟩
 ·refine⟨its.toList,r,⟨o,I.jN a o hk,hc,n,by simpa using hs⟩,?_⟩
  have e:=r.length
  simp only [Array.length_toList] at e
  omega
theorem Inv.xQ(I:Inv X pins σ H s)(h:bJ X.K H a xs)(h':bJ X.K H a ys):xs=ys:=by
 obtain⟨its,r,⟨o,n,e,_,_,d⟩,_⟩:=I.list h
 obtain⟨its',r',⟨o',n',e',_,_,d'⟩,_⟩:=I.list h'
 rw[e] at e';cases e'
 rw[d] at d'
 injection d' with d1 _
 have:its=its':=by simpa using congrArg Array.toList d1
 subst this
 exact r.inj r'
end
abbrev Cx.jV(X:Cx)(E:Value→Shared→Prop):Cx:={ X with xe:=E }
abbrev Cx.E7(X:Cx):Cx:=X.jV fun _ _=>False
theorem Cx.Ok.jV{X:Cx}(ok:X.Ok)(E:Value→Shared→Prop):(X.jV E).Ok:=
 ⟨ok.mod,ok.kind,ok.glob,ok.blt,ok.above,ok.inj,ok.has,ok.JI,ok.hd,ok.frames,ok.Mc,ok.Q3,ok.bs,ok.C0,ok.vd,ok.ve,ok.lq,ok.E2⟩
theorem Cx.Ok.dX{X:Cx}{E:Value→Shared→Prop}(ok:(X.jV E).Ok):X.Ok:=
 ⟨ok.mod,ok.kind,ok.glob,ok.blt,ok.above,ok.inj,ok.has,ok.JI,ok.hd,ok.frames,ok.Mc,ok.Q3,ok.bs,ok.C0,ok.vd,ok.ve,ok.lq,ok.E2⟩
section
variable {X:Cx}{pins:List (Addr×Obj)}{σ:St}{H:Hp}{s:Shared}{E:Value→Shared→Prop}
theorem Inv.jV(I:Inv X pins σ H s)(E:Value→Shared→Prop):Inv (X.jV E) pins σ H s:=⟨I.ok.jV E,I.os,I.bare,I.base,I.loc,I.cell,I.free,I.gY,I.pin,I.aV,I.len⟩
theorem Inv.dX(I:Inv (X.jV E) pins σ H s):Inv X pins σ H s:=⟨I.ok.dX,I.os,I.bare,I.base,I.loc,I.cell,I.free,I.gY,I.pin,I.aV,I.len⟩
theorem SP.dX{D:Ends}{f:Flow}{s':Shared}(h:SP (X.jV E) pins D f s'):SP X pins D f s':=by
 cases f with
 |next=>obtain⟨σ',H',I,q⟩:=h;exact⟨σ',H',I.dX,q⟩
 |brk=>obtain⟨σ',H',I,q⟩:=h;exact⟨σ',H',I.dX,q⟩
 |cont=>obtain⟨σ',H',I,q⟩:=h;exact⟨σ',H',I.dX,q⟩
 |ret u=>obtain⟨v,σ',H',I,r,q⟩:=h;exact⟨v,σ',H',I.dX,r,q⟩
theorem lK.E7{st:List Stmt}{t:TS}(h:lK X.E7 st t):lK X st t:=fun pins s σ H D I hw=>
 wpAny_mono (h pins s σ H D (I.jV _) hw) (fun _ _ q=>q.dX) fun _ _ z=>False.elim z
end
section
variable {X:Cx}{st:Stmt}{rest:List Stmt}{t u:TS}{e:Expr}{te:TE}{pos:Pos}
def A9:TS:=fun D σ H=>D.nx σ H
def JJ(t u:TS):TS:=fun D σ H=>t { D with nx:=u D } σ H
theorem aY:lK X [] A9:=fun _ _ σ H _ I h=>wpAny_execs_nil ⟨σ,H,I,h⟩
theorem ai(h1:PS X st t)(h2:lK X rest u):lK X (st::rest) (JJ t u):=by
 intro pins s σ H D I h
 refine wpAny_execs_cons (bV (h1 pins s σ H { D with nx:=u D } I h) fun f s1 q=>?_)
 cases f with
 |next=>
  obtain⟨σ',H',I',q⟩:=q
  exact h2 pins s1 σ' H' D I' q
 |ret v=>exact q
 |brk=>exact q
 |cont=>exact q
theorem ao(h1:PS X st t):lK X [st] t:=by
 intro pins s σ H D I h
 refine wpAny_execs_cons (bV (h1 pins s σ H D I h) fun f s1 q=>?_)
 cases f with
 |next=>exact wpAny_execs_nil q
 |ret v=>exact q
 |brk=>exact q
 |cont=>exact q
theorem Inv.quiet{pins:List (Addr×Obj)}{σ:St}{H:Hp}{s:Shared}(I:Inv X pins σ H s):interactive X.env=false:=by simp [interactive,I.ok.kind]
def RG(te:TE):TS:=fun D σ H=>te σ H fun _ H1=>D.nx σ H1
theorem bb(he:PE X e te)(hs:swapsWith e none pos.line X.env=pure false:=by rfl):PS X (.Expr e pos) (RG te):=by
 intro pins s σ H D I h
 exact wpAny_Expr_any (bV (he pins s σ H _ I h) fun v s1 ⟨x,H1,I1,r1,q1⟩=>⟨σ,H1,I1,q1⟩) I.quiet hs
def ZR(te:TE):TS:=fun D σ H=>te σ H D.rt
theorem aE(he:PE X e te):PS X (.Return (some e) pos) (ZR te):=by
 intro pins s σ H D I h
 exact wpAny_Return_some (bV (he pins s σ H _ I h) fun v s1 ⟨x,H1,I1,r1,q1⟩=>⟨x,σ,H1,I1,r1,q1⟩)
def RH:TS:=fun D _ H=>D.rt .cS H
theorem JK:PS X (.Return none pos) RH:=fun _ _ σ H _ I h=>wpAny_Return_none ⟨.cS,σ,H,I,rfl,h⟩
def NO(c:TT)(t u:TS):TS:=fun D σ H=>c σ H fun b H1=>if b=true then t D σ H1 else u D σ H1
theorem bN{c:Expr}{a b:List Stmt}{tc:TT}(hc:PT X c tc)(ha:lK X a t)(hb:lK X b u):PS X (.If c a b pos) (NO tc t u):=by
 intro pins s σ H D I h
 refine wpAny_If (bV (hc pins s σ H _ I h) fun d s1 ⟨H1,I1,q1⟩=>?_)
 cases d with
 |true=>exact ha pins s1 σ H1 D I1 q1
 |false=>exact hb pins s1 σ H1 D I1 q1
def NP:TS:=fun _ _ _=>False
theorem f9:PS X st NP:=fun _ _ _ _ _ _ h=>h.elim
end
abbrev TG:=V→St→Hp→(St→Hp→Prop)→Prop
abbrev Mg:=List V→St→Hp→(St→Hp→Prop)→Prop
def PG(X:Cx)(target:Expr)(t:TG):Prop:=
 ∀(pins:List (Addr×Obj)) (s:Shared) (σ:St) (H:Hp) (v:V) (u:Value) (Q:St→Hp→Prop),Inv X pins σ H s→RelV v u→t v σ H Q→
  wpAny (model X.prog X.w) X.A (assign target X.env u) (fun _ s'=>∃σ' H',Inv X pins σ' H' s'∧Q σ' H') X.xe s
def Q4(X:Cx)(ts:List Expr)(t:Mg):Prop:=
 ∀(pins:List (Addr×Obj)) (s:Shared) (σ:St) (H:Hp) (vs:List V) (us:List Value) (Q:St→Hp→Prop),Inv X pins σ H s→Vals vs us→t vs σ H Q→
  wpAny (model X.prog X.w) X.A (assignInOrder ((assignEach ts X.env).map (·.2)) us) (fun _ s'=>∃σ' H',Inv X pins σ' H' s'∧Q σ' H') X.xe s
abbrev NQ:=V→V→V→Hp→(Hp→Prop)→Prop
def RK(X:Cx)(t:NQ):Prop:=
 ∀(pins:List (Addr×Obj)) (s:Shared) (σ:St) (H:Hp) (o i v:V) (ov iv u:Value) (Q:Hp→Prop),Inv X pins σ H s→RelV o ov→RelV i iv→RelV v u→t o i v H Q→
  wpAny (model X.prog X.w) X.A (setItem ov iv u) (fun _ s'=>∃H',Inv X pins σ H' s'∧Q H') X.xe s
section
variable {X:Cx}{pos:Pos}
def cN(i:Nat):TG:=fun v σ H Q=>Q (σ.set i (some v)) H
theorem aD{i:Nat}{x:Str}(hN:X.N.Nodup)(hi:X.N[i]? =some x)(hx:Loc X.env.scope x)(hf:X.fn x=true∨X.env.scope.names.lookup x=some .local:=by first|exact .inl rfl|exact .inr rfl|assumption):PG X (.Name x pos) (cN i):=by
 intro pins s σ H v u Q I r h
 exact wpAny_assign_Name (store_ok I hN hi hx r (fun s' I'=>⟨_,H,I',h⟩) hf)
def ZS:Mg:=fun vs σ H Q=>vs=[]∧Q σ H
def RL(t:TG)(u:Mg):Mg:=fun vs σ H Q=>∃v r,vs=v::r∧t v σ H fun σ' H'=>u r σ' H' Q
theorem cK:Q4 X [] ZS:=by
 intro pins s σ H vs us Q I r h
 obtain⟨e,h⟩:=h
 subst e
 cases r
 exact assignInOrder_nil ⟨σ,H,I,h⟩
theorem aQ{e:Expr}{es:List Expr}{t:TG}{u:Mg}(h1:PG X e t)(h2:Q4 X es u)
  (hs:(assignEach (e::es) X.env).map (·.2)=assign e X.env::(assignEach es X.env).map (·.2):=by rfl):Q4 X (e::es) (RL t u):=by
 intro pins s σ H vs us Q I r h
 obtain⟨v,vr,e1,h⟩:=h
 subst e1
 cases r with
 |cons r rr=>
  rw[hs]
  refine assignInOrder_cons (bV (h1 pins s σ H _ _ _ I r h) fun _ s1 ⟨σ1,H1,I1,q1⟩=>?_)
  exact h2 pins s1 σ1 H1 _ _ Q I1 rr q1
def RM(K:PySem.W.Frag)(n:Nat)(t:Mg):TG:=fun v σ H Q=>∃a xs,v= .ref a∧ir K H a xs∧xs.length=n∧t xs σ H Q
theorem fi{es:List Expr}{k:Nat}{t:Mg}{n:Nat}(hc:X.calm=true)(h:Q4 X es t)
  (hn:(assignEach es X.env).length=n:=by rfl) (iV:(assignEach es X.env).findIdx? (·.1)=none:=by rfl):PG X (.Tuple es k pos) (RM X.K n t):=by
 intro pins s σ H v u Q I r hw
 obtain⟨a,xs,e1,hq,hl,hw⟩:=hw
 subst e1
 cases r
 obtain⟨its,rv,ht,hz⟩:=I.tuple hq
 refine assign_Tuple_tuple (I.ok.hd hc) ht (by simp [hn,←hl,rv.length]) iV fun h' hx=>?_
 have I1:Inv X pins σ H { s with heap:=h' }:=I.kept (t':=s.toks) fun b o e=>hx b o (Nat.ne_of_lt (Heap.lt_size e)) e
 exact h pins _ σ H xs _ Q I1 (by simpa using rv) hw
def ZT(to ti:TE)(t:NQ):TG:=fun v σ H Q=>to σ H fun o H1=>ti σ H1 fun i H2=>t o i v H2 fun H3=>Q σ H3
theorem NR{o i:Expr}{to ti:TE}{t:NQ}(ho:PE X o to)(hi:PE X i ti)(hs:RK X t)
  (ha:∀v,assign (.Subscript o i pos) X.env v=(do
   let ov←holding [v] (eval o X.env)
   let iv←holding [v,ov] (eval i X.env)
   standAt pos
   holding [v,ov,iv] (setItem ov iv v)
   release [v,ov,iv] []):=by intro _;rfl):PG X (.Subscript o i pos) (ZT to ti t):=by
 intro pins s σ H v u Q I r h
 rw[ha]
 refine wpAny_bind (wpAny_holding (bV (ho pins s σ H _ I h) fun ov s1 ⟨x,H1,I1,r1,q1⟩=>?_))
 refine wpAny_bind (wpAny_holding (bV (hi pins s1 σ H1 _ I1 q1) fun iv s2 ⟨y,H2,I2,r2,q2⟩=>?_))
 refine wpAny_bind (wpAny_standAt (wpAny_bind (wpAny_holding (bV (hs pins s2 σ H2 x y v ov iv u _ I2 r1 r2 r q2) fun _ s3 ⟨H3,I3,q3⟩=>?_))))
 exact wpAny_release ⟨σ,H3,I3,q3⟩
def JL(te:TE)(g:TG):TS:=fun D σ H=>te σ H fun x H1=>g x σ H1 D.nx
theorem zC{tg e:Expr}{te:TE}{g:TG}(he:PE X e te)(hg:PG X tg g)(hs:swapsWithSole [tg] e pos.line X.env=pure false:=by rfl)(hw:swappedStores [tg] e X.env=pure none:=by rfl)
  (h1:(assignEach [tg] X.env).map (·.2)=[assign tg X.env]:=by rfl):PS X (.Assign [tg] e pos) (JL te g):=by
 intro pins s σ H D I h
 refine wpAny_Assign_stores (bV (he pins s σ H _ I h) fun v s1 ⟨x,H1,I1,r1,q1⟩=>?_) hs hw
 rw[h1]
 exact bV (hg pins s1 σ H1 x v _ I1 r1 q1) fun _ s2 q=>q
theorem aB{i:Nat}{x:Str}{e:Expr}{te:TE}{pos':Pos}(hN:X.N.Nodup)(hi:X.N[i]? =some x)(hx:Loc X.env.scope x)(he:PE X e te)(hs:swapsWith e (some (.Name x pos')) pos.line X.env=pure false:=by rfl)(hf:X.fn x=true∨X.env.scope.names.lookup x=some .local:=by first|exact .inl rfl|exact .inr rfl|assumption):
  PS X (.Assign [.Name x pos'] e pos) (JL te (cN i)):=by
 intro pins s σ H D I h
 refine wpAny_Assign_Name (bV (he pins s σ H _ I h) fun v s1 ⟨y,H1,I1,r1,q1⟩=>?_) hs
 exact store_ok I1 hN hi hx r1 (fun s2 I2=>⟨_,H1,I2,q1⟩) hf
end
section
variable {X:Cx}{pos:Pos}
def NS(c:TT)(tb:TS):TS:=fun D σ H=>∃W:Nat→St→Hp→Prop,(∃m,W m σ H)∧∀m σ H,W m σ H→
 c σ H fun b H1=>if b=true then∃N:St→Hp→Prop,(∀σ' H',N σ' H'→∃m',m'<m∧W m' σ' H')∧tb { D with nx:=N,ct:=N,bk:=D.nx } σ H1 else D.nx σ H1
theorem iW{c:Expr}{body:List Stmt}{tc:TT}{tb:TS}(hp:PassesOwn (model X.prog X.w) X.A X.env X.xe)(hc:PT X c tc)(hb:lK X body tb):PS X (.While c body [] pos) (NS tc tb):=by
 intro pins s σ H D I h
 obtain⟨W,⟨m0,w0⟩,turn⟩:=h
 refine wpAny_While (codeAny_whileLoop (fun n s'=>∃σ' H',Inv X pins σ' H' s'∧W n σ' H') ?_ m0 ⟨σ,H,I,w0⟩)
 rintro n s1 ⟨σ1,H1,I1,w1⟩
 refine wpAny_passesOwn hp (bV (hc pins s1 σ1 H1 _ I1 (turn n σ1 H1 w1)) fun b s2 ⟨H2,I2,q2⟩=>?_)
 cases b with
 |true=>
  obtain⟨N,hN,q2⟩:=q2
  rw[if_pos rfl]
  refine wpAny_passesOwn hp (bV (hb pins s2 σ1 H2 _ I2 q2) fun f s3 q3=>?_)
  cases f with
  |next=>
   obtain⟨σ3,H3,I3,n3⟩:=q3
   obtain⟨m',hm,w3⟩:=hN σ3 H3 n3
   exact⟨m',hm,σ3,H3,I3,w3⟩
  |cont=>
   obtain⟨σ3,H3,I3,n3⟩:=q3
   obtain⟨m',hm,w3⟩:=hN σ3 H3 n3
   exact⟨m',hm,σ3,H3,I3,w3⟩
  |brk=>exact q3
  |ret v=>exact q3
 |false=>
  rw[if_neg Bool.false_ne_true]
  exact wpAny_execs_nil ⟨σ1,H2,I2,q2⟩
end
structure It where
 go:Nat→Hp→Prop
 px:Nat→Hp→V→Hp→Prop
 stop:Nat→Hp→Prop
def lu(X:Cx)(pins:List (Addr×Obj))(H:Hp)(b:Addr):Prop:=
 H b=none∧b≠X.env.locals∧b∉X.fs∧(b∈X.ex∨X.s₀.heap.objs.size≤b)∧(∀x c,X.env.cells.lookup x=some c→c≠b)∧∀p∈X.pn++pins,p.1≠b
theorem Inv.zD{X:Cx}{pins:List (Addr×Obj)}{σ:St}{H H':Hp}{s:Shared}{b:Addr}(I:Inv X pins σ H s)(hb:s.heap.objs.size≤b)(hn:H' b=none):lu X pins H' b:=by
 refine⟨hn,Nat.ne_of_gt (Nat.lt_of_lt_of_le I.lt hb),I.ZJ hb, .inr (Nat.le_trans I.sz hb),fun x c e z=>?_,fun p hp z=>?_⟩
 ·obtain⟨v,q⟩:=I.cell x c e
  exact absurd (Nat.lt_of_lt_of_le q.lt (by rw[z];exact hb)) (Nat.lt_irrefl _)
 ·exact absurd (Nat.lt_of_lt_of_le (Heap.lt_size (I.pin p hp).1) (by rw[z];exact hb)) (Nat.lt_irrefl _)
structure Turn(P:Program)(w:World)(K:PySem.W.Frag)(tg:Expr)(J:It)(fp:List Addr)(it:Addr)(tn:Nat→Heap→Prop):Prop where
 mem:it∈fp
 obj:∀i h,tn i h→∀b∈fp,∃o,h.get? b=some o∧∀v,o.data≠ .cell v
 keep:∀i h h',tn i h→(∀b∈fp,∀o,h.get? b=some o→h'.get? b=some o)→tn i h'
 item:∀(X:Cx),X.prog=P→X.w=w→X.K=K→X.calm=true→∀(i:Nat) (pins:List (Addr×Obj)) (s:Shared) (σ:St) (H:Hp) (E:Value→Shared→Prop),Inv X pins σ H s→(∀b∈fp,lu X pins H b)→tn i s.heap→J.go i H→
  wpAny (model P w) X.A (pyNext (.ref it)) (fun r s1=>∃u,r=some u∧
   wpAny (model P w) X.A (letOwnedTupleGo tg (.ref it) u) (fun _ s2=>∃x H',Inv X pins σ H' s2∧RelV x u∧J.px i H x H'∧tn (i+1) s2.heap∧∀b∈fp,H' b=none) E s1) E s
 done:∀(X:Cx),X.prog=P→X.w=w→X.K=K→X.calm=true→∀(i:Nat) (pins:List (Addr×Obj)) (s:Shared) (σ:St) (H:Hp) (E:Value→Shared→Prop),Inv X pins σ H s→(∀b∈fp,lu X pins H b)→tn i s.heap→J.stop i H→
  wpAny (model P w) X.A (pyNext (.ref it)) (fun r s1=>r=none∧Inv X pins σ H s1) E s
 self:∀(A:Around) (i:Nat) (s:Shared) (Q:Value→Shared→Prop) (E:Value→Shared→Prop),tn i s.heap→Q (.ref it) s→wpAny (model P w) A (pyIter (.ref it)) Q E s
abbrev TI:=St→Hp→(It→Hp→Prop)→Prop
def PIE(X:Cx)(pins:List (Addr×Obj))(σ:St)(tg:Expr)(R:It→Hp→Prop)(YM:Value)(s2:Shared):Prop:=
 ∃(it:Addr) (fp:List Addr) (tn:Nat→Heap→Prop) (J:It) (H':Hp),YM= .ref it∧Inv X pins σ H' s2∧Turn X.prog X.w X.K tg J fp it tn∧tn 0 s2.heap∧(∀b∈fp,lu X pins H' b)∧R J H'
def PI(X:Cx)(tg iter:Expr)(wi:TI):Prop:=
 ∀(pins:List (Addr×Obj)) (s:Shared) (σ:St) (H:Hp) (R:It→Hp→Prop),Inv X pins σ H s→wi σ H R→
  wpAny (model X.prog X.w) X.A (eval iter X.env) (fun v s1=>wpAny (model X.prog X.w) X.A (pyIter v) (PIE X pins σ tg R) X.xe s1) X.xe s
theorem A'{M:Model}{A:Around}{E:Value→Shared→Prop}{s:Shared}{tg:Expr}{it:Addr}{u:Value}{o:Obj}{n:String}{vs:Array Value}{Q:Unit→Shared→Prop}(ho:s.heap.get? it=some o)(hc:o.cls= .type n)(hd:o.data= .fields vs)
  (hn:["enumerate","zip","dict_itemiterator","dict_reverseitemiterator","odict_iterator","itertools.zip_longest","itertools.pairwise"].contains n=false) (hQ:Q () s):wpAny M A (letOwnedTupleGo tg (.ref it) u) Q E s:=by
 unfold letOwnedTupleGo
 cases tg<;>first
  |exact wpAny_pure hQ
  | (cases u<;>first
    |exact wpAny_pure hQ
    | (refine wpAny_bind (wpAny_load ho ?_)
       rw[hc,hd]
       show wpAny M A (if (["enumerate","zip","dict_itemiterator","dict_reverseitemiterator","odict_iterator","itertools.zip_longest","itertools.pairwise"].contains n&&vs[0]? ==some (rawInt _))=true then _ else _) Q E s
       rw[if_neg (by intro h;rw[hn,Bool.false_and] at h;cases h)]
       exact wpAny_pure hQ))
def Ba(K:PySem.W.Frag)(a:Addr):It:=
 ⟨fun i H=>∃xs x,bJ K H a xs∧xs[i]? =some x,fun i H x H'=>H'=H∧∀xs,bJ K H a xs→xs[i]? =some x,fun i H=>∃xs,bJ K H a xs∧xs.length≤i⟩
def EL(lo:Int)(n:Nat):It:=⟨fun i _=>i<n,fun i H x H'=>H'=H∧x= .int (lo+i),fun i _=>n≤i⟩
theorem C1{P:Program}{w:World}{K:PySem.W.Frag}{tg:Expr}(a it:Addr):Turn P w K tg (Ba K a) [it] it (fun i h=>h.IsListIter it a i) where
 mem:=by simp
 obj:=fun i h st b hb=>by
  have e:b=it:=by simpa using hb
  subst e
  obtain⟨o,e,c,d⟩:=st
  exact⟨o,e,fun v z=>by rw[d] at z;cases z⟩
 keep:=fun i h h' st k=>st.at fun o e=>k it (by simp) o e
 item:=by
  intro X hP hw hK hc i pins s σ H E I hf st hg
  subst hP hw hK
  obtain⟨xs,x,hq,hx⟩:=hg
  obtain⟨its,rv,p,hz⟩:=I.list hq
  obtain⟨u,hu,ru⟩:=rv.get hx
  obtain⟨f0,f1,f2,f3,f4,f5⟩:=hf it (by simp)
  refine wpAny_pyNext_list_item st p.isList (x:=u) (by simpa using hu) fun h' Bb sb=>?_
  have I1:Inv X pins σ H { s with heap:=h' }:=I.turned (t':=s.toks) (fun b o hb e=>(sb.2 b hb).trans e) f0 f1 f3 f4 f5
  obtain⟨o,e,c,d⟩:=id Bb
  exact⟨u,rfl,A' (s:={ s with heap:=h' }) e c d (by decide) ⟨x,H,I1,ru,⟨rfl,fun ys hy=>by rw[I.xQ hy hq];exact hx⟩,Bb,fun b hb=>(hf b hb).1⟩⟩
 done:=by
  intro X hP hw hK hc i pins s σ H E I hf st hg
  subst hP hw hK
  obtain⟨xs,hq,hx⟩:=hg
  obtain⟨its,rv,p,hz⟩:=I.list hq
  obtain⟨f0,f1,f2,f3,f4,f5⟩:=hf it (by simp)
  have hl:=rv.length
  exact wpAny_pyNext_list_end (I.ok.hd hc) st p.isList (by simp;omega) fun h' eb=>⟨rfl,I.turned (t':=s.toks) (fun b o hb e=>eb b o hb e) f0 f1 f3 f4 f5⟩
 self:=fun _ _ _ _ _ st h=>wpAny_pyIter_listiter st h
theorem zE{P:Program}{w:World}{K:PySem.W.Frag}{tg:Expr}(it:Addr)(lo:Int)(n:Nat):Turn P w K tg (EL lo n) [it] it (fun i h=>IsRangeIter h it (lo+(i:Nat)*1) ((n:Int) - (i:Nat)) 1) where
 mem:=by simp
 obj:=fun i h st b hb=>by
  have e:b=it:=by simpa using hb
  subst e
  exact⟨_,st,fun v z=>by
   have z':Data.fields _=Data.cell v:=z
   cases z'⟩
 keep:=fun i h h' st k=>k it (by simp) _ st
 item:=by
  intro X hP hw hK hc i pins s σ H E I hf st hg
  subst hP hw hK
  obtain⟨f0,f1,f2,f3,f4,f5⟩:=hf it (by simp)
  have W:=Walks.range (prog:=X.prog) (w:=X.w) (I.ok.hd hc) it lo 1 n
  refine W.item i s _ _ hg st fun v h' tk hv Bb kk=>?_
  obtain⟨t,rfl⟩:=hv
  have I1:Inv X pins σ H { s with heap:=h',toks:=tk }:=I.turned (fun b o hb e=>kk b o (by simpa using hb) e) f0 f1 f3 f4 f5
  refine⟨_,rfl,A' (s:={ s with heap:=h',toks:=tk }) (n:="range_iterator") Bb rfl rfl (by decide) ⟨.int (lo+i),H,I1,⟨t,?_⟩,⟨rfl,rfl⟩,Bb,fun b hb=>(hf b hb).1⟩⟩
  rw[Int.mul_one]
 done:=by
  intro X hP hw hK hc i pins s σ H E I hf st hg
  subst hP hw hK
  obtain⟨f0,f1,f2,f3,f4,f5⟩:=hf it (by simp)
  exact wpAny_pyNext_range_end (I.ok.hd hc) st (by have:n≤i:=hg;omega) fun h' eb=>⟨rfl,I.turned (t':=s.toks) (fun b o hb e=>eb b o hb e) f0 f1 f3 f4 f5⟩
 self:=fun _ _ _ _ _ st h=>wpAny_pyIter_rangeiter st h
end L2
namespace L2
open PySem PySem.Spec PyProof.Rows
section
variable {X:Cx}{tg:Expr}
def Mh(K:PySem.W.Frag)(tl:TE):TI:=fun σ H R=>tl σ H fun x H1=>∃a,x= .ref a∧(∃xs,bJ K H1 a xs)∧R (Ba K a) H1
theorem bX{l:Expr}{tl:TE}(hl:PE X l tl):PI X tg l (Mh X.K tl):=by
 intro pins s σ H R I h
 refine bV (hl pins s σ H _ I h) fun v s1 ⟨x,H1,I1,r1,q1⟩=>?_
 obtain⟨a,e,⟨xs,hq⟩,q⟩:=q1
 subst e
 cases r1
 obtain⟨its,rv,p,hz⟩:=I1.list hq
 refine wpAny_pyIter_list p.isList ?_
 refine⟨s1.heap.objs.size,[s1.heap.objs.size],_,_,H1,rfl,I1.kept (t':=s1.toks) fun b o e=>Heap.get?_push_of_some _ e,C1 a _,⟨_,Heap.get?_push_size _ rfl,rfl,rfl⟩,fun b hb=>?_,q⟩
 have e:b=s1.heap.objs.size:=by simpa using hb
 subst e
 exact I1.zD (Nat.le_refl _) (I1.aV.fresh (Nat.le_refl _))
theorem E8{pins:List (Addr×Obj)}{σ:St}{H:Hp}{s:Shared}{R:It→Hp→Prop}{E:Value→Shared→Prop}{lo hi:Int}{t u v:Tok}{tk:Nat}(I:Inv X pins σ H s)(h1: -(2^62)≤lo)(h2:lo<2^62)(h3: -(2^62)≤hi)(h4:hi<2^62)
  (q:R (EL lo (hi - lo).toNat) H):wpAny (model X.prog X.w) X.A (pyIter (.ref s.heap.objs.size)) (PIE X pins σ tg R) E { s with heap:=s.heap.push { cls:= .type "range",data:= .fields #[.int lo t, .int hi u, .int 1 v] },toks:=tk }:=by
 refine wpAny_pyIter_range (IsRange.new ..) (small_one h1 h2 h3 h4) ?_
 have I1:Inv X pins σ H { s with heap:=s.heap.push { cls:= .type "range",data:= .fields #[.int lo t, .int hi u, .int 1 v] },toks:=tk }:=I.kept fun b o e=>Heap.get?_push_of_some _ e
 refine⟨(s.heap.push { cls:= .type "range",data:= .fields #[.int lo t, .int hi u, .int 1 v] }).objs.size,[(s.heap.push { cls:= .type "range",data:= .fields #[.int lo t, .int hi u, .int 1 v] }).objs.size],_,_,H,rfl,
  I1.kept (t':=tk) fun b o e=>Heap.get?_push_of_some _ e,zE _ lo (hi - lo).toNat,?_,fun b hb=>?_,q⟩
 ·have e1:lo+((0 :Nat):Int)*1=lo:=by simp
  have e2:(((hi - lo).toNat:Nat):Int) - ((0 :Nat):Int)=Builtin.Range.rangeSize lo hi 1:=by rw[rangeSize_one];split<;>omega
  show IsRangeIter _ _ (lo+((0 :Nat):Int)*1) ((((hi - lo).toNat:Nat):Int) - ((0 :Nat):Int)) 1
  rw[e1,e2]
  exact Heap.get?_push_size _ rfl
 ·have e:b=(s.heap.push { cls:= .type "range",data:= .fields #[.int lo t, .int hi u, .int 1 v] }).objs.size:=by simpa using hb
  subst e
  exact I1.zD (Nat.le_refl _) (I1.aV.fresh (Nat.le_refl _))
def RN(ta:TA):TI:=fun σ H R=>ta σ H fun vs H1=>∃j:Int,vs=[.int j]∧ -(2^62)≤j∧j<2^62∧R (EL 0 j.toNat) H1
theorem iX{a:Expr}{ta:TA}{p pos:Pos}(hg:Gl X "range")(hm:X.mg "range" =none)(ha:PA X [a] ta)(hs:starEach [a] X.env=[(false,eval a X.env)]:=by rfl):PI X tg (.Call (.Name "range" p) [a] [] pos) (RN ta):=by
 intro pins s σ H R I h
 refine Call_ (lL I hg hm boot_range (PyProof.Rows.callWith_type1 (bV (ha pos pins s σ H _ I h) fun us s1 ⟨vs,H1,I1,r1,q1⟩=>?_) hs rfl))
 obtain⟨j,e,q1,q2,q⟩:=q1
 subst e
 cases r1 with
 |cons r rr=>
  cases rr
  obtain⟨t,rfl⟩:=r
  exact call_range_1 (E8 I1 (by omega) (by omega) q1 q2 (by simpa using q))
def NT(wi:TI)(g:TG)(tb:TS):TS:=fun D σ H=>wi σ H fun J H1=>∃W:Nat→Nat→St→Hp→Prop,(∃m,W 0 m σ H1)∧∀i m σ H,W i m σ H→
 (J.stop i H∧D.nx σ H)∨(J.go i H∧∃N:St→Hp→Prop,(∀σ' H',N σ' H'→∃m',m'<m∧W (i+1) m' σ' H')∧∀x H',J.px i H x H'→g x σ H' fun σ2 H2=>tb { D with nx:=N,ct:=N,bk:=D.nx } σ2 H2)
def qk(fp:List Addr)(h:Heap):List (Addr×Obj):=fp.filterMap fun b=>(h.get? b).map fun o=>(b,o)
theorem je{fp:List Addr}{h:Heap}{b:Addr}{o:Obj}(hb:b∈fp)(e:h.get? b=some o):(b,o)∈qk fp h:=List.mem_filterMap.mpr ⟨b,hb,by rw[e];rfl⟩
theorem C2{fp:List Addr}{h:Heap}{p:Addr×Obj}(hp:p∈qk fp h):p.1∈fp∧h.get? p.1=some p.2:=by
 obtain⟨b,hb,e⟩:=List.mem_filterMap.mp hp
 cases q:h.get? b with
 |none=>rw[q] at e;cases e
 |some o=>
  rw[q] at e
  have e':(b,o)=p:=Option.some.inj e
  subst e'
  exact⟨hb,q⟩
theorem Inv.pinned{pins:List (Addr×Obj)}{σ:St}{H:Hp}{s:Shared}{fp:List Addr}(I:Inv X pins σ H s)(hf:∀b∈fp,lu X pins H b)(ho:∀b∈fp,∃o,s.heap.get? b=some o∧∀v,o.data≠ .cell v):Inv X (pins++qk fp s.heap) σ H s:=
 I.vh fun p hp=>(List.mem_append.mp hp).elim (fun z=>I.pin p (List.mem_append_right _ z)) fun z=>by
   obtain⟨hb,e⟩:=C2 z
   obtain⟨f0,f1,f2,_⟩:=hf p.1 hb
   obtain⟨o,e',d⟩:=ho p.1 hb
   rw[e] at e';cases e'
   exact⟨e,f0,f1,f2,d⟩
theorem Inv.gb{pins pl:List (Addr×Obj)}{σ:St}{H:Hp}{s:Shared}(I:Inv X (pins++pl) σ H s):Inv X pins σ H s:=I.vh fun p hp=>I.pin p (List.mem_append_right _ (List.mem_append_left _ hp))
theorem bO{iter:Expr}{body:List Stmt}{wi:TI}{g:TG}{tb:TS}{pos:Pos}(hp:PassesOwn (model X.prog X.w) X.A X.env X.xe)(hc:X.calm=true)(hi:PI X tg iter wi)(hg:PG X tg g)(hb:lK X body tb)
  (hs:∀x,foldedSetIterable iter X.env x=pure x:=by intro _;rfl):PS X (.For tg iter body [] pos) (NT wi g tb):=by
 intro pins s σ H D I h
 refine wpAny_For (bV (hi pins s σ H _ I h) fun v s1 h1=>bV h1 fun YM s2 h2=>?_) hs
 obtain⟨it,fp,tn,J,H2,e,I2,T,JM,f2,W,⟨m0,w0⟩,turn⟩:=h2
 subst e
 have zF:∀{H':Hp},(∀b∈fp,H' b=none)→∀b∈fp,lu X pins H' b:=fun hn b hb=>⟨hn b hb,(f2 b hb).2⟩
 refine codeAny_forLoop_any (fun n s'=>∃i σ' H',Inv X pins σ' H' s'∧tn i s'.heap∧(∀b∈fp,H' b=none)∧W i n σ' H') ?_ m0 ⟨0,σ,H2,I2,JM,fun b hb=>(f2 b hb).1,w0⟩
 rintro n s3 ⟨i,σ3,H3,I3,YN,fr3,w3⟩
 rcases turn i n σ3 H3 w3 with ⟨stop,qn⟩ | ⟨go,N,hN,step⟩
 ·refine wpAny_passesOwn hp (bV (T.done X rfl rfl rfl hc i pins s3 σ3 H3 X.xe I3 (zF fr3) YN stop) fun r s4 ⟨hr,I4⟩=>?_)
  subst hr
  exact wpAny_execs_nil ⟨σ3,H3,I4,qn⟩
 ·refine wpAny_passesOwn hp (bV (T.item X rfl rfl rfl hc i pins s3 σ3 H3 X.xe I3 (zF fr3) YN go) fun r s4 ⟨u,hr,h4⟩=>?_)
  subst hr
  refine wpAny_passesOwn hp (bV h4 fun _ s5 ⟨x,H5,I5,r5,y5,ZU,fr5⟩=>?_)
  have I5':=I5.pinned (zF fr5) (T.obj _ _ ZU)
  refine wpAny_passesOwn hp (bV (hg _ s5 σ3 H5 x u _ I5' r5 (step x H5 y5)) fun _ s6 ⟨σ6,H6,I6,q6⟩=>?_)
  refine wpAny_passesOwn hp (bV (hb _ s6 σ6 H6 _ I6 q6) fun f s7 q7=>?_)
  have again:∀{σ7:St} {H7:Hp},Inv X (pins++qk fp s5.heap) σ7 H7 s7→N σ7 H7→∃m,m<n∧∃i σ' H',Inv X pins σ' H' s7∧tn i s7.heap∧(∀b∈fp,H' b=none)∧W i m σ' H':=fun {σ7 H7} I7 n7=>by
   obtain⟨m',hm,w7⟩:=hN σ7 H7 n7
   refine⟨m',hm,i+1,σ7,H7,I7.gb,T.keep _ _ _ ZU fun b hb o e=>(I7.pin (b,o) (List.mem_append_right _ (List.mem_append_right _ (je hb e)))).1,fun b hb=>?_,w7⟩
   obtain⟨o,e,d⟩:=T.obj _ _ ZU b hb
   exact(I7.pin (b,o) (List.mem_append_right _ (List.mem_append_right _ (je hb e)))).2.1
  cases f with
  |next=>obtain⟨σ7,H7,I7,n7⟩:=q7;exact again I7 n7
  |cont=>obtain⟨σ7,H7,I7,n7⟩:=q7;exact again I7 n7
  |brk=>obtain⟨σ7,H7,I7,q7⟩:=q7;exact⟨σ7,H7,I7.gb,q7⟩
  |ret v=>obtain⟨x7,σ7,H7,I7,r7,q7⟩:=q7;exact⟨x7,σ7,H7,I7.gb,r7,q7⟩
end
theorem c9{K:PySem.W.Frag}{a:Addr}{xs:List V}{g:TG}{tb:TS}{D:Ends}{σ:St}{H:Hp}(Pv:Nat→St→Hp→Prop)(h0:Pv 0 σ H)(hl:∀i σ H,i≤xs.length→Pv i σ H→bJ K H a xs)
  (hs:∀i x σ H,xs[i]? =some x→Pv i σ H→g x σ H fun σ2 H2=>tb { D with nx:=Pv (i+1),ct:=Pv (i+1),bk:=D.nx } σ2 H2) (hd:∀σ H,Pv xs.length σ H→D.nx σ H):
  ∃W:Nat→Nat→St→Hp→Prop,(∃m,W 0 m σ H)∧∀i m σ H,W i m σ H→
   ((Ba K a).stop i H∧D.nx σ H)∨((Ba K a).go i H∧∃N:St→Hp→Prop,(∀σ' H',N σ' H'→∃m',m'<m∧W (i+1) m' σ' H')∧∀x H',(Ba K a).px i H x H'→g x σ H' fun σ2 H2=>tb { D with nx:=N,ct:=N,bk:=D.nx } σ2 H2):=by
 refine⟨fun i m σ H=>m=xs.length - i∧i≤xs.length∧Pv i σ H,⟨xs.length,by simp,Nat.zero_le _,h0⟩,?_⟩
 rintro i m σ H ⟨rfl,hi,p⟩
 have q:=hl i σ H hi p
 by_cases pz:i<xs.length
 ·refine .inr ⟨⟨xs,xs[i],q,by simp [pz]⟩,Pv (i+1),fun σ' H' p'=>⟨xs.length - (i+1),by omega,rfl,pz,p'⟩,fun x H' y=>?_⟩
  obtain⟨e,y⟩:=y
  subst e
  exact hs i x σ _ (y xs q) p
 ·have e:i=xs.length:=by omega
  subst e
  exact .inl ⟨⟨xs,q,Nat.le_refl _⟩,hd σ H p⟩
theorem nO{lo:Int}{n:Nat}{g:TG}{tb:TS}{D:Ends}{σ:St}{H:Hp}(Pv:Nat→St→Hp→Prop)(h0:Pv 0 σ H)
  (hs:∀i σ H,i<n→Pv i σ H→g (.int (lo+i)) σ H fun σ2 H2=>tb { D with nx:=Pv (i+1),ct:=Pv (i+1),bk:=D.nx } σ2 H2) (hd:∀σ H,Pv n σ H→D.nx σ H):
  ∃W:Nat→Nat→St→Hp→Prop,(∃m,W 0 m σ H)∧∀i m σ H,W i m σ H→
   ((EL lo n).stop i H∧D.nx σ H)∨((EL lo n).go i H∧∃N:St→Hp→Prop,(∀σ' H',N σ' H'→∃m',m'<m∧W (i+1) m' σ' H')∧∀x H',(EL lo n).px i H x H'→g x σ H' fun σ2 H2=>tb { D with nx:=N,ct:=N,bk:=D.nx } σ2 H2):=by
 refine⟨fun i m σ H=>m=n - i∧i≤n∧Pv i σ H,⟨n,by simp,Nat.zero_le _,h0⟩,?_⟩
 rintro i m σ H ⟨rfl,hi,p⟩
 by_cases pz:i<n
 ·refine .inr ⟨pz,Pv (i+1),fun σ' H' p'=>⟨n - (i+1),by omega,rfl,pz,p'⟩,fun x H' y=>?_⟩
  obtain⟨e,y⟩:=y
  subst e y
  exact hs i σ _ pz p
 ·have e:i=n:=by omega
  subst e
  exact .inl ⟨Nat.le_refl _,hd σ H p⟩
end L2
namespace L2
open PySem PySem.Spec PyProof.Rows
abbrev R2:=V→V→Hp→VK→Prop
def pA(X:Cx)(f:Value→Value→Sem Value)(r:R2):Prop:=
 ∀(pins:List (Addr×Obj)) (s:Shared) (σ:St) (H:Hp) (x y:V) (v u:Value) (Q:VK),Inv X pins σ H s→RelV x v→RelV y u→r x y H Q→
  wpAny (model X.prog X.w) X.A (f v u) (EP X pins σ Q) X.xe s
def ZV(X:Cx)(f:Value→Sem Value)(r:V→Hp→VK→Prop):Prop:=
 ∀(pins:List (Addr×Obj)) (s:Shared) (σ:St) (H:Hp) (x:V) (v:Value) (Q:VK),Inv X pins σ H s→RelV x v→r x H Q→
  wpAny (model X.prog X.w) X.A (f v) (EP X pins σ Q) X.xe s
def gC(X:Cx)(f:Value)(r:List V→Hp→VK→Prop):Prop:=
 ∀(pins:List (Addr×Obj)) (s:Shared) (σ:St) (H:Hp) (xs:List V) (us:List Value) (Q:VK),Inv X pins σ H s→Vals xs us→r xs H Q→
  wpAny (model X.prog X.w) X.A (call f us) (EP X pins σ Q) X.xe s
def ZW(X:Cx)(r:V→Hp→(Bool→Hp→Prop)→Prop):Prop:=
 ∀(pins:List (Addr×Obj)) (s:Shared) (σ:St) (H:Hp) (x:V) (v:Value) (Q:Bool→Hp→Prop),Inv X pins σ H s→RelV x v→r x H Q→
  wpAny (model X.prog X.w) X.A (truthy v) (TP X pins σ Q) X.xe s
def NU(r:R2)(ta tb:TE):TE:=fun σ H Q=>ta σ H fun x H1=>tb σ H1 fun y H2=>r x y H2 Q
def tUn(r:V→Hp→VK→Prop)(ta:TE):TE:=fun σ H Q=>ta σ H fun x H1=>r x H1 Q
inductive RI(C:Int→Int→Prop)(g:Int→Int→V)(x y:V)(H:Hp)(Q:VK):Prop
 |mk (i j:Int) (e:x= .int i) (f:y= .int j) (c:C i j) (q:Q (g i j) H)
def rI(C:Int→Int→Prop)(g:Int→Int→V):R2:=RI C g
inductive RJ(g:Int→Int→V)(x y:V)(H:Hp)(Q:VK):Prop
 |mk (i j:Int) (e:x= .int i) (f:y= .int j) (q:Q (g i j) H)
def Jt(g:Int→Int→V):R2:=RJ g
def rU(g:Int→V):V→Hp→VK→Prop:=fun x H Q=>∃i,x= .int i∧Q (g i) H
section
variable {X:Cx}{a b c:Expr}{ta tb tc:TE}{pos:Pos}
theorem NV(ha:PE X a ta)(hb:PE X b tb){pins:List (Addr×Obj)}{s:Shared}{σ:St}{H:Hp}{R:V→V→Hp→Prop}(I:Inv X pins σ H s)
  (h:ta σ H fun x H1=>tb σ H1 fun y H2=>R x y H2) {Q:Value→Shared→Prop} {f:Value→Value→Sem Value}
  (hf:∀v u s2 x y H2,Inv X pins σ H2 s2→RelV x v→RelV y u→R x y H2→wpAny (model X.prog X.w) X.A (f v u) Q X.xe s2):
  wpAny (model X.prog X.w) X.A (eval a X.env) (fun v s₁=>wpAny (model X.prog X.w) X.A (eval b X.env) (fun u s₂=>wpAny (model X.prog X.w) X.A (f v u) Q X.xe s₂) X.xe s₁) X.xe s:=by
 refine bV (ha pins s σ H _ I h) fun v s1 ⟨x,H1,I1,r1,q1⟩=>?_
 refine bV (hb pins s1 σ H1 _ I1 q1) fun u s2 ⟨y,H2,I2,r2,q2⟩=>?_
 exact hf v u s2 x y H2 I2 r1 r2 q2
theorem aA{op:Operator}{r:R2}(ho:pA X (binaryOp op) r)(ha:PE X a ta)(hb:PE X b tb):PE X (.BinOp a op b pos) (NU r ta tb):=by
 intro pins s σ H Q I h
 exact wpAny_BinOp (NV ha hb I h fun v u s2 x y H2 I2 rx ry q=>ho pins s2 σ H2 x y v u Q I2 rx ry q)
theorem oU{op:UnaryOp}{r:V→Hp→VK→Prop}(ho:ZV X (unaryOp op) r)(ha:PE X a ta):PE X (.UnaryOp op a pos) (tUn r ta):=by
 intro pins s σ H Q I h
 exact UnaryOp_ (bV (ha pins s σ H _ I h) fun v s1 ⟨x,H1,I1,r1,q1⟩=>ho pins s1 σ H1 x v Q I1 r1 q1)
theorem RO{f:Value→Value→Sem Value}{C:Int→Int→Prop}{g:Int→Int→Int}
  (rule:∀(i j:Int) (t u:Tok) (s:Shared) (Q:Value→Shared→Prop) (E:Value→Shared→Prop),C i j→Q (.int (g i j) s.toks) { s with toks:=s.toks+1 }→wpAny (model X.prog X.w) X.A (f (.int i t) (.int j u)) Q E s):
  pA X f (rI C fun i j=> .int (g i j)):=by
 intro pins s σ H x y v u Q I rx ry h
 obtain⟨i,j,rfl,rfl,hc,q⟩:=h
 obtain⟨t,rfl⟩:=rx
 obtain⟨t',rfl⟩:=ry
 exact rule i j t t' s _ _ hc ⟨.int (g i j),H,I.tok _,⟨_,rfl⟩,q⟩
theorem RP{f:Value→Value→Sem Value}{g:Int→Int→Int}
  (rule:∀(i j:Int) (t u:Tok) (s:Shared) (Q:Value→Shared→Prop) (E:Value→Shared→Prop),Q (.int (g i j) s.toks) { s with toks:=s.toks+1 }→wpAny (model X.prog X.w) X.A (f (.int i t) (.int j u)) Q E s):
  pA X f (Jt fun i j=> .int (g i j)):=by
 intro pins s σ H x y v u Q I rx ry h
 obtain⟨i,j,rfl,rfl,q⟩:=h
 obtain⟨t,rfl⟩:=rx
 obtain⟨t',rfl⟩:=ry
 exact rule i j t t' s _ _ ⟨.int (g i j),H,I.tok _,⟨_,rfl⟩,q⟩
theorem JN{f:Value→Value→Sem Value}{g:Int→Int→Bool}
  (rule:∀(i j:Int) (t u:Tok) (s:Shared) (Q:Value→Shared→Prop) (E:Value→Shared→Prop),Q (.bool (g i j)) s→wpAny (model X.prog X.w) X.A (f (.int i t) (.int j u)) Q E s):
  pA X f (Jt fun i j=> .bl (g i j)):=by
 intro pins s σ H x y v u Q I rx ry h
 obtain⟨i,j,rfl,rfl,q⟩:=h
 obtain⟨t,rfl⟩:=rx
 obtain⟨t',rfl⟩:=ry
 exact rule i j t t' s _ _ ⟨.bl (g i j),H,I,rfl,q⟩
def ZX(i j:Int):Prop:=0<j∧j<1073741824
def ZY(i j:Int):Prop:=0≤j∧j≤1000000∧i.natAbs<2^64
def JO(i j:Int):Prop:=(-(2^64) <i∧i<2^64)∨(-(2^64) <j∧j<2^64)
theorem JO.ok{i j:Int}(h:JO i j):IntMulOk i j:=by
 rcases h with ⟨h1,h2⟩ | ⟨h1,h2⟩
 ·exact .of_left (intBits_le_64 h1 h2)
 ·exact .of_right (intBits_le_64 h1 h2)
theorem bR:pA X (binaryOp .Add) (Jt fun i j=> .int (i+j)):=RP fun _ _ _ _ _ _ _ q=>add_int q
theorem jW:pA X (binaryOp .Sub) (Jt fun i j=> .int (i - j)):=RP fun _ _ _ _ _ _ _ q=>sub_int q
theorem fM:pA X (binaryOp .Mult) (rI JO fun i j=> .int (i*j)):=RO fun _ _ _ _ _ _ _ hc q=>mul_int q hc.ok
theorem cE:pA X (binaryOp .FloorDiv) (rI ZX fun i j=> .int (i/j)):=RO fun i j _ _ _ _ _ hc q=>by
 have h1:(0 :Int) <j:=hc.1
 have h2:j<1073741824:=hc.2
 exact floordiv_int (by omega) (by rw[Int.fdiv_eq_ediv_of_nonneg i (by omega)];exact q) (.inl (PyProof.noPylong_small (by omega)))
theorem b6:pA X (binaryOp .Mod) (rI (fun _ j=>0<j) fun i j=> .int (i%j)):=RO fun i j _ _ _ _ _ hc q=>by
 have h1:(0 :Int) <j:=hc
 exact mod_int' (by omega) (by rw[Int.fmod_eq_emod_of_nonneg i (by omega)];exact q)
theorem E9:pA X (binaryOp .Pow) (rI ZY fun i j=> .int (i^j.toNat)):=RO fun _ _ _ _ _ _ _ hc q=>pow_int_small hc.1 hc.2.1 hc.2.2 q
theorem unI{f:Value→Sem Value}{g:Int→Int}
  (rule:∀(i:Int) (t:Tok) (s:Shared) (Q:Value→Shared→Prop) (E:Value→Shared→Prop),Q (.int (g i) s.toks) { s with toks:=s.toks+1 }→wpAny (model X.prog X.w) X.A (f (.int i t)) Q E s):
  ZV X f (rU fun i=> .int (g i)):=by
 intro pins s σ H x v Q I rx h
 obtain⟨i,rfl,q⟩:=h
 obtain⟨t,rfl⟩:=rx
 exact rule i t s _ _ ⟨.int (g i),H,I.tok _,⟨_,rfl⟩,q⟩
theorem jX:ZV X (unaryOp .USub) (rU fun i=> .int (-i)):=unI fun _ _ _ _ _ q=>neg_int q
end
def RQ:V→V→Bool
 | .cS, .cS=>true| .cS, .int _=>true| .int _, .cS=>true| .cS, .bl _=>true| .bl _, .cS=>true| .cS, .str _=>true| .str _, .cS=>true
 | .int _, .int _=>true| .bl _, .bl _=>true| .str _, .str _=>true| .zA _, .zA _=>true
 | .int _, .str _=>true| .str _, .int _=>true| .bl _, .str _=>true| .str _, .bl _=>true
 |_,_=>false
def rEq:R2:=fun x y H Q=>RQ x y=true∧Q (.bl (decide (x=y))) H
def rNe:R2:=fun x y H Q=>RQ x y=true∧Q (.bl (!decide (x=y))) H
theorem Bc{i j:Int}:decide (V.int i=V.int j)=(i==j):=by
 rw[Bool.eq_iff_iff]
 simp
theorem E'{i j:Bool}:decide (V.bl i=V.bl j)=(i==j):=by
 rw[Bool.eq_iff_iff]
 simp
theorem Bd{i j:Str}:decide (V.str i=V.str j)=(i==j):=by
 rw[Bool.eq_iff_iff]
 simp
theorem Be{i j:Array UInt8}:decide (V.zA i=V.zA j)=(i.toList==j.toList):=by
 rw[Bool.eq_iff_iff]
 cases i
 cases j
 simp
section
variable {X:Cx}{a b c:Expr}{ta tb tc:TE}{pos:Pos}
theorem bP{pins:List (Addr×Obj)}{σ:St}{H:Hp}{s:Shared}{Q:VK}{k k':Bool}(I:Inv X pins σ H s)(q:Q (.bl k) H)(e:k=k'):EP X pins σ Q (.bool k') s:=by
 subst e
 exact⟨.bl k,H,I,rfl,q⟩
theorem d9:pA X (compareOp .Eq) rEq:=by
 intro pins s σ H x y v u Q I rx ry h
 obtain⟨hs,q⟩:=h
 cases x with
 |cS=>
  cases rx
  cases y with
  |cS=>cases ry;exact PySem.EqNone.eq_none_none (bP I q (by simp))
  |bl j=>cases ry;exact PySem.EqNone.eq_none_bool (bP I q (by simp))
  |int j=>obtain⟨t',rfl⟩:=ry;exact PySem.EqNone.eq_none_int (bP I q (by simp))
  |str j=>obtain⟨t',rfl⟩:=ry;exact PySem.EqNone.eq_none_str (bP I q (by simp))
  |_=>exact absurd (show false=true from hs) Bool.false_ne_true
 |bl i=>
  cases rx
  cases y with
  |cS=>cases ry;exact PySem.EqNone.eq_bool_none (bP I q (by simp))
  |bl j=>cases ry;exact eq_bool (bP I q E')
  |str j=>obtain⟨t',rfl⟩:=ry;exact PySem.EqMixed.eq_bool_str (bP I q (by simp))
  |_=>exact absurd (show false=true from hs) Bool.false_ne_true
 |int i=>
  obtain⟨t,rfl⟩:=rx
  cases y with
  |cS=>cases ry;exact PySem.EqNone.eq_int_none (bP I q (by simp))
  |int j=>obtain⟨t',rfl⟩:=ry;exact eq_int (bP I q Bc)
  |str j=>obtain⟨t',rfl⟩:=ry;exact PySem.EqMixed.eq_int_str (bP I q (by simp))
  |_=>exact absurd (show false=true from hs) Bool.false_ne_true
 |str i=>
  obtain⟨t,rfl⟩:=rx
  cases y with
  |cS=>cases ry;exact PySem.EqNone.eq_str_none (bP I q (by simp))
  |bl j=>cases ry;exact PySem.EqMixed.eq_str_bool (bP I q (by simp))
  |int j=>obtain⟨t',rfl⟩:=ry;exact PySem.EqMixed.eq_str_int (bP I q (by simp))
  |str j=>obtain⟨t',rfl⟩:=ry;exact eq_str (bP I q Bd)
  |_=>exact absurd (show false=true from hs) Bool.false_ne_true
 |zA i=>
  obtain⟨t,rfl⟩:=rx
  cases y with
  |zA j=>obtain⟨t',rfl⟩:=ry;exact PySem.W.eq_bytes (bP I q Be)
  |_=>exact absurd (show false=true from hs) Bool.false_ne_true
 |_=>cases y<;>exact absurd (show false=true from hs) Bool.false_ne_true
theorem ql:pA X (compareOp .NotEq) rNe:=by
 intro pins s σ H x y v u Q I rx ry h
 obtain⟨hs,q⟩:=h
 cases x with
 |cS=>
  cases rx
  cases y with
  |cS=>cases ry;exact PySem.EqNone.ne_none_none (bP I q (by simp))
  |bl j=>cases ry;exact PySem.EqNone.ne_none_bool (bP I q (by simp))
  |int j=>obtain⟨t',rfl⟩:=ry;exact PySem.EqNone.ne_none_int (bP I q (by simp))
  |str j=>obtain⟨t',rfl⟩:=ry;exact PySem.EqNone.ne_none_str (bP I q (by simp))
  |_=>exact absurd (show false=true from hs) Bool.false_ne_true
 |bl i=>
  cases rx
  cases y with
  |cS=>cases ry;exact PySem.EqNone.ne_bool_none (bP I q (by simp))
  |bl j=>cases ry;exact ne_bool (bP I q (congrArg not E'))
  |str j=>obtain⟨t',rfl⟩:=ry;exact PySem.EqMixed.ne_bool_str (bP I q (by simp))
  |_=>exact absurd (show false=true from hs) Bool.false_ne_true
 |int i=>
  obtain⟨t,rfl⟩:=rx
  cases y with
  |cS=>cases ry;exact PySem.EqNone.ne_int_none (bP I q (by simp))
  |int j=>obtain⟨t',rfl⟩:=ry;exact ne_int (bP I q (congrArg not Bc))
  |str j=>obtain⟨t',rfl⟩:=ry;exact PySem.EqMixed.ne_int_str (bP I q (by simp))
  |_=>exact absurd (show false=true from hs) Bool.false_ne_true
 |str i=>
  obtain⟨t,rfl⟩:=rx
  cases y with
  |cS=>cases ry;exact PySem.EqNone.ne_str_none (bP I q (by simp))
  |bl j=>cases ry;exact PySem.EqMixed.ne_str_bool (bP I q (by simp))
  |int j=>obtain⟨t',rfl⟩:=ry;exact PySem.EqMixed.ne_str_int (bP I q (by simp))
  |str j=>obtain⟨t',rfl⟩:=ry;exact ne_str (bP I q (congrArg not Bd))
  |_=>exact absurd (show false=true from hs) Bool.false_ne_true
 |zA i=>
  obtain⟨t,rfl⟩:=rx
  cases y with
  |zA j=>obtain⟨t',rfl⟩:=ry;exact PySem.W.ne_bytes (bP I q (congrArg not Be))
  |_=>exact absurd (show false=true from hs) Bool.false_ne_true
 |_=>cases y<;>exact absurd (show false=true from hs) Bool.false_ne_true
theorem me:pA X (compareOp .Lt) (Jt fun i j=> .bl (decide (i<j))):=JN fun _ _ _ _ _ _ _ q=>lt_int q
theorem Mi:pA X (compareOp .LtE) (Jt fun i j=> .bl (decide (i≤j))):=JN fun _ _ _ _ _ _ _ q=>le_int q
theorem jY:pA X (compareOp .Gt) (Jt fun i j=> .bl (decide (j<i))):=JN fun _ _ _ _ _ _ _ q=>gt_int q
theorem RS:pA X (compareOp .GtE) (Jt fun i j=> .bl (decide (j≤i))):=JN fun _ _ _ _ _ _ _ q=>ge_int q
theorem aX(b:Expr){op:CmpOp}(h:op≠ .In:=by decide)(h2:op≠ .NotIn:=by decide):behindInMarks op b=false:=by
 have e1:(op==CmpOp.In)=false:=by cases op<;>first|rfl|exact absurd rfl h
 have e2:(op==CmpOp.NotIn)=false:=by cases op<;>first|rfl|exact absurd rfl h2
 cases b<;>simp [behindInMarks,e1,e2]
theorem mf{op:CmpOp}{r:R2}(ho:pA X (compareOp op) r)(ha:PE X a ta)(hb:PE X b tb)(hm:behindInMarks op b=false):PE X (.Compare a [op] [b] pos) (NU r ta tb):=by
 intro pins s σ H Q I h
 exact wpAny_Compare1 (NV ha hb I h fun v u s2 x y H2 I2 rx ry q=>ho pins s2 σ H2 x y v u Q I2 rx ry q) hm
def RT(t:TE):TT:=fun σ H Q=>t σ H fun x H'=>∃k,x= .bl k∧Q k H'
theorem aO{op:CmpOp}{r:R2}(ho:pA X (compareOp op) r)(ha:PE X a ta)(hb:PE X b tb)(hm:behindInMarks op b=false):PT X (.Compare a [op] [b] pos) (RT (NU r ta tb)):=by
 intro pins s σ H Q I h
 refine wpAny_isTrue_Compare1 (bV (ha pins s σ H _ I h) fun v s1 ⟨x,H1,I1,r1,q1⟩=>bV (hb pins s1 σ H1 _ I1 q1) fun u s2 ⟨y,H2,I2,r2,q2⟩=>
  bV (ho pins s2 σ H2 x y v u _ I2 r1 r2 q2) fun c s3 ⟨z,H3,I3,r3,k,e,q3⟩=>?_) hm
 subst e
 cases r3
 exact wpAny_truthy_bool ⟨H3,I3,q3⟩
def NW(r r':R2)(ta tb tc:TE):TE:=fun σ H Q=>ta σ H fun x H1=>tb σ H1 fun y H2=>r x y H2 fun z H3=>∃k,z= .bl k∧
 (if k=true then tc σ H3 fun w' H4=>r' y w' H4 Q else Q (.bl false) H3)
theorem qo{op ZZ:CmpOp}{r r':R2}(ho:pA X (compareOp op) r)(xv:pA X (compareOp ZZ) r')(ha:PE X a ta)(hb:PE X b tb)(hc:PE X c tc)
  (hm:lastMarks [op,ZZ] [b,c]=false:=by with_unfolding_all rfl):PE X (.Compare a [op,ZZ] [b,c] pos) (NW r r' ta tb tc):=by
 intro pins s σ H Q I h
 refine Compare_chain (bV (ha pins s σ H _ I h) fun v s1 ⟨x,H1,I1,r1,q1⟩=>chain_link (bV (hb pins s1 σ H1 _ I1 q1) fun u s2 ⟨y,H2,I2,r2,q2⟩=>
  bV (ho pins s2 σ H2 x y v u _ I2 r1 r2 q2) fun d s3 ⟨z,H3,I3,r3,k,e,q3⟩=>?_)) hm
 subst e
 cases r3
 refine wpAny_truthy_bool ?_
 cases k with
 |false=>exact ite_ff ⟨.bl false,H3,I3,rfl,q3⟩
 |true=>exact ite_tt (chain_last (bV (hc pins s3 σ H3 _ I3 q3) fun w' s4 ⟨z',H4,I4,r4,q4⟩=>xv pins s4 σ H4 y z' u w' Q I4 r2 r4 q4))
def RU(K:PySem.W.Frag)(x:V)(H:Hp)(k:Bool):Prop:=
 match x with
 | .cS=>k=false
 | .bl b=>k=b
 | .int i=>k=(i != 0)
 | .str y=>y.length≤sizeLine∧k=((y.length:Int) != 0)
 | .zA y=>y.size≤sizeLine∧k=((y.size:Int) != 0)
 | .ref p=>(∃xs,bJ K H p xs∧k=!xs.isEmpty)∨(∃xs,ir K H p xs∧k=!xs.isEmpty)∨∃kvs,H p=some (.dK kvs)∧k=!kvs.isEmpty
 |_=>False
theorem zG{κ:Type}{kvs:List (κ×V)}{vs:List (κ×Value)}(r:KV kvs vs):(!vs.isEmpty)=!kvs.isEmpty:=by
 cases r<;>rfl
theorem qp{xs:List V}{its:List Value}(r:Vals xs its):(!its.toArray.isEmpty)=!xs.isEmpty:=by
 cases r<;>simp
theorem lN:(sizeLine:Nat) <2^63:=by rw[sizeLine_eq];decide
theorem NY:ZW X (fun x H Q=>∃k,RU X.K x H k∧Q k H):=by
 intro pins s σ H x v Q I rx h
 obtain⟨k,e,q⟩:=h
 have hl:=lN
 have hs:sizeLine=16777216:=sizeLine_eq
 cases x with
 |cS=>
  cases rx
  have e':k=false:=e
  subst e'
  exact truthy_none ⟨H,I,q⟩
 |bl b=>
  cases rx
  have e':k=b:=e
  subst e'
  exact wpAny_truthy_bool ⟨H,I,q⟩
 |int i=>
  obtain⟨t,rfl⟩:=rx
  have e':k=(i != 0):=e
  subst e'
  exact PySem.P.truthy_int ⟨H,I,q⟩
 |str y=>
  obtain⟨t,rfl⟩:=rx
  obtain⟨hy,e'⟩:y.length≤sizeLine∧k=((y.length:Int) != 0):=e
  subst e'
  exact PySem.P.truthy_str (by omega) ⟨H,I.tok _,q⟩
 |zA y=>
  obtain⟨t,rfl⟩:=rx
  obtain⟨hy,e'⟩:y.size≤sizeLine∧k=((y.size:Int) != 0):=e
  subst e'
  exact PySem.W.truthy_bytes (by omega) ⟨H,I.tok _,q⟩
 |ref p=>
  cases rx
  have e':(∃xs,bJ X.K H p xs∧k=!xs.isEmpty)∨(∃xs,ir X.K H p xs∧k=!xs.isEmpty)∨∃kvs,H p=some (.dK kvs)∧k=!kvs.isEmpty:=e
  rcases e' with ⟨xs,hx,e'⟩ | ⟨xs,hx,e'⟩ | ⟨kvs,hx,e'⟩
  ·subst e'
   obtain⟨its,r,pl,hz⟩:=I.list hx
   have hlen:=r.length
   exact wpAny_truthy_list pl.isList (by simp only [List.size_toArray];omega) ⟨H,I.tok _,by rw[qp r];exact q⟩
  ·subst e'
   obtain⟨its,r,pl,hz⟩:=I.tuple hx
   have hlen:=r.length
   exact truthy_tuple pl (by simp only [List.size_toArray];omega) ⟨H,I.tok _,by rw[qp r];exact q⟩
  ·subst e'
   obtain⟨hz,hS,vs,r,m⟩:kvs.length≤sizeLine∧(p==sysModules)=false∧∃vs,KV kvs vs∧s.heap.DictOf (bD X.prog X.w) p vs:=I.aV p _ hx
   have hlen:kvs.length=vs.length:=Paired.length r
   exact wpAny_truthy_dict hS m (by omega) ⟨H,I.tok _,by rw[zG r];exact q⟩
 |_=>exact(show False from e).elim
theorem qq(ha:PE X a ta)(he:∀whole,isTrue a X.env whole=(do let v←whole;standAt a.pos;holding [v] (truthy v))):
  PT X a (fun σ H Q=>ta σ H fun x H'=>∃k,RU X.K x H' k∧Q k H'):=by
 intro pins s σ H Q I h
 exact isTrue_plain (bV (ha pins s σ H _ I h) fun v s1 ⟨x,H1,I1,r1,q1⟩=>NY pins s1 σ H1 x v Q I1 r1 q1) (he _)
theorem bz:pA X (binaryOp .Add) (fun x y H Q=>∃i j,x= .str i∧y= .str j∧i.length+j.length≤sizeLine∧Q (.str (i++j)) H):=by
 intro pins s σ H x y v u Q I rx ry h
 obtain⟨i,j,rfl,rfl,hz,q⟩:=h
 obtain⟨t,rfl⟩:=rx
 obtain⟨t',rfl⟩:=ry
 exact add_str (fun t' tk=>⟨.str (i++j),H,I.tok _,⟨_,rfl⟩,q⟩) hz
theorem vals1{x:V}{us:List Value}(r:Vals [x] us):∃u,us=[u]∧RelV x u:=by
 cases r with
 |cons r1 r2=>cases r2;exact⟨_,rfl,r1⟩
theorem vals2{x y:V}{us:List Value}(r:Vals [x,y] us):∃u w',us=[u,w']∧RelV x u∧RelV y w':=by
 cases r with
 |cons r1 r2=>
  cases r2 with
  |cons r3 r4=>cases r4;exact⟨_,_,rfl,r1,r3⟩
theorem xR:gC X (.builtin "abs") (fun xs H Q=>∃i,xs=[.int i]∧Q (.int (if i<0 then -i else i)) H):=by
 intro pins s σ H xs us Q I r h
 obtain⟨i,rfl,q⟩:=h
 obtain⟨u,rfl,t,rfl⟩:=vals1 r
 exact call_abs_int fun u tk=>⟨.int (if i<0 then -i else i),H,I.tok _,⟨_,rfl⟩,q⟩
theorem nP:gC X (.type "int") (fun xs H Q=>(∃i,xs=[.int i]∧Q (.int i) H)∨∃k,xs=[.bl k]∧Q (.int (if k then 1 else 0)) H):=by
 intro pins s σ H xs us Q I r h
 rcases h with ⟨i,rfl,q⟩ | ⟨k,rfl,q⟩
 ·obtain⟨u,rfl,t,rfl⟩:=vals1 r
  exact call_int_int ⟨.int i,H,I,⟨_,rfl⟩,q⟩
 ·obtain⟨u,rfl,r1⟩:=vals1 r
  cases r1
  exact call_int_bool ⟨.int (if k then 1 else 0),H,I.tok _,⟨_,rfl⟩,q⟩
theorem jf:gC X (.type "str") (fun xs H Q=>∃i,xs=[.int i]∧i.natAbs.log2<1920∧Q (.str (toString i)) H):=by
 intro pins s σ H xs us Q I r h
 obtain⟨i,rfl,hz,q⟩:=h
 obtain⟨u,rfl,t,rfl⟩:=vals1 r
 exact PySem.P.str_of_int hz ⟨.str _,H,I.tok _,⟨_,rfl⟩,q⟩
end
end L2
namespace L2
open PySem PySem.Spec PyProof.Rows
structure zH(h:Heap)(x dx C:Addr)(mA:Str→Option Value):Prop where
 obj:h.get? x=some (PySem.W.instObj C dx)
 ns:h.Ns1 dx mA
 ne:dx≠x
theorem C3{h:Heap}{dx:Addr}{mA:Str→Option Value}(n:h.Ns1 dx mA):∃od,h.get? dx=some od∧∀name,PySem.W.lookIn name od=some (mA name):=by
 obtain⟨o,es,ep,ho,hd,hk,_,hm⟩:=n
 refine⟨o,ho,fun name=>?_⟩
 have e:=hm name
 unfold nsFind findBy at e
 rw[←Array.find?_toList] at e
 unfold PySem.W.lookIn
 rw[hd]
 dsimp only
 split
 ·rename_i y q
  rw[q] at e
  exact congrArg some e
 ·rename_i q
  rw[q] at e
  have a:es.toList.any (·.refKey)=false:=by
   rw[List.any_eq_false]
   intro y hy
   obtain⟨z,t,Z0⟩:=hk y (Array.mem_toList_iff.mp hy)
   simp [DictEntry.refKey,Z0]
  have a':¬es.toList.any (·.refKey)=true:=by rw[a];exact Bool.false_ne_true
  rw[if_neg a']
  exact congrArg some e
theorem zH.look{h:Heap}{x dx C:Addr}{mA:Str→Option Value}(I:zH h x dx C mA):∃od,PySem.W.InstAt h x (PySem.W.instObj C dx) C (some od)∧∀name,PySem.W.lookIn name od=some (mA name):=
 let ⟨od,ho,hl⟩:=C3 I.ns
 ⟨od,⟨I.obj,rfl,rfl,ho⟩,hl⟩
section
variable {prog:Program}{w:World}{A:Around}{E:Value→Shared→Prop}{s:Shared}{K:PySem.W.Frag}{x dx C f:Addr}{mA:Str→Option Value}{name:Str}{v:Value}
theorem get_map{expr:Bool}{Q:Value→Shared→Prop}(X:K.In s.heap)(I:zH s.heap x dx C mA)(hg:PySem.W.plainGet K C name=true)(hh:PySem.W.hasDictIn K C=true)
  (ha:PySem.W.findIn K (.ref C) name=some none) (hv:mA name=some v) (hv':PySem.W.handedIn v=true) (h:Q v { s with toks:=s.toks+1 }):
  wpAny (model prog w) A (getAttr (.ref x) name expr) Q E s:=by
 obtain⟨od,J,hl⟩:=I.look
 exact PySem.W.get_value X J (PySem.W.plainGet_of hg).1 (PySem.W.findObj_own hh ha rfl (by rw[hl,hv])) hv' h
theorem Fb{pl:Sem Bool}{Q:Value×List Value→Shared→Prop}(X:K.In s.heap)(I:zH s.heap x dx C mA)(hg:PySem.W.plainGet K C name=true)
  (hf:PySem.W.findIn K (.ref C) name=some (some (.ref f))) (ht:PySem.W.isFn K (.ref f)=true) (hv:mA name=none) (h:Q (.ref f,[.ref x]) s):
  wpAny (model prog w) A (getMethod (.ref x) name pl) Q E s:=by
 obtain⟨od,J,hl⟩:=I.look
 exact PySem.W.method_fn X J (PySem.W.plainGet_of hg).1 (PySem.W.plainGet_of hg).2 hf (beq_iff_eq.mp ht) (by show (PySem.W.lookIn name od).map (·.isSome)=some false;rw[hl,hv];rfl) h
theorem JP{ns:List Str}{Q:Unit→Shared→Prop}(X:K.In s.heap)(I:zH s.heap x dx C mA)
  (hs:PySem.W.findIn K (.ref C) "__setattr__" =some (some (.builtin "object.__setattr__"))) (hp:PySem.W.plainOver K C=true) (ht:PySem.W.takerIn K C name=some none) (hh:PySem.W.hasDictIn K C=true)
  (hw:PySem.Within mA ns) (hsz:ns.length≤sizeLine)
  (h:∀h',zH h' x dx C (fun y=>if y=name then some v else mA y)→Heap.SameBut dx s.heap h'→Q () { s with heap:=h',toks:=s.toks+2 }):
  wpAny (model prog w) A (setAttr (.ref x) name v) Q E s:=by
 obtain⟨od,J,hl⟩:=I.look
 refine PySem.W.set_plain X J hs (PySem.W.osa_open (s:={ s with toks:=s.toks+1 }) (r:=none) X J hp ht fun b=>?_)
 obtain⟨cd,hc,eQ⟩:=PySem.W.any_some hh
 have hx:s.heap.get? x=some ⟨.ref C,some dx, .plain,#[]⟩:=I.obj
 refine wpAny_bind (wpAny_pure (wpAny_bind (wpAny_bind (wpAny_loadPart hx (wpAny_bind (PySem.W.Looks.here (s:={ s with toks:=s.toks+1 }) (PySem.W.looks_clsIn X hc) ?_))))))
 rw[eQ]
 refine wpAny_pure (a:=some dx) (wpAny_bind (wpAny_pure (wpAny_bind ?_)))
 refine wpAny_nsSet1 (s:={ s with toks:=s.toks+1 }) I.ns fun h' Q5 hs2=>?_
 obtain⟨oD,esD,epD,hoD,hdD,hcD⟩:=Q5.count (PySem.Within.cons name v hw)
 refine wpAny_bind (wpAny_lookBehind hoD (by rw[hdD];exact pastItsLine_dict (Nat.le_trans hcD (by rw[List.length_cons];omega))) ?_)
 exact wpAny_pure (h _ ⟨(hs2.2 _ (Ne.symm I.ne)).trans I.obj,Q5,I.ne⟩ hs2)
theorem Fc{R:Result→Shared→Prop}{vs:List Value}{kw:List (Str×Value)}(X:K.In s.heap)(hm:PySem.W.makesIn K C=true)
  (hi:PySem.W.findIn K (.ref C) "__init__" =some (some (.ref f))) (hf:PySem.W.typeIn K (.ref f)=some (.type "function"))
  (h:codeAny (model prog w) (A.under (.builtin "type.__call__" ⟨.ref C::vs,kw⟩)) (.call (.ref f) ⟨.ref (s.heap.objs.size+1)::vs,kw⟩) (PySem.W.InitBack (s.heap.objs.size+1) R)
   { s with heap:=(s.heap.push PySem.W.emptyDict).push (PySem.W.instObj C s.heap.objs.size) }):
  codeAny (model prog w) A (.call (.ref C) ⟨vs,kw⟩) R s:=by
 obtain⟨hh,g,d,t,os⟩:=s
 exact PySem.W.make_core (PySem.W.makes_of X hm) (PySem.W.looks_findIn X hi) (fun self=>PySem.W.bind_fn X self hf) (.inl rfl) h
end
def cL(f:Str)(v:V):List (Str×V)→List (Str×V)
 | []=>[(f,v)]
 | (g,x)::r=>if g=f then (g,v)::r else (g,x)::cL f v r
theorem aG(f g:Str)(v:V):∀fs:List (Str×V),(cL f v fs).lookup g=if g=f then some v else fs.lookup g
 | []=>by
   show List.lookup g [(f,v)]=_
   by_cases h:g=f
   ·have hb:(g==f)=true:=beq_iff_eq.mpr h
    simp only [List.lookup,hb,if_pos h]
   ·have hb:(g==f)=false:=beq_eq_false_iff_ne.mpr h
    simp only [List.lookup,hb,if_neg h]
 | (k,x)::r=>by
   have ih:=aG f g v r
   rw[show cL f v ((k,x)::r)=(if k=f then (k,v)::r else (k,x)::cL f v r) from rfl]
   by_cases hk:k=f
   ·rw[if_pos hk]
    by_cases h:g=k
    ·have hb:(g==k)=true:=beq_iff_eq.mpr h
     simp only [List.lookup,hb,if_pos (h.trans hk)]
    ·have hb:(g==k)=false:=beq_eq_false_iff_ne.mpr h
     simp only [List.lookup,hb,if_neg (fun e:g=f=>h (e.trans hk.symm))]
   ·rw[if_neg hk]
    by_cases h:g=k
    ·have hb:(g==k)=true:=beq_iff_eq.mpr h
     simp only [List.lookup,hb,if_neg (fun e:g=f=>hk (h.symm.trans e))]
    ·have hb:(g==k)=false:=beq_eq_false_iff_ne.mpr h
     simp only [List.lookup,hb]
     exact ih
theorem iY(f:Str)(v:V):∀fs:List (Str×V),f∈(cL f v fs).map (·.1)∧∀g,g∈fs.map (·.1)→g∈(cL f v fs).map (·.1)
 | []=>⟨by simp [cL],fun g h=>by simp at h⟩
 | (k,x)::r=>by
   obtain⟨i1,i2⟩:=iY f v r
   rw[show cL f v ((k,x)::r)=(if k=f then (k,v)::r else (k,x)::cL f v r) from rfl]
   by_cases hk:k=f
   ·rw[if_pos hk]
    subst hk
    exact⟨by simp,fun g h=>by simpa using h⟩
   ·rw[if_neg hk]
    refine⟨?_,fun g h=>?_⟩
    ·rw[List.map_cons]
     exact List.mem_cons_of_mem _ i1
    ·rw[List.map_cons] at h ⊢
     rcases List.mem_cons.mp h with e|e
     ·exact List.mem_cons.mpr (.inl e)
     ·exact List.mem_cons_of_mem _ (i2 g e)
theorem gf(f:Str)(v:V):∀fs:List (Str×V),(cL f v fs).length≤fs.length+1
 | []=>by simp [cL]
 | (k,x)::r=>by
   have ih:=gf f v r
   rw[show cL f v ((k,x)::r)=(if k=f then (k,v)::r else (k,x)::cL f v r) from rfl]
   by_cases hk:k=f
   ·rw[if_pos hk,List.length_cons,List.length_cons];omega
   ·rw[if_neg hk,List.length_cons,List.length_cons];omega
theorem iN.some_of{v:V}{o:Option Value}(r:iN (some v) o):∃u,o=some u∧RelV v u:=by
 cases o with
 |none=>exact(show False from r).elim
 |some u=>exact⟨u,rfl,r⟩
theorem iN.none_of{o:Option Value}(r:iN none o):o=none:=by
 cases o with
 |none=>rfl
 |some u=>exact(show False from r).elim
theorem C4{v:V}{u:Value}(r:RelV v u):PySem.W.handedIn u=true:=by
 cases v with
 |cS=>cases (show u=Value.none from r);rfl
 |bl b=>cases (show u=Value.bool b from r);rfl
 |int i=>obtain⟨t,e⟩:=(show∃t,u=Value.int i t from r);cases e;rfl
 |str x=>obtain⟨t,e⟩:=(show∃t,u=Value.str x t from r);cases e;rfl
 |zA b=>obtain⟨t,e⟩:=(show∃t,u=Value.bytes b t from r);cases e;rfl
 |Ma b=>obtain⟨t,e⟩:=(show∃t,u=Value.float b t from r);cases e;rfl
 |ref a=>cases (show u=Value.ref a from r);rfl
 |ty n=>cases (show u=Value.type n from r);rfl
section
variable {P:Program}{w:World}{H H':Hp}{h h':Heap}{a C dx:Addr}{fs JF:List (Str×V)}
theorem pH(aV:jR P w H h)(e:H a=some (.ins C dx fs)):∃mA,zH h a dx C mA∧(∀f,iN (fs.lookup f) (mA f))∧PySem.Within mA (fs.map (·.1))∧fs.length≤1000∧H dx=some (.own a):=by
 obtain⟨d,z,ne,ob,mA,n,r,q⟩:=(show cn P w H h a (.ins C dx fs) from aV a _ e)
 exact⟨mA,⟨ob,n,ne⟩,r,q,z,d⟩
end
structure tf(K:PySem.W.Frag)(C:Addr):Prop where
 pg:PySem.W.plainGet K C Str.empty=true
 hd:PySem.W.hasDictIn K C=true
 po:PySem.W.plainOver K C=true
 sa:PySem.W.findIn K (.ref C) "__setattr__" =some (some (.builtin "object.__setattr__"))
theorem tf.get{K:PySem.W.Frag}{C:Addr}(c:tf K C)(f:Str):PySem.W.plainGet K C f=true:=c.pg
def cH(K:PySem.W.Frag)(C:Addr)(f:Str):Prop:=PySem.W.findIn K (.ref C) f=some none
theorem cH.RW{K:PySem.W.Frag}{C:Addr}{f:Str}(n:cH K C f):PySem.W.takerIn K C f=some none:=by
 unfold PySem.W.takerIn
 rw[show PySem.W.findIn K (.ref C) f=some none from n]
 rfl
structure Meth(K:PySem.W.Frag)(C:Addr)(m:Str)(f:Addr):Prop where
 at_:PySem.W.findIn K (.ref C) m=some (some (.ref f))
 fn:PySem.W.isFn K (.ref f)=true
 kp:PySem.W.keepIn K (.ref f)=true
section
variable {X:Cx}{pins:List (Addr×Obj)}{σ:St}{H:Hp}{s:Shared}{a C dx:Addr}{fs:List (Str×V)}{f:Str}{v:V}{A:Around}{E:Value→Shared→Prop}
theorem qr{b:Bool}{Q:Value→Shared→Prop}(I:Inv X pins σ H s)(e:H a=some (.ins C dx fs))(c:tf X.K C)(n:cH X.K C f)(l:fs.lookup f=some v)
  (h:∀u s',Inv X pins σ H s'→RelV v u→Q u s'):wpAny (model X.prog X.w) A (getAttr (.ref a) f b) Q E s:=by
 obtain⟨mA,O,r,_,_,_⟩:=pH I.aV e
 obtain⟨u,hu,ru⟩:=iN.some_of (v:=v) (o:=mA f) (by rw[←l];exact r f)
 exact get_map I.jN O (c.get f) c.hd n hu (C4 ru) (h u _ (I.tok _) ru)
theorem lO{m:Str}{g:Addr}{pl:Sem Bool}{Q:Value×List Value→Shared→Prop}(I:Inv X pins σ H s)(e:H a=some (.ins C dx fs))(c:tf X.K C)(k:Meth X.K C m g)(l:fs.lookup m=none)
  (h:Q (.ref g,[.ref a]) s):wpAny (model X.prog X.w) A (getMethod (.ref a) m pl) Q E s:=by
 obtain⟨mA,O,r,_,_,_⟩:=pH I.aV e
 have hn:mA m=none:=iN.none_of (by rw[←l];exact r m)
 exact Fb I.jN O (c.get m) k.at_ k.fn hn h
theorem qt{y:V}{u:Value}{Q:Unit→Shared→Prop}(I:Inv X pins σ H s)(e:H a=some (.ins C dx fs))(c:tf X.K C)(n:cH X.K C f)(hl:fs.length<1000)(ry:RelV y u)
  (h:∀s',Inv X pins σ (upd H a (.ins C dx (cL f y fs))) s'→Q () s'):wpAny (model X.prog X.w) A (setAttr (.ref a) f u) Q E s:=by
 obtain⟨mA,O,r,wi,_,ho⟩:=pH I.aV e
 have hz:(fs.map (·.1)).length≤sizeLine:=by rw[List.length_map,sizeLine_eq];omega
 refine JP I.jN O c.sa c.po n.RW c.hd wi hz fun h' O' sb=>h _ ?_
 have hd:∃o,h'.get? dx=some o:=let ⟨o,_,_,e',_⟩:=O'.ns;⟨o,e'⟩
 refine I.write (x:=a) (e:=dx) (by rw[e];exact True.intro) (.inr ho) (fun b q hb z=>(sb.2 b hb).trans z) hd ?_
 refine⟨by rw[ah O.ne];exact ho,?_,O.ne,O'.obj,_,O'.ns,fun g=>?_,fun g hg=>?_⟩
 ·have:=gf f y fs;omega
 ·show iN ((cL f y fs).lookup g) (if g=f then some u else mA g)
  rw[aG]
  by_cases q:g=f
  ·rw[if_pos q,if_pos q];exact ry
  ·rw[if_neg q,if_neg q];exact r g
 ·by_cases q:g=f
  ·rw[q];exact(iY f y fs).1
  ·refine(iY f y fs).2 g (wi g fun z=>hg ?_)
   show (if g=f then some u else mA g)=none
   rw[if_neg q];exact z
theorem Inv.made(I:Inv X pins σ H s):Inv X pins σ (upd (upd H s.heap.objs.size (.own (s.heap.objs.size+1))) (s.heap.objs.size+1) (.ins C s.heap.objs.size []))
  { s with heap:=(s.heap.push PySem.W.emptyDict).push (PySem.W.instObj C s.heap.objs.size) }:=by
 have e1:(s.heap.push PySem.W.emptyDict).get? s.heap.objs.size=some PySem.W.emptyDict:=Heap.get?_push_size s.heap rfl
 have e2:((s.heap.push PySem.W.emptyDict).push (PySem.W.instObj C s.heap.objs.size)).get? (s.heap.objs.size+1)=some (PySem.W.instObj C s.heap.objs.size):=by
  have:=Heap.get?_push_size (s.heap.push PySem.W.emptyDict) (o:=PySem.W.instObj C s.heap.objs.size) rfl
  rwa [Heap.size_push] at this
 have e3:(s.heap.push PySem.W.emptyDict).Ns s.heap.objs.size (fun _=>none):=⟨PySem.W.emptyDict,#[],_,e1,rfl,(fun e he=>absurd he (by simp)),fun _=>rfl⟩
 have I1:=I.laid (a:=s.heap.objs.size) (o:= .own (s.heap.objs.size+1)) (h':=s.heap.push PySem.W.emptyDict) (t':=s.toks) (fun b u q=>Heap.get?_push_of_some _ q) (Nat.le_refl _) ⟨_,e1⟩
 refine I1.laid (a:=s.heap.objs.size+1) (o:= .ins C s.heap.objs.size []) (t':=s.toks) (fun b u q=>Heap.get?_push_of_some _ q) (Nat.le_of_eq (Heap.size_push _ _)) ?_
 have ne:s.heap.objs.size≠s.heap.objs.size+1:=Nat.ne_of_lt (Nat.lt_succ_self _)
 refine⟨by rw[ah ne,aa],Nat.zero_le _,ne,e2,fun _=>none,(Heap.Ns1.of_empty e3).at fun o q=>Heap.get?_push_of_some _ q,fun _=>True.intro,fun y hy=>absurd rfl hy⟩
theorem JQ{prog:Program}{w:World}{env:Env}{e:Expr}{f:Str}{pos:Pos}{s:Shared}{Q:Value→Shared→Prop}(hb:attributeBase e f env (eval e env)=eval e env)
  (h:wpAny (model prog w) A (eval e env) (fun o s₁=>wpAny (model prog w) A (getAttr o f true) Q E s₁) E s):wpAny (model prog w) A (eval (.Attribute e f pos) env) Q E s:=
 Attribute_any_ h (by rw[arm_eval_Attribute,hb])
end
def Z1(K:PySem.W.Frag)(ta:TE)(f:Str):TE:=fun σ H Q=>ta σ H fun x H1=>∃a C dx fs v,x= .ref a∧H1 a=some (.ins C dx fs)∧tf K C∧cH K C f∧fs.lookup f=some v∧Q v H1
def Z2(K:PySem.W.Frag)(ta tv:TE)(f:Str):TS:=fun D σ H=>tv σ H fun y H1=>ta σ H1 fun x H2=>∃a C dx fs,x= .ref a∧H2 a=some (.ins C dx fs)∧tf K C∧cH K C f∧fs.length<1000∧
 D.nx σ (upd H2 a (.ins C dx (cL f y fs)))
def RX(X:Cx)(op:Operator)(rd:V→V→Hp→VK→Prop):Prop:=
 ∀(pins:List (Addr×Obj)) (s:Shared) (σ:St) (H:Hp) (x y:V) (u v:Value) (Q:VK),Inv X pins σ H s→RelV x u→RelV y v→rd x y H Q→wpAny (model X.prog X.w) X.A (inplaceOp op u v) (EP X pins σ Q) X.xe s
def JR(K:PySem.W.Frag)(ta tv:TE)(rd:V→V→Hp→VK→Prop)(f:Str):TS:=fun D σ H=>ta σ H fun x H1=>∃a C dx fs v,x= .ref a∧H1 a=some (.ins C dx fs)∧tf K C∧cH K C f∧fs.lookup f=some v∧
 tv σ H1 fun y H2=>rd v y H2 fun z H3=>∃dQ JF,H3 a=some (.ins C dQ JF)∧JF.length<1000∧D.nx σ (upd H3 a (.ins C dQ (cL f z JF)))
section
variable {X:Cx}{o e value:Expr}{f:Str}{pos pos' sJ:Pos}{ta tv:TE}
theorem a5(he:PE X e ta)(hb:attributeBase e f X.env (eval e X.env)=eval e X.env):PE X (.Attribute e f pos) (Z1 X.K ta f):=by
 intro pins s σ H Q I h
 refine JQ hb (bV (he pins s σ H _ I h) fun u s1 ⟨x,H1,I1,rx,a,C,dx,fs,v,ex,ea,c,n,l,q⟩=>?_)
 subst ex
 obtain rfl:u=Value.ref a:=rx
 exact qr I1 ea c n l fun u' s2 I2 ru=>⟨v,H1,I2,ru,q⟩
theorem eI(ha:PE X o ta)(hv:PE X value tv)(hs:swapsWith value (some (.Attribute o f pos')) pos.line X.env=pure false):PS X (.Assign [.Attribute o f pos'] value pos) (Z2 X.K ta tv f):=by
 intro pins s σ H D I h
 refine plainObj_wpAny_Assign_Attribute (bV (hv pins s σ H _ I h) fun u s1 ⟨y,H1,I1,ry,q⟩=>bV (ha pins s1 σ H1 _ I1 q) fun ov s2 ⟨x,H2,I2,rx,a,C,dx,fs,ex,ea,c,n,l,q2⟩=>?_) hs
 subst ex
 obtain rfl:ov=Value.ref a:=rx
 exact qt I2 ea c n l ry fun s3 I3=>⟨σ,_,I3,q2⟩
theorem kH{op:Operator}{rd:V→V→Hp→VK→Prop}(ha:PE X o ta)(hv:PE X value tv)(hop:RX X op rd):PS X (.AugAssign (.Attribute o f sJ) op value pos) (JR X.K ta tv rd f):=by
 intro pins s σ H D I h
 refine wpAny_AugAssign_AttributeAny (bV (ha pins s σ H _ I h) fun ov s1 ⟨x,H1,I1,rx,a,C,dx,fs,v,ex,ea,c,n,l,q⟩=>?_)
 subst ex
 obtain rfl:ov=Value.ref a:=rx
 refine qr I1 ea c n l fun u s2 I2 ru=>bV (hv pins s2 σ H1 _ I2 q) fun w3 s3 ⟨y,H2,I3,ry,q3⟩=>bV (hop pins s3 σ H2 v y u w3 _ I3 ru ry q3) fun w4 s4 ⟨z,H3,I4,rz,dQ,JF,ea',l',q4⟩=>?_
 exact qt I4 ea' c n l' rz fun s5 I5=>⟨σ,_,I5,q4⟩
def Z3:V→V→Hp→VK→Prop:=fun x y H Q=>∃i j,x= .int i∧y= .int j∧Q (.int (i+j)) H
theorem vm:RX X .Add Z3:=by
 rintro pins s σ H x y u v Q I rx ry ⟨i,j,rfl,rfl,q⟩
 obtain⟨t,rfl⟩:=(show∃t,u=Value.int i t from rx)
 obtain⟨t',rfl⟩:=(show∃t',v=Value.int j t' from ry)
 exact PyProof.Rows.iadd_int ⟨.int (i+j),H,I.tok _,⟨_,rfl⟩,q⟩
end
section
variable {X:Cx}{pins:List (Addr×Obj)}{σ:St}{H:Hp}{s:Shared}{A:Around}{E:Value→Shared→Prop}{Q:Value→Shared→Prop}{c:Value}{b:Bool}
inductive nQ(K:PySem.W.Frag)(H:Hp):V→Value→Prop where
 |cS:nQ K H .cS (.type "NoneType")
 |bl (x:Bool):nQ K H (.bl x) (.type "bool")
 |int (i:Int):nQ K H (.int i) (.type "int")
 |str (x:Str):nQ K H (.str x) (.type "str")
 |Ma (x:UInt64):nQ K H (.Ma x) (.type "float")
 |lst {a:Addr} {xs:List V} (e:H a=some (.lst xs)):nQ K H (.ref a) (.type "list")
 |d8 {a:Addr} {o:Obj} {xs:List V} (e:H a=some (.d8 o (.lst xs))):nQ K H (.ref a) (.type "list")
 |tup {a:Addr} {xs:List V} (e:H a=some (.tup xs)):nQ K H (.ref a) (.type "tuple")
 |dK {a:Addr} {kvs:List (Key×V)} (e:H a=some (.dK kvs)):nQ K H (.ref a) (.type "dict")
 |dT {a:Addr} {kvs:List (List Key×V)} (e:H a=some (.dT kvs)):nQ K H (.ref a) (.type "dict")
 |ins {a C dx:Addr} {fs:List (Str×V)} (e:H a=some (.ins C dx fs)) (cl:tf K C) (ha:PySem.W.findIn K (.ref C) "__class__" =some (some (.builtin "object.__class__")))
   (hn:PySem.W.specialIn K (.builtin "object.__class__") "__get__" =some (some (.builtin "getset_descriptor.__get__"))) (xS:PySem.W.takesIn K (.builtin "object.__class__")=some true)
   (hm:PySem.W.mroIn K C (.type "object")=some true):nQ K H (.ref a) (.ref C)
theorem C5{x:V}{u t:Value}(I:Inv X pins σ H s)(rx:RelV x u)(ty:nQ X.K H x t)(e:PySem.W.kitOne X.K t c=some b)(h:∀tk,Q (.bool b) { s with toks:=tk }):
  wpAny (model X.prog X.w) A (call (.builtin "isinstance") [u,c]) Q E s:=by
 cases ty with
 |cS=>cases (show u=Value.none from rx);exact PySem.W.kia_one PySem.W.kitx_none I.jN True.intro e (fun z=>nomatch z) h
 |bl y=>cases (show u=Value.bool y from rx);exact PySem.W.kia_one PySem.W.kitx_bool I.jN True.intro e (fun z=>nomatch z) h
 |int i=>obtain⟨t,q⟩:=(show∃t,u=Value.int i t from rx);cases q;exact PySem.W.kia_one PySem.W.kitx_int I.jN True.intro e (fun z=>nomatch z) h
 |str y=>obtain⟨t,q⟩:=(show∃t,u=Value.str y t from rx);cases q;exact PySem.W.kia_one PySem.W.kitx_str I.jN True.intro e (fun z=>nomatch z) h
 |Ma y=>obtain⟨t,q⟩:=(show∃t,u=Value.float y t from rx);cases q;exact PySem.W.kia_one PySem.W.kitx_float I.jN True.intro e (fun z=>nomatch z) h
 | @lst a xs ea=>
   cases (show u=Value.ref a from rx)
   obtain⟨_,_,n,_,h1⟩:=(show cn X.prog X.w H s.heap a (.lst xs) from I.aV a _ ea)
   exact PySem.W.kia_one PySem.W.kitx_list I.jN ⟨_,h1,rfl⟩ e (fun z=>nomatch z) h
 | @d8 a ob xs ea=>
   cases (show u=Value.ref a from rx)
   obtain⟨_,_,_,n,_,h1⟩:=(show cn X.prog X.w H s.heap a (.d8 ob (.lst xs)) from I.aV a _ ea)
   exact PySem.W.kia_one PySem.W.kitx_list I.jN ⟨_,h1,rfl⟩ e (fun z=>nomatch z) h
 | @tup a xs ea=>
   cases (show u=Value.ref a from rx)
   obtain⟨_,_,_,p⟩:=(show cn X.prog X.w H s.heap a (.tup xs) from I.aV a _ ea)
   obtain⟨o,h1,h2,_⟩:=p
   exact PySem.W.kia_one PySem.W.kitx_tuple I.jN ⟨o,h1,h2⟩ e (fun z=>nomatch z) h
 | @dK a kvs ea=>
   cases (show u=Value.ref a from rx)
   obtain⟨_,_,vs,_,p⟩:=(show cn X.prog X.w H s.heap a (.dK kvs) from I.aV a _ ea)
   obtain⟨o,es,ep,h1,h2,_⟩:=p
   exact PySem.W.kia_one PySem.W.kitx_dict I.jN ⟨o,h1,h2.1⟩ e (fun z=>nomatch z) h
 | @dT a kvs ea=>
   cases (show u=Value.ref a from rx)
   obtain⟨_,_,xs,_,o,es,ep,h1,h2,_⟩:=(show cn X.prog X.w H s.heap a (.dT kvs) from I.aV a _ ea)
   exact PySem.W.kia_one PySem.W.kitx_dict I.jN ⟨o,h1,h2.1⟩ e (fun z=>nomatch z) h
 | @ins a C dx fs ea cl ha hn xS hm=>
   cases (show u=Value.ref a from rx)
   obtain⟨mA,O,_⟩:=pH I.aV ea
   obtain⟨od,J,_⟩:=O.look
   exact PySem.W.kia_one (PySem.W.kitx_own (cl.get _) cl.hd ha hn xS hm) I.jN J e (fun z=>nomatch z) h
end
end L2
namespace L2
open PySem PySem.Spec PyProof.Rows
structure cT(k:Nat)(A:Around):Prop where
 hd:A.handled=none
 dp:A.depth+3*k+5<recursionLimit
 un:A.units+16*k+200<cLine
theorem cT.mono{j k:Nat}{A:Around}(r:cT k A)(h:j≤k):cT j A:=⟨r.hd,by have:=r.dp;omega,by have:=r.un;omega⟩
theorem cT.deeper{k:Nat}{A:Around}(r:cT (k+1) A)(env:Env):cT k (A.deeper env):=
 ⟨r.hd,by have:=r.dp;show A.depth+1+3*k+5<_;omega,by have:=r.un;show A.units+3+16*k+200<_;omega⟩
theorem zI{A:Around}{C:Addr}{us:List Value}{kw:List (Str×Value)}:(A.under (.builtin "type.__call__" ⟨.ref C::us,kw⟩)).depth=A.depth+1:=by
 first|rfl|simp [Around.under,Code.weight,Code.isCreation,Code.isGuard,Code.isCaller,Code.frames,Code.isFrame,guardIds]
theorem zJ{A:Around}{C:Addr}{us:List Value}{kw:List (Str×Value)}:(A.under (.builtin "type.__call__" ⟨.ref C::us,kw⟩)).units=A.units+1:=by
 first|rfl|simp [Around.under,Code.cUnits,Code.frames,Code.isFrame]
theorem cT.make{k:Nat}{A:Around}(r:cT (k+1) A)(C:Addr)(us:List Value)(kw:List (Str×Value)):cT k (A.under (.builtin "type.__call__" ⟨.ref C::us,kw⟩)):=
 ⟨r.hd,by have:=r.dp;rw[zI];omega,by have:=r.un;rw[zJ];omega⟩
theorem cT.depth{k:Nat}{A:Around}(r:cT k A):A.depth<recursionLimit:=by have:=r.dp;omega
theorem cT.units{k:Nat}{A:Around}(r:cT k A):A.units+64<cLine:=by have:=r.un;omega
theorem cT.nR{k:Nat}{A:Around}(r:cT k A):A.units<cLine:=by have:=r.un;omega
def RY:TA:=fun _ H Q=>Q [] H
def RZ(ta:TE)(tr:TA):TA:=fun σ H Q=>ta σ H fun x H1=>tr σ H1 fun xs H2=>Q (x::xs) H2
section
variable {X:Cx}{e:Expr}{es:List Expr}{te:TE}{t:TA}{pos:Pos}
theorem ak:PA X [] RY:=fun _ _ _ _ H Q I h=>Calls.spliced_nil ⟨[],H,I, .nil,h⟩
theorem af(ha:PE X e te)(hr:PA X es t)(hs:starEach (e::es) X.env=(false,eval e X.env)::starEach es X.env:=by rfl):PA X (e::es) (RZ te t):=by
 intro pos pins s σ H Q I h
 rw[hs]
 show wpAny _ _ (spliced ((false,eval e X.env)::backTo pos (starEach es X.env))) _ _ s
 refine Calls.spliced_cons (bV (ha pins s σ H _ I h) fun u s1 ⟨x,H1,I1,r1,q1⟩=>?_)
 exact bV (hr pos pins s1 σ H1 _ I1 q1) fun us s2 ⟨xs,H2,I2,r2,q2⟩=>⟨x::xs,H2,I2, .cons r1 r2,q2⟩
def Z4(t:TA):TE:=fun σ H Q=>t σ H fun xs H1=>xs.length≤sizeLine∧∀p,H1 p=none→Q (.ref p) (upd H1 p (.tup xs))
def Z5(t:TA):TE:=fun σ H Q=>t σ H fun xs H1=>xs.length≤sizeLine∧∀p,H1 p=none→Q (.ref p) (upd H1 p (.lst xs))
theorem bQ{x1}(h:PA X es t):PE X (.Tuple es x1 pos) (Z4 t):=by
 intro pins s σ H Q I hq
 refine wpAny_Tuple_spliced (bV (h pos pins s σ H _ I hq) fun us s1 ⟨xs,H1,I1,r,z,q⟩=>⟨by rw[←r.length];exact z,?_⟩)
 have hf:H1 s1.heap.objs.size=none:=I1.aV.fresh (Nat.le_refl _)
 refine⟨.ref s1.heap.objs.size,upd H1 s1.heap.objs.size (.tup xs),I1.laid (t':=s1.toks) (fun b u e=>Heap.get?_push_of_some _ e) (Nat.le_refl _) ?_,rfl,q _ hf⟩
 exact⟨z,us,r,⟨_,Heap.get?_push_size _ rfl,rfl,_,rfl⟩⟩
theorem cA(h:PA X es t):PE X (.List es pos) (Z5 t):=by
 intro pins s σ H Q I hq
 refine wpAny_List_spliced (bV (h pos pins s σ H _ I hq) fun us s1 ⟨xs,H1,I1,r,z,q⟩=>⟨by rw[←r.length];exact z,?_⟩)
 have hf:H1 s1.heap.objs.size=none:=I1.aV.fresh (Nat.le_refl _)
 refine⟨.ref s1.heap.objs.size,upd H1 s1.heap.objs.size (.lst xs),I1.laid (t':=s1.toks) (fun b u e=>Heap.get?_push_of_some _ e) (Nat.le_refl _) ?_,rfl,q _ hf⟩
 exact⟨z,us,0,r,Heap.get?_push_size _ rfl⟩
end
abbrev Sp:=List V→Hp→VK→XK→Prop
abbrev Bf:=List Env→Hp→Shared→XK→Value→Shared→Prop
structure zK(P:Program)(w:World)(K:PySem.W.Frag)(mg:Str→Option Value)(base:Heap)(A:Around)(outer:List Env)(s:Shared)(H:Hp):Prop where
 frames:A.frames=some outer
 mod:Mod K mg base
 bs:∀b o,base.get? b=some o→s.heap.get? b=some o∧H b=none
 C0:base.objs.size≤s.heap.objs.size
 lq:s.heap.FunFrames base outer
 E2:∀b∈xu outer,H b=none
 aV:jR P w H s.heap
 bare:AllBare s.gens
def CE(outer:List Env)(P:Program)(w:World)(H:Hp)(s:Shared)(Q:VK)(u:Value)(s':Shared):Prop:=
 ∃v H',s'.os=s.os∧AllBare s'.gens∧Un (xu outer) [] H H' s.heap s'.heap∧jR P w H' s'.heap∧RelV v u∧Q v H'
def CR(CX:Bf)(outer:List Env)(P:Program)(w:World)(H:Hp)(s:Shared)(Q:VK)(E:XK)(r:Result)(s':Shared):Prop:=
 match r with
 | .ok (.ret u)=>CE outer P w H s Q u s'
 | .ok _=>False
 | .error e=>CX outer H s E e s'
structure fj(P:Program)(w:World)(K:PySem.W.Frag)(mg:Str→Option Value)(base:Heap)(CX:Bf)(k:Nat)(f:Addr)(fd:FuncData)(ps:List Str)(sp:Sp):Prop where
 len:∀vs H Q E,sp vs H Q E→vs.length=ps.length
 run:∀(A:Around) (outer:List Env) (s:Shared) (H:Hp) (args:Args) (us:List Value) (vs:List V) (Q:VK) (E:XK),cT k A→zK P w K mg base A outer s H→BindsTo s fd args (ps.zip us)→Vals vs us→sp vs H Q E→
  codeAny (model P w) A (.call (.ref f) args) (CR CX outer P w H s Q E) s
theorem zK.make{P:Program}{w:World}{K:PySem.W.Frag}{mg:Str→Option Value}{base:Heap}{A:Around}{outer:List Env}{s:Shared}{H:Hp}(e:zK P w K mg base A outer s H)(C:Addr)(us:List Value)(kw:List (Str×Value)):
  zK P w K mg base (A.under (.builtin "type.__call__" ⟨.ref C::us,kw⟩)) outer s H:=⟨by first|exact e.frames| (simpa [Around.under,Code.envs,Code.isFrame,pushEnvs] using e.frames),e.mod,e.bs,e.C0,e.lq,e.E2,e.aV,e.bare⟩
section
variable {X:Cx}{pins:List (Addr×Obj)}{σ:St}{H:Hp}{s s':Shared}
theorem Inv.JS(I:Inv X pins σ H s):zK X.prog X.w X.K X.mg X.base X.A X.stack s H:=
 ⟨I.ok.frames,I.ok.mod,I.bs,Nat.le_trans I.ok.C0 I.sz,I.stack,I.vg,I.aV,I.bare⟩
theorem Inv.after{Q:VK}{u:Value}(I:Inv X pins σ H s)(h:CE X.stack X.prog X.w H s Q u s'):EP X pins σ Q u s':=by
 obtain⟨v,H',os,bare,un,aV,r,q⟩:=h
 obtain⟨hh,g,d,t,os'⟩:=s'
 obtain rfl:os'=s.os:=os
 exact⟨v,H',I.call (h':=hh) (g':=g) (d':=d) (t':=t) (ch:=[]) un aV bare (fun b z=>absurd z (by simp)),r,q⟩
end
def R1(sp:Sp)(kI:List V)(E:XK)(t:TA):TE:=fun σ H Q=>t σ H fun vs H1=>sp (vs++kI) H1 Q E
def Mj(C:Addr)(m:Str)(sp:Sp)(kI:List V)(E:XK)(ta:TE)(t:TA):TE:=fun σ H Q=>ta σ H fun x H1=>∃a dx fs,x= .ref a∧H1 a=some (.ins C dx fs)∧fs.lookup m=none∧
 t σ H1 fun vs H2=>sp (x::(vs++kI)) H2 Q E
def R3(C:Addr)(sp:Sp)(kI:List V)(E:XK)(t:TA):TE:=fun σ H Q=>t σ H fun vs H1=>∀x dx,H1 x=none→H1 dx=none→dx≠x→
 sp (.ref x::(vs++kI)) (upd (upd H1 dx (.own x)) x (.ins C dx [])) (fun v H2=>v= .cS∧Q (.ref x) H2) E
def Binds(K:PySem.W.Frag)(fd:FuncData)(ps:List Str)(ds:List Value):Prop:=
 ∀(s:Shared) (us:List Value),K.In s.heap→(us++ds).length=ps.length→BindsTo s fd ⟨us,[]⟩ (ps.zip (us++ds))
theorem Binds.all{K:PySem.W.Frag}{fd:FuncData}{ps:List Str}(h:∀us:List Value,us.length=ps.length→bindArgs fd ⟨us,[]⟩=pure (ps.zip us)):Binds K fd ps []:=fun s us _ hl=>by
 rw[List.append_nil] at hl ⊢
 exact .of_eq (h us hl)
def Passes(CX:Bf)(X:Cx)(E:XK):Prop:=∀(pins:List (Addr×Obj)) (σ:St) (H:Hp) (s:Shared) (e:Value) (s':Shared),Inv X pins σ H s→CX X.stack H s E e s'→X.xe e s'
section
variable {X:Cx}{CX:Bf}{k:Nat}{f C:Addr}{fd:FuncData}{ps:List Str}{sp:Sp}{kI:List V}{ds:List Value}{E:XK}{x m:Str}{p pos apos:Pos}{e o:Expr}{es:List Expr}{ta:TE}{t:TA}
theorem zL{pins:List (Addr×Obj)}{σ:St}{H:Hp}{s:Shared}{Q:VK}{us:List Value}{vs:List V}(F:fj X.prog X.w X.K X.mg X.base CX k f fd ps sp)(hr:cT k X.A)(hb:Binds X.K fd ps ds)(hd:Vals kI ds)(hx:Passes CX X E)
  (I:Inv X pins σ H s) (r:Vals vs us) (h:sp (vs++kI) H Q E):wpAny (model X.prog X.w) X.A (call (.ref f) us) (EP X pins σ Q) X.xe s:=by
 have r2:Vals (vs++kI) (us++ds):=r.append hd
 have hl:(us++ds).length=ps.length:=by rw[←r2.length];exact F.len _ _ _ _ h
 refine wpAny_call (codeAny_mono (F.run X.A X.stack s H ⟨us,[]⟩ (us++ds) (vs++kI) Q E hr I.JS (hb s us I.jN hl) r2 h) fun r s' hq=>?_)
 cases r with
 |error e=>exact hx pins σ H s e s' I hq
 |ok fl=>
  cases fl with
  |ret u=>exact I.after hq
  |next=>exact False.elim hq
  |brk=>exact False.elim hq
  |cont=>exact False.elim hq
theorem aJ(F:fj X.prog X.w X.K X.mg X.base CX k f fd ps sp)(hr:cT k X.A)(hg:Gl X x)(hm:X.mg x=some (.ref f))(hk:PySem.W.keepIn X.K (.ref f)=true)(hb:Binds X.K fd ps ds)(hd:Vals kI ds)(hx:Passes CX X E)
  (ha:PA X (e::es) t) (Fd:(x==("__debug__" :Str))=false:=by decide) (he:starEach (e::es) X.env=(false,eval e X.env)::starEach es X.env:=by rfl) (gH:(backTo pos (starEach es X.env)).any (·.1)=false:=by rfl):
  PE X (.Call (.Name x p) (e::es) [] pos) (R1 sp kI E t):=by
 intro pins s σ H Q I h
 refine wpAny_Call_Name_kw (jd I hg hm ?_ Fd)
 refine PySem.W.callWith_K (h₀:=X.base) I.ok.mod.gq hk (bV (ha pos pins s σ H _ I h) fun us s1 ⟨vs,H1,I1,r,q⟩=>⟨I1.jN,?_⟩) he gH
 exact zL F hr hb hd hx I1 r q
theorem bY{pl:Sem Bool}(he:PE X o ta)(c:tf X.K C)(hm:Meth X.K C m f)(F:fj X.prog X.w X.K X.mg X.base CX k f fd ps sp)(hr:cT k X.A)(hb:Binds X.K fd ps ds)(hd:Vals kI ds)(hx:Passes CX X E)(ha:PA X (e::es) t)
  (iV:starEach (e::es) X.env=(false,eval e X.env)::starEach es X.env:=by rfl) (gH:(backTo pos (starEach es X.env)).any (·.1)=false:=by rfl)
  (ht:eval (.Call (.Attribute o m apos) (e::es) [] pos) X.env=(do
   let ov←eval o X.env
   standAt apos.atName
   let (f,first)←holding [ov] (getMethod ov m pl)
   callWith pos f first (backTo pos (starEach (e::es) X.env)) (backToKw pos (keywordEach [] X.env))):=by rfl):
  PE X (.Call (.Attribute o m apos) (e::es) [] pos) (Mj C m sp kI E ta t):=by
 intro pins s σ H Q I h
 refine PySem.W.methodCall_KW (pl:=pl) (bV (he pins s σ H _ I h) fun u s1 ⟨x,H1,I1,rx,a,dx,fs,ex,ea,l,q⟩=>?_) ht
 subst ex
 obtain rfl:u=Value.ref a:=rx
 refine lO I1 ea c hm l ?_
 refine PySem.W.callWith_K (first:=[.ref a]) (h₀:=X.base) I.ok.mod.gq hm.kp (bV (ha pos pins s1 σ H1 _ I1 q) fun us s2 ⟨vs,H2,I2,r,q2⟩=>⟨I2.jN,?_⟩) iV gH
 exact zL (us:= .ref a::us) (vs:= .ref a::vs) F hr hb hd hx I2 (.cons rfl r) q2
theorem aN{pl:Sem Bool}(he:PE X o ta)(c:tf X.K C)(hm:Meth X.K C m f)(F:fj X.prog X.w X.K X.mg X.base CX k f fd ps sp)(hr:cT k X.A)(hb:Binds X.K fd ps ds)(hd:Vals kI ds)(hx:Passes CX X E)
  (ht:eval (.Call (.Attribute o m apos) [] [] pos) X.env=(do
   let ov←eval o X.env
   standAt apos.atName
   let (f,first)←holding [ov] (getMethod ov m pl)
   callWith pos f first (backTo pos (starEach [] X.env)) (backToKw pos (keywordEach [] X.env))):=by rfl):
  PE X (.Call (.Attribute o m apos) [] [] pos) (Mj C m sp kI E ta RY):=by
 intro pins s σ H Q I h
 refine PySem.W.methodCall_KW (pl:=pl) (bV (he pins s σ H _ I h) fun u s1 ⟨x,H1,I1,rx,a,dx,fs,ex,ea,l,q⟩=>?_) ht
 subst ex
 obtain rfl:u=Value.ref a:=rx
 refine lO I1 ea c hm l ?_
 exact PySem.W.callWith_K0 (first:=[.ref a]) I1.jN hm.kp (zL (us:=[.ref a]) (vs:=[.ref a]) F hr hb hd hx I1 (.cons rfl .nil) q)
structure Mk(K:PySem.W.Frag)(C f:Addr):Prop where
 makes:PySem.W.makesIn K C=true
 init:PySem.W.findIn K (.ref C) "__init__" =some (some (.ref f))
 fn:PySem.W.isFn K (.ref f)=true
 kp:PySem.W.keepIn K (.ref C)=true
theorem Fe{pins:List (Addr×Obj)}{σ:St}{H:Hp}{s:Shared}{Q:VK}{us:List Value}{vs:List V}(M:Mk X.K C f)(F:fj X.prog X.w X.K X.mg X.base CX k f fd ps sp)(hr:cT (k+1) X.A)(hb:Binds X.K fd ps ds)(hd:Vals kI ds)
  (hx:Passes CX X E) (I:Inv X pins σ H s) (r:Vals vs us)
  (h:∀x dx,H x=none→H dx=none→dx≠x→sp (.ref x::(vs++kI)) (upd (upd H dx (.own x)) x (.ins C dx [])) (fun v H2=>v= .cS∧Q (.ref x) H2) E):
  wpAny (model X.prog X.w) X.A (call (.ref C) us) (EP X pins σ Q) X.xe s:=by
 have hq:=h (s.heap.objs.size+1) s.heap.objs.size (I.aV.fresh (Nat.le_succ _)) (I.aV.fresh (Nat.le_refl _)) (Nat.ne_of_lt (Nat.lt_succ_self _))
 have I2:=Inv.made (C:=C) I
 have r2:Vals (V.ref (s.heap.objs.size+1)::(vs++kI)) (Value.ref (s.heap.objs.size+1)::(us++ds)):= .cons rfl (r.append hd)
 have hl:(Value.ref (s.heap.objs.size+1)::us++ds).length=ps.length:=by
  have e:=r2.length
  rw[F.len _ _ _ _ hq] at e
  exact e.symm
 refine wpAny_call (Fc (f:=f) I.jN M.makes M.init (beq_iff_eq.mp M.fn) (codeAny_mono (F.run _ X.stack _ _ ⟨Value.ref (s.heap.objs.size+1)::us,[]⟩ (Value.ref (s.heap.objs.size+1)::(us++ds)) _ _ E (hr.make C us [])
  (I2.JS.make C us []) (hb _ (Value.ref (s.heap.objs.size+1)::us) I2.jN hl) r2 hq) fun r s' tj=>?_))
 cases r with
 |error e=>exact hx pins σ _ _ e s' I2 tj
 |ok fl=>
  cases fl with
  |ret u=>
   obtain⟨v,H',I3,rv,ev,q3⟩:=I2.after tj
   subst ev
   exact⟨rv,⟨V.ref (s.heap.objs.size+1),H',I3,rfl,q3⟩⟩
  |next=>exact False.elim tj
  |brk=>exact False.elim tj
  |cont=>exact False.elim tj
theorem fX(M:Mk X.K C f)(F:fj X.prog X.w X.K X.mg X.base CX k f fd ps sp)(hr:cT (k+1) X.A)(hg:Gl X x)(hm:X.mg x=some (.ref C))(hb:Binds X.K fd ps ds)(hd:Vals kI ds)(hx:Passes CX X E)
  (ha:PA X (e::es) t) (Fd:(x==("__debug__" :Str))=false:=by decide) (he:starEach (e::es) X.env=(false,eval e X.env)::starEach es X.env:=by rfl) (gH:(backTo pos (starEach es X.env)).any (·.1)=false:=by rfl):
  PE X (.Call (.Name x p) (e::es) [] pos) (R3 C sp kI E t):=by
 intro pins s σ H Q I h
 refine wpAny_Call_Name_kw (jd I hg hm ?_ Fd)
 refine PySem.W.callWith_K (h₀:=X.base) I.ok.mod.gq M.kp (bV (ha pos pins s σ H _ I h) fun us s1 ⟨vs,H1,I1,r,q⟩=>⟨I1.jN,?_⟩) he gH
 exact Fe M F hr hb hd hx I1 r q
end
section
variable {X:Cx}{CX:Bf}{k:Nat}{f C:Addr}{fd:FuncData}{ps ks:List Str}{sp:Sp}{E:XK}{x m:Str}{p pos apos R4:Pos}{e o:Expr}{es:List Expr}{kws:List Keyword}{te ta:TE}{t tk:TA}{nm:Option Str}
variable {g:List Value→List Value→List Value}{gV:List V→List V→List V}
end
structure ay(N P:List Str)(sc:Scope):Prop where
 kind:sc.kind= .function
 co:sc.isCoroutine=false
 gen:sc.isGenerator=false
 nd:N.Nodup
 pre:N.take P.length=P
 par:∀x∈P,sc.names.lookup x=some .local∨sc.names.lookup x=some .cell
 NZ:∀y∈sc.names,y.2≠ .free
theorem tp{kindOf:Str→Option NameKind}{x:Str}:∀{binds:List (Str×Value)} {m:Str→Option Value},(∀v,(x,v)∉binds)→bindL kindOf binds m x=m x
 | [],_,_=>rfl
 | (n,v)::r,m,h=>by
   unfold bindL
   rw[tp fun w hw=>h w (List.mem_cons_of_mem _ hw)]
   split
   ·have:x≠n:=by rintro rfl;exact h v List.mem_cons_self
    simp [this]
   ·rfl
theorem tq{kindOf:Str→Option NameKind}{x:Str}:∀{binds:List (Str×Value)} {m:Str→Option Value},(∀v,(x,v)∉binds)→bindC kindOf binds m x=m x
 | [],_,_=>rfl
 | (n,v)::r,m,h=>by
   unfold bindC
   rw[tq fun w hw=>h w (List.mem_cons_of_mem _ hw)]
   split
   ·rfl
   ·have:x≠n:=by rintro rfl;exact h v List.mem_cons_self
    simp [this]
theorem tD{kindOf:Str→Option NameKind}{x:Str}{v:Value}:∀{P:List Str} {vs:List Value} {i:Nat} {m:Str→Option Value},P.Nodup→P[i]? =some x→vs[i]? =some v→kindOf x=some .local→
  bindL kindOf (P.zip vs) m x=some v
 | [],_,_,_,_,h,_,_=>by simp at h
 |_::_,[],_,_,_,_,h,_=>by simp at h
 |p::P,w::vs,0,m,nd,h1,h2,hk=>by
  simp at h1 h2;subst h1;subst h2
  show bindL kindOf ((p,w)::P.zip vs) m p=_
  unfold bindL
  rw[tp fun v hv=>(List.nodup_cons.mp nd).1 (List.of_mem_zip hv).1,if_pos hk]
  simp
 |p::P,w::vs,i+1,m,nd,h1,h2,hk=>by
  show bindL kindOf ((p,w)::P.zip vs) m x=_
  unfold bindL
  exact tD (i:=i) (List.nodup_cons.mp nd).2 (by simpa using h1) (by simpa using h2) hk
theorem tE{kindOf:Str→Option NameKind}{x:Str}{v:Value}:∀{P:List Str} {vs:List Value} {i:Nat} {m:Str→Option Value},P.Nodup→P[i]? =some x→vs[i]? =some v→kindOf x≠some .local→
  bindC kindOf (P.zip vs) m x=some v
 | [],_,_,_,_,h,_,_=>by simp at h
 |_::_,[],_,_,_,_,h,_=>by simp at h
 |p::P,w::vs,0,m,nd,h1,h2,hk=>by
  simp at h1 h2;subst h1;subst h2
  show bindC kindOf ((p,w)::P.zip vs) m p=_
  unfold bindC
  rw[tq fun v hv=>(List.nodup_cons.mp nd).1 (List.of_mem_zip hv).1,if_neg hk]
  simp
 |p::P,w::vs,i+1,m,nd,h1,h2,hk=>by
  show bindC kindOf ((p,w)::P.zip vs) m x=_
  unfold bindC
  exact tE (i:=i) (List.nodup_cons.mp nd).2 (by simpa using h1) (by simpa using h2) hk
def start(N:List Str)(vs:List V):St:=vs.map some++List.replicate (N.length - vs.length) none
def jg(CX:Bf)(P:Program)(w:World)(K:PySem.W.Frag)(mg:Str→Option Value)(base:Heap)(N:List Str)(qual:Str)(scope:Scope)(f:Addr)(cd:Value)(A:Around)(outer:List Env)(s:Shared)(H:Hp)(E:XK):Cx where
 prog:=P
 w:=w
 K:=K
 mg:=mg
 base:=base
 A:=A.deeper (envOfC qual scope s.heap.objs.size f cd)
 N:=N
 s₀:=s
 H₀:=H
 env:=envOfC qual scope s.heap.objs.size f cd
 outer:=outer
 stack:=envOfC qual scope s.heap.objs.size f cd::outer
 ex:=[]
 calm:=true
 fn:=fun _=>true
 pn:=[]
 xe:=fun e s'=>wpAny (model P w) (A.deeper (envOfC qual scope s.heap.objs.size f cd)) (leaving (envOfC qual scope s.heap.objs.size f cd) e) (fun _ R5=>CX outer H s E e R5) (fun e' R5=>CX outer H s E e' R5) s'
theorem xT{sc:Scope}{n:Nat}{x:Str}(h:sc.names.lookup x=some .cell):∃c,(cellsFrom n sc.names []).lookup x=some c:=by
 have q:=PySem.W.cellsFrom_some sc.names n [] (.inl h)
 exact Option.isSome_iff_exists.mp q
theorem C6{CX:Bf}{P:Program}{w:World}{K:PySem.W.Frag}{mg:Str→Option Value}{base:Heap}{N ps:List Str}{qual:Str}{scope:Scope}{f:Addr}{cd:Value}{A:Around}{outer:List Env}{s s1:Shared}{H:Hp}{E:XK}{us:List Value}{vs:List V}
  (S:ay N ps scope) (hd:A.handled=none) (e0:zK P w K mg base A outer s H) (hl:vs.length=ps.length) (r:Vals vs us)
  (x:InCallC s s.heap.objs.size (bindL (envOfC qual scope s.heap.objs.size f cd).kindOf (ps.zip us) fun _=>none) (cellsFrom (s.heap.objs.size+1) scope.names []) (bindC (envOfC qual scope s.heap.objs.size f cd).kindOf (ps.zip us) fun _=>none) s1):
  Inv (jg CX P w K mg base N qual scope f cd A outer s H E) [] (start N vs) H s1:=by
 have gH:ps.length≤N.length:=by have:=congrArg List.length S.pre;rw[List.length_take] at this;omega
 obtain⟨h1,tk,rfl,hk⟩:=x.done
 have R6:∀b:Addr,b∉(jg CX P w K mg base N qual scope f cd A outer s H E).ex:=fun b z=>absurd (show b∈([]:List Addr) from z) (by simp)
 refine⟨⟨e0.mod,S.kind,rfl,rfl,Nat.le_refl _,fun y z c h1 h2=>?_,fun y hy=>?_,fun y c _ h=>?_,fun _=>hd,Around.frames_deeper e0.frames, .inr ⟨rfl,rfl⟩,fun b z=>absurd z (R6 b),e0.bs,e0.C0,fun b _ _=>R6 b,fun b z=>absurd z (R6 b),e0.lq,e0.E2⟩,
  rfl,e0.bare,Un.kept hk,⟨_,x.toInCall.ns,fun i y v h1 h2 h3=>?_⟩,fun y c h=>⟨_,x.cell y c h⟩,e0.aV.fresh (Nat.le_refl _),fun y c h=>?_,fun p hp=>absurd (show p∈([]:List (Addr×Obj)) from hp) (by simp),e0.aV.kept hk,?_⟩
 ·exact name_of_addr x.apart (PySem.mem_of_lookup h1) (PySem.mem_of_lookup h2)
 ·have hy:scope.names.lookup y=some .cell∨scope.names.lookup y=some .free:=hy
  rcases hy with hy|hy
  ·exact xT hy
  ·exact absurd rfl (S.NZ _ (PySem.mem_of_lookup hy))
 ·exact Nat.le_of_lt (x.above y c (PySem.mem_of_lookup h))
 ·have hi:i<vs.length:=by
   unfold start at h2
   by_cases hi:i<vs.length
   ·exact hi
   ·rw[List.getElem?_append_right (by simpa using hi)] at h2
    rw[List.getElem?_replicate] at h2
    split at h2<;>cases h2
  have ha:vs[i]? =some v:=by
   unfold start at h2
   rw[List.getElem?_append_left (by simpa using hi),List.getElem?_map] at h2
   cases e:vs[i]? with
   |none=>rw[e] at h2;cases h2
   |some a=>rw[e] at h2;cases h2;rfl
  obtain⟨u,hu,rv⟩:=r.get ha
  have hp:ps[i]? =some y:=by
   rw[←S.pre,List.getElem?_take_of_lt (by omega)];exact h1
  have ndP:ps.Nodup:=by rw[←S.pre];exact S.nd.sublist (List.take_sublist _ _)
  refine⟨u,rv,?_⟩
  rcases S.par y (List.mem_of_getElem? hp) with k|k
  ·exact .inl ⟨k,tD ndP hp hu k⟩
  ·obtain⟨c,e⟩:=xT (n:=s.heap.objs.size+1) k
   refine .inr ⟨.inl k,c,e,?_⟩
   have q:=x.cell y c e
   rw[tE ndP hp hu (by show scope.names.lookup y≠_;rw[k];decide)] at q
   exact q
 ·exact e0.aV.fresh (Nat.le_of_lt (x.above y c (PySem.mem_of_lookup h)))
 ·unfold start
  show _=N.length
  rw[List.length_append,List.length_map,List.length_replicate]
  omega
theorem fn_of{CX:Bf}{P:Program}{w:World}{K:PySem.W.Frag}{mg:Str→Option Value}{base:Heap}{k:Nat}{f:Addr}{name qual:Str}{params:Arguments}{body:List Stmt}{scope:Scope}{dV kV doc pm bp ct oc:Value}{an od:Option Addr}
  {sv:Array (Option Value)} {N ps:List Str} {sp:Sp} (lk:K.lookup f=some ⟨oc,od, .func (PySem.W.fnOf name qual params body scope dV kV doc pm an bp ct),sv⟩) (qj:PySem.W.codeIn K bp qual=true) (S:ay N ps scope)
  (len:∀vs H Q E,sp vs H Q E→vs.length=ps.length)
  (dv:∀(A:Around) (outer:List Env) (s:Shared) (H:Hp) (vs:List V) (Q:VK) (E:XK),cT k (A.deeper (envOfC qual scope s.heap.objs.size f bp))→sp vs H Q E→
   ∃t,lK (jg CX P w K mg base N qual scope f bp A outer s H E) body t∧t { nx:=fun _ H'=>Q .cS H',rt:=Q } (start N vs) H):
  fj P w K mg base CX (k+1) f (PySem.W.fnOf name qual params body scope dV kV doc pm an bp ct) ps sp:=by
 refine⟨len,fun A outer s H args us vs Q E hr e0 hb r Bg=>?_⟩
 have hl:=len _ _ _ _ Bg
 have KX:K.In s.heap:=e0.mod.gq.keeps fun b o e=>(e0.bs b o e).1
 have lim:s.heap.NoLimit:=e0.mod.nolimit.keeps fun b o e=>(e0.bs b o e).1
 have R7:∀y∈ps.zip us,scope.names.lookup y.1=some .local∨(scope.names.lookup y.1=some .cell∧((cellsFrom (s.heap.objs.size+1) scope.names []).lookup y.1).isSome=true):=fun⟨n,v⟩ hy=>by
  rcases S.par n (List.of_mem_zip hy).1 with q|q
  ·exact .inl q
  ·exact .inr ⟨q,PySem.W.cellsFrom_some _ _ _ (.inl q)⟩
 refine codeAny_call_function hr.depth (KX _ _ lk) rfl S.co S.gen rfl (PySem.W.codeRec_of KX qj) (hb _ _ _ _ ?_)
 refine wpAny_newFunctionEnv_cells S.kind R7 fun env he s1 x=>?_
 subst he
 refine⟨lim.keeps x.toInCall.keep,codeAny_func ?_⟩
 obtain⟨t,ht,hq⟩:=dv A outer s H vs Q E (hr.deeper _) Bg
 have I:Inv (jg CX P w K mg base N qual scope f bp A outer s H E) [] (start N vs) H s1:=C6 S hr.hd e0 hl r x
 refine wpAny_mono (ht [] s1 (start N vs) H _ I hq) (fun fl s' hs=>?_) fun e s' hs=>hs
 have fin:∀{σ':St} {H':Hp} {v:V} {u:Value},Inv (jg CX P w K mg base N qual scope f bp A outer s H E) [] σ' H' s'→RelV v u→Q v H'→CE outer P w H s Q u s':=
  fun {σ' H' v u} J rv q=>⟨v,H',J.os,J.bare,J.base,J.aV,rv,q⟩
 cases fl with
 |ret u=>
  obtain⟨v,σ',H',J,rv,q⟩:=hs
  exact fin J rv q
 |next=>
  obtain⟨σ',H',J,q⟩:=hs
  exact fin (v:=V.cS) (u:=Value.none) J rfl q
 |brk=>
  obtain⟨_,_,_,q⟩:=hs
  exact False.elim q
 |cont=>
  obtain⟨_,_,_,q⟩:=hs
  exact False.elim q
end L2
namespace L2
open PySem PySem.Spec PyProof.Rows
section
variable {X:Cx}{x:Str}{p pos:Pos}{e:Expr}{es:List Expr}{t:TA}{id T:String}{r:List V→Hp→VK→Prop}
def tCB(r:List V→Hp→VK→Prop)(t:TA):TE:=fun σ H Q=>t σ H fun vs H1=>r vs H1 Q
theorem bS(hc:gC X (.builtin id) r)(hg:Gl X x)(hm:X.mg x=none)(hv:bootBuiltins x=some (.builtin id))(ha:PA X (e::es) t)(hn:x≠"__name__" :=by decide)(Fd:(x==("__debug__" :Str))=false:=by decide)
  (he:starEach (e::es) X.env=(false,eval e X.env)::starEach es X.env:=by rfl) (gH:(backTo pos (starEach es X.env)).any (·.1)=false:=by rfl):PE X (.Call (.Name x p) (e::es) [] pos) (tCB r t):=by
 intro pins s σ H Q I h
 refine wpAny_Call_Name_kw (lL I hg hm hv ?_ hn Fd)
 exact PyProof.Rows.callWith_builtin1 (bV (ha pos pins s σ H _ I h) fun us s1 ⟨vs,H1,I1,r1,q1⟩=>hc pins s1 σ H1 vs us Q I1 r1 q1) he gH
theorem bI(hc:gC X (.type T) r)(hg:Gl X x)(hm:X.mg x=none)(hv:bootBuiltins x=some (.type T))(ha:PA X (e::es) t)(hn:x≠"__name__" :=by decide)(Fd:(x==("__debug__" :Str))=false:=by decide)
  (he:starEach (e::es) X.env=(false,eval e X.env)::starEach es X.env:=by rfl) (gH:(backTo pos (starEach es X.env)).any (·.1)=false:=by rfl):PE X (.Call (.Name x p) (e::es) [] pos) (tCB r t):=by
 intro pins s σ H Q I h
 refine wpAny_Call_Name_kw (lL I hg hm hv ?_ hn Fd)
 exact PyProof.Rows.callWith_type1 (bV (ha pos pins s σ H _ I h) fun us s1 ⟨vs,H1,I1,r1,q1⟩=>hc pins s1 σ H1 vs us Q I1 r1 q1) he gH
end
end L2
namespace L2
open PySem PySem.Spec PyProof.Rows
section
variable {κ:Type}[DecidableEq κ]
def bW(kvs:List (κ×V))(k:κ):Option V:=(kvs.find? fun kv=>decide (kv.1=k)).map (·.2)
def putK(kvs:List (κ×V))(k:κ)(v:V):List (κ×V):=
 if (kvs.any fun kv=>decide (kv.1=k))=true then kvs.map (fun kv=>if kv.1=k then (kv.1,v) else kv) else kvs++[(k,v)]
theorem cO{p:κ×V}{r:List (κ×V)}{k:κ}(e:p.1=k):bW (p::r) k=some p.2:=by simp [bW,List.find?_cons,e]
theorem cP{p:κ×V}{r:List (κ×V)}{k:κ}(e:¬p.1=k):bW (p::r) k=bW r k:=by simp [bW,List.find?_cons,e]
theorem fk(k:κ):∀kvs:List (κ×V),(kvs.any fun kv=>decide (kv.1=k))=(bW kvs k).isSome
 | []=>rfl
 |p::r=>by
  rw[List.any_cons]
  by_cases e:p.1=k
  ·simp only [cO e,decide_eq_true e,Bool.true_or,Option.isSome_some]
  ·rw[cP e,decide_eq_false e,Bool.false_or];exact fk k r
theorem xU(k j:κ)(y:V):∀kvs:List (κ×V),bW (kvs.map fun kv=>if kv.1=k then (kv.1,y) else kv) j=(bW kvs j).map fun x=>if j=k then y else x
 | []=>rfl
 |p::r=>by
  have ih:=xU k j y r
  rw[List.map_cons]
  by_cases h:p.1=k
  ·rw[if_pos h]
   by_cases e:p.1=j
   ·rw[cO (p:=(p.1,y)) e,cO e,Option.map_some,if_pos (e.symm.trans h)]
   ·rw[cP (p:=(p.1,y)) e,cP e,ih]
  ·rw[if_neg h]
   by_cases e:p.1=j
   ·rw[cO (p:=p) e,cO e,Option.map_some,if_neg (fun z=>h (e.trans z))]
   ·rw[cP (p:=p) e,cP e,ih]
theorem tF(k j:κ)(y:V):∀kvs:List (κ×V),bW kvs k=none→bW (kvs++[(k,y)]) j=if j=k then some y else bW kvs j
 | [],_=>by
   by_cases e:k=j
   ·rw[if_pos e.symm];exact cO (p:=(k,y)) e
   ·rw[if_neg (fun z=>e z.symm)];exact cP (p:=(k,y)) e
 |p::r,hn=>by
  rw[List.cons_append]
  have hk:¬p.1=k:=fun z=>by rw[cO z] at hn;cases hn
  rw[cP hk] at hn
  have ih:=tF k j y r hn
  by_cases e:p.1=j
  ·rw[cO e,cO e,if_neg (fun z=>hk (e.trans z))]
  ·rw[cP e,cP e,ih]
theorem Ff(kvs:List (κ×V))(k j:κ)(y:V):bW (putK kvs k y) j=if j=k then some y else bW kvs j:=by
 unfold putK
 by_cases a:(kvs.any fun kv=>decide (kv.1=k))=true
 ·rw[if_pos a,xU]
  rw[fk] at a
  by_cases e:j=k
  ·obtain⟨x,hx⟩:=Option.isSome_iff_exists.mp a
   rw[if_pos e,e,hx,Option.map_some,if_pos rfl]
  ·rw[if_neg e]
   cases bW kvs j with
   |none=>rfl
   |some x=>rw[Option.map_some,if_neg e]
 ·rw[if_neg a]
  refine tF k j y kvs ?_
  rw[fk] at a
  cases q:bW kvs k with
  |none=>rfl
  |some x=>rw[q] at a;exact(a rfl).elim
theorem cp(kvs:List (κ×V))(k:κ)(v:V):(putK kvs k v).length≤kvs.length+1:=by
 unfold putK
 split
 ·rw[List.length_map];omega
 ·rw[List.length_append,List.length_cons,List.length_nil];omega
theorem mh{kvs:List (κ×V)}{k:κ}(v:V)(h:bW kvs k=none):putK kvs k v=kvs++[(k,v)]:=by
 unfold putK
 rw[fk,h]
 exact if_neg (by decide)
theorem iN.C7{o:Option V}{u:Option Value}(r:iN o u):o.isSome=u.isSome:=by
 cases o with
 |none=>cases u with
  |none=>rfl
  |some _=>exact(show False from r).elim
 |some _=>cases u with
  |none=>exact(show False from r).elim
  |some _=>rfl
theorem iN.getD{o:Option V}{u:Option Value}{d:V}{d':Value}(r:iN o u)(rd:RelV d d'):RelV (o.getD d) (u.getD d'):=by
 cases o with
 |none=>cases u with
  |none=>exact rd
  |some _=>exact(show False from r).elim
 |some _=>cases u with
  |none=>exact(show False from r).elim
  |some _=>exact r
theorem KV.val{kvs:List (κ×V)}{vs:List (κ×Value)}(r:KV kvs vs)(k:κ):iN (bW kvs k) (valueAt vs k):=by
 unfold KV at r
 induction r with
 |nil=>exact True.intro
 | @cons p q ps qs h t ih=>
   obtain⟨h1,h2⟩:=h
   by_cases e:p.1=k
   ·have e':q.1=k:=h1.symm.trans e
    have b:valueAt (q::qs) k=some q.2:=by simp [valueAt,List.find?_cons,e']
    rw[cO e,b];exact h2
   ·have e':¬q.1=k:=fun z=>e (h1.trans z)
    have b:valueAt (q::qs) k=valueAt qs k:=by simp [valueAt,List.find?_cons,e']
    rw[cP e,b];exact ih
theorem KV.any{kvs:List (κ×V)}{vs:List (κ×Value)}(r:KV kvs vs)(k:κ):(kvs.any fun kv=>decide (kv.1=k))=vs.any fun kv=>decide (kv.1=k):=by
 unfold KV at r
 induction r with
 |nil=>rfl
 |cons h t ih=>rw[List.any_cons,List.any_cons,ih,h.1]
theorem KV.N0{kvs:List (κ×V)}{vs:List (κ×Value)}(r:KV kvs vs)(k:κ){y:V}{u:Value}(ry:RelV y u):
  KV (kvs.map fun kv=>if kv.1=k then (kv.1,y) else kv) (vs.map fun kv=>if kv.1=k then (kv.1,u) else kv):=by
 unfold KV at r ⊢
 induction r with
 |nil=>exact .nil
 | @cons p q ps qs h t ih=>
   rw[List.map_cons,List.map_cons]
   refine .cons ?_ ih
   obtain⟨h1,h2⟩:=h
   by_cases e:p.1=k
   ·rw[if_pos e,if_pos (h1.symm.trans e)];exact⟨h1,ry⟩
   ·rw[if_neg e,if_neg (fun z=>e (h1.trans z))];exact⟨h1,h2⟩
theorem KV.put{kvs:List (κ×V)}{vs:List (κ×Value)}(r:KV kvs vs)(k:κ){y:V}{u:Value}(ry:RelV y u):KV (putK kvs k y) (stored vs k u):=by
 unfold putK stored
 rw[r.any k]
 by_cases e:(vs.any fun kv=>decide (kv.1=k))=true
 ·rw[if_pos e,if_pos e];exact r.N0 k ry
 ·rw[if_neg e,if_neg e];exact Paired.snoc r ⟨rfl,ry⟩
theorem KV.keys{kvs:List (κ×V)}{vs:List (κ×Value)}(r:KV kvs vs):kvs.map (·.1)=vs.map (·.1):=by
 unfold KV at r
 induction r with
 |nil=>rfl
 |cons h t ih=>rw[List.map_cons,List.map_cons,ih,h.1]
theorem KV.length{kvs:List (κ×V)}{vs:List (κ×Value)}(r:KV kvs vs):kvs.length=vs.length:=Paired.length r
end
theorem tG{P:Program}{w:World}{k:Key}{u:Value}(r:RelV (kV k) u):(bD P w).is k u=true:=by
 cases k with
 |inl i=>obtain⟨t,e⟩:=(show∃t,u=Value.int i t from r);subst e;exact xJ P w i t
 |inr x=>obtain⟨t,e⟩:=(show∃t,u=Value.str x t from r);subst e;exact xK P w x t
theorem items_are{P:Program}{w:World}:∀{ks:List Key} {us:List Value},Vals (ks.map kV) us→ItemsAre (bD P w) ks us
 | [],_,r=>by rw[List.map_nil] at r;cases r;exact .nil
 |k::ks,_,r=>by
  rw[List.map_cons] at r
  cases r with
  |cons h t=>exact .cons (tG h) (items_are t)
abbrev KT(H:Hp):List (List Key×V)→List (List Key×Addr×Value)→Prop:=Paired fun p q=>p.1=q.1∧H q.2.1=some (.tup (p.1.map kV))∧RelV p.2 q.2.2
theorem KT.val{H:Hp}{kvs:List (List Key×V)}{xs:List (List Key×Addr×Value)}(r:KT H kvs xs)(k:List Key):iN (bW kvs k) ((atKey xs k).map (·.2)):=by
 induction r with
 |nil=>exact True.intro
 | @cons p q ps qs h t ih=>
   obtain⟨h1,_,h2⟩:=h
   by_cases e:p.1=k
   ·have e':q.1=k:=h1.symm.trans e
    have b:atKey (q::qs) k=some q.2:=by simp [atKey,List.find?_cons,e']
    rw[cO e,b];exact h2
   ·have e':¬q.1=k:=fun z=>e (h1.trans z)
    have b:atKey (q::qs) k=atKey qs k:=by simp [atKey,List.find?_cons,e']
    rw[cP e,b];exact ih
theorem KT.N0{H:Hp}{kvs:List (List Key×V)}{xs:List (List Key×Addr×Value)}(r:KT H kvs xs)(k:List Key){y:V}{u:Value}(ry:RelV y u):
  KT H (kvs.map fun kv=>if kv.1=k then (kv.1,y) else kv) (xs.map (putAt k u)):=by
 induction r with
 |nil=>exact .nil
 | @cons p q ps qs h t ih=>
   rw[List.map_cons,List.map_cons]
   refine .cons ?_ ih
   obtain⟨h1,h2,h3⟩:=h
   unfold putAt
   by_cases e:p.1=k
   ·rw[if_pos e,if_pos (h1.symm.trans e)];exact⟨h1,h2,ry⟩
   ·rw[if_neg e,if_neg (fun z=>e (h1.trans z))];exact⟨h1,h2,h3⟩
theorem KT.put{H:Hp}{kvs:List (List Key×V)}{xs:List (List Key×Addr×Value)}(r:KT H kvs xs)(k:List Key){b:Addr}{y:V}{u:Value}(hb:H b=some (.tup (k.map kV)))(ry:RelV y u):
  KT H (putK kvs k y) (storedH xs k b u):=by
 have e:(kvs.any fun kv=>decide (kv.1=k))=(atKey xs k).isSome:=by
  rw[fk,(r.val k).C7,Option.isSome_map]
 unfold putK storedH
 rw[e]
 by_cases q:(atKey xs k).isSome=true
 ·rw[if_pos q,if_pos q];exact r.N0 k ry
 ·rw[if_neg q,if_neg q];exact Paired.snoc r ⟨rfl,hb,ry⟩
theorem KT.keeps{H H':Hp}{kvs:List (List Key×V)}{xs:List (List Key×Addr×Value)}(r:KT H kvs xs)(ht:∀b ys,H b=some (.tup ys)→H' b=some (.tup ys)):KT H' kvs xs:=
 Paired.NG r fun _ _ z=>⟨z.1,ht _ _ z.2.1,z.2.2⟩
section
variable {P:Program}{w:World}{H:Hp}{h:Heap}{a:Addr}
theorem Ml{u:HO}(ok:jR P w H h)(e:Rd H a u):cn P w H h a u:=e.ok ok
theorem mi{kvs:List (Key×V)}(ok:jR P w H h)(e:Rd H a (.dK kvs)):kvs.length≤sizeLine∧(a==sysModules)=false∧∃vs,KV kvs vs∧h.DictOf (bD P w) a vs:=
 show cn P w H h a (.dK kvs) from Ml ok e
theorem oW{kvs:List (Key×V)}(ok:jR P w H h)(e:H a=some (.dK kvs)):kvs.length≤sizeLine∧(a==sysModules)=false∧∃vs,KV kvs vs∧h.DictOf (bD P w) a vs:=mi ok (.inl e)
theorem key_of{ks:List Key}(ok:jR P w H h)(e:H a=some (.tup (ks.map kV))):(tupleKind (bD P w)).is h ks a:=by
 obtain⟨_,its,r,o,h1,h2,n,h3⟩:=(show cn P w H h a (.tup (ks.map kV)) from ok a _ e)
 exact⟨o,its.toArray,n,h1,h2,h3,by simpa using items_are r⟩
theorem xV{kvs:List (List Key×V)}(ok:jR P w H h)(e:Rd H a (.dT kvs)):kvs.length≤sizeLine∧(a==sysModules)=false∧
  ∃xs,KT H kvs xs∧h.DictOfH (tupleKind (bD P w)) a xs:=by
 obtain⟨z,y,xs,r,o,es,ep,h1,h2,h3,h4,h5⟩:=(show cn P w H h a (.dT kvs) from Ml ok e)
 refine⟨z,y,xs,r,o,es,ep,h1,h2,h3,h4,fun x hx=>?_,h5⟩
 have all:∀{l:List (List Key×V)} {m:List (List Key×Addr×Value)},KT H l m→∀x∈m,(tupleKind (bD P w)).is h x.1 x.2.1:=by
  intro l m q
  induction q with
  |nil=>intro x hx;exact nomatch hx
  | @cons p q ps qs hq t ih=>
    intro x hx
    rcases List.mem_cons.mp hx with e|hx
    ·subst e
     exact key_of ok (by rw[←hq.1];exact hq.2.1)
    ·exact ih x hx
 exact all r x hx
theorem R8{kvs:List (List Key×V)}(ok:jR P w H h)(e:H a=some (.dT kvs)):kvs.length≤sizeLine∧(a==sysModules)=false∧
  ∃xs,KT H kvs xs∧h.DictOfH (tupleKind (bD P w)) a xs:=xV ok (.inl e)
end
def gI(H:Hp)(a:Addr)(y:V)(r:Option V):Prop:=
 (∃kvs k,Rd H a (.dK kvs)∧y=kV k∧r=bW kvs k)∨∃kvs k b,Rd H a (.dT kvs)∧y= .ref b∧H b=some (.tup (k.map kV))∧r=bW kvs k
def jh(H:Hp)(a:Addr)(y v:V)(H':Hp):Prop:=
 (∃kvs k,H a=some (.dK kvs)∧y=kV k∧kvs.length<sizeLine∧H'=upd H a (.dK (putK kvs k v)))∨
 ∃kvs k b,H a=some (.dT kvs)∧y= .ref b∧H b=some (.tup (k.map kV))∧kvs.length<sizeLine∧H'=upd H a (.dT (putK kvs k v))
theorem gI.k{H:Hp}{a:Addr}{kvs:List (Key×V)}{k:Key}(e:H a=some (.dK kvs)):gI H a (kV k) (bW kvs k):= .inl ⟨kvs,k, .inl e,rfl,rfl⟩
theorem jh.k{H:Hp}{a:Addr}{kvs:List (Key×V)}{k:Key}{v:V}(e:H a=some (.dK kvs))(hl:kvs.length<sizeLine):jh H a (kV k) v (upd H a (.dK (putK kvs k v))):= .inl ⟨kvs,k,e,rfl,hl,rfl⟩
section
variable {X:Cx}{pins:List (Addr×Obj)}{σ:St}{H:Hp}{s:Shared}{a:Addr}{y v:V}{u r:Value}{o:Option V}{A:Around}{E:Value→Shared→Prop}
theorem Inv.big(I:Inv X pins σ H s):sysModules<s.heap.objs.size:=by
 have h:mainGlobals<s.heap.objs.size:=(I.mod.glob.keeps I.bk).lt
 exact Nat.lt_trans (by decide) h
theorem C8{Q:Value→Shared→Prop}(hu:A.units+1<cLine)(I:Inv X pins σ H s)(g:gI H a y (some v))(ry:RelV y u)(h:∀w' s',Inv X pins σ H s'→RelV v w'→Q w' s'):
  wpAny (model X.prog X.w) A (getItem (.ref a) u) Q E s:=by
 rcases g with ⟨kvs,k,e,ey,l⟩ | ⟨kvs,k,b,e,ey,eb,l⟩
 ·subst ey
  obtain⟨z,hd,vs,rel,dd⟩:=mi I.aV e
  obtain⟨w',hw,Fg⟩:=iN.some_of (v:=v) (o:=valueAt vs k) (by rw[l];exact rel.val k)
  exact wpAny_getItem_of (tG ry) dd.mapOf hw (h w' _ (I.tok _) Fg)
 ·subst ey
  cases (show u=Value.ref b from ry)
  obtain⟨z,hd,xs,rel,dd⟩:=xV I.aV e
  obtain⟨w',hw,Fg⟩:=iN.some_of (v:=v) (o:=(atKey xs k).map (·.2)) (by rw[l];exact rel.val k)
  obtain⟨p,hp,Fh⟩:=Option.map_eq_some_iff.mp hw
  refine wpAny_getItem_heap (tupleKind_room_in1 hu) (key_of I.aV eb) dd hp ?_
  rw[Fh]
  exact h w' _ (I.tok _) Fg
theorem pI{h':Heap}{t':Nat}{ob:HO}(I:Inv X pins σ H s)(mu:Ry (H a))(hs:Heap.SameBut a s.heap h')(he:∃q,h'.get? a=some q)(new:cn X.prog X.w (upd H a ob) h' a ob):
  Inv X pins σ (upd H a ob) { s with heap:=h',toks:=t' }:=
 I.write (x:=a) (e:=a) mu (.inl rfl) (fun b q hb z=>(hs.2 b hb).trans z) he new
theorem qu{P:Program}{w:World}{H':Hp}{h':Heap}{kvs:List (Key×V)}{vs:List (Key×Value)}(z:kvs.length≤sizeLine)(hd:(a==sysModules)=false)(rel:KV kvs vs)(dd:h'.DictOf (bD P w) a vs):
  cn P w H' h' a (.dK kvs):=⟨z,hd,vs,rel,dd⟩
theorem C9{H':Hp}{Q:Unit→Shared→Prop}(hu:A.units+1<cLine)(I:Inv X pins σ H s)(g:jh H a y v H')(ry:RelV y u)(rv:RelV v r)(h:∀s',Inv X pins σ H' s'→Q () s'):
  wpAny (model X.prog X.w) A (setItem (.ref a) u r) Q E s:=by
 rcases g with ⟨kvs,k,e,ey,l,eH⟩ | ⟨kvs,k,b,e,ey,eb,l,eH⟩
 ·subst ey eH
  obtain⟨z,hd,vs,rel,dd⟩:=oW I.aV e
  have hz:vs.length≤sizeLine:=by rw[←rel.length];exact z
  have hl:(putK kvs k v).length≤sizeLine:=by have:=cp kvs k v;omega
  refine wpAny_setItem_pairs (hsz:=hz) (tG ry) dd fun h' Dc hs=>h _ ?_
  have he:∃q,h'.get? a=some q:=let ⟨q,_,_,hq,_⟩:=Dc;⟨q,hq⟩
  exact pI I (by rw[e];exact True.intro) hs he (qu hl hd (rel.put k rv) Dc)
 ·subst ey eH
  cases (show u=Value.ref b from ry)
  obtain⟨z,hd,xs,rel,dd⟩:=R8 I.aV e
  have hz:xs.length≤sizeLine:=by rw[←Paired.length rel];exact z
  have hl:(putK kvs k v).length≤sizeLine:=by have:=cp kvs k v;omega
  refine wpAny_setItem_heap (hsz:=hz) (tupleKind_room_in1 hu) (key_of I.aV eb) dd fun h' Dc hs=>h _ ?_
  obtain⟨q,es,ep,hq,h2,h3,h4,_,h5⟩:=Dc
  refine pI I (by rw[e];exact True.intro) hs ⟨q,hq⟩ ⟨hl,hd,_,(rel.put k eb rv).keeps fun c ys ec=>?_,q,es,ep,hq,h2,h3,h4,h5⟩
  rw[ah (cG ec e (fun z=>nomatch z))]
  exact ec
end
section
variable {X:Cx}{pins:List (Addr×Obj)}{σ:St}{H:Hp}{s:Shared}{a:Addr}{kvs:List (Key×V)}{k:Key}{u:Value}{A:Around}{E:Value→Shared→Prop}
theorem R9{Q:Value→Shared→Prop}(I:Inv X pins σ H s)(e:Rd H a (.dK kvs))(h:∀t s',Inv X pins σ H s'→Q (.int kvs.length t) s'):wpAny (model X.prog X.w) A (call (.builtin "len") [.ref a]) Q E s:=by
 obtain⟨z,hd,vs,rel,dd⟩:=mi I.aV e
 refine call_len_dict hd dd (by rw[←rel.length];rw[sizeLine_eq] at z;omega) ?_
 rw[←rel.length]
 exact h _ _ (I.tok _)
end
def R'(i:Expr):Prop:=∀ov iv,subscripted i false ov iv=operate [ov,iv] (getItem ov iv)
theorem JT{prog:Program}{w:World}{A:Around}{E:Value→Shared→Prop}{s:Shared}{env:Env}{value slice:Expr}{pos:Pos}{T id:String}{Q:Value→Shared→Prop}
  (hl:typeLookup (.type T) "__getitem__" =pure (some (.builtin id))) (hs:R' slice)
  (h:wpAny (model prog w) A (eval value env) (fun o s₁=>wpAny (model prog w) A (eval slice env) (fun i s₂=>s₂.TypeIs o T∧wpAny (model prog w) A (getItem o i) Q E s₂) E s₁) E s):
  wpAny (model prog w) A (eval (.Subscript value slice pos) env) Q E s:=by
 refine Subscript_ (wpAny_mono h (fun o s₁ h₁=>wpAny_mono h₁ (fun i s₂ h₂=>?_) fun _ _ x=>x) fun _ _ x=>x)
 obtain⟨hT,h₂⟩:=h₂
 unfold subscriptTail
 refine wpAny_bind ?_
 rw[getitemInPython_of_ne hT.not_modules]
 refine wpAny_bind (wpAny_specialOf hT hl ?_)
 have fin:wpAny (model prog w) A (subscripted slice false o i) (fun r s₃=>wpAny (model prog w) A (letTemporaryGo value o r >>= fun _=>pure r) Q E s₃) E s₂:=by
  rw[hs o i]
  exact wpAny_operating (wpAny_mono h₂ (fun r s₃ h₃=>wpAny_bind (wpAny_letTemporaryGo (wpAny_pure h₃))) fun _ _ x=>x)
 first
  |exact wpAny_pure (wpAny_bind fin)
  |exact wpAny_bind (wpAny_pure (wpAny_bind fin))
  |exact wpAny_bind fin
theorem xW{X:Cx}{pins:List (Addr×Obj)}{σ:St}{H:Hp}{s:Shared}{a:Addr}{y:V}{o:Option V}(I:Inv X pins σ H s)(g:gI H a y o):s.TypeIs (.ref a) "dict" :=by
 rcases g with ⟨kvs,k,e,_,_⟩ | ⟨kvs,k,b,e,_,_,_⟩
 ·obtain⟨_,_,vs,_,dd⟩:=mi I.aV e
  exact dd.typeIs
 ·obtain⟨_,_,xs,_,dd⟩:=xV I.aV e
  exact dd.typeIs
def Fi(td ty:TE):TE:=fun σ H Q=>td σ H fun x H1=>ty σ H1 fun y H2=>∃a v,x= .ref a∧gI H2 a y (some v)∧Q v H2
def Fj(td ty tv:TE):TS:=fun D σ H=>tv σ H fun v H1=>td σ H1 fun x H2=>ty σ H2 fun y H3=>∃a H4,x= .ref a∧jh H3 a y v H4∧D.nx σ H4
section
variable {X:Cx}{o i e value:Expr}{pos pos' sJ:Pos}{td ty tv:TE}
theorem cY(hu:X.A.units+1<cLine)(ho:PE X o td)(hi:PE X i ty)(hs:R' i):PE X (.Subscript o i pos) (Fi td ty):=by
 intro pins s σ H Q I h
 refine JT PySem.F.slot_dict_getitem.lookup hs (bV (ho pins s σ H _ I h) fun u s1 ⟨x,H1,I1,rx,q1⟩=>bV (hi pins s1 σ H1 _ I1 q1) fun iv s2 ⟨y,H2,I2,ry,a,v,ex,g,q2⟩=>?_)
 subst ex
 obtain rfl:u=Value.ref a:=rx
 exact⟨xW I2 g,C8 hu I2 g ry fun w' s3 I3 Fg=>⟨v,H2,I3,Fg,q2⟩⟩
theorem cZ(hu:X.A.units+1<cLine)(ho:PE X o td)(hi:PE X i ty)(hv:PE X value tv)(hs:swapsWith value (some (.Subscript o i pos')) pos.line X.env=pure false):
  PS X (.Assign [.Subscript o i pos'] value pos) (Fj td ty tv):=by
 intro pins s σ H D I h
 refine wpAny_Assign_Subscript (bV (hv pins s σ H _ I h) fun r s1 ⟨v,H1,I1,rv,q1⟩=>bV (ho pins s1 σ H1 _ I1 q1) fun u s2 ⟨x,H2,I2,rx,q2⟩=>bV (hi pins s2 σ H2 _ I2 q2) fun iv s3 ⟨y,H3,I3,ry,a,H4,ex,g,q3⟩=>?_) hs
 subst ex
 obtain rfl:u=Value.ref a:=rx
 exact C9 hu I3 g ry rv fun s4 I4=>⟨σ,H4,I4,q3⟩
end
theorem xX{P:Program}{w:World}{H:Hp}(h:Heap)(hb:sysModules<h.objs.size):cn P w H (h.push { cls:= .type "dict",data:= .dict #[] }) h.objs.size (.dK []):=
 ⟨Nat.zero_le _,beq_eq_false_iff_ne.mpr (Ne.symm (Nat.ne_of_lt hb)),[], .nil,Heap.DictOf.new h⟩
def N2:TE:=fun _ H Q=>∀p,H p=none→Q (.ref p) (upd H p (.dK []))
section
variable {X:Cx}{pos:Pos}
theorem dw:PE X (.Dict [] [] pos) N2:=fun pins s σ H Q I h=>
 wpAny_Dict_empty ⟨.ref s.heap.objs.size,_,I.laid (a:=s.heap.objs.size) (o:= .dK []) (t':=s.toks) (fun _ _ q=>Heap.get?_push_of_some _ q) (Nat.le_refl _) (xX s.heap I.big),rfl,h _ (I.aV.fresh (Nat.le_refl _))⟩
end
def zM:List (TE×TE)→St→Hp→(List (V×V)→Hp→Prop)→Prop
 | [],_,H,Q=>Q [] H
 | (tk,tv)::r,σ,H,Q=>tk σ H fun x H1=>tv σ H1 fun y H2=>zM r σ H2 fun ps H3=>Q ((x,y)::ps) H3
abbrev VV:List (V×V)→List (Value×Value)→Prop:=Paired fun p q=>RelV p.1 q.1∧RelV p.2 q.2
def YO(X:Cx)(pos:Pos)(keys:List (Option Expr))(values:List Expr)(JU:List (TE×TE)):Prop:=
 ∀(pins:List (Addr×Obj)) (s:Shared) (σ:St) (H:Hp) (Q:List (V×V)→Hp→Prop),Inv X pins σ H s→zM JU σ H Q→
  wpAny (model X.prog X.w) X.A (evalPairs (pairTrees keys values X.env pos)) (fun vs s'=>∃ps H',Inv X pins σ H' s'∧VV ps vs∧Q ps H') X.xe s
theorem vn{X:Cx}{pos:Pos}:YO X pos [] [] []:=fun pins s σ H Q I h=>pairTrees_nil_walk ⟨[],H,I, .nil,h⟩
theorem qv{X:Cx}{pos:Pos}{k v:Expr}{ks:List (Option Expr)}{vs:List Expr}{tk tv:TE}{JU:List (TE×TE)}(hk:PE X k tk)(hv:PE X v tv)(hr:YO X pos ks vs JU):
  YO X pos (some k::ks) (v::vs) ((tk,tv)::JU):=fun pins s σ H Q I h=>
 pairTrees_cons_walk (bV (hk pins s σ H _ I h) fun u s1 ⟨x,H1,I1,rx,q1⟩=>bV (hv pins s1 σ H1 _ I1 q1) fun w2 s2 ⟨y,H2,I2,ry,q2⟩=>
  bV (hr pins s2 σ H2 _ I2 q2) fun ws s3 ⟨ps,H3,I3,rel,q3⟩=>⟨(x,y)::ps,H3,I3, .cons ⟨rx,ry⟩ rel,q3⟩)
def cq(kvs more:List (Key×V)):List (Key×V):=more.foldl (fun acc kv=>putK acc kv.1 kv.2) kvs
theorem KV.merge:∀{more:List (Key×V)} {rs:List (Key×Value)} {kvs:List (Key×V)} {vs:List (Key×Value)},KV more rs→KV kvs vs→KV (cq kvs more) (merged vs rs):=by
 intro more rs kvs vs r
 unfold KV at r
 induction r generalizing kvs vs with
 |nil=>intro q;exact q
 | @cons p q ps qs h t ih=>
   intro r0
   have e:KV (putK kvs p.1 p.2) (stored vs q.1 q.2):=by
    have:=r0.put p.1 h.2
    rw[←h.1];exact this
   exact ih e
theorem eh:∀(more kvs:List (Key×V)),(cq kvs more).length≤kvs.length+more.length
 | [],kvs=>by show kvs.length≤kvs.length+0;omega
 |p::r,kvs=>by
  have h1:=eh r (putK kvs p.1 p.2)
  have h2:=cp kvs p.1 p.2
  show (cq (putK kvs p.1 p.2) r).length≤_
  rw[List.length_cons];omega
theorem qw{P:Program}{w:World}:∀{kvs:List (Key×V)} {ws:List (Value×Value)},VV (kvs.map fun kv=>(kV kv.1,kv.2)) ws→∃rs,Carries (bD P w) ws rs∧KV kvs rs
 | [],_,r=>by rw[List.map_nil] at r;cases r;exact⟨[],True.intro, .nil⟩
 |p::kvs,_,r=>by
  rw[List.map_cons] at r
  cases r with
  | @cons a b as bs h t=>
    obtain⟨rs,c,q⟩:=qw (P:=P) (w:=w) t
    obtain⟨b1,b2⟩:=b
    exact⟨(p.1,b2)::rs,⟨tG h.1,rfl,c⟩, .cons ⟨rfl,h.2⟩ q⟩
def Sa(JU:List (TE×TE)):TE:=fun σ H Q=>∀p,H p=none→zM JU σ (upd H p (.dK [])) fun ps H2=>H2 p=some (.dK [])∧∃kvs:List (Key×V),ps=kvs.map (fun kv=>(kV kv.1,kv.2))∧kvs.length≤15∧Q (.ref p) (upd H2 p (.dK (cq [] kvs)))
theorem vo{X:Cx}{pos:Pos}{keys:List (Option Expr)}{values:List Expr}{JU:List (TE×TE)}(h:YO X pos keys values JU)(Dd:keys.all (·.isSome)=true)(hl:keys.length=values.length)(h0:keys≠[])
  (h15:keys.length≤15):PE X (.Dict keys values pos) (Sa JU):=by
 intro pins s σ H Q I q
 have hn:=I.aV.fresh (Nat.le_refl s.heap.objs.size)
 have I1:=I.laid (a:=s.heap.objs.size) (o:= .dK []) (h':=s.heap.push { cls:= .type "dict",data:= .dict #[] }) (t':=s.toks) (fun _ _ q=>Heap.get?_push_of_some _ q) (Nat.le_refl _) (xX s.heap I.big)
 refine wpAny_Dict_walk (knd:=bD X.prog X.w) Dd hl h0 h15 (bV (h pins _ σ _ _ I1 (q _ hn)) fun ws s2 ⟨ps,H2,I2,rel,e,kvs,ep,lk,q2⟩=>?_)
 subst ep
 obtain⟨rs,c,rk⟩:=qw (P:=X.prog) (w:=X.w) rel
 obtain⟨z,hd,vs0,r0,dd⟩:=oW I2.aV e
 cases r0
 refine⟨rs,c,dd,fun h' Dc hs=>⟨.ref s.heap.objs.size,_,?_,rfl,q2⟩⟩
 have hz:(cq [] kvs).length≤sizeLine:=by
  have h1:=eh kvs []
  rw[List.length_nil] at h1
  rw[sizeLine_eq];omega
 have he:∃q,h'.get? s.heap.objs.size=some q:=let ⟨q,_,_,hq,_⟩:=Dc;⟨q,hq⟩
 exact pI I2 (by rw[e];exact True.intro) hs he (qu hz hd (rk.merge .nil) Dc)
structure M1(X:Cx)(o:Expr)(m:Str)(apos:Pos)(e:Expr)(gZ:Pos):Prop where
 base:attributeBase o m X.env (eval o X.env)=eval o X.env
 Z6:((backTo gZ (starEach [e] X.env)).all (fun x=>!x.1)&&(backToKw gZ (keywordEach [] X.env)).all (fun x=>x.1.isSome)
  &&decide (([e]:List Expr).length+([]:List Keyword).length+(if ([]:List Keyword).isEmpty then 0 else 1) <30))=true
 line:(apos.endLine==gZ.line)=true
 trees:backTo gZ (starEach [e] X.env)=[(false,eval e X.env)]
structure M2(X:Cx)(o:Expr)(m:Str)(apos:Pos)(e f:Expr)(gZ:Pos):Prop where
 base:attributeBase o m X.env (eval o X.env)=eval o X.env
 Z6:((backTo gZ (starEach [e,f] X.env)).all (fun x=>!x.1)&&(backToKw gZ (keywordEach [] X.env)).all (fun x=>x.1.isSome)
  &&decide (([e,f]:List Expr).length+([]:List Keyword).length+(if ([]:List Keyword).isEmpty then 0 else 1) <30))=true
 line:(apos.endLine==gZ.line)=true
 trees:backTo gZ (starEach [e,f] X.env)=[(false,eval e X.env),(false,eval f X.env)]
def Z7(H:Hp)(a:Addr):Prop:=(∃kvs,Rd H a (.dK kvs))∨∃kvs,Rd H a (.dT kvs)
theorem Fl{X:Cx}{pins:List (Addr×Obj)}{σ:St}{H:Hp}{s:Shared}{a:Addr}(I:Inv X pins σ H s)(d:Z7 H a):
  s.TypeIs (.ref a) "dict" ∧(∀b,Value.ref a= .ref b→∃ob,s.heap.get? b=some ob∧ob.dict=none)∧(a==sysModules)=false:=by
 rcases d with ⟨kvs,e⟩ | ⟨kvs,e⟩
 ·obtain⟨_,hd,vs,_,dd⟩:=mi I.aV e
  refine⟨dd.typeIs,fun b q=>?_,hd⟩
  cases q
  obtain⟨ob,_,_,h1,h2,_⟩:=dd
  exact⟨ob,h1,h2.2.1⟩
 ·obtain⟨_,hd,xs,_,dd⟩:=xV I.aV e
  refine⟨dd.typeIs,fun b q=>?_,hd⟩
  cases q
  obtain⟨ob,_,_,h1,h2,_⟩:=dd
  exact⟨ob,h1,h2.2.1⟩
section
variable {X:Cx}{pins:List (Addr×Obj)}{σ:St}{H:Hp}{s:Shared}{a:Addr}{y d:V}{u r:Value}{o:Option V}{A:Around}{E:Value→Shared→Prop}
theorem N3{Q:Value→Shared→Prop}(hu:A.units+1<cLine)(I:Inv X pins σ H s)(g:gI H a y o)(ry:RelV y u)(rd:RelV d r)(h:∀w' s',Inv X pins σ H s'→RelV (o.getD d) w'→Q w' s'):
  wpAny (model X.prog X.w) A (call (.builtin "dict.get") [.ref a,u,r]) Q E s:=by
 rcases g with ⟨kvs,k,e,ey,l⟩ | ⟨kvs,k,b,e,ey,eb,l⟩
 ·subst ey
  obtain⟨z,hd,vs,rel,dd⟩:=mi I.aV e
  refine call_meetsIn PySem.F.slot_dict_get dd.typeIs PySem.F.entry_dict_get (PySem.F.args_dict_get_3 _ _ _) (meets_dict_get_default (bD X.prog X.w) a (tG ry) hd r) ⟨_,dd.mapOf,h _ _ (I.tok _) ?_⟩
  rw[l]
  exact(rel.val k).getD rd
 ·subst ey
  cases (show u=Value.ref b from ry)
  obtain⟨z,hd,xs,rel,dd⟩:=xV I.aV e
  refine call_meetsIn PySem.F.slot_dict_get dd.typeIs PySem.F.entry_dict_get (PySem.F.args_dict_get_3 _ _ _) (meetsH_dict_get_default (tupleKind (bD X.prog X.w)) a b hd r) ⟨tupleKind_room_in1 hu,k,xs,key_of I.aV eb,dd,h _ _ (I.tok _) ?_⟩
  rw[l]
  exact(rel.val k).getD rd
end
def zN(td ty tx:TE):TE:=fun σ H Q=>td σ H fun x H1=>∃a,x= .ref a∧Z7 H1 a∧ty σ H1 fun y H2=>tx σ H2 fun z H3=>∃o,gI H3 a y o∧Q (o.getD z) H3
section
variable {X:Cx}{o e f:Expr}{apos gZ:Pos}{td ty tx:TE}
theorem bZ(hu:X.A.units+1<cLine)(ho:PE X o td)(he:PE X e ty)(hf:PE X f tx)(m:M2 X o "get" apos e f gZ):PE X (.Call (.Attribute o "get" apos) [e,f] [] gZ) (zN td ty tx):=by
 intro pins s σ H Q I h
 refine wpAny_Call_method m.base m.Z6 m.line PySem.F.plainAttrs_dict PySem.F.slot_dict_get PySem.F.type_dict_get (bV (ho pins s σ H _ I h) fun u s1 ⟨x,H1,I1,rx,a,ex,d,q1⟩=>?_)
 subst ex
 obtain rfl:u=Value.ref a:=rx
 obtain⟨t1,t2,_⟩:=Fl I1 d
 refine⟨t1,t2,?_⟩
 rw[m.trees]
 refine Calls.callWith_builtin rfl (Calls.evalArgs_plain (Calls.spliced_cons (bV (he pins s1 σ H1 _ I1 q1) fun iv s2 ⟨y,H2,I2,ry,q2⟩=>
  Calls.spliced_cons (bV (hf pins s2 σ H2 _ I2 q2) fun fv s3 ⟨z,H3,I3,rz,ov,g,q3⟩=>Calls.spliced_nil ?_))))
 exact N3 hu I3 g ry rz fun w' s4 I4 Fg=>⟨_,H3,I4,Fg,q3⟩
end
section
variable {X:Cx}{pins:List (Addr×Obj)}{σ:St}{H:Hp}{s:Shared}{a:Addr}{kvs:List (Key×V)}{A:Around}{E:Value→Shared→Prop}
theorem Fn{Q:Value→Shared→Prop}(I:Inv X pins σ H s)(e:Rd H a (.dK kvs))(h:∀p s',H p=none→Inv X pins σ (upd H p (.dK kvs)) s'→Q (.ref p) s'):wpAny (model X.prog X.w) A (call (.type "dict") [.ref a]) Q E s:=by
 obtain⟨z,hd,vs,rel,dd⟩:=mi I.aV e
 refine kt_call_dict hd dd (by rw[←rel.length];exact z) fun h' Dc hs=>?_
 refine h _ _ (I.aV.fresh (Nat.le_refl _)) (I.laid (a:=s.heap.objs.size) (o:= .dK kvs) (t':=s.toks) (fun b q hq=>?_) (Nat.le_refl _) (qu z (beq_eq_false_iff_ne.mpr (Ne.symm (Nat.ne_of_lt I.big))) rel Dc))
 exact(hs.2 b (Nat.ne_of_lt (Heap.lt_size hq))).trans (Heap.get?_push_of_some _ hq)
end
section
variable {X:Cx}{pins:List (Addr×Obj)}{σ:St}{H:Hp}{s:Shared}{a:Addr}{y:V}{u:Value}{A:Around}{E:Value→Shared→Prop}
end
end L2
namespace HT
open PySem PyProof.Rows
section
open PySem.SeqAt
open PySem.AutoSeq1 (wpAny_loadPart')
open PySem.MeetsSeq PySem.MeetsSeq2 PySem.MeetsSeq3
end
section
variable {prog:Program}{w:World}{A:Around}{E:Value→Shared→Prop}{s:Shared}
def xw(n d:Nat):Option Int→Nat
 |none=>d
 |some v=>if v<0 then (v+(n:Int)).toNat else min v.toNat n
end
end HT
namespace L2
open PySem PySem.Spec PyProof.Rows
abbrev TO:=St→Hp→(Option Int→Hp→Prop)→Prop
def PO(X:Cx)(e:Option Expr)(t:TO):Prop:=
 ∀(pins:List (Addr×Obj)) (s:Shared) (σ:St) (H:Hp) (Q:Option Int→Hp→Prop),Inv X pins σ H s→t σ H Q→
  wpAny (model X.prog X.w) X.A (evalPart e X.env) (fun u s'=>∃o H',Inv X pins σ H' s'∧IsPart u o∧Q o H') X.xe s
def Sb(t:TE):TO:=fun σ H Q=>t σ H fun x H1=>∃i,x= .int i∧Q (some i) H1
theorem intsAre_of{ns:List Int}:∀{us:List Value},Vals (ns.map V.int) us→IntsAre us ns:=by
 induction ns with
 |nil=>intro us r;rw[List.map_nil] at r;cases r;exact .nil
 |cons n ns ih=>
  intro us r
  rw[List.map_cons] at r
  cases r with
  |cons r1 r2=>
   obtain⟨t,e⟩:=r1
   subst e
   exact .cons n t (ih r2)
section
variable {X:Cx}{e:Expr}{te:TE}{lo hi:Option Expr}{tl th:TO}{pos p2:Pos}
theorem fY(h:PE X e te):PO X (some e) (Sb te):=by
 intro pins s σ H Q I hw
 rw[evalPart_some]
 refine bV (h pins s σ H _ I hw) fun u s1 ⟨x,H1,I1,r1,q1⟩=>?_
 obtain⟨i,rfl,q⟩:=q1
 obtain⟨t,rfl⟩:=r1
 exact⟨some i,H1,I1, .int i t,q⟩
def Z8(X:Cx)(r:V→Option Int→Option Int→Hp→VK→Prop):Prop:=
 ∀(pins:List (Addr×Obj)) (s:Shared) (σ:St) (H:Hp) (x:V) (v vl vu:Value) (lo hi:Option Int) (sl:Addr) (Q:VK),Inv X pins σ H s→RelV x v→s.heap.IsSliceOf sl vl vu .none→IsPart vl lo→IsPart vu hi→r x lo hi H Q→
  ∃T id,typeLookup (.type T) "__getitem__" =pure (some (.builtin id))∧s.TypeIs v T∧wpAny (model X.prog X.w) X.A (getItem v (.ref sl)) (EP X pins σ Q) X.xe s
def tSl(r:V→Option Int→Option Int→Hp→VK→Prop)(te:TE)(tl th:TO):TE:=fun σ H Q=>te σ H fun x H1=>tl σ H1 fun l H2=>th σ H2 fun u H3=>r x l u H3 Q
theorem jZ{r:V→Option Int→Option Int→Hp→VK→Prop}(hr:Z8 X r)(he:PE X e te)(hl:PO X lo tl)(hu:PO X hi th):PE X (.Subscript e (.Slice lo hi none p2) pos) (tSl r te tl th):=by
 intro pins s σ H Q I h
 refine Subscript_ (bV (he pins s σ H _ I h) fun v s1 ⟨x,H1,I1,r1,q1⟩=>?_)
 refine wpAny_Slice (bV (hl pins s1 σ H1 _ I1 q1) fun vl s2 ⟨l,H2,I2,pl,q2⟩=>bV (hu pins s2 σ H2 _ I2 q2) fun vu s3 ⟨u,H3,I3,pu,q3⟩=>?_)
 rw[evalPart_none]
 refine wpAny_pure ?_
 have I4:Inv X pins σ H3 { s3 with heap:=s3.heap.push { cls:= .type "slice",data:= .fields #[vl,vu, .none] } }:=I3.kept (t':=s3.toks) fun b ob q=>Heap.get?_push_of_some _ q
 obtain⟨T,id,hT,ht,hg⟩:=hr pins { s3 with heap:=s3.heap.push { cls:= .type "slice",data:= .fields #[vl,vu, .none] } } σ H3 x v vl vu l u s3.heap.objs.size Q I4 r1 (Heap.IsSliceOf.new ..) pl pu q3
 show wpAny (model X.prog X.w) X.A (subscriptTail e (.Slice lo hi none p2) v (.ref s3.heap.objs.size)) (EP X pins σ Q) X.xe { s3 with heap:=s3.heap.push { cls:= .type "slice",data:= .fields #[vl,vu, .none] } }
 exact tail_any (ops:=[.ref s3.heap.objs.size,v]) ht hT hg (by with_unfolding_all rfl)
def vp(xs:List V)(lo hi:Option Int):List V:=(xs.drop (HT.xw xs.length 0 lo)).take (HT.xw xs.length xs.length hi - HT.xw xs.length 0 lo)
theorem oX(xs:List V)(lo hi:Option Int):(vp xs lo hi).length≤xs.length:=by
 unfold vp
 rw[List.length_take,List.length_drop]
 omega
end
end L2
namespace L2
open PySem PySem.Spec PyProof.Rows
def JV(n:Nat)(i:Int):Option Nat:=if 0≤i then (if i<n then some i.toNat else none) else if -(n:Int)≤i then some (i+n).toNat else none
def zO{α:Type}(xs:List α)(i:Int):Option α:=(JV xs.length i).bind fun j=>xs[j]?
theorem Bh{n:Nat}{i:Int}{j:Nat}(h:JV n i=some j):seqIndex? i n=some j∧j<n∧ -(n:Int)≤i∧i<n:=by
 unfold JV at h
 by_cases h0:0≤i
 ·rw[if_pos h0] at h
  by_cases h1:i<n
  ·rw[if_pos h1] at h
   have e:i.toNat=j:=Option.some.inj h
   exact⟨by rw[seqIndex_of h0 h1,e],by omega,by omega,h1⟩
  ·rw[if_neg h1] at h;cases h
 ·rw[if_neg h0] at h
  by_cases h1: -(n:Int)≤i
  ·rw[if_pos h1] at h
   have e:(i+n).toNat=j:=Option.some.inj h
   exact⟨by rw[seqIndex_neg (by omega) h1,e],by omega,h1,by omega⟩
  ·rw[if_neg h1] at h;cases h
theorem vq{α:Type}{xs:List α}{i:Int}{v:α}(h:zO xs i=some v):∃j,seqIndex? i xs.length=some j∧xs[j]? =some v∧j<xs.length∧ -(xs.length:Int)≤i∧i<xs.length:=by
 unfold zO at h
 cases e:JV xs.length i with
 |none=>rw[e] at h;cases h
 |some j=>
  rw[e] at h
  obtain⟨h1,h2,h3,h4⟩:=Bh e
  exact⟨j,h1,h,h2,h3,h4⟩
theorem mj{α:Type}{xs:List α}{j:Nat}{v:α}(h:xs[j]? =some v):zO xs (j:Int)=some v:=by
 have hj:j<xs.length:=(List.getElem?_eq_some_iff.mp h).1
 have e:JV xs.length (j:Int)=some j:=by
  unfold JV
  rw[if_pos (by omega),if_pos (by omega)];simp
 unfold zO;rw[e];exact h
def JW(b:Expr):Prop:=∀o i,subscripted b false o i=operate [o,i] (getItem o i)
def Sd(X:Cx)(r:R2):Prop:=
 ∀(value slice:Expr) (pins:List (Addr×Obj)) (s:Shared) (σ:St) (H:Hp) (x y:V) (v u:Value) (Q:VK),Inv X pins σ H s→RelV x v→RelV y u→r x y H Q→
  subscripted slice false v u=operate [v,u] (getItem v u)→wpAny (model X.prog X.w) X.A (subscriptTail value slice v u) (EP X pins σ Q) X.xe s
def Z9(X:Cx)(id:String)(r:V→List V→Hp→VK→Prop):Prop:=
 ∀(pins:List (Addr×Obj)) (s:Shared) (σ:St) (H:Hp) (x:V) (xs:List V) (v:Value) (us:List Value) (Q:VK),Inv X pins σ H s→RelV x v→Vals xs us→r x xs H Q→
  wpAny (model X.prog X.w) X.A (call (.builtin id) (v::us)) (EP X pins σ Q) X.xe s
section
variable {X:Cx}{a b:Expr}{ta tb:TE}{pos:Pos}
theorem cf{r:R2}(hr:Sd X r)(ha:PE X a ta)(hb:PE X b tb)(hs:JW b):PE X (.Subscript a b pos) (NU r ta tb):=by
 intro pins s σ H Q I h
 exact Subscript_ (NV ha hb I h fun v u s2 x y H2 I2 rx ry q=>hr a b pins s2 σ H2 x y v u Q I2 rx ry q (hs _ _))
def Z'(K:PySem.W.Frag):R2:=fun x y H Q=>∃p xs i v,x= .ref p∧y= .int i∧bJ K H p xs∧zO xs i=some v∧Q v H
def Se(K:PySem.W.Frag):R2:=fun x y H Q=>∃p xs i v,x= .ref p∧y= .int i∧ir K H p xs∧zO xs i=some v∧Q v H
def aaa:R2:=fun x y H Q=>∃z i c,x= .str z∧y= .int i∧z.length≤sizeLine∧zO z.cps.toList i=some c∧Q (.str ⟨#[c]⟩) H
theorem cQ:Sd X (Z' X.K):=by
 intro value slice pins s σ H x y v u Q I rx ry h hs
 obtain⟨p,xs,i,z,rfl,rfl,hq,he,q⟩:=h
 cases rx
 obtain⟨t,rfl⟩:=ry
 obtain⟨its,r,pl,hz⟩:=I.list hq
 obtain⟨j,h1,h2,h3,h4,h5⟩:=vq he
 obtain⟨w,ew,Fg⟩:=r.get h2
 have hl:=r.length
 have hn:=lN
 have fin:EP X pins σ Q w s:=⟨z,H,I,Fg,q⟩
 by_cases h0:0≤i
 ·have hj:i.toNat=j:=by
   rw[seqIndex_of h0 h5] at h1
   exact Option.some.inj h1
  exact item_listR pl.isList h0 (by omega) (by rw[hj];simpa using ew) fin hs
 ·have hj:(i+(its.toArray.size:Int)).toNat=j:=by
   rw[seqIndex_neg (by omega) h4] at h1
   rw[List.size_toArray,←hl]
   exact Option.some.inj h1
  exact subscriptTail_builtinR (x:=w) pl.isList.typeIs slot_list_getitem.lookup
   (wpAny_getItem_list_neg (Q:=fun r s'=>r=w∧EP X pins σ Q r s') pl.isList (by omega) (by rw[List.size_toArray]<;>omega) (by omega) (by rw[hj];simpa using ew) ⟨rfl,fin⟩) hs
theorem gu:Sd X (Se X.K):=by
 intro value slice pins s σ H x y v u Q I rx ry h hs
 obtain⟨p,xs,i,z,rfl,rfl,hq,he,q⟩:=h
 cases rx
 obtain⟨t,rfl⟩:=ry
 obtain⟨its,r,pl,hz⟩:=I.tuple hq
 obtain⟨j,h1,h2,h3,h4,h5⟩:=vq he
 obtain⟨w,ew,Fg⟩:=r.get h2
 have hl:=r.length
 have hn:=lN
 have fin:EP X pins σ Q w s:=⟨z,H,I,Fg,q⟩
 exact subscriptTail_builtinR (x:=w) pl.typeIs slot_tuple_getitem.lookup
  (getItem_tuple (j:=j) (Q:=fun r s'=>r=w∧EP X pins σ Q r s') pl (by omega) (by omega) (by rw[List.size_toArray,←hl];exact h1) (by simpa using ew) ⟨rfl,fin⟩) hs
theorem vt:Sd X aaa:=by
 intro value slice pins s σ H x y v u Q I rx ry h hs
 obtain⟨z,i,c,rfl,rfl,hz,he,q⟩:=h
 obtain⟨t,rfl⟩:=rx
 obtain⟨t',rfl⟩:=ry
 obtain⟨j,h1,h2,h3,h4,h5⟩:=vq he
 have hl:z.cps.toList.length=z.length:=by simp [Str.length]
 rw[hl] at h1 h4 h5
 have hn:=lN
 exact tail_any (typeIs_str s z t) slot_str_getitem.lookup (getItem_str (c:=c) (by
  have e1:decide (i< -(2^63 :Int))=false:=decide_eq_false (by omega)
  have e2:decide (i≥2^63)=false:=decide_eq_false (by omega)
  rw[e1,e2,Bool.or_false]) (by rw[h1];simpa using h2) ⟨.str ⟨#[c]⟩,H,I.tok _,⟨_,rfl⟩,q⟩) hs
theorem zP(its:List Value)(n j:Nat)(u:Value):Obj.mapSeq (·.setIfInBounds j u) { cls:= .type "list",data:= .seq its.toArray n }={ cls:= .type "list",data:= .seq (its.set j u).toArray n }:=by
 simp [Obj.mapSeq]
theorem Inv.lst{pins:List (Addr×Obj)}{σ:St}{H:Hp}{s:Shared}{p:Addr}{xs:List V}(I:Inv X pins σ H s)(h:H p=some (.lst xs)):
  ∃(its:List Value) (n:Nat),Vals xs its∧s.heap.get? p=some { cls:= .type "list",data:= .seq its.toArray n }∧xs.length≤sizeLine:=by
 obtain⟨z,its,n,r,e⟩:=I.aV p _ h
 exact⟨its,n,r,e,z⟩
theorem Inv.N4{pins:List (Addr×Obj)}{σ:St}{H:Hp}{s:Shared}{p:Addr}{xs ys:List V}{its its':List Value}{n n':Nat}{f:Obj→Obj}(I:Inv X pins σ H s)(h:H p=some (.lst xs))
  (ho:s.heap.get? p=some { cls:= .type "list",data:= .seq its.toArray n }) (hf:f { cls:= .type "list",data:= .seq its.toArray n }={ cls:= .type "list",data:= .seq its'.toArray n' }) (r:Vals ys its') (hz:ys.length≤sizeLine) (t:Nat):
  Inv X pins σ (upd H p (.lst ys)) { s with heap:=s.heap.update p f,toks:=t }:=by
 have e:(s.heap.update p f).get? p=some { cls:= .type "list",data:= .seq its'.toArray n' }:=by
  rw[Heap.get?_update_self f ho (by rw[hf]<;>rfl),hf]
 refine I.write (x:=p) (e:=p) (by rw[h];trivial) (.inl rfl) (fun b u hb q=>(Heap.get?_update_other _ _ (Ne.symm hb)).trans q) ⟨_,e⟩ ?_
 exact⟨hz,its',n',r,e⟩
def Sf:V→V→V→Hp→(Hp→Prop)→Prop:=fun o i v H Q=>∃p xs k j,o= .ref p∧i= .int k∧H p=some (.lst xs)∧JV xs.length k=some j∧Q (upd H p (.lst (xs.set j v)))
theorem set_list:RK X Sf:=by
 intro pins s σ H o i v ov iv u Q I ro ri rv h
 obtain⟨p,xs,k,j,rfl,rfl,hp,hj,q⟩:=h
 cases ro
 obtain⟨t,rfl⟩:=ri
 obtain⟨its,n,r,ho,hz⟩:=I.lst hp
 obtain⟨h1,h2,h3,h4⟩:=Bh hj
 have hl:=r.length
 have hn:=lN
 have I':Inv X pins σ (upd H p (.lst (xs.set j v))) { s with heap:=s.heap.update p (Obj.mapSeq (·.setIfInBounds j u)) }:=
  I.N4 hp ho (zP its n j u) (r.set rv j) (by rw[List.length_set];exact hz) s.toks
 by_cases h0:0≤k
 ·have hk:k.toNat=j:=by
   rw[seqIndex_of h0 h4] at h1
   exact Option.some.inj h1
  exact PySem.W.ki_setAt ho h0 (by omega) (by rw[List.size_toArray,←hl];exact h4) (by rw[hk];exact⟨_,I',q⟩)
 ·have hk:(k+(its.toArray.size:Int)).toNat=j:=by
   rw[seqIndex_neg (by omega) h3] at h1
   rw[List.size_toArray,←hl]
   exact Option.some.inj h1
  exact PySem.W.ki_setBack ho (by omega) (by rw[List.size_toArray,←hl];exact h3) (by omega) (by rw[hk];exact⟨_,I',q⟩)
theorem slice_bounds(lo hi:Option Int)(n:Nat):(sliceBounds lo hi none n).1=((HT.xw n 0 lo:Nat):Int)∧(sliceBounds lo hi none n).2.1=((HT.xw n n hi:Nat):Int)∧(sliceBounds lo hi none n).2.2=1:=by
 refine⟨?_,?_,rfl⟩
 ·cases lo with
  |none=>simp [sliceBounds,HT.xw]
  |some i=>
   simp only [sliceBounds,HT.xw,Option.getD_none,show (1 :Int) >0 by decide,if_true]
   by_cases h:i<0
   ·simp only [h,if_true]<;>omega
   ·simp only [h,if_false]<;>omega
 ·cases hi with
  |none=>simp [sliceBounds,HT.xw]
  |some i=>
   simp only [sliceBounds,HT.xw,Option.getD_none,show (1 :Int) >0 by decide,if_true]
   by_cases h:i<0
   ·simp only [h,if_true]<;>omega
   ·simp only [h,if_false]<;>omega
theorem sM(its:List Value)(lo hi:Option Int):slicePick its.toArray lo hi none=((its.drop (HT.xw its.length 0 lo)).take (HT.xw its.length its.length hi - HT.xw its.length 0 lo)).toArray:=by
 obtain⟨h1,h2,h3⟩:=slice_bounds lo hi its.toArray.size
 unfold slicePick
 rw[h1,h2,h3]
 simp only [sliceRange_one,pick_run,List.size_toArray]<;>rfl
def aab(K:PySem.W.Frag):V→Option Int→Option Int→Hp→VK→Prop:=fun x lo hi H Q=>∃a xs,x= .ref a∧bJ K H a xs∧∀p,H p=none→Q (.ref p) (upd H p (.lst (vp xs lo hi)))
theorem JX:Z8 X (aab X.K):=by
 intro pins s σ H x v vl vu lo hi sl Q I rx hs pl pu h
 obtain⟨a,xs,rfl,hx,q⟩:=h
 cases rx
 obtain⟨its,r,ht,hz⟩:=I.list hx
 have hlen:=r.length
 refine⟨"list",_,slot_list_getitem.lookup,ht.isList.typeIs,?_⟩
 refine wpAny_getItem_list_slice ht.isList hs pl pu .none (by simp) ?_ (by rw[List.size_toArray]<;>omega)
 rw[sM,←hlen]
 refine⟨.ref s.heap.objs.size,_,I.laid (t':=s.toks) (o:= .lst (vp xs lo hi)) (fun b ob q=>Heap.get?_push_of_some _ q) (Nat.le_refl _) ?_,rfl,q _ (I.aV.fresh (Nat.le_refl _))⟩
 exact⟨Nat.le_trans (oX xs lo hi) hz,_,0,(r.drop (HT.xw xs.length 0 lo)).take (HT.xw xs.length xs.length hi - HT.xw xs.length 0 lo),Heap.get?_push_size _ rfl⟩
theorem dk:gC X (.builtin "len") (fun xs H Q=>∃p ys,xs=[.ref p]∧(bJ X.K H p ys∨ir X.K H p ys)∧Q (.int ys.length) H):=by
 intro pins s σ H xs us Q I r h
 obtain⟨p,ys,rfl,hq,q⟩:=h
 obtain⟨u,rfl,rx⟩:=vals1 r
 cases rx
 have hn:=lN
 rcases hq with hq|hq
 ·obtain⟨its,r',pl,hz⟩:=I.list hq
  have hlen:=r'.length
  exact Calls.call_len_list pl.isList (by simp only [List.size_toArray]<;>omega) ⟨.int ys.length,H,I.tok _,⟨s.toks+1,by rw[List.size_toArray,hlen]⟩,q⟩
 ·obtain⟨its,r',pl,hz⟩:=I.tuple hq
  have hlen:=r'.length
  exact len_tuple pl (by simp only [List.size_toArray]<;>omega) ⟨.int ys.length,H,I.tok _,⟨s.toks+1,by rw[List.size_toArray,hlen]⟩,q⟩
theorem ji:gC X (.builtin "len") (fun xs H Q=>∃z,xs=[.str z]∧z.length≤sizeLine∧Q (.int z.length) H):=by
 intro pins s σ H xs us Q I r h
 obtain⟨z,rfl,hz,q⟩:=h
 obtain⟨u,rfl,t,rfl⟩:=vals1 r
 have hn:=lN
 exact len_str (by omega) ⟨.int z.length,H,I.tok _,⟨_,rfl⟩,q⟩
theorem fq:gC X (.type "list") (fun xs H Q=>∃p ys,xs=[.ref p]∧(bJ X.K H p ys∨ir X.K H p ys)∧∀l,H l=none→Q (.ref l) (upd H l (.lst ys))):=by
 intro pins s σ H xs us Q I r h
 obtain⟨p,ys,rfl,hq,q⟩:=h
 obtain⟨u,rfl,rx⟩:=vals1 r
 cases rx
 have fin:∀(its:List Value),Vals ys its→ys.length≤sizeLine→∀(h':Heap) (c':Nat),(∀b o',s.heap.get? b=some o'→h'.get? b=some o')→
   h'.get? s.heap.objs.size=some { cls:= .type "list",dict:=none,data:= .seq its.toArray c',slots:=#[] }→EP X pins σ Q (.ref s.heap.objs.size) { s with heap:=h' }:=fun its r' hz h' c' kp e=>
  ⟨.ref s.heap.objs.size,_,I.laid (t':=s.toks) kp (Nat.le_refl _) (show cn X.prog X.w _ h' _ (.lst ys) from ⟨hz,its,c',r',e⟩),rfl,q _ (I.aV.fresh (Nat.le_refl _))⟩
 rcases hq with hq|hq
 ·obtain⟨its,r',pl,hz⟩:=I.list hq
  have hlen:=r'.length
  obtain⟨o,ho,hc,n,hd⟩:=pl.isList
  exact call_list_seq p (.inl rfl) ho hc hd (fun h' c' kp e=>fin its r' hz h' c' kp e) (by simp only [List.size_toArray]<;>omega)
 ·obtain⟨its,r',pl,hz⟩:=I.tuple hq
  have hlen:=r'.length
  obtain⟨o,ho,hc,n,hd⟩:=pl
  exact call_list_seq p (.inr rfl) ho hc hd (fun h' c' kp e=>fin its r' hz h' c' kp e) (by simp only [List.size_toArray]<;>omega)
def tyV(K:PySem.W.Frag)(T:String)(x:V)(H:Hp):Prop:=match x with
 | .str _=>T="str"
 | .int _=>T="int"
 | .ref p=>(T="list" ∧∃xs,bJ K H p xs)∨(T="tuple" ∧∃o,K.lookup p=some o∧o.cls= .type "tuple" ∧o.dict=none)∨
   (T="dict" ∧((∃kvs,H p=some (.dK kvs))∨∃kvs,H p=some (.dT kvs)))∨(T="set" ∧∃S n,H p=some (.set S n))
 |_=>False
theorem N5{pins:List (Addr×Obj)}{σ:St}{H:Hp}{s:Shared}{T:String}{x:V}{v:Value}(I:Inv X pins σ H s)(r:RelV x v)(ty:tyV X.K T x H):
  s.TypeIs v T∧∀a,v= .ref a→∃ob,s.heap.get? a=some ob∧ob.dict=none:=by
 cases x with
 |str z=>
  obtain⟨t,rfl⟩:=r
  cases (show T="str" from ty)
  exact⟨typeIs_str s z t,fun _ e=>nomatch e⟩
 |int i=>
  obtain⟨t,rfl⟩:=r
  cases (show T="int" from ty)
  exact⟨typeIs_int s i t,fun _ e=>nomatch e⟩
 |ref p=>
  cases r
  rcases ty with ⟨rfl,xs,hq⟩ | ⟨rfl,o,hk,hc,hd⟩ | ⟨rfl,hk⟩ | ⟨rfl,S,n,hk⟩
  ·obtain⟨its,_,pl,_⟩:=I.list hq
   refine⟨pl.isList.typeIs,fun a e=>?_⟩
   cases e
   obtain⟨o,n,e,c,hd,_⟩:=pl
   exact⟨o,e,hd⟩
  ·refine⟨⟨o,I.jN p o hk,hc⟩,fun a e=>?_⟩
   cases e
   exact⟨o,I.jN _ o hk,hd⟩
  ·have z:∃o,s.heap.get? p=some o∧o.ExactDict:=by
    rcases hk with ⟨kvs,hk⟩ | ⟨kvs,hk⟩
    ·obtain⟨_,_,_,_,o,_,_,e,ex,_⟩:=I.aV p _ hk
     exact⟨o,e,ex⟩
    ·obtain⟨_,_,_,_,o,_,_,e,ex,_⟩:=I.aV p _ hk
     exact⟨o,e,ex⟩
   obtain⟨o,e,ex⟩:=z
   refine⟨⟨o,e,ex.1⟩,fun a e2=>?_⟩
   cases e2
   exact⟨o,e,ex.2.1⟩
  ·obtain⟨o,_,_,_,e,ex,_⟩:=I.aV p _ hk
   refine⟨⟨o,e,ex.1⟩,fun a e2=>?_⟩
   cases e2
   exact⟨o,e,ex.2.1⟩
 |_=>exact False.elim ty
def tBM(K:PySem.W.Frag)(T:String)(r:V→List V→Hp→VK→Prop)(to:TE)(t:TA):TE:=fun σ H Q=>to σ H fun x H1=>tyV K T x H1∧t σ H1 fun xs H2=>r x xs H2 Q
variable {o e:Expr}{es:List Expr}{to:TE}{t:TA}{name:Str}{apos gZ:Pos}{T id:String}{r:V→List V→Hp→VK→Prop}
theorem gD(pa:PlainAttrs T)(slot:Slot T name id)(hty:typeOf (.builtin id)=pure (.type "method_descriptor"))(hm:Z9 X id r)(ho:PE X o to)(ha:PA X (e::es) t)
  (Sg:attributeBase o name X.env (eval o X.env)=eval o X.env:=by rfl)
  (aac:((backTo gZ (starEach (e::es) X.env)).all (fun x=>!x.1)&&(backToKw gZ (keywordEach [] X.env)).all (fun x=>x.1.isSome)
   &&decide ((e::es).length+([]:List Keyword).length+(if ([]:List Keyword).isEmpty then 0 else 1) <30))=true:=by rfl)
  (xY:(apos.endLine==gZ.line)=true:=by rfl) (hs:starEach (e::es) X.env=(false,eval e X.env)::starEach es X.env:=by rfl) (N6:(backTo gZ (starEach es X.env)).any (·.1)=false:=by rfl):
  PE X (.Call (.Attribute o name apos) (e::es) [] gZ) (tBM X.K T r to t):=by
 intro pins s σ H Q I h
 refine wpAny_Call_method_late Sg aac xY rfl (bV (ho pins s σ H _ I h) fun v s1 ⟨x,H1,I1,r1,ty,q1⟩=>?_)
 obtain⟨h1,h2⟩:=N5 I1 r1 ty
 refine⟨T,id,pa,slot,hty,h1,h2,?_⟩
 have hA:=ha gZ pins s1 σ H1 _ I1 q1
 rw[hs] at hA ⊢
 refine Calls.callWith_builtin (by show (false||(backTo gZ (starEach es X.env)).any (·.1))=false;rw[N6]<;>rfl) (Calls.evalArgs_plain ?_)
 exact bV hA fun us s2 ⟨vs,H2,I2,r2,q2⟩=>hm pins s2 σ H2 x vs v us Q I2 r1 r2 q2
end
end L2
namespace L2
open PySem PySem.Spec PyProof.Rows
def MtM(X:Cx)(id:String)(r:V→List V→Hp→VK→Prop):Prop:=
 ∀(pins:List (Addr×Obj)) (s:Shared) (σ:St) (H:Hp) (x:V) (xs:List V) (v:Value) (us:List Value) (Q:VK),Inv X pins σ H s→RelV x v→Vals xs us→r x xs H Q→
  wpAny (model X.prog X.w) X.A (call (.builtin id) (v::us)) (EP X pins σ Q) X.xe s
theorem Vals.one:∀{x:V} {us:List Value},Vals [x] us→∃u,us=[u]∧RelV x u
 |_,_, .cons r .nil=>⟨_,rfl,r⟩
theorem Vals.two:∀{x y:V} {us:List Value},Vals [x,y] us→∃u v,us=[u,v]∧RelV x u∧RelV y v
 |_,_,_, .cons r (.cons q .nil)=>⟨_,_,rfl,r,q⟩
section
variable {X:Cx}{pins:List (Addr×Obj)}{σ:St}{H:Hp}{s:Shared}{l b:Addr}{xs ys zs:List V}
theorem Inv.N7{its its':List Value}{n:Nat}{f:Array Value→Array Value}{t':Nat}(I:Inv X pins σ H s)(hH:H l=some (.lst xs))
  (e:s.heap.get? l=some { cls:= .type "list",data:= .seq its.toArray n }) (hf:f its.toArray=its'.toArray) (hv:Vals ys its') (hz:ys.length≤sizeLine):
  Inv X pins σ (upd H l (.lst ys)) { s with heap:=s.heap.update l (Obj.mapSeq f),toks:=t' }:=by
 have q:=PySem.IsL.update e f
 rw[hf] at q
 refine I.write (x:=l) (e:=l) (by rw[hH];exact trivial) (.inl rfl) (fun b' u hb hu=>(Heap.get?_update_other s.heap (Obj.mapSeq f) (Ne.symm hb)).trans hu) ⟨_,q⟩ ?_
 exact⟨hz,its',_,hv,q⟩
theorem Inv.Si{its:List Value}{t':Nat}(I:Inv X pins σ H s)(hv:Vals ys its)(hz:ys.length≤sizeLine):
  Inv X pins σ (upd H s.heap.objs.size (.lst ys)) { s with heap:=s.heap.push { cls:= .type "list",data:= .seq its.toArray },toks:=t' }:=
 I.laid (fun _ _ q=>Heap.get?_push_of_some _ q) (Nat.le_refl _) ⟨hz,its,0,hv,Heap.get?_push_size _ rfl⟩
theorem Inv.fresh(I:Inv X pins σ H s):H s.heap.objs.size=none:=I.aV.fresh (Nat.le_refl _)
theorem Inv.zQ(I:Inv X pins σ H s)(hH:H l=some (.lst xs)):xs.length≤sizeLine∧∃(its:List Value) (n:Nat),Vals xs its∧xs.length=its.length∧s.heap.get? l=some { cls:= .type "list",data:= .seq its.toArray n }:=by
 obtain⟨z,its,n,r,e⟩:=I.aV l _ hH
 exact⟨z,its,n,r,r.length,e⟩
theorem Fp{n:Nat}(h:n≤sizeLine):Builtin.List.listTooLong n=false:=by
 unfold Builtin.List.listTooLong
 exact decide_eq_false (by omega)
end
section
variable {X:Cx}
def JY:V→List V→Hp→VK→Prop:=fun x vs H Q=>∃l xs y,x= .ref l∧vs=[y]∧H l=some (.lst xs)∧xs.length<sizeLine∧Q .cS (upd H l (.lst (xs++[y])))
theorem dE:MtM X "list.append" JY:=by
 intro pins s σ H x vs v us Q I rx rv h
 obtain⟨l,xs,y,rfl,rfl,hH,hz,q⟩:=h
 cases rx
 obtain⟨u,rfl,ru⟩:=rv.one
 obtain⟨z,its,n,r,hl,e⟩:=I.zQ hH
 refine call_meets F.slot_list_append ⟨_,e,rfl⟩ F.entry_list_append (F.args_list_append_2 _ _) (PySem.list_append l its.toArray n u (by rw[List.size_toArray];omega)) ⟨e,?_⟩
 refine⟨.cS,_,I.N7 (its':=its++[u]) hH e (by simp) (r.append (.cons ru .nil)) ?_,rfl,q⟩
 rw[List.length_append,List.length_singleton]
 omega
def JZ:V→List V→Hp→VK→Prop:=fun x vs H Q=>∃l b xs zs,x= .ref l∧vs=[.ref b]∧H l=some (.lst xs)∧H b=some (.lst zs)∧xs.length+zs.length≤sizeLine∧Q .cS (upd H l (.lst (xs++zs)))
theorem De:MtM X "list.extend" JZ:=by
 intro pins s σ H x vs v us Q I rx rv h
 obtain⟨l,b,xs,zs,rfl,rfl,hH,hB,hz,q⟩:=h
 cases rx
 obtain⟨u,rfl,ru⟩:=rv.one
 cases ru
 obtain⟨z,its,n,r,hl,e⟩:=I.zQ hH
 obtain⟨z2,zR,n2,r2,qx,e2⟩:=I.zQ hB
 have hsz:its.toArray.size+zR.toArray.size≤sizeLine:=by rw[List.size_toArray,List.size_toArray];omega
 have Sj:¬(!its.toArray.isEmpty&&Builtin.List.listTooLong (its.toArray.size+zR.toArray.size))=true:=by
  rw[Fp hsz,Bool.and_false]
  exact Bool.false_ne_true
 refine call_meets F.slot_list_extend ⟨_,e,rfl⟩ F.entry_list_extend (F.args_list_extend_2 _ _)
  (AutoSeq1.list_extend_list_list_0 l its.toArray n b zR.toArray n2 Sj (by rw[List.size_toArray];omega) (by omega)) ⟨e,e2,?_⟩
 refine⟨.cS,_,I.N7 (its':=its++zR) hH e (by simp) (r.append r2) ?_,rfl,q⟩
 rw[List.length_append]
 omega
def aad:R2:=fun x y H Q=>∃l b xs zs,x= .ref l∧y= .ref b∧H l=some (.lst xs)∧H b=some (.lst zs)∧xs.length+zs.length≤sizeLine∧∀p,H p=none→Q (.ref p) (upd H p (.lst (xs++zs)))
theorem nS:pA X (binaryOp .Add) aad:=by
 intro pins s σ H x y v u Q I rx ry h
 obtain⟨l,b,xs,zs,rfl,rfl,hH,hB,hz,q⟩:=h
 cases rx
 cases ry
 obtain⟨z,its,n,r,hl,e⟩:=I.zQ hH
 obtain⟨z2,zR,n2,r2,qx,e2⟩:=I.zQ hB
 refine PySem.P.add_list e e2 ?_ (by rw[List.size_toArray,List.size_toArray];omega)
 have ea:its.toArray++zR.toArray=(its++zR).toArray:=by simp
 rw[ea]
 exact⟨.ref _,_,I.Si (t':=s.toks) (r.append r2) (by rw[List.length_append];omega),rfl,q _ I.fresh⟩
end
section
variable {prog:Program}{w:World}{A:Around}{E:Value→Shared→Prop}{s:Shared}
end
section
variable {X:Cx}
end
end L2
namespace Att
open PySem PySem.W PySem.Calls PyProof.Rows
theorem pB{P:Params}{h:Heap}:∀(ns:List Int) (vs:List Value),WellAll P h vs (ns.map WData.int)→IntsAre vs ns:=by
 intro ns
 induction ns with
 |nil=>
  intro vs w
  rw[List.map_nil] at w
  cases w
  exact .nil
 |cons n ns ih=>
  intro vs w
  rw[List.map_cons] at w
  cases w with
  |cons a b=>
   cases a
   exact .cons _ _ (ih _ b)
theorem Df{l:OpenLaw}{n:Nat}(hn:l.most=some n){P:Params}{h:Heap}{args:List WData}{vals:List Value}
  (J0:l.row.toRowW.claim.pre args=true) (Q6:WellAll P h vals args):
  ∃a vs ns,vals=[Value.ref a]∧args=[WData.list (ns.map WData.int)]∧h.get? a=some { cls:= .type "list",data:= .seq vs.toArray }∧IntsAre vs ns∧ns.length≤n:=by
 have hsh:WShape.hasAll [] args [.list .int]=true:=(pre_splitW J0).1
 have hc:l.pre.holds [] { args:=args }=true:=(pre_splitW J0).2
 obtain⟨d,r,rfl,h1,h2⟩:=hasAllW_cons hsh
 obtain rfl:=hasAllW_nil h2
 obtain⟨xs,rfl,h3⟩:=hasW_list h1
 obtain⟨ns,rfl⟩:=items_int h3
 have hlen:ns.length≤n:=by
  unfold OpenLaw.pre at hc
  have h4:(WTm.not (.lt (.lit (.int (n:Int))) (.len (.arg 0)))).holds [] { args:=[.list (ns.map .int)] }=true:=by
   have h4:=(holds_andW hc).1
   rw[hn] at h4
   exact h4
  have h5:=condW_of h4 (w_not (w_lt w_lit (w_len_list (w_arg rfl))))
  rw[List.length_map] at h5
  refine Nat.le_of_not_lt fun q=>?_
  have q':(n:Int) < ((ns.length:Nat):Int):=by omega
  first
   | (rw[decide_eq_true q'] at h5;exact absurd h5 (by decide))
   | (simp at h5;omega)
 cases Q6 with
 |cons w1 w2=>
  cases w2
  cases w1 with
  |list ho Dd=>exact⟨_,_,ns,rfl,rfl,ho,pB ns _ Dd,hlen⟩
theorem Dg(l:OpenLaw)(args:List WData):l.row.toRowW.claim.post args (.bool true) args=true:=
 postW_of (r:=l.row.toRowW) (X:=(true==true))
  (show WShape.has [] (.bool true) .bool=true by first|rfl|decide|simp [WShape.has,WShape.arms,WShape.armsAll])
  (show (WTm.eq .res (.lit (.bool true))).value [] { args:=args,res:=some (.bool true),after:=args }=some (.bool (true==true)) from w_eq_bool (w_res rfl) w_lit) rfl
theorem xZ{l:OpenLaw}{n:Nat}{q:Program}{loose:List Str}{XP:(Str→Option Value)→Heap→Prop}{YP:World→Heap→Prop}{d:DefRec}
  (hn:l.most=some n) (Sk:d.params.defaults=[])
  (call:∀(w:World) (s₀ s₁:Shared) (mg mb:Str→Option Value) (fa:Addr) (o:Obj) (pm cd doc:Value) (a:Addr) (vs:List Value) (ns:List Int),
   Ground q loose [] XP w s₀ mg mb s₁.heap→YP w s₁.heap→
   s₁.heap.get? fa=some o→o.data= .func (docDef d.name d.params d.body d.scope pm cd doc)→s₁.heap.CodeRec cd d.name→mg d.name=some (.ref fa)→
   s₁.heap.get? a=some { cls:= .type "list",data:= .seq vs.toArray }→IntsAre vs ns→ns.length≤n→s₁.gens=#[]→
   codeAny (model l.prog w) callerA (.call (.ref fa) ⟨[.ref a],[]⟩) (fun r s'=>r= .ok (.ret (.bool true))∧OldK s₁.heap s'.heap∧s'.os=s₁.os∧AllBare s'.gens) s₁):
  WalkO q loose XP YP l.row.toRowW d [] (fun f vs=>PySem.call f vs):=by
 intro w s₀ s₁ mg mb G Y fa o pm cd doc dV kV ho hd qj hD Sl hg args vals as J0 hlay hrd Q6 hlo
 obtain rfl:dV= .none:=Dflts.none hD Sk
 obtain rfl:kV= .none:=Dflts.noKw hD
 obtain⟨a,vs,ns,rfl,rfl,N8,hints,hlen⟩:=Df hn J0 Q6
 refine enter_call (codeAny_mono (call w s₀ s₁ mg mb fa o pm cd doc a vs ns G Y ho (fd_plain hd) qj Sl N8 hints hlen hg) fun r s' hq=>?_)
 obtain⟨rfl,h2,h3,h4⟩:=hq
 exact⟨.inl ⟨.bool true, .bool true,[],rfl,fun _=>rfl, .bool true,Dg l _,fun _=>⟨List.Pairwise.nil,fun _ hm=>(nomatch hm)⟩⟩,h2,h3,h4⟩
section
variable {prog:Program}{w:World}{A:Around}{E:Value→Shared→Prop}{s:Shared}{K:Frag}
end
end Att
namespace L2
open PySem PySem.Spec PyProof.Rows
theorem tH:∀{vs:List Value} {ns:List Int},IntsAre vs ns→Vals (ns.map V.int) vs
 |_,_, .nil=> .nil
 |_,_, .cons n t h=> .cons ⟨t,rfl⟩ (tH h)
def N9(H:Hp):Prop:=∀b,H b=none∨∃o xs,H b=some (.d8 o (.lst xs))
theorem Fq{P:Program}{w:World}{K:PySem.W.Frag}{mg mb:Str→Option Value}{CX:Bf}{k:Nat}{fa a:Addr}{fd:FuncData}{x:Str}{sp:Sp}{s₁:Shared}{vs:List Value}{ns:List Int}
  (KX:K.In s₁.heap) (tI:s₁.heap.Ns mainGlobals mg) (hb:s₁.heap.Ns builtinsNs mb) (hbb:∀x:Str,x≠"__name__" →mb x=bootBuiltins x) (hlim:s₁.heap.NoLimit) (hg:s₁.gens=#[])
  (ha:s₁.heap.get? a=some { cls:= .type "list",data:= .seq vs.toArray }) (hi:IntsAre vs ns) (hl:ns.length≤sizeLine) (hr:cT k callerA)
  (F:∀base:Heap,K.In base→base.Ns mainGlobals mg→fj P w K mg base CX k fa fd [x] sp) (Sm:∀(s:Shared) (u:Value),BindsTo s fd ⟨[u],[]⟩ [(x,u)])
  (Bg:∀H:Hp,N9 H→bJ K H a (ns.map V.int)→sp [.ref a] H (fun v _=>v= .bl true) fun _ _ _=>False)
  (hCX:∀H e s',CX [] H s₁ (fun _ _ _=>False) e s'→False):
  codeAny (model P w) callerA (.call (.ref fa) ⟨[.ref a],[]⟩) (fun r s'=>r= .ok (.ret (.bool true))∧OldK s₁.heap s'.heap∧s'.os=s₁.os∧AllBare s'.gens) s₁:=by
 have rv:=tH hi
 have lenV:=hi.length
 have core:∀H:Hp,N9 H→bJ K H a (ns.map V.int)→jR P w H s₁.heap→(∀b,H b≠none→b=a)→(H a≠none→K.lookup a=none)→
   codeAny (model P w) callerA (.call (.ref fa) ⟨[.ref a],[]⟩) (fun r s'=>r= .ok (.ret (.bool true))∧OldK s₁.heap s'.heap∧s'.os=s₁.os∧AllBare s'.gens) s₁:=by
  intro H hO hS aV hA hK
  have base_of:∀{b:Addr} {o:Obj},s₁.heap.get? b=some o→H b=none→(vc s₁.heap H).get? b=some o:=fun e n=>E1 e n
  have R6:∀{b:Addr} {o:Obj} {es:Array DictEntry} {ep:Nat},s₁.heap.get? b=some o→o.data= .dict es ep→H b=none:=fun {b o es ep} e d=>by
   cases q:H b with
   |none=>rfl
   |some u=>
    have e':b=a:=hA b (by rw[q];simp)
    subst e'
    rw[ha] at e;cases e
    have d':Data.seq vs.toArray _=Data.dict es ep:=d
    cases d'
  have YQ:∀{b:Addr} {m:Str→Option Value},s₁.heap.Ns b m→(vc s₁.heap H).Ns b m:=fun {b m} ⟨o,es,ep,e,d,r⟩=>⟨o,es,ep,base_of e (R6 e d),d,r⟩
  have hKb:K.In (vc s₁.heap H):=fun b o e=>base_of (KX b o e) (by
   cases q:H b with
   |none=>rfl
   |some u=>
    have e':b=a:=hA b (by rw[q];simp)
    subst e'
    rw[hK (by rw[q];simp)] at e;cases e)
  have hM:Mod K mg (vc s₁.heap H):=⟨hKb,YQ tI,⟨mb,YQ hb,hbb⟩,let ⟨mc,h1,h2⟩:=hlim;⟨mc,YQ h1,h2⟩⟩
  have e0:zK P w K mg (vc s₁.heap H) callerA [] s₁ H:=⟨rfl,hM,fun b o e=>JG e,Nat.le_of_eq (CZ _ _),trivial,fun b hb=>absurd (show b∈([]:List Addr) from hb) (by simp),aV, .of_eq hg⟩
  refine codeAny_mono ((F _ hKb (YQ tI)).run callerA [] s₁ H ⟨[.ref a],[]⟩ [.ref a] [.ref a] _ _ hr e0 (Sm s₁ (.ref a)) (.cons rfl .nil) (Bg H hO hS)) fun r s' h=>?_
  cases r with
  |error e=>exact(hCX H e s' h).elim
  |ok fl=>
   cases fl with
   |next=>exact False.elim h
   |brk=>exact False.elim h
   |cont=>exact False.elim h
   |ret u=>
    obtain⟨v,H',os,bare,un,hok',r',q⟩:=h
    have q':v= .bl true:=q
    subst q'
    obtain rfl:u=Value.bool true:=r'
    refine⟨rfl,OldK.of_keep fun b o e=>?_,os,bare⟩
    cases q:H b with
    |none=>exact un.keep b o e q (by intro z;exact absurd (show b∈([]:List Addr) from z) (by simp)) (by simp)
    |some u=>
     rcases hO b with z| ⟨ob,xs,z⟩
     ·rw[q] at z;cases z
     ·have z2:=un.pq b ob _ z
      obtain⟨e1,_⟩:=aV b _ z
      obtain⟨e2,_⟩:=hok' b _ z2
      rw[e] at e1;cases e1
      exact e2
 cases hk:K.lookup a with
 |some o=>
  have e:=KX a o hk
  rw[ha] at e
  cases e
  refine core (fun _=>none) (fun _=> .inl rfl) (.inr ⟨_,vs.toArray,_,hk,rfl,rfl,rfl,by rw[List.size_toArray,lenV];exact hl,by simpa using rv⟩) (fun b u z=>by have z':(none:Option HO)=some u:=z;cases z') (fun b z=>absurd rfl z) fun z=>absurd rfl z
 |none=>
  refine core (fun b=>if b=a then some (.d8 { cls:= .type "list",data:= .seq vs.toArray } (.lst (ns.map V.int))) else none) (fun b=>?_) (.inl (.inr ⟨{ cls:= .type "list",data:= .seq vs.toArray },if_pos rfl⟩)) (fun b u z=>?_) (fun b z=>?_) fun _=>hk
  ·by_cases hb:b=a
   ·exact .inr ⟨_,_,if_pos hb⟩
   ·exact .inl (if_neg hb)
  ·by_cases hb:b=a
   ·have z':=(if_pos hb).symm.trans z
    cases z'
    subst hb
    exact⟨ha,by rw[List.length_map];exact hl,vs,_,rv,ha⟩
   ·have z':=(if_neg hb).symm.trans z
    cases z'
  ·by_cases hb:b=a
   ·exact hb
   ·exact absurd (if_neg hb) z
end L2
namespace L2
open PySem PySem.Spec PyProof.Rows
theorem J1{l:PySem.W.OpenLaw}{n k:Nat}{q:Program}{loose:List Str}{XP:(Str→Option Value)→Heap→Prop}{YP:World→Heap→Prop}{d:DefRec}{K:Params→PySem.W.Frag}{CX:World→Bf}{sp:World→Sp}{x:Str}
  (hn:l.most=some n) (Q5:n≤sizeLine) (Sk:d.params.defaults=[]) (hr:cT k callerA)
  (hY:∀(w:World) (h:Heap),YP w h→(K w.params).In h)
  (F:∀(w:World) (mg:Str→Option Value) (fa:Addr) (h:Heap),(K w.params).In h→h.Ns mainGlobals mg→mg d.name=some (.ref fa)→
   ∃fd:FuncData,(∀(s:Shared) (u:Value),BindsTo s fd ⟨[u],[]⟩ [(x,u)])∧
    ∀base:Heap,(K w.params).In base→base.Ns mainGlobals mg→fj l.prog w (K w.params) mg base (CX w) k fa fd [x] (sp w))
  (Bg:∀(w:World) (H:Hp) (a:Addr) (ns:List Int),ns.length≤n→N9 H→bJ (K w.params) H a (ns.map V.int)→sp w [.ref a] H (fun v _=>v= .bl true) fun _ _ _=>False)
  (hCX:∀(w:World) (H:Hp) (s:Shared) (e:Value) (s':Shared),CX w [] H s (fun _ _ _=>False) e s'→False):
  PySem.W.WalkO q loose XP YP l.row.toRowW d [] (fun f vs=>PySem.call f vs):=by
 refine Att.xZ hn Sk fun w s₀ s₁ mg mb fa o pm cd doc a vs ns G Y ho hd qj Sl N8 hints hlen hg=>?_
 have KX:=hY w _ Y
 obtain⟨fd,hb,hF⟩:=F w mg fa _ KX G.T.g Sl
 exact Fq KX G.T.g G.T.b G.T.builtins G.T.nolimit hg N8 hints (Nat.le_trans hlen Q5) hr hF hb (fun H hO hS=>Bg w H a ns hlen hO hS) fun H e s'=>hCX w H s₁ e s'
end L2
namespace L2
open PySem PySem.Spec PyProof.Rows
def inClass(s:Stmt)(j:Nat):Stmt:=match s with
 | .ClassDef _ _ _ body _ _ _ _ _ _ _=>body.getD j (.Pass ⟨0,0,0,0⟩)
 |_=> .Pass ⟨0,0,0,0⟩
def bx(s:Stmt):Arguments:=match s with
 | .FunctionDef _ a _ _ _ _ _ _ _ _=>a
 |_=>{ posonlyargs:=[],args:=[],vararg:=none,kwonlyargs:=[],kw_defaults:=[],kwarg:=none,defaults:=[] }
def aR(s:Stmt):List Stmt:=match s with
 | .FunctionDef _ _ b _ _ _ _ _ _ _=>b
 |_=>[]
def aj(s:Stmt):Scope:=match s with
 | .FunctionDef _ _ _ _ _ _ sc _ _ _=>sc
 |_=>{ kind:= .function,names:=[],isGenerator:=false,isCoroutine:=false }
abbrev qy:Bf:=fun _ _ _ _ _ _=>False
abbrev E0:XK:=fun _ _ _=>False
theorem az{X:Cx}:Passes qy X E0:=fun _ _ _ _ _ _ _ h=>h.elim
structure EM(K:PySem.W.Frag)(x qual:Str)(st:Stmt)(f:Addr)(fd:FuncData):Prop where
 ex:∃(oc:Value) (od:Option Addr) (kV doc pm:Value) (an:Option Addr) (bp ct:Value) (sv:Array (Option Value)),
  fd=PySem.W.fnOf x qual (bx st) (aR st) (aj st) .none kV doc pm an bp ct∧K.lookup f=some ⟨oc,od, .func fd,sv⟩∧PySem.W.codeIn K bp qual=true
 kp:PySem.W.keepIn K (.ref f)=true
section
variable {P:Program}{w:World}{K:PySem.W.Frag}{mg:Str→Option Value}{base:Heap}
theorem EM.ok{x qual:Str}{st:Stmt}{f:Addr}{fd:FuncData}{N ps:List Str}{k:Nat}{sp:Sp}(F:EM K x qual st f fd)(S:ay N ps (aj st))(len:∀vs H Q E,sp vs H Q E→vs.length=ps.length)
  (dv:∀(bp:Value) (A:Around) (outer:List Env) (s:Shared) (H:Hp) (vs:List V) (Q:VK) (E:XK),cT k (A.deeper (envOfC qual (aj st) s.heap.objs.size f bp))→sp vs H Q E→
   ∃t,lK (jg qy P w K mg base N qual (aj st) f bp A outer s H E).E7 (aR st) t∧t { nx:=fun _ H'=>Q .cS H',rt:=Q } (start N vs) H):fj P w K mg base qy (k+1) f fd ps sp:=by
 obtain⟨oc,od,kV,doc,pm,an,bp,ct,sv,rfl,lk,qj⟩:=F.ex
 refine fn_of lk qj S len fun A outer s H vs Q E hr Bg=>?_
 obtain⟨t,h,q⟩:=dv bp A outer s H vs Q E hr Bg
 exact⟨t,h.E7,q⟩
theorem EM.binds{x qual:Str}{st:Stmt}{f:Addr}{fd:FuncData}{ps:List Str}(F:EM K x qual st f fd)
  (h:∀(kV doc pm:Value) (an:Option Addr) (bp ct:Value) (us:List Value),us.length=ps.length→bindArgs (PySem.W.fnOf x qual (bx st) (aR st) (aj st) .none kV doc pm an bp ct) ⟨us,[]⟩=pure (ps.zip us)):Binds K fd ps []:=by
 obtain⟨oc,od,kV,doc,pm,an,bp,ct,sv,rfl,lk,qj⟩:=F.ex
 exact .all (h kV doc pm an bp ct)
theorem Oa{x qual:Str}{st:Stmt}{f:Addr}{oc:Value}{od an:Option Addr}{sv:Array (Option Value)}{kV doc pm bp ct:Value}(l:K.lookup f=some ⟨oc,od, .func (PySem.W.fnOf x qual (bx st) (aR st) (aj st) .none kV doc pm an bp ct),sv⟩)
  (c:PySem.W.codeIn K bp qual=true) (k:PySem.W.keepIn K (.ref f)=true):EM K x qual st f (PySem.W.fnOf x qual (bx st) (aR st) (aj st) .none kV doc pm an bp ct):=⟨⟨oc,od,kV,doc,pm,an,bp,ct,sv,rfl,l,c⟩,k⟩
end
theorem dz{A:Around}{k:Nat}(hr:cT k A):A.units+1<cLine:=Nat.lt_of_le_of_lt (Nat.add_le_add_left (by decide:1≤64) _) hr.units
theorem kJ{n:Nat}(h:n≤1000):n<sizeLine:=Nat.lt_of_le_of_lt h (by decide)
section
variable {X:Cx}
theorem pv(i:Nat){x:Str}{pos:Pos}(hN:X.N[i]? =some x:=by rfl)(hv:ZH X.env.scope x:=by first|exact Or.inl rfl|exact Or.inr (Or.inl rfl) |exact Or.inr (Or.inr rfl))(hd:(x==("__debug__" :Str))=false:=by decide)
  (qj:(x==("__classdict__" :Str))=false:=by decide):PE X (.Name x pos) (jS i):=NK hN hv hd qj
end
theorem fI{A B:Prop}(h:B):if false=true then A else B:=by
 rw[if_neg Bool.false_ne_true]
 exact h
theorem iZ{A B:Prop}(h:A):if true=true then A else B:=by
 rw[if_pos rfl]
 exact h
theorem fu{c A B:Prop}[Decidable c](h1:c→A)(h2:¬c→B):if c then A else B:=by
 by_cases h:c
 ·rw[if_pos h]
  exact h1 h
 ·rw[if_neg h]
  exact h2 h
theorem Fs{c A B:Prop}[Decidable c](hc:c)(h:B):if (!decide c)=true then A else B:=by
 rw[decide_eq_true hc]
 exact fI h
def au(H H':Hp):Prop:=∀b o,H b=some o→H' b=some o
theorem au.refl(H:Hp):au H H:=fun _ _ h=>h
theorem au.trans{H H1 H2:Hp}(a:au H H1)(b:au H1 H2):au H H2:=fun c o h=>b c o (a c o h)
theorem au.seq{K:PySem.W.Frag}{H H':Hp}{a:Addr}{xs:List V}(e:au H H')(h:bJ K H a xs):bJ K H' a xs:=by
 rcases h with (h| ⟨o,h⟩) |h
 ·exact .inl (.inl (e _ _ h))
 ·exact .inl (.inr ⟨o,e _ _ h⟩)
 ·exact .inr h
section
variable {κ:Type}[DecidableEq κ]
theorem ml{kvs:List (κ×V)}{k:κ}(h:bW kvs k=none):¬k∈kvs.map (·.1):=by
 intro m
 obtain⟨p,hp,e⟩:=List.mem_map.mp m
 have q:(kvs.any fun kv=>decide (kv.1=k))=true:=List.any_eq_true.mpr ⟨p,hp,decide_eq_true e⟩
 rw[fk,h] at q
 exact absurd q (by simp)
theorem pJ{kvs:List (κ×V)}{k:κ}{v:V}(h:bW kvs k=some v):k∈kvs.map (·.1):=by
 have q:(kvs.any fun kv=>decide (kv.1=k))=true:=by
  rw[fk,h]
  all_goals rfl
 obtain⟨p,hp,e⟩:=List.any_eq_true.mp q
 exact List.mem_map.mpr ⟨p,hp,of_decide_eq_true e⟩
theorem Bi:∀{l:List κ} {k:κ},l.Nodup→¬k∈l→(l++[k]).Nodup
 | [],k,_,_=>by simp
 |a::r,k,h,hk=>by
  obtain⟨h1,h2⟩:=List.nodup_cons.mp h
  show (a::(r++[k])).Nodup
  refine List.nodup_cons.mpr ⟨fun m=>?_,Bi h2 fun m=>hk (List.mem_cons.mpr (Or.inr m))⟩
  rcases List.mem_append.mp m with q|q
  ·exact h1 q
  ·exact hk (List.mem_cons.mpr (Or.inl (List.mem_singleton.mp q).symm))
theorem J2{kvs:List (κ×V)}{k:κ}(v:V)(hn:(kvs.map (·.1)).Nodup)(h:bW kvs k=none):((putK kvs k v).map (·.1)).Nodup:=by
 rw[mh v h,List.map_append]
 exact Bi hn (ml h)
end
end L2
namespace L2
open PySem PySem.Spec PyProof.Rows
section
variable {X:Cx}{pins:List (Addr×Obj)}{σ:St}{H:Hp}{s:Shared}{a:Addr}{u u':HO}
theorem Inv.Mm(I:Inv X pins σ H s)(e:H a=some u)(nw:cn X.prog X.w (upd H a u') s.heap a u')
  (h1:∀xs,X.H₀ a≠some (.tup xs)) (h2:∀o z,X.H₀ a≠some (.d8 o z)) (h3:∀ps,X.H₀ a≠some (.Mb ps))
  (n1:∀x,u≠ .own x) (n2:∀xs,u≠ .tup xs):Inv X pins σ (upd H a u') s:=by
 have na:∀b,H b=none→(upd H a u') b=none:=fun b q=>by
  rw[ah (fun z=>by rw[z,e] at q;cases q)];exact q
 have B:=I.base
 refine⟨I.ok,I.os,I.bare,⟨B.keep,B.slot,fun b o q n x=>na b (B.free b o q n x),B.there,fun b xs q=>?_,fun b o z q=>?_,fun b ps q=>?_⟩,
  I.loc,I.cell,na _ I.free,fun x c q=>na _ (I.gY x c q),fun p hp=>?_,fun b o q=>?_,I.len⟩
 ·rw[ah (show b≠a from fun z=>h1 xs (by rw[←z];exact q))];exact B.pk b xs q
 ·rw[ah (show b≠a from fun z'=>h2 o z (by rw[←z'];exact q))];exact B.pq b o z q
 ·rw[ah (show b≠a from fun z'=>h3 ps (by rw[←z'];exact q))];exact B.pw b ps q
 ·obtain⟨p1,p2,p3⟩:=I.pin p hp
  exact⟨p1,na _ p2,p3⟩
 ·by_cases hb:b=a
  ·subst hb
   rw[aa] at q
   cases q
   exact nw
  ·rw[ah hb] at q
   refine(I.aV b o q).sI (fun _ _ _ z=>z) (fun c z=>?_) fun c xs z=>?_
   ·rw[ah (fun z'=>by rw[z',e] at z;exact n1 b (Option.some.inj z))];exact z
   ·rw[ah (fun z'=>by rw[z',e] at z;exact n2 xs (Option.some.inj z))];exact z
def NF(X:Cx)(a:Addr):Prop:=∀o z,X.H₀ a≠some (.d8 o z)
theorem Inv.nf{kvs:List (Key×V)}(I:Inv X pins σ H s)(e:H a=some (.dK kvs)):NF X a:=fun o z q=>by
 have:=I.base.pq a o z q
 rw[e] at this;cases this
theorem Inv.freeze{kvs:List (Key×V)}(I:Inv X pins σ H s)(e:H a=some (.dK kvs)):∃o,s.heap.get? a=some o∧Inv X pins σ (upd H a (.d8 o (.dK kvs))) s:=by
 have ok:=I.aV a _ e
 obtain⟨z,hd,vs,rel,dd⟩:=oW I.aV e
 obtain⟨o,es,ep,ho,r⟩:=id dd
 refine⟨o,ho,I.Mm e ⟨ho,z,hd,vs,rel,dd⟩ (fun xs q=>?_) (I.nf e) (fun ps q=>?_) (fun x q=>by cases q) fun xs q=>by cases q⟩
 ·have:=I.base.pk a xs q
  rw[e] at this;cases this
 ·obtain⟨m,q'⟩:=I.base.pw a ps q
  rw[e] at q';cases q'
theorem Inv.Ft{kvs:List (Key×V)}{o:Obj}(I:Inv X pins σ H s)(e:H a=some (.d8 o (.dK kvs)))(nf:NF X a):Inv X pins σ (upd H a (.dK kvs)) s:=by
 obtain⟨ho,z,hd,vs,rel,dd⟩:=(show cn X.prog X.w H s.heap a (.d8 o (.dK kvs)) from I.aV a _ e)
 refine I.Mm e (show cn X.prog X.w _ s.heap a (.dK kvs) from ⟨z,hd,vs,rel,dd⟩) (fun xs q=>?_) nf (fun ps q=>?_) (fun x q=>by cases q) fun xs q=>by cases q
 ·have:=I.base.pk a xs q
  rw[e] at this;cases this
 ·obtain⟨m,q'⟩:=I.base.pw a ps q
  rw[e] at q';cases q'
theorem eB{o:HO}(e:H a=some o):upd H a o=H:=by
 funext b
 by_cases hb:b=a
 ·subst hb;rw[aa,e]
 ·rw[ah hb]
end
def Mn(a:Addr)(o:Obj)(kvs:List (Key×V)):It:=
 ⟨fun i H=>H a=some (.d8 o (.dK kvs))∧i<kvs.length,fun i H x H'=>H'=H∧∃k v,kvs[i]? =some (k,v)∧x=kV k,fun i H=>H a=some (.d8 o (.dK kvs))∧kvs.length≤i⟩
theorem KV.get{κ:Type}:∀{kvs:List (κ×V)} {vs:List (κ×Value)} {i:Nat} {k:κ} {v:V},KV kvs vs→kvs[i]? =some (k,v)→∃u,vs[i]? =some (k,u)∧RelV v u
 |_,_,_,_,_, .nil,h=>by simp at h
 |_,_,0,k,v, .cons (a:=p) (b:=q) r _,h=>by
  have hp:p=(k,v):=by simpa using h
  subst hp
  have e:k=q.1:=r.1
  exact⟨q.2,by rw[List.getElem?_cons_zero,e],r.2⟩
 |_,_,i+1,_,_, .cons _ t,h=>by
  simp only [List.getElem?_cons_succ] at h ⊢
  exact KV.get (kvs:=_) t h
theorem vw{P:Program}{w:World}{k:Key}{u:Value}(h:(bD P w).is k u=true):RelV (kV k) u:=by
 rw[qi] at h
 rcases cm h with ⟨i,t,rfl,rfl⟩ | ⟨x,t,rfl,rfl⟩
 ·exact⟨t,rfl⟩
 ·exact⟨t,rfl⟩
theorem vx{P:Program}{w:World}{H:Hp}{h:Heap}{a:Addr}{o:Obj}{kvs:List (Key×V)}{es:Array DictEntry}{ep:Nat}(ok:jR P w H h)(e:H a=some (.d8 o (.dK kvs)))(hd:o.data= .dict es ep):
  ∃vs,KV kvs vs∧h.DictAt (bD P w) a vs ep∧(a==sysModules)=false:=by
 obtain⟨ho,z,hs,vs,rel,dd⟩:=(show cn P w H h a (.d8 o (.dK kvs)) from ok a _ e)
 obtain⟨o',YJ,YK,xv,ex,eQ,r⟩:=dd
 rw[ho] at xv;cases xv
 rw[hd] at eQ;cases eQ
 exact⟨vs,rel,⟨o,es,ho,ex,hd,r⟩,hs⟩
theorem Dh{P:Program}{w:World}{K:PySem.W.Frag}{tg:Expr}(a it:Addr)(o:Obj)(kvs:List (Key×V)){es:Array DictEntry}{ep:Nat}(hd:o.data= .dict es ep):
  Turn P w K tg (Mn a o kvs) [it] it (fun i h=>h.IsKeyIter it a i kvs.length ep) where
 mem:=by simp
 obj:=fun i h st b hb=>by
  have e:b=it:=by simpa using hb
  subst e
  obtain⟨o,e,c,d⟩:=st
  exact⟨o,e,fun v z=>by rw[d] at z;cases z⟩
 keep:=fun i h h' st k=>let ⟨o,ho,r⟩:=st;⟨o,k it (by simp) o ho,r⟩
 item:=by
  intro X hP hw hK hc i pins s σ H E I hf st hg
  subst hP hw hK
  obtain⟨hz,hi⟩:=hg
  obtain⟨vs,rel,dd,hs⟩:=vx I.aV hz hd
  obtain⟨k,v,tJ⟩:∃k v,kvs[i]? =some (k,v):=⟨kvs[i].1,kvs[i].2,by simp [hi]⟩
  obtain⟨u,hu,ru⟩:=rel.get tJ
  obtain⟨f0,f1,f2,f3,f4,f5⟩:=hf it (by simp)
  rw[rel.length] at st
  refine wpAny_pyNext_dict_item st dd hu fun key h' hk Bb sb=>?_
  rw[←rel.length] at Bb
  have I1:Inv X pins σ H { s with heap:=h' }:=I.turned (t':=s.toks) (fun b o hb e=>(sb.2 b hb).trans e) f0 f1 f3 f4 f5
  obtain⟨oi,e,c,d⟩:=id Bb
  exact⟨key,rfl,A' (s:={ s with heap:=h' }) e c d (by decide) ⟨kV k,H,I1,vw hk,⟨rfl,k,v,tJ,rfl⟩,Bb,fun b hb=>(hf b hb).1⟩⟩
 done:=by
  intro X hP hw hK hc i pins s σ H E I hf st hg
  subst hP hw hK
  obtain⟨hz,hi⟩:=hg
  obtain⟨vs,rel,dd,hs⟩:=vx I.aV hz hd
  obtain⟨f0,f1,f2,f3,f4,f5⟩:=hf it (by simp)
  rw[rel.length] at st hi
  exact wpAny_pyNext_dict_end (I.ok.hd hc) st dd (List.getElem?_eq_none hi) fun h' eb=>⟨rfl,I.turned (t':=s.toks) (fun b o hb e=>eb b o hb e) f0 f1 f3 f4 f5⟩
 self:=fun _ _ _ _ _ st h=>wpAny_pyIter_keyiter st h
section
variable {X:Cx}{tg:Expr}
def Fu(X:Cx)(td:TE):TI:=fun σ H R=>td σ H fun x H1=>∃a kvs,x= .ref a∧H1 a=some (.dK kvs)∧∀o,NF X a→R (Mn a o kvs) (upd H1 a (.d8 o (.dK kvs)))
theorem dU{l:Expr}{tl:TE}(hl:PE X l tl):PI X tg l (Fu X tl):=by
 intro pins s σ H R I h
 refine bV (hl pins s σ H _ I h) fun v s1 ⟨x,H1,I1,r1,q1⟩=>?_
 obtain⟨a,kvs,e,hk,q⟩:=q1
 subst e
 cases r1
 obtain⟨o,ho,I2⟩:=I1.freeze hk
 obtain⟨z,hs,vs,rel,dd⟩:=oW I1.aV hk
 obtain⟨ep,da⟩:=dd.dictAt
 obtain⟨o',es,xv,ex,hd,_⟩:=id da
 rw[ho] at xv;cases xv
 refine wpAny_pyIter_dict hs da ?_
 refine⟨s1.heap.objs.size,[s1.heap.objs.size],_,_,_,rfl,I2.kept (t':=s1.toks) fun b o e=>Heap.get?_push_of_some _ e,Dh a _ o kvs hd,?_,fun b hb=>?_,q o (I1.nf hk)⟩
 ·rw[rel.length]
  exact⟨_,Heap.get?_push_size _ rfl,rfl,rfl⟩
 ·have e:b=s1.heap.objs.size:=by simpa using hb
  subst e
  exact I2.zD (Nat.le_refl _) (I2.aV.fresh (Nat.le_refl _))
def Th(X:Cx)(Q:Hp→Prop)(H:Hp):Prop:=∃a o kvs,H a=some (.d8 o (.dK kvs))∧NF X a∧Q (upd H a (.dK kvs))
def Fv(X:Cx)(t:TS):TS:=fun D σ H=>t { nx:=fun σ'=>Th X (D.nx σ'),rt:=fun v=>Th X (D.rt v),bk:=fun σ'=>Th X (D.bk σ'),ct:=fun σ'=>Th X (D.ct σ') } σ H
theorem eF{st:Stmt}{t:TS}(h:PS X st t):PS X st (Fv X t):=by
 intro pins s σ H D I q
 refine bV (h pins s σ H _ I q) fun f s' z=>?_
 cases f with
 |next=>obtain⟨σ',H',J,a,o,kvs,e,nf,q⟩:=z;exact⟨σ',_,J.Ft e nf,q⟩
 |brk=>obtain⟨σ',H',J,a,o,kvs,e,nf,q⟩:=z;exact⟨σ',_,J.Ft e nf,q⟩
 |cont=>obtain⟨σ',H',J,a,o,kvs,e,nf,q⟩:=z;exact⟨σ',_,J.Ft e nf,q⟩
 |ret u=>obtain⟨v,σ',H',J,r,a,o,kvs,e,nf,q⟩:=z;exact⟨v,σ',_,J.Ft e nf,r,q⟩
theorem pK{e:Expr}{t:TE}(h:PE X e t):PE X e (fun σ H Q=>t σ H fun v=>Th X (Q v)):=by
 intro pins s σ H Q I q
 refine bV (h pins s σ H _ I q) fun u s' z=>?_
 obtain⟨v,H',J,r,a,o,kvs,e,nf,q⟩:=z
 exact⟨v,_,J.Ft e nf,r,q⟩
end
theorem gg{X:Cx}{a:Addr}{o:Obj}{kvs:List (Key×V)}{g:TG}{tb:TS}{D:Ends}{σ:St}{H:Hp}(nf:NF X a)(Pv:Nat→St→Hp→Prop)(h0:Pv 0 σ H)(hl:∀i σ H,Pv i σ H→H a=some (.dK kvs))
  (hs:∀i k v σ H,kvs[i]? =some (k,v)→Pv i σ H→g (kV k) σ (upd H a (.d8 o (.dK kvs))) fun σ2 H2=>tb { nx:=fun σ' H'=>H' a=some (.d8 o (.dK kvs))∧Pv (i+1) σ' (upd H' a (.dK kvs)),ct:=fun σ' H'=>H' a=some (.d8 o (.dK kvs))∧Pv (i+1) σ' (upd H' a (.dK kvs)),bk:=fun σ'=>Th X (D.nx σ'),rt:=fun v=>Th X (D.rt v) } σ2 H2)
  (hd:∀σ H,Pv kvs.length σ H→D.nx σ H):
  ∃W:Nat→Nat→St→Hp→Prop,(∃m,W 0 m σ (upd H a (.d8 o (.dK kvs))))∧∀i m σ H,W i m σ H→((Mn a o kvs).stop i H∧Th X (D.nx σ) H)∨
   ((Mn a o kvs).go i H∧∃N:St→Hp→Prop,(∀σ' H',N σ' H'→∃m',m'<m∧W (i+1) m' σ' H')∧∀x H',(Mn a o kvs).px i H x H'→g x σ H' fun σ2 H2=>tb { nx:=N,ct:=N,bk:=fun σ'=>Th X (D.nx σ'),rt:=fun v=>Th X (D.rt v) } σ2 H2):=by
 refine⟨fun i m σ H=>m+i=kvs.length∧H a=some (.d8 o (.dK kvs))∧Pv i σ (upd H a (.dK kvs)),⟨kvs.length,by omega,aa,?_⟩,?_⟩
 ·rw[jc,eB (hl _ _ _ h0)];exact h0
 ·rintro i m σ H ⟨hm,hz,hp⟩
  by_cases hi:i<kvs.length
  ·refine .inr ⟨⟨hz,hi⟩,fun σ' H'=>H' a=some (.d8 o (.dK kvs))∧Pv (i+1) σ' (upd H' a (.dK kvs)),fun σ' H' q=>⟨m - 1,by omega,by omega,q⟩,?_⟩
   rintro x H' ⟨rfl,k,v,tJ,rfl⟩
   have:=hs i k v σ _ tJ hp
   rw[jc,eB hz] at this
   exact this
  ·have e:i=kvs.length:=by omega
   subst e
   exact .inl ⟨⟨hz,Nat.le_refl _⟩,a,o,kvs,hz,nf,hd _ _ hp⟩
def Sn:V→Option Value
 | .ty n=>some (.type n)
 | .ref a=>some (.ref a)
 |_=>none
theorem j2{X:Cx}:gC X (.builtin "isinstance") (fun xs H Q=>∃x c cv t b,xs=[x,c]∧Sn c=some cv∧nQ X.K H x t∧PySem.W.kitOne X.K t cv=some b∧Q (.bl b) H):=by
 intro pins s σ H xs us Q I r h
 obtain⟨x,c,cv,t,b,rfl,hc,ty,e,q⟩:=h
 obtain⟨u,v,rfl,ru,rv⟩:=vals2 r
 have hv:v=cv:=by
  cases c<;>simp only [Sn,Option.some.injEq,reduceCtorEq] at hc
  ·cases (show v=Value.ref _ from rv);exact hc
  ·cases (show v=Value.type _ from rv);exact hc
 subst hv
 exact C5 I ru ty e fun tk=>⟨.bl b,H,I.tok tk,rfl,q⟩
theorem lP{X:Cx}:gC X (.type "dict") (fun xs H Q=>∃a kvs,xs=[.ref a]∧Rd H a (.dK kvs)∧∀p,H p=none→Q (.ref p) (upd H p (.dK kvs))):=by
 intro pins s σ H xs us Q I r h
 obtain⟨a,kvs,rfl,hk,q⟩:=h
 obtain⟨u,rfl,ru⟩:=vals1 r
 cases ru
 exact Fn I hk fun p s' hp I'=>⟨.ref p,_,I',rfl,q p hp⟩
theorem zS{X:Cx}:gC X (.builtin "len") (fun xs H Q=>∃a kvs,xs=[.ref a]∧Rd H a (.dK kvs)∧Q (.int kvs.length) H):=by
 intro pins s σ H xs us Q I r h
 obtain⟨a,kvs,rfl,hk,q⟩:=h
 obtain⟨u,rfl,ru⟩:=vals1 r
 cases ru
 exact R9 I hk fun t s' I'=>⟨.int kvs.length,H,I',⟨t,rfl⟩,q⟩
section
variable {X:Cx}
end
theorem fw:∀{kvs:List (Key×V)} {p:Key×V},(kvs.map (·.1)).Nodup→p∈kvs→bW kvs p.1=some p.2
 |q::r,p,nd,hp=>by
  rw[List.map_cons,List.nodup_cons] at nd
  rcases List.mem_cons.mp hp with rfl|hr
  ·exact cO rfl
  ·rw[cP (fun e=>nd.1 (e▸List.mem_map_of_mem (f:=(·.1)) hr))]
   exact fw nd.2 hr
end L2
namespace L2
open PySem PySem.Spec PyProof.Rows
def tK(X:Cx)(pins:List (Addr×Obj))(N:List Str)(scope:Scope)(cl:List (Str×Addr))(fp:List Addr)(s:Shared)(H:Hp):Cx where
 prog:=X.prog
 w:=X.w
 K:=X.K
 mg:=X.mg
 base:=X.base
 A:=X.A
 N:=N
 s₀:=s
 H₀:=H
 env:=compEnvC scope cl s.heap.objs.size X.env
 outer:=X.stack
 stack:=X.stack
 ex:=fp
 fn:=fun _=>false
 calm:=X.calm
 pn:=X.pn++pins
 xe:=fun _ _=>False
structure So(X:Cx)(N:List Str)(fr:List (Option Nat))(scope:Scope)(cl:List (Str×Addr)):Prop where
 Sq:closureFor scope X.env=pure cl
 kind:scope.kind= .function
 vy:∀y∈scope.names,y.2≠ .cell
 names:∀y∈scope.names,y.2= .local→scope.names.lookup y.1=some .local
 cells:∀x c,cl.lookup x=some c→X.env.cells.lookup x=some c
 has:∀x,((relabel scope X.env).names.lookup x=some .cell∨(relabel scope X.env).names.lookup x=some .free)→∃c,cl.lookup x=some c
 len:fr.length=N.length
 out:∀(i j:Nat) (x:Str),N[i]? =some x→fr[i]? =some (some j)→X.N[j]? =some x∧X.env.kindOf x=some .cell∧((relabel scope X.env).names.lookup x=some .cell∨(relabel scope X.env).names.lookup x=some .free)
end L2
namespace L2
open PySem PySem.Spec PyProof.Rows
def nU(env:Env):List (Str×NameKind)→List (Str×Addr)→List (Str×Addr)
 | [],cs=>cs
 | (n,k)::r,cs=>nU env r (if (k== .free)=true then (n,(env.cells.lookup n).getD 0)::cs else cs)
def x2(scope:Scope)(env:Env):List (Str×Addr):=nU env scope.names []
theorem Bj{env:Env}:∀{names:List (Str×NameKind)} (cs:List (Str×Addr)),(∀y∈names,y.2= .free→∃c,env.cells.lookup y.1=some c)→
  (forIn names cs fun (x:Str×NameKind) cs=>match x with
   | (name,kind)=>if (kind==NameKind.free)=true then do let c←cellOf env name;pure (ForInStep.yield ((name,c)::cs)) else pure (ForInStep.yield cs):Sem (List (Str×Addr)))=pure (nU env names cs)
 | [],cs,_=>rfl
 | (n,k)::r,cs,h=>by
   rw[List.forIn_cons]
   dsimp only
   have ih:=fun cs=>Bj (env:=env) (names:=r) cs fun y hy=>h y (List.mem_cons_of_mem _ hy)
   by_cases hk:(k==NameKind.free)=true
   ·obtain⟨c,hc⟩:=h (n,k) (List.mem_cons_self ..) (by simpa using hk)
    rw[if_pos hk,show nU env ((n,k)::r) cs=nU env r ((n,c)::cs) by rw[nU,if_pos hk,hc];rfl]
    have e:cellOf env n=pure c:=by unfold cellOf;rw[hc]
    rw[e]
    exact ih _
   ·rw[if_neg hk,show nU env ((n,k)::r) cs=nU env r cs by rw[nU,if_neg hk]]
    exact ih _
theorem J3{scope:Scope}{env:Env}(h:∀y∈scope.names,y.2= .free→∃c,env.cells.lookup y.1=some c):closureFor scope env=pure (x2 scope env):=by
 have t:=Bj (env:=env) [] h
 have e:closureFor scope env=((forIn scope.names ([]:List (Str×Addr)) fun (x:Str×NameKind) cs=>match x with
   | (name,kind)=>if (kind==NameKind.free)=true then do let c←cellOf env name;pure (ForInStep.yield ((name,c)::cs)) else pure (ForInStep.yield cs)) >>= fun cs=>pure cs:Sem (List (Str×Addr))):=rfl
 rw[e,t]
 rfl
theorem qz{env:Env}:∀{names:List (Str×NameKind)} {cs:List (Str×Addr)},(∀y∈names,y.2= .free→∃c,env.cells.lookup y.1=some c)→(∀x c,cs.lookup x=some c→env.cells.lookup x=some c)→∀x c,(nU env names cs).lookup x=some c→env.cells.lookup x=some c
 | [],_,_,hc,x,c,h=>hc x c h
 | (n,k)::r,cs,hn,hc,x,c,h=>by
   rw[nU] at h
   refine qz (names:=r) (fun y hy=>hn y (List.mem_cons_of_mem _ hy)) (fun x c h=>?_) x c h
   by_cases hk:(k==NameKind.free)=true
   ·rw[if_pos hk] at h
    obtain⟨c',Js⟩:=hn (n,k) (List.mem_cons_self ..) (by simpa using hk)
    rw[List.lookup_cons] at h
    cases e:x==n with
    |true=>
     rw[e] at h
     have ex:x=n:=by simpa using e
     subst ex
     rw[Js] at h ⊢
     exact h
    |false=>
     rw[e] at h
     exact hc x c h
   ·rw[if_neg hk] at h
    exact hc x c h
theorem x3{env:Env}:∀{names:List (Str×NameKind)} {cs:List (Str×Addr)} {x:Str},((x,NameKind.free)∈names∨∃c,cs.lookup x=some c)→∃c,(nU env names cs).lookup x=some c
 | [],_,_,h=>h.elim (fun z=>by cases z) fun z=>z
 | (n,k)::r,cs,x,h=>by
   rw[nU]
   refine x3 (names:=r) ?_
   by_cases hk:(k==NameKind.free)=true
   ·rw[if_pos hk,List.lookup_cons]
    cases e:x==n with
    |true=>exact .inr ⟨_,rfl⟩
    |false=>
     rcases h with h|h
     ·rcases List.mem_cons.mp h with z|z
      ·cases z
       simp at e
      ·exact .inl z
     ·exact .inr h
   ·rw[if_neg hk]
    rcases h with h|h
    ·rcases List.mem_cons.mp h with z|z
     ·cases z
      exact absurd rfl hk
     ·exact .inl z
    ·exact .inr h
theorem j3{env:Env}(x:Str):∀names:List (Str×NameKind),
  (names.map fun (y:Str×NameKind)=>match y with
   | (n,k)=>if (k==NameKind.free&&env.scope.kind== .function&&env.kindOf n==some .cell)=true then (n,NameKind.cell) else (n,k)).lookup x
   =(names.lookup x).map fun k=>if (k==NameKind.free&&env.scope.kind== .function&&env.kindOf x==some .cell)=true then NameKind.cell else k
 | []=>rfl
 | (n,k)::r=>by
   have ih:=j3 (env:=env) x r
   rw[List.map_cons,List.lookup_cons]
   by_cases e:(x==n)=true
   ·have ex:x=n:=by simpa using e
    subst ex
    dsimp only
    by_cases hc:(k==NameKind.free&&env.scope.kind== .function&&env.kindOf x==some .cell)=true
    ·rw[if_pos hc,List.lookup_cons,beq_self_eq_true]
     dsimp only [Option.map]
     rw[if_pos hc]
    ·rw[if_neg hc,List.lookup_cons,beq_self_eq_true]
     dsimp only [Option.map]
     rw[if_neg hc]
   ·have e':(x==n)=false:=by simpa using e
    dsimp only
    by_cases hc:(k==NameKind.free&&env.scope.kind== .function&&env.kindOf n==some .cell)=true
    ·rw[if_pos hc,List.lookup_cons,e']
     exact ih
    ·rw[if_neg hc,List.lookup_cons,e']
     exact ih
structure J4(sc scope:Scope)(NX N:List Str)(fr:List (Option Nat)):Prop where
 Sr:sc.kind= .function
 kind:scope.kind= .function
 vy:∀y∈scope.names,y.2≠ .cell
 names:∀y∈scope.names,y.2= .local→scope.names.lookup y.1=some .local
 free:∀y∈scope.names,y.2= .free→sc.names.lookup y.1=some .cell
 len:fr.length=N.length
 out:((List.range N.length).all fun i=>match fr[i]? with
  |some (some j)=>(match N[i]? with
   |some x=>(NX[j]? ==some x)&&(scope.names.lookup x==some .free)
   |none=>false)
  |_=>true)=true
theorem nV{names:List (Str×NameKind)}{x:Str}{k:NameKind}(h:names.lookup x=some k):(x,k)∈names:=PySem.mem_of_lookup h
theorem J4.x4{X:Cx}{sc scope:Scope}{NX N:List Str}{fr:List (Option Nat)}(B:J4 sc scope NX N fr)(e1:X.env.scope=sc)(e2:X.N=NX)(ok:X.Ok):So X N fr scope (x2 scope X.env):=by
 subst e1 e2
 have fc:∀y∈scope.names,y.2= .free→∃c,X.env.cells.lookup y.1=some c:=fun y hy hf=>ok.has y.1 (.inl (B.free y hy hf))
 have lk:∀x,(relabel scope X.env).names.lookup x=(scope.names.lookup x).map fun k=>if (k==NameKind.free&&X.env.scope.kind== .function&&X.env.kindOf x==some .cell)=true then NameKind.cell else k:=fun x=>j3 x scope.names
 have Ob:∀x,scope.names.lookup x=some .free→(relabel scope X.env).names.lookup x=some .cell:=fun x hx=>by
  have hk:X.env.kindOf x=some .cell:=B.free (x, .free) (nV hx) rfl
  rw[lk,hx,Option.map_some,hk,B.Sr]
  rfl
 refine⟨J3 fc,B.kind,B.vy,B.names,fun x c h=>qz fc (fun x c h=>by cases h) x c h,fun x h=>x3 (.inl ?_),B.len,fun i j x h1 h2=>?_⟩
 ·rw[lk] at h
  cases e:scope.names.lookup x with
  |none=>rw[e] at h;rcases h with h|h<;>cases h
  |some k=>
   rw[e,Option.map_some] at h
   have hm:=nV e
   cases k with
   |free=>exact hm
   |cell=>exact absurd rfl (B.vy _ hm)
   |_=>rcases h with h|h<;>simp at h
 ·have hi:i<N.length:=(List.getElem?_eq_some_iff.mp h1).1
  have:=List.all_eq_true.mp B.out i (List.mem_range.mpr hi)
  rw[h2] at this
  dsimp only at this
  rw[h1] at this
  dsimp only at this
  rw[Bool.and_eq_true] at this
  have a1:X.N[j]? =some x:=by simpa using this.1
  have a2:scope.names.lookup x=some .free:=by simpa using this.2
  exact⟨a1,B.free (x, .free) (nV a2) rfl, .inl (Ob x a2)⟩
end L2
namespace L2
open PySem PySem.Spec PyProof.Rows
def startB(fr:List (Option Nat))(σ:St):St:=fr.map fun o=>o.bind fun j=>(σ[j]?).join
theorem zT{fr:List (Option Nat)}{σ:St}{i:Nat}{v:V}(h:(startB fr σ)[i]? =some (some v)):∃j,fr[i]? =some (some j)∧σ[j]? =some (some v):=by
 unfold startB at h
 rw[List.getElem?_map] at h
 cases e:fr[i]? with
 |none=>rw[e] at h;cases h
 |some o=>
  rw[e] at h
  cases o with
  |none=>cases h
  |some j=>
   have h':(σ[j]?).join=some v:=Option.some.inj h
   cases q:σ[j]? with
   |none=>rw[q] at h';cases h'
   |some z=>rw[q] at h';exact⟨j,rfl,by rw[q];exact congrArg some h'⟩
section
variable {X:Cx}{pins:List (Addr×Obj)}{σ:St}{H:Hp}{s:Shared}{N:List Str}{fr:List (Option Nat)}{scope:Scope}{cl:List (Str×Addr)}{fp:List Addr}
theorem Fw(B:So X N fr scope cl)(I:Inv X pins σ H s)(f:∀b∈fp,lu X pins H b∧b<s.heap.objs.size):(tK X pins N scope cl fp s H).Ok where
 mod:=I.mod
 kind:=B.kind
 glob:=I.ok.glob
 blt:=I.ok.blt
 above:=Nat.le_refl _
 inj:=fun x y c h1 h2=>I.ok.inj x y c (B.cells x c h1) (B.cells y c h2)
 has:=fun x h=>B.has x h
 JI:=fun x c h=>by cases h
 hd:=I.ok.hd
 frames:=I.ok.frames
 Mc:= .inl rfl
 Q3:=fun b hb=>⟨Nat.ne_of_lt (f b hb).2,fun x c h=>(f b hb).1.2.2.2.2.1 x c (B.cells x c h)⟩
 bs:=I.bs
 C0:=Nat.le_trans I.ok.C0 I.sz
 vd:=fun b o e hb=>by
  rcases (f b hb).1.2.2.2.1 with h|h
  ·exact I.ok.vd b o e h
  ·exact absurd (Nat.lt_of_lt_of_le (Heap.lt_size e) (Nat.le_trans I.ok.C0 h)) (Nat.lt_irrefl _)
 ve:=fun b hb h=>by
  rcases List.mem_cons.mp (I.vf b h) with z|z
  ·exact(f b hb).1.2.1 z
  ·exact(f b hb).1.2.2.1 z
 lq:=I.stack
 E2:=I.vg
theorem Di{h1:Heap}{t1:Nat}(B:So X N fr scope cl)(I:Inv X pins σ H s)(f:∀b∈fp,lu X pins H b∧b<s.heap.objs.size)(tI:h1.Ns s.heap.objs.size fun _=>none)
  (Oc:∀b o,s.heap.get? b=some o→h1.get? b=some o):Inv (tK X pins N scope cl fp s H) [] (startB fr σ) H { s with heap:=h1,toks:=t1 }:=by
 obtain⟨m,hm,hl⟩:=I.loc
 refine⟨Fw B I f,rfl,I.bare,Un.kept Oc,⟨_,tI,fun i x v e1 e2 _=>?_⟩,fun x c h=>?_,I.aV.fresh (Nat.le_refl _),fun x c h=>I.gY x c (B.cells x c h),fun p hp=>?_,I.aV.kept Oc,?_⟩
 ·obtain⟨j,ej,es⟩:=zT e2
  obtain⟨o1,o2,o3⟩:=B.out i j x e1 ej
  obtain⟨u,ru,L⟩:=hl j x v o1 es (.inr (.inl o2))
  refine⟨u,ru, .inr ⟨o3,?_⟩⟩
  obtain⟨c,hc⟩:=B.has x o3
  rcases L with ⟨k1,_⟩ | ⟨_,c',Js,cc⟩
  ·rw[o2] at k1;cases k1
  ·rw[B.cells x c hc] at Js
   cases Js
   exact⟨c,hc,cc.keeps Oc⟩
 ·obtain⟨v,hv⟩:=I.cell x c (B.cells x c h)
  exact⟨v,hv.keeps Oc⟩
 ·have sx:p∈X.pn++pins:=by rw[List.append_nil] at hp;exact hp
  obtain⟨p1,p2,p3,p4,p5⟩:=I.pin p sx
  exact⟨Oc _ _ p1,p2,Nat.ne_of_lt (Heap.lt_size p1),fun z=>(List.mem_cons.mp (I.vf _ z)).elim p3 p4,p5⟩
 ·show (startB fr σ).length=N.length
  unfold startB
  rw[List.length_map,B.len]
end
def Od(X:Cx)(cs:List Expr)(t:TT):Prop:=
 ∀(pins:List (Addr×Obj)) (s:Shared) (σ:St) (H:Hp) (Q:Bool→Hp→Prop),Inv X pins σ H s→t σ H Q→
  wpAny (model X.prog X.w) X.A (forIn cs true fun c r=>if r=true then do let ok←isTrue c X.env (eval c X.env);pure (ForInStep.yield ok) else pure (ForInStep.yield r)) (TP X pins σ Q) X.xe s
def tYes:TT:=fun _ H Q=>Q true H
theorem fx{X:Cx}:Od X [] tYes:=fun pins s σ H Q I h=>by
 rw[List.forIn_nil]
 exact wpAny_pure ⟨H,I,h⟩
theorem mn{X:Cx}{c:Expr}{t:TT}(h:PT X c t):Od X [c] t:=fun pins s σ H Q I q=>by
 rw[List.forIn_cons,if_pos rfl]
 refine wpAny_bind (wpAny_bind (bV (h pins s σ H Q I q) fun b s' z=>?_))
 refine wpAny_pure ?_
 dsimp only
 rw[List.forIn_nil]
 exact wpAny_pure z
section
variable {prog:Program}{w:World}{A:Around}{R:Result→Shared→Prop}{s:Shared}
theorem comp_loop{elt tg iter:Expr}{ifs:List Expr}{scope:Scope}{pos:Pos}{it acc:Value}{env:Env}(J:Nat→Shared→Prop)
  (turn:∀n s,J n s→wpAny (model prog w) A (pyNext it) (fun r s₁=>match r with
   |none=>R (.ok .next) s₁
   |some v=>wpAny (model prog w) A (letOwnedTupleGo tg it v) (fun _ sg=>wpAny (model prog w) A (assign tg env v) (fun _ s₂=>
     wpAny (model prog w) A (forIn ifs true fun c r=>if r=true then do let ok←isTrue c env (eval c env);pure (ForInStep.yield ok) else pure (ForInStep.yield r)) (fun ok s₃=>
      if ok=true then wpAny (model prog w) A (eval elt env) (fun x s₄=>wpAny (model prog w) A (call (.builtin "list.append") [acc,x]) (fun _ s₅=>∃m,m<n∧J m s₅) (fun _ _=>False) s₄) (fun _ _=>False) s₃
      else∃m,m<n∧J m s₃) (fun _ _=>False) s₂) (fun _ _=>False) sg) (fun _ _=>False) s₁) (fun _ _=>False) s)
  (n:Nat) (h:J n s):codeAny (model prog w) A (.compLoop (.ListComp elt [⟨tg,iter,ifs,0⟩] scope pos) 0 it acc env) R s:=by
 refine codeAny_loop rfl J (fun n s hJ=>?_) n h
 show wpAny _ A ((compTurn (.ListComp elt [⟨tg,iter,ifs,0⟩] scope pos) 0 it acc env).onRaise (fun x=>do noteFrame x env;theTreesLotGoes x)) _ _ s
 refine wpAny_noted ?_
 rw[compTurn_list]
 have no:∀{P:Value→Shared→Prop} (a:Value) (s:Shared),(fun (_:Value) (_:Shared)=>False) a s→P a s:=fun _ _ z=>False.elim z
 refine wpAny_bind (wpAny_standAt (wpAny_bind (wpAny_mono (turn n s hJ) (fun r s₁ h₁=>?_) no)))
 cases r with
 |none=>exact wpAny_pure h₁
 |some v=>
  refine wpAny_bind (wpAny_mono h₁ (fun _ sg hg=>?_) no)
  refine wpAny_bind (wpAny_mono hg (fun _ s₂ h₂=>wpAny_bind (wpAny_mono h₂ (fun ok s₃ h₃=>?_) no)) no)
  cases ok with
  |false=>exact wpAny_pure ⟨rfl,h₃⟩
  |true=>exact wpAny_bind (wpAny_bind (wpAny_mono h₃ (fun x s₄ h₄=>wpAny_bind (wpAny_mono h₄ (fun _ s₅ h₅=>wpAny_pure (wpAny_pure ⟨rfl,h₅⟩)) no)) no))
end
def Mo(wi:TI)(fr:List (Option Nat))(g:TG)(tt:TT)(te:TE):TE:=fun σ H Q=>wi σ H fun J H1=>∀D,H1 D=none→∃W:Nat→Nat→St→Hp→Prop,(∃m,W 0 m (startB fr σ) (upd H1 D (.lst [])))∧∀i m σ H,W i m σ H→
 (J.stop i H∧Q (.ref D) H)∨(J.go i H∧∀x H2,J.px i H x H2→g x σ H2 fun σ3 H3=>tt σ3 H3 fun b H4=>if b=true
   then te σ3 H4 fun y H5=>∃ys,H5 D=some (.lst ys)∧ys.length<sizeLine∧∃m',m'<m∧W (i+1) m' σ3 (upd H5 D (.lst (ys++[y])))
   else∃m',m'<m∧W (i+1) m' σ3 H4)
section
variable {X:Cx}{elt tg iter:Expr}{ifs:List Expr}{scope:Scope}{pos:Pos}{N:List Str}{fr:List (Option Nat)}{cl:List (Str×Addr)}{wi:TI}{g:TG}{tt:TT}{te:TE}
theorem J6(B:So X N fr scope cl)(hc:X.calm=true)
  (hg:∀pins fp s H,PG (tK X pins N scope cl fp s H) tg g) (ht:∀pins fp s H,Od (tK X pins N scope cl fp s H) ifs tt) (he:∀pins fp s H,PE (tK X pins N scope cl fp s H) elt te)
  {pins:List (Addr×Obj)} {s3:Shared} {σ:St} {H3:Hp} {Q:VK} {it D:Addr} {fp:List Addr} {tn:Nat→Heap→Prop} {J:It} (I3:Inv X pins σ H3 s3) (T:Turn X.prog X.w X.K tg J fp it tn) (YN:tn 0 s3.heap) (f3:∀b∈fp,lu X pins H3 b∧b<s3.heap.objs.size)
  {W:Nat→Nat→St→Hp→Prop} {m0:Nat} (w0:W 0 m0 (startB fr σ) H3)
  (turn:∀i m σ H,W i m σ H→(J.stop i H∧Q (.ref D) H)∨(J.go i H∧∀x H2,J.px i H x H2→g x σ H2 fun σ3 H3=>tt σ3 H3 fun b H4=>if b=true
    then te σ3 H4 fun y H5=>∃ys,H5 D=some (.lst ys)∧ys.length<sizeLine∧∃m',m'<m∧W (i+1) m' σ3 (upd H5 D (.lst (ys++[y])))
    else∃m',m'<m∧W (i+1) m' σ3 H4))
  {R:Result→Shared→Prop} (hR:∀s' H',Inv X pins σ H' s'→lu X pins H' s3.heap.objs.size→(∃m,s'.heap.Ns s3.heap.objs.size m)→Q (.ref D) H'→R (.ok .next) s')
  {h₁:Heap} {t1:Nat} (tI:h₁.Ns s3.heap.objs.size fun _=>none) (Mp:∀b o,s3.heap.get? b=some o→h₁.get? b=some o):
  codeAny (model X.prog X.w) X.A (.compLoop (.ListComp elt [⟨tg,iter,ifs,0⟩] scope pos) 0 (.ref it) (.ref D) (compEnvC scope cl s3.heap.objs.size X.env)) R { s3 with heap:=h₁,toks:=t1 }:=by
 have Ib:=Di (t1:=t1) B I3 f3 tI Mp
 have zF:∀{H':Hp},(∀b∈fp,H' b=none)→∀b∈fp,lu (tK X pins N scope cl fp s3 H3) [] H' b:=fun hn b hb=>
  ⟨hn b hb,Nat.ne_of_lt (f3 b hb).2,(Fw B I3 f3).ve b hb, .inl hb,fun x c h=>(f3 b hb).1.2.2.2.2.1 x c (B.cells x c h),fun p hp=>(f3 b hb).1.2.2.2.2.2 p (by rw[List.append_nil] at hp;exact hp)⟩
 refine comp_loop (fun n s'=>∃i σ' H',Inv (tK X pins N scope cl fp s3 H3) [] σ' H' s'∧tn i s'.heap∧(∀b∈fp,H' b=none)∧W i n σ' H') ?_ m0
  ⟨0,_,_,Ib,T.keep _ _ _ YN fun b _ o e=>Mp b o e,fun b hb=>(f3 b hb).1.1,w0⟩
 rintro n s4 ⟨i,σ4,H4,I4,st4,fr4,w4⟩
 rcases turn i n σ4 H4 w4 with ⟨stop,qn⟩ | ⟨go,step⟩
 ·refine bV (T.done (tK X pins N scope cl fp s3 H3) rfl rfl rfl hc i [] s4 σ4 H4 _ I4 (zF fr4) st4 stop) fun r s5 ⟨hr,I5⟩=>?_
  subst hr
  have J5:Inv X pins σ H4 s5:=I3.E4 (ch:=fp) I5.os I5.base I5.aV I5.bare fun b hb=>⟨(f3 b hb).1.2.2.2.1,(f3 b hb).1.2.1,(f3 b hb).1.2.2.2.2.1,(f3 b hb).1.2.2.2.2.2⟩
  obtain⟨mm,Oe,_⟩:=I5.loc
  exact hR s5 H4 J5 (I3.zD (Nat.le_refl _) I5.free) ⟨mm,Oe⟩ qn
 ·refine bV (T.item (tK X pins N scope cl fp s3 H3) rfl rfl rfl hc i [] s4 σ4 H4 _ I4 (zF fr4) st4 go) fun r s5 ⟨u,hr,h5⟩=>?_
  subst hr
  refine bV h5 fun _ s6 ⟨x,H6,I6,r6,y6,st6,fr6⟩=>?_
  have I6':=I6.pinned (zF fr6) (T.obj _ _ st6)
  have back:∀{s7:Shared} {σ7:St} {H7:Hp} {m':Nat},Inv (tK X pins N scope cl fp s3 H3) ([]++qk fp s6.heap) σ7 H7 s7→m'<n→W (i+1) m' σ7 H7→
    ∃m,m<n∧∃i σ' H',Inv (tK X pins N scope cl fp s3 H3) [] σ' H' s7∧tn i s7.heap∧(∀b∈fp,H' b=none)∧W i m σ' H':=fun {s7 σ7 H7 m'} I7 hm w7=>by
   refine⟨m',hm,i+1,σ7,H7,I7.gb,T.keep _ _ _ st6 fun b hb o e=>(I7.pin (b,o) (List.mem_append_right _ (List.mem_append_right _ (je hb e)))).1,fun b hb=>?_,w7⟩
   obtain⟨o,e,d⟩:=T.obj _ _ st6 b hb
   exact(I7.pin (b,o) (List.mem_append_right _ (List.mem_append_right _ (je hb e)))).2.1
  refine bV (hg _ _ _ _ _ s6 σ4 H6 x u _ I6' r6 (step x H6 y6)) fun _ s7 ⟨σ7,H7,I7,q7⟩=>?_
  refine bV (ht _ _ _ _ _ s7 σ7 H7 _ I7 q7) fun ok s8 ⟨H8,I8,q8⟩=>?_
  cases ok with
  |false=>
   rw[if_neg (by decide)] at q8 ⊢
   obtain⟨m',hm,w8⟩:=q8
   exact back I8 hm w8
  |true=>
   rw[if_pos rfl] at q8 ⊢
   refine bV (he _ _ _ _ _ s8 σ7 H8 _ I8 q8) fun y s9 ⟨v9,H9,I9,r9,ys,hD9,hl9,m',hm,w9⟩=>?_
   refine bV (dE _ s9 σ7 H9 (.ref D) [v9] _ [y] (fun _ H'=>W (i+1) m' σ7 H') I9 rfl (.cons r9 .nil) ⟨_,ys,v9,rfl,rfl,hD9,hl9,w9⟩) fun _ Fx ⟨_,J7,I10,_,q10⟩=>?_
   exact back I10 hm q10
theorem x5(B:So X N fr scope cl)(hc:X.calm=true)
  (hg:∀pins fp s H,PG (tK X pins N scope cl fp s H) tg g) (ht:∀pins fp s H,Od (tK X pins N scope cl fp s H) ifs tt) (he:∀pins fp s H,PE (tK X pins N scope cl fp s H) elt te)
  {pins:List (Addr×Obj)} {s2:Shared} {σ:St} {H2:Hp} {Q:VK} {E:Value→Shared→Prop} {it:Addr} {fp:List Addr} {tn:Nat→Heap→Prop} {J:It} (I2:Inv X pins σ H2 s2) (T:Turn X.prog X.w X.K tg J fp it tn) (JM:tn 0 s2.heap) (f2:∀b∈fp,lu X pins H2 b)
  (q:∀D,H2 D=none→∃W:Nat→Nat→St→Hp→Prop,(∃m,W 0 m (startB fr σ) (upd H2 D (.lst [])))∧∀i m σ H,W i m σ H→
   (J.stop i H∧Q (.ref D) H)∨(J.go i H∧∀x H2,J.px i H x H2→g x σ H2 fun σ3 H3=>tt σ3 H3 fun b H4=>if b=true
     then te σ3 H4 fun y H5=>∃ys,H5 D=some (.lst ys)∧ys.length<sizeLine∧∃m',m'<m∧W (i+1) m' σ3 (upd H5 D (.lst (ys++[y])))
     else∃m',m'<m∧W (i+1) m' σ3 H4))
  {RR:Value→Addr→Result→Shared→Prop}
  (hRR:∀D C s' H',Inv X pins σ H' s'→lu X pins H' C→(∃m,s'.heap.Ns C m)→Q (.ref D) H'→RR (.ref D) C (.ok .next) s'):
  wpAny (model X.prog X.w) X.A (newList []) (fun acc s₃=>wpAny (model X.prog X.w) X.A (newFunctionEnv scope X.env.globals cl [] X.env.qual none .none (some X.env)) (fun Ss s₄=>
   codeAny (model X.prog X.w) X.A (.compStart (.ListComp elt [⟨tg,iter,ifs,0⟩] scope pos) 0 (.ref it) acc { Ss with scope:=relabel scope X.env }) (RR acc Ss.locals) s₄) E s₃) E s2:=by
 have hD:H2 s2.heap.objs.size=none:=I2.aV.fresh (Nat.le_refl _)
 obtain⟨W,⟨m0,w0⟩,turn⟩:=q s2.heap.objs.size hD
 have I3:=I2.Si (ys:=[]) (its:=[]) (t':=s2.toks) .nil (by decide)
 have lt2:∀b∈fp,b<s2.heap.objs.size:=fun b hb=>by
  obtain⟨o,e,_⟩:=T.obj _ _ JM b hb
  exact Heap.lt_size e
 refine wpAny_newObj_type (wpAny_newFunctionEnv B.vy (by intro y hy;simp at hy) (fun h₁ tI Oc=>?_) B.kind)
 have up2:∀b o,s2.heap.get? b=some o→(s2.heap.push { cls:= .type "list",data:= .seq ([]:List Value).toArray }).get? b=some o:=fun b o e=>Heap.get?_push_of_some _ e
 have Mp:∀b o,(s2.heap.push { cls:= .type "list",data:= .seq ([]:List Value).toArray }).get? b=some o→h₁.get? b=some o:=fun b o e=>Oc.extBut b o (Nat.ne_of_lt (Heap.lt_size e)) (Heap.get?_push_of_some _ e)
 have f3:∀b∈fp,lu X pins (upd H2 s2.heap.objs.size (.lst [])) b∧b< (s2.heap.push { cls:= .type "list",data:= .seq ([]:List Value).toArray }).objs.size:=fun b hb=>by
  refine⟨⟨?_,(f2 b hb).2⟩,?_⟩
  ·rw[ah (Nat.ne_of_lt (lt2 b hb))]
   exact(f2 b hb).1
  ·rw[Heap.size_push]
   exact Nat.lt_succ_of_lt (lt2 b hb)
 have fin:=J6 (iter:=iter) (pos:=pos) (D:=s2.heap.objs.size) (t1:=s2.toks) (R:=RR (.ref s2.heap.objs.size) (s2.heap.push { cls:= .type "list",data:= .seq ([]:List Value).toArray }).objs.size) B hc hg ht he I3 T (T.keep _ _ _ JM fun b _ o e=>up2 b o e) f3 w0 turn
  (fun s' H' J' f m q=>hRR _ _ s' H' J' f m q) tI Mp
 exact codeAny_compStart_list fin (T.self _ 0 _ _ _ (T.keep _ _ _ JM fun b _ o e=>Mp b o (up2 b o e)) fin)
theorem fy{sc:Scope}{NX:List Str}(S:J4 sc scope NX N fr)(e1:X.env.scope=sc)(e2:X.N=NX)(hc:X.calm=true)(hi:PI X tg iter wi)
  (hg:∀pins fp s H,PG (tK X pins N scope (x2 scope X.env) fp s H) tg g) (ht:∀pins fp s H,Od (tK X pins N scope (x2 scope X.env) fp s H) ifs tt) (he:∀pins fp s H,PE (tK X pins N scope (x2 scope X.env) fp s H) elt te)
  (hs:∀x,foldedSetIterable iter X.env x=pure x:=by intro _;rfl):PE X (.ListComp elt [⟨tg,iter,ifs,0⟩] scope pos) (Mo wi fr g tt te):=by
 intro pins s σ H Q I h
 have B:=S.x4 e1 e2 I.ok
 rw[eval_ListComp]
 refine wpAny_comprehension_free (use:=none) rfl hs B.Sq B.kind B.names (bV (hi pins s σ H _ I h) fun v s1 h1=>bV h1 fun YM s2 h2=>?_)
 obtain⟨it,fp,tn,J,H2,e,I2,T,JM,f2,q⟩:=h2
 subst e
 refine x5 (RR:=fun acc C=>compPost (model X.prog X.w) X.A X.xe none (EP X pins σ Q) acc C) B hc hg ht he I2 T JM f2 q ?_
 intro D C s' H' J' fC ⟨m,hm⟩ qn
 refine⟨m,hm,fun h' Fy=>⟨.ref D,H',?_,rfl,qn⟩⟩
 obtain⟨f0,f1,_,f3,f4,f5⟩:=fC
 exact J'.turned (t':=s'.toks) (fun b o hb e=>(Fy.2 b hb).trans e) f0 f1 f3 f4 f5
end
end L2
namespace PySem
namespace F
theorem mq:entryFor table "dict.update.loop" =some Builtin.«dict.update.loop» :=entryFor_of_tree (by kernel_rfl)
theorem gJ:plainId "dict.update.loop" =true:=by decide+kernel
theorem vz:typeLookup (.type "list") "keys" =pure none:=by rw[typeLookup_type,builtinLookup_eq_fast];kernel_rfl
end F
section
variable {prog:Program}{w:World}{K:Type}[DecidableEq K]{knd:KeyKind prog w K}{A:Around}{E:Value→Shared→Prop}{s:Shared}
theorem zU{a:Addr}{xs:Array Value}{k:Nat}{sl:Array (Option Value)}{Q:Option Value→Shared→Prop}
  (hx:s.heap.get? a=some { cls:= .type "list",dict:=none,data:= .seq xs k,slots:=sl }) (hA:A.handled=none)
  (h:∀h' tk,(∀b o,s.heap.get? b=some o→h'.get? b=some o)→Q none { s with heap:=h',toks:=tk }):wpAny (model prog w) A (getAttr? (.ref a) "keys") Q E s:=by
 obtain⟨hp,g,d,tk,os⟩:=s
 have hT:∀Of,(⟨hp,g,d,Of,os⟩:Shared).TypeIs (.ref a) "list" :=fun _=>⟨_,hx,rfl⟩
 have f1:=sub_AttributeError
 have f3:=F.slot_list_getattribute.lookup
 have f4:=F.slot_list_getattribute.bind (.ref a)
 have f5:=am_list_getattr_none
 unfold getAttr? getAttrBy? getAttrBy
 repeat (any_goals (first|assumption|exact hT _| ((with_reducible show wpAny _ _ (call (Value.builtin "list.__getattribute__") _ _) _ _ _);refine call_meets F.slot_list_getattribute (hT _) am_entry_list_getattribute (F.args_list_getattribute_2 _ _) (meets_getattribute_miss_list a xs k sl "keys" _ F.vz (by decide+kernel) (by decide+kernel)) ⟨hx,hA,fun h' Of e hx'=>?_⟩) |wp_step))
 obtain⟨t',u',he⟩:=hx'.there
 show wpAny _ _ (getattributeRaised _ _ _ _ _ _ _) _ _ _
 unfold getattributeRaised
 repeat (any_goals (first|assumption|wp_step))
 all_goals exact h h' Of hx'.keeps
theorem Og{d it l:Addr}{res:Value}{R:Result→Shared→Prop}{ps:List (Addr×K×Value×Value)}(hh:A.handled=none)(hdl:d≠l)(nW:d≠it)(zt:it≠l)
  (J8:∀p∈ps,p.1≠d∧p.1≠it∧knd.is p.2.1 p.2.2.1=true):
  ∀(n i:Nat) (s:Shared) (kvs:List (K×Value)),ps.length - i=n→i≤ps.length→s.heap.IsListIter it l i→s.heap.IsList l (ps.map fun p=>Value.ref p.1).toArray→
   (∀p∈ps,s.heap.IsTuple p.1 #[p.2.2.1,p.2.2.2])→s.heap.DictOf knd d kvs→kvs.length+(ps.length - i)≤sizeLine→
   (∀h' tk,h'.DictOf knd d ((ps.drop i).foldl (fun acc p=>stored acc p.2.1 p.2.2.2) kvs)→(∀b o,b≠d→b≠it→s.heap.get? b=some o→h'.get? b=some o)→R (.ok (.ret res)) { s with heap:=h',toks:=tk })→
   codeAny (model prog w) A (.builtin "dict.update.loop" ⟨[.ref d, .ref it,rawInt i,res],[]⟩) R s:=by
 intro n
 induction n with
 |zero=>
  intro i s kvs hn hi hit hl ht hd hsz hR
  refine codeAny_builtin F.mq ?_
  rw[Around.under_plainId F.gJ _]
  show wpAny _ A.in1 (pyNext (.ref it) >>= _) _ _ s
  refine wpAny_bind (wpAny_pyNext_list_end hh hit hl (by simp;omega) fun h' eb=>?_)
  show wpAny _ A.in1 (Builtin.Dict.addKeywords d [] >>= fun _=>ret res) _ _ _
  have e:ps.drop i=[]:=List.drop_eq_nil_of_le (by omega)
  rw[e] at hR
  exact wpAny_bind (wpAny_pure (wpAny_pure (hR h' s.toks (hd.extBut eb nW) fun b o _ hb q=>eb b o hb q)))
 |succ n ih=>
  intro i s kvs hn hi hit hl ht hd hsz hR
  have pz:i<ps.length:=by omega
  have hp:=ps.get_mem ⟨i,pz⟩
  have Oh:ps.drop i=ps[i]::ps.drop (i+1):=List.drop_eq_getElem_cons pz
  obtain⟨n1,n2,hk⟩:=J8 _ (List.getElem_mem pz)
  refine codeAny_builtin F.mq ?_
  rw[Around.under_plainId F.gJ _]
  show wpAny _ A.in1 (pyNext (.ref it) >>= _) _ _ s
  refine wpAny_bind (wpAny_pyNext_list_item hit hl (x:= .ref ps[i].1) (by simp [pz]) fun h1 hit1 YR=>?_)
  have YS:∀p∈ps,h1.IsTuple p.1 #[p.2.2.1,p.2.2.2]:=fun p hp=>by
   obtain⟨o,q,r⟩:=ht p hp
   exact⟨o,(YR.2 _ (J8 p hp).2.1).trans q,r⟩
  obtain⟨o,ho,hc,m,hdat⟩:=YS _ (List.getElem_mem pz)
  have EN:h1.DictOf knd d kvs:=hd.sameBut YR nW
  have zu:h1.IsList l (ps.map fun p=>Value.ref p.1).toArray:=hl.extBut YR.extBut (Ne.symm zt)
  show wpAny _ A.in1 (holding [Value.ref ps[i].1] _ >>= _) _ _ _
  refine wpAny_bind (wpAny_holding (wpAny_bind ?_))
  refine wpAny_tryCatch ?_
  unfold Builtin.Dict.pairItems
  refine wpAny_bind (wpAny_typeOf (T:="tuple") ⟨o,ho,hc⟩ ?_)
  rw[if_pos (by decide)]
  refine wpAny_bind (wpAny_seqItems ho hdat (wpAny_pure ?_))
  show wpAny _ A.in1 (holding [ps[i].2.2.1,ps[i].2.2.2] (dictSet d ps[i].2.2.1 ps[i].2.2.2)) _ _ _
  refine wpAny_holding (wpAny_dictSet_pairs hk EN (fun h2 hd2 YT=>?_) (by omega))
  have hc1:((i:Int)+1)=((i+1 :Nat):Int):=by push_cast;rfl
  have up:∀b o,b≠d→b≠it→s.heap.get? b=some o→h2.get? b=some o:=fun b o q1 q2 q=>(YT.2 b q1).trans ((YR.2 b q2).trans q)
  refine wpAny_pure ⟨plainId_quiet F.gJ _,?_⟩
  show codeAny _ _ (.builtin "dict.update.loop" ⟨[.ref d, .ref it,rawInt ((i:Int)+1),res],[]⟩) _ _
  rw[hc1]
  refine ih (i+1) _ _ (by omega) pz ?_ ?_ ?_ hd2 ?_ ?_
  ·obtain⟨oi,q,r⟩:=hit1
   exact⟨oi,(YT.2 _ (Ne.symm nW)).trans q,r⟩
  ·exact zu.extBut YT.extBut (Ne.symm hdl)
  ·intro p hp
   obtain⟨o',q,r⟩:=YS p hp
   exact⟨o',(YT.2 _ (J8 p hp).1).trans q,r⟩
  ·have:=stored_length_le kvs ps[i].2.1 ps[i].2.2.2
   omega
  ·intro h' tk eQ keep
   refine hR h' tk ?_ fun b o q1 q2 q=>keep b o q1 q2 (up b o q1 q2 q)
   rw[Oh]
   exact eQ
end
end PySem
namespace PySem
section
variable {prog:Program}{w:World}{K:Type}[DecidableEq K]{knd:KeyKind prog w K}{A:Around}{E:Value→Shared→Prop}{s:Shared}
theorem lQ{l:Addr}{n:Nat}{sl:Array (Option Value)}{ps:List (Addr×K×Value×Value)}{Q:Value→Shared→Prop}(hh:A.handled=none)
  (hl:s.heap.get? l=some { cls:= .type "list",dict:=none,data:= .seq (ps.map fun p=>Value.ref p.1).toArray n,slots:=sl })
  (ht:∀p∈ps,s.heap.IsTuple p.1 #[p.2.2.1,p.2.2.2]∧knd.is p.2.1 p.2.2.1=true) (hsz:ps.length≤sizeLine)
  (h:∀h' tk,h'.DictOf knd s.heap.objs.size (ps.foldl (fun acc p=>stored acc p.2.1 p.2.2.2) [])→(∀b o,s.heap.get? b=some o→h'.get? b=some o)→Q (.ref s.heap.objs.size) { s with heap:=h',toks:=tk }):
  wpAny (model prog w) A (call (.type "dict") [.ref l]) Q E s:=by
 refine callType_codes (Q₁:=fun obj s₁=>obj= .ref s.heap.objs.size∧s₁={ s with heap:=s.heap.push { cls:= .type "dict",data:= .dict #[] } }) F.kt_called_dict (F.kt_typeCall_dict_1 _) F.entry_dict_init (kt_code_dict_new _ ⟨rfl,rfl⟩) ?_
 rintro obj s₁ ⟨rfl,rfl⟩
 have jj:(s.heap.push { cls:= .type "dict",data:= .dict #[] }).DictOf knd s.heap.objs.size []:=Heap.DictOf.new s.heap
 have up:∀b o,s.heap.get? b=some o→(s.heap.push { cls:= .type "dict",data:= .dict #[] }).get? b=some o:=fun b o q=>Heap.get?_push_of_some _ q
 have zu:=up _ _ hl
 refine⟨jj.typeIs,F.args_dict_init_2 _ _,?_⟩
 unfold Builtin.«dict.__init__»
 refine wpAny_bind ?_
 unfold Builtin.Dict.selfAndRest
 refine wpAny_bind (wpAny_notOrdered_dict jj.typeIs ?_)
 show wpAny _ _ (pure (s.heap.objs.size,[Value.ref l])) _ _ _
 refine wpAny_pure ?_
 show wpAny _ _ (Builtin.Dict.updateFrom "dict.__init__" s.heap.objs.size (.ref l) [] .none) _ _ _
 unfold Builtin.Dict.updateFrom
 refine wpAny_bind (wpAny_typeOf (T:="list") ⟨_,zu,rfl⟩ ?_)
 rw[if_pos (by decide)]
 refine wpAny_bind (zU zu hh fun h2 tk2 k2=>?_)
 rw[if_pos (show (none:Option Value).isNone=true from rfl)]
 refine wpAny_bind (wpAny_rule ?_)
 have qx:=k2 _ _ zu
 have isl:h2.IsList l (ps.map fun p=>Value.ref p.1).toArray:=⟨_,qx,rfl,n,rfl⟩
 have hlo:l<s.heap.objs.size:=Heap.lt_size hl
 have sz:s.heap.objs.size+1≤h2.objs.size:=by
  obtain⟨o,es,ep,q,r⟩:=id jj
  exact Heap.lt_size (k2 _ _ q)
 refine wpAny_bind (wpAny_pyIter_list isl ?_)
 refine wpAny_pure ⟨plainId_quiet F.gJ _,?_⟩
 have Mp:∀b o,s.heap.get? b=some o→(h2.push { cls:= .type "list_iterator",data:= .fields #[.ref l, .int 0 0] }).get? b=some o:=fun b o q=>Heap.get?_push_of_some _ (k2 _ _ (up b o q))
 refine Og (A:=A.in1) (knd:=knd) (l:=l) (ps:=ps) hh (Nat.ne_of_gt hlo) (Nat.ne_of_lt sz) (Nat.ne_of_gt (Nat.lt_of_lt_of_le hlo (Nat.le_of_lt sz))) (fun p hp=>?_) ps.length 0 _ [] (by omega) (Nat.zero_le _) ?_ ?_ ?_ ?_ ?_ ?_
 ·obtain⟨⟨o,q,_⟩,hk⟩:=ht p hp
  have:=Heap.lt_size q
  exact⟨Nat.ne_of_lt this,Nat.ne_of_lt (Nat.lt_trans this sz),hk⟩
 ·exact⟨_,Heap.get?_push_size _ rfl,rfl,rfl⟩
 ·exact⟨_,Heap.get?_push_of_some _ qx,rfl,n,rfl⟩
 ·intro p hp
  obtain⟨⟨o,q,r⟩,hk⟩:=ht p hp
  exact⟨o,Mp _ _ q,r⟩
 ·obtain⟨o,es,ep,q,r⟩:=jj
  exact⟨o,es,ep,Heap.get?_push_of_some _ (k2 _ _ q),r⟩
 ·simpa using hsz
 ·intro h' tk eQ keep
  refine⟨rfl,h h' tk eQ fun b o q=>?_⟩
  have:=Heap.lt_size q
  exact keep b o (Nat.ne_of_lt this) (Nat.ne_of_lt (Nat.lt_trans this sz)) (Mp b o q)
end
end PySem
namespace L2
open PySem PySem.Spec PyProof.Rows
theorem tL:∀{as:List Addr} {us:List Value},Vals (as.map V.ref) us→us=as.map Value.ref
 | [],_, .nil=>rfl
 |a::r,_, .cons h t=>by
  rw[tL t]
  exact congrArg (·::r.map Value.ref) (show _=Value.ref a from h)
theorem pairs_of{P:Program}{w:World}{H:Hp}{h:Heap}(ok:jR P w H h):∀{ps:List (Addr×Key×V)},(∀p∈ps,H p.1=some (.tup [kV p.2.1,p.2.2]))→
  ∃qs:List (Addr×Key×Value×Value),Paired (fun (p:Addr×Key×V) (q:Addr×Key×Value×Value)=>p.1=q.1∧p.2.1=q.2.1∧RelV p.2.2 q.2.2.2) ps qs∧∀q∈qs,h.IsTuple q.1 #[q.2.2.1,q.2.2.2]∧(bD P w).is q.2.1 q.2.2.1=true
 | [],_=>⟨[], .nil,fun q hq=>by cases hq⟩
 | (a,k,v)::r,hp=>by
   obtain⟨qs,pr,hq⟩:=pairs_of ok (ps:=r) fun p sx=>hp p (List.mem_cons_of_mem _ sx)
   obtain⟨_,its,vs,tu⟩:=(show cn P w H h a (.tup [kV k,v]) from ok a _ (hp (a,k,v) (List.mem_cons_self ..)))
   obtain⟨u1,u2,rfl,r1,r2⟩:=vals2 vs
   refine⟨(a,k,u1,u2)::qs, .cons ⟨rfl,rfl,r2⟩ pr,fun q tj=>?_⟩
   rcases List.mem_cons.mp tj with rfl|z
   ·exact⟨tu,tG r1⟩
   ·exact hq q z
theorem qA:∀{ps:List (Addr×Key×V)} {qs:List (Addr×Key×Value×Value)},Paired (fun (p:Addr×Key×V) (q:Addr×Key×Value×Value)=>p.1=q.1∧p.2.1=q.2.1∧RelV p.2.2 q.2.2.2) ps qs→(ps.map fun p=>Value.ref p.1)=qs.map fun q=>Value.ref q.1
 |_,_, .nil=>rfl
 |_,_, .cons h t=>by
  rw[List.map_cons,List.map_cons,qA t,h.1]
theorem qB:∀{ps:List (Addr×Key×V)} {qs:List (Addr×Key×Value×Value)} {kvs:List (Key×V)} {vs:List (Key×Value)},Paired (fun (p:Addr×Key×V) (q:Addr×Key×Value×Value)=>p.1=q.1∧p.2.1=q.2.1∧RelV p.2.2 q.2.2.2) ps qs→KV kvs vs→
  KV (cq kvs (ps.map (·.2))) (qs.foldl (fun acc q=>stored acc q.2.1 q.2.2.2) vs)
 |_,_,_,_, .nil,h=>h
 |_,_,kvs,vs, .cons (b:=q) (a:=p) h t,r=>by
  obtain⟨h1,h2,h3⟩:=h
  have u:KV (putK kvs p.2.1 p.2.2) (stored vs q.2.1 q.2.2.2):=by
   rw[←h2]
   exact r.put p.2.1 h3
  have z:=qB t u
  exact z
theorem lR{X:Cx}(hc:X.calm=true):gC X (.type "dict") (fun xs H Q=>∃l,∃ps:List (Addr×Key×V),xs=[.ref l]∧H l=some (.lst (ps.map fun p=> .ref p.1))∧(∀p∈ps,H p.1=some (.tup [kV p.2.1,p.2.2]))∧
  ∀q,H q=none→Q (.ref q) (upd H q (.dK (cq [] (ps.map (·.2)))))):=by
 intro pins s σ H xs us Q I r h
 obtain⟨l,ps,rfl,hl,hp,q⟩:=h
 obtain⟨u,rfl,ru⟩:=vals1 r
 cases ru
 obtain⟨z,its,n,vs,_,e⟩:=I.zQ hl
 obtain⟨qs,pr,hq⟩:=pairs_of I.aV hp
 have e1:its=qs.map fun q=>Value.ref q.1:=by
  rw[←qA pr]
  have:=tL (as:=ps.map (·.1)) (us:=its) (by rw[List.map_map];exact vs)
  rw[this,List.map_map];rfl
 subst e1
 have zl:qs.length≤sizeLine:=by
  rw[←pr.length]
  rwa [List.length_map] at z
 refine lQ (ps:=qs) (I.ok.hd hc) e hq zl fun h' tk dd keep=>?_
 have kv:=qB (kvs:=[]) (vs:=[]) pr .nil
 have zz:(cq [] (ps.map (·.2))).length≤sizeLine:=by
  have:=eh (ps.map (·.2)) []
  rw[List.length_map] at this
  have:=pr.length
  simp only [List.length_nil] at*
  omega
 exact⟨.ref s.heap.objs.size,_,I.laid (a:=s.heap.objs.size) (o:= .dK (cq [] (ps.map (·.2)))) (t':=tk) keep (Nat.le_refl _) (qu zz (beq_eq_false_iff_ne.mpr (Ne.symm (Nat.ne_of_lt I.big))) kv dd),rfl,q _ (I.aV.fresh (Nat.le_refl _))⟩
end L2
namespace L2
open PySem PySem.Spec PyProof.Rows
structure x6(K:PySem.W.Frag)(x qual:Str)(st:Stmt)(f:Addr)(fd:FuncData)(dV:Value):Prop where
 ex:∃(oc:Value) (od:Option Addr) (kV doc pm:Value) (an:Option Addr) (bp ct:Value) (sv:Array (Option Value)),
  fd=PySem.W.fnOf x qual (bx st) (aR st) (aj st) dV kV doc pm an bp ct∧K.lookup f=some ⟨oc,od, .func fd,sv⟩∧PySem.W.codeIn K bp qual=true
 kp:PySem.W.keepIn K (.ref f)=true
section
variable {P:Program}{w:World}{K:PySem.W.Frag}{mg:Str→Option Value}{base:Heap}
theorem x6.ok{x qual:Str}{st:Stmt}{f:Addr}{fd:FuncData}{dV:Value}{N ps:List Str}{k:Nat}{sp:Sp}(F:x6 K x qual st f fd dV)(S:ay N ps (aj st))(len:∀vs H Q E,sp vs H Q E→vs.length=ps.length)
  (dv:∀(bp:Value) (A:Around) (outer:List Env) (s:Shared) (H:Hp) (vs:List V) (Q:VK) (E:XK),cT k (A.deeper (envOfC qual (aj st) s.heap.objs.size f bp))→sp vs H Q E→
   ∃t,lK (jg qy P w K mg base N qual (aj st) f bp A outer s H E).E7 (aR st) t∧t { nx:=fun _ H'=>Q .cS H',rt:=Q } (start N vs) H):fj P w K mg base qy (k+1) f fd ps sp:=by
 obtain⟨oc,od,kV,doc,pm,an,bp,ct,sv,rfl,lk,qj⟩:=F.ex
 refine fn_of lk qj S len fun A outer s H vs Q E hr Bg=>?_
 obtain⟨t,h,q⟩:=dv bp A outer s H vs Q E hr Bg
 exact⟨t,h.E7,q⟩
theorem kK{x qual:Str}{st:Stmt}{f:Addr}{oc dV:Value}{od an:Option Addr}{sv:Array (Option Value)}{kV doc pm bp ct:Value}(l:K.lookup f=some ⟨oc,od, .func (PySem.W.fnOf x qual (bx st) (aR st) (aj st) dV kV doc pm an bp ct),sv⟩)
  (c:PySem.W.codeIn K bp qual=true) (k:PySem.W.keepIn K (.ref f)=true):x6 K x qual st f (PySem.W.fnOf x qual (bx st) (aR st) (aj st) dV kV doc pm an bp ct) dV:=⟨⟨oc,od,kV,doc,pm,an,bp,ct,sv,rfl,l,c⟩,k⟩
def Def(K:PySem.W.Frag)(mg:Str→Option Value)(x q:Str)(st:Stmt)(ps:List Str):Prop:=∃f fd,EM K x q st f fd∧Binds K fd ps []∧mg x=some (.ref f)
structure Cal(P:Program)(w:World)(K:PySem.W.Frag)(mg:Str→Option Value)(base:Heap)(k:Nat)(x:Str)(ps:List Str)(sp:Sp)(f:Addr)(fd:FuncData):Prop where
 ok:fj P w K mg base qy k f fd ps sp
 kp:PySem.W.keepIn K (.ref f)=true
 b:Binds K fd ps []
 g:mg x=some (.ref f)
def bj(P:Program)(w:World)(K:PySem.W.Frag)(mg:Str→Option Value)(base:Heap)(k:Nat)(x:Str)(ps:List Str)(sp:Sp):Prop:=∃f fd,Cal P w K mg base k x ps sp f fd
theorem Def.dh{x q:Str}{st:Stmt}{N ps:List Str}{k:Nat}{sp:Sp}(D:Def K mg x q st ps)(S:ay N ps (aj st))(len:∀vs H Q E,sp vs H Q E→vs.length=ps.length)
  (dv:∀(f:Addr) (bp:Value) (A:Around) (outer:List Env) (s:Shared) (H:Hp) (vs:List V) (Q:VK) (E:XK),cT k (A.deeper (envOfC q (aj st) s.heap.objs.size f bp))→sp vs H Q E→
   ∃t,lK (jg qy P w K mg base N q (aj st) f bp A outer s H E).E7 (aR st) t∧t { nx:=fun _ H'=>Q .cS H',rt:=Q } (start N vs) H):bj P w K mg base (k+1) x ps sp:=by
 obtain⟨f,fd,F,b,g⟩:=D
 exact⟨f,fd,F.ok S len (dv f),F.kp,b,g⟩
def bg(K:PySem.W.Frag)(C:Addr)(m q:Str)(st:Stmt)(ps:List Str):Prop:=∃f fd,EM K m q st f fd∧Binds K fd ps []∧Meth K C m f
structure CalM(P:Program)(w:World)(K:PySem.W.Frag)(mg:Str→Option Value)(base:Heap)(k:Nat)(C:Addr)(m:Str)(ps:List Str)(sp:Sp)(f:Addr)(fd:FuncData):Prop where
 ok:fj P w K mg base qy k f fd ps sp
 m:Meth K C m f
 b:Binds K fd ps []
def aK(P:Program)(w:World)(K:PySem.W.Frag)(mg:Str→Option Value)(base:Heap)(k:Nat)(C:Addr)(m:Str)(ps:List Str)(sp:Sp):Prop:=∃f fd,CalM P w K mg base k C m ps sp f fd
theorem bg.dh{C:Addr}{m q:Str}{st:Stmt}{N ps:List Str}{k:Nat}{sp:Sp}(D:bg K C m q st ps)(S:ay N ps (aj st))(len:∀vs H Q E,sp vs H Q E→vs.length=ps.length)
  (dv:∀(f:Addr) (bp:Value) (A:Around) (outer:List Env) (s:Shared) (H:Hp) (vs:List V) (Q:VK) (E:XK),cT k (A.deeper (envOfC q (aj st) s.heap.objs.size f bp))→sp vs H Q E→
   ∃t,lK (jg qy P w K mg base N q (aj st) f bp A outer s H E).E7 (aR st) t∧t { nx:=fun _ H'=>Q .cS H',rt:=Q } (start N vs) H):aK P w K mg base (k+1) C m ps sp:=by
 obtain⟨f,fd,F,b,g⟩:=D
 exact⟨f,fd,F.ok S len (dv f),g,b⟩
def lz(K:PySem.W.Frag)(C:Addr)(q:Str)(st:Stmt)(ps:List Str)(ds:List Int):Prop:=∃f fd dV,x6 K "__init__" q st f fd dV∧Mk K C f∧∀j,j≤ds.length→∃us,Vals ((ds.drop j).map V.int) us∧Binds K fd ps us
structure CalI(P:Program)(w:World)(K:PySem.W.Frag)(mg:Str→Option Value)(base:Heap)(k:Nat)(C:Addr)(ps:List Str)(ds:List Int)(sp:Sp)(f:Addr)(fd:FuncData):Prop where
 ok:fj P w K mg base qy k f fd ps sp
 m:Mk K C f
 b:∀j,j≤ds.length→∃us,Vals ((ds.drop j).map V.int) us∧Binds K fd ps us
def gE(P:Program)(w:World)(K:PySem.W.Frag)(mg:Str→Option Value)(base:Heap)(k:Nat)(C:Addr)(ps:List Str)(ds:List Int)(sp:Sp):Prop:=∃f fd,CalI P w K mg base k C ps ds sp f fd
theorem lz.dh{C:Addr}{q:Str}{st:Stmt}{N ps:List Str}{ds:List Int}{k:Nat}{sp:Sp}(D:lz K C q st ps ds)(S:ay N ps (aj st))(len:∀vs H Q E,sp vs H Q E→vs.length=ps.length)
  (dv:∀(f:Addr) (bp:Value) (A:Around) (outer:List Env) (s:Shared) (H:Hp) (vs:List V) (Q:VK) (E:XK),cT k (A.deeper (envOfC q (aj st) s.heap.objs.size f bp))→sp vs H Q E→
   ∃t,lK (jg qy P w K mg base N q (aj st) f bp A outer s H E).E7 (aR st) t∧t { nx:=fun _ H'=>Q .cS H',rt:=Q } (start N vs) H):gE P w K mg base (k+1) C ps ds sp:=by
 obtain⟨f,fd,dV,F,g,b⟩:=D
 exact⟨f,fd,F.ok S len (dv f),g,b⟩
end
theorem au.new{H:Hp}{p:Addr}{o:HO}(h:H p=none):au H (upd H p o):=fun b q e=>by
 rw[ah (ag e h)];exact e
end L2
namespace L2
open PySem
theorem g7:bootBuiltins "len" =some (.builtin "len"):=PySem.boot_len
theorem iO:bootBuiltins "isinstance" =some (.builtin "isinstance"):=by decide+kernel
theorem qC:bootBuiltins "int" =some (.type "int"):=by decide+kernel
theorem zV:bootBuiltins "str" =some (.type "str"):=by decide+kernel
theorem J9:bootBuiltins "bool" =some (.type "bool"):=by decide+kernel
theorem jk:bootBuiltins "list" =some (.type "list"):=by decide+kernel
theorem jl:bootBuiltins "dict" =some (.type "dict"):=by decide+kernel
theorem vA{c A B:Prop}[Decidable c](hc:c)(h:A):if decide c=true then A else B:=by
 rw[if_pos (decide_eq_true hc)];exact h
theorem qD{c A B:Prop}[Decidable c](hc:¬c)(h:B):if decide c=true then A else B:=by
 rw[if_neg (by rw[decide_eq_false hc];decide)];exact h
theorem vB{α:Type}{xs:List α}{i:Int}(h0:0≤i)(h1:i<xs.length):∃v,v∈xs∧zO xs i=some v:=by
 have hl:i.toNat<xs.length:=by omega
 refine⟨xs[i.toNat],List.getElem_mem hl,?_⟩
 have:=mj (List.getElem?_eq_getElem hl)
 rwa [Int.toNat_of_nonneg h0] at this
theorem bA(x y:Str):(x++y).length=x.length+y.length:=by
 show (x.cps++y.cps).size=_
 rw[Array.size_append];rfl
theorem tM{n:Int}(h1:0≤n)(h2:n<2^64):n.natAbs.log2<1920:=by
 by_cases h:n.natAbs=0
 ·rw[h];decide
 ·have:=(Nat.log2_lt h (k:=64)).mpr (by omega)
  omega
end L2
namespace L2
open PySem PySem.Spec PyProof.Rows
inductive tN:List Expr→List V→Prop where
 |nil:tN [] []
 |int {i:Int} {j} {pos:Pos} {es:List Expr} {vs:List V} (t:tN es vs):tN (.Constant (.int i) j pos::es) (.int i::vs)
 |str {x:Str} {j} {pos:Pos} {es:List Expr} {vs:List V} (t:tN es vs):tN (.Constant (.str x) j pos::es) (.str x::vs)
def Su(vs:List V):TA:=fun _ H Q=>Q vs H
theorem Ka{X:Cx}{es:List Expr}{vs:List V}(h:tN es vs):PA X es (Su vs):=by
 induction h with
 |nil=>exact ak
 |int t ih=>exact fun pos pins s σ H Q I q=>af aq ih rfl pos pins s σ H Q I q
 |str t ih=>exact fun pos pins s σ H Q I q=>af bH ih rfl pos pins s σ H Q I q
section
variable {K:PySem.W.Frag}
theorem gi{T:String}:PySem.W.kitOne K (.type T) (.type T)=some true:=by
 unfold PySem.W.kitOne
 rw[if_pos (by simp)]
theorem Oi{T U:String}{b:Bool}(h1:(Value.type T==Value.type U)=false)(h2:PySem.W.kitMeta U=true)(h3:(fastBuiltinMro T).map (·.contains (Value.type U))=some b):PySem.W.kitOne K (.type T) (.type U)=some b:=by
 unfold PySem.W.kitOne
 rw[if_neg (by rw[h1];decide)]
 unfold PySem.W.kitCls
 dsimp only
 rw[if_pos h2]
 exact h3
theorem mr:PySem.W.kitOne K (.type "int") (.type "bool")=some false:=Oi (by decide+kernel) (by decide+kernel) (by decide+kernel)
end
end L2
namespace L2
open PySem PySem.Spec PyProof.Rows
section
variable {X:Cx}{elt tg iter:Expr}{ifs:List Expr}{scope:Scope}{pos Oj py:Pos}{N:List Str}{fr:List (Option Nat)}{wi:TI}{g:TG}{tt:TT}{te:TE}
theorem mv{i:Nat}{y:Str}{sc:Scope}{NX:List Str}(hN:X.N.Nodup)(hi':X.N[i]? =some y)(hy:Loc X.env.scope y)(S:J4 sc scope NX N fr)(e1:X.env.scope=sc)(e2:X.N=NX)(hc:X.calm=true)(hi:PI X tg iter wi)
  (hg:∀pins fp s H,PG (tK X pins N scope (x2 scope X.env) fp s H) tg g) (ht:∀pins fp s H,Od (tK X pins N scope (x2 scope X.env) fp s H) ifs tt) (he:∀pins fp s H,PE (tK X pins N scope (x2 scope X.env) fp s H) elt te)
  (hsw:swapsWith (.ListComp elt [⟨tg,iter,ifs,0⟩] scope pos) (some (.Name y py)) Oj.line X.env=pure true:=by rfl) (hs:∀x,foldedSetIterable iter X.env x=pure x:=by intro _;rfl)
  (hf:X.fn y=true∨X.env.scope.names.lookup y=some .local:=by first|exact .inl rfl|exact .inr rfl|assumption):
  PS X (.Assign [.Name y py] (.ListComp elt [⟨tg,iter,ifs,0⟩] scope pos) Oj) (JL (Mo wi fr g tt te) (cN i)):=by
 intro pins s σ H D I h
 have B:=S.x4 e1 e2 I.ok
 rw[exec_Assign_Name_used _ _ _ _ hsw]
 refine wpAny_bind (wpAny_standAt (wpAny_bind ?_))
 show wpAny _ X.A (do let _←comprehension (.ListComp elt [⟨tg,iter,ifs,0⟩] scope pos) scope X.env _ (newList []) false (eval iter X.env) (some (assign (.Name y py) X.env))) _ _ s
 refine wpAny_bind (wpAny_mono (wpAny_comprehension_free (use:=some (assign (.Name y py) X.env)) (Q:=fun _ s'=>SP X pins D .next s') rfl hs B.Sq B.kind B.names (bV (hi pins s σ H _ I h) fun v s1 h1=>bV h1 fun YM s2 h2=>?_)) (fun _ s' hq=>wpAny_pure (wpAny_pure hq)) fun _ _ e=>e)
 obtain⟨it,fp,tn,J,H2,e,I2,T,JM,f2,q⟩:=h2
 subst e
 refine x5 (Q:=fun v H'=>cN i v σ H' D.nx) (RR:=fun acc C=>compPost (model X.prog X.w) X.A X.xe (some (assign (.Name y py) X.env)) (fun _ s'=>SP X pins D .next s') acc C) B hc hg ht he I2 T JM f2 q ?_
 intro D' C s' H' J' fC ⟨m,hm⟩ qn
 obtain⟨f0,f1,_,f3,f4,f5⟩:=fC
 show wpAny _ X.A (assign (.Name y py) X.env (.ref D')) _ _ _
 refine wpAny_assign_Name (sX J' hN hi' hy (v:= .ref D') rfl (fun R5 J'' ⟨a,sb,ha⟩=>?_) hf)
 have hCa:C≠a:=by
  rcases ha with z|z
  ·rw[z];exact f1
  ·exact fun w'=>f4 _ _ z w'.symm
 refine⟨m,hm.sameBut sb hCa,fun h' Fy=>⟨_,H',?_,qn⟩⟩
 exact J''.turned (t':=R5.toks) (fun b o hb e=>(Fy.2 b hb).trans e) f0 f1 f3 f4 f5
end
theorem tO{K:PySem.W.Frag}{a D:Addr}{xs:List V}{g:TG}{tt:TT}{te:TE}{Q:Hp→Prop}{σ:St}{H:Hp}(Pv:Nat→St→Hp→Prop)(h0:Pv 0 σ H)(hl:∀i σ H,i≤xs.length→Pv i σ H→bJ K H a xs)
  (hs:∀i x σ H,xs[i]? =some x→Pv i σ H→∀N:St→Hp→Prop,(∀σ' H',Pv (i+1) σ' H'→N σ' H')→g x σ H fun σ3 H3=>tt σ3 H3 fun b H4=>if b=true then te σ3 H4 fun y H5=>∃ys,H5 D=some (.lst ys)∧ys.length<sizeLine∧N σ3 (upd H5 D (.lst (ys++[y]))) else N σ3 H4)
  (hd:∀σ H,Pv xs.length σ H→Q H):
  ∃W:Nat→Nat→St→Hp→Prop,(∃m,W 0 m σ H)∧∀i m σ H,W i m σ H→((Ba K a).stop i H∧Q H)∨((Ba K a).go i H∧∀x H2,(Ba K a).px i H x H2→g x σ H2 fun σ3 H3=>tt σ3 H3 fun b H4=>if b=true
   then te σ3 H4 fun y H5=>∃ys,H5 D=some (.lst ys)∧ys.length<sizeLine∧∃m',m'<m∧W (i+1) m' σ3 (upd H5 D (.lst (ys++[y])))
   else∃m',m'<m∧W (i+1) m' σ3 H4):=by
 refine⟨fun i m σ H=>m+i=xs.length∧Pv i σ H,⟨xs.length,rfl,h0⟩,?_⟩
 rintro i m σ H ⟨hm,hp⟩
 have sq:=hl i σ H (by omega) hp
 by_cases hi:i<xs.length
 ·refine .inr ⟨⟨xs,xs[i],sq,List.getElem?_eq_getElem hi⟩,?_⟩
  rintro x H2 ⟨rfl,hx⟩
  exact hs i x σ H2 (hx xs sq) hp _ fun σ' H' q=>⟨m - 1,by omega,by omega,q⟩
 ·have e:i=xs.length:=by omega
  subst e
  exact .inl ⟨⟨xs,sq,Nat.le_refl _⟩,hd σ H hp⟩
theorem mw{X:Cx}{es:List Expr}{k:Nat}{pos:Pos}{t:Mg}(K:PySem.W.Frag)(n:Nat)(hK:X.K=K)(hc:X.calm=true)(h:Q4 X es t)(hn:(assignEach es X.env).length=n:=by rfl)(iV:(assignEach es X.env).findIdx? (·.1)=none:=by rfl):PG X (.Tuple es k pos) (RM K n t):=by
 subst hK
 exact fi hc h hn iV
theorem kL{a D:Addr}{o:Obj}{kvs:List (Key×V)}{g:TG}{tt:TT}{te:TE}{Q:Hp→Prop}{σ:St}{H:Hp}(Pv:Nat→St→Hp→Prop)(h0:Pv 0 σ H)(hl:∀i σ H,Pv i σ H→H a=some (.d8 o (.dK kvs)))
  (hs:∀i k v σ H,kvs[i]? =some (k,v)→Pv i σ H→∀N:St→Hp→Prop,(∀σ' H',Pv (i+1) σ' H'→N σ' H')→g (kV k) σ H fun σ3 H3=>tt σ3 H3 fun b H4=>if b=true then te σ3 H4 fun y H5=>∃ys,H5 D=some (.lst ys)∧ys.length<sizeLine∧N σ3 (upd H5 D (.lst (ys++[y]))) else N σ3 H4)
  (hd:∀σ H,Pv kvs.length σ H→Q H):
  ∃W:Nat→Nat→St→Hp→Prop,(∃m,W 0 m σ H)∧∀i m σ H,W i m σ H→((Mn a o kvs).stop i H∧Q H)∨((Mn a o kvs).go i H∧∀x H2,(Mn a o kvs).px i H x H2→g x σ H2 fun σ3 H3=>tt σ3 H3 fun b H4=>if b=true
   then te σ3 H4 fun y H5=>∃ys,H5 D=some (.lst ys)∧ys.length<sizeLine∧∃m',m'<m∧W (i+1) m' σ3 (upd H5 D (.lst (ys++[y])))
   else∃m',m'<m∧W (i+1) m' σ3 H4):=by
 refine⟨fun i m σ H=>m+i=kvs.length∧Pv i σ H,⟨kvs.length,rfl,h0⟩,?_⟩
 rintro i m σ H ⟨hm,hp⟩
 have hz:=hl i σ H hp
 by_cases hi:i<kvs.length
 ·refine .inr ⟨⟨hz,hi⟩,?_⟩
  rintro x H2 ⟨rfl,k,v,tJ,rfl⟩
  exact hs i k v σ H2 tJ hp _ fun σ' H' q=>⟨m - 1,by omega,by omega,q⟩
 ·have e:i=kvs.length:=by omega
  subst e
  exact .inl ⟨⟨hz,Nat.le_refl _⟩,hd σ H hp⟩
end L2
namespace L2
open PySem PySem.Spec PyProof.Rows
section
variable {X:Cx}
def tOr2(t u:TE):TE:=fun σ H Q=>t σ H Q∨u σ H Q
theorem Fz{e:Expr}{t u:TE}(h:PE X e t)(h':PE X e u):PE X e (tOr2 t u):=fun pins s σ H Q I q=>
 q.elim (fun z=>h pins s σ H Q I z) fun z=>h' pins s σ H Q I z
theorem qF:∀{xs:List Str} {us:List Value},Vals (xs.map V.str) us→StrsAre us xs
 | [],_, .nil=> .nil
 |x::r,_, .cons h t=>by
  obtain⟨tk,e⟩:=(show∃t,_=Value.str x t from h)
  subst e
  exact .cons x tk (qF t)
def rJoin(K:PySem.W.Frag):V→List V→Hp→VK→Prop:=fun x vs H Q=>∃z l,∃ys:List Str,x= .str z∧vs=[.ref l]∧bJ K H l (ys.map V.str)∧(ys.map (·.length)).sum+ys.length*z.length≤16777216∧Q (.str (Txt.join z ys)) H
theorem pL:Z9 X "str.join" (rJoin X.K):=by
 intro pins s σ H x vs v us Q I rx rv h
 obtain⟨z,l,ys,rfl,rfl,hS,hz,q⟩:=h
 obtain⟨t,e⟩:=(show∃t,v=Value.str z t from rx)
 subst e
 obtain⟨u,rfl,ru⟩:=rv.one
 cases ru
 obtain⟨its,r,p,_⟩:=I.list hS
 exact join_list p.isList (by simpa using qF r) hz fun t' k=>⟨.str (Txt.join z ys),H,I.tok k,⟨t',rfl⟩,q⟩
mutual
inductive Ju(K:PySem.W.Frag)(H:Hp):V→PyData→Prop where
 |cS:Ju K H .cS .none
 |bl (b:Bool):Ju K H (.bl b) (.bool b)
 |int (i:Int):Ju K H (.int i) (.int i)
 |str (x:Str):Ju K H (.str x) (.str x)
 |lst {a:Addr} {xs:List V} {ds:List PyData} (h:bJ K H a xs) (t:zW K H xs ds):Ju K H (.ref a) (.list ds)
 |tup {a:Addr} {xs:List V} {ds:List PyData} (h:ir K H a xs) (t:zW K H xs ds):Ju K H (.ref a) (.tuple ds)
inductive zW(K:PySem.W.Frag)(H:Hp):List V→List PyData→Prop where
 |nil:zW K H [] []
 |cons {x:V} {d:PyData} {xs:List V} {ds:List PyData} (h:Ju K H x d) (t:zW K H xs ds):zW K H (x::xs) (d::ds)
end
mutual
theorem qG{pins:List (Addr×Obj)}{σ:St}{H:Hp}{s:Shared}(I:Inv X pins σ H s){x:V}{d:PyData}(h:Ju X.K H x d){u:Value}(r:RelV x u):∃as,Reads s.heap u d as:=by
 cases h with
 |cS=>cases (show u=Value.none from r);exact⟨_, .none⟩
 |bl b=>cases (show u=Value.bool b from r);exact⟨_, .bool b⟩
 |int i=>obtain⟨t,rfl⟩:=(show∃t,u=Value.int i t from r);exact⟨_, .int i t⟩
 |str y=>obtain⟨t,rfl⟩:=(show∃t,u=Value.str y t from r);exact⟨_, .str y t⟩
 | @lst a xs ds hS t=>
   cases (show u=Value.ref a from r)
   obtain⟨its,rv,p,_⟩:=I.list hS
   obtain⟨o,ho,hc,n,hd⟩:=p.isList
   obtain⟨as,ra⟩:=j4 I t rv
   exact⟨_, .list ho hc hd (by simpa using ra)⟩
 | @tup a xs ds hS t=>
   cases (show u=Value.ref a from r)
   obtain⟨its,rv,p,_⟩:=I.tuple hS
   obtain⟨o,ho,hc,n,hd⟩:=p
   obtain⟨as,ra⟩:=j4 I t rv
   exact⟨_, .tuple ho hc hd (by simpa using ra)⟩
theorem j4{pins:List (Addr×Obj)}{σ:St}{H:Hp}{s:Shared}(I:Inv X pins σ H s){xs:List V}{ds:List PyData}(h:zW X.K H xs ds){us:List Value}(r:Vals xs us):∃as,ReadsAll s.heap us ds as:=by
 cases h with
 |nil=>cases r;exact⟨_, .nil⟩
 |cons h t=>
  cases r with
  |cons r1 r2=>
   obtain⟨as,ra⟩:=qG I h r1
   obtain⟨bs,rb⟩:=j4 I t r2
   exact⟨_, .cons ra rb⟩
end
def rEqR(neg:Bool)(K:PySem.W.Frag):R2:=fun x y H Q=>∃d e,Ju K H x d∧Ju K H y e∧SeqAt.shaped d=true∧SeqAt.shaped e=true∧Q (.bl (neg^^PyData.eqv d e)) H
theorem Ol(hu:X.A.units+64<cLine):pA X (compareOp .NotEq) (rEqR true X.K):=by
 intro pins s σ H x y v u Q I rx ry h
 obtain⟨d,e,hd,he,sd,se,q⟩:=h
 obtain⟨as,ra⟩:=qG I hd rx
 obtain⟨bs,rb⟩:=qG I he ry
 exact SeqAt.compareNe_shaped ra rb sd se hu ⟨.bl (!PyData.eqv d e),H,I,rfl,by simpa using q⟩
end
end L2
namespace L2
open PySem PySem.Spec PyProof.Rows
section
variable {X:Cx}
end
theorem iw{tt:TT}{A B r:TS}{D:Ends}{σ:St}{H:Hp}(Pm:St→Hp→Prop)(h:∀N:St→Hp→Prop,(∀σ' H',Pm σ' H'→N σ' H')→NO tt A B { D with nx:=N } σ H)(hr:∀σ' H',Pm σ' H'→r D σ' H'):JJ (NO tt A B) r D σ H:=h _ hr
section
variable {X:Cx}{pins:List (Addr×Obj)}{σ:St}{H:Hp}{s:Shared}{h':Heap}
theorem Inv.Bk{t':Nat}{ch:List Addr}{T:Addr}{o:HO}(I:Inv X pins σ H s)(k:∀b u,b∉ch→s.heap.get? b=some u→h'.get? b=some u)(hf:∀b∈ch,lu X pins H b)
  (hT:s.heap.objs.size≤T) (new:cn X.prog X.w (upd H T o) h' T o):Inv X pins σ (upd H T o) { s with heap:=h',toks:=t' }:=by
 have hn:=I.aV.fresh hT
 have E3:∀b u,H b=some u→b∉ch:=fun b u e z=>by rw[(hf b z).1] at e;cases e
 refine I.step (g':=s.gens) (d':=s.drawn) (ch:=ch) (fun b hb=>⟨(hf b hb).2.2.2.1,(hf b hb).2.1,(hf b hb).2.2.2.2.1,(hf b hb).2.2.2.2.2⟩)
  (fun b u _ _ hc e _=>k b u hc e) (fun b u _ _ hc e _=>⟨u.slots,k b u hc e⟩) (fun b u _ e n=>?_) (fun b u hc e=>⟨u,k b u hc e⟩)
  (fun b xs e=>by rw[ah (ag e hn)];exact e) (fun b u v e=>by rw[ah (ag e hn)];exact e) (fun b ps e=>⟨#[],by rw[ah (ag e hn),e];simp⟩) (fun m hm=>?_) (fun b u e=>?_) I.bare
 ·rw[ah (Nat.ne_of_lt (Nat.lt_of_lt_of_le (Heap.lt_size e) hT))];exact n
 ·obtain⟨u,es,ep,ho,r⟩:=hm
  exact⟨u,es,ep,k _ u (fun z=>(hf _ z).2.1 rfl) ho,r⟩
 ·by_cases hb:b=T
  ·subst hb;rw[aa] at e;cases e;exact new
  ·rw[ah hb] at e
   refine(I.aV b u e).sI (fun c v hc q=>k c v ?_ q) (fun c q=>by rw[ah (ag q hn)];exact q) fun c xs q=>by rw[ah (ag q hn)];exact q
   rcases hc with z|z
   ·rw[z];exact E3 b u e
   ·exact E3 c _ z
theorem Inv.Bl{t':Nat}{ch:List Addr}(I:Inv X pins σ H s)(k:∀b u,b∉ch→s.heap.get? b=some u→h'.get? b=some u)(hf:∀b∈ch,lu X pins H b):Inv X pins σ H { s with heap:=h',toks:=t' }:=by
 have E3:∀b u,H b=some u→b∉ch:=fun b u e z=>by rw[(hf b z).1] at e;cases e
 refine I.step (g':=s.gens) (d':=s.drawn) (ch:=ch) (fun b hb=>⟨(hf b hb).2.2.2.1,(hf b hb).2.1,(hf b hb).2.2.2.2.1,(hf b hb).2.2.2.2.2⟩)
  (fun b u _ _ hc e _=>k b u hc e) (fun b u _ _ hc e _=>⟨u.slots,k b u hc e⟩) (fun b u _ e n=>n) (fun b u hc e=>⟨u,k b u hc e⟩)
  (fun b xs e=>e) (fun b u v e=>e) (fun b ps e=>⟨#[],by rw[e];simp⟩) (fun m hm=>?_) (fun b u e=>?_) I.bare
 ·obtain⟨u,es,ep,ho,r⟩:=hm
  exact⟨u,es,ep,k _ u (fun z=>(hf _ z).2.1 rfl) ho,r⟩
 ·refine(I.aV b u e).sI (fun c v hc q=>k c v ?_ q) (fun _ q=>q) fun _ _ q=>q
  rcases hc with z|z
  ·rw[z];exact E3 b u e
  ·exact E3 c _ z
end
theorem neN{m n:Nat}(h:m<n∨n<m):(m:Addr)≠n:=fun z=>by
 have:m=n:=z
 omega
theorem vC:bootBuiltins "enumerate" =some (.type "enumerate"):=by decide+kernel
theorem FA:bootBuiltins "abs" =some (.builtin "abs"):=by decide+kernel
def Sv(K:PySem.W.Frag)(a:Addr):It:=
 ⟨fun i H=>∃xs x,bJ K H a xs∧xs[i]? =some x,
  fun i H v H'=>∃p x,H p=none∧H'=upd H p (.tup [.int i,x])∧v= .ref p∧∀xs,bJ K H a xs→xs[i]? =some x,
  fun i H=>∃xs,bJ K H a xs∧xs.length≤i⟩
theorem Dj{P:Program}{w:World}{K:PySem.W.Frag}{elts:List Expr}{x1}{sJ:Pos}(l e it:Addr)(hei:e≠it):
  Turn P w K (.Tuple elts x1 sJ) (Sv K l) [e,it] e (fun i h=>(∃old,IsEnum h e it (i:Nat) old)∧h.IsListIter it l i) where
 mem:=by simp
 obj:=fun i h st b hb=>by
  obtain⟨⟨old,he⟩,⟨o1,e1,c1,d1⟩⟩:=st
  simp only [List.mem_cons,List.not_mem_nil,or_false] at hb
  rcases hb with q|q
  ·subst q;exact⟨_,he,fun v q=>by cases q⟩
  ·subst q;exact⟨o1,e1,fun v q=>by rw[d1] at q;cases q⟩
 keep:=fun i h h' st k=>by
  obtain⟨⟨old,he⟩,h1⟩:=st
  exact⟨⟨old,k e (by simp) _ he⟩,h1.at fun o q=>k it (by simp) o q⟩
 item:=by
  intro X hP hw hK hc i pins s σ H E I hf st hg
  subst hP hw hK
  obtain⟨xs,x,hq,hx⟩:=hg
  obtain⟨⟨old,he⟩,h1⟩:=st
  obtain⟨its,rv,p,YU⟩:=I.list hq
  obtain⟨u,hu,ru⟩:=rv.get hx
  refine wpAny_pyNext_enum_item he h1 p.isList (x:=u) (by simpa using hu) hei fun h' a1 a2 a3 a4 hk=>⟨_,rfl,?_⟩
  refine wpAny_letOwnedTupleGo_enum (s:={ s with heap:=h',toks:=s.toks+1 }) a1 fun Sw b1 b2=>?_
  have up:∀c o,c≠e→h'.get? c=some o→Sw.get? c=some o:=fun c o n q=>b2.extBut _ _ n q
  have ne:∀{c:Addr} {o},s.heap.get? c=some o→s.heap.objs.size≠c:=fun q=>Nat.ne_of_gt (Heap.lt_size q)
  have jj:=up _ _ (ne he) a3
  have I1:Inv X pins σ (upd H s.heap.objs.size (.tup [.int i,x])) { s with heap:=Sw,toks:=s.toks+1 }:=by
   refine I.Bk (ch:=[e,it]) (fun b o hb q=>?_) hf (Nat.le_refl _) ⟨by show 2≤sizeLine;decide,[.int i s.toks,u], .cons ⟨_,rfl⟩ (.cons ru .nil),⟨_,jj,rfl,_,rfl⟩⟩
   simp only [List.mem_cons,List.not_mem_nil,or_false,not_or] at hb
   exact up _ _ hb.1 (hk b o hb.1 hb.2 q)
  refine⟨.ref s.heap.objs.size,_,I1,rfl,⟨_,x,I.aV.fresh (Nat.le_refl _),rfl,rfl,fun zs hz=>by rw[I.xQ hz hq];exact hx⟩,⟨⟨u,?_⟩,a2.at fun o q=>up _ _ (Ne.symm hei) q⟩,fun b hb=>?_⟩
  ·have e1:((i+1 :Nat):Int)=(i:Int)+1:=by push_cast;rfl
   rw[e1];exact b1
  ·rw[ah ?_]
   ·exact(hf b hb).1
   ·simp only [List.mem_cons,List.not_mem_nil,or_false] at hb
    obtain⟨o1,e1,_⟩:=h1
    rcases hb with q|q
    ·rw[q];exact Ne.symm (ne he)
    ·rw[q];exact Ne.symm (ne e1)
 done:=by
  intro X hP hw hK hc i pins s σ H E I hf st hg
  subst hP hw hK
  obtain⟨xs,hq,hl⟩:=hg
  obtain⟨⟨old,he⟩,h1⟩:=st
  obtain⟨its,rv,p,YU⟩:=I.list hq
  have l1:=rv.length
  refine wpAny_pyNext_enum_end (I.ok.hd hc) he h1 p.isList (by simp;omega) fun h' hk=>⟨rfl,I.Bl (t':=s.toks) (ch:=[e,it]) (fun b o hb q=>?_) hf⟩
  simp only [List.mem_cons,List.not_mem_nil,or_false,not_or] at hb
  exact hk b o hb.2 q
 self:=fun _ _ _ _ _ st h=>by
  obtain⟨⟨old,he⟩,_⟩:=st
  exact wpAny_pyIter_enum he h
def Sx(K:PySem.W.Frag)(ta:TA):TI:=fun σ H R=>ta σ H fun vs H1=>∃a,vs=[.ref a]∧(∃xs,bJ K H1 a xs)∧R (Sv K a) H1
theorem Bm{X:Cx}{elts:List Expr}{x1}{sJ:Pos}{a:Expr}{ta:TA}{p pos:Pos}(hg:Gl X "enumerate")(hm:X.mg "enumerate" =none)(ha:PA X [a] ta)(hs:starEach [a] X.env=[(false,eval a X.env)]:=by rfl):
  PI X (.Tuple elts x1 sJ) (.Call (.Name "enumerate" p) [a] [] pos) (Sx X.K ta):=by
 intro pins s σ H R I h
 refine Call_ (lL I hg hm vC (PyProof.Rows.callWith_type1 (bV (ha pos pins s σ H _ I h) fun us s1 ⟨vs,H1,I1,r1,q1⟩=>?_) hs rfl))
 obtain⟨l,e,⟨xs,hq⟩,q⟩:=q1
 subst e
 obtain⟨u,rfl,r⟩:=vals1 r1
 cases r
 obtain⟨its,rv,pl,YU⟩:=I1.list hq
 refine call_enumerate_list pl.isList fun h' a1 a2 a3 hk=>wpAny_pyIter_enum (s:={ s1 with heap:=h' }) a1 ?_
 refine⟨_,[s1.heap.objs.size+1,s1.heap.objs.size],_,_,H1,rfl,I1.kept (t':=s1.toks) hk,Dj l (s1.heap.objs.size+1) s1.heap.objs.size (neN (by omega)),⟨⟨_,a1⟩,a2⟩,fun b hb=>?_,q⟩
 have Dk:s1.heap.objs.size≤b:=by
  simp only [List.mem_cons,List.not_mem_nil,or_false] at hb
  rcases hb with e|e<;>rw[e]<;>first|exact Nat.le_refl _|exact Nat.le_add_right _ _
 exact I1.zD Dk (I1.aV.fresh Dk)
theorem FC(ns:List Int)(lo hi:Option Int):∃ms:List Int,vp (ns.map V.int) lo hi=ms.map V.int∧ms.length≤ns.length:=by
 have h:∀x∈vp (ns.map V.int) lo hi,∃i,x=V.int i:=fun x hx=>by
  have:x∈ns.map V.int:=List.mem_of_mem_drop (List.mem_of_mem_take hx)
  obtain⟨i,_,e⟩:=List.mem_map.mp this
  exact⟨i,e.symm⟩
 have hl:=oX (ns.map V.int) lo hi
 rw[List.length_map] at hl
 generalize vp (ns.map V.int) lo hi=l at h hl
 refine⟨l.map fun v=>match v with| .int i=>i|_=>0,?_,by rw[List.length_map];exact hl⟩
 rw[List.map_map]
 clear hl
 induction l with
 |nil=>rfl
 |cons x r ih=>
  obtain⟨i,rfl⟩:=h x (List.mem_cons_self ..)
  rw[List.map_cons,←ih fun y hy=>h y (List.mem_cons_of_mem _ hy)]
  rfl
end L2
namespace L2
open PySem PySem.Spec PyProof.Rows
section
variable {K:PySem.W.Frag}{g:TG}{tt:TT}{te:TE}{tb:TS}{D:Ends}
theorem Kb{J:It}{L:Addr}{Q:Hp→Prop}{σ:St}{H:Hp}(n:Nat)(H0:Hp)(S:St→Prop)(Pv:Nat→List V→Prop)(Om:∀i H',i<n→au H0 H'→J.go i H')(qH:∀H',au H0 H'→J.stop n H')
  (zX:H0 L=none) (hσ:S σ) (h0:au H0 H) (hL:H L=some (.lst [])) (p0:Pv 0 []) (hz:n≤sizeLine) (hl:∀i ys,Pv i ys→ys.length≤i)
  (turn:∀i σ H' ys,i<n→S σ→au H0 H'→H' L=some (.lst ys)→Pv i ys→∀(N:St→V→Hp→Prop) (M:St→Hp→Prop),(∀σ3 y H5,S σ3→au H0 H5→H5 L=some (.lst ys)→Pv (i+1) (ys++[y])→N σ3 y H5)→
   ∀x H2,J.px i H' x H2→g x σ H2 fun σ3 H3=>tt σ3 H3 fun b H4=>if b=true then te σ3 H4 fun y H5=>N σ3 y H5 else M σ3 H4)
  (fin:∀H' ys,au H0 H'→H' L=some (.lst ys)→Pv n ys→Q H'):
  ∃W:Nat→Nat→St→Hp→Prop,(∃m,W 0 m σ H)∧∀i m σ H,W i m σ H→(J.stop i H∧Q H)∨(J.go i H∧∀x H2,J.px i H x H2→g x σ H2 fun σ3 H3=>tt σ3 H3 fun b H4=>if b=true
   then te σ3 H4 fun y H5=>∃ys,H5 L=some (.lst ys)∧ys.length<sizeLine∧∃m',m'<m∧W (i+1) m' σ3 (upd H5 L (.lst (ys++[y])))
   else∃m',m'<m∧W (i+1) m' σ3 H4):=by
 refine⟨fun i m σ H=>m+i=n∧S σ∧au H0 H∧∃ys,H L=some (.lst ys)∧Pv i ys,⟨n,rfl,hσ,h0,[],hL,p0⟩,?_⟩
 rintro i m σ H ⟨hm,hs,fz,ys,Dl,hp⟩
 by_cases hi:i<n
 ·refine .inr ⟨Om i H hi fz,fun x H2 hy=>turn i σ H ys hi hs fz Dl hp _ _ (fun σ3 y H5 k1 k2 k3 k4=>?_) x H2 hy⟩
  refine⟨ys,k3,by have:=hl i ys hp;omega,m - 1,by omega,by omega,k1,fun b o e=>?_,ys++[y],aa,k4⟩
  rw[ah (ag e zX)];exact k2 b o e
 ·have e:i=n:=by omega
  subst e
  exact .inl ⟨qH H fz,fin H ys fz Dl hp⟩
theorem FD{lo:Int}{n:Nat}{L:Addr}{Q:Hp→Prop}{σ:St}{H:Hp}(H0:Hp)(S:St→Prop)(Pv:Nat→List V→Prop)
  (zX:H0 L=none) (hσ:S σ) (h0:au H0 H) (hL:H L=some (.lst [])) (p0:Pv 0 []) (hz:n≤sizeLine) (hl:∀i ys,Pv i ys→ys.length≤i)
  (turn:∀i σ H' ys,i<n→S σ→au H0 H'→H' L=some (.lst ys)→Pv i ys→∀(N:St→V→Hp→Prop) (M:St→Hp→Prop),(∀σ3 y H5,S σ3→au H0 H5→H5 L=some (.lst ys)→Pv (i+1) (ys++[y])→N σ3 y H5)→
   g (.int (lo+i)) σ H' fun σ3 H3=>tt σ3 H3 fun b H4=>if b=true then te σ3 H4 fun y H5=>N σ3 y H5 else M σ3 H4)
  (fin:∀H' ys,au H0 H'→H' L=some (.lst ys)→Pv n ys→Q H'):
  ∃W:Nat→Nat→St→Hp→Prop,(∃m,W 0 m σ H)∧∀i m σ H,W i m σ H→((EL lo n).stop i H∧Q H)∨((EL lo n).go i H∧∀x H2,(EL lo n).px i H x H2→g x σ H2 fun σ3 H3=>tt σ3 H3 fun b H4=>if b=true
   then te σ3 H4 fun y H5=>∃ys,H5 L=some (.lst ys)∧ys.length<sizeLine∧∃m',m'<m∧W (i+1) m' σ3 (upd H5 L (.lst (ys++[y])))
   else∃m',m'<m∧W (i+1) m' σ3 H4):=
 Kb n H0 S Pv (fun i H' hi e=>hi) (fun H' e=>Nat.le_refl _) zX hσ h0 hL p0 hz hl
  (fun i σ H' ys hi hs e k p N M hN x H2 hy=>by
   obtain⟨rfl,rfl⟩:=hy
   exact turn i σ H2 ys hi hs e k p N M hN) fin
theorem x8{a:Addr}{xs:List V}{σ:St}{H:Hp}(Pv:Nat→St→Hp→Prop)(h0:Pv 0 σ H)(hl:∀i σ H,Pv i σ H→bJ K H a xs)
  (hs:∀i x p σ H,xs[i]? =some x→H p=none→Pv i σ H→g (.ref p) σ (upd H p (.tup [.int i,x])) fun σ2 H2=>tb { D with nx:=Pv (i+1),ct:=Pv (i+1),bk:=D.nx } σ2 H2) (hd:∀σ H,Pv xs.length σ H→D.nx σ H):
  ∃W:Nat→Nat→St→Hp→Prop,(∃m,W 0 m σ H)∧∀i m σ H,W i m σ H→
   ((Sv K a).stop i H∧D.nx σ H)∨((Sv K a).go i H∧∃N:St→Hp→Prop,(∀σ' H',N σ' H'→∃m',m'<m∧W (i+1) m' σ' H')∧∀x H',(Sv K a).px i H x H'→g x σ H' fun σ2 H2=>tb { D with nx:=N,ct:=N,bk:=D.nx } σ2 H2):=by
 refine⟨fun i m σ H=>m+i=xs.length∧Pv i σ H,⟨xs.length,rfl,h0⟩,?_⟩
 rintro i m σ H ⟨hm,p⟩
 have q1:=hl i σ H p
 by_cases pz:i<xs.length
 ·refine .inr ⟨⟨xs,xs[i],q1,List.getElem?_eq_getElem _⟩,Pv (i+1),fun σ' H' p'=>⟨m - 1,by omega,by omega,p'⟩,fun v H' hy=>?_⟩
  obtain⟨t,x,ht,rfl,rfl,hx⟩:=hy
  exact hs i x t σ H (hx xs q1) ht p
 ·have e:i=xs.length:=by omega
  subst e
  exact .inl ⟨⟨xs,q1,by omega⟩,hd σ H p⟩
end
end L2
namespace L2
open PySem PySem.Spec PyProof.Rows
section
variable {X:Cx}{pins:List (Addr×Obj)}{σ:St}{H:Hp}{s:Shared}{N:List Str}{fr:List (Option Nat)}{scope:Scope}{fp:List Addr}
end
section
variable {X:Cx}{elt tg iter:Expr}{ifs:List Expr}{scope:Scope}{pos Oj py:Pos}{N:List Str}{fr:List (Option Nat)}{wi:TI}{g:TG}{tt:TT}{te:TE}
end
section
variable {X:Cx}{tg:Expr}(K:PySem.W.Frag)
theorem FE(hK:X.K=K){l:Expr}{tl:TE}(hl:PE X l tl):PI X tg l (Mh K tl):=by subst hK;exact bX hl
end
end L2
namespace L2
open PySem PySem.Spec PyProof.Rows
def Mq(L:Addr)(H H':Hp):Prop:=∀b o,H b=some o→b≠L→H' b=some o
theorem Mq.upd{L:Addr}{H:Hp}{o:HO}:Mq L H (upd H L o):=fun b u h n=>by rw[ah n];exact h
section
variable {K:PySem.W.Frag}{g:TG}{tt:TT}{te:TE}
theorem x9{J:It}{L:Addr}{Q:Hp→Prop}{σ:St}{H:Hp}(n:Nat)(H0:Hp)(S:St→Prop)(Pv:Nat→List V→Hp→Prop)(Om:∀i H',i<n→au H0 H'→J.go i H')(qH:∀H',au H0 H'→J.stop n H')
  (zY:∀i ys H H',Mq L H H'→Pv i ys H→Pv i ys H')
  (zX:H0 L=none) (hσ:S σ) (h0:au H0 H) (hL:H L=some (.lst [])) (p0:Pv 0 [] H) (hz:n≤sizeLine) (hl:∀i ys H,Pv i ys H→ys.length≤i)
  (turn:∀i σ H' ys,i<n→S σ→au H0 H'→H' L=some (.lst ys)→Pv i ys H'→∀(N:St→V→Hp→Prop) (M:St→Hp→Prop),(∀σ3 y H5,S σ3→au H0 H5→H5 L=some (.lst ys)→Pv (i+1) (ys++[y]) H5→N σ3 y H5)→
   ∀x H2,J.px i H' x H2→g x σ H2 fun σ3 H3=>tt σ3 H3 fun b H4=>if b=true then te σ3 H4 fun y H5=>N σ3 y H5 else M σ3 H4)
  (fin:∀H' ys,au H0 H'→H' L=some (.lst ys)→Pv n ys H'→Q H'):
  ∃W:Nat→Nat→St→Hp→Prop,(∃m,W 0 m σ H)∧∀i m σ H,W i m σ H→(J.stop i H∧Q H)∨(J.go i H∧∀x H2,J.px i H x H2→g x σ H2 fun σ3 H3=>tt σ3 H3 fun b H4=>if b=true
   then te σ3 H4 fun y H5=>∃ys,H5 L=some (.lst ys)∧ys.length<sizeLine∧∃m',m'<m∧W (i+1) m' σ3 (upd H5 L (.lst (ys++[y])))
   else∃m',m'<m∧W (i+1) m' σ3 H4):=by
 refine⟨fun i m σ H=>m+i=n∧S σ∧au H0 H∧∃ys,H L=some (.lst ys)∧Pv i ys H,⟨n,rfl,hσ,h0,[],hL,p0⟩,?_⟩
 rintro i m σ H ⟨hm,hs,fz,ys,Dl,hp⟩
 by_cases hi:i<n
 ·refine .inr ⟨Om i H hi fz,fun x H2 hy=>turn i σ H ys hi hs fz Dl hp _ _ (fun σ3 y H5 k1 k2 k3 k4=>?_) x H2 hy⟩
  refine⟨ys,k3,by have:=hl i ys H hp;omega,m - 1,by omega,by omega,k1,fun b o e=>?_,ys++[y],aa,zY _ _ _ _ Mq.upd k4⟩
  rw[ah (ag e zX)];exact k2 b o e
 ·have e:i=n:=by omega
  subst e
  exact .inl ⟨qH H fz,fin H ys fz Dl hp⟩
theorem i0{a L:Addr}{xs:List V}{Q:Hp→Prop}{σ:St}{H:Hp}(H0:Hp)(S:St→Prop)(Pv:Nat→List V→Hp→Prop)(ha:bJ K H0 a xs)(zY:∀i ys H H',Mq L H H'→Pv i ys H→Pv i ys H')
  (zX:H0 L=none) (hσ:S σ) (h0:au H0 H) (hL:H L=some (.lst [])) (p0:Pv 0 [] H) (hz:xs.length≤sizeLine) (hl:∀i ys H,Pv i ys H→ys.length≤i)
  (turn:∀i x σ H' ys,xs[i]? =some x→S σ→au H0 H'→H' L=some (.lst ys)→Pv i ys H'→∀(N:St→V→Hp→Prop) (M:St→Hp→Prop),(∀σ3 y H5,S σ3→au H0 H5→H5 L=some (.lst ys)→Pv (i+1) (ys++[y]) H5→N σ3 y H5)→
   g x σ H' fun σ3 H3=>tt σ3 H3 fun b H4=>if b=true then te σ3 H4 fun y H5=>N σ3 y H5 else M σ3 H4)
  (fin:∀H' ys,au H0 H'→H' L=some (.lst ys)→Pv xs.length ys H'→Q H'):
  ∃W:Nat→Nat→St→Hp→Prop,(∃m,W 0 m σ H)∧∀i m σ H,W i m σ H→((Ba K a).stop i H∧Q H)∨((Ba K a).go i H∧∀x H2,(Ba K a).px i H x H2→g x σ H2 fun σ3 H3=>tt σ3 H3 fun b H4=>if b=true
   then te σ3 H4 fun y H5=>∃ys,H5 L=some (.lst ys)∧ys.length<sizeLine∧∃m',m'<m∧W (i+1) m' σ3 (upd H5 L (.lst (ys++[y])))
   else∃m',m'<m∧W (i+1) m' σ3 H4):=
 x9 xs.length H0 S Pv (fun i H' hi e=>⟨xs,xs[i],e.seq ha,List.getElem?_eq_getElem hi⟩) (fun H' e=>⟨xs,e.seq ha,Nat.le_refl _⟩) zY zX hσ h0 hL p0 hz hl
  (fun i σ H' ys _ hs e k p N M hN x H2 hy=>by
   obtain⟨rfl,hx⟩:=hy
   exact turn i x σ H2 ys (hx xs (e.seq ha)) hs e k p N M hN) fin
theorem Dm{lo:Int}{n:Nat}{L:Addr}{Q:Hp→Prop}{σ:St}{H:Hp}(H0:Hp)(S:St→Prop)(Pv:Nat→List V→Hp→Prop)(zY:∀i ys H H',Mq L H H'→Pv i ys H→Pv i ys H')
  (zX:H0 L=none) (hσ:S σ) (h0:au H0 H) (hL:H L=some (.lst [])) (p0:Pv 0 [] H) (hz:n≤sizeLine) (hl:∀i ys H,Pv i ys H→ys.length≤i)
  (turn:∀i σ H' ys,i<n→S σ→au H0 H'→H' L=some (.lst ys)→Pv i ys H'→∀(N:St→V→Hp→Prop) (M:St→Hp→Prop),(∀σ3 y H5,S σ3→au H0 H5→H5 L=some (.lst ys)→Pv (i+1) (ys++[y]) H5→N σ3 y H5)→
   g (.int (lo+i)) σ H' fun σ3 H3=>tt σ3 H3 fun b H4=>if b=true then te σ3 H4 fun y H5=>N σ3 y H5 else M σ3 H4)
  (fin:∀H' ys,au H0 H'→H' L=some (.lst ys)→Pv n ys H'→Q H'):
  ∃W:Nat→Nat→St→Hp→Prop,(∃m,W 0 m σ H)∧∀i m σ H,W i m σ H→((EL lo n).stop i H∧Q H)∨((EL lo n).go i H∧∀x H2,(EL lo n).px i H x H2→g x σ H2 fun σ3 H3=>tt σ3 H3 fun b H4=>if b=true
   then te σ3 H4 fun y H5=>∃ys,H5 L=some (.lst ys)∧ys.length<sizeLine∧∃m',m'<m∧W (i+1) m' σ3 (upd H5 L (.lst (ys++[y])))
   else∃m',m'<m∧W (i+1) m' σ3 H4):=
 x9 n H0 S Pv (fun i H' hi e=>hi) (fun H' e=>Nat.le_refl _) zY zX hσ h0 hL p0 hz hl
  (fun i σ H' ys hi hs e k p N M hN x H2 hy=>by
   obtain⟨rfl,rfl⟩:=hy
   exact turn i σ H2 ys hi hs e k p N M hN) fin
end
mutual
theorem x':∀d:PyData,d.canLay0=true→PyData.eqv d d=true
 | .none,_=>by simp [PyData.eqv]
 | .bool _,_=>by simp [PyData.eqv]
 | .int _,_=>by simp [PyData.eqv]
 | .str _,_=>by simp [PyData.eqv]
 | .list xs,h=>by rw[PyData.eqv];exact j5 xs (by simpa [PyData.canLay0] using h)
 | .tuple xs,h=>by rw[PyData.eqv];exact j5 xs (by simpa [PyData.canLay0] using h)
 | .dict _,h=>by simp [PyData.canLay0] at h
theorem j5:∀xs:List PyData,PyData.canLayAll0 xs=true→PyData.eqvAll xs xs=true
 | [],_=>by simp [PyData.eqvAll]
 |x::xs,h=>by
  have h':x.canLay0=true∧PyData.canLayAll0 xs=true:=by simpa [PyData.canLayAll0] using h
  rw[PyData.eqvAll,x' x h'.1,j5 xs h'.2];rfl
end
theorem qI{α:Type}(f:α→PyData):∀l:List α,(∀x∈l,(f x).canLay0=true)→PyData.canLayAll0 (l.map f)=true
 | [],_=>by simp [PyData.canLayAll0]
 |x::l,h=>by
  rw[List.map_cons,PyData.canLayAll0,h x (List.mem_cons_self ..),qI f l fun y hy=>h y (List.mem_cons_of_mem _ hy)];rfl
theorem Dn{d:PyData}(h1:d.canLay0=true)(h2:d.depth≤64):SeqAt.shaped d=true:=by
 unfold SeqAt.shaped;rw[h1,decide_eq_true h2];rfl
section
variable {X:Cx}(K:PySem.W.Frag)
end
end L2
namespace L2
open PySem PySem.Spec PyProof.Rows
section
variable {K:PySem.W.Frag}{g:TG}{tt:TT}{te:TE}
end
end L2
namespace L2
open PySem PySem.Spec PyProof.Rows
theorem tP:bootBuiltins "sorted" =some (.builtin "sorted"):=by decide+kernel
section
variable {X:Cx}
end
end L2
namespace L2
open PySem PySem.Spec PyProof.Rows
section
variable {X:Cx}
end
end L2
namespace L2
open PySem PySem.Spec PyProof.Rows PySem.W
section
variable {O:KeyOrd}{k:Nat→O.α}{n:Nat}{I:Shared→Prop}{cmp:Nat→Nat→(Bool→Shared→Prop)→Shared→Prop}
end
end L2
namespace PySem.SeqAt
open AutoSeq1 (wpAny_loadPart')
open MeetsSeq MeetsSeq2 MeetsSeq3
def Kc(e c:Nat→Bool):List Nat→Bool
 | []=>false
 |j::r=>if e j=true then Kc e c r else c j
end PySem.SeqAt
namespace L2
open PySem PySem.Spec PyProof.Rows PySem.SeqAt PySem.W
@[reducible] def colOrd:KeyOrd where
  α:=List Int
  blt a b:=decide (a<b)
  irrefl a:=by simp
  trans a b c h1 h2:=by simp only [decide_eq_true_eq] at*;exact List.lt_trans h1 h2
  negTrans a b c h:=by
   simp only [decide_eq_true_eq] at*
   by_cases Oo:a<b
   ·exact .inl Oo
   ·exact .inr (List.lt_of_le_of_lt (List.not_lt.mp Oo) h)
  total a b h1 h2:=by simp only [decide_eq_false_iff_not] at*;exact List.le_antisymm (List.not_lt.mp h2) (List.not_lt.mp h1)
theorem Kd:∀(xs ys:List Int) (d:Nat) (f g:Nat→Int),xs.length=ys.length→(∀j,j<xs.length→f (d+j)=xs.getD j 0)→(∀j,j<xs.length→g (d+j)=ys.getD j 0)→
  Kc (fun j=>f j==g j) (fun j=>decide (f j<g j)) (List.range' d xs.length)=decide (xs<ys)
 | [],[],d,f,g,_,_,_=>by simp [Kc]
 |x::xs,y::ys,d,f,g,hl,hf,hg=>by
  have h0:=hf 0 (by simp)
  have g0:=hg 0 (by simp)
  simp at h0 g0
  have ih:=Kd xs ys (d+1) f g (by simpa using hl) (fun j hj=>by
   have:=hf (j+1) (by simp;omega)
   rw[show d+1+j=d+(j+1) by omega,this];simp) (fun j hj=>by
   have:=hg (j+1) (by simp;omega)
   rw[show d+1+j=d+(j+1) by omega,this];simp)
  rw[List.length_cons,List.range'_succ,Kc,ih,h0,g0]
  by_cases e:x=y
  ·subst e
   rw[if_pos (by simp)]
   simp [List.cons_lt_cons_iff]
  ·rw[if_neg (by simpa using e)]
   simp [List.cons_lt_cons_iff,e]
section
variable {prog:Program}{w:World}{A:Around}{E:Value→Shared→Prop}{s:Shared}
end
section
variable {X:Cx}
end
end L2
namespace L2
open PySem PySem.Spec PyProof.Rows
theorem FF:bootBuiltins "min" =some (.builtin "min"):=by decide+kernel
section
variable {X:Cx}
theorem Dp(hc:X.calm=true):gC X (.builtin "min") (fun xs H Q=>∃p,∃ns:List Int,xs=[.ref p]∧bJ X.K H p (ns.map V.int)∧0<ns.length∧∀M,M∈ns→(∀a∈ns,M≤a)→Q (.int M) H):=by
 intro pins s σ H xs us Q I r h
 obtain⟨p,ns,rfl,hS,nX,q⟩:=h
 obtain⟨u,rfl,ru⟩:=vals1 r
 cases ru
 obtain⟨its,rv,pl,hz⟩:=I.list hS
 have hi:IntsAre its ns:=intsAre_of rv
 obtain⟨xs,e⟩:=hi.allInts.items
 have tI:ns=xs.toList.map (·.1):=by rw[←hi.numsOf,←nums_intItems,←e]
 have hsz:0<xs.size:=by
  have h3:=nX;rw[tI,List.length_map,Array.length_toList] at h3;exact h3
 have hl:s.heap.IsList p (intItems xs):=e▸pl.isList
 refine min_intList (I.ok.hd hc) hl hsz fun v h' tk hv hk=>?_
 obtain⟨t,rfl⟩:=intItems_at hv
 obtain⟨h1,h2⟩:=argBest_lt (numAt xs) (xs.size - 1)
 refine⟨.int _,H,I.kept hk,⟨t,rfl⟩,q _ ?_ fun a ha=>?_⟩
 ·rw[tI,numAt_eq];exact getD_mem (by rw[List.length_map,Array.length_toList];omega)
 ·rw[tI] at ha
  obtain⟨j,hj,rfl⟩:=mem_getD ha
  rw[List.length_map,Array.length_toList] at hj
  rw[←numAt_eq];exact h2 j (by omega)
end
end L2
namespace L2
open PySem PySem.Spec PyProof.Rows
section
variable {K:PySem.W.Frag}{g:TG}{tt:TT}{te:TE}
theorem FG{J:It}{L:Addr}{Q:Hp→Prop}{σ:St}{H:Hp}(n:Nat)(H0:Hp)(S:St→Prop)(Pv:Nat→List V→Prop)(Om:∀i H',i<n→au H0 H'→J.go i H')(qH:∀H',au H0 H'→J.stop n H')
  (zX:H0 L=none) (hσ:S σ) (h0:au H0 H) (hL:H L=some (.lst [])) (p0:Pv 0 []) (hz:n≤sizeLine) (hl:∀i ys,Pv i ys→ys.length≤i)
  (turn:∀i σ H' ys,i<n→S σ→au H0 H'→H' L=some (.lst ys)→Pv i ys→∀(N:St→V→Hp→Prop) (M:St→Hp→Prop),(∀σ3 y H5,S σ3→au H0 H5→H5 L=some (.lst ys)→Pv (i+1) (ys++[y])→N σ3 y H5)→(∀σ3 H4,S σ3→au H0 H4→H4 L=some (.lst ys)→Pv (i+1) ys→M σ3 H4)→
   ∀x H2,J.px i H' x H2→g x σ H2 fun σ3 H3=>tt σ3 H3 fun b H4=>if b=true then te σ3 H4 fun y H5=>N σ3 y H5 else M σ3 H4)
  (fin:∀H' ys,au H0 H'→H' L=some (.lst ys)→Pv n ys→Q H'):
  ∃W:Nat→Nat→St→Hp→Prop,(∃m,W 0 m σ H)∧∀i m σ H,W i m σ H→(J.stop i H∧Q H)∨(J.go i H∧∀x H2,J.px i H x H2→g x σ H2 fun σ3 H3=>tt σ3 H3 fun b H4=>if b=true
   then te σ3 H4 fun y H5=>∃ys,H5 L=some (.lst ys)∧ys.length<sizeLine∧∃m',m'<m∧W (i+1) m' σ3 (upd H5 L (.lst (ys++[y])))
   else∃m',m'<m∧W (i+1) m' σ3 H4):=by
 refine⟨fun i m σ H=>m+i=n∧S σ∧au H0 H∧∃ys,H L=some (.lst ys)∧Pv i ys,⟨n,rfl,hσ,h0,[],hL,p0⟩,?_⟩
 rintro i m σ H ⟨hm,hs,fz,ys,Dl,hp⟩
 by_cases hi:i<n
 ·refine .inr ⟨Om i H hi fz,fun x H2 hy=>turn i σ H ys hi hs fz Dl hp _ _ (fun σ3 y H5 k1 k2 k3 k4=>?_) (fun σ3 H4 k1 k2 k3 k4=>?_) x H2 hy⟩
  ·refine⟨ys,k3,by have:=hl i ys hp;omega,m - 1,by omega,by omega,k1,fun b o e=>?_,ys++[y],aa,k4⟩
   rw[ah (ag e zX)];exact k2 b o e
  ·exact⟨m - 1,by omega,by omega,k1,k2,ys,k3,k4⟩
 ·have e:i=n:=by omega
  subst e
  exact .inl ⟨qH H fz,fin H ys fz Dl hp⟩
theorem tQ{a L:Addr}{xs:List V}{Q:Hp→Prop}{σ:St}{H:Hp}(H0:Hp)(S:St→Prop)(Pv:Nat→List V→Prop)(ha:bJ K H0 a xs)
  (zX:H0 L=none) (hσ:S σ) (h0:au H0 H) (hL:H L=some (.lst [])) (p0:Pv 0 []) (hz:xs.length≤sizeLine) (hl:∀i ys,Pv i ys→ys.length≤i)
  (turn:∀i x σ H' ys,xs[i]? =some x→S σ→au H0 H'→H' L=some (.lst ys)→Pv i ys→∀(N:St→V→Hp→Prop) (M:St→Hp→Prop),(∀σ3 y H5,S σ3→au H0 H5→H5 L=some (.lst ys)→Pv (i+1) (ys++[y])→N σ3 y H5)→(∀σ3 H4,S σ3→au H0 H4→H4 L=some (.lst ys)→Pv (i+1) ys→M σ3 H4)→
   g x σ H' fun σ3 H3=>tt σ3 H3 fun b H4=>if b=true then te σ3 H4 fun y H5=>N σ3 y H5 else M σ3 H4)
  (fin:∀H' ys,au H0 H'→H' L=some (.lst ys)→Pv xs.length ys→Q H'):
  ∃W:Nat→Nat→St→Hp→Prop,(∃m,W 0 m σ H)∧∀i m σ H,W i m σ H→((Ba K a).stop i H∧Q H)∨((Ba K a).go i H∧∀x H2,(Ba K a).px i H x H2→g x σ H2 fun σ3 H3=>tt σ3 H3 fun b H4=>if b=true
   then te σ3 H4 fun y H5=>∃ys,H5 L=some (.lst ys)∧ys.length<sizeLine∧∃m',m'<m∧W (i+1) m' σ3 (upd H5 L (.lst (ys++[y])))
   else∃m',m'<m∧W (i+1) m' σ3 H4):=
 FG xs.length H0 S Pv (fun i H' hi e=>⟨xs,xs[i],e.seq ha,List.getElem?_eq_getElem hi⟩) (fun H' e=>⟨xs,e.seq ha,Nat.le_refl _⟩) zX hσ h0 hL p0 hz hl
  (fun i σ H' ys _ hs e k p N M hN hM x H2 hy=>by
   obtain⟨rfl,hx⟩:=hy
   exact turn i x σ H2 ys (hx xs (e.seq ha)) hs e k p N M hN hM) fin
end
section
variable {X:Cx}
end
end L2
namespace L2
open PySem PySem.Spec PyProof.Rows
section
variable {K:PySem.W.Frag}{g:TG}{tt:TT}{te:TE}
end
section
variable {X:Cx}
end
end L2
namespace PySem.W
open PySem PySem.Calls PyProof.Rows PyProof.V PySem.Spec
section
variable {prog:Program}{w:World}{A:Around}{E:Value→Shared→Prop}{s:Shared}{T:String}{r d:Addr}{n:Nat}{P:Nat→Value→Prop}{OK:Heap→Prop}
theorem zZ{G:List Value→Shared→Prop}(S:KdlSrc prog w T r d n P OK)(hd:A.handled=none)(ok:OK s.heap)(small:n≤sizeLine)
  (q:∀(g:Heap) (k:Nat) (xs:Array Value),(∀b o,s.heap.get? b=some o→g.get? b=some o)→s.heap.objs.size<g.objs.size→ItemsOf P xs n→G xs.toList { s with heap:=g,toks:=k }):
  wpAny (model prog w) A (collect (.ref r)) G E s:=by
 obtain⟨lr,ld⟩:=S.there _ ok
 unfold collect;refine wpAny_bind (wpAny_runValue (codeAny_builtin entry_proto_collect' ?_));rw[Around.under_plainId PySem.F.plain_proto_collect _]
 show wpAny _ A.in1 (newList [] >>= fun y=>again (.builtin "list.__iadd__" ⟨[y, .ref r],[]⟩)) _ _ s
 refine wpAny_bind (wpAny_newObj_type (wpAny_pure ⟨plainId_quiet PySem.F.plain_list_iadd _,codeAny_builtin entry_list_iadd' ?_⟩))
 rw[Around.under_plainId PySem.F.plain_list_iadd _];show wpAny _ A.in1 (Builtin.List.listExtendWith (.ref s.heap.objs.size) (.ref r) (.ref s.heap.objs.size)) _ _ _
 have told:=kdl_extend (A:=A) (s:={ s with heap:=s.heap.push { cls:= .type "list",data:= .seq ([]:List Value).toArray } })
  (R:=fun z s1=>∃(g:Heap) (k:Nat) (xs:Array Value) (c:Nat),z= .ok (.ret (.ref s.heap.objs.size))∧s1={ s with heap:=g,toks:=k }∧(∀b o,s.heap.get? b=some o→g.get? b=some o)∧
   g.get? s.heap.objs.size=some { cls:= .type "list",dict:=none,data:= .seq xs c,slots:=#[] }∧ItemsOf P xs n) S hd (S.keep _ _ ok fun b _ o e=>Heap.get?_push_of_some _ e) s.heap.objs.size (Nat.ne_of_gt lr) (Nat.ne_of_gt ld)
  (.ref s.heap.objs.size) 0 (Heap.get?_push_size _ rfl) (fun g k xs c kp at' its=>⟨g,k,xs,c,rfl,rfl,fun b o e=>kp b o (Nat.ne_of_lt (Heap.lt_size e)) (Heap.get?_push_of_some _ e),at',its⟩) small
 refine wpAny_mono told (fun z s1 y=>?_) fun z s1 y=>?_
 ·cases z with
  |done f=>obtain⟨g,k,xs,c,e,rfl,kp,at',its⟩:=y;cases e;exact wpAny_bind (wpAny_load at' (wpAny_pure (q g k xs kp (Heap.lt_size at') its)))
  |again c0=>
   refine⟨y.1,codeAny_mono y.2 fun z1 s2 y2=>?_⟩
   obtain⟨g,k,xs,c,rfl,rfl,kp,at',its⟩:=y2;exact wpAny_bind (wpAny_load at' (wpAny_pure (q g k xs kp (Heap.lt_size at') its)))
 ·obtain⟨_,_,_,_,e,_⟩:=y;cases e
end
end PySem.W
namespace L2
open PySem PySem.Spec PyProof.Rows PySem.W
section
variable {X:Cx}
theorem z6:∀{us:List Value} {ss:List Str},StrsAre us ss→Vals (ss.map V.str) us:=by
 intro us ss h
 induction h with
 |nil=>exact .nil
 |cons=>exact .cons ⟨_,rfl⟩ (by assumption)
theorem mx{P:Program}{w:World}:∀{us:List Value} {ks:List Str},us.length=ks.length→(∀(j:Nat) (k:Str) (u:Value),ks[j]? =some k→us[j]? =some u→(bD P w).is (Sum.inr k) u=true)→StrsAre us ks
 | [],[],_,_=> .nil
 | [],_::_,h,_=>by simp at h
 |_::_,[],h,_=>by simp at h
 |u::us,k::ks,h,q=>by
  have hu:=q 0 k u rfl rfl
  rw[qi] at hu
  rcases cm hu with ⟨i,t,e,_⟩ | ⟨x,t,e,rfl⟩
  ·cases e
  ·cases e
   exact .cons _ _ (mx (by simpa using h) fun j k' u' h1 h2=>q (j+1) k' u' (by simpa using h1) (by simpa using h2))
end
end L2
namespace L2
open PySem PySem.Spec PyProof.Rows
section
variable {X:Cx}
end
end L2
namespace L2
open PySem PySem.Spec PyProof.Rows
section
variable {X:Cx}
theorem gW:pA X (compareOp .LtE) (fun x y H Q=>∃i j,x= .str i∧y= .str j∧Q (.bl (!decide (j.cps.toList<i.cps.toList))) H):=by
 intro pins s σ H x y v u Q I rx ry h
 obtain⟨i,j,rfl,rfl,q⟩:=h
 obtain⟨t,rfl⟩:=(show∃t,v=Value.str i t from rx)
 obtain⟨t',rfl⟩:=(show∃t,u=Value.str j t from ry)
 exact PySem.P.le_str ⟨.bl _,H,I,rfl,q⟩
theorem Dq:gC X (.type "int") (fun xs H Q=>∃x n,xs=[.str x]∧PySem.intText? x=some n∧x.length≤640∧Q (.int n) H):=by
 intro pins s σ H xs us Q I r h
 obtain⟨x,n,rfl,hn,hl,q⟩:=h
 obtain⟨u,rfl,ru⟩:=vals1 r
 obtain⟨t,rfl⟩:=(show∃t,u=Value.str x t from ru)
 exact PySem.W.KIN.call_text hn hl ⟨.int n,H,I.tok _,⟨_,rfl⟩,q⟩
def rSlS:V→Option Int→Option Int→Hp→VK→Prop:=fun x lo hi H Q=>∃y,x= .str y∧y.length≤sizeLine∧Q (.str (Txt.slice y lo hi)) H
theorem vD:Z8 X rSlS:=by
 intro pins s σ H x v vl vu lo hi sl Q I rx hs pl pu h
 obtain⟨y,rfl,hz,q⟩:=h
 obtain⟨t,rfl⟩:=(show∃t,v=Value.str y t from rx)
 refine⟨"str",_,F.slot_str_getitem.lookup,typeIs_str _ _ _,?_⟩
 cases pl with
 |none=>cases pu with
  |none=>exact wpAny_getItem_str_slice (l:=none) (u:=none) (st:=none) hs rfl (post_val_or_str ⟨Nat.le_trans (Txt.slice_le y _ _) hz,fun t' k=>⟨.str _,H,I.tok k,⟨t',rfl⟩,q⟩⟩)
  |int j uj=>exact wpAny_getItem_str_slice (l:=none) (u:=some (j,uj)) (st:=none) hs rfl (post_val_or_str ⟨Nat.le_trans (Txt.slice_le y _ _) hz,fun t' k=>⟨.str _,H,I.tok k,⟨t',rfl⟩,q⟩⟩)
 |int i ui=>cases pu with
  |none=>exact wpAny_getItem_str_slice (l:=some (i,ui)) (u:=none) (st:=none) hs rfl (post_val_or_str ⟨Nat.le_trans (Txt.slice_le y _ _) hz,fun t' k=>⟨.str _,H,I.tok k,⟨t',rfl⟩,q⟩⟩)
  |int j uj=>exact wpAny_getItem_str_slice (l:=some (i,ui)) (u:=some (j,uj)) (st:=none) hs rfl (post_val_or_str ⟨Nat.le_trans (Txt.slice_le y _ _) hz,fun t' k=>⟨.str _,H,I.tok k,⟨t',rfl⟩,q⟩⟩)
end
def Sy(x:Str):It:=⟨fun i _=>i<x.length,fun i H v H'=>H'=H∧∃c,x.cps[i]? =some c∧v= .str ⟨#[c]⟩,fun i _=>x.length≤i⟩
theorem FH{P:Program}{w:World}{K:PySem.W.Frag}{tg:Expr}(it:Addr)(x:Str)(t:Tok):
  Turn P w K tg (Sy x) [it] it (fun i h=>h.IsStrIter it "str_ascii_iterator" x t i) where
 mem:=by simp
 obj:=fun i h st b hb=>by
  have e:b=it:=by simpa using hb
  subst e
  obtain⟨o,e,c,d⟩:=st
  exact⟨o,e,fun v z=>by rw[d] at z;cases z⟩
 keep:=fun i h h' st k=>let ⟨o,ho,r⟩:=st;⟨o,k it (by simp) o ho,r⟩
 item:=by
  intro X hP hw hK hc i pins s σ H E I hf st hg
  subst hP hw hK
  have hg:i<x.cps.size:=hg
  obtain⟨f0,f1,f2,f3,f4,f5⟩:=hf it (by simp)
  refine wpAny_pyNext_ascii_item st (Array.getElem?_eq_getElem hg) fun h' Bb sb=>?_
  have I1:Inv X pins σ H { s with heap:=h',toks:=s.toks+1 }:=I.turned (t':=s.toks+1) (fun b o hb e=>(sb.2 b hb).trans e) f0 f1 f3 f4 f5
  obtain⟨oi,e,c,d⟩:=id Bb
  exact⟨_,rfl,A' (s:={ s with heap:=h',toks:=s.toks+1 }) e c d (by decide) ⟨.str ⟨#[x.cps[i]]⟩,H,I1,⟨_,rfl⟩,⟨rfl,_,Array.getElem?_eq_getElem hg,rfl⟩,Bb,fun b hb=>(hf b hb).1⟩⟩
 done:=by
  intro X hP hw hK hc i pins s σ H E I hf st hg
  subst hP hw hK
  have hg:x.cps.size≤i:=hg
  obtain⟨f0,f1,f2,f3,f4,f5⟩:=hf it (by simp)
  exact wpAny_pyNext_ascii_end (I.ok.hd hc) st (Array.getElem?_eq_none hg) fun h' eb=>⟨rfl,I.turned (t':=s.toks) (fun b o hb e=>eb b o hb e) f0 f1 f3 f4 f5⟩
 self:=fun _ _ _ _ _ st h=>wpAny_pyIter_striter_ascii st h
section
variable {X:Cx}{tg:Expr}
def iStr(tl:TE):TI:=fun σ H R=>tl σ H fun v H1=>∃x,v= .str x∧x.cps.all (· <128)=true∧R (Sy x) H1
theorem Oq{l:Expr}{tl:TE}(hl:PE X l tl):PI X tg l (iStr tl):=by
 intro pins s σ H R I h
 refine bV (hl pins s σ H _ I h) fun v s1 ⟨y,H1,I1,r1,x,e,ha,q⟩=>?_
 subst e
 obtain⟨t,rfl⟩:=(show∃t,v=Value.str x t from r1)
 refine wpAny_pyIter_ascii ha ?_
 refine⟨s1.heap.objs.size,[s1.heap.objs.size],_,_,_,rfl,I1.kept (t':=s1.toks) fun b o e=>Heap.get?_push_of_some _ e,FH _ x t,?_,fun b hb=>?_,q⟩
 ·exact⟨_,Heap.get?_push_size _ rfl,rfl,rfl⟩
 ·have e:b=s1.heap.objs.size:=by simpa using hb
  subst e
  exact I1.zD (Nat.le_refl _) (I1.aV.fresh (Nat.le_refl _))
end
theorem Ke{x:Str}{g:TG}{tb:TS}{D:Ends}{σ:St}{H:Hp}(Pv:Nat→St→Hp→Prop)(h0:Pv 0 σ H)
  (hs:∀i c σ H,x.cps[i]? =some c→Pv i σ H→g (.str ⟨#[c]⟩) σ H fun σ2 H2=>tb { D with nx:=Pv (i+1),ct:=Pv (i+1),bk:=D.nx } σ2 H2) (hd:∀σ H,Pv x.length σ H→D.nx σ H):
  ∃W:Nat→Nat→St→Hp→Prop,(∃m,W 0 m σ H)∧∀i m σ H,W i m σ H→
   ((Sy x).stop i H∧D.nx σ H)∨((Sy x).go i H∧∃N:St→Hp→Prop,(∀σ' H',N σ' H'→∃m',m'<m∧W (i+1) m' σ' H')∧∀v H',(Sy x).px i H v H'→g v σ H' fun σ2 H2=>tb { D with nx:=N,ct:=N,bk:=D.nx } σ2 H2):=by
 refine⟨fun i m σ H=>m+i=x.length∧Pv i σ H,⟨x.length,rfl,h0⟩,?_⟩
 rintro i m σ H ⟨hm,p⟩
 by_cases hi:i<x.length
 ·refine .inr ⟨hi,Pv (i+1),fun σ' H' q=>⟨m - 1,by omega,by omega,q⟩,?_⟩
  rintro v H' ⟨rfl,c,hc,rfl⟩
  exact hs i c σ _ hc p
 ·have e:i=x.length:=by omega
  subst e
  exact .inl ⟨Nat.le_refl _,hd σ H p⟩
end L2
namespace L2
open PySem PySem.Spec PyProof.Rows
section
variable {X:Cx}
theorem pM(K:PySem.W.Frag)(hK:X.K=K):Sd X (Se K):=by subst hK;exact gu
end
end L2
namespace PySem.W
open PySem PySem.Calls PyProof.Rows PyProof.V PySem.Spec
section
variable {prog:Program}{w:World}{A:Around}{E:Value→Shared→Prop}{s:Shared}{T:String}{r d:Addr}{n:Nat}{P:Nat→Value→Prop}{OK:Heap→Prop}
theorem ya{ss:List Str}{Q:Value→Shared→Prop}(S:KdlSrc prog w T r d n P OK)(hd:A.handled=none)(ok:OK s.heap)(hn:n<64)(hs:∀xs:Array Value,ItemsOf P xs n→StrsAre xs.toList ss)
  (q:∀(g:Heap) (k:Nat) (a:Addr) (out:Array Value) (Mr:List Str) (e:Nat),(∀b o,s.heap.get? b=some o→g.get? b=some o)→s.heap.objs.size≤a→g.get? a=some (seqObj "list" out e)→StrsAre out.toList Mr→Mr.Perm ss→sortedS Mr=true→Q (.ref a) { s with heap:=g,toks:=k }):
  wpAny (model prog w) A (call (.builtin "sorted") [.ref r]) Q E s:=by
 refine Calls.call_function_entry kind_sorted plain_sorted entry_sorted (args_sorted1 _) ?_
 unfold Builtin.«sorted»;refine wpAny_bind (m:=checkCount "sorted" 1 1 _) (wpAny_pure ?_)
 have big:(64 :Nat)≤sizeLine:=by decide
 refine wpAny_bind (zZ (A:=A.in1) S hd ok (by omega) fun g k xs kp lt its=>?_)
 have hS:=hs xs its
 have hl:xs.toList.length=n:=by rw[Array.length_toList];exact its.1
 refine wpAny_bind (wpAny_newList ?_ (by rw[hl];omega))
 have RC:(g.push (seqObj "list" xs.toList.toArray 0)).get? g.objs.size=some (seqObj "list" xs.toList.toArray 0):=Heap.get?_push_size _ rfl
 refine wpAny_bind (wpAny_holding (wpAny_call_entry slot_list_sort ⟨_,RC,rfl⟩ entry_list_sort (list_sort_treeK strKind_oneLt RC hS.keysOf (fun v₁ v₂ rest e=>keyKind_strs (by rw[←e];exact hS)) (by omega) fun Bb a1 a2=>⟨_,rfl,?_⟩) (args_list_sort _)))
 obtain⟨Mr,h1,h2,h3⟩:=sorted_out_str hS a1 a2
 obtain⟨e,he⟩:=sortedHeap_at (out:=(arrOf Bb).map (·.2)) RC
 refine wpAny_pure ⟨_,rfl,q _ k g.objs.size _ Mr e (fun b o z=>?_) (by omega) he h1 h2 h3⟩
 have hb:=kp b o z
 have pz:=Heap.lt_size hb
 rw[sortedHeap_old (Nat.ne_of_lt pz) (by rw[size_push'];exact Nat.lt_succ_of_lt pz),Heap.get?_push_ne _ _ _ (Nat.ne_of_lt pz)]
 exact hb
end
end PySem.W
namespace L2
open PySem PySem.Spec PyProof.Rows PySem.W
section
variable {X:Cx}
theorem mz(hc:X.calm=true):gC X (.builtin "sorted") (fun xs H Q=>∃p kvs,∃ks:List Str,xs=[.ref p]∧Rd H p (.dK kvs)∧kvs.map (·.1)=ks.map Sum.inr∧ks.length<64∧∀(l:Addr) (ms:List Str),ms.Perm ks→sortedS ms=true→H l=none→Q (.ref l) (upd H l (.lst (ms.map V.str)))):=by
 intro pins s σ H xs us Q I r h
 obtain⟨p,kvs,ks,rfl,hk,xx,h64,q⟩:=h
 obtain⟨u,rfl,ru⟩:=vals1 r
 cases ru
 obtain⟨z,lo,vs,rel,dd⟩:=mi I.aV hk
 obtain⟨ep,da⟩:=dd.dictAt
 have hlen:vs.length=ks.length:=by
  have:=congrArg List.length xx
  rw[List.length_map,List.length_map] at this
  rw[←rel.length];exact this
 have key:∀(j:Nat) (k:Key) (x:Value),vs[j]? =some (k,x)→(ks[j]?).map Sum.inr=some k:=fun j k x e=>by
  have h1:(kvs.map (·.1))[j]? =some k:=by rw[rel.keys,List.getElem?_map,e];rfl
  rw[xx,List.getElem?_map] at h1
  exact h1
 refine ya (ss:=ks) (kdl_dict (knd:=bD X.prog X.w) (kvs:=vs) (ep:=ep) lo) (I.ok.hd hc) da (by omega) (fun ar its=>?_) fun g k a out Mr e kp le hg h1 h2 h3=>?_
 ·refine mx (P:=X.prog) (w:=X.w) (by rw[Array.length_toList,its.1,hlen]) fun j k u h1 h2=>?_
  obtain⟨k',x,h3,h4⟩:=its.2 j u (by simpa using h2)
  have h5:=key j k' x h3
  rw[h1] at h5
  cases h5
  exact h4
 ·refine⟨.ref a,_,I.laid (t':=k) (o:= .lst (Mr.map V.str)) kp le ⟨?_,out.toList,e,z6 h1,?_⟩,rfl,q _ Mr h2 h3 (I.aV.fresh le)⟩
  ·rw[List.length_map,h2.length_eq]
   have big:(64 :Nat)≤sizeLine:=by decide
   omega
  ·rw[hg]
end
section
variable {X:Cx}{pins:List (Addr×Obj)}{σ:St}{H:Hp}{s:Shared}{a b:Addr}{kvs more:List (Key×V)}{A:Around}{E:Value→Shared→Prop}
theorem FI{Q:Value→Shared→Prop}(I:Inv X pins σ H s)(e:H a=some (.dK kvs))(e2:H b=some (.dK more))(Oo:a≠b)(hz:kvs.length+more.length≤sizeLine)
  (h:∀s',Inv X pins σ (upd H a (.dK (cq kvs more))) s'→Q .none s'):wpAny (model X.prog X.w) A (call (.builtin "dict.update") [.ref a, .ref b]) Q E s:=by
 obtain⟨z,hd,vs,rel,dd⟩:=oW I.aV e
 obtain⟨z2,hd2,ws,Sz,dd2⟩:=oW I.aV e2
 refine call_meetsIn PySem.F.slot_dict_update dd.typeIs PySem.F.entry_dict_update (PySem.F.args_dict_update_2 _ _) (meets_dict_update (bD X.prog X.w) a b Oo hd2)
  ⟨vs,ws,dd,dd2,by rw[←rel.length,←Sz.length];exact hz,fun h' Dc _ hs=>h _ ?_⟩
 have he:∃q,h'.get? a=some q:=let ⟨q,_,_,hq,_⟩:=Dc;⟨q,hq⟩
 exact pI I (by rw[e];exact True.intro) hs he (qu (Nat.le_trans (eh more kvs) hz) hd (KV.merge Sz rel) Dc)
end
def SA(td ty:TE):TE:=fun σ H Q=>td σ H fun x H1=>∃a,x= .ref a∧Z7 H1 a∧ty σ H1 fun y H2=>∃b kvs more,y= .ref b∧H2 a=some (.dK kvs)∧H2 b=some (.dK more)∧a≠b∧kvs.length+more.length≤sizeLine∧Q .cS (upd H2 a (.dK (cq kvs more)))
section
variable {X:Cx}{o e:Expr}{apos gZ:Pos}{td ty:TE}
theorem Kf(ho:PE X o td)(he:PE X e ty)(m:M1 X o "update" apos e gZ):PE X (.Call (.Attribute o "update" apos) [e] [] gZ) (SA td ty):=by
 intro pins s σ H Q I h
 refine wpAny_Call_method m.base m.Z6 m.line PySem.F.plainAttrs_dict PySem.F.slot_dict_update PySem.F.type_dict_update (bV (ho pins s σ H _ I h) fun u s1 ⟨x,H1,I1,rx,a,ex,d,q1⟩=>?_)
 subst ex
 obtain rfl:u=Value.ref a:=rx
 obtain⟨t1,t2,_⟩:=Fl I1 d
 refine⟨t1,t2,?_⟩
 rw[m.trees]
 refine Calls.callWith_builtin rfl (Calls.evalArgs_plain (Calls.spliced_cons (bV (he pins s1 σ H1 _ I1 q1) fun iv s2 ⟨y,H2,I2,ry,b,kvs,more,ey,ea,eb,Oo,hz,q2⟩=>Calls.spliced_nil ?_)))
 subst ey
 obtain rfl:iv=Value.ref b:=ry
 exact FI I2 ea eb Oo hz fun s3 I3=>⟨.cS,_,I3,rfl,q2⟩
end
end L2
namespace L2
open PySem PySem.Spec PyProof.Rows
end L2
namespace L2
open PySem PySem.Spec PyProof.Rows
end L2
namespace L2
open PySem PySem.Spec PyProof.Rows PySem.W
section
variable {X:Cx}
end
end L2
namespace L2
open PySem PySem.Spec PyProof.Rows
theorem Ot{X:Cx}{body:List Stmt}{h0:ExceptHandler}{hs:List ExceptHandler}{pos:Pos}{t:TS}(hx:∀v s,X.xe v s→False)(hb:lK X body t):PS X (.Try body (h0::hs) [] [] pos) t:=by
 intro pins s σ H D I h
 refine wpAny_Try_except (wpAny_mono (hb pins s σ H D I h) (fun f s1 q=>?_) fun e s1 z=>(hx e s1 z).elim)
 cases f with
 |next=>exact wpAny_execs_nil q
 |brk=>exact q
 |cont=>exact q
 |ret u=>exact q
end L2
namespace L2
open PySem PySem.Spec PyProof.Rows
section
variable {X:Cx}
theorem FJ:pA X (binaryOp .FloorDiv) (rI (fun _ j=>0<j∧j<18446744073709551616) fun i j=> .int (i/j)):=RO fun i j _ _ _ _ _ hc q=>by
 have h1:(0 :Int) <j:=hc.1
 have h2:j<18446744073709551616:=hc.2
 refine floordiv_int (by omega) (by rw[Int.fdiv_eq_ediv_of_nonneg i (by omega)];exact q) (.inl (PyProof.noPylong_of_log2 ?_))
 have:=(Nat.log2_lt (n:=j.natAbs) (by omega) (k:=64)).mpr (by omega)
 omega
end
end L2
namespace L2
open PySem PySem.Spec PyProof.Rows
section
variable {X:Cx}
end
end L2
namespace L2
open PySem PySem.Spec PyProof.Rows
section
variable {X:Cx}
end
end L2
namespace PySem
structure Heap.nY(h:Heap)(e:Addr)(tb:Option Addr):Prop where
 ex:∃oe vs,h.get? e=some oe∧oe.data= .fields vs∧vs[1]? =some (tb.elim Value.none Value.ref)
 tr:∀T,tb=some T→T≠e∧∃oT ts,h.get? T=some oT∧oT.data= .fields ts∧3<ts.size
structure Heap.Moved(fs:List Addr)(e:Addr)(tb:Option Addr)(h h':Heap):Prop where
 keep:∀b o,h.get? b=some o→b≠e→tb≠some b→b∉fs→h'.get? b=some o
 slot:∀b o,h.get? b=some o→b≠e→tb≠some b→∃sl,h'.get? b=some { o with slots:=sl }
 self:∀o,h.get? e=some o→∃vs,h'.get? e=some { o with data:= .fields vs }
 ent:∀b o,tb=some b→b≠e→h.get? b=some o→∃o',h'.get? b=some o'
 size:h.objs.size≤h'.objs.size
theorem Heap.Moved.there{fs:List Addr}{e:Addr}{tb:Option Addr}{h h':Heap}(m:Heap.Moved fs e tb h h')(b:Addr)(o:Obj)(q:h.get? b=some o):∃o',h'.get? b=some o':=by
 by_cases be:b=e
 ·subst be
  obtain⟨vs,z⟩:=m.self o q
  exact⟨_,z⟩
 ·by_cases bt:tb=some b
  ·exact m.ent b o bt be q
  ·obtain⟨sl,z⟩:=m.slot b o q be bt
   exact⟨_,z⟩
theorem Heap.Moved.refl{fs:List Addr}{e:Addr}{tb:Option Addr}{h:Heap}(x:h.nY e tb):Heap.Moved fs e tb h h:=
 ⟨fun _ _ q _ _ _=>q,fun _ o q _ _=>⟨o.slots,q⟩,fun o q=>by
  obtain⟨oe,vs,he,hd,_⟩:=x.ex
  rw[q] at he
  cases he
  exact⟨vs,by rw[q,←hd]⟩,fun _ o _ _ q=>⟨o,q⟩,Nat.le_refl _⟩
theorem Heap.Moved.trans{fs:List Addr}{e:Addr}{tb tb':Option Addr}{h h1 h2:Heap}(x:Heap.Moved fs e tb h h1)(y:Heap.Moved fs e tb' h1 h2)(n:∀T,tb'=some T→tb=some T∨h.objs.size≤T):Heap.Moved fs e tb h h2 where
 keep:=fun b o q be bt bf=>y.keep b o (x.keep b o q be bt bf) be (fun z=>(n b z).elim bt fun w=>absurd (Heap.lt_size q) (Nat.not_lt.mpr w)) bf
 slot:=fun b o q be bt=>by
  obtain⟨sl,z⟩:=x.slot b o q be bt
  obtain⟨RB,z'⟩:=y.slot b _ z be (fun z=>(n b z).elim bt fun w=>absurd (Heap.lt_size q) (Nat.not_lt.mpr w))
  exact⟨RB,z'⟩
 self:=fun o q=>by
  obtain⟨vs,z⟩:=x.self o q
  obtain⟨vs',z'⟩:=y.self _ z
  exact⟨vs',z'⟩
 ent:=fun b o _ be q=>by
  obtain⟨o1,z⟩:=x.there b o q
  exact y.there b o1 z
 size:=Nat.le_trans x.size y.size
theorem Heap.Moved.mono{fs JF:List Addr}{e:Addr}{tb:Option Addr}{h h':Heap}(x:Heap.Moved fs e tb h h')(k:∀b∈fs,b∈JF):Heap.Moved JF e tb h h':=
 ⟨fun b o q be bt bf=>x.keep b o q be bt fun z=>bf (k b z),x.slot,x.self,x.ent,x.size⟩
theorem vE{o:Obj}{vs:Array Value}(hd:o.data= .fields vs)(f:Array Value→Array Value):o.mapFields f={ o with data:= .fields (f vs) }:=by
 obtain⟨a,b,c,d⟩:=o
 cases hd
 rfl
section
variable {M:Model}{A:Around}{E:Value→Shared→Prop}{s:Shared}
theorem yb{base:Heap}{env:Env}{outer:List Env}{L e:Addr}{oe:Obj}{vs:Array Value}{Q7:Value}{nx:Bool}{Q:Unit→Shared→Prop}(fr:A.frames=some (env::outer))(fl:s.heap.FunFrames base (env::outer))(hL:env.frame=some L)
  (xe:s.heap.get? e=some oe) (xd:oe.data= .fields vs) (xs:1<vs.size)
  (k:∀h' T,h'.nY e (some T)→s.heap.objs.size≤T→Heap.Moved ((env::outer).filterMap (·.frame)) e none s.heap h'→Q () { s with heap:=h' }):
  wpAny M A (do let a←frameOf env;let pl←entryPlaceOf L nx;let b←EntryCells.newEntry Q7 a .none (rawInt L) .none pl;setField (.ref e) 1 b) Q E s:=by
 have ene:e∉(env::outer).filterMap (·.frame):=fun z=>by
  obtain⟨_,o,q,nf⟩:=fl.mem z
  rw[xe] at q
  cases q
  exact nf vs xd
 refine wpAny_bind (wpAny_frameOf_fun fr fl hL fun g1 so=>?_)
 refine wpAny_bind (wpAny_entryPlaceOf fun pl ok=>?_)
 unfold EntryCells.newEntry newFields
 refine wpAny_bind (wpAny_newObj_type ?_ (ok.sizeOk5 _ _ _ _ _))
 have e1:g1.get? e=some oe:=(so.2.1 e ene).trans xe
 generalize hO:({ cls:= .type "traceback",dict:=none,data:= .fields ([Q7, .ref L, .none,rawInt L, .none]++(if pl.isEmpty then List.replicate 6 Value.none else pl)).toArray }:Obj)=ob
 have e2:=Heap.get?_push_of_some (h:=g1) ob e1
 refine wpAny_setField e2 xd xs ?_
 have Te:g1.objs.size≠e:=Nat.ne_of_gt (Heap.lt_size e1)
 have nf:ob.isFreed=false:=by rw[←hO];rfl
 have eT:(g1.push ob).get? g1.objs.size=some ob:=Heap.get?_push_size g1 nf
 have e3:=Heap.get?_update_self (Obj.mapFields (·.setIfInBounds 1 (Value.ref g1.objs.size))) e2 (Obj.isFreed_of_fields (Obj.data_mapFields xd _))
 refine k _ g1.objs.size ⟨⟨_,_,e3,Obj.data_mapFields xd _,by simp [xs]⟩,fun T z=>?_⟩ (Nat.le_of_eq so.1.symm) ⟨fun b o q be _ bf=>?_,fun b o q be _=>?_,fun o q=>?_,fun b o z=>(by cases z),?_⟩
 ·cases z
  refine⟨Te,ob,([Q7, .ref L, .none,rawInt L, .none]++(if pl.isEmpty then List.replicate 6 Value.none else pl)).toArray,?_,by rw[←hO],by simp only [List.size_toArray,List.length_append,List.length_cons,List.length_nil];omega⟩
  rw[Heap.get?_update_other _ _ (Ne.symm Te)]
  exact eT
 ·rw[Heap.get?_update_other _ _ (Ne.symm be)]
  exact Heap.get?_push_of_some _ ((so.2.1 b bf).trans q)
 ·obtain⟨sl,z⟩:=so.2.2 b o q
  refine⟨sl,?_⟩
  rw[Heap.get?_update_other _ _ (Ne.symm be)]
  exact Heap.get?_push_of_some _ z
 ·rw[xe] at q
  cases q
  exact⟨_,e3.trans (by rw[vE xd])⟩
 ·show s.heap.objs.size≤((g1.push ob).update e _).objs.size
  rw[Heap.size_after_update,Heap.size_push,←so.1]
  exact Nat.le_succ _
theorem i3{e:Addr}{tb fr:Option Addr}{Q:Unit→Shared→Prop}(x:s.heap.nY e tb)(k:∀h',h'.nY e tb→Heap.Moved [] e tb s.heap h'→Q () { s with heap:=h' }):wpAny M A (setFlight (.ref e) fr) Q E s:=by
 obtain⟨oe,vs,he,hd,h1⟩:=x.ex
 unfold setFlight
 refine wpAny_bind (wpAny_field he hd h1 ?_)
 cases tb with
 |none=>
  rw[if_neg (by decide)]
  exact wpAny_pure (k _ x (.refl x))
 |some T=>
  obtain⟨ne,oT,ts,hT,dT,sz⟩:=x.tr T rfl
  rw[if_pos (show ((some T).elim Value.none Value.ref != Value.none)=true from by simp)]
  generalize (fr.elim Value.none fun f=>rawInt f)=v3
  refine wpAny_setField hT dT sz ?_
  have he':(s.heap.update T (Obj.mapFields (·.setIfInBounds 3 v3))).get? e=some oe:=(Heap.get?_update_other _ _ ne).trans he
  have YV:=Heap.get?_update_self (Obj.mapFields (·.setIfInBounds 3 v3)) hT (Obj.isFreed_of_fields (Obj.data_mapFields dT _))
  refine k _ ⟨⟨oe,vs,he',hd,h1⟩,fun T' z=>?_⟩ ⟨fun b o q _ bt _=>?_,fun b o q _ bt=>⟨o.slots,?_⟩,fun o q=>?_,fun b o z _ _=>?_,?_⟩
  ·cases z
   exact⟨ne,_,_,YV,Obj.data_mapFields dT _,by simp [sz]⟩
  ·exact(Heap.get?_update_other _ _ fun z=>bt (by rw[z])).trans q
  ·exact(Heap.get?_update_other _ _ fun z=>bt (by rw[z])).trans q
  ·rw[he] at q
   cases q
   exact⟨vs,by rw[he',←hd]⟩
  ·cases z
   exact⟨_,YV⟩
  ·show s.heap.objs.size≤(s.heap.update T _).objs.size
   rw[Heap.size_after_update]
   exact Nat.le_refl _
theorem vF{base:Heap}{env:Env}{outer:List Env}{L e:Addr}{tb:Option Addr}{Q:Unit→Shared→Prop}(fr:A.frames=some (env::outer))(fl:s.heap.FunFrames base (env::outer))(hL:env.frame=some L)(x:s.heap.nY e tb)
  (k:∀h' T,h'.nY e (some T)→tb=some T∨s.heap.objs.size≤T→Heap.Moved ((env::outer).filterMap (·.frame)) e tb s.heap h'→Q () { s with heap:=h' }):wpAny M A (noteFrame (.ref e) env) Q E s:=by
 obtain⟨oe,vs,he,hd,h1⟩:=id x.ex
 have sz1:1<vs.size:=(Array.getElem?_eq_some_iff.mp h1).1
 unfold noteFrame
 simp only [hL]
 refine wpAny_bind (wpAny_field he hd h1 ?_)
 cases tb with
 |none=>
  rw[if_neg (by decide)]
  exact yb fr fl hL he hd sz1 fun h' T a b c=>k h' T a (.inr b) c
 |some T=>
  obtain⟨ne,oT,ts,hT,dT,sz⟩:=x.tr T rfl
  rw[if_pos (show ((some T).elim Value.none Value.ref != Value.none)=true from by simp)]
  have h3:ts[3]? =some ts[3]:=Array.getElem?_eq_getElem sz
  refine wpAny_bind (wpAny_field hT dT h3 ?_)
  by_cases c:(ts[3]==rawInt L)=true
  ·rw[if_pos c]
   exact wpAny_pure (k _ T x (.inl rfl) (.refl x))
  ·rw[if_neg c]
   refine wpAny_bind (wpAny_setField hT dT sz ?_)
   have ot:∀b,b≠T→(s.heap.update T (Obj.mapFields (·.setIfInBounds 3 Value.none))).get? b=s.heap.get? b:=fun b z=>Heap.get?_update_other _ _ (Ne.symm z)
   have YV:=Heap.get?_update_self (Obj.mapFields (·.setIfInBounds 3 Value.none)) hT (Obj.isFreed_of_fields (Obj.data_mapFields dT _))
   have zs:(s.heap.update T (Obj.mapFields (·.setIfInBounds 3 Value.none))).objs.size=s.heap.objs.size:=Heap.size_after_update ..
   refine yb (s:={ s with heap:=s.heap.update T (Obj.mapFields (·.setIfInBounds 3 Value.none)) }) fr (fl.of_keeps fun b o q nf=>⟨o,(ot b fun z=>?_).trans q,rfl⟩) hL ((ot e (Ne.symm ne)).trans he) hd sz1 fun h' T' a b c=>k h' T' a (.inr (by rw[←zs];exact b)) ?_
   ·rw[z,hT] at q
    cases q
    exact nf ts dT
   ·refine⟨fun b o q be bt bf=>c.keep b o ((ot b fun z=>bt (by rw[z])).trans q) be (fun z=>by cases z) bf,fun b o q be bt=>c.slot b o ((ot b fun z=>bt (by rw[z])).trans q) be fun z=>(by cases z),fun o q=>c.self o ((ot e (Ne.symm ne)).trans q),fun b o z be q=>?_,?_⟩
    ·cases z
     exact c.there _ _ YV
    ·rw[←zs]
     exact c.size
theorem FK{base:Heap}{env:Env}{outer:List Env}{L e:Addr}{tb:Option Addr}{Q:Unit→Shared→Prop}(fr:A.frames=some (env::outer))(fl:s.heap.FunFrames base (env::outer))(hL:env.frame=some L)(x:s.heap.nY e tb)
  (k:∀h' T,h'.nY e (some T)→tb=some T∨s.heap.objs.size≤T→Heap.Moved ((env::outer).filterMap (·.frame)) e tb s.heap h'→Q () { s with heap:=h' }):wpAny M A (leaving env (.ref e)) Q E s:=by
 unfold leaving
 refine wpAny_bind (vF fr fl hL x fun h1 T a b c=>i3 (s:={ s with heap:=h1 }) a fun h2 a' c'=>k h2 T a' b (c.trans (c'.mono fun _ z=>absurd z (by simp)) fun T' z=>?_))
 cases z
 exact b
theorem Kg{env:Env}{e T:Addr}{Q:Unit→Shared→Prop}(x:s.heap.nY e (some T))(k:∀h',h'.nY e (some T)→Heap.Moved [] e (some T) s.heap h'→Q () { s with heap:=h' }):
  wpAny M A (do
   if (←field (.ref e) 1)== .none then unsupported "frame.own-activation:exception-without-traceback"
   setFlight (.ref e) env.frame) Q E s:=by
 obtain⟨oe,vs,he,hd,h1⟩:=id x.ex
 refine wpAny_bind (wpAny_field he hd h1 ?_)
 rw[if_neg (by simp)]
 exact i3 x k
end
end PySem
namespace PySem.W
open PySem PySem.Calls PyProof.Rows PySem.Builtin PySem.Builtin.ObjectAttr
abbrev yc:List Value:=[.type "ValueError", .type "Exception", .type "BaseException", .type "object"]
structure gw(K:Frag)(C HE f:Addr):Prop where
 obj:∃(nm q:Str) (N:Addr) (bs:List Value) (sn:List Str) (sub:List Value) (ab:Bool) (col:Option Bool) (dd:Option Addr) (k0 k1 k2 k3 k5:Option Value),
  K.lookup C=some (excClassObj nm q C N bs (.ref HE::yc) true sn sub ab col dd k0 k1 k2 k3 k5 "ValueError.__new__")
 init:findIn K (.ref C) "__init__" =some (some (.ref f))
 fn:typeIn K (.ref f)=some (.type "function")
 sa:findIn K (.ref C) "__setattr__" =some (some (.builtin "object.__setattr__"))
 ga:findIn K (.ref C) "__getattribute__" =some (some (.builtin "BaseException.__getattribute__"))
 gh:findIn K (.ref C) "__getattr__" =some none
theorem jm{C HE:Addr}{T:String}{b:Bool}(h:yc.contains (.type T)=b):(Value.ref C:: .ref HE::yc).contains (.type T)=b:=by
 rw[List.contains_cons,List.contains_cons,h]
 rfl
section
variable {prog:Program}{w:World}{A:Around}{E:Value→Shared→Prop}{R:Result→Shared→Prop}{h:Heap}{g:Array GenState}{d:Drawn}{t:Nat}{os:OsState}
variable {nm q:Str}{C N HE:Addr}{bs:List Value}{sn:List Str}{sub:List Value}{ab:Bool}{col:Option Bool}{dd:Option Addr}{k0 k1 k2 k3 k5:Option Value}
abbrev qJ(vs:List Value):Obj:={ cls:= .type "tuple",data:= .seq vs.toArray }
abbrev qK(C t:Addr):Obj:={ cls:= .ref C,data:= .fields #[.ref t, .none, .none, .none, .bool false, .none] }
theorem vG{M:Model}{rest:List Value}{Q:Unit→Shared→Prop}(kC:h.get? C=some (excClassObj nm q C N bs (.ref HE::yc) true sn sub ab col dd k0 k1 k2 k3 k5 "ValueError.__new__"))
  (z:Q () ⟨h,g,d,t,os⟩):wpAny M A (checkBuiltinCall "ValueError.__new__" ⟨.ref C::rest,[]⟩) Q E ⟨h,g,d,t,os⟩:=by
 have F:=PySem.F.excBase_ValueError
 have c1:(Value.ref C:: .ref HE::yc).contains (.type "ValueError")=true:=jm (by decide+kernel)
 have f0:=F.noStar
 simp only [checkBuiltinCall,F.newKind,F.newSplit,F.newRow]
 repeat (first|refine wpAny_loadPart_at kC ?_| (refine wpAny_isSubtype_exc kC ?_;rw[c1]) |refine wpAny_staticBase_exc kC ?_|refine wpAny_madeBy_exc kC ?_|simp only [bne_self_eq_false,Bool.false_eq_true,if_false] |wp_step)
 exact z
theorem Ou{rest:List Value}(kC:h.get? C=some (excClassObj nm q C N bs (.ref HE::yc) true sn sub ab col dd k0 k1 k2 k3 k5 "ValueError.__new__"))
  (z:R (.ok (.ret (.ref (h.objs.size+1)))) ⟨(h.push (qJ rest)).push (qK C h.objs.size),g,d,t,os⟩) (hz:rest.length≤sizeLine):
  codeAny (model prog w) A (.builtin "ValueError.__new__" ⟨.ref C::rest,[]⟩) R ⟨h,g,d,t,os⟩:=by
 have F:=PySem.F.excBase_ValueError
 have f0:=F.ends
 have c1:(Value.ref C:: .ref HE::yc).contains (.type "ValueError")=true:=jm (by decide+kernel)
 have c2:(Value.ref C:: .ref HE::yc).contains (.type "AttributeError")=false:=jm (by decide+kernel)
 have c3:(Value.ref C:: .ref HE::yc).contains (.type "NameError")=false:=jm (by decide+kernel)
 refine codeAny_builtinAt F.entry ?_
 unfold Builtin.«BaseException.__new__»
 refine wpAt_bind ?_
 show wpAt _ _ _ (stack >>= _) _ _ _
 refine wpAt_bind (wpAt_stack fun p below=>wpAt_of_wpAny ?_)
 wp_walk
 refine wpAt_of_wpAny ?_
 rw[F.owner]
 repeat (first|with_reducible refine wpAny_madeHere_exc F.canon kC ?_|with_reducible refine wpAny_loadPart_at kC ?_| (with_reducible refine wpAny_isSubtype_exc kC ?_;first|rw[c1] |rw[c2] |rw[c3]) |wp_step)
 show R _ _
 rw[Heap.size_push]
 exact z
end
section
variable {prog:Program}{w:World}{A:Around}{E:Value→Shared→Prop}{R:Result→Shared→Prop}{s:Shared}{K:Frag}{C HE f:Addr}
theorem Kh{vs:List Value}(X:K.In s.heap)(Z:gw K C HE f)(hz:vs.length≤sizeLine)
  (k:codeAny (model prog w) (A.under (.builtin "type.__call__" ⟨.ref C::vs,[]⟩)) (.call (.ref f) ⟨.ref (s.heap.objs.size+1)::vs,[]⟩) (InitBack (s.heap.objs.size+1) R) { s with heap:=(s.heap.push (qJ vs)).push (qK C s.heap.objs.size) }):
  codeAny (model prog w) A (.call (.ref C) ⟨vs,[]⟩) R s:=by
 obtain⟨hp,g,d,t,os⟩:=s
 obtain⟨nm,q,N,bs,sn,sub,ab,col,dd,k0,k1,k2,k3,k5,hK⟩:=Z.obj
 have kC:=X _ _ hK
 have F:=PySem.F.excBase_ValueError
 have f1:=tc_lookup
 have f2:=tc_bind (.ref C)
 have hT:(⟨hp,g,d,t,os⟩:Shared).TypeIs (.ref C) "type" :=⟨_,kC,rfl⟩
 refine codeAny_of_tree ?_
 show wpAny _ _ (callAny (.ref C) _) _ _ _
 repeat (any_goals (first|assumption|with_reducible refine wpAny_loadPart_at kC ?_|wp_step))
 refine⟨rfl,?_⟩
 refine codeAny_call_builtin_at (Code.quiet_builtin _ (by decide+kernel)) entry_typeCall (wpAny_check_type_call_sub kC ?_)
 repeat (first|with_reducible refine wpAny_loadPart_at kC ?_|with_reducible refine wpAny_madeBy_exc kC ?_|wp_step)
 refine codeAny_call_builtin_code (Code.quiet_builtin _ F.quiet) (vG kC ?_)
 refine Ou kC ?_ hz
 show wpAny _ _ _ _ _ _
 have keeps:∀b o,hp.get? b=some o→((hp.push (qJ vs)).push (qK C hp.objs.size)).get? b=some o:=fun b o e=>Heap.get?_push_of_some _ (Heap.get?_push_of_some _ e)
 have kC1:=keeps _ _ kC
 have X1:K.In ((hp.push (qJ vs)).push (qK C hp.objs.size)):=fun b o e=>keeps b o (X b o e)
 have eg:((hp.push (qJ vs)).push (qK C hp.objs.size)).get? (hp.objs.size+1)=some (qK C hp.objs.size):=by heap_get
 have c0:(Value.ref C:: .ref HE::yc).contains (.ref C)=true:=by simp
 unfold isInstance
 repeat (first|with_reducible refine wpAny_loadPart_at eg ?_|wp_step)
 show wpAny _ _ (isSubtype (.ref C) (.ref C)) _ _ _
 refine wpAny_isSubtype_exc kC1 ?_
 rw[c0]
 repeat (first|with_reducible refine wpAny_loadPart_at eg ?_|wp_step)
 show wpAny _ _ (typeLookup (.ref C) _) _ _ _
 refine looks_findIn X1 Z.init _ _ _ _ (fun _ _ e=>e) ?_
 refine wpAny_holding (wpAny_bind (bind_fn X1 _ Z.fn _ _ _ _ (fun _ _ e=>e) ?_))
 refine wpAny_bind (wpAny_call (codeAny_mono k fun r s' y=>?_))
 cases r with
 |error z=>exact y
 |ok fl=>
  cases fl with
  |ret u=>
   obtain⟨eu,y⟩:=y
   subst eu
   exact wpAny_pure (wpAny_pure y)
  |next=>exact y.elim
  |brk=>exact y.elim
  |cont=>exact y.elim
end
section
variable {prog:Program}{w:World}{A:Around}{E:Value→Shared→Prop}{R:Result→Shared→Prop}{s:Shared}{K:Frag}{C HE f e:Addr}{ox:Obj}{od:Option Obj}{vs:Array Value}{name:Str}{v:Value}{tk:Tok}
theorem gw.cd(Z:gw K C HE f):∃cd,clsIn K C=some cd∧cd.mro= .ref C:: .ref HE::yc∧cd.hasDict=true:=by
 obtain⟨nm,q,N,bs,sn,sub,ab,col,dd,k0,k1,k2,k3,k5,hK⟩:=Z.obj
 exact⟨_,by unfold clsIn;rw[hK],rfl,rfl⟩
theorem gw.mro(Z:gw K C HE f){T:String}{b:Bool}(h:yc.contains (.type T)=b):mroIn K C (.type T)=some b:=by
 obtain⟨cd,a,m,_⟩:=Z.cd
 unfold mroIn
 rw[a,Option.bind_some,m,jm h]
 rfl
theorem FL(X:K.In s.heap)(Z:gw K C HE f)(I:InstAt s.heap e ox C od)(ht:takerIn K C name=some none)
  (k:∀b,wpAny (model prog w) A.in1 (storeInOwnDict (.ref e) (.ref C) (.str name tk) name v b)
   (fun fin s'=>match fin with| .done f=>R (.ok f) s'| .again c'=>c'.quiet=true∧codeAny (model prog w) A c' R s') (fun e s'=>R (.error e) s') s):
  codeAny (model prog w) A (.call (.builtin "object.__setattr__") ⟨[.ref e, .str name tk,v],[]⟩) R s:=by
 have SO:=PySem.F.store_object
 obtain⟨cd,hc,hm,_⟩:=Z.cd
 have sub:Looks (model prog w) s.heap (isInstance (.ref e) (.type "object")) true:=I.type.andThen (looks_mroIn X (Z.mro (by decide+kernel)))
 refine codeAny_call_builtin SO.slot.plain SO.entry (@check_slot (model prog w) _ _ s "object.__setattr__" "object" "__setattr__" (.ref e) [.str name tk,v] [] _ SO.kind SO.split sub (SO.args (.ref e) (.str name tk) v) ?_)
 obtain⟨attr,ha,hr⟩:=Option.bind_eq_some_iff.mp ht
 have lm:Looks (model prog w) s.heap (mroOf (.ref C)) cd.mro:=(looks_clsIn X hc).andThen .now
 have l3:Looks (model prog w) s.heap (storeTaker? attr) none:=by
  cases attr with
  |none=>exact .now
  |some a=>
   obtain⟨b,hb,eb⟩:=Option.map_eq_some_iff.mp hr
   refine(looks_takesIn X hb).andThen ?_
   cases b with
   |true=>cases eb
   |false=>exact .now
 rw[osa_eq,refuse_eq]
 refine wpAny_bind (wpAny_bind (I.type.here (wpAny_bind (lm.here ?_))))
 rw[hm,refuseLoop_ref,refuseLoop_ref,PySem.F.store_ValueError.passes]
 exact wpAny_pure (wpAny_bind (I.type.here (wpAny_bind ((looks_findIn X ha).here (wpAny_bind (l3.here (k _)))))))
theorem Ki{Q:Unit→Shared→Prop}(X:K.In s.heap)(Z:gw K C HE f)(ht:takerIn K C name=some none)(hx:s.heap.get? e=some ox)(hc:ox.cls= .ref C)(hd:ox.data= .fields vs)(hn:ox.dict=none)
  (k:∀h' Of,h'.get? e=some { ox with dict:=some s.heap.objs.size }→h'.Ns1 s.heap.objs.size (fun y=>if y=name then some v else none)→(∀b o,b≠e→s.heap.get? b=some o→h'.get? b=some o)→Q () { s with heap:=h',toks:=Of }):
  wpAny (model prog w) A (setAttr (.ref e) name v) Q E s:=by
 have I:InstAt s.heap e ox C none:=⟨hx,hc,by unfold notCls;rw[hd],by rw[hn];trivial⟩
 obtain⟨cd,qj,_,hh⟩:=Z.cd
 refine set_plain X I Z.sa (FL (s:={ s with toks:=s.toks+1 }) X Z I ht fun b=>?_)
 obtain⟨oc,YW,oda,sv⟩:=ox
 dsimp only at hc hd hn
 subst hc hd hn
 refine wpAny_bind (wpAny_pure (wpAny_bind (wpAny_bind (wpAny_loadPart hx (wpAny_bind (Looks.here (s:={ s with toks:=s.toks+1 }) (looks_clsIn X qj) ?_))))))
 rw[hh]
 have xs:e≠s.heap.objs.size:=Nat.ne_of_lt (Heap.lt_size hx)
 rw[if_neg (by decide)]
 have Q8:=Heap.get?_push_of_some (h:=s.heap) { cls:= .type "dict",data:= .dict #[] } hx
 refine wpAny_bind (wpAny_alloc' (wpAny_bind (wpAny_update' Q8 (wpAny_pure ?_))))
 generalize hG:(s.heap.push { cls:= .type "dict",data:= .dict #[] }).update e (fun o=>{ cls:=o.cls,dict:=some s.heap.objs.size,data:=o.data,slots:=o.slots })=G
 have gd:G.get? s.heap.objs.size=some { cls:= .type "dict",data:= .dict #[] }:=by
  rw[←hG]
  exact(Heap.get?_update_ne _ _ _ _ (Ne.symm xs)).trans (Heap.get?_push_at rfl rfl)
 have gx:G.get? e=some { cls:= .ref C,dict:=some s.heap.objs.size,data:= .fields vs,slots:=sv }:=by
  rw[←hG]
  exact Heap.get?_update_self _ Q8 rfl
 have go:∀b o,b≠e→s.heap.get? b=some o→G.get? b=some o:=fun b o be q=>by
  rw[←hG]
  exact(Heap.get?_update_ne _ _ _ _ be).trans (Heap.get?_push_of_some _ q)
 have gn:G.Ns s.heap.objs.size (fun _=>none):=⟨_,#[],_,gd,rfl,fun y hy=>absurd hy (by simp),fun _=>rfl⟩
 show wpAny _ _ (storeInDict s.heap.objs.size (.str name s.toks) name v) _ _ { s with heap:=G,toks:=s.toks+1 }
 unfold storeInDict newKeyGuard
 refine wpAny_bind (wpAny_pure (wpAny_bind (wpAny_nsSet1 (s:={ s with heap:=G,toks:=s.toks+1 }) (Heap.Ns1.of_empty gn) fun h' n2 s2=>?_)))
 obtain⟨o2,e2,p2,q2,d2,c2⟩:=n2.count (PySem.Within.cons name v PySem.Within.nil)
 refine wpAny_bind (wpAny_lookBehind q2 (by rw[d2];exact pastItsLine_dict (Nat.le_trans c2 (by rw[List.length_cons,List.length_nil,sizeLine_eq];omega))) ?_)
 exact wpAny_pure (k _ _ ((s2.2 e xs).trans gx) n2 fun b o be q=>(s2.2 b (Nat.ne_of_lt (Heap.lt_size q))).trans (go b o be q))
theorem Kj{Q:Unit→Shared→Prop}{dx:Addr}{mA:Str→Option Value}{ns:List Str}(X:K.In s.heap)(Z:gw K C HE f)(ht:takerIn K C name=some none)(hx:s.heap.get? e=some ox)(hc:ox.cls= .ref C)(hd:ox.data= .fields vs)(hn:ox.dict=some dx)
  (N1:s.heap.Ns1 dx mA) (hw:PySem.Within mA ns) (hsz:ns.length≤1000)
  (k:∀h',h'.Ns1 dx (fun y=>if y=name then some v else mA y)→Heap.SameBut dx s.heap h'→Q () { s with heap:=h',toks:=s.toks+2 }):
  wpAny (model prog w) A (setAttr (.ref e) name v) Q E s:=by
 obtain⟨oD,ed,pd,hod,dD,_⟩:=id N1
 have I:InstAt s.heap e ox C (some oD):=⟨hx,hc,by unfold notCls;rw[hd],by rw[hn];exact hod⟩
 obtain⟨cd,qj,_,hh⟩:=Z.cd
 refine set_plain X I Z.sa (FL (s:={ s with toks:=s.toks+1 }) X Z I ht fun b=>?_)
 obtain⟨oc,YW,oda,sv⟩:=ox
 dsimp only at hc hd hn
 subst hc hd hn
 refine wpAny_bind (wpAny_pure (wpAny_bind (wpAny_bind (wpAny_loadPart hx (wpAny_bind (Looks.here (s:={ s with toks:=s.toks+1 }) (looks_clsIn X qj) ?_))))))
 rw[hh]
 refine wpAny_pure (a:=some dx) (wpAny_bind (wpAny_pure (wpAny_bind ?_)))
 refine wpAny_nsSet1 (s:={ s with toks:=s.toks+1 }) N1 fun h' n2 s2=>?_
 obtain⟨o2,e2,p2,q2,d2,c2⟩:=n2.count (PySem.Within.cons name v hw)
 refine wpAny_bind (wpAny_lookBehind q2 (by rw[d2];exact pastItsLine_dict (Nat.le_trans c2 (by rw[List.length_cons,sizeLine_eq];omega))) ?_)
 exact wpAny_pure (k _ n2 s2)
end
section
variable {M:Model}{A:Around}{E:Value→Shared→Prop}{s:Shared}{K:Frag}{env:Env}
theorem FN{x:Sem Value}{Q:Flow→Shared→Prop}(ha:A.handled=none)
  (k:wpAny M A x (fun v s1=>∃e oe vs C HE f,v= .ref e∧K.In s1.heap∧gw K C HE f∧s1.heap.get? e=some oe∧oe.cls= .ref C∧oe.data= .fields vs∧vs[1]? =some .none∧E (.ref e) s1) E s):wpAny M A (raiseStmt env (some x) none) Q E s:=by
 unfold raiseStmt
 refine wpAny_bind (wpAny_mono k (fun v s1 y=>?_) fun _ _ y=>y)
 obtain⟨e,oe,vs,C,HE,f,rfl,X,Z,he,hc,hd,h1,hE⟩:=y
 have cB:(Value.ref C:: .ref HE::yc).contains (.type "BaseException")=true:=jm (by decide+kernel)
 obtain⟨nm,q,N,bs,sn,sub,ab,col,dd,k0,k1,k2,k3,k5,hK⟩:=Z.obj
 have kC:=X _ _ hK
 obtain⟨hp,g,d,tk,os⟩:=s1
 obtain⟨oc,YW,oda,sv⟩:=oe
 dsimp only at hc hd
 subst hc hd
 repeat (first|with_reducible refine wpAny_loadPart_at he ?_|with_reducible refine wpAny_loadPart_at kC ?_| (with_reducible refine wpAny_isSubtype_exc kC ?_;rw[cB]) |wp_step)
 rw[h1]
 refine wpAny_pure ?_
 rw[if_neg (by decide)]
 exact wpAny_pure (wpAny_raiseNew_none ha hE)
end
section
variable {prog:Program}{w:World}{A:Around}{E:Value→Shared→Prop}{s:Shared}{K:Frag}{C HE f e:Addr}{ox:Obj}{vs:Array Value}
theorem FO{us:List Value}{Q:Value→Shared→Prop}(X:K.In s.heap)(Z:gw K C HE f)(hx:s.heap.get? e=some ox)(hc:ox.cls= .ref C)(hd:ox.data= .fields vs)(h0:0<vs.size)(hz:us.length≤sizeLine)
  (k:∀h',h'.get? e=some { ox with data:= .fields (vs.setIfInBounds 0 (.ref s.heap.objs.size)) }→(∀b o,b≠e→s.heap.get? b=some o→h'.get? b=some o)→Q .none { s with heap:=h' }):
  wpAny (model prog w) A (call (.builtin "ValueError.__init__") (.ref e::us)) Q E s:=by
 have F:=PySem.F.excBase_ValueError
 obtain⟨nm,q,N,bs,sn,sub,ab,col,dd,k0,k1,k2,k3,k5,hK⟩:=Z.obj
 have kC:=X _ _ hK
 have c1:(Value.ref C:: .ref HE::yc).contains (.type "ValueError")=true:=jm (by decide+kernel)
 obtain⟨hp,g,d,t,os⟩:=s
 obtain⟨oc,YW,oda,sv⟩:=ox
 dsimp only at hc hd
 subst hc hd
 refine wpAny_call (codeAny_call_builtin F.init.plain F.initEntry ?_)
 have f0:=F.noStar
 simp only [checkBuiltinCall,F.initKind,F.initSplit,F.initRow]
 repeat (first|with_reducible refine wpAny_loadPart_at hx ?_|with_reducible refine wpAny_loadPart_at kC ?_| (with_reducible refine wpAny_isSubtype_exc kC ?_;rw[c1]) |wp_step)
 refine wpAny_onRaise ?_
 rw[show∀(a b:String) (n:Nat),Bind.check ⟨.positional,"*","ValueError", .self,[⟨"args", .varPos,false⟩]⟩ a b n (List.map (fun x=>x.fst) ({ pos:=Value.ref e::us }:Args).kw)=pure () from fun a b n=>check_star_args _ _ _ _ _ _]
 refine wpAny_pure ?_
 wp_walk
 rw[show vs[0]? =some vs[0] from Array.getElem?_eq_getElem h0]
 refine wpAny_pure (wpAny_bind (wpAny_setField (Heap.get?_push_of_some _ hx) rfl h0 ?_))
 generalize hG:((hp.push (qJ us)).update e (Obj.mapFields (·.setIfInBounds 0 (Value.ref hp.objs.size))))=G
 have gx:G.get? e=some { cls:= .ref C,dict:=YW,data:= .fields (vs.setIfInBounds 0 (.ref hp.objs.size)),slots:=sv }:=by
  rw[←hG]
  exact Heap.get?_update_self (Obj.mapFields (·.setIfInBounds 0 (Value.ref hp.objs.size))) (Heap.get?_push_of_some (qJ us) hx) rfl
 have go:∀b o,b≠e→hp.get? b=some o→G.get? b=some o:=fun b o be q=>by
  rw[←hG]
  exact(Heap.get?_update_other _ _ (Ne.symm be)).trans (Heap.get?_push_of_some _ q)
 have fin:=k G gx go
 generalize vs[0]=v0
 cases v0 with
 |ref a=>
  dsimp only
  repeat wp_step
  exact fin
 |_=>exact wpAny_pure (wpAny_pure fin)
end
end PySem.W
namespace L2
open PySem PySem.Spec PyProof.Rows
def Bn(dx:Addr)(fs:List (Str×V)):HO:= .ext fun h=>∃mA,h.Ns1 dx mA∧(∀f,iN (fs.lookup f) (mA f))∧PySem.Within mA (fs.map (·.1))
def tR(e C:Addr)(dx:Option Addr):HO:= .ext fun h=>∃o vs,h.get? e=some o∧o.cls= .ref C∧o.dict=dx∧o.data= .fields vs∧vs[1]? =some .none
def FP(e C:Addr)(dx:Option Addr):HO:= .ext fun h=>∃o vs,h.get? e=some o∧o.cls= .ref C∧o.dict=dx∧o.data= .fields vs
section
variable {P:Program}{w:World}{H:Hp}{h:Heap}{e C dx:Addr}{od:Option Addr}{o:Obj}{vs:Array Value}
theorem Ms(he:h.get? e=some o)(hc:o.cls= .ref C)(hd:o.dict=od)(hf:o.data= .fields vs):cn P w H h e (FP e C od):=
 ⟨⟨o,vs,he,hc,hd,hf⟩,⟨o,he⟩,fun _ _ ⟨o,vs,a,b⟩ k=>⟨o,vs,k _ a,b⟩⟩
theorem FQ(he:h.get? e=some o)(hc:o.cls= .ref C)(hd:o.dict=od)(hf:o.data= .fields vs)(h1:vs[1]? =some .none):cn P w H h e (tR e C od):=
 ⟨⟨o,vs,he,hc,hd,hf,h1⟩,⟨o,he⟩,fun _ _ ⟨o,vs,a,b⟩ k=>⟨o,vs,k _ a,b⟩⟩
theorem Mt{fs:List (Str×V)}{mA:Str→Option Value}(n:h.Ns1 dx mA)(r:∀f,iN (fs.lookup f) (mA f))(wi:PySem.Within mA (fs.map (·.1))):cn P w H h dx (Bn dx fs):=by
 obtain⟨o,es,ep,ho,z⟩:=id n
 exact⟨⟨mA,n,r,wi⟩,⟨o,ho⟩,fun _ _ ⟨m,⟨o,es,ep,ho,z⟩,r⟩ k=>⟨m,⟨o,es,ep,k _ ho,z⟩,r⟩⟩
theorem FR(ok:jR P w H h)(q:H e=some (FP e C od)):∃o vs,h.get? e=some o∧o.cls= .ref C∧o.dict=od∧o.data= .fields vs:=(ok e _ q).1
theorem vH(ok:jR P w H h)(q:H e=some (tR e C od)):∃o vs,h.get? e=some o∧o.cls= .ref C∧o.dict=od∧o.data= .fields vs∧vs[1]? =some .none:=(ok e _ q).1
theorem Ov{fs:List (Str×V)}(ok:jR P w H h)(q:H dx=some (Bn dx fs)):∃mA,h.Ns1 dx mA∧(∀f,iN (fs.lookup f) (mA f))∧PySem.Within mA (fs.map (·.1)):=(ok dx _ q).1
end
structure j6(X:Cx)(T:Addr):Prop where
 above:X.s₀.heap.objs.size≤T
 loc:T≠X.env.locals
 cell:∀x c,X.env.cells.lookup x=some c→c≠T
 pn:∀p∈X.pn,p.1≠T
section
variable {X:Cx}{pins:List (Addr×Obj)}{σ:St}{H:Hp}{s:Shared}{e C:Addr}{od tb:Option Addr}{h':Heap}{ER:St→XK}{v:Value}
theorem Inv.Mu(I:Inv X pins σ H s){T:Addr}(h:s.heap.objs.size≤T):j6 X T:=by
 refine⟨Nat.le_trans I.sz h,fun z=>?_,fun x c q z=>?_,fun p hp z=>?_⟩
 ·subst z
  exact absurd I.lt (Nat.not_lt.mpr h)
 ·obtain⟨_,o,ho,_⟩:=I.cell x c q
  subst z
  exact absurd (Heap.lt_size ho) (Nat.not_lt.mpr h)
 ·have q:=(I.pin p (List.mem_append_left _ hp)).1
  rw[z] at q
  exact absurd (Heap.lt_size q) (Nat.not_lt.mpr h)
def mB(X:Cx)(ER:St→XK)(v:Value)(s:Shared):Prop:=
 ∃e C dx σ H tb,v= .ref e∧Inv X [] σ H s∧H e=some (FP e C dx)∧s.heap.nY e tb∧(∀T,tb=some T→H T=none∧j6 X T)∧ER σ (.ref C) dx H
def Lets(X:Cx)(ER:St→XK):Prop:=∀v s,mB X ER v s→X.xe v s
theorem j6.dX{E:Value→Shared→Prop}{T:Addr}(n:j6 (X.jV E) T):j6 X T:=⟨n.above,n.loc,n.cell,n.pn⟩
theorem mB.dX{E:Value→Shared→Prop}(z:mB (X.jV E) ER v s):mB X ER v s:=by
 obtain⟨e,C,dx,σ,H,tb,ev,I,he,fl,ht,hE⟩:=z
 exact⟨e,C,dx,σ,H,tb,ev,I.dX,he,fl,fun T q=>⟨(ht T q).1,(ht T q).2.dX⟩,hE⟩
theorem yd:Lets (X.jV (mB X ER)) ER:=fun _ _ z=>z.dX
theorem Inv.Mv(I:Inv X pins σ H s):Inv X [] σ H s:=I.vh fun p hp=>absurd hp (by simp)
theorem Inv.moved(I:Inv X [] σ H s)(he:H e=some (FP e C od))(ht:∀T,tb=some T→H T=none∧j6 X T)(m:Heap.Moved (xu X.stack) e tb s.heap h'):Inv X [] σ H { s with heap:=h' }:=by
 have ne:∀b,H b=none→b≠e:=fun b n z=>by
  subst z
  rw[he] at n
  cases n
 refine I.E4 (s':={ s with heap:=h' }) (H':=H) (ch:=tb.toList) rfl ⟨fun b o q n hb hx=>m.keep b o q (ne b n) (fun z=>hx (by rw[z];simp)) hb,fun b o q n hb hx=>m.slot b o q (ne b n) fun z=>hx (by rw[z];simp),fun _ _ _ n _=>n,fun b o q _=>m.there b o q,
  fun _ _ q=>q,fun _ _ _ q=>q,fun _ ps q=>⟨#[],by simpa using q⟩⟩ (fun a o q=>?_) I.bare fun b hb=>?_
 ·by_cases ae:a=e
  ·subst ae
   rw[he] at q
   cases q
   obtain⟨o,vs,h1,h2,h3,h4⟩:=FR I.aV he
   obtain⟨vs',z⟩:=m.self o h1
   exact Ms z h2 h3 rfl
  ·refine(I.aV a o q).sI (fun b u hb z=>?_) (fun _ q=>q) fun _ _ q=>q
   have Dk:∃o',H b=some o':=by
    rcases hb with hb|hb
    ·exact⟨o,by rw[hb];exact q⟩
    ·exact⟨_,hb⟩
   obtain⟨o',Dk⟩:=Dk
   refine m.keep b u z (fun z=>?_) (fun z=>?_) fun z=>?_
   ·rcases hb with hb|hb
    ·exact ae (hb.symm.trans z)
    ·rw[z,he] at hb
     cases hb
   ·rw[(ht b z).1] at Dk
    cases Dk
   ·rw[I.vg b z] at Dk
    cases Dk
 ·have z:tb=some b:=by
   cases tb with
   |none=>simp at hb
   |some T=>simp at hb;rw[hb]
  obtain⟨_,n⟩:=ht b z
  exact⟨.inr n.above,Ne.symm (Ne.symm n.loc),n.cell,by simpa using n.pn⟩
def Kk(X:Cx):Prop:=X.stack=X.env::X.outer∧X.env.frame=some X.env.locals
theorem nZ(hs:Kk X)(I:Inv X pins σ H s):X.A.frames=some (X.env::X.outer)∧s.heap.FunFrames X.base (X.env::X.outer):=by
 refine⟨by rw[I.ok.frames,hs.1],?_⟩
 rw[←hs.1]
 exact I.stack
theorem z7(I:Inv X [] σ H s){tb:Option Addr}{T:Addr}(ht:∀T,tb=some T→H T=none∧j6 X T)(b:tb=some T∨s.heap.objs.size≤T):∀T',some T=some T'→H T'=none∧j6 X T':=fun T' z=>by
 cases z
 rcases b with b|b
 ·exact ht T b
 ·exact⟨I.aV.fresh b,I.Mu b⟩
theorem tS(hs:Kk X):PassesOwn (model X.prog X.w) X.A X.env (mB X ER):=by
 intro v s' z
 obtain⟨e,C,dx,σ,H,tb,ev,I,he,fl,ht,hE⟩:=z
 subst ev
 obtain⟨fr,ff⟩:=nZ hs I
 refine vF fr ff hs.2 fl fun h1 T a b m=>?_
 have m1:Heap.Moved (xu X.stack) e tb s'.heap h1:=by unfold xu;rw[hs.1];exact m
 have I1:=I.moved he ht m1
 have t1:=z7 I ht b
 refine Kg (s:={ s' with heap:=h1 }) a fun h2 a2 m2=>?_
 exact⟨e,C,dx,σ,H,some T,rfl,I1.moved he t1 (m2.mono fun _ z=>absurd z (by simp)),he,a2,t1,hE⟩
end
def zw(P:Program)(w:World):Bf:=fun outer H s E v s'=>
 ∃e C dx H' tb,v= .ref e∧s'.os=s.os∧AllBare s'.gens∧Un (xu outer) [] H H' s.heap s'.heap∧jR P w H' s'.heap∧H' e=some (FP e C dx)∧s'.heap.nY e tb∧(∀T,tb=some T→H' T=none∧s.heap.objs.size≤T)∧E (.ref C) dx H'
section
variable {P:Program}{w:World}{K:PySem.W.Frag}{mg:Str→Option Value}{base:Heap}{N ps:List Str}{qual:Str}{scope:Scope}{f:Addr}{cd:Value}{A:Around}{outer:List Env}{s s':Shared}{H:Hp}{E:XK}{v:Value}
theorem ye(z:mB (jg (zw P w) P w K mg base N qual scope f cd A outer s H E) (fun _=>E) v s'):(jg (zw P w) P w K mg base N qual scope f cd A outer s H E).xe v s':=by
 obtain⟨e,C,dx,σ,H',tb,ev,I,he,fl,ht,hE⟩:=z
 subst ev
 obtain⟨fr,ff⟩:=nZ (X:=jg (zw P w) P w K mg base N qual scope f cd A outer s H E) ⟨rfl,rfl⟩ I
 refine FK fr ff rfl fl fun h1 T a b m=>?_
 have I1:=I.moved he ht m
 have t1:=z7 I ht b
 have hB:=I.base
 have ne:∀b,H' b=none→b≠e:=fun b n z=>by
  subst z
  rw[he] at n
  cases n
 have nt:∀b o,s.heap.get? b=some o→tb≠some b:=fun b o q z=>absurd (Heap.lt_size q) (Nat.not_lt.mpr (ht b z).2.above)
 refine⟨e,C,dx,H',some T,rfl,I.os,I.bare,⟨fun b o q n hb hx=>?_,fun b o q n hb hx=>?_,hB.free,fun b o q hx=>?_,hB.pk,hB.pq,hB.pw⟩,I1.aV,he,a,fun T' z=>⟨(t1 T' z).1,(t1 T' z).2.above⟩,hE⟩
 ·refine m.keep b o (hB.keep b o q n hb hx) (ne b (hB.free b o q n hx)) (nt b o q) fun z=>?_
  rcases List.mem_cons.mp (show b∈s.heap.objs.size::xu outer from z) with z|z
  ·exact absurd (Heap.lt_size q) (by rw[z];exact Nat.lt_irrefl _)
  ·exact hb z
 ·obtain⟨sl,z⟩:=hB.slot b o q n hb hx
  obtain⟨RB,z'⟩:=m.slot b _ z (ne b (hB.free b o q n hx)) (nt b o q)
  exact⟨RB,z'⟩
 ·obtain⟨o',z⟩:=hB.there b o q hx
  exact m.there b o' z
def Jv(P:Program)(w:World)(K:PySem.W.Frag)(mg:Str→Option Value)(base:Heap)(N:List Str)(qual:Str)(scope:Scope)(f:Addr)(cd:Value)(A:Around)(outer:List Env)(s:Shared)(H:Hp)(E:XK):Cx:=
 (jg (zw P w) P w K mg base N qual scope f cd A outer s H E).jV (mB (jg (zw P w) P w K mg base N qual scope f cd A outer s H E) fun _=>E)
theorem vI:Lets (Jv P w K mg base N qual scope f cd A outer s H E) (fun _=>E):=fun _ _ z=>z.dX
theorem FT:PassesOwn (model P w) (Jv P w K mg base N qual scope f cd A outer s H E).A (Jv P w K mg base N qual scope f cd A outer s H E).env (Jv P w K mg base N qual scope f cd A outer s H E).xe:=tS (X:=jg (zw P w) P w K mg base N qual scope f cd A outer s H E) ⟨rfl,rfl⟩
theorem Bo{st:List Stmt}{t:TS}(h:lK (Jv P w K mg base N qual scope f cd A outer s H E) st t):lK (jg (zw P w) P w K mg base N qual scope f cd A outer s H E) st t:=fun pins s1 σ H1 D I hw=>
 wpAny_mono (h pins s1 σ H1 D (I.jV _) hw) (fun _ _ q=>q.dX) fun _ _ z=>ye z
theorem EM.FU{x:Str}{st:Stmt}{fd:FuncData}{k:Nat}{sp:Sp}(F:EM K x qual st f fd)(S:ay N ps (aj st))(len:∀vs H Q E,sp vs H Q E→vs.length=ps.length)
  (dv:∀(bp:Value) (A:Around) (outer:List Env) (s:Shared) (H:Hp) (vs:List V) (Q:VK) (E:XK),cT k (A.deeper (envOfC qual (aj st) s.heap.objs.size f bp))→sp vs H Q E→
   ∃t,lK (Jv P w K mg base N qual (aj st) f bp A outer s H E) (aR st) t∧t { nx:=fun _ H'=>Q .cS H',rt:=Q } (start N vs) H):fj P w K mg base (zw P w) (k+1) f fd ps sp:=by
 obtain⟨oc,od,kV,doc,pm,an,bp,ct,sv,rfl,lk,qj⟩:=F.ex
 refine fn_of lk qj S len fun A outer s H vs Q E hr Bg=>?_
 obtain⟨t,h,q⟩:=dv bp A outer s H vs Q E hr Bg
 exact⟨t,Bo h,q⟩
theorem x6.FU{x:Str}{st:Stmt}{fd:FuncData}{dV:Value}{k:Nat}{sp:Sp}(F:x6 K x qual st f fd dV)(S:ay N ps (aj st))(len:∀vs H Q E,sp vs H Q E→vs.length=ps.length)
  (dv:∀(bp:Value) (A:Around) (outer:List Env) (s:Shared) (H:Hp) (vs:List V) (Q:VK) (E:XK),cT k (A.deeper (envOfC qual (aj st) s.heap.objs.size f bp))→sp vs H Q E→
   ∃t,lK (Jv P w K mg base N qual (aj st) f bp A outer s H E) (aR st) t∧t { nx:=fun _ H'=>Q .cS H',rt:=Q } (start N vs) H):fj P w K mg base (zw P w) (k+1) f fd ps sp:=by
 obtain⟨oc,od,kV,doc,pm,an,bp,ct,sv,rfl,lk,qj⟩:=F.ex
 refine fn_of lk qj S len fun A outer s H vs Q E hr Bg=>?_
 obtain⟨t,h,q⟩:=dv bp A outer s H vs Q E hr Bg
 exact⟨t,Bo h,q⟩
end
section
variable {X:Cx}{pins:List (Addr×Obj)}{σ:St}{H:Hp}{s s':Shared}{ER:St→XK}{v:Value}
theorem Dr(L:Lets X ER)(I:Inv X pins σ H s)(h:zw X.prog X.w X.stack H s (ER σ) v s'):X.xe v s':=by
 obtain⟨e,C,dx,H',tb,ev,os,bare,un,aV,he,fl,ht,hE⟩:=h
 have I1:Inv X pins σ H' s':=I.E4 os un aV bare fun b z=>absurd z (by simp)
 exact L v s' ⟨e,C,dx,σ,H',tb,ev,I1.Mv,he,fl,fun T z=>⟨(ht T z).1,I.Mu (ht T z).2⟩,hE⟩
end
section
variable {X:Cx}{k:Nat}{f C:Addr}{fd:FuncData}{ps:List Str}{sp:Sp}{kI:List V}{ds:List Value}{ER:St→XK}{x m:Str}{p pos apos:Pos}{e o:Expr}{es:List Expr}{ta:TE}{t:TA}
def Ow(sp:Sp)(kI:List V)(ER:St→XK)(t:TA):TE:=fun σ H Q=>t σ H fun vs H1=>sp (vs++kI) H1 Q (ER σ)
def Ox(C:Addr)(m:Str)(sp:Sp)(kI:List V)(ER:St→XK)(ta:TE)(t:TA):TE:=fun σ H Q=>ta σ H fun x H1=>∃a dx fs,x= .ref a∧H1 a=some (.ins C dx fs)∧fs.lookup m=none∧
 t σ H1 fun vs H2=>sp (x::(vs++kI)) H2 Q (ER σ)
theorem Bp{pins:List (Addr×Obj)}{σ:St}{H:Hp}{s:Shared}{Q:VK}{us:List Value}{vs:List V}(F:fj X.prog X.w X.K X.mg X.base (zw X.prog X.w) k f fd ps sp)(hr:cT k X.A)(hb:Binds X.K fd ps ds)(hd:Vals kI ds)(L:Lets X ER)
  (I:Inv X pins σ H s) (r:Vals vs us) (h:sp (vs++kI) H Q (ER σ)):wpAny (model X.prog X.w) X.A (call (.ref f) us) (EP X pins σ Q) X.xe s:=by
 have r2:Vals (vs++kI) (us++ds):=r.append hd
 have hl:(us++ds).length=ps.length:=by rw[←r2.length];exact F.len _ _ _ _ h
 refine wpAny_call (codeAny_mono (F.run X.A X.stack s H ⟨us,[]⟩ (us++ds) (vs++kI) Q (ER σ) hr I.JS (hb s us I.jN hl) r2 h) fun r s' hq=>?_)
 cases r with
 |error e=>exact Dr L I hq
 |ok fl=>
  cases fl with
  |ret u=>exact I.after hq
  |next=>exact False.elim hq
  |brk=>exact False.elim hq
  |cont=>exact False.elim hq
theorem FV(F:fj X.prog X.w X.K X.mg X.base (zw X.prog X.w) k f fd ps sp)(hr:cT k X.A)(hg:Gl X x)(hm:X.mg x=some (.ref f))(hk:PySem.W.keepIn X.K (.ref f)=true)(hb:Binds X.K fd ps ds)(hd:Vals kI ds)(L:Lets X ER)
  (ha:PA X (e::es) t) (Fd:(x==("__debug__" :Str))=false:=by decide) (he:starEach (e::es) X.env=(false,eval e X.env)::starEach es X.env:=by rfl) (gH:(backTo pos (starEach es X.env)).any (·.1)=false:=by rfl):
  PE X (.Call (.Name x p) (e::es) [] pos) (Ow sp kI ER t):=by
 intro pins s σ H Q I h
 refine wpAny_Call_Name_kw (jd I hg hm ?_ Fd)
 refine PySem.W.callWith_K (h₀:=X.base) I.ok.mod.gq hk (bV (ha pos pins s σ H _ I h) fun us s1 ⟨vs,H1,I1,r,q⟩=>⟨I1.jN,?_⟩) he gH
 exact Bp F hr hb hd L I1 r q
theorem qL{pl:Sem Bool}(he:PE X o ta)(c:tf X.K C)(hm:Meth X.K C m f)(F:fj X.prog X.w X.K X.mg X.base (zw X.prog X.w) k f fd ps sp)(hr:cT k X.A)(hb:Binds X.K fd ps ds)(hd:Vals kI ds)(L:Lets X ER)(ha:PA X (e::es) t)
  (iV:starEach (e::es) X.env=(false,eval e X.env)::starEach es X.env:=by rfl) (gH:(backTo pos (starEach es X.env)).any (·.1)=false:=by rfl)
  (ht:eval (.Call (.Attribute o m apos) (e::es) [] pos) X.env=(do
   let ov←eval o X.env
   standAt apos.atName
   let (f,first)←holding [ov] (getMethod ov m pl)
   callWith pos f first (backTo pos (starEach (e::es) X.env)) (backToKw pos (keywordEach [] X.env))):=by rfl):
  PE X (.Call (.Attribute o m apos) (e::es) [] pos) (Ox C m sp kI ER ta t):=by
 intro pins s σ H Q I h
 refine PySem.W.methodCall_KW (pl:=pl) (bV (he pins s σ H _ I h) fun u s1 ⟨x,H1,I1,rx,a,dx,fs,ex,ea,l,q⟩=>?_) ht
 subst ex
 obtain rfl:u=Value.ref a:=rx
 refine lO I1 ea c hm l ?_
 refine PySem.W.callWith_K (first:=[.ref a]) (h₀:=X.base) I.ok.mod.gq hm.kp (bV (ha pos pins s1 σ H1 _ I1 q) fun us s2 ⟨vs,H2,I2,r,q2⟩=>⟨I2.jN,?_⟩) iV gH
 exact Bp (us:= .ref a::us) (vs:= .ref a::vs) F hr hb hd L I2 (.cons rfl r) q2
def Oy(C:Addr)(sp:Sp)(t:TA):TE:=fun σ H Q=>t σ H fun vs H1=>vs.length≤100∧∀x,H1 x=none→sp (.ref x::vs) (upd H1 x (tR x C none)) (fun v H2=>v= .cS∧Q (.ref x) H2) E0
theorem Ds{HE:Addr}{pins:List (Addr×Obj)}{σ:St}{H:Hp}{s:Shared}{Q:VK}{us:List Value}{vs:List V}(Z:PySem.W.gw X.K C HE f)(F:fj X.prog X.w X.K X.mg X.base qy k f fd ps sp)(hr:cT (k+1) X.A)(hb:Binds X.K fd ps [])
  (I:Inv X pins σ H s) (r:Vals vs us) (hz:vs.length≤100) (h:∀x,H x=none→sp (.ref x::vs) (upd H x (tR x C none)) (fun v H2=>v= .cS∧Q (.ref x) H2) E0):
  wpAny (model X.prog X.w) X.A (call (.ref C) us) (EP X pins σ Q) X.xe s:=by
 have hq:=h (s.heap.objs.size+1) (I.aV.fresh (Nat.le_succ _))
 have e2:((s.heap.push (PySem.W.qJ us)).push (PySem.W.qK C s.heap.objs.size)).get? (s.heap.objs.size+1)=some (PySem.W.qK C s.heap.objs.size):=by
  have:=Heap.get?_push_size (s.heap.push (PySem.W.qJ us)) (o:=PySem.W.qK C s.heap.objs.size) rfl
  rwa [Heap.size_push] at this
 have I2:Inv X pins σ (upd H (s.heap.objs.size+1) (tR (s.heap.objs.size+1) C none)) { s with heap:=(s.heap.push (PySem.W.qJ us)).push (PySem.W.qK C s.heap.objs.size) }:=
  I.laid (a:=s.heap.objs.size+1) (t':=s.toks) (fun b u q=>Heap.get?_push_of_some _ (Heap.get?_push_of_some _ q)) (Nat.le_succ _) (FQ e2 rfl rfl rfl rfl)
 have r2:Vals (V.ref (s.heap.objs.size+1)::vs) (Value.ref (s.heap.objs.size+1)::us):= .cons rfl r
 have hl:(Value.ref (s.heap.objs.size+1)::us++[]).length=ps.length:=by
  have e:=r2.length
  rw[F.len _ _ _ _ hq] at e
  rw[List.append_nil]
  exact e.symm
 have Q9:us.length≤sizeLine:=by
  rw[←r.length]
  exact Nat.le_trans hz (by rw[sizeLine_eq];decide)
 have EO:=hb { s with heap:=(s.heap.push (PySem.W.qJ us)).push (PySem.W.qK C s.heap.objs.size) } (Value.ref (s.heap.objs.size+1)::us) I2.jN hl
 rw[List.append_nil] at EO
 refine wpAny_call (PySem.W.Kh I.jN Z Q9 (codeAny_mono (F.run _ X.stack _ _ ⟨Value.ref (s.heap.objs.size+1)::us,[]⟩ (Value.ref (s.heap.objs.size+1)::us) _ _ E0 (hr.make C us []) (I2.JS.make C us []) EO r2 hq) fun r s' tj=>?_))
 cases r with
 |error e=>exact False.elim tj
 |ok fl=>
  cases fl with
  |ret u=>
   obtain⟨v,H',I3,rv,ev,q3⟩:=I2.after tj
   subst ev
   exact⟨rv,⟨V.ref (s.heap.objs.size+1),H',I3,rfl,q3⟩⟩
  |next=>exact False.elim tj
  |brk=>exact False.elim tj
  |cont=>exact False.elim tj
theorem FW{HE:Addr}(Z:PySem.W.gw X.K C HE f)(F:fj X.prog X.w X.K X.mg X.base qy k f fd ps sp)(hr:cT (k+1) X.A)(hg:Gl X x)(hm:X.mg x=some (.ref C))(hk:PySem.W.keepIn X.K (.ref C)=true)(hb:Binds X.K fd ps [])
  (ha:PA X (e::es) t) (Fd:(x==("__debug__" :Str))=false:=by decide) (he:starEach (e::es) X.env=(false,eval e X.env)::starEach es X.env:=by rfl) (gH:(backTo pos (starEach es X.env)).any (·.1)=false:=by rfl):
  PE X (.Call (.Name x p) (e::es) [] pos) (Oy C sp t):=by
 intro pins s σ H Q I h
 refine wpAny_Call_Name_kw (jd I hg hm ?_ Fd)
 refine PySem.W.callWith_K (h₀:=X.base) I.ok.mod.gq hk (bV (ha pos pins s σ H _ I h) fun us s1 ⟨vs,H1,I1,r,q⟩=>⟨I1.jN,?_⟩) he gH
 exact Ds Z F hr hb I1 r q.1 q.2
def Oz(K:PySem.W.Frag)(te:TE)(ER:St→XK):TS:=fun _ σ H=>te σ H fun v H1=>∃e C HE f dx,v= .ref e∧PySem.W.gw K C HE f∧H1 e=some (tR e C dx)∧ER σ (.ref C) dx (upd H1 e (FP e C dx))
theorem FX{ex:Expr}{te:TE}(hc:X.calm=true)(L:Lets X ER)(he:PE X ex te):PS X (.Raise (some ex) none pos) (Oz X.K te ER):=by
 intro pins s σ H D I h
 rw[arm_exec_Raise]
 refine wpAny_bind (wpAny_standAt (PySem.W.FN (K:=X.K) (I.ok.hd hc) (wpAny_bind (bV (he pins s σ H _ I h) fun u s1 ⟨v,H1,I1,rv,e,C,HE,f,dx,ev,Z,hx,q⟩=>wpAny_bind (wpAny_standAt (wpAny_pure ?_))))))
 subst ev
 obtain rfl:u=Value.ref e:=rv
 obtain⟨o,vs,h1,h2,h3,h4,h5⟩:=vH I1.aV hx
 refine⟨e,o,vs,C,HE,f,rfl,I1.jN,Z,h1,h2,h4,h5,L _ _ ⟨e,C,dx,σ,_,none,rfl,?_,aa,⟨⟨o,vs,h1,h4,h5⟩,fun T z=>by cases z⟩,fun T z=>(by cases z),q⟩⟩
 have J:=I1.Mv.write (x:=e) (e:=e) (o:=FP e C dx) (h':=s1.heap) (t':=s1.toks) (by rw[hx];exact True.intro) (.inl rfl) (fun _ _ _ q=>q) ⟨o,h1⟩ (Ms h1 h2 h3 h4)
 exact J
end
end L2
namespace L2
open PySem PySem.Spec PyProof.Rows
theorem OA{H:Hp}{e:Addr}{o:HO}(h:H e=some o):upd H e o=H:=by
 funext b
 by_cases z:b=e
 ·subst z
  rw[aa,h]
 ·rw[ah z]
section
variable {X:Cx}{x f:Str}{a b o value ex:Expr}{ta tb tv:TE}{p pos apos pos':Pos}
structure Mw(K:PySem.W.Frag)(HE:Addr):Prop where
 sp:PySem.W.specialIn K (.ref HE) "__getattribute__" =some (some (.builtin "type.__getattribute__"))
 rd:PySem.W.readsIn K HE (.type "type")=true
 fc:PySem.W.findCls K (.ref HE) (.type "type") "__init__" =some (.val (.builtin "ValueError.__init__"))
def OB(K:PySem.W.Frag)(ta tb:TE):TE:=fun σ H Q=>ta σ H fun v H1=>tb σ H1 fun _ H2=>∃e C HE f dx,v= .ref e∧PySem.W.gw K C HE f∧H2 e=some (tR e C dx)∧Q .cS H2
theorem FY{HE:Addr}{pl:Sem Bool}(hg:Gl X x)(hm:X.mg x=some (.ref HE))(B:Mw X.K HE)(ha:PE X a ta)(hb:PE X b tb)(hd:(x==("__debug__" :Str))=false:=by decide)
  (iV:starEach [a,b] X.env=(false,eval a X.env)::starEach [b] X.env:=by rfl) (hst1:starEach [b] X.env=(false,eval b X.env)::starEach [] X.env:=by rfl) (gH:(backTo pos (starEach [b] X.env)).any (·.1)=false:=by rfl)
  (ht:eval (.Call (.Attribute (.Name x p) "__init__" apos) [a,b] [] pos) X.env=(do
   let ov←eval (.Name x p) X.env
   standAt apos.atName
   let (f,first)←holding [ov] (getMethod ov "__init__" pl)
   callWith pos f first (backTo pos (starEach [a,b] X.env)) (backToKw pos (keywordEach [] X.env))):=by rfl):
  PE X (.Call (.Attribute (.Name x p) "__init__" apos) [a,b] [] pos) (OB X.K ta tb):=by
 intro pins s σ H Q I h
 refine PySem.W.methodCall_KW (pl:=pl) (jd I hg hm ?_ hd) ht
 refine PySem.W.method_cls I.jN B.sp (PySem.W.cls_value I.jN B.rd B.fc rfl ?_)
 have I0:=I.tok (s.toks+1)
 refine PyProof.Rows.callWith_builtin1 (bV (af ha (af hb ak hst1) iV pos pins _ σ H (fun vs H2=>match vs with| [v,_]=>∃e C HE f dx,v=V.ref e∧PySem.W.gw X.K C HE f∧H2 e=some (tR e C dx)∧Q .cS H2|_=>False) I0 h) fun us s1 ⟨vs,H2,I2,r,q⟩=>?_) iV gH
 match vs,q with
 | [v,u],q=>
   obtain⟨e,C,HE,f,dx,e1,Z,hx,q⟩:=q
   subst e1
   obtain⟨u1,u2,rfl,r1,r2⟩:=vals2 r
   obtain rfl:u1=Value.ref e:=r1
   obtain⟨ob,vs,h1,h2,h3,h4,h5⟩:=vH I2.aV hx
   have sz:1<vs.size:=(Array.getElem?_eq_some_iff.mp h5).1
   refine PySem.W.FO I2.jN Z h1 h2 h4 (by omega) (by rw[sizeLine_eq,List.length_cons,List.length_nil];decide) fun h' g1 g2=>⟨.cS,H2,?_,rfl,q⟩
   have J:=I2.write (x:=e) (e:=e) (o:=tR e C dx) (h':=h') (t':=s1.toks) (by rw[hx];exact True.intro) (.inl rfl) (fun b o be q=>g2 b o be q) ⟨_,g1⟩ (FQ g1 h2 h3 rfl (by rw[Array.getElem?_setIfInBounds_ne (by decide)];exact h5))
   rw[OA hx] at J
   exact J
def SD(K:PySem.W.Frag)(ta tv:TE)(f:Str):TS:=fun D σ H=>tv σ H fun y H1=>ta σ H1 fun v H2=>∃e C HE g,v= .ref e∧PySem.W.gw K C HE g∧PySem.W.takerIn K C f=some none∧
 ((H2 e=some (tR e C none)∧∀dx,H2 dx=none→dx≠e→D.nx σ (upd (upd H2 dx (Bn dx [(f,y)])) e (tR e C (some dx))))∨
  ∃dx fs,H2 e=some (tR e C (some dx))∧H2 dx=some (Bn dx fs)∧fs.length<1000∧D.nx σ (upd H2 dx (Bn dx (cL f y fs))))
theorem pN(ha:PE X o ta)(hv:PE X value tv)(hs:swapsWith value (some (.Attribute o f pos')) pos.line X.env=pure false):PS X (.Assign [.Attribute o f pos'] value pos) (SD X.K ta tv f):=by
 intro pins s σ H D I h
 refine plainObj_wpAny_Assign_Attribute (bV (hv pins s σ H _ I h) fun u s1 ⟨y,H1,I1,ry,q⟩=>bV (ha pins s1 σ H1 _ I1 q) fun ov s2 ⟨x,H2,I2,rx,e,C,HE,g,ex,Z,tk,q2⟩=>?_) hs
 subst ex
 obtain rfl:ov=Value.ref e:=rx
 rcases q2 with ⟨hx,q2⟩ | ⟨dx,fs,hx,hd,hl,q2⟩
 ·obtain⟨ob,vs,h1,h2,h3,h4,h5⟩:=vH I2.aV hx
  refine PySem.W.Ki I2.jN Z tk h1 h2 h4 h3 fun h' Of g1 g2 g3=>?_
  have ne:s2.heap.objs.size≠e:=Nat.ne_of_gt (Heap.lt_size h1)
  have fr:=I2.aV.fresh (Nat.le_refl s2.heap.objs.size)
  generalize hN:s2.heap.objs.size=n at g1 g2 ne fr
  have at':∀b o,H2 b=some o→b≠e→upd (upd H2 n (Bn n [(f,y)])) e (tR e C (some n)) b=some o:=fun b o q be=>by
   rw[ah be,ah (ag q fr)]
   exact q
  refine⟨σ,upd (upd H2 n (Bn n [(f,y)])) e (tR e C (some n)),I2.un (h':=h') (t':=Of) ⟨fun b o q nn _ _=>g3 b o (fun z=>?_) q,fun b o q nn _ _=>⟨o.slots,g3 b o (fun z=>?_) q⟩,fun b o q nn _=>?_,fun b o q _=>?_,fun b xs q=>at' b _ q fun z=>?_,fun b o u q=>at' b _ q fun z=>?_,fun b ps q=>⟨#[],?_⟩⟩ fun b o q=>?_,q2 n fr ne⟩
  ·rw[z,hx] at nn;cases nn
  ·rw[z,hx] at nn;cases nn
  ·rw[ah (fun z=>by rw[z,hx] at nn;cases nn),ah (fun z=>by rw[z,←hN] at q;exact absurd (Heap.lt_size q) (Nat.lt_irrefl _))]
   exact nn
  ·by_cases be:b=e
   ·subst be
    exact⟨_,g1⟩
   ·exact⟨o,g3 b o be q⟩
  ·rw[z,hx] at q;cases q
  ·rw[z,hx] at q;cases q
  ·rw[Array.append_empty]
   exact at' b _ q fun z=>by rw[z,hx] at q;cases q
  ·by_cases be:b=e
   ·subst be
    rw[aa] at q
    cases q
    exact FQ g1 h2 rfl h4 h5
   ·rw[ah be] at q
    by_cases bn:b=n
    ·subst bn
     rw[aa] at q
     cases q
     refine Mt g2 (fun g=>?_) fun g hg=>?_
     ·by_cases eg:g=f
      ·subst eg
       simp only [List.lookup,beq_self_eq_true,if_true]
       exact ry
      ·have e1:(g==f)=false:=by simpa using eg
       simp only [List.lookup,e1,if_neg eg]
       exact True.intro
     ·by_cases eg:g=f
      ·simp [eg]
      ·exact absurd (if_neg eg) hg
    ·rw[ah bn] at q
     refine(I2.aV b o q).sI (fun c u hc z=>g3 c u (fun ce=>?_) z) (fun c z=>at' c _ z fun ce=>?_) fun c xs z=>at' c _ z fun ce=>?_
     ·rcases hc with hc|hc
      ·exact be (hc.symm.trans ce)
      ·rw[ce,hx] at hc;cases hc
     ·rw[ce,hx] at z;cases z
     ·rw[ce,hx] at z;cases z
 ·obtain⟨ob,vs,h1,h2,h3,h4,h5⟩:=vH I2.aV hx
  obtain⟨mA,n1,r1,w1⟩:=Ov I2.aV hd
  have hz:(fs.map (·.1)).length≤1000:=by rw[List.length_map];omega
  refine PySem.W.Kj I2.jN Z tk h1 h2 h4 h3 n1 w1 hz fun h' g1 sb=>⟨σ,_,?_,q2⟩
  have eQ:∃o,h'.get? dx=some o:=let ⟨o,_,_,e',_⟩:=g1;⟨o,e'⟩
  refine I2.write (x:=dx) (e:=dx) (t':=s2.toks+2) (by rw[hd];exact True.intro) (.inl rfl) (fun b q hb z=>(sb.2 b hb).trans z) eQ (Mt g1 (fun g=>?_) fun g hg=>?_)
  ·rw[aG]
   by_cases q:g=f
   ·rw[if_pos q,if_pos q];exact ry
   ·rw[if_neg q,if_neg q];exact r1 g
  ·by_cases q:g=f
   ·rw[q];exact(iY f y fs).1
   ·exact(iY f y fs).2 g (w1 g fun z=>hg (by rw[if_neg q];exact z))
def tFmt(ta:TE):TE:=fun σ H Q=>ta σ H fun v H1=>(∃i,v= .int i∧i.natAbs.log2<1920∧Q (.str (toString i)) H1)∨∃y,v= .str y∧y.length≤sizeLine∧Q (.str y) H1
theorem vJ(he:PE X ex ta):PE X (.FormattedValue ex (-1) none pos) (tFmt ta):=by
 intro pins s σ H Q I h
 refine FormattedValue_plain (bV (he pins s σ H _ I h) fun u s1 ⟨v,H1,I1,rv,q⟩=>?_)
 rcases q with ⟨i,rfl,hi,q⟩ | ⟨y,rfl,hy,q⟩
 ·obtain⟨t,rfl⟩:=rv
  exact formatField_int_small hi ⟨.str (toString i),H1,I1.tok _,⟨_,rfl⟩,q⟩
 ·obtain⟨t,rfl⟩:=rv
  exact formatField_str (fun t' tk=>⟨.str y,H1,I1.tok tk,⟨_,rfl⟩,q⟩) hy
def PF(X:Cx)(es:List Expr)(t:Str→TE):Prop:=
 ∀(acc:Str) (pins:List (Addr×Obj)) (s:Shared) (σ:St) (H:Hp) (Q:VK),Inv X pins σ H s→t acc σ H Q→wpAny (model X.prog X.w) X.A (joinParts acc (evalEach es X.env)) (EP X pins σ Q) X.xe s
def SE:Str→TE:=fun acc _ H Q=>acc.length≤sizeLine∧Q (.str acc) H
def OC(te:TE)(t:Str→TE):Str→TE:=fun acc σ H Q=>te σ H fun v H1=>∃y,v= .str y∧(acc++y).length≤sizeLine∧t (acc++y) σ H1 Q
theorem OD:PF X [] SE:=fun acc pins s σ H Q I h=>joinParts_nil ⟨.str acc,H,I.tok _,⟨_,rfl⟩,h.2⟩ h.1
theorem ix{es:List Expr}{t:Str→TE}(he:PE X ex ta)(hr:PF X es t)(hs:evalEach (ex::es) X.env=eval ex X.env::evalEach es X.env:=by rfl):PF X (ex::es) (OC ta t):=by
 intro acc pins s σ H Q I h
 rw[hs]
 refine joinParts_cons (bV (he pins s σ H _ I h) fun u s1 ⟨v,H1,I1,rv,y,ev,hz,q⟩=>?_)
 subst ev
 obtain⟨t',rfl⟩:=rv
 exact⟨hz,hr (acc++y) pins s1 σ H1 Q I1 q⟩
theorem Kl{v1 v2:Expr}{es:List Expr}{t:Str→TE}(h:PF X (v1::v2::es) t):PE X (.JoinedStr (v1::v2::es) pos) (t Str.empty):=fun pins s σ H Q I hw=>JoinedStr_many (h Str.empty pins s σ H Q I hw)
end
end L2
namespace PySem.W
open PySem PySem.Calls PyProof.Rows
structure Dt(K:Frag)(PC:Addr):Prop where
 obj:∃(nm q:Str) (N:Addr) (bs bm:List Value) (hd:Bool) (sn:List Str) (sub:List Value) (ab:Bool) (col:Option Bool) (dd:Option Addr) (k0 k1 k2 k3 k5:Option Value) (YX:String),
  K.lookup PC=some (excClassObj nm q PC N bs bm hd sn sub ab col dd k0 k1 k2 k3 k5 YX)∧bm.contains (.type "BaseException")=true
theorem gw.par{K:Frag}{C HE f:Addr}(Z:gw K C HE f):Dt K C:=by
 obtain⟨nm,q,N,bs,sn,sub,ab,col,dd,k0,k1,k2,k3,k5,hK⟩:=Z.obj
 exact⟨nm,q,N,bs,_,_,sn,sub,ab,col,dd,k0,k1,k2,k3,k5,_,hK,by rw[List.contains_cons,show yc.contains (.type "BaseException")=true from by decide+kernel,Bool.or_true]⟩
theorem z8{M:Model}{A:Around}{E:Value→Shared→Prop}{s:Shared}{K:Frag}{C HE f e PC:Addr}{ox:Obj}{b:Bool}{Q:Bool→Shared→Prop}(X:K.In s.heap)(Z:gw K C HE f)(Y:Dt K PC)(hx:s.heap.get? e=some ox)(hc:ox.cls= .ref C)
  (hm:mroIn K C (.ref PC)=some b) (k:Q b s):wpAny M A (excMatches (.ref e) (.ref PC)) Q E s:=by
 obtain⟨nm,q,N,bs,sn,sub,ab,col,dd,k0,k1,k2,k3,k5,hK⟩:=Z.obj
 obtain⟨nm',q',N',bs',bm,eQ,sn',sub',ab',col',Dc,k0',k1',k2',k3',k5',YX,hP,hB⟩:=Y.obj
 obtain⟨cd,qj,em,_⟩:=Z.cd
 have cb:(Value.ref C:: .ref HE::yc).contains (.ref PC)=b:=by
  unfold mroIn at hm
  rw[qj,Option.bind_some,em] at hm
  exact Option.some.inj hm
 have kC:=X _ _ hK
 have kP:=X _ _ hP
 have cB:(Value.ref PC::bm).contains (.type "BaseException")=true:=by rw[List.contains_cons,hB,Bool.or_true]
 have ft:=tc_notTuple
 obtain⟨hp,g,d,tk,os⟩:=s
 unfold excMatches
 repeat (first| (with_reducible refine wpAny_loadPart_at hx ?_;rw[hc]) |with_reducible refine wpAny_loadPart_at kP ?_| (with_reducible refine wpAny_isSubtype_exc kP ?_;rw[cB]) | (with_reducible refine wpAny_isSubtype_exc kC ?_;rw[cb]) |wp_step)
 cases b<;>(wp_walk;exact k)
end PySem.W
namespace L2
open PySem PySem.Spec PyProof.Rows
abbrev Cx.pinned(X:Cx)(pn:List (Addr×Obj)):Cx:={ X with pn:=X.pn++pn }
abbrev Cx.mark(X:Cx)(e:Addr):Cx:={ X with A:=X.A.mark (some (.ref e)),calm:=false,xe:=fun _ _=>False }
section
variable {X:Cx}{pins pn:List (Addr×Obj)}{σ:St}{H:Hp}{s:Shared}{ER:St→XK}{v:Value}{D:Ends}{fl:Flow}
theorem Cx.Ok.pinned(ok:X.Ok):(X.pinned pn).Ok:=⟨ok.mod,ok.kind,ok.glob,ok.blt,ok.above,ok.inj,ok.has,ok.JI,ok.hd,ok.frames,ok.Mc,ok.Q3,ok.bs,ok.C0,ok.vd,ok.ve,ok.lq,ok.E2⟩
theorem Cx.Ok.gb(ok:(X.pinned pn).Ok):X.Ok:=⟨ok.mod,ok.kind,ok.glob,ok.blt,ok.above,ok.inj,ok.has,ok.JI,ok.hd,ok.frames,ok.Mc,ok.Q3,ok.bs,ok.C0,ok.vd,ok.ve,ok.lq,ok.E2⟩
theorem Inv.toPn(I:Inv X pins σ H s):Inv (X.pinned pins) [] σ H s:=⟨I.ok.pinned,I.os,I.bare,I.base,I.loc,I.cell,I.free,I.gY,fun p hp=>I.pin p (by simpa using hp),I.aV,I.len⟩
theorem Inv.Km(I:Inv (X.pinned pn) pins σ H s):Inv X pn σ H s:=⟨I.ok.gb,I.os,I.bare,I.base,I.loc,I.cell,I.free,I.gY,fun p hp=>I.pin p (List.mem_append_left _ hp),I.aV,I.len⟩
theorem SP.gb(h:SP (X.pinned pn) pins D fl s):SP X pn D fl s:=by
 cases fl with
 |next=>obtain⟨σ',H',I,q⟩:=h;exact⟨σ',H',I.Km,q⟩
 |brk=>obtain⟨σ',H',I,q⟩:=h;exact⟨σ',H',I.Km,q⟩
 |cont=>obtain⟨σ',H',I,q⟩:=h;exact⟨σ',H',I.Km,q⟩
 |ret u=>obtain⟨v,σ',H',I,r,q⟩:=h;exact⟨v,σ',H',I.Km,r,q⟩
theorem Kn:Lets X (fun _ _ _ _=>False):=fun _ _ ⟨_,_,_,_,_,_,_,_,_,_,_,z⟩=>z.elim
theorem Inv.mark(I:Inv X pins σ H s)(e:Addr):Inv (X.mark e) pins σ H s:=
 ⟨⟨I.ok.mod,I.ok.kind,I.ok.glob,I.ok.blt,I.ok.above,I.ok.inj,I.ok.has,I.ok.JI,fun z=>(by cases z),I.ok.frames,I.ok.Mc,I.ok.Q3,I.ok.bs,I.ok.C0,I.ok.vd,I.ok.ve,I.ok.lq,I.ok.E2⟩,I.os,I.bare,I.base,I.loc,I.cell,I.free,I.gY,I.pin,I.aV,I.len⟩
theorem Inv.unmark{e:Addr}(I:Inv (X.mark e) pins σ H s)(ok:X.Ok):Inv X pins σ H s:=⟨ok,I.os,I.bare,I.base,I.loc,I.cell,I.free,I.gY,I.pin,I.aV,I.len⟩
def PH(X:Cx)(hs:List ExceptHandler)(th:Ends→St→XK):Prop:=
 ∀(s:Shared) (σ:St) (H:Hp) (D:Ends) (e C:Addr) (dx:Option Addr) (T:Addr),Inv X [] σ H s→H e=some (FP e C dx)→s.heap.nY e (some T)→H T=none→j6 X T→th D σ (.ref C) dx H→
  wpAny (model X.prog X.w) X.A (handleBy (.ref e) X.env hs) (SP X [] D) X.xe s
theorem OE(L:Lets X ER):PH X [] (fun _=>ER):=by
 intro s σ H D e C dx T I he fl hT nT hE
 refine wpAny_handleBy_nil ?_
 obtain⟨oe,vs,h1,h2,h3⟩:=id fl.ex
 unfold PySem.passOn
 refine wpAny_bind (wpAny_field h1 h2 h3 ?_)
 rw[if_neg (by simp)]
 have ht:∀T',some T=some T'→H T'=none∧j6 X T':=fun T' z=>by cases z;exact⟨hT,nT⟩
 refine wpAny_bind (i3 fl fun h' a m=>wpAny_throw (L _ _ ⟨e,C,dx,σ,H,some T,rfl,I.moved he ht (m.mono fun _ z=>absurd z (by simp)),he,a,ht,hE⟩))
def FZ(K:PySem.W.Frag)(PC:Addr)(ts:TS)(tr:Ends→St→XK):Ends→St→XK:=fun D σ cv dx H=>
 ∃C HE f b,cv= .ref C∧PySem.W.gw K C HE f∧PySem.W.mroIn K C (.ref PC)=some b∧if b=true then ts D σ H else tr D σ cv dx H
theorem Ko{x:Str}{np pos:Pos}{b0:Stmt}{yf:List Stmt}{rest:List ExceptHandler}{PC:Addr}{ts:TS}{tr:Ends→St→XK}(hg:Gl X x)(hm:X.mg x=some (.ref PC))(Y:PySem.W.Dt X.K PC)
  (hsu:∀e,lK (X.mark e) (b0::yf) ts) (hr:PH X rest tr) (hd:(x==("__debug__" :Str))=false:=by decide):
  PH X (.ExceptHandler (some (.Name x np)) none (b0::yf) pos::rest) (FZ X.K PC ts tr):=by
 intro s σ H D e C dx T I he fl hT nT hE
 obtain⟨C',HE,f,b,ec,Z,mb,hE⟩:=hE
 cases ec
 obtain⟨o,vs,o1,o2,o3,o4⟩:=FR I.aV he
 have ht:∀T',some T=some T'→H T'=none∧j6 X T':=fun T' z=>by cases z;exact⟨hT,nT⟩
 refine wpAny_handleBy_cons (codeAny_handlers_test (jd (X:=X.mark e) (I.mark e) hg hm (PySem.W.z8 I.jN Z Y o1 o2 mb ?_) hd)) (by intro z;cases z)
 cases b with
 |false=>exact hr s σ H D e C dx T I he fl hT nT hE
 |true=>
  refine codeAny_handlers_suite (i3 fl fun h1 a m=>?_)
  have I1:=I.moved he ht (m.mono fun _ z=>absurd z (by simp))
  refine wpAny_mono (hsu e [] _ _ H _ (I1.mark e) hE) (fun f s3 q=>?_) fun _ _ z=>False.elim z
  cases f with
  |next=>
   obtain⟨σ',H',I3,q⟩:=q
   exact⟨σ',H',I3.unmark I.ok,q⟩
  |brk=>
   obtain⟨σ',H',I3,q⟩:=q
   exact⟨σ',H',I3.unmark I.ok,q⟩
  |cont=>
   obtain⟨σ',H',I3,q⟩:=q
   exact⟨σ',H',I3.unmark I.ok,q⟩
  |ret u=>
   obtain⟨v,σ',H',I3,r,q⟩:=q
   exact⟨v,σ',H',I3.unmark I.ok,r,q⟩
def SF(tb:(St→XK)→TS)(th:Ends→St→XK):TS:=fun D σ H=>tb (th D) D σ H
theorem Kp{body:List Stmt}{h0:ExceptHandler}{hs:List ExceptHandler}{pos:Pos}{tb:(St→XK)→TS}{th:Ends→St→XK}(fm:Kk X)(hb:∀pn ER',lK ((X.pinned pn).jV (mB (X.pinned pn) ER')) body (tb ER'))(hh:∀pn,PH (X.pinned pn) (h0::hs) th):
  PS X (.Try body (h0::hs) [] [] pos) (SF tb th):=by
 intro pins s σ H D I h
 have fin:∀{f s1},SP (X.pinned pins) [] D f s1→SP X pins D f s1:=fun q=>q.gb
 refine wpAny_Try_except (wpAny_mono (hb pins (th D) [] s σ H D (I.toPn.jV _) h) (fun f s1 q=>?_) fun v s1 z=>?_)
 ·have q:=fin q.dX
  cases f with
  |next=>exact wpAny_execs_nil q
  |brk=>exact q
  |cont=>exact q
  |ret u=>exact q
 ·obtain⟨e,C,dx,σ1,H1,tb,ev,I1,he,fl,ht,hE⟩:=z
  subst ev
  have fm':Kk (X.pinned pins):=fm
  obtain⟨fr,ff⟩:=nZ fm' I1
  refine vF fr ff fm'.2 fl fun h2 T a b m=>?_
  have m1:Heap.Moved (xu (X.pinned pins).stack) e tb s1.heap h2:=by unfold xu;rw[fm'.1];exact m
  have I2:=I1.moved he ht m1
  have t1:=z7 I1 ht b
  refine i3 (s:={ s1 with heap:=h2 }) a fun h3 a3 m3=>?_
  have I3:=I2.moved he t1 (m3.mono fun _ z=>absurd z (by simp))
  exact bV (hh pins _ σ1 H1 D e C dx T I3 he a3 (t1 T rfl).1 (t1 T rfl).2 hE) fun f s4 q=>fin q
end
end L2
namespace L2
open PySem PySem.Spec PyProof.Rows
def Mx(a:Addr)(o:Obj)(kvs:List (Key×V)):It:=
 ⟨fun i H=>H a=some (.d8 o (.dK kvs))∧i<kvs.length,fun i H x H'=>∃p k v,kvs[i]? =some (k,v)∧H p=none∧H'=upd H p (.tup [kV k,v])∧x= .ref p,fun i H=>H a=some (.d8 o (.dK kvs))∧kvs.length≤i⟩
theorem Du:entryFor table "dict_itemiterator.__iter__" =some Builtin.«dict_keyiterator.__iter__» :=entryFor_alias (id':="dict_keyiterator.__iter__") (by kernel_rfl) rfl (by decide+kernel) (by kernel_rfl)
theorem F0{prog:Program}{w:World}{A:Around}{E:Value→Shared→Prop}{s:Shared}{it:Addr}{Q:Value→Shared→Prop}(ht:s.TypeIs (.ref it) "dict_itemiterator")(h:Q (.ref it) s):wpAny (model prog w) A (pyIter (.ref it)) Q E s:=by
 refine wpAny_pyIter_slot ht PySem.F.slot_dict_itemiterator_iter (wpAny_call_entry PySem.F.slot_dict_itemiterator_iter ht Du ?_ (PySem.F.args_dict_itemiterator_iter_1 _))
 exact wpAny_pure ⟨_,rfl,"dict_itemiterator",_,ht,PySem.F.slot_dict_itemiterator_next.lookup,h⟩
theorem z9{P:Program}{w:World}{K:PySem.W.Frag}{elts:List Expr}{x1}{sJ:Pos}(a it:Addr)(o:Obj)(kvs:List (Key×V)){es:Array DictEntry}{ep:Nat}(hd:o.data= .dict es ep):
  Turn P w K (.Tuple elts x1 sJ) (Mx a o kvs) [it] it (fun i h=>∃ok ov,IsItemIter h it a i kvs.length ep ok ov) where
 mem:=by simp
 obj:=fun i h st b hb=>by
  have e:b=it:=by simpa using hb
  subst e
  obtain⟨ok,ov,q⟩:=st
  exact⟨_,q,fun v z=>by cases z⟩
 keep:=fun i h h' st k=>let ⟨ok,ov,q⟩:=st;⟨ok,ov,k it (by simp) _ q⟩
 item:=by
  intro X hP hw hK hc i pins s σ H E I hf st hg
  subst hP hw hK
  obtain⟨hz,hi⟩:=hg
  obtain⟨ok,ov,st⟩:=st
  obtain⟨vs,rel,dd,hs⟩:=vx I.aV hz hd
  obtain⟨k,v,tJ⟩:∃k v,kvs[i]? =some (k,v):=⟨kvs[i].1,kvs[i].2,by simp [hi]⟩
  obtain⟨u,hu,ru⟩:=rel.get tJ
  rw[rel.length] at st
  refine wpAny_pyNext_items_item st dd hu fun key h' hk a1 a2 a3 a4=>⟨_,rfl,?_⟩
  refine wpAny_letOwnedTupleGo_items (s:={ s with heap:=h' }) a1 fun Sw b1 b2=>?_
  have up:∀c q,c≠it→h'.get? c=some q→Sw.get? c=some q:=fun c q n z=>b2.extBut _ _ n z
  have ne:s.heap.objs.size≠it:=Nat.ne_of_gt (Heap.lt_size st)
  have jj:=up _ _ ne a2
  have I1:Inv X pins σ (upd H s.heap.objs.size (.tup [kV k,v])) { s with heap:=Sw,toks:=s.toks }:=by
   refine I.Bk (ch:=[it]) (fun b q hb z=>?_) hf (Nat.le_refl _) ⟨by show 2≤sizeLine;decide,[key,u], .cons (vw hk) (.cons ru .nil),⟨_,jj,rfl,_,rfl⟩⟩
   have hb:b≠it:=by simpa using hb
   exact up _ _ hb (a4 b q hb z)
  refine⟨.ref s.heap.objs.size,_,I1,rfl,⟨_,k,v,tJ,I.aV.fresh (Nat.le_refl _),rfl,rfl⟩,⟨key,u,?_⟩,fun b hb=>?_⟩
  ·rw[rel.length];exact b1
  ·have e:b=it:=by simpa using hb
   rw[ah (by rw[e];exact Ne.symm ne)]
   exact(hf b hb).1
 done:=by
  intro X hP hw hK hc i pins s σ H E I hf st hg
  subst hP hw hK
  obtain⟨hz,hi⟩:=hg
  obtain⟨ok,ov,st⟩:=st
  obtain⟨vs,rel,dd,hs⟩:=vx I.aV hz hd
  rw[rel.length] at st hi
  refine wpAny_pyNext_items_end (I.ok.hd hc) st dd (List.getElem?_eq_none hi) fun h' eb=>⟨rfl,I.Bl (t':=s.toks) (ch:=[it]) (fun b q hb z=>?_) hf⟩
  exact eb b q (by simpa using hb) z
 self:=fun _ _ _ _ _ st h=>by
  obtain⟨ok,ov,st⟩:=st
  exact F0 ⟨_,st,rfl⟩ h
section
variable {X:Cx}{tg:Expr}
def OF(X:Cx)(td:TE):TI:=fun σ H R=>td σ H fun x H1=>∃a kvs,x= .ref a∧H1 a=some (.dK kvs)∧∀o,NF X a→R (Mx a o kvs) (upd H1 a (.d8 o (.dK kvs)))
theorem qM{elts:List Expr}{x1}{sJ:Pos}{l:Expr}{tl:TE}{apos pos:Pos}(hl:PE X l tl)(hb:attributeBase l "items" X.env (eval l X.env)=eval l X.env:=by rfl)(xY:(apos.endLine==pos.line)=true:=by rfl):
  PI X (.Tuple elts x1 sJ) (.Call (.Attribute l "items" apos) [] [] pos) (OF X tl):=by
 intro pins s σ H R I h
 refine wpAny_Call_method (T:="dict") (id:="dict.items") hb rfl xY PySem.F.plainAttrs_dict PySem.F.slot_dict_items PySem.F.type_dict_items (bV (hl pins s σ H _ I h) fun v s1 ⟨x,H1,I1,r1,q1⟩=>?_)
 obtain⟨a,kvs,e,hk,q⟩:=q1
 subst e
 cases r1
 obtain⟨o,ho,I2⟩:=I1.freeze hk
 obtain⟨z,hs,vs,rel,dd⟩:=oW I1.aV hk
 obtain⟨ep,da⟩:=id dd.dictAt
 obtain⟨o',es,xv,ex,hd,hr⟩:=id da
 rw[ho] at xv;cases xv
 refine⟨dd.typeIs,dd.mapOf.noDict,method_meetsIn PySem.F.slot_dict_items PySem.F.entry_dict_items rfl (PySem.evalArgs_none ⟨rfl,dd.typeIs,PySem.F.args_dict_items_1 _,_,meets_dict_items _ a hs,⟨vs,dd⟩,?_⟩)⟩
 have kv:∀b q,s1.heap.get? b=some q→(s1.heap.push { cls:= .type "dict_items",data:= .fields #[.ref a] }).get? b=some q:=fun b q e=>Heap.get?_push_of_some _ e
 have da2:(s1.heap.push { cls:= .type "dict_items",data:= .fields #[.ref a] }).DictAt (bD X.prog X.w) a vs ep:=⟨o,es,kv _ _ ho,ex,hd,hr⟩
 refine wpAny_pyIter_items (s:={ s1 with heap:=s1.heap.push { cls:= .type "dict_items",data:= .fields #[.ref a] } }) ⟨_,Heap.get?_push_size _ rfl,rfl,rfl⟩ da2 ?_
 have I3:=I2.kept (t':=s1.toks) kv
 refine⟨(s1.heap.push { cls:= .type "dict_items",data:= .fields #[.ref a] }).objs.size,[(s1.heap.push { cls:= .type "dict_items",data:= .fields #[.ref a] }).objs.size],_,_,_,rfl,I3.kept (t':=s1.toks) fun b o e=>Heap.get?_push_of_some _ e,z9 a _ o kvs hd,?_,fun b hb=>?_,q o (I1.nf hk)⟩
 ·rw[rel.length]
  exact⟨_,_,Heap.get?_push_size _ rfl⟩
 ·have e:b=(s1.heap.push { cls:= .type "dict_items",data:= .fields #[.ref a] }).objs.size:=by simpa using hb
  subst e
  exact I3.zD (Nat.le_refl _) (I3.aV.fresh (Nat.le_refl _))
end
section
variable {K:PySem.W.Frag}{g:TG}{tt:TT}{te:TE}
theorem Dv{J:It}{L:Addr}{Q:Hp→Prop}{σ:St}{H:Hp}(n:Nat)(H0:Hp)(S:St→Prop)(Pv:Nat→List V→Hp→Prop)(Om:∀i H',i<n→au H0 H'→J.go i H')(qH:∀H',au H0 H'→J.stop n H')(zY:∀i ys H H',Mq L H H'→Pv i ys H→Pv i ys H')
  (zX:H0 L=none) (hσ:S σ) (h0:au H0 H) (hL:H L=some (.lst [])) (p0:Pv 0 [] H) (hz:n≤sizeLine) (hl:∀i ys H,Pv i ys H→ys.length≤i)
  (turn:∀i σ H' ys,i<n→S σ→au H0 H'→H' L=some (.lst ys)→Pv i ys H'→∀(N:St→V→Hp→Prop) (M:St→Hp→Prop),(∀σ3 y H5,S σ3→au H0 H5→H5 L=some (.lst ys)→Pv (i+1) (ys++[y]) H5→N σ3 y H5)→(∀σ3 H4,S σ3→au H0 H4→H4 L=some (.lst ys)→Pv (i+1) ys H4→M σ3 H4)→
   ∀x H2,J.px i H' x H2→g x σ H2 fun σ3 H3=>tt σ3 H3 fun b H4=>if b=true then te σ3 H4 fun y H5=>N σ3 y H5 else M σ3 H4)
  (fin:∀H' ys,au H0 H'→H' L=some (.lst ys)→Pv n ys H'→Q H'):
  ∃W:Nat→Nat→St→Hp→Prop,(∃m,W 0 m σ H)∧∀i m σ H,W i m σ H→(J.stop i H∧Q H)∨(J.go i H∧∀x H2,J.px i H x H2→g x σ H2 fun σ3 H3=>tt σ3 H3 fun b H4=>if b=true
   then te σ3 H4 fun y H5=>∃ys,H5 L=some (.lst ys)∧ys.length<sizeLine∧∃m',m'<m∧W (i+1) m' σ3 (upd H5 L (.lst (ys++[y])))
   else∃m',m'<m∧W (i+1) m' σ3 H4):=by
 refine⟨fun i m σ H=>m+i=n∧S σ∧au H0 H∧∃ys,H L=some (.lst ys)∧Pv i ys H,⟨n,rfl,hσ,h0,[],hL,p0⟩,?_⟩
 rintro i m σ H ⟨hm,hs,fz,ys,Dl,hp⟩
 by_cases hi:i<n
 ·refine .inr ⟨Om i H hi fz,fun x H2 hy=>turn i σ H ys hi hs fz Dl hp _ _ (fun σ3 y H5 k1 k2 k3 k4=>?_) (fun σ3 H4 k1 k2 k3 k4=>?_) x H2 hy⟩
  ·refine⟨ys,k3,by have:=hl i ys H hp;omega,m - 1,by omega,by omega,k1,fun b o e=>?_,ys++[y],aa,zY _ _ _ _ Mq.upd k4⟩
   rw[ah (ag e zX)];exact k2 b o e
  ·exact⟨m - 1,by omega,by omega,k1,k2,ys,k3,k4⟩
 ·have e:i=n:=by omega
  subst e
  exact .inl ⟨qH H fz,fin H ys fz Dl hp⟩
theorem items_go{a:Addr}{ob:Obj}{kvs:List (Key×V)}{H0:Hp}(ha:H0 a=some (.d8 ob (.dK kvs))):∀i H',i<kvs.length→au H0 H'→(Mx a ob kvs).go i H':=fun _ _ hi e=>⟨e _ _ ha,hi⟩
theorem Aa{a:Addr}{ob:Obj}{kvs:List (Key×V)}{H0:Hp}(ha:H0 a=some (.d8 ob (.dK kvs))):∀H',au H0 H'→(Mx a ob kvs).stop kvs.length H':=fun _ e=>⟨e _ _ ha,Nat.le_refl _⟩
end
end L2
namespace L2
open PySem PySem.Spec PyProof.Rows PySem.W
section
variable {X:Cx}
theorem tT{P:Program}{w:World}:∀{us:List Value} {ks:List Key},us.length=ks.length→(∀(j:Nat) (k:Key) (u:Value),ks[j]? =some k→us[j]? =some u→(bD P w).is k u=true)→Vals (ks.map kV) us
 | [],[],_,_=> .nil
 | [],_::_,h,_=>by simp at h
 |_::_,[],h,_=>by simp at h
 |u::us,k::ks,h,q=> .cons (vw (q 0 k u rfl rfl)) (tT (by simpa using h) fun j k' u' h1 h2=>q (j+1) k' u' (by simpa using h1) (by simpa using h2))
theorem qN(hc:X.calm=true):gC X (.type "list") (fun xs H Q=>∃p kvs,xs=[.ref p]∧Rd H p (.dK kvs)∧∀l,H l=none→Q (.ref l) (upd H l (.lst (kvs.map fun q=>kV q.1)))):=by
 intro pins s σ H xs us Q I r h
 obtain⟨p,kvs,rfl,hk,q⟩:=h
 obtain⟨u,rfl,ru⟩:=vals1 r
 cases ru
 obtain⟨z,lo,vs,rel,dd⟩:=mi I.aV hk
 obtain⟨ep,da⟩:=dd.dictAt
 have hz:vs.length≤sizeLine:=by rw[←rel.length];exact z
 refine kdl_call (kdl_dict (knd:=bD X.prog X.w) (kvs:=vs) (ep:=ep) lo) (I.ok.hd hc) da hz fun h' tk xs c kp at' its=>?_
 have xx:kvs.map (·.1)=vs.map (·.1):=rel.keys
 refine⟨.ref s.heap.objs.size,_,I.laid (t':=tk) (o:= .lst (kvs.map fun q=>kV q.1)) kp (Nat.le_refl _) ⟨by rw[List.length_map];exact z,xs.toList,c,?_,at'⟩,rfl,q _ (I.aV.fresh (Nat.le_refl _))⟩
 have e1:(kvs.map fun q=>kV q.1)=(vs.map (·.1)).map kV:=by rw[←xx,List.map_map];rfl
 rw[e1]
 refine tT (P:=X.prog) (w:=X.w) (by rw[Array.length_toList,its.1,List.length_map]) fun j k u h1 h2=>?_
 obtain⟨k',x,h3,h4⟩:=its.2 j u (by simpa using h2)
 rw[List.getElem?_map,h3] at h1
 cases h1
 exact h4
end
end L2
namespace L2
open PySem PySem.Spec PyProof.Rows
section
variable {P:Program}{w:World}{K:PySem.W.Frag}{mg:Str→Option Value}{base:Heap}
def Kq(K:PySem.W.Frag)(C:Addr)(q:Str)(st:Stmt)(ps:List Str):Prop:=∃f fd dV,x6 K "__init__" q st f fd dV∧Mk K C f∧Binds K fd ps []∧Binds K fd ps [.none]
structure CalN(P:Program)(w:World)(K:PySem.W.Frag)(mg:Str→Option Value)(base:Heap)(CX:Bf)(k:Nat)(C:Addr)(ps:List Str)(sp:Sp)(f:Addr)(fd:FuncData):Prop where
 ok:fj P w K mg base CX k f fd ps sp
 m:Mk K C f
 b0:Binds K fd ps []
 b1:Binds K fd ps [.none]
def F1(P:Program)(w:World)(K:PySem.W.Frag)(mg:Str→Option Value)(base:Heap)(CX:Bf)(k:Nat)(C:Addr)(ps:List Str)(sp:Sp):Prop:=∃f fd,CalN P w K mg base CX k C ps sp f fd
theorem Kq.dh{C:Addr}{q:Str}{st:Stmt}{N ps:List Str}{k:Nat}{sp:Sp}(D:Kq K C q st ps)(S:ay N ps (aj st))(len:∀vs H Q E,sp vs H Q E→vs.length=ps.length)
  (dv:∀(f:Addr) (bp:Value) (A:Around) (outer:List Env) (s:Shared) (H:Hp) (vs:List V) (Q:VK) (E:XK),cT k (A.deeper (envOfC q (aj st) s.heap.objs.size f bp))→sp vs H Q E→
   ∃t,lK (jg qy P w K mg base N q (aj st) f bp A outer s H E).E7 (aR st) t∧t { nx:=fun _ H'=>Q .cS H',rt:=Q } (start N vs) H):F1 P w K mg base qy (k+1) C ps sp:=by
 obtain⟨f,fd,dV,F,g,b0,b1⟩:=D
 exact⟨f,fd,F.ok S len (dv f),g,b0,b1⟩
end
end L2
namespace PySem.W
open PySem PySem.Spec PySem.Calls PyProof.Rows
section
variable {prog:Program}{w:World}{A:Around}{E:Value→Shared→Prop}{s:Shared}{K:Frag}{e C HE f:Addr}{ox:Obj}{od:Option Obj}
end
end PySem.W
namespace L2
open PySem PySem.Spec PyProof.Rows
structure XIs(K:PySem.W.Frag)(C:Addr):Prop where
 cls:PySem.W.findIn K (.ref C) "__class__" =some (some (.builtin "object.__class__"))
 get:PySem.W.specialIn K (.builtin "object.__class__") "__get__" =some (some (.builtin "getset_descriptor.__get__"))
 takes:PySem.W.takesIn K (.builtin "object.__class__")=some true
end L2
namespace YY
open PySem PySem.Spec PySem.Builtin PySem.Builtin.Str
end YY
namespace L2
open PySem PySem.Spec PyProof.Rows
section
variable {X:Cx}
end
section
variable {X:Cx}
end
section
variable {P:Program}{w:World}{K:PySem.W.Frag}{mg:Str→Option Value}{base:Heap}
structure CalX(P:Program)(w:World)(K:PySem.W.Frag)(mg:Str→Option Value)(base:Heap)(k:Nat)(x:Str)(ps:List Str)(sp:Sp)(f:Addr)(fd:FuncData):Prop where
 ok:fj P w K mg base (zw P w) k f fd ps sp
 kp:PySem.W.keepIn K (.ref f)=true
 b:Binds K fd ps []
 g:mg x=some (.ref f)
def F2(P:Program)(w:World)(K:PySem.W.Frag)(mg:Str→Option Value)(base:Heap)(k:Nat)(x:Str)(ps:List Str)(sp:Sp):Prop:=∃f fd,CalX P w K mg base k x ps sp f fd
structure SG(P:Program)(w:World)(K:PySem.W.Frag)(mg:Str→Option Value)(base:Heap)(k:Nat)(C:Addr)(m:Str)(ps:List Str)(sp:Sp)(f:Addr)(fd:FuncData):Prop where
 ok:fj P w K mg base (zw P w) k f fd ps sp
 m:Meth K C m f
 b:Binds K fd ps []
def vK(P:Program)(w:World)(K:PySem.W.Frag)(mg:Str→Option Value)(base:Heap)(k:Nat)(C:Addr)(m:Str)(ps:List Str)(sp:Sp):Prop:=∃f fd,SG P w K mg base k C m ps sp f fd
theorem Def.F3{x q:Str}{st:Stmt}{N ps:List Str}{k:Nat}{sp:Sp}(D:Def K mg x q st ps)(S:ay N ps (aj st))(len:∀vs H Q E,sp vs H Q E→vs.length=ps.length)
  (dv:∀(f:Addr) (bp:Value) (A:Around) (outer:List Env) (s:Shared) (H:Hp) (vs:List V) (Q:VK) (E:XK),cT k (A.deeper (envOfC q (aj st) s.heap.objs.size f bp))→sp vs H Q E→
   ∃t,lK (Jv P w K mg base N q (aj st) f bp A outer s H E) (aR st) t∧t { nx:=fun _ H'=>Q .cS H',rt:=Q } (start N vs) H):F2 P w K mg base (k+1) x ps sp:=by
 obtain⟨f,fd,F,b,g⟩:=D
 exact⟨f,fd,F.FU S len (dv f),F.kp,b,g⟩
theorem bg.F3{C:Addr}{m q:Str}{st:Stmt}{N ps:List Str}{k:Nat}{sp:Sp}(D:bg K C m q st ps)(S:ay N ps (aj st))(len:∀vs H Q E,sp vs H Q E→vs.length=ps.length)
  (dv:∀(f:Addr) (bp:Value) (A:Around) (outer:List Env) (s:Shared) (H:Hp) (vs:List V) (Q:VK) (E:XK),cT k (A.deeper (envOfC q (aj st) s.heap.objs.size f bp))→sp vs H Q E→
   ∃t,lK (Jv P w K mg base N q (aj st) f bp A outer s H E) (aR st) t∧t { nx:=fun _ H'=>Q .cS H',rt:=Q } (start N vs) H):vK P w K mg base (k+1) C m ps sp:=by
 obtain⟨f,fd,F,b,g⟩:=D
 exact⟨f,fd,F.FU S len (dv f),g,b⟩
def Bq(K:PySem.W.Frag)(C:Addr)(m q:Str)(st:Stmt)(ps:List Str)(ds:List Int):Prop:=∃f fd dV,x6 K m q st f fd dV∧Meth K C m f∧∀j,j≤ds.length→∃us,Vals ((ds.drop j).map V.int) us∧Binds K fd ps us
structure OG(P:Program)(w:World)(K:PySem.W.Frag)(mg:Str→Option Value)(base:Heap)(k:Nat)(C:Addr)(m:Str)(ps:List Str)(ds:List Int)(sp:Sp)(f:Addr)(fd:FuncData):Prop where
 ok:fj P w K mg base (zw P w) k f fd ps sp
 m:Meth K C m f
 bs:∀j,j≤ds.length→∃us,Vals ((ds.drop j).map V.int) us∧Binds K fd ps us
def vL(P:Program)(w:World)(K:PySem.W.Frag)(mg:Str→Option Value)(base:Heap)(k:Nat)(C:Addr)(m:Str)(ps:List Str)(ds:List Int)(sp:Sp):Prop:=∃f fd,OG P w K mg base k C m ps ds sp f fd
theorem Bq.F3{C:Addr}{m q:Str}{st:Stmt}{N ps:List Str}{ds:List Int}{k:Nat}{sp:Sp}(D:Bq K C m q st ps ds)(S:ay N ps (aj st))(len:∀vs H Q E,sp vs H Q E→vs.length=ps.length)
  (dv:∀(f:Addr) (bp:Value) (A:Around) (outer:List Env) (s:Shared) (H:Hp) (vs:List V) (Q:VK) (E:XK),cT k (A.deeper (envOfC q (aj st) s.heap.objs.size f bp))→sp vs H Q E→
   ∃t,lK (Jv P w K mg base N q (aj st) f bp A outer s H E) (aR st) t∧t { nx:=fun _ H'=>Q .cS H',rt:=Q } (start N vs) H):vL P w K mg base (k+1) C m ps ds sp:=by
 obtain⟨f,fd,dV,F,g,b⟩:=D
 exact⟨f,fd,F.FU S len (dv f),g,b⟩
def F4(K:PySem.W.Frag)(mg:Str→Option Value)(x:Str)(C HE:Addr)(q:Str)(st:Stmt)(ps:List Str):Prop:=∃f fd,EM K "__init__" q st f fd∧PySem.W.gw K C HE f∧Binds K fd ps []∧mg x=some (.ref C)∧PySem.W.keepIn K (.ref C)=true
structure SH(P:Program)(w:World)(K:PySem.W.Frag)(mg:Str→Option Value)(base:Heap)(k:Nat)(x:Str)(C HE:Addr)(ps:List Str)(sp:Sp)(f:Addr)(fd:FuncData):Prop where
 ok:fj P w K mg base qy k f fd ps sp
 z:PySem.W.gw K C HE f
 b:Binds K fd ps []
 g:mg x=some (.ref C)
 kp:PySem.W.keepIn K (.ref C)=true
def Ab(P:Program)(w:World)(K:PySem.W.Frag)(mg:Str→Option Value)(base:Heap)(k:Nat)(x:Str)(C HE:Addr)(ps:List Str)(sp:Sp):Prop:=∃f fd,SH P w K mg base k x C HE ps sp f fd
theorem F4.dh{x q:Str}{C HE:Addr}{st:Stmt}{N ps:List Str}{k:Nat}{sp:Sp}(D:F4 K mg x C HE q st ps)(S:ay N ps (aj st))(len:∀vs H Q E,sp vs H Q E→vs.length=ps.length)
  (dv:∀(f:Addr) (bp:Value) (A:Around) (outer:List Env) (s:Shared) (H:Hp) (vs:List V) (Q:VK) (E:XK),cT k (A.deeper (envOfC q (aj st) s.heap.objs.size f bp))→sp vs H Q E→
   ∃t,lK (jg qy P w K mg base N q (aj st) f bp A outer s H E).E7 (aR st) t∧t { nx:=fun _ H'=>Q .cS H',rt:=Q } (start N vs) H):Ab P w K mg base (k+1) x C HE ps sp:=by
 obtain⟨f,fd,F,Z,b,g,kp⟩:=D
 exact⟨f,fd,F.ok S len (dv f),Z,b,g,kp⟩
end
end L2
namespace YY
open PySem PySem.Spec PySem.Calls PyProof.Rows
section
variable {prog:Program}{w:World}{A:Around}{I:Addr}{fp wr:List Addr}{n:Nat}{P:Nat→Value→Prop}{St:Nat→Heap→Prop}
def SI(P:Nat→Value→Prop)(bt:Nat→Nat→Bool)(i:Nat)(old:Array Value):Prop:=(i=0∧old=#[])∨∃j vb,i=j+1∧old=#[vb,vb]∧P (argBest bt j) vb
theorem Kr{R:Result→Shared→Prop}{d:Value}{key:Str}(W:Walks prog w A.in1 I fp wr n P St)(bt:Nat→Nat→Bool)(hcmp:CmpOf prog w A.in1 .Lt P bt)(S:Addr)(hSf:S∉fp)(k:Nat):
  ∀(i:Nat) (s:Shared) (old:Array Value) (c:Nat),i+k=n→St i s.heap→SI P bt i old→s.heap.get? S=some { cls:= .type "list",dict:=none,data:= .seq old c,slots:=#[] }→
  (∀v h' tk,(n=0∧v=d∨0<n∧P (argBest bt (n - 1)) v)→(∀b o,b∉wr→b≠S→s.heap.get? b=some o→h'.get? b=some o)→R (.ok (.ret v)) { s with heap:=h',toks:=tk })→
  codeAny (model prog w) A (.builtin "min.loop" ⟨[.ref I, .none, .ref S],[(key,d)]⟩) R s:=by
 have hSw:S∉wr:=fun h=>hSf (W.sub _ h)
 have nm:(toString "min" ++toString ".loop" :String)="min.loop" :=by decide
 have oth:∀{h:Heap} {f:Obj→Obj} {b:Addr} {o:Obj},b≠S→h.get? b=some o→(h.update S f).get? b=some o:=fun hb e=>(Heap.get?_update_other _ _ (Ne.symm hb)).trans e
 induction k with
 |zero=>
  intro i s old c hi iV hB hS hR
  have sN:i=n:=by omega
  refine codeAny_builtin F.entry_min_loop ?_
  rw[Around.under_plainId F.plain_min_loop]
  refine wpAny_bind (wpAny_seqItems hS rfl (wpAny_bind (wpAny_tryCatch (W.done s _ _ (sN▸iV) fun h' tk My=>?_))))
  rcases hB with ⟨rfl,rfl⟩ | ⟨j,vb,rfl,rfl,hP⟩
  ·exact wpAny_bind (wpAny_rule (wpAny_pure (hR d h' tk (.inl ⟨sN.symm,rfl⟩) fun b o hb _ e=>My b o hb e)))
  ·refine wpAny_bind (wpAny_updateSeq (My S _ hSw hS) rfl (wpAny_bind (wpAny_letGo (wpAny_pure ?_))))
   exact hR vb _ tk (.inr ⟨by omega,by rw[←sN];exact hP⟩) fun b o hb YZ e=>oth YZ (My b o hb e)
 |succ k ih=>
  intro i s old c hi iV hB hS hR
  have pz:i<n:=by omega
  refine codeAny_builtin F.entry_min_loop ?_
  rw[Around.under_plainId F.plain_min_loop]
  refine wpAny_bind (wpAny_seqItems hS rfl (wpAny_bind (wpAny_tryCatch (W.item i s _ _ pz iV fun v h' tk hP vM My=>?_))))
  have SJ:=My S _ hSw hS
  have OH:∀{h2:Heap} {new:Array Value} {c2:Nat},(∀b o,b≠S→h'.get? b=some o→h2.get? b=some o)→SI P bt (i+1) new→h2.get? S=some { cls:= .type "list",dict:=none,data:= .seq new c2,slots:=#[] }→
    codeAny (model prog w) A (.builtin "min.loop" ⟨[.ref I, .none, .ref S],[(key,d)]⟩) R { s with heap:=h2,toks:=tk }:=fun {h2 new c2} k2 b2 s2=>
   ih (i+1) _ new c2 (by omega) (W.frame _ _ _ vM fun b hb o e=>k2 b o (fun z=>hSf (z▸hb)) e) b2 s2 fun v' h3 t3 Y0 Kt=>hR v' h3 t3 Y0 fun b o hb YZ e=>Kt b o hb YZ (k2 b o YZ (My b o hb e))
  rcases hB with ⟨rfl,rfl⟩ | ⟨j,vb,rfl,rfl,hPb⟩
  ·show wpAny _ A.in1 (updateSeq S (fun _=>#[v,v]) >>= _) _ _ _
   refine wpAny_bind (wpAny_updateSeq SJ rfl ?_)
   rw[nm]
   exact wpAny_pure ⟨plainId_quiet F.plain_min_loop _,OH (fun b o hb e=>oth hb e) (.inr ⟨0,v,rfl,rfl,hP⟩) (Heap.get?_update_self _ SJ rfl)⟩
  ·refine wpAny_bind (wpAny_pure ?_)
   refine wpAny_bind (wpAny_tryCatch (wpAny_holding (wpAny_bind (hcmp (j+1) (argBest bt j) v vb _ _ _ hP hPb (wpAny_bind (wpAny_holding (wpAny_truthy_bool (wpAny_bind (wpAny_letGo (wpAny_pure ?_))))))))))
   cases hb:bt (j+1) (argBest bt j) with
   |true=>
    simp only [if_true]
    refine wpAny_bind (wpAny_updateSeq SJ rfl (wpAny_bind (wpAny_letGo ?_)))
    rw[nm]
    exact wpAny_pure ⟨plainId_quiet F.plain_min_loop _,OH (fun b o Dk e=>oth Dk e) (.inr ⟨j+1,v,rfl,rfl,by simp only [argBest,hb,if_true];exact hP⟩) (Heap.get?_update_self _ SJ rfl)⟩
   |false=>
    simp only [Bool.false_eq_true,if_false]
    refine wpAny_bind (wpAny_letGo ?_)
    rw[nm]
    exact wpAny_pure ⟨plainId_quiet F.plain_min_loop _,OH (fun b o _ e=>e) (.inr ⟨j+1,vb,rfl,rfl,by simp only [argBest,hb,Bool.false_eq_true,if_false];exact hPb⟩) SJ⟩
end
section
variable {prog:Program}{w:World}{A:Around}{E:Value→Shared→Prop}{s:Shared}{l:Addr}{xs:Array (Int×Tok)}{d:Value}
theorem OI{args:List Value}{kw:List (Str×Value)}{Q:Value→Shared→Prop}(ha:argsOk "min" ⟨args,kw⟩)
  (hc:wpAny (model prog w) A.in1 (Builtin.«min» ⟨args,kw⟩) (fun fin s'=>match fin with
   | .done f=>(match (Except.ok f:Result) with| .ok (.ret v)=>Q v s'| .ok _=>False| .error e=>E e s')
   | .again c'=>c'.quiet=true∧codeAny (model prog w) A c' (fun r s'=>match r with| .ok (.ret v)=>Q v s'| .ok _=>False| .error e=>E e s') s') E s):wpAny (model prog w) A (call (.builtin "min") args kw) Q E s:=by
 refine wpAny_call (codeAny_call_builtin F.plain_min F.entry_min ?_)
 rw[checkBuiltinCall,F.kind_min]
 unfold argsOk at ha
 cases hs:Manifest.signature? "min" with
 |none=>exact wpAny_pure hc
 |some sig=>
  rw[hs] at ha
  have ha:Bind.checkArgs "min" sig ⟨args,kw⟩=pure ():=ha
  dsimp only
  rw[ha]
  exact wpAny_pure hc
theorem Dw(a v:Value):argsOk "min" ⟨[a],[(Str.ofString "default",v)]⟩:=by unfold argsOk;kernel_rfl
theorem Dx{Q:Value→Shared→Prop}(hh:A.handled=none)(hl:s.heap.IsList l (intItems xs))
  (h:∀v h' tk,(xs.size=0∧v=d∨0<xs.size∧(intItems xs)[argBest (fun i j=>decide (numAt xs i<numAt xs j)) (xs.size - 1)]? =some v)→(∀b o,s.heap.get? b=some o→h'.get? b=some o)→Q v { s with heap:=h',toks:=tk }):
  wpAny (model prog w) A (call (.builtin "min") [.ref l] [(Str.ofString "default",d)]) Q E s:=by
 have nm:(toString "min" ++toString ".loop" :String)="min.loop" :=by decide
 refine OI (Dw _ _) ?_
 show wpAny _ A.in1 (Builtin.Builtins.bindParams "min" ["key","default"] 0 ⟨[],[(Str.ofString "default",d)]⟩ >>= _) _ _ s
 refine wpAny_bind (wpAny_of_eq (show Builtin.Builtins.bindParams "min" ["key","default"] 0 ⟨[],[(Str.ofString "default",d)]⟩=pure [none,some d] from rfl) (wpAny_bind (wpAny_pure (wpAny_bind (iter_intList hl fun s₂ e st SK hlI=>?_)))))
 subst e
 refine wpAny_bind (wpAny_newObj_type ?_)
 rw[nm]
 have W:=Walks.list (prog:=prog) (w:=w) (A:=A.in1) hh s.heap.objs.size l hlI (intItems xs)
 refine wpAny_pure ⟨plainId_quiet F.plain_min_loop _,Kr W (fun i j=>decide (numAt xs i<numAt xs j)) (CmpOf.ints_lt (numAt xs) (fun _ _=>intItems_at)) _ (fun hm=>Nat.lt_irrefl _ (SK _ hm)) (intItems xs).size 0 _ #[] _ (Nat.zero_add _) (W.frame _ _ _ st fun b _ o e=>Heap.get?_push_of_some _ e) (.inl ⟨rfl,rfl⟩) (Heap.get?_push_size _ rfl) fun v h' tk hP hk=>?_⟩
 refine h v h' tk ?_ (old_kept fun b o hb e=>hk b o hb (Nat.ne_of_lt (Heap.lt_size e)) (Heap.get?_push_of_some _ e))
 have ez:(intItems xs).size=xs.size:=by simp [intItems]
 rw[ez] at hP
 exact hP
end
end YY
namespace L2
open PySem PySem.Spec PyProof.Rows
section
variable {X:Cx}
def SM(K:PySem.W.Frag)(t:TA):TE:=fun σ H Q=>t σ H fun vs H1=>∃q,∃ns:List Int,vs=[.ref q]∧bJ K H1 q (ns.map V.int)∧(ns=[]→Q .cS H1)∧∀M,M∈ns→(∀a∈ns,M≤a)→Q (.int M) H1
theorem Ku{e:Expr}{t:TA}{p pos kp R4:Pos}{j}(hc:X.calm=true)(hg:Gl X "min")(hm:X.mg "min" =none)(ha:PA X [e] t)
  (he:backTo pos (starEach [e] X.env)=[(false,eval e X.env)]:=by rfl):PE X (.Call (.Name "min" p) [e] [⟨some "default", .Constant .none j R4,kp⟩] pos) (SM X.K t):=by
 intro pins s σ H Q I h
 refine wpAny_Call_Name_kw (lL I hg hm FF ?_)
 refine callWith_kw (bV (ha pos pins s σ H _ I h) fun us s1 ⟨vs,H1,I1,r1,q,ns,ev,hS,q0,q1⟩=>kws_cons (bV (zB pins s1 σ H1 (fun v H'=>v= .cS∧H'=H1) I1 ⟨rfl,rfl⟩) fun u s2 ⟨v,H2,I2,r2,ev2,eH⟩=>kws_nil ?_)) (by rw[he];rfl) (by rw[he];rfl)
 subst ev ev2 eH
 cases (show u=Value.none from r2)
 obtain⟨u1,rfl,ru⟩:=vals1 r1
 cases ru
 obtain⟨its,rv,pl,hz⟩:=I2.list hS
 have hi:IntsAre its ns:=intsAre_of rv
 obtain⟨xs,ex⟩:=hi.allInts.items
 have tI:ns=xs.toList.map (·.1):=by rw[←hi.numsOf,←nums_intItems,←ex]
 have hl:s2.heap.IsList q (intItems xs):=ex▸pl.isList
 refine YY.Dx (I2.ok.hd hc) hl fun v h' tk hv hk=>?_
 rcases hv with ⟨h0,rfl⟩ | ⟨hp,hv⟩
 ·refine⟨.cS,H2,I2.kept hk,rfl,q0 ?_⟩
  rw[tI,List.map_eq_nil_iff]
  exact List.eq_nil_of_length_eq_zero (by rw[Array.length_toList];exact h0)
 ·obtain⟨t,rfl⟩:=intItems_at hv
  obtain⟨g1,g2⟩:=argBest_lt (numAt xs) (xs.size - 1)
  refine⟨.int _,H2,I2.kept hk,⟨t,rfl⟩,q1 _ ?_ fun a ha=>?_⟩
  ·rw[tI,numAt_eq];exact getD_mem (by rw[List.length_map,Array.length_toList];omega)
  ·rw[tI] at ha
   obtain⟨i,hi',rfl⟩:=mem_getD ha
   rw[List.length_map,Array.length_toList] at hi'
   rw[←numAt_eq];exact g2 i (by omega)
end
end L2
namespace L2
open PySem PySem.Spec
section
variable {X:Cx}
end
end L2
namespace L2
open PySem PySem.Spec
end L2
namespace L2
open PySem PySem.Spec PyProof.Rows
section
variable {K:PySem.W.Frag}{h:Heap}{mg:Str→Option Value}{x m q:Str}{st:Stmt}{ps:List Str}{f C HE:Addr}
def dI(K:PySem.W.Frag)(x q:Str)(st:Stmt)(f:Addr):Prop:=(∃fd,EM K x q st f fd)∧PySem.W.isFn K (.ref f)=true
def BA(x q:Str)(st:Stmt)(ps:List Str):Prop:=∀(kV doc pm:Value) (an:Option Addr) (bp ct:Value) (us:List Value),us.length=ps.length→bindArgs (PySem.W.fnOf x q (bx st) (aR st) (aj st) .none kV doc pm an bp ct) ⟨us,[]⟩=pure (ps.zip us)
theorem gK{p0:Str}(h:∀(kV doc pm:Value) (an:Option Addr) (bp ct u0:Value),bindArgs (PySem.W.fnOf x q (bx st) (aR st) (aj st) .none kV doc pm an bp ct) ⟨[u0],[]⟩=pure [(p0,u0)]):BA x q st [p0]:=fun kV doc pm an bp ct us hl=>match us,hl with| [u0],_=>h kV doc pm an bp ct u0
theorem n4{p0 p1:Str}(h:∀(kV doc pm:Value) (an:Option Addr) (bp ct u0 u1:Value),bindArgs (PySem.W.fnOf x q (bx st) (aR st) (aj st) .none kV doc pm an bp ct) ⟨[u0,u1],[]⟩=pure [(p0,u0),(p1,u1)]):BA x q st [p0,p1]:=fun kV doc pm an bp ct us hl=>match us,hl with| [u0,u1],_=>h kV doc pm an bp ct u0 u1
theorem SQ{p0 p1 p2:Str}(h:∀(kV doc pm:Value) (an:Option Addr) (bp ct u0 u1 u2:Value),bindArgs (PySem.W.fnOf x q (bx st) (aR st) (aj st) .none kV doc pm an bp ct) ⟨[u0,u1,u2],[]⟩=pure [(p0,u0),(p1,u1),(p2,u2)]):BA x q st [p0,p1,p2]:=fun kV doc pm an bp ct us hl=>match us,hl with| [u0,u1,u2],_=>h kV doc pm an bp ct u0 u1 u2
theorem ba4{p0 p1 p2 p3:Str}(h:∀(kV doc pm:Value) (an:Option Addr) (bp ct u0 u1 u2 u3:Value),bindArgs (PySem.W.fnOf x q (bx st) (aR st) (aj st) .none kV doc pm an bp ct) ⟨[u0,u1,u2,u3],[]⟩=pure [(p0,u0),(p1,u1),(p2,u2),(p3,u3)]):BA x q st [p0,p1,p2,p3]:=fun kV doc pm an bp ct us hl=>match us,hl with| [u0,u1,u2,u3],_=>h kV doc pm an bp ct u0 u1 u2 u3
theorem ba5{p0 p1 p2 p3 p4:Str}(h:∀(kV doc pm:Value) (an:Option Addr) (bp ct u0 u1 u2 u3 u4:Value),bindArgs (PySem.W.fnOf x q (bx st) (aR st) (aj st) .none kV doc pm an bp ct) ⟨[u0,u1,u2,u3,u4],[]⟩=pure [(p0,u0),(p1,u1),(p2,u2),(p3,u3),(p4,u4)]):BA x q st [p0,p1,p2,p3,p4]:=fun kV doc pm an bp ct us hl=>match us,hl with| [u0,u1,u2,u3,u4],_=>h kV doc pm an bp ct u0 u1 u2 u3 u4
theorem dA{N P:List Str}{sc:Scope}(a:sc.kind= .function:=by rfl)(b:sc.isCoroutine=false:=by rfl)(c:sc.isGenerator=false:=by rfl)(d:N.Nodup:=by decide+kernel)(e:N.take P.length=P:=by rfl)(f:∀x∈P,sc.names.lookup x=some .local∨sc.names.lookup x=some .cell:=by decide+kernel)(g:∀y∈sc.names,y.2≠ .free:=by decide+kernel):ay N P sc:=⟨a,b,c,d,e,f,g⟩
theorem cu(X:K.In h)(G:h.Ns mainGlobals mg)(a:PySem.W.nsIn K mainGlobals x=some (some (.ref f)))(l:dI K x q st f)(b:BA x q st ps):Def K mg x q st ps:=by
 obtain⟨⟨fd,F⟩,_⟩:=l
 exact⟨f,fd,F,F.binds b,PySem.W.mg_of X G a⟩
theorem bL(a:PySem.W.findIn K (.ref C) m=some (some (.ref f)))(l:dI K m q st f)(b:BA m q st ps):bg K C m q st ps:=by
 obtain⟨⟨fd,F⟩,i⟩:=l
 exact⟨f,fd,F,F.binds b,⟨a,i,F.kp⟩⟩
theorem F5(k:PySem.W.makesIn K C=true)(a:PySem.W.findIn K (.ref C) "__init__" =some (some (.ref f)))(kc:PySem.W.keepIn K (.ref C)=true)(l:dI K "__init__" q st f)(b:BA "__init__" q st ps):lz K C q st ps []:=by
 obtain⟨⟨fd,F⟩,i⟩:=l
 exact⟨f,fd, .none,⟨F.ex,F.kp⟩,⟨k,a,i,kc⟩,fun j _=>⟨[],by rw[List.drop_nil];exact .nil,F.binds b⟩⟩
theorem SR(Z:PySem.W.gw K C HE f)(g:mg x=some (.ref C))(kc:PySem.W.keepIn K (.ref C)=true)(l:dI K "__init__" q st f)(b:BA "__init__" q st ps):F4 K mg x C HE q st ps:=by
 obtain⟨⟨fd,F⟩,i⟩:=l
 exact⟨f,fd,F,Z,F.binds b,g,kc⟩
end
end L2
namespace L2
open PySem PySem.Spec PyProof.Rows PySem.W PySem.Calls
section
variable {prog:Program}{w:World}{κ:Type}[DecidableEq κ]{knd:KeyKind prog w κ}{A:Around}{E:Value→Shared→Prop}{s:Shared}{d it:Addr}{i ep:Nat}{kvs:List (κ×Value)}
end
section
variable {X:Cx}
end
end L2
namespace L2
open PySem PySem.Spec PyProof.Rows
end L2
namespace L2
open PySem PySem.Spec
end L2
namespace L2
open PySem PySem.Spec PyProof.Rows PySem.W
section
variable {X:Cx}
def F6:V→List V→Hp→VK→Prop:=fun x vs H Q=>∃l xs y,∃k:Nat,x= .ref l∧vs=[.int k,y]∧H l=some (.lst xs)∧k≤xs.length∧xs.length<sizeLine∧Q .cS (upd H l (.lst (xs.take k++y::xs.drop k)))
theorem qO:Z9 X "list.insert" F6:=by
 intro pins s σ H x vs v us Q I rx rv h
 obtain⟨l,xs,y,k,rfl,rfl,hH,hk,hz,q⟩:=h
 cases rx
 obtain⟨u0,u,rfl,⟨t0,rfl⟩,ru⟩:=rv.two
 obtain⟨z,its,n,r,hl,e⟩:=I.zQ hH
 have SS:¬(!Builtin.List.listFitsIndex (k:Int))=true:=by
  have:k≤2^62:=Nat.le_trans hk (Nat.le_trans z (by decide+kernel))
  unfold Builtin.List.listFitsIndex
  simp
  omega
 have hsz:its.toArray.size≤sizeLine:=by rw[List.size_toArray];omega
 generalize ek:(k:Int)=x at SS rv ⊢
 have hM:=PySem.AutoListH.list_insert_list_int_val_1 l its.toArray n x t0 u SS hsz
 refine call_meets F.slot_list_insert ⟨_,e,rfl⟩ F.entry_list_insert (F.args_list_insert_3 _ _ _) hM ⟨e,?_⟩
 subst ek
 refine⟨.cS,_,I.N7 (its':=its.take k++u::its.drop k) hH e ?_ ((Vals.take k r).append (.cons ru (Vals.drop k r))) ?_,rfl,q⟩
 ·have Dy:min k its.length=k:=by omega
  have h0:¬((k:Int) <0):=by omega
  simp only [h0,if_false,Int.toNat_natCast,List.size_toArray,Dy,List.extract_toArray,List.push_toArray,List.append_toArray]
  congr 1
  simp [List.extract_eq_take_drop]
  exact List.take_of_length_le (by rw[List.length_drop];omega)
 ·rw[List.length_append,List.length_cons,List.length_take,List.length_drop]
  omega
def OJ(td:TE):TE:=fun σ H Q=>td σ H fun x H1=>∃a kvs,x= .ref a∧H1 a=some (.dK kvs)∧∀l,H1 l=none→Q (.ref l) (upd H1 l (.lst (kvs.map (·.2))))
theorem Dz:∀{kvs:List (Key×V)} {vs:List (Key×Value)},KV kvs vs→Vals (kvs.map (·.2)) (vs.map (·.2)):=by
 intro kvs vs r
 unfold KV at r
 induction r with
 |nil=>exact .nil
 |cons h t ih=>exact .cons h.2 ih
theorem F7{l:Expr}{tl:TE}{p apos OL pos:Pos}(hc:X.calm=true)(hg:Gl X "list")(hm:X.mg "list" =none)(hl:PE X l tl)(hb:attributeBase l "values" X.env (eval l X.env)=eval l X.env:=by rfl)(xY:(apos.endLine==OL.line)=true:=by rfl):
  PE X (.Call (.Name "list" p) [.Call (.Attribute l "values" apos) [] [] OL] [] pos) (OJ tl):=by
 intro pins s σ H Q I h
 refine wpAny_Call_Name_kw (lL I hg hm jk ?_ (by decide) (by decide))
 refine PyProof.Rows.callWith_type1 ?_ rfl rfl
 show wpAny _ _ (spliced ((false,eval (.Call (.Attribute l "values" apos) [] [] OL) X.env)::backTo pos (starEach [] X.env))) _ _ s
 refine Calls.spliced_cons (wpAny_Call_method (T:="dict") (id:="dict.values") hb rfl xY PySem.F.plainAttrs_dict PySem.F.slot_dict_values PySem.F.type_dict_values (bV (hl pins s σ H _ I h) fun v s1 ⟨x,H1,I1,r1,q1⟩=>?_))
 obtain⟨a,kvs,e,hk,q⟩:=q1
 subst e
 cases r1
 obtain⟨z,hs,vs,rel,dd⟩:=oW I1.aV hk
 obtain⟨ep,da⟩:=id dd.dictAt
 refine⟨dd.typeIs,dd.mapOf.noDict,method_meetsIn PySem.F.slot_dict_values PySem.F.entry_dict_values rfl (PySem.evalArgs_none ⟨rfl,dd.typeIs,PySem.F.args_dict_values_1 _,_,meets_dict_values _ a hs,⟨vs,dd⟩,?_⟩)⟩
 have kv:∀b q,s1.heap.get? b=some q→(s1.heap.push { cls:= .type "dict_values",data:= .fields #[.ref a] }).get? b=some q:=fun b q e=>Heap.get?_push_of_some _ e
 have I2:=I1.kept (t':=s1.toks) kv
 have da2:=da.push { cls:= .type "dict_values",data:= .fields #[.ref a] }
 have hn:vs.length≤sizeLine:=by rw[←rel.length];exact z
 refine Calls.spliced_nil ?_
 refine kdl_call (s:={ s1 with heap:=s1.heap.push { cls:= .type "dict_values",data:= .fields #[.ref a] } }) (kdl_values (knd:=bD X.prog X.w) (kvs:=vs) (ep:=ep) (r:=s1.heap.objs.size) (d:=a)) (I.ok.hd hc) ⟨⟨_,Heap.get?_push_size _ rfl,rfl,rfl⟩,da2⟩ hn fun h' tk xs c kp at' its=>?_
 refine⟨.ref _,_,I2.laid (t':=tk) (o:= .lst (kvs.map (·.2))) kp (Nat.le_refl _) ⟨by rw[List.length_map];exact z,xs.toList,c,?_,at'⟩,rfl,q _ (I2.aV.fresh (Nat.le_refl _))⟩
 have e1:xs.toList=vs.map (·.2):=by
  refine List.ext_getElem? fun j=>?_
  rw[List.getElem?_map]
  by_cases hj:j<vs.length
  ·have hx:j<xs.toList.length:=by rw[Array.length_toList,its.1];exact hj
   obtain⟨k',h3⟩:=its.2 j xs.toList[j] (by simp [hx])
   rw[h3,List.getElem?_eq_getElem hx]
   rfl
  ·rw[List.getElem?_eq_none (by rw[Array.length_toList,its.1];omega),List.getElem?_eq_none (by omega)]
   rfl
 rw[e1]
 exact Dz rel
end
theorem F8(K:PySem.W.Frag){X:Cx}(hK:X.K=K){x:Str}{np pos:Pos}{b0:Stmt}{yf:List Stmt}{rest:List ExceptHandler}{PC:Addr}{ts:TS}{tr:Ends→St→XK}(hg:Gl X x)(hm:X.mg x=some (.ref PC))(Y:PySem.W.Dt K PC)
  (hsu:∀e,lK (X.mark e) (b0::yf) ts) (hr:PH X rest tr) (hd:(x==("__debug__" :Str))=false:=by decide):
  PH X (.ExceptHandler (some (.Name x np)) none (b0::yf) pos::rest) (FZ K PC ts tr):=by
 subst hK
 exact Ko hg hm Y hsu hr hd
theorem tU{X:Cx}{a:Addr}{o:Obj}{kvs:List (Key×V)}{g:TG}{tb:TS}{D:Ends}{σ:St}{H:Hp}(nf:NF X a)(Pv:Nat→St→Hp→Prop)(h0:Pv 0 σ H)(hl:∀i σ H,Pv i σ H→H a=some (.dK kvs))
  (hs:∀i k v p σ H,kvs[i]? =some (k,v)→Pv i σ H→(upd H a (.d8 o (.dK kvs))) p=none→g (.ref p) σ (upd (upd H a (.d8 o (.dK kvs))) p (.tup [kV k,v])) fun σ2 H2=>tb { nx:=fun σ' H'=>H' a=some (.d8 o (.dK kvs))∧Pv (i+1) σ' (upd H' a (.dK kvs)),ct:=fun σ' H'=>H' a=some (.d8 o (.dK kvs))∧Pv (i+1) σ' (upd H' a (.dK kvs)),bk:=fun σ'=>Th X (D.nx σ'),rt:=fun v=>Th X (D.rt v) } σ2 H2)
  (hd:∀σ H,Pv kvs.length σ H→D.nx σ H):
  ∃W:Nat→Nat→St→Hp→Prop,(∃m,W 0 m σ (upd H a (.d8 o (.dK kvs))))∧∀i m σ H,W i m σ H→((Mx a o kvs).stop i H∧Th X (D.nx σ) H)∨
   ((Mx a o kvs).go i H∧∃N:St→Hp→Prop,(∀σ' H',N σ' H'→∃m',m'<m∧W (i+1) m' σ' H')∧∀x H',(Mx a o kvs).px i H x H'→g x σ H' fun σ2 H2=>tb { nx:=N,ct:=N,bk:=fun σ'=>Th X (D.nx σ'),rt:=fun v=>Th X (D.rt v) } σ2 H2):=by
 refine⟨fun i m σ H=>m+i=kvs.length∧H a=some (.d8 o (.dK kvs))∧Pv i σ (upd H a (.dK kvs)),⟨kvs.length,by omega,aa,?_⟩,?_⟩
 ·rw[jc,eB (hl _ _ _ h0)];exact h0
 ·rintro i m σ H ⟨hm,hz,hp⟩
  by_cases hi:i<kvs.length
  ·refine .inr ⟨⟨hz,hi⟩,fun σ' H'=>H' a=some (.d8 o (.dK kvs))∧Pv (i+1) σ' (upd H' a (.dK kvs)),fun σ' H' q=>⟨m - 1,by omega,by omega,q⟩,?_⟩
   rintro x H' ⟨p,k,v,tJ,sx,rfl,rfl⟩
   have:=hs i k v p σ _ tJ hp
   rw[jc,eB hz] at this
   exact this sx
  ·have e:i=kvs.length:=by omega
   subst e
   exact .inl ⟨⟨hz,Nat.le_refl _⟩,a,o,kvs,hz,nf,hd _ _ hp⟩
end L2
set_option maxHeartbeats 4000000
namespace K56
open PySem L2
def top(i:Nat):Stmt:=PySem.Challenge.pw_balancehall_k56_whole_orders_meet.main.body.getD i (.Pass ⟨0,0,0,0⟩)
abbrev vN:Stmt:=top 16
abbrev vO:Stmt:=top 17
abbrev pO:Stmt:=top 18
abbrev iy:Stmt:=top 19
abbrev kM:Stmt:=top 21
abbrev i4:Stmt:=top 22
abbrev i5:Stmt:=inClass (top 25) 0
abbrev vP:Stmt:=inClass (top 25) 1
abbrev pP:Stmt:=inClass (top 25) 2
abbrev fN:Stmt:=inClass (top 26) 0
abbrev kN:Stmt:=inClass (top 26) 1
abbrev i6:Stmt:=inClass (top 26) 2
abbrev fO:Stmt:=inClass (top 27) 0
abbrev iz:Stmt:=inClass (top 27) 1
abbrev gL:Stmt:=inClass (top 27) 2
abbrev mC:Stmt:=top 34
abbrev gM:Stmt:=top 35
abbrev fP:Stmt:=inClass (top 36) 0
abbrev mD:Stmt:=inClass (top 36) 1
abbrev mE:Stmt:=inClass (top 36) 2
abbrev qP:Stmt:=inClass (top 37) 0
abbrev yg:Stmt:=inClass (top 37) 1
abbrev yh:Stmt:=inClass (top 37) 2
abbrev j7:Stmt:=inClass (top 37) 3
abbrev mF:Stmt:=inClass (top 37) 4
abbrev mG:Stmt:=inClass (top 37) 5
abbrev g8:Stmt:=inClass (top 37) 6
abbrev kO:Stmt:=inClass (top 37) 7
abbrev n5:Stmt:=inClass (top 37) 8
abbrev jo:Stmt:=inClass (top 37) 9
abbrev qQ:Stmt:=inClass (top 37) 10
abbrev mH:Stmt:=inClass (top 37) 11
abbrev j8:Stmt:=inClass (top 37) 12
abbrev j9:Stmt:=inClass (top 37) 13
abbrev kQ:Stmt:=top 38
abbrev mI:Stmt:=top 47
abbrev gN:Stmt:=top 48
abbrev iA:Stmt:=top 49
abbrev vQ:Stmt:=inClass (top 50) 0
abbrev vR:Stmt:=inClass (top 50) 2
abbrev tV:Stmt:=inClass (top 50) 4
abbrev vS:Stmt:=inClass (top 51) 0
abbrev pQ:Stmt:=inClass (top 51) 1
abbrev mJ:Stmt:=inClass (top 51) 2
abbrev pR:Stmt:=inClass (top 51) 3
abbrev mK:Stmt:=top 52
abbrev qR:Stmt:=top 54
abbrev kR:Stmt:=top 56
abbrev mL:Stmt:=top 57
abbrev fQ:Stmt:=top 58
abbrev pS:Stmt:=top 59
abbrev gO:Stmt:=top 60
abbrev fR:Stmt:=inClass (top 61) 0
abbrev Br:Stmt:=inClass (top 61) 1
abbrev Kv:Stmt:=inClass (top 61) 2
abbrev DA:Stmt:=inClass (top 61) 3
abbrev qS:Stmt:=inClass (top 61) 4
abbrev mM:Stmt:=inClass (top 61) 7
abbrev yi:Stmt:=inClass (top 61) 8
abbrev vT:Stmt:=inClass (top 8) 0
abbrev pT:Stmt:=top 63
abbrev vU:Stmt:=top 64
abbrev vV:Stmt:=top 65
abbrev Bs:Stmt:=top 66
abbrev mN:Stmt:=top 68
abbrev mO:Stmt:=top 69
abbrev n9:Stmt:=top 70
abbrev j':Stmt:=top 71
abbrev Bt:Stmt:=top 72
abbrev vW:Stmt:=top 73
abbrev vX:Stmt:=top 74
abbrev i7:Stmt:=top 75
abbrev yj:Stmt:=top 78
abbrev vY:Stmt:=top 80
abbrev Kw:Stmt:=top 76
abbrev mP:Stmt:=top 77
abbrev vZ:Stmt:=top 79
theorem nkc:¬(("kind" :Str)="count"):=by decide+kernel
def wa(k:Str)(n:Int):List (Str×V):=cL "count" (.int n) (cL "kind" (.str k) [])
theorem tW(k:Str)(n:Int):(wa k n).lookup ("kind" :Str)=some (.str k):=by
 unfold wa
 rw[aG,if_neg nkc,aG,if_pos rfl]
theorem qT(k:Str)(n:Int):(wa k n).lookup ("count" :Str)=some (.int n):=by
 unfold wa
 rw[aG,if_pos rfl]
theorem Bu(k:Str)(n:Int){m:Str}(h1:¬m="count")(h2:¬m="kind"):(wa k n).lookup m=none:=by
 unfold wa
 rw[aG,if_neg h1,aG,if_neg h2]
 all_goals rfl
def gy(C:Addr)(H:Hp)(p:Addr)(k:Str)(n:Int):Prop:=∃dx,H p=some (.ins C dx (wa k n))
theorem gy.same{C:Addr}{H H':Hp}{p:Addr}{k:Str}{n:Int}(a:gy C H p k n)(e:au H H'):gy C H' p k n:=let ⟨dx,h⟩:=a;⟨dx,e _ _ h⟩
def bu(kvs:List (Key×V)):Prop:=∀p∈kvs,∃i,p.2=V.int i
def aM(kvs:List (Key×V))(k:Key):Int:=match bW kvs k with
 |some (.int i)=>i
 |_=>0
theorem eC{kvs:List (Key×V)}{k:Key}(h:bW kvs k=none):aM kvs k=0:=by unfold aM;rw[h]
theorem dB{kvs:List (Key×V)}{k:Key}{i:Int}(h:bW kvs k=some (.int i)):aM kvs k=i:=by unfold aM;rw[h]
def cC(kvs:List (Key×V))(k:Key)(n:Int):List (Key×V):=putK kvs k (.int (aM kvs k+n))
def a9(t:Int)(acc:List (Key×V))(as:List (Str×Int)):List (Key×V):=as.foldl (fun acc p=>cC acc (Sum.inr p.1) (p.2*t)) acc
def iP(c:Int)(acc:List (Key×V))(l:List (Key×V))(all:List (Key×V)):List (Key×V):=l.foldl (fun acc p=>cC acc p.1 (aM all p.1*c)) acc
def DB(c:Int):V→V
 | .int i=> .int (i*c)
 |v=>v
def scale(c:Int)(kvs:List (Key×V)):List (Key×V):=kvs.map fun p=>(p.1,DB c p.2)
def F9(B:Int)(kvs:List (Key×V)):Prop:=∀p∈kvs,∃i,p.2=V.int i∧0≤i∧i≤B
theorem fS{kvs:List (Key×V)}{k:Key}{v:V}(e:bW kvs k=some v):(k,v)∈kvs:=by
 unfold bW at e
 cases f:kvs.find? fun kv=>decide (kv.1=k) with
 |none=>rw[f] at e;cases e
 |some p=>
  rw[f] at e
  cases e
  have h1:=List.mem_of_find?_eq_some f
  have h2:p.1=k:=by simpa using List.find?_some f
  rw[←h2];exact h1
theorem bu.look{kvs:List (Key×V)}(h:bu kvs){k:Key}{v:V}(e:bW kvs k=some v):v= .int (aM kvs k):=by
 obtain⟨i,hi⟩:=h _ (fS e)
 have hi:v= .int i:=hi
 subst hi
 rw[dB e]
theorem bu.at{kvs:List (Key×V)}(h:bu kvs)(k:Key):(bW kvs k).getD (.int 0)= .int (aM kvs k):=by
 cases e:bW kvs k with
 |none=>rw[eC e];rfl
 |some v=>rw[h.look e];rfl
theorem F9.SU{B:Int}{kvs:List (Key×V)}(h:F9 B kvs)(hB:0≤B)(k:Key):0≤aM kvs k∧aM kvs k≤B:=by
 cases e:bW kvs k with
 |none=>rw[eC e];exact⟨Int.le_refl _,hB⟩
 |some v=>
  obtain⟨i,hi,h0,h1⟩:=h _ (fS e)
  have hi:v= .int i:=hi
  subst hi
  rw[dB e];exact⟨h0,h1⟩
theorem F9.put{B B':Int}{kvs:List (Key×V)}(h:F9 B kvs)(hBB:B≤B')(k:Key){i:Int}(h0:0≤i)(h1:i≤B'):F9 B' (putK kvs k (.int i)):=by
 intro p hp
 unfold putK at hp
 split at hp
 ·obtain⟨q,hq,e⟩:=List.mem_map.mp hp
  subst e
  split
  ·exact⟨i,rfl,h0,h1⟩
  ·obtain⟨j,e,h2,h3⟩:=h q hq
   exact⟨j,e,h2,Int.le_trans h3 hBB⟩
 ·rcases List.mem_append.mp hp with hq|hq
  ·obtain⟨j,e,h2,h3⟩:=h p hq
   exact⟨j,e,h2,Int.le_trans h3 hBB⟩
  ·have e:p=(k,V.int i):=by simpa using hq
   exact⟨i,by rw[e],h0,h1⟩
theorem F9.add{B b:Int}{kvs:List (Key×V)}(h:F9 B kvs)(hB:0≤B)(k:Key){n:Int}(h0:0≤n)(h1:n≤b):F9 (B+b) (cC kvs k n):=by
 obtain⟨z0,z1⟩:=h.SU hB k
 exact h.put (by omega) k (by omega) (by omega)
theorem wb{kvs:List (Key×V)}{k:Key}{v:V}(h:(kvs.map (·.1)).Nodup):((putK kvs k v).map (·.1)).Nodup:=by
 cases e:bW kvs k with
 |none=>exact J2 v h e
 |some x=>
  have ha:(kvs.any fun kv=>decide (kv.1=k))=true:=by rw[fk,e];rfl
  unfold putK
  rw[if_pos ha,List.map_map]
  have:((fun (x:Key×V)=>x.1)∘fun kv=>if kv.1=k then (kv.1,v) else kv)=fun (x:Key×V)=>x.1:=by
   funext y
   simp only [Function.comp]
   split<;>rfl
  rw[this]
  exact h
theorem oa(c:Int)(k:Key):∀kvs:List (Key×V),bW (scale c kvs) k=(bW kvs k).map (DB c)
 | []=>rfl
 |p::r=>by
  have ih:=oa c k r
  show bW ((p.1,DB c p.2)::scale c r) k=_
  by_cases e:p.1=k
  ·refine(cO (p:=(p.1,DB c p.2)) (r:=scale c r) e).trans ?_
   rw[cO e]
   rfl
  ·refine(cP (p:=(p.1,DB c p.2)) (r:=scale c r) e).trans ?_
   rw[cP e]
   exact ih
theorem DC(c:Int)(kvs:List (Key×V))(k:Key)(i:Int):scale c (putK kvs k (.int i))=putK (scale c kvs) k (.int (i*c)):=by
 have ha:((scale c kvs).any fun kv=>decide (kv.1=k))=kvs.any fun kv=>decide (kv.1=k):=by
  unfold scale
  rw[List.any_map];rfl
 unfold putK
 rw[ha]
 split
 ·unfold scale
  rw[List.map_map,List.map_map]
  apply List.map_congr_left
  intro p _
  simp only [Function.comp]
  split<;>rfl
 ·unfold scale
  rw[List.map_append];rfl
theorem DD{kvs:List (Key×V)}(h:bu kvs)(c:Int)(k:Key):aM (scale c kvs) k=aM kvs k*c:=by
 cases e:bW kvs k with
 |none=>rw[eC e,eC (by rw[oa,e];rfl),Int.zero_mul]
 |some v=>
  have:=h.look e
  subst this
  exact dB (by rw[oa,e];rfl)
theorem bu.put{kvs:List (Key×V)}(h:bu kvs)(k:Key)(i:Int):bu (putK kvs k (.int i)):=by
 intro p hp
 unfold putK at hp
 split at hp
 ·obtain⟨q,hq,e⟩:=List.mem_map.mp hp
  subst e
  split
  ·exact⟨i,rfl⟩
  ·exact h q hq
 ·rcases List.mem_append.mp hp with hq|hq
  ·exact h p hq
  ·have e:p=(k,V.int i):=by simpa using hq
   exact⟨i,by rw[e]⟩
theorem DE{kvs:List (Key×V)}(h:bu kvs)(c:Int)(k:Key)(n:Int):scale c (cC kvs k n)=cC (scale c kvs) k (n*c):=by
 unfold cC
 rw[DC,DD h,Int.add_mul]
theorem bu.add{kvs:List (Key×V)}(h:bu kvs)(k:Key)(n:Int):bu (cC kvs k n):=h.put k _
theorem tX(t c:Int):∀(as:List (Str×Int)) (acc:List (Key×V)),bu acc→scale c (a9 t acc as)=a9 (t*c) (scale c acc) as
 | [],_,_=>rfl
 |p::r,acc,h=>by
  show scale c (a9 t (cC acc (Sum.inr p.1) (p.2*t)) r)=a9 (t*c) (cC (scale c acc) (Sum.inr p.1) (p.2*(t*c))) r
  rw[tX t c r _ (h.add _ _),DE h,Int.mul_assoc]
theorem iB(t:Int):∀(as:List (Str×Int)) (acc:List (Key×V)),bu acc→bu (a9 t acc as)
 | [],_,h=>h
 |_::r,_,h=>iB t r _ (h.add _ _)
theorem wc(t:Int):∀(as:List (Str×Int)) (acc:List (Key×V)),(acc.map (·.1)).Nodup→((a9 t acc as).map (·.1)).Nodup
 | [],_,h=>h
 |_::r,_,h=>wc t r _ (wb h)
theorem iC(t:Int):∀(as:List (Str×Int)) (acc:List (Key×V)),(a9 t acc as).length≤acc.length+as.length
 | [],_=>Nat.le_refl _
 |p::r,acc=>by
  have:=iC t r (cC acc (Sum.inr p.1) (p.2*t))
  have h2:=cp acc (Sum.inr p.1 :Key) (.int (aM acc (Sum.inr p.1)+p.2*t))
  have e:(cC acc (Sum.inr p.1) (p.2*t)).length≤acc.length+1:=h2
  show (a9 t (cC acc (Sum.inr p.1) (p.2*t)) r).length≤_
  rw[List.length_cons]
  omega
theorem wd{t b:Int}(hb:0≤b):∀(as:List (Str×Int)) (acc:List (Key×V)) (B:Int),0≤B→F9 B acc→(∀p∈as,0≤p.2*t∧p.2*t≤b)→F9 (B+as.length*b) (a9 t acc as)
 | [],acc,B,_,h,_=>by
   have e:B+(([]:List (Str×Int)).length:Int)*b=B:=by simp
   rw[e];exact h
 |p::r,acc,B,hB,h,hp=>by
  obtain⟨p0,p1⟩:=hp p (List.mem_cons_self ..)
  have:=wd hb r _ (B+b) (by omega) (h.add hB (Sum.inr p.1) p0 p1) fun q hq=>hp q (List.mem_cons_of_mem _ hq)
  have e:B+b+(r.length:Int)*b=B+((p::r).length:Int)*b:=by
   rw[List.length_cons]
   push_cast
   rw[Int.add_mul,Int.one_mul]
   omega
  rw[←e]
  exact this
def eY(n:Int):Str:=if n=1 then "" else (toString n:Str)
theorem Ac:∀n:Nat,n<1000→(eY (n:Int)).length≤3:=by decide+kernel
theorem g9{n:Int}(h:1≤n)(h':n≤999):(eY n).length≤3:=by
 have:=Ac n.toNat (by omega)
 rwa [Int.toNat_of_nonneg (by omega)] at this
def jn(ys:List Str):Str:=Str.join ⟨#[]⟩ ys
theorem join_eq(ys:List Str):Txt.join "" ys=jn ys:=by
 have h:=PyProof.Rows.join_closes (sep:="") (sep':=⟨#[]⟩) (ys:=ys) (by decide+kernel)
 unfold jn
 simpa using h
theorem Kx(x:Str)(r:List Str):jn (x::r)=x++jn r:=PyProof.Rows.join_nil_cons x r
theorem Bv:∀{ys:List Str} {b:Nat},(∀y∈ys,y.length≤b)→(ys.map (·.length)).sum≤ys.length*b
 | [],_,_=>Nat.zero_le _
 |y::r,b,h=>by
  rw[List.map_cons,List.sum_cons,List.length_cons,Nat.succ_mul]
  have h1:=h y (List.mem_cons_self ..)
  have h2:=Bv (ys:=r) (b:=b) fun z hz=>h z (List.mem_cons_of_mem _ hz)
  omega
theorem tY(x y z:Str):x++y++z=x++(y++z):=by
 show (⟨(x.cps++y.cps)++z.cps⟩:Str)=⟨x.cps++(y.cps++z.cps)⟩
 rw[Array.append_assoc]
theorem Y1:¬(("parts" :Str)="count"):=by decide+kernel
def mQ(l:Addr)(n:Int):List (Str×V):=cL "count" (.int n) (cL "parts" (.ref l) [])
theorem iD(l:Addr)(n:Int):(mQ l n).lookup ("parts" :Str)=some (.ref l):=by
 unfold mQ
 rw[aG,if_neg Y1,aG,if_pos rfl]
theorem iE(l:Addr)(n:Int):(mQ l n).lookup ("count" :Str)=some (.int n):=by
 unfold mQ
 rw[aG,if_pos rfl]
theorem mR(l:Addr)(n:Int){m:Str}(h1:¬m="count")(h2:¬m="parts"):(mQ l n).lookup m=none:=by
 unfold mQ
 rw[aG,if_neg h1,aG,if_neg h2]
 all_goals rfl
inductive DF(K:PySem.W.Frag)(vs:List V)(H:Hp)(Q:VK)(E:XK):Prop
 |mk (a:Addr) (ns:List Int) (k:Nat) (dR:vs=[.ref a, .int k]) (dS:bJ K H a (ns.map V.int)) (dW:ns.length≤63) (eZ:∀n,Q (.int n) H)
def mS(K:PySem.W.Frag):Sp:=DF K
inductive F'(vs:List V)(H:Hp)(Q:VK)(E:XK):Prop
 |mk (i:Int) (dR:vs=[.int i]) (dS:Q (.bl true) H)
def Bw:Sp:=F'
inductive Ky(vs:List V)(H:Hp)(Q:VK)(E:XK):Prop
 |mk (n:Int) (dR:vs=[.int n]) (dS:1≤n) (dW:n≤999) (eZ:Q (.str (eY n)) H)
def ka:Sp:=Ky
inductive Kz(C:Addr)(vs:List V)(H:Hp)(Q:VK)(E:XK):Prop
 |mk (p dx:Addr) (k:Str) (n:Int) (dR:vs=[.ref p, .str k, .int n]) (dS:H p=some (.ins C dx [])) (dW:∀H',H' p=some (.ins C dx (wa k n))→(∀b o,H b=some o→b≠p→H' b=some o)→Q .cS H')
def Ga(C:Addr):Sp:=Kz C
inductive Gb(C:Addr)(vs:List V)(H:Hp)(Q:VK)(E:XK):Prop
 |mk (p:Addr) (k:Str) (n:Int) (dR:vs=[.ref p]) (dS:gy C H p k n) (dW:k.length≤3) (eZ:1≤n) (gz:n≤999) (jb:Q (.str (k++eY n)) H)
def we(C:Addr):Sp:=Gb C
inductive DG(C:Addr)(vs:List V)(H:Hp)(Q:VK)(E:XK):Prop
 |mk (p:Addr) (k:Str) (n:Int) (dR:vs=[.ref p]) (dS:gy C H p k n) (dW:∀d,H d=none→Q (.ref d) (upd H d (.dK [(Sum.inr k, .int n)])))
def qU(C:Addr):Sp:=DG C
structure pD(K:PySem.W.Frag)(mg:Str→Option Value)(C:Addr):Prop where
 gA:tf K C
 wg:cH K C "kind"
 qV:cH K C "count"
 OM:mg "Atom" =some (.ref C)
 kb:mg "len" =none
 Gd:mg "str" =none
 yk:mg "int" =none
 ON:mg "bool" =none
 mT:mg "range" =none
 jq:mg "isinstance" =none
 k1:PySem.W.kitOne K (.type "int") (.type "int")=some true
 k2:PySem.W.kitOne K (.type "int") (.type "bool")=some false
 k3:PySem.W.kitOne K (.type "dict") (.type "dict")=some true
 k4:PySem.W.kitOne K (.type "str") (.type "str")=some true
 k6:PySem.W.kitOne K (.type "list") (.type "list")=some true
theorem mU{x y:Str}(h:x.cps.toList=y.cps.toList):x=y:=by
 cases x;cases y
 congr 1
 exact Array.toList_inj.mp h
theorem KA(a b n:Nat):Builtin.Str.strSliceIndices (some (a:Int)) (some (b:Int)) 1 n=Builtin.Str.strSliceIndices (some (a:Int)) (some ((min b n:Nat):Int)) 1 n:=by
 have h2:¬((b:Int) <0):=by omega
 have h3:¬(((min b n:Nat):Int) <0):=by omega
 have e2:max (0 :Int) (min (b:Int) (n:Int))=max (0 :Int) (min ((min b n:Nat):Int) (n:Int)):=by omega
 simp only [Builtin.Str.strSliceIndices,h2,h3,if_false,e2,show ((1 :Int) >0)=True from by simp,if_true]
theorem t4(x:Str){a b:Nat}(Oo:a≤b)(ha:a≤x.length):(Txt.slice x (some (a:Int)) (some (b:Int))).cps.toList=(x.cps.toList.drop a).take (b - a):=by
 have hm:a≤min b x.length:=by omega
 have hb:min b x.length≤x.length:=by omega
 have h1:=StrLaws.sliced_plain x hm hb
 have h2:=StrLaws.strSliceIndices_plain hm hb
 have hl:x.cps.toList.length=x.length:=by simp [Str.length]
 unfold Txt.slice
 rw[KA]
 split
 ·rename_i h
  have h:(Builtin.Str.strSliceIndices (some (a:Int)) (some ((min b x.length:Nat):Int)) 1 x.length).length=x.length:=by simpa using h
  rw[h2,List.length_map,List.length_range] at h
  by_cases hz:x.length=0
  ·have:x.cps.toList=[]:=List.length_eq_zero_iff.mp (by omega)
   rw[this];simp
  ·have e:a=0:=by omega
   subst e
   rw[List.drop_zero,List.take_of_length_le (by omega)]
 ·show (List.filterMap _ _).toArray.toList=_
  rw[h1,List.take_eq_take_iff,List.length_drop,hl]
  omega
def eK(x:Str)(p:Nat):Str:=⟨((x.cps.toList.drop p).take 1).toArray⟩
theorem t5(x:Str){p:Nat}(hp:p≤x.length):Txt.slice x (some (p:Int)) (some ((p:Int)+1))=eK x p:=by
 apply mU
 have:=t4 x (a:=p) (b:=p+1) (by omega) hp
 rw[Nat.add_sub_cancel_left] at this
 exact this
def Here(x:Str)(p:Nat)(t post:List Nat):Prop:=p≤x.length∧x.cps.toList.drop p=t++post
theorem Here.on{x:Str}{p:Nat}{t u post:List Nat}(h:Here x p (t++u) post):Here x (p+t.length) u post:=by
 obtain⟨h1,h2⟩:=h
 have hl:x.cps.toList.length=x.length:=by simp [Str.length]
 have e:=congrArg List.length h2
 rw[List.length_drop,List.length_append,List.length_append,hl] at e
 refine⟨by omega,?_⟩
 rw[←List.drop_drop,h2,List.append_assoc,List.drop_left]
theorem Here.sg{x:Str}{p:Nat}{c:Nat}{t post:List Nat}(h:Here x p (c::t) post):eK x p=⟨#[c]⟩:=by
 unfold eK
 rw[h.2]
 rfl
theorem Here.OO{x:Str}{p:Nat}{post:List Nat}(h:Here x p [] post):eK x p=⟨(post.take 1).toArray⟩:=by
 unfold eK
 rw[h.2]
 rfl
theorem Here.cut{x:Str}{p:Nat}{t post:List Nat}(h:Here x p t post):Txt.slice x (some (p:Int)) (some ((p+t.length:Nat):Int))=⟨t.toArray⟩:=by
 apply mU
 rw[t4 x (by omega) h.1,h.2,Nat.add_sub_cancel_left,List.take_left]
theorem Here.le{x:Str}{p:Nat}{t post:List Nat}(h:Here x p t post):p+t.length≤x.length:=by
 have hl:x.cps.toList.length=x.length:=by simp [Str.length]
 have e:=congrArg List.length h.2
 rw[List.length_drop,List.length_append,hl] at e
 have:=h.1
 omega
def inR(lo hi:Nat)(s:Str):Bool:=match s.cps.toList with
 | [c]=>decide (lo≤c)&&decide (c≤hi)
 |_=>false
theorem OP(lo:Nat)(s:Str)(h:s.cps.toList.length≤1):(!decide (s.cps.toList< [lo]))=(match s.cps.toList with| [c]=>decide (lo≤c) |_=>false):=by
 match hh:s.cps.toList,h with
 | [],_=>simp
 | [c],_=>
   have:([c] < [lo])↔c<lo:=by simp [List.cons_lt_cons_iff]
   by_cases hc:c<lo
   ·rw[decide_eq_true (this.mpr hc)];simp;omega
   ·rw[decide_eq_false (fun z=>hc (this.mp z))];simp;omega
 |_::_::_,h=>simp at h
theorem OQ(hi:Nat)(s:Str)(h:s.cps.toList.length≤1):(!decide ([hi] <s.cps.toList))=(match s.cps.toList with| [c]=>decide (c≤hi) |_=>true):=by
 match hh:s.cps.toList,h with
 | [],_=>simp
 | [c],_=>
   have:([hi] < [c])↔hi<c:=by simp [List.cons_lt_cons_iff]
   by_cases hc:hi<c
   ·rw[decide_eq_true (this.mpr hc)];simp;omega
   ·rw[decide_eq_false (fun z=>hc (this.mp z))];simp;omega
 |_::_::_,h=>simp at h
theorem mV(x:Str)(p:Nat):(eK x p).cps.toList.length≤1:=by
 unfold eK
 simp
 omega
def Not(f:Nat→Bool)(l:List Nat):Prop:=∀c,l.head? =some c→f c=false
def xy(c:Nat):Bool:=decide (48≤c)&&decide (c≤57)
def ES(c:Nat):Bool:=decide (97≤c)&&decide (c≤122)
def ET(c:Nat):Bool:=decide (65≤c)&&decide (c≤90)
def aP(n:Int):List Nat:=(eY n).cps.toList
theorem wj:aP 1=[]:=by decide+kernel
theorem kd{n:Nat}(h:n≠1):aP (n:Int)=(Nat.toDigits 10 n).map Char.toNat:=by
 unfold aP eY
 rw[if_neg (by omega)]
 exact PySem.W.KIN.signs_num n
theorem pU(n:Nat):(aP (n:Int)).all xy=true:=by
 by_cases h:n=1
 ·subst h;rw[show ((1 :Nat):Int)=1 from rfl,wj];rfl
 ·rw[kd h,List.all_eq_true]
  intro c hc
  obtain⟨ch,EK,e⟩:=List.mem_map.mp hc
  have r:=PyProof.Rows.digit_range (Nat.isDigit_of_mem_toDigits (by decide) (by decide) EK)
  rw[←e]
  simp only [xy,Bool.and_eq_true,decide_eq_true_eq]
  exact r
theorem Ge(n:Nat):Nat.toDigits 10 n≠[]:=by
 intro e
 have h:=PySem.toDigits_len_ge 10 n
 rw[e] at h
 exact absurd h (by decide)
theorem Gf:∀n:Nat,n≠0→(Nat.toDigits 10 n).head? ≠some '0' :=by
 intro n
 induction n using Nat.strongRecOn with
 |_ m ih=>
  intro h0
  by_cases h:m<10
  ·rw[Nat.toDigits_of_lt_base h]
   have:∀m:Nat,m<10→m≠0→[Nat.digitChar m].head? ≠some '0' :=by decide
   exact this m h h0
  ·have hm:m%10<10:=Nat.mod_lt m (by decide)
   have t:Nat.toDigits 10 (m/10)++Nat.toDigits 10 (m%10)=Nat.toDigits 10 (10*(m/10)+m%10):=Nat.toDigits_append_toDigits (by decide) (by omega) hm
   rw[Nat.div_add_mod] at t
   have:=ih (m/10) (by omega) (by omega)
   rw[←t]
   cases hh:Nat.toDigits 10 (m/10) with
   |nil=>exact absurd hh (Ge _)
   |cons c r=>
    rw[hh] at this
    exact this
theorem Gg(n:Nat)(h0:n≠0):(aP (n:Int)).head? ≠some 48:=by
 by_cases h:n=1
 ·subst h;rw[show ((1 :Nat):Int)=1 from rfl,wj];simp
 ·rw[kd h,List.head?_map]
  intro z
  cases e:(Nat.toDigits 10 n).head? with
  |none=>rw[e] at z;cases z
  |some c=>
   rw[e] at z
   have z:c.toNat=48:=by simpa using z
   have:c='0' :=by
    apply Char.ext
    apply UInt32.toNat_inj.mp
    exact z
   exact Gf n h0 (by rw[e,this])
theorem KC(n:Nat):aP (n:Int)≠[49]:=by
 by_cases h:n=1
 ·subst h;rw[show ((1 :Nat):Int)=1 from rfl,wj];simp
 ·rw[kd h]
  intro z
  have:=PySem.W.KIN.val_back n
  rw[z] at this
  exact h this.symm
theorem Bx(n:Nat)(h:aP (n:Int)=[]):n=1:=by
 by_cases e:n=1
 ·exact e
 ·rw[kd e] at h
  exact absurd (List.map_eq_nil_iff.mp h) (Ge n)
theorem kS{n:Nat}{k:Nat}(hk:0<k)(h:n<10^k):(eY (n:Int)).length≤k:=by
 unfold eY
 split
 ·exact Nat.zero_le _
 ·rw[PySem.ofString_length]
  show (Nat.repr n).length≤k
  rw[Nat.length_repr_le_iff hk]
  exact h
theorem KD(n:Nat)(h:n<10^12)(h1:n≠1):PySem.intText? (eY (n:Int))=some (n:Int):=by
 have hd:PySem.NumText.AllDigits (eY (n:Int)).cps.toList:=by
  intro c hc
  have:=List.all_eq_true.mp (pU n) c hc
  simpa only [xy,Bool.and_eq_true,decide_eq_true_eq] using this
 have nX:(eY (n:Int)).cps.toList≠[]:=fun z=>h1 (Bx n z)
 have e:=PySem.intText_digits hd nX (Nat.le_trans (kS (by decide) h) (by decide))
 rw[show (eY (n:Int)).cps.toList=_ from kd h1,PySem.W.KIN.val_back] at e
 exact e
theorem mW(lo hi c:Nat):inR lo hi ⟨#[c]⟩=(decide (lo≤c)&&decide (c≤hi)):=rfl
theorem wk{lo hi:Nat}{post:List Nat}(h:Not (fun c=>decide (lo≤c)&&decide (c≤hi)) post):inR lo hi ⟨(post.take 1).toArray⟩=false:=by
 cases post with
 |nil=>rfl
 |cons c r=>exact h c rfl
instance memKey (k:Key) (K:List Key):Decidable (k∈K):=decidable_of_iff ((K.any fun x=>decide (x=k))=true) (by simp)
def cM(acc:List (Key×V))(l:List (Key×Int)):List (Key×V):=l.foldl (fun acc p=>cC acc p.1 p.2) acc
def jO(K:List Key)(k:Key):List Key:=if k∈K then K else K++[k]
def fA(K L:List Key):List Key:=L.foldl jO K
def sumK(l:List (Key×Int))(j:Key):Int:=(l.map fun p=>if p.1=j then p.2 else 0).sum
theorem iF(D:List (Key×V))(k j:Key)(n:Int):aM (putK D k (.int n)) j=if j=k then n else aM D j:=by
 unfold aM
 rw[Ff]
 by_cases h:j=k
 ·rw[if_pos h,if_pos h]
 ·rw[if_neg h,if_neg h]
theorem By(D:List (Key×V))(k j:Key)(n:Int):aM (cC D k n) j=aM D j+if k=j then n else 0:=by
 unfold cC
 rw[iF]
 by_cases h:j=k
 ·rw[if_pos h,if_pos h.symm,h]
 ·rw[if_neg h,if_neg (Ne.symm h),Int.add_zero]
theorem qW(D:List (Key×V))(k:Key)(v:V):(putK D k v).map (·.1)=jO (D.map (·.1)) k:=by
 unfold jO
 cases e:bW D k with
 |none=>rw[if_neg (ml e),mh v e,List.map_append];rfl
 |some x=>
  rw[if_pos (pJ e)]
  have ha:(D.any fun kv=>decide (kv.1=k))=true:=by rw[fk,e];rfl
  unfold putK
  rw[if_pos ha,List.map_map]
  apply List.map_congr_left
  intro p _
  simp only [Function.comp]
  split<;>rfl
theorem kg:∀(l:List (Key×Int)) (acc:List (Key×V)),(cM acc l).map (·.1)=fA (acc.map (·.1)) (l.map (·.1))
 | [],_=>rfl
 |p::r,acc=>by
  show (cM (cC acc p.1 p.2) r).map (·.1)=fA (jO (acc.map (·.1)) p.1) (r.map (·.1))
  rw[kg r]
  unfold cC
  rw[qW]
theorem mX:∀(l:List (Key×Int)) (acc:List (Key×V)) (j:Key),aM (cM acc l) j=aM acc j+sumK l j
 | [],acc,j=>by show aM acc j=aM acc j+0;rw[Int.add_zero]
 |p::r,acc,j=>by
  show aM (cM (cC acc p.1 p.2) r) j=aM acc j+((if p.1=j then p.2 else 0)+sumK r j)
  rw[mX r,By,Int.add_assoc]
theorem pV:∀(l:List (Key×Int)) (acc:List (Key×V)),bu acc→bu (cM acc l)
 | [],_,h=>h
 |_::r,_,h=>pV r _ (h.add _ _)
theorem Ad:∀(l:List (Key×Int)) (acc:List (Key×V)),(acc.map (·.1)).Nodup→((cM acc l).map (·.1)).Nodup
 | [],_,h=>h
 |_::r,_,h=>Ad r _ (wb h)
theorem Bz{D:List (Key×V)}(hI:bu D)(hn:(D.map (·.1)).Nodup):D=(D.map (·.1)).map fun k=>(k,V.int (aM D k)):=by
 rw[List.map_map]
 refine(List.map_id D).symm.trans ?_
 apply List.map_congr_left
 intro p hp
 have e:=fw hn hp
 have:=hI.look e
 show p=(p.1,V.int (aM D p.1))
 rw[←this]
theorem mY{A B:List (Key×V)}(hA:bu A)(hB:bu B)(nA:(A.map (·.1)).Nodup)(hk:A.map (·.1)=B.map (·.1))(hz:∀k,aM A k=aM B k):A=B:=by
 rw[Bz hA nA,Bz hB (hk▸nA),←hk]
 apply List.map_congr_left
 intro k _
 rw[hz k]
theorem Gh{K:List Key}{k j:Key}:j∈jO K k↔j∈K∨j=k:=by
 unfold jO
 split
 ·rename_i h
  exact⟨.inl,fun z=>z.elim id fun e=>e▸h⟩
 ·simp
theorem qX:∀{L K:List Key} {j:Key},j∈fA K L↔j∈K∨j∈L
 | [],K,j=>by show j∈K↔_;simp
 |x::L,K,j=>by
  show j∈fA (jO K x) L↔_
  rw[qX,Gh,List.mem_cons,or_assoc]
theorem DH(K M:List Key)(x:Key):fA K (jO M x)=jO (fA K M) x:=by
 unfold jO
 by_cases h:x∈M
 ·rw[if_pos h,if_pos (qX.mpr (.inr h))]
 ·rw[if_neg h]
  unfold fA
  rw[List.foldl_append]
  rfl
theorem t7(K:List Key):∀(L M:List Key),fA K (fA M L)=fA (fA K M) L
 | [],M=>rfl
 |x::L,M=>by
  show fA K (fA (jO M x) L)=fA (jO (fA K M) x) L
  rw[t7 K L,DH]
theorem wm(f:Key→Int)(j:Key):∀{Ks:List Key},Ks.Nodup→(Ks.map fun k=>if k=j then f k else 0).sum=if j∈Ks then f j else 0
 | [],_=>by simp
 |k::Ks,h=>by
  rw[List.nodup_cons] at h
  rw[List.map_cons,List.sum_cons,wm f j h.2]
  by_cases e:k=j
  ·subst e
   rw[if_pos rfl,if_neg h.1,if_pos (List.mem_cons_self ..),Int.add_zero]
  ·rw[if_neg e,Int.zero_add]
   have:(j∈k::Ks)↔j∈Ks:=by rw[List.mem_cons];exact⟨fun z=>z.elim (fun w=>absurd w.symm e) id, .inr⟩
   by_cases hj:j∈Ks
   ·rw[if_pos hj,if_pos (this.mpr hj)]
   ·rw[if_neg hj,if_neg (fun z=>hj (this.mp z))]
theorem mZ{D:List (Key×V)}{j:Key}(h:¬j∈D.map (·.1)):aM D j=0:=by
 cases e:bW D j with
 |none=>exact eC e
 |some x=>exact absurd (pJ e) h
theorem yl(c:Int)(j:Key):∀l:List (Key×Int),sumK (l.map fun p=>(p.1,p.2*c)) j=sumK l j*c
 | []=>by show (0 :Int)=0*c;rw[Int.zero_mul]
 |p::r=>by
  show (if p.1=j then p.2*c else 0)+sumK (r.map fun p=>(p.1,p.2*c)) j=((if p.1=j then p.2 else 0)+sumK r j)*c
  rw[yl c j r,Int.add_mul]
  split
  ·rfl
  ·rw[Int.zero_mul]
theorem add_dict(c:Int){acc:List (Key×V)}(hI:bu acc)(hn:(acc.map (·.1)).Nodup)(l:List (Key×Int)):
  cM acc ((cM [] l).map fun p=>(p.1,aM (cM [] l) p.1*c))=cM acc (l.map fun p=>(p.1,p.2*c)):=by
 have hD:bu (cM [] l):=pV l [] fun p hp=>by cases hp
 have nD:((cM [] l).map (·.1)).Nodup:=Ad l [] List.nodup_nil
 refine mY (pV _ _ hI) (pV _ _ hI) (Ad _ _ hn) ?_ fun j=>?_
 ·rw[kg,kg,List.map_map,List.map_map]
  show fA (acc.map (·.1)) ((cM [] l).map (·.1))=fA (acc.map (·.1)) (l.map (·.1))
  rw[kg,t7]
  rfl
 ·rw[mX,mX,yl]
  congr 1
  have e:=wm (fun k=>aM (cM [] l) k*c) j nD
  rw[List.map_map] at e
  have e2:sumK ((cM [] l).map fun p=>(p.1,aM (cM [] l) p.1*c)) j=if j∈(cM [] l).map (·.1) then aM (cM [] l) j*c else 0:=by
   rw[←e]
   unfold sumK
   rw[List.map_map]
   rfl
  have e3:aM (cM [] l) j=sumK l j:=by
   rw[mX]
   show (0 :Int)+_=_
   rw[Int.zero_add]
  rw[e2]
  split
  ·rw[e3]
  ·rename_i h
   rw[←e3,mZ h,Int.zero_mul]
theorem pW(t:Int):∀(as:List (Str×Int)) (acc:List (Key×V)),a9 t acc as=cM acc (as.map fun p=>((Sum.inr p.1 :Key),p.2*t))
 | [],_=>rfl
 |p::r,acc=>pW t r _
theorem BB(c:Int)(all:List (Key×V)):∀(l acc:List (Key×V)),iP c acc l all=cM acc (l.map fun p=>(p.1,aM all p.1*c))
 | [],_=>rfl
 |p::r,acc=>BB c all r _
theorem wo(c t:Int)(as:List (Str×Int)){acc:List (Key×V)}(hI:bu acc)(hn:(acc.map (·.1)).Nodup):iP c acc (a9 t [] as) (a9 t [] as)=a9 (t*c) acc as:=by
 rw[BB,pW,pW,add_dict c hI hn,List.map_map]
 congr 1
 apply List.map_congr_left
 intro p _
 show ((Sum.inr p.1 :Key),p.2*t*c)=(Sum.inr p.1,p.2*(t*c))
 rw[Int.mul_assoc]
theorem ntp:¬(("text" :Str)="place"):=by decide+kernel
def gj(x:Str)(p:Nat):List (Str×V):=cL "place" (.int p) (cL "text" (.str x) [])
theorem fT(x:Str)(p:Nat):(gj x p).lookup ("text" :Str)=some (.str x):=by
 unfold gj
 rw[aG,if_neg ntp,aG,if_pos rfl]
theorem bB(x:Str)(p:Nat):(gj x p).lookup ("place" :Str)=some (.int p):=by
 unfold gj
 rw[aG,if_pos rfl]
theorem aH(x:Str)(p:Nat){m:Str}(h1:¬m="place")(h2:¬m="text"):(gj x p).lookup m=none:=by
 unfold gj
 rw[aG,if_neg h1,aG,if_neg h2]
 all_goals rfl
theorem kT(x:Str)(p q:Nat):cL "place" (.int q) (gj x p)=gj x q:=by
 unfold gj
 simp only [cL,if_neg ntp,if_true]
theorem kU(x:Str)(p:Nat):(gj x p).length<1000:=by
 unfold gj
 simp only [cL,if_neg ntp]
 show 2<1000
 decide
def dm(R:Addr)(H:Hp)(r:Addr)(x:Str)(p:Nat):Prop:=∃dx,H r=some (.ins R dx (gj x p))
def Kept(r:Addr)(H H':Hp):Prop:=∀b o,H b=some o→b≠r→H' b=some o
theorem Kept.refl(r:Addr)(H:Hp):Kept r H H:=fun _ _ h _=>h
theorem Kept.trans{r:Addr}{H H' cy:Hp}(h:Kept r H H')(h':Kept r H' cy):Kept r H cy:=fun b o e n=>h' b o (h b o e n) n
theorem Kept.of{r:Addr}{H H':Hp}(h:au H H'):Kept r H H':=fun b o e _=>h b o e
inductive IspR(lo hi:Nat)(vs:List V)(H:Hp)(Q:VK)(E:XK):Prop
 |mk (s:Str) (dR:vs=[.str s]) (dS:s.cps.toList.length≤1) (dW:Q (.bl (inR lo hi s)) H)
def Mz(lo hi:Nat):Sp:=IspR lo hi
inductive Gi(R:Addr)(vs:List V)(H:Hp)(Q:VK)(E:XK):Prop
 |mk (r dx:Addr) (x:Str) (dR:vs=[.ref r, .str x]) (dS:H r=some (.ins R dx [])) (dW:∀H',dm R H' r x 0→Kept r H H'→Q .cS H')
def wq(R:Addr):Sp:=Gi R
inductive KG(R:Addr)(vs:List V)(H:Hp)(Q:VK)(E:XK):Prop
 |mk (r:Addr) (x:Str) (p:Nat) (dR:vs=[.ref r]) (dS:dm R H r x p) (dW:p≤x.length) (eZ:x.length≤1000) (gz:Q (.str (eK x p)) H)
def jr(R:Addr):Sp:=KG R
inductive KH(R:Addr)(vs:List V)(H:Hp)(Q:VK)(E:XK):Prop
 |mk (r:Addr) (x:Str) (p:Nat) (s:Str) (c:Nat) (t post:List Nat) (dR:vs=[.ref r, .str s]) (dS:s=⟨#[c]⟩) (dW:dm R H r x p) (eZ:Here x p (c::t) post) (gz:x.length≤1000) (jb:∀H',dm R H' r x (p+1)→Kept r H H'→Q .cS H')
def lS(R:Addr):Sp:=KH R
inductive Ae(R:Addr)(vs:List V)(H:Hp)(Q:VK)(E:XK):Prop
 |mk (r:Addr) (x:Str) (p:Nat) (s:Str) (post:List Nat) (dR:vs=[.ref r, .str s]) (dS:s.cps.all (· <128)=true) (dW:dm R H r x p) (eZ:Here x p s.cps.toList post) (gz:x.length≤1000) (jb:∀H',dm R H' r x (p+s.length)→Kept r H H'→Q .cS H')
def kW(R:Addr):Sp:=Ae R
inductive Af(R:Addr)(vs:List V)(H:Hp)(Q:VK)(E:XK):Prop
 |mk (r:Addr) (x:Str) (dR:vs=[.ref r]) (dS:dm R H r x x.length) (dW:x.length≤1000) (eZ:Q .cS H)
def t8(R:Addr):Sp:=Af R
inductive DI(R:Addr)(vs:List V)(H:Hp)(Q:VK)(E:XK):Prop
 |mk (r:Addr) (x:Str) (p:Nat) (n lg:Int) (post:List Nat) (dR:vs=[.ref r, .int lg]) (dS:dm R H r x p) (dW:Here x p (aP n) post) (eZ:1≤n) (gz:n<10^12) (jb:((aP n).length:Int)≤lg) (nM:Not xy post) (sy:x.length≤1000) (EU:∀H',dm R H' r x (p+(aP n).length)→Kept r H H'→Q (.int n) H')
def qY(R:Addr):Sp:=DI R
inductive DJ(R:Addr)(vs:List V)(H:Hp)(Q:VK)(E:XK):Prop
 |mk (r:Addr) (x:Str) (p:Nat) (n:Int) (post:List Nat) (dR:vs=[.ref r]) (dS:dm R H r x p) (dW:Here x p (aP n) post) (eZ:1≤n) (gz:n≤999) (jb:Not xy post) (nM:x.length≤1000) (sy:∀H',dm R H' r x (p+(aP n).length)→Kept r H H'→Q (.int n) H')
def i8(R:Addr):Sp:=DJ R
def lT(k:List Nat):Prop:=∃c r,k=c::r∧ET c=true∧r.all ES=true∧r.length≤2
inductive Gj(C R:Addr)(vs:List V)(H:Hp)(Q:VK)(E:XK):Prop
 |mk (r:Addr) (x:Str) (p:Nat) (k:List Nat) (n:Int) (post:List Nat) (dR:vs=[.ref r]) (dS:dm R H r x p) (dW:Here x p (k++aP n) post) (eZ:lT k) (gz:1≤n) (jb:n≤999) (nM:Not xy post) (sy:Not ES post) (EU:x.length≤1000) (Ra:∀a H',H a=none→gy C H' a ⟨k.toArray⟩ n→dm R H' r x (p+(k++aP n).length)→Kept r H H'→Q (.ref a) H')
def wt(C R:Addr):Sp:=Gj C R
structure sO(K:PySem.W.Frag)(mg:Str→Option Value)(C R:Addr)(uK uN:Tok):Prop extends pD K mg C where
 ax:tf K R
 js:cH K R "text"
 cw:cH K R "place"
 qZ:mg "LONGEST_KIND" =some (.int 3 uK)
 pE:mg "LONGEST_COUNT" =some (.int 3 uN)
section
seal lK PS PE PT PW PA PG Q4 PI PC Od
variable {P:Program}{w:World}{K:PySem.W.Frag}{mg:Str→Option Value}{base:Heap}{C R G Pc Fo:Addr}{uK uN uB uE uM:Tok}
theorem KI:ay ["sign"] ["sign"] (aj vN):=dA
theorem KJ:ay ["sign"] ["sign"] (aj vO):=dA
theorem Gk:ay ["sign"] ["sign"] (aj pO):=dA
theorem Ag(lo hi:Nat)(s:Str)(h:s.cps.toList.length≤1):(if (!decide (s.cps.toList< [lo]))=true then (!decide ([hi] <s.cps.toList)) else false)=inR lo hi s:=by
 rw[OP lo s h,OQ hi s h]
 unfold inR
 match hh:s.cps.toList,h with
 | [],_=>rfl
 | [c],_=>
   show (if decide (lo≤c)=true then decide (c≤hi) else false)=(decide (lo≤c)&&decide (c≤hi))
   cases decide (lo≤c)<;>rfl
 |_::_::_,h=>simp at h
theorem Gm(D:Def K mg "is_great" "is_great" vN ["sign"]):bj P w K mg base 1 "is_great" ["sign"] (Mz 65 90):=by
 refine D.dh KI (fun vs H Q E h=>?_) (fun f bp A outer s H vs Q E hr h=>?_)
 ·obtain⟨n,rfl,_⟩:=h
  rfl
 ·obtain⟨x,rfl,hl,q⟩:=h
  refine⟨_,(ao
     (aE (qo gW gW bH (pv 0) bH))),?_⟩
  rw[←Ag 65 90 x hl] at q
  have e1:("A" :Str).cps.toList=[65]:=by decide+kernel
  have e2:("Z" :Str).cps.toList=[90]:=by decide+kernel
  refine⟨_,rfl,_,_,rfl,rfl,_,rfl,?_⟩
  rw[e1]
  cases hh:(!decide (x.cps.toList< [65])) with
  |false=>rw[hh] at q;exact fI q
  |true=>rw[hh] at q;exact iZ ⟨_,_,rfl,rfl,by rw[e2];exact q⟩
theorem Gn(D:Def K mg "is_small" "is_small" vO ["sign"]):bj P w K mg base 1 "is_small" ["sign"] (Mz 97 122):=by
 refine D.dh KJ (fun vs H Q E h=>?_) (fun f bp A outer s H vs Q E hr h=>?_)
 ·obtain⟨n,rfl,_⟩:=h
  rfl
 ·obtain⟨x,rfl,hl,q⟩:=h
  refine⟨_,(ao
     (aE (qo gW gW bH (pv 0) bH))),?_⟩
  rw[←Ag 97 122 x hl] at q
  have e1:("a" :Str).cps.toList=[97]:=by decide+kernel
  have e2:("z" :Str).cps.toList=[122]:=by decide+kernel
  refine⟨_,rfl,_,_,rfl,rfl,_,rfl,?_⟩
  rw[e1]
  cases hh:(!decide (x.cps.toList< [97])) with
  |false=>rw[hh] at q;exact fI q
  |true=>rw[hh] at q;exact iZ ⟨_,_,rfl,rfl,by rw[e2];exact q⟩
theorem DK(D:Def K mg "is_figure" "is_figure" pO ["sign"]):bj P w K mg base 1 "is_figure" ["sign"] (Mz 48 57):=by
 refine D.dh Gk (fun vs H Q E h=>?_) (fun f bp A outer s H vs Q E hr h=>?_)
 ·obtain⟨n,rfl,_⟩:=h
  rfl
 ·obtain⟨x,rfl,hl,q⟩:=h
  refine⟨_,(ao
     (aE (qo gW gW bH (pv 0) bH))),?_⟩
  rw[←Ag 48 57 x hl] at q
  have e1:("0" :Str).cps.toList=[48]:=by decide+kernel
  have e2:("9" :Str).cps.toList=[57]:=by decide+kernel
  refine⟨_,rfl,_,_,rfl,rfl,_,rfl,?_⟩
  rw[e1]
  cases hh:(!decide (x.cps.toList< [48])) with
  |false=>rw[hh] at q;exact fI q
  |true=>rw[hh] at q;exact iZ ⟨_,_,rfl,rfl,by rw[e2];exact q⟩
theorem KL:ay ["self","text"] ["self","text"] (aj qP):=dA
theorem ym(D:lz K R "Reader.__init__" qP ["self","text"] [])(T:sO K mg C R uK uN):gE P w K mg base 1 R ["self","text"] [] (wq R):=by
 refine D.dh KL (fun vs H Q E h=>?_) (fun f bp A outer s H vs Q E hr h=>?_)
 ·obtain⟨r,dx,x,rfl,_⟩:=h
  rfl
 ·obtain⟨r,dx,x,rfl,hp,q⟩:=h
  refine⟨_,(ai
     (eI (pv 0) (pv 1) rfl)
    (ao
     (eI (pv 0) aq rfl))),?_⟩
  refine⟨_,rfl,_,rfl,r,R,dx,[],rfl,hp,T.ax,T.js,(by show 0<1000;decide),_,rfl,r,R,dx,_,rfl,aa,T.ax,T.cw,(by show 1<1000;decide),?_⟩
  refine q _ ⟨dx,aa⟩ fun b o e hb=>?_
  rw[ah hb,ah hb]
  exact e
theorem OR:ay ["self"] ["self"] (aj yg):=dA
theorem BC(D:bg K R "sign" "Reader.sign" yg ["self"])(T:sO K mg C R uK uN):aK P w K mg base 1 R "sign" ["self"] (jr R):=by
 refine D.dh OR (fun vs H Q E h=>?_) (fun f bp A outer s H vs Q E hr h=>?_)
 ·obtain⟨r,x,p,rfl,_⟩:=h
  rfl
 ·obtain⟨r,x,p,rfl,⟨dx,hR⟩,hp,hx,q⟩:=h
  have big:(1000 :Nat)≤sizeLine:=by decide
  refine⟨_,(ao
     (aE (jZ vD (a5 (pv 0) rfl) (fY (a5 (pv 0) rfl)) (fY (aA bR (a5 (pv 0) rfl) aq))))),?_⟩
  rw[←t5 x hp] at q
  exact⟨_,rfl,r,R,dx,_,_,rfl,hR,T.ax,T.js,fT _ _,_,rfl,r,R,dx,_,_,rfl,hR,T.ax,T.cw,bB _ _,_,rfl,_,rfl,r,R,dx,_,_,rfl,hR,T.ax,T.cw,bB _ _,_,_,rfl,rfl,_,rfl,x,rfl,by omega,q⟩
theorem OS:ay ["self","sign"] ["self","sign"] (aj yh):=dA
theorem BD(D:bg K R "take" "Reader.take" yh ["self","sign"])(T:sO K mg C R uK uN)(c1:aK P w K mg base 1 R "sign" ["self"] (jr R)):aK P w K mg base 2 R "take" ["self","sign"] (lS R):=by
 obtain⟨_,_,av⟩:=c1
 refine D.dh OS (fun vs H Q E h=>?_) (fun f bp A outer s H vs Q E hr h=>?_)
 ·obtain⟨r,x,p,sg,c,t,post,rfl,_⟩:=h
  rfl
 ·obtain⟨r,x,p,sg,c,t,post,rfl,hs,⟨dx,hR⟩,hh,hx,q⟩:=h
  refine⟨_,(ai
     (bN (aO ql (aN (pv 0) T.ax av.m av.ok (hr.mono (by decide)) av.b .nil az) (pv 1) (aX _))
      (ao
       f9)
      aY)
    (ao
     (kH (pv 0) aq vm))),?_⟩
  refine⟨_,rfl,r,dx,_,rfl,hR,aH _ _ (by decide+kernel) (by decide+kernel),r,x,p,rfl,⟨dx,hR⟩,hh.1,hx,_,rfl,rfl,_,rfl,Fs (by rw[hh.sg,hs]) ?_⟩
  refine⟨_,rfl,r,R,dx,_,_,rfl,hR,T.ax,T.cw,bB _ _,_,_,rfl,rfl,dx,_,hR,kU _ _,?_⟩
  refine q _ ⟨dx,?_⟩ fun b o e hb=>?_
  ·rw[aa]
   exact congrArg (fun z=>some (HO.ins R dx z)) (kT x p (p+1))
  ·rw[ah hb];exact e
theorem t9:ay ["self","signs","sign"] ["self","signs"] (aj j7):=dA
theorem q5(D:bg K R "take_all" "Reader.take_all" j7 ["self","signs"])(T:sO K mg C R uK uN)(c1:aK P w K mg base 2 R "take" ["self","sign"] (lS R)):aK P w K mg base 3 R "take_all" ["self","signs"] (kW R):=by
 obtain⟨_,_,aF⟩:=c1
 refine D.dh t9 (fun vs H Q E h=>?_) (fun f bp A outer s H vs Q E hr h=>?_)
 ·obtain⟨r,x,p,sg,post,rfl,_⟩:=h
  rfl
 ·obtain⟨r,x,p,sg,post,rfl,ha,hR,hh,hx,q⟩:=h
  refine⟨_,(ao
     (bO PassesOwn.never rfl (Oq (pv 1)) (aD (i:=2) t9.nd rfl (Or.inl rfl))
      (ao
       (bb (bY (pv 0) T.ax aF.m aF.ok (hr.mono (by decide)) aF.b .nil az (af (pv 2) ak)))))),?_⟩
  refine⟨_,rfl,sg,rfl,ha,Ke (fun i σ H'=>∃v:Option V,σ=[some (.ref r),some (.str sg),v]∧dm R H' r x (p+i)∧Kept r H H') ⟨none,rfl,hR,Kept.refl r H⟩ ?_ ?_⟩
  ·rintro i c σ H' hc ⟨v,rfl,⟨dx,d7⟩,kk⟩
   have Js:sg.cps.toList[i]? =some c:=by rw[Array.getElem?_toList];exact hc
   have hi:i<sg.cps.toList.length:=(List.getElem?_eq_some_iff.mp Js).1
   have e:sg.cps.toList=sg.cps.toList.take i++c::sg.cps.toList.drop (i+1):=by
    conv=>lhs;rw[←List.take_append_drop i sg.cps.toList]
    congr 1
    rw[List.drop_eq_getElem_cons hi]
    congr 1
    exact(List.getElem?_eq_some_iff.mp Js).2
   have h2:Here x (p+i) (c::sg.cps.toList.drop (i+1)) post:=by
    have h3:=Here.on (t:=sg.cps.toList.take i) (u:=c::sg.cps.toList.drop (i+1)) (e▸hh)
    rwa [List.length_take,Nat.min_eq_left (by omega)] at h3
   refine⟨_,rfl,r,dx,_,rfl,d7,aH _ _ (by decide+kernel) (by decide+kernel),_,rfl,r,x,p+i,_,c,_,post,rfl,rfl,⟨dx,d7⟩,h2,hx,fun cy hR'' k''=>?_⟩
   exact⟨_,rfl,hR'',kk.trans k''⟩
  ·rintro σ H' ⟨v,rfl,d7,kk⟩
   exact q _ d7 kk
theorem DL:ay ["self"] ["self"] (aj mF):=dA
theorem Ah(D:bg K R "take_end" "Reader.take_end" mF ["self"])(T:sO K mg C R uK uN):aK P w K mg base 1 R "take_end" ["self"] (t8 R):=by
 refine D.dh DL (fun vs H Q E h=>?_) (fun f bp A outer s H vs Q E hr h=>?_)
 ·obtain⟨r,x,rfl,_⟩:=h
  rfl
 ·obtain⟨r,x,rfl,⟨dx,hR⟩,hx,q⟩:=h
  refine⟨_,(ao
     (bN (aO me (a5 (pv 0) rfl) (bS ji rfl T.kb g7 (af (a5 (pv 0) rfl) ak)) (aX _))
      (ao
       f9)
      aY)),?_⟩
  exact⟨_,rfl,r,R,dx,_,_,rfl,hR,T.ax,T.cw,bB _ _,_,rfl,r,R,dx,_,_,rfl,hR,T.ax,T.js,fT _ _,x,rfl,Nat.le_trans hx (by decide),_,_,rfl,rfl,_,rfl,qD (by omega) q⟩
theorem MA{n:Int}(h1:1≤n)(h2:n<10^12):∃m:Nat,n=(m:Int)∧m<10^12∧m≠0:=⟨n.toNat,by omega,by omega,by omega⟩
theorem og:ay ["self","longest","begin","written"] ["self","longest"] (aj j8):=dA
theorem ua(D:bg K R "read_number" "Reader.read_number" j8 ["self","longest"])(T:sO K mg C R uK uN)(c1:aK P w K mg base 1 R "sign" ["self"] (jr R))(c2:bj P w K mg base 1 "is_figure" ["sign"] (Mz 48 57)):aK P w K mg base 2 R "read_number" ["self","longest"] (qY R):=by
 obtain⟨_,_,av⟩:=c1
 obtain⟨_,_,iG⟩:=c2
 refine D.dh og (fun vs H Q E h=>?_) (fun f bp A outer s H vs Q E hr h=>?_)
 ·obtain⟨r,x,p,n,lg,post,rfl,_⟩:=h
  rfl
 ·obtain⟨r,x,p,n,lg,post,rfl,⟨dx,hR⟩,hh,n1,n2,fl,Gp,hx,q⟩:=h
  obtain⟨m,rfl,m1,m0⟩:=MA n1 n2
  have big:(1000 :Nat)≤sizeLine:=by decide
  have fa:=pU m
  have fh:=Gg m m0
  have f1:=KC m
  have fl12:(aP (m:Int)).length≤12:=by
   have:=kS (k:=12) (by decide) m1
   unfold aP
   simpa [Str.length] using this
  have e0:("0" :Str)=⟨#[48]⟩:=by decide+kernel
  have e1:("1" :Str)=⟨#[49]⟩:=by decide+kernel
  refine⟨_,(ai
     (bN (aO d9 (aN (pv 0) T.ax av.m av.ok (hr.mono (by decide)) av.b .nil az) bH (aX _))
      (ao
       f9)
      aY)
    (ai
     (aB (i:=2) og.nd rfl (Or.inl rfl) (a5 (pv 0) rfl))
    (ai
     (iW PassesOwn.never (PW.pt (lM (fK (aJ iG.ok (hr.mono (by decide)) rfl iG.g iG.kp iG.b .nil az (af (aN (pv 0) T.ax av.m av.ok (hr.mono (by decide)) av.b .nil az) ak))) (kG (aO me (aA jW (a5 (pv 0) rfl) (pv 2)) (pv 1) (aX _)))))
      (ao
       (kH (pv 0) aq vm)))
    (ai
     (aB (i:=3) og.nd rfl (Or.inl rfl) (jZ vD (a5 (pv 0) rfl) (fY (pv 2)) (fY (a5 (pv 0) rfl))))
    (ai
     (bN (aO d9 (pv 3) bH (aX _))
      (ao
       f9)
      aY)
    (ao
     (aE (xP (qq (pv 3) (fun _=>rfl)) (bI Dq rfl T.yk qC (af (pv 3) ak)) aq)))))))),?_⟩
  have s0:¬V.str (eK x p)=V.str "0" :=by
   rw[e0]
   intro z
   have z:eK x p=⟨#[48]⟩:=by injection z
   cases hf:aP (m:Int) with
   |nil=>
    rw[hf] at hh
    rw[hh.OO] at z
    cases post with
    |nil=>have:=congrArg (fun s:Str=>s.cps.toList) z;simp at this
    |cons c r=>
     have:c=48:=by have:=congrArg (fun s:Str=>s.cps.toList) z;simpa using this
     have:=Gp c rfl
     subst_vars
     simp [xy] at this
   |cons c r=>
    rw[hf] at hh fh
    rw[hh.sg] at z
    have:c=48:=by have:=congrArg (fun s:Str=>s.cps.toList) z;simpa using this
    exact fh (by rw[this];rfl)
  refine⟨_,rfl,r,dx,_,rfl,hR,aH _ _ (by decide+kernel) (by decide+kernel),r,x,p,rfl,⟨dx,hR⟩,hh.1,hx,rfl,_,rfl,qD s0 ?_⟩
  refine⟨_,rfl,r,R,dx,_,_,rfl,hR,T.ax,T.cw,bB _ _,?_⟩
  refine⟨fun k σ H'=>∃j:Nat,k+j=(aP (m:Int)).length∧σ=[some (.ref r),some (.int lg),some (.int p),none]∧dm R H' r x (p+j)∧Kept r H H',⟨(aP (m:Int)).length,0,by omega,rfl,⟨dx,hR⟩,Kept.refl r H⟩,?_⟩
  rintro k σ H' ⟨j,hk,rfl,⟨dQ,d7⟩,kk⟩
  have hle:=hh.le
  refine⟨_,rfl,r,dQ,_,rfl,d7,aH _ _ (by decide+kernel) (by decide+kernel),r,x,p+j,rfl,⟨dQ,d7⟩,by omega,hx,_,rfl,mV _ _,_,rfl,?_⟩
  by_cases hj:j< (aP (m:Int)).length
  ·have e:aP (m:Int)=(aP (m:Int)).take j++(aP (m:Int))[j]::(aP (m:Int)).drop (j+1):=by
    conv=>lhs;rw[←List.take_append_drop j (aP (m:Int))]
    congr 1
    exact List.drop_eq_getElem_cons hj
   have h2:Here x (p+j) ((aP (m:Int))[j]::(aP (m:Int)).drop (j+1)) post:=by
    have h3:=Here.on (t:=(aP (m:Int)).take j) (u:=(aP (m:Int))[j]::(aP (m:Int)).drop (j+1)) (e▸hh)
    rwa [List.length_take,Nat.min_eq_left (by omega)] at h3
   have ev:inR 48 57 (eK x (p+j))=true:=by
    rw[h2.sg,mW]
    exact List.all_eq_true.mp fa _ (List.getElem_mem hj)
   rw[ev]
   refine iZ ⟨_,rfl,r,R,dQ,_,_,rfl,d7,T.ax,T.cw,bB _ _,_,rfl,_,_,rfl,rfl,_,rfl,_,_,rfl,rfl,_,rfl,vA (by omega) ?_⟩
   refine⟨_,fun σ' cy h=>⟨k - 1,by omega,h⟩,?_⟩
   refine⟨_,rfl,r,R,dQ,_,_,rfl,d7,T.ax,T.cw,bB _ _,_,_,rfl,rfl,dQ,_,d7,kU _ _,?_⟩
   refine⟨j+1,by omega,rfl,⟨dQ,?_⟩,fun b o z w=>?_⟩
   ·rw[aa]
    exact congrArg (fun z=>some (HO.ins R dQ z)) (kT x (p+j) (p+j+1))
   ·rw[ah w];exact kk b o z w
  ·have ej:j=(aP (m:Int)).length:=by omega
   have h2:Here x (p+j) [] post:=by
    have h3:=Here.on (t:=aP (m:Int)) (u:=[]) (by rw[List.append_nil];exact hh)
    rwa [←ej] at h3
   have ev:inR 48 57 (eK x (p+j))=false:=by
    rw[h2.OO]
    exact wk Gp
   rw[ev]
   refine fI (fI ?_)
   have ec:Txt.slice x (some (p:Int)) (some ((p+j:Nat):Int))=eY (m:Int):=by
    rw[ej,hh.cut]
    apply mU
    simp [aP]
   refine⟨_,rfl,r,R,dQ,_,_,rfl,d7,T.ax,T.js,fT _ _,_,rfl,_,rfl,_,rfl,r,R,dQ,_,_,rfl,d7,T.ax,T.cw,bB _ _,_,rfl,x,rfl,by omega,?_⟩
   rw[ec]
   have nw:¬V.str (eY (m:Int))=V.str "1" :=by
    rw[e1]
    intro z
    have z:eY (m:Int)=⟨#[49]⟩:=by injection z
    exact f1 (by unfold aP;rw[z])
   refine⟨_,rfl,rfl,_,rfl,qD nw ?_⟩
   rw[ej] at d7
   have fin:=q H' ⟨dQ,d7⟩ kk
   have lf:(eY (m:Int)).length=(aP (m:Int)).length:=by unfold aP;simp [Str.length]
   refine⟨_,rfl,_,⟨by rw[lf];omega,rfl⟩,?_⟩
   by_cases hm:m=1
   ·subst hm
    have ez:(((eY ((1 :Nat):Int)).length:Int) != 0)=false:=by decide+kernel
    rw[ez]
    exact fI fin
   ·have ez:(((eY (m:Int)).length:Int) != 0)=true:=by
     rw[lf]
     have:(aP (m:Int)).length≠0:=fun z=>hm (Bx m (List.length_eq_zero_iff.mp z))
     simp only [bne_iff_ne,ne_eq]
     omega
    rw[ez]
    exact iZ ⟨_,rfl,_,_,rfl,KD m m1 hm,by rw[lf];omega,fin⟩
theorem Gq:ay ["self"] ["self"] (aj mH):=dA
theorem ub(D:bg K R "read_count" "Reader.read_count" mH ["self"])(T:sO K mg C R uK uN)(c1:aK P w K mg base 2 R "read_number" ["self","longest"] (qY R)):aK P w K mg base 3 R "read_count" ["self"] (i8 R):=by
 obtain⟨_,_,bG⟩:=c1
 refine D.dh Gq (fun vs H Q E h=>?_) (fun f bp A outer s H vs Q E hr h=>?_)
 ·obtain⟨r,x,p,n,post,rfl,_⟩:=h
  rfl
 ·obtain⟨r,x,p,n,post,rfl,⟨dx,hR⟩,hh,n1,n2,Gp,hx,q⟩:=h
  refine⟨_,(ao
     (aE (bY (pv 0) T.ax bG.m bG.ok (hr.mono (by decide)) bG.b .nil az (af (bw (v:= .int 3) rfl T.pE ⟨_,rfl⟩) ak)))),?_⟩
  exact⟨_,rfl,r,dx,_,rfl,hR,aH _ _ (by decide+kernel) (by decide+kernel),r,x,p,n,3,post,rfl,⟨dx,hR⟩,hh,n1,by omega,(by have:=g9 n1 n2;unfold aP;simp [Str.length] at this;simpa using by omega),Gp,hx,q⟩
theorem a7{r a:Addr}{H H':Hp}{o:HO}(k:Kept r H H')(hr:H' r=some o)(h:H' a=none):H a=none:=by
 cases hh:H a with
 |none=>rfl
 |some o'=>
  by_cases e:a=r
  ·rw[e,hr] at h;cases h
  ·rw[k a o' hh e] at h;cases h
theorem KN{f:Nat→Bool}{l post:List Nat}(h1:∀c∈l,f c=false)(h2:Not f post):Not f (l++post):=by
 cases l with
 |nil=>exact h2
 |cons c r=>
  intro d hd
  have e:c=d:=by simpa using hd
  rw[←e]
  exact h1 c (List.mem_cons_self ..)
theorem Gs{n:Int}(h1:1≤n)(h2:n≤999):∀c∈aP n,ES c=false:=by
 intro c hc
 obtain⟨m,rfl,m1,m0⟩:=MA h1 (by omega)
 have:=List.all_eq_true.mp (pU m) c hc
 simp only [xy,ES,Bool.and_eq_true,decide_eq_true_eq] at*
 simp
 omega
theorem wu:ay ["self","begin","kind"] ["self"] (aj qQ):=dA
theorem yn(D:bg K R "read_atom" "Reader.read_atom" qQ ["self"])(T:sO K mg C R uK uN)(c1:aK P w K mg base 1 R "sign" ["self"] (jr R))(c2:bj P w K mg base 1 "is_great" ["sign"] (Mz 65 90))(c3:bj P w K mg base 1 "is_small" ["sign"] (Mz 97 122))(c4:aK P w K mg base 3 R "read_count" ["self"] (i8 R))
  (c5:gE P w K mg base 1 C ["self","kind","count"] [1] (Ga C)):aK P w K mg base 4 R "read_atom" ["self"] (wt C R):=by
 obtain⟨_,_,av⟩:=c1
 obtain⟨_,_,dn⟩:=c2
 obtain⟨_,_,jt⟩:=c3
 obtain⟨_,_,aL⟩:=c4
 obtain⟨_,_,gA⟩:=c5
 obtain⟨_,Gu,Gv⟩:=gA.b 1 (by decide)
 refine D.dh wu (fun vs H Q E h=>?_) (fun f bp A outer s H vs Q E hr h=>?_)
 ·obtain⟨r,x,p,k,n,post,rfl,_⟩:=h
  rfl
 ·obtain⟨r,x,p,k,n,post,rfl,⟨dx,hR⟩,hh,⟨c,rk,rfl,hc,Y2,hl⟩,n1,n2,Gp,tI,hx,q⟩:=h
  have big:(1000 :Nat)≤sizeLine:=by decide
  have hle:=hh.le
  refine⟨_,(ai
     (bN (jU (fK (aJ dn.ok (hr.mono (by decide)) rfl dn.g dn.kp dn.b .nil az (af (aN (pv 0) T.ax av.m av.ok (hr.mono (by decide)) av.b .nil az) ak))))
      (ao
       f9)
      aY)
    (ai
     (aB (i:=1) wu.nd rfl (Or.inl rfl) (a5 (pv 0) rfl))
    (ai
     (kH (pv 0) aq vm)
    (ai
     (iW PassesOwn.never (PW.pt (lM (fK (aJ jt.ok (hr.mono (by decide)) rfl jt.g jt.kp jt.b .nil az (af (aN (pv 0) T.ax av.m av.ok (hr.mono (by decide)) av.b .nil az) ak))) (kG (aO me (aA jW (a5 (pv 0) rfl) (pv 1)) (bw (v:= .int 3) rfl T.qZ ⟨_,rfl⟩) (aX _)))))
      (ao
       (kH (pv 0) aq vm)))
    (ai
     (aB (i:=2) wu.nd rfl (Or.inl rfl) (jZ vD (a5 (pv 0) rfl) (fY (pv 1)) (fY (a5 (pv 0) rfl))))
    (ao
     (aE (fX gA.m gA.ok (hr.mono (by decide)) rfl T.OM Gv Gu az (af (pv 2) (af (aN (pv 0) T.ax aL.m aL.ok (hr.mono (by decide)) aL.b .nil az) ak)))))))))),?_⟩
  refine⟨_,rfl,r,dx,_,rfl,hR,aH _ _ (by decide+kernel) (by decide+kernel),r,x,p,rfl,⟨dx,hR⟩,hh.1,hx,_,rfl,mV _ _,_,rfl,?_⟩
  have ev:inR 65 90 (eK x p)=true:=by
   rw[Here.sg (c:=c) (t:=rk++aP n) hh,mW]
   exact hc
  rw[ev]
  refine fI ?_
  refine⟨_,rfl,r,R,dx,_,_,rfl,hR,T.ax,T.cw,bB _ _,?_⟩
  refine⟨_,rfl,r,R,dx,_,_,rfl,hR,T.ax,T.cw,bB _ _,_,_,rfl,rfl,dx,_,hR,kU _ _,?_⟩
  have eD:(upd H r (.ins R dx (cL "place" (.int ((p:Int)+1)) (gj x p)))) r=some (.ins R dx (gj x (p+1))):=by
   rw[aa]
   exact congrArg (fun z=>some (HO.ins R dx z)) (kT x p (p+1))
  have k1:Kept r H (upd H r (.ins R dx (cL "place" (.int ((p:Int)+1)) (gj x p)))):=fun b o z w=>by rw[ah w];exact z
  generalize upd H r _=H1 at eD k1 ⊢
  have wx:Here x (p+1) (rk++aP n) post:=Here.on (t:=[c]) (u:=rk++aP n) hh
  refine⟨fun m σ H'=>∃j:Nat,m+j=rk.length∧σ=[some (.ref r),some (.int p),none]∧dm R H' r x (p+1+j)∧Kept r H H',⟨rk.length,0,by omega,rfl,⟨dx,eD⟩,k1⟩,?_⟩
  rintro m σ H' ⟨j,hk,rfl,⟨dQ,d7⟩,kk⟩
  have hle1:=wx.le
  rw[List.length_append] at hle1
  refine⟨_,rfl,r,dQ,_,rfl,d7,aH _ _ (by decide+kernel) (by decide+kernel),r,x,p+1+j,rfl,⟨dQ,d7⟩,by omega,hx,_,rfl,mV _ _,_,rfl,?_⟩
  by_cases hj:j<rk.length
  ·have e:rk=rk.take j++rk[j]::rk.drop (j+1):=by
    conv=>lhs;rw[←List.take_append_drop j rk]
    congr 1
    exact List.drop_eq_getElem_cons hj
   have h2:Here x (p+1+j) (rk[j]::(rk.drop (j+1)++aP n)) post:=by
    have e':rk++aP n=rk.take j++(rk[j]::(rk.drop (j+1)++aP n)):=by
     conv=>lhs;rw[e]
     rw[List.append_assoc]
     rfl
    have h3:=Here.on (t:=rk.take j) (u:=rk[j]::(rk.drop (j+1)++aP n)) (e'▸wx)
    rwa [List.length_take,Nat.min_eq_left (by omega)] at h3
   have ev:inR 97 122 (eK x (p+1+j))=true:=by
    rw[h2.sg,mW]
    exact List.all_eq_true.mp Y2 _ (List.getElem_mem hj)
   rw[ev]
   refine iZ ⟨_,rfl,r,R,dQ,_,_,rfl,d7,T.ax,T.cw,bB _ _,_,rfl,_,_,rfl,rfl,_,_,rfl,rfl,_,rfl,vA (by omega) ?_⟩
   refine⟨_,fun σ' cy h=>⟨m - 1,by omega,h⟩,?_⟩
   refine⟨_,rfl,r,R,dQ,_,_,rfl,d7,T.ax,T.cw,bB _ _,_,_,rfl,rfl,dQ,_,d7,kU _ _,?_⟩
   refine⟨j+1,by omega,rfl,⟨dQ,?_⟩,fun b o z w=>?_⟩
   ·rw[aa]
    exact congrArg (fun z=>some (HO.ins R dQ z)) (kT x (p+1+j) (p+1+j+1))
   ·rw[ah w];exact kk b o z w
  ·have ej:j=rk.length:=by omega
   have h2:Here x (p+1+j) (aP n) post:=by
    have h3:=Here.on (t:=rk) (u:=aP n) wx
    rwa [←ej] at h3
   have ev:inR 97 122 (eK x (p+1+j))=false:=by
    have h3:Here x (p+1+j) [] (aP n++post):=⟨h2.1,by rw[h2.2];rfl⟩
    rw[h3.OO]
    exact wk (KN (Gs n1 n2) tI)
   rw[ev]
   refine fI (fI ?_)
   have ec:Txt.slice x (some (p:Int)) (some ((p+1+j:Nat):Int))=⟨(c::rk).toArray⟩:=by
    have h3:Here x p (c::rk) (aP n++post):=⟨hh.1,by rw[hh.2,List.append_assoc]⟩
    have:=h3.cut
    rw[List.length_cons] at this
    rw[show p+1+j=p+(rk.length+1) by omega]
    exact this
   refine⟨_,rfl,r,R,dQ,_,_,rfl,d7,T.ax,T.js,fT _ _,_,rfl,_,rfl,_,rfl,r,R,dQ,_,_,rfl,d7,T.ax,T.cw,bB _ _,_,rfl,x,rfl,by omega,?_⟩
   rw[ec]
   refine⟨_,rfl,_,rfl,r,dQ,_,rfl,d7,aH _ _ (by decide+kernel) (by decide+kernel),r,x,p+1+j,n,post,rfl,⟨dQ,d7⟩,h2,n1,n2,Gp,hx,fun H2 gP k2=>?_⟩
   obtain⟨ju,gP⟩:=gP
   refine fun a da na nda nea=>⟨a,da,_,n,rfl,aa,fun H3 h3 k3=>⟨rfl,?_⟩⟩
   have s3:au H2 H3:=fun b o z=>k3 b o (by rw[ah (ag z na),ah (ag z nda)];exact z) (ag z na)
   have kf:=(kk.trans k2)
   refine q a H3 (a7 kf gP na) ⟨da,h3⟩ ⟨ju,?_⟩ (kf.trans (Kept.of s3))
   rw[s3 _ _ gP,List.length_append,List.length_cons]
   rw[show p+1+j+(aP n).length=p+(rk.length+1+(aP n).length) by omega]
inductive Tr where
 |one (k:List Nat) (n:Int)
 |gr (ts:List Tr) (n:Int)
def ck:Nat→Tr→List Nat
 |_, .one k n=>k++aP n
 |0, .gr _ _=>[]
 |d+1, .gr ts n=>40::(ts.flatMap (ck d)++41::aP n)
def uc:Nat→Tr→Prop
 |_, .one k n=>lT k∧1≤n∧n≤999
 |0, .gr _ _=>False
 |d+1, .gr ts n=>ts≠[]∧(∀t∈ts,uc d t)∧1≤n∧n≤999
def eL(C G:Addr):Nat→Hp→Addr→Tr→Prop
 |_,H,p, .one k n=>gy C H p ⟨k.toArray⟩ n
 |0,_,_, .gr _ _=>False
 |d+1,H,p, .gr ts n=>∃dx l ps,H p=some (.ins G dx (mQ l n))∧H l=some (.lst (ps.map V.ref))∧Paired (eL C G d H) ps ts
def SV(C G:Addr)(d:Nat)(H H':Hp)(a:Addr)(t:Tr):Prop:=∀cy,(∀b o,H b=none→H' b=some o→cy b=some o)→eL C G d cy a t
def NewL(C G L:Addr)(d:Nat)(H H':Hp)(a:Addr)(t:Tr):Prop:=∀cy,(∀b o,H b=none→b≠L→H' b=some o→cy b=some o)→eL C G d cy a t
def SW(C G:Addr)(d:Nat)(H H':Hp)(l:Addr)(ts:List Tr):Prop:=H l=none∧∃ps,H' l=some (.lst (ps.map V.ref))∧∀cy,(∀b o,H b=none→H' b=some o→cy b=some o)→Paired (eL C G d cy) ps ts
def Stop(post:List Nat):Prop:=Not xy post∧Not ES post∧Not ET post∧Not (fun c=>decide (c=40)) post
inductive Gw(C G R:Addr)(d:Nat)(vs:List V)(H:Hp)(Q:VK)(E:XK):Prop
 |mk (r:Addr) (x:Str) (p:Nat) (a:Nat) (t:Tr) (post:List Nat) (dR:vs=[.ref r, .int a]) (dS:dm R H r x p) (dW:Here x p (ck d t) post) (eZ:uc d t) (gz:a+d≤4) (jb:Not xy post) (nM:Not ES post) (sy:x.length≤1000) (EU:∀y H',H y=none→SV C G d H H' y t→dm R H' r x (p+(ck d t).length)→Kept r H H'→Q (.ref y) H')
def BE(C G R:Addr)(d:Nat):Sp:=Gw C G R d
def q9(C G R:Addr):Nat→Sp
 |0=>fun _ _ _ _=>False
 |d+1=>fun vs H Q _=>∃(r:Addr) (x:Str) (p:Nat) (a:Nat) (ts:List Tr) (n:Int) (post:List Nat),vs=[.ref r, .int a]∧dm R H r x p∧Here x p (ck (d+1) (.gr ts n)) post∧uc (d+1) (.gr ts n)∧a+d+1≤4∧Not xy post∧x.length≤1000∧
  ∀y H',H y=none→SV C G (d+1) H H' y (.gr ts n)→dm R H' r x (p+(ck (d+1) (.gr ts n)).length)→Kept r H H'→Q (.ref y) H'
inductive DM(C G R:Addr)(d:Nat)(vs:List V)(H:Hp)(Q:VK)(E:XK):Prop
 |mk (r:Addr) (x:Str) (p:Nat) (a:Nat) (ts:List Tr) (post:List Nat) (dR:vs=[.ref r, .int a]) (dS:dm R H r x p) (dW:Here x p (ts.flatMap (ck d)) post) (eZ:ts≠[]) (gz:(∀t∈ts,uc d t)) (jb:a+d≤4) (nM:Stop post) (sy:x.length≤1000) (EU:∀l H',SW C G d H H' l ts→dm R H' r x (p+(ts.flatMap (ck d)).length)→Kept r H H'→Q (.ref l) H')
def m5(C G R:Addr)(d:Nat):Sp:=DM C G R d
structure rf(K:PySem.W.Frag)(mg:Str→Option Value)(C R G:Addr)(uK uN uB uE uM:Tok):Prop extends sO K mg C R uK uN where
 eG:tf K G
 oh:cH K G "parts"
 oj:cH K G "count"
 KO:mg "Group" =some (.ref G)
 fZ:mg "GROUP_BEGIN" =some (.str "(" uB)
 oY:mg "GROUP_END" =some (.str ")" uE)
 kh:mg "MOST_GROUPS_AROUND" =some (.int 3 uM)
theorem OT:("(" :Str)=⟨#[40]⟩:=by decide+kernel
theorem e41:(")" :Str)=⟨#[41]⟩:=by decide+kernel
theorem om{d:Nat}{t:Tr}(h:uc d t):∃c r,ck d t=c::r∧((ET c=true∧∃k n,t= .one k n)∨(c=40∧∃ts n,t= .gr ts n)):=by
 cases t with
 |one k n=>
  have h:lT k∧1≤n∧n≤999:=by cases d<;>exact h
  obtain⟨⟨c,r,rfl,hc,_⟩,_⟩:=h
  have e:ck d (.one (c::r) n)=c::(r++aP n):=by cases d<;>rfl
  exact⟨c,_,e, .inl ⟨hc,_,_,rfl⟩⟩
 |gr ts n=>
  cases d with
  |zero=>exact h.elim
  |succ d=>exact⟨40,_,rfl, .inr ⟨rfl,_,_,rfl⟩⟩
theorem KP:ay ["self","around"] ["self","around"] (aj n5):=dA
theorem yo(d:Nat)(D:bg K R "read_part" "Reader.read_part" n5 ["self","around"])(T:rf K mg C R G uK uN uB uE uM)(c1:aK P w K mg base 1 R "sign" ["self"] (jr R))(c2:aK P w K mg base 4 R "read_atom" ["self"] (wt C R))(c3:aK P w K mg base (3*d+4) R "read_group" ["self","around"] (q9 C G R d)):
  aK P w K mg base (3*d+5) R "read_part" ["self","around"] (BE C G R d):=by
 obtain⟨_,_,av⟩:=c1
 obtain⟨_,_,eN⟩:=c2
 obtain⟨_,_,dY⟩:=c3
 refine D.dh KP (fun vs H Q E h=>?_) (fun f bp A outer s H vs Q E hr h=>?_)
 ·obtain⟨r,x,p,a,t,post,rfl,_⟩:=h
  rfl
 ·obtain⟨r,x,p,a,t,post,rfl,⟨dx,hR⟩,hh,ok,ha,Gp,tI,hx,q⟩:=h
  refine⟨_,(ai
     (bN (PW.pt (lM (aO d9 (aN (pv 0) T.ax av.m av.ok (hr.mono (by omega)) av.b .nil az) (bw (v:= .str "(") rfl T.fZ ⟨_,rfl⟩) (aX _)) (kG (aO Mi (pv 1) (bw (v:= .int 3) rfl T.kh ⟨_,rfl⟩) (aX _)))))
      (ao
       (aE (bY (pv 0) T.ax dY.m dY.ok (hr.mono (by omega)) dY.b .nil az (af (pv 1) ak))))
      aY)
    (ao
     (aE (aN (pv 0) T.ax eN.m eN.ok (hr.mono (by omega)) eN.b .nil az)))),?_⟩
  obtain⟨c,rest,hc,ht⟩:=om ok
  have MB:eK x p=⟨#[c]⟩:=Here.sg (t:=rest) (hc▸hh)
  refine⟨_,rfl,r,dx,_,rfl,hR,aH _ _ (by decide+kernel) (by decide+kernel),r,x,p,rfl,⟨dx,hR⟩,hh.1,hx,rfl,_,rfl,?_⟩
  rcases ht with ⟨hg,k,n,rfl⟩ | ⟨rfl,ts,n,rfl⟩
  ·have ne:¬V.str (eK x p)=V.str "(" :=by
    rw[MB,OT]
    intro z
    have z:(⟨#[c]⟩:Str)=⟨#[40]⟩:=by injection z
    have:c=40:=by have:=congrArg (fun s:Str=>s.cps.toList) z;simpa using this
    subst this
    simp [ET] at hg
   refine qD ne ?_
   have MC:lT k∧1≤n∧n≤999:=by cases d<;>exact ok
   have et:ck d (.one k n)=k++aP n:=by cases d<;>rfl
   rw[et] at hh q
   refine⟨_,rfl,r,dx,_,rfl,hR,aH _ _ (by decide+kernel) (by decide+kernel),r,x,p,k,n,post,rfl,⟨dx,hR⟩,hh,MC.1,MC.2.1,MC.2.2,Gp,tI,hx,fun y H' ny hA d7 kp=>q y H' ny (fun cy ke=>?_) d7 kp⟩
   obtain⟨dy,hA⟩:=hA
   have e:eL C G d cy y (.one k n)=gy C cy y ⟨k.toArray⟩ n:=by cases d<;>rfl
   rw[e]
   exact⟨dy,ke _ _ ny hA⟩
  ·cases d with
   |zero=>exact ok.elim
   |succ d=>
    refine vA (by rw[MB,OT]) ?_
    refine⟨_,rfl,_,_,rfl,rfl,_,rfl,vA (by omega) ?_⟩
    exact⟨_,rfl,r,dx,_,rfl,hR,aH _ _ (by decide+kernel) (by decide+kernel),_,rfl,r,x,p,a,ts,n,post,rfl,⟨dx,hR⟩,hh,ok,by omega,Gp,hx,q⟩
inductive Gx(X:Addr)(vs:List V)(H:Hp)(Q:VK)(E:XK):Prop
 |mk (p dx l:Addr) (c:Int) (xs:List V) (dR:vs=[.ref p, .ref l, .int c]) (dS:H p=some (.ins X dx [])) (dW:H l=some (.lst xs)) (eZ:∀n H',H n=none→H' p=some (.ins X dx (mQ n c))→H' n=some (.lst xs)→(∀b o,H b=some o→b≠p→H' b=some o)→Q .cS H')
def m6(X:Addr):Sp:=Gx X
theorem fU{H:Hp}{a b m:Addr}{o o':HO}(h:(upd (upd H a o) b o') m=none):H m=none:=by
 by_cases e:m=b
 ·rw[e,aa] at h;cases h
 ·rw[ah e] at h
  by_cases e':m=a
  ·rw[e',aa] at h;cases h
  ·rwa [ah e'] at h
theorem OU(l:List Nat):Stop (41::l):=by
 refine⟨?_,?_,?_,?_⟩<;>(intro c hc;have e:41=c:=by simpa using hc)<;>subst e<;>decide
theorem rg:ay ["self","around","parts"] ["self","around"] (aj jo):=dA
theorem Ai(D:bg K R "read_group" "Reader.read_group" jo ["self","around"]):aK P w K mg base 4 R "read_group" ["self","around"] (q9 C G R 0):=
 D.dh (k:=3) rg (fun vs H Q E h=>h.elim) (fun f bp A outer s H vs Q E hr h=>h.elim)
theorem DN(d:Nat)(D:bg K R "read_group" "Reader.read_group" jo ["self","around"])(T:rf K mg C R G uK uN uB uE uM)(c1:aK P w K mg base 2 R "take" ["self","sign"] (lS R))(c2:aK P w K mg base 3 R "read_count" ["self"] (i8 R))(c3:aK P w K mg base (3*d+6) R "read_parts" ["self","around"] (m5 C G R d))
  (c4:gE P w K mg base 1 G ["self","parts","count"] [1] (m6 G)):aK P w K mg base (3*d+7) R "read_group" ["self","around"] (q9 C G R (d+1)):=by
 obtain⟨_,_,aF⟩:=c1
 obtain⟨_,_,aL⟩:=c2
 obtain⟨_,_,a8⟩:=c3
 obtain⟨_,_,eG⟩:=c4
 obtain⟨_,DO,DP⟩:=eG.b 1 (by decide)
 refine D.dh rg (fun vs H Q E h=>?_) (fun f bp A outer s H vs Q E hr h=>?_)
 ·obtain⟨r,x,p,a,ts,n,post,rfl,_⟩:=h
  rfl
 ·obtain⟨r,x,p,a,ts,n,post,rfl,⟨dx,hR⟩,hh,⟨nX,aV,n1,n2⟩,ha,Gp,hx,q⟩:=h
  refine⟨_,(ai
     (bb (bY (pv 0) T.ax aF.m aF.ok (hr.mono (by omega)) aF.b .nil az (af (bw (v:= .str "(") rfl T.fZ ⟨_,rfl⟩) ak)))
    (ai
     (aB (i:=2) rg.nd rfl (Or.inl rfl) (bY (pv 0) T.ax a8.m a8.ok (hr.mono (by omega)) a8.b .nil az (af (aA bR (pv 1) aq) ak)))
    (ai
     (bb (bY (pv 0) T.ax aF.m aF.ok (hr.mono (by omega)) aF.b .nil az (af (bw (v:= .str ")") rfl T.oY ⟨_,rfl⟩) ak)))
    (ao
     (aE (fX eG.m eG.ok (hr.mono (by omega)) rfl T.KO DP DO az (af (pv 2) (af (aN (pv 0) T.ax aL.m aL.ok (hr.mono (by omega)) aL.b .nil az) ak)))))))),?_⟩
  have Gy:Here x p (40::(ts.flatMap (ck d)++41::aP n)) post:=hh
  have wx:Here x (p+1) (ts.flatMap (ck d)++41::aP n) post:=Here.on (t:=[40]) Gy
  have OV:Here x (p+1) (ts.flatMap (ck d)) (41::(aP n++post)):=⟨wx.1,by rw[wx.2,List.append_assoc];rfl⟩
  have EV:Here x (p+1+(ts.flatMap (ck d)).length) (41::aP n) post:=Here.on (t:=ts.flatMap (ck d)) wx
  have hh4:Here x (p+1+(ts.flatMap (ck d)).length+1) (aP n) post:=Here.on (t:=[41]) EV
  refine⟨_,rfl,r,dx,_,rfl,hR,aH _ _ (by decide+kernel) (by decide+kernel),r,x,p,_,40,_,post,rfl,OT,⟨dx,hR⟩,Gy,hx,fun H1 eD k1=>?_⟩
  obtain⟨nN,eD⟩:=eD
  refine⟨_,rfl,r,nN,_,rfl,eD,aH _ _ (by decide+kernel) (by decide+kernel),_,rfl,_,_,rfl,rfl,r,x,p+1,a+1,ts,_,rfl,⟨nN,eD⟩,OV,nX,aV,by omega,OU _,hx,fun l H2 hN gP k2=>?_⟩
  obtain⟨ju,gP⟩:=gP
  obtain⟨zu,ps,qx,J8⟩:=hN
  refine⟨_,rfl,r,ju,_,rfl,gP,aH _ _ (by decide+kernel) (by decide+kernel),r,x,p+1+(ts.flatMap (ck d)).length,_,41,_,post,rfl,e41,⟨ju,gP⟩,EV,hx,fun H3 iu k3=>?_⟩
  obtain⟨xA,iu⟩:=iu
  refine⟨_,rfl,_,rfl,r,xA,_,rfl,iu,aH _ _ (by decide+kernel) (by decide+kernel),r,x,_,n,post,rfl,⟨xA,iu⟩,hh4,n1,n2,Gp,hx,fun H4 ud k4=>?_⟩
  obtain⟨Jw,ud⟩:=ud
  have Y3:l≠r:=fun z=>by rw[z,eD] at zu;cases zu
  have MD:=k4 _ _ (k3 _ _ qx Y3) Y3
  refine fun g dg ng Aj neg=>⟨g,dg,l,n,ps.map V.ref,rfl,aa,?_,fun m H5 hm hg Rb kp=>⟨rfl,?_⟩⟩
  ·rw[ah (ag MD ng),ah (ag MD Aj)];exact MD
  have s5:au H4 H5:=fun b o z=>kp b o (by rw[ah (ag z ng),ah (ag z Aj)];exact z) (ag z ng)
  have kf:Kept r H H4:=((k1.trans k2).trans k3).trans k4
  refine q g H5 (a7 kf ud ng) (fun cy ke=>?_) ⟨Jw,?_⟩ (kf.trans (Kept.of s5))
  ·refine⟨dg,m,ps,ke _ _ (a7 kf ud ng) hg,ke _ _ (a7 kf ud (fU hm)) Rb,J8 cy fun b o z1 z2=>?_⟩
   have zx:b≠r:=fun z=>by rw[z,eD] at z1;cases z1
   exact ke _ _ (a7 k1 eD z1) (s5 _ _ (k4 _ _ (k3 _ _ z2 zx) zx))
  ·rw[s5 _ _ ud]
   show some (HO.ins R Jw (gj x (p+1+(ts.flatMap (ck d)).length+1+(aP n).length)))=some (HO.ins R Jw (gj x (p+(40::(ts.flatMap (ck d)++41::aP n)).length)))
   rw[List.length_cons,List.length_append,List.length_cons]
   rw[show p+1+(ts.flatMap (ck d)).length+1+(aP n).length=p+((ts.flatMap (ck d)).length+((aP n).length+1)+1) by omega]
theorem rh{d:Nat}:∀{ts:List Tr},(∀t∈ts,uc d t)→ts.length≤(ts.flatMap (ck d)).length
 | [],_=>Nat.le_refl _
 |t::ts,h=>by
  obtain⟨c,r,e,_⟩:=om (h t (List.mem_cons_self ..))
  have:=rh (d:=d) (ts:=ts) fun u hu=>h u (List.mem_cons_of_mem _ hu)
  rw[List.flatMap_cons,List.length_append,e,List.length_cons,List.length_cons]
  omega
theorem list_at{α:Type}{l:List α}{i:Nat}(h:i<l.length):l=l.take i++l[i]::l.drop (i+1):=by
 conv=>lhs;rw[←List.take_append_drop i l]
 congr 1
 exact List.drop_eq_getElem_cons h
theorem rj{d:Nat}{ts:List Tr}{post:List Nat}(h:∀t∈ts,uc d t)(hs:Stop post):Not xy (ts.flatMap (ck d)++post)∧Not ES (ts.flatMap (ck d)++post):=by
 cases ts with
 |nil=>exact⟨hs.1,hs.2.1⟩
 |cons t ts=>
  obtain⟨c,r,e,hc⟩:=om (h t (List.mem_cons_self ..))
  have hc:ET c=true∨c=40:=hc.elim (fun z=> .inl z.1) fun z=> .inr z.1
  rw[List.flatMap_cons,e]
  refine⟨fun b hb=>?_,fun b hb=>?_⟩<;>have eb:c=b:=by simpa using hb
  ·subst eb
   rcases hc with hc|rfl
   ·simp only [ET,xy,Bool.and_eq_true,decide_eq_true_eq] at*
    simp
    omega
   ·decide
  ·subst eb
   rcases hc with hc|rfl
   ·simp only [ET,ES,Bool.and_eq_true,decide_eq_true_eq] at*
    simp
    omega
   ·decide
theorem Ak{d:Nat}{x:Str}{p:Nat}{ts:List Tr}{post:List Nat}{i:Nat}(h:Here x p (ts.flatMap (ck d)) post)(hi:i<ts.length):Here x (p+((ts.take i).flatMap (ck d)).length) (ck d ts[i]) ((ts.drop (i+1)).flatMap (ck d)++post):=by
 have e:ts.flatMap (ck d)=(ts.take i).flatMap (ck d)++(ck d ts[i]++(ts.drop (i+1)).flatMap (ck d)):=by
  conv=>lhs;rw[list_at hi]
  rw[List.flatMap_append,List.flatMap_cons]
 have h1:=Here.on (t:=(ts.take i).flatMap (ck d)) (e▸h)
 exact⟨h1.1,by rw[h1.2,List.append_assoc]⟩
theorem uf{d:Nat}{ts:List Tr}{i:Nat}(hi:i<ts.length):(ts.take (i+1)).flatMap (ck d)=(ts.take i).flatMap (ck d)++ck d ts[i]:=by
 rw[List.take_add_one,List.getElem?_eq_getElem hi]
 show (ts.take i++[ts[i]]).flatMap (ck d)=_
 rw[List.flatMap_append,List.flatMap_cons,List.flatMap_nil,List.append_nil]
theorem aw{α β:Type}{p q:α→β→Prop}(h:∀a b,p a b→q a b):∀{as:List α} {bs:List β},Paired p as bs→Paired q as bs
 |_,_, .nil=> .nil
 |_,_, .cons x t=> .cons (h _ _ x) (aw h t)
theorem bC{α β:Type}{p:α→β→Prop}{a:α}{b:β}(x:p a b):∀{as:List α} {bs:List β},Paired p as bs→Paired p (as++[a]) (bs++[b])
 |_,_, .nil=> .cons x .nil
 |_,_, .cons y t=> .cons y (bC x t)
theorem yp:ay ["self","around","parts"] ["self","around"] (aj kO):=dA
theorem ug(d:Nat)(D:bg K R "read_parts" "Reader.read_parts" kO ["self","around"])(T:rf K mg C R G uK uN uB uE uM)(c1:aK P w K mg base 1 R "sign" ["self"] (jr R))(c2:bj P w K mg base 1 "is_great" ["sign"] (Mz 65 90))(c3:aK P w K mg base (3*d+5) R "read_part" ["self","around"] (BE C G R d)):
  aK P w K mg base (3*d+6) R "read_parts" ["self","around"] (m5 C G R d):=by
 obtain⟨_,_,av⟩:=c1
 obtain⟨_,_,dn⟩:=c2
 obtain⟨_,_,b7⟩:=c3
 refine D.dh yp (fun vs H Q E h=>?_) (fun f bp A outer s H vs Q E hr h=>?_)
 ·obtain⟨r,x,p,a,ts,post,rfl,_⟩:=h
  rfl
 ·obtain⟨r,x,p,a,ts,post,rfl,⟨dx,hR⟩,hh,nX,aV,ha,iV,hx,q⟩:=h
  have big:(2000 :Nat)≤sizeLine:=by decide
  have hle:=hh.le
  have hfl:=rh aV
  have t0:0<ts.length:=List.length_pos_iff.mpr nX
  refine⟨_,(ai
     (aB (i:=2) yp.nd rfl (Or.inl rfl) (cA (af (bY (pv 0) T.ax b7.m b7.ok (hr.mono (by omega)) b7.b .nil az (af (pv 1) ak)) ak)))
    (ai
     (iW PassesOwn.never (PW.pt (xO (fK (aJ dn.ok (hr.mono (by omega)) rfl dn.g dn.kp dn.b .nil az (af (aN (pv 0) T.ax av.m av.ok (hr.mono (by omega)) av.b .nil az) ak))) (vk (aO d9 (aN (pv 0) T.ax av.m av.ok (hr.mono (by omega)) av.b .nil az) (bw (v:= .str "(") rfl T.fZ ⟨_,rfl⟩) (aX _)))))
      (ao
       (bb (gD PySem.F.plainAttrs_list PySem.F.slot_list_append PySem.F.type_list_append dE (pv 2) (af (bY (pv 0) T.ax b7.m b7.ok (hr.mono (by omega)) b7.b .nil az (af (pv 1) ak)) ak)))))
    (ao
     (aE (pv 2))))),?_⟩
  have Oh:∀i,∀t∈ts.drop i,uc d t:=fun i t ht=>aV t (List.mem_of_mem_drop ht)
  have h0:Here x p (ck d ts[0]) ((ts.drop (0+1)).flatMap (ck d)++post):=Ak hh t0
  have n0:=rj (Oh (0+1)) iV
  refine⟨_,rfl,r,dx,_,rfl,hR,aH _ _ (by decide+kernel) (by decide+kernel),_,rfl,r,x,p,a,ts[0],_,rfl,⟨dx,hR⟩,h0,aV _ (List.getElem_mem t0),ha,n0.1,n0.2,hx,fun y H1 ny hN eD k1=>⟨(by show 1≤sizeLine;decide),fun L hL=>?_⟩⟩
  obtain⟨nN,eD⟩:=eD
  have xB:H L=none:=a7 k1 eD hL
  have yq:L≠r:=fun z=>by rw[z,eD] at hL;cases hL
  refine⟨fun m σ H'=>∃i:Nat,m+i=ts.length∧σ=[some (.ref r),some (.int a),some (.ref L)]∧dm R H' r x (p+((ts.take i).flatMap (ck d)).length)∧Kept r H H'∧∃ps,H' L=some (.lst (ps.map V.ref))∧ps.length=i∧Paired (NewL C G L d H H') ps (ts.take i),⟨ts.length - 1,1,by omega,rfl,?_,?_,[y],aa,rfl,?_⟩,?_⟩
  ·refine⟨nN,?_⟩
   rw[ah (Ne.symm yq),eD]
   have:=uf (d:=d) t0
   rw[this]
   rfl
  ·exact k1.trans (Kept.of (au.new hL))
  ·rw[show ts.take 1=[ts[0]] by
    have:=@List.take_add_one _ ts 0
    rw[this,List.getElem?_eq_getElem t0];rfl]
   refine .cons (fun cy ke=>hN cy fun b o z1 z2=>?_) .nil
   have BF:b≠L:=ag z2 hL
   exact ke b o z1 BF (by rw[ah BF];exact z2)
  rintro m σ H' ⟨i,hm,rfl,⟨dQ,d7⟩,kk,ps,lA,gH,hP⟩
  have Y4:p+((ts.take i).flatMap (ck d)).length≤x.length:=by
   have:((ts.take i).flatMap (ck d)).length≤(ts.flatMap (ck d)).length:=by
    conv=>rhs;rw[←List.take_append_drop i ts,List.flatMap_append,List.length_append]
    omega
   omega
  refine⟨_,rfl,r,dQ,_,rfl,d7,aH _ _ (by decide+kernel) (by decide+kernel),r,x,_,rfl,⟨dQ,d7⟩,Y4,hx,_,rfl,mV _ _,_,rfl,?_⟩
  by_cases hi:i<ts.length
  ·have h2:=Ak hh hi
   have Rf:=aV _ (List.getElem_mem hi)
   obtain⟨c,rest,hc,ht⟩:=om Rf
   have MB:eK x (p+((ts.take i).flatMap (ck d)).length)=⟨#[c]⟩:=Here.sg (t:=rest) (hc▸h2)
   have nn:=rj (Oh (i+1)) iV
   have J8:ps.length<sizeLine:=by omega
   rcases ht with ⟨hg,_⟩ | ⟨SX,_⟩
   case' inl=>
    have ev:inR 65 90 (eK x (p+((ts.take i).flatMap (ck d)).length))=true:=by
     rw[MB,mW]
     exact hg
    rw[ev]
    refine iZ (iZ ?_)
   case' inr=>
    have ev:inR 65 90 (eK x (p+((ts.take i).flatMap (ck d)).length))=false:=by
     rw[MB,mW,SX]
     rfl
    rw[ev]
    refine fI ⟨_,rfl,r,dQ,_,rfl,d7,aH _ _ (by decide+kernel) (by decide+kernel),r,x,_,rfl,⟨dQ,d7⟩,Y4,hx,rfl,_,rfl,vA (by rw[MB,OT,SX]) ?_⟩
   all_goals
    refine⟨_,fun σ' cy h=>⟨m - 1,by omega,h⟩,?_⟩
    refine⟨_,rfl, .inl ⟨rfl,_,bJ.of lA⟩,_,rfl,r,dQ,_,rfl,d7,aH _ _ (by decide+kernel) (by decide+kernel),_,rfl,r,x,_,a,ts[i],_,rfl,⟨dQ,d7⟩,h2,Rf,ha,nn.1,nn.2,hx,fun y H2 ny hN gP k2=>?_⟩
    obtain⟨ju,gP⟩:=gP
    have pX:=k2 _ _ lA yq
    refine⟨L,_,_,rfl,rfl,pX,by rw[List.length_map];exact J8,i+1,by omega,rfl,⟨ju,?_⟩,fun b o z w=>?_,ps++[y],by rw[aa,List.map_append];rfl,by rw[List.length_append,gH];rfl,?_⟩
    ·rw[ah (Ne.symm yq),gP,uf hi,List.length_append,Nat.add_assoc]
    ·rw[ah (ag z xB)]
     exact k2 _ _ (kk _ _ z w) w
    ·rw[List.take_add_one,List.getElem?_eq_getElem hi]
     refine bC (fun cy ke=>hN cy fun b o z1 z2=>?_) (aw (fun c t h cy ke=>h cy fun b o z1 z2 z3=>ke b o z1 z2 ?_) hP)
     ·have BF:b≠L:=fun z=>by rw[z,lA] at z1;cases z1
      exact ke b o (a7 kk d7 z1) BF (by rw[ah BF];exact z2)
     ·have zx:b≠r:=fun z=>by rw[z,hR] at z1;cases z1
      rw[ah z2]
      exact k2 _ _ z3 zx
  ·have ei:i=ts.length:=by omega
   rw[ei,List.take_length] at d7 hP Y4 ⊢
   have h3:Here x (p+(ts.flatMap (ck d)).length) [] post:=Here.on (t:=ts.flatMap (ck d)) (u:=[]) (by rw[List.append_nil];exact hh)
   have ev:inR 65 90 (eK x (p+(ts.flatMap (ck d)).length))=false:=by
    rw[h3.OO]
    exact wk iV.2.2.1
   rw[ev]
   have ne:¬V.str (eK x (p+(ts.flatMap (ck d)).length))=V.str "(" :=by
    rw[h3.OO,OT]
    intro z
    have z:(⟨(post.take 1).toArray⟩:Str)=⟨#[40]⟩:=by injection z
    cases post with
    |nil=>have:=congrArg (fun s:Str=>s.cps.toList) z;simp at this
    |cons c _=>
     have e:c=40:=by have:=congrArg (fun s:Str=>s.cps.toList) z;simpa using this
     have:=iV.2.2.2 c rfl
     simp [e] at this
   refine fI ⟨_,rfl,r,dQ,_,rfl,d7,aH _ _ (by decide+kernel) (by decide+kernel),r,x,_,rfl,⟨dQ,d7⟩,Y4,hx,rfl,_,rfl,qD ne ?_⟩
   exact⟨_,rfl,q L H' ⟨xB,ps,lA,fun cy ke=>aw (fun c t h=>h cy fun b o z1 _ z3=>ke b o z1 z3) hP⟩ ⟨dQ,d7⟩ kk⟩
theorem rm(D1:bg K R "read_group" "Reader.read_group" jo ["self","around"])(D2:bg K R "read_part" "Reader.read_part" n5 ["self","around"])(D3:bg K R "read_parts" "Reader.read_parts" kO ["self","around"])(T:rf K mg C R G uK uN uB uE uM)
  (c1:aK P w K mg base 1 R "sign" ["self"] (jr R)) (c2:bj P w K mg base 1 "is_great" ["sign"] (Mz 65 90)) (c3:aK P w K mg base 4 R "read_atom" ["self"] (wt C R)) (c4:aK P w K mg base 2 R "take" ["self","sign"] (lS R)) (c5:aK P w K mg base 3 R "read_count" ["self"] (i8 R))
  (c6:gE P w K mg base 1 G ["self","parts","count"] [1] (m6 G)):∀d:Nat,aK P w K mg base (3*d+6) R "read_parts" ["self","around"] (m5 C G R d)
 |0=>ug 0 D3 T c1 c2 (yo 0 D2 T c1 c3 (Ai D1))
 |d+1=>ug (d+1) D3 T c1 c2 (yo (d+1) D2 T c1 c3 (by rw[show 3*(d+1)+4=3*d+7 by omega];exact DN d D1 T c4 c5 (rm D1 D2 D3 T c1 c2 c3 c4 c5 c6 d) c6))
def i9(n:Int):List Nat:=if n=0 then [] else 94::(aP (if n<0 then -n else n)++[if 0<n then 43 else 45])
def EW(post:List Nat):Prop:=post=[]∨∃r,post=32::r
theorem EW.ne{post:List Nat}(h:EW post){c:Nat}(hc:c≠32):¬V.str (⟨(post.take 1).toArray⟩:Str)=V.str (⟨#[c]⟩:Str):=by
 intro z
 have z:(⟨(post.take 1).toArray⟩:Str)=⟨#[c]⟩:=by injection z
 have z:=congrArg (fun s:Str=>s.cps.toList) z
 rcases h with rfl| ⟨r,rfl⟩
 ·simp at z
 ·have e:32=c:=by simpa using z
  exact hc e.symm
theorem EW.stop{post:List Nat}(h:EW post):Stop post:=by
 rcases h with rfl| ⟨r,rfl⟩
 ·refine⟨?_,?_,?_,?_⟩<;>(intro c hc;cases hc)
 ·refine⟨?_,?_,?_,?_⟩<;>(intro c hc;have e:32=c:=by simpa using hc)<;>subst e<;>decide
inductive Al(R:Addr)(vs:List V)(H:Hp)(Q:VK)(E:XK):Prop
 |mk (r:Addr) (x:Str) (p:Nat) (n:Int) (post:List Nat) (dR:vs=[.ref r]) (dS:dm R H r x p) (dW:Here x p (i9 n) post) (eZ:EW post) (gz: -999≤n) (jb:n≤999) (nM:x.length≤1000) (sy:∀H',dm R H' r x (p+(i9 n).length)→Kept r H H'→Q (.int n) H')
def uh(R:Addr):Sp:=Al R
structure SY(K:PySem.W.Frag)(mg:Str→Option Value)(C R:Addr)(uK uN uC uP uI:Tok):Prop extends sO K mg C R uK uN where
 iQ:mg "CHARGE_MARK" =some (.str "^" uC)
 wy:mg "PLUS" =some (.str "+" uP)
 wz:mg "MINUS" =some (.str "-" uI)
theorem S0:("^" :Str)=⟨#[94]⟩:=by decide+kernel
theorem e43:("+" :Str)=⟨#[43]⟩:=by decide+kernel
theorem S1:("-" :Str)=⟨#[45]⟩:=by decide+kernel
theorem pY{c b:Nat}(h:c≠b):¬V.str (⟨#[c]⟩:Str)=V.str (⟨#[b]⟩:Str):=by
 intro z
 have z:(⟨#[c]⟩:Str)=⟨#[b]⟩:=by injection z
 exact h (by have:=congrArg (fun s:Str=>s.cps.toList) z;simpa using this)
theorem uk:ay ["self","count"] ["self"] (aj j9):=dA
theorem rn{uC uP uI:Tok}(D:bg K R "read_charge" "Reader.read_charge" j9 ["self"])(T:SY K mg C R uK uN uC uP uI)(c1:aK P w K mg base 1 R "sign" ["self"] (jr R))(c2:aK P w K mg base 2 R "take" ["self","sign"] (lS R))(c3:aK P w K mg base 3 R "read_count" ["self"] (i8 R)):
  aK P w K mg base 4 R "read_charge" ["self"] (uh R):=by
 obtain⟨_,_,av⟩:=c1
 obtain⟨_,_,aF⟩:=c2
 obtain⟨_,_,aL⟩:=c3
 refine D.dh uk (fun vs H Q E h=>?_) (fun f bp A outer s H vs Q E hr h=>?_)
 ·obtain⟨r,x,p,n,post,rfl,_⟩:=h
  rfl
 ·obtain⟨r,x,p,n,post,rfl,⟨dx,hR⟩,hh,Jx,n1,n2,hx,q⟩:=h
  refine⟨_,(ai
     (bN (aO ql (aN (pv 0) T.ax av.m av.ok (hr.mono (by decide)) av.b .nil az) (bw (v:= .str "^") rfl T.iQ ⟨_,rfl⟩) (aX _))
      (ao
       (aE aq))
      aY)
    (ai
     (bb (bY (pv 0) T.ax aF.m aF.ok (hr.mono (by decide)) aF.b .nil az (af (bw (v:= .str "^") rfl T.iQ ⟨_,rfl⟩) ak)))
    (ai
     (aB (i:=1) uk.nd rfl (Or.inl rfl) (aN (pv 0) T.ax aL.m aL.ok (hr.mono (by decide)) aL.b .nil az))
    (ai
     (bN (aO d9 (aN (pv 0) T.ax av.m av.ok (hr.mono (by decide)) av.b .nil az) (bw (v:= .str "-") rfl T.wz ⟨_,rfl⟩) (aX _))
      (ai
       (bb (bY (pv 0) T.ax aF.m aF.ok (hr.mono (by decide)) aF.b .nil az (af (bw (v:= .str "-") rfl T.wz ⟨_,rfl⟩) ak)))
      (ao
       (aE (oU jX (pv 1)))))
      aY)
    (ai
     (bb (bY (pv 0) T.ax aF.m aF.ok (hr.mono (by decide)) aF.b .nil az (af (bw (v:= .str "+") rfl T.wy ⟨_,rfl⟩) ak)))
    (ao
     (aE (pv 1)))))))),?_⟩
  refine⟨_,rfl,r,dx,_,rfl,hR,aH _ _ (by decide+kernel) (by decide+kernel),r,x,p,rfl,⟨dx,hR⟩,hh.1,hx,rfl,_,rfl,?_⟩
  by_cases h0:n=0
  ·subst h0
   have hh:Here x p [] post:=hh
   have ne:¬V.str (eK x p)=V.str "^" :=by
    rw[hh.OO,S0]
    exact Jx.ne (by decide)
   rw[decide_eq_false ne]
   exact iZ (q H ⟨dx,hR⟩ (Kept.refl r H))
  ·have ec:i9 n=94::(aP (if n<0 then -n else n)++[if 0<n then 43 else 45]):=by unfold i9;rw[if_neg h0]
   rw[ec] at hh q
   have a1:1≤(if n<0 then -n else n):=by split<;>omega
   have a2:(if n<0 then -n else n)≤999:=by split<;>omega
   have eq:V.str (eK x p)=V.str "^" :=by rw[hh.sg,S0]
   rw[decide_eq_true eq]
   refine fI ?_
   have wx:Here x (p+1) (aP (if n<0 then -n else n)++[if 0<n then 43 else 45]) post:=Here.on (t:=[94]) hh
   have OV:Here x (p+1) (aP (if n<0 then -n else n)) ((if 0<n then 43 else 45)::post):=⟨wx.1,by rw[wx.2,List.append_assoc];rfl⟩
   have EV:Here x (p+1+(aP (if n<0 then -n else n)).length) [if 0<n then 43 else 45] post:=Here.on wx
   refine⟨_,rfl,r,dx,_,rfl,hR,aH _ _ (by decide+kernel) (by decide+kernel),r,x,p,_,94,_,post,rfl,S0,⟨dx,hR⟩,hh,hx,fun H1 eD k1=>?_⟩
   obtain⟨nN,eD⟩:=eD
   have nf:Not xy ((if 0<n then 43 else 45)::post):=by
    intro c hc
    have e:(if 0<n then 43 else 45)=c:=by simpa using hc
    rw[←e]
    split<;>rfl
   refine⟨_,rfl,r,nN,_,rfl,eD,aH _ _ (by decide+kernel) (by decide+kernel),r,x,p+1,_,_,rfl,⟨nN,eD⟩,OV,a1,a2,nf,hx,fun H2 gP k2=>?_⟩
   obtain⟨ju,gP⟩:=gP
   have kk:=k1.trans k2
   refine⟨_,rfl,r,ju,_,rfl,gP,aH _ _ (by decide+kernel) (by decide+kernel),r,x,_,rfl,⟨ju,gP⟩,EV.1,hx,rfl,_,rfl,?_⟩
   have el:p+1+(aP (if n<0 then -n else n)).length+1=p+(94::(aP (if n<0 then -n else n)++[if 0<n then 43 else 45])).length:=by
    rw[List.length_cons,List.length_append]
    simp
    omega
   by_cases hp:0<n
   ·rw[if_pos hp] at EV
    have ne:¬V.str (eK x (p+1+(aP (if n<0 then -n else n)).length))=V.str "-" :=by
     rw[EV.sg,S1]
     exact pY (by decide)
    refine qD ne ?_
    refine⟨_,rfl,r,ju,_,rfl,gP,aH _ _ (by decide+kernel) (by decide+kernel),r,x,_,_,43,_,post,rfl,e43,⟨ju,gP⟩,EV,hx,fun H3 iu k3=>?_⟩
    rw[el] at iu
    have:=q H3 iu (kk.trans k3)
    refine⟨_,rfl,?_⟩
    rw[if_neg (by omega)]
    exact this
   ·rw[if_neg hp] at EV
    refine vA (by rw[EV.sg,S1]) ?_
    refine⟨_,rfl,r,ju,_,rfl,gP,aH _ _ (by decide+kernel) (by decide+kernel),r,x,_,_,45,_,post,rfl,S1,⟨ju,gP⟩,EV,hx,fun H3 iu k3=>?_⟩
    rw[el] at iu
    have:=q H3 iu (kk.trans k3)
    have e2: -(if n<0 then -n else n)=n:=by rw[if_pos (by omega),Int.neg_neg]
    rw[show V.int n=V.int (-(if n<0 then -n else n)) from by rw[e2]] at this
    exact⟨_,rfl,_,rfl,this⟩
theorem npch:¬(("pieces" :Str)="charge"):=by decide+kernel
def oZ(l:Addr)(n:Int):List (Str×V):=cL "charge" (.int n) (cL "pieces" (.ref l) [])
theorem jv(l:Addr)(n:Int):(oZ l n).lookup ("pieces" :Str)=some (.ref l):=by
 unfold oZ
 rw[aG,if_neg npch,aG,if_pos rfl]
theorem m7(l:Addr)(n:Int):(oZ l n).lookup ("charge" :Str)=some (.int n):=by
 unfold oZ
 rw[aG,if_pos rfl]
theorem rp(l:Addr)(n:Int){m:Str}(h1:¬m="charge")(h2:¬m="pieces"):(oZ l n).lookup m=none:=by
 unfold oZ
 rw[aG,if_neg h1,aG,if_neg h2]
 all_goals rfl
inductive Gz(X:Addr)(vs:List V)(H:Hp)(Q:VK)(E:XK):Prop
 |mk (p dx l:Addr) (c:Int) (xs:List V) (dR:vs=[.ref p, .ref l, .int c]) (dS:H p=some (.ins X dx [])) (dW:H l=some (.lst xs)) (eZ:∀n H',H n=none→H' p=some (.ins X dx (oZ n c))→H' n=some (.lst xs)→(∀b o,H b=some o→b≠p→H' b=some o)→Q .cS H')
def wA(X:Addr):Sp:=Gz X
abbrev jP:=Int×List Tr
def jw(C G Pc:Addr)(d:Nat)(H:Hp)(p:Addr)(x:jP):Prop:=∃dx l ps,H p=some (.ins Pc dx (mQ l x.1))∧H l=some (.lst (ps.map V.ref))∧Paired (eL C G d H) ps x.2
def o5(C G Pc Fo:Addr)(d:Nat)(H:Hp)(f:Addr)(xs:List jP)(n:Int):Prop:=∃dx l ps,H f=some (.ins Fo dx (oZ l n))∧H l=some (.lst (ps.map V.ref))∧Paired (jw C G Pc d H) ps xs
def S2(C G Pc L:Addr)(d:Nat)(H H':Hp)(p:Addr)(x:jP):Prop:=∀cy,(∀b o,H b=none→b≠L→H' b=some o→cy b=some o)→jw C G Pc d cy p x
def OW(C G Pc Fo:Addr)(d:Nat)(H H':Hp)(f:Addr)(xs:List jP)(n:Int):Prop:=∀cy,(∀b o,H b=none→H' b=some o→cy b=some o)→o5 C G Pc Fo d cy f xs n
def lE(d:Nat)(x:jP):List Nat:=aP x.1++x.2.flatMap (ck d)
def cU(d:Nat)(xs:List jP):List Nat:=xs.flatMap fun x=>46::lE d x
def wL(d:Nat):List jP→Int→List Nat
 | [],_=>[101,94,45]
 |x::r,n=>x.2.flatMap (ck d)++(cU d r++i9 n)
def FU(d:Nat)(x:jP):Prop:=x.2≠[]∧(∀t∈x.2,uc d t)∧1≤x.1∧x.1≤999
def KQ(d:Nat):List jP→Int→Prop
 | [],n=>n= -1
 |x::r,n=>x.1=1∧(∀y∈x::r,FU d y)∧ -999≤n∧n≤999
inductive wB(C G Pc Fo R:Addr)(d:Nat)(vs:List V)(H:Hp)(Q:VK)(E:XK):Prop
 |mk (r:Addr) (x:Str) (p:Nat) (post:List Nat) (dR:vs=[.ref r]) (dS:dm R H r x p) (dW:Here x p [101,94,45] post) (eZ:x.length≤1000) (gz:∀f H',H f=none→OW C G Pc Fo d H H' f [] (-1)→dm R H' r x (p+3)→Kept r H H'→Q (.ref f) H')
def o6(C G Pc Fo R:Addr)(d:Nat):Sp:=wB C G Pc Fo R d
inductive DQ(C G Pc Fo R:Addr)(d:Nat)(vs:List V)(H:Hp)(Q:VK)(E:XK):Prop
 |mk (r:Addr) (x:Str) (p:Nat) (xs:List jP) (n:Int) (post:List Nat) (dR:vs=[.ref r]) (dS:dm R H r x p) (dW:Here x p (wL d xs n) post) (eZ:EW post) (gz:KQ d xs n) (jb:d≤4) (nM:x.length≤1000) (sy:∀f H',H f=none→OW C G Pc Fo d H H' f xs n→dm R H' r x (p+(wL d xs n).length)→Kept r H H'→Q (.ref f) H')
def rq(C G Pc Fo R:Addr)(d:Nat):Sp:=DQ C G Pc Fo R d
structure lB(K:PySem.W.Frag)(mg:Str→Option Value)(C R G Pc Fo:Addr)(uK uN uB uE uM uC uP uI uD uL uT:Tok):Prop extends rf K mg C R G uK uN uB uE uM,SY K mg C R uK uN uC uP uI where
 dq:tf K Pc
 bM:tf K Fo
 oo:cH K Pc "parts"
 oq:cH K Pc "count"
 jx:cH K Fo "pieces"
 lU:cH K Fo "charge"
 BG:mg "Piece" =some (.ref Pc)
 um:mg "Formula" =some (.ref Fo)
 ki:mg "PIECE_DOT" =some (.str "." uD)
 lV:mg "ELECTRON" =some (.str "e^-" uL)
 rA:mg "LONGEST_TEXT" =some (.int 400 uT)
 n_list:mg "list" =none
 GA:mg "abs" =none
theorem eE:("e^-" :Str)=⟨#[101,94,45]⟩:=by decide+kernel
theorem yr{x:Str}{l:List Nat}(h:x.cps.toList=l):Here x 0 l []:=⟨Nat.zero_le _,by rw[List.drop_zero,h,List.append_nil]⟩
theorem yt:ay ["self"] ["self"] (aj g8):=dA
variable {uC uP uI uD uL uT:Tok}
theorem m8(d:Nat)(D:bg K R "read_electron" "Reader.read_electron" g8 ["self"])(T:lB K mg C R G Pc Fo uK uN uB uE uM uC uP uI uD uL uT)(c1:aK P w K mg base 3 R "take_all" ["self","signs"] (kW R))(c2:gE P w K mg base 1 Fo ["self","pieces","charge"] [0] (wA Fo)):
  aK P w K mg base 4 R "read_electron" ["self"] (o6 C G Pc Fo R d):=by
 obtain⟨_,_,aS⟩:=c1
 obtain⟨_,_,bM⟩:=c2
 obtain⟨_,kj,km⟩:=bM.b 1 (by decide)
 refine D.dh yt (fun vs H Q E h=>?_) (fun f bp A outer s H vs Q E hr h=>?_)
 ·obtain⟨r,x,p,post,rfl,_⟩:=h
  rfl
 ·obtain⟨r,x,p,post,rfl,⟨dx,hR⟩,sP,hx,q⟩:=h
  refine⟨_,(ai
     (bb (bY (pv 0) T.ax aS.m aS.ok (hr.mono (by decide)) aS.b .nil az (af (bw (v:= .str "e^-") rfl T.lV ⟨_,rfl⟩) ak)))
    (ao
     (aE (fX bM.m bM.ok (hr.mono (by decide)) rfl T.um km kj az (af (cA ak) (af (oU jX aq) ak)))))),?_⟩
  have ee:("e^-" :Str).cps.toList=[101,94,45]:=by decide+kernel
  have ea:("e^-" :Str).cps.all (· <128)=true:=by decide+kernel
  have el:("e^-" :Str).length=3:=by decide+kernel
  refine⟨_,rfl,r,dx,_,rfl,hR,aH _ _ (by decide+kernel) (by decide+kernel),r,x,p,_,post,rfl,ea,⟨dx,hR⟩,by rw[ee];exact sP,hx,fun H1 eD k1=>?_⟩
  obtain⟨nN,eD⟩:=eD
  refine⟨(by show 0≤sizeLine;decide),fun l hl=>⟨1,rfl,fun g dg ng Aj neg=>⟨g,dg,l, -1,[],rfl,aa,?_,fun m H5 hm hg Rb kp=>⟨rfl,?_⟩⟩⟩⟩
  ·rw[ah (ag aa ng),ah (ag aa Aj)];exact aa
  have sl:au H1 (upd H1 l (.lst [])):=au.new hl
  have s5:au (upd H1 l (.lst [])) H5:=fun b o z=>kp b o (by rw[ah (ag z ng),ah (ag z Aj)];exact z) (ag z ng)
  have kf:Kept r H (upd H1 l (.lst [])):=k1.trans (Kept.of sl)
  have Y5:=sl _ _ eD
  refine q g H5 (a7 kf Y5 ng) (fun cy ke=>⟨dg,m,[],ke _ _ (a7 kf Y5 ng) hg,ke _ _ (a7 kf Y5 (fU hm)) Rb, .nil⟩) ⟨nN,?_⟩ (kf.trans (Kept.of s5))
  rw[s5 _ _ Y5,el]
variable {uC uP uI uD uL uT:Tok}
theorem wC{α:Type}(f:α→List Nat){x:Str}{p:Nat}{ts:List α}{post:List Nat}{i:Nat}(h:Here x p (ts.flatMap f) post)(hi:i<ts.length):Here x (p+((ts.take i).flatMap f).length) (f ts[i]) ((ts.drop (i+1)).flatMap f++post):=by
 have e:ts.flatMap f=(ts.take i).flatMap f++(f ts[i]++(ts.drop (i+1)).flatMap f):=by
  conv=>lhs;rw[list_at hi]
  rw[List.flatMap_append,List.flatMap_cons]
 have h1:=Here.on (t:=(ts.take i).flatMap f) (e▸h)
 exact⟨h1.1,by rw[h1.2,List.append_assoc]⟩
theorem wD{α:Type}(f:α→List Nat){ts:List α}{i:Nat}(hi:i<ts.length):(ts.take (i+1)).flatMap f=(ts.take i).flatMap f++f ts[i]:=by
 rw[List.take_add_one,List.getElem?_eq_getElem hi]
 show (ts.take i++[ts[i]]).flatMap f=_
 rw[List.flatMap_append,List.flatMap_cons,List.flatMap_nil,List.append_nil]
theorem BH(n:Int):i9 n=[]∨∃r,i9 n=94::r:=by
 unfold i9
 split
 ·exact .inl rfl
 ·exact .inr ⟨_,rfl⟩
theorem uo{c:Nat}{l:List Nat}(h:c=46∨c=94):Stop (c::l):=by
 refine⟨?_,?_,?_,?_⟩<;>(intro b hb;have e:c=b:=by simpa using hb)<;>subst e<;>rcases h with rfl|rfl<;>decide
theorem uq(d:Nat)(xs:List jP)(n:Int){post:List Nat}(Jx:EW post):Stop (cU d xs++(i9 n++post)):=by
 cases xs with
 |nil=>
  show Stop (i9 n++post)
  rcases BH n with e| ⟨r,e⟩
  ·rw[e];exact Jx.stop
  ·rw[e];exact uo (.inr rfl)
 |cons x r=>exact uo (.inl rfl)
theorem wF(d:Nat):∀xs:List jP,xs.length≤(cU d xs).length
 | []=>Nat.le_refl _
 |y::r=>by
  have ih:=wF d r
  show r.length+1≤(46::lE d y++cU d r).length
  rw[List.length_append,List.length_cons]
  omega
theorem Y6:("." :Str)=⟨#[46]⟩:=by decide+kernel
theorem rB:ay ["self","pieces","count"] ["self"] (aj mG):=dA
theorem ur(d:Nat)(D:bg K R "read_whole" "Reader.read_whole" mG ["self"])(T:lB K mg C R G Pc Fo uK uN uB uE uM uC uP uI uD uL uT)(c1:aK P w K mg base 1 R "sign" ["self"] (jr R))(c2:aK P w K mg base 2 R "take" ["self","sign"] (lS R))(c3:aK P w K mg base 3 R "read_count" ["self"] (i8 R))(c4:aK P w K mg base (3*d+6) R "read_parts" ["self","around"] (m5 C G R d))
  (c5:aK P w K mg base 4 R "read_charge" ["self"] (uh R)) (c6:aK P w K mg base 4 R "read_electron" ["self"] (o6 C G Pc Fo R d)) (c7:gE P w K mg base 1 Pc ["self","parts","count"] [1] (m6 Pc)) (c8:gE P w K mg base 1 Fo ["self","pieces","charge"] [0] (wA Fo)):
  aK P w K mg base (3*d+7) R "read_whole" ["self"] (rq C G Pc Fo R d):=by
 obtain⟨_,_,av⟩:=c1
 obtain⟨_,_,aF⟩:=c2
 obtain⟨_,_,aL⟩:=c3
 obtain⟨_,_,a8⟩:=c4
 obtain⟨_,_,dM⟩:=c5
 obtain⟨_,_,dt⟩:=c6
 obtain⟨_,_,dq⟩:=c7
 obtain⟨_,_,bM⟩:=c8
 obtain⟨_,DR,DS⟩:=dq.b 0 (by decide)
 obtain⟨_,DT,DU⟩:=dq.b 1 (by decide)
 obtain⟨_,kj,km⟩:=bM.b 1 (by decide)
 refine D.dh rB (fun vs H Q E h=>?_) (fun f bp A outer s H vs Q E hr h=>?_)
 ·obtain⟨r,x,p,xs,n,post,rfl,_⟩:=h
  rfl
 ·obtain⟨r,x,p,xs,n,post,rfl,⟨dx,hR⟩,sP,Jx,aV,DV,hx,q⟩:=h
  have big:(2000 :Nat)≤sizeLine:=by decide
  refine⟨_,(ai
     (bN (aO d9 (aN (pv 0) T.ax av.m av.ok (hr.mono (by omega)) av.b .nil az) (cf vt (bw (v:= .str "e^-") rfl T.lV ⟨_,rfl⟩) aq (fun _ _=>rfl)) (aX _))
      (ao
       (aE (aN (pv 0) T.ax dt.m dt.ok (hr.mono (by omega)) dt.b .nil az)))
      aY)
    (ai
     (aB (i:=1) rB.nd rfl (Or.inl rfl) (cA (af (fX dq.m dq.ok (hr.mono (by omega)) rfl T.BG DS DR az (af (bY (pv 0) T.ax a8.m a8.ok (hr.mono (by omega)) a8.b .nil az (af aq ak)) ak)) ak)))
    (ai
     (iW PassesOwn.never (aO d9 (aN (pv 0) T.ax av.m av.ok (hr.mono (by omega)) av.b .nil az) (bw (v:= .str ".") rfl T.ki ⟨_,rfl⟩) (aX _))
      (ai
       (bb (bY (pv 0) T.ax aF.m aF.ok (hr.mono (by omega)) aF.b .nil az (af (bw (v:= .str ".") rfl T.ki ⟨_,rfl⟩) ak)))
      (ai
       (aB (i:=2) rB.nd rfl (Or.inl rfl) (aN (pv 0) T.ax aL.m aL.ok (hr.mono (by omega)) aL.b .nil az))
      (ao
       (bb (gD PySem.F.plainAttrs_list PySem.F.slot_list_append PySem.F.type_list_append dE (pv 1) (af (fX dq.m dq.ok (hr.mono (by omega)) rfl T.BG DU DT az (af (bY (pv 0) T.ax a8.m a8.ok (hr.mono (by omega)) a8.b .nil az (af aq ak)) (af (pv 2) ak))) ak)))))))
    (ao
     (aE (fX bM.m bM.ok (hr.mono (by omega)) rfl T.um km kj az (af (pv 1) (af (aN (pv 0) T.ax dM.m dM.ok (hr.mono (by omega)) dM.b .nil az) ak)))))))),?_⟩
  refine⟨_,rfl,r,dx,_,rfl,hR,aH _ _ (by decide+kernel) (by decide+kernel),r,x,p,rfl,⟨dx,hR⟩,sP.1,hx,"e^-",0,101,rfl,rfl,(by decide+kernel),(by decide+kernel),rfl,_,rfl,?_⟩
  cases xs with
  |nil=>
   have hn:n= -1:=aV
   subst hn
   have sP:Here x p [101,94,45] post:=sP
   refine vA (by rw[sP.sg]) ?_
   exact⟨_,rfl,r,dx,_,rfl,hR,aH _ _ (by decide+kernel) (by decide+kernel),r,x,p,post,rfl,⟨dx,hR⟩,sP,hx,q⟩
  |cons x0 r0=>
   obtain⟨h01,DW,n1,n2⟩:=aV
   have OX:=DW x0 (List.mem_cons_self ..)
   have hw:Here x p (x0.2.flatMap (ck d)++(cU d r0++i9 n)) post:=sP
   have Gy:Here x p (x0.2.flatMap (ck d)) (cU d r0++(i9 n++post)):=⟨hw.1,by rw[hw.2,List.append_assoc,List.append_assoc]⟩
   have hb:Here x (p+(x0.2.flatMap (ck d)).length) (cU d r0++i9 n) post:=Here.on hw
   have EO:Here x (p+(x0.2.flatMap (ck d)).length) (cU d r0) (i9 n++post):=⟨hb.1,by rw[hb.2,List.append_assoc]⟩
   have ne:¬V.str (eK x p)=V.str (⟨#[101]⟩:Str):=by
    have t0:0<x0.2.length:=List.length_pos_iff.mpr OX.1
    obtain⟨c,rest,hc,ht⟩:=om (OX.2.1 _ (List.getElem_mem t0))
    have h2:=Ak Gy t0
    have MB:eK x p=⟨#[c]⟩:=Here.sg (t:=rest) (hc▸h2)
    rw[MB]
    refine pY ?_
    rcases ht with ⟨hg,_⟩ | ⟨rfl,_⟩
    ·intro z
     subst z
     simp [ET] at hg
    ·decide
   refine qD ne ?_
   refine⟨_,rfl,r,dx,_,rfl,hR,aH _ _ (by decide+kernel) (by decide+kernel),r,x,p,0,x0.2,_,rfl,⟨dx,hR⟩,Gy,OX.1,OX.2.1,by omega,uq d r0 n Jx,hx,fun l H1 hN eD k1=>?_⟩
   obtain⟨nN,eD⟩:=eD
   obtain⟨hl0,ps0,zu,hps0⟩:=hN
   refine fun g dg ng Aj neg=>⟨g,dg,l,1,ps0.map V.ref,rfl,aa,?_,fun m H2 hm hg Rb kp=>⟨rfl,(by show 1≤sizeLine;decide),fun L hL=>?_⟩⟩
   ·rw[ah (ag zu ng),ah (ag zu Aj)];exact zu
   have s2:au H1 H2:=fun b o z=>kp b o (by rw[ah (ag z ng),ah (ag z Aj)];exact z) (ag z ng)
   have gP:=s2 _ _ eD
   have k2:Kept r H H2:=k1.trans (Kept.of s2)
   have xB:H L=none:=a7 k2 gP hL
   have yq:L≠r:=fun z=>by rw[z,gP] at hL;cases hL
   have sL:au H2 (upd H2 L (.lst [V.ref g])):=au.new hL
   have ng0:=a7 k1 eD ng
   have nm0:=a7 k1 eD (fU hm)
   have first:S2 C G Pc L d H (upd H2 L (.lst [V.ref g])) g x0:=fun cy ke=>by
    refine⟨dg,m,ps0,?_,ke _ _ nm0 (ag Rb hL) (sL _ _ Rb),hps0 cy fun b o z1 z2=>ke b o z1 (ag (s2 _ _ z2) hL) (sL _ _ (s2 _ _ z2))⟩
    rw[h01]
    exact ke _ _ ng0 (ag hg hL) (sL _ _ hg)
   refine⟨fun k σ H'=>∃i:Nat,k+i=r0.length∧(∃v:Option V,σ=[some (.ref r),some (.ref L),v])∧dm R H' r x (p+(x0.2.flatMap (ck d)).length+(cU d (r0.take i)).length)∧Kept r H H'∧∃ps,H' L=some (.lst (ps.map V.ref))∧ps.length=i+1∧Paired (S2 C G Pc L d H H') ps (x0::r0.take i),⟨r0.length,0,by omega,⟨none,rfl⟩,?_,k2.trans (Kept.of sL),[g],aa,rfl, .cons first .nil⟩,?_⟩
   ·exact⟨nN,sL _ _ gP⟩
   rintro k σ H' ⟨i,hk,⟨v,rfl⟩,⟨dQ,d7⟩,kk,ps,lA,gH,hP⟩
   have hle:=EO.le
   have zt:(cU d (r0.take i)).length≤(cU d r0).length:=by
    unfold cU
    conv=>rhs;rw[←List.take_append_drop i r0,List.flatMap_append,List.length_append]
    omega
   have hr0:=wF d r0
   refine⟨_,rfl,r,dQ,_,rfl,d7,aH _ _ (by decide+kernel) (by decide+kernel),r,x,_,rfl,⟨dQ,d7⟩,by omega,hx,rfl,_,rfl,?_⟩
   by_cases hi:i<r0.length
   ·have h2:Here x (p+(x0.2.flatMap (ck d)).length+(cU d (r0.take i)).length) (46::(aP r0[i].1++r0[i].2.flatMap (ck d))) (cU d (r0.drop (i+1))++(i9 n++post)):=wC (fun x=>46::lE d x) EO hi
    have KR:=DW _ (List.mem_cons_of_mem _ (List.getElem_mem hi))
    have h3:Here x (p+(x0.2.flatMap (ck d)).length+(cU d (r0.take i)).length+1) (aP r0[i].1++r0[i].2.flatMap (ck d)) (cU d (r0.drop (i+1))++(i9 n++post)):=Here.on (t:=[46]) h2
    have h4:Here x (p+(x0.2.flatMap (ck d)).length+(cU d (r0.take i)).length+1) (aP r0[i].1) (r0[i].2.flatMap (ck d)++(cU d (r0.drop (i+1))++(i9 n++post))):=⟨h3.1,by rw[h3.2,List.append_assoc]⟩
    have h5:Here x (p+(x0.2.flatMap (ck d)).length+(cU d (r0.take i)).length+1+(aP r0[i].1).length) (r0[i].2.flatMap (ck d)) (cU d (r0.drop (i+1))++(i9 n++post)):=Here.on h3
    have st:=uq d (r0.drop (i+1)) n Jx
    have nn:=rj KR.2.1 st
    refine vA (by rw[h2.sg,Y6]) ?_
    refine⟨_,fun σ' cy h=>⟨k - 1,by omega,h⟩,?_⟩
    refine⟨_,rfl,r,dQ,_,rfl,d7,aH _ _ (by decide+kernel) (by decide+kernel),r,x,_,_,46,_,_,rfl,Y6,⟨dQ,d7⟩,h2,hx,fun H3 iu k3=>?_⟩
    obtain⟨xA,iu⟩:=iu
    refine⟨_,rfl,r,xA,_,rfl,iu,aH _ _ (by decide+kernel) (by decide+kernel),r,x,_,r0[i].1,_,rfl,⟨xA,iu⟩,h4,KR.2.2.1,KR.2.2.2,nn.1,hx,fun H4 ud k4=>?_⟩
    obtain⟨Jw,ud⟩:=ud
    have KS:=k3.trans k4
    have sQ:=KS _ _ lA yq
    refine⟨_,rfl, .inl ⟨rfl,_,bJ.of sQ⟩,_,rfl,r,Jw,_,rfl,ud,aH _ _ (by decide+kernel) (by decide+kernel),r,x,_,0,r0[i].2,_,rfl,⟨Jw,ud⟩,h5,KR.1,KR.2.1,by omega,st,hx,fun l' H5 hN' BI k5=>?_⟩
    obtain⟨dx5,BI⟩:=BI
    obtain⟨hl0',Rg,OY,hps'⟩:=hN'
    refine⟨_,rfl,fun g' S3 EX GB neg'=>⟨g',S3,l',r0[i].1,Rg.map V.ref,rfl,aa,?_,fun m' H6 hm' wG OZ kp'=>⟨rfl,?_⟩⟩⟩
    ·rw[ah (ag OY EX),ah (ag OY GB)];exact OY
    have s6:au H5 H6:=fun b o z=>kp' b o (by rw[ah (ag z EX),ah (ag z GB)];exact z) (ag z EX)
    have k36:Kept r H' H6:=(KS.trans k5).trans (Kept.of s6)
    have kn:=k5 _ _ sQ yq
    have DX:=s6 _ _ kn
    have k45:Kept r H H4:=kk.trans KS
    have k55:Kept r H H5:=k45.trans k5
    refine⟨L,_,_,rfl,rfl,DX,by rw[List.length_map];omega,i+1,by omega,⟨_,rfl⟩,⟨dx5,?_⟩,fun b o z w=>?_,ps++[g'],by rw[aa,List.map_append];rfl,by rw[List.length_append,gH];rfl,?_⟩
    ·rw[ah (Ne.symm yq),s6 _ _ BI]
     have e:=wD (fun x=>46::lE d x) hi
     have e':(cU d (r0.take (i+1))).length=(cU d (r0.take i)).length+((aP r0[i].1).length+(r0[i].2.flatMap (ck d)).length+1):=by
      unfold cU
      rw[e,List.length_append,List.length_cons]
      unfold lE
      rw[List.length_append]
     rw[e']
     congr 3
     omega
    ·rw[ah (ag z xB)]
     exact k36 _ _ (kk _ _ z w) w
    ·rw[List.take_add_one,List.getElem?_eq_getElem hi]
     refine bC (as:=ps) (bs:=x0::r0.take i) (fun cy ke=>?_) (aw (fun c t h cy ke=>h cy fun b o z1 z2 z3=>ke b o z1 z2 ?_) hP)
     ·have u:∀{b o},H6 b=some o→b≠L→(upd H6 L (.lst (ps.map V.ref++[V.ref g']))) b=some o:=fun {b o} z w=>by rw[ah w];exact z
      have ngL:g'≠L:=fun z=>by rw[z,kn] at EX;cases EX
      have nm5:=fU hm'
      have nmL:m'≠L:=fun z=>by rw[z,kn] at nm5;cases nm5
      refine⟨S3,m',Rg,ke _ _ (a7 k55 BI EX) ngL (u wG ngL),ke _ _ (a7 k55 BI nm5) nmL (u OZ nmL),hps' cy fun b o z1 z2=>?_⟩
      have BF:b≠L:=fun z=>by rw[z,sQ] at z1;cases z1
      exact ke b o (a7 k45 ud z1) BF (u (s6 _ _ z2) BF)
     ·have zx:b≠r:=fun z=>by rw[z,hR] at z1;cases z1
      rw[ah z2]
      exact k36 _ _ z3 zx
   ·have ei:i=r0.length:=by omega
    rw[ei,List.take_length] at d7 hP ⊢
    have h3:Here x (p+(x0.2.flatMap (ck d)).length+(cU d r0).length) (i9 n) post:=Here.on hb
    have ne2:¬V.str (eK x (p+(x0.2.flatMap (ck d)).length+(cU d r0).length))=V.str "." :=by
     rw[Y6]
     rcases BH n with e| ⟨rr,e⟩
     ·rw[e] at h3
      rw[h3.OO]
      exact Jx.ne (by decide)
     ·rw[e] at h3
      rw[h3.sg]
      exact pY (by decide)
    refine qD ne2 ?_
    refine⟨_,rfl,_,rfl,r,dQ,_,rfl,d7,aH _ _ (by decide+kernel) (by decide+kernel),r,x,_,n,post,rfl,⟨dQ,d7⟩,h3,Jx,n1,n2,hx,fun H3 iu k3=>?_⟩
    obtain⟨xA,iu⟩:=iu
    have m9:=k3 _ _ lA yq
    have Y7:=kk.trans k3
    refine fun g' S3 EX GB neg'=>⟨g',S3,L,n,ps.map V.ref,rfl,aa,?_,fun m' H6 hm' wG OZ kp'=>⟨rfl,?_⟩⟩
    ·rw[ah (ag m9 EX),ah (ag m9 GB)];exact m9
    have s6:au H3 H6:=fun b o z=>kp' b o (by rw[ah (ag z EX),ah (ag z GB)];exact z) (ag z EX)
    refine q g' H6 (a7 Y7 iu EX) (fun cy ke=>?_) ⟨xA,?_⟩ (Y7.trans (Kept.of s6))
    ·refine⟨S3,m',ps,ke _ _ (a7 Y7 iu EX) wG,ke _ _ (a7 Y7 iu (fU hm')) OZ,aw (fun c t h=>h cy fun b o z1 z2 z3=>ke b o z1 ?_) hP⟩
     have zx:b≠r:=fun z=>by rw[z,hR] at z1;cases z1
     exact s6 _ _ (k3 _ _ z3 zx)
    ·rw[s6 _ _ iu]
     rw[show wL d (x0::r0) n=x0.2.flatMap (ck d)++(cU d r0++i9 n) from rfl,List.length_append,List.length_append]
     congr 3
     omega
variable {uC uP uI uD uL uT:Tok}
inductive Am(vs:List V)(H:Hp)(Q:VK)(E:XK):Prop
 |mk (x:Str) (dR:vs=[.str x]) (dS:x.length≤400) (dW:Q .cS H)
def ou:Sp:=Am
inductive GC(C G Pc Fo:Addr)(d:Nat)(vs:List V)(H:Hp)(Q:VK)(E:XK):Prop
 |mk (x:Str) (xs:List jP) (n:Int) (dR:vs=[.str x]) (dS:x.cps.toList=wL d xs n) (dW:KQ d xs n) (eZ:d≤4) (gz:x.length≤400) (jb:∀f H',H f=none→OW C G Pc Fo d H H' f xs n→au H H'→Q (.ref f) H')
def BJ(C G Pc Fo:Addr)(d:Nat):Sp:=GC C G Pc Fo d
theorem DY:ay ["text"] ["text"] (aj mC):=dA
theorem An(D:Def K mg "refuse_too_long" "refuse_too_long" mC ["text"])(T:lB K mg C R G Pc Fo uK uN uB uE uM uC uP uI uD uL uT):bj P w K mg base 1 "refuse_too_long" ["text"] ou:=by
 refine D.dh DY (fun vs H Q E h=>?_) (fun f bp A outer s H vs Q E hr h=>?_)
 ·obtain⟨x,rfl,_⟩:=h
  rfl
 ·obtain⟨x,rfl,hx,q⟩:=h
  refine⟨_,(ao
     (bN (aO jY (bS ji rfl T.kb g7 (af (pv 0) ak)) (bw (v:= .int 400) rfl T.rA ⟨_,rfl⟩) (aX _))
      (ao
       f9)
      aY)),?_⟩
  exact⟨_,rfl,x,rfl,Nat.le_trans hx (by decide),_,_,rfl,rfl,_,rfl,qD (by omega) q⟩
structure S4(K:PySem.W.Frag)(mg:Str→Option Value)(C R G Pc Fo:Addr)(uK uN uB uE uM uC uP uI uD uL uT:Tok):Prop extends lB K mg C R G Pc Fo uK uN uB uE uM uC uP uI uD uL uT where
 GD:mg "Reader" =some (.ref R)
theorem lW:ay ["text","reader","formula"] ["text"] (aj kQ):=dA
theorem yu(d:Nat)(D:Def K mg "read_formula" "read_formula" kQ ["text"])(T:S4 K mg C R G Pc Fo uK uN uB uE uM uC uP uI uD uL uT)(c1:bj P w K mg base 1 "refuse_too_long" ["text"] ou)(c2:gE P w K mg base 1 R ["self","text"] [] (wq R))(c3:aK P w K mg base (3*d+7) R "read_whole" ["self"] (rq C G Pc Fo R d))(c4:aK P w K mg base 1 R "take_end" ["self"] (t8 R)):
  bj P w K mg base (3*d+8) "read_formula" ["text"] (BJ C G Pc Fo d):=by
 obtain⟨_,_,bE⟩:=c1
 obtain⟨_,_,ax⟩:=c2
 obtain⟨_,_,bK⟩:=c3
 obtain⟨_,_,fB⟩:=c4
 obtain⟨_,Ao,Ap⟩:=ax.b 0 (by decide)
 refine D.dh lW (fun vs H Q E h=>?_) (fun f bp A outer s H vs Q E hr h=>?_)
 ·obtain⟨x,xs,n,rfl,_⟩:=h
  rfl
 ·obtain⟨x,xs,n,rfl,sP,aV,DV,hx,q⟩:=h
  refine⟨_,(ai
     (bb (aJ bE.ok (hr.mono (by omega)) rfl bE.g bE.kp bE.b .nil az (af (pv 0) ak)))
    (ai
     (aB (i:=1) lW.nd rfl (Or.inl rfl) (fX ax.m ax.ok (hr.mono (by omega)) rfl T.GD Ap Ao az (af (pv 0) ak)))
    (ai
     (aB (i:=2) lW.nd rfl (Or.inl rfl) (aN (pv 1) T.ax bK.m bK.ok (hr.mono (by omega)) bK.b .nil az))
    (ai
     (bb (aN (pv 1) T.ax fB.m fB.ok (hr.mono (by omega)) fB.b .nil az))
    (ao
     (aE (pv 2))))))),?_⟩
  refine⟨_,rfl,x,rfl,hx,?_⟩
  refine⟨_,rfl,fun r dr nr ndr ner=>⟨r,dr,x,rfl,aa,fun H1 eD k1=>⟨rfl,?_⟩⟩⟩
  obtain⟨nN,eD⟩:=eD
  have s1:au H H1:=fun b o z=>k1 b o (by rw[ah (ag z nr),ah (ag z ndr)];exact z) (ag z nr)
  refine⟨_,rfl,r,nN,_,rfl,eD,aH _ _ (by decide+kernel) (by decide+kernel),r,x,0,xs,n,[],rfl,⟨nN,eD⟩,yr sP, .inl rfl,aV,DV,by omega,fun f H2 nf hF gP k2=>?_⟩
  obtain⟨ju,gP⟩:=gP
  have hxe:0+(wL d xs n).length=x.length:=by rw[←sP];simp [Str.length]
  rw[hxe] at gP
  have back:∀b,H1 b=none→H b=none:=fun b z=>by
   cases hh:H b with
   |none=>rfl
   |some o=>rw[s1 _ _ hh] at z;cases z
  refine⟨_,rfl,r,ju,_,rfl,gP,aH _ _ (by decide+kernel) (by decide+kernel),r,x,rfl,⟨ju,gP⟩,by omega,?_⟩
  exact⟨_,rfl,q f H2 (back f nf) (fun cy ke=>hF cy fun b o z1 z2=>ke b o (back b z1) z2) fun b o z=>k2 b o (s1 _ _ z) (ag z nr)⟩
theorem bF(a b:List Nat):(⟨a.toArray⟩:Str)++⟨b.toArray⟩=⟨(a++b).toArray⟩:=by
 show (⟨a.toArray++b.toArray⟩:Str)=_
 simp
theorem BK(d:Nat):∀ts:List Tr,jn (ts.map fun t=>(⟨(ck d t).toArray⟩:Str))=⟨(ts.flatMap (ck d)).toArray⟩
 | []=>rfl
 |t::ts=>by
  rw[List.map_cons,Kx,BK d ts,bF,List.flatMap_cons]
theorem bq(a:List Nat):(⟨a.toArray⟩:Str).length=a.length:=by simp [Str.length]
theorem de(n:Int):eY n=⟨(aP n).toArray⟩:=by
 apply mU
 simp [aP]
theorem wH{d:Nat}{ts:List Tr}{t:Tr}(h:t∈ts):(ck d t).length≤(ts.flatMap (ck d)).length:=by
 obtain⟨s,r,rfl⟩:=List.append_of_mem h
 rw[List.flatMap_append,List.flatMap_cons,List.length_append,List.length_append]
 omega
def ow(C G:Addr):Nat→Sp
 |0=>fun _ _ _ _=>False
 |d+1=>fun vs H Q _=>∃(g:Addr) (ts:List Tr) (n:Int),vs=[.ref g]∧eL C G (d+1) H g (.gr ts n)∧uc (d+1) (.gr ts n)∧(ck (d+1) (.gr ts n)).length≤1000∧∀H',au H H'→Q (.str ⟨(ck (d+1) (.gr ts n)).toArray⟩) H'
inductive Aq(C G:Addr)(d:Nat)(vs:List V)(H:Hp)(Q:VK)(E:XK):Prop
 |mk (l:Addr) (ps:List Addr) (ts:List Tr) (dR:vs=[.ref l]) (dS:H l=some (.lst (ps.map V.ref))) (dW:Paired (eL C G d H) ps ts) (eZ:(∀t∈ts,uc d t)) (gz:(ts.flatMap (ck d)).length≤1000) (jb:∀H',au H H'→Q (.str ⟨(ts.flatMap (ck d)).toArray⟩) H')
def kX(C G:Addr)(d:Nat):Sp:=Aq C G d
theorem eL.same{C G:Addr}:∀{d:Nat} {H H':Hp} {p:Addr} {t:Tr},eL C G d H p t→au H H'→eL C G d H' p t
 |0,H,H',p, .one k n,h,e=>gy.same h e
 |d+1,H,H',p, .one k n,h,e=>gy.same (C:=C) (k:=⟨k.toArray⟩) (n:=n) h e
 |0,_,_,_, .gr _ _,h,_=>h.elim
 |d+1,H,H',p, .gr ts n,⟨dx,l,ps,h1,h2,h3⟩,e=>⟨dx,l,ps,e _ _ h1,e _ _ h2,aw (fun a b h=>eL.same h e) h3⟩
theorem bo{α β:Type}{p:α→β→Prop}:∀{as:List α} {bs:List β} {i:Nat} {a:α},Paired p as bs→as[i]? =some a→∃b,bs[i]? =some b∧p a b
 |_,_,_,_, .nil,h=>by simp at h
 |_,_,0,_, .cons h _,e=>⟨_,rfl,by have e:=Option.some.inj e;rw[←e];exact h⟩
 |_,_,i+1,_, .cons _ t,e=>bo (i:=i) t e
theorem GF:ay ["parts"] ["parts"] (aj kM):=dA
theorem KU{k:List Nat}(h:lT k):(⟨k.toArray⟩:Str).length≤3:=by
 obtain⟨c,r,rfl,_,_,hl⟩:=h
 rw[bq,List.length_cons]
 omega
theorem rC(d:Nat)(D:Def K mg "parts_shown" "parts_shown" kM ["parts"])(T:rf K mg C R G uK uN uB uE uM)(c1:aK P w K mg base 2 C "shown" ["self"] (we C))(c2:aK P w K mg base (2*d+2) G "shown" ["self"] (ow C G d)):bj P w K mg base (2*d+3) "parts_shown" ["parts"] (kX C G d):=by
 obtain⟨_,_,jy⟩:=c1
 obtain⟨_,_,iR⟩:=c2
 refine D.dh GF (fun vs H Q E h=>?_) (fun f bp A outer s H vs Q E hr h=>?_)
 ·obtain⟨l,ps,ts,rfl,_⟩:=h
  rfl
 ·obtain⟨l,ps,ts,rfl,hl,hP,aV,hz,q⟩:=h
  have big:(2000 :Nat) <sizeLine:=by decide
  have hfl:=rh aV
  have lp:ps.length=ts.length:=Paired.length hP
  refine⟨_,(ao
     (aE (gD PySem.F.plainAttrs_str PySem.F.slot_str_join PySem.F.type_str_join pL bH (af (fy (sc:=(aj kM)) (NX:=["parts"]) (N:=["part"]) (fr:=[none]) ⟨by rfl,by rfl,by decide+kernel,by decide+kernel,by decide+kernel,by rfl,by decide+kernel⟩ rfl rfl rfl (bX (pv 0)) (fun _ _ _ _=>(aD (i:=0) (show (["part"]:List Str).Nodup by decide+kernel) rfl (Or.inl rfl) (Or.inr rfl))) (fun _ _ _ _=>fx) (fun _ _ _ _=>(Fz (aN (pv 0) T.gA jy.m jy.ok (hr.mono (by omega)) jy.b .nil az) (aN (pv 0) T.eG iR.m iR.ok (hr.mono (by omega)) iR.b .nil az)))) ak)))),?_⟩
  refine⟨rfl,_,rfl,l,rfl,⟨_,bJ.of hl⟩,fun D hD=>tO (K:=K) (a:=l) (D:=D) (xs:=ps.map V.ref) (fun i σ H'=>∃v:Option V,σ=[v]∧au H H'∧H' D=some (.lst ((ts.take i).map fun t=>V.str ⟨(ck d t).toArray⟩)))
   ?_ (fun i σ H' _ ⟨_,_,e,_⟩=>bJ.of (e _ _ hl)) ?_ ?_⟩
  ·exact⟨none,rfl,au.new hD,aa⟩
  ·rintro i v σ H' hi ⟨v',rfl,e,BL⟩ N hN
   rw[List.getElem?_map] at hi
   obtain⟨p,hp,rfl⟩:∃p,ps[i]? =some p∧v=V.ref p:=by
    cases hh:ps[i]? with
    |none=>rw[hh] at hi;cases hi
    |some p=>rw[hh] at hi;exact⟨p,rfl,(Option.some.inj hi).symm⟩
   obtain⟨t,ht,hT⟩:=bo hP hp
   have hT:=hT.same e
   have Rf:=aV t (List.mem_of_getElem? ht)
   have lt:=Nat.le_trans (wH (d:=d) (List.mem_of_getElem? ht)) hz
   have fin:∀cy,au H' cy→∃ys,cy D=some (.lst ys)∧ys.length<sizeLine∧N [some (V.ref p)] (upd cy D (.lst (ys++[V.str ⟨(ck d t).toArray⟩]))):=fun cy e'=>by
    refine⟨_,e' _ _ BL,?_,hN _ _ ⟨_,rfl,fun b o z=>?_,?_⟩⟩
    ·rw[List.length_map]
     have:(ts.take i).length≤ts.length:=List.length_take_le' _ _
     omega
    ·rw[ah (ag z hD)]
     exact e' _ _ (e _ _ z)
    ·rw[aa,List.take_add_one,ht,List.map_append]
     rfl
   cases t with
   |one k n=>
    have MC:lT k∧1≤n∧n≤999:=by cases d<;>exact Rf
    have hA:gy C H' p ⟨k.toArray⟩ n:=by cases d<;>exact hT
    have et:(⟨(ck d (.one k n)).toArray⟩:Str)=⟨k.toArray⟩++eY n:=by
     rw[de,bF]
     cases d<;>rfl
    obtain⟨dx,sx⟩:=id hA
    have:=fin H' (au.refl _)
    rw[et] at this
    exact Or.inl ⟨_,rfl,p,dx,_,rfl,sx,Bu _ _ (by decide+kernel) (by decide+kernel),p,_,n,rfl,hA,KU MC.1,MC.2.1,MC.2.2,this⟩
   |gr us n=>
    cases d with
    |zero=>exact Rf.elim
    |succ d=>
     obtain⟨dx,l',Rg,h1,h2,h3⟩:=id hT
     exact Or.inr ⟨_,rfl,p,dx,_,rfl,h1,mR _ _ (by decide+kernel) (by decide+kernel),p,us,n,rfl,hT,Rf,lt,fin⟩
  ·rintro σ H' ⟨v,rfl,e,BL⟩
   rw[List.length_map,lp,List.take_length] at BL
   have es:((ts.map fun t=>(⟨(ck d t).toArray⟩:Str)).map (·.length)).sum=(ts.flatMap (ck d)).length:=by
    rw[List.map_map,List.length_flatMap]
    congr 1
   refine⟨_,D,ts.map (fun t=>⟨(ck d t).toArray⟩),rfl,rfl,bJ.of (by rw[BL,List.map_map];rfl),?_,?_⟩
   ·have e0:("" :Str).length=0:=by decide+kernel
    rw[es,e0]
    omega
   ·rw[join_eq,BK]
    exact q _ e
theorem yv:ay ["self"] ["self"] (aj kN):=dA
theorem Ar(D:bg K G "shown" "Group.shown" kN ["self"]):aK P w K mg base 2 G "shown" ["self"] (ow C G 0):=
 D.dh (k:=1) yv (fun vs H Q E h=>h.elim) (fun f bp A outer s H vs Q E hr h=>h.elim)
theorem As(d:Nat)(D:bg K G "shown" "Group.shown" kN ["self"])(T:rf K mg C R G uK uN uB uE uM)(c1:bj P w K mg base (2*d+3) "parts_shown" ["parts"] (kX C G d))(c2:bj P w K mg base 1 "count_shown" ["count"] ka):aK P w K mg base (2*d+4) G "shown" ["self"] (ow C G (d+1)):=by
 obtain⟨_,_,cg⟩:=c1
 obtain⟨_,_,aW⟩:=c2
 refine D.dh yv (fun vs H Q E h=>?_) (fun f bp A outer s H vs Q E hr h=>?_)
 ·obtain⟨g,ts,n,rfl,_⟩:=h
  rfl
 ·obtain⟨g,ts,n,rfl,⟨dx,l,ps,hg,hl,hP⟩,⟨nX,aV,n1,n2⟩,hz,q⟩:=h
  have big:(2000 :Nat)≤sizeLine:=by decide
  have hz:(40::(ts.flatMap (ck d)++41::aP n)).length≤1000:=hz
  rw[List.length_cons,List.length_append,List.length_cons] at hz
  have e1:("(" :Str).length=1:=by decide+kernel
  have e2:(")" :Str).length=1:=by decide+kernel
  have lf:(eY n).length=(aP n).length:=by rw[de,bq]
  have ee:(⟨(ck (d+1) (.gr ts n)).toArray⟩:Str)="(" ++⟨(ts.flatMap (ck d)).toArray⟩++")" ++eY n:=by
   rw[de,OT,e41]
   rw[show (⟨#[40]⟩:Str)=⟨[40].toArray⟩ from rfl,show (⟨#[41]⟩:Str)=⟨[41].toArray⟩ from rfl,bF,bF,bF]
   simp [ck]
  rw[ee] at q
  refine⟨_,(ao
     (aE (aA bz (aA bz (aA bz (bw (v:= .str "(") rfl T.fZ ⟨_,rfl⟩) (aJ cg.ok (hr.mono (by omega)) rfl cg.g cg.kp cg.b .nil az (af (a5 (pv 0) rfl) ak))) (bw (v:= .str ")") rfl T.oY ⟨_,rfl⟩)) (aJ aW.ok (hr.mono (by omega)) rfl aW.g aW.kp aW.b .nil az (af (a5 (pv 0) rfl) ak))))),?_⟩
  refine⟨_,rfl,g,G,dx,_,_,rfl,hg,T.eG,T.oh,iD _ _,l,ps,ts,rfl,hl,hP,aV,by omega,fun H1 s1=>⟨_,_,rfl,rfl,?_,_,_,rfl,rfl,?_,_,rfl,g,G,dx,_,_,rfl,s1 _ _ hg,T.eG,T.oj,iE _ _,n,rfl,n1,n2,_,_,rfl,rfl,?_,q _ s1⟩⟩
  ·rw[e1,bq]
   omega
  ·rw[bA,e1,e2,bq]
   omega
  ·rw[bA,bA,e1,e2,bq,lf]
   omega
theorem uu(D1:Def K mg "parts_shown" "parts_shown" kM ["parts"])(D2:bg K G "shown" "Group.shown" kN ["self"])(T:rf K mg C R G uK uN uB uE uM)(c1:aK P w K mg base 2 C "shown" ["self"] (we C))(c2:bj P w K mg base 1 "count_shown" ["count"] ka):∀d:Nat,bj P w K mg base (2*d+3) "parts_shown" ["parts"] (kX C G d)
 |0=>rC 0 D1 T c1 (Ar D2)
 |d+1=>rC (d+1) D1 T c1 (by rw[show 2*(d+1)+2=2*d+4 by omega];exact As d D2 T (uu D1 D2 T c1 c2 d) c2)
variable {uC uP uI uD uL uT:Tok}
inductive rD(C G Pc:Addr)(d:Nat)(vs:List V)(H:Hp)(Q:VK)(E:XK):Prop
 |mk (q:Addr) (x:jP) (dR:vs=[.ref q]) (dS:jw C G Pc d H q x) (dW:FU d x) (eZ:(lE d x).length≤1000) (gz:∀H',au H H'→Q (.str ⟨(lE d x).toArray⟩) H')
def lF(C G Pc:Addr)(d:Nat):Sp:=rD C G Pc d
theorem wI:ay ["self"] ["self"] (aj iz):=dA
theorem rE(d:Nat)(D:bg K Pc "shown" "Piece.shown" iz ["self"])(T:lB K mg C R G Pc Fo uK uN uB uE uM uC uP uI uD uL uT)(c1:bj P w K mg base (2*d+3) "parts_shown" ["parts"] (kX C G d))(c2:bj P w K mg base 1 "count_shown" ["count"] ka):aK P w K mg base (2*d+4) Pc "shown" ["self"] (lF C G Pc d):=by
 obtain⟨_,_,cg⟩:=c1
 obtain⟨_,_,aW⟩:=c2
 refine D.dh wI (fun vs H Q E h=>?_) (fun f bp A outer s H vs Q E hr h=>?_)
 ·obtain⟨p,x,rfl,_⟩:=h
  rfl
 ·obtain⟨p,x,rfl,⟨dx,l,ps,hp,hl,hP⟩,⟨nX,aV,n1,n2⟩,hz,q⟩:=h
  have big:(2000 :Nat)≤sizeLine:=by decide
  have hz':=hz
  unfold lE at hz' q
  rw[List.length_append] at hz'
  have lf:(eY x.1).length=(aP x.1).length:=by rw[de,bq]
  rw[←bF,←de] at q
  refine⟨_,(ao
     (aE (aA bz (aJ aW.ok (hr.mono (by omega)) rfl aW.g aW.kp aW.b .nil az (af (a5 (pv 0) rfl) ak)) (aJ cg.ok (hr.mono (by omega)) rfl cg.g cg.kp cg.b .nil az (af (a5 (pv 0) rfl) ak))))),?_⟩
  refine⟨_,rfl,p,Pc,dx,_,_,rfl,hp,T.dq,T.oq,iE _ _,x.1,rfl,n1,n2,_,rfl,p,Pc,dx,_,_,rfl,hp,T.dq,T.oo,iD _ _,l,ps,x.2,rfl,hl,hP,aV,by omega,fun H1 e1=>⟨_,_,rfl,rfl,?_,q _ e1⟩⟩
  rw[lf,bq]
  omega
inductive Au(vs:List V)(H:Hp)(Q:VK)(E:XK):Prop
 |mk (n:Int) (dR:vs=[.int n]) (dS: -999≤n) (dW:n≤999) (eZ:Q (.str ⟨(i9 n).toArray⟩) H)
def uv:Sp:=Au
theorem O0{n:Int}(h1: -999≤n)(h2:n≤999):(i9 n).length≤5:=by
 unfold i9
 split
 ·exact Nat.zero_le _
 ·rename_i h0
  have:=g9 (n:=if n<0 then -n else n) (by split<;>omega) (by split<;>omega)
  rw[de,bq] at this
  rw[List.length_cons,List.length_append]
  simp
  omega
theorem sR:ay ["charge"] ["charge"] (aj gM):=dA
theorem oA(D:Def K mg "charge_shown" "charge_shown" gM ["charge"])(T:lB K mg C R G Pc Fo uK uN uB uE uM uC uP uI uD uL uT)(c1:bj P w K mg base 1 "count_shown" ["count"] ka):bj P w K mg base 2 "charge_shown" ["charge"] uv:=by
 obtain⟨_,_,aW⟩:=c1
 refine D.dh sR (fun vs H Q E h=>?_) (fun f bp A outer s H vs Q E hr h=>?_)
 ·obtain⟨n,rfl,_⟩:=h
  rfl
 ·obtain⟨n,rfl,h1,h2,q⟩:=h
  have big:(2000 :Nat)≤sizeLine:=by decide
  refine⟨_,(ai
     (bN (aO d9 (pv 0) aq (aX _))
      (ao
       (aE bH))
      aY)
    (ao
     (aE (aA bz (aA bz (bw (v:= .str "^") rfl T.iQ ⟨_,rfl⟩) (aJ aW.ok (hr.mono (by decide)) rfl aW.g aW.kp aW.b .nil az (af (bS xR rfl T.GA FA (af (pv 0) ak)) ak))) (xP (aO jY (pv 0) aq (aX _)) (bw (v:= .str "+") rfl T.wy ⟨_,rfl⟩) (bw (v:= .str "-") rfl T.wz ⟨_,rfl⟩)))))),?_⟩
  refine⟨_,rfl,rfl,_,rfl,fu (fun e=>?_) fun e=>?_⟩
  ·have e:n=0:=by simpa using e
   subst e
   have e0:(⟨(i9 0).toArray⟩:Str)="" :=by decide+kernel
   rw[e0] at q
   exact q
  ·have e:¬n=0:=by simpa using e
   have a1:1≤(if n<0 then -n else n):=by split<;>omega
   have a2:(if n<0 then -n else n)≤999:=by split<;>omega
   have z:=g9 a1 a2
   have e1:("^" :Str).length=1:=by decide+kernel
   refine⟨_,rfl,n,rfl,_,rfl,a1,a2,_,_,rfl,rfl,by rw[e1];omega,_,rfl,_,_,rfl,rfl,?_⟩
   have ec:(⟨(i9 n).toArray⟩:Str)="^" ++eY (if n<0 then -n else n)++(if 0<n then ("+" :Str) else ("-" :Str)):=by
    unfold i9
    rw[if_neg e,de,S0,e43,S1]
    rw[show (⟨#[94]⟩:Str)=⟨[94].toArray⟩ from rfl,bF]
    by_cases hp:0<n
    ·rw[if_pos hp,if_pos hp,show (⟨#[43]⟩:Str)=⟨[43].toArray⟩ from rfl,bF]
     simp
    ·rw[if_neg hp,if_neg hp,show (⟨#[45]⟩:Str)=⟨[45].toArray⟩ from rfl,bF]
     simp
   rw[ec] at q
   refine⟨_,rfl,fu (fun e=>?_) fun e=>?_⟩
   ·have e:0<n:=by simpa using e
    rw[if_pos e] at q
    refine⟨_,_,rfl,rfl,?_,q⟩
    have e2:("+" :Str).length=1:=by decide+kernel
    rw[bA,e1,e2]
    omega
   ·have e:¬0<n:=by simpa using e
    rw[if_neg e] at q
    refine⟨_,_,rfl,rfl,?_,q⟩
    have e2:("-" :Str).length=1:=by decide+kernel
    rw[bA,e1,e2]
    omega
inductive Av(C G Pc Fo:Addr)(d:Nat)(vs:List V)(H:Hp)(Q:VK)(E:XK):Prop
 |mk (f:Addr) (xs:List jP) (n:Int) (dR:vs=[.ref f]) (dS:o5 C G Pc Fo d H f xs n) (dW:KQ d xs n) (eZ:(wL d xs n).length≤1000) (gz:∀H',au H H'→Q (.str ⟨(wL d xs n).toArray⟩) H')
def uw(C G Pc Fo:Addr)(d:Nat):Sp:=Av C G Pc Fo d
theorem ux(d:Nat):∀(x:jP) (r:List jP),Str.join "." ((x::r).map fun y=>(⟨(lE d y).toArray⟩:Str))=⟨(lE d x++cU d r).toArray⟩
 |x,[]=>by
  show (⟨(lE d x).toArray⟩:Str)=⟨(lE d x++[]).toArray⟩
  rw[List.append_nil]
 |x,y::r=>by
  show (⟨(lE d x).toArray⟩:Str)++"." ++Str.join "." ((y::r).map fun y=>(⟨(lE d y).toArray⟩:Str))=⟨(lE d x++(46::lE d y++cU d r)).toArray⟩
  rw[ux d y r,Y6,show (⟨#[46]⟩:Str)=⟨[46].toArray⟩ from rfl,bF,bF]
  simp
theorem jw.same{C G Pc:Addr}{d:Nat}{H H':Hp}{p:Addr}{x:jP}(h:jw C G Pc d H p x)(e:au H H'):jw C G Pc d H' p x:=
 let ⟨dx,l,ps,h1,h2,h3⟩:=h;⟨dx,l,ps,e _ _ h1,e _ _ h2,aw (fun _ _ h=>eL.same h e) h3⟩
theorem o5.same{C G Pc Fo:Addr}{d:Nat}{H H':Hp}{p:Addr}{xs:List jP}{n:Int}(h:o5 C G Pc Fo d H p xs n)(e:au H H'):o5 C G Pc Fo d H' p xs n:=
 let ⟨dx,l,ps,h1,h2,h3⟩:=h;⟨dx,l,ps,e _ _ h1,e _ _ h2,aw (fun _ _ h=>jw.same h e) h3⟩
theorem GG:ay ["self"] ["self"] (aj mD):=dA
theorem Aw(d:Nat)(D:bg K Fo "shown" "Formula.shown" mD ["self"])(T:lB K mg C R G Pc Fo uK uN uB uE uM uC uP uI uD uL uT)(c1:aK P w K mg base (2*d+4) Pc "shown" ["self"] (lF C G Pc d))(c2:bj P w K mg base 2 "charge_shown" ["charge"] uv):aK P w K mg base (2*d+5) Fo "shown" ["self"] (uw C G Pc Fo d):=by
 obtain⟨_,_,iS⟩:=c1
 obtain⟨_,_,fD⟩:=c2
 refine D.dh GG (fun vs H Q E h=>?_) (fun f bp A outer s H vs Q E hr h=>?_)
 ·obtain⟨f,xs,n,rfl,_⟩:=h
  rfl
 ·obtain⟨f,xs,n,rfl,⟨dx,l,ps,hf,hl,hP⟩,aV,hz,q⟩:=h
  have big:(3000 :Nat) <sizeLine:=by decide
  have lp:ps.length=xs.length:=Paired.length hP
  refine⟨_,(ai
     (bN (jU (qq (a5 (pv 0) rfl) (fun _=>rfl)))
      (ao
       (aE (bw (v:= .str "e^-") rfl T.lV ⟨_,rfl⟩)))
      aY)
    (ao
     (aE (aA bz (gD PySem.F.plainAttrs_str PySem.F.slot_str_join PySem.F.type_str_join pL (bw (v:= .str ".") rfl T.ki ⟨_,rfl⟩) (af (fy (sc:=(aj mD)) (NX:=["self"]) (N:=["piece"]) (fr:=[none]) ⟨by rfl,by rfl,by decide+kernel,by decide+kernel,by decide+kernel,by rfl,by decide+kernel⟩ rfl rfl rfl (bX (a5 (pv 0) rfl)) (fun _ _ _ _=>(aD (i:=0) (show (["piece"]:List Str).Nodup by decide+kernel) rfl (Or.inl rfl) (Or.inr rfl))) (fun _ _ _ _=>fx) (fun _ _ _ _=>(aN (pv 0) T.dq iS.m iS.ok (hr.mono (by omega)) iS.b .nil az))) ak)) (aJ fD.ok (hr.mono (by omega)) rfl fD.g fD.kp fD.b .nil az (af (a5 (pv 0) rfl) ak)))))),?_⟩
  refine⟨_,rfl,f,Fo,dx,_,_,rfl,hf,T.bM,T.jx,jv _ _,_, .inl ⟨_,bJ.of hl,rfl⟩,?_⟩
  cases xs with
  |nil=>
   have hp:ps=[]:=List.length_eq_zero_iff.mp lp
   subst hp
   refine iZ ?_
   have e0:(⟨(wL d [] n).toArray⟩:Str)="e^-" :=by rw[eE];rfl
   rw[e0] at q
   exact q _ (au.refl _)
  |cons x0 r0=>
   obtain⟨h01,DW,n1,n2⟩:=aV
   have hpe:(!(ps.map V.ref).isEmpty)=true:=by
    cases ps with
    |nil=>simp at lp
    |cons _ _=>rfl
   rw[hpe]
   refine fI ?_
   have zc:=O0 n1 n2
   have ez:wL d (x0::r0) n=(lE d x0++cU d r0)++i9 n:=by
    show x0.2.flatMap (ck d)++(cU d r0++i9 n)=_
    unfold lE
    rw[h01,show aP 1=[] from rfl,List.nil_append,List.append_assoc]
   rw[ez,List.length_append,List.length_append] at hz
   have hr0:=wF d r0
   have each:∀y∈x0::r0,(lE d y).length≤1000:=fun y hy=>by
    rcases List.mem_cons.mp hy with rfl|hy
    ·omega
    ·obtain⟨a,b,rfl⟩:=List.append_of_mem hy
     have:(cU d (a++y::b)).length=(cU d a).length+(46::lE d y++cU d b).length:=by
      unfold cU
      rw[List.flatMap_append,List.length_append,List.flatMap_cons]
     rw[this,List.length_append,List.length_cons] at hz
     omega
   refine⟨rfl,_,rfl,f,Fo,dx,_,_,rfl,hf,T.bM,T.jx,jv _ _,l,rfl,⟨_,bJ.of hl⟩,fun D hD=>tO (K:=K) (a:=l) (D:=D) (xs:=ps.map V.ref) (fun i σ H'=>∃v:Option V,σ=[v]∧au H H'∧H' D=some (.lst (((x0::r0).take i).map fun x=>V.str ⟨(lE d x).toArray⟩)))
    ?_ (fun i σ H' _ ⟨_,_,e,_⟩=>bJ.of (e _ _ hl)) ?_ ?_⟩
   ·exact⟨none,rfl,au.new hD,aa⟩
   ·rintro i v σ H' hi ⟨v',rfl,e,BL⟩ N hN
    rw[List.getElem?_map] at hi
    obtain⟨p,hp,rfl⟩:∃p,ps[i]? =some p∧v=V.ref p:=by
     cases hh:ps[i]? with
     |none=>rw[hh] at hi;cases hi
     |some p=>rw[hh] at hi;exact⟨p,rfl,(Option.some.inj hi).symm⟩
    obtain⟨y,hy,hY⟩:=bo hP hp
    have hY:=hY.same e
    obtain⟨dQ,l',Rg,h1,h2⟩:=id hY
    have my:=List.mem_of_getElem? hy
    refine⟨_,rfl,p,dQ,_,rfl,h1,mR _ _ (by decide+kernel) (by decide+kernel),p,y,rfl,hY,DW y my,each y my,fun cy e'=>⟨_,e' _ _ BL,?_,hN _ _ ⟨_,rfl,fun b o z=>?_,?_⟩⟩⟩
    ·rw[List.length_map]
     have:((x0::r0).take i).length≤(x0::r0).length:=List.length_take_le' _ _
     rw[List.length_cons] at this
     omega
    ·rw[ah (ag z hD)]
     exact e' _ _ (e _ _ z)
    ·rw[aa,List.take_add_one,hy,List.map_append]
     rfl
   ·rintro σ H' ⟨v,rfl,e,BL⟩
    rw[List.length_map,lp,List.take_length] at BL
    have ej:Txt.join "." ((x0::r0).map fun y=>(⟨(lE d y).toArray⟩:Str))=⟨(lE d x0++cU d r0).toArray⟩:=by
     have:=PyProof.Rows.join_closes (sep:=".") (sep':=".") (ys:=(x0::r0).map fun y=>(⟨(lE d y).toArray⟩:Str)) rfl
     rw[←ux]
     simpa using this
    have es:(((x0::r0).map fun y=>(⟨(lE d y).toArray⟩:Str)).map (·.length)).sum≤(lE d x0).length+(cU d r0).length:=by
     rw[List.map_map,List.map_cons,List.sum_cons]
     have:∀r:List jP,(r.map ((·.length)∘fun y=>(⟨(lE d y).toArray⟩:Str))).sum≤(cU d r).length:=fun r=>by
      induction r with
      |nil=>exact Nat.le_refl _
      |cons y r ih=>
       show (⟨(lE d y).toArray⟩:Str).length+(r.map ((·.length)∘fun y=>(⟨(lE d y).toArray⟩:Str))).sum≤(46::lE d y++cU d r).length
       rw[bq,List.length_append,List.length_cons]
       omega
     have h2:=this r0
     show (⟨(lE d x0).toArray⟩:Str).length+_≤_
     rw[bq]
     omega
    refine⟨_,D,(x0::r0).map (fun y=>⟨(lE d y).toArray⟩),rfl,rfl,bJ.of (by rw[BL,List.map_map];rfl),?_,?_⟩
    ·have e0:("." :Str).length=1:=by decide+kernel
     rw[e0,List.length_map,List.length_cons]
     omega
    ·rw[ej]
     refine⟨_,rfl,f,Fo,dx,_,_,rfl,e _ _ hf,T.bM,T.lU,m7 _ _,n,rfl,n1,n2,_,_,rfl,rfl,?_,?_⟩
     ·rw[bq,bq,List.length_append]
      omega
     ·rw[bF,←ez]
      exact q _ e
theorem DZ:ay ["_law_count_here"] ["_law_count_here"] (aj mN):=dA
theorem Ax(D:Def K mg "_law_figures" "_law_figures" mN ["_law_count_here"])(T:pD K mg C):bj P w K mg base 1 "_law_figures" ["_law_count_here"] ka:=by
 refine D.dh DZ (fun vs H Q E h=>?_) (fun f bp A outer s H vs Q E hr h=>?_)
 ·obtain⟨n,rfl,_⟩:=h
  rfl
 ·obtain⟨n,rfl,h1,h2,k⟩:=h
  refine⟨_,(ai
     (bN (aO d9 (pv 0) aq (aX _))
      (ao
       (aE bH))
      aY)
    (ao
     (aE (bI jf rfl T.Gd zV (af (pv 0) ak))))),?_⟩
  refine⟨_,rfl,rfl,_,rfl,fu (fun e=>?_) fun e=>?_⟩
  ·have e:n=1:=by simpa using e
   subst e
   exact k
  ·have e:¬n=1:=by simpa using e
   refine⟨_,rfl,_,rfl,tM (by omega) (by omega),?_⟩
   unfold eY at k
   rw[if_neg e] at k
   exact k
theorem O1:ay ["self","kind","count"] ["self","kind","count"] (aj i5):=dA
theorem KW(D:lz K C "Atom.__init__" i5 ["self","kind","count"] [1])(T:pD K mg C):gE P w K mg base 1 C ["self","kind","count"] [1] (Ga C):=by
 refine D.dh O1 (fun vs H Q E h=>?_) (fun f bp A outer s H vs Q E hr h=>?_)
 ·obtain⟨p,dx,k,n,rfl,_⟩:=h
  rfl
 ·obtain⟨p,dx,k,n,rfl,hp,q⟩:=h
  refine⟨_,(ai
     (eI (pv 0) (pv 1) rfl)
    (ao
     (eI (pv 0) (pv 2) rfl))),?_⟩
  refine⟨_,rfl,_,rfl,p,C,dx,[],rfl,hp,T.gA,T.wg,(by show 0<1000;decide),_,rfl,_,rfl,p,C,dx,_,rfl,aa,T.gA,T.qV,(by show 1<1000;decide),?_⟩
  refine q _ aa fun b o e hb=>?_
  rw[ah hb,ah hb]
  exact e
theorem GH:ay ["_law_script","_law_k"] ["_law_script","_law_k"] (aj pT):=dA
theorem Ay(D:Def K mg "_law_cell_at" "_law_cell_at" pT ["_law_script","_law_k"])(T:pD K mg C):bj P w K mg base 1 "_law_cell_at" ["_law_script","_law_k"] (mS K):=by
 refine D.dh GH (fun vs H Q E h=>?_) (fun f bp A outer s H vs Q E hr h=>?_)
 ·obtain⟨a,ns,k,rfl,_⟩:=h
  rfl
 ·obtain⟨a,ns,k,rfl,hS,hl,q⟩:=h
  refine⟨_,(ai
     (bN (aO me (pv 1) (bS dk rfl T.kb g7 (af (pv 0) ak)) (aX _))
      (ao
       (aE (cf cQ (pv 0) (pv 1) (fun _ _=>rfl))))
      aY)
    (ao
     (aE aq))),?_⟩
  refine⟨_,rfl,_,rfl,a,_,rfl, .inl hS,_,_,rfl,rfl,_,rfl,fu (fun e=>?_) fun e=>?_⟩
  ·have e:k<ns.length:=by simpa using e
   exact⟨_,rfl,_,rfl,a,_,_,V.int ns[k],rfl,rfl,hS,mj (by rw[List.getElem?_map,List.getElem?_eq_getElem e];rfl),q _⟩
  ·exact q 0
theorem KY:ay ["_law_found"] ["_law_found"] (aj vV):=dA
theorem GI(D:Def K mg "_law_whole" "_law_whole" vV ["_law_found"])(T:pD K mg C):bj P w K mg base 1 "_law_whole" ["_law_found"] Bw:=by
 refine D.dh KY (fun vs H Q E h=>?_) (fun f bp A outer s H vs Q E hr h=>?_)
 ·obtain⟨i,rfl,_⟩:=h
  rfl
 ·obtain⟨i,rfl,q⟩:=h
  refine⟨_,(ao
     (aE (NM (bS j2 rfl T.jq iO (af (pv 0) (af (vi (v:= .ty "int") rfl T.yk qC rfl) ak))) (NL (NN (bS j2 rfl T.jq iO (af (pv 0) (af (vi (v:= .ty "bool") rfl T.ON J9 rfl) ak)))))))),?_⟩
  exact⟨_,rfl,_,_,_,_,_,rfl,rfl, .int i,T.k1,_,rfl,iZ ⟨_,rfl,_,_,_,_,_,rfl,rfl, .int i,T.k2,_,rfl,q⟩⟩
abbrev great:Str:="ABCDEFGHIJKLMNOPQRSTUVWXYZ"
abbrev small:Str:="abcdefghijklmnopqrstuvwxyz"
theorem D0:great.cps.toList.length=26:=by decide+kernel
theorem D4:small.cps.toList.length=26:=by decide+kernel
def S5:List Str:=["C","Co","O","Cob","H","N","No","B","Ob","Nob"]
theorem lX:ay ["_law_number","_law_great","_law_small","_law_kind_here","_law_k"] ["_law_number"] (aj Bs):=dA
inductive GJ(vs:List V)(H:Hp)(Q:VK)(E:XK):Prop
 |mk (n:Int) (dR:vs=[.int n]) (dS:∀(k:List Nat) H',lT k→au H H'→Q (.str ⟨k.toArray⟩) H')
def BM:Sp:=GJ
def O2:List Nat→Bool
 |c::r=>ET c&&r.all ES&&decide (r.length≤2)
 | []=>false
theorem O3:∀{l:List Nat},O2 l=true→lT l
 | [],h=>by cases h
 |c::r,h=>by
  simp only [O2,Bool.and_eq_true,decide_eq_true_eq] at h
  exact⟨c,r,rfl,h.1.1,h.1.2,h.2⟩
theorem O4:S5.all (fun x=>O2 x.cps.toList)=true:=by decide+kernel
theorem D5:great.cps.toList.all ET=true:=by decide+kernel
theorem D6:small.cps.toList.all ES=true:=by decide+kernel
theorem GK(D:Def K mg "_law_kind" "_law_kind" Bs ["_law_number"])(T:pD K mg C):bj P w K mg base 1 "_law_kind" ["_law_number"] BM:=by
 refine D.dh lX (fun vs H Q E h=>?_) (fun f bp A outer s H vs Q E hr h=>?_)
 ·obtain⟨n,rfl,_⟩:=h
  rfl
 ·obtain⟨n,rfl,q⟩:=h
  refine⟨_,(ai
     (aB (i:=1) lX.nd rfl (Or.inl rfl) bH)
    (ai
     (aB (i:=2) lX.nd rfl (Or.inl rfl) bH)
    (ai
     (bN (aO d9 (aA b6 (pv 0) aq) aq (aX _))
      (ao
       (aE (cf cQ (cA (Ka (.str (.str (.str (.str (.str (.str (.str (.str (.str (.str .nil)))))))))))) (aA b6 (aA cE (pv 0) aq) aq) (fun _ _=>rfl))))
      aY)
    (ai
     (aB (i:=0) lX.nd rfl (Or.inl rfl) (aA cE (pv 0) aq))
    (ai
     (aB (i:=3) lX.nd rfl (Or.inl rfl) (cf vt (pv 1) (aA b6 (pv 0) aq) (fun _ _=>rfl)))
    (ai
     (bO PassesOwn.never rfl (iX rfl T.mT (af (aA b6 (aA cE (pv 0) aq) aq) ak)) (aD (i:=4) lX.nd rfl (Or.inl rfl))
      (ao
       (aB (i:=3) lX.nd rfl (Or.inl rfl) (aA bz (pv 3) (cf vt (pv 2) (aA b6 (aA cE (pv 0) (aA bR aq (aA fM aq (pv 4)))) aq) (fun _ _=>rfl))))))
    (ao
     (aE (pv 3))))))))),?_⟩
  refine⟨_,rfl,_,_,rfl,rfl,(by show (0 :Int) <2;decide),rfl,_,rfl,fu (fun _=>?_) fun _=>?_⟩
  ·have b0:0≤n/2%10:=Int.emod_nonneg _ (by decide)
   have b1:n/2%10<10:=Int.emod_lt_of_pos _ (by decide)
   obtain⟨v,hv,KZ⟩:=vB (xs:=S5.map V.str) b0 b1
   obtain⟨k,hk,rfl⟩:=List.mem_map.mp hv
   have ek:(⟨k.cps.toList.toArray⟩:Str)=k:=mU (by simp)
   have okk:=O3 (List.all_eq_true.mp O4 k hk)
   have q':∀l (hl:H l=none),Q (.str k) (upd H l (.lst (S5.map V.str))):=fun l hl=>by
    have:=q k.cps.toList _ okk (au.new (o:= .lst (S5.map V.str)) hl)
    rwa [ek] at this
   exact⟨(by show 10≤sizeLine;decide),fun l hl=>⟨_,rfl,_,_,rfl,rfl,⟨by decide,by decide⟩,_,_,rfl,rfl,(by show (0 :Int) <10;decide),l,S5.map V.str,_,_,rfl,rfl,bJ.of aa,KZ,q' l hl⟩⟩
  ·have b0:0≤n/2%26:=Int.emod_nonneg _ (by decide)
   have b1:n/2%26<26:=Int.emod_lt_of_pos _ (by decide)
   have b2:0≤n/2/26%3:=Int.emod_nonneg _ (by decide)
   have b3:n/2/26%3<3:=Int.emod_lt_of_pos _ (by decide)
   obtain⟨c,hc,KZ⟩:=vB (xs:=great.cps.toList) b0 (by rw[D0];exact b1)
   have gc:=List.all_eq_true.mp D5 c hc
   refine⟨_,rfl,_,_,rfl,rfl,⟨by decide,by decide⟩,_,rfl,_,rfl,_,_,rfl,rfl,(by show (0 :Int) <26;decide),great,_,c,rfl,rfl,(by decide+kernel),KZ,?_⟩
   refine⟨_,rfl,_,_,rfl,rfl,⟨by decide,by decide⟩,_,_,rfl,rfl,(by show (0 :Int) <3;decide),_,rfl,by omega,by omega,
    nO (fun i σ H'=>∃(r:List Nat) (v:Option V),σ=[some (.int (n/2)),some (.str great),some (.str small),some (.str ⟨(c::r).toArray⟩),v]∧r.all ES=true∧r.length≤i∧H'=H) ⟨[],none,rfl,rfl,Nat.le_refl _,rfl⟩ ?_ ?_⟩
   ·rintro i σ H' hi ⟨r,v,rfl,ha,hk,rfl⟩
    have c0:0≤n/2/(78+1950*(0+(i:Int))) %26:=Int.emod_nonneg _ (by decide)
    have c1:n/2/(78+1950*(0+(i:Int))) %26<26:=Int.emod_lt_of_pos _ (by decide)
    obtain⟨c2,hc2,O5⟩:=vB (xs:=small.cps.toList) c0 (by rw[D4];exact c1)
    have sc2:=List.all_eq_true.mp D6 c2 hc2
    have l2:(⟨#[c2]⟩:Str).length=1:=rfl
    have big:(100 :Nat)≤sizeLine:=by decide
    have e2:(⟨(c::r).toArray⟩:Str)++⟨#[c2]⟩=⟨(c::(r++[c2])).toArray⟩:=bF (c::r) [c2]
    refine⟨_,rfl,_,rfl,_,rfl,_,rfl,_,_,rfl,rfl, .inl ⟨by decide,by decide⟩,_,_,rfl,rfl,_,_,rfl,rfl,⟨by omega,by omega⟩,_,_,rfl,rfl,(by show (0 :Int) <26;decide),small,_,c2,rfl,rfl,(by decide+kernel),O5,_,_,rfl,rfl,?_,r++[c2],some (.int (0+(i:Int))),?_,?_,?_,rfl⟩
    ·rw[bq,l2,List.length_cons]
     omega
    ·rw[←e2]
     rfl
    ·rw[List.all_append,ha]
     simpa using sc2
    ·rw[List.length_append]
     show r.length+1≤i+1
     omega
   ·rintro σ H' ⟨r,v,rfl,ha,hk,rfl⟩
    exact⟨_,rfl,q (c::r) _ ⟨c,r,rfl,gc,ha,by omega⟩ (au.refl _)⟩
variable {uC uP uI uD uL uT:Tok}
theorem K0:ay ["self","parts","count"] ["self","parts","count"] (aj fN):=dA
theorem GL(D:lz K G "Group.__init__" fN ["self","parts","count"] [1])(T:lB K mg C R G Pc Fo uK uN uB uE uM uC uP uI uD uL uT):gE P w K mg base 1 G ["self","parts","count"] [1] (m6 G):=by
 refine D.dh K0 (fun vs H Q E h=>?_) (fun f bp A outer s H vs Q E hr h=>?_)
 ·obtain⟨p,dx,l,c,xs,rfl,_⟩:=h
  rfl
 ·obtain⟨p,dx,l,c,xs,rfl,hp,hl,q⟩:=h
  refine⟨_,(ai
     (eI (pv 0) (bI fq rfl T.n_list jk (af (pv 1) ak)) rfl)
    (ao
     (eI (pv 0) (pv 2) rfl))),?_⟩
  refine⟨_,rfl,l,xs,rfl, .inl (bJ.of hl),fun n hn=>?_⟩
  have zy:p≠n:=ag hp hn
  refine⟨_,rfl,p,G,dx,[],rfl,(by rw[ah zy];exact hp),T.eG,T.oh,(by show 0<1000;decide),_,rfl,_,rfl,p,G,dx,_,rfl,aa,T.eG,T.oj,(by show 1<1000;decide),?_⟩
  refine q n _ hn aa (by rw[ah (Ne.symm zy),ah (Ne.symm zy),aa]) fun b o e hb=>?_
  rw[ah hb,ah hb,ah (ag e hn)]
  exact e
theorem K1:ay ["self","parts","count"] ["self","parts","count"] (aj fO):=dA
theorem GN(D:lz K Pc "Piece.__init__" fO ["self","parts","count"] [1])(T:lB K mg C R G Pc Fo uK uN uB uE uM uC uP uI uD uL uT):gE P w K mg base 1 Pc ["self","parts","count"] [1] (m6 Pc):=by
 refine D.dh K1 (fun vs H Q E h=>?_) (fun f bp A outer s H vs Q E hr h=>?_)
 ·obtain⟨p,dx,l,c,xs,rfl,_⟩:=h
  rfl
 ·obtain⟨p,dx,l,c,xs,rfl,hp,hl,q⟩:=h
  refine⟨_,(ai
     (eI (pv 0) (bI fq rfl T.n_list jk (af (pv 1) ak)) rfl)
    (ao
     (eI (pv 0) (pv 2) rfl))),?_⟩
  refine⟨_,rfl,l,xs,rfl, .inl (bJ.of hl),fun n hn=>?_⟩
  have zy:p≠n:=ag hp hn
  refine⟨_,rfl,p,Pc,dx,[],rfl,(by rw[ah zy];exact hp),T.dq,T.oo,(by show 0<1000;decide),_,rfl,_,rfl,p,Pc,dx,_,rfl,aa,T.dq,T.oq,(by show 1<1000;decide),?_⟩
  refine q n _ hn aa (by rw[ah (Ne.symm zy),ah (Ne.symm zy),aa]) fun b o e hb=>?_
  rw[ah hb,ah hb,ah (ag e hn)]
  exact e
theorem K2:ay ["self","pieces","charge"] ["self","pieces","charge"] (aj fP):=dA
theorem GO(D:lz K Fo "Formula.__init__" fP ["self","pieces","charge"] [0])(T:lB K mg C R G Pc Fo uK uN uB uE uM uC uP uI uD uL uT):gE P w K mg base 1 Fo ["self","pieces","charge"] [0] (wA Fo):=by
 refine D.dh K2 (fun vs H Q E h=>?_) (fun f bp A outer s H vs Q E hr h=>?_)
 ·obtain⟨p,dx,l,c,xs,rfl,_⟩:=h
  rfl
 ·obtain⟨p,dx,l,c,xs,rfl,hp,hl,q⟩:=h
  refine⟨_,(ai
     (eI (pv 0) (bI fq rfl T.n_list jk (af (pv 1) ak)) rfl)
    (ao
     (eI (pv 0) (pv 2) rfl))),?_⟩
  refine⟨_,rfl,l,xs,rfl, .inl (bJ.of hl),fun n hn=>?_⟩
  have zy:p≠n:=ag hp hn
  refine⟨_,rfl,p,Fo,dx,[],rfl,(by rw[ah zy];exact hp),T.bM,T.jx,(by show 0<1000;decide),_,rfl,_,rfl,p,Fo,dx,_,rfl,aa,T.bM,T.lU,(by show 1<1000;decide),?_⟩
  refine q n _ hn aa (by rw[ah (Ne.symm zy),ah (Ne.symm zy),aa]) fun b o e hb=>?_
  rw[ah hb,ah hb,ah (ag e hn)]
  exact e
structure TxtP(K:PySem.W.Frag)(mg:Str→Option Value)(C:Addr):Prop extends pD K mg C where
 ko:mg "dict" =none
 GA:mg "abs" =none
def br:Nat→Int→Tr→List (Str×Int)
 |_,m, .one k n=>[(⟨k.toArray⟩,n*m)]
 |0,_, .gr _ _=>[]
 |d+1,m, .gr ts n=>ts.flatMap (br d (n*m))
def cD(d:Nat)(x:jP):List (Str×Int):=x.2.flatMap (br d x.1)
def cW(d:Nat)(xs:List jP):List (Key×V):=a9 1 [] (xs.flatMap (cD d))
def D7(ts:List Tr):Prop:=ts≠[]∧(∀t∈ts,uc 1 t)∧(ts.flatMap (ck 1)).length≤23∧(ts.flatMap (br 1 1)).length≤5
theorem nh:∀(l acc:List (Key×V)),((acc++l).map (·.1)).Nodup→cq acc l=acc++l
 | [],acc,_=>by rw[List.append_nil];rfl
 |p::r,acc,h=>by
  have hn:bW acc p.1=none:=by
   cases e:bW acc p.1 with
   |none=>rfl
   |some x=>
    rw[List.map_append,List.nodup_append] at h
    exact absurd rfl (h.2.2 _ (pJ e) p.1 (by simp))
  show cq (putK acc p.1 p.2) r=_
  rw[mh _ hn,nh r (acc++[(p.1,p.2)]) (by rw[List.append_assoc];exact h),List.append_assoc]
  rfl
theorem pZ(c:Int):∀(as:List (Str×Int)) (acc:List (Key×V)),a9 1 acc (as.map fun p=>(p.1,p.2*c))=a9 c acc as
 | [],_=>rfl
 |p::r,acc=>by
  show a9 1 (cC acc (Sum.inr p.1) (p.2*c*1)) (r.map fun p=>(p.1,p.2*c))=a9 c (cC acc (Sum.inr p.1) (p.2*c)) r
  rw[Int.mul_one,pZ c r]
theorem uy{D:List (Key×V)}(hI:bu D)(hn:(D.map (·.1)).Nodup)(c:Int):(D.map fun p=>(p.1,V.int (c*aM D p.1)))=scale c D:=by
 unfold scale
 apply List.map_congr_left
 intro p hp
 have e:=hI.look (fw hn hp)
 show (p.1,V.int (c*aM D p.1))=(p.1,DB c p.2)
 rw[e]
 show _=(p.1,V.int (aM D p.1*c))
 rw[Int.mul_comm]
abbrev BN:=List (List Nat×Int)
def aT(a:List Nat×Int):Tr:= .one a.1 a.2
def oB(as:BN):List (Str×Int):=as.map fun a=>((⟨a.1.toArray⟩:Str),a.2)
def GP(as:BN):Prop:=∀a∈as,lT a.1∧1≤a.2∧a.2≤999
theorem lY(d:Nat)(m:Int)(as:BN):(as.map aT).flatMap (br d m)=(oB as).map fun p=>(p.1,p.2*m):=by
 unfold oB
 induction as with
 |nil=>rfl
 |cons a r ih=>
  rw[List.map_cons,List.flatMap_cons,ih,List.map_cons,List.map_cons]
  have e:br d m (aT a)=[((⟨a.1.toArray⟩:Str),a.2*m)]:=by cases d<;>rfl
  rw[e]
  rfl
theorem oC(d:Nat)(as:BN):(as.map aT).flatMap (ck d)=as.flatMap fun a=>a.1++aP a.2:=by
 induction as with
 |nil=>rfl
 |cons a r ih=>
  rw[List.map_cons,List.flatMap_cons,ih,List.flatMap_cons]
  have e:ck d (aT a)=a.1++aP a.2:=by cases d<;>rfl
  rw[e]
theorem rF{n:Int}(h:1≤n)(h':n≤999):(aP n).length≤3:=by
 have:=g9 h h'
 rw[de,bq] at this
 exact this
theorem GQ{n:Int}(h:1≤n)(h':n≤99):(aP n).length≤2:=by
 obtain⟨m,rfl⟩:=Int.eq_ofNat_of_zero_le (show 0≤n by omega)
 have:=kS (n:=m) (k:=2) (by decide) (by omega)
 rw[de,bq] at this
 exact this
theorem rG{k:List Nat}(h:lT k):k.length≤3:=by
 obtain⟨c,r,rfl,_,_,h3⟩:=h
 rw[List.length_cons]
 omega
theorem kY{as:BN}(h:GP as):(as.flatMap fun a=>a.1++aP a.2).length≤6*as.length:=by
 induction as with
 |nil=>exact Nat.zero_le _
 |cons a r ih=>
  have h1:=h a (List.mem_cons_self ..)
  have h2:=ih fun b hb=>h b (List.mem_cons_of_mem _ hb)
  have h3:=rG h1.1
  have h4:=rF h1.2.1 h1.2.2
  rw[List.flatMap_cons,List.length_append,List.length_append,List.length_cons]
  omega
theorem yw{as:BN}(h:GP as)(d:Nat):∀t∈as.map aT,uc d t:=by
 intro t ht
 obtain⟨a,ha,rfl⟩:=List.mem_map.mp ht
 have:=h a ha
 cases d<;>exact this
theorem GR{as:BN}(h:GP as)(h1:1≤as.length)(h3:as.length≤3):D7 (as.map aT):=by
 refine⟨?_,yw h 1,?_,?_⟩
 ·intro z
  have:=congrArg List.length z
  rw[List.length_map,List.length_nil] at this
  omega
 ·rw[oC]
  have:=kY h
  omega
 ·rw[lY,List.length_map]
  unfold oB
  rw[List.length_map]
  omega
theorem ME(as:BN):cW 1 [(1,as.map aT)]=a9 1 [] (oB as):=by
 show a9 1 [] ((as.map aT).flatMap (br 1 1)++[])=_
 rw[List.append_nil,lY,pZ]
theorem MF(as:BN)(c:Int):([Tr.gr (as.map aT) c].flatMap (ck 1))=40::((as.flatMap fun a=>a.1++aP a.2)++41::aP c):=by
 rw[List.flatMap_cons,List.flatMap_nil,List.append_nil]
 show 40::((as.map aT).flatMap (ck 0)++41::aP c)=_
 rw[oC]
theorem MG(as:BN)(c:Int):([Tr.gr (as.map aT) c].flatMap (br 1 1))=(oB as).map fun p=>(p.1,p.2*(c*1)):=by
 rw[List.flatMap_cons,List.flatMap_nil,List.append_nil]
 show (as.map aT).flatMap (br 0 (c*1))=_
 rw[lY]
theorem O6{as:BN}(h:GP as)(h1:1≤as.length)(h3:as.length≤3){c:Int}(c1:1≤c)(c2:c≤999):D7 [.gr (as.map aT) c]:=by
 refine⟨by simp,fun t ht=>?_,?_,?_⟩
 ·have e:t= .gr (as.map aT) c:=by simpa using ht
  subst e
  exact⟨(GR h h1 h3).1,yw h 0,c1,c2⟩
 ·rw[MF]
  have:=kY h
  have:=rF c1 c2
  simp only [List.length_cons,List.length_append]
  omega
 ·rw[MG,List.length_map]
  unfold oB
  rw[List.length_map]
  omega
theorem MH(as:BN)(c:Int):cW 1 [(1,[.gr (as.map aT) c])]=scale c (a9 1 [] (oB as)):=by
 show a9 1 [] ([Tr.gr (as.map aT) c].flatMap (br 1 1)++[])=_
 rw[List.append_nil,MG,pZ,tX 1 c _ [] (fun p hp=>by cases hp),Int.mul_one,Int.one_mul]
 rfl
theorem bu.f6{kvs:List (Key×V)}(h:bu kvs){k:Key}{v:V}(hm:(k,v)∈kvs):bW kvs k=some (.int (aM kvs k)):=by
 cases f:bW kvs k with
 |none=>exact absurd (List.mem_map_of_mem (f:=(·.1)) hm) (ml f)
 |some x=>rw[h.look f]
theorem none_back{H H':Hp}{D:Addr}(e:au H H')(h:H' D=none):H D=none:=by
 cases hh:H D with
 |none=>rfl
 |some o=>rw[e _ _ hh] at h;cases h
theorem take_snoc{α:Type}{l:List α}{i:Nat}{a:α}(h:l[i]? =some a):l.take (i+1)=l.take i++[a]:=by
 rw[List.take_add_one,h]
 rfl
theorem MI:(⟨(([]:BN).flatMap fun a=>a.1++aP a.2).toArray⟩:Str)="" :=by decide+kernel
abbrev Fm:=List jP×Int
def fL(x:Fm):List Nat:=wL 1 x.1 x.2
def cV(x:Fm):Prop:=KQ 1 x.1 x.2∧(fL x).length≤33∧(x.1.flatMap (cD 1)).length≤7
def yx(H:Hp)(t:Addr)(x:Fm):Prop:=∃d,H t=some (.tup [.str ⟨(fL x).toArray⟩, .ref d, .int x.2])∧H d=some (.dK (cW 1 x.1))
theorem yx.same{H H':Hp}{t:Addr}{x:Fm}(h:yx H t x)(e:au H H'):yx H' t x:=let ⟨d,h1,h2⟩:=h;⟨d,e _ _ h1,e _ _ h2⟩
theorem O7(n:Int):zO [V.str "-",V.str "+"] (if decide (n>0)=true then 1 else 0)=some (V.str (if 0<n then ("+" :Str) else ("-" :Str))):=by
 by_cases h:0<n
 ·rw[if_pos (decide_eq_true h),if_pos h]
  rfl
 ·rw[if_neg (by simpa using h),if_neg h]
  rfl
theorem K4{n:Int}(e:¬n=0):(⟨(i9 n).toArray⟩:Str)="^" ++eY (if n<0 then -n else n)++(if 0<n then ("+" :Str) else ("-" :Str)):=by
 unfold i9
 rw[if_neg e,de,S0,e43,S1]
 rw[show (⟨#[94]⟩:Str)=⟨[94].toArray⟩ from rfl,bF]
 by_cases hp:0<n
 ·rw[if_pos hp,if_pos hp,show (⟨#[43]⟩:Str)=⟨[43].toArray⟩ from rfl,bF]
  simp
 ·rw[if_neg hp,if_neg hp,show (⟨#[45]⟩:Str)=⟨[45].toArray⟩ from rfl,bF]
  simp
theorem S6{xs:List jP}(h:xs≠[])(n:Int):wL 1 xs n=wL 1 xs 0++i9 n:=by
 cases xs with
 |nil=>exact absurd rfl h
 |cons x r=>
  show x.2.flatMap (ck 1)++(cU 1 r++i9 n)=x.2.flatMap (ck 1)++(cU 1 r++[])++i9 n
  rw[List.append_nil,List.append_assoc]
def Y8(xs:List jP):Prop:=xs≠[]∧(∀n, -999≤n→n≤999→KQ 1 xs n)∧(wL 1 xs 0).length≤29∧(xs.flatMap (cD 1)).length≤7
theorem S7:aP 1=[]:=by decide+kernel
theorem S8(ts:List Tr):wL 1 [(1,ts)] 0=ts.flatMap (ck 1):=by
 show ts.flatMap (ck 1)++([]++[])=_
 simp
theorem GS{ts:List Tr}(h:D7 ts):Y8 [(1,ts)]:=by
 obtain⟨h1,h2,h3,h4⟩:=h
 refine⟨by simp,fun n n1 n2=>⟨rfl,fun x hx=>?_,n1,n2⟩,?_,?_⟩
 ·have e:x=(1,ts):=by simpa using hx
  subst e
  exact⟨h1,h2,(by show (1 :Int)≤1;decide),(by show (1 :Int)≤999;decide)⟩
 ·rw[S8]
  omega
 ·show (ts.flatMap (br 1 1)++[]).length≤7
  rw[List.append_nil]
  omega
theorem MJ{xs:List jP}(h:Y8 xs){n:Int}(n1: -99≤n)(n2:n≤99):cV (xs,n):=by
 obtain⟨h1,h2,h3,h4⟩:=h
 refine⟨h2 n (by omega) (by omega),?_,h4⟩
 show (wL 1 xs n).length≤33
 rw[S6 h1,List.length_append]
 have:(i9 n).length≤4:=by
  unfold i9
  split
  ·exact Nat.zero_le _
  ·have:=GQ (n:=if n<0 then -n else n) (by split<;>omega) (by split<;>omega)
   rw[List.length_cons,List.length_append]
   show _+1+1≤4
   omega
 omega
theorem wJ(xs:List jP):bu (cW 1 xs):=iB 1 _ _ fun p hp=>by cases hp
theorem Az{xs:List jP}{m:Nat}(h:(xs.flatMap (cD 1)).length≤m):(cW 1 xs).length≤m:=by
 have:=iC 1 (xs.flatMap (cD 1)) []
 rw[List.length_nil] at this
 unfold cW
 omega
abbrev Tm:=Int×Fm
def dZ(H:Hp)(t:Addr)(x:Tm):Prop:=∃f,H t=some (.tup [.int x.1, .ref f])∧yx H f x.2
def oE(B:Int)(x:Tm):Prop:=1≤x.1∧x.1≤B∧cV x.2
theorem dZ.same{H H':Hp}{t:Addr}{x:Tm}(h:dZ H t x)(e:au H H'):dZ H' t x:=let ⟨f,h1,h2⟩:=h;⟨f,e _ _ h1,h2.same e⟩
theorem dZ.but{D:Addr}{H H':Hp}{ys:List V}{t:Addr}{x:Tm}(hD:H D=some (.lst ys))(e:∀b o,H b=some o→b≠D→H' b=some o)(h:dZ H t x):dZ H' t x:=by
 obtain⟨f,h1,d,h2,h3⟩:=h
 exact⟨f,e _ _ h1 (cG h1 hD (by intro z;cases z)),d,e _ _ h2 (cG h2 hD (by intro z;cases z)),e _ _ h3 (cG h3 hD (by intro z;cases z))⟩
def bT(H:Hp)(l:Addr)(xs:List Tm):Prop:=∃ts,H l=some (.lst (ts.map V.ref))∧Paired (dZ H) ts xs
theorem bT.same{H H':Hp}{l:Addr}{xs:List Tm}(h:bT H l xs)(e:au H H'):bT H' l xs:=let ⟨ts,h1,h2⟩:=h;⟨ts,e _ _ h1,aw (fun _ _ z=>z.same e) h2⟩
theorem o7{α β:Type}{R:α→β→Prop}:∀{as:List α} {bs:List β} (k:Nat),Paired R as bs→Paired R (as.take k) (bs.take k)
 |_,_,0,_=> .nil
 |_,_,_+1, .nil=> .nil
 |_,_,k+1, .cons h t=> .cons h (o7 k t)
theorem o8{α β:Type}{R:α→β→Prop}:∀{as:List α} {bs:List β} (k:Nat),Paired R as bs→Paired R (as.drop k) (bs.drop k)
 |_,_,0,h=>h
 |_,_,_+1, .nil=> .nil
 |_,_,k+1, .cons _ t=>o8 k t
variable {uC uP uI uD uL uT:Tok}
theorem BO{n:Int}(h0:0≤n)(h:n<10^50):(toString n:Str).length≤50:=by
 rw[PySem.ofString_length]
 obtain⟨m,rfl⟩:=Int.eq_ofNat_of_zero_le h0
 show (Nat.repr m).length≤50
 rw[Nat.length_repr_le_iff (by decide)]
 omega
theorem K5{n:Int}(h0:0≤n)(h:n<10^50):n.natAbs.log2<1920:=by
 by_cases e:n.natAbs=0
 ·rw[e];decide
 ·have:=(Nat.log2_lt e (k:=170)).mpr (by omega)
  omega
def rH(x:Tm):Str:=if x.1=1 then ⟨(fL x.2).toArray⟩ else (toString x.1 :Str)++" " ++⟨(fL x.2).toArray⟩
def o9(xs:List Tm):Str:=Txt.join " + " (xs.map rH)
theorem BP{B:Int}(hB:B≤10^40){x:Tm}(h:oE B x):(rH x).length≤100:=by
 obtain⟨h1,h2,_,h3,_⟩:=h
 unfold rH
 split
 ·rw[bq]
  omega
 ·have:=BO (n:=x.1) (by omega) (by omega)
  have l1:(" " :Str).length=1:=by decide+kernel
  rw[bA,bA,bq,l1]
  exact Nat.le_trans (Nat.add_le_add (Nat.add_le_add_right this 1) h3) (by decide)
theorem yy{H:Hp}:∀{ts:List Addr} {xs:List Tm} {i:Nat} {x:V},Paired (dZ H) ts xs→(ts.map V.ref)[i]? =some x→∃t y,x= .ref t∧xs[i]? =some y∧dZ H t y
 |_,_,_,_, .nil,h=>by simp at h
 |_,_,0,_, .cons h _,e=>⟨_,_,(Option.some.inj e).symm,rfl,h⟩
 |_,_,i+1,_, .cons _ t,e=>yy (i:=i) t e
variable {uC uP uI uD uL uT fb fe fg:Tok}{Ch:Addr}
structure GU(K:PySem.W.Frag)(mg:Str→Option Value)(C R G Pc Fo Ch:Addr)(uK uN uB uE uM uC uP uI uD uL uT fb fe fg:Tok):Prop extends lB K mg C R G Pc Fo uK uN uB uE uM uC uP uI uD uL uT,TxtP K mg C where
 b5:tf K Ch
 hV:cH K Ch "lefts"
 i':cH K Ch "rights"
 GV:mg "Change" =some (.ref Ch)
 K6:mg "BLANK" =some (.str " " fb)
 BQ:mg "JOINT" =some (.str " + " fe)
 BR:mg "ARROW" =some (.str " -> " fg)
def jz(C G Pc Fo:Addr)(H:Hp)(t:Addr)(x:Tm):Prop:=∃f,H t=some (.tup [.int x.1, .ref f])∧o5 C G Pc Fo 1 H f x.2.1 x.2.2
def hX(C G Pc Fo:Addr)(H:Hp)(l:Addr)(xs:List Tm):Prop:=∃ts,H l=some (.lst (ts.map V.ref))∧Paired (jz C G Pc Fo H) ts xs
theorem jz.same{C G Pc Fo:Addr}{H H':Hp}{t:Addr}{x:Tm}(h:jz C G Pc Fo H t x)(e:au H H'):jz C G Pc Fo H' t x:=let ⟨f,h1,h2⟩:=h;⟨f,e _ _ h1,h2.same e⟩
theorem hX.same{C G Pc Fo:Addr}{H H':Hp}{l:Addr}{xs:List Tm}(h:hX C G Pc Fo H l xs)(e:au H H'):hX C G Pc Fo H' l xs:=let ⟨ts,h1,h2⟩:=h;⟨ts,e _ _ h1,aw (fun _ _ z=>z.same e) h2⟩
theorem Y3:¬(("lefts" :Str)="rights"):=by decide+kernel
def pb(l r:Addr):List (Str×V):=cL "rights" (.ref r) (cL "lefts" (.ref l) [])
theorem eR(l r:Addr):(pb l r).lookup ("lefts" :Str)=some (.ref l):=by
 unfold pb
 rw[aG,if_neg Y3,aG,if_pos rfl]
theorem gQ(l r:Addr):(pb l r).lookup ("rights" :Str)=some (.ref r):=by
 unfold pb
 rw[aG,if_pos rfl]
theorem yz(l r:Addr){m:Str}(h1:¬m="rights")(h2:¬m="lefts"):(pb l r).lookup m=none:=by
 unfold pb
 rw[aG,if_neg h1,aG,if_neg h2]
 all_goals rfl
inductive GW(Ch:Addr)(vs:List V)(H:Hp)(Q:VK)(E:XK):Prop
 |mk (p dx l r:Addr) (xs ys:List V) (dR:vs=[.ref p, .ref l, .ref r]) (dS:H p=some (.ins Ch dx [])) (dW:H l=some (.lst xs)) (eZ:H r=some (.lst ys)) (gz:∀n m H',H n=none→H m=none→n≠m→H' p=some (.ins Ch dx (pb n m))→H' n=some (.lst xs)→H' m=some (.lst ys)→(∀b o,H b=some o→b≠p→H' b=some o)→Q .cS H')
def BS(Ch:Addr):Sp:=GW Ch
theorem K7:ay ["self","lefts","rights"] ["self","lefts","rights"] (aj vQ):=dA
theorem GX(D:lz K Ch "Change.__init__" vQ ["self","lefts","rights"] [])(T:GU K mg C R G Pc Fo Ch uK uN uB uE uM uC uP uI uD uL uT fb fe fg):gE P w K mg base 1 Ch ["self","lefts","rights"] [] (BS Ch):=by
 refine D.dh K7 (fun vs H Q E h=>?_) (fun f bp A outer s H vs Q E hr h=>?_)
 ·obtain⟨p,dx,l,r,xs,ys,rfl,_⟩:=h
  rfl
 ·obtain⟨p,dx,l,r,xs,ys,rfl,hp,hl,Jy,q⟩:=h
  refine⟨_,(ai
     (eI (pv 0) (bI fq rfl T.n_list jk (af (pv 1) ak)) rfl)
    (ao
     (eI (pv 0) (bI fq rfl T.n_list jk (af (pv 2) ak)) rfl))),?_⟩
  refine⟨_,rfl,l,xs,rfl, .inl (bJ.of hl),fun n hn=>?_⟩
  have zy:p≠n:=ag hp hn
  have npr:r≠p:=cG Jy hp (by intro z;cases z)
  refine⟨_,rfl,p,Ch,dx,[],rfl,(by rw[ah zy];exact hp),T.b5,T.hV,(by show 0<1000;decide),?_⟩
  refine⟨_,rfl,r,ys,rfl, .inl (bJ.of (by rw[ah npr,ah (ag Jy hn)];exact Jy)),fun m hm=>?_⟩
  have nmp:p≠m:=ag aa hm
  have S9:n≠m:=fun z=>by rw[←z,ah (Ne.symm zy),aa] at hm;cases hm
  have Y9:H m=none:=by rwa [ah (Ne.symm nmp),ah (Ne.symm S9)] at hm
  refine⟨_,rfl,p,Ch,dx,_,rfl,(by rw[ah nmp];exact aa),T.b5,T.i',(by show 1<1000;decide),?_⟩
  refine q n m _ hn Y9 S9 aa ?_ ?_ fun b o e hb=>?_
  ·rw[ah (Ne.symm zy),ah S9,ah (Ne.symm zy),aa]
  ·rw[ah (Ne.symm nmp),aa]
  ·rw[ah hb,ah (ag e Y9),ah hb,ah (ag e hn)]
   exact e
def dC(C G Pc Fo Ch:Addr)(H:Hp)(c:Addr)(xs ys:List Tm):Prop:=∃dx l r,H c=some (.ins Ch dx (pb l r))∧hX C G Pc Fo H l xs∧hX C G Pc Fo H r ys
theorem dC.same{C G Pc Fo Ch:Addr}{H H':Hp}{c:Addr}{xs ys:List Tm}(h:dC C G Pc Fo Ch H c xs ys)(e:au H H'):dC C G Pc Fo Ch H' c xs ys:=let ⟨dx,l,r,h1,h2,h3⟩:=h;⟨dx,l,r,e _ _ h1,h2.same e,h3.same e⟩
def Y'(xs ys:List Tm):Str:=o9 xs++" -> " ++o9 ys
theorem uz{xs:List Tm}(aV:∀x∈xs,oE (10^40) x)(h10:xs.length≤10):(o9 xs).length≤2000:=by
 unfold o9
 have e:=PyProof.Rows.join_closes (sep:=" + ") (sep':=" + ") (ys:=xs.map rH) rfl
 rw[show Txt.join " + " (xs.map rH)=Str.join " + " (xs.map rH) by simpa using e]
 have l3:(" + " :Str).length=3:=by decide+kernel
 have key:∀ys:List Str,(∀y∈ys,y.length≤100)→(Str.join " + " ys).length≤103*ys.length:=by
  intro ys
  induction ys with
  |nil=>intro _;exact Nat.zero_le _
  |cons y r ih=>
   intro h
   have h1:=h y (List.mem_cons_self ..)
   have h2:=ih fun z hz=>h z (List.mem_cons_of_mem _ hz)
   cases r with
   |nil=>
    show y.length≤103*1
    omega
   |cons z r'=>
    show (y++" + " ++Str.join " + " (z::r')).length≤_
    rw[bA,bA,l3,List.length_cons]
    omega
 have:=key (xs.map rH) fun y hy=>by
  obtain⟨x,hx,rfl⟩:=List.mem_map.mp hy
  exact BP (Int.le_refl _) (aV x hx)
 rw[List.length_map] at this
 omega
variable {uC uP uI uD uL uT:Tok}
theorem rJ(c:Int):∀(d:Nat) (m:Int) (t:Tr),br d (m*c) t=(br d m t).map fun p=>(p.1,p.2*c)
 |d,m, .one k n=>by
  have e1:br d (m*c) (.one k n)=[(⟨k.toArray⟩,n*(m*c))]:=by cases d<;>rfl
  have e2:br d m (.one k n)=[(⟨k.toArray⟩,n*m)]:=by cases d<;>rfl
  rw[e1,e2,List.map_cons,List.map_nil,Int.mul_assoc]
 |0,_, .gr _ _=>rfl
 |d+1,m, .gr ts n=>by
  show ts.flatMap (br d (n*(m*c)))=(ts.flatMap (br d (n*m))).map _
  rw[List.map_flatMap,←Int.mul_assoc]
  congr 1
  funext t
  exact rJ c d (n*m) t
theorem BU(t:Int)(acc:List (Key×V))(as bs:List (Str×Int)):a9 t acc (as++bs)=a9 t (a9 t acc as) bs:=by
 unfold a9
 rw[List.foldl_append]
theorem GY(t:Int){acc:List (Key×V)}(hI:bu acc)(hn:(acc.map (·.1)).Nodup)(d:Nat)(x:Tr):
  iP t acc (a9 1 [] (br d 1 x)) (a9 1 [] (br d 1 x))=a9 1 acc (br d t x):=by
 have e:=rJ t d 1 x
 rw[Int.one_mul] at e
 rw[wo t 1 (br d 1 x) hI hn,Int.one_mul,e,pZ]
theorem GZ:bu []:=fun p hp=>by cases hp
theorem mul_int(c:Int)(all:List (Key×V)):∀(l acc:List (Key×V)),bu acc→bu (iP c acc l all)
 | [],_,h=>h
 |_::r,_,h=>mul_int c all r _ (h.add _ _)
theorem wK(c:Int)(all:List (Key×V)):∀(l acc:List (Key×V)),(iP c acc l all).length≤acc.length+l.length
 | [],_=>Nat.le_refl _
 |p::r,acc=>by
  have h1:=wK c all r (cC acc p.1 (aM all p.1*c))
  have h2:(cC acc p.1 (aM all p.1*c)).length≤acc.length+1:=cp _ _ _
  show (iP c (cC acc p.1 (aM all p.1*c)) r all).length≤_
  rw[List.length_cons]
  omega
theorem kJ{n:Nat}(h:n≤1000):n<sizeLine:=Nat.lt_of_le_of_lt h (by decide)
theorem ni{H:Hp}{d e:Addr}{A F B E:HO}(nX:d≠e)(he:H e=some E):upd (upd (upd (upd H d A) e F) d B) e E=upd H d B:=by
 funext b
 by_cases h1:b=e
 ·subst h1
  rw[aa,ah (Ne.symm nX),he]
 ·rw[ah h1]
  by_cases h2:b=d
  ·subst h2
   rw[aa,aa]
  ·rw[ah h2,ah h1,ah h2,ah h2]
theorem yA(c:Int)(all acc:List (Key×V)){i:Nat}{p:Key×V}(h:all[i]? =some p):iP c acc (all.take (i+1)) all=cC (iP c acc (all.take i) all) p.1 (aM all p.1*c):=by
 unfold iP
 rw[take_snoc h,List.foldl_append]
 rfl
theorem rK{X:Cx}{D:Ends}{l d e:Addr}{t:Int}{v3 v5:Option V}{H:Hp}{acc gq:List (Key×V)}(hu:X.A.units+1<cLine)(hd:H d=some (.dK acc))(he:H e=some (.dK gq))(nX:d≠e)(hI:bu acc)(S':bu gq)(hl:acc.length+gq.length≤1000)(t1:1≤t)(t2:t≤999)
  (fin:∀z:Option V,D.nx [some (.ref l),some (.int t),some (.ref d),v3,some (.ref e),z] (upd H d (.dK (iP t acc gq gq)))):
  Fv X (NT (Fu X (jS 4)) (cN 5) (Fj (jS 2) (jS 5) (NU (Jt fun i j=> .int (i+j)) (zN (jS 2) (jS 5) (tC (.int 0))) (NU (rI JO fun i j=> .int (i*j)) (Fi (jS 4) (jS 5)) (jS 1))))) D [some (.ref l),some (.int t),some (.ref d),v3,some (.ref e),v5] H:=by
 refine⟨_,rfl,e,gq,rfl,he,fun o nf=>gg nf (fun j σ H'=>∃z:Option V,σ=[some (.ref l),some (.int t),some (.ref d),v3,some (.ref e),z]∧H'=upd H d (.dK (iP t acc (gq.take j) gq))) ?_ ?_ ?_ ?_⟩
 ·exact⟨v5,rfl,(eB hd).symm⟩
 ·rintro i σ H' ⟨_,_,rfl⟩
  rw[ah (Ne.symm nX)]
  exact he
 ·rintro i k v σ H' hi ⟨z,rfl,rfl⟩
  have nW:∀o',(upd (upd H d (.dK (iP t acc (gq.take i) gq))) e o') d=some (.dK (iP t acc (gq.take i) gq)):=fun o'=>by rw[ah nX];exact aa
  have hv:=S'.f6 (List.mem_of_getElem? hi)
  have G0:bu (iP t acc (gq.take i) gq):=mul_int t gq _ _ hI
  have hli:=wK t gq (gq.take i) acc
  have D8:(gq.take i).length≤gq.length:=List.length_take_le' _ _
  refine⟨_,rfl,d,rfl, .inl ⟨_, .inl (nW _)⟩,_,rfl,_,gI.k (k:=k) (nW _),_,rfl,_,rfl,e,V.int (aM gq k),rfl, .inl ⟨_,k, .inr ⟨o,aa⟩,rfl,hv.symm⟩,_,rfl,_,_,rfl,rfl, .inr ⟨by omega,by omega⟩,_,_,G0.at k,rfl,_,rfl,_,rfl,d,_,rfl,jh.k (k:=k) (nW _) (kJ ?_),?_⟩
  ·omega
  ·refine⟨by rw[ah (Ne.symm nX)];exact aa,some (kV k),rfl,?_⟩
   rw[ni nX he,yA t gq acc hi]
   rfl
 ·rintro σ H' ⟨z,rfl,rfl⟩
  rw[List.take_length]
  exact fin z
theorem dF:ay ["parts","times","total","part","inner","kind"] ["parts","times"] (aj i4):=dA
theorem G1:ay ["self"] ["self"] (aj pP):=dA
theorem D9(D:bg K C "counts" "Atom.counts" pP ["self"])(T:pD K mg C):aK P w K mg base 1 C "counts" ["self"] (qU C):=by
 refine D.dh G1 (fun vs H Q E h=>?_) (fun f bp A outer s H vs Q E hr h=>?_)
 ·obtain⟨p,k,n,rfl,_⟩:=h
  rfl
 ·obtain⟨p,k,n,rfl,⟨dx,hp⟩,q⟩:=h
  refine⟨_,(ao
     (aE (vo (qv (a5 (pv 0) rfl) (a5 (pv 0) rfl) vn) rfl rfl (by intro z;cases z) (by decide)))),?_⟩
  intro d hd
  have sx:∀o,(upd H d o) p=some (.ins C dx (wa k n)):=fun o=>by rw[ah (ag hp hd)];exact hp
  refine⟨_,rfl,p,C,dx,_,_,rfl,sx _,T.gA,T.wg,tW _ _,_,rfl,p,C,dx,_,_,rfl,sx _,T.gA,T.qV,qT _ _,aa,[(Sum.inr k, .int n)],rfl,(by show 1≤15;decide),?_⟩
  rw[jc]
  exact q d hd
def lZ(C G:Addr):Nat→Sp
 |0=>fun _ _ _ _=>False
 |d+1=>fun vs H Q _=>∃(g:Addr) (ts:List Tr) (n:Int),vs=[.ref g]∧eL C G (d+1) H g (.gr ts n)∧uc (d+1) (.gr ts n)∧(br (d+1) 1 (.gr ts n)).length≤400∧∀e H',H e=none→H' e=some (.dK (a9 1 [] (br (d+1) 1 (.gr ts n))))→au H H'→Q (.ref e) H'
inductive yB(C G:Addr)(d:Nat)(vs:List V)(H:Hp)(Q:VK)(E:XK):Prop
 |mk (l:Addr) (ps:List Addr) (ts:List Tr) (t:Int) (dR:vs=[.ref l, .int t]) (dS:H l=some (.lst (ps.map V.ref))) (dW:Paired (eL C G d H) ps ts) (eZ:(∀x∈ts,uc d x)) (gz:1≤t) (jb:t≤999) (nM:(ts.flatMap (br d t)).length≤400) (sy:∀e H',H e=none→H' e=some (.dK (a9 1 [] (ts.flatMap (br d t))))→au H H'→Q (.ref e) H')
def jA(C G:Addr)(d:Nat):Sp:=yB C G d
theorem Ea(d:Nat)(t:Int)(x:Tr):(br d t x).length=(br d 1 x).length:=by
 have e:=rJ t d 1 x
 rw[Int.one_mul] at e
 rw[e,List.length_map]
theorem wM{d:Nat}{t:Int}{ts:List Tr}{x:Tr}(h:x∈ts):(br d 1 x).length≤(ts.flatMap (br d t)).length:=by
 rw[←Ea d t x]
 obtain⟨as,bs,rfl⟩:=List.append_of_mem h
 rw[List.flatMap_append,List.flatMap_cons,List.length_append,List.length_append]
 omega
theorem K8(k:Str)(n:Int):a9 1 [] [(k,n*1)]=[(Sum.inr k, .int n)]:=by
 show putK [] (Sum.inr k) (.int (aM [] (Sum.inr k)+n*1*1))=_
 rw[show aM [] (Sum.inr k:Key)=0 from rfl,Int.zero_add,Int.mul_one,Int.mul_one]
 rfl
theorem sS{d:Nat}{t:Int}(ts:List Tr)(i:Nat):((ts.take i).flatMap (br d t)).length≤(ts.flatMap (br d t)).length:=by
 conv=>rhs;rw[←List.take_append_drop i ts,List.flatMap_append,List.length_append]
 omega
theorem iH(l:List (Str×Int)):((a9 1 [] l).map (·.1)).Nodup:=wc 1 l [] List.nodup_nil
theorem cI(l:List (Str×Int)):bu (a9 1 [] l):=iB 1 l [] GZ
theorem dN(l:List (Str×Int)):(a9 1 [] l).length≤l.length:=by
 have:=iC 1 l []
 rw[List.length_nil] at this
 omega
theorem pe(d:Nat)(D:Def K mg "parts_counts" "parts_counts" i4 ["parts","times"])(T:rf K mg C R G uK uN uB uE uM)(c1:aK P w K mg base 1 C "counts" ["self"] (qU C))(c2:aK P w K mg base (2*d+1) G "counts" ["self"] (lZ C G d)):bj P w K mg base (2*d+2) "parts_counts" ["parts","times"] (jA C G d):=by
 obtain⟨_,_,iT⟩:=c1
 obtain⟨_,_,ia⟩:=c2
 refine D.dh dF (fun vs H Q E h=>?_) (fun f bp A outer s H vs Q E hr h=>?_)
 ·obtain⟨l,ps,ts,t,rfl,_⟩:=h
  rfl
 ·obtain⟨l,ps,ts,t,rfl,hl,hP,aV,t1,t2,hz,q⟩:=h
  have hu:=dz hr
  have lp:ps.length=ts.length:=Paired.length hP
  refine⟨_,(ai
     (aB (i:=2) dF.nd rfl (Or.inl rfl) dw)
    (ai
     (bO PassesOwn.never rfl (bX (pv 0)) (aD (i:=3) dF.nd rfl (Or.inl rfl))
      (ai
       (aB (i:=4) dF.nd rfl (Or.inl rfl) (Fz (aN (pv 3) T.gA iT.m iT.ok (hr.mono (by omega)) iT.b .nil az) (aN (pv 3) T.eG ia.m ia.ok (hr.mono (by omega)) ia.b .nil az)))
      (ao
       (eF (bO PassesOwn.never rfl (dU (pv 4)) (aD (i:=5) dF.nd rfl (Or.inl rfl))
        (ao
         (cZ hu (pv 2) (pv 5) (aA bR (bZ hu (pv 2) (pv 5) aq ⟨rfl,rfl,rfl,rfl⟩) (aA fM (cY hu (pv 4) (pv 5) (fun _ _=>rfl)) (pv 1))) rfl)))))))
    (ao
     (aE (pv 2))))),?_⟩
  intro e0 sA
  refine⟨_,rfl,l,rfl,⟨_,bJ.of (au.new sA _ _ hl)⟩,c9 (K:=K) (a:=l) (xs:=ps.map V.ref) (fun i σ H'=>∃v u z:Option V,σ=[some (.ref l),some (.int t),some (.ref e0),v,u,z]∧au H H'∧H' e0=some (.dK (a9 1 [] ((ts.take i).flatMap (br d t))))) ?_ (fun i σ H' _ ⟨_,_,_,_,e,_⟩=>bJ.of (e _ _ hl)) ?_ ?_⟩
  ·exact⟨none,none,none,rfl,au.new sA,aa⟩
  ·rintro i v σ H' hi ⟨v',u,z,rfl,e,eQ⟩
   rw[List.getElem?_map] at hi
   obtain⟨p,hp,rfl⟩:∃p,ps[i]? =some p∧v=V.ref p:=by
    cases hh:ps[i]? with
    |none=>rw[hh] at hi;cases hi
    |some p=>rw[hh] at hi;exact⟨p,rfl,(Option.some.inj hi).symm⟩
   obtain⟨x,hx,hT⟩:=bo hP hp
   have hT:=hT.same e
   have lC:=aV x (List.mem_of_getElem? hx)
   have lx:=Nat.le_trans (wM (d:=d) (t:=t) (List.mem_of_getElem? hx)) hz
   have li:=Nat.le_trans (sS (d:=d) (t:=t) ts i) hz
   have jj:a9 1 [] ((ts.take (i+1)).flatMap (br d t))=iP t (a9 1 [] ((ts.take i).flatMap (br d t))) (a9 1 [] (br d 1 x)) (a9 1 [] (br d 1 x)):=by
    rw[GY t (cI _) (iH _),take_snoc hx,List.flatMap_append,List.flatMap_cons,List.flatMap_nil,List.append_nil,BU]
   have hlen:(a9 1 [] ((ts.take i).flatMap (br d t))).length+(a9 1 [] (br d 1 x)).length≤1000:=by
    have:=dN ((ts.take i).flatMap (br d t))
    have:=dN (br d 1 x)
    omega
   cases x with
   |one k n=>
    have MC:lT k∧1≤n∧n≤999:=by cases d<;>exact lC
    have hA:gy C H' p ⟨k.toArray⟩ n:=by cases d<;>exact hT
    have ef:br d 1 (.one k n)=[(⟨k.toArray⟩,n*1)]:=by cases d<;>rfl
    rw[ef,K8] at jj hlen
    obtain⟨dx,sx⟩:=id hA
    refine Or.inl ⟨_,rfl,p,dx,_,rfl,sx,Bu _ _ (by decide+kernel) (by decide+kernel),p,_,n,rfl,hA,fun b hb=>?_⟩
    have nb:e0≠b:=ag eQ hb
    refine rK hu (by rw[ah nb];exact eQ) aa nb (cI _) (fun q hq=>⟨n,by rw[List.mem_singleton.mp hq]⟩) hlen t1 t2 fun z'=>⟨_,_,_,rfl,fun b' o w'=>?_,?_⟩
    ·rw[ah (ag w' sA),ah (ag (e _ _ w') hb)]
     exact e _ _ w'
    ·rw[aa,jj]
   |gr us n=>
    cases d with
    |zero=>exact lC.elim
    |succ d=>
     obtain⟨dx,l',Rg,h1,h2,h3⟩:=id hT
     refine Or.inr ⟨_,rfl,p,dx,_,rfl,h1,mR _ _ (by decide+kernel) (by decide+kernel),p,us,n,rfl,hT,lC,lx,fun b cy nb hb e'=>?_⟩
     refine rK hu (e' _ _ eQ) hb (ag eQ nb) (cI _) (cI _) hlen t1 t2 fun z'=>⟨_,_,_,rfl,fun b' o w'=>?_,?_⟩
     ·rw[ah (ag w' sA)]
      exact e' _ _ (e _ _ w')
     ·rw[aa,jj]
  ·rintro σ H' ⟨v,u,z,rfl,e,eQ⟩
   rw[List.length_map,lp,List.take_length] at eQ
   exact⟨_,rfl,q e0 H' sA eQ e⟩
theorem uA:ay ["self"] ["self"] (aj i6):=dA
theorem yC(D:bg K G "counts" "Group.counts" i6 ["self"]):aK P w K mg base 1 G "counts" ["self"] (lZ C G 0):=
 D.dh (k:=0) uA (fun vs H Q E h=>h.elim) (fun f bp A outer s H vs Q E hr h=>h.elim)
theorem yD(d:Nat)(D:bg K G "counts" "Group.counts" i6 ["self"])(T:rf K mg C R G uK uN uB uE uM)(c1:bj P w K mg base (2*d+2) "parts_counts" ["parts","times"] (jA C G d)):aK P w K mg base (2*d+3) G "counts" ["self"] (lZ C G (d+1)):=by
 obtain⟨_,_,bh⟩:=c1
 refine D.dh uA (fun vs H Q E h=>?_) (fun f bp A outer s H vs Q E hr h=>?_)
 ·obtain⟨g,ts,n,rfl,_⟩:=h
  rfl
 ·obtain⟨g,ts,n,rfl,⟨dx,l,ps,h1,h2,h3⟩,⟨ne,aV,n1,n2⟩,hz,q⟩:=h
  have e:br (d+1) 1 (.gr ts n)=ts.flatMap (br d n):=by
   show ts.flatMap (br d (n*1))=_
   rw[Int.mul_one]
  rw[e] at hz q
  refine⟨_,(ao
     (aE (aJ bh.ok (hr.mono (by omega)) rfl bh.g bh.kp bh.b .nil az (af (a5 (pv 0) rfl) (af (a5 (pv 0) rfl) ak))))),?_⟩
  exact⟨_,rfl,g,G,dx,_,_,rfl,h1,T.eG,T.oh,iD _ _,_,rfl,g,G,dx,_,_,rfl,h1,T.eG,T.oj,iE _ _,l,ps,ts,n,rfl,h2,h3,aV,n1,n2,hz,q⟩
theorem rL(D1:Def K mg "parts_counts" "parts_counts" i4 ["parts","times"])(D2:bg K G "counts" "Group.counts" i6 ["self"])(T:rf K mg C R G uK uN uB uE uM)(c1:aK P w K mg base 1 C "counts" ["self"] (qU C)):∀d:Nat,bj P w K mg base (2*d+2) "parts_counts" ["parts","times"] (jA C G d)
 |0=>pe 0 D1 T c1 (yC D2)
 |d+1=>pe (d+1) D1 T c1 (yD d D2 T (rL D1 D2 T c1 d))
inductive pF(C G Pc:Addr)(d:Nat)(vs:List V)(H:Hp)(Q:VK)(E:XK):Prop
 |mk (q:Addr) (x:jP) (dR:vs=[.ref q]) (dS:jw C G Pc d H q x) (dW:FU d x) (eZ:(cD d x).length≤400) (gz:∀e H',H e=none→H' e=some (.dK (a9 1 [] (cD d x)))→au H H'→Q (.ref e) H')
def kq(C G Pc:Addr)(d:Nat):Sp:=pF C G Pc d
theorem sT:ay ["self"] ["self"] (aj gL):=dA
theorem pG(d:Nat)(D:bg K Pc "counts" "Piece.counts" gL ["self"])(T:lB K mg C R G Pc Fo uK uN uB uE uM uC uP uI uD uL uT)(c1:bj P w K mg base (2*d+2) "parts_counts" ["parts","times"] (jA C G d)):aK P w K mg base (2*d+3) Pc "counts" ["self"] (kq C G Pc d):=by
 obtain⟨_,_,bh⟩:=c1
 refine D.dh sT (fun vs H Q E h=>?_) (fun f bp A outer s H vs Q E hr h=>?_)
 ·obtain⟨q,x,rfl,_⟩:=h
  rfl
 ·obtain⟨g,x,rfl,⟨dx,l,ps,h1,h2,h3⟩,⟨ne,aV,n1,n2⟩,hz,q⟩:=h
  refine⟨_,(ao
     (aE (aJ bh.ok (hr.mono (by omega)) rfl bh.g bh.kp bh.b .nil az (af (a5 (pv 0) rfl) (af (a5 (pv 0) rfl) ak))))),?_⟩
  exact⟨_,rfl,g,Pc,dx,_,_,rfl,h1,T.dq,T.oo,iD _ _,_,rfl,g,Pc,dx,_,_,rfl,h1,T.dq,T.oq,iE _ _,l,ps,x.2,x.1,rfl,h2,h3,aV,n1,n2,hz,q⟩
inductive yE(C G Pc:Addr)(d:Nat)(vs:List V)(H:Hp)(Q:VK)(E:XK):Prop
 |mk (l:Addr) (ps:List Addr) (xs:List jP) (dR:vs=[.ref l, .int 1]) (dS:H l=some (.lst (ps.map V.ref))) (dW:Paired (jw C G Pc d H) ps xs) (eZ:(∀x∈xs,FU d x)) (gz:(xs.flatMap (cD d)).length≤400) (jb:∀e H',H e=none→H' e=some (.dK (cW d xs))→au H H'→Q (.ref e) H')
def rM(C G Pc:Addr)(d:Nat):Sp:=yE C G Pc d
theorem yF(d:Nat)(D:Def K mg "parts_counts" "parts_counts" i4 ["parts","times"])(T:lB K mg C R G Pc Fo uK uN uB uE uM uC uP uI uD uL uT)(c1:aK P w K mg base (2*d+3) Pc "counts" ["self"] (kq C G Pc d)):bj P w K mg base (2*d+4) "parts_counts" ["parts","times"] (rM C G Pc d):=by
 obtain⟨_,_,ib⟩:=c1
 refine D.dh dF (fun vs H Q E h=>?_) (fun f bp A outer s H vs Q E hr h=>?_)
 ·obtain⟨l,ps,xs,rfl,_⟩:=h
  rfl
 ·obtain⟨l,ps,xs,rfl,hl,hP,aV,hz,q⟩:=h
  have hu:=dz hr
  have lp:ps.length=xs.length:=Paired.length hP
  refine⟨_,(ai
     (aB (i:=2) dF.nd rfl (Or.inl rfl) dw)
    (ai
     (bO PassesOwn.never rfl (bX (pv 0)) (aD (i:=3) dF.nd rfl (Or.inl rfl))
      (ai
       (aB (i:=4) dF.nd rfl (Or.inl rfl) (aN (pv 3) T.dq ib.m ib.ok (hr.mono (by omega)) ib.b .nil az))
      (ao
       (eF (bO PassesOwn.never rfl (dU (pv 4)) (aD (i:=5) dF.nd rfl (Or.inl rfl))
        (ao
         (cZ hu (pv 2) (pv 5) (aA bR (bZ hu (pv 2) (pv 5) aq ⟨rfl,rfl,rfl,rfl⟩) (aA fM (cY hu (pv 4) (pv 5) (fun _ _=>rfl)) (pv 1))) rfl)))))))
    (ao
     (aE (pv 2))))),?_⟩
  intro e0 sA
  refine⟨_,rfl,l,rfl,⟨_,bJ.of (au.new sA _ _ hl)⟩,c9 (K:=K) (a:=l) (xs:=ps.map V.ref) (fun i σ H'=>∃v u z:Option V,σ=[some (.ref l),some (.int 1),some (.ref e0),v,u,z]∧au H H'∧H' e0=some (.dK (cW d (xs.take i)))) ?_ (fun i σ H' _ ⟨_,_,_,_,e,_⟩=>bJ.of (e _ _ hl)) ?_ ?_⟩
  ·exact⟨none,none,none,rfl,au.new sA,aa⟩
  ·rintro i v σ H' hi ⟨v',u,z,rfl,e,eQ⟩
   rw[List.getElem?_map] at hi
   obtain⟨p,hp,rfl⟩:∃p,ps[i]? =some p∧v=V.ref p:=by
    cases hh:ps[i]? with
    |none=>rw[hh] at hi;cases hi
    |some p=>rw[hh] at hi;exact⟨p,rfl,(Option.some.inj hi).symm⟩
   obtain⟨x,hx,hT⟩:=bo hP hp
   have hT:=hT.same e
   have lC:=aV x (List.mem_of_getElem? hx)
   have lx:(cD d x).length≤400:=by
    refine Nat.le_trans ?_ hz
    obtain⟨as,bs,rfl⟩:=List.append_of_mem (List.mem_of_getElem? hx)
    rw[List.flatMap_append,List.flatMap_cons,List.length_append,List.length_append]
    omega
   have li:((xs.take i).flatMap (cD d)).length≤400:=by
    refine Nat.le_trans ?_ hz
    conv=>rhs;rw[←List.take_append_drop i xs,List.flatMap_append,List.length_append]
    omega
   have jj:cW d (xs.take (i+1))=iP 1 (cW d (xs.take i)) (a9 1 [] (cD d x)) (a9 1 [] (cD d x)):=by
    unfold cW
    rw[wo 1 1 (cD d x) (cI _) (iH _),take_snoc hx,List.flatMap_append,List.flatMap_cons,List.flatMap_nil,List.append_nil,BU]
    rfl
   obtain⟨dx,l',Rg,h1,h2,h3⟩:=id hT
   refine⟨_,rfl,p,dx,_,rfl,h1,mR _ _ (by decide+kernel) (by decide+kernel),p,x,rfl,hT,lC,lx,fun b cy nb hb e'=>?_⟩
   refine rK hu (e' _ _ eQ) hb (ag eQ nb) (cI _) (cI _) ?_ (by decide) (by decide) fun z'=>⟨_,_,_,rfl,fun b' o w'=>?_,?_⟩
   ·have z1:(cW d (xs.take i)).length≤((xs.take i).flatMap (cD d)).length:=dN ((xs.take i).flatMap (cD d))
    have z2:=dN (cD d x)
    omega
   ·rw[ah (ag w' sA)]
    exact e' _ _ (e _ _ w')
   ·rw[aa,jj]
  ·rintro σ H' ⟨v,u,z,rfl,e,eQ⟩
   rw[List.length_map,lp,List.take_length] at eQ
   exact⟨_,rfl,q e0 H' sA eQ e⟩
inductive yG(C G Pc Fo:Addr)(d:Nat)(vs:List V)(H:Hp)(Q:VK)(E:XK):Prop
 |mk (f:Addr) (xs:List jP) (n:Int) (dR:vs=[.ref f]) (dS:o5 C G Pc Fo d H f xs n) (dW:KQ d xs n) (eZ:(xs.flatMap (cD d)).length≤400) (gz:∀e H',H e=none→H' e=some (.dK (cW d xs))→au H H'→Q (.ref e) H')
def l6(C G Pc Fo:Addr)(d:Nat):Sp:=yG C G Pc Fo d
theorem kZ{d:Nat}{xs:List jP}{n:Int}(h:KQ d xs n):∀x∈xs,FU d x:=by
 cases xs with
 |nil=>intro x hx;cases hx
 |cons y r=>exact h.2.1
theorem Eb:ay ["self"] ["self"] (aj mE):=dA
theorem yH(d:Nat)(D:bg K Fo "counts" "Formula.counts" mE ["self"])(T:lB K mg C R G Pc Fo uK uN uB uE uM uC uP uI uD uL uT)(c1:bj P w K mg base (2*d+4) "parts_counts" ["parts","times"] (rM C G Pc d)):aK P w K mg base (2*d+5) Fo "counts" ["self"] (l6 C G Pc Fo d):=by
 obtain⟨_,_,bh⟩:=c1
 refine D.dh Eb (fun vs H Q E h=>?_) (fun f bp A outer s H vs Q E hr h=>?_)
 ·obtain⟨f,xs,n,rfl,_⟩:=h
  rfl
 ·obtain⟨g,xs,n,rfl,⟨dx,l,ps,h1,h2,h3⟩,aV,hz,q⟩:=h
  refine⟨_,(ao
     (aE (aJ bh.ok (hr.mono (by omega)) rfl bh.g bh.kp bh.b .nil az (af (a5 (pv 0) rfl) (af aq ak))))),?_⟩
  exact⟨_,rfl,g,Fo,dx,_,_,rfl,h1,T.bM,T.jx,jv _ _,l,ps,xs,rfl,h2,h3,kZ aV,hz,q⟩
variable {uC uP uI uD uL uT fb fe fg uG uS:Tok}{Ch:Addr}
structure oF(K:PySem.W.Frag)(mg:Str→Option Value)(C R G Pc Fo Ch:Addr)(uK uN uB uE uM uC uP uI uD uL uT fb fe fg uG uS:Tok):Prop extends GU K mg C R G Pc Fo Ch uK uN uB uE uM uC uP uI uD uL uT fb fe fg where
 kr:mg "LONGEST_TERM_COUNT" =some (.int 12 uG)
 rN:mg "ChangeReader" =some (.ref R)
 wN:mg "MOST_TERMS" =some (.int 8 uS)
def x4(n:Int):List Nat:=if n=1 then [] else [32]
def gR(x:Tm):List Nat:=aP x.1++(x4 x.1++fL x.2)
def NewQ(C G Pc Fo:Addr)(H H':Hp)(t:Addr)(x:Tm):Prop:=∀cy,(∀b o,H b=none→H' b=some o→cy b=some o)→jz C G Pc Fo cy t x
def MK(C G Pc Fo L:Addr)(H H':Hp)(t:Addr)(x:Tm):Prop:=∀cy,(∀b o,H b=none→b≠L→H' b=some o→cy b=some o)→jz C G Pc Fo cy t x
def ML(C G Pc Fo:Addr)(H H':Hp)(l:Addr)(xs:List Tm):Prop:=H l=none∧∃ps,H' l=some (.lst (ps.map V.ref))∧∀cy,(∀b o,H b=none→H' b=some o→cy b=some o)→Paired (jz C G Pc Fo cy) ps xs
abbrev fJ(x:Tm):Prop:=oE 999999999999 x
inductive G2(C G Pc Fo R:Addr)(vs:List V)(H:Hp)(Q:VK)(E:XK):Prop
 |mk (r:Addr) (x:Str) (p:Nat) (tm:Tm) (post:List Nat) (dR:vs=[.ref r]) (dS:dm R H r x p) (dW:Here x p (gR tm) post) (eZ:EW post) (gz:fJ tm) (jb:x.length≤1000) (nM:∀t H',H t=none→NewQ C G Pc Fo H H' t tm→dm R H' r x (p+(gR tm).length)→Kept r H H'→Q (.ref t) H')
def wO(C G Pc Fo R:Addr):Sp:=G2 C G Pc Fo R
theorem e32:(" " :Str)=⟨#[32]⟩:=by decide+kernel
theorem O8{x:Fm}(h:KQ 1 x.1 x.2)(post:List Nat):Not xy (fL x++post):=by
 obtain⟨xs,n⟩:=x
 cases xs with
 |nil=>
  intro c hc
  rw[show fL ([],n)=[101,94,45] from rfl] at hc
  have e:101=c:=by simpa using hc
  subst e
  rfl
 |cons x0 r0=>
  obtain⟨_,DW,_⟩:=h
  have OX:=DW x0 (List.mem_cons_self ..)
  have e:fL (x0::r0,n)++post=x0.2.flatMap (ck 1)++(cU 1 r0++i9 n++post):=by
   show x0.2.flatMap (ck 1)++(cU 1 r0++i9 n)++post=_
   rw[List.append_assoc]
  rw[e]
  cases hx:x0.2 with
  |nil=>exact absurd hx OX.1
  |cons t ts=>
   obtain⟨c,rest,hc,ht⟩:=om (OX.2.1 t (by rw[hx];exact List.mem_cons_self ..))
   intro b hb
   rw[List.flatMap_cons,hc] at hb
   have e:c=b:=by simpa using hb
   subst e
   rcases ht with ⟨hg,_⟩ | ⟨rfl,_⟩
   ·simp only [ET,xy,Bool.and_eq_true,decide_eq_true_eq] at*
    simp
    omega
   ·rfl
theorem K9{x:Tm}(h:KQ 1 x.2.1 x.2.2)(post:List Nat):Not xy (x4 x.1++fL x.2++post):=by
 unfold x4
 split
 ·exact O8 h post
 ·intro c hc
  have e:32=c:=by simpa using hc
  subst e
  rfl
theorem MM{n:Int}(h1:1≤n)(h2:n≤999999999999):((aP n).length:Int)≤12:=by
 obtain⟨m,rfl⟩:=Int.eq_ofNat_of_zero_le (show 0≤n by omega)
 have:=kS (n:=m) (k:=12) (by decide) (by omega)
 rw[de,bq] at this
 show ((aP (m:Int)).length:Int)≤12
 omega
theorem BV:ay ["self","count"] ["self"] (aj vS):=dA
theorem G3(D:bg K R "read_term" "ChangeReader.read_term" vS ["self"])(T:oF K mg C R G Pc Fo Ch uK uN uB uE uM uC uP uI uD uL uT fb fe fg uG uS)(c1:aK P w K mg base 2 R "read_number" ["self","longest"] (qY R))(c2:aK P w K mg base 2 R "take" ["self","sign"] (lS R))(c3:aK P w K mg base 10 R "read_whole" ["self"] (rq C G Pc Fo R 1)):
  aK P w K mg base 11 R "read_term" ["self"] (wO C G Pc Fo R):=by
 obtain⟨_,_,bG⟩:=c1
 obtain⟨_,_,aF⟩:=c2
 obtain⟨_,_,bK⟩:=c3
 refine D.dh BV (fun vs H Q E h=>?_) (fun f bp A outer s H vs Q E hr h=>?_)
 ·obtain⟨r,x,p,tm,post,rfl,_⟩:=h
  rfl
 ·obtain⟨r,x,p,tm,post,rfl,⟨dx,hR⟩,hh,Jx,⟨n1,n2,Ta⟩,hx,q⟩:=h
  refine⟨_,(ai
     (aB (i:=1) BV.nd rfl (Or.inl rfl) (bY (pv 0) T.ax bG.m bG.ok (hr.mono (by decide)) bG.b .nil az (af (bw (v:= .int 12) rfl T.kr ⟨_,rfl⟩) ak)))
    (ai
     (bN (aO jY (pv 1) aq (aX _))
      (ao
       (bb (bY (pv 0) T.ax aF.m aF.ok (hr.mono (by decide)) aF.b .nil az (af (bw (v:= .str " ") rfl T.K6 ⟨_,rfl⟩) ak))))
      aY)
    (ao
     (aE (bQ (af (pv 1) (af (aN (pv 0) T.ax bK.m bK.ok (hr.mono (by decide)) bK.b .nil az) ak))))))),?_⟩
  have wx:Here x p (aP tm.1) (x4 tm.1++fL tm.2++post):=⟨hh.1,by rw[hh.2];unfold gR;rw[List.append_assoc]⟩
  have OV:Here x (p+(aP tm.1).length) (x4 tm.1++fL tm.2) post:=Here.on hh
  have EV:Here x (p+(aP tm.1).length+(x4 tm.1).length) (fL tm.2) post:=Here.on OV
  refine⟨_,rfl,r,dx,_,rfl,hR,aH _ _ (by decide+kernel) (by decide+kernel),r,x,p,tm.1,12,_,rfl,⟨dx,hR⟩,wx,n1,by omega,MM n1 n2,K9 Ta.1 post,hx,fun H1 eD k1=>?_⟩
  obtain⟨nN,eD⟩:=eD
  dsimp only [cN]
  refine iw (fun σ' H'=>σ'=[some (.ref r),some (.int tm.1)]∧dm R H' r x (p+(aP tm.1).length+(x4 tm.1).length)∧Kept r H H') (fun N hN=>?_) ?_
  ·refine⟨_,rfl,_,_,rfl,rfl,_,rfl,fu (fun e=>?_) fun e=>?_⟩
   ·have e:1<tm.1:=by simpa using e
    have eb:x4 tm.1=[32]:=if_neg (by omega)
    rw[eb] at OV hN
    refine⟨_,rfl,r,nN,_,rfl,eD,aH _ _ (by decide+kernel) (by decide+kernel),r,x,_,_,32,_,post,rfl,e32,⟨nN,eD⟩,OV,hx,fun H2 gP k2=>hN _ _ ⟨rfl,gP,k1.trans k2⟩⟩
   ·have e:¬1<tm.1:=by simpa using e
    have eb:x4 tm.1=[]:=if_pos (by omega)
    rw[eb] at hN
    exact hN _ _ ⟨rfl,⟨nN,eD⟩,k1⟩
  rintro σ' H2 ⟨rfl,⟨ju,gP⟩,k2⟩
  refine⟨_,rfl,_,rfl,r,ju,_,rfl,gP,aH _ _ (by decide+kernel) (by decide+kernel),r,x,_,tm.2.1,tm.2.2,post,rfl,⟨ju,gP⟩,EV,Jx,Ta.1,by decide,hx,fun f H3 nf hF iu k3=>⟨(by show 2≤sizeLine;decide),fun t ht=>?_⟩⟩
  obtain⟨xA,iu⟩:=iu
  have k13:=k2.trans k3
  have st:=au.new (o:= .tup [.int tm.1, .ref f]) ht
  refine q t _ (a7 k13 iu ht) (fun cy ke=>⟨f,ke _ _ (a7 k13 iu ht) aa,hF cy fun b o z1 z2=>ke b o (a7 k2 gP z1) (st _ _ z2)⟩) ⟨xA,?_⟩ (k13.trans (Kept.of st))
  rw[st _ _ iu]
  have e:(gR tm).length=(aP tm.1).length+((x4 tm.1).length+(wL 1 tm.2.1 tm.2.2).length):=by
   unfold gR
   rw[List.length_append,List.length_append]
   rfl
  rw[e]
  congr 3
  omega
variable {uC uP uI uD uL uT fb fe fg uG uS:Tok}{Ch:Addr}
def G4(x:Tm):List Nat:=[32,43,32]++gR x
def ic(xs:List Tm):List Nat:=xs.flatMap G4
def sC:List Tm→List Nat
 | []=>[]
 |x::r=>gR x++ic r
def p6:List Nat:=[32,45,62,32]
inductive Ec(C G Pc Fo R:Addr)(vs:List V)(H:Hp)(Q:VK)(E:XK):Prop
 |mk (r:Addr) (x:Str) (p:Nat) (xs:List Tm) (post:List Nat) (dR:vs=[.ref r]) (dS:dm R H r x p) (dW:Here x p (sC xs++p6) post) (eZ:xs≠[]) (gz:(∀t∈xs,fJ t)) (jb:x.length≤1000) (nM:∀l H',ML C G Pc Fo H H' l xs→dm R H' r x (p+(sC xs++p6).length)→Kept r H H'→Q (.ref l) H')
def yI(C G Pc Fo R:Addr):Sp:=Ec C G Pc Fo R
inductive AA(C G Pc Fo R:Addr)(vs:List V)(H:Hp)(Q:VK)(E:XK):Prop
 |mk (r:Addr) (x:Str) (p:Nat) (xs:List Tm) (dR:vs=[.ref r]) (dS:dm R H r x p) (dW:Here x p (sC xs) []) (eZ:xs≠[]) (gz:(∀t∈xs,fJ t)) (jb:x.length≤1000) (nM:∀l H',ML C G Pc Fo H H' l xs→Kept r H H'→(∃o,H' r=some o)→Q (.ref l) H')
def uF(C G Pc Fo R:Addr):Sp:=AA C G Pc Fo R
theorem wQ(xs:List Tm){post:List Nat}(h:EW post):EW (ic xs++post):=by
 cases xs with
 |nil=>exact h
 |cons x r=>exact .inr ⟨_,rfl⟩
theorem wR(x:Tm):(G4 x).length=3+(gR x).length:=by
 unfold G4
 rw[List.length_append]
 rfl
theorem wU:∀xs:List Tm,xs.length≤(ic xs).length
 | []=>Nat.zero_le _
 |x::r=>by
  have:=wU r
  have h:=wR x
  show r.length+1≤(G4 x++ic r).length
  rw[List.length_append]
  omega
theorem BW(xs:List Tm)(i:Nat):(ic (xs.take i)).length≤(ic xs).length:=by
 unfold ic
 conv=>rhs;rw[←List.take_append_drop i xs,List.flatMap_append,List.length_append]
 omega
theorem eJ:(" + " :Str).cps.toList=[32,43,32]:=by decide+kernel
theorem eJa:(" + " :Str).cps.all (· <128)=true:=by decide+kernel
theorem eJl:(" + " :Str).length=3:=by decide+kernel
theorem eA:(" -> " :Str).cps.toList=p6:=by decide+kernel
theorem eAa:(" -> " :Str).cps.all (· <128)=true:=by decide+kernel
theorem eAl:(" -> " :Str).length=4:=by decide+kernel
theorem Ed(x:Str){p:Nat}(hp:p+1≤x.length):Txt.slice x (some ((p:Int)+1)) (some ((p:Int)+2))=eK x (p+1):=by
 have:=t5 x hp
 have e:(((p+1 :Nat):Int))+1=(p:Int)+2:=by omega
 rw[e] at this
 exact this
theorem yJ:ay ["self","terms"] ["self"] (aj pQ):=dA
theorem Ee(D:bg K R "read_lefts" "ChangeReader.read_lefts" pQ ["self"])(T:oF K mg C R G Pc Fo Ch uK uN uB uE uM uC uP uI uD uL uT fb fe fg uG uS)(c1:aK P w K mg base 11 R "read_term" ["self"] (wO C G Pc Fo R))(c2:aK P w K mg base 3 R "take_all" ["self","signs"] (kW R)):
  aK P w K mg base 12 R "read_lefts" ["self"] (yI C G Pc Fo R):=by
 obtain⟨_,_,aU⟩:=c1
 obtain⟨_,_,aS⟩:=c2
 refine D.dh yJ (fun vs H Q E h=>?_) (fun f bp A outer s H vs Q E hr h=>?_)
 ·obtain⟨r,x,p,xs,post,rfl,_⟩:=h
  rfl
 ·obtain⟨r,x,p,xs,post,rfl,⟨dx,hR⟩,hh,nX,aV,hx,q⟩:=h
  have big:(2000 :Nat)≤sizeLine:=by decide
  obtain⟨x0,r0,rfl⟩:∃x0 r0,xs=x0::r0:=by
   cases xs with
   |nil=>exact absurd rfl nX
   |cons a b=>exact⟨a,b,rfl⟩
  refine⟨_,(ai
     (aB (i:=1) yJ.nd rfl (Or.inl rfl) (cA (af (aN (pv 0) T.ax aU.m aU.ok (hr.mono (by decide)) aU.b .nil az) ak)))
    (ai
     (iW PassesOwn.never (aO ql (jZ vD (a5 (pv 0) rfl) (fY (aA bR (a5 (pv 0) rfl) aq)) (fY (aA bR (a5 (pv 0) rfl) aq))) (cf vt (bw (v:= .str " -> ") rfl T.BR ⟨_,rfl⟩) aq (fun _ _=>rfl)) (aX _))
      (ai
       (bb (bY (pv 0) T.ax aS.m aS.ok (hr.mono (by decide)) aS.b .nil az (af (bw (v:= .str " + ") rfl T.BQ ⟨_,rfl⟩) ak)))
      (ao
       (bb (gD PySem.F.plainAttrs_list PySem.F.slot_list_append PySem.F.type_list_append dE (pv 1) (af (aN (pv 0) T.ax aU.m aU.ok (hr.mono (by decide)) aU.b .nil az) ak))))))
    (ai
     (bb (bY (pv 0) T.ax aS.m aS.ok (hr.mono (by decide)) aS.b .nil az (af (bw (v:= .str " -> ") rfl T.BR ⟨_,rfl⟩) ak)))
    (ao
     (aE (pv 1)))))),?_⟩
  have hw:Here x p (gR x0++(ic r0++p6)) post:=⟨hh.1,by rw[hh.2];show (gR x0++ic r0)++p6++post=_;simp only [List.append_assoc]⟩
  have Gy:Here x p (gR x0) (ic r0++(p6++post)):=⟨hw.1,by rw[hw.2];simp only [List.append_assoc]⟩
  have hb:Here x (p+(gR x0).length) (ic r0++p6) post:=Here.on hw
  have EO:Here x (p+(gR x0).length) (ic r0) (p6++post):=⟨hb.1,by rw[hb.2];simp only [List.append_assoc]⟩
  have O9:Here x (p+(gR x0).length+(ic r0).length) p6 post:=Here.on hb
  have ea:EW (p6++post):= .inr ⟨_,rfl⟩
  refine⟨_,rfl,r,dx,_,rfl,hR,aH _ _ (by decide+kernel) (by decide+kernel),r,x,p,x0,_,rfl,⟨dx,hR⟩,Gy,wQ r0 ea,aV x0 (List.mem_cons_self ..),hx,fun t0 H1 nt0 hN eD k1=>⟨(by show 1≤sizeLine;decide),fun L hL=>?_⟩⟩
  obtain⟨nN,eD⟩:=eD
  have xB:H L=none:=a7 k1 eD hL
  have yq:L≠r:=fun z=>by rw[z,eD] at hL;cases hL
  have sL:au H1 (upd H1 L (.lst [V.ref t0])):=au.new hL
  refine⟨fun k σ H'=>∃i:Nat,k+i=r0.length∧σ=[some (.ref r),some (.ref L)]∧dm R H' r x (p+(gR x0).length+(ic (r0.take i)).length)∧Kept r H H'∧∃ps,H' L=some (.lst (ps.map V.ref))∧ps.length=i+1∧Paired (MK C G Pc Fo L H H') ps (x0::r0.take i),⟨r0.length,0,by omega,rfl,⟨nN,sL _ _ eD⟩,k1.trans (Kept.of sL),[t0],aa,rfl, .cons (fun cy ke=>hN cy fun b o z1 z2=>ke b o z1 (ag z2 hL) (sL _ _ z2)) .nil⟩,?_⟩
  rintro k σ H' ⟨i,hk,rfl,⟨dQ,d7⟩,kk,ps,lA,gH,hP⟩
  have hle:=O9.le
  have zt:=BW r0 i
  have hr0:=wU r0
  have a4:p6.length=4:=rfl
  refine⟨_,rfl,r,R,dQ,_,_,rfl,d7,T.ax,T.js,fT _ _,_,rfl,r,R,dQ,_,_,rfl,d7,T.ax,T.cw,bB _ _,_,_,rfl,rfl,_,rfl,_,rfl,r,R,dQ,_,_,rfl,d7,T.ax,T.cw,bB _ _,_,_,rfl,rfl,_,rfl,x,rfl,by omega," -> ",1,45,rfl,rfl,(by decide+kernel),(by decide+kernel),rfl,_,rfl,?_⟩
  rw[Ed x (by omega)]
  by_cases hi:i<r0.length
  ·have h2:Here x (p+(gR x0).length+(ic (r0.take i)).length) (G4 r0[i]) (ic (r0.drop (i+1))++(p6++post)):=wC G4 EO hi
   have KR:=aV _ (List.mem_cons_of_mem _ (List.getElem_mem hi))
   have h3:Here x (p+(gR x0).length+(ic (r0.take i)).length) [32,43,32] (gR r0[i]++(ic (r0.drop (i+1))++(p6++post))):=⟨h2.1,by rw[h2.2];rfl⟩
   have h4:Here x (p+(gR x0).length+(ic (r0.take i)).length+3) (gR r0[i]) (ic (r0.drop (i+1))++(p6++post)):=Here.on (t:=[32,43,32]) h2
   have h5:eK x (p+(gR x0).length+(ic (r0.take i)).length+1)=⟨#[43]⟩:=(Here.on (t:=[32]) (u:=[43,32]) h3).sg
   rw[h5,decide_eq_false (pY (by decide))]
   refine iZ ⟨_,fun σ' cy h=>⟨k - 1,by omega,h⟩,?_⟩
   refine⟨_,rfl,r,dQ,_,rfl,d7,aH _ _ (by decide+kernel) (by decide+kernel),r,x,_,_,_,rfl,eJa,⟨dQ,d7⟩,(by rw[eJ];exact h3),hx,fun H3 iu k3=>?_⟩
   rw[eJl] at iu
   obtain⟨xA,iu⟩:=iu
   have m9:=k3 _ _ lA yq
   have kk3:=kk.trans k3
   refine⟨_,rfl, .inl ⟨rfl,_,bJ.of m9⟩,_,rfl,r,xA,_,rfl,iu,aH _ _ (by decide+kernel) (by decide+kernel),r,x,_,r0[i],_,rfl,⟨xA,iu⟩,h4,wQ _ ea,KR,hx,fun t H4 nt hN4 ud k4=>?_⟩
   obtain⟨Jw,ud⟩:=ud
   have sQ:=k4 _ _ m9 yq
   have KS:=k3.trans k4
   refine⟨L,_,_,rfl,rfl,sQ,by rw[List.length_map];omega,i+1,by omega,rfl,⟨Jw,?_⟩,fun b o z w=>?_,ps++[t],by rw[aa,List.map_append];rfl,by rw[List.length_append,gH];rfl,?_⟩
   ·rw[ah (Ne.symm yq),ud]
    have e:=wD G4 hi
    have e':(ic (r0.take (i+1))).length=(ic (r0.take i)).length+(3+(gR r0[i]).length):=by
     unfold ic
     rw[e,List.length_append,wR]
    rw[e']
    congr 3
    omega
   ·rw[ah (ag z xB)]
    exact KS _ _ (kk _ _ z w) w
   ·rw[List.take_add_one,List.getElem?_eq_getElem hi]
    refine bC (as:=ps) (bs:=x0::r0.take i) (fun cy ke=>hN4 cy fun b o z1 z2=>?_) (aw (fun c t h cy ke=>h cy fun b o z1 z2 z3=>ke b o z1 z2 ?_) hP)
    ·have BF:b≠L:=fun z=>by rw[z,m9] at z1;cases z1
     exact ke b o (a7 kk3 iu z1) BF (by rw[ah BF];exact z2)
    ·have zx:b≠r:=fun z=>by rw[z,hR] at z1;cases z1
     rw[ah z2]
     exact KS _ _ z3 zx
  ·have ei:i=r0.length:=by omega
   rw[ei,List.take_length] at d7 hP ⊢
   have h5:eK x (p+(gR x0).length+(ic r0).length+1)=⟨#[45]⟩:=(Here.on (t:=[32]) (u:=[45,62,32]) O9).sg
   rw[h5,decide_eq_true rfl]
   refine fI ?_
   refine⟨_,rfl,r,dQ,_,rfl,d7,aH _ _ (by decide+kernel) (by decide+kernel),r,x,_,_,post,rfl,eAa,⟨dQ,d7⟩,(by rw[eA];exact O9),hx,fun H3 iu k3=>?_⟩
   rw[eAl] at iu
   have m9:=k3 _ _ lA yq
   have el:p+(gR x0).length+(ic r0).length+4=p+(sC (x0::r0)++p6).length:=by
    rw[List.length_append]
    show _=p+((gR x0++ic r0).length+4)
    rw[List.length_append]
    omega
   rw[el] at iu
   refine⟨_,rfl,q L H3 ⟨xB,ps,m9,fun cy ke=>aw (fun c t h=>h cy fun b o z1 z2 z3=>ke b o z1 ?_) hP⟩ iu (kk.trans k3)⟩
   have zx:b≠r:=fun z=>by rw[z,hR] at z1;cases z1
   exact k3 _ _ z3 zx
variable {uC uP uI uD uL uT fb fe fg uG uS:Tok}{Ch:Addr}
theorem uH:ay ["self","terms"] ["self"] (aj mJ):=dA
theorem AB(D:bg K R "read_rights" "ChangeReader.read_rights" mJ ["self"])(T:oF K mg C R G Pc Fo Ch uK uN uB uE uM uC uP uI uD uL uT fb fe fg uG uS)(c1:aK P w K mg base 11 R "read_term" ["self"] (wO C G Pc Fo R))(c2:aK P w K mg base 3 R "take_all" ["self","signs"] (kW R)):
  aK P w K mg base 12 R "read_rights" ["self"] (uF C G Pc Fo R):=by
 obtain⟨_,_,aU⟩:=c1
 obtain⟨_,_,aS⟩:=c2
 refine D.dh uH (fun vs H Q E h=>?_) (fun f bp A outer s H vs Q E hr h=>?_)
 ·obtain⟨r,x,p,xs,rfl,_⟩:=h
  rfl
 ·obtain⟨r,x,p,xs,rfl,⟨dx,hR⟩,hh,nX,aV,hx,q⟩:=h
  have big:(2000 :Nat)≤sizeLine:=by decide
  obtain⟨x0,r0,rfl⟩:∃x0 r0,xs=x0::r0:=by
   cases xs with
   |nil=>exact absurd rfl nX
   |cons a b=>exact⟨a,b,rfl⟩
  refine⟨_,(ai
     (aB (i:=1) uH.nd rfl (Or.inl rfl) (cA (af (aN (pv 0) T.ax aU.m aU.ok (hr.mono (by decide)) aU.b .nil az) ak)))
    (ai
     (iW PassesOwn.never (aO me (a5 (pv 0) rfl) (bS ji rfl T.kb g7 (af (a5 (pv 0) rfl) ak)) (aX _))
      (ai
       (bb (bY (pv 0) T.ax aS.m aS.ok (hr.mono (by decide)) aS.b .nil az (af (bw (v:= .str " + ") rfl T.BQ ⟨_,rfl⟩) ak)))
      (ao
       (bb (gD PySem.F.plainAttrs_list PySem.F.slot_list_append PySem.F.type_list_append dE (pv 1) (af (aN (pv 0) T.ax aU.m aU.ok (hr.mono (by decide)) aU.b .nil az) ak))))))
    (ao
     (aE (pv 1))))),?_⟩
  have hw:Here x p (gR x0++ic r0) []:=hh
  have Gy:Here x p (gR x0) (ic r0++[]):=⟨hw.1,by rw[hw.2];simp only [List.append_assoc]⟩
  have EO:Here x (p+(gR x0).length) (ic r0) []:=Here.on hw
  have sP:x.length=p+(gR x0).length+(ic r0).length:=by
   have:=congrArg List.length hw.2
   have h1:=hw.1
   have hl:x.cps.toList.length=x.length:=by simp [Str.length]
   rw[List.length_drop,List.length_append,List.length_append,hl] at this
   simp at this
   omega
  have ea:EW []:= .inl rfl
  refine⟨_,rfl,r,dx,_,rfl,hR,aH _ _ (by decide+kernel) (by decide+kernel),r,x,p,x0,_,rfl,⟨dx,hR⟩,Gy,wQ r0 ea,aV x0 (List.mem_cons_self ..),hx,fun t0 H1 nt0 hN eD k1=>⟨(by show 1≤sizeLine;decide),fun L hL=>?_⟩⟩
  obtain⟨nN,eD⟩:=eD
  have xB:H L=none:=a7 k1 eD hL
  have yq:L≠r:=fun z=>by rw[z,eD] at hL;cases hL
  have sL:au H1 (upd H1 L (.lst [V.ref t0])):=au.new hL
  refine⟨fun k σ H'=>∃i:Nat,k+i=r0.length∧σ=[some (.ref r),some (.ref L)]∧dm R H' r x (p+(gR x0).length+(ic (r0.take i)).length)∧Kept r H H'∧∃ps,H' L=some (.lst (ps.map V.ref))∧ps.length=i+1∧Paired (MK C G Pc Fo L H H') ps (x0::r0.take i),⟨r0.length,0,by omega,rfl,⟨nN,sL _ _ eD⟩,k1.trans (Kept.of sL),[t0],aa,rfl, .cons (fun cy ke=>hN cy fun b o z1 z2=>ke b o z1 (ag z2 hL) (sL _ _ z2)) .nil⟩,?_⟩
  rintro k σ H' ⟨i,hk,rfl,⟨dQ,d7⟩,kk,ps,lA,gH,hP⟩
  have zt:=BW r0 i
  have hr0:=wU r0
  refine⟨_,rfl,r,R,dQ,_,_,rfl,d7,T.ax,T.cw,bB _ _,_,rfl,r,R,dQ,_,_,rfl,d7,T.ax,T.js,fT _ _,x,rfl,Nat.le_trans hx (by decide),_,_,rfl,rfl,_,rfl,?_⟩
  by_cases hi:i<r0.length
  ·have h2:Here x (p+(gR x0).length+(ic (r0.take i)).length) (G4 r0[i]) (ic (r0.drop (i+1))++[]):=wC G4 EO hi
   have KR:=aV _ (List.mem_cons_of_mem _ (List.getElem_mem hi))
   have h3:Here x (p+(gR x0).length+(ic (r0.take i)).length) [32,43,32] (gR r0[i]++(ic (r0.drop (i+1))++[])):=⟨h2.1,by rw[h2.2];rfl⟩
   have h4:Here x (p+(gR x0).length+(ic (r0.take i)).length+3) (gR r0[i]) (ic (r0.drop (i+1))++[]):=Here.on (t:=[32,43,32]) h2
   have pz:p+(gR x0).length+(ic (r0.take i)).length<x.length:=by
    have:=h3.le
    have e:[32,43,32].length=3:=rfl
    omega
   refine vA (by omega) ?_
   refine⟨_,fun σ' cy h=>⟨k - 1,by omega,h⟩,?_⟩
   refine⟨_,rfl,r,dQ,_,rfl,d7,aH _ _ (by decide+kernel) (by decide+kernel),r,x,_,_,_,rfl,eJa,⟨dQ,d7⟩,(by rw[eJ];exact h3),hx,fun H3 iu k3=>?_⟩
   rw[eJl] at iu
   obtain⟨xA,iu⟩:=iu
   have m9:=k3 _ _ lA yq
   have kk3:=kk.trans k3
   refine⟨_,rfl, .inl ⟨rfl,_,bJ.of m9⟩,_,rfl,r,xA,_,rfl,iu,aH _ _ (by decide+kernel) (by decide+kernel),r,x,_,r0[i],_,rfl,⟨xA,iu⟩,h4,wQ _ ea,KR,hx,fun t H4 nt hN4 ud k4=>?_⟩
   obtain⟨Jw,ud⟩:=ud
   have sQ:=k4 _ _ m9 yq
   have KS:=k3.trans k4
   refine⟨L,_,_,rfl,rfl,sQ,by rw[List.length_map];omega,i+1,by omega,rfl,⟨Jw,?_⟩,fun b o z w=>?_,ps++[t],by rw[aa,List.map_append];rfl,by rw[List.length_append,gH];rfl,?_⟩
   ·rw[ah (Ne.symm yq),ud]
    have e:=wD G4 hi
    have e':(ic (r0.take (i+1))).length=(ic (r0.take i)).length+(3+(gR r0[i]).length):=by
     unfold ic
     rw[e,List.length_append,wR]
    rw[e']
    congr 3
    omega
   ·rw[ah (ag z xB)]
    exact KS _ _ (kk _ _ z w) w
   ·rw[List.take_add_one,List.getElem?_eq_getElem hi]
    refine bC (as:=ps) (bs:=x0::r0.take i) (fun cy ke=>hN4 cy fun b o z1 z2=>?_) (aw (fun c t h cy ke=>h cy fun b o z1 z2 z3=>ke b o z1 z2 ?_) hP)
    ·have BF:b≠L:=fun z=>by rw[z,m9] at z1;cases z1
     exact ke b o (a7 kk3 iu z1) BF (by rw[ah BF];exact z2)
    ·have zx:b≠r:=fun z=>by rw[z,hR] at z1;cases z1
     rw[ah z2]
     exact KS _ _ z3 zx
  ·have ei:i=r0.length:=by omega
   rw[ei,List.take_length] at d7 hP ⊢
   refine qD (by omega) ?_
   exact⟨_,rfl,q L H' ⟨xB,ps,lA,fun cy ke=>aw (fun c t h=>h cy fun b o z1 z2 z3=>ke b o z1 z3) hP⟩ kk ⟨_,d7⟩⟩
variable {uC uP uI uD uL uT fb fe fg uG uS:Tok}{Ch:Addr}
def Pa(C G Pc Fo Ch:Addr)(H H':Hp)(c:Addr)(xs ys:List Tm):Prop:=∀cy,(∀b o,H b=none→H' b=some o→cy b=some o)→dC C G Pc Fo Ch cy c xs ys
inductive Ef(C G Pc Fo Ch R:Addr)(vs:List V)(H:Hp)(Q:VK)(E:XK):Prop
 |mk (r:Addr) (x:Str) (xs ys:List Tm) (dR:vs=[.ref r]) (dS:dm R H r x 0) (dW:x.cps.toList=sC xs++p6++sC ys) (eZ:xs≠[]) (gz:ys≠[]) (jb:(∀t∈xs,fJ t)) (nM:(∀t∈ys,fJ t)) (sy:x.length≤1000) (EU:∀c H',H c=none→Pa C G Pc Fo Ch H H' c xs ys→Kept r H H'→Q (.ref c) H')
def yK(C G Pc Fo Ch R:Addr):Sp:=Ef C G Pc Fo Ch R
inductive AD(C G Pc Fo Ch:Addr)(vs:List V)(H:Hp)(Q:VK)(E:XK):Prop
 |mk (x:Str) (xs ys:List Tm) (dR:vs=[.str x]) (dS:x.cps.toList=sC xs++p6++sC ys) (dW:xs≠[]) (eZ:ys≠[]) (gz:(∀t∈xs,fJ t)) (jb:(∀t∈ys,fJ t)) (nM:x.length≤400) (sy:xs.length+ys.length≤8) (EU:∀c H',H c=none→Pa C G Pc Fo Ch H H' c xs ys→au H H'→Q (.ref c) H')
def uJ(C G Pc Fo Ch:Addr):Sp:=AD C G Pc Fo Ch
theorem yL:ay ["self","lefts"] ["self"] (aj pR):=dA
theorem Eg(D:bg K R "read_sides" "ChangeReader.read_sides" pR ["self"])(T:oF K mg C R G Pc Fo Ch uK uN uB uE uM uC uP uI uD uL uT fb fe fg uG uS)(c1:aK P w K mg base 12 R "read_lefts" ["self"] (yI C G Pc Fo R))(c2:aK P w K mg base 12 R "read_rights" ["self"] (uF C G Pc Fo R))(c3:gE P w K mg base 1 Ch ["self","lefts","rights"] [] (BS Ch)):
  aK P w K mg base 13 R "read_sides" ["self"] (yK C G Pc Fo Ch R):=by
 obtain⟨_,_,d5⟩:=c1
 obtain⟨_,_,dO⟩:=c2
 obtain⟨_,_,b5⟩:=c3
 obtain⟨_,AE,AF⟩:=b5.b 0 (by decide)
 refine D.dh yL (fun vs H Q E h=>?_) (fun f bp A outer s H vs Q E hr h=>?_)
 ·obtain⟨r,x,xs,ys,rfl,_⟩:=h
  rfl
 ·obtain⟨r,x,xs,ys,rfl,⟨dx,hR⟩,sP,nx,ny,lC,wV,hx,q⟩:=h
  refine⟨_,(ai
     (aB (i:=1) yL.nd rfl (Or.inl rfl) (aN (pv 0) T.ax d5.m d5.ok (hr.mono (by decide)) d5.b .nil az))
    (ao
     (aE (fX b5.m b5.ok (hr.mono (by decide)) rfl T.GV AF AE az (af (pv 1) (af (aN (pv 0) T.ax dO.m dO.ok (hr.mono (by decide)) dO.b .nil az) ak)))))),?_⟩
  have hw:Here x 0 (sC xs++p6++sC ys) []:=yr sP
  have Gy:Here x 0 (sC xs++p6) (sC ys):=⟨hw.1,by rw[hw.2,List.append_nil]⟩
  have wx:Here x (0+(sC xs++p6).length) (sC ys) []:=Here.on hw
  refine⟨_,rfl,r,dx,_,rfl,hR,aH _ _ (by decide+kernel) (by decide+kernel),r,x,0,xs,_,rfl,⟨dx,hR⟩,Gy,nx,lC,hx,fun l H1 hN1 eD k1=>?_⟩
  obtain⟨nN,eD⟩:=eD
  refine⟨_,rfl,_,rfl,r,nN,_,rfl,eD,aH _ _ (by decide+kernel) (by decide+kernel),r,x,_,ys,rfl,⟨nN,eD⟩,wx,ny,wV,hx,fun m H2 hN2 k2 gP=>?_⟩
  obtain⟨o2,gP⟩:=gP
  obtain⟨hl0,ps,zu,J8⟩:=hN1
  obtain⟨Y9,us,Za,Q9⟩:=hN2
  have nlr':l≠r:=fun z=>by rw[z,hR] at hl0;cases hl0
  have qx:=k2 _ _ zu nlr'
  have k12:=k1.trans k2
  refine fun c dc nc ndc nec=>⟨c,dc,l,m,ps.map V.ref,us.map V.ref,rfl,aa,?_,?_,fun n1 n2 H3 hn1 Q5 n12 hc3 hn13 hn23 kp=>⟨rfl,?_⟩⟩
  ·rw[ah (ag qx nc),ah (ag qx ndc)];exact qx
  ·rw[ah (ag Za nc),ah (ag Za ndc)];exact Za
  have s3:au H2 H3:=fun b o z=>kp b o (by rw[ah (ag z nc),ah (ag z ndc)];exact z) (ag z nc)
  have back:∀b,H2 b=none→H b=none:=fun b z=>a7 k12 gP z
  refine q c H3 (back c nc) (fun cy ke=>⟨dc,n1,n2,ke _ _ (back c nc) hc3,⟨ps,ke _ _ (back n1 (fU hn1)) hn13,J8 cy fun b o z1 z2=>?_⟩,⟨us,ke _ _ (back n2 (fU Q5)) hn23,Q9 cy fun b o z1 z2=>?_⟩⟩) (k12.trans (Kept.of s3))
  ·have zx:b≠r:=fun z=>by rw[z,hR] at z1;cases z1
   exact ke b o z1 (s3 _ _ (k2 _ _ z2 zx))
  ·exact ke b o (a7 k1 eD z1) (s3 _ _ z2)
theorem oG:ay ["text","change","many"] ["text"] (aj mK):=dA
theorem AG(D:Def K mg "read_change" "read_change" mK ["text"])(T:oF K mg C R G Pc Fo Ch uK uN uB uE uM uC uP uI uD uL uT fb fe fg uG uS)(c1:bj P w K mg base 1 "refuse_too_long" ["text"] ou)(c2:gE P w K mg base 1 R ["self","text"] [] (wq R))(c3:aK P w K mg base 13 R "read_sides" ["self"] (yK C G Pc Fo Ch R)):
  bj P w K mg base 14 "read_change" ["text"] (uJ C G Pc Fo Ch):=by
 obtain⟨_,_,bE⟩:=c1
 obtain⟨_,_,ie⟩:=c2
 obtain⟨_,_,d6⟩:=c3
 obtain⟨_,oH,oI⟩:=ie.b 0 (by decide)
 refine D.dh oG (fun vs H Q E h=>?_) (fun f bp A outer s H vs Q E hr h=>?_)
 ·obtain⟨x,xs,ys,rfl,_⟩:=h
  rfl
 ·obtain⟨x,xs,ys,rfl,sP,nx,ny,lC,wV,hx,h8,q⟩:=h
  refine⟨_,(ai
     (bb (aJ bE.ok (hr.mono (by decide)) rfl bE.g bE.kp bE.b .nil az (af (pv 0) ak)))
    (ai
     (Ot (fun _ _ z=>z)
      (ao
       (aB (i:=1) oG.nd rfl (Or.inl rfl) (aN (fX ie.m ie.ok (hr.mono (by decide)) rfl T.rN oI oH az (af (pv 0) ak)) T.ax d6.m d6.ok (hr.mono (by decide)) d6.b .nil az))))
    (ai
     (aB (i:=2) oG.nd rfl (Or.inl rfl) (aA bR (bS dk rfl T.kb g7 (af (a5 (pv 1) rfl) ak)) (bS dk rfl T.kb g7 (af (a5 (pv 1) rfl) ak))))
    (ai
     (bN (aO jY (pv 2) (bw (v:= .int 8) rfl T.wN ⟨_,rfl⟩) (aX _))
      (ao
       f9)
      aY)
    (ao
     (aE (pv 1))))))),?_⟩
  refine⟨_,rfl,x,rfl,hx,?_⟩
  refine⟨_,rfl,fun r dr nr ndr ner=>⟨r,dr,x,rfl,aa,fun H1 eD k1=>⟨rfl,?_⟩⟩⟩
  obtain⟨nN,eD⟩:=eD
  have s1:au H H1:=fun b o z=>k1 b o (by rw[ah (ag z nr),ah (ag z ndr)];exact z) (ag z nr)
  refine⟨r,nN,_,rfl,eD,aH _ _ (by decide+kernel) (by decide+kernel),r,x,xs,ys,rfl,⟨nN,eD⟩,sP,nx,ny,lC,wV,by omega,fun c H2 nc hC k2=>?_⟩
  have back:∀b,H1 b=none→H b=none:=fun b z=>by
   cases hh:H b with
   |none=>rfl
   |some o=>rw[s1 _ _ hh] at z;cases z
  have hC2:=hC H2 fun b o _ z=>z
  obtain⟨dc,l,m,hc,⟨ps,hl,hP⟩,⟨us,hm,hU⟩⟩:=hC2
  have e1:=Paired.length hP
  have e2:=Paired.length hU
  refine⟨_,rfl,c,Ch,dc,_,_,rfl,hc,T.b5,T.hV,eR _ _,l,_,rfl, .inl (bJ.of hl),_,rfl,c,Ch,dc,_,_,rfl,hc,T.b5,T.i',gQ _ _,m,_,rfl, .inl (bJ.of hm),_,_,rfl,rfl,?_⟩
  refine⟨_,rfl,_,_,rfl,rfl,_,rfl,qD (by rw[List.length_map,List.length_map];omega) ?_⟩
  exact⟨_,rfl,q c H2 (back c nc) (fun cy ke=>hC cy fun b o z1 z2=>ke b o (back b z1) z2) fun b o z=>k2 b o (s1 _ _ z) (ag z nr)⟩
variable {uC uP uI uD uL uT fb fe fg uG uS:Tok}{Ch:Addr}
def fV(xs:List Tm):List (Str×Int):=xs.map fun x=>((⟨(fL x.2).toArray⟩:Str),x.1)
inductive sU(C G Pc Fo:Addr)(vs:List V)(H:Hp)(Q:VK)(E:XK):Prop
 |mk (l:Addr) (xs:List Tm) (dR:vs=[.ref l]) (dS:hX C G Pc Fo H l xs) (dW:(∀x∈xs,cV x.2)) (eZ:xs.length≤20) (gz:∀e H',H e=none→H' e=some (.dK (a9 1 [] (fV xs)))→au H H'→Q (.ref e) H')
def gS(C G Pc Fo:Addr):Sp:=sU C G Pc Fo
theorem yM{xs:List Tm}{i:Nat}{y:Tm}(h:xs[i]? =some y):a9 1 [] (fV (xs.take (i+1)))=cC (a9 1 [] (fV (xs.take i))) (Sum.inr ⟨(fL y.2).toArray⟩) y.1:=by
 unfold fV a9
 rw[take_snoc h,List.map_append,List.foldl_append]
 show cC _ _ (y.1*1)=_
 rw[Int.mul_one]
theorem fE:ay ["terms","total","count","formula","text"] ["terms"] (aj iA):=dA
theorem sV(D:Def K mg "side_counts" "side_counts" iA ["terms"])(T:oF K mg C R G Pc Fo Ch uK uN uB uE uM uC uP uI uD uL uT fb fe fg uG uS)(c1:aK P w K mg base 7 Fo "shown" ["self"] (uw C G Pc Fo 1)):bj P w K mg base 8 "side_counts" ["terms"] (gS C G Pc Fo):=by
 obtain⟨_,_,gB⟩:=c1
 refine D.dh fE (fun vs H Q E h=>?_) (fun f bp A outer s H vs Q E hr h=>?_)
 ·obtain⟨l,xs,rfl,_⟩:=h
  rfl
 ·obtain⟨l,xs,rfl,⟨ts,hl,hP⟩,aV,Zb,q⟩:=h
  have hu:=dz hr
  have big:(2000 :Nat) <sizeLine:=by decide
  have gH:=Paired.length hP
  refine⟨_,(ai
     (aB (i:=1) fE.nd rfl (Or.inl rfl) dw)
    (ai
     (bO PassesOwn.never rfl (bX (pv 0)) (fi rfl (aQ (aD (i:=2) fE.nd rfl (Or.inl rfl)) (aQ (aD (i:=3) fE.nd rfl (Or.inl rfl)) cK)))
      (ai
       (aB (i:=4) fE.nd rfl (Or.inl rfl) (aN (pv 3) T.bM gB.m gB.ok (hr.mono (by decide)) gB.b .nil az))
      (ao
       (cZ hu (pv 1) (pv 4) (aA bR (bZ hu (pv 1) (pv 4) aq ⟨rfl,rfl,rfl,rfl⟩) (pv 2)) rfl))))
    (ao
     (aE (pv 1))))),?_⟩
  refine fun d hd=>?_
  have sD:=au.new (o:= .dK []) hd
  refine⟨_,rfl,l,rfl,⟨_,bJ.of (sD _ _ hl)⟩,c9 (K:=K) (a:=l) (xs:=ts.map V.ref) (fun i σ H'=>∃v2 v3 v4:Option V,σ=[some (.ref l),some (.ref d),v2,v3,v4]∧H' d=some (.dK (a9 1 [] (fV (xs.take i))))∧au H H') ?_ (fun i σ H' _ ⟨_,_,_,_,_,e⟩=>bJ.of (e _ _ hl)) ?_ ?_⟩
  ·exact⟨none,none,none,rfl,aa,sD⟩
  ·rintro i v σ H' hi ⟨v2,v3,v4,rfl,eQ,e⟩
   rw[List.getElem?_map] at hi
   obtain⟨t,ht,rfl⟩:∃p,ts[i]? =some p∧v=V.ref p:=by
    cases hh:ts[i]? with
    |none=>rw[hh] at hi;cases hi
    |some p=>rw[hh] at hi;exact⟨p,rfl,(Option.some.inj hi).symm⟩
   obtain⟨y,hy,fo,h1,h2⟩:=bo hP ht
   obtain⟨dx,fl,fps,hfo,_⟩:=id h2
   have lC:=aV y (List.mem_of_getElem? hy)
   have zl:(wL 1 y.2.1 y.2.2).length≤1000:=Nat.le_trans lC.2.1 (by decide)
   have hI:bu (a9 1 [] (fV (xs.take i))):=iB 1 _ _ fun p hp=>by cases hp
   have oJ:=iC 1 (fV (xs.take i)) []
   have Zc:(fV (xs.take i)).length≤20:=by unfold fV;rw[List.length_map,List.length_take];omega
   rw[List.length_nil] at oJ
   refine⟨t,_,rfl,ir.of (e _ _ h1),rfl,_,_,rfl,_,_,rfl,rfl,?_⟩
   refine⟨_,rfl,fo,dx,_,rfl,e _ _ hfo,rp _ _ (by decide+kernel) (by decide+kernel),fo,_,_,rfl,h2.same e,lC.1,zl,fun H2 e2=>?_⟩
   have hd2:=e2 _ _ eQ
   refine⟨_,rfl,d,rfl, .inl ⟨_, .inl hd2⟩,_,rfl,_,gI.k (k:=Sum.inr ⟨(fL y.2).toArray⟩) hd2,_,rfl,_,_,hI.at _,rfl,_,rfl,_,rfl,d,_,rfl,jh.k (k:=Sum.inr ⟨(fL y.2).toArray⟩) hd2 (by omega),?_⟩
   refine⟨_,_,_,rfl,?_,fun b o z=>?_⟩
   ·rw[aa,yM hy]
    rfl
   ·rw[ah (ag z hd)]
    exact e2 _ _ (e _ _ z)
  ·rintro σ H' ⟨v2,v3,v4,rfl,eQ,e⟩
   rw[List.length_map,gH,List.take_length] at eQ
   exact⟨_,rfl,q d H' hd eQ e⟩
variable {uC uP uI uD uL uT fb fe fg uG uS:Tok}{Ch:Addr}
def rO(KV L:List (Key×V)):List (Key×V):=(L.filter fun p=>decide (¬aM KV p.1=0)).map fun p=>(p.1,V.int (aM KV p.1))
theorem Eh{KV L:List (Key×V)}{i:Nat}{p:Key×V}(h:L[i]? =some p)(z:aM KV p.1=0):rO KV (L.take (i+1))=rO KV (L.take i):=by
 unfold rO
 rw[take_snoc h,List.filter_append,show [p].filter (fun p=>decide (¬aM KV p.1=0))=[] by simp [z],List.append_nil]
theorem Ei{KV L:List (Key×V)}{i:Nat}{p:Key×V}(h:L[i]? =some p)(z:¬aM KV p.1=0):rO KV (L.take (i+1))=rO KV (L.take i)++[(p.1,V.int (aM KV p.1))]:=by
 unfold rO
 rw[take_snoc h,List.filter_append,show [p].filter (fun p=>decide (¬aM KV p.1=0))=[p] by simp [z],List.map_append]
 rfl
theorem yN(KV L:List (Key×V)):List.Sublist ((rO KV L).map (·.1)) (L.map (·.1)):=by
 unfold rO
 rw[List.map_map]
 exact(List.filter_sublist (l:=L)).map _
theorem G5(KV:List (Key×V)){L:List (Key×V)}(h:(L.map (·.1)).Nodup):((rO KV L).map (·.1)).Nodup:=(yN KV L).nodup h
theorem BX(KV L:List (Key×V)):bu (rO KV L):=by
 intro p hp
 obtain⟨q,_,rfl⟩:=List.mem_map.mp hp
 exact⟨_,rfl⟩
theorem wW(KV L:List (Key×V)):(rO KV L).length≤L.length:=by
 unfold rO
 rw[List.length_map]
 exact List.length_filter_le _ _
def uO(xs ys:List Tm):List (Key×V):=a9 (-1) (a9 1 [] (fV ys)) (fV xs)
def ig(xs ys:List Tm):List (Key×V):=rO (uO xs ys) (uO xs ys)
theorem BY(xs ys:List Tm):bu (uO xs ys):=iB _ _ _ (cI _)
theorem G6(xs ys:List Tm):((uO xs ys).map (·.1)).Nodup:=wc _ _ _ (iH _)
theorem wX(xs ys:List Tm):(uO xs ys).length≤xs.length+ys.length:=by
 have h1:=iC (-1) (fV xs) (a9 1 [] (fV ys))
 have h2:=dN (fV ys)
 have e:∀zs:List Tm,(fV zs).length=zs.length:=fun zs=>by unfold fV;rw[List.length_map]
 rw[e] at h1 h2
 show (a9 _ _ _).length≤_
 omega
inductive G7(C G Pc Fo Ch:Addr)(vs:List V)(H:Hp)(Q:VK)(E:XK):Prop
 |mk (c:Addr) (xs ys:List Tm) (dR:vs=[.ref c]) (dS:dC C G Pc Fo Ch H c xs ys) (dW:(∀x∈xs,cV x.2)) (eZ:(∀y∈ys,cV y.2)) (gz:xs.length≤20) (jb:ys.length≤20) (nM:∀e H',H e=none→H' e=some (.dK (ig xs ys))→au H H'→Q (.ref e) H')
def wY(C G Pc Fo Ch:Addr):Sp:=G7 C G Pc Fo Ch
theorem G8{X:Cx}{D:Ends}{c d e:Addr}{v3:Option V}{H:Hp}{acc gq:List (Key×V)}(hu:X.A.units+1<cLine)(hd:H d=some (.dK acc))(he:H e=some (.dK gq))(nX:d≠e)(hI:bu acc)(S':bu gq)(hl:acc.length+gq.length≤1000)
  (fin:∀z:Option V,D.nx [some (.ref c),some (.ref d),some (.ref e),z] (upd H d (.dK (iP (-1) acc gq gq)))):
  Fv X (NT (Fu X (jS 2)) (cN 3) (Fj (jS 1) (jS 3) (NU (Jt fun i j=> .int (i - j)) (zN (jS 1) (jS 3) (tC (.int 0))) (Fi (jS 2) (jS 3))))) D [some (.ref c),some (.ref d),some (.ref e),v3] H:=by
 refine⟨_,rfl,e,gq,rfl,he,fun o nf=>gg nf (fun j σ H'=>∃z:Option V,σ=[some (.ref c),some (.ref d),some (.ref e),z]∧H'=upd H d (.dK (iP (-1) acc (gq.take j) gq))) ?_ ?_ ?_ ?_⟩
 ·exact⟨v3,rfl,(eB hd).symm⟩
 ·rintro i σ H' ⟨_,_,rfl⟩
  rw[ah (Ne.symm nX)]
  exact he
 ·rintro i k v σ H' hi ⟨z,rfl,rfl⟩
  have nW:∀o',(upd (upd H d (.dK (iP (-1) acc (gq.take i) gq))) e o') d=some (.dK (iP (-1) acc (gq.take i) gq)):=fun o'=>by rw[ah nX];exact aa
  have hv:=S'.f6 (List.mem_of_getElem? hi)
  have G0:bu (iP (-1) acc (gq.take i) gq):=mul_int (-1) gq _ _ hI
  have hli:=wK (-1) gq (gq.take i) acc
  have D8:(gq.take i).length≤gq.length:=List.length_take_le' _ _
  refine⟨_,rfl,d,rfl, .inl ⟨_, .inl (nW _)⟩,_,rfl,_,gI.k (k:=k) (nW _),_,rfl,_,rfl,e,V.int (aM gq k),rfl, .inl ⟨_,k, .inr ⟨o,aa⟩,rfl,hv.symm⟩,_,_,G0.at k,rfl,_,rfl,_,rfl,d,_,rfl,jh.k (k:=k) (nW _) (kJ ?_),?_⟩
  ·omega
  ·refine⟨by rw[ah (Ne.symm nX)];exact aa,some (kV k),rfl,?_⟩
   have ez:∀a b:Int,a - b=a+b*(-1):=fun a b=>by omega
   rw[ni nX he,yA (-1) gq acc hi]
   unfold cC
   rw[←ez]
 ·rintro σ H' ⟨z,rfl,rfl⟩
  rw[List.take_length]
  exact fin z
def Pvg(o:Obj)(KV:List (Key×V))(d D2:Addr)(H2:Hp):Nat→St→Hp→Prop:=fun i σ H'=>∃(v:Option V) (ps:List (Addr×Key×V)),σ=[v,some (.ref d)]∧H' d=some (.d8 o (.dK KV))∧H' D2=some (.lst (ps.map fun p=> .ref p.1))∧(∀p∈ps,H' p.1=some (.tup [kV p.2.1,p.2.2]))∧ps.map (·.2)=rO KV (KV.take i)∧∀b o',H2 b=some o'→b≠d→H' b=some o'
theorem p7:ay ["change","more","taken","text"] ["change"] (aj qR):=dA
theorem G9(D:Def K mg "gains" "gains" qR ["change"])(T:oF K mg C R G Pc Fo Ch uK uN uB uE uM uC uP uI uD uL uT fb fe fg uG uS)(c1:bj P w K mg base 8 "side_counts" ["terms"] (gS C G Pc Fo)):bj P w K mg base 9 "gains" ["change"] (wY C G Pc Fo Ch):=by
 obtain⟨_,_,aZ⟩:=c1
 refine D.dh p7 (fun vs H Q E h=>?_) (fun f bp A outer s H vs Q E hr h=>?_)
 ·obtain⟨c,xs,ys,rfl,_⟩:=h
  rfl
 ·obtain⟨c,xs,ys,rfl,⟨dc,l,r,hc,hl,Jy⟩,lC,wV,lx,ly,q⟩:=h
  have hu:=dz hr
  have big:(2000 :Nat) <sizeLine:=by decide
  refine⟨_,(ai
     (aB (i:=1) p7.nd rfl (Or.inr rfl) (aJ aZ.ok (hr.mono (by decide)) rfl aZ.g aZ.kp aZ.b .nil az (af (a5 (pv 0) rfl) ak)))
    (ai
     (aB (i:=2) p7.nd rfl (Or.inl rfl) (aJ aZ.ok (hr.mono (by decide)) rfl aZ.g aZ.kp aZ.b .nil az (af (a5 (pv 0) rfl) ak)))
    (ai
     (eF (bO PassesOwn.never rfl (dU (pv 2)) (aD (i:=3) p7.nd rfl (Or.inl rfl))
      (ao
       (cZ hu (pv 1) (pv 3) (aA jW (bZ hu (pv 1) (pv 3) aq ⟨rfl,rfl,rfl,rfl⟩) (cY hu (pv 2) (pv 3) (fun _ _=>rfl))) rfl))))
    (ao
     (aE (bI (lR rfl) rfl T.ko jl (af (pK (fy (sc:=(aj qR)) (NX:=["change","more","taken","text"]) (N:=["text","more"]) (fr:=[none,some 1]) ⟨by rfl,by rfl,by decide+kernel,by decide+kernel,by decide+kernel,by rfl,by decide+kernel⟩ rfl rfl rfl (dU (pv 1)) (fun _ _ _ _=>(aD (i:=0) (show (["text","more"]:List Str).Nodup by decide+kernel) rfl (Or.inl rfl) (Or.inr rfl))) (fun _ _ _ _=>(mn (aO ql (cY hu (pv 1) (pv 0) (fun _ _=>rfl)) aq (aX _)))) (fun _ _ _ _=>(bQ (af (pv 0) (af (cY hu (pv 1) (pv 0) (fun _ _=>rfl)) ak)))))) ak))))))),?_⟩
  refine⟨_,rfl,c,Ch,dc,_,_,rfl,hc,T.b5,T.i',gQ _ _,r,ys,rfl,Jy,wV,ly,fun d H1 nd hd e1=>?_⟩
  refine⟨_,rfl,c,Ch,dc,_,_,rfl,e1 _ _ hc,T.b5,T.hV,eR _ _,l,xs,rfl,hl.same e1,lC,lx,fun e H2 ne he e2=>?_⟩
  have nX:d≠e:=ag hd ne
  have hd2:=e2 _ _ hd
  have Q8:=dN (fV xs)
  have hy1:=dN (fV ys)
  have lt:∀zs:List Tm,(fV zs).length=zs.length:=fun zs=>by unfold fV;rw[List.length_map]
  rw[lt] at Q8 hy1
  refine G8 hu hd2 he nX (cI _) (cI _) (by omega) fun z=>?_
  rw[wo (-1) 1 (fV xs) (cI _) (iH _),Int.one_mul]
  have hI:=BY xs ys
  have hn:=G6 xs ys
  have oJ:=wX xs ys
  have hq:ig xs ys=rO (uO xs ys) (uO xs ys):=rfl
  show _
  generalize hK:uO xs ys=KV at hI hn oJ hq
  rw[show a9 (-1) (a9 1 [] (fV ys)) (fV xs)=KV from hK]
  have e02:∀b o',H b=some o'→(upd H2 d (.dK KV)) b=some o':=fun b o' z=>by
   rw[ah (ag z nd)]
   exact e2 _ _ (e1 _ _ z)
  have MN:(upd H2 d (.dK KV)) d=some (.dK KV):=aa
  generalize upd H2 d (.dK KV)=H3 at e02 MN ⊢
  refine⟨_,rfl,d,_,rfl,MN,fun o nf D2 Jz=>?_⟩
  have K':D2≠d:=fun z=>by rw[z,aa] at Jz;cases Jz
  have Tb:H3 D2=none:=by rwa [ah K'] at Jz
  have gen:∀i σ H',Pvg o KV d D2 H3 i σ H'→H' d=some (.d8 o (.dK KV)):=fun i σ H' ⟨_,_,_,z,_⟩=>z
  refine kL (a:=d) (D:=D2) (kvs:=KV) (Pvg o KV d D2 H3) ?_ gen ?_ ?_
  ·exact⟨none,[],rfl,by rw[ah (Ne.symm K'),aa],aa,(fun p hp=>by cases hp),rfl,fun b o' z hb=>by rw[ah (ag z Tb),ah hb];exact z⟩
  ·rintro i k v σ H' hi ⟨v',ps,rfl,f1,f2,f3,f4,f5⟩ N hN
   have hv:=hI.f6 (List.mem_of_getElem? hi)
   have gH:ps.length≤40:=by
    have h1:=congrArg List.length f4
    have h2:=wW KV (KV.take i)
    rw[List.length_map] at h1
    rw[List.length_take] at h2
    omega
   refine⟨_,rfl,_,rfl,d,V.int (aM KV k),rfl, .inl ⟨_,k, .inr ⟨o,f1⟩,rfl,hv.symm⟩,rfl,_,rfl,fu (fun ec=>?_) fun ec=>?_⟩
   ·have ec:¬aM KV k=0:=by simpa using ec
    refine⟨_,rfl,_,rfl,_,rfl,d,V.int (aM KV k),rfl, .inl ⟨_,k, .inr ⟨o,f1⟩,rfl,hv.symm⟩,(by show 2≤sizeLine;decide),fun t ht=>?_⟩
    have Tc:D2≠t:=ag f2 ht
    have ndt:d≠t:=ag f1 ht
    refine⟨_,by rw[ah Tc];exact f2,by rw[List.length_map];omega,hN _ _ ⟨_,ps++[(t,k,V.int (aM KV k))],rfl,?_,?_,?_,?_,?_⟩⟩
    ·rw[ah (Ne.symm K'),ah ndt];exact f1
    ·rw[aa,List.map_append];rfl
    ·intro p hp
     rcases List.mem_append.mp hp with hp|hp
     ·have p1:=f3 p hp
      rw[ah (cG p1 f2 (by intro z;cases z)),ah (ag p1 ht)]
      exact p1
     ·have e':p=(t,k,V.int (aM KV k)):=by simpa using hp
      subst e'
      rw[ah (Ne.symm Tc)];exact aa
    ·rw[List.map_append,f4,Ei hi ec]
     rfl
    ·intro b o' e' hb
     rw[ah (ag e' Tb),ah (ag (f5 b o' e' hb) ht)]
     exact f5 b o' e' hb
   ·have ec:aM KV k=0:=by simpa using ec
    exact hN _ _ ⟨_,ps,rfl,f1,f2,f3,by rw[f4,Eh hi ec],f5⟩
  rintro σ H' ⟨v',ps,rfl,f1,f2,f3,f4,f5⟩
  rw[List.take_length] at f4
  refine⟨d,o,KV,f1,nf,D2,ps,rfl,by rw[ah K'];exact f2,fun p hp=>by rw[ah (cG (f3 p hp) f1 (by intro z;cases z))];exact f3 p hp,fun w hw=>?_⟩
  have e8:cq [] (ps.map (·.2))=rO KV KV:=by
   rw[f4,nh _ [] (by rw[List.nil_append];exact G5 KV hn),List.nil_append]
  have Td:au H (upd H' d (.dK KV)):=fun b o' z=>by
   have zd:b≠d:=ag z nd
   rw[ah zd]
   exact f5 b o' (e02 b o' z) zd
  rw[e8]
  exact q w _ (none_back Td hw) (by rw[aa,hq]) (Td.trans (au.new hw))
variable {uC uP uI uD uL uT fb fe fg:Tok}{Ch:Addr}
structure G'(K:PySem.W.Frag)(mg:Str→Option Value)(C R G Pc Fo Ch:Addr)(uK uN uB uE uM uC uP uI uD uL uT fb fe fg:Tok):Prop extends GU K mg C R G Pc Fo Ch uK uN uB uE uM uC uP uI uD uL uT fb fe fg where
 yO:mg "sorted" =none
 n_all:mg "all" =none
def jQ(x:Fm):List (Key×V):=putK (cW 1 x.1) (Sum.inr "+") (.int x.2)
theorem BZ{x:Fm}(h:cV x):(cW 1 x.1).length≤7:=Az h.2.2
theorem La(x:Fm):bu (jQ x):=(wJ x.1).put _ _
inductive AH(C G Pc Fo:Addr)(vs:List V)(H:Hp)(Q:VK)(E:XK):Prop
 |mk (f:Addr) (x:Fm) (dR:vs=[.ref f]) (dS:o5 C G Pc Fo 1 H f x.1 x.2) (dW:cV x) (eZ:∀e H',H e=none→H' e=some (.dK (jQ x))→au H H'→Q (.ref e) H')
def uQ(C G Pc Fo:Addr):Sp:=AH C G Pc Fo
theorem uR:ay ["formula","amounts"] ["formula"] (aj mI):=dA
theorem AI(D:Def K mg "formula_amounts" "formula_amounts" mI ["formula"])(T:GU K mg C R G Pc Fo Ch uK uN uB uE uM uC uP uI uD uL uT fb fe fg)(c1:aK P w K mg base 7 Fo "counts" ["self"] (l6 C G Pc Fo 1)):bj P w K mg base 8 "formula_amounts" ["formula"] (uQ C G Pc Fo):=by
 obtain⟨_,_,b8⟩:=c1
 refine D.dh uR (fun vs H Q E h=>?_) (fun f bp A outer s H vs Q E hr h=>?_)
 ·obtain⟨f,x,rfl,_⟩:=h
  rfl
 ·obtain⟨fo,x,rfl,hF,aV,q⟩:=h
  have hu:=dz hr
  have big:(2000 :Nat)≤sizeLine:=by decide
  obtain⟨dx,l,ps,hf,_⟩:=id hF
  have hz:(x.1.flatMap (cD 1)).length≤400:=Nat.le_trans aV.2.2 (by decide)
  refine⟨_,(ai
     (aB (i:=1) uR.nd rfl (Or.inl rfl) (aN (pv 0) T.bM b8.m b8.ok (hr.mono (by decide)) b8.b .nil az))
    (ai
     (cZ hu (pv 1) (bw (v:= .str "+") rfl T.wy ⟨_,rfl⟩) (a5 (pv 0) rfl) rfl)
    (ao
     (aE (pv 1))))),?_⟩
  refine⟨_,rfl,fo,dx,_,rfl,hf,rp _ _ (by decide+kernel) (by decide+kernel),fo,x.1,x.2,rfl,hF,aV.1,hz,fun e H' ne he es=>?_⟩
  have hl:=BZ aV
  refine⟨_,rfl,fo,Fo,dx,_,_,rfl,es _ _ hf,T.bM,T.lU,m7 _ _,_,rfl,e,_,rfl,jh.k (k:=Sum.inr "+") he (by omega),?_⟩
  exact⟨_,rfl,q e _ ne aa fun b o z=>by rw[ah (ag z ne)];exact es _ _ z⟩
def MO(zs:List Tm):List Key:=zs.foldl (fun ks z=>fA ks ((cW 1 z.2.1).map (·.1))) []
def Tf:Key→Option Str
 | .inr s=>some s
 | .inl _=>none
def Tg(zs:List Tm):List Str:=(MO zs).filterMap Tf
def yP(ks:List Key):Prop:=∀k∈ks,∃s:Str,k=Sum.inr s
theorem B0{ks:List Key}(h:yP ks):(ks.filterMap Tf).map Sum.inr=ks:=by
 induction ks with
 |nil=>rfl
 |cons k r ih=>
  obtain⟨s,rfl⟩:=h k (List.mem_cons_self ..)
  show (s::r.filterMap Tf).map Sum.inr=_
  rw[List.map_cons,ih fun k hk=>h k (List.mem_cons_of_mem _ hk)]
theorem yQ{ks ls:List Key}(h1:yP ks)(h2:yP ls):yP (fA ks ls):=fun k hk=>by
 rcases qX.mp hk with h|h
 ·exact h1 k h
 ·exact h2 k h
theorem Lb(xs:List jP):(cW 1 xs).map (·.1)=fA [] ((xs.flatMap (cD 1)).map fun p=>(Sum.inr p.1 :Key)):=by
 unfold cW
 rw[pW,kg,List.map_map]
 rfl
theorem B1(xs:List jP):yP ((cW 1 xs).map (·.1)):=by
 rw[Lb]
 refine yQ (fun k hk=>by cases hk) fun k hk=>?_
 obtain⟨p,_,rfl⟩:=List.mem_map.mp hk
 exact⟨_,rfl⟩
theorem Hc{zs:List Tm}{i:Nat}{z:Tm}(h:zs[i]? =some z):MO (zs.take (i+1))=fA (MO (zs.take i)) ((cW 1 z.2.1).map (·.1)):=by
 unfold MO
 rw[take_snoc h,List.foldl_append]
 rfl
theorem Hd(zs:List Tm):yP (MO zs):=by
 have:∀(zs:List Tm) (ks:List Key),yP ks→yP (zs.foldl (fun ks z=>fA ks ((cW 1 z.2.1).map (·.1))) ks):=by
  intro zs
  induction zs with
  |nil=>intro ks h;exact h
  |cons z r ih=>intro ks h;exact ih _ (yQ h (B1 _))
 exact this zs [] fun k hk=>by cases hk
theorem wZ(zs:List Tm):MO zs=(Tg zs).map Sum.inr:=(B0 (Hd zs)).symm
theorem rP:∀(more acc:List (Key×V)),(cq acc more).map (·.1)=fA (acc.map (·.1)) (more.map (·.1))
 | [],_=>rfl
 |p::r,acc=>by
  show (cq (putK acc p.1 p.2) r).map (·.1)=fA (jO (acc.map (·.1)) p.1) (r.map (·.1))
  rw[rP r,qW]
def B2(zs:List Tm)(ms:List Str):Prop:=ms.Perm (Tg zs)∧PyProof.Rows.sortedS ms=true
def yR(zs:List Tm):Nat:=(zs.map fun z=>(z.2.1.flatMap (cD 1)).length).sum
theorem He{zs:List Tm}{i:Nat}{z:Tm}(h:zs[i]? =some z):yR (zs.take (i+1))=yR (zs.take i)+(z.2.1.flatMap (cD 1)).length:=by
 unfold yR
 rw[take_snoc h,List.map_append,List.sum_append]
 simp
theorem Hf(zs:List Tm)(i:Nat):yR (zs.take i)≤yR zs:=by
 unfold yR
 conv=>rhs;rw[←List.take_append_drop i zs,List.map_append,List.sum_append]
 omega
theorem jB{α β:Type}{p q:α→β→Prop}:∀{as:List α} {bs:List β},(∀a b,a∈as→p a b→q a b)→Paired p as bs→Paired q as bs
 |_,_,_, .nil=> .nil
 |_,_,h, .cons x t=> .cons (h _ _ (List.mem_cons_self ..) x) (jB (fun a b ha=>h a b (List.mem_cons_of_mem _ ha)) t)
theorem yS:∀(ls ks:List Key),(fA ks ls).length≤ks.length+ls.length
 | [],_=>Nat.le_refl _
 |k::r,ks=>by
  have h1:=yS r (jO ks k)
  have h2:(jO ks k).length≤ks.length+1:=by
   unfold jO
   split
   ·omega
   ·rw[List.length_append];exact Nat.le_refl _
  show (fA (jO ks k) r).length≤_
  rw[List.length_cons]
  omega
inductive Hg(C G Pc Fo Ch:Addr)(vs:List V)(H:Hp)(Q:VK)(E:XK):Prop
 |mk (c:Addr) (xs ys:List Tm) (dR:vs=[.ref c]) (dS:dC C G Pc Fo Ch H c xs ys) (dW:(∀z∈xs++ys,cV z.2)) (eZ:(xs++ys).length≤20) (gz:yR (xs++ys)≤60) (jb:∀l ms H',B2 (xs++ys) ms→H l=none→H' l=some (.lst ((ms++[("+" :Str)]).map V.str))→au H H'→Q (.ref l) H')
def B3(C G Pc Fo Ch:Addr):Sp:=Hg C G Pc Fo Ch
theorem p8:ay ["self","found","count","formula"] ["self"] (aj vR):=dA
theorem jC{α β:Type}{p:α→β→Prop}:∀{as:List α} {bs:List β} {cs:List α} {ds:List β},Paired p as bs→Paired p cs ds→Paired p (as++cs) (bs++ds)
 |_,_,_,_, .nil,h=>h
 |_,_,_,_, .cons h t,h2=> .cons h (jC t h2)
theorem Hh(D:bg K Ch "kinds" "Change.kinds" vR ["self"])(T:G' K mg C R G Pc Fo Ch uK uN uB uE uM uC uP uI uD uL uT fb fe fg)(c1:aK P w K mg base 7 Fo "counts" ["self"] (l6 C G Pc Fo 1)):aK P w K mg base 8 Ch "kinds" ["self"] (B3 C G Pc Fo Ch):=by
 obtain⟨_,_,b8⟩:=c1
 refine D.dh p8 (fun vs H Q E h=>?_) (fun f bp A outer s H vs Q E hr h=>?_)
 ·obtain⟨c,xs,ys,rfl,_⟩:=h
  rfl
 ·obtain⟨c,xs,ys,rfl,⟨dx,l,r,hc,⟨ts,hl,hT⟩,⟨us,Jy,hU⟩⟩,aV,h8,h60,q⟩:=h
  have hu:=dz hr
  have big:(2000 :Nat)≤sizeLine:=by decide
  have hP:=jC hT hU
  have lp:=Paired.length hP
  refine⟨_,(ai
     (aB (i:=1) p8.nd rfl (Or.inl rfl) dw)
    (ai
     (bO PassesOwn.never rfl (bX (aA nS (a5 (pv 0) rfl) (a5 (pv 0) rfl))) (fi rfl (aQ (aD (i:=2) p8.nd rfl (Or.inl rfl)) (aQ (aD (i:=3) p8.nd rfl (Or.inl rfl)) cK)))
      (ao
       (bb (Kf (pv 1) (aN (pv 3) T.bM b8.m b8.ok (hr.mono (by decide)) b8.b .nil az) ⟨rfl,rfl,rfl,rfl⟩))))
    (ao
     (aE (aA nS (bS (mz rfl) rfl T.yO tP (af (pv 1) ak)) (cA (af (bw (v:= .str "+") rfl T.wy ⟨_,rfl⟩) ak))))))),?_⟩
  refine fun e0 sA=>?_
  have s0:=au.new (o:= .dK []) sA
  have hc0:=s0 _ _ hc
  refine⟨_,rfl,c,Ch,dx,_,_,rfl,hc0,T.b5,T.hV,eR _ _,_,rfl,c,Ch,dx,_,_,rfl,hc0,T.b5,T.i',gQ _ _,l,r,_,_,rfl,rfl,s0 _ _ hl,s0 _ _ Jy,?_,fun L hL=>?_⟩
  ·rw[List.length_map,List.length_map,←List.length_append,lp]
   omega
  have s1:=s0.trans (au.new (o:= .lst (ts.map V.ref++us.map V.ref)) hL)
  have RA:e0≠L:=ag aa hL
  refine⟨L,rfl,⟨_,bJ.of aa⟩,c9 (K:=K) (a:=L) (xs:=(ts++us).map V.ref) (fun i σ H'=>∃(kvs:List (Key×V)) (v2 v3:Option V),σ=[some (.ref c),some (.ref e0),v2,v3]∧H' e0=some (.dK kvs)∧kvs.map (·.1)=MO ((xs++ys).take i)∧kvs.length≤yR ((xs++ys).take i)∧au H H'∧H' L=some (.lst ((ts++us).map V.ref))) ?_ (fun i σ H' _ ⟨_,_,_,_,_,_,_,_,z⟩=>bJ.of z) ?_ ?_⟩
  ·exact⟨[],none,none,rfl,by rw[ah RA,aa],rfl,Nat.zero_le _,s1,by rw[aa,List.map_append]⟩
  ·rintro i v σ H' hi ⟨kvs,v2,v3,rfl,he,hk,oJ,e,lA⟩
   rw[List.getElem?_map] at hi
   obtain⟨t,ht,rfl⟩:∃p,(ts++us)[i]? =some p∧v=V.ref p:=by
    cases hh:(ts++us)[i]? with
    |none=>rw[hh] at hi;cases hi
    |some p=>rw[hh] at hi;exact⟨p,rfl,(Option.some.inj hi).symm⟩
   obtain⟨z,hz,fo,h1,h2⟩:=bo hP ht
   have Pb:=aV z (List.mem_of_getElem? hz)
   have zt:i< (xs++ys).length:=(List.getElem?_eq_some_iff.mp hz).1
   obtain⟨dy,fl,fps,hfo,_⟩:=id h2
   refine⟨t,_,rfl,ir.of (e _ _ h1),rfl,_,_,rfl,_,_,rfl,rfl,?_⟩
   refine⟨_,rfl,e0,rfl, .inl ⟨_, .inl he⟩,_,rfl,fo,dy,_,rfl,e _ _ hfo,rp _ _ (by decide+kernel) (by decide+kernel),fo,z.2.1,z.2.2,rfl,h2.same e,Pb.1,Nat.le_trans Pb.2.2 (by decide),fun b cy nb hb e'=>?_⟩
   have Rh:(cW 1 z.2.1).length≤(z.2.1.flatMap (cD 1)).length:=dN _
   have Ti:=eh (cW 1 z.2.1) kvs
   have hfs:=He hz
   have hfl:=Hf (xs++ys) i
   have hz7:=Pb.2.2
   have neb:e0≠b:=ag he nb
   refine⟨b,kvs,_,rfl,e' _ _ he,hb,neb,by omega,cq kvs (cW 1 z.2.1),_,_,rfl,aa,?_,by omega,fun b' o w=>?_,?_⟩
   ·rw[rP,hk,Hc hz]
   ·rw[ah (ag w sA)]
    exact e' _ _ (e _ _ w)
   ·rw[ah (Ne.symm RA)]
    exact e' _ _ lA
  ·rintro σ H' ⟨kvs,v2,v3,rfl,he,hk,oJ,e,lA⟩
   rw[List.length_map,lp] at hk oJ
   rw[List.take_length] at hk oJ
   have xx:(Tg (xs++ys)).length<64:=by
    have:=congrArg List.length hk
    rw[wZ,List.length_map,List.length_map] at this
    omega
   refine⟨_,rfl,e0,kvs,Tg (xs++ys),rfl, .inl he,by rw[hk,wZ],xx,fun m ms pm sm hm=>⟨(by show 1≤sizeLine;decide),fun n hn=>?_⟩⟩
   have S9:m≠n:=ag aa hn
   refine⟨m,n,ms.map V.str,[V.str "+"],rfl,rfl,by rw[ah S9,aa],aa,?_,fun p hp=>?_⟩
   ·rw[List.length_map,pm.length_eq]
    show _+1≤sizeLine
    omega
   have s2:=(au.new (o:= .lst (ms.map V.str)) hm).trans (au.new (o:= .lst [V.str "+"]) hn)
   have hpH:H p=none:=none_back (e.trans s2) hp
   refine q p ms _ ⟨pm,sm⟩ hpH ?_ ((e.trans s2).trans (au.new hp))
   rw[aa,List.map_append]
   rfl
variable {uC uP uI uD uL uT fb fe fg:Tok}{Ch:Addr}
def fW(c:Int)(acc l all:List (Key×V)):List (Key×V):=l.foldl (fun acc p=>cC acc p.1 (c*aM all p.1)) acc
theorem yT(c:Int)(all:List (Key×V)):∀(l acc:List (Key×V)),fW c acc l all=cM acc (l.map fun p=>(p.1,c*aM all p.1))
 | [],_=>rfl
 |p::r,acc=>yT c all r _
theorem cR(c:Int)(all:List (Key×V)):∀(l acc:List (Key×V)),bu acc→bu (fW c acc l all)
 | [],_,h=>h
 |_::r,_,h=>cR c all r _ (h.add _ _)
theorem gk(c:Int)(all:List (Key×V)):∀(l acc:List (Key×V)),(fW c acc l all).length≤acc.length+l.length
 | [],_=>Nat.le_refl _
 |p::r,acc=>by
  have h1:=gk c all r (cC acc p.1 (c*aM all p.1))
  have h2:(cC acc p.1 (c*aM all p.1)).length≤acc.length+1:=cp _ _ _
  show (fW c (cC acc p.1 (c*aM all p.1)) r all).length≤_
  rw[List.length_cons]
  omega
theorem oK(c:Int){D:List (Key×V)}(hn:(D.map (·.1)).Nodup)(acc:List (Key×V))(j:Key):aM (fW c acc D D) j=aM acc j+c*aM D j:=by
 rw[yT,mX]
 congr 1
 have e:=wm (fun k=>c*aM D k) j hn
 rw[List.map_map] at e
 have e2:sumK (D.map fun p=>(p.1,c*aM D p.1)) j=if j∈D.map (·.1) then c*aM D j else 0:=by
  rw[←e]
  unfold sumK
  rw[List.map_map]
  rfl
 rw[e2]
 split
 ·rfl
 ·rename_i h
  rw[mZ h,Int.mul_zero]
def sumZ(zs:List Tm)(k:Key):Int:=(zs.map fun z=>z.1*aM (jQ z.2) k).sum
theorem sumZ_snoc{zs:List Tm}{i:Nat}{z:Tm}(h:zs[i]? =some z)(k:Key):sumZ (zs.take (i+1)) k=sumZ (zs.take i) k+z.1*aM (jQ z.2) k:=by
 unfold sumZ
 rw[take_snoc h,List.map_append,List.sum_append]
 simp
theorem Pd(x:Fm):((jQ x).map (·.1)).Nodup:=wb (iH _)
theorem Lc{x:Fm}(h:cV x):(jQ x).length≤8:=by
 have h1:=BZ h
 have h2:(jQ x).length≤(cW 1 x.1).length+1:=cp _ _ _
 omega
theorem rQ:∀(d:Nat) (m:Int) (t:Tr),uc d t→0≤m→∀p∈br d m t,0≤p.2∧p.2≤999*(999^d*m)
 |d,m, .one k n,h,hm,p,hp=>by
  have e:br d m (.one k n)=[(⟨k.toArray⟩,n*m)]:=by cases d<;>rfl
  rw[e] at hp
  have h:lT k∧1≤n∧n≤999:=by cases d<;>exact h
  have ep:p=(⟨k.toArray⟩,n*m):=by simpa using hp
  rw[ep]
  have p1:(1 :Int)≤999^d:=Int.pow_pos (by decide)
  have p2:m≤999^d*m:=by
   have:=Int.mul_le_mul_of_nonneg_right p1 hm
   rwa [Int.one_mul] at this
  refine⟨Int.mul_nonneg (by omega) hm,?_⟩
  exact Int.le_trans (Int.mul_le_mul_of_nonneg_right h.2.2 hm) (Int.mul_le_mul_of_nonneg_left p2 (by decide))
 |0,_, .gr _ _,h,_,_,_=>h.elim
 |d+1,m, .gr ts n,h,hm,p,hp=>by
  obtain⟨t,ht,hp⟩:=List.mem_flatMap.mp hp
  obtain⟨_,h1,n1,n2⟩:=h
  have nm:0≤n*m:=Int.mul_nonneg (by omega) hm
  obtain⟨q1,q2⟩:=rQ d (n*m) t (h1 t ht) nm p hp
  refine⟨q1,Int.le_trans q2 ?_⟩
  have p0:(0 :Int)≤999^d:=Int.le_of_lt (Int.pow_pos (by decide))
  have e:(999 :Int) ^(d+1)*m=999^d*(999*m):=by rw[Int.pow_succ,Int.mul_assoc]
  rw[e]
  exact Int.mul_le_mul_of_nonneg_left (Int.mul_le_mul_of_nonneg_left (Int.mul_le_mul_of_nonneg_right n2 hm) p0) (by decide)
theorem Ld{x:Fm}(h:cV x):F9 (2^60) (cW 1 x.1):=by
 have hb:=wd (t:=1) (b:=1000000000000) (by decide) (x.1.flatMap (cD 1)) [] 0 (Int.le_refl _) (fun p hp=>by cases hp) fun p hp=>by
  obtain⟨y,hy,hp⟩:=List.mem_flatMap.mp hp
  obtain⟨_,h1,n1,n2⟩:=kZ h.1 y hy
  obtain⟨t,ht,hp⟩:=List.mem_flatMap.mp hp
  obtain⟨q1,q2⟩:=rQ 1 y.1 t (h1 t ht) (by omega) p hp
  rw[Int.mul_one]
  refine⟨q1,?_⟩
  have:(999 :Int) ^1*y.1≤999*999:=by
   rw[show (999 :Int) ^1=999 from rfl]
   exact Int.mul_le_mul_of_nonneg_left n2 (by decide)
  omega
 intro p hp
 obtain⟨i,e,b0,b1⟩:=hb p hp
 refine⟨i,e,b0,?_⟩
 have:=h.2.2
 have:(2 :Int) ^60=1152921504606846976:=by decide
 have e7:((x.1.flatMap (cD 1)).length:Int)*1000000000000≤7*1000000000000:=Int.mul_le_mul_of_nonneg_right (by omega) (by decide)
 omega
theorem B4{x:Fm}(h:cV x): -999≤x.2∧x.2≤999:=by
 obtain⟨h,_,_⟩:=h
 obtain⟨xs,n⟩:=x
 cases xs with
 |nil=>
  have:n= -1:=h
  subst this
  exact⟨by decide,by decide⟩
 |cons y r=>exact⟨h.2.2.1,h.2.2.2⟩
theorem Ej{x:Fm}(h:cV x)(k:Key): -(2^64) <aM (jQ x) k∧aM (jQ x) k<2^64:=by
 unfold jQ
 rw[iF]
 split
 ·have:=B4 h
  omega
 ·have:=(Ld h).SU (by decide) k
  omega
inductive rR(C G Pc Fo:Addr)(vs:List V)(H:Hp)(Q:VK)(E:XK):Prop
 |mk (l:Addr) (xs:List Tm) (dR:vs=[.ref l]) (dS:hX C G Pc Fo H l xs) (dW:(∀x∈xs,cV x.2)) (eZ:xs.length≤20) (gz:∀e kvs H',H e=none→H' e=some (.dK kvs)→bu kvs→(∀k,aM kvs k=sumZ xs k)→au H H'→Q (.ref e) H')
def lG(C G Pc Fo:Addr):Sp:=rR C G Pc Fo
theorem dG:ay ["terms","total","count","formula","amounts","kind"] ["terms"] (aj gN):=dA
theorem rS(D:Def K mg "side_amounts" "side_amounts" gN ["terms"])(T:G' K mg C R G Pc Fo Ch uK uN uB uE uM uC uP uI uD uL uT fb fe fg)(c1:bj P w K mg base 8 "formula_amounts" ["formula"] (uQ C G Pc Fo)):bj P w K mg base 9 "side_amounts" ["terms"] (lG C G Pc Fo):=by
 obtain⟨_,_,dJ⟩:=c1
 refine D.dh dG (fun vs H Q E h=>?_) (fun f bp A outer s H vs Q E hr h=>?_)
 ·obtain⟨l,xs,rfl,_⟩:=h
  rfl
 ·obtain⟨l,xs,rfl,⟨ts,hl,hP⟩,aV,Zb,q⟩:=h
  have hu:=dz hr
  have big:(2000 :Nat)≤sizeLine:=by decide
  have lp:=Paired.length hP
  refine⟨_,(ai
     (aB (i:=1) dG.nd rfl (Or.inl rfl) dw)
    (ai
     (bO PassesOwn.never rfl (bX (pv 0)) (fi rfl (aQ (aD (i:=2) dG.nd rfl (Or.inl rfl)) (aQ (aD (i:=3) dG.nd rfl (Or.inl rfl)) cK)))
      (ai
       (aB (i:=4) dG.nd rfl (Or.inl rfl) (aJ dJ.ok (hr.mono (by decide)) rfl dJ.g dJ.kp dJ.b .nil az (af (pv 3) ak)))
      (ao
       (eF (bO PassesOwn.never rfl (dU (pv 4)) (aD (i:=5) dG.nd rfl (Or.inl rfl))
        (ao
         (cZ hu (pv 1) (pv 5) (aA bR (bZ hu (pv 1) (pv 5) aq ⟨rfl,rfl,rfl,rfl⟩) (aA fM (pv 2) (cY hu (pv 4) (pv 5) (fun _ _=>rfl)))) rfl)))))))
    (ao
     (aE (pv 1))))),?_⟩
  refine fun e0 sA=>?_
  have s0:=au.new (o:= .dK []) sA
  refine⟨_,rfl,l,rfl,⟨_,bJ.of (s0 _ _ hl)⟩,c9 (K:=K) (a:=l) (xs:=ts.map V.ref) (fun i σ H'=>∃(kvs:List (Key×V)) (v2 v3 v4 v5:Option V),σ=[some (.ref l),some (.ref e0),v2,v3,v4,v5]∧H' e0=some (.dK kvs)∧bu kvs∧(∀k,aM kvs k=sumZ (xs.take i) k)∧kvs.length≤8*i∧au H H') ?_ (fun i σ H' _ ⟨_,_,_,_,_,_,_,_,_,_,z⟩=>bJ.of (z _ _ hl)) ?_ ?_⟩
  ·exact⟨[],none,none,none,none,rfl,aa,GZ,fun _=>rfl,Nat.zero_le _,s0⟩
  ·rintro i v σ H' hi ⟨kvs,v2,v3,v4,v5,rfl,he,hI,hz,oJ,e⟩
   rw[List.getElem?_map] at hi
   obtain⟨t,ht,rfl⟩:∃p,ts[i]? =some p∧v=V.ref p:=by
    cases hh:ts[i]? with
    |none=>rw[hh] at hi;cases hi
    |some p=>rw[hh] at hi;exact⟨p,rfl,(Option.some.inj hi).symm⟩
   obtain⟨z,Tj,fo,h1,h2⟩:=bo hP ht
   have Pb:=aV z (List.mem_of_getElem? Tj)
   have zt:i<xs.length:=(List.getElem?_eq_some_iff.mp Tj).1
   have Zc:=Lc Pb
   refine⟨t,_,rfl,ir.of (e _ _ h1),rfl,_,_,rfl,_,_,rfl,rfl,?_⟩
   refine⟨_,rfl,fo,z.2,rfl,h2.same e,Pb,fun d H2 nd hd e2=>?_⟩
   have Hi:e0≠d:=ag he nd
   have Zd:=e2 _ _ he
   dsimp only [cN]
   refine⟨_,rfl,d,jQ z.2,rfl,hd,fun o nf=>gg nf (fun j σ H3=>∃w:Option V,σ=[some (.ref l),some (.ref e0),some (.int z.1),some (.ref fo),some (.ref d),w]∧H3=upd H2 e0 (.dK (fW z.1 kvs ((jQ z.2).take j) (jQ z.2)))) ?_ ?_ ?_ ?_⟩
   ·exact⟨v5,rfl,(eB Zd).symm⟩
   ·rintro j σ H3 ⟨_,_,rfl⟩
    rw[ah (Ne.symm Hi)]
    exact hd
   ·rintro j k v σ H3 hj ⟨w,rfl,rfl⟩
    have nW:∀o',(upd (upd H2 e0 (.dK (fW z.1 kvs ((jQ z.2).take j) (jQ z.2)))) d o') e0=some (.dK (fW z.1 kvs ((jQ z.2).take j) (jQ z.2))):=fun o'=>by rw[ah Hi];exact aa
    have Ri:=gk z.1 (jQ z.2) ((jQ z.2).take j) kvs
    have D8:((jQ z.2).take j).length≤(jQ z.2).length:=List.length_take_le' _ _
    have G0:=cR z.1 (jQ z.2) ((jQ z.2).take j) kvs hI
    have hv:=(La z.2).f6 (List.mem_of_getElem? hj)
    have Y2:=Ej Pb k
    refine⟨_,rfl,e0,rfl, .inl ⟨_, .inl (nW _)⟩,_,rfl,_,gI.k (k:=k) (nW _),_,rfl,_,rfl,_,rfl,d,V.int (aM (jQ z.2) k),rfl, .inl ⟨_,k, .inr ⟨o,aa⟩,rfl,hv.symm⟩,_,_,rfl,rfl, .inr Y2,_,_,G0.at k,rfl,_,rfl,_,rfl,e0,_,rfl,jh.k (k:=k) (nW _) (by omega),?_⟩
    refine⟨by rw[ah (Ne.symm Hi)];exact aa,some (kV k),rfl,?_⟩
    rw[ni Hi hd]
    unfold fW
    rw[take_snoc hj,List.foldl_append]
    rfl
   ·rintro σ H3 ⟨w,rfl,rfl⟩
    rw[List.take_length]
    have Ri:=gk z.1 (jQ z.2) (jQ z.2) kvs
    refine⟨_,_,_,_,_,rfl,aa,cR z.1 (jQ z.2) (jQ z.2) kvs hI,fun k=>?_,by omega,fun b o' w'=>?_⟩
    ·rw[oK z.1 (Pd _),hz k,sumZ_snoc Tj]
    ·rw[ah (ag w' sA)]
     exact e2 _ _ (e _ _ w')
  ·rintro σ H' ⟨kvs,v2,v3,v4,v5,rfl,he,hI,hz,oJ,e⟩
   rw[List.length_map,lp,List.take_length] at hz
   exact⟨_,rfl,q e0 kvs H' sA he hI hz e⟩
variable {uC uP uI uD uL uT fb fe fg:Tok}{Ch:Addr}
abbrev Tri:=Str×Int×Int
theorem Tn{c A B:Prop}[Decidable c](hc:¬c)(h:A):if (!decide c)=true then A else B:=by
 rw[decide_eq_false hc]
 exact h
def Hj(H:Hp)(t:Addr)(p:Tri):Prop:=H t=some (.tup [.str p.1, .int p.2.1, .int p.2.2])
def yU(ms:List Str)(xs ys:List Tm):List Tri:=ms.map fun k=>(k,sumZ xs (Sum.inr k),sumZ ys (Sum.inr k))
def Hk(ms:List Str)(xs ys:List Tm):List Tri:=(yU ms xs ys).filter fun p=>!decide (p.2.1=p.2.2)
inductive Le(C G Pc Fo Ch:Addr)(vs:List V)(H:Hp)(Q:VK)(E:XK):Prop
 |mk (c:Addr) (xs ys:List Tm) (dR:vs=[.ref c]) (dS:dC C G Pc Fo Ch H c xs ys) (dW:(∀z∈xs++ys,cV z.2)) (eZ:(xs++ys).length≤20) (gz:yR (xs++ys)≤60) (jb:∀L ts ms H',B2 (xs++ys) ms→H L=none→H' L=some (.lst (ts.map V.ref))→Paired (Hj H') ts (Hk (ms++[("+" :Str)]) xs ys)→au H H'→Q (.ref L) H')
def Hl(C G Pc Fo Ch:Addr):Sp:=Le C G Pc Fo Ch
theorem xa:ay ["self","lefts","rights","told"] ["self"] (aj tV):=dA
theorem Hm{zs:List Tm}:(Tg zs).length≤yR zs:=by
 have key:∀(zs:List Tm) (ks:List Key),(zs.foldl (fun ks z=>fA ks ((cW 1 z.2.1).map (·.1))) ks).length≤ks.length+yR zs:=by
  intro zs
  induction zs with
  |nil=>intro ks;exact Nat.le_refl _
  |cons z r ih=>
   intro ks
   have h1:=ih (fA ks ((cW 1 z.2.1).map (·.1)))
   have h2:(fA ks ((cW 1 z.2.1).map (·.1))).length≤ks.length+((cW 1 z.2.1).map (·.1)).length:=yS _ _
   have h3:(cW 1 z.2.1).length≤(z.2.1.flatMap (cD 1)).length:=dN _
   have h4:yR (z::r)=(z.2.1.flatMap (cD 1)).length+yR r:=rfl
   rw[List.length_map] at h2
   rw[List.foldl_cons]
   omega
 have h:=key zs []
 have e:=congrArg List.length (wZ zs)
 rw[List.length_map] at e
 rw[←e]
 have h:(MO zs).length≤0+yR zs:=h
 omega
theorem Lf(D:bg K Ch "lost" "Change.lost" tV ["self"])(T:G' K mg C R G Pc Fo Ch uK uN uB uE uM uC uP uI uD uL uT fb fe fg)(c1:bj P w K mg base 9 "side_amounts" ["terms"] (lG C G Pc Fo))(c2:aK P w K mg base 8 Ch "kinds" ["self"] (B3 C G Pc Fo Ch)):aK P w K mg base 10 Ch "lost" ["self"] (Hl C G Pc Fo Ch):=by
 obtain⟨_,_,cx⟩:=c1
 obtain⟨_,_,ij⟩:=c2
 refine D.dh xa (fun vs H Q E h=>?_) (fun f bp A outer s H vs Q E hr h=>?_)
 ·obtain⟨c,xs,ys,rfl,_⟩:=h
  rfl
 ·obtain⟨c,xs,ys,rfl,hC,aV,Zb,h60,q⟩:=h
  have hu:=dz hr
  have big:(2000 :Nat)≤sizeLine:=by decide
  obtain⟨dx,l,r,hc,hl,Jy⟩:=id hC
  have hla:=List.length_append (as:=xs) (bs:=ys)
  refine⟨_,(ai
     (aB (i:=1) xa.nd rfl (Or.inr rfl) (aJ cx.ok (hr.mono (by decide)) rfl cx.g cx.kp cx.b .nil az (af (a5 (pv 0) rfl) ak)))
    (ai
     (aB (i:=2) xa.nd rfl (Or.inr rfl) (aJ cx.ok (hr.mono (by decide)) rfl cx.g cx.kp cx.b .nil az (af (a5 (pv 0) rfl) ak)))
    (ai
     (mv (i:=3) xa.nd rfl (Or.inl rfl) (sc:=(aj tV)) (NX:=["self","lefts","rights","told"]) (N:=["kind","lefts","rights"]) (fr:=[none,some 1,some 2]) ⟨by rfl,by rfl,by decide+kernel,by decide+kernel,by decide+kernel,by rfl,by decide+kernel⟩ rfl rfl rfl (bX (aN (pv 0) T.b5 ij.m ij.ok (hr.mono (by decide)) ij.b .nil az)) (fun _ _ _ _=>(aD (i:=0) (show (["kind","lefts","rights"]:List Str).Nodup by decide+kernel) rfl (Or.inl rfl) (Or.inr rfl))) (fun _ _ _ _=>fx) (fun _ _ _ _=>(bQ (af (pv 0) (af (bZ hu (pv 1) (pv 0) aq ⟨rfl,rfl,rfl,rfl⟩) (af (bZ hu (pv 2) (pv 0) aq ⟨rfl,rfl,rfl,rfl⟩) ak))))))
    (ao
     (aE (fy (sc:=(aj tV)) (NX:=["self","lefts","rights","told"]) (N:=["each"]) (fr:=[none]) ⟨by rfl,by rfl,by decide+kernel,by decide+kernel,by decide+kernel,by rfl,by decide+kernel⟩ rfl rfl rfl (bX (pv 3)) (fun _ _ _ _=>(aD (i:=0) (show (["each"]:List Str).Nodup by decide+kernel) rfl (Or.inl rfl) (Or.inr rfl))) (fun _ _ _ _=>(mn (aO ql (cf (pM K rfl) (pv 0) aq (fun _ _=>rfl)) (cf (pM K rfl) (pv 0) aq (fun _ _=>rfl)) (aX _)))) (fun _ _ _ _=>(pv 0)))))))),?_⟩
  refine⟨_,rfl,c,Ch,dx,_,_,rfl,hc,T.b5,T.hV,eR _ _,l,xs,rfl,hl,fun x hx=>aV x (List.mem_append_left _ hx),by omega,fun d1 k1 H1 nd1 EN hI1 YU e1=>?_⟩
  refine⟨_,rfl,c,Ch,dx,_,_,rfl,e1 _ _ hc,T.b5,T.i',gQ _ _,r,ys,rfl,Jy.same e1,fun x hx=>aV x (List.mem_append_right _ hx),by omega,fun d2 k2 H2 nd2 hd2 S' hz2 e2=>?_⟩
  have AJ:=e1.trans e2
  have hd12:=e2 _ _ EN
  dsimp only [cN]
  refine⟨_,rfl,c,dx,_,rfl,AJ _ _ hc,yz _ _ (by decide+kernel) (by decide+kernel),c,xs,ys,rfl,hC.same AJ,aV,Zb,h60,fun k ms H3 hK nk hk e3=>?_⟩
  have Lg:=AJ.trans e3
  have hd13:=e3 _ _ hd12
  have hd23:=e3 _ _ hd2
  have Ti:(ms++[("+" :Str)]).length≤100:=by
   have h1:=hK.1.length_eq
   have h2:=Hm (zs:=xs++ys)
   rw[List.length_append]
   show _+1≤100
   omega
  generalize hms:ms++[("+" :Str)]=mp at hk Ti
  refine⟨k,rfl,⟨_,bJ.of hk⟩,fun L hL=>i0 (K:=K) (a:=k) (L:=L) (xs:=mp.map V.str) H3 (fun σ=>∃v:Option V,σ=[v,some (.ref d1),some (.ref d2)]) (fun i zs cy=>∃ts:List Addr,zs=ts.map V.ref∧ts.length=i∧(∀a∈ts,a≠L)∧Paired (Hj cy) ts ((yU mp xs ys).take i))
   (bJ.of hk) ?_ hL ⟨none,rfl⟩ (au.new hL) aa ⟨[],rfl,rfl,(fun a ha=>by cases ha), .nil⟩ (by rw[List.length_map];omega) (fun i ys _ ⟨ps,e1,e2,_⟩=>by rw[e1,List.length_map,e2];exact Nat.le_refl _) ?_ ?_⟩
  ·rintro i ys Ha Hb hb ⟨ds,h1,h2,h3,h4⟩
   exact⟨ds,h1,h2,h3,jB (fun a x ha z=>hb _ _ z (h3 a ha)) h4⟩
  ·rintro j w σ' H5 vs hj ⟨w1,rfl⟩ e5 kn ⟨ts,rfl,AK,hnL,To⟩ N M hN
   rw[List.getElem?_map] at hj
   obtain⟨kk,Ze,rfl⟩:∃m,mp[j]? =some m∧w=V.str m:=by
    cases hh:mp[j]? with
    |none=>rw[hh] at hj;cases hj
    |some m=>rw[hh] at hj;exact⟨m,rfl,(Option.some.inj hj).symm⟩
   have h1:=e5 _ _ hd13
   have h2:=e5 _ _ hd23
   have a1:=hI1.at (Sum.inr kk)
   have a2:=S'.at (Sum.inr kk)
   rw[YU] at a1
   rw[hz2] at a2
   refine⟨_,rfl,_,rfl,d1,rfl, .inl ⟨_, .inl h1⟩,_,rfl,_,gI.k (k:=Sum.inr kk) h1,_,rfl,d2,rfl, .inl ⟨_, .inl h2⟩,_,rfl,_,gI.k (k:=Sum.inr kk) h2,(by show 3≤sizeLine;decide),fun t ht=>?_⟩
   have st:=au.new (o:= .tup [.str kk,(bW k1 (Sum.inr kk)).getD (.int 0),(bW k2 (Sum.inr kk)).getD (.int 0)]) ht
   refine hN _ _ _ ⟨_,rfl⟩ (e5.trans st) (st _ _ kn) ⟨ts++[t],by rw[List.map_append];rfl,by rw[List.length_append,AK];rfl,fun a ha=>?_,?_⟩
   ·rcases List.mem_append.mp ha with ha|ha
    ·exact hnL a ha
    ·have ea:a=t:=by simpa using ha
     subst ea
     exact fun z=>by rw[z,kn] at ht;cases ht
   have hj':(yU mp xs ys)[j]? =some (kk,sumZ xs (Sum.inr kk),sumZ ys (Sum.inr kk)):=by unfold yU;rw[List.getElem?_map,Ze];rfl
   rw[take_snoc hj']
   refine bC ?_ (aw (fun _ _ z=>st _ _ z) To)
   show (upd H5 t _) t=_
   rw[aa,a1,a2]
  rintro H4 vs e4 sQ ⟨ts,rfl,AK,_,To⟩
  have ltr:(yU mp xs ys).length=mp.length:=by unfold yU;rw[List.length_map]
  rw[List.length_map] at AK
  rw[List.length_map,←ltr,List.take_length] at To
  dsimp only [cN]
  refine⟨_,rfl,L,rfl,⟨_,bJ.of sQ⟩,fun L2 pX=>tQ (K:=K) (a:=L) (L:=L2) (xs:=ts.map V.ref) H4 (fun σ=>∃v:Option V,σ=[v]) (fun i zs=>∃us:List Addr,zs=us.map V.ref∧us.length≤i∧Paired (Hj H4) us (((yU mp xs ys).take i).filter fun p=>!decide (p.2.1=p.2.2)))
   (bJ.of sQ) pX ⟨none,rfl⟩ (au.new pX) aa ⟨[],rfl,Nat.le_refl _, .nil⟩ (by rw[List.length_map];omega) (fun i ys ⟨ps,e1,e2,_⟩=>by rw[e1,List.length_map];exact e2) ?_ ?_⟩
  ·rintro j w σ' H5 vs hj ⟨w1,rfl⟩ e5 kn ⟨us,rfl,EY,uU⟩ N M hN hM
   rw[List.getElem?_map] at hj
   obtain⟨t,ht,rfl⟩:∃m,ts[j]? =some m∧w=V.ref m:=by
    cases hh:ts[j]? with
    |none=>rw[hh] at hj;cases hj
    |some m=>rw[hh] at hj;exact⟨m,rfl,(Option.some.inj hj).symm⟩
   obtain⟨p,hp,Lh⟩:=bo To ht
   have Lh:H4 t=some (.tup [.str p.1, .int p.2.1, .int p.2.2]):=Lh
   refine⟨_,rfl,t,_,_,V.int p.2.1,rfl,rfl,ir.of (e5 _ _ Lh),rfl,_,rfl,t,_,_,V.int p.2.2,rfl,rfl,ir.of (e5 _ _ Lh),rfl,rfl,_,rfl,?_⟩
   by_cases hd:p.2.1=p.2.2
   ·refine Fs (by rw[hd]) ?_
    refine hM _ _ ⟨_,rfl⟩ e5 kn ⟨us,rfl,by omega,?_⟩
    rw[take_snoc hp,List.filter_append]
    have:[p].filter (fun p=>!decide (p.2.1=p.2.2))=[]:=by simp [hd]
    rw[this,List.append_nil]
    exact uU
   ·refine Tn (by intro z;injection z with z;exact hd z) ?_
    refine⟨_,rfl,hN _ _ _ ⟨_,rfl⟩ e5 kn ⟨us++[t],by rw[List.map_append];rfl,by rw[List.length_append];show _+1≤_;omega,?_⟩⟩
    rw[take_snoc hp,List.filter_append]
    have:[p].filter (fun p=>!decide (p.2.1=p.2.2))=[p]:=by simp [hd]
    rw[this]
    refine bC ?_ ?_
    ·exact Lh
    ·exact uU
  rintro H5 vs e5 kn ⟨us,rfl,EY,uU⟩
  have lts:=Paired.length To
  rw[List.length_map,lts,List.take_length] at uU
  have Tp:=(Lg.trans e4)
  rw[←hms] at uU
  exact q L2 us ms H5 hK (none_back Tp pX) kn (aw (fun _ _ z=>e5 _ _ z) uU) (Tp.trans e5)
variable {uC uP uI uD uL uT:Tok}{St:Addr}
structure rT(K:PySem.W.Frag)(mg:Str→Option Value)(C R G Pc Fo St:Addr)(uK uN uB uE uM uC uP uI uD uL uT:Tok):Prop extends lB K mg C R G Pc Fo uK uN uB uE uM uC uP uI uD uL uT where
 ko:mg "dict" =none
 n_sum:mg "sum" =none
 cj:tf K St
 eO:cH K St "amounts"
 p9:cH K St "gone"
 Li:mg "Store" =some (.ref St)
theorem Zf:¬(("amounts" :Str)="gone"):=by decide+kernel
def yV(d g:Addr):List (Str×V):=cL "gone" (.ref g) (cL "amounts" (.ref d) [])
theorem iI(d g:Addr):(yV d g).lookup ("amounts" :Str)=some (.ref d):=by
 unfold yV
 rw[aG,if_neg Zf,aG,if_pos rfl]
theorem yW(d g:Addr):(yV d g).lookup ("gone" :Str)=some (.ref g):=by
 unfold yV
 rw[aG,if_pos rfl]
theorem ku(d g:Addr){m:Str}(h1:¬m="gone")(h2:¬m="amounts"):(yV d g).lookup m=none:=by
 unfold yV
 rw[aG,if_neg h1,aG,if_neg h2]
 all_goals rfl
def nj(St:Addr)(H:Hp)(st d g:Addr):Prop:=∃dx,H st=some (.ins St dx (yV d g))
def B5(x:Str):Prop:=∃fm:Fm,cV fm∧x=⟨(fL fm).toArray⟩
inductive Lj(St:Addr)(vs:List V)(H:Hp)(Q:VK)(E:XK):Prop
 |mk (st d g:Addr) (x:Str) (kvs:List (Key×V)) (dR:vs=[.ref st, .str x]) (dS:nj St H st d g) (dW:H d=some (.dK kvs)) (eZ:bu kvs) (gz:B5 x) (jb:∀H',au H H'→Q (.int (aM kvs (Sum.inr x))) H')
def Hn(St:Addr):Sp:=Lj St
inductive Pe(St:Addr)(vs:List V)(H:Hp)(Q:VK)(E:XK):Prop
 |mk (st d g:Addr) (x:Str) (m:Int) (kvs:List (Key×V)) (dR:vs=[.ref st, .str x, .int m]) (dS:nj St H st d g) (dW:H d=some (.dK kvs)) (eZ:bu kvs) (gz:kvs.length≤1000) (jb:B5 x) (nM:∀H',Kept d H H'→H' d=some (.dK (cC kvs (Sum.inr x) m))→Q .cS H')
def MP(St:Addr):Sp:=Pe St
theorem Pf:ay ["self","text"] ["self","text"] (aj Br):=dA
theorem Lk(D:bg K St "have" "Store.have" Br ["self","text"])(T:rT K mg C R G Pc Fo St uK uN uB uE uM uC uP uI uD uL uT)(c1:bj P w K mg base 11 "read_formula" ["text"] (BJ C G Pc Fo 1)):aK P w K mg base 12 St "have" ["self","text"] (Hn St):=by
 obtain⟨_,_,fF⟩:=c1
 refine D.dh Pf (fun vs H Q E h=>?_) (fun f bp A outer s H vs Q E hr h=>?_)
 ·obtain⟨st,d,g,x,kvs,rfl,_⟩:=h
  rfl
 ·obtain⟨st,d,g,x,kvs,rfl,⟨dx,iV⟩,hd,hI,⟨fm,Ta,ex⟩,q⟩:=h
  have hu:=dz hr
  have sP:x.cps.toList=wL 1 fm.1 fm.2:=by rw[ex];rfl
  have hx4:x.length≤400:=by
   have:=Ta.2.1
   rw[ex,bq]
   omega
  refine⟨_,(ai
     (bb (aJ fF.ok (hr.mono (by decide)) rfl fF.g fF.kp fF.b .nil az (af (pv 1) ak)))
    (ao
     (aE (bZ hu (a5 (pv 0) rfl) (pv 1) aq ⟨rfl,rfl,rfl,rfl⟩)))),?_⟩
  refine⟨_,rfl,x,fm.1,fm.2,rfl,sP,Ta.1,by decide,hx4,fun f H1 nf hF e1=>?_⟩
  refine⟨_,rfl,st,St,dx,_,_,rfl,e1 _ _ iV,T.cj,T.eO,iI _ _,d,rfl, .inl ⟨_, .inl (e1 _ _ hd)⟩,_,rfl,_,gI.k (k:=Sum.inr x) (e1 _ _ hd),?_⟩
  have e:=hI.at (Sum.inr x)
  rw[e]
  exact q _ e1
theorem Tq:ay ["self","text","many"] ["self","text","many"] (aj Kv):=dA
theorem Pg(D:bg K St "put" "Store.put" Kv ["self","text","many"])(T:rT K mg C R G Pc Fo St uK uN uB uE uM uC uP uI uD uL uT)(c1:aK P w K mg base 12 St "have" ["self","text"] (Hn St)):aK P w K mg base 13 St "put" ["self","text","many"] (MP St):=by
 obtain⟨_,_,jD⟩:=c1
 refine D.dh Tq (fun vs H Q E h=>?_) (fun f bp A outer s H vs Q E hr h=>?_)
 ·obtain⟨st,d,g,x,m,kvs,rfl,_⟩:=h
  rfl
 ·obtain⟨st,d,g,x,m,kvs,rfl,⟨dx,iV⟩,hd,hI,hl,hx,q⟩:=h
  have hu:=dz hr
  refine⟨_,(ao
     (cZ hu (a5 (pv 0) rfl) (pv 1) (aA bR (bY (pv 0) T.cj jD.m jD.ok (hr.mono (by decide)) jD.b .nil az (af (pv 1) ak)) (pv 2)) rfl)),?_⟩
  refine⟨_,rfl,st,dx,_,rfl,iV,ku _ _ (by decide+kernel) (by decide+kernel),_,rfl,st,d,g,x,kvs,rfl,⟨dx,iV⟩,hd,hI,hx,fun H1 e1=>?_⟩
  refine⟨_,rfl,_,_,rfl,rfl,_,rfl,st,St,dx,_,_,rfl,e1 _ _ iV,T.cj,T.eO,iI _ _,_,rfl,d,_,rfl,jh.k (k:=Sum.inr x) (e1 _ _ hd) (kJ hl),?_⟩
  refine q _ (fun b o z n=>?_) aa
  rw[ah n]
  exact e1 _ _ z
variable {uC uP uI uD uL uT:Tok}{St:Addr}
theorem yX{kvs:List (Key×V)}{k:Key}(h:¬k∈kvs.map (·.1)):bW kvs k=none:=by
 cases e:bW kvs k with
 |none=>rfl
 |some v=>exact absurd (pJ e) h
theorem Ho{kvs:List (Key×V)}{k:Key}(h:¬k∈kvs.map (·.1))(n:Int):cC kvs k n=kvs++[(k, .int n)]:=by
 unfold cC
 rw[mh _ (yX h),eC (yX h),Int.zero_add]
theorem B6{kvs:List (Key×V)}(hn:(kvs.map (·.1)).Nodup){k:Key}{z:Int}(h:(k,V.int z)∈kvs):aM kvs k=z:=dB (fw hn h)
theorem take_out{kvs:List (Key×V)}(hn:(kvs.map (·.1)).Nodup){i:Nat}{p:Key×V}(h:kvs[i]? =some p):¬p.1∈(kvs.take i).map (·.1):=by
 intro m
 have e:kvs.take (i+1)=kvs.take i++[p]:=take_snoc h
 have hs:((kvs.take (i+1)).map (·.1)).Nodup:=hn.sublist ((List.take_sublist _ _).map _)
 rw[e,List.map_append,List.nodup_append] at hs
 exact hs.2.2 _ m p.1 (by simp) rfl
inductive Hq(St:Addr)(vs:List V)(H:Hp)(Q:VK)(E:XK):Prop
 |mk (p dx:Addr) (v:V) (kvs:List (Key×V)) (dR:vs=[.ref p,v]) (dS:H p=some (.ins St dx [])) (dW:((v= .cS∧kvs=[])∨∃a,v= .ref a∧H a=some (.dK kvs))) (eZ:bu kvs) (gz:(kvs.map (·.1)).Nodup) (jb:(∀q∈kvs,∃x,q.1=Sum.inr x∧B5 x)) (nM:kvs.length≤900) (sy:∀d g H',H d=none→H g=none→d≠g→nj St H' p d g→H' d=some (.dK kvs)→H' g=some (.lst [])→(∀b o,H b=some o→b≠p→H' b=some o)→Q .cS H')
def B7(St:Addr):Sp:=Hq St
theorem B8:ay ["self","amounts","text"] ["self","amounts"] (aj fR):=dA
theorem Hr(D:Kq K St "Store.__init__" fR ["self","amounts"])(T:rT K mg C R G Pc Fo St uK uN uB uE uM uC uP uI uD uL uT)(c1:aK P w K mg base 13 St "put" ["self","text","many"] (MP St)):F1 P w K mg base qy 14 St ["self","amounts"] (B7 St):=by
 obtain⟨_,_,kx⟩:=c1
 refine D.dh B8 (fun vs H Q E h=>?_) (fun f bp A outer s H vs Q E hr h=>?_)
 ·obtain⟨p,dx,v,kvs,rfl,_⟩:=h
  rfl
 ·obtain⟨p,dx,v,kvs,rfl,hp,hv,hI,hn,hg,hl,q⟩:=h
  have hu:=dz hr
  refine⟨_,(ai
     (eI (pv 0) dw rfl)
    (ai
     (eI (pv 0) (cA ak) rfl)
    (ao
     (bN (vj (A8 (pv 1)))
      (ao
       (eF (bO PassesOwn.never rfl (dU (pv 1)) (aD (i:=2) B8.nd rfl (Or.inl rfl))
        (ao
         (bb (bY (pv 0) T.cj kx.m kx.ok (hr.mono (by decide)) kx.b .nil az (af (pv 2) (af (cY hu (pv 1) (pv 2) (fun _ _=>rfl)) ak))))))))
      aY)))),?_⟩
  refine fun d hd=>?_
  have Ts:p≠d:=ag hp hd
  refine⟨_,rfl,p,St,dx,[],rfl,(by rw[ah Ts];exact hp),T.cj,T.eO,(by show 0<1000;decide),(by show 0≤sizeLine;decide),fun g wG=>?_⟩
  have npg:p≠g:=fun z=>by rw[z,aa] at wG;cases wG
  rw[ah (Ne.symm npg)] at wG
  have Aj:d≠g:=fun z=>by rw[z,aa] at wG;cases wG
  rw[ah (Ne.symm Aj)] at wG
  refine⟨_,rfl,p,St,dx,_,rfl,(by rw[ah npg,aa]),T.cj,T.p9,(by show 1<1000;decide),?_⟩
  generalize Zg:upd (upd (upd (upd H d (.dK [])) p (.ins St dx (cL "amounts" (.ref d) []))) g (.lst [])) p (.ins St dx (cL "gone" (.ref g) (cL "amounts" (.ref d) [])))=H1
  have h1p:H1 p=some (.ins St dx (yV d g)):=by rw[←Zg,aa];rfl
  have h1d:H1 d=some (.dK []):=by rw[←Zg,ah (Ne.symm Ts),ah Aj,ah (Ne.symm Ts),aa]
  have h1g:H1 g=some (.lst []):=by rw[←Zg,ah (Ne.symm npg),aa]
  have h1o:∀b o,H b=some o→b≠p→H1 b=some o:=fun b o z n=>by
   rw[←Zg,ah n,ah (ag z wG),ah n,ah (ag z hd)]
   exact z
  rcases hv with ⟨rfl,rfl⟩ | ⟨a,rfl,ha⟩
  ·exact⟨_,rfl,_,rfl,fI (q d g H1 hd wG Aj ⟨dx,h1p⟩ h1d h1g h1o)⟩
  ·have nap:a≠p:=cG ha hp (by intro z;cases z)
   have ha1:=h1o a _ ha nap
   have Zh:a≠d:=ag ha hd
   have Zf:a≠g:=ag ha wG
   refine⟨_,rfl,_,rfl,iZ ?_⟩
   refine⟨_,rfl,a,kvs,rfl,ha1,fun o nf=>gg nf (fun i σ H'=>∃v2:Option V,σ=[some (.ref p),some (.ref a),v2]∧H' d=some (.dK (kvs.take i))∧∀b o',H1 b=some o'→b≠d→H' b=some o') ?_ (fun i σ H' ⟨_,_,_,e⟩=>e _ _ ha1 Zh) ?_ ?_⟩
   ·exact⟨none,rfl,h1d,fun b o' z _=>z⟩
   ·rintro i k v σ H' hi ⟨v2,rfl,eQ,e⟩
    obtain⟨x,ex,gx⟩:=hg _ (List.mem_of_getElem? hi)
    have ex:k=Sum.inr x:=ex
    subst ex
    have hv:=hI.f6 (List.mem_of_getElem? hi)
    obtain⟨z,ez⟩:=hI _ (List.mem_of_getElem? hi)
    have ez:v=V.int z:=ez
    subst ez
    have Tj:aM kvs (Sum.inr x)=z:=by
     have m:=List.mem_of_getElem? hi
     exact dB (by rw[hv];exact congrArg some (by rw[B6 hn m]))
    have sx:(upd H' a (.d8 o (.dK kvs))) p=some (.ins St dx (yV d g)):=by rw[ah (Ne.symm nap)];exact e _ _ h1p Ts
    have hdd:(upd H' a (.d8 o (.dK kvs))) d=some (.dK (kvs.take i)):=by rw[ah (Ne.symm Zh)];exact eQ
    refine⟨_,rfl,p,dx,_,rfl,sx,ku _ _ (by decide+kernel) (by decide+kernel),_,rfl,_,rfl,_,rfl,a,V.int z,rfl, .inl ⟨_,Sum.inr x, .inr ⟨o,aa⟩,rfl,(by rw[hv,Tj])⟩,p,d,g,x,z,kvs.take i,rfl,⟨dx,sx⟩,hdd,fun q hq=>hI q (List.mem_of_mem_take hq),?_,gx,fun H2 kp hd2=>?_⟩
    ·rw[List.length_take];omega
    ·refine⟨kp _ _ aa Zh,some (.str x),rfl,?_,fun b o' z' nb=>?_⟩
     ·rw[ah (Ne.symm Zh),hd2,Ho (take_out hn hi),take_snoc hi]
     ·by_cases ba:b=a
      ·subst ba
       rw[aa]
       rw[ha1] at z'
       exact z'
      ·rw[ah ba]
       refine kp _ _ ?_ nb
       rw[ah ba]
       exact e _ _ z' nb
   ·rintro σ H' ⟨v2,rfl,eQ,e⟩
    rw[List.take_length] at eQ
    exact q d g H' hd wG Aj ⟨dx,e _ _ h1p Ts⟩ eQ (e _ _ h1g (Ne.symm Aj)) fun b o' z nb=>e _ _ (h1o b o' z nb) (ag z hd)
variable {uC uP uI uD uL uT:Tok}{St:Addr}
def zv:V→Int
 | .int i=>i
 |_=>0
def ky(kvs:List (Key×V)):List (Key×V):=kvs.filter fun q=>decide (0<zv q.2)
inductive Ek(St:Addr)(vs:List V)(H:Hp)(Q:VK)(E:XK):Prop
 |mk (st d g:Addr) (kvs:List (Key×V)) (dR:vs=[.ref st]) (dS:nj St H st d g) (dW:H d=some (.dK kvs)) (eZ:bu kvs) (gz:(kvs.map (·.1)).Nodup) (jb:kvs.length≤900) (nM:∀e H',H e=none→H' e=some (.dK (ky kvs))→au H H'→Q (.ref e) H')
def yY(St:Addr):Sp:=Ek St
theorem Hs:ay ["self"] ["self"] (aj mM):=dA
def PvS(L:Addr)(kvs:List (Key×V))(H0:Hp):Nat→List V→Hp→Prop:=fun i ys H'=>∃ps:List (Addr×Key×V),ys=ps.map (fun p=>V.ref p.1)∧(∀p∈ps,H' p.1=some (.tup [kV p.2.1,p.2.2])∧p.1≠L)∧ps.map (·.2)=ky (kvs.take i)
theorem B9(kvs:List (Key×V)):(ky kvs).length≤kvs.length:=List.length_filter_le _ _
theorem El(D:bg K St "stocks" "Store.stocks" mM ["self"])(T:rT K mg C R G Pc Fo St uK uN uB uE uM uC uP uI uD uL uT):aK P w K mg base 1 St "stocks" ["self"] (yY St):=by
 refine D.dh Hs (fun vs H Q E h=>?_) (fun f bp A outer s H vs Q E hr h=>?_)
 ·obtain⟨st,d,g,kvs,rfl,_⟩:=h
  rfl
 ·obtain⟨st,d,g,kvs,rfl,⟨dx,iV⟩,hd,hI,hn,hl,q⟩:=h
  have hu:=dz hr
  have big:(2000 :Nat)≤sizeLine:=by decide
  refine⟨_,(ao
     (aE (bI (lR rfl) rfl T.ko jl (af (pK (fy (sc:=(aj mM)) (NX:=["self"]) (N:=["text","many"]) (fr:=[none,none]) ⟨by rfl,by rfl,by decide+kernel,by decide+kernel,by decide+kernel,by rfl,by decide+kernel⟩ rfl rfl rfl (qM (a5 (pv 0) rfl)) (fun _ _ _ _=>(mw K 2 rfl rfl (aQ (aD (i:=0) (show (["text","many"]:List Str).Nodup by decide+kernel) rfl (Or.inl rfl) (Or.inr rfl)) (aQ (aD (i:=1) (show (["text","many"]:List Str).Nodup by decide+kernel) rfl (Or.inl rfl) (Or.inr rfl)) cK)))) (fun _ _ _ _=>(mn (aO jY (pv 1) aq (aX _)))) (fun _ _ _ _=>(bQ (af (pv 0) (af (pv 1) ak)))))) ak)))),?_⟩
  refine⟨_,rfl,st,St,dx,_,_,rfl,iV,T.cj,T.eO,iI _ _,d,kvs,rfl,hd,fun o nf L hL=>?_⟩
  have Rj:L≠d:=fun z=>by rw[z,aa] at hL;cases hL
  have hz:(upd H d (.d8 o (.dK kvs))) d=some (.d8 o (.dK kvs)):=aa
  refine Dv (J:=Mx d o kvs) (L:=L) kvs.length (upd H d (.d8 o (.dK kvs))) (fun σ=>∃v u:Option V,σ=[v,u]) (PvS L kvs H) (items_go hz) (Aa hz) ?_ hL ⟨none,none,rfl⟩ (au.new hL) aa ⟨[],rfl,(fun p hp=>by cases hp),rfl⟩ (by omega) ?_ ?_ ?_
  ·rintro i ys H1 H2 e ⟨ps,e1,e2,e3⟩
   exact⟨ps,e1,fun p hp=>⟨e _ _ (e2 p hp).1 (e2 p hp).2,(e2 p hp).2⟩,e3⟩
  ·rintro i ys H1 ⟨ps,e1,_,e3⟩
   have h1:=congrArg List.length e3
   have h2:=B9 (kvs.take i)
   rw[List.length_map] at h1
   rw[List.length_take] at h2
   rw[e1,List.length_map]
   omega
  ·rintro i σ H2 ys hi ⟨v,u,rfl⟩ hs pX ⟨ps,rfl,e2,e3⟩ N M hN hM y H3 ⟨t,kk,vv,tJ,ht,rfl,rfl⟩
   obtain⟨z,ez⟩:=hI _ (List.mem_of_getElem? tJ)
   have ez:vv=V.int z:=ez
   subst ez
   have s3:=hs.trans (au.new (o:= .tup [kV kk, .int z]) ht)
   have m9:(upd H2 t (.tup [kV kk, .int z])) L=some (.lst (ps.map fun p=>V.ref p.1)):=by rw[ah (ag pX ht)];exact pX
   refine⟨t,_,rfl,ir.of aa,rfl,_,_,rfl,_,_,rfl,rfl,_,rfl,_,_,rfl,rfl,_,rfl,fu (fun ec=>?_) fun ec=>?_⟩
   ·have ec:0<z:=by simpa using ec
    refine⟨_,rfl,_,rfl,(by show 2≤sizeLine;decide),fun t2 Ph=>?_⟩
    have s4:=au.new (o:= .tup [kV kk, .int z]) Ph
    have Rk:L≠t2:=ag m9 Ph
    refine hN _ _ _ ⟨_,_,rfl⟩ (s3.trans s4) (s4 _ _ m9) ⟨ps++[(t2,kk, .int z)],by rw[List.map_append];rfl,fun p hp=>?_,?_⟩
    ·rcases List.mem_append.mp hp with hp|hp
     ·exact⟨s4 _ _ (au.new ht _ _ (e2 p hp).1),(e2 p hp).2⟩
     ·have e':p=(t2,kk, .int z):=by simpa using hp
      subst e'
      exact⟨aa,Ne.symm Rk⟩
    ·unfold ky at e3 ⊢
     rw[List.map_append,e3,take_snoc tJ,List.filter_append,show [(kk,V.int z)].filter (fun q=>decide (0<zv q.2))=[(kk,V.int z)] by simp [zv,ec]]
     rfl
   ·have ec:¬0<z:=by simpa using ec
    refine hM _ _ ⟨_,_,rfl⟩ s3 m9 ⟨ps,rfl,fun p hp=>⟨au.new ht _ _ (e2 p hp).1,(e2 p hp).2⟩,?_⟩
    unfold ky at e3 ⊢
    rw[e3,take_snoc tJ,List.filter_append,show [(kk,V.int z)].filter (fun q=>decide (0<zv q.2))=[] by simp [zv,ec],List.append_nil]
  ·rintro H2 ys hs pX ⟨ps,rfl,e2,e3⟩
   rw[List.take_length] at e3
   have s2:au H (upd H2 d (.dK kvs)):=fun b o' z'=>by
    by_cases bd:b=d
    ·subst bd
     rw[aa]
     rw[hd] at z'
     exact z'
    ·rw[ah bd]
     exact hs _ _ (by rw[ah bd];exact z')
   refine⟨d,o,kvs,hs _ _ hz,nf,L,ps,rfl,by rw[ah Rj];exact pX,fun p hp=>?_,fun e he=>?_⟩
   ·have p1:=(e2 p hp).1
    rw[ah (cG p1 (hs _ _ hz) (by intro z;cases z))]
    exact p1
   ·have e8:cq [] (ps.map (·.2))=ky kvs:=by
     rw[e3,nh _ [] (by rw[List.nil_append];exact(List.filter_sublist.map _).nodup hn),List.nil_append]
    rw[e8]
    exact q e _ (none_back s2 he) aa (s2.trans (au.new he))
theorem Pj:ay ["self"] ["self"] (aj yi):=dA
variable {uC uP uI uD uL uT:Tok}{St:Addr}
theorem uV:∀(d:Nat) (m:Int) (t:Tr),uc d t→∀p∈br d m t,∃k,lT k∧p.1=⟨k.toArray⟩
 |d,m, .one k n,h,p,hp=>by
  have e:br d m (.one k n)=[(⟨k.toArray⟩,n*m)]:=by cases d<;>rfl
  rw[e] at hp
  have h:lT k∧1≤n∧n≤999:=by cases d<;>exact h
  have ep:p=(⟨k.toArray⟩,n*m):=by simpa using hp
  exact⟨k,h.1,by rw[ep]⟩
 |0,_, .gr _ _,h,_,_=>h.elim
 |d+1,m, .gr ts n,h,p,hp=>by
  obtain⟨t,ht,hp⟩:=List.mem_flatMap.mp hp
  exact uV d (n*m) t (h.2.1 t ht) p hp
theorem Pl{k:List Nat}(hk:lT k){n:Int}(n1:1≤n)(n2:n≤999):D7 [.one k n]:=by
 refine⟨by simp,fun t ht=>?_,?_,(by show 1≤5;decide)⟩
 ·have e:t= .one k n:=by simpa using ht
  subst e
  exact⟨hk,n1,n2⟩
 ·have h1:=rG hk
  have h2:=rF n1 n2
  show ((k++aP n)++[]).length≤23
  rw[List.append_nil,List.length_append]
  omega
theorem Ca{k:List Nat}(hk:lT k):cV ([(1,[.one k 1])],0):=MJ (GS (Pl hk (by decide) (by decide))) (by decide) (by decide)
theorem Ht(k:List Nat):fL ([(1,[.one k 1])],0)=k:=by
 show (k++aP 1++[])++([]++i9 0)=_
 rw[S7,show i9 0=[] from rfl]
 simp
theorem MQ:cV ([], -1):=⟨rfl,(by show 3≤33;decide),(by show 0≤7;decide)⟩
theorem Po:(⟨(fL ([], -1)).toArray⟩:Str)="e^-" :=by decide+kernel
theorem qa{kvs:List (Key×V)}{k:Key}{v:V}{q:Key×V}(h:q∈putK kvs k v):q∈kvs∨q=(k,v):=by
 unfold putK at h
 split at h
 ·obtain⟨r,hr,e⟩:=List.mem_map.mp h
  subst e
  split
  ·rename_i e
   exact .inr (by rw[e])
  ·exact .inl hr
 ·rcases List.mem_append.mp h with h|h
  ·exact .inl h
  ·exact .inr (by simpa using h)
theorem k8{Pk:Key→Prop}(t:Int):∀(as:List (Str×Int)) (acc:List (Key×V)),(∀q∈acc,Pk q.1)→(∀p∈as,Pk (Sum.inr p.1))→∀q∈a9 t acc as,Pk q.1
 | [],_,h,_,q,hq=>h q hq
 |p::r,acc,h,h',q,hq=>by
  refine k8 t r (cC acc (Sum.inr p.1) (p.2*t)) (fun q hq=>?_) (fun p hp=>h' p (List.mem_cons_of_mem _ hp)) q hq
  rcases qa hq with hq|hq
  ·exact h q hq
  ·rw[hq]
   exact h' p (List.mem_cons_self ..)
theorem AL{x:Fm}(h:cV x):∀q∈cW 1 x.1,∃k,lT k∧q.1=Sum.inr (⟨k.toArray⟩:Str):=by
 refine k8 (Pk:=fun j=>∃k,lT k∧j=Sum.inr (⟨k.toArray⟩:Str)) 1 _ [] (fun q hq=>by cases hq) fun p hp=>?_
 obtain⟨y,hy,hp⟩:=List.mem_flatMap.mp hp
 have wV:=kZ h.1 y hy
 obtain⟨t,ht,hp⟩:=List.mem_flatMap.mp hp
 obtain⟨k,hk,e⟩:=uV 1 y.1 t (wV.2.1 t ht) p hp
 exact⟨k,hk,by rw[e]⟩
theorem Tt(x:Fm):((cW 1 x.1).map (·.1)).Nodup:=iH _
theorem Ll(k:Str)(k':Key):aM [(Sum.inr k, .int 1)] k'=if k'=Sum.inr k then 1 else 0:=iF [] (Sum.inr k) k' 1
def Told(ws:List Fm)(s:Str):Prop:=s="e^-" ∨(∃w∈ws,s=⟨(fL w).toArray⟩)∨∃w∈ws,(Sum.inr s:Key)∈(cW 1 w.1).map (·.1)
theorem Em{ws:List Fm}(h:∀w∈ws,cV w){s:Str}(t:Told ws s):B5 s:=by
 rcases t with rfl| ⟨w,hw,rfl⟩ | ⟨w,hw,hs⟩
 ·exact⟨_,MQ,Po.symm⟩
 ·exact⟨w,h w hw,rfl⟩
 ·obtain⟨q,hq,e⟩:=List.mem_map.mp hs
  obtain⟨k,hk,e'⟩:=AL (h w hw) q hq
  rw[e] at e'
  injection e' with e'
  exact⟨_,Ca hk,by rw[Ht,e']⟩
variable {uC uP uI uD uL uT:Tok}{St:Addr}
theorem Cb:ay ["_law_cell","_law_prime","_law_number"] ["_law_cell","_law_prime"] (aj vU):=dA
inductive Pp(vs:List V)(H:Hp)(Q:VK)(E:XK):Prop
 |mk (c p:Int) (dR:vs=[.int c, .int p]) (dS:0<p) (dW:p<2^60) (eZ:∀n,Q (.int n) H)
def MR:Sp:=Pp
theorem Pq(D:Def K mg "_law_mixed" "_law_mixed" vU ["_law_cell","_law_prime"]):bj P w K mg base 1 "_law_mixed" ["_law_cell","_law_prime"] MR:=by
 refine D.dh Cb (fun vs H Q E h=>?_) (fun f bp A outer s H vs Q E hr h=>?_)
 ·obtain⟨c,p,rfl,_⟩:=h
  rfl
 ·obtain⟨c,p,rfl,p0,p1,q⟩:=h
  have m0:0≤c%2147483647:=Int.emod_nonneg _ (by decide)
  have m1:c%2147483647<2147483647:=Int.emod_lt_of_pos _ (by decide)
  refine⟨_,(ai
     (aB (i:=2) Cb.nd rfl (Or.inl rfl) (aA bR (aA b6 (pv 0) aq) aq))
    (ao
     (aE (aA b6 (aA bR (aA fM (aA fM (pv 2) (pv 2)) aq) (pv 2)) (pv 1))))),?_⟩
  refine⟨_,rfl,_,_,rfl,rfl,(by show (0 :Int) <2147483647;decide),_,_,rfl,rfl,?_⟩
  refine⟨_,rfl,_,rfl,_,_,rfl,rfl, .inl ⟨by omega,by omega⟩,_,_,rfl,rfl, .inr ⟨by decide,by decide⟩,_,rfl,_,_,rfl,rfl,_,rfl,_,_,rfl,rfl,p0,q _⟩
theorem Pr:aP 12=[49,50]:=by decide+kernel
theorem fig3:aP 3=[51]:=by decide+kernel
theorem AJ:(".12" :Str)=⟨[46,49,50].toArray⟩:=by decide+kernel
theorem e413:(")3" :Str)=⟨[41,51].toArray⟩:=by decide+kernel
theorem Tu(ts:List Tr)(k:List Nat):wL 1 [(1,ts),(12,[.one k 1])] 0=ts.flatMap (ck 1)++([46,49,50]++k):=by
 show ts.flatMap (ck 1)++(((46::(aP 12++(k++aP 1++[])))++[])++[])=_
 rw[Pr,S7]
 simp
theorem Tv{ts:List Tr}(h:D7 ts){k:List Nat}(hk:lT k):Y8 [(1,ts),(12,[.one k 1])]:=by
 obtain⟨h1,h2,h3,h4⟩:=h
 refine⟨by simp,fun n n1 n2=>⟨rfl,fun x hx=>?_,n1,n2⟩,?_,?_⟩
 ·have e:x=(1,ts)∨x=(12,[.one k 1]):=by simpa using hx
  rcases e with e|e
  ·subst e
   exact⟨h1,h2,(by show (1 :Int)≤1;decide),(by show (1 :Int)≤999;decide)⟩
  ·subst e
   refine⟨by simp,fun u hu=>?_,(by show (1 :Int)≤12;decide),(by show (12 :Int)≤999;decide)⟩
   have e:u= .one k 1:=by simpa using hu
   subst e
   exact⟨hk,by decide,by decide⟩
 ·have:=rG hk
  rw[Tu,List.length_append,List.length_append]
  show _+(3+_)≤29
  omega
 ·show (ts.flatMap (br 1 1)++([((⟨k.toArray⟩:Str),(1 :Int)*12)]++[]++[])).length≤7
  rw[List.length_append]
  show _+1≤7
  omega
theorem Tw(ts:List Tr)(k:List Nat):cW 1 [(1,ts),(12,[.one k 1])]=cC (cW 1 [(1,ts)]) (Sum.inr ⟨k.toArray⟩) 12:=by
 have e:([(1,ts),(12,[.one k 1])]:List jP).flatMap (cD 1)=([(1,ts)]:List jP).flatMap (cD 1)++[((⟨k.toArray⟩:Str),1*12)]:=by
  show ts.flatMap (br 1 1)++([((⟨k.toArray⟩:Str),(1 :Int)*12)]++[]++[])=(ts.flatMap (br 1 1)++[])++_
  simp
 unfold cW a9
 rw[e,List.foldl_append]
 rfl
def K3(k0 k1 k2:List Nat):List Key:=[Sum.inr ⟨k0.toArray⟩,Sum.inr ⟨k1.toArray⟩,Sum.inr ⟨k2.toArray⟩]
theorem few3{k0 k1 k2:List Nat}{kvs:List (Key×V)}(hn:(kvs.map (·.1)).Nodup)(h:∀q∈kvs,q.1∈K3 k0 k1 k2):kvs.length≤3:=by
 have:(kvs.map (·.1)).length≤(K3 k0 k1 k2).length:=List.Nodup.length_le_of_subset hn fun k hk=>by
  obtain⟨q,hq,rfl⟩:=List.mem_map.mp hk
  exact h q hq
 rw[List.length_map] at this
 exact this
theorem Hu{k0 k1 k2:List Nat}(h0:lT k0)(h1:lT k1)(h2:lT k2){i:Nat}(hi:i<3):∃k,lT k∧(Sum.inr (⟨k.toArray⟩:Str):Key)∈K3 k0 k1 k2∧zO [V.str ⟨k0.toArray⟩, .str ⟨k1.toArray⟩, .str ⟨k2.toArray⟩] (0+(i:Int))=some (V.str ⟨k.toArray⟩):=by
 match i,hi with
 |0,_=>exact⟨k0,h0,by simp [K3],rfl⟩
 |1,_=>exact⟨k1,h1,by simp [K3],rfl⟩
 |2,_=>exact⟨k2,h2,by simp [K3],rfl⟩
theorem Pt{i:Nat}(hi:i<3):∃z,0<z∧z<100∧zO [V.int 1, .int 5, .int 25] (0+(i:Int))=some (V.int z):=by
 match i,hi with
 |0,_=>exact⟨1,by decide,by decide,rfl⟩
 |1,_=>exact⟨5,by decide,by decide,rfl⟩
 |2,_=>exact⟨25,by decide,by decide,rfl⟩
def PvM(o:Obj)(KV:List (Key×V))(d D2:Addr)(H2:Hp):Nat→L2.St→Hp→Prop:=fun i σ H'=>∃(v:Option V) (ps:List (Addr×Key×V)),σ=[v,some (.ref d)]∧H' d=some (.d8 o (.dK KV))∧H' D2=some (.lst (ps.map fun p=> .ref p.1))∧(∀p∈ps,H' p.1=some (.tup [kV p.2.1,p.2.2]))∧ps.map (·.2)=((KV.take i).map fun p=>(p.1,V.int (3*aM KV p.1)))∧∀b o',H2 b=some o'→b≠d→H' b=some o'
inductive En(vs:List V)(H:Hp)(Q:VK)(E:XK):Prop
 |mk (c:Int) (kl:Addr) (k0 k1 k2:List Nat) (dR:vs=[.int c, .ref kl]) (dS:H kl=some (.lst [.str ⟨k0.toArray⟩, .str ⟨k1.toArray⟩, .str ⟨k2.toArray⟩])) (dW:lT k0) (eZ:lT k1) (gz:lT k2) (jb:∀(t:Addr) (x:Fm) H',cV x→(cW 1 x.1).length≤3→yx H' t x→au H H'→Q (.ref t) H')
def yZ:Sp:=En
theorem dP:ay ["_law_cell","_law_kinds","_law_counts","_law_text_here","_law_k","_law_count_here","_law_charge"] ["_law_cell","_law_kinds"] (aj mO):=dA
theorem Eo(D:Def K mg "_law_matter" "_law_matter" mO ["_law_cell","_law_kinds"])(T:rT K mg C R G Pc Fo St uK uN uB uE uM uC uP uI uD uL uT)(c4:bj P w K mg base 1 "_law_figures" ["_law_count_here"] ka):
  bj P w K mg base 2 "_law_matter" ["_law_cell","_law_kinds"] yZ:=by
 obtain⟨_,_,di⟩:=c4
 refine D.dh dP (fun vs H Q E h=>?_) (fun f bp A outer s H vs Q E hr h=>?_)
 ·obtain⟨c,kl,k0,k1,k2,rfl,_⟩:=h
  rfl
 ·obtain⟨c,kl,k0,k1,k2,rfl,Lm,Pu,okk1,okk2,q⟩:=h
  have hu:=dz hr
  have Tx:=hr.nR
  have big:(2000 :Nat)≤sizeLine:=by decide
  refine⟨_,(ai
     (aB (i:=2) dP.nd rfl (Or.inr rfl) dw)
    (ai
     (aB (i:=3) dP.nd rfl (Or.inl rfl) bH)
    (ai
     (bO PassesOwn.never rfl (iX rfl T.mT (af aq ak)) (aD (i:=4) dP.nd rfl (Or.inl rfl))
      (ai
       (aB (i:=5) dP.nd rfl (Or.inl rfl) (aA b6 (aA cE (pv 0) (cf cQ (cA (af aq (af aq (af aq ak)))) (pv 4) (fun _ _=>rfl))) aq))
      (ao
       (bN (aO jY (pv 5) aq (aX _))
        (ai
         (cZ hu (pv 2) (cf cQ (pv 1) (pv 4) (fun _ _=>rfl)) (aA bR (bZ hu (pv 2) (cf cQ (pv 1) (pv 4) (fun _ _=>rfl)) aq ⟨rfl,rfl,rfl,rfl⟩) (pv 5)) rfl)
        (ao
         (aB (i:=3) dP.nd rfl (Or.inl rfl) (aA bz (aA bz (pv 3) (cf cQ (pv 1) (pv 4) (fun _ _=>rfl))) (aJ di.ok (hr.mono (by decide)) rfl di.g di.kp di.b .nil az (af (pv 5) ak))))))
        aY))))
    (ai
     (aB (i:=6) dP.nd rfl (Or.inl rfl) (cf cQ (cA (af aq (af aq (af aq (af (oU jX aq) (af aq (af (oU jX aq) ak))))))) (aA b6 (aA cE (pv 0) aq) aq) (fun _ _=>rfl)))
    (ai
     (bN (aO d9 (pv 3) bH (aX _))
      (ao
       (aE (bQ (af bH (af dw (af (oU jX aq) ak))))))
      aY)
    (ai
     (bN (aO d9 (aA b6 (aA cE (pv 0) aq) aq) aq (aX _))
      (ai
       (aB (i:=3) dP.nd rfl (Or.inl rfl) (aA bz (aA bz bH (pv 3)) bH))
      (ao
       (aB (i:=2) dP.nd rfl (Or.inr rfl) (bI (lR rfl) rfl T.ko jl (af (pK (fy (sc:=(aj mO)) (NX:=["_law_cell","_law_kinds","_law_counts","_law_text_here","_law_k","_law_count_here","_law_charge"]) (N:=["_law_kind_here","_law_counts"]) (fr:=[none,some 2]) ⟨by rfl,by rfl,by decide+kernel,by decide+kernel,by decide+kernel,by rfl,by decide+kernel⟩ rfl rfl rfl (dU (pv 2)) (fun _ _ _ _=>(aD (i:=0) (show (["_law_kind_here","_law_counts"]:List Str).Nodup by decide+kernel) rfl (Or.inl rfl) (Or.inr rfl))) (fun _ _ _ _=>fx) (fun _ _ _ _=>(bQ (af (pv 0) (af (aA fM aq (cY hu (pv 1) (pv 0) (fun _ _=>rfl))) ak)))))) ak)))))
      aY)
    (ai
     (bN (aO d9 (aA b6 (aA cE (pv 0) aq) aq) aq (aX _))
      (ai
       (aB (i:=3) dP.nd rfl (Or.inl rfl) (aA bz (aA bz (pv 3) bH) (cf cQ (pv 1) aq (fun _ _=>rfl))))
      (ao
       (cZ hu (pv 2) (cf cQ (pv 1) aq (fun _ _=>rfl)) (aA bR (bZ hu (pv 2) (cf cQ (pv 1) aq (fun _ _=>rfl)) aq ⟨rfl,rfl,rfl,rfl⟩) aq) rfl)))
      aY)
    (ai
     (bN (aO ql (pv 6) aq (aX _))
      (ao
       (aB (i:=3) dP.nd rfl (Or.inl rfl) (aA bz (aA bz (aA bz (pv 3) bH) (aJ di.ok (hr.mono (by decide)) rfl di.g di.kp di.b .nil az (af (bS xR rfl T.GA FA (af (pv 6) ak)) ak))) (cf cQ (cA (af bH (af bH ak))) (bI nP rfl T.yk qC (af (mf jY (pv 6) aq (aX _)) ak)) (fun _ _=>rfl)))))
      aY)
    (ao
     (aE (bQ (af (pv 3) (af (pv 2) (af (pv 6) ak)))))))))))))),?_⟩
  refine fun d hd=>?_
  refine⟨_,rfl,by decide,by decide,nO (fun i σ H'=>∃(as:BN) (v3 v4:Option V),σ=[some (.int c),some (.ref kl),some (.ref d),some (.str ⟨(as.flatMap fun a=>a.1++aP a.2).toArray⟩),v3,v4,none]∧GP as∧(∀p∈oB as,(Sum.inr p.1 :Key)∈K3 k0 k1 k2)∧as.length≤i∧H' d=some (.dK (a9 1 [] (oB as)))∧au H H') ?_ ?_ ?_⟩
  ·exact⟨[],none,none,by rw[MI];rfl,(fun a ha=>by cases ha),(fun a ha=>by cases ha),Nat.le_refl _,aa,au.new hd⟩
  ·rintro i σ H' hi ⟨as,v3,v4,rfl,aV,Ln,hl,eQ,e⟩
   have hi3:i<3:=by have:i< (3 :Int).toNat:=hi;omega
   obtain⟨k,hk,hkin,hka⟩:=Hu Pu okk1 okk2 hi3
   obtain⟨z,z0,z1,hza⟩:=Pt hi3
   have hkl':=e _ _ Lm
   have sl:∀l,H' l=none→au H' (upd H' l (.lst [V.int 1, .int 5, .int 25])):=fun l hl=>au.new hl
   refine⟨_,rfl,(by show 3≤sizeLine;decide),fun l qx=>⟨_,rfl,l,_,_,V.int z,rfl,rfl,bJ.of aa,hza,_,_,rfl,rfl,⟨z0,by omega⟩,_,_,rfl,rfl,(by show (0 :Int) <5;decide),?_⟩⟩
   have e2:=e.trans (sl l qx)
   have hd2:=sl l qx _ _ eQ
   have Dy:=sl l qx _ _ hkl'
   have m0:0≤c/z%5:=Int.emod_nonneg _ (by decide)
   have m1:c/z%5<5:=Int.emod_lt_of_pos _ (by decide)
   dsimp only [cN]
   generalize c/z%5=m at m0 m1 ⊢
   generalize upd H' l (.lst [V.int 1, .int 5, .int 25])=H2 at e2 hd2 Dy ⊢
   refine⟨_,rfl,_,_,rfl,rfl,_,rfl,fu (fun em=>?_) fun _=>⟨as,_,_,rfl,aV,Ln,by omega,hd2,e2⟩⟩
   have em:0<m:=by simpa using em
   have za:=kY aV
   have zk:=rG hk
   have zm:=g9 (n:=m) (by omega) (by omega)
   have hI:bu (a9 1 [] (oB as)):=iB 1 _ _ fun p hp=>by cases hp
   have oJ:=iC 1 (oB as) []
   have Zc:(oB as).length=as.length:=by unfold oB;rw[List.length_map]
   rw[List.length_nil] at oJ
   refine⟨_,rfl,d,rfl, .inl ⟨_, .inl hd2⟩,_,rfl,_,rfl,kl,_,_,_,rfl,rfl,bJ.of Dy,hka,_,gI.k (k:=Sum.inr ⟨k.toArray⟩) hd2,_,rfl,_,_,hI.at _,rfl,_,rfl,_,rfl,_,rfl,kl,_,_,_,rfl,rfl,bJ.of Dy,hka,d,_,rfl,jh.k (k:=Sum.inr ⟨k.toArray⟩) hd2 (by omega),?_⟩
   have nkd:kl≠d:=ag Lm hd
   have Kt:(upd H2 d (.dK (putK (a9 1 [] (oB as)) (Sum.inr ⟨k.toArray⟩) (.int (aM (a9 1 [] (oB as)) (Sum.inr ⟨k.toArray⟩)+m))))) kl=some (.lst [.str ⟨k0.toArray⟩, .str ⟨k1.toArray⟩, .str ⟨k2.toArray⟩]):=by rw[ah nkd];exact Dy
   refine⟨_,rfl,_,rfl,_,rfl,kl,_,_,_,rfl,rfl,bJ.of Kt,hka,_,_,rfl,rfl,by rw[bq,bq];omega,_,rfl,m,rfl,by omega,by omega,_,_,rfl,rfl,by rw[bA,bq,bq];omega,?_⟩
   refine⟨as++[(k,m)],some (.int (0+(i:Int))),some (.int m),?_,?_,?_,?_,?_,?_⟩
   ·have ex:(⟨(as.flatMap fun a=>a.1++aP a.2).toArray⟩:Str)++⟨k.toArray⟩++eY m=⟨((as++[(k,m)]).flatMap fun a=>a.1++aP a.2).toArray⟩:=by
     rw[de,bF,bF,List.flatMap_append,List.flatMap_cons,List.flatMap_nil,List.append_nil,List.append_assoc]
    rw[←ex]
    rfl
   ·intro a ha
    rcases List.mem_append.mp ha with ha|ha
    ·exact aV a ha
    ·have ea:a=(k,m):=by simpa using ha
     subst ea
     exact⟨hk,by omega,by omega⟩
   ·intro p hp
    unfold oB at hp
    rw[List.map_append] at hp
    rcases List.mem_append.mp hp with hp|hp
    ·exact Ln p hp
    ·have ep:p=((⟨k.toArray⟩:Str),m):=by simpa using hp
     rw[ep]
     exact hkin
   ·rw[List.length_append]
    show as.length+1≤i+1
    omega
   ·rw[aa]
    have ec:a9 1 [] (oB (as++[(k,m)]))=cC (a9 1 [] (oB as)) (Sum.inr ⟨k.toArray⟩) (m*1):=by
     unfold oB a9
     rw[List.map_append,List.foldl_append]
     rfl
    rw[ec,Int.mul_one]
    rfl
   ·intro b o z
    rw[ah (ag z hd)]
    exact e2 _ _ z
  ·rintro σ H' ⟨as,v3,v4,rfl,aV,Ln,hl,eQ,e⟩
   have l3:as.length≤3:=hl
   have oJ:=e _ _ Lm
   have za:=kY aV
   have d0:0≤c/125%6:=Int.emod_nonneg _ (by decide)
   have d1:c/125%6<6:=Int.emod_lt_of_pos _ (by decide)
   obtain⟨v,hv,KZ⟩:=vB (xs:=[V.int 0,V.int 0,V.int 1,V.int (-1),V.int 2,V.int (-14)]) d0 d1
   have hc:∃n,v=V.int n∧ -99≤n∧n≤99:=by
    simp only [List.mem_cons,List.not_mem_nil,or_false] at hv
    rcases hv with rfl|rfl|rfl|rfl|rfl|rfl<;>exact⟨_,rfl,by decide,by decide⟩
   obtain⟨n,rfl,n1,n2⟩:=hc
   refine⟨1,rfl,14,rfl,(by show 6≤sizeLine;decide),fun l qx=>⟨_,rfl,_,_,rfl,rfl,⟨by decide,by decide⟩,_,_,rfl,rfl,(by show (0 :Int) <6;decide),l,_,_,V.int n,rfl,rfl,bJ.of aa,KZ,?_⟩⟩
   have sl:=au.new (o:= .lst [V.int 0,V.int 0,V.int 1,V.int (-1),V.int 2,V.int (-14)]) qx
   have e1:=e.trans sl
   have EN:=sl _ _ eQ
   have Tz:=sl _ _ oJ
   dsimp only [cN]
   generalize upd H' l (.lst [V.int 0,V.int 0,V.int 1,V.int (-1),V.int 2,V.int (-14)])=H1 at e1 EN Tz ⊢
   refine⟨_,rfl,rfl,_,rfl,fu (fun et=>?_) fun et=>?_⟩
   ·refine fun d3 MN=>⟨1,rfl,(by show 3≤sizeLine;decide),fun t ht=>?_⟩
    have e0:("e^-" :Str)=⟨(fL ([], -1)).toArray⟩:=by decide+kernel
    refine q t ([], -1) _ ⟨rfl,(by show 3≤33;decide),(by show 0≤7;decide)⟩ (by show 0≤3;decide) ⟨d3,?_,?_⟩ (e1.trans ((au.new MN).trans (au.new ht)))
    ·rw[aa,←e0]
    ·rw[ah (ag aa ht),aa]
     rfl
   have l1:1≤as.length:=by
    cases as with
    |nil=>exact absurd (by rw[MI];decide) et
    |cons a r=>rw[List.length_cons];omega
   have hkc:∀c:Int,∀q∈a9 c [] (oB as),q.1∈K3 k0 k1 k2:=fun c=>k8 (Pk:=fun j=>j∈K3 k0 k1 k2) c (oB as) [] (fun q hq=>by cases hq) Ln
   dsimp only [A9]
   refine iw (fun σ' H'=>∃(ts:List Tr) (d':Addr),σ'=[some (.int c),some (.ref kl),some (.ref d'),some (.str ⟨(ts.flatMap (ck 1)).toArray⟩),v3,v4,some (.int n)]∧D7 ts∧(∀q∈cW 1 [(1,ts)],q.1∈K3 k0 k1 k2)∧H d'=none∧H' d'=some (.dK (cW 1 [(1,ts)]))∧au H H') (fun N hN=>?_) ?_
   ·refine⟨_,rfl,_,_,rfl,rfl,⟨by decide,by decide⟩,_,_,rfl,rfl,(by show (0 :Int) <4;decide),rfl,_,rfl,fu (fun _=>?_) fun _=>?_⟩
    ·have l40:("(" :Str).length=1:=by decide+kernel
     have l41:(")3" :Str).length=2:=by decide+kernel
     refine⟨_,rfl,_,_,rfl,rfl,by rw[l40,bq];omega,_,_,rfl,rfl,by rw[bA,l40,l41,bq];omega,?_⟩
     refine⟨_,rfl,d,_,rfl,EN,fun o nf D2 Jz=>?_⟩
     have hI:bu (a9 1 [] (oB as)):=iB 1 _ _ fun p hp=>by cases hp
     have hn:((a9 1 [] (oB as)).map (·.1)).Nodup:=wc 1 _ _ List.nodup_nil
     have oJ:=iC 1 (oB as) []
     have Zc:(oB as).length=as.length:=by unfold oB;rw[List.length_map]
     rw[List.length_nil] at oJ
     generalize hK:a9 1 [] (oB as)=KV at EN hI hn oJ
     have K':D2≠d:=fun z=>by rw[z,aa] at Jz;cases Jz
     have Tb:H1 D2=none:=by rwa [ah K'] at Jz
     have gen:∀i σ H',PvM o KV d D2 H1 i σ H'→H' d=some (.d8 o (.dK KV)):=fun i σ H' ⟨_,_,_,z,_⟩=>z
     refine kL (a:=d) (D:=D2) (kvs:=KV) (PvM o KV d D2 H1) ?_ gen ?_ ?_
     ·exact⟨none,[],rfl,by rw[ah (Ne.symm K'),aa],aa,(fun p hp=>by cases hp),rfl,fun b o' z hb=>by rw[ah (ag z Tb),ah hb];exact z⟩
     ·rintro i k v σ H' hi ⟨v',ps,rfl,f1,f2,f3,f4,f5⟩ N hN
      have hv:=hI.f6 (List.mem_of_getElem? hi)
      have gH:ps.length≤3:=by
       have:=congrArg List.length f4
       rw[List.length_map,List.length_map,List.length_take] at this
       omega
      refine⟨_,rfl,_,rfl,_,rfl,d,V.int (aM KV k),rfl, .inl ⟨_,k, .inr ⟨o,f1⟩,rfl,hv.symm⟩,_,_,rfl,rfl, .inl ⟨by decide,by decide⟩,(by show 2≤sizeLine;decide),fun t ht=>?_⟩
      have Tc:D2≠t:=ag f2 ht
      have ndt:d≠t:=ag f1 ht
      refine⟨_,by rw[ah Tc];exact f2,by rw[List.length_map];omega,hN _ _ ⟨_,ps++[(t,k,V.int (3*aM KV k))],rfl,?_,?_,?_,?_,?_⟩⟩
      ·rw[ah (Ne.symm K'),ah ndt];exact f1
      ·rw[aa,List.map_append];rfl
      ·intro p hp
       rcases List.mem_append.mp hp with hp|hp
       ·have p1:=f3 p hp
        rw[ah (cG p1 f2 (by intro z;cases z)),ah (ag p1 ht)]
        exact p1
       ·have e':p=(t,k,V.int (3*aM KV k)):=by simpa using hp
        subst e'
        rw[ah (Ne.symm Tc)];exact aa
      ·rw[List.map_append,f4,take_snoc hi,List.map_append]
       rfl
      ·intro b o' e' hb
       rw[ah (ag e' Tb),ah (ag (f5 b o' e' hb) ht)]
       exact f5 b o' e' hb
     rintro σ H' ⟨v',ps,rfl,f1,f2,f3,f4,f5⟩
     rw[List.take_length] at f4
     refine⟨d,o,KV,f1,nf,D2,ps,rfl,by rw[ah K'];exact f2,fun p hp=>by rw[ah (cG (f3 p hp) f1 (by intro z;cases z))];exact f3 p hp,fun w hw=>?_⟩
     have e8:cq [] (ps.map (·.2))=scale 3 KV:=by
      rw[f4,nh _ [] (by rw[List.nil_append,List.map_map];exact hn),List.nil_append,uy hI hn]
     have Td:au H1 (upd H' d (.dK KV)):=fun b o' e=>by
      by_cases z:b=d
      ·subst z
       rw[aa]
       exact EN.symm.trans e
      ·rw[ah z];exact f5 b o' e z
     have s8:au H1 (upd (upd H' d (.dK KV)) w (.dK (cq [] (ps.map (·.2))))):=Td.trans (au.new hw)
     refine hN _ _ ⟨[.gr (as.map aT) 3],w,?_,O6 aV l1 l3 (by decide) (by decide),?_,none_back (e1.trans Td) hw,?_,e1.trans s8⟩
     ·have ex:("(" :Str)++(⟨(as.flatMap fun a=>a.1++aP a.2).toArray⟩:Str)++")3" =⟨([Tr.gr (as.map aT) 3].flatMap (ck 1)).toArray⟩:=by
       rw[MF,fig3,OT,e413,show (⟨#[40]⟩:Str)=⟨[40].toArray⟩ from rfl,bF,bF]
       simp
      rw[←ex]
      rfl
     ·rw[MH,hK,←uy hI hn]
      intro q hq
      obtain⟨p,hp,rfl⟩:=List.mem_map.mp hq
      exact hkc 1 p (by rw[hK];exact hp)
     ·rw[aa,MH,hK,e8]
    ·refine hN _ _ ⟨as.map aT,d,by rw[oC];rfl,GR aV l1 l3,by rw[ME];exact hkc 1,hd,by rw[ME];exact EN,e1⟩
   rintro σ' H4 ⟨ts,d4,rfl,Lp,xS,hd40,DV,e4⟩
   have hk4:=e4 _ _ Lm
   have z1:=Lp.2.2.1
   refine iw (fun σ' H'=>∃xs:List jP,σ'=[some (.int c),some (.ref kl),some (.ref d4),some (.str ⟨(wL 1 xs 0).toArray⟩),v3,v4,some (.int n)]∧Y8 xs∧(∀q∈cW 1 xs,q.1∈K3 k0 k1 k2)∧H' d4=some (.dK (cW 1 xs))∧au H H') (fun N hN=>?_) ?_
   ·refine⟨_,rfl,_,_,rfl,rfl,⟨by decide,by decide⟩,_,_,rfl,rfl,(by show (0 :Int) <4;decide),rfl,_,rfl,fu (fun _=>?_) fun _=>?_⟩
    ·have l12:(".12" :Str).length=3:=by decide+kernel
     have zk:=rG Pu
     have hI:=wJ [(1,ts)]
     have hl:=Az (GS Lp).2.2.2
     have ha0:zO [V.str ⟨k0.toArray⟩, .str ⟨k1.toArray⟩, .str ⟨k2.toArray⟩] 0=some (V.str ⟨k0.toArray⟩):=rfl
     refine⟨_,rfl,_,_,rfl,rfl,by rw[l12,bq];omega,_,rfl,kl,_,_,_,rfl,rfl,bJ.of hk4,ha0,_,_,rfl,rfl,by rw[bA,l12,bq,bq];omega,?_⟩
     refine⟨_,rfl,d4,rfl, .inl ⟨_, .inl DV⟩,_,rfl,kl,_,_,_,rfl,rfl,bJ.of hk4,ha0,_,gI.k (k:=Sum.inr ⟨k0.toArray⟩) DV,_,_,hI.at _,rfl,_,rfl,_,rfl,kl,_,_,_,rfl,rfl,bJ.of hk4,ha0,d4,_,rfl,jh.k (k:=Sum.inr ⟨k0.toArray⟩) DV (by omega),?_⟩
     refine hN _ _ ⟨[(1,ts),(12,[.one k0 1])],?_,Tv Lp Pu,?_,?_,fun b o z=>?_⟩
     ·have ex:(⟨(ts.flatMap (ck 1)).toArray⟩:Str)++".12" ++⟨k0.toArray⟩=⟨(wL 1 [(1,ts),(12,[.one k0 1])] 0).toArray⟩:=by
       rw[Tu,AJ,bF,bF]
       simp
      rw[←ex]
      rfl
     ·rw[Tw]
      intro q hq
      rcases qa hq with hq|hq
      ·exact xS q hq
      ·rw[hq];simp [K3]
     ·rw[aa,Tw]
      rfl
     ·rw[ah (ag z hd40)]
      exact e4 _ _ z
    ·exact hN _ _ ⟨[(1,ts)],by rw[S8],GS Lp,xS,DV,e4⟩
   rintro σ' H5 ⟨xs,rfl,okb,hxk,Rl,e5⟩
   have zb:=okb.2.2.1
   refine iw (fun σ' H'=>σ'=[some (.int c),some (.ref kl),some (.ref d4),some (.str ⟨(wL 1 xs n).toArray⟩),v3,v4,some (.int n)]∧H' d4=some (.dK (cW 1 xs))∧au H H') (fun N hN=>?_) ?_
   ·refine⟨_,rfl,rfl,_,rfl,fu (fun e=>?_) fun e=>?_⟩
    ·have e:¬n=0:=by simpa using e
     have a1:1≤(if n<0 then -n else n):=by split<;>omega
     have a2:(if n<0 then -n else n)≤999:=by split<;>omega
     have z:=g9 a1 a2
     have g1:("^" :Str).length=1:=by decide+kernel
     have g2:(if 0<n then ("+" :Str) else ("-" :Str)).length=1:=by split<;>decide+kernel
     refine⟨_,rfl,_,_,rfl,rfl,by rw[g1,bq];omega,_,rfl,n,rfl,_,rfl,a1,a2,_,_,rfl,rfl,by rw[bA,g1,bq];omega,(by show 2≤sizeLine;decide),fun y hy=>⟨_,rfl,_,_,rfl,rfl, .inr ⟨_,rfl,y,_,_,V.str _,rfl,rfl,bJ.of aa,O7 n,_,_,rfl,rfl,?_,hN _ _ ⟨?_,?_,e5.trans (au.new hy)⟩⟩⟩⟩
     ·rw[bA,bA,bq,g1,g2]
      omega
     ·have ex:(⟨(wL 1 xs 0).toArray⟩:Str)++"^" ++eY (if n<0 then -n else n)++(if 0<n then ("+" :Str) else ("-" :Str))=⟨(wL 1 xs n).toArray⟩:=by
       rw[S6 okb.1 n,←bF,K4 e,←tY,←tY]
      rw[←ex]
      rfl
     ·rw[ah (ag Rl hy)]
      exact Rl
    ·have e:n=0:=by simpa using e
     subst e
     exact hN _ _ ⟨rfl,Rl,e5⟩
   rintro σ' H6 ⟨rfl,TB,e6⟩
   exact⟨_,rfl,_,rfl,_,rfl,(by show 3≤sizeLine;decide),fun t ht=>q t (xs,n) _ (MJ okb n1 n2) (few3 (iH _) hxk) ⟨d4,aa,by rw[ah (ag TB ht)];exact TB⟩ (e6.trans (au.new ht))⟩
variable {HE Sh:Addr}
theorem rV{n:Int}(h0:0≤n)(h:n<10^60):(toString n:Str).length≤60:=by
 rw[PySem.ofString_length]
 obtain⟨m,rfl⟩:=Int.eq_ofNat_of_zero_le h0
 show (Nat.repr m).length≤60
 rw[Nat.length_repr_le_iff (by decide)]
 omega
theorem rW{n:Int}(h0:0≤n)(h:n<10^60):n.natAbs.log2<1920:=by
 by_cases e:n.natAbs=0
 ·rw[e];decide
 ·have:=(Nat.log2_lt e (k:=200)).mpr (by omega)
  omega
structure Lq(K:PySem.W.Frag)(mg:Str→Option Value)(HE Sh:Addr):Prop where
 y7:mg "HallError" =some (.ref HE)
 xb:Mw K HE
 Lr:PySem.W.Dt K HE
 Ls:mg "Short" =some (.ref Sh)
 Pw:PySem.W.takerIn K Sh "step" =some none
 Px:PySem.W.takerIn K Sh "turn" =some none
 Ep:PySem.W.takerIn K Sh "formula" =some none
 Pz:PySem.W.takerIn K Sh "lack" =some none
 f_step:PySem.W.findIn K (.ref Sh) "step" =some none
 f_turn:PySem.W.findIn K (.ref Sh) "turn" =some none
 Rm:PySem.W.findIn K (.ref Sh) "formula" =some none
 f_lack:PySem.W.findIn K (.ref Sh) "lack" =some none
 TC:XIs K Sh
 TJ:PySem.W.mroIn K Sh (.ref HE)=some true
def Zi(st tn:Int)(x:Str)(lk:Int):List (Str×V):=cL "lack" (.int lk) (cL "formula" (.str x) (cL "turn" (.int tn) [("step", .int st)]))
inductive Hv(Sh:Addr)(vs:List V)(H:Hp)(Q:VK)(E:XK):Prop
 |mk (e:Addr) (st tn:Int) (x:Str) (lk:Int) (dR:vs=[.ref e, .int st, .int tn, .str x, .int lk]) (dS:H e=some (tR e Sh none)) (dW:0≤st) (eZ:st<10^60) (gz:0≤tn) (jb:tn<10^60) (nM:x.length≤100) (sy:0≤lk) (EU:lk<10^60) (Ra:∀dx H',H dx=none→dx≠e→H' e=some (tR e Sh (some dx))→H' dx=some (Bn dx (Zi st tn x lk))→(∀b o,H b=some o→b≠e→H' b=some o)→Q .cS H')
def Cc(Sh:Addr):Sp:=Hv Sh
theorem Lu:ay ["self","step","turn","formula","lack"] ["self","step","turn","formula","lack"] (aj vT):=dA
theorem Hw(D:F4 K mg "Short" Sh HE "Short.__init__" vT ["self","step","turn","formula","lack"])(T:Lq K mg HE Sh):Ab P w K mg base 1 "Short" Sh HE ["self","step","turn","formula","lack"] (Cc Sh):=by
 obtain⟨f0,_,_,Z,_⟩:=id D
 refine D.dh Lu (fun vs H Q E h=>?_) (fun f bp A outer s H vs Q E hr h=>?_)
 ·obtain⟨e,st,tn,x,lk,rfl,_⟩:=h
  rfl
 ·obtain⟨e,st,tn,x,lk,rfl,he,s0,s1,t0,t1,hx,l0,l1,q⟩:=h
  have big:(2000 :Nat)≤sizeLine:=by decide
  have z1:=rV s0 s1
  have z2:=rV t0 t1
  have z3:=rV l0 l1
  refine⟨_,(ai
     (bb (FY rfl T.y7 T.xb (pv 0) (Kl (ix bH (ix (vJ (pv 1)) (ix bH (ix (vJ (pv 2)) (ix bH (ix (vJ (pv 3)) (ix bH (ix (vJ (pv 4)) OD)))))))))))
    (ai
     (pN (pv 0) (pv 1) rfl)
    (ai
     (pN (pv 0) (pv 2) rfl)
    (ai
     (pN (pv 0) (pv 3) rfl)
    (ao
     (pN (pv 0) (pv 4) rfl)))))),?_⟩
  have y1:("step " :Str).length=5:=by decide+kernel
  have y2:(", turn " :Str).length=7:=by decide+kernel
  have y3:(": of " :Str).length=5:=by decide+kernel
  have y4:(" there lacks " :Str).length=13:=by decide+kernel
  have y0:(Str.empty).length=0:=rfl
  refine⟨_,rfl,_,rfl,?_,_,rfl, .inl ⟨_,rfl,rW s0 s1,_,rfl,?_,_,rfl,?_,_,rfl, .inl ⟨_,rfl,rW t0 t1,_,rfl,?_,_,rfl,?_,_,rfl, .inr ⟨_,rfl,by omega,_,rfl,?_,_,rfl,?_,_,rfl, .inl ⟨_,rfl,rW l0 l1,_,rfl,?_,?_,e,Sh,HE,f0,none,rfl,Z,he,?_⟩⟩⟩⟩⟩
  any_goals (simp only [bA,y0,y1,y2,y3,y4];omega)
  refine⟨_,rfl,_,rfl,e,Sh,HE,f0,rfl,Z,T.Pw, .inl ⟨he,fun dx MS JA=>?_⟩⟩
  have h1:(upd (upd H dx (Bn dx [("step", .int st)])) e (tR e Sh (some dx))) e=some (tR e Sh (some dx)):=aa
  have h2:(upd (upd H dx (Bn dx [("step", .int st)])) e (tR e Sh (some dx))) dx=some (Bn dx [("step", .int st)]):=by rw[ah JA,aa]
  refine⟨_,rfl,_,rfl,e,Sh,HE,f0,rfl,Z,T.Px, .inr ⟨dx,_,h1,h2,(by show 1<1000;decide),?_⟩⟩
  refine⟨_,rfl,_,rfl,e,Sh,HE,f0,rfl,Z,T.Ep, .inr ⟨dx,_,by rw[ah (Ne.symm JA)];exact h1,aa,Nat.lt_of_le_of_lt (gf _ _ _) (by show 1+1<1000;decide),?_⟩⟩
  refine⟨_,rfl,_,rfl,e,Sh,HE,f0,rfl,Z,T.Pz, .inr ⟨dx,_,by rw[ah (Ne.symm JA),ah (Ne.symm JA)];exact h1,aa,Nat.lt_of_le_of_lt (gf _ _ _) (Nat.lt_of_le_of_lt (Nat.add_le_add_right (gf _ _ _) 1) (by show 1+1+1<1000;decide)),?_⟩⟩
  refine q dx _ MS JA (by rw[ah (Ne.symm JA),ah (Ne.symm JA),ah (Ne.symm JA)];exact h1) aa fun b o z nb=>?_
  have Zj:=ag z MS
  rw[ah Zj,ah Zj,ah Zj,ah nb,ah Zj]
  exact z
variable {uC uP uI uD uL uT fb fe fg uG uS:Tok}{Ch HE Sh:Addr}
def xC(a t g:Int):Option Int:=if a<t then some 0 else if 0≤g then none else some ((a - t) /(-g)+1)
def eP:List (Option Int)→Option Int
 | []=>none
 |none::r=>eP r
 |some i::r=>match eP r with
  |none=>some i
  |some j=>some (if j<i then j else i)
def aI(xs:List Tm):List (Key×V):=a9 1 [] (fV xs)
def uW(am:List (Key×V))(xs ys:List Tm):Option Int:=eP ((aI xs).map fun q=>xC (aM am q.1) (aM (aI xs) q.1) (aM (ig xs ys) q.1))
def cX(am:List (Key×V))(xs ys:List Tm)(m:Int):List (Key×V):=fW m am (ig xs ys) (ig xs ys)
def gF(th tk:List (Key×V)):List (Key×V)→Option (Key×Int)
 | []=>none
 |q::r=>if 0<aM tk q.1 - aM th q.1 then some (q.1,aM tk q.1 - aM th q.1) else gF th tk r
theorem ik(th tk:List (Key×V))(q:Key×V)(r:List (Key×V)):gF th tk (q::r)=if 0<aM tk q.1 - aM th q.1 then some (q.1,aM tk q.1 - aM th q.1) else gF th tk r:=rfl
def oV:Option Int→V
 |none=> .cS
 |some i=> .int i
def Zk(xs ys:List Tm):Prop:=∀k, -(2^62) <aM (ig xs ys) k∧aM (ig xs ys) k<2^62
inductive Lv(C G Pc Fo Ch:Addr)(vs:List V)(H:Hp)(Q:VK)(E:XK):Prop
 |mk (c am:Addr) (xs ys:List Tm) (kvs:List (Key×V)) (dR:vs=[.ref c, .ref am]) (dS:dC C G Pc Fo Ch H c xs ys) (dW:(∀x∈xs,cV x.2)) (eZ:(∀y∈ys,cV y.2)) (gz:xs.length≤20) (jb:ys.length≤20) (nM:Zk xs ys) (sy:H am=some (.dK kvs)) (EU:bu kvs) (Ra:∀H',au H H'→Q (oV (uW kvs xs ys)) H')
def Hx(C G Pc Fo Ch:Addr):Sp:=Lv C G Pc Fo Ch
inductive Er(C G Pc Fo Ch:Addr)(vs:List V)(H:Hp)(Q:VK)(E:XK):Prop
 |mk (c am:Addr) (m:Int) (xs ys:List Tm) (kvs:List (Key×V)) (dR:vs=[.ref c, .int m, .ref am]) (dS:dC C G Pc Fo Ch H c xs ys) (dW:(∀x∈xs,cV x.2)) (eZ:(∀y∈ys,cV y.2)) (gz:xs.length≤20) (jb:ys.length≤20) (nM:Zk xs ys) (sy:H am=some (.dK kvs)) (EU:bu kvs) (Ra:kvs.length≤900) (PB:∀e H',H e=none→H' e=some (.dK (cX kvs xs ys m))→au H H'→Q (.ref e) H')
def rX(C G Pc Fo Ch:Addr):Sp:=Er C G Pc Fo Ch
def b9(am:List (Key×V))(xs ys:List Tm)(m:Int):Option (Int×Key×Int):=match uW am xs ys with
 |none=>none
 |some t=>if m≤t then none else (gF (cX am xs ys t) (aI xs) (aI xs)).map fun p=>(t,p.1,p.2)
inductive Es(C G Pc Fo Ch Sh:Addr)(vs:List V)(H:Hp)(Q:VK)(E:XK):Prop
 |mk (c am:Addr) (m st:Int) (xs ys:List Tm) (kvs:List (Key×V)) (dR:vs=[.ref c, .int m, .ref am, .int st]) (dS:dC C G Pc Fo Ch H c xs ys) (dW:(∀x∈xs,cV x.2)) (eZ:(∀y∈ys,cV y.2)) (gz:xs.length≤20) (jb:ys.length≤20) (nM:Zk xs ys) (sy:H am=some (.dK kvs)) (EU:bu kvs) (Ra:kvs.length≤900) (PB:0≤st) (h'11:st<10^60) (h'12:(∀t k l,b9 kvs xs ys m=some (t,k,l)→0≤t+1∧t+1<10^60∧0≤l∧l<10^60)) (h'13:(b9 kvs xs ys m=none→∀H',au H H'→Q .cS H')) (h'14:(∀t (x:Str) l e dx H',b9 kvs xs ys m=some (t,Sum.inr x,l)→H' e=some (FP e Sh (some dx))→H' dx=some (Bn dx (Zi st (t+1) x l))→H e=none→H dx=none→au H H'→E (.ref Sh) (some dx) H'))
def y8(C G Pc Fo Ch Sh:Addr):Sp:=Es C G Pc Fo Ch Sh
theorem dH:ay ["change","times","amounts","step","turns","there","taken","text","lack"] ["change","times","amounts","step"] (aj gO):=dA
theorem Et(D:Def K mg "refuse_short" "refuse_short" gO ["change","times","amounts","step"])(T:oF K mg C R G Pc Fo Ch uK uN uB uE uM uC uP uI uD uL uT fb fe fg uG uS)(TE:Lq K mg HE Sh)(c1:bj P w K mg base 10 "most_turns" ["change","amounts"] (Hx C G Pc Fo Ch))(c2:bj P w K mg base 10 "turned" ["change","times","amounts"] (rX C G Pc Fo Ch))(c3:bj P w K mg base 8 "side_counts" ["terms"] (gS C G Pc Fo))(c4:Ab P w K mg base 1 "Short" Sh HE ["self","step","turn","formula","lack"] (Cc Sh)):
  F2 P w K mg base 11 "refuse_short" ["change","times","amounts","step"] (y8 C G Pc Fo Ch Sh):=by
 obtain⟨_,_,gT⟩:=c1
 obtain⟨_,_,fG⟩:=c2
 obtain⟨_,_,aZ⟩:=c3
 obtain⟨_,_,k9⟩:=c4
 refine D.F3 dH (fun vs H Q E h=>?_) (fun f bp A outer s H vs Q E hr h=>?_)
 ·obtain⟨c,am,m,st,xs,ys,kvs,rfl,_⟩:=h
  rfl
 ·obtain⟨c,am,m,st,xs,ys,kvs,rfl,hC,hx,hy,lx,ly,hG,Cd,hI,hl,st0,st1,hb,q,qE⟩:=h
  have hu:=dz hr
  have big:(2000 :Nat)≤sizeLine:=by decide
  refine⟨_,(ai
     (aB (i:=4) dH.nd rfl (Or.inl rfl) (aJ gT.ok (hr.mono (by decide)) rfl gT.g gT.kp gT.b .nil az (af (pv 0) (af (pv 2) ak))))
    (ai
     (bN (PW.pt (xO (vj (E6 (pv 4))) (vk (aO Mi (pv 1) (pv 4) (aX _)))))
      (ao
       JK)
      aY)
    (ai
     (aB (i:=5) dH.nd rfl (Or.inl rfl) (aJ fG.ok (hr.mono (by decide)) rfl fG.g fG.kp fG.b .nil az (af (pv 0) (af (pv 4) (af (pv 2) ak)))))
    (ai
     (aB (i:=6) dH.nd rfl (Or.inl rfl) (aJ aZ.ok (hr.mono (by decide)) rfl aZ.g aZ.kp aZ.b .nil az (af (a5 (pv 0) rfl) ak)))
    (ao
     (eF (bO FT rfl (dU (pv 6)) (aD (i:=7) dH.nd rfl (Or.inl rfl))
      (ai
       (aB (i:=8) dH.nd rfl (Or.inl rfl) (aA jW (cY hu (pv 6) (pv 7) (fun _ _=>rfl)) (bZ hu (pv 5) (pv 7) aq ⟨rfl,rfl,rfl,rfl⟩)))
      (ao
       (bN (aO jY (pv 8) aq (aX _))
        (ao
         (FX rfl vI (FW k9.z k9.ok (hr.mono (by decide)) rfl k9.g k9.kp k9.b (af (pv 3) (af (aA bR (pv 4) aq) (af (pv 7) (af (pv 8) ak)))))))
        aY)))))))))),?_⟩
  refine⟨_,rfl,_,rfl,c,am,xs,ys,kvs,rfl,hC,hx,hy,lx,ly,hG,Cd,hI,fun H1 e1=>?_⟩
  cases hm:uW kvs xs ys with
  |none=>
   have hs:b9 kvs xs ys m=none:=by unfold b9;rw[hm]
   refine⟨_,rfl,_,rfl,iZ ?_⟩
   exact q hs _ e1
  |some t=>
   refine⟨_,rfl,_,rfl,fI ⟨_,rfl,_,rfl,_,_,rfl,rfl,_,rfl,fu (fun em=>?_) fun em=>?_⟩⟩
   ·have em:m≤t:=by simpa using em
    have hs:b9 kvs xs ys m=none:=by unfold b9;rw[hm];simp [em]
    exact q hs _ e1
   have em:¬m≤t:=by simpa using em
   have hs:b9 kvs xs ys m=(gF (cX kvs xs ys t) (aI xs) (aI xs)).map fun p=>(t,p.1,p.2):=by unfold b9;rw[hm];simp [em]
   refine⟨_,rfl,_,rfl,_,rfl,c,am,t,xs,ys,kvs,rfl,hC.same e1,hx,hy,lx,ly,hG,e1 _ _ Cd,hI,hl,fun th H2 nth hth e2=>?_⟩
   have AJ:=e1.trans e2
   obtain⟨dx,l,r,hc,hl',oM⟩:=id hC
   refine⟨_,rfl,c,Ch,dx,_,_,rfl,AJ _ _ hc,T.b5,T.hV,eR _ _,l,xs,rfl,hl'.same AJ,hx,lx,fun tk H3 MT xS e3=>?_⟩
   have xS:H3 tk=some (.dK (aI xs)):=xS
   have Lg:=AJ.trans e3
   have hth3:=e3 _ _ hth
   have Rn:bu (cX kvs xs ys t):=cR _ _ _ _ hI
   have TN:bu (aI xs):=cI _
   have htH:H tk=none:=none_back AJ MT
   have nht:th≠tk:=ag hth MT
   have hinr:∀p∈aI xs,∃s:Str,p.1=Sum.inr s∧s.length≤100:=by
    refine k8 (Pk:=fun j=>∃s:Str,j=Sum.inr s∧s.length≤100) 1 _ [] (fun q hq=>by cases hq) fun p hp=>?_
    obtain⟨z,hz,rfl⟩:=List.mem_map.mp hp
    have:=(hx z hz).2.1
    exact⟨_,rfl,by rw[bq];omega⟩
   dsimp only [cN]
   refine⟨_,rfl,tk,aI xs,rfl,xS,fun o nf=>gg nf (fun i σ H'=>∃v7 v8:Option V,σ=[some (.ref c),some (.int m),some (.ref am),some (.int st),some (.int t),some (.ref th),some (.ref tk),v7,v8]∧H'=H3∧gF (cX kvs xs ys t) (aI xs) ((aI xs).drop i)=gF (cX kvs xs ys t) (aI xs) (aI xs)) ⟨none,none,rfl,rfl,rfl⟩ (fun i σ H' ⟨_,_,_,z,_⟩=>by rw[z];exact xS) ?_ ?_⟩
   ·rintro i k v σ H' hi ⟨v7,v8,rfl,rfl,Ro⟩
    have hv:=TN.f6 (List.mem_of_getElem? hi)
    have TQ:(upd H' tk (.d8 o (.dK (aI xs)))) th=some (.dK (cX kvs xs ys t)):=by rw[ah nht];exact hth3
    have zt:=(List.getElem?_eq_some_iff.mp hi).1
    have Oh:(aI xs).drop i=(k,v)::(aI xs).drop (i+1):=by
     rw[List.drop_eq_getElem_cons zt]
     congr 1
     exact(List.getElem?_eq_some_iff.mp hi).2
    refine⟨_,rfl,_,rfl,tk,V.int (aM (aI xs) k),rfl, .inl ⟨_,k, .inr ⟨o,aa⟩,rfl,hv.symm⟩,_,rfl,th,rfl, .inl ⟨_, .inl TQ⟩,_,rfl,_,gI.k (k:=k) TQ,?_⟩
    rw[Rn.at k]
    refine⟨_,_,rfl,rfl,?_⟩
    refine⟨_,rfl,_,_,rfl,rfl,_,rfl,fu (fun ec=>?_) fun ec=>?_⟩
    ·have ec:0<aM (aI xs) k - aM (cX kvs xs ys t) k:=by simpa using ec
     rw[Oh,ik,if_pos ec] at Ro
     obtain⟨x,ex,sP⟩:=hinr _ (List.mem_of_getElem? hi)
     have ex:k=Sum.inr x:=ex
     subst ex
     have Fy:b9 kvs xs ys m=some (t,Sum.inr x,aM (aI xs) (Sum.inr x) - aM (cX kvs xs ys t) (Sum.inr x)):=by rw[hs,←Ro];rfl
     obtain⟨b1,b2,b3,b4⟩:=hb _ _ _ Fy
     refine⟨_,rfl,_,rfl,_,_,rfl,rfl,_,rfl,_,rfl,(by show 4≤100;decide),fun e he=>?_⟩
     have s4:au H (upd H' tk (.d8 o (.dK (aI xs)))):=fun b o' z=>by rw[ah (ag z htH)];exact Lg _ _ z
     have s5:=s4.trans (au.new (o:=tR e Sh none) he)
     refine⟨e,st,t+1,x,_,rfl,aa,st0,st1,b1,b2,sP,b3,b4,fun dQ H5 MS JA h5e h5d k5=>⟨rfl,?_⟩⟩
     refine⟨e,Sh,HE,_,some dQ,rfl,k9.z,h5e,?_⟩
     refine qE t x _ e dQ _ Fy aa (by rw[ah JA];exact h5d) (none_back s4 he) (none_back s5 MS) fun b o' z=>?_
     have nbe:b≠e:=ag (s4 _ _ z) he
     rw[ah nbe]
     exact k5 _ _ (s5 _ _ z) nbe
    ·have ec:¬0<aM (aI xs) k - aM (cX kvs xs ys t) k:=by simpa using ec
     refine⟨aa,_,_,rfl,by rw[jc,eB xS],?_⟩
     rw[←Ro,Oh,ik,if_neg ec]
   ·rintro σ H' ⟨v7,v8,rfl,rfl,Ro⟩
    rw[List.drop_length] at Ro
    refine q ?_ _ Lg
    rw[hs,←Ro]
    rfl
variable {uC uP uI uD uL uT fb fe fg uG uS:Tok}{Ch HE Sh St:Addr}
structure PD(K:PySem.W.Frag)(mg:Str→Option Value)(C R G Pc Fo Ch St:Addr)(uK uN uB uE uM uC uP uI uD uL uT fb fe fg uG uS:Tok):Prop extends oF K mg C R G Pc Fo Ch uK uN uB uE uM uC uP uI uD uL uT fb fe fg uG uS where
 kz:mg "enumerate" =none
 cj:tf K St
 eO:cH K St "amounts"
 p9:cH K St "gone"
def AM(x:Str)(xs ys:List Tm):Prop:=x.cps.toList=sC xs++p6++sC ys∧xs≠[]∧ys≠[]∧(∀t∈xs,fJ t)∧(∀t∈ys,fJ t)∧x.length≤400∧xs.length+ys.length≤8∧yR (xs++ys)≤60∧(∀t∈xs,cV t.2)∧(∀t∈ys,cV t.2)∧∀k,sumZ xs k=sumZ ys k
theorem qb(t b:Int)(k:Key)(hb:0≤b):∀(as:List (Str×Int)) (acc:List (Key×V)) (B:Int),(∀p∈as, -b≤p.2*t∧p.2*t≤b)→ -B≤aM acc k→aM acc k≤B→ -(B+as.length*b)≤aM (a9 t acc as) k∧aM (a9 t acc as) k≤B+as.length*b
 | [],acc,B,_,h1,h2=>by
   show -(B+((0 :Nat):Int)*b)≤aM acc k∧aM acc k≤B+((0 :Nat):Int)*b
   simp
   exact⟨h1,h2⟩
 |p::r,acc,B,h,h1,h2=>by
  have hp:=h p (List.mem_cons_self ..)
  have e:aM (cC acc (Sum.inr p.1) (p.2*t)) k=if k=Sum.inr p.1 then aM acc (Sum.inr p.1)+p.2*t else aM acc k:=iF _ _ _ _
  have EO: -(B+b)≤aM (cC acc (Sum.inr p.1) (p.2*t)) k∧aM (cC acc (Sum.inr p.1) (p.2*t)) k≤B+b:=by
   rw[e]
   split
   ·rename_i ek
    rw[←ek]
    omega
   ·omega
  have ih:=qb t b k hb r (cC acc (Sum.inr p.1) (p.2*t)) (B+b) (fun q hq=>h q (List.mem_cons_of_mem _ hq)) EO.1 EO.2
  have el:((p::r).length:Int)*b=b+(r.length:Int)*b:=by rw[List.length_cons];push_cast;rw[Int.add_mul];omega
  rw[el]
  show -(B+(b+(r.length:Int)*b))≤aM (a9 t (cC acc (Sum.inr p.1) (p.2*t)) r) k∧aM (a9 t (cC acc (Sum.inr p.1) (p.2*t)) r) k≤B+(b+(r.length:Int)*b)
  omega
theorem Lw{KV:List (Key×V)}{B:Int}(hB:0≤B)(h:∀k, -B≤aM KV k∧aM KV k≤B)(L:List (Key×V))(k:Key): -B≤aM (rO KV L) k∧aM (rO KV L) k≤B:=by
 cases e:bW (rO KV L) k with
 |none=>rw[eC e];omega
 |some v=>
  have hm:=fS e
  obtain⟨q,_,eq'⟩:=List.mem_map.mp hm
  injection eq' with e1 e2
  rw[←e2] at e
  rw[dB e]
  exact h _
theorem Ce{x:Str}{xs ys:List Tm}(h:AM x xs ys):Zk xs ys:=fun k=>by
 obtain⟨_,_,_,h1,h2,_,hl,_⟩:=h
 have hy:∀p∈fV ys, -(10^12)≤p.2*1∧p.2*1≤10^12:=fun p hp=>by
  obtain⟨z,hz,rfl⟩:=List.mem_map.mp hp
  have:=h2 z hz
  have b1:=this.1
  have b2:=this.2.1
  show -(10^12)≤z.1*1∧z.1*1≤10^12
  omega
 have hx:∀p∈fV xs, -(10^12)≤p.2*(-1)∧p.2*(-1)≤10^12:=fun p hp=>by
  obtain⟨z,hz,rfl⟩:=List.mem_map.mp hp
  have:=h1 z hz
  have b1:=this.1
  have b2:=this.2.1
  show -(10^12)≤z.1*(-1)∧z.1*(-1)≤10^12
  omega
 have e:∀zs:List Tm,(fV zs).length=zs.length:=fun zs=>by unfold fV;rw[List.length_map]
 have key:∀k, -(10^13)≤aM (uO xs ys) k∧aM (uO xs ys) k≤10^13:=fun k=>by
  have a1:=qb 1 (10^12) k (by decide) (fV ys) [] 0 hy (Int.le_refl _) (Int.le_refl _)
  have a2:=qb (-1) (10^12) k (by decide) (fV xs) (a9 1 [] (fV ys)) (0+(fV ys).length*10^12) hx a1.1 a1.2
  rw[e,e] at a2
  show -(10^13)≤aM (a9 (-1) (a9 1 [] (fV ys)) (fV xs)) k∧aM (a9 (-1) (a9 1 [] (fV ys)) (fV xs)) k≤10^13
  omega
 have:=Lw (by decide) key (uO xs ys) k
 show -(2^62) <aM (rO (uO xs ys) (uO xs ys)) k∧aM (rO (uO xs ys) (uO xs ys)) k<2^62
 omega
inductive Lx(C G Pc Fo Ch:Addr)(vs:List V)(H:Hp)(Q:VK)(E:XK):Prop
 |mk (x:Str) (xs ys:List Tm) (dR:vs=[.str x]) (dS:AM x xs ys) (dW:∀c H',H c=none→Pa C G Pc Fo Ch H H' c xs ys→au H H'→Q (.ref c) H')
def Hy(C G Pc Fo Ch:Addr):Sp:=Lx C G Pc Fo Ch
structure bU where
 xs:List Tm
 ys:List Tm
 x:Str
 m:Int
def df(H:Hp)(t:Addr)(r:bU):Prop:=H t=some (.tup [.str r.x, .int r.m])
def cz(am:List (Key×V))(rs:List bU):List (Key×V):=rs.foldl (fun a r=>cX a r.xs r.ys r.m) am
inductive Hz(C G Pc Fo Ch Sh St:Addr)(vs:List V)(H:Hp)(Q:VK)(E:XK):Prop
 |mk (st d g rl:Addr) (kvs:List (Key×V)) (gs:List V) (ts:List Addr) (rs:List bU) (dR:vs=[.ref st, .ref rl]) (dS:nj St H st d g) (dW:H d=some (.dK kvs)) (eZ:H g=some (.lst gs)) (gz:g≠rl) (jb:bu kvs) (nM:kvs.length≤400) (sy:H rl=some (.lst (ts.map V.ref))) (EU:Paired (df H) ts rs) (Ra:rs.length≤12) (PB:gs.length≤1000) (h'11:(∀r∈rs,AM r.x r.xs r.ys)) (h'12:(∀i r t k l,rs[i]? =some r→b9 (cz kvs (rs.take i)) r.xs r.ys r.m=some (t,k,l)→0≤t+1∧t+1<10^60∧0≤l∧l<10^60)) (h'13:((∀i r,rs[i]? =some r→b9 (cz kvs (rs.take i)) r.xs r.ys r.m=none)→∀d' H',(d'=d∨H d'=none)→nj St H' st d' g→H' d'=some (.dK (cz kvs rs))→H' g=some (.lst (gs++ts.map V.ref))→(∀b o,H b=some o→b≠st→b≠g→H' b=some o)→Q .cS H')) (h'14:(∀(i:Nat) r t (x:Str) l e dx H',rs[i]? =some r→(∀j r,j<i→rs[j]? =some r→b9 (cz kvs (rs.take j)) r.xs r.ys r.m=none)→b9 (cz kvs (rs.take i)) r.xs r.ys r.m=some (t,Sum.inr x,l)→H' e=some (FP e Sh (some dx))→H' dx=some (Bn dx (Zi (i:Nat) (t+1) x l))→H e=none→H dx=none→au H H'→E (.ref Sh) (some dx) H'))
def xc(C G Pc Fo Ch Sh St:Addr):Sp:=Hz C G Pc Fo Ch Sh St
theorem oN{kvs:List (Key×V)}(rs:List bU)(i:Nat)(h:bu kvs):bu (cz kvs (rs.take i)):=by
 generalize rs.take i=l
 induction l generalizing kvs with
 |nil=>exact h
 |cons r l ih=>exact ih (cR _ _ _ _ h)
theorem PJ{kvs:List (Key×V)}:∀{rs:List bU},(∀r∈rs,r.xs.length+r.ys.length≤8)→(cz kvs rs).length≤kvs.length+8*rs.length:=by
 intro rs
 induction rs generalizing kvs with
 |nil=>intro _;exact Nat.le_refl _
 |cons r l ih=>
  intro h
  have h1:=ih (kvs:=cX kvs r.xs r.ys r.m) fun q hq=>h q (List.mem_cons_of_mem _ hq)
  have h2:(cX kvs r.xs r.ys r.m).length≤kvs.length+(ig r.xs r.ys).length:=gk _ _ _ _
  have h3:(ig r.xs r.ys).length≤(uO r.xs r.ys).length:=wW _ _
  have h4:=wX r.xs r.ys
  have h5:=h r (List.mem_cons_self ..)
  rw[List.length_cons]
  show (cz (cX kvs r.xs r.ys r.m) l).length≤_
  omega
theorem Cf(d g a:Addr):cL "amounts" (.ref a) (yV d g)=yV a g:=by
 unfold yV
 simp [cL,Zf]
theorem jE:ay ["self","rows","changes","amounts","step","change","times"] ["self","rows"] (aj qS):=dA
def PvG(C G Pc Fo Ch L:Addr)(H:Hp)(rs:List bU):Nat→List V→Hp→Prop:=fun i ys H'=>∃cs:List Addr,ys=cs.map V.ref∧cs.length=i∧Paired (fun c (r:bU)=>∀cy:Hp,(∀b o,H b=none→b≠L→H' b=some o→cy b=some o)→dC C G Pc Fo Ch cy c r.xs r.ys) cs (rs.take i)
theorem HA(D:bg K St "go_all" "Store.go_all" qS ["self","rows"])(T:PD K mg C R G Pc Fo Ch St uK uN uB uE uM uC uP uI uD uL uT fb fe fg uG uS)(c1:bj P w K mg base 15 "read_even" ["text"] (Hy C G Pc Fo Ch))(c2:F2 P w K mg base 11 "refuse_short" ["change","times","amounts","step"] (y8 C G Pc Fo Ch Sh))(c3:bj P w K mg base 10 "turned" ["change","times","amounts"] (rX C G Pc Fo Ch)):
  vK P w K mg base 17 St "go_all" ["self","rows"] (xc C G Pc Fo Ch Sh St):=by
 obtain⟨_,_,iJ⟩:=c1
 obtain⟨_,_,fH⟩:=c2
 obtain⟨_,_,fG⟩:=c3
 refine D.F3 jE (fun vs H Q E h=>?_) (fun f bp A outer s H vs Q E hr h=>?_)
 ·obtain⟨st,d,g,rl,kvs,gs,ts,rs,rfl,_⟩:=h
  rfl
 ·obtain⟨st,d,g,rl,kvs,gs,ts,rs,rfl,⟨dx,iV⟩,hd,hg,ngr,hI,oJ,sF,hP,hr20,Zl,aV,hb,q,qE⟩:=h
  have hu:=dz hr
  have big:(2000 :Nat)≤sizeLine:=by decide
  refine⟨_,(ai
     (mv (i:=2) jE.nd rfl (Or.inl rfl) (sc:=(aj qS)) (NX:=["self","rows","changes","amounts","step","change","times"]) (N:=["text","times"]) (fr:=[none,none]) ⟨by rfl,by rfl,by decide+kernel,by decide+kernel,by decide+kernel,by rfl,by decide+kernel⟩ rfl rfl rfl (bX (pv 1)) (fun _ _ _ _=>(mw K 2 rfl rfl (aQ (aD (i:=0) (show (["text","times"]:List Str).Nodup by decide+kernel) rfl (Or.inl rfl) (Or.inr rfl)) (aQ (aD (i:=1) (show (["text","times"]:List Str).Nodup by decide+kernel) rfl (Or.inl rfl) (Or.inr rfl)) cK)))) (fun _ _ _ _=>fx) (fun _ _ _ _=>(aJ iJ.ok (hr.mono (by decide)) rfl iJ.g iJ.kp iJ.b .nil az (af (pv 0) ak))))
    (ai
     (aB (i:=3) jE.nd rfl (Or.inl rfl) (a5 (pv 0) rfl))
    (ai
     (bO FT rfl (Bm rfl T.kz (af (pv 2) ak)) (fi rfl (aQ (aD (i:=4) jE.nd rfl (Or.inl rfl)) (aQ (aD (i:=5) jE.nd rfl (Or.inl rfl)) cK)))
      (ai
       (aB (i:=6) jE.nd rfl (Or.inl rfl) (cf gu (cf cQ (pv 1) (pv 4) (fun _ _=>rfl)) aq (fun _ _=>rfl)))
      (ai
       (bb (FV fH.ok (hr.mono (by decide)) rfl fH.g fH.kp fH.b .nil vI (af (pv 5) (af (pv 6) (af (pv 3) (af (pv 4) ak))))))
      (ao
       (aB (i:=3) jE.nd rfl (Or.inl rfl) (aJ fG.ok (hr.mono (by decide)) rfl fG.g fG.kp fG.b .nil az (af (pv 5) (af (pv 6) (af (pv 3) ak)))))))))
    (ai
     (eI (pv 0) (pv 3) rfl)
    (ao
     (bb (gD PySem.F.plainAttrs_list PySem.F.slot_list_extend PySem.F.type_list_extend De (a5 (pv 0) rfl) (af (pv 1) ak)))))))),?_⟩
  have gH:=Paired.length hP
  refine⟨_,rfl,rl,rfl,⟨_,bJ.of sF⟩,fun L hL=>i0 (K:=K) (a:=rl) (L:=L) (xs:=ts.map V.ref) H (fun σ=>∃v u:Option V,σ=[v,u]) (PvG C G Pc Fo Ch L H rs) (bJ.of sF) ?_ hL ⟨none,none,rfl⟩ (au.new hL) aa ⟨[],rfl,rfl, .nil⟩ (by rw[List.length_map];omega) ?_ ?_ ?_⟩
  ·rintro i ys Ha Hb Dk ⟨cs,h1,h2,h3⟩
   exact⟨cs,h1,h2,aw (fun c r z cy k=>z cy fun b o z1 z2 z3=>k b o z1 z2 (Dk _ _ z3 z2)) h3⟩
  ·rintro i ys H' ⟨cs,rfl,h2,_⟩
   rw[List.length_map,h2];exact Nat.le_refl _
  ·rintro j w σ' H5 vs hj ⟨w1,w2,rfl⟩ e5 kn ⟨cs,rfl,Rh,Zm⟩ N M hN
   rw[List.getElem?_map] at hj
   obtain⟨t,ht,rfl⟩:∃m,ts[j]? =some m∧w=V.ref m:=by
    cases hh:ts[j]? with
    |none=>rw[hh] at hj;cases hj
    |some m=>rw[hh] at hj;exact⟨m,rfl,(Option.some.inj hj).symm⟩
   obtain⟨r,oM,xD⟩:=bo hP ht
   have xD:H t=some (.tup [.str r.x, .int r.m]):=xD
   refine⟨t,_,rfl,ir.of (e5 _ _ xD),rfl,_,_,rfl,_,_,rfl,rfl,?_⟩
   refine⟨_,rfl,r.x,r.xs,r.ys,rfl,aV r (List.mem_of_getElem? oM),fun c H6 nc hN6 e6=>?_⟩
   refine hN _ _ _ ⟨_,_,rfl⟩ (e5.trans e6) (e6 _ _ kn) ⟨cs++[c],by rw[List.map_append];rfl,by rw[List.length_append,Rh];rfl,?_⟩
   rw[take_snoc oM]
   refine bC (fun cy k=>hN6 cy fun b o z1 z2=>k b o (none_back e5 z1) (fun z=>by rw[z,kn] at z1;cases z1) z2) (aw (fun c r z cy k=>z cy fun b o z1 z2 z3=>k b o z1 z2 (e6 _ _ z3)) Zm)
  rintro H2 ys e2 pX ⟨cs,rfl,Rh,Zm⟩
  rw[List.length_map] at Rh
  have xD:rs.take ts.length=rs:=by rw[gH,List.take_length]
  rw[List.length_map,xD] at Zm
  refine⟨_,rfl,st,St,dx,_,_,rfl,e2 _ _ iV,T.cj,T.eO,iI _ _,?_⟩
  dsimp only [cN]
  have hcl2:cs.length=rs.length:=by rw[Rh,gH]
  have hCh:∀{i:Nat} {c:Addr} {r:bU} {H':Hp},cs[i]? =some c→rs[i]? =some r→au H2 H'→dC C G Pc Fo Ch H' c r.xs r.ys:=fun {i c r H'} h1 h2 e=>by
   obtain⟨r',oM,z⟩:=bo Zm h1
   rw[h2] at oM
   cases oM
   exact z H' fun b o _ _ z3=>e _ _ z3
  have hLH:H L=none:=hL
  refine⟨_,rfl,L,rfl,⟨_,bJ.of pX⟩,x8 (K:=K) (a:=L) (xs:=cs.map V.ref) (fun i σ H'=>∃(a:Addr) (v4 v5 v6:Option V),σ=[some (.ref st),some (.ref rl),some (.ref L),some (.ref a),v4,v5,v6]∧H' a=some (.dK (cz kvs (rs.take i)))∧(a=d∨H a=none)∧(∀j r,j<i→rs[j]? =some r→b9 (cz kvs (rs.take j)) r.xs r.ys r.m=none)∧au H2 H') ?_ (fun i σ H' ⟨_,_,_,_,_,_,_,_,z⟩=>bJ.of (z _ _ pX)) ?_ ?_⟩
  ·exact⟨d,none,none,none,rfl,e2 _ _ hd, .inl rfl,(fun j r hj=>absurd hj (Nat.not_lt_zero _)),au.refl _⟩
  ·rintro i v p σ H' hi hp ⟨a,v4,v5,v6,rfl,ha,jj,Ly,e3⟩
   rw[List.getElem?_map] at hi
   obtain⟨c,hc,rfl⟩:∃m,cs[i]? =some m∧v=V.ref m:=by
    cases hh:cs[i]? with
    |none=>rw[hh] at hi;cases hi
    |some m=>rw[hh] at hi;exact⟨m,rfl,(Option.some.inj hi).symm⟩
   have zt:i<rs.length:=by have:=(List.getElem?_eq_some_iff.mp hc).1;omega
   have sG:=List.getElem?_eq_getElem zt
   have D8:ts[i]? =some ts[i]:=List.getElem?_eq_getElem (by omega)
   obtain⟨r',oM,xD⟩:=bo hP D8
   generalize ts[i]=t at D8 xD
   generalize rs[i]=r at sG
   have er:r=r':=Option.some.inj (sG.symm.trans oM)
   subst er
   have xD:H t=some (.tup [.str r.x, .int r.m]):=xD
   have JB:=aV r (List.mem_of_getElem? sG)
   have s4:=e3.trans (au.new (o:= .tup [.int (i:Nat), .ref c]) hp)
   have JC:=e2.trans s4
   have ha4:=au.new (o:= .tup [.int (i:Nat), .ref c]) hp _ _ ha
   refine⟨p,_,rfl,ir.of aa,rfl,_,_,rfl,_,_,rfl,rfl,?_⟩
   refine⟨_,rfl,_,rfl,rl,_,_, .ref t,rfl,rfl,bJ.of (JC _ _ sF),mj (by rw[List.getElem?_map,D8];rfl),t,_,_, .int r.m,rfl,rfl,ir.of (JC _ _ xD),rfl,?_⟩
   have hIa:=oN rs i hI
   have hla:=PJ (kvs:=kvs) (rs:=rs.take i) fun r hr=>(aV r (List.mem_of_mem_take hr)).2.2.2.2.2.2.1
   have pz:(rs.take i).length≤12:=by rw[List.length_take];omega
   dsimp only [cN]
   refine⟨_,rfl,_,rfl,_,rfl,_,rfl,c,a,r.m,(i:Nat),r.xs,r.ys,cz kvs (rs.take i),rfl,hCh hc sG s4,JB.2.2.2.2.2.2.2.2.1,JB.2.2.2.2.2.2.2.2.2.1,by have:=JB.2.2.2.2.2.2.1;omega,by have:=JB.2.2.2.2.2.2.1;omega,Ce JB,ha4,hIa,by omega,by omega,by omega,fun t k l z=>hb i r t k l sG z,fun hs H5 e5=>?_,fun t' x l e dQ H5 hs he MS ne Rp e5=>?_⟩
   ·refine⟨_,rfl,_,rfl,_,rfl,c,a,r.m,r.xs,r.ys,cz kvs (rs.take i),rfl,hCh hc sG (s4.trans e5),JB.2.2.2.2.2.2.2.2.1,JB.2.2.2.2.2.2.2.2.2.1,by have:=JB.2.2.2.2.2.2.1;omega,by have:=JB.2.2.2.2.2.2.1;omega,Ce JB,e5 _ _ ha4,hIa,by omega,fun a' H6 na' ha' e6=>?_⟩
    refine⟨a',_,_,_,rfl,?_, .inr (none_back (JC.trans e5) na'),fun j r2 hj TR=>?_,(s4.trans e5).trans e6⟩
    ·rw[ha',take_snoc sG]
     unfold cz
     rw[List.foldl_append]
     rfl
    ·rcases Nat.lt_succ_iff_lt_or_eq.mp hj with hj|hj
     ·exact Ly j r2 hj TR
     ·subst hj
      have er:=Option.some.inj (sG.symm.trans TR)
      rw[←er]
      exact hs
   ·exact qE i r t' x l e dQ H5 sG Ly hs he MS (none_back JC ne) (none_back JC Rp) (JC.trans e5)
  ·rintro σ H' ⟨a,v4,v5,v6,rfl,ha,jj,Ly,e3⟩
   rw[List.length_map,hcl2,List.take_length] at ha
   have MU:=e2.trans e3
   have TU:=MU _ _ iV
   have hlf:(yV d g).length<1000:=by unfold yV;simp [cL,Zf]
   refine⟨_,rfl,_,rfl,st,St,dx,_,rfl,TU,T.cj,T.eO,hlf,?_⟩
   have nsg:st≠g:=cG iV hg (by intro z;cases z)
   have nsr:st≠rl:=cG iV sF (by intro z;cases z)
   have nsa:st≠a:=cG TU ha (by intro z;cases z)
   have nga:g≠a:=cG (MU _ _ hg) ha (by intro z;cases z)
   refine⟨_,rfl,st,St,dx,_,_,rfl,aa,T.cj,T.p9,(by rw[Cf];exact yW _ _),?_⟩
   have hg3:(upd H' st (.ins St dx (cL "amounts" (.ref a) (yV d g)))) g=some (.lst gs):=by rw[ah (Ne.symm nsg)];exact MU _ _ hg
   refine⟨.inl ⟨rfl,_,bJ.of hg3⟩,_,rfl,g,rl,gs,ts.map V.ref,rfl,rfl,by rw[ah (Ne.symm nsg)];exact MU _ _ hg,by rw[ah (Ne.symm nsr)];exact MU _ _ sF,by rw[List.length_map];omega,?_⟩
   refine q (fun i r hi=>Ly i r (by rw[List.length_map];have:=(List.getElem?_eq_some_iff.mp hi).1;omega) hi) a _ jj ⟨dx,by rw[ah nsg,aa,Cf]⟩ (by rw[ah (Ne.symm nga),ah (Ne.symm nsa)];exact ha) aa fun b o z n1 n2=>?_
   rw[ah n2,ah n1]
   exact MU _ _ z
variable {uC uP uI uD uL uT fb fe fg uG uS:Tok}{Ch HE Sh St:Addr}
inductive TV(C G Pc Fo Ch Sh St:Addr)(vs:List V)(H:Hp)(Q:VK)(E:XK):Prop
 |mk (st d g:Addr) (kvs:List (Key×V)) (gs:List V) (r:bU) (dR:vs=[.ref st, .str r.x, .int r.m]) (dS:nj St H st d g) (dW:H d=some (.dK kvs)) (eZ:H g=some (.lst gs)) (gz:bu kvs) (jb:kvs.length≤400) (nM:gs.length≤1000) (sy:AM r.x r.xs r.ys) (EU:(∀t k l,b9 kvs r.xs r.ys r.m=some (t,k,l)→0≤t+1∧t+1<10^60∧0≤l∧l<10^60)) (Ra:(b9 kvs r.xs r.ys r.m=none→∀d' t H',(d'=d∨H d'=none)→nj St H' st d' g→H' d'=some (.dK (cX kvs r.xs r.ys r.m))→H' g=some (.lst (gs++[.ref t]))→df H' t r→(∀b o,H b=some o→b≠st→b≠g→H' b=some o)→Q .cS H')) (PB:(∀t (x:Str) l e dx H',b9 kvs r.xs r.ys r.m=some (t,Sum.inr x,l)→H' e=some (FP e Sh (some dx))→H' dx=some (Bn dx (Zi 0 (t+1) x l))→H e=none→H dx=none→au H H'→E (.ref Sh) (some dx) H'))
def TX(C G Pc Fo Ch Sh St:Addr):Sp:=TV C G Pc Fo Ch Sh St
theorem scGo:ay ["self","text","times"] ["self","text","times"] (aj DA):=dA
theorem TZ(D:Bq K St "go" "Store.go" DA ["self","text","times"] [1])(T:PD K mg C R G Pc Fo Ch St uK uN uB uE uM uC uP uI uD uL uT fb fe fg uG uS)(c1:vK P w K mg base 17 St "go_all" ["self","rows"] (xc C G Pc Fo Ch Sh St)):vL P w K mg base 18 St "go" ["self","text","times"] [1] (TX C G Pc Fo Ch Sh St):=by
 obtain⟨_,_,cJ⟩:=c1
 refine D.F3 scGo (fun vs H Q E h=>?_) (fun f bp A outer s H vs Q E hr h=>?_)
 ·obtain⟨st,d,g,kvs,gs,r,rfl,_⟩:=h
  rfl
 ·obtain⟨st,d,g,kvs,gs,r,rfl,⟨dx,iV⟩,hd,hg,hI,oJ,Zl,aV,hb,q,qE⟩:=h
  have big:(2000 :Nat)≤sizeLine:=by decide
  refine⟨_,(ao
     (bb (qL (pv 0) T.cj cJ.m cJ.ok (hr.mono (by decide)) cJ.b .nil vI (af (cA (af (bQ (af (pv 1) (af (pv 2) ak))) ak)) ak)))),?_⟩
  refine⟨_,rfl,st,dx,_,rfl,iV,ku _ _ (by decide+kernel) (by decide+kernel),_,rfl,_,rfl,(by show 2≤sizeLine;decide),fun t ht=>⟨(by show 1≤sizeLine;decide),fun rl sF=>?_⟩⟩
  have s1:=au.new (o:= .tup [.str r.x, .int r.m]) ht
  have s2:=s1.trans (au.new (o:= .lst [.ref t]) sF)
  have Ph:=au.new (o:= .lst [.ref t]) sF _ _ (aa (H:=H) (a:=t) (o:= .tup [.str r.x, .int r.m]))
  have h0:([r]:List bU).take 0=[]:=rfl
  have one:∀{i:Nat} {r':bU},[r][i]? =some r'→i=0∧r'=r:=fun {i r'} z=>by
   match i,z with
   |0,z=>exact⟨rfl,(Option.some.inj z).symm⟩
  refine⟨st,d,g,rl,kvs,gs,[t],[r],rfl,⟨dx,s2 _ _ iV⟩,s2 _ _ hd,s2 _ _ hg,ag (s1 _ _ hg) sF,hI,oJ,aa, .cons Ph .nil,(by show 1≤12;decide),Zl,(fun r' oM=>by rw[List.mem_singleton.mp oM];exact aV),fun i r' t' k l z1 z2=>?_,fun z d' H' h0 h1 h2 h3 h4=>?_,fun i r' t' x l e dQ H' z1 z2 z3 h1 h2 h3 h4 h5=>?_⟩
  ·obtain⟨rfl,rfl⟩:=one z1
   exact hb t' k l z2
  ·refine q (z 0 r rfl) d' t H' (h0.imp id (none_back s2)) h1 h2 h3 (h4 _ _ Ph ?_ ?_) fun b o y n1 n2=>h4 _ _ (s2 _ _ y) n1 n2
   ·exact Ne.symm (ag iV ht)
   ·exact Ne.symm (ag hg ht)
  ·obtain⟨rfl,rfl⟩:=one z1
   exact qE t' x l e dQ H' z3 h1 h2 (none_back s2 h3) (none_back s2 h4) (s2.trans h5)
variable {uC uP uI uD uL uT fb fe fg uG uS:Tok}{Ch HE Sh St:Addr}
inductive AN(vs:List V)(H:Hp)(Q:VK)(E:XK):Prop
 |mk (a t g:Int) (dR:vs=[.int a, .int t, .int g]) (dS: -(2^62) <g) (dW:Q (oV (xC a t g)) H)
def uX:Sp:=AN
theorem Eu:ay ["amount","taken","gain"] ["amount","taken","gain"] (aj mL):=dA
theorem AO(D:Def K mg "turns_of" "turns_of" mL ["amount","taken","gain"]):bj P w K mg base 1 "turns_of" ["amount","taken","gain"] uX:=by
 refine D.dh Eu (fun vs H Q E h=>?_) (fun f bp A outer s H vs Q E hr h=>?_)
 ·obtain⟨a,t,g,rfl,_⟩:=h
  rfl
 ·obtain⟨a,t,g,rfl,hg,q⟩:=h
  refine⟨_,(ai
     (bN (aO me (pv 0) (pv 1) (aX _))
      (ao
       (aE aq))
      aY)
    (ai
     (bN (aO RS (pv 2) aq (aX _))
      (ao
       (aE zB))
      aY)
    (ao
     (aE (aA bR (aA FJ (aA jW (pv 0) (pv 1)) (oU jX (pv 2))) aq))))),?_⟩
  unfold xC at q
  refine⟨_,rfl,_,rfl,_,_,rfl,rfl,_,rfl,fu (fun e=>?_) fun e=>?_⟩
  ·have e:a<t:=by simpa using e
   rw[if_pos e] at q
   exact q
  have e:¬a<t:=by simpa using e
  rw[if_neg e] at q
  refine⟨_,rfl,_,_,rfl,rfl,_,rfl,fu (fun e=>?_) fun e=>?_⟩
  ·have e:0≤g:=by simpa using e
   rw[if_pos e] at q
   exact q
  have e:¬0≤g:=by simpa using e
  rw[if_neg e] at q
  exact⟨_,rfl,_,rfl,_,_,rfl,rfl,_,rfl,_,rfl,_,_,rfl,rfl,⟨by omega,by omega⟩,_,_,rfl,rfl,q⟩
theorem nq:ay ["change","times","amounts","gained","told","text"] ["change","times","amounts"] (aj pS):=dA
theorem Ew(D:Def K mg "turned" "turned" pS ["change","times","amounts"])(T:oF K mg C R G Pc Fo Ch uK uN uB uE uM uC uP uI uD uL uT fb fe fg uG uS)(c1:bj P w K mg base 9 "gains" ["change"] (wY C G Pc Fo Ch)):bj P w K mg base 10 "turned" ["change","times","amounts"] (rX C G Pc Fo Ch):=by
 obtain⟨_,_,gU⟩:=c1
 refine D.dh nq (fun vs H Q E h=>?_) (fun f bp A outer s H vs Q E hr h=>?_)
 ·obtain⟨c,am,m,xs,ys,kvs,rfl,_⟩:=h
  rfl
 ·obtain⟨c,am,m,xs,ys,kvs,rfl,hC,hx,hy,lx,ly,hG,Cd,hI,hl,q⟩:=h
  have hu:=dz hr
  have big:(2000 :Nat)≤sizeLine:=by decide
  refine⟨_,(ai
     (aB (i:=3) nq.nd rfl (Or.inl rfl) (aJ gU.ok (hr.mono (by decide)) rfl gU.g gU.kp gU.b .nil az (af (pv 0) ak)))
    (ai
     (aB (i:=4) nq.nd rfl (Or.inl rfl) (bI lP rfl T.ko jl (af (pv 2) ak)))
    (ai
     (eF (bO PassesOwn.never rfl (dU (pv 3)) (aD (i:=5) nq.nd rfl (Or.inl rfl))
      (ao
       (cZ hu (pv 4) (pv 5) (aA bR (bZ hu (pv 4) (pv 5) aq ⟨rfl,rfl,rfl,rfl⟩) (aA fM (pv 1) (cY hu (pv 3) (pv 5) (fun _ _=>rfl)))) rfl))))
    (ao
     (aE (pv 4)))))),?_⟩
  refine⟨_,rfl,c,xs,ys,rfl,hC,hx,hy,lx,ly,fun d H1 nd hd e1=>?_⟩
  refine⟨_,rfl,am,_,rfl, .inl (e1 _ _ Cd),fun e0 sA=>?_⟩
  have e01:H e0=none:=none_back e1 sA
  have Hi:e0≠d:=fun z=>by rw[z,hd] at sA;cases sA
  have s2:=au.new (o:= .dK kvs) sA
  have hd2:=s2 _ _ hd
  have Zd:(upd H1 e0 (.dK kvs)) e0=some (.dK kvs):=aa
  have e2:=e1.trans s2
  generalize upd H1 e0 (.dK kvs)=H2 at hd2 Zd e2
  have hgl:(ig xs ys).length≤40:=by
   have h3:(ig xs ys).length≤(uO xs ys).length:=wW _ _
   have h4:=wX xs ys
   omega
  have T1:bu (ig xs ys):=BX _ _
  dsimp only [cN]
  refine⟨_,rfl,d,ig xs ys,rfl,hd2,fun o nf=>gg nf (fun j σ H3=>∃w:Option V,σ=[some (.ref c),some (.int m),some (.ref am),some (.ref d),some (.ref e0),w]∧H3=upd H2 e0 (.dK (fW m kvs ((ig xs ys).take j) (ig xs ys)))) ?_ ?_ ?_ ?_⟩
  ·exact⟨none,rfl,(eB Zd).symm⟩
  ·rintro j σ H3 ⟨_,_,rfl⟩
   rw[ah (Ne.symm Hi)]
   exact hd2
  ·rintro j k v σ H3 hj ⟨w,rfl,rfl⟩
   have nW:∀o',(upd (upd H2 e0 (.dK (fW m kvs ((ig xs ys).take j) (ig xs ys)))) d o') e0=some (.dK (fW m kvs ((ig xs ys).take j) (ig xs ys))):=fun o'=>by rw[ah Hi];exact aa
   have Ri:=gk m (ig xs ys) ((ig xs ys).take j) kvs
   have D8:((ig xs ys).take j).length≤(ig xs ys).length:=List.length_take_le' _ _
   have G0:=cR m (ig xs ys) ((ig xs ys).take j) kvs hI
   have hv:=T1.f6 (List.mem_of_getElem? hj)
   have Y2:=hG k
   refine⟨_,rfl,e0,rfl, .inl ⟨_, .inl (nW _)⟩,_,rfl,_,gI.k (k:=k) (nW _),_,rfl,_,rfl,_,rfl,d,V.int (aM (ig xs ys) k),rfl, .inl ⟨_,k, .inr ⟨o,aa⟩,rfl,hv.symm⟩,_,_,rfl,rfl, .inr ⟨by omega,by omega⟩,_,_,G0.at k,rfl,_,rfl,_,rfl,e0,_,rfl,jh.k (k:=k) (nW _) (by omega),?_⟩
   refine⟨by rw[ah (Ne.symm Hi)];exact aa,some (kV k),rfl,?_⟩
   rw[ni Hi hd2]
   unfold fW
   rw[take_snoc hj,List.foldl_append]
   rfl
  ·rintro σ H3 ⟨w,rfl,rfl⟩
   rw[List.take_length]
   exact⟨_,rfl,q e0 _ e01 aa fun b o' w'=>by rw[ah (ag w' e01)];exact e2 _ _ w'⟩
variable {uC uP uI uD uL uT fb fe fg uG uS:Tok}{Ch HE Sh St:Addr}
theorem l7:ay ["text","change","lost"] ["text"] (aj kR):=dA
theorem Ex{xs ys:List Tm}(h:∀k,sumZ xs k=sumZ ys k)(ms:List Str):Hk ms xs ys=[]:=by
 unfold Hk yU
 rw[List.filter_map,List.map_eq_nil_iff,List.filter_eq_nil_iff]
 intro k _
 simp [Function.comp,h]
theorem y9(D:Def K mg "read_even" "read_even" kR ["text"])(T:oF K mg C R G Pc Fo Ch uK uN uB uE uM uC uP uI uD uL uT fb fe fg uG uS)(c1:bj P w K mg base 14 "read_change" ["text"] (uJ C G Pc Fo Ch))(c2:aK P w K mg base 10 Ch "lost" ["self"] (Hl C G Pc Fo Ch)):bj P w K mg base 15 "read_even" ["text"] (Hy C G Pc Fo Ch):=by
 obtain⟨_,_,f7⟩:=c1
 obtain⟨_,_,iU⟩:=c2
 refine D.dh l7 (fun vs H Q E h=>?_) (fun f bp A outer s H vs Q E hr h=>?_)
 ·obtain⟨x,xs,ys,rfl,_⟩:=h
  rfl
 ·obtain⟨x,xs,ys,rfl,hev,q⟩:=h
  obtain⟨h1,h2,h3,h4,h5,h6,h7,h8,h9,h10,h11⟩:=id hev
  refine⟨_,(ai
     (aB (i:=1) l7.nd rfl (Or.inl rfl) (aJ f7.ok (hr.mono (by decide)) rfl f7.g f7.kp f7.b .nil az (af (pv 0) ak)))
    (ai
     (aB (i:=2) l7.nd rfl (Or.inl rfl) (aN (pv 1) T.b5 iU.m iU.ok (hr.mono (by decide)) iU.b .nil az))
    (ai
     (bN (qq (pv 2) (fun _=>rfl))
      (ao
       f9)
      aY)
    (ao
     (aE (pv 1)))))),?_⟩
  refine⟨_,rfl,x,xs,ys,rfl,h1,h2,h3,h4,h5,h6,h7,fun c H1 nc hN e1=>?_⟩
  have hC:=hN H1 fun b o _ z=>z
  obtain⟨dx,l,r,hc,_⟩:=id hC
  refine⟨_,rfl,c,dx,_,rfl,hc,yz _ _ (by decide+kernel) (by decide+kernel),c,xs,ys,rfl,hC,fun z hz=>?_,by rw[List.length_append];omega,h8,fun L ts ms H2 hK nL hL hP e2=>?_⟩
  ·rcases List.mem_append.mp hz with z'|z'
   ·exact h9 z z'
   ·exact h10 z z'
  rw[Ex h11] at hP
  cases hP
  have xB:H2 L=some (.lst []):=hL
  refine⟨_,rfl,false, .inl ⟨_,bJ.of xB,rfl⟩,fI ⟨_,rfl,q c H2 nc (fun cy k=>hN cy fun b o z1 z2=>k b o z1 (e2 _ _ z2)) (e1.trans e2)⟩⟩
variable {uC uP uI uD uL uT fb fe fg uG uS:Tok}{Ch HE Sh St:Addr}
structure T2(K:PySem.W.Frag)(mg:Str→Option Value)(C R G Pc Fo Ch:Addr)(uK uN uB uE uM uC uP uI uD uL uT fb fe fg uG uS:Tok):Prop extends oF K mg C R G Pc Fo Ch uK uN uB uE uM uC uP uI uD uL uT fb fe fg uG uS where
 HB:mg "min" =none
theorem rY:∀{l:List Int},l≠[]→∃b∈l,∀a∈l,b≤a
 | [],h=>absurd rfl h
 | [x],_=>⟨x,by simp,fun a ha=>by simp at ha;omega⟩
 |x::y::r,_=>by
  obtain⟨b,hb,hle⟩:=rY (l:=y::r) (by simp)
  by_cases c:x≤b
  ·exact⟨x,by simp,fun a ha=>by
    rcases List.mem_cons.mp ha with z|z
    ·omega
    ·have:=hle a z;omega⟩
  ·exact⟨b,List.mem_cons_of_mem _ hb,fun a ha=>by
    rcases List.mem_cons.mp ha with z|z
    ·omega
    ·exact hle a z⟩
theorem oO:∀{l:List (Option Int)},l.filterMap id=[]→eP l=none
 | [],_=>rfl
 |none::r,h=>oO (l:=r) (by simpa using h)
 |some i::r,h=>by simp at h
theorem jF:∀{l:List (Option Int)} {m:Int},m∈l.filterMap id→(∀a∈l.filterMap id,m≤a)→eP l=some m
 | [],m,h,_=>by simp at h
 |none::r,m,h,h'=>jF (l:=r) (by simpa using h) (fun a ha=>h' a (by simpa using ha))
 |some i::r,m,h,h'=>by
  have hi:m≤i:=h' i (by simp)
  cases e:eP r with
  |none=>
   have er:r.filterMap id=[]:=by
    cases f:r.filterMap id with
    |nil=>rfl
    |cons a as=>
     obtain⟨b,hb,hle⟩:∃b∈r.filterMap id,∀a∈r.filterMap id,b≤a:=rY (by rw[f];simp)
     rw[jF hb hle] at e
     cases e
   have hm:m=i:=by
    simp [er] at h
    rcases h with h| ⟨h,_⟩<;>omega
   show (match eP r with|none=>some i|some j=>some (if j<i then j else i))=some m
   rw[e,hm]
  |some j=>
   have hj:∃b∈r.filterMap id,∀a∈r.filterMap id,b≤a:=by
    apply rY
    intro z
    rw[oO z] at e
    cases e
   obtain⟨b,hb,hle⟩:=hj
   have eb:j=b:=by
    have:=jF hb hle
    rw[e] at this
    exact Option.some.inj this
   subst eb
   have hmj:m≤j:=h' j (by rw[List.filterMap_cons];simp;exact .inr (by simpa using hb))
   show (match eP r with|none=>some i|some j=>some (if j<i then j else i))=some m
   rw[e]
   have Oe:m=i∨m∈r.filterMap id:=by
    rw[List.filterMap_cons] at h
    simpa using h
   rcases Oe with Oe|Oe
   ·subst Oe
    dsimp only
    rw[if_neg (by omega)]
   ·have:=hle m Oe
    dsimp only
    split
    ·congr 1;omega
    ·congr 1;omega
theorem iK:ay ["change","amounts","taken","gained","told"] ["change","amounts"] (aj fQ):=dA
theorem Lz(D:Def K mg "most_turns" "most_turns" fQ ["change","amounts"])(T:T2 K mg C R G Pc Fo Ch uK uN uB uE uM uC uP uI uD uL uT fb fe fg uG uS)(c1:bj P w K mg base 8 "side_counts" ["terms"] (gS C G Pc Fo))(c2:bj P w K mg base 9 "gains" ["change"] (wY C G Pc Fo Ch))(c3:bj P w K mg base 1 "turns_of" ["amount","taken","gain"] uX):bj P w K mg base 10 "most_turns" ["change","amounts"] (Hx C G Pc Fo Ch):=by
 obtain⟨_,_,aZ⟩:=c1
 obtain⟨_,_,gU⟩:=c2
 obtain⟨_,_,jG⟩:=c3
 refine D.dh iK (fun vs H Q E h=>?_) (fun f bp A outer s H vs Q E hr h=>?_)
 ·obtain⟨c,am,xs,ys,kvs,rfl,_⟩:=h
  rfl
 ·obtain⟨c,am,xs,ys,kvs,rfl,hC,hx,hy,lx,ly,hG,Cd,hI,q⟩:=h
  have hu:=dz hr
  have big:(2000 :Nat)≤sizeLine:=by decide
  obtain⟨dx,l,r,hc,hl,Jy⟩:=id hC
  refine⟨_,(ai
     (aB (i:=2) iK.nd rfl (Or.inr rfl) (aJ aZ.ok (hr.mono (by decide)) rfl aZ.g aZ.kp aZ.b .nil az (af (a5 (pv 0) rfl) ak)))
    (ai
     (aB (i:=3) iK.nd rfl (Or.inr rfl) (aJ gU.ok (hr.mono (by decide)) rfl gU.g gU.kp gU.b .nil az (af (pv 0) ak)))
    (ai
     (eF (mv (i:=4) iK.nd rfl (Or.inl rfl) (sc:=(aj fQ)) (NX:=["change","amounts","taken","gained","told"]) (N:=["text","taken","amounts","gained"]) (fr:=[none,some 2,some 1,some 3]) ⟨by rfl,by rfl,by decide+kernel,by decide+kernel,by decide+kernel,by rfl,by decide+kernel⟩ rfl rfl rfl (dU (pv 2)) (fun _ _ _ _=>(aD (i:=0) (show (["text","taken","amounts","gained"]:List Str).Nodup by decide+kernel) rfl (Or.inl rfl) (Or.inr rfl))) (fun _ _ _ _=>fx) (fun _ _ _ _=>(aJ jG.ok (hr.mono (by decide)) rfl jG.g jG.kp jG.b .nil az (af (bZ hu (pv 2) (pv 0) aq ⟨rfl,rfl,rfl,rfl⟩) (af (cY hu (pv 1) (pv 0) (fun _ _=>rfl)) (af (bZ hu (pv 3) (pv 0) aq ⟨rfl,rfl,rfl,rfl⟩) ak)))))))
    (ao
     (aE (Ku rfl rfl T.HB (af (fy (sc:=(aj fQ)) (NX:=["change","amounts","taken","gained","told"]) (N:=["turns"]) (fr:=[none]) ⟨by rfl,by rfl,by decide+kernel,by decide+kernel,by decide+kernel,by rfl,by decide+kernel⟩ rfl rfl rfl (bX (pv 4)) (fun _ _ _ _=>(aD (i:=0) (show (["turns"]:List Str).Nodup by decide+kernel) rfl (Or.inl rfl) (Or.inr rfl))) (fun _ _ _ _=>(mn (vj (A8 (pv 0))))) (fun _ _ _ _=>(pv 0))) ak))))))),?_⟩
  refine⟨_,rfl,c,Ch,dx,_,_,rfl,hc,T.b5,T.hV,eR _ _,l,xs,rfl,hl,hx,lx,fun tk H1 MT xS e1=>?_⟩
  refine⟨_,rfl,c,xs,ys,rfl,hC.same e1,hx,hy,lx,ly,fun gn H2 ngn hgn e2=>?_⟩
  have AJ:=e1.trans e2
  have htk2:H2 tk=some (.dK (aI xs)):=e2 _ _ xS
  have TN:bu (aI xs):=cI _
  have T1:bu (ig xs ys):=BX _ _
  have AK:(aI xs).length≤20:=by
   have:=dN (fV xs)
   have e:(fV xs).length=xs.length:=by unfold fV;rw[List.length_map]
   unfold aI
   omega
  have ham2:=AJ _ _ Cd
  have nat:am≠tk:=ag Cd MT
  have ngt:gn≠tk:=Ne.symm (ag xS ngn)
  refine⟨_,rfl,tk,aI xs,rfl,htk2,fun o nf L hL=>?_⟩
  have Rk:L≠tk:=fun z=>by rw[z,aa] at hL;cases hL
  have xB:H2 L=none:=by rwa [ah Rk] at hL
  refine kL (a:=tk) (D:=L) (kvs:=aI xs) (fun i σ H'=>∃v:Option V,σ=[v,some (.ref tk),some (.ref am),some (.ref gn)]∧H' tk=some (.d8 o (.dK (aI xs)))∧H' L=some (.lst (((aI xs).take i).map fun q=>oV (xC (aM kvs q.1) (aM (aI xs) q.1) (aM (ig xs ys) q.1))))∧∀b o',H2 b=some o'→b≠tk→H' b=some o') ?_ (fun i σ H' ⟨_,_,z,_⟩=>z) ?_ ?_
  ·exact⟨none,rfl,by rw[ah (Ne.symm Rk),aa],aa,fun b o' z hb=>by rw[ah (ag z xB),ah hb];exact z⟩
  ·rintro i k v σ H' hi ⟨v',rfl,f1,f2,f3⟩ N hN
   have hv:=TN.f6 (List.mem_of_getElem? hi)
   have ha:=f3 _ _ ham2 nat
   have hg:=f3 _ _ hgn ngt
   have zt:=(List.getElem?_eq_some_iff.mp hi).1
   refine⟨_,rfl,am,rfl, .inl ⟨_, .inl ha⟩,_,rfl,_,gI.k (k:=k) ha,_,rfl,_,rfl,tk,V.int (aM (aI xs) k),rfl, .inl ⟨_,k, .inr ⟨o,f1⟩,rfl,hv.symm⟩,_,rfl,gn,rfl, .inl ⟨_, .inl hg⟩,_,rfl,_,gI.k (k:=k) hg,?_⟩
   rw[hI.at k,T1.at k]
   refine⟨aM kvs k,aM (aI xs) k,aM (ig xs ys) k,rfl,(hG k).1,_,f2,by rw[List.length_map,List.length_take];omega,hN _ _ ⟨_,rfl,by rw[ah (Ne.symm Rk)];exact f1,?_,fun b o' z hb=>by rw[ah (ag z xB)];exact f3 b o' z hb⟩⟩
   rw[aa,take_snoc hi,List.map_append]
   rfl
  rintro σ H' ⟨v',rfl,f1,f2,f3⟩
  rw[List.take_length] at f2
  refine⟨tk,o,aI xs,f1,nf,?_⟩
  have s3:au H (upd H' tk (.dK (aI xs))):=fun b o' z=>by
   have nb:b≠tk:=ag z MT
   rw[ah nb]
   exact f3 _ _ (AJ _ _ z) nb
  have m9:(upd H' tk (.dK (aI xs))) L=some (.lst ((aI xs).map fun q=>oV (xC (aM kvs q.1) (aM (aI xs) q.1) (aM (ig xs ys) q.1)))):=by rw[ah Rk];exact f2
  have em:uW kvs xs ys=eP ((aI xs).map fun q=>xC (aM kvs q.1) (aM (aI xs) q.1) (aM (ig xs ys) q.1)):=rfl
  have eo:((aI xs).map fun q=>oV (xC (aM kvs q.1) (aM (aI xs) q.1) (aM (ig xs ys) q.1)))=((aI xs).map fun q=>xC (aM kvs q.1) (aM (aI xs) q.1) (aM (ig xs ys) q.1)).map oV:=by rw[List.map_map];rfl
  rw[eo] at m9
  have hol:((aI xs).map fun q=>xC (aM kvs q.1) (aM (aI xs) q.1) (aM (ig xs ys) q.1)).length≤20:=by rw[List.length_map];exact AK
  rw[em] at q
  generalize ((aI xs).map fun q=>xC (aM kvs q.1) (aM (aI xs) q.1) (aM (ig xs ys) q.1))=os at m9 hol q
  generalize upd H' tk (.dK (aI xs))=H3 at s3 m9 ⊢
  have hlen:∀i,((os.take i).filterMap id).length≤i:=fun i=>Nat.le_trans (List.length_filterMap_le _ _) (by rw[List.length_take];omega)
  refine⟨_,rfl,L,rfl,⟨_,bJ.of m9⟩,fun M hM=>tQ (K:=K) (a:=L) (L:=M) (xs:=os.map oV) H3 (fun σ=>∃v:Option V,σ=[v]) (fun i ys=>ys=((os.take i).filterMap id).map V.int) (bJ.of m9) hM ⟨none,rfl⟩ (au.new hM) aa rfl (by rw[List.length_map];omega) ?_ ?_ ?_⟩
  ·rintro i ys rfl
   rw[List.length_map]
   exact hlen i
  ·rintro i v σ H5 ys hi ⟨w,rfl⟩ e5 T3 rfl N M' hN hM'
   rw[List.getElem?_map] at hi
   obtain⟨z,hz,rfl⟩:∃z,os[i]? =some z∧v=oV z:=by
    cases hh:os[i]? with
    |none=>rw[hh] at hi;cases hi
    |some z=>rw[hh] at hi;exact⟨z,rfl,(Option.some.inj hi).symm⟩
   cases z with
   |none=>
    refine⟨_,rfl,_,rfl,fI (hM' _ _ ⟨_,rfl⟩ e5 T3 ?_)⟩
    rw[take_snoc hz,List.filterMap_append]
    simp
   |some j=>
    refine⟨_,rfl,_,rfl,iZ ⟨_,rfl,hN _ _ _ ⟨_,rfl⟩ e5 T3 ?_⟩⟩
    rw[take_snoc hz,List.filterMap_append,List.map_append]
    rfl
  ·rintro H5 ys e5 T3 rfl
   rw[List.length_map,List.take_length] at T3
   refine⟨M,os.filterMap id,rfl,bJ.of T3,fun h0=>?_,fun m hm hle=>?_⟩
   ·have:=q H5 (s3.trans e5)
    rw[oO h0] at this
    exact this
   ·have:=q H5 (s3.trans e5)
    rw[jF hm hle] at this
    exact this
variable {uC uP uI uD uL uT fb fe fg uG uS:Tok}{Ch HE Sh St:Addr}
inductive HC(vs:List V)(H:Hp)(Q:VK)(E:XK):Prop
 |mk (l:Addr) (xs:List Tm) (dR:vs=[.ref l]) (dS:bT H l xs) (dW:(∀x∈xs,cV x.2)) (eZ:xs.length≤20) (gz:∀e H',H e=none→H' e=some (.dK (aI xs))→au H H'→Q (.ref e) H')
def Cg:Sp:=HC
theorem qc:ay ["_law_terms","_law_found","_law_count_here","_law_formula"] ["_law_terms"] (aj vW):=dA
theorem HD(D:Def K mg "_law_asked" "_law_asked" vW ["_law_terms"]):bj P w K mg base 1 "_law_asked" ["_law_terms"] Cg:=by
 refine D.dh qc (fun vs H Q E h=>?_) (fun f bp A outer s H vs Q E hr h=>?_)
 ·obtain⟨l,xs,rfl,_⟩:=h
  rfl
 ·obtain⟨l,xs,rfl,⟨ts,hl,hP⟩,aV,Zb,q⟩:=h
  have hu:=dz hr
  have big:(2000 :Nat) <sizeLine:=by decide
  have gH:=Paired.length hP
  refine⟨_,(ai
     (aB (i:=1) qc.nd rfl (Or.inl rfl) dw)
    (ai
     (bO PassesOwn.never rfl (bX (pv 0)) (fi rfl (aQ (aD (i:=2) qc.nd rfl (Or.inl rfl)) (aQ (aD (i:=3) qc.nd rfl (Or.inl rfl)) cK)))
      (ao
       (cZ hu (pv 1) (cf gu (pv 3) aq (fun _ _=>rfl)) (aA bR (bZ hu (pv 1) (cf gu (pv 3) aq (fun _ _=>rfl)) aq ⟨rfl,rfl,rfl,rfl⟩) (pv 2)) rfl)))
    (ao
     (aE (pv 1))))),?_⟩
  refine fun d hd=>?_
  have sD:=au.new (o:= .dK []) hd
  refine⟨_,rfl,l,rfl,⟨_,bJ.of (sD _ _ hl)⟩,c9 (K:=K) (a:=l) (xs:=ts.map V.ref) (fun i σ H'=>∃v2 v3:Option V,σ=[some (.ref l),some (.ref d),v2,v3]∧H' d=some (.dK (a9 1 [] (fV (xs.take i))))∧au H H') ?_ (fun i σ H' _ ⟨_,_,_,_,z⟩=>bJ.of (z _ _ hl)) ?_ ?_⟩
  ·exact⟨none,none,rfl,aa,sD⟩
  ·rintro i v σ H' hi ⟨v2,v3,rfl,eQ,e⟩
   rw[List.getElem?_map] at hi
   obtain⟨t,ht,rfl⟩:∃p,ts[i]? =some p∧v=V.ref p:=by
    cases hh:ts[i]? with
    |none=>rw[hh] at hi;cases hi
    |some p=>rw[hh] at hi;exact⟨p,rfl,(Option.some.inj hi).symm⟩
   obtain⟨y,hy,fo,h1,cd,h2,_⟩:=bo hP ht
   have hI:bu (a9 1 [] (fV (xs.take i))):=iB 1 _ _ fun p hp=>by cases hp
   have oJ:=iC 1 (fV (xs.take i)) []
   have Zc:(fV (xs.take i)).length≤20:=by unfold fV;rw[List.length_map,List.length_take];omega
   rw[List.length_nil] at oJ
   refine⟨t,_,rfl,ir.of (e _ _ h1),rfl,_,_,rfl,_,_,rfl,rfl,?_⟩
   refine⟨_,rfl,d,rfl, .inl ⟨_, .inl eQ⟩,_,rfl,fo,_,_,_,rfl,rfl,ir.of (e _ _ h2),rfl,_,gI.k (k:=Sum.inr ⟨(fL y.2).toArray⟩) eQ,_,rfl,_,_,hI.at _,rfl,_,rfl,_,rfl,fo,_,_,_,rfl,rfl,ir.of (e _ _ h2),rfl,d,_,rfl,jh.k (k:=Sum.inr ⟨(fL y.2).toArray⟩) eQ (by omega),?_⟩
   refine⟨_,_,rfl,?_,fun b o z=>?_⟩
   ·rw[aa,yM hy]
    rfl
   ·rw[ah (ag z hd)]
    exact e _ _ z
  ·rintro σ H' ⟨v2,v3,rfl,eQ,e⟩
   rw[List.length_map,gH,List.take_length] at eQ
   exact⟨_,rfl,q d H' hd eQ e⟩
variable {uC uP uI uD uL uT:Tok}{St:Addr}
def jH(H:Hp)(l:Addr)(ws:List Fm):Prop:=∃ts:List Addr,H l=some (.lst (ts.map V.ref))∧Paired (yx H) ts ws
theorem jH.same{H H':Hp}{l:Addr}{ws:List Fm}(h:jH H l ws)(e:au H H'):jH H' l ws:=let ⟨ts,h1,h2⟩:=h;⟨ts,e _ _ h1,aw (fun _ _ z=>z.same e) h2⟩
inductive HF(K:PySem.W.Frag)(vs:List V)(H:Hp)(Q:VK)(E:XK):Prop
 |mk (a:Addr) (ns:List Int) (dR:vs=[.ref a]) (dS:bJ K H a (ns.map V.int)) (dW:ns.length≤63) (eZ:∀(l:Addr) (ws:List Fm) H',jH H' l ws→(∀w∈ws,cV w)→(∀w∈ws,(cW 1 w.1).length≤3)→ws.length=3→au H H'→Q (.ref l) H')
def Ci(K:PySem.W.Frag):Sp:=HF K
theorem Cj:ay ["_law_script","_law_kinds"] ["_law_script"] (aj n9):=dA
theorem HG(D:Def K mg "_law_world" "_law_world" n9 ["_law_script"])(T:rT K mg C R G Pc Fo St uK uN uB uE uM uC uP uI uD uL uT)(c1:bj P w K mg base 1 "_law_cell_at" ["_law_script","_law_k"] (mS K))(c2:bj P w K mg base 1 "_law_mixed" ["_law_cell","_law_prime"] MR)(c3:bj P w K mg base 1 "_law_kind" ["_law_number"] BM)(c4:bj P w K mg base 2 "_law_matter" ["_law_cell","_law_kinds"] yZ):
  bj P w K mg base 3 "_law_world" ["_law_script"] (Ci K):=by
 obtain⟨_,_,a6⟩:=c1
 obtain⟨_,_,eS⟩:=c2
 obtain⟨_,_,nv⟩:=c3
 obtain⟨_,_,jI⟩:=c4
 refine D.dh Cj (fun vs H Q E h=>?_) (fun f bp A outer s H vs Q E hr h=>?_)
 ·obtain⟨a,ns,rfl,_⟩:=h
  rfl
 ·obtain⟨a,ns,rfl,hS,hlen,q⟩:=h
  have hu:=dz hr
  have Tx:=hr.nR
  have big:(2000 :Nat)≤sizeLine:=by decide
  refine⟨_,(ai
     (aB (i:=1) Cj.nd rfl (Or.inr rfl) (fy (sc:=(aj n9)) (NX:=["_law_script","_law_kinds"]) (N:=["_law_k","_law_script"]) (fr:=[none,some 0]) ⟨by rfl,by rfl,by decide+kernel,by decide+kernel,by decide+kernel,by rfl,by decide+kernel⟩ rfl rfl rfl (iX rfl T.mT (af aq ak)) (fun _ _ _ _=>(aD (i:=0) (show (["_law_k","_law_script"]:List Str).Nodup by decide+kernel) rfl (Or.inl rfl) (Or.inr rfl))) (fun _ _ _ _=>fx) (fun _ _ _ _=>(aJ nv.ok (hr.mono (by decide)) rfl nv.g nv.kp nv.b .nil az (af (aJ eS.ok (hr.mono (by decide)) rfl eS.g eS.kp eS.b .nil az (af (aJ a6.ok (hr.mono (by decide)) rfl a6.g a6.kp a6.b .nil az (af (pv 1) (af (pv 0) ak))) (af aq ak))) ak)))))
    (ao
     (aE (fy (sc:=(aj n9)) (NX:=["_law_script","_law_kinds"]) (N:=["_law_k","_law_kinds","_law_script"]) (fr:=[none,some 1,some 0]) ⟨by rfl,by rfl,by decide+kernel,by decide+kernel,by decide+kernel,by rfl,by decide+kernel⟩ rfl rfl rfl (iX rfl T.mT (af aq ak)) (fun _ _ _ _=>(aD (i:=0) (show (["_law_k","_law_kinds","_law_script"]:List Str).Nodup by decide+kernel) rfl (Or.inl rfl) (Or.inr rfl))) (fun _ _ _ _=>fx) (fun _ _ _ _=>(aJ jI.ok (hr.mono (by decide)) rfl jI.g jI.kp jI.b .nil az (af (aJ eS.ok (hr.mono (by decide)) rfl eS.g eS.kp eS.b .nil az (af (aJ a6.ok (hr.mono (by decide)) rfl a6.g a6.kp a6.b .nil az (af (pv 2) (af (aA bR aq (pv 0)) ak))) (af aq ak))) (af (pv 1) ak)))))))),?_⟩
  refine⟨_,rfl,by decide,by decide,fun L hL=>FD (L:=L) H (fun σ=>∃v:Option V,σ=[v,some (.ref a)]) (fun i ys=>∃ks:List (List Nat),ys=ks.map (fun k=>V.str ⟨k.toArray⟩)∧ks.length=i∧∀k∈ks,lT k) hL ⟨none,rfl⟩ (au.new hL) aa ⟨[],rfl,rfl,fun k hk=>by cases hk⟩ (by decide) ?_ ?_ ?_⟩
  ·rintro i ys ⟨ks,rfl,e,_⟩
   rw[List.length_map,e];exact Nat.le_refl _
  ·rintro i σ H2 ys hi ⟨v,rfl⟩ e2 pX ⟨ks,rfl,oJ,xx⟩ N M hN
   refine⟨_,rfl,_,rfl,a,ns,i,by rw[Int.zero_add];rfl,e2.seq hS,hlen,fun n=>⟨n,1000003,rfl,by decide,by decide,fun n2=>⟨n2,rfl,fun k H3 hk e3=>?_⟩⟩⟩
   refine hN _ _ _ ⟨_,rfl⟩ (e2.trans e3) (e3 _ _ pX) ⟨ks++[k],by rw[List.map_append];rfl,by rw[List.length_append,oJ];rfl,fun k' My=>?_⟩
   rcases List.mem_append.mp My with z|z
   ·exact xx k' z
   ·have:k'=k:=by simpa using z
    rw[this];exact hk
  rintro H2 ys e2 pX ⟨ks,rfl,oJ,xx⟩
  obtain⟨k0,k1,k2,rfl⟩:∃k0 k1 k2,ks=[k0,k1,k2]:=by
   match ks,oJ with
   | [k0,k1,k2],_=>exact⟨k0,k1,k2,rfl⟩
  have hk0:=xx k0 (by simp)
  have Tz:=xx k1 (by simp)
  have Dy:=xx k2 (by simp)
  refine⟨_,rfl,by decide,by decide,fun L3 m9=>Dm (L:=L3) H2 (fun σ=>∃v:Option V,σ=[v,some (.ref L),some (.ref a)]) (fun i ys H'=>∃(ts ds:List Addr) (ws:List Fm),ys=ts.map V.ref∧ts.length=i∧(∀w∈ws,cV w)∧(∀w∈ws,(cW 1 w.1).length≤3)∧Paired (fun t x=>t≠L3∧∃d,d≠L3∧H' t=some (.tup [.str ⟨(fL x).toArray⟩, .ref d, .int x.2])∧H' d=some (.dK (cW 1 x.1))) ts ws) ?_ m9 ⟨none,rfl⟩ (au.new m9) aa ⟨[],[],[],rfl,rfl,(fun k hk=>by cases hk),(fun k hk=>by cases hk), .nil⟩ (by decide) ?_ ?_ ?_⟩
  ·rintro i ys Ha Hb hb ⟨ts,ds,ws,h1,h2,h3,h3',h4⟩
   exact⟨ts,ds,ws,h1,h2,h3,h3',aw (fun t x ⟨n1,d,n2,z1,z2⟩=>⟨n1,d,n2,hb _ _ z1 n1,hb _ _ z2 n2⟩) h4⟩
  ·rintro i ys H' ⟨ts,ds,ws,rfl,h2,_⟩
   rw[List.length_map,h2];exact Nat.le_refl _
  ·rintro i σ H5 ys hi ⟨v,rfl⟩ e5 kn ⟨ts,ds,ws,rfl,AK,aV,xf,hP⟩ N M hN
   have ek:(3 :Int)+(0+(i:Int))=((3+i:Nat):Int):=by omega
   refine⟨_,rfl,_,rfl,_,_,rfl,rfl,a,ns,3+i,by rw[←ek];rfl,e5.seq (e2.seq hS),hlen,fun n=>⟨n,1000033,rfl,by decide,by decide,fun n2=>⟨_,rfl,n2,L,k0,k1,k2,rfl,e5 _ _ pX,hk0,Tz,Dy,fun t x H6 lC PK hF e6=>?_⟩⟩⟩
   obtain⟨d,h1,h2⟩:=hF
   have DX:=e6 _ _ kn
   refine hN _ _ _ ⟨_,rfl⟩ (e5.trans e6) DX ⟨ts++[t],ds,ws++[x],by rw[List.map_append];rfl,by rw[List.length_append,AK];rfl,fun w hw=>?_,fun w hw=>?_,?_⟩
   ·rcases List.mem_append.mp hw with z|z
    ·exact aV w z
    ·have:w=x:=by simpa using z
     rw[this];exact lC
   ·rcases List.mem_append.mp hw with z|z
    ·exact xf w z
    ·have:w=x:=by simpa using z
     rw[this];exact PK
   ·exact bC ⟨cG h1 DX (by intro z;cases z),d,cG h2 DX (by intro z;cases z),h1,h2⟩ (aw (fun t x ⟨n1,d,n2,z1,z2⟩=>⟨n1,d,n2,e6 _ _ z1,e6 _ _ z2⟩) hP)
  ·rintro H5 ys e5 kn ⟨ts,ds,ws,rfl,AK,aV,xf,hP⟩
   refine q L3 ws H5 ⟨ts,kn,aw (fun t x ⟨n1,d,n2,z1,z2⟩=>⟨d,z1,z2⟩) hP⟩ aV xf ?_ (e2.trans e5)
   rw[←Paired.length hP,AK];rfl
inductive HH(vs:List V)(H:Hp)(Q:VK)(E:XK):Prop
 |mk (l:Addr) (ws:List Fm) (dR:vs=[.ref l]) (dS:jH H l ws) (dW:(∀w∈ws,cV w)) (eZ:ws.length=3) (gz:∀(e:Addr) (xs:List Str) H',H' e=some (.lst (xs.map V.str))→(∀x∈xs,Told ws x)→(∀x,Told ws x→x∈xs)→1≤xs.length→xs.length≤30→au H H'→Q (.ref e) H')
def Ck:Sp:=HH
theorem la:ay ["_law_world_here","_law_found","_law_text_here","_law_counts","_law_charge","_law_kind_here"] ["_law_world_here"] (aj vX):=dA
theorem qd(kvs:List (Key×V))(k:Key)(v:V):k∈(putK kvs k v).map (·.1):=by
 unfold putK
 split
 ·rename_i h
  obtain⟨q,hq,e⟩:=List.any_eq_true.mp h
  have e:q.1=k:=by simpa using e
  exact List.mem_map.mpr ⟨(q.1,v),List.mem_map.mpr ⟨q,hq,by rw[if_pos e]⟩,e⟩
 ·rw[List.map_append]
  exact List.mem_append_right _ (by simp)
theorem il{kvs:List (Key×V)}{k j:Key}{v:V}(h:j∈kvs.map (·.1)):j∈(putK kvs k v).map (·.1):=by
 obtain⟨q,hq,rfl⟩:=List.mem_map.mp h
 unfold putK
 split
 ·refine List.mem_map.mpr ⟨if q.1=k then (q.1,v) else q,List.mem_map.mpr ⟨q,hq,rfl⟩,?_⟩
  split<;>rfl
 ·rw[List.map_append]
  exact List.mem_append_left _ (List.mem_map_of_mem hq)
def HI(ws:List Fm)(kvs:List (Key×V)):Prop:=(Sum.inr "e^-" :Key)∈kvs.map (·.1)∧∀w∈ws,(Sum.inr (⟨(fL w).toArray⟩:Str):Key)∈kvs.map (·.1)∧∀k∈(cW 1 w.1).map (·.1),k∈kvs.map (·.1)
theorem HI.put{ws:List Fm}{kvs:List (Key×V)}(h:HI ws kvs)(k:Key)(v:V):HI ws (putK kvs k v):=⟨il h.1,fun w hw=>⟨il (h.2 w hw).1,fun j hj=>il ((h.2 w hw).2 j hj)⟩⟩
def pf(ws:List Fm)(kvs:List (Key×V)):Prop:=∀q∈kvs,∃s,q.1=Sum.inr s∧Told ws s
theorem pf.put{ws:List Fm}{kvs:List (Key×V)}(h:pf ws kvs){s:Str}(hs:Told ws s)(v:V):pf ws (putK kvs (Sum.inr s) v):=fun q hq=>by
 rcases qa hq with hq|hq
 ·exact h q hq
 ·exact⟨s,by rw[hq],hs⟩
theorem Cm(kvs:List (Key×V))(k:Key)(v:V):kvs.length≤(putK kvs k v).length:=by
 unfold putK
 split
 ·rw[List.length_map];exact Nat.le_refl _
 ·rw[List.length_append];exact Nat.le_add_right _ _
theorem uY{ws:List Fm}:∀{kvs:List (Key×V)},pf ws kvs→∃xs:List Str,(kvs.map fun q=>kV q.1)=xs.map V.str∧(∀x∈xs,Told ws x)∧xs.length=kvs.length
 | [],_=>⟨[],rfl,(fun x hx=>by cases hx),rfl⟩
 |p::r,h=>by
  obtain⟨xs,e,h1,h2⟩:=uY (kvs:=r) fun q hq=>h q (List.mem_cons_of_mem _ hq)
  obtain⟨s,es,hs⟩:=h p (List.mem_cons_self ..)
  refine⟨s::xs,?_,fun x hx=>?_,by rw[List.length_cons,List.length_cons,h2]⟩
  ·rw[List.map_cons,List.map_cons,e,es]
   rfl
  ·rcases List.mem_cons.mp hx with z|z
   ·rw[z];exact hs
   ·exact h1 x z
theorem HJ(D:Def K mg "_law_texts" "_law_texts" vX ["_law_world_here"])(T:rT K mg C R G Pc Fo St uK uN uB uE uM uC uP uI uD uL uT):bj P w K mg base 1 "_law_texts" ["_law_world_here"] Ck:=by
 refine D.dh la (fun vs H Q E h=>?_) (fun f bp A outer s H vs Q E hr h=>?_)
 ·obtain⟨l,ws,rfl,_⟩:=h
  rfl
 ·obtain⟨l,ws,rfl,⟨ts,hl,hP⟩,aV,h3,q⟩:=h
  have hu:=dz hr
  have Tx:=hr.nR
  have big:(2000 :Nat)≤sizeLine:=by decide
  have gH:=Paired.length hP
  refine⟨_,(ai
     (aB (i:=1) la.nd rfl (Or.inl rfl) (vo (qv bH jT vn) rfl rfl (by intro z;cases z) (by decide)))
    (ai
     (bO PassesOwn.never rfl (bX (pv 0)) (fi rfl (aQ (aD (i:=2) la.nd rfl (Or.inl rfl)) (aQ (aD (i:=3) la.nd rfl (Or.inl rfl)) (aQ (aD (i:=4) la.nd rfl (Or.inl rfl)) cK))))
      (ai
       (cZ hu (pv 1) (pv 2) jT rfl)
      (ao
       (eF (bO PassesOwn.never rfl (dU (pv 3)) (aD (i:=5) la.nd rfl (Or.inl rfl))
        (ao
         (cZ hu (pv 1) (pv 5) jT rfl)))))))
    (ao
     (aE (bI (qN rfl) rfl T.n_list jk (af (pv 1) ak)))))),?_⟩
  refine fun d hd=>?_
  refine⟨aa,[(Sum.inr "e^-", .bl true)],rfl,(by show 1≤15;decide),?_⟩
  have Q7:(upd (upd H d (.dK [])) d (.dK (cq [] [(Sum.inr "e^-",V.bl true)]))) d=some (.dK [(Sum.inr "e^-", .bl true)]):=aa
  have s0:au H (upd (upd H d (.dK [])) d (.dK (cq [] [(Sum.inr "e^-",V.bl true)]))):=fun b o z=>by
   rw[ah (ag z hd),ah (ag z hd)]
   exact z
  generalize upd (upd H d (.dK [])) d (.dK (cq [] [(Sum.inr "e^-",V.bl true)]))=H0 at Q7 s0 ⊢
  refine⟨_,rfl,l,rfl,⟨_,bJ.of (s0 _ _ hl)⟩,c9 (K:=K) (a:=l) (xs:=ts.map V.ref) (fun i σ H'=>∃(kvs:List (Key×V)) (v2 v3 v4 v5:Option V),σ=[some (.ref l),some (.ref d),v2,v3,v4,v5]∧H' d=some (.dK kvs)∧pf ws kvs∧HI (ws.take i) kvs∧1≤kvs.length∧kvs.length≤1+8*i∧au H H') ?_ (fun i σ H' _ ⟨_,_,_,_,_,_,_,_,_,_,_,z⟩=>bJ.of (z _ _ hl)) ?_ ?_⟩
  ·refine⟨_,none,none,none,none,rfl,Q7,fun q hq=>?_,⟨by simp,fun w hw=>by cases hw⟩,Nat.le_refl _,Nat.le_refl _,s0⟩
   have e:q=((Sum.inr ("e^-" :Str),V.bl true):Key×V):=by simpa using hq
   exact⟨"e^-",by rw[e], .inl rfl⟩
  ·rintro i v σ H' hi ⟨kvs,v2,v3,v4,v5,rfl,eQ,hT,hS,Tz,Dy,e⟩
   rw[List.getElem?_map] at hi
   obtain⟨t,ht,rfl⟩:∃p,ts[i]? =some p∧v=V.ref p:=by
    cases hh:ts[i]? with
    |none=>rw[hh] at hi;cases hi
    |some p=>rw[hh] at hi;exact⟨p,rfl,(Option.some.inj hi).symm⟩
   obtain⟨x,hx,cd,h1,h2⟩:=bo hP ht
   have PL:=List.mem_of_getElem? hx
   have lC:=aV x PL
   have zt:i<3:=by have:=(List.getElem?_eq_some_iff.mp hx).1;omega
   have Rh:(cW 1 x.1).length≤7:=Az lC.2.2
   have ncd:cd≠d:=ag h2 hd
   refine⟨t,_,rfl,ir.of (e _ _ h1),rfl,_,_,rfl,_,_,rfl,_,_,rfl,rfl,?_⟩
   refine⟨_,rfl,_,rfl,d,_,rfl,jh.k (k:=Sum.inr ⟨(fL x).toArray⟩) eQ (by omega),?_⟩
   have hT1:=hT.put (.inr (.inl ⟨x,PL,rfl⟩)) (V.bl true)
   have zu:(putK kvs (Sum.inr (⟨(fL x).toArray⟩:Str)) (V.bl true)).length≤kvs.length+1:=cp _ _ _
   have Zl:kvs.length≤(putK kvs (Sum.inr (⟨(fL x).toArray⟩:Str)) (V.bl true)).length:=Cm _ _ _
   have hS1:=hS.put (Sum.inr (⟨(fL x).toArray⟩:Str)) (V.bl true)
   have T4:=qd kvs (Sum.inr (⟨(fL x).toArray⟩:Str)) (V.bl true)
   generalize putK kvs (Sum.inr (⟨(fL x).toArray⟩:Str)) (V.bl true)=T5 at hT1 zu Zl hS1 T4 ⊢
   have e1:au H (upd H' d (.dK T5)):=fun b o z=>by rw[ah (ag z hd)];exact e _ _ z
   have EN:(upd H' d (.dK T5)) d=some (.dK T5):=aa
   generalize upd H' d (.dK T5)=H1 at e1 EN ⊢
   dsimp only [cN]
   refine⟨_,rfl,cd,cW 1 x.1,rfl,e1 _ _ h2,fun o nf=>gg nf (fun j σ H3=>∃(w:Option V) (AQ:List (Key×V)),σ=[some (.ref l),some (.ref d),some (.str ⟨(fL x).toArray⟩),some (.ref cd),some (.int x.2),w]∧H3 d=some (.dK AQ)∧pf ws AQ∧HI (ws.take i) AQ∧(Sum.inr (⟨(fL x).toArray⟩:Str):Key)∈AQ.map (·.1)∧(∀k∈((cW 1 x.1).take j).map (·.1),k∈AQ.map (·.1))∧1≤AQ.length∧AQ.length≤2+8*i+j∧au H H3) ?_ (fun j σ H3 ⟨_,_,_,_,_,_,_,_,_,_,z⟩=>z _ _ h2) ?_ ?_⟩
   ·exact⟨v5,T5,rfl,EN,hT1,hS1,T4,(fun k hk=>by cases hk),by omega,by omega,e1⟩
   ·rintro j k v σ H3 hj ⟨w,AQ,rfl,MN,Rq,Zn,PM,Cn,Kt,hl3,e3⟩
    obtain⟨kk,Ze,ek⟩:=AL lC _ (List.mem_of_getElem? hj)
    have ek:k=Sum.inr (⟨kk.toArray⟩:Str):=ek
    subst ek
    have hjl:j< (cW 1 x.1).length:=(List.getElem?_eq_some_iff.mp hj).1
    have DV:(upd H3 cd (.d8 o (.dK (cW 1 x.1)))) d=some (.dK AQ):=by rw[ah (Ne.symm ncd)];exact MN
    refine⟨_,rfl,_,rfl,d,_,rfl,jh.k (k:=Sum.inr ⟨kk.toArray⟩) DV (by omega),?_⟩
    have Zo:=Rq.put (.inr (.inr ⟨x,PL,List.mem_map_of_mem (f:=(·.1)) (List.mem_of_getElem? hj)⟩)) (V.bl true)
    have MD:(putK AQ (Sum.inr (⟨kk.toArray⟩:Str)) (V.bl true)).length≤AQ.length+1:=cp _ _ _
    have Zp:AQ.length≤(putK AQ (Sum.inr (⟨kk.toArray⟩:Str)) (V.bl true)).length:=Cm _ _ _
    refine⟨by rw[ah ncd];exact aa,_,_,rfl,by rw[ah (Ne.symm ncd),aa],Zo,Zn.put _ _,il PM,fun k hk=>?_,by omega,by omega,fun b o' z=>?_⟩
    ·rw[take_snoc hj,List.map_append] at hk
     rcases List.mem_append.mp hk with hk|hk
     ·exact il (Cn k hk)
     ·have ek:k=Sum.inr (⟨kk.toArray⟩:Str):=by simpa using hk
      rw[ek]
      exact qd _ _ _
    by_cases bc:b=cd
    ·subst bc
     rw[aa]
     rw[h2] at z
     exact z
    ·rw[ah bc,ah (ag z hd),ah bc]
     exact e3 _ _ z
   ·rintro σ H3 ⟨w,AQ,rfl,MN,Rq,Zn,PM,Cn,Kt,hl3,e3⟩
    rw[List.take_length] at Cn
    refine⟨AQ,_,_,_,_,rfl,MN,Rq,⟨Zn.1,fun w hw=>?_⟩,Kt,by omega,e3⟩
    rw[take_snoc hx] at hw
    rcases List.mem_append.mp hw with hw|hw
    ·exact Zn.2 w hw
    ·have ew:w=x:=by simpa using hw
     rw[ew]
     exact⟨PM,Cn⟩
  ·rintro σ H' ⟨kvs,v2,v3,v4,v5,rfl,eQ,hT,hS,Tz,Dy,e⟩
   rw[List.length_map,gH,List.take_length] at hS
   rw[List.length_map,gH,h3] at Dy
   refine⟨_,rfl,d,kvs,rfl, .inl eQ,fun l2 qx=>?_⟩
   have ex:∃xs:List Str,(kvs.map fun q=>kV q.1)=xs.map V.str∧(∀x∈xs,Told ws x)∧xs.length=kvs.length:=uY hT
   obtain⟨xs,ex,hxs,sP⟩:=ex
   refine q l2 xs _ (by rw[aa,ex]) hxs (fun s hs=>?_) (by omega) (by omega) (e.trans (au.new qx))
   have hk:(Sum.inr s:Key)∈kvs.map (·.1):=by
    rcases hs with rfl| ⟨w,hw,rfl⟩ | ⟨w,hw,hs⟩
    ·exact hS.1
    ·exact(hS.2 w hw).1
    ·exact(hS.2 w hw).2 _ hs
   obtain⟨q',tj,e'⟩:=List.mem_map.mp hk
   have hm:V.str s∈xs.map V.str:=by
    rw[←ex]
    exact List.mem_map.mpr ⟨q',tj,by rw[e'];rfl⟩
   obtain⟨s',Fy,e''⟩:=List.mem_map.mp hm
   injection e'' with e''
   rw[←e'']
   exact Fy
variable {uC uP uI uD uL uT:Tok}{St:Addr}
inductive LA(vs:List V)(H:Hp)(Q:VK)(E:XK):Prop
 |mk (e d:Addr) (kvs:List (Key×V)) (dR:vs=[.ref e, .ref d]) (dS:H e=some (.dK (ky kvs))) (dW:H d=some (.dK kvs)) (eZ:e≠d) (gz:bu kvs) (jb:(kvs.map (·.1)).Nodup) (nM:kvs.length≤900) (sy:∀H',au H H'→Q (.bl true) H')
def HK:Sp:=LA
theorem rZ:ay ["_law_found","_law_due","_law_text_here"] ["_law_found","_law_due"] (aj i7):=dA
theorem PN{kvs:List (Key×V)}(hn:(kvs.map (·.1)).Nodup):((ky kvs).map (·.1)).Nodup:=(List.filter_sublist.map _).nodup hn
theorem LB(D:Def K mg "_law_amounts" "_law_amounts" i7 ["_law_found","_law_due"])(T:rT K mg C R G Pc Fo St uK uN uB uE uM uC uP uI uD uL uT)(c1:bj P w K mg base 1 "_law_whole" ["_law_found"] Bw):bj P w K mg base 2 "_law_amounts" ["_law_found","_law_due"] HK:=by
 obtain⟨_,_,lb⟩:=c1
 refine D.dh rZ (fun vs H Q E h=>?_) (fun f bp A outer s H vs Q E hr h=>?_)
 ·obtain⟨e,d,kvs,rfl,_⟩:=h
  rfl
 ·obtain⟨e,d,kvs,rfl,he,hd,Hi,hI,hn,hl,q⟩:=h
  have hu:=dz hr
  have Tx:=hr.nR
  have big:(2000 :Nat)≤sizeLine:=by decide
  refine⟨_,(ai
     (bN (jU (fK (bS j2 rfl T.jq iO (af (pv 0) (af (vi (v:= .ty "dict") rfl T.ko jl rfl) ak)))))
      (ao
       (aE jT))
      aY)
    (ai
     (eF (bO PassesOwn.never rfl (dU (pv 0)) (aD (i:=2) rZ.nd rfl (Or.inl rfl))
      (ao
       (bN (PW.pt (xO (jU (fK (aJ lb.ok (hr.mono (by decide)) rfl lb.g lb.kp lb.b .nil az (af (cY hu (pv 0) (pv 2) (fun _ _=>rfl)) ak)))) (xO (aO ql (cY hu (pv 0) (pv 2) (fun _ _=>rfl)) (bZ hu (pv 1) (pv 2) aq ⟨rfl,rfl,rfl,rfl⟩) (aX _)) (vk (aO me (cY hu (pv 0) (pv 2) (fun _ _=>rfl)) aq (aX _))))))
        (ao
         (aE jT))
        aY))))
    (ao
     (aE (mf d9 (bS zS rfl T.kb g7 (af (pv 0) ak)) (bS dk rfl T.kb g7 (af (pK (fy (sc:=(aj i7)) (NX:=["_law_found","_law_due","_law_text_here"]) (N:=["_law_text_here","_law_due"]) (fr:=[none,some 1]) ⟨by rfl,by rfl,by decide+kernel,by decide+kernel,by decide+kernel,by rfl,by decide+kernel⟩ rfl rfl rfl (dU (pv 1)) (fun _ _ _ _=>(aD (i:=0) (show (["_law_text_here","_law_due"]:List Str).Nodup by decide+kernel) rfl (Or.inl rfl) (Or.inr rfl))) (fun _ _ _ _=>(mn (aO jY (cY hu (pv 1) (pv 0) (fun _ _=>rfl)) aq (aX _)))) (fun _ _ _ _=>(pv 0)))) ak)) (aX _)))))),?_⟩
  refine⟨_,rfl,_,_,_,_,_,rfl,rfl, .dK he,T.k3,_,rfl,fI ?_⟩
  have hIp:bu (ky kvs):=fun p hp=>hI p ((List.mem_filter.mp hp).1)
  refine⟨_,rfl,e,ky kvs,rfl,he,fun o nf=>gg nf (fun i σ H'=>∃v:Option V,σ=[some (.ref e),some (.ref d),v]∧H'=H) ⟨none,rfl,rfl⟩ (fun i σ H' ⟨_,_,z⟩=>by rw[z];exact he) ?_ ?_⟩
  ·rintro i k v σ H' hi ⟨v2,rfl,rfl⟩
   have hm:=List.mem_of_getElem? hi
   obtain⟨z,ez⟩:=hIp _ hm
   have ez:v=V.int z:=ez
   subst ez
   have hz0:0<z:=by
    have:=(List.mem_filter.mp hm).2
    exact of_decide_eq_true this
   have hzk:aM kvs k=z:=B6 hn ((List.mem_filter.mp hm).1)
   have hv:bW (ky kvs) k=some (V.int z):=fw (PN hn) hm
   have eQ:(upd H' e (.d8 o (.dK (ky kvs)))) d=some (.dK kvs):=by rw[ah (Ne.symm Hi)];exact hd
   have hg:=hI.at k
   rw[hzk] at hg
   refine⟨_,rfl,_,rfl,e,V.int z,rfl, .inl ⟨_,k, .inr ⟨o,aa⟩,rfl,hv.symm⟩,z,rfl,_,rfl,fI ?_⟩
   refine⟨_,rfl,_,rfl,e,V.int z,rfl, .inl ⟨_,k, .inr ⟨o,aa⟩,rfl,hv.symm⟩,_,rfl,d,rfl, .inl ⟨_, .inl eQ⟩,_,rfl,_,gI.k (k:=k) eQ,?_⟩
   rw[hg]
   refine⟨rfl,_,rfl,Fs rfl ⟨_,rfl,_,rfl,e,V.int z,rfl, .inl ⟨_,k, .inr ⟨o,aa⟩,rfl,hv.symm⟩,_,_,rfl,rfl,_,rfl,fu (fun ec=>?_) fun _=>?_⟩⟩
   ·have ec:z<1:=by simpa using ec
    omega
   ·exact⟨aa,some (kV k),rfl,by rw[jc,eB he]⟩
  ·rintro σ H' ⟨v,rfl,rfl⟩
   refine⟨_,rfl,e,ky kvs,rfl, .inl he,_,rfl,d,kvs,rfl,hd,fun o nf L hL=>?_⟩
   have Rj:L≠d:=fun z=>by rw[z,aa] at hL;cases hL
   have xB:H' L=none:=by rwa [ah Rj] at hL
   refine kL (a:=d) (D:=L) (kvs:=kvs) (fun i σ H2=>∃(v:Option V) (ys:List V),σ=[v,some (.ref d)]∧H2 d=some (.d8 o (.dK kvs))∧H2 L=some (.lst ys)∧ys.length=(ky (kvs.take i)).length∧∀b o',H' b=some o'→b≠d→H2 b=some o') ?_ (fun i σ H2 ⟨_,_,_,z,_⟩=>z) ?_ ?_
   ·exact⟨none,[],rfl,by rw[ah (Ne.symm Rj),aa],aa,rfl,fun b o' z hb=>by rw[ah (ag z xB),ah hb];exact z⟩
   ·rintro i k v σ H2 hi ⟨v',ys,rfl,f1,f2,f4,f5⟩ N hN
    have hm:=List.mem_of_getElem? hi
    obtain⟨z,ez⟩:=hI _ hm
    have ez:v=V.int z:=ez
    subst ez
    have hv:bW kvs k=some (V.int z):=fw hn hm
    have zt:=(List.getElem?_eq_some_iff.mp hi).1
    have hyl:=B9 (kvs.take i)
    rw[List.length_take] at hyl
    refine⟨_,rfl,_,rfl,d,V.int z,rfl, .inl ⟨_,k, .inr ⟨o,f1⟩,rfl,hv.symm⟩,_,_,rfl,rfl,_,rfl,fu (fun ec=>?_) fun ec=>?_⟩
    ·have ec:0<z:=by simpa using ec
     refine⟨_,rfl,_,f2,by omega,hN _ _ ⟨_,ys++[kV k],rfl,by rw[ah (Ne.symm Rj)];exact f1,aa,?_,fun b o' z' hb=>by rw[ah (ag z' xB)];exact f5 b o' z' hb⟩⟩
     unfold ky at f4 ⊢
     rw[List.length_append,f4,take_snoc hi,List.filter_append,show [(k,V.int z)].filter (fun q=>decide (0<zv q.2))=[(k,V.int z)] by simp [zv,ec],List.length_append]
     rfl
    ·have ec:¬0<z:=by simpa using ec
     refine hN _ _ ⟨_,ys,rfl,f1,f2,?_,f5⟩
     unfold ky at f4 ⊢
     rw[f4,take_snoc hi,List.filter_append,show [(k,V.int z)].filter (fun q=>decide (0<zv q.2))=[] by simp [zv,ec],List.append_nil]
   ·rintro σ H2 ⟨v',ys,rfl,f1,f2,f4,f5⟩
    rw[List.take_length] at f4
    refine⟨d,o,kvs,f1,nf,L,ys,rfl, .inl (bJ.of (by rw[ah Rj];exact f2)),rfl,?_⟩
    rw[f4,decide_eq_true rfl]
    refine q _ fun b o' z'=>?_
    by_cases bd:b=d
    ·subst bd
     rw[aa]
     rw[hd] at z'
     exact z'
    ·rw[ah bd]
     exact f5 _ _ z' bd
variable {uC uP uI uD uL uT fb fe fg uG uS:Tok}{Ch HE Sh St:Addr}
inductive HL(St:Addr)(vs:List V)(H:Hp)(Q:VK)(E:XK):Prop
 |mk (st d g:Addr) (ts:List Addr) (rs:List bU) (dR:vs=[.ref st]) (dS:nj St H st d g) (dW:H g=some (.lst (ts.map V.ref))) (eZ:Paired (df H) ts rs) (gz:rs.length≤100) (jb:∀L us H',H L=none→H' L=some (.lst (us.map V.ref))→Paired (df H') us rs→au H H'→Q (.ref L) H')
def Co(St:Addr):Sp:=HL St
def PvW(L:Addr)(rs:List bU):Nat→List V→Hp→Prop:=fun i ys H'=>∃us:List Addr,ys=us.map V.ref∧us.length=i∧(∀u∈us,u≠L)∧Paired (df H') us (rs.take i)
theorem HM(D:bg K St "went" "Store.went" yi ["self"])(T:rT K mg C R G Pc Fo St uK uN uB uE uM uC uP uI uD uL uT):aK P w K mg base 1 St "went" ["self"] (Co St):=by
 refine D.dh Pj (fun vs H Q E h=>?_) (fun f bp A outer s H vs Q E hr h=>?_)
 ·obtain⟨st,d,g,ts,rs,rfl,_⟩:=h
  rfl
 ·obtain⟨st,d,g,ts,rs,rfl,⟨dx,iV⟩,hg,hP,hl,q⟩:=h
  have big:(2000 :Nat)≤sizeLine:=by decide
  have gH:=Paired.length hP
  refine⟨_,(ao
     (aE (fy (sc:=(aj yi)) (NX:=["self"]) (N:=["text","times"]) (fr:=[none,none]) ⟨by rfl,by rfl,by decide+kernel,by decide+kernel,by decide+kernel,by rfl,by decide+kernel⟩ rfl rfl rfl (bX (a5 (pv 0) rfl)) (fun _ _ _ _=>(mw K 2 rfl rfl (aQ (aD (i:=0) (show (["text","times"]:List Str).Nodup by decide+kernel) rfl (Or.inl rfl) (Or.inr rfl)) (aQ (aD (i:=1) (show (["text","times"]:List Str).Nodup by decide+kernel) rfl (Or.inl rfl) (Or.inr rfl)) cK)))) (fun _ _ _ _=>fx) (fun _ _ _ _=>(bQ (af (pv 0) (af (pv 1) ak))))))),?_⟩
  refine⟨_,rfl,st,St,dx,_,_,rfl,iV,T.cj,T.p9,yW _ _,g,rfl,⟨_,bJ.of hg⟩,fun L hL=>?_⟩
  refine i0 (K:=K) (a:=g) (L:=L) (xs:=ts.map V.ref) H (fun σ=>∃v u:Option V,σ=[v,u]) (PvW L rs) (bJ.of hg) ?_ hL ⟨none,none,rfl⟩ (au.new hL) aa ⟨[],rfl,rfl,(fun u hu=>by cases hu), .nil⟩ (by rw[List.length_map];omega) ?_ ?_ ?_
  ·rintro i ys Ha Hb hb ⟨us,h1,h2,h3,h4⟩
   exact⟨us,h1,h2,h3,jB (fun u r hu z=>hb _ _ z (h3 u hu)) h4⟩
  ·rintro i ys H' ⟨us,rfl,h2,_⟩
   rw[List.length_map,h2];exact Nat.le_refl _
  ·rintro j w σ' H5 vs hj ⟨w1,w2,rfl⟩ e5 kn ⟨us,rfl,EY,T6,uU⟩ N M hN
   rw[List.getElem?_map] at hj
   obtain⟨t,ht,rfl⟩:∃m,ts[j]? =some m∧w=V.ref m:=by
    cases hh:ts[j]? with
    |none=>rw[hh] at hj;cases hj
    |some m=>rw[hh] at hj;exact⟨m,rfl,(Option.some.inj hj).symm⟩
   obtain⟨r,oM,xD⟩:=bo hP ht
   have xD:H t=some (.tup [.str r.x, .int r.m]):=xD
   refine⟨t,_,rfl,ir.of (e5 _ _ xD),rfl,_,_,rfl,_,_,rfl,rfl,?_⟩
   refine⟨_,rfl,_,rfl,(by show 2≤sizeLine;decide),fun u hu=>?_⟩
   have s6:=au.new (o:= .tup [.str r.x, .int r.m]) hu
   refine hN _ _ _ ⟨_,_,rfl⟩ (e5.trans s6) (s6 _ _ kn) ⟨us++[u],by rw[List.map_append];rfl,by rw[List.length_append,EY];rfl,fun a ha=>?_,?_⟩
   ·rcases List.mem_append.mp ha with z|z
    ·exact T6 a z
    ·have ea:a=u:=by simpa using z
     rw[ea]
     exact fun z=>by rw[z,kn] at hu;cases hu
   ·rw[take_snoc oM]
    have HN:df (upd H5 u (.tup [.str r.x, .int r.m])) u r:=aa
    exact bC HN (aw (fun a b (z:df H5 a b)=>(s6 _ _ z:df _ a b)) uU)
  ·rintro H5 ys e5 kn ⟨us,rfl,EY,T6,uU⟩
   rw[List.length_map,gH,List.take_length] at uU
   exact q L us H5 hL kn uU e5
def ph(rs:List bU):PyData:= .list (rs.map fun r=> .tuple [.str r.x, .int r.m])
theorem xg{H:Hp}:∀{ts:List Addr} {rs:List bU},Paired (df H) ts rs→zW K H (ts.map V.ref) (rs.map fun r=>PyData.tuple [.str r.x, .int r.m])
 |_,_, .nil=> .nil
 |_,_, .cons h t=> .cons (.tup (ir.of h) (.cons (.str _) (.cons (.int _) .nil))) (xg t)
variable {uC uP uI uD uL uT fb fe fg uG uS:Tok}{Ch HE Sh St:Addr}
theorem tm_at(y:Tm):zO [V.str ((toString y.1 :Str)++" " ++⟨(fL y.2).toArray⟩),V.str ⟨(fL y.2).toArray⟩] (if decide (V.int y.1=V.int 1)=true then 1 else 0)=some (V.str (rH y)):=by
 unfold rH
 by_cases h:y.1=1
 ·rw[if_pos (decide_eq_true (by rw[h])),if_pos h]
  rfl
 ·rw[if_neg (by simpa using h),if_neg h]
  rfl
inductive HP(vs:List V)(H:Hp)(Q:VK)(E:XK):Prop
 |mk (l r:Addr) (xs ys:List Tm) (dR:vs=[.ref l, .ref r]) (dS:bT H l xs) (dW:bT H r ys) (eZ:(∀x∈xs,oE (10^40) x)) (gz:(∀y∈ys,oE (10^40) y)) (jb:xs.length≤10) (nM:ys.length≤10) (sy:∀H',au H H'→Q (.str (Txt.join " -> " [o9 xs,o9 ys])) H')
def Cp:Sp:=HP
theorem oP:ay ["_law_lefts","_law_rights","_law_sides","_law_side","_law_texts_here","_law_count_here","_law_formula"] ["_law_lefts","_law_rights"] (aj Bt):=dA
theorem HQ(D:Def K mg "_law_text" "_law_text" Bt ["_law_lefts","_law_rights"])(T:pD K mg C):bj P w K mg base 1 "_law_text" ["_law_lefts","_law_rights"] Cp:=by
 refine D.dh oP (fun vs H Q E h=>?_) (fun f bp A outer s H vs Q E hr h=>?_)
 ·obtain⟨l,r,xs,ys,rfl,_⟩:=h
  rfl
 ·obtain⟨l,r,xs,ys,rfl,hxs,Dl,lC,wV,lx,ly,q⟩:=h
  have big:(2000 :Nat)≤sizeLine:=by decide
  have hS:Paired (fun a s=>bT H a s∧(∀x∈s,oE (10^40) x)∧s.length≤10) [l,r] [xs,ys]:= .cons ⟨hxs,lC,lx⟩ (.cons ⟨Dl,wV,ly⟩ .nil)
  refine⟨_,(ai
     (aB (i:=2) oP.nd rfl (Or.inl rfl) (cA ak))
    (ai
     (bO PassesOwn.never rfl (bX (cA (af (pv 0) (af (pv 1) ak)))) (aD (i:=3) oP.nd rfl (Or.inl rfl))
      (ai
       (aB (i:=4) oP.nd rfl (Or.inl rfl) (cA ak))
      (ai
       (bO PassesOwn.never rfl (bX (pv 3)) (fi rfl (aQ (aD (i:=5) oP.nd rfl (Or.inl rfl)) (aQ (aD (i:=6) oP.nd rfl (Or.inl rfl)) cK)))
        (ao
         (bb (gD PySem.F.plainAttrs_list PySem.F.slot_list_append PySem.F.type_list_append dE (pv 4) (af (cf cQ (cA (af (aA bz (aA bz (bI jf rfl T.Gd zV (af (pv 5) ak)) bH) (cf gu (pv 6) aq (fun _ _=>rfl))) (af (cf gu (pv 6) aq (fun _ _=>rfl)) ak))) (bI nP rfl T.yk qC (af (mf d9 (pv 5) aq (aX _)) ak)) (fun _ _=>rfl)) ak)))))
      (ao
       (bb (gD PySem.F.plainAttrs_list PySem.F.slot_list_append PySem.F.type_list_append dE (pv 2) (af (gD PySem.F.plainAttrs_str PySem.F.slot_str_join PySem.F.type_str_join pL bH (af (pv 4) ak)) ak)))))))
    (ao
     (aE (gD PySem.F.plainAttrs_str PySem.F.slot_str_join PySem.F.type_str_join pL bH (af (pv 2) ak)))))),?_⟩
  refine⟨(by show 0≤sizeLine;decide),fun D1 hD1=>?_⟩
  have sD:=au.new (o:= .lst []) hD1
  refine⟨_,rfl,_,rfl,(by show 2≤sizeLine;decide),fun Z hZ=>?_⟩
  have sZ:=au.new (o:= .lst [.ref l, .ref r]) hZ
  have Jz:(upd (upd H D1 (.lst [])) Z (.lst [.ref l, .ref r])) D1=some (.lst []):=sZ _ _ aa
  have hZ2:(upd (upd H D1 (.lst [])) Z (.lst [.ref l, .ref r])) Z=some (.lst [.ref l, .ref r]):=aa
  have s2:=sD.trans sZ
  have nZD:Z≠D1:=fun z=>by rw[z,aa] at hZ;cases hZ
  have hZH:H Z=none:=none_back sD hZ
  generalize upd (upd H D1 (.lst [])) Z (.lst [.ref l, .ref r])=H2 at Jz hZ2 s2 ⊢
  refine⟨Z,rfl,⟨_,bJ.of hZ2⟩,c9 (K:=K) (a:=Z) (xs:=[l,r].map V.ref) (fun i σ H'=>∃v3 v4 v5 v6:Option V,σ=[some (.ref l),some (.ref r),some (.ref D1),v3,v4,v5,v6]∧H' D1=some (.lst ((([xs,ys]:List (List Tm)).take i).map fun s=>V.str (o9 s)))∧H' Z=some (.lst [.ref l, .ref r])∧au H H') ?_ (fun i σ H' _ ⟨_,_,_,_,_,_,z,_⟩=>bJ.of z) ?_ ?_⟩
  ·exact⟨none,none,none,none,rfl,Jz,hZ2,s2⟩
  ·rintro i v σ H' hi ⟨v3,v4,v5,v6,rfl,BL,hZ',e⟩
   rw[List.getElem?_map] at hi
   obtain⟨a,ha,rfl⟩:∃p,[l,r][i]? =some p∧v=V.ref p:=by
    cases hh:[l,r][i]? with
    |none=>rw[hh] at hi;cases hi
    |some p=>rw[hh] at hi;exact⟨p,rfl,(Option.some.inj hi).symm⟩
   obtain⟨sd,Rr,⟨ts,hl,hP⟩,aV,h10⟩:=bo hS ha
   have gH:=Paired.length hP
   have zt:i<2:=(List.getElem?_eq_some_iff.mp Rr).1
   refine⟨(by show 0≤sizeLine;decide),fun D2 LC=>?_⟩
   have sE:=au.new (o:= .lst []) LC
   have nD12:D1≠D2:=ag BL LC
   have nZ2:Z≠D2:=ag hZ' LC
   have hD2H:H D2=none:=none_back e LC
   dsimp only [cN]
   refine⟨_,rfl,a,rfl,⟨_,bJ.of (sE _ _ (e _ _ hl))⟩,c9 (K:=K) (a:=a) (xs:=ts.map V.ref) (fun j σ H3=>∃w5 w6:Option V,σ=[some (.ref l),some (.ref r),some (.ref D1),some (.ref a),some (.ref D2),w5,w6]∧H3 D2=some (.lst ((sd.take j).map fun x=>V.str (rH x)))∧H3 D1=some (.lst ((([xs,ys]:List (List Tm)).take i).map fun s=>V.str (o9 s)))∧H3 Z=some (.lst [.ref l, .ref r])∧au H H3) ?_ (fun j σ H3 _ ⟨_,_,_,_,_,_,z⟩=>bJ.of (z _ _ hl)) ?_ ?_⟩
   ·exact⟨v5,v6,rfl,aa,sE _ _ BL,sE _ _ hZ',e.trans sE⟩
   ·rintro j x σ H3 hj ⟨w5,w6,rfl,h2,h1,hz,e3⟩
    obtain⟨t,y,rfl,hy,fm,ht,d,hf,hd⟩:=yy (H:=H) hP hj
    have lC:=aV y (List.mem_of_getElem? hy)
    have ez:=lC.2.2.2.1
    have hjl:j<sd.length:=(List.getElem?_eq_some_iff.mp hy).1
    have hzl:((sd.take j).map fun x=>V.str (rH x)).length<sizeLine:=by rw[List.length_map,List.length_take];omega
    have l1:(" " :Str).length=1:=by decide+kernel
    have zi:=BO (n:=y.1) (by have:=lC.1;omega) (by have:=lC.2.1;omega)
    refine⟨t,_,rfl,ir.of (e3 _ _ ht),rfl,_,_,rfl,_,_,rfl,rfl,?_⟩
    refine⟨_,rfl, .inl ⟨rfl,_,bJ.of h2⟩,_,rfl,y.1,rfl,K5 (by have:=lC.1;omega) (by have:=lC.2.1;omega),_,_,rfl,rfl,?_,_,rfl,fm,_,_,V.str ⟨(fL y.2).toArray⟩,rfl,rfl,ir.of (e3 _ _ hf),rfl,_,_,rfl,rfl,?_,_,rfl,fm,_,_,V.str ⟨(fL y.2).toArray⟩,rfl,rfl,ir.of (e3 _ _ hf),rfl,(by show 2≤sizeLine;decide),fun Y hY=>⟨_,rfl,rfl, .inr ⟨_,rfl,Y,_,_,V.str (rH y),rfl,rfl,bJ.of aa,tm_at y,?_⟩⟩⟩
    ·rw[l1]
     exact Nat.le_trans (Nat.add_le_add_right zi 1) (by decide)
    ·rw[bA,l1,bq]
     exact Nat.le_trans (Nat.add_le_add (Nat.add_le_add_right zi 1) ez) (by decide)
    have sY:=au.new (o:= .lst [V.str ((toString y.1 :Str)++" " ++⟨(fL y.2).toArray⟩),V.str ⟨(fL y.2).toArray⟩]) hY
    refine⟨D2,_,_,rfl,rfl,sY _ _ h2,hzl,_,_,rfl,?_,?_,?_,fun b o z=>?_⟩
    ·rw[aa,take_snoc hy,List.map_append]
     rfl
    ·rw[ah nD12]
     exact sY _ _ h1
    ·rw[ah nZ2]
     exact sY _ _ hz
    ·rw[ah (ag z hD2H)]
     exact sY _ _ (e3 _ _ z)
   ·rintro σ H3 ⟨w5,w6,rfl,h2,h1,hz,e3⟩
    rw[List.length_map,gH,List.take_length] at h2
    have l3:(" + " :Str).length=3:=by decide+kernel
    have z:=Bv (ys:=sd.map rH) (b:=100) fun y hy=>by
     obtain⟨x,hx,rfl⟩:=List.mem_map.mp hy
     exact BP (Int.le_refl _) (aV x hx)
    refine⟨_,rfl, .inl ⟨rfl,_,bJ.of h1⟩,rfl,_,rfl," + ",D2,sd.map rH,rfl,rfl,bJ.of (by rw[h2,List.map_map];rfl),?_,?_⟩
    ·rw[List.length_map] at z ⊢
     rw[l3]
     omega
    refine⟨D1,_,_,rfl,rfl,h1,by rw[List.length_map,List.length_take];show min i 2<sizeLine;omega,_,_,_,_,rfl,?_,?_,fun b o z=>?_⟩
    ·rw[aa,take_snoc Rr,List.map_append]
     rfl
    ·rw[ah nZD]
     exact hz
    ·rw[ah (ag z hD1)]
     exact e3 _ _ z
  ·rintro σ H' ⟨v3,v4,v5,v6,rfl,BL,hZ',e⟩
   have hx:=uz lC lx
   have hy:=uz wV ly
   have l4:(" -> " :Str).length=4:=by decide+kernel
   refine⟨rfl,_,rfl," -> ",D1,[o9 xs,o9 ys],rfl,rfl,bJ.of BL,?_,q _ e⟩
   show (o9 xs).length+((o9 ys).length+0)+2*(" -> " :Str).length≤16777216
   rw[l4]
   omega
def lH(am:List (Key×V))(xs ys:List Tm):Nat→List (Key×V)
 |0=>am
 |t+1=>fW 1 (fW (-1) (lH am xs ys t) (aI xs) (aI xs)) (aI ys) (aI ys)
theorem y'{am:List (Key×V)}(xs ys:List Tm)(h:bu am):∀t,bu (lH am xs ys t)
 |0=>h
 |t+1=>cR _ _ _ _ (cR _ _ _ _ (y' xs ys h t))
theorem oQ{th tk:List (Key×V)}:∀{l:List (Key×V)},gF th tk l=none→∀q∈l,aM tk q.1≤aM th q.1
 | [],_,q,hq=>by cases hq
 |p::r,h,q,hq=>by
  rw[ik] at h
  split at h
  ·cases h
  ·rcases List.mem_cons.mp hq with rfl|hq
   ·omega
   ·exact oQ h q hq
theorem bu.Cq{kvs:List (Key×V)}(h:bu kvs){k:Key}(hm:k∈kvs.map (·.1)):bW kvs k=some (.int (aM kvs k)):=by
 obtain⟨⟨k',v⟩,hp,e⟩:=List.mem_map.mp hm
 have e:k'=k:=e
 subst e
 exact h.f6 hp
theorem Cr(x:Tm):rH x=⟨(gR x).toArray⟩:=by
 unfold rH gR x4
 by_cases h:x.1=1
 ·rw[if_pos h,if_pos h,h,wj]
  rfl
 ·have e:(toString x.1 :Str)=⟨(aP x.1).toArray⟩:=by
   rw[←de]
   unfold eY
   rw[if_neg h]
  rw[if_neg h,if_neg h,e,e32,show (⟨#[32]⟩:Str)=⟨[32].toArray⟩ from rfl,bF,bF,List.append_assoc]
theorem Cs:∀xs:List Tm,Str.join " + " (xs.map rH)=⟨(sC xs).toArray⟩
 | []=>rfl
 | [x]=>by
   show rH x=_
   rw[Cr]
   show _=(⟨(gR x++[]).toArray⟩:Str)
   rw[List.append_nil]
 |x::y::r=>by
  have ih:=Cs (y::r)
  show rH x++" + " ++Str.join " + " ((y::r).map rH)=_
  have ej:(" + " :Str)=⟨[32,43,32].toArray⟩:=by decide+kernel
  rw[ih,Cr,ej,bF,bF]
  congr 2
  show gR x++[32,43,32]++(gR y++ic r)=gR x++(([32,43,32]++gR y)++ic r)
  simp only [List.append_assoc]
theorem ze(xs:List Tm):o9 xs=⟨(sC xs).toArray⟩:=by
 unfold o9
 have e:=PyProof.Rows.join_closes (sep:=" + ") (sep':=" + ") (ys:=xs.map rH) rfl
 rw[show Txt.join " + " (xs.map rH)=Str.join " + " (xs.map rH) by simpa using e]
 exact Cs xs
theorem zf(xs ys:List Tm):Y' xs ys=⟨(sC xs++p6++sC ys).toArray⟩:=by
 unfold Y'
 have ea:(" -> " :Str)=⟨p6.toArray⟩:=by decide+kernel
 rw[ze,ze,ea,bF,bF]
theorem Ct{x:Tm}(h:fJ x):(gR x).length≤46:=by
 obtain⟨h1,h2,_,h3,_⟩:=h
 have:=MM h1 h2
 have:(x4 x.1).length≤1:=by
  unfold x4
  split
  ·exact Nat.zero_le _
  ·exact Nat.le_refl _
 unfold gR
 rw[List.length_append,List.length_append]
 omega
theorem LD{xs:List Tm}(h:∀x∈xs,fJ x):(ic xs).length≤49*xs.length:=by
 induction xs with
 |nil=>exact Nat.zero_le _
 |cons x r ih=>
  have h1:=Ct (h x (List.mem_cons_self ..))
  have h2:=ih fun y hy=>h y (List.mem_cons_of_mem _ hy)
  have h3:=wR x
  show (G4 x++ic r).length≤_
  rw[List.length_append,List.length_cons]
  omega
theorem Cu{xs:List Tm}(h:∀x∈xs,fJ x)(hn:xs≠[]):(sC xs).length+3≤49*xs.length:=by
 cases xs with
 |nil=>exact absurd rfl hn
 |cons x r=>
  have h1:=Ct (h x (List.mem_cons_self ..))
  have h2:=LD fun y hy=>h y (List.mem_cons_of_mem _ hy)
  show (gR x++ic r).length+3≤_
  rw[List.length_append,List.length_cons]
  omega
theorem LF{xs ys:List Tm}(hx:∀x∈xs,fJ x)(hy:∀x∈ys,fJ x)(nx:xs≠[])(ny:ys≠[])(h:xs.length+ys.length≤8):(Y' xs ys).length≤400:=by
 have h1:=Cu hx nx
 have h2:=Cu hy ny
 have h3:p6.length=4:=rfl
 rw[zf,bq,List.length_append,List.length_append]
 omega
theorem HR(a b:Str):Txt.join " -> " [a,b]=a++" -> " ++b:=by
 have e:=PyProof.Rows.join_closes (sep:=" -> ") (sep':=" -> ") (ys:=[a,b]) rfl
 rw[show Txt.join " -> " [a,b]=Str.join " -> " [a,b] by simpa using e]
 rfl
theorem zg:∀(d:Nat) (m:Int) (t:Tr),uc d t→1≤m→∀p∈br d m t,1≤p.2
 |d,m, .one k n,h,hm,p,hp=>by
  have e:br d m (.one k n)=[(⟨k.toArray⟩,n*m)]:=by cases d<;>rfl
  rw[e] at hp
  have h:lT k∧1≤n∧n≤999:=by cases d<;>exact h
  have ep:p=(⟨k.toArray⟩,n*m):=by simpa using hp
  rw[ep]
  have:=Int.mul_le_mul h.2.1 hm (by decide) (by omega)
  simpa using this
 |0,_, .gr _ _,h,_,_,_=>h.elim
 |d+1,m, .gr ts n,h,hm,p,hp=>by
  obtain⟨t,ht,hp⟩:=List.mem_flatMap.mp hp
  obtain⟨_,h1,n1,n2⟩:=h
  have:=Int.mul_le_mul n1 hm (by decide) (by omega)
  exact zg d (n*m) t (h1 t ht) (by simpa using this) p hp
theorem Cv:∀(d:Nat) (m:Int) (t:Tr),uc d t→br d m t≠[]
 |d,m, .one k n,h=>by
  have e:br d m (.one k n)=[(⟨k.toArray⟩,n*m)]:=by cases d<;>rfl
  rw[e]
  simp
 |0,_, .gr _ _,h=>h.elim
 |d+1,m, .gr ts n,h=>by
  obtain⟨h0,h1,_⟩:=h
  intro z
  cases ts with
  |nil=>exact h0 rfl
  |cons t r=>
   have z:br d (n*m) t++r.flatMap (br d (n*m))=[]:=z
   exact Cv d (n*m) t (h1 t (List.mem_cons_self ..)) (List.append_eq_nil_iff.mp z).1
def Pos(kvs:List (Key×V)):Prop:=∀q∈kvs,∃i,q.2=V.int i∧1≤i
theorem Pos.nonneg{kvs:List (Key×V)}(h:Pos kvs)(k:Key):0≤aM kvs k:=by
 cases e:bW kvs k with
 |none=>rw[eC e];exact Int.le_refl _
 |some v=>
  obtain⟨i,ei,hi⟩:=h _ (fS e)
  have ei:v=V.int i:=ei
  rw[ei] at e
  rw[dB e]
  omega
theorem Pos.one{kvs:List (Key×V)}(h:Pos kvs)(hI:bu kvs){k:Key}(hk:k∈kvs.map (·.1)):1≤aM kvs k:=by
 have e:=hI.Cq hk
 obtain⟨i,ei,hi⟩:=h _ (fS e)
 have ei:V.int (aM kvs k)=V.int i:=ei
 injection ei with ei
 omega
theorem xh:∀(as:List (Str×Int)) (acc:List (Key×V)),Pos acc→(∀p∈as,1≤p.2)→Pos (a9 1 acc as)
 | [],_,h,_=>h
 |p::r,acc,h,hp=>by
  have h1:=hp p (List.mem_cons_self ..)
  refine xh r (cC acc (Sum.inr p.1) (p.2*1)) (fun q hq=>?_) fun q hq=>hp q (List.mem_cons_of_mem _ hq)
  rcases qa hq with hq|hq
  ·exact h q hq
  ·rw[hq]
   refine⟨_,rfl,?_⟩
   have:=h.nonneg (Sum.inr p.1)
   omega
theorem Cw(t:Int){j:Key}:∀(as:List (Str×Int)) (acc:List (Key×V)),j∈acc.map (·.1)→j∈(a9 t acc as).map (·.1)
 | [],_,h=>h
 |p::r,acc,h=>Cw t r (cC acc (Sum.inr p.1) (p.2*t)) (il h)
theorem AR(t:Int){p:Str×Int}:∀(as:List (Str×Int)) (acc:List (Key×V)),p∈as→(Sum.inr p.1 :Key)∈(a9 t acc as).map (·.1)
 | [],_,h=>by cases h
 |q::r,acc,h=>by
  rcases List.mem_cons.mp h with rfl|h
  ·exact Cw t r _ (qd _ _ _)
  ·exact AR t r _ h
theorem PQ{x:Fm}(h:cV x):Pos (cW 1 x.1):=xh _ _ (fun q hq=>by cases hq) fun p hp=>by
 obtain⟨y,hy,hp⟩:=List.mem_flatMap.mp hp
 have wV:=kZ h.1 y hy
 obtain⟨t,ht,hp⟩:=List.mem_flatMap.mp hp
 exact zg 1 y.1 t (wV.2.1 t ht) wV.2.2.1 p hp
theorem PR{x:Fm}(h:cV x)(k:Key):aM (cW 1 x.1) k≤7*1000000000:=by
 have hb:=wd (t:=1) (b:=1000000000) (by decide) (x.1.flatMap (cD 1)) [] 0 (Int.le_refl _) (fun p hp=>by cases hp) fun p hp=>by
  obtain⟨y,hy,hp⟩:=List.mem_flatMap.mp hp
  obtain⟨_,h1,n1,n2⟩:=kZ h.1 y hy
  obtain⟨t,ht,hp⟩:=List.mem_flatMap.mp hp
  obtain⟨q1,q2⟩:=rQ 1 y.1 t (h1 t ht) (by omega) p hp
  rw[Int.mul_one]
  refine⟨q1,?_⟩
  have:(999 :Int) ^1*y.1≤999*999:=by
   rw[show (999 :Int) ^1=999 from rfl]
   exact Int.mul_le_mul_of_nonneg_left n2 (by decide)
  omega
 have e7:((x.1.flatMap (cD 1)).length:Int)*1000000000≤7*1000000000:=Int.mul_le_mul_of_nonneg_right (by have:=h.2.2;omega) (by decide)
 cases e:bW (cW 1 x.1) k with
 |none=>rw[eC e];decide
 |some v=>
  obtain⟨i,ei,b0,b1⟩:=hb _ (fS e)
  have ei:v=V.int i:=ei
  rw[ei] at e
  rw[dB e]
  omega
theorem T7{x:Fm}(h:cV x)(hx:x.1≠[]):cW 1 x.1≠[]:=by
 intro z
 obtain⟨p,hp⟩:∃p,p∈x.1.flatMap (cD 1):=by
  cases e:x.1 with
  |nil=>exact absurd e hx
  |cons y r=>
   have wV:=kZ h.1 y (by rw[e];exact List.mem_cons_self ..)
   cases e2:y.2 with
   |nil=>exact absurd e2 wV.1
   |cons t r2=>
    have hn:=Cv 1 y.1 t (wV.2.1 t (by rw[e2];exact List.mem_cons_self ..))
    cases e3:br 1 y.1 t with
    |nil=>exact absurd e3 hn
    |cons p r3=>
     refine⟨p,List.mem_flatMap.mpr ⟨y,List.mem_cons_self ..,?_⟩⟩
     unfold cD
     rw[e2]
     exact List.mem_flatMap.mpr ⟨t,List.mem_cons_self ..,by rw[e3];exact List.mem_cons_self ..⟩
 have:=AR 1 _ [] hp
 rw[show a9 1 [] (x.1.flatMap (cD 1))=[] from z] at this
 cases this
def JD(s:Str):Fm:=([(1,[.one s.cps.toList 1])],0)
def Ey:Fm:=([], -1)
theorem zh(s:Str):(⟨(fL (JD s)).toArray⟩:Str)=s:=by
 unfold JD
 rw[Ht]
theorem HS(s:Str):cW 1 (JD s).1=[(Sum.inr s, .int 1)]:=by
 show cC [] (Sum.inr (⟨s.cps.toList.toArray⟩:Str)) (1*1*1)=_
 rw[Array.toArray_toList]
 rfl
theorem PU{s:Str}(h:lT s.cps.toList):cV (JD s):=Ca h
theorem T8(s:Str)(k:Key):aM (jQ (JD s)) k=if k=Sum.inr ("+" :Str) then 0 else if k=Sum.inr s then 1 else 0:=by
 unfold jQ
 rw[HS,iF,Ll]
 rfl
theorem T9(k:Key):aM (jQ Ey) k=if k=Sum.inr ("+" :Str) then -1 else 0:=by
 show aM (putK [] (Sum.inr ("+" :Str)) (.int (-1))) k=_
 rw[iF]
 rfl
theorem ja(a b:List Tm)(k:Key):sumZ (a++b) k=sumZ a k+sumZ b k:=by
 unfold sumZ
 rw[List.map_append,List.sum_append]
theorem gX(z:Tm)(a:List Tm)(k:Key):sumZ (z::a) k=z.1*aM (jQ z.2) k+sumZ a k:=by
 unfold sumZ
 rw[List.map_cons,List.sum_cons]
theorem gm(k:Key):sumZ [] k=0:=rfl
def LG(m:Int)(w:Fm)(s:Str):Tm:=(m*aM (cW 1 w.1) (Sum.inr s),JD s)
theorem uZ(m:Int)(w:Fm)(k:Key):∀{ms:List Str},ms.Nodup→sumZ (ms.map (LG m w)) k=if k=Sum.inr ("+" :Str) then 0 else if k∈ms.map Sum.inr then m*aM (cW 1 w.1) k else 0
 | [],_=>by
   rw[List.map_nil,gm]
   split
   ·rfl
   ·rw[if_neg (by simp)]
 |s::r,hn=>by
  rw[List.nodup_cons] at hn
  rw[List.map_cons,gX,uZ m w k hn.2]
  show m*aM (cW 1 w.1) (Sum.inr s)*aM (jQ (JD s)) k+_=_
  rw[T8]
  by_cases hp:k=Sum.inr ("+" :Str)
  ·rw[if_pos hp,if_pos hp,if_pos hp]
   simp
  rw[if_neg hp,if_neg hp,if_neg hp]
  by_cases hk:k=Sum.inr s
  ·have hnot:¬k∈r.map (Sum.inr:Str→Key):=fun z=>by
    obtain⟨s',Fy,e⟩:=List.mem_map.mp z
    rw[hk] at e
    injection e with e
    rw[e] at Fy
    exact hn.1 Fy
   rw[if_pos hk,if_neg hnot,if_pos (by rw[hk];exact List.mem_cons_self ..),hk]
   omega
  ·rw[if_neg hk]
   by_cases hr:k∈r.map (Sum.inr:Str→Key)
   ·rw[if_pos hr,if_pos (by rw[List.map_cons];exact List.mem_cons_of_mem _ hr)]
    omega
   ·rw[if_neg hr,if_neg (by rw[List.map_cons];intro z;rcases List.mem_cons.mp z with z|z;exact hk z;exact hr z)]
    omega
theorem Ua(m:Int)(w:Fm)(k:Key):sumZ [(m,w)] k=m*(if k=Sum.inr ("+" :Str) then w.2 else aM (cW 1 w.1) k):=by
 rw[gX,gm,Int.add_zero]
 unfold jQ
 rw[iF]
theorem Ub(m:Int){w:Fm}(h:cV w){ms:List Str}(hn:ms.Nodup)(hm:∀k,k∈(cW 1 w.1).map (·.1)↔k∈ms.map (Sum.inr:Str→Key))(k:Key):sumZ [(m,w)] k=sumZ (ms.map (LG m w)) k+if k=Sum.inr ("+" :Str) then m*w.2 else 0:=by
 rw[Ua,uZ m w k hn]
 by_cases hp:k=Sum.inr ("+" :Str)
 ·rw[if_pos hp,if_pos hp,if_pos hp]
  omega
 rw[if_neg hp,if_neg hp,if_neg hp,Int.add_zero]
 by_cases hk:k∈ms.map (Sum.inr:Str→Key)
 ·rw[if_pos hk]
 ·rw[if_neg hk,mZ fun z=>hk ((hm k).mp z),Int.mul_zero]
def HU(ws:List Fm)(z:Tm):Prop:=oE 100000000000 z∧Told ws (⟨(fL z.2).toArray⟩:Str)
def sH(ws:List Fm)(n:Nat)(xs ys:List Tm):Prop:=xs≠[]∧ys≠[]∧(∀x∈xs,HU ws x)∧(∀y∈ys,HU ws y)∧xs.length+ys.length≤n∧∀k,sumZ xs k=sumZ ys k
theorem sH.swap{ws:List Fm}{n:Nat}{xs ys:List Tm}(h:sH ws n xs ys):sH ws n ys xs:=by
 obtain⟨h1,h2,h3,h4,h5,h6⟩:=h
 exact⟨h2,h1,h4,h3,by omega,fun k=>(h6 k).symm⟩
theorem sH.ev{ws:List Fm}{xs ys:List Tm}(h:sH ws 8 xs ys):AM (Txt.join " -> " [o9 xs,o9 ys]) xs ys:=by
 obtain⟨h1,h2,h3,h4,h5,h6⟩:=h
 have tw:∀{z:Tm},HU ws z→fJ z:=fun {z} h=>⟨h.1.1,Int.le_trans h.1.2.1 (by decide),h.1.2.2⟩
 have ox:∀t∈xs,fJ t:=fun t ht=>tw (h3 t ht)
 have oy:∀t∈ys,fJ t:=fun t ht=>tw (h4 t ht)
 have et:Txt.join " -> " [o9 xs,o9 ys]=Y' xs ys:=HR _ _
 have fl:∀zs:List Tm,(∀t∈zs,fJ t)→yR zs≤7*zs.length:=fun zs=>by
  induction zs with
  |nil=>intro _;exact Nat.le_refl _
  |cons z r ih=>
   intro h
   have h1:=(h z (List.mem_cons_self ..)).2.2.2.2
   have h2:=ih fun t ht=>h t (List.mem_cons_of_mem _ ht)
   unfold yR at h2 ⊢
   rw[List.map_cons,List.sum_cons,List.length_cons]
   omega
 have hf:=fl (xs++ys) fun t ht=>by
  rcases List.mem_append.mp ht with z|z
  ·exact ox t z
  ·exact oy t z
 rw[List.length_append] at hf
 rw[et]
 exact⟨by rw[zf],h1,h2,ox,oy,LF ox oy h1 h2 h5,h5,by omega,fun t ht=>(ox t ht).2.2,fun t ht=>(oy t ht).2.2,h6⟩
theorem Cy(ws:List Fm){n:Int}(h1:1≤n)(h2:n≤10000):HU ws (n,Ey):=⟨⟨h1,by show n≤100000000000;omega,MQ⟩, .inl Po⟩
theorem chg0{ws:List Fm}{w:Fm}(hw:w∈ws)(ok:cV w)(h3:(cW 1 w.1).length≤3){m:Int}(m1:1≤m)(m3:m≤3){ks ms:List Str}(hk:(cW 1 w.1).map (·.1)=ks.map Sum.inr)(pm:ms.Perm ks):
  sH ws 5 ([(m,w)]++if 0<w.2 then [(m*w.2,Ey)] else []) (ms.map (LG m w)++if w.2<0 then [(0 - m*w.2,Ey)] else []):=by
 have hc:=B4 ok
 have hnd:ms.Nodup:=by
  refine pm.nodup_iff.mpr ?_
  have:=Tt w
  rw[hk] at this
  exact List.Pairwise.of_map (S:=(·≠·)) Sum.inr (fun a b h e=>h (by rw[e])) this
 have Uc:∀k,k∈(cW 1 w.1).map (·.1)↔k∈ms.map (Sum.inr:Str→Key):=fun k=>by rw[hk];exact(pm.map _).mem_iff.symm
 have Ti:ms.length≤3:=by
  have:=congrArg List.length hk
  rw[List.length_map,List.length_map] at this
  rw[pm.length_eq]
  omega
 have aV:∀s∈ms,HU ws (LG m w s):=fun s hs=>by
  have sN:=(Uc (Sum.inr s)).mpr (List.mem_map_of_mem hs)
  have p1:=(PQ ok).one (wJ _) sN
  have p2:=PR ok (Sum.inr s)
  obtain⟨q,hq,e⟩:=List.mem_map.mp sN
  obtain⟨k,Ze,e'⟩:=AL ok q hq
  rw[e] at e'
  injection e' with e'
  refine⟨⟨?_,?_,PU (by rw[e'];exact Ze)⟩,?_⟩
  ·show 1≤m*aM (cW 1 w.1) (Sum.inr s)
   obtain rfl|rfl|rfl:m=1∨m=2∨m=3:=by omega
   all_goals omega
  ·show m*aM (cW 1 w.1) (Sum.inr s)≤100000000000
   obtain rfl|rfl|rfl:m=1∨m=2∨m=3:=by omega
   all_goals omega
  ·show Told ws (⟨(fL (JD s)).toArray⟩:Str)
   rw[zh]
   exact .inr (.inr ⟨w,hw,sN⟩)
 have hwo:HU ws (m,w):=⟨⟨m1,by show m≤100000000000;omega,ok⟩, .inr (.inl ⟨w,hw,rfl⟩)⟩
 refine⟨by simp,?_,fun x hx=>?_,fun y hy=>?_,?_,fun k=>?_⟩
 ·by_cases z:w.1=[]
  ·have e:w.2= -1:=by
    have:=ok.1
    rw[z] at this
    exact this
   rw[if_pos (by omega)]
   simp
  ·intro z2
   have z3:=(List.append_eq_nil_iff.mp z2).1
   have z4:ms=[]:=by simpa using z3
   have:=T7 ok z
   have z5:(cW 1 w.1).length=0:=by
    have:=congrArg List.length hk
    rw[List.length_map,List.length_map,←pm.length_eq,z4] at this
    exact this
   exact this (List.length_eq_zero_iff.mp z5)
 ·rcases List.mem_append.mp hx with z|z
  ·rw[List.mem_singleton.mp z];exact hwo
  ·split at z
   ·rw[List.mem_singleton.mp z]
    obtain rfl|rfl|rfl:m=1∨m=2∨m=3:=by omega
    all_goals exact Cy ws (by omega) (by omega)
   ·cases z
 ·rcases List.mem_append.mp hy with z|z
  ·obtain⟨s,hs,rfl⟩:=List.mem_map.mp z
   exact aV s hs
  ·split at z
   ·rw[List.mem_singleton.mp z]
    obtain rfl|rfl|rfl:m=1∨m=2∨m=3:=by omega
    all_goals exact Cy ws (by omega) (by omega)
   ·cases z
 ·rw[List.length_append,List.length_append,List.length_map]
  have a1:(if 0<w.2 then [(m*w.2,Ey)] else []:List Tm).length+(if w.2<0 then [(0 - m*w.2,Ey)] else []:List Tm).length≤1:=by
   by_cases c:0<w.2
   ·rw[if_pos c,if_neg (by omega)];exact Nat.le_refl _
   ·rw[if_neg c]
    split
    ·exact Nat.le_refl _
    ·exact Nat.zero_le _
  show 1+_+_≤5
  omega
 ·rw[ja,ja,Ub m ok hnd Uc k]
  have se:∀n:Int,sumZ [(n,Ey)] k=n*if k=Sum.inr ("+" :Str) then -1 else 0:=fun n=>by
   rw[gX,gm,Int.add_zero,T9]
  by_cases c:0<w.2
  ·rw[if_pos c,if_neg (by omega:¬w.2<0),se,gm]
   split<;>omega
  ·rw[if_neg c,gm]
   by_cases d:w.2<0
   ·rw[if_pos d,se]
    split<;>omega
   ·rw[if_neg d,gm]
    have:w.2=0:=by omega
    rw[this]
    split<;>omega
theorem sH.a{ws:List Fm}{n:Nat}{xs ys:List Tm}(h:sH ws n xs ys){z:Tm}(hz:HU ws z):sH ws (n+2) ([z]++xs) (ys++[z]):=by
 obtain⟨h1,h2,h3,h4,h5,h6⟩:=h
 refine⟨by simp,by simp,fun x hx=>?_,fun x hx=>?_,by rw[List.length_append,List.length_append];show 1+_+(_+1)≤_;omega,fun k=>by rw[ja,ja,h6 k];omega⟩
 ·rcases List.mem_append.mp hx with y|y
  ·rw[List.mem_singleton.mp y];exact hz
  ·exact h3 x y
 ·rcases List.mem_append.mp hx with y|y
  ·exact h4 x y
  ·rw[List.mem_singleton.mp y];exact hz
theorem sH.b{ws:List Fm}{n:Nat}{xs ys:List Tm}(h:sH ws n xs ys){o:Fm}{m:Int}(ho:o∈ws)(ok:cV o)(m1:1≤m)(m4:m≤4):sH ws (n+3) (xs++[(m,o),(1,o)]) ([(m+1,o)]++ys):=by
 obtain⟨h1,h2,h3,h4,h5,h6⟩:=h
 have hz:∀{i:Int},1≤i→i≤5→HU ws (i,o):=fun {i} i1 i2=>⟨⟨i1,by show i≤100000000000;omega,ok⟩, .inr (.inl ⟨o,ho,rfl⟩)⟩
 refine⟨by simp,by simp,fun x hx=>?_,fun x hx=>?_,by rw[List.length_append,List.length_append];show _+2+(1+_)≤_;omega,fun k=>?_⟩
 ·rcases List.mem_append.mp hx with y|y
  ·exact h3 x y
  ·rcases List.mem_cons.mp y with y|y
   ·rw[y];exact hz (by omega) (by omega)
   ·rw[List.mem_singleton.mp y];exact hz (by omega) (by omega)
 ·rcases List.mem_append.mp hx with y|y
  ·rw[List.mem_singleton.mp y];exact hz (by omega) (by omega)
  ·exact h4 x y
 ·rw[ja,ja,h6 k,gX,gX,gm,gX,gm]
  show _+(m*aM (jQ o) k+(1*aM (jQ o) k+0))=((m+1)*aM (jQ o) k+0)+_
  rw[Int.add_mul]
  omega
theorem sH.mono{ws:List Fm}{n m:Nat}{xs ys:List Tm}(h:sH ws n xs ys)(e:n≤m):sH ws m xs ys:=by
 obtain⟨h1,h2,h3,h4,h5,h6⟩:=h
 exact⟨h1,h2,h3,h4,by omega,h6⟩
variable {uC uP uI uD uL uT fb fe fg uG uS:Tok}{Ch HE Sh St:Addr}
inductive AS(vs:List V)(H:Hp)(Q:VK)(E:XK):Prop
 |mk (c:Int) (wl:Addr) (ws:List Fm) (dR:vs=[.int c, .ref wl]) (dS:jH H wl ws) (dW:(∀w∈ws,cV w)) (eZ:(∀w∈ws,(cW 1 w.1).length≤3)) (gz:ws.length=3) (jb:∀(t l r:Addr) (xs ys:List Tm) H',H' t=some (.tup [.ref l, .ref r])→bT H' l xs→bT H' r ys→sH ws 8 xs ys→au H H'→Q (.ref t) H')
def u5:Sp:=AS
theorem cF:ay ["_law_cell","_law_world_here","_law_text_here","_law_counts","_law_charge","_law_many","_law_lefts","_law_rights","_law_other","_law_more"] ["_law_cell","_law_world_here"] (aj j'):=dA
theorem zj{H:Hp}{wl:Addr}{ws:List Fm}{ts:List Addr}(hP:Paired (yx H) ts ws)(h3:ws.length=3)(c:Int):∃(t:Addr) (x:Fm),zO (ts.map V.ref) (c%3)=some (.ref t)∧x∈ws∧yx H t x:=by
 have gH:=Paired.length hP
 have c0:0≤c%3:=Int.emod_nonneg _ (by decide)
 have c1:c%3<3:=Int.emod_lt_of_pos _ (by decide)
 have hi:(c%3).toNat<ts.length:=by omega
 obtain⟨t,ht⟩:∃t,ts[(c%3).toNat]? =some t:=⟨_,List.getElem?_eq_getElem hi⟩
 obtain⟨x,hx,hF⟩:=bo hP ht
 refine⟨t,x,?_,List.mem_of_getElem? hx,hF⟩
 have:=mj (xs:=ts.map V.ref) (j:=(c%3).toNat) (v:=V.ref t) (by rw[List.getElem?_map,ht];rfl)
 rwa [Int.toNat_of_nonneg c0] at this
theorem MV{H:Hp}{d f u:Addr}{n:Int}(hd:H d=none)(hf:(upd H d (.dK [])) f=none)(hu:(upd (upd H d (.dK [])) f (.tup [.str "e^-", .ref d, .int (-1)])) u=none):dZ (upd (upd (upd H d (.dK [])) f (.tup [.str "e^-", .ref d, .int (-1)])) u (.tup [.int n, .ref f])) u (n,Ey)∧au H (upd (upd (upd H d (.dK [])) f (.tup [.str "e^-", .ref d, .int (-1)])) u (.tup [.int n, .ref f])):=by
 have s1:=au.new (o:= .dK []) hd
 have s2:=au.new (o:= .tup [.str "e^-", .ref d, .int (-1)]) hf
 have s3:=au.new (o:= .tup [.int n, .ref f]) hu
 refine⟨⟨f,aa,d,?_,s3 _ _ (s2 _ _ aa)⟩,(s1.trans s2).trans s3⟩
 show _=some (HO.tup [.str ⟨(fL ([], -1)).toArray⟩, .ref d, .int (-1)])
 rw[Po]
 exact s3 _ _ aa
theorem AU(D:Def K mg "_law_change" "_law_change" j' ["_law_cell","_law_world_here"])(T:G' K mg C R G Pc Fo Ch uK uN uB uE uM uC uP uI uD uL uT fb fe fg):bj P w K mg base 1 "_law_change" ["_law_cell","_law_world_here"] u5:=by
 refine D.dh cF (fun vs H Q E h=>?_) (fun f bp A outer s H vs Q E hr h=>?_)
 ·obtain⟨c,wl,ws,rfl,_⟩:=h
  rfl
 ·obtain⟨c,wl,ws,rfl,⟨ts,Q6,hP⟩,aV,xf,h3,q⟩:=h
  have hu:=dz hr
  have big:(2000 :Nat)≤sizeLine:=by decide
  refine⟨_,(ai
     (zC (cf cQ (pv 1) (aA b6 (pv 0) aq) (fun _ _=>rfl)) (fi rfl (aQ (aD (i:=2) cF.nd rfl (Or.inl rfl)) (aQ (aD (i:=3) cF.nd rfl (Or.inr rfl)) (aQ (aD (i:=4) cF.nd rfl (Or.inl rfl)) cK)))))
    (ai
     (aB (i:=5) cF.nd rfl (Or.inr rfl) (aA bR aq (aA b6 (aA cE (pv 0) aq) aq)))
    (ai
     (aB (i:=6) cF.nd rfl (Or.inl rfl) (cA (af (bQ (af (pv 5) (af (bQ (af (pv 2) (af (pv 3) (af (pv 4) ak)))) ak))) ak)))
    (ai
     (mv (i:=7) cF.nd rfl (Or.inl rfl) (sc:=(aj j')) (NX:=["_law_cell","_law_world_here","_law_text_here","_law_counts","_law_charge","_law_many","_law_lefts","_law_rights","_law_other","_law_more"]) (N:=["_law_kind_here","_law_many","_law_counts"]) (fr:=[none,some 5,some 3]) ⟨by rfl,by rfl,by decide+kernel,by decide+kernel,by decide+kernel,by rfl,by decide+kernel⟩ rfl rfl rfl (bX (bS (mz rfl) rfl T.yO tP (af (pv 3) ak))) (fun _ _ _ _=>(aD (i:=0) (show (["_law_kind_here","_law_many","_law_counts"]:List Str).Nodup by decide+kernel) rfl (Or.inl rfl) (Or.inr rfl))) (fun _ _ _ _=>fx) (fun _ _ _ _=>(bQ (af (aA fM (pv 1) (cY hu (pv 2) (pv 0) (fun _ _=>rfl))) (af (bQ (af (pv 0) (af (vo (qv (pv 0) aq vn) rfl rfl (by intro z;cases z) (by decide)) (af aq ak)))) ak)))))
    (ai
     (bN (aO me (pv 4) aq (aX _))
      (ao
       (bb (gD PySem.F.plainAttrs_list PySem.F.slot_list_append PySem.F.type_list_append dE (pv 7) (af (bQ (af (aA jW aq (aA fM (pv 5) (pv 4))) (af (bQ (af bH (af dw (af (oU jX aq) ak)))) ak))) ak))))
      aY)
    (ai
     (bN (aO jY (pv 4) aq (aX _))
      (ao
       (bb (gD PySem.F.plainAttrs_list PySem.F.slot_list_append PySem.F.type_list_append dE (pv 6) (af (bQ (af (aA fM (pv 5) (pv 4)) (af (bQ (af bH (af dw (af (oU jX aq) ak)))) ak))) ak))))
      aY)
    (ai
     (aB (i:=8) cF.nd rfl (Or.inl rfl) (cf cQ (pv 1) (aA b6 (aA cE (pv 0) aq) aq) (fun _ _=>rfl)))
    (ai
     (aB (i:=9) cF.nd rfl (Or.inl rfl) (aA bR aq (aA b6 (aA cE (pv 0) aq) aq)))
    (ai
     (bN (aO d9 (aA b6 (aA cE (pv 0) aq) aq) aq (aX _))
      (ai
       (aB (i:=6) cF.nd rfl (Or.inl rfl) (aA nS (cA (af (bQ (af (pv 9) (af (pv 8) ak))) ak)) (pv 6)))
      (ao
       (aB (i:=7) cF.nd rfl (Or.inl rfl) (aA nS (pv 7) (cA (af (bQ (af (pv 9) (af (pv 8) ak))) ak))))))
      aY)
    (ai
     (bN (aO d9 (aA b6 (aA cE (pv 0) aq) aq) aq (aX _))
      (ai
       (aB (i:=6) cF.nd rfl (Or.inl rfl) (aA nS (pv 6) (cA (af (bQ (af (pv 9) (af (pv 8) ak))) (af (bQ (af aq (af (pv 8) ak))) ak)))))
      (ao
       (aB (i:=7) cF.nd rfl (Or.inl rfl) (aA nS (cA (af (bQ (af (aA bR (pv 9) aq) (af (pv 8) ak))) ak)) (pv 7)))))
      aY)
    (ai
     (bN (aO d9 (aA b6 (aA cE (pv 0) aq) aq) aq (aX _))
      (ao
       (aE (bQ (af (pv 7) (af (pv 6) ak)))))
      aY)
    (ao
     (aE (bQ (af (pv 6) (af (pv 7) ak)))))))))))))))),?_⟩
  obtain⟨t,x,KZ,PL,cd,Q8,hx2⟩:=zj (wl:=wl) hP h3 c
  refine⟨_,rfl,_,rfl,_,_,rfl,rfl,(by show (0 :Int) <3;decide),wl,_,_,V.ref t,rfl,rfl,bJ.of Q6,KZ,?_⟩
  refine⟨t,_,rfl,ir.of Q8,rfl,_,_,rfl,_,_,rfl,_,_,rfl,rfl,?_⟩
  refine⟨_,rfl,_,_,rfl,rfl,⟨by decide,by decide⟩,_,_,rfl,rfl,(by show (0 :Int) <3;decide),_,_,rfl,rfl,?_⟩
  have m0:0≤c/3%3:=Int.emod_nonneg _ (by decide)
  have m1:c/3%3<3:=Int.emod_lt_of_pos _ (by decide)
  dsimp only [cN]
  obtain⟨m,em⟩:∃m,m=1+c/3%3:=⟨_,rfl⟩
  rw[←em]
  have mm1:1≤m:=by omega
  have mm3:m≤3:=by omega
  clear em m0 m1
  refine⟨_,rfl,_,rfl,_,rfl,_,rfl,(by show 3≤sizeLine;decide),fun p hp=>⟨(by show 2≤sizeLine;decide),fun q1 hq1=>⟨(by show 1≤sizeLine;decide),fun L hL=>?_⟩⟩⟩
  have s1:=au.new (o:= .tup [.str ⟨(fL x).toArray⟩, .ref cd, .int x.2]) hp
  have s2:=au.new (o:= .tup [.int m, .ref p]) hq1
  have s3:=au.new (o:= .lst [.ref q1]) hL
  have e3:=(s1.trans s2).trans s3
  have m9:(upd (upd (upd H p (.tup [.str ⟨(fL x).toArray⟩, .ref cd, .int x.2])) q1 (.tup [.int m, .ref p])) L (.lst [.ref q1])) L=some (.lst [.ref q1]):=aa
  have Rq:dZ (upd (upd (upd H p (.tup [.str ⟨(fL x).toArray⟩, .ref cd, .int x.2])) q1 (.tup [.int m, .ref p])) L (.lst [.ref q1])) q1 (m,x):=⟨p,s3 _ _ aa,cd,s3 _ _ (s2 _ _ aa),e3 _ _ hx2⟩
  have hLH:H L=none:=none_back (s1.trans s2) hL
  dsimp only [cN]
  generalize upd (upd (upd H p (.tup [.str ⟨(fL x).toArray⟩, .ref cd, .int x.2])) q1 (.tup [.int m, .ref p])) L (.lst [.ref q1])=H3 at e3 m9 Rq ⊢
  have lC:=aV x PL
  have PK:=xf x PL
  have xx:(((cW 1 x.1).map (·.1)).filterMap Tf).map Sum.inr=(cW 1 x.1).map (·.1):=B0 (B1 x.1)
  obtain⟨ks,eks⟩:∃ks,ks=((cW 1 x.1).map (·.1)).filterMap Tf:=⟨_,rfl⟩
  rw[←eks] at xx
  have oJ:ks.length≤3:=by
   have:=congrArg List.length xx
   rw[List.length_map,List.length_map] at this
   omega
  refine⟨_,rfl,cd,cW 1 x.1,ks,rfl, .inl (e3 _ _ hx2),xx.symm,by omega,fun l2 ms pm sm qx=>?_⟩
  have s4:=au.new (o:= .lst (ms.map V.str)) qx
  have MD:(upd H3 l2 (.lst (ms.map V.str))) l2=some (.lst (ms.map V.str)):=aa
  have e4:=e3.trans s4
  have sQ:=s4 _ _ m9
  have Zo:=Rq.same s4
  generalize upd H3 l2 (.lst (ms.map V.str))=H4 at e4 MD sQ Zo ⊢
  have Ti:ms.length≤3:=by rw[pm.length_eq];exact oJ
  refine⟨l2,rfl,⟨_,bJ.of MD⟩,fun R0 Zq=>i0 (K:=K) (a:=l2) (L:=R0) (xs:=ms.map V.str) H4 (fun σ=>∃v:Option V,σ=[v,some (.int m),some (.ref cd)]) (fun i ys H'=>∃us:List Addr,ys=us.map V.ref∧us.length=i∧Paired (fun u z=>u≠R0∧∃f d,f≠R0∧d≠R0∧H' u=some (.tup [.int z.1, .ref f])∧H' f=some (.tup [.str ⟨(fL z.2).toArray⟩, .ref d, .int z.2.2])∧H' d=some (.dK (cW 1 z.2.1))) us ((ms.take i).map (LG m x))) (bJ.of MD) ?_ Zq ⟨none,rfl⟩ (au.new Zq) aa ⟨[],rfl,rfl, .nil⟩ (by rw[List.length_map];omega) ?_ ?_ ?_⟩
  ·rintro i ys Ha Hb hb ⟨us,h1,h2,h4⟩
   exact⟨us,h1,h2,aw (fun u z ⟨n1,f,d,n2,n3,z1,z2,z3⟩=>⟨n1,f,d,n2,n3,hb _ _ z1 n1,hb _ _ z2 n2,hb _ _ z3 n3⟩) h4⟩
  ·rintro i ys H' ⟨us,rfl,h2,_⟩
   rw[List.length_map,h2];exact Nat.le_refl _
  ·rintro i v σ H5 ys hi ⟨v0,rfl⟩ e5 BI ⟨us,rfl,EY,xE⟩ N M hN
   rw[List.getElem?_map] at hi
   obtain⟨sk,hsk,rfl⟩:∃p,ms[i]? =some p∧v=V.str p:=by
    cases hh:ms[i]? with
    |none=>rw[hh] at hi;cases hi
    |some p=>rw[hh] at hi;exact⟨p,rfl,(Option.some.inj hi).symm⟩
   have sN:(Sum.inr sk:Key)∈(cW 1 x.1).map (·.1):=by
    rw[←xx]
    exact List.mem_map_of_mem (pm.mem_iff.mp (List.mem_of_getElem? hsk))
   have hv:=(wJ x.1).Cq sN
   have hcd5:H5 cd=some (.dK (cW 1 x.1)):=e5 _ _ (e4 _ _ hx2)
   refine⟨_,rfl,_,rfl,_,rfl,cd,V.int (aM (cW 1 x.1) (Sum.inr sk)),rfl, .inl ⟨_,Sum.inr sk, .inl hcd5,rfl,hv.symm⟩,_,_,rfl,rfl, .inl ⟨by omega,by omega⟩,?_⟩
   refine⟨_,rfl,fun d hd=>⟨_,rfl,aa,[(Sum.inr sk, .int 1)],rfl,(by show 1≤15;decide),(by show 3≤sizeLine;decide),fun f' hf=>⟨(by show 2≤sizeLine;decide),fun u HN=>?_⟩⟩⟩
   have t1:au H5 (upd (upd H5 d (.dK [])) d (.dK (cq [] [(Sum.inr sk,V.int 1)]))):=fun b o z=>by
    rw[ah (ag z hd),ah (ag z hd)]
    exact z
   have t2:=au.new (o:= .tup [.str sk, .ref d, .int 0]) hf
   have t3:=au.new (o:= .tup [.int (m*aM (cW 1 x.1) (Sum.inr sk)), .ref f']) HN
   have e6:=(t1.trans t2).trans t3
   have TB:=t3 _ _ (t2 _ _ (aa (H:=upd H5 d (.dK [])) (a:=d) (o:= .dK (cq [] [(Sum.inr sk,V.int 1)]))))
   have hf6:=t3 _ _ (aa (H:=upd (upd H5 d (.dK [])) d (.dK (cq [] [(Sum.inr sk,V.int 1)]))) (a:=f') (o:= .tup [.str sk, .ref d, .int 0]))
   have EZ:=e6 _ _ BI
   refine hN _ _ _ ⟨_,rfl⟩ (e5.trans e6) EZ ⟨us++[u],by rw[List.map_append];rfl,by rw[List.length_append,EY];rfl,?_⟩
   rw[take_snoc hsk,List.map_append]
   refine bC ⟨cG (aa (o:= .tup [.int (m*aM (cW 1 x.1) (Sum.inr sk)), .ref f'])) EZ (by intro z;cases z),f',d,cG hf6 EZ (by intro z;cases z),cG TB EZ (by intro z;cases z),aa,?_,?_⟩ (aw (fun u z ⟨n1,f,d,n2,n3,z1,z2,z3⟩=>⟨n1,f,d,n2,n3,e6 _ _ z1,e6 _ _ z2,e6 _ _ z3⟩) xE)
   ·show _=some (HO.tup [.str ⟨(fL (JD sk)).toArray⟩, .ref d, .int 0])
    rw[zh]
    exact hf6
   ·show _=some (HO.dK (cW 1 (JD sk).1))
    rw[HS]
    exact TB
  ·rintro H5 ys e5 BI ⟨us,rfl,EY,xE⟩
   rw[List.length_map,List.take_length] at xE
   have Ud:Paired (dZ H5) us (ms.map (LG m x)):=aw (fun u z ⟨n1,f,d,n2,n3,z1,z2,z3⟩=>⟨f,z1,d,z2,z3⟩) xE
   clear xE
   have hR0H:H R0=none:=none_back e4 Zq
   have nLR:L≠R0:=ag sQ Zq
   have kn:=e5 _ _ sQ
   have hT5:=Zo.same e5
   have JE:=e4.trans e5
   have hul':us.length≤3:=by rw[EY,List.length_map];exact Ti
   dsimp only [A9]
   refine iw (fun σ' H'=>∃us:List Addr,σ'=[some (.int c),some (.ref wl),some (.str ⟨(fL x).toArray⟩),some (.ref cd),some (.int x.2),some (.int m),some (.ref L),some (.ref R0),none,none]∧H' R0=some (.lst (us.map V.ref))∧us.length≤4∧Paired (dZ H') us (ms.map (LG m x)++if x.2<0 then [(0 - m*x.2,Ey)] else [])∧H' L=some (.lst [.ref q1])∧dZ H' q1 (m,x)∧au H H') (fun N hN=>?_) ?_
   ·refine⟨_,rfl,_,_,rfl,rfl,_,rfl,fu (fun en=>?_) fun en=>?_⟩
    ·have en:x.2<0:=by simpa using en
     refine⟨_,rfl, .inl ⟨rfl,_,bJ.of BI⟩,_,rfl,_,rfl,_,_,rfl,rfl, .inl ⟨by omega,by omega⟩,_,_,rfl,rfl,fun d hd=>⟨1,rfl,(by show 3≤sizeLine;decide),fun f' hf=>⟨(by show 2≤sizeLine;decide),fun u HN=>?_⟩⟩⟩
     obtain⟨tu,t6⟩:=MV (n:=0 - m*x.2) hd hf HN
     have EZ:=t6 _ _ BI
     refine⟨R0,_,_,rfl,rfl,EZ,by rw[List.length_map];omega,hN _ _ ⟨us++[u],rfl,by rw[aa,List.map_append];rfl,by rw[List.length_append];show _+1≤4;omega,?_,?_,?_,?_⟩⟩
     ·rw[if_pos en]
      exact bC (tu.but EZ fun b o z n=>by rw[ah n];exact z) (aw (fun a z h=>(h.same t6).but EZ fun b o z n=>by rw[ah n];exact z) Ud)
     ·rw[ah nLR]
      exact t6 _ _ kn
     ·exact(hT5.same t6).but EZ fun b o z n=>by rw[ah n];exact z
     ·exact fun b o z=>by rw[ah (ag z hR0H)];exact t6 _ _ (JE _ _ z)
    ·have en:¬x.2<0:=by simpa using en
     refine hN _ _ ⟨us,rfl,BI,by omega,?_,kn,hT5,JE⟩
     rw[if_neg en,List.append_nil]
     exact Ud
   rintro σ' H6 ⟨us,rfl,EZ,hu4,Ud,DX,hT6,e6⟩
   refine iw (fun σ' H'=>∃ls:List Addr,σ'=[some (.int c),some (.ref wl),some (.str ⟨(fL x).toArray⟩),some (.ref cd),some (.int x.2),some (.int m),some (.ref L),some (.ref R0),none,none]∧H' R0=some (.lst (us.map V.ref))∧Paired (dZ H') us (ms.map (LG m x)++if x.2<0 then [(0 - m*x.2,Ey)] else [])∧H' L=some (.lst (ls.map V.ref))∧Paired (dZ H') ls ([(m,x)]++if 0<x.2 then [(m*x.2,Ey)] else [])∧au H H') (fun N hN=>?_) ?_
   ·refine⟨_,rfl,_,_,rfl,rfl,_,rfl,fu (fun en=>?_) fun en=>?_⟩
    ·have en:0<x.2:=by simpa using en
     refine⟨_,rfl, .inl ⟨rfl,_,bJ.of DX⟩,_,rfl,_,rfl,_,_,rfl,rfl, .inl ⟨by omega,by omega⟩,fun d hd=>⟨1,rfl,(by show 3≤sizeLine;decide),fun f' hf=>⟨(by show 2≤sizeLine;decide),fun u HN=>?_⟩⟩⟩
     obtain⟨tu,t6⟩:=MV (n:=m*x.2) hd hf HN
     have Rt:=t6 _ _ DX
     refine⟨L,_,_,rfl,rfl,Rt,(by show 1<sizeLine;decide),hN _ _ ⟨[q1,u],rfl,?_,?_,?_,?_,?_⟩⟩
     ·rw[ah (Ne.symm nLR)]
      exact t6 _ _ EZ
     ·exact aw (fun a z h=>(h.same t6).but Rt fun b o z n=>by rw[ah n];exact z) Ud
     ·rw[aa]
      rfl
     ·rw[if_pos en]
      exact .cons ((hT6.same t6).but Rt fun b o z n=>by rw[ah n];exact z) (.cons (tu.but Rt fun b o z n=>by rw[ah n];exact z) .nil)
     ·exact fun b o z=>by rw[ah (ag z hLH)];exact t6 _ _ (e6 _ _ z)
    ·have en:¬0<x.2:=by simpa using en
     refine hN _ _ ⟨[q1],rfl,EZ,Ud,DX,?_,e6⟩
     rw[if_neg en,List.append_nil]
     exact .cons hT6 .nil
   rintro σ' H7 ⟨ls,rfl,hR7,hPr,Rt,hPl,e7⟩
   have hG:=chg0 PL lC PK mm1 mm3 xx.symm pm
   have xF:bT H7 L _:=⟨ls,Rt,hPl⟩
   have xG:bT H7 R0 _:=⟨us,hR7,hPr⟩
   generalize ([(m,x)]++if 0<x.2 then [(m*x.2,Ey)] else [])=xs at hG xF
   generalize (ms.map (LG m x)++if x.2<0 then [(0 - m*x.2,Ey)] else [])=ys at hG xG
   obtain⟨t2,o2,O5,Zr,HV⟩:=zj (wl:=wl) hP h3 (c/27)
   refine⟨_,rfl,_,rfl,_,_,rfl,rfl,⟨by decide,by decide⟩,_,_,rfl,rfl,(by show (0 :Int) <3;decide),wl,_,_,V.ref t2,rfl,rfl,bJ.of (e7 _ _ Q6),O5,?_⟩
   refine⟨_,rfl,_,_,rfl,rfl,⟨by decide,by decide⟩,_,_,rfl,rfl,(by show (0 :Int) <4;decide),_,_,rfl,rfl,?_⟩
   have n0:0≤c/81%4:=Int.emod_nonneg _ (by decide)
   have n1:c/81%4<4:=Int.emod_lt_of_pos _ (by decide)
   dsimp only [cN,A9]
   obtain⟨mo,emo⟩:∃m,m=1+c/81%4:=⟨_,rfl⟩
   rw[←emo]
   have mo1:1≤mo:=by omega
   have mo4:mo≤4:=by omega
   clear emo n0 n1
   have okl:HU ws (mo,o2):=⟨⟨mo1,by show mo≤100000000000;omega,aV o2 Zr⟩, .inr (.inl ⟨o2,Zr,rfl⟩)⟩
   refine iw (fun σ' H'=>∃(L R0:Addr) (xs ys:List Tm),σ'=[some (.int c),some (.ref wl),some (.str ⟨(fL x).toArray⟩),some (.ref cd),some (.int x.2),some (.int m),some (.ref L),some (.ref R0),some (.ref t2),some (.int mo)]∧bT H' L xs∧bT H' R0 ys∧sH ws 8 xs ys∧(¬c/9%3=1→sH ws 5 xs ys)∧au H H') (fun N hN=>?_) ?_
   ·refine⟨_,rfl,_,_,rfl,rfl,⟨by decide,by decide⟩,_,_,rfl,rfl,(by show (0 :Int) <3;decide),rfl,_,rfl,fu (fun ev=>?_) fun ev=>?_⟩
    ·have ev:c/9%3=1:=by simpa using ev
     obtain⟨Ez,lA,HW⟩:=xF
     obtain⟨PV,d7,HX⟩:=xG
     have l1:=Paired.length HW
     have l2:=Paired.length HX
     have l5:=hG.2.2.2.2.1
     refine⟨_,rfl,_,rfl,(by show 2≤sizeLine;decide),fun p hp=>⟨(by show 1≤sizeLine;decide),fun q2 Zs=>?_⟩⟩
     have s1:=au.new (o:= .tup [.int mo, .ref t2]) hp
     have s2:=s1.trans (au.new (o:= .lst [.ref p]) Zs)
     have Fh:=au.new (o:= .lst [.ref p]) Zs _ _ (aa (H:=H7) (a:=p) (o:= .tup [.int mo, .ref t2]))
     have Ue:(upd (upd H7 p (.tup [.int mo, .ref t2])) q2 (.lst [.ref p])) q2=some (.lst [.ref p]):=aa
     generalize upd (upd H7 p (.tup [.int mo, .ref t2])) q2 (.lst [.ref p])=H8 at s2 Fh Ue ⊢
     refine⟨_,rfl,q2,L,[.ref p],Ez.map V.ref,rfl,rfl,Ue,s2 _ _ lA,by rw[List.length_map];show 1+_≤_;omega,fun L2 pX=>?_⟩
     have s3:=au.new (o:= .lst ([.ref p]++Ez.map V.ref)) pX
     have Ug:(upd H8 L2 (.lst ([.ref p]++Ez.map V.ref))) L2=some (.lst ([.ref p]++Ez.map V.ref)):=aa
     have Uh:=s2.trans s3
     have Ui:=s3 _ _ Fh
     generalize upd H8 L2 (.lst ([.ref p]++Ez.map V.ref))=H9 at Uh Ug Ui ⊢
     refine⟨_,rfl,_,rfl,_,rfl,(by show 2≤sizeLine;decide),fun p' sx=>⟨(by show 1≤sizeLine;decide),fun q3 Uj=>?_⟩⟩
     have r1:=au.new (o:= .tup [.int mo, .ref t2]) sx
     have r2:=r1.trans (au.new (o:= .lst [.ref p']) Uj)
     have Uk:=au.new (o:= .lst [.ref p']) Uj _ _ (aa (H:=H9) (a:=p') (o:= .tup [.int mo, .ref t2]))
     have Ul:(upd (upd H9 p' (.tup [.int mo, .ref t2])) q3 (.lst [.ref p'])) q3=some (.lst [.ref p']):=aa
     generalize upd (upd H9 p' (.tup [.int mo, .ref t2])) q3 (.lst [.ref p'])=J7 at r2 Uk Ul ⊢
     have Fx:=Uh.trans r2
     refine⟨R0,q3,PV.map V.ref,[.ref p'],rfl,rfl,Fx _ _ d7,Ul,by rw[List.length_map];show _+1≤_;omega,fun R2 gP=>?_⟩
     have r3:=au.new (o:= .lst (PV.map V.ref++[.ref p'])) gP
     have MW:=Fx.trans r3
     refine hN _ _ ⟨L2,R2,[(mo,o2)]++xs,ys++[(mo,o2)],rfl,⟨[p]++Ez,?_,?_⟩,⟨PV++[p'],?_,?_⟩,(hG.a okl).mono (by decide),fun z=>absurd ev z,e7.trans MW⟩
     ·rw[List.map_append]
      exact r3 _ _ (r2 _ _ Ug)
     ·exact .cons ⟨t2,r3 _ _ (r2 _ _ Ui),HV.same (e7.trans MW)⟩ (aw (fun a z h=>h.same MW) HW)
     ·rw[List.map_append]
      exact aa
     ·exact bC ⟨t2,r3 _ _ Uk,HV.same (e7.trans MW)⟩ (aw (fun a z h=>h.same MW) HX)
    ·have ev:¬c/9%3=1:=by simpa using ev
     exact hN _ _ ⟨L,R0,xs,ys,rfl,xF,xG,hG.mono (by decide),fun _=>hG,e7⟩
   clear xF xG hG
   rintro σ' H8 ⟨L,R0,xs,ys,rfl,xF,xG,Um,hG5,e8⟩
   refine iw (fun σ' H'=>∃(L R0:Addr) (xs ys:List Tm),σ'=[some (.int c),some (.ref wl),some (.str ⟨(fL x).toArray⟩),some (.ref cd),some (.int x.2),some (.int m),some (.ref L),some (.ref R0),some (.ref t2),some (.int mo)]∧bT H' L xs∧bT H' R0 ys∧sH ws 8 xs ys∧au H H') (fun N hN=>?_) ?_
   ·refine⟨_,rfl,_,_,rfl,rfl,⟨by decide,by decide⟩,_,_,rfl,rfl,(by show (0 :Int) <3;decide),rfl,_,rfl,fu (fun ev=>?_) fun ev=>?_⟩
    ·have ev:c/9%3=2:=by simpa using ev
     have hG:=hG5 (by omega)
     obtain⟨Ez,lA,HW⟩:=xF
     obtain⟨PV,d7,HX⟩:=xG
     have l1:=Paired.length HW
     have l2:=Paired.length HX
     have l5:=hG.2.2.2.2.1
     refine⟨_,rfl,_,rfl,_,rfl,(by show 2≤sizeLine;decide),fun p hp=>⟨_,rfl,(by show 2≤sizeLine;decide),fun p1 hp1=>⟨(by show 2≤sizeLine;decide),fun q2 Zs=>?_⟩⟩⟩
     have s1:=au.new (o:= .tup [.int mo, .ref t2]) hp
     have s1':=au.new (o:= .tup [.int 1, .ref t2]) hp1
     have PX:=au.new (o:= .lst [.ref p, .ref p1]) Zs
     have s2:=(s1.trans s1').trans PX
     have Fh:=PX _ _ (s1' _ _ (aa (H:=H8) (a:=p) (o:= .tup [.int mo, .ref t2])))
     have Uo:=PX _ _ (aa (H:=upd H8 p (.tup [.int mo, .ref t2])) (a:=p1) (o:= .tup [.int 1, .ref t2]))
     have Ue:(upd (upd (upd H8 p (.tup [.int mo, .ref t2])) p1 (.tup [.int 1, .ref t2])) q2 (.lst [.ref p, .ref p1])) q2=some (.lst [.ref p, .ref p1]):=aa
     generalize upd (upd (upd H8 p (.tup [.int mo, .ref t2])) p1 (.tup [.int 1, .ref t2])) q2 (.lst [.ref p, .ref p1])=H9 at s2 Fh Uo Ue ⊢
     refine⟨L,q2,Ez.map V.ref,[.ref p, .ref p1],rfl,rfl,s2 _ _ lA,Ue,by rw[List.length_map];show _+2≤_;omega,fun L2 pX=>?_⟩
     have s3:=au.new (o:= .lst (Ez.map V.ref++[.ref p, .ref p1])) pX
     have Ug:(upd H9 L2 (.lst (Ez.map V.ref++[.ref p, .ref p1]))) L2=some (.lst (Ez.map V.ref++[.ref p, .ref p1])):=aa
     have Uh:=s2.trans s3
     have Ui:=s3 _ _ Fh
     have Up:=s3 _ _ Uo
     generalize upd H9 L2 (.lst (Ez.map V.ref++[.ref p, .ref p1]))=J7 at Uh Ug Ui Up ⊢
     refine⟨_,rfl,_,_,rfl,rfl,_,rfl,(by show 2≤sizeLine;decide),fun p' sx=>⟨(by show 1≤sizeLine;decide),fun q3 Uj=>?_⟩⟩
     have r1:=au.new (o:= .tup [.int (mo+1), .ref t2]) sx
     have r2:=r1.trans (au.new (o:= .lst [.ref p']) Uj)
     have Uk:=au.new (o:= .lst [.ref p']) Uj _ _ (aa (H:=J7) (a:=p') (o:= .tup [.int (mo+1), .ref t2]))
     have Ul:(upd (upd J7 p' (.tup [.int (mo+1), .ref t2])) q3 (.lst [.ref p'])) q3=some (.lst [.ref p']):=aa
     generalize upd (upd J7 p' (.tup [.int (mo+1), .ref t2])) q3 (.lst [.ref p'])=H11 at r2 Uk Ul ⊢
     have MW:=Uh.trans r2
     refine⟨_,rfl,q3,R0,[.ref p'],PV.map V.ref,rfl,rfl,Ul,MW _ _ d7,by rw[List.length_map];show 1+_≤_;omega,fun R2 gP=>?_⟩
     have r3:=au.new (o:= .lst ([.ref p']++PV.map V.ref)) gP
     have Ru:=MW.trans r3
     refine hN _ _ ⟨L2,R2,xs++[(mo,o2),(1,o2)],[(mo+1,o2)]++ys,rfl,⟨Ez++[p,p1],?_,?_⟩,⟨[p']++PV,?_,?_⟩,hG.b Zr (aV o2 Zr) mo1 mo4,e8.trans Ru⟩
     ·rw[List.map_append]
      exact r3 _ _ (r2 _ _ Ug)
     ·exact jC (aw (fun a z h=>h.same Ru) HW) (.cons ⟨t2,r3 _ _ (r2 _ _ Ui),HV.same (e8.trans Ru)⟩ (.cons ⟨t2,r3 _ _ (r2 _ _ Up),HV.same (e8.trans Ru)⟩ .nil))
     ·rw[List.map_append]
      exact aa
     ·exact .cons ⟨t2,r3 _ _ Uk,HV.same (e8.trans Ru)⟩ (aw (fun a z h=>h.same Ru) HX)
    ·exact hN _ _ ⟨L,R0,xs,ys,rfl,xF,xG,Um,e8⟩
   clear xF xG Um hG5
   rintro σ' H9 ⟨L,R0,xs,ys,rfl,xF,xG,Um,e9⟩
   refine⟨_,rfl,_,_,rfl,rfl,⟨by decide,by decide⟩,_,_,rfl,rfl,(by show (0 :Int) <2;decide),rfl,_,rfl,fu (fun ev=>?_) fun ev=>?_⟩
   ·exact⟨_,rfl,_,rfl,(by show 2≤sizeLine;decide),fun t hT=>q t R0 L ys xs _ aa (xG.same (au.new hT)) (xF.same (au.new hT)) Um.swap (e9.trans (au.new hT))⟩
   ·exact⟨_,rfl,_,rfl,(by show 2≤sizeLine;decide),fun t hT=>q t L R0 xs ys _ aa (xF.same (au.new hT)) (xG.same (au.new hT)) Um (e9.trans (au.new hT))⟩
theorem eU(c:Int)(all:List (Key×V)):∀(l acc:List (Key×V)),(∀q∈l,q.1∈acc.map (·.1))→(fW c acc l all).map (·.1)=acc.map (·.1)
 | [],_,_=>rfl
 |p::r,acc,h=>by
  have e:(cC acc p.1 (c*aM all p.1)).map (·.1)=acc.map (·.1):=by
   unfold cC
   rw[qW]
   unfold jO
   rw[if_pos (h p (List.mem_cons_self ..))]
  have:=eU c all r (cC acc p.1 (c*aM all p.1)) fun q hq=>by rw[e];exact h q (List.mem_cons_of_mem _ hq)
  rw[e] at this
  exact this
theorem Uq(t:Int)(k:Key):∀(as:List (Str×Int)) (acc:List (Key×V)),aM (a9 t acc as) k=aM acc k+t*aM (a9 1 [] as) k:=by
 have key:∀(t:Int) (as:List (Str×Int)) (acc:List (Key×V)),aM (a9 t acc as) k=aM acc k+t*(as.map fun p=>if (Sum.inr p.1 :Key)=k then p.2 else 0).sum:=by
  intro t as
  induction as with
  |nil=>intro acc;show aM acc k=_;simp
  |cons p r ih=>
   intro acc
   show aM (a9 t (cC acc (Sum.inr p.1) (p.2*t)) r) k=_
   rw[ih,By,List.map_cons,List.sum_cons,Int.mul_add,Int.add_assoc]
   congr 2
   split
   ·rw[Int.mul_comm]
   ·rw[Int.mul_zero]
 intro as acc
 rw[key t as acc,key 1 as []]
 show _=_+t*(0+1*_)
 rw[Int.zero_add,Int.one_mul]
theorem Ur{KV:List (Key×V)}(hI:bu KV)(k:Key):aM (rO KV KV) k=aM KV k:=by
 cases e:bW (rO KV KV) k with
 |some v=>
  have hm:=fS e
  obtain⟨q,_,eq'⟩:=List.mem_map.mp hm
  injection eq' with e1 e2
  rw[←e2] at e
  rw[dB e,e1]
 |none=>
  rw[eC e]
  refine Classical.byContradiction fun z=>?_
  have sN:k∈KV.map (·.1):=Classical.byContradiction fun h=>z (mZ h).symm
  obtain⟨q,hq,rfl⟩:=List.mem_map.mp sN
  refine ml e (List.mem_map.mpr ⟨(q.1,V.int (aM KV q.1)),List.mem_map.mpr ⟨q,List.mem_filter.mpr ⟨hq,decide_eq_true fun h=>z h.symm⟩,rfl⟩,rfl⟩)
theorem xi(xs ys:List Tm)(k:Key):aM (ig xs ys) k=aM (aI ys) k - aM (aI xs) k:=by
 have e:aM (ig xs ys) k=aM (uO xs ys) k:=Ur (BY xs ys) k
 rw[e]
 show aM (a9 (-1) (aI ys) (fV xs)) k=_
 rw[Uq]
 show _+ -1*aM (aI xs) k=_
 omega
def InK(am:List (Key×V))(xs ys:List Tm):Prop:=(∀q∈aI xs,q.1∈am.map (·.1))∧∀q∈aI ys,q.1∈am.map (·.1)
theorem u6{am:List (Key×V)}{xs ys:List Tm}(h:InK am xs ys):∀t,(lH am xs ys t).map (·.1)=am.map (·.1)
 |0=>rfl
 |t+1=>by
  have ih:=u6 h t
  have e1:=eU (-1) (aI xs) (aI xs) (lH am xs ys t) (by rw[ih];exact h.1)
  have e2:=eU 1 (aI ys) (aI ys) (fW (-1) (lH am xs ys t) (aI xs) (aI xs)) (by rw[e1,ih];exact h.2)
  show (fW 1 _ _ _).map _=_
  rw[e2,e1,ih]
theorem oR(xs:List Tm):((aI xs).map (·.1)).Nodup:=iH _
theorem walk_z(am:List (Key×V))(xs ys:List Tm)(k:Key):∀t:Nat,aM (lH am xs ys t) k=aM am k+t*(aM (aI ys) k - aM (aI xs) k)
 |0=>by show aM am k=_;simp
 |t+1=>by
  show aM (fW 1 _ _ _) k=_
  rw[oK 1 (oR ys),oK (-1) (oR xs),walk_z am xs ys k t]
  push_cast
  rw[Int.add_mul]
  omega
theorem HY{am:List (Key×V)}{xs ys:List Tm}(h:InK am xs ys):∀q∈ig xs ys,q.1∈am.map (·.1):=fun q hq=>by
 have h1:=(yN (uO xs ys) (uO xs ys)).mem (List.mem_map_of_mem (f:=(·.1)) hq)
 obtain⟨q',tj,e⟩:=List.mem_map.mp h1
 rw[←e]
 refine k8 (Pk:=fun j=>j∈am.map (·.1)) (-1) (fV xs) (aI ys) h.2 (fun p hp=>?_) q' tj
 have:=AR 1 (fV xs) [] hp
 obtain⟨q2,h2,e2⟩:=List.mem_map.mp this
 rw[←e2]
 exact h.1 q2 h2
theorem Us(xs ys:List Tm):((ig xs ys).map (·.1)).Nodup:=G5 _ (G6 xs ys)
theorem r8(am:List (Key×V))(xs ys:List Tm)(T:Int)(k:Key):aM (cX am xs ys T) k=aM am k+T*aM (ig xs ys) k:=oK T (Us xs ys) am k
theorem EA{am:List (Key×V)}{xs ys:List Tm}(hI:bu am)(hn:(am.map (·.1)).Nodup)(h:InK am xs ys)(t:Nat):lH am xs ys t=cX am xs ys t:=by
 have k1:=u6 h t
 have k2:(cX am xs ys t).map (·.1)=am.map (·.1):=eU _ _ _ _ (HY h)
 refine mY (y' xs ys hI t) (cR _ _ _ _ hI) (by rw[k1];exact hn) (by rw[k1,k2]) fun k=>?_
 rw[walk_z]
 rw[r8,xi]
theorem xj{th tk:List (Key×V)}:∀{l:List (Key×V)},(∀q∈l,aM tk q.1≤aM th q.1)→gF th tk l=none
 | [],_=>rfl
 |p::r,h=>by
  rw[ik,if_neg (by have:=h p (List.mem_cons_self ..);omega)]
  exact xj fun q hq=>h q (List.mem_cons_of_mem _ hq)
theorem u7{th tk:List (Key×V)}{k:Key}{l':Int}:∀{l:List (Key×V)},gF th tk l=some (k,l')→∃q∈l,q.1=k∧l'=aM tk k - aM th k∧0<l'
 | [],h=>by cases h
 |p::r,h=>by
  rw[ik] at h
  split at h
  ·rename_i c
   injection h with h
   injection h with h1 h2
   refine⟨p,List.mem_cons_self ..,h1,by rw[←h1,←h2],by rw[←h2];exact c⟩
  ·obtain⟨q,hq,z⟩:=u7 h
   exact⟨q,List.mem_cons_of_mem _ hq,z⟩
theorem sf{a t g:Int}(h:xC a t g=none)(j:Nat):t≤a+j*g:=by
 unfold xC at h
 split at h
 ·cases h
 ·split at h
  ·rename_i h1 h2
   have:=Int.mul_nonneg (Int.natCast_nonneg j) h2
   omega
  ·cases h
theorem nz{a t g T:Int}(h:xC a t g=some T):0≤T∧(∀j:Int,0≤j→j<T→t≤a+j*g)∧a+T*g<t:=by
 unfold xC at h
 split at h
 ·injection h with h
  subst h
  exact⟨Int.le_refl _,fun j h1 h2=>by omega,by omega⟩
 ·split at h
  ·cases h
  ·rename_i h1 h2
   injection h with h
   have gp:0< -g:=by omega
   have q0:0≤(a - t) /(-g):=Int.ediv_nonneg (by omega) (by omega)
   refine⟨by omega,fun j j0 j1=>?_,?_⟩
   ·have e1:=Int.ediv_mul_le (a - t) (b:= -g) (by omega)
    have e2:j*(-g)≤(a - t) /(-g)*(-g):=Int.mul_le_mul_of_nonneg_right (by omega) (by omega)
    rw[Int.mul_neg] at e2
    omega
   ·have e1:=Int.lt_ediv_add_one_mul_self (a - t) gp
    rw[h,Int.mul_neg] at e1
    omega
theorem kA:∀{l:List (Option Int)},eP l=none→∀o∈l,o=none
 | [],_,o,ho=>by cases ho
 |none::r,h,o,ho=>by
  rcases List.mem_cons.mp ho with z|z
  ·exact z
  ·exact kA (l:=r) h o z
 |some i::r,h,o,ho=>by
  have h:(match eP r with|none=>some i|some j=>some (if j<i then j else i))=none:=h
  cases e:eP r with
  |none=>rw[e] at h;cases h
  |some j=>rw[e] at h;cases h
theorem iL:∀{l:List (Option Int)} {T:Int},eP l=some T→some T∈l∧∀i,some i∈l→T≤i
 | [],_,h=>by cases h
 |none::r,T,h=>by
  obtain⟨h1,h2⟩:=iL (l:=r) h
  refine⟨List.mem_cons_of_mem _ h1,fun i hi=>?_⟩
  rcases List.mem_cons.mp hi with z|z
  ·cases z
  ·exact h2 i z
 |some i::r,T,h=>by
  have h:(match eP r with|none=>some i|some j=>some (if j<i then j else i))=some T:=h
  cases e:eP r with
  |none=>
   rw[e] at h
   injection h with h
   subst h
   refine⟨List.mem_cons_self ..,fun j hj=>?_⟩
   rcases List.mem_cons.mp hj with z|z
   ·injection z with z;omega
   ·have:=kA e _ z
    cases this
  |some j=>
   rw[e] at h
   injection h with h
   obtain⟨h1,h2⟩:=iL e
   refine⟨?_,fun k hk=>?_⟩
   ·rw[←h]
    split
    ·exact List.mem_cons_of_mem _ h1
    ·exact List.mem_cons_self ..
   ·rw[←h]
    rcases List.mem_cons.mp hk with z|z
    ·injection z with z
     split<;>omega
    ·have:=h2 k z
     split<;>omega
theorem AV{am:List (Key×V)}{xs ys:List Tm}{n:Nat}(h:b9 am xs ys n=none)(j:Nat)(hj:j<n):gF (lH am xs ys j) (aI xs) (aI xs)=none:=by
 refine xj fun q hq=>?_
 rw[walk_z]
 unfold b9 at h
 cases e:uW am xs ys with
 |none=>
  have:=kA e _ (List.mem_map_of_mem hq)
  have:=sf this j
  rw[xi] at this
  exact this
 |some T=>
  rw[e] at h
  obtain⟨h1,h2⟩:=iL e
  dsimp only at h
  by_cases c:(n:Int)≤T
  ·cases e2:xC (aM am q.1) (aM (aI xs) q.1) (aM (ig xs ys) q.1) with
   |none=>
    have:=sf e2 j
    rw[xi] at this
    exact this
   |some i=>
    have hi:=h2 i (by rw[←e2];exact List.mem_map_of_mem (f:=fun q=>xC (aM am q.1) (aM (aI xs) q.1) (aM (ig xs ys) q.1)) hq)
    have:=(nz e2).2.1 j (by omega) (by omega)
    rw[xi] at this
    exact this
  ·rw[if_neg c] at h
   exfalso
   obtain⟨q',tj,e3⟩:=List.mem_map.mp h1
   have hT:=nz e3
   have hl:gF (cX am xs ys T) (aI xs) (aI xs)=none:=by
    cases e4:gF (cX am xs ys T) (aI xs) (aI xs) with
    |none=>rfl
    |some p=>rw[e4] at h;cases h
   have:=oQ hl q' tj
   rw[r8] at this
   omega
theorem AW{am:List (Key×V)}{xs ys:List Tm}(hI:bu am)(hn:(am.map (·.1)).Nodup)(hk:InK am xs ys){n:Nat}{t:Int}{k:Key}{l:Int}(h:b9 am xs ys n=some (t,k,l)):
  ∃t':Nat,t=t'∧t'<n∧(∀j,j<t'→gF (lH am xs ys j) (aI xs) (aI xs)=none)∧gF (lH am xs ys t') (aI xs) (aI xs)=some (k,l):=by
 unfold b9 at h
 cases e:uW am xs ys with
 |none=>rw[e] at h;cases h
 |some T=>
  rw[e] at h
  obtain⟨h1,h2⟩:=iL e
  dsimp only at h
  by_cases c:(n:Int)≤T
  ·rw[if_pos c] at h;cases h
  rw[if_neg c] at h
  obtain⟨q',tj,e3⟩:=List.mem_map.mp h1
  have hT:=nz e3
  obtain⟨t',rfl⟩:=Int.eq_ofNat_of_zero_le hT.1
  cases e4:gF (cX am xs ys t') (aI xs) (aI xs) with
  |none=>rw[e4] at h;cases h
  |some p=>
   rw[e4] at h
   injection h with h
   injection h with h3 h4
   injection h4 with h5 h6
   refine⟨t',h3.symm,by omega,fun j hj=>xj fun q hq=>?_,?_⟩
   ·rw[walk_z]
    cases e2:xC (aM am q.1) (aM (aI xs) q.1) (aM (ig xs ys) q.1) with
    |none=>
     have:=sf e2 j
     rw[xi] at this
     exact this
    |some i=>
     have hi:=h2 i (by rw[←e2];exact List.mem_map_of_mem (f:=fun q=>xC (aM am q.1) (aM (aI xs) q.1) (aM (ig xs ys) q.1)) hq)
     have:=(nz e2).2.1 j (by omega) (by omega)
     rw[xi] at this
     exact this
   ·rw[EA hI hn hk t',e4,←h5,←h6]
theorem xk:ay ["count"] ["count"] (aj iy):=dA
theorem si(D:Def K mg "count_shown" "count_shown" iy ["count"])(T:pD K mg C):bj P w K mg base 1 "count_shown" ["count"] ka:=by
 refine D.dh xk (fun vs H Q E h=>?_) (fun f bp A outer s H vs Q E hr h=>?_)
 ·obtain⟨n,rfl,_⟩:=h
  rfl
 ·obtain⟨n,rfl,h1,h2,k⟩:=h
  refine⟨_,(ai
     (bN (aO d9 (pv 0) aq (aX _))
      (ao
       (aE bH))
      aY)
    (ao
     (aE (bI jf rfl T.Gd zV (af (pv 0) ak))))),?_⟩
  refine⟨_,rfl,rfl,_,rfl,fu (fun e=>?_) fun e=>?_⟩
  ·have e:n=1:=by simpa using e
   subst e
   exact k
  ·have e:¬n=1:=by simpa using e
   refine⟨_,rfl,_,rfl,tM (by omega) (by omega),?_⟩
   unfold eY at k
   rw[if_neg e] at k
   exact k
theorem LH:ay ["self"] ["self"] (aj vP):=dA
theorem HZ(D:bg K C "shown" "Atom.shown" vP ["self"])(T:pD K mg C)(c1:bj P w K mg base 1 "count_shown" ["count"] ka):aK P w K mg base 2 C "shown" ["self"] (we C):=by
 obtain⟨_,_,aW⟩:=c1
 refine D.dh LH (fun vs H Q E h=>?_) (fun f bp A outer s H vs Q E hr h=>?_)
 ·obtain⟨p,k,n,rfl,_⟩:=h
  rfl
 ·obtain⟨p,k,n,rfl,⟨dx,hp⟩,hk,h1,h2,q⟩:=h
  refine⟨_,(ao
     (aE (aA bz (a5 (pv 0) rfl) (aJ aW.ok (hr.mono (by decide)) rfl aW.g aW.kp aW.b .nil az (af (a5 (pv 0) rfl) ak))))),?_⟩
  refine⟨_,rfl,p,C,dx,_,_,rfl,hp,T.gA,T.wg,tW _ _,_,rfl,p,C,dx,_,_,rfl,hp,T.gA,T.qV,qT _ _,n,rfl,h1,h2,_,_,rfl,rfl,?_,q⟩
  have:=g9 h1 h2
  have:(100 :Nat)≤sizeLine:=by decide
  omega
variable {uC uP uI uD uL uT fb fe fg uG uS:Tok}{Ch HE Sh St:Addr}
theorem jJ{xs:List Tm}(h:∀x∈xs,oE 100000000000 x)(h8:xs.length≤8)(k:Key):0≤aM (aI xs) k∧aM (aI xs) k≤800000000000:=by
 have hP:Pos (aI xs):=xh _ _ (fun q hq=>by cases hq) fun p hp=>by
  obtain⟨z,hz,rfl⟩:=List.mem_map.mp hp
  exact(h z hz).1
 refine⟨hP.nonneg k,?_⟩
 have a1:=qb 1 100000000000 k (by decide) (fV xs) [] 0 (fun p hp=>by
  obtain⟨z,hz,rfl⟩:=List.mem_map.mp hp
  have b1:=(h z hz).1
  have b2:=(h z hz).2.1
  show -100000000000≤z.1*1∧z.1*1≤100000000000
  omega) (Int.le_refl _) (Int.le_refl _)
 have e:(fV xs).length=xs.length:=by unfold fV;rw[List.length_map]
 rw[e] at a1
 show aM (a9 1 [] (fV xs)) k≤_
 omega
theorem zo{ws:List Fm}{xs:List Tm}(h:∀x∈xs,HU ws x):∀q∈aI xs,∃s,q.1=Sum.inr s∧Told ws s:=
 k8 (Pk:=fun j=>∃s,j=Sum.inr s∧Told ws s) 1 (fV xs) [] (fun q hq=>by cases hq) fun p hp=>by
  obtain⟨z,hz,rfl⟩:=List.mem_map.mp hp
  exact⟨_,rfl,(h z hz).2⟩
structure PY(ws:List Fm)(am:List (Key×V)):Prop where
 int:bu am
 nd:(am.map (·.1)).Nodup
 told:pf ws am
 all:∀s,Told ws s→(Sum.inr s:Key)∈am.map (·.1)
 nn:∀k,0≤aM am k
 len:am.length≤30
def Lo(l:List Nat):Prop:=∀c∈l,c<128
theorem Lo.app{a b:List Nat}(ha:Lo a)(hb:Lo b):Lo (a++b):=fun c hc=>by
 rcases List.mem_append.mp hc with z|z
 ·exact ha c z
 ·exact hb c z
theorem Lo.cons{a:Nat}{b:List Nat}(ha:a<128)(hb:Lo b):Lo (a::b):=fun c hc=>by
 rcases List.mem_cons.mp hc with z|z
 ·rw[z];exact ha
 ·exact hb c z
theorem Lo.nil:Lo []:=fun c hc=>by cases hc
theorem Lo.flat{α:Type}{f:α→List Nat}{l:List α}(h:∀x∈l,Lo (f x)):Lo (l.flatMap f):=fun c hc=>by
 obtain⟨x,hx,hc⟩:=List.mem_flatMap.mp hc
 exact h x hx c hc
theorem sj{n:Int}(h:0≤n):Lo (aP n):=fun c hc=>by
 obtain⟨m,rfl⟩:=Int.eq_ofNat_of_zero_le h
 have:=List.all_eq_true.mp (pU m) c hc
 unfold xy at this
 simp at this
 omega
theorem LI{k:List Nat}(h:lT k):Lo k:=by
 obtain⟨c,r,rfl,hc,hr,_⟩:=h
 refine Lo.cons (by unfold ET at hc;simp at hc;omega) fun x hx=>?_
 have:=List.all_eq_true.mp hr x hx
 unfold ES at this
 simp at this
 omega
theorem xl:∀(d:Nat) (t:Tr),uc d t→Lo (ck d t)
 |d, .one k n,h=>by
  have h:lT k∧1≤n∧n≤999:=by cases d<;>exact h
  have e:ck d (.one k n)=k++aP n:=by cases d<;>rfl
  rw[e]
  exact(LI h.1).app (sj (by omega))
 |0, .gr _ _,h=>h.elim
 |d+1, .gr ts n,h=>by
  obtain⟨_,h1,n1,_⟩:=h
  show Lo (40::(ts.flatMap (ck d)++41::aP n))
  exact Lo.cons (by decide) ((Lo.flat fun t ht=>xl d t (h1 t ht)).app (Lo.cons (by decide) (sj (by omega))))
theorem Ut{x:Fm}(h:cV x):Lo (fL x):=by
 obtain⟨h,_,_⟩:=h
 obtain⟨xs,n⟩:=x
 cases xs with
 |nil=>exact Lo.cons (by decide) (Lo.cons (by decide) (Lo.cons (by decide) Lo.nil))
 |cons y r=>
  obtain⟨_,h2,n1,n2⟩:=h
  have h2:∀z∈y::r,FU 1 z:=h2
  show Lo (y.2.flatMap (ck 1)++(cU 1 r++i9 n))
  refine(Lo.flat fun t ht=>xl 1 t ((h2 y (List.mem_cons_self ..)).2.1 t ht)).app ((Lo.flat fun z hz=>?_).app ?_)
  ·have oz:=h2 z (List.mem_cons_of_mem _ hz)
   exact Lo.cons (by decide) ((sj (by have:=oz.2.2.1;omega)).app (Lo.flat fun t ht=>xl 1 t (oz.2.1 t ht)))
  ·unfold i9
   split
   ·exact Lo.nil
   ·refine Lo.cons (by decide) ((sj (by split<;>omega)).app (Lo.cons (by split<;>decide) Lo.nil))
theorem MX{B:Int}{x:Tm}(h:oE B x):Lo (gR x):=by
 unfold gR
 refine(sj (by have:=h.1;omega)).app (Lo.app ?_ (Ut h.2.2))
 unfold x4
 split
 ·exact Lo.nil
 ·exact Lo.cons (by decide) Lo.nil
theorem MY{B:Int}:∀{xs:List Tm},(∀x∈xs,oE B x)→Lo (sC xs)
 | [],_=>Lo.nil
 |x::r,h=>(MX (h x (List.mem_cons_self ..))).app (Lo.flat fun y hy=>(Lo.cons (by decide) (Lo.cons (by decide) (Lo.cons (by decide) Lo.nil))).app (MX (h y (List.mem_cons_of_mem _ hy))))
theorem Ia{x:Str}(h:Lo x.cps.toList):PyData.strOk x=true:=by
 show x.cps.all (· <0x110000)=true
 rw[←Array.all_toList,List.all_eq_true]
 intro c hc
 have:=h c hc
 exact decide_eq_true (by omega)
theorem PZ{x:Str}{xs ys:List Tm}(h:AM x xs ys):PyData.strOk x=true:=by
 obtain⟨h1,_,_,h2,h3,_⟩:=h
 refine Ia ?_
 rw[h1]
 exact((MY h2).app (Lo.cons (by decide) (Lo.cons (by decide) (Lo.cons (by decide) (Lo.cons (by decide) Lo.nil))))).app (MY h3)
theorem LJ{rs:List bU}(h:∀r∈rs,PyData.strOk r.x=true):SeqAt.shaped (ph rs)=true∧PyData.eqv (ph rs) (ph rs)=true:=by
 have hc:(ph rs).canLay0=true:=by
  unfold ph
  rw[PyData.canLay0]
  exact qI _ rs fun r hr=>by simp [PyData.canLay0,PyData.canLayAll0,h r hr]
 refine⟨Dn hc ?_,x' _ hc⟩
 have:∀l:List bU,PyData.depthAll (l.map fun r=>PyData.tuple [.str r.x, .int r.m])≤5:=fun l=>by
  induction l with
  |nil=>simp [PyData.depthAll]
  |cons r l ih=>simp [PyData.depthAll,PyData.depth];omega
 have:=this rs
 simp only [ph,PyData.depth]
 omega
def kB(rs:List bU)(k:Key):Int:=(rs.map fun r=>r.m*aM (ig r.xs r.ys) k).sum
theorem qe(k:Key):kB [] k=0:=rfl
theorem kD(r:bU)(rs:List bU)(k:Key):kB (r::rs) k=r.m*aM (ig r.xs r.ys) k+kB rs k:=by
 unfold kB
 rw[List.map_cons,List.sum_cons]
theorem qf(as bs:List bU)(k:Key):kB (as++bs) k=kB as k+kB bs k:=by
 unfold kB
 rw[List.map_append,List.sum_append]
theorem xm(r:bU)(rs:List bU)(i:Nat)(k:Key):kB (rs.take i++r::rs.drop i) k=r.m*aM (ig r.xs r.ys) k+kB rs k:=by
 have e:=qf (rs.take i) (rs.drop i) k
 rw[List.take_append_drop] at e
 rw[qf,kD,e]
 omega
structure sW(ws:List Fm)(r:bU):Prop where
 g:sH ws 8 r.xs r.ys
 x:r.x=Txt.join " -> " [o9 r.xs,o9 r.ys]
 m0:0≤r.m
 m1:r.m≤20
theorem sW.ev{ws:List Fm}{r:bU}(h:sW ws r):AM r.x r.xs r.ys:=by rw[h.x];exact h.g.ev
theorem AX{ws:List Fm}{am:List (Key×V)}(h:∀s,Told ws s→(Sum.inr s:Key)∈am.map (·.1)){xs ys:List Tm}(hG:sH ws 8 xs ys):InK am xs ys:=
 ⟨fun q hq=>by obtain⟨s,e,t⟩:=zo hG.2.2.1 q hq;rw[e];exact h s t,fun q hq=>by obtain⟨s,e,t⟩:=zo hG.2.2.2.1 q hq;rw[e];exact h s t⟩
theorem ip{ws:List Fm}:∀{rs:List bU} {am:List (Key×V)},(∀s,Told ws s→(Sum.inr s:Key)∈am.map (·.1))→(∀r∈rs,sW ws r)→(cz am rs).map (·.1)=am.map (·.1)
 | [],_,_,_=>rfl
 |r::l,am,h,ok=>by
  have k1:(cX am r.xs r.ys r.m).map (·.1)=am.map (·.1):=eU _ _ _ _ (HY (AX h (ok r (List.mem_cons_self ..)).g))
  have:=ip (rs:=l) (am:=cX am r.xs r.ys r.m) (fun s hs=>by rw[k1];exact h s hs) fun r' oM=>ok r' (List.mem_cons_of_mem _ oM)
  show (cz (cX am r.xs r.ys r.m) l).map _=_
  rw[this,k1]
theorem LK(k:Key):∀(rs:List bU) (am:List (Key×V)),aM (cz am rs) k=aM am k+kB rs k
 | [],am=>by rw[qe,Int.add_zero];rfl
 |r::l,am=>by
  show aM (cz (cX am r.xs r.ys r.m) l) k=_
  rw[LK k l,r8,kD]
  omega
theorem nB{kvs:List (Key×V)}(rs:List bU)(h:bu kvs):bu (cz kvs rs):=by
 have:=oN rs rs.length h
 rwa [List.take_length] at this
theorem Ic{ws:List Fm}(k:Key):∀{rs:List bU},(∀r∈rs,sW ws r)→ -((rs.length:Int)*16000000000000)≤kB rs k
 | [],_=>by rw[qe];decide
 |r::l,h=>by
  have ih:=Ic k (rs:=l) fun r' oM=>h r' (List.mem_cons_of_mem _ oM)
  have hr:=h r (List.mem_cons_self ..)
  obtain⟨_,_,h3,h4,h5,_⟩:=hr.g
  have b1:=jJ (fun x hx=>(h3 x hx).1) (by omega) k
  have b2:=jJ (fun x hx=>(h4 x hx).1) (by omega) k
  have m1:r.m*aM (aI r.xs) k≤20*800000000000:=Int.mul_le_mul hr.m1 b1.2 b1.1 (by decide)
  have m2:0≤r.m*aM (aI r.ys) k:=Int.mul_nonneg hr.m0 b2.1
  rw[kD,xi,Int.mul_sub,List.length_cons]
  push_cast
  rw[Int.add_mul]
  omega
theorem LL{am:List (Key×V)}{xs ys:List Tm}{m:Int}(h0:∀k,0≤aM am k)(hy:∀k,0≤aM (aI ys) k)(m0:0≤m)(hs:b9 am xs ys m=none)(k:Key):0≤aM (cX am xs ys m) k:=by
 obtain⟨n,rfl⟩:=Int.eq_ofNat_of_zero_le m0
 rw[r8,xi]
 have h0k:=h0 k
 have hyk:=hy k
 cases n with
 |zero=>simpa using h0k
 |succ n=>
  by_cases hk:k∈(aI xs).map (·.1)
  ·obtain⟨q,hq,rfl⟩:=List.mem_map.mp hk
   have:=oQ (AV hs n (Nat.lt_succ_self n)) q hq
   rw[walk_z] at this
   push_cast
   rw[Int.add_mul]
   omega
  ·rw[mZ hk,Int.sub_zero]
   have:=Int.mul_nonneg (Int.natCast_nonneg (n+1)) hyk
   omega
theorem Ie{ws:List Fm}:∀(rs:List bU) (am:List (Key×V)),(∀k,0≤aM am k)→(∀r∈rs,sW ws r)→(∀i r,rs[i]? =some r→b9 (cz am (rs.take i)) r.xs r.ys r.m=none)→∀k,0≤aM (cz am rs) k
 | [],_,h,_,_=>h
 |r::l,am,h,ok,hs=>by
  have hr:=ok r (List.mem_cons_self ..)
  obtain⟨_,_,_,h4,h5,_⟩:=hr.g
  refine Ie l (cX am r.xs r.ys r.m) (LL h (fun k=>(jJ (fun x hx=>(h4 x hx).1) (by omega) k).1) hr.m0 (hs 0 r rfl)) (fun r' oM=>ok r' (List.mem_cons_of_mem _ oM)) fun i r' hi=>?_
  exact hs (i+1) r' hi
theorem AY{ws:List Fm}{am:List (Key×V)}(hI:bu am)(hn:(am.map (·.1)).Nodup){xs ys:List Tm}(hG:sH ws 8 xs ys)(hk:InK am xs ys)(lo:∀k, -(10^40)≤aM am k){m:Int}(m0:0≤m)(m1:m≤20){t:Int}{k:Key}{l:Int}(hs:b9 am xs ys m=some (t,k,l)):0≤t+1∧t+1<10^60∧0≤l∧l<10^60:=by
 obtain⟨n,rfl⟩:=Int.eq_ofNat_of_zero_le m0
 obtain⟨h1,h2,h3,h4,h5,h6⟩:=hG
 obtain⟨t',rfl,ht,_,hl⟩:=AW hI hn hk hs
 obtain⟨q,hq,e1,e2,e3⟩:=u7 hl
 have b1:=jJ (fun x hx=>(h3 x hx).1) (by omega) k
 have b2:=jJ (fun x hx=>(h4 x hx).1) (by omega) k
 have b3:=lo k
 rw[walk_z,Int.mul_sub] at e2
 have m1:(0 :Int)≤t'*aM (aI ys) k:=Int.mul_nonneg (Int.natCast_nonneg _) b2.1
 have m2:(t':Int)*aM (aI xs) k≤20*800000000000:=Int.mul_le_mul (by omega) b1.2 b1.1 (by decide)
 refine⟨by omega,by omega,by omega,?_⟩
 omega
theorem Ig{ws:List Fm}{kvs:List (Key×V)}{rs:List bU}(hA:PY ws kvs)(hR:∀r∈rs,sW ws r)(hl:rs.length≤12){i:Nat}{r:bU}{t:Int}{k:Key}{l:Int}(hi:rs[i]? =some r)(hs:b9 (cz kvs (rs.take i)) r.xs r.ys r.m=some (t,k,l)):0≤t+1∧t+1<10^60∧0≤l∧l<10^60:=by
 have LM:∀r∈rs.take i,sW ws r:=fun r hr=>hR r (List.mem_of_mem_take hr)
 have hk:=ip hA.all LM
 have hr:=hR r (List.mem_of_getElem? hi)
 refine AY (oN rs i hA.int) (by rw[hk];exact hA.nd) hr.g (AX (fun s hs=>by rw[hk];exact hA.all s hs) hr.g) (fun k=>?_) hr.m0 hr.m1 hs
 have h1:=Ic k LM
 have h2:=hA.nn k
 have h3:(rs.take i).length≤12:=by rw[List.length_take];omega
 rw[LK]
 omega
theorem LN{ws:List Fm}{kvs D:List (Key×V)}{rs:List bU}(hA:PY ws kvs)(hR:∀r∈rs,sW ws r)(hI:bu D)(hk:D.map (·.1)=kvs.map (·.1))(hz:∀k,aM D k=aM kvs k+kB rs k):D=cz kvs rs:=
 mY hI (nB rs hA.int) (by rw[hk];exact hA.nd) (by rw[hk,ip hA.all hR]) fun k=>by rw[hz,LK]
theorem nC{ws:List Fm}{kvs:List (Key×V)}{rs:List bU}(hA:PY ws kvs)(hR:∀r∈rs,sW ws r):(cz kvs rs).length=kvs.length:=by
 have:=congrArg List.length (ip hA.all hR)
 rwa [List.length_map,List.length_map] at this
theorem xn{ws:List Fm}{kvs:List (Key×V)}{rs:List bU}(hA:PY ws kvs)(hR:∀r∈rs,sW ws r):((cz kvs rs).map (·.1)).Nodup:=by rw[ip hA.all hR];exact hA.nd
theorem zp(kvs:List (Key×V)){rs:List bU}{i:Nat}{r:bU}(hi:rs[i]? =some r):cz kvs (rs.take (i+1))=cX (cz kvs (rs.take i)) r.xs r.ys r.m:=by
 rw[take_snoc hi]
 unfold cz
 rw[List.foldl_append]
 rfl
variable {uC uP uI uD uL uT fb fe fg uG uS:Tok}{Ch HE Sh St:Addr}
def Ih(H:Hp)(t:Addr)(xs ys:List Tm):Prop:=∃l r,H t=some (.tup [.ref l, .ref r])∧bT H l xs∧bT H r ys
theorem Ih.same{H H':Hp}{t:Addr}{xs ys:List Tm}(h:Ih H t xs ys)(e:au H H'):Ih H' t xs ys:=let ⟨l,r,h1,h2,h3⟩:=h;⟨l,r,e _ _ h1,h2.same e,h3.same e⟩
def oS(H:Hp)(t:Addr)(r:bU):Prop:=∃t0,H t=some (.tup [.ref t0, .int r.m])∧Ih H t0 r.xs r.ys
theorem oS.same{H H':Hp}{t:Addr}{r:bU}(h:oS H t r)(e:au H H'):oS H' t r:=let ⟨t0,h1,h2⟩:=h;⟨t0,e _ _ h1,h2.same e⟩
def Ii(D:Addr)(H:Hp)(t:Addr)(r:bU):Prop:=∃t0 l u,l≠D∧u≠D∧H t=some (.tup [.ref t0, .int r.m])∧H t0=some (.tup [.ref l, .ref u])∧bT H l r.xs∧bT H u r.ys
theorem Ii.at{D:Addr}{H:Hp}{t:Addr}{r:bU}(h:Ii D H t r):oS H t r:=let ⟨t0,l,u,_,_,h1,h2,h3,h4⟩:=h;⟨t0,h1,l,u,h2,h3,h4⟩
theorem Ii.same{D:Addr}{H H':Hp}{t:Addr}{r:bU}(h:Ii D H t r)(e:au H H'):Ii D H' t r:=let ⟨t0,l,u,n1,n2,h1,h2,h3,h4⟩:=h;⟨t0,l,u,n1,n2,e _ _ h1,e _ _ h2,h3.same e,h4.same e⟩
theorem bT.but{D:Addr}{H H':Hp}{ys:List V}{l:Addr}{xs:List Tm}(hD:H D=some (.lst ys))(e:∀b o,H b=some o→b≠D→H' b=some o)(hl:l≠D)(h:bT H l xs):bT H' l xs:=let ⟨ts,h1,h2⟩:=h;⟨ts,e _ _ h1 hl,aw (fun _ _ z=>z.but hD e) h2⟩
theorem Ii.but{D:Addr}{H H':Hp}{ys:List V}{t:Addr}{r:bU}(hD:H D=some (.lst ys))(e:∀b o,H b=some o→b≠D→H' b=some o)(h:Ii D H t r):Ii D H' t r:=
 let ⟨t0,l,u,n1,n2,h1,h2,h3,h4⟩:=h
 ⟨t0,l,u,n1,n2,e _ _ h1 (cG h1 hD (by intro z;cases z)),e _ _ h2 (cG h2 hD (by intro z;cases z)),h3.but hD e n1,h4.but hD e n2⟩
theorem Cz:∀{as bs:List Addr},as.map V.ref=bs.map V.ref→as=bs
 | [],[],_=>rfl
 | [],_::_,h=>by cases h
 |_::_,[],h=>by cases h
 |a::as,b::bs,h=>by
  rw[List.map_cons,List.map_cons] at h
  injection h with h1 h2
  injection h1 with h1
  rw[h1,Cz h2]
theorem CA{H:Hp}{D l:Addr}{ts:List Addr}{rs:List bU}{xs:List Tm}(hD:H D=some (.lst (ts.map V.ref)))(hP:Paired (Ii D H) ts rs)(hT:bT H l xs)(hx:xs≠[]):l≠D:=by
 rintro rfl
 obtain⟨us,hl,hP2⟩:=hT
 rw[hD] at hl
 injection hl with hl
 injection hl with hl
 have e:=Cz hl
 subst e
 cases hP2 with
 |nil=>exact hx rfl
 |cons h t=>
  obtain⟨f,h1,_⟩:=h
  cases hP with
  |cons h' t'=>
   obtain⟨t0,l0,u0,_,_,h2,_⟩:=h'
   rw[h1] at h2
   injection h2 with h2
   injection h2 with h2
   injection h2 with h2
   cases h2
inductive P0(K:PySem.W.Frag)(vs:List V)(H:Hp)(Q:VK)(E:XK):Prop
 |mk (a wl:Addr) (ns:List Int) (ws:List Fm) (dR:vs=[.ref a, .ref wl]) (dS:bJ K H a (ns.map V.int)) (dW:ns.length≤63) (eZ:jH H wl ws) (gz:(∀w∈ws,cV w)) (jb:(∀w∈ws,(cW 1 w.1).length≤3)) (nM:ws.length=3) (sy:∀L ts rs H',H' L=some (.lst (ts.map V.ref))→Paired (oS H') ts rs→(∀r∈rs,sW ws r)→rs.length≤6→au H H'→Q (.ref L) H')
def MZ(K:PySem.W.Frag):Sp:=P0 K
theorem Ij:ay ["_law_script","_law_world_here","_law_row_here","_law_cell"] ["_law_script","_law_world_here"] (aj Kw):=dA
theorem LO(ns:List Int):∃ms:List Int,vp (ns.map V.int) (some 16) (some 22)=ms.map V.int∧ms.length≤6:=by
 obtain⟨ms,e,_⟩:=FC ns (some 16) (some 22)
 refine⟨ms,e,?_⟩
 have:=congrArg List.length e
 unfold vp at this
 rw[List.length_take] at this
 simp only [List.length_map] at this
 have h1:HT.xw ns.length ns.length (some 22)≤HT.xw ns.length 0 (some 16)+6:=by
  unfold HT.xw
  simp
  omega
 omega
theorem P1(D:Def K mg "_law_row" "_law_row" Kw ["_law_script","_law_world_here"])(c1:bj P w K mg base 1 "_law_change" ["_law_cell","_law_world_here"] u5):bj P w K mg base 2 "_law_row" ["_law_script","_law_world_here"] (MZ K):=by
 obtain⟨_,_,jK⟩:=c1
 refine D.dh Ij (fun vs H Q E h=>?_) (fun f bp A outer s H vs Q E hr h=>?_)
 ·obtain⟨a,wl,ns,ws,rfl,_⟩:=h
  rfl
 ·obtain⟨a,wl,ns,ws,rfl,hS,hlen,hW,aV,xf,h3,q⟩:=h
  have big:(2000 :Nat)≤sizeLine:=by decide
  refine⟨_,(ai
     (aB (i:=2) Ij.nd rfl (Or.inl rfl) (cA ak))
    (ai
     (bO PassesOwn.never rfl (bX (jZ JX (pv 0) (fY aq) (fY aq))) (aD (i:=3) Ij.nd rfl (Or.inl rfl))
      (ao
       (bb (gD PySem.F.plainAttrs_list PySem.F.slot_list_append PySem.F.type_list_append dE (pv 2) (af (bQ (af (aJ jK.ok (hr.mono (by decide)) rfl jK.g jK.kp jK.b .nil az (af (aA b6 (aA cE (pv 3) aq) (aA E9 aq aq)) (af (pv 1) ak))) (af (aA b6 (pv 3) aq) ak))) ak)))))
    (ao
     (aE (pv 2))))),?_⟩
  refine⟨(by show 0≤sizeLine;decide),fun L hL=>?_⟩
  obtain⟨cs,ecs,lcs⟩:=LO ns
  have s1:=au.new (o:= .lst []) hL
  refine⟨_,rfl,16,rfl,22,rfl,a,_,rfl,s1.seq hS,fun p hp=>?_⟩
  rw[ecs]
  have s2:=s1.trans (au.new (o:= .lst (cs.map V.int)) hp)
  have pX:=au.new (o:= .lst (cs.map V.int)) hp _ _ (aa (H:=H) (a:=L) (o:= .lst []))
  have npL:p≠L:=Ne.symm (ag (aa (H:=H) (a:=L) (o:= .lst [])) hp)
  have Fh:(upd (upd H L (.lst [])) p (.lst (cs.map V.int))) p=some (.lst (cs.map V.int)):=aa
  generalize upd (upd H L (.lst [])) p (.lst (cs.map V.int))=H2 at s2 pX Fh ⊢
  refine⟨p,rfl,⟨_,bJ.of Fh⟩,c9 (K:=K) (a:=p) (xs:=cs.map V.int) (fun i σ H'=>∃(v3:Option V) (ts:List Addr) (rs:List bU),σ=[some (.ref a),some (.ref wl),some (.ref L),v3]∧H' p=some (.lst (cs.map V.int))∧H' L=some (.lst (ts.map V.ref))∧Paired (Ii L H') ts rs∧(∀r∈rs,sW ws r)∧rs.length=i∧au H H') ⟨none,[],[],rfl,Fh,pX, .nil,(fun r hr=>by cases hr),rfl,s2⟩ (fun i σ H' _ ⟨_,_,_,_,h2,_⟩=>bJ.of h2) ?_ ?_⟩
  ·rintro i x σ H' hi ⟨v3,ts,rs,rfl,sx,lA,hP,hR,hl,e⟩
   obtain⟨cell,rfl⟩:∃c:Int,x=V.int c:=by
    rw[List.getElem?_map] at hi
    cases hm:cs[i]? with
    |none=>rw[hm] at hi;cases hi
    |some k=>rw[hm] at hi;exact⟨k,(Option.some.inj hi).symm⟩
   have zt:i<6:=by
    have:=(List.getElem?_eq_some_iff.mp hi).1
    rw[List.length_map] at this
    omega
   have gH:=Paired.length hP
   refine⟨_,rfl, .inl ⟨rfl,_,bJ.of lA⟩,_,rfl,_,_,rfl,rfl,⟨by decide,by decide⟩,_,_,rfl,rfl,⟨by decide,by decide,by decide⟩,_,_,rfl,rfl,(by show (0 :Int) <10^(9 :Int).toNat;decide),_,rfl,_,wl,ws,rfl,hW.same e,aV,xf,h3,fun t0 l u xs ys H5 P2 xF xG hG e5=>?_⟩
   refine⟨_,rfl,_,_,rfl,rfl,(by show (0 :Int) <21;decide),(by show 2≤sizeLine;decide),fun t ht=>?_⟩
   have kn:=e5 _ _ lA
   have nl:l≠L:=CA kn (aw (fun _ _ z=>z.same e5) hP) xF hG.1
   have nu:u≠L:=CA kn (aw (fun _ _ z=>z.same e5) hP) xG hG.2.1
   have s6:=au.new (o:= .tup [.ref t0, .int (cell%21)]) ht
   have ht6:(upd H5 t (.tup [.ref t0, .int (cell%21)])) t=some (.tup [.ref t0, .int (cell%21)]):=aa
   have Zt:=e5.trans s6
   have DX:=s6 _ _ kn
   have Uv:=s6 _ _ P2
   have Uw:=xF.same s6
   have Ux:=xG.same s6
   generalize upd H5 t (.tup [.ref t0, .int (cell%21)])=H6 at s6 ht6 Zt DX Uv Uw Ux ⊢
   refine⟨L,_, .ref t,rfl,rfl,DX,by rw[List.length_map];omega,?_⟩
   have k7:∀b o,H6 b=some o→b≠L→(upd H6 L (.lst (ts.map V.ref++[V.ref t]))) b=some o:=fun b o z n=>by rw[ah n];exact z
   refine⟨_,ts++[t],rs++[⟨xs,ys,Txt.join " -> " [o9 xs,o9 ys],cell%21⟩],rfl,k7 _ _ (Zt _ _ sx) npL,by rw[aa,List.map_append];rfl,?_,fun r hr=>?_,by rw[List.length_append,hl];rfl,fun b o z=>k7 _ _ (Zt _ _ (e _ _ z)) (ag z hL)⟩
   ·have jj:Ii L H6 t ⟨xs,ys,Txt.join " -> " [o9 xs,o9 ys],cell%21⟩:=⟨t0,l,u,nl,nu,ht6,Uv,Uw,Ux⟩
    exact aw (fun _ _ z=>z.but DX k7) (bC jj (aw (fun _ _ z=>z.same Zt) hP))
   ·rcases List.mem_append.mp hr with z|z
    ·exact hR r z
    ·have er:r=⟨xs,ys,Txt.join " -> " [o9 xs,o9 ys],cell%21⟩:=by simpa using z
     rw[er]
     refine⟨hG,rfl,Int.emod_nonneg _ (by decide),?_⟩
     have:=Int.emod_lt_of_pos cell (b:=21) (by decide)
     show cell%21≤20
     omega
  ·rintro σ H' ⟨v3,ts,rs,rfl,sx,lA,hP,hR,hl,e⟩
   rw[List.length_map] at hl
   exact⟨_,rfl,q L ts rs H' lA (aw (fun _ _ z=>z.at) hP) hR (by omega) e⟩
variable {uC uP uI uD uL uT fb fe fg uG uS:Tok}{Ch HE Sh St:Addr}
structure Ik(K:PySem.W.Frag)(mg:Str→Option Value)(C R G Pc Fo St HE Sh:Addr)(uK uN uB uE uM uC uP uI uD uL uT:Tok):Prop extends rT K mg C R G Pc Fo St uK uN uB uE uM uC uP uI uD uL uT,Lq K mg HE Sh where
 kz:mg "enumerate" =none
 HB:mg "min" =none
 Il:PySem.W.Dt K Sh
 zq:PySem.W.mroIn K Sh (.ref Sh)=some true
theorem Im{n j:Nat}(h:j<n):JV n (j:Int)=some j:=by
 unfold JV
 rw[if_pos (by omega),if_pos (by omega)]
 congr 1
theorem l8{α β:Type}{p:α→β→Prop}{as:List α}{bs:List β}{a:α}{b:β}(k:Nat)(h:Paired p as bs)(x:p a b):Paired p (as.take k++a::as.drop k) (bs.take k++b::bs.drop k):=jC (o7 k h) (.cons x (o8 k h))
theorem ins_map{α β:Type}(f:α→β)(l:List α)(k:Nat)(x:α):(l.map f).take k++f x::(l.map f).drop k=(l.take k++x::l.drop k).map f:=by
 rw[List.map_append,List.map_cons,List.map_take,List.map_drop]
theorem LP{α:Type}(l:List α)(k:Nat)(h:k≤l.length)(x y:α):(l.take k++x::l.drop k).set k y=l.take k++y::l.drop k:=by
 have e:(l.take k).length=k:=by rw[List.length_take];omega
 rw[List.set_append_right _ _ (by omega),e,Nat.sub_self]
 rfl
theorem nE{α:Type}(l:List α)(k:Nat)(x:α):(l.take k++x::l.drop k).length=l.length+1:=by
 rw[List.length_append,List.length_cons,List.length_take,List.length_drop]
 omega
theorem xo{α:Type}{l:List α}{k:Nat}{x y:α}(h:y∈l.take k++x::l.drop k):y∈l∨y=x:=by
 rcases List.mem_append.mp h with z|z
 ·exact .inl (List.mem_of_mem_take z)
 ·rcases List.mem_cons.mp z with z|z
  ·exact .inr z
  ·exact .inl (List.mem_of_mem_drop z)
def xH(H0 H:Hp)(t:Addr)(r:bU):Prop:=∃t0,H t=some (.tup [.ref t0, .int r.m])∧Ih H0 t0 r.xs r.ys
theorem xH.keep{H0 H H':Hp}{D:Addr}{ys:List V}{t:Addr}{r:bU}(hD:H D=some (.lst ys))(e:∀b o,H b=some o→b≠D→H' b=some o)(h:xH H0 H t r):xH H0 H' t r:=let ⟨t0,h1,h2⟩:=h;⟨t0,e _ _ h1 (cG h1 hD (by intro z;cases z)),h2⟩
theorem xH.same{H0 H H':Hp}{t:Addr}{r:bU}(e:au H H')(h:xH H0 H t r):xH H0 H' t r:=let ⟨t0,h1,h2⟩:=h;⟨t0,e _ _ h1,h2⟩
inductive AZ(K:PySem.W.Frag)(vs:List V)(H:Hp)(Q:VK)(E:XK):Prop
 |mk (rl a:Addr) (ns:List Int) (ws:List Fm) (ts:List Addr) (rs:List bU) (dR:vs=[.ref rl, .ref a]) (dS:bJ K H a (ns.map V.int)) (dW:ns.length≤63) (eZ:H rl=some (.lst (ts.map V.ref))) (gz:Paired (oS H) ts rs) (jb:(∀r∈rs,sW ws r)) (nM:rs.length≤6) (sy:∀L us md H',H' L=some (.lst (us.map V.ref))→Paired (oS H') us md→(∀r∈md,sW ws r)→md.length≤12→(∀k,kB md k=kB rs k)→au H H'→Q (.ref L) H')
def u9(K:PySem.W.Frag):Sp:=AZ K
theorem eV:ay ["_law_row_here","_law_script","_law_found","_law_k","_law_cell","_law_sides","_law_times","_law_at","_law_part"] ["_law_row_here","_law_script"] (aj mP):=dA
theorem A0(D:Def K mg "_law_turned" "_law_turned" mP ["_law_row_here","_law_script"])(T:Ik K mg C R G Pc Fo St HE Sh uK uN uB uE uM uC uP uI uD uL uT)(c1:bj P w K mg base 1 "_law_cell_at" ["_law_script","_law_k"] (mS K)):bj P w K mg base 2 "_law_turned" ["_law_row_here","_law_script"] (u9 K):=by
 obtain⟨_,_,a6⟩:=c1
 refine D.dh eV (fun vs H Q E h=>?_) (fun f bp A outer s H vs Q E hr h=>?_)
 ·obtain⟨rl,a,ns,ws,ts,rs,rfl,_⟩:=h
  rfl
 ·obtain⟨rl,a,ns,ws,ts,rs,rfl,hS,hlen,sF,hP,hR,Zu,q⟩:=h
  have big:(2000 :Nat)≤sizeLine:=by decide
  have gH:=Paired.length hP
  refine⟨_,(ai
     (aB (i:=2) eV.nd rfl (Or.inl rfl) (cA ak))
    (ai
     (bO PassesOwn.never rfl (iX rfl T.mT (af (bS dk rfl T.kb g7 (af (pv 0) ak)) ak)) (aD (i:=3) eV.nd rfl (Or.inl rfl))
      (ai
       (aB (i:=4) eV.nd rfl (Or.inl rfl) (aJ a6.ok (hr.mono (by decide)) rfl a6.g a6.kp a6.b .nil az (af (pv 1) (af (aA bR aq (pv 3)) ak))))
      (ai
       (zC (cf cQ (pv 0) (pv 3) (fun _ _=>rfl)) (fi rfl (aQ (aD (i:=5) eV.nd rfl (Or.inl rfl)) (aQ (aD (i:=6) eV.nd rfl (Or.inl rfl)) cK))))
      (ai
       (aB (i:=7) eV.nd rfl (Or.inl rfl) (aA b6 (aA cE (pv 4) aq) (aA bR (bS dk rfl T.kb g7 (af (pv 2) ak)) aq)))
      (ai
       (bb (gD PySem.F.plainAttrs_list PySem.F.slot_list_insert PySem.F.type_list_insert qO (pv 2) (af (pv 7) (af (bQ (af (pv 5) (af (pv 6) ak))) ak))))
      (ao
       (bN (aO d9 (aA b6 (pv 4) aq) aq (aX _))
        (ai
         (aB (i:=8) eV.nd rfl (Or.inl rfl) (aA b6 (aA cE (pv 4) aq) (aA bR (pv 6) aq)))
        (ai
         (zC (bQ (af (pv 5) (af (pv 8) ak))) (NR (pv 2) (pv 7) set_list))
        (ao
         (bb (gD PySem.F.plainAttrs_list PySem.F.slot_list_insert PySem.F.type_list_insert qO (pv 2) (af (aA b6 (aA cE (pv 4) aq) (aA bR (bS dk rfl T.kb g7 (af (pv 2) ak)) aq)) (af (bQ (af (pv 5) (af (aA jW (pv 6) (pv 8)) ak))) ak)))))))
        aY)))))))
    (ao
     (aE (pv 2))))),?_⟩
  refine⟨(by show 0≤sizeLine;decide),fun F hF=>?_⟩
  have s1:=au.new (o:= .lst []) hF
  have hF1:(upd H F (.lst [])) F=some (.lst ([]:List V)):=aa
  generalize upd H F (.lst [])=H1 at s1 hF1 ⊢
  dsimp only [cN]
  refine⟨_,rfl,rl,_,rfl, .inl (bJ.of (s1 _ _ sF)),_,rfl,by omega,by rw[List.length_map];omega,nO (fun i σ H'=>∃(v3 v4 v5 v6 v7 v8:Option V) (us:List Addr) (md:List bU),σ=[some (.ref rl),some (.ref a),some (.ref F),v3,v4,v5,v6,v7,v8]∧H' F=some (.lst (us.map V.ref))∧Paired (xH H H') us md∧(∀r∈md,sW ws r)∧md.length≤2*i∧(∀k,kB md k=kB (rs.take i) k)∧au H H') ⟨none,none,none,none,none,none,[],[],rfl,hF1, .nil,(fun r hr=>by cases hr),Nat.le_refl _,fun k=>rfl,s1⟩ ?_ ?_⟩
  ·rintro i σ H' hi ⟨v3,v4,v5,v6,v7,v8,us,md,rfl,Uy,xE,Zv,hlu,Rv,e⟩
   have hi:i<ts.length:=by
    have:i< ((ts.map V.ref).length:Int).toNat:=hi
    rw[List.length_map] at this
    omega
   have D8:ts[i]? =some ts[i]:=List.getElem?_eq_getElem hi
   generalize ts[i]=t at D8
   obtain⟨r,sG,t0,ht,Rr⟩:=bo hP D8
   have xI:=hR r (List.mem_of_getElem? sG)
   have EY:=Paired.length xE
   have ek:(28 :Int)+(0+(i:Int))=((28+i:Nat):Int):=by omega
   refine⟨_,rfl,_,rfl,_,_,rfl,rfl,a,ns,28+i,by rw[←ek];rfl,e.seq hS,hlen,fun n=>?_⟩
   refine⟨_,rfl,_,rfl,rl,_,_, .ref t,rfl,rfl,bJ.of (e _ _ sF),by rw[Int.zero_add];exact mj (by rw[List.getElem?_map,D8];rfl),t,_,rfl,ir.of (e _ _ ht),rfl,_,_,rfl,_,_,rfl,rfl,?_⟩
   have pl:(0 :Int) < ((us.map V.ref).length:Int)+1:=by omega
   refine⟨_,rfl,_,_,rfl,rfl,⟨by decide,by decide⟩,_,rfl,F,_,rfl, .inl (bJ.of Uy),_,_,rfl,rfl,_,_,rfl,rfl,pl,?_⟩
   have a0:=Int.emod_nonneg (n/64) (b:=((us.map V.ref).length:Int)+1) (by omega)
   have a1:=Int.emod_lt_of_pos (n/64) pl
   obtain⟨k,ek2⟩:=Int.eq_ofNat_of_zero_le a0
   dsimp only [cN]
   have ek2:n/64%(((us.map V.ref).length:Int)+1)=(k:Int):=ek2
   rw[ek2] at a1 ⊢
   rw[List.length_map] at a1
   have hk:k≤us.length:=by omega
   refine⟨_,rfl, .inl ⟨rfl,_,bJ.of Uy⟩,_,rfl,_,rfl,_,rfl,(by show 2≤sizeLine;decide),fun t1 YS=>?_⟩
   have s2:=au.new (o:= .tup [.ref t0, .int r.m]) YS
   have LQ:(upd H' t1 (.tup [.ref t0, .int r.m])) t1=some (.tup [.ref t0, .int r.m]):=aa
   have HV:=s2 _ _ Uy
   have e2:=e.trans s2
   generalize upd H' t1 (.tup [.ref t0, .int r.m])=H2 at s2 LQ HV e2 ⊢
   refine⟨F,_, .ref t1,k,rfl,rfl,HV,by rw[List.length_map];exact hk,by rw[List.length_map];omega,?_⟩
   rw[ins_map]
   have nF:∀{b:Addr} {o:HO},H b=some o→b≠F:=fun {b o} z=>ag z hF
   have k3:∀b o,H2 b=some o→b≠F→(upd H2 F (.lst ((us.take k++t1::us.drop k).map V.ref))) b=some o:=fun b o z n'=>by rw[ah n'];exact z
   have hF3:(upd H2 F (.lst ((us.take k++t1::us.drop k).map V.ref))) F=some (.lst ((us.take k++t1::us.drop k).map V.ref)):=aa
   have e3:au H (upd H2 F (.lst ((us.take k++t1::us.drop k).map V.ref))):=fun b o z=>k3 _ _ (e2 _ _ z) (nF z)
   have ho:xH H H2 t1 r:=⟨t0,LQ,Rr⟩
   have hPo:Paired (xH H H2) us md:=aw (fun _ _ z=>z.same s2) xE
   have Y0:=aw (fun _ _ z=>xH.keep HV k3 z) (l8 k hPo ho)
   have ht13:=k3 _ _ LQ (cG LQ HV (by intro z;cases z))
   have Uz:Paired (xH H (upd H2 F (.lst ((us.take k++t1::us.drop k).map V.ref)))) us md:=aw (fun _ _ z=>xH.keep HV k3 z) hPo
   generalize upd H2 F (.lst ((us.take k++t1::us.drop k).map V.ref))=H3 at hF3 e3 Y0 ht13 Uz ⊢
   refine⟨_,rfl,_,_,rfl,rfl,(by show (0 :Int) <3;decide),rfl,_,rfl,fu (fun _=>?_) fun _=>?_⟩
   ·have pm:(0 :Int) <r.m+1:=by have:=xI.m0;omega
    refine⟨_,rfl,_,_,rfl,rfl,⟨by decide,by decide⟩,_,rfl,_,_,rfl,rfl,_,_,rfl,rfl,pm,?_⟩
    have p0:=Int.emod_nonneg (n/3) (b:=r.m+1) (by omega)
    have p1:=Int.emod_lt_of_pos (n/3) pm
    dsimp only [cN]
    generalize n/3%(r.m+1)=m' at p0 p1 ⊢
    refine⟨_,rfl,_,rfl,(by show 2≤sizeLine;decide),fun t2 Ph=>?_⟩
    have s4:=au.new (o:= .tup [.ref t0, .int m']) Ph
    have UA:(upd H3 t2 (.tup [.ref t0, .int m'])) t2=some (.tup [.ref t0, .int m']):=aa
    have hF4:=s4 _ _ hF3
    have e4:=e3.trans s4
    have UB:Paired (xH H (upd H3 t2 (.tup [.ref t0, .int m']))) us md:=aw (fun _ _ z=>z.same s4) Uz
    generalize upd H3 t2 (.tup [.ref t0, .int m'])=H4 at s4 UA hF4 e4 UB ⊢
    refine⟨_,rfl,_,rfl,F,_,_,k,rfl,rfl,hF4,Im (by rw[List.length_map,nE];omega),?_⟩
    rw[←List.map_set,LP _ _ hk]
    have ho2:xH H H4 t2 ⟨r.xs,r.ys,r.x,m'⟩:=⟨t0,UA,Rr⟩
    have k5:∀b o,H4 b=some o→b≠F→(upd H4 F (.lst ((us.take k++t2::us.drop k).map V.ref))) b=some o:=fun b o z n'=>by rw[ah n'];exact z
    have UC:(upd H4 F (.lst ((us.take k++t2::us.drop k).map V.ref))) F=some (.lst ((us.take k++t2::us.drop k).map V.ref)):=aa
    have e5:au H (upd H4 F (.lst ((us.take k++t2::us.drop k).map V.ref))):=fun b o z=>k5 _ _ (e4 _ _ z) (nF z)
    have Zw:=aw (fun _ _ z=>xH.keep hF4 k5 z) (l8 k UB ho2)
    generalize upd H4 F (.lst ((us.take k++t2::us.drop k).map V.ref))=H5 at UC e5 Zw ⊢
    have hl5:=nE us k t2
    have BI:∀r'∈md.take k++(⟨r.xs,r.ys,r.x,m'⟩:bU)::md.drop k,sW ws r':=fun r' oM=>by
     rcases xo oM with z|z
     ·exact Zv r' z
     ·rw[z];exact⟨xI.g,xI.x,p0,by have:=xI.m1;show m'≤20;omega⟩
    have ht5:=fun j=>xm (⟨r.xs,r.ys,r.x,m'⟩:bU) md k j
    have hll5:=nE md k (⟨r.xs,r.ys,r.x,m'⟩:bU)
    generalize us.take k++t2::us.drop k=LR at UC Zw hl5 ⊢
    generalize md.take k++(⟨r.xs,r.ys,r.x,m'⟩:bU)::md.drop k=rs5 at Zw BI ht5 hll5 ⊢
    have pl2:(0 :Int) < ((LR.map V.ref).length:Int)+1:=by omega
    refine⟨_,rfl, .inl ⟨rfl,_,bJ.of UC⟩,_,rfl,_,_,rfl,rfl,⟨by decide,by decide⟩,_,rfl,F,_,rfl, .inl (bJ.of UC),_,_,rfl,rfl,_,_,rfl,rfl,pl2,_,rfl,_,rfl,_,rfl,_,_,rfl,rfl,(by show 2≤sizeLine;decide),fun t3 ht3=>?_⟩
    have b0:=Int.emod_nonneg (n/4096) (b:=((LR.map V.ref).length:Int)+1) (by omega)
    have b1:=Int.emod_lt_of_pos (n/4096) pl2
    obtain⟨k2,ek3⟩:=Int.eq_ofNat_of_zero_le b0
    rw[ek3,List.length_map] at b1
    have Dy:k2≤LR.length:=by omega
    have s6:=au.new (o:= .tup [.ref t0, .int (r.m - m')]) ht3
    have UD:(upd H5 t3 (.tup [.ref t0, .int (r.m - m')])) t3=some (.tup [.ref t0, .int (r.m - m')]):=aa
    have hF6:=s6 _ _ UC
    have e6:=e5.trans s6
    have UE:Paired (xH H (upd H5 t3 (.tup [.ref t0, .int (r.m - m')]))) LR rs5:=aw (fun _ _ z=>z.same s6) Zw
    generalize upd H5 t3 (.tup [.ref t0, .int (r.m - m')])=H6 at s6 UD hF6 e6 UE ⊢
    refine⟨F,_, .ref t3,k2,rfl,(by show [V.int (n/4096%(((LR.map V.ref).length:Int)+1)),V.ref t3]=_;rw[ek3]),hF6,by rw[List.length_map];exact Dy,by rw[List.length_map];omega,?_⟩
    rw[ins_map]
    have ho3:xH H H6 t3 ⟨r.xs,r.ys,r.x,r.m - m'⟩:=⟨t0,UD,Rr⟩
    have k7:∀b o,H6 b=some o→b≠F→(upd H6 F (.lst ((LR.take k2++t3::LR.drop k2).map V.ref))) b=some o:=fun b o z n'=>by rw[ah n'];exact z
    refine⟨_,_,_,_,_,_,LR.take k2++t3::LR.drop k2,rs5.take k2++(⟨r.xs,r.ys,r.x,r.m - m'⟩:bU)::rs5.drop k2,rfl,aa,aw (fun _ _ z=>xH.keep hF6 k7 z) (l8 k2 UE ho3),fun r' oM=>?_,by rw[nE];omega,fun j=>?_,fun b o z=>k7 _ _ (e6 _ _ z) (nF z)⟩
    ·rcases xo oM with z|z
     ·exact BI r' z
     ·rw[z];exact⟨xI.g,xI.x,by show 0≤r.m - m';omega,by have:=xI.m1;show r.m - m'≤20;omega⟩
    ·rw[xm,ht5 j,Rv j,take_snoc sG,qf,kD,qe]
     dsimp only
     rw[Int.sub_mul]
     omega
   ·refine⟨_,_,_,_,_,_,us.take k++t1::us.drop k,md.take k++r::md.drop k,rfl,hF3,Y0,fun r' oM=>?_,by rw[nE];omega,fun j=>?_,e3⟩
    ·rcases xo oM with z|z
     ·exact Zv r' z
     ·rw[z];exact xI
    ·rw[xm,Rv j,take_snoc sG,qf,kD,qe]
     omega
  ·rintro σ H' ⟨v3,v4,v5,v6,v7,v8,us,md,rfl,Uy,xE,Zv,hlu,Rv,e⟩
   have el:((ts.map V.ref).length:Int).toNat=rs.length:=by rw[List.length_map];omega
   rw[el] at hlu Rv
   rw[List.take_length] at Rv
   exact⟨_,rfl,q F us md H' Uy (aw (fun _ _ ⟨t0,z1,z2⟩=>⟨t0,z1,z2.same e⟩) xE) Zv (by omega) Rv e⟩
variable {uC uP uI uD uL uT fb fe fg uG uS:Tok}{Ch HE Sh St:Addr}
inductive Io(vs:List V)(H:Hp)(Q:VK)(E:XK):Prop
 |mk (am rl:Addr) (ws:List Fm) (kvs:List (Key×V)) (ts:List Addr) (rs:List bU) (dR:vs=[.ref am, .ref rl]) (dS:H am=some (.dK kvs)) (dW:PY ws kvs) (eZ:H rl=some (.lst (ts.map V.ref))) (gz:Paired (oS H) ts rs) (jb:(∀r∈rs,sW ws r)) (nM:rs.length≤6) (sy:∀e H',H e=none→H' e=some (.dK (cz kvs rs))→au H H'→Q (.ref e) H')
def CB:Sp:=Io
theorem iM:ay ["_law_amounts_here","_law_row_here","_law_found","_law_sides","_law_times","_law_text_here","_law_many"] ["_law_amounts_here","_law_row_here"] (aj vZ):=dA
theorem CC{ws:List Fm}{xs:List Tm}(h8:xs.length≤8):(aI xs).length≤8:=by
 have:=dN (fV xs)
 have e:(fV xs).length=xs.length:=by unfold fV;rw[List.length_map]
 unfold aI
 omega
theorem Ip(D:Def K mg "_law_added" "_law_added" vZ ["_law_amounts_here","_law_row_here"])(T:Ik K mg C R G Pc Fo St HE Sh uK uN uB uE uM uC uP uI uD uL uT)(c1:bj P w K mg base 1 "_law_asked" ["_law_terms"] Cg):bj P w K mg base 2 "_law_added" ["_law_amounts_here","_law_row_here"] CB:=by
 obtain⟨_,_,eX⟩:=c1
 refine D.dh iM (fun vs H Q E h=>?_) (fun f bp A outer s H vs Q E hr h=>?_)
 ·obtain⟨am,rl,ws,kvs,ts,rs,rfl,_⟩:=h
  rfl
 ·obtain⟨am,rl,ws,kvs,ts,rs,rfl,Cd,hA,sF,hP,hR,Zu,q⟩:=h
  have hu:=dz hr
  have big:(2000 :Nat)≤sizeLine:=by decide
  have gH:=Paired.length hP
  have hlA:=hA.len
  refine⟨_,(ai
     (aB (i:=2) iM.nd rfl (Or.inl rfl) (bI lP rfl T.ko jl (af (pv 0) ak)))
    (ai
     (bO PassesOwn.never rfl (bX (pv 1)) (fi rfl (aQ (aD (i:=3) iM.nd rfl (Or.inl rfl)) (aQ (aD (i:=4) iM.nd rfl (Or.inl rfl)) cK)))
      (ai
       (eF (bO PassesOwn.never rfl (qM (aJ eX.ok (hr.mono (by decide)) rfl eX.g eX.kp eX.b .nil az (af (cf gu (pv 3) aq (fun _ _=>rfl)) ak))) (fi rfl (aQ (aD (i:=5) iM.nd rfl (Or.inl rfl)) (aQ (aD (i:=6) iM.nd rfl (Or.inl rfl)) cK)))
        (ao
         (cZ hu (pv 2) (pv 5) (aA jW (bZ hu (pv 2) (pv 5) aq ⟨rfl,rfl,rfl,rfl⟩) (aA fM (pv 4) (pv 6))) rfl))))
      (ao
       (eF (bO PassesOwn.never rfl (qM (aJ eX.ok (hr.mono (by decide)) rfl eX.g eX.kp eX.b .nil az (af (cf gu (pv 3) aq (fun _ _=>rfl)) ak))) (fi rfl (aQ (aD (i:=5) iM.nd rfl (Or.inl rfl)) (aQ (aD (i:=6) iM.nd rfl (Or.inl rfl)) cK)))
        (ao
         (cZ hu (pv 2) (pv 5) (aA bR (bZ hu (pv 2) (pv 5) aq ⟨rfl,rfl,rfl,rfl⟩) (aA fM (pv 4) (pv 6))) rfl)))))))
    (ao
     (aE (pv 2))))),?_⟩
  refine⟨_,rfl,am,_,rfl, .inl Cd,fun fd Zx=>?_⟩
  have s1:=au.new (o:= .dK kvs) Zx
  have UG:(upd H fd (.dK kvs)) fd=some (.dK kvs):=aa
  generalize upd H fd (.dK kvs)=H1 at s1 UG ⊢
  dsimp only [cN]
  refine⟨_,rfl,rl,rfl,⟨_,bJ.of (s1 _ _ sF)⟩,c9 (K:=K) (a:=rl) (xs:=ts.map V.ref) (fun i σ H'=>∃(v3 v4 v5 v6:Option V),σ=[some (.ref am),some (.ref rl),some (.ref fd),v3,v4,v5,v6]∧H' fd=some (.dK (cz kvs (rs.take i)))∧au H H') ⟨none,none,none,none,rfl,UG,s1⟩ (fun i σ H' _ ⟨_,_,_,_,_,_,z⟩=>bJ.of (z _ _ sF)) ?_ ?_⟩
  ·rintro i x σ H' hi ⟨v3,v4,v5,v6,rfl,EB,e⟩
   rw[List.getElem?_map] at hi
   obtain⟨t,ht,rfl⟩:∃m,ts[i]? =some m∧x=V.ref m:=by
    cases hh:ts[i]? with
    |none=>rw[hh] at hi;cases hi
    |some m=>rw[hh] at hi;exact⟨m,rfl,(Option.some.inj hi).symm⟩
   obtain⟨r,sG,t0,CD,l,u,P2,xF,xG⟩:=bo hP ht
   have xI:=hR r (List.mem_of_getElem? sG)
   obtain⟨g1,g2,g3,g4,g5,g6⟩:=id xI.g
   have lC:∀x∈r.xs,oE 100000000000 x:=fun x hx=>(g3 x hx).1
   have wV:∀x∈r.ys,oE 100000000000 x:=fun x hx=>(g4 x hx).1
   have LM:∀r∈rs.take i,sW ws r:=fun r hr=>hR r (List.mem_of_mem_take hr)
   have hkt:=ip hA.all LM
   have Rn:=oN rs i hA.int
   have UH:((cz kvs (rs.take i)).map (·.1)).Nodup:=by rw[hkt];exact hA.nd
   have pz:(cz kvs (rs.take i)).length=kvs.length:=nC hA LM
   have hIn:InK (cz kvs (rs.take i)) r.xs r.ys:=AX (fun s hs=>by rw[hkt];exact hA.all s hs) xI.g
   have M0:=zp kvs sG
   generalize cz kvs (rs.take i)=W at EB Rn UH pz hIn M0
   clear hkt LM
   refine⟨t,_,rfl,ir.of (e _ _ CD),rfl,_,_,rfl,_,_,rfl,rfl,?_⟩
   refine⟨_,rfl,t0,_,_, .ref l,rfl,rfl,ir.of (e _ _ P2),rfl,l,r.xs,rfl,xF.same e,fun x hx=>(lC x hx).2.2,by omega,fun tk H3 MT xS e3=>?_⟩
   have MU:=e.trans e3
   have hfd3:=e3 _ _ EB
   have Zy:fd≠tk:=ag EB MT
   have AK:=CC (ws:=ws) (xs:=r.xs) (by omega)
   have hgl:=CC (ws:=ws) (xs:=r.ys) (by omega)
   have TN:bu (aI r.xs):=cI _
   have T1:bu (aI r.ys):=cI _
   have Y9:=xI.m0
   have Za:=xI.m1
   refine⟨tk,aI r.xs,rfl,xS,fun o nf=>tU nf (fun j σ H'=>∃v5 v6:Option V,σ=[some (.ref am),some (.ref rl),some (.ref fd),some (.ref t0),some (.int r.m),v5,v6]∧H' fd=some (.dK (fW (-r.m) W ((aI r.xs).take j) (aI r.xs)))∧H' tk=some (.dK (aI r.xs))∧au H H') ⟨v5,v6,rfl,hfd3,xS,MU⟩ (fun j σ H' ⟨_,_,_,_,z,_⟩=>z) ?_ ?_⟩
   ·rintro j k v p σ H4 hj ⟨v5,v6,rfl,A1,htk4,e4⟩ hp
    have hm:=List.mem_of_getElem? hj
    have ev:v=V.int (aM (aI r.xs) k):=by
     obtain⟨z,ez⟩:=TN _ hm
     have ez:v=V.int z:=ez
     have h1:=fw (oR r.xs) hm
     rw[ez] at h1 ⊢
     rw[dB h1]
    subst ev
    have G0:=cR (-r.m) (aI r.xs) ((aI r.xs).take j) _ Rn
    have Ri:=gk (-r.m) (aI r.xs) ((aI r.xs).take j) W
    have D8:((aI r.xs).take j).length≤(aI r.xs).length:=List.length_take_le' _ _
    have tb:=jJ lC (by omega) k
    have SK:fd≠p:=fun z=>by rw[←z,ah Zy,A1] at hp;cases hp
    have Lh:tk≠p:=fun z=>by rw[←z,aa] at hp;cases hp
    have nW:(upd (upd H4 tk (.d8 o (.dK (aI r.xs)))) p (.tup [kV k, .int (aM (aI r.xs) k)])) fd=some (.dK (fW (-r.m) W ((aI r.xs).take j) (aI r.xs))):=by rw[ah SK,ah Zy];exact A1
    have P4:(upd (upd H4 tk (.d8 o (.dK (aI r.xs)))) p (.tup [kV k, .int (aM (aI r.xs) k)])) tk=some (.d8 o (.dK (aI r.xs))):=by rw[ah Lh];exact aa
    refine⟨p,_,rfl,ir.of aa,rfl,_,_,rfl,_,_,rfl,rfl,?_⟩
    refine⟨_,rfl,fd,rfl, .inl ⟨_, .inl nW⟩,_,rfl,_,gI.k (k:=k) nW,_,rfl,_,rfl,_,_,rfl,rfl, .inr ⟨by omega,by omega⟩,_,_,G0.at k,rfl,_,rfl,_,rfl,fd,_,rfl,jh.k (k:=k) nW (by omega),?_⟩
    refine⟨by rw[ah (Ne.symm Zy)];exact P4,_,_,rfl,?_,aa,fun b o' z=>?_⟩
    ·rw[ah Zy,aa]
     have ez:∀a b:Int,a - r.m*b=a+ -r.m*b:=fun a b=>by rw[Int.neg_mul];omega
     rw[ez]
     unfold fW
     rw[take_snoc hj,List.foldl_append]
     rfl
    ·have z4:=e4 _ _ z
     have P5:b≠tk:=ag (e _ _ z) MT
     have nbf:b≠fd:=ag z Zx
     have nbp:b≠p:=ag (by rw[ah P5];exact z4) hp
     rw[ah P5,ah nbf,ah nbp,ah P5]
     exact z4
   ·rintro σ H4 ⟨v5,v6,rfl,A1,htk4,e4⟩
    rw[List.take_length] at A1
    have hIv:=cR (-r.m) (aI r.xs) (aI r.xs) _ Rn
    have hvl:=gk (-r.m) (aI r.xs) (aI r.xs) W
    have tJ:=eU (-r.m) (aI r.xs) (aI r.xs) W hIn.1
    have hzv:=fun k=>oK (-r.m) (oR r.xs) W k
    generalize fW (-r.m) W (aI r.xs) (aI r.xs)=W2 at A1 hIv hvl tJ hzv
    refine⟨_,rfl,t0,_,_, .ref u,rfl,rfl,ir.of (e4 _ _ P2),rfl,u,r.ys,rfl,xG.same e4,fun x hx=>(wV x hx).2.2,by omega,fun gv H5 ngv hgv e5=>?_⟩
    have JE:=e4.trans e5
    have hfd5:=e5 _ _ A1
    have Zz:fd≠gv:=ag A1 ngv
    refine⟨gv,aI r.ys,rfl,hgv,fun o nf=>tU nf (fun j σ H'=>∃v5 v6:Option V,σ=[some (.ref am),some (.ref rl),some (.ref fd),some (.ref t0),some (.int r.m),v5,v6]∧H' fd=some (.dK (fW r.m W2 ((aI r.ys).take j) (aI r.ys)))∧H' gv=some (.dK (aI r.ys))∧au H H') ⟨v5,v6,rfl,hfd5,hgv,JE⟩ (fun j σ H' ⟨_,_,_,_,z,_⟩=>z) ?_ ?_⟩
    ·rintro j k v p σ H6 hj ⟨v5,v6,rfl,Iq,hgv6,e6⟩ hp
     have hm:=List.mem_of_getElem? hj
     have ev:v=V.int (aM (aI r.ys) k):=by
      obtain⟨z,ez⟩:=T1 _ hm
      have ez:v=V.int z:=ez
      have h1:=fw (oR r.ys) hm
      rw[ez] at h1 ⊢
      rw[dB h1]
     subst ev
     have G0:=cR r.m (aI r.ys) ((aI r.ys).take j) _ hIv
     have Ri:=gk r.m (aI r.ys) ((aI r.ys).take j) W2
     have D8:((aI r.ys).take j).length≤(aI r.ys).length:=List.length_take_le' _ _
     have tb:=jJ wV (by omega) k
     have SK:fd≠p:=fun z=>by rw[←z,ah Zz,Iq] at hp;cases hp
     have Lh:gv≠p:=fun z=>by rw[←z,aa] at hp;cases hp
     have nW:(upd (upd H6 gv (.d8 o (.dK (aI r.ys)))) p (.tup [kV k, .int (aM (aI r.ys) k)])) fd=some (.dK (fW r.m W2 ((aI r.ys).take j) (aI r.ys))):=by rw[ah SK,ah Zz];exact Iq
     have P4:(upd (upd H6 gv (.d8 o (.dK (aI r.ys)))) p (.tup [kV k, .int (aM (aI r.ys) k)])) gv=some (.d8 o (.dK (aI r.ys))):=by rw[ah Lh];exact aa
     refine⟨p,_,rfl,ir.of aa,rfl,_,_,rfl,_,_,rfl,rfl,?_⟩
     refine⟨_,rfl,fd,rfl, .inl ⟨_, .inl nW⟩,_,rfl,_,gI.k (k:=k) nW,_,rfl,_,rfl,_,_,rfl,rfl, .inr ⟨by omega,by omega⟩,_,_,G0.at k,rfl,_,rfl,_,rfl,fd,_,rfl,jh.k (k:=k) nW (by omega),?_⟩
     refine⟨by rw[ah (Ne.symm Zz)];exact P4,_,_,rfl,?_,aa,fun b o' z=>?_⟩
     ·rw[ah Zz,aa]
      unfold fW
      rw[take_snoc hj,List.foldl_append]
      rfl
     ·have z4:=e6 _ _ z
      have P5:b≠gv:=ag (e4 _ _ z) ngv
      have nbf:b≠fd:=ag z Zx
      have nbp:b≠p:=ag (by rw[ah P5];exact z4) hp
      rw[ah P5,ah nbf,ah nbp,ah P5]
      exact z4
    ·rintro σ H6 ⟨v5,v6,rfl,Iq,hgv6,e6⟩
     rw[List.take_length] at Iq
     refine⟨_,_,_,_,rfl,?_,e6⟩
     rw[Iq,M0]
     congr 2
     have Kt:=eU r.m (aI r.ys) (aI r.ys) W2 (by rw[tJ];exact hIn.2)
     refine mY (cR _ _ _ _ hIv) (cR _ _ _ _ Rn) (by rw[Kt,tJ];exact UH) ?_ fun k=>?_
     ·rw[Kt,tJ]
      exact(eU _ _ _ _ (HY hIn)).symm
     ·rw[oK r.m (oR r.ys),hzv,r8,xi,Int.mul_sub,Int.neg_mul]
      omega
  ·rintro σ H' ⟨v3,v4,v5,v6,rfl,EB,e⟩
   rw[List.length_map,gH,List.take_length] at EB
   exact⟨_,rfl,q fd H' Zx EB e⟩
theorem P6{i:Nat}{v:V}{r:TS}{D:Ends}{σ:L2.St}{H:Hp}(h:r D (σ.set i (some v)) H):JJ (JL (tC v) (cN i)) r D σ H:=h
theorem Ir{A r:TS}{D:Ends}{σ:L2.St}{H:Hp}(Pm:L2.St→Hp→Prop)(h:∀N:L2.St→Hp→Prop,(∀σ' H',Pm σ' H'→N σ' H')→A { D with nx:=N } σ H)(hr:∀σ' H',Pm σ' H'→r D σ' H'):JJ A r D σ H:=h _ hr
variable {uC uP uI uD uL uT fb fe fg uG uS:Tok}{Ch HE Sh St:Addr}
theorem EC{H H':Hp}{st dx St:Addr}(s:au H H')(h1:H' st=none)(h2:H' dx=none):au H (upd (upd H' dx (.own st)) st (.ins St dx [])):=fun b o z=>by
 rw[ah (ag (s _ _ z) h1),ah (ag (s _ _ z) h2)]
 exact s _ _ z
inductive Iu(vs:List V)(H:Hp)(Q:VK)(E:XK):Prop
 |mk (am rl:Addr) (once:Bool) (ws:List Fm) (kvs:List (Key×V)) (ts:List Addr) (rs:List bU) (dR:vs=[.ref am, .ref rl, .bl once]) (dS:(∀w∈ws,cV w)) (dW:H am=some (.dK kvs)) (eZ:PY ws kvs) (gz:H rl=some (.lst (ts.map V.ref))) (jb:Paired (oS H) ts rs) (nM:(∀r∈rs,sW ws r)) (sy:rs.length≤12) (EU:∀(tt e:Addr) (sh:Bool) (W:List (Key×V)) H',H e=none→H' tt=some (.tup [.bl sh, .ref e])→H' e=some (.dK (ky W))→(sh=false→W=cz kvs rs∧∀k,0≤aM (cz kvs rs) k)→(sh=true→once=true→W=kvs)→au H H'→Q (.ref tt) H')
def CF:Sp:=Iu
theorem l9:ay ["_law_amounts_here","_law_row_here","_law_at_once","_law_store","_law_texts_here","_law_short","_law_text_here","_law_times"] ["_law_amounts_here","_law_row_here","_law_at_once"] (aj yj):=dA
theorem Iv{f0:Addr}(D:Def K mg "_law_gone" "_law_gone" yj ["_law_amounts_here","_law_row_here","_law_at_once"])(T:Ik K mg C R G Pc Fo St HE Sh uK uN uB uE uM uC uP uI uD uL uT)(Z:PySem.W.gw K Sh HE f0)(c1:F1 P w K mg base qy 14 St ["self","amounts"] (B7 St))(c2:bj P w K mg base 1 "_law_text" ["_law_lefts","_law_rights"] Cp)(c3:vK P w K mg base 17 St "go_all" ["self","rows"] (xc C G Pc Fo Ch Sh St))(c4:vL P w K mg base 18 St "go" ["self","text","times"] [1] (TX C G Pc Fo Ch Sh St))(c5:aK P w K mg base 1 St "went" ["self"] (Co St))(c6:aK P w K mg base 1 St "stocks" ["self"] (yY St)):
  bj P w K mg base 19 "_law_gone" ["_law_amounts_here","_law_row_here","_law_at_once"] CF:=by
 obtain⟨_,_,cj⟩:=c1
 obtain⟨_,_,nG⟩:=c2
 obtain⟨_,_,cJ⟩:=c3
 obtain⟨_,_,ma⟩:=c4
 obtain⟨_,_,jL⟩:=c5
 obtain⟨_,_,iq⟩:=c6
 obtain⟨_,xp,xq⟩:=ma.bs 1 (by decide)
 have ED:=cj.b0
 have EE:Vals [] []:= .nil
 refine D.dh l9 (fun vs H Q E h=>?_) (fun f bp A outer s H vs Q E hr h=>?_)
 ·obtain⟨am,rl,once,ws,kvs,ts,rs,rfl,_⟩:=h
  rfl
 ·obtain⟨am,rl,once,ws,kvs,ts,rs,rfl,aV,Cd,hA,sF,hP,hR,P7,q⟩:=h
  have hu:=dz hr
  have Tx:=hr.nR
  have UI:=hr.units
  have big:(2000 :Nat)≤sizeLine:=by decide
  have gH:=Paired.length hP
  have hlA:=hA.len
  refine⟨_,(ai
     (aB (i:=3) l9.nd rfl (Or.inl rfl) (fX cj.m cj.ok (hr.mono (by decide)) rfl T.Li ED EE az (af (bI lP rfl T.ko jl (af (pv 0) ak)) ak)))
    (ai
     (mv (i:=4) l9.nd rfl (Or.inl rfl) (sc:=(aj yj)) (NX:=["_law_amounts_here","_law_row_here","_law_at_once","_law_store","_law_texts_here","_law_short","_law_text_here","_law_times"]) (N:=["_law_sides","_law_times"]) (fr:=[none,none]) ⟨by rfl,by rfl,by decide+kernel,by decide+kernel,by decide+kernel,by rfl,by decide+kernel⟩ rfl rfl rfl (bX (pv 1)) (fun _ _ _ _=>(mw K 2 rfl rfl (aQ (aD (i:=0) (show (["_law_sides","_law_times"]:List Str).Nodup by decide+kernel) rfl (Or.inl rfl) (Or.inr rfl)) (aQ (aD (i:=1) (show (["_law_sides","_law_times"]:List Str).Nodup by decide+kernel) rfl (Or.inl rfl) (Or.inr rfl)) cK)))) (fun _ _ _ _=>fx) (fun _ _ _ _=>(bQ (af (aJ nG.ok (hr.mono (by decide)) rfl nG.g nG.kp nG.b .nil az (af (cf (pM K rfl) (pv 0) aq (fun _ _=>rfl)) (af (cf (pM K rfl) (pv 0) aq (fun _ _=>rfl)) ak))) (af (pv 1) ak)))))
    (ai
     (aB (i:=5) l9.nd rfl (Or.inl rfl) jT)
    (ai
     (Kp ⟨rfl,rfl⟩ (fun _ _=>
      (ao
       (bN (fK (pv 2))
        (ao
         (bb (qL (pv 3) T.cj cJ.m cJ.ok (hr.mono (by decide)) cJ.b .nil yd (af (pv 4) ak))))
        (ao
         (bO (tS ⟨rfl,rfl⟩) rfl (FE K rfl (pv 4)) (mw K 2 rfl rfl (aQ (aD (i:=6) l9.nd rfl (Or.inl rfl)) (aQ (aD (i:=7) l9.nd rfl (Or.inl rfl)) cK)))
          (ao
           (bb (qL (pv 3) T.cj ma.m ma.ok (hr.mono (by decide)) xq xp yd (af (pv 6) (af (pv 7) ak)))))))))) (fun _=>(F8 K rfl rfl T.Ls T.Il (fun _=>
      (ao
       (aB (i:=5) l9.nd rfl (Or.inl rfl) jT))) (OE Kn))))
    (ai
     (bN (PW.pt (lM (jU (fK (pv 5))) (kG (aO (Ol UI) (aN (pv 3) T.cj jL.m jL.ok (hr.mono (by decide)) jL.b .nil az) (pv 4) (aX _)))))
      (ao
       (aE zB))
      aY)
    (ao
     (aE (bQ (af (pv 5) (af (aN (pv 3) T.cj iq.m iq.ok (hr.mono (by decide)) iq.b .nil az) ak)))))))))),?_⟩
  refine⟨_,rfl,am,_,rfl, .inl Cd,fun NJ Iw=>?_⟩
  have s1:=au.new (o:= .dK kvs) Iw
  have wx:(upd H NJ (.dK kvs)) NJ=some (.dK kvs):=aa
  generalize upd H NJ (.dK kvs)=H1 at s1 wx ⊢
  refine fun st dx ZA Rp nds=>?_
  have s2:au H1 (upd (upd H1 dx (.own st)) st (.ins St dx [])):=EC (au.refl _) ZA Rp
  refine⟨st,dx, .ref NJ,kvs,rfl,aa, .inr ⟨NJ,rfl,s2 _ _ wx⟩,hA.int,hA.nd,fun q hq=>?_,by omega,fun d g H3 nd ng Aj hSt hd hg k3=>⟨rfl,?_⟩⟩
  ·obtain⟨s,es,hs⟩:=hA.told q hq
   exact⟨s,es,Em aV hs⟩
  have e3:au H H3:=fun b o z=>k3 _ _ (s2 _ _ (s1 _ _ z)) (ag (s1 _ _ z) ZA)
  obtain⟨dQ,iV⟩:=hSt
  have UJ:H st=none:=none_back s1 ZA
  have ngH:H g=none:=none_back (s1.trans s2) ng
  clear k3 s2 s1 wx nd ng ZA Rp nds
  refine⟨_,rfl,rl,rfl,⟨_,bJ.of (e3 _ _ sF)⟩,fun L hL=>i0 (K:=K) (a:=rl) (L:=L) (xs:=ts.map V.ref) H3 (fun σ=>∃v u:Option V,σ=[v,u]) (PvW L rs) (bJ.of (e3 _ _ sF)) ?_ hL ⟨none,none,rfl⟩ (au.new hL) aa ⟨[],rfl,rfl,(fun u hu=>by cases hu), .nil⟩ (by rw[List.length_map];omega) ?_ ?_ ?_⟩
  ·rintro i ys Ha Hb hb ⟨us,h1,h2,h3,h4⟩
   exact⟨us,h1,h2,h3,jB (fun u r hu z=>hb _ _ z (h3 u hu)) h4⟩
  ·rintro i ys H' ⟨us,rfl,h2,_⟩
   rw[List.length_map,h2];exact Nat.le_refl _
  ·rintro j w σ' H5 vs hj ⟨w1,w2,rfl⟩ e5 kn ⟨us,rfl,EY,T6,uU⟩ N M hN
   rw[List.getElem?_map] at hj
   obtain⟨t,ht,rfl⟩:∃m,ts[j]? =some m∧w=V.ref m:=by
    cases hh:ts[j]? with
    |none=>rw[hh] at hj;cases hj
    |some m=>rw[hh] at hj;exact⟨m,rfl,(Option.some.inj hj).symm⟩
   obtain⟨r,oM,t0,CD,l,u,P2,xF,xG⟩:=bo hP ht
   have xI:=hR r (List.mem_of_getElem? oM)
   obtain⟨g1,g2,g3,g4,g5,g6⟩:=id xI.g
   have JE:=e3.trans e5
   have w40:∀{z:Tm},HU ws z→oE (10^40) z:=fun {z} h=>⟨h.1.1,Int.le_trans h.1.2.1 (by decide),h.1.2.2⟩
   refine⟨t,_,rfl,ir.of (JE _ _ CD),rfl,_,_,rfl,_,_,rfl,rfl,?_⟩
   refine⟨_,rfl,t0,_,_, .ref l,rfl,rfl,ir.of (JE _ _ P2),rfl,_,rfl,t0,_,_, .ref u,rfl,rfl,ir.of (JE _ _ P2),rfl,l,u,r.xs,r.ys,rfl,xF.same JE,xG.same JE,fun x hx=>w40 (g3 x hx),fun x hx=>w40 (g4 x hx),by omega,by omega,fun H6 e6=>?_⟩
   rw[←xI.x]
   refine⟨_,rfl,(by show 2≤sizeLine;decide),fun u' HN=>?_⟩
   have s7:=au.new (o:= .tup [.str r.x, .int r.m]) HN
   refine hN _ _ _ ⟨_,_,rfl⟩ ((e5.trans e6).trans s7) (s7 _ _ (e6 _ _ kn)) ⟨us++[u'],by rw[List.map_append];rfl,by rw[List.length_append,EY];rfl,fun a ha=>?_,?_⟩
   ·rcases List.mem_append.mp ha with z|z
    ·exact T6 a z
    ·have ea:a=u':=by simpa using z
     rw[ea]
     exact fun z=>by rw[z,e6 _ _ kn] at HN;cases HN
   ·rw[take_snoc oM]
    have hu2:df (upd H6 u' (.tup [.str r.x, .int r.m])) u' r:=aa
    exact bC hu2 (aw (fun a b (z:df H5 a b)=>((e6.trans s7) _ _ z:df _ a b)) uU)
  rintro H4 ys e4 sQ ⟨us,rfl,EY,T6,uU⟩
  rw[List.length_map,gH,List.take_length] at uU
  have EF:=e4 _ _ iV
  have DV:=e4 _ _ hd
  have Zp:=e4 _ _ hg
  have JC:=e3.trans e4
  have hrx:∀r∈rs,PyData.strOk r.x=true:=fun r hr=>PZ (hR r hr).ev
  have hro:=LJ hrx
  have UK:=Paired.length uU
  have nLg:g≠L:=ag hg hL
  clear iV hd hg e3 e4 hL hP
  dsimp only [cN]
  refine P6 ?_
  refine Ir (fun σ' H'=>∃(sh:Bool) (d':Addr) (W:List (Key×V)) (ju:Addr) (v6 v7:Option V),σ'=[some (.ref am),some (.ref rl),some (.bl once),some (.ref st),some (.ref L),some (.bl sh),v6,v7]∧H' st=some (.ins St ju (yV d' g))∧H' d'=some (.dK W)∧H' L=some (.lst (us.map V.ref))∧Paired (df H') us rs∧bu W∧(W.map (·.1)).Nodup∧W.length≤900∧(sh=false→W=cz kvs rs∧(∀k,0≤aM (cz kvs rs) k)∧∃gs:List Addr,H' g=some (.lst (gs.map V.ref))∧Paired (df H') gs rs)∧(sh=true→once=true→W=kvs)∧au H H') (fun N hN=>?_) ?_
  ·refine⟨_,rfl,_,rfl,fu (fun ho=>?_) fun ho=>?_⟩
   ·subst ho
    refine⟨_,rfl,st,dQ,_,rfl,EF,ku _ _ (by decide+kernel) (by decide+kernel),_,rfl,st,d,g,L,kvs,[],us,rs,rfl,⟨dQ,EF⟩,DV,Zp,nLg,hA.int,by omega,sQ,uU,P7,Nat.zero_le _,(fun r hr=>(hR r hr).ev),(fun i r t k l z1 z2=>Ig hA hR P7 z1 z2),fun hs d' H' h0 h1 h2 h3 h4=>?_,fun i r t x l e ju H' z1 z2 z3 he MS ne Rp e1=>?_⟩
    ·obtain⟨ju,h1⟩:=h1
     have lA:=h4 _ _ sQ (Ne.symm (cG EF sQ (by intro z;cases z))) (Ne.symm nLg)
     have k5:au H H':=fun b o z=>h4 _ _ (JC _ _ z) (ag z UJ) (ag z ngH)
     have hPn:Paired (df H') us rs:=aw (fun a b (z:df H4 a b)=>(h4 _ _ z (cG z EF (by intro y;cases y)) (cG z Zp (by intro y;cases y)):df _ a b)) uU
     exact hN _ _ ⟨false,d',cz kvs rs,ju,_,_,rfl,h1,h2,lA,hPn,nB rs hA.int,xn hA hR,by rw[nC hA hR];omega,fun _=>⟨rfl,Ie rs kvs hA.nn hR hs,us,h3,hPn⟩,fun z=>(by cases z),k5⟩
    ·refine⟨Sh,HE,f0,true,rfl,Z,T.zq,iZ ?_⟩
     exact hN _ _ ⟨true,d,kvs,dQ,_,_,rfl,e1 _ _ EF,e1 _ _ DV,e1 _ _ sQ,aw (fun a b (z:df H4 a b)=>(e1 _ _ z:df _ a b)) uU,hA.int,hA.nd,by omega,fun z=>(by cases z),fun _ _=>rfl,JC.trans e1⟩
   ·refine⟨_,rfl,L,rfl,⟨_,bJ.of sQ⟩,c9 (K:=K) (a:=L) (xs:=us.map V.ref) (fun i σ H'=>∃(d' ju:Addr) (v6 v7:Option V) (gs:List Addr),σ=[some (.ref am),some (.ref rl),some (.bl once),some (.ref st),some (.ref L),some (.bl false),v6,v7]∧H' st=some (.ins St ju (yV d' g))∧H' d'=some (.dK (cz kvs (rs.take i)))∧H' L=some (.lst (us.map V.ref))∧Paired (df H') us rs∧H' g=some (.lst (gs.map V.ref))∧Paired (df H') gs (rs.take i)∧(∀j r,j<i→rs[j]? =some r→b9 (cz kvs (rs.take j)) r.xs r.ys r.m=none)∧au H H') ⟨d,dQ,none,none,[],rfl,EF,DV,sQ,uU,Zp, .nil,(fun j r hj=>absurd hj (Nat.not_lt_zero _)),JC⟩ (fun i σ H' _ ⟨_,_,_,_,_,_,_,_,z,_⟩=>bJ.of z) ?_ ?_⟩
    ·rintro i x σ H' hi ⟨d',ju,v6,v7,gs,rfl,vM,eQ,lA,xE,wG,M3,Ly,e⟩
     rw[List.getElem?_map] at hi
     obtain⟨t,ht,rfl⟩:∃m,us[i]? =some m∧x=V.ref m:=by
      cases hh:us[i]? with
      |none=>rw[hh] at hi;cases hi
      |some m=>rw[hh] at hi;exact⟨m,rfl,(Option.some.inj hi).symm⟩
     obtain⟨r,sG,xD⟩:=bo xE ht
     have xD:H' t=some (.tup [.str r.x, .int r.m]):=xD
     have xI:=hR r (List.mem_of_getElem? sG)
     have LM:∀r∈rs.take i,sW ws r:=fun r hr=>hR r (List.mem_of_mem_take hr)
     have pz:(cz kvs (rs.take i)).length=kvs.length:=nC hA LM
     have hlg:=Paired.length M3
     have hlt2:(rs.take i).length≤12:=by rw[List.length_take];omega
     refine⟨t,_,rfl,ir.of xD,rfl,_,_,rfl,_,_,rfl,rfl,?_⟩
     refine⟨_,rfl,st,ju,_,rfl,vM,ku _ _ (by decide+kernel) (by decide+kernel),_,rfl,_,rfl,st,d',g,cz kvs (rs.take i),gs.map V.ref,r,rfl,⟨ju,vM⟩,eQ,wG,oN rs i hA.int,by omega,by rw[List.length_map];omega,xI.ev,(fun t k l z=>Ig hA hR P7 sG z),fun hs d2 t2 H5 h0 h1 h2 h3 h4 h5=>?_,fun t' x l e' xA H5 hs he MS ne Rp e1=>?_⟩
     ·obtain⟨xA,h1⟩:=h1
      have kk:∀{a:Addr} {b:bU},df H' a b→df H5 a b:=fun {a b} z=>h5 _ _ z (cG z vM (by intro y;cases y)) (cG z wG (by intro y;cases y))
      refine⟨d2,xA,_,_,gs++[t2],rfl,h1,by rw[h2,zp kvs sG],h5 _ _ lA (Ne.symm (cG vM lA (by intro z;cases z))) (Ne.symm nLg),aw (fun _ _ z=>kk z) xE,by rw[h3,List.map_append];rfl,?_,fun j r2 hj TR=>?_,fun b o z=>h5 _ _ (e _ _ z) (ag z UJ) (ag z ngH)⟩
      ·rw[take_snoc sG]
       exact bC h4 (aw (fun _ _ z=>kk z) M3)
      ·rcases Nat.lt_succ_iff_lt_or_eq.mp hj with hj|hj
       ·exact Ly j r2 hj TR
       ·subst hj
        have er:=Option.some.inj (sG.symm.trans TR)
        rw[←er]
        exact hs
     ·refine⟨Sh,HE,f0,true,rfl,Z,T.zq,iZ ?_⟩
      exact hN _ _ ⟨true,d',cz kvs (rs.take i),ju,_,_,rfl,e1 _ _ vM,e1 _ _ eQ,e1 _ _ lA,aw (fun a b (z:df H' a b)=>(e1 _ _ z:df _ a b)) xE,oN rs i hA.int,xn hA LM,by omega,fun z=>(by cases z),fun _ z=>absurd z ho,e.trans e1⟩
    ·rintro σ H' ⟨d',ju,v6,v7,gs,rfl,vM,eQ,lA,xE,wG,M3,Ly,e⟩
     rw[List.length_map,UK] at Ly M3
     rw[List.length_map,UK] at eQ
     rw[List.take_length] at M3 eQ
     exact hN _ _ ⟨false,d',cz kvs rs,ju,_,_,rfl,vM,eQ,lA,xE,nB rs hA.int,xn hA hR,by rw[nC hA hR];omega,fun _=>⟨rfl,Ie rs kvs hA.nn hR fun i r hi=>Ly i r (List.getElem?_eq_some_iff.mp hi).1 hi,gs,wG,M3⟩,fun z=>(by cases z),e⟩
  ·rintro σ' H5 ⟨sh,d',W,ju,v6,v7,rfl,EG,Rl,kn,xE,UL,UM,hlW,hsF,hsT,e5⟩
   cases sh with
   |true=>
    refine⟨_,rfl,_,rfl,fI ?_⟩
    refine⟨_,rfl,_,rfl,st,ju,_,rfl,EG,ku _ _ (by decide+kernel) (by decide+kernel),st,d',g,W,rfl,⟨ju,EG⟩,Rl,UL,UM,hlW,fun ue H7 Rw P8 e7=>⟨(by show 2≤sizeLine;decide),fun tt CD=>?_⟩⟩
    have s8:=au.new (o:= .tup [.bl true, .ref ue]) CD
    exact q tt ue true W _ (none_back e5 Rw) aa (s8 _ _ P8) (fun z=>by cases z) hsT ((e5.trans e7).trans s8)
   |false=>
    obtain⟨eW,Iw,gs,hg5,M3⟩:=hsF rfl
    refine⟨_,rfl,_,rfl,iZ ?_⟩
    refine⟨_,rfl,st,ju,_,rfl,EG,ku _ _ (by decide+kernel) (by decide+kernel),st,d',g,gs,rs,rfl,⟨ju,EG⟩,hg5,M3,by omega,fun lw us2 H6 nlw hlw hPu2 e6=>?_⟩
    refine⟨_,rfl,ph rs,ph rs, .lst (bJ.of hlw) (xg hPu2), .lst (bJ.of (e6 _ _ kn)) (xg (aw (fun a b (z:df H5 a b)=>(e6 _ _ z:df _ a b)) xE)),hro.1,hro.1,_,rfl,?_⟩
    rw[hro.2]
    refine fI ?_
    refine⟨_,rfl,_,rfl,st,ju,_,rfl,e6 _ _ EG,ku _ _ (by decide+kernel) (by decide+kernel),st,d',g,W,rfl,⟨ju,e6 _ _ EG⟩,e6 _ _ Rl,UL,UM,hlW,fun ue H7 Rw P8 e7=>⟨(by show 2≤sizeLine;decide),fun tt CD=>?_⟩⟩
    have s8:=au.new (o:= .tup [.bl false, .ref ue]) CD
    exact q tt ue false W _ (none_back (e5.trans e6) Rw) aa (s8 _ _ P8) (fun _=>⟨eW,Iw⟩) (fun z=>by cases z) (((e5.trans e6).trans e7).trans s8)
variable {uC uP uI uD uL uT fb fe fg uG uS:Tok}{Ch HE Sh St:Addr}
inductive P9(K:PySem.W.Frag)(vs:List V)(H:Hp)(Q:VK)(E:XK):Prop
 |mk (a:Addr) (ns:List Int) (dR:vs=[.ref a]) (dS:bJ K H a (ns.map V.int)) (dW:ns.length≤63) (eZ:∀H',Q (.bl true) H')
def CG(K:PySem.W.Frag):Sp:=P9 K
theorem kE:ay ["_law_script","_law_world_here","_law_amounts_here","_law_k","_law_text_here","_law_cell","_law_row_here","_law_at_once","_law_due","_law_some","_law_told"] ["_law_script"] (aj vY):=dA
theorem Iy{kvs:List (Key×V)}(hI:bu kvs)(hn:(kvs.map (·.1)).Nodup):kvs.map (·.2)=(kvs.map fun q=>aM kvs q.1).map V.int:=by
 rw[List.map_map]
 refine List.map_congr_left fun q hq=>?_
 obtain⟨z,ez⟩:=hI q hq
 have h1:bW kvs q.1=some q.2:=fw hn hq
 rw[ez] at h1 ⊢
 show V.int z=V.int (aM kvs q.1)
 rw[dB h1]
theorem P'{f:Addr}{fd:FuncData}(F:EM K "law" "law" vY f fd)(T:Ik K mg C R G Pc Fo St HE Sh uK uN uB uE uM uC uP uI uD uL uT)
  (c1:bj P w K mg base 3 "_law_world" ["_law_script"] (Ci K)) (c2:bj P w K mg base 1 "_law_texts" ["_law_world_here"] Ck) (c3:bj P w K mg base 1 "_law_cell_at" ["_law_script","_law_k"] (mS K)) (c4:bj P w K mg base 2 "_law_row" ["_law_script","_law_world_here"] (MZ K)) (c5:bj P w K mg base 2 "_law_turned" ["_law_row_here","_law_script"] (u9 K)) (c6:bj P w K mg base 19 "_law_gone" ["_law_amounts_here","_law_row_here","_law_at_once"] CF) (c7:bj P w K mg base 2 "_law_added" ["_law_amounts_here","_law_row_here"] CB) (c8:bj P w K mg base 2 "_law_amounts" ["_law_found","_law_due"] HK):
  fj P w K mg base qy 20 f fd ["_law_script"] (CG K):=by
 obtain⟨_,_,lh⟩:=c1
 obtain⟨_,_,lj⟩:=c2
 obtain⟨_,_,a6⟩:=c3
 obtain⟨_,_,qg⟩:=c4
 obtain⟨_,_,jM⟩:=c5
 obtain⟨_,_,nH⟩:=c6
 obtain⟨_,_,ll⟩:=c7
 obtain⟨_,_,dj⟩:=c8
 refine F.ok kE (fun vs H Q E h=>?_) (fun bp A outer s H vs Q E hr h=>?_)
 ·obtain⟨a,ns,rfl,_⟩:=h
  rfl
 ·obtain⟨a,ns,rfl,hS,hlen,q⟩:=h
  have hu:=dz hr
  have Tx:=hr.nR
  have UI:=hr.units
  have big:(2000 :Nat)≤sizeLine:=by decide
  refine⟨_,(ai
     (aB (i:=1) kE.nd rfl (Or.inl rfl) (aJ lh.ok (hr.mono (by decide)) rfl lh.g lh.kp lh.b .nil az (af (pv 0) ak)))
    (ai
     (aB (i:=2) kE.nd rfl (Or.inl rfl) dw)
    (ai
     (bO PassesOwn.never rfl (Bm rfl T.kz (af (aJ lj.ok (hr.mono (by decide)) rfl lj.g lj.kp lj.b .nil az (af (pv 1) ak)) ak)) (fi rfl (aQ (aD (i:=3) kE.nd rfl (Or.inl rfl)) (aQ (aD (i:=4) kE.nd rfl (Or.inl rfl)) cK)))
      (ai
       (aB (i:=5) kE.nd rfl (Or.inl rfl) (aJ a6.ok (hr.mono (by decide)) rfl a6.g a6.kp a6.b .nil az (af (pv 0) (af (aA bR aq (pv 3)) ak))))
      (ao
       (cZ hu (pv 2) (pv 4) (aA b6 (aA cE (pv 5) aq) (cf cQ (cA (af aq (af (aA E9 aq aq) ak))) (bI nP rfl T.yk qC (af (mf jY (aA b6 (pv 5) aq) aq (aX _)) ak)) (fun _ _=>rfl))) rfl))))
    (ai
     (aB (i:=6) kE.nd rfl (Or.inl rfl) (aJ qg.ok (hr.mono (by decide)) rfl qg.g qg.kp qg.b .nil az (af (pv 0) (af (pv 1) ak))))
    (ai
     (aB (i:=7) kE.nd rfl (Or.inl rfl) (mf d9 (aA b6 (aJ a6.ok (hr.mono (by decide)) rfl a6.g a6.kp a6.b .nil az (af (pv 0) (af aq ak))) aq) aq (aX _)))
    (ai
     (aB (i:=8) kE.nd rfl (Or.inl rfl) (aJ ll.ok (hr.mono (by decide)) rfl ll.g ll.kp ll.b .nil az (af (pv 2) (af (pv 6) ak))))
    (ai
     (bO PassesOwn.never rfl (bX (cA (af (pv 6) (af (aJ jM.ok (hr.mono (by decide)) rfl jM.g jM.kp jM.b .nil az (af (pv 6) (af (pv 0) ak))) ak)))) (aD (i:=9) kE.nd rfl (Or.inl rfl))
      (ai
       (aB (i:=10) kE.nd rfl (Or.inl rfl) (aJ nH.ok (hr.mono (by decide)) rfl nH.g nH.kp nH.b .nil az (af (pv 2) (af (pv 9) (af (pv 7) ak)))))
      (ai
       (bN (vj (E6 (pv 10)))
        (ao
         (aE jT))
        aY)
      (ai
       (bN (PW.pt (lM (jU (fK (cf gu (pv 10) aq (fun _ _=>rfl)))) (kG (PW.pt (xO (aO me (bS (Dp rfl) rfl T.HB FF (af (F7 rfl rfl T.n_list (pv 8)) ak)) aq (aX _)) (vk (jU (fK (aJ dj.ok (hr.mono (by decide)) rfl dj.g dj.kp dj.b .nil az (af (cf gu (pv 10) aq (fun _ _=>rfl)) (af (pv 8) ak)))))))))))
        (ao
         (aE jT))
        aY)
      (ao
       (bN (PW.pt (lM (fK (cf gu (pv 10) aq (fun _ _=>rfl))) (lM (fK (pv 7)) (kG (jU (fK (aJ dj.ok (hr.mono (by decide)) rfl dj.g dj.kp dj.b .nil az (af (cf gu (pv 10) aq (fun _ _=>rfl)) (af (pv 2) ak)))))))))
        (ao
         (aE jT))
        aY))))))
    (ao
     (aE jT))))))))),?_⟩
  refine⟨_,rfl,a,ns,rfl,hS,hlen,fun wl ws H1 hW aV xf h3 e1=>?_⟩
  refine fun am Cd=>?_
  have s4:=au.new (o:= .dK []) Cd
  have UN:(upd H1 am (.dK [])) am=some (.dK []):=aa
  have hS4:=(e1.trans s4).seq hS
  have hW4:=hW.same s4
  generalize upd H1 am (.dK [])=H4 at s4 UN hS4 hW4 ⊢
  dsimp only [cN]
  refine⟨_,rfl,wl,ws,rfl,hW4,aV,h3,fun tl us H5 AK Q9 Dd hu1 hu2 e5=>?_⟩
  have Qa:=e5 _ _ UN
  have nta:tl≠am:=cG AK Qa (by intro z;cases z)
  have eH:au H1 H5:=s4.trans e5
  refine⟨tl,rfl,⟨_,bJ.of AK⟩,x8 (K:=K) (a:=tl) (xs:=us.map V.str) (fun i σ H'=>∃(kvs:List (Key×V)) (v3 v4 v5:Option V),σ=[some (.ref a),some (.ref wl),some (.ref am),v3,v4,v5,none,none,none,none,none]∧H' am=some (.dK kvs)∧H' tl=some (.lst (us.map V.str))∧bu kvs∧(kvs.map (·.1)).Nodup∧pf ws kvs∧(∀s∈us.take i,(Sum.inr s:Key)∈kvs.map (·.1))∧(∀k,0≤aM kvs k)∧kvs.length≤i∧au H1 H') ?_ (fun i σ H' ⟨_,_,_,_,_,_,z,_⟩=>bJ.of z) ?_ ?_⟩
  ·exact⟨[],none,none,none,rfl,Qa,AK,(fun p hp=>by cases hp),List.nodup_nil,(fun p hp=>by cases hp),(fun p hp=>by cases hp),fun k=>Int.le_refl _,Nat.le_refl _,eH⟩
  ·rintro i v p σ H' hi hp ⟨kvs,v3,v4,v5,rfl,ham',htl',hI,hn,hT,sN,Iw,hl,e⟩
   rw[List.getElem?_map] at hi
   obtain⟨x,hx,rfl⟩:∃p,us[i]? =some p∧v=V.str p:=by
    cases hh:us[i]? with
    |none=>rw[hh] at hi;cases hi
    |some p=>rw[hh] at hi;exact⟨p,rfl,(Option.some.inj hi).symm⟩
   have zt:i<us.length:=(List.getElem?_eq_some_iff.mp hx).1
   have hTx:=Q9 x (List.mem_of_getElem? hx)
   have s6:=au.new (o:= .tup [.int i, .str x]) hp
   have EH:=s6 _ _ ham'
   have LS:=s6 _ _ htl'
   have e6:=e.trans s6
   refine⟨p,_,rfl,ir.of aa,rfl,_,_,rfl,_,_,rfl,rfl,?_⟩
   generalize upd H' p (.tup [.int i, .str x])=H6 at EH LS e6 ⊢
   have ek:(7 :Int)+(i:Int)=((7+i:Nat):Int):=by omega
   refine⟨_,rfl,_,rfl,_,_,rfl,rfl,a,ns,7+i,by rw[←ek];rfl,(e1.trans e6).seq hS,hlen,fun n8=>?_⟩
   refine⟨_,rfl,_,_,rfl,rfl,⟨by decide,by decide⟩,_,_,rfl,rfl,⟨by decide,by decide,by decide⟩,(by show 2≤sizeLine;decide),fun y hy=>?_⟩
   have s7:=au.new (o:= .lst [V.int 401,V.int (10^(30 :Int).toNat)]) hy
   have UO:=s7 _ _ EH
   have UP:=s7 _ _ LS
   have e7:=e6.trans s7
   have hy7:(upd H6 y (.lst [V.int 401,V.int (10^(30 :Int).toNat)])) y=some (.lst [V.int 401,V.int (10^(30 :Int).toNat)]):=aa
   dsimp only
   generalize upd H6 y (.lst [V.int 401,V.int (10^(30 :Int).toNat)])=H7 at UO UP e7 hy7 ⊢
   obtain⟨z,z0,KZ⟩:∃z:Int,0<z∧zO [V.int 401,V.int (10^(30 :Int).toNat)] (if decide (n8%4>0)=true then 1 else 0)=some (V.int z):=by
    split
    ·exact⟨_,by decide,rfl⟩
    ·exact⟨_,by decide,rfl⟩
   refine⟨_,rfl,_,_,rfl,rfl,(by show (0 :Int) <4;decide),_,_,rfl,rfl, .inr ⟨_,rfl,y,_,_,V.int z,rfl,rfl,bJ.of hy7,KZ,_,_,rfl,rfl,z0,?_⟩⟩
   have qx:(putK kvs (Sum.inr x) (V.int (n8/4%z))).length≤kvs.length+1:=cp _ _ _
   refine⟨_,rfl,_,rfl,am,_,rfl,jh.k (k:=Sum.inr x) UO (by omega),?_⟩
   refine⟨_,_,_,_,rfl,aa,by rw[ah nta];exact UP,hI.put _ _,wb hn,hT.put hTx _,fun s hs=>?_,fun k=>?_,Nat.le_trans (cp _ _ _) (by omega),fun b o z=>?_⟩
   ·rw[take_snoc hx] at hs
    rcases List.mem_append.mp hs with hs|hs
    ·exact il (sN s hs)
    ·have es:s=x:=by simpa using hs
     rw[es]
     exact qd _ _ _
   ·rw[iF]
    split
    ·exact Int.emod_nonneg _ (by omega)
    ·exact Iw k
   ·rw[ah (ag z Cd)]
    exact e7 _ _ z
  rintro σ H6 ⟨kvs,v3,v4,v5,rfl,EH,LS,hI,hn,hT,sN,Iw,hl,e6⟩
  rw[List.length_map] at sN hl
  rw[List.take_length] at sN
  have hA:PY ws kvs:=⟨hI,hn,hT,fun s hs=>sN s (Dd s hs),Iw,by omega⟩
  have hpos:0<kvs.length:=by
   cases hk:kvs with
   |nil=>
    match us,hu1,sN with
    |u::us,_,sN=>
     have:=sN u (List.mem_cons_self ..)
     rw[hk] at this
     cases this
   |cons p r=>exact Nat.succ_pos _
  have e06:=e1.trans e6
  have hW6:=hW.same e6
  clear sN Iw hl LS AK Dd Q9 Qa
  refine⟨_,rfl,_,rfl,a,wl,ns,ws,rfl,e06.seq hS,hlen,hW6,aV,xf,h3,fun rl ts rs H7 sF hP hR Zu e7=>?_⟩
  refine⟨_,rfl,a,ns,6,rfl,(e06.trans e7).seq hS,hlen,fun n6=>⟨_,_,rfl,rfl,(by show (0 :Int) <2;decide),rfl,?_⟩⟩
  dsimp only [cN]
  generalize decide (V.int (n6%2)=V.int 0)=once
  refine⟨_,rfl,_,rfl,am,rl,ws,kvs,ts,rs,rfl,e7 _ _ EH,hA,sF,hP,hR,Zu,fun du H8 ndu hdu e8=>?_⟩
  have ham8:=e8 _ _ (e7 _ _ EH)
  have nda:am≠du:=ag (e7 _ _ EH) ndu
  have e08:=(e06.trans e7).trans e8
  refine⟨_,rfl,_,rfl,_,rfl,rl,a,ns,ws,ts,rs,rfl,e08.seq hS,hlen,e8 _ _ sF,aw (fun _ _ z=>z.same e8) hP,hR,Zu,fun Rx us2 ZC H9 hrl2 hP2 gP qx htot e9=>?_⟩
  have e89:=e8.trans e9
  have hrl9:=e89 _ _ sF
  have hP9:Paired (oS H9) ts rs:=aw (fun _ _ z=>z.same e89) hP
  have ham9:=e9 _ _ ham8
  have hdu9:=e9 _ _ hdu
  refine⟨(by show 2≤sizeLine;decide),fun ol hol=>?_⟩
  have Fx:=au.new (o:= .lst [.ref rl, .ref Rx]) hol
  have Iz:(upd H9 ol (.lst [.ref rl, .ref Rx])) ol=some (.lst [.ref rl, .ref Rx]):=aa
  have CH:=Fx _ _ ham9
  have IA:=Fx _ _ hdu9
  have M4:=Fx _ _ hrl9
  have IB:=Fx _ _ hrl2
  have UQ:Paired (oS _) ts rs:=aw (fun _ _ z=>z.same Fx) hP9
  have M5:Paired (oS _) us2 ZC:=aw (fun _ _ z=>z.same Fx) hP2
  generalize upd H9 ol (.lst [.ref rl, .ref Rx])=J7 at Fx Iz CH IA M4 IB UQ M5 ⊢
  have UR:cz kvs ZC=cz kvs rs:=LN hA hR (nB ZC hA.int) (ip hA.all gP) fun k=>by rw[LK,htot]
  have hlD:(cz kvs rs).length=kvs.length:=nC hA hR
  have hlA:=hA.len
  refine⟨ol,rfl,⟨_,bJ.of Iz⟩,c9 (K:=K) (a:=ol) (xs:=[.ref rl, .ref Rx]) (fun i σ H'=>∃(v9 v10:Option V),σ=[some (.ref a),some (.ref wl),some (.ref am),v3,v4,v5,some (.ref rl),some (.bl once),some (.ref du),v9,v10]∧au J7 H') ⟨none,none,rfl,au.refl _⟩ (fun i σ H' _ ⟨_,_,_,z⟩=>bJ.of (z _ _ Iz)) ?_ ?_⟩
  ·rintro i x σ H' hi ⟨v9,v10,rfl,e⟩
   obtain⟨sl,ZD,md,rfl,Ri,hPs,hRs,hls,hes⟩:∃(sl:Addr) (ZD:List Addr) (md:List bU),x=V.ref sl∧J7 sl=some (.lst (ZD.map V.ref))∧Paired (oS J7) ZD md∧(∀r∈md,sW ws r)∧md.length≤12∧cz kvs md=cz kvs rs:=by
    match i,hi with
    |0,hi=>exact⟨rl,ts,rs,(Option.some.inj hi).symm,M4,UQ,hR,by omega,rfl⟩
    |1,hi=>exact⟨Rx,us2,ZC,(Option.some.inj hi).symm,IB,M5,gP,qx,UR⟩
   refine⟨_,rfl,_,rfl,_,rfl,am,sl,once,ws,kvs,ZD,md,rfl,aV,e _ _ CH,hA,e _ _ Ri,aw (fun _ _ z=>z.same e) hPs,hRs,hls,fun tt ue sh W H12 Rw CD P8 hF hTr AJ=>?_⟩
   have IC:=e.trans AJ
   have US:=IC _ _ CH
   have M6:=IC _ _ IA
   have nua:ue≠am:=Ne.symm (ag (e _ _ CH) Rw)
   have nud:ue≠du:=Ne.symm (ag (e _ _ IA) Rw)
   refine⟨_,rfl,_,rfl,fI ?_⟩
   cases sh with
   |true=>
    refine⟨_,rfl,tt,_,_, .bl true,rfl,rfl,ir.of CD,rfl,_,rfl,fI ?_⟩
    refine⟨_,rfl,tt,_,_, .bl true,rfl,rfl,ir.of CD,rfl,_,rfl,iZ ⟨_,rfl,_,rfl,fu (fun ho=>?_) fun ho=>?_⟩⟩
    ·rw[hTr rfl ho] at P8
     refine⟨_,rfl,tt,_,_, .ref ue,rfl,rfl,ir.of CD,rfl,_,rfl,ue,am,kvs,rfl,P8,US,nua,hA.int,hA.nd,by omega,fun H13 Lg=>⟨_,rfl,fI ?_⟩⟩
     exact⟨_,_,rfl,IC.trans Lg⟩
    ·exact⟨_,_,rfl,IC⟩
   |false=>
    obtain⟨eW,Iw⟩:=hF rfl
    rw[hes] at eW Iw
    subst eW
    have UL:=nB rs hA.int
    have UM:=xn hA hR
    refine⟨_,rfl,tt,_,_, .bl false,rfl,rfl,ir.of CD,rfl,_,rfl,iZ ?_⟩
    refine⟨_,rfl,du,_,rfl,M6,fun vl hvl=>?_⟩
    rw[Iy UL UM]
    have UT:=au.new (o:= .lst (((cz kvs rs).map fun q=>aM (cz kvs rs) q.1).map V.int)) hvl
    refine⟨vl,_,rfl,bJ.of aa,by rw[List.length_map,hlD];exact hpos,fun M hM _=>?_⟩
    obtain⟨qm,_,eM⟩:=List.mem_map.mp hM
    have hM0:0≤M:=by rw[←eM];exact Iw _
    refine⟨_,_,rfl,rfl,_,rfl,fu (fun hc=>?_) fun _=>?_⟩
    ·have hc:M<0:=by simpa using hc
     omega
    refine⟨_,rfl,tt,_,_, .ref ue,rfl,rfl,ir.of (UT _ _ CD),rfl,_,rfl,ue,du,cz kvs rs,rfl,UT _ _ P8,UT _ _ M6,nud,UL,UM,by omega,fun H13 Lg=>⟨_,rfl,fI ?_⟩⟩
    refine⟨_,rfl,tt,_,_, .bl false,rfl,rfl,ir.of (Lg _ _ (UT _ _ CD)),rfl,_,rfl,fI ?_⟩
    exact⟨_,_,rfl,(IC.trans UT).trans Lg⟩
  ·rintro σ H' _
   exact q H'
end
theorem all_mk{l:PySem.W.OpenLaw}{w:World}{K:PySem.W.Frag}{h:Heap}{mg:Str→Option Value}{fa C Gr Pc Fo Rd Rc Ch St HE Sh UU UW UX UY UZ CI U0 LU U1 LV U2 U3 U4 LW U5 Qb Qc Qd Qe U6 Qf Qg ID Qh Qi IE Qj Qk IF U7 U8 U9 U' Va Vb Vc Vd Ve Vf M7 M8 M9 IG Vg Vh Vi Vj Vk Vl Vm Vn Na CJ LX Vo Vp LY Vq Vr Vs Vt Vu Vv Vw Vx Vy Vz VA VB VC VD VE VF VG VH VI Ql:Addr}(X:K.In h)(G:h.Ns mainGlobals mg)(hfa:mg "law" =some (.ref fa))
  {Qm A2 VJ IH VL II VM IJ VN IK VO IL VP Nb:Option Addr} {Qn VQ VR VS VT VU VW:Array (Option Value)} {Qo A3 A4 A5 xr A6 VX IM IP IQ CK IS VY IT IU IV CL IW VZ IX IY IZ CM Ja V0 Jb Jc Jd CN Je V1 Jf Jg Jh CO Ji V2 Nc Nd Nf Jj Ng:Value}
  {xt:Addr} {LZ:Value} {L0:Option Addr} {L1:Array (Option Value)} {Qq:Nat} {Jk:Tok}
  {CP:Addr} {Qr:Value} {Qs:Option Addr} {Qt:Array (Option Value)} {V3:Nat} {Nh:Tok}
  {CQ:Addr} {Qu:Value} {Qv:Option Addr} {Qw:Array (Option Value)} {V4:Nat} {Ni:Tok}
  {CS:Addr} {Qx:Value} {Qy:Option Addr} {Qz:Array (Option Value)} {V5:Nat} {Nj:Tok}
  {CT:Addr} {QA:Value} {QB:Option Addr} {QC:Array (Option Value)} {V6:Nat} {Nk:Tok}
  {CU:Addr} {QD:Value} {QE:Option Addr} {QF:Array (Option Value)} {V7:Nat}
  {uK uN uB uE uM uC uP uI uD uL uT fb fe fg uG uS:Tok}
  (aC:PySem.W.nsIn K mainGlobals "Atom" =some (some (.ref C)))
  (aGr:PySem.W.nsIn K mainGlobals "Group" =some (some (.ref Gr)))
  (aPc:PySem.W.nsIn K mainGlobals "Piece" =some (some (.ref Pc)))
  (aFo:PySem.W.nsIn K mainGlobals "Formula" =some (some (.ref Fo)))
  (aRd:PySem.W.nsIn K mainGlobals "Reader" =some (some (.ref Rd)))
  (aRc:PySem.W.nsIn K mainGlobals "ChangeReader" =some (some (.ref Rc)))
  (aCh:PySem.W.nsIn K mainGlobals "Change" =some (some (.ref Ch)))
  (aSt:PySem.W.nsIn K mainGlobals "Store" =some (some (.ref St)))
  (aHE:PySem.W.nsIn K mainGlobals "HallError" =some (some (.ref HE)))
  (aSh:PySem.W.nsIn K mainGlobals "Short" =some (some (.ref Sh)))
  (axig:PySem.W.nsIn K mainGlobals "is_great" =some (some (.ref UU)))
  (lxig:dI K "is_great" "is_great" vN UU)
  (axis:PySem.W.nsIn K mainGlobals "is_small" =some (some (.ref UW)))
  (lxis:dI K "is_small" "is_small" vO UW)
  (axif:PySem.W.nsIn K mainGlobals "is_figure" =some (some (.ref UX)))
  (lxif:dI K "is_figure" "is_figure" pO UX)
  (axcs:PySem.W.nsIn K mainGlobals "count_shown" =some (some (.ref UY)))
  (lxcs:dI K "count_shown" "count_shown" iy UY)
  (axps:PySem.W.nsIn K mainGlobals "parts_shown" =some (some (.ref UZ)))
  (lxps:dI K "parts_shown" "parts_shown" kM UZ)
  (V8:PySem.W.findIn K (.ref C) "__init__" =some (some (.ref CI)))
  (V9:PySem.W.isFn K (.ref CI)=true)
  (V':K.lookup CI=some ⟨Qo,Qm, .func (PySem.W.fnOf "__init__" "Atom.__init__" (bx i5) (aR i5) (aj i5) (.ref xt) A3 A4 A5 A2 xr A6),Qn⟩)
  (Nl:K.lookup xt=some ⟨LZ,L0, .seq #[.int 1 Jk] Qq,L1⟩)
  (Wa:PySem.W.codeIn K xr "Atom.__init__" =true)
  (Wb:PySem.W.keepIn K (.ref CI)=true)
  (axsh:PySem.W.findIn K (.ref C) "shown" =some (some (.ref U0)))
  (lxsh:dI K "shown" "Atom.shown" vP U0)
  (axgi:PySem.W.findIn K (.ref Gr) "__init__" =some (some (.ref LU)))
  (ixgi:PySem.W.isFn K (.ref LU)=true)
  (lxgi:K.lookup LU=some ⟨VX,VJ, .func (PySem.W.fnOf "__init__" "Group.__init__" (bx fN) (aR fN) (aj fN) (.ref CP) IM IP IQ IH CK IS),VQ⟩)
  (Wc:K.lookup CP=some ⟨Qr,Qs, .seq #[.int 1 Nh] V3,Qt⟩)
  (cxgi:PySem.W.codeIn K CK "Group.__init__" =true)
  (kxgi:PySem.W.keepIn K (.ref LU)=true)
  (axgs:PySem.W.findIn K (.ref Gr) "shown" =some (some (.ref U1)))
  (lxgs:dI K "shown" "Group.shown" kN U1)
  (axpi:PySem.W.findIn K (.ref Pc) "__init__" =some (some (.ref LV)))
  (ixpi:PySem.W.isFn K (.ref LV)=true)
  (lxpi:K.lookup LV=some ⟨VY,VL, .func (PySem.W.fnOf "__init__" "Piece.__init__" (bx fO) (aR fO) (aj fO) (.ref CQ) IT IU IV II CL IW),VR⟩)
  (Wd:K.lookup CQ=some ⟨Qu,Qv, .seq #[.int 1 Ni] V4,Qw⟩)
  (cxpi:PySem.W.codeIn K CL "Piece.__init__" =true)
  (kxpi:PySem.W.keepIn K (.ref LV)=true)
  (axpS:PySem.W.findIn K (.ref Pc) "shown" =some (some (.ref U2)))
  (lxpS:dI K "shown" "Piece.shown" iz U2)
  (axtl:PySem.W.nsIn K mainGlobals "refuse_too_long" =some (some (.ref U3)))
  (lxtl:dI K "refuse_too_long" "refuse_too_long" mC U3)
  (axch:PySem.W.nsIn K mainGlobals "charge_shown" =some (some (.ref U4)))
  (lxch:dI K "charge_shown" "charge_shown" gM U4)
  (axfi:PySem.W.findIn K (.ref Fo) "__init__" =some (some (.ref LW)))
  (ixfi:PySem.W.isFn K (.ref LW)=true)
  (lxfi:K.lookup LW=some ⟨VZ,VM, .func (PySem.W.fnOf "__init__" "Formula.__init__" (bx fP) (aR fP) (aj fP) (.ref CS) IX IY IZ IJ CM Ja),VS⟩)
  (We:K.lookup CS=some ⟨Qx,Qy, .seq #[.int 0 Nj] V5,Qz⟩)
  (cxfi:PySem.W.codeIn K CM "Formula.__init__" =true)
  (kxfi:PySem.W.keepIn K (.ref LW)=true)
  (axfS:PySem.W.findIn K (.ref Fo) "shown" =some (some (.ref U5)))
  (lxfS:dI K "shown" "Formula.shown" mD U5)
  (axri:PySem.W.findIn K (.ref Rd) "__init__" =some (some (.ref Qb)))
  (Wf:dI K "__init__" "Reader.__init__" qP Qb)
  (axrs:PySem.W.findIn K (.ref Rd) "sign" =some (some (.ref Qc)))
  (Wg:dI K "sign" "Reader.sign" yg Qc)
  (axrt:PySem.W.findIn K (.ref Rd) "take" =some (some (.ref Qd)))
  (Wh:dI K "take" "Reader.take" yh Qd)
  (axra:PySem.W.findIn K (.ref Rd) "take_all" =some (some (.ref Qe)))
  (Wi:dI K "take_all" "Reader.take_all" j7 Qe)
  (axre:PySem.W.findIn K (.ref Rd) "take_end" =some (some (.ref U6)))
  (lxre:dI K "take_end" "Reader.take_end" mF U6)
  (axrw:PySem.W.findIn K (.ref Rd) "read_whole" =some (some (.ref Qf)))
  (Wj:dI K "read_whole" "Reader.read_whole" mG Qf)
  (axrl:PySem.W.findIn K (.ref Rd) "read_electron" =some (some (.ref Qg)))
  (Wk:dI K "read_electron" "Reader.read_electron" g8 Qg)
  (Wl:PySem.W.findIn K (.ref Rd) "read_parts" =some (some (.ref ID)))
  (Nm:dI K "read_parts" "Reader.read_parts" kO ID)
  (axrp:PySem.W.findIn K (.ref Rd) "read_part" =some (some (.ref Qh)))
  (Wm:dI K "read_part" "Reader.read_part" n5 Qh)
  (axrg:PySem.W.findIn K (.ref Rd) "read_group" =some (some (.ref Qi)))
  (Wn:dI K "read_group" "Reader.read_group" jo Qi)
  (Wo:PySem.W.findIn K (.ref Rd) "read_atom" =some (some (.ref IE)))
  (Nn:dI K "read_atom" "Reader.read_atom" qQ IE)
  (axrc:PySem.W.findIn K (.ref Rd) "read_count" =some (some (.ref Qj)))
  (Wq:dI K "read_count" "Reader.read_count" mH Qj)
  (axrn:PySem.W.findIn K (.ref Rd) "read_number" =some (some (.ref Qk)))
  (Wr:dI K "read_number" "Reader.read_number" j8 Qk)
  (Ws:PySem.W.findIn K (.ref Rd) "read_charge" =some (some (.ref IF)))
  (Np:dI K "read_charge" "Reader.read_charge" j9 IF)
  (axrf:PySem.W.nsIn K mainGlobals "read_formula" =some (some (.ref U7)))
  (lxrf:dI K "read_formula" "read_formula" kQ U7)
  (axpc:PySem.W.nsIn K mainGlobals "parts_counts" =some (some (.ref U8)))
  (lxpc:dI K "parts_counts" "parts_counts" i4 U8)
  (axco:PySem.W.findIn K (.ref C) "counts" =some (some (.ref U9)))
  (lxco:dI K "counts" "Atom.counts" pP U9)
  (axgc:PySem.W.findIn K (.ref Gr) "counts" =some (some (.ref U')))
  (lxgc:dI K "counts" "Group.counts" i6 U')
  (axpC:PySem.W.findIn K (.ref Pc) "counts" =some (some (.ref Va)))
  (lxpC:dI K "counts" "Piece.counts" gL Va)
  (axfC:PySem.W.findIn K (.ref Fo) "counts" =some (some (.ref Vb)))
  (lxfC:dI K "counts" "Formula.counts" mE Vb)
  (axci:PySem.W.findIn K (.ref Ch) "__init__" =some (some (.ref Vc)))
  (lxci:dI K "__init__" "Change.__init__" vQ Vc)
  (axam:PySem.W.nsIn K mainGlobals "formula_amounts" =some (some (.ref Vd)))
  (lxam:dI K "formula_amounts" "formula_amounts" mI Vd)
  (axkd:PySem.W.findIn K (.ref Ch) "kinds" =some (some (.ref Ve)))
  (lxkd:dI K "kinds" "Change.kinds" vR Ve)
  (axrm:PySem.W.findIn K (.ref Rc) "read_term" =some (some (.ref Vf)))
  (lxrm:dI K "read_term" "ChangeReader.read_term" vS Vf)
  (Wt:PySem.W.findIn K (.ref Rc) "read_lefts" =some (some (.ref M7)))
  (Wu:dI K "read_lefts" "ChangeReader.read_lefts" pQ M7)
  (Wv:PySem.W.findIn K (.ref Rc) "read_rights" =some (some (.ref M8)))
  (Ww:dI K "read_rights" "ChangeReader.read_rights" mJ M8)
  (Wx:PySem.W.findIn K (.ref Rc) "read_sides" =some (some (.ref M9)))
  (Wy:dI K "read_sides" "ChangeReader.read_sides" pR M9)
  (QG:PySem.W.nsIn K mainGlobals "read_change" =some (some (.ref IG)))
  (QH:dI K "read_change" "read_change" mK IG)
  (axsc:PySem.W.nsIn K mainGlobals "side_counts" =some (some (.ref Vg)))
  (lxsc:dI K "side_counts" "side_counts" iA Vg)
  (axgn:PySem.W.nsIn K mainGlobals "gains" =some (some (.ref Vh)))
  (lxgn:dI K "gains" "gains" qR Vh)
  (axsa:PySem.W.nsIn K mainGlobals "side_amounts" =some (some (.ref Vi)))
  (lxsa:dI K "side_amounts" "side_amounts" gN Vi)
  (axlo:PySem.W.findIn K (.ref Ch) "lost" =some (some (.ref Vj)))
  (lxlo:dI K "lost" "Change.lost" tV Vj)
  (axev:PySem.W.nsIn K mainGlobals "read_even" =some (some (.ref Vk)))
  (lxev:dI K "read_even" "read_even" kR Vk)
  (axto:PySem.W.nsIn K mainGlobals "turns_of" =some (some (.ref Vl)))
  (lxto:dI K "turns_of" "turns_of" mL Vl)
  (axmo:PySem.W.nsIn K mainGlobals "most_turns" =some (some (.ref Vm)))
  (lxmo:dI K "most_turns" "most_turns" fQ Vm)
  (axtu:PySem.W.nsIn K mainGlobals "turned" =some (some (.ref Vn)))
  (lxtu:dI K "turned" "turned" pS Vn)
  (Wz:PySem.W.nsIn K mainGlobals "refuse_short" =some (some (.ref Na)))
  (WA:dI K "refuse_short" "refuse_short" gO Na)
  (WB:PySem.W.findIn K (.ref Sh) "__init__" =some (some (.ref CJ)))
  (WC:dI K "__init__" "Short.__init__" vT CJ)
  (axsi:PySem.W.findIn K (.ref St) "__init__" =some (some (.ref LX)))
  (ixsi:PySem.W.isFn K (.ref LX)=true)
  (lxsi:K.lookup LX=some ⟨V0,VN, .func (PySem.W.fnOf "__init__" "Store.__init__" (bx fR) (aR fR) (aj fR) (.ref CU) Jb Jc Jd IK CN Je),VT⟩)
  (WD:K.lookup CU=some ⟨QD,QE, .seq #[.none] V7,QF⟩)
  (cxsi:PySem.W.codeIn K CN "Store.__init__" =true)
  (kxsi:PySem.W.keepIn K (.ref LX)=true)
  (axsv:PySem.W.findIn K (.ref St) "have" =some (some (.ref Vo)))
  (lxsv:dI K "have" "Store.have" Br Vo)
  (axsp:PySem.W.findIn K (.ref St) "put" =some (some (.ref Vp)))
  (lxsp:dI K "put" "Store.put" Kv Vp)
  (axso:PySem.W.findIn K (.ref St) "go" =some (some (.ref LY)))
  (ixso:PySem.W.isFn K (.ref LY)=true)
  (lxso:K.lookup LY=some ⟨V1,VO, .func (PySem.W.fnOf "go" "Store.go" (bx DA) (aR DA) (aj DA) (.ref CT) Jf Jg Jh IL CO Ji),VU⟩)
  (WE:K.lookup CT=some ⟨QA,QB, .seq #[.int 1 Nk] V6,QC⟩)
  (cxso:PySem.W.codeIn K CO "Store.go" =true)
  (WG:PySem.W.keepIn K (.ref LY)=true)
  (axsy:PySem.W.findIn K (.ref St) "go_all" =some (some (.ref Vq)))
  (lxsy:dI K "go_all" "Store.go_all" qS Vq)
  (axss:PySem.W.findIn K (.ref St) "stocks" =some (some (.ref Vr)))
  (lxss:dI K "stocks" "Store.stocks" mM Vr)
  (axsw:PySem.W.findIn K (.ref St) "went" =some (some (.ref Vs)))
  (lxsw:dI K "went" "Store.went" yi Vs)
  (axca:PySem.W.nsIn K mainGlobals "_law_cell_at" =some (some (.ref Vt)))
  (lxca:dI K "_law_cell_at" "_law_cell_at" pT Vt)
  (axmi:PySem.W.nsIn K mainGlobals "_law_mixed" =some (some (.ref Vu)))
  (lxmi:dI K "_law_mixed" "_law_mixed" vU Vu)
  (axwh:PySem.W.nsIn K mainGlobals "_law_whole" =some (some (.ref Vv)))
  (lxwh:dI K "_law_whole" "_law_whole" vV Vv)
  (axki:PySem.W.nsIn K mainGlobals "_law_kind" =some (some (.ref Vw)))
  (lxki:dI K "_law_kind" "_law_kind" Bs Vw)
  (axfg:PySem.W.nsIn K mainGlobals "_law_figures" =some (some (.ref Vx)))
  (lxfg:dI K "_law_figures" "_law_figures" mN Vx)
  (axlm:PySem.W.nsIn K mainGlobals "_law_matter" =some (some (.ref Vy)))
  (lxlm:dI K "_law_matter" "_law_matter" mO Vy)
  (axlw:PySem.W.nsIn K mainGlobals "_law_world" =some (some (.ref Vz)))
  (lxlw:dI K "_law_world" "_law_world" n9 Vz)
  (axlc:PySem.W.nsIn K mainGlobals "_law_change" =some (some (.ref VA)))
  (lxlc:dI K "_law_change" "_law_change" j' VA)
  (axlt:PySem.W.nsIn K mainGlobals "_law_text" =some (some (.ref VB)))
  (lxlt:dI K "_law_text" "_law_text" Bt VB)
  (axlk:PySem.W.nsIn K mainGlobals "_law_asked" =some (some (.ref VC)))
  (lxlk:dI K "_law_asked" "_law_asked" vW VC)
  (axlx:PySem.W.nsIn K mainGlobals "_law_texts" =some (some (.ref VD)))
  (lxlx:dI K "_law_texts" "_law_texts" vX VD)
  (axla:PySem.W.nsIn K mainGlobals "_law_amounts" =some (some (.ref VE)))
  (lxla:dI K "_law_amounts" "_law_amounts" i7 VE)
  (axlr:PySem.W.nsIn K mainGlobals "_law_row" =some (some (.ref VF)))
  (lxlr:dI K "_law_row" "_law_row" Kw VF)
  (axlu:PySem.W.nsIn K mainGlobals "_law_turned" =some (some (.ref VG)))
  (lxlu:dI K "_law_turned" "_law_turned" mP VG)
  (axlg:PySem.W.nsIn K mainGlobals "_law_gone" =some (some (.ref VH)))
  (lxlg:dI K "_law_gone" "_law_gone" yj VH)
  (axld:PySem.W.nsIn K mainGlobals "_law_added" =some (some (.ref VI)))
  (lxld:dI K "_law_added" "_law_added" vZ VI)
  (alaw:PySem.W.nsIn K mainGlobals "law" =some (some (.ref Ql)))
  (llaw:K.lookup Ql=some ⟨V2,VP, .func (PySem.W.fnOf "law" "law" (bx vY) (aR vY) (aj vY) .none Nc Nd Nf Nb Jj Ng),VW⟩)
  (claw:PySem.W.codeIn K Jj "law" =true)
  (klaw:PySem.W.keepIn K (.ref Ql)=true)
  (bxri:PySem.W.findIn K (.ref Rc) "__init__" =some (some (.ref Qb)))
  (bxrs:PySem.W.findIn K (.ref Rc) "sign" =some (some (.ref Qc)))
  (bxrt:PySem.W.findIn K (.ref Rc) "take" =some (some (.ref Qd)))
  (bxra:PySem.W.findIn K (.ref Rc) "take_all" =some (some (.ref Qe)))
  (bxrw:PySem.W.findIn K (.ref Rc) "read_whole" =some (some (.ref Qf)))
  (bxrl:PySem.W.findIn K (.ref Rc) "read_electron" =some (some (.ref Qg)))
  (WH:PySem.W.findIn K (.ref Rc) "read_parts" =some (some (.ref ID)))
  (bxrp:PySem.W.findIn K (.ref Rc) "read_part" =some (some (.ref Qh)))
  (bxrg:PySem.W.findIn K (.ref Rc) "read_group" =some (some (.ref Qi)))
  (WI:PySem.W.findIn K (.ref Rc) "read_atom" =some (some (.ref IE)))
  (bxrc:PySem.W.findIn K (.ref Rc) "read_count" =some (some (.ref Qj)))
  (bxrn:PySem.W.findIn K (.ref Rc) "read_number" =some (some (.ref Qk)))
  (WJ:PySem.W.findIn K (.ref Rc) "read_charge" =some (some (.ref IF)))
  (QI:PySem.W.typeIn K (.ref CJ)=some (.type "function"))
  (saSh:PySem.W.findIn K (.ref Sh) "__setattr__" =some (some (.builtin "object.__setattr__")))
  (gaSh:PySem.W.findIn K (.ref Sh) "__getattribute__" =some (some (.builtin "BaseException.__getattribute__")))
  (ghSh:PySem.W.findIn K (.ref Sh) "__getattr__" =some none)
  (kcSh:PySem.W.keepIn K (.ref Sh)=true)
  (obSh:∃(nm q:Str) (N:Addr) (bs:List Value) (sn:List Str) (sub:List Value) (ab:Bool) (col:Option Bool) (dd:Option Addr) (k0 k1 k2 k3 k5:Option Value),K.lookup Sh=some (excClassObj nm q Sh N bs (.ref HE::PySem.W.yc) true sn sub ab col dd k0 k1 k2 k3 k5 "ValueError.__new__"))
  (pgC:PySem.W.plainGet K C Str.empty=true)
  (hdC:PySem.W.hasDictIn K C=true)
  (poC:PySem.W.plainOver K C=true)
  (saC:PySem.W.findIn K (.ref C) "__setattr__" =some (some (.builtin "object.__setattr__")))
  (mkC:PySem.W.makesIn K C=true)
  (kcC:PySem.W.keepIn K (.ref C)=true)
  (WK:PySem.W.plainGet K Gr Str.empty=true)
  (WL:PySem.W.hasDictIn K Gr=true)
  (WM:PySem.W.plainOver K Gr=true)
  (WN:PySem.W.findIn K (.ref Gr) "__setattr__" =some (some (.builtin "object.__setattr__")))
  (mkGr:PySem.W.makesIn K Gr=true)
  (kcGr:PySem.W.keepIn K (.ref Gr)=true)
  (WO:PySem.W.plainGet K Pc Str.empty=true)
  (WQ:PySem.W.hasDictIn K Pc=true)
  (WR:PySem.W.plainOver K Pc=true)
  (WS:PySem.W.findIn K (.ref Pc) "__setattr__" =some (some (.builtin "object.__setattr__")))
  (mkPc:PySem.W.makesIn K Pc=true)
  (kcPc:PySem.W.keepIn K (.ref Pc)=true)
  (WT:PySem.W.plainGet K Fo Str.empty=true)
  (WU:PySem.W.hasDictIn K Fo=true)
  (WV:PySem.W.plainOver K Fo=true)
  (WW:PySem.W.findIn K (.ref Fo) "__setattr__" =some (some (.builtin "object.__setattr__")))
  (mkFo:PySem.W.makesIn K Fo=true)
  (kcFo:PySem.W.keepIn K (.ref Fo)=true)
  (pgRd:PySem.W.plainGet K Rd Str.empty=true)
  (hdRd:PySem.W.hasDictIn K Rd=true)
  (poRd:PySem.W.plainOver K Rd=true)
  (saRd:PySem.W.findIn K (.ref Rd) "__setattr__" =some (some (.builtin "object.__setattr__")))
  (mkRd:PySem.W.makesIn K Rd=true)
  (kcRd:PySem.W.keepIn K (.ref Rd)=true)
  (pgRc:PySem.W.plainGet K Rc Str.empty=true)
  (hdRc:PySem.W.hasDictIn K Rc=true)
  (poRc:PySem.W.plainOver K Rc=true)
  (saRc:PySem.W.findIn K (.ref Rc) "__setattr__" =some (some (.builtin "object.__setattr__")))
  (mkRc:PySem.W.makesIn K Rc=true)
  (kcRc:PySem.W.keepIn K (.ref Rc)=true)
  (pgCh:PySem.W.plainGet K Ch Str.empty=true)
  (hdCh:PySem.W.hasDictIn K Ch=true)
  (poCh:PySem.W.plainOver K Ch=true)
  (saCh:PySem.W.findIn K (.ref Ch) "__setattr__" =some (some (.builtin "object.__setattr__")))
  (mkCh:PySem.W.makesIn K Ch=true)
  (kcCh:PySem.W.keepIn K (.ref Ch)=true)
  (WX:PySem.W.plainGet K St Str.empty=true)
  (WY:PySem.W.hasDictIn K St=true)
  (WZ:PySem.W.plainOver K St=true)
  (W0:PySem.W.findIn K (.ref St) "__setattr__" =some (some (.builtin "object.__setattr__")))
  (mkSt:PySem.W.makesIn K St=true)
  (kcSt:PySem.W.keepIn K (.ref St)=true)
  (Nq:PySem.W.findIn K (.ref C) "kind" =some none)
  (Jl:PySem.W.findIn K (.ref C) "count" =some none)
  (ngp:PySem.W.findIn K (.ref Gr) "parts" =some none)
  (ngc:PySem.W.findIn K (.ref Gr) "count" =some none)
  (npp:PySem.W.findIn K (.ref Pc) "parts" =some none)
  (Y1:PySem.W.findIn K (.ref Pc) "count" =some none)
  (nfp:PySem.W.findIn K (.ref Fo) "pieces" =some none)
  (nfc:PySem.W.findIn K (.ref Fo) "charge" =some none)
  (nrt:PySem.W.findIn K (.ref Rd) "text" =some none)
  (nrp:PySem.W.findIn K (.ref Rd) "place" =some none)
  (nlf:PySem.W.findIn K (.ref Ch) "lefts" =some none)
  (nrf:PySem.W.findIn K (.ref Ch) "rights" =some none)
  (nct:PySem.W.findIn K (.ref Rc) "text" =some none)
  (ncp:PySem.W.findIn K (.ref Rc) "place" =some none)
  (nam:PySem.W.findIn K (.ref St) "amounts" =some none)
  (ngo:PySem.W.findIn K (.ref St) "gone" =some none)
  (fS1:PySem.W.findIn K (.ref Sh) "step" =some none)
  (fS2:PySem.W.findIn K (.ref Sh) "turn" =some none)
  (fS3:PySem.W.findIn K (.ref Sh) "formula" =some none)
  (fS4:PySem.W.findIn K (.ref Sh) "lack" =some none)
  (Nr:PySem.W.nsIn K mainGlobals "len" =some none)
  (Nt:PySem.W.nsIn K mainGlobals "str" =some none)
  (Nu:PySem.W.nsIn K mainGlobals "int" =some none)
  (Jm:PySem.W.nsIn K mainGlobals "bool" =some none)
  (CV:PySem.W.nsIn K mainGlobals "range" =some none)
  (nI:PySem.W.nsIn K mainGlobals "isinstance" =some none)
  (Jn:PySem.W.nsIn K mainGlobals "list" =some none)
  (Nv:PySem.W.nsIn K mainGlobals "abs" =some none)
  (Jo:PySem.W.nsIn K mainGlobals "dict" =some none)
  (W3:PySem.W.nsIn K mainGlobals "sum" =some none)
  (Jp:PySem.W.nsIn K mainGlobals "sorted" =some none)
  (W4:PySem.W.nsIn K mainGlobals "all" =some none)
  (Nw:PySem.W.nsIn K mainGlobals "min" =some none)
  (pj:PySem.W.nsIn K mainGlobals "enumerate" =some none)
  (lI:PySem.W.nsIn K mainGlobals "LONGEST_KIND" =some (some (.int 3 uK)))
  (kF:PySem.W.nsIn K mainGlobals "LONGEST_COUNT" =some (some (.int 3 uN)))
  (nJ:PySem.W.nsIn K mainGlobals "GROUP_BEGIN" =some (some (.str "(" uB)))
  (sr:PySem.W.nsIn K mainGlobals "GROUP_END" =some (some (.str ")" uE)))
  (gG:PySem.W.nsIn K mainGlobals "MOST_GROUPS_AROUND" =some (some (.int 3 uM)))
  (nK:PySem.W.nsIn K mainGlobals "CHARGE_MARK" =some (some (.str "^" uC)))
  (Nx:PySem.W.nsIn K mainGlobals "PLUS" =some (some (.str "+" uP)))
  (Jq:PySem.W.nsIn K mainGlobals "MINUS" =some (some (.str "-" uI)))
  (su:PySem.W.nsIn K mainGlobals "PIECE_DOT" =some (some (.str "." uD)))
  (va:PySem.W.nsIn K mainGlobals "ELECTRON" =some (some (.str "e^-" uL)))
  (lJ:PySem.W.nsIn K mainGlobals "LONGEST_TEXT" =some (some (.int 400 uT)))
  (QJ:PySem.W.nsIn K mainGlobals "BLANK" =some (some (.str " " fb)))
  (QK:PySem.W.nsIn K mainGlobals "JOINT" =some (some (.str " + " fe)))
  (QL:PySem.W.nsIn K mainGlobals "ARROW" =some (some (.str " -> " fg)))
  (lD:PySem.W.nsIn K mainGlobals "LONGEST_TERM_COUNT" =some (some (.int 12 uG)))
  (zr:PySem.W.nsIn K mainGlobals "MOST_TERMS" =some (some (.int 8 uS)))
  (hE1:PySem.W.specialIn K (.ref HE) "__getattribute__" =some (some (.builtin "type.__getattribute__")))
  (hE2:PySem.W.readsIn K HE (.type "type")=true)
  (hE3:PySem.W.findCls K (.ref HE) (.type "type") "__init__" =some (.val (.builtin "ValueError.__init__")))
  (hE4:∃(nm q:Str) (N:Addr) (bs bm:List Value) (hd:Bool) (sn:List Str) (sub:List Value) (ab:Bool) (col:Option Bool) (dd:Option Addr) (k0 k1 k2 k3 k5:Option Value) (YX:String),K.lookup HE=some (excClassObj nm q HE N bs bm hd sn sub ab col dd k0 k1 k2 k3 k5 YX)∧bm.contains (.type "BaseException")=true)
  (tS1:PySem.W.takerIn K Sh "step" =some none)
  (tS2:PySem.W.takerIn K Sh "turn" =some none)
  (tS3:PySem.W.takerIn K Sh "formula" =some none)
  (tS4:PySem.W.takerIn K Sh "lack" =some none)
  (t1:PySem.W.findIn K (.ref Sh) "__class__" =some (some (.builtin "object.__class__")))
  (t2:PySem.W.specialIn K (.builtin "object.__class__") "__get__" =some (some (.builtin "getset_descriptor.__get__")))
  (t3:PySem.W.takesIn K (.builtin "object.__class__")=some true)
  (uS1:PySem.W.mroIn K Sh (.ref HE)=some true)
  (uS2:PySem.W.mroIn K Sh (.ref Sh)=some true)
  :∃fd:FuncData,(∀(s:Shared) (v:Value),BindsTo s fd ⟨[v],[]⟩ [("_law_script",v)])∧∀base:Heap,K.In base→base.Ns mainGlobals mg→fj l.prog w K mg base qy 20 fa fd ["_law_script"] (CG K):=by
 have e:=hfa.symm.trans (PySem.W.mg_of X G alaw)
 cases e
 have T:lB K mg C Rd Gr Pc Fo uK uN uB uE uM uC uP uI uD uL uT:=⟨⟨⟨⟨⟨pgC,hdC,poC,saC⟩,Nq,Jl,PySem.W.mg_of X G aC,PySem.W.mg_none_of X G Nr,PySem.W.mg_none_of X G Nt,PySem.W.mg_none_of X G Nu,PySem.W.mg_none_of X G Jm,PySem.W.mg_none_of X G CV,PySem.W.mg_none_of X G nI,gi,mr,gi,gi,gi⟩,⟨pgRd,hdRd,poRd,saRd⟩,nrt,nrp,PySem.W.mg_of X G lI,PySem.W.mg_of X G kF⟩,⟨WK,WL,WM,WN⟩,ngp,ngc,PySem.W.mg_of X G aGr,PySem.W.mg_of X G nJ,PySem.W.mg_of X G sr,PySem.W.mg_of X G gG⟩,PySem.W.mg_of X G nK,PySem.W.mg_of X G Nx,PySem.W.mg_of X G Jq,⟨WO,WQ,WR,WS⟩,⟨WT,WU,WV,WW⟩,npp,Y1,nfp,nfc,PySem.W.mg_of X G aPc,PySem.W.mg_of X G aFo,PySem.W.mg_of X G su,PySem.W.mg_of X G va,PySem.W.mg_of X G lJ,PySem.W.mg_none_of X G Jn,PySem.W.mg_none_of X G Nv⟩
 have W5:Def K mg "is_great" "is_great" vN ["sign"]:=cu X G axig lxig (gK fun _ _ _ _ _ _ _=>rfl)
 have W6:Def K mg "is_small" "is_small" vO ["sign"]:=cu X G axis lxis (gK fun _ _ _ _ _ _ _=>rfl)
 have W7:Def K mg "is_figure" "is_figure" pO ["sign"]:=cu X G axif lxif (gK fun _ _ _ _ _ _ _=>rfl)
 have W8:Def K mg "count_shown" "count_shown" iy ["count"]:=cu X G axcs lxcs (gK fun _ _ _ _ _ _ _=>rfl)
 have W9:Def K mg "parts_shown" "parts_shown" kM ["parts"]:=cu X G axps lxps (gK fun _ _ _ _ _ _ _=>rfl)
 have QM:lz K C "Atom.__init__" i5 ["self","kind","count"] [1]:=⟨_,_,_,kK (st:=i5) V' Wa Wb,⟨mkC,V8,V9,kcC⟩,fun j hj=>match j,hj with|0,_=>⟨[.int 1 Jk], .cons ⟨_,rfl⟩ (.nil),fun s us hk hl=>match us,(show us.length=2 by simpa using hl) with| [_,_],_=>PySem.W.binds_K (K:=K) (fd:=PySem.W.fnOf "__init__" "Atom.__init__" (bx i5) (aR i5) (aj i5) (.ref xt) A3 A4 A5 A2 xr A6) hk rfl Nl rfl rfl rfl⟩ |1,_=>⟨[], .nil,fun s us hk hl=>match us,(show us.length=3 by simpa using hl) with| [_,_,_],_=>PySem.W.binds_K (K:=K) (fd:=PySem.W.fnOf "__init__" "Atom.__init__" (bx i5) (aR i5) (aj i5) (.ref xt) A3 A4 A5 A2 xr A6) hk rfl Nl rfl rfl rfl⟩⟩
 have W':bg K C "shown" "Atom.shown" vP ["self"]:=bL axsh lxsh (gK fun _ _ _ _ _ _ _=>rfl)
 have Xa:lz K Gr "Group.__init__" fN ["self","parts","count"] [1]:=⟨_,_,_,kK (st:=fN) lxgi cxgi kxgi,⟨mkGr,axgi,ixgi,kcGr⟩,fun j hj=>match j,hj with|0,_=>⟨[.int 1 Nh], .cons ⟨_,rfl⟩ (.nil),fun s us hk hl=>match us,(show us.length=2 by simpa using hl) with| [_,_],_=>PySem.W.binds_K (K:=K) (fd:=PySem.W.fnOf "__init__" "Group.__init__" (bx fN) (aR fN) (aj fN) (.ref CP) IM IP IQ IH CK IS) hk rfl Wc rfl rfl rfl⟩ |1,_=>⟨[], .nil,fun s us hk hl=>match us,(show us.length=3 by simpa using hl) with| [_,_,_],_=>PySem.W.binds_K (K:=K) (fd:=PySem.W.fnOf "__init__" "Group.__init__" (bx fN) (aR fN) (aj fN) (.ref CP) IM IP IQ IH CK IS) hk rfl Wc rfl rfl rfl⟩⟩
 have Xb:bg K Gr "shown" "Group.shown" kN ["self"]:=bL axgs lxgs (gK fun _ _ _ _ _ _ _=>rfl)
 have Xc:lz K Pc "Piece.__init__" fO ["self","parts","count"] [1]:=⟨_,_,_,kK (st:=fO) lxpi cxpi kxpi,⟨mkPc,axpi,ixpi,kcPc⟩,fun j hj=>match j,hj with|0,_=>⟨[.int 1 Ni], .cons ⟨_,rfl⟩ (.nil),fun s us hk hl=>match us,(show us.length=2 by simpa using hl) with| [_,_],_=>PySem.W.binds_K (K:=K) (fd:=PySem.W.fnOf "__init__" "Piece.__init__" (bx fO) (aR fO) (aj fO) (.ref CQ) IT IU IV II CL IW) hk rfl Wd rfl rfl rfl⟩ |1,_=>⟨[], .nil,fun s us hk hl=>match us,(show us.length=3 by simpa using hl) with| [_,_,_],_=>PySem.W.binds_K (K:=K) (fd:=PySem.W.fnOf "__init__" "Piece.__init__" (bx fO) (aR fO) (aj fO) (.ref CQ) IT IU IV II CL IW) hk rfl Wd rfl rfl rfl⟩⟩
 have Xd:bg K Pc "shown" "Piece.shown" iz ["self"]:=bL axpS lxpS (gK fun _ _ _ _ _ _ _=>rfl)
 have Xe:Def K mg "refuse_too_long" "refuse_too_long" mC ["text"]:=cu X G axtl lxtl (gK fun _ _ _ _ _ _ _=>rfl)
 have Xf:Def K mg "charge_shown" "charge_shown" gM ["charge"]:=cu X G axch lxch (gK fun _ _ _ _ _ _ _=>rfl)
 have Xg:lz K Fo "Formula.__init__" fP ["self","pieces","charge"] [0]:=⟨_,_,_,kK (st:=fP) lxfi cxfi kxfi,⟨mkFo,axfi,ixfi,kcFo⟩,fun j hj=>match j,hj with|0,_=>⟨[.int 0 Nj], .cons ⟨_,rfl⟩ (.nil),fun s us hk hl=>match us,(show us.length=2 by simpa using hl) with| [_,_],_=>PySem.W.binds_K (K:=K) (fd:=PySem.W.fnOf "__init__" "Formula.__init__" (bx fP) (aR fP) (aj fP) (.ref CS) IX IY IZ IJ CM Ja) hk rfl We rfl rfl rfl⟩ |1,_=>⟨[], .nil,fun s us hk hl=>match us,(show us.length=3 by simpa using hl) with| [_,_,_],_=>PySem.W.binds_K (K:=K) (fd:=PySem.W.fnOf "__init__" "Formula.__init__" (bx fP) (aR fP) (aj fP) (.ref CS) IX IY IZ IJ CM Ja) hk rfl We rfl rfl rfl⟩⟩
 have Xh:bg K Fo "shown" "Formula.shown" mD ["self"]:=bL axfS lxfS (gK fun _ _ _ _ _ _ _=>rfl)
 have Xi:lz K Rd "Reader.__init__" qP ["self","text"] []:=F5 mkRd axri kcRd Wf (n4 fun _ _ _ _ _ _ _ _=>rfl)
 have Xj:lz K Rc "Reader.__init__" qP ["self","text"] []:=F5 mkRc bxri kcRc Wf (n4 fun _ _ _ _ _ _ _ _=>rfl)
 have Xk:bg K Rd "sign" "Reader.sign" yg ["self"]:=bL axrs Wg (gK fun _ _ _ _ _ _ _=>rfl)
 have Xl:bg K Rc "sign" "Reader.sign" yg ["self"]:=bL bxrs Wg (gK fun _ _ _ _ _ _ _=>rfl)
 have Xm:bg K Rd "take" "Reader.take" yh ["self","sign"]:=bL axrt Wh (n4 fun _ _ _ _ _ _ _ _=>rfl)
 have Xn:bg K Rc "take" "Reader.take" yh ["self","sign"]:=bL bxrt Wh (n4 fun _ _ _ _ _ _ _ _=>rfl)
 have Xo:bg K Rd "take_all" "Reader.take_all" j7 ["self","signs"]:=bL axra Wi (n4 fun _ _ _ _ _ _ _ _=>rfl)
 have Xp:bg K Rc "take_all" "Reader.take_all" j7 ["self","signs"]:=bL bxra Wi (n4 fun _ _ _ _ _ _ _ _=>rfl)
 have Xq:bg K Rd "take_end" "Reader.take_end" mF ["self"]:=bL axre lxre (gK fun _ _ _ _ _ _ _=>rfl)
 have Xr:bg K Rd "read_whole" "Reader.read_whole" mG ["self"]:=bL axrw Wj (gK fun _ _ _ _ _ _ _=>rfl)
 have Xs:bg K Rc "read_whole" "Reader.read_whole" mG ["self"]:=bL bxrw Wj (gK fun _ _ _ _ _ _ _=>rfl)
 have Xt:bg K Rd "read_electron" "Reader.read_electron" g8 ["self"]:=bL axrl Wk (gK fun _ _ _ _ _ _ _=>rfl)
 have Xu:bg K Rc "read_electron" "Reader.read_electron" g8 ["self"]:=bL bxrl Wk (gK fun _ _ _ _ _ _ _=>rfl)
 have QN:bg K Rd "read_parts" "Reader.read_parts" kO ["self","around"]:=bL Wl Nm (n4 fun _ _ _ _ _ _ _ _=>rfl)
 have QO:bg K Rc "read_parts" "Reader.read_parts" kO ["self","around"]:=bL WH Nm (n4 fun _ _ _ _ _ _ _ _=>rfl)
 have Xv:bg K Rd "read_part" "Reader.read_part" n5 ["self","around"]:=bL axrp Wm (n4 fun _ _ _ _ _ _ _ _=>rfl)
 have Xw:bg K Rc "read_part" "Reader.read_part" n5 ["self","around"]:=bL bxrp Wm (n4 fun _ _ _ _ _ _ _ _=>rfl)
 have Xx:bg K Rd "read_group" "Reader.read_group" jo ["self","around"]:=bL axrg Wn (n4 fun _ _ _ _ _ _ _ _=>rfl)
 have Xy:bg K Rc "read_group" "Reader.read_group" jo ["self","around"]:=bL bxrg Wn (n4 fun _ _ _ _ _ _ _ _=>rfl)
 have QP:bg K Rd "read_atom" "Reader.read_atom" qQ ["self"]:=bL Wo Nn (gK fun _ _ _ _ _ _ _=>rfl)
 have QQ:bg K Rc "read_atom" "Reader.read_atom" qQ ["self"]:=bL WI Nn (gK fun _ _ _ _ _ _ _=>rfl)
 have Xz:bg K Rd "read_count" "Reader.read_count" mH ["self"]:=bL axrc Wq (gK fun _ _ _ _ _ _ _=>rfl)
 have XA:bg K Rc "read_count" "Reader.read_count" mH ["self"]:=bL bxrc Wq (gK fun _ _ _ _ _ _ _=>rfl)
 have XB:bg K Rd "read_number" "Reader.read_number" j8 ["self","longest"]:=bL axrn Wr (n4 fun _ _ _ _ _ _ _ _=>rfl)
 have XC:bg K Rc "read_number" "Reader.read_number" j8 ["self","longest"]:=bL bxrn Wr (n4 fun _ _ _ _ _ _ _ _=>rfl)
 have QR:bg K Rd "read_charge" "Reader.read_charge" j9 ["self"]:=bL Ws Np (gK fun _ _ _ _ _ _ _=>rfl)
 have QS:bg K Rc "read_charge" "Reader.read_charge" j9 ["self"]:=bL WJ Np (gK fun _ _ _ _ _ _ _=>rfl)
 have XD:Def K mg "read_formula" "read_formula" kQ ["text"]:=cu X G axrf lxrf (gK fun _ _ _ _ _ _ _=>rfl)
 have Ny:Def K mg "parts_counts" "parts_counts" i4 ["parts","times"]:=cu X G axpc lxpc (n4 fun _ _ _ _ _ _ _ _=>rfl)
 have XE:bg K C "counts" "Atom.counts" pP ["self"]:=bL axco lxco (gK fun _ _ _ _ _ _ _=>rfl)
 have XF:bg K Gr "counts" "Group.counts" i6 ["self"]:=bL axgc lxgc (gK fun _ _ _ _ _ _ _=>rfl)
 have XG:bg K Pc "counts" "Piece.counts" gL ["self"]:=bL axpC lxpC (gK fun _ _ _ _ _ _ _=>rfl)
 have XH:bg K Fo "counts" "Formula.counts" mE ["self"]:=bL axfC lxfC (gK fun _ _ _ _ _ _ _=>rfl)
 have XI:lz K Ch "Change.__init__" vQ ["self","lefts","rights"] []:=F5 mkCh axci kcCh lxci (SQ fun _ _ _ _ _ _ _ _ _=>rfl)
 have XJ:Def K mg "formula_amounts" "formula_amounts" mI ["formula"]:=cu X G axam lxam (gK fun _ _ _ _ _ _ _=>rfl)
 have XM:bg K Ch "kinds" "Change.kinds" vR ["self"]:=bL axkd lxkd (gK fun _ _ _ _ _ _ _=>rfl)
 have XN:bg K Rc "read_term" "ChangeReader.read_term" vS ["self"]:=bL axrm lxrm (gK fun _ _ _ _ _ _ _=>rfl)
 have QT:bg K Rc "read_lefts" "ChangeReader.read_lefts" pQ ["self"]:=bL Wt Wu (gK fun _ _ _ _ _ _ _=>rfl)
 have QU:bg K Rc "read_rights" "ChangeReader.read_rights" mJ ["self"]:=bL Wv Ww (gK fun _ _ _ _ _ _ _=>rfl)
 have QV:bg K Rc "read_sides" "ChangeReader.read_sides" pR ["self"]:=bL Wx Wy (gK fun _ _ _ _ _ _ _=>rfl)
 have L4:Def K mg "read_change" "read_change" mK ["text"]:=cu X G QG QH (gK fun _ _ _ _ _ _ _=>rfl)
 have XO:Def K mg "side_counts" "side_counts" iA ["terms"]:=cu X G axsc lxsc (gK fun _ _ _ _ _ _ _=>rfl)
 have XQ:Def K mg "gains" "gains" qR ["change"]:=cu X G axgn lxgn (gK fun _ _ _ _ _ _ _=>rfl)
 have XR:Def K mg "side_amounts" "side_amounts" gN ["terms"]:=cu X G axsa lxsa (gK fun _ _ _ _ _ _ _=>rfl)
 have XS:bg K Ch "lost" "Change.lost" tV ["self"]:=bL axlo lxlo (gK fun _ _ _ _ _ _ _=>rfl)
 have XT:Def K mg "read_even" "read_even" kR ["text"]:=cu X G axev lxev (gK fun _ _ _ _ _ _ _=>rfl)
 have XU:Def K mg "turns_of" "turns_of" mL ["amount","taken","gain"]:=cu X G axto lxto (SQ fun _ _ _ _ _ _ _ _ _=>rfl)
 have XW:Def K mg "most_turns" "most_turns" fQ ["change","amounts"]:=cu X G axmo lxmo (n4 fun _ _ _ _ _ _ _ _=>rfl)
 have XX:Def K mg "turned" "turned" pS ["change","times","amounts"]:=cu X G axtu lxtu (SQ fun _ _ _ _ _ _ _ _ _=>rfl)
 have QW:Def K mg "refuse_short" "refuse_short" gO ["change","times","amounts","step"]:=cu X G Wz WA (ba4 fun _ _ _ _ _ _ _ _ _ _=>rfl)
 have A7:PySem.W.gw K Sh HE CJ:=⟨obSh,WB,QI,saSh,gaSh,ghSh⟩
 have QX:F4 K mg "Short" Sh HE "Short.__init__" vT ["self","step","turn","formula","lack"]:=SR A7 (PySem.W.mg_of X G aSh) kcSh WC (ba5 fun _ _ _ _ _ _ _ _ _ _ _=>rfl)
 have XY:Kq K St "Store.__init__" fR ["self","amounts"]:=⟨_,_,_,kK (st:=fR) lxsi cxsi kxsi,⟨mkSt,axsi,ixsi,kcSt⟩,fun s us hk hl=>match us,(show us.length=2 by simpa using hl) with| [_,_],_=>PySem.W.binds_K (K:=K) (fd:=PySem.W.fnOf "__init__" "Store.__init__" (bx fR) (aR fR) (aj fR) (.ref CU) Jb Jc Jd IK CN Je) hk rfl WD rfl rfl rfl,fun s us hk hl=>match us,(show us.length=1 by simpa using hl) with| [_],_=>PySem.W.binds_K (K:=K) (fd:=PySem.W.fnOf "__init__" "Store.__init__" (bx fR) (aR fR) (aj fR) (.ref CU) Jb Jc Jd IK CN Je) hk rfl WD rfl rfl rfl⟩
 have XZ:bg K St "have" "Store.have" Br ["self","text"]:=bL axsv lxsv (n4 fun _ _ _ _ _ _ _ _=>rfl)
 have X0:bg K St "put" "Store.put" Kv ["self","text","many"]:=bL axsp lxsp (SQ fun _ _ _ _ _ _ _ _ _=>rfl)
 have X2:Bq K St "go" "Store.go" DA ["self","text","times"] [1]:=⟨_,_,_,kK (st:=DA) lxso cxso WG,⟨axso,ixso,WG⟩,fun j hj=>match j,hj with|0,_=>⟨[.int 1 Nk], .cons ⟨_,rfl⟩ (.nil),fun s us hk hl=>match us,(show us.length=2 by simpa using hl) with| [_,_],_=>PySem.W.binds_K (K:=K) (fd:=PySem.W.fnOf "go" "Store.go" (bx DA) (aR DA) (aj DA) (.ref CT) Jf Jg Jh IL CO Ji) hk rfl WE rfl rfl rfl⟩ |1,_=>⟨[], .nil,fun s us hk hl=>match us,(show us.length=3 by simpa using hl) with| [_,_,_],_=>PySem.W.binds_K (K:=K) (fd:=PySem.W.fnOf "go" "Store.go" (bx DA) (aR DA) (aj DA) (.ref CT) Jf Jg Jh IL CO Ji) hk rfl WE rfl rfl rfl⟩⟩
 have X3:bg K St "go_all" "Store.go_all" qS ["self","rows"]:=bL axsy lxsy (n4 fun _ _ _ _ _ _ _ _=>rfl)
 have X4:bg K St "stocks" "Store.stocks" mM ["self"]:=bL axss lxss (gK fun _ _ _ _ _ _ _=>rfl)
 have X5:bg K St "went" "Store.went" yi ["self"]:=bL axsw lxsw (gK fun _ _ _ _ _ _ _=>rfl)
 have X6:Def K mg "_law_cell_at" "_law_cell_at" pT ["_law_script","_law_k"]:=cu X G axca lxca (n4 fun _ _ _ _ _ _ _ _=>rfl)
 have X7:Def K mg "_law_mixed" "_law_mixed" vU ["_law_cell","_law_prime"]:=cu X G axmi lxmi (n4 fun _ _ _ _ _ _ _ _=>rfl)
 have X8:Def K mg "_law_whole" "_law_whole" vV ["_law_found"]:=cu X G axwh lxwh (gK fun _ _ _ _ _ _ _=>rfl)
 have X9:Def K mg "_law_kind" "_law_kind" Bs ["_law_number"]:=cu X G axki lxki (gK fun _ _ _ _ _ _ _=>rfl)
 have X':Def K mg "_law_figures" "_law_figures" mN ["_law_count_here"]:=cu X G axfg lxfg (gK fun _ _ _ _ _ _ _=>rfl)
 have Ya:Def K mg "_law_matter" "_law_matter" mO ["_law_cell","_law_kinds"]:=cu X G axlm lxlm (n4 fun _ _ _ _ _ _ _ _=>rfl)
 have Yb:Def K mg "_law_world" "_law_world" n9 ["_law_script"]:=cu X G axlw lxlw (gK fun _ _ _ _ _ _ _=>rfl)
 have Yc:Def K mg "_law_change" "_law_change" j' ["_law_cell","_law_world_here"]:=cu X G axlc lxlc (n4 fun _ _ _ _ _ _ _ _=>rfl)
 have Yd:Def K mg "_law_text" "_law_text" Bt ["_law_lefts","_law_rights"]:=cu X G axlt lxlt (n4 fun _ _ _ _ _ _ _ _=>rfl)
 have Ye:Def K mg "_law_asked" "_law_asked" vW ["_law_terms"]:=cu X G axlk lxlk (gK fun _ _ _ _ _ _ _=>rfl)
 have Yf:Def K mg "_law_texts" "_law_texts" vX ["_law_world_here"]:=cu X G axlx lxlx (gK fun _ _ _ _ _ _ _=>rfl)
 have Yg:Def K mg "_law_amounts" "_law_amounts" i7 ["_law_found","_law_due"]:=cu X G axla lxla (n4 fun _ _ _ _ _ _ _ _=>rfl)
 have Yh:Def K mg "_law_row" "_law_row" Kw ["_law_script","_law_world_here"]:=cu X G axlr lxlr (n4 fun _ _ _ _ _ _ _ _=>rfl)
 have Yi:Def K mg "_law_turned" "_law_turned" mP ["_law_row_here","_law_script"]:=cu X G axlu lxlu (n4 fun _ _ _ _ _ _ _ _=>rfl)
 have Yj:Def K mg "_law_gone" "_law_gone" yj ["_law_amounts_here","_law_row_here","_law_at_once"]:=cu X G axlg lxlg (SQ fun _ _ _ _ _ _ _ _ _=>rfl)
 have Yk:Def K mg "_law_added" "_law_added" vZ ["_law_amounts_here","_law_row_here"]:=cu X G axld lxld (n4 fun _ _ _ _ _ _ _ _=>rfl)
 have Flaw:=Oa (st:=vY) llaw claw klaw
 refine⟨PySem.W.fnOf "law" "law" (bx vY) (aR vY) (aj vY) .none Nc Nd Nf Nb Jj Ng,fun s v=> .of_eq rfl,fun base _ _=>?_⟩
 have TH:GU K mg C Rc Gr Pc Fo Ch uK uN uB uE uM uC uP uI uD uL uT fb fe fg:=⟨⟨⟨⟨⟨⟨pgC,hdC,poC,saC⟩,Nq,Jl,PySem.W.mg_of X G aC,PySem.W.mg_none_of X G Nr,PySem.W.mg_none_of X G Nt,PySem.W.mg_none_of X G Nu,PySem.W.mg_none_of X G Jm,PySem.W.mg_none_of X G CV,PySem.W.mg_none_of X G nI,gi,mr,gi,gi,gi⟩,⟨pgRc,hdRc,poRc,saRc⟩,nct,ncp,PySem.W.mg_of X G lI,PySem.W.mg_of X G kF⟩,⟨WK,WL,WM,WN⟩,ngp,ngc,PySem.W.mg_of X G aGr,PySem.W.mg_of X G nJ,PySem.W.mg_of X G sr,PySem.W.mg_of X G gG⟩,PySem.W.mg_of X G nK,PySem.W.mg_of X G Nx,PySem.W.mg_of X G Jq,⟨WO,WQ,WR,WS⟩,⟨WT,WU,WV,WW⟩,npp,Y1,nfp,nfc,PySem.W.mg_of X G aPc,PySem.W.mg_of X G aFo,PySem.W.mg_of X G su,PySem.W.mg_of X G va,PySem.W.mg_of X G lJ,PySem.W.mg_none_of X G Jn,PySem.W.mg_none_of X G Nv⟩,PySem.W.mg_none_of X G Jo,⟨pgCh,hdCh,poCh,saCh⟩,nlf,nrf,PySem.W.mg_of X G aCh,PySem.W.mg_of X G QJ,PySem.W.mg_of X G QK,PySem.W.mg_of X G QL⟩
 have TK:oF K mg C Rc Gr Pc Fo Ch uK uN uB uE uM uC uP uI uD uL uT fb fe fg uG uS:=⟨TH,PySem.W.mg_of X G lD,PySem.W.mg_of X G aRc,PySem.W.mg_of X G zr⟩
 have TL:G' K mg C Rc Gr Pc Fo Ch uK uN uB uE uM uC uP uI uD uL uT fb fe fg:=⟨TH,PySem.W.mg_none_of X G Jp,PySem.W.mg_none_of X G W4⟩
 have TM:T2 K mg C Rc Gr Pc Fo Ch uK uN uB uE uM uC uP uI uD uL uT fb fe fg uG uS:=⟨TK,PySem.W.mg_none_of X G Nw⟩
 have TO:PD K mg C Rc Gr Pc Fo Ch St uK uN uB uE uM uC uP uI uD uL uT fb fe fg uG uS:=⟨TK,PySem.W.mg_none_of X G pj,⟨WX,WY,WZ,W0⟩,nam,ngo⟩
 have TS:rT K mg C Rd Gr Pc Fo St uK uN uB uE uM uC uP uI uD uL uT:=⟨T,PySem.W.mg_none_of X G Jo,PySem.W.mg_none_of X G W3,⟨WX,WY,WZ,W0⟩,nam,ngo,PySem.W.mg_of X G aSt⟩
 have TF:S4 K mg C Rd Gr Pc Fo uK uN uB uE uM uC uP uI uD uL uT:=⟨T,PySem.W.mg_of X G aRd⟩
 have TE:Lq K mg HE Sh:=⟨PySem.W.mg_of X G aHE,⟨hE1,hE2,hE3⟩,⟨hE4⟩,PySem.W.mg_of X G aSh,tS1,tS2,tS3,tS4,fS1,fS2,fS3,fS4,⟨t1,t2,t3⟩,uS1⟩
 have TA:pD K mg C:=T.torf.tosO.topD
 have L5:=Gm (P:=l.prog) (w:=w) (base:=base) W5
 have Yl:=Gn (P:=l.prog) (w:=w) (base:=base) W6
 have Ym:=DK (P:=l.prog) (w:=w) (base:=base) W7
 have L6:=si (P:=l.prog) (w:=w) (base:=base) W8 TA
 have Yn:=KW (P:=l.prog) (w:=w) (base:=base) QM TA
 have q_sh:=HZ W' TA L6
 have Yo:=GL (P:=l.prog) (w:=w) (base:=base) Xa T
 have Yp:=GN (P:=l.prog) (w:=w) (base:=base) Xc T
 have L7:=GO (P:=l.prog) (w:=w) (base:=base) Xg T
 have Yq:=An (P:=l.prog) (w:=w) (base:=base) Xe T
 have q_ri:=ym (P:=l.prog) (w:=w) (base:=base) Xi T.torf.tosO
 have EI:=BC (P:=l.prog) (w:=w) (base:=base) Xk T.torf.tosO
 have L8:=BD Xm T.torf.tosO EI
 have q_ra:=q5 Xo T.torf.tosO L8
 have q_rn:=ua XB T.torf.tosO EI Ym
 have L9:=ub Xz T.torf.tosO q_rn
 have Yr:=yn QP T.torf.tosO EI L5 Yl L9 Yn
 have Ys:=rm Xx Xv QN T.torf EI L5 Yr L8 L9 Yo 1
 have Yt:=rn QR T.toSY EI L8 L9
 have q_rl:=m8 1 Xt T q_ra L7
 have q_rw:=ur 1 Xr T EI L8 L9 Ys Yt q_rl Yp L7
 have q_re:=Ah (P:=l.prog) (w:=w) (base:=base) Xq T.torf.tosO
 have q_rf:=yu 1 XD TF Yq q_ri q_rw q_re
 have q_ps:=uu W9 Xb T.torf q_sh L6 1
 have q_pS:=rE 1 Xd T q_ps L6
 have q_ch:=oA Xf T L6
 have q_fS:=Aw 1 Xh T q_pS q_ch
 have q_co:=D9 (P:=l.prog) (w:=w) (base:=base) XE TA
 have q_pc:=rL Ny XF T.torf q_co 1
 have q_pC:=pG 1 XG T q_pc
 have q_pP:=yF 1 Ny T q_pC
 have Yu:=yH 1 XH T q_pP
 have p_ri:=ym (P:=l.prog) (w:=w) (base:=base) Xj TH.tolB.torf.tosO
 have EJ:=BC (P:=l.prog) (w:=w) (base:=base) Xl TH.tolB.torf.tosO
 have Jr:=BD Xn TH.tolB.torf.tosO EJ
 have QY:=q5 Xp TH.tolB.torf.tosO Jr
 have Yv:=ua XC TH.tolB.torf.tosO EJ Ym
 have L':=ub XA TH.tolB.torf.tosO Yv
 have Yw:=yn QQ TH.tolB.torf.tosO EJ L5 Yl L' Yn
 have Yx:=rm Xy Xw QO TH.tolB.torf EJ L5 Yw Jr L' Yo 1
 have Yy:=rn QS TH.tolB.toSY EJ Jr L'
 have p_rl:=m8 1 Xu TH.tolB QY L7
 have p_rw:=ur 1 Xs TH.tolB EJ Jr L' Yx Yy p_rl Yp L7
 have q_ci:=GX (P:=l.prog) (w:=w) (base:=base) XI TH
 have Yz:=G3 XN TK Yv Jr p_rw
 have YA:=Ee QT TK Yz QY
 have YB:=AB QU TK Yz QY
 have YC:=Eg QV TK YA YB q_ci
 have QZ:=AG L4 TK Yq p_ri YC
 have Q0:=sV XO TK q_fS
 have YD:=G9 XQ TK Q0
 have q_am:=AI XJ TH Yu
 have q_kd:=Hh XM TL Yu
 have q_sa:=rS XR TL q_am
 have q_lo:=Lf XS TL q_sa q_kd
 have q_ev:=y9 XT TK QZ q_lo
 have q_to:=AO (P:=l.prog) (w:=w) (base:=base) XU
 have q_mo:=Lz XW TM Q0 YD q_to
 have YE:=Ew XX TK YD
 have YF:=Hw (P:=l.prog) (w:=w) (base:=base) QX TE
 have YG:=Et QW TK TE q_mo YE Q0 YF
 have Nz:=HA X3 TO q_ev YG YE
 have q_go:=TZ X2 TO Nz
 have q_ha:=Lk XZ TS q_rf
 have q_pu:=Pg X0 TS q_ha
 have q_si:=Hr XY TS q_pu
 have q_sk:=El (P:=l.prog) (w:=w) (base:=base) X4 TS
 have q_we:=HM (P:=l.prog) (w:=w) (base:=base) X5 TS
 have Q1:=Ay (P:=l.prog) (w:=w) (base:=base) X6 TA
 have q_mi:=Pq (P:=l.prog) (w:=w) (base:=base) X7
 have q_wh:=GI (P:=l.prog) (w:=w) (base:=base) X8 TA
 have q_ki:=GK (P:=l.prog) (w:=w) (base:=base) X9 TA
 have q_fg:=Ax (P:=l.prog) (w:=w) (base:=base) X' TA
 have q_lm:=Eo Ya TS q_fg
 have q_lw:=HG Yb TS Q1 q_mi q_ki q_lm
 have q_lc:=AU (P:=l.prog) (w:=w) (base:=base) Yc TL
 have q_lt:=HQ (P:=l.prog) (w:=w) (base:=base) Yd TA
 have q_lk:=HD (P:=l.prog) (w:=w) (base:=base) Ye
 have q_lx:=HJ (P:=l.prog) (w:=w) (base:=base) Yf TS
 have q_la:=LB Yg TS q_wh
 have TY:Ik K mg C Rd Gr Pc Fo St HE Sh uK uN uB uE uM uC uP uI uD uL uT:=⟨TS,TE,PySem.W.mg_none_of X G pj,PySem.W.mg_none_of X G Nw,A7.par,uS2⟩
 have q_lr:=P1 Yh q_lc
 have q_lu:=A0 Yi TY Q1
 have q_lg:=Iv Yj TY A7 q_si q_lt Nz q_go q_we q_sk
 have q_ld:=Ip Yk TY q_lk
 exact P' Flaw TY q_lw q_lx Q1 q_lr q_lu q_lg q_ld q_la
theorem walk{l:PySem.W.OpenLaw}{q:Program}{loose:List Str}{XP:(Str→Option Value)→Heap→Prop}{YP:World→Heap→Prop}{d:DefRec}{K:Params→PySem.W.Frag}(hn:l.most=some 63)(Sk:d.params.defaults=[])
  (hY:∀(w:World) (h:Heap),YP w h→(K w.params).In h)
  (F:∀(w:World) (mg:Str→Option Value) (fa:Addr) (h:Heap),(K w.params).In h→h.Ns mainGlobals mg→mg d.name=some (.ref fa)→
   ∃fd:FuncData,(∀(s:Shared) (u:Value),BindsTo s fd ⟨[u],[]⟩ [("_law_script",u)])∧∀base:Heap,(K w.params).In base→base.Ns mainGlobals mg→fj l.prog w (K w.params) mg base qy 20 fa fd ["_law_script"] (CG (K w.params))):
  PySem.W.WalkO q loose XP YP l.row.toRowW d [] (fun f vs=>PySem.call f vs):=
 L2.J1 (n:=63) (k:=20) (x:="_law_script") (CX:=fun _=>qy) (sp:=fun w=>CG (K w.params)) hn (by decide) Sk ⟨rfl,by decide,by decide⟩ hY F (fun _ _ a ns hl _ hS=>⟨a,ns,rfl,hS,hl,fun _=>rfl⟩) fun _ _ _ _ _ z=>z
end K56
open PySem PySem.W PyProof.Rows
namespace PySem.W.Fast
def tw9407374307765139985:=0
def tw4958118059559230759:=0
def tw1812036724152917663:=0
def tw11619709672682175398:=0
def tw10647957416825585139:=0
def tw2703676050758951812:=0
def tw3430119393330649294:=0
def tw16625742408322501667:=0
def tw3086586758353356246:=0
def tw18037639262428773931:=0
def tw1201020848154563621:=0
def tw15622731551429779679:=0
def tw1941799356279372069:=0
def tw16927107914113990768:=0
def tw3122720634297853749:=0
def tw262992080639241564:=0
def tw5724223302482633342:=0
def tw2711611146565297066:=0
def tw11215277493950642817:=0
def tw14158838667593681552:=0
def tw16571044409448838612:=0
def tw6045731940110806073:=0
def tw1297235366020597460:=0
def tw14116822809432191585:=0
def tw12275872303938422692:=0
def tw17135675030553719744:=0
def tw15722064893501941613:=0
def tw10322135988439835079:=0
def tw2985742703527416790:=0
def tw3559387285108437197:=0
def tw2693780272035922570:=0
def tw6111067275105422984:=0
def tw16082500267262320823:=0
def tw12765184002442944089:=0
def tw3921103773436187502:=0
def tw7535505210794870208:=0
def tw8088939313430752031:=0
def tw7475319138032724647:=0
def tw9177527677014190049:=0
def tw18421649714986344932:=0
def tw5265733145116417863:=0
def tw331529702084768450:=0
def tw17635314263023689353:=0
def tw279198835247494269:=0
def tw11126817635866926907:=0
def tw1904309001004925468:=0
def tw7088896737188754954:=0
def tw1357023226558225685:=0
def tw14068323912547636627:=0
def tw17498218279533222517:=0
def tw8588559988686950293:=0
def tw16915351439875247015:=0
def tw15456978506149277398:=0
def tw9592492222376707514:=0
def tw13466995056689270208:=0
def tw606606329816854033:=0
def tw6825508325055147341:=0
def tw3974292851035188477:=0
def tw12017174101000512505:=0
def tw10586009494347400349:=0
def tw8166815633440746148:=0
def tw15170825394591864177:=0
def tw6056142385497698772:=0
def tw15688085773538482633:=0
def tw13418030942647400129:=0
def tw10268989996237506055:=0
def tw7897771871625625606:=0
def tw7379255815320646451:=0
def tw4583363001166134621:=0
def tw7576277465713437285:=0
def tw5631116541285928654:=0
def tw9706290216655954585:=0
def tw14261543705631129460:=0
def tw7198858958160044664:=0
def tw17782043795275773196:=0
def tw12201741520475464151:=0
def tw1860503956063827475:=0
def tw632849610532760637:=0
def tw8181667042887134388:=0
def tw2905386583657308998:=0
def tw13243471164254330821:=0
def tw2210713172099294269:=0
def tw15902981236218814930:=0
def tw16350265630413188560:=0
def tw6895285182935594764:=0
def tw18183549849207987615:=0
def tw4460559837420448621:=0
def tw9186237821625712792:=0
def tw10695533934726583203:=0
def tw17016159061777104819:=0
def tw8701870079450446025:=0
def tw13688048813390674900:=0
def tw2341651733594192078:=0
def tw18152456560465031446:=0
def tw16155884405233444077:=0
def tw10917575212442854756:=0
def tw388545238622742447:=0
def tw11137689172427926867:=0
def tw1483219926415122049:=0
def tw5130391265991936877:=0
def tw16269410535700299259:=0
def tw13977260656059382218:=0
def tw8944196321444593219:=0
def tw5754635976414687547:=0
def tw7358334136067431479:=0
def tw3085107855799816241:=0
def tw10836160175109344308:=0
def tw5659302105439617579:=0
def tw3665701728177824272:=0
def tw2675048282018855185:=0
def tw7504391532705348709:=0
def tw14729314433840181311:=0
def tw1051300591087631774:=0
def tw1202760747840185147:=0
def tw6175618303505791848:=0
def tw4416926959901798499:=0
def tw2536742019745449399:=0
def tw292281653601329512:=0
def tw17471781583220225394:=0
def tw13937515920336687116:=0
def tw4780352249779973937:=0
def tw16834160523175594262:=0
def tw13696210473973141213:=0
def tw9940700882159352305:=0
def tw12599313882776247990:=0
def tw17413663392647521302:=0
def tw14821006528315133866:=0
def tw12406342323689756231:=0
def tw16328915133281794247:=0
def tw6905117032212848174:=0
def tw14376725268302678328:=0
def tw10783699525635007759:=0
def tw13633174211731411300:=0
def tw18066051099391526352:=0
def tw9471964634701738735:=0
def tw149202700489530162:=0
def tw8563530623045955020:=0
def tw17405136424385451385:=0
def tw18089322686988595834:=0
def tw8138773064874130100:=0
def tw15726044974180025618:=0
def tw833512392082372653:=0
def tw9991686756529187330:=0
def tw11533690933539815889:=0
def tw2230469358310247040:=0
def tw3720075256624086075:=0
def tw14708966953157494804:=0
def tw6905391994336292392:=0
def tw12453491290975216400:=0
def tw5640653092175948019:=0
def tw8525056293546263275:=0
def tw2589961271502499860:=0
def tw1053245895960560949:=0
def tw10526232161977853312:=0
def tw14515836617939705313:=0
def tw17619396260157922708:=0
def tw12815255096252034404:=0
def tw216732810101320482:=0
def tw15519067747861816276:=0
def tw12685439632785707779:=0
def tw4564838365840780217:=0
def tw18045390591722145353:=0
def tw15179529050143560717:=0
def tw830208683726465963:=0
def tw5914673755922729065:=0
def tw698227723351166734:=0
def tw8699890425600304882:=0
def tw3161561571040168172:=0
def tw11640670915535928858:=0
def tw17621254401279666743:=0
def tw1509730942348545361:=0
def tw13074582085651172239:=0
def tw4296166671587907780:=0
def tw11590205431534674604:=0
def tw850285581543034545:=0
def tw7142894658228095975:=0
def tw6546456523671911908:=0
def tw2366103945216265974:=0
def tw9634936215234165404:=0
def tw5904946140251795099:=0
def tw4752590031780788966:=0
def tw573225742691395855:=0
def tw14788402914137757668:=0
def tw5215023498892397098:=0
def tw18257490040066317815:=0
def tw13997554518063144978:=0
def tw15384593747599927379:=0
def tw7120278127176315447:=0
def tw2659051244022435866:=0
def tw6889640869320828136:=0
def tw4772942716441055501:=0
def tw627544364678901475:=0
def tw7411069695570223243:=0
def tw9740044679612673304:=0
def tw2086463023911299109:=0
def tw1727839027414734938:=0
def tw2604218063061756877:=0
def tw8828386557935972548:=0
def tw2836905871378038622:=0
def tw9004795735628814785:=0
def tw4565388925792338479:=0
def tw9199371144361592866:=0
def tw3477862490376239398:=0
def tw9996506754707356950:=0
def tw9946442796726075180:=0
def tw597178799307731521:=0
def tw6807085213986394897:=0
def tw5819159221574787820:=0
def tw17814953151945486788:=0
def tw8868135315221196662:=0
def tw7770745953323155245:=0
def tw8339499426998997947:=0
def tw1491250124886637342:=0
def tw1739258794844558836:=0
def tw2752547416936875980:=0
def tw15781741808185680348:=0
def tw15107204981485929147:=0
def tw6152136415021853197:=0
def tw14966930784620684745:=0
def tw11673784549439954374:=0
def tw5486658241976068817:=0
def tw4121142111822387584:=0
def tw5754488822520151730:=0
def tw17781980728779341365:=0
def tw7565872975318605668:=0
def tw7300046742524379691:=0
def tw9858308317418596504:=0
def tw609117165332942980:=0
def tw3949835510200578825:=0
def tw772861244471653443:=0
def tw11157989985686805505:=0
def tw2708450246287107820:=0
def tw14833590710541892879:=0
def tw6857597706333864346:=0
def tw2576093272132607793:=0
def tw14340391931309917605:=0
def tw6356528867429969807:=0
def tw9906742727545425312:=0
def tw18326490597704316145:=0
def tw17843821605671940698:=0
def tw5772066692931863883:=0
def tw18036934691917949840:=0
def tw8601508231059678757:=0
def tw3647119125380471503:=0
def tw12695021250060483654:=0
def tw1233682538767049852:=0
def tw3991356791288864445:=0
def tw16106567678204603251:=0
def tw4108656582532093808:=0
def tw5215677256935599337:=0
def tw2383451116792859184:=0
def tw2126768489457374873:=0
def tw4748836188197824557:=0
def tw1206219379928727654:=0
def tw3956111055018644249:=0
def tw17927549005368234908:=0
def tw777532118119143864:=0
def tw12208827189815184846:=0
def tw14653222894612242095:=0
def tw3604492515730274714:=0
def tw4602170002955816633:=0
def tw5861948479866854690:=0
def tw7576617228132647328:=0
def tw15269441676257787282:=0
def tw9581508327419710085:=0
def tw14861643782409296529:=0
def tw16586757793487730131:=0
def tw8593319858524918124:=0
def tw5372974320787695239:=0
def tw11618790346732461350:=0
def tw11961614924313604434:=0
def tw6392606494949076842:=0
def tw15834032372572523058:=0
def tw10519866423770322231:=0
def tw11655898914387144702:=0
def tw6394405387475027711:=0
def tw14875719720746764190:=0
def tw14453910100783910460:=0
def tw2079950127124102768:=0
def tw13443503107812157986:=0
def tw5609951479225898140:=0
def tw2786191398768147336:=0
def tw17383857761156929969:=0
def tw6546046481357544764:=0
def tw5932691297722522661:=0
def tw11609154738001580135:=0
def tw11217437493895376959:=0
def tw6343573646710025917:=0
def tw9908213746641671499:=0
def tw1948633098091247293:=0
def tw7302953683515420135:=0
def tw1730451922079248011:=0
def tw17629373026301083133:=0
def tw16804635936455538278:=0
def tw17177186995051735680:=0
def tw13191721046727288904:=0
def tw15881219986692369174:=0
def tw15510540726957397645:=0
def tw3701929255258155998:=0
def tw15295905124721543848:=0
def tw7882049372787419478:=0
def tw2629673327134584029:=0
def tw12601360922860578070:=0
def tw12192905883778551311:=0
def tw18287010218986497285:=0
def tw3680458393309086570:=0
def tw3930654884199683400:=0
def tw4061624299917198551:=0
def tw15386268254684926924:=0
def tw5895750395032106397:=0
def tw11992110560282440298:=0
def tw16333338751264273332:=0
def tw6270516196448224736:=0
def tw8985015312042187397:=0
def tw16165889316963119829:=0
def tw9567620737542580499:=0
def tw17543554082298082573:=0
def tw6035995104217428067:=0
def tw1532819332101020803:=0
def tw9667003632899122196:=0
def tw14449906867203825706:=0
def tw3973602430242069938:=0
def tw10404746907171757895:=0
def tw11615657853156766399:=0
def tw16412025668058554745:=0
def tw4963677836259056324:=0
def tw4120797276226651042:=0
def tw16794053656623200292:=0
def tw16099683820447933741:=0
def tw17864219672899383453:=0
def tw10921319441419523235:=0
def tw3060605583449761705:=0
def tw9344077175637346817:=0
def tw563425779604510186:=0
def tw8481034850474447593:=0
def tw14557950803047394943:=0
def tw17796500840629016219:=0
def tw16500812665103701977:=0
def tw1928394952373604125:=0
def tw15497122834192148589:=0
def tw14140328126741407267:=0
def tw12672124823295004022:=0
def tw11127996998168311073:=0
def tw17639481150482711387:=0
def tw5711839428093666710:=0
def tw13045937646687365272:=0
def tw15235716277757887957:=0
def tw3008698405769027592:=0
def tw8128171300087574462:=0
def tw8377546621411912034:=0
def tw8508980232722409674:=0
def tw5938539669476033588:=0
def tw16149259270871289767:=0
def tw17429595042842274731:=0
def tw12211039800851155474:=0
def tw3715675487573583445:=0
def tw14312143313561075709:=0
def tw17310548371122274087:=0
def tw1981174922653075928:=0
def tw2844622794654929251:=0
def tw17418905177174786321:=0
def tw3973572387972678584:=0
def tw17247649392888600341:=0
def tw10247088539825853783:=0
def tw15783185518013188189:=0
def tw10367829069015109646:=0
def tw14812604508164935602:=0
def tw95388771423604686:=0
def tw10791226280721222789:=0
def tw15549072586503869557:=0
def tw3101590223421230148:=0
def tw2805475265256020889:=0
def tw1103105597741117375:=0
def tw14840953437322201356:=0
def tw550990153970845108:=0
def tw9070734589221477259:=0
def tw9960292446649633359:=0
def tw17953534558466354053:=0
def tw2924689405030326041:=0
def tw3759481310452196726:=0
def tw10173720262358903686:=0
def tw14978946107684984452:=0
def tw13798560333578337154:=0
def tw3120858200639864226:=0
def tw15530171602148633457:=0
def tw5581351159101539367:=0
def tw10658386796225482162:=0
def tw9207232490132374994:=0
def tw10729447256212895045:=0
def tw4605232684766674182:=0
def tw5552897042063006926:=0
def tw12301979808337221336:=0
def tw8744082577266460967:=0
def tw12163810587284449573:=0
def tw14927476737330994950:=0
def tw2456027564296439464:=0
def tw147510556851067711:=0
def tw5858664903777543280:=0
end PySem.W.Fast
set_option maxRecDepth 100000 in
set_option maxHeartbeats 0 in
theorem PySem.Challenge.cw_balancehall_k56_whole_orders_meet_holds : PySem.Challenge.rw_balancehall_k56_whole_orders_meet.Holds := by
 w_on;o_law;k_head;(case hw=>w_witness2)
 k_fill
 refine K56.walk (l:=PySem.Challenge.rw_balancehall_k56_whole_orders_meet) rfl rfl (fun w h Y=>PySem.W.kIn_of Y) ?F
 case F=>
  intro w mg fa h KX G Sl
  apply K56.all_mk KX G Sl
  all_goals first|k_is|exact⟨⟨_,⟨⟨_,_,_,_,_,_,_,_,_,rfl,by k_is,by k_is⟩,by k_is⟩⟩,by k_is⟩ |exact⟨_,_,_,_,_,_,_,_,_,_,_,_,_,_,_,_,_,by k_is,by decide+kernel⟩ |exact⟨_,_,_,_,_,_,_,_,_,_,_,_,_,_,by k_is⟩
