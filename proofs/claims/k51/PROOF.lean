import PyProof.Rows.All
import Wide.All
import OpenK.AllK
import Wide.FinOn
import Lean
import PyProof.EqAt
import PyProof.EqKinds
import PyProof.TupleCall
import PySem.Challenge.RW_balancehall_k51_turns_walked
set_option Elab.async false
set_option linter.all false
set_option maxRecDepth 100000
namespace L2
open PySem PySem.Spec PyProof.Rows
abbrev Key:=Sum Int Str
def qv:Key→Value→Bool
 | .inl k,v=>Value.isInt k v
 | .inr x,v=>Value.isStrOf x v
def ZH (w:World):Key→Int
 | .inl k=>hashInt k
 | .inr x=>hashStr w x
theorem cp:∀{k:Key} {v:Value},qv k v=true→(∃i t,k=Sum.inl i∧v=Value.int i t)∨(∃x t,k=Sum.inr x∧v=Value.str x t)
 | .inl i,v,h=>by
   obtain⟨t,e⟩:=Value.isInt_shape (k:=i) (v:=v) h
   exact .inl ⟨i,t,rfl,e⟩
 | .inr x,v,h=>by
   obtain⟨t,e⟩:=Value.isStrOf_shape (x:=x) (v:=v) h
   exact .inr ⟨x,t,rfl,e⟩
theorem Dl (i:Int) (t:Tok):qv (.inl i) (.int i t)=true:=by simp [qv,Value.isInt]
theorem Dm (x:Str) (t:Tok):qv (.inr x) (.str x t)=true:=by simp [qv,Value.isStrOf]
theorem NL (a b:Int):decide ((Sum.inl a:Key)=Sum.inl b)=(a==b):=by
 by_cases e:a=b
 ·subst e;simp
 ·have h:¬(Sum.inl a:Key)=Sum.inl b:=fun q=>e (Sum.inl.inj q)
  rw[decide_eq_false h]
  exact(beq_eq_false_iff_ne.mpr e).symm
theorem NM (a b:Str):decide ((Sum.inr a:Key)=Sum.inr b)=decide (a=b):=by
 by_cases e:a=b
 ·subst e;simp
 ·have h:¬(Sum.inr a:Key)=Sum.inr b:=fun q=>e (Sum.inr.inj q)
  rw[decide_eq_false h,decide_eq_false e]
theorem NN (a:Int) (b:Str):decide ((Sum.inl a:Key)=Sum.inr b)=false:=decide_eq_false (fun q=>nomatch q)
theorem NO (a:Str) (b:Int):decide ((Sum.inr a:Key)=Sum.inl b)=false:=decide_eq_false (fun q=>nomatch q)
def bF (prog:Program) (w:World):PySem.KeyKind prog w Key where
 is:=qv
 hash:=ZH w
 inj:=fun v a b ha hb=>by
  rcases cp ha with ⟨i,t,rfl,rfl⟩ | ⟨x,t,rfl,rfl⟩
  ·rcases cp hb with ⟨j,u,rfl,e⟩ | ⟨y,u,rfl,e⟩
   ·injection e with e1 _;rw[e1]
   ·exact nomatch e
  ·rcases cp hb with ⟨j,u,rfl,e⟩ | ⟨y,u,rfl,e⟩
   ·exact nomatch e
   ·injection e with e1 _;rw[e1]
 byValue:=fun k v h=>by
  rcases cp h with ⟨i,t,rfl,rfl⟩ | ⟨x,t,rfl,rfl⟩<;>rfl
 pyHash:=fun hv h=>by
  rcases cp hv with ⟨i,t,rfl,rfl⟩ | ⟨x,t,rfl,rfl⟩
  ·exact wpAny_pyHash_int h
  ·exact wpAny_pyHash_str h
 eqBool:=fun hu hv h=>by
  rcases cp hu with ⟨i,t,rfl,rfl⟩ | ⟨x,t,rfl,rfl⟩
  ·rcases cp hv with ⟨j,u,rfl,rfl⟩ | ⟨y,u,rfl,rfl⟩
   ·rw[NL] at h;exact wpAny_eqBool_int h
   ·rw[NN] at h;exact SeqAt.EqAt.int_str i t y u _ _ _ _ h
  ·rcases cp hv with ⟨j,u,rfl,rfl⟩ | ⟨y,u,rfl,rfl⟩
   ·rw[NO] at h;exact SeqAt.EqAt.str_int x t j u _ _ _ _ h
   ·rw[NM] at h;exact wpAny_eqBool_str h
 «strs» :=fun k x t v h=>by
  rcases cp h with ⟨i,u,rfl,e⟩ | ⟨y,u,rfl,e⟩
  ·exact nomatch e
  ·injection e with e1 _
   subst e1
   cases v<;>rfl
theorem qw (prog:Program) (w:World) (k:Key) (v:Value):(bF prog w).is k v=qv k v:=rfl
theorem xU (prog:Program) (w:World) (i:Int) (t:Tok):(bF prog w).is (.inl i) (.int i t)=true:=Dl i t
theorem xV (prog:Program) (w:World) (x:Str) (t:Tok):(bF prog w).is (.inr x) (.str x t)=true:=Dm x t
end L2
namespace L2
open PySem PySem.Spec PyProof.Rows
inductive V where
 |cU|bl (b:Bool) |int (i:Int) |str (x:Str) |zX (b:Array UInt8) |Mq (b:UInt64) |ref (a:Addr) |ty (n:String)
 deriving DecidableEq
def RelV:V→Value→Prop
 | .cU,u=>u=Value.none
 | .bl b,u=>u=Value.bool b
 | .int i,u=>∃t,u=Value.int i t
 | .str x,u=>∃t,u=Value.str x t
 | .zX b,u=>∃t,u=Value.bytes b t
 | .Mq b,u=>∃t,u=Value.float b t
 | .ref a,u=>u=Value.ref a
 | .ty n,u=>u=Value.type n
abbrev Vals:List V→List Value→Prop:=Paired RelV
theorem Vals.length {xs:List V} {us:List Value} (r:Vals xs us):xs.length=us.length:=Paired.length r
theorem Vals.get:∀{xs:List V} {us:List Value} {i:Nat} {x:V},Vals xs us→xs[i]? =some x→∃u,us[i]? =some u∧RelV x u
 |_,_,_,_, .nil,e=>by simp at e
 |_,_,0,_, .cons r _,e=>by simp at e;subst e;exact⟨_,rfl,r⟩
 |_,_,i+1,x, .cons _ t,e=>by
  obtain⟨u,h1,h2⟩:=Vals.get (i:=i) (x:=x) t (by simpa using e)
  exact⟨u,by simpa using h1,h2⟩
theorem Vals.append:∀{xs ys:List V} {us ws:List Value},Vals xs us→Vals ys ws→Vals (xs++ys) (us++ws)
 |_,_,_,_, .nil,s=>s
 |_,_,_,_, .cons r t,s=> .cons r (Vals.append t s)
def iw:Option V→Option Value→Prop
 |some v,some u=>RelV v u
 |none,none=>True
 |_,_=>False
def KV {κ:Type}:List (κ×V)→List (κ×Value)→Prop:=Paired fun (p:κ×V) (q:κ×Value)=>p.1=q.1∧RelV p.2 q.2
def kV:Key→V
 | .inl i=> .int i
 | .inr x=> .str x
inductive HO where
 |lst (xs:List V)
 |tup (xs:List V)
 |dK (kvs:List (Key×V)) |dT (kvs:List (List Key×V))
 |set (S:Int→Bool) (n:Nat)
 |ins (C dx:Addr) (fs:List (Str×V))
 |own (x:Addr)
 |xd (fs:List (Str×V))
 |met (f x:Addr)
 |ZI (lo hi:Int)
 |fN (o:Obj) (u:HO)
 |Mr (ps:Array Value)
 |ext (φ:Heap→Prop)
abbrev Hp:=Addr→Option HO
def upd (H:Hp) (a:Addr) (o:HO):Hp:=fun b=>if b=a then some o else H b
theorem af {H:Hp} {a:Addr} {o:HO}:upd H a o a=some o:=by unfold upd;rw[if_pos rfl]
theorem ah {H:Hp} {a b:Addr} {o:HO} (h:b≠a):upd H a o b=H b:=by unfold upd;rw[if_neg h]
theorem kL {H:Hp} {a:Addr} {o u:HO}:upd (upd H a o) a u=upd H a u:=by
 funext b;unfold upd;split<;>rfl
theorem cI {H:Hp} {a b:Addr} {o u:HO} (h:H a=some o) (h':H b=some u) (d:o≠u):a≠b:=by
 intro e;subst e;rw[h] at h';exact d (Option.some.inj h')
theorem ag {H:Hp} {a b:Addr} {o:HO} (h:H a=some o) (h':H b=none):a≠b:=by
 intro e;subst e;rw[h] at h';cases h'
section
variable (P:Program) (w:World)
def cq (H:Hp) (h:Heap) (a:Addr):HO→Prop
 | .lst xs=>xs.length≤sizeLine∧∃(its:List Value) (n:Nat),Vals xs its∧h.get? a=some { cls:= .type "list",data:= .seq its.toArray n }
 | .tup xs=>xs.length≤sizeLine∧∃its:List Value,Vals xs its∧IsTup h a its.toArray
 | .dK kvs=>kvs.length≤sizeLine∧(a==sysModules)=false∧∃vs,KV kvs vs∧h.DictOf (bF P w) a vs
 | .dT kvs=>kvs.length≤sizeLine∧(a==sysModules)=false∧∃xs:List (List Key×Addr×Value),
   Paired (fun (p:List Key×V) (q:List Key×Addr×Value)=>p.1=q.1∧H q.2.1=some (.tup (p.1.map kV))∧RelV p.2 q.2.2) kvs xs∧
   ∃o es ep,h.get? a=some o∧o.ExactDict∧o.data= .dict es ep∧es.toList=xs.map (entryOfKey (tupleKind (bF P w)))∧(xs.map (·.1)).Nodup
 | .set S n=>h.SetOf (intKind P w) a S n
 | .ins C dx fs=>H dx=some (.own a)∧fs.length≤1000∧dx≠a∧h.get? a=some (PySem.W.instObj C dx)∧
   ∃mA,h.Ns1 dx mA∧(∀f,iw (fs.lookup f) (mA f))∧PySem.Within mA (fs.map (·.1))
 | .own _=>∃o,h.get? a=some o
 | .xd fs=>∃mA,h.Ns1 a mA∧∀f,iw (fs.lookup f) (mA f)
 | .ZI lo hi=>∃t u v,h.get? a=some { cls:= .type "range",data:= .fields #[.int lo t, .int hi u, .int 1 v] }
 | .fN o u=>h.get? a=some o∧cq H h a u
 | .Mr ps=>h.get? a=some { cls:= .none,data:= .fields ps }
 | .met f x=>h.get? a=some (PySem.W.methodObj (.ref f) (.ref x))
 | .ext φ=>φ h∧(∃o,h.get? a=some o)∧∀h1 h2:Heap,φ h1→(∀o,h1.get? a=some o→h2.get? a=some o)→φ h2
def j7 (H:Hp) (h:Heap):Prop:=∀a o,H a=some o→cq P w H h a o
end
section
variable {P:Program} {w:World} {H H':Hp} {h h':Heap} {a:Addr} {o:HO}
theorem cq.lt (x:cq P w H h a o):a<h.objs.size:=by
 cases o with
 |lst xs=>obtain⟨_,_,_,_,e⟩:=x;exact Heap.lt_size e
 |tup xs=>obtain⟨_,_,_,p⟩:=x;exact p.lt
 |dK kvs=>obtain⟨_,_,_,_,o,_,_,e,_⟩:=x;exact Heap.lt_size e
 |dT kvs=>obtain⟨_,_,_,_,o,_,_,e,_⟩:=x;exact Heap.lt_size e
 |set S n=>obtain⟨o,_,_,_,e,_⟩:=x;exact Heap.lt_size e
 |ins C dx fs=>obtain⟨_,_,_,e,_⟩:=x;exact Heap.lt_size e
 |own y=>obtain⟨_,e⟩:=x;exact Heap.lt_size e
 |xd fs=>obtain⟨_,⟨_,_,_,e,_⟩,_⟩:=x;exact Heap.lt_size e
 |ZI lo hi=>obtain⟨_,_,_,e⟩:=x;exact Heap.lt_size e
 |fN ob u=>obtain⟨e,_⟩:=x;exact Heap.lt_size e
 |Mr ps=>exact Heap.lt_size (show h.get? a=some _ from x)
 |met f y=>exact Heap.lt_size (show h.get? a=some _ from x)
 |ext φ=>obtain⟨_,⟨_,e⟩,_⟩:=x;exact Heap.lt_size e
theorem Paired.NP {α β:Type} {F G:α→β→Prop}:∀{l₁:List α} {l₂:List β},Paired F l₁ l₂→(∀a b,F a b→G a b)→Paired G l₁ l₂
 |_,_, .nil,_=> .nil
 |_,_, .cons r t,f=> .cons (f _ _ r) (Paired.NP t f)
theorem cq.qx (x:cq P w H h a o) (k:∀b u,(b=a∨H b=some (.own a))→h.get? b=some u→h'.get? b=some u)
  (ho:∀b,H b=some (.own a)→H' b=some (.own a)) (ht:∀b xs,H b=some (.tup xs)→H' b=some (.tup xs)):cq P w H' h' a o:=by
 induction o with
 |lst xs=>obtain⟨z,its,n,r,e⟩:=x;exact⟨z,its,n,r,k _ _ (.inl rfl) e⟩
 |tup xs=>obtain⟨z,its,r,ob,e,c⟩:=x;exact⟨z,its,r,ob,k _ _ (.inl rfl) e,c⟩
 |dK kvs=>obtain⟨z,y,vs,r,ob,es,ep,e,c⟩:=x;exact⟨z,y,vs,r,ob,es,ep,k _ _ (.inl rfl) e,c⟩
 |dT kvs=>
  obtain⟨z,y,xs,r,ob,es,ep,e,c⟩:=x
  exact⟨z,y,xs,Paired.NP r fun p q z=>⟨z.1,ht _ _ z.2.1,z.2.2⟩,ob,es,ep,k _ _ (.inl rfl) e,c⟩
 |set S n=>obtain⟨ob,es,ep,t,e,c⟩:=x;exact⟨ob,es,ep,t,k _ _ (.inl rfl) e,c⟩
 |ins C dx fs=>
  obtain⟨d,z,ne,e,mA,⟨od,es,ep,e2,c⟩,r⟩:=x
  exact⟨ho _ d,z,ne,k _ _ (.inl rfl) e,mA,⟨od,es,ep,k _ _ (.inr d) e2,c⟩,r⟩
 |own y=>obtain⟨ob,e⟩:=x;exact⟨ob,k _ _ (.inl rfl) e⟩
 |xd fs=>obtain⟨mA,⟨od,es,ep,e,c⟩,r⟩:=x;exact⟨mA,⟨od,es,ep,k _ _ (.inl rfl) e,c⟩,r⟩
 |ZI lo hi=>obtain⟨t,u,v,e⟩:=x;exact⟨t,u,v,k _ _ (.inl rfl) e⟩
 |fN ob u ih=>obtain⟨e,q⟩:=x;exact⟨k _ _ (.inl rfl) e,ih q⟩
 |Mr ps=>
  have e:h.get? a=some { cls:= .none,data:= .fields ps }:=x
  show h'.get? a=some { cls:= .none,data:= .fields ps }
  exact k a _ (.inl rfl) e
 |met f y=>
  have e:h.get? a=some (PySem.W.methodObj (.ref f) (.ref y)):=x
  show h'.get? a=some (PySem.W.methodObj (.ref f) (.ref y))
  exact k a _ (.inl rfl) e
 |ext φ=>obtain⟨p,⟨o,e⟩,st⟩:=x;exact⟨st _ _ p fun o q=>k _ _ (.inl rfl) q,⟨o,k _ _ (.inl rfl) e⟩,st⟩
theorem j7.lt (x:j7 P w H h) (e:H a=some o):a<h.objs.size:=(x a o e).lt
theorem j7.fresh (x:j7 P w H h) (e:h.objs.size≤a):H a=none:=by
 cases q:H a with
 |none=>rfl
 |some u=>exact absurd (Nat.lt_of_lt_of_le (x.lt q) e) (Nat.lt_irrefl _)
theorem j7.kept (x:j7 P w H h) (k:∀b u,h.get? b=some u→h'.get? b=some u):j7 P w H h':=fun a o e=>
 (x a o e).qx (fun b u _ q=>k b u q) (fun _ q=>q) fun _ _ q=>q
theorem j7.laid (x:j7 P w H h) (k:∀b u,h.get? b=some u→h'.get? b=some u) (hp:h.objs.size≤a) (new:cq P w (upd H a o) h' a o):j7 P w (upd H a o) h':=fun b u e=>by
 have hn:=x.fresh hp
 by_cases hb:b=a
 ·subst hb;rw[af] at e;cases e;exact new
 ·rw[ah hb] at e
  exact(x b u e).qx (fun c v _ q=>k c v q) (fun c q=>by rw[ah (ag q hn)];exact q) fun c xs q=>by rw[ah (ag q hn)];exact q
end
def Rd (H:Hp) (a:Addr) (u:HO):Prop:=H a=some u∨∃o,H a=some (.fN o u)
theorem Rd.ok {P:Program} {w:World} {H:Hp} {h:Heap} {a:Addr} {u:HO} (r:Rd H a u) (x:j7 P w H h):cq P w H h a u:=by
 rcases r with r| ⟨o,r⟩
 ·exact x a u r
 ·obtain⟨_,q⟩:=x a _ r
  exact q
def RC:Option HO→Prop
 |some (.lst _)=>True
 |some (.dK _)=>True
 |some (.dT _)=>True
 |some (.set _ _)=>True
 |some (.ins _ _ _)=>True
 |some (.ext _)=>True
 |_=>False
section
variable {P:Program} {w:World} {H:Hp} {h h':Heap} {x e:Addr} {o':HO}
theorem j7.write (ok:j7 P w H h) (mu:RC (H x)) (he:e=x∨H e=some (.own x)) (k:∀b u,b≠e→h.get? b=some u→h'.get? b=some u) (Q8:∃u,h'.get? e=some u)
  (new:cq P w (upd H x o') h' x o'):j7 P w (upd H x o') h':=fun b u q=>by
 have RD:∀c y,H c=some (.own y)→c≠x:=fun c y r z=>by subst z;rw[r] at mu;exact mu
 have ZJ:∀c xs,H c=some (.tup xs)→c≠x:=fun c xs r z=>by subst z;rw[r] at mu;exact mu
 by_cases hb:b=x
 ·subst hb;rw[af] at q;cases q;exact new
 ·rw[ah hb] at q
  by_cases NQ:b=e
  ·have q':H b=some (.own x):=by
    rcases he with z|z
    ·exact absurd (NQ.trans z) hb
    ·rw[NQ];exact z
   rw[q] at q';cases q'
   obtain⟨v,hv⟩:=Q8
   exact⟨v,by rw[NQ];exact hv⟩
  ·refine(ok b u q).qx (fun c v hc r=>k c v ?_ r) (fun c r=>by rw[ah (RD c b r)];exact r) fun c xs r=>by rw[ah (ZJ c xs r)];exact r
   rcases hc with rfl|hc
   ·exact NQ
   ·rintro rfl
    rcases he with z|z
    ·exact RD c b hc z
    ·rw[hc] at z;cases z;exact hb rfl
end
structure Un (fs ex:List Addr) (H H':Hp) (h h':Heap):Prop where
 keep:∀b o,h.get? b=some o→H b=none→b∉fs→b∉ex→h'.get? b=some o
 slot:∀b o,h.get? b=some o→H b=none→b∈fs→b∉ex→∃sl,h'.get? b=some { o with slots:=sl }
 free:∀b o,h.get? b=some o→H b=none→b∉ex→H' b=none
 there:∀b o,h.get? b=some o→b∉ex→∃o',h'.get? b=some o'
 nW:∀b xs,H b=some (.tup xs)→H' b=some (.tup xs)
 nX:∀b o u,H b=some (.fN o u)→H' b=some (.fN o u)
 nY:∀b ps,H b=some (.Mr ps)→∃more,H' b=some (.Mr (ps++more))
section
variable {fs JQ ex RE:List Addr} {H H1 H2:Hp} {h h1 h2 h':Heap} {a x e:Addr} {o:HO}
theorem Un.any (u:Un fs ex H H1 h h1) {b:Addr} {ob:Obj} (q:h.get? b=some ob) (n:H b=none) (hx:b∉ex):∃sl,h1.get? b=some { ob with slots:=sl }:=by
 by_cases hb:b∈fs
 ·exact u.slot b ob q n hb hx
 ·exact⟨ob.slots,u.keep b ob q n hb hx⟩
theorem Un.kept (k:∀b u,h.get? b=some u→h'.get? b=some u):Un fs ex H H h h':=
 ⟨fun b ob q _ _ _=>k b ob q,fun b ob q _ _ _=>⟨ob.slots,k b ob q⟩,fun _ _ _ n _=>n,fun b ob q _=>⟨ob,k b ob q⟩,fun _ _ q=>q,fun _ _ _ q=>q,fun _ ps q=>⟨#[],by rw[q];simp⟩⟩
theorem Un.refl:Un fs ex H H h h:=Un.kept fun _ _ q=>q
theorem Un.laid (k:∀b u,h.get? b=some u→h'.get? b=some u) (hp:h.objs.size≤a) (hn:H a=none):Un fs ex H (upd H a o) h h' where
 keep:=fun b u q _ _ _=>k b u q
 slot:=fun b u q _ _ _=>⟨u.slots,k b u q⟩
 free:=fun b u q n _=>by rw[ah (Nat.ne_of_lt (Nat.lt_of_lt_of_le (Heap.lt_size q) hp))];exact n
 there:=fun b u q _=>⟨u,k b u q⟩
 nW:=fun b xs q=>by rw[ah (ag q hn)];exact q
 nX:=fun b u xs q=>by rw[ah (ag q hn)];exact q
 nY:=fun b ps q=>⟨#[],by rw[ah (ag q hn),q];simp⟩
theorem Un.write (mu:RC (H x)) (he:e=x∨H e=some (.own x)) (k:∀b u,b≠e→h.get? b=some u→h'.get? b=some u) (Q8:∃u,h'.get? e=some u):Un fs ex H (upd H x o) h h':=by
 have hx:∀b,H b=none→b≠x:=fun b n z=>by subst z;rw[n] at mu;exact mu
 have hb:∀b,H b=none→b≠e:=fun b n z=>by
  subst z
  rcases he with r|r
  ·exact hx b n r
  ·rw[n] at r;cases r
 have hm:∀b u,H b=some u→¬RC (some u)→b≠x:=fun b u q nm z=>by subst z;rw[q] at mu;exact nm mu
 refine⟨fun b u q n _ _=>k b u (hb b n) q,fun b u q n _ _=>⟨u.slots,k b u (hb b n) q⟩,fun b u q n _=>by rw[ah (hx b n)];exact n,fun b u q _=>?_,
  fun b xs q=>by rw[ah (hm b _ q fun z=>z)];exact q,fun b u xs q=>by rw[ah (hm b _ q fun z=>z)];exact q,fun b ps q=>⟨#[],by rw[ah (hm b _ q fun z=>z),q];simp⟩⟩
 by_cases NQ:b=e
 ·subst NQ;exact Q8
 ·exact⟨u,k b u NQ q⟩
end
def YS (h:Heap) (H:Hp):List Addr:=(List.range h.objs.size).filter fun a=>(H a).isSome
def vm (h:Heap) (H:Hp):Heap:=PySem.W.hideAll h (YS h H)
theorem Dn (h:Heap) (H:Hp):(vm h H).objs.size=h.objs.size:=PySem.W.hideAll_size _ _
theorem Fv {h:Heap} {H:Hp} {b:Addr} {o:Obj} (e:h.get? b=some o) (n:H b=none):(vm h H).get? b=some o:=
 PySem.W.hideAll_get _ e fun hm=>by
  have q:(H b).isSome=true:=(List.mem_filter.mp hm).2
  rw[n] at q;simp at q
theorem JR {h:Heap} {H:Hp} {b:Addr} {o:Obj} (e:(vm h H).get? b=some o):h.get? b=some o∧H b=none:=by
 have e':h.get? b=some o:=PySem.W.of_hideAll (YS h H) e
 refine⟨e',?_⟩
 cases q:H b with
 |none=>rfl
 |some x=>
  have hm:b∈YS h H:=List.mem_filter.mpr ⟨List.mem_range.mpr (Heap.lt_size e'),by simp [q]⟩
  have z:(vm h H).get? b=none:=PySem.W.hideAll_none (YS h H) hm
  rw[z] at e;cases e
def JS (g h:Heap) (L:Addr):List (Addr×Obj):=(List.range h.objs.size).filterMap fun a=>if a=L∨(g.get? a).isSome=true then none else (h.get? a).map fun o=>(a,o)
def rest (g h:Heap) (L d:Addr):List (Addr×Obj):=(JS g h L).filter fun p=>decide (p.1≠d)
end L2
namespace L2
open PySem PySem.Spec PyProof.Rows
structure Mod (K:PySem.W.Frag) (mg:Str→Option Value) (base:Heap):Prop where
 gy:K.In base
 glob:base.Ns mainGlobals mg
 blt:∃mb,base.Ns builtinsNs mb∧∀x:Str,x≠"__name__" →mb x=bootBuiltins x
 nolimit:base.NoLimit
structure Cx where
 prog:Program
 w:World
 K:PySem.W.Frag
 mg:Str→Option Value
 base:Heap
 A:Around
 N:List Str
 s₀:Shared
 H₀:Hp
 env:Env
 outer:List Env
 stack:List Env
 ex:List Addr
 fn:Str→Bool
 calm:Bool
 pn:List (Addr×Obj)
 xe:Value→Shared→Prop
def xN (l:List Env):List Addr:=l.filterMap (·.frame)
abbrev Cx.fs (X:Cx):List Addr:=xN X.outer
def ZK (sc:Scope) (x:Str):Prop:=sc.names.lookup x=some .local∨sc.names.lookup x=some .cell∨sc.names.lookup x=some .free
def Loc (sc:Scope) (x:Str):Prop:=sc.names.lookup x=some .local∨sc.names.lookup x=some .cell
def Look (env:Env) (h:Heap) (m:Str→Option Value) (x:Str) (u:Value):Prop:=
 (env.kindOf x=some .local∧m x=some u)∨((env.kindOf x=some .cell∨env.kindOf x=some .free)∧∃c,env.cells.lookup x=some c∧h.IsCell c (some u))
structure Cx.Ok (X:Cx):Prop where
 mod:Mod X.K X.mg X.base
 kind:X.env.scope.kind= .function
 glob:X.env.globals=mainGlobals
 blt:X.env.builtins=builtinsNs
 above:X.s₀.heap.objs.size≤X.env.locals
 inj:∀x y c,X.env.cells.lookup x=some c→X.env.cells.lookup y=some c→x=y
 has:∀x,(X.env.kindOf x=some .cell∨X.env.kindOf x=some .free)→∃c,X.env.cells.lookup x=some c
 JT:∀x c,X.fn x=true→X.env.cells.lookup x=some c→X.s₀.heap.objs.size≤c
 hd:X.calm=true→X.A.handled=none
 frames:X.A.frames=some X.stack
 Ms:X.stack=X.outer∨(X.stack=X.env::X.outer∧X.env.frame=some X.env.locals)
 Q9:∀b∈X.ex,b≠X.env.locals∧∀x c,X.env.cells.lookup x=some c→c≠b
 bs:∀b o,X.base.get? b=some o→X.s₀.heap.get? b=some o∧X.H₀ b=none
 Dp:X.base.objs.size≤X.s₀.heap.objs.size
 vn:∀b o,X.base.get? b=some o→b∉X.ex
 vo:∀b∈X.ex,b∉X.fs
 lH:X.s₀.heap.FunFrames X.base X.outer
 Fw:∀b∈X.fs,X.H₀ b=none
structure Inv (X:Cx) (pins:List (Addr×Obj)) (σ:List (Option V)) (H:Hp) (s:Shared):Prop where
 ok:X.Ok
 os:s.os=X.s₀.os
 bare:AllBare s.gens
 base:Un X.fs X.ex X.H₀ H X.s₀.heap s.heap
 loc:∃m,s.heap.Ns X.env.locals m∧∀(i:Nat) (x:Str) (v:V),X.N[i]? =some x→σ[i]? =some (some v)→ZK X.env.scope x→∃u,RelV v u∧Look X.env s.heap m x u
 cell:∀x c,X.env.cells.lookup x=some c→∃v,s.heap.IsCell c v
 free:H X.env.locals=none
 gC:∀x c,X.env.cells.lookup x=some c→H c=none
 pin:∀p∈X.pn++pins,s.heap.get? p.1=some p.2∧H p.1=none∧p.1≠X.env.locals∧p.1∉X.fs∧∀v,p.2.data≠ .cell v
 aU:j7 X.prog X.w H s.heap
 len:σ.length=X.N.length
section
variable {X:Cx} {pins:List (Addr×Obj)} {σ:List (Option V)} {H H':Hp} {s:Shared} {h':Heap}
theorem Cx.Ok.ZL (ok:X.Ok) {b:Addr} {o:Obj} (e:X.base.get? b=some o):b∉X.fs:=fun hb=>by
 have:=(ok.lH.mem hb).1
 rw[e] at this;cases this
theorem Inv.bs (I:Inv X pins σ H s):∀b o,X.base.get? b=some o→s.heap.get? b=some o∧H b=none:=fun b o e=>
 ⟨I.base.keep b o (I.ok.bs b o e).1 (I.ok.bs b o e).2 (I.ok.ZL e) (I.ok.vn b o e),I.base.free b o (I.ok.bs b o e).1 (I.ok.bs b o e).2 (I.ok.vn b o e)⟩
theorem Inv.bk (I:Inv X pins σ H s):∀b o,X.base.get? b=some o→s.heap.get? b=some o:=fun b o e=>(I.bs b o e).1
theorem Inv.mod (I:Inv X pins σ H s):Mod X.K X.mg X.base:=I.ok.mod
theorem Inv.ju (I:Inv X pins σ H s):X.K.In s.heap:=I.ok.mod.gy.keeps I.bk
theorem Inv.lt (I:Inv X pins σ H s):X.env.locals<s.heap.objs.size:=let ⟨_,hn,_⟩:=I.loc;hn.lt
theorem Inv.sz (I:Inv X pins σ H s):X.s₀.heap.objs.size≤s.heap.objs.size:=Nat.le_trans I.ok.above (Nat.le_of_lt I.lt)
theorem Inv.ZM (I:Inv X pins σ H s) {a:Addr} (h:s.heap.objs.size≤a):a∉X.fs:=fun hb=>by
 obtain⟨_,o,ho,_⟩:=I.ok.lH.mem hb
 exact absurd (Nat.lt_of_lt_of_le (Heap.lt_size ho) (Nat.le_trans I.sz h)) (Nat.lt_irrefl _)
theorem Inv.JU (I:Inv X pins σ H s):∀x c,X.env.cells.lookup x=some c→c≠X.env.locals:=fun x c e z=>by
 obtain⟨v,o,ho,hd⟩:=I.cell x c e
 obtain⟨m,⟨o',es,ep,xO,fQ,_⟩,_⟩:=I.loc
 rw[z,xO] at ho;cases ho;rw[fQ] at hd;cases hd
theorem Inv.lH (I:Inv X pins σ H s):s.heap.FunFrames X.base X.outer:=by
 have all:∀(l:List Env),(∀b∈xN l,b∈X.fs)→X.s₀.heap.FunFrames X.base l→s.heap.FunFrames X.base l:=by
  intro l
  induction l with
  |nil=>intro _ _;trivial
  |cons env r ih=>
   intro hs hl
   obtain⟨hk,⟨L,o,hf,hn,ho,hd⟩,hr⟩:=hl
   have hL:L∈X.fs:=hs L (by unfold xN;rw[List.filterMap_cons,hf];exact List.mem_cons_self)
   obtain⟨sl,e⟩:=I.base.slot L o ho (I.ok.Fw L hL) hL fun z=>I.ok.vo L z hL
   exact⟨hk,⟨L,_,hf,hn,e,hd⟩,ih (fun b hb=>hs b (by unfold xN;rw[List.filterMap_cons,hf];exact List.mem_cons_of_mem _ hb)) hr⟩
 exact all X.outer (fun _ hb=>hb) I.ok.lH
theorem Inv.stack (I:Inv X pins σ H s):s.heap.FunFrames X.base X.stack:=by
 rcases I.ok.Ms with e| ⟨e,hf⟩
 ·rw[e];exact I.lH
 ·rw[e]
  obtain⟨m,hn,_⟩:=I.loc
  refine .cons (by rw[I.ok.kind];decide) hf hn ?_ I.lH
  exact Heap.get?_none_of_le (Nat.le_trans I.ok.Dp I.ok.above)
theorem Inv.vp (I:Inv X pins σ H s):∀b∈xN X.stack,b∈X.env.locals::X.fs:=fun b hb=>by
 rcases I.ok.Ms with e| ⟨e,hf⟩
 ·rw[e] at hb;exact List.mem_cons_of_mem _ hb
 ·rw[e] at hb
  unfold xN at hb
  rw[List.filterMap_cons,hf] at hb
  exact hb
theorem Inv.vq (I:Inv X pins σ H s):∀b∈xN X.stack,H b=none:=fun b hb=>by
 rcases List.mem_cons.mp (I.vp b hb) with e|hb
 ·rw[e];exact I.free
 ·obtain⟨_,o,ho,_⟩:=I.ok.lH.mem hb
  exact I.base.free b o ho (I.ok.Fw b hb) fun z=>I.ok.vo b z hb
theorem Inv.step {g':Array GenState} {t':Nat} {d':Drawn} {ch:List Addr} (I:Inv X pins σ H s)
  (Fc:∀b∈ch,(b∈X.ex∨X.s₀.heap.objs.size≤b)∧b≠X.env.locals∧(∀x c,X.env.cells.lookup x=some c→c≠b)∧∀p∈X.pn++pins,p.1≠b)
  (keep:∀b o,b≠X.env.locals→b∉X.fs→b∉ch→s.heap.get? b=some o→H b=none→h'.get? b=some o)
  (slot:∀b o,b≠X.env.locals→b∈X.fs→b∉ch→s.heap.get? b=some o→H b=none→∃sl,h'.get? b=some { o with slots:=sl }) (free:∀b o,b∉ch→s.heap.get? b=some o→H b=none→H' b=none)
  (there:∀b o,b∉ch→s.heap.get? b=some o→∃o',h'.get? b=some o')
  (nW:∀b xs,H b=some (.tup xs)→H' b=some (.tup xs)) (nX:∀b o u,H b=some (.fN o u)→H' b=some (.fN o u)) (nY:∀b ps,H b=some (.Mr ps)→∃more,H' b=some (.Mr (ps++more)))
  (ns:∀m,s.heap.Ns X.env.locals m→h'.Ns X.env.locals m) (aU:j7 X.prog X.w H' h') (hg:AllBare g'):
  Inv X pins σ H' { s with heap:=h',gens:=g',drawn:=d',toks:=t' }:=by
 have RF:∀b o,X.s₀.heap.get? b=some o→b≠X.env.locals:=fun b o e=>Nat.ne_of_lt (Nat.lt_of_lt_of_le (Heap.lt_size e) I.ok.above)
 have YT:∀b o,X.s₀.heap.get? b=some o→b∉X.ex→b∉ch:=fun b o e hx hb=>by
  rcases (Fc b hb).1 with z|z
  ·exact hx z
  ·exact absurd (Nat.lt_of_lt_of_le (Heap.lt_size e) z) (Nat.lt_irrefl _)
 have cellK:∀x c,X.env.cells.lookup x=some c→∀v,s.heap.IsCell c v→h'.IsCell c v:=fun x c e v ⟨o,ho,hd⟩=>by
  have Fx:c∉ch:=fun z=>(Fc c z).2.2.1 x c e rfl
  by_cases hc:c∈X.fs
  ·obtain⟨sl,q⟩:=slot c o (I.JU x c e) hc Fx ho (I.gC x c e)
   exact⟨_,q,hd⟩
  ·exact⟨o,keep c o (I.JU x c e) hc Fx ho (I.gC x c e),hd⟩
 refine⟨I.ok,I.os,hg,⟨fun b o e n hb hx=>?_,fun b o e n hb hx=>?_,fun b o e n hx=>?_,fun b o e hx=>?_,fun b xs e=>nW b xs (I.base.nW b xs e),fun b o xs e=>nX b o xs (I.base.nX b o xs e),fun b ps e=>?_⟩,?_,fun x c e=>?_,?_,fun x c e=>?_,fun p hp=>?_,aU,I.len⟩
 ·exact keep b o (RF b o e) hb (YT b o e hx) (I.base.keep b o e n hb hx) (I.base.free b o e n hx)
 ·obtain⟨sl,e1⟩:=I.base.slot b o e n hb hx
  obtain⟨NR,e2⟩:=slot b _ (RF b o e) hb (YT b o e hx) e1 (I.base.free b o e n hx)
  exact⟨NR,e2⟩
 ·obtain⟨o',e1⟩:=I.base.there b o e hx
  exact free b o' (YT b o e hx) e1 (I.base.free b o e n hx)
 ·obtain⟨o',e1⟩:=I.base.there b o e hx
  exact there b o' (YT b o e hx) e1
 ·obtain⟨m1,e1⟩:=I.base.nY b ps e
  obtain⟨m2,e2⟩:=nY b _ e1
  exact⟨m1++m2,by rw[e2,Array.append_assoc]⟩
 ·obtain⟨m,hn,hl⟩:=I.loc
  refine⟨m,ns m hn,fun i x v e1 e2 e3=>?_⟩
  obtain⟨u,r,l⟩:=hl i x v e1 e2 e3
  refine⟨u,r,?_⟩
  rcases l with l| ⟨k,c,e,z⟩
  ·exact .inl l
  ·exact .inr ⟨k,c,e,cellK x c e _ z⟩
 ·obtain⟨v,z⟩:=I.cell x c e
  exact⟨v,cellK x c e v z⟩
 ·obtain⟨m,⟨o,_,_,ho,_⟩,_⟩:=I.loc
  exact free _ o (fun z=>(Fc _ z).2.1 rfl) ho I.free
 ·obtain⟨v,o,ho,hd⟩:=I.cell x c e
  exact free c o (fun z=>(Fc c z).2.2.1 x c e rfl) ho (I.gC x c e)
 ·obtain⟨e,n,ne,nf,d⟩:=I.pin p hp
  have Fx:p.1∉ch:=fun z=>(Fc p.1 z).2.2.2 p hp rfl
  exact⟨keep p.1 p.2 ne nf Fx e n,free p.1 p.2 Fx e n,ne,nf,d⟩
theorem Inv.un {t':Nat} (I:Inv X pins σ H s) (u:Un X.fs [] H H' s.heap h') (aU:j7 X.prog X.w H' h'):Inv X pins σ H' { s with heap:=h',toks:=t' }:=by
 obtain⟨m,⟨o,es,ep,ho,r⟩,_⟩:=id I.loc
 obtain⟨sl,hL⟩:=u.any ho I.free (by simp)
 exact I.step (g':=s.gens) (d':=s.drawn) (ch:=[]) (fun _ z=>nomatch z) (fun b o _ hb _ e n=>u.keep b o e n hb (by simp)) (fun b o _ hb _ e n=>u.slot b o e n hb (by simp)) (fun b o _ e n=>u.free b o e n (by simp)) (fun b o _ e=>u.there b o e (by simp)) u.nW u.nX u.nY (fun m' hm=>by
  obtain⟨o',YU,YV,xO,r'⟩:=hm
  rw[ho] at xO;cases xO
  exact⟨_,YU,YV,hL,r'⟩) aU I.bare
theorem Inv.call {g':Array GenState} {t':Nat} {d':Drawn} {ch:List Addr} (I:Inv X pins σ H s) (u:Un (xN X.stack) ch H H' s.heap h') (aU:j7 X.prog X.w H' h') (hg:AllBare g')
  (Fc:∀b∈ch,(b∈X.ex∨X.s₀.heap.objs.size≤b)∧b≠X.env.locals∧(∀x c,X.env.cells.lookup x=some c→c≠b)∧∀p∈X.pn++pins,p.1≠b):
  Inv X pins σ H' { s with heap:=h',gens:=g',drawn:=d',toks:=t' }:=by
 obtain⟨m,⟨o,es,ep,ho,r⟩,_⟩:=id I.loc
 obtain⟨sl,hL⟩:=u.any ho I.free fun z=>(Fc _ z).2.1 rfl
 exact I.step (ch:=ch) Fc (fun b o hL hb hc e n=>u.keep b o e n (fun z=>(List.mem_cons.mp (I.vp b z)).elim hL hb) hc) (fun b o _ _ hc e n=>u.any e n hc) (fun b o hc e n=>u.free b o e n hc) (fun b o hc e=>u.there b o e hc) u.nW u.nX u.nY (fun m' hm=>by
  obtain⟨o',YU,YV,xO,r'⟩:=hm
  rw[ho] at xO;cases xO
  exact⟨_,YU,YV,hL,r'⟩) aU hg
theorem Inv.turned {t':Nat} {it:Addr} (I:Inv X pins σ H s) (k:∀b o,b≠it→s.heap.get? b=some o→h'.get? b=some o) (hn:H it=none) (hL:it≠X.env.locals)
  (h1:it∈X.ex∨X.s₀.heap.objs.size≤it) (h2:∀x c,X.env.cells.lookup x=some c→c≠it) (h3:∀p∈X.pn++pins,p.1≠it):Inv X pins σ H { s with heap:=h',toks:=t' }:=by
 have nit:∀b u,H b=some u→b≠it:=fun b u e z=>by rw[z,hn] at e;cases e
 refine I.step (g':=s.gens) (d':=s.drawn) (ch:=[it]) (fun b hb=>?_) (fun b o _ _ hc e _=>k b o (fun z=>hc (by simp [z])) e) (fun b o _ _ hc e _=>⟨o.slots,k b o (fun z=>hc (by simp [z])) e⟩) (fun _ _ _ _ n=>n)
  (fun b o hc e=>⟨o,k b o (fun z=>hc (by simp [z])) e⟩) (fun _ _ e=>e) (fun _ _ _ e=>e) (fun b ps e=>⟨#[],by rw[e];simp⟩) (fun m hm=>?_) (fun b u e=>?_) I.bare
 ·have e:b=it:=by simpa using hb
  subst e
  exact⟨h1,hL,h2,h3⟩
 ·obtain⟨o,es,ep,ho,r⟩:=hm
  exact⟨o,es,ep,k _ o (Ne.symm hL) ho,r⟩
 ·refine(I.aU b u e).qx (fun c v hc q=>k c v ?_ q) (fun _ q=>q) fun _ _ q=>q
  rcases hc with z|z
  ·rw[z];exact nit b u e
  ·exact nit c _ z
theorem Inv.tok (I:Inv X pins σ H s) (t:Nat):Inv X pins σ H { s with toks:=t }:=I.un (h':=s.heap) (t':=t) Un.refl I.aU
theorem Inv.kept {t':Nat} (I:Inv X pins σ H s) (k:∀b u,s.heap.get? b=some u→h'.get? b=some u):Inv X pins σ H { s with heap:=h',toks:=t' }:=I.un (Un.kept k) (I.aU.kept k)
theorem Inv.laid {a:Addr} {o:HO} {t':Nat} (I:Inv X pins σ H s) (k:∀b u,s.heap.get? b=some u→h'.get? b=some u) (hp:s.heap.objs.size≤a) (new:cq X.prog X.w (upd H a o) h' a o):
  Inv X pins σ (upd H a o) { s with heap:=h',toks:=t' }:=I.un (Un.laid k hp (I.aU.fresh hp)) (I.aU.laid k hp new)
theorem Inv.write {x e:Addr} {o:HO} {t':Nat} (I:Inv X pins σ H s) (mu:RC (H x)) (he:e=x∨H e=some (.own x)) (k:∀b u,b≠e→s.heap.get? b=some u→h'.get? b=some u) (Q8:∃u,h'.get? e=some u)
  (new:cq X.prog X.w (upd H x o) h' x o):Inv X pins σ (upd H x o) { s with heap:=h',toks:=t' }:=I.un (Un.write mu he k Q8) (I.aU.write mu he k Q8 new)
theorem Inv.vt {Mt:List (Addr×Obj)} (I:Inv X pins σ H s) (h:∀p∈Mt,s.heap.get? p.1=some p.2∧H p.1=none∧p.1≠X.env.locals∧p.1∉X.fs∧∀v,p.2.data≠ .cell v):Inv X Mt σ H s:=
 ⟨I.ok,I.os,I.bare,I.base,I.loc,I.cell,I.free,I.gC,fun p hp=>(List.mem_append.mp hp).elim (fun z=>I.pin p (List.mem_append_left _ z)) (h p),I.aU,I.len⟩
theorem qy {N:List Str} (hN:N.Nodup) {i j:Nat} {x:Str} (a:N[i]? =some x) (b:N[j]? =some x):i=j:=by
 obtain⟨h1,e1⟩:=List.getElem?_eq_some_iff.mp a
 obtain⟨h2,e2⟩:=List.getElem?_eq_some_iff.mp b
 exact(List.getElem_inj hN).mp (e1.trans e2.symm)
theorem tE {M:Model} {A:Around} {E:Value→Shared→Prop} {i:Nat} {x:Str} {v:V} {u:Value} {Q:Unit→Shared→Prop} (I:Inv X pins σ H s) (hN:X.N.Nodup) (hi:X.N[i]? =some x) (hx:Loc X.env.scope x) (r:RelV v u)
  (h:∀s',Inv X pins (σ.set i (some v)) H s'→(∃a,Heap.SameBut a s.heap s'.heap∧(a=X.env.locals∨X.env.cells.lookup x=some a))→Q () s') (hf:X.fn x=true∨X.env.scope.names.lookup x=some .local:=by first|exact .inl rfl|exact .inr rfl|assumption):wpAny M A (storeName X.env x u) Q E s:=by
 obtain⟨m,hn,hl⟩:=id I.loc
 have NS:(X.env.scope.kind== .class||(X.env.scope.kind== .module&&X.env.locals != X.env.globals))=false:=by rw[I.ok.kind];rfl
 have hiσ:i<σ.length:=by rw[I.len];exact(List.getElem?_eq_some_iff.mp hi).1
 have JU:=I.JU
 have tracked:∀{a:Addr} {h':Heap},(∃o,s.heap.get? a=some o∧H a=none)→Heap.SameBut a s.heap h'→j7 X.prog X.w H h':=fun {a h'} ha hs b ob e=>by
  obtain⟨_,_,Mu⟩:=ha
  refine(I.aU b ob e).qx (fun c w' hc q=>(hs.2 c ?_).trans q) (fun _ q=>q) fun _ _ q=>q
  rintro rfl
  rcases hc with rfl|hc
  ·rw[Mu] at e;cases e
  ·rw[Mu] at hc;cases hc
 rcases hx with hk|hk
 ·refine wpAny_storeName_local hk hn (fun h' NT hs=>?_) NS
  obtain⟨oL,_,_,Ra,_⟩:=id hn
  refine h _ ⟨I.ok,I.os,I.bare,⟨fun b o e n hb hx=>?_,fun b o e n hb hx=>?_,I.base.free,fun b o e hx=>?_,I.base.nW,I.base.nX,I.base.nY⟩,⟨_,NT,fun j y v' e1 e2 e3=>?_⟩,fun y c e=>?_,I.free,I.gC,fun p hp=>?_,tracked ⟨oL,Ra,I.free⟩ hs,by simpa using I.len⟩ ⟨_,hs, .inl rfl⟩
  ·exact(hs.2 b (Nat.ne_of_lt (Nat.lt_of_lt_of_le (Heap.lt_size e) I.ok.above))).trans (I.base.keep b o e n hb hx)
  ·obtain⟨sl,e1⟩:=I.base.slot b o e n hb hx
   exact⟨sl,(hs.2 b (Nat.ne_of_lt (Nat.lt_of_lt_of_le (Heap.lt_size e) I.ok.above))).trans e1⟩
  ·obtain⟨o',e1⟩:=I.base.there b o e hx
   exact⟨o',(hs.2 b (Nat.ne_of_lt (Nat.lt_of_lt_of_le (Heap.lt_size e) I.ok.above))).trans e1⟩
  ·by_cases hj:j=i
   ·subst hj
    rw[hi] at e1;cases e1
    rw[List.getElem?_set_self hiσ] at e2
    cases e2
    exact⟨u,r, .inl ⟨hk,by simp⟩⟩
   ·rw[List.getElem?_set_ne (Ne.symm hj)] at e2
    obtain⟨u',r',q⟩:=hl j y v' e1 e2 e3
    refine⟨u',r',?_⟩
    rcases q with ⟨k,e⟩ | ⟨k,c,e,z⟩
    ·refine .inl ⟨k,?_⟩
     have:y≠x:=fun e=>hj (qy hN e1 (e▸hi))
     simp [this,e]
    ·exact .inr ⟨k,c,e,z.sameBut hs (JU y c e)⟩
  ·obtain⟨w',z⟩:=I.cell y c e
   exact⟨w',z.sameBut hs (JU y c e)⟩
  ·obtain⟨e,n,ne,nf,d⟩:=I.pin p hp
   exact⟨(hs.2 p.1 ne).trans e,n,ne,nf,d⟩
 ·have ZN:X.fn x=true:=by
   rcases hf with z|z
   ·exact z
   ·rw[z] at hk;cases hk
  obtain⟨c,hc⟩:=I.ok.has x (.inl hk)
  obtain⟨w',z⟩:=I.cell x c hc
  refine wpAny_storeName_cell I.ok.kind hk hc z (fun h' JE hs=>?_)
  obtain⟨oc,hoc,ZO⟩:=id z
  refine h { s with heap:=h' } ⟨I.ok,I.os,I.bare,⟨fun b o e n hb hx=>?_,fun b o e n hb hx=>?_,I.base.free,fun b o e hx=>?_,I.base.nW,I.base.nX,I.base.nY⟩,⟨m,hn.sameBut hs (Ne.symm (JU x c hc)),fun j y v' e1 e2 e3=>?_⟩,fun y c' e=>?_,I.free,I.gC,fun p hp=>?_,tracked ⟨oc,hoc,I.gC x c hc⟩ hs,by simpa using I.len⟩ ⟨c,hs, .inr hc⟩
  ·exact(hs.2 b (Nat.ne_of_lt (Nat.lt_of_lt_of_le (Heap.lt_size e) (I.ok.JT x c ZN hc)))).trans (I.base.keep b o e n hb hx)
  ·obtain⟨sl,e1⟩:=I.base.slot b o e n hb hx
   exact⟨sl,(hs.2 b (Nat.ne_of_lt (Nat.lt_of_lt_of_le (Heap.lt_size e) (I.ok.JT x c ZN hc)))).trans e1⟩
  ·obtain⟨o',e1⟩:=I.base.there b o e hx
   exact⟨o',(hs.2 b (Nat.ne_of_lt (Nat.lt_of_lt_of_le (Heap.lt_size e) (I.ok.JT x c ZN hc)))).trans e1⟩
  ·by_cases hj:j=i
   ·subst hj
    rw[hi] at e1;cases e1
    rw[List.getElem?_set_self hiσ] at e2
    cases e2
    exact⟨u,r, .inr ⟨.inl hk,c,hc,JE⟩⟩
   ·rw[List.getElem?_set_ne (Ne.symm hj)] at e2
    obtain⟨u',r',q⟩:=hl j y v' e1 e2 e3
    refine⟨u',r',?_⟩
    rcases q with q| ⟨k,c',e,z'⟩
    ·exact .inl q
    ·refine .inr ⟨k,c',e,z'.sameBut hs ?_⟩
     rintro rfl
     exact hj (qy hN e1 (I.ok.inj _ _ _ e hc▸hi))
  ·by_cases hcc:c'=c
   ·subst hcc;exact⟨_,JE⟩
   ·obtain⟨w2,z2⟩:=I.cell y c' e
    exact⟨w2,z2.sameBut hs hcc⟩
  ·obtain⟨e,n,ne,nf,d⟩:=I.pin p hp
   refine⟨(hs.2 p.1 ?_).trans e,n,ne,nf,d⟩
   intro q
   rw[q,hoc] at e
   have q':oc=p.2:=Option.some.inj e
   exact d w' (by rw[←q'];exact ZO)
theorem store_ok {M:Model} {A:Around} {E:Value→Shared→Prop} {i:Nat} {x:Str} {v:V} {u:Value} {Q:Unit→Shared→Prop} (I:Inv X pins σ H s) (hN:X.N.Nodup) (hi:X.N[i]? =some x) (hx:Loc X.env.scope x) (r:RelV v u)
  (h:∀s',Inv X pins (σ.set i (some v)) H s'→Q () s') (hf:X.fn x=true∨X.env.scope.names.lookup x=some .local:=by first|exact .inl rfl|exact .inr rfl|assumption):wpAny M A (storeName X.env x u) Q E s:=
 tE I hN hi hx r (fun s' I' _=>h s' I') hf
theorem Inv.Fy {s':Shared} {ch:List Addr} (I:Inv X pins σ H s) (ho:s'.os=s.os) (u:Un (xN X.stack) ch H H' s.heap s'.heap) (aU:j7 X.prog X.w H' s'.heap) (hg:AllBare s'.gens)
  (Fc:∀b∈ch,(b∈X.ex∨X.s₀.heap.objs.size≤b)∧b≠X.env.locals∧(∀x c,X.env.cells.lookup x=some c→c≠b)∧∀p∈X.pn++pins,p.1≠b):Inv X pins σ H' s':=by
 obtain⟨h',g',d',t',o'⟩:=s'
 have e:o'=s.os:=ho
 subst e
 exact I.call (g':=g') (t':=t') (d':=d') u aU hg Fc
end
abbrev XK:=Value→Option Addr→Hp→Prop
abbrev St:=List (Option V)
abbrev VK:=V→Hp→Prop
abbrev TE:=St→Hp→VK→Prop
abbrev TT:=St→Hp→(Bool→Hp→Prop)→Prop
abbrev TA:=St→Hp→(List V→Hp→Prop)→Prop
structure Ends where
 nx:St→Hp→Prop
 rt:VK
 bk:St→Hp→Prop:=fun _ _=>False
 ct:St→Hp→Prop:=fun _ _=>False
abbrev TS:=Ends→St→Hp→Prop
def EP (X:Cx) (pins:List (Addr×Obj)) (σ:St) (Q:VK) (u:Value) (s':Shared):Prop:=∃v H',Inv X pins σ H' s'∧RelV v u∧Q v H'
def TP (X:Cx) (pins:List (Addr×Obj)) (σ:St) (Q:Bool→Hp→Prop) (b:Bool) (s':Shared):Prop:=∃H',Inv X pins σ H' s'∧Q b H'
def AP (X:Cx) (pins:List (Addr×Obj)) (σ:St) (Q:List V→Hp→Prop) (us:List Value) (s':Shared):Prop:=∃vs H',Inv X pins σ H' s'∧Vals vs us∧Q vs H'
def SP (X:Cx) (pins:List (Addr×Obj)) (D:Ends) (f:Flow) (s':Shared):Prop:=
 match f with
 | .next=>∃σ' H',Inv X pins σ' H' s'∧D.nx σ' H'
 | .brk=>∃σ' H',Inv X pins σ' H' s'∧D.bk σ' H'
 | .cont=>∃σ' H',Inv X pins σ' H' s'∧D.ct σ' H'
 | .ret u=>∃v σ' H',Inv X pins σ' H' s'∧RelV v u∧D.rt v H'
def PE (X:Cx) (e:Expr) (t:TE):Prop:=
 ∀(pins:List (Addr×Obj)) (s:Shared) (σ:St) (H:Hp) (Q:VK),Inv X pins σ H s→t σ H Q→wpAny (model X.prog X.w) X.A (eval e X.env) (EP X pins σ Q) X.xe s
def PT (X:Cx) (e:Expr) (t:TT):Prop:=
 ∀(pins:List (Addr×Obj)) (s:Shared) (σ:St) (H:Hp) (Q:Bool→Hp→Prop),Inv X pins σ H s→t σ H Q→wpAny (model X.prog X.w) X.A (isTrue e X.env (eval e X.env)) (TP X pins σ Q) X.xe s
def PW (X:Cx) (e:Expr) (t:TT):Prop:=
 ∀(whole:Sem Value) (pins:List (Addr×Obj)) (s:Shared) (σ:St) (H:Hp) (Q:Bool→Hp→Prop),Inv X pins σ H s→t σ H Q→wpAny (model X.prog X.w) X.A (isTrue e X.env whole) (TP X pins σ Q) X.xe s
theorem PW.pt {X:Cx} {e:Expr} {t:TT} (h:PW X e t):PT X e t:=h _
def PA (X:Cx) (es:List Expr) (t:TA):Prop:=
 ∀(pos:Pos) (pins:List (Addr×Obj)) (s:Shared) (σ:St) (H:Hp) (Q:List V→Hp→Prop),Inv X pins σ H s→t σ H Q→wpAny (model X.prog X.w) X.A (spliced (backTo pos (starEach es X.env))) (AP X pins σ Q) X.xe s
def PS (X:Cx) (st:Stmt) (t:TS):Prop:=
 ∀(pins:List (Addr×Obj)) (s:Shared) (σ:St) (H:Hp) (D:Ends),Inv X pins σ H s→t D σ H→wpAny (model X.prog X.w) X.A (exec st X.env) (SP X pins D) X.xe s
def lU (X:Cx) (st:List Stmt) (t:TS):Prop:=
 ∀(pins:List (Addr×Obj)) (s:Shared) (σ:St) (H:Hp) (D:Ends),Inv X pins σ H s→t D σ H→wpAny (model X.prog X.w) X.A (execs st X.env) (SP X pins D) X.xe s
theorem bZ {α:Type} {t:Sem α} {Q Q':α→Shared→Prop} {M:Model} {A:Around} {E:Value→Shared→Prop} {s:Shared} (h:wpAny M A t Q E s) (hQ:∀a s,Q a s→Q' a s):wpAny M A t Q' E s:=wpAny_mono h hQ fun _ _ x=>x
end L2
namespace L2
open PySem PySem.Spec PyProof.Rows
section
variable {X:Cx}
inductive RV (i:Nat) (σ:St) (H:Hp) (Q:VK):Prop
 |mk (v:V) (e:σ[i]? =some (some v)) (q:Q v H)
def j8 (i:Nat):TE:=fun σ H Q=>RV i σ H Q
def tC (v:V):TE:=fun _ H Q=>Q v H
theorem NU {i:Nat} {x:Str} {pos:Pos} (hN:X.N[i]? =some x) (hv:ZK X.env.scope x) (hd:(x==("__debug__" :Str))=false:=by decide) (pG:(x==("__classdict__" :Str))=false:=by decide):PE X (.Name x pos) (j8 i):=by
 intro pins s σ H Q I h
 obtain⟨v,e,h⟩:=h
 obtain⟨m,hn,hl⟩:=I.loc
 obtain⟨u,r,l⟩:=hl i x v hN e hv
 have fin:EP X pins σ Q u s:=⟨v,H,I,r,h⟩
 rcases l with ⟨hk,hm⟩ | ⟨hk,c,hc,Mv⟩
 ·exact wpAny_Name (wpAny_loadName_local I.ok.kind hk hn hm fin) hd
 ·rcases hk with hk|hk
  ·exact wpAny_Name (wpAny_loadName_cell I.ok.kind hk hc Mv fin) hd
  ·exact wpAny_Name (wpAny_loadName_free I.ok.kind hk hc Mv fin pG) hd
theorem aq {i j pos}:PE X (.Constant (.int i) j pos) (tC (.int i)):=fun _ _ _ H _ I h=>wpAny_Constant_int ⟨.int i,H,I.tok _,⟨_,rfl⟩,h⟩
theorem j2 {b j pos}:PE X (.Constant (.bool b) j pos) (tC (.bl b)):=fun _ _ _ H _ I h=>Constant_bool ⟨.bl b,H,I,rfl,h⟩
theorem vw {j pos}:PE X (.Constant .none j pos) (tC .cU):=fun _ _ _ H _ I h=>Constant_none ⟨.cU,H,I,rfl,h⟩
theorem bJ {x j pos}:PE X (.Constant (.str x) j pos) (tC (.str x)):=fun _ _ _ H _ I h=>Calls.Constant_str ⟨.str x,H,I.tok _,⟨_,rfl⟩,h⟩
def Gl (X:Cx) (x:Str):Prop:=X.env.kindOf x=some .globalImplicit
theorem jv {E:Value→Shared→Prop} {pins:List (Addr×Obj)} {s:Shared} {σ:St} {H:Hp} {x:Str} {u:Value} {pos:Pos} {Q:Value→Shared→Prop} (I:Inv X pins σ H s) (hg:Gl X x) (hm:X.mg x=some u) (h:Q u s)
  (hd:(x==("__debug__" :Str))=false:=by decide):wpAny (model X.prog X.w) X.A (eval (.Name x pos) X.env) Q E s:=
 Calls.Name_function_global I.ok.kind hg (Calls.loadGlobal_global (by rw[I.ok.glob];exact I.mod.glob.keeps I.bk) hm h) hd
theorem nZ {E:Value→Shared→Prop} {pins:List (Addr×Obj)} {s:Shared} {σ:St} {H:Hp} {x:Str} {u:Value} {pos:Pos} {Q:Value→Shared→Prop} (I:Inv X pins σ H s) (hg:Gl X x) (hm:X.mg x=none) (hv:bootBuiltins x=some u) (h:Q u s)
  (hn:x≠"__name__" :=by decide) (hd:(x==("__debug__" :Str))=false:=by decide):wpAny (model X.prog X.w) X.A (eval (.Name x pos) X.env) Q E s:=by
 obtain⟨mb,h1,h2⟩:=I.mod.blt
 exact Calls.Name_function_global I.ok.kind hg (Calls.loadGlobal_builtin (by rw[I.ok.glob];exact I.mod.glob.keeps I.bk) hm (by rw[I.ok.blt];exact h1.keeps I.bk) ((h2 x hn).trans hv) h) hd
theorem aY {x:Str} {v:V} {u:Value} {pos:Pos} (hg:Gl X x) (hm:X.mg x=some u) (r:RelV v u) (hd:(x==("__debug__" :Str))=false:=by decide):PE X (.Name x pos) (tC v):=
 fun _ _ _ H _ I h=>jv I hg hm ⟨v,H,I,r,h⟩ hd
theorem mv {x:Str} {v:V} {u:Value} {pos:Pos} (hg:Gl X x) (hm:X.mg x=none) (hv:bootBuiltins x=some u) (r:RelV v u) (hn:x≠"__name__" :=by decide) (hd:(x==("__debug__" :Str))=false:=by decide):PE X (.Name x pos) (tC v):=
 fun _ _ _ H _ I h=>nZ I hg hm hv ⟨v,H,I,r,h⟩ hn hd
variable {a b:Expr} {ta tb:TE} {pos:Pos}
def PC (X:Cx) (op:CmpOp) (a b:Expr) (t:TE):Prop:=
 ∀(pins:List (Addr×Obj)) (s:Shared) (σ:St) (H:Hp) (Q:VK),Inv X pins σ H s→t σ H Q→
  wpAny (model X.prog X.w) X.A (eval a X.env) (fun v s₁=>wpAny (model X.prog X.w) X.A (eval b X.env) (fun u s₂=>wpAny (model X.prog X.w) X.A (compareOp op v u) (EP X pins σ Q) X.xe s₂) X.xe s₁) X.xe s
theorem xW (b:Expr) {op:CmpOp} (h:op≠ .In) (h2:op≠ .NotIn):behindInMarks op b=false:=by
 have e1:(op==CmpOp.In)=false:=by cases op<;>first|rfl|exact absurd rfl h
 have e2:(op==CmpOp.NotIn)=false:=by cases op<;>first|rfl|exact absurd rfl h2
 cases b<;>simp [behindInMarks,e1,e2]
def ZP (ta:TE):TE:=fun σ H Q=>ta σ H fun x H1=>Q (.bl (decide (x= .cU))) H1
def RG (ta:TE):TE:=fun σ H Q=>ta σ H fun x H1=>Q (.bl (!decide (x= .cU))) H1
theorem RelV.xX {x:V} {v:Value} (r:RelV x v):(v==Value.none)=decide (x= .cU):=by
 cases x with
 |cU=>cases r;rfl
 |bl _=>cases r;rfl
 |int _=>obtain⟨t,rfl⟩:=r;rfl
 |str _=>obtain⟨t,rfl⟩:=r;rfl
 |zX _=>obtain⟨t,rfl⟩:=r;rfl
 |Mq _=>obtain⟨t,rfl⟩:=r;rfl
 |ref _=>cases r;rfl
 |ty _=>cases r;rfl
theorem qz {j pos'} (ha:PE X a ta):PC X .Is a (.Constant .none j pos') (ZP ta):=by
 intro pins s σ H Q I h
 refine bZ (ha pins s σ H _ I h) fun v s1 ⟨x,H1,I1,r1,q1⟩=>?_
 exact Constant_none (is_none_gen ⟨.bl _,H1,I1,by rw[r1.xX];rfl,q1⟩)
theorem vx {j pos'} (ha:PE X a ta):PC X .IsNot a (.Constant .none j pos') (RG ta):=by
 intro pins s σ H Q I h
 refine bZ (ha pins s σ H _ I h) fun v s1 ⟨x,H1,I1,r1,q1⟩=>?_
 exact Constant_none (isnot_none_gen ⟨.bl _,H1,I1,by rw[r1.xX];rfl,q1⟩)
def tB (t:TE):TT:=fun σ H Q=>t σ H fun x H1=>∃c,x= .bl c∧Q c H1
theorem zY {op:CmpOp} {t:TE} (h:PC X op a b t) (h1:behindInMarks op b=false:=by first|exact xW _ (by decide) (by decide) |rfl):PE X (.Compare a [op] [b] pos) t:=fun pins s σ H Q I hw=>wpAny_Compare1 (h pins s σ H Q I hw) h1
theorem qA {op:CmpOp} {t:TE} (h:PC X op a b t) (h1:behindInMarks op b=false:=by first|exact xW _ (by decide) (by decide) |rfl):PT X (.Compare a [op] [b] pos) (tB t):=by
 intro pins s σ H Q I hw
 refine wpAny_isTrue_Compare1 (bZ (h pins s σ H _ I hw) fun v s1 h1=>bZ h1 fun u s2 h2=>bZ h2 fun c s3 ⟨x,H1,I1,r1,q1⟩=>?_) h1
 obtain⟨d,rfl,q⟩:=q1
 cases r1
 exact wpAny_truthy_bool ⟨H1,I1,q⟩
theorem cJ {e:Expr} {t:TE} (h:PE X e t) (he:∀whole,isTrue e X.env whole=(do let v←whole;standAt e.pos;holding [v] (truthy v)):=by intro _;rfl):PT X e (tB t):=by
 intro pins s σ H Q I hw
 refine isTrue_plain (bZ (h pins s σ H _ I hw) fun v s1 ⟨x,H1,I1,r1,q1⟩=>?_) (he _)
 obtain⟨d,rfl,q⟩:=q1
 cases r1
 exact wpAny_truthy_bool ⟨H1,I1,q⟩
variable {tA YW:TT} {rest:List Expr}
def ZQ (t u:TT):TT:=fun σ H Q=>t σ H fun c H1=>if c=true then u σ H1 Q else Q false H1
def tOr (t u:TT):TT:=fun σ H Q=>t σ H fun c H1=>if c=true then Q true H1 else u σ H1 Q
def ZR (t:TT):TT:=fun σ H Q=>t σ H fun c H1=>Q (!c) H1
theorem vy (ha:PT X a tA):PW X (.BoolOp .And [a] pos) tA:=by
 intro wh pins s σ H Q I h
 refine isTrue_and (bZ (ha pins s σ H Q I h) fun c s1 e=>?_)
 cases c with
 |true=>exact isTrue_and_nil e
 |false=>exact e
theorem j9 (ha:PT X a tA):PW X (.BoolOp .Or [a] pos) tA:=by
 intro wh pins s σ H Q I h
 refine isTrue_or (bZ (ha pins s σ H Q I h) fun c s1 e=>?_)
 cases c with
 |false=>exact isTrue_or_nil e
 |true=>exact e
theorem zZ (ha:PT X a tA) (hb:PW X (.BoolOp .And (b::rest) pos) YW):PW X (.BoolOp .And (a::b::rest) pos) (ZQ tA YW):=by
 intro wh pins s σ H Q I h
 refine isTrue_and (bZ (ha pins s σ H _ I h) fun c s1 ⟨H1,I1,q1⟩=>?_)
 cases c with
 |true=>exact hb wh pins s1 σ H1 Q I1 q1
 |false=>exact⟨H1,I1,q1⟩
theorem iy (ha:PT X a tA) (hb:PW X (.BoolOp .Or (b::rest) pos) YW):PW X (.BoolOp .Or (a::b::rest) pos) (tOr tA YW):=by
 intro wh pins s σ H Q I h
 refine isTrue_or (bZ (ha pins s σ H _ I h) fun c s1 ⟨H1,I1,q1⟩=>?_)
 cases c with
 |true=>exact⟨H1,I1,q1⟩
 |false=>exact hb wh pins s1 σ H1 Q I1 q1
theorem jw (ha:PT X a tA):PT X (.UnaryOp .Not a pos) (ZR tA):=by
 intro pins s σ H Q I h
 exact isTrue_not (ha pins s σ H (fun c H1=>Q (!c) H1) I h)
def RH (ta tb:TE):TE:=fun σ H Q=>ta σ H fun x H1=>∃c,x= .bl c∧if c=true then tb σ H1 Q else Q (.bl false) H1
def ZS (ta tb:TE):TE:=fun σ H Q=>ta σ H fun x H1=>∃c,x= .bl c∧if c=true then Q (.bl true) H1 else tb σ H1 Q
def RK (ta:TE):TE:=fun σ H Q=>ta σ H fun x H1=>∃c,x= .bl c∧Q (.bl (!c)) H1
theorem qB {op} {t:TE} (h:PE X a t):PE X (.BoolOp op [a] pos) t:=fun pins s σ H Q I hw=>BoolOp_one (h pins s σ H Q I hw)
theorem vz (ha:PE X a ta) (hb:PE X (.BoolOp .And (b::rest) pos) tb):PE X (.BoolOp .And (a::b::rest) pos) (RH ta tb):=by
 intro pins s σ H Q I h
 refine BoolOp_and (bZ (ha pins s σ H _ I h) fun v s1 ⟨x,H1,I1,r1,q1⟩=>?_)
 obtain⟨c,rfl,q1⟩:=q1
 cases r1
 refine wpAny_truthy_bool ?_
 cases c with
 |true=>exact hb pins s1 σ H1 Q I1 q1
 |false=>exact⟨.bl false,H1,I1,rfl,q1⟩
theorem RL (ha:PE X a ta) (hb:PE X (.BoolOp .Or (b::rest) pos) tb):PE X (.BoolOp .Or (a::b::rest) pos) (ZS ta tb):=by
 intro pins s σ H Q I h
 refine BoolOp_or (bZ (ha pins s σ H _ I h) fun v s1 ⟨x,H1,I1,r1,q1⟩=>?_)
 obtain⟨c,rfl,q1⟩:=q1
 cases r1
 refine wpAny_truthy_bool ?_
 cases c with
 |false=>exact hb pins s1 σ H1 Q I1 q1
 |true=>exact⟨.bl true,H1,I1,rfl,q1⟩
theorem Fz (ha:PE X a ta):PE X (.UnaryOp .Not a pos) (RK ta):=by
 intro pins s σ H Q I h
 refine UnaryOp_ (bZ (ha pins s σ H _ I h) fun v s1 ⟨x,H1,I1,r1,q1⟩=>?_)
 obtain⟨c,rfl,q1⟩:=q1
 cases r1
 exact not_of (wpAny_truthy_bool ⟨.bl (!c),H1,I1,rfl,q1⟩)
def tIf (t:TT) (ta tb:TE):TE:=fun σ H Q=>t σ H fun c H1=>if c=true then ta σ H1 Q else tb σ H1 Q
theorem xY {c:Expr} (hc:PT X c tA) (ha:PE X a ta) (hb:PE X b tb):PE X (.IfExp c a b pos) (tIf tA ta tb):=by
 intro pins s σ H Q I h
 refine wpAny_IfExp (bZ (hc pins s σ H _ I h) fun d s1 ⟨H1,I1,q1⟩=>?_)
 cases d with
 |true=>exact ha pins s1 σ H1 Q I1 q1
 |false=>exact hb pins s1 σ H1 Q I1 q1
end
end L2
namespace L2
open PySem PySem.Spec PyProof.Rows
def b5 (K:PySem.W.Frag) (H:Hp) (a:Addr) (xs:List V):Prop:=
 Rd H a (.lst xs)∨
  ∃(o:Obj) (its:Array Value) (n:Nat),K.lookup a=some o∧o.cls= .type "list" ∧o.dict=none∧o.data= .seq its n∧its.size≤sizeLine∧Vals xs its.toList
def jc (K:PySem.W.Frag) (H:Hp) (a:Addr) (xs:List V):Prop:=
 Rd H a (.tup xs)∨
  ∃(o:Obj) (its:Array Value) (n:Nat),K.lookup a=some o∧o.cls= .type "tuple" ∧o.data= .seq its n∧its.size≤sizeLine∧Vals xs its.toList
def ZT:Value→Option V
 | .none=>some .cU
 | .bool b=>some (.bl b)
 | .int i _=>some (.int i)
 | .str x _=>some (.str x)
 | .bytes b _=>some (.zX b)
 | .float b _=>some (.Mq b)
 | .ref a=>some (.ref a)
 | .type n=>some (.ty n)
 |_=>none
theorem RelV.abs {x:V} {u:Value} (r:RelV x u):ZT u=some x:=by
 cases x with
 |cU=>cases r;rfl
 |bl _=>cases r;rfl
 |int _=>obtain⟨t,rfl⟩:=r;rfl
 |str _=>obtain⟨t,rfl⟩:=r;rfl
 |zX _=>obtain⟨t,rfl⟩:=r;rfl
 |Mq _=>obtain⟨t,rfl⟩:=r;rfl
 |ref _=>cases r;rfl
 |ty _=>cases r;rfl
theorem RelV.inj {x y:V} {u:Value} (r:RelV x u) (q:RelV y u):x=y:=Option.some.inj (r.abs.symm.trans q.abs)
theorem Vals.inj:∀{xs ys:List V} {us:List Value},Vals xs us→Vals ys us→xs=ys
 |_,_,_, .nil, .nil=>rfl
 |_,_,_, .cons r t, .cons r' t'=>by rw[r.inj r',Vals.inj t t']
section
variable {X:Cx} {pins:List (Addr×Obj)} {σ:St} {H:Hp} {s:Shared} {a:Addr} {xs ys:List V}
theorem b5.of {K:PySem.W.Frag} (h:H a=some (.lst xs)):b5 K H a xs:= .inl (.inl h)
theorem jc.of {K:PySem.W.Frag} (h:H a=some (.tup xs)):jc K H a xs:= .inl (.inl h)
theorem Inv.list (I:Inv X pins σ H s) (h:b5 X.K H a xs):∃its:List Value,Vals xs its∧PlainL s.heap a its.toArray∧xs.length≤sizeLine:=by
 rcases h with h| ⟨o,its,n,hk,hc,hd,hs,hz,r⟩
 ·obtain⟨z,its,n,r,e⟩:=h.ok I.aU
  exact⟨its,r,⟨_,n,e,rfl,rfl,rfl⟩,z⟩
 ·refine⟨its.toList,r,⟨o,n,I.ju a o hk,hc,hd,by simpa using hs⟩,?_⟩
  have e:=r.length
  simp only [Array.length_toList] at e
  omega
theorem Inv.tuple (I:Inv X pins σ H s) (h:jc X.K H a xs):∃its:List Value,Vals xs its∧IsTup s.heap a its.toArray∧xs.length≤sizeLine:=by
 rcases h with h| ⟨o,its,n,hk,hc,hs,hz,r⟩
 ·obtain⟨z,its,r,p⟩:=h.ok I.aU
  exact⟨its,r,p,z⟩
 ·refine⟨its.toList,r,⟨o,I.ju a o hk,hc,n,by simpa using hs⟩,?_⟩
  have e:=r.length
  simp only [Array.length_toList] at e
  omega
theorem Inv.xZ (I:Inv X pins σ H s) (h:b5 X.K H a xs) (h':b5 X.K H a ys):xs=ys:=by
 obtain⟨its,r,⟨o,n,e,_,_,d⟩,_⟩:=I.list h
 obtain⟨its',r',⟨o',n',e',_,_,d'⟩,_⟩:=I.list h'
 rw[e] at e';cases e'
 rw[d] at d'
 injection d' with d1 _
 have:its=its':=by simpa using congrArg Array.toList d1
 subst this
 exact r.inj r'
end
abbrev Cx.j' (X:Cx) (E:Value→Shared→Prop):Cx:={ X with xe:=E }
abbrev Cx.FA (X:Cx):Cx:=X.j' fun _ _=>False
theorem Cx.Ok.j' {X:Cx} (ok:X.Ok) (E:Value→Shared→Prop):(X.j' E).Ok:=
 ⟨ok.mod,ok.kind,ok.glob,ok.blt,ok.above,ok.inj,ok.has,ok.JT,ok.hd,ok.frames,ok.Ms,ok.Q9,ok.bs,ok.Dp,ok.vn,ok.vo,ok.lH,ok.Fw⟩
theorem Cx.Ok.d9 {X:Cx} {E:Value→Shared→Prop} (ok:(X.j' E).Ok):X.Ok:=
 ⟨ok.mod,ok.kind,ok.glob,ok.blt,ok.above,ok.inj,ok.has,ok.JT,ok.hd,ok.frames,ok.Ms,ok.Q9,ok.bs,ok.Dp,ok.vn,ok.vo,ok.lH,ok.Fw⟩
section
variable {X:Cx} {pins:List (Addr×Obj)} {σ:St} {H:Hp} {s:Shared} {E:Value→Shared→Prop}
theorem Inv.j' (I:Inv X pins σ H s) (E:Value→Shared→Prop):Inv (X.j' E) pins σ H s:=⟨I.ok.j' E,I.os,I.bare,I.base,I.loc,I.cell,I.free,I.gC,I.pin,I.aU,I.len⟩
theorem Inv.d9 (I:Inv (X.j' E) pins σ H s):Inv X pins σ H s:=⟨I.ok.d9,I.os,I.bare,I.base,I.loc,I.cell,I.free,I.gC,I.pin,I.aU,I.len⟩
theorem SP.d9 {D:Ends} {f:Flow} {s':Shared} (h:SP (X.j' E) pins D f s'):SP X pins D f s':=by
 cases f with
 |next=>obtain⟨σ',H',I,q⟩:=h;exact⟨σ',H',I.d9,q⟩
 |brk=>obtain⟨σ',H',I,q⟩:=h;exact⟨σ',H',I.d9,q⟩
 |cont=>obtain⟨σ',H',I,q⟩:=h;exact⟨σ',H',I.d9,q⟩
 |ret u=>obtain⟨v,σ',H',I,r,q⟩:=h;exact⟨v,σ',H',I.d9,r,q⟩
theorem lU.FA {st:List Stmt} {t:TS} (h:lU X.FA st t):lU X st t:=fun pins s σ H D I hw=>
 wpAny_mono (h pins s σ H D (I.j' _) hw) (fun _ _ q=>q.d9) fun _ _ z=>False.elim z
end
section
variable {X:Cx} {st:Stmt} {rest:List Stmt} {t u:TS} {e:Expr} {te:TE} {pos:Pos}
def Bv:TS:=fun D σ H=>D.nx σ H
def RM (t u:TS):TS:=fun D σ H=>t { D with nx:=u D } σ H
theorem aR:lU X [] Bv:=fun _ _ σ H _ I h=>wpAny_execs_nil ⟨σ,H,I,h⟩
theorem ai (h1:PS X st t) (h2:lU X rest u):lU X (st::rest) (RM t u):=by
 intro pins s σ H D I h
 refine wpAny_execs_cons (bZ (h1 pins s σ H { D with nx:=u D } I h) fun f s1 q=>?_)
 cases f with
 |next=>
  obtain⟨σ',H',I',q⟩:=q
  exact h2 pins s1 σ' H' D I' q
 |ret v=>exact q
 |brk=>exact q
 |cont=>exact q
theorem ao (h1:PS X st t):lU X [st] t:=by
 intro pins s σ H D I h
 refine wpAny_execs_cons (bZ (h1 pins s σ H D I h) fun f s1 q=>?_)
 cases f with
 |next=>exact wpAny_execs_nil q
 |ret v=>exact q
 |brk=>exact q
 |cont=>exact q
theorem Inv.quiet {pins:List (Addr×Obj)} {σ:St} {H:Hp} {s:Shared} (I:Inv X pins σ H s):interactive X.env=false:=by simp [interactive,I.ok.kind]
def RN (te:TE):TS:=fun D σ H=>te σ H fun _ H1=>D.nx σ H1
theorem bB (he:PE X e te) (hs:swapsWith e none pos.line X.env=pure false:=by rfl):PS X (.Expr e pos) (RN te):=by
 intro pins s σ H D I h
 exact wpAny_Expr_any (bZ (he pins s σ H _ I h) fun v s1 ⟨x,H1,I1,r1,q1⟩=>⟨σ,H1,I1,q1⟩) I.quiet hs
def ZU (te:TE):TS:=fun D σ H=>te σ H D.rt
theorem aD (he:PE X e te):PS X (.Return (some e) pos) (ZU te):=by
 intro pins s σ H D I h
 exact wpAny_Return_some (bZ (he pins s σ H _ I h) fun v s1 ⟨x,H1,I1,r1,q1⟩=>⟨x,σ,H1,I1,r1,q1⟩)
def RO:TS:=fun D _ H=>D.rt .cU H
theorem JV:PS X (.Return none pos) RO:=fun _ _ σ H _ I h=>wpAny_Return_none ⟨.cU,σ,H,I,rfl,h⟩
def NV (c:TT) (t u:TS):TS:=fun D σ H=>c σ H fun b H1=>if b=true then t D σ H1 else u D σ H1
theorem bG {c:Expr} {a b:List Stmt} {tc:TT} (hc:PT X c tc) (ha:lU X a t) (hb:lU X b u):PS X (.If c a b pos) (NV tc t u):=by
 intro pins s σ H D I h
 refine wpAny_If (bZ (hc pins s σ H _ I h) fun d s1 ⟨H1,I1,q1⟩=>?_)
 cases d with
 |true=>exact ha pins s1 σ H1 D I1 q1
 |false=>exact hb pins s1 σ H1 D I1 q1
def NW:TS:=fun _ _ _=>False
theorem gf:PS X st NW:=fun _ _ _ _ _ _ h=>h.elim
end
abbrev TG:=V→St→Hp→(St→Hp→Prop)→Prop
abbrev Mw:=List V→St→Hp→(St→Hp→Prop)→Prop
def PG (X:Cx) (target:Expr) (t:TG):Prop:=
 ∀(pins:List (Addr×Obj)) (s:Shared) (σ:St) (H:Hp) (v:V) (u:Value) (Q:St→Hp→Prop),Inv X pins σ H s→RelV v u→t v σ H Q→
  wpAny (model X.prog X.w) X.A (assign target X.env u) (fun _ s'=>∃σ' H',Inv X pins σ' H' s'∧Q σ' H') X.xe s
def Rb (X:Cx) (ts:List Expr) (t:Mw):Prop:=
 ∀(pins:List (Addr×Obj)) (s:Shared) (σ:St) (H:Hp) (vs:List V) (us:List Value) (Q:St→Hp→Prop),Inv X pins σ H s→Vals vs us→t vs σ H Q→
  wpAny (model X.prog X.w) X.A (assignInOrder ((assignEach ts X.env).map (·.2)) us) (fun _ s'=>∃σ' H',Inv X pins σ' H' s'∧Q σ' H') X.xe s
section
variable {X:Cx} {pos:Pos}
def du (i:Nat):TG:=fun v σ H Q=>Q (σ.set i (some v)) H
theorem aG {i:Nat} {x:Str} (hN:X.N.Nodup) (hi:X.N[i]? =some x) (hx:Loc X.env.scope x) (hf:X.fn x=true∨X.env.scope.names.lookup x=some .local:=by first|exact .inl rfl|exact .inr rfl|assumption):PG X (.Name x pos) (du i):=by
 intro pins s σ H v u Q I r h
 exact wpAny_assign_Name (store_ok I hN hi hx r (fun s' I'=>⟨_,H,I',h⟩) hf)
def ZV:Mw:=fun vs σ H Q=>vs=[]∧Q σ H
def RP (t:TG) (u:Mw):Mw:=fun vs σ H Q=>∃v r,vs=v::r∧t v σ H fun σ' H'=>u r σ' H' Q
theorem dZ:Rb X [] ZV:=by
 intro pins s σ H vs us Q I r h
 obtain⟨e,h⟩:=h
 subst e
 cases r
 exact assignInOrder_nil ⟨σ,H,I,h⟩
theorem bp {e:Expr} {es:List Expr} {t:TG} {u:Mw} (h1:PG X e t) (h2:Rb X es u)
  (hs:(assignEach (e::es) X.env).map (·.2)=assign e X.env::(assignEach es X.env).map (·.2):=by rfl):Rb X (e::es) (RP t u):=by
 intro pins s σ H vs us Q I r h
 obtain⟨v,vr,e1,h⟩:=h
 subst e1
 cases r with
 |cons r rr=>
  rw[hs]
  refine assignInOrder_cons (bZ (h1 pins s σ H _ _ _ I r h) fun _ s1 ⟨σ1,H1,I1,q1⟩=>?_)
  exact h2 pins s1 σ1 H1 _ _ Q I1 rr q1
def RQ (K:PySem.W.Frag) (n:Nat) (t:Mw):TG:=fun v σ H Q=>∃a xs,v= .ref a∧jc K H a xs∧xs.length=n∧t xs σ H Q
theorem g7 {es:List Expr} {k:Nat} {t:Mw} {n:Nat} (hc:X.calm=true) (h:Rb X es t)
  (hn:(assignEach es X.env).length=n:=by rfl) (fO:(assignEach es X.env).findIdx? (·.1)=none:=by rfl):PG X (.Tuple es k pos) (RQ X.K n t):=by
 intro pins s σ H v u Q I r hw
 obtain⟨a,xs,e1,hq,hl,hw⟩:=hw
 subst e1
 cases r
 obtain⟨its,rv,ht,hz⟩:=I.tuple hq
 refine assign_Tuple_tuple (I.ok.hd hc) ht (by simp [hn,←hl,rv.length]) fO fun h' hx=>?_
 have I1:Inv X pins σ H { s with heap:=h' }:=I.kept (t':=s.toks) fun b o e=>hx b o (Nat.ne_of_lt (Heap.lt_size e)) e
 exact h pins _ σ H xs _ Q I1 (by simpa using rv) hw
def NY (te:TE) (g:TG):TS:=fun D σ H=>te σ H fun x H1=>g x σ H1 D.nx
theorem FC {tg e:Expr} {te:TE} {g:TG} (he:PE X e te) (hg:PG X tg g) (hs:swapsWithSole [tg] e pos.line X.env=pure false:=by rfl) (hw:swappedStores [tg] e X.env=pure none:=by rfl)
  (h1:(assignEach [tg] X.env).map (·.2)=[assign tg X.env]:=by rfl):PS X (.Assign [tg] e pos) (NY te g):=by
 intro pins s σ H D I h
 refine wpAny_Assign_stores (bZ (he pins s σ H _ I h) fun v s1 ⟨x,H1,I1,r1,q1⟩=>?_) hs hw
 rw[h1]
 exact bZ (hg pins s1 σ H1 x v _ I1 r1 q1) fun _ s2 q=>q
theorem aB {i:Nat} {x:Str} {e:Expr} {te:TE} {pos':Pos} (hN:X.N.Nodup) (hi:X.N[i]? =some x) (hx:Loc X.env.scope x) (he:PE X e te) (hs:swapsWith e (some (.Name x pos')) pos.line X.env=pure false:=by rfl) (hf:X.fn x=true∨X.env.scope.names.lookup x=some .local:=by first|exact .inl rfl|exact .inr rfl|assumption):
  PS X (.Assign [.Name x pos'] e pos) (NY te (du i)):=by
 intro pins s σ H D I h
 refine wpAny_Assign_Name (bZ (he pins s σ H _ I h) fun v s1 ⟨y,H1,I1,r1,q1⟩=>?_) hs
 exact store_ok I1 hN hi hx r1 (fun s2 I2=>⟨_,H1,I2,q1⟩) hf
end
section
variable {X:Cx} {pos:Pos}
def NZ (c:TT) (tb:TS):TS:=fun D σ H=>∃W:Nat→St→Hp→Prop,(∃m,W m σ H)∧∀m σ H,W m σ H→
 c σ H fun b H1=>if b=true then∃N:St→Hp→Prop,(∀σ' H',N σ' H'→∃m',m'<m∧W m' σ' H')∧tb { D with nx:=N,ct:=N,bk:=D.nx } σ H1 else D.nx σ H1
theorem jd {c:Expr} {body:List Stmt} {tc:TT} {tb:TS} (hp:PassesOwn (model X.prog X.w) X.A X.env X.xe) (hc:PT X c tc) (hb:lU X body tb):PS X (.While c body [] pos) (NZ tc tb):=by
 intro pins s σ H D I h
 obtain⟨W,⟨m0,w0⟩,turn⟩:=h
 refine wpAny_While (codeAny_whileLoop (fun n s'=>∃σ' H',Inv X pins σ' H' s'∧W n σ' H') ?_ m0 ⟨σ,H,I,w0⟩)
 rintro n s1 ⟨σ1,H1,I1,w1⟩
 refine wpAny_passesOwn hp (bZ (hc pins s1 σ1 H1 _ I1 (turn n σ1 H1 w1)) fun b s2 ⟨H2,I2,q2⟩=>?_)
 cases b with
 |true=>
  obtain⟨N,hN,q2⟩:=q2
  rw[if_pos rfl]
  refine wpAny_passesOwn hp (bZ (hb pins s2 σ1 H2 _ I2 q2) fun f s3 q3=>?_)
  cases f with
  |next=>
   obtain⟨σ3,H3,I3,n3⟩:=q3
   obtain⟨m',hm,w3⟩:=hN σ3 H3 n3
   exact⟨m',hm,σ3,H3,I3,w3⟩
  |cont=>
   obtain⟨σ3,H3,I3,n3⟩:=q3
   obtain⟨m',hm,w3⟩:=hN σ3 H3 n3
   exact⟨m',hm,σ3,H3,I3,w3⟩
  |brk=>exact q3
  |ret v=>exact q3
 |false=>
  rw[if_neg Bool.false_ne_true]
  exact wpAny_execs_nil ⟨σ1,H2,I2,q2⟩
end
structure It where
 go:Nat→Hp→Prop
 pO:Nat→Hp→V→Hp→Prop
 stop:Nat→Hp→Prop
def lI (X:Cx) (pins:List (Addr×Obj)) (H:Hp) (b:Addr):Prop:=
 H b=none∧b≠X.env.locals∧b∉X.fs∧(b∈X.ex∨X.s₀.heap.objs.size≤b)∧(∀x c,X.env.cells.lookup x=some c→c≠b)∧∀p∈X.pn++pins,p.1≠b
theorem Inv.z6 {X:Cx} {pins:List (Addr×Obj)} {σ:St} {H H':Hp} {s:Shared} {b:Addr} (I:Inv X pins σ H s) (hb:s.heap.objs.size≤b) (hn:H' b=none):lI X pins H' b:=by
 refine⟨hn,Nat.ne_of_gt (Nat.lt_of_lt_of_le I.lt hb),I.ZM hb, .inr (Nat.le_trans I.sz hb),fun x c e z=>?_,fun p hp z=>?_⟩
 ·obtain⟨v,q⟩:=I.cell x c e
  exact absurd (Nat.lt_of_lt_of_le q.lt (by rw[z];exact hb)) (Nat.lt_irrefl _)
 ·exact absurd (Nat.lt_of_lt_of_le (Heap.lt_size (I.pin p hp).1) (by rw[z];exact hb)) (Nat.lt_irrefl _)
structure Turn (P:Program) (w:World) (K:PySem.W.Frag) (tg:Expr) (J:It) (fp:List Addr) (it:Addr) (tn:Nat→Heap→Prop):Prop where
 mem:it∈fp
 obj:∀i h,tn i h→∀b∈fp,∃o,h.get? b=some o∧∀v,o.data≠ .cell v
 keep:∀i h h',tn i h→(∀b∈fp,∀o,h.get? b=some o→h'.get? b=some o)→tn i h'
 item:∀(X:Cx),X.prog=P→X.w=w→X.K=K→X.calm=true→∀(i:Nat) (pins:List (Addr×Obj)) (s:Shared) (σ:St) (H:Hp) (E:Value→Shared→Prop),Inv X pins σ H s→(∀b∈fp,lI X pins H b)→tn i s.heap→J.go i H→
  wpAny (model P w) X.A (pyNext (.ref it)) (fun r s1=>∃u,r=some u∧
   wpAny (model P w) X.A (letOwnedTupleGo tg (.ref it) u) (fun _ s2=>∃x H',Inv X pins σ H' s2∧RelV x u∧J.pO i H x H'∧tn (i+1) s2.heap∧∀b∈fp,H' b=none) E s1) E s
 done:∀(X:Cx),X.prog=P→X.w=w→X.K=K→X.calm=true→∀(i:Nat) (pins:List (Addr×Obj)) (s:Shared) (σ:St) (H:Hp) (E:Value→Shared→Prop),Inv X pins σ H s→(∀b∈fp,lI X pins H b)→tn i s.heap→J.stop i H→
  wpAny (model P w) X.A (pyNext (.ref it)) (fun r s1=>r=none∧Inv X pins σ H s1) E s
 self:∀(A:Around) (i:Nat) (s:Shared) (Q:Value→Shared→Prop) (E:Value→Shared→Prop),tn i s.heap→Q (.ref it) s→wpAny (model P w) A (pyIter (.ref it)) Q E s
abbrev TI:=St→Hp→(It→Hp→Prop)→Prop
def PIE (X:Cx) (pins:List (Addr×Obj)) (σ:St) (tg:Expr) (R:It→Hp→Prop) (YX:Value) (s2:Shared):Prop:=
 ∃(it:Addr) (fp:List Addr) (tn:Nat→Heap→Prop) (J:It) (H':Hp),YX= .ref it∧Inv X pins σ H' s2∧Turn X.prog X.w X.K tg J fp it tn∧tn 0 s2.heap∧(∀b∈fp,lI X pins H' b)∧R J H'
def PI (X:Cx) (tg iter:Expr) (wi:TI):Prop:=
 ∀(pins:List (Addr×Obj)) (s:Shared) (σ:St) (H:Hp) (R:It→Hp→Prop),Inv X pins σ H s→wi σ H R→
  wpAny (model X.prog X.w) X.A (eval iter X.env) (fun v s1=>wpAny (model X.prog X.w) X.A (pyIter v) (PIE X pins σ tg R) X.xe s1) X.xe s
theorem Bw {M:Model} {A:Around} {E:Value→Shared→Prop} {s:Shared} {tg:Expr} {it:Addr} {u:Value} {o:Obj} {n:String} {vs:Array Value} {Q:Unit→Shared→Prop} (ho:s.heap.get? it=some o) (hc:o.cls= .type n) (hd:o.data= .fields vs)
  (hn:["enumerate","zip","dict_itemiterator","dict_reverseitemiterator","odict_iterator","itertools.zip_longest","itertools.pairwise"].contains n=false) (hQ:Q () s):wpAny M A (letOwnedTupleGo tg (.ref it) u) Q E s:=by
 unfold letOwnedTupleGo
 cases tg<;>first
  |exact wpAny_pure hQ
  | (cases u<;>first
    |exact wpAny_pure hQ
    | (refine wpAny_bind (wpAny_load ho ?_)
       rw[hc,hd]
       show wpAny M A (if (["enumerate","zip","dict_itemiterator","dict_reverseitemiterator","odict_iterator","itertools.zip_longest","itertools.pairwise"].contains n&&vs[0]? ==some (rawInt _))=true then _ else _) Q E s
       rw[if_neg (by intro h;rw[hn,Bool.false_and] at h;cases h)]
       exact wpAny_pure hQ))
def Bx (K:PySem.W.Frag) (a:Addr):It:=
 ⟨fun i H=>∃xs x,b5 K H a xs∧xs[i]? =some x,fun i H x H'=>H'=H∧∀xs,b5 K H a xs→xs[i]? =some x,fun i H=>∃xs,b5 K H a xs∧xs.length≤i⟩
def Fd (lo:Int) (n:Nat):It:=⟨fun i _=>i<n,fun i H x H'=>H'=H∧x= .int (lo+i),fun i _=>n≤i⟩
theorem Dq {P:Program} {w:World} {K:PySem.W.Frag} {tg:Expr} (a it:Addr):Turn P w K tg (Bx K a) [it] it (fun i h=>h.IsListIter it a i) where
 mem:=by simp
 obj:=fun i h st b hb=>by
  have e:b=it:=by simpa using hb
  subst e
  obtain⟨o,e,c,d⟩:=st
  exact⟨o,e,fun v z=>by rw[d] at z;cases z⟩
 keep:=fun i h h' st k=>st.at fun o e=>k it (by simp) o e
 item:=by
  intro X hP hw hK hc i pins s σ H E I hf st hg
  subst hP hw hK
  obtain⟨xs,x,hq,hx⟩:=hg
  obtain⟨its,rv,p,hz⟩:=I.list hq
  obtain⟨u,hu,ru⟩:=rv.get hx
  obtain⟨f0,f1,f2,f3,f4,f5⟩:=hf it (by simp)
  refine wpAny_pyNext_list_item st p.isList (x:=u) (by simpa using hu) fun h' By sb=>?_
  have I1:Inv X pins σ H { s with heap:=h' }:=I.turned (t':=s.toks) (fun b o hb e=>(sb.2 b hb).trans e) f0 f1 f3 f4 f5
  obtain⟨o,e,c,d⟩:=id By
  exact⟨u,rfl,Bw (s:={ s with heap:=h' }) e c d (by decide) ⟨x,H,I1,ru,⟨rfl,fun ys hy=>by rw[I.xZ hy hq];exact hx⟩,By,fun b hb=>(hf b hb).1⟩⟩
 done:=by
  intro X hP hw hK hc i pins s σ H E I hf st hg
  subst hP hw hK
  obtain⟨xs,hq,hx⟩:=hg
  obtain⟨its,rv,p,hz⟩:=I.list hq
  obtain⟨f0,f1,f2,f3,f4,f5⟩:=hf it (by simp)
  have hl:=rv.length
  exact wpAny_pyNext_list_end (I.ok.hd hc) st p.isList (by simp;omega) fun h' eb=>⟨rfl,I.turned (t':=s.toks) (fun b o hb e=>eb b o hb e) f0 f1 f3 f4 f5⟩
 self:=fun _ _ _ _ _ st h=>wpAny_pyIter_listiter st h
theorem z7 {P:Program} {w:World} {K:PySem.W.Frag} {tg:Expr} (it:Addr) (lo:Int) (n:Nat):Turn P w K tg (Fd lo n) [it] it (fun i h=>IsRangeIter h it (lo+(i:Nat)*1) ((n:Int) - (i:Nat)) 1) where
 mem:=by simp
 obj:=fun i h st b hb=>by
  have e:b=it:=by simpa using hb
  subst e
  exact⟨_,st,fun v z=>by
   have z':Data.fields _=Data.cell v:=z
   cases z'⟩
 keep:=fun i h h' st k=>k it (by simp) _ st
 item:=by
  intro X hP hw hK hc i pins s σ H E I hf st hg
  subst hP hw hK
  obtain⟨f0,f1,f2,f3,f4,f5⟩:=hf it (by simp)
  have W:=Walks.range (prog:=X.prog) (w:=X.w) (I.ok.hd hc) it lo 1 n
  refine W.item i s _ _ hg st fun v h' tk hv By kk=>?_
  obtain⟨t,rfl⟩:=hv
  have I1:Inv X pins σ H { s with heap:=h',toks:=tk }:=I.turned (fun b o hb e=>kk b o (by simpa using hb) e) f0 f1 f3 f4 f5
  refine⟨_,rfl,Bw (s:={ s with heap:=h',toks:=tk }) (n:="range_iterator") By rfl rfl (by decide) ⟨.int (lo+i),H,I1,⟨t,?_⟩,⟨rfl,rfl⟩,By,fun b hb=>(hf b hb).1⟩⟩
  rw[Int.mul_one]
 done:=by
  intro X hP hw hK hc i pins s σ H E I hf st hg
  subst hP hw hK
  obtain⟨f0,f1,f2,f3,f4,f5⟩:=hf it (by simp)
  exact wpAny_pyNext_range_end (I.ok.hd hc) st (by have:n≤i:=hg;omega) fun h' eb=>⟨rfl,I.turned (t':=s.toks) (fun b o hb e=>eb b o hb e) f0 f1 f3 f4 f5⟩
 self:=fun _ _ _ _ _ st h=>wpAny_pyIter_rangeiter st h
end L2
namespace L2
open PySem PySem.Spec PyProof.Rows
section
variable {X:Cx} {tg:Expr}
def RS (K:PySem.W.Frag) (tl:TE):TI:=fun σ H R=>tl σ H fun x H1=>∃a,x= .ref a∧(∃xs,b5 K H1 a xs)∧R (Bx K a) H1
theorem cN {l:Expr} {tl:TE} (hl:PE X l tl):PI X tg l (RS X.K tl):=by
 intro pins s σ H R I h
 refine bZ (hl pins s σ H _ I h) fun v s1 ⟨x,H1,I1,r1,q1⟩=>?_
 obtain⟨a,e,⟨xs,hq⟩,q⟩:=q1
 subst e
 cases r1
 obtain⟨its,rv,p,hz⟩:=I1.list hq
 refine wpAny_pyIter_list p.isList ?_
 refine⟨s1.heap.objs.size,[s1.heap.objs.size],_,_,H1,rfl,I1.kept (t':=s1.toks) fun b o e=>Heap.get?_push_of_some _ e,Dq a _,⟨_,Heap.get?_push_size _ rfl,rfl,rfl⟩,fun b hb=>?_,q⟩
 have e:b=s1.heap.objs.size:=by simpa using hb
 subst e
 exact I1.z6 (Nat.le_refl _) (I1.aU.fresh (Nat.le_refl _))
theorem FD {pins:List (Addr×Obj)} {σ:St} {H:Hp} {s:Shared} {R:It→Hp→Prop} {E:Value→Shared→Prop} {lo hi:Int} {t u v:Tok} {tk:Nat} (I:Inv X pins σ H s) (h1: -(2^62)≤lo) (h2:lo<2^62) (h3: -(2^62)≤hi) (h4:hi<2^62)
  (q:R (Fd lo (hi - lo).toNat) H):wpAny (model X.prog X.w) X.A (pyIter (.ref s.heap.objs.size)) (PIE X pins σ tg R) E { s with heap:=s.heap.push { cls:= .type "range",data:= .fields #[.int lo t, .int hi u, .int 1 v] },toks:=tk }:=by
 refine wpAny_pyIter_range (IsRange.new ..) (small_one h1 h2 h3 h4) ?_
 have I1:Inv X pins σ H { s with heap:=s.heap.push { cls:= .type "range",data:= .fields #[.int lo t, .int hi u, .int 1 v] },toks:=tk }:=I.kept fun b o e=>Heap.get?_push_of_some _ e
 refine⟨(s.heap.push { cls:= .type "range",data:= .fields #[.int lo t, .int hi u, .int 1 v] }).objs.size,[(s.heap.push { cls:= .type "range",data:= .fields #[.int lo t, .int hi u, .int 1 v] }).objs.size],_,_,H,rfl,
  I1.kept (t':=tk) fun b o e=>Heap.get?_push_of_some _ e,z7 _ lo (hi - lo).toNat,?_,fun b hb=>?_,q⟩
 ·have e1:lo+((0 :Nat):Int)*1=lo:=by simp
  have e2:(((hi - lo).toNat:Nat):Int) - ((0 :Nat):Int)=Builtin.Range.rangeSize lo hi 1:=by rw[rangeSize_one];split<;>omega
  show IsRangeIter _ _ (lo+((0 :Nat):Int)*1) ((((hi - lo).toNat:Nat):Int) - ((0 :Nat):Int)) 1
  rw[e1,e2]
  exact Heap.get?_push_size _ rfl
 ·have e:b=(s.heap.push { cls:= .type "range",data:= .fields #[.int lo t, .int hi u, .int 1 v] }).objs.size:=by simpa using hb
  subst e
  exact I1.z6 (Nat.le_refl _) (I1.aU.fresh (Nat.le_refl _))
def RT (ta:TA):TI:=fun σ H R=>ta σ H fun vs H1=>∃j:Int,vs=[.int j]∧ -(2^62)≤j∧j<2^62∧R (Fd 0 j.toNat) H1
theorem gX {a:Expr} {ta:TA} {p pos:Pos} (hg:Gl X "range") (hm:X.mg "range" =none) (ha:PA X [a] ta) (hs:starEach [a] X.env=[(false,eval a X.env)]:=by rfl):PI X tg (.Call (.Name "range" p) [a] [] pos) (RT ta):=by
 intro pins s σ H R I h
 refine Call_ (nZ I hg hm boot_range (PyProof.Rows.callWith_type1 (bZ (ha pos pins s σ H _ I h) fun us s1 ⟨vs,H1,I1,r1,q1⟩=>?_) hs rfl))
 obtain⟨j,e,q1,q2,q⟩:=q1
 subst e
 cases r1 with
 |cons r rr=>
  cases rr
  obtain⟨t,rfl⟩:=r
  exact call_range_1 (FD I1 (by omega) (by omega) q1 q2 (by simpa using q))
def N0 (wi:TI) (g:TG) (tb:TS):TS:=fun D σ H=>wi σ H fun J H1=>∃W:Nat→Nat→St→Hp→Prop,(∃m,W 0 m σ H1)∧∀i m σ H,W i m σ H→
 (J.stop i H∧D.nx σ H)∨(J.go i H∧∃N:St→Hp→Prop,(∀σ' H',N σ' H'→∃m',m'<m∧W (i+1) m' σ' H')∧∀x H',J.pO i H x H'→g x σ H' fun σ2 H2=>tb { D with nx:=N,ct:=N,bk:=D.nx } σ2 H2)
def qC (fp:List Addr) (h:Heap):List (Addr×Obj):=fp.filterMap fun b=>(h.get? b).map fun o=>(b,o)
theorem jx {fp:List Addr} {h:Heap} {b:Addr} {o:Obj} (hb:b∈fp) (e:h.get? b=some o):(b,o)∈qC fp h:=List.mem_filterMap.mpr ⟨b,hb,by rw[e];rfl⟩
theorem Dr {fp:List Addr} {h:Heap} {p:Addr×Obj} (hp:p∈qC fp h):p.1∈fp∧h.get? p.1=some p.2:=by
 obtain⟨b,hb,e⟩:=List.mem_filterMap.mp hp
 cases q:h.get? b with
 |none=>rw[q] at e;cases e
 |some o=>
  rw[q] at e
  have e':(b,o)=p:=Option.some.inj e
  subst e'
  exact⟨hb,q⟩
theorem Inv.pinned {pins:List (Addr×Obj)} {σ:St} {H:Hp} {s:Shared} {fp:List Addr} (I:Inv X pins σ H s) (hf:∀b∈fp,lI X pins H b) (ho:∀b∈fp,∃o,s.heap.get? b=some o∧∀v,o.data≠ .cell v):Inv X (pins++qC fp s.heap) σ H s:=
 I.vt fun p hp=>(List.mem_append.mp hp).elim (fun z=>I.pin p (List.mem_append_right _ z)) fun z=>by
   obtain⟨hb,e⟩:=Dr z
   obtain⟨f0,f1,f2,_⟩:=hf p.1 hb
   obtain⟨o,e',d⟩:=ho p.1 hb
   rw[e] at e';cases e'
   exact⟨e,f0,f1,f2,d⟩
theorem Inv.gg {pins pl:List (Addr×Obj)} {σ:St} {H:Hp} {s:Shared} (I:Inv X (pins++pl) σ H s):Inv X pins σ H s:=I.vt fun p hp=>I.pin p (List.mem_append_right _ (List.mem_append_left _ hp))
theorem bW {iter:Expr} {body:List Stmt} {wi:TI} {g:TG} {tb:TS} {pos:Pos} (hp:PassesOwn (model X.prog X.w) X.A X.env X.xe) (hc:X.calm=true) (hi:PI X tg iter wi) (hg:PG X tg g) (hb:lU X body tb)
  (hs:∀x,foldedSetIterable iter X.env x=pure x:=by intro _;rfl):PS X (.For tg iter body [] pos) (N0 wi g tb):=by
 intro pins s σ H D I h
 refine wpAny_For (bZ (hi pins s σ H _ I h) fun v s1 h1=>bZ h1 fun YX s2 h2=>?_) hs
 obtain⟨it,fp,tn,J,H2,e,I2,T,JW,f2,W,⟨m0,w0⟩,turn⟩:=h2
 subst e
 have z8:∀{H':Hp},(∀b∈fp,H' b=none)→∀b∈fp,lI X pins H' b:=fun hn b hb=>⟨hn b hb,(f2 b hb).2⟩
 refine codeAny_forLoop_any (fun n s'=>∃i σ' H',Inv X pins σ' H' s'∧tn i s'.heap∧(∀b∈fp,H' b=none)∧W i n σ' H') ?_ m0 ⟨0,σ,H2,I2,JW,fun b hb=>(f2 b hb).1,w0⟩
 rintro n s3 ⟨i,σ3,H3,I3,YY,fr3,w3⟩
 rcases turn i n σ3 H3 w3 with ⟨stop,qn⟩ | ⟨go,N,hN,step⟩
 ·refine wpAny_passesOwn hp (bZ (T.done X rfl rfl rfl hc i pins s3 σ3 H3 X.xe I3 (z8 fr3) YY stop) fun r s4 ⟨hr,I4⟩=>?_)
  subst hr
  exact wpAny_execs_nil ⟨σ3,H3,I4,qn⟩
 ·refine wpAny_passesOwn hp (bZ (T.item X rfl rfl rfl hc i pins s3 σ3 H3 X.xe I3 (z8 fr3) YY go) fun r s4 ⟨u,hr,h4⟩=>?_)
  subst hr
  refine wpAny_passesOwn hp (bZ h4 fun _ s5 ⟨x,H5,I5,r5,y5,ZW,fr5⟩=>?_)
  have I5':=I5.pinned (z8 fr5) (T.obj _ _ ZW)
  refine wpAny_passesOwn hp (bZ (hg _ s5 σ3 H5 x u _ I5' r5 (step x H5 y5)) fun _ s6 ⟨σ6,H6,I6,q6⟩=>?_)
  refine wpAny_passesOwn hp (bZ (hb _ s6 σ6 H6 _ I6 q6) fun f s7 q7=>?_)
  have again:∀{σ7:St} {H7:Hp},Inv X (pins++qC fp s5.heap) σ7 H7 s7→N σ7 H7→∃m,m<n∧∃i σ' H',Inv X pins σ' H' s7∧tn i s7.heap∧(∀b∈fp,H' b=none)∧W i m σ' H':=fun {σ7 H7} I7 n7=>by
   obtain⟨m',hm,w7⟩:=hN σ7 H7 n7
   refine⟨m',hm,i+1,σ7,H7,I7.gg,T.keep _ _ _ ZW fun b hb o e=>(I7.pin (b,o) (List.mem_append_right _ (List.mem_append_right _ (jx hb e)))).1,fun b hb=>?_,w7⟩
   obtain⟨o,e,d⟩:=T.obj _ _ ZW b hb
   exact(I7.pin (b,o) (List.mem_append_right _ (List.mem_append_right _ (jx hb e)))).2.1
  cases f with
  |next=>obtain⟨σ7,H7,I7,n7⟩:=q7;exact again I7 n7
  |cont=>obtain⟨σ7,H7,I7,n7⟩:=q7;exact again I7 n7
  |brk=>obtain⟨σ7,H7,I7,q7⟩:=q7;exact⟨σ7,H7,I7.gg,q7⟩
  |ret v=>obtain⟨x7,σ7,H7,I7,r7,q7⟩:=q7;exact⟨x7,σ7,H7,I7.gg,r7,q7⟩
end
theorem fq {K:PySem.W.Frag} {a:Addr} {xs:List V} {g:TG} {tb:TS} {D:Ends} {σ:St} {H:Hp} (Pv:Nat→St→Hp→Prop) (h0:Pv 0 σ H) (hl:∀i σ H,i≤xs.length→Pv i σ H→b5 K H a xs)
  (hs:∀i x σ H,xs[i]? =some x→Pv i σ H→g x σ H fun σ2 H2=>tb { D with nx:=Pv (i+1),ct:=Pv (i+1),bk:=D.nx } σ2 H2) (hd:∀σ H,Pv xs.length σ H→D.nx σ H):
  ∃W:Nat→Nat→St→Hp→Prop,(∃m,W 0 m σ H)∧∀i m σ H,W i m σ H→
   ((Bx K a).stop i H∧D.nx σ H)∨((Bx K a).go i H∧∃N:St→Hp→Prop,(∀σ' H',N σ' H'→∃m',m'<m∧W (i+1) m' σ' H')∧∀x H',(Bx K a).pO i H x H'→g x σ H' fun σ2 H2=>tb { D with nx:=N,ct:=N,bk:=D.nx } σ2 H2):=by
 refine⟨fun i m σ H=>m=xs.length - i∧i≤xs.length∧Pv i σ H,⟨xs.length,by simp,Nat.zero_le _,h0⟩,?_⟩
 rintro i m σ H ⟨rfl,hi,p⟩
 have q:=hl i σ H hi p
 by_cases sN:i<xs.length
 ·refine .inr ⟨⟨xs,xs[i],q,by simp [sN]⟩,Pv (i+1),fun σ' H' p'=>⟨xs.length - (i+1),by omega,rfl,sN,p'⟩,fun x H' y=>?_⟩
  obtain⟨e,y⟩:=y
  subst e
  exact hs i x σ _ (y xs q) p
 ·have e:i=xs.length:=by omega
  subst e
  exact .inl ⟨⟨xs,q,Nat.le_refl _⟩,hd σ H p⟩
theorem kM {lo:Int} {n:Nat} {g:TG} {tb:TS} {D:Ends} {σ:St} {H:Hp} (Pv:Nat→St→Hp→Prop) (h0:Pv 0 σ H)
  (hs:∀i σ H,i<n→Pv i σ H→g (.int (lo+i)) σ H fun σ2 H2=>tb { D with nx:=Pv (i+1),ct:=Pv (i+1),bk:=D.nx } σ2 H2) (hd:∀σ H,Pv n σ H→D.nx σ H):
  ∃W:Nat→Nat→St→Hp→Prop,(∃m,W 0 m σ H)∧∀i m σ H,W i m σ H→
   ((Fd lo n).stop i H∧D.nx σ H)∨((Fd lo n).go i H∧∃N:St→Hp→Prop,(∀σ' H',N σ' H'→∃m',m'<m∧W (i+1) m' σ' H')∧∀x H',(Fd lo n).pO i H x H'→g x σ H' fun σ2 H2=>tb { D with nx:=N,ct:=N,bk:=D.nx } σ2 H2):=by
 refine⟨fun i m σ H=>m=n - i∧i≤n∧Pv i σ H,⟨n,by simp,Nat.zero_le _,h0⟩,?_⟩
 rintro i m σ H ⟨rfl,hi,p⟩
 by_cases sN:i<n
 ·refine .inr ⟨sN,Pv (i+1),fun σ' H' p'=>⟨n - (i+1),by omega,rfl,sN,p'⟩,fun x H' y=>?_⟩
  obtain⟨e,y⟩:=y
  subst e y
  exact hs i σ _ sN p
 ·have e:i=n:=by omega
  subst e
  exact .inl ⟨Nat.le_refl _,hd σ H p⟩
end L2
namespace L2
open PySem PySem.Spec PyProof.Rows
abbrev R2:=V→V→Hp→VK→Prop
def n4 (X:Cx) (f:Value→Value→Sem Value) (r:R2):Prop:=
 ∀(pins:List (Addr×Obj)) (s:Shared) (σ:St) (H:Hp) (x y:V) (v u:Value) (Q:VK),Inv X pins σ H s→RelV x v→RelV y u→r x y H Q→
  wpAny (model X.prog X.w) X.A (f v u) (EP X pins σ Q) X.xe s
def ZX (X:Cx) (f:Value→Sem Value) (r:V→Hp→VK→Prop):Prop:=
 ∀(pins:List (Addr×Obj)) (s:Shared) (σ:St) (H:Hp) (x:V) (v:Value) (Q:VK),Inv X pins σ H s→RelV x v→r x H Q→
  wpAny (model X.prog X.w) X.A (f v) (EP X pins σ Q) X.xe s
def gD (X:Cx) (f:Value) (r:List V→Hp→VK→Prop):Prop:=
 ∀(pins:List (Addr×Obj)) (s:Shared) (σ:St) (H:Hp) (xs:List V) (us:List Value) (Q:VK),Inv X pins σ H s→Vals xs us→r xs H Q→
  wpAny (model X.prog X.w) X.A (call f us) (EP X pins σ Q) X.xe s
def ZY (X:Cx) (r:V→Hp→(Bool→Hp→Prop)→Prop):Prop:=
 ∀(pins:List (Addr×Obj)) (s:Shared) (σ:St) (H:Hp) (x:V) (v:Value) (Q:Bool→Hp→Prop),Inv X pins σ H s→RelV x v→r x H Q→
  wpAny (model X.prog X.w) X.A (truthy v) (TP X pins σ Q) X.xe s
def N2 (r:R2) (ta tb:TE):TE:=fun σ H Q=>ta σ H fun x H1=>tb σ H1 fun y H2=>r x y H2 Q
def tUn (r:V→Hp→VK→Prop) (ta:TE):TE:=fun σ H Q=>ta σ H fun x H1=>r x H1 Q
inductive RI (C:Int→Int→Prop) (g:Int→Int→V) (x y:V) (H:Hp) (Q:VK):Prop
 |mk (i j:Int) (e:x= .int i) (f:y= .int j) (c:C i j) (q:Q (g i j) H)
def rI (C:Int→Int→Prop) (g:Int→Int→V):R2:=RI C g
inductive RJ (g:Int→Int→V) (x y:V) (H:Hp) (Q:VK):Prop
 |mk (i j:Int) (e:x= .int i) (f:y= .int j) (q:Q (g i j) H)
def JF (g:Int→Int→V):R2:=RJ g
def rU (g:Int→V):V→Hp→VK→Prop:=fun x H Q=>∃i,x= .int i∧Q (g i) H
section
variable {X:Cx} {a b c:Expr} {ta tb tc:TE} {pos:Pos}
theorem N3 (ha:PE X a ta) (hb:PE X b tb) {pins:List (Addr×Obj)} {s:Shared} {σ:St} {H:Hp} {R:V→V→Hp→Prop} (I:Inv X pins σ H s)
  (h:ta σ H fun x H1=>tb σ H1 fun y H2=>R x y H2) {Q:Value→Shared→Prop} {f:Value→Value→Sem Value}
  (hf:∀v u s2 x y H2,Inv X pins σ H2 s2→RelV x v→RelV y u→R x y H2→wpAny (model X.prog X.w) X.A (f v u) Q X.xe s2):
  wpAny (model X.prog X.w) X.A (eval a X.env) (fun v s₁=>wpAny (model X.prog X.w) X.A (eval b X.env) (fun u s₂=>wpAny (model X.prog X.w) X.A (f v u) Q X.xe s₂) X.xe s₁) X.xe s:=by
 refine bZ (ha pins s σ H _ I h) fun v s1 ⟨x,H1,I1,r1,q1⟩=>?_
 refine bZ (hb pins s1 σ H1 _ I1 q1) fun u s2 ⟨y,H2,I2,r2,q2⟩=>?_
 exact hf v u s2 x y H2 I2 r1 r2 q2
theorem aE {op:Operator} {r:R2} (ho:n4 X (binaryOp op) r) (ha:PE X a ta) (hb:PE X b tb):PE X (.BinOp a op b pos) (N2 r ta tb):=by
 intro pins s σ H Q I h
 exact wpAny_BinOp (N3 ha hb I h fun v u s2 x y H2 I2 rx ry q=>ho pins s2 σ H2 x y v u Q I2 rx ry q)
theorem pb {op:UnaryOp} {r:V→Hp→VK→Prop} (ho:ZX X (unaryOp op) r) (ha:PE X a ta):PE X (.UnaryOp op a pos) (tUn r ta):=by
 intro pins s σ H Q I h
 exact UnaryOp_ (bZ (ha pins s σ H _ I h) fun v s1 ⟨x,H1,I1,r1,q1⟩=>ho pins s1 σ H1 x v Q I1 r1 q1)
theorem RU {f:Value→Value→Sem Value} {C:Int→Int→Prop} {g:Int→Int→Int}
  (rule:∀(i j:Int) (t u:Tok) (s:Shared) (Q:Value→Shared→Prop) (E:Value→Shared→Prop),C i j→Q (.int (g i j) s.toks) { s with toks:=s.toks+1 }→wpAny (model X.prog X.w) X.A (f (.int i t) (.int j u)) Q E s):
  n4 X f (rI C fun i j=> .int (g i j)):=by
 intro pins s σ H x y v u Q I rx ry h
 obtain⟨i,j,rfl,rfl,hc,q⟩:=h
 obtain⟨t,rfl⟩:=rx
 obtain⟨t',rfl⟩:=ry
 exact rule i j t t' s _ _ hc ⟨.int (g i j),H,I.tok _,⟨_,rfl⟩,q⟩
theorem RW {f:Value→Value→Sem Value} {g:Int→Int→Int}
  (rule:∀(i j:Int) (t u:Tok) (s:Shared) (Q:Value→Shared→Prop) (E:Value→Shared→Prop),Q (.int (g i j) s.toks) { s with toks:=s.toks+1 }→wpAny (model X.prog X.w) X.A (f (.int i t) (.int j u)) Q E s):
  n4 X f (JF fun i j=> .int (g i j)):=by
 intro pins s σ H x y v u Q I rx ry h
 obtain⟨i,j,rfl,rfl,q⟩:=h
 obtain⟨t,rfl⟩:=rx
 obtain⟨t',rfl⟩:=ry
 exact rule i j t t' s _ _ ⟨.int (g i j),H,I.tok _,⟨_,rfl⟩,q⟩
theorem JX {f:Value→Value→Sem Value} {g:Int→Int→Bool}
  (rule:∀(i j:Int) (t u:Tok) (s:Shared) (Q:Value→Shared→Prop) (E:Value→Shared→Prop),Q (.bool (g i j)) s→wpAny (model X.prog X.w) X.A (f (.int i t) (.int j u)) Q E s):
  n4 X f (JF fun i j=> .bl (g i j)):=by
 intro pins s σ H x y v u Q I rx ry h
 obtain⟨i,j,rfl,rfl,q⟩:=h
 obtain⟨t,rfl⟩:=rx
 obtain⟨t',rfl⟩:=ry
 exact rule i j t t' s _ _ ⟨.bl (g i j),H,I,rfl,q⟩
def ZZ (i j:Int):Prop:=0<j∧j<1073741824
def Z0 (i j:Int):Prop:=0≤j∧j≤1000000∧i.natAbs<2^64
def JY (i j:Int):Prop:=(-(2^64) <i∧i<2^64)∨(-(2^64) <j∧j<2^64)
theorem JY.ok {i j:Int} (h:JY i j):IntMulOk i j:=by
 rcases h with ⟨h1,h2⟩ | ⟨h1,h2⟩
 ·exact .of_left (intBits_le_64 h1 h2)
 ·exact .of_right (intBits_le_64 h1 h2)
theorem cf:n4 X (binaryOp .Add) (JF fun i j=> .int (i+j)):=RW fun _ _ _ _ _ _ _ q=>add_int q
theorem ka:n4 X (binaryOp .Sub) (JF fun i j=> .int (i - j)):=RW fun _ _ _ _ _ _ _ q=>sub_int q
theorem g8:n4 X (binaryOp .Mult) (rI JY fun i j=> .int (i*j)):=RU fun _ _ _ _ _ _ _ hc q=>mul_int q hc.ok
theorem cY:n4 X (binaryOp .FloorDiv) (rI ZZ fun i j=> .int (i/j)):=RU fun i j _ _ _ _ _ hc q=>by
 have h1:(0 :Int) <j:=hc.1
 have h2:j<1073741824:=hc.2
 exact floordiv_int (by omega) (by rw[Int.fdiv_eq_ediv_of_nonneg i (by omega)];exact q) (.inl (PyProof.noPylong_small (by omega)))
theorem cK:n4 X (binaryOp .Mod) (rI (fun _ j=>0<j) fun i j=> .int (i%j)):=RU fun i j _ _ _ _ _ hc q=>by
 have h1:(0 :Int) <j:=hc
 exact mod_int' (by omega) (by rw[Int.fmod_eq_emod_of_nonneg i (by omega)];exact q)
theorem N4:n4 X (binaryOp .Pow) (rI Z0 fun i j=> .int (i^j.toNat)):=RU fun _ _ _ _ _ _ _ hc q=>pow_int_small hc.1 hc.2.1 hc.2.2 q
theorem unI {f:Value→Sem Value} {g:Int→Int}
  (rule:∀(i:Int) (t:Tok) (s:Shared) (Q:Value→Shared→Prop) (E:Value→Shared→Prop),Q (.int (g i) s.toks) { s with toks:=s.toks+1 }→wpAny (model X.prog X.w) X.A (f (.int i t)) Q E s):
  ZX X f (rU fun i=> .int (g i)):=by
 intro pins s σ H x v Q I rx h
 obtain⟨i,rfl,q⟩:=h
 obtain⟨t,rfl⟩:=rx
 exact rule i t s _ _ ⟨.int (g i),H,I.tok _,⟨_,rfl⟩,q⟩
theorem kb:ZX X (unaryOp .USub) (rU fun i=> .int (-i)):=unI fun _ _ _ _ _ q=>neg_int q
end
def RX:V→V→Bool
 | .cU, .cU=>true| .cU, .int _=>true| .int _, .cU=>true| .cU, .bl _=>true| .bl _, .cU=>true| .cU, .str _=>true| .str _, .cU=>true
 | .int _, .int _=>true| .bl _, .bl _=>true| .str _, .str _=>true| .zX _, .zX _=>true
 | .int _, .str _=>true| .str _, .int _=>true| .bl _, .str _=>true| .str _, .bl _=>true
 |_,_=>false
def rEq:R2:=fun x y H Q=>RX x y=true∧Q (.bl (decide (x=y))) H
def rNe:R2:=fun x y H Q=>RX x y=true∧Q (.bl (!decide (x=y))) H
theorem Bz {i j:Int}:decide (V.int i=V.int j)=(i==j):=by
 rw[Bool.eq_iff_iff]
 simp
theorem FE {i j:Bool}:decide (V.bl i=V.bl j)=(i==j):=by
 rw[Bool.eq_iff_iff]
 simp
theorem BB {i j:Str}:decide (V.str i=V.str j)=(i==j):=by
 rw[Bool.eq_iff_iff]
 simp
theorem BC {i j:Array UInt8}:decide (V.zX i=V.zX j)=(i.toList==j.toList):=by
 rw[Bool.eq_iff_iff]
 cases i
 cases j
 simp
section
variable {X:Cx} {a b c:Expr} {ta tb tc:TE} {pos:Pos}
theorem bV {pins:List (Addr×Obj)} {σ:St} {H:Hp} {s:Shared} {Q:VK} {k k':Bool} (I:Inv X pins σ H s) (q:Q (.bl k) H) (e:k=k'):EP X pins σ Q (.bool k') s:=by
 subst e
 exact⟨.bl k,H,I,rfl,q⟩
theorem d7:n4 X (compareOp .Eq) rEq:=by
 intro pins s σ H x y v u Q I rx ry h
 obtain⟨hs,q⟩:=h
 cases x with
 |cU=>
  cases rx
  cases y with
  |cU=>cases ry;exact PySem.EqNone.eq_none_none (bV I q (by simp))
  |bl j=>cases ry;exact PySem.EqNone.eq_none_bool (bV I q (by simp))
  |int j=>obtain⟨t',rfl⟩:=ry;exact PySem.EqNone.eq_none_int (bV I q (by simp))
  |str j=>obtain⟨t',rfl⟩:=ry;exact PySem.EqNone.eq_none_str (bV I q (by simp))
  |_=>exact absurd (show false=true from hs) Bool.false_ne_true
 |bl i=>
  cases rx
  cases y with
  |cU=>cases ry;exact PySem.EqNone.eq_bool_none (bV I q (by simp))
  |bl j=>cases ry;exact eq_bool (bV I q FE)
  |str j=>obtain⟨t',rfl⟩:=ry;exact PySem.EqMixed.eq_bool_str (bV I q (by simp))
  |_=>exact absurd (show false=true from hs) Bool.false_ne_true
 |int i=>
  obtain⟨t,rfl⟩:=rx
  cases y with
  |cU=>cases ry;exact PySem.EqNone.eq_int_none (bV I q (by simp))
  |int j=>obtain⟨t',rfl⟩:=ry;exact eq_int (bV I q Bz)
  |str j=>obtain⟨t',rfl⟩:=ry;exact PySem.EqMixed.eq_int_str (bV I q (by simp))
  |_=>exact absurd (show false=true from hs) Bool.false_ne_true
 |str i=>
  obtain⟨t,rfl⟩:=rx
  cases y with
  |cU=>cases ry;exact PySem.EqNone.eq_str_none (bV I q (by simp))
  |bl j=>cases ry;exact PySem.EqMixed.eq_str_bool (bV I q (by simp))
  |int j=>obtain⟨t',rfl⟩:=ry;exact PySem.EqMixed.eq_str_int (bV I q (by simp))
  |str j=>obtain⟨t',rfl⟩:=ry;exact eq_str (bV I q BB)
  |_=>exact absurd (show false=true from hs) Bool.false_ne_true
 |zX i=>
  obtain⟨t,rfl⟩:=rx
  cases y with
  |zX j=>obtain⟨t',rfl⟩:=ry;exact PySem.W.eq_bytes (bV I q BC)
  |_=>exact absurd (show false=true from hs) Bool.false_ne_true
 |_=>cases y<;>exact absurd (show false=true from hs) Bool.false_ne_true
theorem pe:n4 X (compareOp .NotEq) rNe:=by
 intro pins s σ H x y v u Q I rx ry h
 obtain⟨hs,q⟩:=h
 cases x with
 |cU=>
  cases rx
  cases y with
  |cU=>cases ry;exact PySem.EqNone.ne_none_none (bV I q (by simp))
  |bl j=>cases ry;exact PySem.EqNone.ne_none_bool (bV I q (by simp))
  |int j=>obtain⟨t',rfl⟩:=ry;exact PySem.EqNone.ne_none_int (bV I q (by simp))
  |str j=>obtain⟨t',rfl⟩:=ry;exact PySem.EqNone.ne_none_str (bV I q (by simp))
  |_=>exact absurd (show false=true from hs) Bool.false_ne_true
 |bl i=>
  cases rx
  cases y with
  |cU=>cases ry;exact PySem.EqNone.ne_bool_none (bV I q (by simp))
  |bl j=>cases ry;exact ne_bool (bV I q (congrArg not FE))
  |str j=>obtain⟨t',rfl⟩:=ry;exact PySem.EqMixed.ne_bool_str (bV I q (by simp))
  |_=>exact absurd (show false=true from hs) Bool.false_ne_true
 |int i=>
  obtain⟨t,rfl⟩:=rx
  cases y with
  |cU=>cases ry;exact PySem.EqNone.ne_int_none (bV I q (by simp))
  |int j=>obtain⟨t',rfl⟩:=ry;exact ne_int (bV I q (congrArg not Bz))
  |str j=>obtain⟨t',rfl⟩:=ry;exact PySem.EqMixed.ne_int_str (bV I q (by simp))
  |_=>exact absurd (show false=true from hs) Bool.false_ne_true
 |str i=>
  obtain⟨t,rfl⟩:=rx
  cases y with
  |cU=>cases ry;exact PySem.EqNone.ne_str_none (bV I q (by simp))
  |bl j=>cases ry;exact PySem.EqMixed.ne_str_bool (bV I q (by simp))
  |int j=>obtain⟨t',rfl⟩:=ry;exact PySem.EqMixed.ne_str_int (bV I q (by simp))
  |str j=>obtain⟨t',rfl⟩:=ry;exact ne_str (bV I q (congrArg not BB))
  |_=>exact absurd (show false=true from hs) Bool.false_ne_true
 |zX i=>
  obtain⟨t,rfl⟩:=rx
  cases y with
  |zX j=>obtain⟨t',rfl⟩:=ry;exact PySem.W.ne_bytes (bV I q (congrArg not BC))
  |_=>exact absurd (show false=true from hs) Bool.false_ne_true
 |_=>cases y<;>exact absurd (show false=true from hs) Bool.false_ne_true
theorem mw:n4 X (compareOp .Lt) (JF fun i j=> .bl (decide (i<j))):=JX fun _ _ _ _ _ _ _ q=>lt_int q
theorem Mx:n4 X (compareOp .LtE) (JF fun i j=> .bl (decide (i≤j))):=JX fun _ _ _ _ _ _ _ q=>le_int q
theorem lN:n4 X (compareOp .Gt) (JF fun i j=> .bl (decide (j<i))):=JX fun _ _ _ _ _ _ _ q=>gt_int q
theorem RY:n4 X (compareOp .GtE) (JF fun i j=> .bl (decide (j≤i))):=JX fun _ _ _ _ _ _ _ q=>ge_int q
theorem aW (b:Expr) {op:CmpOp} (h:op≠ .In:=by decide) (h2:op≠ .NotIn:=by decide):behindInMarks op b=false:=by
 have e1:(op==CmpOp.In)=false:=by cases op<;>first|rfl|exact absurd rfl h
 have e2:(op==CmpOp.NotIn)=false:=by cases op<;>first|rfl|exact absurd rfl h2
 cases b<;>simp [behindInMarks,e1,e2]
theorem iz {op:CmpOp} {r:R2} (ho:n4 X (compareOp op) r) (ha:PE X a ta) (hb:PE X b tb) (hm:behindInMarks op b=false):PE X (.Compare a [op] [b] pos) (N2 r ta tb):=by
 intro pins s σ H Q I h
 exact wpAny_Compare1 (N3 ha hb I h fun v u s2 x y H2 I2 rx ry q=>ho pins s2 σ H2 x y v u Q I2 rx ry q) hm
def RZ (t:TE):TT:=fun σ H Q=>t σ H fun x H'=>∃k,x= .bl k∧Q k H'
theorem aP {op:CmpOp} {r:R2} (ho:n4 X (compareOp op) r) (ha:PE X a ta) (hb:PE X b tb) (hm:behindInMarks op b=false):PT X (.Compare a [op] [b] pos) (RZ (N2 r ta tb)):=by
 intro pins s σ H Q I h
 refine wpAny_isTrue_Compare1 (bZ (ha pins s σ H _ I h) fun v s1 ⟨x,H1,I1,r1,q1⟩=>bZ (hb pins s1 σ H1 _ I1 q1) fun u s2 ⟨y,H2,I2,r2,q2⟩=>
  bZ (ho pins s2 σ H2 x y v u _ I2 r1 r2 q2) fun c s3 ⟨z,H3,I3,r3,k,e,q3⟩=>?_) hm
 subst e
 cases r3
 exact wpAny_truthy_bool ⟨H3,I3,q3⟩
def N5 (r r':R2) (ta tb tc:TE):TE:=fun σ H Q=>ta σ H fun x H1=>tb σ H1 fun y H2=>r x y H2 fun z H3=>∃k,z= .bl k∧
 (if k=true then tc σ H3 fun w' H4=>r' y w' H4 Q else Q (.bl false) H3)
theorem qD {op Z1:CmpOp} {r r':R2} (ho:n4 X (compareOp op) r) (xO:n4 X (compareOp Z1) r') (ha:PE X a ta) (hb:PE X b tb) (hc:PE X c tc)
  (hm:lastMarks [op,Z1] [b,c]=false:=by with_unfolding_all rfl):PE X (.Compare a [op,Z1] [b,c] pos) (N5 r r' ta tb tc):=by
 intro pins s σ H Q I h
 refine Compare_chain (bZ (ha pins s σ H _ I h) fun v s1 ⟨x,H1,I1,r1,q1⟩=>chain_link (bZ (hb pins s1 σ H1 _ I1 q1) fun u s2 ⟨y,H2,I2,r2,q2⟩=>
  bZ (ho pins s2 σ H2 x y v u _ I2 r1 r2 q2) fun d s3 ⟨z,H3,I3,r3,k,e,q3⟩=>?_)) hm
 subst e
 cases r3
 refine wpAny_truthy_bool ?_
 cases k with
 |false=>exact ite_ff ⟨.bl false,H3,I3,rfl,q3⟩
 |true=>exact ite_tt (chain_last (bZ (hc pins s3 σ H3 _ I3 q3) fun w' s4 ⟨z',H4,I4,r4,q4⟩=>xO pins s4 σ H4 y z' u w' Q I4 r2 r4 q4))
def R1 (K:PySem.W.Frag) (x:V) (H:Hp) (k:Bool):Prop:=
 match x with
 | .cU=>k=false
 | .bl b=>k=b
 | .int i=>k=(i != 0)
 | .str y=>y.length≤sizeLine∧k=((y.length:Int) != 0)
 | .zX y=>y.size≤sizeLine∧k=((y.size:Int) != 0)
 | .ref p=>(∃xs,b5 K H p xs∧k=!xs.isEmpty)∨(∃xs,jc K H p xs∧k=!xs.isEmpty)∨∃kvs,H p=some (.dK kvs)∧k=!kvs.isEmpty
 |_=>False
theorem z9 {κ:Type} {kvs:List (κ×V)} {vs:List (κ×Value)} (r:KV kvs vs):(!vs.isEmpty)=!kvs.isEmpty:=by
 cases r<;>rfl
theorem qF {xs:List V} {its:List Value} (r:Vals xs its):(!its.toArray.isEmpty)=!xs.isEmpty:=by
 cases r<;>simp
theorem n5:(sizeLine:Nat) <2^63:=by rw[sizeLine_eq];decide
theorem N6:ZY X (fun x H Q=>∃k,R1 X.K x H k∧Q k H):=by
 intro pins s σ H x v Q I rx h
 obtain⟨k,e,q⟩:=h
 have hl:=n5
 have hs:sizeLine=16777216:=sizeLine_eq
 cases x with
 |cU=>
  cases rx
  have e':k=false:=e
  subst e'
  exact truthy_none ⟨H,I,q⟩
 |bl b=>
  cases rx
  have e':k=b:=e
  subst e'
  exact wpAny_truthy_bool ⟨H,I,q⟩
 |int i=>
  obtain⟨t,rfl⟩:=rx
  have e':k=(i != 0):=e
  subst e'
  exact PySem.P.truthy_int ⟨H,I,q⟩
 |str y=>
  obtain⟨t,rfl⟩:=rx
  obtain⟨hy,e'⟩:y.length≤sizeLine∧k=((y.length:Int) != 0):=e
  subst e'
  exact PySem.P.truthy_str (by omega) ⟨H,I.tok _,q⟩
 |zX y=>
  obtain⟨t,rfl⟩:=rx
  obtain⟨hy,e'⟩:y.size≤sizeLine∧k=((y.size:Int) != 0):=e
  subst e'
  exact PySem.W.truthy_bytes (by omega) ⟨H,I.tok _,q⟩
 |ref p=>
  cases rx
  have e':(∃xs,b5 X.K H p xs∧k=!xs.isEmpty)∨(∃xs,jc X.K H p xs∧k=!xs.isEmpty)∨∃kvs,H p=some (.dK kvs)∧k=!kvs.isEmpty:=e
  rcases e' with ⟨xs,hx,e'⟩ | ⟨xs,hx,e'⟩ | ⟨kvs,hx,e'⟩
  ·subst e'
   obtain⟨its,r,pl,hz⟩:=I.list hx
   have hlen:=r.length
   exact wpAny_truthy_list pl.isList (by simp only [List.size_toArray];omega) ⟨H,I.tok _,by rw[qF r];exact q⟩
  ·subst e'
   obtain⟨its,r,pl,hz⟩:=I.tuple hx
   have hlen:=r.length
   exact truthy_tuple pl (by simp only [List.size_toArray];omega) ⟨H,I.tok _,by rw[qF r];exact q⟩
  ·subst e'
   obtain⟨hz,hS,vs,r,m⟩:kvs.length≤sizeLine∧(p==sysModules)=false∧∃vs,KV kvs vs∧s.heap.DictOf (bF X.prog X.w) p vs:=I.aU p _ hx
   have hlen:kvs.length=vs.length:=Paired.length r
   exact wpAny_truthy_dict hS m (by omega) ⟨H,I.tok _,by rw[z9 r];exact q⟩
 |_=>exact(show False from e).elim
theorem qG (ha:PE X a ta) (he:∀whole,isTrue a X.env whole=(do let v←whole;standAt a.pos;holding [v] (truthy v))):
  PT X a (fun σ H Q=>ta σ H fun x H'=>∃k,R1 X.K x H' k∧Q k H'):=by
 intro pins s σ H Q I h
 exact isTrue_plain (bZ (ha pins s σ H _ I h) fun v s1 ⟨x,H1,I1,r1,q1⟩=>N6 pins s1 σ H1 x v Q I1 r1 q1) (he _)
theorem bu:n4 X (binaryOp .Add) (fun x y H Q=>∃i j,x= .str i∧y= .str j∧i.length+j.length≤sizeLine∧Q (.str (i++j)) H):=by
 intro pins s σ H x y v u Q I rx ry h
 obtain⟨i,j,rfl,rfl,hz,q⟩:=h
 obtain⟨t,rfl⟩:=rx
 obtain⟨t',rfl⟩:=ry
 exact add_str (fun t' tk=>⟨.str (i++j),H,I.tok _,⟨_,rfl⟩,q⟩) hz
theorem vals1 {x:V} {us:List Value} (r:Vals [x] us):∃u,us=[u]∧RelV x u:=by
 cases r with
 |cons r1 r2=>cases r2;exact⟨_,rfl,r1⟩
theorem vals2 {x y:V} {us:List Value} (r:Vals [x,y] us):∃u w',us=[u,w']∧RelV x u∧RelV y w':=by
 cases r with
 |cons r1 r2=>
  cases r2 with
  |cons r3 r4=>cases r4;exact⟨_,_,rfl,r1,r3⟩
theorem x2:gD X (.builtin "abs") (fun xs H Q=>∃i,xs=[.int i]∧Q (.int (if i<0 then -i else i)) H):=by
 intro pins s σ H xs us Q I r h
 obtain⟨i,rfl,q⟩:=h
 obtain⟨u,rfl,t,rfl⟩:=vals1 r
 exact call_abs_int fun u tk=>⟨.int (if i<0 then -i else i),H,I.tok _,⟨_,rfl⟩,q⟩
theorem n9:gD X (.type "int") (fun xs H Q=>(∃i,xs=[.int i]∧Q (.int i) H)∨∃k,xs=[.bl k]∧Q (.int (if k then 1 else 0)) H):=by
 intro pins s σ H xs us Q I r h
 rcases h with ⟨i,rfl,q⟩ | ⟨k,rfl,q⟩
 ·obtain⟨u,rfl,t,rfl⟩:=vals1 r
  exact call_int_int ⟨.int i,H,I,⟨_,rfl⟩,q⟩
 ·obtain⟨u,rfl,r1⟩:=vals1 r
  cases r1
  exact call_int_bool ⟨.int (if k then 1 else 0),H,I.tok _,⟨_,rfl⟩,q⟩
theorem jy:gD X (.type "str") (fun xs H Q=>∃i,xs=[.int i]∧i.natAbs.log2<1920∧Q (.str (toString i)) H):=by
 intro pins s σ H xs us Q I r h
 obtain⟨i,rfl,hz,q⟩:=h
 obtain⟨u,rfl,t,rfl⟩:=vals1 r
 exact PySem.P.str_of_int hz ⟨.str _,H,I.tok _,⟨_,rfl⟩,q⟩
end
end L2
namespace L2
open PySem PySem.Spec PyProof.Rows
structure Aa (h:Heap) (x dx C:Addr) (mA:Str→Option Value):Prop where
 obj:h.get? x=some (PySem.W.instObj C dx)
 ns:h.Ns1 dx mA
 ne:dx≠x
theorem oa {h:Heap} {dx:Addr} {mA:Str→Option Value} (n:h.Ns1 dx mA):∃od,h.get? dx=some od∧∀name,PySem.W.lookIn name od=some (mA name):=by
 obtain⟨o,es,ep,ho,hd,hk,_,hm⟩:=n
 refine⟨o,ho,fun name=>?_⟩
 have e:=hm name
 unfold nsFind findBy at e
 rw[←Array.find?_toList] at e
 unfold PySem.W.lookIn
 rw[hd]
 dsimp only
 split
 ·rename_i y q
  rw[q] at e
  exact congrArg some e
 ·rename_i q
  rw[q] at e
  have a:es.toList.any (·.refKey)=false:=by
   rw[List.any_eq_false]
   intro y hy
   obtain⟨z,t,JZ⟩:=hk y (Array.mem_toList_iff.mp hy)
   simp [DictEntry.refKey,JZ]
  have a':¬es.toList.any (·.refKey)=true:=by rw[a];exact Bool.false_ne_true
  rw[if_neg a']
  exact congrArg some e
theorem Aa.look {h:Heap} {x dx C:Addr} {mA:Str→Option Value} (I:Aa h x dx C mA):∃od,PySem.W.InstAt h x (PySem.W.instObj C dx) C (some od)∧∀name,PySem.W.lookIn name od=some (mA name):=
 let ⟨od,ho,hl⟩:=oa I.ns
 ⟨od,⟨I.obj,rfl,rfl,ho⟩,hl⟩
section
variable {prog:Program} {w:World} {A:Around} {E:Value→Shared→Prop} {s:Shared} {K:PySem.W.Frag} {x dx C f:Addr} {mA:Str→Option Value} {name:Str} {v:Value}
theorem get_map {expr:Bool} {Q:Value→Shared→Prop} (X:K.In s.heap) (I:Aa s.heap x dx C mA) (hg:PySem.W.plainGet K C name=true) (hh:PySem.W.hasDictIn K C=true)
  (ha:PySem.W.findIn K (.ref C) name=some none) (hv:mA name=some v) (hv':PySem.W.handedIn v=true) (h:Q v { s with toks:=s.toks+1 }):
  wpAny (model prog w) A (getAttr (.ref x) name expr) Q E s:=by
 obtain⟨od,J,hl⟩:=I.look
 exact PySem.W.get_value X J (PySem.W.plainGet_of hg).1 (PySem.W.findObj_own hh ha rfl (by rw[hl,hv])) hv' h
theorem FF {pl:Sem Bool} {Q:Value×List Value→Shared→Prop} (X:K.In s.heap) (I:Aa s.heap x dx C mA) (hg:PySem.W.plainGet K C name=true)
  (hf:PySem.W.findIn K (.ref C) name=some (some (.ref f))) (ht:PySem.W.isFn K (.ref f)=true) (hv:mA name=none) (h:Q (.ref f,[.ref x]) s):
  wpAny (model prog w) A (getMethod (.ref x) name pl) Q E s:=by
 obtain⟨od,J,hl⟩:=I.look
 exact PySem.W.method_fn X J (PySem.W.plainGet_of hg).1 (PySem.W.plainGet_of hg).2 hf (beq_iff_eq.mp ht) (by show (PySem.W.lookIn name od).map (·.isSome)=some false;rw[hl,hv];rfl) h
theorem J0 {ns:List Str} {Q:Unit→Shared→Prop} (X:K.In s.heap) (I:Aa s.heap x dx C mA)
  (hs:PySem.W.findIn K (.ref C) "__setattr__" =some (some (.builtin "object.__setattr__"))) (hp:PySem.W.plainOver K C=true) (ht:PySem.W.takerIn K C name=some none) (hh:PySem.W.hasDictIn K C=true)
  (hw:PySem.Within mA ns) (hsz:ns.length≤sizeLine)
  (h:∀h',Aa h' x dx C (fun y=>if y=name then some v else mA y)→Heap.SameBut dx s.heap h'→Q () { s with heap:=h',toks:=s.toks+2 }):
  wpAny (model prog w) A (setAttr (.ref x) name v) Q E s:=by
 obtain⟨od,J,hl⟩:=I.look
 refine PySem.W.set_plain X J hs (PySem.W.osa_open (s:={ s with toks:=s.toks+1 }) (r:=none) X J hp ht fun b=>?_)
 obtain⟨cd,hc,fQ⟩:=PySem.W.any_some hh
 have hx:s.heap.get? x=some ⟨.ref C,some dx, .plain,#[]⟩:=I.obj
 refine wpAny_bind (wpAny_pure (wpAny_bind (wpAny_bind (wpAny_loadPart hx (wpAny_bind (PySem.W.Looks.here (s:={ s with toks:=s.toks+1 }) (PySem.W.looks_clsIn X hc) ?_))))))
 rw[fQ]
 refine wpAny_pure (a:=some dx) (wpAny_bind (wpAny_pure (wpAny_bind ?_)))
 refine wpAny_nsSet1 (s:={ s with toks:=s.toks+1 }) I.ns fun h' My hs2=>?_
 obtain⟨oD,esD,epD,hoD,hdD,J1⟩:=My.count (PySem.Within.cons name v hw)
 refine wpAny_bind (wpAny_lookBehind hoD (by rw[hdD];exact pastItsLine_dict (Nat.le_trans J1 (by rw[List.length_cons];omega))) ?_)
 exact wpAny_pure (h _ ⟨(hs2.2 _ (Ne.symm I.ne)).trans I.obj,My,I.ne⟩ hs2)
theorem FG {R:Result→Shared→Prop} {vs:List Value} {kw:List (Str×Value)} (X:K.In s.heap) (hm:PySem.W.makesIn K C=true)
  (hi:PySem.W.findIn K (.ref C) "__init__" =some (some (.ref f))) (hf:PySem.W.typeIn K (.ref f)=some (.type "function"))
  (h:codeAny (model prog w) (A.under (.builtin "type.__call__" ⟨.ref C::vs,kw⟩)) (.call (.ref f) ⟨.ref (s.heap.objs.size+1)::vs,kw⟩) (PySem.W.InitBack (s.heap.objs.size+1) R)
   { s with heap:=(s.heap.push PySem.W.emptyDict).push (PySem.W.instObj C s.heap.objs.size) }):
  codeAny (model prog w) A (.call (.ref C) ⟨vs,kw⟩) R s:=by
 obtain⟨hh,g,d,t,os⟩:=s
 exact PySem.W.make_core (PySem.W.makes_of X hm) (PySem.W.looks_findIn X hi) (fun self=>PySem.W.bind_fn X self hf) (.inl rfl) h
end
def cL (f:Str) (v:V):List (Str×V)→List (Str×V)
 | []=>[(f,v)]
 | (g,x)::r=>if g=f then (g,v)::r else (g,x)::cL f v r
theorem az (f g:Str) (v:V):∀fs:List (Str×V),(cL f v fs).lookup g=if g=f then some v else fs.lookup g
 | []=>by
   show List.lookup g [(f,v)]=_
   by_cases h:g=f
   ·have hb:(g==f)=true:=beq_iff_eq.mpr h
    simp only [List.lookup,hb,if_pos h]
   ·have hb:(g==f)=false:=beq_eq_false_iff_ne.mpr h
    simp only [List.lookup,hb,if_neg h]
 | (k,x)::r=>by
   have ih:=az f g v r
   rw[show cL f v ((k,x)::r)=(if k=f then (k,v)::r else (k,x)::cL f v r) from rfl]
   by_cases hk:k=f
   ·rw[if_pos hk]
    by_cases h:g=k
    ·have hb:(g==k)=true:=beq_iff_eq.mpr h
     simp only [List.lookup,hb,if_pos (h.trans hk)]
    ·have hb:(g==k)=false:=beq_eq_false_iff_ne.mpr h
     simp only [List.lookup,hb,if_neg (fun e:g=f=>h (e.trans hk.symm))]
   ·rw[if_neg hk]
    by_cases h:g=k
    ·have hb:(g==k)=true:=beq_iff_eq.mpr h
     simp only [List.lookup,hb,if_neg (fun e:g=f=>hk (h.symm.trans e))]
    ·have hb:(g==k)=false:=beq_eq_false_iff_ne.mpr h
     simp only [List.lookup,hb]
     exact ih
theorem je (f:Str) (v:V):∀fs:List (Str×V),f∈(cL f v fs).map (·.1)∧∀g,g∈fs.map (·.1)→g∈(cL f v fs).map (·.1)
 | []=>⟨by simp [cL],fun g h=>by simp at h⟩
 | (k,x)::r=>by
   obtain⟨i1,i2⟩:=je f v r
   rw[show cL f v ((k,x)::r)=(if k=f then (k,v)::r else (k,x)::cL f v r) from rfl]
   by_cases hk:k=f
   ·rw[if_pos hk]
    subst hk
    exact⟨by simp,fun g h=>by simpa using h⟩
   ·rw[if_neg hk]
    refine⟨?_,fun g h=>?_⟩
    ·rw[List.map_cons]
     exact List.mem_cons_of_mem _ i1
    ·rw[List.map_cons] at h ⊢
     rcases List.mem_cons.mp h with e|e
     ·exact List.mem_cons.mpr (.inl e)
     ·exact List.mem_cons_of_mem _ (i2 g e)
theorem gi (f:Str) (v:V):∀fs:List (Str×V),(cL f v fs).length≤fs.length+1
 | []=>by simp [cL]
 | (k,x)::r=>by
   have ih:=gi f v r
   rw[show cL f v ((k,x)::r)=(if k=f then (k,v)::r else (k,x)::cL f v r) from rfl]
   by_cases hk:k=f
   ·rw[if_pos hk,List.length_cons,List.length_cons];omega
   ·rw[if_neg hk,List.length_cons,List.length_cons];omega
theorem iw.some_of {v:V} {o:Option Value} (r:iw (some v) o):∃u,o=some u∧RelV v u:=by
 cases o with
 |none=>exact(show False from r).elim
 |some u=>exact⟨u,rfl,r⟩
theorem iw.none_of {o:Option Value} (r:iw none o):o=none:=by
 cases o with
 |none=>rfl
 |some u=>exact(show False from r).elim
theorem tF {v:V} {u:Value} (r:RelV v u):PySem.W.handedIn u=true:=by
 cases v with
 |cU=>cases (show u=Value.none from r);rfl
 |bl b=>cases (show u=Value.bool b from r);rfl
 |int i=>obtain⟨t,e⟩:=(show∃t,u=Value.int i t from r);cases e;rfl
 |str x=>obtain⟨t,e⟩:=(show∃t,u=Value.str x t from r);cases e;rfl
 |zX b=>obtain⟨t,e⟩:=(show∃t,u=Value.bytes b t from r);cases e;rfl
 |Mq b=>obtain⟨t,e⟩:=(show∃t,u=Value.float b t from r);cases e;rfl
 |ref a=>cases (show u=Value.ref a from r);rfl
 |ty n=>cases (show u=Value.type n from r);rfl
section
variable {P:Program} {w:World} {H H':Hp} {h h':Heap} {a C dx:Addr} {fs JQ:List (Str×V)}
theorem pP (aU:j7 P w H h) (e:H a=some (.ins C dx fs)):∃mA,Aa h a dx C mA∧(∀f,iw (fs.lookup f) (mA f))∧PySem.Within mA (fs.map (·.1))∧fs.length≤1000∧H dx=some (.own a):=by
 obtain⟨d,z,ne,ob,mA,n,r,q⟩:=(show cq P w H h a (.ins C dx fs) from aU a _ e)
 exact⟨mA,⟨ob,n,ne⟩,r,q,z,d⟩
end
structure sR (K:PySem.W.Frag) (C:Addr):Prop where
 pg:PySem.W.plainGet K C Str.empty=true
 hd:PySem.W.hasDictIn K C=true
 po:PySem.W.plainOver K C=true
 sa:PySem.W.findIn K (.ref C) "__setattr__" =some (some (.builtin "object.__setattr__"))
theorem sR.get {K:PySem.W.Frag} {C:Addr} (c:sR K C) (f:Str):PySem.W.plainGet K C f=true:=c.pg
def cG (K:PySem.W.Frag) (C:Addr) (f:Str):Prop:=PySem.W.findIn K (.ref C) f=some none
theorem cG.R3 {K:PySem.W.Frag} {C:Addr} {f:Str} (n:cG K C f):PySem.W.takerIn K C f=some none:=by
 unfold PySem.W.takerIn
 rw[show PySem.W.findIn K (.ref C) f=some none from n]
 rfl
structure Meth (K:PySem.W.Frag) (C:Addr) (m:Str) (f:Addr):Prop where
 at_:PySem.W.findIn K (.ref C) m=some (some (.ref f))
 fn:PySem.W.isFn K (.ref f)=true
 kp:PySem.W.keepIn K (.ref f)=true
section
variable {X:Cx} {pins:List (Addr×Obj)} {σ:St} {H:Hp} {s:Shared} {a C dx:Addr} {fs:List (Str×V)} {f:Str} {v:V} {A:Around} {E:Value→Shared→Prop}
theorem qH {b:Bool} {Q:Value→Shared→Prop} (I:Inv X pins σ H s) (e:H a=some (.ins C dx fs)) (c:sR X.K C) (n:cG X.K C f) (l:fs.lookup f=some v)
  (h:∀u s',Inv X pins σ H s'→RelV v u→Q u s'):wpAny (model X.prog X.w) A (getAttr (.ref a) f b) Q E s:=by
 obtain⟨mA,O,r,_,_,_⟩:=pP I.aU e
 obtain⟨u,hu,ru⟩:=iw.some_of (v:=v) (o:=mA f) (by rw[←l];exact r f)
 exact get_map I.ju O (c.get f) c.hd n hu (tF ru) (h u _ (I.tok _) ru)
theorem lV {m:Str} {g:Addr} {pl:Sem Bool} {Q:Value×List Value→Shared→Prop} (I:Inv X pins σ H s) (e:H a=some (.ins C dx fs)) (c:sR X.K C) (k:Meth X.K C m g) (l:fs.lookup m=none)
  (h:Q (.ref g,[.ref a]) s):wpAny (model X.prog X.w) A (getMethod (.ref a) m pl) Q E s:=by
 obtain⟨mA,O,r,_,_,_⟩:=pP I.aU e
 have hn:mA m=none:=iw.none_of (by rw[←l];exact r m)
 exact FF I.ju O (c.get m) k.at_ k.fn hn h
theorem qI {y:V} {u:Value} {Q:Unit→Shared→Prop} (I:Inv X pins σ H s) (e:H a=some (.ins C dx fs)) (c:sR X.K C) (n:cG X.K C f) (hl:fs.length<1000) (ry:RelV y u)
  (h:∀s',Inv X pins σ (upd H a (.ins C dx (cL f y fs))) s'→Q () s'):wpAny (model X.prog X.w) A (setAttr (.ref a) f u) Q E s:=by
 obtain⟨mA,O,r,wi,_,ho⟩:=pP I.aU e
 have hz:(fs.map (·.1)).length≤sizeLine:=by rw[List.length_map,sizeLine_eq];omega
 refine J0 I.ju O c.sa c.po n.R3 c.hd wi hz fun h' O' sb=>h _ ?_
 have hd:∃o,h'.get? dx=some o:=let ⟨o,_,_,e',_⟩:=O'.ns;⟨o,e'⟩
 refine I.write (x:=a) (e:=dx) (by rw[e];exact True.intro) (.inr ho) (fun b q hb z=>(sb.2 b hb).trans z) hd ?_
 refine⟨by rw[ah O.ne];exact ho,?_,O.ne,O'.obj,_,O'.ns,fun g=>?_,fun g hg=>?_⟩
 ·have:=gi f y fs;omega
 ·show iw ((cL f y fs).lookup g) (if g=f then some u else mA g)
  rw[az]
  by_cases q:g=f
  ·rw[if_pos q,if_pos q];exact ry
  ·rw[if_neg q,if_neg q];exact r g
 ·by_cases q:g=f
  ·rw[q];exact(je f y fs).1
  ·refine(je f y fs).2 g (wi g fun z=>hg ?_)
   show (if g=f then some u else mA g)=none
   rw[if_neg q];exact z
theorem Inv.made (I:Inv X pins σ H s):Inv X pins σ (upd (upd H s.heap.objs.size (.own (s.heap.objs.size+1))) (s.heap.objs.size+1) (.ins C s.heap.objs.size []))
  { s with heap:=(s.heap.push PySem.W.emptyDict).push (PySem.W.instObj C s.heap.objs.size) }:=by
 have e1:(s.heap.push PySem.W.emptyDict).get? s.heap.objs.size=some PySem.W.emptyDict:=Heap.get?_push_size s.heap rfl
 have e2:((s.heap.push PySem.W.emptyDict).push (PySem.W.instObj C s.heap.objs.size)).get? (s.heap.objs.size+1)=some (PySem.W.instObj C s.heap.objs.size):=by
  have:=Heap.get?_push_size (s.heap.push PySem.W.emptyDict) (o:=PySem.W.instObj C s.heap.objs.size) rfl
  rwa [Heap.size_push] at this
 have e3:(s.heap.push PySem.W.emptyDict).Ns s.heap.objs.size (fun _=>none):=⟨PySem.W.emptyDict,#[],_,e1,rfl,(fun e he=>absurd he (by simp)),fun _=>rfl⟩
 have I1:=I.laid (a:=s.heap.objs.size) (o:= .own (s.heap.objs.size+1)) (h':=s.heap.push PySem.W.emptyDict) (t':=s.toks) (fun b u q=>Heap.get?_push_of_some _ q) (Nat.le_refl _) ⟨_,e1⟩
 refine I1.laid (a:=s.heap.objs.size+1) (o:= .ins C s.heap.objs.size []) (t':=s.toks) (fun b u q=>Heap.get?_push_of_some _ q) (Nat.le_of_eq (Heap.size_push _ _)) ?_
 have ne:s.heap.objs.size≠s.heap.objs.size+1:=Nat.ne_of_lt (Nat.lt_succ_self _)
 refine⟨by rw[ah ne,af],Nat.zero_le _,ne,e2,fun _=>none,(Heap.Ns1.of_empty e3).at fun o q=>Heap.get?_push_of_some _ q,fun _=>True.intro,fun y hy=>absurd rfl hy⟩
theorem BD {prog:Program} {w:World} {env:Env} {e:Expr} {f:Str} {pos:Pos} {s:Shared} {Q:Value→Shared→Prop} (hb:attributeBase e f env (eval e env)=eval e env)
  (h:wpAny (model prog w) A (eval e env) (fun o s₁=>wpAny (model prog w) A (getAttr o f true) Q E s₁) E s):wpAny (model prog w) A (eval (.Attribute e f pos) env) Q E s:=
 Attribute_any_ h (by rw[arm_eval_Attribute,hb])
end
def Z2 (K:PySem.W.Frag) (ta:TE) (f:Str):TE:=fun σ H Q=>ta σ H fun x H1=>∃a C dx fs v,x= .ref a∧H1 a=some (.ins C dx fs)∧sR K C∧cG K C f∧fs.lookup f=some v∧Q v H1
def Z3 (K:PySem.W.Frag) (ta tv:TE) (f:Str):TS:=fun D σ H=>tv σ H fun y H1=>ta σ H1 fun x H2=>∃a C dx fs,x= .ref a∧H2 a=some (.ins C dx fs)∧sR K C∧cG K C f∧fs.length<1000∧
 D.nx σ (upd H2 a (.ins C dx (cL f y fs)))
def R4 (X:Cx) (op:Operator) (rd:V→V→Hp→VK→Prop):Prop:=
 ∀(pins:List (Addr×Obj)) (s:Shared) (σ:St) (H:Hp) (x y:V) (u v:Value) (Q:VK),Inv X pins σ H s→RelV x u→RelV y v→rd x y H Q→wpAny (model X.prog X.w) X.A (inplaceOp op u v) (EP X pins σ Q) X.xe s
def J2 (K:PySem.W.Frag) (ta tv:TE) (rd:V→V→Hp→VK→Prop) (f:Str):TS:=fun D σ H=>ta σ H fun x H1=>∃a C dx fs v,x= .ref a∧H1 a=some (.ins C dx fs)∧sR K C∧cG K C f∧fs.lookup f=some v∧
 tv σ H1 fun y H2=>rd v y H2 fun z H3=>∃dQ JQ,H3 a=some (.ins C dQ JQ)∧JQ.length<1000∧D.nx σ (upd H3 a (.ins C dQ (cL f z JQ)))
section
variable {X:Cx} {o e value:Expr} {f:Str} {pos pos' sS:Pos} {ta tv:TE}
theorem a5 (he:PE X e ta) (hb:attributeBase e f X.env (eval e X.env)=eval e X.env):PE X (.Attribute e f pos) (Z2 X.K ta f):=by
 intro pins s σ H Q I h
 refine BD hb (bZ (he pins s σ H _ I h) fun u s1 ⟨x,H1,I1,rx,a,C,dx,fs,v,ex,ea,c,n,l,q⟩=>?_)
 subst ex
 obtain rfl:u=Value.ref a:=rx
 exact qH I1 ea c n l fun u' s2 I2 ru=>⟨v,H1,I2,ru,q⟩
theorem eO (ha:PE X o ta) (hv:PE X value tv) (hs:swapsWith value (some (.Attribute o f pos')) pos.line X.env=pure false):PS X (.Assign [.Attribute o f pos'] value pos) (Z3 X.K ta tv f):=by
 intro pins s σ H D I h
 refine plainObj_wpAny_Assign_Attribute (bZ (hv pins s σ H _ I h) fun u s1 ⟨y,H1,I1,ry,q⟩=>bZ (ha pins s1 σ H1 _ I1 q) fun ov s2 ⟨x,H2,I2,rx,a,C,dx,fs,ex,ea,c,n,l,q2⟩=>?_) hs
 subst ex
 obtain rfl:ov=Value.ref a:=rx
 exact qI I2 ea c n l ry fun s3 I3=>⟨σ,_,I3,q2⟩
theorem kN {op:Operator} {rd:V→V→Hp→VK→Prop} (ha:PE X o ta) (hv:PE X value tv) (hop:R4 X op rd):PS X (.AugAssign (.Attribute o f sS) op value pos) (J2 X.K ta tv rd f):=by
 intro pins s σ H D I h
 refine wpAny_AugAssign_AttributeAny (bZ (ha pins s σ H _ I h) fun ov s1 ⟨x,H1,I1,rx,a,C,dx,fs,v,ex,ea,c,n,l,q⟩=>?_)
 subst ex
 obtain rfl:ov=Value.ref a:=rx
 refine qH I1 ea c n l fun u s2 I2 ru=>bZ (hv pins s2 σ H1 _ I2 q) fun w3 s3 ⟨y,H2,I3,ry,q3⟩=>bZ (hop pins s3 σ H2 v y u w3 _ I3 ru ry q3) fun w4 s4 ⟨z,H3,I4,rz,dQ,JQ,ea',l',q4⟩=>?_
 exact qI I4 ea' c n l' rz fun s5 I5=>⟨σ,_,I5,q4⟩
def Z4:V→V→Hp→VK→Prop:=fun x y H Q=>∃i j,x= .int i∧y= .int j∧Q (.int (i+j)) H
theorem vA:R4 X .Add Z4:=by
 rintro pins s σ H x y u v Q I rx ry ⟨i,j,rfl,rfl,q⟩
 obtain⟨t,rfl⟩:=(show∃t,u=Value.int i t from rx)
 obtain⟨t',rfl⟩:=(show∃t',v=Value.int j t' from ry)
 exact PyProof.Rows.iadd_int ⟨.int (i+j),H,I.tok _,⟨_,rfl⟩,q⟩
end
section
variable {X:Cx} {pins:List (Addr×Obj)} {σ:St} {H:Hp} {s:Shared} {A:Around} {E:Value→Shared→Prop} {Q:Value→Shared→Prop} {c:Value} {b:Bool}
inductive og (K:PySem.W.Frag) (H:Hp):V→Value→Prop where
 |cU:og K H .cU (.type "NoneType")
 |bl (x:Bool):og K H (.bl x) (.type "bool")
 |int (i:Int):og K H (.int i) (.type "int")
 |str (x:Str):og K H (.str x) (.type "str")
 |Mq (x:UInt64):og K H (.Mq x) (.type "float")
 |lst {a:Addr} {xs:List V} (e:H a=some (.lst xs)):og K H (.ref a) (.type "list")
 |fN {a:Addr} {o:Obj} {xs:List V} (e:H a=some (.fN o (.lst xs))):og K H (.ref a) (.type "list")
 |tup {a:Addr} {xs:List V} (e:H a=some (.tup xs)):og K H (.ref a) (.type "tuple")
 |dK {a:Addr} {kvs:List (Key×V)} (e:H a=some (.dK kvs)):og K H (.ref a) (.type "dict")
 |dT {a:Addr} {kvs:List (List Key×V)} (e:H a=some (.dT kvs)):og K H (.ref a) (.type "dict")
 |ins {a C dx:Addr} {fs:List (Str×V)} (e:H a=some (.ins C dx fs)) (cl:sR K C) (ha:PySem.W.findIn K (.ref C) "__class__" =some (some (.builtin "object.__class__")))
   (hn:PySem.W.specialIn K (.builtin "object.__class__") "__get__" =some (some (.builtin "getset_descriptor.__get__"))) (xP:PySem.W.takesIn K (.builtin "object.__class__")=some true)
   (hm:PySem.W.mroIn K C (.type "object")=some true):og K H (.ref a) (.ref C)
theorem Ds {x:V} {u t:Value} (I:Inv X pins σ H s) (rx:RelV x u) (ty:og X.K H x t) (e:PySem.W.kitOne X.K t c=some b) (h:∀tk,Q (.bool b) { s with toks:=tk }):
  wpAny (model X.prog X.w) A (call (.builtin "isinstance") [u,c]) Q E s:=by
 cases ty with
 |cU=>cases (show u=Value.none from rx);exact PySem.W.kia_one PySem.W.kitx_none I.ju True.intro e (fun z=>nomatch z) h
 |bl y=>cases (show u=Value.bool y from rx);exact PySem.W.kia_one PySem.W.kitx_bool I.ju True.intro e (fun z=>nomatch z) h
 |int i=>obtain⟨t,q⟩:=(show∃t,u=Value.int i t from rx);cases q;exact PySem.W.kia_one PySem.W.kitx_int I.ju True.intro e (fun z=>nomatch z) h
 |str y=>obtain⟨t,q⟩:=(show∃t,u=Value.str y t from rx);cases q;exact PySem.W.kia_one PySem.W.kitx_str I.ju True.intro e (fun z=>nomatch z) h
 |Mq y=>obtain⟨t,q⟩:=(show∃t,u=Value.float y t from rx);cases q;exact PySem.W.kia_one PySem.W.kitx_float I.ju True.intro e (fun z=>nomatch z) h
 | @lst a xs ea=>
   cases (show u=Value.ref a from rx)
   obtain⟨_,_,n,_,h1⟩:=(show cq X.prog X.w H s.heap a (.lst xs) from I.aU a _ ea)
   exact PySem.W.kia_one PySem.W.kitx_list I.ju ⟨_,h1,rfl⟩ e (fun z=>nomatch z) h
 | @fN a ob xs ea=>
   cases (show u=Value.ref a from rx)
   obtain⟨_,_,_,n,_,h1⟩:=(show cq X.prog X.w H s.heap a (.fN ob (.lst xs)) from I.aU a _ ea)
   exact PySem.W.kia_one PySem.W.kitx_list I.ju ⟨_,h1,rfl⟩ e (fun z=>nomatch z) h
 | @tup a xs ea=>
   cases (show u=Value.ref a from rx)
   obtain⟨_,_,_,p⟩:=(show cq X.prog X.w H s.heap a (.tup xs) from I.aU a _ ea)
   obtain⟨o,h1,h2,_⟩:=p
   exact PySem.W.kia_one PySem.W.kitx_tuple I.ju ⟨o,h1,h2⟩ e (fun z=>nomatch z) h
 | @dK a kvs ea=>
   cases (show u=Value.ref a from rx)
   obtain⟨_,_,vs,_,p⟩:=(show cq X.prog X.w H s.heap a (.dK kvs) from I.aU a _ ea)
   obtain⟨o,es,ep,h1,h2,_⟩:=p
   exact PySem.W.kia_one PySem.W.kitx_dict I.ju ⟨o,h1,h2.1⟩ e (fun z=>nomatch z) h
 | @dT a kvs ea=>
   cases (show u=Value.ref a from rx)
   obtain⟨_,_,xs,_,o,es,ep,h1,h2,_⟩:=(show cq X.prog X.w H s.heap a (.dT kvs) from I.aU a _ ea)
   exact PySem.W.kia_one PySem.W.kitx_dict I.ju ⟨o,h1,h2.1⟩ e (fun z=>nomatch z) h
 | @ins a C dx fs ea cl ha hn xP hm=>
   cases (show u=Value.ref a from rx)
   obtain⟨mA,O,_⟩:=pP I.aU ea
   obtain⟨od,J,_⟩:=O.look
   exact PySem.W.kia_one (PySem.W.kitx_own (cl.get _) cl.hd ha hn xP hm) I.ju J e (fun z=>nomatch z) h
end
end L2
namespace L2
open PySem PySem.Spec PyProof.Rows
structure cV (k:Nat) (A:Around):Prop where
 hd:A.handled=none
 dp:A.depth+3*k+5<recursionLimit
 un:A.units+16*k+200<cLine
theorem cV.mono {j k:Nat} {A:Around} (r:cV k A) (h:j≤k):cV j A:=⟨r.hd,by have:=r.dp;omega,by have:=r.un;omega⟩
theorem cV.deeper {k:Nat} {A:Around} (r:cV (k+1) A) (env:Env):cV k (A.deeper env):=
 ⟨r.hd,by have:=r.dp;show A.depth+1+3*k+5<_;omega,by have:=r.un;show A.units+3+16*k+200<_;omega⟩
theorem Ab {A:Around} {C:Addr} {us:List Value} {kw:List (Str×Value)}:(A.under (.builtin "type.__call__" ⟨.ref C::us,kw⟩)).depth=A.depth+1:=by
 first|rfl|simp [Around.under,Code.weight,Code.isCreation,Code.isGuard,Code.isCaller,Code.frames,Code.isFrame,guardIds]
theorem Ac {A:Around} {C:Addr} {us:List Value} {kw:List (Str×Value)}:(A.under (.builtin "type.__call__" ⟨.ref C::us,kw⟩)).units=A.units+1:=by
 first|rfl|simp [Around.under,Code.cUnits,Code.frames,Code.isFrame]
theorem cV.make {k:Nat} {A:Around} (r:cV (k+1) A) (C:Addr) (us:List Value) (kw:List (Str×Value)):cV k (A.under (.builtin "type.__call__" ⟨.ref C::us,kw⟩)):=
 ⟨r.hd,by have:=r.dp;rw[Ab];omega,by have:=r.un;rw[Ac];omega⟩
theorem cV.depth {k:Nat} {A:Around} (r:cV k A):A.depth<recursionLimit:=by have:=r.dp;omega
theorem cV.units {k:Nat} {A:Around} (r:cV k A):A.units+64<cLine:=by have:=r.un;omega
theorem cV.oh {k:Nat} {A:Around} (r:cV k A):A.units<cLine:=by have:=r.un;omega
def R5:TA:=fun _ H Q=>Q [] H
def R6 (ta:TE) (tr:TA):TA:=fun σ H Q=>ta σ H fun x H1=>tr σ H1 fun xs H2=>Q (x::xs) H2
section
variable {X:Cx} {e:Expr} {es:List Expr} {te:TE} {t:TA} {pos:Pos}
theorem ak:PA X [] R5:=fun _ _ _ _ H Q I h=>Calls.spliced_nil ⟨[],H,I, .nil,h⟩
theorem aa (ha:PE X e te) (hr:PA X es t) (hs:starEach (e::es) X.env=(false,eval e X.env)::starEach es X.env:=by rfl):PA X (e::es) (R6 te t):=by
 intro pos pins s σ H Q I h
 rw[hs]
 show wpAny _ _ (spliced ((false,eval e X.env)::backTo pos (starEach es X.env))) _ _ s
 refine Calls.spliced_cons (bZ (ha pins s σ H _ I h) fun u s1 ⟨x,H1,I1,r1,q1⟩=>?_)
 exact bZ (hr pos pins s1 σ H1 _ I1 q1) fun us s2 ⟨xs,H2,I2,r2,q2⟩=>⟨x::xs,H2,I2, .cons r1 r2,q2⟩
def Z5 (t:TA):TE:=fun σ H Q=>t σ H fun xs H1=>xs.length≤sizeLine∧∀p,H1 p=none→Q (.ref p) (upd H1 p (.tup xs))
def Z6 (t:TA):TE:=fun σ H Q=>t σ H fun xs H1=>xs.length≤sizeLine∧∀p,H1 p=none→Q (.ref p) (upd H1 p (.lst xs))
theorem bP {x1} (h:PA X es t):PE X (.Tuple es x1 pos) (Z5 t):=by
 intro pins s σ H Q I hq
 refine wpAny_Tuple_spliced (bZ (h pos pins s σ H _ I hq) fun us s1 ⟨xs,H1,I1,r,z,q⟩=>⟨by rw[←r.length];exact z,?_⟩)
 have hf:H1 s1.heap.objs.size=none:=I1.aU.fresh (Nat.le_refl _)
 refine⟨.ref s1.heap.objs.size,upd H1 s1.heap.objs.size (.tup xs),I1.laid (t':=s1.toks) (fun b u e=>Heap.get?_push_of_some _ e) (Nat.le_refl _) ?_,rfl,q _ hf⟩
 exact⟨z,us,r,⟨_,Heap.get?_push_size _ rfl,rfl,_,rfl⟩⟩
theorem cD (h:PA X es t):PE X (.List es pos) (Z6 t):=by
 intro pins s σ H Q I hq
 refine wpAny_List_spliced (bZ (h pos pins s σ H _ I hq) fun us s1 ⟨xs,H1,I1,r,z,q⟩=>⟨by rw[←r.length];exact z,?_⟩)
 have hf:H1 s1.heap.objs.size=none:=I1.aU.fresh (Nat.le_refl _)
 refine⟨.ref s1.heap.objs.size,upd H1 s1.heap.objs.size (.lst xs),I1.laid (t':=s1.toks) (fun b u e=>Heap.get?_push_of_some _ e) (Nat.le_refl _) ?_,rfl,q _ hf⟩
 exact⟨z,us,0,r,Heap.get?_push_size _ rfl⟩
end
abbrev Sp:=List V→Hp→VK→XK→Prop
abbrev BE:=List Env→Hp→Shared→XK→Value→Shared→Prop
structure Ad (P:Program) (w:World) (K:PySem.W.Frag) (mg:Str→Option Value) (base:Heap) (A:Around) (outer:List Env) (s:Shared) (H:Hp):Prop where
 frames:A.frames=some outer
 mod:Mod K mg base
 bs:∀b o,base.get? b=some o→s.heap.get? b=some o∧H b=none
 Dp:base.objs.size≤s.heap.objs.size
 lH:s.heap.FunFrames base outer
 Fw:∀b∈xN outer,H b=none
 aU:j7 P w H s.heap
 bare:AllBare s.gens
def CE (outer:List Env) (P:Program) (w:World) (H:Hp) (s:Shared) (Q:VK) (u:Value) (s':Shared):Prop:=
 ∃v H',s'.os=s.os∧AllBare s'.gens∧Un (xN outer) [] H H' s.heap s'.heap∧j7 P w H' s'.heap∧RelV v u∧Q v H'
def CR (CX:BE) (outer:List Env) (P:Program) (w:World) (H:Hp) (s:Shared) (Q:VK) (E:XK) (r:Result) (s':Shared):Prop:=
 match r with
 | .ok (.ret u)=>CE outer P w H s Q u s'
 | .ok _=>False
 | .error e=>CX outer H s E e s'
structure fu (P:Program) (w:World) (K:PySem.W.Frag) (mg:Str→Option Value) (base:Heap) (CX:BE) (k:Nat) (f:Addr) (fd:FuncData) (ps:List Str) (sp:Sp):Prop where
 len:∀vs H Q E,sp vs H Q E→vs.length=ps.length
 run:∀(A:Around) (outer:List Env) (s:Shared) (H:Hp) (args:Args) (us:List Value) (vs:List V) (Q:VK) (E:XK),cV k A→Ad P w K mg base A outer s H→BindsTo s fd args (ps.zip us)→Vals vs us→sp vs H Q E→
  codeAny (model P w) A (.call (.ref f) args) (CR CX outer P w H s Q E) s
theorem Ad.make {P:Program} {w:World} {K:PySem.W.Frag} {mg:Str→Option Value} {base:Heap} {A:Around} {outer:List Env} {s:Shared} {H:Hp} (e:Ad P w K mg base A outer s H) (C:Addr) (us:List Value) (kw:List (Str×Value)):
  Ad P w K mg base (A.under (.builtin "type.__call__" ⟨.ref C::us,kw⟩)) outer s H:=⟨by first|exact e.frames| (simpa [Around.under,Code.envs,Code.isFrame,pushEnvs] using e.frames),e.mod,e.bs,e.Dp,e.lH,e.Fw,e.aU,e.bare⟩
section
variable {X:Cx} {pins:List (Addr×Obj)} {σ:St} {H:Hp} {s s':Shared}
theorem Inv.J3 (I:Inv X pins σ H s):Ad X.prog X.w X.K X.mg X.base X.A X.stack s H:=
 ⟨I.ok.frames,I.ok.mod,I.bs,Nat.le_trans I.ok.Dp I.sz,I.stack,I.vq,I.aU,I.bare⟩
theorem Inv.after {Q:VK} {u:Value} (I:Inv X pins σ H s) (h:CE X.stack X.prog X.w H s Q u s'):EP X pins σ Q u s':=by
 obtain⟨v,H',os,bare,un,aU,r,q⟩:=h
 obtain⟨hh,g,d,t,os'⟩:=s'
 obtain rfl:os'=s.os:=os
 exact⟨v,H',I.call (h':=hh) (g':=g) (d':=d) (t':=t) (ch:=[]) un aU bare (fun b z=>absurd z (by simp)),r,q⟩
end
def R7 (sp:Sp) (kO:List V) (E:XK) (t:TA):TE:=fun σ H Q=>t σ H fun vs H1=>sp (vs++kO) H1 Q E
def Mz (C:Addr) (m:Str) (sp:Sp) (kO:List V) (E:XK) (ta:TE) (t:TA):TE:=fun σ H Q=>ta σ H fun x H1=>∃a dx fs,x= .ref a∧H1 a=some (.ins C dx fs)∧fs.lookup m=none∧
 t σ H1 fun vs H2=>sp (x::(vs++kO)) H2 Q E
def R8 (C:Addr) (sp:Sp) (kO:List V) (E:XK) (t:TA):TE:=fun σ H Q=>t σ H fun vs H1=>∀x dx,H1 x=none→H1 dx=none→dx≠x→
 sp (.ref x::(vs++kO)) (upd (upd H1 dx (.own x)) x (.ins C dx [])) (fun v H2=>v= .cU∧Q (.ref x) H2) E
def Binds (K:PySem.W.Frag) (fd:FuncData) (ps:List Str) (ds:List Value):Prop:=
 ∀(s:Shared) (us:List Value),K.In s.heap→(us++ds).length=ps.length→BindsTo s fd ⟨us,[]⟩ (ps.zip (us++ds))
theorem Binds.all {K:PySem.W.Frag} {fd:FuncData} {ps:List Str} (h:∀us:List Value,us.length=ps.length→bindArgs fd ⟨us,[]⟩=pure (ps.zip us)):Binds K fd ps []:=fun s us _ hl=>by
 rw[List.append_nil] at hl ⊢
 exact .of_eq (h us hl)
def Passes (CX:BE) (X:Cx) (E:XK):Prop:=∀(pins:List (Addr×Obj)) (σ:St) (H:Hp) (s:Shared) (e:Value) (s':Shared),Inv X pins σ H s→CX X.stack H s E e s'→X.xe e s'
section
variable {X:Cx} {CX:BE} {k:Nat} {f C:Addr} {fd:FuncData} {ps:List Str} {sp:Sp} {kO:List V} {ds:List Value} {E:XK} {x m:Str} {p pos apos:Pos} {e o:Expr} {es:List Expr} {ta:TE} {t:TA}
theorem Ae {pins:List (Addr×Obj)} {σ:St} {H:Hp} {s:Shared} {Q:VK} {us:List Value} {vs:List V} (F:fu X.prog X.w X.K X.mg X.base CX k f fd ps sp) (hr:cV k X.A) (hb:Binds X.K fd ps ds) (hd:Vals kO ds) (hx:Passes CX X E)
  (I:Inv X pins σ H s) (r:Vals vs us) (h:sp (vs++kO) H Q E):wpAny (model X.prog X.w) X.A (call (.ref f) us) (EP X pins σ Q) X.xe s:=by
 have r2:Vals (vs++kO) (us++ds):=r.append hd
 have hl:(us++ds).length=ps.length:=by rw[←r2.length];exact F.len _ _ _ _ h
 refine wpAny_call (codeAny_mono (F.run X.A X.stack s H ⟨us,[]⟩ (us++ds) (vs++kO) Q E hr I.J3 (hb s us I.ju hl) r2 h) fun r s' hq=>?_)
 cases r with
 |error e=>exact hx pins σ H s e s' I hq
 |ok fl=>
  cases fl with
  |ret u=>exact I.after hq
  |next=>exact False.elim hq
  |brk=>exact False.elim hq
  |cont=>exact False.elim hq
theorem aH (F:fu X.prog X.w X.K X.mg X.base CX k f fd ps sp) (hr:cV k X.A) (hg:Gl X x) (hm:X.mg x=some (.ref f)) (hk:PySem.W.keepIn X.K (.ref f)=true) (hb:Binds X.K fd ps ds) (hd:Vals kO ds) (hx:Passes CX X E)
  (ha:PA X (e::es) t) (FH:(x==("__debug__" :Str))=false:=by decide) (he:starEach (e::es) X.env=(false,eval e X.env)::starEach es X.env:=by rfl) (iX:(backTo pos (starEach es X.env)).any (·.1)=false:=by rfl):
  PE X (.Call (.Name x p) (e::es) [] pos) (R7 sp kO E t):=by
 intro pins s σ H Q I h
 refine wpAny_Call_Name_kw (jv I hg hm ?_ FH)
 refine PySem.W.callWith_K (h₀:=X.base) I.ok.mod.gy hk (bZ (ha pos pins s σ H _ I h) fun us s1 ⟨vs,H1,I1,r,q⟩=>⟨I1.ju,?_⟩) he iX
 exact Ae F hr hb hd hx I1 r q
theorem bU {pl:Sem Bool} (he:PE X o ta) (c:sR X.K C) (hm:Meth X.K C m f) (F:fu X.prog X.w X.K X.mg X.base CX k f fd ps sp) (hr:cV k X.A) (hb:Binds X.K fd ps ds) (hd:Vals kO ds) (hx:Passes CX X E) (ha:PA X (e::es) t)
  (fO:starEach (e::es) X.env=(false,eval e X.env)::starEach es X.env:=by rfl) (iX:(backTo pos (starEach es X.env)).any (·.1)=false:=by rfl)
  (ht:eval (.Call (.Attribute o m apos) (e::es) [] pos) X.env=(do
   let ov←eval o X.env
   standAt apos.atName
   let (f,first)←holding [ov] (getMethod ov m pl)
   callWith pos f first (backTo pos (starEach (e::es) X.env)) (backToKw pos (keywordEach [] X.env))):=by rfl):
  PE X (.Call (.Attribute o m apos) (e::es) [] pos) (Mz C m sp kO E ta t):=by
 intro pins s σ H Q I h
 refine PySem.W.methodCall_KW (pl:=pl) (bZ (he pins s σ H _ I h) fun u s1 ⟨x,H1,I1,rx,a,dx,fs,ex,ea,l,q⟩=>?_) ht
 subst ex
 obtain rfl:u=Value.ref a:=rx
 refine lV I1 ea c hm l ?_
 refine PySem.W.callWith_K (first:=[.ref a]) (h₀:=X.base) I.ok.mod.gy hm.kp (bZ (ha pos pins s1 σ H1 _ I1 q) fun us s2 ⟨vs,H2,I2,r,q2⟩=>⟨I2.ju,?_⟩) fO iX
 exact Ae (us:= .ref a::us) (vs:= .ref a::vs) F hr hb hd hx I2 (.cons rfl r) q2
theorem aN {pl:Sem Bool} (he:PE X o ta) (c:sR X.K C) (hm:Meth X.K C m f) (F:fu X.prog X.w X.K X.mg X.base CX k f fd ps sp) (hr:cV k X.A) (hb:Binds X.K fd ps ds) (hd:Vals kO ds) (hx:Passes CX X E)
  (ht:eval (.Call (.Attribute o m apos) [] [] pos) X.env=(do
   let ov←eval o X.env
   standAt apos.atName
   let (f,first)←holding [ov] (getMethod ov m pl)
   callWith pos f first (backTo pos (starEach [] X.env)) (backToKw pos (keywordEach [] X.env))):=by rfl):
  PE X (.Call (.Attribute o m apos) [] [] pos) (Mz C m sp kO E ta R5):=by
 intro pins s σ H Q I h
 refine PySem.W.methodCall_KW (pl:=pl) (bZ (he pins s σ H _ I h) fun u s1 ⟨x,H1,I1,rx,a,dx,fs,ex,ea,l,q⟩=>?_) ht
 subst ex
 obtain rfl:u=Value.ref a:=rx
 refine lV I1 ea c hm l ?_
 exact PySem.W.callWith_K0 (first:=[.ref a]) I1.ju hm.kp (Ae (us:=[.ref a]) (vs:=[.ref a]) F hr hb hd hx I1 (.cons rfl .nil) q)
structure Mk (K:PySem.W.Frag) (C f:Addr):Prop where
 makes:PySem.W.makesIn K C=true
 init:PySem.W.findIn K (.ref C) "__init__" =some (some (.ref f))
 fn:PySem.W.isFn K (.ref f)=true
 kp:PySem.W.keepIn K (.ref C)=true
theorem FI {pins:List (Addr×Obj)} {σ:St} {H:Hp} {s:Shared} {Q:VK} {us:List Value} {vs:List V} (M:Mk X.K C f) (F:fu X.prog X.w X.K X.mg X.base CX k f fd ps sp) (hr:cV (k+1) X.A) (hb:Binds X.K fd ps ds) (hd:Vals kO ds)
  (hx:Passes CX X E) (I:Inv X pins σ H s) (r:Vals vs us)
  (h:∀x dx,H x=none→H dx=none→dx≠x→sp (.ref x::(vs++kO)) (upd (upd H dx (.own x)) x (.ins C dx [])) (fun v H2=>v= .cU∧Q (.ref x) H2) E):
  wpAny (model X.prog X.w) X.A (call (.ref C) us) (EP X pins σ Q) X.xe s:=by
 have hq:=h (s.heap.objs.size+1) s.heap.objs.size (I.aU.fresh (Nat.le_succ _)) (I.aU.fresh (Nat.le_refl _)) (Nat.ne_of_lt (Nat.lt_succ_self _))
 have I2:=Inv.made (C:=C) I
 have r2:Vals (V.ref (s.heap.objs.size+1)::(vs++kO)) (Value.ref (s.heap.objs.size+1)::(us++ds)):= .cons rfl (r.append hd)
 have hl:(Value.ref (s.heap.objs.size+1)::us++ds).length=ps.length:=by
  have e:=r2.length
  rw[F.len _ _ _ _ hq] at e
  exact e.symm
 refine wpAny_call (FG (f:=f) I.ju M.makes M.init (beq_iff_eq.mp M.fn) (codeAny_mono (F.run _ X.stack _ _ ⟨Value.ref (s.heap.objs.size+1)::us,[]⟩ (Value.ref (s.heap.objs.size+1)::(us++ds)) _ _ E (hr.make C us [])
  (I2.J3.make C us []) (hb _ (Value.ref (s.heap.objs.size+1)::us) I2.ju hl) r2 hq) fun r s' sO=>?_))
 cases r with
 |error e=>exact hx pins σ _ _ e s' I2 sO
 |ok fl=>
  cases fl with
  |ret u=>
   obtain⟨v,H',I3,rv,ev,q3⟩:=I2.after sO
   subst ev
   exact⟨rv,⟨V.ref (s.heap.objs.size+1),H',I3,rfl,q3⟩⟩
  |next=>exact False.elim sO
  |brk=>exact False.elim sO
  |cont=>exact False.elim sO
theorem f6 (M:Mk X.K C f) (F:fu X.prog X.w X.K X.mg X.base CX k f fd ps sp) (hr:cV (k+1) X.A) (hg:Gl X x) (hm:X.mg x=some (.ref C)) (hb:Binds X.K fd ps ds) (hd:Vals kO ds) (hx:Passes CX X E)
  (ha:PA X (e::es) t) (FH:(x==("__debug__" :Str))=false:=by decide) (he:starEach (e::es) X.env=(false,eval e X.env)::starEach es X.env:=by rfl) (iX:(backTo pos (starEach es X.env)).any (·.1)=false:=by rfl):
  PE X (.Call (.Name x p) (e::es) [] pos) (R8 C sp kO E t):=by
 intro pins s σ H Q I h
 refine wpAny_Call_Name_kw (jv I hg hm ?_ FH)
 refine PySem.W.callWith_K (h₀:=X.base) I.ok.mod.gy M.kp (bZ (ha pos pins s σ H _ I h) fun us s1 ⟨vs,H1,I1,r,q⟩=>⟨I1.ju,?_⟩) he iX
 exact FI M F hr hb hd hx I1 r q
end
section
variable {X:Cx} {CX:BE} {k:Nat} {f C:Addr} {fd:FuncData} {ps ks:List Str} {sp:Sp} {E:XK} {x m:Str} {p pos apos R9:Pos} {e o:Expr} {es:List Expr} {kws:List Keyword} {te ta:TE} {t tk:TA} {nm:Option Str}
variable {g:List Value→List Value→List Value} {gV:List V→List V→List V}
end
structure ax (N P:List Str) (sc:Scope):Prop where
 kind:sc.kind= .function
 co:sc.isCoroutine=false
 gen:sc.isGenerator=false
 nd:N.Nodup
 pre:N.take P.length=P
 par:∀x∈P,sc.names.lookup x=some .local∨sc.names.lookup x=some .cell
 N7:∀y∈sc.names,y.2≠ .free
theorem tG {kindOf:Str→Option NameKind} {x:Str}:∀{binds:List (Str×Value)} {m:Str→Option Value},(∀v,(x,v)∉binds)→bindL kindOf binds m x=m x
 | [],_,_=>rfl
 | (n,v)::r,m,h=>by
   unfold bindL
   rw[tG fun w hw=>h w (List.mem_cons_of_mem _ hw)]
   split
   ·have:x≠n:=by rintro rfl;exact h v List.mem_cons_self
    simp [this]
   ·rfl
theorem tH {kindOf:Str→Option NameKind} {x:Str}:∀{binds:List (Str×Value)} {m:Str→Option Value},(∀v,(x,v)∉binds)→bindC kindOf binds m x=m x
 | [],_,_=>rfl
 | (n,v)::r,m,h=>by
   unfold bindC
   rw[tH fun w hw=>h w (List.mem_cons_of_mem _ hw)]
   split
   ·rfl
   ·have:x≠n:=by rintro rfl;exact h v List.mem_cons_self
    simp [this]
theorem tI {kindOf:Str→Option NameKind} {x:Str} {v:Value}:∀{P:List Str} {vs:List Value} {i:Nat} {m:Str→Option Value},P.Nodup→P[i]? =some x→vs[i]? =some v→kindOf x=some .local→
  bindL kindOf (P.zip vs) m x=some v
 | [],_,_,_,_,h,_,_=>by simp at h
 |_::_,[],_,_,_,_,h,_=>by simp at h
 |p::P,w::vs,0,m,nd,h1,h2,hk=>by
  simp at h1 h2;subst h1;subst h2
  show bindL kindOf ((p,w)::P.zip vs) m p=_
  unfold bindL
  rw[tG fun v hv=>(List.nodup_cons.mp nd).1 (List.of_mem_zip hv).1,if_pos hk]
  simp
 |p::P,w::vs,i+1,m,nd,h1,h2,hk=>by
  show bindL kindOf ((p,w)::P.zip vs) m x=_
  unfold bindL
  exact tI (i:=i) (List.nodup_cons.mp nd).2 (by simpa using h1) (by simpa using h2) hk
theorem tK {kindOf:Str→Option NameKind} {x:Str} {v:Value}:∀{P:List Str} {vs:List Value} {i:Nat} {m:Str→Option Value},P.Nodup→P[i]? =some x→vs[i]? =some v→kindOf x≠some .local→
  bindC kindOf (P.zip vs) m x=some v
 | [],_,_,_,_,h,_,_=>by simp at h
 |_::_,[],_,_,_,_,h,_=>by simp at h
 |p::P,w::vs,0,m,nd,h1,h2,hk=>by
  simp at h1 h2;subst h1;subst h2
  show bindC kindOf ((p,w)::P.zip vs) m p=_
  unfold bindC
  rw[tH fun v hv=>(List.nodup_cons.mp nd).1 (List.of_mem_zip hv).1,if_neg hk]
  simp
 |p::P,w::vs,i+1,m,nd,h1,h2,hk=>by
  show bindC kindOf ((p,w)::P.zip vs) m x=_
  unfold bindC
  exact tK (i:=i) (List.nodup_cons.mp nd).2 (by simpa using h1) (by simpa using h2) hk
def start (N:List Str) (vs:List V):St:=vs.map some++List.replicate (N.length - vs.length) none
def jz (CX:BE) (P:Program) (w:World) (K:PySem.W.Frag) (mg:Str→Option Value) (base:Heap) (N:List Str) (qual:Str) (scope:Scope) (f:Addr) (cd:Value) (A:Around) (outer:List Env) (s:Shared) (H:Hp) (E:XK):Cx where
 prog:=P
 w:=w
 K:=K
 mg:=mg
 base:=base
 A:=A.deeper (envOfC qual scope s.heap.objs.size f cd)
 N:=N
 s₀:=s
 H₀:=H
 env:=envOfC qual scope s.heap.objs.size f cd
 outer:=outer
 stack:=envOfC qual scope s.heap.objs.size f cd::outer
 ex:=[]
 calm:=true
 fn:=fun _=>true
 pn:=[]
 xe:=fun e s'=>wpAny (model P w) (A.deeper (envOfC qual scope s.heap.objs.size f cd)) (leaving (envOfC qual scope s.heap.objs.size f cd) e) (fun _ R'=>CX outer H s E e R') (fun e' R'=>CX outer H s E e' R') s'
theorem x3 {sc:Scope} {n:Nat} {x:Str} (h:sc.names.lookup x=some .cell):∃c,(cellsFrom n sc.names []).lookup x=some c:=by
 have q:=PySem.W.cellsFrom_some sc.names n [] (.inl h)
 exact Option.isSome_iff_exists.mp q
theorem Dt {CX:BE} {P:Program} {w:World} {K:PySem.W.Frag} {mg:Str→Option Value} {base:Heap} {N ps:List Str} {qual:Str} {scope:Scope} {f:Addr} {cd:Value} {A:Around} {outer:List Env} {s s1:Shared} {H:Hp} {E:XK} {us:List Value} {vs:List V}
  (S:ax N ps scope) (hd:A.handled=none) (e0:Ad P w K mg base A outer s H) (hl:vs.length=ps.length) (r:Vals vs us)
  (x:InCallC s s.heap.objs.size (bindL (envOfC qual scope s.heap.objs.size f cd).kindOf (ps.zip us) fun _=>none) (cellsFrom (s.heap.objs.size+1) scope.names []) (bindC (envOfC qual scope s.heap.objs.size f cd).kindOf (ps.zip us) fun _=>none) s1):
  Inv (jz CX P w K mg base N qual scope f cd A outer s H E) [] (start N vs) H s1:=by
 have iX:ps.length≤N.length:=by have:=congrArg List.length S.pre;rw[List.length_take] at this;omega
 obtain⟨h1,tk,rfl,hk⟩:=x.done
 have Sa:∀b:Addr,b∉(jz CX P w K mg base N qual scope f cd A outer s H E).ex:=fun b z=>absurd (show b∈([]:List Addr) from z) (by simp)
 refine⟨⟨e0.mod,S.kind,rfl,rfl,Nat.le_refl _,fun y z c h1 h2=>?_,fun y hy=>?_,fun y c _ h=>?_,fun _=>hd,Around.frames_deeper e0.frames, .inr ⟨rfl,rfl⟩,fun b z=>absurd z (Sa b),e0.bs,e0.Dp,fun b _ _=>Sa b,fun b z=>absurd z (Sa b),e0.lH,e0.Fw⟩,
  rfl,e0.bare,Un.kept hk,⟨_,x.toInCall.ns,fun i y v h1 h2 h3=>?_⟩,fun y c h=>⟨_,x.cell y c h⟩,e0.aU.fresh (Nat.le_refl _),fun y c h=>?_,fun p hp=>absurd (show p∈([]:List (Addr×Obj)) from hp) (by simp),e0.aU.kept hk,?_⟩
 ·exact name_of_addr x.apart (PySem.mem_of_lookup h1) (PySem.mem_of_lookup h2)
 ·have hy:scope.names.lookup y=some .cell∨scope.names.lookup y=some .free:=hy
  rcases hy with hy|hy
  ·exact x3 hy
  ·exact absurd rfl (S.N7 _ (PySem.mem_of_lookup hy))
 ·exact Nat.le_of_lt (x.above y c (PySem.mem_of_lookup h))
 ·have hi:i<vs.length:=by
   unfold start at h2
   by_cases hi:i<vs.length
   ·exact hi
   ·rw[List.getElem?_append_right (by simpa using hi)] at h2
    rw[List.getElem?_replicate] at h2
    split at h2<;>cases h2
  have ha:vs[i]? =some v:=by
   unfold start at h2
   rw[List.getElem?_append_left (by simpa using hi),List.getElem?_map] at h2
   cases e:vs[i]? with
   |none=>rw[e] at h2;cases h2
   |some a=>rw[e] at h2;cases h2;rfl
  obtain⟨u,hu,rv⟩:=r.get ha
  have hp:ps[i]? =some y:=by
   rw[←S.pre,List.getElem?_take_of_lt (by omega)];exact h1
  have ndP:ps.Nodup:=by rw[←S.pre];exact S.nd.sublist (List.take_sublist _ _)
  refine⟨u,rv,?_⟩
  rcases S.par y (List.mem_of_getElem? hp) with k|k
  ·exact .inl ⟨k,tI ndP hp hu k⟩
  ·obtain⟨c,e⟩:=x3 (n:=s.heap.objs.size+1) k
   refine .inr ⟨.inl k,c,e,?_⟩
   have q:=x.cell y c e
   rw[tK ndP hp hu (by show scope.names.lookup y≠_;rw[k];decide)] at q
   exact q
 ·exact e0.aU.fresh (Nat.le_of_lt (x.above y c (PySem.mem_of_lookup h)))
 ·unfold start
  show _=N.length
  rw[List.length_append,List.length_map,List.length_replicate]
  omega
theorem fn_of {CX:BE} {P:Program} {w:World} {K:PySem.W.Frag} {mg:Str→Option Value} {base:Heap} {k:Nat} {f:Addr} {name qual:Str} {params:Arguments} {body:List Stmt} {scope:Scope} {dV kV doc pm bj ct oc:Value} {an od:Option Addr}
  {sP:Array (Option Value)} {N ps:List Str} {sp:Sp} (lk:K.lookup f=some ⟨oc,od, .func (PySem.W.fnOf name qual params body scope dV kV doc pm an bj ct),sP⟩) (pG:PySem.W.codeIn K bj qual=true) (S:ax N ps scope)
  (len:∀vs H Q E,sp vs H Q E→vs.length=ps.length)
  (dv:∀(A:Around) (outer:List Env) (s:Shared) (H:Hp) (vs:List V) (Q:VK) (E:XK),cV k (A.deeper (envOfC qual scope s.heap.objs.size f bj))→sp vs H Q E→
   ∃t,lU (jz CX P w K mg base N qual scope f bj A outer s H E) body t∧t { nx:=fun _ H'=>Q .cU H',rt:=Q } (start N vs) H):
  fu P w K mg base CX (k+1) f (PySem.W.fnOf name qual params body scope dV kV doc pm an bj ct) ps sp:=by
 refine⟨len,fun A outer s H args us vs Q E hr e0 hb r BF=>?_⟩
 have hl:=len _ _ _ _ BF
 have KX:K.In s.heap:=e0.mod.gy.keeps fun b o e=>(e0.bs b o e).1
 have lim:s.heap.NoLimit:=e0.mod.nolimit.keeps fun b o e=>(e0.bs b o e).1
 have Sb:∀y∈ps.zip us,scope.names.lookup y.1=some .local∨(scope.names.lookup y.1=some .cell∧((cellsFrom (s.heap.objs.size+1) scope.names []).lookup y.1).isSome=true):=fun⟨n,v⟩ hy=>by
  rcases S.par n (List.of_mem_zip hy).1 with q|q
  ·exact .inl q
  ·exact .inr ⟨q,PySem.W.cellsFrom_some _ _ _ (.inl q)⟩
 refine codeAny_call_function hr.depth (KX _ _ lk) rfl S.co S.gen rfl (PySem.W.codeRec_of KX pG) (hb _ _ _ _ ?_)
 refine wpAny_newFunctionEnv_cells S.kind Sb fun env he s1 x=>?_
 subst he
 refine⟨lim.keeps x.toInCall.keep,codeAny_func ?_⟩
 obtain⟨t,ht,hq⟩:=dv A outer s H vs Q E (hr.deeper _) BF
 have I:Inv (jz CX P w K mg base N qual scope f bj A outer s H E) [] (start N vs) H s1:=Dt S hr.hd e0 hl r x
 refine wpAny_mono (ht [] s1 (start N vs) H _ I hq) (fun fl s' hs=>?_) fun e s' hs=>hs
 have fin:∀{σ':St} {H':Hp} {v:V} {u:Value},Inv (jz CX P w K mg base N qual scope f bj A outer s H E) [] σ' H' s'→RelV v u→Q v H'→CE outer P w H s Q u s':=
  fun {σ' H' v u} J rv q=>⟨v,H',J.os,J.bare,J.base,J.aU,rv,q⟩
 cases fl with
 |ret u=>
  obtain⟨v,σ',H',J,rv,q⟩:=hs
  exact fin J rv q
 |next=>
  obtain⟨σ',H',J,q⟩:=hs
  exact fin (v:=V.cU) (u:=Value.none) J rfl q
 |brk=>
  obtain⟨_,_,_,q⟩:=hs
  exact False.elim q
 |cont=>
  obtain⟨_,_,_,q⟩:=hs
  exact False.elim q
end L2
namespace L2
open PySem PySem.Spec PyProof.Rows
section
variable {X:Cx} {x:Str} {p pos:Pos} {e:Expr} {es:List Expr} {t:TA} {id T:String} {r:List V→Hp→VK→Prop}
def tCB (r:List V→Hp→VK→Prop) (t:TA):TE:=fun σ H Q=>t σ H fun vs H1=>r vs H1 Q
theorem bw (hc:gD X (.builtin id) r) (hg:Gl X x) (hm:X.mg x=none) (hv:bootBuiltins x=some (.builtin id)) (ha:PA X (e::es) t) (hn:x≠"__name__" :=by decide) (FH:(x==("__debug__" :Str))=false:=by decide)
  (he:starEach (e::es) X.env=(false,eval e X.env)::starEach es X.env:=by rfl) (iX:(backTo pos (starEach es X.env)).any (·.1)=false:=by rfl):PE X (.Call (.Name x p) (e::es) [] pos) (tCB r t):=by
 intro pins s σ H Q I h
 refine wpAny_Call_Name_kw (nZ I hg hm hv ?_ hn FH)
 exact PyProof.Rows.callWith_builtin1 (bZ (ha pos pins s σ H _ I h) fun us s1 ⟨vs,H1,I1,r1,q1⟩=>hc pins s1 σ H1 vs us Q I1 r1 q1) he iX
theorem bK (hc:gD X (.type T) r) (hg:Gl X x) (hm:X.mg x=none) (hv:bootBuiltins x=some (.type T)) (ha:PA X (e::es) t) (hn:x≠"__name__" :=by decide) (FH:(x==("__debug__" :Str))=false:=by decide)
  (he:starEach (e::es) X.env=(false,eval e X.env)::starEach es X.env:=by rfl) (iX:(backTo pos (starEach es X.env)).any (·.1)=false:=by rfl):PE X (.Call (.Name x p) (e::es) [] pos) (tCB r t):=by
 intro pins s σ H Q I h
 refine wpAny_Call_Name_kw (nZ I hg hm hv ?_ hn FH)
 exact PyProof.Rows.callWith_type1 (bZ (ha pos pins s σ H _ I h) fun us s1 ⟨vs,H1,I1,r1,q1⟩=>hc pins s1 σ H1 vs us Q I1 r1 q1) he iX
end
end L2
namespace L2
open PySem PySem.Spec PyProof.Rows
section
variable {κ:Type} [DecidableEq κ]
def b7 (kvs:List (κ×V)) (k:κ):Option V:=(kvs.find? fun kv=>decide (kv.1=k)).map (·.2)
def putK (kvs:List (κ×V)) (k:κ) (v:V):List (κ×V):=
 if (kvs.any fun kv=>decide (kv.1=k))=true then kvs.map (fun kv=>if kv.1=k then (kv.1,v) else kv) else kvs++[(k,v)]
theorem cO {p:κ×V} {r:List (κ×V)} {k:κ} (e:p.1=k):b7 (p::r) k=some p.2:=by simp [b7,List.find?_cons,e]
theorem cP {p:κ×V} {r:List (κ×V)} {k:κ} (e:¬p.1=k):b7 (p::r) k=b7 r k:=by simp [b7,List.find?_cons,e]
theorem fw (k:κ):∀kvs:List (κ×V),(kvs.any fun kv=>decide (kv.1=k))=(b7 kvs k).isSome
 | []=>rfl
 |p::r=>by
  rw[List.any_cons]
  by_cases e:p.1=k
  ·simp only [cO e,decide_eq_true e,Bool.true_or,Option.isSome_some]
  ·rw[cP e,decide_eq_false e,Bool.false_or];exact fw k r
theorem x4 (k j:κ) (y:V):∀kvs:List (κ×V),b7 (kvs.map fun kv=>if kv.1=k then (kv.1,y) else kv) j=(b7 kvs j).map fun x=>if j=k then y else x
 | []=>rfl
 |p::r=>by
  have ih:=x4 k j y r
  rw[List.map_cons]
  by_cases h:p.1=k
  ·rw[if_pos h]
   by_cases e:p.1=j
   ·rw[cO (p:=(p.1,y)) e,cO e,Option.map_some,if_pos (e.symm.trans h)]
   ·rw[cP (p:=(p.1,y)) e,cP e,ih]
  ·rw[if_neg h]
   by_cases e:p.1=j
   ·rw[cO (p:=p) e,cO e,Option.map_some,if_neg (fun z=>h (e.trans z))]
   ·rw[cP (p:=p) e,cP e,ih]
theorem tL (k j:κ) (y:V):∀kvs:List (κ×V),b7 kvs k=none→b7 (kvs++[(k,y)]) j=if j=k then some y else b7 kvs j
 | [],_=>by
   by_cases e:k=j
   ·rw[if_pos e.symm];exact cO (p:=(k,y)) e
   ·rw[if_neg (fun z=>e z.symm)];exact cP (p:=(k,y)) e
 |p::r,hn=>by
  rw[List.cons_append]
  have hk:¬p.1=k:=fun z=>by rw[cO z] at hn;cases hn
  rw[cP hk] at hn
  have ih:=tL k j y r hn
  by_cases e:p.1=j
  ·rw[cO e,cO e,if_neg (fun z=>hk (e.trans z))]
  ·rw[cP e,cP e,ih]
theorem FJ (kvs:List (κ×V)) (k j:κ) (y:V):b7 (putK kvs k y) j=if j=k then some y else b7 kvs j:=by
 unfold putK
 by_cases a:(kvs.any fun kv=>decide (kv.1=k))=true
 ·rw[if_pos a,x4]
  rw[fw] at a
  by_cases e:j=k
  ·obtain⟨x,hx⟩:=Option.isSome_iff_exists.mp a
   rw[if_pos e,e,hx,Option.map_some,if_pos rfl]
  ·rw[if_neg e]
   cases b7 kvs j with
   |none=>rfl
   |some x=>rw[Option.map_some,if_neg e]
 ·rw[if_neg a]
  refine tL k j y kvs ?_
  rw[fw] at a
  cases q:b7 kvs k with
  |none=>rfl
  |some x=>rw[q] at a;exact(a rfl).elim
theorem bY (kvs:List (κ×V)) (k:κ) (v:V):(putK kvs k v).length≤kvs.length+1:=by
 unfold putK
 split
 ·rw[List.length_map];omega
 ·rw[List.length_append,List.length_cons,List.length_nil];omega
theorem mx {kvs:List (κ×V)} {k:κ} (v:V) (h:b7 kvs k=none):putK kvs k v=kvs++[(k,v)]:=by
 unfold putK
 rw[fw,h]
 exact if_neg (by decide)
theorem iw.Du {o:Option V} {u:Option Value} (r:iw o u):o.isSome=u.isSome:=by
 cases o with
 |none=>cases u with
  |none=>rfl
  |some _=>exact(show False from r).elim
 |some _=>cases u with
  |none=>exact(show False from r).elim
  |some _=>rfl
theorem iw.getD {o:Option V} {u:Option Value} {d:V} {d':Value} (r:iw o u) (rd:RelV d d'):RelV (o.getD d) (u.getD d'):=by
 cases o with
 |none=>cases u with
  |none=>exact rd
  |some _=>exact(show False from r).elim
 |some _=>cases u with
  |none=>exact(show False from r).elim
  |some _=>exact r
theorem KV.val {kvs:List (κ×V)} {vs:List (κ×Value)} (r:KV kvs vs) (k:κ):iw (b7 kvs k) (valueAt vs k):=by
 unfold KV at r
 induction r with
 |nil=>exact True.intro
 | @cons p q ps qs h t ih=>
   obtain⟨h1,h2⟩:=h
   by_cases e:p.1=k
   ·have e':q.1=k:=h1.symm.trans e
    have b:valueAt (q::qs) k=some q.2:=by simp [valueAt,List.find?_cons,e']
    rw[cO e,b];exact h2
   ·have e':¬q.1=k:=fun z=>e (h1.trans z)
    have b:valueAt (q::qs) k=valueAt qs k:=by simp [valueAt,List.find?_cons,e']
    rw[cP e,b];exact ih
theorem KV.any {kvs:List (κ×V)} {vs:List (κ×Value)} (r:KV kvs vs) (k:κ):(kvs.any fun kv=>decide (kv.1=k))=vs.any fun kv=>decide (kv.1=k):=by
 unfold KV at r
 induction r with
 |nil=>rfl
 |cons h t ih=>rw[List.any_cons,List.any_cons,ih,h.1]
theorem KV.N8 {kvs:List (κ×V)} {vs:List (κ×Value)} (r:KV kvs vs) (k:κ) {y:V} {u:Value} (ry:RelV y u):
  KV (kvs.map fun kv=>if kv.1=k then (kv.1,y) else kv) (vs.map fun kv=>if kv.1=k then (kv.1,u) else kv):=by
 unfold KV at r ⊢
 induction r with
 |nil=>exact .nil
 | @cons p q ps qs h t ih=>
   rw[List.map_cons,List.map_cons]
   refine .cons ?_ ih
   obtain⟨h1,h2⟩:=h
   by_cases e:p.1=k
   ·rw[if_pos e,if_pos (h1.symm.trans e)];exact⟨h1,ry⟩
   ·rw[if_neg e,if_neg (fun z=>e (h1.trans z))];exact⟨h1,h2⟩
theorem KV.put {kvs:List (κ×V)} {vs:List (κ×Value)} (r:KV kvs vs) (k:κ) {y:V} {u:Value} (ry:RelV y u):KV (putK kvs k y) (stored vs k u):=by
 unfold putK stored
 rw[r.any k]
 by_cases e:(vs.any fun kv=>decide (kv.1=k))=true
 ·rw[if_pos e,if_pos e];exact r.N8 k ry
 ·rw[if_neg e,if_neg e];exact Paired.snoc r ⟨rfl,ry⟩
theorem KV.keys {kvs:List (κ×V)} {vs:List (κ×Value)} (r:KV kvs vs):kvs.map (·.1)=vs.map (·.1):=by
 unfold KV at r
 induction r with
 |nil=>rfl
 |cons h t ih=>rw[List.map_cons,List.map_cons,ih,h.1]
theorem KV.length {kvs:List (κ×V)} {vs:List (κ×Value)} (r:KV kvs vs):kvs.length=vs.length:=Paired.length r
end
theorem tM {P:Program} {w:World} {k:Key} {u:Value} (r:RelV (kV k) u):(bF P w).is k u=true:=by
 cases k with
 |inl i=>obtain⟨t,e⟩:=(show∃t,u=Value.int i t from r);subst e;exact xU P w i t
 |inr x=>obtain⟨t,e⟩:=(show∃t,u=Value.str x t from r);subst e;exact xV P w x t
theorem items_are {P:Program} {w:World}:∀{ks:List Key} {us:List Value},Vals (ks.map kV) us→ItemsAre (bF P w) ks us
 | [],_,r=>by rw[List.map_nil] at r;cases r;exact .nil
 |k::ks,_,r=>by
  rw[List.map_cons] at r
  cases r with
  |cons h t=>exact .cons (tM h) (items_are t)
abbrev KT (H:Hp):List (List Key×V)→List (List Key×Addr×Value)→Prop:=Paired fun p q=>p.1=q.1∧H q.2.1=some (.tup (p.1.map kV))∧RelV p.2 q.2.2
theorem KT.val {H:Hp} {kvs:List (List Key×V)} {xs:List (List Key×Addr×Value)} (r:KT H kvs xs) (k:List Key):iw (b7 kvs k) ((atKey xs k).map (·.2)):=by
 induction r with
 |nil=>exact True.intro
 | @cons p q ps qs h t ih=>
   obtain⟨h1,_,h2⟩:=h
   by_cases e:p.1=k
   ·have e':q.1=k:=h1.symm.trans e
    have b:atKey (q::qs) k=some q.2:=by simp [atKey,List.find?_cons,e']
    rw[cO e,b];exact h2
   ·have e':¬q.1=k:=fun z=>e (h1.trans z)
    have b:atKey (q::qs) k=atKey qs k:=by simp [atKey,List.find?_cons,e']
    rw[cP e,b];exact ih
theorem KT.N8 {H:Hp} {kvs:List (List Key×V)} {xs:List (List Key×Addr×Value)} (r:KT H kvs xs) (k:List Key) {y:V} {u:Value} (ry:RelV y u):
  KT H (kvs.map fun kv=>if kv.1=k then (kv.1,y) else kv) (xs.map (putAt k u)):=by
 induction r with
 |nil=>exact .nil
 | @cons p q ps qs h t ih=>
   rw[List.map_cons,List.map_cons]
   refine .cons ?_ ih
   obtain⟨h1,h2,h3⟩:=h
   unfold putAt
   by_cases e:p.1=k
   ·rw[if_pos e,if_pos (h1.symm.trans e)];exact⟨h1,h2,ry⟩
   ·rw[if_neg e,if_neg (fun z=>e (h1.trans z))];exact⟨h1,h2,h3⟩
theorem KT.put {H:Hp} {kvs:List (List Key×V)} {xs:List (List Key×Addr×Value)} (r:KT H kvs xs) (k:List Key) {b:Addr} {y:V} {u:Value} (hb:H b=some (.tup (k.map kV))) (ry:RelV y u):
  KT H (putK kvs k y) (storedH xs k b u):=by
 have e:(kvs.any fun kv=>decide (kv.1=k))=(atKey xs k).isSome:=by
  rw[fw,(r.val k).Du,Option.isSome_map]
 unfold putK storedH
 rw[e]
 by_cases q:(atKey xs k).isSome=true
 ·rw[if_pos q,if_pos q];exact r.N8 k ry
 ·rw[if_neg q,if_neg q];exact Paired.snoc r ⟨rfl,hb,ry⟩
theorem KT.keeps {H H':Hp} {kvs:List (List Key×V)} {xs:List (List Key×Addr×Value)} (r:KT H kvs xs) (ht:∀b ys,H b=some (.tup ys)→H' b=some (.tup ys)):KT H' kvs xs:=
 Paired.NP r fun _ _ z=>⟨z.1,ht _ _ z.2.1,z.2.2⟩
section
variable {P:Program} {w:World} {H:Hp} {h:Heap} {a:Addr}
theorem MA {u:HO} (ok:j7 P w H h) (e:Rd H a u):cq P w H h a u:=e.ok ok
theorem mz {kvs:List (Key×V)} (ok:j7 P w H h) (e:Rd H a (.dK kvs)):kvs.length≤sizeLine∧(a==sysModules)=false∧∃vs,KV kvs vs∧h.DictOf (bF P w) a vs:=
 show cq P w H h a (.dK kvs) from MA ok e
theorem qJ {kvs:List (Key×V)} (ok:j7 P w H h) (e:H a=some (.dK kvs)):kvs.length≤sizeLine∧(a==sysModules)=false∧∃vs,KV kvs vs∧h.DictOf (bF P w) a vs:=mz ok (.inl e)
theorem key_of {ks:List Key} (ok:j7 P w H h) (e:H a=some (.tup (ks.map kV))):(tupleKind (bF P w)).is h ks a:=by
 obtain⟨_,its,r,o,h1,h2,n,h3⟩:=(show cq P w H h a (.tup (ks.map kV)) from ok a _ e)
 exact⟨o,its.toArray,n,h1,h2,h3,by simpa using items_are r⟩
theorem x5 {kvs:List (List Key×V)} (ok:j7 P w H h) (e:Rd H a (.dT kvs)):kvs.length≤sizeLine∧(a==sysModules)=false∧
  ∃xs,KT H kvs xs∧h.DictOfH (tupleKind (bF P w)) a xs:=by
 obtain⟨z,y,xs,r,o,es,ep,h1,h2,h3,h4,h5⟩:=(show cq P w H h a (.dT kvs) from MA ok e)
 refine⟨z,y,xs,r,o,es,ep,h1,h2,h3,h4,fun x hx=>?_,h5⟩
 have all:∀{l:List (List Key×V)} {m:List (List Key×Addr×Value)},KT H l m→∀x∈m,(tupleKind (bF P w)).is h x.1 x.2.1:=by
  intro l m q
  induction q with
  |nil=>intro x hx;exact nomatch hx
  | @cons p q ps qs hq t ih=>
    intro x hx
    rcases List.mem_cons.mp hx with e|hx
    ·subst e
     exact key_of ok (by rw[←hq.1];exact hq.2.1)
    ·exact ih x hx
 exact all r x hx
theorem Sd {kvs:List (List Key×V)} (ok:j7 P w H h) (e:H a=some (.dT kvs)):kvs.length≤sizeLine∧(a==sysModules)=false∧
  ∃xs,KT H kvs xs∧h.DictOfH (tupleKind (bF P w)) a xs:=x5 ok (.inl e)
end
def gj (H:Hp) (a:Addr) (y:V) (r:Option V):Prop:=
 (∃kvs k,Rd H a (.dK kvs)∧y=kV k∧r=b7 kvs k)∨∃kvs k b,Rd H a (.dT kvs)∧y= .ref b∧H b=some (.tup (k.map kV))∧r=b7 kvs k
def jf (H:Hp) (a:Addr) (y v:V) (H':Hp):Prop:=
 (∃kvs k,H a=some (.dK kvs)∧y=kV k∧kvs.length<sizeLine∧H'=upd H a (.dK (putK kvs k v)))∨
 ∃kvs k b,H a=some (.dT kvs)∧y= .ref b∧H b=some (.tup (k.map kV))∧kvs.length<sizeLine∧H'=upd H a (.dT (putK kvs k v))
theorem gj.k {H:Hp} {a:Addr} {kvs:List (Key×V)} {k:Key} (e:H a=some (.dK kvs)):gj H a (kV k) (b7 kvs k):= .inl ⟨kvs,k, .inl e,rfl,rfl⟩
theorem jf.k {H:Hp} {a:Addr} {kvs:List (Key×V)} {k:Key} {v:V} (e:H a=some (.dK kvs)) (hl:kvs.length<sizeLine):jf H a (kV k) v (upd H a (.dK (putK kvs k v))):= .inl ⟨kvs,k,e,rfl,hl,rfl⟩
section
variable {X:Cx} {pins:List (Addr×Obj)} {σ:St} {H:Hp} {s:Shared} {a:Addr} {y v:V} {u r:Value} {o:Option V} {A:Around} {E:Value→Shared→Prop}
theorem Inv.big (I:Inv X pins σ H s):sysModules<s.heap.objs.size:=by
 have h:mainGlobals<s.heap.objs.size:=(I.mod.glob.keeps I.bk).lt
 exact Nat.lt_trans (by decide) h
theorem Dv {Q:Value→Shared→Prop} (hu:A.units+1<cLine) (I:Inv X pins σ H s) (g:gj H a y (some v)) (ry:RelV y u) (h:∀w' s',Inv X pins σ H s'→RelV v w'→Q w' s'):
  wpAny (model X.prog X.w) A (getItem (.ref a) u) Q E s:=by
 rcases g with ⟨kvs,k,e,ey,l⟩ | ⟨kvs,k,b,e,ey,eb,l⟩
 ·subst ey
  obtain⟨z,hd,vs,rel,dd⟩:=mz I.aU e
  obtain⟨w',hw,FK⟩:=iw.some_of (v:=v) (o:=valueAt vs k) (by rw[l];exact rel.val k)
  exact wpAny_getItem_of (tM ry) dd.mapOf hw (h w' _ (I.tok _) FK)
 ·subst ey
  cases (show u=Value.ref b from ry)
  obtain⟨z,hd,xs,rel,dd⟩:=x5 I.aU e
  obtain⟨w',hw,FK⟩:=iw.some_of (v:=v) (o:=(atKey xs k).map (·.2)) (by rw[l];exact rel.val k)
  obtain⟨p,hp,FL⟩:=Option.map_eq_some_iff.mp hw
  refine wpAny_getItem_heap (tupleKind_room_in1 hu) (key_of I.aU eb) dd hp ?_
  rw[FL]
  exact h w' _ (I.tok _) FK
theorem pQ {h':Heap} {t':Nat} {ob:HO} (I:Inv X pins σ H s) (mu:RC (H a)) (hs:Heap.SameBut a s.heap h') (he:∃q,h'.get? a=some q) (new:cq X.prog X.w (upd H a ob) h' a ob):
  Inv X pins σ (upd H a ob) { s with heap:=h',toks:=t' }:=
 I.write (x:=a) (e:=a) mu (.inl rfl) (fun b q hb z=>(hs.2 b hb).trans z) he new
theorem qK {P:Program} {w:World} {H':Hp} {h':Heap} {kvs:List (Key×V)} {vs:List (Key×Value)} (z:kvs.length≤sizeLine) (hd:(a==sysModules)=false) (rel:KV kvs vs) (dd:h'.DictOf (bF P w) a vs):
  cq P w H' h' a (.dK kvs):=⟨z,hd,vs,rel,dd⟩
theorem Dw {H':Hp} {Q:Unit→Shared→Prop} (hu:A.units+1<cLine) (I:Inv X pins σ H s) (g:jf H a y v H') (ry:RelV y u) (rv:RelV v r) (h:∀s',Inv X pins σ H' s'→Q () s'):
  wpAny (model X.prog X.w) A (setItem (.ref a) u r) Q E s:=by
 rcases g with ⟨kvs,k,e,ey,l,eH⟩ | ⟨kvs,k,b,e,ey,eb,l,eH⟩
 ·subst ey eH
  obtain⟨z,hd,vs,rel,dd⟩:=qJ I.aU e
  have hz:vs.length≤sizeLine:=by rw[←rel.length];exact z
  have hl:(putK kvs k v).length≤sizeLine:=by have:=bY kvs k v;omega
  refine wpAny_setItem_pairs (hsz:=hz) (tM ry) dd fun h' Dx hs=>h _ ?_
  have he:∃q,h'.get? a=some q:=let ⟨q,_,_,hq,_⟩:=Dx;⟨q,hq⟩
  exact pQ I (by rw[e];exact True.intro) hs he (qK hl hd (rel.put k rv) Dx)
 ·subst ey eH
  cases (show u=Value.ref b from ry)
  obtain⟨z,hd,xs,rel,dd⟩:=Sd I.aU e
  have hz:xs.length≤sizeLine:=by rw[←Paired.length rel];exact z
  have hl:(putK kvs k v).length≤sizeLine:=by have:=bY kvs k v;omega
  refine wpAny_setItem_heap (hsz:=hz) (tupleKind_room_in1 hu) (key_of I.aU eb) dd fun h' Dx hs=>h _ ?_
  obtain⟨q,es,ep,hq,h2,h3,h4,_,h5⟩:=Dx
  refine pQ I (by rw[e];exact True.intro) hs ⟨q,hq⟩ ⟨hl,hd,_,(rel.put k eb rv).keeps fun c ys ec=>?_,q,es,ep,hq,h2,h3,h4,h5⟩
  rw[ah (cI ec e (fun z=>nomatch z))]
  exact ec
end
section
variable {X:Cx} {pins:List (Addr×Obj)} {σ:St} {H:Hp} {s:Shared} {a:Addr} {kvs:List (Key×V)} {k:Key} {u:Value} {A:Around} {E:Value→Shared→Prop}
theorem Se {Q:Value→Shared→Prop} (I:Inv X pins σ H s) (e:Rd H a (.dK kvs)) (h:∀t s',Inv X pins σ H s'→Q (.int kvs.length t) s'):wpAny (model X.prog X.w) A (call (.builtin "len") [.ref a]) Q E s:=by
 obtain⟨z,hd,vs,rel,dd⟩:=mz I.aU e
 refine call_len_dict hd dd (by rw[←rel.length];rw[sizeLine_eq] at z;omega) ?_
 rw[←rel.length]
 exact h _ _ (I.tok _)
end
def Sf (i:Expr):Prop:=∀ov iv,subscripted i false ov iv=operate [ov,iv] (getItem ov iv)
theorem J4 {prog:Program} {w:World} {A:Around} {E:Value→Shared→Prop} {s:Shared} {env:Env} {value slice:Expr} {pos:Pos} {T id:String} {Q:Value→Shared→Prop}
  (hl:typeLookup (.type T) "__getitem__" =pure (some (.builtin id))) (hs:Sf slice)
  (h:wpAny (model prog w) A (eval value env) (fun o s₁=>wpAny (model prog w) A (eval slice env) (fun i s₂=>s₂.TypeIs o T∧wpAny (model prog w) A (getItem o i) Q E s₂) E s₁) E s):
  wpAny (model prog w) A (eval (.Subscript value slice pos) env) Q E s:=by
 refine Subscript_ (wpAny_mono h (fun o s₁ h₁=>wpAny_mono h₁ (fun i s₂ h₂=>?_) fun _ _ x=>x) fun _ _ x=>x)
 obtain⟨hT,h₂⟩:=h₂
 unfold subscriptTail
 refine wpAny_bind ?_
 rw[getitemInPython_of_ne hT.not_modules]
 refine wpAny_bind (wpAny_specialOf hT hl ?_)
 have fin:wpAny (model prog w) A (subscripted slice false o i) (fun r s₃=>wpAny (model prog w) A (letTemporaryGo value o r >>= fun _=>pure r) Q E s₃) E s₂:=by
  rw[hs o i]
  exact wpAny_operating (wpAny_mono h₂ (fun r s₃ h₃=>wpAny_bind (wpAny_letTemporaryGo (wpAny_pure h₃))) fun _ _ x=>x)
 first
  |exact wpAny_pure (wpAny_bind fin)
  |exact wpAny_bind (wpAny_pure (wpAny_bind fin))
  |exact wpAny_bind fin
theorem x6 {X:Cx} {pins:List (Addr×Obj)} {σ:St} {H:Hp} {s:Shared} {a:Addr} {y:V} {o:Option V} (I:Inv X pins σ H s) (g:gj H a y o):s.TypeIs (.ref a) "dict" :=by
 rcases g with ⟨kvs,k,e,_,_⟩ | ⟨kvs,k,b,e,_,_,_⟩
 ·obtain⟨_,_,vs,_,dd⟩:=mz I.aU e
  exact dd.typeIs
 ·obtain⟨_,_,xs,_,dd⟩:=x5 I.aU e
  exact dd.typeIs
def FN (td ty:TE):TE:=fun σ H Q=>td σ H fun x H1=>ty σ H1 fun y H2=>∃a v,x= .ref a∧gj H2 a y (some v)∧Q v H2
def FO (td ty tv:TE):TS:=fun D σ H=>tv σ H fun v H1=>td σ H1 fun x H2=>ty σ H2 fun y H3=>∃a H4,x= .ref a∧jf H3 a y v H4∧D.nx σ H4
section
variable {X:Cx} {o i e value:Expr} {pos pos' sS:Pos} {td ty tv:TE}
theorem b6 (hu:X.A.units+1<cLine) (ho:PE X o td) (hi:PE X i ty) (hs:Sf i):PE X (.Subscript o i pos) (FN td ty):=by
 intro pins s σ H Q I h
 refine J4 PySem.F.slot_dict_getitem.lookup hs (bZ (ho pins s σ H _ I h) fun u s1 ⟨x,H1,I1,rx,q1⟩=>bZ (hi pins s1 σ H1 _ I1 q1) fun iv s2 ⟨y,H2,I2,ry,a,v,ex,g,q2⟩=>?_)
 subst ex
 obtain rfl:u=Value.ref a:=rx
 exact⟨x6 I2 g,Dv hu I2 g ry fun w' s3 I3 FK=>⟨v,H2,I3,FK,q2⟩⟩
theorem cQ (hu:X.A.units+1<cLine) (ho:PE X o td) (hi:PE X i ty) (hv:PE X value tv) (hs:swapsWith value (some (.Subscript o i pos')) pos.line X.env=pure false):
  PS X (.Assign [.Subscript o i pos'] value pos) (FO td ty tv):=by
 intro pins s σ H D I h
 refine wpAny_Assign_Subscript (bZ (hv pins s σ H _ I h) fun r s1 ⟨v,H1,I1,rv,q1⟩=>bZ (ho pins s1 σ H1 _ I1 q1) fun u s2 ⟨x,H2,I2,rx,q2⟩=>bZ (hi pins s2 σ H2 _ I2 q2) fun iv s3 ⟨y,H3,I3,ry,a,H4,ex,g,q3⟩=>?_) hs
 subst ex
 obtain rfl:u=Value.ref a:=rx
 exact Dw hu I3 g ry rv fun s4 I4=>⟨σ,H4,I4,q3⟩
end
theorem x8 {P:Program} {w:World} {H:Hp} (h:Heap) (hb:sysModules<h.objs.size):cq P w H (h.push { cls:= .type "dict",data:= .dict #[] }) h.objs.size (.dK []):=
 ⟨Nat.zero_le _,beq_eq_false_iff_ne.mpr (Ne.symm (Nat.ne_of_lt hb)),[], .nil,Heap.DictOf.new h⟩
def N9:TE:=fun _ H Q=>∀p,H p=none→Q (.ref p) (upd H p (.dK []))
section
variable {X:Cx} {pos:Pos}
theorem dw:PE X (.Dict [] [] pos) N9:=fun pins s σ H Q I h=>
 wpAny_Dict_empty ⟨.ref s.heap.objs.size,_,I.laid (a:=s.heap.objs.size) (o:= .dK []) (t':=s.toks) (fun _ _ q=>Heap.get?_push_of_some _ q) (Nat.le_refl _) (x8 s.heap I.big),rfl,h _ (I.aU.fresh (Nat.le_refl _))⟩
end
def Af:List (TE×TE)→St→Hp→(List (V×V)→Hp→Prop)→Prop
 | [],_,H,Q=>Q [] H
 | (tk,tv)::r,σ,H,Q=>tk σ H fun x H1=>tv σ H1 fun y H2=>Af r σ H2 fun ps H3=>Q ((x,y)::ps) H3
abbrev VV:List (V×V)→List (Value×Value)→Prop:=Paired fun p q=>RelV p.1 q.1∧RelV p.2 q.2
def YZ (X:Cx) (pos:Pos) (keys:List (Option Expr)) (values:List Expr) (J6:List (TE×TE)):Prop:=
 ∀(pins:List (Addr×Obj)) (s:Shared) (σ:St) (H:Hp) (Q:List (V×V)→Hp→Prop),Inv X pins σ H s→Af J6 σ H Q→
  wpAny (model X.prog X.w) X.A (evalPairs (pairTrees keys values X.env pos)) (fun vs s'=>∃ps H',Inv X pins σ H' s'∧VV ps vs∧Q ps H') X.xe s
theorem vB {X:Cx} {pos:Pos}:YZ X pos [] [] []:=fun pins s σ H Q I h=>pairTrees_nil_walk ⟨[],H,I, .nil,h⟩
theorem qL {X:Cx} {pos:Pos} {k v:Expr} {ks:List (Option Expr)} {vs:List Expr} {tk tv:TE} {J6:List (TE×TE)} (hk:PE X k tk) (hv:PE X v tv) (hr:YZ X pos ks vs J6):
  YZ X pos (some k::ks) (v::vs) ((tk,tv)::J6):=fun pins s σ H Q I h=>
 pairTrees_cons_walk (bZ (hk pins s σ H _ I h) fun u s1 ⟨x,H1,I1,rx,q1⟩=>bZ (hv pins s1 σ H1 _ I1 q1) fun w2 s2 ⟨y,H2,I2,ry,q2⟩=>
  bZ (hr pins s2 σ H2 _ I2 q2) fun ws s3 ⟨ps,H3,I3,rel,q3⟩=>⟨(x,y)::ps,H3,I3, .cons ⟨rx,ry⟩ rel,q3⟩)
def cu (kvs more:List (Key×V)):List (Key×V):=more.foldl (fun acc kv=>putK acc kv.1 kv.2) kvs
theorem KV.merge:∀{more:List (Key×V)} {rs:List (Key×Value)} {kvs:List (Key×V)} {vs:List (Key×Value)},KV more rs→KV kvs vs→KV (cu kvs more) (merged vs rs):=by
 intro more rs kvs vs r
 unfold KV at r
 induction r generalizing kvs vs with
 |nil=>intro q;exact q
 | @cons p q ps qs h t ih=>
   intro r0
   have e:KV (putK kvs p.1 p.2) (stored vs q.1 q.2):=by
    have:=r0.put p.1 h.2
    rw[←h.1];exact this
   exact ih e
theorem eG:∀(more kvs:List (Key×V)),(cu kvs more).length≤kvs.length+more.length
 | [],kvs=>by show kvs.length≤kvs.length+0;omega
 |p::r,kvs=>by
  have h1:=eG r (putK kvs p.1 p.2)
  have h2:=bY kvs p.1 p.2
  show (cu (putK kvs p.1 p.2) r).length≤_
  rw[List.length_cons];omega
theorem qM {P:Program} {w:World}:∀{kvs:List (Key×V)} {ws:List (Value×Value)},VV (kvs.map fun kv=>(kV kv.1,kv.2)) ws→∃rs,Carries (bF P w) ws rs∧KV kvs rs
 | [],_,r=>by rw[List.map_nil] at r;cases r;exact⟨[],True.intro, .nil⟩
 |p::kvs,_,r=>by
  rw[List.map_cons] at r
  cases r with
  | @cons a b as bs h t=>
    obtain⟨rs,c,q⟩:=qM (P:=P) (w:=w) t
    obtain⟨b1,b2⟩:=b
    exact⟨(p.1,b2)::rs,⟨tM h.1,rfl,c⟩, .cons ⟨rfl,h.2⟩ q⟩
def Sg (J6:List (TE×TE)):TE:=fun σ H Q=>∀p,H p=none→Af J6 σ (upd H p (.dK [])) fun ps H2=>H2 p=some (.dK [])∧∃kvs:List (Key×V),ps=kvs.map (fun kv=>(kV kv.1,kv.2))∧kvs.length≤15∧Q (.ref p) (upd H2 p (.dK (cu [] kvs)))
theorem vC {X:Cx} {pos:Pos} {keys:List (Option Expr)} {values:List Expr} {J6:List (TE×TE)} (h:YZ X pos keys values J6) (x9:keys.all (·.isSome)=true) (hl:keys.length=values.length) (h0:keys≠[])
  (h15:keys.length≤15):PE X (.Dict keys values pos) (Sg J6):=by
 intro pins s σ H Q I q
 have hn:=I.aU.fresh (Nat.le_refl s.heap.objs.size)
 have I1:=I.laid (a:=s.heap.objs.size) (o:= .dK []) (h':=s.heap.push { cls:= .type "dict",data:= .dict #[] }) (t':=s.toks) (fun _ _ q=>Heap.get?_push_of_some _ q) (Nat.le_refl _) (x8 s.heap I.big)
 refine wpAny_Dict_walk (knd:=bF X.prog X.w) x9 hl h0 h15 (bZ (h pins _ σ _ _ I1 (q _ hn)) fun ws s2 ⟨ps,H2,I2,rel,e,kvs,ep,lk,q2⟩=>?_)
 subst ep
 obtain⟨rs,c,rk⟩:=qM (P:=X.prog) (w:=X.w) rel
 obtain⟨z,hd,vs0,r0,dd⟩:=qJ I2.aU e
 cases r0
 refine⟨rs,c,dd,fun h' Dx hs=>⟨.ref s.heap.objs.size,_,?_,rfl,q2⟩⟩
 have hz:(cu [] kvs).length≤sizeLine:=by
  have h1:=eG kvs []
  rw[List.length_nil] at h1
  rw[sizeLine_eq];omega
 have he:∃q,h'.get? s.heap.objs.size=some q:=let ⟨q,_,_,hq,_⟩:=Dx;⟨q,hq⟩
 exact pQ I2 (by rw[e];exact True.intro) hs he (qK hz hd (rk.merge .nil) Dx)
structure M1 (X:Cx) (o:Expr) (m:Str) (apos:Pos) (e:Expr) (g9:Pos):Prop where
 base:attributeBase o m X.env (eval o X.env)=eval o X.env
 Z7:((backTo g9 (starEach [e] X.env)).all (fun x=>!x.1)&&(backToKw g9 (keywordEach [] X.env)).all (fun x=>x.1.isSome)
  &&decide (([e]:List Expr).length+([]:List Keyword).length+(if ([]:List Keyword).isEmpty then 0 else 1) <30))=true
 line:(apos.endLine==g9.line)=true
 trees:backTo g9 (starEach [e] X.env)=[(false,eval e X.env)]
structure M2 (X:Cx) (o:Expr) (m:Str) (apos:Pos) (e f:Expr) (g9:Pos):Prop where
 base:attributeBase o m X.env (eval o X.env)=eval o X.env
 Z7:((backTo g9 (starEach [e,f] X.env)).all (fun x=>!x.1)&&(backToKw g9 (keywordEach [] X.env)).all (fun x=>x.1.isSome)
  &&decide (([e,f]:List Expr).length+([]:List Keyword).length+(if ([]:List Keyword).isEmpty then 0 else 1) <30))=true
 line:(apos.endLine==g9.line)=true
 trees:backTo g9 (starEach [e,f] X.env)=[(false,eval e X.env),(false,eval f X.env)]
def Z8 (H:Hp) (a:Addr):Prop:=(∃kvs,Rd H a (.dK kvs))∨∃kvs,Rd H a (.dT kvs)
theorem FP {X:Cx} {pins:List (Addr×Obj)} {σ:St} {H:Hp} {s:Shared} {a:Addr} (I:Inv X pins σ H s) (d:Z8 H a):
  s.TypeIs (.ref a) "dict" ∧(∀b,Value.ref a= .ref b→∃ob,s.heap.get? b=some ob∧ob.dict=none)∧(a==sysModules)=false:=by
 rcases d with ⟨kvs,e⟩ | ⟨kvs,e⟩
 ·obtain⟨_,hd,vs,_,dd⟩:=mz I.aU e
  refine⟨dd.typeIs,fun b q=>?_,hd⟩
  cases q
  obtain⟨ob,_,_,h1,h2,_⟩:=dd
  exact⟨ob,h1,h2.2.1⟩
 ·obtain⟨_,hd,xs,_,dd⟩:=x5 I.aU e
  refine⟨dd.typeIs,fun b q=>?_,hd⟩
  cases q
  obtain⟨ob,_,_,h1,h2,_⟩:=dd
  exact⟨ob,h1,h2.2.1⟩
section
variable {X:Cx} {pins:List (Addr×Obj)} {σ:St} {H:Hp} {s:Shared} {a:Addr} {y d:V} {u r:Value} {o:Option V} {A:Around} {E:Value→Shared→Prop}
theorem Oa {Q:Value→Shared→Prop} (hu:A.units+1<cLine) (I:Inv X pins σ H s) (g:gj H a y o) (ry:RelV y u) (rd:RelV d r) (h:∀w' s',Inv X pins σ H s'→RelV (o.getD d) w'→Q w' s'):
  wpAny (model X.prog X.w) A (call (.builtin "dict.get") [.ref a,u,r]) Q E s:=by
 rcases g with ⟨kvs,k,e,ey,l⟩ | ⟨kvs,k,b,e,ey,eb,l⟩
 ·subst ey
  obtain⟨z,hd,vs,rel,dd⟩:=mz I.aU e
  refine call_meetsIn PySem.F.slot_dict_get dd.typeIs PySem.F.entry_dict_get (PySem.F.args_dict_get_3 _ _ _) (meets_dict_get_default (bF X.prog X.w) a (tM ry) hd r) ⟨_,dd.mapOf,h _ _ (I.tok _) ?_⟩
  rw[l]
  exact(rel.val k).getD rd
 ·subst ey
  cases (show u=Value.ref b from ry)
  obtain⟨z,hd,xs,rel,dd⟩:=x5 I.aU e
  refine call_meetsIn PySem.F.slot_dict_get dd.typeIs PySem.F.entry_dict_get (PySem.F.args_dict_get_3 _ _ _) (meetsH_dict_get_default (tupleKind (bF X.prog X.w)) a b hd r) ⟨tupleKind_room_in1 hu,k,xs,key_of I.aU eb,dd,h _ _ (I.tok _) ?_⟩
  rw[l]
  exact(rel.val k).getD rd
end
def Ag (td ty tx:TE):TE:=fun σ H Q=>td σ H fun x H1=>∃a,x= .ref a∧Z8 H1 a∧ty σ H1 fun y H2=>tx σ H2 fun z H3=>∃o,gj H3 a y o∧Q (o.getD z) H3
section
variable {X:Cx} {o e f:Expr} {apos g9:Pos} {td ty tx:TE}
theorem bR (hu:X.A.units+1<cLine) (ho:PE X o td) (he:PE X e ty) (hf:PE X f tx) (m:M2 X o "get" apos e f g9):PE X (.Call (.Attribute o "get" apos) [e,f] [] g9) (Ag td ty tx):=by
 intro pins s σ H Q I h
 refine wpAny_Call_method m.base m.Z7 m.line PySem.F.plainAttrs_dict PySem.F.slot_dict_get PySem.F.type_dict_get (bZ (ho pins s σ H _ I h) fun u s1 ⟨x,H1,I1,rx,a,ex,d,q1⟩=>?_)
 subst ex
 obtain rfl:u=Value.ref a:=rx
 obtain⟨t1,t2,_⟩:=FP I1 d
 refine⟨t1,t2,?_⟩
 rw[m.trees]
 refine Calls.callWith_builtin rfl (Calls.evalArgs_plain (Calls.spliced_cons (bZ (he pins s1 σ H1 _ I1 q1) fun iv s2 ⟨y,H2,I2,ry,q2⟩=>
  Calls.spliced_cons (bZ (hf pins s2 σ H2 _ I2 q2) fun fv s3 ⟨z,H3,I3,rz,ov,g,q3⟩=>Calls.spliced_nil ?_))))
 exact Oa hu I3 g ry rz fun w' s4 I4 FK=>⟨_,H3,I4,FK,q3⟩
end
section
variable {X:Cx} {pins:List (Addr×Obj)} {σ:St} {H:Hp} {s:Shared} {a:Addr} {kvs:List (Key×V)} {A:Around} {E:Value→Shared→Prop}
theorem FQ {Q:Value→Shared→Prop} (I:Inv X pins σ H s) (e:Rd H a (.dK kvs)) (h:∀p s',H p=none→Inv X pins σ (upd H p (.dK kvs)) s'→Q (.ref p) s'):wpAny (model X.prog X.w) A (call (.type "dict") [.ref a]) Q E s:=by
 obtain⟨z,hd,vs,rel,dd⟩:=mz I.aU e
 refine kt_call_dict hd dd (by rw[←rel.length];exact z) fun h' Dx hs=>?_
 refine h _ _ (I.aU.fresh (Nat.le_refl _)) (I.laid (a:=s.heap.objs.size) (o:= .dK kvs) (t':=s.toks) (fun b q hq=>?_) (Nat.le_refl _) (qK z (beq_eq_false_iff_ne.mpr (Ne.symm (Nat.ne_of_lt I.big))) rel Dx))
 exact(hs.2 b (Nat.ne_of_lt (Heap.lt_size hq))).trans (Heap.get?_push_of_some _ hq)
end
section
variable {X:Cx} {pins:List (Addr×Obj)} {σ:St} {H:Hp} {s:Shared} {a:Addr} {y:V} {u:Value} {A:Around} {E:Value→Shared→Prop}
end
end L2
namespace HT
open PySem PyProof.Rows
section
open PySem.SeqAt
open PySem.AutoSeq1 (wpAny_loadPart')
open PySem.MeetsSeq PySem.MeetsSeq2 PySem.MeetsSeq3
end
section
variable {prog:Program} {w:World} {A:Around} {E:Value→Shared→Prop} {s:Shared}
theorem J7 {t b:Addr} {vs ws:List Value} {Q:Value→Shared→Prop} (ht:IsTup s.heap t vs.toArray) (hb:IsTup s.heap b ws.toArray) (hv:vs≠[])
  (h1:ws=[]→Q (.ref t) s) (h2:ws≠[]→Q (.ref s.heap.objs.size) { s with heap:=s.heap.push { cls:= .type "tuple",data:= .seq (vs++ws).toArray } })
  (hsz:vs.length+ws.length≤sizeLine):wpAny (model prog w) A (binaryOp .Add (.ref t) (.ref b)) Q E s:=by
 obtain⟨⟨cls,dd,data,sl⟩,ho,hc,n,hd⟩:=id ht
 obtain⟨⟨cls2,Y0,data2,sl2⟩,Y1,Y2,n2,hd2⟩:=id hb
 simp only at hc hd Y2 hd2
 subst hc hd Y2 hd2
 have e:vs.toArray++ws.toArray=(vs++ws).toArray:=by simp
 by_cases hw:ws=[]
 ·exact concat_meets ⟨_,ho,rfl⟩ ⟨_,Y1,rfl⟩ noFill_tuple_add seq_tuple_add PySem.F.slot_tuple_add PySem.F.entry_tuple_add (PySem.F.args_tuple_add_2 _ _)
   (tuple_addW1 t b vs.toArray ws.toArray n n2 dd Y0 sl sl2 (by simpa using hv) (by simp [hw])) ⟨ho,Y1,h1 hw⟩
 ·refine concat_meets ⟨_,ho,rfl⟩ ⟨_,Y1,rfl⟩ noFill_tuple_add seq_tuple_add PySem.F.slot_tuple_add PySem.F.entry_tuple_add (PySem.F.args_tuple_add_2 _ _)
   (tuple_addW2 t b vs.toArray ws.toArray n n2 dd Y0 sl sl2 (by simpa using hv) (by simpa using hw) (by rw[List.size_toArray,List.size_toArray];exact hsz)) ⟨ho,Y1,?_⟩
  rw[e]
  exact h2 hw
end
end HT
namespace L2
open PySem PySem.Spec PyProof.Rows
abbrev TO:=St→Hp→(Option Int→Hp→Prop)→Prop
def PO (X:Cx) (e:Option Expr) (t:TO):Prop:=
 ∀(pins:List (Addr×Obj)) (s:Shared) (σ:St) (H:Hp) (Q:Option Int→Hp→Prop),Inv X pins σ H s→t σ H Q→
  wpAny (model X.prog X.w) X.A (evalPart e X.env) (fun u s'=>∃o H',Inv X pins σ H' s'∧IsPart u o∧Q o H') X.xe s
def Si (t:TE):TO:=fun σ H Q=>t σ H fun x H1=>∃i,x= .int i∧Q (some i) H1
theorem intsAre_of {ns:List Int}:∀{us:List Value},Vals (ns.map V.int) us→IntsAre us ns:=by
 induction ns with
 |nil=>intro us r;rw[List.map_nil] at r;cases r;exact .nil
 |cons n ns ih=>
  intro us r
  rw[List.map_cons] at r
  cases r with
  |cons r1 r2=>
   obtain⟨t,e⟩:=r1
   subst e
   exact .cons n t (ih r2)
section
variable {X:Cx} {e:Expr} {te:TE} {lo hi:Option Expr} {tl th:TO} {pos p2:Pos}
theorem iA (h:PE X e te):PO X (some e) (Si te):=by
 intro pins s σ H Q I hw
 rw[evalPart_some]
 refine bZ (h pins s σ H _ I hw) fun u s1 ⟨x,H1,I1,r1,q1⟩=>?_
 obtain⟨i,rfl,q⟩:=q1
 obtain⟨t,rfl⟩:=r1
 exact⟨some i,H1,I1, .int i t,q⟩
def SlR (X:Cx) (r:V→Option Int→Option Int→Hp→VK→Prop):Prop:=
 ∀(pins:List (Addr×Obj)) (s:Shared) (σ:St) (H:Hp) (x:V) (v vl vu:Value) (lo hi:Option Int) (sl:Addr) (Q:VK),Inv X pins σ H s→RelV x v→s.heap.IsSliceOf sl vl vu .none→IsPart vl lo→IsPart vu hi→r x lo hi H Q→
  ∃T id,typeLookup (.type T) "__getitem__" =pure (some (.builtin id))∧s.TypeIs v T∧wpAny (model X.prog X.w) X.A (getItem v (.ref sl)) (EP X pins σ Q) X.xe s
def tSl (r:V→Option Int→Option Int→Hp→VK→Prop) (te:TE) (tl th:TO):TE:=fun σ H Q=>te σ H fun x H1=>tl σ H1 fun l H2=>th σ H2 fun u H3=>r x l u H3 Q
theorem mB {r:V→Option Int→Option Int→Hp→VK→Prop} (hr:SlR X r) (he:PE X e te) (hl:PO X lo tl) (hu:PO X hi th):PE X (.Subscript e (.Slice lo hi none p2) pos) (tSl r te tl th):=by
 intro pins s σ H Q I h
 refine Subscript_ (bZ (he pins s σ H _ I h) fun v s1 ⟨x,H1,I1,r1,q1⟩=>?_)
 refine wpAny_Slice (bZ (hl pins s1 σ H1 _ I1 q1) fun vl s2 ⟨l,H2,I2,pl,q2⟩=>bZ (hu pins s2 σ H2 _ I2 q2) fun vu s3 ⟨u,H3,I3,pu,q3⟩=>?_)
 rw[evalPart_none]
 refine wpAny_pure ?_
 have I4:Inv X pins σ H3 { s3 with heap:=s3.heap.push { cls:= .type "slice",data:= .fields #[vl,vu, .none] } }:=I3.kept (t':=s3.toks) fun b ob q=>Heap.get?_push_of_some _ q
 obtain⟨T,id,hT,ht,hg⟩:=hr pins { s3 with heap:=s3.heap.push { cls:= .type "slice",data:= .fields #[vl,vu, .none] } } σ H3 x v vl vu l u s3.heap.objs.size Q I4 r1 (Heap.IsSliceOf.new ..) pl pu q3
 show wpAny (model X.prog X.w) X.A (subscriptTail e (.Slice lo hi none p2) v (.ref s3.heap.objs.size)) (EP X pins σ Q) X.xe { s3 with heap:=s3.heap.push { cls:= .type "slice",data:= .fields #[vl,vu, .none] } }
 exact tail_any (ops:=[.ref s3.heap.objs.size,v]) ht hT hg (by with_unfolding_all rfl)
def Sj (K:PySem.W.Frag):R2:=fun x y H Q=>∃a b xs ys,x= .ref a∧y= .ref b∧jc K H a xs∧jc K H b ys∧xs≠[]∧xs.length+ys.length≤sizeLine∧
 (ys=[]→Q (.ref a) H)∧(ys≠[]→∀p,H p=none→Q (.ref p) (upd H p (.tup (xs++ys))))
theorem Vals.vD {xs:List V} {us:List Value} (r:Vals xs us):us=[]↔xs=[]:=by
 cases r with
 |nil=>simp
 |cons _ _=>simp
theorem J8:n4 X (binaryOp .Add) (Sj X.K):=by
 intro pins s σ H x y v u Q I rx ry h
 obtain⟨a,b,xs,ys,rfl,rfl,ha,hb,hx,hz,q1,q2⟩:=h
 cases rx
 cases ry
 obtain⟨its,r1,p1,_⟩:=I.tuple ha
 obtain⟨ya,r2,p2,_⟩:=I.tuple hb
 refine HT.J7 p1 p2 (fun z=>hx (r1.vD.mp z)) (fun z=>⟨.ref a,H,I,rfl,q1 (r2.vD.mp z)⟩) (fun z=>?_) (by rw[←r1.length,←r2.length];exact hz)
 refine⟨.ref s.heap.objs.size,_,I.laid (t':=s.toks) (o:= .tup (xs++ys)) (fun b ob q=>Heap.get?_push_of_some _ q) (Nat.le_refl _) ?_,rfl,q2 (fun w=>z (r2.vD.mpr w)) _ (I.aU.fresh (Nat.le_refl _))⟩
 exact⟨by rw[List.length_append];exact hz,_,r1.append r2,IsTup.new _ _⟩
end
end L2
namespace L2
open PySem PySem.Spec PyProof.Rows
def Rf (n:Nat) (i:Int):Option Nat:=if 0≤i then (if i<n then some i.toNat else none) else if -(n:Int)≤i then some (i+n).toNat else none
def Ah {α:Type} (xs:List α) (i:Int):Option α:=(Rf xs.length i).bind fun j=>xs[j]?
theorem J9 {n:Nat} {i:Int} {j:Nat} (h:Rf n i=some j):seqIndex? i n=some j∧j<n∧ -(n:Int)≤i∧i<n:=by
 unfold Rf at h
 by_cases h0:0≤i
 ·rw[if_pos h0] at h
  by_cases h1:i<n
  ·rw[if_pos h1] at h
   have e:i.toNat=j:=Option.some.inj h
   exact⟨by rw[seqIndex_of h0 h1,e],by omega,by omega,h1⟩
  ·rw[if_neg h1] at h;cases h
 ·rw[if_neg h0] at h
  by_cases h1: -(n:Int)≤i
  ·rw[if_pos h1] at h
   have e:(i+n).toNat=j:=Option.some.inj h
   exact⟨by rw[seqIndex_neg (by omega) h1,e],by omega,h1,by omega⟩
  ·rw[if_neg h1] at h;cases h
theorem vE {α:Type} {xs:List α} {i:Int} {v:α} (h:Ah xs i=some v):∃j,seqIndex? i xs.length=some j∧xs[j]? =some v∧j<xs.length∧ -(xs.length:Int)≤i∧i<xs.length:=by
 unfold Ah at h
 cases e:Rf xs.length i with
 |none=>rw[e] at h;cases h
 |some j=>
  rw[e] at h
  obtain⟨h1,h2,h3,h4⟩:=J9 e
  exact⟨j,h1,h,h2,h3,h4⟩
theorem pR {α:Type} {xs:List α} {j:Nat} {v:α} (h:xs[j]? =some v):Ah xs (j:Int)=some v:=by
 have hj:j<xs.length:=(List.getElem?_eq_some_iff.mp h).1
 have e:Rf xs.length (j:Int)=some j:=by
  unfold Rf
  rw[if_pos (by omega),if_pos (by omega)];simp
 unfold Ah;rw[e];exact h
def Ka (b:Expr):Prop:=∀o i,subscripted b false o i=operate [o,i] (getItem o i)
def Sk (X:Cx) (r:R2):Prop:=
 ∀(value slice:Expr) (pins:List (Addr×Obj)) (s:Shared) (σ:St) (H:Hp) (x y:V) (v u:Value) (Q:VK),Inv X pins σ H s→RelV x v→RelV y u→r x y H Q→
  subscripted slice false v u=operate [v,u] (getItem v u)→wpAny (model X.prog X.w) X.A (subscriptTail value slice v u) (EP X pins σ Q) X.xe s
def MtR (X:Cx) (id:String) (r:V→List V→Hp→VK→Prop):Prop:=
 ∀(pins:List (Addr×Obj)) (s:Shared) (σ:St) (H:Hp) (x:V) (xs:List V) (v:Value) (us:List Value) (Q:VK),Inv X pins σ H s→RelV x v→Vals xs us→r x xs H Q→
  wpAny (model X.prog X.w) X.A (call (.builtin id) (v::us)) (EP X pins σ Q) X.xe s
section
variable {X:Cx} {a b:Expr} {ta tb:TE} {pos:Pos}
theorem cE {r:R2} (hr:Sk X r) (ha:PE X a ta) (hb:PE X b tb) (hs:Ka b):PE X (.Subscript a b pos) (N2 r ta tb):=by
 intro pins s σ H Q I h
 exact Subscript_ (N3 ha hb I h fun v u s2 x y H2 I2 rx ry q=>hr a b pins s2 σ H2 x y v u Q I2 rx ry q (hs _ _))
def Z9 (K:PySem.W.Frag):R2:=fun x y H Q=>∃p xs i v,x= .ref p∧y= .int i∧b5 K H p xs∧Ah xs i=some v∧Q v H
def Sl (K:PySem.W.Frag):R2:=fun x y H Q=>∃p xs i v,x= .ref p∧y= .int i∧jc K H p xs∧Ah xs i=some v∧Q v H
def Z':R2:=fun x y H Q=>∃z i c,x= .str z∧y= .int i∧z.length≤sizeLine∧Ah z.cps.toList i=some c∧Q (.str ⟨#[c]⟩) H
theorem cZ:Sk X (Z9 X.K):=by
 intro value slice pins s σ H x y v u Q I rx ry h hs
 obtain⟨p,xs,i,z,rfl,rfl,hq,he,q⟩:=h
 cases rx
 obtain⟨t,rfl⟩:=ry
 obtain⟨its,r,pl,hz⟩:=I.list hq
 obtain⟨j,h1,h2,h3,h4,h5⟩:=vE he
 obtain⟨w,ew,FK⟩:=r.get h2
 have hl:=r.length
 have hn:=n5
 have fin:EP X pins σ Q w s:=⟨z,H,I,FK,q⟩
 by_cases h0:0≤i
 ·have hj:i.toNat=j:=by
   rw[seqIndex_of h0 h5] at h1
   exact Option.some.inj h1
  exact item_listR pl.isList h0 (by omega) (by rw[hj];simpa using ew) fin hs
 ·have hj:(i+(its.toArray.size:Int)).toNat=j:=by
   rw[seqIndex_neg (by omega) h4] at h1
   rw[List.size_toArray,←hl]
   exact Option.some.inj h1
  exact subscriptTail_builtinR (x:=w) pl.isList.typeIs slot_list_getitem.lookup
   (wpAny_getItem_list_neg (Q:=fun r s'=>r=w∧EP X pins σ Q r s') pl.isList (by omega) (by rw[List.size_toArray]<;>omega) (by omega) (by rw[hj];simpa using ew) ⟨rfl,fin⟩) hs
theorem hV:Sk X (Sl X.K):=by
 intro value slice pins s σ H x y v u Q I rx ry h hs
 obtain⟨p,xs,i,z,rfl,rfl,hq,he,q⟩:=h
 cases rx
 obtain⟨t,rfl⟩:=ry
 obtain⟨its,r,pl,hz⟩:=I.tuple hq
 obtain⟨j,h1,h2,h3,h4,h5⟩:=vE he
 obtain⟨w,ew,FK⟩:=r.get h2
 have hl:=r.length
 have hn:=n5
 have fin:EP X pins σ Q w s:=⟨z,H,I,FK,q⟩
 exact subscriptTail_builtinR (x:=w) pl.typeIs slot_tuple_getitem.lookup
  (getItem_tuple (j:=j) (Q:=fun r s'=>r=w∧EP X pins σ Q r s') pl (by omega) (by omega) (by rw[List.size_toArray,←hl];exact h1) (by simpa using ew) ⟨rfl,fin⟩) hs
theorem vF:Sk X Z':=by
 intro value slice pins s σ H x y v u Q I rx ry h hs
 obtain⟨z,i,c,rfl,rfl,hz,he,q⟩:=h
 obtain⟨t,rfl⟩:=rx
 obtain⟨t',rfl⟩:=ry
 obtain⟨j,h1,h2,h3,h4,h5⟩:=vE he
 have hl:z.cps.toList.length=z.length:=by simp [Str.length]
 rw[hl] at h1 h4 h5
 have hn:=n5
 exact tail_any (typeIs_str s z t) slot_str_getitem.lookup (getItem_str (c:=c) (by
  have e1:decide (i< -(2^63 :Int))=false:=decide_eq_false (by omega)
  have e2:decide (i≥2^63)=false:=decide_eq_false (by omega)
  rw[e1,e2,Bool.or_false]) (by rw[h1];simpa using h2) ⟨.str ⟨#[c]⟩,H,I.tok _,⟨_,rfl⟩,q⟩) hs
theorem gK:gD X (.builtin "len") (fun xs H Q=>∃p ys,xs=[.ref p]∧(b5 X.K H p ys∨jc X.K H p ys)∧Q (.int ys.length) H):=by
 intro pins s σ H xs us Q I r h
 obtain⟨p,ys,rfl,hq,q⟩:=h
 obtain⟨u,rfl,rx⟩:=vals1 r
 cases rx
 have hn:=n5
 rcases hq with hq|hq
 ·obtain⟨its,r',pl,hz⟩:=I.list hq
  have hlen:=r'.length
  exact Calls.call_len_list pl.isList (by simp only [List.size_toArray]<;>omega) ⟨.int ys.length,H,I.tok _,⟨s.toks+1,by rw[List.size_toArray,hlen]⟩,q⟩
 ·obtain⟨its,r',pl,hz⟩:=I.tuple hq
  have hlen:=r'.length
  exact len_tuple pl (by simp only [List.size_toArray]<;>omega) ⟨.int ys.length,H,I.tok _,⟨s.toks+1,by rw[List.size_toArray,hlen]⟩,q⟩
theorem jA:gD X (.builtin "len") (fun xs H Q=>∃z,xs=[.str z]∧z.length≤sizeLine∧Q (.int z.length) H):=by
 intro pins s σ H xs us Q I r h
 obtain⟨z,rfl,hz,q⟩:=h
 obtain⟨u,rfl,t,rfl⟩:=vals1 r
 have hn:=n5
 exact len_str (by omega) ⟨.int z.length,H,I.tok _,⟨_,rfl⟩,q⟩
theorem fx:gD X (.type "list") (fun xs H Q=>∃p ys,xs=[.ref p]∧(b5 X.K H p ys∨jc X.K H p ys)∧∀l,H l=none→Q (.ref l) (upd H l (.lst ys))):=by
 intro pins s σ H xs us Q I r h
 obtain⟨p,ys,rfl,hq,q⟩:=h
 obtain⟨u,rfl,rx⟩:=vals1 r
 cases rx
 have fin:∀(its:List Value),Vals ys its→ys.length≤sizeLine→∀(h':Heap) (c':Nat),(∀b o',s.heap.get? b=some o'→h'.get? b=some o')→
   h'.get? s.heap.objs.size=some { cls:= .type "list",dict:=none,data:= .seq its.toArray c',slots:=#[] }→EP X pins σ Q (.ref s.heap.objs.size) { s with heap:=h' }:=fun its r' hz h' c' kp e=>
  ⟨.ref s.heap.objs.size,_,I.laid (t':=s.toks) kp (Nat.le_refl _) (show cq X.prog X.w _ h' _ (.lst ys) from ⟨hz,its,c',r',e⟩),rfl,q _ (I.aU.fresh (Nat.le_refl _))⟩
 rcases hq with hq|hq
 ·obtain⟨its,r',pl,hz⟩:=I.list hq
  have hlen:=r'.length
  obtain⟨o,ho,hc,n,hd⟩:=pl.isList
  exact call_list_seq p (.inl rfl) ho hc hd (fun h' c' kp e=>fin its r' hz h' c' kp e) (by simp only [List.size_toArray]<;>omega)
 ·obtain⟨its,r',pl,hz⟩:=I.tuple hq
  have hlen:=r'.length
  obtain⟨o,ho,hc,n,hd⟩:=pl
  exact call_list_seq p (.inr rfl) ho hc hd (fun h' c' kp e=>fin its r' hz h' c' kp e) (by simp only [List.size_toArray]<;>omega)
def tyV (K:PySem.W.Frag) (T:String) (x:V) (H:Hp):Prop:=match x with
 | .str _=>T="str"
 | .int _=>T="int"
 | .ref p=>(T="list" ∧∃xs,b5 K H p xs)∨(T="tuple" ∧∃o,K.lookup p=some o∧o.cls= .type "tuple" ∧o.dict=none)∨
   (T="dict" ∧((∃kvs,H p=some (.dK kvs))∨∃kvs,H p=some (.dT kvs)))∨(T="set" ∧∃S n,H p=some (.set S n))
 |_=>False
theorem Ob {pins:List (Addr×Obj)} {σ:St} {H:Hp} {s:Shared} {T:String} {x:V} {v:Value} (I:Inv X pins σ H s) (r:RelV x v) (ty:tyV X.K T x H):
  s.TypeIs v T∧∀a,v= .ref a→∃ob,s.heap.get? a=some ob∧ob.dict=none:=by
 cases x with
 |str z=>
  obtain⟨t,rfl⟩:=r
  cases (show T="str" from ty)
  exact⟨typeIs_str s z t,fun _ e=>nomatch e⟩
 |int i=>
  obtain⟨t,rfl⟩:=r
  cases (show T="int" from ty)
  exact⟨typeIs_int s i t,fun _ e=>nomatch e⟩
 |ref p=>
  cases r
  rcases ty with ⟨rfl,xs,hq⟩ | ⟨rfl,o,hk,hc,hd⟩ | ⟨rfl,hk⟩ | ⟨rfl,S,n,hk⟩
  ·obtain⟨its,_,pl,_⟩:=I.list hq
   refine⟨pl.isList.typeIs,fun a e=>?_⟩
   cases e
   obtain⟨o,n,e,c,hd,_⟩:=pl
   exact⟨o,e,hd⟩
  ·refine⟨⟨o,I.ju p o hk,hc⟩,fun a e=>?_⟩
   cases e
   exact⟨o,I.ju _ o hk,hd⟩
  ·have z:∃o,s.heap.get? p=some o∧o.ExactDict:=by
    rcases hk with ⟨kvs,hk⟩ | ⟨kvs,hk⟩
    ·obtain⟨_,_,_,_,o,_,_,e,ex,_⟩:=I.aU p _ hk
     exact⟨o,e,ex⟩
    ·obtain⟨_,_,_,_,o,_,_,e,ex,_⟩:=I.aU p _ hk
     exact⟨o,e,ex⟩
   obtain⟨o,e,ex⟩:=z
   refine⟨⟨o,e,ex.1⟩,fun a e2=>?_⟩
   cases e2
   exact⟨o,e,ex.2.1⟩
  ·obtain⟨o,_,_,_,e,ex,_⟩:=I.aU p _ hk
   refine⟨⟨o,e,ex.1⟩,fun a e2=>?_⟩
   cases e2
   exact⟨o,e,ex.2.1⟩
 |_=>exact False.elim ty
def tBM (K:PySem.W.Frag) (T:String) (r:V→List V→Hp→VK→Prop) (to:TE) (t:TA):TE:=fun σ H Q=>to σ H fun x H1=>tyV K T x H1∧t σ H1 fun xs H2=>r x xs H2 Q
variable {o e:Expr} {es:List Expr} {to:TE} {t:TA} {name:Str} {apos g9:Pos} {T id:String} {r:V→List V→Hp→VK→Prop}
theorem jg (pa:PlainAttrs T) (slot:Slot T name id) (hty:typeOf (.builtin id)=pure (.type "method_descriptor")) (hm:MtR X id r) (ho:PE X o to) (ha:PA X (e::es) t)
  (Sm:attributeBase o name X.env (eval o X.env)=eval o X.env:=by rfl)
  (aaa:((backTo g9 (starEach (e::es) X.env)).all (fun x=>!x.1)&&(backToKw g9 (keywordEach [] X.env)).all (fun x=>x.1.isSome)
   &&decide ((e::es).length+([]:List Keyword).length+(if ([]:List Keyword).isEmpty then 0 else 1) <30))=true:=by rfl)
  (FR:(apos.endLine==g9.line)=true:=by rfl) (hs:starEach (e::es) X.env=(false,eval e X.env)::starEach es X.env:=by rfl) (Oc:(backTo g9 (starEach es X.env)).any (·.1)=false:=by rfl):
  PE X (.Call (.Attribute o name apos) (e::es) [] g9) (tBM X.K T r to t):=by
 intro pins s σ H Q I h
 refine wpAny_Call_method_late Sm aaa FR rfl (bZ (ho pins s σ H _ I h) fun v s1 ⟨x,H1,I1,r1,ty,q1⟩=>?_)
 obtain⟨h1,h2⟩:=Ob I1 r1 ty
 refine⟨T,id,pa,slot,hty,h1,h2,?_⟩
 have hA:=ha g9 pins s1 σ H1 _ I1 q1
 rw[hs] at hA ⊢
 refine Calls.callWith_builtin (by show (false||(backTo g9 (starEach es X.env)).any (·.1))=false;rw[Oc]<;>rfl) (Calls.evalArgs_plain ?_)
 exact bZ hA fun us s2 ⟨vs,H2,I2,r2,q2⟩=>hm pins s2 σ H2 x vs v us Q I2 r1 r2 q2
end
end L2
namespace L2
open PySem PySem.Spec PyProof.Rows
def MtM (X:Cx) (id:String) (r:V→List V→Hp→VK→Prop):Prop:=
 ∀(pins:List (Addr×Obj)) (s:Shared) (σ:St) (H:Hp) (x:V) (xs:List V) (v:Value) (us:List Value) (Q:VK),Inv X pins σ H s→RelV x v→Vals xs us→r x xs H Q→
  wpAny (model X.prog X.w) X.A (call (.builtin id) (v::us)) (EP X pins σ Q) X.xe s
theorem Vals.one:∀{x:V} {us:List Value},Vals [x] us→∃u,us=[u]∧RelV x u
 |_,_, .cons r .nil=>⟨_,rfl,r⟩
section
variable {X:Cx} {pins:List (Addr×Obj)} {σ:St} {H:Hp} {s:Shared} {l b:Addr} {xs ys zs:List V}
theorem Inv.Sn {its its':List Value} {n:Nat} {f:Array Value→Array Value} {t':Nat} (I:Inv X pins σ H s) (hH:H l=some (.lst xs))
  (e:s.heap.get? l=some { cls:= .type "list",data:= .seq its.toArray n }) (hf:f its.toArray=its'.toArray) (hv:Vals ys its') (hz:ys.length≤sizeLine):
  Inv X pins σ (upd H l (.lst ys)) { s with heap:=s.heap.update l (Obj.mapSeq f),toks:=t' }:=by
 have q:=PySem.IsL.update e f
 rw[hf] at q
 refine I.write (x:=l) (e:=l) (by rw[hH];exact trivial) (.inl rfl) (fun b' u hb hu=>(Heap.get?_update_other s.heap (Obj.mapSeq f) (Ne.symm hb)).trans hu) ⟨_,q⟩ ?_
 exact⟨hz,its',_,hv,q⟩
theorem Inv.So {its:List Value} {t':Nat} (I:Inv X pins σ H s) (hv:Vals ys its) (hz:ys.length≤sizeLine):
  Inv X pins σ (upd H s.heap.objs.size (.lst ys)) { s with heap:=s.heap.push { cls:= .type "list",data:= .seq its.toArray },toks:=t' }:=
 I.laid (fun _ _ q=>Heap.get?_push_of_some _ q) (Nat.le_refl _) ⟨hz,its,0,hv,Heap.get?_push_size _ rfl⟩
theorem Inv.fresh (I:Inv X pins σ H s):H s.heap.objs.size=none:=I.aU.fresh (Nat.le_refl _)
theorem Inv.Dy (I:Inv X pins σ H s) (hH:H l=some (.lst xs)):xs.length≤sizeLine∧∃(its:List Value) (n:Nat),Vals xs its∧xs.length=its.length∧s.heap.get? l=some { cls:= .type "list",data:= .seq its.toArray n }:=by
 obtain⟨z,its,n,r,e⟩:=I.aU l _ hH
 exact⟨z,its,n,r,r.length,e⟩
theorem FT {n:Nat} (h:n≤sizeLine):Builtin.List.listTooLong n=false:=by
 unfold Builtin.List.listTooLong
 exact decide_eq_false (by omega)
end
section
variable {X:Cx}
def Kb:V→List V→Hp→VK→Prop:=fun x vs H Q=>∃l xs y,x= .ref l∧vs=[y]∧H l=some (.lst xs)∧xs.length<sizeLine∧Q .cU (upd H l (.lst (xs++[y])))
theorem d5:MtM X "list.append" Kb:=by
 intro pins s σ H x vs v us Q I rx rv h
 obtain⟨l,xs,y,rfl,rfl,hH,hz,q⟩:=h
 cases rx
 obtain⟨u,rfl,ru⟩:=rv.one
 obtain⟨z,its,n,r,hl,e⟩:=I.Dy hH
 refine call_meets F.slot_list_append ⟨_,e,rfl⟩ F.entry_list_append (F.args_list_append_2 _ _) (PySem.list_append l its.toArray n u (by rw[List.size_toArray];omega)) ⟨e,?_⟩
 refine⟨.cU,_,I.Sn (its':=its++[u]) hH e (by simp) (r.append (.cons ru .nil)) ?_,rfl,q⟩
 rw[List.length_append,List.length_singleton]
 omega
def Kc:V→List V→Hp→VK→Prop:=fun x vs H Q=>∃l b xs zs,x= .ref l∧vs=[.ref b]∧H l=some (.lst xs)∧H b=some (.lst zs)∧xs.length+zs.length≤sizeLine∧Q .cU (upd H l (.lst (xs++zs)))
theorem Dz:MtM X "list.extend" Kc:=by
 intro pins s σ H x vs v us Q I rx rv h
 obtain⟨l,b,xs,zs,rfl,rfl,hH,hB,hz,q⟩:=h
 cases rx
 obtain⟨u,rfl,ru⟩:=rv.one
 cases ru
 obtain⟨z,its,n,r,hl,e⟩:=I.Dy hH
 obtain⟨z2,ya,n2,r2,sT,e2⟩:=I.Dy hB
 have hsz:its.toArray.size+ya.toArray.size≤sizeLine:=by rw[List.size_toArray,List.size_toArray];omega
 have Sq:¬(!its.toArray.isEmpty&&Builtin.List.listTooLong (its.toArray.size+ya.toArray.size))=true:=by
  rw[FT hsz,Bool.and_false]
  exact Bool.false_ne_true
 refine call_meets F.slot_list_extend ⟨_,e,rfl⟩ F.entry_list_extend (F.args_list_extend_2 _ _)
  (AutoSeq1.list_extend_list_list_0 l its.toArray n b ya.toArray n2 Sq (by rw[List.size_toArray];omega) (by omega)) ⟨e,e2,?_⟩
 refine⟨.cU,_,I.Sn (its':=its++ya) hH e (by simp) (r.append r2) ?_,rfl,q⟩
 rw[List.length_append]
 omega
def aab:R2:=fun x y H Q=>∃l b xs zs,x= .ref l∧y= .ref b∧H l=some (.lst xs)∧H b=some (.lst zs)∧xs.length+zs.length≤sizeLine∧∀p,H p=none→Q (.ref p) (upd H p (.lst (xs++zs)))
theorem oj:n4 X (binaryOp .Add) aab:=by
 intro pins s σ H x y v u Q I rx ry h
 obtain⟨l,b,xs,zs,rfl,rfl,hH,hB,hz,q⟩:=h
 cases rx
 cases ry
 obtain⟨z,its,n,r,hl,e⟩:=I.Dy hH
 obtain⟨z2,ya,n2,r2,sT,e2⟩:=I.Dy hB
 refine PySem.P.add_list e e2 ?_ (by rw[List.size_toArray,List.size_toArray];omega)
 have ea:its.toArray++ya.toArray=(its++ya).toArray:=by simp
 rw[ea]
 exact⟨.ref _,_,I.So (t':=s.toks) (r.append r2) (by rw[List.length_append];omega),rfl,q _ I.fresh⟩
end
section
variable {prog:Program} {w:World} {A:Around} {E:Value→Shared→Prop} {s:Shared}
end
section
variable {X:Cx}
end
end L2
namespace Att
open PySem PySem.W PySem.Calls PyProof.Rows
theorem pH {P:Params} {h:Heap}:∀(ns:List Int) (vs:List Value),WellAll P h vs (ns.map WData.int)→IntsAre vs ns:=by
 intro ns
 induction ns with
 |nil=>
  intro vs w
  rw[List.map_nil] at w
  cases w
  exact .nil
 |cons n ns ih=>
  intro vs w
  rw[List.map_cons] at w
  cases w with
  |cons a b=>
   cases a
   exact .cons _ _ (ih _ b)
theorem DA {l:OpenLaw} {n:Nat} (hn:l.most=some n) {P:Params} {h:Heap} {args:List WData} {vals:List Value}
  (Kd:l.row.toRowW.claim.pre args=true) (Ke:WellAll P h vals args):
  ∃a vs ns,vals=[Value.ref a]∧args=[WData.list (ns.map WData.int)]∧h.get? a=some { cls:= .type "list",data:= .seq vs.toArray }∧IntsAre vs ns∧ns.length≤n:=by
 have JG:WShape.hasAll [] args [.list .int]=true:=(pre_splitW Kd).1
 have hc:l.pre.holds [] { args:=args }=true:=(pre_splitW Kd).2
 obtain⟨d,r,rfl,h1,h2⟩:=hasAllW_cons JG
 obtain rfl:=hasAllW_nil h2
 obtain⟨xs,rfl,h3⟩:=hasW_list h1
 obtain⟨ns,rfl⟩:=items_int h3
 have hlen:ns.length≤n:=by
  unfold OpenLaw.pre at hc
  have h4:(WTm.not (.lt (.lit (.int (n:Int))) (.len (.arg 0)))).holds [] { args:=[.list (ns.map .int)] }=true:=by
   have h4:=(holds_andW hc).1
   rw[hn] at h4
   exact h4
  have h5:=condW_of h4 (w_not (w_lt w_lit (w_len_list (w_arg rfl))))
  rw[List.length_map] at h5
  refine Nat.le_of_not_lt fun q=>?_
  have q':(n:Int) < ((ns.length:Nat):Int):=by omega
  first
   | (rw[decide_eq_true q'] at h5;exact absurd h5 (by decide))
   | (simp at h5;omega)
 cases Ke with
 |cons w1 w2=>
  cases w2
  cases w1 with
  |list ho x9=>exact⟨_,_,ns,rfl,rfl,ho,pH ns _ x9,hlen⟩
theorem DB (l:OpenLaw) (args:List WData):l.row.toRowW.claim.post args (.bool true) args=true:=
 postW_of (r:=l.row.toRowW) (X:=(true==true))
  (show WShape.has [] (.bool true) .bool=true by first|rfl|decide|simp [WShape.has,WShape.arms,WShape.armsAll])
  (show (WTm.eq .res (.lit (.bool true))).value [] { args:=args,res:=some (.bool true),after:=args }=some (.bool (true==true)) from w_eq_bool (w_res rfl) w_lit) rfl
theorem yb {l:OpenLaw} {n:Nat} {q:Program} {loose:List Str} {XP:(Str→Option Value)→Heap→Prop} {YP:World→Heap→Prop} {d:DefRec}
  (hn:l.most=some n) (Sr:d.params.defaults=[])
  (call:∀(w:World) (s₀ s₁:Shared) (mg mb:Str→Option Value) (fa:Addr) (o:Obj) (pm cd doc:Value) (a:Addr) (vs:List Value) (ns:List Int),
   Ground q loose [] XP w s₀ mg mb s₁.heap→YP w s₁.heap→
   s₁.heap.get? fa=some o→o.data= .func (docDef d.name d.params d.body d.scope pm cd doc)→s₁.heap.CodeRec cd d.name→mg d.name=some (.ref fa)→
   s₁.heap.get? a=some { cls:= .type "list",data:= .seq vs.toArray }→IntsAre vs ns→ns.length≤n→s₁.gens=#[]→
   codeAny (model l.prog w) callerA (.call (.ref fa) ⟨[.ref a],[]⟩) (fun r s'=>r= .ok (.ret (.bool true))∧OldK s₁.heap s'.heap∧s'.os=s₁.os∧AllBare s'.gens) s₁):
  WalkO q loose XP YP l.row.toRowW d [] (fun f vs=>PySem.call f vs):=by
 intro w s₀ s₁ mg mb G Y fa o pm cd doc dV kV ho hd pG hD Ss hg args vals as Kd hlay hrd Ke Rg
 obtain rfl:dV= .none:=Dflts.none hD Sr
 obtain rfl:kV= .none:=Dflts.noKw hD
 obtain⟨a,vs,ns,rfl,rfl,Od,hints,hlen⟩:=DA hn Kd Ke
 refine enter_call (codeAny_mono (call w s₀ s₁ mg mb fa o pm cd doc a vs ns G Y ho (fd_plain hd) pG Ss Od hints hlen hg) fun r s' hq=>?_)
 obtain⟨rfl,h2,h3,h4⟩:=hq
 exact⟨.inl ⟨.bool true, .bool true,[],rfl,fun _=>rfl, .bool true,DB l _,fun _=>⟨List.Pairwise.nil,fun _ hm=>(nomatch hm)⟩⟩,h2,h3,h4⟩
section
variable {prog:Program} {w:World} {A:Around} {E:Value→Shared→Prop} {s:Shared} {K:Frag}
end
end Att
namespace L2
open PySem PySem.Spec PyProof.Rows
theorem tN:∀{vs:List Value} {ns:List Int},IntsAre vs ns→Vals (ns.map V.int) vs
 |_,_, .nil=> .nil
 |_,_, .cons n t h=> .cons ⟨t,rfl⟩ (tN h)
def Oe (H:Hp):Prop:=∀b,H b=none∨∃o xs,H b=some (.fN o (.lst xs))
theorem FU {P:Program} {w:World} {K:PySem.W.Frag} {mg mb:Str→Option Value} {CX:BE} {k:Nat} {fa a:Addr} {fd:FuncData} {x:Str} {sp:Sp} {s₁:Shared} {vs:List Value} {ns:List Int}
  (KX:K.In s₁.heap) (zO:s₁.heap.Ns mainGlobals mg) (hb:s₁.heap.Ns builtinsNs mb) (hbb:∀x:Str,x≠"__name__" →mb x=bootBuiltins x) (aac:s₁.heap.NoLimit) (hg:s₁.gens=#[])
  (ha:s₁.heap.get? a=some { cls:= .type "list",data:= .seq vs.toArray }) (hi:IntsAre vs ns) (hl:ns.length≤sizeLine) (hr:cV k callerA)
  (F:∀base:Heap,K.In base→base.Ns mainGlobals mg→fu P w K mg base CX k fa fd [x] sp) (Su:∀(s:Shared) (u:Value),BindsTo s fd ⟨[u],[]⟩ [(x,u)])
  (BF:∀H:Hp,Oe H→b5 K H a (ns.map V.int)→sp [.ref a] H (fun v _=>v= .bl true) fun _ _ _=>False)
  (hCX:∀H e s',CX [] H s₁ (fun _ _ _=>False) e s'→False):
  codeAny (model P w) callerA (.call (.ref fa) ⟨[.ref a],[]⟩) (fun r s'=>r= .ok (.ret (.bool true))∧OldK s₁.heap s'.heap∧s'.os=s₁.os∧AllBare s'.gens) s₁:=by
 have rv:=tN hi
 have lenV:=hi.length
 have core:∀H:Hp,Oe H→b5 K H a (ns.map V.int)→j7 P w H s₁.heap→(∀b,H b≠none→b=a)→(H a≠none→K.lookup a=none)→
   codeAny (model P w) callerA (.call (.ref fa) ⟨[.ref a],[]⟩) (fun r s'=>r= .ok (.ret (.bool true))∧OldK s₁.heap s'.heap∧s'.os=s₁.os∧AllBare s'.gens) s₁:=by
  intro H hO hS aU hA hK
  have base_of:∀{b:Addr} {o:Obj},s₁.heap.get? b=some o→H b=none→(vm s₁.heap H).get? b=some o:=fun e n=>Fv e n
  have Sa:∀{b:Addr} {o:Obj} {es:Array DictEntry} {ep:Nat},s₁.heap.get? b=some o→o.data= .dict es ep→H b=none:=fun {b o es ep} e d=>by
   cases q:H b with
   |none=>rfl
   |some u=>
    have e':b=a:=hA b (by rw[q];simp)
    subst e'
    rw[ha] at e;cases e
    have d':Data.seq vs.toArray _=Data.dict es ep:=d
    cases d'
  have Y3:∀{b:Addr} {m:Str→Option Value},s₁.heap.Ns b m→(vm s₁.heap H).Ns b m:=fun {b m} ⟨o,es,ep,e,d,r⟩=>⟨o,es,ep,base_of e (Sa e d),d,r⟩
  have hKb:K.In (vm s₁.heap H):=fun b o e=>base_of (KX b o e) (by
   cases q:H b with
   |none=>rfl
   |some u=>
    have e':b=a:=hA b (by rw[q];simp)
    subst e'
    rw[hK (by rw[q];simp)] at e;cases e)
  have hM:Mod K mg (vm s₁.heap H):=⟨hKb,Y3 zO,⟨mb,Y3 hb,hbb⟩,let ⟨mc,h1,h2⟩:=aac;⟨mc,Y3 h1,h2⟩⟩
  have e0:Ad P w K mg (vm s₁.heap H) callerA [] s₁ H:=⟨rfl,hM,fun b o e=>JR e,Nat.le_of_eq (Dn _ _),trivial,fun b hb=>absurd (show b∈([]:List Addr) from hb) (by simp),aU, .of_eq hg⟩
  refine codeAny_mono ((F _ hKb (Y3 zO)).run callerA [] s₁ H ⟨[.ref a],[]⟩ [.ref a] [.ref a] _ _ hr e0 (Su s₁ (.ref a)) (.cons rfl .nil) (BF H hO hS)) fun r s' h=>?_
  cases r with
  |error e=>exact(hCX H e s' h).elim
  |ok fl=>
   cases fl with
   |next=>exact False.elim h
   |brk=>exact False.elim h
   |cont=>exact False.elim h
   |ret u=>
    obtain⟨v,H',os,bare,un,hok',r',q⟩:=h
    have q':v= .bl true:=q
    subst q'
    obtain rfl:u=Value.bool true:=r'
    refine⟨rfl,OldK.of_keep fun b o e=>?_,os,bare⟩
    cases q:H b with
    |none=>exact un.keep b o e q (by intro z;exact absurd (show b∈([]:List Addr) from z) (by simp)) (by simp)
    |some u=>
     rcases hO b with z| ⟨ob,xs,z⟩
     ·rw[q] at z;cases z
     ·have z2:=un.nX b ob _ z
      obtain⟨e1,_⟩:=aU b _ z
      obtain⟨e2,_⟩:=hok' b _ z2
      rw[e] at e1;cases e1
      exact e2
 cases hk:K.lookup a with
 |some o=>
  have e:=KX a o hk
  rw[ha] at e
  cases e
  refine core (fun _=>none) (fun _=> .inl rfl) (.inr ⟨_,vs.toArray,_,hk,rfl,rfl,rfl,by rw[List.size_toArray,lenV];exact hl,by simpa using rv⟩) (fun b u z=>by have z':(none:Option HO)=some u:=z;cases z') (fun b z=>absurd rfl z) fun z=>absurd rfl z
 |none=>
  refine core (fun b=>if b=a then some (.fN { cls:= .type "list",data:= .seq vs.toArray } (.lst (ns.map V.int))) else none) (fun b=>?_) (.inl (.inr ⟨{ cls:= .type "list",data:= .seq vs.toArray },if_pos rfl⟩)) (fun b u z=>?_) (fun b z=>?_) fun _=>hk
  ·by_cases hb:b=a
   ·exact .inr ⟨_,_,if_pos hb⟩
   ·exact .inl (if_neg hb)
  ·by_cases hb:b=a
   ·have z':=(if_pos hb).symm.trans z
    cases z'
    subst hb
    exact⟨ha,by rw[List.length_map];exact hl,vs,_,rv,ha⟩
   ·have z':=(if_neg hb).symm.trans z
    cases z'
  ·by_cases hb:b=a
   ·exact hb
   ·exact absurd (if_neg hb) z
end L2
namespace L2
open PySem PySem.Spec PyProof.Rows
theorem Kf {l:PySem.W.OpenLaw} {n k:Nat} {q:Program} {loose:List Str} {XP:(Str→Option Value)→Heap→Prop} {YP:World→Heap→Prop} {d:DefRec} {K:Params→PySem.W.Frag} {CX:World→BE} {sp:World→Sp} {x:Str}
  (hn:l.most=some n) (My:n≤sizeLine) (Sr:d.params.defaults=[]) (hr:cV k callerA)
  (hY:∀(w:World) (h:Heap),YP w h→(K w.params).In h)
  (F:∀(w:World) (mg:Str→Option Value) (fa:Addr) (h:Heap),(K w.params).In h→h.Ns mainGlobals mg→mg d.name=some (.ref fa)→
   ∃fd:FuncData,(∀(s:Shared) (u:Value),BindsTo s fd ⟨[u],[]⟩ [(x,u)])∧
    ∀base:Heap,(K w.params).In base→base.Ns mainGlobals mg→fu l.prog w (K w.params) mg base (CX w) k fa fd [x] (sp w))
  (BF:∀(w:World) (H:Hp) (a:Addr) (ns:List Int),ns.length≤n→Oe H→b5 (K w.params) H a (ns.map V.int)→sp w [.ref a] H (fun v _=>v= .bl true) fun _ _ _=>False)
  (hCX:∀(w:World) (H:Hp) (s:Shared) (e:Value) (s':Shared),CX w [] H s (fun _ _ _=>False) e s'→False):
  PySem.W.WalkO q loose XP YP l.row.toRowW d [] (fun f vs=>PySem.call f vs):=by
 refine Att.yb hn Sr fun w s₀ s₁ mg mb fa o pm cd doc a vs ns G Y ho hd pG Ss Od hints hlen hg=>?_
 have KX:=hY w _ Y
 obtain⟨fd,hb,hF⟩:=F w mg fa _ KX G.T.g Ss
 exact FU KX G.T.g G.T.b G.T.builtins G.T.nolimit hg Od hints (Nat.le_trans hlen My) hr hF hb (fun H hO hS=>BF w H a ns hlen hO hS) fun H e s'=>hCX w H s₁ e s'
end L2
namespace L2
open PySem PySem.Spec PyProof.Rows
def inClass (s:Stmt) (j:Nat):Stmt:=match s with
 | .ClassDef _ _ _ body _ _ _ _ _ _ _=>body.getD j (.Pass ⟨0,0,0,0⟩)
 |_=> .Pass ⟨0,0,0,0⟩
def br (s:Stmt):Arguments:=match s with
 | .FunctionDef _ a _ _ _ _ _ _ _ _=>a
 |_=>{ posonlyargs:=[],args:=[],vararg:=none,kwonlyargs:=[],kw_defaults:=[],kwarg:=none,defaults:=[] }
def aS (s:Stmt):List Stmt:=match s with
 | .FunctionDef _ _ b _ _ _ _ _ _ _=>b
 |_=>[]
def aj (s:Stmt):Scope:=match s with
 | .FunctionDef _ _ _ _ _ _ sc _ _ _=>sc
 |_=>{ kind:= .function,names:=[],isGenerator:=false,isCoroutine:=false }
abbrev qO:BE:=fun _ _ _ _ _ _=>False
abbrev E0:XK:=fun _ _ _=>False
theorem ay {X:Cx}:Passes qO X E0:=fun _ _ _ _ _ _ _ h=>h.elim
structure Fe (K:PySem.W.Frag) (x qual:Str) (st:Stmt) (f:Addr) (fd:FuncData):Prop where
 ex:∃(oc:Value) (od:Option Addr) (kV doc pm:Value) (an:Option Addr) (bj ct:Value) (sP:Array (Option Value)),
  fd=PySem.W.fnOf x qual (br st) (aS st) (aj st) .none kV doc pm an bj ct∧K.lookup f=some ⟨oc,od, .func fd,sP⟩∧PySem.W.codeIn K bj qual=true
 kp:PySem.W.keepIn K (.ref f)=true
section
variable {P:Program} {w:World} {K:PySem.W.Frag} {mg:Str→Option Value} {base:Heap}
theorem Fe.ok {x qual:Str} {st:Stmt} {f:Addr} {fd:FuncData} {N ps:List Str} {k:Nat} {sp:Sp} (F:Fe K x qual st f fd) (S:ax N ps (aj st)) (len:∀vs H Q E,sp vs H Q E→vs.length=ps.length)
  (dv:∀(bj:Value) (A:Around) (outer:List Env) (s:Shared) (H:Hp) (vs:List V) (Q:VK) (E:XK),cV k (A.deeper (envOfC qual (aj st) s.heap.objs.size f bj))→sp vs H Q E→
   ∃t,lU (jz qO P w K mg base N qual (aj st) f bj A outer s H E).FA (aS st) t∧t { nx:=fun _ H'=>Q .cU H',rt:=Q } (start N vs) H):fu P w K mg base qO (k+1) f fd ps sp:=by
 obtain⟨oc,od,kV,doc,pm,an,bj,ct,sP,rfl,lk,pG⟩:=F.ex
 refine fn_of lk pG S len fun A outer s H vs Q E hr BF=>?_
 obtain⟨t,h,q⟩:=dv bj A outer s H vs Q E hr BF
 exact⟨t,h.FA,q⟩
theorem Fe.binds {x qual:Str} {st:Stmt} {f:Addr} {fd:FuncData} {ps:List Str} (F:Fe K x qual st f fd)
  (h:∀(kV doc pm:Value) (an:Option Addr) (bj ct:Value) (us:List Value),us.length=ps.length→bindArgs (PySem.W.fnOf x qual (br st) (aS st) (aj st) .none kV doc pm an bj ct) ⟨us,[]⟩=pure (ps.zip us)):Binds K fd ps []:=by
 obtain⟨oc,od,kV,doc,pm,an,bj,ct,sP,rfl,lk,pG⟩:=F.ex
 exact .all (h kV doc pm an bj ct)
theorem Of {x qual:Str} {st:Stmt} {f:Addr} {oc:Value} {od an:Option Addr} {sP:Array (Option Value)} {kV doc pm bj ct:Value} (l:K.lookup f=some ⟨oc,od, .func (PySem.W.fnOf x qual (br st) (aS st) (aj st) .none kV doc pm an bj ct),sP⟩)
  (c:PySem.W.codeIn K bj qual=true) (k:PySem.W.keepIn K (.ref f)=true):Fe K x qual st f (PySem.W.fnOf x qual (br st) (aS st) (aj st) .none kV doc pm an bj ct):=⟨⟨oc,od,kV,doc,pm,an,bj,ct,sP,rfl,l,c⟩,k⟩
end
theorem dz {A:Around} {k:Nat} (hr:cV k A):A.units+1<cLine:=Nat.lt_of_le_of_lt (Nat.add_le_add_left (by decide:1≤64) _) hr.units
theorem kQ {n:Nat} (h:n≤1000):n<sizeLine:=Nat.lt_of_le_of_lt h (by decide)
section
variable {X:Cx}
theorem pv (i:Nat) {x:Str} {pos:Pos} (hN:X.N[i]? =some x:=by rfl) (hv:ZK X.env.scope x:=by first|exact Or.inl rfl|exact Or.inr (Or.inl rfl) |exact Or.inr (Or.inr rfl)) (hd:(x==("__debug__" :Str))=false:=by decide)
  (pG:(x==("__classdict__" :Str))=false:=by decide):PE X (.Name x pos) (j8 i):=NU hN hv hd pG
end
theorem cH {A B:Prop} (h:B):if false=true then A else B:=by
 rw[if_neg Bool.false_ne_true]
 exact h
theorem ix {A B:Prop} (h:A):if true=true then A else B:=by
 rw[if_pos rfl]
 exact h
theorem fM {c A B:Prop} [Decidable c] (h1:c→A) (h2:¬c→B):if c then A else B:=by
 by_cases h:c
 ·rw[if_pos h]
  exact h1 h
 ·rw[if_neg h]
  exact h2 h
theorem BG {c A B:Prop} [Decidable c] (hc:c) (h:B):if (!decide c)=true then A else B:=by
 rw[decide_eq_true hc]
 exact cH h
def au (H H':Hp):Prop:=∀b o,H b=some o→H' b=some o
theorem au.refl (H:Hp):au H H:=fun _ _ h=>h
theorem au.trans {H H1 H2:Hp} (a:au H H1) (b:au H1 H2):au H H2:=fun c o h=>b c o (a c o h)
theorem au.seq {K:PySem.W.Frag} {H H':Hp} {a:Addr} {xs:List V} (e:au H H') (h:b5 K H a xs):b5 K H' a xs:=by
 rcases h with (h| ⟨o,h⟩) |h
 ·exact .inl (.inl (e _ _ h))
 ·exact .inl (.inr ⟨o,e _ _ h⟩)
 ·exact .inr h
section
variable {κ:Type} [DecidableEq κ]
theorem mC {kvs:List (κ×V)} {k:κ} (h:b7 kvs k=none):¬k∈kvs.map (·.1):=by
 intro m
 obtain⟨p,hp,e⟩:=List.mem_map.mp m
 have q:(kvs.any fun kv=>decide (kv.1=k))=true:=List.any_eq_true.mpr ⟨p,hp,decide_eq_true e⟩
 rw[fw,h] at q
 exact absurd q (by simp)
theorem pS {kvs:List (κ×V)} {k:κ} {v:V} (h:b7 kvs k=some v):k∈kvs.map (·.1):=by
 have q:(kvs.any fun kv=>decide (kv.1=k))=true:=by
  rw[fw,h]
  all_goals rfl
 obtain⟨p,hp,e⟩:=List.any_eq_true.mp q
 exact List.mem_map.mpr ⟨p,hp,of_decide_eq_true e⟩
theorem BH:∀{l:List κ} {k:κ},l.Nodup→¬k∈l→(l++[k]).Nodup
 | [],k,_,_=>by simp
 |a::r,k,h,hk=>by
  obtain⟨h1,h2⟩:=List.nodup_cons.mp h
  show (a::(r++[k])).Nodup
  refine List.nodup_cons.mpr ⟨fun m=>?_,BH h2 fun m=>hk (List.mem_cons.mpr (Or.inr m))⟩
  rcases List.mem_append.mp m with q|q
  ·exact h1 q
  ·exact hk (List.mem_cons.mpr (Or.inl (List.mem_singleton.mp q).symm))
theorem Kg {kvs:List (κ×V)} {k:κ} (v:V) (hn:(kvs.map (·.1)).Nodup) (h:b7 kvs k=none):((putK kvs k v).map (·.1)).Nodup:=by
 rw[mx v h,List.map_append]
 exact BH hn (mC h)
end
end L2
namespace L2
open PySem PySem.Spec PyProof.Rows
section
variable {X:Cx} {pins:List (Addr×Obj)} {σ:St} {H:Hp} {s:Shared} {a:Addr} {u u':HO}
theorem Inv.MB (I:Inv X pins σ H s) (e:H a=some u) (nw:cq X.prog X.w (upd H a u') s.heap a u')
  (h1:∀xs,X.H₀ a≠some (.tup xs)) (h2:∀o z,X.H₀ a≠some (.fN o z)) (h3:∀ps,X.H₀ a≠some (.Mr ps))
  (n1:∀x,u≠ .own x) (n2:∀xs,u≠ .tup xs):Inv X pins σ (upd H a u') s:=by
 have na:∀b,H b=none→(upd H a u') b=none:=fun b q=>by
  rw[ah (fun z=>by rw[z,e] at q;cases q)];exact q
 have B:=I.base
 refine⟨I.ok,I.os,I.bare,⟨B.keep,B.slot,fun b o q n x=>na b (B.free b o q n x),B.there,fun b xs q=>?_,fun b o z q=>?_,fun b ps q=>?_⟩,
  I.loc,I.cell,na _ I.free,fun x c q=>na _ (I.gC x c q),fun p hp=>?_,fun b o q=>?_,I.len⟩
 ·rw[ah (show b≠a from fun z=>h1 xs (by rw[←z];exact q))];exact B.nW b xs q
 ·rw[ah (show b≠a from fun z'=>h2 o z (by rw[←z'];exact q))];exact B.nX b o z q
 ·rw[ah (show b≠a from fun z'=>h3 ps (by rw[←z'];exact q))];exact B.nY b ps q
 ·obtain⟨p1,p2,p3⟩:=I.pin p hp
  exact⟨p1,na _ p2,p3⟩
 ·by_cases hb:b=a
  ·subst hb
   rw[af] at q
   cases q
   exact nw
  ·rw[ah hb] at q
   refine(I.aU b o q).qx (fun _ _ _ z=>z) (fun c z=>?_) fun c xs z=>?_
   ·rw[ah (fun z'=>by rw[z',e] at z;exact n1 b (Option.some.inj z))];exact z
   ·rw[ah (fun z'=>by rw[z',e] at z;exact n2 xs (Option.some.inj z))];exact z
def NF (X:Cx) (a:Addr):Prop:=∀o z,X.H₀ a≠some (.fN o z)
theorem Inv.nf {kvs:List (Key×V)} (I:Inv X pins σ H s) (e:H a=some (.dK kvs)):NF X a:=fun o z q=>by
 have:=I.base.nX a o z q
 rw[e] at this;cases this
theorem Inv.freeze {kvs:List (Key×V)} (I:Inv X pins σ H s) (e:H a=some (.dK kvs)):∃o,s.heap.get? a=some o∧Inv X pins σ (upd H a (.fN o (.dK kvs))) s:=by
 have ok:=I.aU a _ e
 obtain⟨z,hd,vs,rel,dd⟩:=qJ I.aU e
 obtain⟨o,es,ep,ho,r⟩:=id dd
 refine⟨o,ho,I.MB e ⟨ho,z,hd,vs,rel,dd⟩ (fun xs q=>?_) (I.nf e) (fun ps q=>?_) (fun x q=>by cases q) fun xs q=>by cases q⟩
 ·have:=I.base.nW a xs q
  rw[e] at this;cases this
 ·obtain⟨m,q'⟩:=I.base.nY a ps q
  rw[e] at q';cases q'
theorem Inv.FV {kvs:List (Key×V)} {o:Obj} (I:Inv X pins σ H s) (e:H a=some (.fN o (.dK kvs))) (nf:NF X a):Inv X pins σ (upd H a (.dK kvs)) s:=by
 obtain⟨ho,z,hd,vs,rel,dd⟩:=(show cq X.prog X.w H s.heap a (.fN o (.dK kvs)) from I.aU a _ e)
 refine I.MB e (show cq X.prog X.w _ s.heap a (.dK kvs) from ⟨z,hd,vs,rel,dd⟩) (fun xs q=>?_) nf (fun ps q=>?_) (fun x q=>by cases q) fun xs q=>by cases q
 ·have:=I.base.nW a xs q
  rw[e] at this;cases this
 ·obtain⟨m,q'⟩:=I.base.nY a ps q
  rw[e] at q';cases q'
theorem eI {o:HO} (e:H a=some o):upd H a o=H:=by
 funext b
 by_cases hb:b=a
 ·subst hb;rw[af,e]
 ·rw[ah hb]
end
def MC (a:Addr) (o:Obj) (kvs:List (Key×V)):It:=
 ⟨fun i H=>H a=some (.fN o (.dK kvs))∧i<kvs.length,fun i H x H'=>H'=H∧∃k v,kvs[i]? =some (k,v)∧x=kV k,fun i H=>H a=some (.fN o (.dK kvs))∧kvs.length≤i⟩
theorem KV.get {κ:Type}:∀{kvs:List (κ×V)} {vs:List (κ×Value)} {i:Nat} {k:κ} {v:V},KV kvs vs→kvs[i]? =some (k,v)→∃u,vs[i]? =some (k,u)∧RelV v u
 |_,_,_,_,_, .nil,h=>by simp at h
 |_,_,0,k,v, .cons (a:=p) (b:=q) r _,h=>by
  have hp:p=(k,v):=by simpa using h
  subst hp
  have e:k=q.1:=r.1
  exact⟨q.2,by rw[List.getElem?_cons_zero,e],r.2⟩
 |_,_,i+1,_,_, .cons _ t,h=>by
  simp only [List.getElem?_cons_succ] at h ⊢
  exact KV.get (kvs:=_) t h
theorem vG {P:Program} {w:World} {k:Key} {u:Value} (h:(bF P w).is k u=true):RelV (kV k) u:=by
 rw[qw] at h
 rcases cp h with ⟨i,t,rfl,rfl⟩ | ⟨x,t,rfl,rfl⟩
 ·exact⟨t,rfl⟩
 ·exact⟨t,rfl⟩
theorem vH {P:Program} {w:World} {H:Hp} {h:Heap} {a:Addr} {o:Obj} {kvs:List (Key×V)} {es:Array DictEntry} {ep:Nat} (ok:j7 P w H h) (e:H a=some (.fN o (.dK kvs))) (hd:o.data= .dict es ep):
  ∃vs,KV kvs vs∧h.DictAt (bF P w) a vs ep∧(a==sysModules)=false:=by
 obtain⟨ho,z,hs,vs,rel,dd⟩:=(show cq P w H h a (.fN o (.dK kvs)) from ok a _ e)
 obtain⟨o',YU,YV,xO,ex,fQ,r⟩:=dd
 rw[ho] at xO;cases xO
 rw[hd] at fQ;cases fQ
 exact⟨vs,rel,⟨o,es,ho,ex,hd,r⟩,hs⟩
theorem DC {P:Program} {w:World} {K:PySem.W.Frag} {tg:Expr} (a it:Addr) (o:Obj) (kvs:List (Key×V)) {es:Array DictEntry} {ep:Nat} (hd:o.data= .dict es ep):
  Turn P w K tg (MC a o kvs) [it] it (fun i h=>h.IsKeyIter it a i kvs.length ep) where
 mem:=by simp
 obj:=fun i h st b hb=>by
  have e:b=it:=by simpa using hb
  subst e
  obtain⟨o,e,c,d⟩:=st
  exact⟨o,e,fun v z=>by rw[d] at z;cases z⟩
 keep:=fun i h h' st k=>let ⟨o,ho,r⟩:=st;⟨o,k it (by simp) o ho,r⟩
 item:=by
  intro X hP hw hK hc i pins s σ H E I hf st hg
  subst hP hw hK
  obtain⟨hz,hi⟩:=hg
  obtain⟨vs,rel,dd,hs⟩:=vH I.aU hz hd
  obtain⟨k,v,DD⟩:∃k v,kvs[i]? =some (k,v):=⟨kvs[i].1,kvs[i].2,by simp [hi]⟩
  obtain⟨u,hu,ru⟩:=rel.get DD
  obtain⟨f0,f1,f2,f3,f4,f5⟩:=hf it (by simp)
  rw[rel.length] at st
  refine wpAny_pyNext_dict_item st dd hu fun key h' hk By sb=>?_
  rw[←rel.length] at By
  have I1:Inv X pins σ H { s with heap:=h' }:=I.turned (t':=s.toks) (fun b o hb e=>(sb.2 b hb).trans e) f0 f1 f3 f4 f5
  obtain⟨oi,e,c,d⟩:=id By
  exact⟨key,rfl,Bw (s:={ s with heap:=h' }) e c d (by decide) ⟨kV k,H,I1,vG hk,⟨rfl,k,v,DD,rfl⟩,By,fun b hb=>(hf b hb).1⟩⟩
 done:=by
  intro X hP hw hK hc i pins s σ H E I hf st hg
  subst hP hw hK
  obtain⟨hz,hi⟩:=hg
  obtain⟨vs,rel,dd,hs⟩:=vH I.aU hz hd
  obtain⟨f0,f1,f2,f3,f4,f5⟩:=hf it (by simp)
  rw[rel.length] at st hi
  exact wpAny_pyNext_dict_end (I.ok.hd hc) st dd (List.getElem?_eq_none hi) fun h' eb=>⟨rfl,I.turned (t':=s.toks) (fun b o hb e=>eb b o hb e) f0 f1 f3 f4 f5⟩
 self:=fun _ _ _ _ _ st h=>wpAny_pyIter_keyiter st h
section
variable {X:Cx} {tg:Expr}
def FW (X:Cx) (td:TE):TI:=fun σ H R=>td σ H fun x H1=>∃a kvs,x= .ref a∧H1 a=some (.dK kvs)∧∀o,NF X a→R (MC a o kvs) (upd H1 a (.fN o (.dK kvs)))
theorem cR {l:Expr} {tl:TE} (hl:PE X l tl):PI X tg l (FW X tl):=by
 intro pins s σ H R I h
 refine bZ (hl pins s σ H _ I h) fun v s1 ⟨x,H1,I1,r1,q1⟩=>?_
 obtain⟨a,kvs,e,hk,q⟩:=q1
 subst e
 cases r1
 obtain⟨o,ho,I2⟩:=I1.freeze hk
 obtain⟨z,hs,vs,rel,dd⟩:=qJ I1.aU hk
 obtain⟨ep,da⟩:=dd.dictAt
 obtain⟨o',es,xO,ex,hd,_⟩:=id da
 rw[ho] at xO;cases xO
 refine wpAny_pyIter_dict hs da ?_
 refine⟨s1.heap.objs.size,[s1.heap.objs.size],_,_,_,rfl,I2.kept (t':=s1.toks) fun b o e=>Heap.get?_push_of_some _ e,DC a _ o kvs hd,?_,fun b hb=>?_,q o (I1.nf hk)⟩
 ·rw[rel.length]
  exact⟨_,Heap.get?_push_size _ rfl,rfl,rfl⟩
 ·have e:b=s1.heap.objs.size:=by simpa using hb
  subst e
  exact I2.z6 (Nat.le_refl _) (I2.aU.fresh (Nat.le_refl _))
def Th (X:Cx) (Q:Hp→Prop) (H:Hp):Prop:=∃a o kvs,H a=some (.fN o (.dK kvs))∧NF X a∧Q (upd H a (.dK kvs))
def FX (X:Cx) (t:TS):TS:=fun D σ H=>t { nx:=fun σ'=>Th X (D.nx σ'),rt:=fun v=>Th X (D.rt v),bk:=fun σ'=>Th X (D.bk σ'),ct:=fun σ'=>Th X (D.ct σ') } σ H
theorem dJ {st:Stmt} {t:TS} (h:PS X st t):PS X st (FX X t):=by
 intro pins s σ H D I q
 refine bZ (h pins s σ H _ I q) fun f s' z=>?_
 cases f with
 |next=>obtain⟨σ',H',J,a,o,kvs,e,nf,q⟩:=z;exact⟨σ',_,J.FV e nf,q⟩
 |brk=>obtain⟨σ',H',J,a,o,kvs,e,nf,q⟩:=z;exact⟨σ',_,J.FV e nf,q⟩
 |cont=>obtain⟨σ',H',J,a,o,kvs,e,nf,q⟩:=z;exact⟨σ',_,J.FV e nf,q⟩
 |ret u=>obtain⟨v,σ',H',J,r,a,o,kvs,e,nf,q⟩:=z;exact⟨v,σ',_,J.FV e nf,r,q⟩
theorem pT {e:Expr} {t:TE} (h:PE X e t):PE X e (fun σ H Q=>t σ H fun v=>Th X (Q v)):=by
 intro pins s σ H Q I q
 refine bZ (h pins s σ H _ I q) fun u s' z=>?_
 obtain⟨v,H',J,r,a,o,kvs,e,nf,q⟩:=z
 exact⟨v,_,J.FV e nf,r,q⟩
end
theorem dA {X:Cx} {a:Addr} {o:Obj} {kvs:List (Key×V)} {g:TG} {tb:TS} {D:Ends} {σ:St} {H:Hp} (nf:NF X a) (Pv:Nat→St→Hp→Prop) (h0:Pv 0 σ H) (hl:∀i σ H,Pv i σ H→H a=some (.dK kvs))
  (hs:∀i k v σ H,kvs[i]? =some (k,v)→Pv i σ H→g (kV k) σ (upd H a (.fN o (.dK kvs))) fun σ2 H2=>tb { nx:=fun σ' H'=>H' a=some (.fN o (.dK kvs))∧Pv (i+1) σ' (upd H' a (.dK kvs)),ct:=fun σ' H'=>H' a=some (.fN o (.dK kvs))∧Pv (i+1) σ' (upd H' a (.dK kvs)),bk:=fun σ'=>Th X (D.nx σ'),rt:=fun v=>Th X (D.rt v) } σ2 H2)
  (hd:∀σ H,Pv kvs.length σ H→D.nx σ H):
  ∃W:Nat→Nat→St→Hp→Prop,(∃m,W 0 m σ (upd H a (.fN o (.dK kvs))))∧∀i m σ H,W i m σ H→((MC a o kvs).stop i H∧Th X (D.nx σ) H)∨
   ((MC a o kvs).go i H∧∃N:St→Hp→Prop,(∀σ' H',N σ' H'→∃m',m'<m∧W (i+1) m' σ' H')∧∀x H',(MC a o kvs).pO i H x H'→g x σ H' fun σ2 H2=>tb { nx:=N,ct:=N,bk:=fun σ'=>Th X (D.nx σ'),rt:=fun v=>Th X (D.rt v) } σ2 H2):=by
 refine⟨fun i m σ H=>m+i=kvs.length∧H a=some (.fN o (.dK kvs))∧Pv i σ (upd H a (.dK kvs)),⟨kvs.length,by omega,af,?_⟩,?_⟩
 ·rw[kL,eI (hl _ _ _ h0)];exact h0
 ·rintro i m σ H ⟨hm,hz,hp⟩
  by_cases hi:i<kvs.length
  ·refine .inr ⟨⟨hz,hi⟩,fun σ' H'=>H' a=some (.fN o (.dK kvs))∧Pv (i+1) σ' (upd H' a (.dK kvs)),fun σ' H' q=>⟨m - 1,by omega,by omega,q⟩,?_⟩
   rintro x H' ⟨rfl,k,v,DD,rfl⟩
   have:=hs i k v σ _ DD hp
   rw[kL,eI hz] at this
   exact this
  ·have e:i=kvs.length:=by omega
   subst e
   exact .inl ⟨⟨hz,Nat.le_refl _⟩,a,o,kvs,hz,nf,hd _ _ hp⟩
def Kh:V→Option Value
 | .ty n=>some (.type n)
 | .ref a=>some (.ref a)
 |_=>none
theorem iB {X:Cx}:gD X (.builtin "isinstance") (fun xs H Q=>∃x c cv t b,xs=[x,c]∧Kh c=some cv∧og X.K H x t∧PySem.W.kitOne X.K t cv=some b∧Q (.bl b) H):=by
 intro pins s σ H xs us Q I r h
 obtain⟨x,c,cv,t,b,rfl,hc,ty,e,q⟩:=h
 obtain⟨u,v,rfl,ru,rv⟩:=vals2 r
 have hv:v=cv:=by
  cases c<;>simp only [Kh,Option.some.injEq,reduceCtorEq] at hc
  ·cases (show v=Value.ref _ from rv);exact hc
  ·cases (show v=Value.type _ from rv);exact hc
 subst hv
 exact Ds I ru ty e fun tk=>⟨.bl b,H,I.tok tk,rfl,q⟩
theorem lW {X:Cx}:gD X (.type "dict") (fun xs H Q=>∃a kvs,xs=[.ref a]∧Rd H a (.dK kvs)∧∀p,H p=none→Q (.ref p) (upd H p (.dK kvs))):=by
 intro pins s σ H xs us Q I r h
 obtain⟨a,kvs,rfl,hk,q⟩:=h
 obtain⟨u,rfl,ru⟩:=vals1 r
 cases ru
 exact FQ I hk fun p s' hp I'=>⟨.ref p,_,I',rfl,q p hp⟩
theorem Ai {X:Cx}:gD X (.builtin "len") (fun xs H Q=>∃a kvs,xs=[.ref a]∧Rd H a (.dK kvs)∧Q (.int kvs.length) H):=by
 intro pins s σ H xs us Q I r h
 obtain⟨a,kvs,rfl,hk,q⟩:=h
 obtain⟨u,rfl,ru⟩:=vals1 r
 cases ru
 exact Se I hk fun t s' I'=>⟨.int kvs.length,H,I',⟨t,rfl⟩,q⟩
section
variable {X:Cx}
end
theorem jh:∀{kvs:List (Key×V)} {p:Key×V},(kvs.map (·.1)).Nodup→p∈kvs→b7 kvs p.1=some p.2
 |q::r,p,nd,hp=>by
  rw[List.map_cons,List.nodup_cons] at nd
  rcases List.mem_cons.mp hp with rfl|hr
  ·exact cO rfl
  ·rw[cP (fun e=>nd.1 (e▸List.mem_map_of_mem (f:=(·.1)) hr))]
   exact jh nd.2 hr
end L2
namespace L2
open PySem PySem.Spec PyProof.Rows
def tO (X:Cx) (pins:List (Addr×Obj)) (N:List Str) (scope:Scope) (cl:List (Str×Addr)) (fp:List Addr) (s:Shared) (H:Hp):Cx where
 prog:=X.prog
 w:=X.w
 K:=X.K
 mg:=X.mg
 base:=X.base
 A:=X.A
 N:=N
 s₀:=s
 H₀:=H
 env:=compEnvC scope cl s.heap.objs.size X.env
 outer:=X.stack
 stack:=X.stack
 ex:=fp
 fn:=fun _=>false
 calm:=X.calm
 pn:=X.pn++pins
 xe:=fun _ _=>False
structure Sv (X:Cx) (N:List Str) (fr:List (Option Nat)) (scope:Scope) (cl:List (Str×Addr)):Prop where
 Sw:closureFor scope X.env=pure cl
 kind:scope.kind= .function
 vI:∀y∈scope.names,y.2≠ .cell
 names:∀y∈scope.names,y.2= .local→scope.names.lookup y.1=some .local
 cells:∀x c,cl.lookup x=some c→X.env.cells.lookup x=some c
 has:∀x,((relabel scope X.env).names.lookup x=some .cell∨(relabel scope X.env).names.lookup x=some .free)→∃c,cl.lookup x=some c
 len:fr.length=N.length
 out:∀(i j:Nat) (x:Str),N[i]? =some x→fr[i]? =some (some j)→X.N[j]? =some x∧X.env.kindOf x=some .cell∧((relabel scope X.env).names.lookup x=some .cell∨(relabel scope X.env).names.lookup x=some .free)
end L2
namespace L2
open PySem PySem.Spec PyProof.Rows
def om (env:Env):List (Str×NameKind)→List (Str×Addr)→List (Str×Addr)
 | [],cs=>cs
 | (n,k)::r,cs=>om env r (if (k== .free)=true then (n,(env.cells.lookup n).getD 0)::cs else cs)
def yc (scope:Scope) (env:Env):List (Str×Addr):=om env scope.names []
theorem BI {env:Env}:∀{names:List (Str×NameKind)} (cs:List (Str×Addr)),(∀y∈names,y.2= .free→∃c,env.cells.lookup y.1=some c)→
  (forIn names cs fun (x:Str×NameKind) cs=>match x with
   | (name,kind)=>if (kind==NameKind.free)=true then do let c←cellOf env name;pure (ForInStep.yield ((name,c)::cs)) else pure (ForInStep.yield cs):Sem (List (Str×Addr)))=pure (om env names cs)
 | [],cs,_=>rfl
 | (n,k)::r,cs,h=>by
   rw[List.forIn_cons]
   dsimp only
   have ih:=fun cs=>BI (env:=env) (names:=r) cs fun y hy=>h y (List.mem_cons_of_mem _ hy)
   by_cases hk:(k==NameKind.free)=true
   ·obtain⟨c,hc⟩:=h (n,k) (List.mem_cons_self ..) (by simpa using hk)
    rw[if_pos hk,show om env ((n,k)::r) cs=om env r ((n,c)::cs) by rw[om,if_pos hk,hc];rfl]
    have e:cellOf env n=pure c:=by unfold cellOf;rw[hc]
    rw[e]
    exact ih _
   ·rw[if_neg hk,show om env ((n,k)::r) cs=om env r cs by rw[om,if_neg hk]]
    exact ih _
theorem Ki {scope:Scope} {env:Env} (h:∀y∈scope.names,y.2= .free→∃c,env.cells.lookup y.1=some c):closureFor scope env=pure (yc scope env):=by
 have t:=BI (env:=env) [] h
 have e:closureFor scope env=((forIn scope.names ([]:List (Str×Addr)) fun (x:Str×NameKind) cs=>match x with
   | (name,kind)=>if (kind==NameKind.free)=true then do let c←cellOf env name;pure (ForInStep.yield ((name,c)::cs)) else pure (ForInStep.yield cs)) >>= fun cs=>pure cs:Sem (List (Str×Addr))):=rfl
 rw[e,t]
 rfl
theorem qP {env:Env}:∀{names:List (Str×NameKind)} {cs:List (Str×Addr)},(∀y∈names,y.2= .free→∃c,env.cells.lookup y.1=some c)→(∀x c,cs.lookup x=some c→env.cells.lookup x=some c)→∀x c,(om env names cs).lookup x=some c→env.cells.lookup x=some c
 | [],_,_,hc,x,c,h=>hc x c h
 | (n,k)::r,cs,hn,hc,x,c,h=>by
   rw[om] at h
   refine qP (names:=r) (fun y hy=>hn y (List.mem_cons_of_mem _ hy)) (fun x c h=>?_) x c h
   by_cases hk:(k==NameKind.free)=true
   ·rw[if_pos hk] at h
    obtain⟨c',JE⟩:=hn (n,k) (List.mem_cons_self ..) (by simpa using hk)
    rw[List.lookup_cons] at h
    cases e:x==n with
    |true=>
     rw[e] at h
     have ex:x=n:=by simpa using e
     subst ex
     rw[JE] at h ⊢
     exact h
    |false=>
     rw[e] at h
     exact hc x c h
   ·rw[if_neg hk] at h
    exact hc x c h
theorem yd {env:Env}:∀{names:List (Str×NameKind)} {cs:List (Str×Addr)} {x:Str},((x,NameKind.free)∈names∨∃c,cs.lookup x=some c)→∃c,(om env names cs).lookup x=some c
 | [],_,_,h=>h.elim (fun z=>by cases z) fun z=>z
 | (n,k)::r,cs,x,h=>by
   rw[om]
   refine yd (names:=r) ?_
   by_cases hk:(k==NameKind.free)=true
   ·rw[if_pos hk,List.lookup_cons]
    cases e:x==n with
    |true=>exact .inr ⟨_,rfl⟩
    |false=>
     rcases h with h|h
     ·rcases List.mem_cons.mp h with z|z
      ·cases z
       simp at e
      ·exact .inl z
     ·exact .inr h
   ·rw[if_neg hk]
    rcases h with h|h
    ·rcases List.mem_cons.mp h with z|z
     ·cases z
      exact absurd rfl hk
     ·exact .inl z
    ·exact .inr h
theorem kd {env:Env} (x:Str):∀names:List (Str×NameKind),
  (names.map fun (y:Str×NameKind)=>match y with
   | (n,k)=>if (k==NameKind.free&&env.scope.kind== .function&&env.kindOf n==some .cell)=true then (n,NameKind.cell) else (n,k)).lookup x
   =(names.lookup x).map fun k=>if (k==NameKind.free&&env.scope.kind== .function&&env.kindOf x==some .cell)=true then NameKind.cell else k
 | []=>rfl
 | (n,k)::r=>by
   have ih:=kd (env:=env) x r
   rw[List.map_cons,List.lookup_cons]
   by_cases e:(x==n)=true
   ·have ex:x=n:=by simpa using e
    subst ex
    dsimp only
    by_cases hc:(k==NameKind.free&&env.scope.kind== .function&&env.kindOf x==some .cell)=true
    ·rw[if_pos hc,List.lookup_cons,beq_self_eq_true]
     dsimp only [Option.map]
     rw[if_pos hc]
    ·rw[if_neg hc,List.lookup_cons,beq_self_eq_true]
     dsimp only [Option.map]
     rw[if_neg hc]
   ·have e':(x==n)=false:=by simpa using e
    dsimp only
    by_cases hc:(k==NameKind.free&&env.scope.kind== .function&&env.kindOf n==some .cell)=true
    ·rw[if_pos hc,List.lookup_cons,e']
     exact ih
    ·rw[if_neg hc,List.lookup_cons,e']
     exact ih
structure Kj (sc scope:Scope) (NX N:List Str) (fr:List (Option Nat)):Prop where
 Sx:sc.kind= .function
 kind:scope.kind= .function
 vI:∀y∈scope.names,y.2≠ .cell
 names:∀y∈scope.names,y.2= .local→scope.names.lookup y.1=some .local
 free:∀y∈scope.names,y.2= .free→sc.names.lookup y.1=some .cell
 len:fr.length=N.length
 out:((List.range N.length).all fun i=>match fr[i]? with
  |some (some j)=>(match N[i]? with
   |some x=>(NX[j]? ==some x)&&(scope.names.lookup x==some .free)
   |none=>false)
  |_=>true)=true
theorem oo {names:List (Str×NameKind)} {x:Str} {k:NameKind} (h:names.lookup x=some k):(x,k)∈names:=PySem.mem_of_lookup h
theorem Kj.ye {X:Cx} {sc scope:Scope} {NX N:List Str} {fr:List (Option Nat)} (B:Kj sc scope NX N fr) (e1:X.env.scope=sc) (e2:X.N=NX) (ok:X.Ok):Sv X N fr scope (yc scope X.env):=by
 subst e1 e2
 have fc:∀y∈scope.names,y.2= .free→∃c,X.env.cells.lookup y.1=some c:=fun y hy hf=>ok.has y.1 (.inl (B.free y hy hf))
 have lk:∀x,(relabel scope X.env).names.lookup x=(scope.names.lookup x).map fun k=>if (k==NameKind.free&&X.env.scope.kind== .function&&X.env.kindOf x==some .cell)=true then NameKind.cell else k:=fun x=>kd x scope.names
 have Og:∀x,scope.names.lookup x=some .free→(relabel scope X.env).names.lookup x=some .cell:=fun x hx=>by
  have hk:X.env.kindOf x=some .cell:=B.free (x, .free) (oo hx) rfl
  rw[lk,hx,Option.map_some,hk,B.Sx]
  rfl
 refine⟨Ki fc,B.kind,B.vI,B.names,fun x c h=>qP fc (fun x c h=>by cases h) x c h,fun x h=>yd (.inl ?_),B.len,fun i j x h1 h2=>?_⟩
 ·rw[lk] at h
  cases e:scope.names.lookup x with
  |none=>rw[e] at h;rcases h with h|h<;>cases h
  |some k=>
   rw[e,Option.map_some] at h
   have hm:=oo e
   cases k with
   |free=>exact hm
   |cell=>exact absurd rfl (B.vI _ hm)
   |_=>rcases h with h|h<;>simp at h
 ·have hi:i<N.length:=(List.getElem?_eq_some_iff.mp h1).1
  have:=List.all_eq_true.mp B.out i (List.mem_range.mpr hi)
  rw[h2] at this
  dsimp only at this
  rw[h1] at this
  dsimp only at this
  rw[Bool.and_eq_true] at this
  have a1:X.N[j]? =some x:=by simpa using this.1
  have a2:scope.names.lookup x=some .free:=by simpa using this.2
  exact⟨a1,B.free (x, .free) (oo a2) rfl, .inl (Og x a2)⟩
end L2
namespace L2
open PySem PySem.Spec PyProof.Rows
def startB (fr:List (Option Nat)) (σ:St):St:=fr.map fun o=>o.bind fun j=>(σ[j]?).join
theorem Aj {fr:List (Option Nat)} {σ:St} {i:Nat} {v:V} (h:(startB fr σ)[i]? =some (some v)):∃j,fr[i]? =some (some j)∧σ[j]? =some (some v):=by
 unfold startB at h
 rw[List.getElem?_map] at h
 cases e:fr[i]? with
 |none=>rw[e] at h;cases h
 |some o=>
  rw[e] at h
  cases o with
  |none=>cases h
  |some j=>
   have h':(σ[j]?).join=some v:=Option.some.inj h
   cases q:σ[j]? with
   |none=>rw[q] at h';cases h'
   |some z=>rw[q] at h';exact⟨j,rfl,by rw[q];exact congrArg some h'⟩
section
variable {X:Cx} {pins:List (Addr×Obj)} {σ:St} {H:Hp} {s:Shared} {N:List Str} {fr:List (Option Nat)} {scope:Scope} {cl:List (Str×Addr)} {fp:List Addr}
theorem FY (B:Sv X N fr scope cl) (I:Inv X pins σ H s) (f:∀b∈fp,lI X pins H b∧b<s.heap.objs.size):(tO X pins N scope cl fp s H).Ok where
 mod:=I.mod
 kind:=B.kind
 glob:=I.ok.glob
 blt:=I.ok.blt
 above:=Nat.le_refl _
 inj:=fun x y c h1 h2=>I.ok.inj x y c (B.cells x c h1) (B.cells y c h2)
 has:=fun x h=>B.has x h
 JT:=fun x c h=>by cases h
 hd:=I.ok.hd
 frames:=I.ok.frames
 Ms:= .inl rfl
 Q9:=fun b hb=>⟨Nat.ne_of_lt (f b hb).2,fun x c h=>(f b hb).1.2.2.2.2.1 x c (B.cells x c h)⟩
 bs:=I.bs
 Dp:=Nat.le_trans I.ok.Dp I.sz
 vn:=fun b o e hb=>by
  rcases (f b hb).1.2.2.2.1 with h|h
  ·exact I.ok.vn b o e h
  ·exact absurd (Nat.lt_of_lt_of_le (Heap.lt_size e) (Nat.le_trans I.ok.Dp h)) (Nat.lt_irrefl _)
 vo:=fun b hb h=>by
  rcases List.mem_cons.mp (I.vp b h) with z|z
  ·exact(f b hb).1.2.1 z
  ·exact(f b hb).1.2.2.1 z
 lH:=I.stack
 Fw:=I.vq
theorem DE {h1:Heap} {t1:Nat} (B:Sv X N fr scope cl) (I:Inv X pins σ H s) (f:∀b∈fp,lI X pins H b∧b<s.heap.objs.size) (zO:h1.Ns s.heap.objs.size fun _=>none)
  (Oh:∀b o,s.heap.get? b=some o→h1.get? b=some o):Inv (tO X pins N scope cl fp s H) [] (startB fr σ) H { s with heap:=h1,toks:=t1 }:=by
 obtain⟨m,hm,hl⟩:=I.loc
 refine⟨FY B I f,rfl,I.bare,Un.kept Oh,⟨_,zO,fun i x v e1 e2 _=>?_⟩,fun x c h=>?_,I.aU.fresh (Nat.le_refl _),fun x c h=>I.gC x c (B.cells x c h),fun p hp=>?_,I.aU.kept Oh,?_⟩
 ·obtain⟨j,ej,es⟩:=Aj e2
  obtain⟨o1,o2,o3⟩:=B.out i j x e1 ej
  obtain⟨u,ru,L⟩:=hl j x v o1 es (.inr (.inl o2))
  refine⟨u,ru, .inr ⟨o3,?_⟩⟩
  obtain⟨c,hc⟩:=B.has x o3
  rcases L with ⟨k1,_⟩ | ⟨_,c',JE,cc⟩
  ·rw[o2] at k1;cases k1
  ·rw[B.cells x c hc] at JE
   cases JE
   exact⟨c,hc,cc.keeps Oh⟩
 ·obtain⟨v,hv⟩:=I.cell x c (B.cells x c h)
  exact⟨v,hv.keeps Oh⟩
 ·have yf:p∈X.pn++pins:=by rw[List.append_nil] at hp;exact hp
  obtain⟨p1,p2,p3,p4,p5⟩:=I.pin p yf
  exact⟨Oh _ _ p1,p2,Nat.ne_of_lt (Heap.lt_size p1),fun z=>(List.mem_cons.mp (I.vp _ z)).elim p3 p4,p5⟩
 ·show (startB fr σ).length=N.length
  unfold startB
  rw[List.length_map,B.len]
end
def Oi (X:Cx) (cs:List Expr) (t:TT):Prop:=
 ∀(pins:List (Addr×Obj)) (s:Shared) (σ:St) (H:Hp) (Q:Bool→Hp→Prop),Inv X pins σ H s→t σ H Q→
  wpAny (model X.prog X.w) X.A (forIn cs true fun c r=>if r=true then do let ok←isTrue c X.env (eval c X.env);pure (ForInStep.yield ok) else pure (ForInStep.yield r)) (TP X pins σ Q) X.xe s
def tYes:TT:=fun _ H Q=>Q true H
theorem f7 {X:Cx}:Oi X [] tYes:=fun pins s σ H Q I h=>by
 rw[List.forIn_nil]
 exact wpAny_pure ⟨H,I,h⟩
theorem mD {X:Cx} {c:Expr} {t:TT} (h:PT X c t):Oi X [c] t:=fun pins s σ H Q I q=>by
 rw[List.forIn_cons,if_pos rfl]
 refine wpAny_bind (wpAny_bind (bZ (h pins s σ H Q I q) fun b s' z=>?_))
 refine wpAny_pure ?_
 dsimp only
 rw[List.forIn_nil]
 exact wpAny_pure z
section
variable {prog:Program} {w:World} {A:Around} {R:Result→Shared→Prop} {s:Shared}
theorem comp_loop {elt tg iter:Expr} {ifs:List Expr} {scope:Scope} {pos:Pos} {it acc:Value} {env:Env} (J:Nat→Shared→Prop)
  (turn:∀n s,J n s→wpAny (model prog w) A (pyNext it) (fun r s₁=>match r with
   |none=>R (.ok .next) s₁
   |some v=>wpAny (model prog w) A (letOwnedTupleGo tg it v) (fun _ sg=>wpAny (model prog w) A (assign tg env v) (fun _ s₂=>
     wpAny (model prog w) A (forIn ifs true fun c r=>if r=true then do let ok←isTrue c env (eval c env);pure (ForInStep.yield ok) else pure (ForInStep.yield r)) (fun ok s₃=>
      if ok=true then wpAny (model prog w) A (eval elt env) (fun x s₄=>wpAny (model prog w) A (call (.builtin "list.append") [acc,x]) (fun _ s₅=>∃m,m<n∧J m s₅) (fun _ _=>False) s₄) (fun _ _=>False) s₃
      else∃m,m<n∧J m s₃) (fun _ _=>False) s₂) (fun _ _=>False) sg) (fun _ _=>False) s₁) (fun _ _=>False) s)
  (n:Nat) (h:J n s):codeAny (model prog w) A (.compLoop (.ListComp elt [⟨tg,iter,ifs,0⟩] scope pos) 0 it acc env) R s:=by
 refine codeAny_loop rfl J (fun n s hJ=>?_) n h
 show wpAny _ A ((compTurn (.ListComp elt [⟨tg,iter,ifs,0⟩] scope pos) 0 it acc env).onRaise (fun x=>do noteFrame x env;theTreesLotGoes x)) _ _ s
 refine wpAny_noted ?_
 rw[compTurn_list]
 have no:∀{P:Value→Shared→Prop} (a:Value) (s:Shared),(fun (_:Value) (_:Shared)=>False) a s→P a s:=fun _ _ z=>False.elim z
 refine wpAny_bind (wpAny_standAt (wpAny_bind (wpAny_mono (turn n s hJ) (fun r s₁ h₁=>?_) no)))
 cases r with
 |none=>exact wpAny_pure h₁
 |some v=>
  refine wpAny_bind (wpAny_mono h₁ (fun _ sg hg=>?_) no)
  refine wpAny_bind (wpAny_mono hg (fun _ s₂ h₂=>wpAny_bind (wpAny_mono h₂ (fun ok s₃ h₃=>?_) no)) no)
  cases ok with
  |false=>exact wpAny_pure ⟨rfl,h₃⟩
  |true=>exact wpAny_bind (wpAny_bind (wpAny_mono h₃ (fun x s₄ h₄=>wpAny_bind (wpAny_mono h₄ (fun _ s₅ h₅=>wpAny_pure (wpAny_pure ⟨rfl,h₅⟩)) no)) no))
end
def MD (wi:TI) (fr:List (Option Nat)) (g:TG) (tt:TT) (te:TE):TE:=fun σ H Q=>wi σ H fun J H1=>∀D,H1 D=none→∃W:Nat→Nat→St→Hp→Prop,(∃m,W 0 m (startB fr σ) (upd H1 D (.lst [])))∧∀i m σ H,W i m σ H→
 (J.stop i H∧Q (.ref D) H)∨(J.go i H∧∀x H2,J.pO i H x H2→g x σ H2 fun σ3 H3=>tt σ3 H3 fun b H4=>if b=true
   then te σ3 H4 fun y H5=>∃ys,H5 D=some (.lst ys)∧ys.length<sizeLine∧∃m',m'<m∧W (i+1) m' σ3 (upd H5 D (.lst (ys++[y])))
   else∃m',m'<m∧W (i+1) m' σ3 H4)
section
variable {X:Cx} {elt tg iter:Expr} {ifs:List Expr} {scope:Scope} {pos:Pos} {N:List Str} {fr:List (Option Nat)} {cl:List (Str×Addr)} {wi:TI} {g:TG} {tt:TT} {te:TE}
theorem Kk (B:Sv X N fr scope cl) (hc:X.calm=true)
  (hg:∀pins fp s H,PG (tO X pins N scope cl fp s H) tg g) (ht:∀pins fp s H,Oi (tO X pins N scope cl fp s H) ifs tt) (he:∀pins fp s H,PE (tO X pins N scope cl fp s H) elt te)
  {pins:List (Addr×Obj)} {s3:Shared} {σ:St} {H3:Hp} {Q:VK} {it D:Addr} {fp:List Addr} {tn:Nat→Heap→Prop} {J:It} (I3:Inv X pins σ H3 s3) (T:Turn X.prog X.w X.K tg J fp it tn) (YY:tn 0 s3.heap) (f3:∀b∈fp,lI X pins H3 b∧b<s3.heap.objs.size)
  {W:Nat→Nat→St→Hp→Prop} {m0:Nat} (w0:W 0 m0 (startB fr σ) H3)
  (turn:∀i m σ H,W i m σ H→(J.stop i H∧Q (.ref D) H)∨(J.go i H∧∀x H2,J.pO i H x H2→g x σ H2 fun σ3 H3=>tt σ3 H3 fun b H4=>if b=true
    then te σ3 H4 fun y H5=>∃ys,H5 D=some (.lst ys)∧ys.length<sizeLine∧∃m',m'<m∧W (i+1) m' σ3 (upd H5 D (.lst (ys++[y])))
    else∃m',m'<m∧W (i+1) m' σ3 H4))
  {R:Result→Shared→Prop} (hR:∀s' H',Inv X pins σ H' s'→lI X pins H' s3.heap.objs.size→(∃m,s'.heap.Ns s3.heap.objs.size m)→Q (.ref D) H'→R (.ok .next) s')
  {h₁:Heap} {t1:Nat} (zO:h₁.Ns s3.heap.objs.size fun _=>none) (ME:∀b o,s3.heap.get? b=some o→h₁.get? b=some o):
  codeAny (model X.prog X.w) X.A (.compLoop (.ListComp elt [⟨tg,iter,ifs,0⟩] scope pos) 0 (.ref it) (.ref D) (compEnvC scope cl s3.heap.objs.size X.env)) R { s3 with heap:=h₁,toks:=t1 }:=by
 have Ib:=DE (t1:=t1) B I3 f3 zO ME
 have z8:∀{H':Hp},(∀b∈fp,H' b=none)→∀b∈fp,lI (tO X pins N scope cl fp s3 H3) [] H' b:=fun hn b hb=>
  ⟨hn b hb,Nat.ne_of_lt (f3 b hb).2,(FY B I3 f3).vo b hb, .inl hb,fun x c h=>(f3 b hb).1.2.2.2.2.1 x c (B.cells x c h),fun p hp=>(f3 b hb).1.2.2.2.2.2 p (by rw[List.append_nil] at hp;exact hp)⟩
 refine comp_loop (fun n s'=>∃i σ' H',Inv (tO X pins N scope cl fp s3 H3) [] σ' H' s'∧tn i s'.heap∧(∀b∈fp,H' b=none)∧W i n σ' H') ?_ m0
  ⟨0,_,_,Ib,T.keep _ _ _ YY fun b _ o e=>ME b o e,fun b hb=>(f3 b hb).1.1,w0⟩
 rintro n s4 ⟨i,σ4,H4,I4,st4,fr4,w4⟩
 rcases turn i n σ4 H4 w4 with ⟨stop,qn⟩ | ⟨go,step⟩
 ·refine bZ (T.done (tO X pins N scope cl fp s3 H3) rfl rfl rfl hc i [] s4 σ4 H4 _ I4 (z8 fr4) st4 stop) fun r s5 ⟨hr,I5⟩=>?_
  subst hr
  have J5:Inv X pins σ H4 s5:=I3.Fy (ch:=fp) I5.os I5.base I5.aU I5.bare fun b hb=>⟨(f3 b hb).1.2.2.2.1,(f3 b hb).1.2.1,(f3 b hb).1.2.2.2.2.1,(f3 b hb).1.2.2.2.2.2⟩
  obtain⟨mm,Oj,_⟩:=I5.loc
  exact hR s5 H4 J5 (I3.z6 (Nat.le_refl _) I5.free) ⟨mm,Oj⟩ qn
 ·refine bZ (T.item (tO X pins N scope cl fp s3 H3) rfl rfl rfl hc i [] s4 σ4 H4 _ I4 (z8 fr4) st4 go) fun r s5 ⟨u,hr,h5⟩=>?_
  subst hr
  refine bZ h5 fun _ s6 ⟨x,H6,I6,r6,y6,st6,fr6⟩=>?_
  have I6':=I6.pinned (z8 fr6) (T.obj _ _ st6)
  have back:∀{s7:Shared} {σ7:St} {H7:Hp} {m':Nat},Inv (tO X pins N scope cl fp s3 H3) ([]++qC fp s6.heap) σ7 H7 s7→m'<n→W (i+1) m' σ7 H7→
    ∃m,m<n∧∃i σ' H',Inv (tO X pins N scope cl fp s3 H3) [] σ' H' s7∧tn i s7.heap∧(∀b∈fp,H' b=none)∧W i m σ' H':=fun {s7 σ7 H7 m'} I7 hm w7=>by
   refine⟨m',hm,i+1,σ7,H7,I7.gg,T.keep _ _ _ st6 fun b hb o e=>(I7.pin (b,o) (List.mem_append_right _ (List.mem_append_right _ (jx hb e)))).1,fun b hb=>?_,w7⟩
   obtain⟨o,e,d⟩:=T.obj _ _ st6 b hb
   exact(I7.pin (b,o) (List.mem_append_right _ (List.mem_append_right _ (jx hb e)))).2.1
  refine bZ (hg _ _ _ _ _ s6 σ4 H6 x u _ I6' r6 (step x H6 y6)) fun _ s7 ⟨σ7,H7,I7,q7⟩=>?_
  refine bZ (ht _ _ _ _ _ s7 σ7 H7 _ I7 q7) fun ok s8 ⟨H8,I8,q8⟩=>?_
  cases ok with
  |false=>
   rw[if_neg (by decide)] at q8 ⊢
   obtain⟨m',hm,w8⟩:=q8
   exact back I8 hm w8
  |true=>
   rw[if_pos rfl] at q8 ⊢
   refine bZ (he _ _ _ _ _ s8 σ7 H8 _ I8 q8) fun y s9 ⟨v9,H9,I9,r9,ys,hD9,hl9,m',hm,w9⟩=>?_
   refine bZ (d5 _ s9 σ7 H9 (.ref D) [v9] _ [y] (fun _ H'=>W (i+1) m' σ7 H') I9 rfl (.cons r9 .nil) ⟨_,ys,v9,rfl,rfl,hD9,hl9,w9⟩) fun _ yg ⟨_,MF,I10,_,q10⟩=>?_
   exact back I10 hm q10
theorem yh (B:Sv X N fr scope cl) (hc:X.calm=true)
  (hg:∀pins fp s H,PG (tO X pins N scope cl fp s H) tg g) (ht:∀pins fp s H,Oi (tO X pins N scope cl fp s H) ifs tt) (he:∀pins fp s H,PE (tO X pins N scope cl fp s H) elt te)
  {pins:List (Addr×Obj)} {s2:Shared} {σ:St} {H2:Hp} {Q:VK} {E:Value→Shared→Prop} {it:Addr} {fp:List Addr} {tn:Nat→Heap→Prop} {J:It} (I2:Inv X pins σ H2 s2) (T:Turn X.prog X.w X.K tg J fp it tn) (JW:tn 0 s2.heap) (f2:∀b∈fp,lI X pins H2 b)
  (q:∀D,H2 D=none→∃W:Nat→Nat→St→Hp→Prop,(∃m,W 0 m (startB fr σ) (upd H2 D (.lst [])))∧∀i m σ H,W i m σ H→
   (J.stop i H∧Q (.ref D) H)∨(J.go i H∧∀x H2,J.pO i H x H2→g x σ H2 fun σ3 H3=>tt σ3 H3 fun b H4=>if b=true
     then te σ3 H4 fun y H5=>∃ys,H5 D=some (.lst ys)∧ys.length<sizeLine∧∃m',m'<m∧W (i+1) m' σ3 (upd H5 D (.lst (ys++[y])))
     else∃m',m'<m∧W (i+1) m' σ3 H4))
  {RR:Value→Addr→Result→Shared→Prop}
  (hRR:∀D C s' H',Inv X pins σ H' s'→lI X pins H' C→(∃m,s'.heap.Ns C m)→Q (.ref D) H'→RR (.ref D) C (.ok .next) s'):
  wpAny (model X.prog X.w) X.A (newList []) (fun acc s₃=>wpAny (model X.prog X.w) X.A (newFunctionEnv scope X.env.globals cl [] X.env.qual none .none (some X.env)) (fun Sy s₄=>
   codeAny (model X.prog X.w) X.A (.compStart (.ListComp elt [⟨tg,iter,ifs,0⟩] scope pos) 0 (.ref it) acc { Sy with scope:=relabel scope X.env }) (RR acc Sy.locals) s₄) E s₃) E s2:=by
 have hD:H2 s2.heap.objs.size=none:=I2.aU.fresh (Nat.le_refl _)
 obtain⟨W,⟨m0,w0⟩,turn⟩:=q s2.heap.objs.size hD
 have I3:=I2.So (ys:=[]) (its:=[]) (t':=s2.toks) .nil (by decide)
 have lt2:∀b∈fp,b<s2.heap.objs.size:=fun b hb=>by
  obtain⟨o,e,_⟩:=T.obj _ _ JW b hb
  exact Heap.lt_size e
 refine wpAny_newObj_type (wpAny_newFunctionEnv B.vI (by intro y hy;simp at hy) (fun h₁ zO Oh=>?_) B.kind)
 have up2:∀b o,s2.heap.get? b=some o→(s2.heap.push { cls:= .type "list",data:= .seq ([]:List Value).toArray }).get? b=some o:=fun b o e=>Heap.get?_push_of_some _ e
 have ME:∀b o,(s2.heap.push { cls:= .type "list",data:= .seq ([]:List Value).toArray }).get? b=some o→h₁.get? b=some o:=fun b o e=>Oh.extBut b o (Nat.ne_of_lt (Heap.lt_size e)) (Heap.get?_push_of_some _ e)
 have f3:∀b∈fp,lI X pins (upd H2 s2.heap.objs.size (.lst [])) b∧b< (s2.heap.push { cls:= .type "list",data:= .seq ([]:List Value).toArray }).objs.size:=fun b hb=>by
  refine⟨⟨?_,(f2 b hb).2⟩,?_⟩
  ·rw[ah (Nat.ne_of_lt (lt2 b hb))]
   exact(f2 b hb).1
  ·rw[Heap.size_push]
   exact Nat.lt_succ_of_lt (lt2 b hb)
 have fin:=Kk (iter:=iter) (pos:=pos) (D:=s2.heap.objs.size) (t1:=s2.toks) (R:=RR (.ref s2.heap.objs.size) (s2.heap.push { cls:= .type "list",data:= .seq ([]:List Value).toArray }).objs.size) B hc hg ht he I3 T (T.keep _ _ _ JW fun b _ o e=>up2 b o e) f3 w0 turn
  (fun s' H' J' f m q=>hRR _ _ s' H' J' f m q) zO ME
 exact codeAny_compStart_list fin (T.self _ 0 _ _ _ (T.keep _ _ _ JW fun b _ o e=>ME b o (up2 b o e)) fin)
theorem fy {sc:Scope} {NX:List Str} (S:Kj sc scope NX N fr) (e1:X.env.scope=sc) (e2:X.N=NX) (hc:X.calm=true) (hi:PI X tg iter wi)
  (hg:∀pins fp s H,PG (tO X pins N scope (yc scope X.env) fp s H) tg g) (ht:∀pins fp s H,Oi (tO X pins N scope (yc scope X.env) fp s H) ifs tt) (he:∀pins fp s H,PE (tO X pins N scope (yc scope X.env) fp s H) elt te)
  (hs:∀x,foldedSetIterable iter X.env x=pure x:=by intro _;rfl):PE X (.ListComp elt [⟨tg,iter,ifs,0⟩] scope pos) (MD wi fr g tt te):=by
 intro pins s σ H Q I h
 have B:=S.ye e1 e2 I.ok
 rw[eval_ListComp]
 refine wpAny_comprehension_free (use:=none) rfl hs B.Sw B.kind B.names (bZ (hi pins s σ H _ I h) fun v s1 h1=>bZ h1 fun YX s2 h2=>?_)
 obtain⟨it,fp,tn,J,H2,e,I2,T,JW,f2,q⟩:=h2
 subst e
 refine yh (RR:=fun acc C=>compPost (model X.prog X.w) X.A X.xe none (EP X pins σ Q) acc C) B hc hg ht he I2 T JW f2 q ?_
 intro D C s' H' J' fC ⟨m,hm⟩ qn
 refine⟨m,hm,fun h' FZ=>⟨.ref D,H',?_,rfl,qn⟩⟩
 obtain⟨f0,f1,_,f3,f4,f5⟩:=fC
 exact J'.turned (t':=s'.toks) (fun b o hb e=>(FZ.2 b hb).trans e) f0 f1 f3 f4 f5
end
end L2
namespace PySem
namespace F
theorem mE:entryFor table "dict.update.loop" =some Builtin.«dict.update.loop» :=entryFor_of_tree (by kernel_rfl)
theorem gL:plainId "dict.update.loop" =true:=by decide+kernel
theorem vJ:typeLookup (.type "list") "keys" =pure none:=by rw[typeLookup_type,builtinLookup_eq_fast];kernel_rfl
end F
section
variable {prog:Program} {w:World} {K:Type} [DecidableEq K] {knd:KeyKind prog w K} {A:Around} {E:Value→Shared→Prop} {s:Shared}
theorem Ak {a:Addr} {xs:Array Value} {k:Nat} {sl:Array (Option Value)} {Q:Option Value→Shared→Prop}
  (hx:s.heap.get? a=some { cls:= .type "list",dict:=none,data:= .seq xs k,slots:=sl }) (hA:A.handled=none)
  (h:∀h' tk,(∀b o,s.heap.get? b=some o→h'.get? b=some o)→Q none { s with heap:=h',toks:=tk }):wpAny (model prog w) A (getAttr? (.ref a) "keys") Q E s:=by
 obtain⟨hp,g,d,tk,os⟩:=s
 have hT:∀Ol,(⟨hp,g,d,Ol,os⟩:Shared).TypeIs (.ref a) "list" :=fun _=>⟨_,hx,rfl⟩
 have f1:=sub_AttributeError
 have f3:=F.slot_list_getattribute.lookup
 have f4:=F.slot_list_getattribute.bind (.ref a)
 have f5:=am_list_getattr_none
 unfold getAttr? getAttrBy? getAttrBy
 repeat (any_goals (first|assumption|exact hT _| ((with_reducible show wpAny _ _ (call (Value.builtin "list.__getattribute__") _ _) _ _ _);refine call_meets F.slot_list_getattribute (hT _) am_entry_list_getattribute (F.args_list_getattribute_2 _ _) (meets_getattribute_miss_list a xs k sl "keys" _ F.vJ (by decide+kernel) (by decide+kernel)) ⟨hx,hA,fun h' Ol e hx'=>?_⟩) |wp_step))
 obtain⟨t',u',he⟩:=hx'.there
 show wpAny _ _ (getattributeRaised _ _ _ _ _ _ _) _ _ _
 unfold getattributeRaised
 repeat (any_goals (first|assumption|wp_step))
 all_goals exact h h' Ol hx'.keeps
theorem Om {d it l:Addr} {res:Value} {R:Result→Shared→Prop} {ps:List (Addr×K×Value×Value)} (hh:A.handled=none) (hdl:d≠l) (pf:d≠it) (yi:it≠l)
  (Kl:∀p∈ps,p.1≠d∧p.1≠it∧knd.is p.2.1 p.2.2.1=true):
  ∀(n i:Nat) (s:Shared) (kvs:List (K×Value)),ps.length - i=n→i≤ps.length→s.heap.IsListIter it l i→s.heap.IsList l (ps.map fun p=>Value.ref p.1).toArray→
   (∀p∈ps,s.heap.IsTuple p.1 #[p.2.2.1,p.2.2.2])→s.heap.DictOf knd d kvs→kvs.length+(ps.length - i)≤sizeLine→
   (∀h' tk,h'.DictOf knd d ((ps.drop i).foldl (fun acc p=>stored acc p.2.1 p.2.2.2) kvs)→(∀b o,b≠d→b≠it→s.heap.get? b=some o→h'.get? b=some o)→R (.ok (.ret res)) { s with heap:=h',toks:=tk })→
   codeAny (model prog w) A (.builtin "dict.update.loop" ⟨[.ref d, .ref it,rawInt i,res],[]⟩) R s:=by
 intro n
 induction n with
 |zero=>
  intro i s kvs hn hi hit hl ht hd hsz hR
  refine codeAny_builtin F.mE ?_
  rw[Around.under_plainId F.gL _]
  show wpAny _ A.in1 (pyNext (.ref it) >>= _) _ _ s
  refine wpAny_bind (wpAny_pyNext_list_end hh hit hl (by simp;omega) fun h' eb=>?_)
  show wpAny _ A.in1 (Builtin.Dict.addKeywords d [] >>= fun _=>ret res) _ _ _
  have e:ps.drop i=[]:=List.drop_eq_nil_of_le (by omega)
  rw[e] at hR
  exact wpAny_bind (wpAny_pure (wpAny_pure (hR h' s.toks (hd.extBut eb pf) fun b o _ hb q=>eb b o hb q)))
 |succ n ih=>
  intro i s kvs hn hi hit hl ht hd hsz hR
  have sN:i<ps.length:=by omega
  have hp:=ps.get_mem ⟨i,sN⟩
  have JH:ps.drop i=ps[i]::ps.drop (i+1):=List.drop_eq_getElem_cons sN
  obtain⟨n1,n2,hk⟩:=Kl _ (List.getElem_mem sN)
  refine codeAny_builtin F.mE ?_
  rw[Around.under_plainId F.gL _]
  show wpAny _ A.in1 (pyNext (.ref it) >>= _) _ _ s
  refine wpAny_bind (wpAny_pyNext_list_item hit hl (x:= .ref ps[i].1) (by simp [sN]) fun h1 hit1 Y4=>?_)
  have ht1:∀p∈ps,h1.IsTuple p.1 #[p.2.2.1,p.2.2.2]:=fun p hp=>by
   obtain⟨o,q,r⟩:=ht p hp
   exact⟨o,(Y4.2 _ (Kl p hp).2.1).trans q,r⟩
  obtain⟨o,ho,hc,m,hdat⟩:=ht1 _ (List.getElem_mem sN)
  have Ff:h1.DictOf knd d kvs:=hd.sameBut Y4 pf
  have zP:h1.IsList l (ps.map fun p=>Value.ref p.1).toArray:=hl.extBut Y4.extBut (Ne.symm yi)
  show wpAny _ A.in1 (holding [Value.ref ps[i].1] _ >>= _) _ _ _
  refine wpAny_bind (wpAny_holding (wpAny_bind ?_))
  refine wpAny_tryCatch ?_
  unfold Builtin.Dict.pairItems
  refine wpAny_bind (wpAny_typeOf (T:="tuple") ⟨o,ho,hc⟩ ?_)
  rw[if_pos (by decide)]
  refine wpAny_bind (wpAny_seqItems ho hdat (wpAny_pure ?_))
  show wpAny _ A.in1 (holding [ps[i].2.2.1,ps[i].2.2.2] (dictSet d ps[i].2.2.1 ps[i].2.2.2)) _ _ _
  refine wpAny_holding (wpAny_dictSet_pairs hk Ff (fun h2 hd2 Y5=>?_) (by omega))
  have hc1:((i:Int)+1)=((i+1 :Nat):Int):=by push_cast;rfl
  have up:∀b o,b≠d→b≠it→s.heap.get? b=some o→h2.get? b=some o:=fun b o q1 q2 q=>(Y5.2 b q1).trans ((Y4.2 b q2).trans q)
  refine wpAny_pure ⟨plainId_quiet F.gL _,?_⟩
  show codeAny _ _ (.builtin "dict.update.loop" ⟨[.ref d, .ref it,rawInt ((i:Int)+1),res],[]⟩) _ _
  rw[hc1]
  refine ih (i+1) _ _ (by omega) sN ?_ ?_ ?_ hd2 ?_ ?_
  ·obtain⟨oi,q,r⟩:=hit1
   exact⟨oi,(Y5.2 _ (Ne.symm pf)).trans q,r⟩
  ·exact zP.extBut Y5.extBut (Ne.symm hdl)
  ·intro p hp
   obtain⟨o',q,r⟩:=ht1 p hp
   exact⟨o',(Y5.2 _ (Kl p hp).1).trans q,r⟩
  ·have:=stored_length_le kvs ps[i].2.1 ps[i].2.2.2
   omega
  ·intro h' tk fQ keep
   refine hR h' tk ?_ fun b o q1 q2 q=>keep b o q1 q2 (up b o q1 q2 q)
   rw[JH]
   exact fQ
end
end PySem
namespace PySem
section
variable {prog:Program} {w:World} {K:Type} [DecidableEq K] {knd:KeyKind prog w K} {A:Around} {E:Value→Shared→Prop} {s:Shared}
theorem lX {l:Addr} {n:Nat} {sl:Array (Option Value)} {ps:List (Addr×K×Value×Value)} {Q:Value→Shared→Prop} (hh:A.handled=none)
  (hl:s.heap.get? l=some { cls:= .type "list",dict:=none,data:= .seq (ps.map fun p=>Value.ref p.1).toArray n,slots:=sl })
  (ht:∀p∈ps,s.heap.IsTuple p.1 #[p.2.2.1,p.2.2.2]∧knd.is p.2.1 p.2.2.1=true) (hsz:ps.length≤sizeLine)
  (h:∀h' tk,h'.DictOf knd s.heap.objs.size (ps.foldl (fun acc p=>stored acc p.2.1 p.2.2.2) [])→(∀b o,s.heap.get? b=some o→h'.get? b=some o)→Q (.ref s.heap.objs.size) { s with heap:=h',toks:=tk }):
  wpAny (model prog w) A (call (.type "dict") [.ref l]) Q E s:=by
 refine callType_codes (Q₁:=fun obj s₁=>obj= .ref s.heap.objs.size∧s₁={ s with heap:=s.heap.push { cls:= .type "dict",data:= .dict #[] } }) F.kt_called_dict (F.kt_typeCall_dict_1 _) F.entry_dict_init (kt_code_dict_new _ ⟨rfl,rfl⟩) ?_
 rintro obj s₁ ⟨rfl,rfl⟩
 have kg:(s.heap.push { cls:= .type "dict",data:= .dict #[] }).DictOf knd s.heap.objs.size []:=Heap.DictOf.new s.heap
 have up:∀b o,s.heap.get? b=some o→(s.heap.push { cls:= .type "dict",data:= .dict #[] }).get? b=some o:=fun b o q=>Heap.get?_push_of_some _ q
 have zP:=up _ _ hl
 refine⟨kg.typeIs,F.args_dict_init_2 _ _,?_⟩
 unfold Builtin.«dict.__init__»
 refine wpAny_bind ?_
 unfold Builtin.Dict.selfAndRest
 refine wpAny_bind (wpAny_notOrdered_dict kg.typeIs ?_)
 show wpAny _ _ (pure (s.heap.objs.size,[Value.ref l])) _ _ _
 refine wpAny_pure ?_
 show wpAny _ _ (Builtin.Dict.updateFrom "dict.__init__" s.heap.objs.size (.ref l) [] .none) _ _ _
 unfold Builtin.Dict.updateFrom
 refine wpAny_bind (wpAny_typeOf (T:="list") ⟨_,zP,rfl⟩ ?_)
 rw[if_pos (by decide)]
 refine wpAny_bind (Ak zP hh fun h2 tk2 k2=>?_)
 rw[if_pos (show (none:Option Value).isNone=true from rfl)]
 refine wpAny_bind (wpAny_rule ?_)
 have sT:=k2 _ _ zP
 have isl:h2.IsList l (ps.map fun p=>Value.ref p.1).toArray:=⟨_,sT,rfl,n,rfl⟩
 have Rg:l<s.heap.objs.size:=Heap.lt_size hl
 have sz:s.heap.objs.size+1≤h2.objs.size:=by
  obtain⟨o,es,ep,q,r⟩:=id kg
  exact Heap.lt_size (k2 _ _ q)
 refine wpAny_bind (wpAny_pyIter_list isl ?_)
 refine wpAny_pure ⟨plainId_quiet F.gL _,?_⟩
 have ME:∀b o,s.heap.get? b=some o→(h2.push { cls:= .type "list_iterator",data:= .fields #[.ref l, .int 0 0] }).get? b=some o:=fun b o q=>Heap.get?_push_of_some _ (k2 _ _ (up b o q))
 refine Om (A:=A.in1) (knd:=knd) (l:=l) (ps:=ps) hh (Nat.ne_of_gt Rg) (Nat.ne_of_lt sz) (Nat.ne_of_gt (Nat.lt_of_lt_of_le Rg (Nat.le_of_lt sz))) (fun p hp=>?_) ps.length 0 _ [] (by omega) (Nat.zero_le _) ?_ ?_ ?_ ?_ ?_ ?_
 ·obtain⟨⟨o,q,_⟩,hk⟩:=ht p hp
  have:=Heap.lt_size q
  exact⟨Nat.ne_of_lt this,Nat.ne_of_lt (Nat.lt_trans this sz),hk⟩
 ·exact⟨_,Heap.get?_push_size _ rfl,rfl,rfl⟩
 ·exact⟨_,Heap.get?_push_of_some _ sT,rfl,n,rfl⟩
 ·intro p hp
  obtain⟨⟨o,q,r⟩,hk⟩:=ht p hp
  exact⟨o,ME _ _ q,r⟩
 ·obtain⟨o,es,ep,q,r⟩:=kg
  exact⟨o,es,ep,Heap.get?_push_of_some _ (k2 _ _ q),r⟩
 ·simpa using hsz
 ·intro h' tk fQ keep
  refine⟨rfl,h h' tk fQ fun b o q=>?_⟩
  have:=Heap.lt_size q
  exact keep b o (Nat.ne_of_lt this) (Nat.ne_of_lt (Nat.lt_trans this sz)) (ME b o q)
end
end PySem
namespace L2
open PySem PySem.Spec PyProof.Rows
theorem tP:∀{as:List Addr} {us:List Value},Vals (as.map V.ref) us→us=as.map Value.ref
 | [],_, .nil=>rfl
 |a::r,_, .cons h t=>by
  rw[tP t]
  exact congrArg (·::r.map Value.ref) (show _=Value.ref a from h)
theorem pairs_of {P:Program} {w:World} {H:Hp} {h:Heap} (ok:j7 P w H h):∀{ps:List (Addr×Key×V)},(∀p∈ps,H p.1=some (.tup [kV p.2.1,p.2.2]))→
  ∃qs:List (Addr×Key×Value×Value),Paired (fun (p:Addr×Key×V) (q:Addr×Key×Value×Value)=>p.1=q.1∧p.2.1=q.2.1∧RelV p.2.2 q.2.2.2) ps qs∧∀q∈qs,h.IsTuple q.1 #[q.2.2.1,q.2.2.2]∧(bF P w).is q.2.1 q.2.2.1=true
 | [],_=>⟨[], .nil,fun q hq=>by cases hq⟩
 | (a,k,v)::r,hp=>by
   obtain⟨qs,pr,hq⟩:=pairs_of ok (ps:=r) fun p yf=>hp p (List.mem_cons_of_mem _ yf)
   obtain⟨_,its,vs,tu⟩:=(show cq P w H h a (.tup [kV k,v]) from ok a _ (hp (a,k,v) (List.mem_cons_self ..)))
   obtain⟨u1,u2,rfl,r1,r2⟩:=vals2 vs
   refine⟨(a,k,u1,u2)::qs, .cons ⟨rfl,rfl,r2⟩ pr,fun q sO=>?_⟩
   rcases List.mem_cons.mp sO with rfl|z
   ·exact⟨tu,tM r1⟩
   ·exact hq q z
theorem qQ:∀{ps:List (Addr×Key×V)} {qs:List (Addr×Key×Value×Value)},Paired (fun (p:Addr×Key×V) (q:Addr×Key×Value×Value)=>p.1=q.1∧p.2.1=q.2.1∧RelV p.2.2 q.2.2.2) ps qs→(ps.map fun p=>Value.ref p.1)=qs.map fun q=>Value.ref q.1
 |_,_, .nil=>rfl
 |_,_, .cons h t=>by
  rw[List.map_cons,List.map_cons,qQ t,h.1]
theorem qR:∀{ps:List (Addr×Key×V)} {qs:List (Addr×Key×Value×Value)} {kvs:List (Key×V)} {vs:List (Key×Value)},Paired (fun (p:Addr×Key×V) (q:Addr×Key×Value×Value)=>p.1=q.1∧p.2.1=q.2.1∧RelV p.2.2 q.2.2.2) ps qs→KV kvs vs→
  KV (cu kvs (ps.map (·.2))) (qs.foldl (fun acc q=>stored acc q.2.1 q.2.2.2) vs)
 |_,_,_,_, .nil,h=>h
 |_,_,kvs,vs, .cons (b:=q) (a:=p) h t,r=>by
  obtain⟨h1,h2,h3⟩:=h
  have u:KV (putK kvs p.2.1 p.2.2) (stored vs q.2.1 q.2.2.2):=by
   rw[←h2]
   exact r.put p.2.1 h3
  have z:=qR t u
  exact z
theorem lY {X:Cx} (hc:X.calm=true):gD X (.type "dict") (fun xs H Q=>∃l,∃ps:List (Addr×Key×V),xs=[.ref l]∧H l=some (.lst (ps.map fun p=> .ref p.1))∧(∀p∈ps,H p.1=some (.tup [kV p.2.1,p.2.2]))∧
  ∀q,H q=none→Q (.ref q) (upd H q (.dK (cu [] (ps.map (·.2)))))):=by
 intro pins s σ H xs us Q I r h
 obtain⟨l,ps,rfl,hl,hp,q⟩:=h
 obtain⟨u,rfl,ru⟩:=vals1 r
 cases ru
 obtain⟨z,its,n,vs,_,e⟩:=I.Dy hl
 obtain⟨qs,pr,hq⟩:=pairs_of I.aU hp
 have e1:its=qs.map fun q=>Value.ref q.1:=by
  rw[←qQ pr]
  have:=tP (as:=ps.map (·.1)) (us:=its) (by rw[List.map_map];exact vs)
  rw[this,List.map_map];rfl
 subst e1
 have zl:qs.length≤sizeLine:=by
  rw[←pr.length]
  rwa [List.length_map] at z
 refine lX (ps:=qs) (I.ok.hd hc) e hq zl fun h' tk dd keep=>?_
 have kv:=qR (kvs:=[]) (vs:=[]) pr .nil
 have zz:(cu [] (ps.map (·.2))).length≤sizeLine:=by
  have:=eG (ps.map (·.2)) []
  rw[List.length_map] at this
  have:=pr.length
  simp only [List.length_nil] at*
  omega
 exact⟨.ref s.heap.objs.size,_,I.laid (a:=s.heap.objs.size) (o:= .dK (cu [] (ps.map (·.2)))) (t':=tk) keep (Nat.le_refl _) (qK zz (beq_eq_false_iff_ne.mpr (Ne.symm (Nat.ne_of_lt I.big))) kv dd),rfl,q _ (I.aU.fresh (Nat.le_refl _))⟩
end L2
namespace L2
open PySem PySem.Spec PyProof.Rows
structure yj (K:PySem.W.Frag) (x qual:Str) (st:Stmt) (f:Addr) (fd:FuncData) (dV:Value):Prop where
 ex:∃(oc:Value) (od:Option Addr) (kV doc pm:Value) (an:Option Addr) (bj ct:Value) (sP:Array (Option Value)),
  fd=PySem.W.fnOf x qual (br st) (aS st) (aj st) dV kV doc pm an bj ct∧K.lookup f=some ⟨oc,od, .func fd,sP⟩∧PySem.W.codeIn K bj qual=true
 kp:PySem.W.keepIn K (.ref f)=true
section
variable {P:Program} {w:World} {K:PySem.W.Frag} {mg:Str→Option Value} {base:Heap}
theorem yj.ok {x qual:Str} {st:Stmt} {f:Addr} {fd:FuncData} {dV:Value} {N ps:List Str} {k:Nat} {sp:Sp} (F:yj K x qual st f fd dV) (S:ax N ps (aj st)) (len:∀vs H Q E,sp vs H Q E→vs.length=ps.length)
  (dv:∀(bj:Value) (A:Around) (outer:List Env) (s:Shared) (H:Hp) (vs:List V) (Q:VK) (E:XK),cV k (A.deeper (envOfC qual (aj st) s.heap.objs.size f bj))→sp vs H Q E→
   ∃t,lU (jz qO P w K mg base N qual (aj st) f bj A outer s H E).FA (aS st) t∧t { nx:=fun _ H'=>Q .cU H',rt:=Q } (start N vs) H):fu P w K mg base qO (k+1) f fd ps sp:=by
 obtain⟨oc,od,kV,doc,pm,an,bj,ct,sP,rfl,lk,pG⟩:=F.ex
 refine fn_of lk pG S len fun A outer s H vs Q E hr BF=>?_
 obtain⟨t,h,q⟩:=dv bj A outer s H vs Q E hr BF
 exact⟨t,h.FA,q⟩
theorem kR {x qual:Str} {st:Stmt} {f:Addr} {oc dV:Value} {od an:Option Addr} {sP:Array (Option Value)} {kV doc pm bj ct:Value} (l:K.lookup f=some ⟨oc,od, .func (PySem.W.fnOf x qual (br st) (aS st) (aj st) dV kV doc pm an bj ct),sP⟩)
  (c:PySem.W.codeIn K bj qual=true) (k:PySem.W.keepIn K (.ref f)=true):yj K x qual st f (PySem.W.fnOf x qual (br st) (aS st) (aj st) dV kV doc pm an bj ct) dV:=⟨⟨oc,od,kV,doc,pm,an,bj,ct,sP,rfl,l,c⟩,k⟩
def Def (K:PySem.W.Frag) (mg:Str→Option Value) (x q:Str) (st:Stmt) (ps:List Str):Prop:=∃f fd,Fe K x q st f fd∧Binds K fd ps []∧mg x=some (.ref f)
structure Cal (P:Program) (w:World) (K:PySem.W.Frag) (mg:Str→Option Value) (base:Heap) (k:Nat) (x:Str) (ps:List Str) (sp:Sp) (f:Addr) (fd:FuncData):Prop where
 ok:fu P w K mg base qO k f fd ps sp
 kp:PySem.W.keepIn K (.ref f)=true
 b:Binds K fd ps []
 g:mg x=some (.ref f)
def bg (P:Program) (w:World) (K:PySem.W.Frag) (mg:Str→Option Value) (base:Heap) (k:Nat) (x:Str) (ps:List Str) (sp:Sp):Prop:=∃f fd,Cal P w K mg base k x ps sp f fd
theorem Def.di {x q:Str} {st:Stmt} {N ps:List Str} {k:Nat} {sp:Sp} (D:Def K mg x q st ps) (S:ax N ps (aj st)) (len:∀vs H Q E,sp vs H Q E→vs.length=ps.length)
  (dv:∀(f:Addr) (bj:Value) (A:Around) (outer:List Env) (s:Shared) (H:Hp) (vs:List V) (Q:VK) (E:XK),cV k (A.deeper (envOfC q (aj st) s.heap.objs.size f bj))→sp vs H Q E→
   ∃t,lU (jz qO P w K mg base N q (aj st) f bj A outer s H E).FA (aS st) t∧t { nx:=fun _ H'=>Q .cU H',rt:=Q } (start N vs) H):bg P w K mg base (k+1) x ps sp:=by
 obtain⟨f,fd,F,b,g⟩:=D
 exact⟨f,fd,F.ok S len (dv f),F.kp,b,g⟩
def a9 (K:PySem.W.Frag) (C:Addr) (m q:Str) (st:Stmt) (ps:List Str):Prop:=∃f fd,Fe K m q st f fd∧Binds K fd ps []∧Meth K C m f
structure CalM (P:Program) (w:World) (K:PySem.W.Frag) (mg:Str→Option Value) (base:Heap) (k:Nat) (C:Addr) (m:Str) (ps:List Str) (sp:Sp) (f:Addr) (fd:FuncData):Prop where
 ok:fu P w K mg base qO k f fd ps sp
 m:Meth K C m f
 b:Binds K fd ps []
def aJ (P:Program) (w:World) (K:PySem.W.Frag) (mg:Str→Option Value) (base:Heap) (k:Nat) (C:Addr) (m:Str) (ps:List Str) (sp:Sp):Prop:=∃f fd,CalM P w K mg base k C m ps sp f fd
theorem a9.di {C:Addr} {m q:Str} {st:Stmt} {N ps:List Str} {k:Nat} {sp:Sp} (D:a9 K C m q st ps) (S:ax N ps (aj st)) (len:∀vs H Q E,sp vs H Q E→vs.length=ps.length)
  (dv:∀(f:Addr) (bj:Value) (A:Around) (outer:List Env) (s:Shared) (H:Hp) (vs:List V) (Q:VK) (E:XK),cV k (A.deeper (envOfC q (aj st) s.heap.objs.size f bj))→sp vs H Q E→
   ∃t,lU (jz qO P w K mg base N q (aj st) f bj A outer s H E).FA (aS st) t∧t { nx:=fun _ H'=>Q .cU H',rt:=Q } (start N vs) H):aJ P w K mg base (k+1) C m ps sp:=by
 obtain⟨f,fd,F,b,g⟩:=D
 exact⟨f,fd,F.ok S len (dv f),g,b⟩
def lJ (K:PySem.W.Frag) (C:Addr) (q:Str) (st:Stmt) (ps:List Str) (ds:List Int):Prop:=∃f fd dV,yj K "__init__" q st f fd dV∧Mk K C f∧∀j,j≤ds.length→∃us,Vals ((ds.drop j).map V.int) us∧Binds K fd ps us
structure CalI (P:Program) (w:World) (K:PySem.W.Frag) (mg:Str→Option Value) (base:Heap) (k:Nat) (C:Addr) (ps:List Str) (ds:List Int) (sp:Sp) (f:Addr) (fd:FuncData):Prop where
 ok:fu P w K mg base qO k f fd ps sp
 m:Mk K C f
 b:∀j,j≤ds.length→∃us,Vals ((ds.drop j).map V.int) us∧Binds K fd ps us
def gE (P:Program) (w:World) (K:PySem.W.Frag) (mg:Str→Option Value) (base:Heap) (k:Nat) (C:Addr) (ps:List Str) (ds:List Int) (sp:Sp):Prop:=∃f fd,CalI P w K mg base k C ps ds sp f fd
theorem lJ.di {C:Addr} {q:Str} {st:Stmt} {N ps:List Str} {ds:List Int} {k:Nat} {sp:Sp} (D:lJ K C q st ps ds) (S:ax N ps (aj st)) (len:∀vs H Q E,sp vs H Q E→vs.length=ps.length)
  (dv:∀(f:Addr) (bj:Value) (A:Around) (outer:List Env) (s:Shared) (H:Hp) (vs:List V) (Q:VK) (E:XK),cV k (A.deeper (envOfC q (aj st) s.heap.objs.size f bj))→sp vs H Q E→
   ∃t,lU (jz qO P w K mg base N q (aj st) f bj A outer s H E).FA (aS st) t∧t { nx:=fun _ H'=>Q .cU H',rt:=Q } (start N vs) H):gE P w K mg base (k+1) C ps ds sp:=by
 obtain⟨f,fd,dV,F,g,b⟩:=D
 exact⟨f,fd,F.ok S len (dv f),g,b⟩
end
theorem au.new {H:Hp} {p:Addr} {o:HO} (h:H p=none):au H (upd H p o):=fun b q e=>by
 rw[ah (ag e h)];exact e
end L2
namespace L2
open PySem
theorem kh:bootBuiltins "len" =some (.builtin "len"):=PySem.boot_len
theorem bh:bootBuiltins "isinstance" =some (.builtin "isinstance"):=by decide+kernel
theorem qT:bootBuiltins "int" =some (.type "int"):=by decide+kernel
theorem Al:bootBuiltins "str" =some (.type "str"):=by decide+kernel
theorem Km:bootBuiltins "bool" =some (.type "bool"):=by decide+kernel
theorem kS:bootBuiltins "list" =some (.type "list"):=by decide+kernel
theorem iC:bootBuiltins "dict" =some (.type "dict"):=by decide+kernel
theorem vK {c A B:Prop} [Decidable c] (hc:c) (h:A):if decide c=true then A else B:=by
 rw[if_pos (decide_eq_true hc)];exact h
theorem qU {c A B:Prop} [Decidable c] (hc:¬c) (h:B):if decide c=true then A else B:=by
 rw[if_neg (by rw[decide_eq_false hc];decide)];exact h
theorem vL {α:Type} {xs:List α} {i:Int} (h0:0≤i) (h1:i<xs.length):∃v,v∈xs∧Ah xs i=some v:=by
 have hl:i.toNat<xs.length:=by omega
 refine⟨xs[i.toNat],List.getElem_mem hl,?_⟩
 have:=pR (List.getElem?_eq_getElem hl)
 rwa [Int.toNat_of_nonneg h0] at this
theorem bz (x y:Str):(x++y).length=x.length+y.length:=by
 show (x.cps++y.cps).size=_
 rw[Array.size_append];rfl
theorem tQ {n:Int} (h1:0≤n) (h2:n<2^64):n.natAbs.log2<1920:=by
 by_cases h:n.natAbs=0
 ·rw[h];decide
 ·have:=(Nat.log2_lt h (k:=64)).mpr (by omega)
  omega
end L2
namespace L2
open PySem PySem.Spec PyProof.Rows
inductive tR:List Expr→List V→Prop where
 |nil:tR [] []
 |int {i:Int} {j} {pos:Pos} {es:List Expr} {vs:List V} (t:tR es vs):tR (.Constant (.int i) j pos::es) (.int i::vs)
 |str {x:Str} {j} {pos:Pos} {es:List Expr} {vs:List V} (t:tR es vs):tR (.Constant (.str x) j pos::es) (.str x::vs)
def Sz (vs:List V):TA:=fun _ H Q=>Q vs H
theorem Kn {X:Cx} {es:List Expr} {vs:List V} (h:tR es vs):PA X es (Sz vs):=by
 induction h with
 |nil=>exact ak
 |int t ih=>exact fun pos pins s σ H Q I q=>aa aq ih rfl pos pins s σ H Q I q
 |str t ih=>exact fun pos pins s σ H Q I q=>aa bJ ih rfl pos pins s σ H Q I q
section
variable {K:PySem.W.Frag}
theorem fz {T:String}:PySem.W.kitOne K (.type T) (.type T)=some true:=by
 unfold PySem.W.kitOne
 rw[if_pos (by simp)]
theorem F0 {T U:String} {b:Bool} (h1:(Value.type T==Value.type U)=false) (h2:PySem.W.kitMeta U=true) (h3:(fastBuiltinMro T).map (·.contains (Value.type U))=some b):PySem.W.kitOne K (.type T) (.type U)=some b:=by
 unfold PySem.W.kitOne
 rw[if_neg (by rw[h1];decide)]
 unfold PySem.W.kitCls
 dsimp only
 rw[if_pos h2]
 exact h3
theorem mF:PySem.W.kitOne K (.type "int") (.type "bool")=some false:=F0 (by decide+kernel) (by decide+kernel) (by decide+kernel)
end
end L2
namespace L2
open PySem PySem.Spec PyProof.Rows
section
variable {X:Cx} {elt tg iter:Expr} {ifs:List Expr} {scope:Scope} {pos Oo py:Pos} {N:List Str} {fr:List (Option Nat)} {wi:TI} {g:TG} {tt:TT} {te:TE}
theorem pU {i:Nat} {y:Str} {sc:Scope} {NX:List Str} (hN:X.N.Nodup) (hi':X.N[i]? =some y) (hy:Loc X.env.scope y) (S:Kj sc scope NX N fr) (e1:X.env.scope=sc) (e2:X.N=NX) (hc:X.calm=true) (hi:PI X tg iter wi)
  (hg:∀pins fp s H,PG (tO X pins N scope (yc scope X.env) fp s H) tg g) (ht:∀pins fp s H,Oi (tO X pins N scope (yc scope X.env) fp s H) ifs tt) (he:∀pins fp s H,PE (tO X pins N scope (yc scope X.env) fp s H) elt te)
  (hsw:swapsWith (.ListComp elt [⟨tg,iter,ifs,0⟩] scope pos) (some (.Name y py)) Oo.line X.env=pure true:=by rfl) (hs:∀x,foldedSetIterable iter X.env x=pure x:=by intro _;rfl)
  (hf:X.fn y=true∨X.env.scope.names.lookup y=some .local:=by first|exact .inl rfl|exact .inr rfl|assumption):
  PS X (.Assign [.Name y py] (.ListComp elt [⟨tg,iter,ifs,0⟩] scope pos) Oo) (NY (MD wi fr g tt te) (du i)):=by
 intro pins s σ H D I h
 have B:=S.ye e1 e2 I.ok
 rw[exec_Assign_Name_used _ _ _ _ hsw]
 refine wpAny_bind (wpAny_standAt (wpAny_bind ?_))
 show wpAny _ X.A (do let _←comprehension (.ListComp elt [⟨tg,iter,ifs,0⟩] scope pos) scope X.env _ (newList []) false (eval iter X.env) (some (assign (.Name y py) X.env))) _ _ s
 refine wpAny_bind (wpAny_mono (wpAny_comprehension_free (use:=some (assign (.Name y py) X.env)) (Q:=fun _ s'=>SP X pins D .next s') rfl hs B.Sw B.kind B.names (bZ (hi pins s σ H _ I h) fun v s1 h1=>bZ h1 fun YX s2 h2=>?_)) (fun _ s' hq=>wpAny_pure (wpAny_pure hq)) fun _ _ e=>e)
 obtain⟨it,fp,tn,J,H2,e,I2,T,JW,f2,q⟩:=h2
 subst e
 refine yh (Q:=fun v H'=>du i v σ H' D.nx) (RR:=fun acc C=>compPost (model X.prog X.w) X.A X.xe (some (assign (.Name y py) X.env)) (fun _ s'=>SP X pins D .next s') acc C) B hc hg ht he I2 T JW f2 q ?_
 intro D' C s' H' J' fC ⟨m,hm⟩ qn
 obtain⟨f0,f1,_,f3,f4,f5⟩:=fC
 show wpAny _ X.A (assign (.Name y py) X.env (.ref D')) _ _ _
 refine wpAny_assign_Name (tE J' hN hi' hy (v:= .ref D') rfl (fun R' J'' ⟨a,sb,ha⟩=>?_) hf)
 have hCa:C≠a:=by
  rcases ha with z|z
  ·rw[z];exact f1
  ·exact fun w'=>f4 _ _ z w'.symm
 refine⟨m,hm.sameBut sb hCa,fun h' FZ=>⟨_,H',?_,qn⟩⟩
 exact J''.turned (t':=R'.toks) (fun b o hb e=>(FZ.2 b hb).trans e) f0 f1 f3 f4 f5
end
theorem tS {K:PySem.W.Frag} {a D:Addr} {xs:List V} {g:TG} {tt:TT} {te:TE} {Q:Hp→Prop} {σ:St} {H:Hp} (Pv:Nat→St→Hp→Prop) (h0:Pv 0 σ H) (hl:∀i σ H,i≤xs.length→Pv i σ H→b5 K H a xs)
  (hs:∀i x σ H,xs[i]? =some x→Pv i σ H→∀N:St→Hp→Prop,(∀σ' H',Pv (i+1) σ' H'→N σ' H')→g x σ H fun σ3 H3=>tt σ3 H3 fun b H4=>if b=true then te σ3 H4 fun y H5=>∃ys,H5 D=some (.lst ys)∧ys.length<sizeLine∧N σ3 (upd H5 D (.lst (ys++[y]))) else N σ3 H4)
  (hd:∀σ H,Pv xs.length σ H→Q H):
  ∃W:Nat→Nat→St→Hp→Prop,(∃m,W 0 m σ H)∧∀i m σ H,W i m σ H→((Bx K a).stop i H∧Q H)∨((Bx K a).go i H∧∀x H2,(Bx K a).pO i H x H2→g x σ H2 fun σ3 H3=>tt σ3 H3 fun b H4=>if b=true
   then te σ3 H4 fun y H5=>∃ys,H5 D=some (.lst ys)∧ys.length<sizeLine∧∃m',m'<m∧W (i+1) m' σ3 (upd H5 D (.lst (ys++[y])))
   else∃m',m'<m∧W (i+1) m' σ3 H4):=by
 refine⟨fun i m σ H=>m+i=xs.length∧Pv i σ H,⟨xs.length,rfl,h0⟩,?_⟩
 rintro i m σ H ⟨hm,hp⟩
 have sq:=hl i σ H (by omega) hp
 by_cases hi:i<xs.length
 ·refine .inr ⟨⟨xs,xs[i],sq,List.getElem?_eq_getElem hi⟩,?_⟩
  rintro x H2 ⟨rfl,hx⟩
  exact hs i x σ H2 (hx xs sq) hp _ fun σ' H' q=>⟨m - 1,by omega,by omega,q⟩
 ·have e:i=xs.length:=by omega
  subst e
  exact .inl ⟨⟨xs,sq,Nat.le_refl _⟩,hd σ H hp⟩
theorem vM {X:Cx} {es:List Expr} {k:Nat} {pos:Pos} {t:Mw} (K:PySem.W.Frag) (n:Nat) (hK:X.K=K) (hc:X.calm=true) (h:Rb X es t) (hn:(assignEach es X.env).length=n:=by rfl) (fO:(assignEach es X.env).findIdx? (·.1)=none:=by rfl):PG X (.Tuple es k pos) (RQ K n t):=by
 subst hK
 exact g7 hc h hn fO
theorem kT {a D:Addr} {o:Obj} {kvs:List (Key×V)} {g:TG} {tt:TT} {te:TE} {Q:Hp→Prop} {σ:St} {H:Hp} (Pv:Nat→St→Hp→Prop) (h0:Pv 0 σ H) (hl:∀i σ H,Pv i σ H→H a=some (.fN o (.dK kvs)))
  (hs:∀i k v σ H,kvs[i]? =some (k,v)→Pv i σ H→∀N:St→Hp→Prop,(∀σ' H',Pv (i+1) σ' H'→N σ' H')→g (kV k) σ H fun σ3 H3=>tt σ3 H3 fun b H4=>if b=true then te σ3 H4 fun y H5=>∃ys,H5 D=some (.lst ys)∧ys.length<sizeLine∧N σ3 (upd H5 D (.lst (ys++[y]))) else N σ3 H4)
  (hd:∀σ H,Pv kvs.length σ H→Q H):
  ∃W:Nat→Nat→St→Hp→Prop,(∃m,W 0 m σ H)∧∀i m σ H,W i m σ H→((MC a o kvs).stop i H∧Q H)∨((MC a o kvs).go i H∧∀x H2,(MC a o kvs).pO i H x H2→g x σ H2 fun σ3 H3=>tt σ3 H3 fun b H4=>if b=true
   then te σ3 H4 fun y H5=>∃ys,H5 D=some (.lst ys)∧ys.length<sizeLine∧∃m',m'<m∧W (i+1) m' σ3 (upd H5 D (.lst (ys++[y])))
   else∃m',m'<m∧W (i+1) m' σ3 H4):=by
 refine⟨fun i m σ H=>m+i=kvs.length∧Pv i σ H,⟨kvs.length,rfl,h0⟩,?_⟩
 rintro i m σ H ⟨hm,hp⟩
 have hz:=hl i σ H hp
 by_cases hi:i<kvs.length
 ·refine .inr ⟨⟨hz,hi⟩,?_⟩
  rintro x H2 ⟨rfl,k,v,DD,rfl⟩
  exact hs i k v σ H2 DD hp _ fun σ' H' q=>⟨m - 1,by omega,by omega,q⟩
 ·have e:i=kvs.length:=by omega
  subst e
  exact .inl ⟨⟨hz,Nat.le_refl _⟩,hd σ H hp⟩
end L2
namespace L2
open PySem PySem.Spec PyProof.Rows
section
variable {X:Cx}
def tOr2 (t u:TE):TE:=fun σ H Q=>t σ H Q∨u σ H Q
theorem F1 {e:Expr} {t u:TE} (h:PE X e t) (h':PE X e u):PE X e (tOr2 t u):=fun pins s σ H Q I q=>
 q.elim (fun z=>h pins s σ H Q I z) fun z=>h' pins s σ H Q I z
theorem qV:∀{xs:List Str} {us:List Value},Vals (xs.map V.str) us→StrsAre us xs
 | [],_, .nil=> .nil
 |x::r,_, .cons h t=>by
  obtain⟨tk,e⟩:=(show∃t,_=Value.str x t from h)
  subst e
  exact .cons x tk (qV t)
def rJoin (K:PySem.W.Frag):V→List V→Hp→VK→Prop:=fun x vs H Q=>∃z l,∃ys:List Str,x= .str z∧vs=[.ref l]∧b5 K H l (ys.map V.str)∧(ys.map (·.length)).sum+ys.length*z.length≤16777216∧Q (.str (Txt.join z ys)) H
theorem pV:MtR X "str.join" (rJoin X.K):=by
 intro pins s σ H x vs v us Q I rx rv h
 obtain⟨z,l,ys,rfl,rfl,hS,hz,q⟩:=h
 obtain⟨t,e⟩:=(show∃t,v=Value.str z t from rx)
 subst e
 obtain⟨u,rfl,ru⟩:=rv.one
 cases ru
 obtain⟨its,r,p,_⟩:=I.list hS
 exact join_list p.isList (by simpa using qV r) hz fun t' k=>⟨.str (Txt.join z ys),H,I.tok k,⟨t',rfl⟩,q⟩
mutual
inductive Fg (K:PySem.W.Frag) (H:Hp):V→PyData→Prop where
 |cU:Fg K H .cU .none
 |bl (b:Bool):Fg K H (.bl b) (.bool b)
 |int (i:Int):Fg K H (.int i) (.int i)
 |str (x:Str):Fg K H (.str x) (.str x)
 |lst {a:Addr} {xs:List V} {ds:List PyData} (h:b5 K H a xs) (t:Am K H xs ds):Fg K H (.ref a) (.list ds)
 |tup {a:Addr} {xs:List V} {ds:List PyData} (h:jc K H a xs) (t:Am K H xs ds):Fg K H (.ref a) (.tuple ds)
inductive Am (K:PySem.W.Frag) (H:Hp):List V→List PyData→Prop where
 |nil:Am K H [] []
 |cons {x:V} {d:PyData} {xs:List V} {ds:List PyData} (h:Fg K H x d) (t:Am K H xs ds):Am K H (x::xs) (d::ds)
end
mutual
theorem ki {pins:List (Addr×Obj)} {σ:St} {H:Hp} {s:Shared} (I:Inv X pins σ H s) {x:V} {d:PyData} (h:Fg X.K H x d) {u:Value} (r:RelV x u):∃as,Reads s.heap u d as:=by
 cases h with
 |cU=>cases (show u=Value.none from r);exact⟨_, .none⟩
 |bl b=>cases (show u=Value.bool b from r);exact⟨_, .bool b⟩
 |int i=>obtain⟨t,rfl⟩:=(show∃t,u=Value.int i t from r);exact⟨_, .int i t⟩
 |str y=>obtain⟨t,rfl⟩:=(show∃t,u=Value.str y t from r);exact⟨_, .str y t⟩
 | @lst a xs ds hS t=>
   cases (show u=Value.ref a from r)
   obtain⟨its,rv,p,_⟩:=I.list hS
   obtain⟨o,ho,hc,n,hd⟩:=p.isList
   obtain⟨as,ra⟩:=kj I t rv
   exact⟨_, .list ho hc hd (by simpa using ra)⟩
 | @tup a xs ds hS t=>
   cases (show u=Value.ref a from r)
   obtain⟨its,rv,p,_⟩:=I.tuple hS
   obtain⟨o,ho,hc,n,hd⟩:=p
   obtain⟨as,ra⟩:=kj I t rv
   exact⟨_, .tuple ho hc hd (by simpa using ra)⟩
theorem kj {pins:List (Addr×Obj)} {σ:St} {H:Hp} {s:Shared} (I:Inv X pins σ H s) {xs:List V} {ds:List PyData} (h:Am X.K H xs ds) {us:List Value} (r:Vals xs us):∃as,ReadsAll s.heap us ds as:=by
 cases h with
 |nil=>cases r;exact⟨_, .nil⟩
 |cons h t=>
  cases r with
  |cons r1 r2=>
   obtain⟨as,ra⟩:=ki I h r1
   obtain⟨bs,rb⟩:=kj I t r2
   exact⟨_, .cons ra rb⟩
end
def SA (neg:Bool) (K:PySem.W.Frag):R2:=fun x y H Q=>∃d e,Fg K H x d∧Fg K H y e∧SeqAt.shaped d=true∧SeqAt.shaped e=true∧Q (.bl (neg^^PyData.eqv d e)) H
theorem F2 (hu:X.A.units+64<cLine):n4 X (compareOp .Eq) (SA false X.K):=by
 intro pins s σ H x y v u Q I rx ry h
 obtain⟨d,e,hd,he,sd,se,q⟩:=h
 obtain⟨as,ra⟩:=ki I hd rx
 obtain⟨bs,rb⟩:=ki I he ry
 exact SeqAt.compareEq_shaped ra rb sd se hu ⟨.bl (PyData.eqv d e),H,I,rfl,by simpa using q⟩
theorem Oq (hu:X.A.units+64<cLine):n4 X (compareOp .NotEq) (SA true X.K):=by
 intro pins s σ H x y v u Q I rx ry h
 obtain⟨d,e,hd,he,sd,se,q⟩:=h
 obtain⟨as,ra⟩:=ki I hd rx
 obtain⟨bs,rb⟩:=ki I he ry
 exact SeqAt.compareNe_shaped ra rb sd se hu ⟨.bl (!PyData.eqv d e),H,I,rfl,by simpa using q⟩
end
end L2
namespace L2
open PySem PySem.Spec PyProof.Rows
section
variable {X:Cx}
end
theorem iD {tt:TT} {A B r:TS} {D:Ends} {σ:St} {H:Hp} (Pm:St→Hp→Prop) (h:∀N:St→Hp→Prop,(∀σ' H',Pm σ' H'→N σ' H')→NV tt A B { D with nx:=N } σ H) (hr:∀σ' H',Pm σ' H'→r D σ' H'):RM (NV tt A B) r D σ H:=h _ hr
section
variable {X:Cx} {pins:List (Addr×Obj)} {σ:St} {H:Hp} {s:Shared} {h':Heap}
theorem Inv.BJ {t':Nat} {ch:List Addr} {T:Addr} {o:HO} (I:Inv X pins σ H s) (k:∀b u,b∉ch→s.heap.get? b=some u→h'.get? b=some u) (hf:∀b∈ch,lI X pins H b)
  (hT:s.heap.objs.size≤T) (new:cq X.prog X.w (upd H T o) h' T o):Inv X pins σ (upd H T o) { s with heap:=h',toks:=t' }:=by
 have hn:=I.aU.fresh hT
 have Fx:∀b u,H b=some u→b∉ch:=fun b u e z=>by rw[(hf b z).1] at e;cases e
 refine I.step (g':=s.gens) (d':=s.drawn) (ch:=ch) (fun b hb=>⟨(hf b hb).2.2.2.1,(hf b hb).2.1,(hf b hb).2.2.2.2.1,(hf b hb).2.2.2.2.2⟩)
  (fun b u _ _ hc e _=>k b u hc e) (fun b u _ _ hc e _=>⟨u.slots,k b u hc e⟩) (fun b u _ e n=>?_) (fun b u hc e=>⟨u,k b u hc e⟩)
  (fun b xs e=>by rw[ah (ag e hn)];exact e) (fun b u v e=>by rw[ah (ag e hn)];exact e) (fun b ps e=>⟨#[],by rw[ah (ag e hn),e];simp⟩) (fun m hm=>?_) (fun b u e=>?_) I.bare
 ·rw[ah (Nat.ne_of_lt (Nat.lt_of_lt_of_le (Heap.lt_size e) hT))];exact n
 ·obtain⟨u,es,ep,ho,r⟩:=hm
  exact⟨u,es,ep,k _ u (fun z=>(hf _ z).2.1 rfl) ho,r⟩
 ·by_cases hb:b=T
  ·subst hb;rw[af] at e;cases e;exact new
  ·rw[ah hb] at e
   refine(I.aU b u e).qx (fun c v hc q=>k c v ?_ q) (fun c q=>by rw[ah (ag q hn)];exact q) fun c xs q=>by rw[ah (ag q hn)];exact q
   rcases hc with z|z
   ·rw[z];exact Fx b u e
   ·exact Fx c _ z
theorem Inv.BK {t':Nat} {ch:List Addr} (I:Inv X pins σ H s) (k:∀b u,b∉ch→s.heap.get? b=some u→h'.get? b=some u) (hf:∀b∈ch,lI X pins H b):Inv X pins σ H { s with heap:=h',toks:=t' }:=by
 have Fx:∀b u,H b=some u→b∉ch:=fun b u e z=>by rw[(hf b z).1] at e;cases e
 refine I.step (g':=s.gens) (d':=s.drawn) (ch:=ch) (fun b hb=>⟨(hf b hb).2.2.2.1,(hf b hb).2.1,(hf b hb).2.2.2.2.1,(hf b hb).2.2.2.2.2⟩)
  (fun b u _ _ hc e _=>k b u hc e) (fun b u _ _ hc e _=>⟨u.slots,k b u hc e⟩) (fun b u _ e n=>n) (fun b u hc e=>⟨u,k b u hc e⟩)
  (fun b xs e=>e) (fun b u v e=>e) (fun b ps e=>⟨#[],by rw[e];simp⟩) (fun m hm=>?_) (fun b u e=>?_) I.bare
 ·obtain⟨u,es,ep,ho,r⟩:=hm
  exact⟨u,es,ep,k _ u (fun z=>(hf _ z).2.1 rfl) ho,r⟩
 ·refine(I.aU b u e).qx (fun c v hc q=>k c v ?_ q) (fun _ q=>q) fun _ _ q=>q
  rcases hc with z|z
  ·rw[z];exact Fx b u e
  ·exact Fx c _ z
end
theorem neN {m n:Nat} (h:m<n∨n<m):(m:Addr)≠n:=fun z=>by
 have:m=n:=z
 omega
theorem vN:bootBuiltins "enumerate" =some (.type "enumerate"):=by decide+kernel
theorem F3:bootBuiltins "abs" =some (.builtin "abs"):=by decide+kernel
def SD (K:PySem.W.Frag) (a:Addr):It:=
 ⟨fun i H=>∃xs x,b5 K H a xs∧xs[i]? =some x,
  fun i H v H'=>∃p x,H p=none∧H'=upd H p (.tup [.int i,x])∧v= .ref p∧∀xs,b5 K H a xs→xs[i]? =some x,
  fun i H=>∃xs,b5 K H a xs∧xs.length≤i⟩
theorem DF {P:Program} {w:World} {K:PySem.W.Frag} {elts:List Expr} {x1} {sS:Pos} (l e it:Addr) (hei:e≠it):
  Turn P w K (.Tuple elts x1 sS) (SD K l) [e,it] e (fun i h=>(∃old,IsEnum h e it (i:Nat) old)∧h.IsListIter it l i) where
 mem:=by simp
 obj:=fun i h st b hb=>by
  obtain⟨⟨old,he⟩,⟨o1,e1,c1,d1⟩⟩:=st
  simp only [List.mem_cons,List.not_mem_nil,or_false] at hb
  rcases hb with q|q
  ·subst q;exact⟨_,he,fun v q=>by cases q⟩
  ·subst q;exact⟨o1,e1,fun v q=>by rw[d1] at q;cases q⟩
 keep:=fun i h h' st k=>by
  obtain⟨⟨old,he⟩,h1⟩:=st
  exact⟨⟨old,k e (by simp) _ he⟩,h1.at fun o q=>k it (by simp) o q⟩
 item:=by
  intro X hP hw hK hc i pins s σ H E I hf st hg
  subst hP hw hK
  obtain⟨xs,x,hq,hx⟩:=hg
  obtain⟨⟨old,he⟩,h1⟩:=st
  obtain⟨its,rv,p,Y6⟩:=I.list hq
  obtain⟨u,hu,ru⟩:=rv.get hx
  refine wpAny_pyNext_enum_item he h1 p.isList (x:=u) (by simpa using hu) hei fun h' a1 a2 a3 a4 hk=>⟨_,rfl,?_⟩
  refine wpAny_letOwnedTupleGo_enum (s:={ s with heap:=h',toks:=s.toks+1 }) a1 fun SE b1 b2=>?_
  have up:∀c o,c≠e→h'.get? c=some o→SE.get? c=some o:=fun c o n q=>b2.extBut _ _ n q
  have ne:∀{c:Addr} {o},s.heap.get? c=some o→s.heap.objs.size≠c:=fun q=>Nat.ne_of_gt (Heap.lt_size q)
  have kg:=up _ _ (ne he) a3
  have I1:Inv X pins σ (upd H s.heap.objs.size (.tup [.int i,x])) { s with heap:=SE,toks:=s.toks+1 }:=by
   refine I.BJ (ch:=[e,it]) (fun b o hb q=>?_) hf (Nat.le_refl _) ⟨by show 2≤sizeLine;decide,[.int i s.toks,u], .cons ⟨_,rfl⟩ (.cons ru .nil),⟨_,kg,rfl,_,rfl⟩⟩
   simp only [List.mem_cons,List.not_mem_nil,or_false,not_or] at hb
   exact up _ _ hb.1 (hk b o hb.1 hb.2 q)
  refine⟨.ref s.heap.objs.size,_,I1,rfl,⟨_,x,I.aU.fresh (Nat.le_refl _),rfl,rfl,fun zs hz=>by rw[I.xZ hz hq];exact hx⟩,⟨⟨u,?_⟩,a2.at fun o q=>up _ _ (Ne.symm hei) q⟩,fun b hb=>?_⟩
  ·have e1:((i+1 :Nat):Int)=(i:Int)+1:=by push_cast;rfl
   rw[e1];exact b1
  ·rw[ah ?_]
   ·exact(hf b hb).1
   ·simp only [List.mem_cons,List.not_mem_nil,or_false] at hb
    obtain⟨o1,e1,_⟩:=h1
    rcases hb with q|q
    ·rw[q];exact Ne.symm (ne he)
    ·rw[q];exact Ne.symm (ne e1)
 done:=by
  intro X hP hw hK hc i pins s σ H E I hf st hg
  subst hP hw hK
  obtain⟨xs,hq,hl⟩:=hg
  obtain⟨⟨old,he⟩,h1⟩:=st
  obtain⟨its,rv,p,Y6⟩:=I.list hq
  have l1:=rv.length
  refine wpAny_pyNext_enum_end (I.ok.hd hc) he h1 p.isList (by simp;omega) fun h' hk=>⟨rfl,I.BK (t':=s.toks) (ch:=[e,it]) (fun b o hb q=>?_) hf⟩
  simp only [List.mem_cons,List.not_mem_nil,or_false,not_or] at hb
  exact hk b o hb.2 q
 self:=fun _ _ _ _ _ st h=>by
  obtain⟨⟨old,he⟩,_⟩:=st
  exact wpAny_pyIter_enum he h
def SF (K:PySem.W.Frag) (ta:TA):TI:=fun σ H R=>ta σ H fun vs H1=>∃a,vs=[.ref a]∧(∃xs,b5 K H1 a xs)∧R (SD K a) H1
theorem BL {X:Cx} {elts:List Expr} {x1} {sS:Pos} {a:Expr} {ta:TA} {p pos:Pos} (hg:Gl X "enumerate") (hm:X.mg "enumerate" =none) (ha:PA X [a] ta) (hs:starEach [a] X.env=[(false,eval a X.env)]:=by rfl):
  PI X (.Tuple elts x1 sS) (.Call (.Name "enumerate" p) [a] [] pos) (SF X.K ta):=by
 intro pins s σ H R I h
 refine Call_ (nZ I hg hm vN (PyProof.Rows.callWith_type1 (bZ (ha pos pins s σ H _ I h) fun us s1 ⟨vs,H1,I1,r1,q1⟩=>?_) hs rfl))
 obtain⟨l,e,⟨xs,hq⟩,q⟩:=q1
 subst e
 obtain⟨u,rfl,r⟩:=vals1 r1
 cases r
 obtain⟨its,rv,pl,Y6⟩:=I1.list hq
 refine call_enumerate_list pl.isList fun h' a1 a2 a3 hk=>wpAny_pyIter_enum (s:={ s1 with heap:=h' }) a1 ?_
 refine⟨_,[s1.heap.objs.size+1,s1.heap.objs.size],_,_,H1,rfl,I1.kept (t':=s1.toks) hk,DF l (s1.heap.objs.size+1) s1.heap.objs.size (neN (by omega)),⟨⟨_,a1⟩,a2⟩,fun b hb=>?_,q⟩
 have DG:s1.heap.objs.size≤b:=by
  simp only [List.mem_cons,List.not_mem_nil,or_false] at hb
  rcases hb with e|e<;>rw[e]<;>first|exact Nat.le_refl _|exact Nat.le_add_right _ _
 exact I1.z6 DG (I1.aU.fresh DG)
end L2
namespace L2
open PySem PySem.Spec PyProof.Rows
section
variable {K:PySem.W.Frag} {g:TG} {tt:TT} {te:TE} {tb:TS} {D:Ends}
theorem Ko {J:It} {L:Addr} {Q:Hp→Prop} {σ:St} {H:Hp} (n:Nat) (H0:Hp) (S:St→Prop) (Pv:Nat→List V→Prop) (Ot:∀i H',i<n→au H0 H'→J.go i H') (qW:∀H',au H0 H'→J.stop n H')
  (An:H0 L=none) (hσ:S σ) (h0:au H0 H) (hL:H L=some (.lst [])) (p0:Pv 0 []) (hz:n≤sizeLine) (hl:∀i ys,Pv i ys→ys.length≤i)
  (turn:∀i σ H' ys,i<n→S σ→au H0 H'→H' L=some (.lst ys)→Pv i ys→∀(N:St→V→Hp→Prop) (M:St→Hp→Prop),(∀σ3 y H5,S σ3→au H0 H5→H5 L=some (.lst ys)→Pv (i+1) (ys++[y])→N σ3 y H5)→
   ∀x H2,J.pO i H' x H2→g x σ H2 fun σ3 H3=>tt σ3 H3 fun b H4=>if b=true then te σ3 H4 fun y H5=>N σ3 y H5 else M σ3 H4)
  (fin:∀H' ys,au H0 H'→H' L=some (.lst ys)→Pv n ys→Q H'):
  ∃W:Nat→Nat→St→Hp→Prop,(∃m,W 0 m σ H)∧∀i m σ H,W i m σ H→(J.stop i H∧Q H)∨(J.go i H∧∀x H2,J.pO i H x H2→g x σ H2 fun σ3 H3=>tt σ3 H3 fun b H4=>if b=true
   then te σ3 H4 fun y H5=>∃ys,H5 L=some (.lst ys)∧ys.length<sizeLine∧∃m',m'<m∧W (i+1) m' σ3 (upd H5 L (.lst (ys++[y])))
   else∃m',m'<m∧W (i+1) m' σ3 H4):=by
 refine⟨fun i m σ H=>m+i=n∧S σ∧au H0 H∧∃ys,H L=some (.lst ys)∧Pv i ys,⟨n,rfl,hσ,h0,[],hL,p0⟩,?_⟩
 rintro i m σ H ⟨hm,hs,fA,ys,DH,hp⟩
 by_cases hi:i<n
 ·refine .inr ⟨Ot i H hi fA,fun x H2 hy=>turn i σ H ys hi hs fA DH hp _ _ (fun σ3 y H5 k1 k2 k3 k4=>?_) x H2 hy⟩
  refine⟨ys,k3,by have:=hl i ys hp;omega,m - 1,by omega,by omega,k1,fun b o e=>?_,ys++[y],af,k4⟩
  rw[ah (ag e An)];exact k2 b o e
 ·have e:i=n:=by omega
  subst e
  exact .inl ⟨qW H fA,fin H ys fA DH hp⟩
theorem F4 {lo:Int} {n:Nat} {L:Addr} {Q:Hp→Prop} {σ:St} {H:Hp} (H0:Hp) (S:St→Prop) (Pv:Nat→List V→Prop)
  (An:H0 L=none) (hσ:S σ) (h0:au H0 H) (hL:H L=some (.lst [])) (p0:Pv 0 []) (hz:n≤sizeLine) (hl:∀i ys,Pv i ys→ys.length≤i)
  (turn:∀i σ H' ys,i<n→S σ→au H0 H'→H' L=some (.lst ys)→Pv i ys→∀(N:St→V→Hp→Prop) (M:St→Hp→Prop),(∀σ3 y H5,S σ3→au H0 H5→H5 L=some (.lst ys)→Pv (i+1) (ys++[y])→N σ3 y H5)→
   g (.int (lo+i)) σ H' fun σ3 H3=>tt σ3 H3 fun b H4=>if b=true then te σ3 H4 fun y H5=>N σ3 y H5 else M σ3 H4)
  (fin:∀H' ys,au H0 H'→H' L=some (.lst ys)→Pv n ys→Q H'):
  ∃W:Nat→Nat→St→Hp→Prop,(∃m,W 0 m σ H)∧∀i m σ H,W i m σ H→((Fd lo n).stop i H∧Q H)∨((Fd lo n).go i H∧∀x H2,(Fd lo n).pO i H x H2→g x σ H2 fun σ3 H3=>tt σ3 H3 fun b H4=>if b=true
   then te σ3 H4 fun y H5=>∃ys,H5 L=some (.lst ys)∧ys.length<sizeLine∧∃m',m'<m∧W (i+1) m' σ3 (upd H5 L (.lst (ys++[y])))
   else∃m',m'<m∧W (i+1) m' σ3 H4):=
 Ko n H0 S Pv (fun i H' hi e=>hi) (fun H' e=>Nat.le_refl _) An hσ h0 hL p0 hz hl
  (fun i σ H' ys hi hs e k p N M hN x H2 hy=>by
   obtain⟨rfl,rfl⟩:=hy
   exact turn i σ H2 ys hi hs e k p N M hN) fin
theorem yk {a:Addr} {xs:List V} {σ:St} {H:Hp} (Pv:Nat→St→Hp→Prop) (h0:Pv 0 σ H) (hl:∀i σ H,Pv i σ H→b5 K H a xs)
  (hs:∀i x p σ H,xs[i]? =some x→H p=none→Pv i σ H→g (.ref p) σ (upd H p (.tup [.int i,x])) fun σ2 H2=>tb { D with nx:=Pv (i+1),ct:=Pv (i+1),bk:=D.nx } σ2 H2) (hd:∀σ H,Pv xs.length σ H→D.nx σ H):
  ∃W:Nat→Nat→St→Hp→Prop,(∃m,W 0 m σ H)∧∀i m σ H,W i m σ H→
   ((SD K a).stop i H∧D.nx σ H)∨((SD K a).go i H∧∃N:St→Hp→Prop,(∀σ' H',N σ' H'→∃m',m'<m∧W (i+1) m' σ' H')∧∀x H',(SD K a).pO i H x H'→g x σ H' fun σ2 H2=>tb { D with nx:=N,ct:=N,bk:=D.nx } σ2 H2):=by
 refine⟨fun i m σ H=>m+i=xs.length∧Pv i σ H,⟨xs.length,rfl,h0⟩,?_⟩
 rintro i m σ H ⟨hm,p⟩
 have q1:=hl i σ H p
 by_cases sN:i<xs.length
 ·refine .inr ⟨⟨xs,xs[i],q1,List.getElem?_eq_getElem _⟩,Pv (i+1),fun σ' H' p'=>⟨m - 1,by omega,by omega,p'⟩,fun v H' hy=>?_⟩
  obtain⟨t,x,ht,rfl,rfl,hx⟩:=hy
  exact hs i x t σ H (hx xs q1) ht p
 ·have e:i=xs.length:=by omega
  subst e
  exact .inl ⟨⟨xs,q1,by omega⟩,hd σ H p⟩
end
end L2
namespace L2
open PySem PySem.Spec PyProof.Rows
section
variable {X:Cx} {pins:List (Addr×Obj)} {σ:St} {H:Hp} {s:Shared} {N:List Str} {fr:List (Option Nat)} {scope:Scope} {fp:List Addr}
end
section
variable {X:Cx} {elt tg iter:Expr} {ifs:List Expr} {scope:Scope} {pos Oo py:Pos} {N:List Str} {fr:List (Option Nat)} {wi:TI} {g:TG} {tt:TT} {te:TE}
end
section
variable {X:Cx} {tg:Expr} (K:PySem.W.Frag)
end
end L2
namespace L2
open PySem PySem.Spec PyProof.Rows
def MG (L:Addr) (H H':Hp):Prop:=∀b o,H b=some o→b≠L→H' b=some o
theorem MG.upd {L:Addr} {H:Hp} {o:HO}:MG L H (upd H L o):=fun b u h n=>by rw[ah n];exact h
section
variable {K:PySem.W.Frag} {g:TG} {tt:TT} {te:TE}
theorem yl {J:It} {L:Addr} {Q:Hp→Prop} {σ:St} {H:Hp} (n:Nat) (H0:Hp) (S:St→Prop) (Pv:Nat→List V→Hp→Prop) (Ot:∀i H',i<n→au H0 H'→J.go i H') (qW:∀H',au H0 H'→J.stop n H')
  (Ao:∀i ys H H',MG L H H'→Pv i ys H→Pv i ys H')
  (An:H0 L=none) (hσ:S σ) (h0:au H0 H) (hL:H L=some (.lst [])) (p0:Pv 0 [] H) (hz:n≤sizeLine) (hl:∀i ys H,Pv i ys H→ys.length≤i)
  (turn:∀i σ H' ys,i<n→S σ→au H0 H'→H' L=some (.lst ys)→Pv i ys H'→∀(N:St→V→Hp→Prop) (M:St→Hp→Prop),(∀σ3 y H5,S σ3→au H0 H5→H5 L=some (.lst ys)→Pv (i+1) (ys++[y]) H5→N σ3 y H5)→
   ∀x H2,J.pO i H' x H2→g x σ H2 fun σ3 H3=>tt σ3 H3 fun b H4=>if b=true then te σ3 H4 fun y H5=>N σ3 y H5 else M σ3 H4)
  (fin:∀H' ys,au H0 H'→H' L=some (.lst ys)→Pv n ys H'→Q H'):
  ∃W:Nat→Nat→St→Hp→Prop,(∃m,W 0 m σ H)∧∀i m σ H,W i m σ H→(J.stop i H∧Q H)∨(J.go i H∧∀x H2,J.pO i H x H2→g x σ H2 fun σ3 H3=>tt σ3 H3 fun b H4=>if b=true
   then te σ3 H4 fun y H5=>∃ys,H5 L=some (.lst ys)∧ys.length<sizeLine∧∃m',m'<m∧W (i+1) m' σ3 (upd H5 L (.lst (ys++[y])))
   else∃m',m'<m∧W (i+1) m' σ3 H4):=by
 refine⟨fun i m σ H=>m+i=n∧S σ∧au H0 H∧∃ys,H L=some (.lst ys)∧Pv i ys H,⟨n,rfl,hσ,h0,[],hL,p0⟩,?_⟩
 rintro i m σ H ⟨hm,hs,fA,ys,DH,hp⟩
 by_cases hi:i<n
 ·refine .inr ⟨Ot i H hi fA,fun x H2 hy=>turn i σ H ys hi hs fA DH hp _ _ (fun σ3 y H5 k1 k2 k3 k4=>?_) x H2 hy⟩
  refine⟨ys,k3,by have:=hl i ys H hp;omega,m - 1,by omega,by omega,k1,fun b o e=>?_,ys++[y],af,Ao _ _ _ _ MG.upd k4⟩
  rw[ah (ag e An)];exact k2 b o e
 ·have e:i=n:=by omega
  subst e
  exact .inl ⟨qW H fA,fin H ys fA DH hp⟩
theorem kU {a L:Addr} {xs:List V} {Q:Hp→Prop} {σ:St} {H:Hp} (H0:Hp) (S:St→Prop) (Pv:Nat→List V→Hp→Prop) (ha:b5 K H0 a xs) (Ao:∀i ys H H',MG L H H'→Pv i ys H→Pv i ys H')
  (An:H0 L=none) (hσ:S σ) (h0:au H0 H) (hL:H L=some (.lst [])) (p0:Pv 0 [] H) (hz:xs.length≤sizeLine) (hl:∀i ys H,Pv i ys H→ys.length≤i)
  (turn:∀i x σ H' ys,xs[i]? =some x→S σ→au H0 H'→H' L=some (.lst ys)→Pv i ys H'→∀(N:St→V→Hp→Prop) (M:St→Hp→Prop),(∀σ3 y H5,S σ3→au H0 H5→H5 L=some (.lst ys)→Pv (i+1) (ys++[y]) H5→N σ3 y H5)→
   g x σ H' fun σ3 H3=>tt σ3 H3 fun b H4=>if b=true then te σ3 H4 fun y H5=>N σ3 y H5 else M σ3 H4)
  (fin:∀H' ys,au H0 H'→H' L=some (.lst ys)→Pv xs.length ys H'→Q H'):
  ∃W:Nat→Nat→St→Hp→Prop,(∃m,W 0 m σ H)∧∀i m σ H,W i m σ H→((Bx K a).stop i H∧Q H)∨((Bx K a).go i H∧∀x H2,(Bx K a).pO i H x H2→g x σ H2 fun σ3 H3=>tt σ3 H3 fun b H4=>if b=true
   then te σ3 H4 fun y H5=>∃ys,H5 L=some (.lst ys)∧ys.length<sizeLine∧∃m',m'<m∧W (i+1) m' σ3 (upd H5 L (.lst (ys++[y])))
   else∃m',m'<m∧W (i+1) m' σ3 H4):=
 yl xs.length H0 S Pv (fun i H' hi e=>⟨xs,xs[i],e.seq ha,List.getElem?_eq_getElem hi⟩) (fun H' e=>⟨xs,e.seq ha,Nat.le_refl _⟩) Ao An hσ h0 hL p0 hz hl
  (fun i σ H' ys _ hs e k p N M hN x H2 hy=>by
   obtain⟨rfl,hx⟩:=hy
   exact turn i x σ H2 ys (hx xs (e.seq ha)) hs e k p N M hN) fin
theorem DI {lo:Int} {n:Nat} {L:Addr} {Q:Hp→Prop} {σ:St} {H:Hp} (H0:Hp) (S:St→Prop) (Pv:Nat→List V→Hp→Prop) (Ao:∀i ys H H',MG L H H'→Pv i ys H→Pv i ys H')
  (An:H0 L=none) (hσ:S σ) (h0:au H0 H) (hL:H L=some (.lst [])) (p0:Pv 0 [] H) (hz:n≤sizeLine) (hl:∀i ys H,Pv i ys H→ys.length≤i)
  (turn:∀i σ H' ys,i<n→S σ→au H0 H'→H' L=some (.lst ys)→Pv i ys H'→∀(N:St→V→Hp→Prop) (M:St→Hp→Prop),(∀σ3 y H5,S σ3→au H0 H5→H5 L=some (.lst ys)→Pv (i+1) (ys++[y]) H5→N σ3 y H5)→
   g (.int (lo+i)) σ H' fun σ3 H3=>tt σ3 H3 fun b H4=>if b=true then te σ3 H4 fun y H5=>N σ3 y H5 else M σ3 H4)
  (fin:∀H' ys,au H0 H'→H' L=some (.lst ys)→Pv n ys H'→Q H'):
  ∃W:Nat→Nat→St→Hp→Prop,(∃m,W 0 m σ H)∧∀i m σ H,W i m σ H→((Fd lo n).stop i H∧Q H)∨((Fd lo n).go i H∧∀x H2,(Fd lo n).pO i H x H2→g x σ H2 fun σ3 H3=>tt σ3 H3 fun b H4=>if b=true
   then te σ3 H4 fun y H5=>∃ys,H5 L=some (.lst ys)∧ys.length<sizeLine∧∃m',m'<m∧W (i+1) m' σ3 (upd H5 L (.lst (ys++[y])))
   else∃m',m'<m∧W (i+1) m' σ3 H4):=
 yl n H0 S Pv (fun i H' hi e=>hi) (fun H' e=>Nat.le_refl _) Ao An hσ h0 hL p0 hz hl
  (fun i σ H' ys hi hs e k p N M hN x H2 hy=>by
   obtain⟨rfl,rfl⟩:=hy
   exact turn i σ H2 ys hi hs e k p N M hN) fin
end
mutual
theorem mG:∀d:PyData,d.canLay0=true→PyData.eqv d d=true
 | .none,_=>by simp [PyData.eqv]
 | .bool _,_=>by simp [PyData.eqv]
 | .int _,_=>by simp [PyData.eqv]
 | .str _,_=>by simp [PyData.eqv]
 | .list xs,h=>by rw[PyData.eqv];exact km xs (by simpa [PyData.canLay0] using h)
 | .tuple xs,h=>by rw[PyData.eqv];exact km xs (by simpa [PyData.canLay0] using h)
 | .dict _,h=>by simp [PyData.canLay0] at h
theorem km:∀xs:List PyData,PyData.canLayAll0 xs=true→PyData.eqvAll xs xs=true
 | [],_=>by simp [PyData.eqvAll]
 |x::xs,h=>by
  have h':x.canLay0=true∧PyData.canLayAll0 xs=true:=by simpa [PyData.canLayAll0] using h
  rw[PyData.eqvAll,mG x h'.1,km xs h'.2];rfl
end
theorem qX {α:Type} (f:α→PyData):∀l:List α,(∀x∈l,(f x).canLay0=true)→PyData.canLayAll0 (l.map f)=true
 | [],_=>by simp [PyData.canLayAll0]
 |x::l,h=>by
  rw[List.map_cons,PyData.canLayAll0,h x (List.mem_cons_self ..),qX f l fun y hy=>h y (List.mem_cons_of_mem _ hy)];rfl
theorem oq {d:PyData} (h1:d.canLay0=true) (h2:d.depth≤64):SeqAt.shaped d=true:=by
 unfold SeqAt.shaped;rw[h1,decide_eq_true h2];rfl
section
variable {X:Cx} (K:PySem.W.Frag)
end
end L2
namespace L2
open PySem PySem.Spec PyProof.Rows
section
variable {K:PySem.W.Frag} {g:TG} {tt:TT} {te:TE}
end
end L2
namespace L2
open PySem PySem.Spec PyProof.Rows
theorem tT:bootBuiltins "sorted" =some (.builtin "sorted"):=by decide+kernel
section
variable {X:Cx}
end
end L2
namespace L2
open PySem PySem.Spec PyProof.Rows
section
variable {X:Cx}
end
end L2
namespace L2
open PySem PySem.Spec PyProof.Rows PySem.W
section
variable {O:KeyOrd} {k:Nat→O.α} {n:Nat} {I:Shared→Prop} {cmp:Nat→Nat→(Bool→Shared→Prop)→Shared→Prop}
end
end L2
namespace PySem.SeqAt
open AutoSeq1 (wpAny_loadPart')
open MeetsSeq MeetsSeq2 MeetsSeq3
def Kp (e c:Nat→Bool):List Nat→Bool
 | []=>false
 |j::r=>if e j=true then Kp e c r else c j
end PySem.SeqAt
namespace L2
open PySem PySem.Spec PyProof.Rows PySem.SeqAt PySem.W
@[reducible] def colOrd:KeyOrd where
  α:=List Int
  blt a b:=decide (a<b)
  irrefl a:=by simp
  trans a b c h1 h2:=by simp only [decide_eq_true_eq] at*;exact List.lt_trans h1 h2
  negTrans a b c h:=by
   simp only [decide_eq_true_eq] at*
   by_cases Ou:a<b
   ·exact .inl Ou
   ·exact .inr (List.lt_of_le_of_lt (List.not_lt.mp Ou) h)
  total a b h1 h2:=by simp only [decide_eq_false_iff_not] at*;exact List.le_antisymm (List.not_lt.mp h2) (List.not_lt.mp h1)
theorem Kq:∀(xs ys:List Int) (d:Nat) (f g:Nat→Int),xs.length=ys.length→(∀j,j<xs.length→f (d+j)=xs.getD j 0)→(∀j,j<xs.length→g (d+j)=ys.getD j 0)→
  Kp (fun j=>f j==g j) (fun j=>decide (f j<g j)) (List.range' d xs.length)=decide (xs<ys)
 | [],[],d,f,g,_,_,_=>by simp [Kp]
 |x::xs,y::ys,d,f,g,hl,hf,hg=>by
  have h0:=hf 0 (by simp)
  have g0:=hg 0 (by simp)
  simp at h0 g0
  have ih:=Kq xs ys (d+1) f g (by simpa using hl) (fun j hj=>by
   have:=hf (j+1) (by simp;omega)
   rw[show d+1+j=d+(j+1) by omega,this];simp) (fun j hj=>by
   have:=hg (j+1) (by simp;omega)
   rw[show d+1+j=d+(j+1) by omega,this];simp)
  rw[List.length_cons,List.range'_succ,Kp,ih,h0,g0]
  by_cases e:x=y
  ·subst e
   rw[if_pos (by simp)]
   simp [List.cons_lt_cons_iff]
  ·rw[if_neg (by simpa using e)]
   simp [List.cons_lt_cons_iff,e]
section
variable {prog:Program} {w:World} {A:Around} {E:Value→Shared→Prop} {s:Shared}
end
section
variable {X:Cx}
end
end L2
namespace L2
open PySem PySem.Spec PyProof.Rows
theorem Ov:bootBuiltins "min" =some (.builtin "min"):=by decide+kernel
section
variable {X:Cx}
end
end L2
namespace L2
open PySem PySem.Spec PyProof.Rows
section
variable {K:PySem.W.Frag} {g:TG} {tt:TT} {te:TE}
theorem F5 {J:It} {L:Addr} {Q:Hp→Prop} {σ:St} {H:Hp} (n:Nat) (H0:Hp) (S:St→Prop) (Pv:Nat→List V→Prop) (Ot:∀i H',i<n→au H0 H'→J.go i H') (qW:∀H',au H0 H'→J.stop n H')
  (An:H0 L=none) (hσ:S σ) (h0:au H0 H) (hL:H L=some (.lst [])) (p0:Pv 0 []) (hz:n≤sizeLine) (hl:∀i ys,Pv i ys→ys.length≤i)
  (turn:∀i σ H' ys,i<n→S σ→au H0 H'→H' L=some (.lst ys)→Pv i ys→∀(N:St→V→Hp→Prop) (M:St→Hp→Prop),(∀σ3 y H5,S σ3→au H0 H5→H5 L=some (.lst ys)→Pv (i+1) (ys++[y])→N σ3 y H5)→(∀σ3 H4,S σ3→au H0 H4→H4 L=some (.lst ys)→Pv (i+1) ys→M σ3 H4)→
   ∀x H2,J.pO i H' x H2→g x σ H2 fun σ3 H3=>tt σ3 H3 fun b H4=>if b=true then te σ3 H4 fun y H5=>N σ3 y H5 else M σ3 H4)
  (fin:∀H' ys,au H0 H'→H' L=some (.lst ys)→Pv n ys→Q H'):
  ∃W:Nat→Nat→St→Hp→Prop,(∃m,W 0 m σ H)∧∀i m σ H,W i m σ H→(J.stop i H∧Q H)∨(J.go i H∧∀x H2,J.pO i H x H2→g x σ H2 fun σ3 H3=>tt σ3 H3 fun b H4=>if b=true
   then te σ3 H4 fun y H5=>∃ys,H5 L=some (.lst ys)∧ys.length<sizeLine∧∃m',m'<m∧W (i+1) m' σ3 (upd H5 L (.lst (ys++[y])))
   else∃m',m'<m∧W (i+1) m' σ3 H4):=by
 refine⟨fun i m σ H=>m+i=n∧S σ∧au H0 H∧∃ys,H L=some (.lst ys)∧Pv i ys,⟨n,rfl,hσ,h0,[],hL,p0⟩,?_⟩
 rintro i m σ H ⟨hm,hs,fA,ys,DH,hp⟩
 by_cases hi:i<n
 ·refine .inr ⟨Ot i H hi fA,fun x H2 hy=>turn i σ H ys hi hs fA DH hp _ _ (fun σ3 y H5 k1 k2 k3 k4=>?_) (fun σ3 H4 k1 k2 k3 k4=>?_) x H2 hy⟩
  ·refine⟨ys,k3,by have:=hl i ys hp;omega,m - 1,by omega,by omega,k1,fun b o e=>?_,ys++[y],af,k4⟩
   rw[ah (ag e An)];exact k2 b o e
  ·exact⟨m - 1,by omega,by omega,k1,k2,ys,k3,k4⟩
 ·have e:i=n:=by omega
  subst e
  exact .inl ⟨qW H fA,fin H ys fA DH hp⟩
theorem tU {a L:Addr} {xs:List V} {Q:Hp→Prop} {σ:St} {H:Hp} (H0:Hp) (S:St→Prop) (Pv:Nat→List V→Prop) (ha:b5 K H0 a xs)
  (An:H0 L=none) (hσ:S σ) (h0:au H0 H) (hL:H L=some (.lst [])) (p0:Pv 0 []) (hz:xs.length≤sizeLine) (hl:∀i ys,Pv i ys→ys.length≤i)
  (turn:∀i x σ H' ys,xs[i]? =some x→S σ→au H0 H'→H' L=some (.lst ys)→Pv i ys→∀(N:St→V→Hp→Prop) (M:St→Hp→Prop),(∀σ3 y H5,S σ3→au H0 H5→H5 L=some (.lst ys)→Pv (i+1) (ys++[y])→N σ3 y H5)→(∀σ3 H4,S σ3→au H0 H4→H4 L=some (.lst ys)→Pv (i+1) ys→M σ3 H4)→
   g x σ H' fun σ3 H3=>tt σ3 H3 fun b H4=>if b=true then te σ3 H4 fun y H5=>N σ3 y H5 else M σ3 H4)
  (fin:∀H' ys,au H0 H'→H' L=some (.lst ys)→Pv xs.length ys→Q H'):
  ∃W:Nat→Nat→St→Hp→Prop,(∃m,W 0 m σ H)∧∀i m σ H,W i m σ H→((Bx K a).stop i H∧Q H)∨((Bx K a).go i H∧∀x H2,(Bx K a).pO i H x H2→g x σ H2 fun σ3 H3=>tt σ3 H3 fun b H4=>if b=true
   then te σ3 H4 fun y H5=>∃ys,H5 L=some (.lst ys)∧ys.length<sizeLine∧∃m',m'<m∧W (i+1) m' σ3 (upd H5 L (.lst (ys++[y])))
   else∃m',m'<m∧W (i+1) m' σ3 H4):=
 F5 xs.length H0 S Pv (fun i H' hi e=>⟨xs,xs[i],e.seq ha,List.getElem?_eq_getElem hi⟩) (fun H' e=>⟨xs,e.seq ha,Nat.le_refl _⟩) An hσ h0 hL p0 hz hl
  (fun i σ H' ys _ hs e k p N M hN hM x H2 hy=>by
   obtain⟨rfl,hx⟩:=hy
   exact turn i x σ H2 ys (hx xs (e.seq ha)) hs e k p N M hN hM) fin
end
section
variable {X:Cx}
end
end L2
namespace L2
open PySem PySem.Spec PyProof.Rows
section
variable {K:PySem.W.Frag} {g:TG} {tt:TT} {te:TE}
end
section
variable {X:Cx}
end
end L2
namespace PySem.W
open PySem PySem.Calls PyProof.Rows PyProof.V PySem.Spec
section
variable {prog:Program} {w:World} {A:Around} {E:Value→Shared→Prop} {s:Shared} {T:String} {r d:Addr} {n:Nat} {P:Nat→Value→Prop} {OK:Heap→Prop}
theorem Ap {G:List Value→Shared→Prop} (S:KdlSrc prog w T r d n P OK) (hd:A.handled=none) (ok:OK s.heap) (small:n≤sizeLine)
  (q:∀(g:Heap) (k:Nat) (xs:Array Value),(∀b o,s.heap.get? b=some o→g.get? b=some o)→s.heap.objs.size<g.objs.size→ItemsOf P xs n→G xs.toList { s with heap:=g,toks:=k }):
  wpAny (model prog w) A (collect (.ref r)) G E s:=by
 obtain⟨lr,ld⟩:=S.there _ ok
 unfold collect;refine wpAny_bind (wpAny_runValue (codeAny_builtin entry_proto_collect' ?_));rw[Around.under_plainId PySem.F.plain_proto_collect _]
 show wpAny _ A.in1 (newList [] >>= fun y=>again (.builtin "list.__iadd__" ⟨[y, .ref r],[]⟩)) _ _ s
 refine wpAny_bind (wpAny_newObj_type (wpAny_pure ⟨plainId_quiet PySem.F.plain_list_iadd _,codeAny_builtin entry_list_iadd' ?_⟩))
 rw[Around.under_plainId PySem.F.plain_list_iadd _];show wpAny _ A.in1 (Builtin.List.listExtendWith (.ref s.heap.objs.size) (.ref r) (.ref s.heap.objs.size)) _ _ _
 have told:=kdl_extend (A:=A) (s:={ s with heap:=s.heap.push { cls:= .type "list",data:= .seq ([]:List Value).toArray } })
  (R:=fun z s1=>∃(g:Heap) (k:Nat) (xs:Array Value) (c:Nat),z= .ok (.ret (.ref s.heap.objs.size))∧s1={ s with heap:=g,toks:=k }∧(∀b o,s.heap.get? b=some o→g.get? b=some o)∧
   g.get? s.heap.objs.size=some { cls:= .type "list",dict:=none,data:= .seq xs c,slots:=#[] }∧ItemsOf P xs n) S hd (S.keep _ _ ok fun b _ o e=>Heap.get?_push_of_some _ e) s.heap.objs.size (Nat.ne_of_gt lr) (Nat.ne_of_gt ld)
  (.ref s.heap.objs.size) 0 (Heap.get?_push_size _ rfl) (fun g k xs c kp at' its=>⟨g,k,xs,c,rfl,rfl,fun b o e=>kp b o (Nat.ne_of_lt (Heap.lt_size e)) (Heap.get?_push_of_some _ e),at',its⟩) small
 refine wpAny_mono told (fun z s1 y=>?_) fun z s1 y=>?_
 ·cases z with
  |done f=>obtain⟨g,k,xs,c,e,rfl,kp,at',its⟩:=y;cases e;exact wpAny_bind (wpAny_load at' (wpAny_pure (q g k xs kp (Heap.lt_size at') its)))
  |again c0=>
   refine⟨y.1,codeAny_mono y.2 fun z1 s2 y2=>?_⟩
   obtain⟨g,k,xs,c,rfl,rfl,kp,at',its⟩:=y2;exact wpAny_bind (wpAny_load at' (wpAny_pure (q g k xs kp (Heap.lt_size at') its)))
 ·obtain⟨_,_,_,_,e,_⟩:=y;cases e
end
end PySem.W
namespace L2
open PySem PySem.Spec PyProof.Rows PySem.W
section
variable {X:Cx}
theorem Aq:∀{us:List Value} {ss:List Str},StrsAre us ss→Vals (ss.map V.str) us:=by
 intro us ss h
 induction h with
 |nil=>exact .nil
 |cons=>exact .cons ⟨_,rfl⟩ (by assumption)
theorem mH {P:Program} {w:World}:∀{us:List Value} {ks:List Str},us.length=ks.length→(∀(j:Nat) (k:Str) (u:Value),ks[j]? =some k→us[j]? =some u→(bF P w).is (Sum.inr k) u=true)→StrsAre us ks
 | [],[],_,_=> .nil
 | [],_::_,h,_=>by simp at h
 |_::_,[],h,_=>by simp at h
 |u::us,k::ks,h,q=>by
  have hu:=q 0 k u rfl rfl
  rw[qw] at hu
  rcases cp hu with ⟨i,t,e,_⟩ | ⟨x,t,e,rfl⟩
  ·cases e
  ·cases e
   exact .cons _ _ (mH (by simpa using h) fun j k' u' h1 h2=>q (j+1) k' u' (by simpa using h1) (by simpa using h2))
end
end L2
namespace L2
open PySem PySem.Spec PyProof.Rows
section
variable {X:Cx}
end
end L2
namespace L2
open PySem PySem.Spec PyProof.Rows
section
variable {X:Cx}
theorem gY:n4 X (compareOp .LtE) (fun x y H Q=>∃i j,x= .str i∧y= .str j∧Q (.bl (!decide (j.cps.toList<i.cps.toList))) H):=by
 intro pins s σ H x y v u Q I rx ry h
 obtain⟨i,j,rfl,rfl,q⟩:=h
 obtain⟨t,rfl⟩:=(show∃t,v=Value.str i t from rx)
 obtain⟨t',rfl⟩:=(show∃t,u=Value.str j t from ry)
 exact PySem.P.le_str ⟨.bl _,H,I,rfl,q⟩
theorem DJ:gD X (.type "int") (fun xs H Q=>∃x n,xs=[.str x]∧PySem.intText? x=some n∧x.length≤640∧Q (.int n) H):=by
 intro pins s σ H xs us Q I r h
 obtain⟨x,n,rfl,hn,hl,q⟩:=h
 obtain⟨u,rfl,ru⟩:=vals1 r
 obtain⟨t,rfl⟩:=(show∃t,u=Value.str x t from ru)
 exact PySem.W.KIN.call_text hn hl ⟨.int n,H,I.tok _,⟨_,rfl⟩,q⟩
def rSlS:V→Option Int→Option Int→Hp→VK→Prop:=fun x lo hi H Q=>∃y,x= .str y∧y.length≤sizeLine∧Q (.str (Txt.slice y lo hi)) H
theorem vO:SlR X rSlS:=by
 intro pins s σ H x v vl vu lo hi sl Q I rx hs pl pu h
 obtain⟨y,rfl,hz,q⟩:=h
 obtain⟨t,rfl⟩:=(show∃t,v=Value.str y t from rx)
 refine⟨"str",_,F.slot_str_getitem.lookup,typeIs_str _ _ _,?_⟩
 cases pl with
 |none=>cases pu with
  |none=>exact wpAny_getItem_str_slice (l:=none) (u:=none) (st:=none) hs rfl (post_val_or_str ⟨Nat.le_trans (Txt.slice_le y _ _) hz,fun t' k=>⟨.str _,H,I.tok k,⟨t',rfl⟩,q⟩⟩)
  |int j uj=>exact wpAny_getItem_str_slice (l:=none) (u:=some (j,uj)) (st:=none) hs rfl (post_val_or_str ⟨Nat.le_trans (Txt.slice_le y _ _) hz,fun t' k=>⟨.str _,H,I.tok k,⟨t',rfl⟩,q⟩⟩)
 |int i ui=>cases pu with
  |none=>exact wpAny_getItem_str_slice (l:=some (i,ui)) (u:=none) (st:=none) hs rfl (post_val_or_str ⟨Nat.le_trans (Txt.slice_le y _ _) hz,fun t' k=>⟨.str _,H,I.tok k,⟨t',rfl⟩,q⟩⟩)
  |int j uj=>exact wpAny_getItem_str_slice (l:=some (i,ui)) (u:=some (j,uj)) (st:=none) hs rfl (post_val_or_str ⟨Nat.le_trans (Txt.slice_le y _ _) hz,fun t' k=>⟨.str _,H,I.tok k,⟨t',rfl⟩,q⟩⟩)
end
def SH (x:Str):It:=⟨fun i _=>i<x.length,fun i H v H'=>H'=H∧∃c,x.cps[i]? =some c∧v= .str ⟨#[c]⟩,fun i _=>x.length≤i⟩
theorem F6 {P:Program} {w:World} {K:PySem.W.Frag} {tg:Expr} (it:Addr) (x:Str) (t:Tok):
  Turn P w K tg (SH x) [it] it (fun i h=>h.IsStrIter it "str_ascii_iterator" x t i) where
 mem:=by simp
 obj:=fun i h st b hb=>by
  have e:b=it:=by simpa using hb
  subst e
  obtain⟨o,e,c,d⟩:=st
  exact⟨o,e,fun v z=>by rw[d] at z;cases z⟩
 keep:=fun i h h' st k=>let ⟨o,ho,r⟩:=st;⟨o,k it (by simp) o ho,r⟩
 item:=by
  intro X hP hw hK hc i pins s σ H E I hf st hg
  subst hP hw hK
  have hg:i<x.cps.size:=hg
  obtain⟨f0,f1,f2,f3,f4,f5⟩:=hf it (by simp)
  refine wpAny_pyNext_ascii_item st (Array.getElem?_eq_getElem hg) fun h' By sb=>?_
  have I1:Inv X pins σ H { s with heap:=h',toks:=s.toks+1 }:=I.turned (t':=s.toks+1) (fun b o hb e=>(sb.2 b hb).trans e) f0 f1 f3 f4 f5
  obtain⟨oi,e,c,d⟩:=id By
  exact⟨_,rfl,Bw (s:={ s with heap:=h',toks:=s.toks+1 }) e c d (by decide) ⟨.str ⟨#[x.cps[i]]⟩,H,I1,⟨_,rfl⟩,⟨rfl,_,Array.getElem?_eq_getElem hg,rfl⟩,By,fun b hb=>(hf b hb).1⟩⟩
 done:=by
  intro X hP hw hK hc i pins s σ H E I hf st hg
  subst hP hw hK
  have hg:x.cps.size≤i:=hg
  obtain⟨f0,f1,f2,f3,f4,f5⟩:=hf it (by simp)
  exact wpAny_pyNext_ascii_end (I.ok.hd hc) st (Array.getElem?_eq_none hg) fun h' eb=>⟨rfl,I.turned (t':=s.toks) (fun b o hb e=>eb b o hb e) f0 f1 f3 f4 f5⟩
 self:=fun _ _ _ _ _ st h=>wpAny_pyIter_striter_ascii st h
section
variable {X:Cx} {tg:Expr}
def iStr (tl:TE):TI:=fun σ H R=>tl σ H fun v H1=>∃x,v= .str x∧x.cps.all (· <128)=true∧R (SH x) H1
theorem Ow {l:Expr} {tl:TE} (hl:PE X l tl):PI X tg l (iStr tl):=by
 intro pins s σ H R I h
 refine bZ (hl pins s σ H _ I h) fun v s1 ⟨y,H1,I1,r1,x,e,ha,q⟩=>?_
 subst e
 obtain⟨t,rfl⟩:=(show∃t,v=Value.str x t from r1)
 refine wpAny_pyIter_ascii ha ?_
 refine⟨s1.heap.objs.size,[s1.heap.objs.size],_,_,_,rfl,I1.kept (t':=s1.toks) fun b o e=>Heap.get?_push_of_some _ e,F6 _ x t,?_,fun b hb=>?_,q⟩
 ·exact⟨_,Heap.get?_push_size _ rfl,rfl,rfl⟩
 ·have e:b=s1.heap.objs.size:=by simpa using hb
  subst e
  exact I1.z6 (Nat.le_refl _) (I1.aU.fresh (Nat.le_refl _))
end
theorem Kr {x:Str} {g:TG} {tb:TS} {D:Ends} {σ:St} {H:Hp} (Pv:Nat→St→Hp→Prop) (h0:Pv 0 σ H)
  (hs:∀i c σ H,x.cps[i]? =some c→Pv i σ H→g (.str ⟨#[c]⟩) σ H fun σ2 H2=>tb { D with nx:=Pv (i+1),ct:=Pv (i+1),bk:=D.nx } σ2 H2) (hd:∀σ H,Pv x.length σ H→D.nx σ H):
  ∃W:Nat→Nat→St→Hp→Prop,(∃m,W 0 m σ H)∧∀i m σ H,W i m σ H→
   ((SH x).stop i H∧D.nx σ H)∨((SH x).go i H∧∃N:St→Hp→Prop,(∀σ' H',N σ' H'→∃m',m'<m∧W (i+1) m' σ' H')∧∀v H',(SH x).pO i H v H'→g v σ H' fun σ2 H2=>tb { D with nx:=N,ct:=N,bk:=D.nx } σ2 H2):=by
 refine⟨fun i m σ H=>m+i=x.length∧Pv i σ H,⟨x.length,rfl,h0⟩,?_⟩
 rintro i m σ H ⟨hm,p⟩
 by_cases hi:i<x.length
 ·refine .inr ⟨hi,Pv (i+1),fun σ' H' q=>⟨m - 1,by omega,by omega,q⟩,?_⟩
  rintro v H' ⟨rfl,c,hc,rfl⟩
  exact hs i c σ _ hc p
 ·have e:i=x.length:=by omega
  subst e
  exact .inl ⟨Nat.le_refl _,hd σ H p⟩
end L2
namespace L2
open PySem PySem.Spec PyProof.Rows
section
variable {X:Cx}
theorem BM (K:PySem.W.Frag) (hK:X.K=K):Sk X (Sl K):=by subst hK;exact hV
end
end L2
namespace PySem.W
open PySem PySem.Calls PyProof.Rows PyProof.V PySem.Spec
section
variable {prog:Program} {w:World} {A:Around} {E:Value→Shared→Prop} {s:Shared} {T:String} {r d:Addr} {n:Nat} {P:Nat→Value→Prop} {OK:Heap→Prop}
theorem ym {ss:List Str} {Q:Value→Shared→Prop} (S:KdlSrc prog w T r d n P OK) (hd:A.handled=none) (ok:OK s.heap) (hn:n<64) (hs:∀xs:Array Value,ItemsOf P xs n→StrsAre xs.toList ss)
  (q:∀(g:Heap) (k:Nat) (a:Addr) (out:Array Value) (MH:List Str) (e:Nat),(∀b o,s.heap.get? b=some o→g.get? b=some o)→s.heap.objs.size≤a→g.get? a=some (seqObj "list" out e)→StrsAre out.toList MH→MH.Perm ss→sortedS MH=true→Q (.ref a) { s with heap:=g,toks:=k }):
  wpAny (model prog w) A (call (.builtin "sorted") [.ref r]) Q E s:=by
 refine Calls.call_function_entry kind_sorted plain_sorted entry_sorted (args_sorted1 _) ?_
 unfold Builtin.«sorted»;refine wpAny_bind (m:=checkCount "sorted" 1 1 _) (wpAny_pure ?_)
 have big:(64 :Nat)≤sizeLine:=by decide
 refine wpAny_bind (Ap (A:=A.in1) S hd ok (by omega) fun g k xs kp lt its=>?_)
 have hS:=hs xs its
 have hl:xs.toList.length=n:=by rw[Array.length_toList];exact its.1
 refine wpAny_bind (wpAny_newList ?_ (by rw[hl];omega))
 have Ra:(g.push (seqObj "list" xs.toList.toArray 0)).get? g.objs.size=some (seqObj "list" xs.toList.toArray 0):=Heap.get?_push_size _ rfl
 refine wpAny_bind (wpAny_holding (wpAny_call_entry slot_list_sort ⟨_,Ra,rfl⟩ entry_list_sort (list_sort_treeK strKind_oneLt Ra hS.keysOf (fun v₁ v₂ rest e=>keyKind_strs (by rw[←e];exact hS)) (by omega) fun By a1 a2=>⟨_,rfl,?_⟩) (args_list_sort _)))
 obtain⟨MH,h1,h2,h3⟩:=sorted_out_str hS a1 a2
 obtain⟨e,he⟩:=sortedHeap_at (out:=(arrOf By).map (·.2)) Ra
 refine wpAny_pure ⟨_,rfl,q _ k g.objs.size _ MH e (fun b o z=>?_) (by omega) he h1 h2 h3⟩
 have hb:=kp b o z
 have sN:=Heap.lt_size hb
 rw[sortedHeap_old (Nat.ne_of_lt sN) (by rw[size_push'];exact Nat.lt_succ_of_lt sN),Heap.get?_push_ne _ _ _ (Nat.ne_of_lt sN)]
 exact hb
end
end PySem.W
namespace L2
open PySem PySem.Spec PyProof.Rows PySem.W
section
variable {X:Cx}
theorem mI (hc:X.calm=true):gD X (.builtin "sorted") (fun xs H Q=>∃p kvs,∃ks:List Str,xs=[.ref p]∧Rd H p (.dK kvs)∧kvs.map (·.1)=ks.map Sum.inr∧ks.length<64∧∀(l:Addr) (ms:List Str),ms.Perm ks→sortedS ms=true→H l=none→Q (.ref l) (upd H l (.lst (ms.map V.str)))):=by
 intro pins s σ H xs us Q I r h
 obtain⟨p,kvs,ks,rfl,hk,xQ,h64,q⟩:=h
 obtain⟨u,rfl,ru⟩:=vals1 r
 cases ru
 obtain⟨z,lo,vs,rel,dd⟩:=mz I.aU hk
 obtain⟨ep,da⟩:=dd.dictAt
 have hlen:vs.length=ks.length:=by
  have:=congrArg List.length xQ
  rw[List.length_map,List.length_map] at this
  rw[←rel.length];exact this
 have key:∀(j:Nat) (k:Key) (x:Value),vs[j]? =some (k,x)→(ks[j]?).map Sum.inr=some k:=fun j k x e=>by
  have h1:(kvs.map (·.1))[j]? =some k:=by rw[rel.keys,List.getElem?_map,e];rfl
  rw[xQ,List.getElem?_map] at h1
  exact h1
 refine ym (ss:=ks) (kdl_dict (knd:=bF X.prog X.w) (kvs:=vs) (ep:=ep) lo) (I.ok.hd hc) da (by omega) (fun ar its=>?_) fun g k a out MH e kp le hg h1 h2 h3=>?_
 ·refine mH (P:=X.prog) (w:=X.w) (by rw[Array.length_toList,its.1,hlen]) fun j k u h1 h2=>?_
  obtain⟨k',x,h3,h4⟩:=its.2 j u (by simpa using h2)
  have h5:=key j k' x h3
  rw[h1] at h5
  cases h5
  exact h4
 ·refine⟨.ref a,_,I.laid (t':=k) (o:= .lst (MH.map V.str)) kp le ⟨?_,out.toList,e,Aq h1,?_⟩,rfl,q _ MH h2 h3 (I.aU.fresh le)⟩
  ·rw[List.length_map,h2.length_eq]
   have big:(64 :Nat)≤sizeLine:=by decide
   omega
  ·rw[hg]
end
section
variable {X:Cx} {pins:List (Addr×Obj)} {σ:St} {H:Hp} {s:Shared} {a b:Addr} {kvs more:List (Key×V)} {A:Around} {E:Value→Shared→Prop}
theorem F7 {Q:Value→Shared→Prop} (I:Inv X pins σ H s) (e:H a=some (.dK kvs)) (e2:H b=some (.dK more)) (Ou:a≠b) (hz:kvs.length+more.length≤sizeLine)
  (h:∀s',Inv X pins σ (upd H a (.dK (cu kvs more))) s'→Q .none s'):wpAny (model X.prog X.w) A (call (.builtin "dict.update") [.ref a, .ref b]) Q E s:=by
 obtain⟨z,hd,vs,rel,dd⟩:=qJ I.aU e
 obtain⟨z2,hd2,ws,SI,Y0⟩:=qJ I.aU e2
 refine call_meetsIn PySem.F.slot_dict_update dd.typeIs PySem.F.entry_dict_update (PySem.F.args_dict_update_2 _ _) (meets_dict_update (bF X.prog X.w) a b Ou hd2)
  ⟨vs,ws,dd,Y0,by rw[←rel.length,←SI.length];exact hz,fun h' Dx _ hs=>h _ ?_⟩
 have he:∃q,h'.get? a=some q:=let ⟨q,_,_,hq,_⟩:=Dx;⟨q,hq⟩
 exact pQ I (by rw[e];exact True.intro) hs he (qK (Nat.le_trans (eG more kvs) hz) hd (KV.merge SI rel) Dx)
end
def SJ (td ty:TE):TE:=fun σ H Q=>td σ H fun x H1=>∃a,x= .ref a∧Z8 H1 a∧ty σ H1 fun y H2=>∃b kvs more,y= .ref b∧H2 a=some (.dK kvs)∧H2 b=some (.dK more)∧a≠b∧kvs.length+more.length≤sizeLine∧Q .cU (upd H2 a (.dK (cu kvs more)))
section
variable {X:Cx} {o e:Expr} {apos g9:Pos} {td ty:TE}
theorem Kt (ho:PE X o td) (he:PE X e ty) (m:M1 X o "update" apos e g9):PE X (.Call (.Attribute o "update" apos) [e] [] g9) (SJ td ty):=by
 intro pins s σ H Q I h
 refine wpAny_Call_method m.base m.Z7 m.line PySem.F.plainAttrs_dict PySem.F.slot_dict_update PySem.F.type_dict_update (bZ (ho pins s σ H _ I h) fun u s1 ⟨x,H1,I1,rx,a,ex,d,q1⟩=>?_)
 subst ex
 obtain rfl:u=Value.ref a:=rx
 obtain⟨t1,t2,_⟩:=FP I1 d
 refine⟨t1,t2,?_⟩
 rw[m.trees]
 refine Calls.callWith_builtin rfl (Calls.evalArgs_plain (Calls.spliced_cons (bZ (he pins s1 σ H1 _ I1 q1) fun iv s2 ⟨y,H2,I2,ry,b,kvs,more,ey,ea,eb,Ou,hz,q2⟩=>Calls.spliced_nil ?_)))
 subst ey
 obtain rfl:iv=Value.ref b:=ry
 exact F7 I2 ea eb Ou hz fun s3 I3=>⟨.cU,_,I3,rfl,q2⟩
end
end L2
namespace L2
open PySem PySem.Spec PyProof.Rows
end L2
namespace L2
open PySem PySem.Spec PyProof.Rows
end L2
namespace L2
open PySem PySem.Spec PyProof.Rows PySem.W
section
variable {X:Cx}
end
end L2
namespace L2
open PySem PySem.Spec PyProof.Rows
theorem Ox {X:Cx} {body:List Stmt} {h0:ExceptHandler} {hs:List ExceptHandler} {pos:Pos} {t:TS} (hx:∀v s,X.xe v s→False) (hb:lU X body t):PS X (.Try body (h0::hs) [] [] pos) t:=by
 intro pins s σ H D I h
 refine wpAny_Try_except (wpAny_mono (hb pins s σ H D I h) (fun f s1 q=>?_) fun e s1 z=>(hx e s1 z).elim)
 cases f with
 |next=>exact wpAny_execs_nil q
 |brk=>exact q
 |cont=>exact q
 |ret u=>exact q
end L2
namespace L2
open PySem PySem.Spec PyProof.Rows
section
variable {X:Cx}
theorem F8:n4 X (binaryOp .FloorDiv) (rI (fun _ j=>0<j∧j<18446744073709551616) fun i j=> .int (i/j)):=RU fun i j _ _ _ _ _ hc q=>by
 have h1:(0 :Int) <j:=hc.1
 have h2:j<18446744073709551616:=hc.2
 refine floordiv_int (by omega) (by rw[Int.fdiv_eq_ediv_of_nonneg i (by omega)];exact q) (.inl (PyProof.noPylong_of_log2 ?_))
 have:=(Nat.log2_lt (n:=j.natAbs) (by omega) (k:=64)).mpr (by omega)
 omega
end
end L2
namespace L2
open PySem PySem.Spec PyProof.Rows
section
variable {X:Cx}
end
end L2
namespace L2
open PySem PySem.Spec PyProof.Rows
section
variable {X:Cx}
end
end L2
namespace PySem
structure Heap.ou (h:Heap) (e:Addr) (tb:Option Addr):Prop where
 ex:∃oe vs,h.get? e=some oe∧oe.data= .fields vs∧vs[1]? =some (tb.elim Value.none Value.ref)
 tr:∀T,tb=some T→T≠e∧∃oT ts,h.get? T=some oT∧oT.data= .fields ts∧3<ts.size
structure Heap.Moved (fs:List Addr) (e:Addr) (tb:Option Addr) (h h':Heap):Prop where
 keep:∀b o,h.get? b=some o→b≠e→tb≠some b→b∉fs→h'.get? b=some o
 slot:∀b o,h.get? b=some o→b≠e→tb≠some b→∃sl,h'.get? b=some { o with slots:=sl }
 self:∀o,h.get? e=some o→∃vs,h'.get? e=some { o with data:= .fields vs }
 ent:∀b o,tb=some b→b≠e→h.get? b=some o→∃o',h'.get? b=some o'
 size:h.objs.size≤h'.objs.size
theorem Heap.Moved.there {fs:List Addr} {e:Addr} {tb:Option Addr} {h h':Heap} (m:Heap.Moved fs e tb h h') (b:Addr) (o:Obj) (q:h.get? b=some o):∃o',h'.get? b=some o':=by
 by_cases be:b=e
 ·subst be
  obtain⟨vs,z⟩:=m.self o q
  exact⟨_,z⟩
 ·by_cases bt:tb=some b
  ·exact m.ent b o bt be q
  ·obtain⟨sl,z⟩:=m.slot b o q be bt
   exact⟨_,z⟩
theorem Heap.Moved.refl {fs:List Addr} {e:Addr} {tb:Option Addr} {h:Heap} (x:h.ou e tb):Heap.Moved fs e tb h h:=
 ⟨fun _ _ q _ _ _=>q,fun _ o q _ _=>⟨o.slots,q⟩,fun o q=>by
  obtain⟨oe,vs,he,hd,_⟩:=x.ex
  rw[q] at he
  cases he
  exact⟨vs,by rw[q,←hd]⟩,fun _ o _ _ q=>⟨o,q⟩,Nat.le_refl _⟩
theorem Heap.Moved.trans {fs:List Addr} {e:Addr} {tb tb':Option Addr} {h h1 h2:Heap} (x:Heap.Moved fs e tb h h1) (y:Heap.Moved fs e tb' h1 h2) (n:∀T,tb'=some T→tb=some T∨h.objs.size≤T):Heap.Moved fs e tb h h2 where
 keep:=fun b o q be bt bf=>y.keep b o (x.keep b o q be bt bf) be (fun z=>(n b z).elim bt fun w=>absurd (Heap.lt_size q) (Nat.not_lt.mpr w)) bf
 slot:=fun b o q be bt=>by
  obtain⟨sl,z⟩:=x.slot b o q be bt
  obtain⟨NR,z'⟩:=y.slot b _ z be (fun z=>(n b z).elim bt fun w=>absurd (Heap.lt_size q) (Nat.not_lt.mpr w))
  exact⟨NR,z'⟩
 self:=fun o q=>by
  obtain⟨vs,z⟩:=x.self o q
  obtain⟨vs',z'⟩:=y.self _ z
  exact⟨vs',z'⟩
 ent:=fun b o _ be q=>by
  obtain⟨o1,z⟩:=x.there b o q
  exact y.there b o1 z
 size:=Nat.le_trans x.size y.size
theorem Heap.Moved.mono {fs JQ:List Addr} {e:Addr} {tb:Option Addr} {h h':Heap} (x:Heap.Moved fs e tb h h') (k:∀b∈fs,b∈JQ):Heap.Moved JQ e tb h h':=
 ⟨fun b o q be bt bf=>x.keep b o q be bt fun z=>bf (k b z),x.slot,x.self,x.ent,x.size⟩
theorem vP {o:Obj} {vs:Array Value} (hd:o.data= .fields vs) (f:Array Value→Array Value):o.mapFields f={ o with data:= .fields (f vs) }:=by
 obtain⟨a,b,c,d⟩:=o
 cases hd
 rfl
section
variable {M:Model} {A:Around} {E:Value→Shared→Prop} {s:Shared}
theorem yn {base:Heap} {env:Env} {outer:List Env} {L e:Addr} {oe:Obj} {vs:Array Value} {Rh:Value} {nx:Bool} {Q:Unit→Shared→Prop} (fr:A.frames=some (env::outer)) (fl:s.heap.FunFrames base (env::outer)) (hL:env.frame=some L)
  (xe:s.heap.get? e=some oe) (xd:oe.data= .fields vs) (xs:1<vs.size)
  (k:∀h' T,h'.ou e (some T)→s.heap.objs.size≤T→Heap.Moved ((env::outer).filterMap (·.frame)) e none s.heap h'→Q () { s with heap:=h' }):
  wpAny M A (do let a←frameOf env;let pl←entryPlaceOf L nx;let b←EntryCells.newEntry Rh a .none (rawInt L) .none pl;setField (.ref e) 1 b) Q E s:=by
 have ene:e∉(env::outer).filterMap (·.frame):=fun z=>by
  obtain⟨_,o,q,nf⟩:=fl.mem z
  rw[xe] at q
  cases q
  exact nf vs xd
 refine wpAny_bind (wpAny_frameOf_fun fr fl hL fun g1 so=>?_)
 refine wpAny_bind (wpAny_entryPlaceOf fun pl ok=>?_)
 unfold EntryCells.newEntry newFields
 refine wpAny_bind (wpAny_newObj_type ?_ (ok.sizeOk5 _ _ _ _ _))
 have e1:g1.get? e=some oe:=(so.2.1 e ene).trans xe
 generalize hO:({ cls:= .type "traceback",dict:=none,data:= .fields ([Rh, .ref L, .none,rawInt L, .none]++(if pl.isEmpty then List.replicate 6 Value.none else pl)).toArray }:Obj)=ob
 have e2:=Heap.get?_push_of_some (h:=g1) ob e1
 refine wpAny_setField e2 xd xs ?_
 have Te:g1.objs.size≠e:=Nat.ne_of_gt (Heap.lt_size e1)
 have nf:ob.isFreed=false:=by rw[←hO];rfl
 have eT:(g1.push ob).get? g1.objs.size=some ob:=Heap.get?_push_size g1 nf
 have e3:=Heap.get?_update_self (Obj.mapFields (·.setIfInBounds 1 (Value.ref g1.objs.size))) e2 (Obj.isFreed_of_fields (Obj.data_mapFields xd _))
 refine k _ g1.objs.size ⟨⟨_,_,e3,Obj.data_mapFields xd _,by simp [xs]⟩,fun T z=>?_⟩ (Nat.le_of_eq so.1.symm) ⟨fun b o q be _ bf=>?_,fun b o q be _=>?_,fun o q=>?_,fun b o z=>(by cases z),?_⟩
 ·cases z
  refine⟨Te,ob,([Rh, .ref L, .none,rawInt L, .none]++(if pl.isEmpty then List.replicate 6 Value.none else pl)).toArray,?_,by rw[←hO],by simp only [List.size_toArray,List.length_append,List.length_cons,List.length_nil];omega⟩
  rw[Heap.get?_update_other _ _ (Ne.symm Te)]
  exact eT
 ·rw[Heap.get?_update_other _ _ (Ne.symm be)]
  exact Heap.get?_push_of_some _ ((so.2.1 b bf).trans q)
 ·obtain⟨sl,z⟩:=so.2.2 b o q
  refine⟨sl,?_⟩
  rw[Heap.get?_update_other _ _ (Ne.symm be)]
  exact Heap.get?_push_of_some _ z
 ·rw[xe] at q
  cases q
  exact⟨_,e3.trans (by rw[vP xd])⟩
 ·show s.heap.objs.size≤((g1.push ob).update e _).objs.size
  rw[Heap.size_after_update,Heap.size_push,←so.1]
  exact Nat.le_succ _
theorem ji {e:Addr} {tb fr:Option Addr} {Q:Unit→Shared→Prop} (x:s.heap.ou e tb) (k:∀h',h'.ou e tb→Heap.Moved [] e tb s.heap h'→Q () { s with heap:=h' }):wpAny M A (setFlight (.ref e) fr) Q E s:=by
 obtain⟨oe,vs,he,hd,h1⟩:=x.ex
 unfold setFlight
 refine wpAny_bind (wpAny_field he hd h1 ?_)
 cases tb with
 |none=>
  rw[if_neg (by decide)]
  exact wpAny_pure (k _ x (.refl x))
 |some T=>
  obtain⟨ne,oT,ts,hT,dT,sz⟩:=x.tr T rfl
  rw[if_pos (show ((some T).elim Value.none Value.ref != Value.none)=true from by simp)]
  generalize (fr.elim Value.none fun f=>rawInt f)=v3
  refine wpAny_setField hT dT sz ?_
  have tV:(s.heap.update T (Obj.mapFields (·.setIfInBounds 3 v3))).get? e=some oe:=(Heap.get?_update_other _ _ ne).trans he
  have Y7:=Heap.get?_update_self (Obj.mapFields (·.setIfInBounds 3 v3)) hT (Obj.isFreed_of_fields (Obj.data_mapFields dT _))
  refine k _ ⟨⟨oe,vs,tV,hd,h1⟩,fun T' z=>?_⟩ ⟨fun b o q _ bt _=>?_,fun b o q _ bt=>⟨o.slots,?_⟩,fun o q=>?_,fun b o z _ _=>?_,?_⟩
  ·cases z
   exact⟨ne,_,_,Y7,Obj.data_mapFields dT _,by simp [sz]⟩
  ·exact(Heap.get?_update_other _ _ fun z=>bt (by rw[z])).trans q
  ·exact(Heap.get?_update_other _ _ fun z=>bt (by rw[z])).trans q
  ·rw[he] at q
   cases q
   exact⟨vs,by rw[tV,←hd]⟩
  ·cases z
   exact⟨_,Y7⟩
  ·show s.heap.objs.size≤(s.heap.update T _).objs.size
   rw[Heap.size_after_update]
   exact Nat.le_refl _
theorem vQ {base:Heap} {env:Env} {outer:List Env} {L e:Addr} {tb:Option Addr} {Q:Unit→Shared→Prop} (fr:A.frames=some (env::outer)) (fl:s.heap.FunFrames base (env::outer)) (hL:env.frame=some L) (x:s.heap.ou e tb)
  (k:∀h' T,h'.ou e (some T)→tb=some T∨s.heap.objs.size≤T→Heap.Moved ((env::outer).filterMap (·.frame)) e tb s.heap h'→Q () { s with heap:=h' }):wpAny M A (noteFrame (.ref e) env) Q E s:=by
 obtain⟨oe,vs,he,hd,h1⟩:=id x.ex
 have sz1:1<vs.size:=(Array.getElem?_eq_some_iff.mp h1).1
 unfold noteFrame
 simp only [hL]
 refine wpAny_bind (wpAny_field he hd h1 ?_)
 cases tb with
 |none=>
  rw[if_neg (by decide)]
  exact yn fr fl hL he hd sz1 fun h' T a b c=>k h' T a (.inr b) c
 |some T=>
  obtain⟨ne,oT,ts,hT,dT,sz⟩:=x.tr T rfl
  rw[if_pos (show ((some T).elim Value.none Value.ref != Value.none)=true from by simp)]
  have h3:ts[3]? =some ts[3]:=Array.getElem?_eq_getElem sz
  refine wpAny_bind (wpAny_field hT dT h3 ?_)
  by_cases c:(ts[3]==rawInt L)=true
  ·rw[if_pos c]
   exact wpAny_pure (k _ T x (.inl rfl) (.refl x))
  ·rw[if_neg c]
   refine wpAny_bind (wpAny_setField hT dT sz ?_)
   have ot:∀b,b≠T→(s.heap.update T (Obj.mapFields (·.setIfInBounds 3 Value.none))).get? b=s.heap.get? b:=fun b z=>Heap.get?_update_other _ _ (Ne.symm z)
   have Y7:=Heap.get?_update_self (Obj.mapFields (·.setIfInBounds 3 Value.none)) hT (Obj.isFreed_of_fields (Obj.data_mapFields dT _))
   have zs:(s.heap.update T (Obj.mapFields (·.setIfInBounds 3 Value.none))).objs.size=s.heap.objs.size:=Heap.size_after_update ..
   refine yn (s:={ s with heap:=s.heap.update T (Obj.mapFields (·.setIfInBounds 3 Value.none)) }) fr (fl.of_keeps fun b o q nf=>⟨o,(ot b fun z=>?_).trans q,rfl⟩) hL ((ot e (Ne.symm ne)).trans he) hd sz1 fun h' T' a b c=>k h' T' a (.inr (by rw[←zs];exact b)) ?_
   ·rw[z,hT] at q
    cases q
    exact nf ts dT
   ·refine⟨fun b o q be bt bf=>c.keep b o ((ot b fun z=>bt (by rw[z])).trans q) be (fun z=>by cases z) bf,fun b o q be bt=>c.slot b o ((ot b fun z=>bt (by rw[z])).trans q) be fun z=>(by cases z),fun o q=>c.self o ((ot e (Ne.symm ne)).trans q),fun b o z be q=>?_,?_⟩
    ·cases z
     exact c.there _ _ Y7
    ·rw[←zs]
     exact c.size
theorem F9 {base:Heap} {env:Env} {outer:List Env} {L e:Addr} {tb:Option Addr} {Q:Unit→Shared→Prop} (fr:A.frames=some (env::outer)) (fl:s.heap.FunFrames base (env::outer)) (hL:env.frame=some L) (x:s.heap.ou e tb)
  (k:∀h' T,h'.ou e (some T)→tb=some T∨s.heap.objs.size≤T→Heap.Moved ((env::outer).filterMap (·.frame)) e tb s.heap h'→Q () { s with heap:=h' }):wpAny M A (leaving env (.ref e)) Q E s:=by
 unfold leaving
 refine wpAny_bind (vQ fr fl hL x fun h1 T a b c=>ji (s:={ s with heap:=h1 }) a fun h2 a' c'=>k h2 T a' b (c.trans (c'.mono fun _ z=>absurd z (by simp)) fun T' z=>?_))
 cases z
 exact b
theorem Ku {env:Env} {e T:Addr} {Q:Unit→Shared→Prop} (x:s.heap.ou e (some T)) (k:∀h',h'.ou e (some T)→Heap.Moved [] e (some T) s.heap h'→Q () { s with heap:=h' }):
  wpAny M A (do
   if (←field (.ref e) 1)== .none then unsupported "frame.own-activation:exception-without-traceback"
   setFlight (.ref e) env.frame) Q E s:=by
 obtain⟨oe,vs,he,hd,h1⟩:=id x.ex
 refine wpAny_bind (wpAny_field he hd h1 ?_)
 rw[if_neg (by simp)]
 exact ji x k
end
end PySem
namespace PySem.W
open PySem PySem.Calls PyProof.Rows PySem.Builtin PySem.Builtin.ObjectAttr
abbrev zQ:List Value:=[.type "ValueError", .type "Exception", .type "BaseException", .type "object"]
structure fg (K:Frag) (C HE f:Addr):Prop where
 obj:∃(nm q:Str) (N:Addr) (bs:List Value) (sn:List Str) (sub:List Value) (ab:Bool) (col:Option Bool) (dd:Option Addr) (k0 k1 k2 k3 k5:Option Value),
  K.lookup C=some (excClassObj nm q C N bs (.ref HE::zQ) true sn sub ab col dd k0 k1 k2 k3 k5 "ValueError.__new__")
 init:findIn K (.ref C) "__init__" =some (some (.ref f))
 fn:typeIn K (.ref f)=some (.type "function")
 sa:findIn K (.ref C) "__setattr__" =some (some (.builtin "object.__setattr__"))
 ga:findIn K (.ref C) "__getattribute__" =some (some (.builtin "BaseException.__getattribute__"))
 gh:findIn K (.ref C) "__getattr__" =some none
theorem jB {C HE:Addr} {T:String} {b:Bool} (h:zQ.contains (.type T)=b):(Value.ref C:: .ref HE::zQ).contains (.type T)=b:=by
 rw[List.contains_cons,List.contains_cons,h]
 rfl
section
variable {prog:Program} {w:World} {A:Around} {E:Value→Shared→Prop} {R:Result→Shared→Prop} {h:Heap} {g:Array GenState} {d:Drawn} {t:Nat} {os:OsState}
variable {nm q:Str} {C N HE:Addr} {bs:List Value} {sn:List Str} {sub:List Value} {ab:Bool} {col:Option Bool} {dd:Option Addr} {k0 k1 k2 k3 k5:Option Value}
abbrev qY (vs:List Value):Obj:={ cls:= .type "tuple",data:= .seq vs.toArray }
abbrev qZ (C t:Addr):Obj:={ cls:= .ref C,data:= .fields #[.ref t, .none, .none, .none, .bool false, .none] }
theorem vR {M:Model} {rest:List Value} {Q:Unit→Shared→Prop} (kC:h.get? C=some (excClassObj nm q C N bs (.ref HE::zQ) true sn sub ab col dd k0 k1 k2 k3 k5 "ValueError.__new__"))
  (z:Q () ⟨h,g,d,t,os⟩):wpAny M A (checkBuiltinCall "ValueError.__new__" ⟨.ref C::rest,[]⟩) Q E ⟨h,g,d,t,os⟩:=by
 have F:=PySem.F.excBase_ValueError
 have c1:(Value.ref C:: .ref HE::zQ).contains (.type "ValueError")=true:=jB (by decide+kernel)
 have f0:=F.noStar
 simp only [checkBuiltinCall,F.newKind,F.newSplit,F.newRow]
 repeat (first|refine wpAny_loadPart_at kC ?_| (refine wpAny_isSubtype_exc kC ?_;rw[c1]) |refine wpAny_staticBase_exc kC ?_|refine wpAny_madeBy_exc kC ?_|simp only [bne_self_eq_false,Bool.false_eq_true,if_false] |wp_step)
 exact z
theorem Oy {rest:List Value} (kC:h.get? C=some (excClassObj nm q C N bs (.ref HE::zQ) true sn sub ab col dd k0 k1 k2 k3 k5 "ValueError.__new__"))
  (z:R (.ok (.ret (.ref (h.objs.size+1)))) ⟨(h.push (qY rest)).push (qZ C h.objs.size),g,d,t,os⟩) (hz:rest.length≤sizeLine):
  codeAny (model prog w) A (.builtin "ValueError.__new__" ⟨.ref C::rest,[]⟩) R ⟨h,g,d,t,os⟩:=by
 have F:=PySem.F.excBase_ValueError
 have f0:=F.ends
 have c1:(Value.ref C:: .ref HE::zQ).contains (.type "ValueError")=true:=jB (by decide+kernel)
 have c2:(Value.ref C:: .ref HE::zQ).contains (.type "AttributeError")=false:=jB (by decide+kernel)
 have c3:(Value.ref C:: .ref HE::zQ).contains (.type "NameError")=false:=jB (by decide+kernel)
 refine codeAny_builtinAt F.entry ?_
 unfold Builtin.«BaseException.__new__»
 refine wpAt_bind ?_
 show wpAt _ _ _ (stack >>= _) _ _ _
 refine wpAt_bind (wpAt_stack fun p below=>wpAt_of_wpAny ?_)
 wp_walk
 refine wpAt_of_wpAny ?_
 rw[F.owner]
 repeat (first|with_reducible refine wpAny_madeHere_exc F.canon kC ?_|with_reducible refine wpAny_loadPart_at kC ?_| (with_reducible refine wpAny_isSubtype_exc kC ?_;first|rw[c1] |rw[c2] |rw[c3]) |wp_step)
 show R _ _
 rw[Heap.size_push]
 exact z
end
section
variable {prog:Program} {w:World} {A:Around} {E:Value→Shared→Prop} {R:Result→Shared→Prop} {s:Shared} {K:Frag} {C HE f:Addr}
theorem Kv {vs:List Value} (X:K.In s.heap) (Z:fg K C HE f) (hz:vs.length≤sizeLine)
  (k:codeAny (model prog w) (A.under (.builtin "type.__call__" ⟨.ref C::vs,[]⟩)) (.call (.ref f) ⟨.ref (s.heap.objs.size+1)::vs,[]⟩) (InitBack (s.heap.objs.size+1) R) { s with heap:=(s.heap.push (qY vs)).push (qZ C s.heap.objs.size) }):
  codeAny (model prog w) A (.call (.ref C) ⟨vs,[]⟩) R s:=by
 obtain⟨hp,g,d,t,os⟩:=s
 obtain⟨nm,q,N,bs,sn,sub,ab,col,dd,k0,k1,k2,k3,k5,hK⟩:=Z.obj
 have kC:=X _ _ hK
 have F:=PySem.F.excBase_ValueError
 have f1:=tc_lookup
 have f2:=tc_bind (.ref C)
 have hT:(⟨hp,g,d,t,os⟩:Shared).TypeIs (.ref C) "type" :=⟨_,kC,rfl⟩
 refine codeAny_of_tree ?_
 show wpAny _ _ (callAny (.ref C) _) _ _ _
 repeat (any_goals (first|assumption|with_reducible refine wpAny_loadPart_at kC ?_|wp_step))
 refine⟨rfl,?_⟩
 refine codeAny_call_builtin_at (Code.quiet_builtin _ (by decide+kernel)) entry_typeCall (wpAny_check_type_call_sub kC ?_)
 repeat (first|with_reducible refine wpAny_loadPart_at kC ?_|with_reducible refine wpAny_madeBy_exc kC ?_|wp_step)
 refine codeAny_call_builtin_code (Code.quiet_builtin _ F.quiet) (vR kC ?_)
 refine Oy kC ?_ hz
 show wpAny _ _ _ _ _ _
 have keeps:∀b o,hp.get? b=some o→((hp.push (qY vs)).push (qZ C hp.objs.size)).get? b=some o:=fun b o e=>Heap.get?_push_of_some _ (Heap.get?_push_of_some _ e)
 have kC1:=keeps _ _ kC
 have X1:K.In ((hp.push (qY vs)).push (qZ C hp.objs.size)):=fun b o e=>keeps b o (X b o e)
 have eg:((hp.push (qY vs)).push (qZ C hp.objs.size)).get? (hp.objs.size+1)=some (qZ C hp.objs.size):=by heap_get
 have c0:(Value.ref C:: .ref HE::zQ).contains (.ref C)=true:=by simp
 unfold isInstance
 repeat (first|with_reducible refine wpAny_loadPart_at eg ?_|wp_step)
 show wpAny _ _ (isSubtype (.ref C) (.ref C)) _ _ _
 refine wpAny_isSubtype_exc kC1 ?_
 rw[c0]
 repeat (first|with_reducible refine wpAny_loadPart_at eg ?_|wp_step)
 show wpAny _ _ (typeLookup (.ref C) _) _ _ _
 refine looks_findIn X1 Z.init _ _ _ _ (fun _ _ e=>e) ?_
 refine wpAny_holding (wpAny_bind (bind_fn X1 _ Z.fn _ _ _ _ (fun _ _ e=>e) ?_))
 refine wpAny_bind (wpAny_call (codeAny_mono k fun r s' y=>?_))
 cases r with
 |error z=>exact y
 |ok fl=>
  cases fl with
  |ret u=>
   obtain⟨eu,y⟩:=y
   subst eu
   exact wpAny_pure (wpAny_pure y)
  |next=>exact y.elim
  |brk=>exact y.elim
  |cont=>exact y.elim
end
section
variable {prog:Program} {w:World} {A:Around} {E:Value→Shared→Prop} {R:Result→Shared→Prop} {s:Shared} {K:Frag} {C HE f e:Addr} {ox:Obj} {od:Option Obj} {vs:Array Value} {name:Str} {v:Value} {tk:Tok}
theorem fg.cd (Z:fg K C HE f):∃cd,clsIn K C=some cd∧cd.mro= .ref C:: .ref HE::zQ∧cd.hasDict=true:=by
 obtain⟨nm,q,N,bs,sn,sub,ab,col,dd,k0,k1,k2,k3,k5,hK⟩:=Z.obj
 exact⟨_,by unfold clsIn;rw[hK],rfl,rfl⟩
theorem fg.mro (Z:fg K C HE f) {T:String} {b:Bool} (h:zQ.contains (.type T)=b):mroIn K C (.type T)=some b:=by
 obtain⟨cd,a,m,_⟩:=Z.cd
 unfold mroIn
 rw[a,Option.bind_some,m,jB h]
 rfl
theorem F' (X:K.In s.heap) (Z:fg K C HE f) (I:InstAt s.heap e ox C od) (ht:takerIn K C name=some none)
  (k:∀b,wpAny (model prog w) A.in1 (storeInOwnDict (.ref e) (.ref C) (.str name tk) name v b)
   (fun fin s'=>match fin with| .done f=>R (.ok f) s'| .again c'=>c'.quiet=true∧codeAny (model prog w) A c' R s') (fun e s'=>R (.error e) s') s):
  codeAny (model prog w) A (.call (.builtin "object.__setattr__") ⟨[.ref e, .str name tk,v],[]⟩) R s:=by
 have SO:=PySem.F.store_object
 obtain⟨cd,hc,hm,_⟩:=Z.cd
 have sub:Looks (model prog w) s.heap (isInstance (.ref e) (.type "object")) true:=I.type.andThen (looks_mroIn X (Z.mro (by decide+kernel)))
 refine codeAny_call_builtin SO.slot.plain SO.entry (@check_slot (model prog w) _ _ s "object.__setattr__" "object" "__setattr__" (.ref e) [.str name tk,v] [] _ SO.kind SO.split sub (SO.args (.ref e) (.str name tk) v) ?_)
 obtain⟨attr,ha,hr⟩:=Option.bind_eq_some_iff.mp ht
 have lm:Looks (model prog w) s.heap (mroOf (.ref C)) cd.mro:=(looks_clsIn X hc).andThen .now
 have l3:Looks (model prog w) s.heap (storeTaker? attr) none:=by
  cases attr with
  |none=>exact .now
  |some a=>
   obtain⟨b,hb,eb⟩:=Option.map_eq_some_iff.mp hr
   refine(looks_takesIn X hb).andThen ?_
   cases b with
   |true=>cases eb
   |false=>exact .now
 rw[osa_eq,refuse_eq]
 refine wpAny_bind (wpAny_bind (I.type.here (wpAny_bind (lm.here ?_))))
 rw[hm,refuseLoop_ref,refuseLoop_ref,PySem.F.store_ValueError.passes]
 exact wpAny_pure (wpAny_bind (I.type.here (wpAny_bind ((looks_findIn X ha).here (wpAny_bind (l3.here (k _)))))))
theorem Kw {Q:Unit→Shared→Prop} (X:K.In s.heap) (Z:fg K C HE f) (ht:takerIn K C name=some none) (hx:s.heap.get? e=some ox) (hc:ox.cls= .ref C) (hd:ox.data= .fields vs) (hn:ox.dict=none)
  (k:∀h' Ol,h'.get? e=some { ox with dict:=some s.heap.objs.size }→h'.Ns1 s.heap.objs.size (fun y=>if y=name then some v else none)→(∀b o,b≠e→s.heap.get? b=some o→h'.get? b=some o)→Q () { s with heap:=h',toks:=Ol }):
  wpAny (model prog w) A (setAttr (.ref e) name v) Q E s:=by
 have I:InstAt s.heap e ox C none:=⟨hx,hc,by unfold notCls;rw[hd],by rw[hn];trivial⟩
 obtain⟨cd,pG,_,hh⟩:=Z.cd
 refine set_plain X I Z.sa (F' (s:={ s with toks:=s.toks+1 }) X Z I ht fun b=>?_)
 obtain⟨oc,Y8,oda,sP⟩:=ox
 dsimp only at hc hd hn
 subst hc hd hn
 refine wpAny_bind (wpAny_pure (wpAny_bind (wpAny_bind (wpAny_loadPart hx (wpAny_bind (Looks.here (s:={ s with toks:=s.toks+1 }) (looks_clsIn X pG) ?_))))))
 rw[hh]
 have xs:e≠s.heap.objs.size:=Nat.ne_of_lt (Heap.lt_size hx)
 rw[if_neg (by decide)]
 have Ri:=Heap.get?_push_of_some (h:=s.heap) { cls:= .type "dict",data:= .dict #[] } hx
 refine wpAny_bind (wpAny_alloc' (wpAny_bind (wpAny_update' Ri (wpAny_pure ?_))))
 generalize hG:(s.heap.push { cls:= .type "dict",data:= .dict #[] }).update e (fun o=>{ cls:=o.cls,dict:=some s.heap.objs.size,data:=o.data,slots:=o.slots })=G
 have gd:G.get? s.heap.objs.size=some { cls:= .type "dict",data:= .dict #[] }:=by
  rw[←hG]
  exact(Heap.get?_update_ne _ _ _ _ (Ne.symm xs)).trans (Heap.get?_push_at rfl rfl)
 have gx:G.get? e=some { cls:= .ref C,dict:=some s.heap.objs.size,data:= .fields vs,slots:=sP }:=by
  rw[←hG]
  exact Heap.get?_update_self _ Ri rfl
 have go:∀b o,b≠e→s.heap.get? b=some o→G.get? b=some o:=fun b o be q=>by
  rw[←hG]
  exact(Heap.get?_update_ne _ _ _ _ be).trans (Heap.get?_push_of_some _ q)
 have gn:G.Ns s.heap.objs.size (fun _=>none):=⟨_,#[],_,gd,rfl,fun y hy=>absurd hy (by simp),fun _=>rfl⟩
 show wpAny _ _ (storeInDict s.heap.objs.size (.str name s.toks) name v) _ _ { s with heap:=G,toks:=s.toks+1 }
 unfold storeInDict newKeyGuard
 refine wpAny_bind (wpAny_pure (wpAny_bind (wpAny_nsSet1 (s:={ s with heap:=G,toks:=s.toks+1 }) (Heap.Ns1.of_empty gn) fun h' n2 s2=>?_)))
 obtain⟨o2,e2,p2,q2,d2,c2⟩:=n2.count (PySem.Within.cons name v PySem.Within.nil)
 refine wpAny_bind (wpAny_lookBehind q2 (by rw[d2];exact pastItsLine_dict (Nat.le_trans c2 (by rw[List.length_cons,List.length_nil,sizeLine_eq];omega))) ?_)
 exact wpAny_pure (k _ _ ((s2.2 e xs).trans gx) n2 fun b o be q=>(s2.2 b (Nat.ne_of_lt (Heap.lt_size q))).trans (go b o be q))
theorem Kx {Q:Unit→Shared→Prop} {dx:Addr} {mA:Str→Option Value} {ns:List Str} (X:K.In s.heap) (Z:fg K C HE f) (ht:takerIn K C name=some none) (hx:s.heap.get? e=some ox) (hc:ox.cls= .ref C) (hd:ox.data= .fields vs) (hn:ox.dict=some dx)
  (N1:s.heap.Ns1 dx mA) (hw:PySem.Within mA ns) (hsz:ns.length≤1000)
  (k:∀h',h'.Ns1 dx (fun y=>if y=name then some v else mA y)→Heap.SameBut dx s.heap h'→Q () { s with heap:=h',toks:=s.toks+2 }):
  wpAny (model prog w) A (setAttr (.ref e) name v) Q E s:=by
 obtain⟨oD,ed,pd,hod,dD,_⟩:=id N1
 have I:InstAt s.heap e ox C (some oD):=⟨hx,hc,by unfold notCls;rw[hd],by rw[hn];exact hod⟩
 obtain⟨cd,pG,_,hh⟩:=Z.cd
 refine set_plain X I Z.sa (F' (s:={ s with toks:=s.toks+1 }) X Z I ht fun b=>?_)
 obtain⟨oc,Y8,oda,sP⟩:=ox
 dsimp only at hc hd hn
 subst hc hd hn
 refine wpAny_bind (wpAny_pure (wpAny_bind (wpAny_bind (wpAny_loadPart hx (wpAny_bind (Looks.here (s:={ s with toks:=s.toks+1 }) (looks_clsIn X pG) ?_))))))
 rw[hh]
 refine wpAny_pure (a:=some dx) (wpAny_bind (wpAny_pure (wpAny_bind ?_)))
 refine wpAny_nsSet1 (s:={ s with toks:=s.toks+1 }) N1 fun h' n2 s2=>?_
 obtain⟨o2,e2,p2,q2,d2,c2⟩:=n2.count (PySem.Within.cons name v hw)
 refine wpAny_bind (wpAny_lookBehind q2 (by rw[d2];exact pastItsLine_dict (Nat.le_trans c2 (by rw[List.length_cons,sizeLine_eq];omega))) ?_)
 exact wpAny_pure (k _ n2 s2)
theorem Oz {Q:Value→Shared→Prop} {expr:Bool} (X:K.In s.heap) (Z:fg K C HE f) (I:InstAt s.heap e ox C od) (hf:findObj K C od name=some (.value v)) (hh:handedIn v=true) (k:Q v { s with toks:=s.toks+1 }):
  wpAny (model prog w) A (getAttr (.ref e) name expr) Q E s:=by
 have T0:=I.type (M:=model prog w)
 have SG:=PySem.F.attr_ValueError.ga
 refine wpAny_bind (wpAny_mkText (wpAny_holding (wpAny_bind (T0 _ _ _ _ (fun _ _ y=>y) (wpAny_bind (looks_findIn X Z.ga _ _ _ _ (fun _ _ y=>y) ?_))))))
 dsimp only
 rw[show (onTheHeap (Value.ref C)&&Value.builtin "BaseException.__getattribute__" ==Value.builtin "object.__getattribute__")=false from by rw[show (Value.builtin "BaseException.__getattribute__" ==Value.builtin "object.__getattribute__")=false from by decide+kernel,Bool.and_false],if_neg (by decide)]
 refine wpAny_bind (looks_hook X (show (if onTheHeap (Value.ref C) then findIn K (.ref C) "__getattr__" else some none)=some none from Z.gh) _ _ _ _ (fun _ _ y=>y) (wpAny_bind (wpAny_attempt (wpAny_holding ?_))))
 unfold callGetattribute
 rw[show (expr&&onTheHeap (Value.builtin "BaseException.__getattribute__"))=false from Bool.and_false _,if_neg (by decide)]
 unfold boundAndCalled
 rw[SG.bind]
 refine wpAny_bind (wpAny_pure ?_)
 show wpAny _ _ (call (.builtin "BaseException.__getattribute__") [.ref e, .str name s.toks]) _ _ _
 refine wpAny_call (codeAny_call_builtin SG.plain PySem.F.entry_bexc_ga ?_)
 refine @check_slot (model prog w) _ _ { s with toks:=s.toks+1 } "BaseException.__getattribute__" "BaseException" "__getattribute__" (.ref e) [.str name s.toks] [] _ (by decide+kernel) (by decide+kernel) (T0.andThen (looks_mroIn X (Z.mro (by decide+kernel)))) (PySem.F.args_bexc_ga _ _) ?_
 have l1:=looks_find (M:=model prog w) X I hf
 unfold Builtin.«object.__getattribute__»
 refine wpAny_bind (wpAny_of_eq (a:=(Value.ref e,[Value.str name s.toks])) rfl ?_)
 refine wpAny_bind (wpAny_pure (a:=name) (wpAny_bind (T0 _ _ _ _ (fun _ _ y=>y) (wpAny_bind (l1 _ _ _ _ (fun _ _ y=>y) (wpAny_pure ?_))))))
 show wpAny _ _ (handedOut v) _ _ _
 rw[handedOut_of hh]
 exact wpAny_pure k
end
section
variable {M:Model} {A:Around} {E:Value→Shared→Prop} {s:Shared} {K:Frag} {env:Env}
theorem Ga {x:Sem Value} {Q:Flow→Shared→Prop} (ha:A.handled=none)
  (k:wpAny M A x (fun v s1=>∃e oe vs C HE f,v= .ref e∧K.In s1.heap∧fg K C HE f∧s1.heap.get? e=some oe∧oe.cls= .ref C∧oe.data= .fields vs∧vs[1]? =some .none∧E (.ref e) s1) E s):wpAny M A (raiseStmt env (some x) none) Q E s:=by
 unfold raiseStmt
 refine wpAny_bind (wpAny_mono k (fun v s1 y=>?_) fun _ _ y=>y)
 obtain⟨e,oe,vs,C,HE,f,rfl,X,Z,he,hc,hd,h1,hE⟩:=y
 have cB:(Value.ref C:: .ref HE::zQ).contains (.type "BaseException")=true:=jB (by decide+kernel)
 obtain⟨nm,q,N,bs,sn,sub,ab,col,dd,k0,k1,k2,k3,k5,hK⟩:=Z.obj
 have kC:=X _ _ hK
 obtain⟨hp,g,d,tk,os⟩:=s1
 obtain⟨oc,Y8,oda,sP⟩:=oe
 dsimp only at hc hd
 subst hc hd
 repeat (first|with_reducible refine wpAny_loadPart_at he ?_|with_reducible refine wpAny_loadPart_at kC ?_| (with_reducible refine wpAny_isSubtype_exc kC ?_;rw[cB]) |wp_step)
 rw[h1]
 refine wpAny_pure ?_
 rw[if_neg (by decide)]
 exact wpAny_pure (wpAny_raiseNew_none ha hE)
end
section
variable {prog:Program} {w:World} {A:Around} {E:Value→Shared→Prop} {s:Shared} {K:Frag} {C HE f e:Addr} {ox:Obj} {vs:Array Value}
theorem Gb {us:List Value} {Q:Value→Shared→Prop} (X:K.In s.heap) (Z:fg K C HE f) (hx:s.heap.get? e=some ox) (hc:ox.cls= .ref C) (hd:ox.data= .fields vs) (h0:0<vs.size) (hz:us.length≤sizeLine)
  (k:∀h',h'.get? e=some { ox with data:= .fields (vs.setIfInBounds 0 (.ref s.heap.objs.size)) }→(∀b o,b≠e→s.heap.get? b=some o→h'.get? b=some o)→Q .none { s with heap:=h' }):
  wpAny (model prog w) A (call (.builtin "ValueError.__init__") (.ref e::us)) Q E s:=by
 have F:=PySem.F.excBase_ValueError
 obtain⟨nm,q,N,bs,sn,sub,ab,col,dd,k0,k1,k2,k3,k5,hK⟩:=Z.obj
 have kC:=X _ _ hK
 have c1:(Value.ref C:: .ref HE::zQ).contains (.type "ValueError")=true:=jB (by decide+kernel)
 obtain⟨hp,g,d,t,os⟩:=s
 obtain⟨oc,Y8,oda,sP⟩:=ox
 dsimp only at hc hd
 subst hc hd
 refine wpAny_call (codeAny_call_builtin F.init.plain F.initEntry ?_)
 have f0:=F.noStar
 simp only [checkBuiltinCall,F.initKind,F.initSplit,F.initRow]
 repeat (first|with_reducible refine wpAny_loadPart_at hx ?_|with_reducible refine wpAny_loadPart_at kC ?_| (with_reducible refine wpAny_isSubtype_exc kC ?_;rw[c1]) |wp_step)
 refine wpAny_onRaise ?_
 rw[show∀(a b:String) (n:Nat),Bind.check ⟨.positional,"*","ValueError", .self,[⟨"args", .varPos,false⟩]⟩ a b n (List.map (fun x=>x.fst) ({ pos:=Value.ref e::us }:Args).kw)=pure () from fun a b n=>check_star_args _ _ _ _ _ _]
 refine wpAny_pure ?_
 wp_walk
 rw[show vs[0]? =some vs[0] from Array.getElem?_eq_getElem h0]
 refine wpAny_pure (wpAny_bind (wpAny_setField (Heap.get?_push_of_some _ hx) rfl h0 ?_))
 generalize hG:((hp.push (qY us)).update e (Obj.mapFields (·.setIfInBounds 0 (Value.ref hp.objs.size))))=G
 have gx:G.get? e=some { cls:= .ref C,dict:=Y8,data:= .fields (vs.setIfInBounds 0 (.ref hp.objs.size)),slots:=sP }:=by
  rw[←hG]
  exact Heap.get?_update_self (Obj.mapFields (·.setIfInBounds 0 (Value.ref hp.objs.size))) (Heap.get?_push_of_some (qY us) hx) rfl
 have go:∀b o,b≠e→hp.get? b=some o→G.get? b=some o:=fun b o be q=>by
  rw[←hG]
  exact(Heap.get?_update_other _ _ (Ne.symm be)).trans (Heap.get?_push_of_some _ q)
 have fin:=k G gx go
 generalize vs[0]=v0
 cases v0 with
 |ref a=>
  dsimp only
  repeat wp_step
  exact fin
 |_=>exact wpAny_pure (wpAny_pure fin)
end
end PySem.W
namespace L2
open PySem PySem.Spec PyProof.Rows
def zR (dx:Addr) (fs:List (Str×V)):HO:= .ext fun h=>∃mA,h.Ns1 dx mA∧(∀f,iw (fs.lookup f) (mA f))∧PySem.Within mA (fs.map (·.1))
def tW (e C:Addr) (dx:Option Addr):HO:= .ext fun h=>∃o vs,h.get? e=some o∧o.cls= .ref C∧o.dict=dx∧o.data= .fields vs∧vs[1]? =some .none
def Ar (e C:Addr) (dx:Option Addr):HO:= .ext fun h=>∃o vs,h.get? e=some o∧o.cls= .ref C∧o.dict=dx∧o.data= .fields vs
section
variable {P:Program} {w:World} {H:Hp} {h:Heap} {e C dx:Addr} {od:Option Addr} {o:Obj} {vs:Array Value}
theorem MI (he:h.get? e=some o) (hc:o.cls= .ref C) (hd:o.dict=od) (hf:o.data= .fields vs):cq P w H h e (Ar e C od):=
 ⟨⟨o,vs,he,hc,hd,hf⟩,⟨o,he⟩,fun _ _ ⟨o,vs,a,b⟩ k=>⟨o,vs,k _ a,b⟩⟩
theorem Gd (he:h.get? e=some o) (hc:o.cls= .ref C) (hd:o.dict=od) (hf:o.data= .fields vs) (h1:vs[1]? =some .none):cq P w H h e (tW e C od):=
 ⟨⟨o,vs,he,hc,hd,hf,h1⟩,⟨o,he⟩,fun _ _ ⟨o,vs,a,b⟩ k=>⟨o,vs,k _ a,b⟩⟩
theorem MJ {fs:List (Str×V)} {mA:Str→Option Value} (n:h.Ns1 dx mA) (r:∀f,iw (fs.lookup f) (mA f)) (wi:PySem.Within mA (fs.map (·.1))):cq P w H h dx (zR dx fs):=by
 obtain⟨o,es,ep,ho,z⟩:=id n
 exact⟨⟨mA,n,r,wi⟩,⟨o,ho⟩,fun _ _ ⟨m,⟨o,es,ep,ho,z⟩,r⟩ k=>⟨m,⟨o,es,ep,k _ ho,z⟩,r⟩⟩
theorem q5 (ok:j7 P w H h) (q:H e=some (Ar e C od)):∃o vs,h.get? e=some o∧o.cls= .ref C∧o.dict=od∧o.data= .fields vs:=(ok e _ q).1
theorem vS (ok:j7 P w H h) (q:H e=some (tW e C od)):∃o vs,h.get? e=some o∧o.cls= .ref C∧o.dict=od∧o.data= .fields vs∧vs[1]? =some .none:=(ok e _ q).1
theorem As {fs:List (Str×V)} (ok:j7 P w H h) (q:H dx=some (zR dx fs)):∃mA,h.Ns1 dx mA∧(∀f,iw (fs.lookup f) (mA f))∧PySem.Within mA (fs.map (·.1)):=(ok dx _ q).1
end
structure kn (X:Cx) (T:Addr):Prop where
 above:X.s₀.heap.objs.size≤T
 loc:T≠X.env.locals
 cell:∀x c,X.env.cells.lookup x=some c→c≠T
 pn:∀p∈X.pn,p.1≠T
section
variable {X:Cx} {pins:List (Addr×Obj)} {σ:St} {H:Hp} {s:Shared} {e C:Addr} {od tb:Option Addr} {h':Heap} {ER:St→XK} {v:Value}
theorem Inv.MK (I:Inv X pins σ H s) {T:Addr} (h:s.heap.objs.size≤T):kn X T:=by
 refine⟨Nat.le_trans I.sz h,fun z=>?_,fun x c q z=>?_,fun p hp z=>?_⟩
 ·subst z
  exact absurd I.lt (Nat.not_lt.mpr h)
 ·obtain⟨_,o,ho,_⟩:=I.cell x c q
  subst z
  exact absurd (Heap.lt_size ho) (Nat.not_lt.mpr h)
 ·have q:=(I.pin p (List.mem_append_left _ hp)).1
  rw[z] at q
  exact absurd (Heap.lt_size q) (Nat.not_lt.mpr h)
def mJ (X:Cx) (ER:St→XK) (v:Value) (s:Shared):Prop:=
 ∃e C dx σ H tb,v= .ref e∧Inv X [] σ H s∧H e=some (Ar e C dx)∧s.heap.ou e tb∧(∀T,tb=some T→H T=none∧kn X T)∧ER σ (.ref C) dx H
def Lets (X:Cx) (ER:St→XK):Prop:=∀v s,mJ X ER v s→X.xe v s
theorem kn.d9 {E:Value→Shared→Prop} {T:Addr} (n:kn (X.j' E) T):kn X T:=⟨n.above,n.loc,n.cell,n.pn⟩
theorem mJ.d9 {E:Value→Shared→Prop} (z:mJ (X.j' E) ER v s):mJ X ER v s:=by
 obtain⟨e,C,dx,σ,H,tb,ev,I,he,fl,ht,hE⟩:=z
 exact⟨e,C,dx,σ,H,tb,ev,I.d9,he,fl,fun T q=>⟨(ht T q).1,(ht T q).2.d9⟩,hE⟩
theorem yo:Lets (X.j' (mJ X ER)) ER:=fun _ _ z=>z.d9
theorem Inv.ML (I:Inv X pins σ H s):Inv X [] σ H s:=I.vt fun p hp=>absurd hp (by simp)
theorem Inv.moved (I:Inv X [] σ H s) (he:H e=some (Ar e C od)) (ht:∀T,tb=some T→H T=none∧kn X T) (m:Heap.Moved (xN X.stack) e tb s.heap h'):Inv X [] σ H { s with heap:=h' }:=by
 have ne:∀b,H b=none→b≠e:=fun b n z=>by
  subst z
  rw[he] at n
  cases n
 refine I.Fy (s':={ s with heap:=h' }) (H':=H) (ch:=tb.toList) rfl ⟨fun b o q n hb hx=>m.keep b o q (ne b n) (fun z=>hx (by rw[z];simp)) hb,fun b o q n hb hx=>m.slot b o q (ne b n) fun z=>hx (by rw[z];simp),fun _ _ _ n _=>n,fun b o q _=>m.there b o q,
  fun _ _ q=>q,fun _ _ _ q=>q,fun _ ps q=>⟨#[],by simpa using q⟩⟩ (fun a o q=>?_) I.bare fun b hb=>?_
 ·by_cases ae:a=e
  ·subst ae
   rw[he] at q
   cases q
   obtain⟨o,vs,h1,h2,h3,h4⟩:=q5 I.aU he
   obtain⟨vs',z⟩:=m.self o h1
   exact MI z h2 h3 rfl
  ·refine(I.aU a o q).qx (fun b u hb z=>?_) (fun _ q=>q) fun _ _ q=>q
   have DG:∃o',H b=some o':=by
    rcases hb with hb|hb
    ·exact⟨o,by rw[hb];exact q⟩
    ·exact⟨_,hb⟩
   obtain⟨o',DG⟩:=DG
   refine m.keep b u z (fun z=>?_) (fun z=>?_) fun z=>?_
   ·rcases hb with hb|hb
    ·exact ae (hb.symm.trans z)
    ·rw[z,he] at hb
     cases hb
   ·rw[(ht b z).1] at DG
    cases DG
   ·rw[I.vq b z] at DG
    cases DG
 ·have z:tb=some b:=by
   cases tb with
   |none=>simp at hb
   |some T=>simp at hb;rw[hb]
  obtain⟨_,n⟩:=ht b z
  exact⟨.inr n.above,Ne.symm (Ne.symm n.loc),n.cell,by simpa using n.pn⟩
def Ky (X:Cx):Prop:=X.stack=X.env::X.outer∧X.env.frame=some X.env.locals
theorem ow (hs:Ky X) (I:Inv X pins σ H s):X.A.frames=some (X.env::X.outer)∧s.heap.FunFrames X.base (X.env::X.outer):=by
 refine⟨by rw[I.ok.frames,hs.1],?_⟩
 rw[←hs.1]
 exact I.stack
theorem Au (I:Inv X [] σ H s) {tb:Option Addr} {T:Addr} (ht:∀T,tb=some T→H T=none∧kn X T) (b:tb=some T∨s.heap.objs.size≤T):∀T',some T=some T'→H T'=none∧kn X T':=fun T' z=>by
 cases z
 rcases b with b|b
 ·exact ht T b
 ·exact⟨I.aU.fresh b,I.MK b⟩
theorem DK (hs:Ky X):PassesOwn (model X.prog X.w) X.A X.env (mJ X ER):=by
 intro v s' z
 obtain⟨e,C,dx,σ,H,tb,ev,I,he,fl,ht,hE⟩:=z
 subst ev
 obtain⟨fr,ff⟩:=ow hs I
 refine vQ fr ff hs.2 fl fun h1 T a b m=>?_
 have m1:Heap.Moved (xN X.stack) e tb s'.heap h1:=by unfold xN;rw[hs.1];exact m
 have I1:=I.moved he ht m1
 have t1:=Au I ht b
 refine Ku (s:={ s' with heap:=h1 }) a fun h2 a2 m2=>?_
 exact⟨e,C,dx,σ,H,some T,rfl,I1.moved he t1 (m2.mono fun _ z=>absurd z (by simp)),he,a2,t1,hE⟩
end
def zS (P:Program) (w:World):BE:=fun outer H s E v s'=>
 ∃e C dx H' tb,v= .ref e∧s'.os=s.os∧AllBare s'.gens∧Un (xN outer) [] H H' s.heap s'.heap∧j7 P w H' s'.heap∧H' e=some (Ar e C dx)∧s'.heap.ou e tb∧(∀T,tb=some T→H' T=none∧s.heap.objs.size≤T)∧E (.ref C) dx H'
section
variable {P:Program} {w:World} {K:PySem.W.Frag} {mg:Str→Option Value} {base:Heap} {N ps:List Str} {qual:Str} {scope:Scope} {f:Addr} {cd:Value} {A:Around} {outer:List Env} {s s':Shared} {H:Hp} {E:XK} {v:Value}
theorem yp (z:mJ (jz (zS P w) P w K mg base N qual scope f cd A outer s H E) (fun _=>E) v s'):(jz (zS P w) P w K mg base N qual scope f cd A outer s H E).xe v s':=by
 obtain⟨e,C,dx,σ,H',tb,ev,I,he,fl,ht,hE⟩:=z
 subst ev
 obtain⟨fr,ff⟩:=ow (X:=jz (zS P w) P w K mg base N qual scope f cd A outer s H E) ⟨rfl,rfl⟩ I
 refine F9 fr ff rfl fl fun h1 T a b m=>?_
 have I1:=I.moved he ht m
 have t1:=Au I ht b
 have hB:=I.base
 have ne:∀b,H' b=none→b≠e:=fun b n z=>by
  subst z
  rw[he] at n
  cases n
 have nt:∀b o,s.heap.get? b=some o→tb≠some b:=fun b o q z=>absurd (Heap.lt_size q) (Nat.not_lt.mpr (ht b z).2.above)
 refine⟨e,C,dx,H',some T,rfl,I.os,I.bare,⟨fun b o q n hb hx=>?_,fun b o q n hb hx=>?_,hB.free,fun b o q hx=>?_,hB.nW,hB.nX,hB.nY⟩,I1.aU,he,a,fun T' z=>⟨(t1 T' z).1,(t1 T' z).2.above⟩,hE⟩
 ·refine m.keep b o (hB.keep b o q n hb hx) (ne b (hB.free b o q n hx)) (nt b o q) fun z=>?_
  rcases List.mem_cons.mp (show b∈s.heap.objs.size::xN outer from z) with z|z
  ·exact absurd (Heap.lt_size q) (by rw[z];exact Nat.lt_irrefl _)
  ·exact hb z
 ·obtain⟨sl,z⟩:=hB.slot b o q n hb hx
  obtain⟨NR,z'⟩:=m.slot b _ z (ne b (hB.free b o q n hx)) (nt b o q)
  exact⟨NR,z'⟩
 ·obtain⟨o',z⟩:=hB.there b o q hx
  exact m.there b o' z
def JI (P:Program) (w:World) (K:PySem.W.Frag) (mg:Str→Option Value) (base:Heap) (N:List Str) (qual:Str) (scope:Scope) (f:Addr) (cd:Value) (A:Around) (outer:List Env) (s:Shared) (H:Hp) (E:XK):Cx:=
 (jz (zS P w) P w K mg base N qual scope f cd A outer s H E).j' (mJ (jz (zS P w) P w K mg base N qual scope f cd A outer s H E) fun _=>E)
theorem vT:Lets (JI P w K mg base N qual scope f cd A outer s H E) (fun _=>E):=fun _ _ z=>z.d9
theorem Ge:PassesOwn (model P w) (JI P w K mg base N qual scope f cd A outer s H E).A (JI P w K mg base N qual scope f cd A outer s H E).env (JI P w K mg base N qual scope f cd A outer s H E).xe:=DK (X:=jz (zS P w) P w K mg base N qual scope f cd A outer s H E) ⟨rfl,rfl⟩
theorem BN {st:List Stmt} {t:TS} (h:lU (JI P w K mg base N qual scope f cd A outer s H E) st t):lU (jz (zS P w) P w K mg base N qual scope f cd A outer s H E) st t:=fun pins s1 σ H1 D I hw=>
 wpAny_mono (h pins s1 σ H1 D (I.j' _) hw) (fun _ _ q=>q.d9) fun _ _ z=>yp z
theorem Fe.Gf {x:Str} {st:Stmt} {fd:FuncData} {k:Nat} {sp:Sp} (F:Fe K x qual st f fd) (S:ax N ps (aj st)) (len:∀vs H Q E,sp vs H Q E→vs.length=ps.length)
  (dv:∀(bj:Value) (A:Around) (outer:List Env) (s:Shared) (H:Hp) (vs:List V) (Q:VK) (E:XK),cV k (A.deeper (envOfC qual (aj st) s.heap.objs.size f bj))→sp vs H Q E→
   ∃t,lU (JI P w K mg base N qual (aj st) f bj A outer s H E) (aS st) t∧t { nx:=fun _ H'=>Q .cU H',rt:=Q } (start N vs) H):fu P w K mg base (zS P w) (k+1) f fd ps sp:=by
 obtain⟨oc,od,kV,doc,pm,an,bj,ct,sP,rfl,lk,pG⟩:=F.ex
 refine fn_of lk pG S len fun A outer s H vs Q E hr BF=>?_
 obtain⟨t,h,q⟩:=dv bj A outer s H vs Q E hr BF
 exact⟨t,BN h,q⟩
theorem yj.Gf {x:Str} {st:Stmt} {fd:FuncData} {dV:Value} {k:Nat} {sp:Sp} (F:yj K x qual st f fd dV) (S:ax N ps (aj st)) (len:∀vs H Q E,sp vs H Q E→vs.length=ps.length)
  (dv:∀(bj:Value) (A:Around) (outer:List Env) (s:Shared) (H:Hp) (vs:List V) (Q:VK) (E:XK),cV k (A.deeper (envOfC qual (aj st) s.heap.objs.size f bj))→sp vs H Q E→
   ∃t,lU (JI P w K mg base N qual (aj st) f bj A outer s H E) (aS st) t∧t { nx:=fun _ H'=>Q .cU H',rt:=Q } (start N vs) H):fu P w K mg base (zS P w) (k+1) f fd ps sp:=by
 obtain⟨oc,od,kV,doc,pm,an,bj,ct,sP,rfl,lk,pG⟩:=F.ex
 refine fn_of lk pG S len fun A outer s H vs Q E hr BF=>?_
 obtain⟨t,h,q⟩:=dv bj A outer s H vs Q E hr BF
 exact⟨t,BN h,q⟩
end
section
variable {X:Cx} {pins:List (Addr×Obj)} {σ:St} {H:Hp} {s s':Shared} {ER:St→XK} {v:Value}
theorem DL (L:Lets X ER) (I:Inv X pins σ H s) (h:zS X.prog X.w X.stack H s (ER σ) v s'):X.xe v s':=by
 obtain⟨e,C,dx,H',tb,ev,os,bare,un,aU,he,fl,ht,hE⟩:=h
 have I1:Inv X pins σ H' s':=I.Fy os un aU bare fun b z=>absurd z (by simp)
 exact L v s' ⟨e,C,dx,σ,H',tb,ev,I1.ML,he,fl,fun T z=>⟨(ht T z).1,I.MK (ht T z).2⟩,hE⟩
end
section
variable {X:Cx} {k:Nat} {f C:Addr} {fd:FuncData} {ps:List Str} {sp:Sp} {kO:List V} {ds:List Value} {ER:St→XK} {x m:Str} {p pos apos:Pos} {e o:Expr} {es:List Expr} {ta:TE} {t:TA}
def OA (sp:Sp) (kO:List V) (ER:St→XK) (t:TA):TE:=fun σ H Q=>t σ H fun vs H1=>sp (vs++kO) H1 Q (ER σ)
def OB (C:Addr) (m:Str) (sp:Sp) (kO:List V) (ER:St→XK) (ta:TE) (t:TA):TE:=fun σ H Q=>ta σ H fun x H1=>∃a dx fs,x= .ref a∧H1 a=some (.ins C dx fs)∧fs.lookup m=none∧
 t σ H1 fun vs H2=>sp (x::(vs++kO)) H2 Q (ER σ)
theorem BO {pins:List (Addr×Obj)} {σ:St} {H:Hp} {s:Shared} {Q:VK} {us:List Value} {vs:List V} (F:fu X.prog X.w X.K X.mg X.base (zS X.prog X.w) k f fd ps sp) (hr:cV k X.A) (hb:Binds X.K fd ps ds) (hd:Vals kO ds) (L:Lets X ER)
  (I:Inv X pins σ H s) (r:Vals vs us) (h:sp (vs++kO) H Q (ER σ)):wpAny (model X.prog X.w) X.A (call (.ref f) us) (EP X pins σ Q) X.xe s:=by
 have r2:Vals (vs++kO) (us++ds):=r.append hd
 have hl:(us++ds).length=ps.length:=by rw[←r2.length];exact F.len _ _ _ _ h
 refine wpAny_call (codeAny_mono (F.run X.A X.stack s H ⟨us,[]⟩ (us++ds) (vs++kO) Q (ER σ) hr I.J3 (hb s us I.ju hl) r2 h) fun r s' hq=>?_)
 cases r with
 |error e=>exact DL L I hq
 |ok fl=>
  cases fl with
  |ret u=>exact I.after hq
  |next=>exact False.elim hq
  |brk=>exact False.elim hq
  |cont=>exact False.elim hq
theorem Gg (F:fu X.prog X.w X.K X.mg X.base (zS X.prog X.w) k f fd ps sp) (hr:cV k X.A) (hg:Gl X x) (hm:X.mg x=some (.ref f)) (hk:PySem.W.keepIn X.K (.ref f)=true) (hb:Binds X.K fd ps ds) (hd:Vals kO ds) (L:Lets X ER)
  (ha:PA X (e::es) t) (FH:(x==("__debug__" :Str))=false:=by decide) (he:starEach (e::es) X.env=(false,eval e X.env)::starEach es X.env:=by rfl) (iX:(backTo pos (starEach es X.env)).any (·.1)=false:=by rfl):
  PE X (.Call (.Name x p) (e::es) [] pos) (OA sp kO ER t):=by
 intro pins s σ H Q I h
 refine wpAny_Call_Name_kw (jv I hg hm ?_ FH)
 refine PySem.W.callWith_K (h₀:=X.base) I.ok.mod.gy hk (bZ (ha pos pins s σ H _ I h) fun us s1 ⟨vs,H1,I1,r,q⟩=>⟨I1.ju,?_⟩) he iX
 exact BO F hr hb hd L I1 r q
theorem q9 {pl:Sem Bool} (he:PE X o ta) (c:sR X.K C) (hm:Meth X.K C m f) (F:fu X.prog X.w X.K X.mg X.base (zS X.prog X.w) k f fd ps sp) (hr:cV k X.A) (hb:Binds X.K fd ps ds) (hd:Vals kO ds) (L:Lets X ER) (ha:PA X (e::es) t)
  (fO:starEach (e::es) X.env=(false,eval e X.env)::starEach es X.env:=by rfl) (iX:(backTo pos (starEach es X.env)).any (·.1)=false:=by rfl)
  (ht:eval (.Call (.Attribute o m apos) (e::es) [] pos) X.env=(do
   let ov←eval o X.env
   standAt apos.atName
   let (f,first)←holding [ov] (getMethod ov m pl)
   callWith pos f first (backTo pos (starEach (e::es) X.env)) (backToKw pos (keywordEach [] X.env))):=by rfl):
  PE X (.Call (.Attribute o m apos) (e::es) [] pos) (OB C m sp kO ER ta t):=by
 intro pins s σ H Q I h
 refine PySem.W.methodCall_KW (pl:=pl) (bZ (he pins s σ H _ I h) fun u s1 ⟨x,H1,I1,rx,a,dx,fs,ex,ea,l,q⟩=>?_) ht
 subst ex
 obtain rfl:u=Value.ref a:=rx
 refine lV I1 ea c hm l ?_
 refine PySem.W.callWith_K (first:=[.ref a]) (h₀:=X.base) I.ok.mod.gy hm.kp (bZ (ha pos pins s1 σ H1 _ I1 q) fun us s2 ⟨vs,H2,I2,r,q2⟩=>⟨I2.ju,?_⟩) fO iX
 exact BO (us:= .ref a::us) (vs:= .ref a::vs) F hr hb hd L I2 (.cons rfl r) q2
def OC (C:Addr) (sp:Sp) (t:TA):TE:=fun σ H Q=>t σ H fun vs H1=>vs.length≤100∧∀x,H1 x=none→sp (.ref x::vs) (upd H1 x (tW x C none)) (fun v H2=>v= .cU∧Q (.ref x) H2) E0
theorem DM {HE:Addr} {pins:List (Addr×Obj)} {σ:St} {H:Hp} {s:Shared} {Q:VK} {us:List Value} {vs:List V} (Z:PySem.W.fg X.K C HE f) (F:fu X.prog X.w X.K X.mg X.base qO k f fd ps sp) (hr:cV (k+1) X.A) (hb:Binds X.K fd ps [])
  (I:Inv X pins σ H s) (r:Vals vs us) (hz:vs.length≤100) (h:∀x,H x=none→sp (.ref x::vs) (upd H x (tW x C none)) (fun v H2=>v= .cU∧Q (.ref x) H2) E0):
  wpAny (model X.prog X.w) X.A (call (.ref C) us) (EP X pins σ Q) X.xe s:=by
 have hq:=h (s.heap.objs.size+1) (I.aU.fresh (Nat.le_succ _))
 have e2:((s.heap.push (PySem.W.qY us)).push (PySem.W.qZ C s.heap.objs.size)).get? (s.heap.objs.size+1)=some (PySem.W.qZ C s.heap.objs.size):=by
  have:=Heap.get?_push_size (s.heap.push (PySem.W.qY us)) (o:=PySem.W.qZ C s.heap.objs.size) rfl
  rwa [Heap.size_push] at this
 have I2:Inv X pins σ (upd H (s.heap.objs.size+1) (tW (s.heap.objs.size+1) C none)) { s with heap:=(s.heap.push (PySem.W.qY us)).push (PySem.W.qZ C s.heap.objs.size) }:=
  I.laid (a:=s.heap.objs.size+1) (t':=s.toks) (fun b u q=>Heap.get?_push_of_some _ (Heap.get?_push_of_some _ q)) (Nat.le_succ _) (Gd e2 rfl rfl rfl rfl)
 have r2:Vals (V.ref (s.heap.objs.size+1)::vs) (Value.ref (s.heap.objs.size+1)::us):= .cons rfl r
 have hl:(Value.ref (s.heap.objs.size+1)::us++[]).length=ps.length:=by
  have e:=r2.length
  rw[F.len _ _ _ _ hq] at e
  rw[List.append_nil]
  exact e.symm
 have Rj:us.length≤sizeLine:=by
  rw[←r.length]
  exact Nat.le_trans hz (by rw[sizeLine_eq];decide)
 have Fh:=hb { s with heap:=(s.heap.push (PySem.W.qY us)).push (PySem.W.qZ C s.heap.objs.size) } (Value.ref (s.heap.objs.size+1)::us) I2.ju hl
 rw[List.append_nil] at Fh
 refine wpAny_call (PySem.W.Kv I.ju Z Rj (codeAny_mono (F.run _ X.stack _ _ ⟨Value.ref (s.heap.objs.size+1)::us,[]⟩ (Value.ref (s.heap.objs.size+1)::us) _ _ E0 (hr.make C us []) (I2.J3.make C us []) Fh r2 hq) fun r s' sO=>?_))
 cases r with
 |error e=>exact False.elim sO
 |ok fl=>
  cases fl with
  |ret u=>
   obtain⟨v,H',I3,rv,ev,q3⟩:=I2.after sO
   subst ev
   exact⟨rv,⟨V.ref (s.heap.objs.size+1),H',I3,rfl,q3⟩⟩
  |next=>exact False.elim sO
  |brk=>exact False.elim sO
  |cont=>exact False.elim sO
theorem Gh {HE:Addr} (Z:PySem.W.fg X.K C HE f) (F:fu X.prog X.w X.K X.mg X.base qO k f fd ps sp) (hr:cV (k+1) X.A) (hg:Gl X x) (hm:X.mg x=some (.ref C)) (hk:PySem.W.keepIn X.K (.ref C)=true) (hb:Binds X.K fd ps [])
  (ha:PA X (e::es) t) (FH:(x==("__debug__" :Str))=false:=by decide) (he:starEach (e::es) X.env=(false,eval e X.env)::starEach es X.env:=by rfl) (iX:(backTo pos (starEach es X.env)).any (·.1)=false:=by rfl):
  PE X (.Call (.Name x p) (e::es) [] pos) (OC C sp t):=by
 intro pins s σ H Q I h
 refine wpAny_Call_Name_kw (jv I hg hm ?_ FH)
 refine PySem.W.callWith_K (h₀:=X.base) I.ok.mod.gy hk (bZ (ha pos pins s σ H _ I h) fun us s1 ⟨vs,H1,I1,r,q⟩=>⟨I1.ju,?_⟩) he iX
 exact DM Z F hr hb I1 r q.1 q.2
def OD (K:PySem.W.Frag) (te:TE) (ER:St→XK):TS:=fun _ σ H=>te σ H fun v H1=>∃e C HE f dx,v= .ref e∧PySem.W.fg K C HE f∧H1 e=some (tW e C dx)∧ER σ (.ref C) dx (upd H1 e (Ar e C dx))
theorem Gi {ex:Expr} {te:TE} (hc:X.calm=true) (L:Lets X ER) (he:PE X ex te):PS X (.Raise (some ex) none pos) (OD X.K te ER):=by
 intro pins s σ H D I h
 rw[arm_exec_Raise]
 refine wpAny_bind (wpAny_standAt (PySem.W.Ga (K:=X.K) (I.ok.hd hc) (wpAny_bind (bZ (he pins s σ H _ I h) fun u s1 ⟨v,H1,I1,rv,e,C,HE,f,dx,ev,Z,hx,q⟩=>wpAny_bind (wpAny_standAt (wpAny_pure ?_))))))
 subst ev
 obtain rfl:u=Value.ref e:=rv
 obtain⟨o,vs,h1,h2,h3,h4,h5⟩:=vS I1.aU hx
 refine⟨e,o,vs,C,HE,f,rfl,I1.ju,Z,h1,h2,h4,h5,L _ _ ⟨e,C,dx,σ,_,none,rfl,?_,af,⟨⟨o,vs,h1,h4,h5⟩,fun T z=>by cases z⟩,fun T z=>(by cases z),q⟩⟩
 have J:=I1.ML.write (x:=e) (e:=e) (o:=Ar e C dx) (h':=s1.heap) (t':=s1.toks) (by rw[hx];exact True.intro) (.inl rfl) (fun _ _ _ q=>q) ⟨o,h1⟩ (MI h1 h2 h3 h4)
 exact J
end
end L2
namespace L2
open PySem PySem.Spec PyProof.Rows
theorem OE {H:Hp} {e:Addr} {o:HO} (h:H e=some o):upd H e o=H:=by
 funext b
 by_cases z:b=e
 ·subst z
  rw[af,h]
 ·rw[ah z]
section
variable {X:Cx} {x f:Str} {a b o value ex:Expr} {ta tb tv:TE} {p pos apos pos':Pos}
structure MM (K:PySem.W.Frag) (HE:Addr):Prop where
 sp:PySem.W.specialIn K (.ref HE) "__getattribute__" =some (some (.builtin "type.__getattribute__"))
 rd:PySem.W.readsIn K HE (.type "type")=true
 fc:PySem.W.findCls K (.ref HE) (.type "type") "__init__" =some (.val (.builtin "ValueError.__init__"))
def OF (K:PySem.W.Frag) (ta tb:TE):TE:=fun σ H Q=>ta σ H fun v H1=>tb σ H1 fun _ H2=>∃e C HE f dx,v= .ref e∧PySem.W.fg K C HE f∧H2 e=some (tW e C dx)∧Q .cU H2
theorem Gj {HE:Addr} {pl:Sem Bool} (hg:Gl X x) (hm:X.mg x=some (.ref HE)) (B:MM X.K HE) (ha:PE X a ta) (hb:PE X b tb) (hd:(x==("__debug__" :Str))=false:=by decide)
  (fO:starEach [a,b] X.env=(false,eval a X.env)::starEach [b] X.env:=by rfl) (hst1:starEach [b] X.env=(false,eval b X.env)::starEach [] X.env:=by rfl) (iX:(backTo pos (starEach [b] X.env)).any (·.1)=false:=by rfl)
  (ht:eval (.Call (.Attribute (.Name x p) "__init__" apos) [a,b] [] pos) X.env=(do
   let ov←eval (.Name x p) X.env
   standAt apos.atName
   let (f,first)←holding [ov] (getMethod ov "__init__" pl)
   callWith pos f first (backTo pos (starEach [a,b] X.env)) (backToKw pos (keywordEach [] X.env))):=by rfl):
  PE X (.Call (.Attribute (.Name x p) "__init__" apos) [a,b] [] pos) (OF X.K ta tb):=by
 intro pins s σ H Q I h
 refine PySem.W.methodCall_KW (pl:=pl) (jv I hg hm ?_ hd) ht
 refine PySem.W.method_cls I.ju B.sp (PySem.W.cls_value I.ju B.rd B.fc rfl ?_)
 have I0:=I.tok (s.toks+1)
 refine PyProof.Rows.callWith_builtin1 (bZ (aa ha (aa hb ak hst1) fO pos pins _ σ H (fun vs H2=>match vs with| [v,_]=>∃e C HE f dx,v=V.ref e∧PySem.W.fg X.K C HE f∧H2 e=some (tW e C dx)∧Q .cU H2|_=>False) I0 h) fun us s1 ⟨vs,H2,I2,r,q⟩=>?_) fO iX
 match vs,q with
 | [v,u],q=>
   obtain⟨e,C,HE,f,dx,e1,Z,hx,q⟩:=q
   subst e1
   obtain⟨u1,u2,rfl,r1,r2⟩:=vals2 r
   obtain rfl:u1=Value.ref e:=r1
   obtain⟨ob,vs,h1,h2,h3,h4,h5⟩:=vS I2.aU hx
   have sz:1<vs.size:=(Array.getElem?_eq_some_iff.mp h5).1
   refine PySem.W.Gb I2.ju Z h1 h2 h4 (by omega) (by rw[sizeLine_eq,List.length_cons,List.length_nil];decide) fun h' g1 g2=>⟨.cU,H2,?_,rfl,q⟩
   have J:=I2.write (x:=e) (e:=e) (o:=tW e C dx) (h':=h') (t':=s1.toks) (by rw[hx];exact True.intro) (.inl rfl) (fun b o be q=>g2 b o be q) ⟨_,g1⟩ (Gd g1 h2 h3 rfl (by rw[Array.getElem?_setIfInBounds_ne (by decide)];exact h5))
   rw[OE hx] at J
   exact J
def SK (K:PySem.W.Frag) (ta tv:TE) (f:Str):TS:=fun D σ H=>tv σ H fun y H1=>ta σ H1 fun v H2=>∃e C HE g,v= .ref e∧PySem.W.fg K C HE g∧PySem.W.takerIn K C f=some none∧
 ((H2 e=some (tW e C none)∧∀dx,H2 dx=none→dx≠e→D.nx σ (upd (upd H2 dx (zR dx [(f,y)])) e (tW e C (some dx))))∨
  ∃dx fs,H2 e=some (tW e C (some dx))∧H2 dx=some (zR dx fs)∧fs.length<1000∧D.nx σ (upd H2 dx (zR dx (cL f y fs))))
theorem pW (ha:PE X o ta) (hv:PE X value tv) (hs:swapsWith value (some (.Attribute o f pos')) pos.line X.env=pure false):PS X (.Assign [.Attribute o f pos'] value pos) (SK X.K ta tv f):=by
 intro pins s σ H D I h
 refine plainObj_wpAny_Assign_Attribute (bZ (hv pins s σ H _ I h) fun u s1 ⟨y,H1,I1,ry,q⟩=>bZ (ha pins s1 σ H1 _ I1 q) fun ov s2 ⟨x,H2,I2,rx,e,C,HE,g,ex,Z,tk,q2⟩=>?_) hs
 subst ex
 obtain rfl:ov=Value.ref e:=rx
 rcases q2 with ⟨hx,q2⟩ | ⟨dx,fs,hx,hd,hl,q2⟩
 ·obtain⟨ob,vs,h1,h2,h3,h4,h5⟩:=vS I2.aU hx
  refine PySem.W.Kw I2.ju Z tk h1 h2 h4 h3 fun h' Ol g1 g2 g3=>?_
  have ne:s2.heap.objs.size≠e:=Nat.ne_of_gt (Heap.lt_size h1)
  have fr:=I2.aU.fresh (Nat.le_refl s2.heap.objs.size)
  generalize hN:s2.heap.objs.size=n at g1 g2 ne fr
  have at':∀b o,H2 b=some o→b≠e→upd (upd H2 n (zR n [(f,y)])) e (tW e C (some n)) b=some o:=fun b o q be=>by
   rw[ah be,ah (ag q fr)]
   exact q
  refine⟨σ,upd (upd H2 n (zR n [(f,y)])) e (tW e C (some n)),I2.un (h':=h') (t':=Ol) ⟨fun b o q nn _ _=>g3 b o (fun z=>?_) q,fun b o q nn _ _=>⟨o.slots,g3 b o (fun z=>?_) q⟩,fun b o q nn _=>?_,fun b o q _=>?_,fun b xs q=>at' b _ q fun z=>?_,fun b o u q=>at' b _ q fun z=>?_,fun b ps q=>⟨#[],?_⟩⟩ fun b o q=>?_,q2 n fr ne⟩
  ·rw[z,hx] at nn;cases nn
  ·rw[z,hx] at nn;cases nn
  ·rw[ah (fun z=>by rw[z,hx] at nn;cases nn),ah (fun z=>by rw[z,←hN] at q;exact absurd (Heap.lt_size q) (Nat.lt_irrefl _))]
   exact nn
  ·by_cases be:b=e
   ·subst be
    exact⟨_,g1⟩
   ·exact⟨o,g3 b o be q⟩
  ·rw[z,hx] at q;cases q
  ·rw[z,hx] at q;cases q
  ·rw[Array.append_empty]
   exact at' b _ q fun z=>by rw[z,hx] at q;cases q
  ·by_cases be:b=e
   ·subst be
    rw[af] at q
    cases q
    exact Gd g1 h2 rfl h4 h5
   ·rw[ah be] at q
    by_cases bn:b=n
    ·subst bn
     rw[af] at q
     cases q
     refine MJ g2 (fun g=>?_) fun g hg=>?_
     ·by_cases eg:g=f
      ·subst eg
       simp only [List.lookup,beq_self_eq_true,if_true]
       exact ry
      ·have e1:(g==f)=false:=by simpa using eg
       simp only [List.lookup,e1,if_neg eg]
       exact True.intro
     ·by_cases eg:g=f
      ·simp [eg]
      ·exact absurd (if_neg eg) hg
    ·rw[ah bn] at q
     refine(I2.aU b o q).qx (fun c u hc z=>g3 c u (fun ce=>?_) z) (fun c z=>at' c _ z fun ce=>?_) fun c xs z=>at' c _ z fun ce=>?_
     ·rcases hc with hc|hc
      ·exact be (hc.symm.trans ce)
      ·rw[ce,hx] at hc;cases hc
     ·rw[ce,hx] at z;cases z
     ·rw[ce,hx] at z;cases z
 ·obtain⟨ob,vs,h1,h2,h3,h4,h5⟩:=vS I2.aU hx
  obtain⟨mA,n1,r1,w1⟩:=As I2.aU hd
  have hz:(fs.map (·.1)).length≤1000:=by rw[List.length_map];omega
  refine PySem.W.Kx I2.ju Z tk h1 h2 h4 h3 n1 w1 hz fun h' g1 sb=>⟨σ,_,?_,q2⟩
  have fQ:∃o,h'.get? dx=some o:=let ⟨o,_,_,e',_⟩:=g1;⟨o,e'⟩
  refine I2.write (x:=dx) (e:=dx) (t':=s2.toks+2) (by rw[hd];exact True.intro) (.inl rfl) (fun b q hb z=>(sb.2 b hb).trans z) fQ (MJ g1 (fun g=>?_) fun g hg=>?_)
  ·rw[az]
   by_cases q:g=f
   ·rw[if_pos q,if_pos q];exact ry
   ·rw[if_neg q,if_neg q];exact r1 g
  ·by_cases q:g=f
   ·rw[q];exact(je f y fs).1
   ·exact(je f y fs).2 g (w1 g fun z=>hg (by rw[if_neg q];exact z))
def SM (K:PySem.W.Frag) (ta:TE) (f:Str):TE:=fun σ H Q=>ta σ H fun v H1=>∃e C HE g dx fs y,v= .ref e∧PySem.W.fg K C HE g∧PySem.W.findIn K (.ref C) f=some none∧H1 e=some (Ar e C (some dx))∧H1 dx=some (zR dx fs)∧fs.lookup f=some y∧Q y H1
theorem jC (he:PE X ex ta) (hb:attributeBase ex f X.env (eval ex X.env)=eval ex X.env):PE X (.Attribute ex f pos) (SM X.K ta f):=by
 intro pins s σ H Q I h
 refine BD hb (bZ (he pins s σ H _ I h) fun u s1 ⟨x,H1,I1,rx,e,C,HE,g,dx,fs,y,ex,Z,fi,hx,hd,l,q⟩=>?_)
 subst ex
 obtain rfl:u=Value.ref e:=rx
 obtain⟨ob,vs,h1,h2,h3,h4⟩:=q5 I1.aU hx
 obtain⟨mA,n1,r1,w1⟩:=As I1.aU hd
 obtain⟨od,ho,hl⟩:=oa n1
 obtain⟨u,hu,ru⟩:=iw.some_of (v:=y) (o:=mA f) (by rw[←l];exact r1 f)
 obtain⟨cd,pG,_,hh⟩:=Z.cd
 have J:PySem.W.InstAt s1.heap e ob C (some od):=⟨h1,h2,by unfold PySem.W.notCls;rw[h4],by rw[h3];exact ho⟩
 exact PySem.W.Oz I1.ju Z J (PySem.W.findObj_own (by unfold PySem.W.hasDictIn;rw[pG];exact hh) fi rfl (by rw[hl,hu])) (tF ru) ⟨y,H1,I1.tok _,ru,q⟩
def tFmt (ta:TE):TE:=fun σ H Q=>ta σ H fun v H1=>(∃i,v= .int i∧i.natAbs.log2<1920∧Q (.str (toString i)) H1)∨∃y,v= .str y∧y.length≤sizeLine∧Q (.str y) H1
theorem vU (he:PE X ex ta):PE X (.FormattedValue ex (-1) none pos) (tFmt ta):=by
 intro pins s σ H Q I h
 refine FormattedValue_plain (bZ (he pins s σ H _ I h) fun u s1 ⟨v,H1,I1,rv,q⟩=>?_)
 rcases q with ⟨i,rfl,hi,q⟩ | ⟨y,rfl,hy,q⟩
 ·obtain⟨t,rfl⟩:=rv
  exact formatField_int_small hi ⟨.str (toString i),H1,I1.tok _,⟨_,rfl⟩,q⟩
 ·obtain⟨t,rfl⟩:=rv
  exact formatField_str (fun t' tk=>⟨.str y,H1,I1.tok tk,⟨_,rfl⟩,q⟩) hy
def PF (X:Cx) (es:List Expr) (t:Str→TE):Prop:=
 ∀(acc:Str) (pins:List (Addr×Obj)) (s:Shared) (σ:St) (H:Hp) (Q:VK),Inv X pins σ H s→t acc σ H Q→wpAny (model X.prog X.w) X.A (joinParts acc (evalEach es X.env)) (EP X pins σ Q) X.xe s
def SQ:Str→TE:=fun acc _ H Q=>acc.length≤sizeLine∧Q (.str acc) H
def OG (te:TE) (t:Str→TE):Str→TE:=fun acc σ H Q=>te σ H fun v H1=>∃y,v= .str y∧(acc++y).length≤sizeLine∧t (acc++y) σ H1 Q
theorem OH:PF X [] SQ:=fun acc pins s σ H Q I h=>joinParts_nil ⟨.str acc,H,I.tok _,⟨_,rfl⟩,h.2⟩ h.1
theorem iE {es:List Expr} {t:Str→TE} (he:PE X ex ta) (hr:PF X es t) (hs:evalEach (ex::es) X.env=eval ex X.env::evalEach es X.env:=by rfl):PF X (ex::es) (OG ta t):=by
 intro acc pins s σ H Q I h
 rw[hs]
 refine joinParts_cons (bZ (he pins s σ H _ I h) fun u s1 ⟨v,H1,I1,rv,y,ev,hz,q⟩=>?_)
 subst ev
 obtain⟨t',rfl⟩:=rv
 exact⟨hz,hr (acc++y) pins s1 σ H1 Q I1 q⟩
theorem Kz {v1 v2:Expr} {es:List Expr} {t:Str→TE} (h:PF X (v1::v2::es) t):PE X (.JoinedStr (v1::v2::es) pos) (t Str.empty):=fun pins s σ H Q I hw=>JoinedStr_many (h Str.empty pins s σ H Q I hw)
end
end L2
namespace PySem.W
open PySem PySem.Calls PyProof.Rows
structure KA (K:Frag) (PC:Addr):Prop where
 obj:∃(nm q:Str) (N:Addr) (bs bm:List Value) (hd:Bool) (sn:List Str) (sub:List Value) (ab:Bool) (col:Option Bool) (dd:Option Addr) (k0 k1 k2 k3 k5:Option Value) (Y9:String),
  K.lookup PC=some (excClassObj nm q PC N bs bm hd sn sub ab col dd k0 k1 k2 k3 k5 Y9)∧bm.contains (.type "BaseException")=true
theorem Av {M:Model} {A:Around} {E:Value→Shared→Prop} {s:Shared} {K:Frag} {C HE f e PC:Addr} {ox:Obj} {b:Bool} {Q:Bool→Shared→Prop} (X:K.In s.heap) (Z:fg K C HE f) (Y:KA K PC) (hx:s.heap.get? e=some ox) (hc:ox.cls= .ref C)
  (hm:mroIn K C (.ref PC)=some b) (k:Q b s):wpAny M A (excMatches (.ref e) (.ref PC)) Q E s:=by
 obtain⟨nm,q,N,bs,sn,sub,ab,col,dd,k0,k1,k2,k3,k5,hK⟩:=Z.obj
 obtain⟨nm',q',N',bs',bm,fQ,sn',sub',ab',col',Dx,k0',k1',k2',k3',k5',Y9,hP,hB⟩:=Y.obj
 obtain⟨cd,pG,em,_⟩:=Z.cd
 have cb:(Value.ref C:: .ref HE::zQ).contains (.ref PC)=b:=by
  unfold mroIn at hm
  rw[pG,Option.bind_some,em] at hm
  exact Option.some.inj hm
 have kC:=X _ _ hK
 have kP:=X _ _ hP
 have cB:(Value.ref PC::bm).contains (.type "BaseException")=true:=by rw[List.contains_cons,hB,Bool.or_true]
 have ft:=tc_notTuple
 obtain⟨hp,g,d,tk,os⟩:=s
 unfold excMatches
 repeat (first| (with_reducible refine wpAny_loadPart_at hx ?_;rw[hc]) |with_reducible refine wpAny_loadPart_at kP ?_| (with_reducible refine wpAny_isSubtype_exc kP ?_;rw[cB]) | (with_reducible refine wpAny_isSubtype_exc kC ?_;rw[cb]) |wp_step)
 cases b<;>(wp_walk;exact k)
end PySem.W
namespace L2
open PySem PySem.Spec PyProof.Rows
abbrev Cx.pinned (X:Cx) (pn:List (Addr×Obj)):Cx:={ X with pn:=X.pn++pn }
abbrev Cx.mark (X:Cx) (e:Addr):Cx:={ X with A:=X.A.mark (some (.ref e)),calm:=false,xe:=fun _ _=>False }
section
variable {X:Cx} {pins pn:List (Addr×Obj)} {σ:St} {H:Hp} {s:Shared} {ER:St→XK} {v:Value} {D:Ends} {fl:Flow}
theorem Cx.Ok.pinned (ok:X.Ok):(X.pinned pn).Ok:=⟨ok.mod,ok.kind,ok.glob,ok.blt,ok.above,ok.inj,ok.has,ok.JT,ok.hd,ok.frames,ok.Ms,ok.Q9,ok.bs,ok.Dp,ok.vn,ok.vo,ok.lH,ok.Fw⟩
theorem Cx.Ok.gg (ok:(X.pinned pn).Ok):X.Ok:=⟨ok.mod,ok.kind,ok.glob,ok.blt,ok.above,ok.inj,ok.has,ok.JT,ok.hd,ok.frames,ok.Ms,ok.Q9,ok.bs,ok.Dp,ok.vn,ok.vo,ok.lH,ok.Fw⟩
theorem Inv.toPn (I:Inv X pins σ H s):Inv (X.pinned pins) [] σ H s:=⟨I.ok.pinned,I.os,I.bare,I.base,I.loc,I.cell,I.free,I.gC,fun p hp=>I.pin p (by simpa using hp),I.aU,I.len⟩
theorem Inv.KC (I:Inv (X.pinned pn) pins σ H s):Inv X pn σ H s:=⟨I.ok.gg,I.os,I.bare,I.base,I.loc,I.cell,I.free,I.gC,fun p hp=>I.pin p (List.mem_append_left _ hp),I.aU,I.len⟩
theorem SP.gg (h:SP (X.pinned pn) pins D fl s):SP X pn D fl s:=by
 cases fl with
 |next=>obtain⟨σ',H',I,q⟩:=h;exact⟨σ',H',I.KC,q⟩
 |brk=>obtain⟨σ',H',I,q⟩:=h;exact⟨σ',H',I.KC,q⟩
 |cont=>obtain⟨σ',H',I,q⟩:=h;exact⟨σ',H',I.KC,q⟩
 |ret u=>obtain⟨v,σ',H',I,r,q⟩:=h;exact⟨v,σ',H',I.KC,r,q⟩
theorem KD:Lets X (fun _ _ _ _=>False):=fun _ _ ⟨_,_,_,_,_,_,_,_,_,_,_,z⟩=>z.elim
theorem Inv.mark (I:Inv X pins σ H s) (e:Addr):Inv (X.mark e) pins σ H s:=
 ⟨⟨I.ok.mod,I.ok.kind,I.ok.glob,I.ok.blt,I.ok.above,I.ok.inj,I.ok.has,I.ok.JT,fun z=>(by cases z),I.ok.frames,I.ok.Ms,I.ok.Q9,I.ok.bs,I.ok.Dp,I.ok.vn,I.ok.vo,I.ok.lH,I.ok.Fw⟩,I.os,I.bare,I.base,I.loc,I.cell,I.free,I.gC,I.pin,I.aU,I.len⟩
theorem Inv.unmark {e:Addr} (I:Inv (X.mark e) pins σ H s) (ok:X.Ok):Inv X pins σ H s:=⟨ok,I.os,I.bare,I.base,I.loc,I.cell,I.free,I.gC,I.pin,I.aU,I.len⟩
def PH (X:Cx) (hs:List ExceptHandler) (th:Ends→St→XK):Prop:=
 ∀(s:Shared) (σ:St) (H:Hp) (D:Ends) (e C:Addr) (dx:Option Addr) (T:Addr),Inv X [] σ H s→H e=some (Ar e C dx)→s.heap.ou e (some T)→H T=none→kn X T→th D σ (.ref C) dx H→
  wpAny (model X.prog X.w) X.A (handleBy (.ref e) X.env hs) (SP X [] D) X.xe s
theorem OI (L:Lets X ER):PH X [] (fun _=>ER):=by
 intro s σ H D e C dx T I he fl hT nT hE
 refine wpAny_handleBy_nil ?_
 obtain⟨oe,vs,h1,h2,h3⟩:=id fl.ex
 unfold PySem.passOn
 refine wpAny_bind (wpAny_field h1 h2 h3 ?_)
 rw[if_neg (by simp)]
 have ht:∀T',some T=some T'→H T'=none∧kn X T':=fun T' z=>by cases z;exact⟨hT,nT⟩
 refine wpAny_bind (ji fl fun h' a m=>wpAny_throw (L _ _ ⟨e,C,dx,σ,H,some T,rfl,I.moved he ht (m.mono fun _ z=>absurd z (by simp)),he,a,ht,hE⟩))
def SR (K:PySem.W.Frag) (PC:Addr) (i:Nat) (ts:TS) (tr:Ends→St→XK):Ends→St→XK:=fun D σ cv dx H=>
 ∃C HE f b,cv= .ref C∧PySem.W.fg K C HE f∧PySem.W.mroIn K C (.ref PC)=some b∧
  if b=true then∀e,H e=some (Ar e C dx)→ts { D with nx:=fun σ1 H1=>D.nx (σ1.set i none) H1,bk:=fun σ1 H1=>D.bk (σ1.set i none) H1,ct:=fun σ1 H1=>D.ct (σ1.set i none) H1 } (σ.set i (some (.ref e))) H else tr D σ cv dx H
theorem name_goes {i:Nat} {n:Str} {pos:Pos} {Q:Unit→Shared→Prop} {A:Around} {E:Value→Shared→Prop} (I:Inv X pins σ H s) (hN:X.N.Nodup) (hi:X.N[i]? =some n) (hl:X.env.scope.names.lookup n=some .local)
  (k:∀s',Inv X pins (σ.set i none) H s'→Q () s'):wpAny (model X.prog X.w) A (do bindName X.env n .none;unbindBehindTheSuite X.env n pos) Q E s:=by
 have NS:(X.env.scope.kind== .class||(X.env.scope.kind== .module&&X.env.locals != X.env.globals))=false:=by rw[I.ok.kind];rfl
 refine wpAny_bind (wpAny_bindName (store_ok I hN hi (.inl hl) (v:= .cU) rfl (fun s1 J=>?_) (.inr hl)))
 have hii:i<σ.length:=by rw[I.len];exact(List.getElem?_eq_some_iff.mp hi).1
 obtain⟨m,hn,Rg⟩:=id J.loc
 obtain⟨u,_,lk⟩:=Rg i n .cU hi (by rw[List.getElem?_set_self hii]) (.inl hl)
 have hmn:(m n).isSome=true:=by
  rcases lk with ⟨_,z⟩ | ⟨z,_⟩
  ·rw[z];rfl
  ·rcases z with z|z
   ·have:X.env.scope.names.lookup n=some .cell:=z
    rw[hl] at this;cases this
   ·have:X.env.scope.names.lookup n=some .free:=z
    rw[hl] at this;cases this
 unfold unbindBehindTheSuite
 refine wpAny_onRaise ?_
 unfold unbindName
 refine wpAny_bind (wpAny_point (wpAny_bind ?_))
 unfold deleteName
 have kl:X.env.kindOf n=some .local:=hl
 simp only [kl,NS]
 rw[if_neg (by decide)]
 refine wpAny_bind (wpAny_nsDel_keeps hn fun h2 v2 My sb=>?_)
 rw[hmn]
 refine wpAny_pure (wpAny_point (k _ ?_))
 obtain⟨oL,_,_,Ra,_⟩:=id hn
 have lo:∀b o,X.s₀.heap.get? b=some o→b≠X.env.locals:=fun b o q=>Nat.ne_of_lt (Nat.lt_of_lt_of_le (Heap.lt_size q) J.ok.above)
 refine⟨J.ok,J.os,J.bare,⟨fun b o e nn hb hx=>(sb.2 b (lo b o e)).trans (J.base.keep b o e nn hb hx),fun b o e nn hb hx=>?_,J.base.free,fun b o e hx=>?_,J.base.nW,J.base.nX,J.base.nY⟩,⟨_,My,fun j y v' e1 e2 e3=>?_⟩,fun y c e=>?_,J.free,J.gC,fun p hp=>?_,fun b ob e=>?_,by simpa using I.len⟩
 ·obtain⟨sl,e1⟩:=J.base.slot b o e nn hb hx
  exact⟨sl,(sb.2 b (lo b o e)).trans e1⟩
 ·obtain⟨o',e1⟩:=J.base.there b o e hx
  exact⟨o',(sb.2 b (lo b o e)).trans e1⟩
 ·by_cases hj:j=i
  ·subst hj
   rw[List.getElem?_set_self hii] at e2
   cases e2
  ·rw[List.getElem?_set_ne (Ne.symm hj)] at e2
   obtain⟨u',r',q⟩:=Rg j y v' e1 (by rw[List.getElem?_set_ne (Ne.symm hj)];exact e2) e3
   refine⟨u',r',?_⟩
   rcases q with ⟨k,e⟩ | ⟨k,c,e,z⟩
   ·refine .inl ⟨k,?_⟩
    have:y≠n:=fun e=>hj (qy hN e1 (e▸hi))
    simp [this,e]
   ·exact .inr ⟨k,c,e,z.sameBut sb (J.JU y c e)⟩
 ·obtain⟨w',z⟩:=J.cell y c e
  exact⟨w',z.sameBut sb (J.JU y c e)⟩
 ·obtain⟨e,nn,ne,nf,d⟩:=J.pin p hp
  exact⟨(sb.2 p.1 ne).trans e,nn,ne,nf,d⟩
 ·refine(J.aU b ob e).qx (fun c w' hc q=>(sb.2 c ?_).trans q) (fun _ q=>q) fun _ _ q=>q
  rintro rfl
  rcases hc with rfl|hc
  ·rw[J.free] at e;cases e
  ·rw[J.free] at hc;cases hc
theorem SS {x n:Str} {np pos:Pos} {b0:Stmt} {yq:List Stmt} {rest:List ExceptHandler} {PC:Addr} {i:Nat} {ts:TS} {tr:Ends→St→XK} (hg:Gl X x) (hm:X.mg x=some (.ref PC)) (Y:PySem.W.KA X.K PC) (hN:X.N.Nodup) (hi:X.N[i]? =some n)
  (hl:X.env.scope.names.lookup n=some .local) (hsu:∀e,lU (X.mark e) (b0::yq) ts) (hr:PH X rest tr) (hd:(x==("__debug__" :Str))=false:=by decide):
  PH X (.ExceptHandler (some (.Name x np)) (some n) (b0::yq) pos::rest) (SR X.K PC i ts tr):=by
 intro s σ H D e C dx T I he fl hT nT hE
 obtain⟨C',HE,f,b,ec,Z,mb,hE⟩:=hE
 cases ec
 obtain⟨o,vs,o1,o2,o3,o4⟩:=q5 I.aU he
 have ht:∀T',some T=some T'→H T'=none∧kn X T':=fun T' z=>by cases z;exact⟨hT,nT⟩
 refine wpAny_handleBy_cons (codeAny_handlers_test (jv (X:=X.mark e) (I.mark e) hg hm (PySem.W.Av I.ju Z Y o1 o2 mb ?_) hd)) (by intro z;cases z)
 cases b with
 |false=>exact hr s σ H D e C dx T I he fl hT nT hE
 |true=>
  have hE:=hE e he
  refine codeAny_handlers_suite_as (ji fl fun h1 a m=>?_)
  have I1:=I.moved he ht (m.mono fun _ z=>absurd z (by simp))
  refine store_ok I1 hN hi (.inl hl) (v:= .ref e) rfl (fun s2 I2=>?_) (.inr hl)
  refine wpAny_mono (hsu e [] s2 _ H _ (I2.mark e) hE) (fun f s3 q=>?_) fun _ _ z=>False.elim z
  cases f with
  |next=>
   obtain⟨σ',H',I3,q⟩:=q
   exact name_goes (I3.unmark I.ok) hN hi hl fun s4 I4=>⟨_,H',I4,q⟩
  |brk=>
   obtain⟨σ',H',I3,q⟩:=q
   exact name_goes (I3.unmark I.ok) hN hi hl fun s4 I4=>⟨_,H',I4,q⟩
  |cont=>
   obtain⟨σ',H',I3,q⟩:=q
   exact name_goes (I3.unmark I.ok) hN hi hl fun s4 I4=>⟨_,H',I4,q⟩
  |ret u=>
   obtain⟨v,σ',H',I3,r,q⟩:=q
   exact name_goes (I3.unmark I.ok) hN hi hl fun s4 I4=>⟨v,_,H',I4,r,q⟩
def SU (tb:(St→XK)→TS) (th:Ends→St→XK):TS:=fun D σ H=>tb (th D) D σ H
theorem KG {body:List Stmt} {h0:ExceptHandler} {hs:List ExceptHandler} {pos:Pos} {tb:(St→XK)→TS} {th:Ends→St→XK} (fm:Ky X) (hb:∀pn ER',lU ((X.pinned pn).j' (mJ (X.pinned pn) ER')) body (tb ER')) (hh:∀pn,PH (X.pinned pn) (h0::hs) th):
  PS X (.Try body (h0::hs) [] [] pos) (SU tb th):=by
 intro pins s σ H D I h
 have fin:∀{f s1},SP (X.pinned pins) [] D f s1→SP X pins D f s1:=fun q=>q.gg
 refine wpAny_Try_except (wpAny_mono (hb pins (th D) [] s σ H D (I.toPn.j' _) h) (fun f s1 q=>?_) fun v s1 z=>?_)
 ·have q:=fin q.d9
  cases f with
  |next=>exact wpAny_execs_nil q
  |brk=>exact q
  |cont=>exact q
  |ret u=>exact q
 ·obtain⟨e,C,dx,σ1,H1,tb,ev,I1,he,fl,ht,hE⟩:=z
  subst ev
  have fm':Ky (X.pinned pins):=fm
  obtain⟨fr,ff⟩:=ow fm' I1
  refine vQ fr ff fm'.2 fl fun h2 T a b m=>?_
  have m1:Heap.Moved (xN (X.pinned pins).stack) e tb s1.heap h2:=by unfold xN;rw[fm'.1];exact m
  have I2:=I1.moved he ht m1
  have t1:=Au I1 ht b
  refine ji (s:={ s1 with heap:=h2 }) a fun h3 a3 m3=>?_
  have I3:=I2.moved he t1 (m3.mono fun _ z=>absurd z (by simp))
  exact bZ (hh pins _ σ1 H1 D e C dx T I3 he a3 (t1 T rfl).1 (t1 T rfl).2 hE) fun f s4 q=>fin q
end
end L2
namespace L2
open PySem PySem.Spec PyProof.Rows
def SV (a:Addr) (o:Obj) (kvs:List (Key×V)):It:=
 ⟨fun i H=>H a=some (.fN o (.dK kvs))∧i<kvs.length,fun i H x H'=>∃p k v,kvs[i]? =some (k,v)∧H p=none∧H'=upd H p (.tup [kV k,v])∧x= .ref p,fun i H=>H a=some (.fN o (.dK kvs))∧kvs.length≤i⟩
theorem DN:entryFor table "dict_itemiterator.__iter__" =some Builtin.«dict_keyiterator.__iter__» :=entryFor_alias (id':="dict_keyiterator.__iter__") (by kernel_rfl) rfl (by decide+kernel) (by kernel_rfl)
theorem Gk {prog:Program} {w:World} {A:Around} {E:Value→Shared→Prop} {s:Shared} {it:Addr} {Q:Value→Shared→Prop} (ht:s.TypeIs (.ref it) "dict_itemiterator") (h:Q (.ref it) s):wpAny (model prog w) A (pyIter (.ref it)) Q E s:=by
 refine wpAny_pyIter_slot ht PySem.F.slot_dict_itemiterator_iter (wpAny_call_entry PySem.F.slot_dict_itemiterator_iter ht DN ?_ (PySem.F.args_dict_itemiterator_iter_1 _))
 exact wpAny_pure ⟨_,rfl,"dict_itemiterator",_,ht,PySem.F.slot_dict_itemiterator_next.lookup,h⟩
theorem Aw {P:Program} {w:World} {K:PySem.W.Frag} {elts:List Expr} {x1} {sS:Pos} (a it:Addr) (o:Obj) (kvs:List (Key×V)) {es:Array DictEntry} {ep:Nat} (hd:o.data= .dict es ep):
  Turn P w K (.Tuple elts x1 sS) (SV a o kvs) [it] it (fun i h=>∃ok ov,IsItemIter h it a i kvs.length ep ok ov) where
 mem:=by simp
 obj:=fun i h st b hb=>by
  have e:b=it:=by simpa using hb
  subst e
  obtain⟨ok,ov,q⟩:=st
  exact⟨_,q,fun v z=>by cases z⟩
 keep:=fun i h h' st k=>let ⟨ok,ov,q⟩:=st;⟨ok,ov,k it (by simp) _ q⟩
 item:=by
  intro X hP hw hK hc i pins s σ H E I hf st hg
  subst hP hw hK
  obtain⟨hz,hi⟩:=hg
  obtain⟨ok,ov,st⟩:=st
  obtain⟨vs,rel,dd,hs⟩:=vH I.aU hz hd
  obtain⟨k,v,DD⟩:∃k v,kvs[i]? =some (k,v):=⟨kvs[i].1,kvs[i].2,by simp [hi]⟩
  obtain⟨u,hu,ru⟩:=rel.get DD
  rw[rel.length] at st
  refine wpAny_pyNext_items_item st dd hu fun key h' hk a1 a2 a3 a4=>⟨_,rfl,?_⟩
  refine wpAny_letOwnedTupleGo_items (s:={ s with heap:=h' }) a1 fun SE b1 b2=>?_
  have up:∀c q,c≠it→h'.get? c=some q→SE.get? c=some q:=fun c q n z=>b2.extBut _ _ n z
  have ne:s.heap.objs.size≠it:=Nat.ne_of_gt (Heap.lt_size st)
  have kg:=up _ _ ne a2
  have I1:Inv X pins σ (upd H s.heap.objs.size (.tup [kV k,v])) { s with heap:=SE,toks:=s.toks }:=by
   refine I.BJ (ch:=[it]) (fun b q hb z=>?_) hf (Nat.le_refl _) ⟨by show 2≤sizeLine;decide,[key,u], .cons (vG hk) (.cons ru .nil),⟨_,kg,rfl,_,rfl⟩⟩
   have hb:b≠it:=by simpa using hb
   exact up _ _ hb (a4 b q hb z)
  refine⟨.ref s.heap.objs.size,_,I1,rfl,⟨_,k,v,DD,I.aU.fresh (Nat.le_refl _),rfl,rfl⟩,⟨key,u,?_⟩,fun b hb=>?_⟩
  ·rw[rel.length];exact b1
  ·have e:b=it:=by simpa using hb
   rw[ah (by rw[e];exact Ne.symm ne)]
   exact(hf b hb).1
 done:=by
  intro X hP hw hK hc i pins s σ H E I hf st hg
  subst hP hw hK
  obtain⟨hz,hi⟩:=hg
  obtain⟨ok,ov,st⟩:=st
  obtain⟨vs,rel,dd,hs⟩:=vH I.aU hz hd
  rw[rel.length] at st hi
  refine wpAny_pyNext_items_end (I.ok.hd hc) st dd (List.getElem?_eq_none hi) fun h' eb=>⟨rfl,I.BK (t':=s.toks) (ch:=[it]) (fun b q hb z=>?_) hf⟩
  exact eb b q (by simpa using hb) z
 self:=fun _ _ _ _ _ st h=>by
  obtain⟨ok,ov,st⟩:=st
  exact Gk ⟨_,st,rfl⟩ h
section
variable {X:Cx} {tg:Expr}
def OJ (X:Cx) (td:TE):TI:=fun σ H R=>td σ H fun x H1=>∃a kvs,x= .ref a∧H1 a=some (.dK kvs)∧∀o,NF X a→R (SV a o kvs) (upd H1 a (.fN o (.dK kvs)))
theorem Gm {elts:List Expr} {x1} {sS:Pos} {l:Expr} {tl:TE} {apos pos:Pos} (hl:PE X l tl) (hb:attributeBase l "items" X.env (eval l X.env)=eval l X.env:=by rfl) (FR:(apos.endLine==pos.line)=true:=by rfl):
  PI X (.Tuple elts x1 sS) (.Call (.Attribute l "items" apos) [] [] pos) (OJ X tl):=by
 intro pins s σ H R I h
 refine wpAny_Call_method (T:="dict") (id:="dict.items") hb rfl FR PySem.F.plainAttrs_dict PySem.F.slot_dict_items PySem.F.type_dict_items (bZ (hl pins s σ H _ I h) fun v s1 ⟨x,H1,I1,r1,q1⟩=>?_)
 obtain⟨a,kvs,e,hk,q⟩:=q1
 subst e
 cases r1
 obtain⟨o,ho,I2⟩:=I1.freeze hk
 obtain⟨z,hs,vs,rel,dd⟩:=qJ I1.aU hk
 obtain⟨ep,da⟩:=id dd.dictAt
 obtain⟨o',es,xO,ex,hd,hr⟩:=id da
 rw[ho] at xO;cases xO
 refine⟨dd.typeIs,dd.mapOf.noDict,method_meetsIn PySem.F.slot_dict_items PySem.F.entry_dict_items rfl (PySem.evalArgs_none ⟨rfl,dd.typeIs,PySem.F.args_dict_items_1 _,_,meets_dict_items _ a hs,⟨vs,dd⟩,?_⟩)⟩
 have kv:∀b q,s1.heap.get? b=some q→(s1.heap.push { cls:= .type "dict_items",data:= .fields #[.ref a] }).get? b=some q:=fun b q e=>Heap.get?_push_of_some _ e
 have da2:(s1.heap.push { cls:= .type "dict_items",data:= .fields #[.ref a] }).DictAt (bF X.prog X.w) a vs ep:=⟨o,es,kv _ _ ho,ex,hd,hr⟩
 refine wpAny_pyIter_items (s:={ s1 with heap:=s1.heap.push { cls:= .type "dict_items",data:= .fields #[.ref a] } }) ⟨_,Heap.get?_push_size _ rfl,rfl,rfl⟩ da2 ?_
 have I3:=I2.kept (t':=s1.toks) kv
 refine⟨(s1.heap.push { cls:= .type "dict_items",data:= .fields #[.ref a] }).objs.size,[(s1.heap.push { cls:= .type "dict_items",data:= .fields #[.ref a] }).objs.size],_,_,_,rfl,I3.kept (t':=s1.toks) fun b o e=>Heap.get?_push_of_some _ e,Aw a _ o kvs hd,?_,fun b hb=>?_,q o (I1.nf hk)⟩
 ·rw[rel.length]
  exact⟨_,_,Heap.get?_push_size _ rfl⟩
 ·have e:b=(s1.heap.push { cls:= .type "dict_items",data:= .fields #[.ref a] }).objs.size:=by simpa using hb
  subst e
  exact I3.z6 (Nat.le_refl _) (I3.aU.fresh (Nat.le_refl _))
end
section
variable {K:PySem.W.Frag} {g:TG} {tt:TT} {te:TE}
theorem DO {J:It} {L:Addr} {Q:Hp→Prop} {σ:St} {H:Hp} (n:Nat) (H0:Hp) (S:St→Prop) (Pv:Nat→List V→Hp→Prop) (Ot:∀i H',i<n→au H0 H'→J.go i H') (qW:∀H',au H0 H'→J.stop n H') (Ao:∀i ys H H',MG L H H'→Pv i ys H→Pv i ys H')
  (An:H0 L=none) (hσ:S σ) (h0:au H0 H) (hL:H L=some (.lst [])) (p0:Pv 0 [] H) (hz:n≤sizeLine) (hl:∀i ys H,Pv i ys H→ys.length≤i)
  (turn:∀i σ H' ys,i<n→S σ→au H0 H'→H' L=some (.lst ys)→Pv i ys H'→∀(N:St→V→Hp→Prop) (M:St→Hp→Prop),(∀σ3 y H5,S σ3→au H0 H5→H5 L=some (.lst ys)→Pv (i+1) (ys++[y]) H5→N σ3 y H5)→(∀σ3 H4,S σ3→au H0 H4→H4 L=some (.lst ys)→Pv (i+1) ys H4→M σ3 H4)→
   ∀x H2,J.pO i H' x H2→g x σ H2 fun σ3 H3=>tt σ3 H3 fun b H4=>if b=true then te σ3 H4 fun y H5=>N σ3 y H5 else M σ3 H4)
  (fin:∀H' ys,au H0 H'→H' L=some (.lst ys)→Pv n ys H'→Q H'):
  ∃W:Nat→Nat→St→Hp→Prop,(∃m,W 0 m σ H)∧∀i m σ H,W i m σ H→(J.stop i H∧Q H)∨(J.go i H∧∀x H2,J.pO i H x H2→g x σ H2 fun σ3 H3=>tt σ3 H3 fun b H4=>if b=true
   then te σ3 H4 fun y H5=>∃ys,H5 L=some (.lst ys)∧ys.length<sizeLine∧∃m',m'<m∧W (i+1) m' σ3 (upd H5 L (.lst (ys++[y])))
   else∃m',m'<m∧W (i+1) m' σ3 H4):=by
 refine⟨fun i m σ H=>m+i=n∧S σ∧au H0 H∧∃ys,H L=some (.lst ys)∧Pv i ys H,⟨n,rfl,hσ,h0,[],hL,p0⟩,?_⟩
 rintro i m σ H ⟨hm,hs,fA,ys,DH,hp⟩
 by_cases hi:i<n
 ·refine .inr ⟨Ot i H hi fA,fun x H2 hy=>turn i σ H ys hi hs fA DH hp _ _ (fun σ3 y H5 k1 k2 k3 k4=>?_) (fun σ3 H4 k1 k2 k3 k4=>?_) x H2 hy⟩
  ·refine⟨ys,k3,by have:=hl i ys H hp;omega,m - 1,by omega,by omega,k1,fun b o e=>?_,ys++[y],af,Ao _ _ _ _ MG.upd k4⟩
   rw[ah (ag e An)];exact k2 b o e
  ·exact⟨m - 1,by omega,by omega,k1,k2,ys,k3,k4⟩
 ·have e:i=n:=by omega
  subst e
  exact .inl ⟨qW H fA,fin H ys fA DH hp⟩
theorem items_go {a:Addr} {ob:Obj} {kvs:List (Key×V)} {H0:Hp} (ha:H0 a=some (.fN ob (.dK kvs))):∀i H',i<kvs.length→au H0 H'→(SV a ob kvs).go i H':=fun _ _ hi e=>⟨e _ _ ha,hi⟩
theorem Ax {a:Addr} {ob:Obj} {kvs:List (Key×V)} {H0:Hp} (ha:H0 a=some (.fN ob (.dK kvs))):∀H',au H0 H'→(SV a ob kvs).stop kvs.length H':=fun _ e=>⟨e _ _ ha,Nat.le_refl _⟩
end
end L2
namespace L2
open PySem PySem.Spec PyProof.Rows PySem.W
section
variable {X:Cx}
theorem tX {P:Program} {w:World}:∀{us:List Value} {ks:List Key},us.length=ks.length→(∀(j:Nat) (k:Key) (u:Value),ks[j]? =some k→us[j]? =some u→(bF P w).is k u=true)→Vals (ks.map kV) us
 | [],[],_,_=> .nil
 | [],_::_,h,_=>by simp at h
 |_::_,[],h,_=>by simp at h
 |u::us,k::ks,h,q=> .cons (vG (q 0 k u rfl rfl)) (tX (by simpa using h) fun j k' u' h1 h2=>q (j+1) k' u' (by simpa using h1) (by simpa using h2))
theorem rf (hc:X.calm=true):gD X (.type "list") (fun xs H Q=>∃p kvs,xs=[.ref p]∧Rd H p (.dK kvs)∧∀l,H l=none→Q (.ref l) (upd H l (.lst (kvs.map fun q=>kV q.1)))):=by
 intro pins s σ H xs us Q I r h
 obtain⟨p,kvs,rfl,hk,q⟩:=h
 obtain⟨u,rfl,ru⟩:=vals1 r
 cases ru
 obtain⟨z,lo,vs,rel,dd⟩:=mz I.aU hk
 obtain⟨ep,da⟩:=dd.dictAt
 have hz:vs.length≤sizeLine:=by rw[←rel.length];exact z
 refine kdl_call (kdl_dict (knd:=bF X.prog X.w) (kvs:=vs) (ep:=ep) lo) (I.ok.hd hc) da hz fun h' tk xs c kp at' its=>?_
 have xQ:kvs.map (·.1)=vs.map (·.1):=rel.keys
 refine⟨.ref s.heap.objs.size,_,I.laid (t':=tk) (o:= .lst (kvs.map fun q=>kV q.1)) kp (Nat.le_refl _) ⟨by rw[List.length_map];exact z,xs.toList,c,?_,at'⟩,rfl,q _ (I.aU.fresh (Nat.le_refl _))⟩
 have e1:(kvs.map fun q=>kV q.1)=(vs.map (·.1)).map kV:=by rw[←xQ,List.map_map];rfl
 rw[e1]
 refine tX (P:=X.prog) (w:=X.w) (by rw[Array.length_toList,its.1,List.length_map]) fun j k u h1 h2=>?_
 obtain⟨k',x,h3,h4⟩:=its.2 j u (by simpa using h2)
 rw[List.getElem?_map,h3] at h1
 cases h1
 exact h4
end
end L2
namespace L2
open PySem PySem.Spec PyProof.Rows
section
variable {P:Program} {w:World} {K:PySem.W.Frag} {mg:Str→Option Value} {base:Heap}
def KH (K:PySem.W.Frag) (C:Addr) (q:Str) (st:Stmt) (ps:List Str):Prop:=∃f fd dV,yj K "__init__" q st f fd dV∧Mk K C f∧Binds K fd ps []∧Binds K fd ps [.none]
structure CalN (P:Program) (w:World) (K:PySem.W.Frag) (mg:Str→Option Value) (base:Heap) (CX:BE) (k:Nat) (C:Addr) (ps:List Str) (sp:Sp) (f:Addr) (fd:FuncData):Prop where
 ok:fu P w K mg base CX k f fd ps sp
 m:Mk K C f
 b0:Binds K fd ps []
 b1:Binds K fd ps [.none]
def Gn (P:Program) (w:World) (K:PySem.W.Frag) (mg:Str→Option Value) (base:Heap) (CX:BE) (k:Nat) (C:Addr) (ps:List Str) (sp:Sp):Prop:=∃f fd,CalN P w K mg base CX k C ps sp f fd
theorem KH.di {C:Addr} {q:Str} {st:Stmt} {N ps:List Str} {k:Nat} {sp:Sp} (D:KH K C q st ps) (S:ax N ps (aj st)) (len:∀vs H Q E,sp vs H Q E→vs.length=ps.length)
  (dv:∀(f:Addr) (bj:Value) (A:Around) (outer:List Env) (s:Shared) (H:Hp) (vs:List V) (Q:VK) (E:XK),cV k (A.deeper (envOfC q (aj st) s.heap.objs.size f bj))→sp vs H Q E→
   ∃t,lU (jz qO P w K mg base N q (aj st) f bj A outer s H E).FA (aS st) t∧t { nx:=fun _ H'=>Q .cU H',rt:=Q } (start N vs) H):Gn P w K mg base qO (k+1) C ps sp:=by
 obtain⟨f,fd,dV,F,g,b0,b1⟩:=D
 exact⟨f,fd,F.ok S len (dv f),g,b0,b1⟩
theorem vn_1:Vals [V.cU] [Value.none]:= .cons rfl .nil
end
end L2
namespace PySem.W
open PySem PySem.Spec PySem.Calls PyProof.Rows
section
variable {prog:Program} {w:World} {A:Around} {E:Value→Shared→Prop} {s:Shared} {K:Frag} {e C HE f:Addr} {ox:Obj} {od:Option Obj}
theorem yr {name:Str} {a g:Value} (hc:(clsIn K C).isSome=true) (ha:findIn K (.ref C) name=some (some a)) (hg:specialIn K a "__get__" =some (some g)) (ht:takesIn K a=some true):findObj K C od name=some (.bind g a):=by
 obtain⟨cd,hc⟩:=Option.isSome_iff_exists.mp hc
 unfold findObj
 rw[hc,Option.bind_some,ha,Option.bind_some]
 simp [hg,ht]
theorem Gp {Q:Option Value→Shared→Prop} (X:K.In s.heap) (Z:fg K C HE f) (I:InstAt s.heap e ox C od) (hf:findObj K C od "__class__" =some (.bind (.builtin "getset_descriptor.__get__") (.builtin "object.__class__")))
  (h:Q (some (.ref C)) { s with toks:=s.toks+1 }):wpAny (model prog w) A (getAttr? (.ref e) "__class__") Q E s:=by
 have T0:=I.type (M:=model prog w)
 have SG:=PySem.F.attr_ValueError.ga
 unfold getAttr? getAttrBy? getAttrBy
 refine wpAny_bind (wpAny_mkText (wpAny_bind (wpAny_attempt (wpAny_holding (wpAny_bind (T0 _ _ _ _ (fun _ _ y=>y) (wpAny_bind (looks_findIn X Z.ga _ _ _ _ (fun _ _ y=>y) ?_))))))))
 dsimp only
 rw[show (onTheHeap (Value.ref C)&&Value.builtin "BaseException.__getattribute__" ==Value.builtin "object.__getattribute__")=false from by rw[show (Value.builtin "BaseException.__getattribute__" ==Value.builtin "object.__getattribute__")=false from by decide+kernel,Bool.and_false],if_neg (by decide)]
 refine wpAny_bind (looks_hook X (show (if onTheHeap (Value.ref C) then findIn K (.ref C) "__getattr__" else some none)=some none from Z.gh) _ _ _ _ (fun _ _ y=>y) (wpAny_bind (wpAny_attempt (wpAny_holding ?_))))
 unfold callGetattribute
 rw[show (false&&onTheHeap (Value.builtin "BaseException.__getattribute__"))=false from rfl,if_neg (by decide)]
 unfold boundAndCalled
 rw[SG.bind]
 refine wpAny_bind (wpAny_pure ?_)
 show wpAny _ _ (call (.builtin "BaseException.__getattribute__") [.ref e, .str "__class__" s.toks]) _ _ _
 refine wpAny_call (codeAny_call_builtin SG.plain PySem.F.entry_bexc_ga ?_)
 refine @check_slot (model prog w) _ _ { s with toks:=s.toks+1 } "BaseException.__getattribute__" "BaseException" "__getattribute__" (.ref e) [.str "__class__" s.toks] [] _ (by decide+kernel) (by decide+kernel) (T0.andThen (looks_mroIn X (Z.mro (by decide+kernel)))) (PySem.F.args_bexc_ga _ _) ?_
 have l1:=looks_find (M:=model prog w) X I hf
 unfold Builtin.«object.__getattribute__»
 refine wpAny_bind (wpAny_of_eq (a:=(Value.ref e,[Value.str "__class__" s.toks])) rfl ?_)
 refine wpAny_bind (wpAny_pure (a:=("__class__" :Str)) (wpAny_bind (T0 _ _ _ _ (fun _ _ y=>y) (wpAny_bind (l1 _ _ _ _ (fun _ _ y=>y) ?_)))))
 show wpAny _ _ (holding [Value.builtin "object.__class__"] (call (.builtin "getset_descriptor.__get__") [.builtin "object.__class__", .ref e, .ref C]) >>= ret) _ _ _
 refine wpAny_bind (wpAny_holding (wpAny_call (class_get (s:={ s with toks:=s.toks+1 }) (ox:=ox) (od:=od) X I (Z.mro (by decide+kernel)) ?_)))
 refine wpAny_pure ?_
 show wpAny _ _ (handedOut (Value.ref C)) _ _ _
 rw[handedOut_of rfl]
 exact wpAny_pure (wpAny_pure h)
theorem Gq (Z:fg K C HE f) (ha:findIn K (.ref C) "__class__" =some (some (.builtin "object.__class__"))) (hn:specialIn K (.builtin "object.__class__") "__get__" =some (some (.builtin "getset_descriptor.__get__"))) (xP:takesIn K (.builtin "object.__class__")=some true):
  KitX K (.ref e) (.ref C) (fun h=>InstAt h e ox C od) where
 ty:=fun _ _ _ I=>I.type
 it:=fun _ _ X _=>by
  obtain⟨cdD,J1,_⟩:=Z.cd
  unfold clsIn at J1
  split at J1
  ·rename_i c' d' cd' NR ho
   intro A' Q' E' s' k q
   unfold isType loadHead
   exact wpAny_bind (wpAny_loadPart (k _ _ (X _ _ ho)) (wpAny_pure q))
  ·cases J1
 ne:=fun h tp dd its n sl X OL=>by
  obtain⟨cdD,J1,_⟩:=Z.cd
  refine Bool.eq_false_iff.mpr fun q=>?_
  have e:C=tp:=Value.ref.inj (beq_iff_eq.mp q)
  subst e
  unfold clsIn at J1
  split at J1
  ·rename_i c' d' cd' NR ho
   have z:=(X _ _ ho).symm.trans OL
   cases z
  ·cases J1
 ca:=fun X I k=>Gp X Z I (yr (by obtain⟨cd,hc,_⟩:=Z.cd;rw[hc];rfl) ha hn xP) k
end
end PySem.W
namespace L2
open PySem PySem.Spec PyProof.Rows
def KI (H:Hp) (e C:Addr):Prop:=H e=some (Ar e C none)∨∃dx fs,H e=some (Ar e C (some dx))∧H dx=some (zR dx fs)
structure XIs (K:PySem.W.Frag) (C:Addr):Prop where
 cls:PySem.W.findIn K (.ref C) "__class__" =some (some (.builtin "object.__class__"))
 get:PySem.W.specialIn K (.builtin "object.__class__") "__get__" =some (some (.builtin "getset_descriptor.__get__"))
 takes:PySem.W.takesIn K (.builtin "object.__class__")=some true
theorem bX {X:Cx}:gD X (.builtin "isinstance") (fun xs H Q=>∃e c cv C HE f b,xs=[.ref e,c]∧Kh c=some cv∧PySem.W.fg X.K C HE f∧XIs X.K C∧KI H e C∧PySem.W.kitOne X.K (.ref C) cv=some b∧Q (.bl b) H):=by
 intro pins s σ H xs us Q I r h
 obtain⟨e,c,cv,C,HE,f,b,rfl,hc,Z,Y,hE,ek,q⟩:=h
 obtain⟨u,v,rfl,ru,rv⟩:=vals2 r
 have hv:v=cv:=by
  cases c<;>simp only [Kh,Option.some.injEq,reduceCtorEq] at hc
  ·cases (show v=Value.ref _ from rv);exact hc
  ·cases (show v=Value.type _ from rv);exact hc
 subst hv
 cases (show u=Value.ref e from ru)
 have J:∃ob od,PySem.W.InstAt s.heap e ob C od:=by
  rcases hE with hx| ⟨dx,fs,hx,hd⟩
  ·obtain⟨ob,vs,h1,h2,h3,h4⟩:=q5 I.aU hx
   exact⟨ob,none,h1,h2,by unfold PySem.W.notCls;rw[h4],by rw[h3];trivial⟩
  ·obtain⟨ob,vs,h1,h2,h3,h4⟩:=q5 I.aU hx
   obtain⟨mA,n1,r1,w1⟩:=As I.aU hd
   obtain⟨od,ho,hl⟩:=oa n1
   exact⟨ob,some od,h1,h2,by unfold PySem.W.notCls;rw[h4],by rw[h3];exact ho⟩
 obtain⟨ob,od,J⟩:=J
 exact PySem.W.kia_one (PySem.W.Gq Z Y.cls Y.get Y.takes) I.ju J ek (fun z=>nomatch z) fun tk=>⟨.bl b,H,I.tok tk,rfl,q⟩
end L2
namespace Y'
open PySem PySem.Spec PySem.Builtin PySem.Builtin.Str
end Y'
namespace L2
open PySem PySem.Spec PyProof.Rows
section
variable {X:Cx}
theorem sU:bootBuiltins "ValueError" =some (.type "ValueError"):=by decide+kernel
end
section
variable {X:Cx}
theorem OM (K:PySem.W.Frag) (hK:X.K=K) {x n:Str} {np pos:Pos} {b0:Stmt} {yq:List Stmt} {rest:List ExceptHandler} {PC:Addr} {i:Nat} {ts:TS} {tr:Ends→St→XK} (hg:Gl X x) (hm:X.mg x=some (.ref PC)) (Y:PySem.W.KA K PC) (hN:X.N.Nodup) (hi:X.N[i]? =some n)
  (hl:X.env.scope.names.lookup n=some .local) (hsu:∀e,lU (X.mark e) (b0::yq) ts) (hr:PH X rest tr) (hd:(x==("__debug__" :Str))=false:=by decide):
  PH X (.ExceptHandler (some (.Name x np)) (some n) (b0::yq) pos::rest) (SR K PC i ts tr):=by
 subst hK
 exact SS hg hm Y hN hi hl hsu hr hd
end
section
variable {P:Program} {w:World} {K:PySem.W.Frag} {mg:Str→Option Value} {base:Heap}
structure CalX (P:Program) (w:World) (K:PySem.W.Frag) (mg:Str→Option Value) (base:Heap) (k:Nat) (x:Str) (ps:List Str) (sp:Sp) (f:Addr) (fd:FuncData):Prop where
 ok:fu P w K mg base (zS P w) k f fd ps sp
 kp:PySem.W.keepIn K (.ref f)=true
 b:Binds K fd ps []
 g:mg x=some (.ref f)
def Gs (P:Program) (w:World) (K:PySem.W.Frag) (mg:Str→Option Value) (base:Heap) (k:Nat) (x:Str) (ps:List Str) (sp:Sp):Prop:=∃f fd,CalX P w K mg base k x ps sp f fd
structure SW (P:Program) (w:World) (K:PySem.W.Frag) (mg:Str→Option Value) (base:Heap) (k:Nat) (C:Addr) (m:Str) (ps:List Str) (sp:Sp) (f:Addr) (fd:FuncData):Prop where
 ok:fu P w K mg base (zS P w) k f fd ps sp
 m:Meth K C m f
 b:Binds K fd ps []
def Ay (P:Program) (w:World) (K:PySem.W.Frag) (mg:Str→Option Value) (base:Heap) (k:Nat) (C:Addr) (m:Str) (ps:List Str) (sp:Sp):Prop:=∃f fd,SW P w K mg base k C m ps sp f fd
theorem Def.Gu {x q:Str} {st:Stmt} {N ps:List Str} {k:Nat} {sp:Sp} (D:Def K mg x q st ps) (S:ax N ps (aj st)) (len:∀vs H Q E,sp vs H Q E→vs.length=ps.length)
  (dv:∀(f:Addr) (bj:Value) (A:Around) (outer:List Env) (s:Shared) (H:Hp) (vs:List V) (Q:VK) (E:XK),cV k (A.deeper (envOfC q (aj st) s.heap.objs.size f bj))→sp vs H Q E→
   ∃t,lU (JI P w K mg base N q (aj st) f bj A outer s H E) (aS st) t∧t { nx:=fun _ H'=>Q .cU H',rt:=Q } (start N vs) H):Gs P w K mg base (k+1) x ps sp:=by
 obtain⟨f,fd,F,b,g⟩:=D
 exact⟨f,fd,F.Gf S len (dv f),F.kp,b,g⟩
theorem a9.Gu {C:Addr} {m q:Str} {st:Stmt} {N ps:List Str} {k:Nat} {sp:Sp} (D:a9 K C m q st ps) (S:ax N ps (aj st)) (len:∀vs H Q E,sp vs H Q E→vs.length=ps.length)
  (dv:∀(f:Addr) (bj:Value) (A:Around) (outer:List Env) (s:Shared) (H:Hp) (vs:List V) (Q:VK) (E:XK),cV k (A.deeper (envOfC q (aj st) s.heap.objs.size f bj))→sp vs H Q E→
   ∃t,lU (JI P w K mg base N q (aj st) f bj A outer s H E) (aS st) t∧t { nx:=fun _ H'=>Q .cU H',rt:=Q } (start N vs) H):Ay P w K mg base (k+1) C m ps sp:=by
 obtain⟨f,fd,F,b,g⟩:=D
 exact⟨f,fd,F.Gf S len (dv f),g,b⟩
def BP (K:PySem.W.Frag) (C:Addr) (m q:Str) (st:Stmt) (ps:List Str) (ds:List Int):Prop:=∃f fd dV,yj K m q st f fd dV∧Meth K C m f∧∀j,j≤ds.length→∃us,Vals ((ds.drop j).map V.int) us∧Binds K fd ps us
structure ON (P:Program) (w:World) (K:PySem.W.Frag) (mg:Str→Option Value) (base:Heap) (k:Nat) (C:Addr) (m:Str) (ps:List Str) (ds:List Int) (sp:Sp) (f:Addr) (fd:FuncData):Prop where
 ok:fu P w K mg base (zS P w) k f fd ps sp
 m:Meth K C m f
 bs:∀j,j≤ds.length→∃us,Vals ((ds.drop j).map V.int) us∧Binds K fd ps us
def vV (P:Program) (w:World) (K:PySem.W.Frag) (mg:Str→Option Value) (base:Heap) (k:Nat) (C:Addr) (m:Str) (ps:List Str) (ds:List Int) (sp:Sp):Prop:=∃f fd,ON P w K mg base k C m ps ds sp f fd
theorem BP.Gu {C:Addr} {m q:Str} {st:Stmt} {N ps:List Str} {ds:List Int} {k:Nat} {sp:Sp} (D:BP K C m q st ps ds) (S:ax N ps (aj st)) (len:∀vs H Q E,sp vs H Q E→vs.length=ps.length)
  (dv:∀(f:Addr) (bj:Value) (A:Around) (outer:List Env) (s:Shared) (H:Hp) (vs:List V) (Q:VK) (E:XK),cV k (A.deeper (envOfC q (aj st) s.heap.objs.size f bj))→sp vs H Q E→
   ∃t,lU (JI P w K mg base N q (aj st) f bj A outer s H E) (aS st) t∧t { nx:=fun _ H'=>Q .cU H',rt:=Q } (start N vs) H):vV P w K mg base (k+1) C m ps ds sp:=by
 obtain⟨f,fd,dV,F,g,b⟩:=D
 exact⟨f,fd,F.Gf S len (dv f),g,b⟩
def Gv (K:PySem.W.Frag) (mg:Str→Option Value) (x:Str) (C HE:Addr) (q:Str) (st:Stmt) (ps:List Str):Prop:=∃f fd,Fe K "__init__" q st f fd∧PySem.W.fg K C HE f∧Binds K fd ps []∧mg x=some (.ref C)∧PySem.W.keepIn K (.ref C)=true
structure SX (P:Program) (w:World) (K:PySem.W.Frag) (mg:Str→Option Value) (base:Heap) (k:Nat) (x:Str) (C HE:Addr) (ps:List Str) (sp:Sp) (f:Addr) (fd:FuncData):Prop where
 ok:fu P w K mg base qO k f fd ps sp
 z:PySem.W.fg K C HE f
 b:Binds K fd ps []
 g:mg x=some (.ref C)
 kp:PySem.W.keepIn K (.ref C)=true
def Az (P:Program) (w:World) (K:PySem.W.Frag) (mg:Str→Option Value) (base:Heap) (k:Nat) (x:Str) (C HE:Addr) (ps:List Str) (sp:Sp):Prop:=∃f fd,SX P w K mg base k x C HE ps sp f fd
theorem Gv.di {x q:Str} {C HE:Addr} {st:Stmt} {N ps:List Str} {k:Nat} {sp:Sp} (D:Gv K mg x C HE q st ps) (S:ax N ps (aj st)) (len:∀vs H Q E,sp vs H Q E→vs.length=ps.length)
  (dv:∀(f:Addr) (bj:Value) (A:Around) (outer:List Env) (s:Shared) (H:Hp) (vs:List V) (Q:VK) (E:XK),cV k (A.deeper (envOfC q (aj st) s.heap.objs.size f bj))→sp vs H Q E→
   ∃t,lU (jz qO P w K mg base N q (aj st) f bj A outer s H E).FA (aS st) t∧t { nx:=fun _ H'=>Q .cU H',rt:=Q } (start N vs) H):Az P w K mg base (k+1) x C HE ps sp:=by
 obtain⟨f,fd,F,Z,b,g,kp⟩:=D
 exact⟨f,fd,F.ok S len (dv f),Z,b,g,kp⟩
end
end L2
namespace Y'
open PySem PySem.Spec PySem.Calls PyProof.Rows
section
variable {prog:Program} {w:World} {A:Around} {I:Addr} {fp wr:List Addr} {n:Nat} {P:Nat→Value→Prop} {St:Nat→Heap→Prop}
def SY (P:Nat→Value→Prop) (bt:Nat→Nat→Bool) (i:Nat) (old:Array Value):Prop:=(i=0∧old=#[])∨∃j vb,i=j+1∧old=#[vb,vb]∧P (argBest bt j) vb
theorem KJ {R:Result→Shared→Prop} {d:Value} {key:Str} (W:Walks prog w A.in1 I fp wr n P St) (bt:Nat→Nat→Bool) (hcmp:CmpOf prog w A.in1 .Lt P bt) (S:Addr) (hSf:S∉fp) (k:Nat):
  ∀(i:Nat) (s:Shared) (old:Array Value) (c:Nat),i+k=n→St i s.heap→SY P bt i old→s.heap.get? S=some { cls:= .type "list",dict:=none,data:= .seq old c,slots:=#[] }→
  (∀v h' tk,(n=0∧v=d∨0<n∧P (argBest bt (n - 1)) v)→(∀b o,b∉wr→b≠S→s.heap.get? b=some o→h'.get? b=some o)→R (.ok (.ret v)) { s with heap:=h',toks:=tk })→
  codeAny (model prog w) A (.builtin "min.loop" ⟨[.ref I, .none, .ref S],[(key,d)]⟩) R s:=by
 have hSw:S∉wr:=fun h=>hSf (W.sub _ h)
 have nm:(toString "min" ++toString ".loop" :String)="min.loop" :=by decide
 have oth:∀{h:Heap} {f:Obj→Obj} {b:Addr} {o:Obj},b≠S→h.get? b=some o→(h.update S f).get? b=some o:=fun hb e=>(Heap.get?_update_other _ _ (Ne.symm hb)).trans e
 induction k with
 |zero=>
  intro i s old c hi fO hB hS hR
  have tY:i=n:=by omega
  refine codeAny_builtin F.entry_min_loop ?_
  rw[Around.under_plainId F.plain_min_loop]
  refine wpAny_bind (wpAny_seqItems hS rfl (wpAny_bind (wpAny_tryCatch (W.done s _ _ (tY▸fO) fun h' tk MN=>?_))))
  rcases hB with ⟨rfl,rfl⟩ | ⟨j,vb,rfl,rfl,hP⟩
  ·exact wpAny_bind (wpAny_rule (wpAny_pure (hR d h' tk (.inl ⟨tY.symm,rfl⟩) fun b o hb _ e=>MN b o hb e)))
  ·refine wpAny_bind (wpAny_updateSeq (MN S _ hSw hS) rfl (wpAny_bind (wpAny_letGo (wpAny_pure ?_))))
   exact hR vb _ tk (.inr ⟨by omega,by rw[←tY];exact hP⟩) fun b o hb Za e=>oth Za (MN b o hb e)
 |succ k ih=>
  intro i s old c hi fO hB hS hR
  have sN:i<n:=by omega
  refine codeAny_builtin F.entry_min_loop ?_
  rw[Around.under_plainId F.plain_min_loop]
  refine wpAny_bind (wpAny_seqItems hS rfl (wpAny_bind (wpAny_tryCatch (W.item i s _ _ sN fO fun v h' tk hP hst' MN=>?_))))
  have S0:=MN S _ hSw hS
  have OO:∀{h2:Heap} {new:Array Value} {c2:Nat},(∀b o,b≠S→h'.get? b=some o→h2.get? b=some o)→SY P bt (i+1) new→h2.get? S=some { cls:= .type "list",dict:=none,data:= .seq new c2,slots:=#[] }→
    codeAny (model prog w) A (.builtin "min.loop" ⟨[.ref I, .none, .ref S],[(key,d)]⟩) R { s with heap:=h2,toks:=tk }:=fun {h2 new c2} k2 b2 s2=>
   ih (i+1) _ new c2 (by omega) (W.frame _ _ _ hst' fun b hb o e=>k2 b o (fun z=>hSf (z▸hb)) e) b2 s2 fun v' h3 t3 hP3 Rk=>hR v' h3 t3 hP3 fun b o hb Za e=>Rk b o hb Za (k2 b o Za (MN b o hb e))
  rcases hB with ⟨rfl,rfl⟩ | ⟨j,vb,rfl,rfl,hPb⟩
  ·show wpAny _ A.in1 (updateSeq S (fun _=>#[v,v]) >>= _) _ _ _
   refine wpAny_bind (wpAny_updateSeq S0 rfl ?_)
   rw[nm]
   exact wpAny_pure ⟨plainId_quiet F.plain_min_loop _,OO (fun b o hb e=>oth hb e) (.inr ⟨0,v,rfl,rfl,hP⟩) (Heap.get?_update_self _ S0 rfl)⟩
  ·refine wpAny_bind (wpAny_pure ?_)
   refine wpAny_bind (wpAny_tryCatch (wpAny_holding (wpAny_bind (hcmp (j+1) (argBest bt j) v vb _ _ _ hP hPb (wpAny_bind (wpAny_holding (wpAny_truthy_bool (wpAny_bind (wpAny_letGo (wpAny_pure ?_))))))))))
   cases hb:bt (j+1) (argBest bt j) with
   |true=>
    simp only [if_true]
    refine wpAny_bind (wpAny_updateSeq S0 rfl (wpAny_bind (wpAny_letGo ?_)))
    rw[nm]
    exact wpAny_pure ⟨plainId_quiet F.plain_min_loop _,OO (fun b o DG e=>oth DG e) (.inr ⟨j+1,v,rfl,rfl,by simp only [argBest,hb,if_true];exact hP⟩) (Heap.get?_update_self _ S0 rfl)⟩
   |false=>
    simp only [Bool.false_eq_true,if_false]
    refine wpAny_bind (wpAny_letGo ?_)
    rw[nm]
    exact wpAny_pure ⟨plainId_quiet F.plain_min_loop _,OO (fun b o _ e=>e) (.inr ⟨j+1,vb,rfl,rfl,by simp only [argBest,hb,Bool.false_eq_true,if_false];exact hPb⟩) S0⟩
end
section
variable {prog:Program} {w:World} {A:Around} {E:Value→Shared→Prop} {s:Shared} {l:Addr} {xs:Array (Int×Tok)} {d:Value}
theorem OP {args:List Value} {kw:List (Str×Value)} {Q:Value→Shared→Prop} (ha:argsOk "min" ⟨args,kw⟩)
  (hc:wpAny (model prog w) A.in1 (Builtin.«min» ⟨args,kw⟩) (fun fin s'=>match fin with
   | .done f=>(match (Except.ok f:Result) with| .ok (.ret v)=>Q v s'| .ok _=>False| .error e=>E e s')
   | .again c'=>c'.quiet=true∧codeAny (model prog w) A c' (fun r s'=>match r with| .ok (.ret v)=>Q v s'| .ok _=>False| .error e=>E e s') s') E s):wpAny (model prog w) A (call (.builtin "min") args kw) Q E s:=by
 refine wpAny_call (codeAny_call_builtin F.plain_min F.entry_min ?_)
 rw[checkBuiltinCall,F.kind_min]
 unfold argsOk at ha
 cases hs:Manifest.signature? "min" with
 |none=>exact wpAny_pure hc
 |some sig=>
  rw[hs] at ha
  have ha:Bind.checkArgs "min" sig ⟨args,kw⟩=pure ():=ha
  dsimp only
  rw[ha]
  exact wpAny_pure hc
theorem DP (a v:Value):argsOk "min" ⟨[a],[(Str.ofString "default",v)]⟩:=by unfold argsOk;kernel_rfl
theorem DQ {Q:Value→Shared→Prop} (hh:A.handled=none) (hl:s.heap.IsList l (intItems xs))
  (h:∀v h' tk,(xs.size=0∧v=d∨0<xs.size∧(intItems xs)[argBest (fun i j=>decide (numAt xs i<numAt xs j)) (xs.size - 1)]? =some v)→(∀b o,s.heap.get? b=some o→h'.get? b=some o)→Q v { s with heap:=h',toks:=tk }):
  wpAny (model prog w) A (call (.builtin "min") [.ref l] [(Str.ofString "default",d)]) Q E s:=by
 have nm:(toString "min" ++toString ".loop" :String)="min.loop" :=by decide
 refine OP (DP _ _) ?_
 show wpAny _ A.in1 (Builtin.Builtins.bindParams "min" ["key","default"] 0 ⟨[],[(Str.ofString "default",d)]⟩ >>= _) _ _ s
 refine wpAny_bind (wpAny_of_eq (show Builtin.Builtins.bindParams "min" ["key","default"] 0 ⟨[],[(Str.ofString "default",d)]⟩=pure [none,some d] from rfl) (wpAny_bind (wpAny_pure (wpAny_bind (iter_intList hl fun s₂ e st hfp hlI=>?_)))))
 subst e
 refine wpAny_bind (wpAny_newObj_type ?_)
 rw[nm]
 have W:=Walks.list (prog:=prog) (w:=w) (A:=A.in1) hh s.heap.objs.size l hlI (intItems xs)
 refine wpAny_pure ⟨plainId_quiet F.plain_min_loop _,KJ W (fun i j=>decide (numAt xs i<numAt xs j)) (CmpOf.ints_lt (numAt xs) (fun _ _=>intItems_at)) _ (fun hm=>Nat.lt_irrefl _ (hfp _ hm)) (intItems xs).size 0 _ #[] _ (Nat.zero_add _) (W.frame _ _ _ st fun b _ o e=>Heap.get?_push_of_some _ e) (.inl ⟨rfl,rfl⟩) (Heap.get?_push_size _ rfl) fun v h' tk hP hk=>?_⟩
 refine h v h' tk ?_ (old_kept fun b o hb e=>hk b o hb (Nat.ne_of_lt (Heap.lt_size e)) (Heap.get?_push_of_some _ e))
 have ez:(intItems xs).size=xs.size:=by simp [intItems]
 rw[ez] at hP
 exact hP
end
end Y'
namespace L2
open PySem PySem.Spec PyProof.Rows
section
variable {X:Cx}
def S1 (K:PySem.W.Frag) (t:TA):TE:=fun σ H Q=>t σ H fun vs H1=>∃q,∃ns:List Int,vs=[.ref q]∧b5 K H1 q (ns.map V.int)∧(ns=[]→Q .cU H1)∧∀M,M∈ns→(∀a∈ns,M≤a)→Q (.int M) H1
theorem KL {e:Expr} {t:TA} {p pos kp R9:Pos} {j} (hc:X.calm=true) (hg:Gl X "min") (hm:X.mg "min" =none) (ha:PA X [e] t)
  (he:backTo pos (starEach [e] X.env)=[(false,eval e X.env)]:=by rfl):PE X (.Call (.Name "min" p) [e] [⟨some "default", .Constant .none j R9,kp⟩] pos) (S1 X.K t):=by
 intro pins s σ H Q I h
 refine wpAny_Call_Name_kw (nZ I hg hm Ov ?_)
 refine callWith_kw (bZ (ha pos pins s σ H _ I h) fun us s1 ⟨vs,H1,I1,r1,q,ns,ev,hS,q0,q1⟩=>kws_cons (bZ (vw pins s1 σ H1 (fun v H'=>v= .cU∧H'=H1) I1 ⟨rfl,rfl⟩) fun u s2 ⟨v,H2,I2,r2,ev2,eH⟩=>kws_nil ?_)) (by rw[he];rfl) (by rw[he];rfl)
 subst ev ev2 eH
 cases (show u=Value.none from r2)
 obtain⟨u1,rfl,ru⟩:=vals1 r1
 cases ru
 obtain⟨its,rv,pl,hz⟩:=I2.list hS
 have hi:IntsAre its ns:=intsAre_of rv
 obtain⟨xs,ex⟩:=hi.allInts.items
 have zO:ns=xs.toList.map (·.1):=by rw[←hi.numsOf,←nums_intItems,←ex]
 have hl:s2.heap.IsList q (intItems xs):=ex▸pl.isList
 refine Y'.DQ (I2.ok.hd hc) hl fun v h' tk hv hk=>?_
 rcases hv with ⟨h0,rfl⟩ | ⟨hp,hv⟩
 ·refine⟨.cU,H2,I2.kept hk,rfl,q0 ?_⟩
  rw[zO,List.map_eq_nil_iff]
  exact List.eq_nil_of_length_eq_zero (by rw[Array.length_toList];exact h0)
 ·obtain⟨t,rfl⟩:=intItems_at hv
  obtain⟨g1,g2⟩:=argBest_lt (numAt xs) (xs.size - 1)
  refine⟨.int _,H2,I2.kept hk,⟨t,rfl⟩,q1 _ ?_ fun a ha=>?_⟩
  ·rw[zO,numAt_eq];exact getD_mem (by rw[List.length_map,Array.length_toList];omega)
  ·rw[zO] at ha
   obtain⟨i,hi',rfl⟩:=mem_getD ha
   rw[List.length_map,Array.length_toList] at hi'
   rw[←numAt_eq];exact g2 i (by omega)
end
end L2
namespace L2
open PySem PySem.Spec
section
variable {X:Cx}
def tJ (t:TE):TE:=fun σ H Q=>∃Pm:V→Hp→Prop,t σ H Pm∧∀x H',Pm x H'→Q x H'
theorem KN {e:Expr} {t:TE} (h:PE X e t):PE X e (tJ t):=fun pins s σ H Q I ⟨Pm,hp,hq⟩=>
 bZ (h pins s σ H Pm I hp) fun _ _ ⟨x,H1,I1,r,p⟩=>⟨x,H1,I1,r,hq x H1 p⟩
end
end L2
namespace L2
open PySem PySem.Spec
theorem gM {K:PySem.W.Frag} {C P:Addr} (h1:PySem.W.isClsIn K P=true) (h2:PySem.W.typeIn K (.ref P)=some (.type "type")) (h3:PySem.W.mroIn K C (.ref P)=some false) (h4:PySem.W.mroIn K C (.ref C)=some true):PySem.W.kitOne K (.ref C) (.ref P)=some false:=by
 have oA:¬(Value.ref C==Value.ref P)=true:=fun e=>by
  have e:Value.ref C=Value.ref P:=by simpa using e
  rw[←e,h4] at h3
  cases h3
 unfold PySem.W.kitOne
 rw[if_neg oA]
 unfold PySem.W.kitCls
 dsimp only
 rw[if_pos (by rw[show (PySem.W.clsIn K P).isSome=true from h1,h2,Bool.true_and];decide+kernel)]
 exact h3
theorem KO {K:PySem.W.Frag} {C HE f:Addr} (Z:PySem.W.fg K C HE f):PySem.W.kitOne K (.ref C) (.type "ValueError")=some true:=by
 unfold PySem.W.kitOne
 rw[if_neg (by simp)]
 unfold PySem.W.kitCls
 dsimp only
 rw[if_pos (by decide+kernel)]
 exact Z.mro (by decide+kernel)
theorem Gw {K:PySem.W.Frag} (v:Value):PySem.W.kitOne K v v=some true:=by
 unfold PySem.W.kitOne
 rw[if_pos (by simp)]
end L2
namespace L2
open PySem PySem.Spec PyProof.Rows
section
variable {K:PySem.W.Frag} {h:Heap} {mg:Str→Option Value} {x m q:Str} {st:Stmt} {ps:List Str} {f C HE:Addr}
def dM (K:PySem.W.Frag) (x q:Str) (st:Stmt) (f:Addr):Prop:=(∃fd,Fe K x q st f fd)∧PySem.W.isFn K (.ref f)=true
def BA (x q:Str) (st:Stmt) (ps:List Str):Prop:=∀(kV doc pm:Value) (an:Option Addr) (bj ct:Value) (us:List Value),us.length=ps.length→bindArgs (PySem.W.fnOf x q (br st) (aS st) (aj st) .none kV doc pm an bj ct) ⟨us,[]⟩=pure (ps.zip us)
theorem gF {p0:Str} (h:∀(kV doc pm:Value) (an:Option Addr) (bj ct u0:Value),bindArgs (PySem.W.fnOf x q (br st) (aS st) (aj st) .none kV doc pm an bj ct) ⟨[u0],[]⟩=pure [(p0,u0)]):BA x q st [p0]:=fun kV doc pm an bj ct us hl=>match us,hl with| [u0],_=>h kV doc pm an bj ct u0
theorem pX {p0 p1:Str} (h:∀(kV doc pm:Value) (an:Option Addr) (bj ct u0 u1:Value),bindArgs (PySem.W.fnOf x q (br st) (aS st) (aj st) .none kV doc pm an bj ct) ⟨[u0,u1],[]⟩=pure [(p0,u0),(p1,u1)]):BA x q st [p0,p1]:=fun kV doc pm an bj ct us hl=>match us,hl with| [u0,u1],_=>h kV doc pm an bj ct u0 u1
theorem S2 {p0 p1 p2:Str} (h:∀(kV doc pm:Value) (an:Option Addr) (bj ct u0 u1 u2:Value),bindArgs (PySem.W.fnOf x q (br st) (aS st) (aj st) .none kV doc pm an bj ct) ⟨[u0,u1,u2],[]⟩=pure [(p0,u0),(p1,u1),(p2,u2)]):BA x q st [p0,p1,p2]:=fun kV doc pm an bj ct us hl=>match us,hl with| [u0,u1,u2],_=>h kV doc pm an bj ct u0 u1 u2
theorem ba4 {p0 p1 p2 p3:Str} (h:∀(kV doc pm:Value) (an:Option Addr) (bj ct u0 u1 u2 u3:Value),bindArgs (PySem.W.fnOf x q (br st) (aS st) (aj st) .none kV doc pm an bj ct) ⟨[u0,u1,u2,u3],[]⟩=pure [(p0,u0),(p1,u1),(p2,u2),(p3,u3)]):BA x q st [p0,p1,p2,p3]:=fun kV doc pm an bj ct us hl=>match us,hl with| [u0,u1,u2,u3],_=>h kV doc pm an bj ct u0 u1 u2 u3
theorem ba5 {p0 p1 p2 p3 p4:Str} (h:∀(kV doc pm:Value) (an:Option Addr) (bj ct u0 u1 u2 u3 u4:Value),bindArgs (PySem.W.fnOf x q (br st) (aS st) (aj st) .none kV doc pm an bj ct) ⟨[u0,u1,u2,u3,u4],[]⟩=pure [(p0,u0),(p1,u1),(p2,u2),(p3,u3),(p4,u4)]):BA x q st [p0,p1,p2,p3,p4]:=fun kV doc pm an bj ct us hl=>match us,hl with| [u0,u1,u2,u3,u4],_=>h kV doc pm an bj ct u0 u1 u2 u3 u4
theorem dB {N P:List Str} {sc:Scope} (a:sc.kind= .function:=by rfl) (b:sc.isCoroutine=false:=by rfl) (c:sc.isGenerator=false:=by rfl) (d:N.Nodup:=by decide+kernel) (e:N.take P.length=P:=by rfl) (f:∀x∈P,sc.names.lookup x=some .local∨sc.names.lookup x=some .cell:=by decide+kernel) (g:∀y∈sc.names,y.2≠ .free:=by decide+kernel):ax N P sc:=⟨a,b,c,d,e,f,g⟩
theorem cw (X:K.In h) (G:h.Ns mainGlobals mg) (a:PySem.W.nsIn K mainGlobals x=some (some (.ref f))) (l:dM K x q st f) (b:BA x q st ps):Def K mg x q st ps:=by
 obtain⟨⟨fd,F⟩,_⟩:=l
 exact⟨f,fd,F,F.binds b,PySem.W.mg_of X G a⟩
theorem bM (a:PySem.W.findIn K (.ref C) m=some (some (.ref f))) (l:dM K m q st f) (b:BA m q st ps):a9 K C m q st ps:=by
 obtain⟨⟨fd,F⟩,i⟩:=l
 exact⟨f,fd,F,F.binds b,⟨a,i,F.kp⟩⟩
theorem Gx (k:PySem.W.makesIn K C=true) (a:PySem.W.findIn K (.ref C) "__init__" =some (some (.ref f))) (kc:PySem.W.keepIn K (.ref C)=true) (l:dM K "__init__" q st f) (b:BA "__init__" q st ps):lJ K C q st ps []:=by
 obtain⟨⟨fd,F⟩,i⟩:=l
 exact⟨f,fd, .none,⟨F.ex,F.kp⟩,⟨k,a,i,kc⟩,fun j _=>⟨[],by rw[List.drop_nil];exact .nil,F.binds b⟩⟩
theorem S3 (Z:PySem.W.fg K C HE f) (g:mg x=some (.ref C)) (kc:PySem.W.keepIn K (.ref C)=true) (l:dM K "__init__" q st f) (b:BA "__init__" q st ps):Gv K mg x C HE q st ps:=by
 obtain⟨⟨fd,F⟩,i⟩:=l
 exact⟨f,fd,F,Z,F.binds b,g,kc⟩
end
end L2
namespace L2
open PySem PySem.Spec PyProof.Rows PySem.W PySem.Calls
section
variable {prog:Program} {w:World} {κ:Type} [DecidableEq κ] {knd:KeyKind prog w κ} {A:Around} {E:Value→Shared→Prop} {s:Shared} {d it:Addr} {i ep:Nat} {kvs:List (κ×Value)}
end
section
variable {X:Cx}
end
end L2
namespace L2
open PySem PySem.Spec PyProof.Rows
end L2
set_option maxHeartbeats 4000000
namespace K51
open PySem L2
def top (i:Nat):Stmt:=PySem.Challenge.pw_balancehall_k51_turns_walked.main.body.getD i (.Pass ⟨0,0,0,0⟩)
abbrev vW:Stmt:=top 20
abbrev vX:Stmt:=top 21
abbrev pY:Stmt:=top 22
abbrev iF:Stmt:=top 23
abbrev kW:Stmt:=top 25
abbrev jj:Stmt:=top 26
abbrev jk:Stmt:=inClass (top 29) 0
abbrev vY:Stmt:=inClass (top 29) 1
abbrev pZ:Stmt:=inClass (top 29) 2
abbrev fR:Stmt:=inClass (top 30) 0
abbrev kX:Stmt:=inClass (top 30) 1
abbrev jl:Stmt:=inClass (top 30) 2
abbrev fS:Stmt:=inClass (top 31) 0
abbrev iG:Stmt:=inClass (top 31) 1
abbrev gN:Stmt:=inClass (top 31) 2
abbrev mK:Stmt:=top 38
abbrev gO:Stmt:=top 39
abbrev fT:Stmt:=inClass (top 40) 0
abbrev mL:Stmt:=inClass (top 40) 1
abbrev mM:Stmt:=inClass (top 40) 2
abbrev rg:Stmt:=inClass (top 41) 0
abbrev yt:Stmt:=inClass (top 41) 1
abbrev yu:Stmt:=inClass (top 41) 2
abbrev ko:Stmt:=inClass (top 41) 3
abbrev mN:Stmt:=inClass (top 41) 4
abbrev mO:Stmt:=inClass (top 41) 5
abbrev hX:Stmt:=inClass (top 41) 6
abbrev kY:Stmt:=inClass (top 41) 7
abbrev oB:Stmt:=inClass (top 41) 8
abbrev jD:Stmt:=inClass (top 41) 9
abbrev rh:Stmt:=inClass (top 41) 10
abbrev mP:Stmt:=inClass (top 41) 11
abbrev kq:Stmt:=inClass (top 41) 12
abbrev kr:Stmt:=inClass (top 41) 13
abbrev kZ:Stmt:=top 42
abbrev mQ:Stmt:=top 51
abbrev gP:Stmt:=top 52
abbrev iH:Stmt:=top 53
abbrev vZ:Stmt:=inClass (top 54) 0
abbrev wa:Stmt:=inClass (top 54) 2
abbrev tZ:Stmt:=inClass (top 54) 4
abbrev wb:Stmt:=inClass (top 55) 0
abbrev p6:Stmt:=inClass (top 55) 1
abbrev mR:Stmt:=inClass (top 55) 2
abbrev p7:Stmt:=inClass (top 55) 3
abbrev mS:Stmt:=top 56
abbrev ri:Stmt:=top 58
abbrev k7:Stmt:=top 60
abbrev mT:Stmt:=top 61
abbrev fU:Stmt:=top 62
abbrev p8:Stmt:=top 63
abbrev gQ:Stmt:=top 64
abbrev fV:Stmt:=inClass (top 65) 0
abbrev BQ:Stmt:=inClass (top 65) 1
abbrev KP:Stmt:=inClass (top 65) 2
abbrev DR:Stmt:=inClass (top 65) 3
abbrev rj:Stmt:=inClass (top 65) 4
abbrev mU:Stmt:=inClass (top 65) 7
abbrev yv:Stmt:=inClass (top 65) 8
abbrev wc:Stmt:=inClass (top 10) 0
abbrev p9:Stmt:=top 67
abbrev wd:Stmt:=top 68
abbrev we:Stmt:=top 69
abbrev BR:Stmt:=top 70
abbrev mV:Stmt:=top 72
abbrev mW:Stmt:=top 73
abbrev oC:Stmt:=top 74
abbrev ku:Stmt:=top 75
abbrev BS:Stmt:=top 76
abbrev wg:Stmt:=top 77
abbrev wj:Stmt:=top 78
abbrev jm:Stmt:=top 79
abbrev qa:Stmt:=top 80
abbrev qb:Stmt:=top 81
abbrev BU:Stmt:=top 82
abbrev wk:Stmt:=top 83
abbrev wm:Stmt:=top 84
theorem nkc:¬(("kind" :Str)="count"):=by decide+kernel
def wo (k:Str) (n:Int):List (Str×V):=cL "count" (.int n) (cL "kind" (.str k) [])
theorem t5 (k:Str) (n:Int):(wo k n).lookup ("kind" :Str)=some (.str k):=by
 unfold wo
 rw[az,if_neg nkc,az,if_pos rfl]
theorem rm (k:Str) (n:Int):(wo k n).lookup ("count" :Str)=some (.int n):=by
 unfold wo
 rw[az,if_pos rfl]
theorem BV (k:Str) (n:Int) {m:Str} (h1:¬m="count") (h2:¬m="kind"):(wo k n).lookup m=none:=by
 unfold wo
 rw[az,if_neg h1,az,if_neg h2]
 all_goals rfl
def gz (C:Addr) (H:Hp) (p:Addr) (k:Str) (n:Int):Prop:=∃dx,H p=some (.ins C dx (wo k n))
theorem gz.same {C:Addr} {H H':Hp} {p:Addr} {k:Str} {n:Int} (a:gz C H p k n) (e:au H H'):gz C H' p k n:=let ⟨dx,h⟩:=a;⟨dx,e _ _ h⟩
def bx (kvs:List (Key×V)):Prop:=∀p∈kvs,∃i,p.2=V.int i
def aO (kvs:List (Key×V)) (k:Key):Int:=match b7 kvs k with
 |some (.int i)=>i
 |_=>0
theorem eK {kvs:List (Key×V)} {k:Key} (h:b7 kvs k=none):aO kvs k=0:=by unfold aO;rw[h]
theorem fB {kvs:List (Key×V)} {k:Key} {i:Int} (h:b7 kvs k=some (.int i)):aO kvs k=i:=by unfold aO;rw[h]
def b8 (kvs:List (Key×V)) (k:Key) (n:Int):List (Key×V):=putK kvs k (.int (aO kvs k+n))
def a8 (t:Int) (acc:List (Key×V)) (as:List (Str×Int)):List (Key×V):=as.foldl (fun acc p=>b8 acc (Sum.inr p.1) (p.2*t)) acc
def iY (c:Int) (acc:List (Key×V)) (l:List (Key×V)) (all:List (Key×V)):List (Key×V):=l.foldl (fun acc p=>b8 acc p.1 (aO all p.1*c)) acc
def DS (c:Int):V→V
 | .int i=> .int (i*c)
 |v=>v
def scale (c:Int) (kvs:List (Key×V)):List (Key×V):=kvs.map fun p=>(p.1,DS c p.2)
def Gy (B:Int) (kvs:List (Key×V)):Prop:=∀p∈kvs,∃i,p.2=V.int i∧0≤i∧i≤B
theorem fW {kvs:List (Key×V)} {k:Key} {v:V} (e:b7 kvs k=some v):(k,v)∈kvs:=by
 unfold b7 at e
 cases f:kvs.find? fun kv=>decide (kv.1=k) with
 |none=>rw[f] at e;cases e
 |some p=>
  rw[f] at e
  cases e
  have h1:=List.mem_of_find?_eq_some f
  have h2:p.1=k:=by simpa using List.find?_some f
  rw[←h2];exact h1
theorem bx.look {kvs:List (Key×V)} (h:bx kvs) {k:Key} {v:V} (e:b7 kvs k=some v):v= .int (aO kvs k):=by
 obtain⟨i,hi⟩:=h _ (fW e)
 have hi:v= .int i:=hi
 subst hi
 rw[fB e]
theorem bx.at {kvs:List (Key×V)} (h:bx kvs) (k:Key):(b7 kvs k).getD (.int 0)= .int (aO kvs k):=by
 cases e:b7 kvs k with
 |none=>rw[eK e];rfl
 |some v=>rw[h.look e];rfl
theorem Gy.S4 {B:Int} {kvs:List (Key×V)} (h:Gy B kvs) (hB:0≤B) (k:Key):0≤aO kvs k∧aO kvs k≤B:=by
 cases e:b7 kvs k with
 |none=>rw[eK e];exact⟨Int.le_refl _,hB⟩
 |some v=>
  obtain⟨i,hi,h0,h1⟩:=h _ (fW e)
  have hi:v= .int i:=hi
  subst hi
  rw[fB e];exact⟨h0,h1⟩
theorem Gy.put {B B':Int} {kvs:List (Key×V)} (h:Gy B kvs) (hBB:B≤B') (k:Key) {i:Int} (h0:0≤i) (h1:i≤B'):Gy B' (putK kvs k (.int i)):=by
 intro p hp
 unfold putK at hp
 split at hp
 ·obtain⟨q,hq,e⟩:=List.mem_map.mp hp
  subst e
  split
  ·exact⟨i,rfl,h0,h1⟩
  ·obtain⟨j,e,h2,h3⟩:=h q hq
   exact⟨j,e,h2,Int.le_trans h3 hBB⟩
 ·rcases List.mem_append.mp hp with hq|hq
  ·obtain⟨j,e,h2,h3⟩:=h p hq
   exact⟨j,e,h2,Int.le_trans h3 hBB⟩
  ·have e:p=(k,V.int i):=by simpa using hq
   exact⟨i,by rw[e],h0,h1⟩
theorem Gy.add {B b:Int} {kvs:List (Key×V)} (h:Gy B kvs) (hB:0≤B) (k:Key) {n:Int} (h0:0≤n) (h1:n≤b):Gy (B+b) (b8 kvs k n):=by
 obtain⟨z0,z1⟩:=h.S4 hB k
 exact h.put (by omega) k (by omega) (by omega)
theorem wq {kvs:List (Key×V)} {k:Key} {v:V} (h:(kvs.map (·.1)).Nodup):((putK kvs k v).map (·.1)).Nodup:=by
 cases e:b7 kvs k with
 |none=>exact Kg v h e
 |some x=>
  have ha:(kvs.any fun kv=>decide (kv.1=k))=true:=by rw[fw,e];rfl
  unfold putK
  rw[if_pos ha,List.map_map]
  have:((fun (x:Key×V)=>x.1)∘fun kv=>if kv.1=k then (kv.1,v) else kv)=fun (x:Key×V)=>x.1:=by
   funext y
   simp only [Function.comp]
   split<;>rfl
  rw[this]
  exact h
theorem oE (c:Int) (k:Key):∀kvs:List (Key×V),b7 (scale c kvs) k=(b7 kvs k).map (DS c)
 | []=>rfl
 |p::r=>by
  have ih:=oE c k r
  show b7 ((p.1,DS c p.2)::scale c r) k=_
  by_cases e:p.1=k
  ·refine(cO (p:=(p.1,DS c p.2)) (r:=scale c r) e).trans ?_
   rw[cO e]
   rfl
  ·refine(cP (p:=(p.1,DS c p.2)) (r:=scale c r) e).trans ?_
   rw[cP e]
   exact ih
theorem DT (c:Int) (kvs:List (Key×V)) (k:Key) (i:Int):scale c (putK kvs k (.int i))=putK (scale c kvs) k (.int (i*c)):=by
 have ha:((scale c kvs).any fun kv=>decide (kv.1=k))=kvs.any fun kv=>decide (kv.1=k):=by
  unfold scale
  rw[List.any_map];rfl
 unfold putK
 rw[ha]
 split
 ·unfold scale
  rw[List.map_map,List.map_map]
  apply List.map_congr_left
  intro p _
  simp only [Function.comp]
  split<;>rfl
 ·unfold scale
  rw[List.map_append];rfl
theorem DU {kvs:List (Key×V)} (h:bx kvs) (c:Int) (k:Key):aO (scale c kvs) k=aO kvs k*c:=by
 cases e:b7 kvs k with
 |none=>rw[eK e,eK (by rw[oE,e];rfl),Int.zero_mul]
 |some v=>
  have:=h.look e
  subst this
  exact fB (by rw[oE,e];rfl)
theorem bx.put {kvs:List (Key×V)} (h:bx kvs) (k:Key) (i:Int):bx (putK kvs k (.int i)):=by
 intro p hp
 unfold putK at hp
 split at hp
 ·obtain⟨q,hq,e⟩:=List.mem_map.mp hp
  subst e
  split
  ·exact⟨i,rfl⟩
  ·exact h q hq
 ·rcases List.mem_append.mp hp with hq|hq
  ·exact h p hq
  ·have e:p=(k,V.int i):=by simpa using hq
   exact⟨i,by rw[e]⟩
theorem DV {kvs:List (Key×V)} (h:bx kvs) (c:Int) (k:Key) (n:Int):scale c (b8 kvs k n)=b8 (scale c kvs) k (n*c):=by
 unfold b8
 rw[DT,DU h,Int.add_mul]
theorem bx.add {kvs:List (Key×V)} (h:bx kvs) (k:Key) (n:Int):bx (b8 kvs k n):=h.put k _
theorem t7 (t c:Int):∀(as:List (Str×Int)) (acc:List (Key×V)),bx acc→scale c (a8 t acc as)=a8 (t*c) (scale c acc) as
 | [],_,_=>rfl
 |p::r,acc,h=>by
  show scale c (a8 t (b8 acc (Sum.inr p.1) (p.2*t)) r)=a8 (t*c) (b8 (scale c acc) (Sum.inr p.1) (p.2*(t*c))) r
  rw[t7 t c r _ (h.add _ _),DV h,Int.mul_assoc]
theorem iI (t:Int):∀(as:List (Str×Int)) (acc:List (Key×V)),bx acc→bx (a8 t acc as)
 | [],_,h=>h
 |_::r,_,h=>iI t r _ (h.add _ _)
theorem wu (t:Int):∀(as:List (Str×Int)) (acc:List (Key×V)),(acc.map (·.1)).Nodup→((a8 t acc as).map (·.1)).Nodup
 | [],_,h=>h
 |_::r,_,h=>wu t r _ (wq h)
theorem iJ (t:Int):∀(as:List (Str×Int)) (acc:List (Key×V)),(a8 t acc as).length≤acc.length+as.length
 | [],_=>Nat.le_refl _
 |p::r,acc=>by
  have:=iJ t r (b8 acc (Sum.inr p.1) (p.2*t))
  have h2:=bY acc (Sum.inr p.1 :Key) (.int (aO acc (Sum.inr p.1)+p.2*t))
  have e:(b8 acc (Sum.inr p.1) (p.2*t)).length≤acc.length+1:=h2
  show (a8 t (b8 acc (Sum.inr p.1) (p.2*t)) r).length≤_
  rw[List.length_cons]
  omega
theorem wx {t b:Int} (hb:0≤b):∀(as:List (Str×Int)) (acc:List (Key×V)) (B:Int),0≤B→Gy B acc→(∀p∈as,0≤p.2*t∧p.2*t≤b)→Gy (B+as.length*b) (a8 t acc as)
 | [],acc,B,_,h,_=>by
   have e:B+(([]:List (Str×Int)).length:Int)*b=B:=by simp
   rw[e];exact h
 |p::r,acc,B,hB,h,hp=>by
  obtain⟨p0,p1⟩:=hp p (List.mem_cons_self ..)
  have:=wx hb r _ (B+b) (by omega) (h.add hB (Sum.inr p.1) p0 p1) fun q hq=>hp q (List.mem_cons_of_mem _ hq)
  have e:B+b+(r.length:Int)*b=B+((p::r).length:Int)*b:=by
   rw[List.length_cons]
   push_cast
   rw[Int.add_mul,Int.one_mul]
   omega
  rw[←e]
  exact this
def fj (n:Int):Str:=if n=1 then "" else (toString n:Str)
theorem AA:∀n:Nat,n<1000→(fj (n:Int)).length≤3:=by decide+kernel
theorem ia {n:Int} (h:1≤n) (h':n≤999):(fj n).length≤3:=by
 have:=AA n.toNat (by omega)
 rwa [Int.toNat_of_nonneg (by omega)] at this
def jn (ys:List Str):Str:=Str.join ⟨#[]⟩ ys
theorem join_eq (ys:List Str):Txt.join "" ys=jn ys:=by
 have h:=PyProof.Rows.join_closes (sep:="") (sep':=⟨#[]⟩) (ys:=ys) (by decide+kernel)
 unfold jn
 simpa using h
theorem KQ (x:Str) (r:List Str):jn (x::r)=x++jn r:=PyProof.Rows.join_nil_cons x r
theorem BW:∀{ys:List Str} {b:Nat},(∀y∈ys,y.length≤b)→(ys.map (·.length)).sum≤ys.length*b
 | [],_,_=>Nat.zero_le _
 |y::r,b,h=>by
  rw[List.map_cons,List.sum_cons,List.length_cons,Nat.succ_mul]
  have h1:=h y (List.mem_cons_self ..)
  have h2:=BW (ys:=r) (b:=b) fun z hz=>h z (List.mem_cons_of_mem _ hz)
  omega
theorem t8 (x y z:Str):x++y++z=x++(y++z):=by
 show (⟨(x.cps++y.cps)++z.cps⟩:Str)=⟨x.cps++(y.cps++z.cps)⟩
 rw[Array.append_assoc]
theorem Zb:¬(("parts" :Str)="count"):=by decide+kernel
def mX (l:Addr) (n:Int):List (Str×V):=cL "count" (.int n) (cL "parts" (.ref l) [])
theorem iK (l:Addr) (n:Int):(mX l n).lookup ("parts" :Str)=some (.ref l):=by
 unfold mX
 rw[az,if_neg Zb,az,if_pos rfl]
theorem iL (l:Addr) (n:Int):(mX l n).lookup ("count" :Str)=some (.int n):=by
 unfold mX
 rw[az,if_pos rfl]
theorem mY (l:Addr) (n:Int) {m:Str} (h1:¬m="count") (h2:¬m="parts"):(mX l n).lookup m=none:=by
 unfold mX
 rw[az,if_neg h1,az,if_neg h2]
 all_goals rfl
inductive DW (K:PySem.W.Frag) (vs:List V) (H:Hp) (Q:VK) (E:XK):Prop
 |mk (a:Addr) (ns:List Int) (k:Nat) (dX:vs=[.ref a, .int k]) (dY:b5 K H a (ns.map V.int)) (d8:ns.length≤63) (fk:∀n,Q (.int n) H)
def rn (K:PySem.W.Frag):Sp:=DW K
inductive Gz (vs:List V) (H:Hp) (Q:VK) (E:XK):Prop
 |mk (i:Int) (dX:vs=[.int i]) (dY:Q (.bl true) H)
def wy:Sp:=Gz
inductive KR (vs:List V) (H:Hp) (Q:VK) (E:XK):Prop
 |mk (n:Int) (dX:vs=[.int n]) (dY:1≤n) (d8:n≤999) (fk:Q (.str (fj n)) H)
def kx:Sp:=KR
inductive KS (C:Addr) (vs:List V) (H:Hp) (Q:VK) (E:XK):Prop
 |mk (p dx:Addr) (k:Str) (n:Int) (dX:vs=[.ref p, .str k, .int n]) (dY:H p=some (.ins C dx [])) (d8:∀H',H' p=some (.ins C dx (wo k n))→(∀b o,H b=some o→b≠p→H' b=some o)→Q .cU H')
def GA (C:Addr):Sp:=KS C
inductive GB (C:Addr) (vs:List V) (H:Hp) (Q:VK) (E:XK):Prop
 |mk (p:Addr) (k:Str) (n:Int) (dX:vs=[.ref p]) (dY:gz C H p k n) (d8:k.length≤3) (fk:1≤n) (gG:n≤999) (jE:Q (.str (k++fj n)) H)
def wz (C:Addr):Sp:=GB C
inductive DX (C:Addr) (vs:List V) (H:Hp) (Q:VK) (E:XK):Prop
 |mk (p:Addr) (k:Str) (n:Int) (dX:vs=[.ref p]) (dY:gz C H p k n) (d8:∀d,H d=none→Q (.ref d) (upd H d (.dK [(Sum.inr k, .int n)])))
def ro (C:Addr):Sp:=DX C
structure oF (K:PySem.W.Frag) (mg:Str→Option Value) (C:Addr):Prop where
 gA:sR K C
 wA:cG K C "kind"
 rp:cG K C "count"
 OQ:mg "Atom" =some (.ref C)
 ph:mg "len" =none
 GC:mg "str" =none
 yw:mg "int" =none
 OR:mg "bool" =none
 la:mg "range" =none
 bA:mg "isinstance" =none
 k1:PySem.W.kitOne K (.type "int") (.type "int")=some true
 k2:PySem.W.kitOne K (.type "int") (.type "bool")=some false
 k3:PySem.W.kitOne K (.type "dict") (.type "dict")=some true
 k4:PySem.W.kitOne K (.type "str") (.type "str")=some true
 k6:PySem.W.kitOne K (.type "list") (.type "list")=some true
theorem mZ {x y:Str} (h:x.cps.toList=y.cps.toList):x=y:=by
 cases x;cases y
 congr 1
 exact Array.toList_inj.mp h
theorem KU (a b n:Nat):Builtin.Str.strSliceIndices (some (a:Int)) (some (b:Int)) 1 n=Builtin.Str.strSliceIndices (some (a:Int)) (some ((min b n:Nat):Int)) 1 n:=by
 have h2:¬((b:Int) <0):=by omega
 have h3:¬(((min b n:Nat):Int) <0):=by omega
 have e2:max (0 :Int) (min (b:Int) (n:Int))=max (0 :Int) (min ((min b n:Nat):Int) (n:Int)):=by omega
 simp only [Builtin.Str.strSliceIndices,h2,h3,if_false,e2,show ((1 :Int) >0)=True from by simp,if_true]
theorem t9 (x:Str) {a b:Nat} (Ou:a≤b) (ha:a≤x.length):(Txt.slice x (some (a:Int)) (some (b:Int))).cps.toList=(x.cps.toList.drop a).take (b - a):=by
 have hm:a≤min b x.length:=by omega
 have hb:min b x.length≤x.length:=by omega
 have h1:=StrLaws.sliced_plain x hm hb
 have h2:=StrLaws.strSliceIndices_plain hm hb
 have hl:x.cps.toList.length=x.length:=by simp [Str.length]
 unfold Txt.slice
 rw[KU]
 split
 ·rename_i h
  have h:(Builtin.Str.strSliceIndices (some (a:Int)) (some ((min b x.length:Nat):Int)) 1 x.length).length=x.length:=by simpa using h
  rw[h2,List.length_map,List.length_range] at h
  by_cases hz:x.length=0
  ·have:x.cps.toList=[]:=List.length_eq_zero_iff.mp (by omega)
   rw[this];simp
  ·have e:a=0:=by omega
   subst e
   rw[List.drop_zero,List.take_of_length_le (by omega)]
 ·show (List.filterMap _ _).toArray.toList=_
  rw[h1,List.take_eq_take_iff,List.length_drop,hl]
  omega
def eP (x:Str) (p:Nat):Str:=⟨((x.cps.toList.drop p).take 1).toArray⟩
theorem ua (x:Str) {p:Nat} (hp:p≤x.length):Txt.slice x (some (p:Int)) (some ((p:Int)+1))=eP x p:=by
 apply mZ
 have:=t9 x (a:=p) (b:=p+1) (by omega) hp
 rw[Nat.add_sub_cancel_left] at this
 exact this
def Here (x:Str) (p:Nat) (t post:List Nat):Prop:=p≤x.length∧x.cps.toList.drop p=t++post
theorem Here.on {x:Str} {p:Nat} {t u post:List Nat} (h:Here x p (t++u) post):Here x (p+t.length) u post:=by
 obtain⟨h1,h2⟩:=h
 have hl:x.cps.toList.length=x.length:=by simp [Str.length]
 have e:=congrArg List.length h2
 rw[List.length_drop,List.length_append,List.length_append,hl] at e
 refine⟨by omega,?_⟩
 rw[←List.drop_drop,h2,List.append_assoc,List.drop_left]
theorem Here.sg {x:Str} {p:Nat} {c:Nat} {t post:List Nat} (h:Here x p (c::t) post):eP x p=⟨#[c]⟩:=by
 unfold eP
 rw[h.2]
 rfl
theorem Here.OS {x:Str} {p:Nat} {post:List Nat} (h:Here x p [] post):eP x p=⟨(post.take 1).toArray⟩:=by
 unfold eP
 rw[h.2]
 rfl
theorem Here.cut {x:Str} {p:Nat} {t post:List Nat} (h:Here x p t post):Txt.slice x (some (p:Int)) (some ((p+t.length:Nat):Int))=⟨t.toArray⟩:=by
 apply mZ
 rw[t9 x (by omega) h.1,h.2,Nat.add_sub_cancel_left,List.take_left]
theorem Here.le {x:Str} {p:Nat} {t post:List Nat} (h:Here x p t post):p+t.length≤x.length:=by
 have hl:x.cps.toList.length=x.length:=by simp [Str.length]
 have e:=congrArg List.length h.2
 rw[List.length_drop,List.length_append,hl] at e
 have:=h.1
 omega
def inR (lo hi:Nat) (s:Str):Bool:=match s.cps.toList with
 | [c]=>decide (lo≤c)&&decide (c≤hi)
 |_=>false
theorem OT (lo:Nat) (s:Str) (h:s.cps.toList.length≤1):(!decide (s.cps.toList< [lo]))=(match s.cps.toList with| [c]=>decide (lo≤c) |_=>false):=by
 match hh:s.cps.toList,h with
 | [],_=>simp
 | [c],_=>
   have:([c] < [lo])↔c<lo:=by simp [List.cons_lt_cons_iff]
   by_cases hc:c<lo
   ·rw[decide_eq_true (this.mpr hc)];simp;omega
   ·rw[decide_eq_false (fun z=>hc (this.mp z))];simp;omega
 |_::_::_,h=>simp at h
theorem OU (hi:Nat) (s:Str) (h:s.cps.toList.length≤1):(!decide ([hi] <s.cps.toList))=(match s.cps.toList with| [c]=>decide (c≤hi) |_=>true):=by
 match hh:s.cps.toList,h with
 | [],_=>simp
 | [c],_=>
   have:([hi] < [c])↔hi<c:=by simp [List.cons_lt_cons_iff]
   by_cases hc:hi<c
   ·rw[decide_eq_true (this.mpr hc)];simp;omega
   ·rw[decide_eq_false (fun z=>hc (this.mp z))];simp;omega
 |_::_::_,h=>simp at h
theorem nh (x:Str) (p:Nat):(eP x p).cps.toList.length≤1:=by
 unfold eP
 simp
 omega
def Not (f:Nat→Bool) (l:List Nat):Prop:=∀c,l.head? =some c→f c=false
def xR (c:Nat):Bool:=decide (48≤c)&&decide (c≤57)
def Fi (c:Nat):Bool:=decide (97≤c)&&decide (c≤122)
def Fj (c:Nat):Bool:=decide (65≤c)&&decide (c≤90)
def aQ (n:Int):List Nat:=(fj n).cps.toList
theorem wB:aQ 1=[]:=by decide+kernel
theorem ky {n:Nat} (h:n≠1):aQ (n:Int)=(Nat.toDigits 10 n).map Char.toNat:=by
 unfold aQ fj
 rw[if_neg (by omega)]
 exact PySem.W.KIN.signs_num n
theorem qc (n:Nat):(aQ (n:Int)).all xR=true:=by
 by_cases h:n=1
 ·subst h;rw[show ((1 :Nat):Int)=1 from rfl,wB];rfl
 ·rw[ky h,List.all_eq_true]
  intro c hc
  obtain⟨ch,Fc,e⟩:=List.mem_map.mp hc
  have r:=PyProof.Rows.digit_range (Nat.isDigit_of_mem_toDigits (by decide) (by decide) Fc)
  rw[←e]
  simp only [xR,Bool.and_eq_true,decide_eq_true_eq]
  exact r
theorem GD (n:Nat):Nat.toDigits 10 n≠[]:=by
 intro e
 have h:=PySem.toDigits_len_ge 10 n
 rw[e] at h
 exact absurd h (by decide)
theorem GF:∀n:Nat,n≠0→(Nat.toDigits 10 n).head? ≠some '0' :=by
 intro n
 induction n using Nat.strongRecOn with
 |_ m ih=>
  intro h0
  by_cases h:m<10
  ·rw[Nat.toDigits_of_lt_base h]
   have:∀m:Nat,m<10→m≠0→[Nat.digitChar m].head? ≠some '0' :=by decide
   exact this m h h0
  ·have hm:m%10<10:=Nat.mod_lt m (by decide)
   have t:Nat.toDigits 10 (m/10)++Nat.toDigits 10 (m%10)=Nat.toDigits 10 (10*(m/10)+m%10):=Nat.toDigits_append_toDigits (by decide) (by omega) hm
   rw[Nat.div_add_mod] at t
   have:=ih (m/10) (by omega) (by omega)
   rw[←t]
   cases hh:Nat.toDigits 10 (m/10) with
   |nil=>exact absurd hh (GD _)
   |cons c r=>
    rw[hh] at this
    exact this
theorem GG (n:Nat) (h0:n≠0):(aQ (n:Int)).head? ≠some 48:=by
 by_cases h:n=1
 ·subst h;rw[show ((1 :Nat):Int)=1 from rfl,wB];simp
 ·rw[ky h,List.head?_map]
  intro z
  cases e:(Nat.toDigits 10 n).head? with
  |none=>rw[e] at z;cases z
  |some c=>
   rw[e] at z
   have z:c.toNat=48:=by simpa using z
   have:c='0' :=by
    apply Char.ext
    apply UInt32.toNat_inj.mp
    exact z
   exact GF n h0 (by rw[e,this])
theorem KW (n:Nat):aQ (n:Int)≠[49]:=by
 by_cases h:n=1
 ·subst h;rw[show ((1 :Nat):Int)=1 from rfl,wB];simp
 ·rw[ky h]
  intro z
  have:=PySem.W.KIN.val_back n
  rw[z] at this
  exact h this.symm
theorem BX (n:Nat) (h:aQ (n:Int)=[]):n=1:=by
 by_cases e:n=1
 ·exact e
 ·rw[ky e] at h
  exact absurd (List.map_eq_nil_iff.mp h) (GD n)
theorem lb {n:Nat} {k:Nat} (hk:0<k) (h:n<10^k):(fj (n:Int)).length≤k:=by
 unfold fj
 split
 ·exact Nat.zero_le _
 ·rw[PySem.ofString_length]
  show (Nat.repr n).length≤k
  rw[Nat.length_repr_le_iff hk]
  exact h
theorem KY (n:Nat) (h:n<10^12) (h1:n≠1):PySem.intText? (fj (n:Int))=some (n:Int):=by
 have hd:PySem.NumText.AllDigits (fj (n:Int)).cps.toList:=by
  intro c hc
  have:=List.all_eq_true.mp (qc n) c hc
  simpa only [xR,Bool.and_eq_true,decide_eq_true_eq] using this
 have oA:(fj (n:Int)).cps.toList≠[]:=fun z=>h1 (BX n z)
 have e:=PySem.intText_digits hd oA (Nat.le_trans (lb (by decide) h) (by decide))
 rw[show (fj (n:Int)).cps.toList=_ from ky h1,PySem.W.KIN.val_back] at e
 exact e
theorem ni (lo hi c:Nat):inR lo hi ⟨#[c]⟩=(decide (lo≤c)&&decide (c≤hi)):=rfl
theorem wC {lo hi:Nat} {post:List Nat} (h:Not (fun c=>decide (lo≤c)&&decide (c≤hi)) post):inR lo hi ⟨(post.take 1).toArray⟩=false:=by
 cases post with
 |nil=>rfl
 |cons c r=>exact h c rfl
instance memKey (k:Key) (K:List Key):Decidable (k∈K):=decidable_of_iff ((K.any fun x=>decide (x=k))=true) (by simp)
def cM (acc:List (Key×V)) (l:List (Key×Int)):List (Key×V):=l.foldl (fun acc p=>b8 acc p.1 p.2) acc
def jF (K:List Key) (k:Key):List Key:=if k∈K then K else K++[k]
def fD (K L:List Key):List Key:=L.foldl jF K
def sumK (l:List (Key×Int)) (j:Key):Int:=(l.map fun p=>if p.1=j then p.2 else 0).sum
theorem iM (D:List (Key×V)) (k j:Key) (n:Int):aO (putK D k (.int n)) j=if j=k then n else aO D j:=by
 unfold aO
 rw[FJ]
 by_cases h:j=k
 ·rw[if_pos h,if_pos h]
 ·rw[if_neg h,if_neg h]
theorem wD (D:List (Key×V)) (k j:Key) (n:Int):aO (b8 D k n) j=aO D j+if k=j then n else 0:=by
 unfold b8
 rw[iM]
 by_cases h:j=k
 ·rw[if_pos h,if_pos h.symm,h]
 ·rw[if_neg h,if_neg (Ne.symm h),Int.add_zero]
theorem nj (D:List (Key×V)) (k:Key) (v:V):(putK D k v).map (·.1)=jF (D.map (·.1)) k:=by
 unfold jF
 cases e:b7 D k with
 |none=>rw[if_neg (mC e),mx v e,List.map_append];rfl
 |some x=>
  rw[if_pos (pS e)]
  have ha:(D.any fun kv=>decide (kv.1=k))=true:=by rw[fw,e];rfl
  unfold putK
  rw[if_pos ha,List.map_map]
  apply List.map_congr_left
  intro p _
  simp only [Function.comp]
  split<;>rfl
theorem kz:∀(l:List (Key×Int)) (acc:List (Key×V)),(cM acc l).map (·.1)=fD (acc.map (·.1)) (l.map (·.1))
 | [],_=>rfl
 |p::r,acc=>by
  show (cM (b8 acc p.1 p.2) r).map (·.1)=fD (jF (acc.map (·.1)) p.1) (r.map (·.1))
  rw[kz r]
  unfold b8
  rw[nj]
theorem nq:∀(l:List (Key×Int)) (acc:List (Key×V)) (j:Key),aO (cM acc l) j=aO acc j+sumK l j
 | [],acc,j=>by show aO acc j=aO acc j+0;rw[Int.add_zero]
 |p::r,acc,j=>by
  show aO (cM (b8 acc p.1 p.2) r) j=aO acc j+((if p.1=j then p.2 else 0)+sumK r j)
  rw[nq r,wD,Int.add_assoc]
theorem qd:∀(l:List (Key×Int)) (acc:List (Key×V)),bx acc→bx (cM acc l)
 | [],_,h=>h
 |_::r,_,h=>qd r _ (h.add _ _)
theorem AB:∀(l:List (Key×Int)) (acc:List (Key×V)),(acc.map (·.1)).Nodup→((cM acc l).map (·.1)).Nodup
 | [],_,h=>h
 |_::r,_,h=>AB r _ (wq h)
theorem BY {D:List (Key×V)} (hI:bx D) (hn:(D.map (·.1)).Nodup):D=(D.map (·.1)).map fun k=>(k,V.int (aO D k)):=by
 rw[List.map_map]
 refine(List.map_id D).symm.trans ?_
 apply List.map_congr_left
 intro p hp
 have e:=jh hn hp
 have:=hI.look e
 show p=(p.1,V.int (aO D p.1))
 rw[←this]
theorem yx {A B:List (Key×V)} (hA:bx A) (hB:bx B) (nA:(A.map (·.1)).Nodup) (hk:A.map (·.1)=B.map (·.1)) (hz:∀k,aO A k=aO B k):A=B:=by
 rw[BY hA nA,BY hB (hk▸nA),←hk]
 apply List.map_congr_left
 intro k _
 rw[hz k]
theorem GH {K:List Key} {k j:Key}:j∈jF K k↔j∈K∨j=k:=by
 unfold jF
 split
 ·rename_i h
  exact⟨.inl,fun z=>z.elim id fun e=>e▸h⟩
 ·simp
theorem rq:∀{L K:List Key} {j:Key},j∈fD K L↔j∈K∨j∈L
 | [],K,j=>by show j∈K↔_;simp
 |x::L,K,j=>by
  show j∈fD (jF K x) L↔_
  rw[rq,GH,List.mem_cons,or_assoc]
theorem DY (K M:List Key) (x:Key):fD K (jF M x)=jF (fD K M) x:=by
 unfold jF
 by_cases h:x∈M
 ·rw[if_pos h,if_pos (rq.mpr (.inr h))]
 ·rw[if_neg h]
  unfold fD
  rw[List.foldl_append]
  rfl
theorem ub (K:List Key):∀(L M:List Key),fD K (fD M L)=fD (fD K M) L
 | [],M=>rfl
 |x::L,M=>by
  show fD K (fD (jF M x) L)=fD (jF (fD K M) x) L
  rw[ub K L,DY]
theorem wF (f:Key→Int) (j:Key):∀{Ks:List Key},Ks.Nodup→(Ks.map fun k=>if k=j then f k else 0).sum=if j∈Ks then f j else 0
 | [],_=>by simp
 |k::Ks,h=>by
  rw[List.nodup_cons] at h
  rw[List.map_cons,List.sum_cons,wF f j h.2]
  by_cases e:k=j
  ·subst e
   rw[if_pos rfl,if_neg h.1,if_pos (List.mem_cons_self ..),Int.add_zero]
  ·rw[if_neg e,Int.zero_add]
   have:(j∈k::Ks)↔j∈Ks:=by rw[List.mem_cons];exact⟨fun z=>z.elim (fun w=>absurd w.symm e) id, .inr⟩
   by_cases hj:j∈Ks
   ·rw[if_pos hj,if_pos (this.mpr hj)]
   ·rw[if_neg hj,if_neg (fun z=>hj (this.mp z))]
theorem nu {D:List (Key×V)} {j:Key} (h:¬j∈D.map (·.1)):aO D j=0:=by
 cases e:b7 D j with
 |none=>exact eK e
 |some x=>exact absurd (pS e) h
theorem yy (c:Int) (j:Key):∀l:List (Key×Int),sumK (l.map fun p=>(p.1,p.2*c)) j=sumK l j*c
 | []=>by show (0 :Int)=0*c;rw[Int.zero_mul]
 |p::r=>by
  show (if p.1=j then p.2*c else 0)+sumK (r.map fun p=>(p.1,p.2*c)) j=((if p.1=j then p.2 else 0)+sumK r j)*c
  rw[yy c j r,Int.add_mul]
  split
  ·rfl
  ·rw[Int.zero_mul]
theorem add_dict (c:Int) {acc:List (Key×V)} (hI:bx acc) (hn:(acc.map (·.1)).Nodup) (l:List (Key×Int)):
  cM acc ((cM [] l).map fun p=>(p.1,aO (cM [] l) p.1*c))=cM acc (l.map fun p=>(p.1,p.2*c)):=by
 have hD:bx (cM [] l):=qd l [] fun p hp=>by cases hp
 have nD:((cM [] l).map (·.1)).Nodup:=AB l [] List.nodup_nil
 refine yx (qd _ _ hI) (qd _ _ hI) (AB _ _ hn) ?_ fun j=>?_
 ·rw[kz,kz,List.map_map,List.map_map]
  show fD (acc.map (·.1)) ((cM [] l).map (·.1))=fD (acc.map (·.1)) (l.map (·.1))
  rw[kz,ub]
  rfl
 ·rw[nq,nq,yy]
  congr 1
  have e:=wF (fun k=>aO (cM [] l) k*c) j nD
  rw[List.map_map] at e
  have e2:sumK ((cM [] l).map fun p=>(p.1,aO (cM [] l) p.1*c)) j=if j∈(cM [] l).map (·.1) then aO (cM [] l) j*c else 0:=by
   rw[←e]
   unfold sumK
   rw[List.map_map]
   rfl
  have e3:aO (cM [] l) j=sumK l j:=by
   rw[nq]
   show (0 :Int)+_=_
   rw[Int.zero_add]
  rw[e2]
  split
  ·rw[e3]
  ·rename_i h
   rw[←e3,nu h,Int.zero_mul]
theorem qe (t:Int):∀(as:List (Str×Int)) (acc:List (Key×V)),a8 t acc as=cM acc (as.map fun p=>((Sum.inr p.1 :Key),p.2*t))
 | [],_=>rfl
 |p::r,acc=>qe t r _
theorem BZ (c:Int) (all:List (Key×V)):∀(l acc:List (Key×V)),iY c acc l all=cM acc (l.map fun p=>(p.1,aO all p.1*c))
 | [],_=>rfl
 |p::r,acc=>BZ c all r _
theorem wG (c t:Int) (as:List (Str×Int)) {acc:List (Key×V)} (hI:bx acc) (hn:(acc.map (·.1)).Nodup):iY c acc (a8 t [] as) (a8 t [] as)=a8 (t*c) acc as:=by
 rw[BZ,qe,qe,add_dict c hI hn,List.map_map]
 congr 1
 apply List.map_congr_left
 intro p _
 show ((Sum.inr p.1 :Key),p.2*t*c)=(Sum.inr p.1,p.2*(t*c))
 rw[Int.mul_assoc]
theorem ntp:¬(("text" :Str)="place"):=by decide+kernel
def gk (x:Str) (p:Nat):List (Str×V):=cL "place" (.int p) (cL "text" (.str x) [])
theorem fX (x:Str) (p:Nat):(gk x p).lookup ("text" :Str)=some (.str x):=by
 unfold gk
 rw[az,if_neg ntp,az,if_pos rfl]
theorem bC (x:Str) (p:Nat):(gk x p).lookup ("place" :Str)=some (.int p):=by
 unfold gk
 rw[az,if_pos rfl]
theorem aI (x:Str) (p:Nat) {m:Str} (h1:¬m="place") (h2:¬m="text"):(gk x p).lookup m=none:=by
 unfold gk
 rw[az,if_neg h1,az,if_neg h2]
 all_goals rfl
theorem lh (x:Str) (p q:Nat):cL "place" (.int q) (gk x p)=gk x q:=by
 unfold gk
 simp only [cL,if_neg ntp,if_true]
theorem lj (x:Str) (p:Nat):(gk x p).length<1000:=by
 unfold gk
 simp only [cL,if_neg ntp]
 show 2<1000
 decide
def dk (R:Addr) (H:Hp) (r:Addr) (x:Str) (p:Nat):Prop:=∃dx,H r=some (.ins R dx (gk x p))
def Kept (r:Addr) (H H':Hp):Prop:=∀b o,H b=some o→b≠r→H' b=some o
theorem Kept.refl (r:Addr) (H:Hp):Kept r H H:=fun _ _ h _=>h
theorem Kept.trans {r:Addr} {H H' cz:Hp} (h:Kept r H H') (h':Kept r H' cz):Kept r H cz:=fun b o e n=>h' b o (h b o e n) n
theorem Kept.of {r:Addr} {H H':Hp} (h:au H H'):Kept r H H':=fun b o e _=>h b o e
inductive IspR (lo hi:Nat) (vs:List V) (H:Hp) (Q:VK) (E:XK):Prop
 |mk (s:Str) (dX:vs=[.str s]) (dY:s.cps.toList.length≤1) (d8:Q (.bl (inR lo hi s)) H)
def MO (lo hi:Nat):Sp:=IspR lo hi
inductive GI (R:Addr) (vs:List V) (H:Hp) (Q:VK) (E:XK):Prop
 |mk (r dx:Addr) (x:Str) (dX:vs=[.ref r, .str x]) (dY:H r=some (.ins R dx [])) (d8:∀H',dk R H' r x 0→Kept r H H'→Q .cU H')
def wH (R:Addr):Sp:=GI R
inductive KZ (R:Addr) (vs:List V) (H:Hp) (Q:VK) (E:XK):Prop
 |mk (r:Addr) (x:Str) (p:Nat) (dX:vs=[.ref r]) (dY:dk R H r x p) (d8:p≤x.length) (fk:x.length≤1000) (gG:Q (.str (eP x p)) H)
def jG (R:Addr):Sp:=KZ R
inductive K0 (R:Addr) (vs:List V) (H:Hp) (Q:VK) (E:XK):Prop
 |mk (r:Addr) (x:Str) (p:Nat) (s:Str) (c:Nat) (t post:List Nat) (dX:vs=[.ref r, .str s]) (dY:s=⟨#[c]⟩) (d8:dk R H r x p) (fk:Here x p (c::t) post) (gG:x.length≤1000) (jE:∀H',dk R H' r x (p+1)→Kept r H H'→Q .cU H')
def lZ (R:Addr):Sp:=K0 R
inductive AD (R:Addr) (vs:List V) (H:Hp) (Q:VK) (E:XK):Prop
 |mk (r:Addr) (x:Str) (p:Nat) (s:Str) (post:List Nat) (dX:vs=[.ref r, .str s]) (dY:s.cps.all (· <128)=true) (d8:dk R H r x p) (fk:Here x p s.cps.toList post) (gG:x.length≤1000) (jE:∀H',dk R H' r x (p+s.length)→Kept r H H'→Q .cU H')
def ll (R:Addr):Sp:=AD R
inductive AE (R:Addr) (vs:List V) (H:Hp) (Q:VK) (E:XK):Prop
 |mk (r:Addr) (x:Str) (dX:vs=[.ref r]) (dY:dk R H r x x.length) (d8:x.length≤1000) (fk:Q .cU H)
def uc (R:Addr):Sp:=AE R
inductive DZ (R:Addr) (vs:List V) (H:Hp) (Q:VK) (E:XK):Prop
 |mk (r:Addr) (x:Str) (p:Nat) (n lg:Int) (post:List Nat) (dX:vs=[.ref r, .int lg]) (dY:dk R H r x p) (d8:Here x p (aQ n) post) (fk:1≤n) (gG:n<10^12) (jE:((aQ n).length:Int)≤lg) (oG:Not xR post) (sV:x.length≤1000) (B0:∀H',dk R H' r x (p+(aQ n).length)→Kept r H H'→Q (.int n) H')
def rA (R:Addr):Sp:=DZ R
inductive D0 (R:Addr) (vs:List V) (H:Hp) (Q:VK) (E:XK):Prop
 |mk (r:Addr) (x:Str) (p:Nat) (n:Int) (post:List Nat) (dX:vs=[.ref r]) (dY:dk R H r x p) (d8:Here x p (aQ n) post) (fk:1≤n) (gG:n≤999) (jE:Not xR post) (oG:x.length≤1000) (sV:∀H',dk R H' r x (p+(aQ n).length)→Kept r H H'→Q (.int n) H')
def jo (R:Addr):Sp:=D0 R
def l6 (k:List Nat):Prop:=∃c r,k=c::r∧Fj c=true∧r.all Fi=true∧r.length≤2
inductive GJ (C R:Addr) (vs:List V) (H:Hp) (Q:VK) (E:XK):Prop
 |mk (r:Addr) (x:Str) (p:Nat) (k:List Nat) (n:Int) (post:List Nat) (dX:vs=[.ref r]) (dY:dk R H r x p) (d8:Here x p (k++aQ n) post) (fk:l6 k) (gG:1≤n) (jE:n≤999) (oG:Not xR post) (sV:Not Fi post) (B0:x.length≤1000) (K1:∀a H',H a=none→gz C H' a ⟨k.toArray⟩ n→dk R H' r x (p+(k++aQ n).length)→Kept r H H'→Q (.ref a) H')
def wI (C R:Addr):Sp:=GJ C R
structure sW (K:PySem.W.Frag) (mg:Str→Option Value) (C R:Addr) (uK uN:Tok):Prop extends oF K mg C where
 aw:sR K R
 jH:cG K R "text"
 cx:cG K R "place"
 rB:mg "LONGEST_KIND" =some (.int 3 uK)
 pI:mg "LONGEST_COUNT" =some (.int 3 uN)
section
seal lU PS PE PT PW PA PG Rb PI PC Oi
variable {P:Program} {w:World} {K:PySem.W.Frag} {mg:Str→Option Value} {base:Heap} {C R G Pc Fo:Addr} {uK uN uB uE uM:Tok}
theorem K2:ax ["sign"] ["sign"] (aj vW):=dB
theorem K4:ax ["sign"] ["sign"] (aj vX):=dB
theorem GK:ax ["sign"] ["sign"] (aj pY):=dB
theorem AF (lo hi:Nat) (s:Str) (h:s.cps.toList.length≤1):(if (!decide (s.cps.toList< [lo]))=true then (!decide ([hi] <s.cps.toList)) else false)=inR lo hi s:=by
 rw[OT lo s h,OU hi s h]
 unfold inR
 match hh:s.cps.toList,h with
 | [],_=>rfl
 | [c],_=>
   show (if decide (lo≤c)=true then decide (c≤hi) else false)=(decide (lo≤c)&&decide (c≤hi))
   cases decide (lo≤c)<;>rfl
 |_::_::_,h=>simp at h
theorem GL (D:Def K mg "is_great" "is_great" vW ["sign"]):bg P w K mg base 1 "is_great" ["sign"] (MO 65 90):=by
 refine D.di K2 (fun vs H Q E h=>?_) (fun f bj A outer s H vs Q E hr h=>?_)
 ·obtain⟨n,rfl,_⟩:=h
  rfl
 ·obtain⟨x,rfl,hl,q⟩:=h
  refine⟨_,(ao
     (aD (qD gY gY bJ (pv 0) bJ))),?_⟩
  rw[←AF 65 90 x hl] at q
  have e1:("A" :Str).cps.toList=[65]:=by decide+kernel
  have e2:("Z" :Str).cps.toList=[90]:=by decide+kernel
  refine⟨_,rfl,_,_,rfl,rfl,_,rfl,?_⟩
  rw[e1]
  cases hh:(!decide (x.cps.toList< [65])) with
  |false=>rw[hh] at q;exact cH q
  |true=>rw[hh] at q;exact ix ⟨_,_,rfl,rfl,by rw[e2];exact q⟩
theorem GN (D:Def K mg "is_small" "is_small" vX ["sign"]):bg P w K mg base 1 "is_small" ["sign"] (MO 97 122):=by
 refine D.di K4 (fun vs H Q E h=>?_) (fun f bj A outer s H vs Q E hr h=>?_)
 ·obtain⟨n,rfl,_⟩:=h
  rfl
 ·obtain⟨x,rfl,hl,q⟩:=h
  refine⟨_,(ao
     (aD (qD gY gY bJ (pv 0) bJ))),?_⟩
  rw[←AF 97 122 x hl] at q
  have e1:("a" :Str).cps.toList=[97]:=by decide+kernel
  have e2:("z" :Str).cps.toList=[122]:=by decide+kernel
  refine⟨_,rfl,_,_,rfl,rfl,_,rfl,?_⟩
  rw[e1]
  cases hh:(!decide (x.cps.toList< [97])) with
  |false=>rw[hh] at q;exact cH q
  |true=>rw[hh] at q;exact ix ⟨_,_,rfl,rfl,by rw[e2];exact q⟩
theorem D4 (D:Def K mg "is_figure" "is_figure" pY ["sign"]):bg P w K mg base 1 "is_figure" ["sign"] (MO 48 57):=by
 refine D.di GK (fun vs H Q E h=>?_) (fun f bj A outer s H vs Q E hr h=>?_)
 ·obtain⟨n,rfl,_⟩:=h
  rfl
 ·obtain⟨x,rfl,hl,q⟩:=h
  refine⟨_,(ao
     (aD (qD gY gY bJ (pv 0) bJ))),?_⟩
  rw[←AF 48 57 x hl] at q
  have e1:("0" :Str).cps.toList=[48]:=by decide+kernel
  have e2:("9" :Str).cps.toList=[57]:=by decide+kernel
  refine⟨_,rfl,_,_,rfl,rfl,_,rfl,?_⟩
  rw[e1]
  cases hh:(!decide (x.cps.toList< [48])) with
  |false=>rw[hh] at q;exact cH q
  |true=>rw[hh] at q;exact ix ⟨_,_,rfl,rfl,by rw[e2];exact q⟩
theorem K5:ax ["self","text"] ["self","text"] (aj rg):=dB
theorem yz (D:lJ K R "Reader.__init__" rg ["self","text"] []) (T:sW K mg C R uK uN):gE P w K mg base 1 R ["self","text"] [] (wH R):=by
 refine D.di K5 (fun vs H Q E h=>?_) (fun f bj A outer s H vs Q E hr h=>?_)
 ·obtain⟨r,dx,x,rfl,_⟩:=h
  rfl
 ·obtain⟨r,dx,x,rfl,hp,q⟩:=h
  refine⟨_,(ai
     (eO (pv 0) (pv 1) rfl)
    (ao
     (eO (pv 0) aq rfl))),?_⟩
  refine⟨_,rfl,_,rfl,r,R,dx,[],rfl,hp,T.aw,T.jH,(by show 0<1000;decide),_,rfl,r,R,dx,_,rfl,af,T.aw,T.cx,(by show 1<1000;decide),?_⟩
  refine q _ ⟨dx,af⟩ fun b o e hb=>?_
  rw[ah hb,ah hb]
  exact e
theorem OV:ax ["self"] ["self"] (aj yt):=dB
theorem B1 (D:a9 K R "sign" "Reader.sign" yt ["self"]) (T:sW K mg C R uK uN):aJ P w K mg base 1 R "sign" ["self"] (jG R):=by
 refine D.di OV (fun vs H Q E h=>?_) (fun f bj A outer s H vs Q E hr h=>?_)
 ·obtain⟨r,x,p,rfl,_⟩:=h
  rfl
 ·obtain⟨r,x,p,rfl,⟨dx,hR⟩,hp,hx,q⟩:=h
  have big:(1000 :Nat)≤sizeLine:=by decide
  refine⟨_,(ao
     (aD (mB vO (a5 (pv 0) rfl) (iA (a5 (pv 0) rfl)) (iA (aE cf (a5 (pv 0) rfl) aq))))),?_⟩
  rw[←ua x hp] at q
  exact⟨_,rfl,r,R,dx,_,_,rfl,hR,T.aw,T.jH,fX _ _,_,rfl,r,R,dx,_,_,rfl,hR,T.aw,T.cx,bC _ _,_,rfl,_,rfl,r,R,dx,_,_,rfl,hR,T.aw,T.cx,bC _ _,_,_,rfl,rfl,_,rfl,x,rfl,by omega,q⟩
theorem OW:ax ["self","sign"] ["self","sign"] (aj yu):=dB
theorem B2 (D:a9 K R "take" "Reader.take" yu ["self","sign"]) (T:sW K mg C R uK uN) (c1:aJ P w K mg base 1 R "sign" ["self"] (jG R)):aJ P w K mg base 2 R "take" ["self","sign"] (lZ R):=by
 obtain⟨_,_,av⟩:=c1
 refine D.di OW (fun vs H Q E h=>?_) (fun f bj A outer s H vs Q E hr h=>?_)
 ·obtain⟨r,x,p,sg,c,t,post,rfl,_⟩:=h
  rfl
 ·obtain⟨r,x,p,sg,c,t,post,rfl,hs,⟨dx,hR⟩,hh,hx,q⟩:=h
  refine⟨_,(ai
     (bG (aP pe (aN (pv 0) T.aw av.m av.ok (hr.mono (by decide)) av.b .nil ay) (pv 1) (aW _))
      (ao
       gf)
      aR)
    (ao
     (kN (pv 0) aq vA))),?_⟩
  refine⟨_,rfl,r,dx,_,rfl,hR,aI _ _ (by decide+kernel) (by decide+kernel),r,x,p,rfl,⟨dx,hR⟩,hh.1,hx,_,rfl,rfl,_,rfl,BG (by rw[hh.sg,hs]) ?_⟩
  refine⟨_,rfl,r,R,dx,_,_,rfl,hR,T.aw,T.cx,bC _ _,_,_,rfl,rfl,dx,_,hR,lj _ _,?_⟩
  refine q _ ⟨dx,?_⟩ fun b o e hb=>?_
  ·rw[af]
   exact congrArg (fun z=>some (HO.ins R dx z)) (lh x p (p+1))
  ·rw[ah hb];exact e
theorem ud:ax ["self","signs","sign"] ["self","signs"] (aj ko):=dB
theorem rC (D:a9 K R "take_all" "Reader.take_all" ko ["self","signs"]) (T:sW K mg C R uK uN) (c1:aJ P w K mg base 2 R "take" ["self","sign"] (lZ R)):aJ P w K mg base 3 R "take_all" ["self","signs"] (ll R):=by
 obtain⟨_,_,aF⟩:=c1
 refine D.di ud (fun vs H Q E h=>?_) (fun f bj A outer s H vs Q E hr h=>?_)
 ·obtain⟨r,x,p,sg,post,rfl,_⟩:=h
  rfl
 ·obtain⟨r,x,p,sg,post,rfl,ha,hR,hh,hx,q⟩:=h
  refine⟨_,(ao
     (bW PassesOwn.never rfl (Ow (pv 1)) (aG (i:=2) ud.nd rfl (Or.inl rfl))
      (ao
       (bB (bU (pv 0) T.aw aF.m aF.ok (hr.mono (by decide)) aF.b .nil ay (aa (pv 2) ak)))))),?_⟩
  refine⟨_,rfl,sg,rfl,ha,Kr (fun i σ H'=>∃v:Option V,σ=[some (.ref r),some (.str sg),v]∧dk R H' r x (p+i)∧Kept r H H') ⟨none,rfl,hR,Kept.refl r H⟩ ?_ ?_⟩
  ·rintro i c σ H' hc ⟨v,rfl,⟨dx,eF⟩,kk⟩
   have JE:sg.cps.toList[i]? =some c:=by rw[Array.getElem?_toList];exact hc
   have hi:i<sg.cps.toList.length:=(List.getElem?_eq_some_iff.mp JE).1
   have e:sg.cps.toList=sg.cps.toList.take i++c::sg.cps.toList.drop (i+1):=by
    conv=>lhs;rw[←List.take_append_drop i sg.cps.toList]
    congr 1
    rw[List.drop_eq_getElem_cons hi]
    congr 1
    exact(List.getElem?_eq_some_iff.mp JE).2
   have h2:Here x (p+i) (c::sg.cps.toList.drop (i+1)) post:=by
    have h3:=Here.on (t:=sg.cps.toList.take i) (u:=c::sg.cps.toList.drop (i+1)) (e▸hh)
    rwa [List.length_take,Nat.min_eq_left (by omega)] at h3
   refine⟨_,rfl,r,dx,_,rfl,eF,aI _ _ (by decide+kernel) (by decide+kernel),_,rfl,r,x,p+i,_,c,_,post,rfl,rfl,⟨dx,eF⟩,h2,hx,fun cz hR'' k''=>?_⟩
   exact⟨_,rfl,hR'',kk.trans k''⟩
  ·rintro σ H' ⟨v,rfl,eF,kk⟩
   exact q _ eF kk
theorem D5:ax ["self"] ["self"] (aj mN):=dB
theorem AG (D:a9 K R "take_end" "Reader.take_end" mN ["self"]) (T:sW K mg C R uK uN):aJ P w K mg base 1 R "take_end" ["self"] (uc R):=by
 refine D.di D5 (fun vs H Q E h=>?_) (fun f bj A outer s H vs Q E hr h=>?_)
 ·obtain⟨r,x,rfl,_⟩:=h
  rfl
 ·obtain⟨r,x,rfl,⟨dx,hR⟩,hx,q⟩:=h
  refine⟨_,(ao
     (bG (aP mw (a5 (pv 0) rfl) (bw jA rfl T.ph kh (aa (a5 (pv 0) rfl) ak)) (aW _))
      (ao
       gf)
      aR)),?_⟩
  exact⟨_,rfl,r,R,dx,_,_,rfl,hR,T.aw,T.cx,bC _ _,_,rfl,r,R,dx,_,_,rfl,hR,T.aw,T.jH,fX _ _,x,rfl,Nat.le_trans hx (by decide),_,_,rfl,rfl,_,rfl,qU (by omega) q⟩
theorem MP {n:Int} (h1:1≤n) (h2:n<10^12):∃m:Nat,n=(m:Int)∧m<10^12∧m≠0:=⟨n.toNat,by omega,by omega,by omega⟩
theorem oH:ax ["self","longest","begin","written"] ["self","longest"] (aj kq):=dB
theorem uf (D:a9 K R "read_number" "Reader.read_number" kq ["self","longest"]) (T:sW K mg C R uK uN) (c1:aJ P w K mg base 1 R "sign" ["self"] (jG R)) (c2:bg P w K mg base 1 "is_figure" ["sign"] (MO 48 57)):aJ P w K mg base 2 R "read_number" ["self","longest"] (rA R):=by
 obtain⟨_,_,av⟩:=c1
 obtain⟨_,_,iN⟩:=c2
 refine D.di oH (fun vs H Q E h=>?_) (fun f bj A outer s H vs Q E hr h=>?_)
 ·obtain⟨r,x,p,n,lg,post,rfl,_⟩:=h
  rfl
 ·obtain⟨r,x,p,n,lg,post,rfl,⟨dx,hR⟩,hh,n1,n2,fl,GO,hx,q⟩:=h
  obtain⟨m,rfl,m1,m0⟩:=MP n1 n2
  have big:(1000 :Nat)≤sizeLine:=by decide
  have fa:=qc m
  have fh:=GG m m0
  have f1:=KW m
  have fl12:(aQ (m:Int)).length≤12:=by
   have:=lb (k:=12) (by decide) m1
   unfold aQ
   simpa [Str.length] using this
  have e0:("0" :Str)=⟨#[48]⟩:=by decide+kernel
  have e1:("1" :Str)=⟨#[49]⟩:=by decide+kernel
  refine⟨_,(ai
     (bG (aP d7 (aN (pv 0) T.aw av.m av.ok (hr.mono (by decide)) av.b .nil ay) bJ (aW _))
      (ao
       gf)
      aR)
    (ai
     (aB (i:=2) oH.nd rfl (Or.inl rfl) (a5 (pv 0) rfl))
    (ai
     (jd PassesOwn.never (PW.pt (zZ (cJ (aH iN.ok (hr.mono (by decide)) rfl iN.g iN.kp iN.b .nil ay (aa (aN (pv 0) T.aw av.m av.ok (hr.mono (by decide)) av.b .nil ay) ak))) (vy (aP mw (aE ka (a5 (pv 0) rfl) (pv 2)) (pv 1) (aW _)))))
      (ao
       (kN (pv 0) aq vA)))
    (ai
     (aB (i:=3) oH.nd rfl (Or.inl rfl) (mB vO (a5 (pv 0) rfl) (iA (pv 2)) (iA (a5 (pv 0) rfl))))
    (ai
     (bG (aP d7 (pv 3) bJ (aW _))
      (ao
       gf)
      aR)
    (ao
     (aD (xY (qG (pv 3) (fun _=>rfl)) (bK DJ rfl T.yw qT (aa (pv 3) ak)) aq)))))))),?_⟩
  have s0:¬V.str (eP x p)=V.str "0" :=by
   rw[e0]
   intro z
   have z:eP x p=⟨#[48]⟩:=by injection z
   cases hf:aQ (m:Int) with
   |nil=>
    rw[hf] at hh
    rw[hh.OS] at z
    cases post with
    |nil=>have:=congrArg (fun s:Str=>s.cps.toList) z;simp at this
    |cons c r=>
     have:c=48:=by have:=congrArg (fun s:Str=>s.cps.toList) z;simpa using this
     have:=GO c rfl
     subst_vars
     simp [xR] at this
   |cons c r=>
    rw[hf] at hh fh
    rw[hh.sg] at z
    have:c=48:=by have:=congrArg (fun s:Str=>s.cps.toList) z;simpa using this
    exact fh (by rw[this];rfl)
  refine⟨_,rfl,r,dx,_,rfl,hR,aI _ _ (by decide+kernel) (by decide+kernel),r,x,p,rfl,⟨dx,hR⟩,hh.1,hx,rfl,_,rfl,qU s0 ?_⟩
  refine⟨_,rfl,r,R,dx,_,_,rfl,hR,T.aw,T.cx,bC _ _,?_⟩
  refine⟨fun k σ H'=>∃j:Nat,k+j=(aQ (m:Int)).length∧σ=[some (.ref r),some (.int lg),some (.int p),none]∧dk R H' r x (p+j)∧Kept r H H',⟨(aQ (m:Int)).length,0,by omega,rfl,⟨dx,hR⟩,Kept.refl r H⟩,?_⟩
  rintro k σ H' ⟨j,hk,rfl,⟨dQ,eF⟩,kk⟩
  have hle:=hh.le
  refine⟨_,rfl,r,dQ,_,rfl,eF,aI _ _ (by decide+kernel) (by decide+kernel),r,x,p+j,rfl,⟨dQ,eF⟩,by omega,hx,_,rfl,nh _ _,_,rfl,?_⟩
  by_cases hj:j< (aQ (m:Int)).length
  ·have e:aQ (m:Int)=(aQ (m:Int)).take j++(aQ (m:Int))[j]::(aQ (m:Int)).drop (j+1):=by
    conv=>lhs;rw[←List.take_append_drop j (aQ (m:Int))]
    congr 1
    exact List.drop_eq_getElem_cons hj
   have h2:Here x (p+j) ((aQ (m:Int))[j]::(aQ (m:Int)).drop (j+1)) post:=by
    have h3:=Here.on (t:=(aQ (m:Int)).take j) (u:=(aQ (m:Int))[j]::(aQ (m:Int)).drop (j+1)) (e▸hh)
    rwa [List.length_take,Nat.min_eq_left (by omega)] at h3
   have ev:inR 48 57 (eP x (p+j))=true:=by
    rw[h2.sg,ni]
    exact List.all_eq_true.mp fa _ (List.getElem_mem hj)
   rw[ev]
   refine ix ⟨_,rfl,r,R,dQ,_,_,rfl,eF,T.aw,T.cx,bC _ _,_,rfl,_,_,rfl,rfl,_,rfl,_,_,rfl,rfl,_,rfl,vK (by omega) ?_⟩
   refine⟨_,fun σ' cz h=>⟨k - 1,by omega,h⟩,?_⟩
   refine⟨_,rfl,r,R,dQ,_,_,rfl,eF,T.aw,T.cx,bC _ _,_,_,rfl,rfl,dQ,_,eF,lj _ _,?_⟩
   refine⟨j+1,by omega,rfl,⟨dQ,?_⟩,fun b o z w=>?_⟩
   ·rw[af]
    exact congrArg (fun z=>some (HO.ins R dQ z)) (lh x (p+j) (p+j+1))
   ·rw[ah w];exact kk b o z w
  ·have ej:j=(aQ (m:Int)).length:=by omega
   have h2:Here x (p+j) [] post:=by
    have h3:=Here.on (t:=aQ (m:Int)) (u:=[]) (by rw[List.append_nil];exact hh)
    rwa [←ej] at h3
   have ev:inR 48 57 (eP x (p+j))=false:=by
    rw[h2.OS]
    exact wC GO
   rw[ev]
   refine cH (cH ?_)
   have ec:Txt.slice x (some (p:Int)) (some ((p+j:Nat):Int))=fj (m:Int):=by
    rw[ej,hh.cut]
    apply mZ
    simp [aQ]
   refine⟨_,rfl,r,R,dQ,_,_,rfl,eF,T.aw,T.jH,fX _ _,_,rfl,_,rfl,_,rfl,r,R,dQ,_,_,rfl,eF,T.aw,T.cx,bC _ _,_,rfl,x,rfl,by omega,?_⟩
   rw[ec]
   have nw:¬V.str (fj (m:Int))=V.str "1" :=by
    rw[e1]
    intro z
    have z:fj (m:Int)=⟨#[49]⟩:=by injection z
    exact f1 (by unfold aQ;rw[z])
   refine⟨_,rfl,rfl,_,rfl,qU nw ?_⟩
   rw[ej] at eF
   have fin:=q H' ⟨dQ,eF⟩ kk
   have lf:(fj (m:Int)).length=(aQ (m:Int)).length:=by unfold aQ;simp [Str.length]
   refine⟨_,rfl,_,⟨by rw[lf];omega,rfl⟩,?_⟩
   by_cases hm:m=1
   ·subst hm
    have ez:(((fj ((1 :Nat):Int)).length:Int) != 0)=false:=by decide+kernel
    rw[ez]
    exact cH fin
   ·have ez:(((fj (m:Int)).length:Int) != 0)=true:=by
     rw[lf]
     have:(aQ (m:Int)).length≠0:=fun z=>hm (BX m (List.length_eq_zero_iff.mp z))
     simp only [bne_iff_ne,ne_eq]
     omega
    rw[ez]
    exact ix ⟨_,rfl,_,_,rfl,KY m m1 hm,by rw[lf];omega,fin⟩
theorem GP:ax ["self"] ["self"] (aj mP):=dB
theorem ug (D:a9 K R "read_count" "Reader.read_count" mP ["self"]) (T:sW K mg C R uK uN) (c1:aJ P w K mg base 2 R "read_number" ["self","longest"] (rA R)):aJ P w K mg base 3 R "read_count" ["self"] (jo R):=by
 obtain⟨_,_,bH⟩:=c1
 refine D.di GP (fun vs H Q E h=>?_) (fun f bj A outer s H vs Q E hr h=>?_)
 ·obtain⟨r,x,p,n,post,rfl,_⟩:=h
  rfl
 ·obtain⟨r,x,p,n,post,rfl,⟨dx,hR⟩,hh,n1,n2,GO,hx,q⟩:=h
  refine⟨_,(ao
     (aD (bU (pv 0) T.aw bH.m bH.ok (hr.mono (by decide)) bH.b .nil ay (aa (aY (v:= .int 3) rfl T.pI ⟨_,rfl⟩) ak)))),?_⟩
  exact⟨_,rfl,r,dx,_,rfl,hR,aI _ _ (by decide+kernel) (by decide+kernel),r,x,p,n,3,post,rfl,⟨dx,hR⟩,hh,n1,by omega,(by have:=ia n1 n2;unfold aQ;simp [Str.length] at this;simpa using by omega),GO,hx,q⟩
theorem a6 {r a:Addr} {H H':Hp} {o:HO} (k:Kept r H H') (hr:H' r=some o) (h:H' a=none):H a=none:=by
 cases hh:H a with
 |none=>rfl
 |some o'=>
  by_cases e:a=r
  ·rw[e,hr] at h;cases h
  ·rw[k a o' hh e] at h;cases h
theorem K6 {f:Nat→Bool} {l post:List Nat} (h1:∀c∈l,f c=false) (h2:Not f post):Not f (l++post):=by
 cases l with
 |nil=>exact h2
 |cons c r=>
  intro d hd
  have e:c=d:=by simpa using hd
  rw[←e]
  exact h1 c (List.mem_cons_self ..)
theorem GQ {n:Int} (h1:1≤n) (h2:n≤999):∀c∈aQ n,Fi c=false:=by
 intro c hc
 obtain⟨m,rfl,m1,m0⟩:=MP h1 (by omega)
 have:=List.all_eq_true.mp (qc m) c hc
 simp only [xR,Fi,Bool.and_eq_true,decide_eq_true_eq] at*
 simp
 omega
theorem wJ:ax ["self","begin","kind"] ["self"] (aj rh):=dB
theorem yA (D:a9 K R "read_atom" "Reader.read_atom" rh ["self"]) (T:sW K mg C R uK uN) (c1:aJ P w K mg base 1 R "sign" ["self"] (jG R)) (c2:bg P w K mg base 1 "is_great" ["sign"] (MO 65 90)) (c3:bg P w K mg base 1 "is_small" ["sign"] (MO 97 122)) (c4:aJ P w K mg base 3 R "read_count" ["self"] (jo R))
  (c5:gE P w K mg base 1 C ["self","kind","count"] [1] (GA C)):aJ P w K mg base 4 R "read_atom" ["self"] (wI C R):=by
 obtain⟨_,_,av⟩:=c1
 obtain⟨_,_,dm⟩:=c2
 obtain⟨_,_,jI⟩:=c3
 obtain⟨_,_,aL⟩:=c4
 obtain⟨_,_,gA⟩:=c5
 obtain⟨_,GR,GS⟩:=gA.b 1 (by decide)
 refine D.di wJ (fun vs H Q E h=>?_) (fun f bj A outer s H vs Q E hr h=>?_)
 ·obtain⟨r,x,p,k,n,post,rfl,_⟩:=h
  rfl
 ·obtain⟨r,x,p,k,n,post,rfl,⟨dx,hR⟩,hh,⟨c,rk,rfl,hc,Zc,hl⟩,n1,n2,GO,zO,hx,q⟩:=h
  have big:(1000 :Nat)≤sizeLine:=by decide
  have hle:=hh.le
  refine⟨_,(ai
     (bG (jw (cJ (aH dm.ok (hr.mono (by decide)) rfl dm.g dm.kp dm.b .nil ay (aa (aN (pv 0) T.aw av.m av.ok (hr.mono (by decide)) av.b .nil ay) ak))))
      (ao
       gf)
      aR)
    (ai
     (aB (i:=1) wJ.nd rfl (Or.inl rfl) (a5 (pv 0) rfl))
    (ai
     (kN (pv 0) aq vA)
    (ai
     (jd PassesOwn.never (PW.pt (zZ (cJ (aH jI.ok (hr.mono (by decide)) rfl jI.g jI.kp jI.b .nil ay (aa (aN (pv 0) T.aw av.m av.ok (hr.mono (by decide)) av.b .nil ay) ak))) (vy (aP mw (aE ka (a5 (pv 0) rfl) (pv 1)) (aY (v:= .int 3) rfl T.rB ⟨_,rfl⟩) (aW _)))))
      (ao
       (kN (pv 0) aq vA)))
    (ai
     (aB (i:=2) wJ.nd rfl (Or.inl rfl) (mB vO (a5 (pv 0) rfl) (iA (pv 1)) (iA (a5 (pv 0) rfl))))
    (ao
     (aD (f6 gA.m gA.ok (hr.mono (by decide)) rfl T.OQ GS GR ay (aa (pv 2) (aa (aN (pv 0) T.aw aL.m aL.ok (hr.mono (by decide)) aL.b .nil ay) ak)))))))))),?_⟩
  refine⟨_,rfl,r,dx,_,rfl,hR,aI _ _ (by decide+kernel) (by decide+kernel),r,x,p,rfl,⟨dx,hR⟩,hh.1,hx,_,rfl,nh _ _,_,rfl,?_⟩
  have ev:inR 65 90 (eP x p)=true:=by
   rw[Here.sg (c:=c) (t:=rk++aQ n) hh,ni]
   exact hc
  rw[ev]
  refine cH ?_
  refine⟨_,rfl,r,R,dx,_,_,rfl,hR,T.aw,T.cx,bC _ _,?_⟩
  refine⟨_,rfl,r,R,dx,_,_,rfl,hR,T.aw,T.cx,bC _ _,_,_,rfl,rfl,dx,_,hR,lj _ _,?_⟩
  have eL:(upd H r (.ins R dx (cL "place" (.int ((p:Int)+1)) (gk x p)))) r=some (.ins R dx (gk x (p+1))):=by
   rw[af]
   exact congrArg (fun z=>some (HO.ins R dx z)) (lh x p (p+1))
  have k1:Kept r H (upd H r (.ins R dx (cL "place" (.int ((p:Int)+1)) (gk x p)))):=fun b o z w=>by rw[ah w];exact z
  generalize upd H r _=H1 at eL k1 ⊢
  have AH:Here x (p+1) (rk++aQ n) post:=Here.on (t:=[c]) (u:=rk++aQ n) hh
  refine⟨fun m σ H'=>∃j:Nat,m+j=rk.length∧σ=[some (.ref r),some (.int p),none]∧dk R H' r x (p+1+j)∧Kept r H H',⟨rk.length,0,by omega,rfl,⟨dx,eL⟩,k1⟩,?_⟩
  rintro m σ H' ⟨j,hk,rfl,⟨dQ,eF⟩,kk⟩
  have hle1:=AH.le
  rw[List.length_append] at hle1
  refine⟨_,rfl,r,dQ,_,rfl,eF,aI _ _ (by decide+kernel) (by decide+kernel),r,x,p+1+j,rfl,⟨dQ,eF⟩,by omega,hx,_,rfl,nh _ _,_,rfl,?_⟩
  by_cases hj:j<rk.length
  ·have e:rk=rk.take j++rk[j]::rk.drop (j+1):=by
    conv=>lhs;rw[←List.take_append_drop j rk]
    congr 1
    exact List.drop_eq_getElem_cons hj
   have h2:Here x (p+1+j) (rk[j]::(rk.drop (j+1)++aQ n)) post:=by
    have e':rk++aQ n=rk.take j++(rk[j]::(rk.drop (j+1)++aQ n)):=by
     conv=>lhs;rw[e]
     rw[List.append_assoc]
     rfl
    have h3:=Here.on (t:=rk.take j) (u:=rk[j]::(rk.drop (j+1)++aQ n)) (e'▸AH)
    rwa [List.length_take,Nat.min_eq_left (by omega)] at h3
   have ev:inR 97 122 (eP x (p+1+j))=true:=by
    rw[h2.sg,ni]
    exact List.all_eq_true.mp Zc _ (List.getElem_mem hj)
   rw[ev]
   refine ix ⟨_,rfl,r,R,dQ,_,_,rfl,eF,T.aw,T.cx,bC _ _,_,rfl,_,_,rfl,rfl,_,_,rfl,rfl,_,rfl,vK (by omega) ?_⟩
   refine⟨_,fun σ' cz h=>⟨m - 1,by omega,h⟩,?_⟩
   refine⟨_,rfl,r,R,dQ,_,_,rfl,eF,T.aw,T.cx,bC _ _,_,_,rfl,rfl,dQ,_,eF,lj _ _,?_⟩
   refine⟨j+1,by omega,rfl,⟨dQ,?_⟩,fun b o z w=>?_⟩
   ·rw[af]
    exact congrArg (fun z=>some (HO.ins R dQ z)) (lh x (p+1+j) (p+1+j+1))
   ·rw[ah w];exact kk b o z w
  ·have ej:j=rk.length:=by omega
   have h2:Here x (p+1+j) (aQ n) post:=by
    have h3:=Here.on (t:=rk) (u:=aQ n) AH
    rwa [←ej] at h3
   have ev:inR 97 122 (eP x (p+1+j))=false:=by
    have h3:Here x (p+1+j) [] (aQ n++post):=⟨h2.1,by rw[h2.2];rfl⟩
    rw[h3.OS]
    exact wC (K6 (GQ n1 n2) zO)
   rw[ev]
   refine cH (cH ?_)
   have ec:Txt.slice x (some (p:Int)) (some ((p+1+j:Nat):Int))=⟨(c::rk).toArray⟩:=by
    have h3:Here x p (c::rk) (aQ n++post):=⟨hh.1,by rw[hh.2,List.append_assoc]⟩
    have:=h3.cut
    rw[List.length_cons] at this
    rw[show p+1+j=p+(rk.length+1) by omega]
    exact this
   refine⟨_,rfl,r,R,dQ,_,_,rfl,eF,T.aw,T.jH,fX _ _,_,rfl,_,rfl,_,rfl,r,R,dQ,_,_,rfl,eF,T.aw,T.cx,bC _ _,_,rfl,x,rfl,by omega,?_⟩
   rw[ec]
   refine⟨_,rfl,_,rfl,r,dQ,_,rfl,eF,aI _ _ (by decide+kernel) (by decide+kernel),r,x,p+1+j,n,post,rfl,⟨dQ,eF⟩,h2,n1,n2,GO,hx,fun H2 ir k2=>?_⟩
   obtain⟨j4,ir⟩:=ir
   refine fun a da na OX nea=>⟨a,da,_,n,rfl,af,fun H3 h3 k3=>⟨rfl,?_⟩⟩
   have s3:au H2 H3:=fun b o z=>k3 b o (by rw[ah (ag z na),ah (ag z OX)];exact z) (ag z na)
   have kf:=(kk.trans k2)
   refine q a H3 (a6 kf ir na) ⟨da,h3⟩ ⟨j4,?_⟩ (kf.trans (Kept.of s3))
   rw[s3 _ _ ir,List.length_append,List.length_cons]
   rw[show p+1+j+(aQ n).length=p+(rk.length+1+(aQ n).length) by omega]
inductive Tr where
 |one (k:List Nat) (n:Int)
 |gr (ts:List Tr) (n:Int)
def cn:Nat→Tr→List Nat
 |_, .one k n=>k++aQ n
 |0, .gr _ _=>[]
 |d+1, .gr ts n=>40::(ts.flatMap (cn d)++41::aQ n)
def uh:Nat→Tr→Prop
 |_, .one k n=>l6 k∧1≤n∧n≤999
 |0, .gr _ _=>False
 |d+1, .gr ts n=>ts≠[]∧(∀t∈ts,uh d t)∧1≤n∧n≤999
def eQ (C G:Addr):Nat→Hp→Addr→Tr→Prop
 |_,H,p, .one k n=>gz C H p ⟨k.toArray⟩ n
 |0,_,_, .gr _ _=>False
 |d+1,H,p, .gr ts n=>∃dx l ps,H p=some (.ins G dx (mX l n))∧H l=some (.lst (ps.map V.ref))∧Paired (eQ C G d H) ps ts
def S5 (C G:Addr) (d:Nat) (H H':Hp) (a:Addr) (t:Tr):Prop:=∀cz,(∀b o,H b=none→H' b=some o→cz b=some o)→eQ C G d cz a t
def NewL (C G L:Addr) (d:Nat) (H H':Hp) (a:Addr) (t:Tr):Prop:=∀cz,(∀b o,H b=none→b≠L→H' b=some o→cz b=some o)→eQ C G d cz a t
def S6 (C G:Addr) (d:Nat) (H H':Hp) (l:Addr) (ts:List Tr):Prop:=H l=none∧∃ps,H' l=some (.lst (ps.map V.ref))∧∀cz,(∀b o,H b=none→H' b=some o→cz b=some o)→Paired (eQ C G d cz) ps ts
def Stop (post:List Nat):Prop:=Not xR post∧Not Fi post∧Not Fj post∧Not (fun c=>decide (c=40)) post
inductive GU (C G R:Addr) (d:Nat) (vs:List V) (H:Hp) (Q:VK) (E:XK):Prop
 |mk (r:Addr) (x:Str) (p:Nat) (a:Nat) (t:Tr) (post:List Nat) (dX:vs=[.ref r, .int a]) (dY:dk R H r x p) (d8:Here x p (cn d t) post) (fk:uh d t) (gG:a+d≤4) (jE:Not xR post) (oG:Not Fi post) (sV:x.length≤1000) (B0:∀y H',H y=none→S5 C G d H H' y t→dk R H' r x (p+(cn d t).length)→Kept r H H'→Q (.ref y) H')
def B3 (C G R:Addr) (d:Nat):Sp:=GU C G R d
def rD (C G R:Addr):Nat→Sp
 |0=>fun _ _ _ _=>False
 |d+1=>fun vs H Q _=>∃(r:Addr) (x:Str) (p:Nat) (a:Nat) (ts:List Tr) (n:Int) (post:List Nat),vs=[.ref r, .int a]∧dk R H r x p∧Here x p (cn (d+1) (.gr ts n)) post∧uh (d+1) (.gr ts n)∧a+d+1≤4∧Not xR post∧x.length≤1000∧
  ∀y H',H y=none→S5 C G (d+1) H H' y (.gr ts n)→dk R H' r x (p+(cn (d+1) (.gr ts n)).length)→Kept r H H'→Q (.ref y) H'
inductive D6 (C G R:Addr) (d:Nat) (vs:List V) (H:Hp) (Q:VK) (E:XK):Prop
 |mk (r:Addr) (x:Str) (p:Nat) (a:Nat) (ts:List Tr) (post:List Nat) (dX:vs=[.ref r, .int a]) (dY:dk R H r x p) (d8:Here x p (ts.flatMap (cn d)) post) (fk:ts≠[]) (gG:(∀t∈ts,uh d t)) (jE:a+d≤4) (oG:Stop post) (sV:x.length≤1000) (B0:∀l H',S6 C G d H H' l ts→dk R H' r x (p+(ts.flatMap (cn d)).length)→Kept r H H'→Q (.ref l) H')
def nv (C G R:Addr) (d:Nat):Sp:=D6 C G R d
structure rE (K:PySem.W.Frag) (mg:Str→Option Value) (C R G:Addr) (uK uN uB uE uM:Tok):Prop extends sW K mg C R uK uN where
 eN:sR K G
 oI:cG K G "parts"
 oJ:cG K G "count"
 K7:mg "Group" =some (.ref G)
 f9:mg "GROUP_BEGIN" =some (.str "(" uB)
 pj:mg "GROUP_END" =some (.str ")" uE)
 kA:mg "MOST_GROUPS_AROUND" =some (.int 3 uM)
theorem OY:("(" :Str)=⟨#[40]⟩:=by decide+kernel
theorem e41:(")" :Str)=⟨#[41]⟩:=by decide+kernel
theorem oK {d:Nat} {t:Tr} (h:uh d t):∃c r,cn d t=c::r∧((Fj c=true∧∃k n,t= .one k n)∨(c=40∧∃ts n,t= .gr ts n)):=by
 cases t with
 |one k n=>
  have h:l6 k∧1≤n∧n≤999:=by cases d<;>exact h
  obtain⟨⟨c,r,rfl,hc,_⟩,_⟩:=h
  have e:cn d (.one (c::r) n)=c::(r++aQ n):=by cases d<;>rfl
  exact⟨c,_,e, .inl ⟨hc,_,_,rfl⟩⟩
 |gr ts n=>
  cases d with
  |zero=>exact h.elim
  |succ d=>exact⟨40,_,rfl, .inr ⟨rfl,_,_,rfl⟩⟩
theorem K8:ax ["self","around"] ["self","around"] (aj oB):=dB
theorem yB (d:Nat) (D:a9 K R "read_part" "Reader.read_part" oB ["self","around"]) (T:rE K mg C R G uK uN uB uE uM) (c1:aJ P w K mg base 1 R "sign" ["self"] (jG R)) (c2:aJ P w K mg base 4 R "read_atom" ["self"] (wI C R)) (c3:aJ P w K mg base (3*d+4) R "read_group" ["self","around"] (rD C G R d)):
  aJ P w K mg base (3*d+5) R "read_part" ["self","around"] (B3 C G R d):=by
 obtain⟨_,_,av⟩:=c1
 obtain⟨_,_,eR⟩:=c2
 obtain⟨_,_,eh⟩:=c3
 refine D.di K8 (fun vs H Q E h=>?_) (fun f bj A outer s H vs Q E hr h=>?_)
 ·obtain⟨r,x,p,a,t,post,rfl,_⟩:=h
  rfl
 ·obtain⟨r,x,p,a,t,post,rfl,⟨dx,hR⟩,hh,ok,ha,GO,zO,hx,q⟩:=h
  refine⟨_,(ai
     (bG (PW.pt (zZ (aP d7 (aN (pv 0) T.aw av.m av.ok (hr.mono (by omega)) av.b .nil ay) (aY (v:= .str "(") rfl T.f9 ⟨_,rfl⟩) (aW _)) (vy (aP Mx (pv 1) (aY (v:= .int 3) rfl T.kA ⟨_,rfl⟩) (aW _)))))
      (ao
       (aD (bU (pv 0) T.aw eh.m eh.ok (hr.mono (by omega)) eh.b .nil ay (aa (pv 1) ak))))
      aR)
    (ao
     (aD (aN (pv 0) T.aw eR.m eR.ok (hr.mono (by omega)) eR.b .nil ay)))),?_⟩
  obtain⟨c,rest,hc,ht⟩:=oK ok
  have MQ:eP x p=⟨#[c]⟩:=Here.sg (t:=rest) (hc▸hh)
  refine⟨_,rfl,r,dx,_,rfl,hR,aI _ _ (by decide+kernel) (by decide+kernel),r,x,p,rfl,⟨dx,hR⟩,hh.1,hx,rfl,_,rfl,?_⟩
  rcases ht with ⟨hg,k,n,rfl⟩ | ⟨rfl,ts,n,rfl⟩
  ·have ne:¬V.str (eP x p)=V.str "(" :=by
    rw[MQ,OY]
    intro z
    have z:(⟨#[c]⟩:Str)=⟨#[40]⟩:=by injection z
    have:c=40:=by have:=congrArg (fun s:Str=>s.cps.toList) z;simpa using this
    subst this
    simp [Fj] at hg
   refine qU ne ?_
   have MR:l6 k∧1≤n∧n≤999:=by cases d<;>exact ok
   have et:cn d (.one k n)=k++aQ n:=by cases d<;>rfl
   rw[et] at hh q
   refine⟨_,rfl,r,dx,_,rfl,hR,aI _ _ (by decide+kernel) (by decide+kernel),r,x,p,k,n,post,rfl,⟨dx,hR⟩,hh,MR.1,MR.2.1,MR.2.2,GO,zO,hx,fun y H' ny hA eF kp=>q y H' ny (fun cz ke=>?_) eF kp⟩
   obtain⟨dy,hA⟩:=hA
   have e:eQ C G d cz y (.one k n)=gz C cz y ⟨k.toArray⟩ n:=by cases d<;>rfl
   rw[e]
   exact⟨dy,ke _ _ ny hA⟩
  ·cases d with
   |zero=>exact ok.elim
   |succ d=>
    refine vK (by rw[MQ,OY]) ?_
    refine⟨_,rfl,_,_,rfl,rfl,_,rfl,vK (by omega) ?_⟩
    exact⟨_,rfl,r,dx,_,rfl,hR,aI _ _ (by decide+kernel) (by decide+kernel),_,rfl,r,x,p,a,ts,n,post,rfl,⟨dx,hR⟩,hh,ok,by omega,GO,hx,q⟩
inductive GV (X:Addr) (vs:List V) (H:Hp) (Q:VK) (E:XK):Prop
 |mk (p dx l:Addr) (c:Int) (xs:List V) (dX:vs=[.ref p, .ref l, .int c]) (dY:H p=some (.ins X dx [])) (d8:H l=some (.lst xs)) (fk:∀n H',H n=none→H' p=some (.ins X dx (mX n c))→H' n=some (.lst xs)→(∀b o,H b=some o→b≠p→H' b=some o)→Q .cU H')
def nz (X:Addr):Sp:=GV X
theorem fY {H:Hp} {a b m:Addr} {o o':HO} (h:(upd (upd H a o) b o') m=none):H m=none:=by
 by_cases e:m=b
 ·rw[e,af] at h;cases h
 ·rw[ah e] at h
  by_cases e':m=a
  ·rw[e',af] at h;cases h
  ·rwa [ah e'] at h
theorem OZ (l:List Nat):Stop (41::l):=by
 refine⟨?_,?_,?_,?_⟩<;>(intro c hc;have e:41=c:=by simpa using hc)<;>subst e<;>decide
theorem rF:ax ["self","around","parts"] ["self","around"] (aj jD):=dB
theorem AI (D:a9 K R "read_group" "Reader.read_group" jD ["self","around"]):aJ P w K mg base 4 R "read_group" ["self","around"] (rD C G R 0):=
 D.di (k:=3) rF (fun vs H Q E h=>h.elim) (fun f bj A outer s H vs Q E hr h=>h.elim)
theorem D7 (d:Nat) (D:a9 K R "read_group" "Reader.read_group" jD ["self","around"]) (T:rE K mg C R G uK uN uB uE uM) (c1:aJ P w K mg base 2 R "take" ["self","sign"] (lZ R)) (c2:aJ P w K mg base 3 R "read_count" ["self"] (jo R)) (c3:aJ P w K mg base (3*d+6) R "read_parts" ["self","around"] (nv C G R d))
  (c4:gE P w K mg base 1 G ["self","parts","count"] [1] (nz G)):aJ P w K mg base (3*d+7) R "read_group" ["self","around"] (rD C G R (d+1)):=by
 obtain⟨_,_,aF⟩:=c1
 obtain⟨_,_,aL⟩:=c2
 obtain⟨_,_,a7⟩:=c3
 obtain⟨_,_,eN⟩:=c4
 obtain⟨_,D8,D9⟩:=eN.b 1 (by decide)
 refine D.di rF (fun vs H Q E h=>?_) (fun f bj A outer s H vs Q E hr h=>?_)
 ·obtain⟨r,x,p,a,ts,n,post,rfl,_⟩:=h
  rfl
 ·obtain⟨r,x,p,a,ts,n,post,rfl,⟨dx,hR⟩,hh,⟨oA,aU,n1,n2⟩,ha,GO,hx,q⟩:=h
  refine⟨_,(ai
     (bB (bU (pv 0) T.aw aF.m aF.ok (hr.mono (by omega)) aF.b .nil ay (aa (aY (v:= .str "(") rfl T.f9 ⟨_,rfl⟩) ak)))
    (ai
     (aB (i:=2) rF.nd rfl (Or.inl rfl) (bU (pv 0) T.aw a7.m a7.ok (hr.mono (by omega)) a7.b .nil ay (aa (aE cf (pv 1) aq) ak)))
    (ai
     (bB (bU (pv 0) T.aw aF.m aF.ok (hr.mono (by omega)) aF.b .nil ay (aa (aY (v:= .str ")") rfl T.pj ⟨_,rfl⟩) ak)))
    (ao
     (aD (f6 eN.m eN.ok (hr.mono (by omega)) rfl T.K7 D9 D8 ay (aa (pv 2) (aa (aN (pv 0) T.aw aL.m aL.ok (hr.mono (by omega)) aL.b .nil ay) ak)))))))),?_⟩
  have GW:Here x p (40::(ts.flatMap (cn d)++41::aQ n)) post:=hh
  have AH:Here x (p+1) (ts.flatMap (cn d)++41::aQ n) post:=Here.on (t:=[40]) GW
  have O0:Here x (p+1) (ts.flatMap (cn d)) (41::(aQ n++post)):=⟨AH.1,by rw[AH.2,List.append_assoc];rfl⟩
  have Fl:Here x (p+1+(ts.flatMap (cn d)).length) (41::aQ n) post:=Here.on (t:=ts.flatMap (cn d)) AH
  have hh4:Here x (p+1+(ts.flatMap (cn d)).length+1) (aQ n) post:=Here.on (t:=[41]) Fl
  refine⟨_,rfl,r,dx,_,rfl,hR,aI _ _ (by decide+kernel) (by decide+kernel),r,x,p,_,40,_,post,rfl,OY,⟨dx,hR⟩,GW,hx,fun H1 eL k1=>?_⟩
  obtain⟨nV,eL⟩:=eL
  refine⟨_,rfl,r,nV,_,rfl,eL,aI _ _ (by decide+kernel) (by decide+kernel),_,rfl,_,_,rfl,rfl,r,x,p+1,a+1,ts,_,rfl,⟨nV,eL⟩,O0,oA,aU,by omega,OZ _,hx,fun l H2 hN ir k2=>?_⟩
  obtain⟨j4,ir⟩:=ir
  obtain⟨zP,ps,sT,Kl⟩:=hN
  refine⟨_,rfl,r,j4,_,rfl,ir,aI _ _ (by decide+kernel) (by decide+kernel),r,x,p+1+(ts.flatMap (cn d)).length,_,41,_,post,rfl,e41,⟨j4,ir⟩,Fl,hx,fun H3 iu k3=>?_⟩
  obtain⟨wK,iu⟩:=iu
  refine⟨_,rfl,_,rfl,r,wK,_,rfl,iu,aI _ _ (by decide+kernel) (by decide+kernel),r,x,_,n,post,rfl,⟨wK,iu⟩,hh4,n1,n2,GO,hx,fun H4 uk k4=>?_⟩
  obtain⟨Fn,uk⟩:=uk
  have Zd:l≠r:=fun z=>by rw[z,eL] at zP;cases zP
  have MS:=k4 _ _ (k3 _ _ sT Zd) Zd
  refine fun g dg ng AJ neg=>⟨g,dg,l,n,ps.map V.ref,rfl,af,?_,fun m H5 hm hg Rl kp=>⟨rfl,?_⟩⟩
  ·rw[ah (ag MS ng),ah (ag MS AJ)];exact MS
  have s5:au H4 H5:=fun b o z=>kp b o (by rw[ah (ag z ng),ah (ag z AJ)];exact z) (ag z ng)
  have kf:Kept r H H4:=((k1.trans k2).trans k3).trans k4
  refine q g H5 (a6 kf uk ng) (fun cz ke=>?_) ⟨Fn,?_⟩ (kf.trans (Kept.of s5))
  ·refine⟨dg,m,ps,ke _ _ (a6 kf uk ng) hg,ke _ _ (a6 kf uk (fY hm)) Rl,Kl cz fun b o z1 z2=>?_⟩
   have zT:b≠r:=fun z=>by rw[z,eL] at z1;cases z1
   exact ke _ _ (a6 k1 eL z1) (s5 _ _ (k4 _ _ (k3 _ _ z2 zT) zT))
  ·rw[s5 _ _ uk]
   show some (HO.ins R Fn (gk x (p+1+(ts.flatMap (cn d)).length+1+(aQ n).length)))=some (HO.ins R Fn (gk x (p+(40::(ts.flatMap (cn d)++41::aQ n)).length)))
   rw[List.length_cons,List.length_append,List.length_cons]
   rw[show p+1+(ts.flatMap (cn d)).length+1+(aQ n).length=p+((ts.flatMap (cn d)).length+((aQ n).length+1)+1) by omega]
theorem rG {d:Nat}:∀{ts:List Tr},(∀t∈ts,uh d t)→ts.length≤(ts.flatMap (cn d)).length
 | [],_=>Nat.le_refl _
 |t::ts,h=>by
  obtain⟨c,r,e,_⟩:=oK (h t (List.mem_cons_self ..))
  have:=rG (d:=d) (ts:=ts) fun u hu=>h u (List.mem_cons_of_mem _ hu)
  rw[List.flatMap_cons,List.length_append,e,List.length_cons,List.length_cons]
  omega
theorem list_at {α:Type} {l:List α} {i:Nat} (h:i<l.length):l=l.take i++l[i]::l.drop (i+1):=by
 conv=>lhs;rw[←List.take_append_drop i l]
 congr 1
 exact List.drop_eq_getElem_cons h
theorem rH {d:Nat} {ts:List Tr} {post:List Nat} (h:∀t∈ts,uh d t) (hs:Stop post):Not xR (ts.flatMap (cn d)++post)∧Not Fi (ts.flatMap (cn d)++post):=by
 cases ts with
 |nil=>exact⟨hs.1,hs.2.1⟩
 |cons t ts=>
  obtain⟨c,r,e,hc⟩:=oK (h t (List.mem_cons_self ..))
  have hc:Fj c=true∨c=40:=hc.elim (fun z=> .inl z.1) fun z=> .inr z.1
  rw[List.flatMap_cons,e]
  refine⟨fun b hb=>?_,fun b hb=>?_⟩<;>have eb:c=b:=by simpa using hb
  ·subst eb
   rcases hc with hc|rfl
   ·simp only [Fj,xR,Bool.and_eq_true,decide_eq_true_eq] at*
    simp
    omega
   ·decide
  ·subst eb
   rcases hc with hc|rfl
   ·simp only [Fj,Fi,Bool.and_eq_true,decide_eq_true_eq] at*
    simp
    omega
   ·decide
theorem AK {d:Nat} {x:Str} {p:Nat} {ts:List Tr} {post:List Nat} {i:Nat} (h:Here x p (ts.flatMap (cn d)) post) (hi:i<ts.length):Here x (p+((ts.take i).flatMap (cn d)).length) (cn d ts[i]) ((ts.drop (i+1)).flatMap (cn d)++post):=by
 have e:ts.flatMap (cn d)=(ts.take i).flatMap (cn d)++(cn d ts[i]++(ts.drop (i+1)).flatMap (cn d)):=by
  conv=>lhs;rw[list_at hi]
  rw[List.flatMap_append,List.flatMap_cons]
 have h1:=Here.on (t:=(ts.take i).flatMap (cn d)) (e▸h)
 exact⟨h1.1,by rw[h1.2,List.append_assoc]⟩
theorem um {d:Nat} {ts:List Tr} {i:Nat} (hi:i<ts.length):(ts.take (i+1)).flatMap (cn d)=(ts.take i).flatMap (cn d)++cn d ts[i]:=by
 rw[List.take_add_one,List.getElem?_eq_getElem hi]
 show (ts.take i++[ts[i]]).flatMap (cn d)=_
 rw[List.flatMap_append,List.flatMap_cons,List.flatMap_nil,List.append_nil]
theorem aK {α β:Type} {p q:α→β→Prop} (h:∀a b,p a b→q a b):∀{as:List α} {bs:List β},Paired p as bs→Paired q as bs
 |_,_, .nil=> .nil
 |_,_, .cons x t=> .cons (h _ _ x) (aK h t)
theorem bS {α β:Type} {p:α→β→Prop} {a:α} {b:β} (x:p a b):∀{as:List α} {bs:List β},Paired p as bs→Paired p (as++[a]) (bs++[b])
 |_,_, .nil=> .cons x .nil
 |_,_, .cons y t=> .cons y (bS x t)
theorem yC:ax ["self","around","parts"] ["self","around"] (aj kY):=dB
theorem uo (d:Nat) (D:a9 K R "read_parts" "Reader.read_parts" kY ["self","around"]) (T:rE K mg C R G uK uN uB uE uM) (c1:aJ P w K mg base 1 R "sign" ["self"] (jG R)) (c2:bg P w K mg base 1 "is_great" ["sign"] (MO 65 90)) (c3:aJ P w K mg base (3*d+5) R "read_part" ["self","around"] (B3 C G R d)):
  aJ P w K mg base (3*d+6) R "read_parts" ["self","around"] (nv C G R d):=by
 obtain⟨_,_,av⟩:=c1
 obtain⟨_,_,dm⟩:=c2
 obtain⟨_,_,cg⟩:=c3
 refine D.di yC (fun vs H Q E h=>?_) (fun f bj A outer s H vs Q E hr h=>?_)
 ·obtain⟨r,x,p,a,ts,post,rfl,_⟩:=h
  rfl
 ·obtain⟨r,x,p,a,ts,post,rfl,⟨dx,hR⟩,hh,oA,aU,ha,fO,hx,q⟩:=h
  have big:(2000 :Nat)≤sizeLine:=by decide
  have hle:=hh.le
  have hfl:=rG aU
  have t0:0<ts.length:=List.length_pos_iff.mpr oA
  refine⟨_,(ai
     (aB (i:=2) yC.nd rfl (Or.inl rfl) (cD (aa (bU (pv 0) T.aw cg.m cg.ok (hr.mono (by omega)) cg.b .nil ay (aa (pv 1) ak)) ak)))
    (ai
     (jd PassesOwn.never (PW.pt (iy (cJ (aH dm.ok (hr.mono (by omega)) rfl dm.g dm.kp dm.b .nil ay (aa (aN (pv 0) T.aw av.m av.ok (hr.mono (by omega)) av.b .nil ay) ak))) (j9 (aP d7 (aN (pv 0) T.aw av.m av.ok (hr.mono (by omega)) av.b .nil ay) (aY (v:= .str "(") rfl T.f9 ⟨_,rfl⟩) (aW _)))))
      (ao
       (bB (jg PySem.F.plainAttrs_list PySem.F.slot_list_append PySem.F.type_list_append d5 (pv 2) (aa (bU (pv 0) T.aw cg.m cg.ok (hr.mono (by omega)) cg.b .nil ay (aa (pv 1) ak)) ak)))))
    (ao
     (aD (pv 2))))),?_⟩
  have JH:∀i,∀t∈ts.drop i,uh d t:=fun i t ht=>aU t (List.mem_of_mem_drop ht)
  have h0:Here x p (cn d ts[0]) ((ts.drop (0+1)).flatMap (cn d)++post):=AK hh t0
  have n0:=rH (JH (0+1)) fO
  refine⟨_,rfl,r,dx,_,rfl,hR,aI _ _ (by decide+kernel) (by decide+kernel),_,rfl,r,x,p,a,ts[0],_,rfl,⟨dx,hR⟩,h0,aU _ (List.getElem_mem t0),ha,n0.1,n0.2,hx,fun y H1 ny hN eL k1=>⟨(by show 1≤sizeLine;decide),fun L hL=>?_⟩⟩
  obtain⟨nV,eL⟩:=eL
  have xS:H L=none:=a6 k1 eL hL
  have yD:L≠r:=fun z=>by rw[z,eL] at hL;cases hL
  refine⟨fun m σ H'=>∃i:Nat,m+i=ts.length∧σ=[some (.ref r),some (.int a),some (.ref L)]∧dk R H' r x (p+((ts.take i).flatMap (cn d)).length)∧Kept r H H'∧∃ps,H' L=some (.lst (ps.map V.ref))∧ps.length=i∧Paired (NewL C G L d H H') ps (ts.take i),⟨ts.length - 1,1,by omega,rfl,?_,?_,[y],af,rfl,?_⟩,?_⟩
  ·refine⟨nV,?_⟩
   rw[ah (Ne.symm yD),eL]
   have:=um (d:=d) t0
   rw[this]
   rfl
  ·exact k1.trans (Kept.of (au.new hL))
  ·rw[show ts.take 1=[ts[0]] by
    have:=@List.take_add_one _ ts 0
    rw[this,List.getElem?_eq_getElem t0];rfl]
   refine .cons (fun cz ke=>hN cz fun b o z1 z2=>?_) .nil
   have B4:b≠L:=ag z2 hL
   exact ke b o z1 B4 (by rw[ah B4];exact z2)
  rintro m σ H' ⟨i,hm,rfl,⟨dQ,eF⟩,kk,ps,uq,iX,hP⟩
  have Ze:p+((ts.take i).flatMap (cn d)).length≤x.length:=by
   have:((ts.take i).flatMap (cn d)).length≤(ts.flatMap (cn d)).length:=by
    conv=>rhs;rw[←List.take_append_drop i ts,List.flatMap_append,List.length_append]
    omega
   omega
  refine⟨_,rfl,r,dQ,_,rfl,eF,aI _ _ (by decide+kernel) (by decide+kernel),r,x,_,rfl,⟨dQ,eF⟩,Ze,hx,_,rfl,nh _ _,_,rfl,?_⟩
  by_cases hi:i<ts.length
  ·have h2:=AK hh hi
   have Rm:=aU _ (List.getElem_mem hi)
   obtain⟨c,rest,hc,ht⟩:=oK Rm
   have MQ:eP x (p+((ts.take i).flatMap (cn d)).length)=⟨#[c]⟩:=Here.sg (t:=rest) (hc▸h2)
   have nn:=rH (JH (i+1)) fO
   have Kl:ps.length<sizeLine:=by omega
   rcases ht with ⟨hg,_⟩ | ⟨S7,_⟩
   case' inl=>
    have ev:inR 65 90 (eP x (p+((ts.take i).flatMap (cn d)).length))=true:=by
     rw[MQ,ni]
     exact hg
    rw[ev]
    refine ix (ix ?_)
   case' inr=>
    have ev:inR 65 90 (eP x (p+((ts.take i).flatMap (cn d)).length))=false:=by
     rw[MQ,ni,S7]
     rfl
    rw[ev]
    refine cH ⟨_,rfl,r,dQ,_,rfl,eF,aI _ _ (by decide+kernel) (by decide+kernel),r,x,_,rfl,⟨dQ,eF⟩,Ze,hx,rfl,_,rfl,vK (by rw[MQ,OY,S7]) ?_⟩
   all_goals
    refine⟨_,fun σ' cz h=>⟨m - 1,by omega,h⟩,?_⟩
    refine⟨_,rfl, .inl ⟨rfl,_,b5.of uq⟩,_,rfl,r,dQ,_,rfl,eF,aI _ _ (by decide+kernel) (by decide+kernel),_,rfl,r,x,_,a,ts[i],_,rfl,⟨dQ,eF⟩,h2,Rm,ha,nn.1,nn.2,hx,fun y H2 ny hN ir k2=>?_⟩
    obtain⟨j4,ir⟩:=ir
    have sX:=k2 _ _ uq yD
    refine⟨L,_,_,rfl,rfl,sX,by rw[List.length_map];exact Kl,i+1,by omega,rfl,⟨j4,?_⟩,fun b o z w=>?_,ps++[y],by rw[af,List.map_append];rfl,by rw[List.length_append,iX];rfl,?_⟩
    ·rw[ah (Ne.symm yD),ir,um hi,List.length_append,Nat.add_assoc]
    ·rw[ah (ag z xS)]
     exact k2 _ _ (kk _ _ z w) w
    ·rw[List.take_add_one,List.getElem?_eq_getElem hi]
     refine bS (fun cz ke=>hN cz fun b o z1 z2=>?_) (aK (fun c t h cz ke=>h cz fun b o z1 z2 z3=>ke b o z1 z2 ?_) hP)
     ·have B4:b≠L:=fun z=>by rw[z,uq] at z1;cases z1
      exact ke b o (a6 kk eF z1) B4 (by rw[ah B4];exact z2)
     ·have zT:b≠r:=fun z=>by rw[z,hR] at z1;cases z1
      rw[ah z2]
      exact k2 _ _ z3 zT
  ·have ei:i=ts.length:=by omega
   rw[ei,List.take_length] at eF hP Ze ⊢
   have h3:Here x (p+(ts.flatMap (cn d)).length) [] post:=Here.on (t:=ts.flatMap (cn d)) (u:=[]) (by rw[List.append_nil];exact hh)
   have ev:inR 65 90 (eP x (p+(ts.flatMap (cn d)).length))=false:=by
    rw[h3.OS]
    exact wC fO.2.2.1
   rw[ev]
   have ne:¬V.str (eP x (p+(ts.flatMap (cn d)).length))=V.str "(" :=by
    rw[h3.OS,OY]
    intro z
    have z:(⟨(post.take 1).toArray⟩:Str)=⟨#[40]⟩:=by injection z
    cases post with
    |nil=>have:=congrArg (fun s:Str=>s.cps.toList) z;simp at this
    |cons c _=>
     have e:c=40:=by have:=congrArg (fun s:Str=>s.cps.toList) z;simpa using this
     have:=fO.2.2.2 c rfl
     simp [e] at this
   refine cH ⟨_,rfl,r,dQ,_,rfl,eF,aI _ _ (by decide+kernel) (by decide+kernel),r,x,_,rfl,⟨dQ,eF⟩,Ze,hx,rfl,_,rfl,qU ne ?_⟩
   exact⟨_,rfl,q L H' ⟨xS,ps,uq,fun cz ke=>aK (fun c t h=>h cz fun b o z1 _ z3=>ke b o z1 z3) hP⟩ ⟨dQ,eF⟩ kk⟩
theorem rJ (D1:a9 K R "read_group" "Reader.read_group" jD ["self","around"]) (D2:a9 K R "read_part" "Reader.read_part" oB ["self","around"]) (D3:a9 K R "read_parts" "Reader.read_parts" kY ["self","around"]) (T:rE K mg C R G uK uN uB uE uM)
  (c1:aJ P w K mg base 1 R "sign" ["self"] (jG R)) (c2:bg P w K mg base 1 "is_great" ["sign"] (MO 65 90)) (c3:aJ P w K mg base 4 R "read_atom" ["self"] (wI C R)) (c4:aJ P w K mg base 2 R "take" ["self","sign"] (lZ R)) (c5:aJ P w K mg base 3 R "read_count" ["self"] (jo R))
  (c6:gE P w K mg base 1 G ["self","parts","count"] [1] (nz G)):∀d:Nat,aJ P w K mg base (3*d+6) R "read_parts" ["self","around"] (nv C G R d)
 |0=>uo 0 D3 T c1 c2 (yB 0 D2 T c1 c3 (AI D1))
 |d+1=>uo (d+1) D3 T c1 c2 (yB (d+1) D2 T c1 c3 (by rw[show 3*(d+1)+4=3*d+7 by omega];exact D7 d D1 T c4 c5 (rJ D1 D2 D3 T c1 c2 c3 c4 c5 c6 d) c6))
def jq (n:Int):List Nat:=if n=0 then [] else 94::(aQ (if n<0 then -n else n)++[if 0<n then 43 else 45])
def Fp (post:List Nat):Prop:=post=[]∨∃r,post=32::r
theorem Fp.ne {post:List Nat} (h:Fp post) {c:Nat} (hc:c≠32):¬V.str (⟨(post.take 1).toArray⟩:Str)=V.str (⟨#[c]⟩:Str):=by
 intro z
 have z:(⟨(post.take 1).toArray⟩:Str)=⟨#[c]⟩:=by injection z
 have z:=congrArg (fun s:Str=>s.cps.toList) z
 rcases h with rfl| ⟨r,rfl⟩
 ·simp at z
 ·have e:32=c:=by simpa using z
  exact hc e.symm
theorem Fp.stop {post:List Nat} (h:Fp post):Stop post:=by
 rcases h with rfl| ⟨r,rfl⟩
 ·refine⟨?_,?_,?_,?_⟩<;>(intro c hc;cases hc)
 ·refine⟨?_,?_,?_,?_⟩<;>(intro c hc;have e:32=c:=by simpa using hc)<;>subst e<;>decide
inductive AL (R:Addr) (vs:List V) (H:Hp) (Q:VK) (E:XK):Prop
 |mk (r:Addr) (x:Str) (p:Nat) (n:Int) (post:List Nat) (dX:vs=[.ref r]) (dY:dk R H r x p) (d8:Here x p (jq n) post) (fk:Fp post) (gG: -999≤n) (jE:n≤999) (oG:x.length≤1000) (sV:∀H',dk R H' r x (p+(jq n).length)→Kept r H H'→Q (.int n) H')
def ur (R:Addr):Sp:=AL R
structure S8 (K:PySem.W.Frag) (mg:Str→Option Value) (C R:Addr) (uK uN uC uP uI:Tok):Prop extends sW K mg C R uK uN where
 iZ:mg "CHARGE_MARK" =some (.str "^" uC)
 wM:mg "PLUS" =some (.str "+" uP)
 wN:mg "MINUS" =some (.str "-" uI)
theorem S9:("^" :Str)=⟨#[94]⟩:=by decide+kernel
theorem e43:("+" :Str)=⟨#[43]⟩:=by decide+kernel
theorem S':("-" :Str)=⟨#[45]⟩:=by decide+kernel
theorem qf {c b:Nat} (h:c≠b):¬V.str (⟨#[c]⟩:Str)=V.str (⟨#[b]⟩:Str):=by
 intro z
 have z:(⟨#[c]⟩:Str)=⟨#[b]⟩:=by injection z
 exact h (by have:=congrArg (fun s:Str=>s.cps.toList) z;simpa using this)
theorem uu:ax ["self","count"] ["self"] (aj kr):=dB
theorem rK {uC uP uI:Tok} (D:a9 K R "read_charge" "Reader.read_charge" kr ["self"]) (T:S8 K mg C R uK uN uC uP uI) (c1:aJ P w K mg base 1 R "sign" ["self"] (jG R)) (c2:aJ P w K mg base 2 R "take" ["self","sign"] (lZ R)) (c3:aJ P w K mg base 3 R "read_count" ["self"] (jo R)):
  aJ P w K mg base 4 R "read_charge" ["self"] (ur R):=by
 obtain⟨_,_,av⟩:=c1
 obtain⟨_,_,aF⟩:=c2
 obtain⟨_,_,aL⟩:=c3
 refine D.di uu (fun vs H Q E h=>?_) (fun f bj A outer s H vs Q E hr h=>?_)
 ·obtain⟨r,x,p,n,post,rfl,_⟩:=h
  rfl
 ·obtain⟨r,x,p,n,post,rfl,⟨dx,hR⟩,hh,JJ,n1,n2,hx,q⟩:=h
  refine⟨_,(ai
     (bG (aP pe (aN (pv 0) T.aw av.m av.ok (hr.mono (by decide)) av.b .nil ay) (aY (v:= .str "^") rfl T.iZ ⟨_,rfl⟩) (aW _))
      (ao
       (aD aq))
      aR)
    (ai
     (bB (bU (pv 0) T.aw aF.m aF.ok (hr.mono (by decide)) aF.b .nil ay (aa (aY (v:= .str "^") rfl T.iZ ⟨_,rfl⟩) ak)))
    (ai
     (aB (i:=1) uu.nd rfl (Or.inl rfl) (aN (pv 0) T.aw aL.m aL.ok (hr.mono (by decide)) aL.b .nil ay))
    (ai
     (bG (aP d7 (aN (pv 0) T.aw av.m av.ok (hr.mono (by decide)) av.b .nil ay) (aY (v:= .str "-") rfl T.wN ⟨_,rfl⟩) (aW _))
      (ai
       (bB (bU (pv 0) T.aw aF.m aF.ok (hr.mono (by decide)) aF.b .nil ay (aa (aY (v:= .str "-") rfl T.wN ⟨_,rfl⟩) ak)))
      (ao
       (aD (pb kb (pv 1)))))
      aR)
    (ai
     (bB (bU (pv 0) T.aw aF.m aF.ok (hr.mono (by decide)) aF.b .nil ay (aa (aY (v:= .str "+") rfl T.wM ⟨_,rfl⟩) ak)))
    (ao
     (aD (pv 1)))))))),?_⟩
  refine⟨_,rfl,r,dx,_,rfl,hR,aI _ _ (by decide+kernel) (by decide+kernel),r,x,p,rfl,⟨dx,hR⟩,hh.1,hx,rfl,_,rfl,?_⟩
  by_cases h0:n=0
  ·subst h0
   have hh:Here x p [] post:=hh
   have ne:¬V.str (eP x p)=V.str "^" :=by
    rw[hh.OS,S9]
    exact JJ.ne (by decide)
   rw[decide_eq_false ne]
   exact ix (q H ⟨dx,hR⟩ (Kept.refl r H))
  ·have ec:jq n=94::(aQ (if n<0 then -n else n)++[if 0<n then 43 else 45]):=by unfold jq;rw[if_neg h0]
   rw[ec] at hh q
   have a1:1≤(if n<0 then -n else n):=by split<;>omega
   have a2:(if n<0 then -n else n)≤999:=by split<;>omega
   have eq:V.str (eP x p)=V.str "^" :=by rw[hh.sg,S9]
   rw[decide_eq_true eq]
   refine cH ?_
   have AH:Here x (p+1) (aQ (if n<0 then -n else n)++[if 0<n then 43 else 45]) post:=Here.on (t:=[94]) hh
   have O0:Here x (p+1) (aQ (if n<0 then -n else n)) ((if 0<n then 43 else 45)::post):=⟨AH.1,by rw[AH.2,List.append_assoc];rfl⟩
   have Fl:Here x (p+1+(aQ (if n<0 then -n else n)).length) [if 0<n then 43 else 45] post:=Here.on AH
   refine⟨_,rfl,r,dx,_,rfl,hR,aI _ _ (by decide+kernel) (by decide+kernel),r,x,p,_,94,_,post,rfl,S9,⟨dx,hR⟩,hh,hx,fun H1 eL k1=>?_⟩
   obtain⟨nV,eL⟩:=eL
   have nf:Not xR ((if 0<n then 43 else 45)::post):=by
    intro c hc
    have e:(if 0<n then 43 else 45)=c:=by simpa using hc
    rw[←e]
    split<;>rfl
   refine⟨_,rfl,r,nV,_,rfl,eL,aI _ _ (by decide+kernel) (by decide+kernel),r,x,p+1,_,_,rfl,⟨nV,eL⟩,O0,a1,a2,nf,hx,fun H2 ir k2=>?_⟩
   obtain⟨j4,ir⟩:=ir
   have kk:=k1.trans k2
   refine⟨_,rfl,r,j4,_,rfl,ir,aI _ _ (by decide+kernel) (by decide+kernel),r,x,_,rfl,⟨j4,ir⟩,Fl.1,hx,rfl,_,rfl,?_⟩
   have el:p+1+(aQ (if n<0 then -n else n)).length+1=p+(94::(aQ (if n<0 then -n else n)++[if 0<n then 43 else 45])).length:=by
    rw[List.length_cons,List.length_append]
    simp
    omega
   by_cases hp:0<n
   ·rw[if_pos hp] at Fl
    have ne:¬V.str (eP x (p+1+(aQ (if n<0 then -n else n)).length))=V.str "-" :=by
     rw[Fl.sg,S']
     exact qf (by decide)
    refine qU ne ?_
    refine⟨_,rfl,r,j4,_,rfl,ir,aI _ _ (by decide+kernel) (by decide+kernel),r,x,_,_,43,_,post,rfl,e43,⟨j4,ir⟩,Fl,hx,fun H3 iu k3=>?_⟩
    rw[el] at iu
    have:=q H3 iu (kk.trans k3)
    refine⟨_,rfl,?_⟩
    rw[if_neg (by omega)]
    exact this
   ·rw[if_neg hp] at Fl
    refine vK (by rw[Fl.sg,S']) ?_
    refine⟨_,rfl,r,j4,_,rfl,ir,aI _ _ (by decide+kernel) (by decide+kernel),r,x,_,_,45,_,post,rfl,S',⟨j4,ir⟩,Fl,hx,fun H3 iu k3=>?_⟩
    rw[el] at iu
    have:=q H3 iu (kk.trans k3)
    have e2: -(if n<0 then -n else n)=n:=by rw[if_pos (by omega),Int.neg_neg]
    rw[show V.int n=V.int (-(if n<0 then -n else n)) from by rw[e2]] at this
    exact⟨_,rfl,_,rfl,this⟩
theorem npch:¬(("pieces" :Str)="charge"):=by decide+kernel
def pk (l:Addr) (n:Int):List (Str×V):=cL "charge" (.int n) (cL "pieces" (.ref l) [])
theorem jJ (l:Addr) (n:Int):(pk l n).lookup ("pieces" :Str)=some (.ref l):=by
 unfold pk
 rw[az,if_neg npch,az,if_pos rfl]
theorem nB (l:Addr) (n:Int):(pk l n).lookup ("charge" :Str)=some (.int n):=by
 unfold pk
 rw[az,if_pos rfl]
theorem rL (l:Addr) (n:Int) {m:Str} (h1:¬m="charge") (h2:¬m="pieces"):(pk l n).lookup m=none:=by
 unfold pk
 rw[az,if_neg h1,az,if_neg h2]
 all_goals rfl
inductive GX (X:Addr) (vs:List V) (H:Hp) (Q:VK) (E:XK):Prop
 |mk (p dx l:Addr) (c:Int) (xs:List V) (dX:vs=[.ref p, .ref l, .int c]) (dY:H p=some (.ins X dx [])) (d8:H l=some (.lst xs)) (fk:∀n H',H n=none→H' p=some (.ins X dx (pk n c))→H' n=some (.lst xs)→(∀b o,H b=some o→b≠p→H' b=some o)→Q .cU H')
def wO (X:Addr):Sp:=GX X
abbrev j5:=Int×List Tr
def jK (C G Pc:Addr) (d:Nat) (H:Hp) (p:Addr) (x:j5):Prop:=∃dx l ps,H p=some (.ins Pc dx (mX l x.1))∧H l=some (.lst (ps.map V.ref))∧Paired (eQ C G d H) ps x.2
def pq (C G Pc Fo:Addr) (d:Nat) (H:Hp) (f:Addr) (xs:List j5) (n:Int):Prop:=∃dx l ps,H f=some (.ins Fo dx (pk l n))∧H l=some (.lst (ps.map V.ref))∧Paired (jK C G Pc d H) ps xs
def Ta (C G Pc L:Addr) (d:Nat) (H H':Hp) (p:Addr) (x:j5):Prop:=∀cz,(∀b o,H b=none→b≠L→H' b=some o→cz b=some o)→jK C G Pc d cz p x
def O1 (C G Pc Fo:Addr) (d:Nat) (H H':Hp) (f:Addr) (xs:List j5) (n:Int):Prop:=∀cz,(∀b o,H b=none→H' b=some o→cz b=some o)→pq C G Pc Fo d cz f xs n
def lO (d:Nat) (x:j5):List Nat:=aQ x.1++x.2.flatMap (cn d)
def cX (d:Nat) (xs:List j5):List Nat:=xs.flatMap fun x=>46::lO d x
def wL (d:Nat):List j5→Int→List Nat
 | [],_=>[101,94,45]
 |x::r,n=>x.2.flatMap (cn d)++(cX d r++jq n)
def Gf (d:Nat) (x:j5):Prop:=x.2≠[]∧(∀t∈x.2,uh d t)∧1≤x.1∧x.1≤999
def K9 (d:Nat):List j5→Int→Prop
 | [],n=>n= -1
 |x::r,n=>x.1=1∧(∀y∈x::r,Gf d y)∧ -999≤n∧n≤999
inductive wQ (C G Pc Fo R:Addr) (d:Nat) (vs:List V) (H:Hp) (Q:VK) (E:XK):Prop
 |mk (r:Addr) (x:Str) (p:Nat) (post:List Nat) (dX:vs=[.ref r]) (dY:dk R H r x p) (d8:Here x p [101,94,45] post) (fk:x.length≤1000) (gG:∀f H',H f=none→O1 C G Pc Fo d H H' f [] (-1)→dk R H' r x (p+3)→Kept r H H'→Q (.ref f) H')
def pw (C G Pc Fo R:Addr) (d:Nat):Sp:=wQ C G Pc Fo R d
inductive Ea (C G Pc Fo R:Addr) (d:Nat) (vs:List V) (H:Hp) (Q:VK) (E:XK):Prop
 |mk (r:Addr) (x:Str) (p:Nat) (xs:List j5) (n:Int) (post:List Nat) (dX:vs=[.ref r]) (dY:dk R H r x p) (d8:Here x p (wL d xs n) post) (fk:Fp post) (gG:K9 d xs n) (jE:d≤4) (oG:x.length≤1000) (sV:∀f H',H f=none→O1 C G Pc Fo d H H' f xs n→dk R H' r x (p+(wL d xs n).length)→Kept r H H'→Q (.ref f) H')
def rM (C G Pc Fo R:Addr) (d:Nat):Sp:=Ea C G Pc Fo R d
structure lK (K:PySem.W.Frag) (mg:Str→Option Value) (C R G Pc Fo:Addr) (uK uN uB uE uM uC uP uI uD uL uT:Tok):Prop extends rE K mg C R G uK uN uB uE uM,S8 K mg C R uK uN uC uP uI where
 dn:sR K Pc
 bO:sR K Fo
 oM:cG K Pc "parts"
 oN:cG K Pc "count"
 jL:cG K Fo "pieces"
 l7:cG K Fo "charge"
 B5:mg "Piece" =some (.ref Pc)
 uv:mg "Formula" =some (.ref Fo)
 kB:mg "PIECE_DOT" =some (.str "." uD)
 l8:mg "ELECTRON" =some (.str "e^-" uL)
 rN:mg "LONGEST_TEXT" =some (.int 400 uT)
 n_list:mg "list" =none
 GY:mg "abs" =none
theorem eE:("e^-" :Str)=⟨#[101,94,45]⟩:=by decide+kernel
theorem yE {x:Str} {l:List Nat} (h:x.cps.toList=l):Here x 0 l []:=⟨Nat.zero_le _,by rw[List.drop_zero,h,List.append_nil]⟩
theorem yF:ax ["self"] ["self"] (aj hX):=dB
variable {uC uP uI uD uL uT:Tok}
theorem nC (d:Nat) (D:a9 K R "read_electron" "Reader.read_electron" hX ["self"]) (T:lK K mg C R G Pc Fo uK uN uB uE uM uC uP uI uD uL uT) (c1:aJ P w K mg base 3 R "take_all" ["self","signs"] (ll R)) (c2:gE P w K mg base 1 Fo ["self","pieces","charge"] [0] (wO Fo)):
  aJ P w K mg base 4 R "read_electron" ["self"] (pw C G Pc Fo R d):=by
 obtain⟨_,_,aV⟩:=c1
 obtain⟨_,_,bO⟩:=c2
 obtain⟨_,kD,kE⟩:=bO.b 1 (by decide)
 refine D.di yF (fun vs H Q E h=>?_) (fun f bj A outer s H vs Q E hr h=>?_)
 ·obtain⟨r,x,p,post,rfl,_⟩:=h
  rfl
 ·obtain⟨r,x,p,post,rfl,⟨dx,hR⟩,rO,hx,q⟩:=h
  refine⟨_,(ai
     (bB (bU (pv 0) T.aw aV.m aV.ok (hr.mono (by decide)) aV.b .nil ay (aa (aY (v:= .str "e^-") rfl T.l8 ⟨_,rfl⟩) ak)))
    (ao
     (aD (f6 bO.m bO.ok (hr.mono (by decide)) rfl T.uv kE kD ay (aa (cD ak) (aa (pb kb aq) ak)))))),?_⟩
  have ee:("e^-" :Str).cps.toList=[101,94,45]:=by decide+kernel
  have ea:("e^-" :Str).cps.all (· <128)=true:=by decide+kernel
  have el:("e^-" :Str).length=3:=by decide+kernel
  refine⟨_,rfl,r,dx,_,rfl,hR,aI _ _ (by decide+kernel) (by decide+kernel),r,x,p,_,post,rfl,ea,⟨dx,hR⟩,by rw[ee];exact rO,hx,fun H1 eL k1=>?_⟩
  obtain⟨nV,eL⟩:=eL
  refine⟨(by show 0≤sizeLine;decide),fun l hl=>⟨1,rfl,fun g dg ng AJ neg=>⟨g,dg,l, -1,[],rfl,af,?_,fun m H5 hm hg Rl kp=>⟨rfl,?_⟩⟩⟩⟩
  ·rw[ah (ag af ng),ah (ag af AJ)];exact af
  have sl:au H1 (upd H1 l (.lst [])):=au.new hl
  have s5:au (upd H1 l (.lst [])) H5:=fun b o z=>kp b o (by rw[ah (ag z ng),ah (ag z AJ)];exact z) (ag z ng)
  have kf:Kept r H (upd H1 l (.lst [])):=k1.trans (Kept.of sl)
  have Zf:=sl _ _ eL
  refine q g H5 (a6 kf Zf ng) (fun cz ke=>⟨dg,m,[],ke _ _ (a6 kf Zf ng) hg,ke _ _ (a6 kf Zf (fY hm)) Rl, .nil⟩) ⟨nV,?_⟩ (kf.trans (Kept.of s5))
  rw[s5 _ _ Zf,el]
variable {uC uP uI uD uL uT:Tok}
theorem wR {α:Type} (f:α→List Nat) {x:Str} {p:Nat} {ts:List α} {post:List Nat} {i:Nat} (h:Here x p (ts.flatMap f) post) (hi:i<ts.length):Here x (p+((ts.take i).flatMap f).length) (f ts[i]) ((ts.drop (i+1)).flatMap f++post):=by
 have e:ts.flatMap f=(ts.take i).flatMap f++(f ts[i]++(ts.drop (i+1)).flatMap f):=by
  conv=>lhs;rw[list_at hi]
  rw[List.flatMap_append,List.flatMap_cons]
 have h1:=Here.on (t:=(ts.take i).flatMap f) (e▸h)
 exact⟨h1.1,by rw[h1.2,List.append_assoc]⟩
theorem wU {α:Type} (f:α→List Nat) {ts:List α} {i:Nat} (hi:i<ts.length):(ts.take (i+1)).flatMap f=(ts.take i).flatMap f++f ts[i]:=by
 rw[List.take_add_one,List.getElem?_eq_getElem hi]
 show (ts.take i++[ts[i]]).flatMap f=_
 rw[List.flatMap_append,List.flatMap_cons,List.flatMap_nil,List.append_nil]
theorem B6 (n:Int):jq n=[]∨∃r,jq n=94::r:=by
 unfold jq
 split
 ·exact .inl rfl
 ·exact .inr ⟨_,rfl⟩
theorem uw {c:Nat} {l:List Nat} (h:c=46∨c=94):Stop (c::l):=by
 refine⟨?_,?_,?_,?_⟩<;>(intro b hb;have e:c=b:=by simpa using hb)<;>subst e<;>rcases h with rfl|rfl<;>decide
theorem ux (d:Nat) (xs:List j5) (n:Int) {post:List Nat} (JJ:Fp post):Stop (cX d xs++(jq n++post)):=by
 cases xs with
 |nil=>
  show Stop (jq n++post)
  rcases B6 n with e| ⟨r,e⟩
  ·rw[e];exact JJ.stop
  ·rw[e];exact uw (.inr rfl)
 |cons x r=>exact uw (.inl rfl)
theorem wV (d:Nat):∀xs:List j5,xs.length≤(cX d xs).length
 | []=>Nat.le_refl _
 |y::r=>by
  have ih:=wV d r
  show r.length+1≤(46::lO d y++cX d r).length
  rw[List.length_append,List.length_cons]
  omega
theorem Zg:("." :Str)=⟨#[46]⟩:=by decide+kernel
theorem rP:ax ["self","pieces","count"] ["self"] (aj mO):=dB
theorem uy (d:Nat) (D:a9 K R "read_whole" "Reader.read_whole" mO ["self"]) (T:lK K mg C R G Pc Fo uK uN uB uE uM uC uP uI uD uL uT) (c1:aJ P w K mg base 1 R "sign" ["self"] (jG R)) (c2:aJ P w K mg base 2 R "take" ["self","sign"] (lZ R)) (c3:aJ P w K mg base 3 R "read_count" ["self"] (jo R)) (c4:aJ P w K mg base (3*d+6) R "read_parts" ["self","around"] (nv C G R d))
  (c5:aJ P w K mg base 4 R "read_charge" ["self"] (ur R)) (c6:aJ P w K mg base 4 R "read_electron" ["self"] (pw C G Pc Fo R d)) (c7:gE P w K mg base 1 Pc ["self","parts","count"] [1] (nz Pc)) (c8:gE P w K mg base 1 Fo ["self","pieces","charge"] [0] (wO Fo)):
  aJ P w K mg base (3*d+7) R "read_whole" ["self"] (rM C G Pc Fo R d):=by
 obtain⟨_,_,av⟩:=c1
 obtain⟨_,_,aF⟩:=c2
 obtain⟨_,_,aL⟩:=c3
 obtain⟨_,_,a7⟩:=c4
 obtain⟨_,_,dR⟩:=c5
 obtain⟨_,_,dq⟩:=c6
 obtain⟨_,_,dn⟩:=c7
 obtain⟨_,_,bO⟩:=c8
 obtain⟨_,Eb,Ec⟩:=dn.b 0 (by decide)
 obtain⟨_,Ed,Ee⟩:=dn.b 1 (by decide)
 obtain⟨_,kD,kE⟩:=bO.b 1 (by decide)
 refine D.di rP (fun vs H Q E h=>?_) (fun f bj A outer s H vs Q E hr h=>?_)
 ·obtain⟨r,x,p,xs,n,post,rfl,_⟩:=h
  rfl
 ·obtain⟨r,x,p,xs,n,post,rfl,⟨dx,hR⟩,rO,JJ,aU,GZ,hx,q⟩:=h
  have big:(2000 :Nat)≤sizeLine:=by decide
  refine⟨_,(ai
     (bG (aP d7 (aN (pv 0) T.aw av.m av.ok (hr.mono (by omega)) av.b .nil ay) (cE vF (aY (v:= .str "e^-") rfl T.l8 ⟨_,rfl⟩) aq (fun _ _=>rfl)) (aW _))
      (ao
       (aD (aN (pv 0) T.aw dq.m dq.ok (hr.mono (by omega)) dq.b .nil ay)))
      aR)
    (ai
     (aB (i:=1) rP.nd rfl (Or.inl rfl) (cD (aa (f6 dn.m dn.ok (hr.mono (by omega)) rfl T.B5 Ec Eb ay (aa (bU (pv 0) T.aw a7.m a7.ok (hr.mono (by omega)) a7.b .nil ay (aa aq ak)) ak)) ak)))
    (ai
     (jd PassesOwn.never (aP d7 (aN (pv 0) T.aw av.m av.ok (hr.mono (by omega)) av.b .nil ay) (aY (v:= .str ".") rfl T.kB ⟨_,rfl⟩) (aW _))
      (ai
       (bB (bU (pv 0) T.aw aF.m aF.ok (hr.mono (by omega)) aF.b .nil ay (aa (aY (v:= .str ".") rfl T.kB ⟨_,rfl⟩) ak)))
      (ai
       (aB (i:=2) rP.nd rfl (Or.inl rfl) (aN (pv 0) T.aw aL.m aL.ok (hr.mono (by omega)) aL.b .nil ay))
      (ao
       (bB (jg PySem.F.plainAttrs_list PySem.F.slot_list_append PySem.F.type_list_append d5 (pv 1) (aa (f6 dn.m dn.ok (hr.mono (by omega)) rfl T.B5 Ee Ed ay (aa (bU (pv 0) T.aw a7.m a7.ok (hr.mono (by omega)) a7.b .nil ay (aa aq ak)) (aa (pv 2) ak))) ak)))))))
    (ao
     (aD (f6 bO.m bO.ok (hr.mono (by omega)) rfl T.uv kE kD ay (aa (pv 1) (aa (aN (pv 0) T.aw dR.m dR.ok (hr.mono (by omega)) dR.b .nil ay) ak)))))))),?_⟩
  refine⟨_,rfl,r,dx,_,rfl,hR,aI _ _ (by decide+kernel) (by decide+kernel),r,x,p,rfl,⟨dx,hR⟩,rO.1,hx,"e^-",0,101,rfl,rfl,(by decide+kernel),(by decide+kernel),rfl,_,rfl,?_⟩
  cases xs with
  |nil=>
   have hn:n= -1:=aU
   subst hn
   have rO:Here x p [101,94,45] post:=rO
   refine vK (by rw[rO.sg]) ?_
   exact⟨_,rfl,r,dx,_,rfl,hR,aI _ _ (by decide+kernel) (by decide+kernel),r,x,p,post,rfl,⟨dx,hR⟩,rO,hx,q⟩
  |cons x0 r0=>
   obtain⟨h01,Ef,n1,n2⟩:=aU
   have O2:=Ef x0 (List.mem_cons_self ..)
   have hw:Here x p (x0.2.flatMap (cn d)++(cX d r0++jq n)) post:=rO
   have GW:Here x p (x0.2.flatMap (cn d)) (cX d r0++(jq n++post)):=⟨hw.1,by rw[hw.2,List.append_assoc,List.append_assoc]⟩
   have hb:Here x (p+(x0.2.flatMap (cn d)).length) (cX d r0++jq n) post:=Here.on hw
   have Fh:Here x (p+(x0.2.flatMap (cn d)).length) (cX d r0) (jq n++post):=⟨hb.1,by rw[hb.2,List.append_assoc]⟩
   have ne:¬V.str (eP x p)=V.str (⟨#[101]⟩:Str):=by
    have t0:0<x0.2.length:=List.length_pos_iff.mpr O2.1
    obtain⟨c,rest,hc,ht⟩:=oK (O2.2.1 _ (List.getElem_mem t0))
    have h2:=AK GW t0
    have MQ:eP x p=⟨#[c]⟩:=Here.sg (t:=rest) (hc▸h2)
    rw[MQ]
    refine qf ?_
    rcases ht with ⟨hg,_⟩ | ⟨rfl,_⟩
    ·intro z
     subst z
     simp [Fj] at hg
    ·decide
   refine qU ne ?_
   refine⟨_,rfl,r,dx,_,rfl,hR,aI _ _ (by decide+kernel) (by decide+kernel),r,x,p,0,x0.2,_,rfl,⟨dx,hR⟩,GW,O2.1,O2.2.1,by omega,ux d r0 n JJ,hx,fun l H1 hN eL k1=>?_⟩
   obtain⟨nV,eL⟩:=eL
   obtain⟨Zh,ps0,zP,hps0⟩:=hN
   refine fun g dg ng AJ neg=>⟨g,dg,l,1,ps0.map V.ref,rfl,af,?_,fun m H2 hm hg Rl kp=>⟨rfl,(by show 1≤sizeLine;decide),fun L hL=>?_⟩⟩
   ·rw[ah (ag zP ng),ah (ag zP AJ)];exact zP
   have s2:au H1 H2:=fun b o z=>kp b o (by rw[ah (ag z ng),ah (ag z AJ)];exact z) (ag z ng)
   have ir:=s2 _ _ eL
   have k2:Kept r H H2:=k1.trans (Kept.of s2)
   have xS:H L=none:=a6 k2 ir hL
   have yD:L≠r:=fun z=>by rw[z,ir] at hL;cases hL
   have sL:au H2 (upd H2 L (.lst [V.ref g])):=au.new hL
   have ng0:=a6 k1 eL ng
   have nm0:=a6 k1 eL (fY hm)
   have first:Ta C G Pc L d H (upd H2 L (.lst [V.ref g])) g x0:=fun cz ke=>by
    refine⟨dg,m,ps0,?_,ke _ _ nm0 (ag Rl hL) (sL _ _ Rl),hps0 cz fun b o z1 z2=>ke b o z1 (ag (s2 _ _ z2) hL) (sL _ _ (s2 _ _ z2))⟩
    rw[h01]
    exact ke _ _ ng0 (ag hg hL) (sL _ _ hg)
   refine⟨fun k σ H'=>∃i:Nat,k+i=r0.length∧(∃v:Option V,σ=[some (.ref r),some (.ref L),v])∧dk R H' r x (p+(x0.2.flatMap (cn d)).length+(cX d (r0.take i)).length)∧Kept r H H'∧∃ps,H' L=some (.lst (ps.map V.ref))∧ps.length=i+1∧Paired (Ta C G Pc L d H H') ps (x0::r0.take i),⟨r0.length,0,by omega,⟨none,rfl⟩,?_,k2.trans (Kept.of sL),[g],af,rfl, .cons first .nil⟩,?_⟩
   ·exact⟨nV,sL _ _ ir⟩
   rintro k σ H' ⟨i,hk,⟨v,rfl⟩,⟨dQ,eF⟩,kk,ps,uq,iX,hP⟩
   have hle:=Fh.le
   have yi:(cX d (r0.take i)).length≤(cX d r0).length:=by
    unfold cX
    conv=>rhs;rw[←List.take_append_drop i r0,List.flatMap_append,List.length_append]
    omega
   have hr0:=wV d r0
   refine⟨_,rfl,r,dQ,_,rfl,eF,aI _ _ (by decide+kernel) (by decide+kernel),r,x,_,rfl,⟨dQ,eF⟩,by omega,hx,rfl,_,rfl,?_⟩
   by_cases hi:i<r0.length
   ·have h2:Here x (p+(x0.2.flatMap (cn d)).length+(cX d (r0.take i)).length) (46::(aQ r0[i].1++r0[i].2.flatMap (cn d))) (cX d (r0.drop (i+1))++(jq n++post)):=wR (fun x=>46::lO d x) Fh hi
    have K':=Ef _ (List.mem_cons_of_mem _ (List.getElem_mem hi))
    have h3:Here x (p+(x0.2.flatMap (cn d)).length+(cX d (r0.take i)).length+1) (aQ r0[i].1++r0[i].2.flatMap (cn d)) (cX d (r0.drop (i+1))++(jq n++post)):=Here.on (t:=[46]) h2
    have h4:Here x (p+(x0.2.flatMap (cn d)).length+(cX d (r0.take i)).length+1) (aQ r0[i].1) (r0[i].2.flatMap (cn d)++(cX d (r0.drop (i+1))++(jq n++post))):=⟨h3.1,by rw[h3.2,List.append_assoc]⟩
    have h5:Here x (p+(x0.2.flatMap (cn d)).length+(cX d (r0.take i)).length+1+(aQ r0[i].1).length) (r0[i].2.flatMap (cn d)) (cX d (r0.drop (i+1))++(jq n++post)):=Here.on h3
    have st:=ux d (r0.drop (i+1)) n JJ
    have nn:=rH K'.2.1 st
    refine vK (by rw[h2.sg,Zg]) ?_
    refine⟨_,fun σ' cz h=>⟨k - 1,by omega,h⟩,?_⟩
    refine⟨_,rfl,r,dQ,_,rfl,eF,aI _ _ (by decide+kernel) (by decide+kernel),r,x,_,_,46,_,_,rfl,Zg,⟨dQ,eF⟩,h2,hx,fun H3 iu k3=>?_⟩
    obtain⟨wK,iu⟩:=iu
    refine⟨_,rfl,r,wK,_,rfl,iu,aI _ _ (by decide+kernel) (by decide+kernel),r,x,_,r0[i].1,_,rfl,⟨wK,iu⟩,h4,K'.2.2.1,K'.2.2.2,nn.1,hx,fun H4 uk k4=>?_⟩
    obtain⟨Fn,uk⟩:=uk
    have La:=k3.trans k4
    have B7:=La _ _ uq yD
    refine⟨_,rfl, .inl ⟨rfl,_,b5.of B7⟩,_,rfl,r,Fn,_,rfl,uk,aI _ _ (by decide+kernel) (by decide+kernel),r,x,_,0,r0[i].2,_,rfl,⟨Fn,uk⟩,h5,K'.1,K'.2.1,by omega,st,hx,fun l' H5 hN' G0 k5=>?_⟩
    obtain⟨dx5,G0⟩:=G0
    obtain⟨hl0',Rn,O3,hps'⟩:=hN'
    refine⟨_,rfl,fun g' Tb Fq G1 neg'=>⟨g',Tb,l',r0[i].1,Rn.map V.ref,rfl,af,?_,fun m' H6 hm' B8 O4 kp'=>⟨rfl,?_⟩⟩⟩
    ·rw[ah (ag O3 Fq),ah (ag O3 G1)];exact O3
    have s6:au H5 H6:=fun b o z=>kp' b o (by rw[ah (ag z Fq),ah (ag z G1)];exact z) (ag z Fq)
    have k36:Kept r H' H6:=(La.trans k5).trans (Kept.of s6)
    have px:=k5 _ _ B7 yD
    have Lb:=s6 _ _ px
    have k45:Kept r H H4:=kk.trans La
    have k55:Kept r H H5:=k45.trans k5
    refine⟨L,_,_,rfl,rfl,Lb,by rw[List.length_map];omega,i+1,by omega,⟨_,rfl⟩,⟨dx5,?_⟩,fun b o z w=>?_,ps++[g'],by rw[af,List.map_append];rfl,by rw[List.length_append,iX];rfl,?_⟩
    ·rw[ah (Ne.symm yD),s6 _ _ G0]
     have e:=wU (fun x=>46::lO d x) hi
     have e':(cX d (r0.take (i+1))).length=(cX d (r0.take i)).length+((aQ r0[i].1).length+(r0[i].2.flatMap (cn d)).length+1):=by
      unfold cX
      rw[e,List.length_append,List.length_cons]
      unfold lO
      rw[List.length_append]
     rw[e']
     congr 3
     omega
    ·rw[ah (ag z xS)]
     exact k36 _ _ (kk _ _ z w) w
    ·rw[List.take_add_one,List.getElem?_eq_getElem hi]
     refine bS (as:=ps) (bs:=x0::r0.take i) (fun cz ke=>?_) (aK (fun c t h cz ke=>h cz fun b o z1 z2 z3=>ke b o z1 z2 ?_) hP)
     ·have u:∀{b o},H6 b=some o→b≠L→(upd H6 L (.lst (ps.map V.ref++[V.ref g']))) b=some o:=fun {b o} z w=>by rw[ah w];exact z
      have ngL:g'≠L:=fun z=>by rw[z,px] at Fq;cases Fq
      have nm5:=fY hm'
      have nmL:m'≠L:=fun z=>by rw[z,px] at nm5;cases nm5
      refine⟨Tb,m',Rn,ke _ _ (a6 k55 G0 Fq) ngL (u B8 ngL),ke _ _ (a6 k55 G0 nm5) nmL (u O4 nmL),hps' cz fun b o z1 z2=>?_⟩
      have B4:b≠L:=fun z=>by rw[z,B7] at z1;cases z1
      exact ke b o (a6 k45 uk z1) B4 (u (s6 _ _ z2) B4)
     ·have zT:b≠r:=fun z=>by rw[z,hR] at z1;cases z1
      rw[ah z2]
      exact k36 _ _ z3 zT
   ·have ei:i=r0.length:=by omega
    rw[ei,List.take_length] at eF hP ⊢
    have h3:Here x (p+(x0.2.flatMap (cn d)).length+(cX d r0).length) (jq n) post:=Here.on hb
    have ne2:¬V.str (eP x (p+(x0.2.flatMap (cn d)).length+(cX d r0).length))=V.str "." :=by
     rw[Zg]
     rcases B6 n with e| ⟨rr,e⟩
     ·rw[e] at h3
      rw[h3.OS]
      exact JJ.ne (by decide)
     ·rw[e] at h3
      rw[h3.sg]
      exact qf (by decide)
    refine qU ne2 ?_
    refine⟨_,rfl,_,rfl,r,dQ,_,rfl,eF,aI _ _ (by decide+kernel) (by decide+kernel),r,x,_,n,post,rfl,⟨dQ,eF⟩,h3,JJ,n1,n2,hx,fun H3 iu k3=>?_⟩
    obtain⟨wK,iu⟩:=iu
    have nE:=k3 _ _ uq yD
    have Zi:=kk.trans k3
    refine fun g' Tb Fq G1 neg'=>⟨g',Tb,L,n,ps.map V.ref,rfl,af,?_,fun m' H6 hm' B8 O4 kp'=>⟨rfl,?_⟩⟩
    ·rw[ah (ag nE Fq),ah (ag nE G1)];exact nE
    have s6:au H3 H6:=fun b o z=>kp' b o (by rw[ah (ag z Fq),ah (ag z G1)];exact z) (ag z Fq)
    refine q g' H6 (a6 Zi iu Fq) (fun cz ke=>?_) ⟨wK,?_⟩ (Zi.trans (Kept.of s6))
    ·refine⟨Tb,m',ps,ke _ _ (a6 Zi iu Fq) B8,ke _ _ (a6 Zi iu (fY hm')) O4,aK (fun c t h=>h cz fun b o z1 z2 z3=>ke b o z1 ?_) hP⟩
     have zT:b≠r:=fun z=>by rw[z,hR] at z1;cases z1
     exact s6 _ _ (k3 _ _ z3 zT)
    ·rw[s6 _ _ iu]
     rw[show wL d (x0::r0) n=x0.2.flatMap (cn d)++(cX d r0++jq n) from rfl,List.length_append,List.length_append]
     congr 3
     omega
variable {uC uP uI uD uL uT:Tok}
inductive AM (vs:List V) (H:Hp) (Q:VK) (E:XK):Prop
 |mk (x:Str) (dX:vs=[.str x]) (dY:x.length≤400) (d8:Q .cU H)
def oO:Sp:=AM
inductive G2 (C G Pc Fo:Addr) (d:Nat) (vs:List V) (H:Hp) (Q:VK) (E:XK):Prop
 |mk (x:Str) (xs:List j5) (n:Int) (dX:vs=[.str x]) (dY:x.cps.toList=wL d xs n) (d8:K9 d xs n) (fk:d≤4) (gG:x.length≤400) (jE:∀f H',H f=none→O1 C G Pc Fo d H H' f xs n→au H H'→Q (.ref f) H')
def B9 (C G Pc Fo:Addr) (d:Nat):Sp:=G2 C G Pc Fo d
theorem Eg:ax ["text"] ["text"] (aj mK):=dB
theorem AN (D:Def K mg "refuse_too_long" "refuse_too_long" mK ["text"]) (T:lK K mg C R G Pc Fo uK uN uB uE uM uC uP uI uD uL uT):bg P w K mg base 1 "refuse_too_long" ["text"] oO:=by
 refine D.di Eg (fun vs H Q E h=>?_) (fun f bj A outer s H vs Q E hr h=>?_)
 ·obtain⟨x,rfl,_⟩:=h
  rfl
 ·obtain⟨x,rfl,hx,q⟩:=h
  refine⟨_,(ao
     (bG (aP lN (bw jA rfl T.ph kh (aa (pv 0) ak)) (aY (v:= .int 400) rfl T.rN ⟨_,rfl⟩) (aW _))
      (ao
       gf)
      aR)),?_⟩
  exact⟨_,rfl,x,rfl,Nat.le_trans hx (by decide),_,_,rfl,rfl,_,rfl,qU (by omega) q⟩
structure Tc (K:PySem.W.Frag) (mg:Str→Option Value) (C R G Pc Fo:Addr) (uK uN uB uE uM uC uP uI uD uL uT:Tok):Prop extends lK K mg C R G Pc Fo uK uN uB uE uM uC uP uI uD uL uT where
 G3:mg "Reader" =some (.ref R)
theorem l9:ax ["text","reader","formula"] ["text"] (aj kZ):=dB
theorem yG (d:Nat) (D:Def K mg "read_formula" "read_formula" kZ ["text"]) (T:Tc K mg C R G Pc Fo uK uN uB uE uM uC uP uI uD uL uT) (c1:bg P w K mg base 1 "refuse_too_long" ["text"] oO) (c2:gE P w K mg base 1 R ["self","text"] [] (wH R)) (c3:aJ P w K mg base (3*d+7) R "read_whole" ["self"] (rM C G Pc Fo R d)) (c4:aJ P w K mg base 1 R "take_end" ["self"] (uc R)):
  bg P w K mg base (3*d+8) "read_formula" ["text"] (B9 C G Pc Fo d):=by
 obtain⟨_,_,bD⟩:=c1
 obtain⟨_,_,aw⟩:=c2
 obtain⟨_,_,bL⟩:=c3
 obtain⟨_,_,fE⟩:=c4
 obtain⟨_,AO,AQ⟩:=aw.b 0 (by decide)
 refine D.di l9 (fun vs H Q E h=>?_) (fun f bj A outer s H vs Q E hr h=>?_)
 ·obtain⟨x,xs,n,rfl,_⟩:=h
  rfl
 ·obtain⟨x,xs,n,rfl,rO,aU,GZ,hx,q⟩:=h
  refine⟨_,(ai
     (bB (aH bD.ok (hr.mono (by omega)) rfl bD.g bD.kp bD.b .nil ay (aa (pv 0) ak)))
    (ai
     (aB (i:=1) l9.nd rfl (Or.inl rfl) (f6 aw.m aw.ok (hr.mono (by omega)) rfl T.G3 AQ AO ay (aa (pv 0) ak)))
    (ai
     (aB (i:=2) l9.nd rfl (Or.inl rfl) (aN (pv 1) T.aw bL.m bL.ok (hr.mono (by omega)) bL.b .nil ay))
    (ai
     (bB (aN (pv 1) T.aw fE.m fE.ok (hr.mono (by omega)) fE.b .nil ay))
    (ao
     (aD (pv 2))))))),?_⟩
  refine⟨_,rfl,x,rfl,hx,?_⟩
  refine⟨_,rfl,fun r dr nr ndr ner=>⟨r,dr,x,rfl,af,fun H1 eL k1=>⟨rfl,?_⟩⟩⟩
  obtain⟨nV,eL⟩:=eL
  have s1:au H H1:=fun b o z=>k1 b o (by rw[ah (ag z nr),ah (ag z ndr)];exact z) (ag z nr)
  refine⟨_,rfl,r,nV,_,rfl,eL,aI _ _ (by decide+kernel) (by decide+kernel),r,x,0,xs,n,[],rfl,⟨nV,eL⟩,yE rO, .inl rfl,aU,GZ,by omega,fun f H2 nf hF ir k2=>?_⟩
  obtain⟨j4,ir⟩:=ir
  have hxe:0+(wL d xs n).length=x.length:=by rw[←rO];simp [Str.length]
  rw[hxe] at ir
  have back:∀b,H1 b=none→H b=none:=fun b z=>by
   cases hh:H b with
   |none=>rfl
   |some o=>rw[s1 _ _ hh] at z;cases z
  refine⟨_,rfl,r,j4,_,rfl,ir,aI _ _ (by decide+kernel) (by decide+kernel),r,x,rfl,⟨j4,ir⟩,by omega,?_⟩
  exact⟨_,rfl,q f H2 (back f nf) (fun cz ke=>hF cz fun b o z1 z2=>ke b o (back b z1) z2) fun b o z=>k2 b o (s1 _ _ z) (ag z nr)⟩
theorem bE (a b:List Nat):(⟨a.toArray⟩:Str)++⟨b.toArray⟩=⟨(a++b).toArray⟩:=by
 show (⟨a.toArray++b.toArray⟩:Str)=_
 simp
theorem Ca (d:Nat):∀ts:List Tr,jn (ts.map fun t=>(⟨(cn d t).toArray⟩:Str))=⟨(ts.flatMap (cn d)).toArray⟩
 | []=>rfl
 |t::ts=>by
  rw[List.map_cons,KQ,Ca d ts,bE,List.flatMap_cons]
theorem bo (a:List Nat):(⟨a.toArray⟩:Str).length=a.length:=by simp [Str.length]
theorem de (n:Int):fj n=⟨(aQ n).toArray⟩:=by
 apply mZ
 simp [aQ]
theorem wW {d:Nat} {ts:List Tr} {t:Tr} (h:t∈ts):(cn d t).length≤(ts.flatMap (cn d)).length:=by
 obtain⟨s,r,rfl⟩:=List.append_of_mem h
 rw[List.flatMap_append,List.flatMap_cons,List.length_append,List.length_append]
 omega
def oP (C G:Addr):Nat→Sp
 |0=>fun _ _ _ _=>False
 |d+1=>fun vs H Q _=>∃(g:Addr) (ts:List Tr) (n:Int),vs=[.ref g]∧eQ C G (d+1) H g (.gr ts n)∧uh (d+1) (.gr ts n)∧(cn (d+1) (.gr ts n)).length≤1000∧∀H',au H H'→Q (.str ⟨(cn (d+1) (.gr ts n)).toArray⟩) H'
inductive AR (C G:Addr) (d:Nat) (vs:List V) (H:Hp) (Q:VK) (E:XK):Prop
 |mk (l:Addr) (ps:List Addr) (ts:List Tr) (dX:vs=[.ref l]) (dY:H l=some (.lst (ps.map V.ref))) (d8:Paired (eQ C G d H) ps ts) (fk:(∀t∈ts,uh d t)) (gG:(ts.flatMap (cn d)).length≤1000) (jE:∀H',au H H'→Q (.str ⟨(ts.flatMap (cn d)).toArray⟩) H')
def lq (C G:Addr) (d:Nat):Sp:=AR C G d
theorem eQ.same {C G:Addr}:∀{d:Nat} {H H':Hp} {p:Addr} {t:Tr},eQ C G d H p t→au H H'→eQ C G d H' p t
 |0,H,H',p, .one k n,h,e=>gz.same h e
 |d+1,H,H',p, .one k n,h,e=>gz.same (C:=C) (k:=⟨k.toArray⟩) (n:=n) h e
 |0,_,_,_, .gr _ _,h,_=>h.elim
 |d+1,H,H',p, .gr ts n,⟨dx,l,ps,h1,h2,h3⟩,e=>⟨dx,l,ps,e _ _ h1,e _ _ h2,aK (fun a b h=>eQ.same h e) h3⟩
theorem bI {α β:Type} {p:α→β→Prop}:∀{as:List α} {bs:List β} {i:Nat} {a:α},Paired p as bs→as[i]? =some a→∃b,bs[i]? =some b∧p a b
 |_,_,_,_, .nil,h=>by simp at h
 |_,_,0,_, .cons h _,e=>⟨_,rfl,by have e:=Option.some.inj e;rw[←e];exact h⟩
 |_,_,i+1,_, .cons _ t,e=>bI (i:=i) t e
theorem G4:ax ["parts"] ["parts"] (aj kW):=dB
theorem Lc {k:List Nat} (h:l6 k):(⟨k.toArray⟩:Str).length≤3:=by
 obtain⟨c,r,rfl,_,_,hl⟩:=h
 rw[bo,List.length_cons]
 omega
theorem rQ (d:Nat) (D:Def K mg "parts_shown" "parts_shown" kW ["parts"]) (T:rE K mg C R G uK uN uB uE uM) (c1:aJ P w K mg base 2 C "shown" ["self"] (wz C)) (c2:aJ P w K mg base (2*d+2) G "shown" ["self"] (oP C G d)):bg P w K mg base (2*d+3) "parts_shown" ["parts"] (lq C G d):=by
 obtain⟨_,_,jM⟩:=c1
 obtain⟨_,_,i0⟩:=c2
 refine D.di G4 (fun vs H Q E h=>?_) (fun f bj A outer s H vs Q E hr h=>?_)
 ·obtain⟨l,ps,ts,rfl,_⟩:=h
  rfl
 ·obtain⟨l,ps,ts,rfl,hl,hP,aU,hz,q⟩:=h
  have big:(2000 :Nat) <sizeLine:=by decide
  have hfl:=rG aU
  have lp:ps.length=ts.length:=Paired.length hP
  refine⟨_,(ao
     (aD (jg PySem.F.plainAttrs_str PySem.F.slot_str_join PySem.F.type_str_join pV bJ (aa (fy (sc:=(aj kW)) (NX:=["parts"]) (N:=["part"]) (fr:=[none]) ⟨by rfl,by rfl,by decide+kernel,by decide+kernel,by decide+kernel,by rfl,by decide+kernel⟩ rfl rfl rfl (cN (pv 0)) (fun _ _ _ _=>(aG (i:=0) (show (["part"]:List Str).Nodup by decide+kernel) rfl (Or.inl rfl) (Or.inr rfl))) (fun _ _ _ _=>f7) (fun _ _ _ _=>(F1 (aN (pv 0) T.gA jM.m jM.ok (hr.mono (by omega)) jM.b .nil ay) (aN (pv 0) T.eN i0.m i0.ok (hr.mono (by omega)) i0.b .nil ay)))) ak)))),?_⟩
  refine⟨rfl,_,rfl,l,rfl,⟨_,b5.of hl⟩,fun D hD=>tS (K:=K) (a:=l) (D:=D) (xs:=ps.map V.ref) (fun i σ H'=>∃v:Option V,σ=[v]∧au H H'∧H' D=some (.lst ((ts.take i).map fun t=>V.str ⟨(cn d t).toArray⟩)))
   ?_ (fun i σ H' _ ⟨_,_,e,_⟩=>b5.of (e _ _ hl)) ?_ ?_⟩
  ·exact⟨none,rfl,au.new hD,af⟩
  ·rintro i v σ H' hi ⟨v',rfl,e,Cb⟩ N hN
   rw[List.getElem?_map] at hi
   obtain⟨p,hp,rfl⟩:∃p,ps[i]? =some p∧v=V.ref p:=by
    cases hh:ps[i]? with
    |none=>rw[hh] at hi;cases hi
    |some p=>rw[hh] at hi;exact⟨p,rfl,(Option.some.inj hi).symm⟩
   obtain⟨t,ht,hT⟩:=bI hP hp
   have hT:=hT.same e
   have Rm:=aU t (List.mem_of_getElem? ht)
   have lt:=Nat.le_trans (wW (d:=d) (List.mem_of_getElem? ht)) hz
   have fin:∀cz,au H' cz→∃ys,cz D=some (.lst ys)∧ys.length<sizeLine∧N [some (V.ref p)] (upd cz D (.lst (ys++[V.str ⟨(cn d t).toArray⟩]))):=fun cz e'=>by
    refine⟨_,e' _ _ Cb,?_,hN _ _ ⟨_,rfl,fun b o z=>?_,?_⟩⟩
    ·rw[List.length_map]
     have:(ts.take i).length≤ts.length:=List.length_take_le' _ _
     omega
    ·rw[ah (ag z hD)]
     exact e' _ _ (e _ _ z)
    ·rw[af,List.take_add_one,ht,List.map_append]
     rfl
   cases t with
   |one k n=>
    have MR:l6 k∧1≤n∧n≤999:=by cases d<;>exact Rm
    have hA:gz C H' p ⟨k.toArray⟩ n:=by cases d<;>exact hT
    have et:(⟨(cn d (.one k n)).toArray⟩:Str)=⟨k.toArray⟩++fj n:=by
     rw[de,bE]
     cases d<;>rfl
    obtain⟨dx,yf⟩:=id hA
    have:=fin H' (au.refl _)
    rw[et] at this
    exact Or.inl ⟨_,rfl,p,dx,_,rfl,yf,BV _ _ (by decide+kernel) (by decide+kernel),p,_,n,rfl,hA,Lc MR.1,MR.2.1,MR.2.2,this⟩
   |gr us n=>
    cases d with
    |zero=>exact Rm.elim
    |succ d=>
     obtain⟨dx,l',Rn,h1,h2,h3⟩:=id hT
     exact Or.inr ⟨_,rfl,p,dx,_,rfl,h1,mY _ _ (by decide+kernel) (by decide+kernel),p,us,n,rfl,hT,Rm,lt,fin⟩
  ·rintro σ H' ⟨v,rfl,e,Cb⟩
   rw[List.length_map,lp,List.take_length] at Cb
   have es:((ts.map fun t=>(⟨(cn d t).toArray⟩:Str)).map (·.length)).sum=(ts.flatMap (cn d)).length:=by
    rw[List.map_map,List.length_flatMap]
    congr 1
   refine⟨_,D,ts.map (fun t=>⟨(cn d t).toArray⟩),rfl,rfl,b5.of (by rw[Cb,List.map_map];rfl),?_,?_⟩
   ·have e0:("" :Str).length=0:=by decide+kernel
    rw[es,e0]
    omega
   ·rw[join_eq,Ca]
    exact q _ e
theorem yH:ax ["self"] ["self"] (aj kX):=dB
theorem AS (D:a9 K G "shown" "Group.shown" kX ["self"]):aJ P w K mg base 2 G "shown" ["self"] (oP C G 0):=
 D.di (k:=1) yH (fun vs H Q E h=>h.elim) (fun f bj A outer s H vs Q E hr h=>h.elim)
theorem AU (d:Nat) (D:a9 K G "shown" "Group.shown" kX ["self"]) (T:rE K mg C R G uK uN uB uE uM) (c1:bg P w K mg base (2*d+3) "parts_shown" ["parts"] (lq C G d)) (c2:bg P w K mg base 1 "count_shown" ["count"] kx):aJ P w K mg base (2*d+4) G "shown" ["self"] (oP C G (d+1)):=by
 obtain⟨_,_,cm⟩:=c1
 obtain⟨_,_,aZ⟩:=c2
 refine D.di yH (fun vs H Q E h=>?_) (fun f bj A outer s H vs Q E hr h=>?_)
 ·obtain⟨g,ts,n,rfl,_⟩:=h
  rfl
 ·obtain⟨g,ts,n,rfl,⟨dx,l,ps,hg,hl,hP⟩,⟨oA,aU,n1,n2⟩,hz,q⟩:=h
  have big:(2000 :Nat)≤sizeLine:=by decide
  have hz:(40::(ts.flatMap (cn d)++41::aQ n)).length≤1000:=hz
  rw[List.length_cons,List.length_append,List.length_cons] at hz
  have e1:("(" :Str).length=1:=by decide+kernel
  have e2:(")" :Str).length=1:=by decide+kernel
  have lf:(fj n).length=(aQ n).length:=by rw[de,bo]
  have ee:(⟨(cn (d+1) (.gr ts n)).toArray⟩:Str)="(" ++⟨(ts.flatMap (cn d)).toArray⟩++")" ++fj n:=by
   rw[de,OY,e41]
   rw[show (⟨#[40]⟩:Str)=⟨[40].toArray⟩ from rfl,show (⟨#[41]⟩:Str)=⟨[41].toArray⟩ from rfl,bE,bE,bE]
   simp [cn]
  rw[ee] at q
  refine⟨_,(ao
     (aD (aE bu (aE bu (aE bu (aY (v:= .str "(") rfl T.f9 ⟨_,rfl⟩) (aH cm.ok (hr.mono (by omega)) rfl cm.g cm.kp cm.b .nil ay (aa (a5 (pv 0) rfl) ak))) (aY (v:= .str ")") rfl T.pj ⟨_,rfl⟩)) (aH aZ.ok (hr.mono (by omega)) rfl aZ.g aZ.kp aZ.b .nil ay (aa (a5 (pv 0) rfl) ak))))),?_⟩
  refine⟨_,rfl,g,G,dx,_,_,rfl,hg,T.eN,T.oI,iK _ _,l,ps,ts,rfl,hl,hP,aU,by omega,fun H1 s1=>⟨_,_,rfl,rfl,?_,_,_,rfl,rfl,?_,_,rfl,g,G,dx,_,_,rfl,s1 _ _ hg,T.eN,T.oJ,iL _ _,n,rfl,n1,n2,_,_,rfl,rfl,?_,q _ s1⟩⟩
  ·rw[e1,bo]
   omega
  ·rw[bz,e1,e2,bo]
   omega
  ·rw[bz,bz,e1,e2,bo,lf]
   omega
theorem uz (D1:Def K mg "parts_shown" "parts_shown" kW ["parts"]) (D2:a9 K G "shown" "Group.shown" kX ["self"]) (T:rE K mg C R G uK uN uB uE uM) (c1:aJ P w K mg base 2 C "shown" ["self"] (wz C)) (c2:bg P w K mg base 1 "count_shown" ["count"] kx):∀d:Nat,bg P w K mg base (2*d+3) "parts_shown" ["parts"] (lq C G d)
 |0=>rQ 0 D1 T c1 (AS D2)
 |d+1=>rQ (d+1) D1 T c1 (by rw[show 2*(d+1)+2=2*d+4 by omega];exact AU d D2 T (uz D1 D2 T c1 c2 d) c2)
variable {uC uP uI uD uL uT:Tok}
inductive rR (C G Pc:Addr) (d:Nat) (vs:List V) (H:Hp) (Q:VK) (E:XK):Prop
 |mk (q:Addr) (x:j5) (dX:vs=[.ref q]) (dY:jK C G Pc d H q x) (d8:Gf d x) (fk:(lO d x).length≤1000) (gG:∀H',au H H'→Q (.str ⟨(lO d x).toArray⟩) H')
def lP (C G Pc:Addr) (d:Nat):Sp:=rR C G Pc d
theorem wX:ax ["self"] ["self"] (aj iG):=dB
theorem rS (d:Nat) (D:a9 K Pc "shown" "Piece.shown" iG ["self"]) (T:lK K mg C R G Pc Fo uK uN uB uE uM uC uP uI uD uL uT) (c1:bg P w K mg base (2*d+3) "parts_shown" ["parts"] (lq C G d)) (c2:bg P w K mg base 1 "count_shown" ["count"] kx):aJ P w K mg base (2*d+4) Pc "shown" ["self"] (lP C G Pc d):=by
 obtain⟨_,_,cm⟩:=c1
 obtain⟨_,_,aZ⟩:=c2
 refine D.di wX (fun vs H Q E h=>?_) (fun f bj A outer s H vs Q E hr h=>?_)
 ·obtain⟨p,x,rfl,_⟩:=h
  rfl
 ·obtain⟨p,x,rfl,⟨dx,l,ps,hp,hl,hP⟩,⟨oA,aU,n1,n2⟩,hz,q⟩:=h
  have big:(2000 :Nat)≤sizeLine:=by decide
  have hz':=hz
  unfold lO at hz' q
  rw[List.length_append] at hz'
  have lf:(fj x.1).length=(aQ x.1).length:=by rw[de,bo]
  rw[←bE,←de] at q
  refine⟨_,(ao
     (aD (aE bu (aH aZ.ok (hr.mono (by omega)) rfl aZ.g aZ.kp aZ.b .nil ay (aa (a5 (pv 0) rfl) ak)) (aH cm.ok (hr.mono (by omega)) rfl cm.g cm.kp cm.b .nil ay (aa (a5 (pv 0) rfl) ak))))),?_⟩
  refine⟨_,rfl,p,Pc,dx,_,_,rfl,hp,T.dn,T.oN,iL _ _,x.1,rfl,n1,n2,_,rfl,p,Pc,dx,_,_,rfl,hp,T.dn,T.oM,iK _ _,l,ps,x.2,rfl,hl,hP,aU,by omega,fun H1 e1=>⟨_,_,rfl,rfl,?_,q _ e1⟩⟩
  rw[lf,bo]
  omega
inductive AV (vs:List V) (H:Hp) (Q:VK) (E:XK):Prop
 |mk (n:Int) (dX:vs=[.int n]) (dY: -999≤n) (d8:n≤999) (fk:Q (.str ⟨(jq n).toArray⟩) H)
def uA:Sp:=AV
theorem O5 {n:Int} (h1: -999≤n) (h2:n≤999):(jq n).length≤5:=by
 unfold jq
 split
 ·exact Nat.zero_le _
 ·rename_i h0
  have:=ia (n:=if n<0 then -n else n) (by split<;>omega) (by split<;>omega)
  rw[de,bo] at this
  rw[List.length_cons,List.length_append]
  simp
  omega
theorem tf:ax ["charge"] ["charge"] (aj gO):=dB
theorem oQ (D:Def K mg "charge_shown" "charge_shown" gO ["charge"]) (T:lK K mg C R G Pc Fo uK uN uB uE uM uC uP uI uD uL uT) (c1:bg P w K mg base 1 "count_shown" ["count"] kx):bg P w K mg base 2 "charge_shown" ["charge"] uA:=by
 obtain⟨_,_,aZ⟩:=c1
 refine D.di tf (fun vs H Q E h=>?_) (fun f bj A outer s H vs Q E hr h=>?_)
 ·obtain⟨n,rfl,_⟩:=h
  rfl
 ·obtain⟨n,rfl,h1,h2,q⟩:=h
  have big:(2000 :Nat)≤sizeLine:=by decide
  refine⟨_,(ai
     (bG (aP d7 (pv 0) aq (aW _))
      (ao
       (aD bJ))
      aR)
    (ao
     (aD (aE bu (aE bu (aY (v:= .str "^") rfl T.iZ ⟨_,rfl⟩) (aH aZ.ok (hr.mono (by decide)) rfl aZ.g aZ.kp aZ.b .nil ay (aa (bw x2 rfl T.GY F3 (aa (pv 0) ak)) ak))) (xY (aP lN (pv 0) aq (aW _)) (aY (v:= .str "+") rfl T.wM ⟨_,rfl⟩) (aY (v:= .str "-") rfl T.wN ⟨_,rfl⟩)))))),?_⟩
  refine⟨_,rfl,rfl,_,rfl,fM (fun e=>?_) fun e=>?_⟩
  ·have e:n=0:=by simpa using e
   subst e
   have e0:(⟨(jq 0).toArray⟩:Str)="" :=by decide+kernel
   rw[e0] at q
   exact q
  ·have e:¬n=0:=by simpa using e
   have a1:1≤(if n<0 then -n else n):=by split<;>omega
   have a2:(if n<0 then -n else n)≤999:=by split<;>omega
   have z:=ia a1 a2
   have e1:("^" :Str).length=1:=by decide+kernel
   refine⟨_,rfl,n,rfl,_,rfl,a1,a2,_,_,rfl,rfl,by rw[e1];omega,_,rfl,_,_,rfl,rfl,?_⟩
   have ec:(⟨(jq n).toArray⟩:Str)="^" ++fj (if n<0 then -n else n)++(if 0<n then ("+" :Str) else ("-" :Str)):=by
    unfold jq
    rw[if_neg e,de,S9,e43,S']
    rw[show (⟨#[94]⟩:Str)=⟨[94].toArray⟩ from rfl,bE]
    by_cases hp:0<n
    ·rw[if_pos hp,if_pos hp,show (⟨#[43]⟩:Str)=⟨[43].toArray⟩ from rfl,bE]
     simp
    ·rw[if_neg hp,if_neg hp,show (⟨#[45]⟩:Str)=⟨[45].toArray⟩ from rfl,bE]
     simp
   rw[ec] at q
   refine⟨_,rfl,fM (fun e=>?_) fun e=>?_⟩
   ·have e:0<n:=by simpa using e
    rw[if_pos e] at q
    refine⟨_,_,rfl,rfl,?_,q⟩
    have e2:("+" :Str).length=1:=by decide+kernel
    rw[bz,e1,e2]
    omega
   ·have e:¬0<n:=by simpa using e
    rw[if_neg e] at q
    refine⟨_,_,rfl,rfl,?_,q⟩
    have e2:("-" :Str).length=1:=by decide+kernel
    rw[bz,e1,e2]
    omega
inductive AW (C G Pc Fo:Addr) (d:Nat) (vs:List V) (H:Hp) (Q:VK) (E:XK):Prop
 |mk (f:Addr) (xs:List j5) (n:Int) (dX:vs=[.ref f]) (dY:pq C G Pc Fo d H f xs n) (d8:K9 d xs n) (fk:(wL d xs n).length≤1000) (gG:∀H',au H H'→Q (.str ⟨(wL d xs n).toArray⟩) H')
def uF (C G Pc Fo:Addr) (d:Nat):Sp:=AW C G Pc Fo d
theorem uH (d:Nat):∀(x:j5) (r:List j5),Str.join "." ((x::r).map fun y=>(⟨(lO d y).toArray⟩:Str))=⟨(lO d x++cX d r).toArray⟩
 |x,[]=>by
  show (⟨(lO d x).toArray⟩:Str)=⟨(lO d x++[]).toArray⟩
  rw[List.append_nil]
 |x,y::r=>by
  show (⟨(lO d x).toArray⟩:Str)++"." ++Str.join "." ((y::r).map fun y=>(⟨(lO d y).toArray⟩:Str))=⟨(lO d x++(46::lO d y++cX d r)).toArray⟩
  rw[uH d y r,Zg,show (⟨#[46]⟩:Str)=⟨[46].toArray⟩ from rfl,bE,bE]
  simp
theorem jK.same {C G Pc:Addr} {d:Nat} {H H':Hp} {p:Addr} {x:j5} (h:jK C G Pc d H p x) (e:au H H'):jK C G Pc d H' p x:=
 let ⟨dx,l,ps,h1,h2,h3⟩:=h;⟨dx,l,ps,e _ _ h1,e _ _ h2,aK (fun _ _ h=>eQ.same h e) h3⟩
theorem pq.same {C G Pc Fo:Addr} {d:Nat} {H H':Hp} {p:Addr} {xs:List j5} {n:Int} (h:pq C G Pc Fo d H p xs n) (e:au H H'):pq C G Pc Fo d H' p xs n:=
 let ⟨dx,l,ps,h1,h2,h3⟩:=h;⟨dx,l,ps,e _ _ h1,e _ _ h2,aK (fun _ _ h=>jK.same h e) h3⟩
theorem G5:ax ["self"] ["self"] (aj mL):=dB
theorem AX (d:Nat) (D:a9 K Fo "shown" "Formula.shown" mL ["self"]) (T:lK K mg C R G Pc Fo uK uN uB uE uM uC uP uI uD uL uT) (c1:aJ P w K mg base (2*d+4) Pc "shown" ["self"] (lP C G Pc d)) (c2:bg P w K mg base 2 "charge_shown" ["charge"] uA):aJ P w K mg base (2*d+5) Fo "shown" ["self"] (uF C G Pc Fo d):=by
 obtain⟨_,_,i'⟩:=c1
 obtain⟨_,_,fF⟩:=c2
 refine D.di G5 (fun vs H Q E h=>?_) (fun f bj A outer s H vs Q E hr h=>?_)
 ·obtain⟨f,xs,n,rfl,_⟩:=h
  rfl
 ·obtain⟨f,xs,n,rfl,⟨dx,l,ps,hf,hl,hP⟩,aU,hz,q⟩:=h
  have big:(3000 :Nat) <sizeLine:=by decide
  have lp:ps.length=xs.length:=Paired.length hP
  refine⟨_,(ai
     (bG (jw (qG (a5 (pv 0) rfl) (fun _=>rfl)))
      (ao
       (aD (aY (v:= .str "e^-") rfl T.l8 ⟨_,rfl⟩)))
      aR)
    (ao
     (aD (aE bu (jg PySem.F.plainAttrs_str PySem.F.slot_str_join PySem.F.type_str_join pV (aY (v:= .str ".") rfl T.kB ⟨_,rfl⟩) (aa (fy (sc:=(aj mL)) (NX:=["self"]) (N:=["piece"]) (fr:=[none]) ⟨by rfl,by rfl,by decide+kernel,by decide+kernel,by decide+kernel,by rfl,by decide+kernel⟩ rfl rfl rfl (cN (a5 (pv 0) rfl)) (fun _ _ _ _=>(aG (i:=0) (show (["piece"]:List Str).Nodup by decide+kernel) rfl (Or.inl rfl) (Or.inr rfl))) (fun _ _ _ _=>f7) (fun _ _ _ _=>(aN (pv 0) T.dn i'.m i'.ok (hr.mono (by omega)) i'.b .nil ay))) ak)) (aH fF.ok (hr.mono (by omega)) rfl fF.g fF.kp fF.b .nil ay (aa (a5 (pv 0) rfl) ak)))))),?_⟩
  refine⟨_,rfl,f,Fo,dx,_,_,rfl,hf,T.bO,T.jL,jJ _ _,_, .inl ⟨_,b5.of hl,rfl⟩,?_⟩
  cases xs with
  |nil=>
   have hp:ps=[]:=List.length_eq_zero_iff.mp lp
   subst hp
   refine ix ?_
   have e0:(⟨(wL d [] n).toArray⟩:Str)="e^-" :=by rw[eE];rfl
   rw[e0] at q
   exact q _ (au.refl _)
  |cons x0 r0=>
   obtain⟨h01,Ef,n1,n2⟩:=aU
   have hpe:(!(ps.map V.ref).isEmpty)=true:=by
    cases ps with
    |nil=>simp at lp
    |cons _ _=>rfl
   rw[hpe]
   refine cH ?_
   have zc:=O5 n1 n2
   have ez:wL d (x0::r0) n=(lO d x0++cX d r0)++jq n:=by
    show x0.2.flatMap (cn d)++(cX d r0++jq n)=_
    unfold lO
    rw[h01,show aQ 1=[] from rfl,List.nil_append,List.append_assoc]
   rw[ez,List.length_append,List.length_append] at hz
   have hr0:=wV d r0
   have each:∀y∈x0::r0,(lO d y).length≤1000:=fun y hy=>by
    rcases List.mem_cons.mp hy with rfl|hy
    ·omega
    ·obtain⟨a,b,rfl⟩:=List.append_of_mem hy
     have:(cX d (a++y::b)).length=(cX d a).length+(46::lO d y++cX d b).length:=by
      unfold cX
      rw[List.flatMap_append,List.length_append,List.flatMap_cons]
     rw[this,List.length_append,List.length_cons] at hz
     omega
   refine⟨rfl,_,rfl,f,Fo,dx,_,_,rfl,hf,T.bO,T.jL,jJ _ _,l,rfl,⟨_,b5.of hl⟩,fun D hD=>tS (K:=K) (a:=l) (D:=D) (xs:=ps.map V.ref) (fun i σ H'=>∃v:Option V,σ=[v]∧au H H'∧H' D=some (.lst (((x0::r0).take i).map fun x=>V.str ⟨(lO d x).toArray⟩)))
    ?_ (fun i σ H' _ ⟨_,_,e,_⟩=>b5.of (e _ _ hl)) ?_ ?_⟩
   ·exact⟨none,rfl,au.new hD,af⟩
   ·rintro i v σ H' hi ⟨v',rfl,e,Cb⟩ N hN
    rw[List.getElem?_map] at hi
    obtain⟨p,hp,rfl⟩:∃p,ps[i]? =some p∧v=V.ref p:=by
     cases hh:ps[i]? with
     |none=>rw[hh] at hi;cases hi
     |some p=>rw[hh] at hi;exact⟨p,rfl,(Option.some.inj hi).symm⟩
    obtain⟨y,hy,hY⟩:=bI hP hp
    have hY:=hY.same e
    obtain⟨dQ,l',Rn,h1,h2⟩:=id hY
    have my:=List.mem_of_getElem? hy
    refine⟨_,rfl,p,dQ,_,rfl,h1,mY _ _ (by decide+kernel) (by decide+kernel),p,y,rfl,hY,Ef y my,each y my,fun cz e'=>⟨_,e' _ _ Cb,?_,hN _ _ ⟨_,rfl,fun b o z=>?_,?_⟩⟩⟩
    ·rw[List.length_map]
     have:((x0::r0).take i).length≤(x0::r0).length:=List.length_take_le' _ _
     rw[List.length_cons] at this
     omega
    ·rw[ah (ag z hD)]
     exact e' _ _ (e _ _ z)
    ·rw[af,List.take_add_one,hy,List.map_append]
     rfl
   ·rintro σ H' ⟨v,rfl,e,Cb⟩
    rw[List.length_map,lp,List.take_length] at Cb
    have ej:Txt.join "." ((x0::r0).map fun y=>(⟨(lO d y).toArray⟩:Str))=⟨(lO d x0++cX d r0).toArray⟩:=by
     have:=PyProof.Rows.join_closes (sep:=".") (sep':=".") (ys:=(x0::r0).map fun y=>(⟨(lO d y).toArray⟩:Str)) rfl
     rw[←uH]
     simpa using this
    have es:(((x0::r0).map fun y=>(⟨(lO d y).toArray⟩:Str)).map (·.length)).sum≤(lO d x0).length+(cX d r0).length:=by
     rw[List.map_map,List.map_cons,List.sum_cons]
     have:∀r:List j5,(r.map ((·.length)∘fun y=>(⟨(lO d y).toArray⟩:Str))).sum≤(cX d r).length:=fun r=>by
      induction r with
      |nil=>exact Nat.le_refl _
      |cons y r ih=>
       show (⟨(lO d y).toArray⟩:Str).length+(r.map ((·.length)∘fun y=>(⟨(lO d y).toArray⟩:Str))).sum≤(46::lO d y++cX d r).length
       rw[bo,List.length_append,List.length_cons]
       omega
     have h2:=this r0
     show (⟨(lO d x0).toArray⟩:Str).length+_≤_
     rw[bo]
     omega
    refine⟨_,D,(x0::r0).map (fun y=>⟨(lO d y).toArray⟩),rfl,rfl,b5.of (by rw[Cb,List.map_map];rfl),?_,?_⟩
    ·have e0:("." :Str).length=1:=by decide+kernel
     rw[e0,List.length_map,List.length_cons]
     omega
    ·rw[ej]
     refine⟨_,rfl,f,Fo,dx,_,_,rfl,e _ _ hf,T.bO,T.l7,nB _ _,n,rfl,n1,n2,_,_,rfl,rfl,?_,?_⟩
     ·rw[bo,bo,List.length_append]
      omega
     ·rw[bE,←ez]
      exact q _ e
theorem Eh:ax ["_law_count_here"] ["_law_count_here"] (aj mV):=dB
theorem AY (D:Def K mg "_law_figures" "_law_figures" mV ["_law_count_here"]) (T:oF K mg C):bg P w K mg base 1 "_law_figures" ["_law_count_here"] kx:=by
 refine D.di Eh (fun vs H Q E h=>?_) (fun f bj A outer s H vs Q E hr h=>?_)
 ·obtain⟨n,rfl,_⟩:=h
  rfl
 ·obtain⟨n,rfl,h1,h2,k⟩:=h
  refine⟨_,(ai
     (bG (aP d7 (pv 0) aq (aW _))
      (ao
       (aD bJ))
      aR)
    (ao
     (aD (bK jy rfl T.GC Al (aa (pv 0) ak))))),?_⟩
  refine⟨_,rfl,rfl,_,rfl,fM (fun e=>?_) fun e=>?_⟩
  ·have e:n=1:=by simpa using e
   subst e
   exact k
  ·have e:¬n=1:=by simpa using e
   refine⟨_,rfl,_,rfl,tQ (by omega) (by omega),?_⟩
   unfold fj at k
   rw[if_neg e] at k
   exact k
theorem O6:ax ["self","kind","count"] ["self","kind","count"] (aj jk):=dB
theorem Ld (D:lJ K C "Atom.__init__" jk ["self","kind","count"] [1]) (T:oF K mg C):gE P w K mg base 1 C ["self","kind","count"] [1] (GA C):=by
 refine D.di O6 (fun vs H Q E h=>?_) (fun f bj A outer s H vs Q E hr h=>?_)
 ·obtain⟨p,dx,k,n,rfl,_⟩:=h
  rfl
 ·obtain⟨p,dx,k,n,rfl,hp,q⟩:=h
  refine⟨_,(ai
     (eO (pv 0) (pv 1) rfl)
    (ao
     (eO (pv 0) (pv 2) rfl))),?_⟩
  refine⟨_,rfl,_,rfl,p,C,dx,[],rfl,hp,T.gA,T.wA,(by show 0<1000;decide),_,rfl,_,rfl,p,C,dx,_,rfl,af,T.gA,T.rp,(by show 1<1000;decide),?_⟩
  refine q _ af fun b o e hb=>?_
  rw[ah hb,ah hb]
  exact e
theorem G6:ax ["_law_script","_law_k"] ["_law_script","_law_k"] (aj p9):=dB
theorem AZ (D:Def K mg "_law_cell_at" "_law_cell_at" p9 ["_law_script","_law_k"]) (T:oF K mg C):bg P w K mg base 1 "_law_cell_at" ["_law_script","_law_k"] (rn K):=by
 refine D.di G6 (fun vs H Q E h=>?_) (fun f bj A outer s H vs Q E hr h=>?_)
 ·obtain⟨a,ns,k,rfl,_⟩:=h
  rfl
 ·obtain⟨a,ns,k,rfl,hS,hl,q⟩:=h
  refine⟨_,(ai
     (bG (aP mw (pv 1) (bw gK rfl T.ph kh (aa (pv 0) ak)) (aW _))
      (ao
       (aD (cE cZ (pv 0) (pv 1) (fun _ _=>rfl))))
      aR)
    (ao
     (aD aq))),?_⟩
  refine⟨_,rfl,_,rfl,a,_,rfl, .inl hS,_,_,rfl,rfl,_,rfl,fM (fun e=>?_) fun e=>?_⟩
  ·have e:k<ns.length:=by simpa using e
   exact⟨_,rfl,_,rfl,a,_,_,V.int ns[k],rfl,rfl,hS,pR (by rw[List.getElem?_map,List.getElem?_eq_getElem e];rfl),q _⟩
  ·exact q 0
theorem Le:ax ["_law_found"] ["_law_found"] (aj we):=dB
theorem G7 (D:Def K mg "_law_whole" "_law_whole" we ["_law_found"]) (T:oF K mg C):bg P w K mg base 1 "_law_whole" ["_law_found"] wy:=by
 refine D.di Le (fun vs H Q E h=>?_) (fun f bj A outer s H vs Q E hr h=>?_)
 ·obtain⟨i,rfl,_⟩:=h
  rfl
 ·obtain⟨i,rfl,q⟩:=h
  refine⟨_,(ao
     (aD (vz (bw iB rfl T.bA bh (aa (pv 0) (aa (mv (v:= .ty "int") rfl T.yw qT rfl) ak))) (qB (Fz (bw iB rfl T.bA bh (aa (pv 0) (aa (mv (v:= .ty "bool") rfl T.OR Km rfl) ak)))))))),?_⟩
  exact⟨_,rfl,_,_,_,_,_,rfl,rfl, .int i,T.k1,_,rfl,ix ⟨_,rfl,_,_,_,_,_,rfl,rfl, .int i,T.k2,_,rfl,q⟩⟩
abbrev great:Str:="ABCDEFGHIJKLMNOPQRSTUVWXYZ"
abbrev small:Str:="abcdefghijklmnopqrstuvwxyz"
theorem Ei:great.cps.toList.length=26:=by decide+kernel
theorem Ej:small.cps.toList.length=26:=by decide+kernel
def Td:List Str:=["C","Co","O","Cob","H","N","No","B","Ob","Nob"]
theorem ma:ax ["_law_number","_law_great","_law_small","_law_kind_here","_law_k"] ["_law_number"] (aj BR):=dB
inductive G8 (vs:List V) (H:Hp) (Q:VK) (E:XK):Prop
 |mk (n:Int) (dX:vs=[.int n]) (dY:∀(k:List Nat) H',l6 k→au H H'→Q (.str ⟨k.toArray⟩) H')
def Cc:Sp:=G8
def O7:List Nat→Bool
 |c::r=>Fj c&&r.all Fi&&decide (r.length≤2)
 | []=>false
theorem O8:∀{l:List Nat},O7 l=true→l6 l
 | [],h=>by cases h
 |c::r,h=>by
  simp only [O7,Bool.and_eq_true,decide_eq_true_eq] at h
  exact⟨c,r,rfl,h.1.1,h.1.2,h.2⟩
theorem O9:Td.all (fun x=>O7 x.cps.toList)=true:=by decide+kernel
theorem Ek:great.cps.toList.all Fj=true:=by decide+kernel
theorem El:small.cps.toList.all Fi=true:=by decide+kernel
theorem G9 (D:Def K mg "_law_kind" "_law_kind" BR ["_law_number"]) (T:oF K mg C):bg P w K mg base 1 "_law_kind" ["_law_number"] Cc:=by
 refine D.di ma (fun vs H Q E h=>?_) (fun f bj A outer s H vs Q E hr h=>?_)
 ·obtain⟨n,rfl,_⟩:=h
  rfl
 ·obtain⟨n,rfl,q⟩:=h
  refine⟨_,(ai
     (aB (i:=1) ma.nd rfl (Or.inl rfl) bJ)
    (ai
     (aB (i:=2) ma.nd rfl (Or.inl rfl) bJ)
    (ai
     (bG (aP d7 (aE cK (pv 0) aq) aq (aW _))
      (ao
       (aD (cE cZ (cD (Kn (.str (.str (.str (.str (.str (.str (.str (.str (.str (.str .nil)))))))))))) (aE cK (aE cY (pv 0) aq) aq) (fun _ _=>rfl))))
      aR)
    (ai
     (aB (i:=0) ma.nd rfl (Or.inl rfl) (aE cY (pv 0) aq))
    (ai
     (aB (i:=3) ma.nd rfl (Or.inl rfl) (cE vF (pv 1) (aE cK (pv 0) aq) (fun _ _=>rfl)))
    (ai
     (bW PassesOwn.never rfl (gX rfl T.la (aa (aE cK (aE cY (pv 0) aq) aq) ak)) (aG (i:=4) ma.nd rfl (Or.inl rfl))
      (ao
       (aB (i:=3) ma.nd rfl (Or.inl rfl) (aE bu (pv 3) (cE vF (pv 2) (aE cK (aE cY (pv 0) (aE cf aq (aE g8 aq (pv 4)))) aq) (fun _ _=>rfl))))))
    (ao
     (aD (pv 3))))))))),?_⟩
  refine⟨_,rfl,_,_,rfl,rfl,(by show (0 :Int) <2;decide),rfl,_,rfl,fM (fun _=>?_) fun _=>?_⟩
  ·have b0:0≤n/2%10:=Int.emod_nonneg _ (by decide)
   have b1:n/2%10<10:=Int.emod_lt_of_pos _ (by decide)
   obtain⟨v,hv,Lf⟩:=vL (xs:=Td.map V.str) b0 b1
   obtain⟨k,hk,rfl⟩:=List.mem_map.mp hv
   have ek:(⟨k.cps.toList.toArray⟩:Str)=k:=mZ (by simp)
   have okk:=O8 (List.all_eq_true.mp O9 k hk)
   have q':∀l (hl:H l=none),Q (.str k) (upd H l (.lst (Td.map V.str))):=fun l hl=>by
    have:=q k.cps.toList _ okk (au.new (o:= .lst (Td.map V.str)) hl)
    rwa [ek] at this
   exact⟨(by show 10≤sizeLine;decide),fun l hl=>⟨_,rfl,_,_,rfl,rfl,⟨by decide,by decide⟩,_,_,rfl,rfl,(by show (0 :Int) <10;decide),l,Td.map V.str,_,_,rfl,rfl,b5.of af,Lf,q' l hl⟩⟩
  ·have b0:0≤n/2%26:=Int.emod_nonneg _ (by decide)
   have b1:n/2%26<26:=Int.emod_lt_of_pos _ (by decide)
   have b2:0≤n/2/26%3:=Int.emod_nonneg _ (by decide)
   have b3:n/2/26%3<3:=Int.emod_lt_of_pos _ (by decide)
   obtain⟨c,hc,Lf⟩:=vL (xs:=great.cps.toList) b0 (by rw[Ei];exact b1)
   have gc:=List.all_eq_true.mp Ek c hc
   refine⟨_,rfl,_,_,rfl,rfl,⟨by decide,by decide⟩,_,rfl,_,rfl,_,_,rfl,rfl,(by show (0 :Int) <26;decide),great,_,c,rfl,rfl,(by decide+kernel),Lf,?_⟩
   refine⟨_,rfl,_,_,rfl,rfl,⟨by decide,by decide⟩,_,_,rfl,rfl,(by show (0 :Int) <3;decide),_,rfl,by omega,by omega,
    kM (fun i σ H'=>∃(r:List Nat) (v:Option V),σ=[some (.int (n/2)),some (.str great),some (.str small),some (.str ⟨(c::r).toArray⟩),v]∧r.all Fi=true∧r.length≤i∧H'=H) ⟨[],none,rfl,rfl,Nat.le_refl _,rfl⟩ ?_ ?_⟩
   ·rintro i σ H' hi ⟨r,v,rfl,ha,hk,rfl⟩
    have c0:0≤n/2/(78+1950*(0+(i:Int))) %26:=Int.emod_nonneg _ (by decide)
    have c1:n/2/(78+1950*(0+(i:Int))) %26<26:=Int.emod_lt_of_pos _ (by decide)
    obtain⟨c2,Y2,Pa⟩:=vL (xs:=small.cps.toList) c0 (by rw[Ej];exact c1)
    have sc2:=List.all_eq_true.mp El c2 Y2
    have l2:(⟨#[c2]⟩:Str).length=1:=rfl
    have big:(100 :Nat)≤sizeLine:=by decide
    have e2:(⟨(c::r).toArray⟩:Str)++⟨#[c2]⟩=⟨(c::(r++[c2])).toArray⟩:=bE (c::r) [c2]
    refine⟨_,rfl,_,rfl,_,rfl,_,rfl,_,_,rfl,rfl, .inl ⟨by decide,by decide⟩,_,_,rfl,rfl,_,_,rfl,rfl,⟨by omega,by omega⟩,_,_,rfl,rfl,(by show (0 :Int) <26;decide),small,_,c2,rfl,rfl,(by decide+kernel),Pa,_,_,rfl,rfl,?_,r++[c2],some (.int (0+(i:Int))),?_,?_,?_,rfl⟩
    ·rw[bo,l2,List.length_cons]
     omega
    ·rw[←e2]
     rfl
    ·rw[List.all_append,ha]
     simpa using sc2
    ·rw[List.length_append]
     show r.length+1≤i+1
     omega
   ·rintro σ H' ⟨r,v,rfl,ha,hk,rfl⟩
    exact⟨_,rfl,q (c::r) _ ⟨c,r,rfl,gc,ha,by omega⟩ (au.refl _)⟩
variable {uC uP uI uD uL uT:Tok}
theorem Lg:ax ["self","parts","count"] ["self","parts","count"] (aj fR):=dB
theorem G' (D:lJ K G "Group.__init__" fR ["self","parts","count"] [1]) (T:lK K mg C R G Pc Fo uK uN uB uE uM uC uP uI uD uL uT):gE P w K mg base 1 G ["self","parts","count"] [1] (nz G):=by
 refine D.di Lg (fun vs H Q E h=>?_) (fun f bj A outer s H vs Q E hr h=>?_)
 ·obtain⟨p,dx,l,c,xs,rfl,_⟩:=h
  rfl
 ·obtain⟨p,dx,l,c,xs,rfl,hp,hl,q⟩:=h
  refine⟨_,(ai
     (eO (pv 0) (bK fx rfl T.n_list kS (aa (pv 1) ak)) rfl)
    (ao
     (eO (pv 0) (pv 2) rfl))),?_⟩
  refine⟨_,rfl,l,xs,rfl, .inl (b5.of hl),fun n hn=>?_⟩
  have zU:p≠n:=ag hp hn
  refine⟨_,rfl,p,G,dx,[],rfl,(by rw[ah zU];exact hp),T.eN,T.oI,(by show 0<1000;decide),_,rfl,_,rfl,p,G,dx,_,rfl,af,T.eN,T.oJ,(by show 1<1000;decide),?_⟩
  refine q n _ hn af (by rw[ah (Ne.symm zU),ah (Ne.symm zU),af]) fun b o e hb=>?_
  rw[ah hb,ah hb,ah (ag e hn)]
  exact e
theorem Lh:ax ["self","parts","count"] ["self","parts","count"] (aj fS):=dB
theorem Hc (D:lJ K Pc "Piece.__init__" fS ["self","parts","count"] [1]) (T:lK K mg C R G Pc Fo uK uN uB uE uM uC uP uI uD uL uT):gE P w K mg base 1 Pc ["self","parts","count"] [1] (nz Pc):=by
 refine D.di Lh (fun vs H Q E h=>?_) (fun f bj A outer s H vs Q E hr h=>?_)
 ·obtain⟨p,dx,l,c,xs,rfl,_⟩:=h
  rfl
 ·obtain⟨p,dx,l,c,xs,rfl,hp,hl,q⟩:=h
  refine⟨_,(ai
     (eO (pv 0) (bK fx rfl T.n_list kS (aa (pv 1) ak)) rfl)
    (ao
     (eO (pv 0) (pv 2) rfl))),?_⟩
  refine⟨_,rfl,l,xs,rfl, .inl (b5.of hl),fun n hn=>?_⟩
  have zU:p≠n:=ag hp hn
  refine⟨_,rfl,p,Pc,dx,[],rfl,(by rw[ah zU];exact hp),T.dn,T.oM,(by show 0<1000;decide),_,rfl,_,rfl,p,Pc,dx,_,rfl,af,T.dn,T.oN,(by show 1<1000;decide),?_⟩
  refine q n _ hn af (by rw[ah (Ne.symm zU),ah (Ne.symm zU),af]) fun b o e hb=>?_
  rw[ah hb,ah hb,ah (ag e hn)]
  exact e
theorem Li:ax ["self","pieces","charge"] ["self","pieces","charge"] (aj fT):=dB
theorem Hd (D:lJ K Fo "Formula.__init__" fT ["self","pieces","charge"] [0]) (T:lK K mg C R G Pc Fo uK uN uB uE uM uC uP uI uD uL uT):gE P w K mg base 1 Fo ["self","pieces","charge"] [0] (wO Fo):=by
 refine D.di Li (fun vs H Q E h=>?_) (fun f bj A outer s H vs Q E hr h=>?_)
 ·obtain⟨p,dx,l,c,xs,rfl,_⟩:=h
  rfl
 ·obtain⟨p,dx,l,c,xs,rfl,hp,hl,q⟩:=h
  refine⟨_,(ai
     (eO (pv 0) (bK fx rfl T.n_list kS (aa (pv 1) ak)) rfl)
    (ao
     (eO (pv 0) (pv 2) rfl))),?_⟩
  refine⟨_,rfl,l,xs,rfl, .inl (b5.of hl),fun n hn=>?_⟩
  have zU:p≠n:=ag hp hn
  refine⟨_,rfl,p,Fo,dx,[],rfl,(by rw[ah zU];exact hp),T.bO,T.jL,(by show 0<1000;decide),_,rfl,_,rfl,p,Fo,dx,_,rfl,af,T.bO,T.l7,(by show 1<1000;decide),?_⟩
  refine q n _ hn af (by rw[ah (Ne.symm zU),ah (Ne.symm zU),af]) fun b o e hb=>?_
  rw[ah hb,ah hb,ah (ag e hn)]
  exact e
structure TxtP (K:PySem.W.Frag) (mg:Str→Option Value) (C:Addr):Prop extends oF K mg C where
 jN:mg "dict" =none
 GY:mg "abs" =none
def bq:Nat→Int→Tr→List (Str×Int)
 |_,m, .one k n=>[(⟨k.toArray⟩,n*m)]
 |0,_, .gr _ _=>[]
 |d+1,m, .gr ts n=>ts.flatMap (bq d (n*m))
def cA (d:Nat) (x:j5):List (Str×Int):=x.2.flatMap (bq d x.1)
def cW (d:Nat) (xs:List j5):List (Key×V):=a8 1 [] (xs.flatMap (cA d))
def Em (ts:List Tr):Prop:=ts≠[]∧(∀t∈ts,uh 1 t)∧(ts.flatMap (cn 1)).length≤23∧(ts.flatMap (bq 1 1)).length≤5
theorem nF:∀(l acc:List (Key×V)),((acc++l).map (·.1)).Nodup→cu acc l=acc++l
 | [],acc,_=>by rw[List.append_nil];rfl
 |p::r,acc,h=>by
  have hn:b7 acc p.1=none:=by
   cases e:b7 acc p.1 with
   |none=>rfl
   |some x=>
    rw[List.map_append,List.nodup_append] at h
    exact absurd rfl (h.2.2 _ (pS e) p.1 (by simp))
  show cu (putK acc p.1 p.2) r=_
  rw[mx _ hn,nF r (acc++[(p.1,p.2)]) (by rw[List.append_assoc];exact h),List.append_assoc]
  rfl
theorem qg (c:Int):∀(as:List (Str×Int)) (acc:List (Key×V)),a8 1 acc (as.map fun p=>(p.1,p.2*c))=a8 c acc as
 | [],_=>rfl
 |p::r,acc=>by
  show a8 1 (b8 acc (Sum.inr p.1) (p.2*c*1)) (r.map fun p=>(p.1,p.2*c))=a8 c (b8 acc (Sum.inr p.1) (p.2*c)) r
  rw[Int.mul_one,qg c r]
theorem uJ {D:List (Key×V)} (hI:bx D) (hn:(D.map (·.1)).Nodup) (c:Int):(D.map fun p=>(p.1,V.int (c*aO D p.1)))=scale c D:=by
 unfold scale
 apply List.map_congr_left
 intro p hp
 have e:=hI.look (jh hn hp)
 show (p.1,V.int (c*aO D p.1))=(p.1,DS c p.2)
 rw[e]
 show _=(p.1,V.int (aO D p.1*c))
 rw[Int.mul_comm]
abbrev Cd:=List (List Nat×Int)
def aT (a:List Nat×Int):Tr:= .one a.1 a.2
def oR (as:Cd):List (Str×Int):=as.map fun a=>((⟨a.1.toArray⟩:Str),a.2)
def He (as:Cd):Prop:=∀a∈as,l6 a.1∧1≤a.2∧a.2≤999
theorem md (d:Nat) (m:Int) (as:Cd):(as.map aT).flatMap (bq d m)=(oR as).map fun p=>(p.1,p.2*m):=by
 unfold oR
 induction as with
 |nil=>rfl
 |cons a r ih=>
  rw[List.map_cons,List.flatMap_cons,ih,List.map_cons,List.map_cons]
  have e:bq d m (aT a)=[((⟨a.1.toArray⟩:Str),a.2*m)]:=by cases d<;>rfl
  rw[e]
  rfl
theorem oS (d:Nat) (as:Cd):(as.map aT).flatMap (cn d)=as.flatMap fun a=>a.1++aQ a.2:=by
 induction as with
 |nil=>rfl
 |cons a r ih=>
  rw[List.map_cons,List.flatMap_cons,ih,List.flatMap_cons]
  have e:cn d (aT a)=a.1++aQ a.2:=by cases d<;>rfl
  rw[e]
theorem rT {n:Int} (h:1≤n) (h':n≤999):(aQ n).length≤3:=by
 have:=ia h h'
 rw[de,bo] at this
 exact this
theorem Hf {n:Int} (h:1≤n) (h':n≤99):(aQ n).length≤2:=by
 obtain⟨m,rfl⟩:=Int.eq_ofNat_of_zero_le (show 0≤n by omega)
 have:=lb (n:=m) (k:=2) (by decide) (by omega)
 rw[de,bo] at this
 exact this
theorem rV {k:List Nat} (h:l6 k):k.length≤3:=by
 obtain⟨c,r,rfl,_,_,h3⟩:=h
 rw[List.length_cons]
 omega
theorem lu {as:Cd} (h:He as):(as.flatMap fun a=>a.1++aQ a.2).length≤6*as.length:=by
 induction as with
 |nil=>exact Nat.zero_le _
 |cons a r ih=>
  have h1:=h a (List.mem_cons_self ..)
  have h2:=ih fun b hb=>h b (List.mem_cons_of_mem _ hb)
  have h3:=rV h1.1
  have h4:=rT h1.2.1 h1.2.2
  rw[List.flatMap_cons,List.length_append,List.length_append,List.length_cons]
  omega
theorem yI {as:Cd} (h:He as) (d:Nat):∀t∈as.map aT,uh d t:=by
 intro t ht
 obtain⟨a,ha,rfl⟩:=List.mem_map.mp ht
 have:=h a ha
 cases d<;>exact this
theorem Hg {as:Cd} (h:He as) (h1:1≤as.length) (h3:as.length≤3):Em (as.map aT):=by
 refine⟨?_,yI h 1,?_,?_⟩
 ·intro z
  have:=congrArg List.length z
  rw[List.length_map,List.length_nil] at this
  omega
 ·rw[oS]
  have:=lu h
  omega
 ·rw[md,List.length_map]
  unfold oR
  rw[List.length_map]
  omega
theorem MT (as:Cd):cW 1 [(1,as.map aT)]=a8 1 [] (oR as):=by
 show a8 1 [] ((as.map aT).flatMap (bq 1 1)++[])=_
 rw[List.append_nil,md,qg]
theorem MU (as:Cd) (c:Int):([Tr.gr (as.map aT) c].flatMap (cn 1))=40::((as.flatMap fun a=>a.1++aQ a.2)++41::aQ c):=by
 rw[List.flatMap_cons,List.flatMap_nil,List.append_nil]
 show 40::((as.map aT).flatMap (cn 0)++41::aQ c)=_
 rw[oS]
theorem MV (as:Cd) (c:Int):([Tr.gr (as.map aT) c].flatMap (bq 1 1))=(oR as).map fun p=>(p.1,p.2*(c*1)):=by
 rw[List.flatMap_cons,List.flatMap_nil,List.append_nil]
 show (as.map aT).flatMap (bq 0 (c*1))=_
 rw[md]
theorem Pb {as:Cd} (h:He as) (h1:1≤as.length) (h3:as.length≤3) {c:Int} (c1:1≤c) (c2:c≤999):Em [.gr (as.map aT) c]:=by
 refine⟨by simp,fun t ht=>?_,?_,?_⟩
 ·have e:t= .gr (as.map aT) c:=by simpa using ht
  subst e
  exact⟨(Hg h h1 h3).1,yI h 0,c1,c2⟩
 ·rw[MU]
  have:=lu h
  have:=rT c1 c2
  simp only [List.length_cons,List.length_append]
  omega
 ·rw[MV,List.length_map]
  unfold oR
  rw[List.length_map]
  omega
theorem MW (as:Cd) (c:Int):cW 1 [(1,[.gr (as.map aT) c])]=scale c (a8 1 [] (oR as)):=by
 show a8 1 [] ([Tr.gr (as.map aT) c].flatMap (bq 1 1)++[])=_
 rw[List.append_nil,MV,qg,t7 1 c _ [] (fun p hp=>by cases hp),Int.mul_one,Int.one_mul]
 rfl
theorem bx.dN {kvs:List (Key×V)} (h:bx kvs) {k:Key} {v:V} (hm:(k,v)∈kvs):b7 kvs k=some (.int (aO kvs k)):=by
 cases f:b7 kvs k with
 |none=>exact absurd (List.mem_map_of_mem (f:=(·.1)) hm) (mC f)
 |some x=>rw[h.look f]
theorem none_back {H H':Hp} {D:Addr} (e:au H H') (h:H' D=none):H D=none:=by
 cases hh:H D with
 |none=>rfl
 |some o=>rw[e _ _ hh] at h;cases h
theorem take_snoc {α:Type} {l:List α} {i:Nat} {a:α} (h:l[i]? =some a):l.take (i+1)=l.take i++[a]:=by
 rw[List.take_add_one,h]
 rfl
theorem MX:(⟨(([]:Cd).flatMap fun a=>a.1++aQ a.2).toArray⟩:Str)="" :=by decide+kernel
abbrev Fm:=List j5×Int
def fL (x:Fm):List Nat:=wL 1 x.1 x.2
def cS (x:Fm):Prop:=K9 1 x.1 x.2∧(fL x).length≤33∧(x.1.flatMap (cA 1)).length≤7
def yJ (H:Hp) (t:Addr) (x:Fm):Prop:=∃d,H t=some (.tup [.str ⟨(fL x).toArray⟩, .ref d, .int x.2])∧H d=some (.dK (cW 1 x.1))
theorem yJ.same {H H':Hp} {t:Addr} {x:Fm} (h:yJ H t x) (e:au H H'):yJ H' t x:=let ⟨d,h1,h2⟩:=h;⟨d,e _ _ h1,e _ _ h2⟩
theorem Pd (n:Int):Ah [V.str "-",V.str "+"] (if decide (n>0)=true then 1 else 0)=some (V.str (if 0<n then ("+" :Str) else ("-" :Str))):=by
 by_cases h:0<n
 ·rw[if_pos (decide_eq_true h),if_pos h]
  rfl
 ·rw[if_neg (by simpa using h),if_neg h]
  rfl
theorem Lj {n:Int} (e:¬n=0):(⟨(jq n).toArray⟩:Str)="^" ++fj (if n<0 then -n else n)++(if 0<n then ("+" :Str) else ("-" :Str)):=by
 unfold jq
 rw[if_neg e,de,S9,e43,S']
 rw[show (⟨#[94]⟩:Str)=⟨[94].toArray⟩ from rfl,bE]
 by_cases hp:0<n
 ·rw[if_pos hp,if_pos hp,show (⟨#[43]⟩:Str)=⟨[43].toArray⟩ from rfl,bE]
  simp
 ·rw[if_neg hp,if_neg hp,show (⟨#[45]⟩:Str)=⟨[45].toArray⟩ from rfl,bE]
  simp
theorem Tf {xs:List j5} (h:xs≠[]) (n:Int):wL 1 xs n=wL 1 xs 0++jq n:=by
 cases xs with
 |nil=>exact absurd rfl h
 |cons x r=>
  show x.2.flatMap (cn 1)++(cX 1 r++jq n)=x.2.flatMap (cn 1)++(cX 1 r++[])++jq n
  rw[List.append_nil,List.append_assoc]
def Zj (xs:List j5):Prop:=xs≠[]∧(∀n, -999≤n→n≤999→K9 1 xs n)∧(wL 1 xs 0).length≤29∧(xs.flatMap (cA 1)).length≤7
theorem Tg:aQ 1=[]:=by decide+kernel
theorem Ti (ts:List Tr):wL 1 [(1,ts)] 0=ts.flatMap (cn 1):=by
 show ts.flatMap (cn 1)++([]++[])=_
 simp
theorem Hh {ts:List Tr} (h:Em ts):Zj [(1,ts)]:=by
 obtain⟨h1,h2,h3,h4⟩:=h
 refine⟨by simp,fun n n1 n2=>⟨rfl,fun x hx=>?_,n1,n2⟩,?_,?_⟩
 ·have e:x=(1,ts):=by simpa using hx
  subst e
  exact⟨h1,h2,(by show (1 :Int)≤1;decide),(by show (1 :Int)≤999;decide)⟩
 ·rw[Ti]
  omega
 ·show (ts.flatMap (bq 1 1)++[]).length≤7
  rw[List.append_nil]
  omega
theorem MY {xs:List j5} (h:Zj xs) {n:Int} (n1: -99≤n) (n2:n≤99):cS (xs,n):=by
 obtain⟨h1,h2,h3,h4⟩:=h
 refine⟨h2 n (by omega) (by omega),?_,h4⟩
 show (wL 1 xs n).length≤33
 rw[Tf h1,List.length_append]
 have:(jq n).length≤4:=by
  unfold jq
  split
  ·exact Nat.zero_le _
  ·have:=Hf (n:=if n<0 then -n else n) (by split<;>omega) (by split<;>omega)
   rw[List.length_cons,List.length_append]
   show _+1+1≤4
   omega
 omega
theorem wY (xs:List j5):bx (cW 1 xs):=iI 1 _ _ fun p hp=>by cases hp
theorem A0 {xs:List j5} {m:Nat} (h:(xs.flatMap (cA 1)).length≤m):(cW 1 xs).length≤m:=by
 have:=iJ 1 (xs.flatMap (cA 1)) []
 rw[List.length_nil] at this
 unfold cW
 omega
abbrev Tm:=Int×Fm
def eB (H:Hp) (t:Addr) (x:Tm):Prop:=∃f,H t=some (.tup [.int x.1, .ref f])∧yJ H f x.2
def pJ (B:Int) (x:Tm):Prop:=1≤x.1∧x.1≤B∧cS x.2
theorem eB.same {H H':Hp} {t:Addr} {x:Tm} (h:eB H t x) (e:au H H'):eB H' t x:=let ⟨f,h1,h2⟩:=h;⟨f,e _ _ h1,h2.same e⟩
theorem eB.but {D:Addr} {H H':Hp} {ys:List V} {t:Addr} {x:Tm} (hD:H D=some (.lst ys)) (e:∀b o,H b=some o→b≠D→H' b=some o) (h:eB H t x):eB H' t x:=by
 obtain⟨f,h1,d,h2,h3⟩:=h
 exact⟨f,e _ _ h1 (cI h1 hD (by intro z;cases z)),d,e _ _ h2 (cI h2 hD (by intro z;cases z)),e _ _ h3 (cI h3 hD (by intro z;cases z))⟩
def cT (H:Hp) (l:Addr) (xs:List Tm):Prop:=∃ts,H l=some (.lst (ts.map V.ref))∧Paired (eB H) ts xs
theorem cT.same {H H':Hp} {l:Addr} {xs:List Tm} (h:cT H l xs) (e:au H H'):cT H' l xs:=let ⟨ts,h1,h2⟩:=h;⟨ts,e _ _ h1,aK (fun _ _ z=>z.same e) h2⟩
variable {uC uP uI uD uL uT:Tok}
theorem nG {n:Int} (h0:0≤n) (h:n<10^50):(toString n:Str).length≤50:=by
 rw[PySem.ofString_length]
 obtain⟨m,rfl⟩:=Int.eq_ofNat_of_zero_le h0
 show (Nat.repr m).length≤50
 rw[Nat.length_repr_le_iff (by decide)]
 omega
theorem qh {n:Int} (h0:0≤n) (h:n<10^50):n.natAbs.log2<1920:=by
 by_cases e:n.natAbs=0
 ·rw[e];decide
 ·have:=(Nat.log2_lt e (k:=170)).mpr (by omega)
  omega
def rW (x:Tm):Str:=if x.1=1 then ⟨(fL x.2).toArray⟩ else (toString x.1 :Str)++" " ++⟨(fL x.2).toArray⟩
def uO (xs:List Tm):Str:=Txt.join " + " (xs.map rW)
theorem Ce {B:Int} (hB:B≤10^40) {x:Tm} (h:pJ B x):(rW x).length≤100:=by
 obtain⟨h1,h2,_,h3,_⟩:=h
 unfold rW
 split
 ·rw[bo]
  omega
 ·have:=nG (n:=x.1) (by omega) (by omega)
  have l1:(" " :Str).length=1:=by decide+kernel
  rw[bz,bz,bo,l1]
  exact Nat.le_trans (Nat.add_le_add (Nat.add_le_add_right this 1) h3) (by decide)
theorem yK {H:Hp}:∀{ts:List Addr} {xs:List Tm} {i:Nat} {x:V},Paired (eB H) ts xs→(ts.map V.ref)[i]? =some x→∃t y,x= .ref t∧xs[i]? =some y∧eB H t y
 |_,_,_,_, .nil,h=>by simp at h
 |_,_,0,_, .cons h _,e=>⟨_,_,(Option.some.inj e).symm,rfl,h⟩
 |_,_,i+1,_, .cons _ t,e=>yK (i:=i) t e
variable {uC uP uI uD uL uT eW eX eY:Tok} {Ch:Addr}
structure Hi (K:PySem.W.Frag) (mg:Str→Option Value) (C R G Pc Fo Ch:Addr) (uK uN uB uE uM uC uP uI uD uL uT eW eX eY:Tok):Prop extends lK K mg C R G Pc Fo uK uN uB uE uM uC uP uI uD uL uT,TxtP K mg C where
 b9:sR K Ch
 ib:cG K Ch "lefts"
 jr:cG K Ch "rights"
 Hj:mg "Change" =some (.ref Ch)
 Lk:mg "BLANK" =some (.str " " eW)
 Cf:mg "JOINT" =some (.str " + " eX)
 Cg:mg "ARROW" =some (.str " -> " eY)
def jO (C G Pc Fo:Addr) (H:Hp) (t:Addr) (x:Tm):Prop:=∃f,H t=some (.tup [.int x.1, .ref f])∧pq C G Pc Fo 1 H f x.2.1 x.2.2
def ic (C G Pc Fo:Addr) (H:Hp) (l:Addr) (xs:List Tm):Prop:=∃ts,H l=some (.lst (ts.map V.ref))∧Paired (jO C G Pc Fo H) ts xs
theorem jO.same {C G Pc Fo:Addr} {H H':Hp} {t:Addr} {x:Tm} (h:jO C G Pc Fo H t x) (e:au H H'):jO C G Pc Fo H' t x:=let ⟨f,h1,h2⟩:=h;⟨f,e _ _ h1,h2.same e⟩
theorem ic.same {C G Pc Fo:Addr} {H H':Hp} {l:Addr} {xs:List Tm} (h:ic C G Pc Fo H l xs) (e:au H H'):ic C G Pc Fo H' l xs:=let ⟨ts,h1,h2⟩:=h;⟨ts,e _ _ h1,aK (fun _ _ z=>z.same e) h2⟩
theorem Zd:¬(("lefts" :Str)="rights"):=by decide+kernel
def pz (l r:Addr):List (Str×V):=cL "rights" (.ref r) (cL "lefts" (.ref l) [])
theorem eZ (l r:Addr):(pz l r).lookup ("lefts" :Str)=some (.ref l):=by
 unfold pz
 rw[az,if_neg Zd,az,if_pos rfl]
theorem gR (l r:Addr):(pz l r).lookup ("rights" :Str)=some (.ref r):=by
 unfold pz
 rw[az,if_pos rfl]
theorem yL (l r:Addr) {m:Str} (h1:¬m="rights") (h2:¬m="lefts"):(pz l r).lookup m=none:=by
 unfold pz
 rw[az,if_neg h1,az,if_neg h2]
 all_goals rfl
inductive Hk (Ch:Addr) (vs:List V) (H:Hp) (Q:VK) (E:XK):Prop
 |mk (p dx l r:Addr) (xs ys:List V) (dX:vs=[.ref p, .ref l, .ref r]) (dY:H p=some (.ins Ch dx [])) (d8:H l=some (.lst xs)) (fk:H r=some (.lst ys)) (gG:∀n m H',H n=none→H m=none→n≠m→H' p=some (.ins Ch dx (pz n m))→H' n=some (.lst xs)→H' m=some (.lst ys)→(∀b o,H b=some o→b≠p→H' b=some o)→Q .cU H')
def Ci (Ch:Addr):Sp:=Hk Ch
theorem Ll:ax ["self","lefts","rights"] ["self","lefts","rights"] (aj vZ):=dB
theorem Hl (D:lJ K Ch "Change.__init__" vZ ["self","lefts","rights"] []) (T:Hi K mg C R G Pc Fo Ch uK uN uB uE uM uC uP uI uD uL uT eW eX eY):gE P w K mg base 1 Ch ["self","lefts","rights"] [] (Ci Ch):=by
 refine D.di Ll (fun vs H Q E h=>?_) (fun f bj A outer s H vs Q E hr h=>?_)
 ·obtain⟨p,dx,l,r,xs,ys,rfl,_⟩:=h
  rfl
 ·obtain⟨p,dx,l,r,xs,ys,rfl,hp,hl,JK,q⟩:=h
  refine⟨_,(ai
     (eO (pv 0) (bK fx rfl T.n_list kS (aa (pv 1) ak)) rfl)
    (ao
     (eO (pv 0) (bK fx rfl T.n_list kS (aa (pv 2) ak)) rfl))),?_⟩
  refine⟨_,rfl,l,xs,rfl, .inl (b5.of hl),fun n hn=>?_⟩
  have zU:p≠n:=ag hp hn
  have npr:r≠p:=cI JK hp (by intro z;cases z)
  refine⟨_,rfl,p,Ch,dx,[],rfl,(by rw[ah zU];exact hp),T.b9,T.ib,(by show 0<1000;decide),?_⟩
  refine⟨_,rfl,r,ys,rfl, .inl (b5.of (by rw[ah npr,ah (ag JK hn)];exact JK)),fun m hm=>?_⟩
  have nmp:p≠m:=ag af hm
  have Tj:n≠m:=fun z=>by rw[←z,ah (Ne.symm zU),af] at hm;cases hm
  have hm0:H m=none:=by rwa [ah (Ne.symm nmp),ah (Ne.symm Tj)] at hm
  refine⟨_,rfl,p,Ch,dx,_,rfl,(by rw[ah nmp];exact af),T.b9,T.jr,(by show 1<1000;decide),?_⟩
  refine q n m _ hn hm0 Tj af ?_ ?_ fun b o e hb=>?_
  ·rw[ah (Ne.symm zU),ah Tj,ah (Ne.symm zU),af]
  ·rw[ah (Ne.symm nmp),af]
  ·rw[ah hb,ah (ag e hm0),ah hb,ah (ag e hn)]
   exact e
def dC (C G Pc Fo Ch:Addr) (H:Hp) (c:Addr) (xs ys:List Tm):Prop:=∃dx l r,H c=some (.ins Ch dx (pz l r))∧ic C G Pc Fo H l xs∧ic C G Pc Fo H r ys
theorem dC.same {C G Pc Fo Ch:Addr} {H H':Hp} {c:Addr} {xs ys:List Tm} (h:dC C G Pc Fo Ch H c xs ys) (e:au H H'):dC C G Pc Fo Ch H' c xs ys:=let ⟨dx,l,r,h1,h2,h3⟩:=h;⟨dx,l,r,e _ _ h1,h2.same e,h3.same e⟩
def Zk (xs ys:List Tm):Str:=uO xs++" -> " ++uO ys
theorem uQ {xs:List Tm} (aU:∀x∈xs,pJ (10^40) x) (h10:xs.length≤10):(uO xs).length≤2000:=by
 unfold uO
 have e:=PyProof.Rows.join_closes (sep:=" + ") (sep':=" + ") (ys:=xs.map rW) rfl
 rw[show Txt.join " + " (xs.map rW)=Str.join " + " (xs.map rW) by simpa using e]
 have l3:(" + " :Str).length=3:=by decide+kernel
 have key:∀ys:List Str,(∀y∈ys,y.length≤100)→(Str.join " + " ys).length≤103*ys.length:=by
  intro ys
  induction ys with
  |nil=>intro _;exact Nat.zero_le _
  |cons y r ih=>
   intro h
   have h1:=h y (List.mem_cons_self ..)
   have h2:=ih fun z hz=>h z (List.mem_cons_of_mem _ hz)
   cases r with
   |nil=>
    show y.length≤103*1
    omega
   |cons z r'=>
    show (y++" + " ++Str.join " + " (z::r')).length≤_
    rw[bz,bz,l3,List.length_cons]
    omega
 have:=key (xs.map rW) fun y hy=>by
  obtain⟨x,hx,rfl⟩:=List.mem_map.mp hy
  exact Ce (Int.le_refl _) (aU x hx)
 rw[List.length_map] at this
 omega
variable {uC uP uI uD uL uT:Tok}
theorem rX (c:Int):∀(d:Nat) (m:Int) (t:Tr),bq d (m*c) t=(bq d m t).map fun p=>(p.1,p.2*c)
 |d,m, .one k n=>by
  have e1:bq d (m*c) (.one k n)=[(⟨k.toArray⟩,n*(m*c))]:=by cases d<;>rfl
  have e2:bq d m (.one k n)=[(⟨k.toArray⟩,n*m)]:=by cases d<;>rfl
  rw[e1,e2,List.map_cons,List.map_nil,Int.mul_assoc]
 |0,_, .gr _ _=>rfl
 |d+1,m, .gr ts n=>by
  show ts.flatMap (bq d (n*(m*c)))=(ts.flatMap (bq d (n*m))).map _
  rw[List.map_flatMap,←Int.mul_assoc]
  congr 1
  funext t
  exact rX c d (n*m) t
theorem Cj (t:Int) (acc:List (Key×V)) (as bs:List (Str×Int)):a8 t acc (as++bs)=a8 t (a8 t acc as) bs:=by
 unfold a8
 rw[List.foldl_append]
theorem Hm (t:Int) {acc:List (Key×V)} (hI:bx acc) (hn:(acc.map (·.1)).Nodup) (d:Nat) (x:Tr):
  iY t acc (a8 1 [] (bq d 1 x)) (a8 1 [] (bq d 1 x))=a8 1 acc (bq d t x):=by
 have e:=rX t d 1 x
 rw[Int.one_mul] at e
 rw[wG t 1 (bq d 1 x) hI hn,Int.one_mul,e,qg]
theorem Hn:bx []:=fun p hp=>by cases hp
theorem mul_int (c:Int) (all:List (Key×V)):∀(l acc:List (Key×V)),bx acc→bx (iY c acc l all)
 | [],_,h=>h
 |_::r,_,h=>mul_int c all r _ (h.add _ _)
theorem wZ (c:Int) (all:List (Key×V)):∀(l acc:List (Key×V)),(iY c acc l all).length≤acc.length+l.length
 | [],_=>Nat.le_refl _
 |p::r,acc=>by
  have h1:=wZ c all r (b8 acc p.1 (aO all p.1*c))
  have h2:(b8 acc p.1 (aO all p.1*c)).length≤acc.length+1:=bY _ _ _
  show (iY c (b8 acc p.1 (aO all p.1*c)) r all).length≤_
  rw[List.length_cons]
  omega
theorem kQ {n:Nat} (h:n≤1000):n<sizeLine:=Nat.lt_of_le_of_lt h (by decide)
theorem js {H:Hp} {d e:Addr} {A F B E:HO} (oA:d≠e) (he:H e=some E):upd (upd (upd (upd H d A) e F) d B) e E=upd H d B:=by
 funext b
 by_cases h1:b=e
 ·subst h1
  rw[af,ah (Ne.symm oA),he]
 ·rw[ah h1]
  by_cases h2:b=d
  ·subst h2
   rw[af,af]
  ·rw[ah h2,ah h1,ah h2,ah h2]
theorem yM (c:Int) (all acc:List (Key×V)) {i:Nat} {p:Key×V} (h:all[i]? =some p):iY c acc (all.take (i+1)) all=b8 (iY c acc (all.take i) all) p.1 (aO all p.1*c):=by
 unfold iY
 rw[take_snoc h,List.foldl_append]
 rfl
theorem rY {X:Cx} {D:Ends} {l d e:Addr} {t:Int} {v3 v5:Option V} {H:Hp} {acc gy:List (Key×V)} (hu:X.A.units+1<cLine) (hd:H d=some (.dK acc)) (he:H e=some (.dK gy)) (oA:d≠e) (hI:bx acc) (Tn:bx gy) (hl:acc.length+gy.length≤1000) (t1:1≤t) (t2:t≤999)
  (fin:∀z:Option V,D.nx [some (.ref l),some (.int t),some (.ref d),v3,some (.ref e),z] (upd H d (.dK (iY t acc gy gy)))):
  FX X (N0 (FW X (j8 4)) (du 5) (FO (j8 2) (j8 5) (N2 (JF fun i j=> .int (i+j)) (Ag (j8 2) (j8 5) (tC (.int 0))) (N2 (rI JY fun i j=> .int (i*j)) (FN (j8 4) (j8 5)) (j8 1))))) D [some (.ref l),some (.int t),some (.ref d),v3,some (.ref e),v5] H:=by
 refine⟨_,rfl,e,gy,rfl,he,fun o nf=>dA nf (fun j σ H'=>∃z:Option V,σ=[some (.ref l),some (.int t),some (.ref d),v3,some (.ref e),z]∧H'=upd H d (.dK (iY t acc (gy.take j) gy))) ?_ ?_ ?_ ?_⟩
 ·exact⟨v5,rfl,(eI hd).symm⟩
 ·rintro i σ H' ⟨_,_,rfl⟩
  rw[ah (Ne.symm oA)]
  exact he
 ·rintro i k v σ H' hi ⟨z,rfl,rfl⟩
  have pf:∀o',(upd (upd H d (.dK (iY t acc (gy.take i) gy))) e o') d=some (.dK (iY t acc (gy.take i) gy)):=fun o'=>by rw[ah oA];exact af
  have hv:=Tn.dN (List.mem_of_getElem? hi)
  have Ho:bx (iY t acc (gy.take i) gy):=mul_int t gy _ _ hI
  have hli:=wZ t gy (gy.take i) acc
  have Lm:(gy.take i).length≤gy.length:=List.length_take_le' _ _
  refine⟨_,rfl,d,rfl, .inl ⟨_, .inl (pf _)⟩,_,rfl,_,gj.k (k:=k) (pf _),_,rfl,_,rfl,e,V.int (aO gy k),rfl, .inl ⟨_,k, .inr ⟨o,af⟩,rfl,hv.symm⟩,_,rfl,_,_,rfl,rfl, .inr ⟨by omega,by omega⟩,_,_,Ho.at k,rfl,_,rfl,_,rfl,d,_,rfl,jf.k (k:=k) (pf _) (kQ ?_),?_⟩
  ·omega
  ·refine⟨by rw[ah (Ne.symm oA)];exact af,some (kV k),rfl,?_⟩
   rw[js oA he,yM t gy acc hi]
   rfl
 ·rintro σ H' ⟨z,rfl,rfl⟩
  rw[List.take_length]
  exact fin z
theorem dG:ax ["parts","times","total","part","inner","kind"] ["parts","times"] (aj jj):=dB
theorem Hq:ax ["self"] ["self"] (aj pZ):=dB
theorem En (D:a9 K C "counts" "Atom.counts" pZ ["self"]) (T:oF K mg C):aJ P w K mg base 1 C "counts" ["self"] (ro C):=by
 refine D.di Hq (fun vs H Q E h=>?_) (fun f bj A outer s H vs Q E hr h=>?_)
 ·obtain⟨p,k,n,rfl,_⟩:=h
  rfl
 ·obtain⟨p,k,n,rfl,⟨dx,hp⟩,q⟩:=h
  refine⟨_,(ao
     (aD (vC (qL (a5 (pv 0) rfl) (a5 (pv 0) rfl) vB) rfl rfl (by intro z;cases z) (by decide)))),?_⟩
  intro d hd
  have yf:∀o,(upd H d o) p=some (.ins C dx (wo k n)):=fun o=>by rw[ah (ag hp hd)];exact hp
  refine⟨_,rfl,p,C,dx,_,_,rfl,yf _,T.gA,T.wA,t5 _ _,_,rfl,p,C,dx,_,_,rfl,yf _,T.gA,T.rp,rm _ _,af,[(Sum.inr k, .int n)],rfl,(by show 1≤15;decide),?_⟩
  rw[kL]
  exact q d hd
def me (C G:Addr):Nat→Sp
 |0=>fun _ _ _ _=>False
 |d+1=>fun vs H Q _=>∃(g:Addr) (ts:List Tr) (n:Int),vs=[.ref g]∧eQ C G (d+1) H g (.gr ts n)∧uh (d+1) (.gr ts n)∧(bq (d+1) 1 (.gr ts n)).length≤400∧∀e H',H e=none→H' e=some (.dK (a8 1 [] (bq (d+1) 1 (.gr ts n))))→au H H'→Q (.ref e) H'
inductive yN (C G:Addr) (d:Nat) (vs:List V) (H:Hp) (Q:VK) (E:XK):Prop
 |mk (l:Addr) (ps:List Addr) (ts:List Tr) (t:Int) (dX:vs=[.ref l, .int t]) (dY:H l=some (.lst (ps.map V.ref))) (d8:Paired (eQ C G d H) ps ts) (fk:(∀x∈ts,uh d x)) (gG:1≤t) (jE:t≤999) (oG:(ts.flatMap (bq d t)).length≤400) (sV:∀e H',H e=none→H' e=some (.dK (a8 1 [] (ts.flatMap (bq d t))))→au H H'→Q (.ref e) H')
def jP (C G:Addr) (d:Nat):Sp:=yN C G d
theorem Eo (d:Nat) (t:Int) (x:Tr):(bq d t x).length=(bq d 1 x).length:=by
 have e:=rX t d 1 x
 rw[Int.one_mul] at e
 rw[e,List.length_map]
theorem xa {d:Nat} {t:Int} {ts:List Tr} {x:Tr} (h:x∈ts):(bq d 1 x).length≤(ts.flatMap (bq d t)).length:=by
 rw[←Eo d t x]
 obtain⟨as,bs,rfl⟩:=List.append_of_mem h
 rw[List.flatMap_append,List.flatMap_cons,List.length_append,List.length_append]
 omega
theorem Ln (k:Str) (n:Int):a8 1 [] [(k,n*1)]=[(Sum.inr k, .int n)]:=by
 show putK [] (Sum.inr k) (.int (aO [] (Sum.inr k)+n*1*1))=_
 rw[show aO [] (Sum.inr k:Key)=0 from rfl,Int.zero_add,Int.mul_one,Int.mul_one]
 rfl
theorem ti {d:Nat} {t:Int} (ts:List Tr) (i:Nat):((ts.take i).flatMap (bq d t)).length≤(ts.flatMap (bq d t)).length:=by
 conv=>rhs;rw[←List.take_append_drop i ts,List.flatMap_append,List.length_append]
 omega
theorem iO (l:List (Str×Int)):((a8 1 [] l).map (·.1)).Nodup:=wu 1 l [] List.nodup_nil
theorem cC (l:List (Str×Int)):bx (a8 1 [] l):=iI 1 l [] Hn
theorem dE (l:List (Str×Int)):(a8 1 [] l).length≤l.length:=by
 have:=iJ 1 l []
 rw[List.length_nil] at this
 omega
theorem pA (d:Nat) (D:Def K mg "parts_counts" "parts_counts" jj ["parts","times"]) (T:rE K mg C R G uK uN uB uE uM) (c1:aJ P w K mg base 1 C "counts" ["self"] (ro C)) (c2:aJ P w K mg base (2*d+1) G "counts" ["self"] (me C G d)):bg P w K mg base (2*d+2) "parts_counts" ["parts","times"] (jP C G d):=by
 obtain⟨_,_,ja⟩:=c1
 obtain⟨_,_,ie⟩:=c2
 refine D.di dG (fun vs H Q E h=>?_) (fun f bj A outer s H vs Q E hr h=>?_)
 ·obtain⟨l,ps,ts,t,rfl,_⟩:=h
  rfl
 ·obtain⟨l,ps,ts,t,rfl,hl,hP,aU,t1,t2,hz,q⟩:=h
  have hu:=dz hr
  have lp:ps.length=ts.length:=Paired.length hP
  refine⟨_,(ai
     (aB (i:=2) dG.nd rfl (Or.inl rfl) dw)
    (ai
     (bW PassesOwn.never rfl (cN (pv 0)) (aG (i:=3) dG.nd rfl (Or.inl rfl))
      (ai
       (aB (i:=4) dG.nd rfl (Or.inl rfl) (F1 (aN (pv 3) T.gA ja.m ja.ok (hr.mono (by omega)) ja.b .nil ay) (aN (pv 3) T.eN ie.m ie.ok (hr.mono (by omega)) ie.b .nil ay)))
      (ao
       (dJ (bW PassesOwn.never rfl (cR (pv 4)) (aG (i:=5) dG.nd rfl (Or.inl rfl))
        (ao
         (cQ hu (pv 2) (pv 5) (aE cf (bR hu (pv 2) (pv 5) aq ⟨rfl,rfl,rfl,rfl⟩) (aE g8 (b6 hu (pv 4) (pv 5) (fun _ _=>rfl)) (pv 1))) rfl)))))))
    (ao
     (aD (pv 2))))),?_⟩
  intro e0 pK
  refine⟨_,rfl,l,rfl,⟨_,b5.of (au.new pK _ _ hl)⟩,fq (K:=K) (a:=l) (xs:=ps.map V.ref) (fun i σ H'=>∃v u z:Option V,σ=[some (.ref l),some (.int t),some (.ref e0),v,u,z]∧au H H'∧H' e0=some (.dK (a8 1 [] ((ts.take i).flatMap (bq d t))))) ?_ (fun i σ H' _ ⟨_,_,_,_,e,_⟩=>b5.of (e _ _ hl)) ?_ ?_⟩
  ·exact⟨none,none,none,rfl,au.new pK,af⟩
  ·rintro i v σ H' hi ⟨v',u,z,rfl,e,fQ⟩
   rw[List.getElem?_map] at hi
   obtain⟨p,hp,rfl⟩:∃p,ps[i]? =some p∧v=V.ref p:=by
    cases hh:ps[i]? with
    |none=>rw[hh] at hi;cases hi
    |some p=>rw[hh] at hi;exact⟨p,rfl,(Option.some.inj hi).symm⟩
   obtain⟨x,hx,hT⟩:=bI hP hp
   have hT:=hT.same e
   have mq:=aU x (List.mem_of_getElem? hx)
   have lx:=Nat.le_trans (xa (d:=d) (t:=t) (List.mem_of_getElem? hx)) hz
   have li:=Nat.le_trans (ti (d:=d) (t:=t) ts i) hz
   have kg:a8 1 [] ((ts.take (i+1)).flatMap (bq d t))=iY t (a8 1 [] ((ts.take i).flatMap (bq d t))) (a8 1 [] (bq d 1 x)) (a8 1 [] (bq d 1 x)):=by
    rw[Hm t (cC _) (iO _),take_snoc hx,List.flatMap_append,List.flatMap_cons,List.flatMap_nil,List.append_nil,Cj]
   have hlen:(a8 1 [] ((ts.take i).flatMap (bq d t))).length+(a8 1 [] (bq d 1 x)).length≤1000:=by
    have:=dE ((ts.take i).flatMap (bq d t))
    have:=dE (bq d 1 x)
    omega
   cases x with
   |one k n=>
    have MR:l6 k∧1≤n∧n≤999:=by cases d<;>exact mq
    have hA:gz C H' p ⟨k.toArray⟩ n:=by cases d<;>exact hT
    have ef:bq d 1 (.one k n)=[(⟨k.toArray⟩,n*1)]:=by cases d<;>rfl
    rw[ef,Ln] at kg hlen
    obtain⟨dx,yf⟩:=id hA
    refine Or.inl ⟨_,rfl,p,dx,_,rfl,yf,BV _ _ (by decide+kernel) (by decide+kernel),p,_,n,rfl,hA,fun b hb=>?_⟩
    have nb:e0≠b:=ag fQ hb
    refine rY hu (by rw[ah nb];exact fQ) af nb (cC _) (fun q hq=>⟨n,by rw[List.mem_singleton.mp hq]⟩) hlen t1 t2 fun z'=>⟨_,_,_,rfl,fun b' o w'=>?_,?_⟩
    ·rw[ah (ag w' pK),ah (ag (e _ _ w') hb)]
     exact e _ _ w'
    ·rw[af,kg]
   |gr us n=>
    cases d with
    |zero=>exact mq.elim
    |succ d=>
     obtain⟨dx,l',Rn,h1,h2,h3⟩:=id hT
     refine Or.inr ⟨_,rfl,p,dx,_,rfl,h1,mY _ _ (by decide+kernel) (by decide+kernel),p,us,n,rfl,hT,mq,lx,fun b cz nb hb e'=>?_⟩
     refine rY hu (e' _ _ fQ) hb (ag fQ nb) (cC _) (cC _) hlen t1 t2 fun z'=>⟨_,_,_,rfl,fun b' o w'=>?_,?_⟩
     ·rw[ah (ag w' pK)]
      exact e' _ _ (e _ _ w')
     ·rw[af,kg]
  ·rintro σ H' ⟨v,u,z,rfl,e,fQ⟩
   rw[List.length_map,lp,List.take_length] at fQ
   exact⟨_,rfl,q e0 H' pK fQ e⟩
theorem uR:ax ["self"] ["self"] (aj jl):=dB
theorem yO (D:a9 K G "counts" "Group.counts" jl ["self"]):aJ P w K mg base 1 G "counts" ["self"] (me C G 0):=
 D.di (k:=0) uR (fun vs H Q E h=>h.elim) (fun f bj A outer s H vs Q E hr h=>h.elim)
theorem yP (d:Nat) (D:a9 K G "counts" "Group.counts" jl ["self"]) (T:rE K mg C R G uK uN uB uE uM) (c1:bg P w K mg base (2*d+2) "parts_counts" ["parts","times"] (jP C G d)):aJ P w K mg base (2*d+3) G "counts" ["self"] (me C G (d+1)):=by
 obtain⟨_,_,bb⟩:=c1
 refine D.di uR (fun vs H Q E h=>?_) (fun f bj A outer s H vs Q E hr h=>?_)
 ·obtain⟨g,ts,n,rfl,_⟩:=h
  rfl
 ·obtain⟨g,ts,n,rfl,⟨dx,l,ps,h1,h2,h3⟩,⟨ne,aU,n1,n2⟩,hz,q⟩:=h
  have e:bq (d+1) 1 (.gr ts n)=ts.flatMap (bq d n):=by
   show ts.flatMap (bq d (n*1))=_
   rw[Int.mul_one]
  rw[e] at hz q
  refine⟨_,(ao
     (aD (aH bb.ok (hr.mono (by omega)) rfl bb.g bb.kp bb.b .nil ay (aa (a5 (pv 0) rfl) (aa (a5 (pv 0) rfl) ak))))),?_⟩
  exact⟨_,rfl,g,G,dx,_,_,rfl,h1,T.eN,T.oI,iK _ _,_,rfl,g,G,dx,_,_,rfl,h1,T.eN,T.oJ,iL _ _,l,ps,ts,n,rfl,h2,h3,aU,n1,n2,hz,q⟩
theorem rZ (D1:Def K mg "parts_counts" "parts_counts" jj ["parts","times"]) (D2:a9 K G "counts" "Group.counts" jl ["self"]) (T:rE K mg C R G uK uN uB uE uM) (c1:aJ P w K mg base 1 C "counts" ["self"] (ro C)):∀d:Nat,bg P w K mg base (2*d+2) "parts_counts" ["parts","times"] (jP C G d)
 |0=>pA 0 D1 T c1 (yO D2)
 |d+1=>pA (d+1) D1 T c1 (yP d D2 T (rZ D1 D2 T c1 d))
inductive pL (C G Pc:Addr) (d:Nat) (vs:List V) (H:Hp) (Q:VK) (E:XK):Prop
 |mk (q:Addr) (x:j5) (dX:vs=[.ref q]) (dY:jK C G Pc d H q x) (d8:Gf d x) (fk:(cA d x).length≤400) (gG:∀e H',H e=none→H' e=some (.dK (a8 1 [] (cA d x)))→au H H'→Q (.ref e) H')
def kF (C G Pc:Addr) (d:Nat):Sp:=pL C G Pc d
theorem tj:ax ["self"] ["self"] (aj gN):=dB
theorem pM (d:Nat) (D:a9 K Pc "counts" "Piece.counts" gN ["self"]) (T:lK K mg C R G Pc Fo uK uN uB uE uM uC uP uI uD uL uT) (c1:bg P w K mg base (2*d+2) "parts_counts" ["parts","times"] (jP C G d)):aJ P w K mg base (2*d+3) Pc "counts" ["self"] (kF C G Pc d):=by
 obtain⟨_,_,bb⟩:=c1
 refine D.di tj (fun vs H Q E h=>?_) (fun f bj A outer s H vs Q E hr h=>?_)
 ·obtain⟨q,x,rfl,_⟩:=h
  rfl
 ·obtain⟨g,x,rfl,⟨dx,l,ps,h1,h2,h3⟩,⟨ne,aU,n1,n2⟩,hz,q⟩:=h
  refine⟨_,(ao
     (aD (aH bb.ok (hr.mono (by omega)) rfl bb.g bb.kp bb.b .nil ay (aa (a5 (pv 0) rfl) (aa (a5 (pv 0) rfl) ak))))),?_⟩
  exact⟨_,rfl,g,Pc,dx,_,_,rfl,h1,T.dn,T.oM,iK _ _,_,rfl,g,Pc,dx,_,_,rfl,h1,T.dn,T.oN,iL _ _,l,ps,x.2,x.1,rfl,h2,h3,aU,n1,n2,hz,q⟩
inductive yQ (C G Pc:Addr) (d:Nat) (vs:List V) (H:Hp) (Q:VK) (E:XK):Prop
 |mk (l:Addr) (ps:List Addr) (xs:List j5) (dX:vs=[.ref l, .int 1]) (dY:H l=some (.lst (ps.map V.ref))) (d8:Paired (jK C G Pc d H) ps xs) (fk:(∀x∈xs,Gf d x)) (gG:(xs.flatMap (cA d)).length≤400) (jE:∀e H',H e=none→H' e=some (.dK (cW d xs))→au H H'→Q (.ref e) H')
def r8 (C G Pc:Addr) (d:Nat):Sp:=yQ C G Pc d
theorem yR (d:Nat) (D:Def K mg "parts_counts" "parts_counts" jj ["parts","times"]) (T:lK K mg C R G Pc Fo uK uN uB uE uM uC uP uI uD uL uT) (c1:aJ P w K mg base (2*d+3) Pc "counts" ["self"] (kF C G Pc d)):bg P w K mg base (2*d+4) "parts_counts" ["parts","times"] (r8 C G Pc d):=by
 obtain⟨_,_,ig⟩:=c1
 refine D.di dG (fun vs H Q E h=>?_) (fun f bj A outer s H vs Q E hr h=>?_)
 ·obtain⟨l,ps,xs,rfl,_⟩:=h
  rfl
 ·obtain⟨l,ps,xs,rfl,hl,hP,aU,hz,q⟩:=h
  have hu:=dz hr
  have lp:ps.length=xs.length:=Paired.length hP
  refine⟨_,(ai
     (aB (i:=2) dG.nd rfl (Or.inl rfl) dw)
    (ai
     (bW PassesOwn.never rfl (cN (pv 0)) (aG (i:=3) dG.nd rfl (Or.inl rfl))
      (ai
       (aB (i:=4) dG.nd rfl (Or.inl rfl) (aN (pv 3) T.dn ig.m ig.ok (hr.mono (by omega)) ig.b .nil ay))
      (ao
       (dJ (bW PassesOwn.never rfl (cR (pv 4)) (aG (i:=5) dG.nd rfl (Or.inl rfl))
        (ao
         (cQ hu (pv 2) (pv 5) (aE cf (bR hu (pv 2) (pv 5) aq ⟨rfl,rfl,rfl,rfl⟩) (aE g8 (b6 hu (pv 4) (pv 5) (fun _ _=>rfl)) (pv 1))) rfl)))))))
    (ao
     (aD (pv 2))))),?_⟩
  intro e0 pK
  refine⟨_,rfl,l,rfl,⟨_,b5.of (au.new pK _ _ hl)⟩,fq (K:=K) (a:=l) (xs:=ps.map V.ref) (fun i σ H'=>∃v u z:Option V,σ=[some (.ref l),some (.int 1),some (.ref e0),v,u,z]∧au H H'∧H' e0=some (.dK (cW d (xs.take i)))) ?_ (fun i σ H' _ ⟨_,_,_,_,e,_⟩=>b5.of (e _ _ hl)) ?_ ?_⟩
  ·exact⟨none,none,none,rfl,au.new pK,af⟩
  ·rintro i v σ H' hi ⟨v',u,z,rfl,e,fQ⟩
   rw[List.getElem?_map] at hi
   obtain⟨p,hp,rfl⟩:∃p,ps[i]? =some p∧v=V.ref p:=by
    cases hh:ps[i]? with
    |none=>rw[hh] at hi;cases hi
    |some p=>rw[hh] at hi;exact⟨p,rfl,(Option.some.inj hi).symm⟩
   obtain⟨x,hx,hT⟩:=bI hP hp
   have hT:=hT.same e
   have mq:=aU x (List.mem_of_getElem? hx)
   have lx:(cA d x).length≤400:=by
    refine Nat.le_trans ?_ hz
    obtain⟨as,bs,rfl⟩:=List.append_of_mem (List.mem_of_getElem? hx)
    rw[List.flatMap_append,List.flatMap_cons,List.length_append,List.length_append]
    omega
   have li:((xs.take i).flatMap (cA d)).length≤400:=by
    refine Nat.le_trans ?_ hz
    conv=>rhs;rw[←List.take_append_drop i xs,List.flatMap_append,List.length_append]
    omega
   have kg:cW d (xs.take (i+1))=iY 1 (cW d (xs.take i)) (a8 1 [] (cA d x)) (a8 1 [] (cA d x)):=by
    unfold cW
    rw[wG 1 1 (cA d x) (cC _) (iO _),take_snoc hx,List.flatMap_append,List.flatMap_cons,List.flatMap_nil,List.append_nil,Cj]
    rfl
   obtain⟨dx,l',Rn,h1,h2,h3⟩:=id hT
   refine⟨_,rfl,p,dx,_,rfl,h1,mY _ _ (by decide+kernel) (by decide+kernel),p,x,rfl,hT,mq,lx,fun b cz nb hb e'=>?_⟩
   refine rY hu (e' _ _ fQ) hb (ag fQ nb) (cC _) (cC _) ?_ (by decide) (by decide) fun z'=>⟨_,_,_,rfl,fun b' o w'=>?_,?_⟩
   ·have z1:(cW d (xs.take i)).length≤((xs.take i).flatMap (cA d)).length:=dE ((xs.take i).flatMap (cA d))
    have z2:=dE (cA d x)
    omega
   ·rw[ah (ag w' pK)]
    exact e' _ _ (e _ _ w')
   ·rw[af,kg]
  ·rintro σ H' ⟨v,u,z,rfl,e,fQ⟩
   rw[List.length_map,lp,List.take_length] at fQ
   exact⟨_,rfl,q e0 H' pK fQ e⟩
inductive yS (C G Pc Fo:Addr) (d:Nat) (vs:List V) (H:Hp) (Q:VK) (E:XK):Prop
 |mk (f:Addr) (xs:List j5) (n:Int) (dX:vs=[.ref f]) (dY:pq C G Pc Fo d H f xs n) (d8:K9 d xs n) (fk:(xs.flatMap (cA d)).length≤400) (gG:∀e H',H e=none→H' e=some (.dK (cW d xs))→au H H'→Q (.ref e) H')
def mf (C G Pc Fo:Addr) (d:Nat):Sp:=yS C G Pc Fo d
theorem lz {d:Nat} {xs:List j5} {n:Int} (h:K9 d xs n):∀x∈xs,Gf d x:=by
 cases xs with
 |nil=>intro x hx;cases hx
 |cons y r=>exact h.2.1
theorem Ep:ax ["self"] ["self"] (aj mM):=dB
theorem yT (d:Nat) (D:a9 K Fo "counts" "Formula.counts" mM ["self"]) (T:lK K mg C R G Pc Fo uK uN uB uE uM uC uP uI uD uL uT) (c1:bg P w K mg base (2*d+4) "parts_counts" ["parts","times"] (r8 C G Pc d)):aJ P w K mg base (2*d+5) Fo "counts" ["self"] (mf C G Pc Fo d):=by
 obtain⟨_,_,bb⟩:=c1
 refine D.di Ep (fun vs H Q E h=>?_) (fun f bj A outer s H vs Q E hr h=>?_)
 ·obtain⟨f,xs,n,rfl,_⟩:=h
  rfl
 ·obtain⟨g,xs,n,rfl,⟨dx,l,ps,h1,h2,h3⟩,aU,hz,q⟩:=h
  refine⟨_,(ao
     (aD (aH bb.ok (hr.mono (by omega)) rfl bb.g bb.kp bb.b .nil ay (aa (a5 (pv 0) rfl) (aa aq ak))))),?_⟩
  exact⟨_,rfl,g,Fo,dx,_,_,rfl,h1,T.bO,T.jL,jJ _ _,l,ps,xs,rfl,h2,h3,lz aU,hz,q⟩
variable {uC uP uI uD uL uT eW eX eY uG uS:Tok} {Ch:Addr}
structure nH (K:PySem.W.Frag) (mg:Str→Option Value) (C R G Pc Fo Ch:Addr) (uK uN uB uE uM uC uP uI uD uL uT eW eX eY uG uS:Tok):Prop extends Hi K mg C R G Pc Fo Ch uK uN uB uE uM uC uP uI uD uL uT eW eX eY where
 kG:mg "LONGEST_TERM_COUNT" =some (.int 12 uG)
 sf:mg "ChangeReader" =some (.ref R)
 xb:mg "MOST_TERMS" =some (.int 8 uS)
def ye (n:Int):List Nat:=if n=1 then [] else [32]
def gS (x:Tm):List Nat:=aQ x.1++(ye x.1++fL x.2)
def NewQ (C G Pc Fo:Addr) (H H':Hp) (t:Addr) (x:Tm):Prop:=∀cz,(∀b o,H b=none→H' b=some o→cz b=some o)→jO C G Pc Fo cz t x
def MZ (C G Pc Fo L:Addr) (H H':Hp) (t:Addr) (x:Tm):Prop:=∀cz,(∀b o,H b=none→b≠L→H' b=some o→cz b=some o)→jO C G Pc Fo cz t x
def M0 (C G Pc Fo:Addr) (H H':Hp) (l:Addr) (xs:List Tm):Prop:=H l=none∧∃ps,H' l=some (.lst (ps.map V.ref))∧∀cz,(∀b o,H b=none→H' b=some o→cz b=some o)→Paired (jO C G Pc Fo cz) ps xs
abbrev fP (x:Tm):Prop:=pJ 999999999999 x
inductive Hr (C G Pc Fo R:Addr) (vs:List V) (H:Hp) (Q:VK) (E:XK):Prop
 |mk (r:Addr) (x:Str) (p:Nat) (tm:Tm) (post:List Nat) (dX:vs=[.ref r]) (dY:dk R H r x p) (d8:Here x p (gS tm) post) (fk:Fp post) (gG:fP tm) (jE:x.length≤1000) (oG:∀t H',H t=none→NewQ C G Pc Fo H H' t tm→dk R H' r x (p+(gS tm).length)→Kept r H H'→Q (.ref t) H')
def xc (C G Pc Fo R:Addr):Sp:=Hr C G Pc Fo R
theorem e32:(" " :Str)=⟨#[32]⟩:=by decide+kernel
theorem Pe {x:Fm} (h:K9 1 x.1 x.2) (post:List Nat):Not xR (fL x++post):=by
 obtain⟨xs,n⟩:=x
 cases xs with
 |nil=>
  intro c hc
  rw[show fL ([],n)=[101,94,45] from rfl] at hc
  have e:101=c:=by simpa using hc
  subst e
  rfl
 |cons x0 r0=>
  obtain⟨_,Ef,_⟩:=h
  have O2:=Ef x0 (List.mem_cons_self ..)
  have e:fL (x0::r0,n)++post=x0.2.flatMap (cn 1)++(cX 1 r0++jq n++post):=by
   show x0.2.flatMap (cn 1)++(cX 1 r0++jq n)++post=_
   rw[List.append_assoc]
  rw[e]
  cases hx:x0.2 with
  |nil=>exact absurd hx O2.1
  |cons t ts=>
   obtain⟨c,rest,hc,ht⟩:=oK (O2.2.1 t (by rw[hx];exact List.mem_cons_self ..))
   intro b hb
   rw[List.flatMap_cons,hc] at hb
   have e:c=b:=by simpa using hb
   subst e
   rcases ht with ⟨hg,_⟩ | ⟨rfl,_⟩
   ·simp only [Fj,xR,Bool.and_eq_true,decide_eq_true_eq] at*
    simp
    omega
   ·rfl
theorem Lp {x:Tm} (h:K9 1 x.2.1 x.2.2) (post:List Nat):Not xR (ye x.1++fL x.2++post):=by
 unfold ye
 split
 ·exact Pe h post
 ·intro c hc
  have e:32=c:=by simpa using hc
  subst e
  rfl
theorem M3 {n:Int} (h1:1≤n) (h2:n≤999999999999):((aQ n).length:Int)≤12:=by
 obtain⟨m,rfl⟩:=Int.eq_ofNat_of_zero_le (show 0≤n by omega)
 have:=lb (n:=m) (k:=12) (by decide) (by omega)
 rw[de,bo] at this
 show ((aQ (m:Int)).length:Int)≤12
 omega
theorem Ck:ax ["self","count"] ["self"] (aj wb):=dB
theorem Hs (D:a9 K R "read_term" "ChangeReader.read_term" wb ["self"]) (T:nH K mg C R G Pc Fo Ch uK uN uB uE uM uC uP uI uD uL uT eW eX eY uG uS) (c1:aJ P w K mg base 2 R "read_number" ["self","longest"] (rA R)) (c2:aJ P w K mg base 2 R "take" ["self","sign"] (lZ R)) (c3:aJ P w K mg base 10 R "read_whole" ["self"] (rM C G Pc Fo R 1)):
  aJ P w K mg base 11 R "read_term" ["self"] (xc C G Pc Fo R):=by
 obtain⟨_,_,bH⟩:=c1
 obtain⟨_,_,aF⟩:=c2
 obtain⟨_,_,bL⟩:=c3
 refine D.di Ck (fun vs H Q E h=>?_) (fun f bj A outer s H vs Q E hr h=>?_)
 ·obtain⟨r,x,p,tm,post,rfl,_⟩:=h
  rfl
 ·obtain⟨r,x,p,tm,post,rfl,⟨dx,hR⟩,hh,JJ,⟨n1,n2,To⟩,hx,q⟩:=h
  refine⟨_,(ai
     (aB (i:=1) Ck.nd rfl (Or.inl rfl) (bU (pv 0) T.aw bH.m bH.ok (hr.mono (by decide)) bH.b .nil ay (aa (aY (v:= .int 12) rfl T.kG ⟨_,rfl⟩) ak)))
    (ai
     (bG (aP lN (pv 1) aq (aW _))
      (ao
       (bB (bU (pv 0) T.aw aF.m aF.ok (hr.mono (by decide)) aF.b .nil ay (aa (aY (v:= .str " ") rfl T.Lk ⟨_,rfl⟩) ak))))
      aR)
    (ao
     (aD (bP (aa (pv 1) (aa (aN (pv 0) T.aw bL.m bL.ok (hr.mono (by decide)) bL.b .nil ay) ak))))))),?_⟩
  have AH:Here x p (aQ tm.1) (ye tm.1++fL tm.2++post):=⟨hh.1,by rw[hh.2];unfold gS;rw[List.append_assoc]⟩
  have O0:Here x (p+(aQ tm.1).length) (ye tm.1++fL tm.2) post:=Here.on hh
  have Fl:Here x (p+(aQ tm.1).length+(ye tm.1).length) (fL tm.2) post:=Here.on O0
  refine⟨_,rfl,r,dx,_,rfl,hR,aI _ _ (by decide+kernel) (by decide+kernel),r,x,p,tm.1,12,_,rfl,⟨dx,hR⟩,AH,n1,by omega,M3 n1 n2,Lp To.1 post,hx,fun H1 eL k1=>?_⟩
  obtain⟨nV,eL⟩:=eL
  dsimp only [du]
  refine iD (fun σ' H'=>σ'=[some (.ref r),some (.int tm.1)]∧dk R H' r x (p+(aQ tm.1).length+(ye tm.1).length)∧Kept r H H') (fun N hN=>?_) ?_
  ·refine⟨_,rfl,_,_,rfl,rfl,_,rfl,fM (fun e=>?_) fun e=>?_⟩
   ·have e:1<tm.1:=by simpa using e
    have eb:ye tm.1=[32]:=if_neg (by omega)
    rw[eb] at O0 hN
    refine⟨_,rfl,r,nV,_,rfl,eL,aI _ _ (by decide+kernel) (by decide+kernel),r,x,_,_,32,_,post,rfl,e32,⟨nV,eL⟩,O0,hx,fun H2 ir k2=>hN _ _ ⟨rfl,ir,k1.trans k2⟩⟩
   ·have e:¬1<tm.1:=by simpa using e
    have eb:ye tm.1=[]:=if_pos (by omega)
    rw[eb] at hN
    exact hN _ _ ⟨rfl,⟨nV,eL⟩,k1⟩
  rintro σ' H2 ⟨rfl,⟨j4,ir⟩,k2⟩
  refine⟨_,rfl,_,rfl,r,j4,_,rfl,ir,aI _ _ (by decide+kernel) (by decide+kernel),r,x,_,tm.2.1,tm.2.2,post,rfl,⟨j4,ir⟩,Fl,JJ,To.1,by decide,hx,fun f H3 nf hF iu k3=>⟨(by show 2≤sizeLine;decide),fun t ht=>?_⟩⟩
  obtain⟨wK,iu⟩:=iu
  have k13:=k2.trans k3
  have st:=au.new (o:= .tup [.int tm.1, .ref f]) ht
  refine q t _ (a6 k13 iu ht) (fun cz ke=>⟨f,ke _ _ (a6 k13 iu ht) af,hF cz fun b o z1 z2=>ke b o (a6 k2 ir z1) (st _ _ z2)⟩) ⟨wK,?_⟩ (k13.trans (Kept.of st))
  rw[st _ _ iu]
  have e:(gS tm).length=(aQ tm.1).length+((ye tm.1).length+(wL 1 tm.2.1 tm.2.2).length):=by
   unfold gS
   rw[List.length_append,List.length_append]
   rfl
  rw[e]
  congr 3
  omega
variable {uC uP uI uD uL uT eW eX eY uG uS:Tok} {Ch:Addr}
def Ht (x:Tm):List Nat:=[32,43,32]++gS x
def ij (xs:List Tm):List Nat:=xs.flatMap Ht
def sQ:List Tm→List Nat
 | []=>[]
 |x::r=>gS x++ij r
def qi:List Nat:=[32,45,62,32]
inductive Er (C G Pc Fo R:Addr) (vs:List V) (H:Hp) (Q:VK) (E:XK):Prop
 |mk (r:Addr) (x:Str) (p:Nat) (xs:List Tm) (post:List Nat) (dX:vs=[.ref r]) (dY:dk R H r x p) (d8:Here x p (sQ xs++qi) post) (fk:xs≠[]) (gG:(∀t∈xs,fP t)) (jE:x.length≤1000) (oG:∀l H',M0 C G Pc Fo H H' l xs→dk R H' r x (p+(sQ xs++qi).length)→Kept r H H'→Q (.ref l) H')
def yU (C G Pc Fo R:Addr):Sp:=Er C G Pc Fo R
inductive A1 (C G Pc Fo R:Addr) (vs:List V) (H:Hp) (Q:VK) (E:XK):Prop
 |mk (r:Addr) (x:Str) (p:Nat) (xs:List Tm) (dX:vs=[.ref r]) (dY:dk R H r x p) (d8:Here x p (sQ xs) []) (fk:xs≠[]) (gG:(∀t∈xs,fP t)) (jE:x.length≤1000) (oG:∀l H',M0 C G Pc Fo H H' l xs→Kept r H H'→(∃o,H' r=some o)→Q (.ref l) H')
def uU (C G Pc Fo R:Addr):Sp:=A1 C G Pc Fo R
theorem xf (xs:List Tm) {post:List Nat} (h:Fp post):Fp (ij xs++post):=by
 cases xs with
 |nil=>exact h
 |cons x r=>exact .inr ⟨_,rfl⟩
theorem xg (x:Tm):(Ht x).length=3+(gS x).length:=by
 unfold Ht
 rw[List.length_append]
 rfl
theorem xh:∀xs:List Tm,xs.length≤(ij xs).length
 | []=>Nat.zero_le _
 |x::r=>by
  have:=xh r
  have h:=xg x
  show r.length+1≤(Ht x++ij r).length
  rw[List.length_append]
  omega
theorem Cm (xs:List Tm) (i:Nat):(ij (xs.take i)).length≤(ij xs).length:=by
 unfold ij
 conv=>rhs;rw[←List.take_append_drop i xs,List.flatMap_append,List.length_append]
 omega
theorem eJ:(" + " :Str).cps.toList=[32,43,32]:=by decide+kernel
theorem eJa:(" + " :Str).cps.all (· <128)=true:=by decide+kernel
theorem eJl:(" + " :Str).length=3:=by decide+kernel
theorem eA:(" -> " :Str).cps.toList=qi:=by decide+kernel
theorem eAa:(" -> " :Str).cps.all (· <128)=true:=by decide+kernel
theorem eAl:(" -> " :Str).length=4:=by decide+kernel
theorem Es (x:Str) {p:Nat} (hp:p+1≤x.length):Txt.slice x (some ((p:Int)+1)) (some ((p:Int)+2))=eP x (p+1):=by
 have:=ua x hp
 have e:(((p+1 :Nat):Int))+1=(p:Int)+2:=by omega
 rw[e] at this
 exact this
theorem yV:ax ["self","terms"] ["self"] (aj p6):=dB
theorem Et (D:a9 K R "read_lefts" "ChangeReader.read_lefts" p6 ["self"]) (T:nH K mg C R G Pc Fo Ch uK uN uB uE uM uC uP uI uD uL uT eW eX eY uG uS) (c1:aJ P w K mg base 11 R "read_term" ["self"] (xc C G Pc Fo R)) (c2:aJ P w K mg base 3 R "take_all" ["self","signs"] (ll R)):
  aJ P w K mg base 12 R "read_lefts" ["self"] (yU C G Pc Fo R):=by
 obtain⟨_,_,aX⟩:=c1
 obtain⟨_,_,aV⟩:=c2
 refine D.di yV (fun vs H Q E h=>?_) (fun f bj A outer s H vs Q E hr h=>?_)
 ·obtain⟨r,x,p,xs,post,rfl,_⟩:=h
  rfl
 ·obtain⟨r,x,p,xs,post,rfl,⟨dx,hR⟩,hh,oA,aU,hx,q⟩:=h
  have big:(2000 :Nat)≤sizeLine:=by decide
  obtain⟨x0,r0,rfl⟩:∃x0 r0,xs=x0::r0:=by
   cases xs with
   |nil=>exact absurd rfl oA
   |cons a b=>exact⟨a,b,rfl⟩
  refine⟨_,(ai
     (aB (i:=1) yV.nd rfl (Or.inl rfl) (cD (aa (aN (pv 0) T.aw aX.m aX.ok (hr.mono (by decide)) aX.b .nil ay) ak)))
    (ai
     (jd PassesOwn.never (aP pe (mB vO (a5 (pv 0) rfl) (iA (aE cf (a5 (pv 0) rfl) aq)) (iA (aE cf (a5 (pv 0) rfl) aq))) (cE vF (aY (v:= .str " -> ") rfl T.Cg ⟨_,rfl⟩) aq (fun _ _=>rfl)) (aW _))
      (ai
       (bB (bU (pv 0) T.aw aV.m aV.ok (hr.mono (by decide)) aV.b .nil ay (aa (aY (v:= .str " + ") rfl T.Cf ⟨_,rfl⟩) ak)))
      (ao
       (bB (jg PySem.F.plainAttrs_list PySem.F.slot_list_append PySem.F.type_list_append d5 (pv 1) (aa (aN (pv 0) T.aw aX.m aX.ok (hr.mono (by decide)) aX.b .nil ay) ak))))))
    (ai
     (bB (bU (pv 0) T.aw aV.m aV.ok (hr.mono (by decide)) aV.b .nil ay (aa (aY (v:= .str " -> ") rfl T.Cg ⟨_,rfl⟩) ak)))
    (ao
     (aD (pv 1)))))),?_⟩
  have hw:Here x p (gS x0++(ij r0++qi)) post:=⟨hh.1,by rw[hh.2];show (gS x0++ij r0)++qi++post=_;simp only [List.append_assoc]⟩
  have GW:Here x p (gS x0) (ij r0++(qi++post)):=⟨hw.1,by rw[hw.2];simp only [List.append_assoc]⟩
  have hb:Here x (p+(gS x0).length) (ij r0++qi) post:=Here.on hw
  have Fh:Here x (p+(gS x0).length) (ij r0) (qi++post):=⟨hb.1,by rw[hb.2];simp only [List.append_assoc]⟩
  have Pf:Here x (p+(gS x0).length+(ij r0).length) qi post:=Here.on hb
  have ea:Fp (qi++post):= .inr ⟨_,rfl⟩
  refine⟨_,rfl,r,dx,_,rfl,hR,aI _ _ (by decide+kernel) (by decide+kernel),r,x,p,x0,_,rfl,⟨dx,hR⟩,GW,xf r0 ea,aU x0 (List.mem_cons_self ..),hx,fun t0 H1 nt0 hN eL k1=>⟨(by show 1≤sizeLine;decide),fun L hL=>?_⟩⟩
  obtain⟨nV,eL⟩:=eL
  have xS:H L=none:=a6 k1 eL hL
  have yD:L≠r:=fun z=>by rw[z,eL] at hL;cases hL
  have sL:au H1 (upd H1 L (.lst [V.ref t0])):=au.new hL
  refine⟨fun k σ H'=>∃i:Nat,k+i=r0.length∧σ=[some (.ref r),some (.ref L)]∧dk R H' r x (p+(gS x0).length+(ij (r0.take i)).length)∧Kept r H H'∧∃ps,H' L=some (.lst (ps.map V.ref))∧ps.length=i+1∧Paired (MZ C G Pc Fo L H H') ps (x0::r0.take i),⟨r0.length,0,by omega,rfl,⟨nV,sL _ _ eL⟩,k1.trans (Kept.of sL),[t0],af,rfl, .cons (fun cz ke=>hN cz fun b o z1 z2=>ke b o z1 (ag z2 hL) (sL _ _ z2)) .nil⟩,?_⟩
  rintro k σ H' ⟨i,hk,rfl,⟨dQ,eF⟩,kk,ps,uq,iX,hP⟩
  have hle:=Pf.le
  have yi:=Cm r0 i
  have hr0:=xh r0
  have a4:qi.length=4:=rfl
  refine⟨_,rfl,r,R,dQ,_,_,rfl,eF,T.aw,T.jH,fX _ _,_,rfl,r,R,dQ,_,_,rfl,eF,T.aw,T.cx,bC _ _,_,_,rfl,rfl,_,rfl,_,rfl,r,R,dQ,_,_,rfl,eF,T.aw,T.cx,bC _ _,_,_,rfl,rfl,_,rfl,x,rfl,by omega," -> ",1,45,rfl,rfl,(by decide+kernel),(by decide+kernel),rfl,_,rfl,?_⟩
  rw[Es x (by omega)]
  by_cases hi:i<r0.length
  ·have h2:Here x (p+(gS x0).length+(ij (r0.take i)).length) (Ht r0[i]) (ij (r0.drop (i+1))++(qi++post)):=wR Ht Fh hi
   have K':=aU _ (List.mem_cons_of_mem _ (List.getElem_mem hi))
   have h3:Here x (p+(gS x0).length+(ij (r0.take i)).length) [32,43,32] (gS r0[i]++(ij (r0.drop (i+1))++(qi++post))):=⟨h2.1,by rw[h2.2];rfl⟩
   have h4:Here x (p+(gS x0).length+(ij (r0.take i)).length+3) (gS r0[i]) (ij (r0.drop (i+1))++(qi++post)):=Here.on (t:=[32,43,32]) h2
   have h5:eP x (p+(gS x0).length+(ij (r0.take i)).length+1)=⟨#[43]⟩:=(Here.on (t:=[32]) (u:=[43,32]) h3).sg
   rw[h5,decide_eq_false (qf (by decide))]
   refine ix ⟨_,fun σ' cz h=>⟨k - 1,by omega,h⟩,?_⟩
   refine⟨_,rfl,r,dQ,_,rfl,eF,aI _ _ (by decide+kernel) (by decide+kernel),r,x,_,_,_,rfl,eJa,⟨dQ,eF⟩,(by rw[eJ];exact h3),hx,fun H3 iu k3=>?_⟩
   rw[eJl] at iu
   obtain⟨wK,iu⟩:=iu
   have nE:=k3 _ _ uq yD
   have kk3:=kk.trans k3
   refine⟨_,rfl, .inl ⟨rfl,_,b5.of nE⟩,_,rfl,r,wK,_,rfl,iu,aI _ _ (by decide+kernel) (by decide+kernel),r,x,_,r0[i],_,rfl,⟨wK,iu⟩,h4,xf _ ea,K',hx,fun t H4 nt hN4 uk k4=>?_⟩
   obtain⟨Fn,uk⟩:=uk
   have B7:=k4 _ _ nE yD
   have La:=k3.trans k4
   refine⟨L,_,_,rfl,rfl,B7,by rw[List.length_map];omega,i+1,by omega,rfl,⟨Fn,?_⟩,fun b o z w=>?_,ps++[t],by rw[af,List.map_append];rfl,by rw[List.length_append,iX];rfl,?_⟩
   ·rw[ah (Ne.symm yD),uk]
    have e:=wU Ht hi
    have e':(ij (r0.take (i+1))).length=(ij (r0.take i)).length+(3+(gS r0[i]).length):=by
     unfold ij
     rw[e,List.length_append,xg]
    rw[e']
    congr 3
    omega
   ·rw[ah (ag z xS)]
    exact La _ _ (kk _ _ z w) w
   ·rw[List.take_add_one,List.getElem?_eq_getElem hi]
    refine bS (as:=ps) (bs:=x0::r0.take i) (fun cz ke=>hN4 cz fun b o z1 z2=>?_) (aK (fun c t h cz ke=>h cz fun b o z1 z2 z3=>ke b o z1 z2 ?_) hP)
    ·have B4:b≠L:=fun z=>by rw[z,nE] at z1;cases z1
     exact ke b o (a6 kk3 iu z1) B4 (by rw[ah B4];exact z2)
    ·have zT:b≠r:=fun z=>by rw[z,hR] at z1;cases z1
     rw[ah z2]
     exact La _ _ z3 zT
  ·have ei:i=r0.length:=by omega
   rw[ei,List.take_length] at eF hP ⊢
   have h5:eP x (p+(gS x0).length+(ij r0).length+1)=⟨#[45]⟩:=(Here.on (t:=[32]) (u:=[45,62,32]) Pf).sg
   rw[h5,decide_eq_true rfl]
   refine cH ?_
   refine⟨_,rfl,r,dQ,_,rfl,eF,aI _ _ (by decide+kernel) (by decide+kernel),r,x,_,_,post,rfl,eAa,⟨dQ,eF⟩,(by rw[eA];exact Pf),hx,fun H3 iu k3=>?_⟩
   rw[eAl] at iu
   have nE:=k3 _ _ uq yD
   have el:p+(gS x0).length+(ij r0).length+4=p+(sQ (x0::r0)++qi).length:=by
    rw[List.length_append]
    show _=p+((gS x0++ij r0).length+4)
    rw[List.length_append]
    omega
   rw[el] at iu
   refine⟨_,rfl,q L H3 ⟨xS,ps,nE,fun cz ke=>aK (fun c t h=>h cz fun b o z1 z2 z3=>ke b o z1 ?_) hP⟩ iu (kk.trans k3)⟩
   have zT:b≠r:=fun z=>by rw[z,hR] at z1;cases z1
   exact k3 _ _ z3 zT
variable {uC uP uI uD uL uT eW eX eY uG uS:Tok} {Ch:Addr}
theorem uV:ax ["self","terms"] ["self"] (aj mR):=dB
theorem A2 (D:a9 K R "read_rights" "ChangeReader.read_rights" mR ["self"]) (T:nH K mg C R G Pc Fo Ch uK uN uB uE uM uC uP uI uD uL uT eW eX eY uG uS) (c1:aJ P w K mg base 11 R "read_term" ["self"] (xc C G Pc Fo R)) (c2:aJ P w K mg base 3 R "take_all" ["self","signs"] (ll R)):
  aJ P w K mg base 12 R "read_rights" ["self"] (uU C G Pc Fo R):=by
 obtain⟨_,_,aX⟩:=c1
 obtain⟨_,_,aV⟩:=c2
 refine D.di uV (fun vs H Q E h=>?_) (fun f bj A outer s H vs Q E hr h=>?_)
 ·obtain⟨r,x,p,xs,rfl,_⟩:=h
  rfl
 ·obtain⟨r,x,p,xs,rfl,⟨dx,hR⟩,hh,oA,aU,hx,q⟩:=h
  have big:(2000 :Nat)≤sizeLine:=by decide
  obtain⟨x0,r0,rfl⟩:∃x0 r0,xs=x0::r0:=by
   cases xs with
   |nil=>exact absurd rfl oA
   |cons a b=>exact⟨a,b,rfl⟩
  refine⟨_,(ai
     (aB (i:=1) uV.nd rfl (Or.inl rfl) (cD (aa (aN (pv 0) T.aw aX.m aX.ok (hr.mono (by decide)) aX.b .nil ay) ak)))
    (ai
     (jd PassesOwn.never (aP mw (a5 (pv 0) rfl) (bw jA rfl T.ph kh (aa (a5 (pv 0) rfl) ak)) (aW _))
      (ai
       (bB (bU (pv 0) T.aw aV.m aV.ok (hr.mono (by decide)) aV.b .nil ay (aa (aY (v:= .str " + ") rfl T.Cf ⟨_,rfl⟩) ak)))
      (ao
       (bB (jg PySem.F.plainAttrs_list PySem.F.slot_list_append PySem.F.type_list_append d5 (pv 1) (aa (aN (pv 0) T.aw aX.m aX.ok (hr.mono (by decide)) aX.b .nil ay) ak))))))
    (ao
     (aD (pv 1))))),?_⟩
  have hw:Here x p (gS x0++ij r0) []:=hh
  have GW:Here x p (gS x0) (ij r0++[]):=⟨hw.1,by rw[hw.2];simp only [List.append_assoc]⟩
  have Fh:Here x (p+(gS x0).length) (ij r0) []:=Here.on hw
  have rO:x.length=p+(gS x0).length+(ij r0).length:=by
   have:=congrArg List.length hw.2
   have h1:=hw.1
   have hl:x.cps.toList.length=x.length:=by simp [Str.length]
   rw[List.length_drop,List.length_append,List.length_append,hl] at this
   simp at this
   omega
  have ea:Fp []:= .inl rfl
  refine⟨_,rfl,r,dx,_,rfl,hR,aI _ _ (by decide+kernel) (by decide+kernel),r,x,p,x0,_,rfl,⟨dx,hR⟩,GW,xf r0 ea,aU x0 (List.mem_cons_self ..),hx,fun t0 H1 nt0 hN eL k1=>⟨(by show 1≤sizeLine;decide),fun L hL=>?_⟩⟩
  obtain⟨nV,eL⟩:=eL
  have xS:H L=none:=a6 k1 eL hL
  have yD:L≠r:=fun z=>by rw[z,eL] at hL;cases hL
  have sL:au H1 (upd H1 L (.lst [V.ref t0])):=au.new hL
  refine⟨fun k σ H'=>∃i:Nat,k+i=r0.length∧σ=[some (.ref r),some (.ref L)]∧dk R H' r x (p+(gS x0).length+(ij (r0.take i)).length)∧Kept r H H'∧∃ps,H' L=some (.lst (ps.map V.ref))∧ps.length=i+1∧Paired (MZ C G Pc Fo L H H') ps (x0::r0.take i),⟨r0.length,0,by omega,rfl,⟨nV,sL _ _ eL⟩,k1.trans (Kept.of sL),[t0],af,rfl, .cons (fun cz ke=>hN cz fun b o z1 z2=>ke b o z1 (ag z2 hL) (sL _ _ z2)) .nil⟩,?_⟩
  rintro k σ H' ⟨i,hk,rfl,⟨dQ,eF⟩,kk,ps,uq,iX,hP⟩
  have yi:=Cm r0 i
  have hr0:=xh r0
  refine⟨_,rfl,r,R,dQ,_,_,rfl,eF,T.aw,T.cx,bC _ _,_,rfl,r,R,dQ,_,_,rfl,eF,T.aw,T.jH,fX _ _,x,rfl,Nat.le_trans hx (by decide),_,_,rfl,rfl,_,rfl,?_⟩
  by_cases hi:i<r0.length
  ·have h2:Here x (p+(gS x0).length+(ij (r0.take i)).length) (Ht r0[i]) (ij (r0.drop (i+1))++[]):=wR Ht Fh hi
   have K':=aU _ (List.mem_cons_of_mem _ (List.getElem_mem hi))
   have h3:Here x (p+(gS x0).length+(ij (r0.take i)).length) [32,43,32] (gS r0[i]++(ij (r0.drop (i+1))++[])):=⟨h2.1,by rw[h2.2];rfl⟩
   have h4:Here x (p+(gS x0).length+(ij (r0.take i)).length+3) (gS r0[i]) (ij (r0.drop (i+1))++[]):=Here.on (t:=[32,43,32]) h2
   have sN:p+(gS x0).length+(ij (r0.take i)).length<x.length:=by
    have:=h3.le
    have e:[32,43,32].length=3:=rfl
    omega
   refine vK (by omega) ?_
   refine⟨_,fun σ' cz h=>⟨k - 1,by omega,h⟩,?_⟩
   refine⟨_,rfl,r,dQ,_,rfl,eF,aI _ _ (by decide+kernel) (by decide+kernel),r,x,_,_,_,rfl,eJa,⟨dQ,eF⟩,(by rw[eJ];exact h3),hx,fun H3 iu k3=>?_⟩
   rw[eJl] at iu
   obtain⟨wK,iu⟩:=iu
   have nE:=k3 _ _ uq yD
   have kk3:=kk.trans k3
   refine⟨_,rfl, .inl ⟨rfl,_,b5.of nE⟩,_,rfl,r,wK,_,rfl,iu,aI _ _ (by decide+kernel) (by decide+kernel),r,x,_,r0[i],_,rfl,⟨wK,iu⟩,h4,xf _ ea,K',hx,fun t H4 nt hN4 uk k4=>?_⟩
   obtain⟨Fn,uk⟩:=uk
   have B7:=k4 _ _ nE yD
   have La:=k3.trans k4
   refine⟨L,_,_,rfl,rfl,B7,by rw[List.length_map];omega,i+1,by omega,rfl,⟨Fn,?_⟩,fun b o z w=>?_,ps++[t],by rw[af,List.map_append];rfl,by rw[List.length_append,iX];rfl,?_⟩
   ·rw[ah (Ne.symm yD),uk]
    have e:=wU Ht hi
    have e':(ij (r0.take (i+1))).length=(ij (r0.take i)).length+(3+(gS r0[i]).length):=by
     unfold ij
     rw[e,List.length_append,xg]
    rw[e']
    congr 3
    omega
   ·rw[ah (ag z xS)]
    exact La _ _ (kk _ _ z w) w
   ·rw[List.take_add_one,List.getElem?_eq_getElem hi]
    refine bS (as:=ps) (bs:=x0::r0.take i) (fun cz ke=>hN4 cz fun b o z1 z2=>?_) (aK (fun c t h cz ke=>h cz fun b o z1 z2 z3=>ke b o z1 z2 ?_) hP)
    ·have B4:b≠L:=fun z=>by rw[z,nE] at z1;cases z1
     exact ke b o (a6 kk3 iu z1) B4 (by rw[ah B4];exact z2)
    ·have zT:b≠r:=fun z=>by rw[z,hR] at z1;cases z1
     rw[ah z2]
     exact La _ _ z3 zT
  ·have ei:i=r0.length:=by omega
   rw[ei,List.take_length] at eF hP ⊢
   refine qU (by omega) ?_
   exact⟨_,rfl,q L H' ⟨xS,ps,uq,fun cz ke=>aK (fun c t h=>h cz fun b o z1 z2 z3=>ke b o z1 z3) hP⟩ kk ⟨_,eF⟩⟩
variable {uC uP uI uD uL uT eW eX eY uG uS:Tok} {Ch:Addr}
def Pg (C G Pc Fo Ch:Addr) (H H':Hp) (c:Addr) (xs ys:List Tm):Prop:=∀cz,(∀b o,H b=none→H' b=some o→cz b=some o)→dC C G Pc Fo Ch cz c xs ys
inductive Eu (C G Pc Fo Ch R:Addr) (vs:List V) (H:Hp) (Q:VK) (E:XK):Prop
 |mk (r:Addr) (x:Str) (xs ys:List Tm) (dX:vs=[.ref r]) (dY:dk R H r x 0) (d8:x.cps.toList=sQ xs++qi++sQ ys) (fk:xs≠[]) (gG:ys≠[]) (jE:(∀t∈xs,fP t)) (oG:(∀t∈ys,fP t)) (sV:x.length≤1000) (B0:∀c H',H c=none→Pg C G Pc Fo Ch H H' c xs ys→Kept r H H'→Q (.ref c) H')
def yW (C G Pc Fo Ch R:Addr):Sp:=Eu C G Pc Fo Ch R
inductive A3 (C G Pc Fo Ch:Addr) (vs:List V) (H:Hp) (Q:VK) (E:XK):Prop
 |mk (x:Str) (xs ys:List Tm) (dX:vs=[.str x]) (dY:x.cps.toList=sQ xs++qi++sQ ys) (d8:xs≠[]) (fk:ys≠[]) (gG:(∀t∈xs,fP t)) (jE:(∀t∈ys,fP t)) (oG:x.length≤400) (sV:xs.length+ys.length≤8) (B0:∀c H',H c=none→Pg C G Pc Fo Ch H H' c xs ys→au H H'→Q (.ref c) H')
def uW (C G Pc Fo Ch:Addr):Sp:=A3 C G Pc Fo Ch
theorem yX:ax ["self","lefts"] ["self"] (aj p7):=dB
theorem Ew (D:a9 K R "read_sides" "ChangeReader.read_sides" p7 ["self"]) (T:nH K mg C R G Pc Fo Ch uK uN uB uE uM uC uP uI uD uL uT eW eX eY uG uS) (c1:aJ P w K mg base 12 R "read_lefts" ["self"] (yU C G Pc Fo R)) (c2:aJ P w K mg base 12 R "read_rights" ["self"] (uU C G Pc Fo R)) (c3:gE P w K mg base 1 Ch ["self","lefts","rights"] [] (Ci Ch)):
  aJ P w K mg base 13 R "read_sides" ["self"] (yW C G Pc Fo Ch R):=by
 obtain⟨_,_,eC⟩:=c1
 obtain⟨_,_,dS⟩:=c2
 obtain⟨_,_,b9⟩:=c3
 obtain⟨_,A4,A5⟩:=b9.b 0 (by decide)
 refine D.di yX (fun vs H Q E h=>?_) (fun f bj A outer s H vs Q E hr h=>?_)
 ·obtain⟨r,x,xs,ys,rfl,_⟩:=h
  rfl
 ·obtain⟨r,x,xs,ys,rfl,⟨dx,hR⟩,rO,nx,ny,mq,zV,hx,q⟩:=h
  refine⟨_,(ai
     (aB (i:=1) yX.nd rfl (Or.inl rfl) (aN (pv 0) T.aw eC.m eC.ok (hr.mono (by decide)) eC.b .nil ay))
    (ao
     (aD (f6 b9.m b9.ok (hr.mono (by decide)) rfl T.Hj A5 A4 ay (aa (pv 1) (aa (aN (pv 0) T.aw dS.m dS.ok (hr.mono (by decide)) dS.b .nil ay) ak)))))),?_⟩
  have hw:Here x 0 (sQ xs++qi++sQ ys) []:=yE rO
  have GW:Here x 0 (sQ xs++qi) (sQ ys):=⟨hw.1,by rw[hw.2,List.append_nil]⟩
  have AH:Here x (0+(sQ xs++qi).length) (sQ ys) []:=Here.on hw
  refine⟨_,rfl,r,dx,_,rfl,hR,aI _ _ (by decide+kernel) (by decide+kernel),r,x,0,xs,_,rfl,⟨dx,hR⟩,GW,nx,mq,hx,fun l H1 hN1 eL k1=>?_⟩
  obtain⟨nV,eL⟩:=eL
  refine⟨_,rfl,_,rfl,r,nV,_,rfl,eL,aI _ _ (by decide+kernel) (by decide+kernel),r,x,_,ys,rfl,⟨nV,eL⟩,AH,ny,zV,hx,fun m H2 hN2 k2 ir=>?_⟩
  obtain⟨o2,ir⟩:=ir
  obtain⟨Zh,ps,zP,Kl⟩:=hN1
  obtain⟨hm0,us,hm1,Rj⟩:=hN2
  have nlr':l≠r:=fun z=>by rw[z,hR] at Zh;cases Zh
  have sT:=k2 _ _ zP nlr'
  have k12:=k1.trans k2
  refine fun c dc nc ndc nec=>⟨c,dc,l,m,ps.map V.ref,us.map V.ref,rfl,af,?_,?_,fun n1 n2 H3 hn1 My n12 hc3 hn13 hn23 kp=>⟨rfl,?_⟩⟩
  ·rw[ah (ag sT nc),ah (ag sT ndc)];exact sT
  ·rw[ah (ag hm1 nc),ah (ag hm1 ndc)];exact hm1
  have s3:au H2 H3:=fun b o z=>kp b o (by rw[ah (ag z nc),ah (ag z ndc)];exact z) (ag z nc)
  have back:∀b,H2 b=none→H b=none:=fun b z=>a6 k12 ir z
  refine q c H3 (back c nc) (fun cz ke=>⟨dc,n1,n2,ke _ _ (back c nc) hc3,⟨ps,ke _ _ (back n1 (fY hn1)) hn13,Kl cz fun b o z1 z2=>?_⟩,⟨us,ke _ _ (back n2 (fY My)) hn23,Rj cz fun b o z1 z2=>?_⟩⟩) (k12.trans (Kept.of s3))
  ·have zT:b≠r:=fun z=>by rw[z,hR] at z1;cases z1
   exact ke b o z1 (s3 _ _ (k2 _ _ z2 zT))
  ·exact ke b o (a6 k1 eL z1) (s3 _ _ z2)
theorem oU:ax ["text","change","many"] ["text"] (aj mS):=dB
theorem A6 (D:Def K mg "read_change" "read_change" mS ["text"]) (T:nH K mg C R G Pc Fo Ch uK uN uB uE uM uC uP uI uD uL uT eW eX eY uG uS) (c1:bg P w K mg base 1 "refuse_too_long" ["text"] oO) (c2:gE P w K mg base 1 R ["self","text"] [] (wH R)) (c3:aJ P w K mg base 13 R "read_sides" ["self"] (yW C G Pc Fo Ch R)):
  bg P w K mg base 14 "read_change" ["text"] (uW C G Pc Fo Ch):=by
 obtain⟨_,_,bD⟩:=c1
 obtain⟨_,_,ik⟩:=c2
 obtain⟨_,_,eD⟩:=c3
 obtain⟨_,oW,oX⟩:=ik.b 0 (by decide)
 refine D.di oU (fun vs H Q E h=>?_) (fun f bj A outer s H vs Q E hr h=>?_)
 ·obtain⟨x,xs,ys,rfl,_⟩:=h
  rfl
 ·obtain⟨x,xs,ys,rfl,rO,nx,ny,mq,zV,hx,h8,q⟩:=h
  refine⟨_,(ai
     (bB (aH bD.ok (hr.mono (by decide)) rfl bD.g bD.kp bD.b .nil ay (aa (pv 0) ak)))
    (ai
     (Ox (fun _ _ z=>z)
      (ao
       (aB (i:=1) oU.nd rfl (Or.inl rfl) (aN (f6 ik.m ik.ok (hr.mono (by decide)) rfl T.sf oX oW ay (aa (pv 0) ak)) T.aw eD.m eD.ok (hr.mono (by decide)) eD.b .nil ay))))
    (ai
     (aB (i:=2) oU.nd rfl (Or.inl rfl) (aE cf (bw gK rfl T.ph kh (aa (a5 (pv 1) rfl) ak)) (bw gK rfl T.ph kh (aa (a5 (pv 1) rfl) ak))))
    (ai
     (bG (aP lN (pv 2) (aY (v:= .int 8) rfl T.xb ⟨_,rfl⟩) (aW _))
      (ao
       gf)
      aR)
    (ao
     (aD (pv 1))))))),?_⟩
  refine⟨_,rfl,x,rfl,hx,?_⟩
  refine⟨_,rfl,fun r dr nr ndr ner=>⟨r,dr,x,rfl,af,fun H1 eL k1=>⟨rfl,?_⟩⟩⟩
  obtain⟨nV,eL⟩:=eL
  have s1:au H H1:=fun b o z=>k1 b o (by rw[ah (ag z nr),ah (ag z ndr)];exact z) (ag z nr)
  refine⟨r,nV,_,rfl,eL,aI _ _ (by decide+kernel) (by decide+kernel),r,x,xs,ys,rfl,⟨nV,eL⟩,rO,nx,ny,mq,zV,by omega,fun c H2 nc hC k2=>?_⟩
  have back:∀b,H1 b=none→H b=none:=fun b z=>by
   cases hh:H b with
   |none=>rfl
   |some o=>rw[s1 _ _ hh] at z;cases z
  have hC2:=hC H2 fun b o _ z=>z
  obtain⟨dc,l,m,hc,⟨ps,hl,hP⟩,⟨us,hm,hU⟩⟩:=hC2
  have e1:=Paired.length hP
  have e2:=Paired.length hU
  refine⟨_,rfl,c,Ch,dc,_,_,rfl,hc,T.b9,T.ib,eZ _ _,l,_,rfl, .inl (b5.of hl),_,rfl,c,Ch,dc,_,_,rfl,hc,T.b9,T.jr,gR _ _,m,_,rfl, .inl (b5.of hm),_,_,rfl,rfl,?_⟩
  refine⟨_,rfl,_,_,rfl,rfl,_,rfl,qU (by rw[List.length_map,List.length_map];omega) ?_⟩
  exact⟨_,rfl,q c H2 (back c nc) (fun cz ke=>hC cz fun b o z1 z2=>ke b o (back b z1) z2) fun b o z=>k2 b o (s1 _ _ z) (ag z nr)⟩
variable {uC uP uI uD uL uT eW eX eY uG uS:Tok} {Ch:Addr}
def fK (xs:List Tm):List (Str×Int):=xs.map fun x=>((⟨(fL x.2).toArray⟩:Str),x.1)
inductive tq (C G Pc Fo:Addr) (vs:List V) (H:Hp) (Q:VK) (E:XK):Prop
 |mk (l:Addr) (xs:List Tm) (dX:vs=[.ref l]) (dY:ic C G Pc Fo H l xs) (d8:(∀x∈xs,cS x.2)) (fk:xs.length≤20) (gG:∀e H',H e=none→H' e=some (.dK (a8 1 [] (fK xs)))→au H H'→Q (.ref e) H')
def gT (C G Pc Fo:Addr):Sp:=tq C G Pc Fo
theorem yY {xs:List Tm} {i:Nat} {y:Tm} (h:xs[i]? =some y):a8 1 [] (fK (xs.take (i+1)))=b8 (a8 1 [] (fK (xs.take i))) (Sum.inr ⟨(fL y.2).toArray⟩) y.1:=by
 unfold fK a8
 rw[take_snoc h,List.map_append,List.foldl_append]
 show b8 _ _ (y.1*1)=_
 rw[Int.mul_one]
theorem fG:ax ["terms","total","count","formula","text"] ["terms"] (aj iH):=dB
theorem tD (D:Def K mg "side_counts" "side_counts" iH ["terms"]) (T:nH K mg C R G Pc Fo Ch uK uN uB uE uM uC uP uI uD uL uT eW eX eY uG uS) (c1:aJ P w K mg base 7 Fo "shown" ["self"] (uF C G Pc Fo 1)):bg P w K mg base 8 "side_counts" ["terms"] (gT C G Pc Fo):=by
 obtain⟨_,_,gB⟩:=c1
 refine D.di fG (fun vs H Q E h=>?_) (fun f bj A outer s H vs Q E hr h=>?_)
 ·obtain⟨l,xs,rfl,_⟩:=h
  rfl
 ·obtain⟨l,xs,rfl,⟨ts,hl,hP⟩,aU,Zl,q⟩:=h
  have hu:=dz hr
  have big:(2000 :Nat) <sizeLine:=by decide
  have iX:=Paired.length hP
  refine⟨_,(ai
     (aB (i:=1) fG.nd rfl (Or.inl rfl) dw)
    (ai
     (bW PassesOwn.never rfl (cN (pv 0)) (g7 rfl (bp (aG (i:=2) fG.nd rfl (Or.inl rfl)) (bp (aG (i:=3) fG.nd rfl (Or.inl rfl)) dZ)))
      (ai
       (aB (i:=4) fG.nd rfl (Or.inl rfl) (aN (pv 3) T.bO gB.m gB.ok (hr.mono (by decide)) gB.b .nil ay))
      (ao
       (cQ hu (pv 1) (pv 4) (aE cf (bR hu (pv 1) (pv 4) aq ⟨rfl,rfl,rfl,rfl⟩) (pv 2)) rfl))))
    (ao
     (aD (pv 1))))),?_⟩
  refine fun d hd=>?_
  have sD:=au.new (o:= .dK []) hd
  refine⟨_,rfl,l,rfl,⟨_,b5.of (sD _ _ hl)⟩,fq (K:=K) (a:=l) (xs:=ts.map V.ref) (fun i σ H'=>∃v2 v3 v4:Option V,σ=[some (.ref l),some (.ref d),v2,v3,v4]∧H' d=some (.dK (a8 1 [] (fK (xs.take i))))∧au H H') ?_ (fun i σ H' _ ⟨_,_,_,_,_,e⟩=>b5.of (e _ _ hl)) ?_ ?_⟩
  ·exact⟨none,none,none,rfl,af,sD⟩
  ·rintro i v σ H' hi ⟨v2,v3,v4,rfl,fQ,e⟩
   rw[List.getElem?_map] at hi
   obtain⟨t,ht,rfl⟩:∃p,ts[i]? =some p∧v=V.ref p:=by
    cases hh:ts[i]? with
    |none=>rw[hh] at hi;cases hi
    |some p=>rw[hh] at hi;exact⟨p,rfl,(Option.some.inj hi).symm⟩
   obtain⟨y,hy,fo,h1,h2⟩:=bI hP ht
   obtain⟨dx,fl,fps,hfo,_⟩:=id h2
   have mq:=aU y (List.mem_of_getElem? hy)
   have zl:(wL 1 y.2.1 y.2.2).length≤1000:=Nat.le_trans mq.2.1 (by decide)
   have hI:bx (a8 1 [] (fK (xs.take i))):=iI 1 _ _ fun p hp=>by cases hp
   have mr:=iJ 1 (fK (xs.take i)) []
   have Zm:(fK (xs.take i)).length≤20:=by unfold fK;rw[List.length_map,List.length_take];omega
   rw[List.length_nil] at mr
   refine⟨t,_,rfl,jc.of (e _ _ h1),rfl,_,_,rfl,_,_,rfl,rfl,?_⟩
   refine⟨_,rfl,fo,dx,_,rfl,e _ _ hfo,rL _ _ (by decide+kernel) (by decide+kernel),fo,_,_,rfl,h2.same e,mq.1,zl,fun H2 e2=>?_⟩
   have hd2:=e2 _ _ fQ
   refine⟨_,rfl,d,rfl, .inl ⟨_, .inl hd2⟩,_,rfl,_,gj.k (k:=Sum.inr ⟨(fL y.2).toArray⟩) hd2,_,rfl,_,_,hI.at _,rfl,_,rfl,_,rfl,d,_,rfl,jf.k (k:=Sum.inr ⟨(fL y.2).toArray⟩) hd2 (by omega),?_⟩
   refine⟨_,_,_,rfl,?_,fun b o z=>?_⟩
   ·rw[af,yY hy]
    rfl
   ·rw[ah (ag z hd)]
    exact e2 _ _ (e _ _ z)
  ·rintro σ H' ⟨v2,v3,v4,rfl,fQ,e⟩
   rw[List.length_map,iX,List.take_length] at fQ
   exact⟨_,rfl,q d H' hd fQ e⟩
variable {uC uP uI uD uL uT eW eX eY uG uS:Tok} {Ch:Addr}
def sh (KV L:List (Key×V)):List (Key×V):=(L.filter fun p=>decide (¬aO KV p.1=0)).map fun p=>(p.1,V.int (aO KV p.1))
theorem Ex {KV L:List (Key×V)} {i:Nat} {p:Key×V} (h:L[i]? =some p) (z:aO KV p.1=0):sh KV (L.take (i+1))=sh KV (L.take i):=by
 unfold sh
 rw[take_snoc h,List.filter_append,show [p].filter (fun p=>decide (¬aO KV p.1=0))=[] by simp [z],List.append_nil]
theorem Ey {KV L:List (Key×V)} {i:Nat} {p:Key×V} (h:L[i]? =some p) (z:¬aO KV p.1=0):sh KV (L.take (i+1))=sh KV (L.take i)++[(p.1,V.int (aO KV p.1))]:=by
 unfold sh
 rw[take_snoc h,List.filter_append,show [p].filter (fun p=>decide (¬aO KV p.1=0))=[p] by simp [z],List.map_append]
 rfl
theorem yZ (KV L:List (Key×V)):List.Sublist ((sh KV L).map (·.1)) (L.map (·.1)):=by
 unfold sh
 rw[List.map_map]
 exact(List.filter_sublist (l:=L)).map _
theorem Hu (KV:List (Key×V)) {L:List (Key×V)} (h:(L.map (·.1)).Nodup):((sh KV L).map (·.1)).Nodup:=(yZ KV L).nodup h
theorem Cn (KV L:List (Key×V)):bx (sh KV L):=by
 intro p hp
 obtain⟨q,_,rfl⟩:=List.mem_map.mp hp
 exact⟨_,rfl⟩
theorem xi (KV L:List (Key×V)):(sh KV L).length≤L.length:=by
 unfold sh
 rw[List.length_map]
 exact List.length_filter_le _ _
def uX (xs ys:List Tm):List (Key×V):=a8 (-1) (a8 1 [] (fK ys)) (fK xs)
def iP (xs ys:List Tm):List (Key×V):=sh (uX xs ys) (uX xs ys)
theorem Co (xs ys:List Tm):bx (uX xs ys):=iI _ _ _ (cC _)
theorem Hv (xs ys:List Tm):((uX xs ys).map (·.1)).Nodup:=wu _ _ _ (iO _)
theorem xj (xs ys:List Tm):(uX xs ys).length≤xs.length+ys.length:=by
 have h1:=iJ (-1) (fK xs) (a8 1 [] (fK ys))
 have h2:=dE (fK ys)
 have e:∀zs:List Tm,(fK zs).length=zs.length:=fun zs=>by unfold fK;rw[List.length_map]
 rw[e] at h1 h2
 show (a8 _ _ _).length≤_
 omega
inductive Hw (C G Pc Fo Ch:Addr) (vs:List V) (H:Hp) (Q:VK) (E:XK):Prop
 |mk (c:Addr) (xs ys:List Tm) (dX:vs=[.ref c]) (dY:dC C G Pc Fo Ch H c xs ys) (d8:(∀x∈xs,cS x.2)) (fk:(∀y∈ys,cS y.2)) (gG:xs.length≤20) (jE:ys.length≤20) (oG:∀e H',H e=none→H' e=some (.dK (iP xs ys))→au H H'→Q (.ref e) H')
def xk (C G Pc Fo Ch:Addr):Sp:=Hw C G Pc Fo Ch
theorem Hx {X:Cx} {D:Ends} {c d e:Addr} {v3:Option V} {H:Hp} {acc gy:List (Key×V)} (hu:X.A.units+1<cLine) (hd:H d=some (.dK acc)) (he:H e=some (.dK gy)) (oA:d≠e) (hI:bx acc) (Tn:bx gy) (hl:acc.length+gy.length≤1000)
  (fin:∀z:Option V,D.nx [some (.ref c),some (.ref d),some (.ref e),z] (upd H d (.dK (iY (-1) acc gy gy)))):
  FX X (N0 (FW X (j8 2)) (du 3) (FO (j8 1) (j8 3) (N2 (JF fun i j=> .int (i - j)) (Ag (j8 1) (j8 3) (tC (.int 0))) (FN (j8 2) (j8 3))))) D [some (.ref c),some (.ref d),some (.ref e),v3] H:=by
 refine⟨_,rfl,e,gy,rfl,he,fun o nf=>dA nf (fun j σ H'=>∃z:Option V,σ=[some (.ref c),some (.ref d),some (.ref e),z]∧H'=upd H d (.dK (iY (-1) acc (gy.take j) gy))) ?_ ?_ ?_ ?_⟩
 ·exact⟨v3,rfl,(eI hd).symm⟩
 ·rintro i σ H' ⟨_,_,rfl⟩
  rw[ah (Ne.symm oA)]
  exact he
 ·rintro i k v σ H' hi ⟨z,rfl,rfl⟩
  have pf:∀o',(upd (upd H d (.dK (iY (-1) acc (gy.take i) gy))) e o') d=some (.dK (iY (-1) acc (gy.take i) gy)):=fun o'=>by rw[ah oA];exact af
  have hv:=Tn.dN (List.mem_of_getElem? hi)
  have Ho:bx (iY (-1) acc (gy.take i) gy):=mul_int (-1) gy _ _ hI
  have hli:=wZ (-1) gy (gy.take i) acc
  have Lm:(gy.take i).length≤gy.length:=List.length_take_le' _ _
  refine⟨_,rfl,d,rfl, .inl ⟨_, .inl (pf _)⟩,_,rfl,_,gj.k (k:=k) (pf _),_,rfl,_,rfl,e,V.int (aO gy k),rfl, .inl ⟨_,k, .inr ⟨o,af⟩,rfl,hv.symm⟩,_,_,Ho.at k,rfl,_,rfl,_,rfl,d,_,rfl,jf.k (k:=k) (pf _) (kQ ?_),?_⟩
  ·omega
  ·refine⟨by rw[ah (Ne.symm oA)];exact af,some (kV k),rfl,?_⟩
   have ez:∀a b:Int,a - b=a+b*(-1):=fun a b=>by omega
   rw[js oA he,yM (-1) gy acc hi]
   unfold b8
   rw[←ez]
 ·rintro σ H' ⟨z,rfl,rfl⟩
  rw[List.take_length]
  exact fin z
def Pvg (o:Obj) (KV:List (Key×V)) (d D2:Addr) (H2:Hp):Nat→St→Hp→Prop:=fun i σ H'=>∃(v:Option V) (ps:List (Addr×Key×V)),σ=[v,some (.ref d)]∧H' d=some (.fN o (.dK KV))∧H' D2=some (.lst (ps.map fun p=> .ref p.1))∧(∀p∈ps,H' p.1=some (.tup [kV p.2.1,p.2.2]))∧ps.map (·.2)=sh KV (KV.take i)∧∀b o',H2 b=some o'→b≠d→H' b=some o'
theorem qj:ax ["change","more","taken","text"] ["change"] (aj ri):=dB
theorem Hy (D:Def K mg "gains" "gains" ri ["change"]) (T:nH K mg C R G Pc Fo Ch uK uN uB uE uM uC uP uI uD uL uT eW eX eY uG uS) (c1:bg P w K mg base 8 "side_counts" ["terms"] (gT C G Pc Fo)):bg P w K mg base 9 "gains" ["change"] (xk C G Pc Fo Ch):=by
 obtain⟨_,_,a0⟩:=c1
 refine D.di qj (fun vs H Q E h=>?_) (fun f bj A outer s H vs Q E hr h=>?_)
 ·obtain⟨c,xs,ys,rfl,_⟩:=h
  rfl
 ·obtain⟨c,xs,ys,rfl,⟨dc,l,r,hc,hl,JK⟩,mq,zV,lx,ly,q⟩:=h
  have hu:=dz hr
  have big:(2000 :Nat) <sizeLine:=by decide
  refine⟨_,(ai
     (aB (i:=1) qj.nd rfl (Or.inr rfl) (aH a0.ok (hr.mono (by decide)) rfl a0.g a0.kp a0.b .nil ay (aa (a5 (pv 0) rfl) ak)))
    (ai
     (aB (i:=2) qj.nd rfl (Or.inl rfl) (aH a0.ok (hr.mono (by decide)) rfl a0.g a0.kp a0.b .nil ay (aa (a5 (pv 0) rfl) ak)))
    (ai
     (dJ (bW PassesOwn.never rfl (cR (pv 2)) (aG (i:=3) qj.nd rfl (Or.inl rfl))
      (ao
       (cQ hu (pv 1) (pv 3) (aE ka (bR hu (pv 1) (pv 3) aq ⟨rfl,rfl,rfl,rfl⟩) (b6 hu (pv 2) (pv 3) (fun _ _=>rfl))) rfl))))
    (ao
     (aD (bK (lY rfl) rfl T.jN iC (aa (pT (fy (sc:=(aj ri)) (NX:=["change","more","taken","text"]) (N:=["text","more"]) (fr:=[none,some 1]) ⟨by rfl,by rfl,by decide+kernel,by decide+kernel,by decide+kernel,by rfl,by decide+kernel⟩ rfl rfl rfl (cR (pv 1)) (fun _ _ _ _=>(aG (i:=0) (show (["text","more"]:List Str).Nodup by decide+kernel) rfl (Or.inl rfl) (Or.inr rfl))) (fun _ _ _ _=>(mD (aP pe (b6 hu (pv 1) (pv 0) (fun _ _=>rfl)) aq (aW _)))) (fun _ _ _ _=>(bP (aa (pv 0) (aa (b6 hu (pv 1) (pv 0) (fun _ _=>rfl)) ak)))))) ak))))))),?_⟩
  refine⟨_,rfl,c,Ch,dc,_,_,rfl,hc,T.b9,T.jr,gR _ _,r,ys,rfl,JK,zV,ly,fun d H1 nd hd e1=>?_⟩
  refine⟨_,rfl,c,Ch,dc,_,_,rfl,e1 _ _ hc,T.b9,T.ib,eZ _ _,l,xs,rfl,hl.same e1,mq,lx,fun e H2 ne he e2=>?_⟩
  have oA:d≠e:=ag hd ne
  have hd2:=e2 _ _ hd
  have Ri:=dE (fK xs)
  have hy1:=dE (fK ys)
  have lt:∀zs:List Tm,(fK zs).length=zs.length:=fun zs=>by unfold fK;rw[List.length_map]
  rw[lt] at Ri hy1
  refine Hx hu hd2 he oA (cC _) (cC _) (by omega) fun z=>?_
  rw[wG (-1) 1 (fK xs) (cC _) (iO _),Int.one_mul]
  have hI:=Co xs ys
  have hn:=Hv xs ys
  have mr:=xj xs ys
  have hq:iP xs ys=sh (uX xs ys) (uX xs ys):=rfl
  show _
  generalize hK:uX xs ys=KV at hI hn mr hq
  rw[show a8 (-1) (a8 1 [] (fK ys)) (fK xs)=KV from hK]
  have e02:∀b o',H b=some o'→(upd H2 d (.dK KV)) b=some o':=fun b o' z=>by
   rw[ah (ag z nd)]
   exact e2 _ _ (e1 _ _ z)
  have JL:(upd H2 d (.dK KV)) d=some (.dK KV):=af
  generalize upd H2 d (.dK KV)=H3 at e02 JL ⊢
  refine⟨_,rfl,d,_,rfl,JL,fun o nf D2 JM=>?_⟩
  have Lq:D2≠d:=fun z=>by rw[z,af] at JM;cases JM
  have Tp:H3 D2=none:=by rwa [ah Lq] at JM
  have gen:∀i σ H',Pvg o KV d D2 H3 i σ H'→H' d=some (.fN o (.dK KV)):=fun i σ H' ⟨_,_,_,z,_⟩=>z
  refine kT (a:=d) (D:=D2) (kvs:=KV) (Pvg o KV d D2 H3) ?_ gen ?_ ?_
  ·exact⟨none,[],rfl,by rw[ah (Ne.symm Lq),af],af,(fun p hp=>by cases hp),rfl,fun b o' z hb=>by rw[ah (ag z Tp),ah hb];exact z⟩
  ·rintro i k v σ H' hi ⟨v',ps,rfl,f1,f2,f3,f4,f5⟩ N hN
   have hv:=hI.dN (List.mem_of_getElem? hi)
   have iX:ps.length≤40:=by
    have h1:=congrArg List.length f4
    have h2:=xi KV (KV.take i)
    rw[List.length_map] at h1
    rw[List.length_take] at h2
    omega
   refine⟨_,rfl,_,rfl,d,V.int (aO KV k),rfl, .inl ⟨_,k, .inr ⟨o,f1⟩,rfl,hv.symm⟩,rfl,_,rfl,fM (fun ec=>?_) fun ec=>?_⟩
   ·have ec:¬aO KV k=0:=by simpa using ec
    refine⟨_,rfl,_,rfl,_,rfl,d,V.int (aO KV k),rfl, .inl ⟨_,k, .inr ⟨o,f1⟩,rfl,hv.symm⟩,(by show 2≤sizeLine;decide),fun t ht=>?_⟩
    have Tq:D2≠t:=ag f2 ht
    have ndt:d≠t:=ag f1 ht
    refine⟨_,by rw[ah Tq];exact f2,by rw[List.length_map];omega,hN _ _ ⟨_,ps++[(t,k,V.int (aO KV k))],rfl,?_,?_,?_,?_,?_⟩⟩
    ·rw[ah (Ne.symm Lq),ah ndt];exact f1
    ·rw[af,List.map_append];rfl
    ·intro p hp
     rcases List.mem_append.mp hp with hp|hp
     ·have p1:=f3 p hp
      rw[ah (cI p1 f2 (by intro z;cases z)),ah (ag p1 ht)]
      exact p1
     ·have e':p=(t,k,V.int (aO KV k)):=by simpa using hp
      subst e'
      rw[ah (Ne.symm Tq)];exact af
    ·rw[List.map_append,f4,Ey hi ec]
     rfl
    ·intro b o' e' hb
     rw[ah (ag e' Tp),ah (ag (f5 b o' e' hb) ht)]
     exact f5 b o' e' hb
   ·have ec:aO KV k=0:=by simpa using ec
    exact hN _ _ ⟨_,ps,rfl,f1,f2,f3,by rw[f4,Ex hi ec],f5⟩
  rintro σ H' ⟨v',ps,rfl,f1,f2,f3,f4,f5⟩
  rw[List.take_length] at f4
  refine⟨d,o,KV,f1,nf,D2,ps,rfl,by rw[ah Lq];exact f2,fun p hp=>by rw[ah (cI (f3 p hp) f1 (by intro z;cases z))];exact f3 p hp,fun w hw=>?_⟩
  have e8:cu [] (ps.map (·.2))=sh KV KV:=by
   rw[f4,nF _ [] (by rw[List.nil_append];exact Hu KV hn),List.nil_append]
  have Ts:au H (upd H' d (.dK KV)):=fun b o' z=>by
   have zd:b≠d:=ag z nd
   rw[ah zd]
   exact f5 b o' (e02 b o' z) zd
  rw[e8]
  exact q w _ (none_back Ts hw) (by rw[af,hq]) (Ts.trans (au.new hw))
variable {uC uP uI uD uL uT eW eX eY:Tok} {Ch:Addr}
structure Hz (K:PySem.W.Frag) (mg:Str→Option Value) (C R G Pc Fo Ch:Addr) (uK uN uB uE uM uC uP uI uD uL uT eW eX eY:Tok):Prop extends Hi K mg C R G Pc Fo Ch uK uN uB uE uM uC uP uI uD uL uT eW eX eY where
 y':mg "sorted" =none
 n_all:mg "all" =none
def j6 (x:Fm):List (Key×V):=putK (cW 1 x.1) (Sum.inr "+") (.int x.2)
theorem Cp {x:Fm} (h:cS x):(cW 1 x.1).length≤7:=A0 h.2.2
theorem Lr (x:Fm):bx (j6 x):=(wY x.1).put _ _
inductive A7 (C G Pc Fo:Addr) (vs:List V) (H:Hp) (Q:VK) (E:XK):Prop
 |mk (f:Addr) (x:Fm) (dX:vs=[.ref f]) (dY:pq C G Pc Fo 1 H f x.1 x.2) (d8:cS x) (fk:∀e H',H e=none→H' e=some (.dK (j6 x))→au H H'→Q (.ref e) H')
def uY (C G Pc Fo:Addr):Sp:=A7 C G Pc Fo
theorem uZ:ax ["formula","amounts"] ["formula"] (aj mQ):=dB
theorem A8 (D:Def K mg "formula_amounts" "formula_amounts" mQ ["formula"]) (T:Hi K mg C R G Pc Fo Ch uK uN uB uE uM uC uP uI uD uL uT eW eX eY) (c1:aJ P w K mg base 7 Fo "counts" ["self"] (mf C G Pc Fo 1)):bg P w K mg base 8 "formula_amounts" ["formula"] (uY C G Pc Fo):=by
 obtain⟨_,_,cj⟩:=c1
 refine D.di uZ (fun vs H Q E h=>?_) (fun f bj A outer s H vs Q E hr h=>?_)
 ·obtain⟨f,x,rfl,_⟩:=h
  rfl
 ·obtain⟨fo,x,rfl,hF,aU,q⟩:=h
  have hu:=dz hr
  have big:(2000 :Nat)≤sizeLine:=by decide
  obtain⟨dx,l,ps,hf,_⟩:=id hF
  have hz:(x.1.flatMap (cA 1)).length≤400:=Nat.le_trans aU.2.2 (by decide)
  refine⟨_,(ai
     (aB (i:=1) uZ.nd rfl (Or.inl rfl) (aN (pv 0) T.bO cj.m cj.ok (hr.mono (by decide)) cj.b .nil ay))
    (ai
     (cQ hu (pv 1) (aY (v:= .str "+") rfl T.wM ⟨_,rfl⟩) (a5 (pv 0) rfl) rfl)
    (ao
     (aD (pv 1))))),?_⟩
  refine⟨_,rfl,fo,dx,_,rfl,hf,rL _ _ (by decide+kernel) (by decide+kernel),fo,x.1,x.2,rfl,hF,aU.1,hz,fun e H' ne he es=>?_⟩
  have hl:=Cp aU
  refine⟨_,rfl,fo,Fo,dx,_,_,rfl,es _ _ hf,T.bO,T.l7,nB _ _,_,rfl,e,_,rfl,jf.k (k:=Sum.inr "+") he (by omega),?_⟩
  exact⟨_,rfl,q e _ ne af fun b o z=>by rw[ah (ag z ne)];exact es _ _ z⟩
def M4 (zs:List Tm):List Key:=zs.foldl (fun ks z=>fD ks ((cW 1 z.2.1).map (·.1))) []
def Tt:Key→Option Str
 | .inr s=>some s
 | .inl _=>none
def Tu (zs:List Tm):List Str:=(M4 zs).filterMap Tt
def ze (ks:List Key):Prop:=∀k∈ks,∃s:Str,k=Sum.inr s
theorem Cq {ks:List Key} (h:ze ks):(ks.filterMap Tt).map Sum.inr=ks:=by
 induction ks with
 |nil=>rfl
 |cons k r ih=>
  obtain⟨s,rfl⟩:=h k (List.mem_cons_self ..)
  show (s::r.filterMap Tt).map Sum.inr=_
  rw[List.map_cons,ih fun k hk=>h k (List.mem_cons_of_mem _ hk)]
theorem zf {ks ls:List Key} (h1:ze ks) (h2:ze ls):ze (fD ks ls):=fun k hk=>by
 rcases rq.mp hk with h|h
 ·exact h1 k h
 ·exact h2 k h
theorem Ls (xs:List j5):(cW 1 xs).map (·.1)=fD [] ((xs.flatMap (cA 1)).map fun p=>(Sum.inr p.1 :Key)):=by
 unfold cW
 rw[qe,kz,List.map_map]
 rfl
theorem Cr (xs:List j5):ze ((cW 1 xs).map (·.1)):=by
 rw[Ls]
 refine zf (fun k hk=>by cases hk) fun k hk=>?_
 obtain⟨p,_,rfl⟩:=List.mem_map.mp hk
 exact⟨_,rfl⟩
theorem HA {zs:List Tm} {i:Nat} {z:Tm} (h:zs[i]? =some z):M4 (zs.take (i+1))=fD (M4 (zs.take i)) ((cW 1 z.2.1).map (·.1)):=by
 unfold M4
 rw[take_snoc h,List.foldl_append]
 rfl
theorem HB (zs:List Tm):ze (M4 zs):=by
 have:∀(zs:List Tm) (ks:List Key),ze ks→ze (zs.foldl (fun ks z=>fD ks ((cW 1 z.2.1).map (·.1))) ks):=by
  intro zs
  induction zs with
  |nil=>intro ks h;exact h
  |cons z r ih=>intro ks h;exact ih _ (zf h (Cr _))
 exact this zs [] fun k hk=>by cases hk
theorem xl (zs:List Tm):M4 zs=(Tu zs).map Sum.inr:=(Cq (HB zs)).symm
theorem si:∀(more acc:List (Key×V)),(cu acc more).map (·.1)=fD (acc.map (·.1)) (more.map (·.1))
 | [],_=>rfl
 |p::r,acc=>by
  show (cu (putK acc p.1 p.2) r).map (·.1)=fD (jF (acc.map (·.1)) p.1) (r.map (·.1))
  rw[si r,nj]
def Cs (zs:List Tm) (ms:List Str):Prop:=ms.Perm (Tu zs)∧PyProof.Rows.sortedS ms=true
def zg (zs:List Tm):Nat:=(zs.map fun z=>(z.2.1.flatMap (cA 1)).length).sum
theorem HC {zs:List Tm} {i:Nat} {z:Tm} (h:zs[i]? =some z):zg (zs.take (i+1))=zg (zs.take i)+(z.2.1.flatMap (cA 1)).length:=by
 unfold zg
 rw[take_snoc h,List.map_append,List.sum_append]
 simp
theorem HD (zs:List Tm) (i:Nat):zg (zs.take i)≤zg zs:=by
 unfold zg
 conv=>rhs;rw[←List.take_append_drop i zs,List.map_append,List.sum_append]
 omega
theorem mh {α β:Type} {p q:α→β→Prop}:∀{as:List α} {bs:List β},(∀a b,a∈as→p a b→q a b)→Paired p as bs→Paired q as bs
 |_,_,_, .nil=> .nil
 |_,_,h, .cons x t=> .cons (h _ _ (List.mem_cons_self ..) x) (mh (fun a b ha=>h a b (List.mem_cons_of_mem _ ha)) t)
theorem zh:∀(ls ks:List Key),(fD ks ls).length≤ks.length+ls.length
 | [],_=>Nat.le_refl _
 |k::r,ks=>by
  have h1:=zh r (jF ks k)
  have h2:(jF ks k).length≤ks.length+1:=by
   unfold jF
   split
   ·omega
   ·rw[List.length_append];exact Nat.le_refl _
  show (fD (jF ks k) r).length≤_
  rw[List.length_cons]
  omega
inductive HF (C G Pc Fo Ch:Addr) (vs:List V) (H:Hp) (Q:VK) (E:XK):Prop
 |mk (c:Addr) (xs ys:List Tm) (dX:vs=[.ref c]) (dY:dC C G Pc Fo Ch H c xs ys) (d8:(∀z∈xs++ys,cS z.2)) (fk:(xs++ys).length≤20) (gG:zg (xs++ys)≤60) (jE:∀l ms H',Cs (xs++ys) ms→H l=none→H' l=some (.lst ((ms++[("+" :Str)]).map V.str))→au H H'→Q (.ref l) H')
def Ct (C G Pc Fo Ch:Addr):Sp:=HF C G Pc Fo Ch
theorem ql:ax ["self","found","count","formula"] ["self"] (aj wa):=dB
theorem mi {α β:Type} {p:α→β→Prop}:∀{as:List α} {bs:List β} {cs:List α} {ds:List β},Paired p as bs→Paired p cs ds→Paired p (as++cs) (bs++ds)
 |_,_,_,_, .nil,h=>h
 |_,_,_,_, .cons h t,h2=> .cons h (mi t h2)
theorem HG (D:a9 K Ch "kinds" "Change.kinds" wa ["self"]) (T:Hz K mg C R G Pc Fo Ch uK uN uB uE uM uC uP uI uD uL uT eW eX eY) (c1:aJ P w K mg base 7 Fo "counts" ["self"] (mf C G Pc Fo 1)):aJ P w K mg base 8 Ch "kinds" ["self"] (Ct C G Pc Fo Ch):=by
 obtain⟨_,_,cj⟩:=c1
 refine D.di ql (fun vs H Q E h=>?_) (fun f bj A outer s H vs Q E hr h=>?_)
 ·obtain⟨c,xs,ys,rfl,_⟩:=h
  rfl
 ·obtain⟨c,xs,ys,rfl,⟨dx,l,r,hc,⟨ts,hl,hT⟩,⟨us,JK,hU⟩⟩,aU,h8,h60,q⟩:=h
  have hu:=dz hr
  have big:(2000 :Nat)≤sizeLine:=by decide
  have hP:=mi hT hU
  have lp:=Paired.length hP
  refine⟨_,(ai
     (aB (i:=1) ql.nd rfl (Or.inl rfl) dw)
    (ai
     (bW PassesOwn.never rfl (cN (aE oj (a5 (pv 0) rfl) (a5 (pv 0) rfl))) (g7 rfl (bp (aG (i:=2) ql.nd rfl (Or.inl rfl)) (bp (aG (i:=3) ql.nd rfl (Or.inl rfl)) dZ)))
      (ao
       (bB (Kt (pv 1) (aN (pv 3) T.bO cj.m cj.ok (hr.mono (by decide)) cj.b .nil ay) ⟨rfl,rfl,rfl,rfl⟩))))
    (ao
     (aD (aE oj (bw (mI rfl) rfl T.y' tT (aa (pv 1) ak)) (cD (aa (aY (v:= .str "+") rfl T.wM ⟨_,rfl⟩) ak))))))),?_⟩
  refine fun e0 pK=>?_
  have s0:=au.new (o:= .dK []) pK
  have hc0:=s0 _ _ hc
  refine⟨_,rfl,c,Ch,dx,_,_,rfl,hc0,T.b9,T.ib,eZ _ _,_,rfl,c,Ch,dx,_,_,rfl,hc0,T.b9,T.jr,gR _ _,l,r,_,_,rfl,rfl,s0 _ _ hl,s0 _ _ JK,?_,fun L hL=>?_⟩
  ·rw[List.length_map,List.length_map,←List.length_append,lp]
   omega
  have s1:=s0.trans (au.new (o:= .lst (ts.map V.ref++us.map V.ref)) hL)
  have RF:e0≠L:=ag af hL
  refine⟨L,rfl,⟨_,b5.of af⟩,fq (K:=K) (a:=L) (xs:=(ts++us).map V.ref) (fun i σ H'=>∃(kvs:List (Key×V)) (v2 v3:Option V),σ=[some (.ref c),some (.ref e0),v2,v3]∧H' e0=some (.dK kvs)∧kvs.map (·.1)=M4 ((xs++ys).take i)∧kvs.length≤zg ((xs++ys).take i)∧au H H'∧H' L=some (.lst ((ts++us).map V.ref))) ?_ (fun i σ H' _ ⟨_,_,_,_,_,_,_,_,z⟩=>b5.of z) ?_ ?_⟩
  ·exact⟨[],none,none,rfl,by rw[ah RF,af],rfl,Nat.zero_le _,s1,by rw[af,List.map_append]⟩
  ·rintro i v σ H' hi ⟨kvs,v2,v3,rfl,he,hk,mr,e,uq⟩
   rw[List.getElem?_map] at hi
   obtain⟨t,ht,rfl⟩:∃p,(ts++us)[i]? =some p∧v=V.ref p:=by
    cases hh:(ts++us)[i]? with
    |none=>rw[hh] at hi;cases hi
    |some p=>rw[hh] at hi;exact⟨p,rfl,(Option.some.inj hi).symm⟩
   obtain⟨z,hz,fo,h1,h2⟩:=bI hP ht
   have Ph:=aU z (List.mem_of_getElem? hz)
   have yi:i< (xs++ys).length:=(List.getElem?_eq_some_iff.mp hz).1
   obtain⟨dy,fl,fps,hfo,_⟩:=id h2
   refine⟨t,_,rfl,jc.of (e _ _ h1),rfl,_,_,rfl,_,_,rfl,rfl,?_⟩
   refine⟨_,rfl,e0,rfl, .inl ⟨_, .inl he⟩,_,rfl,fo,dy,_,rfl,e _ _ hfo,rL _ _ (by decide+kernel) (by decide+kernel),fo,z.2.1,z.2.2,rfl,h2.same e,Ph.1,Nat.le_trans Ph.2.2 (by decide),fun b cz nb hb e'=>?_⟩
   have Ro:(cW 1 z.2.1).length≤(z.2.1.flatMap (cA 1)).length:=dE _
   have Tv:=eG (cW 1 z.2.1) kvs
   have hfs:=HC hz
   have hfl:=HD (xs++ys) i
   have hz7:=Ph.2.2
   have neb:e0≠b:=ag he nb
   refine⟨b,kvs,_,rfl,e' _ _ he,hb,neb,by omega,cu kvs (cW 1 z.2.1),_,_,rfl,af,?_,by omega,fun b' o w=>?_,?_⟩
   ·rw[si,hk,HA hz]
   ·rw[ah (ag w pK)]
    exact e' _ _ (e _ _ w)
   ·rw[ah (Ne.symm RF)]
    exact e' _ _ uq
  ·rintro σ H' ⟨kvs,v2,v3,rfl,he,hk,mr,e,uq⟩
   rw[List.length_map,lp] at hk mr
   rw[List.take_length] at hk mr
   have xQ:(Tu (xs++ys)).length<64:=by
    have:=congrArg List.length hk
    rw[xl,List.length_map,List.length_map] at this
    omega
   refine⟨_,rfl,e0,kvs,Tu (xs++ys),rfl, .inl he,by rw[hk,xl],xQ,fun m ms pm sm hm=>⟨(by show 1≤sizeLine;decide),fun n hn=>?_⟩⟩
   have Tj:m≠n:=ag af hn
   refine⟨m,n,ms.map V.str,[V.str "+"],rfl,rfl,by rw[ah Tj,af],af,?_,fun p hp=>?_⟩
   ·rw[List.length_map,pm.length_eq]
    show _+1≤sizeLine
    omega
   have s2:=(au.new (o:= .lst (ms.map V.str)) hm).trans (au.new (o:= .lst [V.str "+"]) hn)
   have hpH:H p=none:=none_back (e.trans s2) hp
   refine q p ms _ ⟨pm,sm⟩ hpH ?_ ((e.trans s2).trans (au.new hp))
   rw[af,List.map_append]
   rfl
variable {uC uP uI uD uL uT eW eX eY:Tok} {Ch:Addr}
def d6 (c:Int) (acc l all:List (Key×V)):List (Key×V):=l.foldl (fun acc p=>b8 acc p.1 (c*aO all p.1)) acc
theorem zj (c:Int) (all:List (Key×V)):∀(l acc:List (Key×V)),d6 c acc l all=cM acc (l.map fun p=>(p.1,c*aO all p.1))
 | [],_=>rfl
 |p::r,acc=>zj c all r _
theorem df (c:Int) (all:List (Key×V)):∀(l acc:List (Key×V)),bx acc→bx (d6 c acc l all)
 | [],_,h=>h
 |_::r,_,h=>df c all r _ (h.add _ _)
theorem eM (c:Int) (all:List (Key×V)):∀(l acc:List (Key×V)),(d6 c acc l all).length≤acc.length+l.length
 | [],_=>Nat.le_refl _
 |p::r,acc=>by
  have h1:=eM c all r (b8 acc p.1 (c*aO all p.1))
  have h2:(b8 acc p.1 (c*aO all p.1)).length≤acc.length+1:=bY _ _ _
  show (d6 c (b8 acc p.1 (c*aO all p.1)) r all).length≤_
  rw[List.length_cons]
  omega
theorem xm (c:Int) {D:List (Key×V)} (hn:(D.map (·.1)).Nodup) (acc:List (Key×V)) (j:Key):aO (d6 c acc D D) j=aO acc j+c*aO D j:=by
 rw[zj,nq]
 congr 1
 have e:=wF (fun k=>c*aO D k) j hn
 rw[List.map_map] at e
 have e2:sumK (D.map fun p=>(p.1,c*aO D p.1)) j=if j∈D.map (·.1) then c*aO D j else 0:=by
  rw[←e]
  unfold sumK
  rw[List.map_map]
  rfl
 rw[e2]
 split
 ·rfl
 ·rename_i h
  rw[nu h,Int.mul_zero]
def sumZ (zs:List Tm) (k:Key):Int:=(zs.map fun z=>z.1*aO (j6 z.2) k).sum
theorem sumZ_snoc {zs:List Tm} {i:Nat} {z:Tm} (h:zs[i]? =some z) (k:Key):sumZ (zs.take (i+1)) k=sumZ (zs.take i) k+z.1*aO (j6 z.2) k:=by
 unfold sumZ
 rw[take_snoc h,List.map_append,List.sum_append]
 simp
theorem Pj (x:Fm):((j6 x).map (·.1)).Nodup:=wq (iO _)
theorem Lu {x:Fm} (h:cS x):(j6 x).length≤8:=by
 have h1:=Cp h
 have h2:(j6 x).length≤(cW 1 x.1).length+1:=bY _ _ _
 omega
theorem sj:∀(d:Nat) (m:Int) (t:Tr),uh d t→0≤m→∀p∈bq d m t,0≤p.2∧p.2≤999*(999^d*m)
 |d,m, .one k n,h,hm,p,hp=>by
  have e:bq d m (.one k n)=[(⟨k.toArray⟩,n*m)]:=by cases d<;>rfl
  rw[e] at hp
  have h:l6 k∧1≤n∧n≤999:=by cases d<;>exact h
  have ep:p=(⟨k.toArray⟩,n*m):=by simpa using hp
  rw[ep]
  have p1:(1 :Int)≤999^d:=Int.pow_pos (by decide)
  have p2:m≤999^d*m:=by
   have:=Int.mul_le_mul_of_nonneg_right p1 hm
   rwa [Int.one_mul] at this
  refine⟨Int.mul_nonneg (by omega) hm,?_⟩
  exact Int.le_trans (Int.mul_le_mul_of_nonneg_right h.2.2 hm) (Int.mul_le_mul_of_nonneg_left p2 (by decide))
 |0,_, .gr _ _,h,_,_,_=>h.elim
 |d+1,m, .gr ts n,h,hm,p,hp=>by
  obtain⟨t,ht,hp⟩:=List.mem_flatMap.mp hp
  obtain⟨_,h1,n1,n2⟩:=h
  have nm:0≤n*m:=Int.mul_nonneg (by omega) hm
  obtain⟨q1,q2⟩:=sj d (n*m) t (h1 t ht) nm p hp
  refine⟨q1,Int.le_trans q2 ?_⟩
  have p0:(0 :Int)≤999^d:=Int.le_of_lt (Int.pow_pos (by decide))
  have e:(999 :Int) ^(d+1)*m=999^d*(999*m):=by rw[Int.pow_succ,Int.mul_assoc]
  rw[e]
  exact Int.mul_le_mul_of_nonneg_left (Int.mul_le_mul_of_nonneg_left (Int.mul_le_mul_of_nonneg_right n2 hm) p0) (by decide)
theorem Lv {x:Fm} (h:cS x):Gy (2^60) (cW 1 x.1):=by
 have hb:=wx (t:=1) (b:=1000000000000) (by decide) (x.1.flatMap (cA 1)) [] 0 (Int.le_refl _) (fun p hp=>by cases hp) fun p hp=>by
  obtain⟨y,hy,hp⟩:=List.mem_flatMap.mp hp
  obtain⟨_,h1,n1,n2⟩:=lz h.1 y hy
  obtain⟨t,ht,hp⟩:=List.mem_flatMap.mp hp
  obtain⟨q1,q2⟩:=sj 1 y.1 t (h1 t ht) (by omega) p hp
  rw[Int.mul_one]
  refine⟨q1,?_⟩
  have:(999 :Int) ^1*y.1≤999*999:=by
   rw[show (999 :Int) ^1=999 from rfl]
   exact Int.mul_le_mul_of_nonneg_left n2 (by decide)
  omega
 intro p hp
 obtain⟨i,e,b0,b1⟩:=hb p hp
 refine⟨i,e,b0,?_⟩
 have:=h.2.2
 have:(2 :Int) ^60=1152921504606846976:=by decide
 have e7:((x.1.flatMap (cA 1)).length:Int)*1000000000000≤7*1000000000000:=Int.mul_le_mul_of_nonneg_right (by omega) (by decide)
 omega
theorem Cu {x:Fm} (h:cS x): -999≤x.2∧x.2≤999:=by
 obtain⟨h,_,_⟩:=h
 obtain⟨xs,n⟩:=x
 cases xs with
 |nil=>
  have:n= -1:=h
  subst this
  exact⟨by decide,by decide⟩
 |cons y r=>exact⟨h.2.2.1,h.2.2.2⟩
theorem Ez {x:Fm} (h:cS x) (k:Key): -(2^64) <aO (j6 x) k∧aO (j6 x) k<2^64:=by
 unfold j6
 rw[iM]
 split
 ·have:=Cu h
  omega
 ·have:=(Lv h).S4 (by decide) k
  omega
inductive sr (C G Pc Fo:Addr) (vs:List V) (H:Hp) (Q:VK) (E:XK):Prop
 |mk (l:Addr) (xs:List Tm) (dX:vs=[.ref l]) (dY:ic C G Pc Fo H l xs) (d8:(∀x∈xs,cS x.2)) (fk:xs.length≤20) (gG:∀e kvs H',H e=none→H' e=some (.dK kvs)→bx kvs→(∀k,aO kvs k=sumZ xs k)→au H H'→Q (.ref e) H')
def lQ (C G Pc Fo:Addr):Sp:=sr C G Pc Fo
theorem dH:ax ["terms","total","count","formula","amounts","kind"] ["terms"] (aj gP):=dB
theorem su (D:Def K mg "side_amounts" "side_amounts" gP ["terms"]) (T:Hz K mg C R G Pc Fo Ch uK uN uB uE uM uC uP uI uD uL uT eW eX eY) (c1:bg P w K mg base 8 "formula_amounts" ["formula"] (uY C G Pc Fo)):bg P w K mg base 9 "side_amounts" ["terms"] (lQ C G Pc Fo):=by
 obtain⟨_,_,dO⟩:=c1
 refine D.di dH (fun vs H Q E h=>?_) (fun f bj A outer s H vs Q E hr h=>?_)
 ·obtain⟨l,xs,rfl,_⟩:=h
  rfl
 ·obtain⟨l,xs,rfl,⟨ts,hl,hP⟩,aU,Zl,q⟩:=h
  have hu:=dz hr
  have big:(2000 :Nat)≤sizeLine:=by decide
  have lp:=Paired.length hP
  refine⟨_,(ai
     (aB (i:=1) dH.nd rfl (Or.inl rfl) dw)
    (ai
     (bW PassesOwn.never rfl (cN (pv 0)) (g7 rfl (bp (aG (i:=2) dH.nd rfl (Or.inl rfl)) (bp (aG (i:=3) dH.nd rfl (Or.inl rfl)) dZ)))
      (ai
       (aB (i:=4) dH.nd rfl (Or.inl rfl) (aH dO.ok (hr.mono (by decide)) rfl dO.g dO.kp dO.b .nil ay (aa (pv 3) ak)))
      (ao
       (dJ (bW PassesOwn.never rfl (cR (pv 4)) (aG (i:=5) dH.nd rfl (Or.inl rfl))
        (ao
         (cQ hu (pv 1) (pv 5) (aE cf (bR hu (pv 1) (pv 5) aq ⟨rfl,rfl,rfl,rfl⟩) (aE g8 (pv 2) (b6 hu (pv 4) (pv 5) (fun _ _=>rfl)))) rfl)))))))
    (ao
     (aD (pv 1))))),?_⟩
  refine fun e0 pK=>?_
  have s0:=au.new (o:= .dK []) pK
  refine⟨_,rfl,l,rfl,⟨_,b5.of (s0 _ _ hl)⟩,fq (K:=K) (a:=l) (xs:=ts.map V.ref) (fun i σ H'=>∃(kvs:List (Key×V)) (v2 v3 v4 v5:Option V),σ=[some (.ref l),some (.ref e0),v2,v3,v4,v5]∧H' e0=some (.dK kvs)∧bx kvs∧(∀k,aO kvs k=sumZ (xs.take i) k)∧kvs.length≤8*i∧au H H') ?_ (fun i σ H' _ ⟨_,_,_,_,_,_,_,_,_,_,z⟩=>b5.of (z _ _ hl)) ?_ ?_⟩
  ·exact⟨[],none,none,none,none,rfl,af,Hn,fun _=>rfl,Nat.zero_le _,s0⟩
  ·rintro i v σ H' hi ⟨kvs,v2,v3,v4,v5,rfl,he,hI,hz,mr,e⟩
   rw[List.getElem?_map] at hi
   obtain⟨t,ht,rfl⟩:∃p,ts[i]? =some p∧v=V.ref p:=by
    cases hh:ts[i]? with
    |none=>rw[hh] at hi;cases hi
    |some p=>rw[hh] at hi;exact⟨p,rfl,(Option.some.inj hi).symm⟩
   obtain⟨z,Tw,fo,h1,h2⟩:=bI hP ht
   have Ph:=aU z (List.mem_of_getElem? Tw)
   have yi:i<xs.length:=(List.getElem?_eq_some_iff.mp Tw).1
   have Zm:=Lu Ph
   refine⟨t,_,rfl,jc.of (e _ _ h1),rfl,_,_,rfl,_,_,rfl,rfl,?_⟩
   refine⟨_,rfl,fo,z.2,rfl,h2.same e,Ph,fun d H2 nd hd e2=>?_⟩
   have HH:e0≠d:=ag he nd
   have Zn:=e2 _ _ he
   dsimp only [du]
   refine⟨_,rfl,d,j6 z.2,rfl,hd,fun o nf=>dA nf (fun j σ H3=>∃w:Option V,σ=[some (.ref l),some (.ref e0),some (.int z.1),some (.ref fo),some (.ref d),w]∧H3=upd H2 e0 (.dK (d6 z.1 kvs ((j6 z.2).take j) (j6 z.2)))) ?_ ?_ ?_ ?_⟩
   ·exact⟨v5,rfl,(eI Zn).symm⟩
   ·rintro j σ H3 ⟨_,_,rfl⟩
    rw[ah (Ne.symm HH)]
    exact hd
   ·rintro j k v σ H3 hj ⟨w,rfl,rfl⟩
    have pf:∀o',(upd (upd H2 e0 (.dK (d6 z.1 kvs ((j6 z.2).take j) (j6 z.2)))) d o') e0=some (.dK (d6 z.1 kvs ((j6 z.2).take j) (j6 z.2))):=fun o'=>by rw[ah HH];exact af
    have Zo:=eM z.1 (j6 z.2) ((j6 z.2).take j) kvs
    have Lm:((j6 z.2).take j).length≤(j6 z.2).length:=List.length_take_le' _ _
    have Ho:=df z.1 (j6 z.2) ((j6 z.2).take j) kvs hI
    have hv:=(Lr z.2).dN (List.mem_of_getElem? hj)
    have Zc:=Ez Ph k
    refine⟨_,rfl,e0,rfl, .inl ⟨_, .inl (pf _)⟩,_,rfl,_,gj.k (k:=k) (pf _),_,rfl,_,rfl,_,rfl,d,V.int (aO (j6 z.2) k),rfl, .inl ⟨_,k, .inr ⟨o,af⟩,rfl,hv.symm⟩,_,_,rfl,rfl, .inr Zc,_,_,Ho.at k,rfl,_,rfl,_,rfl,e0,_,rfl,jf.k (k:=k) (pf _) (by omega),?_⟩
    refine⟨by rw[ah (Ne.symm HH)];exact af,some (kV k),rfl,?_⟩
    rw[js HH hd]
    unfold d6
    rw[take_snoc hj,List.foldl_append]
    rfl
   ·rintro σ H3 ⟨w,rfl,rfl⟩
    rw[List.take_length]
    have Zo:=eM z.1 (j6 z.2) (j6 z.2) kvs
    refine⟨_,_,_,_,_,rfl,af,df z.1 (j6 z.2) (j6 z.2) kvs hI,fun k=>?_,by omega,fun b o' w'=>?_⟩
    ·rw[xm z.1 (Pj _),hz k,sumZ_snoc Tw]
    ·rw[ah (ag w' pK)]
     exact e2 _ _ (e _ _ w')
  ·rintro σ H' ⟨kvs,v2,v3,v4,v5,rfl,he,hI,hz,mr,e⟩
   rw[List.length_map,lp,List.take_length] at hz
   exact⟨_,rfl,q e0 kvs H' pK he hI hz e⟩
variable {uC uP uI uD uL uT eW eX eY:Tok} {Ch:Addr}
abbrev Tri:=Str×Int×Int
theorem Tx {c A B:Prop} [Decidable c] (hc:¬c) (h:A):if (!decide c)=true then A else B:=by
 rw[decide_eq_false hc]
 exact h
def HI (H:Hp) (t:Addr) (p:Tri):Prop:=H t=some (.tup [.str p.1, .int p.2.1, .int p.2.2])
def zo (ms:List Str) (xs ys:List Tm):List Tri:=ms.map fun k=>(k,sumZ xs (Sum.inr k),sumZ ys (Sum.inr k))
def HJ (ms:List Str) (xs ys:List Tm):List Tri:=(zo ms xs ys).filter fun p=>!decide (p.2.1=p.2.2)
inductive Lw (C G Pc Fo Ch:Addr) (vs:List V) (H:Hp) (Q:VK) (E:XK):Prop
 |mk (c:Addr) (xs ys:List Tm) (dX:vs=[.ref c]) (dY:dC C G Pc Fo Ch H c xs ys) (d8:(∀z∈xs++ys,cS z.2)) (fk:(xs++ys).length≤20) (gG:zg (xs++ys)≤60) (jE:∀L ts ms H',Cs (xs++ys) ms→H L=none→H' L=some (.lst (ts.map V.ref))→Paired (HI H') ts (HJ (ms++[("+" :Str)]) xs ys)→au H H'→Q (.ref L) H')
def HK (C G Pc Fo Ch:Addr):Sp:=Lw C G Pc Fo Ch
theorem xn:ax ["self","lefts","rights","told"] ["self"] (aj tZ):=dB
theorem HL {zs:List Tm}:(Tu zs).length≤zg zs:=by
 have key:∀(zs:List Tm) (ks:List Key),(zs.foldl (fun ks z=>fD ks ((cW 1 z.2.1).map (·.1))) ks).length≤ks.length+zg zs:=by
  intro zs
  induction zs with
  |nil=>intro ks;exact Nat.le_refl _
  |cons z r ih=>
   intro ks
   have h1:=ih (fD ks ((cW 1 z.2.1).map (·.1)))
   have h2:(fD ks ((cW 1 z.2.1).map (·.1))).length≤ks.length+((cW 1 z.2.1).map (·.1)).length:=zh _ _
   have h3:(cW 1 z.2.1).length≤(z.2.1.flatMap (cA 1)).length:=dE _
   have h4:zg (z::r)=(z.2.1.flatMap (cA 1)).length+zg r:=rfl
   rw[List.length_map] at h2
   rw[List.foldl_cons]
   omega
 have h:=key zs []
 have e:=congrArg List.length (xl zs)
 rw[List.length_map] at e
 rw[←e]
 have h:(M4 zs).length≤0+zg zs:=h
 omega
theorem Lx (D:a9 K Ch "lost" "Change.lost" tZ ["self"]) (T:Hz K mg C R G Pc Fo Ch uK uN uB uE uM uC uP uI uD uL uT eW eX eY) (c1:bg P w K mg base 9 "side_amounts" ["terms"] (lQ C G Pc Fo)) (c2:aJ P w K mg base 8 Ch "kinds" ["self"] (Ct C G Pc Fo Ch)):aJ P w K mg base 10 Ch "lost" ["self"] (HK C G Pc Fo Ch):=by
 obtain⟨_,_,cy⟩:=c1
 obtain⟨_,_,il⟩:=c2
 refine D.di xn (fun vs H Q E h=>?_) (fun f bj A outer s H vs Q E hr h=>?_)
 ·obtain⟨c,xs,ys,rfl,_⟩:=h
  rfl
 ·obtain⟨c,xs,ys,rfl,hC,aU,Zl,h60,q⟩:=h
  have hu:=dz hr
  have big:(2000 :Nat)≤sizeLine:=by decide
  obtain⟨dx,l,r,hc,hl,JK⟩:=id hC
  have hla:=List.length_append (as:=xs) (bs:=ys)
  refine⟨_,(ai
     (aB (i:=1) xn.nd rfl (Or.inr rfl) (aH cy.ok (hr.mono (by decide)) rfl cy.g cy.kp cy.b .nil ay (aa (a5 (pv 0) rfl) ak)))
    (ai
     (aB (i:=2) xn.nd rfl (Or.inr rfl) (aH cy.ok (hr.mono (by decide)) rfl cy.g cy.kp cy.b .nil ay (aa (a5 (pv 0) rfl) ak)))
    (ai
     (pU (i:=3) xn.nd rfl (Or.inl rfl) (sc:=(aj tZ)) (NX:=["self","lefts","rights","told"]) (N:=["kind","lefts","rights"]) (fr:=[none,some 1,some 2]) ⟨by rfl,by rfl,by decide+kernel,by decide+kernel,by decide+kernel,by rfl,by decide+kernel⟩ rfl rfl rfl (cN (aN (pv 0) T.b9 il.m il.ok (hr.mono (by decide)) il.b .nil ay)) (fun _ _ _ _=>(aG (i:=0) (show (["kind","lefts","rights"]:List Str).Nodup by decide+kernel) rfl (Or.inl rfl) (Or.inr rfl))) (fun _ _ _ _=>f7) (fun _ _ _ _=>(bP (aa (pv 0) (aa (bR hu (pv 1) (pv 0) aq ⟨rfl,rfl,rfl,rfl⟩) (aa (bR hu (pv 2) (pv 0) aq ⟨rfl,rfl,rfl,rfl⟩) ak))))))
    (ao
     (aD (fy (sc:=(aj tZ)) (NX:=["self","lefts","rights","told"]) (N:=["each"]) (fr:=[none]) ⟨by rfl,by rfl,by decide+kernel,by decide+kernel,by decide+kernel,by rfl,by decide+kernel⟩ rfl rfl rfl (cN (pv 3)) (fun _ _ _ _=>(aG (i:=0) (show (["each"]:List Str).Nodup by decide+kernel) rfl (Or.inl rfl) (Or.inr rfl))) (fun _ _ _ _=>(mD (aP pe (cE (BM K rfl) (pv 0) aq (fun _ _=>rfl)) (cE (BM K rfl) (pv 0) aq (fun _ _=>rfl)) (aW _)))) (fun _ _ _ _=>(pv 0)))))))),?_⟩
  refine⟨_,rfl,c,Ch,dx,_,_,rfl,hc,T.b9,T.ib,eZ _ _,l,xs,rfl,hl,fun x hx=>aU x (List.mem_append_left _ hx),by omega,fun d1 k1 H1 nd1 Ff hI1 Y6 e1=>?_⟩
  refine⟨_,rfl,c,Ch,dx,_,_,rfl,e1 _ _ hc,T.b9,T.jr,gR _ _,r,ys,rfl,JK.same e1,fun x hx=>aU x (List.mem_append_right _ hx),by omega,fun d2 k2 H2 nd2 hd2 Tn hz2 e2=>?_⟩
  have zW:=e1.trans e2
  have hd12:=e2 _ _ Ff
  dsimp only [du]
  refine⟨_,rfl,c,dx,_,rfl,zW _ _ hc,yL _ _ (by decide+kernel) (by decide+kernel),c,xs,ys,rfl,hC.same zW,aU,Zl,h60,fun k ms H3 hK nk hk e3=>?_⟩
  have Rp:=zW.trans e3
  have hd13:=e3 _ _ hd12
  have hd23:=e3 _ _ hd2
  have Tv:(ms++[("+" :Str)]).length≤100:=by
   have h1:=hK.1.length_eq
   have h2:=HL (zs:=xs++ys)
   rw[List.length_append]
   show _+1≤100
   omega
  generalize hms:ms++[("+" :Str)]=mp at hk Tv
  refine⟨k,rfl,⟨_,b5.of hk⟩,fun L hL=>kU (K:=K) (a:=k) (L:=L) (xs:=mp.map V.str) H3 (fun σ=>∃v:Option V,σ=[v,some (.ref d1),some (.ref d2)]) (fun i zs cz=>∃ts:List Addr,zs=ts.map V.ref∧ts.length=i∧(∀a∈ts,a≠L)∧Paired (HI cz) ts ((zo mp xs ys).take i))
   (b5.of hk) ?_ hL ⟨none,rfl⟩ (au.new hL) af ⟨[],rfl,rfl,(fun a ha=>by cases ha), .nil⟩ (by rw[List.length_map];omega) (fun i ys _ ⟨ps,e1,e2,_⟩=>by rw[e1,List.length_map,e2];exact Nat.le_refl _) ?_ ?_⟩
  ·rintro i ys Ha Hb hb ⟨ds,h1,h2,h3,h4⟩
   exact⟨ds,h1,h2,h3,mh (fun a x ha z=>hb _ _ z (h3 a ha)) h4⟩
  ·rintro j w σ' H5 vs hj ⟨w1,rfl⟩ e5 px ⟨ts,rfl,A9,hnL,Tz⟩ N M hN
   rw[List.getElem?_map] at hj
   obtain⟨kk,Zp,rfl⟩:∃m,mp[j]? =some m∧w=V.str m:=by
    cases hh:mp[j]? with
    |none=>rw[hh] at hj;cases hj
    |some m=>rw[hh] at hj;exact⟨m,rfl,(Option.some.inj hj).symm⟩
   have h1:=e5 _ _ hd13
   have h2:=e5 _ _ hd23
   have a1:=hI1.at (Sum.inr kk)
   have a2:=Tn.at (Sum.inr kk)
   rw[Y6] at a1
   rw[hz2] at a2
   refine⟨_,rfl,_,rfl,d1,rfl, .inl ⟨_, .inl h1⟩,_,rfl,_,gj.k (k:=Sum.inr kk) h1,_,rfl,d2,rfl, .inl ⟨_, .inl h2⟩,_,rfl,_,gj.k (k:=Sum.inr kk) h2,(by show 3≤sizeLine;decide),fun t ht=>?_⟩
   have st:=au.new (o:= .tup [.str kk,(b7 k1 (Sum.inr kk)).getD (.int 0),(b7 k2 (Sum.inr kk)).getD (.int 0)]) ht
   refine hN _ _ _ ⟨_,rfl⟩ (e5.trans st) (st _ _ px) ⟨ts++[t],by rw[List.map_append];rfl,by rw[List.length_append,A9];rfl,fun a ha=>?_,?_⟩
   ·rcases List.mem_append.mp ha with ha|ha
    ·exact hnL a ha
    ·have ea:a=t:=by simpa using ha
     subst ea
     exact fun z=>by rw[z,px] at ht;cases ht
   have HM:(zo mp xs ys)[j]? =some (kk,sumZ xs (Sum.inr kk),sumZ ys (Sum.inr kk)):=by unfold zo;rw[List.getElem?_map,Zp];rfl
   rw[take_snoc HM]
   refine bS ?_ (aK (fun _ _ z=>st _ _ z) Tz)
   show (upd H5 t _) t=_
   rw[af,a1,a2]
  rintro H4 vs e4 B7 ⟨ts,rfl,A9,_,Tz⟩
  have ltr:(zo mp xs ys).length=mp.length:=by unfold zo;rw[List.length_map]
  rw[List.length_map] at A9
  rw[List.length_map,←ltr,List.take_length] at Tz
  dsimp only [du]
  refine⟨_,rfl,L,rfl,⟨_,b5.of B7⟩,fun L2 sX=>tU (K:=K) (a:=L) (L:=L2) (xs:=ts.map V.ref) H4 (fun σ=>∃v:Option V,σ=[v]) (fun i zs=>∃us:List Addr,zs=us.map V.ref∧us.length≤i∧Paired (HI H4) us (((zo mp xs ys).take i).filter fun p=>!decide (p.2.1=p.2.2)))
   (b5.of B7) sX ⟨none,rfl⟩ (au.new sX) af ⟨[],rfl,Nat.le_refl _, .nil⟩ (by rw[List.length_map];omega) (fun i ys ⟨ps,e1,e2,_⟩=>by rw[e1,List.length_map];exact e2) ?_ ?_⟩
  ·rintro j w σ' H5 vs hj ⟨w1,rfl⟩ e5 px ⟨us,rfl,M5,HN⟩ N M hN hM
   rw[List.getElem?_map] at hj
   obtain⟨t,ht,rfl⟩:∃m,ts[j]? =some m∧w=V.ref m:=by
    cases hh:ts[j]? with
    |none=>rw[hh] at hj;cases hj
    |some m=>rw[hh] at hj;exact⟨m,rfl,(Option.some.inj hj).symm⟩
   obtain⟨p,hp,OL⟩:=bI Tz ht
   have OL:H4 t=some (.tup [.str p.1, .int p.2.1, .int p.2.2]):=OL
   refine⟨_,rfl,t,_,_,V.int p.2.1,rfl,rfl,jc.of (e5 _ _ OL),rfl,_,rfl,t,_,_,V.int p.2.2,rfl,rfl,jc.of (e5 _ _ OL),rfl,rfl,_,rfl,?_⟩
   by_cases hd:p.2.1=p.2.2
   ·refine BG (by rw[hd]) ?_
    refine hM _ _ ⟨_,rfl⟩ e5 px ⟨us,rfl,by omega,?_⟩
    rw[take_snoc hp,List.filter_append]
    have:[p].filter (fun p=>!decide (p.2.1=p.2.2))=[]:=by simp [hd]
    rw[this,List.append_nil]
    exact HN
   ·refine Tx (by intro z;injection z with z;exact hd z) ?_
    refine⟨_,rfl,hN _ _ _ ⟨_,rfl⟩ e5 px ⟨us++[t],by rw[List.map_append];rfl,by rw[List.length_append];show _+1≤_;omega,?_⟩⟩
    rw[take_snoc hp,List.filter_append]
    have:[p].filter (fun p=>!decide (p.2.1=p.2.2))=[p]:=by simp [hd]
    rw[this]
    refine bS ?_ ?_
    ·exact OL
    ·exact HN
  rintro H5 vs e5 px ⟨us,rfl,M5,HN⟩
  have lts:=Paired.length Tz
  rw[List.length_map,lts,List.take_length] at HN
  have TB:=(Rp.trans e4)
  rw[←hms] at HN
  exact q L2 us ms H5 hK (none_back TB sX) px (aK (fun _ _ z=>e5 _ _ z) HN) (TB.trans e5)
variable {uC uP uI uD uL uT:Tok} {St:Addr}
structure pN (K:PySem.W.Frag) (mg:Str→Option Value) (C R G Pc Fo St:Addr) (uK uN uB uE uM uC uP uI uD uL uT:Tok):Prop extends lK K mg C R G Pc Fo uK uN uB uE uM uC uP uI uD uL uT where
 jN:mg "dict" =none
 n_sum:mg "sum" =none
 bQ:sR K St
 eS:cG K St "amounts"
 qm:cG K St "gone"
 Ly:mg "Store" =some (.ref St)
theorem Zq:¬(("amounts" :Str)="gone"):=by decide+kernel
def zp (d g:Addr):List (Str×V):=cL "gone" (.ref g) (cL "amounts" (.ref d) [])
theorem iQ (d g:Addr):(zp d g).lookup ("amounts" :Str)=some (.ref d):=by
 unfold zp
 rw[az,if_neg Zq,az,if_pos rfl]
theorem zq (d g:Addr):(zp d g).lookup ("gone" :Str)=some (.ref g):=by
 unfold zp
 rw[az,if_pos rfl]
theorem jQ (d g:Addr) {m:Str} (h1:¬m="gone") (h2:¬m="amounts"):(zp d g).lookup m=none:=by
 unfold zp
 rw[az,if_neg h1,az,if_neg h2]
 all_goals rfl
def j3 (St:Addr) (H:Hp) (st d g:Addr):Prop:=∃dx,H st=some (.ins St dx (zp d g))
def u5 (x:Str):Prop:=∃fm:Fm,cS fm∧x=⟨(fL fm).toArray⟩
inductive Lz (St:Addr) (vs:List V) (H:Hp) (Q:VK) (E:XK):Prop
 |mk (st d g:Addr) (x:Str) (kvs:List (Key×V)) (dX:vs=[.ref st, .str x]) (dY:j3 St H st d g) (d8:H d=some (.dK kvs)) (fk:bx kvs) (gG:u5 x) (jE:∀H',au H H'→Q (.int (aO kvs (Sum.inr x))) H')
def Ba (St:Addr):Sp:=Lz St
inductive Pl (St:Addr) (vs:List V) (H:Hp) (Q:VK) (E:XK):Prop
 |mk (st d g:Addr) (x:Str) (m:Int) (kvs:List (Key×V)) (dX:vs=[.ref st, .str x, .int m]) (dY:j3 St H st d g) (d8:H d=some (.dK kvs)) (fk:bx kvs) (gG:kvs.length≤1000) (jE:u5 x) (oG:∀H',Kept d H H'→H' d=some (.dK (b8 kvs (Sum.inr x) m))→Q .cU H')
def HP (St:Addr):Sp:=Pl St
theorem Po:ax ["self","text"] ["self","text"] (aj BQ):=dB
theorem LA (D:a9 K St "have" "Store.have" BQ ["self","text"]) (T:pN K mg C R G Pc Fo St uK uN uB uE uM uC uP uI uD uL uT) (c1:bg P w K mg base 11 "read_formula" ["text"] (B9 C G Pc Fo 1)):aJ P w K mg base 12 St "have" ["self","text"] (Ba St):=by
 obtain⟨_,_,fH⟩:=c1
 refine D.di Po (fun vs H Q E h=>?_) (fun f bj A outer s H vs Q E hr h=>?_)
 ·obtain⟨st,d,g,x,kvs,rfl,_⟩:=h
  rfl
 ·obtain⟨st,d,g,x,kvs,rfl,⟨dx,fO⟩,hd,hI,⟨fm,To,ex⟩,q⟩:=h
  have hu:=dz hr
  have rO:x.cps.toList=wL 1 fm.1 fm.2:=by rw[ex];rfl
  have hx4:x.length≤400:=by
   have:=To.2.1
   rw[ex,bo]
   omega
  refine⟨_,(ai
     (bB (aH fH.ok (hr.mono (by decide)) rfl fH.g fH.kp fH.b .nil ay (aa (pv 1) ak)))
    (ao
     (aD (bR hu (a5 (pv 0) rfl) (pv 1) aq ⟨rfl,rfl,rfl,rfl⟩)))),?_⟩
  refine⟨_,rfl,x,fm.1,fm.2,rfl,rO,To.1,by decide,hx4,fun f H1 nf hF e1=>?_⟩
  refine⟨_,rfl,st,St,dx,_,_,rfl,e1 _ _ fO,T.bQ,T.eS,iQ _ _,d,rfl, .inl ⟨_, .inl (e1 _ _ hd)⟩,_,rfl,_,gj.k (k:=Sum.inr x) (e1 _ _ hd),?_⟩
  have e:=hI.at (Sum.inr x)
  rw[e]
  exact q _ e1
theorem TC:ax ["self","text","many"] ["self","text","many"] (aj KP):=dB
theorem Pp (D:a9 K St "put" "Store.put" KP ["self","text","many"]) (T:pN K mg C R G Pc Fo St uK uN uB uE uM uC uP uI uD uL uT) (c1:aJ P w K mg base 12 St "have" ["self","text"] (Ba St)):aJ P w K mg base 13 St "put" ["self","text","many"] (HP St):=by
 obtain⟨_,_,dt⟩:=c1
 refine D.di TC (fun vs H Q E h=>?_) (fun f bj A outer s H vs Q E hr h=>?_)
 ·obtain⟨st,d,g,x,m,kvs,rfl,_⟩:=h
  rfl
 ·obtain⟨st,d,g,x,m,kvs,rfl,⟨dx,fO⟩,hd,hI,hl,hx,q⟩:=h
  have hu:=dz hr
  refine⟨_,(ao
     (cQ hu (a5 (pv 0) rfl) (pv 1) (aE cf (bU (pv 0) T.bQ dt.m dt.ok (hr.mono (by decide)) dt.b .nil ay (aa (pv 1) ak)) (pv 2)) rfl)),?_⟩
  refine⟨_,rfl,st,dx,_,rfl,fO,jQ _ _ (by decide+kernel) (by decide+kernel),_,rfl,st,d,g,x,kvs,rfl,⟨dx,fO⟩,hd,hI,hx,fun H1 e1=>?_⟩
  refine⟨_,rfl,_,_,rfl,rfl,_,rfl,st,St,dx,_,_,rfl,e1 _ _ fO,T.bQ,T.eS,iQ _ _,_,rfl,d,_,rfl,jf.k (k:=Sum.inr x) (e1 _ _ hd) (kQ hl),?_⟩
  refine q _ (fun b o z n=>?_) af
  rw[ah n]
  exact e1 _ _ z
variable {uC uP uI uD uL uT:Tok} {St:Addr}
theorem zr {kvs:List (Key×V)} {k:Key} (h:¬k∈kvs.map (·.1)):b7 kvs k=none:=by
 cases e:b7 kvs k with
 |none=>rfl
 |some v=>exact absurd (pS e) h
theorem HQ {kvs:List (Key×V)} {k:Key} (h:¬k∈kvs.map (·.1)) (n:Int):b8 kvs k n=kvs++[(k, .int n)]:=by
 unfold b8
 rw[mx _ (zr h),eK (zr h),Int.zero_add]
theorem Cv {kvs:List (Key×V)} (hn:(kvs.map (·.1)).Nodup) {k:Key} {z:Int} (h:(k,V.int z)∈kvs):aO kvs k=z:=fB (jh hn h)
theorem take_out {kvs:List (Key×V)} (hn:(kvs.map (·.1)).Nodup) {i:Nat} {p:Key×V} (h:kvs[i]? =some p):¬p.1∈(kvs.take i).map (·.1):=by
 intro m
 have e:kvs.take (i+1)=kvs.take i++[p]:=take_snoc h
 have hs:((kvs.take (i+1)).map (·.1)).Nodup:=hn.sublist ((List.take_sublist _ _).map _)
 rw[e,List.map_append,List.nodup_append] at hs
 exact hs.2.2 _ m p.1 (by simp) rfl
inductive HR (St:Addr) (vs:List V) (H:Hp) (Q:VK) (E:XK):Prop
 |mk (p dx:Addr) (v:V) (kvs:List (Key×V)) (dX:vs=[.ref p,v]) (dY:H p=some (.ins St dx [])) (d8:((v= .cU∧kvs=[])∨∃a,v= .ref a∧H a=some (.dK kvs))) (fk:bx kvs) (gG:(kvs.map (·.1)).Nodup) (jE:(∀q∈kvs,∃x,q.1=Sum.inr x∧u5 x)) (oG:kvs.length≤900) (sV:∀d g H',H d=none→H g=none→d≠g→j3 St H' p d g→H' d=some (.dK kvs)→H' g=some (.lst [])→(∀b o,H b=some o→b≠p→H' b=some o)→Q .cU H')
def Cw (St:Addr):Sp:=HR St
theorem Cy:ax ["self","amounts","text"] ["self","amounts"] (aj fV):=dB
theorem HS (D:KH K St "Store.__init__" fV ["self","amounts"]) (T:pN K mg C R G Pc Fo St uK uN uB uE uM uC uP uI uD uL uT) (c1:aJ P w K mg base 13 St "put" ["self","text","many"] (HP St)):Gn P w K mg base qO 14 St ["self","amounts"] (Cw St):=by
 obtain⟨_,_,dU⟩:=c1
 refine D.di Cy (fun vs H Q E h=>?_) (fun f bj A outer s H vs Q E hr h=>?_)
 ·obtain⟨p,dx,v,kvs,rfl,_⟩:=h
  rfl
 ·obtain⟨p,dx,v,kvs,rfl,hp,hv,hI,hn,hg,hl,q⟩:=h
  have hu:=dz hr
  refine⟨_,(ai
     (eO (pv 0) dw rfl)
    (ai
     (eO (pv 0) (cD ak) rfl)
    (ao
     (bG (qA (vx (pv 1)))
      (ao
       (dJ (bW PassesOwn.never rfl (cR (pv 1)) (aG (i:=2) Cy.nd rfl (Or.inl rfl))
        (ao
         (bB (bU (pv 0) T.bQ dU.m dU.ok (hr.mono (by decide)) dU.b .nil ay (aa (pv 2) (aa (b6 hu (pv 1) (pv 2) (fun _ _=>rfl)) ak))))))))
      aR)))),?_⟩
  refine fun d hd=>?_
  have TJ:p≠d:=ag hp hd
  refine⟨_,rfl,p,St,dx,[],rfl,(by rw[ah TJ];exact hp),T.bQ,T.eS,(by show 0<1000;decide),(by show 0≤sizeLine;decide),fun g B8=>?_⟩
  have npg:p≠g:=fun z=>by rw[z,af] at B8;cases B8
  rw[ah (Ne.symm npg)] at B8
  have AJ:d≠g:=fun z=>by rw[z,af] at B8;cases B8
  rw[ah (Ne.symm AJ)] at B8
  refine⟨_,rfl,p,St,dx,_,rfl,(by rw[ah npg,af]),T.bQ,T.qm,(by show 1<1000;decide),?_⟩
  generalize Zr:upd (upd (upd (upd H d (.dK [])) p (.ins St dx (cL "amounts" (.ref d) []))) g (.lst [])) p (.ins St dx (cL "gone" (.ref g) (cL "amounts" (.ref d) [])))=H1
  have h1p:H1 p=some (.ins St dx (zp d g)):=by rw[←Zr,af];rfl
  have h1d:H1 d=some (.dK []):=by rw[←Zr,ah (Ne.symm TJ),ah AJ,ah (Ne.symm TJ),af]
  have h1g:H1 g=some (.lst []):=by rw[←Zr,ah (Ne.symm npg),af]
  have h1o:∀b o,H b=some o→b≠p→H1 b=some o:=fun b o z n=>by
   rw[←Zr,ah n,ah (ag z B8),ah n,ah (ag z hd)]
   exact z
  rcases hv with ⟨rfl,rfl⟩ | ⟨a,rfl,ha⟩
  ·exact⟨_,rfl,_,rfl,cH (q d g H1 hd B8 AJ ⟨dx,h1p⟩ h1d h1g h1o)⟩
  ·have nap:a≠p:=cI ha hp (by intro z;cases z)
   have ha1:=h1o a _ ha nap
   have Zs:a≠d:=ag ha hd
   have Zq:a≠g:=ag ha B8
   refine⟨_,rfl,_,rfl,ix ?_⟩
   refine⟨_,rfl,a,kvs,rfl,ha1,fun o nf=>dA nf (fun i σ H'=>∃v2:Option V,σ=[some (.ref p),some (.ref a),v2]∧H' d=some (.dK (kvs.take i))∧∀b o',H1 b=some o'→b≠d→H' b=some o') ?_ (fun i σ H' ⟨_,_,_,e⟩=>e _ _ ha1 Zs) ?_ ?_⟩
   ·exact⟨none,rfl,h1d,fun b o' z _=>z⟩
   ·rintro i k v σ H' hi ⟨v2,rfl,fQ,e⟩
    obtain⟨x,ex,gx⟩:=hg _ (List.mem_of_getElem? hi)
    have ex:k=Sum.inr x:=ex
    subst ex
    have hv:=hI.dN (List.mem_of_getElem? hi)
    obtain⟨z,ez⟩:=hI _ (List.mem_of_getElem? hi)
    have ez:v=V.int z:=ez
    subst ez
    have Tw:aO kvs (Sum.inr x)=z:=by
     have m:=List.mem_of_getElem? hi
     exact fB (by rw[hv];exact congrArg some (by rw[Cv hn m]))
    have yf:(upd H' a (.fN o (.dK kvs))) p=some (.ins St dx (zp d g)):=by rw[ah (Ne.symm nap)];exact e _ _ h1p TJ
    have hdd:(upd H' a (.fN o (.dK kvs))) d=some (.dK (kvs.take i)):=by rw[ah (Ne.symm Zs)];exact fQ
    refine⟨_,rfl,p,dx,_,rfl,yf,jQ _ _ (by decide+kernel) (by decide+kernel),_,rfl,_,rfl,_,rfl,a,V.int z,rfl, .inl ⟨_,Sum.inr x, .inr ⟨o,af⟩,rfl,(by rw[hv,Tw])⟩,p,d,g,x,z,kvs.take i,rfl,⟨dx,yf⟩,hdd,fun q hq=>hI q (List.mem_of_mem_take hq),?_,gx,fun H2 kp hd2=>?_⟩
    ·rw[List.length_take];omega
    ·refine⟨kp _ _ af Zs,some (.str x),rfl,?_,fun b o' z' nb=>?_⟩
     ·rw[ah (Ne.symm Zs),hd2,HQ (take_out hn hi),take_snoc hi]
     ·by_cases ba:b=a
      ·subst ba
       rw[af]
       rw[ha1] at z'
       exact z'
      ·rw[ah ba]
       refine kp _ _ ?_ nb
       rw[ah ba]
       exact e _ _ z' nb
   ·rintro σ H' ⟨v2,rfl,fQ,e⟩
    rw[List.take_length] at fQ
    exact q d g H' hd B8 AJ ⟨dx,e _ _ h1p TJ⟩ fQ (e _ _ h1g (Ne.symm AJ)) fun b o' z nb=>e _ _ (h1o b o' z nb) (ag z hd)
variable {uC uP uI uD uL uT:Tok} {St:Addr}
def zv:V→Int
 | .int i=>i
 |_=>0
def lL (kvs:List (Key×V)):List (Key×V):=kvs.filter fun q=>decide (0<zv q.2)
inductive EA (St:Addr) (vs:List V) (H:Hp) (Q:VK) (E:XK):Prop
 |mk (st d g:Addr) (kvs:List (Key×V)) (dX:vs=[.ref st]) (dY:j3 St H st d g) (d8:H d=some (.dK kvs)) (fk:bx kvs) (gG:(kvs.map (·.1)).Nodup) (jE:kvs.length≤900) (oG:∀e H',H e=none→H' e=some (.dK (lL kvs))→au H H'→Q (.ref e) H')
def zt (St:Addr):Sp:=EA St
theorem HU:ax ["self"] ["self"] (aj mU):=dB
def PvS (L:Addr) (kvs:List (Key×V)) (H0:Hp):Nat→List V→Hp→Prop:=fun i ys H'=>∃ps:List (Addr×Key×V),ys=ps.map (fun p=>V.ref p.1)∧(∀p∈ps,H' p.1=some (.tup [kV p.2.1,p.2.2])∧p.1≠L)∧ps.map (·.2)=lL (kvs.take i)
theorem Cz (kvs:List (Key×V)):(lL kvs).length≤kvs.length:=List.length_filter_le _ _
theorem EB (D:a9 K St "stocks" "Store.stocks" mU ["self"]) (T:pN K mg C R G Pc Fo St uK uN uB uE uM uC uP uI uD uL uT):aJ P w K mg base 1 St "stocks" ["self"] (zt St):=by
 refine D.di HU (fun vs H Q E h=>?_) (fun f bj A outer s H vs Q E hr h=>?_)
 ·obtain⟨st,d,g,kvs,rfl,_⟩:=h
  rfl
 ·obtain⟨st,d,g,kvs,rfl,⟨dx,fO⟩,hd,hI,hn,hl,q⟩:=h
  have hu:=dz hr
  have big:(2000 :Nat)≤sizeLine:=by decide
  refine⟨_,(ao
     (aD (bK (lY rfl) rfl T.jN iC (aa (pT (fy (sc:=(aj mU)) (NX:=["self"]) (N:=["text","many"]) (fr:=[none,none]) ⟨by rfl,by rfl,by decide+kernel,by decide+kernel,by decide+kernel,by rfl,by decide+kernel⟩ rfl rfl rfl (Gm (a5 (pv 0) rfl)) (fun _ _ _ _=>(vM K 2 rfl rfl (bp (aG (i:=0) (show (["text","many"]:List Str).Nodup by decide+kernel) rfl (Or.inl rfl) (Or.inr rfl)) (bp (aG (i:=1) (show (["text","many"]:List Str).Nodup by decide+kernel) rfl (Or.inl rfl) (Or.inr rfl)) dZ)))) (fun _ _ _ _=>(mD (aP lN (pv 1) aq (aW _)))) (fun _ _ _ _=>(bP (aa (pv 0) (aa (pv 1) ak)))))) ak)))),?_⟩
  refine⟨_,rfl,st,St,dx,_,_,rfl,fO,T.bQ,T.eS,iQ _ _,d,kvs,rfl,hd,fun o nf L hL=>?_⟩
  have Rq:L≠d:=fun z=>by rw[z,af] at hL;cases hL
  have hz:(upd H d (.fN o (.dK kvs))) d=some (.fN o (.dK kvs)):=af
  refine DO (J:=SV d o kvs) (L:=L) kvs.length (upd H d (.fN o (.dK kvs))) (fun σ=>∃v u:Option V,σ=[v,u]) (PvS L kvs H) (items_go hz) (Ax hz) ?_ hL ⟨none,none,rfl⟩ (au.new hL) af ⟨[],rfl,(fun p hp=>by cases hp),rfl⟩ (by omega) ?_ ?_ ?_
  ·rintro i ys H1 H2 e ⟨ps,e1,e2,e3⟩
   exact⟨ps,e1,fun p hp=>⟨e _ _ (e2 p hp).1 (e2 p hp).2,(e2 p hp).2⟩,e3⟩
  ·rintro i ys H1 ⟨ps,e1,_,e3⟩
   have h1:=congrArg List.length e3
   have h2:=Cz (kvs.take i)
   rw[List.length_map] at h1
   rw[List.length_take] at h2
   rw[e1,List.length_map]
   omega
  ·rintro i σ H2 ys hi ⟨v,u,rfl⟩ hs sX ⟨ps,rfl,e2,e3⟩ N M hN hM y H3 ⟨t,kk,vv,DD,ht,rfl,rfl⟩
   obtain⟨z,ez⟩:=hI _ (List.mem_of_getElem? DD)
   have ez:vv=V.int z:=ez
   subst ez
   have s3:=hs.trans (au.new (o:= .tup [kV kk, .int z]) ht)
   have nE:(upd H2 t (.tup [kV kk, .int z])) L=some (.lst (ps.map fun p=>V.ref p.1)):=by rw[ah (ag sX ht)];exact sX
   refine⟨t,_,rfl,jc.of af,rfl,_,_,rfl,_,_,rfl,rfl,_,rfl,_,_,rfl,rfl,_,rfl,fM (fun ec=>?_) fun ec=>?_⟩
   ·have ec:0<z:=by simpa using ec
    refine⟨_,rfl,_,rfl,(by show 2≤sizeLine;decide),fun t2 TN=>?_⟩
    have s4:=au.new (o:= .tup [kV kk, .int z]) TN
    have Rr:L≠t2:=ag nE TN
    refine hN _ _ _ ⟨_,_,rfl⟩ (s3.trans s4) (s4 _ _ nE) ⟨ps++[(t2,kk, .int z)],by rw[List.map_append];rfl,fun p hp=>?_,?_⟩
    ·rcases List.mem_append.mp hp with hp|hp
     ·exact⟨s4 _ _ (au.new ht _ _ (e2 p hp).1),(e2 p hp).2⟩
     ·have e':p=(t2,kk, .int z):=by simpa using hp
      subst e'
      exact⟨af,Ne.symm Rr⟩
    ·unfold lL at e3 ⊢
     rw[List.map_append,e3,take_snoc DD,List.filter_append,show [(kk,V.int z)].filter (fun q=>decide (0<zv q.2))=[(kk,V.int z)] by simp [zv,ec]]
     rfl
   ·have ec:¬0<z:=by simpa using ec
    refine hM _ _ ⟨_,_,rfl⟩ s3 nE ⟨ps,rfl,fun p hp=>⟨au.new ht _ _ (e2 p hp).1,(e2 p hp).2⟩,?_⟩
    unfold lL at e3 ⊢
    rw[e3,take_snoc DD,List.filter_append,show [(kk,V.int z)].filter (fun q=>decide (0<zv q.2))=[] by simp [zv,ec],List.append_nil]
  ·rintro H2 ys hs sX ⟨ps,rfl,e2,e3⟩
   rw[List.take_length] at e3
   have s2:au H (upd H2 d (.dK kvs)):=fun b o' z'=>by
    by_cases bd:b=d
    ·subst bd
     rw[af]
     rw[hd] at z'
     exact z'
    ·rw[ah bd]
     exact hs _ _ (by rw[ah bd];exact z')
   refine⟨d,o,kvs,hs _ _ hz,nf,L,ps,rfl,by rw[ah Rq];exact sX,fun p hp=>?_,fun e he=>?_⟩
   ·have p1:=(e2 p hp).1
    rw[ah (cI p1 (hs _ _ hz) (by intro z;cases z))]
    exact p1
   ·have e8:cu [] (ps.map (·.2))=lL kvs:=by
     rw[e3,nF _ [] (by rw[List.nil_append];exact(List.filter_sublist.map _).nodup hn),List.nil_append]
    rw[e8]
    exact q e _ (none_back s2 he) af (s2.trans (au.new he))
theorem Pq:ax ["self"] ["self"] (aj yv):=dB
variable {uC uP uI uD uL uT:Tok} {St:Addr}
theorem u6:∀(d:Nat) (m:Int) (t:Tr),uh d t→∀p∈bq d m t,∃k,l6 k∧p.1=⟨k.toArray⟩
 |d,m, .one k n,h,p,hp=>by
  have e:bq d m (.one k n)=[(⟨k.toArray⟩,n*m)]:=by cases d<;>rfl
  rw[e] at hp
  have h:l6 k∧1≤n∧n≤999:=by cases d<;>exact h
  have ep:p=(⟨k.toArray⟩,n*m):=by simpa using hp
  exact⟨k,h.1,by rw[ep]⟩
 |0,_, .gr _ _,h,_,_=>h.elim
 |d+1,m, .gr ts n,h,p,hp=>by
  obtain⟨t,ht,hp⟩:=List.mem_flatMap.mp hp
  exact u6 d (n*m) t (h.2.1 t ht) p hp
theorem Pr {k:List Nat} (hk:l6 k) {n:Int} (n1:1≤n) (n2:n≤999):Em [.one k n]:=by
 refine⟨by simp,fun t ht=>?_,?_,(by show 1≤5;decide)⟩
 ·have e:t= .one k n:=by simpa using ht
  subst e
  exact⟨hk,n1,n2⟩
 ·have h1:=rV hk
  have h2:=rT n1 n2
  show ((k++aQ n)++[]).length≤23
  rw[List.append_nil,List.length_append]
  omega
theorem CA {k:List Nat} (hk:l6 k):cS ([(1,[.one k 1])],0):=MY (Hh (Pr hk (by decide) (by decide))) (by decide) (by decide)
theorem HV (k:List Nat):fL ([(1,[.one k 1])],0)=k:=by
 show (k++aQ 1++[])++([]++jq 0)=_
 rw[Tg,show jq 0=[] from rfl]
 simp
theorem M6:cS ([], -1):=⟨rfl,(by show 3≤33;decide),(by show 0≤7;decide)⟩
theorem Pt:(⟨(fL ([], -1)).toArray⟩:Str)="e^-" :=by decide+kernel
theorem qo {kvs:List (Key×V)} {k:Key} {v:V} {q:Key×V} (h:q∈putK kvs k v):q∈kvs∨q=(k,v):=by
 unfold putK at h
 split at h
 ·obtain⟨r,hr,e⟩:=List.mem_map.mp h
  subst e
  split
  ·rename_i e
   exact .inr (by rw[e])
  ·exact .inl hr
 ·rcases List.mem_append.mp h with h|h
  ·exact .inl h
  ·exact .inr (by simpa using h)
theorem lA {Pk:Key→Prop} (t:Int):∀(as:List (Str×Int)) (acc:List (Key×V)),(∀q∈acc,Pk q.1)→(∀p∈as,Pk (Sum.inr p.1))→∀q∈a8 t acc as,Pk q.1
 | [],_,h,_,q,hq=>h q hq
 |p::r,acc,h,h',q,hq=>by
  refine lA t r (b8 acc (Sum.inr p.1) (p.2*t)) (fun q hq=>?_) (fun p hp=>h' p (List.mem_cons_of_mem _ hp)) q hq
  rcases qo hq with hq|hq
  ·exact h q hq
  ·rw[hq]
   exact h' p (List.mem_cons_self ..)
theorem xo {x:Fm} (h:cS x):∀q∈cW 1 x.1,∃k,l6 k∧q.1=Sum.inr (⟨k.toArray⟩:Str):=by
 refine lA (Pk:=fun j=>∃k,l6 k∧j=Sum.inr (⟨k.toArray⟩:Str)) 1 _ [] (fun q hq=>by cases hq) fun p hp=>?_
 obtain⟨y,hy,hp⟩:=List.mem_flatMap.mp hp
 have zV:=lz h.1 y hy
 obtain⟨t,ht,hp⟩:=List.mem_flatMap.mp hp
 obtain⟨k,hk,e⟩:=u6 1 y.1 t (zV.2.1 t ht) p hp
 exact⟨k,hk,by rw[e]⟩
theorem TQ (x:Fm):((cW 1 x.1).map (·.1)).Nodup:=iO _
theorem LB (k:Str) (k':Key):aO [(Sum.inr k, .int 1)] k'=if k'=Sum.inr k then 1 else 0:=iM [] (Sum.inr k) k' 1
def Told (ws:List Fm) (s:Str):Prop:=s="e^-" ∨(∃w∈ws,s=⟨(fL w).toArray⟩)∨∃w∈ws,(Sum.inr s:Key)∈(cW 1 w.1).map (·.1)
theorem oY {ws:List Fm} (h:∀w∈ws,cS w) {s:Str} (t:Told ws s):u5 s:=by
 rcases t with rfl| ⟨w,hw,rfl⟩ | ⟨w,hw,hs⟩
 ·exact⟨_,M6,Pt.symm⟩
 ·exact⟨w,h w hw,rfl⟩
 ·obtain⟨q,hq,e⟩:=List.mem_map.mp hs
  obtain⟨k,hk,e'⟩:=xo (h w hw) q hq
  rw[e] at e'
  injection e' with e'
  exact⟨_,CA hk,by rw[HV,e']⟩
variable {uC uP uI uD uL uT:Tok} {St:Addr}
theorem CB:ax ["_law_cell","_law_prime","_law_number"] ["_law_cell","_law_prime"] (aj wd):=dB
inductive Pu (vs:List V) (H:Hp) (Q:VK) (E:XK):Prop
 |mk (c p:Int) (dX:vs=[.int c, .int p]) (dY:0<p) (d8:p<2^60) (fk:∀n,Q (.int n) H)
def M7:Sp:=Pu
theorem Pw (D:Def K mg "_law_mixed" "_law_mixed" wd ["_law_cell","_law_prime"]):bg P w K mg base 1 "_law_mixed" ["_law_cell","_law_prime"] M7:=by
 refine D.di CB (fun vs H Q E h=>?_) (fun f bj A outer s H vs Q E hr h=>?_)
 ·obtain⟨c,p,rfl,_⟩:=h
  rfl
 ·obtain⟨c,p,rfl,p0,p1,q⟩:=h
  have m0:0≤c%2147483647:=Int.emod_nonneg _ (by decide)
  have m1:c%2147483647<2147483647:=Int.emod_lt_of_pos _ (by decide)
  refine⟨_,(ai
     (aB (i:=2) CB.nd rfl (Or.inl rfl) (aE cf (aE cK (pv 0) aq) aq))
    (ao
     (aD (aE cK (aE cf (aE g8 (aE g8 (pv 2) (pv 2)) aq) (pv 2)) (pv 1))))),?_⟩
  refine⟨_,rfl,_,_,rfl,rfl,(by show (0 :Int) <2147483647;decide),_,_,rfl,rfl,?_⟩
  refine⟨_,rfl,_,rfl,_,_,rfl,rfl, .inl ⟨by omega,by omega⟩,_,_,rfl,rfl, .inr ⟨by decide,by decide⟩,_,rfl,_,_,rfl,rfl,_,rfl,_,_,rfl,rfl,p0,q _⟩
theorem Px:aQ 12=[49,50]:=by decide+kernel
theorem fig3:aQ 3=[51]:=by decide+kernel
theorem zW:(".12" :Str)=⟨[46,49,50].toArray⟩:=by decide+kernel
theorem e413:(")3" :Str)=⟨[41,51].toArray⟩:=by decide+kernel
theorem TR (ts:List Tr) (k:List Nat):wL 1 [(1,ts),(12,[.one k 1])] 0=ts.flatMap (cn 1)++([46,49,50]++k):=by
 show ts.flatMap (cn 1)++(((46::(aQ 12++(k++aQ 1++[])))++[])++[])=_
 rw[Px,Tg]
 simp
theorem TU {ts:List Tr} (h:Em ts) {k:List Nat} (hk:l6 k):Zj [(1,ts),(12,[.one k 1])]:=by
 obtain⟨h1,h2,h3,h4⟩:=h
 refine⟨by simp,fun n n1 n2=>⟨rfl,fun x hx=>?_,n1,n2⟩,?_,?_⟩
 ·have e:x=(1,ts)∨x=(12,[.one k 1]):=by simpa using hx
  rcases e with e|e
  ·subst e
   exact⟨h1,h2,(by show (1 :Int)≤1;decide),(by show (1 :Int)≤999;decide)⟩
  ·subst e
   refine⟨by simp,fun u hu=>?_,(by show (1 :Int)≤12;decide),(by show (12 :Int)≤999;decide)⟩
   have e:u= .one k 1:=by simpa using hu
   subst e
   exact⟨hk,by decide,by decide⟩
 ·have:=rV hk
  rw[TR,List.length_append,List.length_append]
  show _+(3+_)≤29
  omega
 ·show (ts.flatMap (bq 1 1)++([((⟨k.toArray⟩:Str),(1 :Int)*12)]++[]++[])).length≤7
  rw[List.length_append]
  show _+1≤7
  omega
theorem TV (ts:List Tr) (k:List Nat):cW 1 [(1,ts),(12,[.one k 1])]=b8 (cW 1 [(1,ts)]) (Sum.inr ⟨k.toArray⟩) 12:=by
 have e:([(1,ts),(12,[.one k 1])]:List j5).flatMap (cA 1)=([(1,ts)]:List j5).flatMap (cA 1)++[((⟨k.toArray⟩:Str),1*12)]:=by
  show ts.flatMap (bq 1 1)++([((⟨k.toArray⟩:Str),(1 :Int)*12)]++[]++[])=(ts.flatMap (bq 1 1)++[])++_
  simp
 unfold cW a8
 rw[e,List.foldl_append]
 rfl
def K3 (k0 k1 k2:List Nat):List Key:=[Sum.inr ⟨k0.toArray⟩,Sum.inr ⟨k1.toArray⟩,Sum.inr ⟨k2.toArray⟩]
theorem few3 {k0 k1 k2:List Nat} {kvs:List (Key×V)} (hn:(kvs.map (·.1)).Nodup) (h:∀q∈kvs,q.1∈K3 k0 k1 k2):kvs.length≤3:=by
 have:(kvs.map (·.1)).length≤(K3 k0 k1 k2).length:=List.Nodup.length_le_of_subset hn fun k hk=>by
  obtain⟨q,hq,rfl⟩:=List.mem_map.mp hk
  exact h q hq
 rw[List.length_map] at this
 exact this
theorem HW {k0 k1 k2:List Nat} (h0:l6 k0) (h1:l6 k1) (h2:l6 k2) {i:Nat} (hi:i<3):∃k,l6 k∧(Sum.inr (⟨k.toArray⟩:Str):Key)∈K3 k0 k1 k2∧Ah [V.str ⟨k0.toArray⟩, .str ⟨k1.toArray⟩, .str ⟨k2.toArray⟩] (0+(i:Int))=some (V.str ⟨k.toArray⟩):=by
 match i,hi with
 |0,_=>exact⟨k0,h0,by simp [K3],rfl⟩
 |1,_=>exact⟨k1,h1,by simp [K3],rfl⟩
 |2,_=>exact⟨k2,h2,by simp [K3],rfl⟩
theorem Pz {i:Nat} (hi:i<3):∃z,0<z∧z<100∧Ah [V.int 1, .int 5, .int 25] (0+(i:Int))=some (V.int z):=by
 match i,hi with
 |0,_=>exact⟨1,by decide,by decide,rfl⟩
 |1,_=>exact⟨5,by decide,by decide,rfl⟩
 |2,_=>exact⟨25,by decide,by decide,rfl⟩
def PvM (o:Obj) (KV:List (Key×V)) (d D2:Addr) (H2:Hp):Nat→L2.St→Hp→Prop:=fun i σ H'=>∃(v:Option V) (ps:List (Addr×Key×V)),σ=[v,some (.ref d)]∧H' d=some (.fN o (.dK KV))∧H' D2=some (.lst (ps.map fun p=> .ref p.1))∧(∀p∈ps,H' p.1=some (.tup [kV p.2.1,p.2.2]))∧ps.map (·.2)=((KV.take i).map fun p=>(p.1,V.int (3*aO KV p.1)))∧∀b o',H2 b=some o'→b≠d→H' b=some o'
inductive EC (vs:List V) (H:Hp) (Q:VK) (E:XK):Prop
 |mk (c:Int) (kl:Addr) (k0 k1 k2:List Nat) (dX:vs=[.int c, .ref kl]) (dY:H kl=some (.lst [.str ⟨k0.toArray⟩, .str ⟨k1.toArray⟩, .str ⟨k2.toArray⟩])) (d8:l6 k0) (fk:l6 k1) (gG:l6 k2) (jE:∀(t:Addr) (x:Fm) H',cS x→(cW 1 x.1).length≤3→yJ H' t x→au H H'→Q (.ref t) H')
def zu:Sp:=EC
theorem dW:ax ["_law_cell","_law_kinds","_law_counts","_law_text_here","_law_k","_law_count_here","_law_charge"] ["_law_cell","_law_kinds"] (aj mW):=dB
theorem ED (D:Def K mg "_law_matter" "_law_matter" mW ["_law_cell","_law_kinds"]) (T:pN K mg C R G Pc Fo St uK uN uB uE uM uC uP uI uD uL uT) (c4:bg P w K mg base 1 "_law_figures" ["_law_count_here"] kx):
  bg P w K mg base 2 "_law_matter" ["_law_cell","_law_kinds"] zu:=by
 obtain⟨_,_,dj⟩:=c4
 refine D.di dW (fun vs H Q E h=>?_) (fun f bj A outer s H vs Q E hr h=>?_)
 ·obtain⟨c,kl,k0,k1,k2,rfl,_⟩:=h
  rfl
 ·obtain⟨c,kl,k0,k1,k2,rfl,LC,PB,okk1,okk2,q⟩:=h
  have hu:=dz hr
  have TY:=hr.oh
  have big:(2000 :Nat)≤sizeLine:=by decide
  refine⟨_,(ai
     (aB (i:=2) dW.nd rfl (Or.inr rfl) dw)
    (ai
     (aB (i:=3) dW.nd rfl (Or.inl rfl) bJ)
    (ai
     (bW PassesOwn.never rfl (gX rfl T.la (aa aq ak)) (aG (i:=4) dW.nd rfl (Or.inl rfl))
      (ai
       (aB (i:=5) dW.nd rfl (Or.inl rfl) (aE cK (aE cY (pv 0) (cE cZ (cD (aa aq (aa aq (aa aq ak)))) (pv 4) (fun _ _=>rfl))) aq))
      (ao
       (bG (aP lN (pv 5) aq (aW _))
        (ai
         (cQ hu (pv 2) (cE cZ (pv 1) (pv 4) (fun _ _=>rfl)) (aE cf (bR hu (pv 2) (cE cZ (pv 1) (pv 4) (fun _ _=>rfl)) aq ⟨rfl,rfl,rfl,rfl⟩) (pv 5)) rfl)
        (ao
         (aB (i:=3) dW.nd rfl (Or.inl rfl) (aE bu (aE bu (pv 3) (cE cZ (pv 1) (pv 4) (fun _ _=>rfl))) (aH dj.ok (hr.mono (by decide)) rfl dj.g dj.kp dj.b .nil ay (aa (pv 5) ak))))))
        aR))))
    (ai
     (aB (i:=6) dW.nd rfl (Or.inl rfl) (cE cZ (cD (aa aq (aa aq (aa aq (aa (pb kb aq) (aa aq (aa (pb kb aq) ak))))))) (aE cK (aE cY (pv 0) aq) aq) (fun _ _=>rfl)))
    (ai
     (bG (aP d7 (pv 3) bJ (aW _))
      (ao
       (aD (bP (aa bJ (aa dw (aa (pb kb aq) ak))))))
      aR)
    (ai
     (bG (aP d7 (aE cK (aE cY (pv 0) aq) aq) aq (aW _))
      (ai
       (aB (i:=3) dW.nd rfl (Or.inl rfl) (aE bu (aE bu bJ (pv 3)) bJ))
      (ao
       (aB (i:=2) dW.nd rfl (Or.inr rfl) (bK (lY rfl) rfl T.jN iC (aa (pT (fy (sc:=(aj mW)) (NX:=["_law_cell","_law_kinds","_law_counts","_law_text_here","_law_k","_law_count_here","_law_charge"]) (N:=["_law_kind_here","_law_counts"]) (fr:=[none,some 2]) ⟨by rfl,by rfl,by decide+kernel,by decide+kernel,by decide+kernel,by rfl,by decide+kernel⟩ rfl rfl rfl (cR (pv 2)) (fun _ _ _ _=>(aG (i:=0) (show (["_law_kind_here","_law_counts"]:List Str).Nodup by decide+kernel) rfl (Or.inl rfl) (Or.inr rfl))) (fun _ _ _ _=>f7) (fun _ _ _ _=>(bP (aa (pv 0) (aa (aE g8 aq (b6 hu (pv 1) (pv 0) (fun _ _=>rfl))) ak)))))) ak)))))
      aR)
    (ai
     (bG (aP d7 (aE cK (aE cY (pv 0) aq) aq) aq (aW _))
      (ai
       (aB (i:=3) dW.nd rfl (Or.inl rfl) (aE bu (aE bu (pv 3) bJ) (cE cZ (pv 1) aq (fun _ _=>rfl))))
      (ao
       (cQ hu (pv 2) (cE cZ (pv 1) aq (fun _ _=>rfl)) (aE cf (bR hu (pv 2) (cE cZ (pv 1) aq (fun _ _=>rfl)) aq ⟨rfl,rfl,rfl,rfl⟩) aq) rfl)))
      aR)
    (ai
     (bG (aP pe (pv 6) aq (aW _))
      (ao
       (aB (i:=3) dW.nd rfl (Or.inl rfl) (aE bu (aE bu (aE bu (pv 3) bJ) (aH dj.ok (hr.mono (by decide)) rfl dj.g dj.kp dj.b .nil ay (aa (bw x2 rfl T.GY F3 (aa (pv 6) ak)) ak))) (cE cZ (cD (aa bJ (aa bJ ak))) (bK n9 rfl T.yw qT (aa (iz lN (pv 6) aq (aW _)) ak)) (fun _ _=>rfl)))))
      aR)
    (ao
     (aD (bP (aa (pv 3) (aa (pv 2) (aa (pv 6) ak)))))))))))))),?_⟩
  refine fun d hd=>?_
  refine⟨_,rfl,by decide,by decide,kM (fun i σ H'=>∃(as:Cd) (v3 v4:Option V),σ=[some (.int c),some (.ref kl),some (.ref d),some (.str ⟨(as.flatMap fun a=>a.1++aQ a.2).toArray⟩),v3,v4,none]∧He as∧(∀p∈oR as,(Sum.inr p.1 :Key)∈K3 k0 k1 k2)∧as.length≤i∧H' d=some (.dK (a8 1 [] (oR as)))∧au H H') ?_ ?_ ?_⟩
  ·exact⟨[],none,none,by rw[MX];rfl,(fun a ha=>by cases ha),(fun a ha=>by cases ha),Nat.le_refl _,af,au.new hd⟩
  ·rintro i σ H' hi ⟨as,v3,v4,rfl,aU,LD,hl,fQ,e⟩
   have hi3:i<3:=by have:i< (3 :Int).toNat:=hi;omega
   obtain⟨k,hk,hkin,hka⟩:=HW PB okk1 okk2 hi3
   obtain⟨z,z0,z1,hza⟩:=Pz hi3
   have hkl':=e _ _ LC
   have sl:∀l,H' l=none→au H' (upd H' l (.lst [V.int 1, .int 5, .int 25])):=fun l hl=>au.new hl
   refine⟨_,rfl,(by show 3≤sizeLine;decide),fun l sT=>⟨_,rfl,l,_,_,V.int z,rfl,rfl,b5.of af,hza,_,_,rfl,rfl,⟨z0,by omega⟩,_,_,rfl,rfl,(by show (0 :Int) <5;decide),?_⟩⟩
   have e2:=e.trans (sl l sT)
   have hd2:=sl l sT _ _ fQ
   have LF:=sl l sT _ _ hkl'
   have m0:0≤c/z%5:=Int.emod_nonneg _ (by decide)
   have m1:c/z%5<5:=Int.emod_lt_of_pos _ (by decide)
   dsimp only [du]
   generalize c/z%5=m at m0 m1 ⊢
   generalize upd H' l (.lst [V.int 1, .int 5, .int 25])=H2 at e2 hd2 LF ⊢
   refine⟨_,rfl,_,_,rfl,rfl,_,rfl,fM (fun em=>?_) fun _=>⟨as,_,_,rfl,aU,LD,by omega,hd2,e2⟩⟩
   have em:0<m:=by simpa using em
   have za:=lu aU
   have zk:=rV hk
   have zm:=ia (n:=m) (by omega) (by omega)
   have hI:bx (a8 1 [] (oR as)):=iI 1 _ _ fun p hp=>by cases hp
   have mr:=iJ 1 (oR as) []
   have Zm:(oR as).length=as.length:=by unfold oR;rw[List.length_map]
   rw[List.length_nil] at mr
   refine⟨_,rfl,d,rfl, .inl ⟨_, .inl hd2⟩,_,rfl,_,rfl,kl,_,_,_,rfl,rfl,b5.of LF,hka,_,gj.k (k:=Sum.inr ⟨k.toArray⟩) hd2,_,rfl,_,_,hI.at _,rfl,_,rfl,_,rfl,_,rfl,kl,_,_,_,rfl,rfl,b5.of LF,hka,d,_,rfl,jf.k (k:=Sum.inr ⟨k.toArray⟩) hd2 (by omega),?_⟩
   have nkd:kl≠d:=ag LC hd
   have Rk:(upd H2 d (.dK (putK (a8 1 [] (oR as)) (Sum.inr ⟨k.toArray⟩) (.int (aO (a8 1 [] (oR as)) (Sum.inr ⟨k.toArray⟩)+m))))) kl=some (.lst [.str ⟨k0.toArray⟩, .str ⟨k1.toArray⟩, .str ⟨k2.toArray⟩]):=by rw[ah nkd];exact LF
   refine⟨_,rfl,_,rfl,_,rfl,kl,_,_,_,rfl,rfl,b5.of Rk,hka,_,_,rfl,rfl,by rw[bo,bo];omega,_,rfl,m,rfl,by omega,by omega,_,_,rfl,rfl,by rw[bz,bo,bo];omega,?_⟩
   refine⟨as++[(k,m)],some (.int (0+(i:Int))),some (.int m),?_,?_,?_,?_,?_,?_⟩
   ·have ex:(⟨(as.flatMap fun a=>a.1++aQ a.2).toArray⟩:Str)++⟨k.toArray⟩++fj m=⟨((as++[(k,m)]).flatMap fun a=>a.1++aQ a.2).toArray⟩:=by
     rw[de,bE,bE,List.flatMap_append,List.flatMap_cons,List.flatMap_nil,List.append_nil,List.append_assoc]
    rw[←ex]
    rfl
   ·intro a ha
    rcases List.mem_append.mp ha with ha|ha
    ·exact aU a ha
    ·have ea:a=(k,m):=by simpa using ha
     subst ea
     exact⟨hk,by omega,by omega⟩
   ·intro p hp
    unfold oR at hp
    rw[List.map_append] at hp
    rcases List.mem_append.mp hp with hp|hp
    ·exact LD p hp
    ·have ep:p=((⟨k.toArray⟩:Str),m):=by simpa using hp
     rw[ep]
     exact hkin
   ·rw[List.length_append]
    show as.length+1≤i+1
    omega
   ·rw[af]
    have ec:a8 1 [] (oR (as++[(k,m)]))=b8 (a8 1 [] (oR as)) (Sum.inr ⟨k.toArray⟩) (m*1):=by
     unfold oR a8
     rw[List.map_append,List.foldl_append]
     rfl
    rw[ec,Int.mul_one]
    rfl
   ·intro b o z
    rw[ah (ag z hd)]
    exact e2 _ _ z
  ·rintro σ H' ⟨as,v3,v4,rfl,aU,LD,hl,fQ,e⟩
   have l3:as.length≤3:=hl
   have mr:=e _ _ LC
   have za:=lu aU
   have d0:0≤c/125%6:=Int.emod_nonneg _ (by decide)
   have d1:c/125%6<6:=Int.emod_lt_of_pos _ (by decide)
   obtain⟨v,hv,Lf⟩:=vL (xs:=[V.int 0,V.int 0,V.int 1,V.int (-1),V.int 2,V.int (-14)]) d0 d1
   have hc:∃n,v=V.int n∧ -99≤n∧n≤99:=by
    simp only [List.mem_cons,List.not_mem_nil,or_false] at hv
    rcases hv with rfl|rfl|rfl|rfl|rfl|rfl<;>exact⟨_,rfl,by decide,by decide⟩
   obtain⟨n,rfl,n1,n2⟩:=hc
   refine⟨1,rfl,14,rfl,(by show 6≤sizeLine;decide),fun l sT=>⟨_,rfl,_,_,rfl,rfl,⟨by decide,by decide⟩,_,_,rfl,rfl,(by show (0 :Int) <6;decide),l,_,_,V.int n,rfl,rfl,b5.of af,Lf,?_⟩⟩
   have sl:=au.new (o:= .lst [V.int 0,V.int 0,V.int 1,V.int (-1),V.int 2,V.int (-14)]) sT
   have e1:=e.trans sl
   have Ff:=sl _ _ fQ
   have T1:=sl _ _ mr
   dsimp only [du]
   generalize upd H' l (.lst [V.int 0,V.int 0,V.int 1,V.int (-1),V.int 2,V.int (-14)])=H1 at e1 Ff T1 ⊢
   refine⟨_,rfl,rfl,_,rfl,fM (fun et=>?_) fun et=>?_⟩
   ·refine fun d3 JL=>⟨1,rfl,(by show 3≤sizeLine;decide),fun t ht=>?_⟩
    have e0:("e^-" :Str)=⟨(fL ([], -1)).toArray⟩:=by decide+kernel
    refine q t ([], -1) _ ⟨rfl,(by show 3≤33;decide),(by show 0≤7;decide)⟩ (by show 0≤3;decide) ⟨d3,?_,?_⟩ (e1.trans ((au.new JL).trans (au.new ht)))
    ·rw[af,←e0]
    ·rw[ah (ag af ht),af]
     rfl
   have l1:1≤as.length:=by
    cases as with
    |nil=>exact absurd (by rw[MX];decide) et
    |cons a r=>rw[List.length_cons];omega
   have hkc:∀c:Int,∀q∈a8 c [] (oR as),q.1∈K3 k0 k1 k2:=fun c=>lA (Pk:=fun j=>j∈K3 k0 k1 k2) c (oR as) [] (fun q hq=>by cases hq) LD
   dsimp only [Bv]
   refine iD (fun σ' H'=>∃(ts:List Tr) (d':Addr),σ'=[some (.int c),some (.ref kl),some (.ref d'),some (.str ⟨(ts.flatMap (cn 1)).toArray⟩),v3,v4,some (.int n)]∧Em ts∧(∀q∈cW 1 [(1,ts)],q.1∈K3 k0 k1 k2)∧H d'=none∧H' d'=some (.dK (cW 1 [(1,ts)]))∧au H H') (fun N hN=>?_) ?_
   ·refine⟨_,rfl,_,_,rfl,rfl,⟨by decide,by decide⟩,_,_,rfl,rfl,(by show (0 :Int) <4;decide),rfl,_,rfl,fM (fun _=>?_) fun _=>?_⟩
    ·have l40:("(" :Str).length=1:=by decide+kernel
     have l41:(")3" :Str).length=2:=by decide+kernel
     refine⟨_,rfl,_,_,rfl,rfl,by rw[l40,bo];omega,_,_,rfl,rfl,by rw[bz,l40,l41,bo];omega,?_⟩
     refine⟨_,rfl,d,_,rfl,Ff,fun o nf D2 JM=>?_⟩
     have hI:bx (a8 1 [] (oR as)):=iI 1 _ _ fun p hp=>by cases hp
     have hn:((a8 1 [] (oR as)).map (·.1)).Nodup:=wu 1 _ _ List.nodup_nil
     have mr:=iJ 1 (oR as) []
     have Zm:(oR as).length=as.length:=by unfold oR;rw[List.length_map]
     rw[List.length_nil] at mr
     generalize hK:a8 1 [] (oR as)=KV at Ff hI hn mr
     have Lq:D2≠d:=fun z=>by rw[z,af] at JM;cases JM
     have Tp:H1 D2=none:=by rwa [ah Lq] at JM
     have gen:∀i σ H',PvM o KV d D2 H1 i σ H'→H' d=some (.fN o (.dK KV)):=fun i σ H' ⟨_,_,_,z,_⟩=>z
     refine kT (a:=d) (D:=D2) (kvs:=KV) (PvM o KV d D2 H1) ?_ gen ?_ ?_
     ·exact⟨none,[],rfl,by rw[ah (Ne.symm Lq),af],af,(fun p hp=>by cases hp),rfl,fun b o' z hb=>by rw[ah (ag z Tp),ah hb];exact z⟩
     ·rintro i k v σ H' hi ⟨v',ps,rfl,f1,f2,f3,f4,f5⟩ N hN
      have hv:=hI.dN (List.mem_of_getElem? hi)
      have iX:ps.length≤3:=by
       have:=congrArg List.length f4
       rw[List.length_map,List.length_map,List.length_take] at this
       omega
      refine⟨_,rfl,_,rfl,_,rfl,d,V.int (aO KV k),rfl, .inl ⟨_,k, .inr ⟨o,f1⟩,rfl,hv.symm⟩,_,_,rfl,rfl, .inl ⟨by decide,by decide⟩,(by show 2≤sizeLine;decide),fun t ht=>?_⟩
      have Tq:D2≠t:=ag f2 ht
      have ndt:d≠t:=ag f1 ht
      refine⟨_,by rw[ah Tq];exact f2,by rw[List.length_map];omega,hN _ _ ⟨_,ps++[(t,k,V.int (3*aO KV k))],rfl,?_,?_,?_,?_,?_⟩⟩
      ·rw[ah (Ne.symm Lq),ah ndt];exact f1
      ·rw[af,List.map_append];rfl
      ·intro p hp
       rcases List.mem_append.mp hp with hp|hp
       ·have p1:=f3 p hp
        rw[ah (cI p1 f2 (by intro z;cases z)),ah (ag p1 ht)]
        exact p1
       ·have e':p=(t,k,V.int (3*aO KV k)):=by simpa using hp
        subst e'
        rw[ah (Ne.symm Tq)];exact af
      ·rw[List.map_append,f4,take_snoc hi,List.map_append]
       rfl
      ·intro b o' e' hb
       rw[ah (ag e' Tp),ah (ag (f5 b o' e' hb) ht)]
       exact f5 b o' e' hb
     rintro σ H' ⟨v',ps,rfl,f1,f2,f3,f4,f5⟩
     rw[List.take_length] at f4
     refine⟨d,o,KV,f1,nf,D2,ps,rfl,by rw[ah Lq];exact f2,fun p hp=>by rw[ah (cI (f3 p hp) f1 (by intro z;cases z))];exact f3 p hp,fun w hw=>?_⟩
     have e8:cu [] (ps.map (·.2))=scale 3 KV:=by
      rw[f4,nF _ [] (by rw[List.nil_append,List.map_map];exact hn),List.nil_append,uJ hI hn]
     have Ts:au H1 (upd H' d (.dK KV)):=fun b o' e=>by
      by_cases z:b=d
      ·subst z
       rw[af]
       exact Ff.symm.trans e
      ·rw[ah z];exact f5 b o' e z
     have s8:au H1 (upd (upd H' d (.dK KV)) w (.dK (cu [] (ps.map (·.2))))):=Ts.trans (au.new hw)
     refine hN _ _ ⟨[.gr (as.map aT) 3],w,?_,Pb aU l1 l3 (by decide) (by decide),?_,none_back (e1.trans Ts) hw,?_,e1.trans s8⟩
     ·have ex:("(" :Str)++(⟨(as.flatMap fun a=>a.1++aQ a.2).toArray⟩:Str)++")3" =⟨([Tr.gr (as.map aT) 3].flatMap (cn 1)).toArray⟩:=by
       rw[MU,fig3,OY,e413,show (⟨#[40]⟩:Str)=⟨[40].toArray⟩ from rfl,bE,bE]
       simp
      rw[←ex]
      rfl
     ·rw[MW,hK,←uJ hI hn]
      intro q hq
      obtain⟨p,hp,rfl⟩:=List.mem_map.mp hq
      exact hkc 1 p (by rw[hK];exact hp)
     ·rw[af,MW,hK,e8]
    ·refine hN _ _ ⟨as.map aT,d,by rw[oS];rfl,Hg aU l1 l3,by rw[MT];exact hkc 1,hd,by rw[MT];exact Ff,e1⟩
   rintro σ' H4 ⟨ts,d4,rfl,LG,xP,hd40,GZ,e4⟩
   have hk4:=e4 _ _ LC
   have z1:=LG.2.2.1
   refine iD (fun σ' H'=>∃xs:List j5,σ'=[some (.int c),some (.ref kl),some (.ref d4),some (.str ⟨(wL 1 xs 0).toArray⟩),v3,v4,some (.int n)]∧Zj xs∧(∀q∈cW 1 xs,q.1∈K3 k0 k1 k2)∧H' d4=some (.dK (cW 1 xs))∧au H H') (fun N hN=>?_) ?_
   ·refine⟨_,rfl,_,_,rfl,rfl,⟨by decide,by decide⟩,_,_,rfl,rfl,(by show (0 :Int) <4;decide),rfl,_,rfl,fM (fun _=>?_) fun _=>?_⟩
    ·have l12:(".12" :Str).length=3:=by decide+kernel
     have zk:=rV PB
     have hI:=wY [(1,ts)]
     have hl:=A0 (Hh LG).2.2.2
     have ha0:Ah [V.str ⟨k0.toArray⟩, .str ⟨k1.toArray⟩, .str ⟨k2.toArray⟩] 0=some (V.str ⟨k0.toArray⟩):=rfl
     refine⟨_,rfl,_,_,rfl,rfl,by rw[l12,bo];omega,_,rfl,kl,_,_,_,rfl,rfl,b5.of hk4,ha0,_,_,rfl,rfl,by rw[bz,l12,bo,bo];omega,?_⟩
     refine⟨_,rfl,d4,rfl, .inl ⟨_, .inl GZ⟩,_,rfl,kl,_,_,_,rfl,rfl,b5.of hk4,ha0,_,gj.k (k:=Sum.inr ⟨k0.toArray⟩) GZ,_,_,hI.at _,rfl,_,rfl,_,rfl,kl,_,_,_,rfl,rfl,b5.of hk4,ha0,d4,_,rfl,jf.k (k:=Sum.inr ⟨k0.toArray⟩) GZ (by omega),?_⟩
     refine hN _ _ ⟨[(1,ts),(12,[.one k0 1])],?_,TU LG PB,?_,?_,fun b o z=>?_⟩
     ·have ex:(⟨(ts.flatMap (cn 1)).toArray⟩:Str)++".12" ++⟨k0.toArray⟩=⟨(wL 1 [(1,ts),(12,[.one k0 1])] 0).toArray⟩:=by
       rw[TR,zW,bE,bE]
       simp
      rw[←ex]
      rfl
     ·rw[TV]
      intro q hq
      rcases qo hq with hq|hq
      ·exact xP q hq
      ·rw[hq];simp [K3]
     ·rw[af,TV]
      rfl
     ·rw[ah (ag z hd40)]
      exact e4 _ _ z
    ·exact hN _ _ ⟨[(1,ts)],by rw[Ti],Hh LG,xP,GZ,e4⟩
   rintro σ' H5 ⟨xs,rfl,okb,hxk,hd5,e5⟩
   have zb:=okb.2.2.1
   refine iD (fun σ' H'=>σ'=[some (.int c),some (.ref kl),some (.ref d4),some (.str ⟨(wL 1 xs n).toArray⟩),v3,v4,some (.int n)]∧H' d4=some (.dK (cW 1 xs))∧au H H') (fun N hN=>?_) ?_
   ·refine⟨_,rfl,rfl,_,rfl,fM (fun e=>?_) fun e=>?_⟩
    ·have e:¬n=0:=by simpa using e
     have a1:1≤(if n<0 then -n else n):=by split<;>omega
     have a2:(if n<0 then -n else n)≤999:=by split<;>omega
     have z:=ia a1 a2
     have g1:("^" :Str).length=1:=by decide+kernel
     have g2:(if 0<n then ("+" :Str) else ("-" :Str)).length=1:=by split<;>decide+kernel
     refine⟨_,rfl,_,_,rfl,rfl,by rw[g1,bo];omega,_,rfl,n,rfl,_,rfl,a1,a2,_,_,rfl,rfl,by rw[bz,g1,bo];omega,(by show 2≤sizeLine;decide),fun y hy=>⟨_,rfl,_,_,rfl,rfl, .inr ⟨_,rfl,y,_,_,V.str _,rfl,rfl,b5.of af,Pd n,_,_,rfl,rfl,?_,hN _ _ ⟨?_,?_,e5.trans (au.new hy)⟩⟩⟩⟩
     ·rw[bz,bz,bo,g1,g2]
      omega
     ·have ex:(⟨(wL 1 xs 0).toArray⟩:Str)++"^" ++fj (if n<0 then -n else n)++(if 0<n then ("+" :Str) else ("-" :Str))=⟨(wL 1 xs n).toArray⟩:=by
       rw[Tf okb.1 n,←bE,Lj e,←t8,←t8]
      rw[←ex]
      rfl
     ·rw[ah (ag hd5 hy)]
      exact hd5
    ·have e:n=0:=by simpa using e
     subst e
     exact hN _ _ ⟨rfl,hd5,e5⟩
   rintro σ' H6 ⟨rfl,T2,e6⟩
   exact⟨_,rfl,_,rfl,_,rfl,(by show 3≤sizeLine;decide),fun t ht=>q t (xs,n) _ (MY okb n1 n2) (few3 (iO _) hxk) ⟨d4,af,by rw[ah (ag T2 ht)];exact T2⟩ (e6.trans (au.new ht))⟩
variable {HE Sh:Addr}
structure LH (K:PySem.W.Frag) (mg:Str→Option Value) (HE Sh:Addr):Prop where
 pB:mg "HallError" =some (.ref HE)
 xp:MM K HE
 xq:PySem.W.KA K HE
 LI:mg "Short" =some (.ref Sh)
 PD:PySem.W.takerIn K Sh "step" =some none
 PJ:PySem.W.takerIn K Sh "turn" =some none
 EE:PySem.W.takerIn K Sh "formula" =some none
 PK:PySem.W.takerIn K Sh "lack" =some none
 xr:PySem.W.findIn K (.ref Sh) "step" =some none
 xt:PySem.W.findIn K (.ref Sh) "turn" =some none
 u7:PySem.W.findIn K (.ref Sh) "formula" =some none
 xu:PySem.W.findIn K (.ref Sh) "lack" =some none
 dF:XIs K Sh
 zw:PySem.W.mroIn K Sh (.ref HE)=some true
def Fs (st tn:Int) (x:Str) (lk:Int):List (Str×V):=cL "lack" (.int lk) (cL "formula" (.str x) (cL "turn" (.int tn) [("step", .int st)]))
inductive HX (Sh:Addr) (vs:List V) (H:Hp) (Q:VK) (E:XK):Prop
 |mk (e:Addr) (st tn:Int) (x:Str) (lk:Int) (dX:vs=[.ref e, .int st, .int tn, .str x, .int lk]) (dY:H e=some (tW e Sh none)) (d8:0≤st) (fk:st<10^50) (gG:0≤tn) (jE:tn<10^50) (oG:x.length≤100) (sV:0≤lk) (B0:lk<10^50) (K1:∀dx H',H dx=none→dx≠e→H' e=some (tW e Sh (some dx))→H' dx=some (zR dx (Fs st tn x lk))→(∀b o,H b=some o→b≠e→H' b=some o)→Q .cU H')
def CC (Sh:Addr):Sp:=HX Sh
theorem LJ:ax ["self","step","turn","formula","lack"] ["self","step","turn","formula","lack"] (aj wc):=dB
theorem HY (D:Gv K mg "Short" Sh HE "Short.__init__" wc ["self","step","turn","formula","lack"]) (T:LH K mg HE Sh):Az P w K mg base 1 "Short" Sh HE ["self","step","turn","formula","lack"] (CC Sh):=by
 obtain⟨f0,_,_,Z,_⟩:=id D
 refine D.di LJ (fun vs H Q E h=>?_) (fun f bj A outer s H vs Q E hr h=>?_)
 ·obtain⟨e,st,tn,x,lk,rfl,_⟩:=h
  rfl
 ·obtain⟨e,st,tn,x,lk,rfl,he,s0,s1,t0,t1,hx,l0,l1,q⟩:=h
  have big:(2000 :Nat)≤sizeLine:=by decide
  have z1:=nG s0 s1
  have z2:=nG t0 t1
  have z3:=nG l0 l1
  refine⟨_,(ai
     (bB (Gj rfl T.pB T.xp (pv 0) (Kz (iE bJ (iE (vU (pv 1)) (iE bJ (iE (vU (pv 2)) (iE bJ (iE (vU (pv 3)) (iE bJ (iE (vU (pv 4)) OH)))))))))))
    (ai
     (pW (pv 0) (pv 1) rfl)
    (ai
     (pW (pv 0) (pv 2) rfl)
    (ai
     (pW (pv 0) (pv 3) rfl)
    (ao
     (pW (pv 0) (pv 4) rfl)))))),?_⟩
  have y1:("step " :Str).length=5:=by decide+kernel
  have y2:(", turn " :Str).length=7:=by decide+kernel
  have y3:(": of " :Str).length=5:=by decide+kernel
  have y4:(" there lacks " :Str).length=13:=by decide+kernel
  have y0:(Str.empty).length=0:=rfl
  refine⟨_,rfl,_,rfl,?_,_,rfl, .inl ⟨_,rfl,qh s0 s1,_,rfl,?_,_,rfl,?_,_,rfl, .inl ⟨_,rfl,qh t0 t1,_,rfl,?_,_,rfl,?_,_,rfl, .inr ⟨_,rfl,by omega,_,rfl,?_,_,rfl,?_,_,rfl, .inl ⟨_,rfl,qh l0 l1,_,rfl,?_,?_,e,Sh,HE,f0,none,rfl,Z,he,?_⟩⟩⟩⟩⟩
  any_goals (simp only [bz,y0,y1,y2,y3,y4];omega)
  refine⟨_,rfl,_,rfl,e,Sh,HE,f0,rfl,Z,T.PD, .inl ⟨he,fun dx qp JN=>?_⟩⟩
  have h1:(upd (upd H dx (zR dx [("step", .int st)])) e (tW e Sh (some dx))) e=some (tW e Sh (some dx)):=af
  have h2:(upd (upd H dx (zR dx [("step", .int st)])) e (tW e Sh (some dx))) dx=some (zR dx [("step", .int st)]):=by rw[ah JN,af]
  refine⟨_,rfl,_,rfl,e,Sh,HE,f0,rfl,Z,T.PJ, .inr ⟨dx,_,h1,h2,(by show 1<1000;decide),?_⟩⟩
  refine⟨_,rfl,_,rfl,e,Sh,HE,f0,rfl,Z,T.EE, .inr ⟨dx,_,by rw[ah (Ne.symm JN)];exact h1,af,Nat.lt_of_le_of_lt (gi _ _ _) (by show 1+1<1000;decide),?_⟩⟩
  refine⟨_,rfl,_,rfl,e,Sh,HE,f0,rfl,Z,T.PK, .inr ⟨dx,_,by rw[ah (Ne.symm JN),ah (Ne.symm JN)];exact h1,af,Nat.lt_of_le_of_lt (gi _ _ _) (Nat.lt_of_le_of_lt (Nat.add_le_add_right (gi _ _ _) 1) (by show 1+1+1<1000;decide)),?_⟩⟩
  refine q dx _ qp JN (by rw[ah (Ne.symm JN),ah (Ne.symm JN),ah (Ne.symm JN)];exact h1) af fun b o z nb=>?_
  have Zt:=ag z qp
  rw[ah Zt,ah Zt,ah Zt,ah nb,ah Zt]
  exact z
variable {uC uP uI uD uL uT eW eX eY uG uS:Tok} {Ch HE Sh:Addr}
def xT (a t g:Int):Option Int:=if a<t then some 0 else if 0≤g then none else some ((a - t) /(-g)+1)
def eU:List (Option Int)→Option Int
 | []=>none
 |none::r=>eU r
 |some i::r=>match eU r with
  |none=>some i
  |some j=>some (if j<i then j else i)
def aA (xs:List Tm):List (Key×V):=a8 1 [] (fK xs)
def u9 (am:List (Key×V)) (xs ys:List Tm):Option Int:=eU ((aA xs).map fun q=>xT (aO am q.1) (aO (aA xs) q.1) (aO (iP xs ys) q.1))
def dP (am:List (Key×V)) (xs ys:List Tm) (m:Int):List (Key×V):=d6 m am (iP xs ys) (iP xs ys)
def dh (th tk:List (Key×V)):List (Key×V)→Option (Key×Int)
 | []=>none
 |q::r=>if 0<aO tk q.1 - aO th q.1 then some (q.1,aO tk q.1 - aO th q.1) else dh th tk r
theorem eV (th tk:List (Key×V)) (q:Key×V) (r:List (Key×V)):dh th tk (q::r)=if 0<aO tk q.1 - aO th q.1 then some (q.1,aO tk q.1 - aO th q.1) else dh th tk r:=rfl
def oV:Option Int→V
 |none=> .cU
 |some i=> .int i
def Zu (xs ys:List Tm):Prop:=∀k, -(2^62) <aO (iP xs ys) k∧aO (iP xs ys) k<2^62
inductive LK (C G Pc Fo Ch:Addr) (vs:List V) (H:Hp) (Q:VK) (E:XK):Prop
 |mk (c am:Addr) (xs ys:List Tm) (kvs:List (Key×V)) (dX:vs=[.ref c, .ref am]) (dY:dC C G Pc Fo Ch H c xs ys) (d8:(∀x∈xs,cS x.2)) (fk:(∀y∈ys,cS y.2)) (gG:xs.length≤20) (jE:ys.length≤20) (oG:Zu xs ys) (sV:H am=some (.dK kvs)) (B0:bx kvs) (K1:∀H',au H H'→Q (oV (u9 kvs xs ys)) H')
def HZ (C G Pc Fo Ch:Addr):Sp:=LK C G Pc Fo Ch
inductive EF (C G Pc Fo Ch:Addr) (vs:List V) (H:Hp) (Q:VK) (E:XK):Prop
 |mk (c am:Addr) (m:Int) (xs ys:List Tm) (kvs:List (Key×V)) (dX:vs=[.ref c, .int m, .ref am]) (dY:dC C G Pc Fo Ch H c xs ys) (d8:(∀x∈xs,cS x.2)) (fk:(∀y∈ys,cS y.2)) (gG:xs.length≤20) (jE:ys.length≤20) (oG:Zu xs ys) (sV:H am=some (.dK kvs)) (B0:bx kvs) (K1:kvs.length≤900) (EG:∀e H',H e=none→H' e=some (.dK (dP kvs xs ys m))→au H H'→Q (.ref e) H')
def sv (C G Pc Fo Ch:Addr):Sp:=EF C G Pc Fo Ch
def ck (am:List (Key×V)) (xs ys:List Tm) (m:Int):Option (Int×Key×Int):=match u9 am xs ys with
 |none=>none
 |some t=>if m≤t then none else (dh (dP am xs ys t) (aA xs) (aA xs)).map fun p=>(t,p.1,p.2)
inductive EH (C G Pc Fo Ch Sh:Addr) (vs:List V) (H:Hp) (Q:VK) (E:XK):Prop
 |mk (c am:Addr) (m st:Int) (xs ys:List Tm) (kvs:List (Key×V)) (dX:vs=[.ref c, .int m, .ref am, .int st]) (dY:dC C G Pc Fo Ch H c xs ys) (d8:(∀x∈xs,cS x.2)) (fk:(∀y∈ys,cS y.2)) (gG:xs.length≤20) (jE:ys.length≤20) (oG:Zu xs ys) (sV:H am=some (.dK kvs)) (B0:bx kvs) (K1:kvs.length≤900) (EG:0≤st) (LL:st<10^50) (PL:(∀t k l,ck kvs xs ys m=some (t,k,l)→0≤t+1∧t+1<10^50∧0≤l∧l<10^50)) (PM:(ck kvs xs ys m=none→∀H',au H H'→Q .cU H')) (T3:(∀t (x:Str) l e dx H',ck kvs xs ys m=some (t,Sum.inr x,l)→H' e=some (Ar e Sh (some dx))→H' dx=some (zR dx (Fs st (t+1) x l))→H e=none→H dx=none→au H H'→E (.ref Sh) (some dx) H'))
def zx (C G Pc Fo Ch Sh:Addr):Sp:=EH C G Pc Fo Ch Sh
theorem dI:ax ["change","times","amounts","step","turns","there","taken","text","lack"] ["change","times","amounts","step"] (aj gQ):=dB
theorem EI (D:Def K mg "refuse_short" "refuse_short" gQ ["change","times","amounts","step"]) (T:nH K mg C R G Pc Fo Ch uK uN uB uE uM uC uP uI uD uL uT eW eX eY uG uS) (TE:LH K mg HE Sh) (c1:bg P w K mg base 10 "most_turns" ["change","amounts"] (HZ C G Pc Fo Ch)) (c2:bg P w K mg base 10 "turned" ["change","times","amounts"] (sv C G Pc Fo Ch)) (c3:bg P w K mg base 8 "side_counts" ["terms"] (gT C G Pc Fo)) (c4:Az P w K mg base 1 "Short" Sh HE ["self","step","turn","formula","lack"] (CC Sh)):
  Gs P w K mg base 11 "refuse_short" ["change","times","amounts","step"] (zx C G Pc Fo Ch Sh):=by
 obtain⟨_,_,gU⟩:=c1
 obtain⟨_,_,fI⟩:=c2
 obtain⟨_,_,a0⟩:=c3
 obtain⟨_,_,lB⟩:=c4
 refine D.Gu dI (fun vs H Q E h=>?_) (fun f bj A outer s H vs Q E hr h=>?_)
 ·obtain⟨c,am,m,st,xs,ys,kvs,rfl,_⟩:=h
  rfl
 ·obtain⟨c,am,m,st,xs,ys,kvs,rfl,hC,hx,hy,lx,ly,hG,xv,hI,hl,st0,st1,hb,q,qE⟩:=h
  have hu:=dz hr
  have big:(2000 :Nat)≤sizeLine:=by decide
  refine⟨_,(ai
     (aB (i:=4) dI.nd rfl (Or.inl rfl) (aH gU.ok (hr.mono (by decide)) rfl gU.g gU.kp gU.b .nil ay (aa (pv 0) (aa (pv 2) ak))))
    (ai
     (bG (PW.pt (iy (qA (qz (pv 4))) (j9 (aP Mx (pv 1) (pv 4) (aW _)))))
      (ao
       JV)
      aR)
    (ai
     (aB (i:=5) dI.nd rfl (Or.inl rfl) (aH fI.ok (hr.mono (by decide)) rfl fI.g fI.kp fI.b .nil ay (aa (pv 0) (aa (pv 4) (aa (pv 2) ak)))))
    (ai
     (aB (i:=6) dI.nd rfl (Or.inl rfl) (aH a0.ok (hr.mono (by decide)) rfl a0.g a0.kp a0.b .nil ay (aa (a5 (pv 0) rfl) ak)))
    (ao
     (dJ (bW Ge rfl (cR (pv 6)) (aG (i:=7) dI.nd rfl (Or.inl rfl))
      (ai
       (aB (i:=8) dI.nd rfl (Or.inl rfl) (aE ka (b6 hu (pv 6) (pv 7) (fun _ _=>rfl)) (bR hu (pv 5) (pv 7) aq ⟨rfl,rfl,rfl,rfl⟩)))
      (ao
       (bG (aP lN (pv 8) aq (aW _))
        (ao
         (Gi rfl vT (Gh lB.z lB.ok (hr.mono (by decide)) rfl lB.g lB.kp lB.b (aa (pv 3) (aa (aE cf (pv 4) aq) (aa (pv 7) (aa (pv 8) ak)))))))
        aR)))))))))),?_⟩
  refine⟨_,rfl,_,rfl,c,am,xs,ys,kvs,rfl,hC,hx,hy,lx,ly,hG,xv,hI,fun H1 e1=>?_⟩
  cases hm:u9 kvs xs ys with
  |none=>
   have hs:ck kvs xs ys m=none:=by unfold ck;rw[hm]
   refine⟨_,rfl,_,rfl,ix ?_⟩
   exact q hs _ e1
  |some t=>
   refine⟨_,rfl,_,rfl,cH ⟨_,rfl,_,rfl,_,_,rfl,rfl,_,rfl,fM (fun em=>?_) fun em=>?_⟩⟩
   ·have em:m≤t:=by simpa using em
    have hs:ck kvs xs ys m=none:=by unfold ck;rw[hm];simp [em]
    exact q hs _ e1
   have em:¬m≤t:=by simpa using em
   have hs:ck kvs xs ys m=(dh (dP kvs xs ys t) (aA xs) (aA xs)).map fun p=>(t,p.1,p.2):=by unfold ck;rw[hm];simp [em]
   refine⟨_,rfl,_,rfl,_,rfl,c,am,t,xs,ys,kvs,rfl,hC.same e1,hx,hy,lx,ly,hG,e1 _ _ xv,hI,hl,fun th H2 nth M8 e2=>?_⟩
   have zW:=e1.trans e2
   obtain⟨dx,l,r,hc,hl',Ft⟩:=id hC
   refine⟨_,rfl,c,Ch,dx,_,_,rfl,zW _ _ hc,T.b9,T.ib,eZ _ _,l,xs,rfl,hl'.same zW,hx,lx,fun tk H3 M9 xP e3=>?_⟩
   have xP:H3 tk=some (.dK (aA xs)):=xP
   have Rp:=zW.trans e3
   have hth3:=e3 _ _ M8
   have hIt:bx (dP kvs xs ys t):=df _ _ _ _ hI
   have Rt:bx (aA xs):=cC _
   have Zv:H tk=none:=none_back zW M9
   have nht:th≠tk:=ag M8 M9
   have hinr:∀p∈aA xs,∃s:Str,p.1=Sum.inr s∧s.length≤100:=by
    refine lA (Pk:=fun j=>∃s:Str,j=Sum.inr s∧s.length≤100) 1 _ [] (fun q hq=>by cases hq) fun p hp=>?_
    obtain⟨z,hz,rfl⟩:=List.mem_map.mp hp
    have:=(hx z hz).2.1
    exact⟨_,rfl,by rw[bo];omega⟩
   dsimp only [du]
   refine⟨_,rfl,tk,aA xs,rfl,xP,fun o nf=>dA nf (fun i σ H'=>∃v7 v8:Option V,σ=[some (.ref c),some (.int m),some (.ref am),some (.int st),some (.int t),some (.ref th),some (.ref tk),v7,v8]∧H'=H3∧dh (dP kvs xs ys t) (aA xs) ((aA xs).drop i)=dh (dP kvs xs ys t) (aA xs) (aA xs)) ⟨none,none,rfl,rfl,rfl⟩ (fun i σ H' ⟨_,_,_,z,_⟩=>by rw[z];exact xP) ?_ ?_⟩
   ·rintro i k v σ H' hi ⟨v7,v8,rfl,rfl,va⟩
    have hv:=Rt.dN (List.mem_of_getElem? hi)
    have T4:(upd H' tk (.fN o (.dK (aA xs)))) th=some (.dK (dP kvs xs ys t)):=by rw[ah nht];exact hth3
    have yi:=(List.getElem?_eq_some_iff.mp hi).1
    have JH:(aA xs).drop i=(k,v)::(aA xs).drop (i+1):=by
     rw[List.drop_eq_getElem_cons yi]
     congr 1
     exact(List.getElem?_eq_some_iff.mp hi).2
    refine⟨_,rfl,_,rfl,tk,V.int (aO (aA xs) k),rfl, .inl ⟨_,k, .inr ⟨o,af⟩,rfl,hv.symm⟩,_,rfl,th,rfl, .inl ⟨_, .inl T4⟩,_,rfl,_,gj.k (k:=k) T4,?_⟩
    rw[hIt.at k]
    refine⟨_,_,rfl,rfl,?_⟩
    refine⟨_,rfl,_,_,rfl,rfl,_,rfl,fM (fun ec=>?_) fun ec=>?_⟩
    ·have ec:0<aO (aA xs) k - aO (dP kvs xs ys t) k:=by simpa using ec
     rw[JH,eV,if_pos ec] at va
     obtain⟨x,ex,rO⟩:=hinr _ (List.mem_of_getElem? hi)
     have ex:k=Sum.inr x:=ex
     subst ex
     have FZ:ck kvs xs ys m=some (t,Sum.inr x,aO (aA xs) (Sum.inr x) - aO (dP kvs xs ys t) (Sum.inr x)):=by rw[hs,←va];rfl
     obtain⟨b1,b2,b3,b4⟩:=hb _ _ _ FZ
     refine⟨_,rfl,_,rfl,_,_,rfl,rfl,_,rfl,_,rfl,(by show 4≤100;decide),fun e he=>?_⟩
     have s4:au H (upd H' tk (.fN o (.dK (aA xs)))):=fun b o' z=>by rw[ah (ag z Zv)];exact Rp _ _ z
     have s5:=s4.trans (au.new (o:=tW e Sh none) he)
     refine⟨e,st,t+1,x,_,rfl,af,st0,st1,b1,b2,rO,b3,b4,fun dQ H5 qp JN h5e h5d k5=>⟨rfl,?_⟩⟩
     refine⟨e,Sh,HE,_,some dQ,rfl,lB.z,h5e,?_⟩
     refine qE t x _ e dQ _ FZ af (by rw[ah JN];exact h5d) (none_back s4 he) (none_back s5 qp) fun b o' z=>?_
     have nbe:b≠e:=ag (s4 _ _ z) he
     rw[ah nbe]
     exact k5 _ _ (s5 _ _ z) nbe
    ·have ec:¬0<aO (aA xs) k - aO (dP kvs xs ys t) k:=by simpa using ec
     refine⟨af,_,_,rfl,by rw[kL,eI xP],?_⟩
     rw[←va,JH,eV,if_neg ec]
   ·rintro σ H' ⟨v7,v8,rfl,rfl,va⟩
    rw[List.drop_length] at va
    refine q ?_ _ Rp
    rw[hs,←va]
    rfl
variable {uC uP uI uD uL uT eW eX eY uG uS:Tok} {Ch HE Sh St:Addr}
structure PN (K:PySem.W.Frag) (mg:Str→Option Value) (C R G Pc Fo Ch St:Addr) (uK uN uB uE uM uC uP uI uD uL uT eW eX eY uG uS:Tok):Prop extends nH K mg C R G Pc Fo Ch uK uN uB uE uM uC uP uI uD uL uT eW eX eY uG uS where
 kH:mg "enumerate" =none
 bQ:sR K St
 eS:cG K St "amounts"
 qm:cG K St "gone"
def Bb (x:Str) (xs ys:List Tm):Prop:=x.cps.toList=sQ xs++qi++sQ ys∧xs≠[]∧ys≠[]∧(∀t∈xs,fP t)∧(∀t∈ys,fP t)∧x.length≤400∧xs.length+ys.length≤8∧zg (xs++ys)≤60∧(∀t∈xs,cS t.2)∧(∀t∈ys,cS t.2)∧∀k,sumZ xs k=sumZ ys k
theorem qq (t b:Int) (k:Key) (hb:0≤b):∀(as:List (Str×Int)) (acc:List (Key×V)) (B:Int),(∀p∈as, -b≤p.2*t∧p.2*t≤b)→ -B≤aO acc k→aO acc k≤B→ -(B+as.length*b)≤aO (a8 t acc as) k∧aO (a8 t acc as) k≤B+as.length*b
 | [],acc,B,_,h1,h2=>by
   show -(B+((0 :Nat):Int)*b)≤aO acc k∧aO acc k≤B+((0 :Nat):Int)*b
   simp
   exact⟨h1,h2⟩
 |p::r,acc,B,h,h1,h2=>by
  have hp:=h p (List.mem_cons_self ..)
  have e:aO (b8 acc (Sum.inr p.1) (p.2*t)) k=if k=Sum.inr p.1 then aO acc (Sum.inr p.1)+p.2*t else aO acc k:=iM _ _ _ _
  have Fh: -(B+b)≤aO (b8 acc (Sum.inr p.1) (p.2*t)) k∧aO (b8 acc (Sum.inr p.1) (p.2*t)) k≤B+b:=by
   rw[e]
   split
   ·rename_i ek
    rw[←ek]
    omega
   ·omega
  have ih:=qq t b k hb r (b8 acc (Sum.inr p.1) (p.2*t)) (B+b) (fun q hq=>h q (List.mem_cons_of_mem _ hq)) Fh.1 Fh.2
  have el:((p::r).length:Int)*b=b+(r.length:Int)*b:=by rw[List.length_cons];push_cast;rw[Int.add_mul];omega
  rw[el]
  show -(B+(b+(r.length:Int)*b))≤aO (a8 t (b8 acc (Sum.inr p.1) (p.2*t)) r) k∧aO (a8 t (b8 acc (Sum.inr p.1) (p.2*t)) r) k≤B+(b+(r.length:Int)*b)
  omega
theorem LM {KV:List (Key×V)} {B:Int} (hB:0≤B) (h:∀k, -B≤aO KV k∧aO KV k≤B) (L:List (Key×V)) (k:Key): -B≤aO (sh KV L) k∧aO (sh KV L) k≤B:=by
 cases e:b7 (sh KV L) k with
 |none=>rw[eK e];omega
 |some v=>
  have hm:=fW e
  obtain⟨q,_,eq'⟩:=List.mem_map.mp hm
  injection eq' with e1 e2
  rw[←e2] at e
  rw[fB e]
  exact h _
theorem CD {x:Str} {xs ys:List Tm} (h:Bb x xs ys):Zu xs ys:=fun k=>by
 obtain⟨_,_,_,h1,h2,_,hl,_⟩:=h
 have hy:∀p∈fK ys, -(10^12)≤p.2*1∧p.2*1≤10^12:=fun p hp=>by
  obtain⟨z,hz,rfl⟩:=List.mem_map.mp hp
  have:=h2 z hz
  have b1:=this.1
  have b2:=this.2.1
  show -(10^12)≤z.1*1∧z.1*1≤10^12
  omega
 have hx:∀p∈fK xs, -(10^12)≤p.2*(-1)∧p.2*(-1)≤10^12:=fun p hp=>by
  obtain⟨z,hz,rfl⟩:=List.mem_map.mp hp
  have:=h1 z hz
  have b1:=this.1
  have b2:=this.2.1
  show -(10^12)≤z.1*(-1)∧z.1*(-1)≤10^12
  omega
 have e:∀zs:List Tm,(fK zs).length=zs.length:=fun zs=>by unfold fK;rw[List.length_map]
 have key:∀k, -(10^13)≤aO (uX xs ys) k∧aO (uX xs ys) k≤10^13:=fun k=>by
  have a1:=qq 1 (10^12) k (by decide) (fK ys) [] 0 hy (Int.le_refl _) (Int.le_refl _)
  have a2:=qq (-1) (10^12) k (by decide) (fK xs) (a8 1 [] (fK ys)) (0+(fK ys).length*10^12) hx a1.1 a1.2
  rw[e,e] at a2
  show -(10^13)≤aO (a8 (-1) (a8 1 [] (fK ys)) (fK xs)) k∧aO (a8 (-1) (a8 1 [] (fK ys)) (fK xs)) k≤10^13
  omega
 have:=LM (by decide) key (uX xs ys) k
 show -(2^62) <aO (sh (uX xs ys) (uX xs ys)) k∧aO (sh (uX xs ys) (uX xs ys)) k<2^62
 omega
inductive LN (C G Pc Fo Ch:Addr) (vs:List V) (H:Hp) (Q:VK) (E:XK):Prop
 |mk (x:Str) (xs ys:List Tm) (dX:vs=[.str x]) (dY:Bb x xs ys) (d8:∀c H',H c=none→Pg C G Pc Fo Ch H H' c xs ys→au H H'→Q (.ref c) H')
def Ia (C G Pc Fo Ch:Addr):Sp:=LN C G Pc Fo Ch
structure jR where
 xs:List Tm
 ys:List Tm
 x:Str
 m:Int
def gH (H:Hp) (t:Addr) (r:jR):Prop:=H t=some (.tup [.str r.x, .int r.m])
def oZ (am:List (Key×V)) (rs:List jR):List (Key×V):=rs.foldl (fun a r=>dP a r.xs r.ys r.m) am
inductive Ic (C G Pc Fo Ch Sh St:Addr) (vs:List V) (H:Hp) (Q:VK) (E:XK):Prop
 |mk (st d g rl:Addr) (kvs:List (Key×V)) (gs:List V) (ts:List Addr) (rs:List jR) (dX:vs=[.ref st, .ref rl]) (dY:j3 St H st d g) (d8:H d=some (.dK kvs)) (fk:H g=some (.lst gs)) (gG:g≠rl) (jE:bx kvs) (oG:kvs.length≤400) (sV:H rl=some (.lst (ts.map V.ref))) (B0:Paired (gH H) ts rs) (K1:rs.length≤10) (EG:gs.length≤1000) (LL:(∀r∈rs,Bb r.x r.xs r.ys)) (PL:(∀i r t k l,rs[i]? =some r→ck (oZ kvs (rs.take i)) r.xs r.ys r.m=some (t,k,l)→0≤t+1∧t+1<10^50∧0≤l∧l<10^50)) (PM:((∀i r,rs[i]? =some r→ck (oZ kvs (rs.take i)) r.xs r.ys r.m=none)→∀d' H',(d'=d∨H d'=none)→j3 St H' st d' g→H' d'=some (.dK (oZ kvs rs))→H' g=some (.lst (gs++ts.map V.ref))→(∀b o,H b=some o→b≠st→b≠g→H' b=some o)→Q .cU H')) (T3:(∀(i:Nat) r t (x:Str) l e dx H',rs[i]? =some r→(∀j r,j<i→rs[j]? =some r→ck (oZ kvs (rs.take j)) r.xs r.ys r.m=none)→ck (oZ kvs (rs.take i)) r.xs r.ys r.m=some (t,Sum.inr x,l)→H' e=some (Ar e Sh (some dx))→H' dx=some (zR dx (Fs (i:Nat) (t+1) x l))→H e=none→H dx=none→au H H'→E (.ref Sh) (some dx) H'))
def CF (C G Pc Fo Ch Sh St:Addr):Sp:=Ic C G Pc Fo Ch Sh St
theorem PQ {kvs:List (Key×V)} (rs:List jR) (i:Nat) (h:bx kvs):bx (oZ kvs (rs.take i)):=by
 generalize rs.take i=l
 induction l generalizing kvs with
 |nil=>exact h
 |cons r l ih=>exact ih (df _ _ _ _ h)
theorem PR {kvs:List (Key×V)}:∀{rs:List jR},(∀r∈rs,r.xs.length+r.ys.length≤8)→(oZ kvs rs).length≤kvs.length+8*rs.length:=by
 intro rs
 induction rs generalizing kvs with
 |nil=>intro _;exact Nat.le_refl _
 |cons r l ih=>
  intro h
  have h1:=ih (kvs:=dP kvs r.xs r.ys r.m) fun q hq=>h q (List.mem_cons_of_mem _ hq)
  have h2:(dP kvs r.xs r.ys r.m).length≤kvs.length+(iP r.xs r.ys).length:=eM _ _ _ _
  have h3:(iP r.xs r.ys).length≤(uX r.xs r.ys).length:=xi _ _
  have h4:=xj r.xs r.ys
  have h5:=h r (List.mem_cons_self ..)
  rw[List.length_cons]
  show (oZ (dP kvs r.xs r.ys r.m) l).length≤_
  omega
theorem CG (d g a:Addr):cL "amounts" (.ref a) (zp d g)=zp a g:=by
 unfold zp
 simp [cL,Zq]
theorem jS:ax ["self","rows","changes","amounts","step","change","times"] ["self","rows"] (aj rj):=dB
def PvG (C G Pc Fo Ch L:Addr) (H:Hp) (rs:List jR):Nat→List V→Hp→Prop:=fun i ys H'=>∃cs:List Addr,ys=cs.map V.ref∧cs.length=i∧Paired (fun c (r:jR)=>∀cz:Hp,(∀b o,H b=none→b≠L→H' b=some o→cz b=some o)→dC C G Pc Fo Ch cz c r.xs r.ys) cs (rs.take i)
theorem Ie (D:a9 K St "go_all" "Store.go_all" rj ["self","rows"]) (T:PN K mg C R G Pc Fo Ch St uK uN uB uE uM uC uP uI uD uL uT eW eX eY uG uS) (c1:bg P w K mg base 15 "read_even" ["text"] (Ia C G Pc Fo Ch)) (c2:Gs P w K mg base 11 "refuse_short" ["change","times","amounts","step"] (zx C G Pc Fo Ch Sh)) (c3:bg P w K mg base 10 "turned" ["change","times","amounts"] (sv C G Pc Fo Ch)):
  Ay P w K mg base 17 St "go_all" ["self","rows"] (CF C G Pc Fo Ch Sh St):=by
 obtain⟨_,_,iR⟩:=c1
 obtain⟨_,_,fJ⟩:=c2
 obtain⟨_,_,fI⟩:=c3
 refine D.Gu jS (fun vs H Q E h=>?_) (fun f bj A outer s H vs Q E hr h=>?_)
 ·obtain⟨st,d,g,rl,kvs,gs,ts,rs,rfl,_⟩:=h
  rfl
 ·obtain⟨st,d,g,rl,kvs,gs,ts,rs,rfl,⟨dx,fO⟩,hd,hg,ngr,hI,mr,LO,hP,hr20,PU,aU,hb,q,qE⟩:=h
  have hu:=dz hr
  have big:(2000 :Nat)≤sizeLine:=by decide
  refine⟨_,(ai
     (pU (i:=2) jS.nd rfl (Or.inl rfl) (sc:=(aj rj)) (NX:=["self","rows","changes","amounts","step","change","times"]) (N:=["text","times"]) (fr:=[none,none]) ⟨by rfl,by rfl,by decide+kernel,by decide+kernel,by decide+kernel,by rfl,by decide+kernel⟩ rfl rfl rfl (cN (pv 1)) (fun _ _ _ _=>(vM K 2 rfl rfl (bp (aG (i:=0) (show (["text","times"]:List Str).Nodup by decide+kernel) rfl (Or.inl rfl) (Or.inr rfl)) (bp (aG (i:=1) (show (["text","times"]:List Str).Nodup by decide+kernel) rfl (Or.inl rfl) (Or.inr rfl)) dZ)))) (fun _ _ _ _=>f7) (fun _ _ _ _=>(aH iR.ok (hr.mono (by decide)) rfl iR.g iR.kp iR.b .nil ay (aa (pv 0) ak))))
    (ai
     (aB (i:=3) jS.nd rfl (Or.inl rfl) (a5 (pv 0) rfl))
    (ai
     (bW Ge rfl (BL rfl T.kH (aa (pv 2) ak)) (g7 rfl (bp (aG (i:=4) jS.nd rfl (Or.inl rfl)) (bp (aG (i:=5) jS.nd rfl (Or.inl rfl)) dZ)))
      (ai
       (aB (i:=6) jS.nd rfl (Or.inl rfl) (cE hV (cE cZ (pv 1) (pv 4) (fun _ _=>rfl)) aq (fun _ _=>rfl)))
      (ai
       (bB (Gg fJ.ok (hr.mono (by decide)) rfl fJ.g fJ.kp fJ.b .nil vT (aa (pv 5) (aa (pv 6) (aa (pv 3) (aa (pv 4) ak))))))
      (ao
       (aB (i:=3) jS.nd rfl (Or.inl rfl) (aH fI.ok (hr.mono (by decide)) rfl fI.g fI.kp fI.b .nil ay (aa (pv 5) (aa (pv 6) (aa (pv 3) ak)))))))))
    (ai
     (eO (pv 0) (pv 3) rfl)
    (ao
     (bB (jg PySem.F.plainAttrs_list PySem.F.slot_list_extend PySem.F.type_list_extend Dz (a5 (pv 0) rfl) (aa (pv 1) ak)))))))),?_⟩
  have iX:=Paired.length hP
  refine⟨_,rfl,rl,rfl,⟨_,b5.of LO⟩,fun L hL=>kU (K:=K) (a:=rl) (L:=L) (xs:=ts.map V.ref) H (fun σ=>∃v u:Option V,σ=[v,u]) (PvG C G Pc Fo Ch L H rs) (b5.of LO) ?_ hL ⟨none,none,rfl⟩ (au.new hL) af ⟨[],rfl,rfl, .nil⟩ (by rw[List.length_map];omega) ?_ ?_ ?_⟩
  ·rintro i ys Ha Hb DG ⟨cs,h1,h2,h3⟩
   exact⟨cs,h1,h2,aK (fun c r z cz k=>z cz fun b o z1 z2 z3=>k b o z1 z2 (DG _ _ z3 z2)) h3⟩
  ·rintro i ys H' ⟨cs,rfl,h2,_⟩
   rw[List.length_map,h2];exact Nat.le_refl _
  ·rintro j w σ' H5 vs hj ⟨w1,w2,rfl⟩ e5 px ⟨cs,rfl,Ro,Zw⟩ N M hN
   rw[List.getElem?_map] at hj
   obtain⟨t,ht,rfl⟩:∃m,ts[j]? =some m∧w=V.ref m:=by
    cases hh:ts[j]? with
    |none=>rw[hh] at hj;cases hj
    |some m=>rw[hh] at hj;exact⟨m,rfl,(Option.some.inj hj).symm⟩
   obtain⟨r,Ft,CH⟩:=bI hP ht
   have CH:H t=some (.tup [.str r.x, .int r.m]):=CH
   refine⟨t,_,rfl,jc.of (e5 _ _ CH),rfl,_,_,rfl,_,_,rfl,rfl,?_⟩
   refine⟨_,rfl,r.x,r.xs,r.ys,rfl,aU r (List.mem_of_getElem? Ft),fun c H6 nc hN6 e6=>?_⟩
   refine hN _ _ _ ⟨_,_,rfl⟩ (e5.trans e6) (e6 _ _ px) ⟨cs++[c],by rw[List.map_append];rfl,by rw[List.length_append,Ro];rfl,?_⟩
   rw[take_snoc Ft]
   refine bS (fun cz k=>hN6 cz fun b o z1 z2=>k b o (none_back e5 z1) (fun z=>by rw[z,px] at z1;cases z1) z2) (aK (fun c r z cz k=>z cz fun b o z1 z2 z3=>k b o z1 z2 (e6 _ _ z3)) Zw)
  rintro H2 ys e2 sX ⟨cs,rfl,Ro,Zw⟩
  rw[List.length_map] at Ro
  have CH:rs.take ts.length=rs:=by rw[iX,List.take_length]
  rw[List.length_map,CH] at Zw
  refine⟨_,rfl,st,St,dx,_,_,rfl,e2 _ _ fO,T.bQ,T.eS,iQ _ _,?_⟩
  dsimp only [du]
  have hcl2:cs.length=rs.length:=by rw[Ro,iX]
  have hCh:∀{i:Nat} {c:Addr} {r:jR} {H':Hp},cs[i]? =some c→rs[i]? =some r→au H2 H'→dC C G Pc Fo Ch H' c r.xs r.ys:=fun {i c r H'} h1 h2 e=>by
   obtain⟨r',Ft,z⟩:=bI Zw h1
   rw[h2] at Ft
   cases Ft
   exact z H' fun b o _ _ z3=>e _ _ z3
  have hLH:H L=none:=hL
  refine⟨_,rfl,L,rfl,⟨_,b5.of sX⟩,yk (K:=K) (a:=L) (xs:=cs.map V.ref) (fun i σ H'=>∃(a:Addr) (v4 v5 v6:Option V),σ=[some (.ref st),some (.ref rl),some (.ref L),some (.ref a),v4,v5,v6]∧H' a=some (.dK (oZ kvs (rs.take i)))∧(a=d∨H a=none)∧(∀j r,j<i→rs[j]? =some r→ck (oZ kvs (rs.take j)) r.xs r.ys r.m=none)∧au H2 H') ?_ (fun i σ H' ⟨_,_,_,_,_,_,_,_,z⟩=>b5.of (z _ _ sX)) ?_ ?_⟩
  ·exact⟨d,none,none,none,rfl,e2 _ _ hd, .inl rfl,(fun j r hj=>absurd hj (Nat.not_lt_zero _)),au.refl _⟩
  ·rintro i v p σ H' hi hp ⟨a,v4,v5,v6,rfl,ha,kg,Zx,e3⟩
   rw[List.getElem?_map] at hi
   obtain⟨c,hc,rfl⟩:∃m,cs[i]? =some m∧v=V.ref m:=by
    cases hh:cs[i]? with
    |none=>rw[hh] at hi;cases hi
    |some m=>rw[hh] at hi;exact⟨m,rfl,(Option.some.inj hi).symm⟩
   have yi:i<rs.length:=by have:=(List.getElem?_eq_some_iff.mp hc).1;omega
   have LP:=List.getElem?_eq_getElem yi
   have Lm:ts[i]? =some ts[i]:=List.getElem?_eq_getElem (by omega)
   obtain⟨r',Ft,CH⟩:=bI hP Lm
   generalize ts[i]=t at Lm CH
   generalize rs[i]=r at LP
   have er:r=r':=Option.some.inj (LP.symm.trans Ft)
   subst er
   have CH:H t=some (.tup [.str r.x, .int r.m]):=CH
   have JO:=aU r (List.mem_of_getElem? LP)
   have s4:=e3.trans (au.new (o:= .tup [.int (i:Nat), .ref c]) hp)
   have Ru:=e2.trans s4
   have ha4:=au.new (o:= .tup [.int (i:Nat), .ref c]) hp _ _ ha
   refine⟨p,_,rfl,jc.of af,rfl,_,_,rfl,_,_,rfl,rfl,?_⟩
   refine⟨_,rfl,_,rfl,rl,_,_, .ref t,rfl,rfl,b5.of (Ru _ _ LO),pR (by rw[List.getElem?_map,Lm];rfl),t,_,_, .int r.m,rfl,rfl,jc.of (Ru _ _ CH),rfl,?_⟩
   have hIa:=PQ rs i hI
   have hla:=PR (kvs:=kvs) (rs:=rs.take i) fun r hr=>(aU r (List.mem_of_mem_take hr)).2.2.2.2.2.2.1
   have sN:(rs.take i).length≤10:=by rw[List.length_take];omega
   dsimp only [du]
   refine⟨_,rfl,_,rfl,_,rfl,_,rfl,c,a,r.m,(i:Nat),r.xs,r.ys,oZ kvs (rs.take i),rfl,hCh hc LP s4,JO.2.2.2.2.2.2.2.2.1,JO.2.2.2.2.2.2.2.2.2.1,by have:=JO.2.2.2.2.2.2.1;omega,by have:=JO.2.2.2.2.2.2.1;omega,CD JO,ha4,hIa,by omega,by omega,by omega,fun t k l z=>hb i r t k l LP z,fun hs H5 e5=>?_,fun t' x l e dQ H5 hs he qp ne T5 e5=>?_⟩
   ·refine⟨_,rfl,_,rfl,_,rfl,c,a,r.m,r.xs,r.ys,oZ kvs (rs.take i),rfl,hCh hc LP (s4.trans e5),JO.2.2.2.2.2.2.2.2.1,JO.2.2.2.2.2.2.2.2.2.1,by have:=JO.2.2.2.2.2.2.1;omega,by have:=JO.2.2.2.2.2.2.1;omega,CD JO,e5 _ _ ha4,hIa,by omega,fun a' H6 na' ha' e6=>?_⟩
    refine⟨a',_,_,_,rfl,?_, .inr (none_back (Ru.trans e5) na'),fun j r2 hj hr2=>?_,(s4.trans e5).trans e6⟩
    ·rw[ha',take_snoc LP]
     unfold oZ
     rw[List.foldl_append]
     rfl
    ·rcases Nat.lt_succ_iff_lt_or_eq.mp hj with hj|hj
     ·exact Zx j r2 hj hr2
     ·subst hj
      have er:=Option.some.inj (LP.symm.trans hr2)
      rw[←er]
      exact hs
   ·exact qE i r t' x l e dQ H5 LP Zx hs he qp (none_back Ru ne) (none_back Ru T5) (Ru.trans e5)
  ·rintro σ H' ⟨a,v4,v5,v6,rfl,ha,kg,Zx,e3⟩
   rw[List.length_map,hcl2,List.take_length] at ha
   have Na:=e2.trans e3
   have T6:=Na _ _ fO
   have hlf:(zp d g).length<1000:=by unfold zp;simp [cL,Zq]
   refine⟨_,rfl,_,rfl,st,St,dx,_,rfl,T6,T.bQ,T.eS,hlf,?_⟩
   have nsg:st≠g:=cI fO hg (by intro z;cases z)
   have nsr:st≠rl:=cI fO LO (by intro z;cases z)
   have T7:st≠a:=cI T6 ha (by intro z;cases z)
   have nga:g≠a:=cI (Na _ _ hg) ha (by intro z;cases z)
   refine⟨_,rfl,st,St,dx,_,_,rfl,af,T.bQ,T.qm,(by rw[CG];exact zq _ _),?_⟩
   have hg3:(upd H' st (.ins St dx (cL "amounts" (.ref a) (zp d g)))) g=some (.lst gs):=by rw[ah (Ne.symm nsg)];exact Na _ _ hg
   refine⟨.inl ⟨rfl,_,b5.of hg3⟩,_,rfl,g,rl,gs,ts.map V.ref,rfl,rfl,by rw[ah (Ne.symm nsg)];exact Na _ _ hg,by rw[ah (Ne.symm nsr)];exact Na _ _ LO,by rw[List.length_map];omega,?_⟩
   refine q (fun i r hi=>Zx i r (by rw[List.length_map];have:=(List.getElem?_eq_some_iff.mp hi).1;omega) hi) a _ kg ⟨dx,by rw[ah nsg,af,CG]⟩ (by rw[ah (Ne.symm nga),ah (Ne.symm T7)];exact ha) af fun b o z n1 n2=>?_
   rw[ah n2,ah n1]
   exact Na _ _ z
variable {uC uP uI uD uL uT eW eX eY uG uS:Tok} {Ch HE Sh St:Addr}
inductive T8 (C G Pc Fo Ch Sh St:Addr) (vs:List V) (H:Hp) (Q:VK) (E:XK):Prop
 |mk (st d g:Addr) (kvs:List (Key×V)) (gs:List V) (r:jR) (dX:vs=[.ref st, .str r.x, .int r.m]) (dY:j3 St H st d g) (d8:H d=some (.dK kvs)) (fk:H g=some (.lst gs)) (gG:bx kvs) (jE:kvs.length≤400) (oG:gs.length≤1000) (sV:Bb r.x r.xs r.ys) (B0:(∀t k l,ck kvs r.xs r.ys r.m=some (t,k,l)→0≤t+1∧t+1<10^50∧0≤l∧l<10^50)) (K1:(ck kvs r.xs r.ys r.m=none→∀d' t H',(d'=d∨H d'=none)→j3 St H' st d' g→H' d'=some (.dK (dP kvs r.xs r.ys r.m))→H' g=some (.lst (gs++[.ref t]))→gH H' t r→(∀b o,H b=some o→b≠st→b≠g→H' b=some o)→Q .cU H')) (EG:(∀t (x:Str) l e dx H',ck kvs r.xs r.ys r.m=some (t,Sum.inr x,l)→H' e=some (Ar e Sh (some dx))→H' dx=some (zR dx (Fs 0 (t+1) x l))→H e=none→H dx=none→au H H'→E (.ref Sh) (some dx) H'))
def T9 (C G Pc Fo Ch Sh St:Addr):Sp:=T8 C G Pc Fo Ch Sh St
theorem scGo:ax ["self","text","times"] ["self","text","times"] (aj DR):=dB
theorem Ua (D:BP K St "go" "Store.go" DR ["self","text","times"] [1]) (T:PN K mg C R G Pc Fo Ch St uK uN uB uE uM uC uP uI uD uL uT eW eX eY uG uS) (c1:Ay P w K mg base 17 St "go_all" ["self","rows"] (CF C G Pc Fo Ch Sh St)):vV P w K mg base 18 St "go" ["self","text","times"] [1] (T9 C G Pc Fo Ch Sh St):=by
 obtain⟨_,_,ip⟩:=c1
 refine D.Gu scGo (fun vs H Q E h=>?_) (fun f bj A outer s H vs Q E hr h=>?_)
 ·obtain⟨st,d,g,kvs,gs,r,rfl,_⟩:=h
  rfl
 ·obtain⟨st,d,g,kvs,gs,r,rfl,⟨dx,fO⟩,hd,hg,hI,mr,PU,aU,hb,q,qE⟩:=h
  have big:(2000 :Nat)≤sizeLine:=by decide
  refine⟨_,(ao
     (bB (q9 (pv 0) T.bQ ip.m ip.ok (hr.mono (by decide)) ip.b .nil vT (aa (cD (aa (bP (aa (pv 1) (aa (pv 2) ak))) ak)) ak)))),?_⟩
  refine⟨_,rfl,st,dx,_,rfl,fO,jQ _ _ (by decide+kernel) (by decide+kernel),_,rfl,_,rfl,(by show 2≤sizeLine;decide),fun t ht=>⟨(by show 1≤sizeLine;decide),fun rl LO=>?_⟩⟩
  have s1:=au.new (o:= .tup [.str r.x, .int r.m]) ht
  have s2:=s1.trans (au.new (o:= .lst [.ref t]) LO)
  have TN:=au.new (o:= .lst [.ref t]) LO _ _ (af (H:=H) (a:=t) (o:= .tup [.str r.x, .int r.m]))
  have h0:([r]:List jR).take 0=[]:=rfl
  have one:∀{i:Nat} {r':jR},[r][i]? =some r'→i=0∧r'=r:=fun {i r'} z=>by
   match i,z with
   |0,z=>exact⟨rfl,(Option.some.inj z).symm⟩
  refine⟨st,d,g,rl,kvs,gs,[t],[r],rfl,⟨dx,s2 _ _ fO⟩,s2 _ _ hd,s2 _ _ hg,ag (s1 _ _ hg) LO,hI,mr,af, .cons TN .nil,(by show 1≤10;decide),PU,(fun r' Ft=>by rw[List.mem_singleton.mp Ft];exact aU),fun i r' t' k l z1 z2=>?_,fun z d' H' h0 h1 h2 h3 h4=>?_,fun i r' t' x l e dQ H' z1 z2 z3 h1 h2 h3 h4 h5=>?_⟩
  ·obtain⟨rfl,rfl⟩:=one z1
   exact hb t' k l z2
  ·refine q (z 0 r rfl) d' t H' (h0.imp id (none_back s2)) h1 h2 h3 (h4 _ _ TN ?_ ?_) fun b o y n1 n2=>h4 _ _ (s2 _ _ y) n1 n2
   ·exact Ne.symm (ag fO ht)
   ·exact Ne.symm (ag hg ht)
  ·obtain⟨rfl,rfl⟩:=one z1
   exact qE t' x l e dQ H' z3 h1 h2 (none_back s2 h3) (none_back s2 h4) (s2.trans h5)
variable {uC uP uI uD uL uT eW eX eY uG uS:Tok} {Ch HE Sh St X1 X2 X3 X4 X5 X6 X7 X8 X9:Addr}
structure PV (K:PySem.W.Frag) (mg:Str→Option Value) (C HE Sh St X1 X2 X3 X4 X5 X6 X7 X8 X9:Addr):Prop extends LH K mg HE Sh,oF K mg C where
 bQ:sR K St
 xw:mg "ValueError" =none
 Bc:mg "NoChange" =some (.ref X1)
 zy:mg "NoFormula" =some (.ref X2)
 Ig:mg "NoName" =some (.ref X3)
 LQ:mg "NoRow" =some (.ref X4)
 EJ:mg "NoSplit" =some (.ref X5)
 zA:mg "NoBalance" =some (.ref X6)
 EK:mg "TooLong" =some (.ref X7)
 EL:mg "TooMany" =some (.ref X8)
 xx:mg "Unbalanced" =some (.ref X9)
 i1:PySem.W.kitOne K (.ref Sh) (.ref X1)=some false
 i2:PySem.W.kitOne K (.ref Sh) (.ref X2)=some false
 i3:PySem.W.kitOne K (.ref Sh) (.ref X3)=some false
 i4:PySem.W.kitOne K (.ref Sh) (.ref X4)=some false
 i5:PySem.W.kitOne K (.ref Sh) (.ref X5)=some false
 i6:PySem.W.kitOne K (.ref Sh) (.ref X6)=some false
 i7:PySem.W.kitOne K (.ref Sh) (.ref X7)=some false
 i8:PySem.W.kitOne K (.ref Sh) (.ref X8)=some false
 i9:PySem.W.kitOne K (.ref Sh) (.ref X9)=some false
 iV:PySem.W.kitOne K (.ref Sh) (.type "ValueError")=some true
 iS:PySem.W.kitOne K (.ref Sh) (.ref Sh)=some true
inductive EM (Sh:Addr) (vs:List V) (H:Hp) (Q:VK) (E:XK):Prop
 |mk (e:Addr) (dX:vs=[.ref e]) (dY:KI H e Sh) (d8:Q (.bl false) H)
def zB (Sh:Addr):Sp:=EM Sh
theorem Ih:ax ["_law_e"] ["_law_e"] (aj qa):=dB
theorem EN {f0:Addr} (D:Def K mg "_law_others" "_law_others" qa ["_law_e"]) (T:PV K mg C HE Sh St X1 X2 X3 X4 X5 X6 X7 X8 X9) (Z:PySem.W.fg K Sh HE f0):bg P w K mg base 1 "_law_others" ["_law_e"] (zB Sh):=by
 refine D.di Ih (fun vs H Q E h=>?_) (fun f bj A outer s H vs Q E hr h=>?_)
 ·obtain⟨e,rfl,_⟩:=h
  rfl
 ·obtain⟨e,rfl,hE,q⟩:=h
  refine⟨_,(ai
     (bG (PW.pt (iy (cJ (bw bX rfl T.bA bh (aa (pv 0) (aa (aY (v:= .ref _) rfl T.Bc rfl) ak)))) (iy (cJ (bw bX rfl T.bA bh (aa (pv 0) (aa (aY (v:= .ref _) rfl T.zy rfl) ak)))) (iy (cJ (bw bX rfl T.bA bh (aa (pv 0) (aa (aY (v:= .ref _) rfl T.Ig rfl) ak)))) (j9 (cJ (bw bX rfl T.bA bh (aa (pv 0) (aa (aY (v:= .ref _) rfl T.LQ rfl) ak)))))))))
      (ao
       (aD j2))
      aR)
    (ai
     (bG (PW.pt (iy (cJ (bw bX rfl T.bA bh (aa (pv 0) (aa (aY (v:= .ref _) rfl T.EJ rfl) ak)))) (iy (cJ (bw bX rfl T.bA bh (aa (pv 0) (aa (aY (v:= .ref _) rfl T.zA rfl) ak)))) (iy (cJ (bw bX rfl T.bA bh (aa (pv 0) (aa (aY (v:= .ref _) rfl T.EK rfl) ak)))) (j9 (cJ (bw bX rfl T.bA bh (aa (pv 0) (aa (aY (v:= .ref _) rfl T.EL rfl) ak)))))))))
      (ao
       (aD j2))
      aR)
    (ao
     (aD (RL (bw bX rfl T.bA bh (aa (pv 0) (aa (aY (v:= .ref _) rfl T.xx rfl) ak))) (qB (Fz (bw bX rfl T.bA bh (aa (pv 0) (aa (mv (v:= .ty "ValueError") rfl T.xw sU rfl) ak)))))))))),?_⟩
  refine⟨_,rfl,e,_,_,Sh,HE,f0,false,rfl,rfl,Z,T.dF,hE,T.i1,_,rfl,cH ⟨_,rfl,e,_,_,Sh,HE,f0,false,rfl,rfl,Z,T.dF,hE,T.i2,_,rfl,cH ⟨_,rfl,e,_,_,Sh,HE,f0,false,rfl,rfl,Z,T.dF,hE,T.i3,_,rfl,cH ⟨_,rfl,e,_,_,Sh,HE,f0,false,rfl,rfl,Z,T.dF,hE,T.i4,_,rfl,cH ?_⟩⟩⟩⟩
  refine⟨_,rfl,e,_,_,Sh,HE,f0,false,rfl,rfl,Z,T.dF,hE,T.i5,_,rfl,cH ⟨_,rfl,e,_,_,Sh,HE,f0,false,rfl,rfl,Z,T.dF,hE,T.i6,_,rfl,cH ⟨_,rfl,e,_,_,Sh,HE,f0,false,rfl,rfl,Z,T.dF,hE,T.i7,_,rfl,cH ⟨_,rfl,e,_,_,Sh,HE,f0,false,rfl,rfl,Z,T.dF,hE,T.i8,_,rfl,cH ?_⟩⟩⟩⟩
  refine⟨_,rfl,e,_,_,Sh,HE,f0,false,rfl,rfl,Z,T.dF,hE,T.i9,_,rfl,cH ⟨_,rfl,e,_,_,Sh,HE,f0,true,rfl,rfl,Z,T.dF,hE,T.iV,?_⟩⟩
  exact⟨_,rfl,q⟩
variable {uC uP uI uD uL uT eW eX eY uG uS:Tok} {Ch HE Sh St X1 X2 X3 X4 X5 X6 X7 X8 X9:Addr}
theorem nI (st tn:Int) (x:Str) (lk:Int):(Fs st tn x lk).lookup ("lack" :Str)=some (.int lk):=by
 unfold Fs
 rw[az,if_pos rfl]
theorem pD (st tn:Int) (x:Str) (lk:Int):(Fs st tn x lk).lookup ("formula" :Str)=some (.str x):=by
 unfold Fs
 rw[az,if_neg (by decide+kernel),az,if_pos rfl]
theorem nJ (st tn:Int) (x:Str) (lk:Int):(Fs st tn x lk).lookup ("turn" :Str)=some (.int tn):=by
 unfold Fs
 rw[az,if_neg (by decide+kernel),az,if_neg (by decide+kernel),az,if_pos rfl]
theorem nK (st tn:Int) (x:Str) (lk:Int):(Fs st tn x lk).lookup ("step" :Str)=some (.int st):=by
 unfold Fs
 rw[az,if_neg (by decide+kernel),az,if_neg (by decide+kernel),az,if_neg (by decide+kernel)]
 rfl
inductive LR (C G Pc Fo Ch Sh St:Addr) (vs:List V) (H:Hp) (Q:VK) (E:XK):Prop
 |mk (st d g:Addr) (kvs:List (Key×V)) (gs:List V) (r:jR) (bare:Bool) (dX:vs=[.ref st, .str r.x, .int r.m, .bl bare]) (dY:(bare=true→r.m=1)) (d8:j3 St H st d g) (fk:H d=some (.dK kvs)) (gG:H g=some (.lst gs)) (jE:bx kvs) (oG:kvs.length≤400) (sV:gs.length≤1000) (B0:Bb r.x r.xs r.ys) (K1:(∀t k l,ck kvs r.xs r.ys r.m=some (t,k,l)→0≤t+1∧t+1<10^50∧0≤l∧l<10^50)) (EG:(ck kvs r.xs r.ys r.m=none→∀d' t tt H',(d'=d∨H d'=none)→j3 St H' st d' g→H' d'=some (.dK (dP kvs r.xs r.ys r.m))→H' g=some (.lst (gs++[.ref t]))→gH H' t r→H' tt=some (.tup [.int 0, .bl true])→(∀b o,H b=some o→b≠st→b≠g→H' b=some o)→Q (.ref tt) H')) (LL:(∀t (x:Str) l tt H',ck kvs r.xs r.ys r.m=some (t,Sum.inr x,l)→H' tt=some (.tup [.int 1, .int 0, .int (t+1), .str x, .int l])→au H H'→Q (.ref tt) H'))
def Ii (C G Pc Fo Ch Sh St:Addr):Sp:=LR C G Pc Fo Ch Sh St
theorem mj:ax ["_law_store","_law_text_here","_law_times","_law_bare","_law_caught","_law_found","_law_e"] ["_law_store","_law_text_here","_law_times","_law_bare"] (aj BU):=dB
theorem LS {f0:Addr} (D:Def K mg "_law_gone" "_law_gone" BU ["_law_store","_law_text_here","_law_times","_law_bare"]) (T:PV K mg C HE Sh St X1 X2 X3 X4 X5 X6 X7 X8 X9) (Z:PySem.W.fg K Sh HE f0) (c1:vV P w K mg base 18 St "go" ["self","text","times"] [1] (T9 C G Pc Fo Ch Sh St)) (c2:bg P w K mg base 1 "_law_others" ["_law_e"] (zB Sh)) (c3:bg P w K mg base 1 "_law_whole" ["_law_found"] wy):
  bg P w K mg base 19 "_law_gone" ["_law_store","_law_text_here","_law_times","_law_bare"] (Ii C G Pc Fo Ch Sh St):=by
 obtain⟨_,_,fZ⟩:=c1
 obtain⟨_,_,jT⟩:=c2
 obtain⟨_,_,bT⟩:=c3
 obtain⟨_,xy,xA⟩:=fZ.bs 1 (by decide)
 obtain⟨_,xB,xC⟩:=fZ.bs 0 (by decide)
 refine D.di mj (fun vs H Q E h=>?_) (fun f bj A outer s H vs Q E hr h=>?_)
 ·obtain⟨st,d,g,kvs,gs,r,bare,rfl,_⟩:=h
  rfl
 ·obtain⟨st,d,g,kvs,gs,r,bare,rfl,hm,⟨dx,fO⟩,hd,hg,hI,mr,PU,aU,hb,q,qE⟩:=h
  have big:(2000 :Nat)≤sizeLine:=by decide
  refine⟨_,(ai
     (aB (i:=4) mj.nd rfl (Or.inl rfl) vw)
    (ai
     (aB (i:=5) mj.nd rfl (Or.inl rfl) vw)
    (ai
     (KG ⟨rfl,rfl⟩ (fun _ _=>
      (ao
       (bG (cJ (pv 3))
        (ao
         (aB (i:=5) mj.nd rfl (Or.inl rfl) (q9 (pv 0) T.bQ fZ.m fZ.ok (hr.mono (by decide)) xC xB yo (aa (pv 1) ak))))
        (ao
         (aB (i:=5) mj.nd rfl (Or.inl rfl) (q9 (pv 0) T.bQ fZ.m fZ.ok (hr.mono (by decide)) xA xy yo (aa (pv 1) (aa (pv 2) ak)))))))) (fun _=>(OM K rfl (i:=6) rfl T.pB T.xq mj.nd rfl rfl (fun _=>
      (ao
       (aB (i:=4) mj.nd rfl (Or.inl rfl) (pv 6)))) (OI KD))))
    (ai
     (bG (qA (qz (pv 4)))
      (ao
       (aD (bP (aa aq (aa (zY (qz (pv 5))) ak)))))
      aR)
    (ai
     (bG (PW.pt (iy (jw (cJ (bw bX rfl T.bA bh (aa (pv 4) (aa (aY (v:= .ref _) rfl T.LI rfl) ak))))) (j9 (cJ (aH jT.ok (hr.mono (by decide)) rfl jT.g jT.kp jT.b .nil ay (aa (pv 4) ak))))))
      (ao
       (aD (bP (aa aq (aa (zY (qz (pv 4))) ak)))))
      aR)
    (ai
     (bG (PW.pt (iy (jw (cJ (aH bT.ok (hr.mono (by decide)) rfl bT.g bT.kp bT.b .nil ay (aa (jC (pv 4) rfl) ak)))) (iy (jw (cJ (aH bT.ok (hr.mono (by decide)) rfl bT.g bT.kp bT.b .nil ay (aa (jC (pv 4) rfl) ak)))) (j9 (jw (cJ (aH bT.ok (hr.mono (by decide)) rfl bT.g bT.kp bT.b .nil ay (aa (jC (pv 4) rfl) ak))))))))
      (ao
       (aD (bP (aa aq (aa (zY (qz (pv 4))) ak)))))
      aR)
    (ao
     (aD (bP (aa aq (aa (jC (pv 4) rfl) (aa (jC (pv 4) rfl) (aa (jC (pv 4) rfl) (aa (jC (pv 4) rfl) ak)))))))))))))),?_⟩
  refine⟨_,rfl,_,rfl,fM (fun zC=>?_) fun zC=>?_⟩
  ·refine⟨_,rfl,st,dx,_,rfl,fO,jQ _ _ (by decide+kernel) (by decide+kernel),_,rfl,st,d,g,kvs,gs,r,(by rw[hm zC];rfl),⟨dx,fO⟩,hd,hg,hI,mr,PU,aU,hb,fun hs d' t H' h0 h1 h2 h3 h4 h5=>?_,fun t x l e j4 H' hs he qp ne T5 e1=>?_⟩
   ·refine⟨_,rfl,_,rfl,ix ?_⟩
    refine⟨_,rfl,(by show 2≤sizeLine;decide),fun tt Bd=>?_⟩
    have s2:=au.new (o:= .tup [.int 0, .bl true]) Bd
    obtain⟨wK,h1⟩:=h1
    exact q hs d' t tt _ h0 ⟨wK,s2 _ _ h1⟩ (s2 _ _ h2) (s2 _ _ h3) (s2 _ _ h4) af fun b o z n1 n2=>s2 _ _ (h5 b o z n1 n2)
   ·refine⟨Sh,HE,f0,true,rfl,Z,T.zw,ix fun e' tV=>?_⟩
    have hE:KI H' e' Sh:= .inr ⟨j4,_,tV,qp⟩
    refine⟨_,rfl,?_⟩
    refine⟨_,rfl,_,rfl,cH ?_⟩
    refine⟨_,rfl,e',_,_,Sh,HE,f0,true,rfl,rfl,Z,T.dF,hE,T.iS,_,rfl,cH ⟨_,rfl,e',rfl,hE,_,rfl,cH ?_⟩⟩
    refine⟨_,rfl,e',Sh,HE,f0,j4,_,_,rfl,Z,T.xt,tV,qp,nJ _ _ _ _,_,rfl,_,rfl,cH ⟨_,rfl,e',Sh,HE,f0,j4,_,_,rfl,Z,T.xu,tV,qp,nI _ _ _ _,_,rfl,_,rfl,cH ⟨_,rfl,e',Sh,HE,f0,j4,_,_,rfl,Z,T.xr,tV,qp,nK _ _ _ _,_,rfl,_,rfl,cH ?_⟩⟩⟩
    refine⟨_,rfl,e',Sh,HE,f0,j4,_,_,rfl,Z,T.xr,tV,qp,nK _ _ _ _,_,rfl,e',Sh,HE,f0,j4,_,_,rfl,Z,T.xt,tV,qp,nJ _ _ _ _,_,rfl,e',Sh,HE,f0,j4,_,_,rfl,Z,T.u7,tV,qp,pD _ _ _ _,_,rfl,e',Sh,HE,f0,j4,_,_,rfl,Z,T.xu,tV,qp,nI _ _ _ _,(by show 5≤sizeLine;decide),fun tt Bd=>?_⟩
    exact qE t x l tt _ hs af (e1.trans (au.new Bd))
  ·refine⟨_,rfl,st,dx,_,rfl,fO,jQ _ _ (by decide+kernel) (by decide+kernel),_,rfl,_,rfl,st,d,g,kvs,gs,r,rfl,⟨dx,fO⟩,hd,hg,hI,mr,PU,aU,hb,fun hs d' t H' h0 h1 h2 h3 h4 h5=>?_,fun t x l e j4 H' hs he qp ne T5 e1=>?_⟩
   ·refine⟨_,rfl,_,rfl,ix ?_⟩
    refine⟨_,rfl,(by show 2≤sizeLine;decide),fun tt Bd=>?_⟩
    have s2:=au.new (o:= .tup [.int 0, .bl true]) Bd
    obtain⟨wK,h1⟩:=h1
    exact q hs d' t tt _ h0 ⟨wK,s2 _ _ h1⟩ (s2 _ _ h2) (s2 _ _ h3) (s2 _ _ h4) af fun b o z n1 n2=>s2 _ _ (h5 b o z n1 n2)
   ·refine⟨Sh,HE,f0,true,rfl,Z,T.zw,ix fun e' tV=>?_⟩
    have hE:KI H' e' Sh:= .inr ⟨j4,_,tV,qp⟩
    refine⟨_,rfl,?_⟩
    refine⟨_,rfl,_,rfl,cH ?_⟩
    refine⟨_,rfl,e',_,_,Sh,HE,f0,true,rfl,rfl,Z,T.dF,hE,T.iS,_,rfl,cH ⟨_,rfl,e',rfl,hE,_,rfl,cH ?_⟩⟩
    refine⟨_,rfl,e',Sh,HE,f0,j4,_,_,rfl,Z,T.xt,tV,qp,nJ _ _ _ _,_,rfl,_,rfl,cH ⟨_,rfl,e',Sh,HE,f0,j4,_,_,rfl,Z,T.xu,tV,qp,nI _ _ _ _,_,rfl,_,rfl,cH ⟨_,rfl,e',Sh,HE,f0,j4,_,_,rfl,Z,T.xr,tV,qp,nK _ _ _ _,_,rfl,_,rfl,cH ?_⟩⟩⟩
    refine⟨_,rfl,e',Sh,HE,f0,j4,_,_,rfl,Z,T.xr,tV,qp,nK _ _ _ _,_,rfl,e',Sh,HE,f0,j4,_,_,rfl,Z,T.xt,tV,qp,nJ _ _ _ _,_,rfl,e',Sh,HE,f0,j4,_,_,rfl,Z,T.u7,tV,qp,pD _ _ _ _,_,rfl,e',Sh,HE,f0,j4,_,_,rfl,Z,T.xu,tV,qp,nI _ _ _ _,(by show 5≤sizeLine;decide),fun tt Bd=>?_⟩
    exact qE t x l tt _ hs af (e1.trans (au.new Bd))
variable {uC uP uI uD uL uT eW eX eY uG uS:Tok} {Ch HE Sh St:Addr}
inductive Be (vs:List V) (H:Hp) (Q:VK) (E:XK):Prop
 |mk (a t g:Int) (dX:vs=[.int a, .int t, .int g]) (dY: -(2^62) <g) (d8:Q (oV (xT a t g)) H)
def vc:Sp:=Be
theorem EO:ax ["amount","taken","gain"] ["amount","taken","gain"] (aj mT):=dB
theorem Bf (D:Def K mg "turns_of" "turns_of" mT ["amount","taken","gain"]):bg P w K mg base 1 "turns_of" ["amount","taken","gain"] vc:=by
 refine D.di EO (fun vs H Q E h=>?_) (fun f bj A outer s H vs Q E hr h=>?_)
 ·obtain⟨a,t,g,rfl,_⟩:=h
  rfl
 ·obtain⟨a,t,g,rfl,hg,q⟩:=h
  refine⟨_,(ai
     (bG (aP mw (pv 0) (pv 1) (aW _))
      (ao
       (aD aq))
      aR)
    (ai
     (bG (aP RY (pv 2) aq (aW _))
      (ao
       (aD vw))
      aR)
    (ao
     (aD (aE cf (aE F8 (aE ka (pv 0) (pv 1)) (pb kb (pv 2))) aq))))),?_⟩
  unfold xT at q
  refine⟨_,rfl,_,rfl,_,_,rfl,rfl,_,rfl,fM (fun e=>?_) fun e=>?_⟩
  ·have e:a<t:=by simpa using e
   rw[if_pos e] at q
   exact q
  have e:¬a<t:=by simpa using e
  rw[if_neg e] at q
  refine⟨_,rfl,_,_,rfl,rfl,_,rfl,fM (fun e=>?_) fun e=>?_⟩
  ·have e:0≤g:=by simpa using e
   rw[if_pos e] at q
   exact q
  have e:¬0≤g:=by simpa using e
  rw[if_neg e] at q
  exact⟨_,rfl,_,rfl,_,_,rfl,rfl,_,rfl,_,rfl,_,_,rfl,rfl,⟨by omega,by omega⟩,_,_,rfl,rfl,q⟩
theorem nM:ax ["change","times","amounts","gained","told","text"] ["change","times","amounts"] (aj p8):=dB
theorem ES (D:Def K mg "turned" "turned" p8 ["change","times","amounts"]) (T:nH K mg C R G Pc Fo Ch uK uN uB uE uM uC uP uI uD uL uT eW eX eY uG uS) (c1:bg P w K mg base 9 "gains" ["change"] (xk C G Pc Fo Ch)):bg P w K mg base 10 "turned" ["change","times","amounts"] (sv C G Pc Fo Ch):=by
 obtain⟨_,_,gW⟩:=c1
 refine D.di nM (fun vs H Q E h=>?_) (fun f bj A outer s H vs Q E hr h=>?_)
 ·obtain⟨c,am,m,xs,ys,kvs,rfl,_⟩:=h
  rfl
 ·obtain⟨c,am,m,xs,ys,kvs,rfl,hC,hx,hy,lx,ly,hG,xv,hI,hl,q⟩:=h
  have hu:=dz hr
  have big:(2000 :Nat)≤sizeLine:=by decide
  refine⟨_,(ai
     (aB (i:=3) nM.nd rfl (Or.inl rfl) (aH gW.ok (hr.mono (by decide)) rfl gW.g gW.kp gW.b .nil ay (aa (pv 0) ak)))
    (ai
     (aB (i:=4) nM.nd rfl (Or.inl rfl) (bK lW rfl T.jN iC (aa (pv 2) ak)))
    (ai
     (dJ (bW PassesOwn.never rfl (cR (pv 3)) (aG (i:=5) nM.nd rfl (Or.inl rfl))
      (ao
       (cQ hu (pv 4) (pv 5) (aE cf (bR hu (pv 4) (pv 5) aq ⟨rfl,rfl,rfl,rfl⟩) (aE g8 (pv 1) (b6 hu (pv 3) (pv 5) (fun _ _=>rfl)))) rfl))))
    (ao
     (aD (pv 4)))))),?_⟩
  refine⟨_,rfl,c,xs,ys,rfl,hC,hx,hy,lx,ly,fun d H1 nd hd e1=>?_⟩
  refine⟨_,rfl,am,_,rfl, .inl (e1 _ _ xv),fun e0 pK=>?_⟩
  have e01:H e0=none:=none_back e1 pK
  have HH:e0≠d:=fun z=>by rw[z,hd] at pK;cases pK
  have s2:=au.new (o:= .dK kvs) pK
  have hd2:=s2 _ _ hd
  have Zn:(upd H1 e0 (.dK kvs)) e0=some (.dK kvs):=af
  have e2:=e1.trans s2
  generalize upd H1 e0 (.dK kvs)=H2 at hd2 Zn e2
  have hgl:(iP xs ys).length≤40:=by
   have h3:(iP xs ys).length≤(uX xs ys).length:=xi _ _
   have h4:=xj xs ys
   omega
  have Ub:bx (iP xs ys):=Cn _ _
  dsimp only [du]
  refine⟨_,rfl,d,iP xs ys,rfl,hd2,fun o nf=>dA nf (fun j σ H3=>∃w:Option V,σ=[some (.ref c),some (.int m),some (.ref am),some (.ref d),some (.ref e0),w]∧H3=upd H2 e0 (.dK (d6 m kvs ((iP xs ys).take j) (iP xs ys)))) ?_ ?_ ?_ ?_⟩
  ·exact⟨none,rfl,(eI Zn).symm⟩
  ·rintro j σ H3 ⟨_,_,rfl⟩
   rw[ah (Ne.symm HH)]
   exact hd2
  ·rintro j k v σ H3 hj ⟨w,rfl,rfl⟩
   have pf:∀o',(upd (upd H2 e0 (.dK (d6 m kvs ((iP xs ys).take j) (iP xs ys)))) d o') e0=some (.dK (d6 m kvs ((iP xs ys).take j) (iP xs ys))):=fun o'=>by rw[ah HH];exact af
   have Zo:=eM m (iP xs ys) ((iP xs ys).take j) kvs
   have Lm:((iP xs ys).take j).length≤(iP xs ys).length:=List.length_take_le' _ _
   have Ho:=df m (iP xs ys) ((iP xs ys).take j) kvs hI
   have hv:=Ub.dN (List.mem_of_getElem? hj)
   have Zc:=hG k
   refine⟨_,rfl,e0,rfl, .inl ⟨_, .inl (pf _)⟩,_,rfl,_,gj.k (k:=k) (pf _),_,rfl,_,rfl,_,rfl,d,V.int (aO (iP xs ys) k),rfl, .inl ⟨_,k, .inr ⟨o,af⟩,rfl,hv.symm⟩,_,_,rfl,rfl, .inr ⟨by omega,by omega⟩,_,_,Ho.at k,rfl,_,rfl,_,rfl,e0,_,rfl,jf.k (k:=k) (pf _) (by omega),?_⟩
   refine⟨by rw[ah (Ne.symm HH)];exact af,some (kV k),rfl,?_⟩
   rw[js HH hd2]
   unfold d6
   rw[take_snoc hj,List.foldl_append]
   rfl
  ·rintro σ H3 ⟨w,rfl,rfl⟩
   rw[List.take_length]
   exact⟨_,rfl,q e0 _ e01 af fun b o' w'=>by rw[ah (ag w' e01)];exact e2 _ _ w'⟩
variable {uC uP uI uD uL uT eW eX eY uG uS:Tok} {Ch HE Sh St:Addr}
theorem ml:ax ["text","change","lost"] ["text"] (aj k7):=dB
theorem ET {xs ys:List Tm} (h:∀k,sumZ xs k=sumZ ys k) (ms:List Str):HJ ms xs ys=[]:=by
 unfold HJ zo
 rw[List.filter_map,List.map_eq_nil_iff,List.filter_eq_nil_iff]
 intro k _
 simp [Function.comp,h]
theorem zD (D:Def K mg "read_even" "read_even" k7 ["text"]) (T:nH K mg C R G Pc Fo Ch uK uN uB uE uM uC uP uI uD uL uT eW eX eY uG uS) (c1:bg P w K mg base 14 "read_change" ["text"] (uW C G Pc Fo Ch)) (c2:aJ P w K mg base 10 Ch "lost" ["self"] (HK C G Pc Fo Ch)):bg P w K mg base 15 "read_even" ["text"] (Ia C G Pc Fo Ch):=by
 obtain⟨_,_,gb⟩:=c1
 obtain⟨_,_,jb⟩:=c2
 refine D.di ml (fun vs H Q E h=>?_) (fun f bj A outer s H vs Q E hr h=>?_)
 ·obtain⟨x,xs,ys,rfl,_⟩:=h
  rfl
 ·obtain⟨x,xs,ys,rfl,hev,q⟩:=h
  obtain⟨h1,h2,h3,h4,h5,h6,h7,h8,h9,h10,h11⟩:=id hev
  refine⟨_,(ai
     (aB (i:=1) ml.nd rfl (Or.inl rfl) (aH gb.ok (hr.mono (by decide)) rfl gb.g gb.kp gb.b .nil ay (aa (pv 0) ak)))
    (ai
     (aB (i:=2) ml.nd rfl (Or.inl rfl) (aN (pv 1) T.b9 jb.m jb.ok (hr.mono (by decide)) jb.b .nil ay))
    (ai
     (bG (qG (pv 2) (fun _=>rfl))
      (ao
       gf)
      aR)
    (ao
     (aD (pv 1)))))),?_⟩
  refine⟨_,rfl,x,xs,ys,rfl,h1,h2,h3,h4,h5,h6,h7,fun c H1 nc hN e1=>?_⟩
  have hC:=hN H1 fun b o _ z=>z
  obtain⟨dx,l,r,hc,_⟩:=id hC
  refine⟨_,rfl,c,dx,_,rfl,hc,yL _ _ (by decide+kernel) (by decide+kernel),c,xs,ys,rfl,hC,fun z hz=>?_,by rw[List.length_append];omega,h8,fun L ts ms H2 hK nL hL hP e2=>?_⟩
  ·rcases List.mem_append.mp hz with z'|z'
   ·exact h9 z z'
   ·exact h10 z z'
  rw[ET h11] at hP
  cases hP
  have xS:H2 L=some (.lst []):=hL
  refine⟨_,rfl,false, .inl ⟨_,b5.of xS,rfl⟩,cH ⟨_,rfl,q c H2 nc (fun cz k=>hN cz fun b o z1 z2=>k b o z1 (e2 _ _ z2)) (e1.trans e2)⟩⟩
variable {uC uP uI uD uL uT eW eX eY uG uS:Tok} {Ch HE Sh St:Addr}
structure Uc (K:PySem.W.Frag) (mg:Str→Option Value) (C R G Pc Fo Ch:Addr) (uK uN uB uE uM uC uP uI uD uL uT eW eX eY uG uS:Tok):Prop extends nH K mg C R G Pc Fo Ch uK uN uB uE uM uC uP uI uD uL uT eW eX eY uG uS where
 Ud:mg "min" =none
theorem sx:∀{l:List Int},l≠[]→∃b∈l,∀a∈l,b≤a
 | [],h=>absurd rfl h
 | [x],_=>⟨x,by simp,fun a ha=>by simp at ha;omega⟩
 |x::y::r,_=>by
  obtain⟨b,hb,hle⟩:=sx (l:=y::r) (by simp)
  by_cases c:x≤b
  ·exact⟨x,by simp,fun a ha=>by
    rcases List.mem_cons.mp ha with z|z
    ·omega
    ·have:=hle a z;omega⟩
  ·exact⟨b,List.mem_cons_of_mem _ hb,fun a ha=>by
    rcases List.mem_cons.mp ha with z|z
    ·omega
    ·exact hle a z⟩
theorem o5:∀{l:List (Option Int)},l.filterMap id=[]→eU l=none
 | [],_=>rfl
 |none::r,h=>o5 (l:=r) (by simpa using h)
 |some i::r,h=>by simp at h
theorem jU:∀{l:List (Option Int)} {m:Int},m∈l.filterMap id→(∀a∈l.filterMap id,m≤a)→eU l=some m
 | [],m,h,_=>by simp at h
 |none::r,m,h,h'=>jU (l:=r) (by simpa using h) (fun a ha=>h' a (by simpa using ha))
 |some i::r,m,h,h'=>by
  have hi:m≤i:=h' i (by simp)
  cases e:eU r with
  |none=>
   have er:r.filterMap id=[]:=by
    cases f:r.filterMap id with
    |nil=>rfl
    |cons a as=>
     obtain⟨b,hb,hle⟩:∃b∈r.filterMap id,∀a∈r.filterMap id,b≤a:=sx (by rw[f];simp)
     rw[jU hb hle] at e
     cases e
   have hm:m=i:=by
    simp [er] at h
    rcases h with h| ⟨h,_⟩<;>omega
   show (match eU r with|none=>some i|some j=>some (if j<i then j else i))=some m
   rw[e,hm]
  |some j=>
   have hj:∃b∈r.filterMap id,∀a∈r.filterMap id,b≤a:=by
    apply sx
    intro z
    rw[o5 z] at e
    cases e
   obtain⟨b,hb,hle⟩:=hj
   have eb:j=b:=by
    have:=jU hb hle
    rw[e] at this
    exact Option.some.inj this
   subst eb
   have hmj:m≤j:=h' j (by rw[List.filterMap_cons];simp;exact .inr (by simpa using hb))
   show (match eU r with|none=>some i|some j=>some (if j<i then j else i))=some m
   rw[e]
   have Oj:m=i∨m∈r.filterMap id:=by
    rw[List.filterMap_cons] at h
    simpa using h
   rcases Oj with Oj|Oj
   ·subst Oj
    dsimp only
    rw[if_neg (by omega)]
   ·have:=hle m Oj
    dsimp only
    split
    ·congr 1;omega
    ·congr 1;omega
theorem iT:ax ["change","amounts","taken","gained","told"] ["change","amounts"] (aj fU):=dB
theorem LU (D:Def K mg "most_turns" "most_turns" fU ["change","amounts"]) (T:Uc K mg C R G Pc Fo Ch uK uN uB uE uM uC uP uI uD uL uT eW eX eY uG uS) (c1:bg P w K mg base 8 "side_counts" ["terms"] (gT C G Pc Fo)) (c2:bg P w K mg base 9 "gains" ["change"] (xk C G Pc Fo Ch)) (c3:bg P w K mg base 1 "turns_of" ["amount","taken","gain"] vc):bg P w K mg base 10 "most_turns" ["change","amounts"] (HZ C G Pc Fo Ch):=by
 obtain⟨_,_,a0⟩:=c1
 obtain⟨_,_,gW⟩:=c2
 obtain⟨_,_,jV⟩:=c3
 refine D.di iT (fun vs H Q E h=>?_) (fun f bj A outer s H vs Q E hr h=>?_)
 ·obtain⟨c,am,xs,ys,kvs,rfl,_⟩:=h
  rfl
 ·obtain⟨c,am,xs,ys,kvs,rfl,hC,hx,hy,lx,ly,hG,xv,hI,q⟩:=h
  have hu:=dz hr
  have big:(2000 :Nat)≤sizeLine:=by decide
  obtain⟨dx,l,r,hc,hl,JK⟩:=id hC
  refine⟨_,(ai
     (aB (i:=2) iT.nd rfl (Or.inr rfl) (aH a0.ok (hr.mono (by decide)) rfl a0.g a0.kp a0.b .nil ay (aa (a5 (pv 0) rfl) ak)))
    (ai
     (aB (i:=3) iT.nd rfl (Or.inr rfl) (aH gW.ok (hr.mono (by decide)) rfl gW.g gW.kp gW.b .nil ay (aa (pv 0) ak)))
    (ai
     (dJ (pU (i:=4) iT.nd rfl (Or.inl rfl) (sc:=(aj fU)) (NX:=["change","amounts","taken","gained","told"]) (N:=["text","taken","amounts","gained"]) (fr:=[none,some 2,some 1,some 3]) ⟨by rfl,by rfl,by decide+kernel,by decide+kernel,by decide+kernel,by rfl,by decide+kernel⟩ rfl rfl rfl (cR (pv 2)) (fun _ _ _ _=>(aG (i:=0) (show (["text","taken","amounts","gained"]:List Str).Nodup by decide+kernel) rfl (Or.inl rfl) (Or.inr rfl))) (fun _ _ _ _=>f7) (fun _ _ _ _=>(aH jV.ok (hr.mono (by decide)) rfl jV.g jV.kp jV.b .nil ay (aa (bR hu (pv 2) (pv 0) aq ⟨rfl,rfl,rfl,rfl⟩) (aa (b6 hu (pv 1) (pv 0) (fun _ _=>rfl)) (aa (bR hu (pv 3) (pv 0) aq ⟨rfl,rfl,rfl,rfl⟩) ak)))))))
    (ao
     (aD (KL rfl rfl T.Ud (aa (fy (sc:=(aj fU)) (NX:=["change","amounts","taken","gained","told"]) (N:=["turns"]) (fr:=[none]) ⟨by rfl,by rfl,by decide+kernel,by decide+kernel,by decide+kernel,by rfl,by decide+kernel⟩ rfl rfl rfl (cN (pv 4)) (fun _ _ _ _=>(aG (i:=0) (show (["turns"]:List Str).Nodup by decide+kernel) rfl (Or.inl rfl) (Or.inr rfl))) (fun _ _ _ _=>(mD (qA (vx (pv 0))))) (fun _ _ _ _=>(pv 0))) ak))))))),?_⟩
  refine⟨_,rfl,c,Ch,dx,_,_,rfl,hc,T.b9,T.ib,eZ _ _,l,xs,rfl,hl,hx,lx,fun tk H1 M9 xP e1=>?_⟩
  refine⟨_,rfl,c,xs,ys,rfl,hC.same e1,hx,hy,lx,ly,fun gn H2 ngn hgn e2=>?_⟩
  have zW:=e1.trans e2
  have htk2:H2 tk=some (.dK (aA xs)):=e2 _ _ xP
  have Rt:bx (aA xs):=cC _
  have Ub:bx (iP xs ys):=Cn _ _
  have A9:(aA xs).length≤20:=by
   have:=dE (fK xs)
   have e:(fK xs).length=xs.length:=by unfold fK;rw[List.length_map]
   unfold aA
   omega
  have ham2:=zW _ _ xv
  have nat:am≠tk:=ag xv M9
  have ngt:gn≠tk:=Ne.symm (ag xP ngn)
  refine⟨_,rfl,tk,aA xs,rfl,htk2,fun o nf L hL=>?_⟩
  have Rr:L≠tk:=fun z=>by rw[z,af] at hL;cases hL
  have xS:H2 L=none:=by rwa [ah Rr] at hL
  refine kT (a:=tk) (D:=L) (kvs:=aA xs) (fun i σ H'=>∃v:Option V,σ=[v,some (.ref tk),some (.ref am),some (.ref gn)]∧H' tk=some (.fN o (.dK (aA xs)))∧H' L=some (.lst (((aA xs).take i).map fun q=>oV (xT (aO kvs q.1) (aO (aA xs) q.1) (aO (iP xs ys) q.1))))∧∀b o',H2 b=some o'→b≠tk→H' b=some o') ?_ (fun i σ H' ⟨_,_,z,_⟩=>z) ?_ ?_
  ·exact⟨none,rfl,by rw[ah (Ne.symm Rr),af],af,fun b o' z hb=>by rw[ah (ag z xS),ah hb];exact z⟩
  ·rintro i k v σ H' hi ⟨v',rfl,f1,f2,f3⟩ N hN
   have hv:=Rt.dN (List.mem_of_getElem? hi)
   have ha:=f3 _ _ ham2 nat
   have hg:=f3 _ _ hgn ngt
   have yi:=(List.getElem?_eq_some_iff.mp hi).1
   refine⟨_,rfl,am,rfl, .inl ⟨_, .inl ha⟩,_,rfl,_,gj.k (k:=k) ha,_,rfl,_,rfl,tk,V.int (aO (aA xs) k),rfl, .inl ⟨_,k, .inr ⟨o,f1⟩,rfl,hv.symm⟩,_,rfl,gn,rfl, .inl ⟨_, .inl hg⟩,_,rfl,_,gj.k (k:=k) hg,?_⟩
   rw[hI.at k,Ub.at k]
   refine⟨aO kvs k,aO (aA xs) k,aO (iP xs ys) k,rfl,(hG k).1,_,f2,by rw[List.length_map,List.length_take];omega,hN _ _ ⟨_,rfl,by rw[ah (Ne.symm Rr)];exact f1,?_,fun b o' z hb=>by rw[ah (ag z xS)];exact f3 b o' z hb⟩⟩
   rw[af,take_snoc hi,List.map_append]
   rfl
  rintro σ H' ⟨v',rfl,f1,f2,f3⟩
  rw[List.take_length] at f2
  refine⟨tk,o,aA xs,f1,nf,?_⟩
  have s3:au H (upd H' tk (.dK (aA xs))):=fun b o' z=>by
   have nb:b≠tk:=ag z M9
   rw[ah nb]
   exact f3 _ _ (zW _ _ z) nb
  have nE:(upd H' tk (.dK (aA xs))) L=some (.lst ((aA xs).map fun q=>oV (xT (aO kvs q.1) (aO (aA xs) q.1) (aO (iP xs ys) q.1)))):=by rw[ah Rr];exact f2
  have em:u9 kvs xs ys=eU ((aA xs).map fun q=>xT (aO kvs q.1) (aO (aA xs) q.1) (aO (iP xs ys) q.1)):=rfl
  have eo:((aA xs).map fun q=>oV (xT (aO kvs q.1) (aO (aA xs) q.1) (aO (iP xs ys) q.1)))=((aA xs).map fun q=>xT (aO kvs q.1) (aO (aA xs) q.1) (aO (iP xs ys) q.1)).map oV:=by rw[List.map_map];rfl
  rw[eo] at nE
  have hol:((aA xs).map fun q=>xT (aO kvs q.1) (aO (aA xs) q.1) (aO (iP xs ys) q.1)).length≤20:=by rw[List.length_map];exact A9
  rw[em] at q
  generalize ((aA xs).map fun q=>xT (aO kvs q.1) (aO (aA xs) q.1) (aO (iP xs ys) q.1))=os at nE hol q
  generalize upd H' tk (.dK (aA xs))=H3 at s3 nE ⊢
  have hlen:∀i,((os.take i).filterMap id).length≤i:=fun i=>Nat.le_trans (List.length_filterMap_le _ _) (by rw[List.length_take];omega)
  refine⟨_,rfl,L,rfl,⟨_,b5.of nE⟩,fun M hM=>tU (K:=K) (a:=L) (L:=M) (xs:=os.map oV) H3 (fun σ=>∃v:Option V,σ=[v]) (fun i ys=>ys=((os.take i).filterMap id).map V.int) (b5.of nE) hM ⟨none,rfl⟩ (au.new hM) af rfl (by rw[List.length_map];omega) ?_ ?_ ?_⟩
  ·rintro i ys rfl
   rw[List.length_map]
   exact hlen i
  ·rintro i v σ H5 ys hi ⟨w,rfl⟩ e5 Ue rfl N M' hN hM'
   rw[List.getElem?_map] at hi
   obtain⟨z,hz,rfl⟩:∃z,os[i]? =some z∧v=oV z:=by
    cases hh:os[i]? with
    |none=>rw[hh] at hi;cases hi
    |some z=>rw[hh] at hi;exact⟨z,rfl,(Option.some.inj hi).symm⟩
   cases z with
   |none=>
    refine⟨_,rfl,_,rfl,cH (hM' _ _ ⟨_,rfl⟩ e5 Ue ?_)⟩
    rw[take_snoc hz,List.filterMap_append]
    simp
   |some j=>
    refine⟨_,rfl,_,rfl,ix ⟨_,rfl,hN _ _ _ ⟨_,rfl⟩ e5 Ue ?_⟩⟩
    rw[take_snoc hz,List.filterMap_append,List.map_append]
    rfl
  ·rintro H5 ys e5 Ue rfl
   rw[List.length_map,List.take_length] at Ue
   refine⟨M,os.filterMap id,rfl,b5.of Ue,fun h0=>?_,fun m hm hle=>?_⟩
   ·have:=q H5 (s3.trans e5)
    rw[o5 h0] at this
    exact this
   ·have:=q H5 (s3.trans e5)
    rw[jU hm hle] at this
    exact this
variable {uC uP uI uD uL uT eW eX eY uG uS:Tok} {Ch HE Sh St:Addr}
inductive Ij (vs:List V) (H:Hp) (Q:VK) (E:XK):Prop
 |mk (l:Addr) (xs:List Tm) (dX:vs=[.ref l]) (dY:cT H l xs) (d8:(∀x∈xs,cS x.2)) (fk:xs.length≤20) (gG:∀e H',H e=none→H' e=some (.dK (aA xs))→au H H'→Q (.ref e) H')
def CI:Sp:=Ij
theorem qr:ax ["_law_terms","_law_found","_law_count_here","_law_formula"] ["_law_terms"] (aj wg):=dB
theorem Ik (D:Def K mg "_law_asked" "_law_asked" wg ["_law_terms"]):bg P w K mg base 1 "_law_asked" ["_law_terms"] CI:=by
 refine D.di qr (fun vs H Q E h=>?_) (fun f bj A outer s H vs Q E hr h=>?_)
 ·obtain⟨l,xs,rfl,_⟩:=h
  rfl
 ·obtain⟨l,xs,rfl,⟨ts,hl,hP⟩,aU,Zl,q⟩:=h
  have hu:=dz hr
  have big:(2000 :Nat) <sizeLine:=by decide
  have iX:=Paired.length hP
  refine⟨_,(ai
     (aB (i:=1) qr.nd rfl (Or.inl rfl) dw)
    (ai
     (bW PassesOwn.never rfl (cN (pv 0)) (g7 rfl (bp (aG (i:=2) qr.nd rfl (Or.inl rfl)) (bp (aG (i:=3) qr.nd rfl (Or.inl rfl)) dZ)))
      (ao
       (cQ hu (pv 1) (cE hV (pv 3) aq (fun _ _=>rfl)) (aE cf (bR hu (pv 1) (cE hV (pv 3) aq (fun _ _=>rfl)) aq ⟨rfl,rfl,rfl,rfl⟩) (pv 2)) rfl)))
    (ao
     (aD (pv 1))))),?_⟩
  refine fun d hd=>?_
  have sD:=au.new (o:= .dK []) hd
  refine⟨_,rfl,l,rfl,⟨_,b5.of (sD _ _ hl)⟩,fq (K:=K) (a:=l) (xs:=ts.map V.ref) (fun i σ H'=>∃v2 v3:Option V,σ=[some (.ref l),some (.ref d),v2,v3]∧H' d=some (.dK (a8 1 [] (fK (xs.take i))))∧au H H') ?_ (fun i σ H' _ ⟨_,_,_,_,z⟩=>b5.of (z _ _ hl)) ?_ ?_⟩
  ·exact⟨none,none,rfl,af,sD⟩
  ·rintro i v σ H' hi ⟨v2,v3,rfl,fQ,e⟩
   rw[List.getElem?_map] at hi
   obtain⟨t,ht,rfl⟩:∃p,ts[i]? =some p∧v=V.ref p:=by
    cases hh:ts[i]? with
    |none=>rw[hh] at hi;cases hi
    |some p=>rw[hh] at hi;exact⟨p,rfl,(Option.some.inj hi).symm⟩
   obtain⟨y,hy,fo,h1,cd,h2,_⟩:=bI hP ht
   have hI:bx (a8 1 [] (fK (xs.take i))):=iI 1 _ _ fun p hp=>by cases hp
   have mr:=iJ 1 (fK (xs.take i)) []
   have Zm:(fK (xs.take i)).length≤20:=by unfold fK;rw[List.length_map,List.length_take];omega
   rw[List.length_nil] at mr
   refine⟨t,_,rfl,jc.of (e _ _ h1),rfl,_,_,rfl,_,_,rfl,rfl,?_⟩
   refine⟨_,rfl,d,rfl, .inl ⟨_, .inl fQ⟩,_,rfl,fo,_,_,_,rfl,rfl,jc.of (e _ _ h2),rfl,_,gj.k (k:=Sum.inr ⟨(fL y.2).toArray⟩) fQ,_,rfl,_,_,hI.at _,rfl,_,rfl,_,rfl,fo,_,_,_,rfl,rfl,jc.of (e _ _ h2),rfl,d,_,rfl,jf.k (k:=Sum.inr ⟨(fL y.2).toArray⟩) fQ (by omega),?_⟩
   refine⟨_,_,rfl,?_,fun b o z=>?_⟩
   ·rw[af,yY hy]
    rfl
   ·rw[ah (ag z hd)]
    exact e _ _ z
  ·rintro σ H' ⟨v2,v3,rfl,fQ,e⟩
   rw[List.length_map,iX,List.take_length] at fQ
   exact⟨_,rfl,q d H' hd fQ e⟩
variable {uC uP uI uD uL uT:Tok} {St:Addr}
def lC (H:Hp) (l:Addr) (ws:List Fm):Prop:=∃ts:List Addr,H l=some (.lst (ts.map V.ref))∧Paired (yJ H) ts ws
theorem lC.same {H H':Hp} {l:Addr} {ws:List Fm} (h:lC H l ws) (e:au H H'):lC H' l ws:=let ⟨ts,h1,h2⟩:=h;⟨ts,e _ _ h1,aK (fun _ _ z=>z.same e) h2⟩
inductive Il (K:PySem.W.Frag) (vs:List V) (H:Hp) (Q:VK) (E:XK):Prop
 |mk (a:Addr) (ns:List Int) (dX:vs=[.ref a]) (dY:b5 K H a (ns.map V.int)) (d8:ns.length≤63) (fk:∀(l:Addr) (ws:List Fm) H',lC H' l ws→(∀w∈ws,cS w)→(∀w∈ws,(cW 1 w.1).length≤3)→ws.length=3→au H H'→Q (.ref l) H')
def CJ (K:PySem.W.Frag):Sp:=Il K
theorem CK:ax ["_law_script","_law_kinds"] ["_law_script"] (aj oC):=dB
theorem Im (D:Def K mg "_law_world" "_law_world" oC ["_law_script"]) (T:pN K mg C R G Pc Fo St uK uN uB uE uM uC uP uI uD uL uT) (c1:bg P w K mg base 1 "_law_cell_at" ["_law_script","_law_k"] (rn K)) (c2:bg P w K mg base 1 "_law_mixed" ["_law_cell","_law_prime"] M7) (c3:bg P w K mg base 1 "_law_kind" ["_law_number"] Cc) (c4:bg P w K mg base 2 "_law_matter" ["_law_cell","_law_kinds"] zu):
  bg P w K mg base 3 "_law_world" ["_law_script"] (CJ K):=by
 obtain⟨_,_,aM⟩:=c1
 obtain⟨_,_,fb⟩:=c2
 obtain⟨_,_,nN⟩:=c3
 obtain⟨_,_,jW⟩:=c4
 refine D.di CK (fun vs H Q E h=>?_) (fun f bj A outer s H vs Q E hr h=>?_)
 ·obtain⟨a,ns,rfl,_⟩:=h
  rfl
 ·obtain⟨a,ns,rfl,hS,hlen,q⟩:=h
  have hu:=dz hr
  have TY:=hr.oh
  have big:(2000 :Nat)≤sizeLine:=by decide
  refine⟨_,(ai
     (aB (i:=1) CK.nd rfl (Or.inr rfl) (fy (sc:=(aj oC)) (NX:=["_law_script","_law_kinds"]) (N:=["_law_k","_law_script"]) (fr:=[none,some 0]) ⟨by rfl,by rfl,by decide+kernel,by decide+kernel,by decide+kernel,by rfl,by decide+kernel⟩ rfl rfl rfl (gX rfl T.la (aa aq ak)) (fun _ _ _ _=>(aG (i:=0) (show (["_law_k","_law_script"]:List Str).Nodup by decide+kernel) rfl (Or.inl rfl) (Or.inr rfl))) (fun _ _ _ _=>f7) (fun _ _ _ _=>(aH nN.ok (hr.mono (by decide)) rfl nN.g nN.kp nN.b .nil ay (aa (aH fb.ok (hr.mono (by decide)) rfl fb.g fb.kp fb.b .nil ay (aa (aH aM.ok (hr.mono (by decide)) rfl aM.g aM.kp aM.b .nil ay (aa (pv 1) (aa (pv 0) ak))) (aa aq ak))) ak)))))
    (ao
     (aD (fy (sc:=(aj oC)) (NX:=["_law_script","_law_kinds"]) (N:=["_law_k","_law_kinds","_law_script"]) (fr:=[none,some 1,some 0]) ⟨by rfl,by rfl,by decide+kernel,by decide+kernel,by decide+kernel,by rfl,by decide+kernel⟩ rfl rfl rfl (gX rfl T.la (aa aq ak)) (fun _ _ _ _=>(aG (i:=0) (show (["_law_k","_law_kinds","_law_script"]:List Str).Nodup by decide+kernel) rfl (Or.inl rfl) (Or.inr rfl))) (fun _ _ _ _=>f7) (fun _ _ _ _=>(aH jW.ok (hr.mono (by decide)) rfl jW.g jW.kp jW.b .nil ay (aa (aH fb.ok (hr.mono (by decide)) rfl fb.g fb.kp fb.b .nil ay (aa (aH aM.ok (hr.mono (by decide)) rfl aM.g aM.kp aM.b .nil ay (aa (pv 2) (aa (aE cf aq (pv 0)) ak))) (aa aq ak))) (aa (pv 1) ak)))))))),?_⟩
  refine⟨_,rfl,by decide,by decide,fun L hL=>F4 (L:=L) H (fun σ=>∃v:Option V,σ=[v,some (.ref a)]) (fun i ys=>∃ks:List (List Nat),ys=ks.map (fun k=>V.str ⟨k.toArray⟩)∧ks.length=i∧∀k∈ks,l6 k) hL ⟨none,rfl⟩ (au.new hL) af ⟨[],rfl,rfl,fun k hk=>by cases hk⟩ (by decide) ?_ ?_ ?_⟩
  ·rintro i ys ⟨ks,rfl,e,_⟩
   rw[List.length_map,e];exact Nat.le_refl _
  ·rintro i σ H2 ys hi ⟨v,rfl⟩ e2 sX ⟨ks,rfl,mr,xQ⟩ N M hN
   refine⟨_,rfl,_,rfl,a,ns,i,by rw[Int.zero_add];rfl,e2.seq hS,hlen,fun n=>⟨n,1000003,rfl,by decide,by decide,fun n2=>⟨n2,rfl,fun k H3 hk e3=>?_⟩⟩⟩
   refine hN _ _ _ ⟨_,rfl⟩ (e2.trans e3) (e3 _ _ sX) ⟨ks++[k],by rw[List.map_append];rfl,by rw[List.length_append,mr];rfl,fun k' MN=>?_⟩
   rcases List.mem_append.mp MN with z|z
   ·exact xQ k' z
   ·have:k'=k:=by simpa using z
    rw[this];exact hk
  rintro H2 ys e2 sX ⟨ks,rfl,mr,xQ⟩
  obtain⟨k0,k1,k2,rfl⟩:∃k0 k1 k2,ks=[k0,k1,k2]:=by
   match ks,mr with
   | [k0,k1,k2],_=>exact⟨k0,k1,k2,rfl⟩
  have hk0:=xQ k0 (by simp)
  have T1:=xQ k1 (by simp)
  have LF:=xQ k2 (by simp)
  refine⟨_,rfl,by decide,by decide,fun L3 nE=>DI (L:=L3) H2 (fun σ=>∃v:Option V,σ=[v,some (.ref L),some (.ref a)]) (fun i ys H'=>∃(ts ds:List Addr) (ws:List Fm),ys=ts.map V.ref∧ts.length=i∧(∀w∈ws,cS w)∧(∀w∈ws,(cW 1 w.1).length≤3)∧Paired (fun t x=>t≠L3∧∃d,d≠L3∧H' t=some (.tup [.str ⟨(fL x).toArray⟩, .ref d, .int x.2])∧H' d=some (.dK (cW 1 x.1))) ts ws) ?_ nE ⟨none,rfl⟩ (au.new nE) af ⟨[],[],[],rfl,rfl,(fun k hk=>by cases hk),(fun k hk=>by cases hk), .nil⟩ (by decide) ?_ ?_ ?_⟩
  ·rintro i ys Ha Hb hb ⟨ts,ds,ws,h1,h2,h3,h3',h4⟩
   exact⟨ts,ds,ws,h1,h2,h3,h3',aK (fun t x ⟨n1,d,n2,z1,z2⟩=>⟨n1,d,n2,hb _ _ z1 n1,hb _ _ z2 n2⟩) h4⟩
  ·rintro i ys H' ⟨ts,ds,ws,rfl,h2,_⟩
   rw[List.length_map,h2];exact Nat.le_refl _
  ·rintro i σ H5 ys hi ⟨v,rfl⟩ e5 px ⟨ts,ds,ws,rfl,A9,aU,Bg,hP⟩ N M hN
   have ek:(3 :Int)+(0+(i:Int))=((3+i:Nat):Int):=by omega
   refine⟨_,rfl,_,rfl,_,_,rfl,rfl,a,ns,3+i,by rw[←ek];rfl,e5.seq (e2.seq hS),hlen,fun n=>⟨n,1000033,rfl,by decide,by decide,fun n2=>⟨_,rfl,n2,L,k0,k1,k2,rfl,e5 _ _ sX,hk0,T1,LF,fun t x H6 mq PX hF e6=>?_⟩⟩⟩
   obtain⟨d,h1,h2⟩:=hF
   have Lb:=e6 _ _ px
   refine hN _ _ _ ⟨_,rfl⟩ (e5.trans e6) Lb ⟨ts++[t],ds,ws++[x],by rw[List.map_append];rfl,by rw[List.length_append,A9];rfl,fun w hw=>?_,fun w hw=>?_,?_⟩
   ·rcases List.mem_append.mp hw with z|z
    ·exact aU w z
    ·have:w=x:=by simpa using z
     rw[this];exact mq
   ·rcases List.mem_append.mp hw with z|z
    ·exact Bg w z
    ·have:w=x:=by simpa using z
     rw[this];exact PX
   ·exact bS ⟨cI h1 Lb (by intro z;cases z),d,cI h2 Lb (by intro z;cases z),h1,h2⟩ (aK (fun t x ⟨n1,d,n2,z1,z2⟩=>⟨n1,d,n2,e6 _ _ z1,e6 _ _ z2⟩) hP)
  ·rintro H5 ys e5 px ⟨ts,ds,ws,rfl,A9,aU,Bg,hP⟩
   refine q L3 ws H5 ⟨ts,px,aK (fun t x ⟨n1,d,n2,z1,z2⟩=>⟨d,z1,z2⟩) hP⟩ aU Bg ?_ (e2.trans e5)
   rw[←Paired.length hP,A9];rfl
inductive Io (vs:List V) (H:Hp) (Q:VK) (E:XK):Prop
 |mk (l:Addr) (ws:List Fm) (dX:vs=[.ref l]) (dY:lC H l ws) (d8:(∀w∈ws,cS w)) (fk:ws.length=3) (gG:∀(e:Addr) (xs:List Str) H',H' e=some (.lst (xs.map V.str))→(∀x∈xs,Told ws x)→(∀x,Told ws x→x∈xs)→1≤xs.length→xs.length≤30→au H H'→Q (.ref e) H')
def CL:Sp:=Io
theorem lD:ax ["_law_world_here","_law_found","_law_text_here","_law_counts","_law_charge","_law_kind_here"] ["_law_world_here"] (aj wj):=dB
theorem qt (kvs:List (Key×V)) (k:Key) (v:V):k∈(putK kvs k v).map (·.1):=by
 unfold putK
 split
 ·rename_i h
  obtain⟨q,hq,e⟩:=List.any_eq_true.mp h
  have e:q.1=k:=by simpa using e
  exact List.mem_map.mpr ⟨(q.1,v),List.mem_map.mpr ⟨q,hq,by rw[if_pos e]⟩,e⟩
 ·rw[List.map_append]
  exact List.mem_append_right _ (by simp)
theorem gm {kvs:List (Key×V)} {k j:Key} {v:V} (h:j∈kvs.map (·.1)):j∈(putK kvs k v).map (·.1):=by
 obtain⟨q,hq,rfl⟩:=List.mem_map.mp h
 unfold putK
 split
 ·refine List.mem_map.mpr ⟨if q.1=k then (q.1,v) else q,List.mem_map.mpr ⟨q,hq,rfl⟩,?_⟩
  split<;>rfl
 ·rw[List.map_append]
  exact List.mem_append_left _ (List.mem_map_of_mem hq)
def Ip (ws:List Fm) (kvs:List (Key×V)):Prop:=(Sum.inr "e^-" :Key)∈kvs.map (·.1)∧∀w∈ws,(Sum.inr (⟨(fL w).toArray⟩:Str):Key)∈kvs.map (·.1)∧∀k∈(cW 1 w.1).map (·.1),k∈kvs.map (·.1)
theorem Ip.put {ws:List Fm} {kvs:List (Key×V)} (h:Ip ws kvs) (k:Key) (v:V):Ip ws (putK kvs k v):=⟨gm h.1,fun w hw=>⟨gm (h.2 w hw).1,fun j hj=>gm ((h.2 w hw).2 j hj)⟩⟩
def pE (ws:List Fm) (kvs:List (Key×V)):Prop:=∀q∈kvs,∃s,q.1=Sum.inr s∧Told ws s
theorem pE.put {ws:List Fm} {kvs:List (Key×V)} (h:pE ws kvs) {s:Str} (hs:Told ws s) (v:V):pE ws (putK kvs (Sum.inr s) v):=fun q hq=>by
 rcases qo hq with hq|hq
 ·exact h q hq
 ·exact⟨s,by rw[hq],hs⟩
theorem CM (kvs:List (Key×V)) (k:Key) (v:V):kvs.length≤(putK kvs k v).length:=by
 unfold putK
 split
 ·rw[List.length_map];exact Nat.le_refl _
 ·rw[List.length_append];exact Nat.le_add_right _ _
theorem vd {ws:List Fm}:∀{kvs:List (Key×V)},pE ws kvs→∃xs:List Str,(kvs.map fun q=>kV q.1)=xs.map V.str∧(∀x∈xs,Told ws x)∧xs.length=kvs.length
 | [],_=>⟨[],rfl,(fun x hx=>by cases hx),rfl⟩
 |p::r,h=>by
  obtain⟨xs,e,h1,h2⟩:=vd (kvs:=r) fun q hq=>h q (List.mem_cons_of_mem _ hq)
  obtain⟨s,es,hs⟩:=h p (List.mem_cons_self ..)
  refine⟨s::xs,?_,fun x hx=>?_,by rw[List.length_cons,List.length_cons,h2]⟩
  ·rw[List.map_cons,List.map_cons,e,es]
   rfl
  ·rcases List.mem_cons.mp hx with z|z
   ·rw[z];exact hs
   ·exact h1 x z
theorem Iq (D:Def K mg "_law_texts" "_law_texts" wj ["_law_world_here"]) (T:pN K mg C R G Pc Fo St uK uN uB uE uM uC uP uI uD uL uT):bg P w K mg base 1 "_law_texts" ["_law_world_here"] CL:=by
 refine D.di lD (fun vs H Q E h=>?_) (fun f bj A outer s H vs Q E hr h=>?_)
 ·obtain⟨l,ws,rfl,_⟩:=h
  rfl
 ·obtain⟨l,ws,rfl,⟨ts,hl,hP⟩,aU,h3,q⟩:=h
  have hu:=dz hr
  have TY:=hr.oh
  have big:(2000 :Nat)≤sizeLine:=by decide
  have iX:=Paired.length hP
  refine⟨_,(ai
     (aB (i:=1) lD.nd rfl (Or.inl rfl) (vC (qL bJ j2 vB) rfl rfl (by intro z;cases z) (by decide)))
    (ai
     (bW PassesOwn.never rfl (cN (pv 0)) (g7 rfl (bp (aG (i:=2) lD.nd rfl (Or.inl rfl)) (bp (aG (i:=3) lD.nd rfl (Or.inl rfl)) (bp (aG (i:=4) lD.nd rfl (Or.inl rfl)) dZ))))
      (ai
       (cQ hu (pv 1) (pv 2) j2 rfl)
      (ao
       (dJ (bW PassesOwn.never rfl (cR (pv 3)) (aG (i:=5) lD.nd rfl (Or.inl rfl))
        (ao
         (cQ hu (pv 1) (pv 5) j2 rfl)))))))
    (ao
     (aD (bK (rf rfl) rfl T.n_list kS (aa (pv 1) ak)))))),?_⟩
  refine fun d hd=>?_
  refine⟨af,[(Sum.inr "e^-", .bl true)],rfl,(by show 1≤15;decide),?_⟩
  have Rh:(upd (upd H d (.dK [])) d (.dK (cu [] [(Sum.inr "e^-",V.bl true)]))) d=some (.dK [(Sum.inr "e^-", .bl true)]):=af
  have s0:au H (upd (upd H d (.dK [])) d (.dK (cu [] [(Sum.inr "e^-",V.bl true)]))):=fun b o z=>by
   rw[ah (ag z hd),ah (ag z hd)]
   exact z
  generalize upd (upd H d (.dK [])) d (.dK (cu [] [(Sum.inr "e^-",V.bl true)]))=H0 at Rh s0 ⊢
  refine⟨_,rfl,l,rfl,⟨_,b5.of (s0 _ _ hl)⟩,fq (K:=K) (a:=l) (xs:=ts.map V.ref) (fun i σ H'=>∃(kvs:List (Key×V)) (v2 v3 v4 v5:Option V),σ=[some (.ref l),some (.ref d),v2,v3,v4,v5]∧H' d=some (.dK kvs)∧pE ws kvs∧Ip (ws.take i) kvs∧1≤kvs.length∧kvs.length≤1+8*i∧au H H') ?_ (fun i σ H' _ ⟨_,_,_,_,_,_,_,_,_,_,_,z⟩=>b5.of (z _ _ hl)) ?_ ?_⟩
  ·refine⟨_,none,none,none,none,rfl,Rh,fun q hq=>?_,⟨by simp,fun w hw=>by cases hw⟩,Nat.le_refl _,Nat.le_refl _,s0⟩
   have e:q=((Sum.inr ("e^-" :Str),V.bl true):Key×V):=by simpa using hq
   exact⟨"e^-",by rw[e], .inl rfl⟩
  ·rintro i v σ H' hi ⟨kvs,v2,v3,v4,v5,rfl,fQ,hT,hS,T1,LF,e⟩
   rw[List.getElem?_map] at hi
   obtain⟨t,ht,rfl⟩:∃p,ts[i]? =some p∧v=V.ref p:=by
    cases hh:ts[i]? with
    |none=>rw[hh] at hi;cases hi
    |some p=>rw[hh] at hi;exact⟨p,rfl,(Option.some.inj hi).symm⟩
   obtain⟨x,hx,cd,h1,h2⟩:=bI hP ht
   have PY:=List.mem_of_getElem? hx
   have mq:=aU x PY
   have yi:i<3:=by have:=(List.getElem?_eq_some_iff.mp hx).1;omega
   have Ro:(cW 1 x.1).length≤7:=A0 mq.2.2
   have ncd:cd≠d:=ag h2 hd
   refine⟨t,_,rfl,jc.of (e _ _ h1),rfl,_,_,rfl,_,_,rfl,_,_,rfl,rfl,?_⟩
   refine⟨_,rfl,_,rfl,d,_,rfl,jf.k (k:=Sum.inr ⟨(fL x).toArray⟩) fQ (by omega),?_⟩
   have hT1:=hT.put (.inr (.inl ⟨x,PY,rfl⟩)) (V.bl true)
   have zP:(putK kvs (Sum.inr (⟨(fL x).toArray⟩:Str)) (V.bl true)).length≤kvs.length+1:=bY _ _ _
   have PU:kvs.length≤(putK kvs (Sum.inr (⟨(fL x).toArray⟩:Str)) (V.bl true)).length:=CM _ _ _
   have hS1:=hS.put (Sum.inr (⟨(fL x).toArray⟩:Str)) (V.bl true)
   have Ug:=qt kvs (Sum.inr (⟨(fL x).toArray⟩:Str)) (V.bl true)
   generalize putK kvs (Sum.inr (⟨(fL x).toArray⟩:Str)) (V.bl true)=Uh at hT1 zP PU hS1 Ug ⊢
   have e1:au H (upd H' d (.dK Uh)):=fun b o z=>by rw[ah (ag z hd)];exact e _ _ z
   have Ff:(upd H' d (.dK Uh)) d=some (.dK Uh):=af
   generalize upd H' d (.dK Uh)=H1 at e1 Ff ⊢
   dsimp only [du]
   refine⟨_,rfl,cd,cW 1 x.1,rfl,e1 _ _ h2,fun o nf=>dA nf (fun j σ H3=>∃(w:Option V) (Bh:List (Key×V)),σ=[some (.ref l),some (.ref d),some (.str ⟨(fL x).toArray⟩),some (.ref cd),some (.int x.2),w]∧H3 d=some (.dK Bh)∧pE ws Bh∧Ip (ws.take i) Bh∧(Sum.inr (⟨(fL x).toArray⟩:Str):Key)∈Bh.map (·.1)∧(∀k∈((cW 1 x.1).take j).map (·.1),k∈Bh.map (·.1))∧1≤Bh.length∧Bh.length≤2+8*i+j∧au H H3) ?_ (fun j σ H3 ⟨_,_,_,_,_,_,_,_,_,_,z⟩=>z _ _ h2) ?_ ?_⟩
   ·exact⟨v5,Uh,rfl,Ff,hT1,hS1,Ug,(fun k hk=>by cases hk),by omega,by omega,e1⟩
   ·rintro j k v σ H3 hj ⟨w,Bh,rfl,JL,Rv,LV,PZ,CN,Rk,hl3,e3⟩
    obtain⟨kk,Zp,ek⟩:=xo mq _ (List.mem_of_getElem? hj)
    have ek:k=Sum.inr (⟨kk.toArray⟩:Str):=ek
    subst ek
    have hjl:j< (cW 1 x.1).length:=(List.getElem?_eq_some_iff.mp hj).1
    have GZ:(upd H3 cd (.fN o (.dK (cW 1 x.1)))) d=some (.dK Bh):=by rw[ah (Ne.symm ncd)];exact JL
    refine⟨_,rfl,_,rfl,d,_,rfl,jf.k (k:=Sum.inr ⟨kk.toArray⟩) GZ (by omega),?_⟩
    have Zy:=Rv.put (.inr (.inr ⟨x,PY,List.mem_map_of_mem (f:=(·.1)) (List.mem_of_getElem? hj)⟩)) (V.bl true)
    have MS:(putK Bh (Sum.inr (⟨kk.toArray⟩:Str)) (V.bl true)).length≤Bh.length+1:=bY _ _ _
    have hg4:Bh.length≤(putK Bh (Sum.inr (⟨kk.toArray⟩:Str)) (V.bl true)).length:=CM _ _ _
    refine⟨by rw[ah ncd];exact af,_,_,rfl,by rw[ah (Ne.symm ncd),af],Zy,LV.put _ _,gm PZ,fun k hk=>?_,by omega,by omega,fun b o' z=>?_⟩
    ·rw[take_snoc hj,List.map_append] at hk
     rcases List.mem_append.mp hk with hk|hk
     ·exact gm (CN k hk)
     ·have ek:k=Sum.inr (⟨kk.toArray⟩:Str):=by simpa using hk
      rw[ek]
      exact qt _ _ _
    by_cases bc:b=cd
    ·subst bc
     rw[af]
     rw[h2] at z
     exact z
    ·rw[ah bc,ah (ag z hd),ah bc]
     exact e3 _ _ z
   ·rintro σ H3 ⟨w,Bh,rfl,JL,Rv,LV,PZ,CN,Rk,hl3,e3⟩
    rw[List.take_length] at CN
    refine⟨Bh,_,_,_,_,rfl,JL,Rv,⟨LV.1,fun w hw=>?_⟩,Rk,by omega,e3⟩
    rw[take_snoc hx] at hw
    rcases List.mem_append.mp hw with hw|hw
    ·exact LV.2 w hw
    ·have ew:w=x:=by simpa using hw
     rw[ew]
     exact⟨PZ,CN⟩
  ·rintro σ H' ⟨kvs,v2,v3,v4,v5,rfl,fQ,hT,hS,T1,LF,e⟩
   rw[List.length_map,iX,List.take_length] at hS
   rw[List.length_map,iX,h3] at LF
   refine⟨_,rfl,d,kvs,rfl, .inl fQ,fun l2 sT=>?_⟩
   have ex:∃xs:List Str,(kvs.map fun q=>kV q.1)=xs.map V.str∧(∀x∈xs,Told ws x)∧xs.length=kvs.length:=vd hT
   obtain⟨xs,ex,hxs,rO⟩:=ex
   refine q l2 xs _ (by rw[af,ex]) hxs (fun s hs=>?_) (by omega) (by omega) (e.trans (au.new sT))
   have hk:(Sum.inr s:Key)∈kvs.map (·.1):=by
    rcases hs with rfl| ⟨w,hw,rfl⟩ | ⟨w,hw,hs⟩
    ·exact hS.1
    ·exact(hS.2 w hw).1
    ·exact(hS.2 w hw).2 _ hs
   obtain⟨q',sO,e'⟩:=List.mem_map.mp hk
   have hm:V.str s∈xs.map V.str:=by
    rw[←ex]
    exact List.mem_map.mpr ⟨q',sO,by rw[e'];rfl⟩
   obtain⟨s',FZ,e''⟩:=List.mem_map.mp hm
   injection e'' with e''
   rw[←e'']
   exact FZ
variable {uC uP uI uD uL uT:Tok} {St:Addr}
inductive LW (vs:List V) (H:Hp) (Q:VK) (E:XK):Prop
 |mk (e d:Addr) (kvs:List (Key×V)) (dX:vs=[.ref e, .ref d]) (dY:H e=some (.dK (lL kvs))) (d8:H d=some (.dK kvs)) (fk:e≠d) (gG:bx kvs) (jE:(kvs.map (·.1)).Nodup) (oG:kvs.length≤900) (sV:∀H',au H H'→Q (.bl true) H')
def Ir:Sp:=LW
theorem sy:ax ["_law_found","_law_due","_law_text_here"] ["_law_found","_law_due"] (aj jm):=dB
theorem P0 {kvs:List (Key×V)} (hn:(kvs.map (·.1)).Nodup):((lL kvs).map (·.1)).Nodup:=(List.filter_sublist.map _).nodup hn
theorem LX (D:Def K mg "_law_amounts" "_law_amounts" jm ["_law_found","_law_due"]) (T:pN K mg C R G Pc Fo St uK uN uB uE uM uC uP uI uD uL uT) (c1:bg P w K mg base 1 "_law_whole" ["_law_found"] wy):bg P w K mg base 2 "_law_amounts" ["_law_found","_law_due"] Ir:=by
 obtain⟨_,_,bT⟩:=c1
 refine D.di sy (fun vs H Q E h=>?_) (fun f bj A outer s H vs Q E hr h=>?_)
 ·obtain⟨e,d,kvs,rfl,_⟩:=h
  rfl
 ·obtain⟨e,d,kvs,rfl,he,hd,HH,hI,hn,hl,q⟩:=h
  have hu:=dz hr
  have TY:=hr.oh
  have big:(2000 :Nat)≤sizeLine:=by decide
  refine⟨_,(ai
     (bG (jw (cJ (bw iB rfl T.bA bh (aa (pv 0) (aa (mv (v:= .ty "dict") rfl T.jN iC rfl) ak)))))
      (ao
       (aD j2))
      aR)
    (ai
     (dJ (bW PassesOwn.never rfl (cR (pv 0)) (aG (i:=2) sy.nd rfl (Or.inl rfl))
      (ao
       (bG (PW.pt (iy (jw (cJ (aH bT.ok (hr.mono (by decide)) rfl bT.g bT.kp bT.b .nil ay (aa (b6 hu (pv 0) (pv 2) (fun _ _=>rfl)) ak)))) (iy (aP pe (b6 hu (pv 0) (pv 2) (fun _ _=>rfl)) (bR hu (pv 1) (pv 2) aq ⟨rfl,rfl,rfl,rfl⟩) (aW _)) (j9 (aP mw (b6 hu (pv 0) (pv 2) (fun _ _=>rfl)) aq (aW _))))))
        (ao
         (aD j2))
        aR))))
    (ao
     (aD (iz d7 (bw Ai rfl T.ph kh (aa (pv 0) ak)) (bw gK rfl T.ph kh (aa (pT (fy (sc:=(aj jm)) (NX:=["_law_found","_law_due","_law_text_here"]) (N:=["_law_text_here","_law_due"]) (fr:=[none,some 1]) ⟨by rfl,by rfl,by decide+kernel,by decide+kernel,by decide+kernel,by rfl,by decide+kernel⟩ rfl rfl rfl (cR (pv 1)) (fun _ _ _ _=>(aG (i:=0) (show (["_law_text_here","_law_due"]:List Str).Nodup by decide+kernel) rfl (Or.inl rfl) (Or.inr rfl))) (fun _ _ _ _=>(mD (aP lN (b6 hu (pv 1) (pv 0) (fun _ _=>rfl)) aq (aW _)))) (fun _ _ _ _=>(pv 0)))) ak)) (aW _)))))),?_⟩
  refine⟨_,rfl,_,_,_,_,_,rfl,rfl, .dK he,T.k3,_,rfl,cH ?_⟩
  have hIp:bx (lL kvs):=fun p hp=>hI p ((List.mem_filter.mp hp).1)
  refine⟨_,rfl,e,lL kvs,rfl,he,fun o nf=>dA nf (fun i σ H'=>∃v:Option V,σ=[some (.ref e),some (.ref d),v]∧H'=H) ⟨none,rfl,rfl⟩ (fun i σ H' ⟨_,_,z⟩=>by rw[z];exact he) ?_ ?_⟩
  ·rintro i k v σ H' hi ⟨v2,rfl,rfl⟩
   have hm:=List.mem_of_getElem? hi
   obtain⟨z,ez⟩:=hIp _ hm
   have ez:v=V.int z:=ez
   subst ez
   have hz0:0<z:=by
    have:=(List.mem_filter.mp hm).2
    exact of_decide_eq_true this
   have hzk:aO kvs k=z:=Cv hn ((List.mem_filter.mp hm).1)
   have hv:b7 (lL kvs) k=some (V.int z):=jh (P0 hn) hm
   have fQ:(upd H' e (.fN o (.dK (lL kvs)))) d=some (.dK kvs):=by rw[ah (Ne.symm HH)];exact hd
   have hg:=hI.at k
   rw[hzk] at hg
   refine⟨_,rfl,_,rfl,e,V.int z,rfl, .inl ⟨_,k, .inr ⟨o,af⟩,rfl,hv.symm⟩,z,rfl,_,rfl,cH ?_⟩
   refine⟨_,rfl,_,rfl,e,V.int z,rfl, .inl ⟨_,k, .inr ⟨o,af⟩,rfl,hv.symm⟩,_,rfl,d,rfl, .inl ⟨_, .inl fQ⟩,_,rfl,_,gj.k (k:=k) fQ,?_⟩
   rw[hg]
   refine⟨rfl,_,rfl,BG rfl ⟨_,rfl,_,rfl,e,V.int z,rfl, .inl ⟨_,k, .inr ⟨o,af⟩,rfl,hv.symm⟩,_,_,rfl,rfl,_,rfl,fM (fun ec=>?_) fun _=>?_⟩⟩
   ·have ec:z<1:=by simpa using ec
    omega
   ·exact⟨af,some (kV k),rfl,by rw[kL,eI he]⟩
  ·rintro σ H' ⟨v,rfl,rfl⟩
   refine⟨_,rfl,e,lL kvs,rfl, .inl he,_,rfl,d,kvs,rfl,hd,fun o nf L hL=>?_⟩
   have Rq:L≠d:=fun z=>by rw[z,af] at hL;cases hL
   have xS:H' L=none:=by rwa [ah Rq] at hL
   refine kT (a:=d) (D:=L) (kvs:=kvs) (fun i σ H2=>∃(v:Option V) (ys:List V),σ=[v,some (.ref d)]∧H2 d=some (.fN o (.dK kvs))∧H2 L=some (.lst ys)∧ys.length=(lL (kvs.take i)).length∧∀b o',H' b=some o'→b≠d→H2 b=some o') ?_ (fun i σ H2 ⟨_,_,_,z,_⟩=>z) ?_ ?_
   ·exact⟨none,[],rfl,by rw[ah (Ne.symm Rq),af],af,rfl,fun b o' z hb=>by rw[ah (ag z xS),ah hb];exact z⟩
   ·rintro i k v σ H2 hi ⟨v',ys,rfl,f1,f2,f4,f5⟩ N hN
    have hm:=List.mem_of_getElem? hi
    obtain⟨z,ez⟩:=hI _ hm
    have ez:v=V.int z:=ez
    subst ez
    have hv:b7 kvs k=some (V.int z):=jh hn hm
    have yi:=(List.getElem?_eq_some_iff.mp hi).1
    have hyl:=Cz (kvs.take i)
    rw[List.length_take] at hyl
    refine⟨_,rfl,_,rfl,d,V.int z,rfl, .inl ⟨_,k, .inr ⟨o,f1⟩,rfl,hv.symm⟩,_,_,rfl,rfl,_,rfl,fM (fun ec=>?_) fun ec=>?_⟩
    ·have ec:0<z:=by simpa using ec
     refine⟨_,rfl,_,f2,by omega,hN _ _ ⟨_,ys++[kV k],rfl,by rw[ah (Ne.symm Rq)];exact f1,af,?_,fun b o' z' hb=>by rw[ah (ag z' xS)];exact f5 b o' z' hb⟩⟩
     unfold lL at f4 ⊢
     rw[List.length_append,f4,take_snoc hi,List.filter_append,show [(k,V.int z)].filter (fun q=>decide (0<zv q.2))=[(k,V.int z)] by simp [zv,ec],List.length_append]
     rfl
    ·have ec:¬0<z:=by simpa using ec
     refine hN _ _ ⟨_,ys,rfl,f1,f2,?_,f5⟩
     unfold lL at f4 ⊢
     rw[f4,take_snoc hi,List.filter_append,show [(k,V.int z)].filter (fun q=>decide (0<zv q.2))=[] by simp [zv,ec],List.append_nil]
   ·rintro σ H2 ⟨v',ys,rfl,f1,f2,f4,f5⟩
    rw[List.take_length] at f4
    refine⟨d,o,kvs,f1,nf,L,ys,rfl, .inl (b5.of (by rw[ah Rq];exact f2)),rfl,?_⟩
    rw[f4,decide_eq_true rfl]
    refine q _ fun b o' z'=>?_
    by_cases bd:b=d
    ·subst bd
     rw[af]
     rw[hd] at z'
     exact z'
    ·rw[ah bd]
     exact f5 _ _ z' bd
variable {uC uP uI uD uL uT eW eX eY uG uS:Tok} {Ch HE Sh St:Addr}
inductive Iu (St:Addr) (vs:List V) (H:Hp) (Q:VK) (E:XK):Prop
 |mk (st d g:Addr) (ts:List Addr) (rs:List jR) (dX:vs=[.ref st]) (dY:j3 St H st d g) (d8:H g=some (.lst (ts.map V.ref))) (fk:Paired (gH H) ts rs) (gG:rs.length≤100) (jE:∀L us H',H L=none→H' L=some (.lst (us.map V.ref))→Paired (gH H') us rs→au H H'→Q (.ref L) H')
def CO (St:Addr):Sp:=Iu St
def PvW (L:Addr) (rs:List jR):Nat→List V→Hp→Prop:=fun i ys H'=>∃us:List Addr,ys=us.map V.ref∧us.length=i∧(∀u∈us,u≠L)∧Paired (gH H') us (rs.take i)
theorem Iv (D:a9 K St "went" "Store.went" yv ["self"]) (T:pN K mg C R G Pc Fo St uK uN uB uE uM uC uP uI uD uL uT):aJ P w K mg base 1 St "went" ["self"] (CO St):=by
 refine D.di Pq (fun vs H Q E h=>?_) (fun f bj A outer s H vs Q E hr h=>?_)
 ·obtain⟨st,d,g,ts,rs,rfl,_⟩:=h
  rfl
 ·obtain⟨st,d,g,ts,rs,rfl,⟨dx,fO⟩,hg,hP,hl,q⟩:=h
  have big:(2000 :Nat)≤sizeLine:=by decide
  have iX:=Paired.length hP
  refine⟨_,(ao
     (aD (fy (sc:=(aj yv)) (NX:=["self"]) (N:=["text","times"]) (fr:=[none,none]) ⟨by rfl,by rfl,by decide+kernel,by decide+kernel,by decide+kernel,by rfl,by decide+kernel⟩ rfl rfl rfl (cN (a5 (pv 0) rfl)) (fun _ _ _ _=>(vM K 2 rfl rfl (bp (aG (i:=0) (show (["text","times"]:List Str).Nodup by decide+kernel) rfl (Or.inl rfl) (Or.inr rfl)) (bp (aG (i:=1) (show (["text","times"]:List Str).Nodup by decide+kernel) rfl (Or.inl rfl) (Or.inr rfl)) dZ)))) (fun _ _ _ _=>f7) (fun _ _ _ _=>(bP (aa (pv 0) (aa (pv 1) ak))))))),?_⟩
  refine⟨_,rfl,st,St,dx,_,_,rfl,fO,T.bQ,T.qm,zq _ _,g,rfl,⟨_,b5.of hg⟩,fun L hL=>?_⟩
  refine kU (K:=K) (a:=g) (L:=L) (xs:=ts.map V.ref) H (fun σ=>∃v u:Option V,σ=[v,u]) (PvW L rs) (b5.of hg) ?_ hL ⟨none,none,rfl⟩ (au.new hL) af ⟨[],rfl,rfl,(fun u hu=>by cases hu), .nil⟩ (by rw[List.length_map];omega) ?_ ?_ ?_
  ·rintro i ys Ha Hb hb ⟨us,h1,h2,h3,h4⟩
   exact⟨us,h1,h2,h3,mh (fun u r hu z=>hb _ _ z (h3 u hu)) h4⟩
  ·rintro i ys H' ⟨us,rfl,h2,_⟩
   rw[List.length_map,h2];exact Nat.le_refl _
  ·rintro j w σ' H5 vs hj ⟨w1,w2,rfl⟩ e5 px ⟨us,rfl,M5,hun,HN⟩ N M hN
   rw[List.getElem?_map] at hj
   obtain⟨t,ht,rfl⟩:∃m,ts[j]? =some m∧w=V.ref m:=by
    cases hh:ts[j]? with
    |none=>rw[hh] at hj;cases hj
    |some m=>rw[hh] at hj;exact⟨m,rfl,(Option.some.inj hj).symm⟩
   obtain⟨r,Ft,CH⟩:=bI hP ht
   have CH:H t=some (.tup [.str r.x, .int r.m]):=CH
   refine⟨t,_,rfl,jc.of (e5 _ _ CH),rfl,_,_,rfl,_,_,rfl,rfl,?_⟩
   refine⟨_,rfl,_,rfl,(by show 2≤sizeLine;decide),fun u hu=>?_⟩
   have s6:=au.new (o:= .tup [.str r.x, .int r.m]) hu
   refine hN _ _ _ ⟨_,_,rfl⟩ (e5.trans s6) (s6 _ _ px) ⟨us++[u],by rw[List.map_append];rfl,by rw[List.length_append,M5];rfl,fun a ha=>?_,?_⟩
   ·rcases List.mem_append.mp ha with z|z
    ·exact hun a z
    ·have ea:a=u:=by simpa using z
     rw[ea]
     exact fun z=>by rw[z,px] at hu;cases hu
   ·rw[take_snoc Ft]
    have P1:gH (upd H5 u (.tup [.str r.x, .int r.m])) u r:=af
    exact bS P1 (aK (fun a b (z:gH H5 a b)=>(s6 _ _ z:gH _ a b)) HN)
  ·rintro H5 ys e5 px ⟨us,rfl,M5,hun,HN⟩
   rw[List.length_map,iX,List.take_length] at HN
   exact q L us H5 hL px HN e5
variable {uC uP uI uD uL uT eW eX eY uG uS:Tok} {Ch HE Sh St:Addr}
def kI (rs:List jR):PyData:= .list (rs.map fun r=> .tuple [.str r.x, .int r.m])
theorem xD {H:Hp}:∀{ts:List Addr} {rs:List jR},Paired (gH H) ts rs→Am K H (ts.map V.ref) (rs.map fun r=>PyData.tuple [.str r.x, .int r.m])
 |_,_, .nil=> .nil
 |_,_, .cons h t=> .cons (.tup (jc.of h) (.cons (.str _) (.cons (.int _) .nil))) (xD t)
inductive Iw (St:Addr) (vs:List V) (H:Hp) (Q:VK) (E:XK):Prop
 |mk (st d g am wl:Addr) (kvs:List (Key×V)) (ts ws:List Addr) (rs:List jR) (dX:vs=[.ref st, .ref am, .ref wl]) (dY:j3 St H st d g) (d8:H d=some (.dK kvs)) (fk:H am=some (.dK kvs)) (gG:d≠am) (jE:bx kvs) (oG:(kvs.map (·.1)).Nodup) (sV:(∀q∈kvs,∃x,q.1=Sum.inr x∧u5 x)) (B0:kvs.length≤900) (K1:H g=some (.lst (ts.map V.ref))) (EG:Paired (gH H) ts rs) (LL:H wl=some (.lst (ws.map V.ref))) (PL:Paired (gH H) ws rs) (PM:rs.length≤10) (T3:SeqAt.shaped (kI rs)=true) (h'15:PyData.eqv (kI rs) (kI rs)=true) (h'16:∀H',au H H'→Q (.bl true) H')
def CP (St:Addr):Sp:=Iw St
theorem CQ:ax ["_law_store","_law_amounts_here","_law_went","_law_text_here"] ["_law_store","_law_amounts_here","_law_went"] (aj wk):=dB
theorem Iy (D:Def K mg "_law_same" "_law_same" wk ["_law_store","_law_amounts_here","_law_went"]) (T:pN K mg C R G Pc Fo St uK uN uB uE uM uC uP uI uD uL uT) (c1:aJ P w K mg base 12 St "have" ["self","text"] (Ba St)) (c2:aJ P w K mg base 1 St "stocks" ["self"] (zt St)) (c3:bg P w K mg base 2 "_law_amounts" ["_law_found","_law_due"] Ir) (c4:aJ P w K mg base 1 St "went" ["self"] (CO St)):bg P w K mg base 13 "_law_same" ["_law_store","_law_amounts_here","_law_went"] (CP St):=by
 obtain⟨_,_,dt⟩:=c1
 obtain⟨_,_,iq⟩:=c2
 obtain⟨_,_,iU⟩:=c3
 obtain⟨_,_,jX⟩:=c4
 refine D.di CQ (fun vs H Q E h=>?_) (fun f bj A outer s H vs Q E hr h=>?_)
 ·obtain⟨st,d,g,am,wl,kvs,ts,ws,rs,rfl,_⟩:=h
  rfl
 ·obtain⟨st,d,g,am,wl,kvs,ts,ws,rs,rfl,⟨dx,fO⟩,hd,xv,OX,hI,hn,hgx,hl,hg,hP,Ke,hPw,hr10,JG,heq,q⟩:=h
  have hu:=dz hr
  have TY:=hr.oh
  have LY:=hr.units
  have big:(2000 :Nat)≤sizeLine:=by decide
  refine⟨_,(ai
     (dJ (bW PassesOwn.never rfl (cR (pv 1)) (aG (i:=3) CQ.nd rfl (Or.inl rfl))
      (ao
       (bG (aP pe (bU (pv 0) T.bQ dt.m dt.ok (hr.mono (by decide)) dt.b .nil ay (aa (pv 3) ak)) (b6 hu (pv 1) (pv 3) (fun _ _=>rfl)) (aW _))
        (ao
         (aD j2))
        aR))))
    (ao
     (aD (vz (aH iU.ok (hr.mono (by decide)) rfl iU.g iU.kp iU.b .nil ay (aa (aN (pv 0) T.bQ iq.m iq.ok (hr.mono (by decide)) iq.b .nil ay) (aa (pv 1) ak))) (qB (iz (F2 LY) (aN (pv 0) T.bQ jX.m jX.ok (hr.mono (by decide)) jX.b .nil ay) (pv 2) (aW _))))))),?_⟩
  have T7:st≠am:=cI fO xv (by intro z;cases z)
  refine⟨_,rfl,am,kvs,rfl,xv,fun o nf=>dA nf (fun i σ H'=>∃v:Option V,σ=[some (.ref st),some (.ref am),some (.ref wl),v]∧H' am=some (.dK kvs)∧au H H') ⟨none,rfl,xv,au.refl _⟩ (fun i σ H' ⟨_,_,z,_⟩=>z) ?_ ?_⟩
  ·rintro i k v σ H' hi ⟨v2,rfl,zE,e⟩
   have hm:=List.mem_of_getElem? hi
   obtain⟨x,ex,gx⟩:=hgx _ hm
   have ex:k=Sum.inr x:=ex
   subst ex
   have hv:=hI.dN hm
   have LZ:(upd H' am (.fN o (.dK kvs))) st=some (.ins St dx (zp d g)):=by rw[ah T7];exact e _ _ fO
   have GZ:(upd H' am (.fN o (.dK kvs))) d=some (.dK kvs):=by rw[ah OX];exact e _ _ hd
   refine⟨_,rfl,st,dx,_,rfl,LZ,jQ _ _ (by decide+kernel) (by decide+kernel),_,rfl,st,d,g,x,kvs,rfl,⟨dx,LZ⟩,GZ,hI,gx,fun H5 e5=>?_⟩
   have EU:=e5 _ _ (af (H:=H') (a:=am) (o:= .fN o (.dK kvs)))
   refine⟨_,rfl,_,rfl,am,V.int (aO kvs (Sum.inr x)),rfl, .inl ⟨_,Sum.inr x, .inr ⟨o,EU⟩,rfl,hv.symm⟩,rfl,_,rfl,BG rfl ?_⟩
   refine⟨EU,_,rfl,af,fun b o' z=>?_⟩
   by_cases ba:b=am
   ·subst ba
    rw[af]
    rw[xv] at z
    exact z
   ·rw[ah ba]
    exact e5 _ _ (by rw[ah ba];exact e _ _ z)
  ·rintro σ H' ⟨v2,rfl,zE,e⟩
   refine⟨_,rfl,st,dx,_,rfl,e _ _ fO,jQ _ _ (by decide+kernel) (by decide+kernel),st,d,g,kvs,rfl,⟨dx,e _ _ fO⟩,e _ _ hd,hI,hn,hl,fun ue H8 nue hue e8=>?_⟩
   have e08:=e.trans e8
   refine⟨_,rfl,ue,am,kvs,rfl,hue,e08 _ _ xv,Ne.symm (ag zE nue),hI,hn,hl,fun H9 e9=>⟨_,rfl,ix ?_⟩⟩
   have Ui:=e08.trans e9
   refine⟨_,rfl,st,dx,_,rfl,Ui _ _ fO,jQ _ _ (by decide+kernel) (by decide+kernel),st,d,g,ts,rs,rfl,⟨dx,Ui _ _ fO⟩,Ui _ _ hg,aK (fun a b (z:gH H a b)=>(Ui _ _ z:gH _ a b)) hP,by omega,fun lw us MF nlw hlw P2 Nb=>?_⟩
   have P4:=Ui.trans Nb
   refine⟨_,rfl,kI rs,kI rs, .lst (b5.of hlw) (xD P2), .lst (b5.of (P4 _ _ Ke)) (xD (aK (fun a b (z:gH H a b)=>(P4 _ _ z:gH _ a b)) hPw)),JG,JG,?_⟩
   rw[heq]
   exact q _ P4
variable {uC uP uI uD uL uT eW eX eY uG uS:Tok} {Ch HE Sh St:Addr}
theorem tm_at (y:Tm):Ah [V.str ((toString y.1 :Str)++" " ++⟨(fL y.2).toArray⟩),V.str ⟨(fL y.2).toArray⟩] (if decide (V.int y.1=V.int 1)=true then 1 else 0)=some (V.str (rW y)):=by
 unfold rW
 by_cases h:y.1=1
 ·rw[if_pos (decide_eq_true (by rw[h])),if_pos h]
  rfl
 ·rw[if_neg (by simpa using h),if_neg h]
  rfl
inductive Iz (vs:List V) (H:Hp) (Q:VK) (E:XK):Prop
 |mk (l r:Addr) (xs ys:List Tm) (dX:vs=[.ref l, .ref r]) (dY:cT H l xs) (d8:cT H r ys) (fk:(∀x∈xs,pJ (10^40) x)) (gG:(∀y∈ys,pJ (10^40) y)) (jE:xs.length≤10) (oG:ys.length≤10) (sV:∀H',au H H'→Q (.str (Txt.join " -> " [uO xs,uO ys])) H')
def CS:Sp:=Iz
theorem o6:ax ["_law_lefts","_law_rights","_law_sides","_law_side","_law_texts_here","_law_count_here","_law_formula"] ["_law_lefts","_law_rights"] (aj BS):=dB
theorem IA (D:Def K mg "_law_text" "_law_text" BS ["_law_lefts","_law_rights"]) (T:oF K mg C):bg P w K mg base 1 "_law_text" ["_law_lefts","_law_rights"] CS:=by
 refine D.di o6 (fun vs H Q E h=>?_) (fun f bj A outer s H vs Q E hr h=>?_)
 ·obtain⟨l,r,xs,ys,rfl,_⟩:=h
  rfl
 ·obtain⟨l,r,xs,ys,rfl,hxs,DH,mq,zV,lx,ly,q⟩:=h
  have big:(2000 :Nat)≤sizeLine:=by decide
  have hS:Paired (fun a s=>cT H a s∧(∀x∈s,pJ (10^40) x)∧s.length≤10) [l,r] [xs,ys]:= .cons ⟨hxs,mq,lx⟩ (.cons ⟨DH,zV,ly⟩ .nil)
  refine⟨_,(ai
     (aB (i:=2) o6.nd rfl (Or.inl rfl) (cD ak))
    (ai
     (bW PassesOwn.never rfl (cN (cD (aa (pv 0) (aa (pv 1) ak)))) (aG (i:=3) o6.nd rfl (Or.inl rfl))
      (ai
       (aB (i:=4) o6.nd rfl (Or.inl rfl) (cD ak))
      (ai
       (bW PassesOwn.never rfl (cN (pv 3)) (g7 rfl (bp (aG (i:=5) o6.nd rfl (Or.inl rfl)) (bp (aG (i:=6) o6.nd rfl (Or.inl rfl)) dZ)))
        (ao
         (bB (jg PySem.F.plainAttrs_list PySem.F.slot_list_append PySem.F.type_list_append d5 (pv 4) (aa (cE cZ (cD (aa (aE bu (aE bu (bK jy rfl T.GC Al (aa (pv 5) ak)) bJ) (cE hV (pv 6) aq (fun _ _=>rfl))) (aa (cE hV (pv 6) aq (fun _ _=>rfl)) ak))) (bK n9 rfl T.yw qT (aa (iz d7 (pv 5) aq (aW _)) ak)) (fun _ _=>rfl)) ak)))))
      (ao
       (bB (jg PySem.F.plainAttrs_list PySem.F.slot_list_append PySem.F.type_list_append d5 (pv 2) (aa (jg PySem.F.plainAttrs_str PySem.F.slot_str_join PySem.F.type_str_join pV bJ (aa (pv 4) ak)) ak)))))))
    (ao
     (aD (jg PySem.F.plainAttrs_str PySem.F.slot_str_join PySem.F.type_str_join pV bJ (aa (pv 2) ak)))))),?_⟩
  refine⟨(by show 0≤sizeLine;decide),fun D1 hD1=>?_⟩
  have sD:=au.new (o:= .lst []) hD1
  refine⟨_,rfl,_,rfl,(by show 2≤sizeLine;decide),fun Z hZ=>?_⟩
  have sZ:=au.new (o:= .lst [.ref l, .ref r]) hZ
  have JM:(upd (upd H D1 (.lst [])) Z (.lst [.ref l, .ref r])) D1=some (.lst []):=sZ _ _ af
  have hZ2:(upd (upd H D1 (.lst [])) Z (.lst [.ref l, .ref r])) Z=some (.lst [.ref l, .ref r]):=af
  have s2:=sD.trans sZ
  have nZD:Z≠D1:=fun z=>by rw[z,af] at hZ;cases hZ
  have hZH:H Z=none:=none_back sD hZ
  generalize upd (upd H D1 (.lst [])) Z (.lst [.ref l, .ref r])=H2 at JM hZ2 s2 ⊢
  refine⟨Z,rfl,⟨_,b5.of hZ2⟩,fq (K:=K) (a:=Z) (xs:=[l,r].map V.ref) (fun i σ H'=>∃v3 v4 v5 v6:Option V,σ=[some (.ref l),some (.ref r),some (.ref D1),v3,v4,v5,v6]∧H' D1=some (.lst ((([xs,ys]:List (List Tm)).take i).map fun s=>V.str (uO s)))∧H' Z=some (.lst [.ref l, .ref r])∧au H H') ?_ (fun i σ H' _ ⟨_,_,_,_,_,_,z,_⟩=>b5.of z) ?_ ?_⟩
  ·exact⟨none,none,none,none,rfl,JM,hZ2,s2⟩
  ·rintro i v σ H' hi ⟨v3,v4,v5,v6,rfl,Cb,hZ',e⟩
   rw[List.getElem?_map] at hi
   obtain⟨a,ha,rfl⟩:∃p,[l,r][i]? =some p∧v=V.ref p:=by
    cases hh:[l,r][i]? with
    |none=>rw[hh] at hi;cases hi
    |some p=>rw[hh] at hi;exact⟨p,rfl,(Option.some.inj hi).symm⟩
   obtain⟨sd,hsd,⟨ts,hl,hP⟩,aU,h10⟩:=bI hS ha
   have iX:=Paired.length hP
   have yi:i<2:=(List.getElem?_eq_some_iff.mp hsd).1
   refine⟨(by show 0≤sizeLine;decide),fun D2 L0=>?_⟩
   have sE:=au.new (o:= .lst []) L0
   have nD12:D1≠D2:=ag Cb L0
   have nZ2:Z≠D2:=ag hZ' L0
   have hD2H:H D2=none:=none_back e L0
   dsimp only [du]
   refine⟨_,rfl,a,rfl,⟨_,b5.of (sE _ _ (e _ _ hl))⟩,fq (K:=K) (a:=a) (xs:=ts.map V.ref) (fun j σ H3=>∃w5 w6:Option V,σ=[some (.ref l),some (.ref r),some (.ref D1),some (.ref a),some (.ref D2),w5,w6]∧H3 D2=some (.lst ((sd.take j).map fun x=>V.str (rW x)))∧H3 D1=some (.lst ((([xs,ys]:List (List Tm)).take i).map fun s=>V.str (uO s)))∧H3 Z=some (.lst [.ref l, .ref r])∧au H H3) ?_ (fun j σ H3 _ ⟨_,_,_,_,_,_,z⟩=>b5.of (z _ _ hl)) ?_ ?_⟩
   ·exact⟨v5,v6,rfl,af,sE _ _ Cb,sE _ _ hZ',e.trans sE⟩
   ·rintro j x σ H3 hj ⟨w5,w6,rfl,h2,h1,hz,e3⟩
    obtain⟨t,y,rfl,hy,fm,ht,d,hf,hd⟩:=yK (H:=H) hP hj
    have mq:=aU y (List.mem_of_getElem? hy)
    have ez:=mq.2.2.2.1
    have hjl:j<sd.length:=(List.getElem?_eq_some_iff.mp hy).1
    have hzl:((sd.take j).map fun x=>V.str (rW x)).length<sizeLine:=by rw[List.length_map,List.length_take];omega
    have l1:(" " :Str).length=1:=by decide+kernel
    have zi:=nG (n:=y.1) (by have:=mq.1;omega) (by have:=mq.2.1;omega)
    refine⟨t,_,rfl,jc.of (e3 _ _ ht),rfl,_,_,rfl,_,_,rfl,rfl,?_⟩
    refine⟨_,rfl, .inl ⟨rfl,_,b5.of h2⟩,_,rfl,y.1,rfl,qh (by have:=mq.1;omega) (by have:=mq.2.1;omega),_,_,rfl,rfl,?_,_,rfl,fm,_,_,V.str ⟨(fL y.2).toArray⟩,rfl,rfl,jc.of (e3 _ _ hf),rfl,_,_,rfl,rfl,?_,_,rfl,fm,_,_,V.str ⟨(fL y.2).toArray⟩,rfl,rfl,jc.of (e3 _ _ hf),rfl,(by show 2≤sizeLine;decide),fun Y hY=>⟨_,rfl,rfl, .inr ⟨_,rfl,Y,_,_,V.str (rW y),rfl,rfl,b5.of af,tm_at y,?_⟩⟩⟩
    ·rw[l1]
     exact Nat.le_trans (Nat.add_le_add_right zi 1) (by decide)
    ·rw[bz,l1,bo]
     exact Nat.le_trans (Nat.add_le_add (Nat.add_le_add_right zi 1) ez) (by decide)
    have sY:=au.new (o:= .lst [V.str ((toString y.1 :Str)++" " ++⟨(fL y.2).toArray⟩),V.str ⟨(fL y.2).toArray⟩]) hY
    refine⟨D2,_,_,rfl,rfl,sY _ _ h2,hzl,_,_,rfl,?_,?_,?_,fun b o z=>?_⟩
    ·rw[af,take_snoc hy,List.map_append]
     rfl
    ·rw[ah nD12]
     exact sY _ _ h1
    ·rw[ah nZ2]
     exact sY _ _ hz
    ·rw[ah (ag z hD2H)]
     exact sY _ _ (e3 _ _ z)
   ·rintro σ H3 ⟨w5,w6,rfl,h2,h1,hz,e3⟩
    rw[List.length_map,iX,List.take_length] at h2
    have l3:(" + " :Str).length=3:=by decide+kernel
    have z:=BW (ys:=sd.map rW) (b:=100) fun y hy=>by
     obtain⟨x,hx,rfl⟩:=List.mem_map.mp hy
     exact Ce (Int.le_refl _) (aU x hx)
    refine⟨_,rfl, .inl ⟨rfl,_,b5.of h1⟩,rfl,_,rfl," + ",D2,sd.map rW,rfl,rfl,b5.of (by rw[h2,List.map_map];rfl),?_,?_⟩
    ·rw[List.length_map] at z ⊢
     rw[l3]
     omega
    refine⟨D1,_,_,rfl,rfl,h1,by rw[List.length_map,List.length_take];show min i 2<sizeLine;omega,_,_,_,_,rfl,?_,?_,fun b o z=>?_⟩
    ·rw[af,take_snoc hsd,List.map_append]
     rfl
    ·rw[ah nZD]
     exact hz
    ·rw[ah (ag z hD1)]
     exact e3 _ _ z
  ·rintro σ H' ⟨v3,v4,v5,v6,rfl,Cb,hZ',e⟩
   have hx:=uQ mq lx
   have hy:=uQ zV ly
   have l4:(" -> " :Str).length=4:=by decide+kernel
   refine⟨rfl,_,rfl," -> ",D1,[uO xs,uO ys],rfl,rfl,b5.of Cb,?_,q _ e⟩
   show (uO xs).length+((uO ys).length+0)+2*(" -> " :Str).length≤16777216
   rw[l4]
   omega
variable {uC uP uI uD uL uT eW eX eY uG uS:Tok} {Ch HE Sh St:Addr}
def bN (am:List (Key×V)) (xs ys:List Tm):Nat→List (Key×V)
 |0=>am
 |t+1=>d6 1 (d6 (-1) (bN am xs ys t) (aA xs) (aA xs)) (aA ys) (aA ys)
theorem sA {am:List (Key×V)} (xs ys:List Tm) (h:bx am):∀t,bx (bN am xs ys t)
 |0=>h
 |t+1=>df _ _ _ _ (df _ _ _ _ (sA xs ys h t))
theorem zF (am:List (Key×V)) (xs ys:List Tm):∀t,(bN am xs ys t).length≤am.length+t*((aA xs).length+(aA ys).length)
 |0=>by rw[Nat.zero_mul];exact Nat.le_refl _
 |t+1=>by
  have h1:=zF am xs ys t
  have h2:=eM 1 (aA ys) (aA ys) (d6 (-1) (bN am xs ys t) (aA xs) (aA xs))
  have h3:=eM (-1) (aA xs) (aA xs) (bN am xs ys t)
  rw[Nat.add_mul,Nat.one_mul]
  show (d6 1 _ _ _).length≤_
  omega
inductive EV (vs:List V) (H:Hp) (Q:VK) (E:XK):Prop
 |mk (am l r:Addr) (n:Nat) (kvs:List (Key×V)) (xs ys:List Tm) (dX:vs=[.ref am, .ref l, .ref r, .int n]) (dY:H am=some (.dK kvs)) (d8:bx kvs) (fk:kvs.length≤100) (gG:cT H l xs) (jE:cT H r ys) (oG:(∀x∈xs,cS x.2)) (sV:(∀y∈ys,cS y.2)) (B0:xs.length≤20) (K1:ys.length≤20) (EG:n≤12) (LL:(∀q∈aA xs,0<aO (aA xs) q.1)) (PL:(∀(t:Nat) k l' tt H',t<n→(∀j,j<t→dh (bN kvs xs ys j) (aA xs) (aA xs)=none)→dh (bN kvs xs ys t) (aA xs) (aA xs)=some (k,l')→H' tt=some (.tup [.int ((t:Int)+1),kV k, .int l'])→au H H'→Q (.ref tt) H')) (PM:((∀j,j<n→dh (bN kvs xs ys j) (aA xs) (aA xs)=none)→∀e H',H e=none→H' e=some (.dK (bN kvs xs ys n))→au H H'→Q (.ref e) H'))
def zG:Sp:=EV
theorem gq:ax ["_law_amounts_here","_law_lefts","_law_rights","_law_times","_law_found","_law_takes","_law_gives","_law_turn","_law_text_here"] ["_law_amounts_here","_law_lefts","_law_rights","_law_times"] (aj qb):=dB
theorem zH (c:Int) (all:List (Key×V)) {j:Key}:∀(l acc:List (Key×V)),j∈acc.map (·.1)→j∈(d6 c acc l all).map (·.1)
 | [],_,h=>h
 |p::r,acc,h=>zH c all r (b8 acc p.1 (c*aO all p.1)) (gm h)
theorem o7 {th tk:List (Key×V)}:∀{l:List (Key×V)},dh th tk l=none→∀q∈l,aO tk q.1≤aO th q.1
 | [],_,q,hq=>by cases hq
 |p::r,h,q,hq=>by
  rw[eV] at h
  split at h
  ·cases h
  ·rcases List.mem_cons.mp hq with rfl|hq
   ·omega
   ·exact o7 h q hq
theorem bx.xE {kvs:List (Key×V)} (h:bx kvs) {k:Key} (hm:k∈kvs.map (·.1)):b7 kvs k=some (.int (aO kvs k)):=by
 obtain⟨⟨k',v⟩,hp,e⟩:=List.mem_map.mp hm
 have e:k'=k:=e
 subst e
 exact h.dN hp
theorem EW (D:Def K mg "_law_walked" "_law_walked" qb ["_law_amounts_here","_law_lefts","_law_rights","_law_times"]) (T:nH K mg C R G Pc Fo Ch uK uN uB uE uM uC uP uI uD uL uT eW eX eY uG uS) (c1:bg P w K mg base 1 "_law_asked" ["_law_terms"] CI):bg P w K mg base 2 "_law_walked" ["_law_amounts_here","_law_lefts","_law_rights","_law_times"] zG:=by
 obtain⟨_,_,fe⟩:=c1
 refine D.di gq (fun vs H Q E h=>?_) (fun f bj A outer s H vs Q E hr h=>?_)
 ·obtain⟨am,l,r,n,kvs,xs,ys,rfl,_⟩:=h
  rfl
 ·obtain⟨am,l,r,n,kvs,xs,ys,rfl,xv,hI,hl,rO,hyl,hx,hy,lx,ly,hn,hpos,qS,qN⟩:=h
  have hu:=dz hr
  have big:(2000 :Nat)≤sizeLine:=by decide
  refine⟨_,(ai
     (aB (i:=4) gq.nd rfl (Or.inl rfl) (bK lW rfl T.jN iC (aa (pv 0) ak)))
    (ai
     (aB (i:=5) gq.nd rfl (Or.inl rfl) (aH fe.ok (hr.mono (by decide)) rfl fe.g fe.kp fe.b .nil ay (aa (pv 1) ak)))
    (ai
     (aB (i:=6) gq.nd rfl (Or.inl rfl) (aH fe.ok (hr.mono (by decide)) rfl fe.g fe.kp fe.b .nil ay (aa (pv 2) ak)))
    (ai
     (bW PassesOwn.never rfl (gX rfl T.la (aa (pv 3) ak)) (aG (i:=7) gq.nd rfl (Or.inl rfl))
      (ai
       (dJ (bW PassesOwn.never rfl (cR (pv 5)) (aG (i:=8) gq.nd rfl (Or.inl rfl))
        (ao
         (bG (aP mw (bR hu (pv 4) (pv 8) aq ⟨rfl,rfl,rfl,rfl⟩) (b6 hu (pv 5) (pv 8) (fun _ _=>rfl)) (aW _))
          (ao
           (aD (bP (aa (aE cf (pv 7) aq) (aa (pv 8) (aa (aE ka (b6 hu (pv 5) (pv 8) (fun _ _=>rfl)) (bR hu (pv 4) (pv 8) aq ⟨rfl,rfl,rfl,rfl⟩)) ak))))))
          aR))))
      (ai
       (dJ (bW PassesOwn.never rfl (cR (pv 5)) (aG (i:=8) gq.nd rfl (Or.inl rfl))
        (ao
         (cQ hu (pv 4) (pv 8) (aE ka (b6 hu (pv 4) (pv 8) (fun _ _=>rfl)) (b6 hu (pv 5) (pv 8) (fun _ _=>rfl))) rfl))))
      (ao
       (dJ (bW PassesOwn.never rfl (cR (pv 6)) (aG (i:=8) gq.nd rfl (Or.inl rfl))
        (ao
         (cQ hu (pv 4) (pv 8) (aE cf (bR hu (pv 4) (pv 8) aq ⟨rfl,rfl,rfl,rfl⟩) (b6 hu (pv 6) (pv 8) (fun _ _=>rfl))) rfl))))))))
    (ao
     (aD (pv 4))))))),?_⟩
  refine⟨_,rfl,am,_,rfl, .inl xv,fun fd hfd=>?_⟩
  have s1:=au.new (o:= .dK kvs) hfd
  refine⟨_,rfl,l,xs,rfl,rO.same s1,hx,lx,fun tk H2 M9 xP e2=>?_⟩
  have zW:=s1.trans e2
  refine⟨_,rfl,r,ys,rfl,hyl.same zW,hy,ly,fun gv H3 ngv hgv e3=>?_⟩
  have Rp:=zW.trans e3
  have Uj:H3 tk=some (.dK (aA xs)):=e3 _ _ xP
  have Uk:=e2 _ _ (af (H:=H) (a:=fd) (o:= .dK kvs))
  have hfd3:=e3 _ _ Uk
  have Ul:fd≠tk:=ag (af (H:=H) (a:=fd) (o:= .dK kvs)) M9
  have Zz:fd≠gv:=ag Uk ngv
  have Rt:bx (aA xs):=cC _
  have Ub:bx (aA ys):=cC _
  have A9:(aA xs).length≤20:=by
   have:=dE (fK xs)
   have e:(fK xs).length=xs.length:=by unfold fK;rw[List.length_map]
   unfold aA
   omega
  have hgl:(aA ys).length≤20:=by
   have:=dE (fK ys)
   have e:(fK ys).length=ys.length:=by unfold fK;rw[List.length_map]
   unfold aA
   omega
  have hS:∀o',au H (upd H3 fd o'):=fun o' b o'' z=>by rw[ah (ag z hfd)];exact Rp _ _ z
  have Zv:H tk=none:=none_back s1 M9
  refine⟨_,rfl,_,rfl,by omega,by omega,kM (fun i σ H'=>∃v7 v8:Option V,σ=[some (.ref am),some (.ref l),some (.ref r),some (.int n),some (.ref fd),some (.ref tk),some (.ref gv),v7,v8]∧H'=upd H3 fd (.dK (bN kvs xs ys i))∧∀j,j<i→dh (bN kvs xs ys j) (aA xs) (aA xs)=none) ⟨none,none,rfl,(eI hfd3).symm,fun j hj=>by omega⟩ ?_ ?_⟩
  ·rintro i σ H' hi ⟨v7,v8,rfl,rfl,hj⟩
   have Ke:=zF kvs xs ys i
   have hwl':(bN kvs xs ys i).length≤580:=by
    have:i*((aA xs).length+(aA ys).length)≤12*40:=Nat.mul_le_mul (by omega) (by omega)
    omega
   have ZA:=sA xs ys hI i
   have M8:∀o',(upd (upd H3 fd (.dK (bN kvs xs ys i))) tk o') fd=some (.dK (bN kvs xs ys i)):=fun o'=>by rw[ah Ul];exact af
   have IB:∀o',(upd H3 fd o') tk=some (.dK (aA xs)):=fun o'=>by rw[ah (Ne.symm Ul)];exact Uj
   have Um:∀o',(upd H3 fd o') gv=some (.dK (aA ys)):=fun o'=>by rw[ah (Ne.symm Zz)];exact hgv
   dsimp only [du]
   refine⟨_,rfl,tk,aA xs,rfl,IB _,fun o nf=>dA nf (fun j σ H'=>∃v8:Option V,σ=[some (.ref am),some (.ref l),some (.ref r),some (.int n),some (.ref fd),some (.ref tk),some (.ref gv),some (.int (0+i)),v8]∧H'=upd H3 fd (.dK (bN kvs xs ys i))∧dh (bN kvs xs ys i) (aA xs) ((aA xs).drop j)=dh (bN kvs xs ys i) (aA xs) (aA xs)) ⟨v8,rfl,rfl,rfl⟩ (fun j σ H' ⟨_,_,z,_⟩=>by rw[z];exact IB _) ?_ ?_⟩
   ·rintro j k v σ H' HM ⟨v8,rfl,rfl,va⟩
    have hv:=Rt.dN (List.mem_of_getElem? HM)
    have yi:=(List.getElem?_eq_some_iff.mp HM).1
    have JH:(aA xs).drop j=(k,v)::(aA xs).drop (j+1):=by
     rw[List.drop_eq_getElem_cons yi]
     congr 1
     exact(List.getElem?_eq_some_iff.mp HM).2
    refine⟨_,rfl,fd,rfl, .inl ⟨_, .inl (M8 _)⟩,_,rfl,_,gj.k (k:=k) (M8 _),_,rfl,_,rfl,tk,V.int (aO (aA xs) k),rfl, .inl ⟨_,k, .inr ⟨o,af⟩,rfl,hv.symm⟩,?_⟩
    rw[ZA.at k]
    refine⟨_,_,rfl,rfl,_,rfl,fM (fun ec=>?_) fun ec=>?_⟩
    ·have ec:aO (bN kvs xs ys i) k<aO (aA xs) k:=by simpa using ec
     rw[JH,eV,if_pos (by show 0<aO (aA xs) k - aO (bN kvs xs ys i) k;omega)] at va
     refine⟨_,rfl,_,_,rfl,rfl,_,rfl,_,rfl,_,rfl,tk,V.int (aO (aA xs) k),rfl, .inl ⟨_,k, .inr ⟨o,af⟩,rfl,hv.symm⟩,_,rfl,fd,rfl, .inl ⟨_, .inl (M8 _)⟩,_,rfl,_,gj.k (k:=k) (M8 _),?_⟩
     rw[ZA.at k]
     refine⟨_,_,rfl,rfl,(by show 3≤sizeLine;decide),fun tt Bd=>?_⟩
     have ntt:tt≠tk:=fun z=>by rw[z,af] at Bd;cases Bd
     have ntf:tt≠fd:=fun z=>by rw[z,M8] at Bd;cases Bd
     have s4:au H (upd (upd H3 fd (.dK (bN kvs xs ys i))) tk (.fN o (.dK (aA xs)))):=fun b o' z=>by rw[ah (ag z Zv)];exact hS _ _ _ z
     refine⟨tk,o,aA xs,by rw[ah (Ne.symm ntt)];exact af,nf,?_⟩
     refine qS i k _ tt _ hi hj va.symm (by rw[ah ntt,af];show some (HO.tup [V.int (0+(i:Int)+1),kV k,V.int _])=_;rw[Int.zero_add]) fun b o' z=>?_
     rw[ah (ag z Zv),ah (ag (s4 _ _ z) Bd)]
     exact s4 _ _ z
    ·have ec:¬aO (bN kvs xs ys i) k<aO (aA xs) k:=by simpa using ec
     refine⟨af,_,rfl,by rw[kL,eI (IB _)],?_⟩
     rw[←va,JH,eV,if_neg (by show¬0<aO (aA xs) k - aO (bN kvs xs ys i) k;omega)]
   ·rintro σ H' ⟨v8',rfl,rfl,va⟩
    rw[List.drop_length] at va
    have va:dh (bN kvs xs ys i) (aA xs) (aA xs)=none:=va.symm
    have hge:=o7 va
    have tY:∀q∈aA xs,q.1∈(bN kvs xs ys i).map (·.1):=fun q hq=>by
     refine Classical.byContradiction fun z=>?_
     have h1:=nu z
     have h2:=hge q hq
     have h3:=hpos q hq
     omega
    refine⟨_,rfl,tk,aA xs,rfl,IB _,fun o nf=>dA nf (fun j σ H'=>∃v8:Option V,σ=[some (.ref am),some (.ref l),some (.ref r),some (.int n),some (.ref fd),some (.ref tk),some (.ref gv),some (.int (0+i)),v8]∧H'=upd H3 fd (.dK (d6 (-1) (bN kvs xs ys i) ((aA xs).take j) (aA xs)))) ⟨v8',rfl,rfl⟩ (fun j σ H' ⟨_,_,z⟩=>by rw[z];exact IB _) ?_ ?_⟩
    ·rintro j k v σ H' HM ⟨v8,rfl,rfl⟩
     have hm:=List.mem_of_getElem? HM
     have hv:=Rt.dN hm
     have Ho:=df (-1) (aA xs) ((aA xs).take j) _ ZA
     have hwk:=Ho.xE (zH (-1) (aA xs) ((aA xs).take j) _ (tY _ hm))
     have Zo:=eM (-1) (aA xs) ((aA xs).take j) (bN kvs xs ys i)
     have Lm:((aA xs).take j).length≤(aA xs).length:=List.length_take_le' _ _
     have pf:∀o',(upd (upd H3 fd (.dK (d6 (-1) (bN kvs xs ys i) ((aA xs).take j) (aA xs)))) tk o') fd=some (.dK (d6 (-1) (bN kvs xs ys i) ((aA xs).take j) (aA xs))):=fun o'=>by rw[ah Ul];exact af
     refine⟨_,rfl,_,rfl,fd,V.int _,rfl, .inl ⟨_,k, .inl (pf _),rfl,hwk.symm⟩,_,rfl,_,rfl,tk,V.int (aO (aA xs) k),rfl, .inl ⟨_,k, .inr ⟨o,af⟩,rfl,hv.symm⟩,_,_,rfl,rfl,_,rfl,_,rfl,fd,_,rfl,jf.k (k:=k) (pf _) (by omega),?_⟩
     refine⟨by rw[ah (Ne.symm Ul)];exact af,some (kV k),rfl,?_⟩
     rw[js Ul Uj]
     show upd H3 fd (.dK (putK _ k (.int (_ - _))))=_
     have ez:∀a b:Int,a - b=a+ -1*b:=fun a b=>by omega
     rw[ez]
     unfold d6
     rw[take_snoc HM,List.foldl_append]
     rfl
    ·rintro σ H' ⟨v8,rfl,rfl⟩
     rw[List.take_length]
     have hIv:=df (-1) (aA xs) (aA xs) _ ZA
     have hvl:=eM (-1) (aA xs) (aA xs) (bN kvs xs ys i)
     have ew:bN kvs xs ys (i+1)=d6 1 (d6 (-1) (bN kvs xs ys i) (aA xs) (aA xs)) (aA ys) (aA ys):=rfl
     generalize d6 (-1) (bN kvs xs ys i) (aA xs) (aA xs)=W at hIv hvl ew ⊢
     refine⟨_,rfl,gv,aA ys,rfl,Um _,fun o nf=>dA nf (fun j σ H'=>∃v8:Option V,σ=[some (.ref am),some (.ref l),some (.ref r),some (.int n),some (.ref fd),some (.ref tk),some (.ref gv),some (.int (0+i)),v8]∧H'=upd H3 fd (.dK (d6 1 W ((aA ys).take j) (aA ys)))) ⟨v8,rfl,rfl⟩ (fun j σ H' ⟨_,_,z⟩=>by rw[z];exact Um _) ?_ ?_⟩
     ·rintro j k v σ H' HM ⟨v8,rfl,rfl⟩
      have hm:=List.mem_of_getElem? HM
      have hv:=Ub.dN hm
      have Ho:=df 1 (aA ys) ((aA ys).take j) _ hIv
      have Zo:=eM 1 (aA ys) ((aA ys).take j) W
      have Lm:((aA ys).take j).length≤(aA ys).length:=List.length_take_le' _ _
      have pf:∀o',(upd (upd H3 fd (.dK (d6 1 W ((aA ys).take j) (aA ys)))) gv o') fd=some (.dK (d6 1 W ((aA ys).take j) (aA ys))):=fun o'=>by rw[ah Zz];exact af
      refine⟨_,rfl,fd,rfl, .inl ⟨_, .inl (pf _)⟩,_,rfl,_,gj.k (k:=k) (pf _),_,rfl,_,rfl,gv,V.int (aO (aA ys) k),rfl, .inl ⟨_,k, .inr ⟨o,af⟩,rfl,hv.symm⟩,_,_,Ho.at k,rfl,_,rfl,_,rfl,fd,_,rfl,jf.k (k:=k) (pf _) (by omega),?_⟩
      refine⟨by rw[ah (Ne.symm Zz)];exact af,some (kV k),rfl,?_⟩
      rw[js Zz hgv]
      show upd H3 fd (.dK (putK _ k (.int (_+_))))=_
      have ez:∀a b:Int,a+b=a+1*b:=fun a b=>by omega
      rw[ez]
      unfold d6
      rw[take_snoc HM,List.foldl_append]
      rfl
     ·rintro σ H' ⟨v8,rfl,rfl⟩
      rw[List.take_length]
      refine⟨_,_,rfl,by rw[ew],fun j hj2=>?_⟩
      by_cases c:j<i
      ·exact hj j c
      ·have e:j=i:=by omega
       rw[e]
       exact va
  ·rintro σ H' ⟨v7,v8,rfl,rfl,hj⟩
   exact⟨_,rfl,qN hj fd _ hfd af (hS _)⟩
theorem CT (x:Tm):rW x=⟨(gS x).toArray⟩:=by
 unfold rW gS ye
 by_cases h:x.1=1
 ·rw[if_pos h,if_pos h,h,wB]
  rfl
 ·have e:(toString x.1 :Str)=⟨(aQ x.1).toArray⟩:=by
   rw[←de]
   unfold fj
   rw[if_neg h]
  rw[if_neg h,if_neg h,e,e32,show (⟨#[32]⟩:Str)=⟨[32].toArray⟩ from rfl,bE,bE,List.append_assoc]
theorem CU:∀xs:List Tm,Str.join " + " (xs.map rW)=⟨(sQ xs).toArray⟩
 | []=>rfl
 | [x]=>by
   show rW x=_
   rw[CT]
   show _=(⟨(gS x++[]).toArray⟩:Str)
   rw[List.append_nil]
 |x::y::r=>by
  have ih:=CU (y::r)
  show rW x++" + " ++Str.join " + " ((y::r).map rW)=_
  have ej:(" + " :Str)=⟨[32,43,32].toArray⟩:=by decide+kernel
  rw[ih,CT,ej,bE,bE]
  congr 2
  show gS x++[32,43,32]++(gS y++ij r)=gS x++(([32,43,32]++gS y)++ij r)
  simp only [List.append_assoc]
theorem zI (xs:List Tm):uO xs=⟨(sQ xs).toArray⟩:=by
 unfold uO
 have e:=PyProof.Rows.join_closes (sep:=" + ") (sep':=" + ") (ys:=xs.map rW) rfl
 rw[show Txt.join " + " (xs.map rW)=Str.join " + " (xs.map rW) by simpa using e]
 exact CU xs
theorem zJ (xs ys:List Tm):Zk xs ys=⟨(sQ xs++qi++sQ ys).toArray⟩:=by
 unfold Zk
 have ea:(" -> " :Str)=⟨qi.toArray⟩:=by decide+kernel
 rw[zI,zI,ea,bE,bE]
theorem CV {x:Tm} (h:fP x):(gS x).length≤46:=by
 obtain⟨h1,h2,_,h3,_⟩:=h
 have:=M3 h1 h2
 have:(ye x.1).length≤1:=by
  unfold ye
  split
  ·exact Nat.zero_le _
  ·exact Nat.le_refl _
 unfold gS
 rw[List.length_append,List.length_append]
 omega
theorem L1 {xs:List Tm} (h:∀x∈xs,fP x):(ij xs).length≤49*xs.length:=by
 induction xs with
 |nil=>exact Nat.zero_le _
 |cons x r ih=>
  have h1:=CV (h x (List.mem_cons_self ..))
  have h2:=ih fun y hy=>h y (List.mem_cons_of_mem _ hy)
  have h3:=xg x
  show (Ht x++ij r).length≤_
  rw[List.length_append,List.length_cons]
  omega
theorem CW {xs:List Tm} (h:∀x∈xs,fP x) (hn:xs≠[]):(sQ xs).length+3≤49*xs.length:=by
 cases xs with
 |nil=>exact absurd rfl hn
 |cons x r=>
  have h1:=CV (h x (List.mem_cons_self ..))
  have h2:=L1 fun y hy=>h y (List.mem_cons_of_mem _ hy)
  show (gS x++ij r).length+3≤_
  rw[List.length_append,List.length_cons]
  omega
theorem L4 {xs ys:List Tm} (hx:∀x∈xs,fP x) (hy:∀x∈ys,fP x) (nx:xs≠[]) (ny:ys≠[]) (h:xs.length+ys.length≤8):(Zk xs ys).length≤400:=by
 have h1:=CW hx nx
 have h2:=CW hy ny
 have h3:qi.length=4:=rfl
 rw[zJ,bo,List.length_append,List.length_append]
 omega
theorem IC (a b:Str):Txt.join " -> " [a,b]=a++" -> " ++b:=by
 have e:=PyProof.Rows.join_closes (sep:=" -> ") (sep':=" -> ") (ys:=[a,b]) rfl
 rw[show Txt.join " -> " [a,b]=Str.join " -> " [a,b] by simpa using e]
 rfl
theorem zK:∀(d:Nat) (m:Int) (t:Tr),uh d t→1≤m→∀p∈bq d m t,1≤p.2
 |d,m, .one k n,h,hm,p,hp=>by
  have e:bq d m (.one k n)=[(⟨k.toArray⟩,n*m)]:=by cases d<;>rfl
  rw[e] at hp
  have h:l6 k∧1≤n∧n≤999:=by cases d<;>exact h
  have ep:p=(⟨k.toArray⟩,n*m):=by simpa using hp
  rw[ep]
  have:=Int.mul_le_mul h.2.1 hm (by decide) (by omega)
  simpa using this
 |0,_, .gr _ _,h,_,_,_=>h.elim
 |d+1,m, .gr ts n,h,hm,p,hp=>by
  obtain⟨t,ht,hp⟩:=List.mem_flatMap.mp hp
  obtain⟨_,h1,n1,n2⟩:=h
  have:=Int.mul_le_mul n1 hm (by decide) (by omega)
  exact zK d (n*m) t (h1 t ht) (by simpa using this) p hp
theorem CY:∀(d:Nat) (m:Int) (t:Tr),uh d t→bq d m t≠[]
 |d,m, .one k n,h=>by
  have e:bq d m (.one k n)=[(⟨k.toArray⟩,n*m)]:=by cases d<;>rfl
  rw[e]
  simp
 |0,_, .gr _ _,h=>h.elim
 |d+1,m, .gr ts n,h=>by
  obtain⟨h0,h1,_⟩:=h
  intro z
  cases ts with
  |nil=>exact h0 rfl
  |cons t r=>
   have z:bq d (n*m) t++r.flatMap (bq d (n*m))=[]:=z
   exact CY d (n*m) t (h1 t (List.mem_cons_self ..)) (List.append_eq_nil_iff.mp z).1
def Pos (kvs:List (Key×V)):Prop:=∀q∈kvs,∃i,q.2=V.int i∧1≤i
theorem Pos.nonneg {kvs:List (Key×V)} (h:Pos kvs) (k:Key):0≤aO kvs k:=by
 cases e:b7 kvs k with
 |none=>rw[eK e];exact Int.le_refl _
 |some v=>
  obtain⟨i,ei,hi⟩:=h _ (fW e)
  have ei:v=V.int i:=ei
  rw[ei] at e
  rw[fB e]
  omega
theorem Pos.one {kvs:List (Key×V)} (h:Pos kvs) (hI:bx kvs) {k:Key} (hk:k∈kvs.map (·.1)):1≤aO kvs k:=by
 have e:=hI.xE hk
 obtain⟨i,ei,hi⟩:=h _ (fW e)
 have ei:V.int (aO kvs k)=V.int i:=ei
 injection ei with ei
 omega
theorem qu:∀(as:List (Str×Int)) (acc:List (Key×V)),Pos acc→(∀p∈as,1≤p.2)→Pos (a8 1 acc as)
 | [],_,h,_=>h
 |p::r,acc,h,hp=>by
  have h1:=hp p (List.mem_cons_self ..)
  refine qu r (b8 acc (Sum.inr p.1) (p.2*1)) (fun q hq=>?_) fun q hq=>hp q (List.mem_cons_of_mem _ hq)
  rcases qo hq with hq|hq
  ·exact h q hq
  ·rw[hq]
   refine⟨_,rfl,?_⟩
   have:=h.nonneg (Sum.inr p.1)
   omega
theorem CZ (t:Int) {j:Key}:∀(as:List (Str×Int)) (acc:List (Key×V)),j∈acc.map (·.1)→j∈(a8 t acc as).map (·.1)
 | [],_,h=>h
 |p::r,acc,h=>CZ t r (b8 acc (Sum.inr p.1) (p.2*t)) (gm h)
theorem Bi (t:Int) {p:Str×Int}:∀(as:List (Str×Int)) (acc:List (Key×V)),p∈as→(Sum.inr p.1 :Key)∈(a8 t acc as).map (·.1)
 | [],_,h=>by cases h
 |q::r,acc,h=>by
  rcases List.mem_cons.mp h with rfl|h
  ·exact CZ t r _ (qt _ _ _)
  ·exact Bi t r _ h
theorem P5 {x:Fm} (h:cS x):Pos (cW 1 x.1):=qu _ _ (fun q hq=>by cases hq) fun p hp=>by
 obtain⟨y,hy,hp⟩:=List.mem_flatMap.mp hp
 have zV:=lz h.1 y hy
 obtain⟨t,ht,hp⟩:=List.mem_flatMap.mp hp
 exact zK 1 y.1 t (zV.2.1 t ht) zV.2.2.1 p hp
theorem P6 {x:Fm} (h:cS x) (k:Key):aO (cW 1 x.1) k≤7*1000000000:=by
 have hb:=wx (t:=1) (b:=1000000000) (by decide) (x.1.flatMap (cA 1)) [] 0 (Int.le_refl _) (fun p hp=>by cases hp) fun p hp=>by
  obtain⟨y,hy,hp⟩:=List.mem_flatMap.mp hp
  obtain⟨_,h1,n1,n2⟩:=lz h.1 y hy
  obtain⟨t,ht,hp⟩:=List.mem_flatMap.mp hp
  obtain⟨q1,q2⟩:=sj 1 y.1 t (h1 t ht) (by omega) p hp
  rw[Int.mul_one]
  refine⟨q1,?_⟩
  have:(999 :Int) ^1*y.1≤999*999:=by
   rw[show (999 :Int) ^1=999 from rfl]
   exact Int.mul_le_mul_of_nonneg_left n2 (by decide)
  omega
 have e7:((x.1.flatMap (cA 1)).length:Int)*1000000000≤7*1000000000:=Int.mul_le_mul_of_nonneg_right (by have:=h.2.2;omega) (by decide)
 cases e:b7 (cW 1 x.1) k with
 |none=>rw[eK e];decide
 |some v=>
  obtain⟨i,ei,b0,b1⟩:=hb _ (fW e)
  have ei:v=V.int i:=ei
  rw[ei] at e
  rw[fB e]
  omega
theorem Uo {x:Fm} (h:cS x) (hx:x.1≠[]):cW 1 x.1≠[]:=by
 intro z
 obtain⟨p,hp⟩:∃p,p∈x.1.flatMap (cA 1):=by
  cases e:x.1 with
  |nil=>exact absurd e hx
  |cons y r=>
   have zV:=lz h.1 y (by rw[e];exact List.mem_cons_self ..)
   cases e2:y.2 with
   |nil=>exact absurd e2 zV.1
   |cons t r2=>
    have hn:=CY 1 y.1 t (zV.2.1 t (by rw[e2];exact List.mem_cons_self ..))
    cases e3:bq 1 y.1 t with
    |nil=>exact absurd e3 hn
    |cons p r3=>
     refine⟨p,List.mem_flatMap.mpr ⟨y,List.mem_cons_self ..,?_⟩⟩
     unfold cA
     rw[e2]
     exact List.mem_flatMap.mpr ⟨t,List.mem_cons_self ..,by rw[e3];exact List.mem_cons_self ..⟩
 have:=Bi 1 _ [] hp
 rw[show a8 1 [] (x.1.flatMap (cA 1))=[] from z] at this
 cases this
def JP (s:Str):Fm:=([(1,[.one s.cps.toList 1])],0)
def EX:Fm:=([], -1)
theorem zL (s:Str):(⟨(fL (JP s)).toArray⟩:Str)=s:=by
 unfold JP
 rw[HV]
theorem ID (s:Str):cW 1 (JP s).1=[(Sum.inr s, .int 1)]:=by
 show b8 [] (Sum.inr (⟨s.cps.toList.toArray⟩:Str)) (1*1*1)=_
 rw[Array.toArray_toList]
 rfl
theorem P7 {s:Str} (h:l6 s.cps.toList):cS (JP s):=CA h
theorem Up (s:Str) (k:Key):aO (j6 (JP s)) k=if k=Sum.inr ("+" :Str) then 0 else if k=Sum.inr s then 1 else 0:=by
 unfold j6
 rw[ID,iM,LB]
 rfl
theorem Uq (k:Key):aO (j6 EX) k=if k=Sum.inr ("+" :Str) then -1 else 0:=by
 show aO (putK [] (Sum.inr ("+" :Str)) (.int (-1))) k=_
 rw[iM]
 rfl
theorem jt (a b:List Tm) (k:Key):sumZ (a++b) k=sumZ a k+sumZ b k:=by
 unfold sumZ
 rw[List.map_append,List.sum_append]
theorem gZ (z:Tm) (a:List Tm) (k:Key):sumZ (z::a) k=z.1*aO (j6 z.2) k+sumZ a k:=by
 unfold sumZ
 rw[List.map_cons,List.sum_cons]
theorem gu (k:Key):sumZ [] k=0:=rfl
def L5 (m:Int) (w:Fm) (s:Str):Tm:=(m*aO (cW 1 w.1) (Sum.inr s),JP s)
theorem ve (m:Int) (w:Fm) (k:Key):∀{ms:List Str},ms.Nodup→sumZ (ms.map (L5 m w)) k=if k=Sum.inr ("+" :Str) then 0 else if k∈ms.map Sum.inr then m*aO (cW 1 w.1) k else 0
 | [],_=>by
   rw[List.map_nil,gu]
   split
   ·rfl
   ·rw[if_neg (by simp)]
 |s::r,hn=>by
  rw[List.nodup_cons] at hn
  rw[List.map_cons,gZ,ve m w k hn.2]
  show m*aO (cW 1 w.1) (Sum.inr s)*aO (j6 (JP s)) k+_=_
  rw[Up]
  by_cases hp:k=Sum.inr ("+" :Str)
  ·rw[if_pos hp,if_pos hp,if_pos hp]
   simp
  rw[if_neg hp,if_neg hp,if_neg hp]
  by_cases hk:k=Sum.inr s
  ·have hnot:¬k∈r.map (Sum.inr:Str→Key):=fun z=>by
    obtain⟨s',FZ,e⟩:=List.mem_map.mp z
    rw[hk] at e
    injection e with e
    rw[e] at FZ
    exact hn.1 FZ
   rw[if_pos hk,if_neg hnot,if_pos (by rw[hk];exact List.mem_cons_self ..),hk]
   omega
  ·rw[if_neg hk]
   by_cases hr:k∈r.map (Sum.inr:Str→Key)
   ·rw[if_pos hr,if_pos (by rw[List.map_cons];exact List.mem_cons_of_mem _ hr)]
    omega
   ·rw[if_neg hr,if_neg (by rw[List.map_cons];intro z;rcases List.mem_cons.mp z with z|z;exact hk z;exact hr z)]
    omega
theorem Ur (m:Int) (w:Fm) (k:Key):sumZ [(m,w)] k=m*(if k=Sum.inr ("+" :Str) then w.2 else aO (cW 1 w.1) k):=by
 rw[gZ,gu,Int.add_zero]
 unfold j6
 rw[iM]
theorem Us (m:Int) {w:Fm} (h:cS w) {ms:List Str} (hn:ms.Nodup) (hm:∀k,k∈(cW 1 w.1).map (·.1)↔k∈ms.map (Sum.inr:Str→Key)) (k:Key):sumZ [(m,w)] k=sumZ (ms.map (L5 m w)) k+if k=Sum.inr ("+" :Str) then m*w.2 else 0:=by
 rw[Ur,ve m w k hn]
 by_cases hp:k=Sum.inr ("+" :Str)
 ·rw[if_pos hp,if_pos hp,if_pos hp]
  omega
 rw[if_neg hp,if_neg hp,if_neg hp,Int.add_zero]
 by_cases hk:k∈ms.map (Sum.inr:Str→Key)
 ·rw[if_pos hk]
 ·rw[if_neg hk,nu fun z=>hk ((hm k).mp z),Int.mul_zero]
def EY (ws:List Fm) (z:Tm):Prop:=pJ 100000000000 z∧Told ws (⟨(fL z.2).toArray⟩:Str)
def vf (ws:List Fm) (n:Nat) (xs ys:List Tm):Prop:=xs≠[]∧ys≠[]∧(∀x∈xs,EY ws x)∧(∀y∈ys,EY ws y)∧xs.length+ys.length≤n∧∀k,sumZ xs k=sumZ ys k
theorem vf.swap {ws:List Fm} {n:Nat} {xs ys:List Tm} (h:vf ws n xs ys):vf ws n ys xs:=by
 obtain⟨h1,h2,h3,h4,h5,h6⟩:=h
 exact⟨h2,h1,h4,h3,by omega,fun k=>(h6 k).symm⟩
theorem vf.ev {ws:List Fm} {xs ys:List Tm} (h:vf ws 8 xs ys):Bb (Txt.join " -> " [uO xs,uO ys]) xs ys:=by
 obtain⟨h1,h2,h3,h4,h5,h6⟩:=h
 have tw:∀{z:Tm},EY ws z→fP z:=fun {z} h=>⟨h.1.1,Int.le_trans h.1.2.1 (by decide),h.1.2.2⟩
 have ox:∀t∈xs,fP t:=fun t ht=>tw (h3 t ht)
 have oy:∀t∈ys,fP t:=fun t ht=>tw (h4 t ht)
 have et:Txt.join " -> " [uO xs,uO ys]=Zk xs ys:=IC _ _
 have fl:∀zs:List Tm,(∀t∈zs,fP t)→zg zs≤7*zs.length:=fun zs=>by
  induction zs with
  |nil=>intro _;exact Nat.le_refl _
  |cons z r ih=>
   intro h
   have h1:=(h z (List.mem_cons_self ..)).2.2.2.2
   have h2:=ih fun t ht=>h t (List.mem_cons_of_mem _ ht)
   unfold zg at h2 ⊢
   rw[List.map_cons,List.sum_cons,List.length_cons]
   omega
 have hf:=fl (xs++ys) fun t ht=>by
  rcases List.mem_append.mp ht with z|z
  ·exact ox t z
  ·exact oy t z
 rw[List.length_append] at hf
 rw[et]
 exact⟨by rw[zJ],h1,h2,ox,oy,L4 ox oy h1 h2 h5,h5,by omega,fun t ht=>(ox t ht).2.2,fun t ht=>(oy t ht).2.2,h6⟩
theorem C0 (ws:List Fm) {n:Int} (h1:1≤n) (h2:n≤10000):EY ws (n,EX):=⟨⟨h1,by show n≤100000000000;omega,M6⟩, .inl Pt⟩
theorem chg0 {ws:List Fm} {w:Fm} (hw:w∈ws) (ok:cS w) (h3:(cW 1 w.1).length≤3) {m:Int} (m1:1≤m) (m3:m≤3) {ks ms:List Str} (hk:(cW 1 w.1).map (·.1)=ks.map Sum.inr) (pm:ms.Perm ks):
  vf ws 5 ([(m,w)]++if 0<w.2 then [(m*w.2,EX)] else []) (ms.map (L5 m w)++if w.2<0 then [(0 - m*w.2,EX)] else []):=by
 have hc:=Cu ok
 have hnd:ms.Nodup:=by
  refine pm.nodup_iff.mpr ?_
  have:=TQ w
  rw[hk] at this
  exact List.Pairwise.of_map (S:=(·≠·)) Sum.inr (fun a b h e=>h (by rw[e])) this
 have Ut:∀k,k∈(cW 1 w.1).map (·.1)↔k∈ms.map (Sum.inr:Str→Key):=fun k=>by rw[hk];exact(pm.map _).mem_iff.symm
 have Tv:ms.length≤3:=by
  have:=congrArg List.length hk
  rw[List.length_map,List.length_map] at this
  rw[pm.length_eq]
  omega
 have aU:∀s∈ms,EY ws (L5 m w s):=fun s hs=>by
  have tY:=(Ut (Sum.inr s)).mpr (List.mem_map_of_mem hs)
  have p1:=(P5 ok).one (wY _) tY
  have p2:=P6 ok (Sum.inr s)
  obtain⟨q,hq,e⟩:=List.mem_map.mp tY
  obtain⟨k,Zp,e'⟩:=xo ok q hq
  rw[e] at e'
  injection e' with e'
  refine⟨⟨?_,?_,P7 (by rw[e'];exact Zp)⟩,?_⟩
  ·show 1≤m*aO (cW 1 w.1) (Sum.inr s)
   obtain rfl|rfl|rfl:m=1∨m=2∨m=3:=by omega
   all_goals omega
  ·show m*aO (cW 1 w.1) (Sum.inr s)≤100000000000
   obtain rfl|rfl|rfl:m=1∨m=2∨m=3:=by omega
   all_goals omega
  ·show Told ws (⟨(fL (JP s)).toArray⟩:Str)
   rw[zL]
   exact .inr (.inr ⟨w,hw,tY⟩)
 have hwo:EY ws (m,w):=⟨⟨m1,by show m≤100000000000;omega,ok⟩, .inr (.inl ⟨w,hw,rfl⟩)⟩
 refine⟨by simp,?_,fun x hx=>?_,fun y hy=>?_,?_,fun k=>?_⟩
 ·by_cases z:w.1=[]
  ·have e:w.2= -1:=by
    have:=ok.1
    rw[z] at this
    exact this
   rw[if_pos (by omega)]
   simp
  ·intro z2
   have z3:=(List.append_eq_nil_iff.mp z2).1
   have z4:ms=[]:=by simpa using z3
   have:=Uo ok z
   have z5:(cW 1 w.1).length=0:=by
    have:=congrArg List.length hk
    rw[List.length_map,List.length_map,←pm.length_eq,z4] at this
    exact this
   exact this (List.length_eq_zero_iff.mp z5)
 ·rcases List.mem_append.mp hx with z|z
  ·rw[List.mem_singleton.mp z];exact hwo
  ·split at z
   ·rw[List.mem_singleton.mp z]
    obtain rfl|rfl|rfl:m=1∨m=2∨m=3:=by omega
    all_goals exact C0 ws (by omega) (by omega)
   ·cases z
 ·rcases List.mem_append.mp hy with z|z
  ·obtain⟨s,hs,rfl⟩:=List.mem_map.mp z
   exact aU s hs
  ·split at z
   ·rw[List.mem_singleton.mp z]
    obtain rfl|rfl|rfl:m=1∨m=2∨m=3:=by omega
    all_goals exact C0 ws (by omega) (by omega)
   ·cases z
 ·rw[List.length_append,List.length_append,List.length_map]
  have a1:(if 0<w.2 then [(m*w.2,EX)] else []:List Tm).length+(if w.2<0 then [(0 - m*w.2,EX)] else []:List Tm).length≤1:=by
   by_cases c:0<w.2
   ·rw[if_pos c,if_neg (by omega)];exact Nat.le_refl _
   ·rw[if_neg c]
    split
    ·exact Nat.le_refl _
    ·exact Nat.zero_le _
  show 1+_+_≤5
  omega
 ·rw[jt,jt,Us m ok hnd Ut k]
  have se:∀n:Int,sumZ [(n,EX)] k=n*if k=Sum.inr ("+" :Str) then -1 else 0:=fun n=>by
   rw[gZ,gu,Int.add_zero,Uq]
  by_cases c:0<w.2
  ·rw[if_pos c,if_neg (by omega:¬w.2<0),se,gu]
   split<;>omega
  ·rw[if_neg c,gu]
   by_cases d:w.2<0
   ·rw[if_pos d,se]
    split<;>omega
   ·rw[if_neg d,gu]
    have:w.2=0:=by omega
    rw[this]
    split<;>omega
theorem vf.a {ws:List Fm} {n:Nat} {xs ys:List Tm} (h:vf ws n xs ys) {z:Tm} (hz:EY ws z):vf ws (n+2) ([z]++xs) (ys++[z]):=by
 obtain⟨h1,h2,h3,h4,h5,h6⟩:=h
 refine⟨by simp,by simp,fun x hx=>?_,fun x hx=>?_,by rw[List.length_append,List.length_append];show 1+_+(_+1)≤_;omega,fun k=>by rw[jt,jt,h6 k];omega⟩
 ·rcases List.mem_append.mp hx with y|y
  ·rw[List.mem_singleton.mp y];exact hz
  ·exact h3 x y
 ·rcases List.mem_append.mp hx with y|y
  ·exact h4 x y
  ·rw[List.mem_singleton.mp y];exact hz
theorem vf.b {ws:List Fm} {n:Nat} {xs ys:List Tm} (h:vf ws n xs ys) {o:Fm} {m:Int} (ho:o∈ws) (ok:cS o) (m1:1≤m) (m4:m≤4):vf ws (n+3) (xs++[(m,o),(1,o)]) ([(m+1,o)]++ys):=by
 obtain⟨h1,h2,h3,h4,h5,h6⟩:=h
 have hz:∀{i:Int},1≤i→i≤5→EY ws (i,o):=fun {i} i1 i2=>⟨⟨i1,by show i≤100000000000;omega,ok⟩, .inr (.inl ⟨o,ho,rfl⟩)⟩
 refine⟨by simp,by simp,fun x hx=>?_,fun x hx=>?_,by rw[List.length_append,List.length_append];show _+2+(1+_)≤_;omega,fun k=>?_⟩
 ·rcases List.mem_append.mp hx with y|y
  ·exact h3 x y
  ·rcases List.mem_cons.mp y with y|y
   ·rw[y];exact hz (by omega) (by omega)
   ·rw[List.mem_singleton.mp y];exact hz (by omega) (by omega)
 ·rcases List.mem_append.mp hx with y|y
  ·rw[List.mem_singleton.mp y];exact hz (by omega) (by omega)
  ·exact h4 x y
 ·rw[jt,jt,h6 k,gZ,gZ,gu,gZ,gu]
  show _+(m*aO (j6 o) k+(1*aO (j6 o) k+0))=((m+1)*aO (j6 o) k+0)+_
  rw[Int.add_mul]
  omega
theorem vf.mono {ws:List Fm} {n m:Nat} {xs ys:List Tm} (h:vf ws n xs ys) (e:n≤m):vf ws m xs ys:=by
 obtain⟨h1,h2,h3,h4,h5,h6⟩:=h
 exact⟨h1,h2,h3,h4,by omega,h6⟩
variable {uC uP uI uD uL uT eW eX eY uG uS:Tok} {Ch HE Sh St:Addr}
inductive Bj (vs:List V) (H:Hp) (Q:VK) (E:XK):Prop
 |mk (c:Int) (wl:Addr) (ws:List Fm) (dX:vs=[.int c, .ref wl]) (dY:lC H wl ws) (d8:(∀w∈ws,cS w)) (fk:(∀w∈ws,(cW 1 w.1).length≤3)) (gG:ws.length=3) (jE:∀(t l r:Addr) (xs ys:List Tm) H',H' t=some (.tup [.ref l, .ref r])→cT H' l xs→cT H' r ys→vf ws 8 xs ys→au H H'→Q (.ref t) H')
def vg:Sp:=Bj
theorem cF:ax ["_law_cell","_law_world_here","_law_text_here","_law_counts","_law_charge","_law_many","_law_lefts","_law_rights","_law_other","_law_more"] ["_law_cell","_law_world_here"] (aj ku):=dB
theorem zM {H:Hp} {wl:Addr} {ws:List Fm} {ts:List Addr} (hP:Paired (yJ H) ts ws) (h3:ws.length=3) (c:Int):∃(t:Addr) (x:Fm),Ah (ts.map V.ref) (c%3)=some (.ref t)∧x∈ws∧yJ H t x:=by
 have iX:=Paired.length hP
 have c0:0≤c%3:=Int.emod_nonneg _ (by decide)
 have c1:c%3<3:=Int.emod_lt_of_pos _ (by decide)
 have hi:(c%3).toNat<ts.length:=by omega
 obtain⟨t,ht⟩:∃t,ts[(c%3).toNat]? =some t:=⟨_,List.getElem?_eq_getElem hi⟩
 obtain⟨x,hx,hF⟩:=bI hP ht
 refine⟨t,x,?_,List.mem_of_getElem? hx,hF⟩
 have:=pR (xs:=ts.map V.ref) (j:=(c%3).toNat) (v:=V.ref t) (by rw[List.getElem?_map,ht];rfl)
 rwa [Int.toNat_of_nonneg c0] at this
theorem Nc {H:Hp} {d f u:Addr} {n:Int} (hd:H d=none) (hf:(upd H d (.dK [])) f=none) (hu:(upd (upd H d (.dK [])) f (.tup [.str "e^-", .ref d, .int (-1)])) u=none):eB (upd (upd (upd H d (.dK [])) f (.tup [.str "e^-", .ref d, .int (-1)])) u (.tup [.int n, .ref f])) u (n,EX)∧au H (upd (upd (upd H d (.dK [])) f (.tup [.str "e^-", .ref d, .int (-1)])) u (.tup [.int n, .ref f])):=by
 have s1:=au.new (o:= .dK []) hd
 have s2:=au.new (o:= .tup [.str "e^-", .ref d, .int (-1)]) hf
 have s3:=au.new (o:= .tup [.int n, .ref f]) hu
 refine⟨⟨f,af,d,?_,s3 _ _ (s2 _ _ af)⟩,(s1.trans s2).trans s3⟩
 show _=some (HO.tup [.str ⟨(fL ([], -1)).toArray⟩, .ref d, .int (-1)])
 rw[Pt]
 exact s3 _ _ af
theorem Bk (D:Def K mg "_law_change" "_law_change" ku ["_law_cell","_law_world_here"]) (T:Hz K mg C R G Pc Fo Ch uK uN uB uE uM uC uP uI uD uL uT eW eX eY):bg P w K mg base 1 "_law_change" ["_law_cell","_law_world_here"] vg:=by
 refine D.di cF (fun vs H Q E h=>?_) (fun f bj A outer s H vs Q E hr h=>?_)
 ·obtain⟨c,wl,ws,rfl,_⟩:=h
  rfl
 ·obtain⟨c,wl,ws,rfl,⟨ts,Ke,hP⟩,aU,Bg,h3,q⟩:=h
  have hu:=dz hr
  have big:(2000 :Nat)≤sizeLine:=by decide
  refine⟨_,(ai
     (FC (cE cZ (pv 1) (aE cK (pv 0) aq) (fun _ _=>rfl)) (g7 rfl (bp (aG (i:=2) cF.nd rfl (Or.inl rfl)) (bp (aG (i:=3) cF.nd rfl (Or.inr rfl)) (bp (aG (i:=4) cF.nd rfl (Or.inl rfl)) dZ)))))
    (ai
     (aB (i:=5) cF.nd rfl (Or.inr rfl) (aE cf aq (aE cK (aE cY (pv 0) aq) aq)))
    (ai
     (aB (i:=6) cF.nd rfl (Or.inl rfl) (cD (aa (bP (aa (pv 5) (aa (bP (aa (pv 2) (aa (pv 3) (aa (pv 4) ak)))) ak))) ak)))
    (ai
     (pU (i:=7) cF.nd rfl (Or.inl rfl) (sc:=(aj ku)) (NX:=["_law_cell","_law_world_here","_law_text_here","_law_counts","_law_charge","_law_many","_law_lefts","_law_rights","_law_other","_law_more"]) (N:=["_law_kind_here","_law_many","_law_counts"]) (fr:=[none,some 5,some 3]) ⟨by rfl,by rfl,by decide+kernel,by decide+kernel,by decide+kernel,by rfl,by decide+kernel⟩ rfl rfl rfl (cN (bw (mI rfl) rfl T.y' tT (aa (pv 3) ak))) (fun _ _ _ _=>(aG (i:=0) (show (["_law_kind_here","_law_many","_law_counts"]:List Str).Nodup by decide+kernel) rfl (Or.inl rfl) (Or.inr rfl))) (fun _ _ _ _=>f7) (fun _ _ _ _=>(bP (aa (aE g8 (pv 1) (b6 hu (pv 2) (pv 0) (fun _ _=>rfl))) (aa (bP (aa (pv 0) (aa (vC (qL (pv 0) aq vB) rfl rfl (by intro z;cases z) (by decide)) (aa aq ak)))) ak)))))
    (ai
     (bG (aP mw (pv 4) aq (aW _))
      (ao
       (bB (jg PySem.F.plainAttrs_list PySem.F.slot_list_append PySem.F.type_list_append d5 (pv 7) (aa (bP (aa (aE ka aq (aE g8 (pv 5) (pv 4))) (aa (bP (aa bJ (aa dw (aa (pb kb aq) ak)))) ak))) ak))))
      aR)
    (ai
     (bG (aP lN (pv 4) aq (aW _))
      (ao
       (bB (jg PySem.F.plainAttrs_list PySem.F.slot_list_append PySem.F.type_list_append d5 (pv 6) (aa (bP (aa (aE g8 (pv 5) (pv 4)) (aa (bP (aa bJ (aa dw (aa (pb kb aq) ak)))) ak))) ak))))
      aR)
    (ai
     (aB (i:=8) cF.nd rfl (Or.inl rfl) (cE cZ (pv 1) (aE cK (aE cY (pv 0) aq) aq) (fun _ _=>rfl)))
    (ai
     (aB (i:=9) cF.nd rfl (Or.inl rfl) (aE cf aq (aE cK (aE cY (pv 0) aq) aq)))
    (ai
     (bG (aP d7 (aE cK (aE cY (pv 0) aq) aq) aq (aW _))
      (ai
       (aB (i:=6) cF.nd rfl (Or.inl rfl) (aE oj (cD (aa (bP (aa (pv 9) (aa (pv 8) ak))) ak)) (pv 6)))
      (ao
       (aB (i:=7) cF.nd rfl (Or.inl rfl) (aE oj (pv 7) (cD (aa (bP (aa (pv 9) (aa (pv 8) ak))) ak))))))
      aR)
    (ai
     (bG (aP d7 (aE cK (aE cY (pv 0) aq) aq) aq (aW _))
      (ai
       (aB (i:=6) cF.nd rfl (Or.inl rfl) (aE oj (pv 6) (cD (aa (bP (aa (pv 9) (aa (pv 8) ak))) (aa (bP (aa aq (aa (pv 8) ak))) ak)))))
      (ao
       (aB (i:=7) cF.nd rfl (Or.inl rfl) (aE oj (cD (aa (bP (aa (aE cf (pv 9) aq) (aa (pv 8) ak))) ak)) (pv 7)))))
      aR)
    (ai
     (bG (aP d7 (aE cK (aE cY (pv 0) aq) aq) aq (aW _))
      (ao
       (aD (bP (aa (pv 7) (aa (pv 6) ak)))))
      aR)
    (ao
     (aD (bP (aa (pv 6) (aa (pv 7) ak)))))))))))))))),?_⟩
  obtain⟨t,x,Lf,PY,cd,Ri,hx2⟩:=zM (wl:=wl) hP h3 c
  refine⟨_,rfl,_,rfl,_,_,rfl,rfl,(by show (0 :Int) <3;decide),wl,_,_,V.ref t,rfl,rfl,b5.of Ke,Lf,?_⟩
  refine⟨t,_,rfl,jc.of Ri,rfl,_,_,rfl,_,_,rfl,_,_,rfl,rfl,?_⟩
  refine⟨_,rfl,_,_,rfl,rfl,⟨by decide,by decide⟩,_,_,rfl,rfl,(by show (0 :Int) <3;decide),_,_,rfl,rfl,?_⟩
  have m0:0≤c/3%3:=Int.emod_nonneg _ (by decide)
  have m1:c/3%3<3:=Int.emod_lt_of_pos _ (by decide)
  dsimp only [du]
  obtain⟨m,em⟩:∃m,m=1+c/3%3:=⟨_,rfl⟩
  rw[←em]
  have mm1:1≤m:=by omega
  have mm3:m≤3:=by omega
  clear em m0 m1
  refine⟨_,rfl,_,rfl,_,rfl,_,rfl,(by show 3≤sizeLine;decide),fun p hp=>⟨(by show 2≤sizeLine;decide),fun q1 hq1=>⟨(by show 1≤sizeLine;decide),fun L hL=>?_⟩⟩⟩
  have s1:=au.new (o:= .tup [.str ⟨(fL x).toArray⟩, .ref cd, .int x.2]) hp
  have s2:=au.new (o:= .tup [.int m, .ref p]) hq1
  have s3:=au.new (o:= .lst [.ref q1]) hL
  have e3:=(s1.trans s2).trans s3
  have nE:(upd (upd (upd H p (.tup [.str ⟨(fL x).toArray⟩, .ref cd, .int x.2])) q1 (.tup [.int m, .ref p])) L (.lst [.ref q1])) L=some (.lst [.ref q1]):=af
  have Rv:eB (upd (upd (upd H p (.tup [.str ⟨(fL x).toArray⟩, .ref cd, .int x.2])) q1 (.tup [.int m, .ref p])) L (.lst [.ref q1])) q1 (m,x):=⟨p,s3 _ _ af,cd,s3 _ _ (s2 _ _ af),e3 _ _ hx2⟩
  have hLH:H L=none:=none_back (s1.trans s2) hL
  dsimp only [du]
  generalize upd (upd (upd H p (.tup [.str ⟨(fL x).toArray⟩, .ref cd, .int x.2])) q1 (.tup [.int m, .ref p])) L (.lst [.ref q1])=H3 at e3 nE Rv ⊢
  have mq:=aU x PY
  have PX:=Bg x PY
  have xQ:(((cW 1 x.1).map (·.1)).filterMap Tt).map Sum.inr=(cW 1 x.1).map (·.1):=Cq (Cr x.1)
  obtain⟨ks,eks⟩:∃ks,ks=((cW 1 x.1).map (·.1)).filterMap Tt:=⟨_,rfl⟩
  rw[←eks] at xQ
  have mr:ks.length≤3:=by
   have:=congrArg List.length xQ
   rw[List.length_map,List.length_map] at this
   omega
  refine⟨_,rfl,cd,cW 1 x.1,ks,rfl, .inl (e3 _ _ hx2),xQ.symm,by omega,fun l2 ms pm sm sT=>?_⟩
  have s4:=au.new (o:= .lst (ms.map V.str)) sT
  have MS:(upd H3 l2 (.lst (ms.map V.str))) l2=some (.lst (ms.map V.str)):=af
  have e4:=e3.trans s4
  have B7:=s4 _ _ nE
  have Zy:=Rv.same s4
  generalize upd H3 l2 (.lst (ms.map V.str))=H4 at e4 MS B7 Zy ⊢
  have Tv:ms.length≤3:=by rw[pm.length_eq];exact mr
  refine⟨l2,rfl,⟨_,b5.of MS⟩,fun R0 ZC=>kU (K:=K) (a:=l2) (L:=R0) (xs:=ms.map V.str) H4 (fun σ=>∃v:Option V,σ=[v,some (.int m),some (.ref cd)]) (fun i ys H'=>∃us:List Addr,ys=us.map V.ref∧us.length=i∧Paired (fun u z=>u≠R0∧∃f d,f≠R0∧d≠R0∧H' u=some (.tup [.int z.1, .ref f])∧H' f=some (.tup [.str ⟨(fL z.2).toArray⟩, .ref d, .int z.2.2])∧H' d=some (.dK (cW 1 z.2.1))) us ((ms.take i).map (L5 m x))) (b5.of MS) ?_ ZC ⟨none,rfl⟩ (au.new ZC) af ⟨[],rfl,rfl, .nil⟩ (by rw[List.length_map];omega) ?_ ?_ ?_⟩
  ·rintro i ys Ha Hb hb ⟨us,h1,h2,h4⟩
   exact⟨us,h1,h2,aK (fun u z ⟨n1,f,d,n2,n3,z1,z2,z3⟩=>⟨n1,f,d,n2,n3,hb _ _ z1 n1,hb _ _ z2 n2,hb _ _ z3 n3⟩) h4⟩
  ·rintro i ys H' ⟨us,rfl,h2,_⟩
   rw[List.length_map,h2];exact Nat.le_refl _
  ·rintro i v σ H5 ys hi ⟨v0,rfl⟩ e5 G0 ⟨us,rfl,M5,P2⟩ N M hN
   rw[List.getElem?_map] at hi
   obtain⟨sk,hsk,rfl⟩:∃p,ms[i]? =some p∧v=V.str p:=by
    cases hh:ms[i]? with
    |none=>rw[hh] at hi;cases hi
    |some p=>rw[hh] at hi;exact⟨p,rfl,(Option.some.inj hi).symm⟩
   have tY:(Sum.inr sk:Key)∈(cW 1 x.1).map (·.1):=by
    rw[←xQ]
    exact List.mem_map_of_mem (pm.mem_iff.mp (List.mem_of_getElem? hsk))
   have hv:=(wY x.1).xE tY
   have hcd5:H5 cd=some (.dK (cW 1 x.1)):=e5 _ _ (e4 _ _ hx2)
   refine⟨_,rfl,_,rfl,_,rfl,cd,V.int (aO (cW 1 x.1) (Sum.inr sk)),rfl, .inl ⟨_,Sum.inr sk, .inl hcd5,rfl,hv.symm⟩,_,_,rfl,rfl, .inl ⟨by omega,by omega⟩,?_⟩
   refine⟨_,rfl,fun d hd=>⟨_,rfl,af,[(Sum.inr sk, .int 1)],rfl,(by show 1≤15;decide),(by show 3≤sizeLine;decide),fun f' hf=>⟨(by show 2≤sizeLine;decide),fun u P1=>?_⟩⟩⟩
   have t1:au H5 (upd (upd H5 d (.dK [])) d (.dK (cu [] [(Sum.inr sk,V.int 1)]))):=fun b o z=>by
    rw[ah (ag z hd),ah (ag z hd)]
    exact z
   have t2:=au.new (o:= .tup [.str sk, .ref d, .int 0]) hf
   have t3:=au.new (o:= .tup [.int (m*aO (cW 1 x.1) (Sum.inr sk)), .ref f']) P1
   have e6:=(t1.trans t2).trans t3
   have T2:=t3 _ _ (t2 _ _ (af (H:=upd H5 d (.dK [])) (a:=d) (o:= .dK (cu [] [(Sum.inr sk,V.int 1)]))))
   have hf6:=t3 _ _ (af (H:=upd (upd H5 d (.dK [])) d (.dK (cu [] [(Sum.inr sk,V.int 1)]))) (a:=f') (o:= .tup [.str sk, .ref d, .int 0]))
   have Fu:=e6 _ _ G0
   refine hN _ _ _ ⟨_,rfl⟩ (e5.trans e6) Fu ⟨us++[u],by rw[List.map_append];rfl,by rw[List.length_append,M5];rfl,?_⟩
   rw[take_snoc hsk,List.map_append]
   refine bS ⟨cI (af (o:= .tup [.int (m*aO (cW 1 x.1) (Sum.inr sk)), .ref f'])) Fu (by intro z;cases z),f',d,cI hf6 Fu (by intro z;cases z),cI T2 Fu (by intro z;cases z),af,?_,?_⟩ (aK (fun u z ⟨n1,f,d,n2,n3,z1,z2,z3⟩=>⟨n1,f,d,n2,n3,e6 _ _ z1,e6 _ _ z2,e6 _ _ z3⟩) P2)
   ·show _=some (HO.tup [.str ⟨(fL (JP sk)).toArray⟩, .ref d, .int 0])
    rw[zL]
    exact hf6
   ·show _=some (HO.dK (cW 1 (JP sk).1))
    rw[ID]
    exact T2
  ·rintro H5 ys e5 G0 ⟨us,rfl,M5,P2⟩
   rw[List.length_map,List.take_length] at P2
   have Uv:Paired (eB H5) us (ms.map (L5 m x)):=aK (fun u z ⟨n1,f,d,n2,n3,z1,z2,z3⟩=>⟨f,z1,d,z2,z3⟩) P2
   clear P2
   have hR0H:H R0=none:=none_back e4 ZC
   have nLR:L≠R0:=ag B7 ZC
   have px:=e5 _ _ B7
   have hT5:=Zy.same e5
   have e05:=e4.trans e5
   have hul':us.length≤3:=by rw[M5,List.length_map];exact Tv
   dsimp only [Bv]
   refine iD (fun σ' H'=>∃us:List Addr,σ'=[some (.int c),some (.ref wl),some (.str ⟨(fL x).toArray⟩),some (.ref cd),some (.int x.2),some (.int m),some (.ref L),some (.ref R0),none,none]∧H' R0=some (.lst (us.map V.ref))∧us.length≤4∧Paired (eB H') us (ms.map (L5 m x)++if x.2<0 then [(0 - m*x.2,EX)] else [])∧H' L=some (.lst [.ref q1])∧eB H' q1 (m,x)∧au H H') (fun N hN=>?_) ?_
   ·refine⟨_,rfl,_,_,rfl,rfl,_,rfl,fM (fun en=>?_) fun en=>?_⟩
    ·have en:x.2<0:=by simpa using en
     refine⟨_,rfl, .inl ⟨rfl,_,b5.of G0⟩,_,rfl,_,rfl,_,_,rfl,rfl, .inl ⟨by omega,by omega⟩,_,_,rfl,rfl,fun d hd=>⟨1,rfl,(by show 3≤sizeLine;decide),fun f' hf=>⟨(by show 2≤sizeLine;decide),fun u P1=>?_⟩⟩⟩
     obtain⟨tu,t6⟩:=Nc (n:=0 - m*x.2) hd hf P1
     have Fu:=t6 _ _ G0
     refine⟨R0,_,_,rfl,rfl,Fu,by rw[List.length_map];omega,hN _ _ ⟨us++[u],rfl,by rw[af,List.map_append];rfl,by rw[List.length_append];show _+1≤4;omega,?_,?_,?_,?_⟩⟩
     ·rw[if_pos en]
      exact bS (tu.but Fu fun b o z n=>by rw[ah n];exact z) (aK (fun a z h=>(h.same t6).but Fu fun b o z n=>by rw[ah n];exact z) Uv)
     ·rw[ah nLR]
      exact t6 _ _ px
     ·exact(hT5.same t6).but Fu fun b o z n=>by rw[ah n];exact z
     ·exact fun b o z=>by rw[ah (ag z hR0H)];exact t6 _ _ (e05 _ _ z)
    ·have en:¬x.2<0:=by simpa using en
     refine hN _ _ ⟨us,rfl,G0,by omega,?_,px,hT5,e05⟩
     rw[if_neg en,List.append_nil]
     exact Uv
   rintro σ' H6 ⟨us,rfl,Fu,hu4,Uv,Lb,hT6,e6⟩
   refine iD (fun σ' H'=>∃ls:List Addr,σ'=[some (.int c),some (.ref wl),some (.str ⟨(fL x).toArray⟩),some (.ref cd),some (.int x.2),some (.int m),some (.ref L),some (.ref R0),none,none]∧H' R0=some (.lst (us.map V.ref))∧Paired (eB H') us (ms.map (L5 m x)++if x.2<0 then [(0 - m*x.2,EX)] else [])∧H' L=some (.lst (ls.map V.ref))∧Paired (eB H') ls ([(m,x)]++if 0<x.2 then [(m*x.2,EX)] else [])∧au H H') (fun N hN=>?_) ?_
   ·refine⟨_,rfl,_,_,rfl,rfl,_,rfl,fM (fun en=>?_) fun en=>?_⟩
    ·have en:0<x.2:=by simpa using en
     refine⟨_,rfl, .inl ⟨rfl,_,b5.of Lb⟩,_,rfl,_,rfl,_,_,rfl,rfl, .inl ⟨by omega,by omega⟩,fun d hd=>⟨1,rfl,(by show 3≤sizeLine;decide),fun f' hf=>⟨(by show 2≤sizeLine;decide),fun u P1=>?_⟩⟩⟩
     obtain⟨tu,t6⟩:=Nc (n:=m*x.2) hd hf P1
     have Rw:=t6 _ _ Lb
     refine⟨L,_,_,rfl,rfl,Rw,(by show 1<sizeLine;decide),hN _ _ ⟨[q1,u],rfl,?_,?_,?_,?_,?_⟩⟩
     ·rw[ah (Ne.symm nLR)]
      exact t6 _ _ Fu
     ·exact aK (fun a z h=>(h.same t6).but Rw fun b o z n=>by rw[ah n];exact z) Uv
     ·rw[af]
      rfl
     ·rw[if_pos en]
      exact .cons ((hT6.same t6).but Rw fun b o z n=>by rw[ah n];exact z) (.cons (tu.but Rw fun b o z n=>by rw[ah n];exact z) .nil)
     ·exact fun b o z=>by rw[ah (ag z hLH)];exact t6 _ _ (e6 _ _ z)
    ·have en:¬0<x.2:=by simpa using en
     refine hN _ _ ⟨[q1],rfl,Fu,Uv,Lb,?_,e6⟩
     rw[if_neg en,List.append_nil]
     exact .cons hT6 .nil
   rintro σ' H7 ⟨ls,rfl,hR7,hPr,Rw,hPl,e7⟩
   have hG:=chg0 PY mq PX mm1 mm3 xQ.symm pm
   have Bl:cT H7 L _:=⟨ls,Rw,hPl⟩
   have Bm:cT H7 R0 _:=⟨us,hR7,hPr⟩
   generalize ([(m,x)]++if 0<x.2 then [(m*x.2,EX)] else [])=xs at hG Bl
   generalize (ms.map (L5 m x)++if x.2<0 then [(0 - m*x.2,EX)] else [])=ys at hG Bm
   obtain⟨t2,o2,Pa,ZD,Uw⟩:=zM (wl:=wl) hP h3 (c/27)
   refine⟨_,rfl,_,rfl,_,_,rfl,rfl,⟨by decide,by decide⟩,_,_,rfl,rfl,(by show (0 :Int) <3;decide),wl,_,_,V.ref t2,rfl,rfl,b5.of (e7 _ _ Ke),Pa,?_⟩
   refine⟨_,rfl,_,_,rfl,rfl,⟨by decide,by decide⟩,_,_,rfl,rfl,(by show (0 :Int) <4;decide),_,_,rfl,rfl,?_⟩
   have n0:0≤c/81%4:=Int.emod_nonneg _ (by decide)
   have n1:c/81%4<4:=Int.emod_lt_of_pos _ (by decide)
   dsimp only [du,Bv]
   obtain⟨mo,emo⟩:∃m,m=1+c/81%4:=⟨_,rfl⟩
   rw[←emo]
   have mo1:1≤mo:=by omega
   have mo4:mo≤4:=by omega
   clear emo n0 n1
   have okl:EY ws (mo,o2):=⟨⟨mo1,by show mo≤100000000000;omega,aU o2 ZD⟩, .inr (.inl ⟨o2,ZD,rfl⟩)⟩
   refine iD (fun σ' H'=>∃(L R0:Addr) (xs ys:List Tm),σ'=[some (.int c),some (.ref wl),some (.str ⟨(fL x).toArray⟩),some (.ref cd),some (.int x.2),some (.int m),some (.ref L),some (.ref R0),some (.ref t2),some (.int mo)]∧cT H' L xs∧cT H' R0 ys∧vf ws 8 xs ys∧(¬c/9%3=1→vf ws 5 xs ys)∧au H H') (fun N hN=>?_) ?_
   ·refine⟨_,rfl,_,_,rfl,rfl,⟨by decide,by decide⟩,_,_,rfl,rfl,(by show (0 :Int) <3;decide),rfl,_,rfl,fM (fun ev=>?_) fun ev=>?_⟩
    ·have ev:c/9%3=1:=by simpa using ev
     obtain⟨EZ,uq,IE⟩:=Bl
     obtain⟨P8,eF,IF⟩:=Bm
     have l1:=Paired.length IE
     have l2:=Paired.length IF
     have l5:=hG.2.2.2.2.1
     refine⟨_,rfl,_,rfl,(by show 2≤sizeLine;decide),fun p hp=>⟨(by show 1≤sizeLine;decide),fun q2 ZE=>?_⟩⟩
     have s1:=au.new (o:= .tup [.int mo, .ref t2]) hp
     have s2:=s1.trans (au.new (o:= .lst [.ref p]) ZE)
     have FL:=au.new (o:= .lst [.ref p]) ZE _ _ (af (H:=H7) (a:=p) (o:= .tup [.int mo, .ref t2]))
     have Ux:(upd (upd H7 p (.tup [.int mo, .ref t2])) q2 (.lst [.ref p])) q2=some (.lst [.ref p]):=af
     generalize upd (upd H7 p (.tup [.int mo, .ref t2])) q2 (.lst [.ref p])=H8 at s2 FL Ux ⊢
     refine⟨_,rfl,q2,L,[.ref p],EZ.map V.ref,rfl,rfl,Ux,s2 _ _ uq,by rw[List.length_map];show 1+_≤_;omega,fun L2 sX=>?_⟩
     have s3:=au.new (o:= .lst ([.ref p]++EZ.map V.ref)) sX
     have Nd:(upd H8 L2 (.lst ([.ref p]++EZ.map V.ref))) L2=some (.lst ([.ref p]++EZ.map V.ref)):=af
     have Uy:=s2.trans s3
     have Uz:=s3 _ _ FL
     generalize upd H8 L2 (.lst ([.ref p]++EZ.map V.ref))=H9 at Uy Nd Uz ⊢
     refine⟨_,rfl,_,rfl,_,rfl,(by show 2≤sizeLine;decide),fun p' yf=>⟨(by show 1≤sizeLine;decide),fun q3 UA=>?_⟩⟩
     have r1:=au.new (o:= .tup [.int mo, .ref t2]) yf
     have r2:=r1.trans (au.new (o:= .lst [.ref p']) UA)
     have UB:=au.new (o:= .lst [.ref p']) UA _ _ (af (H:=H9) (a:=p') (o:= .tup [.int mo, .ref t2]))
     have UC:(upd (upd H9 p' (.tup [.int mo, .ref t2])) q3 (.lst [.ref p'])) q3=some (.lst [.ref p']):=af
     generalize upd (upd H9 p' (.tup [.int mo, .ref t2])) q3 (.lst [.ref p'])=MF at r2 UB UC ⊢
     have yg:=Uy.trans r2
     refine⟨R0,q3,P8.map V.ref,[.ref p'],rfl,rfl,yg _ _ eF,UC,by rw[List.length_map];show _+1≤_;omega,fun R2 ir=>?_⟩
     have r3:=au.new (o:= .lst (P8.map V.ref++[.ref p'])) ir
     have IG:=yg.trans r3
     refine hN _ _ ⟨L2,R2,[(mo,o2)]++xs,ys++[(mo,o2)],rfl,⟨[p]++EZ,?_,?_⟩,⟨P8++[p'],?_,?_⟩,(hG.a okl).mono (by decide),fun z=>absurd ev z,e7.trans IG⟩
     ·rw[List.map_append]
      exact r3 _ _ (r2 _ _ Nd)
     ·exact .cons ⟨t2,r3 _ _ (r2 _ _ Uz),Uw.same (e7.trans IG)⟩ (aK (fun a z h=>h.same IG) IE)
     ·rw[List.map_append]
      exact af
     ·exact bS ⟨t2,r3 _ _ UB,Uw.same (e7.trans IG)⟩ (aK (fun a z h=>h.same IG) IF)
    ·have ev:¬c/9%3=1:=by simpa using ev
     exact hN _ _ ⟨L,R0,xs,ys,rfl,Bl,Bm,hG.mono (by decide),fun _=>hG,e7⟩
   clear Bl Bm hG
   rintro σ' H8 ⟨L,R0,xs,ys,rfl,Bl,Bm,UD,hG5,e8⟩
   refine iD (fun σ' H'=>∃(L R0:Addr) (xs ys:List Tm),σ'=[some (.int c),some (.ref wl),some (.str ⟨(fL x).toArray⟩),some (.ref cd),some (.int x.2),some (.int m),some (.ref L),some (.ref R0),some (.ref t2),some (.int mo)]∧cT H' L xs∧cT H' R0 ys∧vf ws 8 xs ys∧au H H') (fun N hN=>?_) ?_
   ·refine⟨_,rfl,_,_,rfl,rfl,⟨by decide,by decide⟩,_,_,rfl,rfl,(by show (0 :Int) <3;decide),rfl,_,rfl,fM (fun ev=>?_) fun ev=>?_⟩
    ·have ev:c/9%3=2:=by simpa using ev
     have hG:=hG5 (by omega)
     obtain⟨EZ,uq,IE⟩:=Bl
     obtain⟨P8,eF,IF⟩:=Bm
     have l1:=Paired.length IE
     have l2:=Paired.length IF
     have l5:=hG.2.2.2.2.1
     refine⟨_,rfl,_,rfl,_,rfl,(by show 2≤sizeLine;decide),fun p hp=>⟨_,rfl,(by show 2≤sizeLine;decide),fun p1 hp1=>⟨(by show 2≤sizeLine;decide),fun q2 ZE=>?_⟩⟩⟩
     have s1:=au.new (o:= .tup [.int mo, .ref t2]) hp
     have s1':=au.new (o:= .tup [.int 1, .ref t2]) hp1
     have P9:=au.new (o:= .lst [.ref p, .ref p1]) ZE
     have s2:=(s1.trans s1').trans P9
     have FL:=P9 _ _ (s1' _ _ (af (H:=H8) (a:=p) (o:= .tup [.int mo, .ref t2])))
     have UE:=P9 _ _ (af (H:=upd H8 p (.tup [.int mo, .ref t2])) (a:=p1) (o:= .tup [.int 1, .ref t2]))
     have Ux:(upd (upd (upd H8 p (.tup [.int mo, .ref t2])) p1 (.tup [.int 1, .ref t2])) q2 (.lst [.ref p, .ref p1])) q2=some (.lst [.ref p, .ref p1]):=af
     generalize upd (upd (upd H8 p (.tup [.int mo, .ref t2])) p1 (.tup [.int 1, .ref t2])) q2 (.lst [.ref p, .ref p1])=H9 at s2 FL UE Ux ⊢
     refine⟨L,q2,EZ.map V.ref,[.ref p, .ref p1],rfl,rfl,s2 _ _ uq,Ux,by rw[List.length_map];show _+2≤_;omega,fun L2 sX=>?_⟩
     have s3:=au.new (o:= .lst (EZ.map V.ref++[.ref p, .ref p1])) sX
     have Nd:(upd H9 L2 (.lst (EZ.map V.ref++[.ref p, .ref p1]))) L2=some (.lst (EZ.map V.ref++[.ref p, .ref p1])):=af
     have Uy:=s2.trans s3
     have Uz:=s3 _ _ FL
     have UG:=s3 _ _ UE
     generalize upd H9 L2 (.lst (EZ.map V.ref++[.ref p, .ref p1]))=MF at Uy Nd Uz UG ⊢
     refine⟨_,rfl,_,_,rfl,rfl,_,rfl,(by show 2≤sizeLine;decide),fun p' yf=>⟨(by show 1≤sizeLine;decide),fun q3 UA=>?_⟩⟩
     have r1:=au.new (o:= .tup [.int (mo+1), .ref t2]) yf
     have r2:=r1.trans (au.new (o:= .lst [.ref p']) UA)
     have UB:=au.new (o:= .lst [.ref p']) UA _ _ (af (H:=MF) (a:=p') (o:= .tup [.int (mo+1), .ref t2]))
     have UC:(upd (upd MF p' (.tup [.int (mo+1), .ref t2])) q3 (.lst [.ref p'])) q3=some (.lst [.ref p']):=af
     generalize upd (upd MF p' (.tup [.int (mo+1), .ref t2])) q3 (.lst [.ref p'])=H11 at r2 UB UC ⊢
     have IG:=Uy.trans r2
     refine⟨_,rfl,q3,R0,[.ref p'],P8.map V.ref,rfl,rfl,UC,IG _ _ eF,by rw[List.length_map];show 1+_≤_;omega,fun R2 ir=>?_⟩
     have r3:=au.new (o:= .lst ([.ref p']++P8.map V.ref)) ir
     have Rx:=IG.trans r3
     refine hN _ _ ⟨L2,R2,xs++[(mo,o2),(1,o2)],[(mo+1,o2)]++ys,rfl,⟨EZ++[p,p1],?_,?_⟩,⟨[p']++P8,?_,?_⟩,hG.b ZD (aU o2 ZD) mo1 mo4,e8.trans Rx⟩
     ·rw[List.map_append]
      exact r3 _ _ (r2 _ _ Nd)
     ·exact mi (aK (fun a z h=>h.same Rx) IE) (.cons ⟨t2,r3 _ _ (r2 _ _ Uz),Uw.same (e8.trans Rx)⟩ (.cons ⟨t2,r3 _ _ (r2 _ _ UG),Uw.same (e8.trans Rx)⟩ .nil))
     ·rw[List.map_append]
      exact af
     ·exact .cons ⟨t2,r3 _ _ UB,Uw.same (e8.trans Rx)⟩ (aK (fun a z h=>h.same Rx) IF)
    ·exact hN _ _ ⟨L,R0,xs,ys,rfl,Bl,Bm,UD,e8⟩
   clear Bl Bm UD hG5
   rintro σ' H9 ⟨L,R0,xs,ys,rfl,Bl,Bm,UD,e9⟩
   refine⟨_,rfl,_,_,rfl,rfl,⟨by decide,by decide⟩,_,_,rfl,rfl,(by show (0 :Int) <2;decide),rfl,_,rfl,fM (fun ev=>?_) fun ev=>?_⟩
   ·exact⟨_,rfl,_,rfl,(by show 2≤sizeLine;decide),fun t hT=>q t R0 L ys xs _ af (Bm.same (au.new hT)) (Bl.same (au.new hT)) UD.swap (e9.trans (au.new hT))⟩
   ·exact⟨_,rfl,_,rfl,(by show 2≤sizeLine;decide),fun t hT=>q t L R0 xs ys _ af (Bl.same (au.new hT)) (Bm.same (au.new hT)) UD (e9.trans (au.new hT))⟩
theorem lE (c:Int) (all:List (Key×V)):∀(l acc:List (Key×V)),(∀q∈l,q.1∈acc.map (·.1))→(d6 c acc l all).map (·.1)=acc.map (·.1)
 | [],_,_=>rfl
 |p::r,acc,h=>by
  have e:(b8 acc p.1 (c*aO all p.1)).map (·.1)=acc.map (·.1):=by
   unfold b8
   rw[nj]
   unfold jF
   rw[if_pos (h p (List.mem_cons_self ..))]
  have:=lE c all r (b8 acc p.1 (c*aO all p.1)) fun q hq=>by rw[e];exact h q (List.mem_cons_of_mem _ hq)
  rw[e] at this
  exact this
theorem UH (t:Int) (k:Key):∀(as:List (Str×Int)) (acc:List (Key×V)),aO (a8 t acc as) k=aO acc k+t*aO (a8 1 [] as) k:=by
 have key:∀(t:Int) (as:List (Str×Int)) (acc:List (Key×V)),aO (a8 t acc as) k=aO acc k+t*(as.map fun p=>if (Sum.inr p.1 :Key)=k then p.2 else 0).sum:=by
  intro t as
  induction as with
  |nil=>intro acc;show aO acc k=_;simp
  |cons p r ih=>
   intro acc
   show aO (a8 t (b8 acc (Sum.inr p.1) (p.2*t)) r) k=_
   rw[ih,wD,List.map_cons,List.sum_cons,Int.mul_add,Int.add_assoc]
   congr 2
   split
   ·rw[Int.mul_comm]
   ·rw[Int.mul_zero]
 intro as acc
 rw[key t as acc,key 1 as []]
 show _=_+t*(0+1*_)
 rw[Int.zero_add,Int.one_mul]
theorem UI {KV:List (Key×V)} (hI:bx KV) (k:Key):aO (sh KV KV) k=aO KV k:=by
 cases e:b7 (sh KV KV) k with
 |some v=>
  have hm:=fW e
  obtain⟨q,_,eq'⟩:=List.mem_map.mp hm
  injection eq' with e1 e2
  rw[←e2] at e
  rw[fB e,e1]
 |none=>
  rw[eK e]
  refine Classical.byContradiction fun z=>?_
  have tY:k∈KV.map (·.1):=Classical.byContradiction fun h=>z (nu h).symm
  obtain⟨q,hq,rfl⟩:=List.mem_map.mp tY
  refine mC e (List.mem_map.mpr ⟨(q.1,V.int (aO KV q.1)),List.mem_map.mpr ⟨q,List.mem_filter.mpr ⟨hq,decide_eq_true fun h=>z h.symm⟩,rfl⟩,rfl⟩)
theorem E1 (xs ys:List Tm) (k:Key):aO (iP xs ys) k=aO (aA ys) k - aO (aA xs) k:=by
 have e:aO (iP xs ys) k=aO (uX xs ys) k:=UI (Co xs ys) k
 rw[e]
 show aO (a8 (-1) (aA ys) (fK xs)) k=_
 rw[UH]
 show _+ -1*aO (aA xs) k=_
 omega
def InK (am:List (Key×V)) (xs ys:List Tm):Prop:=(∀q∈aA xs,q.1∈am.map (·.1))∧∀q∈aA ys,q.1∈am.map (·.1)
theorem o8 {am:List (Key×V)} {xs ys:List Tm} (h:InK am xs ys):∀t,(bN am xs ys t).map (·.1)=am.map (·.1)
 |0=>rfl
 |t+1=>by
  have ih:=o8 h t
  have e1:=lE (-1) (aA xs) (aA xs) (bN am xs ys t) (by rw[ih];exact h.1)
  have e2:=lE 1 (aA ys) (aA ys) (d6 (-1) (bN am xs ys t) (aA xs) (aA xs)) (by rw[e1,ih];exact h.2)
  show (d6 1 _ _ _).map _=_
  rw[e2,e1,ih]
theorem IH (xs:List Tm):((aA xs).map (·.1)).Nodup:=iO _
theorem walk_z (am:List (Key×V)) (xs ys:List Tm) (k:Key):∀t:Nat,aO (bN am xs ys t) k=aO am k+t*(aO (aA ys) k - aO (aA xs) k)
 |0=>by show aO am k=_;simp
 |t+1=>by
  show aO (d6 1 _ _ _) k=_
  rw[xm 1 (IH ys),xm (-1) (IH xs),walk_z am xs ys k t]
  push_cast
  rw[Int.add_mul]
  omega
theorem UJ {am:List (Key×V)} {xs ys:List Tm} (h:InK am xs ys):∀q∈iP xs ys,q.1∈am.map (·.1):=fun q hq=>by
 have h1:=(yZ (uX xs ys) (uX xs ys)).mem (List.mem_map_of_mem (f:=(·.1)) hq)
 obtain⟨q',sO,e⟩:=List.mem_map.mp h1
 rw[←e]
 refine lA (Pk:=fun j=>j∈am.map (·.1)) (-1) (fK xs) (aA ys) h.2 (fun p hp=>?_) q' sO
 have:=Bi 1 (fK xs) [] hp
 obtain⟨q2,h2,e2⟩:=List.mem_map.mp this
 rw[←e2]
 exact h.1 q2 h2
theorem UK (xs ys:List Tm):((iP xs ys).map (·.1)).Nodup:=Hu _ (Hv xs ys)
theorem II (am:List (Key×V)) (xs ys:List Tm) (T:Int) (k:Key):aO (dP am xs ys T) k=aO am k+T*aO (iP xs ys) k:=xm T (UK xs ys) am k
theorem vh {am:List (Key×V)} {xs ys:List Tm} (hI:bx am) (hn:(am.map (·.1)).Nodup) (h:InK am xs ys) (t:Nat):bN am xs ys t=dP am xs ys t:=by
 have k1:=o8 h t
 have k2:(dP am xs ys t).map (·.1)=am.map (·.1):=lE _ _ _ _ (UJ h)
 refine yx (sA xs ys hI t) (df _ _ _ _ hI) (by rw[k1];exact hn) (by rw[k1,k2]) fun k=>?_
 rw[walk_z]
 rw[II,E1]
theorem xF {th tk:List (Key×V)}:∀{l:List (Key×V)},(∀q∈l,aO tk q.1≤aO th q.1)→dh th tk l=none
 | [],_=>rfl
 |p::r,h=>by
  rw[eV,if_neg (by have:=h p (List.mem_cons_self ..);omega)]
  exact xF fun q hq=>h q (List.mem_cons_of_mem _ hq)
theorem o9 {th tk:List (Key×V)} {k:Key} {l':Int}:∀{l:List (Key×V)},dh th tk l=some (k,l')→∃q∈l,q.1=k∧l'=aO tk k - aO th k∧0<l'
 | [],h=>by cases h
 |p::r,h=>by
  rw[eV] at h
  split at h
  ·rename_i c
   injection h with h
   injection h with h1 h2
   refine⟨p,List.mem_cons_self ..,h1,by rw[←h1,←h2],by rw[←h2];exact c⟩
  ·obtain⟨q,hq,z⟩:=o9 h
   exact⟨q,List.mem_cons_of_mem _ hq,z⟩
theorem sC {a t g:Int} (h:xT a t g=none) (j:Nat):t≤a+j*g:=by
 unfold xT at h
 split at h
 ·cases h
 ·split at h
  ·rename_i h1 h2
   have:=Int.mul_nonneg (Int.natCast_nonneg j) h2
   omega
  ·cases h
theorem nO {a t g T:Int} (h:xT a t g=some T):0≤T∧(∀j:Int,0≤j→j<T→t≤a+j*g)∧a+T*g<t:=by
 unfold xT at h
 split at h
 ·injection h with h
  subst h
  exact⟨Int.le_refl _,fun j h1 h2=>by omega,by omega⟩
 ·split at h
  ·cases h
  ·rename_i h1 h2
   injection h with h
   have gp:0< -g:=by omega
   have q0:0≤(a - t) /(-g):=Int.ediv_nonneg (by omega) (by omega)
   refine⟨by omega,fun j j0 j1=>?_,?_⟩
   ·have e1:=Int.ediv_mul_le (a - t) (b:= -g) (by omega)
    have e2:j*(-g)≤(a - t) /(-g)*(-g):=Int.mul_le_mul_of_nonneg_right (by omega) (by omega)
    rw[Int.mul_neg] at e2
    omega
   ·have e1:=Int.lt_ediv_add_one_mul_self (a - t) gp
    rw[h,Int.mul_neg] at e1
    omega
theorem kJ:∀{l:List (Option Int)},eU l=none→∀o∈l,o=none
 | [],_,o,ho=>by cases ho
 |none::r,h,o,ho=>by
  rcases List.mem_cons.mp ho with z|z
  ·exact z
  ·exact kJ (l:=r) h o z
 |some i::r,h,o,ho=>by
  have h:(match eU r with|none=>some i|some j=>some (if j<i then j else i))=none:=h
  cases e:eU r with
  |none=>rw[e] at h;cases h
  |some j=>rw[e] at h;cases h
theorem iW:∀{l:List (Option Int)} {T:Int},eU l=some T→some T∈l∧∀i,some i∈l→T≤i
 | [],_,h=>by cases h
 |none::r,T,h=>by
  obtain⟨h1,h2⟩:=iW (l:=r) h
  refine⟨List.mem_cons_of_mem _ h1,fun i hi=>?_⟩
  rcases List.mem_cons.mp hi with z|z
  ·cases z
  ·exact h2 i z
 |some i::r,T,h=>by
  have h:(match eU r with|none=>some i|some j=>some (if j<i then j else i))=some T:=h
  cases e:eU r with
  |none=>
   rw[e] at h
   injection h with h
   subst h
   refine⟨List.mem_cons_self ..,fun j hj=>?_⟩
   rcases List.mem_cons.mp hj with z|z
   ·injection z with z;omega
   ·have:=kJ e _ z
    cases this
  |some j=>
   rw[e] at h
   injection h with h
   obtain⟨h1,h2⟩:=iW e
   refine⟨?_,fun k hk=>?_⟩
   ·rw[←h]
    split
    ·exact List.mem_cons_of_mem _ h1
    ·exact List.mem_cons_self ..
   ·rw[←h]
    rcases List.mem_cons.mp hk with z|z
    ·injection z with z
     split<;>omega
    ·have:=h2 k z
     split<;>omega
theorem Bn {am:List (Key×V)} {xs ys:List Tm} {n:Nat} (h:ck am xs ys n=none) (j:Nat) (hj:j<n):dh (bN am xs ys j) (aA xs) (aA xs)=none:=by
 refine xF fun q hq=>?_
 rw[walk_z]
 unfold ck at h
 cases e:u9 am xs ys with
 |none=>
  have:=kJ e _ (List.mem_map_of_mem hq)
  have:=sC this j
  rw[E1] at this
  exact this
 |some T=>
  rw[e] at h
  obtain⟨h1,h2⟩:=iW e
  dsimp only at h
  by_cases c:(n:Int)≤T
  ·cases e2:xT (aO am q.1) (aO (aA xs) q.1) (aO (iP xs ys) q.1) with
   |none=>
    have:=sC e2 j
    rw[E1] at this
    exact this
   |some i=>
    have hi:=h2 i (by rw[←e2];exact List.mem_map_of_mem (f:=fun q=>xT (aO am q.1) (aO (aA xs) q.1) (aO (iP xs ys) q.1)) hq)
    have:=(nO e2).2.1 j (by omega) (by omega)
    rw[E1] at this
    exact this
  ·rw[if_neg c] at h
   exfalso
   obtain⟨q',sO,e3⟩:=List.mem_map.mp h1
   have hT:=nO e3
   have hl:dh (dP am xs ys T) (aA xs) (aA xs)=none:=by
    cases e4:dh (dP am xs ys T) (aA xs) (aA xs) with
    |none=>rfl
    |some p=>rw[e4] at h;cases h
   have:=o7 hl q' sO
   rw[II] at this
   omega
theorem mn {am:List (Key×V)} {xs ys:List Tm} (hI:bx am) (hn:(am.map (·.1)).Nodup) (hk:InK am xs ys) {n:Nat} {t:Int} {k:Key} {l:Int} (h:ck am xs ys n=some (t,k,l)):
  ∃t':Nat,t=t'∧t'<n∧(∀j,j<t'→dh (bN am xs ys j) (aA xs) (aA xs)=none)∧dh (bN am xs ys t') (aA xs) (aA xs)=some (k,l):=by
 unfold ck at h
 cases e:u9 am xs ys with
 |none=>rw[e] at h;cases h
 |some T=>
  rw[e] at h
  obtain⟨h1,h2⟩:=iW e
  dsimp only at h
  by_cases c:(n:Int)≤T
  ·rw[if_pos c] at h;cases h
  rw[if_neg c] at h
  obtain⟨q',sO,e3⟩:=List.mem_map.mp h1
  have hT:=nO e3
  obtain⟨t',rfl⟩:=Int.eq_ofNat_of_zero_le hT.1
  cases e4:dh (dP am xs ys t') (aA xs) (aA xs) with
  |none=>rw[e4] at h;cases h
  |some p=>
   rw[e4] at h
   injection h with h
   injection h with h3 h4
   injection h4 with h5 h6
   refine⟨t',h3.symm,by omega,fun j hj=>xF fun q hq=>?_,?_⟩
   ·rw[walk_z]
    cases e2:xT (aO am q.1) (aO (aA xs) q.1) (aO (iP xs ys) q.1) with
    |none=>
     have:=sC e2 j
     rw[E1] at this
     exact this
    |some i=>
     have hi:=h2 i (by rw[←e2];exact List.mem_map_of_mem (f:=fun q=>xT (aO am q.1) (aO (aA xs) q.1) (aO (iP xs ys) q.1)) hq)
     have:=(nO e2).2.1 j (by omega) (by omega)
     rw[E1] at this
     exact this
   ·rw[vh hI hn hk t',e4,←h5,←h6]
theorem xG:ax ["count"] ["count"] (aj iF):=dB
theorem sF (D:Def K mg "count_shown" "count_shown" iF ["count"]) (T:oF K mg C):bg P w K mg base 1 "count_shown" ["count"] kx:=by
 refine D.di xG (fun vs H Q E h=>?_) (fun f bj A outer s H vs Q E hr h=>?_)
 ·obtain⟨n,rfl,_⟩:=h
  rfl
 ·obtain⟨n,rfl,h1,h2,k⟩:=h
  refine⟨_,(ai
     (bG (aP d7 (pv 0) aq (aW _))
      (ao
       (aD bJ))
      aR)
    (ao
     (aD (bK jy rfl T.GC Al (aa (pv 0) ak))))),?_⟩
  refine⟨_,rfl,rfl,_,rfl,fM (fun e=>?_) fun e=>?_⟩
  ·have e:n=1:=by simpa using e
   subst e
   exact k
  ·have e:¬n=1:=by simpa using e
   refine⟨_,rfl,_,rfl,tQ (by omega) (by omega),?_⟩
   unfold fj at k
   rw[if_neg e] at k
   exact k
theorem L6:ax ["self"] ["self"] (aj vY):=dB
theorem IJ (D:a9 K C "shown" "Atom.shown" vY ["self"]) (T:oF K mg C) (c1:bg P w K mg base 1 "count_shown" ["count"] kx):aJ P w K mg base 2 C "shown" ["self"] (wz C):=by
 obtain⟨_,_,aZ⟩:=c1
 refine D.di L6 (fun vs H Q E h=>?_) (fun f bj A outer s H vs Q E hr h=>?_)
 ·obtain⟨p,k,n,rfl,_⟩:=h
  rfl
 ·obtain⟨p,k,n,rfl,⟨dx,hp⟩,hk,h1,h2,q⟩:=h
  refine⟨_,(ao
     (aD (aE bu (a5 (pv 0) rfl) (aH aZ.ok (hr.mono (by decide)) rfl aZ.g aZ.kp aZ.b .nil ay (aa (a5 (pv 0) rfl) ak))))),?_⟩
  refine⟨_,rfl,p,C,dx,_,_,rfl,hp,T.gA,T.wA,t5 _ _,_,rfl,p,C,dx,_,_,rfl,hp,T.gA,T.rp,rm _ _,n,rfl,h1,h2,_,_,rfl,rfl,?_,q⟩
  have:=ia h1 h2
  have:(100 :Nat)≤sizeLine:=by decide
  omega
variable {uC uP uI uD uL uT eW eX eY uG uS:Tok} {Ch HE Sh St:Addr}
theorem C1 {xs:List Tm} (h:∀x∈xs,pJ 100000000000 x) (h8:xs.length≤8) (k:Key):0≤aO (aA xs) k∧aO (aA xs) k≤800000000000:=by
 have hP:Pos (aA xs):=qu _ _ (fun q hq=>by cases hq) fun p hp=>by
  obtain⟨z,hz,rfl⟩:=List.mem_map.mp hp
  exact(h z hz).1
 refine⟨hP.nonneg k,?_⟩
 have a1:=qq 1 100000000000 k (by decide) (fK xs) [] 0 (fun p hp=>by
  obtain⟨z,hz,rfl⟩:=List.mem_map.mp hp
  have b1:=(h z hz).1
  have b2:=(h z hz).2.1
  show -100000000000≤z.1*1∧z.1*1≤100000000000
  omega) (Int.le_refl _) (Int.le_refl _)
 have e:(fK xs).length=xs.length:=by unfold fK;rw[List.length_map]
 rw[e] at a1
 show aO (a8 1 [] (fK xs)) k≤_
 omega
theorem L7 {xs:List Tm} (h:∀x∈xs,pJ 100000000000 x):∀q∈aA xs,0<aO (aA xs) q.1:=fun q hq=>by
 have hP:Pos (aA xs):=qu _ _ (fun q hq=>by cases hq) fun p hp=>by
  obtain⟨z,hz,rfl⟩:=List.mem_map.mp hp
  exact(h z hz).1
 have:=hP.one (cC _) (List.mem_map_of_mem (f:=(·.1)) hq)
 omega
theorem sG {ws:List Fm} {xs:List Tm} (h:∀x∈xs,EY ws x):∀q∈aA xs,∃s,q.1=Sum.inr s∧Told ws s:=
 lA (Pk:=fun j=>∃s,j=Sum.inr s∧Told ws s) 1 (fK xs) [] (fun q hq=>by cases hq) fun p hp=>by
  obtain⟨z,hz,rfl⟩:=List.mem_map.mp hp
  exact⟨_,rfl,(h z hz).2⟩
structure Nf (ws:List Fm) (am:List (Key×V)):Prop where
 int:bx am
 nd:(am.map (·.1)).Nodup
 told:pE ws am
 all:∀s,Told ws s→(Sum.inr s:Key)∈am.map (·.1)
 nn:∀k,0≤aO am k
 len:am.length≤30
theorem Nf.inK {ws:List Fm} {am:List (Key×V)} (h:Nf ws am) {xs ys:List Tm} (hx:∀x∈xs,EY ws x) (hy:∀x∈ys,EY ws x):InK am xs ys:=
 ⟨fun q hq=>by obtain⟨s,e,t⟩:=sG hx q hq;rw[e];exact h.all s t,fun q hq=>by obtain⟨s,e,t⟩:=sG hy q hq;rw[e];exact h.all s t⟩
theorem Nf.add {ws:List Fm} {am:List (Key×V)} (h:Nf ws am) {x:Str} (hx:Told ws x) {l:Int} (hl:0≤l):Nf ws (b8 am (Sum.inr x) l):=by
 have hk:(b8 am (Sum.inr x) l).map (·.1)=am.map (·.1):=by
  unfold b8
  rw[nj]
  unfold jF
  rw[if_pos (h.all x hx)]
 refine⟨h.int.add _ _,by rw[hk];exact h.nd,h.told.put hx _,fun s hs=>by rw[hk];exact h.all s hs,fun k=>?_,?_⟩
 ·rw[wD]
  have:=h.nn k
  split<;>omega
 ·have:=congrArg List.length hk
  rw[List.length_map,List.length_map] at this
  rw[this]
  exact h.len
theorem E2 {ws:List Fm} {am:List (Key×V)} (h:Nf ws am) {xs ys:List Tm} (hG:vf ws 8 xs ys) {n:Nat} (hn:n≤12) {t:Int} {k:Key} {l:Int} (hs:ck am xs ys n=some (t,k,l)):0≤t+1∧t+1<10^50∧0≤l∧l<10^50:=by
 obtain⟨h1,h2,h3,h4,h5,h6⟩:=hG
 obtain⟨t',rfl,ht,_,hl⟩:=mn h.int h.nd (h.inK h3 h4) hs
 obtain⟨q,hq,e1,e2,e3⟩:=o9 hl
 have b1:=C1 (fun x hx=>(h3 x hx).1) (by omega) k
 have b2:=C1 (fun x hx=>(h4 x hx).1) (by omega) k
 have b3:=h.nn k
 rw[walk_z,Int.mul_sub] at e2
 have m1:(0 :Int)≤t'*aO (aA ys) k:=Int.mul_nonneg (Int.natCast_nonneg _) b2.1
 have m2:(t':Int)*aO (aA xs) k≤12*800000000000:=Int.mul_le_mul (by omega) b1.2 b1.1 (by decide)
 refine⟨by omega,by omega,by omega,?_⟩
 omega
theorem L8 {am:List (Key×V)} {xs ys:List Tm} {t t':Nat} {k k':Key} {l l':Int} (h1:∀j,j<t→dh (bN am xs ys j) (aA xs) (aA xs)=none) (h2:dh (bN am xs ys t) (aA xs) (aA xs)=some (k,l)) (h3:∀j,j<t'→dh (bN am xs ys j) (aA xs) (aA xs)=none) (h4:dh (bN am xs ys t') (aA xs) (aA xs)=some (k',l')):t=t'∧k=k'∧l=l':=by
 have e:t=t':=by
  rcases Nat.lt_trichotomy t t' with c|c|c
  ·rw[h3 t c] at h2;cases h2
  ·exact c
  ·rw[h1 t' c] at h4;cases h4
 subst e
 rw[h2] at h4
 injection h4 with h4
 injection h4 with h5 h6
 exact⟨rfl,h5,h6⟩
def Lo (l:List Nat):Prop:=∀c∈l,c<128
theorem Lo.app {a b:List Nat} (ha:Lo a) (hb:Lo b):Lo (a++b):=fun c hc=>by
 rcases List.mem_append.mp hc with z|z
 ·exact ha c z
 ·exact hb c z
theorem Lo.cons {a:Nat} {b:List Nat} (ha:a<128) (hb:Lo b):Lo (a::b):=fun c hc=>by
 rcases List.mem_cons.mp hc with z|z
 ·rw[z];exact ha
 ·exact hb c z
theorem Lo.nil:Lo []:=fun c hc=>by cases hc
theorem Lo.flat {α:Type} {f:α→List Nat} {l:List α} (h:∀x∈l,Lo (f x)):Lo (l.flatMap f):=fun c hc=>by
 obtain⟨x,hx,hc⟩:=List.mem_flatMap.mp hc
 exact h x hx c hc
theorem sH {n:Int} (h:0≤n):Lo (aQ n):=fun c hc=>by
 obtain⟨m,rfl⟩:=Int.eq_ofNat_of_zero_le h
 have:=List.all_eq_true.mp (qc m) c hc
 unfold xR at this
 simp at this
 omega
theorem C2 {k:List Nat} (h:l6 k):Lo k:=by
 obtain⟨c,r,rfl,hc,hr,_⟩:=h
 refine Lo.cons (by unfold Fj at hc;simp at hc;omega) fun x hx=>?_
 have:=List.all_eq_true.mp hr x hx
 unfold Fi at this
 simp at this
 omega
theorem xH:∀(d:Nat) (t:Tr),uh d t→Lo (cn d t)
 |d, .one k n,h=>by
  have h:l6 k∧1≤n∧n≤999:=by cases d<;>exact h
  have e:cn d (.one k n)=k++aQ n:=by cases d<;>rfl
  rw[e]
  exact(C2 h.1).app (sH (by omega))
 |0, .gr _ _,h=>h.elim
 |d+1, .gr ts n,h=>by
  obtain⟨_,h1,n1,_⟩:=h
  show Lo (40::(ts.flatMap (cn d)++41::aQ n))
  exact Lo.cons (by decide) ((Lo.flat fun t ht=>xH d t (h1 t ht)).app (Lo.cons (by decide) (sH (by omega))))
theorem Ng {x:Fm} (h:cS x):Lo (fL x):=by
 obtain⟨h,_,_⟩:=h
 obtain⟨xs,n⟩:=x
 cases xs with
 |nil=>exact Lo.cons (by decide) (Lo.cons (by decide) (Lo.cons (by decide) Lo.nil))
 |cons y r=>
  obtain⟨_,h2,n1,n2⟩:=h
  have h2:∀z∈y::r,Gf 1 z:=h2
  show Lo (y.2.flatMap (cn 1)++(cX 1 r++jq n))
  refine(Lo.flat fun t ht=>xH 1 t ((h2 y (List.mem_cons_self ..)).2.1 t ht)).app ((Lo.flat fun z hz=>?_).app ?_)
  ·have oz:=h2 z (List.mem_cons_of_mem _ hz)
   exact Lo.cons (by decide) ((sH (by have:=oz.2.2.1;omega)).app (Lo.flat fun t ht=>xH 1 t (oz.2.1 t ht)))
  ·unfold jq
   split
   ·exact Lo.nil
   ·refine Lo.cons (by decide) ((sH (by split<;>omega)).app (Lo.cons (by split<;>decide) Lo.nil))
theorem Nh {B:Int} {x:Tm} (h:pJ B x):Lo (gS x):=by
 unfold gS
 refine(sH (by have:=h.1;omega)).app (Lo.app ?_ (Ng h.2.2))
 unfold ye
 split
 ·exact Lo.nil
 ·exact Lo.cons (by decide) Lo.nil
theorem Ni {B:Int}:∀{xs:List Tm},(∀x∈xs,pJ B x)→Lo (sQ xs)
 | [],_=>Lo.nil
 |x::r,h=>(Nh (h x (List.mem_cons_self ..))).app (Lo.flat fun y hy=>(Lo.cons (by decide) (Lo.cons (by decide) (Lo.cons (by decide) Lo.nil))).app (Nh (h y (List.mem_cons_of_mem _ hy))))
theorem sI {x:Str} (h:Lo x.cps.toList):PyData.strOk x=true:=by
 show x.cps.all (· <0x110000)=true
 rw[←Array.all_toList,List.all_eq_true]
 intro c hc
 have:=h c hc
 exact decide_eq_true (by omega)
theorem P' {x:Str} {xs ys:List Tm} (h:Bb x xs ys):PyData.strOk x=true:=by
 obtain⟨h1,_,_,h2,h3,_⟩:=h
 refine sI ?_
 rw[h1]
 exact((Ni h2).app (Lo.cons (by decide) (Lo.cons (by decide) (Lo.cons (by decide) (Lo.cons (by decide) Lo.nil))))).app (Ni h3)
theorem IK {ws:List Fm} (aU:∀w∈ws,cS w) {s:Str} (h:Told ws s):PyData.strOk s=true:=by
 rcases h with rfl| ⟨w,hw,rfl⟩ | ⟨w,hw,h⟩
 ·decide+kernel
 ·exact sI (Ng (aU w hw))
 ·obtain⟨q,hq,e⟩:=List.mem_map.mp h
  obtain⟨k,hk,e'⟩:=xo (aU w hw) q hq
  rw[e] at e'
  injection e' with e'
  rw[e']
  exact sI (C2 hk)
theorem C3 {rs:List jR} (h:∀r∈rs,PyData.strOk r.x=true):SeqAt.shaped (kI rs)=true∧PyData.eqv (kI rs) (kI rs)=true:=by
 have hc:(kI rs).canLay0=true:=by
  unfold kI
  rw[PyData.canLay0]
  exact qX _ rs fun r hr=>by simp [PyData.canLay0,PyData.canLayAll0,h r hr]
 refine⟨oq hc ?_,mG _ hc⟩
 have:∀l:List jR,PyData.depthAll (l.map fun r=>PyData.tuple [.str r.x, .int r.m])≤5:=fun l=>by
  induction l with
  |nil=>simp [PyData.depthAll]
  |cons r l ih=>simp [PyData.depthAll,PyData.depth];omega
 have:=this rs
 simp only [kI,PyData.depth]
 omega
structure UL (K:PySem.W.Frag) (mg:Str→Option Value) (C R G Pc Fo St:Addr) (uK uN uB uE uM uC uP uI uD uL uT:Tok):Prop extends pN K mg C R G Pc Fo St uK uN uB uE uM uC uP uI uD uL uT where
 kH:mg "enumerate" =none
variable {uC uP uI uD uL uT eW eX eY uG uS:Tok} {Ch HE Sh St:Addr}
inductive Qa (K:PySem.W.Frag) (vs:List V) (H:Hp) (Q:VK) (E:XK):Prop
 |mk (a:Addr) (ns:List Int) (dX:vs=[.ref a]) (dY:b5 K H a (ns.map V.int)) (d8:ns.length≤63) (fk:∀H',Q (.bl true) H')
def C4 (K:PySem.W.Frag):Sp:=Qa K
theorem gI:ax ["_law_script","_law_world_here","_law_lefts","_law_rights","_law_text_here","_law_amounts_here","_law_k","_law_one","_law_cell","_law_times","_law_bare","_law_store","_law_went","_law_due","_law_told"] ["_law_script"] (aj wm):=dB
theorem E3 {H H':Hp} {st dx St:Addr} (s:au H H') (h1:H' st=none) (h2:H' dx=none):au H (upd (upd H' dx (.own st)) st (.ins St dx [])):=fun b o z=>by
 rw[ah (ag (s _ _ z) h1),ah (ag (s _ _ z) h2)]
 exact s _ _ z
theorem Qb {f:Addr} {fd:FuncData} (F:Fe K "law" "law" wm f fd) (T:UL K mg C R G Pc Fo St uK uN uB uE uM uC uP uI uD uL uT)
  (c1:bg P w K mg base 3 "_law_world" ["_law_script"] (CJ K)) (c2:bg P w K mg base 1 "_law_texts" ["_law_world_here"] CL) (c3:bg P w K mg base 1 "_law_cell_at" ["_law_script","_law_k"] (rn K)) (c4:bg P w K mg base 1 "_law_change" ["_law_cell","_law_world_here"] vg) (c5:Gn P w K mg base qO 14 St ["self","amounts"] (Cw St)) (c6:bg P w K mg base 1 "_law_text" ["_law_lefts","_law_rights"] CS) (c7:aJ P w K mg base 13 St "put" ["self","text","many"] (HP St)) (c8:bg P w K mg base 2 "_law_walked" ["_law_amounts_here","_law_lefts","_law_rights","_law_times"] zG) (c9:bg P w K mg base 19 "_law_gone" ["_law_store","_law_text_here","_law_times","_law_bare"] (Ii C G Pc Fo Ch Sh St)) (c10:bg P w K mg base 13 "_law_same" ["_law_store","_law_amounts_here","_law_went"] (CP St)):
  fu P w K mg base qO 20 f fd ["_law_script"] (C4 K):=by
 obtain⟨_,_,lF⟩:=c1
 obtain⟨_,_,lG⟩:=c2
 obtain⟨_,_,aM⟩:=c3
 obtain⟨_,_,jY⟩:=c4
 obtain⟨_,_,bQ⟩:=c5
 obtain⟨_,_,nP⟩:=c6
 obtain⟨_,_,dU⟩:=c7
 obtain⟨_,_,jZ⟩:=c8
 obtain⟨_,_,nQ⟩:=c9
 obtain⟨_,_,gw⟩:=c10
 have E4:=bQ.b0
 have Ry:=bQ.b1
 have E5:Vals [] []:= .nil
 have Rz:=vn_1
 refine F.ok gI (fun vs H Q E h=>?_) (fun bj A outer s H vs Q E hr h=>?_)
 ·obtain⟨a,ns,rfl,_⟩:=h
  rfl
 ·obtain⟨a,ns,rfl,hS,hlen,q⟩:=h
  have hu:=dz hr
  have TY:=hr.oh
  have LY:=hr.units
  have big:(2000 :Nat)≤sizeLine:=by decide
  refine⟨_,(ai
     (aB (i:=1) gI.nd rfl (Or.inl rfl) (aH lF.ok (hr.mono (by decide)) rfl lF.g lF.kp lF.b .nil ay (aa (pv 0) ak)))
    (ai
     (FC (aH jY.ok (hr.mono (by decide)) rfl jY.g jY.kp jY.b .nil ay (aa (aH aM.ok (hr.mono (by decide)) rfl aM.g aM.kp aM.b .nil ay (aa (pv 0) (aa aq ak))) (aa (pv 1) ak))) (g7 rfl (bp (aG (i:=2) gI.nd rfl (Or.inl rfl)) (bp (aG (i:=3) gI.nd rfl (Or.inl rfl)) dZ))))
    (ai
     (aB (i:=4) gI.nd rfl (Or.inl rfl) (aH nP.ok (hr.mono (by decide)) rfl nP.g nP.kp nP.b .nil ay (aa (pv 2) (aa (pv 3) ak))))
    (ai
     (aB (i:=5) gI.nd rfl (Or.inl rfl) dw)
    (ai
     (bW PassesOwn.never rfl (BL rfl T.kH (aa (aH lG.ok (hr.mono (by decide)) rfl lG.g lG.kp lG.b .nil ay (aa (pv 1) ak)) ak)) (g7 rfl (bp (aG (i:=6) gI.nd rfl (Or.inl rfl)) (bp (aG (i:=7) gI.nd rfl (Or.inl rfl)) dZ)))
      (ai
       (aB (i:=8) gI.nd rfl (Or.inl rfl) (aH aM.ok (hr.mono (by decide)) rfl aM.g aM.kp aM.b .nil ay (aa (pv 0) (aa (aE cf aq (pv 6)) ak))))
      (ao
       (cQ hu (pv 5) (pv 7) (aE cK (aE cY (pv 8) aq) (cE cZ (cD (aa aq (aa (aE N4 aq aq) ak))) (bK n9 rfl T.yw qT (aa (iz d7 (aE cK (aH aM.ok (hr.mono (by decide)) rfl aM.g aM.kp aM.b .nil ay (aa (pv 0) (aa aq ak))) aq) aq (aW _)) ak)) (fun _ _=>rfl))) rfl))))
    (ai
     (aB (i:=9) gI.nd rfl (Or.inl rfl) (aE cK (aE cY (aH aM.ok (hr.mono (by decide)) rfl aM.g aM.kp aM.b .nil ay (aa (pv 0) (aa aq ak))) aq) aq))
    (ai
     (aB (i:=10) gI.nd rfl (Or.inl rfl) (KN (vz (iz d7 (pv 9) aq (aW _)) (qB (iz d7 (aE cK (aH aM.ok (hr.mono (by decide)) rfl aM.g aM.kp aM.b .nil ay (aa (pv 0) (aa aq ak))) aq) aq (aW _))))))
    (ai
     (aB (i:=11) gI.nd rfl (Or.inl rfl) (f6 bQ.m bQ.ok (hr.mono (by decide)) rfl T.Ly E4 E5 ay (aa (bK lW rfl T.jN iC (aa (pv 5) ak)) ak)))
    (ai
     (aB (i:=12) gI.nd rfl (Or.inl rfl) (cD ak))
    (ai
     (bW PassesOwn.never rfl (gX rfl T.la (aa aq ak)) (aG (i:=6) gI.nd rfl (Or.inl rfl))
      (ai
       (aB (i:=13) gI.nd rfl (Or.inl rfl) (aH jZ.ok (hr.mono (by decide)) rfl jZ.g jZ.kp jZ.b .nil ay (aa (pv 5) (aa (pv 2) (aa (pv 3) (aa (pv 9) ak))))))
      (ai
       (aB (i:=14) gI.nd rfl (Or.inl rfl) (aH nQ.ok (hr.mono (by decide)) rfl nQ.g nQ.kp nQ.b .nil ay (aa (pv 11) (aa (pv 4) (aa (pv 9) (aa (pv 10) ak))))))
      (ai
       (bG (cJ (bw iB rfl T.bA bh (aa (pv 13) (aa (mv (v:= .ty "dict") rfl T.jN iC rfl) ak))))
        (ao
         (aD (vz (iz (F2 LY) (pv 14) (bP (aa aq (aa j2 ak))) (aW _)) (qB (aH gw.ok (hr.mono (by decide)) rfl gw.g gw.kp gw.b .nil ay (aa (pv 11) (aa (pv 13) (aa (cD (aa (bP (aa (pv 4) (aa (pv 9) ak))) ak)) ak))))))))
        aR)
      (ai
       (bG (PW.pt (iy (aP (Oq LY) (pv 14) (aE J8 (bP (aa aq (aa aq ak))) (pv 13)) (aW _)) (j9 (jw (cJ (aH gw.ok (hr.mono (by decide)) rfl gw.g gw.kp gw.b .nil ay (aa (pv 11) (aa (pv 5) (aa (pv 12) ak)))))))))
        (ao
         (aD j2))
        aR)
      (ai
       (bG (qA (vx (bU (pv 11) T.bQ dU.m dU.ok (hr.mono (by decide)) dU.b .nil ay (aa (cE hV (pv 13) aq (fun _ _=>rfl)) (aa (cE hV (pv 13) aq (fun _ _=>rfl)) ak)))))
        (ao
         (aD j2))
        aR)
      (ao
       (cQ hu (pv 5) (cE hV (pv 13) aq (fun _ _=>rfl)) (aE cf (bR hu (pv 5) (cE hV (pv 13) aq (fun _ _=>rfl)) aq ⟨rfl,rfl,rfl,rfl⟩) (cE hV (pv 13) aq (fun _ _=>rfl))) rfl))))))))
    (ao
     (aD j2)))))))))))),?_⟩
  refine⟨_,rfl,a,ns,rfl,hS,hlen,fun wl ws H1 hW aU Bg h3 e1=>?_⟩
  refine⟨_,rfl,a,ns,6,rfl,e1.seq hS,hlen,fun n6=>⟨_,rfl,n6,wl,ws,rfl,hW,aU,Bg,h3,fun t0 l r xs ys H2 ht0 Bl Bm hG e2=>?_⟩⟩
  refine⟨t0,_,rfl,jc.of ht0,rfl,_,_,rfl,_,_,rfl,rfl,?_⟩
  obtain⟨g1,g2,g3,g4,g5,g6⟩:=id hG
  have w40:∀{z:Tm},EY ws z→pJ (10^40) z:=fun {z} h=>⟨h.1.1,Int.le_trans h.1.2.1 (by decide),h.1.2.2⟩
  refine⟨_,rfl,_,rfl,l,r,xs,ys,rfl,Bl,Bm,fun x hx=>w40 (g3 x hx),fun x hx=>w40 (g4 x hx),by omega,by omega,fun H3 e3=>?_⟩
  have ZF:=hG.ev
  generalize Txt.join " -> " [uO xs,uO ys]=tx at ZF ⊢
  have Na:=(e1.trans e2).trans e3
  have LV:=Na.seq hS
  have hW3:=(hW.same e2).same e3
  have hTL3:=Bl.same e3
  have hTR3:=Bm.same e3
  clear hW hS Bl Bm ht0 e1 e2 e3
  refine fun am xv=>?_
  have s4:=au.new (o:= .dK []) xv
  dsimp only [du]
  refine⟨_,rfl,wl,ws,rfl,hW3.same s4,aU,h3,fun tl us H5 A9 Rj x9 hu1 hu2 e5=>?_⟩
  have EU:=e5 _ _ (af (H:=H3) (a:=am) (o:= .dK []))
  have e35:=s4.trans e5
  have nta:tl≠am:=cI A9 EU (by intro z;cases z)
  refine⟨tl,rfl,⟨_,b5.of A9⟩,yk (K:=K) (a:=tl) (xs:=us.map V.str) (fun i σ H'=>∃(kvs:List (Key×V)) (v6 v7 v8:Option V),σ=[some (.ref a),some (.ref wl),some (.ref l),some (.ref r),some (.str tx),some (.ref am),v6,v7,v8,none,none,none,none,none,none]∧H' am=some (.dK kvs)∧H' tl=some (.lst (us.map V.str))∧bx kvs∧(kvs.map (·.1)).Nodup∧pE ws kvs∧(∀s∈us.take i,(Sum.inr s:Key)∈kvs.map (·.1))∧(∀k,0≤aO kvs k)∧kvs.length≤i∧au H3 H') ?_ (fun i σ H' ⟨_,_,_,_,_,_,z,_⟩=>b5.of z) ?_ ?_⟩
  ·exact⟨[],none,none,none,rfl,EU,A9,(fun p hp=>by cases hp),List.nodup_nil,(fun p hp=>by cases hp),(fun p hp=>by cases hp),fun k=>Int.le_refl _,Nat.le_refl _,e35⟩
  ·rintro i v p σ H' hi hp ⟨kvs,v6,v7,v8,rfl,zE,htl',hI,hn,hT,tY,RA,hl,e⟩
   rw[List.getElem?_map] at hi
   obtain⟨x,hx,rfl⟩:∃p,us[i]? =some p∧v=V.str p:=by
    cases hh:us[i]? with
    |none=>rw[hh] at hi;cases hi
    |some p=>rw[hh] at hi;exact⟨p,rfl,(Option.some.inj hi).symm⟩
   have yi:i<us.length:=(List.getElem?_eq_some_iff.mp hx).1
   have UM:=Rj x (List.mem_of_getElem? hx)
   have s6:=au.new (o:= .tup [.int i, .str x]) hp
   have E6:=s6 _ _ zE
   have L9:=s6 _ _ htl'
   have e6:=e.trans s6
   refine⟨p,_,rfl,jc.of af,rfl,_,_,rfl,_,_,rfl,rfl,?_⟩
   generalize upd H' p (.tup [.int i, .str x])=H6 at E6 L9 e6 ⊢
   have ek:(8 :Int)+(i:Int)=((8+i:Nat):Int):=by omega
   refine⟨_,rfl,_,rfl,_,_,rfl,rfl,a,ns,8+i,by rw[←ek];rfl,e6.seq LV,hlen,fun n8=>?_⟩
   refine⟨_,rfl,_,_,rfl,rfl,⟨by decide,by decide⟩,_,_,rfl,rfl,⟨by decide,by decide,by decide⟩,(by show 2≤sizeLine;decide),fun y hy=>?_⟩
   have s7:=au.new (o:= .lst [V.int 61,V.int (10^(30 :Int).toNat)]) hy
   have Bo:=s7 _ _ E6
   have UN:=s7 _ _ L9
   have e7:=e6.trans s7
   have hy7:(upd H6 y (.lst [V.int 61,V.int (10^(30 :Int).toNat)])) y=some (.lst [V.int 61,V.int (10^(30 :Int).toNat)]):=af
   dsimp only
   generalize upd H6 y (.lst [V.int 61,V.int (10^(30 :Int).toNat)])=H7 at Bo UN e7 hy7 ⊢
   refine⟨_,rfl,a,ns,7,rfl,e7.seq LV,hlen,fun n7=>?_⟩
   obtain⟨z,z0,Lf⟩:∃z:Int,0<z∧Ah [V.int 61,V.int (10^(30 :Int).toNat)] (if decide (V.int (n7%4)=V.int 1)=true then 1 else 0)=some (V.int z):=by
    split
    ·exact⟨_,by decide,rfl⟩
    ·exact⟨_,by decide,rfl⟩
   refine⟨_,_,rfl,rfl,(by show (0 :Int) <4;decide),rfl, .inr ⟨_,rfl,y,_,_,V.int z,rfl,rfl,b5.of hy7,Lf,_,_,rfl,rfl,z0,?_⟩⟩
   have sT:(putK kvs (Sum.inr x) (V.int (n8/4%z))).length≤kvs.length+1:=bY _ _ _
   refine⟨_,rfl,_,rfl,am,_,rfl,jf.k (k:=Sum.inr x) Bo (by omega),?_⟩
   refine⟨_,_,_,_,rfl,af,by rw[ah nta];exact UN,hI.put _ _,wq hn,hT.put UM _,fun s hs=>?_,fun k=>?_,Nat.le_trans (bY _ _ _) (by omega),fun b o z=>?_⟩
   ·rw[take_snoc hx] at hs
    rcases List.mem_append.mp hs with hs|hs
    ·exact gm (tY s hs)
    ·have es:s=x:=by simpa using hs
     rw[es]
     exact qt _ _ _
   ·rw[iM]
    split
    ·exact Int.emod_nonneg _ (by omega)
    ·exact RA k
   ·rw[ah (ag z xv)]
    exact e7 _ _ z
  rintro σ H6 ⟨kvs,v6,v7,v8,rfl,E6,L9,hI,hn,hT,tY,RA,hl,e6⟩
  rw[List.length_map] at tY hl
  rw[List.take_length] at tY
  have hA:Nf ws kvs:=⟨hI,hn,hT,fun s hs=>tY s (x9 s hs),RA,by omega⟩
  clear tY RA hl L9 A9 x9 Rj EU e35 e5 s4
  refine⟨_,rfl,a,ns,7,rfl,e6.seq LV,hlen,fun n7=>⟨_,_,rfl,rfl,⟨by decide,by decide⟩,_,_,rfl,rfl,(by show (0 :Int) <13;decide),?_⟩⟩
  have t0:0≤n7/4%13:=Int.emod_nonneg _ (by decide)
  have t1:n7/4%13<13:=Int.emod_lt_of_pos _ (by decide)
  obtain⟨n,en⟩:∃n:Nat,n7/4%13=n:=⟨_,(Int.toNat_of_nonneg t0).symm⟩
  have UO:n≤12:=by omega
  dsimp only [du]
  rw[en]
  clear t0 t1 en
  refine⟨fun x H'=>∃b:Bool,x= .bl b∧(b=true→(n:Int)=1)∧H6=H',⟨_,rfl,rfl,_,rfl,fM (fun eb=>?_) fun _=>⟨false,rfl,(by intro z;cases z),rfl⟩⟩,?_⟩
  ·have eb:(n:Int)=1:=by simpa using eb
   exact⟨_,rfl,a,ns,7,rfl,e6.seq LV,hlen,fun n7=>⟨_,_,rfl,rfl,(by show (0 :Int) <2;decide),rfl,_,rfl,fun _=>eb,rfl⟩⟩
  rintro _ _ ⟨bare,rfl,zC,rfl⟩
  refine⟨_,rfl,am,_,rfl, .inl E6,fun NT RA=>?_⟩
  have s7:=au.new (o:= .dK kvs) RA
  have Bo:=s7 _ _ E6
  have hh7:(upd H6 NT (.dK kvs)) NT=some (.dK kvs):=af
  have e7:=e6.trans s7
  generalize upd H6 NT (.dK kvs)=H7 at Bo hh7 e7 ⊢
  refine fun st dx nst T5 nds=>?_
  have nas:am≠st:=ag Bo nst
  have s8:au H7 (upd (upd H7 dx (.own st)) st (.ins St dx [])):=E3 (au.refl _) nst T5
  have Qc:=s8 _ _ Bo
  have hh8:=s8 _ _ hh7
  have e8:=e7.trans s8
  refine⟨st,dx, .ref NT,kvs,rfl,af, .inr ⟨NT,rfl,hh8⟩,hA.int,hA.nd,fun q hq=>?_,by have:=hA.len;omega,fun d g H9 nd ng AJ hSt hd hg k9=>⟨rfl,?_⟩⟩
  ·obtain⟨s,es,hs⟩:=hA.told q hq
   exact⟨s,es,oY aU hs⟩
  have UP:=k9 _ _ Qc nas
  have OX:d≠am:=fun z=>by rw[z,Qc] at nd;cases nd
  have JL:H3 d=none:=none_back e8 nd
  have e9:au H3 H9:=fun b o z=>k9 _ _ (e8 _ _ z) (ag (e7 _ _ z) nst)
  clear Qc hh8 hh7 Bo s8 s7 e8 e7 E6 e6 k9 nd
  obtain⟨dQ,UQ⟩:=hSt
  refine⟨(by show 0≤sizeLine;decide),fun wt RB=>?_⟩
  have yg:=au.new (o:= .lst []) RB
  have vi:(upd H9 wt (.lst [])) wt=some (.lst []):=af
  have lR:=yg _ _ UQ
  have E7:=yg _ _ hd
  have IL:=yg _ _ hg
  have vj:=yg _ _ UP
  have Nb:=e9.trans yg
  have ngw:g≠wt:=ag hg RB
  generalize upd H9 wt (.lst [])=MF at vi lR E7 IL vj Nb ⊢
  clear UQ hd hg UP e9 RB yg
  have nsd:st≠d:=cI lR E7 (by intro z;cases z)
  have T7:st≠am:=cI lR vj (by intro z;cases z)
  have nsw:st≠wt:=cI lR vi (by intro z;cases z)
  have ngd:g≠d:=cI IL E7 (by intro z;cases z)
  have nga:g≠am:=cI IL vj (by intro z;cases z)
  have nwd:wt≠d:=cI vi E7 (by intro z;cases z)
  have nwa:wt≠am:=cI vi vj (by intro z;cases z)
  dsimp only [du]
  refine⟨_,rfl,by decide,by decide,kM (fun i σ H'=>∃(kvs:List (Key×V)) (v6 v13 v14:Option V),σ=[some (.ref a),some (.ref wl),some (.ref l),some (.ref r),some (.str tx),some (.ref am),v6,v7,v8,some (.int n),some (.bl bare),some (.ref st),some (.ref wt),v13,v14]∧H' st=some (.ins St dQ (zp d g))∧H' d=some (.dK kvs)∧H' g=some (.lst [])∧H' am=some (.dK kvs)∧H' wt=some (.lst [])∧Nf ws kvs∧au H3 H') ⟨kvs,_,_,_,rfl,lR,E7,IL,vj,vi,hA,Nb⟩ ?_ ?_⟩
  ·clear lR E7 IL vj vi hA Nb hI hn hT kvs
   rintro i σ H' hi ⟨kvs,v6,v13,v14,rfl,fO,hd,hg,zE,RB,hA,e⟩
   have hlenA:=hA.len
   have hIn:=hA.inK g3 g4
   have JZ:∀q∈kvs,∃x,q.1=Sum.inr x∧u5 x:=fun q hq=>by
    obtain⟨s,es,hs⟩:=hA.told q hq
    exact⟨s,es,oY aU hs⟩
   have hbd:∀t k l,ck kvs xs ys n=some (t,k,l)→0≤t+1∧t+1<10^50∧0≤l∧l<10^50:=fun t k l z=>E2 hA hG UO z
   refine⟨_,rfl,_,rfl,_,rfl,_,rfl,am,l,r,n,kvs,xs,ys,rfl,zE,hA.int,by omega,hTL3.same e,hTR3.same e,fun x hx=>(g3 x hx).1.2.2,fun x hx=>(g4 x hx).1.2.2,by omega,by omega,UO,L7 fun x hx=>(g3 x hx).1,fun t k l' tt H7 htn hjn va Bd e7=>?_,fun x9 e0 H7 ne0 pK e7=>?_⟩
   ·refine⟨_,rfl,_,rfl,_,rfl,_,rfl,st,d,g,kvs,[],⟨xs,ys,tx,n⟩,bare,rfl,zC,⟨dQ,e7 _ _ fO⟩,e7 _ _ hd,e7 _ _ hg,hA.int,by omega,Nat.zero_le _,ZF,hbd,fun hs=>?_,fun t2 x l2 t3 H8 hs ZG e8=>?_⟩
    ·have:=Bn hs t htn
     rw[va] at this
     cases this
    obtain⟨t4,et4,h41,h42,h43⟩:=mn hA.int hA.nd hIn hs
    obtain⟨rfl,rfl,rfl⟩:=L8 hjn va h42 h43
    obtain⟨qk,hqk,eqk,_,Zh⟩:=o9 va
    obtain⟨x',RE,UM⟩:=sG g3 qk hqk
    rw[eqk] at RE
    injection RE with RE
    subst RE
    have e78:=e7.trans e8
    have Qd:=e8 _ _ Bd
    have hsx:=IK aU UM
    refine⟨_,rfl,_,_,_,_,_,rfl,rfl, .tup Qd,F0 (by decide+kernel) (by decide+kernel) (by decide+kernel),_,rfl,cH ?_⟩
    have hc:(PyData.tuple [.int 1, .int 0, .int ((t:Int)+1), .str x, .int l']).canLay0=true:=by simp [PyData.canLay0,PyData.canLayAll0,hsx]
    have JG:=oq hc (by simp [PyData.depth,PyData.depthAll])
    refine⟨_,rfl,(by show 2≤sizeLine;decide),fun p hp=>?_⟩
    have s9:=au.new (o:= .tup [.int 1, .int 0]) hp
    refine⟨_,rfl,p,tt,_,_,rfl,rfl,jc.of af,jc.of (s9 _ _ Qd),(by intro z;cases z),(by show 2+3≤sizeLine;decide),(by intro z;cases z),fun _ p2 FL=>?_⟩
    have yg:=s9.trans (au.new (o:= .tup ([.int 1, .int 0]++[.int ((t:Int)+1), .str x, .int l'])) FL)
    have UR:(upd (upd H8 p (.tup [.int 1, .int 0])) p2 (.tup ([.int 1, .int 0]++[.int ((t:Int)+1), .str x, .int l']))) p2=some (.tup [.int 1, .int 0, .int ((t:Int)+1), .str x, .int l']):=af
    dsimp only [kV]
    generalize upd (upd H8 p (.tup [.int 1, .int 0])) p2 (.tup ([.int 1, .int 0]++[.int ((t:Int)+1), .str x, .int l']))=H9 at yg UR ⊢
    have rd:∀{b:Addr},H9 b=some (.tup [.int 1, .int 0, .int ((t:Int)+1), .str x, .int l'])→Fg K H9 (.ref b) (PyData.tuple [.int 1, .int 0, .int ((t:Int)+1), .str x, .int l']):=fun h=> .tup (jc.of h) (.cons (.int _) (.cons (.int _) (.cons (.int _) (.cons (.str _) (.cons (.int _) .nil)))))
    have US:=yg _ _ ZG
    rw[et4] at US
    have e9:=e78.trans yg
    refine⟨_,_,rd US,rd UR,JG,JG,_,rfl,?_⟩
    rw[mG _ hc]
    refine cH ?_
    have UT:=C3 (rs:=[]) fun r hr=>by cases hr
    refine⟨_,rfl,_,rfl,_,rfl,st,d,g,am,wt,kvs,[],[],[],rfl,⟨dQ,e9 _ _ fO⟩,e9 _ _ hd,e9 _ _ zE,OX,hA.int,hA.nd,JZ,by omega,e9 _ _ hg, .nil,e9 _ _ RB, .nil,Nat.zero_le _,UT.1,UT.2,fun MF Nb=>⟨_,rfl,cH ?_⟩⟩
    have Bp:=e9.trans Nb
    have C5:=Nb _ _ (yg _ _ Qd)
    have lR:=Bp _ _ fO
    refine⟨_,rfl,st,dQ,_,rfl,lR,jQ _ _ (by decide+kernel) (by decide+kernel),_,rfl,tt,_,_,V.str x,rfl,rfl,jc.of C5,rfl,_,rfl,tt,_,_,V.int l',rfl,rfl,jc.of C5,rfl,st,d,g,x,l',kvs,rfl,⟨dQ,lR⟩,Bp _ _ hd,hA.int,by omega,oY aU UM,fun H11 kp hd11=>?_⟩
    refine⟨_,rfl,cH ?_⟩
    have ntd:tt≠d:=cI C5 (Bp _ _ hd) (by intro z;cases z)
    have IM:=kp _ _ C5 ntd
    have IP:=kp _ _ (Bp _ _ zE) (Ne.symm OX)
    have hla:(b8 kvs (Sum.inr x) l').length≤kvs.length+1:=bY _ _ _
    refine⟨_,rfl,am,rfl, .inl ⟨_, .inl IP⟩,_,rfl,tt,_,_,V.str x,rfl,rfl,jc.of IM,rfl,_,gj.k (k:=Sum.inr x) IP,_,rfl,tt,_,_,V.int l',rfl,rfl,jc.of IM,rfl,_,_,hA.int.at _,rfl,_,rfl,_,rfl,tt,_,_,V.str x,rfl,rfl,jc.of IM,rfl,am,_,rfl,jf.k (k:=Sum.inr x) IP (by omega),?_⟩
    refine⟨b8 kvs (Sum.inr x) l',_,_,_,rfl,?_,?_,?_,af,?_,hA.add UM (by omega),fun b o z=>?_⟩
    ·rw[ah T7]
     exact kp _ _ lR nsd
    ·rw[ah OX]
     exact hd11
    ·rw[ah nga]
     exact kp _ _ (Bp _ _ hg) ngd
    ·rw[ah nwa]
     exact kp _ _ (Bp _ _ RB) nwd
    ·rw[ah (ag z xv)]
     exact kp _ _ (Bp _ _ (e _ _ z)) (ag z JL)
   ·refine⟨_,rfl,_,rfl,_,rfl,_,rfl,st,d,g,kvs,[],⟨xs,ys,tx,n⟩,bare,rfl,zC,⟨dQ,e7 _ _ fO⟩,e7 _ _ hd,e7 _ _ hg,hA.int,by omega,Nat.zero_le _,ZF,hbd,fun hs d2 t2 t3 H8 hnw hSt2 hd2 hg2 hrow ZG k8=>?_,fun t2 x l2 t3 H8 hs ZG e8=>?_⟩
    ·have nes:e0≠st:=Ne.symm (ag fO ne0)
     have neg:e0≠g:=Ne.symm (ag hg ne0)
     have he8:=k8 _ _ pK nes neg
     have n2e:d2≠e0:=by
      rcases hnw with rfl|z
      ·exact ag hd ne0
      ·exact Ne.symm (ag pK z)
     refine⟨_,rfl,_,_,_,_,_,rfl,rfl, .dK he8,fz,_,rfl,ix ?_⟩
     have hc:(PyData.tuple [.int 0, .bool true]).canLay0=true:=rfl
     have JG:=oq hc (by simp [PyData.depth,PyData.depthAll])
     refine⟨_,rfl,(by show 2≤sizeLine;decide),fun p hp=>?_⟩
     have s9:=au.new (o:= .tup [.int 0, .bl true]) hp
     have hp9:(upd H8 p (.tup [.int 0, .bl true])) p=some (.tup [.int 0, .bl true]):=af
     generalize upd H8 p (.tup [.int 0, .bl true])=H9 at s9 hp9 ⊢
     have rd:∀{b:Addr},H9 b=some (.tup [.int 0, .bl true])→Fg K H9 (.ref b) (PyData.tuple [.int 0, .bool true]):=fun h=> .tup (jc.of h) (.cons (.int _) (.cons (.bl _) .nil))
     refine⟨_,_,rd (s9 _ _ ZG),rd hp9,JG,JG,_,rfl,?_⟩
     rw[mG _ hc]
     refine ix ?_
     refine⟨_,rfl,_,rfl,_,rfl,_,rfl,(by show 2≤sizeLine;decide),fun p2 FL=>⟨(by show 1≤sizeLine;decide),fun L hL=>?_⟩⟩
     have yg:=au.new (o:= .tup [.str tx, .int n]) FL
     have IG:=au.new (o:= .lst [.ref p2]) hL
     have E8:=(s9.trans yg).trans IG
     have Nd:(upd (upd H9 p2 (.tup [.str tx, .int n])) L (.lst [.ref p2])) L=some (.lst ([p2].map V.ref)):=af
     have UU:=IG _ _ (af (H:=H9) (a:=p2) (o:= .tup [.str tx, .int n]))
     generalize upd (upd H9 p2 (.tup [.str tx, .int n])) L (.lst [.ref p2])=H11 at E8 Nd UU ⊢
     have ewt:=vh hA.int hA.nd hIn n
     have IQ:(dP kvs xs ys n).map (·.1)=kvs.map (·.1):=by rw[←ewt];exact o8 hIn n
     have UT:=C3 (rs:=[⟨xs,ys,tx,n⟩]) fun r hr=>by
      rw[List.mem_singleton.mp hr]
      exact P' ZF
     obtain⟨Fn,LZ⟩:=hSt2
     refine⟨st,d2,g,e0,L,dP kvs xs ys n,[t2],[p2],[⟨xs,ys,tx,n⟩],rfl,⟨Fn,E8 _ _ LZ⟩,E8 _ _ hd2,by rw[←ewt];exact E8 _ _ he8,n2e,df _ _ _ _ hA.int,by rw[IQ];exact hA.nd,fun q hq=>?_,?_,E8 _ _ hg2, .cons (E8 _ _ hrow) .nil,Nd, .cons UU .nil,(by show 1≤10;decide),UT.1,UT.2,fun H12 _=>q H12⟩
     ·have:=List.mem_map_of_mem (f:=(·.1)) hq
      rw[IQ] at this
      obtain⟨q',sO,e'⟩:=List.mem_map.mp this
      obtain⟨s,es,hs⟩:=JZ q' sO
      exact⟨s,by rw[←e',es],hs⟩
     ·have:=congrArg List.length IQ
      rw[List.length_map,List.length_map] at this
      omega
    ·obtain⟨t4,et4,h41,h42,h43⟩:=mn hA.int hA.nd hIn hs
     have:=x9 t4 h41
     rw[h43] at this
     cases this
  ·rintro σ H' _
   exact q H'
end
theorem all_mk {l:PySem.W.OpenLaw} {w:World} {K:PySem.W.Frag} {h:Heap} {mg:Str→Option Value} {fa C Gr Pc Fo Rd Rc Ch St HE Sh X1 X2 X3 X4 X5 X6 X7 X8 X9 UW UX UY UZ U0 C6 U1 L' U2 Ma U3 U4 U5 Mb U6 Qe Qf Qg Qh U7 Qi Qj IS Qk Ql IT Qm Qn IU U8 U9 U' Va Vb Vc Vd Ve Vf Vg Nj Nk Nl IV Vh Vi Vj Vk Vl Vm Vn Vo Nm C7 Mc Vp Vq Md Vr Vs Vt Vu Vv Vw Vx Vy Vz VA VB VC VD VE VF VG VH VI VJ Qo:Addr} (X:K.In h) (G:h.Ns mainGlobals mg) (hfa:mg "law" =some (.ref fa))
  {Qq Bq VL IW VM IX VN IY VO IZ VP Ja VQ Nn:Option Addr} {Qr VR VS VT VU VW VX:Array (Option Value)} {Qs Br Bs Bt xI Bu VY Jb Jc Jd C8 Je VZ Jf Jg Jh C9 Ji V0 Jj Jk Jl Dc Jm V1 Jn Jo Jp Dd Jq V2 Jr Js Jt De Ju V3 Np Nq Nr Jv Nt:Value}
  {xJ:Addr} {Me:Value} {Mf:Option Addr} {Mg:Array (Option Value)} {Qt:Nat} {Jw:Tok}
  {Df:Addr} {Qu:Value} {Qv:Option Addr} {Qw:Array (Option Value)} {V4:Nat} {Nu:Tok}
  {Dg:Addr} {Qx:Value} {Qy:Option Addr} {Qz:Array (Option Value)} {V5:Nat} {Nv:Tok}
  {Dh:Addr} {QA:Value} {QB:Option Addr} {QC:Array (Option Value)} {V6:Nat} {Nw:Tok}
  {Di:Addr} {QD:Value} {QE:Option Addr} {QF:Array (Option Value)} {V7:Nat} {Nx:Tok}
  {Dj:Addr} {QG:Value} {QH:Option Addr} {QI:Array (Option Value)} {V8:Nat}
  {uK uN uB uE uM uC uP uI uD uL uT eW eX eY uG uS:Tok}
  (aC:PySem.W.nsIn K mainGlobals "Atom" =some (some (.ref C)))
  (aGr:PySem.W.nsIn K mainGlobals "Group" =some (some (.ref Gr)))
  (aPc:PySem.W.nsIn K mainGlobals "Piece" =some (some (.ref Pc)))
  (aFo:PySem.W.nsIn K mainGlobals "Formula" =some (some (.ref Fo)))
  (aRd:PySem.W.nsIn K mainGlobals "Reader" =some (some (.ref Rd)))
  (aRc:PySem.W.nsIn K mainGlobals "ChangeReader" =some (some (.ref Rc)))
  (aCh:PySem.W.nsIn K mainGlobals "Change" =some (some (.ref Ch)))
  (aSt:PySem.W.nsIn K mainGlobals "Store" =some (some (.ref St)))
  (aHE:PySem.W.nsIn K mainGlobals "HallError" =some (some (.ref HE)))
  (aSh:PySem.W.nsIn K mainGlobals "Short" =some (some (.ref Sh)))
  (aX1:PySem.W.nsIn K mainGlobals "NoChange" =some (some (.ref X1)))
  (aX2:PySem.W.nsIn K mainGlobals "NoFormula" =some (some (.ref X2)))
  (aX3:PySem.W.nsIn K mainGlobals "NoName" =some (some (.ref X3)))
  (aX4:PySem.W.nsIn K mainGlobals "NoRow" =some (some (.ref X4)))
  (aX5:PySem.W.nsIn K mainGlobals "NoSplit" =some (some (.ref X5)))
  (aX6:PySem.W.nsIn K mainGlobals "NoBalance" =some (some (.ref X6)))
  (aX7:PySem.W.nsIn K mainGlobals "TooLong" =some (some (.ref X7)))
  (aX8:PySem.W.nsIn K mainGlobals "TooMany" =some (some (.ref X8)))
  (aX9:PySem.W.nsIn K mainGlobals "Unbalanced" =some (some (.ref X9)))
  (axig:PySem.W.nsIn K mainGlobals "is_great" =some (some (.ref UW)))
  (lxig:dM K "is_great" "is_great" vW UW)
  (axis:PySem.W.nsIn K mainGlobals "is_small" =some (some (.ref UX)))
  (lxis:dM K "is_small" "is_small" vX UX)
  (axif:PySem.W.nsIn K mainGlobals "is_figure" =some (some (.ref UY)))
  (lxif:dM K "is_figure" "is_figure" pY UY)
  (axcs:PySem.W.nsIn K mainGlobals "count_shown" =some (some (.ref UZ)))
  (lxcs:dM K "count_shown" "count_shown" iF UZ)
  (axps:PySem.W.nsIn K mainGlobals "parts_shown" =some (some (.ref U0)))
  (lxps:dM K "parts_shown" "parts_shown" kW U0)
  (V9:PySem.W.findIn K (.ref C) "__init__" =some (some (.ref C6)))
  (V':PySem.W.isFn K (.ref C6)=true)
  (Wa:K.lookup C6=some ⟨Qs,Qq, .func (PySem.W.fnOf "__init__" "Atom.__init__" (br jk) (aS jk) (aj jk) (.ref xJ) Br Bs Bt Bq xI Bu),Qr⟩)
  (Ny:K.lookup xJ=some ⟨Me,Mf, .seq #[.int 1 Jw] Qt,Mg⟩)
  (Wb:PySem.W.codeIn K xI "Atom.__init__" =true)
  (Wc:PySem.W.keepIn K (.ref C6)=true)
  (axsh:PySem.W.findIn K (.ref C) "shown" =some (some (.ref U1)))
  (lxsh:dM K "shown" "Atom.shown" vY U1)
  (axgi:PySem.W.findIn K (.ref Gr) "__init__" =some (some (.ref L')))
  (ixgi:PySem.W.isFn K (.ref L')=true)
  (lxgi:K.lookup L'=some ⟨VY,VL, .func (PySem.W.fnOf "__init__" "Group.__init__" (br fR) (aS fR) (aj fR) (.ref Df) Jb Jc Jd IW C8 Je),VR⟩)
  (Wd:K.lookup Df=some ⟨Qu,Qv, .seq #[.int 1 Nu] V4,Qw⟩)
  (cxgi:PySem.W.codeIn K C8 "Group.__init__" =true)
  (kxgi:PySem.W.keepIn K (.ref L')=true)
  (axgs:PySem.W.findIn K (.ref Gr) "shown" =some (some (.ref U2)))
  (lxgs:dM K "shown" "Group.shown" kX U2)
  (axpi:PySem.W.findIn K (.ref Pc) "__init__" =some (some (.ref Ma)))
  (ixpi:PySem.W.isFn K (.ref Ma)=true)
  (lxpi:K.lookup Ma=some ⟨VZ,VM, .func (PySem.W.fnOf "__init__" "Piece.__init__" (br fS) (aS fS) (aj fS) (.ref Dg) Jf Jg Jh IX C9 Ji),VS⟩)
  (We:K.lookup Dg=some ⟨Qx,Qy, .seq #[.int 1 Nv] V5,Qz⟩)
  (cxpi:PySem.W.codeIn K C9 "Piece.__init__" =true)
  (kxpi:PySem.W.keepIn K (.ref Ma)=true)
  (axpS:PySem.W.findIn K (.ref Pc) "shown" =some (some (.ref U3)))
  (lxpS:dM K "shown" "Piece.shown" iG U3)
  (axtl:PySem.W.nsIn K mainGlobals "refuse_too_long" =some (some (.ref U4)))
  (lxtl:dM K "refuse_too_long" "refuse_too_long" mK U4)
  (axch:PySem.W.nsIn K mainGlobals "charge_shown" =some (some (.ref U5)))
  (lxch:dM K "charge_shown" "charge_shown" gO U5)
  (axfi:PySem.W.findIn K (.ref Fo) "__init__" =some (some (.ref Mb)))
  (ixfi:PySem.W.isFn K (.ref Mb)=true)
  (lxfi:K.lookup Mb=some ⟨V0,VN, .func (PySem.W.fnOf "__init__" "Formula.__init__" (br fT) (aS fT) (aj fT) (.ref Dh) Jj Jk Jl IY Dc Jm),VT⟩)
  (Wf:K.lookup Dh=some ⟨QA,QB, .seq #[.int 0 Nw] V6,QC⟩)
  (cxfi:PySem.W.codeIn K Dc "Formula.__init__" =true)
  (kxfi:PySem.W.keepIn K (.ref Mb)=true)
  (axfS:PySem.W.findIn K (.ref Fo) "shown" =some (some (.ref U6)))
  (lxfS:dM K "shown" "Formula.shown" mL U6)
  (axri:PySem.W.findIn K (.ref Rd) "__init__" =some (some (.ref Qe)))
  (Wg:dM K "__init__" "Reader.__init__" rg Qe)
  (axrs:PySem.W.findIn K (.ref Rd) "sign" =some (some (.ref Qf)))
  (Wh:dM K "sign" "Reader.sign" yt Qf)
  (axrt:PySem.W.findIn K (.ref Rd) "take" =some (some (.ref Qg)))
  (Wi:dM K "take" "Reader.take" yu Qg)
  (axra:PySem.W.findIn K (.ref Rd) "take_all" =some (some (.ref Qh)))
  (Wj:dM K "take_all" "Reader.take_all" ko Qh)
  (axre:PySem.W.findIn K (.ref Rd) "take_end" =some (some (.ref U7)))
  (lxre:dM K "take_end" "Reader.take_end" mN U7)
  (axrw:PySem.W.findIn K (.ref Rd) "read_whole" =some (some (.ref Qi)))
  (Wk:dM K "read_whole" "Reader.read_whole" mO Qi)
  (axrl:PySem.W.findIn K (.ref Rd) "read_electron" =some (some (.ref Qj)))
  (Wl:dM K "read_electron" "Reader.read_electron" hX Qj)
  (Wm:PySem.W.findIn K (.ref Rd) "read_parts" =some (some (.ref IS)))
  (Nz:dM K "read_parts" "Reader.read_parts" kY IS)
  (axrp:PySem.W.findIn K (.ref Rd) "read_part" =some (some (.ref Qk)))
  (Wn:dM K "read_part" "Reader.read_part" oB Qk)
  (axrg:PySem.W.findIn K (.ref Rd) "read_group" =some (some (.ref Ql)))
  (Wo:dM K "read_group" "Reader.read_group" jD Ql)
  (Wq:PySem.W.findIn K (.ref Rd) "read_atom" =some (some (.ref IT)))
  (NA:dM K "read_atom" "Reader.read_atom" rh IT)
  (axrc:PySem.W.findIn K (.ref Rd) "read_count" =some (some (.ref Qm)))
  (Wr:dM K "read_count" "Reader.read_count" mP Qm)
  (axrn:PySem.W.findIn K (.ref Rd) "read_number" =some (some (.ref Qn)))
  (Ws:dM K "read_number" "Reader.read_number" kq Qn)
  (Wt:PySem.W.findIn K (.ref Rd) "read_charge" =some (some (.ref IU)))
  (NB:dM K "read_charge" "Reader.read_charge" kr IU)
  (axrf:PySem.W.nsIn K mainGlobals "read_formula" =some (some (.ref U8)))
  (lxrf:dM K "read_formula" "read_formula" kZ U8)
  (axpc:PySem.W.nsIn K mainGlobals "parts_counts" =some (some (.ref U9)))
  (lxpc:dM K "parts_counts" "parts_counts" jj U9)
  (axco:PySem.W.findIn K (.ref C) "counts" =some (some (.ref U')))
  (lxco:dM K "counts" "Atom.counts" pZ U')
  (axgc:PySem.W.findIn K (.ref Gr) "counts" =some (some (.ref Va)))
  (lxgc:dM K "counts" "Group.counts" jl Va)
  (axpC:PySem.W.findIn K (.ref Pc) "counts" =some (some (.ref Vb)))
  (lxpC:dM K "counts" "Piece.counts" gN Vb)
  (axfC:PySem.W.findIn K (.ref Fo) "counts" =some (some (.ref Vc)))
  (lxfC:dM K "counts" "Formula.counts" mM Vc)
  (axci:PySem.W.findIn K (.ref Ch) "__init__" =some (some (.ref Vd)))
  (lxci:dM K "__init__" "Change.__init__" vZ Vd)
  (axam:PySem.W.nsIn K mainGlobals "formula_amounts" =some (some (.ref Ve)))
  (lxam:dM K "formula_amounts" "formula_amounts" mQ Ve)
  (axkd:PySem.W.findIn K (.ref Ch) "kinds" =some (some (.ref Vf)))
  (lxkd:dM K "kinds" "Change.kinds" wa Vf)
  (axrm:PySem.W.findIn K (.ref Rc) "read_term" =some (some (.ref Vg)))
  (lxrm:dM K "read_term" "ChangeReader.read_term" wb Vg)
  (Wu:PySem.W.findIn K (.ref Rc) "read_lefts" =some (some (.ref Nj)))
  (Wv:dM K "read_lefts" "ChangeReader.read_lefts" p6 Nj)
  (Ww:PySem.W.findIn K (.ref Rc) "read_rights" =some (some (.ref Nk)))
  (Wx:dM K "read_rights" "ChangeReader.read_rights" mR Nk)
  (Wy:PySem.W.findIn K (.ref Rc) "read_sides" =some (some (.ref Nl)))
  (Wz:dM K "read_sides" "ChangeReader.read_sides" p7 Nl)
  (QJ:PySem.W.nsIn K mainGlobals "read_change" =some (some (.ref IV)))
  (QK:dM K "read_change" "read_change" mS IV)
  (axsc:PySem.W.nsIn K mainGlobals "side_counts" =some (some (.ref Vh)))
  (lxsc:dM K "side_counts" "side_counts" iH Vh)
  (axgn:PySem.W.nsIn K mainGlobals "gains" =some (some (.ref Vi)))
  (lxgn:dM K "gains" "gains" ri Vi)
  (axsa:PySem.W.nsIn K mainGlobals "side_amounts" =some (some (.ref Vj)))
  (lxsa:dM K "side_amounts" "side_amounts" gP Vj)
  (axlo:PySem.W.findIn K (.ref Ch) "lost" =some (some (.ref Vk)))
  (lxlo:dM K "lost" "Change.lost" tZ Vk)
  (axev:PySem.W.nsIn K mainGlobals "read_even" =some (some (.ref Vl)))
  (lxev:dM K "read_even" "read_even" k7 Vl)
  (axto:PySem.W.nsIn K mainGlobals "turns_of" =some (some (.ref Vm)))
  (lxto:dM K "turns_of" "turns_of" mT Vm)
  (axmo:PySem.W.nsIn K mainGlobals "most_turns" =some (some (.ref Vn)))
  (lxmo:dM K "most_turns" "most_turns" fU Vn)
  (axtu:PySem.W.nsIn K mainGlobals "turned" =some (some (.ref Vo)))
  (lxtu:dM K "turned" "turned" p8 Vo)
  (WA:PySem.W.nsIn K mainGlobals "refuse_short" =some (some (.ref Nm)))
  (WB:dM K "refuse_short" "refuse_short" gQ Nm)
  (WC:PySem.W.findIn K (.ref Sh) "__init__" =some (some (.ref C7)))
  (WD:dM K "__init__" "Short.__init__" wc C7)
  (axsi:PySem.W.findIn K (.ref St) "__init__" =some (some (.ref Mc)))
  (ixsi:PySem.W.isFn K (.ref Mc)=true)
  (lxsi:K.lookup Mc=some ⟨V1,VO, .func (PySem.W.fnOf "__init__" "Store.__init__" (br fV) (aS fV) (aj fV) (.ref Dj) Jn Jo Jp IZ Dd Jq),VU⟩)
  (WE:K.lookup Dj=some ⟨QG,QH, .seq #[.none] V8,QI⟩)
  (cxsi:PySem.W.codeIn K Dd "Store.__init__" =true)
  (kxsi:PySem.W.keepIn K (.ref Mc)=true)
  (axsv:PySem.W.findIn K (.ref St) "have" =some (some (.ref Vp)))
  (lxsv:dM K "have" "Store.have" BQ Vp)
  (axsp:PySem.W.findIn K (.ref St) "put" =some (some (.ref Vq)))
  (lxsp:dM K "put" "Store.put" KP Vq)
  (axso:PySem.W.findIn K (.ref St) "go" =some (some (.ref Md)))
  (ixso:PySem.W.isFn K (.ref Md)=true)
  (lxso:K.lookup Md=some ⟨V2,VP, .func (PySem.W.fnOf "go" "Store.go" (br DR) (aS DR) (aj DR) (.ref Di) Jr Js Jt Ja De Ju),VW⟩)
  (WG:K.lookup Di=some ⟨QD,QE, .seq #[.int 1 Nx] V7,QF⟩)
  (cxso:PySem.W.codeIn K De "Store.go" =true)
  (WH:PySem.W.keepIn K (.ref Md)=true)
  (axsy:PySem.W.findIn K (.ref St) "go_all" =some (some (.ref Vr)))
  (lxsy:dM K "go_all" "Store.go_all" rj Vr)
  (axss:PySem.W.findIn K (.ref St) "stocks" =some (some (.ref Vs)))
  (lxss:dM K "stocks" "Store.stocks" mU Vs)
  (axsw:PySem.W.findIn K (.ref St) "went" =some (some (.ref Vt)))
  (lxsw:dM K "went" "Store.went" yv Vt)
  (axca:PySem.W.nsIn K mainGlobals "_law_cell_at" =some (some (.ref Vu)))
  (lxca:dM K "_law_cell_at" "_law_cell_at" p9 Vu)
  (axmi:PySem.W.nsIn K mainGlobals "_law_mixed" =some (some (.ref Vv)))
  (lxmi:dM K "_law_mixed" "_law_mixed" wd Vv)
  (axwh:PySem.W.nsIn K mainGlobals "_law_whole" =some (some (.ref Vw)))
  (lxwh:dM K "_law_whole" "_law_whole" we Vw)
  (axki:PySem.W.nsIn K mainGlobals "_law_kind" =some (some (.ref Vx)))
  (lxki:dM K "_law_kind" "_law_kind" BR Vx)
  (axfg:PySem.W.nsIn K mainGlobals "_law_figures" =some (some (.ref Vy)))
  (lxfg:dM K "_law_figures" "_law_figures" mV Vy)
  (axlm:PySem.W.nsIn K mainGlobals "_law_matter" =some (some (.ref Vz)))
  (lxlm:dM K "_law_matter" "_law_matter" mW Vz)
  (axlw:PySem.W.nsIn K mainGlobals "_law_world" =some (some (.ref VA)))
  (lxlw:dM K "_law_world" "_law_world" oC VA)
  (axlc:PySem.W.nsIn K mainGlobals "_law_change" =some (some (.ref VB)))
  (lxlc:dM K "_law_change" "_law_change" ku VB)
  (axlt:PySem.W.nsIn K mainGlobals "_law_text" =some (some (.ref VC)))
  (lxlt:dM K "_law_text" "_law_text" BS VC)
  (axlk:PySem.W.nsIn K mainGlobals "_law_asked" =some (some (.ref VD)))
  (lxlk:dM K "_law_asked" "_law_asked" wg VD)
  (axlx:PySem.W.nsIn K mainGlobals "_law_texts" =some (some (.ref VE)))
  (lxlx:dM K "_law_texts" "_law_texts" wj VE)
  (axla:PySem.W.nsIn K mainGlobals "_law_amounts" =some (some (.ref VF)))
  (lxla:dM K "_law_amounts" "_law_amounts" jm VF)
  (axlz:PySem.W.nsIn K mainGlobals "_law_others" =some (some (.ref VG)))
  (lxlz:dM K "_law_others" "_law_others" qa VG)
  (axlv:PySem.W.nsIn K mainGlobals "_law_walked" =some (some (.ref VH)))
  (lxlv:dM K "_law_walked" "_law_walked" qb VH)
  (axlg:PySem.W.nsIn K mainGlobals "_law_gone" =some (some (.ref VI)))
  (lxlg:dM K "_law_gone" "_law_gone" BU VI)
  (axls:PySem.W.nsIn K mainGlobals "_law_same" =some (some (.ref VJ)))
  (lxls:dM K "_law_same" "_law_same" wk VJ)
  (alaw:PySem.W.nsIn K mainGlobals "law" =some (some (.ref Qo)))
  (llaw:K.lookup Qo=some ⟨V3,VQ, .func (PySem.W.fnOf "law" "law" (br wm) (aS wm) (aj wm) .none Np Nq Nr Nn Jv Nt),VX⟩)
  (claw:PySem.W.codeIn K Jv "law" =true)
  (klaw:PySem.W.keepIn K (.ref Qo)=true)
  (bxri:PySem.W.findIn K (.ref Rc) "__init__" =some (some (.ref Qe)))
  (bxrs:PySem.W.findIn K (.ref Rc) "sign" =some (some (.ref Qf)))
  (bxrt:PySem.W.findIn K (.ref Rc) "take" =some (some (.ref Qg)))
  (bxra:PySem.W.findIn K (.ref Rc) "take_all" =some (some (.ref Qh)))
  (bxrw:PySem.W.findIn K (.ref Rc) "read_whole" =some (some (.ref Qi)))
  (bxrl:PySem.W.findIn K (.ref Rc) "read_electron" =some (some (.ref Qj)))
  (WI:PySem.W.findIn K (.ref Rc) "read_parts" =some (some (.ref IS)))
  (bxrp:PySem.W.findIn K (.ref Rc) "read_part" =some (some (.ref Qk)))
  (bxrg:PySem.W.findIn K (.ref Rc) "read_group" =some (some (.ref Ql)))
  (WJ:PySem.W.findIn K (.ref Rc) "read_atom" =some (some (.ref IT)))
  (bxrc:PySem.W.findIn K (.ref Rc) "read_count" =some (some (.ref Qm)))
  (bxrn:PySem.W.findIn K (.ref Rc) "read_number" =some (some (.ref Qn)))
  (WK:PySem.W.findIn K (.ref Rc) "read_charge" =some (some (.ref IU)))
  (QL:PySem.W.typeIn K (.ref C7)=some (.type "function"))
  (saSh:PySem.W.findIn K (.ref Sh) "__setattr__" =some (some (.builtin "object.__setattr__")))
  (gaSh:PySem.W.findIn K (.ref Sh) "__getattribute__" =some (some (.builtin "BaseException.__getattribute__")))
  (ghSh:PySem.W.findIn K (.ref Sh) "__getattr__" =some none)
  (kcSh:PySem.W.keepIn K (.ref Sh)=true)
  (obSh:∃(nm q:Str) (N:Addr) (bs:List Value) (sn:List Str) (sub:List Value) (ab:Bool) (col:Option Bool) (dd:Option Addr) (k0 k1 k2 k3 k5:Option Value),K.lookup Sh=some (excClassObj nm q Sh N bs (.ref HE::PySem.W.zQ) true sn sub ab col dd k0 k1 k2 k3 k5 "ValueError.__new__"))
  (pgC:PySem.W.plainGet K C Str.empty=true)
  (hdC:PySem.W.hasDictIn K C=true)
  (poC:PySem.W.plainOver K C=true)
  (saC:PySem.W.findIn K (.ref C) "__setattr__" =some (some (.builtin "object.__setattr__")))
  (mkC:PySem.W.makesIn K C=true)
  (kcC:PySem.W.keepIn K (.ref C)=true)
  (WL:PySem.W.plainGet K Gr Str.empty=true)
  (WM:PySem.W.hasDictIn K Gr=true)
  (WN:PySem.W.plainOver K Gr=true)
  (WO:PySem.W.findIn K (.ref Gr) "__setattr__" =some (some (.builtin "object.__setattr__")))
  (mkGr:PySem.W.makesIn K Gr=true)
  (kcGr:PySem.W.keepIn K (.ref Gr)=true)
  (WQ:PySem.W.plainGet K Pc Str.empty=true)
  (WR:PySem.W.hasDictIn K Pc=true)
  (WS:PySem.W.plainOver K Pc=true)
  (WT:PySem.W.findIn K (.ref Pc) "__setattr__" =some (some (.builtin "object.__setattr__")))
  (mkPc:PySem.W.makesIn K Pc=true)
  (kcPc:PySem.W.keepIn K (.ref Pc)=true)
  (WU:PySem.W.plainGet K Fo Str.empty=true)
  (WV:PySem.W.hasDictIn K Fo=true)
  (WW:PySem.W.plainOver K Fo=true)
  (WX:PySem.W.findIn K (.ref Fo) "__setattr__" =some (some (.builtin "object.__setattr__")))
  (mkFo:PySem.W.makesIn K Fo=true)
  (kcFo:PySem.W.keepIn K (.ref Fo)=true)
  (pgRd:PySem.W.plainGet K Rd Str.empty=true)
  (hdRd:PySem.W.hasDictIn K Rd=true)
  (poRd:PySem.W.plainOver K Rd=true)
  (saRd:PySem.W.findIn K (.ref Rd) "__setattr__" =some (some (.builtin "object.__setattr__")))
  (mkRd:PySem.W.makesIn K Rd=true)
  (kcRd:PySem.W.keepIn K (.ref Rd)=true)
  (pgRc:PySem.W.plainGet K Rc Str.empty=true)
  (hdRc:PySem.W.hasDictIn K Rc=true)
  (poRc:PySem.W.plainOver K Rc=true)
  (saRc:PySem.W.findIn K (.ref Rc) "__setattr__" =some (some (.builtin "object.__setattr__")))
  (mkRc:PySem.W.makesIn K Rc=true)
  (kcRc:PySem.W.keepIn K (.ref Rc)=true)
  (pgCh:PySem.W.plainGet K Ch Str.empty=true)
  (hdCh:PySem.W.hasDictIn K Ch=true)
  (poCh:PySem.W.plainOver K Ch=true)
  (saCh:PySem.W.findIn K (.ref Ch) "__setattr__" =some (some (.builtin "object.__setattr__")))
  (mkCh:PySem.W.makesIn K Ch=true)
  (kcCh:PySem.W.keepIn K (.ref Ch)=true)
  (QM:PySem.W.plainGet K St Str.empty=true)
  (QN:PySem.W.hasDictIn K St=true)
  (QO:PySem.W.plainOver K St=true)
  (QP:PySem.W.findIn K (.ref St) "__setattr__" =some (some (.builtin "object.__setattr__")))
  (mkSt:PySem.W.makesIn K St=true)
  (kcSt:PySem.W.keepIn K (.ref St)=true)
  (NC:PySem.W.findIn K (.ref C) "kind" =some none)
  (Jx:PySem.W.findIn K (.ref C) "count" =some none)
  (ngp:PySem.W.findIn K (.ref Gr) "parts" =some none)
  (ngc:PySem.W.findIn K (.ref Gr) "count" =some none)
  (npp:PySem.W.findIn K (.ref Pc) "parts" =some none)
  (Zb:PySem.W.findIn K (.ref Pc) "count" =some none)
  (nfp:PySem.W.findIn K (.ref Fo) "pieces" =some none)
  (nfc:PySem.W.findIn K (.ref Fo) "charge" =some none)
  (nrt:PySem.W.findIn K (.ref Rd) "text" =some none)
  (nrp:PySem.W.findIn K (.ref Rd) "place" =some none)
  (nlf:PySem.W.findIn K (.ref Ch) "lefts" =some none)
  (nrf:PySem.W.findIn K (.ref Ch) "rights" =some none)
  (nct:PySem.W.findIn K (.ref Rc) "text" =some none)
  (ncp:PySem.W.findIn K (.ref Rc) "place" =some none)
  (nam:PySem.W.findIn K (.ref St) "amounts" =some none)
  (ngo:PySem.W.findIn K (.ref St) "gone" =some none)
  (fS1:PySem.W.findIn K (.ref Sh) "step" =some none)
  (fS2:PySem.W.findIn K (.ref Sh) "turn" =some none)
  (fS3:PySem.W.findIn K (.ref Sh) "formula" =some none)
  (fS4:PySem.W.findIn K (.ref Sh) "lack" =some none)
  (ND:PySem.W.nsIn K mainGlobals "len" =some none)
  (NG:PySem.W.nsIn K mainGlobals "str" =some none)
  (NH:PySem.W.nsIn K mainGlobals "int" =some none)
  (Jy:PySem.W.nsIn K mainGlobals "bool" =some none)
  (Dk:PySem.W.nsIn K mainGlobals "range" =some none)
  (nR:PySem.W.nsIn K mainGlobals "isinstance" =some none)
  (Jz:PySem.W.nsIn K mainGlobals "list" =some none)
  (NI:PySem.W.nsIn K mainGlobals "abs" =some none)
  (JA:PySem.W.nsIn K mainGlobals "dict" =some none)
  (WY:PySem.W.nsIn K mainGlobals "sum" =some none)
  (JB:PySem.W.nsIn K mainGlobals "sorted" =some none)
  (WZ:PySem.W.nsIn K mainGlobals "all" =some none)
  (W0:PySem.W.nsIn K mainGlobals "min" =some none)
  (pF:PySem.W.nsIn K mainGlobals "enumerate" =some none)
  (xK:PySem.W.nsIn K mainGlobals "ValueError" =some none)
  (lS:PySem.W.nsIn K mainGlobals "LONGEST_KIND" =some (some (.int 3 uK)))
  (kK:PySem.W.nsIn K mainGlobals "LONGEST_COUNT" =some (some (.int 3 uN)))
  (nS:PySem.W.nsIn K mainGlobals "GROUP_BEGIN" =some (some (.str "(" uB)))
  (sJ:PySem.W.nsIn K mainGlobals "GROUP_END" =some (some (.str ")" uE)))
  (gJ:PySem.W.nsIn K mainGlobals "MOST_GROUPS_AROUND" =some (some (.int 3 uM)))
  (nU:PySem.W.nsIn K mainGlobals "CHARGE_MARK" =some (some (.str "^" uC)))
  (NJ:PySem.W.nsIn K mainGlobals "PLUS" =some (some (.str "+" uP)))
  (JC:PySem.W.nsIn K mainGlobals "MINUS" =some (some (.str "-" uI)))
  (sM:PySem.W.nsIn K mainGlobals "PIECE_DOT" =some (some (.str "." uD)))
  (vk:PySem.W.nsIn K mainGlobals "ELECTRON" =some (some (.str "e^-" uL)))
  (lT:PySem.W.nsIn K mainGlobals "LONGEST_TEXT" =some (some (.int 400 uT)))
  (QQ:PySem.W.nsIn K mainGlobals "BLANK" =some (some (.str " " eW)))
  (QR:PySem.W.nsIn K mainGlobals "JOINT" =some (some (.str " + " eX)))
  (QS:PySem.W.nsIn K mainGlobals "ARROW" =some (some (.str " -> " eY)))
  (lM:PySem.W.nsIn K mainGlobals "LONGEST_TERM_COUNT" =some (some (.int 12 uG)))
  (zN:PySem.W.nsIn K mainGlobals "MOST_TERMS" =some (some (.int 8 uS)))
  (hE1:PySem.W.specialIn K (.ref HE) "__getattribute__" =some (some (.builtin "type.__getattribute__")))
  (hE2:PySem.W.readsIn K HE (.type "type")=true)
  (hE3:PySem.W.findCls K (.ref HE) (.type "type") "__init__" =some (.val (.builtin "ValueError.__init__")))
  (hE4:∃(nm q:Str) (N:Addr) (bs bm:List Value) (hd:Bool) (sn:List Str) (sub:List Value) (ab:Bool) (col:Option Bool) (dd:Option Addr) (k0 k1 k2 k3 k5:Option Value) (Y9:String),K.lookup HE=some (excClassObj nm q HE N bs bm hd sn sub ab col dd k0 k1 k2 k3 k5 Y9)∧bm.contains (.type "BaseException")=true)
  (tS1:PySem.W.takerIn K Sh "step" =some none)
  (tS2:PySem.W.takerIn K Sh "turn" =some none)
  (tS3:PySem.W.takerIn K Sh "formula" =some none)
  (tS4:PySem.W.takerIn K Sh "lack" =some none)
  (t1:PySem.W.findIn K (.ref Sh) "__class__" =some (some (.builtin "object.__class__")))
  (t2:PySem.W.specialIn K (.builtin "object.__class__") "__get__" =some (some (.builtin "getset_descriptor.__get__")))
  (t3:PySem.W.takesIn K (.builtin "object.__class__")=some true)
  (uS1:PySem.W.mroIn K Sh (.ref HE)=some true)
  (Mh:PySem.W.mroIn K Sh (.ref Sh)=some true)
  (w1:PySem.W.isClsIn K X1=true)
  (y1:PySem.W.typeIn K (.ref X1)=some (.type "type"))
  (m1:PySem.W.mroIn K Sh (.ref X1)=some false)
  (w2:PySem.W.isClsIn K X2=true)
  (y2:PySem.W.typeIn K (.ref X2)=some (.type "type"))
  (m2:PySem.W.mroIn K Sh (.ref X2)=some false)
  (w3:PySem.W.isClsIn K X3=true)
  (y3:PySem.W.typeIn K (.ref X3)=some (.type "type"))
  (m3:PySem.W.mroIn K Sh (.ref X3)=some false)
  (w4:PySem.W.isClsIn K X4=true)
  (y4:PySem.W.typeIn K (.ref X4)=some (.type "type"))
  (m4:PySem.W.mroIn K Sh (.ref X4)=some false)
  (w5:PySem.W.isClsIn K X5=true)
  (y5:PySem.W.typeIn K (.ref X5)=some (.type "type"))
  (m5:PySem.W.mroIn K Sh (.ref X5)=some false)
  (w6:PySem.W.isClsIn K X6=true)
  (y6:PySem.W.typeIn K (.ref X6)=some (.type "type"))
  (m6:PySem.W.mroIn K Sh (.ref X6)=some false)
  (w7:PySem.W.isClsIn K X7=true)
  (y7:PySem.W.typeIn K (.ref X7)=some (.type "type"))
  (m7:PySem.W.mroIn K Sh (.ref X7)=some false)
  (w8:PySem.W.isClsIn K X8=true)
  (y8:PySem.W.typeIn K (.ref X8)=some (.type "type"))
  (m8:PySem.W.mroIn K Sh (.ref X8)=some false)
  (w9:PySem.W.isClsIn K X9=true)
  (y9:PySem.W.typeIn K (.ref X9)=some (.type "type"))
  (m9:PySem.W.mroIn K Sh (.ref X9)=some false)
  :∃fd:FuncData,(∀(s:Shared) (v:Value),BindsTo s fd ⟨[v],[]⟩ [("_law_script",v)])∧∀base:Heap,K.In base→base.Ns mainGlobals mg→fu l.prog w K mg base qO 20 fa fd ["_law_script"] (C4 K):=by
 have e:=hfa.symm.trans (PySem.W.mg_of X G alaw)
 cases e
 have T:lK K mg C Rd Gr Pc Fo uK uN uB uE uM uC uP uI uD uL uT:=⟨⟨⟨⟨⟨pgC,hdC,poC,saC⟩,NC,Jx,PySem.W.mg_of X G aC,PySem.W.mg_none_of X G ND,PySem.W.mg_none_of X G NG,PySem.W.mg_none_of X G NH,PySem.W.mg_none_of X G Jy,PySem.W.mg_none_of X G Dk,PySem.W.mg_none_of X G nR,fz,mF,fz,fz,fz⟩,⟨pgRd,hdRd,poRd,saRd⟩,nrt,nrp,PySem.W.mg_of X G lS,PySem.W.mg_of X G kK⟩,⟨WL,WM,WN,WO⟩,ngp,ngc,PySem.W.mg_of X G aGr,PySem.W.mg_of X G nS,PySem.W.mg_of X G sJ,PySem.W.mg_of X G gJ⟩,PySem.W.mg_of X G nU,PySem.W.mg_of X G NJ,PySem.W.mg_of X G JC,⟨WQ,WR,WS,WT⟩,⟨WU,WV,WW,WX⟩,npp,Zb,nfp,nfc,PySem.W.mg_of X G aPc,PySem.W.mg_of X G aFo,PySem.W.mg_of X G sM,PySem.W.mg_of X G vk,PySem.W.mg_of X G lT,PySem.W.mg_none_of X G Jz,PySem.W.mg_none_of X G NI⟩
 have W2:Def K mg "is_great" "is_great" vW ["sign"]:=cw X G axig lxig (gF fun _ _ _ _ _ _ _=>rfl)
 have W3:Def K mg "is_small" "is_small" vX ["sign"]:=cw X G axis lxis (gF fun _ _ _ _ _ _ _=>rfl)
 have W4:Def K mg "is_figure" "is_figure" pY ["sign"]:=cw X G axif lxif (gF fun _ _ _ _ _ _ _=>rfl)
 have W5:Def K mg "count_shown" "count_shown" iF ["count"]:=cw X G axcs lxcs (gF fun _ _ _ _ _ _ _=>rfl)
 have W6:Def K mg "parts_shown" "parts_shown" kW ["parts"]:=cw X G axps lxps (gF fun _ _ _ _ _ _ _=>rfl)
 have QT:lJ K C "Atom.__init__" jk ["self","kind","count"] [1]:=⟨_,_,_,kR (st:=jk) Wa Wb Wc,⟨mkC,V9,V',kcC⟩,fun j hj=>match j,hj with|0,_=>⟨[.int 1 Jw], .cons ⟨_,rfl⟩ (.nil),fun s us hk hl=>match us,(show us.length=2 by simpa using hl) with| [_,_],_=>PySem.W.binds_K (K:=K) (fd:=PySem.W.fnOf "__init__" "Atom.__init__" (br jk) (aS jk) (aj jk) (.ref xJ) Br Bs Bt Bq xI Bu) hk rfl Ny rfl rfl rfl⟩ |1,_=>⟨[], .nil,fun s us hk hl=>match us,(show us.length=3 by simpa using hl) with| [_,_,_],_=>PySem.W.binds_K (K:=K) (fd:=PySem.W.fnOf "__init__" "Atom.__init__" (br jk) (aS jk) (aj jk) (.ref xJ) Br Bs Bt Bq xI Bu) hk rfl Ny rfl rfl rfl⟩⟩
 have W7:a9 K C "shown" "Atom.shown" vY ["self"]:=bM axsh lxsh (gF fun _ _ _ _ _ _ _=>rfl)
 have W8:lJ K Gr "Group.__init__" fR ["self","parts","count"] [1]:=⟨_,_,_,kR (st:=fR) lxgi cxgi kxgi,⟨mkGr,axgi,ixgi,kcGr⟩,fun j hj=>match j,hj with|0,_=>⟨[.int 1 Nu], .cons ⟨_,rfl⟩ (.nil),fun s us hk hl=>match us,(show us.length=2 by simpa using hl) with| [_,_],_=>PySem.W.binds_K (K:=K) (fd:=PySem.W.fnOf "__init__" "Group.__init__" (br fR) (aS fR) (aj fR) (.ref Df) Jb Jc Jd IW C8 Je) hk rfl Wd rfl rfl rfl⟩ |1,_=>⟨[], .nil,fun s us hk hl=>match us,(show us.length=3 by simpa using hl) with| [_,_,_],_=>PySem.W.binds_K (K:=K) (fd:=PySem.W.fnOf "__init__" "Group.__init__" (br fR) (aS fR) (aj fR) (.ref Df) Jb Jc Jd IW C8 Je) hk rfl Wd rfl rfl rfl⟩⟩
 have W9:a9 K Gr "shown" "Group.shown" kX ["self"]:=bM axgs lxgs (gF fun _ _ _ _ _ _ _=>rfl)
 have W':lJ K Pc "Piece.__init__" fS ["self","parts","count"] [1]:=⟨_,_,_,kR (st:=fS) lxpi cxpi kxpi,⟨mkPc,axpi,ixpi,kcPc⟩,fun j hj=>match j,hj with|0,_=>⟨[.int 1 Nv], .cons ⟨_,rfl⟩ (.nil),fun s us hk hl=>match us,(show us.length=2 by simpa using hl) with| [_,_],_=>PySem.W.binds_K (K:=K) (fd:=PySem.W.fnOf "__init__" "Piece.__init__" (br fS) (aS fS) (aj fS) (.ref Dg) Jf Jg Jh IX C9 Ji) hk rfl We rfl rfl rfl⟩ |1,_=>⟨[], .nil,fun s us hk hl=>match us,(show us.length=3 by simpa using hl) with| [_,_,_],_=>PySem.W.binds_K (K:=K) (fd:=PySem.W.fnOf "__init__" "Piece.__init__" (br fS) (aS fS) (aj fS) (.ref Dg) Jf Jg Jh IX C9 Ji) hk rfl We rfl rfl rfl⟩⟩
 have Xa:a9 K Pc "shown" "Piece.shown" iG ["self"]:=bM axpS lxpS (gF fun _ _ _ _ _ _ _=>rfl)
 have Xb:Def K mg "refuse_too_long" "refuse_too_long" mK ["text"]:=cw X G axtl lxtl (gF fun _ _ _ _ _ _ _=>rfl)
 have Xc:Def K mg "charge_shown" "charge_shown" gO ["charge"]:=cw X G axch lxch (gF fun _ _ _ _ _ _ _=>rfl)
 have Xd:lJ K Fo "Formula.__init__" fT ["self","pieces","charge"] [0]:=⟨_,_,_,kR (st:=fT) lxfi cxfi kxfi,⟨mkFo,axfi,ixfi,kcFo⟩,fun j hj=>match j,hj with|0,_=>⟨[.int 0 Nw], .cons ⟨_,rfl⟩ (.nil),fun s us hk hl=>match us,(show us.length=2 by simpa using hl) with| [_,_],_=>PySem.W.binds_K (K:=K) (fd:=PySem.W.fnOf "__init__" "Formula.__init__" (br fT) (aS fT) (aj fT) (.ref Dh) Jj Jk Jl IY Dc Jm) hk rfl Wf rfl rfl rfl⟩ |1,_=>⟨[], .nil,fun s us hk hl=>match us,(show us.length=3 by simpa using hl) with| [_,_,_],_=>PySem.W.binds_K (K:=K) (fd:=PySem.W.fnOf "__init__" "Formula.__init__" (br fT) (aS fT) (aj fT) (.ref Dh) Jj Jk Jl IY Dc Jm) hk rfl Wf rfl rfl rfl⟩⟩
 have Xe:a9 K Fo "shown" "Formula.shown" mL ["self"]:=bM axfS lxfS (gF fun _ _ _ _ _ _ _=>rfl)
 have Xf:lJ K Rd "Reader.__init__" rg ["self","text"] []:=Gx mkRd axri kcRd Wg (pX fun _ _ _ _ _ _ _ _=>rfl)
 have Xg:lJ K Rc "Reader.__init__" rg ["self","text"] []:=Gx mkRc bxri kcRc Wg (pX fun _ _ _ _ _ _ _ _=>rfl)
 have Xh:a9 K Rd "sign" "Reader.sign" yt ["self"]:=bM axrs Wh (gF fun _ _ _ _ _ _ _=>rfl)
 have Xi:a9 K Rc "sign" "Reader.sign" yt ["self"]:=bM bxrs Wh (gF fun _ _ _ _ _ _ _=>rfl)
 have Xj:a9 K Rd "take" "Reader.take" yu ["self","sign"]:=bM axrt Wi (pX fun _ _ _ _ _ _ _ _=>rfl)
 have Xk:a9 K Rc "take" "Reader.take" yu ["self","sign"]:=bM bxrt Wi (pX fun _ _ _ _ _ _ _ _=>rfl)
 have Xl:a9 K Rd "take_all" "Reader.take_all" ko ["self","signs"]:=bM axra Wj (pX fun _ _ _ _ _ _ _ _=>rfl)
 have Xm:a9 K Rc "take_all" "Reader.take_all" ko ["self","signs"]:=bM bxra Wj (pX fun _ _ _ _ _ _ _ _=>rfl)
 have Xn:a9 K Rd "take_end" "Reader.take_end" mN ["self"]:=bM axre lxre (gF fun _ _ _ _ _ _ _=>rfl)
 have Xo:a9 K Rd "read_whole" "Reader.read_whole" mO ["self"]:=bM axrw Wk (gF fun _ _ _ _ _ _ _=>rfl)
 have Xp:a9 K Rc "read_whole" "Reader.read_whole" mO ["self"]:=bM bxrw Wk (gF fun _ _ _ _ _ _ _=>rfl)
 have Xq:a9 K Rd "read_electron" "Reader.read_electron" hX ["self"]:=bM axrl Wl (gF fun _ _ _ _ _ _ _=>rfl)
 have Xr:a9 K Rc "read_electron" "Reader.read_electron" hX ["self"]:=bM bxrl Wl (gF fun _ _ _ _ _ _ _=>rfl)
 have QU:a9 K Rd "read_parts" "Reader.read_parts" kY ["self","around"]:=bM Wm Nz (pX fun _ _ _ _ _ _ _ _=>rfl)
 have QV:a9 K Rc "read_parts" "Reader.read_parts" kY ["self","around"]:=bM WI Nz (pX fun _ _ _ _ _ _ _ _=>rfl)
 have Xs:a9 K Rd "read_part" "Reader.read_part" oB ["self","around"]:=bM axrp Wn (pX fun _ _ _ _ _ _ _ _=>rfl)
 have Xt:a9 K Rc "read_part" "Reader.read_part" oB ["self","around"]:=bM bxrp Wn (pX fun _ _ _ _ _ _ _ _=>rfl)
 have Xu:a9 K Rd "read_group" "Reader.read_group" jD ["self","around"]:=bM axrg Wo (pX fun _ _ _ _ _ _ _ _=>rfl)
 have Xv:a9 K Rc "read_group" "Reader.read_group" jD ["self","around"]:=bM bxrg Wo (pX fun _ _ _ _ _ _ _ _=>rfl)
 have QW:a9 K Rd "read_atom" "Reader.read_atom" rh ["self"]:=bM Wq NA (gF fun _ _ _ _ _ _ _=>rfl)
 have QX:a9 K Rc "read_atom" "Reader.read_atom" rh ["self"]:=bM WJ NA (gF fun _ _ _ _ _ _ _=>rfl)
 have Xw:a9 K Rd "read_count" "Reader.read_count" mP ["self"]:=bM axrc Wr (gF fun _ _ _ _ _ _ _=>rfl)
 have Xx:a9 K Rc "read_count" "Reader.read_count" mP ["self"]:=bM bxrc Wr (gF fun _ _ _ _ _ _ _=>rfl)
 have Xy:a9 K Rd "read_number" "Reader.read_number" kq ["self","longest"]:=bM axrn Ws (pX fun _ _ _ _ _ _ _ _=>rfl)
 have Xz:a9 K Rc "read_number" "Reader.read_number" kq ["self","longest"]:=bM bxrn Ws (pX fun _ _ _ _ _ _ _ _=>rfl)
 have QY:a9 K Rd "read_charge" "Reader.read_charge" kr ["self"]:=bM Wt NB (gF fun _ _ _ _ _ _ _=>rfl)
 have QZ:a9 K Rc "read_charge" "Reader.read_charge" kr ["self"]:=bM WK NB (gF fun _ _ _ _ _ _ _=>rfl)
 have XA:Def K mg "read_formula" "read_formula" kZ ["text"]:=cw X G axrf lxrf (gF fun _ _ _ _ _ _ _=>rfl)
 have NK:Def K mg "parts_counts" "parts_counts" jj ["parts","times"]:=cw X G axpc lxpc (pX fun _ _ _ _ _ _ _ _=>rfl)
 have XB:a9 K C "counts" "Atom.counts" pZ ["self"]:=bM axco lxco (gF fun _ _ _ _ _ _ _=>rfl)
 have XC:a9 K Gr "counts" "Group.counts" jl ["self"]:=bM axgc lxgc (gF fun _ _ _ _ _ _ _=>rfl)
 have XD:a9 K Pc "counts" "Piece.counts" gN ["self"]:=bM axpC lxpC (gF fun _ _ _ _ _ _ _=>rfl)
 have XE:a9 K Fo "counts" "Formula.counts" mM ["self"]:=bM axfC lxfC (gF fun _ _ _ _ _ _ _=>rfl)
 have XF:lJ K Ch "Change.__init__" vZ ["self","lefts","rights"] []:=Gx mkCh axci kcCh lxci (S2 fun _ _ _ _ _ _ _ _ _=>rfl)
 have XG:Def K mg "formula_amounts" "formula_amounts" mQ ["formula"]:=cw X G axam lxam (gF fun _ _ _ _ _ _ _=>rfl)
 have XH:a9 K Ch "kinds" "Change.kinds" wa ["self"]:=bM axkd lxkd (gF fun _ _ _ _ _ _ _=>rfl)
 have XI:a9 K Rc "read_term" "ChangeReader.read_term" wb ["self"]:=bM axrm lxrm (gF fun _ _ _ _ _ _ _=>rfl)
 have Q0:a9 K Rc "read_lefts" "ChangeReader.read_lefts" p6 ["self"]:=bM Wu Wv (gF fun _ _ _ _ _ _ _=>rfl)
 have Q1:a9 K Rc "read_rights" "ChangeReader.read_rights" mR ["self"]:=bM Ww Wx (gF fun _ _ _ _ _ _ _=>rfl)
 have Q2:a9 K Rc "read_sides" "ChangeReader.read_sides" p7 ["self"]:=bM Wy Wz (gF fun _ _ _ _ _ _ _=>rfl)
 have Mi:Def K mg "read_change" "read_change" mS ["text"]:=cw X G QJ QK (gF fun _ _ _ _ _ _ _=>rfl)
 have XJ:Def K mg "side_counts" "side_counts" iH ["terms"]:=cw X G axsc lxsc (gF fun _ _ _ _ _ _ _=>rfl)
 have XM:Def K mg "gains" "gains" ri ["change"]:=cw X G axgn lxgn (gF fun _ _ _ _ _ _ _=>rfl)
 have XN:Def K mg "side_amounts" "side_amounts" gP ["terms"]:=cw X G axsa lxsa (gF fun _ _ _ _ _ _ _=>rfl)
 have XO:a9 K Ch "lost" "Change.lost" tZ ["self"]:=bM axlo lxlo (gF fun _ _ _ _ _ _ _=>rfl)
 have XQ:Def K mg "read_even" "read_even" k7 ["text"]:=cw X G axev lxev (gF fun _ _ _ _ _ _ _=>rfl)
 have XR:Def K mg "turns_of" "turns_of" mT ["amount","taken","gain"]:=cw X G axto lxto (S2 fun _ _ _ _ _ _ _ _ _=>rfl)
 have XS:Def K mg "most_turns" "most_turns" fU ["change","amounts"]:=cw X G axmo lxmo (pX fun _ _ _ _ _ _ _ _=>rfl)
 have XT:Def K mg "turned" "turned" p8 ["change","times","amounts"]:=cw X G axtu lxtu (S2 fun _ _ _ _ _ _ _ _ _=>rfl)
 have Q3:Def K mg "refuse_short" "refuse_short" gQ ["change","times","amounts","step"]:=cw X G WA WB (ba4 fun _ _ _ _ _ _ _ _ _ _=>rfl)
 have xM:PySem.W.fg K Sh HE C7:=⟨obSh,WC,QL,saSh,gaSh,ghSh⟩
 have Q4:Gv K mg "Short" Sh HE "Short.__init__" wc ["self","step","turn","formula","lack"]:=S3 xM (PySem.W.mg_of X G aSh) kcSh WD (ba5 fun _ _ _ _ _ _ _ _ _ _ _=>rfl)
 have XU:KH K St "Store.__init__" fV ["self","amounts"]:=⟨_,_,_,kR (st:=fV) lxsi cxsi kxsi,⟨mkSt,axsi,ixsi,kcSt⟩,fun s us hk hl=>match us,(show us.length=2 by simpa using hl) with| [_,_],_=>PySem.W.binds_K (K:=K) (fd:=PySem.W.fnOf "__init__" "Store.__init__" (br fV) (aS fV) (aj fV) (.ref Dj) Jn Jo Jp IZ Dd Jq) hk rfl WE rfl rfl rfl,fun s us hk hl=>match us,(show us.length=1 by simpa using hl) with| [_],_=>PySem.W.binds_K (K:=K) (fd:=PySem.W.fnOf "__init__" "Store.__init__" (br fV) (aS fV) (aj fV) (.ref Dj) Jn Jo Jp IZ Dd Jq) hk rfl WE rfl rfl rfl⟩
 have XW:a9 K St "have" "Store.have" BQ ["self","text"]:=bM axsv lxsv (pX fun _ _ _ _ _ _ _ _=>rfl)
 have XX:a9 K St "put" "Store.put" KP ["self","text","many"]:=bM axsp lxsp (S2 fun _ _ _ _ _ _ _ _ _=>rfl)
 have XY:BP K St "go" "Store.go" DR ["self","text","times"] [1]:=⟨_,_,_,kR (st:=DR) lxso cxso WH,⟨axso,ixso,WH⟩,fun j hj=>match j,hj with|0,_=>⟨[.int 1 Nx], .cons ⟨_,rfl⟩ (.nil),fun s us hk hl=>match us,(show us.length=2 by simpa using hl) with| [_,_],_=>PySem.W.binds_K (K:=K) (fd:=PySem.W.fnOf "go" "Store.go" (br DR) (aS DR) (aj DR) (.ref Di) Jr Js Jt Ja De Ju) hk rfl WG rfl rfl rfl⟩ |1,_=>⟨[], .nil,fun s us hk hl=>match us,(show us.length=3 by simpa using hl) with| [_,_,_],_=>PySem.W.binds_K (K:=K) (fd:=PySem.W.fnOf "go" "Store.go" (br DR) (aS DR) (aj DR) (.ref Di) Jr Js Jt Ja De Ju) hk rfl WG rfl rfl rfl⟩⟩
 have XZ:a9 K St "go_all" "Store.go_all" rj ["self","rows"]:=bM axsy lxsy (pX fun _ _ _ _ _ _ _ _=>rfl)
 have X0:a9 K St "stocks" "Store.stocks" mU ["self"]:=bM axss lxss (gF fun _ _ _ _ _ _ _=>rfl)
 have X':a9 K St "went" "Store.went" yv ["self"]:=bM axsw lxsw (gF fun _ _ _ _ _ _ _=>rfl)
 have Ya:Def K mg "_law_cell_at" "_law_cell_at" p9 ["_law_script","_law_k"]:=cw X G axca lxca (pX fun _ _ _ _ _ _ _ _=>rfl)
 have Yb:Def K mg "_law_mixed" "_law_mixed" wd ["_law_cell","_law_prime"]:=cw X G axmi lxmi (pX fun _ _ _ _ _ _ _ _=>rfl)
 have Yc:Def K mg "_law_whole" "_law_whole" we ["_law_found"]:=cw X G axwh lxwh (gF fun _ _ _ _ _ _ _=>rfl)
 have Yd:Def K mg "_law_kind" "_law_kind" BR ["_law_number"]:=cw X G axki lxki (gF fun _ _ _ _ _ _ _=>rfl)
 have Ye:Def K mg "_law_figures" "_law_figures" mV ["_law_count_here"]:=cw X G axfg lxfg (gF fun _ _ _ _ _ _ _=>rfl)
 have Yf:Def K mg "_law_matter" "_law_matter" mW ["_law_cell","_law_kinds"]:=cw X G axlm lxlm (pX fun _ _ _ _ _ _ _ _=>rfl)
 have Yg:Def K mg "_law_world" "_law_world" oC ["_law_script"]:=cw X G axlw lxlw (gF fun _ _ _ _ _ _ _=>rfl)
 have Yh:Def K mg "_law_change" "_law_change" ku ["_law_cell","_law_world_here"]:=cw X G axlc lxlc (pX fun _ _ _ _ _ _ _ _=>rfl)
 have Yi:Def K mg "_law_text" "_law_text" BS ["_law_lefts","_law_rights"]:=cw X G axlt lxlt (pX fun _ _ _ _ _ _ _ _=>rfl)
 have Yj:Def K mg "_law_asked" "_law_asked" wg ["_law_terms"]:=cw X G axlk lxlk (gF fun _ _ _ _ _ _ _=>rfl)
 have Yk:Def K mg "_law_texts" "_law_texts" wj ["_law_world_here"]:=cw X G axlx lxlx (gF fun _ _ _ _ _ _ _=>rfl)
 have Yl:Def K mg "_law_amounts" "_law_amounts" jm ["_law_found","_law_due"]:=cw X G axla lxla (pX fun _ _ _ _ _ _ _ _=>rfl)
 have Ym:Def K mg "_law_others" "_law_others" qa ["_law_e"]:=cw X G axlz lxlz (gF fun _ _ _ _ _ _ _=>rfl)
 have Yn:Def K mg "_law_walked" "_law_walked" qb ["_law_amounts_here","_law_lefts","_law_rights","_law_times"]:=cw X G axlv lxlv (ba4 fun _ _ _ _ _ _ _ _ _ _=>rfl)
 have Yo:Def K mg "_law_gone" "_law_gone" BU ["_law_store","_law_text_here","_law_times","_law_bare"]:=cw X G axlg lxlg (ba4 fun _ _ _ _ _ _ _ _ _ _=>rfl)
 have Yp:Def K mg "_law_same" "_law_same" wk ["_law_store","_law_amounts_here","_law_went"]:=cw X G axls lxls (S2 fun _ _ _ _ _ _ _ _ _=>rfl)
 have Flaw:=Of (st:=wm) llaw claw klaw
 refine⟨PySem.W.fnOf "law" "law" (br wm) (aS wm) (aj wm) .none Np Nq Nr Nn Jv Nt,fun s v=> .of_eq rfl,fun base _ _=>?_⟩
 have TH:Hi K mg C Rc Gr Pc Fo Ch uK uN uB uE uM uC uP uI uD uL uT eW eX eY:=⟨⟨⟨⟨⟨⟨pgC,hdC,poC,saC⟩,NC,Jx,PySem.W.mg_of X G aC,PySem.W.mg_none_of X G ND,PySem.W.mg_none_of X G NG,PySem.W.mg_none_of X G NH,PySem.W.mg_none_of X G Jy,PySem.W.mg_none_of X G Dk,PySem.W.mg_none_of X G nR,fz,mF,fz,fz,fz⟩,⟨pgRc,hdRc,poRc,saRc⟩,nct,ncp,PySem.W.mg_of X G lS,PySem.W.mg_of X G kK⟩,⟨WL,WM,WN,WO⟩,ngp,ngc,PySem.W.mg_of X G aGr,PySem.W.mg_of X G nS,PySem.W.mg_of X G sJ,PySem.W.mg_of X G gJ⟩,PySem.W.mg_of X G nU,PySem.W.mg_of X G NJ,PySem.W.mg_of X G JC,⟨WQ,WR,WS,WT⟩,⟨WU,WV,WW,WX⟩,npp,Zb,nfp,nfc,PySem.W.mg_of X G aPc,PySem.W.mg_of X G aFo,PySem.W.mg_of X G sM,PySem.W.mg_of X G vk,PySem.W.mg_of X G lT,PySem.W.mg_none_of X G Jz,PySem.W.mg_none_of X G NI⟩,PySem.W.mg_none_of X G JA,⟨pgCh,hdCh,poCh,saCh⟩,nlf,nrf,PySem.W.mg_of X G aCh,PySem.W.mg_of X G QQ,PySem.W.mg_of X G QR,PySem.W.mg_of X G QS⟩
 have TK:nH K mg C Rc Gr Pc Fo Ch uK uN uB uE uM uC uP uI uD uL uT eW eX eY uG uS:=⟨TH,PySem.W.mg_of X G lM,PySem.W.mg_of X G aRc,PySem.W.mg_of X G zN⟩
 have TL:Hz K mg C Rc Gr Pc Fo Ch uK uN uB uE uM uC uP uI uD uL uT eW eX eY:=⟨TH,PySem.W.mg_none_of X G JB,PySem.W.mg_none_of X G WZ⟩
 have TM:Uc K mg C Rc Gr Pc Fo Ch uK uN uB uE uM uC uP uI uD uL uT eW eX eY uG uS:=⟨TK,PySem.W.mg_none_of X G W0⟩
 have TO:PN K mg C Rc Gr Pc Fo Ch St uK uN uB uE uM uC uP uI uD uL uT eW eX eY uG uS:=⟨TK,PySem.W.mg_none_of X G pF,⟨QM,QN,QO,QP⟩,nam,ngo⟩
 have TS:pN K mg C Rd Gr Pc Fo St uK uN uB uE uM uC uP uI uD uL uT:=⟨T,PySem.W.mg_none_of X G JA,PySem.W.mg_none_of X G WY,⟨QM,QN,QO,QP⟩,nam,ngo,PySem.W.mg_of X G aSt⟩
 have TF:Tc K mg C Rd Gr Pc Fo uK uN uB uE uM uC uP uI uD uL uT:=⟨T,PySem.W.mg_of X G aRd⟩
 have TE:LH K mg HE Sh:=⟨PySem.W.mg_of X G aHE,⟨hE1,hE2,hE3⟩,⟨hE4⟩,PySem.W.mg_of X G aSh,tS1,tS2,tS3,tS4,fS1,fS2,fS3,fS4,⟨t1,t2,t3⟩,uS1⟩
 have TA:oF K mg C:=T.torE.tosW.tooF
 have Mj:=GL (P:=l.prog) (w:=w) (base:=base) W2
 have Yq:=GN (P:=l.prog) (w:=w) (base:=base) W3
 have Yr:=D4 (P:=l.prog) (w:=w) (base:=base) W4
 have Ml:=sF (P:=l.prog) (w:=w) (base:=base) W5 TA
 have Ys:=Ld (P:=l.prog) (w:=w) (base:=base) QT TA
 have q_sh:=IJ W7 TA Ml
 have Yt:=G' (P:=l.prog) (w:=w) (base:=base) W8 T
 have Yu:=Hc (P:=l.prog) (w:=w) (base:=base) W' T
 have Mm:=Hd (P:=l.prog) (w:=w) (base:=base) Xd T
 have Yv:=AN (P:=l.prog) (w:=w) (base:=base) Xb T
 have q_ri:=yz (P:=l.prog) (w:=w) (base:=base) Xf T.torE.tosW
 have E9:=B1 (P:=l.prog) (w:=w) (base:=base) Xh T.torE.tosW
 have Mn:=B2 Xj T.torE.tosW E9
 have q_ra:=rC Xl T.torE.tosW Mn
 have q_rn:=uf Xy T.torE.tosW E9 Yr
 have Mo:=ug Xw T.torE.tosW q_rn
 have Yw:=yA QW T.torE.tosW E9 Mj Yq Mo Ys
 have Yx:=rJ Xu Xs QU T.torE E9 Mj Yw Mn Mo Yt 1
 have Yy:=rK QY T.toS8 E9 Mn Mo
 have q_rl:=nC 1 Xq T q_ra Mm
 have q_rw:=uy 1 Xo T E9 Mn Mo Yx Yy q_rl Yu Mm
 have q_re:=AG (P:=l.prog) (w:=w) (base:=base) Xn T.torE.tosW
 have q_rf:=yG 1 XA TF Yv q_ri q_rw q_re
 have q_ps:=uz W6 W9 T.torE q_sh Ml 1
 have q_pS:=rS 1 Xa T q_ps Ml
 have q_ch:=oQ Xc T Ml
 have q_fS:=AX 1 Xe T q_pS q_ch
 have q_co:=En (P:=l.prog) (w:=w) (base:=base) XB TA
 have q_pc:=rZ NK XC T.torE q_co 1
 have q_pC:=pM 1 XD T q_pc
 have q_pP:=yR 1 NK T q_pC
 have Yz:=yT 1 XE T q_pP
 have p_ri:=yz (P:=l.prog) (w:=w) (base:=base) Xg TH.tolK.torE.tosW
 have Fb:=B1 (P:=l.prog) (w:=w) (base:=base) Xi TH.tolK.torE.tosW
 have JD:=B2 Xk TH.tolK.torE.tosW Fb
 have Q5:=rC Xm TH.tolK.torE.tosW JD
 have YA:=uf Xz TH.tolK.torE.tosW Fb Yr
 have Mp:=ug Xx TH.tolK.torE.tosW YA
 have YB:=yA QX TH.tolK.torE.tosW Fb Mj Yq Mp Ys
 have YC:=rJ Xv Xt QV TH.tolK.torE Fb Mj YB JD Mp Yt 1
 have YD:=rK QZ TH.tolK.toS8 Fb JD Mp
 have p_rl:=nC 1 Xr TH.tolK Q5 Mm
 have p_rw:=uy 1 Xp TH.tolK Fb JD Mp YC YD p_rl Yu Mm
 have q_ci:=Hl (P:=l.prog) (w:=w) (base:=base) XF TH
 have YE:=Hs XI TK YA JD p_rw
 have YF:=Et Q0 TK YE Q5
 have YG:=A2 Q1 TK YE Q5
 have YH:=Ew Q2 TK YF YG q_ci
 have Q6:=A6 Mi TK Yv p_ri YH
 have Q7:=tD XJ TK q_fS
 have YI:=Hy XM TK Q7
 have q_am:=A8 XG TH Yz
 have q_kd:=HG XH TL Yz
 have q_sa:=su XN TL q_am
 have q_lo:=Lx XO TL q_sa q_kd
 have q_ev:=zD XQ TK Q6 q_lo
 have q_to:=Bf (P:=l.prog) (w:=w) (base:=base) XR
 have q_mo:=LU XS TM Q7 YI q_to
 have YJ:=ES XT TK YI
 have YK:=HY (P:=l.prog) (w:=w) (base:=base) Q4 TE
 have YL:=EI Q3 TK TE q_mo YJ Q7 YK
 have YM:=Ie XZ TO q_ev YL YJ
 have q_go:=Ua XY TO YM
 have YN:=LA XW TS q_rf
 have YO:=Pp XX TS YN
 have q_si:=HS XU TS YO
 have q_sk:=EB (P:=l.prog) (w:=w) (base:=base) X0 TS
 have TX:PV K mg C HE Sh St X1 X2 X3 X4 X5 X6 X7 X8 X9:=⟨TE,TA,⟨QM,QN,QO,QP⟩,PySem.W.mg_none_of X G xK,PySem.W.mg_of X G aX1,PySem.W.mg_of X G aX2,PySem.W.mg_of X G aX3,PySem.W.mg_of X G aX4,PySem.W.mg_of X G aX5,PySem.W.mg_of X G aX6,PySem.W.mg_of X G aX7,PySem.W.mg_of X G aX8,PySem.W.mg_of X G aX9,gM w1 y1 m1 Mh,gM w2 y2 m2 Mh,gM w3 y3 m3 Mh,gM w4 y4 m4 Mh,gM w5 y5 m5 Mh,gM w6 y6 m6 Mh,gM w7 y7 m7 Mh,gM w8 y8 m8 Mh,gM w9 y9 m9 Mh,KO xM,Gw _⟩
 have q_we:=Iv (P:=l.prog) (w:=w) (base:=base) X' TS
 have YQ:=AZ (P:=l.prog) (w:=w) (base:=base) Ya TA
 have q_mi:=Pw (P:=l.prog) (w:=w) (base:=base) Yb
 have YR:=G7 (P:=l.prog) (w:=w) (base:=base) Yc TA
 have q_ki:=G9 (P:=l.prog) (w:=w) (base:=base) Yd TA
 have q_fg:=AY (P:=l.prog) (w:=w) (base:=base) Ye TA
 have q_lm:=ED Yf TS q_fg
 have q_lw:=Im Yg TS YQ q_mi q_ki q_lm
 have q_lc:=Bk (P:=l.prog) (w:=w) (base:=base) Yh TL
 have q_lt:=IA (P:=l.prog) (w:=w) (base:=base) Yi TA
 have q_lk:=Ik (P:=l.prog) (w:=w) (base:=base) Yj
 have q_lx:=Iq (P:=l.prog) (w:=w) (base:=base) Yk TS
 have q_la:=LX Yl TS YR
 have q_lz:=EN (P:=l.prog) (w:=w) (base:=base) Ym TX xM
 have q_lv:=EW Yn TK q_lk
 have q_lg:=LS Yo TX xM q_go q_lz YR
 have q_ls:=Iy Yp TS YN q_sk q_la q_we
 have TZ:UL K mg C Rd Gr Pc Fo St uK uN uB uE uM uC uP uI uD uL uT:=⟨TS,PySem.W.mg_none_of X G pF⟩
 exact Qb Flaw TZ q_lw q_lx YQ q_lc q_si q_lt YO q_lv q_lg q_ls
theorem walk {l:PySem.W.OpenLaw} {q:Program} {loose:List Str} {XP:(Str→Option Value)→Heap→Prop} {YP:World→Heap→Prop} {d:DefRec} {K:Params→PySem.W.Frag} (hn:l.most=some 63) (Sr:d.params.defaults=[])
  (hY:∀(w:World) (h:Heap),YP w h→(K w.params).In h)
  (F:∀(w:World) (mg:Str→Option Value) (fa:Addr) (h:Heap),(K w.params).In h→h.Ns mainGlobals mg→mg d.name=some (.ref fa)→
   ∃fd:FuncData,(∀(s:Shared) (u:Value),BindsTo s fd ⟨[u],[]⟩ [("_law_script",u)])∧∀base:Heap,(K w.params).In base→base.Ns mainGlobals mg→fu l.prog w (K w.params) mg base qO 20 fa fd ["_law_script"] (C4 (K w.params))):
  PySem.W.WalkO q loose XP YP l.row.toRowW d [] (fun f vs=>PySem.call f vs):=
 L2.Kf (n:=63) (k:=20) (x:="_law_script") (CX:=fun _=>qO) (sp:=fun w=>C4 (K w.params)) hn (by decide) Sr ⟨rfl,by decide,by decide⟩ hY F (fun _ _ a ns hl _ hS=>⟨a,ns,rfl,hS,hl,fun _=>rfl⟩) fun _ _ _ _ _ z=>z
end K51
open PySem PySem.W PyProof.Rows
namespace PySem.W.Fast
def tw6226277400679494588:=0
def tw8737068249402132278:=0
def tw16767038338319568482:=0
def tw10467769176056931465:=0
def tw11050591873346981960:=0
def tw1212951452253920105:=0
def tw13881486173903819497:=0
def tw15647453874355519395:=0
def tw2369393494674754772:=0
def tw14334507073624103327:=0
def tw16693084132823612559:=0
def tw15047037417253385572:=0
def tw8000735062276305091:=0
def tw75455924751323070:=0
def tw15784677433138465909:=0
def tw11573807895462643801:=0
def tw14218304173008446162:=0
def tw6792004702052107924:=0
def tw1738734081389840681:=0
def tw5916493153434502530:=0
def tw15377646078099674295:=0
def tw17167442950181406279:=0
def tw9677899187116803965:=0
def tw17856815496217239272:=0
def tw15782465266229029590:=0
def tw7478283554647130250:=0
def tw6792429564159704921:=0
def tw11885812203631338520:=0
def tw8730981145303984290:=0
def tw9246825054860152102:=0
def tw13768700423142213412:=0
def tw8353664181916032011:=0
def tw11000221140291419023:=0
def tw1644882305019364399:=0
def tw11573998106244248858:=0
def tw7832351490288071526:=0
def tw2158614700500022344:=0
def tw11185851985433179248:=0
def tw13637543456451331317:=0
def tw3014908391997749506:=0
def tw17014591308356589011:=0
def tw3430203743645570963:=0
def tw5155936534676804223:=0
def tw10947289815796066541:=0
def tw1545220226361472398:=0
def tw4791604219268095405:=0
def tw4995454747668645258:=0
def tw18106837505492564437:=0
def tw1029006134668459539:=0
def tw14646919686651286758:=0
def tw4797753781496467635:=0
def tw9305081509628357084:=0
def tw17038817034110129820:=0
def tw2235912755397367446:=0
def tw2763077529768096042:=0
def tw6419090060605620662:=0
def tw3882455119323483595:=0
def tw8861302194043601837:=0
def tw8626717781677876323:=0
def tw5128262278081164502:=0
def tw16854728092571505400:=0
def tw10943879365735646982:=0
def tw9850913648202716161:=0
def tw11097624316424145861:=0
def tw8735813641726101938:=0
def tw15105783842179705953:=0
def tw466879410590144094:=0
def tw388773471479656603:=0
def tw7274478783656151857:=0
def tw16918245767184170485:=0
def tw15091451232072924990:=0
def tw8244284900903467139:=0
def tw3936099495907619505:=0
def tw17771791335183508445:=0
def tw13028917741954065099:=0
def tw6777260263155159806:=0
def tw3029545057339518021:=0
def tw2164594387437435795:=0
def tw2552148424015699786:=0
def tw15828463330970717142:=0
def tw9417790634671503273:=0
def tw14878801748604056589:=0
def tw4333095745616048574:=0
def tw3315610736490059561:=0
def tw17947254269233622296:=0
def tw1873213902179082044:=0
def tw17561079126368455088:=0
def tw17538397702602888530:=0
def tw2458491707265720391:=0
def tw17676694723427423636:=0
def tw10233241364482184522:=0
def tw5666428890561371574:=0
def tw4114583845516606316:=0
def tw5953478735527669516:=0
def tw17664774257839258453:=0
def tw9666709130759342464:=0
def tw13706417716712244004:=0
def tw13724075467106528707:=0
def tw10472648325108104698:=0
def tw4899999607464964722:=0
def tw7488895893472861801:=0
def tw14806203701732334269:=0
def tw2557865913031260632:=0
def tw17229725257955911446:=0
def tw12432445530953216671:=0
def tw160612299044248740:=0
def tw2228147538805628916:=0
def tw13619915522774158210:=0
def tw11723013490107004203:=0
def tw16680508792438556614:=0
def tw11945905505407100911:=0
def tw7056732365779077561:=0
def tw14975505473816843215:=0
def tw3080355698744968297:=0
def tw5406224186418587334:=0
def tw17183482343779660393:=0
def tw14013119268618161647:=0
def tw10634699026047352098:=0
def tw1145775241803736876:=0
def tw6924042735786495535:=0
def tw17974419592175233452:=0
def tw2100218552032265969:=0
def tw12249984388909856308:=0
def tw12217273358274810:=0
def tw15442921625802736217:=0
def tw1575103860622941204:=0
def tw4918121777413068825:=0
def tw9235092938050485866:=0
def tw5774450236956268649:=0
def tw15674361565702843144:=0
def tw17237456118756361251:=0
def tw4063100919832412655:=0
def tw16186280208252306526:=0
def tw13948797511480265855:=0
def tw15665342540524749551:=0
def tw5695429827405229804:=0
def tw10833974516386501195:=0
def tw2254575499155661747:=0
def tw5479536424319748752:=0
def tw10641413819205330216:=0
def tw1001087539188477331:=0
def tw15015273491755077382:=0
def tw4678090059453298974:=0
def tw12927799127011337164:=0
def tw8313528799162332119:=0
def tw14428695224494922090:=0
def tw12626440285584793702:=0
def tw8295539575358227284:=0
def tw14946622548654773678:=0
def tw589507426052003569:=0
def tw10186927017063070209:=0
def tw8768504688463708817:=0
def tw8692667928088178676:=0
def tw16884885703967998729:=0
def tw13402324588376153342:=0
def tw8189078814764234996:=0
def tw5604905447955702071:=0
def tw6639204840476469625:=0
def tw9574454964856579926:=0
def tw15160810002053037203:=0
def tw4557692176435494715:=0
def tw2542976611653645229:=0
def tw8996284979988762890:=0
def tw14857844337023022946:=0
def tw16872382198334610755:=0
def tw16901241247262353871:=0
def tw5551284092858878921:=0
def tw7627833673049964060:=0
def tw3539019999214387604:=0
def tw10947027243108482652:=0
def tw3020415931423410463:=0
def tw4779569381636880331:=0
def tw15147733060646104701:=0
def tw9501811091051064952:=0
def tw11427924211897872192:=0
def tw3063327013008704306:=0
def tw11280619398784913213:=0
def tw10553430593045034062:=0
def tw3605955680432242300:=0
def tw10231824658003689167:=0
def tw7005325817907262050:=0
def tw18065741977043320677:=0
def tw16023943064731209643:=0
def tw5844463404657545615:=0
def tw8818073032147697978:=0
def tw8699866191349812472:=0
def tw13530905221158862846:=0
def tw15800326387800238191:=0
def tw8861811624119375288:=0
def tw4289746625306724582:=0
def tw12752358296170820552:=0
def tw17490978014899538644:=0
def tw4592015031077245470:=0
def tw12335639596641102861:=0
def tw2856396433385911984:=0
def tw9971145064535964998:=0
def tw1790864449878537883:=0
def tw5543198987548258240:=0
def tw7767433712966399822:=0
def tw846714670352862797:=0
def tw6057757167380656019:=0
def tw13070891444313742389:=0
def tw16155322230423657217:=0
def tw11240664662123575202:=0
def tw4478894979502892617:=0
def tw5307448829613248330:=0
def tw868832535595179172:=0
def tw5936553682594723811:=0
def tw1530563506550535076:=0
def tw17370392175409897786:=0
def tw2372342182240645344:=0
def tw14735337554424052154:=0
def tw9253027922776151163:=0
def tw7188074439399684284:=0
def tw12879830004052488807:=0
def tw12752571375008870309:=0
def tw14601433087792451078:=0
def tw15643846211822161668:=0
def tw13343396707358227830:=0
def tw3785345492900913896:=0
def tw15429379368146874619:=0
def tw5998761847416449994:=0
def tw2122683453578150421:=0
def tw7729265187565131638:=0
def tw6329467516520985017:=0
def tw8516120447405450647:=0
def tw5459332171997351536:=0
def tw1962509222122649581:=0
def tw8446518787482782379:=0
def tw15775842080594513694:=0
def tw14808696796401511846:=0
def tw2872509341398302903:=0
def tw7618110983124741521:=0
def tw12709193960301564245:=0
def tw13588709537777112220:=0
def tw5982448923821724465:=0
def tw10837728457713205930:=0
def tw4122134714785264987:=0
def tw9452470192244275930:=0
def tw2348012840828484437:=0
def tw11347068679918451678:=0
def tw5567188231535414849:=0
def tw10077728981406979186:=0
def tw320181378429355181:=0
def tw10871514051684726037:=0
def tw13461005920577156098:=0
def tw5794018479850724136:=0
def tw46446899973545344:=0
def tw14071161854658148802:=0
def tw11895767621718239729:=0
def tw1466648413947952154:=0
def tw4214876777719466232:=0
def tw11297985707841942358:=0
def tw3325875565479074431:=0
def tw12294146188036624308:=0
def tw3861318044790434048:=0
def tw9688698946048323229:=0
def tw10082975617734761587:=0
def tw5265450894994256648:=0
def tw14065545091842169905:=0
def tw9152272975612796050:=0
def tw6033194102727527126:=0
def tw9778486126931089974:=0
def tw10978306299888557911:=0
def tw12774342393453988580:=0
def tw16741036833020165561:=0
def tw11398729735084402891:=0
def tw16293584648432833454:=0
def tw7570955505327103673:=0
def tw1366097523510135806:=0
def tw4656659054058291687:=0
def tw9252964294971338876:=0
def tw17918519899195233435:=0
def tw3412590203379335031:=0
def tw11123503295321367182:=0
def tw17394442781832778008:=0
def tw2455647312252481272:=0
def tw9195654856448787332:=0
def tw11084213944662661841:=0
def tw508676345637460550:=0
def tw1020949953469752583:=0
def tw7279956884535864692:=0
def tw14812410924055453088:=0
def tw4899697701342741433:=0
def tw7921834427055532003:=0
def tw3751279487490480351:=0
def tw8856148739123340506:=0
def tw7135527394766734070:=0
def tw10172512628271110591:=0
def tw5573226035437178881:=0
def tw13896909318838457173:=0
def tw9395639769928545385:=0
def tw11809959217195515427:=0
def tw18427602172568283694:=0
def tw5660381386194752255:=0
def tw5439126735092682342:=0
def tw6924207952551564702:=0
def tw10501857694999240016:=0
def tw8245131653583092212:=0
def tw7900222197768000505:=0
def tw14377458920051121053:=0
def tw2062041676068058875:=0
def tw9068886387890014247:=0
def tw7965507625567154108:=0
def tw18287461192507379392:=0
def tw16319823247681247004:=0
def tw16324700054474057666:=0
def tw2452036322480965538:=0
def tw6921976474666444364:=0
def tw1148489606294564935:=0
def tw2860937891715354133:=0
def tw3675782649217469119:=0
def tw15532968706727428661:=0
def tw5927680402133485810:=0
def tw17910278552490870860:=0
def tw15026072139444360369:=0
def tw18142546740997403070:=0
def tw6320418113368573577:=0
def tw238180323166407922:=0
def tw16641930593434345533:=0
def tw8009365538086611224:=0
def tw10081915396271204520:=0
def tw11287356941209748500:=0
def tw16946185799555838580:=0
def tw8449561616601741561:=0
def tw12228388953517243515:=0
def tw14402347374963627113:=0
def tw13418882446664669711:=0
def tw1496371463911528201:=0
def tw15419428776304403044:=0
def tw17110521817906011756:=0
def tw5984428555516561194:=0
def tw5212652711660109653:=0
def tw13424224065724714490:=0
def tw10832781015763192337:=0
def tw12296029751116660341:=0
def tw14560556956719138908:=0
def tw16923912999110840527:=0
def tw14072739043521672154:=0
def tw16743520655474028200:=0
def tw1905201484481742403:=0
def tw10560891496362078084:=0
def tw17720037199668748426:=0
def tw4018484223564195824:=0
def tw5457148980457936313:=0
def tw9466607312865326752:=0
def tw13670195412101882671:=0
def tw7081323224541884528:=0
def tw17611019629607197794:=0
def tw12800770303873847405:=0
def tw723982084184043161:=0
def tw18236309272686243269:=0
def tw7246806118295554059:=0
def tw16706079936750467393:=0
def tw1973210971625265198:=0
def tw16667164229387940087:=0
def tw6749833186031874255:=0
def tw12010505079933038852:=0
def tw4956055884358935412:=0
def tw13309922419447861243:=0
def tw16371079031972047991:=0
def tw16621890377837541129:=0
def tw6618592303316567882:=0
def tw14117567932888311271:=0
def tw5299638424653607209:=0
def tw3005859657337605354:=0
def tw2089315138140027169:=0
def tw15704608000197638053:=0
def tw9619925679648342033:=0
def tw6791819871688612622:=0
def tw15069107499766788745:=0
def tw3225483445193916044:=0
def tw8987925288207757292:=0
def tw11131348512137649406:=0
def tw6412633794552913891:=0
def tw8684131951534255969:=0
def tw10897734509930959611:=0
def tw6689826751109400102:=0
def tw17997854301627540058:=0
def tw6506011393435045430:=0
def tw12238765568224532048:=0
def tw14805954167369291935:=0
def tw14005818782967778373:=0
def tw4625810643638329811:=0
def tw8764255739413252124:=0
def tw6835908836467632244:=0
def tw2133831359224875922:=0
def tw11885309629057535177:=0
def tw7625055555496155484:=0
def tw11093619366961390812:=0
def tw1920193557026771081:=0
def tw7245248662707605305:=0
def tw16594226445826190547:=0
def tw16580104799566418845:=0
def tw4733488859922237214:=0
def tw12018201369835278476:=0
def tw476032969495773348:=0
def tw17770209776709726767:=0
def tw14816992836252339667:=0
def tw1668659259940400657:=0
def tw657888555684886098:=0
def tw7260307347180938721:=0
def tw16345595428922730626:=0
def tw17892984854876389521:=0
def tw5522313533677880460:=0
end PySem.W.Fast
set_option maxRecDepth 100000 in
set_option maxHeartbeats 0 in
theorem PySem.Challenge.cw_balancehall_k51_turns_walked_holds : PySem.Challenge.rw_balancehall_k51_turns_walked.Holds := by
 w_on;o_law;k_head;(case hw=>w_witness2)
 k_fill
 refine K51.walk (l:=PySem.Challenge.rw_balancehall_k51_turns_walked) rfl rfl (fun w h Y=>PySem.W.kIn_of Y) ?F
 case F=>
  intro w mg fa h KX G Ss
  apply K51.all_mk KX G Ss
  all_goals first|k_is|exact⟨⟨_,⟨⟨_,_,_,_,_,_,_,_,_,rfl,by k_is,by k_is⟩,by k_is⟩⟩,by k_is⟩ |exact⟨_,_,_,_,_,_,_,_,_,_,_,_,_,_,_,_,_,by k_is,by decide+kernel⟩ |exact⟨_,_,_,_,_,_,_,_,_,_,_,_,_,_,by k_is⟩
