import PyProof.Rows.All
import Wide.All
import OpenK.AllK
import Wide.FinOn
import Lean
import PyProof.EqAt
import PyProof.EqKinds
import PyProof.TupleCall
import PySem.Challenge.RW_balancehall_k51_turns_walked
set_option Elab.async false
set_option linter.all false
set_option maxRecDepth 100000
namespace L2
open PySem PySem.Spec PyProof.Rows
abbrev Key:=Sum Int Str
def qh:Key→Value→Bool
 | .inl k,v=>Value.isInt k v
 | .inr x,v=>Value.isStrOf x v
def X' (w:World):Key→Int
 | .inl k=>hashInt k
 | .inr x=>hashStr w x
theorem cp:∀{k:Key} {v:Value},qh k v=true→(∃i t,k=Sum.inl i∧v=Value.int i t)∨(∃x t,k=Sum.inr x∧v=Value.str x t)
 | .inl i,v,h=>by
   obtain⟨t,e⟩:=Value.isInt_shape (k:=i) (v:=v) h
   exact .inl ⟨i,t,rfl,e⟩
 | .inr x,v,h=>by
   obtain⟨t,e⟩:=Value.isStrOf_shape (x:=x) (v:=v) h
   exact .inr ⟨x,t,rfl,e⟩
theorem CI (i:Int) (t:Tok):qh (.inl i) (.int i t)=true:=by simp [qh,Value.isInt]
theorem CJ (x:Str) (t:Tok):qh (.inr x) (.str x t)=true:=by simp [qh,Value.isStrOf]
theorem Mh (a b:Int):decide ((Sum.inl a:Key)=Sum.inl b)=(a==b):=by
 by_cases e:a=b
 ·subst e;simp
 ·have h:¬(Sum.inl a:Key)=Sum.inl b:=fun q=>e (Sum.inl.inj q)
  rw[decide_eq_false h]
  exact(beq_eq_false_iff_ne.mpr e).symm
theorem Mi (a b:Str):decide ((Sum.inr a:Key)=Sum.inr b)=decide (a=b):=by
 by_cases e:a=b
 ·subst e;simp
 ·have h:¬(Sum.inr a:Key)=Sum.inr b:=fun q=>e (Sum.inr.inj q)
  rw[decide_eq_false h,decide_eq_false e]
theorem Mj (a:Int) (b:Str):decide ((Sum.inl a:Key)=Sum.inr b)=false:=decide_eq_false (fun q=>nomatch q)
theorem Ml (a:Str) (b:Int):decide ((Sum.inr a:Key)=Sum.inl b)=false:=decide_eq_false (fun q=>nomatch q)
def bE (prog:Program) (w:World):PySem.KeyKind prog w Key where
 is:=qh
 hash:=X' w
 inj:=fun v a b ha hb=>by
  rcases cp ha with ⟨i,t,rfl,rfl⟩ | ⟨x,t,rfl,rfl⟩
  ·rcases cp hb with ⟨j,u,rfl,e⟩ | ⟨y,u,rfl,e⟩
   ·injection e with e1 _;rw[e1]
   ·exact nomatch e
  ·rcases cp hb with ⟨j,u,rfl,e⟩ | ⟨y,u,rfl,e⟩
   ·exact nomatch e
   ·injection e with e1 _;rw[e1]
 byValue:=fun k v h=>by
  rcases cp h with ⟨i,t,rfl,rfl⟩ | ⟨x,t,rfl,rfl⟩<;>rfl
 pyHash:=fun hv h=>by
  rcases cp hv with ⟨i,t,rfl,rfl⟩ | ⟨x,t,rfl,rfl⟩
  ·exact wpAny_pyHash_int h
  ·exact wpAny_pyHash_str h
 eqBool:=fun hu hv h=>by
  rcases cp hu with ⟨i,t,rfl,rfl⟩ | ⟨x,t,rfl,rfl⟩
  ·rcases cp hv with ⟨j,u,rfl,rfl⟩ | ⟨y,u,rfl,rfl⟩
   ·rw[Mh] at h;exact wpAny_eqBool_int h
   ·rw[Mj] at h;exact SeqAt.EqAt.int_str i t y u _ _ _ _ h
  ·rcases cp hv with ⟨j,u,rfl,rfl⟩ | ⟨y,u,rfl,rfl⟩
   ·rw[Ml] at h;exact SeqAt.EqAt.str_int x t j u _ _ _ _ h
   ·rw[Mi] at h;exact wpAny_eqBool_str h
 «strs» :=fun k x t v h=>by
  rcases cp h with ⟨i,u,rfl,e⟩ | ⟨y,u,rfl,e⟩
  ·exact nomatch e
  ·injection e with e1 _
   subst e1
   cases v<;>rfl
theorem qi (prog:Program) (w:World) (k:Key) (v:Value):(bE prog w).is k v=qh k v:=rfl
theorem xA (prog:Program) (w:World) (i:Int) (t:Tok):(bE prog w).is (.inl i) (.int i t)=true:=CI i t
theorem xB (prog:Program) (w:World) (x:Str) (t:Tok):(bE prog w).is (.inr x) (.str x t)=true:=CJ x t
end L2
namespace L2
open PySem PySem.Spec PyProof.Rows
inductive V where
 |cU|bl (b:Bool) |int (i:Int) |str (x:Str) |zB (b:Array UInt8) |KY (b:UInt64) |ref (a:Addr) |ty (n:String)
 deriving DecidableEq
def RelV:V→Value→Prop
 | .cU,u=>u=Value.none
 | .bl b,u=>u=Value.bool b
 | .int i,u=>∃t,u=Value.int i t
 | .str x,u=>∃t,u=Value.str x t
 | .zB b,u=>∃t,u=Value.bytes b t
 | .KY b,u=>∃t,u=Value.float b t
 | .ref a,u=>u=Value.ref a
 | .ty n,u=>u=Value.type n
abbrev Vals:List V→List Value→Prop:=Paired RelV
theorem Vals.length {xs:List V} {us:List Value} (r:Vals xs us):xs.length=us.length:=Paired.length r
theorem Vals.get:∀{xs:List V} {us:List Value} {i:Nat} {x:V},Vals xs us→xs[i]? =some x→∃u,us[i]? =some u∧RelV x u
 |_,_,_,_, .nil,e=>by simp at e
 |_,_,0,_, .cons r _,e=>by simp at e;subst e;exact⟨_,rfl,r⟩
 |_,_,i+1,x, .cons _ t,e=>by
  obtain⟨u,h1,h2⟩:=Vals.get (i:=i) (x:=x) t (by simpa using e)
  exact⟨u,by simpa using h1,h2⟩
theorem Vals.append:∀{xs ys:List V} {us ws:List Value},Vals xs us→Vals ys ws→Vals (xs++ys) (us++ws)
 |_,_,_,_, .nil,s=>s
 |_,_,_,_, .cons r t,s=> .cons r (Vals.append t s)
def ij:Option V→Option Value→Prop
 |some v,some u=>RelV v u
 |none,none=>True
 |_,_=>False
def KV {κ:Type}:List (κ×V)→List (κ×Value)→Prop:=Paired fun (p:κ×V) (q:κ×Value)=>p.1=q.1∧RelV p.2 q.2
def kV:Key→V
 | .inl i=> .int i
 | .inr x=> .str x
inductive HO where
 |lst (xs:List V)
 |tup (xs:List V)
 |dK (kvs:List (Key×V)) |dT (kvs:List (List Key×V))
 |set (S:Int→Bool) (n:Nat)
 |ins (C dx:Addr) (fs:List (Str×V))
 |own (x:Addr)
 |xd (fs:List (Str×V))
 |met (f x:Addr)
 |Ya (lo hi:Int)
 |fH (o:Obj) (u:HO)
 |KZ (ps:Array Value)
 |ext (φ:Heap→Prop)
abbrev Hp:=Addr→Option HO
def upd (H:Hp) (a:Addr) (o:HO):Hp:=fun b=>if b=a then some o else H b
theorem af {H:Hp} {a:Addr} {o:HO}:upd H a o a=some o:=by unfold upd;rw[if_pos rfl]
theorem ah {H:Hp} {a b:Addr} {o:HO} (h:b≠a):upd H a o b=H b:=by unfold upd;rw[if_neg h]
theorem kD {H:Hp} {a:Addr} {o u:HO}:upd (upd H a o) a u=upd H a u:=by
 funext b;unfold upd;split<;>rfl
theorem cI {H:Hp} {a b:Addr} {o u:HO} (h:H a=some o) (h':H b=some u) (d:o≠u):a≠b:=by
 intro e;subst e;rw[h] at h';exact d (Option.some.inj h')
theorem ag {H:Hp} {a b:Addr} {o:HO} (h:H a=some o) (h':H b=none):a≠b:=by
 intro e;subst e;rw[h] at h';cases h'
section
variable (P:Program) (w:World)
def cq (H:Hp) (h:Heap) (a:Addr):HO→Prop
 | .lst xs=>xs.length≤sizeLine∧∃(its:List Value) (n:Nat),Vals xs its∧h.get? a=some { cls:= .type "list",data:= .seq its.toArray n }
 | .tup xs=>xs.length≤sizeLine∧∃its:List Value,Vals xs its∧IsTup h a its.toArray
 | .dK kvs=>kvs.length≤sizeLine∧(a==sysModules)=false∧∃vs,KV kvs vs∧h.DictOf (bE P w) a vs
 | .dT kvs=>kvs.length≤sizeLine∧(a==sysModules)=false∧∃xs:List (List Key×Addr×Value),
   Paired (fun (p:List Key×V) (q:List Key×Addr×Value)=>p.1=q.1∧H q.2.1=some (.tup (p.1.map kV))∧RelV p.2 q.2.2) kvs xs∧
   ∃o es ep,h.get? a=some o∧o.ExactDict∧o.data= .dict es ep∧es.toList=xs.map (entryOfKey (tupleKind (bE P w)))∧(xs.map (·.1)).Nodup
 | .set S n=>h.SetOf (intKind P w) a S n
 | .ins C dx fs=>H dx=some (.own a)∧fs.length≤1000∧dx≠a∧h.get? a=some (PySem.W.instObj C dx)∧
   ∃mA,h.Ns1 dx mA∧(∀f,ij (fs.lookup f) (mA f))∧PySem.Within mA (fs.map (·.1))
 | .own _=>∃o,h.get? a=some o
 | .xd fs=>∃mA,h.Ns1 a mA∧∀f,ij (fs.lookup f) (mA f)
 | .Ya lo hi=>∃t u v,h.get? a=some { cls:= .type "range",data:= .fields #[.int lo t, .int hi u, .int 1 v] }
 | .fH o u=>h.get? a=some o∧cq H h a u
 | .KZ ps=>h.get? a=some { cls:= .none,data:= .fields ps }
 | .met f x=>h.get? a=some (PySem.W.methodObj (.ref f) (.ref x))
 | .ext φ=>φ h∧(∃o,h.get? a=some o)∧∀h1 h2:Heap,φ h1→(∀o,h1.get? a=some o→h2.get? a=some o)→φ h2
def jX (H:Hp) (h:Heap):Prop:=∀a o,H a=some o→cq P w H h a o
end
section
variable {P:Program} {w:World} {H H':Hp} {h h':Heap} {a:Addr} {o:HO}
theorem cq.lt (x:cq P w H h a o):a<h.objs.size:=by
 cases o with
 |lst xs=>obtain⟨_,_,_,_,e⟩:=x;exact Heap.lt_size e
 |tup xs=>obtain⟨_,_,_,p⟩:=x;exact p.lt
 |dK kvs=>obtain⟨_,_,_,_,o,_,_,e,_⟩:=x;exact Heap.lt_size e
 |dT kvs=>obtain⟨_,_,_,_,o,_,_,e,_⟩:=x;exact Heap.lt_size e
 |set S n=>obtain⟨o,_,_,_,e,_⟩:=x;exact Heap.lt_size e
 |ins C dx fs=>obtain⟨_,_,_,e,_⟩:=x;exact Heap.lt_size e
 |own y=>obtain⟨_,e⟩:=x;exact Heap.lt_size e
 |xd fs=>obtain⟨_,⟨_,_,_,e,_⟩,_⟩:=x;exact Heap.lt_size e
 |Ya lo hi=>obtain⟨_,_,_,e⟩:=x;exact Heap.lt_size e
 |fH ob u=>obtain⟨e,_⟩:=x;exact Heap.lt_size e
 |KZ ps=>exact Heap.lt_size (show h.get? a=some _ from x)
 |met f y=>exact Heap.lt_size (show h.get? a=some _ from x)
 |ext φ=>obtain⟨_,⟨_,e⟩,_⟩:=x;exact Heap.lt_size e
theorem Paired.Mm {α β:Type} {F G:α→β→Prop}:∀{l₁:List α} {l₂:List β},Paired F l₁ l₂→(∀a b,F a b→G a b)→Paired G l₁ l₂
 |_,_, .nil,_=> .nil
 |_,_, .cons r t,f=> .cons (f _ _ r) (Paired.Mm t f)
theorem cq.qj (x:cq P w H h a o) (k:∀b u,(b=a∨H b=some (.own a))→h.get? b=some u→h'.get? b=some u)
  (ho:∀b,H b=some (.own a)→H' b=some (.own a)) (ht:∀b xs,H b=some (.tup xs)→H' b=some (.tup xs)):cq P w H' h' a o:=by
 induction o with
 |lst xs=>obtain⟨z,its,n,r,e⟩:=x;exact⟨z,its,n,r,k _ _ (.inl rfl) e⟩
 |tup xs=>obtain⟨z,its,r,ob,e,c⟩:=x;exact⟨z,its,r,ob,k _ _ (.inl rfl) e,c⟩
 |dK kvs=>obtain⟨z,y,vs,r,ob,es,ep,e,c⟩:=x;exact⟨z,y,vs,r,ob,es,ep,k _ _ (.inl rfl) e,c⟩
 |dT kvs=>
  obtain⟨z,y,xs,r,ob,es,ep,e,c⟩:=x
  exact⟨z,y,xs,Paired.Mm r fun p q z=>⟨z.1,ht _ _ z.2.1,z.2.2⟩,ob,es,ep,k _ _ (.inl rfl) e,c⟩
 |set S n=>obtain⟨ob,es,ep,t,e,c⟩:=x;exact⟨ob,es,ep,t,k _ _ (.inl rfl) e,c⟩
 |ins C dx fs=>
  obtain⟨d,z,ne,e,mA,⟨od,es,ep,e2,c⟩,r⟩:=x
  exact⟨ho _ d,z,ne,k _ _ (.inl rfl) e,mA,⟨od,es,ep,k _ _ (.inr d) e2,c⟩,r⟩
 |own y=>obtain⟨ob,e⟩:=x;exact⟨ob,k _ _ (.inl rfl) e⟩
 |xd fs=>obtain⟨mA,⟨od,es,ep,e,c⟩,r⟩:=x;exact⟨mA,⟨od,es,ep,k _ _ (.inl rfl) e,c⟩,r⟩
 |Ya lo hi=>obtain⟨t,u,v,e⟩:=x;exact⟨t,u,v,k _ _ (.inl rfl) e⟩
 |fH ob u ih=>obtain⟨e,q⟩:=x;exact⟨k _ _ (.inl rfl) e,ih q⟩
 |KZ ps=>
  have e:h.get? a=some { cls:= .none,data:= .fields ps }:=x
  show h'.get? a=some { cls:= .none,data:= .fields ps }
  exact k a _ (.inl rfl) e
 |met f y=>
  have e:h.get? a=some (PySem.W.methodObj (.ref f) (.ref y)):=x
  show h'.get? a=some (PySem.W.methodObj (.ref f) (.ref y))
  exact k a _ (.inl rfl) e
 |ext φ=>obtain⟨p,⟨o,e⟩,st⟩:=x;exact⟨st _ _ p fun o q=>k _ _ (.inl rfl) q,⟨o,k _ _ (.inl rfl) e⟩,st⟩
theorem jX.lt (x:jX P w H h) (e:H a=some o):a<h.objs.size:=(x a o e).lt
theorem jX.fresh (x:jX P w H h) (e:h.objs.size≤a):H a=none:=by
 cases q:H a with
 |none=>rfl
 |some u=>exact absurd (Nat.lt_of_lt_of_le (x.lt q) e) (Nat.lt_irrefl _)
theorem jX.kept (x:jX P w H h) (k:∀b u,h.get? b=some u→h'.get? b=some u):jX P w H h':=fun a o e=>
 (x a o e).qj (fun b u _ q=>k b u q) (fun _ q=>q) fun _ _ q=>q
theorem jX.laid (x:jX P w H h) (k:∀b u,h.get? b=some u→h'.get? b=some u) (hp:h.objs.size≤a) (new:cq P w (upd H a o) h' a o):jX P w (upd H a o) h':=fun b u e=>by
 have hn:=x.fresh hp
 by_cases hb:b=a
 ·subst hb;rw[af] at e;cases e;exact new
 ·rw[ah hb] at e
  exact(x b u e).qj (fun c v _ q=>k c v q) (fun c q=>by rw[ah (ag q hn)];exact q) fun c xs q=>by rw[ah (ag q hn)];exact q
end
def Rd (H:Hp) (a:Addr) (u:HO):Prop:=H a=some u∨∃o,H a=some (.fH o u)
theorem Rd.ok {P:Program} {w:World} {H:Hp} {h:Heap} {a:Addr} {u:HO} (r:Rd H a u) (x:jX P w H h):cq P w H h a u:=by
 rcases r with r| ⟨o,r⟩
 ·exact x a u r
 ·obtain⟨_,q⟩:=x a _ r
  exact q
def P7:Option HO→Prop
 |some (.lst _)=>True
 |some (.dK _)=>True
 |some (.dT _)=>True
 |some (.set _ _)=>True
 |some (.ins _ _ _)=>True
 |some (.ext _)=>True
 |_=>False
section
variable {P:Program} {w:World} {H:Hp} {h h':Heap} {x e:Addr} {o':HO}
theorem jX.write (ok:jX P w H h) (mu:P7 (H x)) (he:e=x∨H e=some (.own x)) (k:∀b u,b≠e→h.get? b=some u→h'.get? b=some u) (Pr:∃u,h'.get? e=some u)
  (new:cq P w (upd H x o') h' x o'):jX P w (upd H x o') h':=fun b u q=>by
 have P8:∀c y,H c=some (.own y)→c≠x:=fun c y r z=>by subst z;rw[r] at mu;exact mu
 have Yb:∀c xs,H c=some (.tup xs)→c≠x:=fun c xs r z=>by subst z;rw[r] at mu;exact mu
 by_cases hb:b=x
 ·subst hb;rw[af] at q;cases q;exact new
 ·rw[ah hb] at q
  by_cases Mn:b=e
  ·have q':H b=some (.own x):=by
    rcases he with z|z
    ·exact absurd (Mn.trans z) hb
    ·rw[Mn];exact z
   rw[q] at q';cases q'
   obtain⟨v,hv⟩:=Pr
   exact⟨v,by rw[Mn];exact hv⟩
  ·refine(ok b u q).qj (fun c v hc r=>k c v ?_ r) (fun c r=>by rw[ah (P8 c b r)];exact r) fun c xs r=>by rw[ah (Yb c xs r)];exact r
   rcases hc with rfl|hc
   ·exact Mn
   ·rintro rfl
    rcases he with z|z
    ·exact P8 c b hc z
    ·rw[hc] at z;cases z;exact hb rfl
end
structure Un (fs ex:List Addr) (H H':Hp) (h h':Heap):Prop where
 keep:∀b o,h.get? b=some o→H b=none→b∉fs→b∉ex→h'.get? b=some o
 slot:∀b o,h.get? b=some o→H b=none→b∈fs→b∉ex→∃sl,h'.get? b=some { o with slots:=sl }
 free:∀b o,h.get? b=some o→H b=none→b∉ex→H' b=none
 there:∀b o,h.get? b=some o→b∉ex→∃o',h'.get? b=some o'
 nN:∀b xs,H b=some (.tup xs)→H' b=some (.tup xs)
 nO:∀b o u,H b=some (.fH o u)→H' b=some (.fH o u)
 nP:∀b ps,H b=some (.KZ ps)→∃more,H' b=some (.KZ (ps++more))
section
variable {fs Iq ex P9:List Addr} {H H1 H2:Hp} {h h1 h2 h':Heap} {a x e:Addr} {o:HO}
theorem Un.any (u:Un fs ex H H1 h h1) {b:Addr} {ob:Obj} (q:h.get? b=some ob) (n:H b=none) (hx:b∉ex):∃sl,h1.get? b=some { ob with slots:=sl }:=by
 by_cases hb:b∈fs
 ·exact u.slot b ob q n hb hx
 ·exact⟨ob.slots,u.keep b ob q n hb hx⟩
theorem Un.kept (k:∀b u,h.get? b=some u→h'.get? b=some u):Un fs ex H H h h':=
 ⟨fun b ob q _ _ _=>k b ob q,fun b ob q _ _ _=>⟨ob.slots,k b ob q⟩,fun _ _ _ n _=>n,fun b ob q _=>⟨ob,k b ob q⟩,fun _ _ q=>q,fun _ _ _ q=>q,fun _ ps q=>⟨#[],by rw[q];simp⟩⟩
theorem Un.refl:Un fs ex H H h h:=Un.kept fun _ _ q=>q
theorem Un.laid (k:∀b u,h.get? b=some u→h'.get? b=some u) (hp:h.objs.size≤a) (hn:H a=none):Un fs ex H (upd H a o) h h' where
 keep:=fun b u q _ _ _=>k b u q
 slot:=fun b u q _ _ _=>⟨u.slots,k b u q⟩
 free:=fun b u q n _=>by rw[ah (Nat.ne_of_lt (Nat.lt_of_lt_of_le (Heap.lt_size q) hp))];exact n
 there:=fun b u q _=>⟨u,k b u q⟩
 nN:=fun b xs q=>by rw[ah (ag q hn)];exact q
 nO:=fun b u xs q=>by rw[ah (ag q hn)];exact q
 nP:=fun b ps q=>⟨#[],by rw[ah (ag q hn),q];simp⟩
theorem Un.write (mu:P7 (H x)) (he:e=x∨H e=some (.own x)) (k:∀b u,b≠e→h.get? b=some u→h'.get? b=some u) (Pr:∃u,h'.get? e=some u):Un fs ex H (upd H x o) h h':=by
 have hx:∀b,H b=none→b≠x:=fun b n z=>by subst z;rw[n] at mu;exact mu
 have hb:∀b,H b=none→b≠e:=fun b n z=>by
  subst z
  rcases he with r|r
  ·exact hx b n r
  ·rw[n] at r;cases r
 have hm:∀b u,H b=some u→¬P7 (some u)→b≠x:=fun b u q nm z=>by subst z;rw[q] at mu;exact nm mu
 refine⟨fun b u q n _ _=>k b u (hb b n) q,fun b u q n _ _=>⟨u.slots,k b u (hb b n) q⟩,fun b u q n _=>by rw[ah (hx b n)];exact n,fun b u q _=>?_,
  fun b xs q=>by rw[ah (hm b _ q fun z=>z)];exact q,fun b u xs q=>by rw[ah (hm b _ q fun z=>z)];exact q,fun b ps q=>⟨#[],by rw[ah (hm b _ q fun z=>z),q];simp⟩⟩
 by_cases Mn:b=e
 ·subst Mn;exact Pr
 ·exact⟨u,k b u Mn q⟩
end
def W9 (h:Heap) (H:Hp):List Addr:=(List.range h.objs.size).filter fun a=>(H a).isSome
def uZ (h:Heap) (H:Hp):Heap:=PySem.W.hideAll h (W9 h H)
theorem CK (h:Heap) (H:Hp):(uZ h H).objs.size=h.objs.size:=PySem.W.hideAll_size _ _
theorem Ey {h:Heap} {H:Hp} {b:Addr} {o:Obj} (e:h.get? b=some o) (n:H b=none):(uZ h H).get? b=some o:=
 PySem.W.hideAll_get _ e fun hm=>by
  have q:(H b).isSome=true:=(List.mem_filter.mp hm).2
  rw[n] at q;simp at q
theorem Ir {h:Heap} {H:Hp} {b:Addr} {o:Obj} (e:(uZ h H).get? b=some o):h.get? b=some o∧H b=none:=by
 have e':h.get? b=some o:=PySem.W.of_hideAll (W9 h H) e
 refine⟨e',?_⟩
 cases q:H b with
 |none=>rfl
 |some x=>
  have hm:b∈W9 h H:=List.mem_filter.mpr ⟨List.mem_range.mpr (Heap.lt_size e'),by simp [q]⟩
  have z:(uZ h H).get? b=none:=PySem.W.hideAll_none (W9 h H) hm
  rw[z] at e;cases e
def Iu (g h:Heap) (L:Addr):List (Addr×Obj):=(List.range h.objs.size).filterMap fun a=>if a=L∨(g.get? a).isSome=true then none else (h.get? a).map fun o=>(a,o)
def rest (g h:Heap) (L d:Addr):List (Addr×Obj):=(Iu g h L).filter fun p=>decide (p.1≠d)
end L2
namespace L2
open PySem PySem.Spec PyProof.Rows
structure Mod (K:PySem.W.Frag) (mg:Str→Option Value) (base:Heap):Prop where
 gk:K.In base
 glob:base.Ns mainGlobals mg
 blt:∃mb,base.Ns builtinsNs mb∧∀x:Str,x≠"__name__" →mb x=bootBuiltins x
 nolimit:base.NoLimit
structure Cx where
 prog:Program
 w:World
 K:PySem.W.Frag
 mg:Str→Option Value
 base:Heap
 A:Around
 N:List Str
 s₀:Shared
 H₀:Hp
 env:Env
 outer:List Env
 stack:List Env
 ex:List Addr
 fn:Str→Bool
 calm:Bool
 pn:List (Addr×Obj)
 xe:Value→Shared→Prop
def xr (l:List Env):List Addr:=l.filterMap (·.frame)
abbrev Cx.fs (X:Cx):List Addr:=xr X.outer
def Yc (sc:Scope) (x:Str):Prop:=sc.names.lookup x=some .local∨sc.names.lookup x=some .cell∨sc.names.lookup x=some .free
def Loc (sc:Scope) (x:Str):Prop:=sc.names.lookup x=some .local∨sc.names.lookup x=some .cell
def Look (env:Env) (h:Heap) (m:Str→Option Value) (x:Str) (u:Value):Prop:=
 (env.kindOf x=some .local∧m x=some u)∨((env.kindOf x=some .cell∨env.kindOf x=some .free)∧∃c,env.cells.lookup x=some c∧h.IsCell c (some u))
structure Cx.Ok (X:Cx):Prop where
 mod:Mod X.K X.mg X.base
 kind:X.env.scope.kind= .function
 glob:X.env.globals=mainGlobals
 blt:X.env.builtins=builtinsNs
 above:X.s₀.heap.objs.size≤X.env.locals
 inj:∀x y c,X.env.cells.lookup x=some c→X.env.cells.lookup y=some c→x=y
 has:∀x,(X.env.kindOf x=some .cell∨X.env.kindOf x=some .free)→∃c,X.env.cells.lookup x=some c
 Iv:∀x c,X.fn x=true→X.env.cells.lookup x=some c→X.s₀.heap.objs.size≤c
 hd:X.calm=true→X.A.handled=none
 frames:X.A.frames=some X.stack
 K0:X.stack=X.outer∨(X.stack=X.env::X.outer∧X.env.frame=some X.env.locals)
 Pt:∀b∈X.ex,b≠X.env.locals∧∀x c,X.env.cells.lookup x=some c→c≠b
 bs:∀b o,X.base.get? b=some o→X.s₀.heap.get? b=some o∧X.H₀ b=none
 CL:X.base.objs.size≤X.s₀.heap.objs.size
 u0:∀b o,X.base.get? b=some o→b∉X.ex
 u3:∀b∈X.ex,b∉X.fs
 lz:X.s₀.heap.FunFrames X.base X.outer
 Ez:∀b∈X.fs,X.H₀ b=none
structure Inv (X:Cx) (pins:List (Addr×Obj)) (σ:List (Option V)) (H:Hp) (s:Shared):Prop where
 ok:X.Ok
 os:s.os=X.s₀.os
 bare:AllBare s.gens
 base:Un X.fs X.ex X.H₀ H X.s₀.heap s.heap
 loc:∃m,s.heap.Ns X.env.locals m∧∀(i:Nat) (x:Str) (v:V),X.N[i]? =some x→σ[i]? =some (some v)→Yc X.env.scope x→∃u,RelV v u∧Look X.env s.heap m x u
 cell:∀x c,X.env.cells.lookup x=some c→∃v,s.heap.IsCell c v
 free:H X.env.locals=none
 gw:∀x c,X.env.cells.lookup x=some c→H c=none
 pin:∀p∈X.pn++pins,s.heap.get? p.1=some p.2∧H p.1=none∧p.1≠X.env.locals∧p.1∉X.fs∧∀v,p.2.data≠ .cell v
 aS:jX X.prog X.w H s.heap
 len:σ.length=X.N.length
section
variable {X:Cx} {pins:List (Addr×Obj)} {σ:List (Option V)} {H H':Hp} {s:Shared} {h':Heap}
theorem Cx.Ok.Yd (ok:X.Ok) {b:Addr} {o:Obj} (e:X.base.get? b=some o):b∉X.fs:=fun hb=>by
 have:=(ok.lz.mem hb).1
 rw[e] at this;cases this
theorem Inv.bs (I:Inv X pins σ H s):∀b o,X.base.get? b=some o→s.heap.get? b=some o∧H b=none:=fun b o e=>
 ⟨I.base.keep b o (I.ok.bs b o e).1 (I.ok.bs b o e).2 (I.ok.Yd e) (I.ok.u0 b o e),I.base.free b o (I.ok.bs b o e).1 (I.ok.bs b o e).2 (I.ok.u0 b o e)⟩
theorem Inv.bk (I:Inv X pins σ H s):∀b o,X.base.get? b=some o→s.heap.get? b=some o:=fun b o e=>(I.bs b o e).1
theorem Inv.mod (I:Inv X pins σ H s):Mod X.K X.mg X.base:=I.ok.mod
theorem Inv.jl (I:Inv X pins σ H s):X.K.In s.heap:=I.ok.mod.gk.keeps I.bk
theorem Inv.lt (I:Inv X pins σ H s):X.env.locals<s.heap.objs.size:=let ⟨_,hn,_⟩:=I.loc;hn.lt
theorem Inv.sz (I:Inv X pins σ H s):X.s₀.heap.objs.size≤s.heap.objs.size:=Nat.le_trans I.ok.above (Nat.le_of_lt I.lt)
theorem Inv.Ye (I:Inv X pins σ H s) {a:Addr} (h:s.heap.objs.size≤a):a∉X.fs:=fun hb=>by
 obtain⟨_,o,ho,_⟩:=I.ok.lz.mem hb
 exact absurd (Nat.lt_of_lt_of_le (Heap.lt_size ho) (Nat.le_trans I.sz h)) (Nat.lt_irrefl _)
theorem Inv.Iw (I:Inv X pins σ H s):∀x c,X.env.cells.lookup x=some c→c≠X.env.locals:=fun x c e z=>by
 obtain⟨v,o,ho,hd⟩:=I.cell x c e
 obtain⟨m,⟨o',es,ep,xt,fK,_⟩,_⟩:=I.loc
 rw[z,xt] at ho;cases ho;rw[fK] at hd;cases hd
theorem Inv.lz (I:Inv X pins σ H s):s.heap.FunFrames X.base X.outer:=by
 have all:∀(l:List Env),(∀b∈xr l,b∈X.fs)→X.s₀.heap.FunFrames X.base l→s.heap.FunFrames X.base l:=by
  intro l
  induction l with
  |nil=>intro _ _;trivial
  |cons env r ih=>
   intro hs hl
   obtain⟨hk,⟨L,o,hf,hn,ho,hd⟩,hr⟩:=hl
   have hL:L∈X.fs:=hs L (by unfold xr;rw[List.filterMap_cons,hf];exact List.mem_cons_self)
   obtain⟨sl,e⟩:=I.base.slot L o ho (I.ok.Ez L hL) hL fun z=>I.ok.u3 L z hL
   exact⟨hk,⟨L,_,hf,hn,e,hd⟩,ih (fun b hb=>hs b (by unfold xr;rw[List.filterMap_cons,hf];exact List.mem_cons_of_mem _ hb)) hr⟩
 exact all X.outer (fun _ hb=>hb) I.ok.lz
theorem Inv.stack (I:Inv X pins σ H s):s.heap.FunFrames X.base X.stack:=by
 rcases I.ok.K0 with e| ⟨e,hf⟩
 ·rw[e];exact I.lz
 ·rw[e]
  obtain⟨m,hn,_⟩:=I.loc
  refine .cons (by rw[I.ok.kind];decide) hf hn ?_ I.lz
  exact Heap.get?_none_of_le (Nat.le_trans I.ok.CL I.ok.above)
theorem Inv.u4 (I:Inv X pins σ H s):∀b∈xr X.stack,b∈X.env.locals::X.fs:=fun b hb=>by
 rcases I.ok.K0 with e| ⟨e,hf⟩
 ·rw[e] at hb;exact List.mem_cons_of_mem _ hb
 ·rw[e] at hb
  unfold xr at hb
  rw[List.filterMap_cons,hf] at hb
  exact hb
theorem Inv.u5 (I:Inv X pins σ H s):∀b∈xr X.stack,H b=none:=fun b hb=>by
 rcases List.mem_cons.mp (I.u4 b hb) with e|hb
 ·rw[e];exact I.free
 ·obtain⟨_,o,ho,_⟩:=I.ok.lz.mem hb
  exact I.base.free b o ho (I.ok.Ez b hb) fun z=>I.ok.u3 b z hb
theorem Inv.step {g':Array GenState} {t':Nat} {d':Drawn} {ch:List Addr} (I:Inv X pins σ H s)
  (Eh:∀b∈ch,(b∈X.ex∨X.s₀.heap.objs.size≤b)∧b≠X.env.locals∧(∀x c,X.env.cells.lookup x=some c→c≠b)∧∀p∈X.pn++pins,p.1≠b)
  (keep:∀b o,b≠X.env.locals→b∉X.fs→b∉ch→s.heap.get? b=some o→H b=none→h'.get? b=some o)
  (slot:∀b o,b≠X.env.locals→b∈X.fs→b∉ch→s.heap.get? b=some o→H b=none→∃sl,h'.get? b=some { o with slots:=sl }) (free:∀b o,b∉ch→s.heap.get? b=some o→H b=none→H' b=none)
  (there:∀b o,b∉ch→s.heap.get? b=some o→∃o',h'.get? b=some o')
  (nN:∀b xs,H b=some (.tup xs)→H' b=some (.tup xs)) (nO:∀b o u,H b=some (.fH o u)→H' b=some (.fH o u)) (nP:∀b ps,H b=some (.KZ ps)→∃more,H' b=some (.KZ (ps++more)))
  (ns:∀m,s.heap.Ns X.env.locals m→h'.Ns X.env.locals m) (aS:jX X.prog X.w H' h') (hg:AllBare g'):
  Inv X pins σ H' { s with heap:=h',gens:=g',drawn:=d',toks:=t' }:=by
 have P':∀b o,X.s₀.heap.get? b=some o→b≠X.env.locals:=fun b o e=>Nat.ne_of_lt (Nat.lt_of_lt_of_le (Heap.lt_size e) I.ok.above)
 have W':∀b o,X.s₀.heap.get? b=some o→b∉X.ex→b∉ch:=fun b o e hx hb=>by
  rcases (Eh b hb).1 with z|z
  ·exact hx z
  ·exact absurd (Nat.lt_of_lt_of_le (Heap.lt_size e) z) (Nat.lt_irrefl _)
 have cellK:∀x c,X.env.cells.lookup x=some c→∀v,s.heap.IsCell c v→h'.IsCell c v:=fun x c e v ⟨o,ho,hd⟩=>by
  have EA:c∉ch:=fun z=>(Eh c z).2.2.1 x c e rfl
  by_cases hc:c∈X.fs
  ·obtain⟨sl,q⟩:=slot c o (I.Iw x c e) hc EA ho (I.gw x c e)
   exact⟨_,q,hd⟩
  ·exact⟨o,keep c o (I.Iw x c e) hc EA ho (I.gw x c e),hd⟩
 refine⟨I.ok,I.os,hg,⟨fun b o e n hb hx=>?_,fun b o e n hb hx=>?_,fun b o e n hx=>?_,fun b o e hx=>?_,fun b xs e=>nN b xs (I.base.nN b xs e),fun b o xs e=>nO b o xs (I.base.nO b o xs e),fun b ps e=>?_⟩,?_,fun x c e=>?_,?_,fun x c e=>?_,fun p hp=>?_,aS,I.len⟩
 ·exact keep b o (P' b o e) hb (W' b o e hx) (I.base.keep b o e n hb hx) (I.base.free b o e n hx)
 ·obtain⟨sl,e1⟩:=I.base.slot b o e n hb hx
  obtain⟨Mo,e2⟩:=slot b _ (P' b o e) hb (W' b o e hx) e1 (I.base.free b o e n hx)
  exact⟨Mo,e2⟩
 ·obtain⟨o',e1⟩:=I.base.there b o e hx
  exact free b o' (W' b o e hx) e1 (I.base.free b o e n hx)
 ·obtain⟨o',e1⟩:=I.base.there b o e hx
  exact there b o' (W' b o e hx) e1
 ·obtain⟨m1,e1⟩:=I.base.nP b ps e
  obtain⟨m2,e2⟩:=nP b _ e1
  exact⟨m1++m2,by rw[e2,Array.append_assoc]⟩
 ·obtain⟨m,hn,hl⟩:=I.loc
  refine⟨m,ns m hn,fun i x v e1 e2 e3=>?_⟩
  obtain⟨u,r,l⟩:=hl i x v e1 e2 e3
  refine⟨u,r,?_⟩
  rcases l with l| ⟨k,c,e,z⟩
  ·exact .inl l
  ·exact .inr ⟨k,c,e,cellK x c e _ z⟩
 ·obtain⟨v,z⟩:=I.cell x c e
  exact⟨v,cellK x c e v z⟩
 ·obtain⟨m,⟨o,_,_,ho,_⟩,_⟩:=I.loc
  exact free _ o (fun z=>(Eh _ z).2.1 rfl) ho I.free
 ·obtain⟨v,o,ho,hd⟩:=I.cell x c e
  exact free c o (fun z=>(Eh c z).2.2.1 x c e rfl) ho (I.gw x c e)
 ·obtain⟨e,n,ne,nf,d⟩:=I.pin p hp
  have EA:p.1∉ch:=fun z=>(Eh p.1 z).2.2.2 p hp rfl
  exact⟨keep p.1 p.2 ne nf EA e n,free p.1 p.2 EA e n,ne,nf,d⟩
theorem Inv.un {t':Nat} (I:Inv X pins σ H s) (u:Un X.fs [] H H' s.heap h') (aS:jX X.prog X.w H' h'):Inv X pins σ H' { s with heap:=h',toks:=t' }:=by
 obtain⟨m,⟨o,es,ep,ho,r⟩,_⟩:=id I.loc
 obtain⟨sl,hL⟩:=u.any ho I.free (by simp)
 exact I.step (g':=s.gens) (d':=s.drawn) (ch:=[]) (fun _ z=>nomatch z) (fun b o _ hb _ e n=>u.keep b o e n hb (by simp)) (fun b o _ hb _ e n=>u.slot b o e n hb (by simp)) (fun b o _ e n=>u.free b o e n (by simp)) (fun b o _ e=>u.there b o e (by simp)) u.nN u.nO u.nP (fun m' hm=>by
  obtain⟨o',Xa,Xb,xt,r'⟩:=hm
  rw[ho] at xt;cases xt
  exact⟨_,Xa,Xb,hL,r'⟩) aS I.bare
theorem Inv.call {g':Array GenState} {t':Nat} {d':Drawn} {ch:List Addr} (I:Inv X pins σ H s) (u:Un (xr X.stack) ch H H' s.heap h') (aS:jX X.prog X.w H' h') (hg:AllBare g')
  (Eh:∀b∈ch,(b∈X.ex∨X.s₀.heap.objs.size≤b)∧b≠X.env.locals∧(∀x c,X.env.cells.lookup x=some c→c≠b)∧∀p∈X.pn++pins,p.1≠b):
  Inv X pins σ H' { s with heap:=h',gens:=g',drawn:=d',toks:=t' }:=by
 obtain⟨m,⟨o,es,ep,ho,r⟩,_⟩:=id I.loc
 obtain⟨sl,hL⟩:=u.any ho I.free fun z=>(Eh _ z).2.1 rfl
 exact I.step (ch:=ch) Eh (fun b o hL hb hc e n=>u.keep b o e n (fun z=>(List.mem_cons.mp (I.u4 b z)).elim hL hb) hc) (fun b o _ _ hc e n=>u.any e n hc) (fun b o hc e n=>u.free b o e n hc) (fun b o hc e=>u.there b o e hc) u.nN u.nO u.nP (fun m' hm=>by
  obtain⟨o',Xa,Xb,xt,r'⟩:=hm
  rw[ho] at xt;cases xt
  exact⟨_,Xa,Xb,hL,r'⟩) aS hg
theorem Inv.turned {t':Nat} {it:Addr} (I:Inv X pins σ H s) (k:∀b o,b≠it→s.heap.get? b=some o→h'.get? b=some o) (hn:H it=none) (hL:it≠X.env.locals)
  (h1:it∈X.ex∨X.s₀.heap.objs.size≤it) (h2:∀x c,X.env.cells.lookup x=some c→c≠it) (h3:∀p∈X.pn++pins,p.1≠it):Inv X pins σ H { s with heap:=h',toks:=t' }:=by
 have nit:∀b u,H b=some u→b≠it:=fun b u e z=>by rw[z,hn] at e;cases e
 refine I.step (g':=s.gens) (d':=s.drawn) (ch:=[it]) (fun b hb=>?_) (fun b o _ _ hc e _=>k b o (fun z=>hc (by simp [z])) e) (fun b o _ _ hc e _=>⟨o.slots,k b o (fun z=>hc (by simp [z])) e⟩) (fun _ _ _ _ n=>n)
  (fun b o hc e=>⟨o,k b o (fun z=>hc (by simp [z])) e⟩) (fun _ _ e=>e) (fun _ _ _ e=>e) (fun b ps e=>⟨#[],by rw[e];simp⟩) (fun m hm=>?_) (fun b u e=>?_) I.bare
 ·have e:b=it:=by simpa using hb
  subst e
  exact⟨h1,hL,h2,h3⟩
 ·obtain⟨o,es,ep,ho,r⟩:=hm
  exact⟨o,es,ep,k _ o (Ne.symm hL) ho,r⟩
 ·refine(I.aS b u e).qj (fun c v hc q=>k c v ?_ q) (fun _ q=>q) fun _ _ q=>q
  rcases hc with z|z
  ·rw[z];exact nit b u e
  ·exact nit c _ z
theorem Inv.tok (I:Inv X pins σ H s) (t:Nat):Inv X pins σ H { s with toks:=t }:=I.un (h':=s.heap) (t':=t) Un.refl I.aS
theorem Inv.kept {t':Nat} (I:Inv X pins σ H s) (k:∀b u,s.heap.get? b=some u→h'.get? b=some u):Inv X pins σ H { s with heap:=h',toks:=t' }:=I.un (Un.kept k) (I.aS.kept k)
theorem Inv.laid {a:Addr} {o:HO} {t':Nat} (I:Inv X pins σ H s) (k:∀b u,s.heap.get? b=some u→h'.get? b=some u) (hp:s.heap.objs.size≤a) (new:cq X.prog X.w (upd H a o) h' a o):
  Inv X pins σ (upd H a o) { s with heap:=h',toks:=t' }:=I.un (Un.laid k hp (I.aS.fresh hp)) (I.aS.laid k hp new)
theorem Inv.write {x e:Addr} {o:HO} {t':Nat} (I:Inv X pins σ H s) (mu:P7 (H x)) (he:e=x∨H e=some (.own x)) (k:∀b u,b≠e→s.heap.get? b=some u→h'.get? b=some u) (Pr:∃u,h'.get? e=some u)
  (new:cq X.prog X.w (upd H x o) h' x o):Inv X pins σ (upd H x o) { s with heap:=h',toks:=t' }:=I.un (Un.write mu he k Pr) (I.aS.write mu he k Pr new)
theorem Inv.u6 {K1:List (Addr×Obj)} (I:Inv X pins σ H s) (h:∀p∈K1,s.heap.get? p.1=some p.2∧H p.1=none∧p.1≠X.env.locals∧p.1∉X.fs∧∀v,p.2.data≠ .cell v):Inv X K1 σ H s:=
 ⟨I.ok,I.os,I.bare,I.base,I.loc,I.cell,I.free,I.gw,fun p hp=>(List.mem_append.mp hp).elim (fun z=>I.pin p (List.mem_append_left _ z)) (h p),I.aS,I.len⟩
theorem ql {N:List Str} (hN:N.Nodup) {i j:Nat} {x:Str} (a:N[i]? =some x) (b:N[j]? =some x):i=j:=by
 obtain⟨h1,e1⟩:=List.getElem?_eq_some_iff.mp a
 obtain⟨h2,e2⟩:=List.getElem?_eq_some_iff.mp b
 exact(List.getElem_inj hN).mp (e1.trans e2.symm)
theorem sO {M:Model} {A:Around} {E:Value→Shared→Prop} {i:Nat} {x:Str} {v:V} {u:Value} {Q:Unit→Shared→Prop} (I:Inv X pins σ H s) (hN:X.N.Nodup) (hi:X.N[i]? =some x) (hx:Loc X.env.scope x) (r:RelV v u)
  (h:∀s',Inv X pins (σ.set i (some v)) H s'→(∃a,Heap.SameBut a s.heap s'.heap∧(a=X.env.locals∨X.env.cells.lookup x=some a))→Q () s') (hf:X.fn x=true∨X.env.scope.names.lookup x=some .local:=by first|exact .inl rfl|exact .inr rfl|assumption):wpAny M A (storeName X.env x u) Q E s:=by
 obtain⟨m,hn,hl⟩:=id I.loc
 have Mp:(X.env.scope.kind== .class||(X.env.scope.kind== .module&&X.env.locals != X.env.globals))=false:=by rw[I.ok.kind];rfl
 have hiσ:i<σ.length:=by rw[I.len];exact(List.getElem?_eq_some_iff.mp hi).1
 have Iw:=I.Iw
 have tracked:∀{a:Addr} {h':Heap},(∃o,s.heap.get? a=some o∧H a=none)→Heap.SameBut a s.heap h'→jX X.prog X.w H h':=fun {a h'} ha hs b ob e=>by
  obtain⟨_,_,K2⟩:=ha
  refine(I.aS b ob e).qj (fun c w' hc q=>(hs.2 c ?_).trans q) (fun _ q=>q) fun _ _ q=>q
  rintro rfl
  rcases hc with rfl|hc
  ·rw[K2] at e;cases e
  ·rw[K2] at hc;cases hc
 rcases hx with hk|hk
 ·refine wpAny_storeName_local hk hn (fun h' Mq hs=>?_) Mp
  obtain⟨oL,_,_,Pu,_⟩:=id hn
  refine h _ ⟨I.ok,I.os,I.bare,⟨fun b o e n hb hx=>?_,fun b o e n hb hx=>?_,I.base.free,fun b o e hx=>?_,I.base.nN,I.base.nO,I.base.nP⟩,⟨_,Mq,fun j y v' e1 e2 e3=>?_⟩,fun y c e=>?_,I.free,I.gw,fun p hp=>?_,tracked ⟨oL,Pu,I.free⟩ hs,by simpa using I.len⟩ ⟨_,hs, .inl rfl⟩
  ·exact(hs.2 b (Nat.ne_of_lt (Nat.lt_of_lt_of_le (Heap.lt_size e) I.ok.above))).trans (I.base.keep b o e n hb hx)
  ·obtain⟨sl,e1⟩:=I.base.slot b o e n hb hx
   exact⟨sl,(hs.2 b (Nat.ne_of_lt (Nat.lt_of_lt_of_le (Heap.lt_size e) I.ok.above))).trans e1⟩
  ·obtain⟨o',e1⟩:=I.base.there b o e hx
   exact⟨o',(hs.2 b (Nat.ne_of_lt (Nat.lt_of_lt_of_le (Heap.lt_size e) I.ok.above))).trans e1⟩
  ·by_cases hj:j=i
   ·subst hj
    rw[hi] at e1;cases e1
    rw[List.getElem?_set_self hiσ] at e2
    cases e2
    exact⟨u,r, .inl ⟨hk,by simp⟩⟩
   ·rw[List.getElem?_set_ne (Ne.symm hj)] at e2
    obtain⟨u',r',q⟩:=hl j y v' e1 e2 e3
    refine⟨u',r',?_⟩
    rcases q with ⟨k,e⟩ | ⟨k,c,e,z⟩
    ·refine .inl ⟨k,?_⟩
     have:y≠x:=fun e=>hj (ql hN e1 (e▸hi))
     simp [this,e]
    ·exact .inr ⟨k,c,e,z.sameBut hs (Iw y c e)⟩
  ·obtain⟨w',z⟩:=I.cell y c e
   exact⟨w',z.sameBut hs (Iw y c e)⟩
  ·obtain⟨e,n,ne,nf,d⟩:=I.pin p hp
   exact⟨(hs.2 p.1 ne).trans e,n,ne,nf,d⟩
 ·have Yf:X.fn x=true:=by
   rcases hf with z|z
   ·exact z
   ·rw[z] at hk;cases hk
  obtain⟨c,hc⟩:=I.ok.has x (.inl hk)
  obtain⟨w',z⟩:=I.cell x c hc
  refine wpAny_storeName_cell I.ok.kind hk hc z (fun h' Ia hs=>?_)
  obtain⟨oc,hoc,Yg⟩:=id z
  refine h { s with heap:=h' } ⟨I.ok,I.os,I.bare,⟨fun b o e n hb hx=>?_,fun b o e n hb hx=>?_,I.base.free,fun b o e hx=>?_,I.base.nN,I.base.nO,I.base.nP⟩,⟨m,hn.sameBut hs (Ne.symm (Iw x c hc)),fun j y v' e1 e2 e3=>?_⟩,fun y c' e=>?_,I.free,I.gw,fun p hp=>?_,tracked ⟨oc,hoc,I.gw x c hc⟩ hs,by simpa using I.len⟩ ⟨c,hs, .inr hc⟩
  ·exact(hs.2 b (Nat.ne_of_lt (Nat.lt_of_lt_of_le (Heap.lt_size e) (I.ok.Iv x c Yf hc)))).trans (I.base.keep b o e n hb hx)
  ·obtain⟨sl,e1⟩:=I.base.slot b o e n hb hx
   exact⟨sl,(hs.2 b (Nat.ne_of_lt (Nat.lt_of_lt_of_le (Heap.lt_size e) (I.ok.Iv x c Yf hc)))).trans e1⟩
  ·obtain⟨o',e1⟩:=I.base.there b o e hx
   exact⟨o',(hs.2 b (Nat.ne_of_lt (Nat.lt_of_lt_of_le (Heap.lt_size e) (I.ok.Iv x c Yf hc)))).trans e1⟩
  ·by_cases hj:j=i
   ·subst hj
    rw[hi] at e1;cases e1
    rw[List.getElem?_set_self hiσ] at e2
    cases e2
    exact⟨u,r, .inr ⟨.inl hk,c,hc,Ia⟩⟩
   ·rw[List.getElem?_set_ne (Ne.symm hj)] at e2
    obtain⟨u',r',q⟩:=hl j y v' e1 e2 e3
    refine⟨u',r',?_⟩
    rcases q with q| ⟨k,c',e,z'⟩
    ·exact .inl q
    ·refine .inr ⟨k,c',e,z'.sameBut hs ?_⟩
     rintro rfl
     exact hj (ql hN e1 (I.ok.inj _ _ _ e hc▸hi))
  ·by_cases hcc:c'=c
   ·subst hcc;exact⟨_,Ia⟩
   ·obtain⟨w2,z2⟩:=I.cell y c' e
    exact⟨w2,z2.sameBut hs hcc⟩
  ·obtain⟨e,n,ne,nf,d⟩:=I.pin p hp
   refine⟨(hs.2 p.1 ?_).trans e,n,ne,nf,d⟩
   intro q
   rw[q,hoc] at e
   have q':oc=p.2:=Option.some.inj e
   exact d w' (by rw[←q'];exact Yg)
theorem store_ok {M:Model} {A:Around} {E:Value→Shared→Prop} {i:Nat} {x:Str} {v:V} {u:Value} {Q:Unit→Shared→Prop} (I:Inv X pins σ H s) (hN:X.N.Nodup) (hi:X.N[i]? =some x) (hx:Loc X.env.scope x) (r:RelV v u)
  (h:∀s',Inv X pins (σ.set i (some v)) H s'→Q () s') (hf:X.fn x=true∨X.env.scope.names.lookup x=some .local:=by first|exact .inl rfl|exact .inr rfl|assumption):wpAny M A (storeName X.env x u) Q E s:=
 sO I hN hi hx r (fun s' I' _=>h s' I') hf
theorem Inv.EB {s':Shared} {ch:List Addr} (I:Inv X pins σ H s) (ho:s'.os=s.os) (u:Un (xr X.stack) ch H H' s.heap s'.heap) (aS:jX X.prog X.w H' s'.heap) (hg:AllBare s'.gens)
  (Eh:∀b∈ch,(b∈X.ex∨X.s₀.heap.objs.size≤b)∧b≠X.env.locals∧(∀x c,X.env.cells.lookup x=some c→c≠b)∧∀p∈X.pn++pins,p.1≠b):Inv X pins σ H' s':=by
 obtain⟨h',g',d',t',o'⟩:=s'
 have e:o'=s.os:=ho
 subst e
 exact I.call (g':=g') (t':=t') (d':=d') u aS hg Eh
end
abbrev XK:=Value→Option Addr→Hp→Prop
abbrev St:=List (Option V)
abbrev VK:=V→Hp→Prop
abbrev TE:=St→Hp→VK→Prop
abbrev TT:=St→Hp→(Bool→Hp→Prop)→Prop
abbrev TA:=St→Hp→(List V→Hp→Prop)→Prop
structure Ends where
 nx:St→Hp→Prop
 rt:VK
 bk:St→Hp→Prop:=fun _ _=>False
 ct:St→Hp→Prop:=fun _ _=>False
abbrev TS:=Ends→St→Hp→Prop
def EP (X:Cx) (pins:List (Addr×Obj)) (σ:St) (Q:VK) (u:Value) (s':Shared):Prop:=∃v H',Inv X pins σ H' s'∧RelV v u∧Q v H'
def TP (X:Cx) (pins:List (Addr×Obj)) (σ:St) (Q:Bool→Hp→Prop) (b:Bool) (s':Shared):Prop:=∃H',Inv X pins σ H' s'∧Q b H'
def AP (X:Cx) (pins:List (Addr×Obj)) (σ:St) (Q:List V→Hp→Prop) (us:List Value) (s':Shared):Prop:=∃vs H',Inv X pins σ H' s'∧Vals vs us∧Q vs H'
def SP (X:Cx) (pins:List (Addr×Obj)) (D:Ends) (f:Flow) (s':Shared):Prop:=
 match f with
 | .next=>∃σ' H',Inv X pins σ' H' s'∧D.nx σ' H'
 | .brk=>∃σ' H',Inv X pins σ' H' s'∧D.bk σ' H'
 | .cont=>∃σ' H',Inv X pins σ' H' s'∧D.ct σ' H'
 | .ret u=>∃v σ' H',Inv X pins σ' H' s'∧RelV v u∧D.rt v H'
def PE (X:Cx) (e:Expr) (t:TE):Prop:=
 ∀(pins:List (Addr×Obj)) (s:Shared) (σ:St) (H:Hp) (Q:VK),Inv X pins σ H s→t σ H Q→wpAny (model X.prog X.w) X.A (eval e X.env) (EP X pins σ Q) X.xe s
def PT (X:Cx) (e:Expr) (t:TT):Prop:=
 ∀(pins:List (Addr×Obj)) (s:Shared) (σ:St) (H:Hp) (Q:Bool→Hp→Prop),Inv X pins σ H s→t σ H Q→wpAny (model X.prog X.w) X.A (isTrue e X.env (eval e X.env)) (TP X pins σ Q) X.xe s
def PW (X:Cx) (e:Expr) (t:TT):Prop:=
 ∀(whole:Sem Value) (pins:List (Addr×Obj)) (s:Shared) (σ:St) (H:Hp) (Q:Bool→Hp→Prop),Inv X pins σ H s→t σ H Q→wpAny (model X.prog X.w) X.A (isTrue e X.env whole) (TP X pins σ Q) X.xe s
theorem PW.pt {X:Cx} {e:Expr} {t:TT} (h:PW X e t):PT X e t:=h _
def PA (X:Cx) (es:List Expr) (t:TA):Prop:=
 ∀(pos:Pos) (pins:List (Addr×Obj)) (s:Shared) (σ:St) (H:Hp) (Q:List V→Hp→Prop),Inv X pins σ H s→t σ H Q→wpAny (model X.prog X.w) X.A (spliced (backTo pos (starEach es X.env))) (AP X pins σ Q) X.xe s
def PS (X:Cx) (st:Stmt) (t:TS):Prop:=
 ∀(pins:List (Addr×Obj)) (s:Shared) (σ:St) (H:Hp) (D:Ends),Inv X pins σ H s→t D σ H→wpAny (model X.prog X.w) X.A (exec st X.env) (SP X pins D) X.xe s
def lM (X:Cx) (st:List Stmt) (t:TS):Prop:=
 ∀(pins:List (Addr×Obj)) (s:Shared) (σ:St) (H:Hp) (D:Ends),Inv X pins σ H s→t D σ H→wpAny (model X.prog X.w) X.A (execs st X.env) (SP X pins D) X.xe s
theorem bZ {α:Type} {t:Sem α} {Q Q':α→Shared→Prop} {M:Model} {A:Around} {E:Value→Shared→Prop} {s:Shared} (h:wpAny M A t Q E s) (hQ:∀a s,Q a s→Q' a s):wpAny M A t Q' E s:=wpAny_mono h hQ fun _ _ x=>x
end L2
namespace L2
open PySem PySem.Spec PyProof.Rows
section
variable {X:Cx}
def jY (i:Nat):TE:=fun σ H Q=>∃v,σ[i]? =some (some v)∧Q v H
def tC (v:V):TE:=fun _ H Q=>Q v H
theorem Mr {i:Nat} {x:Str} {pos:Pos} (hN:X.N[i]? =some x) (hv:Yc X.env.scope x) (hd:(x==("__debug__" :Str))=false:=by decide) (pq:(x==("__classdict__" :Str))=false:=by decide):PE X (.Name x pos) (jY i):=by
 intro pins s σ H Q I h
 obtain⟨v,e,h⟩:=h
 obtain⟨m,hn,hl⟩:=I.loc
 obtain⟨u,r,l⟩:=hl i x v hN e hv
 have fin:EP X pins σ Q u s:=⟨v,H,I,r,h⟩
 rcases l with ⟨hk,hm⟩ | ⟨hk,c,hc,K4⟩
 ·exact wpAny_Name (wpAny_loadName_local I.ok.kind hk hn hm fin) hd
 ·rcases hk with hk|hk
  ·exact wpAny_Name (wpAny_loadName_cell I.ok.kind hk hc K4 fin) hd
  ·exact wpAny_Name (wpAny_loadName_free I.ok.kind hk hc K4 fin pq) hd
theorem aq {i j pos}:PE X (.Constant (.int i) j pos) (tC (.int i)):=fun _ _ _ H _ I h=>wpAny_Constant_int ⟨.int i,H,I.tok _,⟨_,rfl⟩,h⟩
theorem jS {b j pos}:PE X (.Constant (.bool b) j pos) (tC (.bl b)):=fun _ _ _ H _ I h=>Constant_bool ⟨.bl b,H,I,rfl,h⟩
theorem u7 {j pos}:PE X (.Constant .none j pos) (tC .cU):=fun _ _ _ H _ I h=>Constant_none ⟨.cU,H,I,rfl,h⟩
theorem bJ {x j pos}:PE X (.Constant (.str x) j pos) (tC (.str x)):=fun _ _ _ H _ I h=>Calls.Constant_str ⟨.str x,H,I.tok _,⟨_,rfl⟩,h⟩
def Gl (X:Cx) (x:Str):Prop:=X.env.kindOf x=some .globalImplicit
theorem jm {E:Value→Shared→Prop} {pins:List (Addr×Obj)} {s:Shared} {σ:St} {H:Hp} {x:Str} {u:Value} {pos:Pos} {Q:Value→Shared→Prop} (I:Inv X pins σ H s) (hg:Gl X x) (hm:X.mg x=some u) (h:Q u s)
  (hd:(x==("__debug__" :Str))=false:=by decide):wpAny (model X.prog X.w) X.A (eval (.Name x pos) X.env) Q E s:=
 Calls.Name_function_global I.ok.kind hg (Calls.loadGlobal_global (by rw[I.ok.glob];exact I.mod.glob.keeps I.bk) hm h) hd
theorem nQ {E:Value→Shared→Prop} {pins:List (Addr×Obj)} {s:Shared} {σ:St} {H:Hp} {x:Str} {u:Value} {pos:Pos} {Q:Value→Shared→Prop} (I:Inv X pins σ H s) (hg:Gl X x) (hm:X.mg x=none) (hv:bootBuiltins x=some u) (h:Q u s)
  (hn:x≠"__name__" :=by decide) (hd:(x==("__debug__" :Str))=false:=by decide):wpAny (model X.prog X.w) X.A (eval (.Name x pos) X.env) Q E s:=by
 obtain⟨mb,h1,h2⟩:=I.mod.blt
 exact Calls.Name_function_global I.ok.kind hg (Calls.loadGlobal_builtin (by rw[I.ok.glob];exact I.mod.glob.keeps I.bk) hm (by rw[I.ok.blt];exact h1.keeps I.bk) ((h2 x hn).trans hv) h) hd
theorem aX {x:Str} {v:V} {u:Value} {pos:Pos} (hg:Gl X x) (hm:X.mg x=some u) (r:RelV v u) (hd:(x==("__debug__" :Str))=false:=by decide):PE X (.Name x pos) (tC v):=
 fun _ _ _ H _ I h=>jm I hg hm ⟨v,H,I,r,h⟩ hd
theorem mf {x:Str} {v:V} {u:Value} {pos:Pos} (hg:Gl X x) (hm:X.mg x=none) (hv:bootBuiltins x=some u) (r:RelV v u) (hn:x≠"__name__" :=by decide) (hd:(x==("__debug__" :Str))=false:=by decide):PE X (.Name x pos) (tC v):=
 fun _ _ _ H _ I h=>nQ I hg hm hv ⟨v,H,I,r,h⟩ hn hd
variable {a b:Expr} {ta tb:TE} {pos:Pos}
def PC (X:Cx) (op:CmpOp) (a b:Expr) (t:TE):Prop:=
 ∀(pins:List (Addr×Obj)) (s:Shared) (σ:St) (H:Hp) (Q:VK),Inv X pins σ H s→t σ H Q→
  wpAny (model X.prog X.w) X.A (eval a X.env) (fun v s₁=>wpAny (model X.prog X.w) X.A (eval b X.env) (fun u s₂=>wpAny (model X.prog X.w) X.A (compareOp op v u) (EP X pins σ Q) X.xe s₂) X.xe s₁) X.xe s
theorem xC (b:Expr) {op:CmpOp} (h:op≠ .In) (h2:op≠ .NotIn):behindInMarks op b=false:=by
 have e1:(op==CmpOp.In)=false:=by cases op<;>first|rfl|exact absurd rfl h
 have e2:(op==CmpOp.NotIn)=false:=by cases op<;>first|rfl|exact absurd rfl h2
 cases b<;>simp [behindInMarks,e1,e2]
def Yh (ta:TE):TE:=fun σ H Q=>ta σ H fun x H1=>Q (.bl (decide (x= .cU))) H1
def Qa (ta:TE):TE:=fun σ H Q=>ta σ H fun x H1=>Q (.bl (!decide (x= .cU))) H1
theorem RelV.xD {x:V} {v:Value} (r:RelV x v):(v==Value.none)=decide (x= .cU):=by
 cases x with
 |cU=>cases r;rfl
 |bl _=>cases r;rfl
 |int _=>obtain⟨t,rfl⟩:=r;rfl
 |str _=>obtain⟨t,rfl⟩:=r;rfl
 |zB _=>obtain⟨t,rfl⟩:=r;rfl
 |KY _=>obtain⟨t,rfl⟩:=r;rfl
 |ref _=>cases r;rfl
 |ty _=>cases r;rfl
theorem qm {j pos'} (ha:PE X a ta):PC X .Is a (.Constant .none j pos') (Yh ta):=by
 intro pins s σ H Q I h
 refine bZ (ha pins s σ H _ I h) fun v s1 ⟨x,H1,I1,r1,q1⟩=>?_
 exact Constant_none (is_none_gen ⟨.bl _,H1,I1,by rw[r1.xD];rfl,q1⟩)
theorem u9 {j pos'} (ha:PE X a ta):PC X .IsNot a (.Constant .none j pos') (Qa ta):=by
 intro pins s σ H Q I h
 refine bZ (ha pins s σ H _ I h) fun v s1 ⟨x,H1,I1,r1,q1⟩=>?_
 exact Constant_none (isnot_none_gen ⟨.bl _,H1,I1,by rw[r1.xD];rfl,q1⟩)
def tB (t:TE):TT:=fun σ H Q=>t σ H fun x H1=>∃c,x= .bl c∧Q c H1
theorem zC {op:CmpOp} {t:TE} (h:PC X op a b t) (h1:behindInMarks op b=false:=by first|exact xC _ (by decide) (by decide) |rfl):PE X (.Compare a [op] [b] pos) t:=fun pins s σ H Q I hw=>wpAny_Compare1 (h pins s σ H Q I hw) h1
theorem qo {op:CmpOp} {t:TE} (h:PC X op a b t) (h1:behindInMarks op b=false:=by first|exact xC _ (by decide) (by decide) |rfl):PT X (.Compare a [op] [b] pos) (tB t):=by
 intro pins s σ H Q I hw
 refine wpAny_isTrue_Compare1 (bZ (h pins s σ H _ I hw) fun v s1 h1=>bZ h1 fun u s2 h2=>bZ h2 fun c s3 ⟨x,H1,I1,r1,q1⟩=>?_) h1
 obtain⟨d,rfl,q⟩:=q1
 cases r1
 exact wpAny_truthy_bool ⟨H1,I1,q⟩
theorem cJ {e:Expr} {t:TE} (h:PE X e t) (he:∀whole,isTrue e X.env whole=(do let v←whole;standAt e.pos;holding [v] (truthy v)):=by intro _;rfl):PT X e (tB t):=by
 intro pins s σ H Q I hw
 refine isTrue_plain (bZ (h pins s σ H _ I hw) fun v s1 ⟨x,H1,I1,r1,q1⟩=>?_) (he _)
 obtain⟨d,rfl,q⟩:=q1
 cases r1
 exact wpAny_truthy_bool ⟨H1,I1,q⟩
variable {tA Xc:TT} {rest:List Expr}
def Yi (t u:TT):TT:=fun σ H Q=>t σ H fun c H1=>if c=true then u σ H1 Q else Q false H1
def tOr (t u:TT):TT:=fun σ H Q=>t σ H fun c H1=>if c=true then Q true H1 else u σ H1 Q
def Yj (t:TT):TT:=fun σ H Q=>t σ H fun c H1=>Q (!c) H1
theorem va (ha:PT X a tA):PW X (.BoolOp .And [a] pos) tA:=by
 intro wh pins s σ H Q I h
 refine isTrue_and (bZ (ha pins s σ H Q I h) fun c s1 e=>?_)
 cases c with
 |true=>exact isTrue_and_nil e
 |false=>exact e
theorem jZ (ha:PT X a tA):PW X (.BoolOp .Or [a] pos) tA:=by
 intro wh pins s σ H Q I h
 refine isTrue_or (bZ (ha pins s σ H Q I h) fun c s1 e=>?_)
 cases c with
 |false=>exact isTrue_or_nil e
 |true=>exact e
theorem zD (ha:PT X a tA) (hb:PW X (.BoolOp .And (b::rest) pos) Xc):PW X (.BoolOp .And (a::b::rest) pos) (Yi tA Xc):=by
 intro wh pins s σ H Q I h
 refine isTrue_and (bZ (ha pins s σ H _ I h) fun c s1 ⟨H1,I1,q1⟩=>?_)
 cases c with
 |true=>exact hb wh pins s1 σ H1 Q I1 q1
 |false=>exact⟨H1,I1,q1⟩
theorem il (ha:PT X a tA) (hb:PW X (.BoolOp .Or (b::rest) pos) Xc):PW X (.BoolOp .Or (a::b::rest) pos) (tOr tA Xc):=by
 intro wh pins s σ H Q I h
 refine isTrue_or (bZ (ha pins s σ H _ I h) fun c s1 ⟨H1,I1,q1⟩=>?_)
 cases c with
 |true=>exact⟨H1,I1,q1⟩
 |false=>exact hb wh pins s1 σ H1 Q I1 q1
theorem jo (ha:PT X a tA):PT X (.UnaryOp .Not a pos) (Yj tA):=by
 intro pins s σ H Q I h
 exact isTrue_not (ha pins s σ H (fun c H1=>Q (!c) H1) I h)
def Qb (ta tb:TE):TE:=fun σ H Q=>ta σ H fun x H1=>∃c,x= .bl c∧if c=true then tb σ H1 Q else Q (.bl false) H1
def Yk (ta tb:TE):TE:=fun σ H Q=>ta σ H fun x H1=>∃c,x= .bl c∧if c=true then Q (.bl true) H1 else tb σ H1 Q
def Qc (ta:TE):TE:=fun σ H Q=>ta σ H fun x H1=>∃c,x= .bl c∧Q (.bl (!c)) H1
theorem qp {op} {t:TE} (h:PE X a t):PE X (.BoolOp op [a] pos) t:=fun pins s σ H Q I hw=>BoolOp_one (h pins s σ H Q I hw)
theorem vc (ha:PE X a ta) (hb:PE X (.BoolOp .And (b::rest) pos) tb):PE X (.BoolOp .And (a::b::rest) pos) (Qb ta tb):=by
 intro pins s σ H Q I h
 refine BoolOp_and (bZ (ha pins s σ H _ I h) fun v s1 ⟨x,H1,I1,r1,q1⟩=>?_)
 obtain⟨c,rfl,q1⟩:=q1
 cases r1
 refine wpAny_truthy_bool ?_
 cases c with
 |true=>exact hb pins s1 σ H1 Q I1 q1
 |false=>exact⟨.bl false,H1,I1,rfl,q1⟩
theorem Qd (ha:PE X a ta) (hb:PE X (.BoolOp .Or (b::rest) pos) tb):PE X (.BoolOp .Or (a::b::rest) pos) (Yk ta tb):=by
 intro pins s σ H Q I h
 refine BoolOp_or (bZ (ha pins s σ H _ I h) fun v s1 ⟨x,H1,I1,r1,q1⟩=>?_)
 obtain⟨c,rfl,q1⟩:=q1
 cases r1
 refine wpAny_truthy_bool ?_
 cases c with
 |false=>exact hb pins s1 σ H1 Q I1 q1
 |true=>exact⟨.bl true,H1,I1,rfl,q1⟩
theorem EC (ha:PE X a ta):PE X (.UnaryOp .Not a pos) (Qc ta):=by
 intro pins s σ H Q I h
 refine UnaryOp_ (bZ (ha pins s σ H _ I h) fun v s1 ⟨x,H1,I1,r1,q1⟩=>?_)
 obtain⟨c,rfl,q1⟩:=q1
 cases r1
 exact not_of (wpAny_truthy_bool ⟨.bl (!c),H1,I1,rfl,q1⟩)
def tIf (t:TT) (ta tb:TE):TE:=fun σ H Q=>t σ H fun c H1=>if c=true then ta σ H1 Q else tb σ H1 Q
theorem xE {c:Expr} (hc:PT X c tA) (ha:PE X a ta) (hb:PE X b tb):PE X (.IfExp c a b pos) (tIf tA ta tb):=by
 intro pins s σ H Q I h
 refine wpAny_IfExp (bZ (hc pins s σ H _ I h) fun d s1 ⟨H1,I1,q1⟩=>?_)
 cases d with
 |true=>exact ha pins s1 σ H1 Q I1 q1
 |false=>exact hb pins s1 σ H1 Q I1 q1
end
end L2
namespace L2
open PySem PySem.Spec PyProof.Rows
def b5 (K:PySem.W.Frag) (H:Hp) (a:Addr) (xs:List V):Prop:=
 Rd H a (.lst xs)∨
  ∃(o:Obj) (its:Array Value) (n:Nat),K.lookup a=some o∧o.cls= .type "list" ∧o.dict=none∧o.data= .seq its n∧its.size≤sizeLine∧Vals xs its.toList
def iX (K:PySem.W.Frag) (H:Hp) (a:Addr) (xs:List V):Prop:=
 Rd H a (.tup xs)∨
  ∃(o:Obj) (its:Array Value) (n:Nat),K.lookup a=some o∧o.cls= .type "tuple" ∧o.data= .seq its n∧its.size≤sizeLine∧Vals xs its.toList
def Yl:Value→Option V
 | .none=>some .cU
 | .bool b=>some (.bl b)
 | .int i _=>some (.int i)
 | .str x _=>some (.str x)
 | .bytes b _=>some (.zB b)
 | .float b _=>some (.KY b)
 | .ref a=>some (.ref a)
 | .type n=>some (.ty n)
 |_=>none
theorem RelV.abs {x:V} {u:Value} (r:RelV x u):Yl u=some x:=by
 cases x with
 |cU=>cases r;rfl
 |bl _=>cases r;rfl
 |int _=>obtain⟨t,rfl⟩:=r;rfl
 |str _=>obtain⟨t,rfl⟩:=r;rfl
 |zB _=>obtain⟨t,rfl⟩:=r;rfl
 |KY _=>obtain⟨t,rfl⟩:=r;rfl
 |ref _=>cases r;rfl
 |ty _=>cases r;rfl
theorem RelV.inj {x y:V} {u:Value} (r:RelV x u) (q:RelV y u):x=y:=Option.some.inj (r.abs.symm.trans q.abs)
theorem Vals.inj:∀{xs ys:List V} {us:List Value},Vals xs us→Vals ys us→xs=ys
 |_,_,_, .nil, .nil=>rfl
 |_,_,_, .cons r t, .cons r' t'=>by rw[r.inj r',Vals.inj t t']
section
variable {X:Cx} {pins:List (Addr×Obj)} {σ:St} {H:Hp} {s:Shared} {a:Addr} {xs ys:List V}
theorem b5.of {K:PySem.W.Frag} (h:H a=some (.lst xs)):b5 K H a xs:= .inl (.inl h)
theorem iX.of {K:PySem.W.Frag} (h:H a=some (.tup xs)):iX K H a xs:= .inl (.inl h)
theorem Inv.list (I:Inv X pins σ H s) (h:b5 X.K H a xs):∃its:List Value,Vals xs its∧PlainL s.heap a its.toArray∧xs.length≤sizeLine:=by
 rcases h with h| ⟨o,its,n,hk,hc,hd,hs,hz,r⟩
 ·obtain⟨z,its,n,r,e⟩:=h.ok I.aS
  exact⟨its,r,⟨_,n,e,rfl,rfl,rfl⟩,z⟩
 ·refine⟨its.toList,r,⟨o,n,I.jl a o hk,hc,hd,by simpa using hs⟩,?_⟩
  have e:=r.length
  simp only [Array.length_toList] at e
  omega
theorem Inv.tuple (I:Inv X pins σ H s) (h:iX X.K H a xs):∃its:List Value,Vals xs its∧IsTup s.heap a its.toArray∧xs.length≤sizeLine:=by
 rcases h with h| ⟨o,its,n,hk,hc,hs,hz,r⟩
 ·obtain⟨z,its,r,p⟩:=h.ok I.aS
  exact⟨its,r,p,z⟩
 ·refine⟨its.toList,r,⟨o,I.jl a o hk,hc,n,by simpa using hs⟩,?_⟩
  have e:=r.length
  simp only [Array.length_toList] at e
  omega
theorem Inv.xF (I:Inv X pins σ H s) (h:b5 X.K H a xs) (h':b5 X.K H a ys):xs=ys:=by
 obtain⟨its,r,⟨o,n,e,_,_,d⟩,_⟩:=I.list h
 obtain⟨its',r',⟨o',n',e',_,_,d'⟩,_⟩:=I.list h'
 rw[e] at e';cases e'
 rw[d] at d'
 injection d' with d1 _
 have:its=its':=by simpa using congrArg Array.toList d1
 subst this
 exact r.inj r'
end
abbrev Cx.j2 (X:Cx) (E:Value→Shared→Prop):Cx:={ X with xe:=E }
abbrev Cx.ED (X:Cx):Cx:=X.j2 fun _ _=>False
theorem Cx.Ok.j2 {X:Cx} (ok:X.Ok) (E:Value→Shared→Prop):(X.j2 E).Ok:=
 ⟨ok.mod,ok.kind,ok.glob,ok.blt,ok.above,ok.inj,ok.has,ok.Iv,ok.hd,ok.frames,ok.K0,ok.Pt,ok.bs,ok.CL,ok.u0,ok.u3,ok.lz,ok.Ez⟩
theorem Cx.Ok.d5 {X:Cx} {E:Value→Shared→Prop} (ok:(X.j2 E).Ok):X.Ok:=
 ⟨ok.mod,ok.kind,ok.glob,ok.blt,ok.above,ok.inj,ok.has,ok.Iv,ok.hd,ok.frames,ok.K0,ok.Pt,ok.bs,ok.CL,ok.u0,ok.u3,ok.lz,ok.Ez⟩
section
variable {X:Cx} {pins:List (Addr×Obj)} {σ:St} {H:Hp} {s:Shared} {E:Value→Shared→Prop}
theorem Inv.j2 (I:Inv X pins σ H s) (E:Value→Shared→Prop):Inv (X.j2 E) pins σ H s:=⟨I.ok.j2 E,I.os,I.bare,I.base,I.loc,I.cell,I.free,I.gw,I.pin,I.aS,I.len⟩
theorem Inv.d5 (I:Inv (X.j2 E) pins σ H s):Inv X pins σ H s:=⟨I.ok.d5,I.os,I.bare,I.base,I.loc,I.cell,I.free,I.gw,I.pin,I.aS,I.len⟩
theorem SP.d5 {D:Ends} {f:Flow} {s':Shared} (h:SP (X.j2 E) pins D f s'):SP X pins D f s':=by
 cases f with
 |next=>obtain⟨σ',H',I,q⟩:=h;exact⟨σ',H',I.d5,q⟩
 |brk=>obtain⟨σ',H',I,q⟩:=h;exact⟨σ',H',I.d5,q⟩
 |cont=>obtain⟨σ',H',I,q⟩:=h;exact⟨σ',H',I.d5,q⟩
 |ret u=>obtain⟨v,σ',H',I,r,q⟩:=h;exact⟨v,σ',H',I.d5,r,q⟩
theorem lM.ED {st:List Stmt} {t:TS} (h:lM X.ED st t):lM X st t:=fun pins s σ H D I hw=>
 wpAny_mono (h pins s σ H D (I.j2 _) hw) (fun _ _ q=>q.d5) fun _ _ z=>False.elim z
end
section
variable {X:Cx} {st:Stmt} {rest:List Stmt} {t u:TS} {e:Expr} {te:TE} {pos:Pos}
def AX:TS:=fun D σ H=>D.nx σ H
def Qe (t u:TS):TS:=fun D σ H=>t { D with nx:=u D } σ H
theorem aR:lM X [] AX:=fun _ _ σ H _ I h=>wpAny_execs_nil ⟨σ,H,I,h⟩
theorem ai (h1:PS X st t) (h2:lM X rest u):lM X (st::rest) (Qe t u):=by
 intro pins s σ H D I h
 refine wpAny_execs_cons (bZ (h1 pins s σ H { D with nx:=u D } I h) fun f s1 q=>?_)
 cases f with
 |next=>
  obtain⟨σ',H',I',q⟩:=q
  exact h2 pins s1 σ' H' D I' q
 |ret v=>exact q
 |brk=>exact q
 |cont=>exact q
theorem ao (h1:PS X st t):lM X [st] t:=by
 intro pins s σ H D I h
 refine wpAny_execs_cons (bZ (h1 pins s σ H D I h) fun f s1 q=>?_)
 cases f with
 |next=>exact wpAny_execs_nil q
 |ret v=>exact q
 |brk=>exact q
 |cont=>exact q
theorem Inv.quiet {pins:List (Addr×Obj)} {σ:St} {H:Hp} {s:Shared} (I:Inv X pins σ H s):interactive X.env=false:=by simp [interactive,I.ok.kind]
def Qf (te:TE):TS:=fun D σ H=>te σ H fun _ H1=>D.nx σ H1
theorem bz (he:PE X e te) (hs:swapsWith e none pos.line X.env=pure false:=by rfl):PS X (.Expr e pos) (Qf te):=by
 intro pins s σ H D I h
 exact wpAny_Expr_any (bZ (he pins s σ H _ I h) fun v s1 ⟨x,H1,I1,r1,q1⟩=>⟨σ,H1,I1,q1⟩) I.quiet hs
def Ym (te:TE):TS:=fun D σ H=>te σ H D.rt
theorem aD (he:PE X e te):PS X (.Return (some e) pos) (Ym te):=by
 intro pins s σ H D I h
 exact wpAny_Return_some (bZ (he pins s σ H _ I h) fun v s1 ⟨x,H1,I1,r1,q1⟩=>⟨x,σ,H1,I1,r1,q1⟩)
def Qg:TS:=fun D _ H=>D.rt .cU H
theorem Iy:PS X (.Return none pos) Qg:=fun _ _ σ H _ I h=>wpAny_Return_none ⟨.cU,σ,H,I,rfl,h⟩
def Ms (c:TT) (t u:TS):TS:=fun D σ H=>c σ H fun b H1=>if b=true then t D σ H1 else u D σ H1
theorem bG {c:Expr} {a b:List Stmt} {tc:TT} (hc:PT X c tc) (ha:lM X a t) (hb:lM X b u):PS X (.If c a b pos) (Ms tc t u):=by
 intro pins s σ H D I h
 refine wpAny_If (bZ (hc pins s σ H _ I h) fun d s1 ⟨H1,I1,q1⟩=>?_)
 cases d with
 |true=>exact ha pins s1 σ H1 D I1 q1
 |false=>exact hb pins s1 σ H1 D I1 q1
def Mt:TS:=fun _ _ _=>False
theorem fZ:PS X st Mt:=fun _ _ _ _ _ _ h=>h.elim
end
abbrev TG:=V→St→Hp→(St→Hp→Prop)→Prop
abbrev K5:=List V→St→Hp→(St→Hp→Prop)→Prop
def PG (X:Cx) (target:Expr) (t:TG):Prop:=
 ∀(pins:List (Addr×Obj)) (s:Shared) (σ:St) (H:Hp) (v:V) (u:Value) (Q:St→Hp→Prop),Inv X pins σ H s→RelV v u→t v σ H Q→
  wpAny (model X.prog X.w) X.A (assign target X.env u) (fun _ s'=>∃σ' H',Inv X pins σ' H' s'∧Q σ' H') X.xe s
def Pw (X:Cx) (ts:List Expr) (t:K5):Prop:=
 ∀(pins:List (Addr×Obj)) (s:Shared) (σ:St) (H:Hp) (vs:List V) (us:List Value) (Q:St→Hp→Prop),Inv X pins σ H s→Vals vs us→t vs σ H Q→
  wpAny (model X.prog X.w) X.A (assignInOrder ((assignEach ts X.env).map (·.2)) us) (fun _ s'=>∃σ' H',Inv X pins σ' H' s'∧Q σ' H') X.xe s
section
variable {X:Cx} {pos:Pos}
def du (i:Nat):TG:=fun v σ H Q=>Q (σ.set i (some v)) H
theorem aG {i:Nat} {x:Str} (hN:X.N.Nodup) (hi:X.N[i]? =some x) (hx:Loc X.env.scope x) (hf:X.fn x=true∨X.env.scope.names.lookup x=some .local:=by first|exact .inl rfl|exact .inr rfl|assumption):PG X (.Name x pos) (du i):=by
 intro pins s σ H v u Q I r h
 exact wpAny_assign_Name (store_ok I hN hi hx r (fun s' I'=>⟨_,H,I',h⟩) hf)
def Yn:K5:=fun vs σ H Q=>vs=[]∧Q σ H
def Qh (t:TG) (u:K5):K5:=fun vs σ H Q=>∃v r,vs=v::r∧t v σ H fun σ' H'=>u r σ' H' Q
theorem dW:Pw X [] Yn:=by
 intro pins s σ H vs us Q I r h
 obtain⟨e,h⟩:=h
 subst e
 cases r
 exact assignInOrder_nil ⟨σ,H,I,h⟩
theorem bo {e:Expr} {es:List Expr} {t:TG} {u:K5} (h1:PG X e t) (h2:Pw X es u)
  (hs:(assignEach (e::es) X.env).map (·.2)=assign e X.env::(assignEach es X.env).map (·.2):=by rfl):Pw X (e::es) (Qh t u):=by
 intro pins s σ H vs us Q I r h
 obtain⟨v,vr,e1,h⟩:=h
 subst e1
 cases r with
 |cons r rr=>
  rw[hs]
  refine assignInOrder_cons (bZ (h1 pins s σ H _ _ _ I r h) fun _ s1 ⟨σ1,H1,I1,q1⟩=>?_)
  exact h2 pins s1 σ1 H1 _ _ Q I1 rr q1
def Qi (K:PySem.W.Frag) (n:Nat) (t:K5):TG:=fun v σ H Q=>∃a xs,v= .ref a∧iX K H a xs∧xs.length=n∧t xs σ H Q
theorem gS {es:List Expr} {k:Nat} {t:K5} {n:Nat} (hc:X.calm=true) (h:Pw X es t)
  (hn:(assignEach es X.env).length=n:=by rfl) (fI:(assignEach es X.env).findIdx? (·.1)=none:=by rfl):PG X (.Tuple es k pos) (Qi X.K n t):=by
 intro pins s σ H v u Q I r hw
 obtain⟨a,xs,e1,hq,hl,hw⟩:=hw
 subst e1
 cases r
 obtain⟨its,rv,ht,hz⟩:=I.tuple hq
 refine assign_Tuple_tuple (I.ok.hd hc) ht (by simp [hn,←hl,rv.length]) fI fun h' hx=>?_
 have I1:Inv X pins σ H { s with heap:=h' }:=I.kept (t':=s.toks) fun b o e=>hx b o (Nat.ne_of_lt (Heap.lt_size e)) e
 exact h pins _ σ H xs _ Q I1 (by simpa using rv) hw
def Mu (te:TE) (g:TG):TS:=fun D σ H=>te σ H fun x H1=>g x σ H1 D.nx
theorem EE {tg e:Expr} {te:TE} {g:TG} (he:PE X e te) (hg:PG X tg g) (hs:swapsWithSole [tg] e pos.line X.env=pure false:=by rfl) (hw:swappedStores [tg] e X.env=pure none:=by rfl)
  (h1:(assignEach [tg] X.env).map (·.2)=[assign tg X.env]:=by rfl):PS X (.Assign [tg] e pos) (Mu te g):=by
 intro pins s σ H D I h
 refine wpAny_Assign_stores (bZ (he pins s σ H _ I h) fun v s1 ⟨x,H1,I1,r1,q1⟩=>?_) hs hw
 rw[h1]
 exact bZ (hg pins s1 σ H1 x v _ I1 r1 q1) fun _ s2 q=>q
theorem aB {i:Nat} {x:Str} {e:Expr} {te:TE} {pos':Pos} (hN:X.N.Nodup) (hi:X.N[i]? =some x) (hx:Loc X.env.scope x) (he:PE X e te) (hs:swapsWith e (some (.Name x pos')) pos.line X.env=pure false:=by rfl) (hf:X.fn x=true∨X.env.scope.names.lookup x=some .local:=by first|exact .inl rfl|exact .inr rfl|assumption):
  PS X (.Assign [.Name x pos'] e pos) (Mu te (du i)):=by
 intro pins s σ H D I h
 refine wpAny_Assign_Name (bZ (he pins s σ H _ I h) fun v s1 ⟨y,H1,I1,r1,q1⟩=>?_) hs
 exact store_ok I1 hN hi hx r1 (fun s2 I2=>⟨_,H1,I2,q1⟩) hf
end
section
variable {X:Cx} {pos:Pos}
def Mv (c:TT) (tb:TS):TS:=fun D σ H=>∃W:Nat→St→Hp→Prop,(∃m,W m σ H)∧∀m σ H,W m σ H→
 c σ H fun b H1=>if b=true then∃N:St→Hp→Prop,(∀σ' H',N σ' H'→∃m',m'<m∧W m' σ' H')∧tb { D with nx:=N,ct:=N,bk:=D.nx } σ H1 else D.nx σ H1
theorem iY {c:Expr} {body:List Stmt} {tc:TT} {tb:TS} (hp:PassesOwn (model X.prog X.w) X.A X.env X.xe) (hc:PT X c tc) (hb:lM X body tb):PS X (.While c body [] pos) (Mv tc tb):=by
 intro pins s σ H D I h
 obtain⟨W,⟨m0,w0⟩,turn⟩:=h
 refine wpAny_While (codeAny_whileLoop (fun n s'=>∃σ' H',Inv X pins σ' H' s'∧W n σ' H') ?_ m0 ⟨σ,H,I,w0⟩)
 rintro n s1 ⟨σ1,H1,I1,w1⟩
 refine wpAny_passesOwn hp (bZ (hc pins s1 σ1 H1 _ I1 (turn n σ1 H1 w1)) fun b s2 ⟨H2,I2,q2⟩=>?_)
 cases b with
 |true=>
  obtain⟨N,hN,q2⟩:=q2
  rw[if_pos rfl]
  refine wpAny_passesOwn hp (bZ (hb pins s2 σ1 H2 _ I2 q2) fun f s3 q3=>?_)
  cases f with
  |next=>
   obtain⟨σ3,H3,I3,n3⟩:=q3
   obtain⟨m',hm,w3⟩:=hN σ3 H3 n3
   exact⟨m',hm,σ3,H3,I3,w3⟩
  |cont=>
   obtain⟨σ3,H3,I3,n3⟩:=q3
   obtain⟨m',hm,w3⟩:=hN σ3 H3 n3
   exact⟨m',hm,σ3,H3,I3,w3⟩
  |brk=>exact q3
  |ret v=>exact q3
 |false=>
  rw[if_neg Bool.false_ne_true]
  exact wpAny_execs_nil ⟨σ1,H2,I2,q2⟩
end
structure It where
 go:Nat→Hp→Prop
 pE:Nat→Hp→V→Hp→Prop
 stop:Nat→Hp→Prop
def lA (X:Cx) (pins:List (Addr×Obj)) (H:Hp) (b:Addr):Prop:=
 H b=none∧b≠X.env.locals∧b∉X.fs∧(b∈X.ex∨X.s₀.heap.objs.size≤b)∧(∀x c,X.env.cells.lookup x=some c→c≠b)∧∀p∈X.pn++pins,p.1≠b
theorem Inv.zE {X:Cx} {pins:List (Addr×Obj)} {σ:St} {H H':Hp} {s:Shared} {b:Addr} (I:Inv X pins σ H s) (hb:s.heap.objs.size≤b) (hn:H' b=none):lA X pins H' b:=by
 refine⟨hn,Nat.ne_of_gt (Nat.lt_of_lt_of_le I.lt hb),I.Ye hb, .inr (Nat.le_trans I.sz hb),fun x c e z=>?_,fun p hp z=>?_⟩
 ·obtain⟨v,q⟩:=I.cell x c e
  exact absurd (Nat.lt_of_lt_of_le q.lt (by rw[z];exact hb)) (Nat.lt_irrefl _)
 ·exact absurd (Nat.lt_of_lt_of_le (Heap.lt_size (I.pin p hp).1) (by rw[z];exact hb)) (Nat.lt_irrefl _)
structure Turn (P:Program) (w:World) (K:PySem.W.Frag) (tg:Expr) (J:It) (fp:List Addr) (it:Addr) (tn:Nat→Heap→Prop):Prop where
 mem:it∈fp
 obj:∀i h,tn i h→∀b∈fp,∃o,h.get? b=some o∧∀v,o.data≠ .cell v
 keep:∀i h h',tn i h→(∀b∈fp,∀o,h.get? b=some o→h'.get? b=some o)→tn i h'
 item:∀(X:Cx),X.prog=P→X.w=w→X.K=K→X.calm=true→∀(i:Nat) (pins:List (Addr×Obj)) (s:Shared) (σ:St) (H:Hp) (E:Value→Shared→Prop),Inv X pins σ H s→(∀b∈fp,lA X pins H b)→tn i s.heap→J.go i H→
  wpAny (model P w) X.A (pyNext (.ref it)) (fun r s1=>∃u,r=some u∧
   wpAny (model P w) X.A (letOwnedTupleGo tg (.ref it) u) (fun _ s2=>∃x H',Inv X pins σ H' s2∧RelV x u∧J.pE i H x H'∧tn (i+1) s2.heap∧∀b∈fp,H' b=none) E s1) E s
 done:∀(X:Cx),X.prog=P→X.w=w→X.K=K→X.calm=true→∀(i:Nat) (pins:List (Addr×Obj)) (s:Shared) (σ:St) (H:Hp) (E:Value→Shared→Prop),Inv X pins σ H s→(∀b∈fp,lA X pins H b)→tn i s.heap→J.stop i H→
  wpAny (model P w) X.A (pyNext (.ref it)) (fun r s1=>r=none∧Inv X pins σ H s1) E s
 self:∀(A:Around) (i:Nat) (s:Shared) (Q:Value→Shared→Prop) (E:Value→Shared→Prop),tn i s.heap→Q (.ref it) s→wpAny (model P w) A (pyIter (.ref it)) Q E s
abbrev TI:=St→Hp→(It→Hp→Prop)→Prop
def PIE (X:Cx) (pins:List (Addr×Obj)) (σ:St) (tg:Expr) (R:It→Hp→Prop) (Xd:Value) (s2:Shared):Prop:=
 ∃(it:Addr) (fp:List Addr) (tn:Nat→Heap→Prop) (J:It) (H':Hp),Xd= .ref it∧Inv X pins σ H' s2∧Turn X.prog X.w X.K tg J fp it tn∧tn 0 s2.heap∧(∀b∈fp,lA X pins H' b)∧R J H'
def PI (X:Cx) (tg iter:Expr) (wi:TI):Prop:=
 ∀(pins:List (Addr×Obj)) (s:Shared) (σ:St) (H:Hp) (R:It→Hp→Prop),Inv X pins σ H s→wi σ H R→
  wpAny (model X.prog X.w) X.A (eval iter X.env) (fun v s1=>wpAny (model X.prog X.w) X.A (pyIter v) (PIE X pins σ tg R) X.xe s1) X.xe s
theorem AY {M:Model} {A:Around} {E:Value→Shared→Prop} {s:Shared} {tg:Expr} {it:Addr} {u:Value} {o:Obj} {n:String} {vs:Array Value} {Q:Unit→Shared→Prop} (ho:s.heap.get? it=some o) (hc:o.cls= .type n) (hd:o.data= .fields vs)
  (hn:["enumerate","zip","dict_itemiterator","dict_reverseitemiterator","odict_iterator","itertools.zip_longest","itertools.pairwise"].contains n=false) (hQ:Q () s):wpAny M A (letOwnedTupleGo tg (.ref it) u) Q E s:=by
 unfold letOwnedTupleGo
 cases tg<;>first
  |exact wpAny_pure hQ
  | (cases u<;>first
    |exact wpAny_pure hQ
    | (refine wpAny_bind (wpAny_load ho ?_)
       rw[hc,hd]
       show wpAny M A (if (["enumerate","zip","dict_itemiterator","dict_reverseitemiterator","odict_iterator","itertools.zip_longest","itertools.pairwise"].contains n&&vs[0]? ==some (rawInt _))=true then _ else _) Q E s
       rw[if_neg (by intro h;rw[hn,Bool.false_and] at h;cases h)]
       exact wpAny_pure hQ))
def AZ (K:PySem.W.Frag) (a:Addr):It:=
 ⟨fun i H=>∃xs x,b5 K H a xs∧xs[i]? =some x,fun i H x H'=>H'=H∧∀xs,b5 K H a xs→xs[i]? =some x,fun i H=>∃xs,b5 K H a xs∧xs.length≤i⟩
def Ei (lo:Int) (n:Nat):It:=⟨fun i _=>i<n,fun i H x H'=>H'=H∧x= .int (lo+i),fun i _=>n≤i⟩
theorem CM {P:Program} {w:World} {K:PySem.W.Frag} {tg:Expr} (a it:Addr):Turn P w K tg (AZ K a) [it] it (fun i h=>h.IsListIter it a i) where
 mem:=by simp
 obj:=fun i h st b hb=>by
  have e:b=it:=by simpa using hb
  subst e
  obtain⟨o,e,c,d⟩:=st
  exact⟨o,e,fun v z=>by rw[d] at z;cases z⟩
 keep:=fun i h h' st k=>st.at fun o e=>k it (by simp) o e
 item:=by
  intro X hP hw hK hc i pins s σ H E I hf st hg
  subst hP hw hK
  obtain⟨xs,x,hq,hx⟩:=hg
  obtain⟨its,rv,p,hz⟩:=I.list hq
  obtain⟨u,hu,ru⟩:=rv.get hx
  obtain⟨f0,f1,f2,f3,f4,f5⟩:=hf it (by simp)
  refine wpAny_pyNext_list_item st p.isList (x:=u) (by simpa using hu) fun h' A0 sb=>?_
  have I1:Inv X pins σ H { s with heap:=h' }:=I.turned (t':=s.toks) (fun b o hb e=>(sb.2 b hb).trans e) f0 f1 f3 f4 f5
  obtain⟨o,e,c,d⟩:=id A0
  exact⟨u,rfl,AY (s:={ s with heap:=h' }) e c d (by decide) ⟨x,H,I1,ru,⟨rfl,fun ys hy=>by rw[I.xF hy hq];exact hx⟩,A0,fun b hb=>(hf b hb).1⟩⟩
 done:=by
  intro X hP hw hK hc i pins s σ H E I hf st hg
  subst hP hw hK
  obtain⟨xs,hq,hx⟩:=hg
  obtain⟨its,rv,p,hz⟩:=I.list hq
  obtain⟨f0,f1,f2,f3,f4,f5⟩:=hf it (by simp)
  have hl:=rv.length
  exact wpAny_pyNext_list_end (I.ok.hd hc) st p.isList (by simp;omega) fun h' eb=>⟨rfl,I.turned (t':=s.toks) (fun b o hb e=>eb b o hb e) f0 f1 f3 f4 f5⟩
 self:=fun _ _ _ _ _ st h=>wpAny_pyIter_listiter st h
theorem zF {P:Program} {w:World} {K:PySem.W.Frag} {tg:Expr} (it:Addr) (lo:Int) (n:Nat):Turn P w K tg (Ei lo n) [it] it (fun i h=>IsRangeIter h it (lo+(i:Nat)*1) ((n:Int) - (i:Nat)) 1) where
 mem:=by simp
 obj:=fun i h st b hb=>by
  have e:b=it:=by simpa using hb
  subst e
  exact⟨_,st,fun v z=>by
   have z':Data.fields _=Data.cell v:=z
   cases z'⟩
 keep:=fun i h h' st k=>k it (by simp) _ st
 item:=by
  intro X hP hw hK hc i pins s σ H E I hf st hg
  subst hP hw hK
  obtain⟨f0,f1,f2,f3,f4,f5⟩:=hf it (by simp)
  have W:=Walks.range (prog:=X.prog) (w:=X.w) (I.ok.hd hc) it lo 1 n
  refine W.item i s _ _ hg st fun v h' tk hv A0 kk=>?_
  obtain⟨t,rfl⟩:=hv
  have I1:Inv X pins σ H { s with heap:=h',toks:=tk }:=I.turned (fun b o hb e=>kk b o (by simpa using hb) e) f0 f1 f3 f4 f5
  refine⟨_,rfl,AY (s:={ s with heap:=h',toks:=tk }) (n:="range_iterator") A0 rfl rfl (by decide) ⟨.int (lo+i),H,I1,⟨t,?_⟩,⟨rfl,rfl⟩,A0,fun b hb=>(hf b hb).1⟩⟩
  rw[Int.mul_one]
 done:=by
  intro X hP hw hK hc i pins s σ H E I hf st hg
  subst hP hw hK
  obtain⟨f0,f1,f2,f3,f4,f5⟩:=hf it (by simp)
  exact wpAny_pyNext_range_end (I.ok.hd hc) st (by have:n≤i:=hg;omega) fun h' eb=>⟨rfl,I.turned (t':=s.toks) (fun b o hb e=>eb b o hb e) f0 f1 f3 f4 f5⟩
 self:=fun _ _ _ _ _ st h=>wpAny_pyIter_rangeiter st h
end L2
namespace L2
open PySem PySem.Spec PyProof.Rows
section
variable {X:Cx} {tg:Expr}
def Qj (K:PySem.W.Frag) (tl:TE):TI:=fun σ H R=>tl σ H fun x H1=>∃a,x= .ref a∧(∃xs,b5 K H1 a xs)∧R (AZ K a) H1
theorem cN {l:Expr} {tl:TE} (hl:PE X l tl):PI X tg l (Qj X.K tl):=by
 intro pins s σ H R I h
 refine bZ (hl pins s σ H _ I h) fun v s1 ⟨x,H1,I1,r1,q1⟩=>?_
 obtain⟨a,e,⟨xs,hq⟩,q⟩:=q1
 subst e
 cases r1
 obtain⟨its,rv,p,hz⟩:=I1.list hq
 refine wpAny_pyIter_list p.isList ?_
 refine⟨s1.heap.objs.size,[s1.heap.objs.size],_,_,H1,rfl,I1.kept (t':=s1.toks) fun b o e=>Heap.get?_push_of_some _ e,CM a _,⟨_,Heap.get?_push_size _ rfl,rfl,rfl⟩,fun b hb=>?_,q⟩
 have e:b=s1.heap.objs.size:=by simpa using hb
 subst e
 exact I1.zE (Nat.le_refl _) (I1.aS.fresh (Nat.le_refl _))
theorem EF {pins:List (Addr×Obj)} {σ:St} {H:Hp} {s:Shared} {R:It→Hp→Prop} {E:Value→Shared→Prop} {lo hi:Int} {t u v:Tok} {tk:Nat} (I:Inv X pins σ H s) (h1: -(2^62)≤lo) (h2:lo<2^62) (h3: -(2^62)≤hi) (h4:hi<2^62)
  (q:R (Ei lo (hi - lo).toNat) H):wpAny (model X.prog X.w) X.A (pyIter (.ref s.heap.objs.size)) (PIE X pins σ tg R) E { s with heap:=s.heap.push { cls:= .type "range",data:= .fields #[.int lo t, .int hi u, .int 1 v] },toks:=tk }:=by
 refine wpAny_pyIter_range (IsRange.new ..) (small_one h1 h2 h3 h4) ?_
 have I1:Inv X pins σ H { s with heap:=s.heap.push { cls:= .type "range",data:= .fields #[.int lo t, .int hi u, .int 1 v] },toks:=tk }:=I.kept fun b o e=>Heap.get?_push_of_some _ e
 refine⟨(s.heap.push { cls:= .type "range",data:= .fields #[.int lo t, .int hi u, .int 1 v] }).objs.size,[(s.heap.push { cls:= .type "range",data:= .fields #[.int lo t, .int hi u, .int 1 v] }).objs.size],_,_,H,rfl,
  I1.kept (t':=tk) fun b o e=>Heap.get?_push_of_some _ e,zF _ lo (hi - lo).toNat,?_,fun b hb=>?_,q⟩
 ·have e1:lo+((0 :Nat):Int)*1=lo:=by simp
  have e2:(((hi - lo).toNat:Nat):Int) - ((0 :Nat):Int)=Builtin.Range.rangeSize lo hi 1:=by rw[rangeSize_one];split<;>omega
  show IsRangeIter _ _ (lo+((0 :Nat):Int)*1) ((((hi - lo).toNat:Nat):Int) - ((0 :Nat):Int)) 1
  rw[e1,e2]
  exact Heap.get?_push_size _ rfl
 ·have e:b=(s.heap.push { cls:= .type "range",data:= .fields #[.int lo t, .int hi u, .int 1 v] }).objs.size:=by simpa using hb
  subst e
  exact I1.zE (Nat.le_refl _) (I1.aS.fresh (Nat.le_refl _))
def Qk (ta:TA):TI:=fun σ H R=>ta σ H fun vs H1=>∃j:Int,vs=[.int j]∧ -(2^62)≤j∧j<2^62∧R (Ei 0 j.toNat) H1
theorem gP {a:Expr} {ta:TA} {p pos:Pos} (hg:Gl X "range") (hm:X.mg "range" =none) (ha:PA X [a] ta) (hs:starEach [a] X.env=[(false,eval a X.env)]:=by rfl):PI X tg (.Call (.Name "range" p) [a] [] pos) (Qk ta):=by
 intro pins s σ H R I h
 refine Call_ (nQ I hg hm boot_range (PyProof.Rows.callWith_type1 (bZ (ha pos pins s σ H _ I h) fun us s1 ⟨vs,H1,I1,r1,q1⟩=>?_) hs rfl))
 obtain⟨j,e,q1,q2,q⟩:=q1
 subst e
 cases r1 with
 |cons r rr=>
  cases rr
  obtain⟨t,rfl⟩:=r
  exact call_range_1 (EF I1 (by omega) (by omega) q1 q2 (by simpa using q))
def Mw (wi:TI) (g:TG) (tb:TS):TS:=fun D σ H=>wi σ H fun J H1=>∃W:Nat→Nat→St→Hp→Prop,(∃m,W 0 m σ H1)∧∀i m σ H,W i m σ H→
 (J.stop i H∧D.nx σ H)∨(J.go i H∧∃N:St→Hp→Prop,(∀σ' H',N σ' H'→∃m',m'<m∧W (i+1) m' σ' H')∧∀x H',J.pE i H x H'→g x σ H' fun σ2 H2=>tb { D with nx:=N,ct:=N,bk:=D.nx } σ2 H2)
def qq (fp:List Addr) (h:Heap):List (Addr×Obj):=fp.filterMap fun b=>(h.get? b).map fun o=>(b,o)
theorem jq {fp:List Addr} {h:Heap} {b:Addr} {o:Obj} (hb:b∈fp) (e:h.get? b=some o):(b,o)∈qq fp h:=List.mem_filterMap.mpr ⟨b,hb,by rw[e];rfl⟩
theorem CN {fp:List Addr} {h:Heap} {p:Addr×Obj} (hp:p∈qq fp h):p.1∈fp∧h.get? p.1=some p.2:=by
 obtain⟨b,hb,e⟩:=List.mem_filterMap.mp hp
 cases q:h.get? b with
 |none=>rw[q] at e;cases e
 |some o=>
  rw[q] at e
  have e':(b,o)=p:=Option.some.inj e
  subst e'
  exact⟨hb,q⟩
theorem Inv.pinned {pins:List (Addr×Obj)} {σ:St} {H:Hp} {s:Shared} {fp:List Addr} (I:Inv X pins σ H s) (hf:∀b∈fp,lA X pins H b) (ho:∀b∈fp,∃o,s.heap.get? b=some o∧∀v,o.data≠ .cell v):Inv X (pins++qq fp s.heap) σ H s:=
 I.u6 fun p hp=>(List.mem_append.mp hp).elim (fun z=>I.pin p (List.mem_append_right _ z)) fun z=>by
   obtain⟨hb,e⟩:=CN z
   obtain⟨f0,f1,f2,_⟩:=hf p.1 hb
   obtain⟨o,e',d⟩:=ho p.1 hb
   rw[e] at e';cases e'
   exact⟨e,f0,f1,f2,d⟩
theorem Inv.f6 {pins pl:List (Addr×Obj)} {σ:St} {H:Hp} {s:Shared} (I:Inv X (pins++pl) σ H s):Inv X pins σ H s:=I.u6 fun p hp=>I.pin p (List.mem_append_right _ (List.mem_append_left _ hp))
theorem bW {iter:Expr} {body:List Stmt} {wi:TI} {g:TG} {tb:TS} {pos:Pos} (hp:PassesOwn (model X.prog X.w) X.A X.env X.xe) (hc:X.calm=true) (hi:PI X tg iter wi) (hg:PG X tg g) (hb:lM X body tb)
  (hs:∀x,foldedSetIterable iter X.env x=pure x:=by intro _;rfl):PS X (.For tg iter body [] pos) (Mw wi g tb):=by
 intro pins s σ H D I h
 refine wpAny_For (bZ (hi pins s σ H _ I h) fun v s1 h1=>bZ h1 fun Xd s2 h2=>?_) hs
 obtain⟨it,fp,tn,J,H2,e,I2,T,Iz,f2,W,⟨m0,w0⟩,turn⟩:=h2
 subst e
 have zG:∀{H':Hp},(∀b∈fp,H' b=none)→∀b∈fp,lA X pins H' b:=fun hn b hb=>⟨hn b hb,(f2 b hb).2⟩
 refine codeAny_forLoop_any (fun n s'=>∃i σ' H',Inv X pins σ' H' s'∧tn i s'.heap∧(∀b∈fp,H' b=none)∧W i n σ' H') ?_ m0 ⟨0,σ,H2,I2,Iz,fun b hb=>(f2 b hb).1,w0⟩
 rintro n s3 ⟨i,σ3,H3,I3,Xe,fr3,w3⟩
 rcases turn i n σ3 H3 w3 with ⟨stop,qn⟩ | ⟨go,N,hN,step⟩
 ·refine wpAny_passesOwn hp (bZ (T.done X rfl rfl rfl hc i pins s3 σ3 H3 X.xe I3 (zG fr3) Xe stop) fun r s4 ⟨hr,I4⟩=>?_)
  subst hr
  exact wpAny_execs_nil ⟨σ3,H3,I4,qn⟩
 ·refine wpAny_passesOwn hp (bZ (T.item X rfl rfl rfl hc i pins s3 σ3 H3 X.xe I3 (zG fr3) Xe go) fun r s4 ⟨u,hr,h4⟩=>?_)
  subst hr
  refine wpAny_passesOwn hp (bZ h4 fun _ s5 ⟨x,H5,I5,r5,y5,Yo,fr5⟩=>?_)
  have I5':=I5.pinned (zG fr5) (T.obj _ _ Yo)
  refine wpAny_passesOwn hp (bZ (hg _ s5 σ3 H5 x u _ I5' r5 (step x H5 y5)) fun _ s6 ⟨σ6,H6,I6,q6⟩=>?_)
  refine wpAny_passesOwn hp (bZ (hb _ s6 σ6 H6 _ I6 q6) fun f s7 q7=>?_)
  have again:∀{σ7:St} {H7:Hp},Inv X (pins++qq fp s5.heap) σ7 H7 s7→N σ7 H7→∃m,m<n∧∃i σ' H',Inv X pins σ' H' s7∧tn i s7.heap∧(∀b∈fp,H' b=none)∧W i m σ' H':=fun {σ7 H7} I7 n7=>by
   obtain⟨m',hm,w7⟩:=hN σ7 H7 n7
   refine⟨m',hm,i+1,σ7,H7,I7.f6,T.keep _ _ _ Yo fun b hb o e=>(I7.pin (b,o) (List.mem_append_right _ (List.mem_append_right _ (jq hb e)))).1,fun b hb=>?_,w7⟩
   obtain⟨o,e,d⟩:=T.obj _ _ Yo b hb
   exact(I7.pin (b,o) (List.mem_append_right _ (List.mem_append_right _ (jq hb e)))).2.1
  cases f with
  |next=>obtain⟨σ7,H7,I7,n7⟩:=q7;exact again I7 n7
  |cont=>obtain⟨σ7,H7,I7,n7⟩:=q7;exact again I7 n7
  |brk=>obtain⟨σ7,H7,I7,q7⟩:=q7;exact⟨σ7,H7,I7.f6,q7⟩
  |ret v=>obtain⟨x7,σ7,H7,I7,r7,q7⟩:=q7;exact⟨x7,σ7,H7,I7.f6,r7,q7⟩
end
theorem fb {K:PySem.W.Frag} {a:Addr} {xs:List V} {g:TG} {tb:TS} {D:Ends} {σ:St} {H:Hp} (Pv:Nat→St→Hp→Prop) (h0:Pv 0 σ H) (hl:∀i σ H,i≤xs.length→Pv i σ H→b5 K H a xs)
  (hs:∀i x σ H,xs[i]? =some x→Pv i σ H→g x σ H fun σ2 H2=>tb { D with nx:=Pv (i+1),ct:=Pv (i+1),bk:=D.nx } σ2 H2) (hd:∀σ H,Pv xs.length σ H→D.nx σ H):
  ∃W:Nat→Nat→St→Hp→Prop,(∃m,W 0 m σ H)∧∀i m σ H,W i m σ H→
   ((AZ K a).stop i H∧D.nx σ H)∨((AZ K a).go i H∧∃N:St→Hp→Prop,(∀σ' H',N σ' H'→∃m',m'<m∧W (i+1) m' σ' H')∧∀x H',(AZ K a).pE i H x H'→g x σ H' fun σ2 H2=>tb { D with nx:=N,ct:=N,bk:=D.nx } σ2 H2):=by
 refine⟨fun i m σ H=>m=xs.length - i∧i≤xs.length∧Pv i σ H,⟨xs.length,by simp,Nat.zero_le _,h0⟩,?_⟩
 rintro i m σ H ⟨rfl,hi,p⟩
 have q:=hl i σ H hi p
 by_cases sr:i<xs.length
 ·refine .inr ⟨⟨xs,xs[i],q,by simp [sr]⟩,Pv (i+1),fun σ' H' p'=>⟨xs.length - (i+1),by omega,rfl,sr,p'⟩,fun x H' y=>?_⟩
  obtain⟨e,y⟩:=y
  subst e
  exact hs i x σ _ (y xs q) p
 ·have e:i=xs.length:=by omega
  subst e
  exact .inl ⟨⟨xs,q,Nat.le_refl _⟩,hd σ H p⟩
theorem kE {lo:Int} {n:Nat} {g:TG} {tb:TS} {D:Ends} {σ:St} {H:Hp} (Pv:Nat→St→Hp→Prop) (h0:Pv 0 σ H)
  (hs:∀i σ H,i<n→Pv i σ H→g (.int (lo+i)) σ H fun σ2 H2=>tb { D with nx:=Pv (i+1),ct:=Pv (i+1),bk:=D.nx } σ2 H2) (hd:∀σ H,Pv n σ H→D.nx σ H):
  ∃W:Nat→Nat→St→Hp→Prop,(∃m,W 0 m σ H)∧∀i m σ H,W i m σ H→
   ((Ei lo n).stop i H∧D.nx σ H)∨((Ei lo n).go i H∧∃N:St→Hp→Prop,(∀σ' H',N σ' H'→∃m',m'<m∧W (i+1) m' σ' H')∧∀x H',(Ei lo n).pE i H x H'→g x σ H' fun σ2 H2=>tb { D with nx:=N,ct:=N,bk:=D.nx } σ2 H2):=by
 refine⟨fun i m σ H=>m=n - i∧i≤n∧Pv i σ H,⟨n,by simp,Nat.zero_le _,h0⟩,?_⟩
 rintro i m σ H ⟨rfl,hi,p⟩
 by_cases sr:i<n
 ·refine .inr ⟨sr,Pv (i+1),fun σ' H' p'=>⟨n - (i+1),by omega,rfl,sr,p'⟩,fun x H' y=>?_⟩
  obtain⟨e,y⟩:=y
  subst e y
  exact hs i σ _ sr p
 ·have e:i=n:=by omega
  subst e
  exact .inl ⟨Nat.le_refl _,hd σ H p⟩
end L2
namespace L2
open PySem PySem.Spec PyProof.Rows
abbrev R2:=V→V→Hp→VK→Prop
def nR (X:Cx) (f:Value→Value→Sem Value) (r:R2):Prop:=
 ∀(pins:List (Addr×Obj)) (s:Shared) (σ:St) (H:Hp) (x y:V) (v u:Value) (Q:VK),Inv X pins σ H s→RelV x v→RelV y u→r x y H Q→
  wpAny (model X.prog X.w) X.A (f v u) (EP X pins σ Q) X.xe s
def Yp (X:Cx) (f:Value→Sem Value) (r:V→Hp→VK→Prop):Prop:=
 ∀(pins:List (Addr×Obj)) (s:Shared) (σ:St) (H:Hp) (x:V) (v:Value) (Q:VK),Inv X pins σ H s→RelV x v→r x H Q→
  wpAny (model X.prog X.w) X.A (f v) (EP X pins σ Q) X.xe s
def gy (X:Cx) (f:Value) (r:List V→Hp→VK→Prop):Prop:=
 ∀(pins:List (Addr×Obj)) (s:Shared) (σ:St) (H:Hp) (xs:List V) (us:List Value) (Q:VK),Inv X pins σ H s→Vals xs us→r xs H Q→
  wpAny (model X.prog X.w) X.A (call f us) (EP X pins σ Q) X.xe s
def Yq (X:Cx) (r:V→Hp→(Bool→Hp→Prop)→Prop):Prop:=
 ∀(pins:List (Addr×Obj)) (s:Shared) (σ:St) (H:Hp) (x:V) (v:Value) (Q:Bool→Hp→Prop),Inv X pins σ H s→RelV x v→r x H Q→
  wpAny (model X.prog X.w) X.A (truthy v) (TP X pins σ Q) X.xe s
def Mx (r:R2) (ta tb:TE):TE:=fun σ H Q=>ta σ H fun x H1=>tb σ H1 fun y H2=>r x y H2 Q
def tUn (r:V→Hp→VK→Prop) (ta:TE):TE:=fun σ H Q=>ta σ H fun x H1=>r x H1 Q
def rI (C:Int→Int→Prop) (g:Int→Int→V):R2:=fun x y H Q=>∃i j,x= .int i∧y= .int j∧C i j∧Q (g i j) H
def Ic (g:Int→Int→V):R2:=fun x y H Q=>∃i j,x= .int i∧y= .int j∧Q (g i j) H
def rU (g:Int→V):V→Hp→VK→Prop:=fun x H Q=>∃i,x= .int i∧Q (g i) H
section
variable {X:Cx} {a b c:Expr} {ta tb tc:TE} {pos:Pos}
theorem My (ha:PE X a ta) (hb:PE X b tb) {pins:List (Addr×Obj)} {s:Shared} {σ:St} {H:Hp} {R:V→V→Hp→Prop} (I:Inv X pins σ H s)
  (h:ta σ H fun x H1=>tb σ H1 fun y H2=>R x y H2) {Q:Value→Shared→Prop} {f:Value→Value→Sem Value}
  (hf:∀v u s2 x y H2,Inv X pins σ H2 s2→RelV x v→RelV y u→R x y H2→wpAny (model X.prog X.w) X.A (f v u) Q X.xe s2):
  wpAny (model X.prog X.w) X.A (eval a X.env) (fun v s₁=>wpAny (model X.prog X.w) X.A (eval b X.env) (fun u s₂=>wpAny (model X.prog X.w) X.A (f v u) Q X.xe s₂) X.xe s₁) X.xe s:=by
 refine bZ (ha pins s σ H _ I h) fun v s1 ⟨x,H1,I1,r1,q1⟩=>?_
 refine bZ (hb pins s1 σ H1 _ I1 q1) fun u s2 ⟨y,H2,I2,r2,q2⟩=>?_
 exact hf v u s2 x y H2 I2 r1 r2 q2
theorem aE {op:Operator} {r:R2} (ho:nR X (binaryOp op) r) (ha:PE X a ta) (hb:PE X b tb):PE X (.BinOp a op b pos) (Mx r ta tb):=by
 intro pins s σ H Q I h
 exact wpAny_BinOp (My ha hb I h fun v u s2 x y H2 I2 rx ry q=>ho pins s2 σ H2 x y v u Q I2 rx ry q)
theorem oW {op:UnaryOp} {r:V→Hp→VK→Prop} (ho:Yp X (unaryOp op) r) (ha:PE X a ta):PE X (.UnaryOp op a pos) (tUn r ta):=by
 intro pins s σ H Q I h
 exact UnaryOp_ (bZ (ha pins s σ H _ I h) fun v s1 ⟨x,H1,I1,r1,q1⟩=>ho pins s1 σ H1 x v Q I1 r1 q1)
theorem Ql {f:Value→Value→Sem Value} {C:Int→Int→Prop} {g:Int→Int→Int}
  (rule:∀(i j:Int) (t u:Tok) (s:Shared) (Q:Value→Shared→Prop) (E:Value→Shared→Prop),C i j→Q (.int (g i j) s.toks) { s with toks:=s.toks+1 }→wpAny (model X.prog X.w) X.A (f (.int i t) (.int j u)) Q E s):
  nR X f (rI C fun i j=> .int (g i j)):=by
 intro pins s σ H x y v u Q I rx ry h
 obtain⟨i,j,rfl,rfl,hc,q⟩:=h
 obtain⟨t,rfl⟩:=rx
 obtain⟨t',rfl⟩:=ry
 exact rule i j t t' s _ _ hc ⟨.int (g i j),H,I.tok _,⟨_,rfl⟩,q⟩
theorem Qm {f:Value→Value→Sem Value} {g:Int→Int→Int}
  (rule:∀(i j:Int) (t u:Tok) (s:Shared) (Q:Value→Shared→Prop) (E:Value→Shared→Prop),Q (.int (g i j) s.toks) { s with toks:=s.toks+1 }→wpAny (model X.prog X.w) X.A (f (.int i t) (.int j u)) Q E s):
  nR X f (Ic fun i j=> .int (g i j)):=by
 intro pins s σ H x y v u Q I rx ry h
 obtain⟨i,j,rfl,rfl,q⟩:=h
 obtain⟨t,rfl⟩:=rx
 obtain⟨t',rfl⟩:=ry
 exact rule i j t t' s _ _ ⟨.int (g i j),H,I.tok _,⟨_,rfl⟩,q⟩
theorem IA {f:Value→Value→Sem Value} {g:Int→Int→Bool}
  (rule:∀(i j:Int) (t u:Tok) (s:Shared) (Q:Value→Shared→Prop) (E:Value→Shared→Prop),Q (.bool (g i j)) s→wpAny (model X.prog X.w) X.A (f (.int i t) (.int j u)) Q E s):
  nR X f (Ic fun i j=> .bl (g i j)):=by
 intro pins s σ H x y v u Q I rx ry h
 obtain⟨i,j,rfl,rfl,q⟩:=h
 obtain⟨t,rfl⟩:=rx
 obtain⟨t',rfl⟩:=ry
 exact rule i j t t' s _ _ ⟨.bl (g i j),H,I,rfl,q⟩
def Yr (i j:Int):Prop:=0<j∧j<1073741824
def Ys (i j:Int):Prop:=0≤j∧j≤1000000∧i.natAbs<2^64
def IB (i j:Int):Prop:=(-(2^64) <i∧i<2^64)∨(-(2^64) <j∧j<2^64)
theorem IB.ok {i j:Int} (h:IB i j):IntMulOk i j:=by
 rcases h with ⟨h1,h2⟩ | ⟨h1,h2⟩
 ·exact .of_left (intBits_le_64 h1 h2)
 ·exact .of_right (intBits_le_64 h1 h2)
theorem cf:nR X (binaryOp .Add) (Ic fun i j=> .int (i+j)):=Qm fun _ _ _ _ _ _ _ q=>add_int q
theorem j3:nR X (binaryOp .Sub) (Ic fun i j=> .int (i - j)):=Qm fun _ _ _ _ _ _ _ q=>sub_int q
theorem gT:nR X (binaryOp .Mult) (rI IB fun i j=> .int (i*j)):=Ql fun _ _ _ _ _ _ _ hc q=>mul_int q hc.ok
theorem cY:nR X (binaryOp .FloorDiv) (rI Yr fun i j=> .int (i/j)):=Ql fun i j _ _ _ _ _ hc q=>by
 have h1:(0 :Int) <j:=hc.1
 have h2:j<1073741824:=hc.2
 exact floordiv_int (by omega) (by rw[Int.fdiv_eq_ediv_of_nonneg i (by omega)];exact q) (.inl (PyProof.noPylong_small (by omega)))
theorem cK:nR X (binaryOp .Mod) (rI (fun _ j=>0<j) fun i j=> .int (i%j)):=Ql fun i j _ _ _ _ _ hc q=>by
 have h1:(0 :Int) <j:=hc
 exact mod_int' (by omega) (by rw[Int.fmod_eq_emod_of_nonneg i (by omega)];exact q)
theorem Mz:nR X (binaryOp .Pow) (rI Ys fun i j=> .int (i^j.toNat)):=Ql fun _ _ _ _ _ _ _ hc q=>pow_int_small hc.1 hc.2.1 hc.2.2 q
theorem unI {f:Value→Sem Value} {g:Int→Int}
  (rule:∀(i:Int) (t:Tok) (s:Shared) (Q:Value→Shared→Prop) (E:Value→Shared→Prop),Q (.int (g i) s.toks) { s with toks:=s.toks+1 }→wpAny (model X.prog X.w) X.A (f (.int i t)) Q E s):
  Yp X f (rU fun i=> .int (g i)):=by
 intro pins s σ H x v Q I rx h
 obtain⟨i,rfl,q⟩:=h
 obtain⟨t,rfl⟩:=rx
 exact rule i t s _ _ ⟨.int (g i),H,I.tok _,⟨_,rfl⟩,q⟩
theorem j4:Yp X (unaryOp .USub) (rU fun i=> .int (-i)):=unI fun _ _ _ _ _ q=>neg_int q
end
def Qn:V→V→Bool
 | .cU, .cU=>true| .cU, .int _=>true| .int _, .cU=>true| .cU, .bl _=>true| .bl _, .cU=>true| .cU, .str _=>true| .str _, .cU=>true
 | .int _, .int _=>true| .bl _, .bl _=>true| .str _, .str _=>true| .zB _, .zB _=>true
 | .int _, .str _=>true| .str _, .int _=>true| .bl _, .str _=>true| .str _, .bl _=>true
 |_,_=>false
def rEq:R2:=fun x y H Q=>Qn x y=true∧Q (.bl (decide (x=y))) H
def rNe:R2:=fun x y H Q=>Qn x y=true∧Q (.bl (!decide (x=y))) H
theorem A1 {i j:Int}:decide (V.int i=V.int j)=(i==j):=by
 rw[Bool.eq_iff_iff]
 simp
theorem EG {i j:Bool}:decide (V.bl i=V.bl j)=(i==j):=by
 rw[Bool.eq_iff_iff]
 simp
theorem A2 {i j:Str}:decide (V.str i=V.str j)=(i==j):=by
 rw[Bool.eq_iff_iff]
 simp
theorem A3 {i j:Array UInt8}:decide (V.zB i=V.zB j)=(i.toList==j.toList):=by
 rw[Bool.eq_iff_iff]
 cases i
 cases j
 simp
section
variable {X:Cx} {a b c:Expr} {ta tb tc:TE} {pos:Pos}
theorem bV {pins:List (Addr×Obj)} {σ:St} {H:Hp} {s:Shared} {Q:VK} {k k':Bool} (I:Inv X pins σ H s) (q:Q (.bl k) H) (e:k=k'):EP X pins σ Q (.bool k') s:=by
 subst e
 exact⟨.bl k,H,I,rfl,q⟩
theorem dZ:nR X (compareOp .Eq) rEq:=by
 intro pins s σ H x y v u Q I rx ry h
 obtain⟨hs,q⟩:=h
 cases x with
 |cU=>
  cases rx
  cases y with
  |cU=>cases ry;exact PySem.EqNone.eq_none_none (bV I q (by simp))
  |bl j=>cases ry;exact PySem.EqNone.eq_none_bool (bV I q (by simp))
  |int j=>obtain⟨t',rfl⟩:=ry;exact PySem.EqNone.eq_none_int (bV I q (by simp))
  |str j=>obtain⟨t',rfl⟩:=ry;exact PySem.EqNone.eq_none_str (bV I q (by simp))
  |_=>exact absurd (show false=true from hs) Bool.false_ne_true
 |bl i=>
  cases rx
  cases y with
  |cU=>cases ry;exact PySem.EqNone.eq_bool_none (bV I q (by simp))
  |bl j=>cases ry;exact eq_bool (bV I q EG)
  |str j=>obtain⟨t',rfl⟩:=ry;exact PySem.EqMixed.eq_bool_str (bV I q (by simp))
  |_=>exact absurd (show false=true from hs) Bool.false_ne_true
 |int i=>
  obtain⟨t,rfl⟩:=rx
  cases y with
  |cU=>cases ry;exact PySem.EqNone.eq_int_none (bV I q (by simp))
  |int j=>obtain⟨t',rfl⟩:=ry;exact eq_int (bV I q A1)
  |str j=>obtain⟨t',rfl⟩:=ry;exact PySem.EqMixed.eq_int_str (bV I q (by simp))
  |_=>exact absurd (show false=true from hs) Bool.false_ne_true
 |str i=>
  obtain⟨t,rfl⟩:=rx
  cases y with
  |cU=>cases ry;exact PySem.EqNone.eq_str_none (bV I q (by simp))
  |bl j=>cases ry;exact PySem.EqMixed.eq_str_bool (bV I q (by simp))
  |int j=>obtain⟨t',rfl⟩:=ry;exact PySem.EqMixed.eq_str_int (bV I q (by simp))
  |str j=>obtain⟨t',rfl⟩:=ry;exact eq_str (bV I q A2)
  |_=>exact absurd (show false=true from hs) Bool.false_ne_true
 |zB i=>
  obtain⟨t,rfl⟩:=rx
  cases y with
  |zB j=>obtain⟨t',rfl⟩:=ry;exact PySem.W.eq_bytes (bV I q A3)
  |_=>exact absurd (show false=true from hs) Bool.false_ne_true
 |_=>cases y<;>exact absurd (show false=true from hs) Bool.false_ne_true
theorem oX:nR X (compareOp .NotEq) rNe:=by
 intro pins s σ H x y v u Q I rx ry h
 obtain⟨hs,q⟩:=h
 cases x with
 |cU=>
  cases rx
  cases y with
  |cU=>cases ry;exact PySem.EqNone.ne_none_none (bV I q (by simp))
  |bl j=>cases ry;exact PySem.EqNone.ne_none_bool (bV I q (by simp))
  |int j=>obtain⟨t',rfl⟩:=ry;exact PySem.EqNone.ne_none_int (bV I q (by simp))
  |str j=>obtain⟨t',rfl⟩:=ry;exact PySem.EqNone.ne_none_str (bV I q (by simp))
  |_=>exact absurd (show false=true from hs) Bool.false_ne_true
 |bl i=>
  cases rx
  cases y with
  |cU=>cases ry;exact PySem.EqNone.ne_bool_none (bV I q (by simp))
  |bl j=>cases ry;exact ne_bool (bV I q (congrArg not EG))
  |str j=>obtain⟨t',rfl⟩:=ry;exact PySem.EqMixed.ne_bool_str (bV I q (by simp))
  |_=>exact absurd (show false=true from hs) Bool.false_ne_true
 |int i=>
  obtain⟨t,rfl⟩:=rx
  cases y with
  |cU=>cases ry;exact PySem.EqNone.ne_int_none (bV I q (by simp))
  |int j=>obtain⟨t',rfl⟩:=ry;exact ne_int (bV I q (congrArg not A1))
  |str j=>obtain⟨t',rfl⟩:=ry;exact PySem.EqMixed.ne_int_str (bV I q (by simp))
  |_=>exact absurd (show false=true from hs) Bool.false_ne_true
 |str i=>
  obtain⟨t,rfl⟩:=rx
  cases y with
  |cU=>cases ry;exact PySem.EqNone.ne_str_none (bV I q (by simp))
  |bl j=>cases ry;exact PySem.EqMixed.ne_str_bool (bV I q (by simp))
  |int j=>obtain⟨t',rfl⟩:=ry;exact PySem.EqMixed.ne_str_int (bV I q (by simp))
  |str j=>obtain⟨t',rfl⟩:=ry;exact ne_str (bV I q (congrArg not A2))
  |_=>exact absurd (show false=true from hs) Bool.false_ne_true
 |zB i=>
  obtain⟨t,rfl⟩:=rx
  cases y with
  |zB j=>obtain⟨t',rfl⟩:=ry;exact PySem.W.ne_bytes (bV I q (congrArg not A3))
  |_=>exact absurd (show false=true from hs) Bool.false_ne_true
 |_=>cases y<;>exact absurd (show false=true from hs) Bool.false_ne_true
theorem mh:nR X (compareOp .Lt) (Ic fun i j=> .bl (decide (i<j))):=IA fun _ _ _ _ _ _ _ q=>lt_int q
theorem K6:nR X (compareOp .LtE) (Ic fun i j=> .bl (decide (i≤j))):=IA fun _ _ _ _ _ _ _ q=>le_int q
theorem lF:nR X (compareOp .Gt) (Ic fun i j=> .bl (decide (j<i))):=IA fun _ _ _ _ _ _ _ q=>gt_int q
theorem Qo:nR X (compareOp .GtE) (Ic fun i j=> .bl (decide (j≤i))):=IA fun _ _ _ _ _ _ _ q=>ge_int q
theorem aV (b:Expr) {op:CmpOp} (h:op≠ .In:=by decide) (h2:op≠ .NotIn:=by decide):behindInMarks op b=false:=by
 have e1:(op==CmpOp.In)=false:=by cases op<;>first|rfl|exact absurd rfl h
 have e2:(op==CmpOp.NotIn)=false:=by cases op<;>first|rfl|exact absurd rfl h2
 cases b<;>simp [behindInMarks,e1,e2]
theorem ip {op:CmpOp} {r:R2} (ho:nR X (compareOp op) r) (ha:PE X a ta) (hb:PE X b tb) (hm:behindInMarks op b=false):PE X (.Compare a [op] [b] pos) (Mx r ta tb):=by
 intro pins s σ H Q I h
 exact wpAny_Compare1 (My ha hb I h fun v u s2 x y H2 I2 rx ry q=>ho pins s2 σ H2 x y v u Q I2 rx ry q) hm
def Qq (t:TE):TT:=fun σ H Q=>t σ H fun x H'=>∃k,x= .bl k∧Q k H'
theorem aP {op:CmpOp} {r:R2} (ho:nR X (compareOp op) r) (ha:PE X a ta) (hb:PE X b tb) (hm:behindInMarks op b=false):PT X (.Compare a [op] [b] pos) (Qq (Mx r ta tb)):=by
 intro pins s σ H Q I h
 refine wpAny_isTrue_Compare1 (bZ (ha pins s σ H _ I h) fun v s1 ⟨x,H1,I1,r1,q1⟩=>bZ (hb pins s1 σ H1 _ I1 q1) fun u s2 ⟨y,H2,I2,r2,q2⟩=>
  bZ (ho pins s2 σ H2 x y v u _ I2 r1 r2 q2) fun c s3 ⟨z,H3,I3,r3,k,e,q3⟩=>?_) hm
 subst e
 cases r3
 exact wpAny_truthy_bool ⟨H3,I3,q3⟩
def MA (r r':R2) (ta tb tc:TE):TE:=fun σ H Q=>ta σ H fun x H1=>tb σ H1 fun y H2=>r x y H2 fun z H3=>∃k,z= .bl k∧
 (if k=true then tc σ H3 fun w' H4=>r' y w' H4 Q else Q (.bl false) H3)
theorem qr {op Yt:CmpOp} {r r':R2} (ho:nR X (compareOp op) r) (xt:nR X (compareOp Yt) r') (ha:PE X a ta) (hb:PE X b tb) (hc:PE X c tc)
  (hm:lastMarks [op,Yt] [b,c]=false:=by with_unfolding_all rfl):PE X (.Compare a [op,Yt] [b,c] pos) (MA r r' ta tb tc):=by
 intro pins s σ H Q I h
 refine Compare_chain (bZ (ha pins s σ H _ I h) fun v s1 ⟨x,H1,I1,r1,q1⟩=>chain_link (bZ (hb pins s1 σ H1 _ I1 q1) fun u s2 ⟨y,H2,I2,r2,q2⟩=>
  bZ (ho pins s2 σ H2 x y v u _ I2 r1 r2 q2) fun d s3 ⟨z,H3,I3,r3,k,e,q3⟩=>?_)) hm
 subst e
 cases r3
 refine wpAny_truthy_bool ?_
 cases k with
 |false=>exact ite_ff ⟨.bl false,H3,I3,rfl,q3⟩
 |true=>exact ite_tt (chain_last (bZ (hc pins s3 σ H3 _ I3 q3) fun w' s4 ⟨z',H4,I4,r4,q4⟩=>xt pins s4 σ H4 y z' u w' Q I4 r2 r4 q4))
def Qr (K:PySem.W.Frag) (x:V) (H:Hp) (k:Bool):Prop:=
 match x with
 | .cU=>k=false
 | .bl b=>k=b
 | .int i=>k=(i != 0)
 | .str y=>y.length≤sizeLine∧k=((y.length:Int) != 0)
 | .zB y=>y.size≤sizeLine∧k=((y.size:Int) != 0)
 | .ref p=>(∃xs,b5 K H p xs∧k=!xs.isEmpty)∨(∃xs,iX K H p xs∧k=!xs.isEmpty)∨∃kvs,H p=some (.dK kvs)∧k=!kvs.isEmpty
 |_=>False
theorem zH {κ:Type} {kvs:List (κ×V)} {vs:List (κ×Value)} (r:KV kvs vs):(!vs.isEmpty)=!kvs.isEmpty:=by
 cases r<;>rfl
theorem qt {xs:List V} {its:List Value} (r:Vals xs its):(!its.toArray.isEmpty)=!xs.isEmpty:=by
 cases r<;>simp
theorem nS:(sizeLine:Nat) <2^63:=by rw[sizeLine_eq];decide
theorem MB:Yq X (fun x H Q=>∃k,Qr X.K x H k∧Q k H):=by
 intro pins s σ H x v Q I rx h
 obtain⟨k,e,q⟩:=h
 have hl:=nS
 have hs:sizeLine=16777216:=sizeLine_eq
 cases x with
 |cU=>
  cases rx
  have e':k=false:=e
  subst e'
  exact truthy_none ⟨H,I,q⟩
 |bl b=>
  cases rx
  have e':k=b:=e
  subst e'
  exact wpAny_truthy_bool ⟨H,I,q⟩
 |int i=>
  obtain⟨t,rfl⟩:=rx
  have e':k=(i != 0):=e
  subst e'
  exact PySem.P.truthy_int ⟨H,I,q⟩
 |str y=>
  obtain⟨t,rfl⟩:=rx
  obtain⟨hy,e'⟩:y.length≤sizeLine∧k=((y.length:Int) != 0):=e
  subst e'
  exact PySem.P.truthy_str (by omega) ⟨H,I.tok _,q⟩
 |zB y=>
  obtain⟨t,rfl⟩:=rx
  obtain⟨hy,e'⟩:y.size≤sizeLine∧k=((y.size:Int) != 0):=e
  subst e'
  exact PySem.W.truthy_bytes (by omega) ⟨H,I.tok _,q⟩
 |ref p=>
  cases rx
  have e':(∃xs,b5 X.K H p xs∧k=!xs.isEmpty)∨(∃xs,iX X.K H p xs∧k=!xs.isEmpty)∨∃kvs,H p=some (.dK kvs)∧k=!kvs.isEmpty:=e
  rcases e' with ⟨xs,hx,e'⟩ | ⟨xs,hx,e'⟩ | ⟨kvs,hx,e'⟩
  ·subst e'
   obtain⟨its,r,pl,hz⟩:=I.list hx
   have hlen:=r.length
   exact wpAny_truthy_list pl.isList (by simp only [List.size_toArray];omega) ⟨H,I.tok _,by rw[qt r];exact q⟩
  ·subst e'
   obtain⟨its,r,pl,hz⟩:=I.tuple hx
   have hlen:=r.length
   exact truthy_tuple pl (by simp only [List.size_toArray];omega) ⟨H,I.tok _,by rw[qt r];exact q⟩
  ·subst e'
   obtain⟨hz,hS,vs,r,m⟩:kvs.length≤sizeLine∧(p==sysModules)=false∧∃vs,KV kvs vs∧s.heap.DictOf (bE X.prog X.w) p vs:=I.aS p _ hx
   have hlen:kvs.length=vs.length:=Paired.length r
   exact wpAny_truthy_dict hS m (by omega) ⟨H,I.tok _,by rw[zH r];exact q⟩
 |_=>exact(show False from e).elim
theorem qu (ha:PE X a ta) (he:∀whole,isTrue a X.env whole=(do let v←whole;standAt a.pos;holding [v] (truthy v))):
  PT X a (fun σ H Q=>ta σ H fun x H'=>∃k,Qr X.K x H' k∧Q k H'):=by
 intro pins s σ H Q I h
 exact isTrue_plain (bZ (ha pins s σ H _ I h) fun v s1 ⟨x,H1,I1,r1,q1⟩=>MB pins s1 σ H1 x v Q I1 r1 q1) (he _)
theorem bq:nR X (binaryOp .Add) (fun x y H Q=>∃i j,x= .str i∧y= .str j∧i.length+j.length≤sizeLine∧Q (.str (i++j)) H):=by
 intro pins s σ H x y v u Q I rx ry h
 obtain⟨i,j,rfl,rfl,hz,q⟩:=h
 obtain⟨t,rfl⟩:=rx
 obtain⟨t',rfl⟩:=ry
 exact add_str (fun t' tk=>⟨.str (i++j),H,I.tok _,⟨_,rfl⟩,q⟩) hz
theorem vals1 {x:V} {us:List Value} (r:Vals [x] us):∃u,us=[u]∧RelV x u:=by
 cases r with
 |cons r1 r2=>cases r2;exact⟨_,rfl,r1⟩
theorem vals2 {x y:V} {us:List Value} (r:Vals [x,y] us):∃u w',us=[u,w']∧RelV x u∧RelV y w':=by
 cases r with
 |cons r1 r2=>
  cases r2 with
  |cons r3 r4=>cases r4;exact⟨_,_,rfl,r1,r3⟩
theorem xG:gy X (.builtin "abs") (fun xs H Q=>∃i,xs=[.int i]∧Q (.int (if i<0 then -i else i)) H):=by
 intro pins s σ H xs us Q I r h
 obtain⟨i,rfl,q⟩:=h
 obtain⟨u,rfl,t,rfl⟩:=vals1 r
 exact call_abs_int fun u tk=>⟨.int (if i<0 then -i else i),H,I.tok _,⟨_,rfl⟩,q⟩
theorem nU:gy X (.type "int") (fun xs H Q=>(∃i,xs=[.int i]∧Q (.int i) H)∨∃k,xs=[.bl k]∧Q (.int (if k then 1 else 0)) H):=by
 intro pins s σ H xs us Q I r h
 rcases h with ⟨i,rfl,q⟩ | ⟨k,rfl,q⟩
 ·obtain⟨u,rfl,t,rfl⟩:=vals1 r
  exact call_int_int ⟨.int i,H,I,⟨_,rfl⟩,q⟩
 ·obtain⟨u,rfl,r1⟩:=vals1 r
  cases r1
  exact call_int_bool ⟨.int (if k then 1 else 0),H,I.tok _,⟨_,rfl⟩,q⟩
theorem jr:gy X (.type "str") (fun xs H Q=>∃i,xs=[.int i]∧i.natAbs.log2<1920∧Q (.str (toString i)) H):=by
 intro pins s σ H xs us Q I r h
 obtain⟨i,rfl,hz,q⟩:=h
 obtain⟨u,rfl,t,rfl⟩:=vals1 r
 exact PySem.P.str_of_int hz ⟨.str _,H,I.tok _,⟨_,rfl⟩,q⟩
end
end L2
namespace L2
open PySem PySem.Spec PyProof.Rows
structure zI (h:Heap) (x dx C:Addr) (mA:Str→Option Value):Prop where
 obj:h.get? x=some (PySem.W.instObj C dx)
 ns:h.Ns1 dx mA
 ne:dx≠x
theorem nV {h:Heap} {dx:Addr} {mA:Str→Option Value} (n:h.Ns1 dx mA):∃od,h.get? dx=some od∧∀name,PySem.W.lookIn name od=some (mA name):=by
 obtain⟨o,es,ep,ho,hd,hk,_,hm⟩:=n
 refine⟨o,ho,fun name=>?_⟩
 have e:=hm name
 unfold nsFind findBy at e
 rw[←Array.find?_toList] at e
 unfold PySem.W.lookIn
 rw[hd]
 dsimp only
 split
 ·rename_i y q
  rw[q] at e
  exact congrArg some e
 ·rename_i q
  rw[q] at e
  have a:es.toList.any (·.refKey)=false:=by
   rw[List.any_eq_false]
   intro y hy
   obtain⟨z,t,IC⟩:=hk y (Array.mem_toList_iff.mp hy)
   simp [DictEntry.refKey,IC]
  have a':¬es.toList.any (·.refKey)=true:=by rw[a];exact Bool.false_ne_true
  rw[if_neg a']
  exact congrArg some e
theorem zI.look {h:Heap} {x dx C:Addr} {mA:Str→Option Value} (I:zI h x dx C mA):∃od,PySem.W.InstAt h x (PySem.W.instObj C dx) C (some od)∧∀name,PySem.W.lookIn name od=some (mA name):=
 let ⟨od,ho,hl⟩:=nV I.ns
 ⟨od,⟨I.obj,rfl,rfl,ho⟩,hl⟩
section
variable {prog:Program} {w:World} {A:Around} {E:Value→Shared→Prop} {s:Shared} {K:PySem.W.Frag} {x dx C f:Addr} {mA:Str→Option Value} {name:Str} {v:Value}
theorem get_map {expr:Bool} {Q:Value→Shared→Prop} (X:K.In s.heap) (I:zI s.heap x dx C mA) (hg:PySem.W.plainGet K C name=true) (hh:PySem.W.hasDictIn K C=true)
  (ha:PySem.W.findIn K (.ref C) name=some none) (hv:mA name=some v) (hv':PySem.W.handedIn v=true) (h:Q v { s with toks:=s.toks+1 }):
  wpAny (model prog w) A (getAttr (.ref x) name expr) Q E s:=by
 obtain⟨od,J,hl⟩:=I.look
 exact PySem.W.get_value X J (PySem.W.plainGet_of hg).1 (PySem.W.findObj_own hh ha rfl (by rw[hl,hv])) hv' h
theorem EH {pl:Sem Bool} {Q:Value×List Value→Shared→Prop} (X:K.In s.heap) (I:zI s.heap x dx C mA) (hg:PySem.W.plainGet K C name=true)
  (hf:PySem.W.findIn K (.ref C) name=some (some (.ref f))) (ht:PySem.W.isFn K (.ref f)=true) (hv:mA name=none) (h:Q (.ref f,[.ref x]) s):
  wpAny (model prog w) A (getMethod (.ref x) name pl) Q E s:=by
 obtain⟨od,J,hl⟩:=I.look
 exact PySem.W.method_fn X J (PySem.W.plainGet_of hg).1 (PySem.W.plainGet_of hg).2 hf (beq_iff_eq.mp ht) (by show (PySem.W.lookIn name od).map (·.isSome)=some false;rw[hl,hv];rfl) h
theorem ID {ns:List Str} {Q:Unit→Shared→Prop} (X:K.In s.heap) (I:zI s.heap x dx C mA)
  (hs:PySem.W.findIn K (.ref C) "__setattr__" =some (some (.builtin "object.__setattr__"))) (hp:PySem.W.plainOver K C=true) (ht:PySem.W.takerIn K C name=some none) (hh:PySem.W.hasDictIn K C=true)
  (hw:PySem.Within mA ns) (hsz:ns.length≤sizeLine)
  (h:∀h',zI h' x dx C (fun y=>if y=name then some v else mA y)→Heap.SameBut dx s.heap h'→Q () { s with heap:=h',toks:=s.toks+2 }):
  wpAny (model prog w) A (setAttr (.ref x) name v) Q E s:=by
 obtain⟨od,J,hl⟩:=I.look
 refine PySem.W.set_plain X J hs (PySem.W.osa_open (s:={ s with toks:=s.toks+1 }) (r:=none) X J hp ht fun b=>?_)
 obtain⟨cd,hc,fK⟩:=PySem.W.any_some hh
 have hx:s.heap.get? x=some ⟨.ref C,some dx, .plain,#[]⟩:=I.obj
 refine wpAny_bind (wpAny_pure (wpAny_bind (wpAny_bind (wpAny_loadPart hx (wpAny_bind (PySem.W.Looks.here (s:={ s with toks:=s.toks+1 }) (PySem.W.looks_clsIn X hc) ?_))))))
 rw[fK]
 refine wpAny_pure (a:=some dx) (wpAny_bind (wpAny_pure (wpAny_bind ?_)))
 refine wpAny_nsSet1 (s:={ s with toks:=s.toks+1 }) I.ns fun h' K7 hs2=>?_
 obtain⟨oD,esD,epD,hoD,hdD,IE⟩:=K7.count (PySem.Within.cons name v hw)
 refine wpAny_bind (wpAny_lookBehind hoD (by rw[hdD];exact pastItsLine_dict (Nat.le_trans IE (by rw[List.length_cons];omega))) ?_)
 exact wpAny_pure (h _ ⟨(hs2.2 _ (Ne.symm I.ne)).trans I.obj,K7,I.ne⟩ hs2)
theorem EI {R:Result→Shared→Prop} {vs:List Value} {kw:List (Str×Value)} (X:K.In s.heap) (hm:PySem.W.makesIn K C=true)
  (hi:PySem.W.findIn K (.ref C) "__init__" =some (some (.ref f))) (hf:PySem.W.typeIn K (.ref f)=some (.type "function"))
  (h:codeAny (model prog w) (A.under (.builtin "type.__call__" ⟨.ref C::vs,kw⟩)) (.call (.ref f) ⟨.ref (s.heap.objs.size+1)::vs,kw⟩) (PySem.W.InitBack (s.heap.objs.size+1) R)
   { s with heap:=(s.heap.push PySem.W.emptyDict).push (PySem.W.instObj C s.heap.objs.size) }):
  codeAny (model prog w) A (.call (.ref C) ⟨vs,kw⟩) R s:=by
 obtain⟨hh,g,d,t,os⟩:=s
 exact PySem.W.make_core (PySem.W.makes_of X hm) (PySem.W.looks_findIn X hi) (fun self=>PySem.W.bind_fn X self hf) (.inl rfl) h
end
def cL (f:Str) (v:V):List (Str×V)→List (Str×V)
 | []=>[(f,v)]
 | (g,x)::r=>if g=f then (g,v)::r else (g,x)::cL f v r
theorem az (f g:Str) (v:V):∀fs:List (Str×V),(cL f v fs).lookup g=if g=f then some v else fs.lookup g
 | []=>by
   show List.lookup g [(f,v)]=_
   by_cases h:g=f
   ·have hb:(g==f)=true:=beq_iff_eq.mpr h
    simp only [List.lookup,hb,if_pos h]
   ·have hb:(g==f)=false:=beq_eq_false_iff_ne.mpr h
    simp only [List.lookup,hb,if_neg h]
 | (k,x)::r=>by
   have ih:=az f g v r
   rw[show cL f v ((k,x)::r)=(if k=f then (k,v)::r else (k,x)::cL f v r) from rfl]
   by_cases hk:k=f
   ·rw[if_pos hk]
    by_cases h:g=k
    ·have hb:(g==k)=true:=beq_iff_eq.mpr h
     simp only [List.lookup,hb,if_pos (h.trans hk)]
    ·have hb:(g==k)=false:=beq_eq_false_iff_ne.mpr h
     simp only [List.lookup,hb,if_neg (fun e:g=f=>h (e.trans hk.symm))]
   ·rw[if_neg hk]
    by_cases h:g=k
    ·have hb:(g==k)=true:=beq_iff_eq.mpr h
     simp only [List.lookup,hb,if_neg (fun e:g=f=>hk (h.symm.trans e))]
    ·have hb:(g==k)=false:=beq_eq_false_iff_ne.mpr h
     simp only [List.lookup,hb]
     exact ih
theorem iZ (f:Str) (v:V):∀fs:List (Str×V),f∈(cL f v fs).map (·.1)∧∀g,g∈fs.map (·.1)→g∈(cL f v fs).map (·.1)
 | []=>⟨by simp [cL],fun g h=>by simp at h⟩
 | (k,x)::r=>by
   obtain⟨i1,i2⟩:=iZ f v r
   rw[show cL f v ((k,x)::r)=(if k=f then (k,v)::r else (k,x)::cL f v r) from rfl]
   by_cases hk:k=f
   ·rw[if_pos hk]
    subst hk
    exact⟨by simp,fun g h=>by simpa using h⟩
   ·rw[if_neg hk]
    refine⟨?_,fun g h=>?_⟩
    ·rw[List.map_cons]
     exact List.mem_cons_of_mem _ i1
    ·rw[List.map_cons] at h ⊢
     rcases List.mem_cons.mp h with e|e
     ·exact List.mem_cons.mpr (.inl e)
     ·exact List.mem_cons_of_mem _ (i2 g e)
theorem f7 (f:Str) (v:V):∀fs:List (Str×V),(cL f v fs).length≤fs.length+1
 | []=>by simp [cL]
 | (k,x)::r=>by
   have ih:=f7 f v r
   rw[show cL f v ((k,x)::r)=(if k=f then (k,v)::r else (k,x)::cL f v r) from rfl]
   by_cases hk:k=f
   ·rw[if_pos hk,List.length_cons,List.length_cons];omega
   ·rw[if_neg hk,List.length_cons,List.length_cons];omega
theorem ij.some_of {v:V} {o:Option Value} (r:ij (some v) o):∃u,o=some u∧RelV v u:=by
 cases o with
 |none=>exact(show False from r).elim
 |some u=>exact⟨u,rfl,r⟩
theorem ij.none_of {o:Option Value} (r:ij none o):o=none:=by
 cases o with
 |none=>rfl
 |some u=>exact(show False from r).elim
theorem sP {v:V} {u:Value} (r:RelV v u):PySem.W.handedIn u=true:=by
 cases v with
 |cU=>cases (show u=Value.none from r);rfl
 |bl b=>cases (show u=Value.bool b from r);rfl
 |int i=>obtain⟨t,e⟩:=(show∃t,u=Value.int i t from r);cases e;rfl
 |str x=>obtain⟨t,e⟩:=(show∃t,u=Value.str x t from r);cases e;rfl
 |zB b=>obtain⟨t,e⟩:=(show∃t,u=Value.bytes b t from r);cases e;rfl
 |KY b=>obtain⟨t,e⟩:=(show∃t,u=Value.float b t from r);cases e;rfl
 |ref a=>cases (show u=Value.ref a from r);rfl
 |ty n=>cases (show u=Value.type n from r);rfl
section
variable {P:Program} {w:World} {H H':Hp} {h h':Heap} {a C dx:Addr} {fs Iq:List (Str×V)}
theorem pF (aS:jX P w H h) (e:H a=some (.ins C dx fs)):∃mA,zI h a dx C mA∧(∀f,ij (fs.lookup f) (mA f))∧PySem.Within mA (fs.map (·.1))∧fs.length≤1000∧H dx=some (.own a):=by
 obtain⟨d,z,ne,ob,mA,n,r,q⟩:=(show cq P w H h a (.ins C dx fs) from aS a _ e)
 exact⟨mA,⟨ob,n,ne⟩,r,q,z,d⟩
end
structure sy (K:PySem.W.Frag) (C:Addr):Prop where
 pg:PySem.W.plainGet K C Str.empty=true
 hd:PySem.W.hasDictIn K C=true
 po:PySem.W.plainOver K C=true
 sa:PySem.W.findIn K (.ref C) "__setattr__" =some (some (.builtin "object.__setattr__"))
theorem sy.get {K:PySem.W.Frag} {C:Addr} (c:sy K C) (f:Str):PySem.W.plainGet K C f=true:=c.pg
def cG (K:PySem.W.Frag) (C:Addr) (f:Str):Prop:=PySem.W.findIn K (.ref C) f=some none
theorem cG.Qs {K:PySem.W.Frag} {C:Addr} {f:Str} (n:cG K C f):PySem.W.takerIn K C f=some none:=by
 unfold PySem.W.takerIn
 rw[show PySem.W.findIn K (.ref C) f=some none from n]
 rfl
structure Meth (K:PySem.W.Frag) (C:Addr) (m:Str) (f:Addr):Prop where
 at_:PySem.W.findIn K (.ref C) m=some (some (.ref f))
 fn:PySem.W.isFn K (.ref f)=true
 kp:PySem.W.keepIn K (.ref f)=true
section
variable {X:Cx} {pins:List (Addr×Obj)} {σ:St} {H:Hp} {s:Shared} {a C dx:Addr} {fs:List (Str×V)} {f:Str} {v:V} {A:Around} {E:Value→Shared→Prop}
theorem qv {b:Bool} {Q:Value→Shared→Prop} (I:Inv X pins σ H s) (e:H a=some (.ins C dx fs)) (c:sy X.K C) (n:cG X.K C f) (l:fs.lookup f=some v)
  (h:∀u s',Inv X pins σ H s'→RelV v u→Q u s'):wpAny (model X.prog X.w) A (getAttr (.ref a) f b) Q E s:=by
 obtain⟨mA,O,r,_,_,_⟩:=pF I.aS e
 obtain⟨u,hu,ru⟩:=ij.some_of (v:=v) (o:=mA f) (by rw[←l];exact r f)
 exact get_map I.jl O (c.get f) c.hd n hu (sP ru) (h u _ (I.tok _) ru)
theorem lN {m:Str} {g:Addr} {pl:Sem Bool} {Q:Value×List Value→Shared→Prop} (I:Inv X pins σ H s) (e:H a=some (.ins C dx fs)) (c:sy X.K C) (k:Meth X.K C m g) (l:fs.lookup m=none)
  (h:Q (.ref g,[.ref a]) s):wpAny (model X.prog X.w) A (getMethod (.ref a) m pl) Q E s:=by
 obtain⟨mA,O,r,_,_,_⟩:=pF I.aS e
 have hn:mA m=none:=ij.none_of (by rw[←l];exact r m)
 exact EH I.jl O (c.get m) k.at_ k.fn hn h
theorem qw {y:V} {u:Value} {Q:Unit→Shared→Prop} (I:Inv X pins σ H s) (e:H a=some (.ins C dx fs)) (c:sy X.K C) (n:cG X.K C f) (hl:fs.length<1000) (ry:RelV y u)
  (h:∀s',Inv X pins σ (upd H a (.ins C dx (cL f y fs))) s'→Q () s'):wpAny (model X.prog X.w) A (setAttr (.ref a) f u) Q E s:=by
 obtain⟨mA,O,r,wi,_,ho⟩:=pF I.aS e
 have hz:(fs.map (·.1)).length≤sizeLine:=by rw[List.length_map,sizeLine_eq];omega
 refine ID I.jl O c.sa c.po n.Qs c.hd wi hz fun h' O' sb=>h _ ?_
 have hd:∃o,h'.get? dx=some o:=let ⟨o,_,_,e',_⟩:=O'.ns;⟨o,e'⟩
 refine I.write (x:=a) (e:=dx) (by rw[e];exact True.intro) (.inr ho) (fun b q hb z=>(sb.2 b hb).trans z) hd ?_
 refine⟨by rw[ah O.ne];exact ho,?_,O.ne,O'.obj,_,O'.ns,fun g=>?_,fun g hg=>?_⟩
 ·have:=f7 f y fs;omega
 ·show ij ((cL f y fs).lookup g) (if g=f then some u else mA g)
  rw[az]
  by_cases q:g=f
  ·rw[if_pos q,if_pos q];exact ry
  ·rw[if_neg q,if_neg q];exact r g
 ·by_cases q:g=f
  ·rw[q];exact(iZ f y fs).1
  ·refine(iZ f y fs).2 g (wi g fun z=>hg ?_)
   show (if g=f then some u else mA g)=none
   rw[if_neg q];exact z
theorem Inv.made (I:Inv X pins σ H s):Inv X pins σ (upd (upd H s.heap.objs.size (.own (s.heap.objs.size+1))) (s.heap.objs.size+1) (.ins C s.heap.objs.size []))
  { s with heap:=(s.heap.push PySem.W.emptyDict).push (PySem.W.instObj C s.heap.objs.size) }:=by
 have e1:(s.heap.push PySem.W.emptyDict).get? s.heap.objs.size=some PySem.W.emptyDict:=Heap.get?_push_size s.heap rfl
 have e2:((s.heap.push PySem.W.emptyDict).push (PySem.W.instObj C s.heap.objs.size)).get? (s.heap.objs.size+1)=some (PySem.W.instObj C s.heap.objs.size):=by
  have:=Heap.get?_push_size (s.heap.push PySem.W.emptyDict) (o:=PySem.W.instObj C s.heap.objs.size) rfl
  rwa [Heap.size_push] at this
 have e3:(s.heap.push PySem.W.emptyDict).Ns s.heap.objs.size (fun _=>none):=⟨PySem.W.emptyDict,#[],_,e1,rfl,(fun e he=>absurd he (by simp)),fun _=>rfl⟩
 have I1:=I.laid (a:=s.heap.objs.size) (o:= .own (s.heap.objs.size+1)) (h':=s.heap.push PySem.W.emptyDict) (t':=s.toks) (fun b u q=>Heap.get?_push_of_some _ q) (Nat.le_refl _) ⟨_,e1⟩
 refine I1.laid (a:=s.heap.objs.size+1) (o:= .ins C s.heap.objs.size []) (t':=s.toks) (fun b u q=>Heap.get?_push_of_some _ q) (Nat.le_of_eq (Heap.size_push _ _)) ?_
 have ne:s.heap.objs.size≠s.heap.objs.size+1:=Nat.ne_of_lt (Nat.lt_succ_self _)
 refine⟨by rw[ah ne,af],Nat.zero_le _,ne,e2,fun _=>none,(Heap.Ns1.of_empty e3).at fun o q=>Heap.get?_push_of_some _ q,fun _=>True.intro,fun y hy=>absurd rfl hy⟩
theorem A4 {prog:Program} {w:World} {env:Env} {e:Expr} {f:Str} {pos:Pos} {s:Shared} {Q:Value→Shared→Prop} (hb:attributeBase e f env (eval e env)=eval e env)
  (h:wpAny (model prog w) A (eval e env) (fun o s₁=>wpAny (model prog w) A (getAttr o f true) Q E s₁) E s):wpAny (model prog w) A (eval (.Attribute e f pos) env) Q E s:=
 Attribute_any_ h (by rw[arm_eval_Attribute,hb])
end
def Yu (K:PySem.W.Frag) (ta:TE) (f:Str):TE:=fun σ H Q=>ta σ H fun x H1=>∃a C dx fs v,x= .ref a∧H1 a=some (.ins C dx fs)∧sy K C∧cG K C f∧fs.lookup f=some v∧Q v H1
def Yv (K:PySem.W.Frag) (ta tv:TE) (f:Str):TS:=fun D σ H=>tv σ H fun y H1=>ta σ H1 fun x H2=>∃a C dx fs,x= .ref a∧H2 a=some (.ins C dx fs)∧sy K C∧cG K C f∧fs.length<1000∧
 D.nx σ (upd H2 a (.ins C dx (cL f y fs)))
def Qt (X:Cx) (op:Operator) (rd:V→V→Hp→VK→Prop):Prop:=
 ∀(pins:List (Addr×Obj)) (s:Shared) (σ:St) (H:Hp) (x y:V) (u v:Value) (Q:VK),Inv X pins σ H s→RelV x u→RelV y v→rd x y H Q→wpAny (model X.prog X.w) X.A (inplaceOp op u v) (EP X pins σ Q) X.xe s
def IF (K:PySem.W.Frag) (ta tv:TE) (rd:V→V→Hp→VK→Prop) (f:Str):TS:=fun D σ H=>ta σ H fun x H1=>∃a C dx fs v,x= .ref a∧H1 a=some (.ins C dx fs)∧sy K C∧cG K C f∧fs.lookup f=some v∧
 tv σ H1 fun y H2=>rd v y H2 fun z H3=>∃dP Iq,H3 a=some (.ins C dP Iq)∧Iq.length<1000∧D.nx σ (upd H3 a (.ins C dP (cL f z Iq)))
section
variable {X:Cx} {o e value:Expr} {f:Str} {pos pos' sA:Pos} {ta tv:TE}
theorem a0 (he:PE X e ta) (hb:attributeBase e f X.env (eval e X.env)=eval e X.env):PE X (.Attribute e f pos) (Yu X.K ta f):=by
 intro pins s σ H Q I h
 refine A4 hb (bZ (he pins s σ H _ I h) fun u s1 ⟨x,H1,I1,rx,a,C,dx,fs,v,ex,ea,c,n,l,q⟩=>?_)
 subst ex
 obtain rfl:u=Value.ref a:=rx
 exact qv I1 ea c n l fun u' s2 I2 ru=>⟨v,H1,I2,ru,q⟩
theorem eK (ha:PE X o ta) (hv:PE X value tv) (hs:swapsWith value (some (.Attribute o f pos')) pos.line X.env=pure false):PS X (.Assign [.Attribute o f pos'] value pos) (Yv X.K ta tv f):=by
 intro pins s σ H D I h
 refine plainObj_wpAny_Assign_Attribute (bZ (hv pins s σ H _ I h) fun u s1 ⟨y,H1,I1,ry,q⟩=>bZ (ha pins s1 σ H1 _ I1 q) fun ov s2 ⟨x,H2,I2,rx,a,C,dx,fs,ex,ea,c,n,l,q2⟩=>?_) hs
 subst ex
 obtain rfl:ov=Value.ref a:=rx
 exact qw I2 ea c n l ry fun s3 I3=>⟨σ,_,I3,q2⟩
theorem kF {op:Operator} {rd:V→V→Hp→VK→Prop} (ha:PE X o ta) (hv:PE X value tv) (hop:Qt X op rd):PS X (.AugAssign (.Attribute o f sA) op value pos) (IF X.K ta tv rd f):=by
 intro pins s σ H D I h
 refine wpAny_AugAssign_AttributeAny (bZ (ha pins s σ H _ I h) fun ov s1 ⟨x,H1,I1,rx,a,C,dx,fs,v,ex,ea,c,n,l,q⟩=>?_)
 subst ex
 obtain rfl:ov=Value.ref a:=rx
 refine qv I1 ea c n l fun u s2 I2 ru=>bZ (hv pins s2 σ H1 _ I2 q) fun w3 s3 ⟨y,H2,I3,ry,q3⟩=>bZ (hop pins s3 σ H2 v y u w3 _ I3 ru ry q3) fun w4 s4 ⟨z,H3,I4,rz,dP,Iq,ea',l',q4⟩=>?_
 exact qw I4 ea' c n l' rz fun s5 I5=>⟨σ,_,I5,q4⟩
def Yw:V→V→Hp→VK→Prop:=fun x y H Q=>∃i j,x= .int i∧y= .int j∧Q (.int (i+j)) H
theorem vd:Qt X .Add Yw:=by
 rintro pins s σ H x y u v Q I rx ry ⟨i,j,rfl,rfl,q⟩
 obtain⟨t,rfl⟩:=(show∃t,u=Value.int i t from rx)
 obtain⟨t',rfl⟩:=(show∃t',v=Value.int j t' from ry)
 exact PyProof.Rows.iadd_int ⟨.int (i+j),H,I.tok _,⟨_,rfl⟩,q⟩
end
section
variable {X:Cx} {pins:List (Addr×Obj)} {σ:St} {H:Hp} {s:Shared} {A:Around} {E:Value→Shared→Prop} {Q:Value→Shared→Prop} {c:Value} {b:Bool}
inductive nW (K:PySem.W.Frag) (H:Hp):V→Value→Prop where
 |cU:nW K H .cU (.type "NoneType")
 |bl (x:Bool):nW K H (.bl x) (.type "bool")
 |int (i:Int):nW K H (.int i) (.type "int")
 |str (x:Str):nW K H (.str x) (.type "str")
 |KY (x:UInt64):nW K H (.KY x) (.type "float")
 |lst {a:Addr} {xs:List V} (e:H a=some (.lst xs)):nW K H (.ref a) (.type "list")
 |fH {a:Addr} {o:Obj} {xs:List V} (e:H a=some (.fH o (.lst xs))):nW K H (.ref a) (.type "list")
 |tup {a:Addr} {xs:List V} (e:H a=some (.tup xs)):nW K H (.ref a) (.type "tuple")
 |dK {a:Addr} {kvs:List (Key×V)} (e:H a=some (.dK kvs)):nW K H (.ref a) (.type "dict")
 |dT {a:Addr} {kvs:List (List Key×V)} (e:H a=some (.dT kvs)):nW K H (.ref a) (.type "dict")
 |ins {a C dx:Addr} {fs:List (Str×V)} (e:H a=some (.ins C dx fs)) (cl:sy K C) (ha:PySem.W.findIn K (.ref C) "__class__" =some (some (.builtin "object.__class__")))
   (hn:PySem.W.specialIn K (.builtin "object.__class__") "__get__" =some (some (.builtin "getset_descriptor.__get__"))) (xu:PySem.W.takesIn K (.builtin "object.__class__")=some true)
   (hm:PySem.W.mroIn K C (.type "object")=some true):nW K H (.ref a) (.ref C)
theorem CO {x:V} {u t:Value} (I:Inv X pins σ H s) (rx:RelV x u) (ty:nW X.K H x t) (e:PySem.W.kitOne X.K t c=some b) (h:∀tk,Q (.bool b) { s with toks:=tk }):
  wpAny (model X.prog X.w) A (call (.builtin "isinstance") [u,c]) Q E s:=by
 cases ty with
 |cU=>cases (show u=Value.none from rx);exact PySem.W.kia_one PySem.W.kitx_none I.jl True.intro e (fun z=>nomatch z) h
 |bl y=>cases (show u=Value.bool y from rx);exact PySem.W.kia_one PySem.W.kitx_bool I.jl True.intro e (fun z=>nomatch z) h
 |int i=>obtain⟨t,q⟩:=(show∃t,u=Value.int i t from rx);cases q;exact PySem.W.kia_one PySem.W.kitx_int I.jl True.intro e (fun z=>nomatch z) h
 |str y=>obtain⟨t,q⟩:=(show∃t,u=Value.str y t from rx);cases q;exact PySem.W.kia_one PySem.W.kitx_str I.jl True.intro e (fun z=>nomatch z) h
 |KY y=>obtain⟨t,q⟩:=(show∃t,u=Value.float y t from rx);cases q;exact PySem.W.kia_one PySem.W.kitx_float I.jl True.intro e (fun z=>nomatch z) h
 | @lst a xs ea=>
   cases (show u=Value.ref a from rx)
   obtain⟨_,_,n,_,h1⟩:=(show cq X.prog X.w H s.heap a (.lst xs) from I.aS a _ ea)
   exact PySem.W.kia_one PySem.W.kitx_list I.jl ⟨_,h1,rfl⟩ e (fun z=>nomatch z) h
 | @fH a ob xs ea=>
   cases (show u=Value.ref a from rx)
   obtain⟨_,_,_,n,_,h1⟩:=(show cq X.prog X.w H s.heap a (.fH ob (.lst xs)) from I.aS a _ ea)
   exact PySem.W.kia_one PySem.W.kitx_list I.jl ⟨_,h1,rfl⟩ e (fun z=>nomatch z) h
 | @tup a xs ea=>
   cases (show u=Value.ref a from rx)
   obtain⟨_,_,_,p⟩:=(show cq X.prog X.w H s.heap a (.tup xs) from I.aS a _ ea)
   obtain⟨o,h1,h2,_⟩:=p
   exact PySem.W.kia_one PySem.W.kitx_tuple I.jl ⟨o,h1,h2⟩ e (fun z=>nomatch z) h
 | @dK a kvs ea=>
   cases (show u=Value.ref a from rx)
   obtain⟨_,_,vs,_,p⟩:=(show cq X.prog X.w H s.heap a (.dK kvs) from I.aS a _ ea)
   obtain⟨o,es,ep,h1,h2,_⟩:=p
   exact PySem.W.kia_one PySem.W.kitx_dict I.jl ⟨o,h1,h2.1⟩ e (fun z=>nomatch z) h
 | @dT a kvs ea=>
   cases (show u=Value.ref a from rx)
   obtain⟨_,_,xs,_,o,es,ep,h1,h2,_⟩:=(show cq X.prog X.w H s.heap a (.dT kvs) from I.aS a _ ea)
   exact PySem.W.kia_one PySem.W.kitx_dict I.jl ⟨o,h1,h2.1⟩ e (fun z=>nomatch z) h
 | @ins a C dx fs ea cl ha hn xu hm=>
   cases (show u=Value.ref a from rx)
   obtain⟨mA,O,_⟩:=pF I.aS ea
   obtain⟨od,J,_⟩:=O.look
   exact PySem.W.kia_one (PySem.W.kitx_own (cl.get _) cl.hd ha hn xu hm) I.jl J e (fun z=>nomatch z) h
end
end L2
namespace L2
open PySem PySem.Spec PyProof.Rows
structure cV (k:Nat) (A:Around):Prop where
 hd:A.handled=none
 dp:A.depth+3*k+5<recursionLimit
 un:A.units+16*k+200<cLine
theorem cV.mono {j k:Nat} {A:Around} (r:cV k A) (h:j≤k):cV j A:=⟨r.hd,by have:=r.dp;omega,by have:=r.un;omega⟩
theorem cV.deeper {k:Nat} {A:Around} (r:cV (k+1) A) (env:Env):cV k (A.deeper env):=
 ⟨r.hd,by have:=r.dp;show A.depth+1+3*k+5<_;omega,by have:=r.un;show A.units+3+16*k+200<_;omega⟩
theorem zJ {A:Around} {C:Addr} {us:List Value} {kw:List (Str×Value)}:(A.under (.builtin "type.__call__" ⟨.ref C::us,kw⟩)).depth=A.depth+1:=by
 first|rfl|simp [Around.under,Code.weight,Code.isCreation,Code.isGuard,Code.isCaller,Code.frames,Code.isFrame,guardIds]
theorem zK {A:Around} {C:Addr} {us:List Value} {kw:List (Str×Value)}:(A.under (.builtin "type.__call__" ⟨.ref C::us,kw⟩)).units=A.units+1:=by
 first|rfl|simp [Around.under,Code.cUnits,Code.frames,Code.isFrame]
theorem cV.make {k:Nat} {A:Around} (r:cV (k+1) A) (C:Addr) (us:List Value) (kw:List (Str×Value)):cV k (A.under (.builtin "type.__call__" ⟨.ref C::us,kw⟩)):=
 ⟨r.hd,by have:=r.dp;rw[zJ];omega,by have:=r.un;rw[zK];omega⟩
theorem cV.depth {k:Nat} {A:Around} (r:cV k A):A.depth<recursionLimit:=by have:=r.dp;omega
theorem cV.units {k:Nat} {A:Around} (r:cV k A):A.units+64<cLine:=by have:=r.un;omega
theorem cV.nX {k:Nat} {A:Around} (r:cV k A):A.units<cLine:=by have:=r.un;omega
def Qu:TA:=fun _ H Q=>Q [] H
def Qv (ta:TE) (tr:TA):TA:=fun σ H Q=>ta σ H fun x H1=>tr σ H1 fun xs H2=>Q (x::xs) H2
section
variable {X:Cx} {e:Expr} {es:List Expr} {te:TE} {t:TA} {pos:Pos}
theorem ak:PA X [] Qu:=fun _ _ _ _ H Q I h=>Calls.spliced_nil ⟨[],H,I, .nil,h⟩
theorem aa (ha:PE X e te) (hr:PA X es t) (hs:starEach (e::es) X.env=(false,eval e X.env)::starEach es X.env:=by rfl):PA X (e::es) (Qv te t):=by
 intro pos pins s σ H Q I h
 rw[hs]
 show wpAny _ _ (spliced ((false,eval e X.env)::backTo pos (starEach es X.env))) _ _ s
 refine Calls.spliced_cons (bZ (ha pins s σ H _ I h) fun u s1 ⟨x,H1,I1,r1,q1⟩=>?_)
 exact bZ (hr pos pins s1 σ H1 _ I1 q1) fun us s2 ⟨xs,H2,I2,r2,q2⟩=>⟨x::xs,H2,I2, .cons r1 r2,q2⟩
def Yx (t:TA):TE:=fun σ H Q=>t σ H fun xs H1=>xs.length≤sizeLine∧∀p,H1 p=none→Q (.ref p) (upd H1 p (.tup xs))
def Yy (t:TA):TE:=fun σ H Q=>t σ H fun xs H1=>xs.length≤sizeLine∧∀p,H1 p=none→Q (.ref p) (upd H1 p (.lst xs))
theorem bP {x1} (h:PA X es t):PE X (.Tuple es x1 pos) (Yx t):=by
 intro pins s σ H Q I hq
 refine wpAny_Tuple_spliced (bZ (h pos pins s σ H _ I hq) fun us s1 ⟨xs,H1,I1,r,z,q⟩=>⟨by rw[←r.length];exact z,?_⟩)
 have hf:H1 s1.heap.objs.size=none:=I1.aS.fresh (Nat.le_refl _)
 refine⟨.ref s1.heap.objs.size,upd H1 s1.heap.objs.size (.tup xs),I1.laid (t':=s1.toks) (fun b u e=>Heap.get?_push_of_some _ e) (Nat.le_refl _) ?_,rfl,q _ hf⟩
 exact⟨z,us,r,⟨_,Heap.get?_push_size _ rfl,rfl,_,rfl⟩⟩
theorem cD (h:PA X es t):PE X (.List es pos) (Yy t):=by
 intro pins s σ H Q I hq
 refine wpAny_List_spliced (bZ (h pos pins s σ H _ I hq) fun us s1 ⟨xs,H1,I1,r,z,q⟩=>⟨by rw[←r.length];exact z,?_⟩)
 have hf:H1 s1.heap.objs.size=none:=I1.aS.fresh (Nat.le_refl _)
 refine⟨.ref s1.heap.objs.size,upd H1 s1.heap.objs.size (.lst xs),I1.laid (t':=s1.toks) (fun b u e=>Heap.get?_push_of_some _ e) (Nat.le_refl _) ?_,rfl,q _ hf⟩
 exact⟨z,us,0,r,Heap.get?_push_size _ rfl⟩
end
abbrev Sp:=List V→Hp→VK→XK→Prop
abbrev A5:=List Env→Hp→Shared→XK→Value→Shared→Prop
structure zL (P:Program) (w:World) (K:PySem.W.Frag) (mg:Str→Option Value) (base:Heap) (A:Around) (outer:List Env) (s:Shared) (H:Hp):Prop where
 frames:A.frames=some outer
 mod:Mod K mg base
 bs:∀b o,base.get? b=some o→s.heap.get? b=some o∧H b=none
 CL:base.objs.size≤s.heap.objs.size
 lz:s.heap.FunFrames base outer
 Ez:∀b∈xr outer,H b=none
 aS:jX P w H s.heap
 bare:AllBare s.gens
def CE (outer:List Env) (P:Program) (w:World) (H:Hp) (s:Shared) (Q:VK) (u:Value) (s':Shared):Prop:=
 ∃v H',s'.os=s.os∧AllBare s'.gens∧Un (xr outer) [] H H' s.heap s'.heap∧jX P w H' s'.heap∧RelV v u∧Q v H'
def CR (CX:A5) (outer:List Env) (P:Program) (w:World) (H:Hp) (s:Shared) (Q:VK) (E:XK) (r:Result) (s':Shared):Prop:=
 match r with
 | .ok (.ret u)=>CE outer P w H s Q u s'
 | .ok _=>False
 | .error e=>CX outer H s E e s'
structure fe (P:Program) (w:World) (K:PySem.W.Frag) (mg:Str→Option Value) (base:Heap) (CX:A5) (k:Nat) (f:Addr) (fd:FuncData) (ps:List Str) (sp:Sp):Prop where
 len:∀vs H Q E,sp vs H Q E→vs.length=ps.length
 run:∀(A:Around) (outer:List Env) (s:Shared) (H:Hp) (args:Args) (us:List Value) (vs:List V) (Q:VK) (E:XK),cV k A→zL P w K mg base A outer s H→BindsTo s fd args (ps.zip us)→Vals vs us→sp vs H Q E→
  codeAny (model P w) A (.call (.ref f) args) (CR CX outer P w H s Q E) s
theorem zL.make {P:Program} {w:World} {K:PySem.W.Frag} {mg:Str→Option Value} {base:Heap} {A:Around} {outer:List Env} {s:Shared} {H:Hp} (e:zL P w K mg base A outer s H) (C:Addr) (us:List Value) (kw:List (Str×Value)):
  zL P w K mg base (A.under (.builtin "type.__call__" ⟨.ref C::us,kw⟩)) outer s H:=⟨by first|exact e.frames| (simpa [Around.under,Code.envs,Code.isFrame,pushEnvs] using e.frames),e.mod,e.bs,e.CL,e.lz,e.Ez,e.aS,e.bare⟩
section
variable {X:Cx} {pins:List (Addr×Obj)} {σ:St} {H:Hp} {s s':Shared}
theorem Inv.IG (I:Inv X pins σ H s):zL X.prog X.w X.K X.mg X.base X.A X.stack s H:=
 ⟨I.ok.frames,I.ok.mod,I.bs,Nat.le_trans I.ok.CL I.sz,I.stack,I.u5,I.aS,I.bare⟩
theorem Inv.after {Q:VK} {u:Value} (I:Inv X pins σ H s) (h:CE X.stack X.prog X.w H s Q u s'):EP X pins σ Q u s':=by
 obtain⟨v,H',os,bare,un,aS,r,q⟩:=h
 obtain⟨hh,g,d,t,os'⟩:=s'
 obtain rfl:os'=s.os:=os
 exact⟨v,H',I.call (h':=hh) (g':=g) (d':=d) (t':=t) (ch:=[]) un aS bare (fun b z=>absurd z (by simp)),r,q⟩
end
def Qw (sp:Sp) (kG:List V) (E:XK) (t:TA):TE:=fun σ H Q=>t σ H fun vs H1=>sp (vs++kG) H1 Q E
def K8 (C:Addr) (m:Str) (sp:Sp) (kG:List V) (E:XK) (ta:TE) (t:TA):TE:=fun σ H Q=>ta σ H fun x H1=>∃a dx fs,x= .ref a∧H1 a=some (.ins C dx fs)∧fs.lookup m=none∧
 t σ H1 fun vs H2=>sp (x::(vs++kG)) H2 Q E
def Qx (C:Addr) (sp:Sp) (kG:List V) (E:XK) (t:TA):TE:=fun σ H Q=>t σ H fun vs H1=>∀x dx,H1 x=none→H1 dx=none→dx≠x→
 sp (.ref x::(vs++kG)) (upd (upd H1 dx (.own x)) x (.ins C dx [])) (fun v H2=>v= .cU∧Q (.ref x) H2) E
def Binds (K:PySem.W.Frag) (fd:FuncData) (ps:List Str) (ds:List Value):Prop:=
 ∀(s:Shared) (us:List Value),K.In s.heap→(us++ds).length=ps.length→BindsTo s fd ⟨us,[]⟩ (ps.zip (us++ds))
theorem Binds.all {K:PySem.W.Frag} {fd:FuncData} {ps:List Str} (h:∀us:List Value,us.length=ps.length→bindArgs fd ⟨us,[]⟩=pure (ps.zip us)):Binds K fd ps []:=fun s us _ hl=>by
 rw[List.append_nil] at hl ⊢
 exact .of_eq (h us hl)
def Passes (CX:A5) (X:Cx) (E:XK):Prop:=∀(pins:List (Addr×Obj)) (σ:St) (H:Hp) (s:Shared) (e:Value) (s':Shared),Inv X pins σ H s→CX X.stack H s E e s'→X.xe e s'
section
variable {X:Cx} {CX:A5} {k:Nat} {f C:Addr} {fd:FuncData} {ps:List Str} {sp:Sp} {kG:List V} {ds:List Value} {E:XK} {x m:Str} {p pos apos:Pos} {e o:Expr} {es:List Expr} {ta:TE} {t:TA}
theorem zM {pins:List (Addr×Obj)} {σ:St} {H:Hp} {s:Shared} {Q:VK} {us:List Value} {vs:List V} (F:fe X.prog X.w X.K X.mg X.base CX k f fd ps sp) (hr:cV k X.A) (hb:Binds X.K fd ps ds) (hd:Vals kG ds) (hx:Passes CX X E)
  (I:Inv X pins σ H s) (r:Vals vs us) (h:sp (vs++kG) H Q E):wpAny (model X.prog X.w) X.A (call (.ref f) us) (EP X pins σ Q) X.xe s:=by
 have r2:Vals (vs++kG) (us++ds):=r.append hd
 have hl:(us++ds).length=ps.length:=by rw[←r2.length];exact F.len _ _ _ _ h
 refine wpAny_call (codeAny_mono (F.run X.A X.stack s H ⟨us,[]⟩ (us++ds) (vs++kG) Q E hr I.IG (hb s us I.jl hl) r2 h) fun r s' hq=>?_)
 cases r with
 |error e=>exact hx pins σ H s e s' I hq
 |ok fl=>
  cases fl with
  |ret u=>exact I.after hq
  |next=>exact False.elim hq
  |brk=>exact False.elim hq
  |cont=>exact False.elim hq
theorem aH (F:fe X.prog X.w X.K X.mg X.base CX k f fd ps sp) (hr:cV k X.A) (hg:Gl X x) (hm:X.mg x=some (.ref f)) (hk:PySem.W.keepIn X.K (.ref f)=true) (hb:Binds X.K fd ps ds) (hd:Vals kG ds) (hx:Passes CX X E)
  (ha:PA X (e::es) t) (EJ:(x==("__debug__" :Str))=false:=by decide) (he:starEach (e::es) X.env=(false,eval e X.env)::starEach es X.env:=by rfl) (iO:(backTo pos (starEach es X.env)).any (·.1)=false:=by rfl):
  PE X (.Call (.Name x p) (e::es) [] pos) (Qw sp kG E t):=by
 intro pins s σ H Q I h
 refine wpAny_Call_Name_kw (jm I hg hm ?_ EJ)
 refine PySem.W.callWith_K (h₀:=X.base) I.ok.mod.gk hk (bZ (ha pos pins s σ H _ I h) fun us s1 ⟨vs,H1,I1,r,q⟩=>⟨I1.jl,?_⟩) he iO
 exact zM F hr hb hd hx I1 r q
theorem bU {pl:Sem Bool} (he:PE X o ta) (c:sy X.K C) (hm:Meth X.K C m f) (F:fe X.prog X.w X.K X.mg X.base CX k f fd ps sp) (hr:cV k X.A) (hb:Binds X.K fd ps ds) (hd:Vals kG ds) (hx:Passes CX X E) (ha:PA X (e::es) t)
  (fI:starEach (e::es) X.env=(false,eval e X.env)::starEach es X.env:=by rfl) (iO:(backTo pos (starEach es X.env)).any (·.1)=false:=by rfl)
  (ht:eval (.Call (.Attribute o m apos) (e::es) [] pos) X.env=(do
   let ov←eval o X.env
   standAt apos.atName
   let (f,first)←holding [ov] (getMethod ov m pl)
   callWith pos f first (backTo pos (starEach (e::es) X.env)) (backToKw pos (keywordEach [] X.env))):=by rfl):
  PE X (.Call (.Attribute o m apos) (e::es) [] pos) (K8 C m sp kG E ta t):=by
 intro pins s σ H Q I h
 refine PySem.W.methodCall_KW (pl:=pl) (bZ (he pins s σ H _ I h) fun u s1 ⟨x,H1,I1,rx,a,dx,fs,ex,ea,l,q⟩=>?_) ht
 subst ex
 obtain rfl:u=Value.ref a:=rx
 refine lN I1 ea c hm l ?_
 refine PySem.W.callWith_K (first:=[.ref a]) (h₀:=X.base) I.ok.mod.gk hm.kp (bZ (ha pos pins s1 σ H1 _ I1 q) fun us s2 ⟨vs,H2,I2,r,q2⟩=>⟨I2.jl,?_⟩) fI iO
 exact zM (us:= .ref a::us) (vs:= .ref a::vs) F hr hb hd hx I2 (.cons rfl r) q2
theorem aN {pl:Sem Bool} (he:PE X o ta) (c:sy X.K C) (hm:Meth X.K C m f) (F:fe X.prog X.w X.K X.mg X.base CX k f fd ps sp) (hr:cV k X.A) (hb:Binds X.K fd ps ds) (hd:Vals kG ds) (hx:Passes CX X E)
  (ht:eval (.Call (.Attribute o m apos) [] [] pos) X.env=(do
   let ov←eval o X.env
   standAt apos.atName
   let (f,first)←holding [ov] (getMethod ov m pl)
   callWith pos f first (backTo pos (starEach [] X.env)) (backToKw pos (keywordEach [] X.env))):=by rfl):
  PE X (.Call (.Attribute o m apos) [] [] pos) (K8 C m sp kG E ta Qu):=by
 intro pins s σ H Q I h
 refine PySem.W.methodCall_KW (pl:=pl) (bZ (he pins s σ H _ I h) fun u s1 ⟨x,H1,I1,rx,a,dx,fs,ex,ea,l,q⟩=>?_) ht
 subst ex
 obtain rfl:u=Value.ref a:=rx
 refine lN I1 ea c hm l ?_
 exact PySem.W.callWith_K0 (first:=[.ref a]) I1.jl hm.kp (zM (us:=[.ref a]) (vs:=[.ref a]) F hr hb hd hx I1 (.cons rfl .nil) q)
structure Mk (K:PySem.W.Frag) (C f:Addr):Prop where
 makes:PySem.W.makesIn K C=true
 init:PySem.W.findIn K (.ref C) "__init__" =some (some (.ref f))
 fn:PySem.W.isFn K (.ref f)=true
 kp:PySem.W.keepIn K (.ref C)=true
theorem EK {pins:List (Addr×Obj)} {σ:St} {H:Hp} {s:Shared} {Q:VK} {us:List Value} {vs:List V} (M:Mk X.K C f) (F:fe X.prog X.w X.K X.mg X.base CX k f fd ps sp) (hr:cV (k+1) X.A) (hb:Binds X.K fd ps ds) (hd:Vals kG ds)
  (hx:Passes CX X E) (I:Inv X pins σ H s) (r:Vals vs us)
  (h:∀x dx,H x=none→H dx=none→dx≠x→sp (.ref x::(vs++kG)) (upd (upd H dx (.own x)) x (.ins C dx [])) (fun v H2=>v= .cU∧Q (.ref x) H2) E):
  wpAny (model X.prog X.w) X.A (call (.ref C) us) (EP X pins σ Q) X.xe s:=by
 have hq:=h (s.heap.objs.size+1) s.heap.objs.size (I.aS.fresh (Nat.le_succ _)) (I.aS.fresh (Nat.le_refl _)) (Nat.ne_of_lt (Nat.lt_succ_self _))
 have I2:=Inv.made (C:=C) I
 have r2:Vals (V.ref (s.heap.objs.size+1)::(vs++kG)) (Value.ref (s.heap.objs.size+1)::(us++ds)):= .cons rfl (r.append hd)
 have hl:(Value.ref (s.heap.objs.size+1)::us++ds).length=ps.length:=by
  have e:=r2.length
  rw[F.len _ _ _ _ hq] at e
  exact e.symm
 refine wpAny_call (EI (f:=f) I.jl M.makes M.init (beq_iff_eq.mp M.fn) (codeAny_mono (F.run _ X.stack _ _ ⟨Value.ref (s.heap.objs.size+1)::us,[]⟩ (Value.ref (s.heap.objs.size+1)::(us++ds)) _ _ E (hr.make C us [])
  (I2.IG.make C us []) (hb _ (Value.ref (s.heap.objs.size+1)::us) I2.jl hl) r2 hq) fun r s' su=>?_))
 cases r with
 |error e=>exact hx pins σ _ _ e s' I2 su
 |ok fl=>
  cases fl with
  |ret u=>
   obtain⟨v,H',I3,rv,ev,q3⟩:=I2.after su
   subst ev
   exact⟨rv,⟨V.ref (s.heap.objs.size+1),H',I3,rfl,q3⟩⟩
  |next=>exact False.elim su
  |brk=>exact False.elim su
  |cont=>exact False.elim su
theorem fV (M:Mk X.K C f) (F:fe X.prog X.w X.K X.mg X.base CX k f fd ps sp) (hr:cV (k+1) X.A) (hg:Gl X x) (hm:X.mg x=some (.ref C)) (hb:Binds X.K fd ps ds) (hd:Vals kG ds) (hx:Passes CX X E)
  (ha:PA X (e::es) t) (EJ:(x==("__debug__" :Str))=false:=by decide) (he:starEach (e::es) X.env=(false,eval e X.env)::starEach es X.env:=by rfl) (iO:(backTo pos (starEach es X.env)).any (·.1)=false:=by rfl):
  PE X (.Call (.Name x p) (e::es) [] pos) (Qx C sp kG E t):=by
 intro pins s σ H Q I h
 refine wpAny_Call_Name_kw (jm I hg hm ?_ EJ)
 refine PySem.W.callWith_K (h₀:=X.base) I.ok.mod.gk M.kp (bZ (ha pos pins s σ H _ I h) fun us s1 ⟨vs,H1,I1,r,q⟩=>⟨I1.jl,?_⟩) he iO
 exact EK M F hr hb hd hx I1 r q
end
section
variable {X:Cx} {CX:A5} {k:Nat} {f C:Addr} {fd:FuncData} {ps ks:List Str} {sp:Sp} {E:XK} {x m:Str} {p pos apos Qy:Pos} {e o:Expr} {es:List Expr} {kws:List Keyword} {te ta:TE} {t tk:TA} {nm:Option Str}
variable {g:List Value→List Value→List Value} {gV:List V→List V→List V}
end
structure ax (N P:List Str) (sc:Scope):Prop where
 kind:sc.kind= .function
 co:sc.isCoroutine=false
 gen:sc.isGenerator=false
 nd:N.Nodup
 pre:N.take P.length=P
 par:∀x∈P,sc.names.lookup x=some .local∨sc.names.lookup x=some .cell
 MC:∀y∈sc.names,y.2≠ .free
theorem sQ {kindOf:Str→Option NameKind} {x:Str}:∀{binds:List (Str×Value)} {m:Str→Option Value},(∀v,(x,v)∉binds)→bindL kindOf binds m x=m x
 | [],_,_=>rfl
 | (n,v)::r,m,h=>by
   unfold bindL
   rw[sQ fun w hw=>h w (List.mem_cons_of_mem _ hw)]
   split
   ·have:x≠n:=by rintro rfl;exact h v List.mem_cons_self
    simp [this]
   ·rfl
theorem sR {kindOf:Str→Option NameKind} {x:Str}:∀{binds:List (Str×Value)} {m:Str→Option Value},(∀v,(x,v)∉binds)→bindC kindOf binds m x=m x
 | [],_,_=>rfl
 | (n,v)::r,m,h=>by
   unfold bindC
   rw[sR fun w hw=>h w (List.mem_cons_of_mem _ hw)]
   split
   ·rfl
   ·have:x≠n:=by rintro rfl;exact h v List.mem_cons_self
    simp [this]
theorem sS {kindOf:Str→Option NameKind} {x:Str} {v:Value}:∀{P:List Str} {vs:List Value} {i:Nat} {m:Str→Option Value},P.Nodup→P[i]? =some x→vs[i]? =some v→kindOf x=some .local→
  bindL kindOf (P.zip vs) m x=some v
 | [],_,_,_,_,h,_,_=>by simp at h
 |_::_,[],_,_,_,_,h,_=>by simp at h
 |p::P,w::vs,0,m,nd,h1,h2,hk=>by
  simp at h1 h2;subst h1;subst h2
  show bindL kindOf ((p,w)::P.zip vs) m p=_
  unfold bindL
  rw[sQ fun v hv=>(List.nodup_cons.mp nd).1 (List.of_mem_zip hv).1,if_pos hk]
  simp
 |p::P,w::vs,i+1,m,nd,h1,h2,hk=>by
  show bindL kindOf ((p,w)::P.zip vs) m x=_
  unfold bindL
  exact sS (i:=i) (List.nodup_cons.mp nd).2 (by simpa using h1) (by simpa using h2) hk
theorem sT {kindOf:Str→Option NameKind} {x:Str} {v:Value}:∀{P:List Str} {vs:List Value} {i:Nat} {m:Str→Option Value},P.Nodup→P[i]? =some x→vs[i]? =some v→kindOf x≠some .local→
  bindC kindOf (P.zip vs) m x=some v
 | [],_,_,_,_,h,_,_=>by simp at h
 |_::_,[],_,_,_,_,h,_=>by simp at h
 |p::P,w::vs,0,m,nd,h1,h2,hk=>by
  simp at h1 h2;subst h1;subst h2
  show bindC kindOf ((p,w)::P.zip vs) m p=_
  unfold bindC
  rw[sR fun v hv=>(List.nodup_cons.mp nd).1 (List.of_mem_zip hv).1,if_neg hk]
  simp
 |p::P,w::vs,i+1,m,nd,h1,h2,hk=>by
  show bindC kindOf ((p,w)::P.zip vs) m x=_
  unfold bindC
  exact sT (i:=i) (List.nodup_cons.mp nd).2 (by simpa using h1) (by simpa using h2) hk
def start (N:List Str) (vs:List V):St:=vs.map some++List.replicate (N.length - vs.length) none
def js (CX:A5) (P:Program) (w:World) (K:PySem.W.Frag) (mg:Str→Option Value) (base:Heap) (N:List Str) (qual:Str) (scope:Scope) (f:Addr) (cd:Value) (A:Around) (outer:List Env) (s:Shared) (H:Hp) (E:XK):Cx where
 prog:=P
 w:=w
 K:=K
 mg:=mg
 base:=base
 A:=A.deeper (envOfC qual scope s.heap.objs.size f cd)
 N:=N
 s₀:=s
 H₀:=H
 env:=envOfC qual scope s.heap.objs.size f cd
 outer:=outer
 stack:=envOfC qual scope s.heap.objs.size f cd::outer
 ex:=[]
 calm:=true
 fn:=fun _=>true
 pn:=[]
 xe:=fun e s'=>wpAny (model P w) (A.deeper (envOfC qual scope s.heap.objs.size f cd)) (leaving (envOfC qual scope s.heap.objs.size f cd) e) (fun _ Qz=>CX outer H s E e Qz) (fun e' Qz=>CX outer H s E e' Qz) s'
theorem xH {sc:Scope} {n:Nat} {x:Str} (h:sc.names.lookup x=some .cell):∃c,(cellsFrom n sc.names []).lookup x=some c:=by
 have q:=PySem.W.cellsFrom_some sc.names n [] (.inl h)
 exact Option.isSome_iff_exists.mp q
theorem CP {CX:A5} {P:Program} {w:World} {K:PySem.W.Frag} {mg:Str→Option Value} {base:Heap} {N ps:List Str} {qual:Str} {scope:Scope} {f:Addr} {cd:Value} {A:Around} {outer:List Env} {s s1:Shared} {H:Hp} {E:XK} {us:List Value} {vs:List V}
  (S:ax N ps scope) (hd:A.handled=none) (e0:zL P w K mg base A outer s H) (hl:vs.length=ps.length) (r:Vals vs us)
  (x:InCallC s s.heap.objs.size (bindL (envOfC qual scope s.heap.objs.size f cd).kindOf (ps.zip us) fun _=>none) (cellsFrom (s.heap.objs.size+1) scope.names []) (bindC (envOfC qual scope s.heap.objs.size f cd).kindOf (ps.zip us) fun _=>none) s1):
  Inv (js CX P w K mg base N qual scope f cd A outer s H E) [] (start N vs) H s1:=by
 have iO:ps.length≤N.length:=by have:=congrArg List.length S.pre;rw[List.length_take] at this;omega
 obtain⟨h1,tk,rfl,hk⟩:=x.done
 have QA:∀b:Addr,b∉(js CX P w K mg base N qual scope f cd A outer s H E).ex:=fun b z=>absurd (show b∈([]:List Addr) from z) (by simp)
 refine⟨⟨e0.mod,S.kind,rfl,rfl,Nat.le_refl _,fun y z c h1 h2=>?_,fun y hy=>?_,fun y c _ h=>?_,fun _=>hd,Around.frames_deeper e0.frames, .inr ⟨rfl,rfl⟩,fun b z=>absurd z (QA b),e0.bs,e0.CL,fun b _ _=>QA b,fun b z=>absurd z (QA b),e0.lz,e0.Ez⟩,
  rfl,e0.bare,Un.kept hk,⟨_,x.toInCall.ns,fun i y v h1 h2 h3=>?_⟩,fun y c h=>⟨_,x.cell y c h⟩,e0.aS.fresh (Nat.le_refl _),fun y c h=>?_,fun p hp=>absurd (show p∈([]:List (Addr×Obj)) from hp) (by simp),e0.aS.kept hk,?_⟩
 ·exact name_of_addr x.apart (PySem.mem_of_lookup h1) (PySem.mem_of_lookup h2)
 ·have hy:scope.names.lookup y=some .cell∨scope.names.lookup y=some .free:=hy
  rcases hy with hy|hy
  ·exact xH hy
  ·exact absurd rfl (S.MC _ (PySem.mem_of_lookup hy))
 ·exact Nat.le_of_lt (x.above y c (PySem.mem_of_lookup h))
 ·have hi:i<vs.length:=by
   unfold start at h2
   by_cases hi:i<vs.length
   ·exact hi
   ·rw[List.getElem?_append_right (by simpa using hi)] at h2
    rw[List.getElem?_replicate] at h2
    split at h2<;>cases h2
  have ha:vs[i]? =some v:=by
   unfold start at h2
   rw[List.getElem?_append_left (by simpa using hi),List.getElem?_map] at h2
   cases e:vs[i]? with
   |none=>rw[e] at h2;cases h2
   |some a=>rw[e] at h2;cases h2;rfl
  obtain⟨u,hu,rv⟩:=r.get ha
  have hp:ps[i]? =some y:=by
   rw[←S.pre,List.getElem?_take_of_lt (by omega)];exact h1
  have ndP:ps.Nodup:=by rw[←S.pre];exact S.nd.sublist (List.take_sublist _ _)
  refine⟨u,rv,?_⟩
  rcases S.par y (List.mem_of_getElem? hp) with k|k
  ·exact .inl ⟨k,sS ndP hp hu k⟩
  ·obtain⟨c,e⟩:=xH (n:=s.heap.objs.size+1) k
   refine .inr ⟨.inl k,c,e,?_⟩
   have q:=x.cell y c e
   rw[sT ndP hp hu (by show scope.names.lookup y≠_;rw[k];decide)] at q
   exact q
 ·exact e0.aS.fresh (Nat.le_of_lt (x.above y c (PySem.mem_of_lookup h)))
 ·unfold start
  show _=N.length
  rw[List.length_append,List.length_map,List.length_replicate]
  omega
theorem fn_of {CX:A5} {P:Program} {w:World} {K:PySem.W.Frag} {mg:Str→Option Value} {base:Heap} {k:Nat} {f:Addr} {name qual:Str} {params:Arguments} {body:List Stmt} {scope:Scope} {dV kV doc pm bA ct oc:Value} {an od:Option Addr}
  {sv:Array (Option Value)} {N ps:List Str} {sp:Sp} (lk:K.lookup f=some ⟨oc,od, .func (PySem.W.fnOf name qual params body scope dV kV doc pm an bA ct),sv⟩) (pq:PySem.W.codeIn K bA qual=true) (S:ax N ps scope)
  (len:∀vs H Q E,sp vs H Q E→vs.length=ps.length)
  (dv:∀(A:Around) (outer:List Env) (s:Shared) (H:Hp) (vs:List V) (Q:VK) (E:XK),cV k (A.deeper (envOfC qual scope s.heap.objs.size f bA))→sp vs H Q E→
   ∃t,lM (js CX P w K mg base N qual scope f bA A outer s H E) body t∧t { nx:=fun _ H'=>Q .cU H',rt:=Q } (start N vs) H):
  fe P w K mg base CX (k+1) f (PySem.W.fnOf name qual params body scope dV kV doc pm an bA ct) ps sp:=by
 refine⟨len,fun A outer s H args us vs Q E hr e0 hb r A6=>?_⟩
 have hl:=len _ _ _ _ A6
 have KX:K.In s.heap:=e0.mod.gk.keeps fun b o e=>(e0.bs b o e).1
 have lim:s.heap.NoLimit:=e0.mod.nolimit.keeps fun b o e=>(e0.bs b o e).1
 have QB:∀y∈ps.zip us,scope.names.lookup y.1=some .local∨(scope.names.lookup y.1=some .cell∧((cellsFrom (s.heap.objs.size+1) scope.names []).lookup y.1).isSome=true):=fun⟨n,v⟩ hy=>by
  rcases S.par n (List.of_mem_zip hy).1 with q|q
  ·exact .inl q
  ·exact .inr ⟨q,PySem.W.cellsFrom_some _ _ _ (.inl q)⟩
 refine codeAny_call_function hr.depth (KX _ _ lk) rfl S.co S.gen rfl (PySem.W.codeRec_of KX pq) (hb _ _ _ _ ?_)
 refine wpAny_newFunctionEnv_cells S.kind QB fun env he s1 x=>?_
 subst he
 refine⟨lim.keeps x.toInCall.keep,codeAny_func ?_⟩
 obtain⟨t,ht,hq⟩:=dv A outer s H vs Q E (hr.deeper _) A6
 have I:Inv (js CX P w K mg base N qual scope f bA A outer s H E) [] (start N vs) H s1:=CP S hr.hd e0 hl r x
 refine wpAny_mono (ht [] s1 (start N vs) H _ I hq) (fun fl s' hs=>?_) fun e s' hs=>hs
 have fin:∀{σ':St} {H':Hp} {v:V} {u:Value},Inv (js CX P w K mg base N qual scope f bA A outer s H E) [] σ' H' s'→RelV v u→Q v H'→CE outer P w H s Q u s':=
  fun {σ' H' v u} J rv q=>⟨v,H',J.os,J.bare,J.base,J.aS,rv,q⟩
 cases fl with
 |ret u=>
  obtain⟨v,σ',H',J,rv,q⟩:=hs
  exact fin J rv q
 |next=>
  obtain⟨σ',H',J,q⟩:=hs
  exact fin (v:=V.cU) (u:=Value.none) J rfl q
 |brk=>
  obtain⟨_,_,_,q⟩:=hs
  exact False.elim q
 |cont=>
  obtain⟨_,_,_,q⟩:=hs
  exact False.elim q
end L2
namespace L2
open PySem PySem.Spec PyProof.Rows
section
variable {X:Cx} {x:Str} {p pos:Pos} {e:Expr} {es:List Expr} {t:TA} {id T:String} {r:List V→Hp→VK→Prop}
def tCB (r:List V→Hp→VK→Prop) (t:TA):TE:=fun σ H Q=>t σ H fun vs H1=>r vs H1 Q
theorem br (hc:gy X (.builtin id) r) (hg:Gl X x) (hm:X.mg x=none) (hv:bootBuiltins x=some (.builtin id)) (ha:PA X (e::es) t) (hn:x≠"__name__" :=by decide) (EJ:(x==("__debug__" :Str))=false:=by decide)
  (he:starEach (e::es) X.env=(false,eval e X.env)::starEach es X.env:=by rfl) (iO:(backTo pos (starEach es X.env)).any (·.1)=false:=by rfl):PE X (.Call (.Name x p) (e::es) [] pos) (tCB r t):=by
 intro pins s σ H Q I h
 refine wpAny_Call_Name_kw (nQ I hg hm hv ?_ hn EJ)
 exact PyProof.Rows.callWith_builtin1 (bZ (ha pos pins s σ H _ I h) fun us s1 ⟨vs,H1,I1,r1,q1⟩=>hc pins s1 σ H1 vs us Q I1 r1 q1) he iO
theorem bK (hc:gy X (.type T) r) (hg:Gl X x) (hm:X.mg x=none) (hv:bootBuiltins x=some (.type T)) (ha:PA X (e::es) t) (hn:x≠"__name__" :=by decide) (EJ:(x==("__debug__" :Str))=false:=by decide)
  (he:starEach (e::es) X.env=(false,eval e X.env)::starEach es X.env:=by rfl) (iO:(backTo pos (starEach es X.env)).any (·.1)=false:=by rfl):PE X (.Call (.Name x p) (e::es) [] pos) (tCB r t):=by
 intro pins s σ H Q I h
 refine wpAny_Call_Name_kw (nQ I hg hm hv ?_ hn EJ)
 exact PyProof.Rows.callWith_type1 (bZ (ha pos pins s σ H _ I h) fun us s1 ⟨vs,H1,I1,r1,q1⟩=>hc pins s1 σ H1 vs us Q I1 r1 q1) he iO
end
end L2
namespace L2
open PySem PySem.Spec PyProof.Rows
section
variable {κ:Type} [DecidableEq κ]
def b7 (kvs:List (κ×V)) (k:κ):Option V:=(kvs.find? fun kv=>decide (kv.1=k)).map (·.2)
def putK (kvs:List (κ×V)) (k:κ) (v:V):List (κ×V):=
 if (kvs.any fun kv=>decide (kv.1=k))=true then kvs.map (fun kv=>if kv.1=k then (kv.1,v) else kv) else kvs++[(k,v)]
theorem cO {p:κ×V} {r:List (κ×V)} {k:κ} (e:p.1=k):b7 (p::r) k=some p.2:=by simp [b7,List.find?_cons,e]
theorem cP {p:κ×V} {r:List (κ×V)} {k:κ} (e:¬p.1=k):b7 (p::r) k=b7 r k:=by simp [b7,List.find?_cons,e]
theorem fg (k:κ):∀kvs:List (κ×V),(kvs.any fun kv=>decide (kv.1=k))=(b7 kvs k).isSome
 | []=>rfl
 |p::r=>by
  rw[List.any_cons]
  by_cases e:p.1=k
  ·simp only [cO e,decide_eq_true e,Bool.true_or,Option.isSome_some]
  ·rw[cP e,decide_eq_false e,Bool.false_or];exact fg k r
theorem xI (k j:κ) (y:V):∀kvs:List (κ×V),b7 (kvs.map fun kv=>if kv.1=k then (kv.1,y) else kv) j=(b7 kvs j).map fun x=>if j=k then y else x
 | []=>rfl
 |p::r=>by
  have ih:=xI k j y r
  rw[List.map_cons]
  by_cases h:p.1=k
  ·rw[if_pos h]
   by_cases e:p.1=j
   ·rw[cO (p:=(p.1,y)) e,cO e,Option.map_some,if_pos (e.symm.trans h)]
   ·rw[cP (p:=(p.1,y)) e,cP e,ih]
  ·rw[if_neg h]
   by_cases e:p.1=j
   ·rw[cO (p:=p) e,cO e,Option.map_some,if_neg (fun z=>h (e.trans z))]
   ·rw[cP (p:=p) e,cP e,ih]
theorem sU (k j:κ) (y:V):∀kvs:List (κ×V),b7 kvs k=none→b7 (kvs++[(k,y)]) j=if j=k then some y else b7 kvs j
 | [],_=>by
   by_cases e:k=j
   ·rw[if_pos e.symm];exact cO (p:=(k,y)) e
   ·rw[if_neg (fun z=>e z.symm)];exact cP (p:=(k,y)) e
 |p::r,hn=>by
  rw[List.cons_append]
  have hk:¬p.1=k:=fun z=>by rw[cO z] at hn;cases hn
  rw[cP hk] at hn
  have ih:=sU k j y r hn
  by_cases e:p.1=j
  ·rw[cO e,cO e,if_neg (fun z=>hk (e.trans z))]
  ·rw[cP e,cP e,ih]
theorem EL (kvs:List (κ×V)) (k j:κ) (y:V):b7 (putK kvs k y) j=if j=k then some y else b7 kvs j:=by
 unfold putK
 by_cases a:(kvs.any fun kv=>decide (kv.1=k))=true
 ·rw[if_pos a,xI]
  rw[fg] at a
  by_cases e:j=k
  ·obtain⟨x,hx⟩:=Option.isSome_iff_exists.mp a
   rw[if_pos e,e,hx,Option.map_some,if_pos rfl]
  ·rw[if_neg e]
   cases b7 kvs j with
   |none=>rfl
   |some x=>rw[Option.map_some,if_neg e]
 ·rw[if_neg a]
  refine sU k j y kvs ?_
  rw[fg] at a
  cases q:b7 kvs k with
  |none=>rfl
  |some x=>rw[q] at a;exact(a rfl).elim
theorem bY (kvs:List (κ×V)) (k:κ) (v:V):(putK kvs k v).length≤kvs.length+1:=by
 unfold putK
 split
 ·rw[List.length_map];omega
 ·rw[List.length_append,List.length_cons,List.length_nil];omega
theorem mi {kvs:List (κ×V)} {k:κ} (v:V) (h:b7 kvs k=none):putK kvs k v=kvs++[(k,v)]:=by
 unfold putK
 rw[fg,h]
 exact if_neg (by decide)
theorem ij.CQ {o:Option V} {u:Option Value} (r:ij o u):o.isSome=u.isSome:=by
 cases o with
 |none=>cases u with
  |none=>rfl
  |some _=>exact(show False from r).elim
 |some _=>cases u with
  |none=>exact(show False from r).elim
  |some _=>rfl
theorem ij.getD {o:Option V} {u:Option Value} {d:V} {d':Value} (r:ij o u) (rd:RelV d d'):RelV (o.getD d) (u.getD d'):=by
 cases o with
 |none=>cases u with
  |none=>exact rd
  |some _=>exact(show False from r).elim
 |some _=>cases u with
  |none=>exact(show False from r).elim
  |some _=>exact r
theorem KV.val {kvs:List (κ×V)} {vs:List (κ×Value)} (r:KV kvs vs) (k:κ):ij (b7 kvs k) (valueAt vs k):=by
 unfold KV at r
 induction r with
 |nil=>exact True.intro
 | @cons p q ps qs h t ih=>
   obtain⟨h1,h2⟩:=h
   by_cases e:p.1=k
   ·have e':q.1=k:=h1.symm.trans e
    have b:valueAt (q::qs) k=some q.2:=by simp [valueAt,List.find?_cons,e']
    rw[cO e,b];exact h2
   ·have e':¬q.1=k:=fun z=>e (h1.trans z)
    have b:valueAt (q::qs) k=valueAt qs k:=by simp [valueAt,List.find?_cons,e']
    rw[cP e,b];exact ih
theorem KV.any {kvs:List (κ×V)} {vs:List (κ×Value)} (r:KV kvs vs) (k:κ):(kvs.any fun kv=>decide (kv.1=k))=vs.any fun kv=>decide (kv.1=k):=by
 unfold KV at r
 induction r with
 |nil=>rfl
 |cons h t ih=>rw[List.any_cons,List.any_cons,ih,h.1]
theorem KV.MD {kvs:List (κ×V)} {vs:List (κ×Value)} (r:KV kvs vs) (k:κ) {y:V} {u:Value} (ry:RelV y u):
  KV (kvs.map fun kv=>if kv.1=k then (kv.1,y) else kv) (vs.map fun kv=>if kv.1=k then (kv.1,u) else kv):=by
 unfold KV at r ⊢
 induction r with
 |nil=>exact .nil
 | @cons p q ps qs h t ih=>
   rw[List.map_cons,List.map_cons]
   refine .cons ?_ ih
   obtain⟨h1,h2⟩:=h
   by_cases e:p.1=k
   ·rw[if_pos e,if_pos (h1.symm.trans e)];exact⟨h1,ry⟩
   ·rw[if_neg e,if_neg (fun z=>e (h1.trans z))];exact⟨h1,h2⟩
theorem KV.put {kvs:List (κ×V)} {vs:List (κ×Value)} (r:KV kvs vs) (k:κ) {y:V} {u:Value} (ry:RelV y u):KV (putK kvs k y) (stored vs k u):=by
 unfold putK stored
 rw[r.any k]
 by_cases e:(vs.any fun kv=>decide (kv.1=k))=true
 ·rw[if_pos e,if_pos e];exact r.MD k ry
 ·rw[if_neg e,if_neg e];exact Paired.snoc r ⟨rfl,ry⟩
theorem KV.keys {kvs:List (κ×V)} {vs:List (κ×Value)} (r:KV kvs vs):kvs.map (·.1)=vs.map (·.1):=by
 unfold KV at r
 induction r with
 |nil=>rfl
 |cons h t ih=>rw[List.map_cons,List.map_cons,ih,h.1]
theorem KV.length {kvs:List (κ×V)} {vs:List (κ×Value)} (r:KV kvs vs):kvs.length=vs.length:=Paired.length r
end
theorem sV {P:Program} {w:World} {k:Key} {u:Value} (r:RelV (kV k) u):(bE P w).is k u=true:=by
 cases k with
 |inl i=>obtain⟨t,e⟩:=(show∃t,u=Value.int i t from r);subst e;exact xA P w i t
 |inr x=>obtain⟨t,e⟩:=(show∃t,u=Value.str x t from r);subst e;exact xB P w x t
theorem items_are {P:Program} {w:World}:∀{ks:List Key} {us:List Value},Vals (ks.map kV) us→ItemsAre (bE P w) ks us
 | [],_,r=>by rw[List.map_nil] at r;cases r;exact .nil
 |k::ks,_,r=>by
  rw[List.map_cons] at r
  cases r with
  |cons h t=>exact .cons (sV h) (items_are t)
abbrev KT (H:Hp):List (List Key×V)→List (List Key×Addr×Value)→Prop:=Paired fun p q=>p.1=q.1∧H q.2.1=some (.tup (p.1.map kV))∧RelV p.2 q.2.2
theorem KT.val {H:Hp} {kvs:List (List Key×V)} {xs:List (List Key×Addr×Value)} (r:KT H kvs xs) (k:List Key):ij (b7 kvs k) ((atKey xs k).map (·.2)):=by
 induction r with
 |nil=>exact True.intro
 | @cons p q ps qs h t ih=>
   obtain⟨h1,_,h2⟩:=h
   by_cases e:p.1=k
   ·have e':q.1=k:=h1.symm.trans e
    have b:atKey (q::qs) k=some q.2:=by simp [atKey,List.find?_cons,e']
    rw[cO e,b];exact h2
   ·have e':¬q.1=k:=fun z=>e (h1.trans z)
    have b:atKey (q::qs) k=atKey qs k:=by simp [atKey,List.find?_cons,e']
    rw[cP e,b];exact ih
theorem KT.MD {H:Hp} {kvs:List (List Key×V)} {xs:List (List Key×Addr×Value)} (r:KT H kvs xs) (k:List Key) {y:V} {u:Value} (ry:RelV y u):
  KT H (kvs.map fun kv=>if kv.1=k then (kv.1,y) else kv) (xs.map (putAt k u)):=by
 induction r with
 |nil=>exact .nil
 | @cons p q ps qs h t ih=>
   rw[List.map_cons,List.map_cons]
   refine .cons ?_ ih
   obtain⟨h1,h2,h3⟩:=h
   unfold putAt
   by_cases e:p.1=k
   ·rw[if_pos e,if_pos (h1.symm.trans e)];exact⟨h1,h2,ry⟩
   ·rw[if_neg e,if_neg (fun z=>e (h1.trans z))];exact⟨h1,h2,h3⟩
theorem KT.put {H:Hp} {kvs:List (List Key×V)} {xs:List (List Key×Addr×Value)} (r:KT H kvs xs) (k:List Key) {b:Addr} {y:V} {u:Value} (hb:H b=some (.tup (k.map kV))) (ry:RelV y u):
  KT H (putK kvs k y) (storedH xs k b u):=by
 have e:(kvs.any fun kv=>decide (kv.1=k))=(atKey xs k).isSome:=by
  rw[fg,(r.val k).CQ,Option.isSome_map]
 unfold putK storedH
 rw[e]
 by_cases q:(atKey xs k).isSome=true
 ·rw[if_pos q,if_pos q];exact r.MD k ry
 ·rw[if_neg q,if_neg q];exact Paired.snoc r ⟨rfl,hb,ry⟩
theorem KT.keeps {H H':Hp} {kvs:List (List Key×V)} {xs:List (List Key×Addr×Value)} (r:KT H kvs xs) (ht:∀b ys,H b=some (.tup ys)→H' b=some (.tup ys)):KT H' kvs xs:=
 Paired.Mm r fun _ _ z=>⟨z.1,ht _ _ z.2.1,z.2.2⟩
section
variable {P:Program} {w:World} {H:Hp} {h:Heap} {a:Addr}
theorem K9 {u:HO} (ok:jX P w H h) (e:Rd H a u):cq P w H h a u:=e.ok ok
theorem mj {kvs:List (Key×V)} (ok:jX P w H h) (e:Rd H a (.dK kvs)):kvs.length≤sizeLine∧(a==sysModules)=false∧∃vs,KV kvs vs∧h.DictOf (bE P w) a vs:=
 show cq P w H h a (.dK kvs) from K9 ok e
theorem qx {kvs:List (Key×V)} (ok:jX P w H h) (e:H a=some (.dK kvs)):kvs.length≤sizeLine∧(a==sysModules)=false∧∃vs,KV kvs vs∧h.DictOf (bE P w) a vs:=mj ok (.inl e)
theorem key_of {ks:List Key} (ok:jX P w H h) (e:H a=some (.tup (ks.map kV))):(tupleKind (bE P w)).is h ks a:=by
 obtain⟨_,its,r,o,h1,h2,n,h3⟩:=(show cq P w H h a (.tup (ks.map kV)) from ok a _ e)
 exact⟨o,its.toArray,n,h1,h2,h3,by simpa using items_are r⟩
theorem xJ {kvs:List (List Key×V)} (ok:jX P w H h) (e:Rd H a (.dT kvs)):kvs.length≤sizeLine∧(a==sysModules)=false∧
  ∃xs,KT H kvs xs∧h.DictOfH (tupleKind (bE P w)) a xs:=by
 obtain⟨z,y,xs,r,o,es,ep,h1,h2,h3,h4,h5⟩:=(show cq P w H h a (.dT kvs) from K9 ok e)
 refine⟨z,y,xs,r,o,es,ep,h1,h2,h3,h4,fun x hx=>?_,h5⟩
 have all:∀{l:List (List Key×V)} {m:List (List Key×Addr×Value)},KT H l m→∀x∈m,(tupleKind (bE P w)).is h x.1 x.2.1:=by
  intro l m q
  induction q with
  |nil=>intro x hx;exact nomatch hx
  | @cons p q ps qs hq t ih=>
    intro x hx
    rcases List.mem_cons.mp hx with e|hx
    ·subst e
     exact key_of ok (by rw[←hq.1];exact hq.2.1)
    ·exact ih x hx
 exact all r x hx
theorem QC {kvs:List (List Key×V)} (ok:jX P w H h) (e:H a=some (.dT kvs)):kvs.length≤sizeLine∧(a==sysModules)=false∧
  ∃xs,KT H kvs xs∧h.DictOfH (tupleKind (bE P w)) a xs:=xJ ok (.inl e)
end
def f9 (H:Hp) (a:Addr) (y:V) (r:Option V):Prop:=
 (∃kvs k,Rd H a (.dK kvs)∧y=kV k∧r=b7 kvs k)∨∃kvs k b,Rd H a (.dT kvs)∧y= .ref b∧H b=some (.tup (k.map kV))∧r=b7 kvs k
def i0 (H:Hp) (a:Addr) (y v:V) (H':Hp):Prop:=
 (∃kvs k,H a=some (.dK kvs)∧y=kV k∧kvs.length<sizeLine∧H'=upd H a (.dK (putK kvs k v)))∨
 ∃kvs k b,H a=some (.dT kvs)∧y= .ref b∧H b=some (.tup (k.map kV))∧kvs.length<sizeLine∧H'=upd H a (.dT (putK kvs k v))
theorem f9.k {H:Hp} {a:Addr} {kvs:List (Key×V)} {k:Key} (e:H a=some (.dK kvs)):f9 H a (kV k) (b7 kvs k):= .inl ⟨kvs,k, .inl e,rfl,rfl⟩
theorem i0.k {H:Hp} {a:Addr} {kvs:List (Key×V)} {k:Key} {v:V} (e:H a=some (.dK kvs)) (hl:kvs.length<sizeLine):i0 H a (kV k) v (upd H a (.dK (putK kvs k v))):= .inl ⟨kvs,k,e,rfl,hl,rfl⟩
section
variable {X:Cx} {pins:List (Addr×Obj)} {σ:St} {H:Hp} {s:Shared} {a:Addr} {y v:V} {u r:Value} {o:Option V} {A:Around} {E:Value→Shared→Prop}
theorem Inv.big (I:Inv X pins σ H s):sysModules<s.heap.objs.size:=by
 have h:mainGlobals<s.heap.objs.size:=(I.mod.glob.keeps I.bk).lt
 exact Nat.lt_trans (by decide) h
theorem CS {Q:Value→Shared→Prop} (hu:A.units+1<cLine) (I:Inv X pins σ H s) (g:f9 H a y (some v)) (ry:RelV y u) (h:∀w' s',Inv X pins σ H s'→RelV v w'→Q w' s'):
  wpAny (model X.prog X.w) A (getItem (.ref a) u) Q E s:=by
 rcases g with ⟨kvs,k,e,ey,l⟩ | ⟨kvs,k,b,e,ey,eb,l⟩
 ·subst ey
  obtain⟨z,hd,vs,rel,dd⟩:=mj I.aS e
  obtain⟨w',hw,EM⟩:=ij.some_of (v:=v) (o:=valueAt vs k) (by rw[l];exact rel.val k)
  exact wpAny_getItem_of (sV ry) dd.mapOf hw (h w' _ (I.tok _) EM)
 ·subst ey
  cases (show u=Value.ref b from ry)
  obtain⟨z,hd,xs,rel,dd⟩:=xJ I.aS e
  obtain⟨w',hw,EM⟩:=ij.some_of (v:=v) (o:=(atKey xs k).map (·.2)) (by rw[l];exact rel.val k)
  obtain⟨p,hp,EN⟩:=Option.map_eq_some_iff.mp hw
  refine wpAny_getItem_heap (tupleKind_room_in1 hu) (key_of I.aS eb) dd hp ?_
  rw[EN]
  exact h w' _ (I.tok _) EM
theorem pG {h':Heap} {t':Nat} {ob:HO} (I:Inv X pins σ H s) (mu:P7 (H a)) (hs:Heap.SameBut a s.heap h') (he:∃q,h'.get? a=some q) (new:cq X.prog X.w (upd H a ob) h' a ob):
  Inv X pins σ (upd H a ob) { s with heap:=h',toks:=t' }:=
 I.write (x:=a) (e:=a) mu (.inl rfl) (fun b q hb z=>(hs.2 b hb).trans z) he new
theorem qy {P:Program} {w:World} {H':Hp} {h':Heap} {kvs:List (Key×V)} {vs:List (Key×Value)} (z:kvs.length≤sizeLine) (hd:(a==sysModules)=false) (rel:KV kvs vs) (dd:h'.DictOf (bE P w) a vs):
  cq P w H' h' a (.dK kvs):=⟨z,hd,vs,rel,dd⟩
theorem CT {H':Hp} {Q:Unit→Shared→Prop} (hu:A.units+1<cLine) (I:Inv X pins σ H s) (g:i0 H a y v H') (ry:RelV y u) (rv:RelV v r) (h:∀s',Inv X pins σ H' s'→Q () s'):
  wpAny (model X.prog X.w) A (setItem (.ref a) u r) Q E s:=by
 rcases g with ⟨kvs,k,e,ey,l,eH⟩ | ⟨kvs,k,b,e,ey,eb,l,eH⟩
 ·subst ey eH
  obtain⟨z,hd,vs,rel,dd⟩:=qx I.aS e
  have hz:vs.length≤sizeLine:=by rw[←rel.length];exact z
  have hl:(putK kvs k v).length≤sizeLine:=by have:=bY kvs k v;omega
  refine wpAny_setItem_pairs (hsz:=hz) (sV ry) dd fun h' CU hs=>h _ ?_
  have he:∃q,h'.get? a=some q:=let ⟨q,_,_,hq,_⟩:=CU;⟨q,hq⟩
  exact pG I (by rw[e];exact True.intro) hs he (qy hl hd (rel.put k rv) CU)
 ·subst ey eH
  cases (show u=Value.ref b from ry)
  obtain⟨z,hd,xs,rel,dd⟩:=QC I.aS e
  have hz:xs.length≤sizeLine:=by rw[←Paired.length rel];exact z
  have hl:(putK kvs k v).length≤sizeLine:=by have:=bY kvs k v;omega
  refine wpAny_setItem_heap (hsz:=hz) (tupleKind_room_in1 hu) (key_of I.aS eb) dd fun h' CU hs=>h _ ?_
  obtain⟨q,es,ep,hq,h2,h3,h4,_,h5⟩:=CU
  refine pG I (by rw[e];exact True.intro) hs ⟨q,hq⟩ ⟨hl,hd,_,(rel.put k eb rv).keeps fun c ys ec=>?_,q,es,ep,hq,h2,h3,h4,h5⟩
  rw[ah (cI ec e (fun z=>nomatch z))]
  exact ec
end
section
variable {X:Cx} {pins:List (Addr×Obj)} {σ:St} {H:Hp} {s:Shared} {a:Addr} {kvs:List (Key×V)} {k:Key} {u:Value} {A:Around} {E:Value→Shared→Prop}
theorem QD {Q:Value→Shared→Prop} (I:Inv X pins σ H s) (e:Rd H a (.dK kvs)) (h:∀t s',Inv X pins σ H s'→Q (.int kvs.length t) s'):wpAny (model X.prog X.w) A (call (.builtin "len") [.ref a]) Q E s:=by
 obtain⟨z,hd,vs,rel,dd⟩:=mj I.aS e
 refine call_len_dict hd dd (by rw[←rel.length];rw[sizeLine_eq] at z;omega) ?_
 rw[←rel.length]
 exact h _ _ (I.tok _)
end
def QE (i:Expr):Prop:=∀ov iv,subscripted i false ov iv=operate [ov,iv] (getItem ov iv)
theorem IH {prog:Program} {w:World} {A:Around} {E:Value→Shared→Prop} {s:Shared} {env:Env} {value slice:Expr} {pos:Pos} {T id:String} {Q:Value→Shared→Prop}
  (hl:typeLookup (.type T) "__getitem__" =pure (some (.builtin id))) (hs:QE slice)
  (h:wpAny (model prog w) A (eval value env) (fun o s₁=>wpAny (model prog w) A (eval slice env) (fun i s₂=>s₂.TypeIs o T∧wpAny (model prog w) A (getItem o i) Q E s₂) E s₁) E s):
  wpAny (model prog w) A (eval (.Subscript value slice pos) env) Q E s:=by
 refine Subscript_ (wpAny_mono h (fun o s₁ h₁=>wpAny_mono h₁ (fun i s₂ h₂=>?_) fun _ _ x=>x) fun _ _ x=>x)
 obtain⟨hT,h₂⟩:=h₂
 unfold subscriptTail
 refine wpAny_bind ?_
 rw[getitemInPython_of_ne hT.not_modules]
 refine wpAny_bind (wpAny_specialOf hT hl ?_)
 have fin:wpAny (model prog w) A (subscripted slice false o i) (fun r s₃=>wpAny (model prog w) A (letTemporaryGo value o r >>= fun _=>pure r) Q E s₃) E s₂:=by
  rw[hs o i]
  exact wpAny_operating (wpAny_mono h₂ (fun r s₃ h₃=>wpAny_bind (wpAny_letTemporaryGo (wpAny_pure h₃))) fun _ _ x=>x)
 first
  |exact wpAny_pure (wpAny_bind fin)
  |exact wpAny_bind (wpAny_pure (wpAny_bind fin))
  |exact wpAny_bind fin
theorem xK {X:Cx} {pins:List (Addr×Obj)} {σ:St} {H:Hp} {s:Shared} {a:Addr} {y:V} {o:Option V} (I:Inv X pins σ H s) (g:f9 H a y o):s.TypeIs (.ref a) "dict" :=by
 rcases g with ⟨kvs,k,e,_,_⟩ | ⟨kvs,k,b,e,_,_,_⟩
 ·obtain⟨_,_,vs,_,dd⟩:=mj I.aS e
  exact dd.typeIs
 ·obtain⟨_,_,xs,_,dd⟩:=xJ I.aS e
  exact dd.typeIs
def EO (td ty:TE):TE:=fun σ H Q=>td σ H fun x H1=>ty σ H1 fun y H2=>∃a v,x= .ref a∧f9 H2 a y (some v)∧Q v H2
def ES (td ty tv:TE):TS:=fun D σ H=>tv σ H fun v H1=>td σ H1 fun x H2=>ty σ H2 fun y H3=>∃a H4,x= .ref a∧i0 H3 a y v H4∧D.nx σ H4
section
variable {X:Cx} {o i e value:Expr} {pos pos' sA:Pos} {td ty tv:TE}
theorem b6 (hu:X.A.units+1<cLine) (ho:PE X o td) (hi:PE X i ty) (hs:QE i):PE X (.Subscript o i pos) (EO td ty):=by
 intro pins s σ H Q I h
 refine IH PySem.F.slot_dict_getitem.lookup hs (bZ (ho pins s σ H _ I h) fun u s1 ⟨x,H1,I1,rx,q1⟩=>bZ (hi pins s1 σ H1 _ I1 q1) fun iv s2 ⟨y,H2,I2,ry,a,v,ex,g,q2⟩=>?_)
 subst ex
 obtain rfl:u=Value.ref a:=rx
 exact⟨xK I2 g,CS hu I2 g ry fun w' s3 I3 EM=>⟨v,H2,I3,EM,q2⟩⟩
theorem cQ (hu:X.A.units+1<cLine) (ho:PE X o td) (hi:PE X i ty) (hv:PE X value tv) (hs:swapsWith value (some (.Subscript o i pos')) pos.line X.env=pure false):
  PS X (.Assign [.Subscript o i pos'] value pos) (ES td ty tv):=by
 intro pins s σ H D I h
 refine wpAny_Assign_Subscript (bZ (hv pins s σ H _ I h) fun r s1 ⟨v,H1,I1,rv,q1⟩=>bZ (ho pins s1 σ H1 _ I1 q1) fun u s2 ⟨x,H2,I2,rx,q2⟩=>bZ (hi pins s2 σ H2 _ I2 q2) fun iv s3 ⟨y,H3,I3,ry,a,H4,ex,g,q3⟩=>?_) hs
 subst ex
 obtain rfl:u=Value.ref a:=rx
 exact CT hu I3 g ry rv fun s4 I4=>⟨σ,H4,I4,q3⟩
end
theorem xM {P:Program} {w:World} {H:Hp} (h:Heap) (hb:sysModules<h.objs.size):cq P w H (h.push { cls:= .type "dict",data:= .dict #[] }) h.objs.size (.dK []):=
 ⟨Nat.zero_le _,beq_eq_false_iff_ne.mpr (Ne.symm (Nat.ne_of_lt hb)),[], .nil,Heap.DictOf.new h⟩
def ME:TE:=fun _ H Q=>∀p,H p=none→Q (.ref p) (upd H p (.dK []))
section
variable {X:Cx} {pos:Pos}
theorem dw:PE X (.Dict [] [] pos) ME:=fun pins s σ H Q I h=>
 wpAny_Dict_empty ⟨.ref s.heap.objs.size,_,I.laid (a:=s.heap.objs.size) (o:= .dK []) (t':=s.toks) (fun _ _ q=>Heap.get?_push_of_some _ q) (Nat.le_refl _) (xM s.heap I.big),rfl,h _ (I.aS.fresh (Nat.le_refl _))⟩
end
def zN:List (TE×TE)→St→Hp→(List (V×V)→Hp→Prop)→Prop
 | [],_,H,Q=>Q [] H
 | (tk,tv)::r,σ,H,Q=>tk σ H fun x H1=>tv σ H1 fun y H2=>zN r σ H2 fun ps H3=>Q ((x,y)::ps) H3
abbrev VV:List (V×V)→List (Value×Value)→Prop:=Paired fun p q=>RelV p.1 q.1∧RelV p.2 q.2
def Xf (X:Cx) (pos:Pos) (keys:List (Option Expr)) (values:List Expr) (II:List (TE×TE)):Prop:=
 ∀(pins:List (Addr×Obj)) (s:Shared) (σ:St) (H:Hp) (Q:List (V×V)→Hp→Prop),Inv X pins σ H s→zN II σ H Q→
  wpAny (model X.prog X.w) X.A (evalPairs (pairTrees keys values X.env pos)) (fun vs s'=>∃ps H',Inv X pins σ H' s'∧VV ps vs∧Q ps H') X.xe s
theorem ve {X:Cx} {pos:Pos}:Xf X pos [] [] []:=fun pins s σ H Q I h=>pairTrees_nil_walk ⟨[],H,I, .nil,h⟩
theorem qz {X:Cx} {pos:Pos} {k v:Expr} {ks:List (Option Expr)} {vs:List Expr} {tk tv:TE} {II:List (TE×TE)} (hk:PE X k tk) (hv:PE X v tv) (hr:Xf X pos ks vs II):
  Xf X pos (some k::ks) (v::vs) ((tk,tv)::II):=fun pins s σ H Q I h=>
 pairTrees_cons_walk (bZ (hk pins s σ H _ I h) fun u s1 ⟨x,H1,I1,rx,q1⟩=>bZ (hv pins s1 σ H1 _ I1 q1) fun w2 s2 ⟨y,H2,I2,ry,q2⟩=>
  bZ (hr pins s2 σ H2 _ I2 q2) fun ws s3 ⟨ps,H3,I3,rel,q3⟩=>⟨(x,y)::ps,H3,I3, .cons ⟨rx,ry⟩ rel,q3⟩)
def cu (kvs more:List (Key×V)):List (Key×V):=more.foldl (fun acc kv=>putK acc kv.1 kv.2) kvs
theorem KV.merge:∀{more:List (Key×V)} {rs:List (Key×Value)} {kvs:List (Key×V)} {vs:List (Key×Value)},KV more rs→KV kvs vs→KV (cu kvs more) (merged vs rs):=by
 intro more rs kvs vs r
 unfold KV at r
 induction r generalizing kvs vs with
 |nil=>intro q;exact q
 | @cons p q ps qs h t ih=>
   intro r0
   have e:KV (putK kvs p.1 p.2) (stored vs q.1 q.2):=by
    have:=r0.put p.1 h.2
    rw[←h.1];exact this
   exact ih e
theorem eB:∀(more kvs:List (Key×V)),(cu kvs more).length≤kvs.length+more.length
 | [],kvs=>by show kvs.length≤kvs.length+0;omega
 |p::r,kvs=>by
  have h1:=eB r (putK kvs p.1 p.2)
  have h2:=bY kvs p.1 p.2
  show (cu (putK kvs p.1 p.2) r).length≤_
  rw[List.length_cons];omega
theorem qA {P:Program} {w:World}:∀{kvs:List (Key×V)} {ws:List (Value×Value)},VV (kvs.map fun kv=>(kV kv.1,kv.2)) ws→∃rs,Carries (bE P w) ws rs∧KV kvs rs
 | [],_,r=>by rw[List.map_nil] at r;cases r;exact⟨[],True.intro, .nil⟩
 |p::kvs,_,r=>by
  rw[List.map_cons] at r
  cases r with
  | @cons a b as bs h t=>
    obtain⟨rs,c,q⟩:=qA (P:=P) (w:=w) t
    obtain⟨b1,b2⟩:=b
    exact⟨(p.1,b2)::rs,⟨sV h.1,rfl,c⟩, .cons ⟨rfl,h.2⟩ q⟩
def QF (II:List (TE×TE)):TE:=fun σ H Q=>∀p,H p=none→zN II σ (upd H p (.dK [])) fun ps H2=>H2 p=some (.dK [])∧∃kvs:List (Key×V),ps=kvs.map (fun kv=>(kV kv.1,kv.2))∧kvs.length≤15∧Q (.ref p) (upd H2 p (.dK (cu [] kvs)))
theorem vf {X:Cx} {pos:Pos} {keys:List (Option Expr)} {values:List Expr} {II:List (TE×TE)} (h:Xf X pos keys values II) (xN:keys.all (·.isSome)=true) (hl:keys.length=values.length) (h0:keys≠[])
  (h15:keys.length≤15):PE X (.Dict keys values pos) (QF II):=by
 intro pins s σ H Q I q
 have hn:=I.aS.fresh (Nat.le_refl s.heap.objs.size)
 have I1:=I.laid (a:=s.heap.objs.size) (o:= .dK []) (h':=s.heap.push { cls:= .type "dict",data:= .dict #[] }) (t':=s.toks) (fun _ _ q=>Heap.get?_push_of_some _ q) (Nat.le_refl _) (xM s.heap I.big)
 refine wpAny_Dict_walk (knd:=bE X.prog X.w) xN hl h0 h15 (bZ (h pins _ σ _ _ I1 (q _ hn)) fun ws s2 ⟨ps,H2,I2,rel,e,kvs,ep,lk,q2⟩=>?_)
 subst ep
 obtain⟨rs,c,rk⟩:=qA (P:=X.prog) (w:=X.w) rel
 obtain⟨z,hd,vs0,r0,dd⟩:=qx I2.aS e
 cases r0
 refine⟨rs,c,dd,fun h' CU hs=>⟨.ref s.heap.objs.size,_,?_,rfl,q2⟩⟩
 have hz:(cu [] kvs).length≤sizeLine:=by
  have h1:=eB kvs []
  rw[List.length_nil] at h1
  rw[sizeLine_eq];omega
 have he:∃q,h'.get? s.heap.objs.size=some q:=let ⟨q,_,_,hq,_⟩:=CU;⟨q,hq⟩
 exact pG I2 (by rw[e];exact True.intro) hs he (qy hz hd (rk.merge .nil) CU)
structure M1 (X:Cx) (o:Expr) (m:Str) (apos:Pos) (e:Expr) (gU:Pos):Prop where
 base:attributeBase o m X.env (eval o X.env)=eval o X.env
 Yz:((backTo gU (starEach [e] X.env)).all (fun x=>!x.1)&&(backToKw gU (keywordEach [] X.env)).all (fun x=>x.1.isSome)
  &&decide (([e]:List Expr).length+([]:List Keyword).length+(if ([]:List Keyword).isEmpty then 0 else 1) <30))=true
 line:(apos.endLine==gU.line)=true
 trees:backTo gU (starEach [e] X.env)=[(false,eval e X.env)]
structure M2 (X:Cx) (o:Expr) (m:Str) (apos:Pos) (e f:Expr) (gU:Pos):Prop where
 base:attributeBase o m X.env (eval o X.env)=eval o X.env
 Yz:((backTo gU (starEach [e,f] X.env)).all (fun x=>!x.1)&&(backToKw gU (keywordEach [] X.env)).all (fun x=>x.1.isSome)
  &&decide (([e,f]:List Expr).length+([]:List Keyword).length+(if ([]:List Keyword).isEmpty then 0 else 1) <30))=true
 line:(apos.endLine==gU.line)=true
 trees:backTo gU (starEach [e,f] X.env)=[(false,eval e X.env),(false,eval f X.env)]
def YA (H:Hp) (a:Addr):Prop:=(∃kvs,Rd H a (.dK kvs))∨∃kvs,Rd H a (.dT kvs)
theorem ET {X:Cx} {pins:List (Addr×Obj)} {σ:St} {H:Hp} {s:Shared} {a:Addr} (I:Inv X pins σ H s) (d:YA H a):
  s.TypeIs (.ref a) "dict" ∧(∀b,Value.ref a= .ref b→∃ob,s.heap.get? b=some ob∧ob.dict=none)∧(a==sysModules)=false:=by
 rcases d with ⟨kvs,e⟩ | ⟨kvs,e⟩
 ·obtain⟨_,hd,vs,_,dd⟩:=mj I.aS e
  refine⟨dd.typeIs,fun b q=>?_,hd⟩
  cases q
  obtain⟨ob,_,_,h1,h2,_⟩:=dd
  exact⟨ob,h1,h2.2.1⟩
 ·obtain⟨_,hd,xs,_,dd⟩:=xJ I.aS e
  refine⟨dd.typeIs,fun b q=>?_,hd⟩
  cases q
  obtain⟨ob,_,_,h1,h2,_⟩:=dd
  exact⟨ob,h1,h2.2.1⟩
section
variable {X:Cx} {pins:List (Addr×Obj)} {σ:St} {H:Hp} {s:Shared} {a:Addr} {y d:V} {u r:Value} {o:Option V} {A:Around} {E:Value→Shared→Prop}
theorem MF {Q:Value→Shared→Prop} (hu:A.units+1<cLine) (I:Inv X pins σ H s) (g:f9 H a y o) (ry:RelV y u) (rd:RelV d r) (h:∀w' s',Inv X pins σ H s'→RelV (o.getD d) w'→Q w' s'):
  wpAny (model X.prog X.w) A (call (.builtin "dict.get") [.ref a,u,r]) Q E s:=by
 rcases g with ⟨kvs,k,e,ey,l⟩ | ⟨kvs,k,b,e,ey,eb,l⟩
 ·subst ey
  obtain⟨z,hd,vs,rel,dd⟩:=mj I.aS e
  refine call_meetsIn PySem.F.slot_dict_get dd.typeIs PySem.F.entry_dict_get (PySem.F.args_dict_get_3 _ _ _) (meets_dict_get_default (bE X.prog X.w) a (sV ry) hd r) ⟨_,dd.mapOf,h _ _ (I.tok _) ?_⟩
  rw[l]
  exact(rel.val k).getD rd
 ·subst ey
  cases (show u=Value.ref b from ry)
  obtain⟨z,hd,xs,rel,dd⟩:=xJ I.aS e
  refine call_meetsIn PySem.F.slot_dict_get dd.typeIs PySem.F.entry_dict_get (PySem.F.args_dict_get_3 _ _ _) (meetsH_dict_get_default (tupleKind (bE X.prog X.w)) a b hd r) ⟨tupleKind_room_in1 hu,k,xs,key_of I.aS eb,dd,h _ _ (I.tok _) ?_⟩
  rw[l]
  exact(rel.val k).getD rd
end
def zO (td ty tx:TE):TE:=fun σ H Q=>td σ H fun x H1=>∃a,x= .ref a∧YA H1 a∧ty σ H1 fun y H2=>tx σ H2 fun z H3=>∃o,f9 H3 a y o∧Q (o.getD z) H3
section
variable {X:Cx} {o e f:Expr} {apos gU:Pos} {td ty tx:TE}
theorem bR (hu:X.A.units+1<cLine) (ho:PE X o td) (he:PE X e ty) (hf:PE X f tx) (m:M2 X o "get" apos e f gU):PE X (.Call (.Attribute o "get" apos) [e,f] [] gU) (zO td ty tx):=by
 intro pins s σ H Q I h
 refine wpAny_Call_method m.base m.Yz m.line PySem.F.plainAttrs_dict PySem.F.slot_dict_get PySem.F.type_dict_get (bZ (ho pins s σ H _ I h) fun u s1 ⟨x,H1,I1,rx,a,ex,d,q1⟩=>?_)
 subst ex
 obtain rfl:u=Value.ref a:=rx
 obtain⟨t1,t2,_⟩:=ET I1 d
 refine⟨t1,t2,?_⟩
 rw[m.trees]
 refine Calls.callWith_builtin rfl (Calls.evalArgs_plain (Calls.spliced_cons (bZ (he pins s1 σ H1 _ I1 q1) fun iv s2 ⟨y,H2,I2,ry,q2⟩=>
  Calls.spliced_cons (bZ (hf pins s2 σ H2 _ I2 q2) fun fv s3 ⟨z,H3,I3,rz,ov,g,q3⟩=>Calls.spliced_nil ?_))))
 exact MF hu I3 g ry rz fun w' s4 I4 EM=>⟨_,H3,I4,EM,q3⟩
end
section
variable {X:Cx} {pins:List (Addr×Obj)} {σ:St} {H:Hp} {s:Shared} {a:Addr} {kvs:List (Key×V)} {A:Around} {E:Value→Shared→Prop}
theorem EU {Q:Value→Shared→Prop} (I:Inv X pins σ H s) (e:Rd H a (.dK kvs)) (h:∀p s',H p=none→Inv X pins σ (upd H p (.dK kvs)) s'→Q (.ref p) s'):wpAny (model X.prog X.w) A (call (.type "dict") [.ref a]) Q E s:=by
 obtain⟨z,hd,vs,rel,dd⟩:=mj I.aS e
 refine kt_call_dict hd dd (by rw[←rel.length];exact z) fun h' CU hs=>?_
 refine h _ _ (I.aS.fresh (Nat.le_refl _)) (I.laid (a:=s.heap.objs.size) (o:= .dK kvs) (t':=s.toks) (fun b q hq=>?_) (Nat.le_refl _) (qy z (beq_eq_false_iff_ne.mpr (Ne.symm (Nat.ne_of_lt I.big))) rel CU))
 exact(hs.2 b (Nat.ne_of_lt (Heap.lt_size hq))).trans (Heap.get?_push_of_some _ hq)
end
section
variable {X:Cx} {pins:List (Addr×Obj)} {σ:St} {H:Hp} {s:Shared} {a:Addr} {y:V} {u:Value} {A:Around} {E:Value→Shared→Prop}
end
end L2
namespace HT
open PySem PyProof.Rows
section
open PySem.SeqAt
open PySem.AutoSeq1 (wpAny_loadPart')
open PySem.MeetsSeq PySem.MeetsSeq2 PySem.MeetsSeq3
end
section
variable {prog:Program} {w:World} {A:Around} {E:Value→Shared→Prop} {s:Shared}
theorem IJ {t b:Addr} {vs ws:List Value} {Q:Value→Shared→Prop} (ht:IsTup s.heap t vs.toArray) (hb:IsTup s.heap b ws.toArray) (hv:vs≠[])
  (h1:ws=[]→Q (.ref t) s) (h2:ws≠[]→Q (.ref s.heap.objs.size) { s with heap:=s.heap.push { cls:= .type "tuple",data:= .seq (vs++ws).toArray } })
  (hsz:vs.length+ws.length≤sizeLine):wpAny (model prog w) A (binaryOp .Add (.ref t) (.ref b)) Q E s:=by
 obtain⟨⟨cls,dd,data,sl⟩,ho,hc,n,hd⟩:=id ht
 obtain⟨⟨cls2,Xg,data2,sl2⟩,Xh,Xi,n2,hd2⟩:=id hb
 simp only at hc hd Xi hd2
 subst hc hd Xi hd2
 have e:vs.toArray++ws.toArray=(vs++ws).toArray:=by simp
 by_cases hw:ws=[]
 ·exact concat_meets ⟨_,ho,rfl⟩ ⟨_,Xh,rfl⟩ noFill_tuple_add seq_tuple_add PySem.F.slot_tuple_add PySem.F.entry_tuple_add (PySem.F.args_tuple_add_2 _ _)
   (tuple_addW1 t b vs.toArray ws.toArray n n2 dd Xg sl sl2 (by simpa using hv) (by simp [hw])) ⟨ho,Xh,h1 hw⟩
 ·refine concat_meets ⟨_,ho,rfl⟩ ⟨_,Xh,rfl⟩ noFill_tuple_add seq_tuple_add PySem.F.slot_tuple_add PySem.F.entry_tuple_add (PySem.F.args_tuple_add_2 _ _)
   (tuple_addW2 t b vs.toArray ws.toArray n n2 dd Xg sl sl2 (by simpa using hv) (by simpa using hw) (by rw[List.size_toArray,List.size_toArray];exact hsz)) ⟨ho,Xh,?_⟩
  rw[e]
  exact h2 hw
end
end HT
namespace L2
open PySem PySem.Spec PyProof.Rows
abbrev TO:=St→Hp→(Option Int→Hp→Prop)→Prop
def PO (X:Cx) (e:Option Expr) (t:TO):Prop:=
 ∀(pins:List (Addr×Obj)) (s:Shared) (σ:St) (H:Hp) (Q:Option Int→Hp→Prop),Inv X pins σ H s→t σ H Q→
  wpAny (model X.prog X.w) X.A (evalPart e X.env) (fun u s'=>∃o H',Inv X pins σ H' s'∧IsPart u o∧Q o H') X.xe s
def QG (t:TE):TO:=fun σ H Q=>t σ H fun x H1=>∃i,x= .int i∧Q (some i) H1
theorem intsAre_of {ns:List Int}:∀{us:List Value},Vals (ns.map V.int) us→IntsAre us ns:=by
 induction ns with
 |nil=>intro us r;rw[List.map_nil] at r;cases r;exact .nil
 |cons n ns ih=>
  intro us r
  rw[List.map_cons] at r
  cases r with
  |cons r1 r2=>
   obtain⟨t,e⟩:=r1
   subst e
   exact .cons n t (ih r2)
section
variable {X:Cx} {e:Expr} {te:TE} {lo hi:Option Expr} {tl th:TO} {pos p2:Pos}
theorem iq (h:PE X e te):PO X (some e) (QG te):=by
 intro pins s σ H Q I hw
 rw[evalPart_some]
 refine bZ (h pins s σ H _ I hw) fun u s1 ⟨x,H1,I1,r1,q1⟩=>?_
 obtain⟨i,rfl,q⟩:=q1
 obtain⟨t,rfl⟩:=r1
 exact⟨some i,H1,I1, .int i t,q⟩
def SlR (X:Cx) (r:V→Option Int→Option Int→Hp→VK→Prop):Prop:=
 ∀(pins:List (Addr×Obj)) (s:Shared) (σ:St) (H:Hp) (x:V) (v vl vu:Value) (lo hi:Option Int) (sl:Addr) (Q:VK),Inv X pins σ H s→RelV x v→s.heap.IsSliceOf sl vl vu .none→IsPart vl lo→IsPart vu hi→r x lo hi H Q→
  ∃T id,typeLookup (.type T) "__getitem__" =pure (some (.builtin id))∧s.TypeIs v T∧wpAny (model X.prog X.w) X.A (getItem v (.ref sl)) (EP X pins σ Q) X.xe s
def tSl (r:V→Option Int→Option Int→Hp→VK→Prop) (te:TE) (tl th:TO):TE:=fun σ H Q=>te σ H fun x H1=>tl σ H1 fun l H2=>th σ H2 fun u H3=>r x l u H3 Q
theorem ml {r:V→Option Int→Option Int→Hp→VK→Prop} (hr:SlR X r) (he:PE X e te) (hl:PO X lo tl) (hu:PO X hi th):PE X (.Subscript e (.Slice lo hi none p2) pos) (tSl r te tl th):=by
 intro pins s σ H Q I h
 refine Subscript_ (bZ (he pins s σ H _ I h) fun v s1 ⟨x,H1,I1,r1,q1⟩=>?_)
 refine wpAny_Slice (bZ (hl pins s1 σ H1 _ I1 q1) fun vl s2 ⟨l,H2,I2,pl,q2⟩=>bZ (hu pins s2 σ H2 _ I2 q2) fun vu s3 ⟨u,H3,I3,pu,q3⟩=>?_)
 rw[evalPart_none]
 refine wpAny_pure ?_
 have I4:Inv X pins σ H3 { s3 with heap:=s3.heap.push { cls:= .type "slice",data:= .fields #[vl,vu, .none] } }:=I3.kept (t':=s3.toks) fun b ob q=>Heap.get?_push_of_some _ q
 obtain⟨T,id,hT,ht,hg⟩:=hr pins { s3 with heap:=s3.heap.push { cls:= .type "slice",data:= .fields #[vl,vu, .none] } } σ H3 x v vl vu l u s3.heap.objs.size Q I4 r1 (Heap.IsSliceOf.new ..) pl pu q3
 show wpAny (model X.prog X.w) X.A (subscriptTail e (.Slice lo hi none p2) v (.ref s3.heap.objs.size)) (EP X pins σ Q) X.xe { s3 with heap:=s3.heap.push { cls:= .type "slice",data:= .fields #[vl,vu, .none] } }
 exact tail_any (ops:=[.ref s3.heap.objs.size,v]) ht hT hg (by with_unfolding_all rfl)
def QH (K:PySem.W.Frag):R2:=fun x y H Q=>∃a b xs ys,x= .ref a∧y= .ref b∧iX K H a xs∧iX K H b ys∧xs≠[]∧xs.length+ys.length≤sizeLine∧
 (ys=[]→Q (.ref a) H)∧(ys≠[]→∀p,H p=none→Q (.ref p) (upd H p (.tup (xs++ys))))
theorem Vals.vg {xs:List V} {us:List Value} (r:Vals xs us):us=[]↔xs=[]:=by
 cases r with
 |nil=>simp
 |cons _ _=>simp
theorem IK:nR X (binaryOp .Add) (QH X.K):=by
 intro pins s σ H x y v u Q I rx ry h
 obtain⟨a,b,xs,ys,rfl,rfl,ha,hb,hx,hz,q1,q2⟩:=h
 cases rx
 cases ry
 obtain⟨its,r1,p1,_⟩:=I.tuple ha
 obtain⟨xO,r2,p2,_⟩:=I.tuple hb
 refine HT.IJ p1 p2 (fun z=>hx (r1.vg.mp z)) (fun z=>⟨.ref a,H,I,rfl,q1 (r2.vg.mp z)⟩) (fun z=>?_) (by rw[←r1.length,←r2.length];exact hz)
 refine⟨.ref s.heap.objs.size,_,I.laid (t':=s.toks) (o:= .tup (xs++ys)) (fun b ob q=>Heap.get?_push_of_some _ q) (Nat.le_refl _) ?_,rfl,q2 (fun w=>z (r2.vg.mpr w)) _ (I.aS.fresh (Nat.le_refl _))⟩
 exact⟨by rw[List.length_append];exact hz,_,r1.append r2,IsTup.new _ _⟩
end
end L2
namespace L2
open PySem PySem.Spec PyProof.Rows
def Px (n:Nat) (i:Int):Option Nat:=if 0≤i then (if i<n then some i.toNat else none) else if -(n:Int)≤i then some (i+n).toNat else none
def zP {α:Type} (xs:List α) (i:Int):Option α:=(Px xs.length i).bind fun j=>xs[j]?
theorem IL {n:Nat} {i:Int} {j:Nat} (h:Px n i=some j):seqIndex? i n=some j∧j<n∧ -(n:Int)≤i∧i<n:=by
 unfold Px at h
 by_cases h0:0≤i
 ·rw[if_pos h0] at h
  by_cases h1:i<n
  ·rw[if_pos h1] at h
   have e:i.toNat=j:=Option.some.inj h
   exact⟨by rw[seqIndex_of h0 h1,e],by omega,by omega,h1⟩
  ·rw[if_neg h1] at h;cases h
 ·rw[if_neg h0] at h
  by_cases h1: -(n:Int)≤i
  ·rw[if_pos h1] at h
   have e:(i+n).toNat=j:=Option.some.inj h
   exact⟨by rw[seqIndex_neg (by omega) h1,e],by omega,h1,by omega⟩
  ·rw[if_neg h1] at h;cases h
theorem vh {α:Type} {xs:List α} {i:Int} {v:α} (h:zP xs i=some v):∃j,seqIndex? i xs.length=some j∧xs[j]? =some v∧j<xs.length∧ -(xs.length:Int)≤i∧i<xs.length:=by
 unfold zP at h
 cases e:Px xs.length i with
 |none=>rw[e] at h;cases h
 |some j=>
  rw[e] at h
  obtain⟨h1,h2,h3,h4⟩:=IL e
  exact⟨j,h1,h,h2,h3,h4⟩
theorem pH {α:Type} {xs:List α} {j:Nat} {v:α} (h:xs[j]? =some v):zP xs (j:Int)=some v:=by
 have hj:j<xs.length:=(List.getElem?_eq_some_iff.mp h).1
 have e:Px xs.length (j:Int)=some j:=by
  unfold Px
  rw[if_pos (by omega),if_pos (by omega)];simp
 unfold zP;rw[e];exact h
def IM (b:Expr):Prop:=∀o i,subscripted b false o i=operate [o,i] (getItem o i)
def QI (X:Cx) (r:R2):Prop:=
 ∀(value slice:Expr) (pins:List (Addr×Obj)) (s:Shared) (σ:St) (H:Hp) (x y:V) (v u:Value) (Q:VK),Inv X pins σ H s→RelV x v→RelV y u→r x y H Q→
  subscripted slice false v u=operate [v,u] (getItem v u)→wpAny (model X.prog X.w) X.A (subscriptTail value slice v u) (EP X pins σ Q) X.xe s
def MtR (X:Cx) (id:String) (r:V→List V→Hp→VK→Prop):Prop:=
 ∀(pins:List (Addr×Obj)) (s:Shared) (σ:St) (H:Hp) (x:V) (xs:List V) (v:Value) (us:List Value) (Q:VK),Inv X pins σ H s→RelV x v→Vals xs us→r x xs H Q→
  wpAny (model X.prog X.w) X.A (call (.builtin id) (v::us)) (EP X pins σ Q) X.xe s
section
variable {X:Cx} {a b:Expr} {ta tb:TE} {pos:Pos}
theorem cE {r:R2} (hr:QI X r) (ha:PE X a ta) (hb:PE X b tb) (hs:IM b):PE X (.Subscript a b pos) (Mx r ta tb):=by
 intro pins s σ H Q I h
 exact Subscript_ (My ha hb I h fun v u s2 x y H2 I2 rx ry q=>hr a b pins s2 σ H2 x y v u Q I2 rx ry q (hs _ _))
def YB (K:PySem.W.Frag):R2:=fun x y H Q=>∃p xs i v,x= .ref p∧y= .int i∧b5 K H p xs∧zP xs i=some v∧Q v H
def QJ (K:PySem.W.Frag):R2:=fun x y H Q=>∃p xs i v,x= .ref p∧y= .int i∧iX K H p xs∧zP xs i=some v∧Q v H
def YC:R2:=fun x y H Q=>∃z i c,x= .str z∧y= .int i∧z.length≤sizeLine∧zP z.cps.toList i=some c∧Q (.str ⟨#[c]⟩) H
theorem cZ:QI X (YB X.K):=by
 intro value slice pins s σ H x y v u Q I rx ry h hs
 obtain⟨p,xs,i,z,rfl,rfl,hq,he,q⟩:=h
 cases rx
 obtain⟨t,rfl⟩:=ry
 obtain⟨its,r,pl,hz⟩:=I.list hq
 obtain⟨j,h1,h2,h3,h4,h5⟩:=vh he
 obtain⟨w,ew,EM⟩:=r.get h2
 have hl:=r.length
 have hn:=nS
 have fin:EP X pins σ Q w s:=⟨z,H,I,EM,q⟩
 by_cases h0:0≤i
 ·have hj:i.toNat=j:=by
   rw[seqIndex_of h0 h5] at h1
   exact Option.some.inj h1
  exact item_listR pl.isList h0 (by omega) (by rw[hj];simpa using ew) fin hs
 ·have hj:(i+(its.toArray.size:Int)).toNat=j:=by
   rw[seqIndex_neg (by omega) h4] at h1
   rw[List.size_toArray,←hl]
   exact Option.some.inj h1
  exact subscriptTail_builtinR (x:=w) pl.isList.typeIs slot_list_getitem.lookup
   (wpAny_getItem_list_neg (Q:=fun r s'=>r=w∧EP X pins σ Q r s') pl.isList (by omega) (by rw[List.size_toArray]<;>omega) (by omega) (by rw[hj];simpa using ew) ⟨rfl,fin⟩) hs
theorem gW:QI X (QJ X.K):=by
 intro value slice pins s σ H x y v u Q I rx ry h hs
 obtain⟨p,xs,i,z,rfl,rfl,hq,he,q⟩:=h
 cases rx
 obtain⟨t,rfl⟩:=ry
 obtain⟨its,r,pl,hz⟩:=I.tuple hq
 obtain⟨j,h1,h2,h3,h4,h5⟩:=vh he
 obtain⟨w,ew,EM⟩:=r.get h2
 have hl:=r.length
 have hn:=nS
 have fin:EP X pins σ Q w s:=⟨z,H,I,EM,q⟩
 exact subscriptTail_builtinR (x:=w) pl.typeIs slot_tuple_getitem.lookup
  (getItem_tuple (j:=j) (Q:=fun r s'=>r=w∧EP X pins σ Q r s') pl (by omega) (by omega) (by rw[List.size_toArray,←hl];exact h1) (by simpa using ew) ⟨rfl,fin⟩) hs
theorem vi:QI X YC:=by
 intro value slice pins s σ H x y v u Q I rx ry h hs
 obtain⟨z,i,c,rfl,rfl,hz,he,q⟩:=h
 obtain⟨t,rfl⟩:=rx
 obtain⟨t',rfl⟩:=ry
 obtain⟨j,h1,h2,h3,h4,h5⟩:=vh he
 have hl:z.cps.toList.length=z.length:=by simp [Str.length]
 rw[hl] at h1 h4 h5
 have hn:=nS
 exact tail_any (typeIs_str s z t) slot_str_getitem.lookup (getItem_str (c:=c) (by
  have e1:decide (i< -(2^63 :Int))=false:=decide_eq_false (by omega)
  have e2:decide (i≥2^63)=false:=decide_eq_false (by omega)
  rw[e1,e2,Bool.or_false]) (by rw[h1];simpa using h2) ⟨.str ⟨#[c]⟩,H,I.tok _,⟨_,rfl⟩,q⟩) hs
theorem gD:gy X (.builtin "len") (fun xs H Q=>∃p ys,xs=[.ref p]∧(b5 X.K H p ys∨iX X.K H p ys)∧Q (.int ys.length) H):=by
 intro pins s σ H xs us Q I r h
 obtain⟨p,ys,rfl,hq,q⟩:=h
 obtain⟨u,rfl,rx⟩:=vals1 r
 cases rx
 have hn:=nS
 rcases hq with hq|hq
 ·obtain⟨its,r',pl,hz⟩:=I.list hq
  have hlen:=r'.length
  exact Calls.call_len_list pl.isList (by simp only [List.size_toArray]<;>omega) ⟨.int ys.length,H,I.tok _,⟨s.toks+1,by rw[List.size_toArray,hlen]⟩,q⟩
 ·obtain⟨its,r',pl,hz⟩:=I.tuple hq
  have hlen:=r'.length
  exact len_tuple pl (by simp only [List.size_toArray]<;>omega) ⟨.int ys.length,H,I.tok _,⟨s.toks+1,by rw[List.size_toArray,hlen]⟩,q⟩
theorem jt:gy X (.builtin "len") (fun xs H Q=>∃z,xs=[.str z]∧z.length≤sizeLine∧Q (.int z.length) H):=by
 intro pins s σ H xs us Q I r h
 obtain⟨z,rfl,hz,q⟩:=h
 obtain⟨u,rfl,t,rfl⟩:=vals1 r
 have hn:=nS
 exact len_str (by omega) ⟨.int z.length,H,I.tok _,⟨_,rfl⟩,q⟩
theorem fj:gy X (.type "list") (fun xs H Q=>∃p ys,xs=[.ref p]∧(b5 X.K H p ys∨iX X.K H p ys)∧∀l,H l=none→Q (.ref l) (upd H l (.lst ys))):=by
 intro pins s σ H xs us Q I r h
 obtain⟨p,ys,rfl,hq,q⟩:=h
 obtain⟨u,rfl,rx⟩:=vals1 r
 cases rx
 have fin:∀(its:List Value),Vals ys its→ys.length≤sizeLine→∀(h':Heap) (c':Nat),(∀b o',s.heap.get? b=some o'→h'.get? b=some o')→
   h'.get? s.heap.objs.size=some { cls:= .type "list",dict:=none,data:= .seq its.toArray c',slots:=#[] }→EP X pins σ Q (.ref s.heap.objs.size) { s with heap:=h' }:=fun its r' hz h' c' kp e=>
  ⟨.ref s.heap.objs.size,_,I.laid (t':=s.toks) kp (Nat.le_refl _) (show cq X.prog X.w _ h' _ (.lst ys) from ⟨hz,its,c',r',e⟩),rfl,q _ (I.aS.fresh (Nat.le_refl _))⟩
 rcases hq with hq|hq
 ·obtain⟨its,r',pl,hz⟩:=I.list hq
  have hlen:=r'.length
  obtain⟨o,ho,hc,n,hd⟩:=pl.isList
  exact call_list_seq p (.inl rfl) ho hc hd (fun h' c' kp e=>fin its r' hz h' c' kp e) (by simp only [List.size_toArray]<;>omega)
 ·obtain⟨its,r',pl,hz⟩:=I.tuple hq
  have hlen:=r'.length
  obtain⟨o,ho,hc,n,hd⟩:=pl
  exact call_list_seq p (.inr rfl) ho hc hd (fun h' c' kp e=>fin its r' hz h' c' kp e) (by simp only [List.size_toArray]<;>omega)
def tyV (K:PySem.W.Frag) (T:String) (x:V) (H:Hp):Prop:=match x with
 | .str _=>T="str"
 | .int _=>T="int"
 | .ref p=>(T="list" ∧∃xs,b5 K H p xs)∨(T="tuple" ∧∃o,K.lookup p=some o∧o.cls= .type "tuple" ∧o.dict=none)∨
   (T="dict" ∧((∃kvs,H p=some (.dK kvs))∨∃kvs,H p=some (.dT kvs)))∨(T="set" ∧∃S n,H p=some (.set S n))
 |_=>False
theorem MG {pins:List (Addr×Obj)} {σ:St} {H:Hp} {s:Shared} {T:String} {x:V} {v:Value} (I:Inv X pins σ H s) (r:RelV x v) (ty:tyV X.K T x H):
  s.TypeIs v T∧∀a,v= .ref a→∃ob,s.heap.get? a=some ob∧ob.dict=none:=by
 cases x with
 |str z=>
  obtain⟨t,rfl⟩:=r
  cases (show T="str" from ty)
  exact⟨typeIs_str s z t,fun _ e=>nomatch e⟩
 |int i=>
  obtain⟨t,rfl⟩:=r
  cases (show T="int" from ty)
  exact⟨typeIs_int s i t,fun _ e=>nomatch e⟩
 |ref p=>
  cases r
  rcases ty with ⟨rfl,xs,hq⟩ | ⟨rfl,o,hk,hc,hd⟩ | ⟨rfl,hk⟩ | ⟨rfl,S,n,hk⟩
  ·obtain⟨its,_,pl,_⟩:=I.list hq
   refine⟨pl.isList.typeIs,fun a e=>?_⟩
   cases e
   obtain⟨o,n,e,c,hd,_⟩:=pl
   exact⟨o,e,hd⟩
  ·refine⟨⟨o,I.jl p o hk,hc⟩,fun a e=>?_⟩
   cases e
   exact⟨o,I.jl _ o hk,hd⟩
  ·have z:∃o,s.heap.get? p=some o∧o.ExactDict:=by
    rcases hk with ⟨kvs,hk⟩ | ⟨kvs,hk⟩
    ·obtain⟨_,_,_,_,o,_,_,e,ex,_⟩:=I.aS p _ hk
     exact⟨o,e,ex⟩
    ·obtain⟨_,_,_,_,o,_,_,e,ex,_⟩:=I.aS p _ hk
     exact⟨o,e,ex⟩
   obtain⟨o,e,ex⟩:=z
   refine⟨⟨o,e,ex.1⟩,fun a e2=>?_⟩
   cases e2
   exact⟨o,e,ex.2.1⟩
  ·obtain⟨o,_,_,_,e,ex,_⟩:=I.aS p _ hk
   refine⟨⟨o,e,ex.1⟩,fun a e2=>?_⟩
   cases e2
   exact⟨o,e,ex.2.1⟩
 |_=>exact False.elim ty
def tBM (K:PySem.W.Frag) (T:String) (r:V→List V→Hp→VK→Prop) (to:TE) (t:TA):TE:=fun σ H Q=>to σ H fun x H1=>tyV K T x H1∧t σ H1 fun xs H2=>r x xs H2 Q
variable {o e:Expr} {es:List Expr} {to:TE} {t:TA} {name:Str} {apos gU:Pos} {T id:String} {r:V→List V→Hp→VK→Prop}
theorem i' (pa:PlainAttrs T) (slot:Slot T name id) (hty:typeOf (.builtin id)=pure (.type "method_descriptor")) (hm:MtR X id r) (ho:PE X o to) (ha:PA X (e::es) t)
  (QK:attributeBase o name X.env (eval o X.env)=eval o X.env:=by rfl)
  (YD:((backTo gU (starEach (e::es) X.env)).all (fun x=>!x.1)&&(backToKw gU (keywordEach [] X.env)).all (fun x=>x.1.isSome)
   &&decide ((e::es).length+([]:List Keyword).length+(if ([]:List Keyword).isEmpty then 0 else 1) <30))=true:=by rfl)
  (EV:(apos.endLine==gU.line)=true:=by rfl) (hs:starEach (e::es) X.env=(false,eval e X.env)::starEach es X.env:=by rfl) (MH:(backTo gU (starEach es X.env)).any (·.1)=false:=by rfl):
  PE X (.Call (.Attribute o name apos) (e::es) [] gU) (tBM X.K T r to t):=by
 intro pins s σ H Q I h
 refine wpAny_Call_method_late QK YD EV rfl (bZ (ho pins s σ H _ I h) fun v s1 ⟨x,H1,I1,r1,ty,q1⟩=>?_)
 obtain⟨h1,h2⟩:=MG I1 r1 ty
 refine⟨T,id,pa,slot,hty,h1,h2,?_⟩
 have hA:=ha gU pins s1 σ H1 _ I1 q1
 rw[hs] at hA ⊢
 refine Calls.callWith_builtin (by show (false||(backTo gU (starEach es X.env)).any (·.1))=false;rw[MH]<;>rfl) (Calls.evalArgs_plain ?_)
 exact bZ hA fun us s2 ⟨vs,H2,I2,r2,q2⟩=>hm pins s2 σ H2 x vs v us Q I2 r1 r2 q2
end
end L2
namespace L2
open PySem PySem.Spec PyProof.Rows
def MtM (X:Cx) (id:String) (r:V→List V→Hp→VK→Prop):Prop:=
 ∀(pins:List (Addr×Obj)) (s:Shared) (σ:St) (H:Hp) (x:V) (xs:List V) (v:Value) (us:List Value) (Q:VK),Inv X pins σ H s→RelV x v→Vals xs us→r x xs H Q→
  wpAny (model X.prog X.w) X.A (call (.builtin id) (v::us)) (EP X pins σ Q) X.xe s
theorem Vals.one:∀{x:V} {us:List Value},Vals [x] us→∃u,us=[u]∧RelV x u
 |_,_, .cons r .nil=>⟨_,rfl,r⟩
section
variable {X:Cx} {pins:List (Addr×Obj)} {σ:St} {H:Hp} {s:Shared} {l b:Addr} {xs ys zs:List V}
theorem Inv.QL {its its':List Value} {n:Nat} {f:Array Value→Array Value} {t':Nat} (I:Inv X pins σ H s) (hH:H l=some (.lst xs))
  (e:s.heap.get? l=some { cls:= .type "list",data:= .seq its.toArray n }) (hf:f its.toArray=its'.toArray) (hv:Vals ys its') (hz:ys.length≤sizeLine):
  Inv X pins σ (upd H l (.lst ys)) { s with heap:=s.heap.update l (Obj.mapSeq f),toks:=t' }:=by
 have q:=PySem.IsL.update e f
 rw[hf] at q
 refine I.write (x:=l) (e:=l) (by rw[hH];exact trivial) (.inl rfl) (fun b' u hb hu=>(Heap.get?_update_other s.heap (Obj.mapSeq f) (Ne.symm hb)).trans hu) ⟨_,q⟩ ?_
 exact⟨hz,its',_,hv,q⟩
theorem Inv.QM {its:List Value} {t':Nat} (I:Inv X pins σ H s) (hv:Vals ys its) (hz:ys.length≤sizeLine):
  Inv X pins σ (upd H s.heap.objs.size (.lst ys)) { s with heap:=s.heap.push { cls:= .type "list",data:= .seq its.toArray },toks:=t' }:=
 I.laid (fun _ _ q=>Heap.get?_push_of_some _ q) (Nat.le_refl _) ⟨hz,its,0,hv,Heap.get?_push_size _ rfl⟩
theorem Inv.fresh (I:Inv X pins σ H s):H s.heap.objs.size=none:=I.aS.fresh (Nat.le_refl _)
theorem Inv.CV (I:Inv X pins σ H s) (hH:H l=some (.lst xs)):xs.length≤sizeLine∧∃(its:List Value) (n:Nat),Vals xs its∧xs.length=its.length∧s.heap.get? l=some { cls:= .type "list",data:= .seq its.toArray n }:=by
 obtain⟨z,its,n,r,e⟩:=I.aS l _ hH
 exact⟨z,its,n,r,r.length,e⟩
theorem EW {n:Nat} (h:n≤sizeLine):Builtin.List.listTooLong n=false:=by
 unfold Builtin.List.listTooLong
 exact decide_eq_false (by omega)
end
section
variable {X:Cx}
def IP:V→List V→Hp→VK→Prop:=fun x vs H Q=>∃l xs y,x= .ref l∧vs=[y]∧H l=some (.lst xs)∧xs.length<sizeLine∧Q .cU (upd H l (.lst (xs++[y])))
theorem dX:MtM X "list.append" IP:=by
 intro pins s σ H x vs v us Q I rx rv h
 obtain⟨l,xs,y,rfl,rfl,hH,hz,q⟩:=h
 cases rx
 obtain⟨u,rfl,ru⟩:=rv.one
 obtain⟨z,its,n,r,hl,e⟩:=I.CV hH
 refine call_meets F.slot_list_append ⟨_,e,rfl⟩ F.entry_list_append (F.args_list_append_2 _ _) (PySem.list_append l its.toArray n u (by rw[List.size_toArray];omega)) ⟨e,?_⟩
 refine⟨.cU,_,I.QL (its':=its++[u]) hH e (by simp) (r.append (.cons ru .nil)) ?_,rfl,q⟩
 rw[List.length_append,List.length_singleton]
 omega
def IQ:V→List V→Hp→VK→Prop:=fun x vs H Q=>∃l b xs zs,x= .ref l∧vs=[.ref b]∧H l=some (.lst xs)∧H b=some (.lst zs)∧xs.length+zs.length≤sizeLine∧Q .cU (upd H l (.lst (xs++zs)))
theorem CW:MtM X "list.extend" IQ:=by
 intro pins s σ H x vs v us Q I rx rv h
 obtain⟨l,b,xs,zs,rfl,rfl,hH,hB,hz,q⟩:=h
 cases rx
 obtain⟨u,rfl,ru⟩:=rv.one
 cases ru
 obtain⟨z,its,n,r,hl,e⟩:=I.CV hH
 obtain⟨z2,xO,n2,r2,sC,e2⟩:=I.CV hB
 have hsz:its.toArray.size+xO.toArray.size≤sizeLine:=by rw[List.size_toArray,List.size_toArray];omega
 have QN:¬(!its.toArray.isEmpty&&Builtin.List.listTooLong (its.toArray.size+xO.toArray.size))=true:=by
  rw[EW hsz,Bool.and_false]
  exact Bool.false_ne_true
 refine call_meets F.slot_list_extend ⟨_,e,rfl⟩ F.entry_list_extend (F.args_list_extend_2 _ _)
  (AutoSeq1.list_extend_list_list_0 l its.toArray n b xO.toArray n2 QN (by rw[List.size_toArray];omega) (by omega)) ⟨e,e2,?_⟩
 refine⟨.cU,_,I.QL (its':=its++xO) hH e (by simp) (r.append r2) ?_,rfl,q⟩
 rw[List.length_append]
 omega
def YE:R2:=fun x y H Q=>∃l b xs zs,x= .ref l∧y= .ref b∧H l=some (.lst xs)∧H b=some (.lst zs)∧xs.length+zs.length≤sizeLine∧∀p,H p=none→Q (.ref p) (upd H p (.lst (xs++zs)))
theorem nY:nR X (binaryOp .Add) YE:=by
 intro pins s σ H x y v u Q I rx ry h
 obtain⟨l,b,xs,zs,rfl,rfl,hH,hB,hz,q⟩:=h
 cases rx
 cases ry
 obtain⟨z,its,n,r,hl,e⟩:=I.CV hH
 obtain⟨z2,xO,n2,r2,sC,e2⟩:=I.CV hB
 refine PySem.P.add_list e e2 ?_ (by rw[List.size_toArray,List.size_toArray];omega)
 have ea:its.toArray++xO.toArray=(its++xO).toArray:=by simp
 rw[ea]
 exact⟨.ref _,_,I.QM (t':=s.toks) (r.append r2) (by rw[List.length_append];omega),rfl,q _ I.fresh⟩
end
section
variable {prog:Program} {w:World} {A:Around} {E:Value→Shared→Prop} {s:Shared}
end
section
variable {X:Cx}
end
end L2
namespace Att
open PySem PySem.W PySem.Calls PyProof.Rows
theorem pw {P:Params} {h:Heap}:∀(ns:List Int) (vs:List Value),WellAll P h vs (ns.map WData.int)→IntsAre vs ns:=by
 intro ns
 induction ns with
 |nil=>
  intro vs w
  rw[List.map_nil] at w
  cases w
  exact .nil
 |cons n ns ih=>
  intro vs w
  rw[List.map_cons] at w
  cases w with
  |cons a b=>
   cases a
   exact .cons _ _ (ih _ b)
theorem CY {l:OpenLaw} {n:Nat} (hn:l.most=some n) {P:Params} {h:Heap} {args:List WData} {vals:List Value}
  (IS:l.row.toRowW.claim.pre args=true) (IT:WellAll P h vals args):
  ∃a vs ns,vals=[Value.ref a]∧args=[WData.list (ns.map WData.int)]∧h.get? a=some { cls:= .type "list",data:= .seq vs.toArray }∧IntsAre vs ns∧ns.length≤n:=by
 have Ie:WShape.hasAll [] args [.list .int]=true:=(pre_splitW IS).1
 have hc:l.pre.holds [] { args:=args }=true:=(pre_splitW IS).2
 obtain⟨d,r,rfl,h1,h2⟩:=hasAllW_cons Ie
 obtain rfl:=hasAllW_nil h2
 obtain⟨xs,rfl,h3⟩:=hasW_list h1
 obtain⟨ns,rfl⟩:=items_int h3
 have hlen:ns.length≤n:=by
  unfold OpenLaw.pre at hc
  have h4:(WTm.not (.lt (.lit (.int (n:Int))) (.len (.arg 0)))).holds [] { args:=[.list (ns.map .int)] }=true:=by
   have h4:=(holds_andW hc).1
   rw[hn] at h4
   exact h4
  have h5:=condW_of h4 (w_not (w_lt w_lit (w_len_list (w_arg rfl))))
  rw[List.length_map] at h5
  refine Nat.le_of_not_lt fun q=>?_
  have q':(n:Int) < ((ns.length:Nat):Int):=by omega
  first
   | (rw[decide_eq_true q'] at h5;exact absurd h5 (by decide))
   | (simp at h5;omega)
 cases IT with
 |cons w1 w2=>
  cases w2
  cases w1 with
  |list ho xN=>exact⟨_,_,ns,rfl,rfl,ho,pw ns _ xN,hlen⟩
theorem CZ (l:OpenLaw) (args:List WData):l.row.toRowW.claim.post args (.bool true) args=true:=
 postW_of (r:=l.row.toRowW) (X:=(true==true))
  (show WShape.has [] (.bool true) .bool=true by first|rfl|decide|simp [WShape.has,WShape.arms,WShape.armsAll])
  (show (WTm.eq .res (.lit (.bool true))).value [] { args:=args,res:=some (.bool true),after:=args }=some (.bool (true==true)) from w_eq_bool (w_res rfl) w_lit) rfl
theorem xP {l:OpenLaw} {n:Nat} {q:Program} {loose:List Str} {XP:(Str→Option Value)→Heap→Prop} {YP:World→Heap→Prop} {d:DefRec}
  (hn:l.most=some n) (QO:d.params.defaults=[])
  (call:∀(w:World) (s₀ s₁:Shared) (mg mb:Str→Option Value) (fa:Addr) (o:Obj) (pm cd doc:Value) (a:Addr) (vs:List Value) (ns:List Int),
   Ground q loose [] XP w s₀ mg mb s₁.heap→YP w s₁.heap→
   s₁.heap.get? fa=some o→o.data= .func (docDef d.name d.params d.body d.scope pm cd doc)→s₁.heap.CodeRec cd d.name→mg d.name=some (.ref fa)→
   s₁.heap.get? a=some { cls:= .type "list",data:= .seq vs.toArray }→IntsAre vs ns→ns.length≤n→s₁.gens=#[]→
   codeAny (model l.prog w) callerA (.call (.ref fa) ⟨[.ref a],[]⟩) (fun r s'=>r= .ok (.ret (.bool true))∧OldK s₁.heap s'.heap∧s'.os=s₁.os∧AllBare s'.gens) s₁):
  WalkO q loose XP YP l.row.toRowW d [] (fun f vs=>PySem.call f vs):=by
 intro w s₀ s₁ mg mb G Y fa o pm cd doc dV kV ho hd pq hD QP hg args vals as IS hlay hrd IT Pz
 obtain rfl:dV= .none:=Dflts.none hD QO
 obtain rfl:kV= .none:=Dflts.noKw hD
 obtain⟨a,vs,ns,rfl,rfl,MI,hints,hlen⟩:=CY hn IS IT
 refine enter_call (codeAny_mono (call w s₀ s₁ mg mb fa o pm cd doc a vs ns G Y ho (fd_plain hd) pq QP MI hints hlen hg) fun r s' hq=>?_)
 obtain⟨rfl,h2,h3,h4⟩:=hq
 exact⟨.inl ⟨.bool true, .bool true,[],rfl,fun _=>rfl, .bool true,CZ l _,fun _=>⟨List.Pairwise.nil,fun _ hm=>(nomatch hm)⟩⟩,h2,h3,h4⟩
section
variable {prog:Program} {w:World} {A:Around} {E:Value→Shared→Prop} {s:Shared} {K:Frag}
def ledger (h:Heap) (L d:Addr):List (Addr×Obj):=(List.range h.objs.size).filterMap fun a=>if a=L∨a=d then none else (h.get? a).map fun o=>(a,o)
end
end Att
namespace L2
open PySem PySem.Spec PyProof.Rows
theorem sW:∀{vs:List Value} {ns:List Int},IntsAre vs ns→Vals (ns.map V.int) vs
 |_,_, .nil=> .nil
 |_,_, .cons n t h=> .cons ⟨t,rfl⟩ (sW h)
def MJ (H:Hp):Prop:=∀b,H b=none∨∃o xs,H b=some (.fH o (.lst xs))
theorem EX {P:Program} {w:World} {K:PySem.W.Frag} {mg mb:Str→Option Value} {CX:A5} {k:Nat} {fa a:Addr} {fd:FuncData} {x:Str} {sp:Sp} {s₁:Shared} {vs:List Value} {ns:List Int}
  (KX:K.In s₁.heap) (zp:s₁.heap.Ns mainGlobals mg) (hb:s₁.heap.Ns builtinsNs mb) (hbb:∀x:Str,x≠"__name__" →mb x=bootBuiltins x) (YF:s₁.heap.NoLimit) (hg:s₁.gens=#[])
  (ha:s₁.heap.get? a=some { cls:= .type "list",data:= .seq vs.toArray }) (hi:IntsAre vs ns) (hl:ns.length≤sizeLine) (hr:cV k callerA)
  (F:∀base:Heap,K.In base→base.Ns mainGlobals mg→fe P w K mg base CX k fa fd [x] sp) (QQ:∀(s:Shared) (u:Value),BindsTo s fd ⟨[u],[]⟩ [(x,u)])
  (A6:∀H:Hp,MJ H→b5 K H a (ns.map V.int)→sp [.ref a] H (fun v _=>v= .bl true) fun _ _ _=>False)
  (YG:∀H e s',CX [] H s₁ (fun _ _ _=>False) e s'→False):
  codeAny (model P w) callerA (.call (.ref fa) ⟨[.ref a],[]⟩) (fun r s'=>r= .ok (.ret (.bool true))∧OldK s₁.heap s'.heap∧s'.os=s₁.os∧AllBare s'.gens) s₁:=by
 have rv:=sW hi
 have YH:=hi.length
 have core:∀H:Hp,MJ H→b5 K H a (ns.map V.int)→jX P w H s₁.heap→(∀b,H b≠none→b=a)→(H a≠none→K.lookup a=none)→
   codeAny (model P w) callerA (.call (.ref fa) ⟨[.ref a],[]⟩) (fun r s'=>r= .ok (.ret (.bool true))∧OldK s₁.heap s'.heap∧s'.os=s₁.os∧AllBare s'.gens) s₁:=by
  intro H hO hS aS hA hK
  have base_of:∀{b:Addr} {o:Obj},s₁.heap.get? b=some o→H b=none→(uZ s₁.heap H).get? b=some o:=fun e n=>Ey e n
  have QA:∀{b:Addr} {o:Obj} {es:Array DictEntry} {ep:Nat},s₁.heap.get? b=some o→o.data= .dict es ep→H b=none:=fun {b o es ep} e d=>by
   cases q:H b with
   |none=>rfl
   |some u=>
    have e':b=a:=hA b (by rw[q];simp)
    subst e'
    rw[ha] at e;cases e
    have d':Data.seq vs.toArray _=Data.dict es ep:=d
    cases d'
  have Xj:∀{b:Addr} {m:Str→Option Value},s₁.heap.Ns b m→(uZ s₁.heap H).Ns b m:=fun {b m} ⟨o,es,ep,e,d,r⟩=>⟨o,es,ep,base_of e (QA e d),d,r⟩
  have hKb:K.In (uZ s₁.heap H):=fun b o e=>base_of (KX b o e) (by
   cases q:H b with
   |none=>rfl
   |some u=>
    have e':b=a:=hA b (by rw[q];simp)
    subst e'
    rw[hK (by rw[q];simp)] at e;cases e)
  have hM:Mod K mg (uZ s₁.heap H):=⟨hKb,Xj zp,⟨mb,Xj hb,hbb⟩,let ⟨mc,h1,h2⟩:=YF;⟨mc,Xj h1,h2⟩⟩
  have e0:zL P w K mg (uZ s₁.heap H) callerA [] s₁ H:=⟨rfl,hM,fun b o e=>Ir e,Nat.le_of_eq (CK _ _),trivial,fun b hb=>absurd (show b∈([]:List Addr) from hb) (by simp),aS, .of_eq hg⟩
  refine codeAny_mono ((F _ hKb (Xj zp)).run callerA [] s₁ H ⟨[.ref a],[]⟩ [.ref a] [.ref a] _ _ hr e0 (QQ s₁ (.ref a)) (.cons rfl .nil) (A6 H hO hS)) fun r s' h=>?_
  cases r with
  |error e=>exact(YG H e s' h).elim
  |ok fl=>
   cases fl with
   |next=>exact False.elim h
   |brk=>exact False.elim h
   |cont=>exact False.elim h
   |ret u=>
    obtain⟨v,H',os,bare,un,YI,r',q⟩:=h
    have q':v= .bl true:=q
    subst q'
    obtain rfl:u=Value.bool true:=r'
    refine⟨rfl,OldK.of_keep fun b o e=>?_,os,bare⟩
    cases q:H b with
    |none=>exact un.keep b o e q (by intro z;exact absurd (show b∈([]:List Addr) from z) (by simp)) (by simp)
    |some u=>
     rcases hO b with z| ⟨ob,xs,z⟩
     ·rw[q] at z;cases z
     ·have z2:=un.nO b ob _ z
      obtain⟨e1,_⟩:=aS b _ z
      obtain⟨e2,_⟩:=YI b _ z2
      rw[e] at e1;cases e1
      exact e2
 cases hk:K.lookup a with
 |some o=>
  have e:=KX a o hk
  rw[ha] at e
  cases e
  refine core (fun _=>none) (fun _=> .inl rfl) (.inr ⟨_,vs.toArray,_,hk,rfl,rfl,rfl,by rw[List.size_toArray,YH];exact hl,by simpa using rv⟩) (fun b u z=>by have z':(none:Option HO)=some u:=z;cases z') (fun b z=>absurd rfl z) fun z=>absurd rfl z
 |none=>
  refine core (fun b=>if b=a then some (.fH { cls:= .type "list",data:= .seq vs.toArray } (.lst (ns.map V.int))) else none) (fun b=>?_) (.inl (.inr ⟨{ cls:= .type "list",data:= .seq vs.toArray },if_pos rfl⟩)) (fun b u z=>?_) (fun b z=>?_) fun _=>hk
  ·by_cases hb:b=a
   ·exact .inr ⟨_,_,if_pos hb⟩
   ·exact .inl (if_neg hb)
  ·by_cases hb:b=a
   ·have z':=(if_pos hb).symm.trans z
    cases z'
    subst hb
    exact⟨ha,by rw[List.length_map];exact hl,vs,_,rv,ha⟩
   ·have z':=(if_neg hb).symm.trans z
    cases z'
  ·by_cases hb:b=a
   ·exact hb
   ·exact absurd (if_neg hb) z
end L2
namespace L2
open PySem PySem.Spec PyProof.Rows
theorem IU {l:PySem.W.OpenLaw} {n k:Nat} {q:Program} {loose:List Str} {XP:(Str→Option Value)→Heap→Prop} {YP:World→Heap→Prop} {d:DefRec} {K:Params→PySem.W.Frag} {CX:World→A5} {sp:World→Sp} {x:Str}
  (hn:l.most=some n) (K7:n≤sizeLine) (QO:d.params.defaults=[]) (hr:cV k callerA)
  (hY:∀(w:World) (h:Heap),YP w h→(K w.params).In h)
  (F:∀(w:World) (mg:Str→Option Value) (fa:Addr) (h:Heap),(K w.params).In h→h.Ns mainGlobals mg→mg d.name=some (.ref fa)→
   ∃fd:FuncData,(∀(s:Shared) (u:Value),BindsTo s fd ⟨[u],[]⟩ [(x,u)])∧
    ∀base:Heap,(K w.params).In base→base.Ns mainGlobals mg→fe l.prog w (K w.params) mg base (CX w) k fa fd [x] (sp w))
  (A6:∀(w:World) (H:Hp) (a:Addr) (ns:List Int),ns.length≤n→MJ H→b5 (K w.params) H a (ns.map V.int)→sp w [.ref a] H (fun v _=>v= .bl true) fun _ _ _=>False)
  (YG:∀(w:World) (H:Hp) (s:Shared) (e:Value) (s':Shared),CX w [] H s (fun _ _ _=>False) e s'→False):
  PySem.W.WalkO q loose XP YP l.row.toRowW d [] (fun f vs=>PySem.call f vs):=by
 refine Att.xP hn QO fun w s₀ s₁ mg mb fa o pm cd doc a vs ns G Y ho hd pq QP MI hints hlen hg=>?_
 have KX:=hY w _ Y
 obtain⟨fd,hb,hF⟩:=F w mg fa _ KX G.T.g QP
 exact EX KX G.T.g G.T.b G.T.builtins G.T.nolimit hg MI hints (Nat.le_trans hlen K7) hr hF hb (fun H hO hS=>A6 w H a ns hlen hO hS) fun H e s'=>YG w H s₁ e s'
end L2
namespace L2
open PySem PySem.Spec PyProof.Rows
def inClass (s:Stmt) (j:Nat):Stmt:=match s with
 | .ClassDef _ _ _ body _ _ _ _ _ _ _=>body.getD j (.Pass ⟨0,0,0,0⟩)
 |_=> .Pass ⟨0,0,0,0⟩
def bF (s:Stmt):Arguments:=match s with
 | .FunctionDef _ a _ _ _ _ _ _ _ _=>a
 |_=>{ posonlyargs:=[],args:=[],vararg:=none,kwonlyargs:=[],kw_defaults:=[],kwarg:=none,defaults:=[] }
def a5 (s:Stmt):List Stmt:=match s with
 | .FunctionDef _ _ b _ _ _ _ _ _ _=>b
 |_=>[]
def aj (s:Stmt):Scope:=match s with
 | .FunctionDef _ _ _ _ _ _ sc _ _ _=>sc
 |_=>{ kind:= .function,names:=[],isGenerator:=false,isCoroutine:=false }
abbrev qB:A5:=fun _ _ _ _ _ _=>False
abbrev E0:XK:=fun _ _ _=>False
theorem ay {X:Cx}:Passes qB X E0:=fun _ _ _ _ _ _ _ h=>h.elim
structure Ej (K:PySem.W.Frag) (x qual:Str) (st:Stmt) (f:Addr) (fd:FuncData):Prop where
 ex:∃(oc:Value) (od:Option Addr) (kV doc pm:Value) (an:Option Addr) (bA ct:Value) (sv:Array (Option Value)),
  fd=PySem.W.fnOf x qual (bF st) (a5 st) (aj st) .none kV doc pm an bA ct∧K.lookup f=some ⟨oc,od, .func fd,sv⟩∧PySem.W.codeIn K bA qual=true
 kp:PySem.W.keepIn K (.ref f)=true
section
variable {P:Program} {w:World} {K:PySem.W.Frag} {mg:Str→Option Value} {base:Heap}
theorem Ej.ok {x qual:Str} {st:Stmt} {f:Addr} {fd:FuncData} {N ps:List Str} {k:Nat} {sp:Sp} (F:Ej K x qual st f fd) (S:ax N ps (aj st)) (len:∀vs H Q E,sp vs H Q E→vs.length=ps.length)
  (dv:∀(bA:Value) (A:Around) (outer:List Env) (s:Shared) (H:Hp) (vs:List V) (Q:VK) (E:XK),cV k (A.deeper (envOfC qual (aj st) s.heap.objs.size f bA))→sp vs H Q E→
   ∃t,lM (js qB P w K mg base N qual (aj st) f bA A outer s H E).ED (a5 st) t∧t { nx:=fun _ H'=>Q .cU H',rt:=Q } (start N vs) H):fe P w K mg base qB (k+1) f fd ps sp:=by
 obtain⟨oc,od,kV,doc,pm,an,bA,ct,sv,rfl,lk,pq⟩:=F.ex
 refine fn_of lk pq S len fun A outer s H vs Q E hr A6=>?_
 obtain⟨t,h,q⟩:=dv bA A outer s H vs Q E hr A6
 exact⟨t,h.ED,q⟩
theorem Ej.binds {x qual:Str} {st:Stmt} {f:Addr} {fd:FuncData} {ps:List Str} (F:Ej K x qual st f fd)
  (h:∀(kV doc pm:Value) (an:Option Addr) (bA ct:Value) (us:List Value),us.length=ps.length→bindArgs (PySem.W.fnOf x qual (bF st) (a5 st) (aj st) .none kV doc pm an bA ct) ⟨us,[]⟩=pure (ps.zip us)):Binds K fd ps []:=by
 obtain⟨oc,od,kV,doc,pm,an,bA,ct,sv,rfl,lk,pq⟩:=F.ex
 exact .all (h kV doc pm an bA ct)
theorem MK {x qual:Str} {st:Stmt} {f:Addr} {oc:Value} {od an:Option Addr} {sv:Array (Option Value)} {kV doc pm bA ct:Value} (l:K.lookup f=some ⟨oc,od, .func (PySem.W.fnOf x qual (bF st) (a5 st) (aj st) .none kV doc pm an bA ct),sv⟩)
  (c:PySem.W.codeIn K bA qual=true) (k:PySem.W.keepIn K (.ref f)=true):Ej K x qual st f (PySem.W.fnOf x qual (bF st) (a5 st) (aj st) .none kV doc pm an bA ct):=⟨⟨oc,od,kV,doc,pm,an,bA,ct,sv,rfl,l,c⟩,k⟩
end
theorem dz {A:Around} {k:Nat} (hr:cV k A):A.units+1<cLine:=Nat.lt_of_le_of_lt (Nat.add_le_add_left (by decide:1≤64) _) hr.units
theorem kH {n:Nat} (h:n≤1000):n<sizeLine:=Nat.lt_of_le_of_lt h (by decide)
section
variable {X:Cx}
theorem pv (i:Nat) {x:Str} {pos:Pos} (hN:X.N[i]? =some x:=by rfl) (hv:Yc X.env.scope x:=by first|exact Or.inl rfl|exact Or.inr (Or.inl rfl) |exact Or.inr (Or.inr rfl)) (hd:(x==("__debug__" :Str))=false:=by decide)
  (pq:(x==("__classdict__" :Str))=false:=by decide):PE X (.Name x pos) (jY i):=Mr hN hv hd pq
end
theorem cH {A B:Prop} (h:B):if false=true then A else B:=by
 rw[if_neg Bool.false_ne_true]
 exact h
theorem ik {A B:Prop} (h:A):if true=true then A else B:=by
 rw[if_pos rfl]
 exact h
theorem fG {c A B:Prop} [Decidable c] (h1:c→A) (h2:¬c→B):if c then A else B:=by
 by_cases h:c
 ·rw[if_pos h]
  exact h1 h
 ·rw[if_neg h]
  exact h2 h
theorem A7 {c A B:Prop} [Decidable c] (hc:c) (h:B):if (!decide c)=true then A else B:=by
 rw[decide_eq_true hc]
 exact cH h
def au (H H':Hp):Prop:=∀b o,H b=some o→H' b=some o
theorem au.refl (H:Hp):au H H:=fun _ _ h=>h
theorem au.trans {H H1 H2:Hp} (a:au H H1) (b:au H1 H2):au H H2:=fun c o h=>b c o (a c o h)
theorem au.seq {K:PySem.W.Frag} {H H':Hp} {a:Addr} {xs:List V} (e:au H H') (h:b5 K H a xs):b5 K H' a xs:=by
 rcases h with (h| ⟨o,h⟩) |h
 ·exact .inl (.inl (e _ _ h))
 ·exact .inl (.inr ⟨o,e _ _ h⟩)
 ·exact .inr h
section
variable {κ:Type} [DecidableEq κ]
theorem mn {kvs:List (κ×V)} {k:κ} (h:b7 kvs k=none):¬k∈kvs.map (·.1):=by
 intro m
 obtain⟨p,hp,e⟩:=List.mem_map.mp m
 have q:(kvs.any fun kv=>decide (kv.1=k))=true:=List.any_eq_true.mpr ⟨p,hp,decide_eq_true e⟩
 rw[fg,h] at q
 exact absurd q (by simp)
theorem pI {kvs:List (κ×V)} {k:κ} {v:V} (h:b7 kvs k=some v):k∈kvs.map (·.1):=by
 have q:(kvs.any fun kv=>decide (kv.1=k))=true:=by
  rw[fg,h]
  all_goals rfl
 obtain⟨p,hp,e⟩:=List.any_eq_true.mp q
 exact List.mem_map.mpr ⟨p,hp,of_decide_eq_true e⟩
theorem A8:∀{l:List κ} {k:κ},l.Nodup→¬k∈l→(l++[k]).Nodup
 | [],k,_,_=>by simp
 |a::r,k,h,hk=>by
  obtain⟨h1,h2⟩:=List.nodup_cons.mp h
  show (a::(r++[k])).Nodup
  refine List.nodup_cons.mpr ⟨fun m=>?_,A8 h2 fun m=>hk (List.mem_cons.mpr (Or.inr m))⟩
  rcases List.mem_append.mp m with q|q
  ·exact h1 q
  ·exact hk (List.mem_cons.mpr (Or.inl (List.mem_singleton.mp q).symm))
theorem IV {kvs:List (κ×V)} {k:κ} (v:V) (hn:(kvs.map (·.1)).Nodup) (h:b7 kvs k=none):((putK kvs k v).map (·.1)).Nodup:=by
 rw[mi v h,List.map_append]
 exact A8 hn (mn h)
end
end L2
namespace L2
open PySem PySem.Spec PyProof.Rows
section
variable {X:Cx} {pins:List (Addr×Obj)} {σ:St} {H:Hp} {s:Shared} {a:Addr} {u u':HO}
theorem Inv.K' (I:Inv X pins σ H s) (e:H a=some u) (nw:cq X.prog X.w (upd H a u') s.heap a u')
  (h1:∀xs,X.H₀ a≠some (.tup xs)) (h2:∀o z,X.H₀ a≠some (.fH o z)) (h3:∀ps,X.H₀ a≠some (.KZ ps))
  (n1:∀x,u≠ .own x) (n2:∀xs,u≠ .tup xs):Inv X pins σ (upd H a u') s:=by
 have na:∀b,H b=none→(upd H a u') b=none:=fun b q=>by
  rw[ah (fun z=>by rw[z,e] at q;cases q)];exact q
 have B:=I.base
 refine⟨I.ok,I.os,I.bare,⟨B.keep,B.slot,fun b o q n x=>na b (B.free b o q n x),B.there,fun b xs q=>?_,fun b o z q=>?_,fun b ps q=>?_⟩,
  I.loc,I.cell,na _ I.free,fun x c q=>na _ (I.gw x c q),fun p hp=>?_,fun b o q=>?_,I.len⟩
 ·rw[ah (show b≠a from fun z=>h1 xs (by rw[←z];exact q))];exact B.nN b xs q
 ·rw[ah (show b≠a from fun z'=>h2 o z (by rw[←z'];exact q))];exact B.nO b o z q
 ·rw[ah (show b≠a from fun z'=>h3 ps (by rw[←z'];exact q))];exact B.nP b ps q
 ·obtain⟨p1,p2,p3⟩:=I.pin p hp
  exact⟨p1,na _ p2,p3⟩
 ·by_cases hb:b=a
  ·subst hb
   rw[af] at q
   cases q
   exact nw
  ·rw[ah hb] at q
   refine(I.aS b o q).qj (fun _ _ _ z=>z) (fun c z=>?_) fun c xs z=>?_
   ·rw[ah (fun z'=>by rw[z',e] at z;exact n1 b (Option.some.inj z))];exact z
   ·rw[ah (fun z'=>by rw[z',e] at z;exact n2 xs (Option.some.inj z))];exact z
def NF (X:Cx) (a:Addr):Prop:=∀o z,X.H₀ a≠some (.fH o z)
theorem Inv.nf {kvs:List (Key×V)} (I:Inv X pins σ H s) (e:H a=some (.dK kvs)):NF X a:=fun o z q=>by
 have:=I.base.nO a o z q
 rw[e] at this;cases this
theorem Inv.freeze {kvs:List (Key×V)} (I:Inv X pins σ H s) (e:H a=some (.dK kvs)):∃o,s.heap.get? a=some o∧Inv X pins σ (upd H a (.fH o (.dK kvs))) s:=by
 have ok:=I.aS a _ e
 obtain⟨z,hd,vs,rel,dd⟩:=qx I.aS e
 obtain⟨o,es,ep,ho,r⟩:=id dd
 refine⟨o,ho,I.K' e ⟨ho,z,hd,vs,rel,dd⟩ (fun xs q=>?_) (I.nf e) (fun ps q=>?_) (fun x q=>by cases q) fun xs q=>by cases q⟩
 ·have:=I.base.nN a xs q
  rw[e] at this;cases this
 ·obtain⟨m,q'⟩:=I.base.nP a ps q
  rw[e] at q';cases q'
theorem Inv.EY {kvs:List (Key×V)} {o:Obj} (I:Inv X pins σ H s) (e:H a=some (.fH o (.dK kvs))) (nf:NF X a):Inv X pins σ (upd H a (.dK kvs)) s:=by
 obtain⟨ho,z,hd,vs,rel,dd⟩:=(show cq X.prog X.w H s.heap a (.fH o (.dK kvs)) from I.aS a _ e)
 refine I.K' e (show cq X.prog X.w _ s.heap a (.dK kvs) from ⟨z,hd,vs,rel,dd⟩) (fun xs q=>?_) nf (fun ps q=>?_) (fun x q=>by cases q) fun xs q=>by cases q
 ·have:=I.base.nN a xs q
  rw[e] at this;cases this
 ·obtain⟨m,q'⟩:=I.base.nP a ps q
  rw[e] at q';cases q'
theorem eC {o:HO} (e:H a=some o):upd H a o=H:=by
 funext b
 by_cases hb:b=a
 ·subst hb;rw[af,e]
 ·rw[ah hb]
end
def La (a:Addr) (o:Obj) (kvs:List (Key×V)):It:=
 ⟨fun i H=>H a=some (.fH o (.dK kvs))∧i<kvs.length,fun i H x H'=>H'=H∧∃k v,kvs[i]? =some (k,v)∧x=kV k,fun i H=>H a=some (.fH o (.dK kvs))∧kvs.length≤i⟩
theorem KV.get {κ:Type}:∀{kvs:List (κ×V)} {vs:List (κ×Value)} {i:Nat} {k:κ} {v:V},KV kvs vs→kvs[i]? =some (k,v)→∃u,vs[i]? =some (k,u)∧RelV v u
 |_,_,_,_,_, .nil,h=>by simp at h
 |_,_,0,k,v, .cons (a:=p) (b:=q) r _,h=>by
  have hp:p=(k,v):=by simpa using h
  subst hp
  have e:k=q.1:=r.1
  exact⟨q.2,by rw[List.getElem?_cons_zero,e],r.2⟩
 |_,_,i+1,_,_, .cons _ t,h=>by
  simp only [List.getElem?_cons_succ] at h ⊢
  exact KV.get (kvs:=_) t h
theorem vj {P:Program} {w:World} {k:Key} {u:Value} (h:(bE P w).is k u=true):RelV (kV k) u:=by
 rw[qi] at h
 rcases cp h with ⟨i,t,rfl,rfl⟩ | ⟨x,t,rfl,rfl⟩
 ·exact⟨t,rfl⟩
 ·exact⟨t,rfl⟩
theorem vk {P:Program} {w:World} {H:Hp} {h:Heap} {a:Addr} {o:Obj} {kvs:List (Key×V)} {es:Array DictEntry} {ep:Nat} (ok:jX P w H h) (e:H a=some (.fH o (.dK kvs))) (hd:o.data= .dict es ep):
  ∃vs,KV kvs vs∧h.DictAt (bE P w) a vs ep∧(a==sysModules)=false:=by
 obtain⟨ho,z,hs,vs,rel,dd⟩:=(show cq P w H h a (.fH o (.dK kvs)) from ok a _ e)
 obtain⟨o',Xa,Xb,xt,ex,fK,r⟩:=dd
 rw[ho] at xt;cases xt
 rw[hd] at fK;cases fK
 exact⟨vs,rel,⟨o,es,ho,ex,hd,r⟩,hs⟩
theorem C0 {P:Program} {w:World} {K:PySem.W.Frag} {tg:Expr} (a it:Addr) (o:Obj) (kvs:List (Key×V)) {es:Array DictEntry} {ep:Nat} (hd:o.data= .dict es ep):
  Turn P w K tg (La a o kvs) [it] it (fun i h=>h.IsKeyIter it a i kvs.length ep) where
 mem:=by simp
 obj:=fun i h st b hb=>by
  have e:b=it:=by simpa using hb
  subst e
  obtain⟨o,e,c,d⟩:=st
  exact⟨o,e,fun v z=>by rw[d] at z;cases z⟩
 keep:=fun i h h' st k=>let ⟨o,ho,r⟩:=st;⟨o,k it (by simp) o ho,r⟩
 item:=by
  intro X hP hw hK hc i pins s σ H E I hf st hg
  subst hP hw hK
  obtain⟨hz,hi⟩:=hg
  obtain⟨vs,rel,dd,hs⟩:=vk I.aS hz hd
  obtain⟨k,v,C1⟩:∃k v,kvs[i]? =some (k,v):=⟨kvs[i].1,kvs[i].2,by simp [hi]⟩
  obtain⟨u,hu,ru⟩:=rel.get C1
  obtain⟨f0,f1,f2,f3,f4,f5⟩:=hf it (by simp)
  rw[rel.length] at st
  refine wpAny_pyNext_dict_item st dd hu fun key h' hk A0 sb=>?_
  rw[←rel.length] at A0
  have I1:Inv X pins σ H { s with heap:=h' }:=I.turned (t':=s.toks) (fun b o hb e=>(sb.2 b hb).trans e) f0 f1 f3 f4 f5
  obtain⟨oi,e,c,d⟩:=id A0
  exact⟨key,rfl,AY (s:={ s with heap:=h' }) e c d (by decide) ⟨kV k,H,I1,vj hk,⟨rfl,k,v,C1,rfl⟩,A0,fun b hb=>(hf b hb).1⟩⟩
 done:=by
  intro X hP hw hK hc i pins s σ H E I hf st hg
  subst hP hw hK
  obtain⟨hz,hi⟩:=hg
  obtain⟨vs,rel,dd,hs⟩:=vk I.aS hz hd
  obtain⟨f0,f1,f2,f3,f4,f5⟩:=hf it (by simp)
  rw[rel.length] at st hi
  exact wpAny_pyNext_dict_end (I.ok.hd hc) st dd (List.getElem?_eq_none hi) fun h' eb=>⟨rfl,I.turned (t':=s.toks) (fun b o hb e=>eb b o hb e) f0 f1 f3 f4 f5⟩
 self:=fun _ _ _ _ _ st h=>wpAny_pyIter_keyiter st h
section
variable {X:Cx} {tg:Expr}
def EZ (X:Cx) (td:TE):TI:=fun σ H R=>td σ H fun x H1=>∃a kvs,x= .ref a∧H1 a=some (.dK kvs)∧∀o,NF X a→R (La a o kvs) (upd H1 a (.fH o (.dK kvs)))
theorem cR {l:Expr} {tl:TE} (hl:PE X l tl):PI X tg l (EZ X tl):=by
 intro pins s σ H R I h
 refine bZ (hl pins s σ H _ I h) fun v s1 ⟨x,H1,I1,r1,q1⟩=>?_
 obtain⟨a,kvs,e,hk,q⟩:=q1
 subst e
 cases r1
 obtain⟨o,ho,I2⟩:=I1.freeze hk
 obtain⟨z,hs,vs,rel,dd⟩:=qx I1.aS hk
 obtain⟨ep,da⟩:=dd.dictAt
 obtain⟨o',es,xt,ex,hd,_⟩:=id da
 rw[ho] at xt;cases xt
 refine wpAny_pyIter_dict hs da ?_
 refine⟨s1.heap.objs.size,[s1.heap.objs.size],_,_,_,rfl,I2.kept (t':=s1.toks) fun b o e=>Heap.get?_push_of_some _ e,C0 a _ o kvs hd,?_,fun b hb=>?_,q o (I1.nf hk)⟩
 ·rw[rel.length]
  exact⟨_,Heap.get?_push_size _ rfl,rfl,rfl⟩
 ·have e:b=s1.heap.objs.size:=by simpa using hb
  subst e
  exact I2.zE (Nat.le_refl _) (I2.aS.fresh (Nat.le_refl _))
def Th (X:Cx) (Q:Hp→Prop) (H:Hp):Prop:=∃a o kvs,H a=some (.fH o (.dK kvs))∧NF X a∧Q (upd H a (.dK kvs))
def E1 (X:Cx) (t:TS):TS:=fun D σ H=>t { nx:=fun σ'=>Th X (D.nx σ'),rt:=fun v=>Th X (D.rt v),bk:=fun σ'=>Th X (D.bk σ'),ct:=fun σ'=>Th X (D.ct σ') } σ H
theorem dI {st:Stmt} {t:TS} (h:PS X st t):PS X st (E1 X t):=by
 intro pins s σ H D I q
 refine bZ (h pins s σ H _ I q) fun f s' z=>?_
 cases f with
 |next=>obtain⟨σ',H',J,a,o,kvs,e,nf,q⟩:=z;exact⟨σ',_,J.EY e nf,q⟩
 |brk=>obtain⟨σ',H',J,a,o,kvs,e,nf,q⟩:=z;exact⟨σ',_,J.EY e nf,q⟩
 |cont=>obtain⟨σ',H',J,a,o,kvs,e,nf,q⟩:=z;exact⟨σ',_,J.EY e nf,q⟩
 |ret u=>obtain⟨v,σ',H',J,r,a,o,kvs,e,nf,q⟩:=z;exact⟨v,σ',_,J.EY e nf,r,q⟩
theorem pJ {e:Expr} {t:TE} (h:PE X e t):PE X e (fun σ H Q=>t σ H fun v=>Th X (Q v)):=by
 intro pins s σ H Q I q
 refine bZ (h pins s σ H _ I q) fun u s' z=>?_
 obtain⟨v,H',J,r,a,o,kvs,e,nf,q⟩:=z
 exact⟨v,_,J.EY e nf,r,q⟩
end
theorem dA {X:Cx} {a:Addr} {o:Obj} {kvs:List (Key×V)} {g:TG} {tb:TS} {D:Ends} {σ:St} {H:Hp} (nf:NF X a) (Pv:Nat→St→Hp→Prop) (h0:Pv 0 σ H) (hl:∀i σ H,Pv i σ H→H a=some (.dK kvs))
  (hs:∀i k v σ H,kvs[i]? =some (k,v)→Pv i σ H→g (kV k) σ (upd H a (.fH o (.dK kvs))) fun σ2 H2=>tb { nx:=fun σ' H'=>H' a=some (.fH o (.dK kvs))∧Pv (i+1) σ' (upd H' a (.dK kvs)),ct:=fun σ' H'=>H' a=some (.fH o (.dK kvs))∧Pv (i+1) σ' (upd H' a (.dK kvs)),bk:=fun σ'=>Th X (D.nx σ'),rt:=fun v=>Th X (D.rt v) } σ2 H2)
  (hd:∀σ H,Pv kvs.length σ H→D.nx σ H):
  ∃W:Nat→Nat→St→Hp→Prop,(∃m,W 0 m σ (upd H a (.fH o (.dK kvs))))∧∀i m σ H,W i m σ H→((La a o kvs).stop i H∧Th X (D.nx σ) H)∨
   ((La a o kvs).go i H∧∃N:St→Hp→Prop,(∀σ' H',N σ' H'→∃m',m'<m∧W (i+1) m' σ' H')∧∀x H',(La a o kvs).pE i H x H'→g x σ H' fun σ2 H2=>tb { nx:=N,ct:=N,bk:=fun σ'=>Th X (D.nx σ'),rt:=fun v=>Th X (D.rt v) } σ2 H2):=by
 refine⟨fun i m σ H=>m+i=kvs.length∧H a=some (.fH o (.dK kvs))∧Pv i σ (upd H a (.dK kvs)),⟨kvs.length,by omega,af,?_⟩,?_⟩
 ·rw[kD,eC (hl _ _ _ h0)];exact h0
 ·rintro i m σ H ⟨hm,hz,hp⟩
  by_cases hi:i<kvs.length
  ·refine .inr ⟨⟨hz,hi⟩,fun σ' H'=>H' a=some (.fH o (.dK kvs))∧Pv (i+1) σ' (upd H' a (.dK kvs)),fun σ' H' q=>⟨m - 1,by omega,by omega,q⟩,?_⟩
   rintro x H' ⟨rfl,k,v,C1,rfl⟩
   have:=hs i k v σ _ C1 hp
   rw[kD,eC hz] at this
   exact this
  ·have e:i=kvs.length:=by omega
   subst e
   exact .inl ⟨⟨hz,Nat.le_refl _⟩,a,o,kvs,hz,nf,hd _ _ hp⟩
def IW:V→Option Value
 | .ty n=>some (.type n)
 | .ref a=>some (.ref a)
 |_=>none
theorem ir {X:Cx}:gy X (.builtin "isinstance") (fun xs H Q=>∃x c cv t b,xs=[x,c]∧IW c=some cv∧nW X.K H x t∧PySem.W.kitOne X.K t cv=some b∧Q (.bl b) H):=by
 intro pins s σ H xs us Q I r h
 obtain⟨x,c,cv,t,b,rfl,hc,ty,e,q⟩:=h
 obtain⟨u,v,rfl,ru,rv⟩:=vals2 r
 have hv:v=cv:=by
  cases c<;>simp only [IW,Option.some.injEq,reduceCtorEq] at hc
  ·cases (show v=Value.ref _ from rv);exact hc
  ·cases (show v=Value.type _ from rv);exact hc
 subst hv
 exact CO I ru ty e fun tk=>⟨.bl b,H,I.tok tk,rfl,q⟩
theorem lO {X:Cx}:gy X (.type "dict") (fun xs H Q=>∃a kvs,xs=[.ref a]∧Rd H a (.dK kvs)∧∀p,H p=none→Q (.ref p) (upd H p (.dK kvs))):=by
 intro pins s σ H xs us Q I r h
 obtain⟨a,kvs,rfl,hk,q⟩:=h
 obtain⟨u,rfl,ru⟩:=vals1 r
 cases ru
 exact EU I hk fun p s' hp I'=>⟨.ref p,_,I',rfl,q p hp⟩
theorem zQ {X:Cx}:gy X (.builtin "len") (fun xs H Q=>∃a kvs,xs=[.ref a]∧Rd H a (.dK kvs)∧Q (.int kvs.length) H):=by
 intro pins s σ H xs us Q I r h
 obtain⟨a,kvs,rfl,hk,q⟩:=h
 obtain⟨u,rfl,ru⟩:=vals1 r
 cases ru
 exact QD I hk fun t s' I'=>⟨.int kvs.length,H,I',⟨t,rfl⟩,q⟩
section
variable {X:Cx}
end
theorem ja:∀{kvs:List (Key×V)} {p:Key×V},(kvs.map (·.1)).Nodup→p∈kvs→b7 kvs p.1=some p.2
 |q::r,p,nd,hp=>by
  rw[List.map_cons,List.nodup_cons] at nd
  rcases List.mem_cons.mp hp with rfl|hr
  ·exact cO rfl
  ·rw[cP (fun e=>nd.1 (e▸List.mem_map_of_mem (f:=(·.1)) hr))]
   exact ja nd.2 hr
end L2
namespace L2
open PySem PySem.Spec PyProof.Rows
def sX (X:Cx) (pins:List (Addr×Obj)) (N:List Str) (scope:Scope) (cl:List (Str×Addr)) (fp:List Addr) (s:Shared) (H:Hp):Cx where
 prog:=X.prog
 w:=X.w
 K:=X.K
 mg:=X.mg
 base:=X.base
 A:=X.A
 N:=N
 s₀:=s
 H₀:=H
 env:=compEnvC scope cl s.heap.objs.size X.env
 outer:=X.stack
 stack:=X.stack
 ex:=fp
 fn:=fun _=>false
 calm:=X.calm
 pn:=X.pn++pins
 xe:=fun _ _=>False
structure QR (X:Cx) (N:List Str) (fr:List (Option Nat)) (scope:Scope) (cl:List (Str×Addr)):Prop where
 QS:closureFor scope X.env=pure cl
 kind:scope.kind= .function
 vm:∀y∈scope.names,y.2≠ .cell
 names:∀y∈scope.names,y.2= .local→scope.names.lookup y.1=some .local
 cells:∀x c,cl.lookup x=some c→X.env.cells.lookup x=some c
 has:∀x,((relabel scope X.env).names.lookup x=some .cell∨(relabel scope X.env).names.lookup x=some .free)→∃c,cl.lookup x=some c
 len:fr.length=N.length
 out:∀(i j:Nat) (x:Str),N[i]? =some x→fr[i]? =some (some j)→X.N[j]? =some x∧X.env.kindOf x=some .cell∧((relabel scope X.env).names.lookup x=some .cell∨(relabel scope X.env).names.lookup x=some .free)
end L2
namespace L2
open PySem PySem.Spec PyProof.Rows
def nZ (env:Env):List (Str×NameKind)→List (Str×Addr)→List (Str×Addr)
 | [],cs=>cs
 | (n,k)::r,cs=>nZ env r (if (k== .free)=true then (n,(env.cells.lookup n).getD 0)::cs else cs)
def xQ (scope:Scope) (env:Env):List (Str×Addr):=nZ env scope.names []
theorem A9 {env:Env}:∀{names:List (Str×NameKind)} (cs:List (Str×Addr)),(∀y∈names,y.2= .free→∃c,env.cells.lookup y.1=some c)→
  (forIn names cs fun (x:Str×NameKind) cs=>match x with
   | (name,kind)=>if (kind==NameKind.free)=true then do let c←cellOf env name;pure (ForInStep.yield ((name,c)::cs)) else pure (ForInStep.yield cs):Sem (List (Str×Addr)))=pure (nZ env names cs)
 | [],cs,_=>rfl
 | (n,k)::r,cs,h=>by
   rw[List.forIn_cons]
   dsimp only
   have ih:=fun cs=>A9 (env:=env) (names:=r) cs fun y hy=>h y (List.mem_cons_of_mem _ hy)
   by_cases hk:(k==NameKind.free)=true
   ·obtain⟨c,hc⟩:=h (n,k) (List.mem_cons_self ..) (by simpa using hk)
    rw[if_pos hk,show nZ env ((n,k)::r) cs=nZ env r ((n,c)::cs) by rw[nZ,if_pos hk,hc];rfl]
    have e:cellOf env n=pure c:=by unfold cellOf;rw[hc]
    rw[e]
    exact ih _
   ·rw[if_neg hk,show nZ env ((n,k)::r) cs=nZ env r cs by rw[nZ,if_neg hk]]
    exact ih _
theorem IX {scope:Scope} {env:Env} (h:∀y∈scope.names,y.2= .free→∃c,env.cells.lookup y.1=some c):closureFor scope env=pure (xQ scope env):=by
 have t:=A9 (env:=env) [] h
 have e:closureFor scope env=((forIn scope.names ([]:List (Str×Addr)) fun (x:Str×NameKind) cs=>match x with
   | (name,kind)=>if (kind==NameKind.free)=true then do let c←cellOf env name;pure (ForInStep.yield ((name,c)::cs)) else pure (ForInStep.yield cs)) >>= fun cs=>pure cs:Sem (List (Str×Addr))):=rfl
 rw[e,t]
 rfl
theorem qC {env:Env}:∀{names:List (Str×NameKind)} {cs:List (Str×Addr)},(∀y∈names,y.2= .free→∃c,env.cells.lookup y.1=some c)→(∀x c,cs.lookup x=some c→env.cells.lookup x=some c)→∀x c,(nZ env names cs).lookup x=some c→env.cells.lookup x=some c
 | [],_,_,hc,x,c,h=>hc x c h
 | (n,k)::r,cs,hn,hc,x,c,h=>by
   rw[nZ] at h
   refine qC (names:=r) (fun y hy=>hn y (List.mem_cons_of_mem _ hy)) (fun x c h=>?_) x c h
   by_cases hk:(k==NameKind.free)=true
   ·rw[if_pos hk] at h
    obtain⟨c',Ia⟩:=hn (n,k) (List.mem_cons_self ..) (by simpa using hk)
    rw[List.lookup_cons] at h
    cases e:x==n with
    |true=>
     rw[e] at h
     have ex:x=n:=by simpa using e
     subst ex
     rw[Ia] at h ⊢
     exact h
    |false=>
     rw[e] at h
     exact hc x c h
   ·rw[if_neg hk] at h
    exact hc x c h
theorem xR {env:Env}:∀{names:List (Str×NameKind)} {cs:List (Str×Addr)} {x:Str},((x,NameKind.free)∈names∨∃c,cs.lookup x=some c)→∃c,(nZ env names cs).lookup x=some c
 | [],_,_,h=>h.elim (fun z=>by cases z) fun z=>z
 | (n,k)::r,cs,x,h=>by
   rw[nZ]
   refine xR (names:=r) ?_
   by_cases hk:(k==NameKind.free)=true
   ·rw[if_pos hk,List.lookup_cons]
    cases e:x==n with
    |true=>exact .inr ⟨_,rfl⟩
    |false=>
     rcases h with h|h
     ·rcases List.mem_cons.mp h with z|z
      ·cases z
       simp at e
      ·exact .inl z
     ·exact .inr h
   ·rw[if_neg hk]
    rcases h with h|h
    ·rcases List.mem_cons.mp h with z|z
     ·cases z
      exact absurd rfl hk
     ·exact .inl z
    ·exact .inr h
theorem j5 {env:Env} (x:Str):∀names:List (Str×NameKind),
  (names.map fun (y:Str×NameKind)=>match y with
   | (n,k)=>if (k==NameKind.free&&env.scope.kind== .function&&env.kindOf n==some .cell)=true then (n,NameKind.cell) else (n,k)).lookup x
   =(names.lookup x).map fun k=>if (k==NameKind.free&&env.scope.kind== .function&&env.kindOf x==some .cell)=true then NameKind.cell else k
 | []=>rfl
 | (n,k)::r=>by
   have ih:=j5 (env:=env) x r
   rw[List.map_cons,List.lookup_cons]
   by_cases e:(x==n)=true
   ·have ex:x=n:=by simpa using e
    subst ex
    dsimp only
    by_cases hc:(k==NameKind.free&&env.scope.kind== .function&&env.kindOf x==some .cell)=true
    ·rw[if_pos hc,List.lookup_cons,beq_self_eq_true]
     dsimp only [Option.map]
     rw[if_pos hc]
    ·rw[if_neg hc,List.lookup_cons,beq_self_eq_true]
     dsimp only [Option.map]
     rw[if_neg hc]
   ·have e':(x==n)=false:=by simpa using e
    dsimp only
    by_cases hc:(k==NameKind.free&&env.scope.kind== .function&&env.kindOf n==some .cell)=true
    ·rw[if_pos hc,List.lookup_cons,e']
     exact ih
    ·rw[if_neg hc,List.lookup_cons,e']
     exact ih
structure IY (sc scope:Scope) (NX N:List Str) (fr:List (Option Nat)):Prop where
 QT:sc.kind= .function
 kind:scope.kind= .function
 vm:∀y∈scope.names,y.2≠ .cell
 names:∀y∈scope.names,y.2= .local→scope.names.lookup y.1=some .local
 free:∀y∈scope.names,y.2= .free→sc.names.lookup y.1=some .cell
 len:fr.length=N.length
 out:((List.range N.length).all fun i=>match fr[i]? with
  |some (some j)=>(match N[i]? with
   |some x=>(NX[j]? ==some x)&&(scope.names.lookup x==some .free)
   |none=>false)
  |_=>true)=true
theorem n4 {names:List (Str×NameKind)} {x:Str} {k:NameKind} (h:names.lookup x=some k):(x,k)∈names:=PySem.mem_of_lookup h
theorem IY.xS {X:Cx} {sc scope:Scope} {NX N:List Str} {fr:List (Option Nat)} (B:IY sc scope NX N fr) (e1:X.env.scope=sc) (e2:X.N=NX) (ok:X.Ok):QR X N fr scope (xQ scope X.env):=by
 subst e1 e2
 have fc:∀y∈scope.names,y.2= .free→∃c,X.env.cells.lookup y.1=some c:=fun y hy hf=>ok.has y.1 (.inl (B.free y hy hf))
 have lk:∀x,(relabel scope X.env).names.lookup x=(scope.names.lookup x).map fun k=>if (k==NameKind.free&&X.env.scope.kind== .function&&X.env.kindOf x==some .cell)=true then NameKind.cell else k:=fun x=>j5 x scope.names
 have ML:∀x,scope.names.lookup x=some .free→(relabel scope X.env).names.lookup x=some .cell:=fun x hx=>by
  have hk:X.env.kindOf x=some .cell:=B.free (x, .free) (n4 hx) rfl
  rw[lk,hx,Option.map_some,hk,B.QT]
  rfl
 refine⟨IX fc,B.kind,B.vm,B.names,fun x c h=>qC fc (fun x c h=>by cases h) x c h,fun x h=>xR (.inl ?_),B.len,fun i j x h1 h2=>?_⟩
 ·rw[lk] at h
  cases e:scope.names.lookup x with
  |none=>rw[e] at h;rcases h with h|h<;>cases h
  |some k=>
   rw[e,Option.map_some] at h
   have hm:=n4 e
   cases k with
   |free=>exact hm
   |cell=>exact absurd rfl (B.vm _ hm)
   |_=>rcases h with h|h<;>simp at h
 ·have hi:i<N.length:=(List.getElem?_eq_some_iff.mp h1).1
  have:=List.all_eq_true.mp B.out i (List.mem_range.mpr hi)
  rw[h2] at this
  dsimp only at this
  rw[h1] at this
  dsimp only at this
  rw[Bool.and_eq_true] at this
  have a1:X.N[j]? =some x:=by simpa using this.1
  have a2:scope.names.lookup x=some .free:=by simpa using this.2
  exact⟨a1,B.free (x, .free) (n4 a2) rfl, .inl (ML x a2)⟩
end L2
namespace L2
open PySem PySem.Spec PyProof.Rows
def startB (fr:List (Option Nat)) (σ:St):St:=fr.map fun o=>o.bind fun j=>(σ[j]?).join
theorem zR {fr:List (Option Nat)} {σ:St} {i:Nat} {v:V} (h:(startB fr σ)[i]? =some (some v)):∃j,fr[i]? =some (some j)∧σ[j]? =some (some v):=by
 unfold startB at h
 rw[List.getElem?_map] at h
 cases e:fr[i]? with
 |none=>rw[e] at h;cases h
 |some o=>
  rw[e] at h
  cases o with
  |none=>cases h
  |some j=>
   have h':(σ[j]?).join=some v:=Option.some.inj h
   cases q:σ[j]? with
   |none=>rw[q] at h';cases h'
   |some z=>rw[q] at h';exact⟨j,rfl,by rw[q];exact congrArg some h'⟩
section
variable {X:Cx} {pins:List (Addr×Obj)} {σ:St} {H:Hp} {s:Shared} {N:List Str} {fr:List (Option Nat)} {scope:Scope} {cl:List (Str×Addr)} {fp:List Addr}
theorem E2 (B:QR X N fr scope cl) (I:Inv X pins σ H s) (f:∀b∈fp,lA X pins H b∧b<s.heap.objs.size):(sX X pins N scope cl fp s H).Ok where
 mod:=I.mod
 kind:=B.kind
 glob:=I.ok.glob
 blt:=I.ok.blt
 above:=Nat.le_refl _
 inj:=fun x y c h1 h2=>I.ok.inj x y c (B.cells x c h1) (B.cells y c h2)
 has:=fun x h=>B.has x h
 Iv:=fun x c h=>by cases h
 hd:=I.ok.hd
 frames:=I.ok.frames
 K0:= .inl rfl
 Pt:=fun b hb=>⟨Nat.ne_of_lt (f b hb).2,fun x c h=>(f b hb).1.2.2.2.2.1 x c (B.cells x c h)⟩
 bs:=I.bs
 CL:=Nat.le_trans I.ok.CL I.sz
 u0:=fun b o e hb=>by
  rcases (f b hb).1.2.2.2.1 with h|h
  ·exact I.ok.u0 b o e h
  ·exact absurd (Nat.lt_of_lt_of_le (Heap.lt_size e) (Nat.le_trans I.ok.CL h)) (Nat.lt_irrefl _)
 u3:=fun b hb h=>by
  rcases List.mem_cons.mp (I.u4 b h) with z|z
  ·exact(f b hb).1.2.1 z
  ·exact(f b hb).1.2.2.1 z
 lz:=I.stack
 Ez:=I.u5
theorem C2 {h1:Heap} {t1:Nat} (B:QR X N fr scope cl) (I:Inv X pins σ H s) (f:∀b∈fp,lA X pins H b∧b<s.heap.objs.size) (zp:h1.Ns s.heap.objs.size fun _=>none)
  (MM:∀b o,s.heap.get? b=some o→h1.get? b=some o):Inv (sX X pins N scope cl fp s H) [] (startB fr σ) H { s with heap:=h1,toks:=t1 }:=by
 obtain⟨m,hm,hl⟩:=I.loc
 refine⟨E2 B I f,rfl,I.bare,Un.kept MM,⟨_,zp,fun i x v e1 e2 _=>?_⟩,fun x c h=>?_,I.aS.fresh (Nat.le_refl _),fun x c h=>I.gw x c (B.cells x c h),fun p hp=>?_,I.aS.kept MM,?_⟩
 ·obtain⟨j,ej,es⟩:=zR e2
  obtain⟨o1,o2,o3⟩:=B.out i j x e1 ej
  obtain⟨u,ru,L⟩:=hl j x v o1 es (.inr (.inl o2))
  refine⟨u,ru, .inr ⟨o3,?_⟩⟩
  obtain⟨c,hc⟩:=B.has x o3
  rcases L with ⟨k1,_⟩ | ⟨_,c',Ia,cc⟩
  ·rw[o2] at k1;cases k1
  ·rw[B.cells x c hc] at Ia
   cases Ia
   exact⟨c,hc,cc.keeps MM⟩
 ·obtain⟨v,hv⟩:=I.cell x c (B.cells x c h)
  exact⟨v,hv.keeps MM⟩
 ·have xT:p∈X.pn++pins:=by rw[List.append_nil] at hp;exact hp
  obtain⟨p1,p2,p3,p4,p5⟩:=I.pin p xT
  exact⟨MM _ _ p1,p2,Nat.ne_of_lt (Heap.lt_size p1),fun z=>(List.mem_cons.mp (I.u4 _ z)).elim p3 p4,p5⟩
 ·show (startB fr σ).length=N.length
  unfold startB
  rw[List.length_map,B.len]
end
def MN (X:Cx) (cs:List Expr) (t:TT):Prop:=
 ∀(pins:List (Addr×Obj)) (s:Shared) (σ:St) (H:Hp) (Q:Bool→Hp→Prop),Inv X pins σ H s→t σ H Q→
  wpAny (model X.prog X.w) X.A (forIn cs true fun c r=>if r=true then do let ok←isTrue c X.env (eval c X.env);pure (ForInStep.yield ok) else pure (ForInStep.yield r)) (TP X pins σ Q) X.xe s
def YJ:TT:=fun _ H Q=>Q true H
theorem fW {X:Cx}:MN X [] YJ:=fun pins s σ H Q I h=>by
 rw[List.forIn_nil]
 exact wpAny_pure ⟨H,I,h⟩
theorem mq {X:Cx} {c:Expr} {t:TT} (h:PT X c t):MN X [c] t:=fun pins s σ H Q I q=>by
 rw[List.forIn_cons,if_pos rfl]
 refine wpAny_bind (wpAny_bind (bZ (h pins s σ H Q I q) fun b s' z=>?_))
 refine wpAny_pure ?_
 dsimp only
 rw[List.forIn_nil]
 exact wpAny_pure z
section
variable {prog:Program} {w:World} {A:Around} {R:Result→Shared→Prop} {s:Shared}
theorem comp_loop {elt tg iter:Expr} {ifs:List Expr} {scope:Scope} {pos:Pos} {it acc:Value} {env:Env} (J:Nat→Shared→Prop)
  (turn:∀n s,J n s→wpAny (model prog w) A (pyNext it) (fun r s₁=>match r with
   |none=>R (.ok .next) s₁
   |some v=>wpAny (model prog w) A (letOwnedTupleGo tg it v) (fun _ sg=>wpAny (model prog w) A (assign tg env v) (fun _ s₂=>
     wpAny (model prog w) A (forIn ifs true fun c r=>if r=true then do let ok←isTrue c env (eval c env);pure (ForInStep.yield ok) else pure (ForInStep.yield r)) (fun ok s₃=>
      if ok=true then wpAny (model prog w) A (eval elt env) (fun x s₄=>wpAny (model prog w) A (call (.builtin "list.append") [acc,x]) (fun _ s₅=>∃m,m<n∧J m s₅) (fun _ _=>False) s₄) (fun _ _=>False) s₃
      else∃m,m<n∧J m s₃) (fun _ _=>False) s₂) (fun _ _=>False) sg) (fun _ _=>False) s₁) (fun _ _=>False) s)
  (n:Nat) (h:J n s):codeAny (model prog w) A (.compLoop (.ListComp elt [⟨tg,iter,ifs,0⟩] scope pos) 0 it acc env) R s:=by
 refine codeAny_loop rfl J (fun n s hJ=>?_) n h
 show wpAny _ A ((compTurn (.ListComp elt [⟨tg,iter,ifs,0⟩] scope pos) 0 it acc env).onRaise (fun x=>do noteFrame x env;theTreesLotGoes x)) _ _ s
 refine wpAny_noted ?_
 rw[compTurn_list]
 have no:∀{P:Value→Shared→Prop} (a:Value) (s:Shared),(fun (_:Value) (_:Shared)=>False) a s→P a s:=fun _ _ z=>False.elim z
 refine wpAny_bind (wpAny_standAt (wpAny_bind (wpAny_mono (turn n s hJ) (fun r s₁ h₁=>?_) no)))
 cases r with
 |none=>exact wpAny_pure h₁
 |some v=>
  refine wpAny_bind (wpAny_mono h₁ (fun _ sg hg=>?_) no)
  refine wpAny_bind (wpAny_mono hg (fun _ s₂ h₂=>wpAny_bind (wpAny_mono h₂ (fun ok s₃ h₃=>?_) no)) no)
  cases ok with
  |false=>exact wpAny_pure ⟨rfl,h₃⟩
  |true=>exact wpAny_bind (wpAny_bind (wpAny_mono h₃ (fun x s₄ h₄=>wpAny_bind (wpAny_mono h₄ (fun _ s₅ h₅=>wpAny_pure (wpAny_pure ⟨rfl,h₅⟩)) no)) no))
end
def Lb (wi:TI) (fr:List (Option Nat)) (g:TG) (tt:TT) (te:TE):TE:=fun σ H Q=>wi σ H fun J H1=>∀D,H1 D=none→∃W:Nat→Nat→St→Hp→Prop,(∃m,W 0 m (startB fr σ) (upd H1 D (.lst [])))∧∀i m σ H,W i m σ H→
 (J.stop i H∧Q (.ref D) H)∨(J.go i H∧∀x H2,J.pE i H x H2→g x σ H2 fun σ3 H3=>tt σ3 H3 fun b H4=>if b=true
   then te σ3 H4 fun y H5=>∃ys,H5 D=some (.lst ys)∧ys.length<sizeLine∧∃m',m'<m∧W (i+1) m' σ3 (upd H5 D (.lst (ys++[y])))
   else∃m',m'<m∧W (i+1) m' σ3 H4)
section
variable {X:Cx} {elt tg iter:Expr} {ifs:List Expr} {scope:Scope} {pos:Pos} {N:List Str} {fr:List (Option Nat)} {cl:List (Str×Addr)} {wi:TI} {g:TG} {tt:TT} {te:TE}
theorem IZ (B:QR X N fr scope cl) (hc:X.calm=true)
  (hg:∀pins fp s H,PG (sX X pins N scope cl fp s H) tg g) (ht:∀pins fp s H,MN (sX X pins N scope cl fp s H) ifs tt) (he:∀pins fp s H,PE (sX X pins N scope cl fp s H) elt te)
  {pins:List (Addr×Obj)} {s3:Shared} {σ:St} {H3:Hp} {Q:VK} {it D:Addr} {fp:List Addr} {tn:Nat→Heap→Prop} {J:It} (I3:Inv X pins σ H3 s3) (T:Turn X.prog X.w X.K tg J fp it tn) (Xe:tn 0 s3.heap) (f3:∀b∈fp,lA X pins H3 b∧b<s3.heap.objs.size)
  {W:Nat→Nat→St→Hp→Prop} {m0:Nat} (w0:W 0 m0 (startB fr σ) H3)
  (turn:∀i m σ H,W i m σ H→(J.stop i H∧Q (.ref D) H)∨(J.go i H∧∀x H2,J.pE i H x H2→g x σ H2 fun σ3 H3=>tt σ3 H3 fun b H4=>if b=true
    then te σ3 H4 fun y H5=>∃ys,H5 D=some (.lst ys)∧ys.length<sizeLine∧∃m',m'<m∧W (i+1) m' σ3 (upd H5 D (.lst (ys++[y])))
    else∃m',m'<m∧W (i+1) m' σ3 H4))
  {R:Result→Shared→Prop} (hR:∀s' H',Inv X pins σ H' s'→lA X pins H' s3.heap.objs.size→(∃m,s'.heap.Ns s3.heap.objs.size m)→Q (.ref D) H'→R (.ok .next) s')
  {h₁:Heap} {t1:Nat} (zp:h₁.Ns s3.heap.objs.size fun _=>none) (Lc:∀b o,s3.heap.get? b=some o→h₁.get? b=some o):
  codeAny (model X.prog X.w) X.A (.compLoop (.ListComp elt [⟨tg,iter,ifs,0⟩] scope pos) 0 (.ref it) (.ref D) (compEnvC scope cl s3.heap.objs.size X.env)) R { s3 with heap:=h₁,toks:=t1 }:=by
 have Ib:=C2 (t1:=t1) B I3 f3 zp Lc
 have zG:∀{H':Hp},(∀b∈fp,H' b=none)→∀b∈fp,lA (sX X pins N scope cl fp s3 H3) [] H' b:=fun hn b hb=>
  ⟨hn b hb,Nat.ne_of_lt (f3 b hb).2,(E2 B I3 f3).u3 b hb, .inl hb,fun x c h=>(f3 b hb).1.2.2.2.2.1 x c (B.cells x c h),fun p hp=>(f3 b hb).1.2.2.2.2.2 p (by rw[List.append_nil] at hp;exact hp)⟩
 refine comp_loop (fun n s'=>∃i σ' H',Inv (sX X pins N scope cl fp s3 H3) [] σ' H' s'∧tn i s'.heap∧(∀b∈fp,H' b=none)∧W i n σ' H') ?_ m0
  ⟨0,_,_,Ib,T.keep _ _ _ Xe fun b _ o e=>Lc b o e,fun b hb=>(f3 b hb).1.1,w0⟩
 rintro n s4 ⟨i,σ4,H4,I4,st4,fr4,w4⟩
 rcases turn i n σ4 H4 w4 with ⟨stop,qn⟩ | ⟨go,step⟩
 ·refine bZ (T.done (sX X pins N scope cl fp s3 H3) rfl rfl rfl hc i [] s4 σ4 H4 _ I4 (zG fr4) st4 stop) fun r s5 ⟨hr,I5⟩=>?_
  subst hr
  have J5:Inv X pins σ H4 s5:=I3.EB (ch:=fp) I5.os I5.base I5.aS I5.bare fun b hb=>⟨(f3 b hb).1.2.2.2.1,(f3 b hb).1.2.1,(f3 b hb).1.2.2.2.2.1,(f3 b hb).1.2.2.2.2.2⟩
  obtain⟨mm,MO,_⟩:=I5.loc
  exact hR s5 H4 J5 (I3.zE (Nat.le_refl _) I5.free) ⟨mm,MO⟩ qn
 ·refine bZ (T.item (sX X pins N scope cl fp s3 H3) rfl rfl rfl hc i [] s4 σ4 H4 _ I4 (zG fr4) st4 go) fun r s5 ⟨u,hr,h5⟩=>?_
  subst hr
  refine bZ h5 fun _ s6 ⟨x,H6,I6,r6,y6,YK,fr6⟩=>?_
  have I6':=I6.pinned (zG fr6) (T.obj _ _ YK)
  have back:∀{s7:Shared} {σ7:St} {H7:Hp} {m':Nat},Inv (sX X pins N scope cl fp s3 H3) ([]++qq fp s6.heap) σ7 H7 s7→m'<n→W (i+1) m' σ7 H7→
    ∃m,m<n∧∃i σ' H',Inv (sX X pins N scope cl fp s3 H3) [] σ' H' s7∧tn i s7.heap∧(∀b∈fp,H' b=none)∧W i m σ' H':=fun {s7 σ7 H7 m'} I7 hm w7=>by
   refine⟨m',hm,i+1,σ7,H7,I7.f6,T.keep _ _ _ YK fun b hb o e=>(I7.pin (b,o) (List.mem_append_right _ (List.mem_append_right _ (jq hb e)))).1,fun b hb=>?_,w7⟩
   obtain⟨o,e,d⟩:=T.obj _ _ YK b hb
   exact(I7.pin (b,o) (List.mem_append_right _ (List.mem_append_right _ (jq hb e)))).2.1
  refine bZ (hg _ _ _ _ _ s6 σ4 H6 x u _ I6' r6 (step x H6 y6)) fun _ s7 ⟨σ7,H7,I7,q7⟩=>?_
  refine bZ (ht _ _ _ _ _ s7 σ7 H7 _ I7 q7) fun ok s8 ⟨H8,I8,q8⟩=>?_
  cases ok with
  |false=>
   rw[if_neg (by decide)] at q8 ⊢
   obtain⟨m',hm,w8⟩:=q8
   exact back I8 hm w8
  |true=>
   rw[if_pos rfl] at q8 ⊢
   refine bZ (he _ _ _ _ _ s8 σ7 H8 _ I8 q8) fun y s9 ⟨v9,H9,I9,r9,ys,hD9,hl9,m',hm,w9⟩=>?_
   refine bZ (dX _ s9 σ7 H9 (.ref D) [v9] _ [y] (fun _ H'=>W (i+1) m' σ7 H') I9 rfl (.cons r9 .nil) ⟨_,ys,v9,rfl,rfl,hD9,hl9,w9⟩) fun _ xU ⟨_,Ld,I10,_,q10⟩=>?_
   exact back I10 hm q10
theorem xV (B:QR X N fr scope cl) (hc:X.calm=true)
  (hg:∀pins fp s H,PG (sX X pins N scope cl fp s H) tg g) (ht:∀pins fp s H,MN (sX X pins N scope cl fp s H) ifs tt) (he:∀pins fp s H,PE (sX X pins N scope cl fp s H) elt te)
  {pins:List (Addr×Obj)} {s2:Shared} {σ:St} {H2:Hp} {Q:VK} {E:Value→Shared→Prop} {it:Addr} {fp:List Addr} {tn:Nat→Heap→Prop} {J:It} (I2:Inv X pins σ H2 s2) (T:Turn X.prog X.w X.K tg J fp it tn) (Iz:tn 0 s2.heap) (f2:∀b∈fp,lA X pins H2 b)
  (q:∀D,H2 D=none→∃W:Nat→Nat→St→Hp→Prop,(∃m,W 0 m (startB fr σ) (upd H2 D (.lst [])))∧∀i m σ H,W i m σ H→
   (J.stop i H∧Q (.ref D) H)∨(J.go i H∧∀x H2,J.pE i H x H2→g x σ H2 fun σ3 H3=>tt σ3 H3 fun b H4=>if b=true
     then te σ3 H4 fun y H5=>∃ys,H5 D=some (.lst ys)∧ys.length<sizeLine∧∃m',m'<m∧W (i+1) m' σ3 (upd H5 D (.lst (ys++[y])))
     else∃m',m'<m∧W (i+1) m' σ3 H4))
  {RR:Value→Addr→Result→Shared→Prop}
  (hRR:∀D C s' H',Inv X pins σ H' s'→lA X pins H' C→(∃m,s'.heap.Ns C m)→Q (.ref D) H'→RR (.ref D) C (.ok .next) s'):
  wpAny (model X.prog X.w) X.A (newList []) (fun acc s₃=>wpAny (model X.prog X.w) X.A (newFunctionEnv scope X.env.globals cl [] X.env.qual none .none (some X.env)) (fun QU s₄=>
   codeAny (model X.prog X.w) X.A (.compStart (.ListComp elt [⟨tg,iter,ifs,0⟩] scope pos) 0 (.ref it) acc { QU with scope:=relabel scope X.env }) (RR acc QU.locals) s₄) E s₃) E s2:=by
 have hD:H2 s2.heap.objs.size=none:=I2.aS.fresh (Nat.le_refl _)
 obtain⟨W,⟨m0,w0⟩,turn⟩:=q s2.heap.objs.size hD
 have I3:=I2.QM (ys:=[]) (its:=[]) (t':=s2.toks) .nil (by decide)
 have lt2:∀b∈fp,b<s2.heap.objs.size:=fun b hb=>by
  obtain⟨o,e,_⟩:=T.obj _ _ Iz b hb
  exact Heap.lt_size e
 refine wpAny_newObj_type (wpAny_newFunctionEnv B.vm (by intro y hy;simp at hy) (fun h₁ zp MM=>?_) B.kind)
 have up2:∀b o,s2.heap.get? b=some o→(s2.heap.push { cls:= .type "list",data:= .seq ([]:List Value).toArray }).get? b=some o:=fun b o e=>Heap.get?_push_of_some _ e
 have Lc:∀b o,(s2.heap.push { cls:= .type "list",data:= .seq ([]:List Value).toArray }).get? b=some o→h₁.get? b=some o:=fun b o e=>MM.extBut b o (Nat.ne_of_lt (Heap.lt_size e)) (Heap.get?_push_of_some _ e)
 have f3:∀b∈fp,lA X pins (upd H2 s2.heap.objs.size (.lst [])) b∧b< (s2.heap.push { cls:= .type "list",data:= .seq ([]:List Value).toArray }).objs.size:=fun b hb=>by
  refine⟨⟨?_,(f2 b hb).2⟩,?_⟩
  ·rw[ah (Nat.ne_of_lt (lt2 b hb))]
   exact(f2 b hb).1
  ·rw[Heap.size_push]
   exact Nat.lt_succ_of_lt (lt2 b hb)
 have fin:=IZ (iter:=iter) (pos:=pos) (D:=s2.heap.objs.size) (t1:=s2.toks) (R:=RR (.ref s2.heap.objs.size) (s2.heap.push { cls:= .type "list",data:= .seq ([]:List Value).toArray }).objs.size) B hc hg ht he I3 T (T.keep _ _ _ Iz fun b _ o e=>up2 b o e) f3 w0 turn
  (fun s' H' J' f m q=>hRR _ _ s' H' J' f m q) zp Lc
 exact codeAny_compStart_list fin (T.self _ 0 _ _ _ (T.keep _ _ _ Iz fun b _ o e=>Lc b o (up2 b o e)) fin)
theorem fk {sc:Scope} {NX:List Str} (S:IY sc scope NX N fr) (e1:X.env.scope=sc) (e2:X.N=NX) (hc:X.calm=true) (hi:PI X tg iter wi)
  (hg:∀pins fp s H,PG (sX X pins N scope (xQ scope X.env) fp s H) tg g) (ht:∀pins fp s H,MN (sX X pins N scope (xQ scope X.env) fp s H) ifs tt) (he:∀pins fp s H,PE (sX X pins N scope (xQ scope X.env) fp s H) elt te)
  (hs:∀x,foldedSetIterable iter X.env x=pure x:=by intro _;rfl):PE X (.ListComp elt [⟨tg,iter,ifs,0⟩] scope pos) (Lb wi fr g tt te):=by
 intro pins s σ H Q I h
 have B:=S.xS e1 e2 I.ok
 rw[eval_ListComp]
 refine wpAny_comprehension_free (use:=none) rfl hs B.QS B.kind B.names (bZ (hi pins s σ H _ I h) fun v s1 h1=>bZ h1 fun Xd s2 h2=>?_)
 obtain⟨it,fp,tn,J,H2,e,I2,T,Iz,f2,q⟩:=h2
 subst e
 refine xV (RR:=fun acc C=>compPost (model X.prog X.w) X.A X.xe none (EP X pins σ Q) acc C) B hc hg ht he I2 T Iz f2 q ?_
 intro D C s' H' J' fC ⟨m,hm⟩ qn
 refine⟨m,hm,fun h' E3=>⟨.ref D,H',?_,rfl,qn⟩⟩
 obtain⟨f0,f1,_,f3,f4,f5⟩:=fC
 exact J'.turned (t':=s'.toks) (fun b o hb e=>(E3.2 b hb).trans e) f0 f1 f3 f4 f5
end
end L2
namespace PySem
namespace F
theorem mr:entryFor table "dict.update.loop" =some Builtin.«dict.update.loop» :=entryFor_of_tree (by kernel_rfl)
theorem gE:plainId "dict.update.loop" =true:=by decide+kernel
theorem vn:typeLookup (.type "list") "keys" =pure none:=by rw[typeLookup_type,builtinLookup_eq_fast];kernel_rfl
end F
section
variable {prog:Program} {w:World} {K:Type} [DecidableEq K] {knd:KeyKind prog w K} {A:Around} {E:Value→Shared→Prop} {s:Shared}
theorem zS {a:Addr} {xs:Array Value} {k:Nat} {sl:Array (Option Value)} {Q:Option Value→Shared→Prop}
  (hx:s.heap.get? a=some { cls:= .type "list",dict:=none,data:= .seq xs k,slots:=sl }) (hA:A.handled=none)
  (h:∀h' tk,(∀b o,s.heap.get? b=some o→h'.get? b=some o)→Q none { s with heap:=h',toks:=tk }):wpAny (model prog w) A (getAttr? (.ref a) "keys") Q E s:=by
 obtain⟨hp,g,d,tk,os⟩:=s
 have hT:∀MP,(⟨hp,g,d,MP,os⟩:Shared).TypeIs (.ref a) "list" :=fun _=>⟨_,hx,rfl⟩
 have f1:=sub_AttributeError
 have f3:=F.slot_list_getattribute.lookup
 have f4:=F.slot_list_getattribute.bind (.ref a)
 have f5:=am_list_getattr_none
 unfold getAttr? getAttrBy? getAttrBy
 repeat (any_goals (first|assumption|exact hT _| ((with_reducible show wpAny _ _ (call (Value.builtin "list.__getattribute__") _ _) _ _ _);refine call_meets F.slot_list_getattribute (hT _) am_entry_list_getattribute (F.args_list_getattribute_2 _ _) (meets_getattribute_miss_list a xs k sl "keys" _ F.vn (by decide+kernel) (by decide+kernel)) ⟨hx,hA,fun h' MP e hx'=>?_⟩) |wp_step))
 obtain⟨t',u',he⟩:=hx'.there
 show wpAny _ _ (getattributeRaised _ _ _ _ _ _ _) _ _ _
 unfold getattributeRaised
 repeat (any_goals (first|assumption|wp_step))
 all_goals exact h h' MP hx'.keeps
theorem MQ {d it l:Addr} {res:Value} {R:Result→Shared→Prop} {ps:List (Addr×K×Value×Value)} (hh:A.handled=none) (hdl:d≠l) (oY:d≠it) (xW:it≠l)
  (Ja:∀p∈ps,p.1≠d∧p.1≠it∧knd.is p.2.1 p.2.2.1=true):
  ∀(n i:Nat) (s:Shared) (kvs:List (K×Value)),ps.length - i=n→i≤ps.length→s.heap.IsListIter it l i→s.heap.IsList l (ps.map fun p=>Value.ref p.1).toArray→
   (∀p∈ps,s.heap.IsTuple p.1 #[p.2.2.1,p.2.2.2])→s.heap.DictOf knd d kvs→kvs.length+(ps.length - i)≤sizeLine→
   (∀h' tk,h'.DictOf knd d ((ps.drop i).foldl (fun acc p=>stored acc p.2.1 p.2.2.2) kvs)→(∀b o,b≠d→b≠it→s.heap.get? b=some o→h'.get? b=some o)→R (.ok (.ret res)) { s with heap:=h',toks:=tk })→
   codeAny (model prog w) A (.builtin "dict.update.loop" ⟨[.ref d, .ref it,rawInt i,res],[]⟩) R s:=by
 intro n
 induction n with
 |zero=>
  intro i s kvs hn hi hit hl ht hd hsz hR
  refine codeAny_builtin F.mr ?_
  rw[Around.under_plainId F.gE _]
  show wpAny _ A.in1 (pyNext (.ref it) >>= _) _ _ s
  refine wpAny_bind (wpAny_pyNext_list_end hh hit hl (by simp;omega) fun h' eb=>?_)
  show wpAny _ A.in1 (Builtin.Dict.addKeywords d [] >>= fun _=>ret res) _ _ _
  have e:ps.drop i=[]:=List.drop_eq_nil_of_le (by omega)
  rw[e] at hR
  exact wpAny_bind (wpAny_pure (wpAny_pure (hR h' s.toks (hd.extBut eb oY) fun b o _ hb q=>eb b o hb q)))
 |succ n ih=>
  intro i s kvs hn hi hit hl ht hd hsz hR
  have sr:i<ps.length:=by omega
  have hp:=ps.get_mem ⟨i,sr⟩
  have Ig:ps.drop i=ps[i]::ps.drop (i+1):=List.drop_eq_getElem_cons sr
  obtain⟨n1,n2,hk⟩:=Ja _ (List.getElem_mem sr)
  refine codeAny_builtin F.mr ?_
  rw[Around.under_plainId F.gE _]
  show wpAny _ A.in1 (pyNext (.ref it) >>= _) _ _ s
  refine wpAny_bind (wpAny_pyNext_list_item hit hl (x:= .ref ps[i].1) (by simp [sr]) fun h1 YL Xk=>?_)
  have ht1:∀p∈ps,h1.IsTuple p.1 #[p.2.2.1,p.2.2.2]:=fun p hp=>by
   obtain⟨o,q,r⟩:=ht p hp
   exact⟨o,(Xk.2 _ (Ja p hp).2.1).trans q,r⟩
  obtain⟨o,ho,hc,m,YM⟩:=ht1 _ (List.getElem_mem sr)
  have Ek:h1.DictOf knd d kvs:=hd.sameBut Xk oY
  have zq:h1.IsList l (ps.map fun p=>Value.ref p.1).toArray:=hl.extBut Xk.extBut (Ne.symm xW)
  show wpAny _ A.in1 (holding [Value.ref ps[i].1] _ >>= _) _ _ _
  refine wpAny_bind (wpAny_holding (wpAny_bind ?_))
  refine wpAny_tryCatch ?_
  unfold Builtin.Dict.pairItems
  refine wpAny_bind (wpAny_typeOf (T:="tuple") ⟨o,ho,hc⟩ ?_)
  rw[if_pos (by decide)]
  refine wpAny_bind (wpAny_seqItems ho YM (wpAny_pure ?_))
  show wpAny _ A.in1 (holding [ps[i].2.2.1,ps[i].2.2.2] (dictSet d ps[i].2.2.1 ps[i].2.2.2)) _ _ _
  refine wpAny_holding (wpAny_dictSet_pairs hk Ek (fun h2 hd2 Xl=>?_) (by omega))
  have hc1:((i:Int)+1)=((i+1 :Nat):Int):=by push_cast;rfl
  have up:∀b o,b≠d→b≠it→s.heap.get? b=some o→h2.get? b=some o:=fun b o q1 q2 q=>(Xl.2 b q1).trans ((Xk.2 b q2).trans q)
  refine wpAny_pure ⟨plainId_quiet F.gE _,?_⟩
  show codeAny _ _ (.builtin "dict.update.loop" ⟨[.ref d, .ref it,rawInt ((i:Int)+1),res],[]⟩) _ _
  rw[hc1]
  refine ih (i+1) _ _ (by omega) sr ?_ ?_ ?_ hd2 ?_ ?_
  ·obtain⟨oi,q,r⟩:=YL
   exact⟨oi,(Xl.2 _ (Ne.symm oY)).trans q,r⟩
  ·exact zq.extBut Xl.extBut (Ne.symm hdl)
  ·intro p hp
   obtain⟨o',q,r⟩:=ht1 p hp
   exact⟨o',(Xl.2 _ (Ja p hp).1).trans q,r⟩
  ·have:=stored_length_le kvs ps[i].2.1 ps[i].2.2.2
   omega
  ·intro h' tk fK keep
   refine hR h' tk ?_ fun b o q1 q2 q=>keep b o q1 q2 (up b o q1 q2 q)
   rw[Ig]
   exact fK
end
end PySem
namespace PySem
section
variable {prog:Program} {w:World} {K:Type} [DecidableEq K] {knd:KeyKind prog w K} {A:Around} {E:Value→Shared→Prop} {s:Shared}
theorem lP {l:Addr} {n:Nat} {sl:Array (Option Value)} {ps:List (Addr×K×Value×Value)} {Q:Value→Shared→Prop} (hh:A.handled=none)
  (hl:s.heap.get? l=some { cls:= .type "list",dict:=none,data:= .seq (ps.map fun p=>Value.ref p.1).toArray n,slots:=sl })
  (ht:∀p∈ps,s.heap.IsTuple p.1 #[p.2.2.1,p.2.2.2]∧knd.is p.2.1 p.2.2.1=true) (hsz:ps.length≤sizeLine)
  (h:∀h' tk,h'.DictOf knd s.heap.objs.size (ps.foldl (fun acc p=>stored acc p.2.1 p.2.2.2) [])→(∀b o,s.heap.get? b=some o→h'.get? b=some o)→Q (.ref s.heap.objs.size) { s with heap:=h',toks:=tk }):
  wpAny (model prog w) A (call (.type "dict") [.ref l]) Q E s:=by
 refine callType_codes (Q₁:=fun obj s₁=>obj= .ref s.heap.objs.size∧s₁={ s with heap:=s.heap.push { cls:= .type "dict",data:= .dict #[] } }) F.kt_called_dict (F.kt_typeCall_dict_1 _) F.entry_dict_init (kt_code_dict_new _ ⟨rfl,rfl⟩) ?_
 rintro obj s₁ ⟨rfl,rfl⟩
 have j6:(s.heap.push { cls:= .type "dict",data:= .dict #[] }).DictOf knd s.heap.objs.size []:=Heap.DictOf.new s.heap
 have up:∀b o,s.heap.get? b=some o→(s.heap.push { cls:= .type "dict",data:= .dict #[] }).get? b=some o:=fun b o q=>Heap.get?_push_of_some _ q
 have zq:=up _ _ hl
 refine⟨j6.typeIs,F.args_dict_init_2 _ _,?_⟩
 unfold Builtin.«dict.__init__»
 refine wpAny_bind ?_
 unfold Builtin.Dict.selfAndRest
 refine wpAny_bind (wpAny_notOrdered_dict j6.typeIs ?_)
 show wpAny _ _ (pure (s.heap.objs.size,[Value.ref l])) _ _ _
 refine wpAny_pure ?_
 show wpAny _ _ (Builtin.Dict.updateFrom "dict.__init__" s.heap.objs.size (.ref l) [] .none) _ _ _
 unfold Builtin.Dict.updateFrom
 refine wpAny_bind (wpAny_typeOf (T:="list") ⟨_,zq,rfl⟩ ?_)
 rw[if_pos (by decide)]
 refine wpAny_bind (zS zq hh fun h2 tk2 k2=>?_)
 rw[if_pos (show (none:Option Value).isNone=true from rfl)]
 refine wpAny_bind (wpAny_rule ?_)
 have sC:=k2 _ _ zq
 have isl:h2.IsList l (ps.map fun p=>Value.ref p.1).toArray:=⟨_,sC,rfl,n,rfl⟩
 have Pz:l<s.heap.objs.size:=Heap.lt_size hl
 have sz:s.heap.objs.size+1≤h2.objs.size:=by
  obtain⟨o,es,ep,q,r⟩:=id j6
  exact Heap.lt_size (k2 _ _ q)
 refine wpAny_bind (wpAny_pyIter_list isl ?_)
 refine wpAny_pure ⟨plainId_quiet F.gE _,?_⟩
 have Lc:∀b o,s.heap.get? b=some o→(h2.push { cls:= .type "list_iterator",data:= .fields #[.ref l, .int 0 0] }).get? b=some o:=fun b o q=>Heap.get?_push_of_some _ (k2 _ _ (up b o q))
 refine MQ (A:=A.in1) (knd:=knd) (l:=l) (ps:=ps) hh (Nat.ne_of_gt Pz) (Nat.ne_of_lt sz) (Nat.ne_of_gt (Nat.lt_of_lt_of_le Pz (Nat.le_of_lt sz))) (fun p hp=>?_) ps.length 0 _ [] (by omega) (Nat.zero_le _) ?_ ?_ ?_ ?_ ?_ ?_
 ·obtain⟨⟨o,q,_⟩,hk⟩:=ht p hp
  have:=Heap.lt_size q
  exact⟨Nat.ne_of_lt this,Nat.ne_of_lt (Nat.lt_trans this sz),hk⟩
 ·exact⟨_,Heap.get?_push_size _ rfl,rfl,rfl⟩
 ·exact⟨_,Heap.get?_push_of_some _ sC,rfl,n,rfl⟩
 ·intro p hp
  obtain⟨⟨o,q,r⟩,hk⟩:=ht p hp
  exact⟨o,Lc _ _ q,r⟩
 ·obtain⟨o,es,ep,q,r⟩:=j6
  exact⟨o,es,ep,Heap.get?_push_of_some _ (k2 _ _ q),r⟩
 ·simpa using hsz
 ·intro h' tk fK keep
  refine⟨rfl,h h' tk fK fun b o q=>?_⟩
  have:=Heap.lt_size q
  exact keep b o (Nat.ne_of_lt this) (Nat.ne_of_lt (Nat.lt_trans this sz)) (Lc b o q)
end
end PySem
namespace L2
open PySem PySem.Spec PyProof.Rows
theorem tf:∀{as:List Addr} {us:List Value},Vals (as.map V.ref) us→us=as.map Value.ref
 | [],_, .nil=>rfl
 |a::r,_, .cons h t=>by
  rw[tf t]
  exact congrArg (·::r.map Value.ref) (show _=Value.ref a from h)
theorem pairs_of {P:Program} {w:World} {H:Hp} {h:Heap} (ok:jX P w H h):∀{ps:List (Addr×Key×V)},(∀p∈ps,H p.1=some (.tup [kV p.2.1,p.2.2]))→
  ∃qs:List (Addr×Key×Value×Value),Paired (fun (p:Addr×Key×V) (q:Addr×Key×Value×Value)=>p.1=q.1∧p.2.1=q.2.1∧RelV p.2.2 q.2.2.2) ps qs∧∀q∈qs,h.IsTuple q.1 #[q.2.2.1,q.2.2.2]∧(bE P w).is q.2.1 q.2.2.1=true
 | [],_=>⟨[], .nil,fun q hq=>by cases hq⟩
 | (a,k,v)::r,hp=>by
   obtain⟨qs,pr,hq⟩:=pairs_of ok (ps:=r) fun p xT=>hp p (List.mem_cons_of_mem _ xT)
   obtain⟨_,its,vs,tu⟩:=(show cq P w H h a (.tup [kV k,v]) from ok a _ (hp (a,k,v) (List.mem_cons_self ..)))
   obtain⟨u1,u2,rfl,r1,r2⟩:=vals2 vs
   refine⟨(a,k,u1,u2)::qs, .cons ⟨rfl,rfl,r2⟩ pr,fun q su=>?_⟩
   rcases List.mem_cons.mp su with rfl|z
   ·exact⟨tu,sV r1⟩
   ·exact hq q z
theorem qD:∀{ps:List (Addr×Key×V)} {qs:List (Addr×Key×Value×Value)},Paired (fun (p:Addr×Key×V) (q:Addr×Key×Value×Value)=>p.1=q.1∧p.2.1=q.2.1∧RelV p.2.2 q.2.2.2) ps qs→(ps.map fun p=>Value.ref p.1)=qs.map fun q=>Value.ref q.1
 |_,_, .nil=>rfl
 |_,_, .cons h t=>by
  rw[List.map_cons,List.map_cons,qD t,h.1]
theorem qF:∀{ps:List (Addr×Key×V)} {qs:List (Addr×Key×Value×Value)} {kvs:List (Key×V)} {vs:List (Key×Value)},Paired (fun (p:Addr×Key×V) (q:Addr×Key×Value×Value)=>p.1=q.1∧p.2.1=q.2.1∧RelV p.2.2 q.2.2.2) ps qs→KV kvs vs→
  KV (cu kvs (ps.map (·.2))) (qs.foldl (fun acc q=>stored acc q.2.1 q.2.2.2) vs)
 |_,_,_,_, .nil,h=>h
 |_,_,kvs,vs, .cons (b:=q) (a:=p) h t,r=>by
  obtain⟨h1,h2,h3⟩:=h
  have u:KV (putK kvs p.2.1 p.2.2) (stored vs q.2.1 q.2.2.2):=by
   rw[←h2]
   exact r.put p.2.1 h3
  have z:=qF t u
  exact z
theorem lQ {X:Cx} (hc:X.calm=true):gy X (.type "dict") (fun xs H Q=>∃l,∃ps:List (Addr×Key×V),xs=[.ref l]∧H l=some (.lst (ps.map fun p=> .ref p.1))∧(∀p∈ps,H p.1=some (.tup [kV p.2.1,p.2.2]))∧
  ∀q,H q=none→Q (.ref q) (upd H q (.dK (cu [] (ps.map (·.2)))))):=by
 intro pins s σ H xs us Q I r h
 obtain⟨l,ps,rfl,hl,hp,q⟩:=h
 obtain⟨u,rfl,ru⟩:=vals1 r
 cases ru
 obtain⟨z,its,n,vs,_,e⟩:=I.CV hl
 obtain⟨qs,pr,hq⟩:=pairs_of I.aS hp
 have e1:its=qs.map fun q=>Value.ref q.1:=by
  rw[←qD pr]
  have:=tf (as:=ps.map (·.1)) (us:=its) (by rw[List.map_map];exact vs)
  rw[this,List.map_map];rfl
 subst e1
 have zl:qs.length≤sizeLine:=by
  rw[←pr.length]
  rwa [List.length_map] at z
 refine lP (ps:=qs) (I.ok.hd hc) e hq zl fun h' tk dd keep=>?_
 have kv:=qF (kvs:=[]) (vs:=[]) pr .nil
 have zz:(cu [] (ps.map (·.2))).length≤sizeLine:=by
  have:=eB (ps.map (·.2)) []
  rw[List.length_map] at this
  have:=pr.length
  simp only [List.length_nil] at*
  omega
 exact⟨.ref s.heap.objs.size,_,I.laid (a:=s.heap.objs.size) (o:= .dK (cu [] (ps.map (·.2)))) (t':=tk) keep (Nat.le_refl _) (qy zz (beq_eq_false_iff_ne.mpr (Ne.symm (Nat.ne_of_lt I.big))) kv dd),rfl,q _ (I.aS.fresh (Nat.le_refl _))⟩
end L2
namespace L2
open PySem PySem.Spec PyProof.Rows
structure xX (K:PySem.W.Frag) (x qual:Str) (st:Stmt) (f:Addr) (fd:FuncData) (dV:Value):Prop where
 ex:∃(oc:Value) (od:Option Addr) (kV doc pm:Value) (an:Option Addr) (bA ct:Value) (sv:Array (Option Value)),
  fd=PySem.W.fnOf x qual (bF st) (a5 st) (aj st) dV kV doc pm an bA ct∧K.lookup f=some ⟨oc,od, .func fd,sv⟩∧PySem.W.codeIn K bA qual=true
 kp:PySem.W.keepIn K (.ref f)=true
section
variable {P:Program} {w:World} {K:PySem.W.Frag} {mg:Str→Option Value} {base:Heap}
theorem xX.ok {x qual:Str} {st:Stmt} {f:Addr} {fd:FuncData} {dV:Value} {N ps:List Str} {k:Nat} {sp:Sp} (F:xX K x qual st f fd dV) (S:ax N ps (aj st)) (len:∀vs H Q E,sp vs H Q E→vs.length=ps.length)
  (dv:∀(bA:Value) (A:Around) (outer:List Env) (s:Shared) (H:Hp) (vs:List V) (Q:VK) (E:XK),cV k (A.deeper (envOfC qual (aj st) s.heap.objs.size f bA))→sp vs H Q E→
   ∃t,lM (js qB P w K mg base N qual (aj st) f bA A outer s H E).ED (a5 st) t∧t { nx:=fun _ H'=>Q .cU H',rt:=Q } (start N vs) H):fe P w K mg base qB (k+1) f fd ps sp:=by
 obtain⟨oc,od,kV,doc,pm,an,bA,ct,sv,rfl,lk,pq⟩:=F.ex
 refine fn_of lk pq S len fun A outer s H vs Q E hr A6=>?_
 obtain⟨t,h,q⟩:=dv bA A outer s H vs Q E hr A6
 exact⟨t,h.ED,q⟩
theorem kI {x qual:Str} {st:Stmt} {f:Addr} {oc dV:Value} {od an:Option Addr} {sv:Array (Option Value)} {kV doc pm bA ct:Value} (l:K.lookup f=some ⟨oc,od, .func (PySem.W.fnOf x qual (bF st) (a5 st) (aj st) dV kV doc pm an bA ct),sv⟩)
  (c:PySem.W.codeIn K bA qual=true) (k:PySem.W.keepIn K (.ref f)=true):xX K x qual st f (PySem.W.fnOf x qual (bF st) (a5 st) (aj st) dV kV doc pm an bA ct) dV:=⟨⟨oc,od,kV,doc,pm,an,bA,ct,sv,rfl,l,c⟩,k⟩
def Def (K:PySem.W.Frag) (mg:Str→Option Value) (x q:Str) (st:Stmt) (ps:List Str):Prop:=∃f fd,Ej K x q st f fd∧Binds K fd ps []∧mg x=some (.ref f)
structure Cal (P:Program) (w:World) (K:PySem.W.Frag) (mg:Str→Option Value) (base:Heap) (k:Nat) (x:Str) (ps:List Str) (sp:Sp) (f:Addr) (fd:FuncData):Prop where
 ok:fe P w K mg base qB k f fd ps sp
 kp:PySem.W.keepIn K (.ref f)=true
 b:Binds K fd ps []
 g:mg x=some (.ref f)
def bg (P:Program) (w:World) (K:PySem.W.Frag) (mg:Str→Option Value) (base:Heap) (k:Nat) (x:Str) (ps:List Str) (sp:Sp):Prop:=∃f fd,Cal P w K mg base k x ps sp f fd
theorem Def.di {x q:Str} {st:Stmt} {N ps:List Str} {k:Nat} {sp:Sp} (D:Def K mg x q st ps) (S:ax N ps (aj st)) (len:∀vs H Q E,sp vs H Q E→vs.length=ps.length)
  (dv:∀(f:Addr) (bA:Value) (A:Around) (outer:List Env) (s:Shared) (H:Hp) (vs:List V) (Q:VK) (E:XK),cV k (A.deeper (envOfC q (aj st) s.heap.objs.size f bA))→sp vs H Q E→
   ∃t,lM (js qB P w K mg base N q (aj st) f bA A outer s H E).ED (a5 st) t∧t { nx:=fun _ H'=>Q .cU H',rt:=Q } (start N vs) H):bg P w K mg base (k+1) x ps sp:=by
 obtain⟨f,fd,F,b,g⟩:=D
 exact⟨f,fd,F.ok S len (dv f),F.kp,b,g⟩
def a9 (K:PySem.W.Frag) (C:Addr) (m q:Str) (st:Stmt) (ps:List Str):Prop:=∃f fd,Ej K m q st f fd∧Binds K fd ps []∧Meth K C m f
structure YN (P:Program) (w:World) (K:PySem.W.Frag) (mg:Str→Option Value) (base:Heap) (k:Nat) (C:Addr) (m:Str) (ps:List Str) (sp:Sp) (f:Addr) (fd:FuncData):Prop where
 ok:fe P w K mg base qB k f fd ps sp
 m:Meth K C m f
 b:Binds K fd ps []
def aJ (P:Program) (w:World) (K:PySem.W.Frag) (mg:Str→Option Value) (base:Heap) (k:Nat) (C:Addr) (m:Str) (ps:List Str) (sp:Sp):Prop:=∃f fd,YN P w K mg base k C m ps sp f fd
theorem a9.di {C:Addr} {m q:Str} {st:Stmt} {N ps:List Str} {k:Nat} {sp:Sp} (D:a9 K C m q st ps) (S:ax N ps (aj st)) (len:∀vs H Q E,sp vs H Q E→vs.length=ps.length)
  (dv:∀(f:Addr) (bA:Value) (A:Around) (outer:List Env) (s:Shared) (H:Hp) (vs:List V) (Q:VK) (E:XK),cV k (A.deeper (envOfC q (aj st) s.heap.objs.size f bA))→sp vs H Q E→
   ∃t,lM (js qB P w K mg base N q (aj st) f bA A outer s H E).ED (a5 st) t∧t { nx:=fun _ H'=>Q .cU H',rt:=Q } (start N vs) H):aJ P w K mg base (k+1) C m ps sp:=by
 obtain⟨f,fd,F,b,g⟩:=D
 exact⟨f,fd,F.ok S len (dv f),g,b⟩
def lB (K:PySem.W.Frag) (C:Addr) (q:Str) (st:Stmt) (ps:List Str) (ds:List Int):Prop:=∃f fd dV,xX K "__init__" q st f fd dV∧Mk K C f∧∀j,j≤ds.length→∃us,Vals ((ds.drop j).map V.int) us∧Binds K fd ps us
structure YO (P:Program) (w:World) (K:PySem.W.Frag) (mg:Str→Option Value) (base:Heap) (k:Nat) (C:Addr) (ps:List Str) (ds:List Int) (sp:Sp) (f:Addr) (fd:FuncData):Prop where
 ok:fe P w K mg base qB k f fd ps sp
 m:Mk K C f
 b:∀j,j≤ds.length→∃us,Vals ((ds.drop j).map V.int) us∧Binds K fd ps us
def gz (P:Program) (w:World) (K:PySem.W.Frag) (mg:Str→Option Value) (base:Heap) (k:Nat) (C:Addr) (ps:List Str) (ds:List Int) (sp:Sp):Prop:=∃f fd,YO P w K mg base k C ps ds sp f fd
theorem lB.di {C:Addr} {q:Str} {st:Stmt} {N ps:List Str} {ds:List Int} {k:Nat} {sp:Sp} (D:lB K C q st ps ds) (S:ax N ps (aj st)) (len:∀vs H Q E,sp vs H Q E→vs.length=ps.length)
  (dv:∀(f:Addr) (bA:Value) (A:Around) (outer:List Env) (s:Shared) (H:Hp) (vs:List V) (Q:VK) (E:XK),cV k (A.deeper (envOfC q (aj st) s.heap.objs.size f bA))→sp vs H Q E→
   ∃t,lM (js qB P w K mg base N q (aj st) f bA A outer s H E).ED (a5 st) t∧t { nx:=fun _ H'=>Q .cU H',rt:=Q } (start N vs) H):gz P w K mg base (k+1) C ps ds sp:=by
 obtain⟨f,fd,dV,F,g,b⟩:=D
 exact⟨f,fd,F.ok S len (dv f),g,b⟩
end
theorem au.new {H:Hp} {p:Addr} {o:HO} (h:H p=none):au H (upd H p o):=fun b q e=>by
 rw[ah (ag e h)];exact e
end L2
namespace L2
open PySem
theorem j7:bootBuiltins "len" =some (.builtin "len"):=PySem.boot_len
theorem bh:bootBuiltins "isinstance" =some (.builtin "isinstance"):=by decide+kernel
theorem qG:bootBuiltins "int" =some (.type "int"):=by decide+kernel
theorem zT:bootBuiltins "str" =some (.type "str"):=by decide+kernel
theorem Jb:bootBuiltins "bool" =some (.type "bool"):=by decide+kernel
theorem kJ:bootBuiltins "list" =some (.type "list"):=by decide+kernel
theorem iu:bootBuiltins "dict" =some (.type "dict"):=by decide+kernel
theorem vo {c A B:Prop} [Decidable c] (hc:c) (h:A):if decide c=true then A else B:=by
 rw[if_pos (decide_eq_true hc)];exact h
theorem qH {c A B:Prop} [Decidable c] (hc:¬c) (h:B):if decide c=true then A else B:=by
 rw[if_neg (by rw[decide_eq_false hc];decide)];exact h
theorem vp {α:Type} {xs:List α} {i:Int} (h0:0≤i) (h1:i<xs.length):∃v,v∈xs∧zP xs i=some v:=by
 have hl:i.toNat<xs.length:=by omega
 refine⟨xs[i.toNat],List.getElem_mem hl,?_⟩
 have:=pH (List.getElem?_eq_getElem hl)
 rwa [Int.toNat_of_nonneg h0] at this
theorem bw (x y:Str):(x++y).length=x.length+y.length:=by
 show (x.cps++y.cps).size=_
 rw[Array.size_append];rfl
theorem ti {n:Int} (h1:0≤n) (h2:n<2^64):n.natAbs.log2<1920:=by
 by_cases h:n.natAbs=0
 ·rw[h];decide
 ·have:=(Nat.log2_lt h (k:=64)).mpr (by omega)
  omega
end L2
namespace L2
open PySem PySem.Spec PyProof.Rows
inductive tj:List Expr→List V→Prop where
 |nil:tj [] []
 |int {i:Int} {j} {pos:Pos} {es:List Expr} {vs:List V} (t:tj es vs):tj (.Constant (.int i) j pos::es) (.int i::vs)
 |str {x:Str} {j} {pos:Pos} {es:List Expr} {vs:List V} (t:tj es vs):tj (.Constant (.str x) j pos::es) (.str x::vs)
def QV (vs:List V):TA:=fun _ H Q=>Q vs H
theorem Jc {X:Cx} {es:List Expr} {vs:List V} (h:tj es vs):PA X es (QV vs):=by
 induction h with
 |nil=>exact ak
 |int t ih=>exact fun pos pins s σ H Q I q=>aa aq ih rfl pos pins s σ H Q I q
 |str t ih=>exact fun pos pins s σ H Q I q=>aa bJ ih rfl pos pins s σ H Q I q
section
variable {K:PySem.W.Frag}
theorem fq {T:String}:PySem.W.kitOne K (.type T) (.type T)=some true:=by
 unfold PySem.W.kitOne
 rw[if_pos (by simp)]
theorem E4 {T U:String} {b:Bool} (h1:(Value.type T==Value.type U)=false) (h2:PySem.W.kitMeta U=true) (h3:(fastBuiltinMro T).map (·.contains (Value.type U))=some b):PySem.W.kitOne K (.type T) (.type U)=some b:=by
 unfold PySem.W.kitOne
 rw[if_neg (by rw[h1];decide)]
 unfold PySem.W.kitCls
 dsimp only
 rw[if_pos h2]
 exact h3
theorem mv:PySem.W.kitOne K (.type "int") (.type "bool")=some false:=E4 (by decide+kernel) (by decide+kernel) (by decide+kernel)
end
end L2
namespace L2
open PySem PySem.Spec PyProof.Rows
section
variable {X:Cx} {elt tg iter:Expr} {ifs:List Expr} {scope:Scope} {pos MR py:Pos} {N:List Str} {fr:List (Option Nat)} {wi:TI} {g:TG} {tt:TT} {te:TE}
theorem pK {i:Nat} {y:Str} {sc:Scope} {NX:List Str} (hN:X.N.Nodup) (YQ:X.N[i]? =some y) (hy:Loc X.env.scope y) (S:IY sc scope NX N fr) (e1:X.env.scope=sc) (e2:X.N=NX) (hc:X.calm=true) (hi:PI X tg iter wi)
  (hg:∀pins fp s H,PG (sX X pins N scope (xQ scope X.env) fp s H) tg g) (ht:∀pins fp s H,MN (sX X pins N scope (xQ scope X.env) fp s H) ifs tt) (he:∀pins fp s H,PE (sX X pins N scope (xQ scope X.env) fp s H) elt te)
  (hsw:swapsWith (.ListComp elt [⟨tg,iter,ifs,0⟩] scope pos) (some (.Name y py)) MR.line X.env=pure true:=by rfl) (hs:∀x,foldedSetIterable iter X.env x=pure x:=by intro _;rfl)
  (hf:X.fn y=true∨X.env.scope.names.lookup y=some .local:=by first|exact .inl rfl|exact .inr rfl|assumption):
  PS X (.Assign [.Name y py] (.ListComp elt [⟨tg,iter,ifs,0⟩] scope pos) MR) (Mu (Lb wi fr g tt te) (du i)):=by
 intro pins s σ H D I h
 have B:=S.xS e1 e2 I.ok
 rw[exec_Assign_Name_used _ _ _ _ hsw]
 refine wpAny_bind (wpAny_standAt (wpAny_bind ?_))
 show wpAny _ X.A (do let _←comprehension (.ListComp elt [⟨tg,iter,ifs,0⟩] scope pos) scope X.env _ (newList []) false (eval iter X.env) (some (assign (.Name y py) X.env))) _ _ s
 refine wpAny_bind (wpAny_mono (wpAny_comprehension_free (use:=some (assign (.Name y py) X.env)) (Q:=fun _ s'=>SP X pins D .next s') rfl hs B.QS B.kind B.names (bZ (hi pins s σ H _ I h) fun v s1 h1=>bZ h1 fun Xd s2 h2=>?_)) (fun _ s' hq=>wpAny_pure (wpAny_pure hq)) fun _ _ e=>e)
 obtain⟨it,fp,tn,J,H2,e,I2,T,Iz,f2,q⟩:=h2
 subst e
 refine xV (Q:=fun v H'=>du i v σ H' D.nx) (RR:=fun acc C=>compPost (model X.prog X.w) X.A X.xe (some (assign (.Name y py) X.env)) (fun _ s'=>SP X pins D .next s') acc C) B hc hg ht he I2 T Iz f2 q ?_
 intro D' C s' H' J' fC ⟨m,hm⟩ qn
 obtain⟨f0,f1,_,f3,f4,f5⟩:=fC
 show wpAny _ X.A (assign (.Name y py) X.env (.ref D')) _ _ _
 refine wpAny_assign_Name (sO J' hN YQ hy (v:= .ref D') rfl (fun Qz J'' ⟨a,sb,ha⟩=>?_) hf)
 have hCa:C≠a:=by
  rcases ha with z|z
  ·rw[z];exact f1
  ·exact fun w'=>f4 _ _ z w'.symm
 refine⟨m,hm.sameBut sb hCa,fun h' E3=>⟨_,H',?_,qn⟩⟩
 exact J''.turned (t':=Qz.toks) (fun b o hb e=>(E3.2 b hb).trans e) f0 f1 f3 f4 f5
end
theorem tq {K:PySem.W.Frag} {a D:Addr} {xs:List V} {g:TG} {tt:TT} {te:TE} {Q:Hp→Prop} {σ:St} {H:Hp} (Pv:Nat→St→Hp→Prop) (h0:Pv 0 σ H) (hl:∀i σ H,i≤xs.length→Pv i σ H→b5 K H a xs)
  (hs:∀i x σ H,xs[i]? =some x→Pv i σ H→∀N:St→Hp→Prop,(∀σ' H',Pv (i+1) σ' H'→N σ' H')→g x σ H fun σ3 H3=>tt σ3 H3 fun b H4=>if b=true then te σ3 H4 fun y H5=>∃ys,H5 D=some (.lst ys)∧ys.length<sizeLine∧N σ3 (upd H5 D (.lst (ys++[y]))) else N σ3 H4)
  (hd:∀σ H,Pv xs.length σ H→Q H):
  ∃W:Nat→Nat→St→Hp→Prop,(∃m,W 0 m σ H)∧∀i m σ H,W i m σ H→((AZ K a).stop i H∧Q H)∨((AZ K a).go i H∧∀x H2,(AZ K a).pE i H x H2→g x σ H2 fun σ3 H3=>tt σ3 H3 fun b H4=>if b=true
   then te σ3 H4 fun y H5=>∃ys,H5 D=some (.lst ys)∧ys.length<sizeLine∧∃m',m'<m∧W (i+1) m' σ3 (upd H5 D (.lst (ys++[y])))
   else∃m',m'<m∧W (i+1) m' σ3 H4):=by
 refine⟨fun i m σ H=>m+i=xs.length∧Pv i σ H,⟨xs.length,rfl,h0⟩,?_⟩
 rintro i m σ H ⟨hm,hp⟩
 have sq:=hl i σ H (by omega) hp
 by_cases hi:i<xs.length
 ·refine .inr ⟨⟨xs,xs[i],sq,List.getElem?_eq_getElem hi⟩,?_⟩
  rintro x H2 ⟨rfl,hx⟩
  exact hs i x σ H2 (hx xs sq) hp _ fun σ' H' q=>⟨m - 1,by omega,by omega,q⟩
 ·have e:i=xs.length:=by omega
  subst e
  exact .inl ⟨⟨xs,sq,Nat.le_refl _⟩,hd σ H hp⟩
theorem vq {X:Cx} {es:List Expr} {k:Nat} {pos:Pos} {t:K5} (K:PySem.W.Frag) (n:Nat) (hK:X.K=K) (hc:X.calm=true) (h:Pw X es t) (hn:(assignEach es X.env).length=n:=by rfl) (fI:(assignEach es X.env).findIdx? (·.1)=none:=by rfl):PG X (.Tuple es k pos) (Qi K n t):=by
 subst hK
 exact gS hc h hn fI
theorem kK {a D:Addr} {o:Obj} {kvs:List (Key×V)} {g:TG} {tt:TT} {te:TE} {Q:Hp→Prop} {σ:St} {H:Hp} (Pv:Nat→St→Hp→Prop) (h0:Pv 0 σ H) (hl:∀i σ H,Pv i σ H→H a=some (.fH o (.dK kvs)))
  (hs:∀i k v σ H,kvs[i]? =some (k,v)→Pv i σ H→∀N:St→Hp→Prop,(∀σ' H',Pv (i+1) σ' H'→N σ' H')→g (kV k) σ H fun σ3 H3=>tt σ3 H3 fun b H4=>if b=true then te σ3 H4 fun y H5=>∃ys,H5 D=some (.lst ys)∧ys.length<sizeLine∧N σ3 (upd H5 D (.lst (ys++[y]))) else N σ3 H4)
  (hd:∀σ H,Pv kvs.length σ H→Q H):
  ∃W:Nat→Nat→St→Hp→Prop,(∃m,W 0 m σ H)∧∀i m σ H,W i m σ H→((La a o kvs).stop i H∧Q H)∨((La a o kvs).go i H∧∀x H2,(La a o kvs).pE i H x H2→g x σ H2 fun σ3 H3=>tt σ3 H3 fun b H4=>if b=true
   then te σ3 H4 fun y H5=>∃ys,H5 D=some (.lst ys)∧ys.length<sizeLine∧∃m',m'<m∧W (i+1) m' σ3 (upd H5 D (.lst (ys++[y])))
   else∃m',m'<m∧W (i+1) m' σ3 H4):=by
 refine⟨fun i m σ H=>m+i=kvs.length∧Pv i σ H,⟨kvs.length,rfl,h0⟩,?_⟩
 rintro i m σ H ⟨hm,hp⟩
 have hz:=hl i σ H hp
 by_cases hi:i<kvs.length
 ·refine .inr ⟨⟨hz,hi⟩,?_⟩
  rintro x H2 ⟨rfl,k,v,C1,rfl⟩
  exact hs i k v σ H2 C1 hp _ fun σ' H' q=>⟨m - 1,by omega,by omega,q⟩
 ·have e:i=kvs.length:=by omega
  subst e
  exact .inl ⟨⟨hz,Nat.le_refl _⟩,hd σ H hp⟩
end L2
namespace L2
open PySem PySem.Spec PyProof.Rows
section
variable {X:Cx}
def YR (t u:TE):TE:=fun σ H Q=>t σ H Q∨u σ H Q
theorem E5 {e:Expr} {t u:TE} (h:PE X e t) (h':PE X e u):PE X e (YR t u):=fun pins s σ H Q I q=>
 q.elim (fun z=>h pins s σ H Q I z) fun z=>h' pins s σ H Q I z
theorem qI:∀{xs:List Str} {us:List Value},Vals (xs.map V.str) us→StrsAre us xs
 | [],_, .nil=> .nil
 |x::r,_, .cons h t=>by
  obtain⟨tk,e⟩:=(show∃t,_=Value.str x t from h)
  subst e
  exact .cons x tk (qI t)
def rJoin (K:PySem.W.Frag):V→List V→Hp→VK→Prop:=fun x vs H Q=>∃z l,∃ys:List Str,x= .str z∧vs=[.ref l]∧b5 K H l (ys.map V.str)∧(ys.map (·.length)).sum+ys.length*z.length≤16777216∧Q (.str (Txt.join z ys)) H
theorem pL:MtR X "str.join" (rJoin X.K):=by
 intro pins s σ H x vs v us Q I rx rv h
 obtain⟨z,l,ys,rfl,rfl,hS,hz,q⟩:=h
 obtain⟨t,e⟩:=(show∃t,v=Value.str z t from rx)
 subst e
 obtain⟨u,rfl,ru⟩:=rv.one
 cases ru
 obtain⟨its,r,p,_⟩:=I.list hS
 exact join_list p.isList (by simpa using qI r) hz fun t' k=>⟨.str (Txt.join z ys),H,I.tok k,⟨t',rfl⟩,q⟩
mutual
inductive El (K:PySem.W.Frag) (H:Hp):V→PyData→Prop where
 |cU:El K H .cU .none
 |bl (b:Bool):El K H (.bl b) (.bool b)
 |int (i:Int):El K H (.int i) (.int i)
 |str (x:Str):El K H (.str x) (.str x)
 |lst {a:Addr} {xs:List V} {ds:List PyData} (h:b5 K H a xs) (t:zU K H xs ds):El K H (.ref a) (.list ds)
 |tup {a:Addr} {xs:List V} {ds:List PyData} (h:iX K H a xs) (t:zU K H xs ds):El K H (.ref a) (.tuple ds)
inductive zU (K:PySem.W.Frag) (H:Hp):List V→List PyData→Prop where
 |nil:zU K H [] []
 |cons {x:V} {d:PyData} {xs:List V} {ds:List PyData} (h:El K H x d) (t:zU K H xs ds):zU K H (x::xs) (d::ds)
end
mutual
theorem j8 {pins:List (Addr×Obj)} {σ:St} {H:Hp} {s:Shared} (I:Inv X pins σ H s) {x:V} {d:PyData} (h:El X.K H x d) {u:Value} (r:RelV x u):∃as,Reads s.heap u d as:=by
 cases h with
 |cU=>cases (show u=Value.none from r);exact⟨_, .none⟩
 |bl b=>cases (show u=Value.bool b from r);exact⟨_, .bool b⟩
 |int i=>obtain⟨t,rfl⟩:=(show∃t,u=Value.int i t from r);exact⟨_, .int i t⟩
 |str y=>obtain⟨t,rfl⟩:=(show∃t,u=Value.str y t from r);exact⟨_, .str y t⟩
 | @lst a xs ds hS t=>
   cases (show u=Value.ref a from r)
   obtain⟨its,rv,p,_⟩:=I.list hS
   obtain⟨o,ho,hc,n,hd⟩:=p.isList
   obtain⟨as,ra⟩:=j9 I t rv
   exact⟨_, .list ho hc hd (by simpa using ra)⟩
 | @tup a xs ds hS t=>
   cases (show u=Value.ref a from r)
   obtain⟨its,rv,p,_⟩:=I.tuple hS
   obtain⟨o,ho,hc,n,hd⟩:=p
   obtain⟨as,ra⟩:=j9 I t rv
   exact⟨_, .tuple ho hc hd (by simpa using ra)⟩
theorem j9 {pins:List (Addr×Obj)} {σ:St} {H:Hp} {s:Shared} (I:Inv X pins σ H s) {xs:List V} {ds:List PyData} (h:zU X.K H xs ds) {us:List Value} (r:Vals xs us):∃as,ReadsAll s.heap us ds as:=by
 cases h with
 |nil=>cases r;exact⟨_, .nil⟩
 |cons h t=>
  cases r with
  |cons r1 r2=>
   obtain⟨as,ra⟩:=j8 I h r1
   obtain⟨bs,rb⟩:=j9 I t r2
   exact⟨_, .cons ra rb⟩
end
def QW (neg:Bool) (K:PySem.W.Frag):R2:=fun x y H Q=>∃d e,El K H x d∧El K H y e∧SeqAt.shaped d=true∧SeqAt.shaped e=true∧Q (.bl (neg^^PyData.eqv d e)) H
theorem E6 (hu:X.A.units+64<cLine):nR X (compareOp .Eq) (QW false X.K):=by
 intro pins s σ H x y v u Q I rx ry h
 obtain⟨d,e,hd,he,sd,se,q⟩:=h
 obtain⟨as,ra⟩:=j8 I hd rx
 obtain⟨bs,rb⟩:=j8 I he ry
 exact SeqAt.compareEq_shaped ra rb sd se hu ⟨.bl (PyData.eqv d e),H,I,rfl,by simpa using q⟩
theorem MS (hu:X.A.units+64<cLine):nR X (compareOp .NotEq) (QW true X.K):=by
 intro pins s σ H x y v u Q I rx ry h
 obtain⟨d,e,hd,he,sd,se,q⟩:=h
 obtain⟨as,ra⟩:=j8 I hd rx
 obtain⟨bs,rb⟩:=j8 I he ry
 exact SeqAt.compareNe_shaped ra rb sd se hu ⟨.bl (!PyData.eqv d e),H,I,rfl,by simpa using q⟩
end
end L2
namespace L2
open PySem PySem.Spec PyProof.Rows
section
variable {X:Cx}
end
theorem iw {tt:TT} {A B r:TS} {D:Ends} {σ:St} {H:Hp} (Pm:St→Hp→Prop) (h:∀N:St→Hp→Prop,(∀σ' H',Pm σ' H'→N σ' H')→Ms tt A B { D with nx:=N } σ H) (hr:∀σ' H',Pm σ' H'→r D σ' H'):Qe (Ms tt A B) r D σ H:=h _ hr
section
variable {X:Cx} {pins:List (Addr×Obj)} {σ:St} {H:Hp} {s:Shared} {h':Heap}
theorem Inv.Ba {t':Nat} {ch:List Addr} {T:Addr} {o:HO} (I:Inv X pins σ H s) (k:∀b u,b∉ch→s.heap.get? b=some u→h'.get? b=some u) (hf:∀b∈ch,lA X pins H b)
  (hT:s.heap.objs.size≤T) (new:cq X.prog X.w (upd H T o) h' T o):Inv X pins σ (upd H T o) { s with heap:=h',toks:=t' }:=by
 have hn:=I.aS.fresh hT
 have EA:∀b u,H b=some u→b∉ch:=fun b u e z=>by rw[(hf b z).1] at e;cases e
 refine I.step (g':=s.gens) (d':=s.drawn) (ch:=ch) (fun b hb=>⟨(hf b hb).2.2.2.1,(hf b hb).2.1,(hf b hb).2.2.2.2.1,(hf b hb).2.2.2.2.2⟩)
  (fun b u _ _ hc e _=>k b u hc e) (fun b u _ _ hc e _=>⟨u.slots,k b u hc e⟩) (fun b u _ e n=>?_) (fun b u hc e=>⟨u,k b u hc e⟩)
  (fun b xs e=>by rw[ah (ag e hn)];exact e) (fun b u v e=>by rw[ah (ag e hn)];exact e) (fun b ps e=>⟨#[],by rw[ah (ag e hn),e];simp⟩) (fun m hm=>?_) (fun b u e=>?_) I.bare
 ·rw[ah (Nat.ne_of_lt (Nat.lt_of_lt_of_le (Heap.lt_size e) hT))];exact n
 ·obtain⟨u,es,ep,ho,r⟩:=hm
  exact⟨u,es,ep,k _ u (fun z=>(hf _ z).2.1 rfl) ho,r⟩
 ·by_cases hb:b=T
  ·subst hb;rw[af] at e;cases e;exact new
  ·rw[ah hb] at e
   refine(I.aS b u e).qj (fun c v hc q=>k c v ?_ q) (fun c q=>by rw[ah (ag q hn)];exact q) fun c xs q=>by rw[ah (ag q hn)];exact q
   rcases hc with z|z
   ·rw[z];exact EA b u e
   ·exact EA c _ z
theorem Inv.Bb {t':Nat} {ch:List Addr} (I:Inv X pins σ H s) (k:∀b u,b∉ch→s.heap.get? b=some u→h'.get? b=some u) (hf:∀b∈ch,lA X pins H b):Inv X pins σ H { s with heap:=h',toks:=t' }:=by
 have EA:∀b u,H b=some u→b∉ch:=fun b u e z=>by rw[(hf b z).1] at e;cases e
 refine I.step (g':=s.gens) (d':=s.drawn) (ch:=ch) (fun b hb=>⟨(hf b hb).2.2.2.1,(hf b hb).2.1,(hf b hb).2.2.2.2.1,(hf b hb).2.2.2.2.2⟩)
  (fun b u _ _ hc e _=>k b u hc e) (fun b u _ _ hc e _=>⟨u.slots,k b u hc e⟩) (fun b u _ e n=>n) (fun b u hc e=>⟨u,k b u hc e⟩)
  (fun b xs e=>e) (fun b u v e=>e) (fun b ps e=>⟨#[],by rw[e];simp⟩) (fun m hm=>?_) (fun b u e=>?_) I.bare
 ·obtain⟨u,es,ep,ho,r⟩:=hm
  exact⟨u,es,ep,k _ u (fun z=>(hf _ z).2.1 rfl) ho,r⟩
 ·refine(I.aS b u e).qj (fun c v hc q=>k c v ?_ q) (fun _ q=>q) fun _ _ q=>q
  rcases hc with z|z
  ·rw[z];exact EA b u e
  ·exact EA c _ z
end
theorem neN {m n:Nat} (h:m<n∨n<m):(m:Addr)≠n:=fun z=>by
 have:m=n:=z
 omega
theorem vt:bootBuiltins "enumerate" =some (.type "enumerate"):=by decide+kernel
theorem E7:bootBuiltins "abs" =some (.builtin "abs"):=by decide+kernel
def QX (K:PySem.W.Frag) (a:Addr):It:=
 ⟨fun i H=>∃xs x,b5 K H a xs∧xs[i]? =some x,
  fun i H v H'=>∃p x,H p=none∧H'=upd H p (.tup [.int i,x])∧v= .ref p∧∀xs,b5 K H a xs→xs[i]? =some x,
  fun i H=>∃xs,b5 K H a xs∧xs.length≤i⟩
theorem C3 {P:Program} {w:World} {K:PySem.W.Frag} {elts:List Expr} {x1} {sA:Pos} (l e it:Addr) (hei:e≠it):
  Turn P w K (.Tuple elts x1 sA) (QX K l) [e,it] e (fun i h=>(∃old,IsEnum h e it (i:Nat) old)∧h.IsListIter it l i) where
 mem:=by simp
 obj:=fun i h st b hb=>by
  obtain⟨⟨old,he⟩,⟨o1,e1,c1,d1⟩⟩:=st
  simp only [List.mem_cons,List.not_mem_nil,or_false] at hb
  rcases hb with q|q
  ·subst q;exact⟨_,he,fun v q=>by cases q⟩
  ·subst q;exact⟨o1,e1,fun v q=>by rw[d1] at q;cases q⟩
 keep:=fun i h h' st k=>by
  obtain⟨⟨old,he⟩,h1⟩:=st
  exact⟨⟨old,k e (by simp) _ he⟩,h1.at fun o q=>k it (by simp) o q⟩
 item:=by
  intro X hP hw hK hc i pins s σ H E I hf st hg
  subst hP hw hK
  obtain⟨xs,x,hq,hx⟩:=hg
  obtain⟨⟨old,he⟩,h1⟩:=st
  obtain⟨its,rv,p,Xm⟩:=I.list hq
  obtain⟨u,hu,ru⟩:=rv.get hx
  refine wpAny_pyNext_enum_item he h1 p.isList (x:=u) (by simpa using hu) hei fun h' a1 a2 a3 a4 hk=>⟨_,rfl,?_⟩
  refine wpAny_letOwnedTupleGo_enum (s:={ s with heap:=h',toks:=s.toks+1 }) a1 fun QY b1 b2=>?_
  have up:∀c o,c≠e→h'.get? c=some o→QY.get? c=some o:=fun c o n q=>b2.extBut _ _ n q
  have ne:∀{c:Addr} {o},s.heap.get? c=some o→s.heap.objs.size≠c:=fun q=>Nat.ne_of_gt (Heap.lt_size q)
  have j6:=up _ _ (ne he) a3
  have I1:Inv X pins σ (upd H s.heap.objs.size (.tup [.int i,x])) { s with heap:=QY,toks:=s.toks+1 }:=by
   refine I.Ba (ch:=[e,it]) (fun b o hb q=>?_) hf (Nat.le_refl _) ⟨by show 2≤sizeLine;decide,[.int i s.toks,u], .cons ⟨_,rfl⟩ (.cons ru .nil),⟨_,j6,rfl,_,rfl⟩⟩
   simp only [List.mem_cons,List.not_mem_nil,or_false,not_or] at hb
   exact up _ _ hb.1 (hk b o hb.1 hb.2 q)
  refine⟨.ref s.heap.objs.size,_,I1,rfl,⟨_,x,I.aS.fresh (Nat.le_refl _),rfl,rfl,fun zs hz=>by rw[I.xF hz hq];exact hx⟩,⟨⟨u,?_⟩,a2.at fun o q=>up _ _ (Ne.symm hei) q⟩,fun b hb=>?_⟩
  ·have e1:((i+1 :Nat):Int)=(i:Int)+1:=by push_cast;rfl
   rw[e1];exact b1
  ·rw[ah ?_]
   ·exact(hf b hb).1
   ·simp only [List.mem_cons,List.not_mem_nil,or_false] at hb
    obtain⟨o1,e1,_⟩:=h1
    rcases hb with q|q
    ·rw[q];exact Ne.symm (ne he)
    ·rw[q];exact Ne.symm (ne e1)
 done:=by
  intro X hP hw hK hc i pins s σ H E I hf st hg
  subst hP hw hK
  obtain⟨xs,hq,hl⟩:=hg
  obtain⟨⟨old,he⟩,h1⟩:=st
  obtain⟨its,rv,p,Xm⟩:=I.list hq
  have l1:=rv.length
  refine wpAny_pyNext_enum_end (I.ok.hd hc) he h1 p.isList (by simp;omega) fun h' hk=>⟨rfl,I.Bb (t':=s.toks) (ch:=[e,it]) (fun b o hb q=>?_) hf⟩
  simp only [List.mem_cons,List.not_mem_nil,or_false,not_or] at hb
  exact hk b o hb.2 q
 self:=fun _ _ _ _ _ st h=>by
  obtain⟨⟨old,he⟩,_⟩:=st
  exact wpAny_pyIter_enum he h
def QZ (K:PySem.W.Frag) (ta:TA):TI:=fun σ H R=>ta σ H fun vs H1=>∃a,vs=[.ref a]∧(∃xs,b5 K H1 a xs)∧R (QX K a) H1
theorem Bc {X:Cx} {elts:List Expr} {x1} {sA:Pos} {a:Expr} {ta:TA} {p pos:Pos} (hg:Gl X "enumerate") (hm:X.mg "enumerate" =none) (ha:PA X [a] ta) (hs:starEach [a] X.env=[(false,eval a X.env)]:=by rfl):
  PI X (.Tuple elts x1 sA) (.Call (.Name "enumerate" p) [a] [] pos) (QZ X.K ta):=by
 intro pins s σ H R I h
 refine Call_ (nQ I hg hm vt (PyProof.Rows.callWith_type1 (bZ (ha pos pins s σ H _ I h) fun us s1 ⟨vs,H1,I1,r1,q1⟩=>?_) hs rfl))
 obtain⟨l,e,⟨xs,hq⟩,q⟩:=q1
 subst e
 obtain⟨u,rfl,r⟩:=vals1 r1
 cases r
 obtain⟨its,rv,pl,Xm⟩:=I1.list hq
 refine call_enumerate_list pl.isList fun h' a1 a2 a3 hk=>wpAny_pyIter_enum (s:={ s1 with heap:=h' }) a1 ?_
 refine⟨_,[s1.heap.objs.size+1,s1.heap.objs.size],_,_,H1,rfl,I1.kept (t':=s1.toks) hk,C3 l (s1.heap.objs.size+1) s1.heap.objs.size (neN (by omega)),⟨⟨_,a1⟩,a2⟩,fun b hb=>?_,q⟩
 have C4:s1.heap.objs.size≤b:=by
  simp only [List.mem_cons,List.not_mem_nil,or_false] at hb
  rcases hb with e|e<;>rw[e]<;>first|exact Nat.le_refl _|exact Nat.le_add_right _ _
 exact I1.zE C4 (I1.aS.fresh C4)
end L2
namespace L2
open PySem PySem.Spec PyProof.Rows
section
variable {K:PySem.W.Frag} {g:TG} {tt:TT} {te:TE} {tb:TS} {D:Ends}
theorem Jd {J:It} {L:Addr} {Q:Hp→Prop} {σ:St} {H:Hp} (n:Nat) (H0:Hp) (S:St→Prop) (Pv:Nat→List V→Prop) (MT:∀i H',i<n→au H0 H'→J.go i H') (qJ:∀H',au H0 H'→J.stop n H')
  (zV:H0 L=none) (hσ:S σ) (h0:au H0 H) (hL:H L=some (.lst [])) (p0:Pv 0 []) (hz:n≤sizeLine) (hl:∀i ys,Pv i ys→ys.length≤i)
  (turn:∀i σ H' ys,i<n→S σ→au H0 H'→H' L=some (.lst ys)→Pv i ys→∀(N:St→V→Hp→Prop) (M:St→Hp→Prop),(∀σ3 y H5,S σ3→au H0 H5→H5 L=some (.lst ys)→Pv (i+1) (ys++[y])→N σ3 y H5)→
   ∀x H2,J.pE i H' x H2→g x σ H2 fun σ3 H3=>tt σ3 H3 fun b H4=>if b=true then te σ3 H4 fun y H5=>N σ3 y H5 else M σ3 H4)
  (fin:∀H' ys,au H0 H'→H' L=some (.lst ys)→Pv n ys→Q H'):
  ∃W:Nat→Nat→St→Hp→Prop,(∃m,W 0 m σ H)∧∀i m σ H,W i m σ H→(J.stop i H∧Q H)∨(J.go i H∧∀x H2,J.pE i H x H2→g x σ H2 fun σ3 H3=>tt σ3 H3 fun b H4=>if b=true
   then te σ3 H4 fun y H5=>∃ys,H5 L=some (.lst ys)∧ys.length<sizeLine∧∃m',m'<m∧W (i+1) m' σ3 (upd H5 L (.lst (ys++[y])))
   else∃m',m'<m∧W (i+1) m' σ3 H4):=by
 refine⟨fun i m σ H=>m+i=n∧S σ∧au H0 H∧∃ys,H L=some (.lst ys)∧Pv i ys,⟨n,rfl,hσ,h0,[],hL,p0⟩,?_⟩
 rintro i m σ H ⟨hm,hs,fu,ys,C5,hp⟩
 by_cases hi:i<n
 ·refine .inr ⟨MT i H hi fu,fun x H2 hy=>turn i σ H ys hi hs fu C5 hp _ _ (fun σ3 y H5 k1 k2 k3 k4=>?_) x H2 hy⟩
  refine⟨ys,k3,by have:=hl i ys hp;omega,m - 1,by omega,by omega,k1,fun b o e=>?_,ys++[y],af,k4⟩
  rw[ah (ag e zV)];exact k2 b o e
 ·have e:i=n:=by omega
  subst e
  exact .inl ⟨qJ H fu,fin H ys fu C5 hp⟩
theorem E8 {lo:Int} {n:Nat} {L:Addr} {Q:Hp→Prop} {σ:St} {H:Hp} (H0:Hp) (S:St→Prop) (Pv:Nat→List V→Prop)
  (zV:H0 L=none) (hσ:S σ) (h0:au H0 H) (hL:H L=some (.lst [])) (p0:Pv 0 []) (hz:n≤sizeLine) (hl:∀i ys,Pv i ys→ys.length≤i)
  (turn:∀i σ H' ys,i<n→S σ→au H0 H'→H' L=some (.lst ys)→Pv i ys→∀(N:St→V→Hp→Prop) (M:St→Hp→Prop),(∀σ3 y H5,S σ3→au H0 H5→H5 L=some (.lst ys)→Pv (i+1) (ys++[y])→N σ3 y H5)→
   g (.int (lo+i)) σ H' fun σ3 H3=>tt σ3 H3 fun b H4=>if b=true then te σ3 H4 fun y H5=>N σ3 y H5 else M σ3 H4)
  (fin:∀H' ys,au H0 H'→H' L=some (.lst ys)→Pv n ys→Q H'):
  ∃W:Nat→Nat→St→Hp→Prop,(∃m,W 0 m σ H)∧∀i m σ H,W i m σ H→((Ei lo n).stop i H∧Q H)∨((Ei lo n).go i H∧∀x H2,(Ei lo n).pE i H x H2→g x σ H2 fun σ3 H3=>tt σ3 H3 fun b H4=>if b=true
   then te σ3 H4 fun y H5=>∃ys,H5 L=some (.lst ys)∧ys.length<sizeLine∧∃m',m'<m∧W (i+1) m' σ3 (upd H5 L (.lst (ys++[y])))
   else∃m',m'<m∧W (i+1) m' σ3 H4):=
 Jd n H0 S Pv (fun i H' hi e=>hi) (fun H' e=>Nat.le_refl _) zV hσ h0 hL p0 hz hl
  (fun i σ H' ys hi hs e k p N M hN x H2 hy=>by
   obtain⟨rfl,rfl⟩:=hy
   exact turn i σ H2 ys hi hs e k p N M hN) fin
theorem xY {a:Addr} {xs:List V} {σ:St} {H:Hp} (Pv:Nat→St→Hp→Prop) (h0:Pv 0 σ H) (hl:∀i σ H,Pv i σ H→b5 K H a xs)
  (hs:∀i x p σ H,xs[i]? =some x→H p=none→Pv i σ H→g (.ref p) σ (upd H p (.tup [.int i,x])) fun σ2 H2=>tb { D with nx:=Pv (i+1),ct:=Pv (i+1),bk:=D.nx } σ2 H2) (hd:∀σ H,Pv xs.length σ H→D.nx σ H):
  ∃W:Nat→Nat→St→Hp→Prop,(∃m,W 0 m σ H)∧∀i m σ H,W i m σ H→
   ((QX K a).stop i H∧D.nx σ H)∨((QX K a).go i H∧∃N:St→Hp→Prop,(∀σ' H',N σ' H'→∃m',m'<m∧W (i+1) m' σ' H')∧∀x H',(QX K a).pE i H x H'→g x σ H' fun σ2 H2=>tb { D with nx:=N,ct:=N,bk:=D.nx } σ2 H2):=by
 refine⟨fun i m σ H=>m+i=xs.length∧Pv i σ H,⟨xs.length,rfl,h0⟩,?_⟩
 rintro i m σ H ⟨hm,p⟩
 have q1:=hl i σ H p
 by_cases sr:i<xs.length
 ·refine .inr ⟨⟨xs,xs[i],q1,List.getElem?_eq_getElem _⟩,Pv (i+1),fun σ' H' p'=>⟨m - 1,by omega,by omega,p'⟩,fun v H' hy=>?_⟩
  obtain⟨t,x,ht,rfl,rfl,hx⟩:=hy
  exact hs i x t σ H (hx xs q1) ht p
 ·have e:i=xs.length:=by omega
  subst e
  exact .inl ⟨⟨xs,q1,by omega⟩,hd σ H p⟩
end
end L2
namespace L2
open PySem PySem.Spec PyProof.Rows
section
variable {X:Cx} {pins:List (Addr×Obj)} {σ:St} {H:Hp} {s:Shared} {N:List Str} {fr:List (Option Nat)} {scope:Scope} {fp:List Addr}
end
section
variable {X:Cx} {elt tg iter:Expr} {ifs:List Expr} {scope:Scope} {pos MR py:Pos} {N:List Str} {fr:List (Option Nat)} {wi:TI} {g:TG} {tt:TT} {te:TE}
end
section
variable {X:Cx} {tg:Expr} (K:PySem.W.Frag)
end
end L2
namespace L2
open PySem PySem.Spec PyProof.Rows
def Le (L:Addr) (H H':Hp):Prop:=∀b o,H b=some o→b≠L→H' b=some o
theorem Le.upd {L:Addr} {H:Hp} {o:HO}:Le L H (upd H L o):=fun b u h n=>by rw[ah n];exact h
section
variable {K:PySem.W.Frag} {g:TG} {tt:TT} {te:TE}
theorem xZ {J:It} {L:Addr} {Q:Hp→Prop} {σ:St} {H:Hp} (n:Nat) (H0:Hp) (S:St→Prop) (Pv:Nat→List V→Hp→Prop) (MT:∀i H',i<n→au H0 H'→J.go i H') (qJ:∀H',au H0 H'→J.stop n H')
  (zW:∀i ys H H',Le L H H'→Pv i ys H→Pv i ys H')
  (zV:H0 L=none) (hσ:S σ) (h0:au H0 H) (hL:H L=some (.lst [])) (p0:Pv 0 [] H) (hz:n≤sizeLine) (hl:∀i ys H,Pv i ys H→ys.length≤i)
  (turn:∀i σ H' ys,i<n→S σ→au H0 H'→H' L=some (.lst ys)→Pv i ys H'→∀(N:St→V→Hp→Prop) (M:St→Hp→Prop),(∀σ3 y H5,S σ3→au H0 H5→H5 L=some (.lst ys)→Pv (i+1) (ys++[y]) H5→N σ3 y H5)→
   ∀x H2,J.pE i H' x H2→g x σ H2 fun σ3 H3=>tt σ3 H3 fun b H4=>if b=true then te σ3 H4 fun y H5=>N σ3 y H5 else M σ3 H4)
  (fin:∀H' ys,au H0 H'→H' L=some (.lst ys)→Pv n ys H'→Q H'):
  ∃W:Nat→Nat→St→Hp→Prop,(∃m,W 0 m σ H)∧∀i m σ H,W i m σ H→(J.stop i H∧Q H)∨(J.go i H∧∀x H2,J.pE i H x H2→g x σ H2 fun σ3 H3=>tt σ3 H3 fun b H4=>if b=true
   then te σ3 H4 fun y H5=>∃ys,H5 L=some (.lst ys)∧ys.length<sizeLine∧∃m',m'<m∧W (i+1) m' σ3 (upd H5 L (.lst (ys++[y])))
   else∃m',m'<m∧W (i+1) m' σ3 H4):=by
 refine⟨fun i m σ H=>m+i=n∧S σ∧au H0 H∧∃ys,H L=some (.lst ys)∧Pv i ys H,⟨n,rfl,hσ,h0,[],hL,p0⟩,?_⟩
 rintro i m σ H ⟨hm,hs,fu,ys,C5,hp⟩
 by_cases hi:i<n
 ·refine .inr ⟨MT i H hi fu,fun x H2 hy=>turn i σ H ys hi hs fu C5 hp _ _ (fun σ3 y H5 k1 k2 k3 k4=>?_) x H2 hy⟩
  refine⟨ys,k3,by have:=hl i ys H hp;omega,m - 1,by omega,by omega,k1,fun b o e=>?_,ys++[y],af,zW _ _ _ _ Le.upd k4⟩
  rw[ah (ag e zV)];exact k2 b o e
 ·have e:i=n:=by omega
  subst e
  exact .inl ⟨qJ H fu,fin H ys fu C5 hp⟩
theorem kL {a L:Addr} {xs:List V} {Q:Hp→Prop} {σ:St} {H:Hp} (H0:Hp) (S:St→Prop) (Pv:Nat→List V→Hp→Prop) (ha:b5 K H0 a xs) (zW:∀i ys H H',Le L H H'→Pv i ys H→Pv i ys H')
  (zV:H0 L=none) (hσ:S σ) (h0:au H0 H) (hL:H L=some (.lst [])) (p0:Pv 0 [] H) (hz:xs.length≤sizeLine) (hl:∀i ys H,Pv i ys H→ys.length≤i)
  (turn:∀i x σ H' ys,xs[i]? =some x→S σ→au H0 H'→H' L=some (.lst ys)→Pv i ys H'→∀(N:St→V→Hp→Prop) (M:St→Hp→Prop),(∀σ3 y H5,S σ3→au H0 H5→H5 L=some (.lst ys)→Pv (i+1) (ys++[y]) H5→N σ3 y H5)→
   g x σ H' fun σ3 H3=>tt σ3 H3 fun b H4=>if b=true then te σ3 H4 fun y H5=>N σ3 y H5 else M σ3 H4)
  (fin:∀H' ys,au H0 H'→H' L=some (.lst ys)→Pv xs.length ys H'→Q H'):
  ∃W:Nat→Nat→St→Hp→Prop,(∃m,W 0 m σ H)∧∀i m σ H,W i m σ H→((AZ K a).stop i H∧Q H)∨((AZ K a).go i H∧∀x H2,(AZ K a).pE i H x H2→g x σ H2 fun σ3 H3=>tt σ3 H3 fun b H4=>if b=true
   then te σ3 H4 fun y H5=>∃ys,H5 L=some (.lst ys)∧ys.length<sizeLine∧∃m',m'<m∧W (i+1) m' σ3 (upd H5 L (.lst (ys++[y])))
   else∃m',m'<m∧W (i+1) m' σ3 H4):=
 xZ xs.length H0 S Pv (fun i H' hi e=>⟨xs,xs[i],e.seq ha,List.getElem?_eq_getElem hi⟩) (fun H' e=>⟨xs,e.seq ha,Nat.le_refl _⟩) zW zV hσ h0 hL p0 hz hl
  (fun i σ H' ys _ hs e k p N M hN x H2 hy=>by
   obtain⟨rfl,hx⟩:=hy
   exact turn i x σ H2 ys (hx xs (e.seq ha)) hs e k p N M hN) fin
theorem C6 {lo:Int} {n:Nat} {L:Addr} {Q:Hp→Prop} {σ:St} {H:Hp} (H0:Hp) (S:St→Prop) (Pv:Nat→List V→Hp→Prop) (zW:∀i ys H H',Le L H H'→Pv i ys H→Pv i ys H')
  (zV:H0 L=none) (hσ:S σ) (h0:au H0 H) (hL:H L=some (.lst [])) (p0:Pv 0 [] H) (hz:n≤sizeLine) (hl:∀i ys H,Pv i ys H→ys.length≤i)
  (turn:∀i σ H' ys,i<n→S σ→au H0 H'→H' L=some (.lst ys)→Pv i ys H'→∀(N:St→V→Hp→Prop) (M:St→Hp→Prop),(∀σ3 y H5,S σ3→au H0 H5→H5 L=some (.lst ys)→Pv (i+1) (ys++[y]) H5→N σ3 y H5)→
   g (.int (lo+i)) σ H' fun σ3 H3=>tt σ3 H3 fun b H4=>if b=true then te σ3 H4 fun y H5=>N σ3 y H5 else M σ3 H4)
  (fin:∀H' ys,au H0 H'→H' L=some (.lst ys)→Pv n ys H'→Q H'):
  ∃W:Nat→Nat→St→Hp→Prop,(∃m,W 0 m σ H)∧∀i m σ H,W i m σ H→((Ei lo n).stop i H∧Q H)∨((Ei lo n).go i H∧∀x H2,(Ei lo n).pE i H x H2→g x σ H2 fun σ3 H3=>tt σ3 H3 fun b H4=>if b=true
   then te σ3 H4 fun y H5=>∃ys,H5 L=some (.lst ys)∧ys.length<sizeLine∧∃m',m'<m∧W (i+1) m' σ3 (upd H5 L (.lst (ys++[y])))
   else∃m',m'<m∧W (i+1) m' σ3 H4):=
 xZ n H0 S Pv (fun i H' hi e=>hi) (fun H' e=>Nat.le_refl _) zW zV hσ h0 hL p0 hz hl
  (fun i σ H' ys hi hs e k p N M hN x H2 hy=>by
   obtain⟨rfl,rfl⟩:=hy
   exact turn i σ H2 ys hi hs e k p N M hN) fin
end
mutual
theorem mw:∀d:PyData,d.canLay0=true→PyData.eqv d d=true
 | .none,_=>by simp [PyData.eqv]
 | .bool _,_=>by simp [PyData.eqv]
 | .int _,_=>by simp [PyData.eqv]
 | .str _,_=>by simp [PyData.eqv]
 | .list xs,h=>by rw[PyData.eqv];exact j' xs (by simpa [PyData.canLay0] using h)
 | .tuple xs,h=>by rw[PyData.eqv];exact j' xs (by simpa [PyData.canLay0] using h)
 | .dict _,h=>by simp [PyData.canLay0] at h
theorem j':∀xs:List PyData,PyData.canLayAll0 xs=true→PyData.eqvAll xs xs=true
 | [],_=>by simp [PyData.eqvAll]
 |x::xs,h=>by
  have h':x.canLay0=true∧PyData.canLayAll0 xs=true:=by simpa [PyData.canLayAll0] using h
  rw[PyData.eqvAll,mw x h'.1,j' xs h'.2];rfl
end
theorem qK {α:Type} (f:α→PyData):∀l:List α,(∀x∈l,(f x).canLay0=true)→PyData.canLayAll0 (l.map f)=true
 | [],_=>by simp [PyData.canLayAll0]
 |x::l,h=>by
  rw[List.map_cons,PyData.canLayAll0,h x (List.mem_cons_self ..),qK f l fun y hy=>h y (List.mem_cons_of_mem _ hy)];rfl
theorem n5 {d:PyData} (h1:d.canLay0=true) (h2:d.depth≤64):SeqAt.shaped d=true:=by
 unfold SeqAt.shaped;rw[h1,decide_eq_true h2];rfl
section
variable {X:Cx} (K:PySem.W.Frag)
end
end L2
namespace L2
open PySem PySem.Spec PyProof.Rows
section
variable {K:PySem.W.Frag} {g:TG} {tt:TT} {te:TE}
end
end L2
namespace L2
open PySem PySem.Spec PyProof.Rows
theorem tD:bootBuiltins "sorted" =some (.builtin "sorted"):=by decide+kernel
section
variable {X:Cx}
end
end L2
namespace L2
open PySem PySem.Spec PyProof.Rows
section
variable {X:Cx}
end
end L2
namespace L2
open PySem PySem.Spec PyProof.Rows PySem.W
section
variable {O:KeyOrd} {k:Nat→O.α} {n:Nat} {I:Shared→Prop} {cmp:Nat→Nat→(Bool→Shared→Prop)→Shared→Prop}
end
end L2
namespace PySem.SeqAt
open AutoSeq1 (wpAny_loadPart')
open MeetsSeq MeetsSeq2 MeetsSeq3
def Je (e c:Nat→Bool):List Nat→Bool
 | []=>false
 |j::r=>if e j=true then Je e c r else c j
end PySem.SeqAt
namespace L2
open PySem PySem.Spec PyProof.Rows PySem.SeqAt PySem.W
@[reducible] def YS:KeyOrd where
  α:=List Int
  blt a b:=decide (a<b)
  irrefl a:=by simp
  trans a b c h1 h2:=by simp only [decide_eq_true_eq] at*;exact List.lt_trans h1 h2
  negTrans a b c h:=by
   simp only [decide_eq_true_eq] at*
   by_cases MU:a<b
   ·exact .inl MU
   ·exact .inr (List.lt_of_le_of_lt (List.not_lt.mp MU) h)
  total a b h1 h2:=by simp only [decide_eq_false_iff_not] at*;exact List.le_antisymm (List.not_lt.mp h2) (List.not_lt.mp h1)
theorem Jf:∀(xs ys:List Int) (d:Nat) (f g:Nat→Int),xs.length=ys.length→(∀j,j<xs.length→f (d+j)=xs.getD j 0)→(∀j,j<xs.length→g (d+j)=ys.getD j 0)→
  Je (fun j=>f j==g j) (fun j=>decide (f j<g j)) (List.range' d xs.length)=decide (xs<ys)
 | [],[],d,f,g,_,_,_=>by simp [Je]
 |x::xs,y::ys,d,f,g,hl,hf,hg=>by
  have h0:=hf 0 (by simp)
  have g0:=hg 0 (by simp)
  simp at h0 g0
  have ih:=Jf xs ys (d+1) f g (by simpa using hl) (fun j hj=>by
   have:=hf (j+1) (by simp;omega)
   rw[show d+1+j=d+(j+1) by omega,this];simp) (fun j hj=>by
   have:=hg (j+1) (by simp;omega)
   rw[show d+1+j=d+(j+1) by omega,this];simp)
  rw[List.length_cons,List.range'_succ,Je,ih,h0,g0]
  by_cases e:x=y
  ·subst e
   rw[if_pos (by simp)]
   simp [List.cons_lt_cons_iff]
  ·rw[if_neg (by simpa using e)]
   simp [List.cons_lt_cons_iff,e]
section
variable {prog:Program} {w:World} {A:Around} {E:Value→Shared→Prop} {s:Shared}
end
section
variable {X:Cx}
end
end L2
namespace L2
open PySem PySem.Spec PyProof.Rows
theorem MV:bootBuiltins "min" =some (.builtin "min"):=by decide+kernel
section
variable {X:Cx}
end
end L2
namespace L2
open PySem PySem.Spec PyProof.Rows
section
variable {K:PySem.W.Frag} {g:TG} {tt:TT} {te:TE}
theorem E9 {J:It} {L:Addr} {Q:Hp→Prop} {σ:St} {H:Hp} (n:Nat) (H0:Hp) (S:St→Prop) (Pv:Nat→List V→Prop) (MT:∀i H',i<n→au H0 H'→J.go i H') (qJ:∀H',au H0 H'→J.stop n H')
  (zV:H0 L=none) (hσ:S σ) (h0:au H0 H) (hL:H L=some (.lst [])) (p0:Pv 0 []) (hz:n≤sizeLine) (hl:∀i ys,Pv i ys→ys.length≤i)
  (turn:∀i σ H' ys,i<n→S σ→au H0 H'→H' L=some (.lst ys)→Pv i ys→∀(N:St→V→Hp→Prop) (M:St→Hp→Prop),(∀σ3 y H5,S σ3→au H0 H5→H5 L=some (.lst ys)→Pv (i+1) (ys++[y])→N σ3 y H5)→(∀σ3 H4,S σ3→au H0 H4→H4 L=some (.lst ys)→Pv (i+1) ys→M σ3 H4)→
   ∀x H2,J.pE i H' x H2→g x σ H2 fun σ3 H3=>tt σ3 H3 fun b H4=>if b=true then te σ3 H4 fun y H5=>N σ3 y H5 else M σ3 H4)
  (fin:∀H' ys,au H0 H'→H' L=some (.lst ys)→Pv n ys→Q H'):
  ∃W:Nat→Nat→St→Hp→Prop,(∃m,W 0 m σ H)∧∀i m σ H,W i m σ H→(J.stop i H∧Q H)∨(J.go i H∧∀x H2,J.pE i H x H2→g x σ H2 fun σ3 H3=>tt σ3 H3 fun b H4=>if b=true
   then te σ3 H4 fun y H5=>∃ys,H5 L=some (.lst ys)∧ys.length<sizeLine∧∃m',m'<m∧W (i+1) m' σ3 (upd H5 L (.lst (ys++[y])))
   else∃m',m'<m∧W (i+1) m' σ3 H4):=by
 refine⟨fun i m σ H=>m+i=n∧S σ∧au H0 H∧∃ys,H L=some (.lst ys)∧Pv i ys,⟨n,rfl,hσ,h0,[],hL,p0⟩,?_⟩
 rintro i m σ H ⟨hm,hs,fu,ys,C5,hp⟩
 by_cases hi:i<n
 ·refine .inr ⟨MT i H hi fu,fun x H2 hy=>turn i σ H ys hi hs fu C5 hp _ _ (fun σ3 y H5 k1 k2 k3 k4=>?_) (fun σ3 H4 k1 k2 k3 k4=>?_) x H2 hy⟩
  ·refine⟨ys,k3,by have:=hl i ys hp;omega,m - 1,by omega,by omega,k1,fun b o e=>?_,ys++[y],af,k4⟩
   rw[ah (ag e zV)];exact k2 b o e
  ·exact⟨m - 1,by omega,by omega,k1,k2,ys,k3,k4⟩
 ·have e:i=n:=by omega
  subst e
  exact .inl ⟨qJ H fu,fin H ys fu C5 hp⟩
theorem tE {a L:Addr} {xs:List V} {Q:Hp→Prop} {σ:St} {H:Hp} (H0:Hp) (S:St→Prop) (Pv:Nat→List V→Prop) (ha:b5 K H0 a xs)
  (zV:H0 L=none) (hσ:S σ) (h0:au H0 H) (hL:H L=some (.lst [])) (p0:Pv 0 []) (hz:xs.length≤sizeLine) (hl:∀i ys,Pv i ys→ys.length≤i)
  (turn:∀i x σ H' ys,xs[i]? =some x→S σ→au H0 H'→H' L=some (.lst ys)→Pv i ys→∀(N:St→V→Hp→Prop) (M:St→Hp→Prop),(∀σ3 y H5,S σ3→au H0 H5→H5 L=some (.lst ys)→Pv (i+1) (ys++[y])→N σ3 y H5)→(∀σ3 H4,S σ3→au H0 H4→H4 L=some (.lst ys)→Pv (i+1) ys→M σ3 H4)→
   g x σ H' fun σ3 H3=>tt σ3 H3 fun b H4=>if b=true then te σ3 H4 fun y H5=>N σ3 y H5 else M σ3 H4)
  (fin:∀H' ys,au H0 H'→H' L=some (.lst ys)→Pv xs.length ys→Q H'):
  ∃W:Nat→Nat→St→Hp→Prop,(∃m,W 0 m σ H)∧∀i m σ H,W i m σ H→((AZ K a).stop i H∧Q H)∨((AZ K a).go i H∧∀x H2,(AZ K a).pE i H x H2→g x σ H2 fun σ3 H3=>tt σ3 H3 fun b H4=>if b=true
   then te σ3 H4 fun y H5=>∃ys,H5 L=some (.lst ys)∧ys.length<sizeLine∧∃m',m'<m∧W (i+1) m' σ3 (upd H5 L (.lst (ys++[y])))
   else∃m',m'<m∧W (i+1) m' σ3 H4):=
 E9 xs.length H0 S Pv (fun i H' hi e=>⟨xs,xs[i],e.seq ha,List.getElem?_eq_getElem hi⟩) (fun H' e=>⟨xs,e.seq ha,Nat.le_refl _⟩) zV hσ h0 hL p0 hz hl
  (fun i σ H' ys _ hs e k p N M hN hM x H2 hy=>by
   obtain⟨rfl,hx⟩:=hy
   exact turn i x σ H2 ys (hx xs (e.seq ha)) hs e k p N M hN hM) fin
end
section
variable {X:Cx}
end
end L2
namespace L2
open PySem PySem.Spec PyProof.Rows
section
variable {K:PySem.W.Frag} {g:TG} {tt:TT} {te:TE}
end
section
variable {X:Cx}
end
end L2
namespace PySem.W
open PySem PySem.Calls PyProof.Rows PyProof.V PySem.Spec
section
variable {prog:Program} {w:World} {A:Around} {E:Value→Shared→Prop} {s:Shared} {T:String} {r d:Addr} {n:Nat} {P:Nat→Value→Prop} {OK:Heap→Prop}
theorem zX {G:List Value→Shared→Prop} (S:KdlSrc prog w T r d n P OK) (hd:A.handled=none) (ok:OK s.heap) (small:n≤sizeLine)
  (q:∀(g:Heap) (k:Nat) (xs:Array Value),(∀b o,s.heap.get? b=some o→g.get? b=some o)→s.heap.objs.size<g.objs.size→ItemsOf P xs n→G xs.toList { s with heap:=g,toks:=k }):
  wpAny (model prog w) A (collect (.ref r)) G E s:=by
 obtain⟨lr,ld⟩:=S.there _ ok
 unfold collect;refine wpAny_bind (wpAny_runValue (codeAny_builtin entry_proto_collect' ?_));rw[Around.under_plainId PySem.F.plain_proto_collect _]
 show wpAny _ A.in1 (newList [] >>= fun y=>again (.builtin "list.__iadd__" ⟨[y, .ref r],[]⟩)) _ _ s
 refine wpAny_bind (wpAny_newObj_type (wpAny_pure ⟨plainId_quiet PySem.F.plain_list_iadd _,codeAny_builtin entry_list_iadd' ?_⟩))
 rw[Around.under_plainId PySem.F.plain_list_iadd _];show wpAny _ A.in1 (Builtin.List.listExtendWith (.ref s.heap.objs.size) (.ref r) (.ref s.heap.objs.size)) _ _ _
 have told:=kdl_extend (A:=A) (s:={ s with heap:=s.heap.push { cls:= .type "list",data:= .seq ([]:List Value).toArray } })
  (R:=fun z s1=>∃(g:Heap) (k:Nat) (xs:Array Value) (c:Nat),z= .ok (.ret (.ref s.heap.objs.size))∧s1={ s with heap:=g,toks:=k }∧(∀b o,s.heap.get? b=some o→g.get? b=some o)∧
   g.get? s.heap.objs.size=some { cls:= .type "list",dict:=none,data:= .seq xs c,slots:=#[] }∧ItemsOf P xs n) S hd (S.keep _ _ ok fun b _ o e=>Heap.get?_push_of_some _ e) s.heap.objs.size (Nat.ne_of_gt lr) (Nat.ne_of_gt ld)
  (.ref s.heap.objs.size) 0 (Heap.get?_push_size _ rfl) (fun g k xs c kp at' its=>⟨g,k,xs,c,rfl,rfl,fun b o e=>kp b o (Nat.ne_of_lt (Heap.lt_size e)) (Heap.get?_push_of_some _ e),at',its⟩) small
 refine wpAny_mono told (fun z s1 y=>?_) fun z s1 y=>?_
 ·cases z with
  |done f=>obtain⟨g,k,xs,c,e,rfl,kp,at',its⟩:=y;cases e;exact wpAny_bind (wpAny_load at' (wpAny_pure (q g k xs kp (Heap.lt_size at') its)))
  |again c0=>
   refine⟨y.1,codeAny_mono y.2 fun z1 s2 y2=>?_⟩
   obtain⟨g,k,xs,c,rfl,rfl,kp,at',its⟩:=y2;exact wpAny_bind (wpAny_load at' (wpAny_pure (q g k xs kp (Heap.lt_size at') its)))
 ·obtain⟨_,_,_,_,e,_⟩:=y;cases e
end
end PySem.W
namespace L2
open PySem PySem.Spec PyProof.Rows PySem.W
section
variable {X:Cx}
theorem zY:∀{us:List Value} {ss:List Str},StrsAre us ss→Vals (ss.map V.str) us:=by
 intro us ss h
 induction h with
 |nil=>exact .nil
 |cons=>exact .cons ⟨_,rfl⟩ (by assumption)
theorem mx {P:Program} {w:World}:∀{us:List Value} {ks:List Str},us.length=ks.length→(∀(j:Nat) (k:Str) (u:Value),ks[j]? =some k→us[j]? =some u→(bE P w).is (Sum.inr k) u=true)→StrsAre us ks
 | [],[],_,_=> .nil
 | [],_::_,h,_=>by simp at h
 |_::_,[],h,_=>by simp at h
 |u::us,k::ks,h,q=>by
  have hu:=q 0 k u rfl rfl
  rw[qi] at hu
  rcases cp hu with ⟨i,t,e,_⟩ | ⟨x,t,e,rfl⟩
  ·cases e
  ·cases e
   exact .cons _ _ (mx (by simpa using h) fun j k' u' h1 h2=>q (j+1) k' u' (by simpa using h1) (by simpa using h2))
end
end L2
namespace L2
open PySem PySem.Spec PyProof.Rows
section
variable {X:Cx}
end
end L2
namespace L2
open PySem PySem.Spec PyProof.Rows
section
variable {X:Cx}
theorem gQ:nR X (compareOp .LtE) (fun x y H Q=>∃i j,x= .str i∧y= .str j∧Q (.bl (!decide (j.cps.toList<i.cps.toList))) H):=by
 intro pins s σ H x y v u Q I rx ry h
 obtain⟨i,j,rfl,rfl,q⟩:=h
 obtain⟨t,rfl⟩:=(show∃t,v=Value.str i t from rx)
 obtain⟨t',rfl⟩:=(show∃t,u=Value.str j t from ry)
 exact PySem.P.le_str ⟨.bl _,H,I,rfl,q⟩
theorem C7:gy X (.type "int") (fun xs H Q=>∃x n,xs=[.str x]∧PySem.intText? x=some n∧x.length≤640∧Q (.int n) H):=by
 intro pins s σ H xs us Q I r h
 obtain⟨x,n,rfl,hn,hl,q⟩:=h
 obtain⟨u,rfl,ru⟩:=vals1 r
 obtain⟨t,rfl⟩:=(show∃t,u=Value.str x t from ru)
 exact PySem.W.KIN.call_text hn hl ⟨.int n,H,I.tok _,⟨_,rfl⟩,q⟩
def YT:V→Option Int→Option Int→Hp→VK→Prop:=fun x lo hi H Q=>∃y,x= .str y∧y.length≤sizeLine∧Q (.str (Txt.slice y lo hi)) H
theorem vw:SlR X YT:=by
 intro pins s σ H x v vl vu lo hi sl Q I rx hs pl pu h
 obtain⟨y,rfl,hz,q⟩:=h
 obtain⟨t,rfl⟩:=(show∃t,v=Value.str y t from rx)
 refine⟨"str",_,F.slot_str_getitem.lookup,typeIs_str _ _ _,?_⟩
 cases pl with
 |none=>cases pu with
  |none=>exact wpAny_getItem_str_slice (l:=none) (u:=none) (st:=none) hs rfl (post_val_or_str ⟨Nat.le_trans (Txt.slice_le y _ _) hz,fun t' k=>⟨.str _,H,I.tok k,⟨t',rfl⟩,q⟩⟩)
  |int j uj=>exact wpAny_getItem_str_slice (l:=none) (u:=some (j,uj)) (st:=none) hs rfl (post_val_or_str ⟨Nat.le_trans (Txt.slice_le y _ _) hz,fun t' k=>⟨.str _,H,I.tok k,⟨t',rfl⟩,q⟩⟩)
 |int i ui=>cases pu with
  |none=>exact wpAny_getItem_str_slice (l:=some (i,ui)) (u:=none) (st:=none) hs rfl (post_val_or_str ⟨Nat.le_trans (Txt.slice_le y _ _) hz,fun t' k=>⟨.str _,H,I.tok k,⟨t',rfl⟩,q⟩⟩)
  |int j uj=>exact wpAny_getItem_str_slice (l:=some (i,ui)) (u:=some (j,uj)) (st:=none) hs rfl (post_val_or_str ⟨Nat.le_trans (Txt.slice_le y _ _) hz,fun t' k=>⟨.str _,H,I.tok k,⟨t',rfl⟩,q⟩⟩)
end
def Q0 (x:Str):It:=⟨fun i _=>i<x.length,fun i H v H'=>H'=H∧∃c,x.cps[i]? =some c∧v= .str ⟨#[c]⟩,fun i _=>x.length≤i⟩
theorem Fb {P:Program} {w:World} {K:PySem.W.Frag} {tg:Expr} (it:Addr) (x:Str) (t:Tok):
  Turn P w K tg (Q0 x) [it] it (fun i h=>h.IsStrIter it "str_ascii_iterator" x t i) where
 mem:=by simp
 obj:=fun i h st b hb=>by
  have e:b=it:=by simpa using hb
  subst e
  obtain⟨o,e,c,d⟩:=st
  exact⟨o,e,fun v z=>by rw[d] at z;cases z⟩
 keep:=fun i h h' st k=>let ⟨o,ho,r⟩:=st;⟨o,k it (by simp) o ho,r⟩
 item:=by
  intro X hP hw hK hc i pins s σ H E I hf st hg
  subst hP hw hK
  have hg:i<x.cps.size:=hg
  obtain⟨f0,f1,f2,f3,f4,f5⟩:=hf it (by simp)
  refine wpAny_pyNext_ascii_item st (Array.getElem?_eq_getElem hg) fun h' A0 sb=>?_
  have I1:Inv X pins σ H { s with heap:=h',toks:=s.toks+1 }:=I.turned (t':=s.toks+1) (fun b o hb e=>(sb.2 b hb).trans e) f0 f1 f3 f4 f5
  obtain⟨oi,e,c,d⟩:=id A0
  exact⟨_,rfl,AY (s:={ s with heap:=h',toks:=s.toks+1 }) e c d (by decide) ⟨.str ⟨#[x.cps[i]]⟩,H,I1,⟨_,rfl⟩,⟨rfl,_,Array.getElem?_eq_getElem hg,rfl⟩,A0,fun b hb=>(hf b hb).1⟩⟩
 done:=by
  intro X hP hw hK hc i pins s σ H E I hf st hg
  subst hP hw hK
  have hg:x.cps.size≤i:=hg
  obtain⟨f0,f1,f2,f3,f4,f5⟩:=hf it (by simp)
  exact wpAny_pyNext_ascii_end (I.ok.hd hc) st (Array.getElem?_eq_none hg) fun h' eb=>⟨rfl,I.turned (t':=s.toks) (fun b o hb e=>eb b o hb e) f0 f1 f3 f4 f5⟩
 self:=fun _ _ _ _ _ st h=>wpAny_pyIter_striter_ascii st h
section
variable {X:Cx} {tg:Expr}
def YU (tl:TE):TI:=fun σ H R=>tl σ H fun v H1=>∃x,v= .str x∧x.cps.all (· <128)=true∧R (Q0 x) H1
theorem MW {l:Expr} {tl:TE} (hl:PE X l tl):PI X tg l (YU tl):=by
 intro pins s σ H R I h
 refine bZ (hl pins s σ H _ I h) fun v s1 ⟨y,H1,I1,r1,x,e,ha,q⟩=>?_
 subst e
 obtain⟨t,rfl⟩:=(show∃t,v=Value.str x t from r1)
 refine wpAny_pyIter_ascii ha ?_
 refine⟨s1.heap.objs.size,[s1.heap.objs.size],_,_,_,rfl,I1.kept (t':=s1.toks) fun b o e=>Heap.get?_push_of_some _ e,Fb _ x t,?_,fun b hb=>?_,q⟩
 ·exact⟨_,Heap.get?_push_size _ rfl,rfl,rfl⟩
 ·have e:b=s1.heap.objs.size:=by simpa using hb
  subst e
  exact I1.zE (Nat.le_refl _) (I1.aS.fresh (Nat.le_refl _))
end
theorem Jg {x:Str} {g:TG} {tb:TS} {D:Ends} {σ:St} {H:Hp} (Pv:Nat→St→Hp→Prop) (h0:Pv 0 σ H)
  (hs:∀i c σ H,x.cps[i]? =some c→Pv i σ H→g (.str ⟨#[c]⟩) σ H fun σ2 H2=>tb { D with nx:=Pv (i+1),ct:=Pv (i+1),bk:=D.nx } σ2 H2) (hd:∀σ H,Pv x.length σ H→D.nx σ H):
  ∃W:Nat→Nat→St→Hp→Prop,(∃m,W 0 m σ H)∧∀i m σ H,W i m σ H→
   ((Q0 x).stop i H∧D.nx σ H)∨((Q0 x).go i H∧∃N:St→Hp→Prop,(∀σ' H',N σ' H'→∃m',m'<m∧W (i+1) m' σ' H')∧∀v H',(Q0 x).pE i H v H'→g v σ H' fun σ2 H2=>tb { D with nx:=N,ct:=N,bk:=D.nx } σ2 H2):=by
 refine⟨fun i m σ H=>m+i=x.length∧Pv i σ H,⟨x.length,rfl,h0⟩,?_⟩
 rintro i m σ H ⟨hm,p⟩
 by_cases hi:i<x.length
 ·refine .inr ⟨hi,Pv (i+1),fun σ' H' q=>⟨m - 1,by omega,by omega,q⟩,?_⟩
  rintro v H' ⟨rfl,c,hc,rfl⟩
  exact hs i c σ _ hc p
 ·have e:i=x.length:=by omega
  subst e
  exact .inl ⟨Nat.le_refl _,hd σ H p⟩
end L2
namespace L2
open PySem PySem.Spec PyProof.Rows
section
variable {X:Cx}
theorem Bd (K:PySem.W.Frag) (hK:X.K=K):QI X (QJ K):=by subst hK;exact gW
end
end L2
namespace PySem.W
open PySem PySem.Calls PyProof.Rows PyProof.V PySem.Spec
section
variable {prog:Program} {w:World} {A:Around} {E:Value→Shared→Prop} {s:Shared} {T:String} {r d:Addr} {n:Nat} {P:Nat→Value→Prop} {OK:Heap→Prop}
theorem x2 {ss:List Str} {Q:Value→Shared→Prop} (S:KdlSrc prog w T r d n P OK) (hd:A.handled=none) (ok:OK s.heap) (hn:n<64) (hs:∀xs:Array Value,ItemsOf P xs n→StrsAre xs.toList ss)
  (q:∀(g:Heap) (k:Nat) (a:Addr) (out:Array Value) (Lf:List Str) (e:Nat),(∀b o,s.heap.get? b=some o→g.get? b=some o)→s.heap.objs.size≤a→g.get? a=some (seqObj "list" out e)→StrsAre out.toList Lf→Lf.Perm ss→sortedS Lf=true→Q (.ref a) { s with heap:=g,toks:=k }):
  wpAny (model prog w) A (call (.builtin "sorted") [.ref r]) Q E s:=by
 refine Calls.call_function_entry kind_sorted plain_sorted entry_sorted (args_sorted1 _) ?_
 unfold Builtin.«sorted»;refine wpAny_bind (m:=checkCount "sorted" 1 1 _) (wpAny_pure ?_)
 have big:(64 :Nat)≤sizeLine:=by decide
 refine wpAny_bind (zX (A:=A.in1) S hd ok (by omega) fun g k xs kp lt its=>?_)
 have hS:=hs xs its
 have hl:xs.toList.length=n:=by rw[Array.length_toList];exact its.1
 refine wpAny_bind (wpAny_newList ?_ (by rw[hl];omega))
 have Pu:(g.push (seqObj "list" xs.toList.toArray 0)).get? g.objs.size=some (seqObj "list" xs.toList.toArray 0):=Heap.get?_push_size _ rfl
 refine wpAny_bind (wpAny_holding (wpAny_call_entry slot_list_sort ⟨_,Pu,rfl⟩ entry_list_sort (list_sort_treeK strKind_oneLt Pu hS.keysOf (fun v₁ v₂ rest e=>keyKind_strs (by rw[←e];exact hS)) (by omega) fun A0 a1 a2=>⟨_,rfl,?_⟩) (args_list_sort _)))
 obtain⟨Lf,h1,h2,h3⟩:=sorted_out_str hS a1 a2
 obtain⟨e,he⟩:=sortedHeap_at (out:=(arrOf A0).map (·.2)) Pu
 refine wpAny_pure ⟨_,rfl,q _ k g.objs.size _ Lf e (fun b o z=>?_) (by omega) he h1 h2 h3⟩
 have hb:=kp b o z
 have sr:=Heap.lt_size hb
 rw[sortedHeap_old (Nat.ne_of_lt sr) (by rw[size_push'];exact Nat.lt_succ_of_lt sr),Heap.get?_push_ne _ _ _ (Nat.ne_of_lt sr)]
 exact hb
end
end PySem.W
namespace L2
open PySem PySem.Spec PyProof.Rows PySem.W
section
variable {X:Cx}
theorem mz (hc:X.calm=true):gy X (.builtin "sorted") (fun xs H Q=>∃p kvs,∃ks:List Str,xs=[.ref p]∧Rd H p (.dK kvs)∧kvs.map (·.1)=ks.map Sum.inr∧ks.length<64∧∀(l:Addr) (ms:List Str),ms.Perm ks→sortedS ms=true→H l=none→Q (.ref l) (upd H l (.lst (ms.map V.str)))):=by
 intro pins s σ H xs us Q I r h
 obtain⟨p,kvs,ks,rfl,hk,xv,h64,q⟩:=h
 obtain⟨u,rfl,ru⟩:=vals1 r
 cases ru
 obtain⟨z,lo,vs,rel,dd⟩:=mj I.aS hk
 obtain⟨ep,da⟩:=dd.dictAt
 have hlen:vs.length=ks.length:=by
  have:=congrArg List.length xv
  rw[List.length_map,List.length_map] at this
  rw[←rel.length];exact this
 have key:∀(j:Nat) (k:Key) (x:Value),vs[j]? =some (k,x)→(ks[j]?).map Sum.inr=some k:=fun j k x e=>by
  have h1:(kvs.map (·.1))[j]? =some k:=by rw[rel.keys,List.getElem?_map,e];rfl
  rw[xv,List.getElem?_map] at h1
  exact h1
 refine x2 (ss:=ks) (kdl_dict (knd:=bE X.prog X.w) (kvs:=vs) (ep:=ep) lo) (I.ok.hd hc) da (by omega) (fun ar its=>?_) fun g k a out Lf e kp le hg h1 h2 h3=>?_
 ·refine mx (P:=X.prog) (w:=X.w) (by rw[Array.length_toList,its.1,hlen]) fun j k u h1 h2=>?_
  obtain⟨k',x,h3,h4⟩:=its.2 j u (by simpa using h2)
  have h5:=key j k' x h3
  rw[h1] at h5
  cases h5
  exact h4
 ·refine⟨.ref a,_,I.laid (t':=k) (o:= .lst (Lf.map V.str)) kp le ⟨?_,out.toList,e,zY h1,?_⟩,rfl,q _ Lf h2 h3 (I.aS.fresh le)⟩
  ·rw[List.length_map,h2.length_eq]
   have big:(64 :Nat)≤sizeLine:=by decide
   omega
  ·rw[hg]
end
section
variable {X:Cx} {pins:List (Addr×Obj)} {σ:St} {H:Hp} {s:Shared} {a b:Addr} {kvs more:List (Key×V)} {A:Around} {E:Value→Shared→Prop}
theorem Fc {Q:Value→Shared→Prop} (I:Inv X pins σ H s) (e:H a=some (.dK kvs)) (e2:H b=some (.dK more)) (MU:a≠b) (hz:kvs.length+more.length≤sizeLine)
  (h:∀s',Inv X pins σ (upd H a (.dK (cu kvs more))) s'→Q .none s'):wpAny (model X.prog X.w) A (call (.builtin "dict.update") [.ref a, .ref b]) Q E s:=by
 obtain⟨z,hd,vs,rel,dd⟩:=qx I.aS e
 obtain⟨z2,hd2,ws,Q1,Xg⟩:=qx I.aS e2
 refine call_meetsIn PySem.F.slot_dict_update dd.typeIs PySem.F.entry_dict_update (PySem.F.args_dict_update_2 _ _) (meets_dict_update (bE X.prog X.w) a b MU hd2)
  ⟨vs,ws,dd,Xg,by rw[←rel.length,←Q1.length];exact hz,fun h' CU _ hs=>h _ ?_⟩
 have he:∃q,h'.get? a=some q:=let ⟨q,_,_,hq,_⟩:=CU;⟨q,hq⟩
 exact pG I (by rw[e];exact True.intro) hs he (qy (Nat.le_trans (eB more kvs) hz) hd (KV.merge Q1 rel) CU)
end
def Q2 (td ty:TE):TE:=fun σ H Q=>td σ H fun x H1=>∃a,x= .ref a∧YA H1 a∧ty σ H1 fun y H2=>∃b kvs more,y= .ref b∧H2 a=some (.dK kvs)∧H2 b=some (.dK more)∧a≠b∧kvs.length+more.length≤sizeLine∧Q .cU (upd H2 a (.dK (cu kvs more)))
section
variable {X:Cx} {o e:Expr} {apos gU:Pos} {td ty:TE}
theorem Jh (ho:PE X o td) (he:PE X e ty) (m:M1 X o "update" apos e gU):PE X (.Call (.Attribute o "update" apos) [e] [] gU) (Q2 td ty):=by
 intro pins s σ H Q I h
 refine wpAny_Call_method m.base m.Yz m.line PySem.F.plainAttrs_dict PySem.F.slot_dict_update PySem.F.type_dict_update (bZ (ho pins s σ H _ I h) fun u s1 ⟨x,H1,I1,rx,a,ex,d,q1⟩=>?_)
 subst ex
 obtain rfl:u=Value.ref a:=rx
 obtain⟨t1,t2,_⟩:=ET I1 d
 refine⟨t1,t2,?_⟩
 rw[m.trees]
 refine Calls.callWith_builtin rfl (Calls.evalArgs_plain (Calls.spliced_cons (bZ (he pins s1 σ H1 _ I1 q1) fun iv s2 ⟨y,H2,I2,ry,b,kvs,more,ey,ea,eb,MU,hz,q2⟩=>Calls.spliced_nil ?_)))
 subst ey
 obtain rfl:iv=Value.ref b:=ry
 exact Fc I2 ea eb MU hz fun s3 I3=>⟨.cU,_,I3,rfl,q2⟩
end
end L2
namespace L2
open PySem PySem.Spec PyProof.Rows
end L2
namespace L2
open PySem PySem.Spec PyProof.Rows
end L2
namespace L2
open PySem PySem.Spec PyProof.Rows PySem.W
section
variable {X:Cx}
end
end L2
namespace L2
open PySem PySem.Spec PyProof.Rows
theorem MX {X:Cx} {body:List Stmt} {h0:ExceptHandler} {hs:List ExceptHandler} {pos:Pos} {t:TS} (hx:∀v s,X.xe v s→False) (hb:lM X body t):PS X (.Try body (h0::hs) [] [] pos) t:=by
 intro pins s σ H D I h
 refine wpAny_Try_except (wpAny_mono (hb pins s σ H D I h) (fun f s1 q=>?_) fun e s1 z=>(hx e s1 z).elim)
 cases f with
 |next=>exact wpAny_execs_nil q
 |brk=>exact q
 |cont=>exact q
 |ret u=>exact q
end L2
namespace L2
open PySem PySem.Spec PyProof.Rows
section
variable {X:Cx}
theorem Fd:nR X (binaryOp .FloorDiv) (rI (fun _ j=>0<j∧j<18446744073709551616) fun i j=> .int (i/j)):=Ql fun i j _ _ _ _ _ hc q=>by
 have h1:(0 :Int) <j:=hc.1
 have h2:j<18446744073709551616:=hc.2
 refine floordiv_int (by omega) (by rw[Int.fdiv_eq_ediv_of_nonneg i (by omega)];exact q) (.inl (PyProof.noPylong_of_log2 ?_))
 have:=(Nat.log2_lt (n:=j.natAbs) (by omega) (k:=64)).mpr (by omega)
 omega
end
end L2
namespace L2
open PySem PySem.Spec PyProof.Rows
section
variable {X:Cx}
end
end L2
namespace L2
open PySem PySem.Spec PyProof.Rows
section
variable {X:Cx}
end
end L2
namespace PySem
structure Heap.n9 (h:Heap) (e:Addr) (tb:Option Addr):Prop where
 ex:∃oe vs,h.get? e=some oe∧oe.data= .fields vs∧vs[1]? =some (tb.elim Value.none Value.ref)
 tr:∀T,tb=some T→T≠e∧∃oT ts,h.get? T=some oT∧oT.data= .fields ts∧3<ts.size
structure Heap.Moved (fs:List Addr) (e:Addr) (tb:Option Addr) (h h':Heap):Prop where
 keep:∀b o,h.get? b=some o→b≠e→tb≠some b→b∉fs→h'.get? b=some o
 slot:∀b o,h.get? b=some o→b≠e→tb≠some b→∃sl,h'.get? b=some { o with slots:=sl }
 self:∀o,h.get? e=some o→∃vs,h'.get? e=some { o with data:= .fields vs }
 ent:∀b o,tb=some b→b≠e→h.get? b=some o→∃o',h'.get? b=some o'
 size:h.objs.size≤h'.objs.size
theorem Heap.Moved.there {fs:List Addr} {e:Addr} {tb:Option Addr} {h h':Heap} (m:Heap.Moved fs e tb h h') (b:Addr) (o:Obj) (q:h.get? b=some o):∃o',h'.get? b=some o':=by
 by_cases be:b=e
 ·subst be
  obtain⟨vs,z⟩:=m.self o q
  exact⟨_,z⟩
 ·by_cases bt:tb=some b
  ·exact m.ent b o bt be q
  ·obtain⟨sl,z⟩:=m.slot b o q be bt
   exact⟨_,z⟩
theorem Heap.Moved.refl {fs:List Addr} {e:Addr} {tb:Option Addr} {h:Heap} (x:h.n9 e tb):Heap.Moved fs e tb h h:=
 ⟨fun _ _ q _ _ _=>q,fun _ o q _ _=>⟨o.slots,q⟩,fun o q=>by
  obtain⟨oe,vs,he,hd,_⟩:=x.ex
  rw[q] at he
  cases he
  exact⟨vs,by rw[q,←hd]⟩,fun _ o _ _ q=>⟨o,q⟩,Nat.le_refl _⟩
theorem Heap.Moved.trans {fs:List Addr} {e:Addr} {tb tb':Option Addr} {h h1 h2:Heap} (x:Heap.Moved fs e tb h h1) (y:Heap.Moved fs e tb' h1 h2) (n:∀T,tb'=some T→tb=some T∨h.objs.size≤T):Heap.Moved fs e tb h h2 where
 keep:=fun b o q be bt bf=>y.keep b o (x.keep b o q be bt bf) be (fun z=>(n b z).elim bt fun w=>absurd (Heap.lt_size q) (Nat.not_lt.mpr w)) bf
 slot:=fun b o q be bt=>by
  obtain⟨sl,z⟩:=x.slot b o q be bt
  obtain⟨Mo,z'⟩:=y.slot b _ z be (fun z=>(n b z).elim bt fun w=>absurd (Heap.lt_size q) (Nat.not_lt.mpr w))
  exact⟨Mo,z'⟩
 self:=fun o q=>by
  obtain⟨vs,z⟩:=x.self o q
  obtain⟨vs',z'⟩:=y.self _ z
  exact⟨vs',z'⟩
 ent:=fun b o _ be q=>by
  obtain⟨o1,z⟩:=x.there b o q
  exact y.there b o1 z
 size:=Nat.le_trans x.size y.size
theorem Heap.Moved.mono {fs Iq:List Addr} {e:Addr} {tb:Option Addr} {h h':Heap} (x:Heap.Moved fs e tb h h') (k:∀b∈fs,b∈Iq):Heap.Moved Iq e tb h h':=
 ⟨fun b o q be bt bf=>x.keep b o q be bt fun z=>bf (k b z),x.slot,x.self,x.ent,x.size⟩
theorem vx {o:Obj} {vs:Array Value} (hd:o.data= .fields vs) (f:Array Value→Array Value):o.mapFields f={ o with data:= .fields (f vs) }:=by
 obtain⟨a,b,c,d⟩:=o
 cases hd
 rfl
section
variable {M:Model} {A:Around} {E:Value→Shared→Prop} {s:Shared}
theorem x3 {base:Heap} {env:Env} {outer:List Env} {L e:Addr} {oe:Obj} {vs:Array Value} {PB:Value} {nx:Bool} {Q:Unit→Shared→Prop} (fr:A.frames=some (env::outer)) (fl:s.heap.FunFrames base (env::outer)) (hL:env.frame=some L)
  (xe:s.heap.get? e=some oe) (xd:oe.data= .fields vs) (xs:1<vs.size)
  (k:∀h' T,h'.n9 e (some T)→s.heap.objs.size≤T→Heap.Moved ((env::outer).filterMap (·.frame)) e none s.heap h'→Q () { s with heap:=h' }):
  wpAny M A (do let a←frameOf env;let pl←entryPlaceOf L nx;let b←EntryCells.newEntry PB a .none (rawInt L) .none pl;setField (.ref e) 1 b) Q E s:=by
 have ene:e∉(env::outer).filterMap (·.frame):=fun z=>by
  obtain⟨_,o,q,nf⟩:=fl.mem z
  rw[xe] at q
  cases q
  exact nf vs xd
 refine wpAny_bind (wpAny_frameOf_fun fr fl hL fun g1 so=>?_)
 refine wpAny_bind (wpAny_entryPlaceOf fun pl ok=>?_)
 unfold EntryCells.newEntry newFields
 refine wpAny_bind (wpAny_newObj_type ?_ (ok.sizeOk5 _ _ _ _ _))
 have e1:g1.get? e=some oe:=(so.2.1 e ene).trans xe
 generalize hO:({ cls:= .type "traceback",dict:=none,data:= .fields ([PB, .ref L, .none,rawInt L, .none]++(if pl.isEmpty then List.replicate 6 Value.none else pl)).toArray }:Obj)=ob
 have e2:=Heap.get?_push_of_some (h:=g1) ob e1
 refine wpAny_setField e2 xd xs ?_
 have Te:g1.objs.size≠e:=Nat.ne_of_gt (Heap.lt_size e1)
 have nf:ob.isFreed=false:=by rw[←hO];rfl
 have eT:(g1.push ob).get? g1.objs.size=some ob:=Heap.get?_push_size g1 nf
 have e3:=Heap.get?_update_self (Obj.mapFields (·.setIfInBounds 1 (Value.ref g1.objs.size))) e2 (Obj.isFreed_of_fields (Obj.data_mapFields xd _))
 refine k _ g1.objs.size ⟨⟨_,_,e3,Obj.data_mapFields xd _,by simp [xs]⟩,fun T z=>?_⟩ (Nat.le_of_eq so.1.symm) ⟨fun b o q be _ bf=>?_,fun b o q be _=>?_,fun o q=>?_,fun b o z=>(by cases z),?_⟩
 ·cases z
  refine⟨Te,ob,([PB, .ref L, .none,rawInt L, .none]++(if pl.isEmpty then List.replicate 6 Value.none else pl)).toArray,?_,by rw[←hO],by simp only [List.size_toArray,List.length_append,List.length_cons,List.length_nil];omega⟩
  rw[Heap.get?_update_other _ _ (Ne.symm Te)]
  exact eT
 ·rw[Heap.get?_update_other _ _ (Ne.symm be)]
  exact Heap.get?_push_of_some _ ((so.2.1 b bf).trans q)
 ·obtain⟨sl,z⟩:=so.2.2 b o q
  refine⟨sl,?_⟩
  rw[Heap.get?_update_other _ _ (Ne.symm be)]
  exact Heap.get?_push_of_some _ z
 ·rw[xe] at q
  cases q
  exact⟨_,e3.trans (by rw[vx xd])⟩
 ·show s.heap.objs.size≤((g1.push ob).update e _).objs.size
  rw[Heap.size_after_update,Heap.size_push,←so.1]
  exact Nat.le_succ _
theorem jb {e:Addr} {tb fr:Option Addr} {Q:Unit→Shared→Prop} (x:s.heap.n9 e tb) (k:∀h',h'.n9 e tb→Heap.Moved [] e tb s.heap h'→Q () { s with heap:=h' }):wpAny M A (setFlight (.ref e) fr) Q E s:=by
 obtain⟨oe,vs,he,hd,h1⟩:=x.ex
 unfold setFlight
 refine wpAny_bind (wpAny_field he hd h1 ?_)
 cases tb with
 |none=>
  rw[if_neg (by decide)]
  exact wpAny_pure (k _ x (.refl x))
 |some T=>
  obtain⟨ne,oT,ts,hT,dT,sz⟩:=x.tr T rfl
  rw[if_pos (show ((some T).elim Value.none Value.ref != Value.none)=true from by simp)]
  generalize (fr.elim Value.none fun f=>rawInt f)=v3
  refine wpAny_setField hT dT sz ?_
  have tF:(s.heap.update T (Obj.mapFields (·.setIfInBounds 3 v3))).get? e=some oe:=(Heap.get?_update_other _ _ ne).trans he
  have Xn:=Heap.get?_update_self (Obj.mapFields (·.setIfInBounds 3 v3)) hT (Obj.isFreed_of_fields (Obj.data_mapFields dT _))
  refine k _ ⟨⟨oe,vs,tF,hd,h1⟩,fun T' z=>?_⟩ ⟨fun b o q _ bt _=>?_,fun b o q _ bt=>⟨o.slots,?_⟩,fun o q=>?_,fun b o z _ _=>?_,?_⟩
  ·cases z
   exact⟨ne,_,_,Xn,Obj.data_mapFields dT _,by simp [sz]⟩
  ·exact(Heap.get?_update_other _ _ fun z=>bt (by rw[z])).trans q
  ·exact(Heap.get?_update_other _ _ fun z=>bt (by rw[z])).trans q
  ·rw[he] at q
   cases q
   exact⟨vs,by rw[tF,←hd]⟩
  ·cases z
   exact⟨_,Xn⟩
  ·show s.heap.objs.size≤(s.heap.update T _).objs.size
   rw[Heap.size_after_update]
   exact Nat.le_refl _
theorem vy {base:Heap} {env:Env} {outer:List Env} {L e:Addr} {tb:Option Addr} {Q:Unit→Shared→Prop} (fr:A.frames=some (env::outer)) (fl:s.heap.FunFrames base (env::outer)) (hL:env.frame=some L) (x:s.heap.n9 e tb)
  (k:∀h' T,h'.n9 e (some T)→tb=some T∨s.heap.objs.size≤T→Heap.Moved ((env::outer).filterMap (·.frame)) e tb s.heap h'→Q () { s with heap:=h' }):wpAny M A (noteFrame (.ref e) env) Q E s:=by
 obtain⟨oe,vs,he,hd,h1⟩:=id x.ex
 have sz1:1<vs.size:=(Array.getElem?_eq_some_iff.mp h1).1
 unfold noteFrame
 simp only [hL]
 refine wpAny_bind (wpAny_field he hd h1 ?_)
 cases tb with
 |none=>
  rw[if_neg (by decide)]
  exact x3 fr fl hL he hd sz1 fun h' T a b c=>k h' T a (.inr b) c
 |some T=>
  obtain⟨ne,oT,ts,hT,dT,sz⟩:=x.tr T rfl
  rw[if_pos (show ((some T).elim Value.none Value.ref != Value.none)=true from by simp)]
  have h3:ts[3]? =some ts[3]:=Array.getElem?_eq_getElem sz
  refine wpAny_bind (wpAny_field hT dT h3 ?_)
  by_cases c:(ts[3]==rawInt L)=true
  ·rw[if_pos c]
   exact wpAny_pure (k _ T x (.inl rfl) (.refl x))
  ·rw[if_neg c]
   refine wpAny_bind (wpAny_setField hT dT sz ?_)
   have ot:∀b,b≠T→(s.heap.update T (Obj.mapFields (·.setIfInBounds 3 Value.none))).get? b=s.heap.get? b:=fun b z=>Heap.get?_update_other _ _ (Ne.symm z)
   have Xn:=Heap.get?_update_self (Obj.mapFields (·.setIfInBounds 3 Value.none)) hT (Obj.isFreed_of_fields (Obj.data_mapFields dT _))
   have zs:(s.heap.update T (Obj.mapFields (·.setIfInBounds 3 Value.none))).objs.size=s.heap.objs.size:=Heap.size_after_update ..
   refine x3 (s:={ s with heap:=s.heap.update T (Obj.mapFields (·.setIfInBounds 3 Value.none)) }) fr (fl.of_keeps fun b o q nf=>⟨o,(ot b fun z=>?_).trans q,rfl⟩) hL ((ot e (Ne.symm ne)).trans he) hd sz1 fun h' T' a b c=>k h' T' a (.inr (by rw[←zs];exact b)) ?_
   ·rw[z,hT] at q
    cases q
    exact nf ts dT
   ·refine⟨fun b o q be bt bf=>c.keep b o ((ot b fun z=>bt (by rw[z])).trans q) be (fun z=>by cases z) bf,fun b o q be bt=>c.slot b o ((ot b fun z=>bt (by rw[z])).trans q) be fun z=>(by cases z),fun o q=>c.self o ((ot e (Ne.symm ne)).trans q),fun b o z be q=>?_,?_⟩
    ·cases z
     exact c.there _ _ Xn
    ·rw[←zs]
     exact c.size
theorem Fe {base:Heap} {env:Env} {outer:List Env} {L e:Addr} {tb:Option Addr} {Q:Unit→Shared→Prop} (fr:A.frames=some (env::outer)) (fl:s.heap.FunFrames base (env::outer)) (hL:env.frame=some L) (x:s.heap.n9 e tb)
  (k:∀h' T,h'.n9 e (some T)→tb=some T∨s.heap.objs.size≤T→Heap.Moved ((env::outer).filterMap (·.frame)) e tb s.heap h'→Q () { s with heap:=h' }):wpAny M A (leaving env (.ref e)) Q E s:=by
 unfold leaving
 refine wpAny_bind (vy fr fl hL x fun h1 T a b c=>jb (s:={ s with heap:=h1 }) a fun h2 a' c'=>k h2 T a' b (c.trans (c'.mono fun _ z=>absurd z (by simp)) fun T' z=>?_))
 cases z
 exact b
theorem Ji {env:Env} {e T:Addr} {Q:Unit→Shared→Prop} (x:s.heap.n9 e (some T)) (k:∀h',h'.n9 e (some T)→Heap.Moved [] e (some T) s.heap h'→Q () { s with heap:=h' }):
  wpAny M A (do
   if (←field (.ref e) 1)== .none then unsupported "frame.own-activation:exception-without-traceback"
   setFlight (.ref e) env.frame) Q E s:=by
 obtain⟨oe,vs,he,hd,h1⟩:=id x.ex
 refine wpAny_bind (wpAny_field he hd h1 ?_)
 rw[if_neg (by simp)]
 exact jb x k
end
end PySem
namespace PySem.W
open PySem PySem.Calls PyProof.Rows PySem.Builtin PySem.Builtin.ObjectAttr
abbrev zr:List Value:=[.type "ValueError", .type "Exception", .type "BaseException", .type "object"]
structure eY (K:Frag) (C HE f:Addr):Prop where
 obj:∃(nm q:Str) (N:Addr) (bs:List Value) (sn:List Str) (sub:List Value) (ab:Bool) (col:Option Bool) (dd:Option Addr) (k0 k1 k2 k3 k5:Option Value),
  K.lookup C=some (excClassObj nm q C N bs (.ref HE::zr) true sn sub ab col dd k0 k1 k2 k3 k5 "ValueError.__new__")
 init:findIn K (.ref C) "__init__" =some (some (.ref f))
 fn:typeIn K (.ref f)=some (.type "function")
 sa:findIn K (.ref C) "__setattr__" =some (some (.builtin "object.__setattr__"))
 ga:findIn K (.ref C) "__getattribute__" =some (some (.builtin "BaseException.__getattribute__"))
 gh:findIn K (.ref C) "__getattr__" =some none
theorem ju {C HE:Addr} {T:String} {b:Bool} (h:zr.contains (.type T)=b):(Value.ref C:: .ref HE::zr).contains (.type T)=b:=by
 rw[List.contains_cons,List.contains_cons,h]
 rfl
section
variable {prog:Program} {w:World} {A:Around} {E:Value→Shared→Prop} {R:Result→Shared→Prop} {h:Heap} {g:Array GenState} {d:Drawn} {t:Nat} {os:OsState}
variable {nm q:Str} {C N HE:Addr} {bs:List Value} {sn:List Str} {sub:List Value} {ab:Bool} {col:Option Bool} {dd:Option Addr} {k0 k1 k2 k3 k5:Option Value}
abbrev qL (vs:List Value):Obj:={ cls:= .type "tuple",data:= .seq vs.toArray }
abbrev qM (C t:Addr):Obj:={ cls:= .ref C,data:= .fields #[.ref t, .none, .none, .none, .bool false, .none] }
theorem vz {M:Model} {rest:List Value} {Q:Unit→Shared→Prop} (kC:h.get? C=some (excClassObj nm q C N bs (.ref HE::zr) true sn sub ab col dd k0 k1 k2 k3 k5 "ValueError.__new__"))
  (z:Q () ⟨h,g,d,t,os⟩):wpAny M A (checkBuiltinCall "ValueError.__new__" ⟨.ref C::rest,[]⟩) Q E ⟨h,g,d,t,os⟩:=by
 have F:=PySem.F.excBase_ValueError
 have c1:(Value.ref C:: .ref HE::zr).contains (.type "ValueError")=true:=ju (by decide+kernel)
 have f0:=F.noStar
 simp only [checkBuiltinCall,F.newKind,F.newSplit,F.newRow]
 repeat (first|refine wpAny_loadPart_at kC ?_| (refine wpAny_isSubtype_exc kC ?_;rw[c1]) |refine wpAny_staticBase_exc kC ?_|refine wpAny_madeBy_exc kC ?_|simp only [bne_self_eq_false,Bool.false_eq_true,if_false] |wp_step)
 exact z
theorem MY {rest:List Value} (kC:h.get? C=some (excClassObj nm q C N bs (.ref HE::zr) true sn sub ab col dd k0 k1 k2 k3 k5 "ValueError.__new__"))
  (z:R (.ok (.ret (.ref (h.objs.size+1)))) ⟨(h.push (qL rest)).push (qM C h.objs.size),g,d,t,os⟩) (hz:rest.length≤sizeLine):
  codeAny (model prog w) A (.builtin "ValueError.__new__" ⟨.ref C::rest,[]⟩) R ⟨h,g,d,t,os⟩:=by
 have F:=PySem.F.excBase_ValueError
 have f0:=F.ends
 have c1:(Value.ref C:: .ref HE::zr).contains (.type "ValueError")=true:=ju (by decide+kernel)
 have c2:(Value.ref C:: .ref HE::zr).contains (.type "AttributeError")=false:=ju (by decide+kernel)
 have c3:(Value.ref C:: .ref HE::zr).contains (.type "NameError")=false:=ju (by decide+kernel)
 refine codeAny_builtinAt F.entry ?_
 unfold Builtin.«BaseException.__new__»
 refine wpAt_bind ?_
 show wpAt _ _ _ (stack >>= _) _ _ _
 refine wpAt_bind (wpAt_stack fun p below=>wpAt_of_wpAny ?_)
 wp_walk
 refine wpAt_of_wpAny ?_
 rw[F.owner]
 repeat (first|with_reducible refine wpAny_madeHere_exc F.canon kC ?_|with_reducible refine wpAny_loadPart_at kC ?_| (with_reducible refine wpAny_isSubtype_exc kC ?_;first|rw[c1] |rw[c2] |rw[c3]) |wp_step)
 show R _ _
 rw[Heap.size_push]
 exact z
end
section
variable {prog:Program} {w:World} {A:Around} {E:Value→Shared→Prop} {R:Result→Shared→Prop} {s:Shared} {K:Frag} {C HE f:Addr}
theorem Jj {vs:List Value} (X:K.In s.heap) (Z:eY K C HE f) (hz:vs.length≤sizeLine)
  (k:codeAny (model prog w) (A.under (.builtin "type.__call__" ⟨.ref C::vs,[]⟩)) (.call (.ref f) ⟨.ref (s.heap.objs.size+1)::vs,[]⟩) (InitBack (s.heap.objs.size+1) R) { s with heap:=(s.heap.push (qL vs)).push (qM C s.heap.objs.size) }):
  codeAny (model prog w) A (.call (.ref C) ⟨vs,[]⟩) R s:=by
 obtain⟨hp,g,d,t,os⟩:=s
 obtain⟨nm,q,N,bs,sn,sub,ab,col,dd,k0,k1,k2,k3,k5,hK⟩:=Z.obj
 have kC:=X _ _ hK
 have F:=PySem.F.excBase_ValueError
 have f1:=tc_lookup
 have f2:=tc_bind (.ref C)
 have hT:(⟨hp,g,d,t,os⟩:Shared).TypeIs (.ref C) "type" :=⟨_,kC,rfl⟩
 refine codeAny_of_tree ?_
 show wpAny _ _ (callAny (.ref C) _) _ _ _
 repeat (any_goals (first|assumption|with_reducible refine wpAny_loadPart_at kC ?_|wp_step))
 refine⟨rfl,?_⟩
 refine codeAny_call_builtin_at (Code.quiet_builtin _ (by decide+kernel)) entry_typeCall (wpAny_check_type_call_sub kC ?_)
 repeat (first|with_reducible refine wpAny_loadPart_at kC ?_|with_reducible refine wpAny_madeBy_exc kC ?_|wp_step)
 refine codeAny_call_builtin_code (Code.quiet_builtin _ F.quiet) (vz kC ?_)
 refine MY kC ?_ hz
 show wpAny _ _ _ _ _ _
 have keeps:∀b o,hp.get? b=some o→((hp.push (qL vs)).push (qM C hp.objs.size)).get? b=some o:=fun b o e=>Heap.get?_push_of_some _ (Heap.get?_push_of_some _ e)
 have kC1:=keeps _ _ kC
 have X1:K.In ((hp.push (qL vs)).push (qM C hp.objs.size)):=fun b o e=>keeps b o (X b o e)
 have eg:((hp.push (qL vs)).push (qM C hp.objs.size)).get? (hp.objs.size+1)=some (qM C hp.objs.size):=by heap_get
 have c0:(Value.ref C:: .ref HE::zr).contains (.ref C)=true:=by simp
 unfold isInstance
 repeat (first|with_reducible refine wpAny_loadPart_at eg ?_|wp_step)
 show wpAny _ _ (isSubtype (.ref C) (.ref C)) _ _ _
 refine wpAny_isSubtype_exc kC1 ?_
 rw[c0]
 repeat (first|with_reducible refine wpAny_loadPart_at eg ?_|wp_step)
 show wpAny _ _ (typeLookup (.ref C) _) _ _ _
 refine looks_findIn X1 Z.init _ _ _ _ (fun _ _ e=>e) ?_
 refine wpAny_holding (wpAny_bind (bind_fn X1 _ Z.fn _ _ _ _ (fun _ _ e=>e) ?_))
 refine wpAny_bind (wpAny_call (codeAny_mono k fun r s' y=>?_))
 cases r with
 |error z=>exact y
 |ok fl=>
  cases fl with
  |ret u=>
   obtain⟨eu,y⟩:=y
   subst eu
   exact wpAny_pure (wpAny_pure y)
  |next=>exact y.elim
  |brk=>exact y.elim
  |cont=>exact y.elim
end
section
variable {prog:Program} {w:World} {A:Around} {E:Value→Shared→Prop} {R:Result→Shared→Prop} {s:Shared} {K:Frag} {C HE f e:Addr} {ox:Obj} {od:Option Obj} {vs:Array Value} {name:Str} {v:Value} {tk:Tok}
theorem eY.cd (Z:eY K C HE f):∃cd,clsIn K C=some cd∧cd.mro= .ref C:: .ref HE::zr∧cd.hasDict=true:=by
 obtain⟨nm,q,N,bs,sn,sub,ab,col,dd,k0,k1,k2,k3,k5,hK⟩:=Z.obj
 exact⟨_,by unfold clsIn;rw[hK],rfl,rfl⟩
theorem eY.mro (Z:eY K C HE f) {T:String} {b:Bool} (h:zr.contains (.type T)=b):mroIn K C (.type T)=some b:=by
 obtain⟨cd,a,m,_⟩:=Z.cd
 unfold mroIn
 rw[a,Option.bind_some,m,ju h]
 rfl
theorem Ff (X:K.In s.heap) (Z:eY K C HE f) (I:InstAt s.heap e ox C od) (ht:takerIn K C name=some none)
  (k:∀b,wpAny (model prog w) A.in1 (storeInOwnDict (.ref e) (.ref C) (.str name tk) name v b)
   (fun fin s'=>match fin with| .done f=>R (.ok f) s'| .again c'=>c'.quiet=true∧codeAny (model prog w) A c' R s') (fun e s'=>R (.error e) s') s):
  codeAny (model prog w) A (.call (.builtin "object.__setattr__") ⟨[.ref e, .str name tk,v],[]⟩) R s:=by
 have SO:=PySem.F.store_object
 obtain⟨cd,hc,hm,_⟩:=Z.cd
 have sub:Looks (model prog w) s.heap (isInstance (.ref e) (.type "object")) true:=I.type.andThen (looks_mroIn X (Z.mro (by decide+kernel)))
 refine codeAny_call_builtin SO.slot.plain SO.entry (@check_slot (model prog w) _ _ s "object.__setattr__" "object" "__setattr__" (.ref e) [.str name tk,v] [] _ SO.kind SO.split sub (SO.args (.ref e) (.str name tk) v) ?_)
 obtain⟨attr,ha,hr⟩:=Option.bind_eq_some_iff.mp ht
 have lm:Looks (model prog w) s.heap (mroOf (.ref C)) cd.mro:=(looks_clsIn X hc).andThen .now
 have l3:Looks (model prog w) s.heap (storeTaker? attr) none:=by
  cases attr with
  |none=>exact .now
  |some a=>
   obtain⟨b,hb,eb⟩:=Option.map_eq_some_iff.mp hr
   refine(looks_takesIn X hb).andThen ?_
   cases b with
   |true=>cases eb
   |false=>exact .now
 rw[osa_eq,refuse_eq]
 refine wpAny_bind (wpAny_bind (I.type.here (wpAny_bind (lm.here ?_))))
 rw[hm,refuseLoop_ref,refuseLoop_ref,PySem.F.store_ValueError.passes]
 exact wpAny_pure (wpAny_bind (I.type.here (wpAny_bind ((looks_findIn X ha).here (wpAny_bind (l3.here (k _)))))))
theorem Jk {Q:Unit→Shared→Prop} (X:K.In s.heap) (Z:eY K C HE f) (ht:takerIn K C name=some none) (hx:s.heap.get? e=some ox) (hc:ox.cls= .ref C) (hd:ox.data= .fields vs) (hn:ox.dict=none)
  (k:∀h' MP,h'.get? e=some { ox with dict:=some s.heap.objs.size }→h'.Ns1 s.heap.objs.size (fun y=>if y=name then some v else none)→(∀b o,b≠e→s.heap.get? b=some o→h'.get? b=some o)→Q () { s with heap:=h',toks:=MP }):
  wpAny (model prog w) A (setAttr (.ref e) name v) Q E s:=by
 have I:InstAt s.heap e ox C none:=⟨hx,hc,by unfold notCls;rw[hd],by rw[hn];trivial⟩
 obtain⟨cd,pq,_,hh⟩:=Z.cd
 refine set_plain X I Z.sa (Ff (s:={ s with toks:=s.toks+1 }) X Z I ht fun b=>?_)
 obtain⟨oc,Xo,YV,sv⟩:=ox
 dsimp only at hc hd hn
 subst hc hd hn
 refine wpAny_bind (wpAny_pure (wpAny_bind (wpAny_bind (wpAny_loadPart hx (wpAny_bind (Looks.here (s:={ s with toks:=s.toks+1 }) (looks_clsIn X pq) ?_))))))
 rw[hh]
 have xs:e≠s.heap.objs.size:=Nat.ne_of_lt (Heap.lt_size hx)
 rw[if_neg (by decide)]
 have PD:=Heap.get?_push_of_some (h:=s.heap) { cls:= .type "dict",data:= .dict #[] } hx
 refine wpAny_bind (wpAny_alloc' (wpAny_bind (wpAny_update' PD (wpAny_pure ?_))))
 generalize hG:(s.heap.push { cls:= .type "dict",data:= .dict #[] }).update e (fun o=>{ cls:=o.cls,dict:=some s.heap.objs.size,data:=o.data,slots:=o.slots })=G
 have gd:G.get? s.heap.objs.size=some { cls:= .type "dict",data:= .dict #[] }:=by
  rw[←hG]
  exact(Heap.get?_update_ne _ _ _ _ (Ne.symm xs)).trans (Heap.get?_push_at rfl rfl)
 have gx:G.get? e=some { cls:= .ref C,dict:=some s.heap.objs.size,data:= .fields vs,slots:=sv }:=by
  rw[←hG]
  exact Heap.get?_update_self _ PD rfl
 have go:∀b o,b≠e→s.heap.get? b=some o→G.get? b=some o:=fun b o be q=>by
  rw[←hG]
  exact(Heap.get?_update_ne _ _ _ _ be).trans (Heap.get?_push_of_some _ q)
 have gn:G.Ns s.heap.objs.size (fun _=>none):=⟨_,#[],_,gd,rfl,fun y hy=>absurd hy (by simp),fun _=>rfl⟩
 show wpAny _ _ (storeInDict s.heap.objs.size (.str name s.toks) name v) _ _ { s with heap:=G,toks:=s.toks+1 }
 unfold storeInDict newKeyGuard
 refine wpAny_bind (wpAny_pure (wpAny_bind (wpAny_nsSet1 (s:={ s with heap:=G,toks:=s.toks+1 }) (Heap.Ns1.of_empty gn) fun h' n2 s2=>?_)))
 obtain⟨o2,e2,p2,q2,d2,c2⟩:=n2.count (PySem.Within.cons name v PySem.Within.nil)
 refine wpAny_bind (wpAny_lookBehind q2 (by rw[d2];exact pastItsLine_dict (Nat.le_trans c2 (by rw[List.length_cons,List.length_nil,sizeLine_eq];omega))) ?_)
 exact wpAny_pure (k _ _ ((s2.2 e xs).trans gx) n2 fun b o be q=>(s2.2 b (Nat.ne_of_lt (Heap.lt_size q))).trans (go b o be q))
theorem Jl {Q:Unit→Shared→Prop} {dx:Addr} {mA:Str→Option Value} {ns:List Str} (X:K.In s.heap) (Z:eY K C HE f) (ht:takerIn K C name=some none) (hx:s.heap.get? e=some ox) (hc:ox.cls= .ref C) (hd:ox.data= .fields vs) (hn:ox.dict=some dx)
  (N1:s.heap.Ns1 dx mA) (hw:PySem.Within mA ns) (hsz:ns.length≤1000)
  (k:∀h',h'.Ns1 dx (fun y=>if y=name then some v else mA y)→Heap.SameBut dx s.heap h'→Q () { s with heap:=h',toks:=s.toks+2 }):
  wpAny (model prog w) A (setAttr (.ref e) name v) Q E s:=by
 obtain⟨oD,ed,pd,hod,dD,_⟩:=id N1
 have I:InstAt s.heap e ox C (some oD):=⟨hx,hc,by unfold notCls;rw[hd],by rw[hn];exact hod⟩
 obtain⟨cd,pq,_,hh⟩:=Z.cd
 refine set_plain X I Z.sa (Ff (s:={ s with toks:=s.toks+1 }) X Z I ht fun b=>?_)
 obtain⟨oc,Xo,YV,sv⟩:=ox
 dsimp only at hc hd hn
 subst hc hd hn
 refine wpAny_bind (wpAny_pure (wpAny_bind (wpAny_bind (wpAny_loadPart hx (wpAny_bind (Looks.here (s:={ s with toks:=s.toks+1 }) (looks_clsIn X pq) ?_))))))
 rw[hh]
 refine wpAny_pure (a:=some dx) (wpAny_bind (wpAny_pure (wpAny_bind ?_)))
 refine wpAny_nsSet1 (s:={ s with toks:=s.toks+1 }) N1 fun h' n2 s2=>?_
 obtain⟨o2,e2,p2,q2,d2,c2⟩:=n2.count (PySem.Within.cons name v hw)
 refine wpAny_bind (wpAny_lookBehind q2 (by rw[d2];exact pastItsLine_dict (Nat.le_trans c2 (by rw[List.length_cons,sizeLine_eq];omega))) ?_)
 exact wpAny_pure (k _ n2 s2)
theorem MZ {Q:Value→Shared→Prop} {expr:Bool} (X:K.In s.heap) (Z:eY K C HE f) (I:InstAt s.heap e ox C od) (hf:findObj K C od name=some (.value v)) (hh:handedIn v=true) (k:Q v { s with toks:=s.toks+1 }):
  wpAny (model prog w) A (getAttr (.ref e) name expr) Q E s:=by
 have T0:=I.type (M:=model prog w)
 have SG:=PySem.F.attr_ValueError.ga
 refine wpAny_bind (wpAny_mkText (wpAny_holding (wpAny_bind (T0 _ _ _ _ (fun _ _ y=>y) (wpAny_bind (looks_findIn X Z.ga _ _ _ _ (fun _ _ y=>y) ?_))))))
 dsimp only
 rw[show (onTheHeap (Value.ref C)&&Value.builtin "BaseException.__getattribute__" ==Value.builtin "object.__getattribute__")=false from by rw[show (Value.builtin "BaseException.__getattribute__" ==Value.builtin "object.__getattribute__")=false from by decide+kernel,Bool.and_false],if_neg (by decide)]
 refine wpAny_bind (looks_hook X (show (if onTheHeap (Value.ref C) then findIn K (.ref C) "__getattr__" else some none)=some none from Z.gh) _ _ _ _ (fun _ _ y=>y) (wpAny_bind (wpAny_attempt (wpAny_holding ?_))))
 unfold callGetattribute
 rw[show (expr&&onTheHeap (Value.builtin "BaseException.__getattribute__"))=false from Bool.and_false _,if_neg (by decide)]
 unfold boundAndCalled
 rw[SG.bind]
 refine wpAny_bind (wpAny_pure ?_)
 show wpAny _ _ (call (.builtin "BaseException.__getattribute__") [.ref e, .str name s.toks]) _ _ _
 refine wpAny_call (codeAny_call_builtin SG.plain PySem.F.entry_bexc_ga ?_)
 refine @check_slot (model prog w) _ _ { s with toks:=s.toks+1 } "BaseException.__getattribute__" "BaseException" "__getattribute__" (.ref e) [.str name s.toks] [] _ (by decide+kernel) (by decide+kernel) (T0.andThen (looks_mroIn X (Z.mro (by decide+kernel)))) (PySem.F.args_bexc_ga _ _) ?_
 have l1:=looks_find (M:=model prog w) X I hf
 unfold Builtin.«object.__getattribute__»
 refine wpAny_bind (wpAny_of_eq (a:=(Value.ref e,[Value.str name s.toks])) rfl ?_)
 refine wpAny_bind (wpAny_pure (a:=name) (wpAny_bind (T0 _ _ _ _ (fun _ _ y=>y) (wpAny_bind (l1 _ _ _ _ (fun _ _ y=>y) (wpAny_pure ?_))))))
 show wpAny _ _ (handedOut v) _ _ _
 rw[handedOut_of hh]
 exact wpAny_pure k
end
section
variable {M:Model} {A:Around} {E:Value→Shared→Prop} {s:Shared} {K:Frag} {env:Env}
theorem Fg {x:Sem Value} {Q:Flow→Shared→Prop} (ha:A.handled=none)
  (k:wpAny M A x (fun v s1=>∃e oe vs C HE f,v= .ref e∧K.In s1.heap∧eY K C HE f∧s1.heap.get? e=some oe∧oe.cls= .ref C∧oe.data= .fields vs∧vs[1]? =some .none∧E (.ref e) s1) E s):wpAny M A (raiseStmt env (some x) none) Q E s:=by
 unfold raiseStmt
 refine wpAny_bind (wpAny_mono k (fun v s1 y=>?_) fun _ _ y=>y)
 obtain⟨e,oe,vs,C,HE,f,rfl,X,Z,he,hc,hd,h1,hE⟩:=y
 have cB:(Value.ref C:: .ref HE::zr).contains (.type "BaseException")=true:=ju (by decide+kernel)
 obtain⟨nm,q,N,bs,sn,sub,ab,col,dd,k0,k1,k2,k3,k5,hK⟩:=Z.obj
 have kC:=X _ _ hK
 obtain⟨hp,g,d,tk,os⟩:=s1
 obtain⟨oc,Xo,YV,sv⟩:=oe
 dsimp only at hc hd
 subst hc hd
 repeat (first|with_reducible refine wpAny_loadPart_at he ?_|with_reducible refine wpAny_loadPart_at kC ?_| (with_reducible refine wpAny_isSubtype_exc kC ?_;rw[cB]) |wp_step)
 rw[h1]
 refine wpAny_pure ?_
 rw[if_neg (by decide)]
 exact wpAny_pure (wpAny_raiseNew_none ha hE)
end
section
variable {prog:Program} {w:World} {A:Around} {E:Value→Shared→Prop} {s:Shared} {K:Frag} {C HE f e:Addr} {ox:Obj} {vs:Array Value}
theorem Fh {us:List Value} {Q:Value→Shared→Prop} (X:K.In s.heap) (Z:eY K C HE f) (hx:s.heap.get? e=some ox) (hc:ox.cls= .ref C) (hd:ox.data= .fields vs) (h0:0<vs.size) (hz:us.length≤sizeLine)
  (k:∀h',h'.get? e=some { ox with data:= .fields (vs.setIfInBounds 0 (.ref s.heap.objs.size)) }→(∀b o,b≠e→s.heap.get? b=some o→h'.get? b=some o)→Q .none { s with heap:=h' }):
  wpAny (model prog w) A (call (.builtin "ValueError.__init__") (.ref e::us)) Q E s:=by
 have F:=PySem.F.excBase_ValueError
 obtain⟨nm,q,N,bs,sn,sub,ab,col,dd,k0,k1,k2,k3,k5,hK⟩:=Z.obj
 have kC:=X _ _ hK
 have c1:(Value.ref C:: .ref HE::zr).contains (.type "ValueError")=true:=ju (by decide+kernel)
 obtain⟨hp,g,d,t,os⟩:=s
 obtain⟨oc,Xo,YV,sv⟩:=ox
 dsimp only at hc hd
 subst hc hd
 refine wpAny_call (codeAny_call_builtin F.init.plain F.initEntry ?_)
 have f0:=F.noStar
 simp only [checkBuiltinCall,F.initKind,F.initSplit,F.initRow]
 repeat (first|with_reducible refine wpAny_loadPart_at hx ?_|with_reducible refine wpAny_loadPart_at kC ?_| (with_reducible refine wpAny_isSubtype_exc kC ?_;rw[c1]) |wp_step)
 refine wpAny_onRaise ?_
 rw[show∀(a b:String) (n:Nat),Bind.check ⟨.positional,"*","ValueError", .self,[⟨"args", .varPos,false⟩]⟩ a b n (List.map (fun x=>x.fst) ({ pos:=Value.ref e::us }:Args).kw)=pure () from fun a b n=>check_star_args _ _ _ _ _ _]
 refine wpAny_pure ?_
 wp_walk
 rw[show vs[0]? =some vs[0] from Array.getElem?_eq_getElem h0]
 refine wpAny_pure (wpAny_bind (wpAny_setField (Heap.get?_push_of_some _ hx) rfl h0 ?_))
 generalize hG:((hp.push (qL us)).update e (Obj.mapFields (·.setIfInBounds 0 (Value.ref hp.objs.size))))=G
 have gx:G.get? e=some { cls:= .ref C,dict:=Xo,data:= .fields (vs.setIfInBounds 0 (.ref hp.objs.size)),slots:=sv }:=by
  rw[←hG]
  exact Heap.get?_update_self (Obj.mapFields (·.setIfInBounds 0 (Value.ref hp.objs.size))) (Heap.get?_push_of_some (qL us) hx) rfl
 have go:∀b o,b≠e→hp.get? b=some o→G.get? b=some o:=fun b o be q=>by
  rw[←hG]
  exact(Heap.get?_update_other _ _ (Ne.symm be)).trans (Heap.get?_push_of_some _ q)
 have fin:=k G gx go
 generalize vs[0]=v0
 cases v0 with
 |ref a=>
  dsimp only
  repeat wp_step
  exact fin
 |_=>exact wpAny_pure (wpAny_pure fin)
end
end PySem.W
namespace L2
open PySem PySem.Spec PyProof.Rows
def zt (dx:Addr) (fs:List (Str×V)):HO:= .ext fun h=>∃mA,h.Ns1 dx mA∧(∀f,ij (fs.lookup f) (mA f))∧PySem.Within mA (fs.map (·.1))
def tG (e C:Addr) (dx:Option Addr):HO:= .ext fun h=>∃o vs,h.get? e=some o∧o.cls= .ref C∧o.dict=dx∧o.data= .fields vs∧vs[1]? =some .none
def zZ (e C:Addr) (dx:Option Addr):HO:= .ext fun h=>∃o vs,h.get? e=some o∧o.cls= .ref C∧o.dict=dx∧o.data= .fields vs
section
variable {P:Program} {w:World} {H:Hp} {h:Heap} {e C dx:Addr} {od:Option Addr} {o:Obj} {vs:Array Value}
theorem Lg (he:h.get? e=some o) (hc:o.cls= .ref C) (hd:o.dict=od) (hf:o.data= .fields vs):cq P w H h e (zZ e C od):=
 ⟨⟨o,vs,he,hc,hd,hf⟩,⟨o,he⟩,fun _ _ ⟨o,vs,a,b⟩ k=>⟨o,vs,k _ a,b⟩⟩
theorem Fi (he:h.get? e=some o) (hc:o.cls= .ref C) (hd:o.dict=od) (hf:o.data= .fields vs) (h1:vs[1]? =some .none):cq P w H h e (tG e C od):=
 ⟨⟨o,vs,he,hc,hd,hf,h1⟩,⟨o,he⟩,fun _ _ ⟨o,vs,a,b⟩ k=>⟨o,vs,k _ a,b⟩⟩
theorem Lh {fs:List (Str×V)} {mA:Str→Option Value} (n:h.Ns1 dx mA) (r:∀f,ij (fs.lookup f) (mA f)) (wi:PySem.Within mA (fs.map (·.1))):cq P w H h dx (zt dx fs):=by
 obtain⟨o,es,ep,ho,z⟩:=id n
 exact⟨⟨mA,n,r,wi⟩,⟨o,ho⟩,fun _ _ ⟨m,⟨o,es,ep,ho,z⟩,r⟩ k=>⟨m,⟨o,es,ep,k _ ho,z⟩,r⟩⟩
theorem qO (ok:jX P w H h) (q:H e=some (zZ e C od)):∃o vs,h.get? e=some o∧o.cls= .ref C∧o.dict=od∧o.data= .fields vs:=(ok e _ q).1
theorem vA (ok:jX P w H h) (q:H e=some (tG e C od)):∃o vs,h.get? e=some o∧o.cls= .ref C∧o.dict=od∧o.data= .fields vs∧vs[1]? =some .none:=(ok e _ q).1
theorem z6 {fs:List (Str×V)} (ok:jX P w H h) (q:H dx=some (zt dx fs)):∃mA,h.Ns1 dx mA∧(∀f,ij (fs.lookup f) (mA f))∧PySem.Within mA (fs.map (·.1)):=(ok dx _ q).1
end
structure ka (X:Cx) (T:Addr):Prop where
 above:X.s₀.heap.objs.size≤T
 loc:T≠X.env.locals
 cell:∀x c,X.env.cells.lookup x=some c→c≠T
 pn:∀p∈X.pn,p.1≠T
section
variable {X:Cx} {pins:List (Addr×Obj)} {σ:St} {H:Hp} {s:Shared} {e C:Addr} {od tb:Option Addr} {h':Heap} {ER:St→XK} {v:Value}
theorem Inv.Li (I:Inv X pins σ H s) {T:Addr} (h:s.heap.objs.size≤T):ka X T:=by
 refine⟨Nat.le_trans I.sz h,fun z=>?_,fun x c q z=>?_,fun p hp z=>?_⟩
 ·subst z
  exact absurd I.lt (Nat.not_lt.mpr h)
 ·obtain⟨_,o,ho,_⟩:=I.cell x c q
  subst z
  exact absurd (Heap.lt_size ho) (Nat.not_lt.mpr h)
 ·have q:=(I.pin p (List.mem_append_left _ hp)).1
  rw[z] at q
  exact absurd (Heap.lt_size q) (Nat.not_lt.mpr h)
def mB (X:Cx) (ER:St→XK) (v:Value) (s:Shared):Prop:=
 ∃e C dx σ H tb,v= .ref e∧Inv X [] σ H s∧H e=some (zZ e C dx)∧s.heap.n9 e tb∧(∀T,tb=some T→H T=none∧ka X T)∧ER σ (.ref C) dx H
def Lets (X:Cx) (ER:St→XK):Prop:=∀v s,mB X ER v s→X.xe v s
theorem ka.d5 {E:Value→Shared→Prop} {T:Addr} (n:ka (X.j2 E) T):ka X T:=⟨n.above,n.loc,n.cell,n.pn⟩
theorem mB.d5 {E:Value→Shared→Prop} (z:mB (X.j2 E) ER v s):mB X ER v s:=by
 obtain⟨e,C,dx,σ,H,tb,ev,I,he,fl,ht,hE⟩:=z
 exact⟨e,C,dx,σ,H,tb,ev,I.d5,he,fl,fun T q=>⟨(ht T q).1,(ht T q).2.d5⟩,hE⟩
theorem x4:Lets (X.j2 (mB X ER)) ER:=fun _ _ z=>z.d5
theorem Inv.Lj (I:Inv X pins σ H s):Inv X [] σ H s:=I.u6 fun p hp=>absurd hp (by simp)
theorem Inv.moved (I:Inv X [] σ H s) (he:H e=some (zZ e C od)) (ht:∀T,tb=some T→H T=none∧ka X T) (m:Heap.Moved (xr X.stack) e tb s.heap h'):Inv X [] σ H { s with heap:=h' }:=by
 have ne:∀b,H b=none→b≠e:=fun b n z=>by
  subst z
  rw[he] at n
  cases n
 refine I.EB (s':={ s with heap:=h' }) (H':=H) (ch:=tb.toList) rfl ⟨fun b o q n hb hx=>m.keep b o q (ne b n) (fun z=>hx (by rw[z];simp)) hb,fun b o q n hb hx=>m.slot b o q (ne b n) fun z=>hx (by rw[z];simp),fun _ _ _ n _=>n,fun b o q _=>m.there b o q,
  fun _ _ q=>q,fun _ _ _ q=>q,fun _ ps q=>⟨#[],by simpa using q⟩⟩ (fun a o q=>?_) I.bare fun b hb=>?_
 ·by_cases ae:a=e
  ·subst ae
   rw[he] at q
   cases q
   obtain⟨o,vs,h1,h2,h3,h4⟩:=qO I.aS he
   obtain⟨vs',z⟩:=m.self o h1
   exact Lg z h2 h3 rfl
  ·refine(I.aS a o q).qj (fun b u hb z=>?_) (fun _ q=>q) fun _ _ q=>q
   have C4:∃o',H b=some o':=by
    rcases hb with hb|hb
    ·exact⟨o,by rw[hb];exact q⟩
    ·exact⟨_,hb⟩
   obtain⟨o',C4⟩:=C4
   refine m.keep b u z (fun z=>?_) (fun z=>?_) fun z=>?_
   ·rcases hb with hb|hb
    ·exact ae (hb.symm.trans z)
    ·rw[z,he] at hb
     cases hb
   ·rw[(ht b z).1] at C4
    cases C4
   ·rw[I.u5 b z] at C4
    cases C4
 ·have z:tb=some b:=by
   cases tb with
   |none=>simp at hb
   |some T=>simp at hb;rw[hb]
  obtain⟨_,n⟩:=ht b z
  exact⟨.inr n.above,Ne.symm (Ne.symm n.loc),n.cell,by simpa using n.pn⟩
def Jm (X:Cx):Prop:=X.stack=X.env::X.outer∧X.env.frame=some X.env.locals
theorem oa (hs:Jm X) (I:Inv X pins σ H s):X.A.frames=some (X.env::X.outer)∧s.heap.FunFrames X.base (X.env::X.outer):=by
 refine⟨by rw[I.ok.frames,hs.1],?_⟩
 rw[←hs.1]
 exact I.stack
theorem z7 (I:Inv X [] σ H s) {tb:Option Addr} {T:Addr} (ht:∀T,tb=some T→H T=none∧ka X T) (b:tb=some T∨s.heap.objs.size≤T):∀T',some T=some T'→H T'=none∧ka X T':=fun T' z=>by
 cases z
 rcases b with b|b
 ·exact ht T b
 ·exact⟨I.aS.fresh b,I.Li b⟩
theorem C8 (hs:Jm X):PassesOwn (model X.prog X.w) X.A X.env (mB X ER):=by
 intro v s' z
 obtain⟨e,C,dx,σ,H,tb,ev,I,he,fl,ht,hE⟩:=z
 subst ev
 obtain⟨fr,ff⟩:=oa hs I
 refine vy fr ff hs.2 fl fun h1 T a b m=>?_
 have m1:Heap.Moved (xr X.stack) e tb s'.heap h1:=by unfold xr;rw[hs.1];exact m
 have I1:=I.moved he ht m1
 have t1:=z7 I ht b
 refine Ji (s:={ s' with heap:=h1 }) a fun h2 a2 m2=>?_
 exact⟨e,C,dx,σ,H,some T,rfl,I1.moved he t1 (m2.mono fun _ z=>absurd z (by simp)),he,a2,t1,hE⟩
end
def zu (P:Program) (w:World):A5:=fun outer H s E v s'=>
 ∃e C dx H' tb,v= .ref e∧s'.os=s.os∧AllBare s'.gens∧Un (xr outer) [] H H' s.heap s'.heap∧jX P w H' s'.heap∧H' e=some (zZ e C dx)∧s'.heap.n9 e tb∧(∀T,tb=some T→H' T=none∧s.heap.objs.size≤T)∧E (.ref C) dx H'
section
variable {P:Program} {w:World} {K:PySem.W.Frag} {mg:Str→Option Value} {base:Heap} {N ps:List Str} {qual:Str} {scope:Scope} {f:Addr} {cd:Value} {A:Around} {outer:List Env} {s s':Shared} {H:Hp} {E:XK} {v:Value}
theorem x5 (z:mB (js (zu P w) P w K mg base N qual scope f cd A outer s H E) (fun _=>E) v s'):(js (zu P w) P w K mg base N qual scope f cd A outer s H E).xe v s':=by
 obtain⟨e,C,dx,σ,H',tb,ev,I,he,fl,ht,hE⟩:=z
 subst ev
 obtain⟨fr,ff⟩:=oa (X:=js (zu P w) P w K mg base N qual scope f cd A outer s H E) ⟨rfl,rfl⟩ I
 refine Fe fr ff rfl fl fun h1 T a b m=>?_
 have I1:=I.moved he ht m
 have t1:=z7 I ht b
 have hB:=I.base
 have ne:∀b,H' b=none→b≠e:=fun b n z=>by
  subst z
  rw[he] at n
  cases n
 have nt:∀b o,s.heap.get? b=some o→tb≠some b:=fun b o q z=>absurd (Heap.lt_size q) (Nat.not_lt.mpr (ht b z).2.above)
 refine⟨e,C,dx,H',some T,rfl,I.os,I.bare,⟨fun b o q n hb hx=>?_,fun b o q n hb hx=>?_,hB.free,fun b o q hx=>?_,hB.nN,hB.nO,hB.nP⟩,I1.aS,he,a,fun T' z=>⟨(t1 T' z).1,(t1 T' z).2.above⟩,hE⟩
 ·refine m.keep b o (hB.keep b o q n hb hx) (ne b (hB.free b o q n hx)) (nt b o q) fun z=>?_
  rcases List.mem_cons.mp (show b∈s.heap.objs.size::xr outer from z) with z|z
  ·exact absurd (Heap.lt_size q) (by rw[z];exact Nat.lt_irrefl _)
  ·exact hb z
 ·obtain⟨sl,z⟩:=hB.slot b o q n hb hx
  obtain⟨Mo,z'⟩:=m.slot b _ z (ne b (hB.free b o q n hx)) (nt b o q)
  exact⟨Mo,z'⟩
 ·obtain⟨o',z⟩:=hB.there b o q hx
  exact m.there b o' z
def Ih (P:Program) (w:World) (K:PySem.W.Frag) (mg:Str→Option Value) (base:Heap) (N:List Str) (qual:Str) (scope:Scope) (f:Addr) (cd:Value) (A:Around) (outer:List Env) (s:Shared) (H:Hp) (E:XK):Cx:=
 (js (zu P w) P w K mg base N qual scope f cd A outer s H E).j2 (mB (js (zu P w) P w K mg base N qual scope f cd A outer s H E) fun _=>E)
theorem vB:Lets (Ih P w K mg base N qual scope f cd A outer s H E) (fun _=>E):=fun _ _ z=>z.d5
theorem Fj:PassesOwn (model P w) (Ih P w K mg base N qual scope f cd A outer s H E).A (Ih P w K mg base N qual scope f cd A outer s H E).env (Ih P w K mg base N qual scope f cd A outer s H E).xe:=C8 (X:=js (zu P w) P w K mg base N qual scope f cd A outer s H E) ⟨rfl,rfl⟩
theorem Be {st:List Stmt} {t:TS} (h:lM (Ih P w K mg base N qual scope f cd A outer s H E) st t):lM (js (zu P w) P w K mg base N qual scope f cd A outer s H E) st t:=fun pins s1 σ H1 D I hw=>
 wpAny_mono (h pins s1 σ H1 D (I.j2 _) hw) (fun _ _ q=>q.d5) fun _ _ z=>x5 z
theorem Ej.Fl {x:Str} {st:Stmt} {fd:FuncData} {k:Nat} {sp:Sp} (F:Ej K x qual st f fd) (S:ax N ps (aj st)) (len:∀vs H Q E,sp vs H Q E→vs.length=ps.length)
  (dv:∀(bA:Value) (A:Around) (outer:List Env) (s:Shared) (H:Hp) (vs:List V) (Q:VK) (E:XK),cV k (A.deeper (envOfC qual (aj st) s.heap.objs.size f bA))→sp vs H Q E→
   ∃t,lM (Ih P w K mg base N qual (aj st) f bA A outer s H E) (a5 st) t∧t { nx:=fun _ H'=>Q .cU H',rt:=Q } (start N vs) H):fe P w K mg base (zu P w) (k+1) f fd ps sp:=by
 obtain⟨oc,od,kV,doc,pm,an,bA,ct,sv,rfl,lk,pq⟩:=F.ex
 refine fn_of lk pq S len fun A outer s H vs Q E hr A6=>?_
 obtain⟨t,h,q⟩:=dv bA A outer s H vs Q E hr A6
 exact⟨t,Be h,q⟩
theorem xX.Fl {x:Str} {st:Stmt} {fd:FuncData} {dV:Value} {k:Nat} {sp:Sp} (F:xX K x qual st f fd dV) (S:ax N ps (aj st)) (len:∀vs H Q E,sp vs H Q E→vs.length=ps.length)
  (dv:∀(bA:Value) (A:Around) (outer:List Env) (s:Shared) (H:Hp) (vs:List V) (Q:VK) (E:XK),cV k (A.deeper (envOfC qual (aj st) s.heap.objs.size f bA))→sp vs H Q E→
   ∃t,lM (Ih P w K mg base N qual (aj st) f bA A outer s H E) (a5 st) t∧t { nx:=fun _ H'=>Q .cU H',rt:=Q } (start N vs) H):fe P w K mg base (zu P w) (k+1) f fd ps sp:=by
 obtain⟨oc,od,kV,doc,pm,an,bA,ct,sv,rfl,lk,pq⟩:=F.ex
 refine fn_of lk pq S len fun A outer s H vs Q E hr A6=>?_
 obtain⟨t,h,q⟩:=dv bA A outer s H vs Q E hr A6
 exact⟨t,Be h,q⟩
end
section
variable {X:Cx} {pins:List (Addr×Obj)} {σ:St} {H:Hp} {s s':Shared} {ER:St→XK} {v:Value}
theorem C9 (L:Lets X ER) (I:Inv X pins σ H s) (h:zu X.prog X.w X.stack H s (ER σ) v s'):X.xe v s':=by
 obtain⟨e,C,dx,H',tb,ev,os,bare,un,aS,he,fl,ht,hE⟩:=h
 have I1:Inv X pins σ H' s':=I.EB os un aS bare fun b z=>absurd z (by simp)
 exact L v s' ⟨e,C,dx,σ,H',tb,ev,I1.Lj,he,fl,fun T z=>⟨(ht T z).1,I.Li (ht T z).2⟩,hE⟩
end
section
variable {X:Cx} {k:Nat} {f C:Addr} {fd:FuncData} {ps:List Str} {sp:Sp} {kG:List V} {ds:List Value} {ER:St→XK} {x m:Str} {p pos apos:Pos} {e o:Expr} {es:List Expr} {ta:TE} {t:TA}
def M0 (sp:Sp) (kG:List V) (ER:St→XK) (t:TA):TE:=fun σ H Q=>t σ H fun vs H1=>sp (vs++kG) H1 Q (ER σ)
def M3 (C:Addr) (m:Str) (sp:Sp) (kG:List V) (ER:St→XK) (ta:TE) (t:TA):TE:=fun σ H Q=>ta σ H fun x H1=>∃a dx fs,x= .ref a∧H1 a=some (.ins C dx fs)∧fs.lookup m=none∧
 t σ H1 fun vs H2=>sp (x::(vs++kG)) H2 Q (ER σ)
theorem Bf {pins:List (Addr×Obj)} {σ:St} {H:Hp} {s:Shared} {Q:VK} {us:List Value} {vs:List V} (F:fe X.prog X.w X.K X.mg X.base (zu X.prog X.w) k f fd ps sp) (hr:cV k X.A) (hb:Binds X.K fd ps ds) (hd:Vals kG ds) (L:Lets X ER)
  (I:Inv X pins σ H s) (r:Vals vs us) (h:sp (vs++kG) H Q (ER σ)):wpAny (model X.prog X.w) X.A (call (.ref f) us) (EP X pins σ Q) X.xe s:=by
 have r2:Vals (vs++kG) (us++ds):=r.append hd
 have hl:(us++ds).length=ps.length:=by rw[←r2.length];exact F.len _ _ _ _ h
 refine wpAny_call (codeAny_mono (F.run X.A X.stack s H ⟨us,[]⟩ (us++ds) (vs++kG) Q (ER σ) hr I.IG (hb s us I.jl hl) r2 h) fun r s' hq=>?_)
 cases r with
 |error e=>exact C9 L I hq
 |ok fl=>
  cases fl with
  |ret u=>exact I.after hq
  |next=>exact False.elim hq
  |brk=>exact False.elim hq
  |cont=>exact False.elim hq
theorem Fn (F:fe X.prog X.w X.K X.mg X.base (zu X.prog X.w) k f fd ps sp) (hr:cV k X.A) (hg:Gl X x) (hm:X.mg x=some (.ref f)) (hk:PySem.W.keepIn X.K (.ref f)=true) (hb:Binds X.K fd ps ds) (hd:Vals kG ds) (L:Lets X ER)
  (ha:PA X (e::es) t) (EJ:(x==("__debug__" :Str))=false:=by decide) (he:starEach (e::es) X.env=(false,eval e X.env)::starEach es X.env:=by rfl) (iO:(backTo pos (starEach es X.env)).any (·.1)=false:=by rfl):
  PE X (.Call (.Name x p) (e::es) [] pos) (M0 sp kG ER t):=by
 intro pins s σ H Q I h
 refine wpAny_Call_Name_kw (jm I hg hm ?_ EJ)
 refine PySem.W.callWith_K (h₀:=X.base) I.ok.mod.gk hk (bZ (ha pos pins s σ H _ I h) fun us s1 ⟨vs,H1,I1,r,q⟩=>⟨I1.jl,?_⟩) he iO
 exact Bf F hr hb hd L I1 r q
theorem qP {pl:Sem Bool} (he:PE X o ta) (c:sy X.K C) (hm:Meth X.K C m f) (F:fe X.prog X.w X.K X.mg X.base (zu X.prog X.w) k f fd ps sp) (hr:cV k X.A) (hb:Binds X.K fd ps ds) (hd:Vals kG ds) (L:Lets X ER) (ha:PA X (e::es) t)
  (fI:starEach (e::es) X.env=(false,eval e X.env)::starEach es X.env:=by rfl) (iO:(backTo pos (starEach es X.env)).any (·.1)=false:=by rfl)
  (ht:eval (.Call (.Attribute o m apos) (e::es) [] pos) X.env=(do
   let ov←eval o X.env
   standAt apos.atName
   let (f,first)←holding [ov] (getMethod ov m pl)
   callWith pos f first (backTo pos (starEach (e::es) X.env)) (backToKw pos (keywordEach [] X.env))):=by rfl):
  PE X (.Call (.Attribute o m apos) (e::es) [] pos) (M3 C m sp kG ER ta t):=by
 intro pins s σ H Q I h
 refine PySem.W.methodCall_KW (pl:=pl) (bZ (he pins s σ H _ I h) fun u s1 ⟨x,H1,I1,rx,a,dx,fs,ex,ea,l,q⟩=>?_) ht
 subst ex
 obtain rfl:u=Value.ref a:=rx
 refine lN I1 ea c hm l ?_
 refine PySem.W.callWith_K (first:=[.ref a]) (h₀:=X.base) I.ok.mod.gk hm.kp (bZ (ha pos pins s1 σ H1 _ I1 q) fun us s2 ⟨vs,H2,I2,r,q2⟩=>⟨I2.jl,?_⟩) fI iO
 exact Bf (us:= .ref a::us) (vs:= .ref a::vs) F hr hb hd L I2 (.cons rfl r) q2
def M4 (C:Addr) (sp:Sp) (t:TA):TE:=fun σ H Q=>t σ H fun vs H1=>vs.length≤100∧∀x,H1 x=none→sp (.ref x::vs) (upd H1 x (tG x C none)) (fun v H2=>v= .cU∧Q (.ref x) H2) E0
theorem Dc {HE:Addr} {pins:List (Addr×Obj)} {σ:St} {H:Hp} {s:Shared} {Q:VK} {us:List Value} {vs:List V} (Z:PySem.W.eY X.K C HE f) (F:fe X.prog X.w X.K X.mg X.base qB k f fd ps sp) (hr:cV (k+1) X.A) (hb:Binds X.K fd ps [])
  (I:Inv X pins σ H s) (r:Vals vs us) (hz:vs.length≤100) (h:∀x,H x=none→sp (.ref x::vs) (upd H x (tG x C none)) (fun v H2=>v= .cU∧Q (.ref x) H2) E0):
  wpAny (model X.prog X.w) X.A (call (.ref C) us) (EP X pins σ Q) X.xe s:=by
 have hq:=h (s.heap.objs.size+1) (I.aS.fresh (Nat.le_succ _))
 have e2:((s.heap.push (PySem.W.qL us)).push (PySem.W.qM C s.heap.objs.size)).get? (s.heap.objs.size+1)=some (PySem.W.qM C s.heap.objs.size):=by
  have:=Heap.get?_push_size (s.heap.push (PySem.W.qL us)) (o:=PySem.W.qM C s.heap.objs.size) rfl
  rwa [Heap.size_push] at this
 have I2:Inv X pins σ (upd H (s.heap.objs.size+1) (tG (s.heap.objs.size+1) C none)) { s with heap:=(s.heap.push (PySem.W.qL us)).push (PySem.W.qM C s.heap.objs.size) }:=
  I.laid (a:=s.heap.objs.size+1) (t':=s.toks) (fun b u q=>Heap.get?_push_of_some _ (Heap.get?_push_of_some _ q)) (Nat.le_succ _) (Fi e2 rfl rfl rfl rfl)
 have r2:Vals (V.ref (s.heap.objs.size+1)::vs) (Value.ref (s.heap.objs.size+1)::us):= .cons rfl r
 have hl:(Value.ref (s.heap.objs.size+1)::us++[]).length=ps.length:=by
  have e:=r2.length
  rw[F.len _ _ _ _ hq] at e
  rw[List.append_nil]
  exact e.symm
 have PJ:us.length≤sizeLine:=by
  rw[←r.length]
  exact Nat.le_trans hz (by rw[sizeLine_eq];decide)
 have Em:=hb { s with heap:=(s.heap.push (PySem.W.qL us)).push (PySem.W.qM C s.heap.objs.size) } (Value.ref (s.heap.objs.size+1)::us) I2.jl hl
 rw[List.append_nil] at Em
 refine wpAny_call (PySem.W.Jj I.jl Z PJ (codeAny_mono (F.run _ X.stack _ _ ⟨Value.ref (s.heap.objs.size+1)::us,[]⟩ (Value.ref (s.heap.objs.size+1)::us) _ _ E0 (hr.make C us []) (I2.IG.make C us []) Em r2 hq) fun r s' su=>?_))
 cases r with
 |error e=>exact False.elim su
 |ok fl=>
  cases fl with
  |ret u=>
   obtain⟨v,H',I3,rv,ev,q3⟩:=I2.after su
   subst ev
   exact⟨rv,⟨V.ref (s.heap.objs.size+1),H',I3,rfl,q3⟩⟩
  |next=>exact False.elim su
  |brk=>exact False.elim su
  |cont=>exact False.elim su
theorem Fp {HE:Addr} (Z:PySem.W.eY X.K C HE f) (F:fe X.prog X.w X.K X.mg X.base qB k f fd ps sp) (hr:cV (k+1) X.A) (hg:Gl X x) (hm:X.mg x=some (.ref C)) (hk:PySem.W.keepIn X.K (.ref C)=true) (hb:Binds X.K fd ps [])
  (ha:PA X (e::es) t) (EJ:(x==("__debug__" :Str))=false:=by decide) (he:starEach (e::es) X.env=(false,eval e X.env)::starEach es X.env:=by rfl) (iO:(backTo pos (starEach es X.env)).any (·.1)=false:=by rfl):
  PE X (.Call (.Name x p) (e::es) [] pos) (M4 C sp t):=by
 intro pins s σ H Q I h
 refine wpAny_Call_Name_kw (jm I hg hm ?_ EJ)
 refine PySem.W.callWith_K (h₀:=X.base) I.ok.mod.gk hk (bZ (ha pos pins s σ H _ I h) fun us s1 ⟨vs,H1,I1,r,q⟩=>⟨I1.jl,?_⟩) he iO
 exact Dc Z F hr hb I1 r q.1 q.2
def M5 (K:PySem.W.Frag) (te:TE) (ER:St→XK):TS:=fun _ σ H=>te σ H fun v H1=>∃e C HE f dx,v= .ref e∧PySem.W.eY K C HE f∧H1 e=some (tG e C dx)∧ER σ (.ref C) dx (upd H1 e (zZ e C dx))
theorem Fq {ex:Expr} {te:TE} (hc:X.calm=true) (L:Lets X ER) (he:PE X ex te):PS X (.Raise (some ex) none pos) (M5 X.K te ER):=by
 intro pins s σ H D I h
 rw[arm_exec_Raise]
 refine wpAny_bind (wpAny_standAt (PySem.W.Fg (K:=X.K) (I.ok.hd hc) (wpAny_bind (bZ (he pins s σ H _ I h) fun u s1 ⟨v,H1,I1,rv,e,C,HE,f,dx,ev,Z,hx,q⟩=>wpAny_bind (wpAny_standAt (wpAny_pure ?_))))))
 subst ev
 obtain rfl:u=Value.ref e:=rv
 obtain⟨o,vs,h1,h2,h3,h4,h5⟩:=vA I1.aS hx
 refine⟨e,o,vs,C,HE,f,rfl,I1.jl,Z,h1,h2,h4,h5,L _ _ ⟨e,C,dx,σ,_,none,rfl,?_,af,⟨⟨o,vs,h1,h4,h5⟩,fun T z=>by cases z⟩,fun T z=>(by cases z),q⟩⟩
 have J:=I1.Lj.write (x:=e) (e:=e) (o:=zZ e C dx) (h':=s1.heap) (t':=s1.toks) (by rw[hx];exact True.intro) (.inl rfl) (fun _ _ _ q=>q) ⟨o,h1⟩ (Lg h1 h2 h3 h4)
 exact J
end
end L2
namespace L2
open PySem PySem.Spec PyProof.Rows
theorem M6 {H:Hp} {e:Addr} {o:HO} (h:H e=some o):upd H e o=H:=by
 funext b
 by_cases z:b=e
 ·subst z
  rw[af,h]
 ·rw[ah z]
section
variable {X:Cx} {x f:Str} {a b o value ex:Expr} {ta tb tv:TE} {p pos apos pos':Pos}
structure Lk (K:PySem.W.Frag) (HE:Addr):Prop where
 sp:PySem.W.specialIn K (.ref HE) "__getattribute__" =some (some (.builtin "type.__getattribute__"))
 rd:PySem.W.readsIn K HE (.type "type")=true
 fc:PySem.W.findCls K (.ref HE) (.type "type") "__init__" =some (.val (.builtin "ValueError.__init__"))
def M7 (K:PySem.W.Frag) (ta tb:TE):TE:=fun σ H Q=>ta σ H fun v H1=>tb σ H1 fun _ H2=>∃e C HE f dx,v= .ref e∧PySem.W.eY K C HE f∧H2 e=some (tG e C dx)∧Q .cU H2
theorem Fs {HE:Addr} {pl:Sem Bool} (hg:Gl X x) (hm:X.mg x=some (.ref HE)) (B:Lk X.K HE) (ha:PE X a ta) (hb:PE X b tb) (hd:(x==("__debug__" :Str))=false:=by decide)
  (fI:starEach [a,b] X.env=(false,eval a X.env)::starEach [b] X.env:=by rfl) (YW:starEach [b] X.env=(false,eval b X.env)::starEach [] X.env:=by rfl) (iO:(backTo pos (starEach [b] X.env)).any (·.1)=false:=by rfl)
  (ht:eval (.Call (.Attribute (.Name x p) "__init__" apos) [a,b] [] pos) X.env=(do
   let ov←eval (.Name x p) X.env
   standAt apos.atName
   let (f,first)←holding [ov] (getMethod ov "__init__" pl)
   callWith pos f first (backTo pos (starEach [a,b] X.env)) (backToKw pos (keywordEach [] X.env))):=by rfl):
  PE X (.Call (.Attribute (.Name x p) "__init__" apos) [a,b] [] pos) (M7 X.K ta tb):=by
 intro pins s σ H Q I h
 refine PySem.W.methodCall_KW (pl:=pl) (jm I hg hm ?_ hd) ht
 refine PySem.W.method_cls I.jl B.sp (PySem.W.cls_value I.jl B.rd B.fc rfl ?_)
 have I0:=I.tok (s.toks+1)
 refine PyProof.Rows.callWith_builtin1 (bZ (aa ha (aa hb ak YW) fI pos pins _ σ H (fun vs H2=>match vs with| [v,_]=>∃e C HE f dx,v=V.ref e∧PySem.W.eY X.K C HE f∧H2 e=some (tG e C dx)∧Q .cU H2|_=>False) I0 h) fun us s1 ⟨vs,H2,I2,r,q⟩=>?_) fI iO
 match vs,q with
 | [v,u],q=>
   obtain⟨e,C,HE,f,dx,e1,Z,hx,q⟩:=q
   subst e1
   obtain⟨u1,u2,rfl,r1,r2⟩:=vals2 r
   obtain rfl:u1=Value.ref e:=r1
   obtain⟨ob,vs,h1,h2,h3,h4,h5⟩:=vA I2.aS hx
   have sz:1<vs.size:=(Array.getElem?_eq_some_iff.mp h5).1
   refine PySem.W.Fh I2.jl Z h1 h2 h4 (by omega) (by rw[sizeLine_eq,List.length_cons,List.length_nil];decide) fun h' g1 g2=>⟨.cU,H2,?_,rfl,q⟩
   have J:=I2.write (x:=e) (e:=e) (o:=tG e C dx) (h':=h') (t':=s1.toks) (by rw[hx];exact True.intro) (.inl rfl) (fun b o be q=>g2 b o be q) ⟨_,g1⟩ (Fi g1 h2 h3 rfl (by rw[Array.getElem?_setIfInBounds_ne (by decide)];exact h5))
   rw[M6 hx] at J
   exact J
def Q3 (K:PySem.W.Frag) (ta tv:TE) (f:Str):TS:=fun D σ H=>tv σ H fun y H1=>ta σ H1 fun v H2=>∃e C HE g,v= .ref e∧PySem.W.eY K C HE g∧PySem.W.takerIn K C f=some none∧
 ((H2 e=some (tG e C none)∧∀dx,H2 dx=none→dx≠e→D.nx σ (upd (upd H2 dx (zt dx [(f,y)])) e (tG e C (some dx))))∨
  ∃dx fs,H2 e=some (tG e C (some dx))∧H2 dx=some (zt dx fs)∧fs.length<1000∧D.nx σ (upd H2 dx (zt dx (cL f y fs))))
theorem pM (ha:PE X o ta) (hv:PE X value tv) (hs:swapsWith value (some (.Attribute o f pos')) pos.line X.env=pure false):PS X (.Assign [.Attribute o f pos'] value pos) (Q3 X.K ta tv f):=by
 intro pins s σ H D I h
 refine plainObj_wpAny_Assign_Attribute (bZ (hv pins s σ H _ I h) fun u s1 ⟨y,H1,I1,ry,q⟩=>bZ (ha pins s1 σ H1 _ I1 q) fun ov s2 ⟨x,H2,I2,rx,e,C,HE,g,ex,Z,tk,q2⟩=>?_) hs
 subst ex
 obtain rfl:ov=Value.ref e:=rx
 rcases q2 with ⟨hx,q2⟩ | ⟨dx,fs,hx,hd,hl,q2⟩
 ·obtain⟨ob,vs,h1,h2,h3,h4,h5⟩:=vA I2.aS hx
  refine PySem.W.Jk I2.jl Z tk h1 h2 h4 h3 fun h' MP g1 g2 g3=>?_
  have ne:s2.heap.objs.size≠e:=Nat.ne_of_gt (Heap.lt_size h1)
  have fr:=I2.aS.fresh (Nat.le_refl s2.heap.objs.size)
  generalize hN:s2.heap.objs.size=n at g1 g2 ne fr
  have at':∀b o,H2 b=some o→b≠e→upd (upd H2 n (zt n [(f,y)])) e (tG e C (some n)) b=some o:=fun b o q be=>by
   rw[ah be,ah (ag q fr)]
   exact q
  refine⟨σ,upd (upd H2 n (zt n [(f,y)])) e (tG e C (some n)),I2.un (h':=h') (t':=MP) ⟨fun b o q nn _ _=>g3 b o (fun z=>?_) q,fun b o q nn _ _=>⟨o.slots,g3 b o (fun z=>?_) q⟩,fun b o q nn _=>?_,fun b o q _=>?_,fun b xs q=>at' b _ q fun z=>?_,fun b o u q=>at' b _ q fun z=>?_,fun b ps q=>⟨#[],?_⟩⟩ fun b o q=>?_,q2 n fr ne⟩
  ·rw[z,hx] at nn;cases nn
  ·rw[z,hx] at nn;cases nn
  ·rw[ah (fun z=>by rw[z,hx] at nn;cases nn),ah (fun z=>by rw[z,←hN] at q;exact absurd (Heap.lt_size q) (Nat.lt_irrefl _))]
   exact nn
  ·by_cases be:b=e
   ·subst be
    exact⟨_,g1⟩
   ·exact⟨o,g3 b o be q⟩
  ·rw[z,hx] at q;cases q
  ·rw[z,hx] at q;cases q
  ·rw[Array.append_empty]
   exact at' b _ q fun z=>by rw[z,hx] at q;cases q
  ·by_cases be:b=e
   ·subst be
    rw[af] at q
    cases q
    exact Fi g1 h2 rfl h4 h5
   ·rw[ah be] at q
    by_cases bn:b=n
    ·subst bn
     rw[af] at q
     cases q
     refine Lh g2 (fun g=>?_) fun g hg=>?_
     ·by_cases eg:g=f
      ·subst eg
       simp only [List.lookup,beq_self_eq_true,if_true]
       exact ry
      ·have e1:(g==f)=false:=by simpa using eg
       simp only [List.lookup,e1,if_neg eg]
       exact True.intro
     ·by_cases eg:g=f
      ·simp [eg]
      ·exact absurd (if_neg eg) hg
    ·rw[ah bn] at q
     refine(I2.aS b o q).qj (fun c u hc z=>g3 c u (fun ce=>?_) z) (fun c z=>at' c _ z fun ce=>?_) fun c xs z=>at' c _ z fun ce=>?_
     ·rcases hc with hc|hc
      ·exact be (hc.symm.trans ce)
      ·rw[ce,hx] at hc;cases hc
     ·rw[ce,hx] at z;cases z
     ·rw[ce,hx] at z;cases z
 ·obtain⟨ob,vs,h1,h2,h3,h4,h5⟩:=vA I2.aS hx
  obtain⟨mA,n1,r1,w1⟩:=z6 I2.aS hd
  have hz:(fs.map (·.1)).length≤1000:=by rw[List.length_map];omega
  refine PySem.W.Jl I2.jl Z tk h1 h2 h4 h3 n1 w1 hz fun h' g1 sb=>⟨σ,_,?_,q2⟩
  have fK:∃o,h'.get? dx=some o:=let ⟨o,_,_,e',_⟩:=g1;⟨o,e'⟩
  refine I2.write (x:=dx) (e:=dx) (t':=s2.toks+2) (by rw[hd];exact True.intro) (.inl rfl) (fun b q hb z=>(sb.2 b hb).trans z) fK (Lh g1 (fun g=>?_) fun g hg=>?_)
  ·rw[az]
   by_cases q:g=f
   ·rw[if_pos q,if_pos q];exact ry
   ·rw[if_neg q,if_neg q];exact r1 g
  ·by_cases q:g=f
   ·rw[q];exact(iZ f y fs).1
   ·exact(iZ f y fs).2 g (w1 g fun z=>hg (by rw[if_neg q];exact z))
def Q4 (K:PySem.W.Frag) (ta:TE) (f:Str):TE:=fun σ H Q=>ta σ H fun v H1=>∃e C HE g dx fs y,v= .ref e∧PySem.W.eY K C HE g∧PySem.W.findIn K (.ref C) f=some none∧H1 e=some (zZ e C (some dx))∧H1 dx=some (zt dx fs)∧fs.lookup f=some y∧Q y H1
theorem jv (he:PE X ex ta) (hb:attributeBase ex f X.env (eval ex X.env)=eval ex X.env):PE X (.Attribute ex f pos) (Q4 X.K ta f):=by
 intro pins s σ H Q I h
 refine A4 hb (bZ (he pins s σ H _ I h) fun u s1 ⟨x,H1,I1,rx,e,C,HE,g,dx,fs,y,ex,Z,fi,hx,hd,l,q⟩=>?_)
 subst ex
 obtain rfl:u=Value.ref e:=rx
 obtain⟨ob,vs,h1,h2,h3,h4⟩:=qO I1.aS hx
 obtain⟨mA,n1,r1,w1⟩:=z6 I1.aS hd
 obtain⟨od,ho,hl⟩:=nV n1
 obtain⟨u,hu,ru⟩:=ij.some_of (v:=y) (o:=mA f) (by rw[←l];exact r1 f)
 obtain⟨cd,pq,_,hh⟩:=Z.cd
 have J:PySem.W.InstAt s1.heap e ob C (some od):=⟨h1,h2,by unfold PySem.W.notCls;rw[h4],by rw[h3];exact ho⟩
 exact PySem.W.MZ I1.jl Z J (PySem.W.findObj_own (by unfold PySem.W.hasDictIn;rw[pq];exact hh) fi rfl (by rw[hl,hu])) (sP ru) ⟨y,H1,I1.tok _,ru,q⟩
def YX (ta:TE):TE:=fun σ H Q=>ta σ H fun v H1=>(∃i,v= .int i∧i.natAbs.log2<1920∧Q (.str (toString i)) H1)∨∃y,v= .str y∧y.length≤sizeLine∧Q (.str y) H1
theorem vC (he:PE X ex ta):PE X (.FormattedValue ex (-1) none pos) (YX ta):=by
 intro pins s σ H Q I h
 refine FormattedValue_plain (bZ (he pins s σ H _ I h) fun u s1 ⟨v,H1,I1,rv,q⟩=>?_)
 rcases q with ⟨i,rfl,hi,q⟩ | ⟨y,rfl,hy,q⟩
 ·obtain⟨t,rfl⟩:=rv
  exact formatField_int_small hi ⟨.str (toString i),H1,I1.tok _,⟨_,rfl⟩,q⟩
 ·obtain⟨t,rfl⟩:=rv
  exact formatField_str (fun t' tk=>⟨.str y,H1,I1.tok tk,⟨_,rfl⟩,q⟩) hy
def PF (X:Cx) (es:List Expr) (t:Str→TE):Prop:=
 ∀(acc:Str) (pins:List (Addr×Obj)) (s:Shared) (σ:St) (H:Hp) (Q:VK),Inv X pins σ H s→t acc σ H Q→wpAny (model X.prog X.w) X.A (joinParts acc (evalEach es X.env)) (EP X pins σ Q) X.xe s
def Q5:Str→TE:=fun acc _ H Q=>acc.length≤sizeLine∧Q (.str acc) H
def M8 (te:TE) (t:Str→TE):Str→TE:=fun acc σ H Q=>te σ H fun v H1=>∃y,v= .str y∧(acc++y).length≤sizeLine∧t (acc++y) σ H1 Q
theorem M9:PF X [] Q5:=fun acc pins s σ H Q I h=>joinParts_nil ⟨.str acc,H,I.tok _,⟨_,rfl⟩,h.2⟩ h.1
theorem ix {es:List Expr} {t:Str→TE} (he:PE X ex ta) (hr:PF X es t) (hs:evalEach (ex::es) X.env=eval ex X.env::evalEach es X.env:=by rfl):PF X (ex::es) (M8 ta t):=by
 intro acc pins s σ H Q I h
 rw[hs]
 refine joinParts_cons (bZ (he pins s σ H _ I h) fun u s1 ⟨v,H1,I1,rv,y,ev,hz,q⟩=>?_)
 subst ev
 obtain⟨t',rfl⟩:=rv
 exact⟨hz,hr (acc++y) pins s1 σ H1 Q I1 q⟩
theorem Jn {v1 v2:Expr} {es:List Expr} {t:Str→TE} (h:PF X (v1::v2::es) t):PE X (.JoinedStr (v1::v2::es) pos) (t Str.empty):=fun pins s σ H Q I hw=>JoinedStr_many (h Str.empty pins s σ H Q I hw)
end
end L2
namespace PySem.W
open PySem PySem.Calls PyProof.Rows
structure Jo (K:Frag) (PC:Addr):Prop where
 obj:∃(nm q:Str) (N:Addr) (bs bm:List Value) (hd:Bool) (sn:List Str) (sub:List Value) (ab:Bool) (col:Option Bool) (dd:Option Addr) (k0 k1 k2 k3 k5:Option Value) (Xp:String),
  K.lookup PC=some (excClassObj nm q PC N bs bm hd sn sub ab col dd k0 k1 k2 k3 k5 Xp)∧bm.contains (.type "BaseException")=true
theorem z8 {M:Model} {A:Around} {E:Value→Shared→Prop} {s:Shared} {K:Frag} {C HE f e PC:Addr} {ox:Obj} {b:Bool} {Q:Bool→Shared→Prop} (X:K.In s.heap) (Z:eY K C HE f) (Y:Jo K PC) (hx:s.heap.get? e=some ox) (hc:ox.cls= .ref C)
  (hm:mroIn K C (.ref PC)=some b) (k:Q b s):wpAny M A (excMatches (.ref e) (.ref PC)) Q E s:=by
 obtain⟨nm,q,N,bs,sn,sub,ab,col,dd,k0,k1,k2,k3,k5,hK⟩:=Z.obj
 obtain⟨nm',q',N',bs',bm,fK,sn',sub',ab',col',CU,k0',k1',k2',k3',k5',Xp,hP,hB⟩:=Y.obj
 obtain⟨cd,pq,em,_⟩:=Z.cd
 have cb:(Value.ref C:: .ref HE::zr).contains (.ref PC)=b:=by
  unfold mroIn at hm
  rw[pq,Option.bind_some,em] at hm
  exact Option.some.inj hm
 have kC:=X _ _ hK
 have kP:=X _ _ hP
 have cB:(Value.ref PC::bm).contains (.type "BaseException")=true:=by rw[List.contains_cons,hB,Bool.or_true]
 have ft:=tc_notTuple
 obtain⟨hp,g,d,tk,os⟩:=s
 unfold excMatches
 repeat (first| (with_reducible refine wpAny_loadPart_at hx ?_;rw[hc]) |with_reducible refine wpAny_loadPart_at kP ?_| (with_reducible refine wpAny_isSubtype_exc kP ?_;rw[cB]) | (with_reducible refine wpAny_isSubtype_exc kC ?_;rw[cb]) |wp_step)
 cases b<;>(wp_walk;exact k)
end PySem.W
namespace L2
open PySem PySem.Spec PyProof.Rows
abbrev Cx.pinned (X:Cx) (pn:List (Addr×Obj)):Cx:={ X with pn:=X.pn++pn }
abbrev Cx.mark (X:Cx) (e:Addr):Cx:={ X with A:=X.A.mark (some (.ref e)),calm:=false,xe:=fun _ _=>False }
section
variable {X:Cx} {pins pn:List (Addr×Obj)} {σ:St} {H:Hp} {s:Shared} {ER:St→XK} {v:Value} {D:Ends} {fl:Flow}
theorem Cx.Ok.pinned (ok:X.Ok):(X.pinned pn).Ok:=⟨ok.mod,ok.kind,ok.glob,ok.blt,ok.above,ok.inj,ok.has,ok.Iv,ok.hd,ok.frames,ok.K0,ok.Pt,ok.bs,ok.CL,ok.u0,ok.u3,ok.lz,ok.Ez⟩
theorem Cx.Ok.f6 (ok:(X.pinned pn).Ok):X.Ok:=⟨ok.mod,ok.kind,ok.glob,ok.blt,ok.above,ok.inj,ok.has,ok.Iv,ok.hd,ok.frames,ok.K0,ok.Pt,ok.bs,ok.CL,ok.u0,ok.u3,ok.lz,ok.Ez⟩
theorem Inv.YY (I:Inv X pins σ H s):Inv (X.pinned pins) [] σ H s:=⟨I.ok.pinned,I.os,I.bare,I.base,I.loc,I.cell,I.free,I.gw,fun p hp=>I.pin p (by simpa using hp),I.aS,I.len⟩
theorem Inv.Jp (I:Inv (X.pinned pn) pins σ H s):Inv X pn σ H s:=⟨I.ok.f6,I.os,I.bare,I.base,I.loc,I.cell,I.free,I.gw,fun p hp=>I.pin p (List.mem_append_left _ hp),I.aS,I.len⟩
theorem SP.f6 (h:SP (X.pinned pn) pins D fl s):SP X pn D fl s:=by
 cases fl with
 |next=>obtain⟨σ',H',I,q⟩:=h;exact⟨σ',H',I.Jp,q⟩
 |brk=>obtain⟨σ',H',I,q⟩:=h;exact⟨σ',H',I.Jp,q⟩
 |cont=>obtain⟨σ',H',I,q⟩:=h;exact⟨σ',H',I.Jp,q⟩
 |ret u=>obtain⟨v,σ',H',I,r,q⟩:=h;exact⟨v,σ',H',I.Jp,r,q⟩
theorem Jq:Lets X (fun _ _ _ _=>False):=fun _ _ ⟨_,_,_,_,_,_,_,_,_,_,_,z⟩=>z.elim
theorem Inv.mark (I:Inv X pins σ H s) (e:Addr):Inv (X.mark e) pins σ H s:=
 ⟨⟨I.ok.mod,I.ok.kind,I.ok.glob,I.ok.blt,I.ok.above,I.ok.inj,I.ok.has,I.ok.Iv,fun z=>(by cases z),I.ok.frames,I.ok.K0,I.ok.Pt,I.ok.bs,I.ok.CL,I.ok.u0,I.ok.u3,I.ok.lz,I.ok.Ez⟩,I.os,I.bare,I.base,I.loc,I.cell,I.free,I.gw,I.pin,I.aS,I.len⟩
theorem Inv.unmark {e:Addr} (I:Inv (X.mark e) pins σ H s) (ok:X.Ok):Inv X pins σ H s:=⟨ok,I.os,I.bare,I.base,I.loc,I.cell,I.free,I.gw,I.pin,I.aS,I.len⟩
def PH (X:Cx) (hs:List ExceptHandler) (th:Ends→St→XK):Prop:=
 ∀(s:Shared) (σ:St) (H:Hp) (D:Ends) (e C:Addr) (dx:Option Addr) (T:Addr),Inv X [] σ H s→H e=some (zZ e C dx)→s.heap.n9 e (some T)→H T=none→ka X T→th D σ (.ref C) dx H→
  wpAny (model X.prog X.w) X.A (handleBy (.ref e) X.env hs) (SP X [] D) X.xe s
theorem Na (L:Lets X ER):PH X [] (fun _=>ER):=by
 intro s σ H D e C dx T I he fl hT nT hE
 refine wpAny_handleBy_nil ?_
 obtain⟨oe,vs,h1,h2,h3⟩:=id fl.ex
 unfold PySem.passOn
 refine wpAny_bind (wpAny_field h1 h2 h3 ?_)
 rw[if_neg (by simp)]
 have ht:∀T',some T=some T'→H T'=none∧ka X T':=fun T' z=>by cases z;exact⟨hT,nT⟩
 refine wpAny_bind (jb fl fun h' a m=>wpAny_throw (L _ _ ⟨e,C,dx,σ,H,some T,rfl,I.moved he ht (m.mono fun _ z=>absurd z (by simp)),he,a,ht,hE⟩))
def Q6 (K:PySem.W.Frag) (PC:Addr) (i:Nat) (ts:TS) (tr:Ends→St→XK):Ends→St→XK:=fun D σ cv dx H=>
 ∃C HE f b,cv= .ref C∧PySem.W.eY K C HE f∧PySem.W.mroIn K C (.ref PC)=some b∧
  if b=true then∀e,H e=some (zZ e C dx)→ts { D with nx:=fun σ1 H1=>D.nx (σ1.set i none) H1,bk:=fun σ1 H1=>D.bk (σ1.set i none) H1,ct:=fun σ1 H1=>D.ct (σ1.set i none) H1 } (σ.set i (some (.ref e))) H else tr D σ cv dx H
theorem name_goes {i:Nat} {n:Str} {pos:Pos} {Q:Unit→Shared→Prop} {A:Around} {E:Value→Shared→Prop} (I:Inv X pins σ H s) (hN:X.N.Nodup) (hi:X.N[i]? =some n) (hl:X.env.scope.names.lookup n=some .local)
  (k:∀s',Inv X pins (σ.set i none) H s'→Q () s'):wpAny (model X.prog X.w) A (do bindName X.env n .none;unbindBehindTheSuite X.env n pos) Q E s:=by
 have Mp:(X.env.scope.kind== .class||(X.env.scope.kind== .module&&X.env.locals != X.env.globals))=false:=by rw[I.ok.kind];rfl
 refine wpAny_bind (wpAny_bindName (store_ok I hN hi (.inl hl) (v:= .cU) rfl (fun s1 J=>?_) (.inr hl)))
 have hii:i<σ.length:=by rw[I.len];exact(List.getElem?_eq_some_iff.mp hi).1
 obtain⟨m,hn,Pz⟩:=id J.loc
 obtain⟨u,_,lk⟩:=Pz i n .cU hi (by rw[List.getElem?_set_self hii]) (.inl hl)
 have hmn:(m n).isSome=true:=by
  rcases lk with ⟨_,z⟩ | ⟨z,_⟩
  ·rw[z];rfl
  ·rcases z with z|z
   ·have:X.env.scope.names.lookup n=some .cell:=z
    rw[hl] at this;cases this
   ·have:X.env.scope.names.lookup n=some .free:=z
    rw[hl] at this;cases this
 unfold unbindBehindTheSuite
 refine wpAny_onRaise ?_
 unfold unbindName
 refine wpAny_bind (wpAny_point (wpAny_bind ?_))
 unfold deleteName
 have kl:X.env.kindOf n=some .local:=hl
 simp only [kl,Mp]
 rw[if_neg (by decide)]
 refine wpAny_bind (wpAny_nsDel_keeps hn fun h2 v2 K7 sb=>?_)
 rw[hmn]
 refine wpAny_pure (wpAny_point (k _ ?_))
 obtain⟨oL,_,_,Pu,_⟩:=id hn
 have lo:∀b o,X.s₀.heap.get? b=some o→b≠X.env.locals:=fun b o q=>Nat.ne_of_lt (Nat.lt_of_lt_of_le (Heap.lt_size q) J.ok.above)
 refine⟨J.ok,J.os,J.bare,⟨fun b o e nn hb hx=>(sb.2 b (lo b o e)).trans (J.base.keep b o e nn hb hx),fun b o e nn hb hx=>?_,J.base.free,fun b o e hx=>?_,J.base.nN,J.base.nO,J.base.nP⟩,⟨_,K7,fun j y v' e1 e2 e3=>?_⟩,fun y c e=>?_,J.free,J.gw,fun p hp=>?_,fun b ob e=>?_,by simpa using I.len⟩
 ·obtain⟨sl,e1⟩:=J.base.slot b o e nn hb hx
  exact⟨sl,(sb.2 b (lo b o e)).trans e1⟩
 ·obtain⟨o',e1⟩:=J.base.there b o e hx
  exact⟨o',(sb.2 b (lo b o e)).trans e1⟩
 ·by_cases hj:j=i
  ·subst hj
   rw[List.getElem?_set_self hii] at e2
   cases e2
  ·rw[List.getElem?_set_ne (Ne.symm hj)] at e2
   obtain⟨u',r',q⟩:=Pz j y v' e1 (by rw[List.getElem?_set_ne (Ne.symm hj)];exact e2) e3
   refine⟨u',r',?_⟩
   rcases q with ⟨k,e⟩ | ⟨k,c,e,z⟩
   ·refine .inl ⟨k,?_⟩
    have:y≠n:=fun e=>hj (ql hN e1 (e▸hi))
    simp [this,e]
   ·exact .inr ⟨k,c,e,z.sameBut sb (J.Iw y c e)⟩
 ·obtain⟨w',z⟩:=J.cell y c e
  exact⟨w',z.sameBut sb (J.Iw y c e)⟩
 ·obtain⟨e,nn,ne,nf,d⟩:=J.pin p hp
  exact⟨(sb.2 p.1 ne).trans e,nn,ne,nf,d⟩
 ·refine(J.aS b ob e).qj (fun c w' hc q=>(sb.2 c ?_).trans q) (fun _ q=>q) fun _ _ q=>q
  rintro rfl
  rcases hc with rfl|hc
  ·rw[J.free] at e;cases e
  ·rw[J.free] at hc;cases hc
theorem Q7 {x n:Str} {np pos:Pos} {b0:Stmt} {x6:List Stmt} {rest:List ExceptHandler} {PC:Addr} {i:Nat} {ts:TS} {tr:Ends→St→XK} (hg:Gl X x) (hm:X.mg x=some (.ref PC)) (Y:PySem.W.Jo X.K PC) (hN:X.N.Nodup) (hi:X.N[i]? =some n)
  (hl:X.env.scope.names.lookup n=some .local) (YZ:∀e,lM (X.mark e) (b0::x6) ts) (hr:PH X rest tr) (hd:(x==("__debug__" :Str))=false:=by decide):
  PH X (.ExceptHandler (some (.Name x np)) (some n) (b0::x6) pos::rest) (Q6 X.K PC i ts tr):=by
 intro s σ H D e C dx T I he fl hT nT hE
 obtain⟨C',HE,f,b,ec,Z,mb,hE⟩:=hE
 cases ec
 obtain⟨o,vs,o1,o2,o3,o4⟩:=qO I.aS he
 have ht:∀T',some T=some T'→H T'=none∧ka X T':=fun T' z=>by cases z;exact⟨hT,nT⟩
 refine wpAny_handleBy_cons (codeAny_handlers_test (jm (X:=X.mark e) (I.mark e) hg hm (PySem.W.z8 I.jl Z Y o1 o2 mb ?_) hd)) (by intro z;cases z)
 cases b with
 |false=>exact hr s σ H D e C dx T I he fl hT nT hE
 |true=>
  have hE:=hE e he
  refine codeAny_handlers_suite_as (jb fl fun h1 a m=>?_)
  have I1:=I.moved he ht (m.mono fun _ z=>absurd z (by simp))
  refine store_ok I1 hN hi (.inl hl) (v:= .ref e) rfl (fun s2 I2=>?_) (.inr hl)
  refine wpAny_mono (YZ e [] s2 _ H _ (I2.mark e) hE) (fun f s3 q=>?_) fun _ _ z=>False.elim z
  cases f with
  |next=>
   obtain⟨σ',H',I3,q⟩:=q
   exact name_goes (I3.unmark I.ok) hN hi hl fun s4 I4=>⟨_,H',I4,q⟩
  |brk=>
   obtain⟨σ',H',I3,q⟩:=q
   exact name_goes (I3.unmark I.ok) hN hi hl fun s4 I4=>⟨_,H',I4,q⟩
  |cont=>
   obtain⟨σ',H',I3,q⟩:=q
   exact name_goes (I3.unmark I.ok) hN hi hl fun s4 I4=>⟨_,H',I4,q⟩
  |ret u=>
   obtain⟨v,σ',H',I3,r,q⟩:=q
   exact name_goes (I3.unmark I.ok) hN hi hl fun s4 I4=>⟨v,_,H',I4,r,q⟩
def Q8 (tb:(St→XK)→TS) (th:Ends→St→XK):TS:=fun D σ H=>tb (th D) D σ H
theorem Jr {body:List Stmt} {h0:ExceptHandler} {hs:List ExceptHandler} {pos:Pos} {tb:(St→XK)→TS} {th:Ends→St→XK} (fm:Jm X) (hb:∀pn ER',lM ((X.pinned pn).j2 (mB (X.pinned pn) ER')) body (tb ER')) (hh:∀pn,PH (X.pinned pn) (h0::hs) th):
  PS X (.Try body (h0::hs) [] [] pos) (Q8 tb th):=by
 intro pins s σ H D I h
 have fin:∀{f s1},SP (X.pinned pins) [] D f s1→SP X pins D f s1:=fun q=>q.f6
 refine wpAny_Try_except (wpAny_mono (hb pins (th D) [] s σ H D (I.YY.j2 _) h) (fun f s1 q=>?_) fun v s1 z=>?_)
 ·have q:=fin q.d5
  cases f with
  |next=>exact wpAny_execs_nil q
  |brk=>exact q
  |cont=>exact q
  |ret u=>exact q
 ·obtain⟨e,C,dx,σ1,H1,tb,ev,I1,he,fl,ht,hE⟩:=z
  subst ev
  have Y0:Jm (X.pinned pins):=fm
  obtain⟨fr,ff⟩:=oa Y0 I1
  refine vy fr ff Y0.2 fl fun h2 T a b m=>?_
  have m1:Heap.Moved (xr (X.pinned pins).stack) e tb s1.heap h2:=by unfold xr;rw[Y0.1];exact m
  have I2:=I1.moved he ht m1
  have t1:=z7 I1 ht b
  refine jb (s:={ s1 with heap:=h2 }) a fun h3 a3 m3=>?_
  have I3:=I2.moved he t1 (m3.mono fun _ z=>absurd z (by simp))
  exact bZ (hh pins _ σ1 H1 D e C dx T I3 he a3 (t1 T rfl).1 (t1 T rfl).2 hE) fun f s4 q=>fin q
end
end L2
namespace L2
open PySem PySem.Spec PyProof.Rows
def Q9 (a:Addr) (o:Obj) (kvs:List (Key×V)):It:=
 ⟨fun i H=>H a=some (.fH o (.dK kvs))∧i<kvs.length,fun i H x H'=>∃p k v,kvs[i]? =some (k,v)∧H p=none∧H'=upd H p (.tup [kV k,v])∧x= .ref p,fun i H=>H a=some (.fH o (.dK kvs))∧kvs.length≤i⟩
theorem Dd:entryFor table "dict_itemiterator.__iter__" =some Builtin.«dict_keyiterator.__iter__» :=entryFor_alias (id':="dict_keyiterator.__iter__") (by kernel_rfl) rfl (by decide+kernel) (by kernel_rfl)
theorem Ft {prog:Program} {w:World} {A:Around} {E:Value→Shared→Prop} {s:Shared} {it:Addr} {Q:Value→Shared→Prop} (ht:s.TypeIs (.ref it) "dict_itemiterator") (h:Q (.ref it) s):wpAny (model prog w) A (pyIter (.ref it)) Q E s:=by
 refine wpAny_pyIter_slot ht PySem.F.slot_dict_itemiterator_iter (wpAny_call_entry PySem.F.slot_dict_itemiterator_iter ht Dd ?_ (PySem.F.args_dict_itemiterator_iter_1 _))
 exact wpAny_pure ⟨_,rfl,"dict_itemiterator",_,ht,PySem.F.slot_dict_itemiterator_next.lookup,h⟩
theorem z9 {P:Program} {w:World} {K:PySem.W.Frag} {elts:List Expr} {x1} {sA:Pos} (a it:Addr) (o:Obj) (kvs:List (Key×V)) {es:Array DictEntry} {ep:Nat} (hd:o.data= .dict es ep):
  Turn P w K (.Tuple elts x1 sA) (Q9 a o kvs) [it] it (fun i h=>∃ok ov,IsItemIter h it a i kvs.length ep ok ov) where
 mem:=by simp
 obj:=fun i h st b hb=>by
  have e:b=it:=by simpa using hb
  subst e
  obtain⟨ok,ov,q⟩:=st
  exact⟨_,q,fun v z=>by cases z⟩
 keep:=fun i h h' st k=>let ⟨ok,ov,q⟩:=st;⟨ok,ov,k it (by simp) _ q⟩
 item:=by
  intro X hP hw hK hc i pins s σ H E I hf st hg
  subst hP hw hK
  obtain⟨hz,hi⟩:=hg
  obtain⟨ok,ov,st⟩:=st
  obtain⟨vs,rel,dd,hs⟩:=vk I.aS hz hd
  obtain⟨k,v,C1⟩:∃k v,kvs[i]? =some (k,v):=⟨kvs[i].1,kvs[i].2,by simp [hi]⟩
  obtain⟨u,hu,ru⟩:=rel.get C1
  rw[rel.length] at st
  refine wpAny_pyNext_items_item st dd hu fun key h' hk a1 a2 a3 a4=>⟨_,rfl,?_⟩
  refine wpAny_letOwnedTupleGo_items (s:={ s with heap:=h' }) a1 fun QY b1 b2=>?_
  have up:∀c q,c≠it→h'.get? c=some q→QY.get? c=some q:=fun c q n z=>b2.extBut _ _ n z
  have ne:s.heap.objs.size≠it:=Nat.ne_of_gt (Heap.lt_size st)
  have j6:=up _ _ ne a2
  have I1:Inv X pins σ (upd H s.heap.objs.size (.tup [kV k,v])) { s with heap:=QY,toks:=s.toks }:=by
   refine I.Ba (ch:=[it]) (fun b q hb z=>?_) hf (Nat.le_refl _) ⟨by show 2≤sizeLine;decide,[key,u], .cons (vj hk) (.cons ru .nil),⟨_,j6,rfl,_,rfl⟩⟩
   have hb:b≠it:=by simpa using hb
   exact up _ _ hb (a4 b q hb z)
  refine⟨.ref s.heap.objs.size,_,I1,rfl,⟨_,k,v,C1,I.aS.fresh (Nat.le_refl _),rfl,rfl⟩,⟨key,u,?_⟩,fun b hb=>?_⟩
  ·rw[rel.length];exact b1
  ·have e:b=it:=by simpa using hb
   rw[ah (by rw[e];exact Ne.symm ne)]
   exact(hf b hb).1
 done:=by
  intro X hP hw hK hc i pins s σ H E I hf st hg
  subst hP hw hK
  obtain⟨hz,hi⟩:=hg
  obtain⟨ok,ov,st⟩:=st
  obtain⟨vs,rel,dd,hs⟩:=vk I.aS hz hd
  rw[rel.length] at st hi
  refine wpAny_pyNext_items_end (I.ok.hd hc) st dd (List.getElem?_eq_none hi) fun h' eb=>⟨rfl,I.Bb (t':=s.toks) (ch:=[it]) (fun b q hb z=>?_) hf⟩
  exact eb b q (by simpa using hb) z
 self:=fun _ _ _ _ _ st h=>by
  obtain⟨ok,ov,st⟩:=st
  exact Ft ⟨_,st,rfl⟩ h
section
variable {X:Cx} {tg:Expr}
def Nb (X:Cx) (td:TE):TI:=fun σ H R=>td σ H fun x H1=>∃a kvs,x= .ref a∧H1 a=some (.dK kvs)∧∀o,NF X a→R (Q9 a o kvs) (upd H1 a (.fH o (.dK kvs)))
theorem Fu {elts:List Expr} {x1} {sA:Pos} {l:Expr} {tl:TE} {apos pos:Pos} (hl:PE X l tl) (hb:attributeBase l "items" X.env (eval l X.env)=eval l X.env:=by rfl) (EV:(apos.endLine==pos.line)=true:=by rfl):
  PI X (.Tuple elts x1 sA) (.Call (.Attribute l "items" apos) [] [] pos) (Nb X tl):=by
 intro pins s σ H R I h
 refine wpAny_Call_method (T:="dict") (id:="dict.items") hb rfl EV PySem.F.plainAttrs_dict PySem.F.slot_dict_items PySem.F.type_dict_items (bZ (hl pins s σ H _ I h) fun v s1 ⟨x,H1,I1,r1,q1⟩=>?_)
 obtain⟨a,kvs,e,hk,q⟩:=q1
 subst e
 cases r1
 obtain⟨o,ho,I2⟩:=I1.freeze hk
 obtain⟨z,hs,vs,rel,dd⟩:=qx I1.aS hk
 obtain⟨ep,da⟩:=id dd.dictAt
 obtain⟨o',es,xt,ex,hd,hr⟩:=id da
 rw[ho] at xt;cases xt
 refine⟨dd.typeIs,dd.mapOf.noDict,method_meetsIn PySem.F.slot_dict_items PySem.F.entry_dict_items rfl (PySem.evalArgs_none ⟨rfl,dd.typeIs,PySem.F.args_dict_items_1 _,_,meets_dict_items _ a hs,⟨vs,dd⟩,?_⟩)⟩
 have kv:∀b q,s1.heap.get? b=some q→(s1.heap.push { cls:= .type "dict_items",data:= .fields #[.ref a] }).get? b=some q:=fun b q e=>Heap.get?_push_of_some _ e
 have da2:(s1.heap.push { cls:= .type "dict_items",data:= .fields #[.ref a] }).DictAt (bE X.prog X.w) a vs ep:=⟨o,es,kv _ _ ho,ex,hd,hr⟩
 refine wpAny_pyIter_items (s:={ s1 with heap:=s1.heap.push { cls:= .type "dict_items",data:= .fields #[.ref a] } }) ⟨_,Heap.get?_push_size _ rfl,rfl,rfl⟩ da2 ?_
 have I3:=I2.kept (t':=s1.toks) kv
 refine⟨(s1.heap.push { cls:= .type "dict_items",data:= .fields #[.ref a] }).objs.size,[(s1.heap.push { cls:= .type "dict_items",data:= .fields #[.ref a] }).objs.size],_,_,_,rfl,I3.kept (t':=s1.toks) fun b o e=>Heap.get?_push_of_some _ e,z9 a _ o kvs hd,?_,fun b hb=>?_,q o (I1.nf hk)⟩
 ·rw[rel.length]
  exact⟨_,_,Heap.get?_push_size _ rfl⟩
 ·have e:b=(s1.heap.push { cls:= .type "dict_items",data:= .fields #[.ref a] }).objs.size:=by simpa using hb
  subst e
  exact I3.zE (Nat.le_refl _) (I3.aS.fresh (Nat.le_refl _))
end
section
variable {K:PySem.W.Frag} {g:TG} {tt:TT} {te:TE}
theorem De {J:It} {L:Addr} {Q:Hp→Prop} {σ:St} {H:Hp} (n:Nat) (H0:Hp) (S:St→Prop) (Pv:Nat→List V→Hp→Prop) (MT:∀i H',i<n→au H0 H'→J.go i H') (qJ:∀H',au H0 H'→J.stop n H') (zW:∀i ys H H',Le L H H'→Pv i ys H→Pv i ys H')
  (zV:H0 L=none) (hσ:S σ) (h0:au H0 H) (hL:H L=some (.lst [])) (p0:Pv 0 [] H) (hz:n≤sizeLine) (hl:∀i ys H,Pv i ys H→ys.length≤i)
  (turn:∀i σ H' ys,i<n→S σ→au H0 H'→H' L=some (.lst ys)→Pv i ys H'→∀(N:St→V→Hp→Prop) (M:St→Hp→Prop),(∀σ3 y H5,S σ3→au H0 H5→H5 L=some (.lst ys)→Pv (i+1) (ys++[y]) H5→N σ3 y H5)→(∀σ3 H4,S σ3→au H0 H4→H4 L=some (.lst ys)→Pv (i+1) ys H4→M σ3 H4)→
   ∀x H2,J.pE i H' x H2→g x σ H2 fun σ3 H3=>tt σ3 H3 fun b H4=>if b=true then te σ3 H4 fun y H5=>N σ3 y H5 else M σ3 H4)
  (fin:∀H' ys,au H0 H'→H' L=some (.lst ys)→Pv n ys H'→Q H'):
  ∃W:Nat→Nat→St→Hp→Prop,(∃m,W 0 m σ H)∧∀i m σ H,W i m σ H→(J.stop i H∧Q H)∨(J.go i H∧∀x H2,J.pE i H x H2→g x σ H2 fun σ3 H3=>tt σ3 H3 fun b H4=>if b=true
   then te σ3 H4 fun y H5=>∃ys,H5 L=some (.lst ys)∧ys.length<sizeLine∧∃m',m'<m∧W (i+1) m' σ3 (upd H5 L (.lst (ys++[y])))
   else∃m',m'<m∧W (i+1) m' σ3 H4):=by
 refine⟨fun i m σ H=>m+i=n∧S σ∧au H0 H∧∃ys,H L=some (.lst ys)∧Pv i ys H,⟨n,rfl,hσ,h0,[],hL,p0⟩,?_⟩
 rintro i m σ H ⟨hm,hs,fu,ys,C5,hp⟩
 by_cases hi:i<n
 ·refine .inr ⟨MT i H hi fu,fun x H2 hy=>turn i σ H ys hi hs fu C5 hp _ _ (fun σ3 y H5 k1 k2 k3 k4=>?_) (fun σ3 H4 k1 k2 k3 k4=>?_) x H2 hy⟩
  ·refine⟨ys,k3,by have:=hl i ys H hp;omega,m - 1,by omega,by omega,k1,fun b o e=>?_,ys++[y],af,zW _ _ _ _ Le.upd k4⟩
   rw[ah (ag e zV)];exact k2 b o e
  ·exact⟨m - 1,by omega,by omega,k1,k2,ys,k3,k4⟩
 ·have e:i=n:=by omega
  subst e
  exact .inl ⟨qJ H fu,fin H ys fu C5 hp⟩
theorem items_go {a:Addr} {ob:Obj} {kvs:List (Key×V)} {H0:Hp} (ha:H0 a=some (.fH ob (.dK kvs))):∀i H',i<kvs.length→au H0 H'→(Q9 a ob kvs).go i H':=fun _ _ hi e=>⟨e _ _ ha,hi⟩
theorem Aa {a:Addr} {ob:Obj} {kvs:List (Key×V)} {H0:Hp} (ha:H0 a=some (.fH ob (.dK kvs))):∀H',au H0 H'→(Q9 a ob kvs).stop kvs.length H':=fun _ e=>⟨e _ _ ha,Nat.le_refl _⟩
end
end L2
namespace L2
open PySem PySem.Spec PyProof.Rows PySem.W
section
variable {X:Cx}
theorem tH {P:Program} {w:World}:∀{us:List Value} {ks:List Key},us.length=ks.length→(∀(j:Nat) (k:Key) (u:Value),ks[j]? =some k→us[j]? =some u→(bE P w).is k u=true)→Vals (ks.map kV) us
 | [],[],_,_=> .nil
 | [],_::_,h,_=>by simp at h
 |_::_,[],h,_=>by simp at h
 |u::us,k::ks,h,q=> .cons (vj (q 0 k u rfl rfl)) (tH (by simpa using h) fun j k' u' h1 h2=>q (j+1) k' u' (by simpa using h1) (by simpa using h2))
theorem qQ (hc:X.calm=true):gy X (.type "list") (fun xs H Q=>∃p kvs,xs=[.ref p]∧Rd H p (.dK kvs)∧∀l,H l=none→Q (.ref l) (upd H l (.lst (kvs.map fun q=>kV q.1)))):=by
 intro pins s σ H xs us Q I r h
 obtain⟨p,kvs,rfl,hk,q⟩:=h
 obtain⟨u,rfl,ru⟩:=vals1 r
 cases ru
 obtain⟨z,lo,vs,rel,dd⟩:=mj I.aS hk
 obtain⟨ep,da⟩:=dd.dictAt
 have hz:vs.length≤sizeLine:=by rw[←rel.length];exact z
 refine kdl_call (kdl_dict (knd:=bE X.prog X.w) (kvs:=vs) (ep:=ep) lo) (I.ok.hd hc) da hz fun h' tk xs c kp at' its=>?_
 have xv:kvs.map (·.1)=vs.map (·.1):=rel.keys
 refine⟨.ref s.heap.objs.size,_,I.laid (t':=tk) (o:= .lst (kvs.map fun q=>kV q.1)) kp (Nat.le_refl _) ⟨by rw[List.length_map];exact z,xs.toList,c,?_,at'⟩,rfl,q _ (I.aS.fresh (Nat.le_refl _))⟩
 have e1:(kvs.map fun q=>kV q.1)=(vs.map (·.1)).map kV:=by rw[←xv,List.map_map];rfl
 rw[e1]
 refine tH (P:=X.prog) (w:=X.w) (by rw[Array.length_toList,its.1,List.length_map]) fun j k u h1 h2=>?_
 obtain⟨k',x,h3,h4⟩:=its.2 j u (by simpa using h2)
 rw[List.getElem?_map,h3] at h1
 cases h1
 exact h4
end
end L2
namespace L2
open PySem PySem.Spec PyProof.Rows
section
variable {P:Program} {w:World} {K:PySem.W.Frag} {mg:Str→Option Value} {base:Heap}
def Js (K:PySem.W.Frag) (C:Addr) (q:Str) (st:Stmt) (ps:List Str):Prop:=∃f fd dV,xX K "__init__" q st f fd dV∧Mk K C f∧Binds K fd ps []∧Binds K fd ps [.none]
structure Y1 (P:Program) (w:World) (K:PySem.W.Frag) (mg:Str→Option Value) (base:Heap) (CX:A5) (k:Nat) (C:Addr) (ps:List Str) (sp:Sp) (f:Addr) (fd:FuncData):Prop where
 ok:fe P w K mg base CX k f fd ps sp
 m:Mk K C f
 b0:Binds K fd ps []
 b1:Binds K fd ps [.none]
def Fv (P:Program) (w:World) (K:PySem.W.Frag) (mg:Str→Option Value) (base:Heap) (CX:A5) (k:Nat) (C:Addr) (ps:List Str) (sp:Sp):Prop:=∃f fd,Y1 P w K mg base CX k C ps sp f fd
theorem Js.di {C:Addr} {q:Str} {st:Stmt} {N ps:List Str} {k:Nat} {sp:Sp} (D:Js K C q st ps) (S:ax N ps (aj st)) (len:∀vs H Q E,sp vs H Q E→vs.length=ps.length)
  (dv:∀(f:Addr) (bA:Value) (A:Around) (outer:List Env) (s:Shared) (H:Hp) (vs:List V) (Q:VK) (E:XK),cV k (A.deeper (envOfC q (aj st) s.heap.objs.size f bA))→sp vs H Q E→
   ∃t,lM (js qB P w K mg base N q (aj st) f bA A outer s H E).ED (a5 st) t∧t { nx:=fun _ H'=>Q .cU H',rt:=Q } (start N vs) H):Fv P w K mg base qB (k+1) C ps sp:=by
 obtain⟨f,fd,dV,F,g,b0,b1⟩:=D
 exact⟨f,fd,F.ok S len (dv f),g,b0,b1⟩
theorem Y2:Vals [V.cU] [Value.none]:= .cons rfl .nil
end
end L2
namespace PySem.W
open PySem PySem.Spec PySem.Calls PyProof.Rows
section
variable {prog:Program} {w:World} {A:Around} {E:Value→Shared→Prop} {s:Shared} {K:Frag} {e C HE f:Addr} {ox:Obj} {od:Option Obj}
theorem x8 {name:Str} {a g:Value} (hc:(clsIn K C).isSome=true) (ha:findIn K (.ref C) name=some (some a)) (hg:specialIn K a "__get__" =some (some g)) (ht:takesIn K a=some true):findObj K C od name=some (.bind g a):=by
 obtain⟨cd,hc⟩:=Option.isSome_iff_exists.mp hc
 unfold findObj
 rw[hc,Option.bind_some,ha,Option.bind_some]
 simp [hg,ht]
theorem Fw {Q:Option Value→Shared→Prop} (X:K.In s.heap) (Z:eY K C HE f) (I:InstAt s.heap e ox C od) (hf:findObj K C od "__class__" =some (.bind (.builtin "getset_descriptor.__get__") (.builtin "object.__class__")))
  (h:Q (some (.ref C)) { s with toks:=s.toks+1 }):wpAny (model prog w) A (getAttr? (.ref e) "__class__") Q E s:=by
 have T0:=I.type (M:=model prog w)
 have SG:=PySem.F.attr_ValueError.ga
 unfold getAttr? getAttrBy? getAttrBy
 refine wpAny_bind (wpAny_mkText (wpAny_bind (wpAny_attempt (wpAny_holding (wpAny_bind (T0 _ _ _ _ (fun _ _ y=>y) (wpAny_bind (looks_findIn X Z.ga _ _ _ _ (fun _ _ y=>y) ?_))))))))
 dsimp only
 rw[show (onTheHeap (Value.ref C)&&Value.builtin "BaseException.__getattribute__" ==Value.builtin "object.__getattribute__")=false from by rw[show (Value.builtin "BaseException.__getattribute__" ==Value.builtin "object.__getattribute__")=false from by decide+kernel,Bool.and_false],if_neg (by decide)]
 refine wpAny_bind (looks_hook X (show (if onTheHeap (Value.ref C) then findIn K (.ref C) "__getattr__" else some none)=some none from Z.gh) _ _ _ _ (fun _ _ y=>y) (wpAny_bind (wpAny_attempt (wpAny_holding ?_))))
 unfold callGetattribute
 rw[show (false&&onTheHeap (Value.builtin "BaseException.__getattribute__"))=false from rfl,if_neg (by decide)]
 unfold boundAndCalled
 rw[SG.bind]
 refine wpAny_bind (wpAny_pure ?_)
 show wpAny _ _ (call (.builtin "BaseException.__getattribute__") [.ref e, .str "__class__" s.toks]) _ _ _
 refine wpAny_call (codeAny_call_builtin SG.plain PySem.F.entry_bexc_ga ?_)
 refine @check_slot (model prog w) _ _ { s with toks:=s.toks+1 } "BaseException.__getattribute__" "BaseException" "__getattribute__" (.ref e) [.str "__class__" s.toks] [] _ (by decide+kernel) (by decide+kernel) (T0.andThen (looks_mroIn X (Z.mro (by decide+kernel)))) (PySem.F.args_bexc_ga _ _) ?_
 have l1:=looks_find (M:=model prog w) X I hf
 unfold Builtin.«object.__getattribute__»
 refine wpAny_bind (wpAny_of_eq (a:=(Value.ref e,[Value.str "__class__" s.toks])) rfl ?_)
 refine wpAny_bind (wpAny_pure (a:=("__class__" :Str)) (wpAny_bind (T0 _ _ _ _ (fun _ _ y=>y) (wpAny_bind (l1 _ _ _ _ (fun _ _ y=>y) ?_)))))
 show wpAny _ _ (holding [Value.builtin "object.__class__"] (call (.builtin "getset_descriptor.__get__") [.builtin "object.__class__", .ref e, .ref C]) >>= ret) _ _ _
 refine wpAny_bind (wpAny_holding (wpAny_call (class_get (s:={ s with toks:=s.toks+1 }) (ox:=ox) (od:=od) X I (Z.mro (by decide+kernel)) ?_)))
 refine wpAny_pure ?_
 show wpAny _ _ (handedOut (Value.ref C)) _ _ _
 rw[handedOut_of rfl]
 exact wpAny_pure (wpAny_pure h)
theorem Fx (Z:eY K C HE f) (ha:findIn K (.ref C) "__class__" =some (some (.builtin "object.__class__"))) (hn:specialIn K (.builtin "object.__class__") "__get__" =some (some (.builtin "getset_descriptor.__get__"))) (xu:takesIn K (.builtin "object.__class__")=some true):
  KitX K (.ref e) (.ref C) (fun h=>InstAt h e ox C od) where
 ty:=fun _ _ _ I=>I.type
 it:=fun _ _ X _=>by
  obtain⟨cdD,IE,_⟩:=Z.cd
  unfold clsIn at IE
  split at IE
  ·rename_i c' d' cd' Mo ho
   intro A' Q' E' s' k q
   unfold isType loadHead
   exact wpAny_bind (wpAny_loadPart (k _ _ (X _ _ ho)) (wpAny_pure q))
  ·cases IE
 ne:=fun h tp dd its n sl X Nc=>by
  obtain⟨cdD,IE,_⟩:=Z.cd
  refine Bool.eq_false_iff.mpr fun q=>?_
  have e:C=tp:=Value.ref.inj (beq_iff_eq.mp q)
  subst e
  unfold clsIn at IE
  split at IE
  ·rename_i c' d' cd' Mo ho
   have z:=(X _ _ ho).symm.trans Nc
   cases z
  ·cases IE
 ca:=fun X I k=>Fw X Z I (x8 (by obtain⟨cd,hc,_⟩:=Z.cd;rw[hc];rfl) ha hn xu) k
end
end PySem.W
namespace L2
open PySem PySem.Spec PyProof.Rows
def Jt (H:Hp) (e C:Addr):Prop:=H e=some (zZ e C none)∨∃dx fs,H e=some (zZ e C (some dx))∧H dx=some (zt dx fs)
structure XIs (K:PySem.W.Frag) (C:Addr):Prop where
 cls:PySem.W.findIn K (.ref C) "__class__" =some (some (.builtin "object.__class__"))
 get:PySem.W.specialIn K (.builtin "object.__class__") "__get__" =some (some (.builtin "getset_descriptor.__get__"))
 takes:PySem.W.takesIn K (.builtin "object.__class__")=some true
theorem bX {X:Cx}:gy X (.builtin "isinstance") (fun xs H Q=>∃e c cv C HE f b,xs=[.ref e,c]∧IW c=some cv∧PySem.W.eY X.K C HE f∧XIs X.K C∧Jt H e C∧PySem.W.kitOne X.K (.ref C) cv=some b∧Q (.bl b) H):=by
 intro pins s σ H xs us Q I r h
 obtain⟨e,c,cv,C,HE,f,b,rfl,hc,Z,Y,hE,ek,q⟩:=h
 obtain⟨u,v,rfl,ru,rv⟩:=vals2 r
 have hv:v=cv:=by
  cases c<;>simp only [IW,Option.some.injEq,reduceCtorEq] at hc
  ·cases (show v=Value.ref _ from rv);exact hc
  ·cases (show v=Value.type _ from rv);exact hc
 subst hv
 cases (show u=Value.ref e from ru)
 have J:∃ob od,PySem.W.InstAt s.heap e ob C od:=by
  rcases hE with hx| ⟨dx,fs,hx,hd⟩
  ·obtain⟨ob,vs,h1,h2,h3,h4⟩:=qO I.aS hx
   exact⟨ob,none,h1,h2,by unfold PySem.W.notCls;rw[h4],by rw[h3];trivial⟩
  ·obtain⟨ob,vs,h1,h2,h3,h4⟩:=qO I.aS hx
   obtain⟨mA,n1,r1,w1⟩:=z6 I.aS hd
   obtain⟨od,ho,hl⟩:=nV n1
   exact⟨ob,some od,h1,h2,by unfold PySem.W.notCls;rw[h4],by rw[h3];exact ho⟩
 obtain⟨ob,od,J⟩:=J
 exact PySem.W.kia_one (PySem.W.Fx Z Y.cls Y.get Y.takes) I.jl J ek (fun z=>nomatch z) fun tk=>⟨.bl b,H,I.tok tk,rfl,q⟩
end L2
namespace Xq
open PySem PySem.Spec PySem.Builtin PySem.Builtin.Str
end Xq
namespace L2
open PySem PySem.Spec PyProof.Rows
section
variable {X:Cx}
theorem sF:bootBuiltins "ValueError" =some (.type "ValueError"):=by decide+kernel
end
section
variable {X:Cx}
theorem Nd (K:PySem.W.Frag) (hK:X.K=K) {x n:Str} {np pos:Pos} {b0:Stmt} {x6:List Stmt} {rest:List ExceptHandler} {PC:Addr} {i:Nat} {ts:TS} {tr:Ends→St→XK} (hg:Gl X x) (hm:X.mg x=some (.ref PC)) (Y:PySem.W.Jo K PC) (hN:X.N.Nodup) (hi:X.N[i]? =some n)
  (hl:X.env.scope.names.lookup n=some .local) (YZ:∀e,lM (X.mark e) (b0::x6) ts) (hr:PH X rest tr) (hd:(x==("__debug__" :Str))=false:=by decide):
  PH X (.ExceptHandler (some (.Name x np)) (some n) (b0::x6) pos::rest) (Q6 K PC i ts tr):=by
 subst hK
 exact Q7 hg hm Y hN hi hl YZ hr hd
end
section
variable {P:Program} {w:World} {K:PySem.W.Frag} {mg:Str→Option Value} {base:Heap}
structure Y3 (P:Program) (w:World) (K:PySem.W.Frag) (mg:Str→Option Value) (base:Heap) (k:Nat) (x:Str) (ps:List Str) (sp:Sp) (f:Addr) (fd:FuncData):Prop where
 ok:fe P w K mg base (zu P w) k f fd ps sp
 kp:PySem.W.keepIn K (.ref f)=true
 b:Binds K fd ps []
 g:mg x=some (.ref f)
def Fy (P:Program) (w:World) (K:PySem.W.Frag) (mg:Str→Option Value) (base:Heap) (k:Nat) (x:Str) (ps:List Str) (sp:Sp):Prop:=∃f fd,Y3 P w K mg base k x ps sp f fd
structure Ra (P:Program) (w:World) (K:PySem.W.Frag) (mg:Str→Option Value) (base:Heap) (k:Nat) (C:Addr) (m:Str) (ps:List Str) (sp:Sp) (f:Addr) (fd:FuncData):Prop where
 ok:fe P w K mg base (zu P w) k f fd ps sp
 m:Meth K C m f
 b:Binds K fd ps []
def Ab (P:Program) (w:World) (K:PySem.W.Frag) (mg:Str→Option Value) (base:Heap) (k:Nat) (C:Addr) (m:Str) (ps:List Str) (sp:Sp):Prop:=∃f fd,Ra P w K mg base k C m ps sp f fd
theorem Def.Fz {x q:Str} {st:Stmt} {N ps:List Str} {k:Nat} {sp:Sp} (D:Def K mg x q st ps) (S:ax N ps (aj st)) (len:∀vs H Q E,sp vs H Q E→vs.length=ps.length)
  (dv:∀(f:Addr) (bA:Value) (A:Around) (outer:List Env) (s:Shared) (H:Hp) (vs:List V) (Q:VK) (E:XK),cV k (A.deeper (envOfC q (aj st) s.heap.objs.size f bA))→sp vs H Q E→
   ∃t,lM (Ih P w K mg base N q (aj st) f bA A outer s H E) (a5 st) t∧t { nx:=fun _ H'=>Q .cU H',rt:=Q } (start N vs) H):Fy P w K mg base (k+1) x ps sp:=by
 obtain⟨f,fd,F,b,g⟩:=D
 exact⟨f,fd,F.Fl S len (dv f),F.kp,b,g⟩
theorem a9.Fz {C:Addr} {m q:Str} {st:Stmt} {N ps:List Str} {k:Nat} {sp:Sp} (D:a9 K C m q st ps) (S:ax N ps (aj st)) (len:∀vs H Q E,sp vs H Q E→vs.length=ps.length)
  (dv:∀(f:Addr) (bA:Value) (A:Around) (outer:List Env) (s:Shared) (H:Hp) (vs:List V) (Q:VK) (E:XK),cV k (A.deeper (envOfC q (aj st) s.heap.objs.size f bA))→sp vs H Q E→
   ∃t,lM (Ih P w K mg base N q (aj st) f bA A outer s H E) (a5 st) t∧t { nx:=fun _ H'=>Q .cU H',rt:=Q } (start N vs) H):Ab P w K mg base (k+1) C m ps sp:=by
 obtain⟨f,fd,F,b,g⟩:=D
 exact⟨f,fd,F.Fl S len (dv f),g,b⟩
def Bg (K:PySem.W.Frag) (C:Addr) (m q:Str) (st:Stmt) (ps:List Str) (ds:List Int):Prop:=∃f fd dV,xX K m q st f fd dV∧Meth K C m f∧∀j,j≤ds.length→∃us,Vals ((ds.drop j).map V.int) us∧Binds K fd ps us
structure Nf (P:Program) (w:World) (K:PySem.W.Frag) (mg:Str→Option Value) (base:Heap) (k:Nat) (C:Addr) (m:Str) (ps:List Str) (ds:List Int) (sp:Sp) (f:Addr) (fd:FuncData):Prop where
 ok:fe P w K mg base (zu P w) k f fd ps sp
 m:Meth K C m f
 bs:∀j,j≤ds.length→∃us,Vals ((ds.drop j).map V.int) us∧Binds K fd ps us
def vD (P:Program) (w:World) (K:PySem.W.Frag) (mg:Str→Option Value) (base:Heap) (k:Nat) (C:Addr) (m:Str) (ps:List Str) (ds:List Int) (sp:Sp):Prop:=∃f fd,Nf P w K mg base k C m ps ds sp f fd
theorem Bg.Fz {C:Addr} {m q:Str} {st:Stmt} {N ps:List Str} {ds:List Int} {k:Nat} {sp:Sp} (D:Bg K C m q st ps ds) (S:ax N ps (aj st)) (len:∀vs H Q E,sp vs H Q E→vs.length=ps.length)
  (dv:∀(f:Addr) (bA:Value) (A:Around) (outer:List Env) (s:Shared) (H:Hp) (vs:List V) (Q:VK) (E:XK),cV k (A.deeper (envOfC q (aj st) s.heap.objs.size f bA))→sp vs H Q E→
   ∃t,lM (Ih P w K mg base N q (aj st) f bA A outer s H E) (a5 st) t∧t { nx:=fun _ H'=>Q .cU H',rt:=Q } (start N vs) H):vD P w K mg base (k+1) C m ps ds sp:=by
 obtain⟨f,fd,dV,F,g,b⟩:=D
 exact⟨f,fd,F.Fl S len (dv f),g,b⟩
def FA (K:PySem.W.Frag) (mg:Str→Option Value) (x:Str) (C HE:Addr) (q:Str) (st:Stmt) (ps:List Str):Prop:=∃f fd,Ej K "__init__" q st f fd∧PySem.W.eY K C HE f∧Binds K fd ps []∧mg x=some (.ref C)∧PySem.W.keepIn K (.ref C)=true
structure Rb (P:Program) (w:World) (K:PySem.W.Frag) (mg:Str→Option Value) (base:Heap) (k:Nat) (x:Str) (C HE:Addr) (ps:List Str) (sp:Sp) (f:Addr) (fd:FuncData):Prop where
 ok:fe P w K mg base qB k f fd ps sp
 z:PySem.W.eY K C HE f
 b:Binds K fd ps []
 g:mg x=some (.ref C)
 kp:PySem.W.keepIn K (.ref C)=true
def Ac (P:Program) (w:World) (K:PySem.W.Frag) (mg:Str→Option Value) (base:Heap) (k:Nat) (x:Str) (C HE:Addr) (ps:List Str) (sp:Sp):Prop:=∃f fd,Rb P w K mg base k x C HE ps sp f fd
theorem FA.di {x q:Str} {C HE:Addr} {st:Stmt} {N ps:List Str} {k:Nat} {sp:Sp} (D:FA K mg x C HE q st ps) (S:ax N ps (aj st)) (len:∀vs H Q E,sp vs H Q E→vs.length=ps.length)
  (dv:∀(f:Addr) (bA:Value) (A:Around) (outer:List Env) (s:Shared) (H:Hp) (vs:List V) (Q:VK) (E:XK),cV k (A.deeper (envOfC q (aj st) s.heap.objs.size f bA))→sp vs H Q E→
   ∃t,lM (js qB P w K mg base N q (aj st) f bA A outer s H E).ED (a5 st) t∧t { nx:=fun _ H'=>Q .cU H',rt:=Q } (start N vs) H):Ac P w K mg base (k+1) x C HE ps sp:=by
 obtain⟨f,fd,F,Z,b,g,kp⟩:=D
 exact⟨f,fd,F.ok S len (dv f),Z,b,g,kp⟩
end
end L2
namespace Xq
open PySem PySem.Spec PySem.Calls PyProof.Rows
section
variable {prog:Program} {w:World} {A:Around} {I:Addr} {fp wr:List Addr} {n:Nat} {P:Nat→Value→Prop} {St:Nat→Heap→Prop}
def Rf (P:Nat→Value→Prop) (bt:Nat→Nat→Bool) (i:Nat) (old:Array Value):Prop:=(i=0∧old=#[])∨∃j vb,i=j+1∧old=#[vb,vb]∧P (argBest bt j) vb
theorem Ju {R:Result→Shared→Prop} {d:Value} {key:Str} (W:Walks prog w A.in1 I fp wr n P St) (bt:Nat→Nat→Bool) (Y4:CmpOf prog w A.in1 .Lt P bt) (S:Addr) (hSf:S∉fp) (k:Nat):
  ∀(i:Nat) (s:Shared) (old:Array Value) (c:Nat),i+k=n→St i s.heap→Rf P bt i old→s.heap.get? S=some { cls:= .type "list",dict:=none,data:= .seq old c,slots:=#[] }→
  (∀v h' tk,(n=0∧v=d∨0<n∧P (argBest bt (n - 1)) v)→(∀b o,b∉wr→b≠S→s.heap.get? b=some o→h'.get? b=some o)→R (.ok (.ret v)) { s with heap:=h',toks:=tk })→
  codeAny (model prog w) A (.builtin "min.loop" ⟨[.ref I, .none, .ref S],[(key,d)]⟩) R s:=by
 have hSw:S∉wr:=fun h=>hSf (W.sub _ h)
 have nm:(toString "min" ++toString ".loop" :String)="min.loop" :=by decide
 have Y5:∀{h:Heap} {f:Obj→Obj} {b:Addr} {o:Obj},b≠S→h.get? b=some o→(h.update S f).get? b=some o:=fun hb e=>(Heap.get?_update_other _ _ (Ne.symm hb)).trans e
 induction k with
 |zero=>
  intro i s old c hi fI hB hS hR
  have tI:i=n:=by omega
  refine codeAny_builtin F.entry_min_loop ?_
  rw[Around.under_plainId F.plain_min_loop]
  refine wpAny_bind (wpAny_seqItems hS rfl (wpAny_bind (wpAny_tryCatch (W.done s _ _ (tI▸fI) fun h' tk Ll=>?_))))
  rcases hB with ⟨rfl,rfl⟩ | ⟨j,vb,rfl,rfl,hP⟩
  ·exact wpAny_bind (wpAny_rule (wpAny_pure (hR d h' tk (.inl ⟨tI.symm,rfl⟩) fun b o hb _ e=>Ll b o hb e)))
  ·refine wpAny_bind (wpAny_updateSeq (Ll S _ hSw hS) rfl (wpAny_bind (wpAny_letGo (wpAny_pure ?_))))
   exact hR vb _ tk (.inr ⟨by omega,by rw[←tI];exact hP⟩) fun b o hb Xr e=>Y5 Xr (Ll b o hb e)
 |succ k ih=>
  intro i s old c hi fI hB hS hR
  have sr:i<n:=by omega
  refine codeAny_builtin F.entry_min_loop ?_
  rw[Around.under_plainId F.plain_min_loop]
  refine wpAny_bind (wpAny_seqItems hS rfl (wpAny_bind (wpAny_tryCatch (W.item i s _ _ sr fI fun v h' tk hP Y6 Ll=>?_))))
  have Rg:=Ll S _ hSw hS
  have Ng:∀{h2:Heap} {new:Array Value} {c2:Nat},(∀b o,b≠S→h'.get? b=some o→h2.get? b=some o)→Rf P bt (i+1) new→h2.get? S=some { cls:= .type "list",dict:=none,data:= .seq new c2,slots:=#[] }→
    codeAny (model prog w) A (.builtin "min.loop" ⟨[.ref I, .none, .ref S],[(key,d)]⟩) R { s with heap:=h2,toks:=tk }:=fun {h2 new c2} k2 b2 s2=>
   ih (i+1) _ new c2 (by omega) (W.frame _ _ _ Y6 fun b hb o e=>k2 b o (fun z=>hSf (z▸hb)) e) b2 s2 fun v' h3 t3 hP3 PK=>hR v' h3 t3 hP3 fun b o hb Xr e=>PK b o hb Xr (k2 b o Xr (Ll b o hb e))
  rcases hB with ⟨rfl,rfl⟩ | ⟨j,vb,rfl,rfl,hPb⟩
  ·show wpAny _ A.in1 (updateSeq S (fun _=>#[v,v]) >>= _) _ _ _
   refine wpAny_bind (wpAny_updateSeq Rg rfl ?_)
   rw[nm]
   exact wpAny_pure ⟨plainId_quiet F.plain_min_loop _,Ng (fun b o hb e=>Y5 hb e) (.inr ⟨0,v,rfl,rfl,hP⟩) (Heap.get?_update_self _ Rg rfl)⟩
  ·refine wpAny_bind (wpAny_pure ?_)
   refine wpAny_bind (wpAny_tryCatch (wpAny_holding (wpAny_bind (Y4 (j+1) (argBest bt j) v vb _ _ _ hP hPb (wpAny_bind (wpAny_holding (wpAny_truthy_bool (wpAny_bind (wpAny_letGo (wpAny_pure ?_))))))))))
   cases hb:bt (j+1) (argBest bt j) with
   |true=>
    simp only [if_true]
    refine wpAny_bind (wpAny_updateSeq Rg rfl (wpAny_bind (wpAny_letGo ?_)))
    rw[nm]
    exact wpAny_pure ⟨plainId_quiet F.plain_min_loop _,Ng (fun b o C4 e=>Y5 C4 e) (.inr ⟨j+1,v,rfl,rfl,by simp only [argBest,hb,if_true];exact hP⟩) (Heap.get?_update_self _ Rg rfl)⟩
   |false=>
    simp only [Bool.false_eq_true,if_false]
    refine wpAny_bind (wpAny_letGo ?_)
    rw[nm]
    exact wpAny_pure ⟨plainId_quiet F.plain_min_loop _,Ng (fun b o _ e=>e) (.inr ⟨j+1,vb,rfl,rfl,by simp only [argBest,hb,Bool.false_eq_true,if_false];exact hPb⟩) Rg⟩
end
section
variable {prog:Program} {w:World} {A:Around} {E:Value→Shared→Prop} {s:Shared} {l:Addr} {xs:Array (Int×Tok)} {d:Value}
theorem Nh {args:List Value} {kw:List (Str×Value)} {Q:Value→Shared→Prop} (ha:argsOk "min" ⟨args,kw⟩)
  (hc:wpAny (model prog w) A.in1 (Builtin.«min» ⟨args,kw⟩) (fun fin s'=>match fin with
   | .done f=>(match (Except.ok f:Result) with| .ok (.ret v)=>Q v s'| .ok _=>False| .error e=>E e s')
   | .again c'=>c'.quiet=true∧codeAny (model prog w) A c' (fun r s'=>match r with| .ok (.ret v)=>Q v s'| .ok _=>False| .error e=>E e s') s') E s):wpAny (model prog w) A (call (.builtin "min") args kw) Q E s:=by
 refine wpAny_call (codeAny_call_builtin F.plain_min F.entry_min ?_)
 rw[checkBuiltinCall,F.kind_min]
 unfold argsOk at ha
 cases hs:Manifest.signature? "min" with
 |none=>exact wpAny_pure hc
 |some sig=>
  rw[hs] at ha
  have ha:Bind.checkArgs "min" sig ⟨args,kw⟩=pure ():=ha
  dsimp only
  rw[ha]
  exact wpAny_pure hc
theorem Df (a v:Value):argsOk "min" ⟨[a],[(Str.ofString "default",v)]⟩:=by unfold argsOk;kernel_rfl
theorem Dg {Q:Value→Shared→Prop} (hh:A.handled=none) (hl:s.heap.IsList l (intItems xs))
  (h:∀v h' tk,(xs.size=0∧v=d∨0<xs.size∧(intItems xs)[argBest (fun i j=>decide (numAt xs i<numAt xs j)) (xs.size - 1)]? =some v)→(∀b o,s.heap.get? b=some o→h'.get? b=some o)→Q v { s with heap:=h',toks:=tk }):
  wpAny (model prog w) A (call (.builtin "min") [.ref l] [(Str.ofString "default",d)]) Q E s:=by
 have nm:(toString "min" ++toString ".loop" :String)="min.loop" :=by decide
 refine Nh (Df _ _) ?_
 show wpAny _ A.in1 (Builtin.Builtins.bindParams "min" ["key","default"] 0 ⟨[],[(Str.ofString "default",d)]⟩ >>= _) _ _ s
 refine wpAny_bind (wpAny_of_eq (show Builtin.Builtins.bindParams "min" ["key","default"] 0 ⟨[],[(Str.ofString "default",d)]⟩=pure [none,some d] from rfl) (wpAny_bind (wpAny_pure (wpAny_bind (iter_intList hl fun s₂ e st hfp hlI=>?_)))))
 subst e
 refine wpAny_bind (wpAny_newObj_type ?_)
 rw[nm]
 have W:=Walks.list (prog:=prog) (w:=w) (A:=A.in1) hh s.heap.objs.size l hlI (intItems xs)
 refine wpAny_pure ⟨plainId_quiet F.plain_min_loop _,Ju W (fun i j=>decide (numAt xs i<numAt xs j)) (CmpOf.ints_lt (numAt xs) (fun _ _=>intItems_at)) _ (fun hm=>Nat.lt_irrefl _ (hfp _ hm)) (intItems xs).size 0 _ #[] _ (Nat.zero_add _) (W.frame _ _ _ st fun b _ o e=>Heap.get?_push_of_some _ e) (.inl ⟨rfl,rfl⟩) (Heap.get?_push_size _ rfl) fun v h' tk hP hk=>?_⟩
 refine h v h' tk ?_ (old_kept fun b o hb e=>hk b o hb (Nat.ne_of_lt (Heap.lt_size e)) (Heap.get?_push_of_some _ e))
 have ez:(intItems xs).size=xs.size:=by simp [intItems]
 rw[ez] at hP
 exact hP
end
end Xq
namespace L2
open PySem PySem.Spec PyProof.Rows
section
variable {X:Cx}
def Rh (K:PySem.W.Frag) (t:TA):TE:=fun σ H Q=>t σ H fun vs H1=>∃q,∃ns:List Int,vs=[.ref q]∧b5 K H1 q (ns.map V.int)∧(ns=[]→Q .cU H1)∧∀M,M∈ns→(∀a∈ns,M≤a)→Q (.int M) H1
theorem Jv {e:Expr} {t:TA} {p pos kp Qy:Pos} {j} (hc:X.calm=true) (hg:Gl X "min") (hm:X.mg "min" =none) (ha:PA X [e] t)
  (he:backTo pos (starEach [e] X.env)=[(false,eval e X.env)]:=by rfl):PE X (.Call (.Name "min" p) [e] [⟨some "default", .Constant .none j Qy,kp⟩] pos) (Rh X.K t):=by
 intro pins s σ H Q I h
 refine wpAny_Call_Name_kw (nQ I hg hm MV ?_)
 refine callWith_kw (bZ (ha pos pins s σ H _ I h) fun us s1 ⟨vs,H1,I1,r1,q,ns,ev,hS,q0,q1⟩=>kws_cons (bZ (u7 pins s1 σ H1 (fun v H'=>v= .cU∧H'=H1) I1 ⟨rfl,rfl⟩) fun u s2 ⟨v,H2,I2,r2,ev2,eH⟩=>kws_nil ?_)) (by rw[he];rfl) (by rw[he];rfl)
 subst ev ev2 eH
 cases (show u=Value.none from r2)
 obtain⟨u1,rfl,ru⟩:=vals1 r1
 cases ru
 obtain⟨its,rv,pl,hz⟩:=I2.list hS
 have hi:IntsAre its ns:=intsAre_of rv
 obtain⟨xs,ex⟩:=hi.allInts.items
 have zp:ns=xs.toList.map (·.1):=by rw[←hi.numsOf,←nums_intItems,←ex]
 have hl:s2.heap.IsList q (intItems xs):=ex▸pl.isList
 refine Xq.Dg (I2.ok.hd hc) hl fun v h' tk hv hk=>?_
 rcases hv with ⟨h0,rfl⟩ | ⟨hp,hv⟩
 ·refine⟨.cU,H2,I2.kept hk,rfl,q0 ?_⟩
  rw[zp,List.map_eq_nil_iff]
  exact List.eq_nil_of_length_eq_zero (by rw[Array.length_toList];exact h0)
 ·obtain⟨t,rfl⟩:=intItems_at hv
  obtain⟨g1,g2⟩:=argBest_lt (numAt xs) (xs.size - 1)
  refine⟨.int _,H2,I2.kept hk,⟨t,rfl⟩,q1 _ ?_ fun a ha=>?_⟩
  ·rw[zp,numAt_eq];exact getD_mem (by rw[List.length_map,Array.length_toList];omega)
  ·rw[zp] at ha
   obtain⟨i,YQ,rfl⟩:=mem_getD ha
   rw[List.length_map,Array.length_toList] at YQ
   rw[←numAt_eq];exact g2 i (by omega)
end
end L2
namespace L2
open PySem PySem.Spec
section
variable {X:Cx}
def tJ (t:TE):TE:=fun σ H Q=>∃Pm:V→Hp→Prop,t σ H Pm∧∀x H',Pm x H'→Q x H'
theorem Jw {e:Expr} {t:TE} (h:PE X e t):PE X e (tJ t):=fun pins s σ H Q I ⟨Pm,hp,hq⟩=>
 bZ (h pins s σ H Pm I hp) fun _ _ ⟨x,H1,I1,r,p⟩=>⟨x,H1,I1,r,hq x H1 p⟩
end
end L2
namespace L2
open PySem PySem.Spec
theorem gF {K:PySem.W.Frag} {C P:Addr} (h1:PySem.W.isClsIn K P=true) (h2:PySem.W.typeIn K (.ref P)=some (.type "type")) (h3:PySem.W.mroIn K C (.ref P)=some false) (h4:PySem.W.mroIn K C (.ref C)=some true):PySem.W.kitOne K (.ref C) (.ref P)=some false:=by
 have og:¬(Value.ref C==Value.ref P)=true:=fun e=>by
  have e:Value.ref C=Value.ref P:=by simpa using e
  rw[←e,h4] at h3
  cases h3
 unfold PySem.W.kitOne
 rw[if_neg og]
 unfold PySem.W.kitCls
 dsimp only
 rw[if_pos (by rw[show (PySem.W.clsIn K P).isSome=true from h1,h2,Bool.true_and];decide+kernel)]
 exact h3
theorem Jx {K:PySem.W.Frag} {C HE f:Addr} (Z:PySem.W.eY K C HE f):PySem.W.kitOne K (.ref C) (.type "ValueError")=some true:=by
 unfold PySem.W.kitOne
 rw[if_neg (by simp)]
 unfold PySem.W.kitCls
 dsimp only
 rw[if_pos (by decide+kernel)]
 exact Z.mro (by decide+kernel)
theorem FC {K:PySem.W.Frag} (v:Value):PySem.W.kitOne K v v=some true:=by
 unfold PySem.W.kitOne
 rw[if_pos (by simp)]
end L2
namespace L2
open PySem PySem.Spec PyProof.Rows
section
variable {K:PySem.W.Frag} {h:Heap} {mg:Str→Option Value} {x m q:Str} {st:Stmt} {ps:List Str} {f C HE:Addr}
def dJ (K:PySem.W.Frag) (x q:Str) (st:Stmt) (f:Addr):Prop:=(∃fd,Ej K x q st f fd)∧PySem.W.isFn K (.ref f)=true
def BA (x q:Str) (st:Stmt) (ps:List Str):Prop:=∀(kV doc pm:Value) (an:Option Addr) (bA ct:Value) (us:List Value),us.length=ps.length→bindArgs (PySem.W.fnOf x q (bF st) (a5 st) (aj st) .none kV doc pm an bA ct) ⟨us,[]⟩=pure (ps.zip us)
theorem cw (X:K.In h) (G:h.Ns mainGlobals mg) (a:PySem.W.nsIn K mainGlobals x=some (some (.ref f))) (l:dJ K x q st f) (b:BA x q st ps):Def K mg x q st ps:=by
 obtain⟨⟨fd,F⟩,_⟩:=l
 exact⟨f,fd,F,F.binds b,PySem.W.mg_of X G a⟩
theorem bM (a:PySem.W.findIn K (.ref C) m=some (some (.ref f))) (l:dJ K m q st f) (b:BA m q st ps):a9 K C m q st ps:=by
 obtain⟨⟨fd,F⟩,i⟩:=l
 exact⟨f,fd,F,F.binds b,⟨a,i,F.kp⟩⟩
theorem FD (k:PySem.W.makesIn K C=true) (a:PySem.W.findIn K (.ref C) "__init__" =some (some (.ref f))) (kc:PySem.W.keepIn K (.ref C)=true) (l:dJ K "__init__" q st f) (b:BA "__init__" q st ps):lB K C q st ps []:=by
 obtain⟨⟨fd,F⟩,i⟩:=l
 exact⟨f,fd, .none,⟨F.ex,F.kp⟩,⟨k,a,i,kc⟩,fun j _=>⟨[],by rw[List.drop_nil];exact .nil,F.binds b⟩⟩
theorem Ri (Z:PySem.W.eY K C HE f) (g:mg x=some (.ref C)) (kc:PySem.W.keepIn K (.ref C)=true) (l:dJ K "__init__" q st f) (b:BA "__init__" q st ps):FA K mg x C HE q st ps:=by
 obtain⟨⟨fd,F⟩,i⟩:=l
 exact⟨f,fd,F,Z,F.binds b,g,kc⟩
end
end L2
set_option maxHeartbeats 4000000
namespace Y7
open PySem L2
def top (i:Nat):Stmt:=PySem.Challenge.pw_balancehall_k51_turns_walked.main.body.getD i (.Pass ⟨0,0,0,0⟩)
abbrev vE:Stmt:=top 20
abbrev vF:Stmt:=top 21
abbrev pN:Stmt:=top 22
abbrev iy:Stmt:=top 23
abbrev kM:Stmt:=top 25
abbrev jc:Stmt:=top 26
abbrev jd:Stmt:=inClass (top 29) 0
abbrev vG:Stmt:=inClass (top 29) 1
abbrev pO:Stmt:=inClass (top 29) 2
abbrev fM:Stmt:=inClass (top 30) 0
abbrev kN:Stmt:=inClass (top 30) 1
abbrev je:Stmt:=inClass (top 30) 2
abbrev fN:Stmt:=inClass (top 31) 0
abbrev iz:Stmt:=inClass (top 31) 1
abbrev gG:Stmt:=inClass (top 31) 2
abbrev mC:Stmt:=top 38
abbrev gH:Stmt:=top 39
abbrev fO:Stmt:=inClass (top 40) 0
abbrev mD:Stmt:=inClass (top 40) 1
abbrev mE:Stmt:=inClass (top 40) 2
abbrev qR:Stmt:=inClass (top 41) 0
abbrev x9:Stmt:=inClass (top 41) 1
abbrev ya:Stmt:=inClass (top 41) 2
abbrev kb:Stmt:=inClass (top 41) 3
abbrev mF:Stmt:=inClass (top 41) 4
abbrev mG:Stmt:=inClass (top 41) 5
abbrev gX:Stmt:=inClass (top 41) 6
abbrev kO:Stmt:=inClass (top 41) 7
abbrev oh:Stmt:=inClass (top 41) 8
abbrev jw:Stmt:=inClass (top 41) 9
abbrev qT:Stmt:=inClass (top 41) 10
abbrev mH:Stmt:=inClass (top 41) 11
abbrev kd:Stmt:=inClass (top 41) 12
abbrev kg:Stmt:=inClass (top 41) 13
abbrev kQ:Stmt:=top 42
abbrev mI:Stmt:=top 51
abbrev gI:Stmt:=top 52
abbrev iA:Stmt:=top 53
abbrev vH:Stmt:=inClass (top 54) 0
abbrev vI:Stmt:=inClass (top 54) 2
abbrev tK:Stmt:=inClass (top 54) 4
abbrev vJ:Stmt:=inClass (top 55) 0
abbrev pP:Stmt:=inClass (top 55) 1
abbrev mJ:Stmt:=inClass (top 55) 2
abbrev pQ:Stmt:=inClass (top 55) 3
abbrev mK:Stmt:=top 56
abbrev qU:Stmt:=top 58
abbrev kR:Stmt:=top 60
abbrev mL:Stmt:=top 61
abbrev fP:Stmt:=top 62
abbrev pR:Stmt:=top 63
abbrev gJ:Stmt:=top 64
abbrev fQ:Stmt:=inClass (top 65) 0
abbrev Bh:Stmt:=inClass (top 65) 1
abbrev Jy:Stmt:=inClass (top 65) 2
abbrev Dh:Stmt:=inClass (top 65) 3
abbrev qV:Stmt:=inClass (top 65) 4
abbrev mM:Stmt:=inClass (top 65) 7
abbrev yb:Stmt:=inClass (top 65) 8
abbrev vK:Stmt:=inClass (top 10) 0
abbrev pS:Stmt:=top 67
abbrev vL:Stmt:=top 68
abbrev vM:Stmt:=top 69
abbrev Bi:Stmt:=top 70
abbrev mN:Stmt:=top 72
abbrev mO:Stmt:=top 73
abbrev oj:Stmt:=top 74
abbrev kh:Stmt:=top 75
abbrev Bj:Stmt:=top 76
abbrev vN:Stmt:=top 77
abbrev vO:Stmt:=top 78
abbrev jf:Stmt:=top 79
abbrev pT:Stmt:=top 80
abbrev pU:Stmt:=top 81
abbrev Bk:Stmt:=top 82
abbrev vP:Stmt:=top 83
abbrev vQ:Stmt:=top 84
theorem nkc:¬(("kind" :Str)="count"):=by decide+kernel
def vR (k:Str) (n:Int):List (Str×V):=cL "count" (.int n) (cL "kind" (.str k) [])
theorem tL (k:Str) (n:Int):(vR k n).lookup ("kind" :Str)=some (.str k):=by
 unfold vR
 rw[az,if_neg nkc,az,if_pos rfl]
theorem qW (k:Str) (n:Int):(vR k n).lookup ("count" :Str)=some (.int n):=by
 unfold vR
 rw[az,if_pos rfl]
theorem Bl (k:Str) (n:Int) {m:Str} (h1:¬m="count") (h2:¬m="kind"):(vR k n).lookup m=none:=by
 unfold vR
 rw[az,if_neg h1,az,if_neg h2]
 all_goals rfl
def gm (C:Addr) (H:Hp) (p:Addr) (k:Str) (n:Int):Prop:=∃dx,H p=some (.ins C dx (vR k n))
theorem gm.same {C:Addr} {H H':Hp} {p:Addr} {k:Str} {n:Int} (a:gm C H p k n) (e:au H H'):gm C H' p k n:=let ⟨dx,h⟩:=a;⟨dx,e _ _ h⟩
def bu (kvs:List (Key×V)):Prop:=∀p∈kvs,∃i,p.2=V.int i
def aO (kvs:List (Key×V)) (k:Key):Int:=match b7 kvs k with
 |some (.int i)=>i
 |_=>0
theorem eD {kvs:List (Key×V)} {k:Key} (h:b7 kvs k=none):aO kvs k=0:=by unfold aO;rw[h]
theorem fw {kvs:List (Key×V)} {k:Key} {i:Int} (h:b7 kvs k=some (.int i)):aO kvs k=i:=by unfold aO;rw[h]
def b8 (kvs:List (Key×V)) (k:Key) (n:Int):List (Key×V):=putK kvs k (.int (aO kvs k+n))
def a8 (t:Int) (acc:List (Key×V)) (as:List (Str×Int)):List (Key×V):=as.foldl (fun acc p=>b8 acc (Sum.inr p.1) (p.2*t)) acc
def iP (c:Int) (acc:List (Key×V)) (l:List (Key×V)) (all:List (Key×V)):List (Key×V):=l.foldl (fun acc p=>b8 acc p.1 (aO all p.1*c)) acc
def Di (c:Int):V→V
 | .int i=> .int (i*c)
 |v=>v
def scale (c:Int) (kvs:List (Key×V)):List (Key×V):=kvs.map fun p=>(p.1,Di c p.2)
def FE (B:Int) (kvs:List (Key×V)):Prop:=∀p∈kvs,∃i,p.2=V.int i∧0≤i∧i≤B
theorem fR {kvs:List (Key×V)} {k:Key} {v:V} (e:b7 kvs k=some v):(k,v)∈kvs:=by
 unfold b7 at e
 cases f:kvs.find? fun kv=>decide (kv.1=k) with
 |none=>rw[f] at e;cases e
 |some p=>
  rw[f] at e
  cases e
  have h1:=List.mem_of_find?_eq_some f
  have h2:p.1=k:=by simpa using List.find?_some f
  rw[←h2];exact h1
theorem bu.look {kvs:List (Key×V)} (h:bu kvs) {k:Key} {v:V} (e:b7 kvs k=some v):v= .int (aO kvs k):=by
 obtain⟨i,hi⟩:=h _ (fR e)
 have hi:v= .int i:=hi
 subst hi
 rw[fw e]
theorem bu.at {kvs:List (Key×V)} (h:bu kvs) (k:Key):(b7 kvs k).getD (.int 0)= .int (aO kvs k):=by
 cases e:b7 kvs k with
 |none=>rw[eD e];rfl
 |some v=>rw[h.look e];rfl
theorem FE.Rj {B:Int} {kvs:List (Key×V)} (h:FE B kvs) (hB:0≤B) (k:Key):0≤aO kvs k∧aO kvs k≤B:=by
 cases e:b7 kvs k with
 |none=>rw[eD e];exact⟨Int.le_refl _,hB⟩
 |some v=>
  obtain⟨i,hi,h0,h1⟩:=h _ (fR e)
  have hi:v= .int i:=hi
  subst hi
  rw[fw e];exact⟨h0,h1⟩
theorem FE.put {B B':Int} {kvs:List (Key×V)} (h:FE B kvs) (hBB:B≤B') (k:Key) {i:Int} (h0:0≤i) (h1:i≤B'):FE B' (putK kvs k (.int i)):=by
 intro p hp
 unfold putK at hp
 split at hp
 ·obtain⟨q,hq,e⟩:=List.mem_map.mp hp
  subst e
  split
  ·exact⟨i,rfl,h0,h1⟩
  ·obtain⟨j,e,h2,h3⟩:=h q hq
   exact⟨j,e,h2,Int.le_trans h3 hBB⟩
 ·rcases List.mem_append.mp hp with hq|hq
  ·obtain⟨j,e,h2,h3⟩:=h p hq
   exact⟨j,e,h2,Int.le_trans h3 hBB⟩
  ·have e:p=(k,V.int i):=by simpa using hq
   exact⟨i,by rw[e],h0,h1⟩
theorem FE.add {B b:Int} {kvs:List (Key×V)} (h:FE B kvs) (hB:0≤B) (k:Key) {n:Int} (h0:0≤n) (h1:n≤b):FE (B+b) (b8 kvs k n):=by
 obtain⟨z0,z1⟩:=h.Rj hB k
 exact h.put (by omega) k (by omega) (by omega)
theorem vS {kvs:List (Key×V)} {k:Key} {v:V} (h:(kvs.map (·.1)).Nodup):((putK kvs k v).map (·.1)).Nodup:=by
 cases e:b7 kvs k with
 |none=>exact IV v h e
 |some x=>
  have ha:(kvs.any fun kv=>decide (kv.1=k))=true:=by rw[fg,e];rfl
  unfold putK
  rw[if_pos ha,List.map_map]
  have:((fun (x:Key×V)=>x.1)∘fun kv=>if kv.1=k then (kv.1,v) else kv)=fun (x:Key×V)=>x.1:=by
   funext y
   simp only [Function.comp]
   split<;>rfl
  rw[this]
  exact h
theorem om (c:Int) (k:Key):∀kvs:List (Key×V),b7 (scale c kvs) k=(b7 kvs k).map (Di c)
 | []=>rfl
 |p::r=>by
  have ih:=om c k r
  show b7 ((p.1,Di c p.2)::scale c r) k=_
  by_cases e:p.1=k
  ·refine(cO (p:=(p.1,Di c p.2)) (r:=scale c r) e).trans ?_
   rw[cO e]
   rfl
  ·refine(cP (p:=(p.1,Di c p.2)) (r:=scale c r) e).trans ?_
   rw[cP e]
   exact ih
theorem Dj (c:Int) (kvs:List (Key×V)) (k:Key) (i:Int):scale c (putK kvs k (.int i))=putK (scale c kvs) k (.int (i*c)):=by
 have ha:((scale c kvs).any fun kv=>decide (kv.1=k))=kvs.any fun kv=>decide (kv.1=k):=by
  unfold scale
  rw[List.any_map];rfl
 unfold putK
 rw[ha]
 split
 ·unfold scale
  rw[List.map_map,List.map_map]
  apply List.map_congr_left
  intro p _
  simp only [Function.comp]
  split<;>rfl
 ·unfold scale
  rw[List.map_append];rfl
theorem Dk {kvs:List (Key×V)} (h:bu kvs) (c:Int) (k:Key):aO (scale c kvs) k=aO kvs k*c:=by
 cases e:b7 kvs k with
 |none=>rw[eD e,eD (by rw[om,e];rfl),Int.zero_mul]
 |some v=>
  have:=h.look e
  subst this
  exact fw (by rw[om,e];rfl)
theorem bu.put {kvs:List (Key×V)} (h:bu kvs) (k:Key) (i:Int):bu (putK kvs k (.int i)):=by
 intro p hp
 unfold putK at hp
 split at hp
 ·obtain⟨q,hq,e⟩:=List.mem_map.mp hp
  subst e
  split
  ·exact⟨i,rfl⟩
  ·exact h q hq
 ·rcases List.mem_append.mp hp with hq|hq
  ·exact h p hq
  ·have e:p=(k,V.int i):=by simpa using hq
   exact⟨i,by rw[e]⟩
theorem Dl {kvs:List (Key×V)} (h:bu kvs) (c:Int) (k:Key) (n:Int):scale c (b8 kvs k n)=b8 (scale c kvs) k (n*c):=by
 unfold b8
 rw[Dj,Dk h,Int.add_mul]
theorem bu.add {kvs:List (Key×V)} (h:bu kvs) (k:Key) (n:Int):bu (b8 kvs k n):=h.put k _
theorem tM (t c:Int):∀(as:List (Str×Int)) (acc:List (Key×V)),bu acc→scale c (a8 t acc as)=a8 (t*c) (scale c acc) as
 | [],_,_=>rfl
 |p::r,acc,h=>by
  show scale c (a8 t (b8 acc (Sum.inr p.1) (p.2*t)) r)=a8 (t*c) (b8 (scale c acc) (Sum.inr p.1) (p.2*(t*c))) r
  rw[tM t c r _ (h.add _ _),Dl h,Int.mul_assoc]
theorem iB (t:Int):∀(as:List (Str×Int)) (acc:List (Key×V)),bu acc→bu (a8 t acc as)
 | [],_,h=>h
 |_::r,_,h=>iB t r _ (h.add _ _)
theorem vT (t:Int):∀(as:List (Str×Int)) (acc:List (Key×V)),(acc.map (·.1)).Nodup→((a8 t acc as).map (·.1)).Nodup
 | [],_,h=>h
 |_::r,_,h=>vT t r _ (vS h)
theorem iC (t:Int):∀(as:List (Str×Int)) (acc:List (Key×V)),(a8 t acc as).length≤acc.length+as.length
 | [],_=>Nat.le_refl _
 |p::r,acc=>by
  have:=iC t r (b8 acc (Sum.inr p.1) (p.2*t))
  have h2:=bY acc (Sum.inr p.1 :Key) (.int (aO acc (Sum.inr p.1)+p.2*t))
  have e:(b8 acc (Sum.inr p.1) (p.2*t)).length≤acc.length+1:=h2
  show (a8 t (b8 acc (Sum.inr p.1) (p.2*t)) r).length≤_
  rw[List.length_cons]
  omega
theorem vU {t b:Int} (hb:0≤b):∀(as:List (Str×Int)) (acc:List (Key×V)) (B:Int),0≤B→FE B acc→(∀p∈as,0≤p.2*t∧p.2*t≤b)→FE (B+as.length*b) (a8 t acc as)
 | [],acc,B,_,h,_=>by
   have e:B+(([]:List (Str×Int)).length:Int)*b=B:=by simp
   rw[e];exact h
 |p::r,acc,B,hB,h,hp=>by
  obtain⟨p0,p1⟩:=hp p (List.mem_cons_self ..)
  have:=vU hb r _ (B+b) (by omega) (h.add hB (Sum.inr p.1) p0 p1) fun q hq=>hp q (List.mem_cons_of_mem _ hq)
  have e:B+b+(r.length:Int)*b=B+((p::r).length:Int)*b:=by
   rw[List.length_cons]
   push_cast
   rw[Int.add_mul,Int.one_mul]
   omega
  rw[←e]
  exact this
def eZ (n:Int):Str:=if n=1 then "" else (toString n:Str)
theorem Ad:∀n:Nat,n<1000→(eZ (n:Int)).length≤3:=by decide+kernel
theorem gY {n:Int} (h:1≤n) (h':n≤999):(eZ n).length≤3:=by
 have:=Ad n.toNat (by omega)
 rwa [Int.toNat_of_nonneg (by omega)] at this
def jn (ys:List Str):Str:=Str.join ⟨#[]⟩ ys
theorem join_eq (ys:List Str):Txt.join "" ys=jn ys:=by
 have h:=PyProof.Rows.join_closes (sep:="") (sep':=⟨#[]⟩) (ys:=ys) (by decide+kernel)
 unfold jn
 simpa using h
theorem Jz (x:Str) (r:List Str):jn (x::r)=x++jn r:=PyProof.Rows.join_nil_cons x r
theorem Bm:∀{ys:List Str} {b:Nat},(∀y∈ys,y.length≤b)→(ys.map (·.length)).sum≤ys.length*b
 | [],_,_=>Nat.zero_le _
 |y::r,b,h=>by
  rw[List.map_cons,List.sum_cons,List.length_cons,Nat.succ_mul]
  have h1:=h y (List.mem_cons_self ..)
  have h2:=Bm (ys:=r) (b:=b) fun z hz=>h z (List.mem_cons_of_mem _ hz)
  omega
theorem tN (x y z:Str):x++y++z=x++(y++z):=by
 show (⟨(x.cps++y.cps)++z.cps⟩:Str)=⟨x.cps++(y.cps++z.cps)⟩
 rw[Array.append_assoc]
theorem Xs:¬(("parts" :Str)="count"):=by decide+kernel
def mP (l:Addr) (n:Int):List (Str×V):=cL "count" (.int n) (cL "parts" (.ref l) [])
theorem iD (l:Addr) (n:Int):(mP l n).lookup ("parts" :Str)=some (.ref l):=by
 unfold mP
 rw[az,if_neg Xs,az,if_pos rfl]
theorem iE (l:Addr) (n:Int):(mP l n).lookup ("count" :Str)=some (.int n):=by
 unfold mP
 rw[az,if_pos rfl]
theorem mQ (l:Addr) (n:Int) {m:Str} (h1:¬m="count") (h2:¬m="parts"):(mP l n).lookup m=none:=by
 unfold mP
 rw[az,if_neg h1,az,if_neg h2]
 all_goals rfl
def qX (K:PySem.W.Frag):Sp:=fun vs H Q _=>∃(a:Addr) (ns:List Int) (k:Nat),vs=[.ref a, .int k]∧b5 K H a (ns.map V.int)∧ns.length≤63∧∀n,Q (.int n) H
def vV:Sp:=fun vs H Q _=>∃i:Int,vs=[.int i]∧Q (.bl true) H
def ki:Sp:=fun vs H Q _=>∃n:Int,vs=[.int n]∧1≤n∧n≤999∧Q (.str (eZ n)) H
def FF (C:Addr):Sp:=fun vs H Q _=>∃(p dx:Addr) (k:Str) (n:Int),vs=[.ref p, .str k, .int n]∧H p=some (.ins C dx [])∧∀H',H' p=some (.ins C dx (vR k n))→(∀b o,H b=some o→b≠p→H' b=some o)→Q .cU H'
def vW (C:Addr):Sp:=fun vs H Q _=>∃(p:Addr) (k:Str) (n:Int),vs=[.ref p]∧gm C H p k n∧k.length≤3∧1≤n∧n≤999∧Q (.str (k++eZ n)) H
def qY (C:Addr):Sp:=fun vs H Q _=>∃(p:Addr) (k:Str) (n:Int),vs=[.ref p]∧gm C H p k n∧∀d,H d=none→Q (.ref d) (upd H d (.dK [(Sum.inr k, .int n)]))
structure oo (K:PySem.W.Frag) (mg:Str→Option Value) (C:Addr):Prop where
 gq:sy K C
 vX:cG K C "kind"
 qZ:cG K C "count"
 Ni:mg "Atom" =some (.ref C)
 oZ:mg "len" =none
 FG:mg "str" =none
 yc:mg "int" =none
 Nj:mg "bool" =none
 kS:mg "range" =none
 bx:mg "isinstance" =none
 k1:PySem.W.kitOne K (.type "int") (.type "int")=some true
 k2:PySem.W.kitOne K (.type "int") (.type "bool")=some false
 k3:PySem.W.kitOne K (.type "dict") (.type "dict")=some true
 k4:PySem.W.kitOne K (.type "str") (.type "str")=some true
 k6:PySem.W.kitOne K (.type "list") (.type "list")=some true
theorem mR {x y:Str} (h:x.cps.toList=y.cps.toList):x=y:=by
 cases x;cases y
 congr 1
 exact Array.toList_inj.mp h
theorem JA (a b n:Nat):Builtin.Str.strSliceIndices (some (a:Int)) (some (b:Int)) 1 n=Builtin.Str.strSliceIndices (some (a:Int)) (some ((min b n:Nat):Int)) 1 n:=by
 have h2:¬((b:Int) <0):=by omega
 have h3:¬(((min b n:Nat):Int) <0):=by omega
 have e2:max (0 :Int) (min (b:Int) (n:Int))=max (0 :Int) (min ((min b n:Nat):Int) (n:Int)):=by omega
 simp only [Builtin.Str.strSliceIndices,h2,h3,if_false,e2,show ((1 :Int) >0)=True from by simp,if_true]
theorem tO (x:Str) {a b:Nat} (MU:a≤b) (ha:a≤x.length):(Txt.slice x (some (a:Int)) (some (b:Int))).cps.toList=(x.cps.toList.drop a).take (b - a):=by
 have hm:a≤min b x.length:=by omega
 have hb:min b x.length≤x.length:=by omega
 have h1:=StrLaws.sliced_plain x hm hb
 have h2:=StrLaws.strSliceIndices_plain hm hb
 have hl:x.cps.toList.length=x.length:=by simp [Str.length]
 unfold Txt.slice
 rw[JA]
 split
 ·rename_i h
  have h:(Builtin.Str.strSliceIndices (some (a:Int)) (some ((min b x.length:Nat):Int)) 1 x.length).length=x.length:=by simpa using h
  rw[h2,List.length_map,List.length_range] at h
  by_cases hz:x.length=0
  ·have:x.cps.toList=[]:=List.length_eq_zero_iff.mp (by omega)
   rw[this];simp
  ·have e:a=0:=by omega
   subst e
   rw[List.drop_zero,List.take_of_length_le (by omega)]
 ·show (List.filterMap _ _).toArray.toList=_
  rw[h1,List.take_eq_take_iff,List.length_drop,hl]
  omega
def eL (x:Str) (p:Nat):Str:=⟨((x.cps.toList.drop p).take 1).toArray⟩
theorem tP (x:Str) {p:Nat} (hp:p≤x.length):Txt.slice x (some (p:Int)) (some ((p:Int)+1))=eL x p:=by
 apply mR
 have:=tO x (a:=p) (b:=p+1) (by omega) hp
 rw[Nat.add_sub_cancel_left] at this
 exact this
def Here (x:Str) (p:Nat) (t post:List Nat):Prop:=p≤x.length∧x.cps.toList.drop p=t++post
theorem Here.on {x:Str} {p:Nat} {t u post:List Nat} (h:Here x p (t++u) post):Here x (p+t.length) u post:=by
 obtain⟨h1,h2⟩:=h
 have hl:x.cps.toList.length=x.length:=by simp [Str.length]
 have e:=congrArg List.length h2
 rw[List.length_drop,List.length_append,List.length_append,hl] at e
 refine⟨by omega,?_⟩
 rw[←List.drop_drop,h2,List.append_assoc,List.drop_left]
theorem Here.sg {x:Str} {p:Nat} {c:Nat} {t post:List Nat} (h:Here x p (c::t) post):eL x p=⟨#[c]⟩:=by
 unfold eL
 rw[h.2]
 rfl
theorem Here.Nk {x:Str} {p:Nat} {post:List Nat} (h:Here x p [] post):eL x p=⟨(post.take 1).toArray⟩:=by
 unfold eL
 rw[h.2]
 rfl
theorem Here.cut {x:Str} {p:Nat} {t post:List Nat} (h:Here x p t post):Txt.slice x (some (p:Int)) (some ((p+t.length:Nat):Int))=⟨t.toArray⟩:=by
 apply mR
 rw[tO x (by omega) h.1,h.2,Nat.add_sub_cancel_left,List.take_left]
theorem Here.le {x:Str} {p:Nat} {t post:List Nat} (h:Here x p t post):p+t.length≤x.length:=by
 have hl:x.cps.toList.length=x.length:=by simp [Str.length]
 have e:=congrArg List.length h.2
 rw[List.length_drop,List.length_append,hl] at e
 have:=h.1
 omega
def inR (lo hi:Nat) (s:Str):Bool:=match s.cps.toList with
 | [c]=>decide (lo≤c)&&decide (c≤hi)
 |_=>false
theorem Nl (lo:Nat) (s:Str) (h:s.cps.toList.length≤1):(!decide (s.cps.toList< [lo]))=(match s.cps.toList with| [c]=>decide (lo≤c) |_=>false):=by
 match hh:s.cps.toList,h with
 | [],_=>simp
 | [c],_=>
   have:([c] < [lo])↔c<lo:=by simp [List.cons_lt_cons_iff]
   by_cases hc:c<lo
   ·rw[decide_eq_true (this.mpr hc)];simp;omega
   ·rw[decide_eq_false (fun z=>hc (this.mp z))];simp;omega
 |_::_::_,h=>simp at h
theorem Nm (hi:Nat) (s:Str) (h:s.cps.toList.length≤1):(!decide ([hi] <s.cps.toList))=(match s.cps.toList with| [c]=>decide (c≤hi) |_=>true):=by
 match hh:s.cps.toList,h with
 | [],_=>simp
 | [c],_=>
   have:([hi] < [c])↔hi<c:=by simp [List.cons_lt_cons_iff]
   by_cases hc:hi<c
   ·rw[decide_eq_true (this.mpr hc)];simp;omega
   ·rw[decide_eq_false (fun z=>hc (this.mp z))];simp;omega
 |_::_::_,h=>simp at h
theorem mS (x:Str) (p:Nat):(eL x p).cps.toList.length≤1:=by
 unfold eL
 simp
 omega
def Not (f:Nat→Bool) (l:List Nat):Prop:=∀c,l.head? =some c→f c=false
def xw (c:Nat):Bool:=decide (48≤c)&&decide (c≤57)
def En (c:Nat):Bool:=decide (97≤c)&&decide (c≤122)
def Eo (c:Nat):Bool:=decide (65≤c)&&decide (c≤90)
def aQ (n:Int):List Nat:=(eZ n).cps.toList
theorem vY:aQ 1=[]:=by decide+kernel
theorem kj {n:Nat} (h:n≠1):aQ (n:Int)=(Nat.toDigits 10 n).map Char.toNat:=by
 unfold aQ eZ
 rw[if_neg (by omega)]
 exact PySem.W.KIN.signs_num n
theorem pV (n:Nat):(aQ (n:Int)).all xw=true:=by
 by_cases h:n=1
 ·subst h;rw[show ((1 :Nat):Int)=1 from rfl,vY];rfl
 ·rw[kj h,List.all_eq_true]
  intro c hc
  obtain⟨ch,Eh,e⟩:=List.mem_map.mp hc
  have r:=PyProof.Rows.digit_range (Nat.isDigit_of_mem_toDigits (by decide) (by decide) Eh)
  rw[←e]
  simp only [xw,Bool.and_eq_true,decide_eq_true_eq]
  exact r
theorem FH (n:Nat):Nat.toDigits 10 n≠[]:=by
 intro e
 have h:=PySem.toDigits_len_ge 10 n
 rw[e] at h
 exact absurd h (by decide)
theorem FI:∀n:Nat,n≠0→(Nat.toDigits 10 n).head? ≠some '0' :=by
 intro n
 induction n using Nat.strongRecOn with
 |_ m ih=>
  intro h0
  by_cases h:m<10
  ·rw[Nat.toDigits_of_lt_base h]
   have:∀m:Nat,m<10→m≠0→[Nat.digitChar m].head? ≠some '0' :=by decide
   exact this m h h0
  ·have hm:m%10<10:=Nat.mod_lt m (by decide)
   have t:Nat.toDigits 10 (m/10)++Nat.toDigits 10 (m%10)=Nat.toDigits 10 (10*(m/10)+m%10):=Nat.toDigits_append_toDigits (by decide) (by omega) hm
   rw[Nat.div_add_mod] at t
   have:=ih (m/10) (by omega) (by omega)
   rw[←t]
   cases hh:Nat.toDigits 10 (m/10) with
   |nil=>exact absurd hh (FH _)
   |cons c r=>
    rw[hh] at this
    exact this
theorem FJ (n:Nat) (h0:n≠0):(aQ (n:Int)).head? ≠some 48:=by
 by_cases h:n=1
 ·subst h;rw[show ((1 :Nat):Int)=1 from rfl,vY];simp
 ·rw[kj h,List.head?_map]
  intro z
  cases e:(Nat.toDigits 10 n).head? with
  |none=>rw[e] at z;cases z
  |some c=>
   rw[e] at z
   have z:c.toNat=48:=by simpa using z
   have:c='0' :=by
    apply Char.ext
    apply UInt32.toNat_inj.mp
    exact z
   exact FI n h0 (by rw[e,this])
theorem JB (n:Nat):aQ (n:Int)≠[49]:=by
 by_cases h:n=1
 ·subst h;rw[show ((1 :Nat):Int)=1 from rfl,vY];simp
 ·rw[kj h]
  intro z
  have:=PySem.W.KIN.val_back n
  rw[z] at this
  exact h this.symm
theorem Bn (n:Nat) (h:aQ (n:Int)=[]):n=1:=by
 by_cases e:n=1
 ·exact e
 ·rw[kj e] at h
  exact absurd (List.map_eq_nil_iff.mp h) (FH n)
theorem kT {n:Nat} {k:Nat} (hk:0<k) (h:n<10^k):(eZ (n:Int)).length≤k:=by
 unfold eZ
 split
 ·exact Nat.zero_le _
 ·rw[PySem.ofString_length]
  show (Nat.repr n).length≤k
  rw[Nat.length_repr_le_iff hk]
  exact h
theorem JC (n:Nat) (h:n<10^12) (h1:n≠1):PySem.intText? (eZ (n:Int))=some (n:Int):=by
 have hd:PySem.NumText.AllDigits (eZ (n:Int)).cps.toList:=by
  intro c hc
  have:=List.all_eq_true.mp (pV n) c hc
  simpa only [xw,Bool.and_eq_true,decide_eq_true_eq] using this
 have og:(eZ (n:Int)).cps.toList≠[]:=fun z=>h1 (Bn n z)
 have e:=PySem.intText_digits hd og (Nat.le_trans (kT (by decide) h) (by decide))
 rw[show (eZ (n:Int)).cps.toList=_ from kj h1,PySem.W.KIN.val_back] at e
 exact e
theorem mT (lo hi c:Nat):inR lo hi ⟨#[c]⟩=(decide (lo≤c)&&decide (c≤hi)):=rfl
theorem vZ {lo hi:Nat} {post:List Nat} (h:Not (fun c=>decide (lo≤c)&&decide (c≤hi)) post):inR lo hi ⟨(post.take 1).toArray⟩=false:=by
 cases post with
 |nil=>rfl
 |cons c r=>exact h c rfl
instance Y8 (k:Key) (K:List Key):Decidable (k∈K):=decidable_of_iff ((K.any fun x=>decide (x=k))=true) (by simp)
def cM (acc:List (Key×V)) (l:List (Key×Int)):List (Key×V):=l.foldl (fun acc p=>b8 acc p.1 p.2) acc
def jx (K:List Key) (k:Key):List Key:=if k∈K then K else K++[k]
def fx (K L:List Key):List Key:=L.foldl jx K
def sumK (l:List (Key×Int)) (j:Key):Int:=(l.map fun p=>if p.1=j then p.2 else 0).sum
theorem iF (D:List (Key×V)) (k j:Key) (n:Int):aO (putK D k (.int n)) j=if j=k then n else aO D j:=by
 unfold aO
 rw[EL]
 by_cases h:j=k
 ·rw[if_pos h,if_pos h]
 ·rw[if_neg h,if_neg h]
theorem wa (D:List (Key×V)) (k j:Key) (n:Int):aO (b8 D k n) j=aO D j+if k=j then n else 0:=by
 unfold b8
 rw[iF]
 by_cases h:j=k
 ·rw[if_pos h,if_pos h.symm,h]
 ·rw[if_neg h,if_neg (Ne.symm h),Int.add_zero]
theorem mU (D:List (Key×V)) (k:Key) (v:V):(putK D k v).map (·.1)=jx (D.map (·.1)) k:=by
 unfold jx
 cases e:b7 D k with
 |none=>rw[if_neg (mn e),mi v e,List.map_append];rfl
 |some x=>
  rw[if_pos (pI e)]
  have ha:(D.any fun kv=>decide (kv.1=k))=true:=by rw[fg,e];rfl
  unfold putK
  rw[if_pos ha,List.map_map]
  apply List.map_congr_left
  intro p _
  simp only [Function.comp]
  split<;>rfl
theorem km:∀(l:List (Key×Int)) (acc:List (Key×V)),(cM acc l).map (·.1)=fx (acc.map (·.1)) (l.map (·.1))
 | [],_=>rfl
 |p::r,acc=>by
  show (cM (b8 acc p.1 p.2) r).map (·.1)=fx (jx (acc.map (·.1)) p.1) (r.map (·.1))
  rw[km r]
  unfold b8
  rw[mU]
theorem mV:∀(l:List (Key×Int)) (acc:List (Key×V)) (j:Key),aO (cM acc l) j=aO acc j+sumK l j
 | [],acc,j=>by show aO acc j=aO acc j+0;rw[Int.add_zero]
 |p::r,acc,j=>by
  show aO (cM (b8 acc p.1 p.2) r) j=aO acc j+((if p.1=j then p.2 else 0)+sumK r j)
  rw[mV r,wa,Int.add_assoc]
theorem pW:∀(l:List (Key×Int)) (acc:List (Key×V)),bu acc→bu (cM acc l)
 | [],_,h=>h
 |_::r,_,h=>pW r _ (h.add _ _)
theorem Ae:∀(l:List (Key×Int)) (acc:List (Key×V)),(acc.map (·.1)).Nodup→((cM acc l).map (·.1)).Nodup
 | [],_,h=>h
 |_::r,_,h=>Ae r _ (vS h)
theorem Bo {D:List (Key×V)} (hI:bu D) (hn:(D.map (·.1)).Nodup):D=(D.map (·.1)).map fun k=>(k,V.int (aO D k)):=by
 rw[List.map_map]
 refine(List.map_id D).symm.trans ?_
 apply List.map_congr_left
 intro p hp
 have e:=ja hn hp
 have:=hI.look e
 show p=(p.1,V.int (aO D p.1))
 rw[←this]
theorem yd {A B:List (Key×V)} (hA:bu A) (hB:bu B) (nA:(A.map (·.1)).Nodup) (hk:A.map (·.1)=B.map (·.1)) (hz:∀k,aO A k=aO B k):A=B:=by
 rw[Bo hA nA,Bo hB (hk▸nA),←hk]
 apply List.map_congr_left
 intro k _
 rw[hz k]
theorem FK {K:List Key} {k j:Key}:j∈jx K k↔j∈K∨j=k:=by
 unfold jx
 split
 ·rename_i h
  exact⟨.inl,fun z=>z.elim id fun e=>e▸h⟩
 ·simp
theorem q5:∀{L K:List Key} {j:Key},j∈fx K L↔j∈K∨j∈L
 | [],K,j=>by show j∈K↔_;simp
 |x::L,K,j=>by
  show j∈fx (jx K x) L↔_
  rw[q5,FK,List.mem_cons,or_assoc]
theorem Dm (K M:List Key) (x:Key):fx K (jx M x)=jx (fx K M) x:=by
 unfold jx
 by_cases h:x∈M
 ·rw[if_pos h,if_pos (q5.mpr (.inr h))]
 ·rw[if_neg h]
  unfold fx
  rw[List.foldl_append]
  rfl
theorem tQ (K:List Key):∀(L M:List Key),fx K (fx M L)=fx (fx K M) L
 | [],M=>rfl
 |x::L,M=>by
  show fx K (fx (jx M x) L)=fx (jx (fx K M) x) L
  rw[tQ K L,Dm]
theorem wb (f:Key→Int) (j:Key):∀{Ks:List Key},Ks.Nodup→(Ks.map fun k=>if k=j then f k else 0).sum=if j∈Ks then f j else 0
 | [],_=>by simp
 |k::Ks,h=>by
  rw[List.nodup_cons] at h
  rw[List.map_cons,List.sum_cons,wb f j h.2]
  by_cases e:k=j
  ·subst e
   rw[if_pos rfl,if_neg h.1,if_pos (List.mem_cons_self ..),Int.add_zero]
  ·rw[if_neg e,Int.zero_add]
   have:(j∈k::Ks)↔j∈Ks:=by rw[List.mem_cons];exact⟨fun z=>z.elim (fun w=>absurd w.symm e) id, .inr⟩
   by_cases hj:j∈Ks
   ·rw[if_pos hj,if_pos (this.mpr hj)]
   ·rw[if_neg hj,if_neg (fun z=>hj (this.mp z))]
theorem mW {D:List (Key×V)} {j:Key} (h:¬j∈D.map (·.1)):aO D j=0:=by
 cases e:b7 D j with
 |none=>exact eD e
 |some x=>exact absurd (pI e) h
theorem ye (c:Int) (j:Key):∀l:List (Key×Int),sumK (l.map fun p=>(p.1,p.2*c)) j=sumK l j*c
 | []=>by show (0 :Int)=0*c;rw[Int.zero_mul]
 |p::r=>by
  show (if p.1=j then p.2*c else 0)+sumK (r.map fun p=>(p.1,p.2*c)) j=((if p.1=j then p.2 else 0)+sumK r j)*c
  rw[ye c j r,Int.add_mul]
  split
  ·rfl
  ·rw[Int.zero_mul]
theorem add_dict (c:Int) {acc:List (Key×V)} (hI:bu acc) (hn:(acc.map (·.1)).Nodup) (l:List (Key×Int)):
  cM acc ((cM [] l).map fun p=>(p.1,aO (cM [] l) p.1*c))=cM acc (l.map fun p=>(p.1,p.2*c)):=by
 have hD:bu (cM [] l):=pW l [] fun p hp=>by cases hp
 have nD:((cM [] l).map (·.1)).Nodup:=Ae l [] List.nodup_nil
 refine yd (pW _ _ hI) (pW _ _ hI) (Ae _ _ hn) ?_ fun j=>?_
 ·rw[km,km,List.map_map,List.map_map]
  show fx (acc.map (·.1)) ((cM [] l).map (·.1))=fx (acc.map (·.1)) (l.map (·.1))
  rw[km,tQ]
  rfl
 ·rw[mV,mV,ye]
  congr 1
  have e:=wb (fun k=>aO (cM [] l) k*c) j nD
  rw[List.map_map] at e
  have e2:sumK ((cM [] l).map fun p=>(p.1,aO (cM [] l) p.1*c)) j=if j∈(cM [] l).map (·.1) then aO (cM [] l) j*c else 0:=by
   rw[←e]
   unfold sumK
   rw[List.map_map]
   rfl
  have e3:aO (cM [] l) j=sumK l j:=by
   rw[mV]
   show (0 :Int)+_=_
   rw[Int.zero_add]
  rw[e2]
  split
  ·rw[e3]
  ·rename_i h
   rw[←e3,mW h,Int.zero_mul]
theorem pX (t:Int):∀(as:List (Str×Int)) (acc:List (Key×V)),a8 t acc as=cM acc (as.map fun p=>((Sum.inr p.1 :Key),p.2*t))
 | [],_=>rfl
 |p::r,acc=>pX t r _
theorem Bp (c:Int) (all:List (Key×V)):∀(l acc:List (Key×V)),iP c acc l all=cM acc (l.map fun p=>(p.1,aO all p.1*c))
 | [],_=>rfl
 |p::r,acc=>Bp c all r _
theorem wc (c t:Int) (as:List (Str×Int)) {acc:List (Key×V)} (hI:bu acc) (hn:(acc.map (·.1)).Nodup):iP c acc (a8 t [] as) (a8 t [] as)=a8 (t*c) acc as:=by
 rw[Bp,pX,pX,add_dict c hI hn,List.map_map]
 congr 1
 apply List.map_congr_left
 intro p _
 show ((Sum.inr p.1 :Key),p.2*t*c)=(Sum.inr p.1,p.2*(t*c))
 rw[Int.mul_assoc]
theorem Y9:¬(("text" :Str)="place"):=by decide+kernel
def gb (x:Str) (p:Nat):List (Str×V):=cL "place" (.int p) (cL "text" (.str x) [])
theorem fS (x:Str) (p:Nat):(gb x p).lookup ("text" :Str)=some (.str x):=by
 unfold gb
 rw[az,if_neg Y9,az,if_pos rfl]
theorem bB (x:Str) (p:Nat):(gb x p).lookup ("place" :Str)=some (.int p):=by
 unfold gb
 rw[az,if_pos rfl]
theorem aI (x:Str) (p:Nat) {m:Str} (h1:¬m="place") (h2:¬m="text"):(gb x p).lookup m=none:=by
 unfold gb
 rw[az,if_neg h1,az,if_neg h2]
 all_goals rfl
theorem kU (x:Str) (p q:Nat):cL "place" (.int q) (gb x p)=gb x q:=by
 unfold gb
 simp only [cL,if_neg Y9,if_true]
theorem kW (x:Str) (p:Nat):(gb x p).length<1000:=by
 unfold gb
 simp only [cL,if_neg Y9]
 show 2<1000
 decide
def dk (R:Addr) (H:Hp) (r:Addr) (x:Str) (p:Nat):Prop:=∃dx,H r=some (.ins R dx (gb x p))
def Kept (r:Addr) (H H':Hp):Prop:=∀b o,H b=some o→b≠r→H' b=some o
theorem Kept.refl (r:Addr) (H:Hp):Kept r H H:=fun _ _ h _=>h
theorem Kept.trans {r:Addr} {H H' cz:Hp} (h:Kept r H H') (h':Kept r H' cz):Kept r H cz:=fun b o e n=>h' b o (h b o e n) n
theorem Kept.of {r:Addr} {H H':Hp} (h:au H H'):Kept r H H':=fun b o e _=>h b o e
def Lm (lo hi:Nat):Sp:=fun vs H Q _=>∃s:Str,vs=[.str s]∧s.cps.toList.length≤1∧Q (.bl (inR lo hi s)) H
def wd (R:Addr):Sp:=fun vs H Q _=>∃(r dx:Addr) (x:Str),vs=[.ref r, .str x]∧H r=some (.ins R dx [])∧∀H',dk R H' r x 0→Kept r H H'→Q .cU H'
def jy (R:Addr):Sp:=fun vs H Q _=>∃(r:Addr) (x:Str) (p:Nat),vs=[.ref r]∧dk R H r x p∧p≤x.length∧x.length≤1000∧Q (.str (eL x p)) H
def lR (R:Addr):Sp:=fun vs H Q _=>∃(r:Addr) (x:Str) (p:Nat) (s:Str) (c:Nat) (t post:List Nat),vs=[.ref r, .str s]∧s=⟨#[c]⟩∧dk R H r x p∧Here x p (c::t) post∧x.length≤1000∧∀H',dk R H' r x (p+1)→Kept r H H'→Q .cU H'
def kX (R:Addr):Sp:=fun vs H Q _=>∃(r:Addr) (x:Str) (p:Nat) (s:Str) (post:List Nat),vs=[.ref r, .str s]∧s.cps.all (· <128)=true∧dk R H r x p∧Here x p s.cps.toList post∧x.length≤1000∧∀H',dk R H' r x (p+s.length)→Kept r H H'→Q .cU H'
def tR (R:Addr):Sp:=fun vs H Q _=>∃(r:Addr) (x:Str),vs=[.ref r]∧dk R H r x x.length∧x.length≤1000∧Q .cU H
def q9 (R:Addr):Sp:=fun vs H Q _=>∃(r:Addr) (x:Str) (p:Nat) (n lg:Int) (post:List Nat),vs=[.ref r, .int lg]∧dk R H r x p∧Here x p (aQ n) post∧1≤n∧n<10^12∧((aQ n).length:Int)≤lg∧Not xw post∧x.length≤1000∧∀H',dk R H' r x (p+(aQ n).length)→Kept r H H'→Q (.int n) H'
def jg (R:Addr):Sp:=fun vs H Q _=>∃(r:Addr) (x:Str) (p:Nat) (n:Int) (post:List Nat),vs=[.ref r]∧dk R H r x p∧Here x p (aQ n) post∧1≤n∧n≤999∧Not xw post∧x.length≤1000∧∀H',dk R H' r x (p+(aQ n).length)→Kept r H H'→Q (.int n) H'
def lS (k:List Nat):Prop:=∃c r,k=c::r∧Eo c=true∧r.all En=true∧r.length≤2
def we (C R:Addr):Sp:=fun vs H Q _=>∃(r:Addr) (x:Str) (p:Nat) (k:List Nat) (n:Int) (post:List Nat),vs=[.ref r]∧dk R H r x p∧Here x p (k++aQ n) post∧lS k∧1≤n∧n≤999∧Not xw post∧Not En post∧x.length≤1000∧
 ∀a H',H a=none→gm C H' a ⟨k.toArray⟩ n→dk R H' r x (p+(k++aQ n).length)→Kept r H H'→Q (.ref a) H'
structure sG (K:PySem.W.Frag) (mg:Str→Option Value) (C R:Addr) (uK uN:Tok):Prop extends oo K mg C where
 aw:sy K R
 jz:cG K R "text"
 cx:cG K R "place"
 rf:mg "LONGEST_KIND" =some (.int 3 uK)
 px:mg "LONGEST_COUNT" =some (.int 3 uN)
section
seal lM PS PE PT PW PA PG Pw PI PC MN
variable {P:Program} {w:World} {K:PySem.W.Frag} {mg:Str→Option Value} {base:Heap} {C R G Pc Fo:Addr} {uK uN uB uE uM:Tok}
theorem JD:ax ["sign"] ["sign"] (aj vE):=⟨rfl,rfl,rfl,by decide+kernel,rfl,by decide+kernel,by decide+kernel⟩
theorem JE:ax ["sign"] ["sign"] (aj vF):=⟨rfl,rfl,rfl,by decide+kernel,rfl,by decide+kernel,by decide+kernel⟩
theorem FL:ax ["sign"] ["sign"] (aj pN):=⟨rfl,rfl,rfl,by decide+kernel,rfl,by decide+kernel,by decide+kernel⟩
theorem Af (lo hi:Nat) (s:Str) (h:s.cps.toList.length≤1):(if (!decide (s.cps.toList< [lo]))=true then (!decide ([hi] <s.cps.toList)) else false)=inR lo hi s:=by
 rw[Nl lo s h,Nm hi s h]
 unfold inR
 match hh:s.cps.toList,h with
 | [],_=>rfl
 | [c],_=>
   show (if decide (lo≤c)=true then decide (c≤hi) else false)=(decide (lo≤c)&&decide (c≤hi))
   cases decide (lo≤c)<;>rfl
 |_::_::_,h=>simp at h
theorem FN (D:Def K mg "is_great" "is_great" vE ["sign"]):bg P w K mg base 1 "is_great" ["sign"] (Lm 65 90):=by
 refine D.di JD (fun vs H Q E h=>?_) (fun f bA A outer s H vs Q E hr h=>?_)
 ·obtain⟨n,rfl,_⟩:=h
  rfl
 ·obtain⟨x,rfl,hl,q⟩:=h
  refine⟨_,(ao
     (aD (qr gQ gQ bJ (pv 0) bJ))),?_⟩
  rw[←Af 65 90 x hl] at q
  have e1:("A" :Str).cps.toList=[65]:=by decide+kernel
  have e2:("Z" :Str).cps.toList=[90]:=by decide+kernel
  refine⟨_,rfl,_,_,rfl,rfl,_,rfl,?_⟩
  rw[e1]
  cases hh:(!decide (x.cps.toList< [65])) with
  |false=>rw[hh] at q;exact cH q
  |true=>rw[hh] at q;exact ik ⟨_,_,rfl,rfl,by rw[e2];exact q⟩
theorem FO (D:Def K mg "is_small" "is_small" vF ["sign"]):bg P w K mg base 1 "is_small" ["sign"] (Lm 97 122):=by
 refine D.di JE (fun vs H Q E h=>?_) (fun f bA A outer s H vs Q E hr h=>?_)
 ·obtain⟨n,rfl,_⟩:=h
  rfl
 ·obtain⟨x,rfl,hl,q⟩:=h
  refine⟨_,(ao
     (aD (qr gQ gQ bJ (pv 0) bJ))),?_⟩
  rw[←Af 97 122 x hl] at q
  have e1:("a" :Str).cps.toList=[97]:=by decide+kernel
  have e2:("z" :Str).cps.toList=[122]:=by decide+kernel
  refine⟨_,rfl,_,_,rfl,rfl,_,rfl,?_⟩
  rw[e1]
  cases hh:(!decide (x.cps.toList< [97])) with
  |false=>rw[hh] at q;exact cH q
  |true=>rw[hh] at q;exact ik ⟨_,_,rfl,rfl,by rw[e2];exact q⟩
theorem Dn (D:Def K mg "is_figure" "is_figure" pN ["sign"]):bg P w K mg base 1 "is_figure" ["sign"] (Lm 48 57):=by
 refine D.di FL (fun vs H Q E h=>?_) (fun f bA A outer s H vs Q E hr h=>?_)
 ·obtain⟨n,rfl,_⟩:=h
  rfl
 ·obtain⟨x,rfl,hl,q⟩:=h
  refine⟨_,(ao
     (aD (qr gQ gQ bJ (pv 0) bJ))),?_⟩
  rw[←Af 48 57 x hl] at q
  have e1:("0" :Str).cps.toList=[48]:=by decide+kernel
  have e2:("9" :Str).cps.toList=[57]:=by decide+kernel
  refine⟨_,rfl,_,_,rfl,rfl,_,rfl,?_⟩
  rw[e1]
  cases hh:(!decide (x.cps.toList< [48])) with
  |false=>rw[hh] at q;exact cH q
  |true=>rw[hh] at q;exact ik ⟨_,_,rfl,rfl,by rw[e2];exact q⟩
theorem JF:ax ["self","text"] ["self","text"] (aj qR):=⟨rfl,rfl,rfl,by decide+kernel,rfl,by decide+kernel,by decide+kernel⟩
theorem yf (D:lB K R "Reader.__init__" qR ["self","text"] []) (T:sG K mg C R uK uN):gz P w K mg base 1 R ["self","text"] [] (wd R):=by
 refine D.di JF (fun vs H Q E h=>?_) (fun f bA A outer s H vs Q E hr h=>?_)
 ·obtain⟨r,dx,x,rfl,_⟩:=h
  rfl
 ·obtain⟨r,dx,x,rfl,hp,q⟩:=h
  refine⟨_,(ai
     (eK (pv 0) (pv 1) rfl)
    (ao
     (eK (pv 0) aq rfl))),?_⟩
  refine⟨_,rfl,_,rfl,r,R,dx,[],rfl,hp,T.aw,T.jz,(by show 0<1000;decide),_,rfl,r,R,dx,_,rfl,af,T.aw,T.cx,(by show 1<1000;decide),?_⟩
  refine q _ ⟨dx,af⟩ fun b o e hb=>?_
  rw[ah hb,ah hb]
  exact e
theorem Nn:ax ["self"] ["self"] (aj x9):=⟨rfl,rfl,rfl,by decide+kernel,rfl,by decide+kernel,by decide+kernel⟩
theorem Bq (D:a9 K R "sign" "Reader.sign" x9 ["self"]) (T:sG K mg C R uK uN):aJ P w K mg base 1 R "sign" ["self"] (jy R):=by
 refine D.di Nn (fun vs H Q E h=>?_) (fun f bA A outer s H vs Q E hr h=>?_)
 ·obtain⟨r,x,p,rfl,_⟩:=h
  rfl
 ·obtain⟨r,x,p,rfl,⟨dx,hR⟩,hp,hx,q⟩:=h
  have big:(1000 :Nat)≤sizeLine:=by decide
  refine⟨_,(ao
     (aD (ml vw (a0 (pv 0) rfl) (iq (a0 (pv 0) rfl)) (iq (aE cf (a0 (pv 0) rfl) aq))))),?_⟩
  rw[←tP x hp] at q
  exact⟨_,rfl,r,R,dx,_,_,rfl,hR,T.aw,T.jz,fS _ _,_,rfl,r,R,dx,_,_,rfl,hR,T.aw,T.cx,bB _ _,_,rfl,_,rfl,r,R,dx,_,_,rfl,hR,T.aw,T.cx,bB _ _,_,_,rfl,rfl,_,rfl,x,rfl,by omega,q⟩
theorem Np:ax ["self","sign"] ["self","sign"] (aj ya):=⟨rfl,rfl,rfl,by decide+kernel,rfl,by decide+kernel,by decide+kernel⟩
theorem Br (D:a9 K R "take" "Reader.take" ya ["self","sign"]) (T:sG K mg C R uK uN) (c1:aJ P w K mg base 1 R "sign" ["self"] (jy R)):aJ P w K mg base 2 R "take" ["self","sign"] (lR R):=by
 obtain⟨_,_,av⟩:=c1
 refine D.di Np (fun vs H Q E h=>?_) (fun f bA A outer s H vs Q E hr h=>?_)
 ·obtain⟨r,x,p,sg,c,t,post,rfl,_⟩:=h
  rfl
 ·obtain⟨r,x,p,sg,c,t,post,rfl,hs,⟨dx,hR⟩,hh,hx,q⟩:=h
  refine⟨_,(ai
     (bG (aP oX (aN (pv 0) T.aw av.m av.ok (hr.mono (by decide)) av.b .nil ay) (pv 1) (aV _))
      (ao
       fZ)
      aR)
    (ao
     (kF (pv 0) aq vd))),?_⟩
  refine⟨_,rfl,r,dx,_,rfl,hR,aI _ _ (by decide+kernel) (by decide+kernel),r,x,p,rfl,⟨dx,hR⟩,hh.1,hx,_,rfl,rfl,_,rfl,A7 (by rw[hh.sg,hs]) ?_⟩
  refine⟨_,rfl,r,R,dx,_,_,rfl,hR,T.aw,T.cx,bB _ _,_,_,rfl,rfl,dx,_,hR,kW _ _,?_⟩
  refine q _ ⟨dx,?_⟩ fun b o e hb=>?_
  ·rw[af]
   exact congrArg (fun z=>some (HO.ins R dx z)) (kU x p (p+1))
  ·rw[ah hb];exact e
theorem tS:ax ["self","signs","sign"] ["self","signs"] (aj kb):=⟨rfl,rfl,rfl,by decide+kernel,rfl,by decide+kernel,by decide+kernel⟩
theorem rg (D:a9 K R "take_all" "Reader.take_all" kb ["self","signs"]) (T:sG K mg C R uK uN) (c1:aJ P w K mg base 2 R "take" ["self","sign"] (lR R)):aJ P w K mg base 3 R "take_all" ["self","signs"] (kX R):=by
 obtain⟨_,_,aF⟩:=c1
 refine D.di tS (fun vs H Q E h=>?_) (fun f bA A outer s H vs Q E hr h=>?_)
 ·obtain⟨r,x,p,sg,post,rfl,_⟩:=h
  rfl
 ·obtain⟨r,x,p,sg,post,rfl,ha,hR,hh,hx,q⟩:=h
  refine⟨_,(ao
     (bW PassesOwn.never rfl (MW (pv 1)) (aG (i:=2) tS.nd rfl (Or.inl rfl))
      (ao
       (bz (bU (pv 0) T.aw aF.m aF.ok (hr.mono (by decide)) aF.b .nil ay (aa (pv 2) ak)))))),?_⟩
  refine⟨_,rfl,sg,rfl,ha,Jg (fun i σ H'=>∃v:Option V,σ=[some (.ref r),some (.str sg),v]∧dk R H' r x (p+i)∧Kept r H H') ⟨none,rfl,hR,Kept.refl r H⟩ ?_ ?_⟩
  ·rintro i c σ H' hc ⟨v,rfl,⟨dx,eh⟩,kk⟩
   have Ia:sg.cps.toList[i]? =some c:=by rw[Array.getElem?_toList];exact hc
   have hi:i<sg.cps.toList.length:=(List.getElem?_eq_some_iff.mp Ia).1
   have e:sg.cps.toList=sg.cps.toList.take i++c::sg.cps.toList.drop (i+1):=by
    conv=>lhs;rw[←List.take_append_drop i sg.cps.toList]
    congr 1
    rw[List.drop_eq_getElem_cons hi]
    congr 1
    exact(List.getElem?_eq_some_iff.mp Ia).2
   have h2:Here x (p+i) (c::sg.cps.toList.drop (i+1)) post:=by
    have h3:=Here.on (t:=sg.cps.toList.take i) (u:=c::sg.cps.toList.drop (i+1)) (e▸hh)
    rwa [List.length_take,Nat.min_eq_left (by omega)] at h3
   refine⟨_,rfl,r,dx,_,rfl,eh,aI _ _ (by decide+kernel) (by decide+kernel),_,rfl,r,x,p+i,_,c,_,post,rfl,rfl,⟨dx,eh⟩,h2,hx,fun cz Y' k''=>?_⟩
   exact⟨_,rfl,Y',kk.trans k''⟩
  ·rintro σ H' ⟨v,rfl,eh,kk⟩
   exact q _ eh kk
theorem Dp:ax ["self"] ["self"] (aj mF):=⟨rfl,rfl,rfl,by decide+kernel,rfl,by decide+kernel,by decide+kernel⟩
theorem Ag (D:a9 K R "take_end" "Reader.take_end" mF ["self"]) (T:sG K mg C R uK uN):aJ P w K mg base 1 R "take_end" ["self"] (tR R):=by
 refine D.di Dp (fun vs H Q E h=>?_) (fun f bA A outer s H vs Q E hr h=>?_)
 ·obtain⟨r,x,rfl,_⟩:=h
  rfl
 ·obtain⟨r,x,rfl,⟨dx,hR⟩,hx,q⟩:=h
  refine⟨_,(ao
     (bG (aP mh (a0 (pv 0) rfl) (br jt rfl T.oZ j7 (aa (a0 (pv 0) rfl) ak)) (aV _))
      (ao
       fZ)
      aR)),?_⟩
  exact⟨_,rfl,r,R,dx,_,_,rfl,hR,T.aw,T.cx,bB _ _,_,rfl,r,R,dx,_,_,rfl,hR,T.aw,T.jz,fS _ _,x,rfl,Nat.le_trans hx (by decide),_,_,rfl,rfl,_,rfl,qH (by omega) q⟩
theorem Ln {n:Int} (h1:1≤n) (h2:n<10^12):∃m:Nat,n=(m:Int)∧m<10^12∧m≠0:=⟨n.toNat,by omega,by omega,by omega⟩
theorem oq:ax ["self","longest","begin","written"] ["self","longest"] (aj kd):=⟨rfl,rfl,rfl,by decide+kernel,rfl,by decide+kernel,by decide+kernel⟩
theorem tT (D:a9 K R "read_number" "Reader.read_number" kd ["self","longest"]) (T:sG K mg C R uK uN) (c1:aJ P w K mg base 1 R "sign" ["self"] (jy R)) (c2:bg P w K mg base 1 "is_figure" ["sign"] (Lm 48 57)):aJ P w K mg base 2 R "read_number" ["self","longest"] (q9 R):=by
 obtain⟨_,_,av⟩:=c1
 obtain⟨_,_,iG⟩:=c2
 refine D.di oq (fun vs H Q E h=>?_) (fun f bA A outer s H vs Q E hr h=>?_)
 ·obtain⟨r,x,p,n,lg,post,rfl,_⟩:=h
  rfl
 ·obtain⟨r,x,p,n,lg,post,rfl,⟨dx,hR⟩,hh,n1,n2,fl,FP,hx,q⟩:=h
  obtain⟨m,rfl,m1,m0⟩:=Ln n1 n2
  have big:(1000 :Nat)≤sizeLine:=by decide
  have fa:=pV m
  have fh:=FJ m m0
  have f1:=JB m
  have fl12:(aQ (m:Int)).length≤12:=by
   have:=kT (k:=12) (by decide) m1
   unfold aQ
   simpa [Str.length] using this
  have e0:("0" :Str)=⟨#[48]⟩:=by decide+kernel
  have e1:("1" :Str)=⟨#[49]⟩:=by decide+kernel
  refine⟨_,(ai
     (bG (aP dZ (aN (pv 0) T.aw av.m av.ok (hr.mono (by decide)) av.b .nil ay) bJ (aV _))
      (ao
       fZ)
      aR)
    (ai
     (aB (i:=2) oq.nd rfl (Or.inl rfl) (a0 (pv 0) rfl))
    (ai
     (iY PassesOwn.never (PW.pt (zD (cJ (aH iG.ok (hr.mono (by decide)) rfl iG.g iG.kp iG.b .nil ay (aa (aN (pv 0) T.aw av.m av.ok (hr.mono (by decide)) av.b .nil ay) ak))) (va (aP mh (aE j3 (a0 (pv 0) rfl) (pv 2)) (pv 1) (aV _)))))
      (ao
       (kF (pv 0) aq vd)))
    (ai
     (aB (i:=3) oq.nd rfl (Or.inl rfl) (ml vw (a0 (pv 0) rfl) (iq (pv 2)) (iq (a0 (pv 0) rfl))))
    (ai
     (bG (aP dZ (pv 3) bJ (aV _))
      (ao
       fZ)
      aR)
    (ao
     (aD (xE (qu (pv 3) (fun _=>rfl)) (bK C7 rfl T.yc qG (aa (pv 3) ak)) aq)))))))),?_⟩
  have s0:¬V.str (eL x p)=V.str "0" :=by
   rw[e0]
   intro z
   have z:eL x p=⟨#[48]⟩:=by injection z
   cases hf:aQ (m:Int) with
   |nil=>
    rw[hf] at hh
    rw[hh.Nk] at z
    cases post with
    |nil=>have:=congrArg (fun s:Str=>s.cps.toList) z;simp at this
    |cons c r=>
     have:c=48:=by have:=congrArg (fun s:Str=>s.cps.toList) z;simpa using this
     have:=FP c rfl
     subst_vars
     simp [xw] at this
   |cons c r=>
    rw[hf] at hh fh
    rw[hh.sg] at z
    have:c=48:=by have:=congrArg (fun s:Str=>s.cps.toList) z;simpa using this
    exact fh (by rw[this];rfl)
  refine⟨_,rfl,r,dx,_,rfl,hR,aI _ _ (by decide+kernel) (by decide+kernel),r,x,p,rfl,⟨dx,hR⟩,hh.1,hx,rfl,_,rfl,qH s0 ?_⟩
  refine⟨_,rfl,r,R,dx,_,_,rfl,hR,T.aw,T.cx,bB _ _,?_⟩
  refine⟨fun k σ H'=>∃j:Nat,k+j=(aQ (m:Int)).length∧σ=[some (.ref r),some (.int lg),some (.int p),none]∧dk R H' r x (p+j)∧Kept r H H',⟨(aQ (m:Int)).length,0,by omega,rfl,⟨dx,hR⟩,Kept.refl r H⟩,?_⟩
  rintro k σ H' ⟨j,hk,rfl,⟨dP,eh⟩,kk⟩
  have hle:=hh.le
  refine⟨_,rfl,r,dP,_,rfl,eh,aI _ _ (by decide+kernel) (by decide+kernel),r,x,p+j,rfl,⟨dP,eh⟩,by omega,hx,_,rfl,mS _ _,_,rfl,?_⟩
  by_cases hj:j< (aQ (m:Int)).length
  ·have e:aQ (m:Int)=(aQ (m:Int)).take j++(aQ (m:Int))[j]::(aQ (m:Int)).drop (j+1):=by
    conv=>lhs;rw[←List.take_append_drop j (aQ (m:Int))]
    congr 1
    exact List.drop_eq_getElem_cons hj
   have h2:Here x (p+j) ((aQ (m:Int))[j]::(aQ (m:Int)).drop (j+1)) post:=by
    have h3:=Here.on (t:=(aQ (m:Int)).take j) (u:=(aQ (m:Int))[j]::(aQ (m:Int)).drop (j+1)) (e▸hh)
    rwa [List.length_take,Nat.min_eq_left (by omega)] at h3
   have ev:inR 48 57 (eL x (p+j))=true:=by
    rw[h2.sg,mT]
    exact List.all_eq_true.mp fa _ (List.getElem_mem hj)
   rw[ev]
   refine ik ⟨_,rfl,r,R,dP,_,_,rfl,eh,T.aw,T.cx,bB _ _,_,rfl,_,_,rfl,rfl,_,rfl,_,_,rfl,rfl,_,rfl,vo (by omega) ?_⟩
   refine⟨_,fun σ' cz h=>⟨k - 1,by omega,h⟩,?_⟩
   refine⟨_,rfl,r,R,dP,_,_,rfl,eh,T.aw,T.cx,bB _ _,_,_,rfl,rfl,dP,_,eh,kW _ _,?_⟩
   refine⟨j+1,by omega,rfl,⟨dP,?_⟩,fun b o z w=>?_⟩
   ·rw[af]
    exact congrArg (fun z=>some (HO.ins R dP z)) (kU x (p+j) (p+j+1))
   ·rw[ah w];exact kk b o z w
  ·have ej:j=(aQ (m:Int)).length:=by omega
   have h2:Here x (p+j) [] post:=by
    have h3:=Here.on (t:=aQ (m:Int)) (u:=[]) (by rw[List.append_nil];exact hh)
    rwa [←ej] at h3
   have ev:inR 48 57 (eL x (p+j))=false:=by
    rw[h2.Nk]
    exact vZ FP
   rw[ev]
   refine cH (cH ?_)
   have ec:Txt.slice x (some (p:Int)) (some ((p+j:Nat):Int))=eZ (m:Int):=by
    rw[ej,hh.cut]
    apply mR
    simp [aQ]
   refine⟨_,rfl,r,R,dP,_,_,rfl,eh,T.aw,T.jz,fS _ _,_,rfl,_,rfl,_,rfl,r,R,dP,_,_,rfl,eh,T.aw,T.cx,bB _ _,_,rfl,x,rfl,by omega,?_⟩
   rw[ec]
   have nw:¬V.str (eZ (m:Int))=V.str "1" :=by
    rw[e1]
    intro z
    have z:eZ (m:Int)=⟨#[49]⟩:=by injection z
    exact f1 (by unfold aQ;rw[z])
   refine⟨_,rfl,rfl,_,rfl,qH nw ?_⟩
   rw[ej] at eh
   have fin:=q H' ⟨dP,eh⟩ kk
   have lf:(eZ (m:Int)).length=(aQ (m:Int)).length:=by unfold aQ;simp [Str.length]
   refine⟨_,rfl,_,⟨by rw[lf];omega,rfl⟩,?_⟩
   by_cases hm:m=1
   ·subst hm
    have ez:(((eZ ((1 :Nat):Int)).length:Int) != 0)=false:=by decide+kernel
    rw[ez]
    exact cH fin
   ·have ez:(((eZ (m:Int)).length:Int) != 0)=true:=by
     rw[lf]
     have:(aQ (m:Int)).length≠0:=fun z=>hm (Bn m (List.length_eq_zero_iff.mp z))
     simp only [bne_iff_ne,ne_eq]
     omega
    rw[ez]
    exact ik ⟨_,rfl,_,_,rfl,JC m m1 hm,by rw[lf];omega,fin⟩
theorem FQ:ax ["self"] ["self"] (aj mH):=⟨rfl,rfl,rfl,by decide+kernel,rfl,by decide+kernel,by decide+kernel⟩
theorem tU (D:a9 K R "read_count" "Reader.read_count" mH ["self"]) (T:sG K mg C R uK uN) (c1:aJ P w K mg base 2 R "read_number" ["self","longest"] (q9 R)):aJ P w K mg base 3 R "read_count" ["self"] (jg R):=by
 obtain⟨_,_,bH⟩:=c1
 refine D.di FQ (fun vs H Q E h=>?_) (fun f bA A outer s H vs Q E hr h=>?_)
 ·obtain⟨r,x,p,n,post,rfl,_⟩:=h
  rfl
 ·obtain⟨r,x,p,n,post,rfl,⟨dx,hR⟩,hh,n1,n2,FP,hx,q⟩:=h
  refine⟨_,(ao
     (aD (bU (pv 0) T.aw bH.m bH.ok (hr.mono (by decide)) bH.b .nil ay (aa (aX (v:= .int 3) rfl T.px ⟨_,rfl⟩) ak)))),?_⟩
  exact⟨_,rfl,r,dx,_,rfl,hR,aI _ _ (by decide+kernel) (by decide+kernel),r,x,p,n,3,post,rfl,⟨dx,hR⟩,hh,n1,by omega,(by have:=gY n1 n2;unfold aQ;simp [Str.length] at this;simpa using by omega),FP,hx,q⟩
theorem a6 {r a:Addr} {H H':Hp} {o:HO} (k:Kept r H H') (hr:H' r=some o) (h:H' a=none):H a=none:=by
 cases hh:H a with
 |none=>rfl
 |some o'=>
  by_cases e:a=r
  ·rw[e,hr] at h;cases h
  ·rw[k a o' hh e] at h;cases h
theorem JG {f:Nat→Bool} {l post:List Nat} (h1:∀c∈l,f c=false) (h2:Not f post):Not f (l++post):=by
 cases l with
 |nil=>exact h2
 |cons c r=>
  intro d hd
  have e:c=d:=by simpa using hd
  rw[←e]
  exact h1 c (List.mem_cons_self ..)
theorem FR {n:Int} (h1:1≤n) (h2:n≤999):∀c∈aQ n,En c=false:=by
 intro c hc
 obtain⟨m,rfl,m1,m0⟩:=Ln h1 (by omega)
 have:=List.all_eq_true.mp (pV m) c hc
 simp only [xw,En,Bool.and_eq_true,decide_eq_true_eq] at*
 simp
 omega
theorem wg:ax ["self","begin","kind"] ["self"] (aj qT):=⟨rfl,rfl,rfl,by decide+kernel,rfl,by decide+kernel,by decide+kernel⟩
theorem yg (D:a9 K R "read_atom" "Reader.read_atom" qT ["self"]) (T:sG K mg C R uK uN) (c1:aJ P w K mg base 1 R "sign" ["self"] (jy R)) (c2:bg P w K mg base 1 "is_great" ["sign"] (Lm 65 90)) (c3:bg P w K mg base 1 "is_small" ["sign"] (Lm 97 122)) (c4:aJ P w K mg base 3 R "read_count" ["self"] (jg R))
  (c5:gz P w K mg base 1 C ["self","kind","count"] [1] (FF C)):aJ P w K mg base 4 R "read_atom" ["self"] (we C R):=by
 obtain⟨_,_,av⟩:=c1
 obtain⟨_,_,dm⟩:=c2
 obtain⟨_,_,jA⟩:=c3
 obtain⟨_,_,aL⟩:=c4
 obtain⟨_,_,gq⟩:=c5
 obtain⟨_,FT,FU⟩:=gq.b 1 (by decide)
 refine D.di wg (fun vs H Q E h=>?_) (fun f bA A outer s H vs Q E hr h=>?_)
 ·obtain⟨r,x,p,k,n,post,rfl,_⟩:=h
  rfl
 ·obtain⟨r,x,p,k,n,post,rfl,⟨dx,hR⟩,hh,⟨c,rk,rfl,hc,Xt,hl⟩,n1,n2,FP,zp,hx,q⟩:=h
  have big:(1000 :Nat)≤sizeLine:=by decide
  have hle:=hh.le
  refine⟨_,(ai
     (bG (jo (cJ (aH dm.ok (hr.mono (by decide)) rfl dm.g dm.kp dm.b .nil ay (aa (aN (pv 0) T.aw av.m av.ok (hr.mono (by decide)) av.b .nil ay) ak))))
      (ao
       fZ)
      aR)
    (ai
     (aB (i:=1) wg.nd rfl (Or.inl rfl) (a0 (pv 0) rfl))
    (ai
     (kF (pv 0) aq vd)
    (ai
     (iY PassesOwn.never (PW.pt (zD (cJ (aH jA.ok (hr.mono (by decide)) rfl jA.g jA.kp jA.b .nil ay (aa (aN (pv 0) T.aw av.m av.ok (hr.mono (by decide)) av.b .nil ay) ak))) (va (aP mh (aE j3 (a0 (pv 0) rfl) (pv 1)) (aX (v:= .int 3) rfl T.rf ⟨_,rfl⟩) (aV _)))))
      (ao
       (kF (pv 0) aq vd)))
    (ai
     (aB (i:=2) wg.nd rfl (Or.inl rfl) (ml vw (a0 (pv 0) rfl) (iq (pv 1)) (iq (a0 (pv 0) rfl))))
    (ao
     (aD (fV gq.m gq.ok (hr.mono (by decide)) rfl T.Ni FU FT ay (aa (pv 2) (aa (aN (pv 0) T.aw aL.m aL.ok (hr.mono (by decide)) aL.b .nil ay) ak)))))))))),?_⟩
  refine⟨_,rfl,r,dx,_,rfl,hR,aI _ _ (by decide+kernel) (by decide+kernel),r,x,p,rfl,⟨dx,hR⟩,hh.1,hx,_,rfl,mS _ _,_,rfl,?_⟩
  have ev:inR 65 90 (eL x p)=true:=by
   rw[Here.sg (c:=c) (t:=rk++aQ n) hh,mT]
   exact hc
  rw[ev]
  refine cH ?_
  refine⟨_,rfl,r,R,dx,_,_,rfl,hR,T.aw,T.cx,bB _ _,?_⟩
  refine⟨_,rfl,r,R,dx,_,_,rfl,hR,T.aw,T.cx,bB _ _,_,_,rfl,rfl,dx,_,hR,kW _ _,?_⟩
  have eF:(upd H r (.ins R dx (cL "place" (.int ((p:Int)+1)) (gb x p)))) r=some (.ins R dx (gb x (p+1))):=by
   rw[af]
   exact congrArg (fun z=>some (HO.ins R dx z)) (kU x p (p+1))
  have k1:Kept r H (upd H r (.ins R dx (cL "place" (.int ((p:Int)+1)) (gb x p)))):=fun b o z w=>by rw[ah w];exact z
  generalize upd H r _=H1 at eF k1 ⊢
  have Ah:Here x (p+1) (rk++aQ n) post:=Here.on (t:=[c]) (u:=rk++aQ n) hh
  refine⟨fun m σ H'=>∃j:Nat,m+j=rk.length∧σ=[some (.ref r),some (.int p),none]∧dk R H' r x (p+1+j)∧Kept r H H',⟨rk.length,0,by omega,rfl,⟨dx,eF⟩,k1⟩,?_⟩
  rintro m σ H' ⟨j,hk,rfl,⟨dP,eh⟩,kk⟩
  have Za:=Ah.le
  rw[List.length_append] at Za
  refine⟨_,rfl,r,dP,_,rfl,eh,aI _ _ (by decide+kernel) (by decide+kernel),r,x,p+1+j,rfl,⟨dP,eh⟩,by omega,hx,_,rfl,mS _ _,_,rfl,?_⟩
  by_cases hj:j<rk.length
  ·have e:rk=rk.take j++rk[j]::rk.drop (j+1):=by
    conv=>lhs;rw[←List.take_append_drop j rk]
    congr 1
    exact List.drop_eq_getElem_cons hj
   have h2:Here x (p+1+j) (rk[j]::(rk.drop (j+1)++aQ n)) post:=by
    have e':rk++aQ n=rk.take j++(rk[j]::(rk.drop (j+1)++aQ n)):=by
     conv=>lhs;rw[e]
     rw[List.append_assoc]
     rfl
    have h3:=Here.on (t:=rk.take j) (u:=rk[j]::(rk.drop (j+1)++aQ n)) (e'▸Ah)
    rwa [List.length_take,Nat.min_eq_left (by omega)] at h3
   have ev:inR 97 122 (eL x (p+1+j))=true:=by
    rw[h2.sg,mT]
    exact List.all_eq_true.mp Xt _ (List.getElem_mem hj)
   rw[ev]
   refine ik ⟨_,rfl,r,R,dP,_,_,rfl,eh,T.aw,T.cx,bB _ _,_,rfl,_,_,rfl,rfl,_,_,rfl,rfl,_,rfl,vo (by omega) ?_⟩
   refine⟨_,fun σ' cz h=>⟨m - 1,by omega,h⟩,?_⟩
   refine⟨_,rfl,r,R,dP,_,_,rfl,eh,T.aw,T.cx,bB _ _,_,_,rfl,rfl,dP,_,eh,kW _ _,?_⟩
   refine⟨j+1,by omega,rfl,⟨dP,?_⟩,fun b o z w=>?_⟩
   ·rw[af]
    exact congrArg (fun z=>some (HO.ins R dP z)) (kU x (p+1+j) (p+1+j+1))
   ·rw[ah w];exact kk b o z w
  ·have ej:j=rk.length:=by omega
   have h2:Here x (p+1+j) (aQ n) post:=by
    have h3:=Here.on (t:=rk) (u:=aQ n) Ah
    rwa [←ej] at h3
   have ev:inR 97 122 (eL x (p+1+j))=false:=by
    have h3:Here x (p+1+j) [] (aQ n++post):=⟨h2.1,by rw[h2.2];rfl⟩
    rw[h3.Nk]
    exact vZ (JG (FR n1 n2) zp)
   rw[ev]
   refine cH (cH ?_)
   have ec:Txt.slice x (some (p:Int)) (some ((p+1+j:Nat):Int))=⟨(c::rk).toArray⟩:=by
    have h3:Here x p (c::rk) (aQ n++post):=⟨hh.1,by rw[hh.2,List.append_assoc]⟩
    have:=h3.cut
    rw[List.length_cons] at this
    rw[show p+1+j=p+(rk.length+1) by omega]
    exact this
   refine⟨_,rfl,r,R,dP,_,_,rfl,eh,T.aw,T.jz,fS _ _,_,rfl,_,rfl,_,rfl,r,R,dP,_,_,rfl,eh,T.aw,T.cx,bB _ _,_,rfl,x,rfl,by omega,?_⟩
   rw[ec]
   refine⟨_,rfl,_,rfl,r,dP,_,rfl,eh,aI _ _ (by decide+kernel) (by decide+kernel),r,x,p+1+j,n,post,rfl,⟨dP,eh⟩,h2,n1,n2,FP,hx,fun H2 ie k2=>?_⟩
   obtain⟨jU,ie⟩:=ie
   refine fun a da na Nq nea=>⟨a,da,_,n,rfl,af,fun H3 h3 k3=>⟨rfl,?_⟩⟩
   have s3:au H2 H3:=fun b o z=>k3 b o (by rw[ah (ag z na),ah (ag z Nq)];exact z) (ag z na)
   have kf:=(kk.trans k2)
   refine q a H3 (a6 kf ie na) ⟨da,h3⟩ ⟨jU,?_⟩ (kf.trans (Kept.of s3))
   rw[s3 _ _ ie,List.length_append,List.length_cons]
   rw[show p+1+j+(aQ n).length=p+(rk.length+1+(aQ n).length) by omega]
inductive Tr where
 |one (k:List Nat) (n:Int)
 |gr (ts:List Tr) (n:Int)
def cn:Nat→Tr→List Nat
 |_, .one k n=>k++aQ n
 |0, .gr _ _=>[]
 |d+1, .gr ts n=>40::(ts.flatMap (cn d)++41::aQ n)
def tV:Nat→Tr→Prop
 |_, .one k n=>lS k∧1≤n∧n≤999
 |0, .gr _ _=>False
 |d+1, .gr ts n=>ts≠[]∧(∀t∈ts,tV d t)∧1≤n∧n≤999
def eM (C G:Addr):Nat→Hp→Addr→Tr→Prop
 |_,H,p, .one k n=>gm C H p ⟨k.toArray⟩ n
 |0,_,_, .gr _ _=>False
 |d+1,H,p, .gr ts n=>∃dx l ps,H p=some (.ins G dx (mP l n))∧H l=some (.lst (ps.map V.ref))∧Paired (eM C G d H) ps ts
def Rk (C G:Addr) (d:Nat) (H H':Hp) (a:Addr) (t:Tr):Prop:=∀cz,(∀b o,H b=none→H' b=some o→cz b=some o)→eM C G d cz a t
def Zb (C G L:Addr) (d:Nat) (H H':Hp) (a:Addr) (t:Tr):Prop:=∀cz,(∀b o,H b=none→b≠L→H' b=some o→cz b=some o)→eM C G d cz a t
def Rl (C G:Addr) (d:Nat) (H H':Hp) (l:Addr) (ts:List Tr):Prop:=H l=none∧∃ps,H' l=some (.lst (ps.map V.ref))∧∀cz,(∀b o,H b=none→H' b=some o→cz b=some o)→Paired (eM C G d cz) ps ts
def Stop (post:List Nat):Prop:=Not xw post∧Not En post∧Not Eo post∧Not (fun c=>decide (c=40)) post
def Bs (C G R:Addr) (d:Nat):Sp:=fun vs H Q _=>∃(r:Addr) (x:Str) (p:Nat) (a:Nat) (t:Tr) (post:List Nat),vs=[.ref r, .int a]∧dk R H r x p∧Here x p (cn d t) post∧tV d t∧a+d≤4∧Not xw post∧Not En post∧x.length≤1000∧
 ∀y H',H y=none→Rk C G d H H' y t→dk R H' r x (p+(cn d t).length)→Kept r H H'→Q (.ref y) H'
def rh (C G R:Addr):Nat→Sp
 |0=>fun _ _ _ _=>False
 |d+1=>fun vs H Q _=>∃(r:Addr) (x:Str) (p:Nat) (a:Nat) (ts:List Tr) (n:Int) (post:List Nat),vs=[.ref r, .int a]∧dk R H r x p∧Here x p (cn (d+1) (.gr ts n)) post∧tV (d+1) (.gr ts n)∧a+d+1≤4∧Not xw post∧x.length≤1000∧
  ∀y H',H y=none→Rk C G (d+1) H H' y (.gr ts n)→dk R H' r x (p+(cn (d+1) (.gr ts n)).length)→Kept r H H'→Q (.ref y) H'
def mX (C G R:Addr) (d:Nat):Sp:=fun vs H Q _=>∃(r:Addr) (x:Str) (p:Nat) (a:Nat) (ts:List Tr) (post:List Nat),vs=[.ref r, .int a]∧dk R H r x p∧Here x p (ts.flatMap (cn d)) post∧ts≠[]∧(∀t∈ts,tV d t)∧a+d≤4∧Stop post∧x.length≤1000∧
 ∀l H',Rl C G d H H' l ts→dk R H' r x (p+(ts.flatMap (cn d)).length)→Kept r H H'→Q (.ref l) H'
structure ri (K:PySem.W.Frag) (mg:Str→Option Value) (C R G:Addr) (uK uN uB uE uM:Tok):Prop extends sG K mg C R uK uN where
 eI:sy K G
 ou:cG K G "parts"
 ow:cG K G "count"
 JH:mg "Group" =some (.ref G)
 fX:mg "GROUP_BEGIN" =some (.str "(" uB)
 o5:mg "GROUP_END" =some (.str ")" uE)
 kn:mg "MOST_GROUPS_AROUND" =some (.int 3 uM)
theorem Nr:("(" :Str)=⟨#[40]⟩:=by decide+kernel
theorem e41:(")" :Str)=⟨#[41]⟩:=by decide+kernel
theorem oA {d:Nat} {t:Tr} (h:tV d t):∃c r,cn d t=c::r∧((Eo c=true∧∃k n,t= .one k n)∨(c=40∧∃ts n,t= .gr ts n)):=by
 cases t with
 |one k n=>
  have h:lS k∧1≤n∧n≤999:=by cases d<;>exact h
  obtain⟨⟨c,r,rfl,hc,_⟩,_⟩:=h
  have e:cn d (.one (c::r) n)=c::(r++aQ n):=by cases d<;>rfl
  exact⟨c,_,e, .inl ⟨hc,_,_,rfl⟩⟩
 |gr ts n=>
  cases d with
  |zero=>exact h.elim
  |succ d=>exact⟨40,_,rfl, .inr ⟨rfl,_,_,rfl⟩⟩
theorem JI:ax ["self","around"] ["self","around"] (aj oh):=⟨rfl,rfl,rfl,by decide+kernel,rfl,by decide+kernel,by decide+kernel⟩
theorem yh (d:Nat) (D:a9 K R "read_part" "Reader.read_part" oh ["self","around"]) (T:ri K mg C R G uK uN uB uE uM) (c1:aJ P w K mg base 1 R "sign" ["self"] (jy R)) (c2:aJ P w K mg base 4 R "read_atom" ["self"] (we C R)) (c3:aJ P w K mg base (3*d+4) R "read_group" ["self","around"] (rh C G R d)):
  aJ P w K mg base (3*d+5) R "read_part" ["self","around"] (Bs C G R d):=by
 obtain⟨_,_,av⟩:=c1
 obtain⟨_,_,eN⟩:=c2
 obtain⟨_,_,d6⟩:=c3
 refine D.di JI (fun vs H Q E h=>?_) (fun f bA A outer s H vs Q E hr h=>?_)
 ·obtain⟨r,x,p,a,t,post,rfl,_⟩:=h
  rfl
 ·obtain⟨r,x,p,a,t,post,rfl,⟨dx,hR⟩,hh,ok,ha,FP,zp,hx,q⟩:=h
  refine⟨_,(ai
     (bG (PW.pt (zD (aP dZ (aN (pv 0) T.aw av.m av.ok (hr.mono (by omega)) av.b .nil ay) (aX (v:= .str "(") rfl T.fX ⟨_,rfl⟩) (aV _)) (va (aP K6 (pv 1) (aX (v:= .int 3) rfl T.kn ⟨_,rfl⟩) (aV _)))))
      (ao
       (aD (bU (pv 0) T.aw d6.m d6.ok (hr.mono (by omega)) d6.b .nil ay (aa (pv 1) ak))))
      aR)
    (ao
     (aD (aN (pv 0) T.aw eN.m eN.ok (hr.mono (by omega)) eN.b .nil ay)))),?_⟩
  obtain⟨c,rest,hc,ht⟩:=oA ok
  have Lp:eL x p=⟨#[c]⟩:=Here.sg (t:=rest) (hc▸hh)
  refine⟨_,rfl,r,dx,_,rfl,hR,aI _ _ (by decide+kernel) (by decide+kernel),r,x,p,rfl,⟨dx,hR⟩,hh.1,hx,rfl,_,rfl,?_⟩
  rcases ht with ⟨hg,k,n,rfl⟩ | ⟨rfl,ts,n,rfl⟩
  ·have ne:¬V.str (eL x p)=V.str "(" :=by
    rw[Lp,Nr]
    intro z
    have z:(⟨#[c]⟩:Str)=⟨#[40]⟩:=by injection z
    have:c=40:=by have:=congrArg (fun s:Str=>s.cps.toList) z;simpa using this
    subst this
    simp [Eo] at hg
   refine qH ne ?_
   have Lq:lS k∧1≤n∧n≤999:=by cases d<;>exact ok
   have et:cn d (.one k n)=k++aQ n:=by cases d<;>rfl
   rw[et] at hh q
   refine⟨_,rfl,r,dx,_,rfl,hR,aI _ _ (by decide+kernel) (by decide+kernel),r,x,p,k,n,post,rfl,⟨dx,hR⟩,hh,Lq.1,Lq.2.1,Lq.2.2,FP,zp,hx,fun y H' ny hA eh kp=>q y H' ny (fun cz ke=>?_) eh kp⟩
   obtain⟨dy,hA⟩:=hA
   have e:eM C G d cz y (.one k n)=gm C cz y ⟨k.toArray⟩ n:=by cases d<;>rfl
   rw[e]
   exact⟨dy,ke _ _ ny hA⟩
  ·cases d with
   |zero=>exact ok.elim
   |succ d=>
    refine vo (by rw[Lp,Nr]) ?_
    refine⟨_,rfl,_,_,rfl,rfl,_,rfl,vo (by omega) ?_⟩
    exact⟨_,rfl,r,dx,_,rfl,hR,aI _ _ (by decide+kernel) (by decide+kernel),_,rfl,r,x,p,a,ts,n,post,rfl,⟨dx,hR⟩,hh,ok,by omega,FP,hx,q⟩
def mY (X:Addr):Sp:=fun vs H Q _=>∃(p dx l:Addr) (c:Int) (xs:List V),vs=[.ref p, .ref l, .int c]∧H p=some (.ins X dx [])∧H l=some (.lst xs)∧
 ∀n H',H n=none→H' p=some (.ins X dx (mP n c))→H' n=some (.lst xs)→(∀b o,H b=some o→b≠p→H' b=some o)→Q .cU H'
theorem fT {H:Hp} {a b m:Addr} {o o':HO} (h:(upd (upd H a o) b o') m=none):H m=none:=by
 by_cases e:m=b
 ·rw[e,af] at h;cases h
 ·rw[ah e] at h
  by_cases e':m=a
  ·rw[e',af] at h;cases h
  ·rwa [ah e'] at h
theorem Nt (l:List Nat):Stop (41::l):=by
 refine⟨?_,?_,?_,?_⟩<;>(intro c hc;have e:41=c:=by simpa using hc)<;>subst e<;>decide
theorem rj:ax ["self","around","parts"] ["self","around"] (aj jw):=⟨rfl,rfl,rfl,by decide+kernel,rfl,by decide+kernel,by decide+kernel⟩
theorem Ai (D:a9 K R "read_group" "Reader.read_group" jw ["self","around"]):aJ P w K mg base 4 R "read_group" ["self","around"] (rh C G R 0):=
 D.di (k:=3) rj (fun vs H Q E h=>h.elim) (fun f bA A outer s H vs Q E hr h=>h.elim)
theorem Dq (d:Nat) (D:a9 K R "read_group" "Reader.read_group" jw ["self","around"]) (T:ri K mg C R G uK uN uB uE uM) (c1:aJ P w K mg base 2 R "take" ["self","sign"] (lR R)) (c2:aJ P w K mg base 3 R "read_count" ["self"] (jg R)) (c3:aJ P w K mg base (3*d+6) R "read_parts" ["self","around"] (mX C G R d))
  (c4:gz P w K mg base 1 G ["self","parts","count"] [1] (mY G)):aJ P w K mg base (3*d+7) R "read_group" ["self","around"] (rh C G R (d+1)):=by
 obtain⟨_,_,aF⟩:=c1
 obtain⟨_,_,aL⟩:=c2
 obtain⟨_,_,a7⟩:=c3
 obtain⟨_,_,eI⟩:=c4
 obtain⟨_,Dr,Ds⟩:=eI.b 1 (by decide)
 refine D.di rj (fun vs H Q E h=>?_) (fun f bA A outer s H vs Q E hr h=>?_)
 ·obtain⟨r,x,p,a,ts,n,post,rfl,_⟩:=h
  rfl
 ·obtain⟨r,x,p,a,ts,n,post,rfl,⟨dx,hR⟩,hh,⟨og,aS,n1,n2⟩,ha,FP,hx,q⟩:=h
  refine⟨_,(ai
     (bz (bU (pv 0) T.aw aF.m aF.ok (hr.mono (by omega)) aF.b .nil ay (aa (aX (v:= .str "(") rfl T.fX ⟨_,rfl⟩) ak)))
    (ai
     (aB (i:=2) rj.nd rfl (Or.inl rfl) (bU (pv 0) T.aw a7.m a7.ok (hr.mono (by omega)) a7.b .nil ay (aa (aE cf (pv 1) aq) ak)))
    (ai
     (bz (bU (pv 0) T.aw aF.m aF.ok (hr.mono (by omega)) aF.b .nil ay (aa (aX (v:= .str ")") rfl T.o5 ⟨_,rfl⟩) ak)))
    (ao
     (aD (fV eI.m eI.ok (hr.mono (by omega)) rfl T.JH Ds Dr ay (aa (pv 2) (aa (aN (pv 0) T.aw aL.m aL.ok (hr.mono (by omega)) aL.b .nil ay) ak)))))))),?_⟩
  have FV:Here x p (40::(ts.flatMap (cn d)++41::aQ n)) post:=hh
  have Ah:Here x (p+1) (ts.flatMap (cn d)++41::aQ n) post:=Here.on (t:=[40]) FV
  have Nu:Here x (p+1) (ts.flatMap (cn d)) (41::(aQ n++post)):=⟨Ah.1,by rw[Ah.2,List.append_assoc];rfl⟩
  have Ep:Here x (p+1+(ts.flatMap (cn d)).length) (41::aQ n) post:=Here.on (t:=ts.flatMap (cn d)) Ah
  have hh4:Here x (p+1+(ts.flatMap (cn d)).length+1) (aQ n) post:=Here.on (t:=[41]) Ep
  refine⟨_,rfl,r,dx,_,rfl,hR,aI _ _ (by decide+kernel) (by decide+kernel),r,x,p,_,40,_,post,rfl,Nr,⟨dx,hR⟩,FV,hx,fun H1 eF k1=>?_⟩
  obtain⟨nM,eF⟩:=eF
  refine⟨_,rfl,r,nM,_,rfl,eF,aI _ _ (by decide+kernel) (by decide+kernel),_,rfl,_,_,rfl,rfl,r,x,p+1,a+1,ts,_,rfl,⟨nM,eF⟩,Nu,og,aS,by omega,Nt _,hx,fun l H2 hN ie k2=>?_⟩
  obtain⟨jU,ie⟩:=ie
  obtain⟨zq,ps,sC,Ja⟩:=hN
  refine⟨_,rfl,r,jU,_,rfl,ie,aI _ _ (by decide+kernel) (by decide+kernel),r,x,p+1+(ts.flatMap (cn d)).length,_,41,_,post,rfl,e41,⟨jU,ie⟩,Ep,hx,fun H3 ig k3=>?_⟩
  obtain⟨wj,ig⟩:=ig
  refine⟨_,rfl,_,rfl,r,wj,_,rfl,ig,aI _ _ (by decide+kernel) (by decide+kernel),r,x,_,n,post,rfl,⟨wj,ig⟩,hh4,n1,n2,FP,hx,fun H4 tW k4=>?_⟩
  obtain⟨Er,tW⟩:=tW
  have Xu:l≠r:=fun z=>by rw[z,eF] at zq;cases zq
  have Lr:=k4 _ _ (k3 _ _ sC Xu) Xu
  refine fun g dg ng Aj neg=>⟨g,dg,l,n,ps.map V.ref,rfl,af,?_,fun m H5 hm hg PL kp=>⟨rfl,?_⟩⟩
  ·rw[ah (ag Lr ng),ah (ag Lr Aj)];exact Lr
  have s5:au H4 H5:=fun b o z=>kp b o (by rw[ah (ag z ng),ah (ag z Aj)];exact z) (ag z ng)
  have kf:Kept r H H4:=((k1.trans k2).trans k3).trans k4
  refine q g H5 (a6 kf tW ng) (fun cz ke=>?_) ⟨Er,?_⟩ (kf.trans (Kept.of s5))
  ·refine⟨dg,m,ps,ke _ _ (a6 kf tW ng) hg,ke _ _ (a6 kf tW (fT hm)) PL,Ja cz fun b o z1 z2=>?_⟩
   have zw:b≠r:=fun z=>by rw[z,eF] at z1;cases z1
   exact ke _ _ (a6 k1 eF z1) (s5 _ _ (k4 _ _ (k3 _ _ z2 zw) zw))
  ·rw[s5 _ _ tW]
   show some (HO.ins R Er (gb x (p+1+(ts.flatMap (cn d)).length+1+(aQ n).length)))=some (HO.ins R Er (gb x (p+(40::(ts.flatMap (cn d)++41::aQ n)).length)))
   rw[List.length_cons,List.length_append,List.length_cons]
   rw[show p+1+(ts.flatMap (cn d)).length+1+(aQ n).length=p+((ts.flatMap (cn d)).length+((aQ n).length+1)+1) by omega]
theorem rm {d:Nat}:∀{ts:List Tr},(∀t∈ts,tV d t)→ts.length≤(ts.flatMap (cn d)).length
 | [],_=>Nat.le_refl _
 |t::ts,h=>by
  obtain⟨c,r,e,_⟩:=oA (h t (List.mem_cons_self ..))
  have:=rm (d:=d) (ts:=ts) fun u hu=>h u (List.mem_cons_of_mem _ hu)
  rw[List.flatMap_cons,List.length_append,e,List.length_cons,List.length_cons]
  omega
theorem list_at {α:Type} {l:List α} {i:Nat} (h:i<l.length):l=l.take i++l[i]::l.drop (i+1):=by
 conv=>lhs;rw[←List.take_append_drop i l]
 congr 1
 exact List.drop_eq_getElem_cons h
theorem rn {d:Nat} {ts:List Tr} {post:List Nat} (h:∀t∈ts,tV d t) (hs:Stop post):Not xw (ts.flatMap (cn d)++post)∧Not En (ts.flatMap (cn d)++post):=by
 cases ts with
 |nil=>exact⟨hs.1,hs.2.1⟩
 |cons t ts=>
  obtain⟨c,r,e,hc⟩:=oA (h t (List.mem_cons_self ..))
  have hc:Eo c=true∨c=40:=hc.elim (fun z=> .inl z.1) fun z=> .inr z.1
  rw[List.flatMap_cons,e]
  refine⟨fun b hb=>?_,fun b hb=>?_⟩<;>have eb:c=b:=by simpa using hb
  ·subst eb
   rcases hc with hc|rfl
   ·simp only [Eo,xw,Bool.and_eq_true,decide_eq_true_eq] at*
    simp
    omega
   ·decide
  ·subst eb
   rcases hc with hc|rfl
   ·simp only [Eo,En,Bool.and_eq_true,decide_eq_true_eq] at*
    simp
    omega
   ·decide
theorem Ak {d:Nat} {x:Str} {p:Nat} {ts:List Tr} {post:List Nat} {i:Nat} (h:Here x p (ts.flatMap (cn d)) post) (hi:i<ts.length):Here x (p+((ts.take i).flatMap (cn d)).length) (cn d ts[i]) ((ts.drop (i+1)).flatMap (cn d)++post):=by
 have e:ts.flatMap (cn d)=(ts.take i).flatMap (cn d)++(cn d ts[i]++(ts.drop (i+1)).flatMap (cn d)):=by
  conv=>lhs;rw[list_at hi]
  rw[List.flatMap_append,List.flatMap_cons]
 have h1:=Here.on (t:=(ts.take i).flatMap (cn d)) (e▸h)
 exact⟨h1.1,by rw[h1.2,List.append_assoc]⟩
theorem tX {d:Nat} {ts:List Tr} {i:Nat} (hi:i<ts.length):(ts.take (i+1)).flatMap (cn d)=(ts.take i).flatMap (cn d)++cn d ts[i]:=by
 rw[List.take_add_one,List.getElem?_eq_getElem hi]
 show (ts.take i++[ts[i]]).flatMap (cn d)=_
 rw[List.flatMap_append,List.flatMap_cons,List.flatMap_nil,List.append_nil]
theorem aK {α β:Type} {p q:α→β→Prop} (h:∀a b,p a b→q a b):∀{as:List α} {bs:List β},Paired p as bs→Paired q as bs
 |_,_, .nil=> .nil
 |_,_, .cons x t=> .cons (h _ _ x) (aK h t)
theorem bS {α β:Type} {p:α→β→Prop} {a:α} {b:β} (x:p a b):∀{as:List α} {bs:List β},Paired p as bs→Paired p (as++[a]) (bs++[b])
 |_,_, .nil=> .cons x .nil
 |_,_, .cons y t=> .cons y (bS x t)
theorem yi:ax ["self","around","parts"] ["self","around"] (aj kO):=⟨rfl,rfl,rfl,by decide+kernel,rfl,by decide+kernel,by decide+kernel⟩
theorem tY (d:Nat) (D:a9 K R "read_parts" "Reader.read_parts" kO ["self","around"]) (T:ri K mg C R G uK uN uB uE uM) (c1:aJ P w K mg base 1 R "sign" ["self"] (jy R)) (c2:bg P w K mg base 1 "is_great" ["sign"] (Lm 65 90)) (c3:aJ P w K mg base (3*d+5) R "read_part" ["self","around"] (Bs C G R d)):
  aJ P w K mg base (3*d+6) R "read_parts" ["self","around"] (mX C G R d):=by
 obtain⟨_,_,av⟩:=c1
 obtain⟨_,_,dm⟩:=c2
 obtain⟨_,_,cg⟩:=c3
 refine D.di yi (fun vs H Q E h=>?_) (fun f bA A outer s H vs Q E hr h=>?_)
 ·obtain⟨r,x,p,a,ts,post,rfl,_⟩:=h
  rfl
 ·obtain⟨r,x,p,a,ts,post,rfl,⟨dx,hR⟩,hh,og,aS,ha,fI,hx,q⟩:=h
  have big:(2000 :Nat)≤sizeLine:=by decide
  have hle:=hh.le
  have hfl:=rm aS
  have t0:0<ts.length:=List.length_pos_iff.mpr og
  refine⟨_,(ai
     (aB (i:=2) yi.nd rfl (Or.inl rfl) (cD (aa (bU (pv 0) T.aw cg.m cg.ok (hr.mono (by omega)) cg.b .nil ay (aa (pv 1) ak)) ak)))
    (ai
     (iY PassesOwn.never (PW.pt (il (cJ (aH dm.ok (hr.mono (by omega)) rfl dm.g dm.kp dm.b .nil ay (aa (aN (pv 0) T.aw av.m av.ok (hr.mono (by omega)) av.b .nil ay) ak))) (jZ (aP dZ (aN (pv 0) T.aw av.m av.ok (hr.mono (by omega)) av.b .nil ay) (aX (v:= .str "(") rfl T.fX ⟨_,rfl⟩) (aV _)))))
      (ao
       (bz (i' PySem.F.plainAttrs_list PySem.F.slot_list_append PySem.F.type_list_append dX (pv 2) (aa (bU (pv 0) T.aw cg.m cg.ok (hr.mono (by omega)) cg.b .nil ay (aa (pv 1) ak)) ak)))))
    (ao
     (aD (pv 2))))),?_⟩
  have Ig:∀i,∀t∈ts.drop i,tV d t:=fun i t ht=>aS t (List.mem_of_mem_drop ht)
  have h0:Here x p (cn d ts[0]) ((ts.drop (0+1)).flatMap (cn d)++post):=Ak hh t0
  have n0:=rn (Ig (0+1)) fI
  refine⟨_,rfl,r,dx,_,rfl,hR,aI _ _ (by decide+kernel) (by decide+kernel),_,rfl,r,x,p,a,ts[0],_,rfl,⟨dx,hR⟩,h0,aS _ (List.getElem_mem t0),ha,n0.1,n0.2,hx,fun y H1 ny hN eF k1=>⟨(by show 1≤sizeLine;decide),fun L hL=>?_⟩⟩
  obtain⟨nM,eF⟩:=eF
  have xx:H L=none:=a6 k1 eF hL
  have yj:L≠r:=fun z=>by rw[z,eF] at hL;cases hL
  refine⟨fun m σ H'=>∃i:Nat,m+i=ts.length∧σ=[some (.ref r),some (.int a),some (.ref L)]∧dk R H' r x (p+((ts.take i).flatMap (cn d)).length)∧Kept r H H'∧∃ps,H' L=some (.lst (ps.map V.ref))∧ps.length=i∧Paired (Zb C G L d H H') ps (ts.take i),⟨ts.length - 1,1,by omega,rfl,?_,?_,[y],af,rfl,?_⟩,?_⟩
  ·refine⟨nM,?_⟩
   rw[ah (Ne.symm yj),eF]
   have:=tX (d:=d) t0
   rw[this]
   rfl
  ·exact k1.trans (Kept.of (au.new hL))
  ·rw[show ts.take 1=[ts[0]] by
    have:=@List.take_add_one _ ts 0
    rw[this,List.getElem?_eq_getElem t0];rfl]
   refine .cons (fun cz ke=>hN cz fun b o z1 z2=>?_) .nil
   have Bt:b≠L:=ag z2 hL
   exact ke b o z1 Bt (by rw[ah Bt];exact z2)
  rintro m σ H' ⟨i,hm,rfl,⟨dP,eh⟩,kk,ps,tZ,iO,hP⟩
  have Xv:p+((ts.take i).flatMap (cn d)).length≤x.length:=by
   have:((ts.take i).flatMap (cn d)).length≤(ts.flatMap (cn d)).length:=by
    conv=>rhs;rw[←List.take_append_drop i ts,List.flatMap_append,List.length_append]
    omega
   omega
  refine⟨_,rfl,r,dP,_,rfl,eh,aI _ _ (by decide+kernel) (by decide+kernel),r,x,_,rfl,⟨dP,eh⟩,Xv,hx,_,rfl,mS _ _,_,rfl,?_⟩
  by_cases hi:i<ts.length
  ·have h2:=Ak hh hi
   have PM:=aS _ (List.getElem_mem hi)
   obtain⟨c,rest,hc,ht⟩:=oA PM
   have Lp:eL x (p+((ts.take i).flatMap (cn d)).length)=⟨#[c]⟩:=Here.sg (t:=rest) (hc▸h2)
   have nn:=rn (Ig (i+1)) fI
   have Ja:ps.length<sizeLine:=by omega
   rcases ht with ⟨hg,_⟩ | ⟨Rm,_⟩
   case' inl=>
    have ev:inR 65 90 (eL x (p+((ts.take i).flatMap (cn d)).length))=true:=by
     rw[Lp,mT]
     exact hg
    rw[ev]
    refine ik (ik ?_)
   case' inr=>
    have ev:inR 65 90 (eL x (p+((ts.take i).flatMap (cn d)).length))=false:=by
     rw[Lp,mT,Rm]
     rfl
    rw[ev]
    refine cH ⟨_,rfl,r,dP,_,rfl,eh,aI _ _ (by decide+kernel) (by decide+kernel),r,x,_,rfl,⟨dP,eh⟩,Xv,hx,rfl,_,rfl,vo (by rw[Lp,Nr,Rm]) ?_⟩
   all_goals
    refine⟨_,fun σ' cz h=>⟨m - 1,by omega,h⟩,?_⟩
    refine⟨_,rfl, .inl ⟨rfl,_,b5.of tZ⟩,_,rfl,r,dP,_,rfl,eh,aI _ _ (by decide+kernel) (by decide+kernel),_,rfl,r,x,_,a,ts[i],_,rfl,⟨dP,eh⟩,h2,PM,ha,nn.1,nn.2,hx,fun y H2 ny hN ie k2=>?_⟩
    obtain⟨jU,ie⟩:=ie
    have sH:=k2 _ _ tZ yj
    refine⟨L,_,_,rfl,rfl,sH,by rw[List.length_map];exact Ja,i+1,by omega,rfl,⟨jU,?_⟩,fun b o z w=>?_,ps++[y],by rw[af,List.map_append];rfl,by rw[List.length_append,iO];rfl,?_⟩
    ·rw[ah (Ne.symm yj),ie,tX hi,List.length_append,Nat.add_assoc]
    ·rw[ah (ag z xx)]
     exact k2 _ _ (kk _ _ z w) w
    ·rw[List.take_add_one,List.getElem?_eq_getElem hi]
     refine bS (fun cz ke=>hN cz fun b o z1 z2=>?_) (aK (fun c t h cz ke=>h cz fun b o z1 z2 z3=>ke b o z1 z2 ?_) hP)
     ·have Bt:b≠L:=fun z=>by rw[z,tZ] at z1;cases z1
      exact ke b o (a6 kk eh z1) Bt (by rw[ah Bt];exact z2)
     ·have zw:b≠r:=fun z=>by rw[z,hR] at z1;cases z1
      rw[ah z2]
      exact k2 _ _ z3 zw
  ·have ei:i=ts.length:=by omega
   rw[ei,List.take_length] at eh hP Xv ⊢
   have h3:Here x (p+(ts.flatMap (cn d)).length) [] post:=Here.on (t:=ts.flatMap (cn d)) (u:=[]) (by rw[List.append_nil];exact hh)
   have ev:inR 65 90 (eL x (p+(ts.flatMap (cn d)).length))=false:=by
    rw[h3.Nk]
    exact vZ fI.2.2.1
   rw[ev]
   have ne:¬V.str (eL x (p+(ts.flatMap (cn d)).length))=V.str "(" :=by
    rw[h3.Nk,Nr]
    intro z
    have z:(⟨(post.take 1).toArray⟩:Str)=⟨#[40]⟩:=by injection z
    cases post with
    |nil=>have:=congrArg (fun s:Str=>s.cps.toList) z;simp at this
    |cons c _=>
     have e:c=40:=by have:=congrArg (fun s:Str=>s.cps.toList) z;simpa using this
     have:=fI.2.2.2 c rfl
     simp [e] at this
   refine cH ⟨_,rfl,r,dP,_,rfl,eh,aI _ _ (by decide+kernel) (by decide+kernel),r,x,_,rfl,⟨dP,eh⟩,Xv,hx,rfl,_,rfl,qH ne ?_⟩
   exact⟨_,rfl,q L H' ⟨xx,ps,tZ,fun cz ke=>aK (fun c t h=>h cz fun b o z1 _ z3=>ke b o z1 z3) hP⟩ ⟨dP,eh⟩ kk⟩
theorem ro (D1:a9 K R "read_group" "Reader.read_group" jw ["self","around"]) (D2:a9 K R "read_part" "Reader.read_part" oh ["self","around"]) (D3:a9 K R "read_parts" "Reader.read_parts" kO ["self","around"]) (T:ri K mg C R G uK uN uB uE uM)
  (c1:aJ P w K mg base 1 R "sign" ["self"] (jy R)) (c2:bg P w K mg base 1 "is_great" ["sign"] (Lm 65 90)) (c3:aJ P w K mg base 4 R "read_atom" ["self"] (we C R)) (c4:aJ P w K mg base 2 R "take" ["self","sign"] (lR R)) (c5:aJ P w K mg base 3 R "read_count" ["self"] (jg R))
  (c6:gz P w K mg base 1 G ["self","parts","count"] [1] (mY G)):∀d:Nat,aJ P w K mg base (3*d+6) R "read_parts" ["self","around"] (mX C G R d)
 |0=>tY 0 D3 T c1 c2 (yh 0 D2 T c1 c3 (Ai D1))
 |d+1=>tY (d+1) D3 T c1 c2 (yh (d+1) D2 T c1 c3 (by rw[show 3*(d+1)+4=3*d+7 by omega];exact Dq d D1 T c4 c5 (ro D1 D2 D3 T c1 c2 c3 c4 c5 c6 d) c6))
def jh (n:Int):List Nat:=if n=0 then [] else 94::(aQ (if n<0 then -n else n)++[if 0<n then 43 else 45])
def Es (post:List Nat):Prop:=post=[]∨∃r,post=32::r
theorem Es.ne {post:List Nat} (h:Es post) {c:Nat} (hc:c≠32):¬V.str (⟨(post.take 1).toArray⟩:Str)=V.str (⟨#[c]⟩:Str):=by
 intro z
 have z:(⟨(post.take 1).toArray⟩:Str)=⟨#[c]⟩:=by injection z
 have z:=congrArg (fun s:Str=>s.cps.toList) z
 rcases h with rfl| ⟨r,rfl⟩
 ·simp at z
 ·have e:32=c:=by simpa using z
  exact hc e.symm
theorem Es.stop {post:List Nat} (h:Es post):Stop post:=by
 rcases h with rfl| ⟨r,rfl⟩
 ·refine⟨?_,?_,?_,?_⟩<;>(intro c hc;cases hc)
 ·refine⟨?_,?_,?_,?_⟩<;>(intro c hc;have e:32=c:=by simpa using hc)<;>subst e<;>decide
def t5 (R:Addr):Sp:=fun vs H Q _=>∃(r:Addr) (x:Str) (p:Nat) (n:Int) (post:List Nat),vs=[.ref r]∧dk R H r x p∧Here x p (jh n) post∧Es post∧ -999≤n∧n≤999∧x.length≤1000∧∀H',dk R H' r x (p+(jh n).length)→Kept r H H'→Q (.int n) H'
structure Rn (K:PySem.W.Frag) (mg:Str→Option Value) (C R:Addr) (uK uN uC uP uI:Tok):Prop extends sG K mg C R uK uN where
 iQ:mg "CHARGE_MARK" =some (.str "^" uC)
 wk:mg "PLUS" =some (.str "+" uP)
 wm:mg "MINUS" =some (.str "-" uI)
theorem Ro:("^" :Str)=⟨#[94]⟩:=by decide+kernel
theorem Zc:("+" :Str)=⟨#[43]⟩:=by decide+kernel
theorem Rp:("-" :Str)=⟨#[45]⟩:=by decide+kernel
theorem pY {c b:Nat} (h:c≠b):¬V.str (⟨#[c]⟩:Str)=V.str (⟨#[b]⟩:Str):=by
 intro z
 have z:(⟨#[c]⟩:Str)=⟨#[b]⟩:=by injection z
 exact h (by have:=congrArg (fun s:Str=>s.cps.toList) z;simpa using this)
theorem t7:ax ["self","count"] ["self"] (aj kg):=⟨rfl,rfl,rfl,by decide+kernel,rfl,by decide+kernel,by decide+kernel⟩
theorem rp {uC uP uI:Tok} (D:a9 K R "read_charge" "Reader.read_charge" kg ["self"]) (T:Rn K mg C R uK uN uC uP uI) (c1:aJ P w K mg base 1 R "sign" ["self"] (jy R)) (c2:aJ P w K mg base 2 R "take" ["self","sign"] (lR R)) (c3:aJ P w K mg base 3 R "read_count" ["self"] (jg R)):
  aJ P w K mg base 4 R "read_charge" ["self"] (t5 R):=by
 obtain⟨_,_,av⟩:=c1
 obtain⟨_,_,aF⟩:=c2
 obtain⟨_,_,aL⟩:=c3
 refine D.di t7 (fun vs H Q E h=>?_) (fun f bA A outer s H vs Q E hr h=>?_)
 ·obtain⟨r,x,p,n,post,rfl,_⟩:=h
  rfl
 ·obtain⟨r,x,p,n,post,rfl,⟨dx,hR⟩,hh,Ii,n1,n2,hx,q⟩:=h
  refine⟨_,(ai
     (bG (aP oX (aN (pv 0) T.aw av.m av.ok (hr.mono (by decide)) av.b .nil ay) (aX (v:= .str "^") rfl T.iQ ⟨_,rfl⟩) (aV _))
      (ao
       (aD aq))
      aR)
    (ai
     (bz (bU (pv 0) T.aw aF.m aF.ok (hr.mono (by decide)) aF.b .nil ay (aa (aX (v:= .str "^") rfl T.iQ ⟨_,rfl⟩) ak)))
    (ai
     (aB (i:=1) t7.nd rfl (Or.inl rfl) (aN (pv 0) T.aw aL.m aL.ok (hr.mono (by decide)) aL.b .nil ay))
    (ai
     (bG (aP dZ (aN (pv 0) T.aw av.m av.ok (hr.mono (by decide)) av.b .nil ay) (aX (v:= .str "-") rfl T.wm ⟨_,rfl⟩) (aV _))
      (ai
       (bz (bU (pv 0) T.aw aF.m aF.ok (hr.mono (by decide)) aF.b .nil ay (aa (aX (v:= .str "-") rfl T.wm ⟨_,rfl⟩) ak)))
      (ao
       (aD (oW j4 (pv 1)))))
      aR)
    (ai
     (bz (bU (pv 0) T.aw aF.m aF.ok (hr.mono (by decide)) aF.b .nil ay (aa (aX (v:= .str "+") rfl T.wk ⟨_,rfl⟩) ak)))
    (ao
     (aD (pv 1)))))))),?_⟩
  refine⟨_,rfl,r,dx,_,rfl,hR,aI _ _ (by decide+kernel) (by decide+kernel),r,x,p,rfl,⟨dx,hR⟩,hh.1,hx,rfl,_,rfl,?_⟩
  by_cases h0:n=0
  ·subst h0
   have hh:Here x p [] post:=hh
   have ne:¬V.str (eL x p)=V.str "^" :=by
    rw[hh.Nk,Ro]
    exact Ii.ne (by decide)
   rw[decide_eq_false ne]
   exact ik (q H ⟨dx,hR⟩ (Kept.refl r H))
  ·have ec:jh n=94::(aQ (if n<0 then -n else n)++[if 0<n then 43 else 45]):=by unfold jh;rw[if_neg h0]
   rw[ec] at hh q
   have a1:1≤(if n<0 then -n else n):=by split<;>omega
   have a2:(if n<0 then -n else n)≤999:=by split<;>omega
   have eq:V.str (eL x p)=V.str "^" :=by rw[hh.sg,Ro]
   rw[decide_eq_true eq]
   refine cH ?_
   have Ah:Here x (p+1) (aQ (if n<0 then -n else n)++[if 0<n then 43 else 45]) post:=Here.on (t:=[94]) hh
   have Nu:Here x (p+1) (aQ (if n<0 then -n else n)) ((if 0<n then 43 else 45)::post):=⟨Ah.1,by rw[Ah.2,List.append_assoc];rfl⟩
   have Ep:Here x (p+1+(aQ (if n<0 then -n else n)).length) [if 0<n then 43 else 45] post:=Here.on Ah
   refine⟨_,rfl,r,dx,_,rfl,hR,aI _ _ (by decide+kernel) (by decide+kernel),r,x,p,_,94,_,post,rfl,Ro,⟨dx,hR⟩,hh,hx,fun H1 eF k1=>?_⟩
   obtain⟨nM,eF⟩:=eF
   have nf:Not xw ((if 0<n then 43 else 45)::post):=by
    intro c hc
    have e:(if 0<n then 43 else 45)=c:=by simpa using hc
    rw[←e]
    split<;>rfl
   refine⟨_,rfl,r,nM,_,rfl,eF,aI _ _ (by decide+kernel) (by decide+kernel),r,x,p+1,_,_,rfl,⟨nM,eF⟩,Nu,a1,a2,nf,hx,fun H2 ie k2=>?_⟩
   obtain⟨jU,ie⟩:=ie
   have kk:=k1.trans k2
   refine⟨_,rfl,r,jU,_,rfl,ie,aI _ _ (by decide+kernel) (by decide+kernel),r,x,_,rfl,⟨jU,ie⟩,Ep.1,hx,rfl,_,rfl,?_⟩
   have el:p+1+(aQ (if n<0 then -n else n)).length+1=p+(94::(aQ (if n<0 then -n else n)++[if 0<n then 43 else 45])).length:=by
    rw[List.length_cons,List.length_append]
    simp
    omega
   by_cases hp:0<n
   ·rw[if_pos hp] at Ep
    have ne:¬V.str (eL x (p+1+(aQ (if n<0 then -n else n)).length))=V.str "-" :=by
     rw[Ep.sg,Rp]
     exact pY (by decide)
    refine qH ne ?_
    refine⟨_,rfl,r,jU,_,rfl,ie,aI _ _ (by decide+kernel) (by decide+kernel),r,x,_,_,43,_,post,rfl,Zc,⟨jU,ie⟩,Ep,hx,fun H3 ig k3=>?_⟩
    rw[el] at ig
    have:=q H3 ig (kk.trans k3)
    refine⟨_,rfl,?_⟩
    rw[if_neg (by omega)]
    exact this
   ·rw[if_neg hp] at Ep
    refine vo (by rw[Ep.sg,Rp]) ?_
    refine⟨_,rfl,r,jU,_,rfl,ie,aI _ _ (by decide+kernel) (by decide+kernel),r,x,_,_,45,_,post,rfl,Rp,⟨jU,ie⟩,Ep,hx,fun H3 ig k3=>?_⟩
    rw[el] at ig
    have:=q H3 ig (kk.trans k3)
    have e2: -(if n<0 then -n else n)=n:=by rw[if_pos (by omega),Int.neg_neg]
    rw[show V.int n=V.int (-(if n<0 then -n else n)) from by rw[e2]] at this
    exact⟨_,rfl,_,rfl,this⟩
theorem Zd:¬(("pieces" :Str)="charge"):=by decide+kernel
def o6 (l:Addr) (n:Int):List (Str×V):=cL "charge" (.int n) (cL "pieces" (.ref l) [])
theorem jB (l:Addr) (n:Int):(o6 l n).lookup ("pieces" :Str)=some (.ref l):=by
 unfold o6
 rw[az,if_neg Zd,az,if_pos rfl]
theorem mZ (l:Addr) (n:Int):(o6 l n).lookup ("charge" :Str)=some (.int n):=by
 unfold o6
 rw[az,if_pos rfl]
theorem rq (l:Addr) (n:Int) {m:Str} (h1:¬m="charge") (h2:¬m="pieces"):(o6 l n).lookup m=none:=by
 unfold o6
 rw[az,if_neg h1,az,if_neg h2]
 all_goals rfl
def wo (X:Addr):Sp:=fun vs H Q _=>∃(p dx l:Addr) (c:Int) (xs:List V),vs=[.ref p, .ref l, .int c]∧H p=some (.ins X dx [])∧H l=some (.lst xs)∧
 ∀n H',H n=none→H' p=some (.ins X dx (o6 n c))→H' n=some (.lst xs)→(∀b o,H b=some o→b≠p→H' b=some o)→Q .cU H'
abbrev jV:=Int×List Tr
def jC (C G Pc:Addr) (d:Nat) (H:Hp) (p:Addr) (x:jV):Prop:=∃dx l ps,H p=some (.ins Pc dx (mP l x.1))∧H l=some (.lst (ps.map V.ref))∧Paired (eM C G d H) ps x.2
def o7 (C G Pc Fo:Addr) (d:Nat) (H:Hp) (f:Addr) (xs:List jV) (n:Int):Prop:=∃dx l ps,H f=some (.ins Fo dx (o6 l n))∧H l=some (.lst (ps.map V.ref))∧Paired (jC C G Pc d H) ps xs
def Rq (C G Pc L:Addr) (d:Nat) (H H':Hp) (p:Addr) (x:jV):Prop:=∀cz,(∀b o,H b=none→b≠L→H' b=some o→cz b=some o)→jC C G Pc d cz p x
def Nv (C G Pc Fo:Addr) (d:Nat) (H H':Hp) (f:Addr) (xs:List jV) (n:Int):Prop:=∀cz,(∀b o,H b=none→H' b=some o→cz b=some o)→o7 C G Pc Fo d cz f xs n
def lG (d:Nat) (x:jV):List Nat:=aQ x.1++x.2.flatMap (cn d)
def cX (d:Nat) (xs:List jV):List Nat:=xs.flatMap fun x=>46::lG d x
def wL (d:Nat):List jV→Int→List Nat
 | [],_=>[101,94,45]
 |x::r,n=>x.2.flatMap (cn d)++(cX d r++jh n)
def Fl (d:Nat) (x:jV):Prop:=x.2≠[]∧(∀t∈x.2,tV d t)∧1≤x.1∧x.1≤999
def JJ (d:Nat):List jV→Int→Prop
 | [],n=>n= -1
 |x::r,n=>x.1=1∧(∀y∈x::r,Fl d y)∧ -999≤n∧n≤999
def o8 (C G Pc Fo R:Addr) (d:Nat):Sp:=fun vs H Q _=>∃(r:Addr) (x:Str) (p:Nat) (post:List Nat),vs=[.ref r]∧dk R H r x p∧Here x p [101,94,45] post∧x.length≤1000∧∀f H',H f=none→Nv C G Pc Fo d H H' f [] (-1)→dk R H' r x (p+3)→Kept r H H'→Q (.ref f) H'
def rA (C G Pc Fo R:Addr) (d:Nat):Sp:=fun vs H Q _=>∃(r:Addr) (x:Str) (p:Nat) (xs:List jV) (n:Int) (post:List Nat),vs=[.ref r]∧dk R H r x p∧Here x p (wL d xs n) post∧Es post∧JJ d xs n∧d≤4∧x.length≤1000∧
 ∀f H',H f=none→Nv C G Pc Fo d H H' f xs n→dk R H' r x (p+(wL d xs n).length)→Kept r H H'→Q (.ref f) H'
structure lC (K:PySem.W.Frag) (mg:Str→Option Value) (C R G Pc Fo:Addr) (uK uN uB uE uM uC uP uI uD uL uT:Tok):Prop extends ri K mg C R G uK uN uB uE uM,Rn K mg C R uK uN uC uP uI where
 dn:sy K Pc
 bO:sy K Fo
 oB:cG K Pc "parts"
 oC:cG K Pc "count"
 jD:cG K Fo "pieces"
 lT:cG K Fo "charge"
 Bu:mg "Piece" =some (.ref Pc)
 t8:mg "Formula" =some (.ref Fo)
 ko:mg "PIECE_DOT" =some (.str "." uD)
 lU:mg "ELECTRON" =some (.str "e^-" uL)
 rB:mg "LONGEST_TEXT" =some (.int 400 uT)
 n_list:mg "list" =none
 FW:mg "abs" =none
theorem eE:("e^-" :Str)=⟨#[101,94,45]⟩:=by decide+kernel
theorem yk {x:Str} {l:List Nat} (h:x.cps.toList=l):Here x 0 l []:=⟨Nat.zero_le _,by rw[List.drop_zero,h,List.append_nil]⟩
theorem yl:ax ["self"] ["self"] (aj gX):=⟨rfl,rfl,rfl,by decide+kernel,rfl,by decide+kernel,by decide+kernel⟩
variable {uC uP uI uD uL uT:Tok}
theorem nh (d:Nat) (D:a9 K R "read_electron" "Reader.read_electron" gX ["self"]) (T:lC K mg C R G Pc Fo uK uN uB uE uM uC uP uI uD uL uT) (c1:aJ P w K mg base 3 R "take_all" ["self","signs"] (kX R)) (c2:gz P w K mg base 1 Fo ["self","pieces","charge"] [0] (wo Fo)):
  aJ P w K mg base 4 R "read_electron" ["self"] (o8 C G Pc Fo R d):=by
 obtain⟨_,_,aU⟩:=c1
 obtain⟨_,_,bO⟩:=c2
 obtain⟨_,kq,kr⟩:=bO.b 1 (by decide)
 refine D.di yl (fun vs H Q E h=>?_) (fun f bA A outer s H vs Q E hr h=>?_)
 ·obtain⟨r,x,p,post,rfl,_⟩:=h
  rfl
 ·obtain⟨r,x,p,post,rfl,⟨dx,hR⟩,rC,hx,q⟩:=h
  refine⟨_,(ai
     (bz (bU (pv 0) T.aw aU.m aU.ok (hr.mono (by decide)) aU.b .nil ay (aa (aX (v:= .str "e^-") rfl T.lU ⟨_,rfl⟩) ak)))
    (ao
     (aD (fV bO.m bO.ok (hr.mono (by decide)) rfl T.t8 kr kq ay (aa (cD ak) (aa (oW j4 aq) ak)))))),?_⟩
  have ee:("e^-" :Str).cps.toList=[101,94,45]:=by decide+kernel
  have ea:("e^-" :Str).cps.all (· <128)=true:=by decide+kernel
  have el:("e^-" :Str).length=3:=by decide+kernel
  refine⟨_,rfl,r,dx,_,rfl,hR,aI _ _ (by decide+kernel) (by decide+kernel),r,x,p,_,post,rfl,ea,⟨dx,hR⟩,by rw[ee];exact rC,hx,fun H1 eF k1=>?_⟩
  obtain⟨nM,eF⟩:=eF
  refine⟨(by show 0≤sizeLine;decide),fun l hl=>⟨1,rfl,fun g dg ng Aj neg=>⟨g,dg,l, -1,[],rfl,af,?_,fun m H5 hm hg PL kp=>⟨rfl,?_⟩⟩⟩⟩
  ·rw[ah (ag af ng),ah (ag af Aj)];exact af
  have sl:au H1 (upd H1 l (.lst [])):=au.new hl
  have s5:au (upd H1 l (.lst [])) H5:=fun b o z=>kp b o (by rw[ah (ag z ng),ah (ag z Aj)];exact z) (ag z ng)
  have kf:Kept r H (upd H1 l (.lst [])):=k1.trans (Kept.of sl)
  have Xw:=sl _ _ eF
  refine q g H5 (a6 kf Xw ng) (fun cz ke=>⟨dg,m,[],ke _ _ (a6 kf Xw ng) hg,ke _ _ (a6 kf Xw (fT hm)) PL, .nil⟩) ⟨nM,?_⟩ (kf.trans (Kept.of s5))
  rw[s5 _ _ Xw,el]
variable {uC uP uI uD uL uT:Tok}
theorem wq {α:Type} (f:α→List Nat) {x:Str} {p:Nat} {ts:List α} {post:List Nat} {i:Nat} (h:Here x p (ts.flatMap f) post) (hi:i<ts.length):Here x (p+((ts.take i).flatMap f).length) (f ts[i]) ((ts.drop (i+1)).flatMap f++post):=by
 have e:ts.flatMap f=(ts.take i).flatMap f++(f ts[i]++(ts.drop (i+1)).flatMap f):=by
  conv=>lhs;rw[list_at hi]
  rw[List.flatMap_append,List.flatMap_cons]
 have h1:=Here.on (t:=(ts.take i).flatMap f) (e▸h)
 exact⟨h1.1,by rw[h1.2,List.append_assoc]⟩
theorem wu {α:Type} (f:α→List Nat) {ts:List α} {i:Nat} (hi:i<ts.length):(ts.take (i+1)).flatMap f=(ts.take i).flatMap f++f ts[i]:=by
 rw[List.take_add_one,List.getElem?_eq_getElem hi]
 show (ts.take i++[ts[i]]).flatMap f=_
 rw[List.flatMap_append,List.flatMap_cons,List.flatMap_nil,List.append_nil]
theorem Bv (n:Int):jh n=[]∨∃r,jh n=94::r:=by
 unfold jh
 split
 ·exact .inl rfl
 ·exact .inr ⟨_,rfl⟩
theorem t9 {c:Nat} {l:List Nat} (h:c=46∨c=94):Stop (c::l):=by
 refine⟨?_,?_,?_,?_⟩<;>(intro b hb;have e:c=b:=by simpa using hb)<;>subst e<;>rcases h with rfl|rfl<;>decide
theorem ua (d:Nat) (xs:List jV) (n:Int) {post:List Nat} (Ii:Es post):Stop (cX d xs++(jh n++post)):=by
 cases xs with
 |nil=>
  show Stop (jh n++post)
  rcases Bv n with e| ⟨r,e⟩
  ·rw[e];exact Ii.stop
  ·rw[e];exact t9 (.inr rfl)
 |cons x r=>exact t9 (.inl rfl)
theorem wx (d:Nat):∀xs:List jV,xs.length≤(cX d xs).length
 | []=>Nat.le_refl _
 |y::r=>by
  have ih:=wx d r
  show r.length+1≤(46::lG d y++cX d r).length
  rw[List.length_append,List.length_cons]
  omega
theorem Xx:("." :Str)=⟨#[46]⟩:=by decide+kernel
theorem rD:ax ["self","pieces","count"] ["self"] (aj mG):=⟨rfl,rfl,rfl,by decide+kernel,rfl,by decide+kernel,by decide+kernel⟩
theorem ub (d:Nat) (D:a9 K R "read_whole" "Reader.read_whole" mG ["self"]) (T:lC K mg C R G Pc Fo uK uN uB uE uM uC uP uI uD uL uT) (c1:aJ P w K mg base 1 R "sign" ["self"] (jy R)) (c2:aJ P w K mg base 2 R "take" ["self","sign"] (lR R)) (c3:aJ P w K mg base 3 R "read_count" ["self"] (jg R)) (c4:aJ P w K mg base (3*d+6) R "read_parts" ["self","around"] (mX C G R d))
  (c5:aJ P w K mg base 4 R "read_charge" ["self"] (t5 R)) (c6:aJ P w K mg base 4 R "read_electron" ["self"] (o8 C G Pc Fo R d)) (c7:gz P w K mg base 1 Pc ["self","parts","count"] [1] (mY Pc)) (c8:gz P w K mg base 1 Fo ["self","pieces","charge"] [0] (wo Fo)):
  aJ P w K mg base (3*d+7) R "read_whole" ["self"] (rA C G Pc Fo R d):=by
 obtain⟨_,_,av⟩:=c1
 obtain⟨_,_,aF⟩:=c2
 obtain⟨_,_,aL⟩:=c3
 obtain⟨_,_,a7⟩:=c4
 obtain⟨_,_,dQ⟩:=c5
 obtain⟨_,_,dq⟩:=c6
 obtain⟨_,_,dn⟩:=c7
 obtain⟨_,_,bO⟩:=c8
 obtain⟨_,Dt,Du⟩:=dn.b 0 (by decide)
 obtain⟨_,Dv,Dw⟩:=dn.b 1 (by decide)
 obtain⟨_,kq,kr⟩:=bO.b 1 (by decide)
 refine D.di rD (fun vs H Q E h=>?_) (fun f bA A outer s H vs Q E hr h=>?_)
 ·obtain⟨r,x,p,xs,n,post,rfl,_⟩:=h
  rfl
 ·obtain⟨r,x,p,xs,n,post,rfl,⟨dx,hR⟩,rC,Ii,aS,FX,hx,q⟩:=h
  have big:(2000 :Nat)≤sizeLine:=by decide
  refine⟨_,(ai
     (bG (aP dZ (aN (pv 0) T.aw av.m av.ok (hr.mono (by omega)) av.b .nil ay) (cE vi (aX (v:= .str "e^-") rfl T.lU ⟨_,rfl⟩) aq (fun _ _=>rfl)) (aV _))
      (ao
       (aD (aN (pv 0) T.aw dq.m dq.ok (hr.mono (by omega)) dq.b .nil ay)))
      aR)
    (ai
     (aB (i:=1) rD.nd rfl (Or.inl rfl) (cD (aa (fV dn.m dn.ok (hr.mono (by omega)) rfl T.Bu Du Dt ay (aa (bU (pv 0) T.aw a7.m a7.ok (hr.mono (by omega)) a7.b .nil ay (aa aq ak)) ak)) ak)))
    (ai
     (iY PassesOwn.never (aP dZ (aN (pv 0) T.aw av.m av.ok (hr.mono (by omega)) av.b .nil ay) (aX (v:= .str ".") rfl T.ko ⟨_,rfl⟩) (aV _))
      (ai
       (bz (bU (pv 0) T.aw aF.m aF.ok (hr.mono (by omega)) aF.b .nil ay (aa (aX (v:= .str ".") rfl T.ko ⟨_,rfl⟩) ak)))
      (ai
       (aB (i:=2) rD.nd rfl (Or.inl rfl) (aN (pv 0) T.aw aL.m aL.ok (hr.mono (by omega)) aL.b .nil ay))
      (ao
       (bz (i' PySem.F.plainAttrs_list PySem.F.slot_list_append PySem.F.type_list_append dX (pv 1) (aa (fV dn.m dn.ok (hr.mono (by omega)) rfl T.Bu Dw Dv ay (aa (bU (pv 0) T.aw a7.m a7.ok (hr.mono (by omega)) a7.b .nil ay (aa aq ak)) (aa (pv 2) ak))) ak)))))))
    (ao
     (aD (fV bO.m bO.ok (hr.mono (by omega)) rfl T.t8 kr kq ay (aa (pv 1) (aa (aN (pv 0) T.aw dQ.m dQ.ok (hr.mono (by omega)) dQ.b .nil ay) ak)))))))),?_⟩
  refine⟨_,rfl,r,dx,_,rfl,hR,aI _ _ (by decide+kernel) (by decide+kernel),r,x,p,rfl,⟨dx,hR⟩,rC.1,hx,"e^-",0,101,rfl,rfl,(by decide+kernel),(by decide+kernel),rfl,_,rfl,?_⟩
  cases xs with
  |nil=>
   have hn:n= -1:=aS
   subst hn
   have rC:Here x p [101,94,45] post:=rC
   refine vo (by rw[rC.sg]) ?_
   exact⟨_,rfl,r,dx,_,rfl,hR,aI _ _ (by decide+kernel) (by decide+kernel),r,x,p,post,rfl,⟨dx,hR⟩,rC,hx,q⟩
  |cons x0 r0=>
   obtain⟨Ze,Dx,n1,n2⟩:=aS
   have Nw:=Dx x0 (List.mem_cons_self ..)
   have hw:Here x p (x0.2.flatMap (cn d)++(cX d r0++jh n)) post:=rC
   have FV:Here x p (x0.2.flatMap (cn d)) (cX d r0++(jh n++post)):=⟨hw.1,by rw[hw.2,List.append_assoc,List.append_assoc]⟩
   have hb:Here x (p+(x0.2.flatMap (cn d)).length) (cX d r0++jh n) post:=Here.on hw
   have Em:Here x (p+(x0.2.flatMap (cn d)).length) (cX d r0) (jh n++post):=⟨hb.1,by rw[hb.2,List.append_assoc]⟩
   have ne:¬V.str (eL x p)=V.str (⟨#[101]⟩:Str):=by
    have t0:0<x0.2.length:=List.length_pos_iff.mpr Nw.1
    obtain⟨c,rest,hc,ht⟩:=oA (Nw.2.1 _ (List.getElem_mem t0))
    have h2:=Ak FV t0
    have Lp:eL x p=⟨#[c]⟩:=Here.sg (t:=rest) (hc▸h2)
    rw[Lp]
    refine pY ?_
    rcases ht with ⟨hg,_⟩ | ⟨rfl,_⟩
    ·intro z
     subst z
     simp [Eo] at hg
    ·decide
   refine qH ne ?_
   refine⟨_,rfl,r,dx,_,rfl,hR,aI _ _ (by decide+kernel) (by decide+kernel),r,x,p,0,x0.2,_,rfl,⟨dx,hR⟩,FV,Nw.1,Nw.2.1,by omega,ua d r0 n Ii,hx,fun l H1 hN eF k1=>?_⟩
   obtain⟨nM,eF⟩:=eF
   obtain⟨Xy,ps0,zq,Zf⟩:=hN
   refine fun g dg ng Aj neg=>⟨g,dg,l,1,ps0.map V.ref,rfl,af,?_,fun m H2 hm hg PL kp=>⟨rfl,(by show 1≤sizeLine;decide),fun L hL=>?_⟩⟩
   ·rw[ah (ag zq ng),ah (ag zq Aj)];exact zq
   have s2:au H1 H2:=fun b o z=>kp b o (by rw[ah (ag z ng),ah (ag z Aj)];exact z) (ag z ng)
   have ie:=s2 _ _ eF
   have k2:Kept r H H2:=k1.trans (Kept.of s2)
   have xx:H L=none:=a6 k2 ie hL
   have yj:L≠r:=fun z=>by rw[z,ie] at hL;cases hL
   have sL:au H2 (upd H2 L (.lst [V.ref g])):=au.new hL
   have ng0:=a6 k1 eF ng
   have nm0:=a6 k1 eF (fT hm)
   have first:Rq C G Pc L d H (upd H2 L (.lst [V.ref g])) g x0:=fun cz ke=>by
    refine⟨dg,m,ps0,?_,ke _ _ nm0 (ag PL hL) (sL _ _ PL),Zf cz fun b o z1 z2=>ke b o z1 (ag (s2 _ _ z2) hL) (sL _ _ (s2 _ _ z2))⟩
    rw[Ze]
    exact ke _ _ ng0 (ag hg hL) (sL _ _ hg)
   refine⟨fun k σ H'=>∃i:Nat,k+i=r0.length∧(∃v:Option V,σ=[some (.ref r),some (.ref L),v])∧dk R H' r x (p+(x0.2.flatMap (cn d)).length+(cX d (r0.take i)).length)∧Kept r H H'∧∃ps,H' L=some (.lst (ps.map V.ref))∧ps.length=i+1∧Paired (Rq C G Pc L d H H') ps (x0::r0.take i),⟨r0.length,0,by omega,⟨none,rfl⟩,?_,k2.trans (Kept.of sL),[g],af,rfl, .cons first .nil⟩,?_⟩
   ·exact⟨nM,sL _ _ ie⟩
   rintro k σ H' ⟨i,hk,⟨v,rfl⟩,⟨dP,eh⟩,kk,ps,tZ,iO,hP⟩
   have hle:=Em.le
   have xW:(cX d (r0.take i)).length≤(cX d r0).length:=by
    unfold cX
    conv=>rhs;rw[←List.take_append_drop i r0,List.flatMap_append,List.length_append]
    omega
   have Zg:=wx d r0
   refine⟨_,rfl,r,dP,_,rfl,eh,aI _ _ (by decide+kernel) (by decide+kernel),r,x,_,rfl,⟨dP,eh⟩,by omega,hx,rfl,_,rfl,?_⟩
   by_cases hi:i<r0.length
   ·have h2:Here x (p+(x0.2.flatMap (cn d)).length+(cX d (r0.take i)).length) (46::(aQ r0[i].1++r0[i].2.flatMap (cn d))) (cX d (r0.drop (i+1))++(jh n++post)):=wq (fun x=>46::lG d x) Em hi
    have JK:=Dx _ (List.mem_cons_of_mem _ (List.getElem_mem hi))
    have h3:Here x (p+(x0.2.flatMap (cn d)).length+(cX d (r0.take i)).length+1) (aQ r0[i].1++r0[i].2.flatMap (cn d)) (cX d (r0.drop (i+1))++(jh n++post)):=Here.on (t:=[46]) h2
    have h4:Here x (p+(x0.2.flatMap (cn d)).length+(cX d (r0.take i)).length+1) (aQ r0[i].1) (r0[i].2.flatMap (cn d)++(cX d (r0.drop (i+1))++(jh n++post))):=⟨h3.1,by rw[h3.2,List.append_assoc]⟩
    have h5:Here x (p+(x0.2.flatMap (cn d)).length+(cX d (r0.take i)).length+1+(aQ r0[i].1).length) (r0[i].2.flatMap (cn d)) (cX d (r0.drop (i+1))++(jh n++post)):=Here.on h3
    have st:=ua d (r0.drop (i+1)) n Ii
    have nn:=rn JK.2.1 st
    refine vo (by rw[h2.sg,Xx]) ?_
    refine⟨_,fun σ' cz h=>⟨k - 1,by omega,h⟩,?_⟩
    refine⟨_,rfl,r,dP,_,rfl,eh,aI _ _ (by decide+kernel) (by decide+kernel),r,x,_,_,46,_,_,rfl,Xx,⟨dP,eh⟩,h2,hx,fun H3 ig k3=>?_⟩
    obtain⟨wj,ig⟩:=ig
    refine⟨_,rfl,r,wj,_,rfl,ig,aI _ _ (by decide+kernel) (by decide+kernel),r,x,_,r0[i].1,_,rfl,⟨wj,ig⟩,h4,JK.2.2.1,JK.2.2.2,nn.1,hx,fun H4 tW k4=>?_⟩
    obtain⟨Er,tW⟩:=tW
    have JL:=k3.trans k4
    have Bw:=JL _ _ tZ yj
    refine⟨_,rfl, .inl ⟨rfl,_,b5.of Bw⟩,_,rfl,r,Er,_,rfl,tW,aI _ _ (by decide+kernel) (by decide+kernel),r,x,_,0,r0[i].2,_,rfl,⟨Er,tW⟩,h5,JK.1,JK.2.1,by omega,st,hx,fun l' H5 hN' FY k5=>?_⟩
    obtain⟨dx5,FY⟩:=FY
    obtain⟨hl0',PN,Nx,Zh⟩:=hN'
    refine⟨_,rfl,fun g' Rr Et FZ Zi=>⟨g',Rr,l',r0[i].1,PN.map V.ref,rfl,af,?_,fun m' H6 Zj Bx Ny Zk=>⟨rfl,?_⟩⟩⟩
    ·rw[ah (ag Nx Et),ah (ag Nx FZ)];exact Nx
    have s6:au H5 H6:=fun b o z=>Zk b o (by rw[ah (ag z Et),ah (ag z FZ)];exact z) (ag z Et)
    have k36:Kept r H' H6:=(JL.trans k5).trans (Kept.of s6)
    have o9:=k5 _ _ Bw yj
    have JM:=s6 _ _ o9
    have k45:Kept r H H4:=kk.trans JL
    have k55:Kept r H H5:=k45.trans k5
    refine⟨L,_,_,rfl,rfl,JM,by rw[List.length_map];omega,i+1,by omega,⟨_,rfl⟩,⟨dx5,?_⟩,fun b o z w=>?_,ps++[g'],by rw[af,List.map_append];rfl,by rw[List.length_append,iO];rfl,?_⟩
    ·rw[ah (Ne.symm yj),s6 _ _ FY]
     have e:=wu (fun x=>46::lG d x) hi
     have e':(cX d (r0.take (i+1))).length=(cX d (r0.take i)).length+((aQ r0[i].1).length+(r0[i].2.flatMap (cn d)).length+1):=by
      unfold cX
      rw[e,List.length_append,List.length_cons]
      unfold lG
      rw[List.length_append]
     rw[e']
     congr 3
     omega
    ·rw[ah (ag z xx)]
     exact k36 _ _ (kk _ _ z w) w
    ·rw[List.take_add_one,List.getElem?_eq_getElem hi]
     refine bS (as:=ps) (bs:=x0::r0.take i) (fun cz ke=>?_) (aK (fun c t h cz ke=>h cz fun b o z1 z2 z3=>ke b o z1 z2 ?_) hP)
     ·have u:∀{b o},H6 b=some o→b≠L→(upd H6 L (.lst (ps.map V.ref++[V.ref g']))) b=some o:=fun {b o} z w=>by rw[ah w];exact z
      have ngL:g'≠L:=fun z=>by rw[z,o9] at Et;cases Et
      have Zl:=fT Zj
      have nmL:m'≠L:=fun z=>by rw[z,o9] at Zl;cases Zl
      refine⟨Rr,m',PN,ke _ _ (a6 k55 FY Et) ngL (u Bx ngL),ke _ _ (a6 k55 FY Zl) nmL (u Ny nmL),Zh cz fun b o z1 z2=>?_⟩
      have Bt:b≠L:=fun z=>by rw[z,Bw] at z1;cases z1
      exact ke b o (a6 k45 tW z1) Bt (u (s6 _ _ z2) Bt)
     ·have zw:b≠r:=fun z=>by rw[z,hR] at z1;cases z1
      rw[ah z2]
      exact k36 _ _ z3 zw
   ·have ei:i=r0.length:=by omega
    rw[ei,List.take_length] at eh hP ⊢
    have h3:Here x (p+(x0.2.flatMap (cn d)).length+(cX d r0).length) (jh n) post:=Here.on hb
    have ne2:¬V.str (eL x (p+(x0.2.flatMap (cn d)).length+(cX d r0).length))=V.str "." :=by
     rw[Xx]
     rcases Bv n with e| ⟨rr,e⟩
     ·rw[e] at h3
      rw[h3.Nk]
      exact Ii.ne (by decide)
     ·rw[e] at h3
      rw[h3.sg]
      exact pY (by decide)
    refine qH ne2 ?_
    refine⟨_,rfl,_,rfl,r,dP,_,rfl,eh,aI _ _ (by decide+kernel) (by decide+kernel),r,x,_,n,post,rfl,⟨dP,eh⟩,h3,Ii,n1,n2,hx,fun H3 ig k3=>?_⟩
    obtain⟨wj,ig⟩:=ig
    have ni:=k3 _ _ tZ yj
    have Xz:=kk.trans k3
    refine fun g' Rr Et FZ Zi=>⟨g',Rr,L,n,ps.map V.ref,rfl,af,?_,fun m' H6 Zj Bx Ny Zk=>⟨rfl,?_⟩⟩
    ·rw[ah (ag ni Et),ah (ag ni FZ)];exact ni
    have s6:au H3 H6:=fun b o z=>Zk b o (by rw[ah (ag z Et),ah (ag z FZ)];exact z) (ag z Et)
    refine q g' H6 (a6 Xz ig Et) (fun cz ke=>?_) ⟨wj,?_⟩ (Xz.trans (Kept.of s6))
    ·refine⟨Rr,m',ps,ke _ _ (a6 Xz ig Et) Bx,ke _ _ (a6 Xz ig (fT Zj)) Ny,aK (fun c t h=>h cz fun b o z1 z2 z3=>ke b o z1 ?_) hP⟩
     have zw:b≠r:=fun z=>by rw[z,hR] at z1;cases z1
     exact s6 _ _ (k3 _ _ z3 zw)
    ·rw[s6 _ _ ig]
     rw[show wL d (x0::r0) n=x0.2.flatMap (cn d)++(cX d r0++jh n) from rfl,List.length_append,List.length_append]
     congr 3
     omega
variable {uC uP uI uD uL uT:Tok}
def oE:Sp:=fun vs H Q _=>∃x:Str,vs=[.str x]∧x.length≤400∧Q .cU H
def By (C G Pc Fo:Addr) (d:Nat):Sp:=fun vs H Q _=>∃(x:Str) (xs:List jV) (n:Int),vs=[.str x]∧x.cps.toList=wL d xs n∧JJ d xs n∧d≤4∧x.length≤400∧∀f H',H f=none→Nv C G Pc Fo d H H' f xs n→au H H'→Q (.ref f) H'
theorem Dy:ax ["text"] ["text"] (aj mC):=⟨rfl,rfl,rfl,by decide+kernel,rfl,by decide+kernel,by decide+kernel⟩
theorem Al (D:Def K mg "refuse_too_long" "refuse_too_long" mC ["text"]) (T:lC K mg C R G Pc Fo uK uN uB uE uM uC uP uI uD uL uT):bg P w K mg base 1 "refuse_too_long" ["text"] oE:=by
 refine D.di Dy (fun vs H Q E h=>?_) (fun f bA A outer s H vs Q E hr h=>?_)
 ·obtain⟨x,rfl,_⟩:=h
  rfl
 ·obtain⟨x,rfl,hx,q⟩:=h
  refine⟨_,(ao
     (bG (aP lF (br jt rfl T.oZ j7 (aa (pv 0) ak)) (aX (v:= .int 400) rfl T.rB ⟨_,rfl⟩) (aV _))
      (ao
       fZ)
      aR)),?_⟩
  exact⟨_,rfl,x,rfl,Nat.le_trans hx (by decide),_,_,rfl,rfl,_,rfl,qH (by omega) q⟩
structure Rt (K:PySem.W.Frag) (mg:Str→Option Value) (C R G Pc Fo:Addr) (uK uN uB uE uM uC uP uI uD uL uT:Tok):Prop extends lC K mg C R G Pc Fo uK uN uB uE uM uC uP uI uD uL uT where
 F0:mg "Reader" =some (.ref R)
theorem lV:ax ["text","reader","formula"] ["text"] (aj kQ):=⟨rfl,rfl,rfl,by decide+kernel,rfl,by decide+kernel,by decide+kernel⟩
theorem ym (d:Nat) (D:Def K mg "read_formula" "read_formula" kQ ["text"]) (T:Rt K mg C R G Pc Fo uK uN uB uE uM uC uP uI uD uL uT) (c1:bg P w K mg base 1 "refuse_too_long" ["text"] oE) (c2:gz P w K mg base 1 R ["self","text"] [] (wd R)) (c3:aJ P w K mg base (3*d+7) R "read_whole" ["self"] (rA C G Pc Fo R d)) (c4:aJ P w K mg base 1 R "take_end" ["self"] (tR R)):
  bg P w K mg base (3*d+8) "read_formula" ["text"] (By C G Pc Fo d):=by
 obtain⟨_,_,bC⟩:=c1
 obtain⟨_,_,aw⟩:=c2
 obtain⟨_,_,bL⟩:=c3
 obtain⟨_,_,fy⟩:=c4
 obtain⟨_,Am,An⟩:=aw.b 0 (by decide)
 refine D.di lV (fun vs H Q E h=>?_) (fun f bA A outer s H vs Q E hr h=>?_)
 ·obtain⟨x,xs,n,rfl,_⟩:=h
  rfl
 ·obtain⟨x,xs,n,rfl,rC,aS,FX,hx,q⟩:=h
  refine⟨_,(ai
     (bz (aH bC.ok (hr.mono (by omega)) rfl bC.g bC.kp bC.b .nil ay (aa (pv 0) ak)))
    (ai
     (aB (i:=1) lV.nd rfl (Or.inl rfl) (fV aw.m aw.ok (hr.mono (by omega)) rfl T.F0 An Am ay (aa (pv 0) ak)))
    (ai
     (aB (i:=2) lV.nd rfl (Or.inl rfl) (aN (pv 1) T.aw bL.m bL.ok (hr.mono (by omega)) bL.b .nil ay))
    (ai
     (bz (aN (pv 1) T.aw fy.m fy.ok (hr.mono (by omega)) fy.b .nil ay))
    (ao
     (aD (pv 2))))))),?_⟩
  refine⟨_,rfl,x,rfl,hx,?_⟩
  refine⟨_,rfl,fun r dr nr Zm ner=>⟨r,dr,x,rfl,af,fun H1 eF k1=>⟨rfl,?_⟩⟩⟩
  obtain⟨nM,eF⟩:=eF
  have s1:au H H1:=fun b o z=>k1 b o (by rw[ah (ag z nr),ah (ag z Zm)];exact z) (ag z nr)
  refine⟨_,rfl,r,nM,_,rfl,eF,aI _ _ (by decide+kernel) (by decide+kernel),r,x,0,xs,n,[],rfl,⟨nM,eF⟩,yk rC, .inl rfl,aS,FX,by omega,fun f H2 nf hF ie k2=>?_⟩
  obtain⟨jU,ie⟩:=ie
  have hxe:0+(wL d xs n).length=x.length:=by rw[←rC];simp [Str.length]
  rw[hxe] at ie
  have back:∀b,H1 b=none→H b=none:=fun b z=>by
   cases hh:H b with
   |none=>rfl
   |some o=>rw[s1 _ _ hh] at z;cases z
  refine⟨_,rfl,r,jU,_,rfl,ie,aI _ _ (by decide+kernel) (by decide+kernel),r,x,rfl,⟨jU,ie⟩,by omega,?_⟩
  exact⟨_,rfl,q f H2 (back f nf) (fun cz ke=>hF cz fun b o z1 z2=>ke b o (back b z1) z2) fun b o z=>k2 b o (s1 _ _ z) (ag z nr)⟩
theorem bD (a b:List Nat):(⟨a.toArray⟩:Str)++⟨b.toArray⟩=⟨(a++b).toArray⟩:=by
 show (⟨a.toArray++b.toArray⟩:Str)=_
 simp
theorem Bz (d:Nat):∀ts:List Tr,jn (ts.map fun t=>(⟨(cn d t).toArray⟩:Str))=⟨(ts.flatMap (cn d)).toArray⟩
 | []=>rfl
 |t::ts=>by
  rw[List.map_cons,Jz,Bz d ts,bD,List.flatMap_cons]
theorem bj (a:List Nat):(⟨a.toArray⟩:Str).length=a.length:=by simp [Str.length]
theorem de (n:Int):eZ n=⟨(aQ n).toArray⟩:=by
 apply mR
 simp [aQ]
theorem wy {d:Nat} {ts:List Tr} {t:Tr} (h:t∈ts):(cn d t).length≤(ts.flatMap (cn d)).length:=by
 obtain⟨s,r,rfl⟩:=List.append_of_mem h
 rw[List.flatMap_append,List.flatMap_cons,List.length_append,List.length_append]
 omega
def oF (C G:Addr):Nat→Sp
 |0=>fun _ _ _ _=>False
 |d+1=>fun vs H Q _=>∃(g:Addr) (ts:List Tr) (n:Int),vs=[.ref g]∧eM C G (d+1) H g (.gr ts n)∧tV (d+1) (.gr ts n)∧(cn (d+1) (.gr ts n)).length≤1000∧∀H',au H H'→Q (.str ⟨(cn (d+1) (.gr ts n)).toArray⟩) H'
def kY (C G:Addr) (d:Nat):Sp:=fun vs H Q _=>∃(l:Addr) (ps:List Addr) (ts:List Tr),vs=[.ref l]∧H l=some (.lst (ps.map V.ref))∧Paired (eM C G d H) ps ts∧(∀t∈ts,tV d t)∧(ts.flatMap (cn d)).length≤1000∧∀H',au H H'→Q (.str ⟨(ts.flatMap (cn d)).toArray⟩) H'
theorem eM.same {C G:Addr}:∀{d:Nat} {H H':Hp} {p:Addr} {t:Tr},eM C G d H p t→au H H'→eM C G d H' p t
 |0,H,H',p, .one k n,h,e=>gm.same h e
 |d+1,H,H',p, .one k n,h,e=>gm.same (C:=C) (k:=⟨k.toArray⟩) (n:=n) h e
 |0,_,_,_, .gr _ _,h,_=>h.elim
 |d+1,H,H',p, .gr ts n,⟨dx,l,ps,h1,h2,h3⟩,e=>⟨dx,l,ps,e _ _ h1,e _ _ h2,aK (fun a b h=>eM.same h e) h3⟩
theorem bI {α β:Type} {p:α→β→Prop}:∀{as:List α} {bs:List β} {i:Nat} {a:α},Paired p as bs→as[i]? =some a→∃b,bs[i]? =some b∧p a b
 |_,_,_,_, .nil,h=>by simp at h
 |_,_,0,_, .cons h _,e=>⟨_,rfl,by have e:=Option.some.inj e;rw[←e];exact h⟩
 |_,_,i+1,_, .cons _ t,e=>bI (i:=i) t e
theorem F1:ax ["parts"] ["parts"] (aj kM):=⟨rfl,rfl,rfl,by decide+kernel,rfl,by decide+kernel,by decide+kernel⟩
theorem JN {k:List Nat} (h:lS k):(⟨k.toArray⟩:Str).length≤3:=by
 obtain⟨c,r,rfl,_,_,hl⟩:=h
 rw[bj,List.length_cons]
 omega
theorem rE (d:Nat) (D:Def K mg "parts_shown" "parts_shown" kM ["parts"]) (T:ri K mg C R G uK uN uB uE uM) (c1:aJ P w K mg base 2 C "shown" ["self"] (vW C)) (c2:aJ P w K mg base (2*d+2) G "shown" ["self"] (oF C G d)):bg P w K mg base (2*d+3) "parts_shown" ["parts"] (kY C G d):=by
 obtain⟨_,_,jE⟩:=c1
 obtain⟨_,_,iR⟩:=c2
 refine D.di F1 (fun vs H Q E h=>?_) (fun f bA A outer s H vs Q E hr h=>?_)
 ·obtain⟨l,ps,ts,rfl,_⟩:=h
  rfl
 ·obtain⟨l,ps,ts,rfl,hl,hP,aS,hz,q⟩:=h
  have big:(2000 :Nat) <sizeLine:=by decide
  have hfl:=rm aS
  have lp:ps.length=ts.length:=Paired.length hP
  refine⟨_,(ao
     (aD (i' PySem.F.plainAttrs_str PySem.F.slot_str_join PySem.F.type_str_join pL bJ (aa (fk (sc:=(aj kM)) (NX:=["parts"]) (N:=["part"]) (fr:=[none]) ⟨by rfl,by rfl,by decide+kernel,by decide+kernel,by decide+kernel,by rfl,by decide+kernel⟩ rfl rfl rfl (cN (pv 0)) (fun _ _ _ _=>(aG (i:=0) (show (["part"]:List Str).Nodup by decide+kernel) rfl (Or.inl rfl) (Or.inr rfl))) (fun _ _ _ _=>fW) (fun _ _ _ _=>(E5 (aN (pv 0) T.gq jE.m jE.ok (hr.mono (by omega)) jE.b .nil ay) (aN (pv 0) T.eI iR.m iR.ok (hr.mono (by omega)) iR.b .nil ay)))) ak)))),?_⟩
  refine⟨rfl,_,rfl,l,rfl,⟨_,b5.of hl⟩,fun D hD=>tq (K:=K) (a:=l) (D:=D) (xs:=ps.map V.ref) (fun i σ H'=>∃v:Option V,σ=[v]∧au H H'∧H' D=some (.lst ((ts.take i).map fun t=>V.str ⟨(cn d t).toArray⟩)))
   ?_ (fun i σ H' _ ⟨_,_,e,_⟩=>b5.of (e _ _ hl)) ?_ ?_⟩
  ·exact⟨none,rfl,au.new hD,af⟩
  ·rintro i v σ H' hi ⟨v',rfl,e,BB⟩ N hN
   rw[List.getElem?_map] at hi
   obtain⟨p,hp,rfl⟩:∃p,ps[i]? =some p∧v=V.ref p:=by
    cases hh:ps[i]? with
    |none=>rw[hh] at hi;cases hi
    |some p=>rw[hh] at hi;exact⟨p,rfl,(Option.some.inj hi).symm⟩
   obtain⟨t,ht,hT⟩:=bI hP hp
   have hT:=hT.same e
   have PM:=aS t (List.mem_of_getElem? ht)
   have lt:=Nat.le_trans (wy (d:=d) (List.mem_of_getElem? ht)) hz
   have fin:∀cz,au H' cz→∃ys,cz D=some (.lst ys)∧ys.length<sizeLine∧N [some (V.ref p)] (upd cz D (.lst (ys++[V.str ⟨(cn d t).toArray⟩]))):=fun cz e'=>by
    refine⟨_,e' _ _ BB,?_,hN _ _ ⟨_,rfl,fun b o z=>?_,?_⟩⟩
    ·rw[List.length_map]
     have:(ts.take i).length≤ts.length:=List.length_take_le' _ _
     omega
    ·rw[ah (ag z hD)]
     exact e' _ _ (e _ _ z)
    ·rw[af,List.take_add_one,ht,List.map_append]
     rfl
   cases t with
   |one k n=>
    have Lq:lS k∧1≤n∧n≤999:=by cases d<;>exact PM
    have hA:gm C H' p ⟨k.toArray⟩ n:=by cases d<;>exact hT
    have et:(⟨(cn d (.one k n)).toArray⟩:Str)=⟨k.toArray⟩++eZ n:=by
     rw[de,bD]
     cases d<;>rfl
    obtain⟨dx,xT⟩:=id hA
    have:=fin H' (au.refl _)
    rw[et] at this
    exact Or.inl ⟨_,rfl,p,dx,_,rfl,xT,Bl _ _ (by decide+kernel) (by decide+kernel),p,_,n,rfl,hA,JN Lq.1,Lq.2.1,Lq.2.2,this⟩
   |gr us n=>
    cases d with
    |zero=>exact PM.elim
    |succ d=>
     obtain⟨dx,l',PN,h1,h2,h3⟩:=id hT
     exact Or.inr ⟨_,rfl,p,dx,_,rfl,h1,mQ _ _ (by decide+kernel) (by decide+kernel),p,us,n,rfl,hT,PM,lt,fin⟩
  ·rintro σ H' ⟨v,rfl,e,BB⟩
   rw[List.length_map,lp,List.take_length] at BB
   have es:((ts.map fun t=>(⟨(cn d t).toArray⟩:Str)).map (·.length)).sum=(ts.flatMap (cn d)).length:=by
    rw[List.map_map,List.length_flatMap]
    congr 1
   refine⟨_,D,ts.map (fun t=>⟨(cn d t).toArray⟩),rfl,rfl,b5.of (by rw[BB,List.map_map];rfl),?_,?_⟩
   ·have e0:("" :Str).length=0:=by decide+kernel
    rw[es,e0]
    omega
   ·rw[join_eq,Bz]
    exact q _ e
theorem yn:ax ["self"] ["self"] (aj kN):=⟨rfl,rfl,rfl,by decide+kernel,rfl,by decide+kernel,by decide+kernel⟩
theorem Ao (D:a9 K G "shown" "Group.shown" kN ["self"]):aJ P w K mg base 2 G "shown" ["self"] (oF C G 0):=
 D.di (k:=1) yn (fun vs H Q E h=>h.elim) (fun f bA A outer s H vs Q E hr h=>h.elim)
theorem Ap (d:Nat) (D:a9 K G "shown" "Group.shown" kN ["self"]) (T:ri K mg C R G uK uN uB uE uM) (c1:bg P w K mg base (2*d+3) "parts_shown" ["parts"] (kY C G d)) (c2:bg P w K mg base 1 "count_shown" ["count"] ki):aJ P w K mg base (2*d+4) G "shown" ["self"] (oF C G (d+1)):=by
 obtain⟨_,_,cm⟩:=c1
 obtain⟨_,_,aY⟩:=c2
 refine D.di yn (fun vs H Q E h=>?_) (fun f bA A outer s H vs Q E hr h=>?_)
 ·obtain⟨g,ts,n,rfl,_⟩:=h
  rfl
 ·obtain⟨g,ts,n,rfl,⟨dx,l,ps,hg,hl,hP⟩,⟨og,aS,n1,n2⟩,hz,q⟩:=h
  have big:(2000 :Nat)≤sizeLine:=by decide
  have hz:(40::(ts.flatMap (cn d)++41::aQ n)).length≤1000:=hz
  rw[List.length_cons,List.length_append,List.length_cons] at hz
  have e1:("(" :Str).length=1:=by decide+kernel
  have e2:(")" :Str).length=1:=by decide+kernel
  have lf:(eZ n).length=(aQ n).length:=by rw[de,bj]
  have ee:(⟨(cn (d+1) (.gr ts n)).toArray⟩:Str)="(" ++⟨(ts.flatMap (cn d)).toArray⟩++")" ++eZ n:=by
   rw[de,Nr,e41]
   rw[show (⟨#[40]⟩:Str)=⟨[40].toArray⟩ from rfl,show (⟨#[41]⟩:Str)=⟨[41].toArray⟩ from rfl,bD,bD,bD]
   simp [cn]
  rw[ee] at q
  refine⟨_,(ao
     (aD (aE bq (aE bq (aE bq (aX (v:= .str "(") rfl T.fX ⟨_,rfl⟩) (aH cm.ok (hr.mono (by omega)) rfl cm.g cm.kp cm.b .nil ay (aa (a0 (pv 0) rfl) ak))) (aX (v:= .str ")") rfl T.o5 ⟨_,rfl⟩)) (aH aY.ok (hr.mono (by omega)) rfl aY.g aY.kp aY.b .nil ay (aa (a0 (pv 0) rfl) ak))))),?_⟩
  refine⟨_,rfl,g,G,dx,_,_,rfl,hg,T.eI,T.ou,iD _ _,l,ps,ts,rfl,hl,hP,aS,by omega,fun H1 s1=>⟨_,_,rfl,rfl,?_,_,_,rfl,rfl,?_,_,rfl,g,G,dx,_,_,rfl,s1 _ _ hg,T.eI,T.ow,iE _ _,n,rfl,n1,n2,_,_,rfl,rfl,?_,q _ s1⟩⟩
  ·rw[e1,bj]
   omega
  ·rw[bw,e1,e2,bj]
   omega
  ·rw[bw,bw,e1,e2,bj,lf]
   omega
theorem uc (D1:Def K mg "parts_shown" "parts_shown" kM ["parts"]) (D2:a9 K G "shown" "Group.shown" kN ["self"]) (T:ri K mg C R G uK uN uB uE uM) (c1:aJ P w K mg base 2 C "shown" ["self"] (vW C)) (c2:bg P w K mg base 1 "count_shown" ["count"] ki):∀d:Nat,bg P w K mg base (2*d+3) "parts_shown" ["parts"] (kY C G d)
 |0=>rE 0 D1 T c1 (Ao D2)
 |d+1=>rE (d+1) D1 T c1 (by rw[show 2*(d+1)+2=2*d+4 by omega];exact Ap d D2 T (uc D1 D2 T c1 c2 d) c2)
variable {uC uP uI uD uL uT:Tok}
def lH (C G Pc:Addr) (d:Nat):Sp:=fun vs H Q _=>∃(q:Addr) (x:jV),vs=[.ref q]∧jC C G Pc d H q x∧Fl d x∧(lG d x).length≤1000∧∀H',au H H'→Q (.str ⟨(lG d x).toArray⟩) H'
theorem wz:ax ["self"] ["self"] (aj iz):=⟨rfl,rfl,rfl,by decide+kernel,rfl,by decide+kernel,by decide+kernel⟩
theorem rF (d:Nat) (D:a9 K Pc "shown" "Piece.shown" iz ["self"]) (T:lC K mg C R G Pc Fo uK uN uB uE uM uC uP uI uD uL uT) (c1:bg P w K mg base (2*d+3) "parts_shown" ["parts"] (kY C G d)) (c2:bg P w K mg base 1 "count_shown" ["count"] ki):aJ P w K mg base (2*d+4) Pc "shown" ["self"] (lH C G Pc d):=by
 obtain⟨_,_,cm⟩:=c1
 obtain⟨_,_,aY⟩:=c2
 refine D.di wz (fun vs H Q E h=>?_) (fun f bA A outer s H vs Q E hr h=>?_)
 ·obtain⟨p,x,rfl,_⟩:=h
  rfl
 ·obtain⟨p,x,rfl,⟨dx,l,ps,hp,hl,hP⟩,⟨og,aS,n1,n2⟩,hz,q⟩:=h
  have big:(2000 :Nat)≤sizeLine:=by decide
  have hz':=hz
  unfold lG at hz' q
  rw[List.length_append] at hz'
  have lf:(eZ x.1).length=(aQ x.1).length:=by rw[de,bj]
  rw[←bD,←de] at q
  refine⟨_,(ao
     (aD (aE bq (aH aY.ok (hr.mono (by omega)) rfl aY.g aY.kp aY.b .nil ay (aa (a0 (pv 0) rfl) ak)) (aH cm.ok (hr.mono (by omega)) rfl cm.g cm.kp cm.b .nil ay (aa (a0 (pv 0) rfl) ak))))),?_⟩
  refine⟨_,rfl,p,Pc,dx,_,_,rfl,hp,T.dn,T.oC,iE _ _,x.1,rfl,n1,n2,_,rfl,p,Pc,dx,_,_,rfl,hp,T.dn,T.oB,iD _ _,l,ps,x.2,rfl,hl,hP,aS,by omega,fun H1 e1=>⟨_,_,rfl,rfl,?_,q _ e1⟩⟩
  rw[lf,bj]
  omega
def ud:Sp:=fun vs H Q _=>∃n:Int,vs=[.int n]∧ -999≤n∧n≤999∧Q (.str ⟨(jh n).toArray⟩) H
theorem Nz {n:Int} (h1: -999≤n) (h2:n≤999):(jh n).length≤5:=by
 unfold jh
 split
 ·exact Nat.zero_le _
 ·rename_i h0
  have:=gY (n:=if n<0 then -n else n) (by split<;>omega) (by split<;>omega)
  rw[de,bj] at this
  rw[List.length_cons,List.length_append]
  simp
  omega
theorem sI:ax ["charge"] ["charge"] (aj gH):=⟨rfl,rfl,rfl,by decide+kernel,rfl,by decide+kernel,by decide+kernel⟩
theorem oG (D:Def K mg "charge_shown" "charge_shown" gH ["charge"]) (T:lC K mg C R G Pc Fo uK uN uB uE uM uC uP uI uD uL uT) (c1:bg P w K mg base 1 "count_shown" ["count"] ki):bg P w K mg base 2 "charge_shown" ["charge"] ud:=by
 obtain⟨_,_,aY⟩:=c1
 refine D.di sI (fun vs H Q E h=>?_) (fun f bA A outer s H vs Q E hr h=>?_)
 ·obtain⟨n,rfl,_⟩:=h
  rfl
 ·obtain⟨n,rfl,h1,h2,q⟩:=h
  have big:(2000 :Nat)≤sizeLine:=by decide
  refine⟨_,(ai
     (bG (aP dZ (pv 0) aq (aV _))
      (ao
       (aD bJ))
      aR)
    (ao
     (aD (aE bq (aE bq (aX (v:= .str "^") rfl T.iQ ⟨_,rfl⟩) (aH aY.ok (hr.mono (by decide)) rfl aY.g aY.kp aY.b .nil ay (aa (br xG rfl T.FW E7 (aa (pv 0) ak)) ak))) (xE (aP lF (pv 0) aq (aV _)) (aX (v:= .str "+") rfl T.wk ⟨_,rfl⟩) (aX (v:= .str "-") rfl T.wm ⟨_,rfl⟩)))))),?_⟩
  refine⟨_,rfl,rfl,_,rfl,fG (fun e=>?_) fun e=>?_⟩
  ·have e:n=0:=by simpa using e
   subst e
   have e0:(⟨(jh 0).toArray⟩:Str)="" :=by decide+kernel
   rw[e0] at q
   exact q
  ·have e:¬n=0:=by simpa using e
   have a1:1≤(if n<0 then -n else n):=by split<;>omega
   have a2:(if n<0 then -n else n)≤999:=by split<;>omega
   have z:=gY a1 a2
   have e1:("^" :Str).length=1:=by decide+kernel
   refine⟨_,rfl,n,rfl,_,rfl,a1,a2,_,_,rfl,rfl,by rw[e1];omega,_,rfl,_,_,rfl,rfl,?_⟩
   have ec:(⟨(jh n).toArray⟩:Str)="^" ++eZ (if n<0 then -n else n)++(if 0<n then ("+" :Str) else ("-" :Str)):=by
    unfold jh
    rw[if_neg e,de,Ro,Zc,Rp]
    rw[show (⟨#[94]⟩:Str)=⟨[94].toArray⟩ from rfl,bD]
    by_cases hp:0<n
    ·rw[if_pos hp,if_pos hp,show (⟨#[43]⟩:Str)=⟨[43].toArray⟩ from rfl,bD]
     simp
    ·rw[if_neg hp,if_neg hp,show (⟨#[45]⟩:Str)=⟨[45].toArray⟩ from rfl,bD]
     simp
   rw[ec] at q
   refine⟨_,rfl,fG (fun e=>?_) fun e=>?_⟩
   ·have e:0<n:=by simpa using e
    rw[if_pos e] at q
    refine⟨_,_,rfl,rfl,?_,q⟩
    have e2:("+" :Str).length=1:=by decide+kernel
    rw[bw,e1,e2]
    omega
   ·have e:¬0<n:=by simpa using e
    rw[if_neg e] at q
    refine⟨_,_,rfl,rfl,?_,q⟩
    have e2:("-" :Str).length=1:=by decide+kernel
    rw[bw,e1,e2]
    omega
def uf (C G Pc Fo:Addr) (d:Nat):Sp:=fun vs H Q _=>∃(f:Addr) (xs:List jV) (n:Int),vs=[.ref f]∧o7 C G Pc Fo d H f xs n∧JJ d xs n∧(wL d xs n).length≤1000∧∀H',au H H'→Q (.str ⟨(wL d xs n).toArray⟩) H'
theorem ug (d:Nat):∀(x:jV) (r:List jV),Str.join "." ((x::r).map fun y=>(⟨(lG d y).toArray⟩:Str))=⟨(lG d x++cX d r).toArray⟩
 |x,[]=>by
  show (⟨(lG d x).toArray⟩:Str)=⟨(lG d x++[]).toArray⟩
  rw[List.append_nil]
 |x,y::r=>by
  show (⟨(lG d x).toArray⟩:Str)++"." ++Str.join "." ((y::r).map fun y=>(⟨(lG d y).toArray⟩:Str))=⟨(lG d x++(46::lG d y++cX d r)).toArray⟩
  rw[ug d y r,Xx,show (⟨#[46]⟩:Str)=⟨[46].toArray⟩ from rfl,bD,bD]
  simp
theorem jC.same {C G Pc:Addr} {d:Nat} {H H':Hp} {p:Addr} {x:jV} (h:jC C G Pc d H p x) (e:au H H'):jC C G Pc d H' p x:=
 let ⟨dx,l,ps,h1,h2,h3⟩:=h;⟨dx,l,ps,e _ _ h1,e _ _ h2,aK (fun _ _ h=>eM.same h e) h3⟩
theorem o7.same {C G Pc Fo:Addr} {d:Nat} {H H':Hp} {p:Addr} {xs:List jV} {n:Int} (h:o7 C G Pc Fo d H p xs n) (e:au H H'):o7 C G Pc Fo d H' p xs n:=
 let ⟨dx,l,ps,h1,h2,h3⟩:=h;⟨dx,l,ps,e _ _ h1,e _ _ h2,aK (fun _ _ h=>jC.same h e) h3⟩
theorem F2:ax ["self"] ["self"] (aj mD):=⟨rfl,rfl,rfl,by decide+kernel,rfl,by decide+kernel,by decide+kernel⟩
theorem Aq (d:Nat) (D:a9 K Fo "shown" "Formula.shown" mD ["self"]) (T:lC K mg C R G Pc Fo uK uN uB uE uM uC uP uI uD uL uT) (c1:aJ P w K mg base (2*d+4) Pc "shown" ["self"] (lH C G Pc d)) (c2:bg P w K mg base 2 "charge_shown" ["charge"] ud):aJ P w K mg base (2*d+5) Fo "shown" ["self"] (uf C G Pc Fo d):=by
 obtain⟨_,_,iT⟩:=c1
 obtain⟨_,_,fz⟩:=c2
 refine D.di F2 (fun vs H Q E h=>?_) (fun f bA A outer s H vs Q E hr h=>?_)
 ·obtain⟨f,xs,n,rfl,_⟩:=h
  rfl
 ·obtain⟨f,xs,n,rfl,⟨dx,l,ps,hf,hl,hP⟩,aS,hz,q⟩:=h
  have big:(3000 :Nat) <sizeLine:=by decide
  have lp:ps.length=xs.length:=Paired.length hP
  refine⟨_,(ai
     (bG (jo (qu (a0 (pv 0) rfl) (fun _=>rfl)))
      (ao
       (aD (aX (v:= .str "e^-") rfl T.lU ⟨_,rfl⟩)))
      aR)
    (ao
     (aD (aE bq (i' PySem.F.plainAttrs_str PySem.F.slot_str_join PySem.F.type_str_join pL (aX (v:= .str ".") rfl T.ko ⟨_,rfl⟩) (aa (fk (sc:=(aj mD)) (NX:=["self"]) (N:=["piece"]) (fr:=[none]) ⟨by rfl,by rfl,by decide+kernel,by decide+kernel,by decide+kernel,by rfl,by decide+kernel⟩ rfl rfl rfl (cN (a0 (pv 0) rfl)) (fun _ _ _ _=>(aG (i:=0) (show (["piece"]:List Str).Nodup by decide+kernel) rfl (Or.inl rfl) (Or.inr rfl))) (fun _ _ _ _=>fW) (fun _ _ _ _=>(aN (pv 0) T.dn iT.m iT.ok (hr.mono (by omega)) iT.b .nil ay))) ak)) (aH fz.ok (hr.mono (by omega)) rfl fz.g fz.kp fz.b .nil ay (aa (a0 (pv 0) rfl) ak)))))),?_⟩
  refine⟨_,rfl,f,Fo,dx,_,_,rfl,hf,T.bO,T.jD,jB _ _,_, .inl ⟨_,b5.of hl,rfl⟩,?_⟩
  cases xs with
  |nil=>
   have hp:ps=[]:=List.length_eq_zero_iff.mp lp
   subst hp
   refine ik ?_
   have e0:(⟨(wL d [] n).toArray⟩:Str)="e^-" :=by rw[eE];rfl
   rw[e0] at q
   exact q _ (au.refl _)
  |cons x0 r0=>
   obtain⟨Ze,Dx,n1,n2⟩:=aS
   have hpe:(!(ps.map V.ref).isEmpty)=true:=by
    cases ps with
    |nil=>simp at lp
    |cons _ _=>rfl
   rw[hpe]
   refine cH ?_
   have zc:=Nz n1 n2
   have ez:wL d (x0::r0) n=(lG d x0++cX d r0)++jh n:=by
    show x0.2.flatMap (cn d)++(cX d r0++jh n)=_
    unfold lG
    rw[Ze,show aQ 1=[] from rfl,List.nil_append,List.append_assoc]
   rw[ez,List.length_append,List.length_append] at hz
   have Zg:=wx d r0
   have each:∀y∈x0::r0,(lG d y).length≤1000:=fun y hy=>by
    rcases List.mem_cons.mp hy with rfl|hy
    ·omega
    ·obtain⟨a,b,rfl⟩:=List.append_of_mem hy
     have:(cX d (a++y::b)).length=(cX d a).length+(46::lG d y++cX d b).length:=by
      unfold cX
      rw[List.flatMap_append,List.length_append,List.flatMap_cons]
     rw[this,List.length_append,List.length_cons] at hz
     omega
   refine⟨rfl,_,rfl,f,Fo,dx,_,_,rfl,hf,T.bO,T.jD,jB _ _,l,rfl,⟨_,b5.of hl⟩,fun D hD=>tq (K:=K) (a:=l) (D:=D) (xs:=ps.map V.ref) (fun i σ H'=>∃v:Option V,σ=[v]∧au H H'∧H' D=some (.lst (((x0::r0).take i).map fun x=>V.str ⟨(lG d x).toArray⟩)))
    ?_ (fun i σ H' _ ⟨_,_,e,_⟩=>b5.of (e _ _ hl)) ?_ ?_⟩
   ·exact⟨none,rfl,au.new hD,af⟩
   ·rintro i v σ H' hi ⟨v',rfl,e,BB⟩ N hN
    rw[List.getElem?_map] at hi
    obtain⟨p,hp,rfl⟩:∃p,ps[i]? =some p∧v=V.ref p:=by
     cases hh:ps[i]? with
     |none=>rw[hh] at hi;cases hi
     |some p=>rw[hh] at hi;exact⟨p,rfl,(Option.some.inj hi).symm⟩
    obtain⟨y,hy,hY⟩:=bI hP hp
    have hY:=hY.same e
    obtain⟨dP,l',PN,h1,h2⟩:=id hY
    have my:=List.mem_of_getElem? hy
    refine⟨_,rfl,p,dP,_,rfl,h1,mQ _ _ (by decide+kernel) (by decide+kernel),p,y,rfl,hY,Dx y my,each y my,fun cz e'=>⟨_,e' _ _ BB,?_,hN _ _ ⟨_,rfl,fun b o z=>?_,?_⟩⟩⟩
    ·rw[List.length_map]
     have:((x0::r0).take i).length≤(x0::r0).length:=List.length_take_le' _ _
     rw[List.length_cons] at this
     omega
    ·rw[ah (ag z hD)]
     exact e' _ _ (e _ _ z)
    ·rw[af,List.take_add_one,hy,List.map_append]
     rfl
   ·rintro σ H' ⟨v,rfl,e,BB⟩
    rw[List.length_map,lp,List.take_length] at BB
    have ej:Txt.join "." ((x0::r0).map fun y=>(⟨(lG d y).toArray⟩:Str))=⟨(lG d x0++cX d r0).toArray⟩:=by
     have:=PyProof.Rows.join_closes (sep:=".") (sep':=".") (ys:=(x0::r0).map fun y=>(⟨(lG d y).toArray⟩:Str)) rfl
     rw[←ug]
     simpa using this
    have es:(((x0::r0).map fun y=>(⟨(lG d y).toArray⟩:Str)).map (·.length)).sum≤(lG d x0).length+(cX d r0).length:=by
     rw[List.map_map,List.map_cons,List.sum_cons]
     have:∀r:List jV,(r.map ((·.length)∘fun y=>(⟨(lG d y).toArray⟩:Str))).sum≤(cX d r).length:=fun r=>by
      induction r with
      |nil=>exact Nat.le_refl _
      |cons y r ih=>
       show (⟨(lG d y).toArray⟩:Str).length+(r.map ((·.length)∘fun y=>(⟨(lG d y).toArray⟩:Str))).sum≤(46::lG d y++cX d r).length
       rw[bj,List.length_append,List.length_cons]
       omega
     have h2:=this r0
     show (⟨(lG d x0).toArray⟩:Str).length+_≤_
     rw[bj]
     omega
    refine⟨_,D,(x0::r0).map (fun y=>⟨(lG d y).toArray⟩),rfl,rfl,b5.of (by rw[BB,List.map_map];rfl),?_,?_⟩
    ·have e0:("." :Str).length=1:=by decide+kernel
     rw[e0,List.length_map,List.length_cons]
     omega
    ·rw[ej]
     refine⟨_,rfl,f,Fo,dx,_,_,rfl,e _ _ hf,T.bO,T.lT,mZ _ _,n,rfl,n1,n2,_,_,rfl,rfl,?_,?_⟩
     ·rw[bj,bj,List.length_append]
      omega
     ·rw[bD,←ez]
      exact q _ e
theorem Dz:ax ["_law_count_here"] ["_law_count_here"] (aj mN):=⟨rfl,rfl,rfl,by decide+kernel,rfl,by decide+kernel,by decide+kernel⟩
theorem Ar (D:Def K mg "_law_figures" "_law_figures" mN ["_law_count_here"]) (T:oo K mg C):bg P w K mg base 1 "_law_figures" ["_law_count_here"] ki:=by
 refine D.di Dz (fun vs H Q E h=>?_) (fun f bA A outer s H vs Q E hr h=>?_)
 ·obtain⟨n,rfl,_⟩:=h
  rfl
 ·obtain⟨n,rfl,h1,h2,k⟩:=h
  refine⟨_,(ai
     (bG (aP dZ (pv 0) aq (aV _))
      (ao
       (aD bJ))
      aR)
    (ao
     (aD (bK jr rfl T.FG zT (aa (pv 0) ak))))),?_⟩
  refine⟨_,rfl,rfl,_,rfl,fG (fun e=>?_) fun e=>?_⟩
  ·have e:n=1:=by simpa using e
   subst e
   exact k
  ·have e:¬n=1:=by simpa using e
   refine⟨_,rfl,_,rfl,ti (by omega) (by omega),?_⟩
   unfold eZ at k
   rw[if_neg e] at k
   exact k
theorem NA:ax ["self","kind","count"] ["self","kind","count"] (aj jd):=⟨rfl,rfl,rfl,by decide+kernel,rfl,by decide+kernel,by decide+kernel⟩
theorem JO (D:lB K C "Atom.__init__" jd ["self","kind","count"] [1]) (T:oo K mg C):gz P w K mg base 1 C ["self","kind","count"] [1] (FF C):=by
 refine D.di NA (fun vs H Q E h=>?_) (fun f bA A outer s H vs Q E hr h=>?_)
 ·obtain⟨p,dx,k,n,rfl,_⟩:=h
  rfl
 ·obtain⟨p,dx,k,n,rfl,hp,q⟩:=h
  refine⟨_,(ai
     (eK (pv 0) (pv 1) rfl)
    (ao
     (eK (pv 0) (pv 2) rfl))),?_⟩
  refine⟨_,rfl,_,rfl,p,C,dx,[],rfl,hp,T.gq,T.vX,(by show 0<1000;decide),_,rfl,_,rfl,p,C,dx,_,rfl,af,T.gq,T.qZ,(by show 1<1000;decide),?_⟩
  refine q _ af fun b o e hb=>?_
  rw[ah hb,ah hb]
  exact e
theorem F3:ax ["_law_script","_law_k"] ["_law_script","_law_k"] (aj pS):=⟨rfl,rfl,rfl,by decide+kernel,rfl,by decide+kernel,by decide+kernel⟩
theorem As (D:Def K mg "_law_cell_at" "_law_cell_at" pS ["_law_script","_law_k"]) (T:oo K mg C):bg P w K mg base 1 "_law_cell_at" ["_law_script","_law_k"] (qX K):=by
 refine D.di F3 (fun vs H Q E h=>?_) (fun f bA A outer s H vs Q E hr h=>?_)
 ·obtain⟨a,ns,k,rfl,_⟩:=h
  rfl
 ·obtain⟨a,ns,k,rfl,hS,hl,q⟩:=h
  refine⟨_,(ai
     (bG (aP mh (pv 1) (br gD rfl T.oZ j7 (aa (pv 0) ak)) (aV _))
      (ao
       (aD (cE cZ (pv 0) (pv 1) (fun _ _=>rfl))))
      aR)
    (ao
     (aD aq))),?_⟩
  refine⟨_,rfl,_,rfl,a,_,rfl, .inl hS,_,_,rfl,rfl,_,rfl,fG (fun e=>?_) fun e=>?_⟩
  ·have e:k<ns.length:=by simpa using e
   exact⟨_,rfl,_,rfl,a,_,_,V.int ns[k],rfl,rfl,hS,pH (by rw[List.getElem?_map,List.getElem?_eq_getElem e];rfl),q _⟩
  ·exact q 0
theorem JP:ax ["_law_found"] ["_law_found"] (aj vM):=⟨rfl,rfl,rfl,by decide+kernel,rfl,by decide+kernel,by decide+kernel⟩
theorem F4 (D:Def K mg "_law_whole" "_law_whole" vM ["_law_found"]) (T:oo K mg C):bg P w K mg base 1 "_law_whole" ["_law_found"] vV:=by
 refine D.di JP (fun vs H Q E h=>?_) (fun f bA A outer s H vs Q E hr h=>?_)
 ·obtain⟨i,rfl,_⟩:=h
  rfl
 ·obtain⟨i,rfl,q⟩:=h
  refine⟨_,(ao
     (aD (vc (br ir rfl T.bx bh (aa (pv 0) (aa (mf (v:= .ty "int") rfl T.yc qG rfl) ak))) (qp (EC (br ir rfl T.bx bh (aa (pv 0) (aa (mf (v:= .ty "bool") rfl T.Nj Jb rfl) ak)))))))),?_⟩
  exact⟨_,rfl,_,_,_,_,_,rfl,rfl, .int i,T.k1,_,rfl,ik ⟨_,rfl,_,_,_,_,_,rfl,rfl, .int i,T.k2,_,rfl,q⟩⟩
abbrev great:Str:="ABCDEFGHIJKLMNOPQRSTUVWXYZ"
abbrev small:Str:="abcdefghijklmnopqrstuvwxyz"
theorem DA:great.cps.toList.length=26:=by decide+kernel
theorem DB:small.cps.toList.length=26:=by decide+kernel
def Ru:List Str:=["C","Co","O","Cob","H","N","No","B","Ob","Nob"]
theorem lW:ax ["_law_number","_law_great","_law_small","_law_kind_here","_law_k"] ["_law_number"] (aj Bi):=⟨rfl,rfl,rfl,by decide+kernel,rfl,by decide+kernel,by decide+kernel⟩
def BC:Sp:=fun vs H Q _=>∃n:Int,vs=[.int n]∧∀(k:List Nat) H',lS k→au H H'→Q (.str ⟨k.toArray⟩) H'
def NB:List Nat→Bool
 |c::r=>Eo c&&r.all En&&decide (r.length≤2)
 | []=>false
theorem NC:∀{l:List Nat},NB l=true→lS l
 | [],h=>by cases h
 |c::r,h=>by
  simp only [NB,Bool.and_eq_true,decide_eq_true_eq] at h
  exact⟨c,r,rfl,h.1.1,h.1.2,h.2⟩
theorem ND:Ru.all (fun x=>NB x.cps.toList)=true:=by decide+kernel
theorem DC:great.cps.toList.all Eo=true:=by decide+kernel
theorem DD:small.cps.toList.all En=true:=by decide+kernel
theorem F5 (D:Def K mg "_law_kind" "_law_kind" Bi ["_law_number"]) (T:oo K mg C):bg P w K mg base 1 "_law_kind" ["_law_number"] BC:=by
 refine D.di lW (fun vs H Q E h=>?_) (fun f bA A outer s H vs Q E hr h=>?_)
 ·obtain⟨n,rfl,_⟩:=h
  rfl
 ·obtain⟨n,rfl,q⟩:=h
  refine⟨_,(ai
     (aB (i:=1) lW.nd rfl (Or.inl rfl) bJ)
    (ai
     (aB (i:=2) lW.nd rfl (Or.inl rfl) bJ)
    (ai
     (bG (aP dZ (aE cK (pv 0) aq) aq (aV _))
      (ao
       (aD (cE cZ (cD (Jc (.str (.str (.str (.str (.str (.str (.str (.str (.str (.str .nil)))))))))))) (aE cK (aE cY (pv 0) aq) aq) (fun _ _=>rfl))))
      aR)
    (ai
     (aB (i:=0) lW.nd rfl (Or.inl rfl) (aE cY (pv 0) aq))
    (ai
     (aB (i:=3) lW.nd rfl (Or.inl rfl) (cE vi (pv 1) (aE cK (pv 0) aq) (fun _ _=>rfl)))
    (ai
     (bW PassesOwn.never rfl (gP rfl T.kS (aa (aE cK (aE cY (pv 0) aq) aq) ak)) (aG (i:=4) lW.nd rfl (Or.inl rfl))
      (ao
       (aB (i:=3) lW.nd rfl (Or.inl rfl) (aE bq (pv 3) (cE vi (pv 2) (aE cK (aE cY (pv 0) (aE cf aq (aE gT aq (pv 4)))) aq) (fun _ _=>rfl))))))
    (ao
     (aD (pv 3))))))))),?_⟩
  refine⟨_,rfl,_,_,rfl,rfl,(by show (0 :Int) <2;decide),rfl,_,rfl,fG (fun _=>?_) fun _=>?_⟩
  ·have b0:0≤n/2%10:=Int.emod_nonneg _ (by decide)
   have b1:n/2%10<10:=Int.emod_lt_of_pos _ (by decide)
   obtain⟨v,hv,JQ⟩:=vp (xs:=Ru.map V.str) b0 b1
   obtain⟨k,hk,rfl⟩:=List.mem_map.mp hv
   have ek:(⟨k.cps.toList.toArray⟩:Str)=k:=mR (by simp)
   have okk:=NC (List.all_eq_true.mp ND k hk)
   have q':∀l (hl:H l=none),Q (.str k) (upd H l (.lst (Ru.map V.str))):=fun l hl=>by
    have:=q k.cps.toList _ okk (au.new (o:= .lst (Ru.map V.str)) hl)
    rwa [ek] at this
   exact⟨(by show 10≤sizeLine;decide),fun l hl=>⟨_,rfl,_,_,rfl,rfl,⟨by decide,by decide⟩,_,_,rfl,rfl,(by show (0 :Int) <10;decide),l,Ru.map V.str,_,_,rfl,rfl,b5.of af,JQ,q' l hl⟩⟩
  ·have b0:0≤n/2%26:=Int.emod_nonneg _ (by decide)
   have b1:n/2%26<26:=Int.emod_lt_of_pos _ (by decide)
   have b2:0≤n/2/26%3:=Int.emod_nonneg _ (by decide)
   have b3:n/2/26%3<3:=Int.emod_lt_of_pos _ (by decide)
   obtain⟨c,hc,JQ⟩:=vp (xs:=great.cps.toList) b0 (by rw[DA];exact b1)
   have gc:=List.all_eq_true.mp DC c hc
   refine⟨_,rfl,_,_,rfl,rfl,⟨by decide,by decide⟩,_,rfl,_,rfl,_,_,rfl,rfl,(by show (0 :Int) <26;decide),great,_,c,rfl,rfl,(by decide+kernel),JQ,?_⟩
   refine⟨_,rfl,_,_,rfl,rfl,⟨by decide,by decide⟩,_,_,rfl,rfl,(by show (0 :Int) <3;decide),_,rfl,by omega,by omega,
    kE (fun i σ H'=>∃(r:List Nat) (v:Option V),σ=[some (.int (n/2)),some (.str great),some (.str small),some (.str ⟨(c::r).toArray⟩),v]∧r.all En=true∧r.length≤i∧H'=H) ⟨[],none,rfl,rfl,Nat.le_refl _,rfl⟩ ?_ ?_⟩
   ·rintro i σ H' hi ⟨r,v,rfl,ha,hk,rfl⟩
    have c0:0≤n/2/(78+1950*(0+(i:Int))) %26:=Int.emod_nonneg _ (by decide)
    have c1:n/2/(78+1950*(0+(i:Int))) %26<26:=Int.emod_lt_of_pos _ (by decide)
    obtain⟨c2,Xi,NG⟩:=vp (xs:=small.cps.toList) c0 (by rw[DB];exact c1)
    have sc2:=List.all_eq_true.mp DD c2 Xi
    have l2:(⟨#[c2]⟩:Str).length=1:=rfl
    have big:(100 :Nat)≤sizeLine:=by decide
    have e2:(⟨(c::r).toArray⟩:Str)++⟨#[c2]⟩=⟨(c::(r++[c2])).toArray⟩:=bD (c::r) [c2]
    refine⟨_,rfl,_,rfl,_,rfl,_,rfl,_,_,rfl,rfl, .inl ⟨by decide,by decide⟩,_,_,rfl,rfl,_,_,rfl,rfl,⟨by omega,by omega⟩,_,_,rfl,rfl,(by show (0 :Int) <26;decide),small,_,c2,rfl,rfl,(by decide+kernel),NG,_,_,rfl,rfl,?_,r++[c2],some (.int (0+(i:Int))),?_,?_,?_,rfl⟩
    ·rw[bj,l2,List.length_cons]
     omega
    ·rw[←e2]
     rfl
    ·rw[List.all_append,ha]
     simpa using sc2
    ·rw[List.length_append]
     show r.length+1≤i+1
     omega
   ·rintro σ H' ⟨r,v,rfl,ha,hk,rfl⟩
    exact⟨_,rfl,q (c::r) _ ⟨c,r,rfl,gc,ha,by omega⟩ (au.refl _)⟩
variable {uC uP uI uD uL uT:Tok}
theorem JR:ax ["self","parts","count"] ["self","parts","count"] (aj fM):=⟨rfl,rfl,rfl,by decide+kernel,rfl,by decide+kernel,by decide+kernel⟩
theorem F6 (D:lB K G "Group.__init__" fM ["self","parts","count"] [1]) (T:lC K mg C R G Pc Fo uK uN uB uE uM uC uP uI uD uL uT):gz P w K mg base 1 G ["self","parts","count"] [1] (mY G):=by
 refine D.di JR (fun vs H Q E h=>?_) (fun f bA A outer s H vs Q E hr h=>?_)
 ·obtain⟨p,dx,l,c,xs,rfl,_⟩:=h
  rfl
 ·obtain⟨p,dx,l,c,xs,rfl,hp,hl,q⟩:=h
  refine⟨_,(ai
     (eK (pv 0) (bK fj rfl T.n_list kJ (aa (pv 1) ak)) rfl)
    (ao
     (eK (pv 0) (pv 2) rfl))),?_⟩
  refine⟨_,rfl,l,xs,rfl, .inl (b5.of hl),fun n hn=>?_⟩
  have zx:p≠n:=ag hp hn
  refine⟨_,rfl,p,G,dx,[],rfl,(by rw[ah zx];exact hp),T.eI,T.ou,(by show 0<1000;decide),_,rfl,_,rfl,p,G,dx,_,rfl,af,T.eI,T.ow,(by show 1<1000;decide),?_⟩
  refine q n _ hn af (by rw[ah (Ne.symm zx),ah (Ne.symm zx),af]) fun b o e hb=>?_
  rw[ah hb,ah hb,ah (ag e hn)]
  exact e
theorem JS:ax ["self","parts","count"] ["self","parts","count"] (aj fN):=⟨rfl,rfl,rfl,by decide+kernel,rfl,by decide+kernel,by decide+kernel⟩
theorem F7 (D:lB K Pc "Piece.__init__" fN ["self","parts","count"] [1]) (T:lC K mg C R G Pc Fo uK uN uB uE uM uC uP uI uD uL uT):gz P w K mg base 1 Pc ["self","parts","count"] [1] (mY Pc):=by
 refine D.di JS (fun vs H Q E h=>?_) (fun f bA A outer s H vs Q E hr h=>?_)
 ·obtain⟨p,dx,l,c,xs,rfl,_⟩:=h
  rfl
 ·obtain⟨p,dx,l,c,xs,rfl,hp,hl,q⟩:=h
  refine⟨_,(ai
     (eK (pv 0) (bK fj rfl T.n_list kJ (aa (pv 1) ak)) rfl)
    (ao
     (eK (pv 0) (pv 2) rfl))),?_⟩
  refine⟨_,rfl,l,xs,rfl, .inl (b5.of hl),fun n hn=>?_⟩
  have zx:p≠n:=ag hp hn
  refine⟨_,rfl,p,Pc,dx,[],rfl,(by rw[ah zx];exact hp),T.dn,T.oB,(by show 0<1000;decide),_,rfl,_,rfl,p,Pc,dx,_,rfl,af,T.dn,T.oC,(by show 1<1000;decide),?_⟩
  refine q n _ hn af (by rw[ah (Ne.symm zx),ah (Ne.symm zx),af]) fun b o e hb=>?_
  rw[ah hb,ah hb,ah (ag e hn)]
  exact e
theorem JT:ax ["self","pieces","charge"] ["self","pieces","charge"] (aj fO):=⟨rfl,rfl,rfl,by decide+kernel,rfl,by decide+kernel,by decide+kernel⟩
theorem F8 (D:lB K Fo "Formula.__init__" fO ["self","pieces","charge"] [0]) (T:lC K mg C R G Pc Fo uK uN uB uE uM uC uP uI uD uL uT):gz P w K mg base 1 Fo ["self","pieces","charge"] [0] (wo Fo):=by
 refine D.di JT (fun vs H Q E h=>?_) (fun f bA A outer s H vs Q E hr h=>?_)
 ·obtain⟨p,dx,l,c,xs,rfl,_⟩:=h
  rfl
 ·obtain⟨p,dx,l,c,xs,rfl,hp,hl,q⟩:=h
  refine⟨_,(ai
     (eK (pv 0) (bK fj rfl T.n_list kJ (aa (pv 1) ak)) rfl)
    (ao
     (eK (pv 0) (pv 2) rfl))),?_⟩
  refine⟨_,rfl,l,xs,rfl, .inl (b5.of hl),fun n hn=>?_⟩
  have zx:p≠n:=ag hp hn
  refine⟨_,rfl,p,Fo,dx,[],rfl,(by rw[ah zx];exact hp),T.bO,T.jD,(by show 0<1000;decide),_,rfl,_,rfl,p,Fo,dx,_,rfl,af,T.bO,T.lT,(by show 1<1000;decide),?_⟩
  refine q n _ hn af (by rw[ah (Ne.symm zx),ah (Ne.symm zx),af]) fun b o e hb=>?_
  rw[ah hb,ah hb,ah (ag e hn)]
  exact e
structure Zn (K:PySem.W.Frag) (mg:Str→Option Value) (C:Addr):Prop extends oo K mg C where
 jF:mg "dict" =none
 FW:mg "abs" =none
def bp:Nat→Int→Tr→List (Str×Int)
 |_,m, .one k n=>[(⟨k.toArray⟩,n*m)]
 |0,_, .gr _ _=>[]
 |d+1,m, .gr ts n=>ts.flatMap (bp d (n*m))
def cA (d:Nat) (x:jV):List (Str×Int):=x.2.flatMap (bp d x.1)
def cW (d:Nat) (xs:List jV):List (Key×V):=a8 1 [] (xs.flatMap (cA d))
def DE (ts:List Tr):Prop:=ts≠[]∧(∀t∈ts,tV 1 t)∧(ts.flatMap (cn 1)).length≤23∧(ts.flatMap (bp 1 1)).length≤5
theorem nj:∀(l acc:List (Key×V)),((acc++l).map (·.1)).Nodup→cu acc l=acc++l
 | [],acc,_=>by rw[List.append_nil];rfl
 |p::r,acc,h=>by
  have hn:b7 acc p.1=none:=by
   cases e:b7 acc p.1 with
   |none=>rfl
   |some x=>
    rw[List.map_append,List.nodup_append] at h
    exact absurd rfl (h.2.2 _ (pI e) p.1 (by simp))
  show cu (putK acc p.1 p.2) r=_
  rw[mi _ hn,nj r (acc++[(p.1,p.2)]) (by rw[List.append_assoc];exact h),List.append_assoc]
  rfl
theorem pZ (c:Int):∀(as:List (Str×Int)) (acc:List (Key×V)),a8 1 acc (as.map fun p=>(p.1,p.2*c))=a8 c acc as
 | [],_=>rfl
 |p::r,acc=>by
  show a8 1 (b8 acc (Sum.inr p.1) (p.2*c*1)) (r.map fun p=>(p.1,p.2*c))=a8 c (b8 acc (Sum.inr p.1) (p.2*c)) r
  rw[Int.mul_one,pZ c r]
theorem uh {D:List (Key×V)} (hI:bu D) (hn:(D.map (·.1)).Nodup) (c:Int):(D.map fun p=>(p.1,V.int (c*aO D p.1)))=scale c D:=by
 unfold scale
 apply List.map_congr_left
 intro p hp
 have e:=hI.look (ja hn hp)
 show (p.1,V.int (c*aO D p.1))=(p.1,Di c p.2)
 rw[e]
 show _=(p.1,V.int (aO D p.1*c))
 rw[Int.mul_comm]
abbrev BD:=List (List Nat×Int)
def aT (a:List Nat×Int):Tr:= .one a.1 a.2
def oH (as:BD):List (Str×Int):=as.map fun a=>((⟨a.1.toArray⟩:Str),a.2)
def F9 (as:BD):Prop:=∀a∈as,lS a.1∧1≤a.2∧a.2≤999
theorem lX (d:Nat) (m:Int) (as:BD):(as.map aT).flatMap (bp d m)=(oH as).map fun p=>(p.1,p.2*m):=by
 unfold oH
 induction as with
 |nil=>rfl
 |cons a r ih=>
  rw[List.map_cons,List.flatMap_cons,ih,List.map_cons,List.map_cons]
  have e:bp d m (aT a)=[((⟨a.1.toArray⟩:Str),a.2*m)]:=by cases d<;>rfl
  rw[e]
  rfl
theorem oI (d:Nat) (as:BD):(as.map aT).flatMap (cn d)=as.flatMap fun a=>a.1++aQ a.2:=by
 induction as with
 |nil=>rfl
 |cons a r ih=>
  rw[List.map_cons,List.flatMap_cons,ih,List.flatMap_cons]
  have e:cn d (aT a)=a.1++aQ a.2:=by cases d<;>rfl
  rw[e]
theorem rG {n:Int} (h:1≤n) (h':n≤999):(aQ n).length≤3:=by
 have:=gY h h'
 rw[de,bj] at this
 exact this
theorem F' {n:Int} (h:1≤n) (h':n≤99):(aQ n).length≤2:=by
 obtain⟨m,rfl⟩:=Int.eq_ofNat_of_zero_le (show 0≤n by omega)
 have:=kT (n:=m) (k:=2) (by decide) (by omega)
 rw[de,bj] at this
 exact this
theorem rH {k:List Nat} (h:lS k):k.length≤3:=by
 obtain⟨c,r,rfl,_,_,h3⟩:=h
 rw[List.length_cons]
 omega
theorem kZ {as:BD} (h:F9 as):(as.flatMap fun a=>a.1++aQ a.2).length≤6*as.length:=by
 induction as with
 |nil=>exact Nat.zero_le _
 |cons a r ih=>
  have h1:=h a (List.mem_cons_self ..)
  have h2:=ih fun b hb=>h b (List.mem_cons_of_mem _ hb)
  have h3:=rH h1.1
  have h4:=rG h1.2.1 h1.2.2
  rw[List.flatMap_cons,List.length_append,List.length_append,List.length_cons]
  omega
theorem yo {as:BD} (h:F9 as) (d:Nat):∀t∈as.map aT,tV d t:=by
 intro t ht
 obtain⟨a,ha,rfl⟩:=List.mem_map.mp ht
 have:=h a ha
 cases d<;>exact this
theorem Ga {as:BD} (h:F9 as) (h1:1≤as.length) (h3:as.length≤3):DE (as.map aT):=by
 refine⟨?_,yo h 1,?_,?_⟩
 ·intro z
  have:=congrArg List.length z
  rw[List.length_map,List.length_nil] at this
  omega
 ·rw[oI]
  have:=kZ h
  omega
 ·rw[lX,List.length_map]
  unfold oH
  rw[List.length_map]
  omega
theorem Ls (as:BD):cW 1 [(1,as.map aT)]=a8 1 [] (oH as):=by
 show a8 1 [] ((as.map aT).flatMap (bp 1 1)++[])=_
 rw[List.append_nil,lX,pZ]
theorem Lu (as:BD) (c:Int):([Tr.gr (as.map aT) c].flatMap (cn 1))=40::((as.flatMap fun a=>a.1++aQ a.2)++41::aQ c):=by
 rw[List.flatMap_cons,List.flatMap_nil,List.append_nil]
 show 40::((as.map aT).flatMap (cn 0)++41::aQ c)=_
 rw[oI]
theorem Lv (as:BD) (c:Int):([Tr.gr (as.map aT) c].flatMap (bp 1 1))=(oH as).map fun p=>(p.1,p.2*(c*1)):=by
 rw[List.flatMap_cons,List.flatMap_nil,List.append_nil]
 show (as.map aT).flatMap (bp 0 (c*1))=_
 rw[lX]
theorem NH {as:BD} (h:F9 as) (h1:1≤as.length) (h3:as.length≤3) {c:Int} (c1:1≤c) (c2:c≤999):DE [.gr (as.map aT) c]:=by
 refine⟨by simp,fun t ht=>?_,?_,?_⟩
 ·have e:t= .gr (as.map aT) c:=by simpa using ht
  subst e
  exact⟨(Ga h h1 h3).1,yo h 0,c1,c2⟩
 ·rw[Lu]
  have:=kZ h
  have:=rG c1 c2
  simp only [List.length_cons,List.length_append]
  omega
 ·rw[Lv,List.length_map]
  unfold oH
  rw[List.length_map]
  omega
theorem Lw (as:BD) (c:Int):cW 1 [(1,[.gr (as.map aT) c])]=scale c (a8 1 [] (oH as)):=by
 show a8 1 [] ([Tr.gr (as.map aT) c].flatMap (bp 1 1)++[])=_
 rw[List.append_nil,Lv,pZ,tM 1 c _ [] (fun p hp=>by cases hp),Int.mul_one,Int.one_mul]
 rfl
theorem bu.dM {kvs:List (Key×V)} (h:bu kvs) {k:Key} {v:V} (hm:(k,v)∈kvs):b7 kvs k=some (.int (aO kvs k)):=by
 cases f:b7 kvs k with
 |none=>exact absurd (List.mem_map_of_mem (f:=(·.1)) hm) (mn f)
 |some x=>rw[h.look f]
theorem none_back {H H':Hp} {D:Addr} (e:au H H') (h:H' D=none):H D=none:=by
 cases hh:H D with
 |none=>rfl
 |some o=>rw[e _ _ hh] at h;cases h
theorem take_snoc {α:Type} {l:List α} {i:Nat} {a:α} (h:l[i]? =some a):l.take (i+1)=l.take i++[a]:=by
 rw[List.take_add_one,h]
 rfl
theorem Lx:(⟨(([]:BD).flatMap fun a=>a.1++aQ a.2).toArray⟩:Str)="" :=by decide+kernel
abbrev Fm:=List jV×Int
def fL (x:Fm):List Nat:=wL 1 x.1 x.2
def cS (x:Fm):Prop:=JJ 1 x.1 x.2∧(fL x).length≤33∧(x.1.flatMap (cA 1)).length≤7
def yp (H:Hp) (t:Addr) (x:Fm):Prop:=∃d,H t=some (.tup [.str ⟨(fL x).toArray⟩, .ref d, .int x.2])∧H d=some (.dK (cW 1 x.1))
theorem yp.same {H H':Hp} {t:Addr} {x:Fm} (h:yp H t x) (e:au H H'):yp H' t x:=let ⟨d,h1,h2⟩:=h;⟨d,e _ _ h1,e _ _ h2⟩
theorem NI (n:Int):zP [V.str "-",V.str "+"] (if decide (n>0)=true then 1 else 0)=some (V.str (if 0<n then ("+" :Str) else ("-" :Str))):=by
 by_cases h:0<n
 ·rw[if_pos (decide_eq_true h),if_pos h]
  rfl
 ·rw[if_neg (by simpa using h),if_neg h]
  rfl
theorem JU {n:Int} (e:¬n=0):(⟨(jh n).toArray⟩:Str)="^" ++eZ (if n<0 then -n else n)++(if 0<n then ("+" :Str) else ("-" :Str)):=by
 unfold jh
 rw[if_neg e,de,Ro,Zc,Rp]
 rw[show (⟨#[94]⟩:Str)=⟨[94].toArray⟩ from rfl,bD]
 by_cases hp:0<n
 ·rw[if_pos hp,if_pos hp,show (⟨#[43]⟩:Str)=⟨[43].toArray⟩ from rfl,bD]
  simp
 ·rw[if_neg hp,if_neg hp,show (⟨#[45]⟩:Str)=⟨[45].toArray⟩ from rfl,bD]
  simp
theorem Rv {xs:List jV} (h:xs≠[]) (n:Int):wL 1 xs n=wL 1 xs 0++jh n:=by
 cases xs with
 |nil=>exact absurd rfl h
 |cons x r=>
  show x.2.flatMap (cn 1)++(cX 1 r++jh n)=x.2.flatMap (cn 1)++(cX 1 r++[])++jh n
  rw[List.append_nil,List.append_assoc]
def XA (xs:List jV):Prop:=xs≠[]∧(∀n, -999≤n→n≤999→JJ 1 xs n)∧(wL 1 xs 0).length≤29∧(xs.flatMap (cA 1)).length≤7
theorem eH:("H" :Str)=⟨[72].toArray⟩:=by decide+kernel
theorem Rw:aQ 1=[]:=by decide+kernel
theorem Rx (ts:List Tr):wL 1 [(1,ts)] 0=ts.flatMap (cn 1):=by
 show ts.flatMap (cn 1)++([]++[])=_
 simp
theorem Gb {ts:List Tr} (h:DE ts):XA [(1,ts)]:=by
 obtain⟨h1,h2,h3,h4⟩:=h
 refine⟨by simp,fun n n1 n2=>⟨rfl,fun x hx=>?_,n1,n2⟩,?_,?_⟩
 ·have e:x=(1,ts):=by simpa using hx
  subst e
  exact⟨h1,h2,(by show (1 :Int)≤1;decide),(by show (1 :Int)≤999;decide)⟩
 ·rw[Rx]
  omega
 ·show (ts.flatMap (bp 1 1)++[]).length≤7
  rw[List.append_nil]
  omega
theorem Ly {xs:List jV} (h:XA xs) {n:Int} (n1: -99≤n) (n2:n≤99):cS (xs,n):=by
 obtain⟨h1,h2,h3,h4⟩:=h
 refine⟨h2 n (by omega) (by omega),?_,h4⟩
 show (wL 1 xs n).length≤33
 rw[Rv h1,List.length_append]
 have:(jh n).length≤4:=by
  unfold jh
  split
  ·exact Nat.zero_le _
  ·have:=F' (n:=if n<0 then -n else n) (by split<;>omega) (by split<;>omega)
   rw[List.length_cons,List.length_append]
   show _+1+1≤4
   omega
 omega
theorem wA (xs:List jV):bu (cW 1 xs):=iB 1 _ _ fun p hp=>by cases hp
theorem Au {xs:List jV} {m:Nat} (h:(xs.flatMap (cA 1)).length≤m):(cW 1 xs).length≤m:=by
 have:=iC 1 (xs.flatMap (cA 1)) []
 rw[List.length_nil] at this
 unfold cW
 omega
abbrev Tm:=Int×Fm
def d7 (H:Hp) (t:Addr) (x:Tm):Prop:=∃f,H t=some (.tup [.int x.1, .ref f])∧yp H f x.2
def pz (B:Int) (x:Tm):Prop:=1≤x.1∧x.1≤B∧cS x.2
theorem d7.same {H H':Hp} {t:Addr} {x:Tm} (h:d7 H t x) (e:au H H'):d7 H' t x:=let ⟨f,h1,h2⟩:=h;⟨f,e _ _ h1,h2.same e⟩
theorem d7.but {D:Addr} {H H':Hp} {ys:List V} {t:Addr} {x:Tm} (hD:H D=some (.lst ys)) (e:∀b o,H b=some o→b≠D→H' b=some o) (h:d7 H t x):d7 H' t x:=by
 obtain⟨f,h1,d,h2,h3⟩:=h
 exact⟨f,e _ _ h1 (cI h1 hD (by intro z;cases z)),d,e _ _ h2 (cI h2 hD (by intro z;cases z)),e _ _ h3 (cI h3 hD (by intro z;cases z))⟩
def cT (H:Hp) (l:Addr) (xs:List Tm):Prop:=∃ts,H l=some (.lst (ts.map V.ref))∧Paired (d7 H) ts xs
theorem cT.same {H H':Hp} {l:Addr} {xs:List Tm} (h:cT H l xs) (e:au H H'):cT H' l xs:=let ⟨ts,h1,h2⟩:=h;⟨ts,e _ _ h1,aK (fun _ _ z=>z.same e) h2⟩
variable {uC uP uI uD uL uT:Tok}
theorem nq {n:Int} (h0:0≤n) (h:n<10^50):(toString n:Str).length≤50:=by
 rw[PySem.ofString_length]
 obtain⟨m,rfl⟩:=Int.eq_ofNat_of_zero_le h0
 show (Nat.repr m).length≤50
 rw[Nat.length_repr_le_iff (by decide)]
 omega
theorem p6 {n:Int} (h0:0≤n) (h:n<10^50):n.natAbs.log2<1920:=by
 by_cases e:n.natAbs=0
 ·rw[e];decide
 ·have:=(Nat.log2_lt e (k:=170)).mpr (by omega)
  omega
def rJ (x:Tm):Str:=if x.1=1 then ⟨(fL x.2).toArray⟩ else (toString x.1 :Str)++" " ++⟨(fL x.2).toArray⟩
def uk (xs:List Tm):Str:=Txt.join " + " (xs.map rJ)
theorem BE {B:Int} (hB:B≤10^40) {x:Tm} (h:pz B x):(rJ x).length≤100:=by
 obtain⟨h1,h2,_,h3,_⟩:=h
 unfold rJ
 split
 ·rw[bj]
  omega
 ·have:=nq (n:=x.1) (by omega) (by omega)
  have l1:(" " :Str).length=1:=by decide+kernel
  rw[bw,bw,bj,l1]
  exact Nat.le_trans (Nat.add_le_add (Nat.add_le_add_right this 1) h3) (by decide)
theorem yq {H:Hp}:∀{ts:List Addr} {xs:List Tm} {i:Nat} {x:V},Paired (d7 H) ts xs→(ts.map V.ref)[i]? =some x→∃t y,x= .ref t∧xs[i]? =some y∧d7 H t y
 |_,_,_,_, .nil,h=>by simp at h
 |_,_,0,_, .cons h _,e=>⟨_,_,(Option.some.inj e).symm,rfl,h⟩
 |_,_,i+1,_, .cons _ t,e=>yq (i:=i) t e
variable {uC uP uI uD uL uT eR eS eU:Tok} {Ch:Addr}
structure Gd (K:PySem.W.Frag) (mg:Str→Option Value) (C R G Pc Fo Ch:Addr) (uK uN uB uE uM uC uP uI uD uL uT eR eS eU:Tok):Prop extends lC K mg C R G Pc Fo uK uN uB uE uM uC uP uI uD uL uT,Zn K mg C where
 b9:sy K Ch
 gZ:cG K Ch "lefts"
 ji:cG K Ch "rights"
 Ge:mg "Change" =some (.ref Ch)
 JV:mg "BLANK" =some (.str " " eR)
 BF:mg "JOINT" =some (.str " + " eS)
 BG:mg "ARROW" =some (.str " -> " eU)
def jG (C G Pc Fo:Addr) (H:Hp) (t:Addr) (x:Tm):Prop:=∃f,H t=some (.tup [.int x.1, .ref f])∧o7 C G Pc Fo 1 H f x.2.1 x.2.2
def g7 (C G Pc Fo:Addr) (H:Hp) (l:Addr) (xs:List Tm):Prop:=∃ts,H l=some (.lst (ts.map V.ref))∧Paired (jG C G Pc Fo H) ts xs
theorem jG.same {C G Pc Fo:Addr} {H H':Hp} {t:Addr} {x:Tm} (h:jG C G Pc Fo H t x) (e:au H H'):jG C G Pc Fo H' t x:=let ⟨f,h1,h2⟩:=h;⟨f,e _ _ h1,h2.same e⟩
theorem g7.same {C G Pc Fo:Addr} {H H':Hp} {l:Addr} {xs:List Tm} (h:g7 C G Pc Fo H l xs) (e:au H H'):g7 C G Pc Fo H' l xs:=let ⟨ts,h1,h2⟩:=h;⟨ts,e _ _ h1,aK (fun _ _ z=>z.same e) h2⟩
theorem Xu:¬(("lefts" :Str)="rights"):=by decide+kernel
def pb (l r:Addr):List (Str×V):=cL "rights" (.ref r) (cL "lefts" (.ref l) [])
theorem eV (l r:Addr):(pb l r).lookup ("lefts" :Str)=some (.ref l):=by
 unfold pb
 rw[az,if_neg Xu,az,if_pos rfl]
theorem gK (l r:Addr):(pb l r).lookup ("rights" :Str)=some (.ref r):=by
 unfold pb
 rw[az,if_pos rfl]
theorem yr (l r:Addr) {m:Str} (h1:¬m="rights") (h2:¬m="lefts"):(pb l r).lookup m=none:=by
 unfold pb
 rw[az,if_neg h1,az,if_neg h2]
 all_goals rfl
def BH (Ch:Addr):Sp:=fun vs H Q _=>∃(p dx l r:Addr) (xs ys:List V),vs=[.ref p, .ref l, .ref r]∧H p=some (.ins Ch dx [])∧H l=some (.lst xs)∧H r=some (.lst ys)∧
 ∀n m H',H n=none→H m=none→n≠m→H' p=some (.ins Ch dx (pb n m))→H' n=some (.lst xs)→H' m=some (.lst ys)→(∀b o,H b=some o→b≠p→H' b=some o)→Q .cU H'
theorem JW:ax ["self","lefts","rights"] ["self","lefts","rights"] (aj vH):=⟨rfl,rfl,rfl,by decide+kernel,rfl,by decide+kernel,by decide+kernel⟩
theorem Gf (D:lB K Ch "Change.__init__" vH ["self","lefts","rights"] []) (T:Gd K mg C R G Pc Fo Ch uK uN uB uE uM uC uP uI uD uL uT eR eS eU):gz P w K mg base 1 Ch ["self","lefts","rights"] [] (BH Ch):=by
 refine D.di JW (fun vs H Q E h=>?_) (fun f bA A outer s H vs Q E hr h=>?_)
 ·obtain⟨p,dx,l,r,xs,ys,rfl,_⟩:=h
  rfl
 ·obtain⟨p,dx,l,r,xs,ys,rfl,hp,hl,Ij,q⟩:=h
  refine⟨_,(ai
     (eK (pv 0) (bK fj rfl T.n_list kJ (aa (pv 1) ak)) rfl)
    (ao
     (eK (pv 0) (bK fj rfl T.n_list kJ (aa (pv 2) ak)) rfl))),?_⟩
  refine⟨_,rfl,l,xs,rfl, .inl (b5.of hl),fun n hn=>?_⟩
  have zx:p≠n:=ag hp hn
  have npr:r≠p:=cI Ij hp (by intro z;cases z)
  refine⟨_,rfl,p,Ch,dx,[],rfl,(by rw[ah zx];exact hp),T.b9,T.gZ,(by show 0<1000;decide),?_⟩
  refine⟨_,rfl,r,ys,rfl, .inl (b5.of (by rw[ah npr,ah (ag Ij hn)];exact Ij)),fun m hm=>?_⟩
  have Zo:p≠m:=ag af hm
  have Ry:n≠m:=fun z=>by rw[←z,ah (Ne.symm zx),af] at hm;cases hm
  have Zp:H m=none:=by rwa [ah (Ne.symm Zo),ah (Ne.symm Ry)] at hm
  refine⟨_,rfl,p,Ch,dx,_,rfl,(by rw[ah Zo];exact af),T.b9,T.ji,(by show 1<1000;decide),?_⟩
  refine q n m _ hn Zp Ry af ?_ ?_ fun b o e hb=>?_
  ·rw[ah (Ne.symm zx),ah Ry,ah (Ne.symm zx),af]
  ·rw[ah (Ne.symm Zo),af]
  ·rw[ah hb,ah (ag e Zp),ah hb,ah (ag e hn)]
   exact e
def dB (C G Pc Fo Ch:Addr) (H:Hp) (c:Addr) (xs ys:List Tm):Prop:=∃dx l r,H c=some (.ins Ch dx (pb l r))∧g7 C G Pc Fo H l xs∧g7 C G Pc Fo H r ys
theorem dB.same {C G Pc Fo Ch:Addr} {H H':Hp} {c:Addr} {xs ys:List Tm} (h:dB C G Pc Fo Ch H c xs ys) (e:au H H'):dB C G Pc Fo Ch H' c xs ys:=let ⟨dx,l,r,h1,h2,h3⟩:=h;⟨dx,l,r,e _ _ h1,h2.same e,h3.same e⟩
def XB (xs ys:List Tm):Str:=uk xs++" -> " ++uk ys
theorem um {xs:List Tm} (aS:∀x∈xs,pz (10^40) x) (Zq:xs.length≤10):(uk xs).length≤2000:=by
 unfold uk
 have e:=PyProof.Rows.join_closes (sep:=" + ") (sep':=" + ") (ys:=xs.map rJ) rfl
 rw[show Txt.join " + " (xs.map rJ)=Str.join " + " (xs.map rJ) by simpa using e]
 have l3:(" + " :Str).length=3:=by decide+kernel
 have key:∀ys:List Str,(∀y∈ys,y.length≤100)→(Str.join " + " ys).length≤103*ys.length:=by
  intro ys
  induction ys with
  |nil=>intro _;exact Nat.zero_le _
  |cons y r ih=>
   intro h
   have h1:=h y (List.mem_cons_self ..)
   have h2:=ih fun z hz=>h z (List.mem_cons_of_mem _ hz)
   cases r with
   |nil=>
    show y.length≤103*1
    omega
   |cons z r'=>
    show (y++" + " ++Str.join " + " (z::r')).length≤_
    rw[bw,bw,l3,List.length_cons]
    omega
 have:=key (xs.map rJ) fun y hy=>by
  obtain⟨x,hx,rfl⟩:=List.mem_map.mp hy
  exact BE (Int.le_refl _) (aS x hx)
 rw[List.length_map] at this
 omega
variable {uC uP uI uD uL uT:Tok}
theorem rK (c:Int):∀(d:Nat) (m:Int) (t:Tr),bp d (m*c) t=(bp d m t).map fun p=>(p.1,p.2*c)
 |d,m, .one k n=>by
  have e1:bp d (m*c) (.one k n)=[(⟨k.toArray⟩,n*(m*c))]:=by cases d<;>rfl
  have e2:bp d m (.one k n)=[(⟨k.toArray⟩,n*m)]:=by cases d<;>rfl
  rw[e1,e2,List.map_cons,List.map_nil,Int.mul_assoc]
 |0,_, .gr _ _=>rfl
 |d+1,m, .gr ts n=>by
  show ts.flatMap (bp d (n*(m*c)))=(ts.flatMap (bp d (n*m))).map _
  rw[List.map_flatMap,←Int.mul_assoc]
  congr 1
  funext t
  exact rK c d (n*m) t
theorem BI (t:Int) (acc:List (Key×V)) (as bs:List (Str×Int)):a8 t acc (as++bs)=a8 t (a8 t acc as) bs:=by
 unfold a8
 rw[List.foldl_append]
theorem Gg (t:Int) {acc:List (Key×V)} (hI:bu acc) (hn:(acc.map (·.1)).Nodup) (d:Nat) (x:Tr):
  iP t acc (a8 1 [] (bp d 1 x)) (a8 1 [] (bp d 1 x))=a8 1 acc (bp d t x):=by
 have e:=rK t d 1 x
 rw[Int.one_mul] at e
 rw[wc t 1 (bp d 1 x) hI hn,Int.one_mul,e,pZ]
theorem Gh:bu []:=fun p hp=>by cases hp
theorem mul_int (c:Int) (all:List (Key×V)):∀(l acc:List (Key×V)),bu acc→bu (iP c acc l all)
 | [],_,h=>h
 |_::r,_,h=>mul_int c all r _ (h.add _ _)
theorem wB (c:Int) (all:List (Key×V)):∀(l acc:List (Key×V)),(iP c acc l all).length≤acc.length+l.length
 | [],_=>Nat.le_refl _
 |p::r,acc=>by
  have h1:=wB c all r (b8 acc p.1 (aO all p.1*c))
  have h2:(b8 acc p.1 (aO all p.1*c)).length≤acc.length+1:=bY _ _ _
  show (iP c (b8 acc p.1 (aO all p.1*c)) r all).length≤_
  rw[List.length_cons]
  omega
theorem kH {n:Nat} (h:n≤1000):n<sizeLine:=Nat.lt_of_le_of_lt h (by decide)
theorem jj {H:Hp} {d e:Addr} {A F B E:HO} (og:d≠e) (he:H e=some E):upd (upd (upd (upd H d A) e F) d B) e E=upd H d B:=by
 funext b
 by_cases h1:b=e
 ·subst h1
  rw[af,ah (Ne.symm og),he]
 ·rw[ah h1]
  by_cases h2:b=d
  ·subst h2
   rw[af,af]
  ·rw[ah h2,ah h1,ah h2,ah h2]
theorem yt (c:Int) (all acc:List (Key×V)) {i:Nat} {p:Key×V} (h:all[i]? =some p):iP c acc (all.take (i+1)) all=b8 (iP c acc (all.take i) all) p.1 (aO all p.1*c):=by
 unfold iP
 rw[take_snoc h,List.foldl_append]
 rfl
theorem rL {X:Cx} {D:Ends} {l d e:Addr} {t:Int} {v3 v5:Option V} {H:Hp} {acc gk:List (Key×V)} (hu:X.A.units+1<cLine) (hd:H d=some (.dK acc)) (he:H e=some (.dK gk)) (og:d≠e) (hI:bu acc) (Rz:bu gk) (hl:acc.length+gk.length≤1000) (t1:1≤t) (t2:t≤999)
  (fin:∀z:Option V,D.nx [some (.ref l),some (.int t),some (.ref d),v3,some (.ref e),z] (upd H d (.dK (iP t acc gk gk)))):
  E1 X (Mw (EZ X (jY 4)) (du 5) (ES (jY 2) (jY 5) (Mx (Ic fun i j=> .int (i+j)) (zO (jY 2) (jY 5) (tC (.int 0))) (Mx (rI IB fun i j=> .int (i*j)) (EO (jY 4) (jY 5)) (jY 1))))) D [some (.ref l),some (.int t),some (.ref d),v3,some (.ref e),v5] H:=by
 refine⟨_,rfl,e,gk,rfl,he,fun o nf=>dA nf (fun j σ H'=>∃z:Option V,σ=[some (.ref l),some (.int t),some (.ref d),v3,some (.ref e),z]∧H'=upd H d (.dK (iP t acc (gk.take j) gk))) ?_ ?_ ?_ ?_⟩
 ·exact⟨v5,rfl,(eC hd).symm⟩
 ·rintro i σ H' ⟨_,_,rfl⟩
  rw[ah (Ne.symm og)]
  exact he
 ·rintro i k v σ H' hi ⟨z,rfl,rfl⟩
  have oY:∀o',(upd (upd H d (.dK (iP t acc (gk.take i) gk))) e o') d=some (.dK (iP t acc (gk.take i) gk)):=fun o'=>by rw[ah og];exact af
  have hv:=Rz.dM (List.mem_of_getElem? hi)
  have Gi:bu (iP t acc (gk.take i) gk):=mul_int t gk _ _ hI
  have hli:=wB t gk (gk.take i) acc
  have JX:(gk.take i).length≤gk.length:=List.length_take_le' _ _
  refine⟨_,rfl,d,rfl, .inl ⟨_, .inl (oY _)⟩,_,rfl,_,f9.k (k:=k) (oY _),_,rfl,_,rfl,e,V.int (aO gk k),rfl, .inl ⟨_,k, .inr ⟨o,af⟩,rfl,hv.symm⟩,_,rfl,_,_,rfl,rfl, .inr ⟨by omega,by omega⟩,_,_,Gi.at k,rfl,_,rfl,_,rfl,d,_,rfl,i0.k (k:=k) (oY _) (kH ?_),?_⟩
  ·omega
  ·refine⟨by rw[ah (Ne.symm og)];exact af,some (kV k),rfl,?_⟩
   rw[jj og he,yt t gk acc hi]
   rfl
 ·rintro σ H' ⟨z,rfl,rfl⟩
  rw[List.take_length]
  exact fin z
theorem dF:ax ["parts","times","total","part","inner","kind"] ["parts","times"] (aj jc):=⟨rfl,rfl,rfl,by decide+kernel,rfl,by decide+kernel,by decide+kernel⟩
theorem Gj:ax ["self"] ["self"] (aj pO):=⟨rfl,rfl,rfl,by decide+kernel,rfl,by decide+kernel,by decide+kernel⟩
theorem DF (D:a9 K C "counts" "Atom.counts" pO ["self"]) (T:oo K mg C):aJ P w K mg base 1 C "counts" ["self"] (qY C):=by
 refine D.di Gj (fun vs H Q E h=>?_) (fun f bA A outer s H vs Q E hr h=>?_)
 ·obtain⟨p,k,n,rfl,_⟩:=h
  rfl
 ·obtain⟨p,k,n,rfl,⟨dx,hp⟩,q⟩:=h
  refine⟨_,(ao
     (aD (vf (qz (a0 (pv 0) rfl) (a0 (pv 0) rfl) ve) rfl rfl (by intro z;cases z) (by decide)))),?_⟩
  intro d hd
  have xT:∀o,(upd H d o) p=some (.ins C dx (vR k n)):=fun o=>by rw[ah (ag hp hd)];exact hp
  refine⟨_,rfl,p,C,dx,_,_,rfl,xT _,T.gq,T.vX,tL _ _,_,rfl,p,C,dx,_,_,rfl,xT _,T.gq,T.qZ,qW _ _,af,[(Sum.inr k, .int n)],rfl,(by show 1≤15;decide),?_⟩
  rw[kD]
  exact q d hd
def lY (C G:Addr):Nat→Sp
 |0=>fun _ _ _ _=>False
 |d+1=>fun vs H Q _=>∃(g:Addr) (ts:List Tr) (n:Int),vs=[.ref g]∧eM C G (d+1) H g (.gr ts n)∧tV (d+1) (.gr ts n)∧(bp (d+1) 1 (.gr ts n)).length≤400∧∀e H',H e=none→H' e=some (.dK (a8 1 [] (bp (d+1) 1 (.gr ts n))))→au H H'→Q (.ref e) H'
def jH (C G:Addr) (d:Nat):Sp:=fun vs H Q _=>∃(l:Addr) (ps:List Addr) (ts:List Tr) (t:Int),vs=[.ref l, .int t]∧H l=some (.lst (ps.map V.ref))∧Paired (eM C G d H) ps ts∧(∀x∈ts,tV d x)∧1≤t∧t≤999∧(ts.flatMap (bp d t)).length≤400∧
 ∀e H',H e=none→H' e=some (.dK (a8 1 [] (ts.flatMap (bp d t))))→au H H'→Q (.ref e) H'
theorem DG (d:Nat) (t:Int) (x:Tr):(bp d t x).length=(bp d 1 x).length:=by
 have e:=rK t d 1 x
 rw[Int.one_mul] at e
 rw[e,List.length_map]
theorem wC {d:Nat} {t:Int} {ts:List Tr} {x:Tr} (h:x∈ts):(bp d 1 x).length≤(ts.flatMap (bp d t)).length:=by
 rw[←DG d t x]
 obtain⟨as,bs,rfl⟩:=List.append_of_mem h
 rw[List.flatMap_append,List.flatMap_cons,List.length_append,List.length_append]
 omega
theorem JY (k:Str) (n:Int):a8 1 [] [(k,n*1)]=[(Sum.inr k, .int n)]:=by
 show putK [] (Sum.inr k) (.int (aO [] (Sum.inr k)+n*1*1))=_
 rw[show aO [] (Sum.inr k:Key)=0 from rfl,Int.zero_add,Int.mul_one,Int.mul_one]
 rfl
theorem sJ {d:Nat} {t:Int} (ts:List Tr) (i:Nat):((ts.take i).flatMap (bp d t)).length≤(ts.flatMap (bp d t)).length:=by
 conv=>rhs;rw[←List.take_append_drop i ts,List.flatMap_append,List.length_append]
 omega
theorem iH (l:List (Str×Int)):((a8 1 [] l).map (·.1)).Nodup:=vT 1 l [] List.nodup_nil
theorem cC (l:List (Str×Int)):bu (a8 1 [] l):=iB 1 l [] Gh
theorem dC (l:List (Str×Int)):(a8 1 [] l).length≤l.length:=by
 have:=iC 1 l []
 rw[List.length_nil] at this
 omega
theorem pe (d:Nat) (D:Def K mg "parts_counts" "parts_counts" jc ["parts","times"]) (T:ri K mg C R G uK uN uB uE uM) (c1:aJ P w K mg base 1 C "counts" ["self"] (qY C)) (c2:aJ P w K mg base (2*d+1) G "counts" ["self"] (lY C G d)):bg P w K mg base (2*d+2) "parts_counts" ["parts","times"] (jH C G d):=by
 obtain⟨_,_,iU⟩:=c1
 obtain⟨_,_,g8⟩:=c2
 refine D.di dF (fun vs H Q E h=>?_) (fun f bA A outer s H vs Q E hr h=>?_)
 ·obtain⟨l,ps,ts,t,rfl,_⟩:=h
  rfl
 ·obtain⟨l,ps,ts,t,rfl,hl,hP,aS,t1,t2,hz,q⟩:=h
  have hu:=dz hr
  have lp:ps.length=ts.length:=Paired.length hP
  refine⟨_,(ai
     (aB (i:=2) dF.nd rfl (Or.inl rfl) dw)
    (ai
     (bW PassesOwn.never rfl (cN (pv 0)) (aG (i:=3) dF.nd rfl (Or.inl rfl))
      (ai
       (aB (i:=4) dF.nd rfl (Or.inl rfl) (E5 (aN (pv 3) T.gq iU.m iU.ok (hr.mono (by omega)) iU.b .nil ay) (aN (pv 3) T.eI g8.m g8.ok (hr.mono (by omega)) g8.b .nil ay)))
      (ao
       (dI (bW PassesOwn.never rfl (cR (pv 4)) (aG (i:=5) dF.nd rfl (Or.inl rfl))
        (ao
         (cQ hu (pv 2) (pv 5) (aE cf (bR hu (pv 2) (pv 5) aq ⟨rfl,rfl,rfl,rfl⟩) (aE gT (b6 hu (pv 4) (pv 5) (fun _ _=>rfl)) (pv 1))) rfl)))))))
    (ao
     (aD (pv 2))))),?_⟩
  intro e0 pA
  refine⟨_,rfl,l,rfl,⟨_,b5.of (au.new pA _ _ hl)⟩,fb (K:=K) (a:=l) (xs:=ps.map V.ref) (fun i σ H'=>∃v u z:Option V,σ=[some (.ref l),some (.int t),some (.ref e0),v,u,z]∧au H H'∧H' e0=some (.dK (a8 1 [] ((ts.take i).flatMap (bp d t))))) ?_ (fun i σ H' _ ⟨_,_,_,_,e,_⟩=>b5.of (e _ _ hl)) ?_ ?_⟩
  ·exact⟨none,none,none,rfl,au.new pA,af⟩
  ·rintro i v σ H' hi ⟨v',u,z,rfl,e,fK⟩
   rw[List.getElem?_map] at hi
   obtain⟨p,hp,rfl⟩:∃p,ps[i]? =some p∧v=V.ref p:=by
    cases hh:ps[i]? with
    |none=>rw[hh] at hi;cases hi
    |some p=>rw[hh] at hi;exact⟨p,rfl,(Option.some.inj hi).symm⟩
   obtain⟨x,hx,hT⟩:=bI hP hp
   have hT:=hT.same e
   have md:=aS x (List.mem_of_getElem? hx)
   have lx:=Nat.le_trans (wC (d:=d) (t:=t) (List.mem_of_getElem? hx)) hz
   have li:=Nat.le_trans (sJ (d:=d) (t:=t) ts i) hz
   have j6:a8 1 [] ((ts.take (i+1)).flatMap (bp d t))=iP t (a8 1 [] ((ts.take i).flatMap (bp d t))) (a8 1 [] (bp d 1 x)) (a8 1 [] (bp d 1 x)):=by
    rw[Gg t (cC _) (iH _),take_snoc hx,List.flatMap_append,List.flatMap_cons,List.flatMap_nil,List.append_nil,BI]
   have hlen:(a8 1 [] ((ts.take i).flatMap (bp d t))).length+(a8 1 [] (bp d 1 x)).length≤1000:=by
    have:=dC ((ts.take i).flatMap (bp d t))
    have:=dC (bp d 1 x)
    omega
   cases x with
   |one k n=>
    have Lq:lS k∧1≤n∧n≤999:=by cases d<;>exact md
    have hA:gm C H' p ⟨k.toArray⟩ n:=by cases d<;>exact hT
    have ef:bp d 1 (.one k n)=[(⟨k.toArray⟩,n*1)]:=by cases d<;>rfl
    rw[ef,JY] at j6 hlen
    obtain⟨dx,xT⟩:=id hA
    refine Or.inl ⟨_,rfl,p,dx,_,rfl,xT,Bl _ _ (by decide+kernel) (by decide+kernel),p,_,n,rfl,hA,fun b hb=>?_⟩
    have nb:e0≠b:=ag fK hb
    refine rL hu (by rw[ah nb];exact fK) af nb (cC _) (fun q hq=>⟨n,by rw[List.mem_singleton.mp hq]⟩) hlen t1 t2 fun z'=>⟨_,_,_,rfl,fun b' o w'=>?_,?_⟩
    ·rw[ah (ag w' pA),ah (ag (e _ _ w') hb)]
     exact e _ _ w'
    ·rw[af,j6]
   |gr us n=>
    cases d with
    |zero=>exact md.elim
    |succ d=>
     obtain⟨dx,l',PN,h1,h2,h3⟩:=id hT
     refine Or.inr ⟨_,rfl,p,dx,_,rfl,h1,mQ _ _ (by decide+kernel) (by decide+kernel),p,us,n,rfl,hT,md,lx,fun b cz nb hb e'=>?_⟩
     refine rL hu (e' _ _ fK) hb (ag fK nb) (cC _) (cC _) hlen t1 t2 fun z'=>⟨_,_,_,rfl,fun b' o w'=>?_,?_⟩
     ·rw[ah (ag w' pA)]
      exact e' _ _ (e _ _ w')
     ·rw[af,j6]
  ·rintro σ H' ⟨v,u,z,rfl,e,fK⟩
   rw[List.length_map,lp,List.take_length] at fK
   exact⟨_,rfl,q e0 H' pA fK e⟩
theorem uo:ax ["self"] ["self"] (aj je):=⟨rfl,rfl,rfl,by decide+kernel,rfl,by decide+kernel,by decide+kernel⟩
theorem yu (D:a9 K G "counts" "Group.counts" je ["self"]):aJ P w K mg base 1 G "counts" ["self"] (lY C G 0):=
 D.di (k:=0) uo (fun vs H Q E h=>h.elim) (fun f bA A outer s H vs Q E hr h=>h.elim)
theorem yv (d:Nat) (D:a9 K G "counts" "Group.counts" je ["self"]) (T:ri K mg C R G uK uN uB uE uM) (c1:bg P w K mg base (2*d+2) "parts_counts" ["parts","times"] (jH C G d)):aJ P w K mg base (2*d+3) G "counts" ["self"] (lY C G (d+1)):=by
 obtain⟨_,_,bb⟩:=c1
 refine D.di uo (fun vs H Q E h=>?_) (fun f bA A outer s H vs Q E hr h=>?_)
 ·obtain⟨g,ts,n,rfl,_⟩:=h
  rfl
 ·obtain⟨g,ts,n,rfl,⟨dx,l,ps,h1,h2,h3⟩,⟨ne,aS,n1,n2⟩,hz,q⟩:=h
  have e:bp (d+1) 1 (.gr ts n)=ts.flatMap (bp d n):=by
   show ts.flatMap (bp d (n*1))=_
   rw[Int.mul_one]
  rw[e] at hz q
  refine⟨_,(ao
     (aD (aH bb.ok (hr.mono (by omega)) rfl bb.g bb.kp bb.b .nil ay (aa (a0 (pv 0) rfl) (aa (a0 (pv 0) rfl) ak))))),?_⟩
  exact⟨_,rfl,g,G,dx,_,_,rfl,h1,T.eI,T.ou,iD _ _,_,rfl,g,G,dx,_,_,rfl,h1,T.eI,T.ow,iE _ _,l,ps,ts,n,rfl,h2,h3,aS,n1,n2,hz,q⟩
theorem rM (D1:Def K mg "parts_counts" "parts_counts" jc ["parts","times"]) (D2:a9 K G "counts" "Group.counts" je ["self"]) (T:ri K mg C R G uK uN uB uE uM) (c1:aJ P w K mg base 1 C "counts" ["self"] (qY C)):∀d:Nat,bg P w K mg base (2*d+2) "parts_counts" ["parts","times"] (jH C G d)
 |0=>pe 0 D1 T c1 (yu D2)
 |d+1=>pe (d+1) D1 T c1 (yv d D2 T (rM D1 D2 T c1 d))
def ku (C G Pc:Addr) (d:Nat):Sp:=fun vs H Q _=>∃(q:Addr) (x:jV),vs=[.ref q]∧jC C G Pc d H q x∧Fl d x∧(cA d x).length≤400∧∀e H',H e=none→H' e=some (.dK (a8 1 [] (cA d x)))→au H H'→Q (.ref e) H'
theorem sM:ax ["self"] ["self"] (aj gG):=⟨rfl,rfl,rfl,by decide+kernel,rfl,by decide+kernel,by decide+kernel⟩
theorem pB (d:Nat) (D:a9 K Pc "counts" "Piece.counts" gG ["self"]) (T:lC K mg C R G Pc Fo uK uN uB uE uM uC uP uI uD uL uT) (c1:bg P w K mg base (2*d+2) "parts_counts" ["parts","times"] (jH C G d)):aJ P w K mg base (2*d+3) Pc "counts" ["self"] (ku C G Pc d):=by
 obtain⟨_,_,bb⟩:=c1
 refine D.di sM (fun vs H Q E h=>?_) (fun f bA A outer s H vs Q E hr h=>?_)
 ·obtain⟨q,x,rfl,_⟩:=h
  rfl
 ·obtain⟨g,x,rfl,⟨dx,l,ps,h1,h2,h3⟩,⟨ne,aS,n1,n2⟩,hz,q⟩:=h
  refine⟨_,(ao
     (aD (aH bb.ok (hr.mono (by omega)) rfl bb.g bb.kp bb.b .nil ay (aa (a0 (pv 0) rfl) (aa (a0 (pv 0) rfl) ak))))),?_⟩
  exact⟨_,rfl,g,Pc,dx,_,_,rfl,h1,T.dn,T.oB,iD _ _,_,rfl,g,Pc,dx,_,_,rfl,h1,T.dn,T.oC,iE _ _,l,ps,x.2,x.1,rfl,h2,h3,aS,n1,n2,hz,q⟩
def rN (C G Pc:Addr) (d:Nat):Sp:=fun vs H Q _=>∃(l:Addr) (ps:List Addr) (xs:List jV),vs=[.ref l, .int 1]∧H l=some (.lst (ps.map V.ref))∧Paired (jC C G Pc d H) ps xs∧(∀x∈xs,Fl d x)∧(xs.flatMap (cA d)).length≤400∧
 ∀e H',H e=none→H' e=some (.dK (cW d xs))→au H H'→Q (.ref e) H'
theorem yw (d:Nat) (D:Def K mg "parts_counts" "parts_counts" jc ["parts","times"]) (T:lC K mg C R G Pc Fo uK uN uB uE uM uC uP uI uD uL uT) (c1:aJ P w K mg base (2*d+3) Pc "counts" ["self"] (ku C G Pc d)):bg P w K mg base (2*d+4) "parts_counts" ["parts","times"] (rN C G Pc d):=by
 obtain⟨_,_,g9⟩:=c1
 refine D.di dF (fun vs H Q E h=>?_) (fun f bA A outer s H vs Q E hr h=>?_)
 ·obtain⟨l,ps,xs,rfl,_⟩:=h
  rfl
 ·obtain⟨l,ps,xs,rfl,hl,hP,aS,hz,q⟩:=h
  have hu:=dz hr
  have lp:ps.length=xs.length:=Paired.length hP
  refine⟨_,(ai
     (aB (i:=2) dF.nd rfl (Or.inl rfl) dw)
    (ai
     (bW PassesOwn.never rfl (cN (pv 0)) (aG (i:=3) dF.nd rfl (Or.inl rfl))
      (ai
       (aB (i:=4) dF.nd rfl (Or.inl rfl) (aN (pv 3) T.dn g9.m g9.ok (hr.mono (by omega)) g9.b .nil ay))
      (ao
       (dI (bW PassesOwn.never rfl (cR (pv 4)) (aG (i:=5) dF.nd rfl (Or.inl rfl))
        (ao
         (cQ hu (pv 2) (pv 5) (aE cf (bR hu (pv 2) (pv 5) aq ⟨rfl,rfl,rfl,rfl⟩) (aE gT (b6 hu (pv 4) (pv 5) (fun _ _=>rfl)) (pv 1))) rfl)))))))
    (ao
     (aD (pv 2))))),?_⟩
  intro e0 pA
  refine⟨_,rfl,l,rfl,⟨_,b5.of (au.new pA _ _ hl)⟩,fb (K:=K) (a:=l) (xs:=ps.map V.ref) (fun i σ H'=>∃v u z:Option V,σ=[some (.ref l),some (.int 1),some (.ref e0),v,u,z]∧au H H'∧H' e0=some (.dK (cW d (xs.take i)))) ?_ (fun i σ H' _ ⟨_,_,_,_,e,_⟩=>b5.of (e _ _ hl)) ?_ ?_⟩
  ·exact⟨none,none,none,rfl,au.new pA,af⟩
  ·rintro i v σ H' hi ⟨v',u,z,rfl,e,fK⟩
   rw[List.getElem?_map] at hi
   obtain⟨p,hp,rfl⟩:∃p,ps[i]? =some p∧v=V.ref p:=by
    cases hh:ps[i]? with
    |none=>rw[hh] at hi;cases hi
    |some p=>rw[hh] at hi;exact⟨p,rfl,(Option.some.inj hi).symm⟩
   obtain⟨x,hx,hT⟩:=bI hP hp
   have hT:=hT.same e
   have md:=aS x (List.mem_of_getElem? hx)
   have lx:(cA d x).length≤400:=by
    refine Nat.le_trans ?_ hz
    obtain⟨as,bs,rfl⟩:=List.append_of_mem (List.mem_of_getElem? hx)
    rw[List.flatMap_append,List.flatMap_cons,List.length_append,List.length_append]
    omega
   have li:((xs.take i).flatMap (cA d)).length≤400:=by
    refine Nat.le_trans ?_ hz
    conv=>rhs;rw[←List.take_append_drop i xs,List.flatMap_append,List.length_append]
    omega
   have j6:cW d (xs.take (i+1))=iP 1 (cW d (xs.take i)) (a8 1 [] (cA d x)) (a8 1 [] (cA d x)):=by
    unfold cW
    rw[wc 1 1 (cA d x) (cC _) (iH _),take_snoc hx,List.flatMap_append,List.flatMap_cons,List.flatMap_nil,List.append_nil,BI]
    rfl
   obtain⟨dx,l',PN,h1,h2,h3⟩:=id hT
   refine⟨_,rfl,p,dx,_,rfl,h1,mQ _ _ (by decide+kernel) (by decide+kernel),p,x,rfl,hT,md,lx,fun b cz nb hb e'=>?_⟩
   refine rL hu (e' _ _ fK) hb (ag fK nb) (cC _) (cC _) ?_ (by decide) (by decide) fun z'=>⟨_,_,_,rfl,fun b' o w'=>?_,?_⟩
   ·have z1:(cW d (xs.take i)).length≤((xs.take i).flatMap (cA d)).length:=dC ((xs.take i).flatMap (cA d))
    have z2:=dC (cA d x)
    omega
   ·rw[ah (ag w' pA)]
    exact e' _ _ (e _ _ w')
   ·rw[af,j6]
  ·rintro σ H' ⟨v,u,z,rfl,e,fK⟩
   rw[List.length_map,lp,List.take_length] at fK
   exact⟨_,rfl,q e0 H' pA fK e⟩
def lZ (C G Pc Fo:Addr) (d:Nat):Sp:=fun vs H Q _=>∃(f:Addr) (xs:List jV) (n:Int),vs=[.ref f]∧o7 C G Pc Fo d H f xs n∧JJ d xs n∧(xs.flatMap (cA d)).length≤400∧∀e H',H e=none→H' e=some (.dK (cW d xs))→au H H'→Q (.ref e) H'
theorem k7 {d:Nat} {xs:List jV} {n:Int} (h:JJ d xs n):∀x∈xs,Fl d x:=by
 cases xs with
 |nil=>intro x hx;cases hx
 |cons y r=>exact h.2.1
theorem DH:ax ["self"] ["self"] (aj mE):=⟨rfl,rfl,rfl,by decide+kernel,rfl,by decide+kernel,by decide+kernel⟩
theorem yx (d:Nat) (D:a9 K Fo "counts" "Formula.counts" mE ["self"]) (T:lC K mg C R G Pc Fo uK uN uB uE uM uC uP uI uD uL uT) (c1:bg P w K mg base (2*d+4) "parts_counts" ["parts","times"] (rN C G Pc d)):aJ P w K mg base (2*d+5) Fo "counts" ["self"] (lZ C G Pc Fo d):=by
 obtain⟨_,_,bb⟩:=c1
 refine D.di DH (fun vs H Q E h=>?_) (fun f bA A outer s H vs Q E hr h=>?_)
 ·obtain⟨f,xs,n,rfl,_⟩:=h
  rfl
 ·obtain⟨g,xs,n,rfl,⟨dx,l,ps,h1,h2,h3⟩,aS,hz,q⟩:=h
  refine⟨_,(ao
     (aD (aH bb.ok (hr.mono (by omega)) rfl bb.g bb.kp bb.b .nil ay (aa (a0 (pv 0) rfl) (aa aq ak))))),?_⟩
  exact⟨_,rfl,g,Fo,dx,_,_,rfl,h1,T.bO,T.jD,jB _ _,l,ps,xs,rfl,h2,h3,k7 aS,hz,q⟩
variable {uC uP uI uD uL uT eR eS eU uG uS:Tok} {Ch:Addr}
structure nu (K:PySem.W.Frag) (mg:Str→Option Value) (C R G Pc Fo Ch:Addr) (uK uN uB uE uM uC uP uI uD uL uT eR eS eU uG uS:Tok):Prop extends Gd K mg C R G Pc Fo Ch uK uN uB uE uM uC uP uI uD uL uT eR eS eU where
 kx:mg "LONGEST_TERM_COUNT" =some (.int 12 uG)
 rO:mg "ChangeReader" =some (.ref R)
 wD:mg "MOST_TERMS" =some (.int 8 uS)
def xS (n:Int):List Nat:=if n=1 then [] else [32]
def gL (x:Tm):List Nat:=aQ x.1++(xS x.1++fL x.2)
def Zr (C G Pc Fo:Addr) (H H':Hp) (t:Addr) (x:Tm):Prop:=∀cz,(∀b o,H b=none→H' b=some o→cz b=some o)→jG C G Pc Fo cz t x
def Lz (C G Pc Fo L:Addr) (H H':Hp) (t:Addr) (x:Tm):Prop:=∀cz,(∀b o,H b=none→b≠L→H' b=some o→cz b=some o)→jG C G Pc Fo cz t x
def LA (C G Pc Fo:Addr) (H H':Hp) (l:Addr) (xs:List Tm):Prop:=H l=none∧∃ps,H' l=some (.lst (ps.map V.ref))∧∀cz,(∀b o,H b=none→H' b=some o→cz b=some o)→Paired (jG C G Pc Fo cz) ps xs
abbrev fJ (x:Tm):Prop:=pz 999999999999 x
def wF (C G Pc Fo R:Addr):Sp:=fun vs H Q _=>∃(r:Addr) (x:Str) (p:Nat) (tm:Tm) (post:List Nat),vs=[.ref r]∧dk R H r x p∧Here x p (gL tm) post∧Es post∧fJ tm∧x.length≤1000∧
 ∀t H',H t=none→Zr C G Pc Fo H H' t tm→dk R H' r x (p+(gL tm).length)→Kept r H H'→Q (.ref t) H'
theorem e32:(" " :Str)=⟨#[32]⟩:=by decide+kernel
theorem NJ {x:Fm} (h:JJ 1 x.1 x.2) (post:List Nat):Not xw (fL x++post):=by
 obtain⟨xs,n⟩:=x
 cases xs with
 |nil=>
  intro c hc
  rw[show fL ([],n)=[101,94,45] from rfl] at hc
  have e:101=c:=by simpa using hc
  subst e
  rfl
 |cons x0 r0=>
  obtain⟨_,Dx,_⟩:=h
  have Nw:=Dx x0 (List.mem_cons_self ..)
  have e:fL (x0::r0,n)++post=x0.2.flatMap (cn 1)++(cX 1 r0++jh n++post):=by
   show x0.2.flatMap (cn 1)++(cX 1 r0++jh n)++post=_
   rw[List.append_assoc]
  rw[e]
  cases hx:x0.2 with
  |nil=>exact absurd hx Nw.1
  |cons t ts=>
   obtain⟨c,rest,hc,ht⟩:=oA (Nw.2.1 t (by rw[hx];exact List.mem_cons_self ..))
   intro b hb
   rw[List.flatMap_cons,hc] at hb
   have e:c=b:=by simpa using hb
   subst e
   rcases ht with ⟨hg,_⟩ | ⟨rfl,_⟩
   ·simp only [Eo,xw,Bool.and_eq_true,decide_eq_true_eq] at*
    simp
    omega
   ·rfl
theorem JZ {x:Tm} (h:JJ 1 x.2.1 x.2.2) (post:List Nat):Not xw (xS x.1++fL x.2++post):=by
 unfold xS
 split
 ·exact NJ h post
 ·intro c hc
  have e:32=c:=by simpa using hc
  subst e
  rfl
theorem LB {n:Int} (h1:1≤n) (h2:n≤999999999999):((aQ n).length:Int)≤12:=by
 obtain⟨m,rfl⟩:=Int.eq_ofNat_of_zero_le (show 0≤n by omega)
 have:=kT (n:=m) (k:=12) (by decide) (by omega)
 rw[de,bj] at this
 show ((aQ (m:Int)).length:Int)≤12
 omega
theorem BJ:ax ["self","count"] ["self"] (aj vJ):=⟨rfl,rfl,rfl,by decide+kernel,rfl,by decide+kernel,by decide+kernel⟩
theorem Gk (D:a9 K R "read_term" "ChangeReader.read_term" vJ ["self"]) (T:nu K mg C R G Pc Fo Ch uK uN uB uE uM uC uP uI uD uL uT eR eS eU uG uS) (c1:aJ P w K mg base 2 R "read_number" ["self","longest"] (q9 R)) (c2:aJ P w K mg base 2 R "take" ["self","sign"] (lR R)) (c3:aJ P w K mg base 10 R "read_whole" ["self"] (rA C G Pc Fo R 1)):
  aJ P w K mg base 11 R "read_term" ["self"] (wF C G Pc Fo R):=by
 obtain⟨_,_,bH⟩:=c1
 obtain⟨_,_,aF⟩:=c2
 obtain⟨_,_,bL⟩:=c3
 refine D.di BJ (fun vs H Q E h=>?_) (fun f bA A outer s H vs Q E hr h=>?_)
 ·obtain⟨r,x,p,tm,post,rfl,_⟩:=h
  rfl
 ·obtain⟨r,x,p,tm,post,rfl,⟨dx,hR⟩,hh,Ii,⟨n1,n2,RA⟩,hx,q⟩:=h
  refine⟨_,(ai
     (aB (i:=1) BJ.nd rfl (Or.inl rfl) (bU (pv 0) T.aw bH.m bH.ok (hr.mono (by decide)) bH.b .nil ay (aa (aX (v:= .int 12) rfl T.kx ⟨_,rfl⟩) ak)))
    (ai
     (bG (aP lF (pv 1) aq (aV _))
      (ao
       (bz (bU (pv 0) T.aw aF.m aF.ok (hr.mono (by decide)) aF.b .nil ay (aa (aX (v:= .str " ") rfl T.JV ⟨_,rfl⟩) ak))))
      aR)
    (ao
     (aD (bP (aa (pv 1) (aa (aN (pv 0) T.aw bL.m bL.ok (hr.mono (by decide)) bL.b .nil ay) ak))))))),?_⟩
  have Ah:Here x p (aQ tm.1) (xS tm.1++fL tm.2++post):=⟨hh.1,by rw[hh.2];unfold gL;rw[List.append_assoc]⟩
  have Nu:Here x (p+(aQ tm.1).length) (xS tm.1++fL tm.2) post:=Here.on hh
  have Ep:Here x (p+(aQ tm.1).length+(xS tm.1).length) (fL tm.2) post:=Here.on Nu
  refine⟨_,rfl,r,dx,_,rfl,hR,aI _ _ (by decide+kernel) (by decide+kernel),r,x,p,tm.1,12,_,rfl,⟨dx,hR⟩,Ah,n1,by omega,LB n1 n2,JZ RA.1 post,hx,fun H1 eF k1=>?_⟩
  obtain⟨nM,eF⟩:=eF
  dsimp only [du]
  refine iw (fun σ' H'=>σ'=[some (.ref r),some (.int tm.1)]∧dk R H' r x (p+(aQ tm.1).length+(xS tm.1).length)∧Kept r H H') (fun N hN=>?_) ?_
  ·refine⟨_,rfl,_,_,rfl,rfl,_,rfl,fG (fun e=>?_) fun e=>?_⟩
   ·have e:1<tm.1:=by simpa using e
    have eb:xS tm.1=[32]:=if_neg (by omega)
    rw[eb] at Nu hN
    refine⟨_,rfl,r,nM,_,rfl,eF,aI _ _ (by decide+kernel) (by decide+kernel),r,x,_,_,32,_,post,rfl,e32,⟨nM,eF⟩,Nu,hx,fun H2 ie k2=>hN _ _ ⟨rfl,ie,k1.trans k2⟩⟩
   ·have e:¬1<tm.1:=by simpa using e
    have eb:xS tm.1=[]:=if_pos (by omega)
    rw[eb] at hN
    exact hN _ _ ⟨rfl,⟨nM,eF⟩,k1⟩
  rintro σ' H2 ⟨rfl,⟨jU,ie⟩,k2⟩
  refine⟨_,rfl,_,rfl,r,jU,_,rfl,ie,aI _ _ (by decide+kernel) (by decide+kernel),r,x,_,tm.2.1,tm.2.2,post,rfl,⟨jU,ie⟩,Ep,Ii,RA.1,by decide,hx,fun f H3 nf hF ig k3=>⟨(by show 2≤sizeLine;decide),fun t ht=>?_⟩⟩
  obtain⟨wj,ig⟩:=ig
  have Zs:=k2.trans k3
  have st:=au.new (o:= .tup [.int tm.1, .ref f]) ht
  refine q t _ (a6 Zs ig ht) (fun cz ke=>⟨f,ke _ _ (a6 Zs ig ht) af,hF cz fun b o z1 z2=>ke b o (a6 k2 ie z1) (st _ _ z2)⟩) ⟨wj,?_⟩ (Zs.trans (Kept.of st))
  rw[st _ _ ig]
  have e:(gL tm).length=(aQ tm.1).length+((xS tm.1).length+(wL 1 tm.2.1 tm.2.2).length):=by
   unfold gL
   rw[List.length_append,List.length_append]
   rfl
  rw[e]
  congr 3
  omega
variable {uC uP uI uD uL uT eR eS eU uG uS:Tok} {Ch:Addr}
def Gm (x:Tm):List Nat:=[32,43,32]++gL x
def hV (xs:List Tm):List Nat:=xs.flatMap Gm
def sx:List Tm→List Nat
 | []=>[]
 |x::r=>gL x++hV r
def p7:List Nat:=[32,45,62,32]
def yy (C G Pc Fo R:Addr):Sp:=fun vs H Q _=>∃(r:Addr) (x:Str) (p:Nat) (xs:List Tm) (post:List Nat),vs=[.ref r]∧dk R H r x p∧Here x p (sx xs++p7) post∧xs≠[]∧(∀t∈xs,fJ t)∧x.length≤1000∧
 ∀l H',LA C G Pc Fo H H' l xs→dk R H' r x (p+(sx xs++p7).length)→Kept r H H'→Q (.ref l) H'
def uq (C G Pc Fo R:Addr):Sp:=fun vs H Q _=>∃(r:Addr) (x:Str) (p:Nat) (xs:List Tm),vs=[.ref r]∧dk R H r x p∧Here x p (sx xs) []∧xs≠[]∧(∀t∈xs,fJ t)∧x.length≤1000∧
 ∀l H',LA C G Pc Fo H H' l xs→Kept r H H'→(∃o,H' r=some o)→Q (.ref l) H'
theorem wG (xs:List Tm) {post:List Nat} (h:Es post):Es (hV xs++post):=by
 cases xs with
 |nil=>exact h
 |cons x r=>exact .inr ⟨_,rfl⟩
theorem wH (x:Tm):(Gm x).length=3+(gL x).length:=by
 unfold Gm
 rw[List.length_append]
 rfl
theorem wI:∀xs:List Tm,xs.length≤(hV xs).length
 | []=>Nat.zero_le _
 |x::r=>by
  have:=wI r
  have h:=wH x
  show r.length+1≤(Gm x++hV r).length
  rw[List.length_append]
  omega
theorem BK (xs:List Tm) (i:Nat):(hV (xs.take i)).length≤(hV xs).length:=by
 unfold hV
 conv=>rhs;rw[←List.take_append_drop i xs,List.flatMap_append,List.length_append]
 omega
theorem eJ:(" + " :Str).cps.toList=[32,43,32]:=by decide+kernel
theorem eJa:(" + " :Str).cps.all (· <128)=true:=by decide+kernel
theorem eJl:(" + " :Str).length=3:=by decide+kernel
theorem eA:(" -> " :Str).cps.toList=p7:=by decide+kernel
theorem eAa:(" -> " :Str).cps.all (· <128)=true:=by decide+kernel
theorem eAl:(" -> " :Str).length=4:=by decide+kernel
theorem DI (x:Str) {p:Nat} (hp:p+1≤x.length):Txt.slice x (some ((p:Int)+1)) (some ((p:Int)+2))=eL x (p+1):=by
 have:=tP x hp
 have e:(((p+1 :Nat):Int))+1=(p:Int)+2:=by omega
 rw[e] at this
 exact this
theorem yz:ax ["self","terms"] ["self"] (aj pP):=⟨rfl,rfl,rfl,by decide+kernel,rfl,by decide+kernel,by decide+kernel⟩
theorem DJ (D:a9 K R "read_lefts" "ChangeReader.read_lefts" pP ["self"]) (T:nu K mg C R G Pc Fo Ch uK uN uB uE uM uC uP uI uD uL uT eR eS eU uG uS) (c1:aJ P w K mg base 11 R "read_term" ["self"] (wF C G Pc Fo R)) (c2:aJ P w K mg base 3 R "take_all" ["self","signs"] (kX R)):
  aJ P w K mg base 12 R "read_lefts" ["self"] (yy C G Pc Fo R):=by
 obtain⟨_,_,aW⟩:=c1
 obtain⟨_,_,aU⟩:=c2
 refine D.di yz (fun vs H Q E h=>?_) (fun f bA A outer s H vs Q E hr h=>?_)
 ·obtain⟨r,x,p,xs,post,rfl,_⟩:=h
  rfl
 ·obtain⟨r,x,p,xs,post,rfl,⟨dx,hR⟩,hh,og,aS,hx,q⟩:=h
  have big:(2000 :Nat)≤sizeLine:=by decide
  obtain⟨x0,r0,rfl⟩:∃x0 r0,xs=x0::r0:=by
   cases xs with
   |nil=>exact absurd rfl og
   |cons a b=>exact⟨a,b,rfl⟩
  refine⟨_,(ai
     (aB (i:=1) yz.nd rfl (Or.inl rfl) (cD (aa (aN (pv 0) T.aw aW.m aW.ok (hr.mono (by decide)) aW.b .nil ay) ak)))
    (ai
     (iY PassesOwn.never (aP oX (ml vw (a0 (pv 0) rfl) (iq (aE cf (a0 (pv 0) rfl) aq)) (iq (aE cf (a0 (pv 0) rfl) aq))) (cE vi (aX (v:= .str " -> ") rfl T.BG ⟨_,rfl⟩) aq (fun _ _=>rfl)) (aV _))
      (ai
       (bz (bU (pv 0) T.aw aU.m aU.ok (hr.mono (by decide)) aU.b .nil ay (aa (aX (v:= .str " + ") rfl T.BF ⟨_,rfl⟩) ak)))
      (ao
       (bz (i' PySem.F.plainAttrs_list PySem.F.slot_list_append PySem.F.type_list_append dX (pv 1) (aa (aN (pv 0) T.aw aW.m aW.ok (hr.mono (by decide)) aW.b .nil ay) ak))))))
    (ai
     (bz (bU (pv 0) T.aw aU.m aU.ok (hr.mono (by decide)) aU.b .nil ay (aa (aX (v:= .str " -> ") rfl T.BG ⟨_,rfl⟩) ak)))
    (ao
     (aD (pv 1)))))),?_⟩
  have hw:Here x p (gL x0++(hV r0++p7)) post:=⟨hh.1,by rw[hh.2];show (gL x0++hV r0)++p7++post=_;simp only [List.append_assoc]⟩
  have FV:Here x p (gL x0) (hV r0++(p7++post)):=⟨hw.1,by rw[hw.2];simp only [List.append_assoc]⟩
  have hb:Here x (p+(gL x0).length) (hV r0++p7) post:=Here.on hw
  have Em:Here x (p+(gL x0).length) (hV r0) (p7++post):=⟨hb.1,by rw[hb.2];simp only [List.append_assoc]⟩
  have NK:Here x (p+(gL x0).length+(hV r0).length) p7 post:=Here.on hb
  have ea:Es (p7++post):= .inr ⟨_,rfl⟩
  refine⟨_,rfl,r,dx,_,rfl,hR,aI _ _ (by decide+kernel) (by decide+kernel),r,x,p,x0,_,rfl,⟨dx,hR⟩,FV,wG r0 ea,aS x0 (List.mem_cons_self ..),hx,fun t0 H1 nt0 hN eF k1=>⟨(by show 1≤sizeLine;decide),fun L hL=>?_⟩⟩
  obtain⟨nM,eF⟩:=eF
  have xx:H L=none:=a6 k1 eF hL
  have yj:L≠r:=fun z=>by rw[z,eF] at hL;cases hL
  have sL:au H1 (upd H1 L (.lst [V.ref t0])):=au.new hL
  refine⟨fun k σ H'=>∃i:Nat,k+i=r0.length∧σ=[some (.ref r),some (.ref L)]∧dk R H' r x (p+(gL x0).length+(hV (r0.take i)).length)∧Kept r H H'∧∃ps,H' L=some (.lst (ps.map V.ref))∧ps.length=i+1∧Paired (Lz C G Pc Fo L H H') ps (x0::r0.take i),⟨r0.length,0,by omega,rfl,⟨nM,sL _ _ eF⟩,k1.trans (Kept.of sL),[t0],af,rfl, .cons (fun cz ke=>hN cz fun b o z1 z2=>ke b o z1 (ag z2 hL) (sL _ _ z2)) .nil⟩,?_⟩
  rintro k σ H' ⟨i,hk,rfl,⟨dP,eh⟩,kk,ps,tZ,iO,hP⟩
  have hle:=NK.le
  have xW:=BK r0 i
  have Zg:=wI r0
  have a4:p7.length=4:=rfl
  refine⟨_,rfl,r,R,dP,_,_,rfl,eh,T.aw,T.jz,fS _ _,_,rfl,r,R,dP,_,_,rfl,eh,T.aw,T.cx,bB _ _,_,_,rfl,rfl,_,rfl,_,rfl,r,R,dP,_,_,rfl,eh,T.aw,T.cx,bB _ _,_,_,rfl,rfl,_,rfl,x,rfl,by omega," -> ",1,45,rfl,rfl,(by decide+kernel),(by decide+kernel),rfl,_,rfl,?_⟩
  rw[DI x (by omega)]
  by_cases hi:i<r0.length
  ·have h2:Here x (p+(gL x0).length+(hV (r0.take i)).length) (Gm r0[i]) (hV (r0.drop (i+1))++(p7++post)):=wq Gm Em hi
   have JK:=aS _ (List.mem_cons_of_mem _ (List.getElem_mem hi))
   have h3:Here x (p+(gL x0).length+(hV (r0.take i)).length) [32,43,32] (gL r0[i]++(hV (r0.drop (i+1))++(p7++post))):=⟨h2.1,by rw[h2.2];rfl⟩
   have h4:Here x (p+(gL x0).length+(hV (r0.take i)).length+3) (gL r0[i]) (hV (r0.drop (i+1))++(p7++post)):=Here.on (t:=[32,43,32]) h2
   have h5:eL x (p+(gL x0).length+(hV (r0.take i)).length+1)=⟨#[43]⟩:=(Here.on (t:=[32]) (u:=[43,32]) h3).sg
   rw[h5,decide_eq_false (pY (by decide))]
   refine ik ⟨_,fun σ' cz h=>⟨k - 1,by omega,h⟩,?_⟩
   refine⟨_,rfl,r,dP,_,rfl,eh,aI _ _ (by decide+kernel) (by decide+kernel),r,x,_,_,_,rfl,eJa,⟨dP,eh⟩,(by rw[eJ];exact h3),hx,fun H3 ig k3=>?_⟩
   rw[eJl] at ig
   obtain⟨wj,ig⟩:=ig
   have ni:=k3 _ _ tZ yj
   have Zt:=kk.trans k3
   refine⟨_,rfl, .inl ⟨rfl,_,b5.of ni⟩,_,rfl,r,wj,_,rfl,ig,aI _ _ (by decide+kernel) (by decide+kernel),r,x,_,r0[i],_,rfl,⟨wj,ig⟩,h4,wG _ ea,JK,hx,fun t H4 nt Zu tW k4=>?_⟩
   obtain⟨Er,tW⟩:=tW
   have Bw:=k4 _ _ ni yj
   have JL:=k3.trans k4
   refine⟨L,_,_,rfl,rfl,Bw,by rw[List.length_map];omega,i+1,by omega,rfl,⟨Er,?_⟩,fun b o z w=>?_,ps++[t],by rw[af,List.map_append];rfl,by rw[List.length_append,iO];rfl,?_⟩
   ·rw[ah (Ne.symm yj),tW]
    have e:=wu Gm hi
    have e':(hV (r0.take (i+1))).length=(hV (r0.take i)).length+(3+(gL r0[i]).length):=by
     unfold hV
     rw[e,List.length_append,wH]
    rw[e']
    congr 3
    omega
   ·rw[ah (ag z xx)]
    exact JL _ _ (kk _ _ z w) w
   ·rw[List.take_add_one,List.getElem?_eq_getElem hi]
    refine bS (as:=ps) (bs:=x0::r0.take i) (fun cz ke=>Zu cz fun b o z1 z2=>?_) (aK (fun c t h cz ke=>h cz fun b o z1 z2 z3=>ke b o z1 z2 ?_) hP)
    ·have Bt:b≠L:=fun z=>by rw[z,ni] at z1;cases z1
     exact ke b o (a6 Zt ig z1) Bt (by rw[ah Bt];exact z2)
    ·have zw:b≠r:=fun z=>by rw[z,hR] at z1;cases z1
     rw[ah z2]
     exact JL _ _ z3 zw
  ·have ei:i=r0.length:=by omega
   rw[ei,List.take_length] at eh hP ⊢
   have h5:eL x (p+(gL x0).length+(hV r0).length+1)=⟨#[45]⟩:=(Here.on (t:=[32]) (u:=[45,62,32]) NK).sg
   rw[h5,decide_eq_true rfl]
   refine cH ?_
   refine⟨_,rfl,r,dP,_,rfl,eh,aI _ _ (by decide+kernel) (by decide+kernel),r,x,_,_,post,rfl,eAa,⟨dP,eh⟩,(by rw[eA];exact NK),hx,fun H3 ig k3=>?_⟩
   rw[eAl] at ig
   have ni:=k3 _ _ tZ yj
   have el:p+(gL x0).length+(hV r0).length+4=p+(sx (x0::r0)++p7).length:=by
    rw[List.length_append]
    show _=p+((gL x0++hV r0).length+4)
    rw[List.length_append]
    omega
   rw[el] at ig
   refine⟨_,rfl,q L H3 ⟨xx,ps,ni,fun cz ke=>aK (fun c t h=>h cz fun b o z1 z2 z3=>ke b o z1 ?_) hP⟩ ig (kk.trans k3)⟩
   have zw:b≠r:=fun z=>by rw[z,hR] at z1;cases z1
   exact k3 _ _ z3 zw
variable {uC uP uI uD uL uT eR eS eU uG uS:Tok} {Ch:Addr}
theorem ur:ax ["self","terms"] ["self"] (aj mJ):=⟨rfl,rfl,rfl,by decide+kernel,rfl,by decide+kernel,by decide+kernel⟩
theorem Av (D:a9 K R "read_rights" "ChangeReader.read_rights" mJ ["self"]) (T:nu K mg C R G Pc Fo Ch uK uN uB uE uM uC uP uI uD uL uT eR eS eU uG uS) (c1:aJ P w K mg base 11 R "read_term" ["self"] (wF C G Pc Fo R)) (c2:aJ P w K mg base 3 R "take_all" ["self","signs"] (kX R)):
  aJ P w K mg base 12 R "read_rights" ["self"] (uq C G Pc Fo R):=by
 obtain⟨_,_,aW⟩:=c1
 obtain⟨_,_,aU⟩:=c2
 refine D.di ur (fun vs H Q E h=>?_) (fun f bA A outer s H vs Q E hr h=>?_)
 ·obtain⟨r,x,p,xs,rfl,_⟩:=h
  rfl
 ·obtain⟨r,x,p,xs,rfl,⟨dx,hR⟩,hh,og,aS,hx,q⟩:=h
  have big:(2000 :Nat)≤sizeLine:=by decide
  obtain⟨x0,r0,rfl⟩:∃x0 r0,xs=x0::r0:=by
   cases xs with
   |nil=>exact absurd rfl og
   |cons a b=>exact⟨a,b,rfl⟩
  refine⟨_,(ai
     (aB (i:=1) ur.nd rfl (Or.inl rfl) (cD (aa (aN (pv 0) T.aw aW.m aW.ok (hr.mono (by decide)) aW.b .nil ay) ak)))
    (ai
     (iY PassesOwn.never (aP mh (a0 (pv 0) rfl) (br jt rfl T.oZ j7 (aa (a0 (pv 0) rfl) ak)) (aV _))
      (ai
       (bz (bU (pv 0) T.aw aU.m aU.ok (hr.mono (by decide)) aU.b .nil ay (aa (aX (v:= .str " + ") rfl T.BF ⟨_,rfl⟩) ak)))
      (ao
       (bz (i' PySem.F.plainAttrs_list PySem.F.slot_list_append PySem.F.type_list_append dX (pv 1) (aa (aN (pv 0) T.aw aW.m aW.ok (hr.mono (by decide)) aW.b .nil ay) ak))))))
    (ao
     (aD (pv 1))))),?_⟩
  have hw:Here x p (gL x0++hV r0) []:=hh
  have FV:Here x p (gL x0) (hV r0++[]):=⟨hw.1,by rw[hw.2];simp only [List.append_assoc]⟩
  have Em:Here x (p+(gL x0).length) (hV r0) []:=Here.on hw
  have rC:x.length=p+(gL x0).length+(hV r0).length:=by
   have:=congrArg List.length hw.2
   have h1:=hw.1
   have hl:x.cps.toList.length=x.length:=by simp [Str.length]
   rw[List.length_drop,List.length_append,List.length_append,hl] at this
   simp at this
   omega
  have ea:Es []:= .inl rfl
  refine⟨_,rfl,r,dx,_,rfl,hR,aI _ _ (by decide+kernel) (by decide+kernel),r,x,p,x0,_,rfl,⟨dx,hR⟩,FV,wG r0 ea,aS x0 (List.mem_cons_self ..),hx,fun t0 H1 nt0 hN eF k1=>⟨(by show 1≤sizeLine;decide),fun L hL=>?_⟩⟩
  obtain⟨nM,eF⟩:=eF
  have xx:H L=none:=a6 k1 eF hL
  have yj:L≠r:=fun z=>by rw[z,eF] at hL;cases hL
  have sL:au H1 (upd H1 L (.lst [V.ref t0])):=au.new hL
  refine⟨fun k σ H'=>∃i:Nat,k+i=r0.length∧σ=[some (.ref r),some (.ref L)]∧dk R H' r x (p+(gL x0).length+(hV (r0.take i)).length)∧Kept r H H'∧∃ps,H' L=some (.lst (ps.map V.ref))∧ps.length=i+1∧Paired (Lz C G Pc Fo L H H') ps (x0::r0.take i),⟨r0.length,0,by omega,rfl,⟨nM,sL _ _ eF⟩,k1.trans (Kept.of sL),[t0],af,rfl, .cons (fun cz ke=>hN cz fun b o z1 z2=>ke b o z1 (ag z2 hL) (sL _ _ z2)) .nil⟩,?_⟩
  rintro k σ H' ⟨i,hk,rfl,⟨dP,eh⟩,kk,ps,tZ,iO,hP⟩
  have xW:=BK r0 i
  have Zg:=wI r0
  refine⟨_,rfl,r,R,dP,_,_,rfl,eh,T.aw,T.cx,bB _ _,_,rfl,r,R,dP,_,_,rfl,eh,T.aw,T.jz,fS _ _,x,rfl,Nat.le_trans hx (by decide),_,_,rfl,rfl,_,rfl,?_⟩
  by_cases hi:i<r0.length
  ·have h2:Here x (p+(gL x0).length+(hV (r0.take i)).length) (Gm r0[i]) (hV (r0.drop (i+1))++[]):=wq Gm Em hi
   have JK:=aS _ (List.mem_cons_of_mem _ (List.getElem_mem hi))
   have h3:Here x (p+(gL x0).length+(hV (r0.take i)).length) [32,43,32] (gL r0[i]++(hV (r0.drop (i+1))++[])):=⟨h2.1,by rw[h2.2];rfl⟩
   have h4:Here x (p+(gL x0).length+(hV (r0.take i)).length+3) (gL r0[i]) (hV (r0.drop (i+1))++[]):=Here.on (t:=[32,43,32]) h2
   have sr:p+(gL x0).length+(hV (r0.take i)).length<x.length:=by
    have:=h3.le
    have e:[32,43,32].length=3:=rfl
    omega
   refine vo (by omega) ?_
   refine⟨_,fun σ' cz h=>⟨k - 1,by omega,h⟩,?_⟩
   refine⟨_,rfl,r,dP,_,rfl,eh,aI _ _ (by decide+kernel) (by decide+kernel),r,x,_,_,_,rfl,eJa,⟨dP,eh⟩,(by rw[eJ];exact h3),hx,fun H3 ig k3=>?_⟩
   rw[eJl] at ig
   obtain⟨wj,ig⟩:=ig
   have ni:=k3 _ _ tZ yj
   have Zt:=kk.trans k3
   refine⟨_,rfl, .inl ⟨rfl,_,b5.of ni⟩,_,rfl,r,wj,_,rfl,ig,aI _ _ (by decide+kernel) (by decide+kernel),r,x,_,r0[i],_,rfl,⟨wj,ig⟩,h4,wG _ ea,JK,hx,fun t H4 nt Zu tW k4=>?_⟩
   obtain⟨Er,tW⟩:=tW
   have Bw:=k4 _ _ ni yj
   have JL:=k3.trans k4
   refine⟨L,_,_,rfl,rfl,Bw,by rw[List.length_map];omega,i+1,by omega,rfl,⟨Er,?_⟩,fun b o z w=>?_,ps++[t],by rw[af,List.map_append];rfl,by rw[List.length_append,iO];rfl,?_⟩
   ·rw[ah (Ne.symm yj),tW]
    have e:=wu Gm hi
    have e':(hV (r0.take (i+1))).length=(hV (r0.take i)).length+(3+(gL r0[i]).length):=by
     unfold hV
     rw[e,List.length_append,wH]
    rw[e']
    congr 3
    omega
   ·rw[ah (ag z xx)]
    exact JL _ _ (kk _ _ z w) w
   ·rw[List.take_add_one,List.getElem?_eq_getElem hi]
    refine bS (as:=ps) (bs:=x0::r0.take i) (fun cz ke=>Zu cz fun b o z1 z2=>?_) (aK (fun c t h cz ke=>h cz fun b o z1 z2 z3=>ke b o z1 z2 ?_) hP)
    ·have Bt:b≠L:=fun z=>by rw[z,ni] at z1;cases z1
     exact ke b o (a6 Zt ig z1) Bt (by rw[ah Bt];exact z2)
    ·have zw:b≠r:=fun z=>by rw[z,hR] at z1;cases z1
     rw[ah z2]
     exact JL _ _ z3 zw
  ·have ei:i=r0.length:=by omega
   rw[ei,List.take_length] at eh hP ⊢
   refine qH (by omega) ?_
   exact⟨_,rfl,q L H' ⟨xx,ps,tZ,fun cz ke=>aK (fun c t h=>h cz fun b o z1 z2 z3=>ke b o z1 z3) hP⟩ kk ⟨_,eh⟩⟩
variable {uC uP uI uD uL uT eR eS eU uG uS:Tok} {Ch:Addr}
def NL (C G Pc Fo Ch:Addr) (H H':Hp) (c:Addr) (xs ys:List Tm):Prop:=∀cz,(∀b o,H b=none→H' b=some o→cz b=some o)→dB C G Pc Fo Ch cz c xs ys
def yA (C G Pc Fo Ch R:Addr):Sp:=fun vs H Q _=>∃(r:Addr) (x:Str) (xs ys:List Tm),vs=[.ref r]∧dk R H r x 0∧x.cps.toList=sx xs++p7++sx ys∧xs≠[]∧ys≠[]∧(∀t∈xs,fJ t)∧(∀t∈ys,fJ t)∧x.length≤1000∧
 ∀c H',H c=none→NL C G Pc Fo Ch H H' c xs ys→Kept r H H'→Q (.ref c) H'
def uu (C G Pc Fo Ch:Addr):Sp:=fun vs H Q _=>∃(x:Str) (xs ys:List Tm),vs=[.str x]∧x.cps.toList=sx xs++p7++sx ys∧xs≠[]∧ys≠[]∧(∀t∈xs,fJ t)∧(∀t∈ys,fJ t)∧x.length≤400∧xs.length+ys.length≤8∧
 ∀c H',H c=none→NL C G Pc Fo Ch H H' c xs ys→au H H'→Q (.ref c) H'
theorem yB:ax ["self","lefts"] ["self"] (aj pQ):=⟨rfl,rfl,rfl,by decide+kernel,rfl,by decide+kernel,by decide+kernel⟩
theorem DK (D:a9 K R "read_sides" "ChangeReader.read_sides" pQ ["self"]) (T:nu K mg C R G Pc Fo Ch uK uN uB uE uM uC uP uI uD uL uT eR eS eU uG uS) (c1:aJ P w K mg base 12 R "read_lefts" ["self"] (yy C G Pc Fo R)) (c2:aJ P w K mg base 12 R "read_rights" ["self"] (uq C G Pc Fo R)) (c3:gz P w K mg base 1 Ch ["self","lefts","rights"] [] (BH Ch)):
  aJ P w K mg base 13 R "read_sides" ["self"] (yA C G Pc Fo Ch R):=by
 obtain⟨_,_,d8⟩:=c1
 obtain⟨_,_,dR⟩:=c2
 obtain⟨_,_,b9⟩:=c3
 obtain⟨_,Aw,Ax⟩:=b9.b 0 (by decide)
 refine D.di yB (fun vs H Q E h=>?_) (fun f bA A outer s H vs Q E hr h=>?_)
 ·obtain⟨r,x,xs,ys,rfl,_⟩:=h
  rfl
 ·obtain⟨r,x,xs,ys,rfl,⟨dx,hR⟩,rC,nx,ny,md,zy,hx,q⟩:=h
  refine⟨_,(ai
     (aB (i:=1) yB.nd rfl (Or.inl rfl) (aN (pv 0) T.aw d8.m d8.ok (hr.mono (by decide)) d8.b .nil ay))
    (ao
     (aD (fV b9.m b9.ok (hr.mono (by decide)) rfl T.Ge Ax Aw ay (aa (pv 1) (aa (aN (pv 0) T.aw dR.m dR.ok (hr.mono (by decide)) dR.b .nil ay) ak)))))),?_⟩
  have hw:Here x 0 (sx xs++p7++sx ys) []:=yk rC
  have FV:Here x 0 (sx xs++p7) (sx ys):=⟨hw.1,by rw[hw.2,List.append_nil]⟩
  have Ah:Here x (0+(sx xs++p7).length) (sx ys) []:=Here.on hw
  refine⟨_,rfl,r,dx,_,rfl,hR,aI _ _ (by decide+kernel) (by decide+kernel),r,x,0,xs,_,rfl,⟨dx,hR⟩,FV,nx,md,hx,fun l H1 hN1 eF k1=>?_⟩
  obtain⟨nM,eF⟩:=eF
  refine⟨_,rfl,_,rfl,r,nM,_,rfl,eF,aI _ _ (by decide+kernel) (by decide+kernel),r,x,_,ys,rfl,⟨nM,eF⟩,Ah,ny,zy,hx,fun m H2 hN2 k2 ie=>?_⟩
  obtain⟨o2,ie⟩:=ie
  obtain⟨Xy,ps,zq,Ja⟩:=hN1
  obtain⟨Zp,us,Zv,PJ⟩:=hN2
  have Zw:l≠r:=fun z=>by rw[z,hR] at Xy;cases Xy
  have sC:=k2 _ _ zq Zw
  have k12:=k1.trans k2
  refine fun c dc nc Zx nec=>⟨c,dc,l,m,ps.map V.ref,us.map V.ref,rfl,af,?_,?_,fun n1 n2 H3 hn1 K7 n12 hc3 Zy Zz kp=>⟨rfl,?_⟩⟩
  ·rw[ah (ag sC nc),ah (ag sC Zx)];exact sC
  ·rw[ah (ag Zv nc),ah (ag Zv Zx)];exact Zv
  have s3:au H2 H3:=fun b o z=>kp b o (by rw[ah (ag z nc),ah (ag z Zx)];exact z) (ag z nc)
  have back:∀b,H2 b=none→H b=none:=fun b z=>a6 k12 ie z
  refine q c H3 (back c nc) (fun cz ke=>⟨dc,n1,n2,ke _ _ (back c nc) hc3,⟨ps,ke _ _ (back n1 (fT hn1)) Zy,Ja cz fun b o z1 z2=>?_⟩,⟨us,ke _ _ (back n2 (fT K7)) Zz,PJ cz fun b o z1 z2=>?_⟩⟩) (k12.trans (Kept.of s3))
  ·have zw:b≠r:=fun z=>by rw[z,hR] at z1;cases z1
   exact ke b o z1 (s3 _ _ (k2 _ _ z2 zw))
  ·exact ke b o (a6 k1 eF z1) (s3 _ _ z2)
theorem oJ:ax ["text","change","many"] ["text"] (aj mK):=⟨rfl,rfl,rfl,by decide+kernel,rfl,by decide+kernel,by decide+kernel⟩
theorem Ay (D:Def K mg "read_change" "read_change" mK ["text"]) (T:nu K mg C R G Pc Fo Ch uK uN uB uE uM uC uP uI uD uL uT eR eS eU uG uS) (c1:bg P w K mg base 1 "refuse_too_long" ["text"] oE) (c2:gz P w K mg base 1 R ["self","text"] [] (wd R)) (c3:aJ P w K mg base 13 R "read_sides" ["self"] (yA C G Pc Fo Ch R)):
  bg P w K mg base 14 "read_change" ["text"] (uu C G Pc Fo Ch):=by
 obtain⟨_,_,bC⟩:=c1
 obtain⟨_,_,hX⟩:=c2
 obtain⟨_,_,d9⟩:=c3
 obtain⟨_,oK,oM⟩:=hX.b 0 (by decide)
 refine D.di oJ (fun vs H Q E h=>?_) (fun f bA A outer s H vs Q E hr h=>?_)
 ·obtain⟨x,xs,ys,rfl,_⟩:=h
  rfl
 ·obtain⟨x,xs,ys,rfl,rC,nx,ny,md,zy,hx,h8,q⟩:=h
  refine⟨_,(ai
     (bz (aH bC.ok (hr.mono (by decide)) rfl bC.g bC.kp bC.b .nil ay (aa (pv 0) ak)))
    (ai
     (MX (fun _ _ z=>z)
      (ao
       (aB (i:=1) oJ.nd rfl (Or.inl rfl) (aN (fV hX.m hX.ok (hr.mono (by decide)) rfl T.rO oM oK ay (aa (pv 0) ak)) T.aw d9.m d9.ok (hr.mono (by decide)) d9.b .nil ay))))
    (ai
     (aB (i:=2) oJ.nd rfl (Or.inl rfl) (aE cf (br gD rfl T.oZ j7 (aa (a0 (pv 1) rfl) ak)) (br gD rfl T.oZ j7 (aa (a0 (pv 1) rfl) ak))))
    (ai
     (bG (aP lF (pv 2) (aX (v:= .int 8) rfl T.wD ⟨_,rfl⟩) (aV _))
      (ao
       fZ)
      aR)
    (ao
     (aD (pv 1))))))),?_⟩
  refine⟨_,rfl,x,rfl,hx,?_⟩
  refine⟨_,rfl,fun r dr nr Zm ner=>⟨r,dr,x,rfl,af,fun H1 eF k1=>⟨rfl,?_⟩⟩⟩
  obtain⟨nM,eF⟩:=eF
  have s1:au H H1:=fun b o z=>k1 b o (by rw[ah (ag z nr),ah (ag z Zm)];exact z) (ag z nr)
  refine⟨r,nM,_,rfl,eF,aI _ _ (by decide+kernel) (by decide+kernel),r,x,xs,ys,rfl,⟨nM,eF⟩,rC,nx,ny,md,zy,by omega,fun c H2 nc hC k2=>?_⟩
  have back:∀b,H1 b=none→H b=none:=fun b z=>by
   cases hh:H b with
   |none=>rfl
   |some o=>rw[s1 _ _ hh] at z;cases z
  have hC2:=hC H2 fun b o _ z=>z
  obtain⟨dc,l,m,hc,⟨ps,hl,hP⟩,⟨us,hm,hU⟩⟩:=hC2
  have e1:=Paired.length hP
  have e2:=Paired.length hU
  refine⟨_,rfl,c,Ch,dc,_,_,rfl,hc,T.b9,T.gZ,eV _ _,l,_,rfl, .inl (b5.of hl),_,rfl,c,Ch,dc,_,_,rfl,hc,T.b9,T.ji,gK _ _,m,_,rfl, .inl (b5.of hm),_,_,rfl,rfl,?_⟩
  refine⟨_,rfl,_,_,rfl,rfl,_,rfl,qH (by rw[List.length_map,List.length_map];omega) ?_⟩
  exact⟨_,rfl,q c H2 (back c nc) (fun cz ke=>hC cz fun b o z1 z2=>ke b o (back b z1) z2) fun b o z=>k2 b o (s1 _ _ z) (ag z nr)⟩
variable {uC uP uI uD uL uT eR eS eU uG uS:Tok} {Ch:Addr}
def fF (xs:List Tm):List (Str×Int):=xs.map fun x=>((⟨(fL x.2).toArray⟩:Str),x.1)
def gM (C G Pc Fo:Addr):Sp:=fun vs H Q _=>∃(l:Addr) (xs:List Tm),vs=[.ref l]∧g7 C G Pc Fo H l xs∧(∀x∈xs,cS x.2)∧xs.length≤20∧∀e H',H e=none→H' e=some (.dK (a8 1 [] (fF xs)))→au H H'→Q (.ref e) H'
theorem yC {xs:List Tm} {i:Nat} {y:Tm} (h:xs[i]? =some y):a8 1 [] (fF (xs.take (i+1)))=b8 (a8 1 [] (fF (xs.take i))) (Sum.inr ⟨(fL y.2).toArray⟩) y.1:=by
 unfold fF a8
 rw[take_snoc h,List.map_append,List.foldl_append]
 show b8 _ _ (y.1*1)=_
 rw[Int.mul_one]
theorem fA:ax ["terms","total","count","formula","text"] ["terms"] (aj iA):=⟨rfl,rfl,rfl,by decide+kernel,rfl,by decide+kernel,by decide+kernel⟩
theorem sN (D:Def K mg "side_counts" "side_counts" iA ["terms"]) (T:nu K mg C R G Pc Fo Ch uK uN uB uE uM uC uP uI uD uL uT eR eS eU uG uS) (c1:aJ P w K mg base 7 Fo "shown" ["self"] (uf C G Pc Fo 1)):bg P w K mg base 8 "side_counts" ["terms"] (gM C G Pc Fo):=by
 obtain⟨_,_,gu⟩:=c1
 refine D.di fA (fun vs H Q E h=>?_) (fun f bA A outer s H vs Q E hr h=>?_)
 ·obtain⟨l,xs,rfl,_⟩:=h
  rfl
 ·obtain⟨l,xs,rfl,⟨ts,hl,hP⟩,aS,XC,q⟩:=h
  have hu:=dz hr
  have big:(2000 :Nat) <sizeLine:=by decide
  have iO:=Paired.length hP
  refine⟨_,(ai
     (aB (i:=1) fA.nd rfl (Or.inl rfl) dw)
    (ai
     (bW PassesOwn.never rfl (cN (pv 0)) (gS rfl (bo (aG (i:=2) fA.nd rfl (Or.inl rfl)) (bo (aG (i:=3) fA.nd rfl (Or.inl rfl)) dW)))
      (ai
       (aB (i:=4) fA.nd rfl (Or.inl rfl) (aN (pv 3) T.bO gu.m gu.ok (hr.mono (by decide)) gu.b .nil ay))
      (ao
       (cQ hu (pv 1) (pv 4) (aE cf (bR hu (pv 1) (pv 4) aq ⟨rfl,rfl,rfl,rfl⟩) (pv 2)) rfl))))
    (ao
     (aD (pv 1))))),?_⟩
  refine fun d hd=>?_
  have sD:=au.new (o:= .dK []) hd
  refine⟨_,rfl,l,rfl,⟨_,b5.of (sD _ _ hl)⟩,fb (K:=K) (a:=l) (xs:=ts.map V.ref) (fun i σ H'=>∃v2 v3 v4:Option V,σ=[some (.ref l),some (.ref d),v2,v3,v4]∧H' d=some (.dK (a8 1 [] (fF (xs.take i))))∧au H H') ?_ (fun i σ H' _ ⟨_,_,_,_,_,e⟩=>b5.of (e _ _ hl)) ?_ ?_⟩
  ·exact⟨none,none,none,rfl,af,sD⟩
  ·rintro i v σ H' hi ⟨v2,v3,v4,rfl,fK,e⟩
   rw[List.getElem?_map] at hi
   obtain⟨t,ht,rfl⟩:∃p,ts[i]? =some p∧v=V.ref p:=by
    cases hh:ts[i]? with
    |none=>rw[hh] at hi;cases hi
    |some p=>rw[hh] at hi;exact⟨p,rfl,(Option.some.inj hi).symm⟩
   obtain⟨y,hy,fo,h1,h2⟩:=bI hP ht
   obtain⟨dx,fl,fps,ZA,_⟩:=id h2
   have md:=aS y (List.mem_of_getElem? hy)
   have zl:(wL 1 y.2.1 y.2.2).length≤1000:=Nat.le_trans md.2.1 (by decide)
   have hI:bu (a8 1 [] (fF (xs.take i))):=iB 1 _ _ fun p hp=>by cases hp
   have me:=iC 1 (fF (xs.take i)) []
   have XD:(fF (xs.take i)).length≤20:=by unfold fF;rw[List.length_map,List.length_take];omega
   rw[List.length_nil] at me
   refine⟨t,_,rfl,iX.of (e _ _ h1),rfl,_,_,rfl,_,_,rfl,rfl,?_⟩
   refine⟨_,rfl,fo,dx,_,rfl,e _ _ ZA,rq _ _ (by decide+kernel) (by decide+kernel),fo,_,_,rfl,h2.same e,md.1,zl,fun H2 e2=>?_⟩
   have hd2:=e2 _ _ fK
   refine⟨_,rfl,d,rfl, .inl ⟨_, .inl hd2⟩,_,rfl,_,f9.k (k:=Sum.inr ⟨(fL y.2).toArray⟩) hd2,_,rfl,_,_,hI.at _,rfl,_,rfl,_,rfl,d,_,rfl,i0.k (k:=Sum.inr ⟨(fL y.2).toArray⟩) hd2 (by omega),?_⟩
   refine⟨_,_,_,rfl,?_,fun b o z=>?_⟩
   ·rw[af,yC hy]
    rfl
   ·rw[ah (ag z hd)]
    exact e2 _ _ (e _ _ z)
  ·rintro σ H' ⟨v2,v3,v4,rfl,fK,e⟩
   rw[List.length_map,iO,List.take_length] at fK
   exact⟨_,rfl,q d H' hd fK e⟩
variable {uC uP uI uD uL uT eR eS eU uG uS:Tok} {Ch:Addr}
def rP (KV L:List (Key×V)):List (Key×V):=(L.filter fun p=>decide (¬aO KV p.1=0)).map fun p=>(p.1,V.int (aO KV p.1))
theorem DL {KV L:List (Key×V)} {i:Nat} {p:Key×V} (h:L[i]? =some p) (z:aO KV p.1=0):rP KV (L.take (i+1))=rP KV (L.take i):=by
 unfold rP
 rw[take_snoc h,List.filter_append,show [p].filter (fun p=>decide (¬aO KV p.1=0))=[] by simp [z],List.append_nil]
theorem DM {KV L:List (Key×V)} {i:Nat} {p:Key×V} (h:L[i]? =some p) (z:¬aO KV p.1=0):rP KV (L.take (i+1))=rP KV (L.take i)++[(p.1,V.int (aO KV p.1))]:=by
 unfold rP
 rw[take_snoc h,List.filter_append,show [p].filter (fun p=>decide (¬aO KV p.1=0))=[p] by simp [z],List.map_append]
 rfl
theorem yD (KV L:List (Key×V)):List.Sublist ((rP KV L).map (·.1)) (L.map (·.1)):=by
 unfold rP
 rw[List.map_map]
 exact(List.filter_sublist (l:=L)).map _
theorem Gn (KV:List (Key×V)) {L:List (Key×V)} (h:(L.map (·.1)).Nodup):((rP KV L).map (·.1)).Nodup:=(yD KV L).nodup h
theorem BL (KV L:List (Key×V)):bu (rP KV L):=by
 intro p hp
 obtain⟨q,_,rfl⟩:=List.mem_map.mp hp
 exact⟨_,rfl⟩
theorem wJ (KV L:List (Key×V)):(rP KV L).length≤L.length:=by
 unfold rP
 rw[List.length_map]
 exact List.length_filter_le _ _
def uv (xs ys:List Tm):List (Key×V):=a8 (-1) (a8 1 [] (fF ys)) (fF xs)
def iI (xs ys:List Tm):List (Key×V):=rP (uv xs ys) (uv xs ys)
theorem BM (xs ys:List Tm):bu (uv xs ys):=iB _ _ _ (cC _)
theorem Gp (xs ys:List Tm):((uv xs ys).map (·.1)).Nodup:=vT _ _ _ (iH _)
theorem wK (xs ys:List Tm):(uv xs ys).length≤xs.length+ys.length:=by
 have h1:=iC (-1) (fF xs) (a8 1 [] (fF ys))
 have h2:=dC (fF ys)
 have e:∀zs:List Tm,(fF zs).length=zs.length:=fun zs=>by unfold fF;rw[List.length_map]
 rw[e] at h1 h2
 show (a8 _ _ _).length≤_
 omega
def wM (C G Pc Fo Ch:Addr):Sp:=fun vs H Q _=>∃(c:Addr) (xs ys:List Tm),vs=[.ref c]∧dB C G Pc Fo Ch H c xs ys∧(∀x∈xs,cS x.2)∧(∀y∈ys,cS y.2)∧xs.length≤20∧ys.length≤20∧∀e H',H e=none→H' e=some (.dK (iI xs ys))→au H H'→Q (.ref e) H'
theorem Gq {X:Cx} {D:Ends} {c d e:Addr} {v3:Option V} {H:Hp} {acc gk:List (Key×V)} (hu:X.A.units+1<cLine) (hd:H d=some (.dK acc)) (he:H e=some (.dK gk)) (og:d≠e) (hI:bu acc) (Rz:bu gk) (hl:acc.length+gk.length≤1000)
  (fin:∀z:Option V,D.nx [some (.ref c),some (.ref d),some (.ref e),z] (upd H d (.dK (iP (-1) acc gk gk)))):
  E1 X (Mw (EZ X (jY 2)) (du 3) (ES (jY 1) (jY 3) (Mx (Ic fun i j=> .int (i - j)) (zO (jY 1) (jY 3) (tC (.int 0))) (EO (jY 2) (jY 3))))) D [some (.ref c),some (.ref d),some (.ref e),v3] H:=by
 refine⟨_,rfl,e,gk,rfl,he,fun o nf=>dA nf (fun j σ H'=>∃z:Option V,σ=[some (.ref c),some (.ref d),some (.ref e),z]∧H'=upd H d (.dK (iP (-1) acc (gk.take j) gk))) ?_ ?_ ?_ ?_⟩
 ·exact⟨v3,rfl,(eC hd).symm⟩
 ·rintro i σ H' ⟨_,_,rfl⟩
  rw[ah (Ne.symm og)]
  exact he
 ·rintro i k v σ H' hi ⟨z,rfl,rfl⟩
  have oY:∀o',(upd (upd H d (.dK (iP (-1) acc (gk.take i) gk))) e o') d=some (.dK (iP (-1) acc (gk.take i) gk)):=fun o'=>by rw[ah og];exact af
  have hv:=Rz.dM (List.mem_of_getElem? hi)
  have Gi:bu (iP (-1) acc (gk.take i) gk):=mul_int (-1) gk _ _ hI
  have hli:=wB (-1) gk (gk.take i) acc
  have JX:(gk.take i).length≤gk.length:=List.length_take_le' _ _
  refine⟨_,rfl,d,rfl, .inl ⟨_, .inl (oY _)⟩,_,rfl,_,f9.k (k:=k) (oY _),_,rfl,_,rfl,e,V.int (aO gk k),rfl, .inl ⟨_,k, .inr ⟨o,af⟩,rfl,hv.symm⟩,_,_,Gi.at k,rfl,_,rfl,_,rfl,d,_,rfl,i0.k (k:=k) (oY _) (kH ?_),?_⟩
  ·omega
  ·refine⟨by rw[ah (Ne.symm og)];exact af,some (kV k),rfl,?_⟩
   have ez:∀a b:Int,a - b=a+b*(-1):=fun a b=>by omega
   rw[jj og he,yt (-1) gk acc hi]
   unfold b8
   rw[←ez]
 ·rintro σ H' ⟨z,rfl,rfl⟩
  rw[List.take_length]
  exact fin z
def Pvg (o:Obj) (KV:List (Key×V)) (d D2:Addr) (H2:Hp):Nat→St→Hp→Prop:=fun i σ H'=>∃(v:Option V) (ps:List (Addr×Key×V)),σ=[v,some (.ref d)]∧H' d=some (.fH o (.dK KV))∧H' D2=some (.lst (ps.map fun p=> .ref p.1))∧(∀p∈ps,H' p.1=some (.tup [kV p.2.1,p.2.2]))∧ps.map (·.2)=rP KV (KV.take i)∧∀b o',H2 b=some o'→b≠d→H' b=some o'
theorem p8:ax ["change","more","taken","text"] ["change"] (aj qU):=⟨rfl,rfl,rfl,by decide+kernel,rfl,by decide+kernel,by decide+kernel⟩
theorem Gs (D:Def K mg "gains" "gains" qU ["change"]) (T:nu K mg C R G Pc Fo Ch uK uN uB uE uM uC uP uI uD uL uT eR eS eU uG uS) (c1:bg P w K mg base 8 "side_counts" ["terms"] (gM C G Pc Fo)):bg P w K mg base 9 "gains" ["change"] (wM C G Pc Fo Ch):=by
 obtain⟨_,_,aZ⟩:=c1
 refine D.di p8 (fun vs H Q E h=>?_) (fun f bA A outer s H vs Q E hr h=>?_)
 ·obtain⟨c,xs,ys,rfl,_⟩:=h
  rfl
 ·obtain⟨c,xs,ys,rfl,⟨dc,l,r,hc,hl,Ij⟩,md,zy,lx,ly,q⟩:=h
  have hu:=dz hr
  have big:(2000 :Nat) <sizeLine:=by decide
  refine⟨_,(ai
     (aB (i:=1) p8.nd rfl (Or.inr rfl) (aH aZ.ok (hr.mono (by decide)) rfl aZ.g aZ.kp aZ.b .nil ay (aa (a0 (pv 0) rfl) ak)))
    (ai
     (aB (i:=2) p8.nd rfl (Or.inl rfl) (aH aZ.ok (hr.mono (by decide)) rfl aZ.g aZ.kp aZ.b .nil ay (aa (a0 (pv 0) rfl) ak)))
    (ai
     (dI (bW PassesOwn.never rfl (cR (pv 2)) (aG (i:=3) p8.nd rfl (Or.inl rfl))
      (ao
       (cQ hu (pv 1) (pv 3) (aE j3 (bR hu (pv 1) (pv 3) aq ⟨rfl,rfl,rfl,rfl⟩) (b6 hu (pv 2) (pv 3) (fun _ _=>rfl))) rfl))))
    (ao
     (aD (bK (lQ rfl) rfl T.jF iu (aa (pJ (fk (sc:=(aj qU)) (NX:=["change","more","taken","text"]) (N:=["text","more"]) (fr:=[none,some 1]) ⟨by rfl,by rfl,by decide+kernel,by decide+kernel,by decide+kernel,by rfl,by decide+kernel⟩ rfl rfl rfl (cR (pv 1)) (fun _ _ _ _=>(aG (i:=0) (show (["text","more"]:List Str).Nodup by decide+kernel) rfl (Or.inl rfl) (Or.inr rfl))) (fun _ _ _ _=>(mq (aP oX (b6 hu (pv 1) (pv 0) (fun _ _=>rfl)) aq (aV _)))) (fun _ _ _ _=>(bP (aa (pv 0) (aa (b6 hu (pv 1) (pv 0) (fun _ _=>rfl)) ak)))))) ak))))))),?_⟩
  refine⟨_,rfl,c,Ch,dc,_,_,rfl,hc,T.b9,T.ji,gK _ _,r,ys,rfl,Ij,zy,ly,fun d H1 nd hd e1=>?_⟩
  refine⟨_,rfl,c,Ch,dc,_,_,rfl,e1 _ _ hc,T.b9,T.gZ,eV _ _,l,xs,rfl,hl.same e1,md,lx,fun e H2 ne he e2=>?_⟩
  have og:d≠e:=ag hd ne
  have hd2:=e2 _ _ hd
  have PD:=dC (fF xs)
  have hy1:=dC (fF ys)
  have lt:∀zs:List Tm,(fF zs).length=zs.length:=fun zs=>by unfold fF;rw[List.length_map]
  rw[lt] at PD hy1
  refine Gq hu hd2 he og (cC _) (cC _) (by omega) fun z=>?_
  rw[wc (-1) 1 (fF xs) (cC _) (iH _),Int.one_mul]
  have hI:=BM xs ys
  have hn:=Gp xs ys
  have me:=wK xs ys
  have hq:iI xs ys=rP (uv xs ys) (uv xs ys):=rfl
  show _
  generalize hK:uv xs ys=KV at hI hn me hq
  rw[show a8 (-1) (a8 1 [] (fF ys)) (fF xs)=KV from hK]
  have e02:∀b o',H b=some o'→(upd H2 d (.dK KV)) b=some o':=fun b o' z=>by
   rw[ah (ag z nd)]
   exact e2 _ _ (e1 _ _ z)
  have Ik:(upd H2 d (.dK KV)) d=some (.dK KV):=af
  generalize upd H2 d (.dK KV)=H3 at e02 Ik ⊢
  refine⟨_,rfl,d,_,rfl,Ik,fun o nf D2 Il=>?_⟩
  have J0:D2≠d:=fun z=>by rw[z,af] at Il;cases Il
  have RB:H3 D2=none:=by rwa [ah J0] at Il
  have gen:∀i σ H',Pvg o KV d D2 H3 i σ H'→H' d=some (.fH o (.dK KV)):=fun i σ H' ⟨_,_,_,z,_⟩=>z
  refine kK (a:=d) (D:=D2) (kvs:=KV) (Pvg o KV d D2 H3) ?_ gen ?_ ?_
  ·exact⟨none,[],rfl,by rw[ah (Ne.symm J0),af],af,(fun p hp=>by cases hp),rfl,fun b o' z hb=>by rw[ah (ag z RB),ah hb];exact z⟩
  ·rintro i k v σ H' hi ⟨v',ps,rfl,f1,f2,f3,f4,f5⟩ N hN
   have hv:=hI.dM (List.mem_of_getElem? hi)
   have iO:ps.length≤40:=by
    have h1:=congrArg List.length f4
    have h2:=wJ KV (KV.take i)
    rw[List.length_map] at h1
    rw[List.length_take] at h2
    omega
   refine⟨_,rfl,_,rfl,d,V.int (aO KV k),rfl, .inl ⟨_,k, .inr ⟨o,f1⟩,rfl,hv.symm⟩,rfl,_,rfl,fG (fun ec=>?_) fun ec=>?_⟩
   ·have ec:¬aO KV k=0:=by simpa using ec
    refine⟨_,rfl,_,rfl,_,rfl,d,V.int (aO KV k),rfl, .inl ⟨_,k, .inr ⟨o,f1⟩,rfl,hv.symm⟩,(by show 2≤sizeLine;decide),fun t ht=>?_⟩
    have RC:D2≠t:=ag f2 ht
    have ZC:d≠t:=ag f1 ht
    refine⟨_,by rw[ah RC];exact f2,by rw[List.length_map];omega,hN _ _ ⟨_,ps++[(t,k,V.int (aO KV k))],rfl,?_,?_,?_,?_,?_⟩⟩
    ·rw[ah (Ne.symm J0),ah ZC];exact f1
    ·rw[af,List.map_append];rfl
    ·intro p hp
     rcases List.mem_append.mp hp with hp|hp
     ·have p1:=f3 p hp
      rw[ah (cI p1 f2 (by intro z;cases z)),ah (ag p1 ht)]
      exact p1
     ·have e':p=(t,k,V.int (aO KV k)):=by simpa using hp
      subst e'
      rw[ah (Ne.symm RC)];exact af
    ·rw[List.map_append,f4,DM hi ec]
     rfl
    ·intro b o' e' hb
     rw[ah (ag e' RB),ah (ag (f5 b o' e' hb) ht)]
     exact f5 b o' e' hb
   ·have ec:aO KV k=0:=by simpa using ec
    exact hN _ _ ⟨_,ps,rfl,f1,f2,f3,by rw[f4,DL hi ec],f5⟩
  rintro σ H' ⟨v',ps,rfl,f1,f2,f3,f4,f5⟩
  rw[List.take_length] at f4
  refine⟨d,o,KV,f1,nf,D2,ps,rfl,by rw[ah J0];exact f2,fun p hp=>by rw[ah (cI (f3 p hp) f1 (by intro z;cases z))];exact f3 p hp,fun w hw=>?_⟩
  have e8:cu [] (ps.map (·.2))=rP KV KV:=by
   rw[f4,nj _ [] (by rw[List.nil_append];exact Gn KV hn),List.nil_append]
  have RD:au H (upd H' d (.dK KV)):=fun b o' z=>by
   have zd:b≠d:=ag z nd
   rw[ah zd]
   exact f5 b o' (e02 b o' z) zd
  rw[e8]
  exact q w _ (none_back RD hw) (by rw[af,hq]) (RD.trans (au.new hw))
variable {uC uP uI uD uL uT eR eS eU:Tok} {Ch:Addr}
structure Gu (K:PySem.W.Frag) (mg:Str→Option Value) (C R G Pc Fo Ch:Addr) (uK uN uB uE uM uC uP uI uD uL uT eR eS eU:Tok):Prop extends Gd K mg C R G Pc Fo Ch uK uN uB uE uM uC uP uI uD uL uT eR eS eU where
 yE:mg "sorted" =none
 n_all:mg "all" =none
def jW (x:Fm):List (Key×V):=putK (cW 1 x.1) (Sum.inr "+") (.int x.2)
theorem BN {x:Fm} (h:cS x):(cW 1 x.1).length≤7:=Au h.2.2
theorem J1 (x:Fm):bu (jW x):=(wA x.1).put _ _
def uw (C G Pc Fo:Addr):Sp:=fun vs H Q _=>∃(f:Addr) (x:Fm),vs=[.ref f]∧o7 C G Pc Fo 1 H f x.1 x.2∧cS x∧∀e H',H e=none→H' e=some (.dK (jW x))→au H H'→Q (.ref e) H'
theorem ux:ax ["formula","amounts"] ["formula"] (aj mI):=⟨rfl,rfl,rfl,by decide+kernel,rfl,by decide+kernel,by decide+kernel⟩
theorem Az (D:Def K mg "formula_amounts" "formula_amounts" mI ["formula"]) (T:Gd K mg C R G Pc Fo Ch uK uN uB uE uM uC uP uI uD uL uT eR eS eU) (c1:aJ P w K mg base 7 Fo "counts" ["self"] (lZ C G Pc Fo 1)):bg P w K mg base 8 "formula_amounts" ["formula"] (uw C G Pc Fo):=by
 obtain⟨_,_,cj⟩:=c1
 refine D.di ux (fun vs H Q E h=>?_) (fun f bA A outer s H vs Q E hr h=>?_)
 ·obtain⟨f,x,rfl,_⟩:=h
  rfl
 ·obtain⟨fo,x,rfl,hF,aS,q⟩:=h
  have hu:=dz hr
  have big:(2000 :Nat)≤sizeLine:=by decide
  obtain⟨dx,l,ps,hf,_⟩:=id hF
  have hz:(x.1.flatMap (cA 1)).length≤400:=Nat.le_trans aS.2.2 (by decide)
  refine⟨_,(ai
     (aB (i:=1) ux.nd rfl (Or.inl rfl) (aN (pv 0) T.bO cj.m cj.ok (hr.mono (by decide)) cj.b .nil ay))
    (ai
     (cQ hu (pv 1) (aX (v:= .str "+") rfl T.wk ⟨_,rfl⟩) (a0 (pv 0) rfl) rfl)
    (ao
     (aD (pv 1))))),?_⟩
  refine⟨_,rfl,fo,dx,_,rfl,hf,rq _ _ (by decide+kernel) (by decide+kernel),fo,x.1,x.2,rfl,hF,aS.1,hz,fun e H' ne he es=>?_⟩
  have hl:=BN aS
  refine⟨_,rfl,fo,Fo,dx,_,_,rfl,es _ _ hf,T.bO,T.lT,mZ _ _,_,rfl,e,_,rfl,i0.k (k:=Sum.inr "+") he (by omega),?_⟩
  exact⟨_,rfl,q e _ ne af fun b o z=>by rw[ah (ag z ne)];exact es _ _ z⟩
def LC (zs:List Tm):List Key:=zs.foldl (fun ks z=>fx ks ((cW 1 z.2.1).map (·.1))) []
def RE:Key→Option Str
 | .inr s=>some s
 | .inl _=>none
def RF (zs:List Tm):List Str:=(LC zs).filterMap RE
def yF (ks:List Key):Prop:=∀k∈ks,∃s:Str,k=Sum.inr s
theorem BO {ks:List Key} (h:yF ks):(ks.filterMap RE).map Sum.inr=ks:=by
 induction ks with
 |nil=>rfl
 |cons k r ih=>
  obtain⟨s,rfl⟩:=h k (List.mem_cons_self ..)
  show (s::r.filterMap RE).map Sum.inr=_
  rw[List.map_cons,ih fun k hk=>h k (List.mem_cons_of_mem _ hk)]
theorem yG {ks ls:List Key} (h1:yF ks) (h2:yF ls):yF (fx ks ls):=fun k hk=>by
 rcases q5.mp hk with h|h
 ·exact h1 k h
 ·exact h2 k h
theorem J2 (xs:List jV):(cW 1 xs).map (·.1)=fx [] ((xs.flatMap (cA 1)).map fun p=>(Sum.inr p.1 :Key)):=by
 unfold cW
 rw[pX,km,List.map_map]
 rfl
theorem BP (xs:List jV):yF ((cW 1 xs).map (·.1)):=by
 rw[J2]
 refine yG (fun k hk=>by cases hk) fun k hk=>?_
 obtain⟨p,_,rfl⟩:=List.mem_map.mp hk
 exact⟨_,rfl⟩
theorem Gv {zs:List Tm} {i:Nat} {z:Tm} (h:zs[i]? =some z):LC (zs.take (i+1))=fx (LC (zs.take i)) ((cW 1 z.2.1).map (·.1)):=by
 unfold LC
 rw[take_snoc h,List.foldl_append]
 rfl
theorem Gw (zs:List Tm):yF (LC zs):=by
 have:∀(zs:List Tm) (ks:List Key),yF ks→yF (zs.foldl (fun ks z=>fx ks ((cW 1 z.2.1).map (·.1))) ks):=by
  intro zs
  induction zs with
  |nil=>intro ks h;exact h
  |cons z r ih=>intro ks h;exact ih _ (yG h (BP _))
 exact this zs [] fun k hk=>by cases hk
theorem wN (zs:List Tm):LC zs=(RF zs).map Sum.inr:=(BO (Gw zs)).symm
theorem rQ:∀(more acc:List (Key×V)),(cu acc more).map (·.1)=fx (acc.map (·.1)) (more.map (·.1))
 | [],_=>rfl
 |p::r,acc=>by
  show (cu (putK acc p.1 p.2) r).map (·.1)=fx (jx (acc.map (·.1)) p.1) (r.map (·.1))
  rw[rQ r,mU]
def BQ (zs:List Tm) (ms:List Str):Prop:=ms.Perm (RF zs)∧PyProof.Rows.sortedS ms=true
def yH (zs:List Tm):Nat:=(zs.map fun z=>(z.2.1.flatMap (cA 1)).length).sum
theorem Gx {zs:List Tm} {i:Nat} {z:Tm} (h:zs[i]? =some z):yH (zs.take (i+1))=yH (zs.take i)+(z.2.1.flatMap (cA 1)).length:=by
 unfold yH
 rw[take_snoc h,List.map_append,List.sum_append]
 simp
theorem Gy (zs:List Tm) (i:Nat):yH (zs.take i)≤yH zs:=by
 unfold yH
 conv=>rhs;rw[←List.take_append_drop i zs,List.map_append,List.sum_append]
 omega
theorem l6 {α β:Type} {p q:α→β→Prop}:∀{as:List α} {bs:List β},(∀a b,a∈as→p a b→q a b)→Paired p as bs→Paired q as bs
 |_,_,_, .nil=> .nil
 |_,_,h, .cons x t=> .cons (h _ _ (List.mem_cons_self ..) x) (l6 (fun a b ha=>h a b (List.mem_cons_of_mem _ ha)) t)
theorem yI:∀(ls ks:List Key),(fx ks ls).length≤ks.length+ls.length
 | [],_=>Nat.le_refl _
 |k::r,ks=>by
  have h1:=yI r (jx ks k)
  have h2:(jx ks k).length≤ks.length+1:=by
   unfold jx
   split
   ·omega
   ·rw[List.length_append];exact Nat.le_refl _
  show (fx (jx ks k) r).length≤_
  rw[List.length_cons]
  omega
def BR (C G Pc Fo Ch:Addr):Sp:=fun vs H Q _=>∃(c:Addr) (xs ys:List Tm),vs=[.ref c]∧dB C G Pc Fo Ch H c xs ys∧(∀z∈xs++ys,cS z.2)∧(xs++ys).length≤20∧yH (xs++ys)≤60∧
 ∀l ms H',BQ (xs++ys) ms→H l=none→H' l=some (.lst ((ms++[("+" :Str)]).map V.str))→au H H'→Q (.ref l) H'
theorem p9:ax ["self","found","count","formula"] ["self"] (aj vI):=⟨rfl,rfl,rfl,by decide+kernel,rfl,by decide+kernel,by decide+kernel⟩
theorem l7 {α β:Type} {p:α→β→Prop}:∀{as:List α} {bs:List β} {cs:List α} {ds:List β},Paired p as bs→Paired p cs ds→Paired p (as++cs) (bs++ds)
 |_,_,_,_, .nil,h=>h
 |_,_,_,_, .cons h t,h2=> .cons h (l7 t h2)
theorem Gz (D:a9 K Ch "kinds" "Change.kinds" vI ["self"]) (T:Gu K mg C R G Pc Fo Ch uK uN uB uE uM uC uP uI uD uL uT eR eS eU) (c1:aJ P w K mg base 7 Fo "counts" ["self"] (lZ C G Pc Fo 1)):aJ P w K mg base 8 Ch "kinds" ["self"] (BR C G Pc Fo Ch):=by
 obtain⟨_,_,cj⟩:=c1
 refine D.di p9 (fun vs H Q E h=>?_) (fun f bA A outer s H vs Q E hr h=>?_)
 ·obtain⟨c,xs,ys,rfl,_⟩:=h
  rfl
 ·obtain⟨c,xs,ys,rfl,⟨dx,l,r,hc,⟨ts,hl,hT⟩,⟨us,Ij,hU⟩⟩,aS,h8,h60,q⟩:=h
  have hu:=dz hr
  have big:(2000 :Nat)≤sizeLine:=by decide
  have hP:=l7 hT hU
  have lp:=Paired.length hP
  refine⟨_,(ai
     (aB (i:=1) p9.nd rfl (Or.inl rfl) dw)
    (ai
     (bW PassesOwn.never rfl (cN (aE nY (a0 (pv 0) rfl) (a0 (pv 0) rfl))) (gS rfl (bo (aG (i:=2) p9.nd rfl (Or.inl rfl)) (bo (aG (i:=3) p9.nd rfl (Or.inl rfl)) dW)))
      (ao
       (bz (Jh (pv 1) (aN (pv 3) T.bO cj.m cj.ok (hr.mono (by decide)) cj.b .nil ay) ⟨rfl,rfl,rfl,rfl⟩))))
    (ao
     (aD (aE nY (br (mz rfl) rfl T.yE tD (aa (pv 1) ak)) (cD (aa (aX (v:= .str "+") rfl T.wk ⟨_,rfl⟩) ak))))))),?_⟩
  refine fun e0 pA=>?_
  have s0:=au.new (o:= .dK []) pA
  have hc0:=s0 _ _ hc
  refine⟨_,rfl,c,Ch,dx,_,_,rfl,hc0,T.b9,T.gZ,eV _ _,_,rfl,c,Ch,dx,_,_,rfl,hc0,T.b9,T.ji,gK _ _,l,r,_,_,rfl,rfl,s0 _ _ hl,s0 _ _ Ij,?_,fun L hL=>?_⟩
  ·rw[List.length_map,List.length_map,←List.length_append,lp]
   omega
  have s1:=s0.trans (au.new (o:= .lst (ts.map V.ref++us.map V.ref)) hL)
  have P':e0≠L:=ag af hL
  refine⟨L,rfl,⟨_,b5.of af⟩,fb (K:=K) (a:=L) (xs:=(ts++us).map V.ref) (fun i σ H'=>∃(kvs:List (Key×V)) (v2 v3:Option V),σ=[some (.ref c),some (.ref e0),v2,v3]∧H' e0=some (.dK kvs)∧kvs.map (·.1)=LC ((xs++ys).take i)∧kvs.length≤yH ((xs++ys).take i)∧au H H'∧H' L=some (.lst ((ts++us).map V.ref))) ?_ (fun i σ H' _ ⟨_,_,_,_,_,_,_,_,z⟩=>b5.of z) ?_ ?_⟩
  ·exact⟨[],none,none,rfl,by rw[ah P',af],rfl,Nat.zero_le _,s1,by rw[af,List.map_append]⟩
  ·rintro i v σ H' hi ⟨kvs,v2,v3,rfl,he,hk,me,e,tZ⟩
   rw[List.getElem?_map] at hi
   obtain⟨t,ht,rfl⟩:∃p,(ts++us)[i]? =some p∧v=V.ref p:=by
    cases hh:(ts++us)[i]? with
    |none=>rw[hh] at hi;cases hi
    |some p=>rw[hh] at hi;exact⟨p,rfl,(Option.some.inj hi).symm⟩
   obtain⟨z,hz,fo,h1,h2⟩:=bI hP ht
   have NM:=aS z (List.mem_of_getElem? hz)
   have xW:i< (xs++ys).length:=(List.getElem?_eq_some_iff.mp hz).1
   obtain⟨dy,fl,fps,ZA,_⟩:=id h2
   refine⟨t,_,rfl,iX.of (e _ _ h1),rfl,_,_,rfl,_,_,rfl,rfl,?_⟩
   refine⟨_,rfl,e0,rfl, .inl ⟨_, .inl he⟩,_,rfl,fo,dy,_,rfl,e _ _ ZA,rq _ _ (by decide+kernel) (by decide+kernel),fo,z.2.1,z.2.2,rfl,h2.same e,NM.1,Nat.le_trans NM.2.2 (by decide),fun b cz nb hb e'=>?_⟩
   have PQ:(cW 1 z.2.1).length≤(z.2.1.flatMap (cA 1)).length:=dC _
   have RG:=eB (cW 1 z.2.1) kvs
   have hfs:=Gx hz
   have hfl:=Gy (xs++ys) i
   have hz7:=NM.2.2
   have neb:e0≠b:=ag he nb
   refine⟨b,kvs,_,rfl,e' _ _ he,hb,neb,by omega,cu kvs (cW 1 z.2.1),_,_,rfl,af,?_,by omega,fun b' o w=>?_,?_⟩
   ·rw[rQ,hk,Gv hz]
   ·rw[ah (ag w pA)]
    exact e' _ _ (e _ _ w)
   ·rw[ah (Ne.symm P')]
    exact e' _ _ tZ
  ·rintro σ H' ⟨kvs,v2,v3,rfl,he,hk,me,e,tZ⟩
   rw[List.length_map,lp] at hk me
   rw[List.take_length] at hk me
   have xv:(RF (xs++ys)).length<64:=by
    have:=congrArg List.length hk
    rw[wN,List.length_map,List.length_map] at this
    omega
   refine⟨_,rfl,e0,kvs,RF (xs++ys),rfl, .inl he,by rw[hk,wN],xv,fun m ms pm sm hm=>⟨(by show 1≤sizeLine;decide),fun n hn=>?_⟩⟩
   have Ry:m≠n:=ag af hn
   refine⟨m,n,ms.map V.str,[V.str "+"],rfl,rfl,by rw[ah Ry,af],af,?_,fun p hp=>?_⟩
   ·rw[List.length_map,pm.length_eq]
    show _+1≤sizeLine
    omega
   have s2:=(au.new (o:= .lst (ms.map V.str)) hm).trans (au.new (o:= .lst [V.str "+"]) hn)
   have hpH:H p=none:=none_back (e.trans s2) hp
   refine q p ms _ ⟨pm,sm⟩ hpH ?_ ((e.trans s2).trans (au.new hp))
   rw[af,List.map_append]
   rfl
variable {uC uP uI uD uL uT eR eS eU:Tok} {Ch:Addr}
def dY (c:Int) (acc l all:List (Key×V)):List (Key×V):=l.foldl (fun acc p=>b8 acc p.1 (c*aO all p.1)) acc
theorem yJ (c:Int) (all:List (Key×V)):∀(l acc:List (Key×V)),dY c acc l all=cM acc (l.map fun p=>(p.1,c*aO all p.1))
 | [],_=>rfl
 |p::r,acc=>yJ c all r _
theorem df (c:Int) (all:List (Key×V)):∀(l acc:List (Key×V)),bu acc→bu (dY c acc l all)
 | [],_,h=>h
 |_::r,_,h=>df c all r _ (h.add _ _)
theorem eG (c:Int) (all:List (Key×V)):∀(l acc:List (Key×V)),(dY c acc l all).length≤acc.length+l.length
 | [],_=>Nat.le_refl _
 |p::r,acc=>by
  have h1:=eG c all r (b8 acc p.1 (c*aO all p.1))
  have h2:(b8 acc p.1 (c*aO all p.1)).length≤acc.length+1:=bY _ _ _
  show (dY c (b8 acc p.1 (c*aO all p.1)) r all).length≤_
  rw[List.length_cons]
  omega
theorem wO (c:Int) {D:List (Key×V)} (hn:(D.map (·.1)).Nodup) (acc:List (Key×V)) (j:Key):aO (dY c acc D D) j=aO acc j+c*aO D j:=by
 rw[yJ,mV]
 congr 1
 have e:=wb (fun k=>c*aO D k) j hn
 rw[List.map_map] at e
 have e2:sumK (D.map fun p=>(p.1,c*aO D p.1)) j=if j∈D.map (·.1) then c*aO D j else 0:=by
  rw[←e]
  unfold sumK
  rw[List.map_map]
  rfl
 rw[e2]
 split
 ·rfl
 ·rename_i h
  rw[mW h,Int.mul_zero]
def sumZ (zs:List Tm) (k:Key):Int:=(zs.map fun z=>z.1*aO (jW z.2) k).sum
theorem sumZ_snoc {zs:List Tm} {i:Nat} {z:Tm} (h:zs[i]? =some z) (k:Key):sumZ (zs.take (i+1)) k=sumZ (zs.take i) k+z.1*aO (jW z.2) k:=by
 unfold sumZ
 rw[take_snoc h,List.map_append,List.sum_append]
 simp
theorem NN (x:Fm):((jW x).map (·.1)).Nodup:=vS (iH _)
theorem J3 {x:Fm} (h:cS x):(jW x).length≤8:=by
 have h1:=BN h
 have h2:(jW x).length≤(cW 1 x.1).length+1:=bY _ _ _
 omega
theorem rR:∀(d:Nat) (m:Int) (t:Tr),tV d t→0≤m→∀p∈bp d m t,0≤p.2∧p.2≤999*(999^d*m)
 |d,m, .one k n,h,hm,p,hp=>by
  have e:bp d m (.one k n)=[(⟨k.toArray⟩,n*m)]:=by cases d<;>rfl
  rw[e] at hp
  have h:lS k∧1≤n∧n≤999:=by cases d<;>exact h
  have ep:p=(⟨k.toArray⟩,n*m):=by simpa using hp
  rw[ep]
  have p1:(1 :Int)≤999^d:=Int.pow_pos (by decide)
  have p2:m≤999^d*m:=by
   have:=Int.mul_le_mul_of_nonneg_right p1 hm
   rwa [Int.one_mul] at this
  refine⟨Int.mul_nonneg (by omega) hm,?_⟩
  exact Int.le_trans (Int.mul_le_mul_of_nonneg_right h.2.2 hm) (Int.mul_le_mul_of_nonneg_left p2 (by decide))
 |0,_, .gr _ _,h,_,_,_=>h.elim
 |d+1,m, .gr ts n,h,hm,p,hp=>by
  obtain⟨t,ht,hp⟩:=List.mem_flatMap.mp hp
  obtain⟨_,h1,n1,n2⟩:=h
  have nm:0≤n*m:=Int.mul_nonneg (by omega) hm
  obtain⟨q1,q2⟩:=rR d (n*m) t (h1 t ht) nm p hp
  refine⟨q1,Int.le_trans q2 ?_⟩
  have p0:(0 :Int)≤999^d:=Int.le_of_lt (Int.pow_pos (by decide))
  have e:(999 :Int) ^(d+1)*m=999^d*(999*m):=by rw[Int.pow_succ,Int.mul_assoc]
  rw[e]
  exact Int.mul_le_mul_of_nonneg_left (Int.mul_le_mul_of_nonneg_left (Int.mul_le_mul_of_nonneg_right n2 hm) p0) (by decide)
theorem J4 {x:Fm} (h:cS x):FE (2^60) (cW 1 x.1):=by
 have hb:=vU (t:=1) (b:=1000000000000) (by decide) (x.1.flatMap (cA 1)) [] 0 (Int.le_refl _) (fun p hp=>by cases hp) fun p hp=>by
  obtain⟨y,hy,hp⟩:=List.mem_flatMap.mp hp
  obtain⟨_,h1,n1,n2⟩:=k7 h.1 y hy
  obtain⟨t,ht,hp⟩:=List.mem_flatMap.mp hp
  obtain⟨q1,q2⟩:=rR 1 y.1 t (h1 t ht) (by omega) p hp
  rw[Int.mul_one]
  refine⟨q1,?_⟩
  have:(999 :Int) ^1*y.1≤999*999:=by
   rw[show (999 :Int) ^1=999 from rfl]
   exact Int.mul_le_mul_of_nonneg_left n2 (by decide)
  omega
 intro p hp
 obtain⟨i,e,b0,b1⟩:=hb p hp
 refine⟨i,e,b0,?_⟩
 have:=h.2.2
 have:(2 :Int) ^60=1152921504606846976:=by decide
 have e7:((x.1.flatMap (cA 1)).length:Int)*1000000000000≤7*1000000000000:=Int.mul_le_mul_of_nonneg_right (by omega) (by decide)
 omega
theorem BS {x:Fm} (h:cS x): -999≤x.2∧x.2≤999:=by
 obtain⟨h,_,_⟩:=h
 obtain⟨xs,n⟩:=x
 cases xs with
 |nil=>
  have:n= -1:=h
  subst this
  exact⟨by decide,by decide⟩
 |cons y r=>exact⟨h.2.2.1,h.2.2.2⟩
theorem DN {x:Fm} (h:cS x) (k:Key): -(2^64) <aO (jW x) k∧aO (jW x) k<2^64:=by
 unfold jW
 rw[iF]
 split
 ·have:=BS h
  omega
 ·have:=(J4 h).Rj (by decide) k
  omega
def lI (C G Pc Fo:Addr):Sp:=fun vs H Q _=>∃(l:Addr) (xs:List Tm),vs=[.ref l]∧g7 C G Pc Fo H l xs∧(∀x∈xs,cS x.2)∧xs.length≤20∧∀e kvs H',H e=none→H' e=some (.dK kvs)→bu kvs→(∀k,aO kvs k=sumZ xs k)→au H H'→Q (.ref e) H'
theorem dG:ax ["terms","total","count","formula","amounts","kind"] ["terms"] (aj gI):=⟨rfl,rfl,rfl,by decide+kernel,rfl,by decide+kernel,by decide+kernel⟩
theorem rS (D:Def K mg "side_amounts" "side_amounts" gI ["terms"]) (T:Gu K mg C R G Pc Fo Ch uK uN uB uE uM uC uP uI uD uL uT eR eS eU) (c1:bg P w K mg base 8 "formula_amounts" ["formula"] (uw C G Pc Fo)):bg P w K mg base 9 "side_amounts" ["terms"] (lI C G Pc Fo):=by
 obtain⟨_,_,dN⟩:=c1
 refine D.di dG (fun vs H Q E h=>?_) (fun f bA A outer s H vs Q E hr h=>?_)
 ·obtain⟨l,xs,rfl,_⟩:=h
  rfl
 ·obtain⟨l,xs,rfl,⟨ts,hl,hP⟩,aS,XC,q⟩:=h
  have hu:=dz hr
  have big:(2000 :Nat)≤sizeLine:=by decide
  have lp:=Paired.length hP
  refine⟨_,(ai
     (aB (i:=1) dG.nd rfl (Or.inl rfl) dw)
    (ai
     (bW PassesOwn.never rfl (cN (pv 0)) (gS rfl (bo (aG (i:=2) dG.nd rfl (Or.inl rfl)) (bo (aG (i:=3) dG.nd rfl (Or.inl rfl)) dW)))
      (ai
       (aB (i:=4) dG.nd rfl (Or.inl rfl) (aH dN.ok (hr.mono (by decide)) rfl dN.g dN.kp dN.b .nil ay (aa (pv 3) ak)))
      (ao
       (dI (bW PassesOwn.never rfl (cR (pv 4)) (aG (i:=5) dG.nd rfl (Or.inl rfl))
        (ao
         (cQ hu (pv 1) (pv 5) (aE cf (bR hu (pv 1) (pv 5) aq ⟨rfl,rfl,rfl,rfl⟩) (aE gT (pv 2) (b6 hu (pv 4) (pv 5) (fun _ _=>rfl)))) rfl)))))))
    (ao
     (aD (pv 1))))),?_⟩
  refine fun e0 pA=>?_
  have s0:=au.new (o:= .dK []) pA
  refine⟨_,rfl,l,rfl,⟨_,b5.of (s0 _ _ hl)⟩,fb (K:=K) (a:=l) (xs:=ts.map V.ref) (fun i σ H'=>∃(kvs:List (Key×V)) (v2 v3 v4 v5:Option V),σ=[some (.ref l),some (.ref e0),v2,v3,v4,v5]∧H' e0=some (.dK kvs)∧bu kvs∧(∀k,aO kvs k=sumZ (xs.take i) k)∧kvs.length≤8*i∧au H H') ?_ (fun i σ H' _ ⟨_,_,_,_,_,_,_,_,_,_,z⟩=>b5.of (z _ _ hl)) ?_ ?_⟩
  ·exact⟨[],none,none,none,none,rfl,af,Gh,fun _=>rfl,Nat.zero_le _,s0⟩
  ·rintro i v σ H' hi ⟨kvs,v2,v3,v4,v5,rfl,he,hI,hz,me,e⟩
   rw[List.getElem?_map] at hi
   obtain⟨t,ht,rfl⟩:∃p,ts[i]? =some p∧v=V.ref p:=by
    cases hh:ts[i]? with
    |none=>rw[hh] at hi;cases hi
    |some p=>rw[hh] at hi;exact⟨p,rfl,(Option.some.inj hi).symm⟩
   obtain⟨z,RH,fo,h1,h2⟩:=bI hP ht
   have NM:=aS z (List.mem_of_getElem? RH)
   have xW:i<xs.length:=(List.getElem?_eq_some_iff.mp RH).1
   have XD:=J3 NM
   refine⟨t,_,rfl,iX.of (e _ _ h1),rfl,_,_,rfl,_,_,rfl,rfl,?_⟩
   refine⟨_,rfl,fo,z.2,rfl,h2.same e,NM,fun d H2 nd hd e2=>?_⟩
   have GA:e0≠d:=ag he nd
   have XE:=e2 _ _ he
   dsimp only [du]
   refine⟨_,rfl,d,jW z.2,rfl,hd,fun o nf=>dA nf (fun j σ H3=>∃w:Option V,σ=[some (.ref l),some (.ref e0),some (.int z.1),some (.ref fo),some (.ref d),w]∧H3=upd H2 e0 (.dK (dY z.1 kvs ((jW z.2).take j) (jW z.2)))) ?_ ?_ ?_ ?_⟩
   ·exact⟨v5,rfl,(eC XE).symm⟩
   ·rintro j σ H3 ⟨_,_,rfl⟩
    rw[ah (Ne.symm GA)]
    exact hd
   ·rintro j k v σ H3 hj ⟨w,rfl,rfl⟩
    have oY:∀o',(upd (upd H2 e0 (.dK (dY z.1 kvs ((jW z.2).take j) (jW z.2)))) d o') e0=some (.dK (dY z.1 kvs ((jW z.2).take j) (jW z.2))):=fun o'=>by rw[ah GA];exact af
    have XF:=eG z.1 (jW z.2) ((jW z.2).take j) kvs
    have JX:((jW z.2).take j).length≤(jW z.2).length:=List.length_take_le' _ _
    have Gi:=df z.1 (jW z.2) ((jW z.2).take j) kvs hI
    have hv:=(J1 z.2).dM (List.mem_of_getElem? hj)
    have Xt:=DN NM k
    refine⟨_,rfl,e0,rfl, .inl ⟨_, .inl (oY _)⟩,_,rfl,_,f9.k (k:=k) (oY _),_,rfl,_,rfl,_,rfl,d,V.int (aO (jW z.2) k),rfl, .inl ⟨_,k, .inr ⟨o,af⟩,rfl,hv.symm⟩,_,_,rfl,rfl, .inr Xt,_,_,Gi.at k,rfl,_,rfl,_,rfl,e0,_,rfl,i0.k (k:=k) (oY _) (by omega),?_⟩
    refine⟨by rw[ah (Ne.symm GA)];exact af,some (kV k),rfl,?_⟩
    rw[jj GA hd]
    unfold dY
    rw[take_snoc hj,List.foldl_append]
    rfl
   ·rintro σ H3 ⟨w,rfl,rfl⟩
    rw[List.take_length]
    have XF:=eG z.1 (jW z.2) (jW z.2) kvs
    refine⟨_,_,_,_,_,rfl,af,df z.1 (jW z.2) (jW z.2) kvs hI,fun k=>?_,by omega,fun b o' w'=>?_⟩
    ·rw[wO z.1 (NN _),hz k,sumZ_snoc RH]
    ·rw[ah (ag w' pA)]
     exact e2 _ _ (e _ _ w')
  ·rintro σ H' ⟨kvs,v2,v3,v4,v5,rfl,he,hI,hz,me,e⟩
   rw[List.length_map,lp,List.take_length] at hz
   exact⟨_,rfl,q e0 kvs H' pA he hI hz e⟩
variable {uC uP uI uD uL uT eR eS eU:Tok} {Ch:Addr}
abbrev ZD:=Str×Int×Int
theorem RI {c A B:Prop} [Decidable c] (hc:¬c) (h:A):if (!decide c)=true then A else B:=by
 rw[decide_eq_false hc]
 exact h
def GB (H:Hp) (t:Addr) (p:ZD):Prop:=H t=some (.tup [.str p.1, .int p.2.1, .int p.2.2])
def yK (ms:List Str) (xs ys:List Tm):List ZD:=ms.map fun k=>(k,sumZ xs (Sum.inr k),sumZ ys (Sum.inr k))
def GC (ms:List Str) (xs ys:List Tm):List ZD:=(yK ms xs ys).filter fun p=>!decide (p.2.1=p.2.2)
def GD (C G Pc Fo Ch:Addr):Sp:=fun vs H Q _=>∃(c:Addr) (xs ys:List Tm),vs=[.ref c]∧dB C G Pc Fo Ch H c xs ys∧(∀z∈xs++ys,cS z.2)∧(xs++ys).length≤20∧yH (xs++ys)≤60∧
 ∀L ts ms H',BQ (xs++ys) ms→H L=none→H' L=some (.lst (ts.map V.ref))→Paired (GB H') ts (GC (ms++[("+" :Str)]) xs ys)→au H H'→Q (.ref L) H'
theorem wQ:ax ["self","lefts","rights","told"] ["self"] (aj tK):=⟨rfl,rfl,rfl,by decide+kernel,rfl,by decide+kernel,by decide+kernel⟩
theorem GF {zs:List Tm}:(RF zs).length≤yH zs:=by
 have key:∀(zs:List Tm) (ks:List Key),(zs.foldl (fun ks z=>fx ks ((cW 1 z.2.1).map (·.1))) ks).length≤ks.length+yH zs:=by
  intro zs
  induction zs with
  |nil=>intro ks;exact Nat.le_refl _
  |cons z r ih=>
   intro ks
   have h1:=ih (fx ks ((cW 1 z.2.1).map (·.1)))
   have h2:(fx ks ((cW 1 z.2.1).map (·.1))).length≤ks.length+((cW 1 z.2.1).map (·.1)).length:=yI _ _
   have h3:(cW 1 z.2.1).length≤(z.2.1.flatMap (cA 1)).length:=dC _
   have h4:yH (z::r)=(z.2.1.flatMap (cA 1)).length+yH r:=rfl
   rw[List.length_map] at h2
   rw[List.foldl_cons]
   omega
 have h:=key zs []
 have e:=congrArg List.length (wN zs)
 rw[List.length_map] at e
 rw[←e]
 have h:(LC zs).length≤0+yH zs:=h
 omega
theorem J6 (D:a9 K Ch "lost" "Change.lost" tK ["self"]) (T:Gu K mg C R G Pc Fo Ch uK uN uB uE uM uC uP uI uD uL uT eR eS eU) (c1:bg P w K mg base 9 "side_amounts" ["terms"] (lI C G Pc Fo)) (c2:aJ P w K mg base 8 Ch "kinds" ["self"] (BR C G Pc Fo Ch)):aJ P w K mg base 10 Ch "lost" ["self"] (GD C G Pc Fo Ch):=by
 obtain⟨_,_,cy⟩:=c1
 obtain⟨_,_,ia⟩:=c2
 refine D.di wQ (fun vs H Q E h=>?_) (fun f bA A outer s H vs Q E hr h=>?_)
 ·obtain⟨c,xs,ys,rfl,_⟩:=h
  rfl
 ·obtain⟨c,xs,ys,rfl,hC,aS,XC,h60,q⟩:=h
  have hu:=dz hr
  have big:(2000 :Nat)≤sizeLine:=by decide
  obtain⟨dx,l,r,hc,hl,Ij⟩:=id hC
  have hla:=List.length_append (as:=xs) (bs:=ys)
  refine⟨_,(ai
     (aB (i:=1) wQ.nd rfl (Or.inr rfl) (aH cy.ok (hr.mono (by decide)) rfl cy.g cy.kp cy.b .nil ay (aa (a0 (pv 0) rfl) ak)))
    (ai
     (aB (i:=2) wQ.nd rfl (Or.inr rfl) (aH cy.ok (hr.mono (by decide)) rfl cy.g cy.kp cy.b .nil ay (aa (a0 (pv 0) rfl) ak)))
    (ai
     (pK (i:=3) wQ.nd rfl (Or.inl rfl) (sc:=(aj tK)) (NX:=["self","lefts","rights","told"]) (N:=["kind","lefts","rights"]) (fr:=[none,some 1,some 2]) ⟨by rfl,by rfl,by decide+kernel,by decide+kernel,by decide+kernel,by rfl,by decide+kernel⟩ rfl rfl rfl (cN (aN (pv 0) T.b9 ia.m ia.ok (hr.mono (by decide)) ia.b .nil ay)) (fun _ _ _ _=>(aG (i:=0) (show (["kind","lefts","rights"]:List Str).Nodup by decide+kernel) rfl (Or.inl rfl) (Or.inr rfl))) (fun _ _ _ _=>fW) (fun _ _ _ _=>(bP (aa (pv 0) (aa (bR hu (pv 1) (pv 0) aq ⟨rfl,rfl,rfl,rfl⟩) (aa (bR hu (pv 2) (pv 0) aq ⟨rfl,rfl,rfl,rfl⟩) ak))))))
    (ao
     (aD (fk (sc:=(aj tK)) (NX:=["self","lefts","rights","told"]) (N:=["each"]) (fr:=[none]) ⟨by rfl,by rfl,by decide+kernel,by decide+kernel,by decide+kernel,by rfl,by decide+kernel⟩ rfl rfl rfl (cN (pv 3)) (fun _ _ _ _=>(aG (i:=0) (show (["each"]:List Str).Nodup by decide+kernel) rfl (Or.inl rfl) (Or.inr rfl))) (fun _ _ _ _=>(mq (aP oX (cE (Bd K rfl) (pv 0) aq (fun _ _=>rfl)) (cE (Bd K rfl) (pv 0) aq (fun _ _=>rfl)) (aV _)))) (fun _ _ _ _=>(pv 0)))))))),?_⟩
  refine⟨_,rfl,c,Ch,dx,_,_,rfl,hc,T.b9,T.gZ,eV _ _,l,xs,rfl,hl,fun x hx=>aS x (List.mem_append_left _ hx),by omega,fun d1 k1 H1 nd1 Ek hI1 Xm e1=>?_⟩
  refine⟨_,rfl,c,Ch,dx,_,_,rfl,e1 _ _ hc,T.b9,T.ji,gK _ _,r,ys,rfl,Ij.same e1,fun x hx=>aS x (List.mem_append_right _ hx),by omega,fun d2 k2 H2 nd2 hd2 Rz hz2 e2=>?_⟩
  have zA:=e1.trans e2
  have ZE:=e2 _ _ Ek
  dsimp only [du]
  refine⟨_,rfl,c,dx,_,rfl,zA _ _ hc,yr _ _ (by decide+kernel) (by decide+kernel),c,xs,ys,rfl,hC.same zA,aS,XC,h60,fun k ms H3 hK nk hk e3=>?_⟩
  have PR:=zA.trans e3
  have ZF:=e3 _ _ ZE
  have ZG:=e3 _ _ hd2
  have RG:(ms++[("+" :Str)]).length≤100:=by
   have h1:=hK.1.length_eq
   have h2:=GF (zs:=xs++ys)
   rw[List.length_append]
   show _+1≤100
   omega
  generalize hms:ms++[("+" :Str)]=mp at hk RG
  refine⟨k,rfl,⟨_,b5.of hk⟩,fun L hL=>kL (K:=K) (a:=k) (L:=L) (xs:=mp.map V.str) H3 (fun σ=>∃v:Option V,σ=[v,some (.ref d1),some (.ref d2)]) (fun i zs cz=>∃ts:List Addr,zs=ts.map V.ref∧ts.length=i∧(∀a∈ts,a≠L)∧Paired (GB cz) ts ((yK mp xs ys).take i))
   (b5.of hk) ?_ hL ⟨none,rfl⟩ (au.new hL) af ⟨[],rfl,rfl,(fun a ha=>by cases ha), .nil⟩ (by rw[List.length_map];omega) (fun i ys _ ⟨ps,e1,e2,_⟩=>by rw[e1,List.length_map,e2];exact Nat.le_refl _) ?_ ?_⟩
  ·rintro i ys Ha Hb hb ⟨ds,h1,h2,h3,h4⟩
   exact⟨ds,h1,h2,h3,l6 (fun a x ha z=>hb _ _ z (h3 a ha)) h4⟩
  ·rintro j w σ' H5 vs hj ⟨w1,rfl⟩ e5 o9 ⟨ts,rfl,AA,hnL,RJ⟩ N M hN
   rw[List.getElem?_map] at hj
   obtain⟨kk,XG,rfl⟩:∃m,mp[j]? =some m∧w=V.str m:=by
    cases hh:mp[j]? with
    |none=>rw[hh] at hj;cases hj
    |some m=>rw[hh] at hj;exact⟨m,rfl,(Option.some.inj hj).symm⟩
   have h1:=e5 _ _ ZF
   have h2:=e5 _ _ ZG
   have a1:=hI1.at (Sum.inr kk)
   have a2:=Rz.at (Sum.inr kk)
   rw[Xm] at a1
   rw[hz2] at a2
   refine⟨_,rfl,_,rfl,d1,rfl, .inl ⟨_, .inl h1⟩,_,rfl,_,f9.k (k:=Sum.inr kk) h1,_,rfl,d2,rfl, .inl ⟨_, .inl h2⟩,_,rfl,_,f9.k (k:=Sum.inr kk) h2,(by show 3≤sizeLine;decide),fun t ht=>?_⟩
   have st:=au.new (o:= .tup [.str kk,(b7 k1 (Sum.inr kk)).getD (.int 0),(b7 k2 (Sum.inr kk)).getD (.int 0)]) ht
   refine hN _ _ _ ⟨_,rfl⟩ (e5.trans st) (st _ _ o9) ⟨ts++[t],by rw[List.map_append];rfl,by rw[List.length_append,AA];rfl,fun a ha=>?_,?_⟩
   ·rcases List.mem_append.mp ha with ha|ha
    ·exact hnL a ha
    ·have ea:a=t:=by simpa using ha
     subst ea
     exact fun z=>by rw[z,o9] at ht;cases ht
   have GG:(yK mp xs ys)[j]? =some (kk,sumZ xs (Sum.inr kk),sumZ ys (Sum.inr kk)):=by unfold yK;rw[List.getElem?_map,XG];rfl
   rw[take_snoc GG]
   refine bS ?_ (aK (fun _ _ z=>st _ _ z) RJ)
   show (upd H5 t _) t=_
   rw[af,a1,a2]
  rintro H4 vs e4 Bw ⟨ts,rfl,AA,_,RJ⟩
  have ltr:(yK mp xs ys).length=mp.length:=by unfold yK;rw[List.length_map]
  rw[List.length_map] at AA
  rw[List.length_map,←ltr,List.take_length] at RJ
  dsimp only [du]
  refine⟨_,rfl,L,rfl,⟨_,b5.of Bw⟩,fun L2 sH=>tE (K:=K) (a:=L) (L:=L2) (xs:=ts.map V.ref) H4 (fun σ=>∃v:Option V,σ=[v]) (fun i zs=>∃us:List Addr,zs=us.map V.ref∧us.length≤i∧Paired (GB H4) us (((yK mp xs ys).take i).filter fun p=>!decide (p.2.1=p.2.2)))
   (b5.of Bw) sH ⟨none,rfl⟩ (au.new sH) af ⟨[],rfl,Nat.le_refl _, .nil⟩ (by rw[List.length_map];omega) (fun i ys ⟨ps,e1,e2,_⟩=>by rw[e1,List.length_map];exact e2) ?_ ?_⟩
  ·rintro j w σ' H5 vs hj ⟨w1,rfl⟩ e5 o9 ⟨us,rfl,LD,GH⟩ N M hN hM
   rw[List.getElem?_map] at hj
   obtain⟨t,ht,rfl⟩:∃m,ts[j]? =some m∧w=V.ref m:=by
    cases hh:ts[j]? with
    |none=>rw[hh] at hj;cases hj
    |some m=>rw[hh] at hj;exact⟨m,rfl,(Option.some.inj hj).symm⟩
   obtain⟨p,hp,Nc⟩:=bI RJ ht
   have Nc:H4 t=some (.tup [.str p.1, .int p.2.1, .int p.2.2]):=Nc
   refine⟨_,rfl,t,_,_,V.int p.2.1,rfl,rfl,iX.of (e5 _ _ Nc),rfl,_,rfl,t,_,_,V.int p.2.2,rfl,rfl,iX.of (e5 _ _ Nc),rfl,rfl,_,rfl,?_⟩
   by_cases hd:p.2.1=p.2.2
   ·refine A7 (by rw[hd]) ?_
    refine hM _ _ ⟨_,rfl⟩ e5 o9 ⟨us,rfl,by omega,?_⟩
    rw[take_snoc hp,List.filter_append]
    have:[p].filter (fun p=>!decide (p.2.1=p.2.2))=[]:=by simp [hd]
    rw[this,List.append_nil]
    exact GH
   ·refine RI (by intro z;injection z with z;exact hd z) ?_
    refine⟨_,rfl,hN _ _ _ ⟨_,rfl⟩ e5 o9 ⟨us++[t],by rw[List.map_append];rfl,by rw[List.length_append];show _+1≤_;omega,?_⟩⟩
    rw[take_snoc hp,List.filter_append]
    have:[p].filter (fun p=>!decide (p.2.1=p.2.2))=[p]:=by simp [hd]
    rw[this]
    refine bS ?_ ?_
    ·exact Nc
    ·exact GH
  rintro H5 vs e5 o9 ⟨us,rfl,LD,GH⟩
  have lts:=Paired.length RJ
  rw[List.length_map,lts,List.take_length] at GH
  have RK:=(PR.trans e4)
  rw[←hms] at GH
  exact q L2 us ms H5 hK (none_back RK sH) o9 (aK (fun _ _ z=>e5 _ _ z) GH) (RK.trans e5)
variable {uC uP uI uD uL uT:Tok} {St:Addr}
structure pD (K:PySem.W.Frag) (mg:Str→Option Value) (C R G Pc Fo St:Addr) (uK uN uB uE uM uC uP uI uD uL uT:Tok):Prop extends lC K mg C R G Pc Fo uK uN uB uE uM uC uP uI uD uL uT where
 jF:mg "dict" =none
 n_sum:mg "sum" =none
 bQ:sy K St
 eO:cG K St "amounts"
 qa:cG K St "gone"
 J7:mg "Store" =some (.ref St)
theorem XH:¬(("amounts" :Str)="gone"):=by decide+kernel
def yL (d g:Addr):List (Str×V):=cL "gone" (.ref g) (cL "amounts" (.ref d) [])
theorem iJ (d g:Addr):(yL d g).lookup ("amounts" :Str)=some (.ref d):=by
 unfold yL
 rw[az,if_neg XH,az,if_pos rfl]
theorem yM (d g:Addr):(yL d g).lookup ("gone" :Str)=some (.ref g):=by
 unfold yL
 rw[az,if_pos rfl]
theorem jI (d g:Addr) {m:Str} (h1:¬m="gone") (h2:¬m="amounts"):(yL d g).lookup m=none:=by
 unfold yL
 rw[az,if_neg h1,az,if_neg h2]
 all_goals rfl
def jT (St:Addr) (H:Hp) (st d g:Addr):Prop:=∃dx,H st=some (.ins St dx (yL d g))
def uy (x:Str):Prop:=∃fm:Fm,cS fm∧x=⟨(fL fm).toArray⟩
def AB (St:Addr):Sp:=fun vs H Q _=>∃(st d g:Addr) (x:Str) (kvs:List (Key×V)),vs=[.ref st, .str x]∧jT St H st d g∧H d=some (.dK kvs)∧bu kvs∧uy x∧∀H',au H H'→Q (.int (aO kvs (Sum.inr x))) H'
def GI (St:Addr):Sp:=fun vs H Q _=>∃(st d g:Addr) (x:Str) (m:Int) (kvs:List (Key×V)),vs=[.ref st, .str x, .int m]∧jT St H st d g∧H d=some (.dK kvs)∧bu kvs∧kvs.length≤1000∧uy x∧∀H',Kept d H H'→H' d=some (.dK (b8 kvs (Sum.inr x) m))→Q .cU H'
theorem NO:ax ["self","text"] ["self","text"] (aj Bh):=⟨rfl,rfl,rfl,by decide+kernel,rfl,by decide+kernel,by decide+kernel⟩
theorem J8 (D:a9 K St "have" "Store.have" Bh ["self","text"]) (T:pD K mg C R G Pc Fo St uK uN uB uE uM uC uP uI uD uL uT) (c1:bg P w K mg base 11 "read_formula" ["text"] (By C G Pc Fo 1)):aJ P w K mg base 12 St "have" ["self","text"] (AB St):=by
 obtain⟨_,_,fB⟩:=c1
 refine D.di NO (fun vs H Q E h=>?_) (fun f bA A outer s H vs Q E hr h=>?_)
 ·obtain⟨st,d,g,x,kvs,rfl,_⟩:=h
  rfl
 ·obtain⟨st,d,g,x,kvs,rfl,⟨dx,fI⟩,hd,hI,⟨fm,RA,ex⟩,q⟩:=h
  have hu:=dz hr
  have rC:x.cps.toList=wL 1 fm.1 fm.2:=by rw[ex];rfl
  have hx4:x.length≤400:=by
   have:=RA.2.1
   rw[ex,bj]
   omega
  refine⟨_,(ai
     (bz (aH fB.ok (hr.mono (by decide)) rfl fB.g fB.kp fB.b .nil ay (aa (pv 1) ak)))
    (ao
     (aD (bR hu (a0 (pv 0) rfl) (pv 1) aq ⟨rfl,rfl,rfl,rfl⟩)))),?_⟩
  refine⟨_,rfl,x,fm.1,fm.2,rfl,rC,RA.1,by decide,hx4,fun f H1 nf hF e1=>?_⟩
  refine⟨_,rfl,st,St,dx,_,_,rfl,e1 _ _ fI,T.bQ,T.eO,iJ _ _,d,rfl, .inl ⟨_, .inl (e1 _ _ hd)⟩,_,rfl,_,f9.k (k:=Sum.inr x) (e1 _ _ hd),?_⟩
  have e:=hI.at (Sum.inr x)
  rw[e]
  exact q _ e1
theorem RL:ax ["self","text","many"] ["self","text","many"] (aj Jy):=⟨rfl,rfl,rfl,by decide+kernel,rfl,by decide+kernel,by decide+kernel⟩
theorem NP (D:a9 K St "put" "Store.put" Jy ["self","text","many"]) (T:pD K mg C R G Pc Fo St uK uN uB uE uM uC uP uI uD uL uT) (c1:aJ P w K mg base 12 St "have" ["self","text"] (AB St)):aJ P w K mg base 13 St "put" ["self","text","many"] (GI St):=by
 obtain⟨_,_,dt⟩:=c1
 refine D.di RL (fun vs H Q E h=>?_) (fun f bA A outer s H vs Q E hr h=>?_)
 ·obtain⟨st,d,g,x,m,kvs,rfl,_⟩:=h
  rfl
 ·obtain⟨st,d,g,x,m,kvs,rfl,⟨dx,fI⟩,hd,hI,hl,hx,q⟩:=h
  have hu:=dz hr
  refine⟨_,(ao
     (cQ hu (a0 (pv 0) rfl) (pv 1) (aE cf (bU (pv 0) T.bQ dt.m dt.ok (hr.mono (by decide)) dt.b .nil ay (aa (pv 1) ak)) (pv 2)) rfl)),?_⟩
  refine⟨_,rfl,st,dx,_,rfl,fI,jI _ _ (by decide+kernel) (by decide+kernel),_,rfl,st,d,g,x,kvs,rfl,⟨dx,fI⟩,hd,hI,hx,fun H1 e1=>?_⟩
  refine⟨_,rfl,_,_,rfl,rfl,_,rfl,st,St,dx,_,_,rfl,e1 _ _ fI,T.bQ,T.eO,iJ _ _,_,rfl,d,_,rfl,i0.k (k:=Sum.inr x) (e1 _ _ hd) (kH hl),?_⟩
  refine q _ (fun b o z n=>?_) af
  rw[ah n]
  exact e1 _ _ z
variable {uC uP uI uD uL uT:Tok} {St:Addr}
theorem yN {kvs:List (Key×V)} {k:Key} (h:¬k∈kvs.map (·.1)):b7 kvs k=none:=by
 cases e:b7 kvs k with
 |none=>rfl
 |some v=>exact absurd (pI e) h
theorem GJ {kvs:List (Key×V)} {k:Key} (h:¬k∈kvs.map (·.1)) (n:Int):b8 kvs k n=kvs++[(k, .int n)]:=by
 unfold b8
 rw[mi _ (yN h),eD (yN h),Int.zero_add]
theorem BU {kvs:List (Key×V)} (hn:(kvs.map (·.1)).Nodup) {k:Key} {z:Int} (h:(k,V.int z)∈kvs):aO kvs k=z:=fw (ja hn h)
theorem take_out {kvs:List (Key×V)} (hn:(kvs.map (·.1)).Nodup) {i:Nat} {p:Key×V} (h:kvs[i]? =some p):¬p.1∈(kvs.take i).map (·.1):=by
 intro m
 have e:kvs.take (i+1)=kvs.take i++[p]:=take_snoc h
 have hs:((kvs.take (i+1)).map (·.1)).Nodup:=hn.sublist ((List.take_sublist _ _).map _)
 rw[e,List.map_append,List.nodup_append] at hs
 exact hs.2.2 _ m p.1 (by simp) rfl
def BV (St:Addr):Sp:=fun vs H Q _=>∃(p dx:Addr) (v:V) (kvs:List (Key×V)),vs=[.ref p,v]∧H p=some (.ins St dx [])∧((v= .cU∧kvs=[])∨∃a,v= .ref a∧H a=some (.dK kvs))∧bu kvs∧(kvs.map (·.1)).Nodup∧(∀q∈kvs,∃x,q.1=Sum.inr x∧uy x)∧kvs.length≤900∧
 ∀d g H',H d=none→H g=none→d≠g→jT St H' p d g→H' d=some (.dK kvs)→H' g=some (.lst [])→(∀b o,H b=some o→b≠p→H' b=some o)→Q .cU H'
theorem BW:ax ["self","amounts","text"] ["self","amounts"] (aj fQ):=⟨rfl,rfl,rfl,by decide+kernel,rfl,by decide+kernel,by decide+kernel⟩
theorem GK (D:Js K St "Store.__init__" fQ ["self","amounts"]) (T:pD K mg C R G Pc Fo St uK uN uB uE uM uC uP uI uD uL uT) (c1:aJ P w K mg base 13 St "put" ["self","text","many"] (GI St)):Fv P w K mg base qB 14 St ["self","amounts"] (BV St):=by
 obtain⟨_,_,dS⟩:=c1
 refine D.di BW (fun vs H Q E h=>?_) (fun f bA A outer s H vs Q E hr h=>?_)
 ·obtain⟨p,dx,v,kvs,rfl,_⟩:=h
  rfl
 ·obtain⟨p,dx,v,kvs,rfl,hp,hv,hI,hn,hg,hl,q⟩:=h
  have hu:=dz hr
  refine⟨_,(ai
     (eK (pv 0) dw rfl)
    (ai
     (eK (pv 0) (cD ak) rfl)
    (ao
     (bG (qo (u9 (pv 1)))
      (ao
       (dI (bW PassesOwn.never rfl (cR (pv 1)) (aG (i:=2) BW.nd rfl (Or.inl rfl))
        (ao
         (bz (bU (pv 0) T.bQ dS.m dS.ok (hr.mono (by decide)) dS.b .nil ay (aa (pv 2) (aa (b6 hu (pv 1) (pv 2) (fun _ _=>rfl)) ak))))))))
      aR)))),?_⟩
  refine fun d hd=>?_
  have RM:p≠d:=ag hp hd
  refine⟨_,rfl,p,St,dx,[],rfl,(by rw[ah RM];exact hp),T.bQ,T.eO,(by show 0<1000;decide),(by show 0≤sizeLine;decide),fun g Bx=>?_⟩
  have ZH:p≠g:=fun z=>by rw[z,af] at Bx;cases Bx
  rw[ah (Ne.symm ZH)] at Bx
  have Aj:d≠g:=fun z=>by rw[z,af] at Bx;cases Bx
  rw[ah (Ne.symm Aj)] at Bx
  refine⟨_,rfl,p,St,dx,_,rfl,(by rw[ah ZH,af]),T.bQ,T.qa,(by show 1<1000;decide),?_⟩
  generalize XI:upd (upd (upd (upd H d (.dK [])) p (.ins St dx (cL "amounts" (.ref d) []))) g (.lst [])) p (.ins St dx (cL "gone" (.ref g) (cL "amounts" (.ref d) [])))=H1
  have ZI:H1 p=some (.ins St dx (yL d g)):=by rw[←XI,af];rfl
  have h1d:H1 d=some (.dK []):=by rw[←XI,ah (Ne.symm RM),ah Aj,ah (Ne.symm RM),af]
  have h1g:H1 g=some (.lst []):=by rw[←XI,ah (Ne.symm ZH),af]
  have ZJ:∀b o,H b=some o→b≠p→H1 b=some o:=fun b o z n=>by
   rw[←XI,ah n,ah (ag z Bx),ah n,ah (ag z hd)]
   exact z
  rcases hv with ⟨rfl,rfl⟩ | ⟨a,rfl,ha⟩
  ·exact⟨_,rfl,_,rfl,cH (q d g H1 hd Bx Aj ⟨dx,ZI⟩ h1d h1g ZJ)⟩
  ·have nap:a≠p:=cI ha hp (by intro z;cases z)
   have ZK:=ZJ a _ ha nap
   have XJ:a≠d:=ag ha hd
   have XH:a≠g:=ag ha Bx
   refine⟨_,rfl,_,rfl,ik ?_⟩
   refine⟨_,rfl,a,kvs,rfl,ZK,fun o nf=>dA nf (fun i σ H'=>∃v2:Option V,σ=[some (.ref p),some (.ref a),v2]∧H' d=some (.dK (kvs.take i))∧∀b o',H1 b=some o'→b≠d→H' b=some o') ?_ (fun i σ H' ⟨_,_,_,e⟩=>e _ _ ZK XJ) ?_ ?_⟩
   ·exact⟨none,rfl,h1d,fun b o' z _=>z⟩
   ·rintro i k v σ H' hi ⟨v2,rfl,fK,e⟩
    obtain⟨x,ex,gx⟩:=hg _ (List.mem_of_getElem? hi)
    have ex:k=Sum.inr x:=ex
    subst ex
    have hv:=hI.dM (List.mem_of_getElem? hi)
    obtain⟨z,ez⟩:=hI _ (List.mem_of_getElem? hi)
    have ez:v=V.int z:=ez
    subst ez
    have RH:aO kvs (Sum.inr x)=z:=by
     have m:=List.mem_of_getElem? hi
     exact fw (by rw[hv];exact congrArg some (by rw[BU hn m]))
    have xT:(upd H' a (.fH o (.dK kvs))) p=some (.ins St dx (yL d g)):=by rw[ah (Ne.symm nap)];exact e _ _ ZI RM
    have hdd:(upd H' a (.fH o (.dK kvs))) d=some (.dK (kvs.take i)):=by rw[ah (Ne.symm XJ)];exact fK
    refine⟨_,rfl,p,dx,_,rfl,xT,jI _ _ (by decide+kernel) (by decide+kernel),_,rfl,_,rfl,_,rfl,a,V.int z,rfl, .inl ⟨_,Sum.inr x, .inr ⟨o,af⟩,rfl,(by rw[hv,RH])⟩,p,d,g,x,z,kvs.take i,rfl,⟨dx,xT⟩,hdd,fun q hq=>hI q (List.mem_of_mem_take hq),?_,gx,fun H2 kp hd2=>?_⟩
    ·rw[List.length_take];omega
    ·refine⟨kp _ _ af XJ,some (.str x),rfl,?_,fun b o' z' nb=>?_⟩
     ·rw[ah (Ne.symm XJ),hd2,GJ (take_out hn hi),take_snoc hi]
     ·by_cases ba:b=a
      ·subst ba
       rw[af]
       rw[ZK] at z'
       exact z'
      ·rw[ah ba]
       refine kp _ _ ?_ nb
       rw[ah ba]
       exact e _ _ z' nb
   ·rintro σ H' ⟨v2,rfl,fK,e⟩
    rw[List.take_length] at fK
    exact q d g H' hd Bx Aj ⟨dx,e _ _ ZI RM⟩ fK (e _ _ h1g (Ne.symm Aj)) fun b o' z nb=>e _ _ (ZJ b o' z nb) (ag z hd)
variable {uC uP uI uD uL uT:Tok} {St:Addr}
def zv:V→Int
 | .int i=>i
 |_=>0
def lD (kvs:List (Key×V)):List (Key×V):=kvs.filter fun q=>decide (0<zv q.2)
def yO (St:Addr):Sp:=fun vs H Q _=>∃(st d g:Addr) (kvs:List (Key×V)),vs=[.ref st]∧jT St H st d g∧H d=some (.dK kvs)∧bu kvs∧(kvs.map (·.1)).Nodup∧kvs.length≤900∧∀e H',H e=none→H' e=some (.dK (lD kvs))→au H H'→Q (.ref e) H'
theorem GL:ax ["self"] ["self"] (aj mM):=⟨rfl,rfl,rfl,by decide+kernel,rfl,by decide+kernel,by decide+kernel⟩
def PvS (L:Addr) (kvs:List (Key×V)) (H0:Hp):Nat→List V→Hp→Prop:=fun i ys H'=>∃ps:List (Addr×Key×V),ys=ps.map (fun p=>V.ref p.1)∧(∀p∈ps,H' p.1=some (.tup [kV p.2.1,p.2.2])∧p.1≠L)∧ps.map (·.2)=lD (kvs.take i)
theorem BX (kvs:List (Key×V)):(lD kvs).length≤kvs.length:=List.length_filter_le _ _
theorem DO (D:a9 K St "stocks" "Store.stocks" mM ["self"]) (T:pD K mg C R G Pc Fo St uK uN uB uE uM uC uP uI uD uL uT):aJ P w K mg base 1 St "stocks" ["self"] (yO St):=by
 refine D.di GL (fun vs H Q E h=>?_) (fun f bA A outer s H vs Q E hr h=>?_)
 ·obtain⟨st,d,g,kvs,rfl,_⟩:=h
  rfl
 ·obtain⟨st,d,g,kvs,rfl,⟨dx,fI⟩,hd,hI,hn,hl,q⟩:=h
  have hu:=dz hr
  have big:(2000 :Nat)≤sizeLine:=by decide
  refine⟨_,(ao
     (aD (bK (lQ rfl) rfl T.jF iu (aa (pJ (fk (sc:=(aj mM)) (NX:=["self"]) (N:=["text","many"]) (fr:=[none,none]) ⟨by rfl,by rfl,by decide+kernel,by decide+kernel,by decide+kernel,by rfl,by decide+kernel⟩ rfl rfl rfl (Fu (a0 (pv 0) rfl)) (fun _ _ _ _=>(vq K 2 rfl rfl (bo (aG (i:=0) (show (["text","many"]:List Str).Nodup by decide+kernel) rfl (Or.inl rfl) (Or.inr rfl)) (bo (aG (i:=1) (show (["text","many"]:List Str).Nodup by decide+kernel) rfl (Or.inl rfl) (Or.inr rfl)) dW)))) (fun _ _ _ _=>(mq (aP lF (pv 1) aq (aV _)))) (fun _ _ _ _=>(bP (aa (pv 0) (aa (pv 1) ak)))))) ak)))),?_⟩
  refine⟨_,rfl,st,St,dx,_,_,rfl,fI,T.bQ,T.eO,iJ _ _,d,kvs,rfl,hd,fun o nf L hL=>?_⟩
  have PU:L≠d:=fun z=>by rw[z,af] at hL;cases hL
  have hz:(upd H d (.fH o (.dK kvs))) d=some (.fH o (.dK kvs)):=af
  refine De (J:=Q9 d o kvs) (L:=L) kvs.length (upd H d (.fH o (.dK kvs))) (fun σ=>∃v u:Option V,σ=[v,u]) (PvS L kvs H) (items_go hz) (Aa hz) ?_ hL ⟨none,none,rfl⟩ (au.new hL) af ⟨[],rfl,(fun p hp=>by cases hp),rfl⟩ (by omega) ?_ ?_ ?_
  ·rintro i ys H1 H2 e ⟨ps,e1,e2,e3⟩
   exact⟨ps,e1,fun p hp=>⟨e _ _ (e2 p hp).1 (e2 p hp).2,(e2 p hp).2⟩,e3⟩
  ·rintro i ys H1 ⟨ps,e1,_,e3⟩
   have h1:=congrArg List.length e3
   have h2:=BX (kvs.take i)
   rw[List.length_map] at h1
   rw[List.length_take] at h2
   rw[e1,List.length_map]
   omega
  ·rintro i σ H2 ys hi ⟨v,u,rfl⟩ hs sH ⟨ps,rfl,e2,e3⟩ N M hN hM y H3 ⟨t,kk,vv,C1,ht,rfl,rfl⟩
   obtain⟨z,ez⟩:=hI _ (List.mem_of_getElem? C1)
   have ez:vv=V.int z:=ez
   subst ez
   have s3:=hs.trans (au.new (o:= .tup [kV kk, .int z]) ht)
   have ni:(upd H2 t (.tup [kV kk, .int z])) L=some (.lst (ps.map fun p=>V.ref p.1)):=by rw[ah (ag sH ht)];exact sH
   refine⟨t,_,rfl,iX.of af,rfl,_,_,rfl,_,_,rfl,rfl,_,rfl,_,_,rfl,rfl,_,rfl,fG (fun ec=>?_) fun ec=>?_⟩
   ·have ec:0<z:=by simpa using ec
    refine⟨_,rfl,_,rfl,(by show 2≤sizeLine;decide),fun t2 RN=>?_⟩
    have s4:=au.new (o:= .tup [kV kk, .int z]) RN
    have PV:L≠t2:=ag ni RN
    refine hN _ _ _ ⟨_,_,rfl⟩ (s3.trans s4) (s4 _ _ ni) ⟨ps++[(t2,kk, .int z)],by rw[List.map_append];rfl,fun p hp=>?_,?_⟩
    ·rcases List.mem_append.mp hp with hp|hp
     ·exact⟨s4 _ _ (au.new ht _ _ (e2 p hp).1),(e2 p hp).2⟩
     ·have e':p=(t2,kk, .int z):=by simpa using hp
      subst e'
      exact⟨af,Ne.symm PV⟩
    ·unfold lD at e3 ⊢
     rw[List.map_append,e3,take_snoc C1,List.filter_append,show [(kk,V.int z)].filter (fun q=>decide (0<zv q.2))=[(kk,V.int z)] by simp [zv,ec]]
     rfl
   ·have ec:¬0<z:=by simpa using ec
    refine hM _ _ ⟨_,_,rfl⟩ s3 ni ⟨ps,rfl,fun p hp=>⟨au.new ht _ _ (e2 p hp).1,(e2 p hp).2⟩,?_⟩
    unfold lD at e3 ⊢
    rw[e3,take_snoc C1,List.filter_append,show [(kk,V.int z)].filter (fun q=>decide (0<zv q.2))=[] by simp [zv,ec],List.append_nil]
  ·rintro H2 ys hs sH ⟨ps,rfl,e2,e3⟩
   rw[List.take_length] at e3
   have s2:au H (upd H2 d (.dK kvs)):=fun b o' z'=>by
    by_cases bd:b=d
    ·subst bd
     rw[af]
     rw[hd] at z'
     exact z'
    ·rw[ah bd]
     exact hs _ _ (by rw[ah bd];exact z')
   refine⟨d,o,kvs,hs _ _ hz,nf,L,ps,rfl,by rw[ah PU];exact sH,fun p hp=>?_,fun e he=>?_⟩
   ·have p1:=(e2 p hp).1
    rw[ah (cI p1 (hs _ _ hz) (by intro z;cases z))]
    exact p1
   ·have e8:cu [] (ps.map (·.2))=lD kvs:=by
     rw[e3,nj _ [] (by rw[List.nil_append];exact(List.filter_sublist.map _).nodup hn),List.nil_append]
    rw[e8]
    exact q e _ (none_back s2 he) af (s2.trans (au.new he))
theorem NQ:ax ["self"] ["self"] (aj yb):=⟨rfl,rfl,rfl,by decide+kernel,rfl,by decide+kernel,by decide+kernel⟩
variable {uC uP uI uD uL uT:Tok} {St:Addr}
theorem uz:∀(d:Nat) (m:Int) (t:Tr),tV d t→∀p∈bp d m t,∃k,lS k∧p.1=⟨k.toArray⟩
 |d,m, .one k n,h,p,hp=>by
  have e:bp d m (.one k n)=[(⟨k.toArray⟩,n*m)]:=by cases d<;>rfl
  rw[e] at hp
  have h:lS k∧1≤n∧n≤999:=by cases d<;>exact h
  have ep:p=(⟨k.toArray⟩,n*m):=by simpa using hp
  exact⟨k,h.1,by rw[ep]⟩
 |0,_, .gr _ _,h,_,_=>h.elim
 |d+1,m, .gr ts n,h,p,hp=>by
  obtain⟨t,ht,hp⟩:=List.mem_flatMap.mp hp
  exact uz d (n*m) t (h.2.1 t ht) p hp
theorem NR {k:List Nat} (hk:lS k) {n:Int} (n1:1≤n) (n2:n≤999):DE [.one k n]:=by
 refine⟨by simp,fun t ht=>?_,?_,(by show 1≤5;decide)⟩
 ·have e:t= .one k n:=by simpa using ht
  subst e
  exact⟨hk,n1,n2⟩
 ·have h1:=rH hk
  have h2:=rG n1 n2
  show ((k++aQ n)++[]).length≤23
  rw[List.append_nil,List.length_append]
  omega
theorem BY {k:List Nat} (hk:lS k):cS ([(1,[.one k 1])],0):=Ly (Gb (NR hk (by decide) (by decide))) (by decide) (by decide)
theorem GN (k:List Nat):fL ([(1,[.one k 1])],0)=k:=by
 show (k++aQ 1++[])++([]++jh 0)=_
 rw[Rw,show jh 0=[] from rfl]
 simp
theorem LF:cS ([], -1):=⟨rfl,(by show 3≤33;decide),(by show 0≤7;decide)⟩
theorem NS:(⟨(fL ([], -1)).toArray⟩:Str)="e^-" :=by decide+kernel
theorem qb {kvs:List (Key×V)} {k:Key} {v:V} {q:Key×V} (h:q∈putK kvs k v):q∈kvs∨q=(k,v):=by
 unfold putK at h
 split at h
 ·obtain⟨r,hr,e⟩:=List.mem_map.mp h
  subst e
  split
  ·rename_i e
   exact .inr (by rw[e])
  ·exact .inl hr
 ·rcases List.mem_append.mp h with h|h
  ·exact .inl h
  ·exact .inr (by simpa using h)
theorem la {Pk:Key→Prop} (t:Int):∀(as:List (Str×Int)) (acc:List (Key×V)),(∀q∈acc,Pk q.1)→(∀p∈as,Pk (Sum.inr p.1))→∀q∈a8 t acc as,Pk q.1
 | [],_,h,_,q,hq=>h q hq
 |p::r,acc,h,h',q,hq=>by
  refine la t r (b8 acc (Sum.inr p.1) (p.2*t)) (fun q hq=>?_) (fun p hp=>h' p (List.mem_cons_of_mem _ hp)) q hq
  rcases qb hq with hq|hq
  ·exact h q hq
  ·rw[hq]
   exact h' p (List.mem_cons_self ..)
theorem wR {x:Fm} (h:cS x):∀q∈cW 1 x.1,∃k,lS k∧q.1=Sum.inr (⟨k.toArray⟩:Str):=by
 refine la (Pk:=fun j=>∃k,lS k∧j=Sum.inr (⟨k.toArray⟩:Str)) 1 _ [] (fun q hq=>by cases hq) fun p hp=>?_
 obtain⟨y,hy,hp⟩:=List.mem_flatMap.mp hp
 have zy:=k7 h.1 y hy
 obtain⟨t,ht,hp⟩:=List.mem_flatMap.mp hp
 obtain⟨k,hk,e⟩:=uz 1 y.1 t (zy.2.1 t ht) p hp
 exact⟨k,hk,by rw[e]⟩
theorem RO (x:Fm):((cW 1 x.1).map (·.1)).Nodup:=iH _
theorem J9 (k:Str) (k':Key):aO [(Sum.inr k, .int 1)] k'=if k'=Sum.inr k then 1 else 0:=iF [] (Sum.inr k) k' 1
def Told (ws:List Fm) (s:Str):Prop:=s="e^-" ∨(∃w∈ws,s=⟨(fL w).toArray⟩)∨∃w∈ws,(Sum.inr s:Key)∈(cW 1 w.1).map (·.1)
theorem oN {ws:List Fm} (h:∀w∈ws,cS w) {s:Str} (t:Told ws s):uy s:=by
 rcases t with rfl| ⟨w,hw,rfl⟩ | ⟨w,hw,hs⟩
 ·exact⟨_,LF,NS.symm⟩
 ·exact⟨w,h w hw,rfl⟩
 ·obtain⟨q,hq,e⟩:=List.mem_map.mp hs
  obtain⟨k,hk,e'⟩:=wR (h w hw) q hq
  rw[e] at e'
  injection e' with e'
  exact⟨_,BY hk,by rw[GN,e']⟩
variable {uC uP uI uD uL uT:Tok} {St:Addr}
theorem BZ:ax ["_law_cell","_law_prime","_law_number"] ["_law_cell","_law_prime"] (aj vL):=⟨rfl,rfl,rfl,by decide+kernel,rfl,by decide+kernel,by decide+kernel⟩
def LG:Sp:=fun vs H Q _=>∃(c p:Int),vs=[.int c, .int p]∧0<p∧p<2^60∧∀n,Q (.int n) H
theorem NT (D:Def K mg "_law_mixed" "_law_mixed" vL ["_law_cell","_law_prime"]):bg P w K mg base 1 "_law_mixed" ["_law_cell","_law_prime"] LG:=by
 refine D.di BZ (fun vs H Q E h=>?_) (fun f bA A outer s H vs Q E hr h=>?_)
 ·obtain⟨c,p,rfl,_⟩:=h
  rfl
 ·obtain⟨c,p,rfl,p0,p1,q⟩:=h
  have m0:0≤c%2147483647:=Int.emod_nonneg _ (by decide)
  have m1:c%2147483647<2147483647:=Int.emod_lt_of_pos _ (by decide)
  refine⟨_,(ai
     (aB (i:=2) BZ.nd rfl (Or.inl rfl) (aE cf (aE cK (pv 0) aq) aq))
    (ao
     (aD (aE cK (aE cf (aE gT (aE gT (pv 2) (pv 2)) aq) (pv 2)) (pv 1))))),?_⟩
  refine⟨_,rfl,_,_,rfl,rfl,(by show (0 :Int) <2147483647;decide),_,_,rfl,rfl,?_⟩
  refine⟨_,rfl,_,rfl,_,_,rfl,rfl, .inl ⟨by omega,by omega⟩,_,_,rfl,rfl, .inr ⟨by decide,by decide⟩,_,rfl,_,_,rfl,rfl,_,rfl,_,_,rfl,rfl,p0,q _⟩
theorem NU:aQ 12=[49,50]:=by decide+kernel
theorem ZL:aQ 3=[51]:=by decide+kernel
theorem zA:(".12" :Str)=⟨[46,49,50].toArray⟩:=by decide+kernel
theorem ZM:(")3" :Str)=⟨[41,51].toArray⟩:=by decide+kernel
theorem RP (ts:List Tr) (k:List Nat):wL 1 [(1,ts),(12,[.one k 1])] 0=ts.flatMap (cn 1)++([46,49,50]++k):=by
 show ts.flatMap (cn 1)++(((46::(aQ 12++(k++aQ 1++[])))++[])++[])=_
 rw[NU,Rw]
 simp
theorem RQ {ts:List Tr} (h:DE ts) {k:List Nat} (hk:lS k):XA [(1,ts),(12,[.one k 1])]:=by
 obtain⟨h1,h2,h3,h4⟩:=h
 refine⟨by simp,fun n n1 n2=>⟨rfl,fun x hx=>?_,n1,n2⟩,?_,?_⟩
 ·have e:x=(1,ts)∨x=(12,[.one k 1]):=by simpa using hx
  rcases e with e|e
  ·subst e
   exact⟨h1,h2,(by show (1 :Int)≤1;decide),(by show (1 :Int)≤999;decide)⟩
  ·subst e
   refine⟨by simp,fun u hu=>?_,(by show (1 :Int)≤12;decide),(by show (12 :Int)≤999;decide)⟩
   have e:u= .one k 1:=by simpa using hu
   subst e
   exact⟨hk,by decide,by decide⟩
 ·have:=rH hk
  rw[RP,List.length_append,List.length_append]
  show _+(3+_)≤29
  omega
 ·show (ts.flatMap (bp 1 1)++([((⟨k.toArray⟩:Str),(1 :Int)*12)]++[]++[])).length≤7
  rw[List.length_append]
  show _+1≤7
  omega
theorem RS (ts:List Tr) (k:List Nat):cW 1 [(1,ts),(12,[.one k 1])]=b8 (cW 1 [(1,ts)]) (Sum.inr ⟨k.toArray⟩) 12:=by
 have e:([(1,ts),(12,[.one k 1])]:List jV).flatMap (cA 1)=([(1,ts)]:List jV).flatMap (cA 1)++[((⟨k.toArray⟩:Str),1*12)]:=by
  show ts.flatMap (bp 1 1)++([((⟨k.toArray⟩:Str),(1 :Int)*12)]++[]++[])=(ts.flatMap (bp 1 1)++[])++_
  simp
 unfold cW a8
 rw[e,List.foldl_append]
 rfl
def K3 (k0 k1 k2:List Nat):List Key:=[Sum.inr ⟨k0.toArray⟩,Sum.inr ⟨k1.toArray⟩,Sum.inr ⟨k2.toArray⟩]
theorem ZN {k0 k1 k2:List Nat} {kvs:List (Key×V)} (hn:(kvs.map (·.1)).Nodup) (h:∀q∈kvs,q.1∈K3 k0 k1 k2):kvs.length≤3:=by
 have:(kvs.map (·.1)).length≤(K3 k0 k1 k2).length:=List.Nodup.length_le_of_subset hn fun k hk=>by
  obtain⟨q,hq,rfl⟩:=List.mem_map.mp hk
  exact h q hq
 rw[List.length_map] at this
 exact this
theorem GO {k0 k1 k2:List Nat} (h0:lS k0) (h1:lS k1) (h2:lS k2) {i:Nat} (hi:i<3):∃k,lS k∧(Sum.inr (⟨k.toArray⟩:Str):Key)∈K3 k0 k1 k2∧zP [V.str ⟨k0.toArray⟩, .str ⟨k1.toArray⟩, .str ⟨k2.toArray⟩] (0+(i:Int))=some (V.str ⟨k.toArray⟩):=by
 match i,hi with
 |0,_=>exact⟨k0,h0,by simp [K3],rfl⟩
 |1,_=>exact⟨k1,h1,by simp [K3],rfl⟩
 |2,_=>exact⟨k2,h2,by simp [K3],rfl⟩
theorem NV {i:Nat} (hi:i<3):∃z,0<z∧z<100∧zP [V.int 1, .int 5, .int 25] (0+(i:Int))=some (V.int z):=by
 match i,hi with
 |0,_=>exact⟨1,by decide,by decide,rfl⟩
 |1,_=>exact⟨5,by decide,by decide,rfl⟩
 |2,_=>exact⟨25,by decide,by decide,rfl⟩
def PvM (o:Obj) (KV:List (Key×V)) (d D2:Addr) (H2:Hp):Nat→L2.St→Hp→Prop:=fun i σ H'=>∃(v:Option V) (ps:List (Addr×Key×V)),σ=[v,some (.ref d)]∧H' d=some (.fH o (.dK KV))∧H' D2=some (.lst (ps.map fun p=> .ref p.1))∧(∀p∈ps,H' p.1=some (.tup [kV p.2.1,p.2.2]))∧ps.map (·.2)=((KV.take i).map fun p=>(p.1,V.int (3*aO KV p.1)))∧∀b o',H2 b=some o'→b≠d→H' b=some o'
def yP:Sp:=fun vs H Q _=>∃(c:Int) (kl:Addr) (k0 k1 k2:List Nat),vs=[.int c, .ref kl]∧H kl=some (.lst [.str ⟨k0.toArray⟩, .str ⟨k1.toArray⟩, .str ⟨k2.toArray⟩])∧lS k0∧lS k1∧lS k2∧∀(t:Addr) (x:Fm) H',cS x→(cW 1 x.1).length≤3→yp H' t x→au H H'→Q (.ref t) H'
theorem dU:ax ["_law_cell","_law_kinds","_law_counts","_law_text_here","_law_k","_law_count_here","_law_charge"] ["_law_cell","_law_kinds"] (aj mO):=⟨rfl,rfl,rfl,by decide+kernel,rfl,by decide+kernel,by decide+kernel⟩
theorem DP (D:Def K mg "_law_matter" "_law_matter" mO ["_law_cell","_law_kinds"]) (T:pD K mg C R G Pc Fo St uK uN uB uE uM uC uP uI uD uL uT) (c4:bg P w K mg base 1 "_law_figures" ["_law_count_here"] ki):
  bg P w K mg base 2 "_law_matter" ["_law_cell","_law_kinds"] yP:=by
 obtain⟨_,_,dj⟩:=c4
 refine D.di dU (fun vs H Q E h=>?_) (fun f bA A outer s H vs Q E hr h=>?_)
 ·obtain⟨c,kl,k0,k1,k2,rfl,_⟩:=h
  rfl
 ·obtain⟨c,kl,k0,k1,k2,rfl,Ka,NW,ZO,ZP,q⟩:=h
  have hu:=dz hr
  have RT:=hr.nX
  have big:(2000 :Nat)≤sizeLine:=by decide
  refine⟨_,(ai
     (aB (i:=2) dU.nd rfl (Or.inr rfl) dw)
    (ai
     (aB (i:=3) dU.nd rfl (Or.inl rfl) bJ)
    (ai
     (bW PassesOwn.never rfl (gP rfl T.kS (aa aq ak)) (aG (i:=4) dU.nd rfl (Or.inl rfl))
      (ai
       (aB (i:=5) dU.nd rfl (Or.inl rfl) (aE cK (aE cY (pv 0) (cE cZ (cD (aa aq (aa aq (aa aq ak)))) (pv 4) (fun _ _=>rfl))) aq))
      (ao
       (bG (aP lF (pv 5) aq (aV _))
        (ai
         (cQ hu (pv 2) (cE cZ (pv 1) (pv 4) (fun _ _=>rfl)) (aE cf (bR hu (pv 2) (cE cZ (pv 1) (pv 4) (fun _ _=>rfl)) aq ⟨rfl,rfl,rfl,rfl⟩) (pv 5)) rfl)
        (ao
         (aB (i:=3) dU.nd rfl (Or.inl rfl) (aE bq (aE bq (pv 3) (cE cZ (pv 1) (pv 4) (fun _ _=>rfl))) (aH dj.ok (hr.mono (by decide)) rfl dj.g dj.kp dj.b .nil ay (aa (pv 5) ak))))))
        aR))))
    (ai
     (aB (i:=6) dU.nd rfl (Or.inl rfl) (cE cZ (cD (aa aq (aa aq (aa aq (aa (oW j4 aq) (aa aq (aa (oW j4 aq) ak))))))) (aE cK (aE cY (pv 0) aq) aq) (fun _ _=>rfl)))
    (ai
     (bG (aP dZ (pv 3) bJ (aV _))
      (ao
       (aD (bP (aa bJ (aa dw (aa (oW j4 aq) ak))))))
      aR)
    (ai
     (bG (aP dZ (aE cK (aE cY (pv 0) aq) aq) aq (aV _))
      (ai
       (aB (i:=3) dU.nd rfl (Or.inl rfl) (aE bq (aE bq bJ (pv 3)) bJ))
      (ao
       (aB (i:=2) dU.nd rfl (Or.inr rfl) (bK (lQ rfl) rfl T.jF iu (aa (pJ (fk (sc:=(aj mO)) (NX:=["_law_cell","_law_kinds","_law_counts","_law_text_here","_law_k","_law_count_here","_law_charge"]) (N:=["_law_kind_here","_law_counts"]) (fr:=[none,some 2]) ⟨by rfl,by rfl,by decide+kernel,by decide+kernel,by decide+kernel,by rfl,by decide+kernel⟩ rfl rfl rfl (cR (pv 2)) (fun _ _ _ _=>(aG (i:=0) (show (["_law_kind_here","_law_counts"]:List Str).Nodup by decide+kernel) rfl (Or.inl rfl) (Or.inr rfl))) (fun _ _ _ _=>fW) (fun _ _ _ _=>(bP (aa (pv 0) (aa (aE gT aq (b6 hu (pv 1) (pv 0) (fun _ _=>rfl))) ak)))))) ak)))))
      aR)
    (ai
     (bG (aP dZ (aE cK (aE cY (pv 0) aq) aq) aq (aV _))
      (ai
       (aB (i:=3) dU.nd rfl (Or.inl rfl) (aE bq (aE bq (pv 3) bJ) (cE cZ (pv 1) aq (fun _ _=>rfl))))
      (ao
       (cQ hu (pv 2) (cE cZ (pv 1) aq (fun _ _=>rfl)) (aE cf (bR hu (pv 2) (cE cZ (pv 1) aq (fun _ _=>rfl)) aq ⟨rfl,rfl,rfl,rfl⟩) aq) rfl)))
      aR)
    (ai
     (bG (aP oX (pv 6) aq (aV _))
      (ao
       (aB (i:=3) dU.nd rfl (Or.inl rfl) (aE bq (aE bq (aE bq (pv 3) bJ) (aH dj.ok (hr.mono (by decide)) rfl dj.g dj.kp dj.b .nil ay (aa (br xG rfl T.FW E7 (aa (pv 6) ak)) ak))) (cE cZ (cD (aa bJ (aa bJ ak))) (bK nU rfl T.yc qG (aa (ip lF (pv 6) aq (aV _)) ak)) (fun _ _=>rfl)))))
      aR)
    (ao
     (aD (bP (aa (pv 3) (aa (pv 2) (aa (pv 6) ak)))))))))))))),?_⟩
  refine fun d hd=>?_
  refine⟨_,rfl,by decide,by decide,kE (fun i σ H'=>∃(as:BD) (v3 v4:Option V),σ=[some (.int c),some (.ref kl),some (.ref d),some (.str ⟨(as.flatMap fun a=>a.1++aQ a.2).toArray⟩),v3,v4,none]∧F9 as∧(∀p∈oH as,(Sum.inr p.1 :Key)∈K3 k0 k1 k2)∧as.length≤i∧H' d=some (.dK (a8 1 [] (oH as)))∧au H H') ?_ ?_ ?_⟩
  ·exact⟨[],none,none,by rw[Lx];rfl,(fun a ha=>by cases ha),(fun a ha=>by cases ha),Nat.le_refl _,af,au.new hd⟩
  ·rintro i σ H' hi ⟨as,v3,v4,rfl,aS,Kb,hl,fK,e⟩
   have hi3:i<3:=by have:i< (3 :Int).toNat:=hi;omega
   obtain⟨k,hk,ZQ,ZR⟩:=GO NW ZO ZP hi3
   obtain⟨z,z0,z1,hza⟩:=NV hi3
   have ZS:=e _ _ Ka
   have sl:∀l,H' l=none→au H' (upd H' l (.lst [V.int 1, .int 5, .int 25])):=fun l hl=>au.new hl
   refine⟨_,rfl,(by show 3≤sizeLine;decide),fun l sC=>⟨_,rfl,l,_,_,V.int z,rfl,rfl,b5.of af,hza,_,_,rfl,rfl,⟨z0,by omega⟩,_,_,rfl,rfl,(by show (0 :Int) <5;decide),?_⟩⟩
   have e2:=e.trans (sl l sC)
   have hd2:=sl l sC _ _ fK
   have Kc:=sl l sC _ _ ZS
   have m0:0≤c/z%5:=Int.emod_nonneg _ (by decide)
   have m1:c/z%5<5:=Int.emod_lt_of_pos _ (by decide)
   dsimp only [du]
   generalize c/z%5=m at m0 m1 ⊢
   generalize upd H' l (.lst [V.int 1, .int 5, .int 25])=H2 at e2 hd2 Kc ⊢
   refine⟨_,rfl,_,_,rfl,rfl,_,rfl,fG (fun em=>?_) fun _=>⟨as,_,_,rfl,aS,Kb,by omega,hd2,e2⟩⟩
   have em:0<m:=by simpa using em
   have za:=kZ aS
   have zk:=rH hk
   have zm:=gY (n:=m) (by omega) (by omega)
   have hI:bu (a8 1 [] (oH as)):=iB 1 _ _ fun p hp=>by cases hp
   have me:=iC 1 (oH as) []
   have XD:(oH as).length=as.length:=by unfold oH;rw[List.length_map]
   rw[List.length_nil] at me
   refine⟨_,rfl,d,rfl, .inl ⟨_, .inl hd2⟩,_,rfl,_,rfl,kl,_,_,_,rfl,rfl,b5.of Kc,ZR,_,f9.k (k:=Sum.inr ⟨k.toArray⟩) hd2,_,rfl,_,_,hI.at _,rfl,_,rfl,_,rfl,_,rfl,kl,_,_,_,rfl,rfl,b5.of Kc,ZR,d,_,rfl,i0.k (k:=Sum.inr ⟨k.toArray⟩) hd2 (by omega),?_⟩
   have nkd:kl≠d:=ag Ka hd
   have PK:(upd H2 d (.dK (putK (a8 1 [] (oH as)) (Sum.inr ⟨k.toArray⟩) (.int (aO (a8 1 [] (oH as)) (Sum.inr ⟨k.toArray⟩)+m))))) kl=some (.lst [.str ⟨k0.toArray⟩, .str ⟨k1.toArray⟩, .str ⟨k2.toArray⟩]):=by rw[ah nkd];exact Kc
   refine⟨_,rfl,_,rfl,_,rfl,kl,_,_,_,rfl,rfl,b5.of PK,ZR,_,_,rfl,rfl,by rw[bj,bj];omega,_,rfl,m,rfl,by omega,by omega,_,_,rfl,rfl,by rw[bw,bj,bj];omega,?_⟩
   refine⟨as++[(k,m)],some (.int (0+(i:Int))),some (.int m),?_,?_,?_,?_,?_,?_⟩
   ·have ex:(⟨(as.flatMap fun a=>a.1++aQ a.2).toArray⟩:Str)++⟨k.toArray⟩++eZ m=⟨((as++[(k,m)]).flatMap fun a=>a.1++aQ a.2).toArray⟩:=by
     rw[de,bD,bD,List.flatMap_append,List.flatMap_cons,List.flatMap_nil,List.append_nil,List.append_assoc]
    rw[←ex]
    rfl
   ·intro a ha
    rcases List.mem_append.mp ha with ha|ha
    ·exact aS a ha
    ·have ea:a=(k,m):=by simpa using ha
     subst ea
     exact⟨hk,by omega,by omega⟩
   ·intro p hp
    unfold oH at hp
    rw[List.map_append] at hp
    rcases List.mem_append.mp hp with hp|hp
    ·exact Kb p hp
    ·have ep:p=((⟨k.toArray⟩:Str),m):=by simpa using hp
     rw[ep]
     exact ZQ
   ·rw[List.length_append]
    show as.length+1≤i+1
    omega
   ·rw[af]
    have ec:a8 1 [] (oH (as++[(k,m)]))=b8 (a8 1 [] (oH as)) (Sum.inr ⟨k.toArray⟩) (m*1):=by
     unfold oH a8
     rw[List.map_append,List.foldl_append]
     rfl
    rw[ec,Int.mul_one]
    rfl
   ·intro b o z
    rw[ah (ag z hd)]
    exact e2 _ _ z
  ·rintro σ H' ⟨as,v3,v4,rfl,aS,Kb,hl,fK,e⟩
   have l3:as.length≤3:=hl
   have me:=e _ _ Ka
   have za:=kZ aS
   have d0:0≤c/125%6:=Int.emod_nonneg _ (by decide)
   have d1:c/125%6<6:=Int.emod_lt_of_pos _ (by decide)
   obtain⟨v,hv,JQ⟩:=vp (xs:=[V.int 0,V.int 0,V.int 1,V.int (-1),V.int 2,V.int (-14)]) d0 d1
   have hc:∃n,v=V.int n∧ -99≤n∧n≤99:=by
    simp only [List.mem_cons,List.not_mem_nil,or_false] at hv
    rcases hv with rfl|rfl|rfl|rfl|rfl|rfl<;>exact⟨_,rfl,by decide,by decide⟩
   obtain⟨n,rfl,n1,n2⟩:=hc
   refine⟨1,rfl,14,rfl,(by show 6≤sizeLine;decide),fun l sC=>⟨_,rfl,_,_,rfl,rfl,⟨by decide,by decide⟩,_,_,rfl,rfl,(by show (0 :Int) <6;decide),l,_,_,V.int n,rfl,rfl,b5.of af,JQ,?_⟩⟩
   have sl:=au.new (o:= .lst [V.int 0,V.int 0,V.int 1,V.int (-1),V.int 2,V.int (-14)]) sC
   have e1:=e.trans sl
   have Ek:=sl _ _ fK
   have RU:=sl _ _ me
   dsimp only [du]
   generalize upd H' l (.lst [V.int 0,V.int 0,V.int 1,V.int (-1),V.int 2,V.int (-14)])=H1 at e1 Ek RU ⊢
   refine⟨_,rfl,rfl,_,rfl,fG (fun et=>?_) fun et=>?_⟩
   ·refine fun d3 Ik=>⟨1,rfl,(by show 3≤sizeLine;decide),fun t ht=>?_⟩
    have e0:("e^-" :Str)=⟨(fL ([], -1)).toArray⟩:=by decide+kernel
    refine q t ([], -1) _ ⟨rfl,(by show 3≤33;decide),(by show 0≤7;decide)⟩ (by show 0≤3;decide) ⟨d3,?_,?_⟩ (e1.trans ((au.new Ik).trans (au.new ht)))
    ·rw[af,←e0]
    ·rw[ah (ag af ht),af]
     rfl
   have l1:1≤as.length:=by
    cases as with
    |nil=>exact absurd (by rw[Lx];decide) et
    |cons a r=>rw[List.length_cons];omega
   have hkc:∀c:Int,∀q∈a8 c [] (oH as),q.1∈K3 k0 k1 k2:=fun c=>la (Pk:=fun j=>j∈K3 k0 k1 k2) c (oH as) [] (fun q hq=>by cases hq) Kb
   dsimp only [AX]
   refine iw (fun σ' H'=>∃(ts:List Tr) (d':Addr),σ'=[some (.int c),some (.ref kl),some (.ref d'),some (.str ⟨(ts.flatMap (cn 1)).toArray⟩),v3,v4,some (.int n)]∧DE ts∧(∀q∈cW 1 [(1,ts)],q.1∈K3 k0 k1 k2)∧H d'=none∧H' d'=some (.dK (cW 1 [(1,ts)]))∧au H H') (fun N hN=>?_) ?_
   ·refine⟨_,rfl,_,_,rfl,rfl,⟨by decide,by decide⟩,_,_,rfl,rfl,(by show (0 :Int) <4;decide),rfl,_,rfl,fG (fun _=>?_) fun _=>?_⟩
    ·have l40:("(" :Str).length=1:=by decide+kernel
     have l41:(")3" :Str).length=2:=by decide+kernel
     refine⟨_,rfl,_,_,rfl,rfl,by rw[l40,bj];omega,_,_,rfl,rfl,by rw[bw,l40,l41,bj];omega,?_⟩
     refine⟨_,rfl,d,_,rfl,Ek,fun o nf D2 Il=>?_⟩
     have hI:bu (a8 1 [] (oH as)):=iB 1 _ _ fun p hp=>by cases hp
     have hn:((a8 1 [] (oH as)).map (·.1)).Nodup:=vT 1 _ _ List.nodup_nil
     have me:=iC 1 (oH as) []
     have XD:(oH as).length=as.length:=by unfold oH;rw[List.length_map]
     rw[List.length_nil] at me
     generalize hK:a8 1 [] (oH as)=KV at Ek hI hn me
     have J0:D2≠d:=fun z=>by rw[z,af] at Il;cases Il
     have RB:H1 D2=none:=by rwa [ah J0] at Il
     have gen:∀i σ H',PvM o KV d D2 H1 i σ H'→H' d=some (.fH o (.dK KV)):=fun i σ H' ⟨_,_,_,z,_⟩=>z
     refine kK (a:=d) (D:=D2) (kvs:=KV) (PvM o KV d D2 H1) ?_ gen ?_ ?_
     ·exact⟨none,[],rfl,by rw[ah (Ne.symm J0),af],af,(fun p hp=>by cases hp),rfl,fun b o' z hb=>by rw[ah (ag z RB),ah hb];exact z⟩
     ·rintro i k v σ H' hi ⟨v',ps,rfl,f1,f2,f3,f4,f5⟩ N hN
      have hv:=hI.dM (List.mem_of_getElem? hi)
      have iO:ps.length≤3:=by
       have:=congrArg List.length f4
       rw[List.length_map,List.length_map,List.length_take] at this
       omega
      refine⟨_,rfl,_,rfl,_,rfl,d,V.int (aO KV k),rfl, .inl ⟨_,k, .inr ⟨o,f1⟩,rfl,hv.symm⟩,_,_,rfl,rfl, .inl ⟨by decide,by decide⟩,(by show 2≤sizeLine;decide),fun t ht=>?_⟩
      have RC:D2≠t:=ag f2 ht
      have ZC:d≠t:=ag f1 ht
      refine⟨_,by rw[ah RC];exact f2,by rw[List.length_map];omega,hN _ _ ⟨_,ps++[(t,k,V.int (3*aO KV k))],rfl,?_,?_,?_,?_,?_⟩⟩
      ·rw[ah (Ne.symm J0),ah ZC];exact f1
      ·rw[af,List.map_append];rfl
      ·intro p hp
       rcases List.mem_append.mp hp with hp|hp
       ·have p1:=f3 p hp
        rw[ah (cI p1 f2 (by intro z;cases z)),ah (ag p1 ht)]
        exact p1
       ·have e':p=(t,k,V.int (3*aO KV k)):=by simpa using hp
        subst e'
        rw[ah (Ne.symm RC)];exact af
      ·rw[List.map_append,f4,take_snoc hi,List.map_append]
       rfl
      ·intro b o' e' hb
       rw[ah (ag e' RB),ah (ag (f5 b o' e' hb) ht)]
       exact f5 b o' e' hb
     rintro σ H' ⟨v',ps,rfl,f1,f2,f3,f4,f5⟩
     rw[List.take_length] at f4
     refine⟨d,o,KV,f1,nf,D2,ps,rfl,by rw[ah J0];exact f2,fun p hp=>by rw[ah (cI (f3 p hp) f1 (by intro z;cases z))];exact f3 p hp,fun w hw=>?_⟩
     have e8:cu [] (ps.map (·.2))=scale 3 KV:=by
      rw[f4,nj _ [] (by rw[List.nil_append,List.map_map];exact hn),List.nil_append,uh hI hn]
     have RD:au H1 (upd H' d (.dK KV)):=fun b o' e=>by
      by_cases z:b=d
      ·subst z
       rw[af]
       exact Ek.symm.trans e
      ·rw[ah z];exact f5 b o' e z
     have s8:au H1 (upd (upd H' d (.dK KV)) w (.dK (cu [] (ps.map (·.2))))):=RD.trans (au.new hw)
     refine hN _ _ ⟨[.gr (as.map aT) 3],w,?_,NH aS l1 l3 (by decide) (by decide),?_,none_back (e1.trans RD) hw,?_,e1.trans s8⟩
     ·have ex:("(" :Str)++(⟨(as.flatMap fun a=>a.1++aQ a.2).toArray⟩:Str)++")3" =⟨([Tr.gr (as.map aT) 3].flatMap (cn 1)).toArray⟩:=by
       rw[Lu,ZL,Nr,ZM,show (⟨#[40]⟩:Str)=⟨[40].toArray⟩ from rfl,bD,bD]
       simp
      rw[←ex]
      rfl
     ·rw[Lw,hK,←uh hI hn]
      intro q hq
      obtain⟨p,hp,rfl⟩:=List.mem_map.mp hq
      exact hkc 1 p (by rw[hK];exact hp)
     ·rw[af,Lw,hK,e8]
    ·refine hN _ _ ⟨as.map aT,d,by rw[oI];rfl,Ga aS l1 l3,by rw[Ls];exact hkc 1,hd,by rw[Ls];exact Ek,e1⟩
   rintro σ' H4 ⟨ts,d4,rfl,Kd,xu,ZT,FX,e4⟩
   have ZU:=e4 _ _ Ka
   have z1:=Kd.2.2.1
   refine iw (fun σ' H'=>∃xs:List jV,σ'=[some (.int c),some (.ref kl),some (.ref d4),some (.str ⟨(wL 1 xs 0).toArray⟩),v3,v4,some (.int n)]∧XA xs∧(∀q∈cW 1 xs,q.1∈K3 k0 k1 k2)∧H' d4=some (.dK (cW 1 xs))∧au H H') (fun N hN=>?_) ?_
   ·refine⟨_,rfl,_,_,rfl,rfl,⟨by decide,by decide⟩,_,_,rfl,rfl,(by show (0 :Int) <4;decide),rfl,_,rfl,fG (fun _=>?_) fun _=>?_⟩
    ·have l12:(".12" :Str).length=3:=by decide+kernel
     have zk:=rH NW
     have hI:=wA [(1,ts)]
     have hl:=Au (Gb Kd).2.2.2
     have ZV:zP [V.str ⟨k0.toArray⟩, .str ⟨k1.toArray⟩, .str ⟨k2.toArray⟩] 0=some (V.str ⟨k0.toArray⟩):=rfl
     refine⟨_,rfl,_,_,rfl,rfl,by rw[l12,bj];omega,_,rfl,kl,_,_,_,rfl,rfl,b5.of ZU,ZV,_,_,rfl,rfl,by rw[bw,l12,bj,bj];omega,?_⟩
     refine⟨_,rfl,d4,rfl, .inl ⟨_, .inl FX⟩,_,rfl,kl,_,_,_,rfl,rfl,b5.of ZU,ZV,_,f9.k (k:=Sum.inr ⟨k0.toArray⟩) FX,_,_,hI.at _,rfl,_,rfl,_,rfl,kl,_,_,_,rfl,rfl,b5.of ZU,ZV,d4,_,rfl,i0.k (k:=Sum.inr ⟨k0.toArray⟩) FX (by omega),?_⟩
     refine hN _ _ ⟨[(1,ts),(12,[.one k0 1])],?_,RQ Kd NW,?_,?_,fun b o z=>?_⟩
     ·have ex:(⟨(ts.flatMap (cn 1)).toArray⟩:Str)++".12" ++⟨k0.toArray⟩=⟨(wL 1 [(1,ts),(12,[.one k0 1])] 0).toArray⟩:=by
       rw[RP,zA,bD,bD]
       simp
      rw[←ex]
      rfl
     ·rw[RS]
      intro q hq
      rcases qb hq with hq|hq
      ·exact xu q hq
      ·rw[hq];simp [K3]
     ·rw[af,RS]
      rfl
     ·rw[ah (ag z ZT)]
      exact e4 _ _ z
    ·exact hN _ _ ⟨[(1,ts)],by rw[Rx],Gb Kd,xu,FX,e4⟩
   rintro σ' H5 ⟨xs,rfl,ZW,hxk,ZX,e5⟩
   have zb:=ZW.2.2.1
   refine iw (fun σ' H'=>σ'=[some (.int c),some (.ref kl),some (.ref d4),some (.str ⟨(wL 1 xs n).toArray⟩),v3,v4,some (.int n)]∧H' d4=some (.dK (cW 1 xs))∧au H H') (fun N hN=>?_) ?_
   ·refine⟨_,rfl,rfl,_,rfl,fG (fun e=>?_) fun e=>?_⟩
    ·have e:¬n=0:=by simpa using e
     have a1:1≤(if n<0 then -n else n):=by split<;>omega
     have a2:(if n<0 then -n else n)≤999:=by split<;>omega
     have z:=gY a1 a2
     have g1:("^" :Str).length=1:=by decide+kernel
     have g2:(if 0<n then ("+" :Str) else ("-" :Str)).length=1:=by split<;>decide+kernel
     refine⟨_,rfl,_,_,rfl,rfl,by rw[g1,bj];omega,_,rfl,n,rfl,_,rfl,a1,a2,_,_,rfl,rfl,by rw[bw,g1,bj];omega,(by show 2≤sizeLine;decide),fun y hy=>⟨_,rfl,_,_,rfl,rfl, .inr ⟨_,rfl,y,_,_,V.str _,rfl,rfl,b5.of af,NI n,_,_,rfl,rfl,?_,hN _ _ ⟨?_,?_,e5.trans (au.new hy)⟩⟩⟩⟩
     ·rw[bw,bw,bj,g1,g2]
      omega
     ·have ex:(⟨(wL 1 xs 0).toArray⟩:Str)++"^" ++eZ (if n<0 then -n else n)++(if 0<n then ("+" :Str) else ("-" :Str))=⟨(wL 1 xs n).toArray⟩:=by
       rw[Rv ZW.1 n,←bD,JU e,←tN,←tN]
      rw[←ex]
      rfl
     ·rw[ah (ag ZX hy)]
      exact ZX
    ·have e:n=0:=by simpa using e
     subst e
     exact hN _ _ ⟨rfl,ZX,e5⟩
   rintro σ' H6 ⟨rfl,RV,e6⟩
   exact⟨_,rfl,_,rfl,_,rfl,(by show 3≤sizeLine;decide),fun t ht=>q t (xs,n) _ (Ly ZW n1 n2) (ZN (iH _) hxk) ⟨d4,af,by rw[ah (ag RV ht)];exact RV⟩ (e6.trans (au.new ht))⟩
variable {HE Sh:Addr}
structure Ke (K:PySem.W.Frag) (mg:Str→Option Value) (HE Sh:Addr):Prop where
 pf:mg "HallError" =some (.ref HE)
 wU:Lk K HE
 wV:PySem.W.Jo K HE
 Kf:mg "Short" =some (.ref Sh)
 NY:PySem.W.takerIn K Sh "step" =some none
 NZ:PySem.W.takerIn K Sh "turn" =some none
 DQ:PySem.W.takerIn K Sh "formula" =some none
 N0:PySem.W.takerIn K Sh "lack" =some none
 wW:PySem.W.findIn K (.ref Sh) "step" =some none
 wX:PySem.W.findIn K (.ref Sh) "turn" =some none
 uA:PySem.W.findIn K (.ref Sh) "formula" =some none
 wY:PySem.W.findIn K (.ref Sh) "lack" =some none
 dE:XIs K Sh
 yQ:PySem.W.mroIn K Sh (.ref HE)=some true
def Eu (st tn:Int) (x:Str) (lk:Int):List (Str×V):=cL "lack" (.int lk) (cL "formula" (.str x) (cL "turn" (.int tn) [("step", .int st)]))
def B0 (Sh:Addr):Sp:=fun vs H Q _=>∃(e:Addr) (st tn:Int) (x:Str) (lk:Int),vs=[.ref e, .int st, .int tn, .str x, .int lk]∧H e=some (tG e Sh none)∧0≤st∧st<10^50∧0≤tn∧tn<10^50∧x.length≤100∧0≤lk∧lk<10^50∧
 ∀dx H',H dx=none→dx≠e→H' e=some (tG e Sh (some dx))→H' dx=some (zt dx (Eu st tn x lk))→(∀b o,H b=some o→b≠e→H' b=some o)→Q .cU H'
theorem Kg:ax ["self","step","turn","formula","lack"] ["self","step","turn","formula","lack"] (aj vK):=⟨rfl,rfl,rfl,by decide+kernel,rfl,by decide+kernel,by decide+kernel⟩
theorem GP (D:FA K mg "Short" Sh HE "Short.__init__" vK ["self","step","turn","formula","lack"]) (T:Ke K mg HE Sh):Ac P w K mg base 1 "Short" Sh HE ["self","step","turn","formula","lack"] (B0 Sh):=by
 obtain⟨f0,_,_,Z,_⟩:=id D
 refine D.di Kg (fun vs H Q E h=>?_) (fun f bA A outer s H vs Q E hr h=>?_)
 ·obtain⟨e,st,tn,x,lk,rfl,_⟩:=h
  rfl
 ·obtain⟨e,st,tn,x,lk,rfl,he,s0,s1,t0,t1,hx,l0,l1,q⟩:=h
  have big:(2000 :Nat)≤sizeLine:=by decide
  have z1:=nq s0 s1
  have z2:=nq t0 t1
  have z3:=nq l0 l1
  refine⟨_,(ai
     (bz (Fs rfl T.pf T.wU (pv 0) (Jn (ix bJ (ix (vC (pv 1)) (ix bJ (ix (vC (pv 2)) (ix bJ (ix (vC (pv 3)) (ix bJ (ix (vC (pv 4)) M9)))))))))))
    (ai
     (pM (pv 0) (pv 1) rfl)
    (ai
     (pM (pv 0) (pv 2) rfl)
    (ai
     (pM (pv 0) (pv 3) rfl)
    (ao
     (pM (pv 0) (pv 4) rfl)))))),?_⟩
  have y1:("step " :Str).length=5:=by decide+kernel
  have y2:(", turn " :Str).length=7:=by decide+kernel
  have y3:(": of " :Str).length=5:=by decide+kernel
  have y4:(" there lacks " :Str).length=13:=by decide+kernel
  have y0:(Str.empty).length=0:=rfl
  refine⟨_,rfl,_,rfl,?_,_,rfl, .inl ⟨_,rfl,p6 s0 s1,_,rfl,?_,_,rfl,?_,_,rfl, .inl ⟨_,rfl,p6 t0 t1,_,rfl,?_,_,rfl,?_,_,rfl, .inr ⟨_,rfl,by omega,_,rfl,?_,_,rfl,?_,_,rfl, .inl ⟨_,rfl,p6 l0 l1,_,rfl,?_,?_,e,Sh,HE,f0,none,rfl,Z,he,?_⟩⟩⟩⟩⟩
  any_goals (simp only [bw,y0,y1,y2,y3,y4];omega)
  refine⟨_,rfl,_,rfl,e,Sh,HE,f0,rfl,Z,T.NY, .inl ⟨he,fun dx qc Im=>?_⟩⟩
  have h1:(upd (upd H dx (zt dx [("step", .int st)])) e (tG e Sh (some dx))) e=some (tG e Sh (some dx)):=af
  have h2:(upd (upd H dx (zt dx [("step", .int st)])) e (tG e Sh (some dx))) dx=some (zt dx [("step", .int st)]):=by rw[ah Im,af]
  refine⟨_,rfl,_,rfl,e,Sh,HE,f0,rfl,Z,T.NZ, .inr ⟨dx,_,h1,h2,(by show 1<1000;decide),?_⟩⟩
  refine⟨_,rfl,_,rfl,e,Sh,HE,f0,rfl,Z,T.DQ, .inr ⟨dx,_,by rw[ah (Ne.symm Im)];exact h1,af,Nat.lt_of_le_of_lt (f7 _ _ _) (by show 1+1<1000;decide),?_⟩⟩
  refine⟨_,rfl,_,rfl,e,Sh,HE,f0,rfl,Z,T.N0, .inr ⟨dx,_,by rw[ah (Ne.symm Im),ah (Ne.symm Im)];exact h1,af,Nat.lt_of_le_of_lt (f7 _ _ _) (Nat.lt_of_le_of_lt (Nat.add_le_add_right (f7 _ _ _) 1) (by show 1+1+1<1000;decide)),?_⟩⟩
  refine q dx _ qc Im (by rw[ah (Ne.symm Im),ah (Ne.symm Im),ah (Ne.symm Im)];exact h1) af fun b o z nb=>?_
  have XM:=ag z qc
  rw[ah XM,ah XM,ah XM,ah nb,ah XM]
  exact z
variable {uC uP uI uD uL uT eR eS eU uG uS:Tok} {Ch HE Sh:Addr}
def xy (a t g:Int):Option Int:=if a<t then some 0 else if 0≤g then none else some ((a - t) /(-g)+1)
def eP:List (Option Int)→Option Int
 | []=>none
 |none::r=>eP r
 |some i::r=>match eP r with
  |none=>some i
  |some j=>some (if j<i then j else i)
def aA (xs:List Tm):List (Key×V):=a8 1 [] (fF xs)
def uF (am:List (Key×V)) (xs ys:List Tm):Option Int:=eP ((aA xs).map fun q=>xy (aO am q.1) (aO (aA xs) q.1) (aO (iI xs ys) q.1))
def dO (am:List (Key×V)) (xs ys:List Tm) (m:Int):List (Key×V):=dY m am (iI xs ys) (iI xs ys)
def dh (th tk:List (Key×V)):List (Key×V)→Option (Key×Int)
 | []=>none
 |q::r=>if 0<aO tk q.1 - aO th q.1 then some (q.1,aO tk q.1 - aO th q.1) else dh th tk r
theorem eQ (th tk:List (Key×V)) (q:Key×V) (r:List (Key×V)):dh th tk (q::r)=if 0<aO tk q.1 - aO th q.1 then some (q.1,aO tk q.1 - aO th q.1) else dh th tk r:=rfl
def oV:Option Int→V
 |none=> .cU
 |some i=> .int i
def XN (xs ys:List Tm):Prop:=∀k, -(2^62) <aO (iI xs ys) k∧aO (iI xs ys) k<2^62
def GQ (C G Pc Fo Ch:Addr):Sp:=fun vs H Q _=>∃(c am:Addr) (xs ys:List Tm) (kvs:List (Key×V)),vs=[.ref c, .ref am]∧dB C G Pc Fo Ch H c xs ys∧(∀x∈xs,cS x.2)∧(∀y∈ys,cS y.2)∧xs.length≤20∧ys.length≤20∧XN xs ys∧H am=some (.dK kvs)∧bu kvs∧∀H',au H H'→Q (oV (uF kvs xs ys)) H'
def rT (C G Pc Fo Ch:Addr):Sp:=fun vs H Q _=>∃(c am:Addr) (m:Int) (xs ys:List Tm) (kvs:List (Key×V)),vs=[.ref c, .int m, .ref am]∧dB C G Pc Fo Ch H c xs ys∧(∀x∈xs,cS x.2)∧(∀y∈ys,cS y.2)∧xs.length≤20∧ys.length≤20∧XN xs ys∧H am=some (.dK kvs)∧bu kvs∧kvs.length≤900∧∀e H',H e=none→H' e=some (.dK (dO kvs xs ys m))→au H H'→Q (.ref e) H'
def ck (am:List (Key×V)) (xs ys:List Tm) (m:Int):Option (Int×Key×Int):=match uF am xs ys with
 |none=>none
 |some t=>if m≤t then none else (dh (dO am xs ys t) (aA xs) (aA xs)).map fun p=>(t,p.1,p.2)
def yR (C G Pc Fo Ch Sh:Addr):Sp:=fun vs H Q E=>∃(c am:Addr) (m st:Int) (xs ys:List Tm) (kvs:List (Key×V)),vs=[.ref c, .int m, .ref am, .int st]∧dB C G Pc Fo Ch H c xs ys∧(∀x∈xs,cS x.2)∧(∀y∈ys,cS y.2)∧xs.length≤20∧ys.length≤20∧XN xs ys∧H am=some (.dK kvs)∧bu kvs∧kvs.length≤900∧0≤st∧st<10^50∧
 (∀t k l,ck kvs xs ys m=some (t,k,l)→0≤t+1∧t+1<10^50∧0≤l∧l<10^50)∧
 (ck kvs xs ys m=none→∀H',au H H'→Q .cU H')∧(∀t (x:Str) l e dx H',ck kvs xs ys m=some (t,Sum.inr x,l)→H' e=some (zZ e Sh (some dx))→H' dx=some (zt dx (Eu st (t+1) x l))→H e=none→H dx=none→au H H'→E (.ref Sh) (some dx) H')
theorem dH:ax ["change","times","amounts","step","turns","there","taken","text","lack"] ["change","times","amounts","step"] (aj gJ):=⟨rfl,rfl,rfl,by decide+kernel,rfl,by decide+kernel,by decide+kernel⟩
theorem DR (D:Def K mg "refuse_short" "refuse_short" gJ ["change","times","amounts","step"]) (T:nu K mg C R G Pc Fo Ch uK uN uB uE uM uC uP uI uD uL uT eR eS eU uG uS) (TE:Ke K mg HE Sh) (c1:bg P w K mg base 10 "most_turns" ["change","amounts"] (GQ C G Pc Fo Ch)) (c2:bg P w K mg base 10 "turned" ["change","times","amounts"] (rT C G Pc Fo Ch)) (c3:bg P w K mg base 8 "side_counts" ["terms"] (gM C G Pc Fo)) (c4:Ac P w K mg base 1 "Short" Sh HE ["self","step","turn","formula","lack"] (B0 Sh)):
  Fy P w K mg base 11 "refuse_short" ["change","times","amounts","step"] (yR C G Pc Fo Ch Sh):=by
 obtain⟨_,_,gN⟩:=c1
 obtain⟨_,_,fD⟩:=c2
 obtain⟨_,_,aZ⟩:=c3
 obtain⟨_,_,lb⟩:=c4
 refine D.Fz dH (fun vs H Q E h=>?_) (fun f bA A outer s H vs Q E hr h=>?_)
 ·obtain⟨c,am,m,st,xs,ys,kvs,rfl,_⟩:=h
  rfl
 ·obtain⟨c,am,m,st,xs,ys,kvs,rfl,hC,hx,hy,lx,ly,hG,wZ,hI,hl,st0,st1,hb,q,qE⟩:=h
  have hu:=dz hr
  have big:(2000 :Nat)≤sizeLine:=by decide
  refine⟨_,(ai
     (aB (i:=4) dH.nd rfl (Or.inl rfl) (aH gN.ok (hr.mono (by decide)) rfl gN.g gN.kp gN.b .nil ay (aa (pv 0) (aa (pv 2) ak))))
    (ai
     (bG (PW.pt (il (qo (qm (pv 4))) (jZ (aP K6 (pv 1) (pv 4) (aV _)))))
      (ao
       Iy)
      aR)
    (ai
     (aB (i:=5) dH.nd rfl (Or.inl rfl) (aH fD.ok (hr.mono (by decide)) rfl fD.g fD.kp fD.b .nil ay (aa (pv 0) (aa (pv 4) (aa (pv 2) ak)))))
    (ai
     (aB (i:=6) dH.nd rfl (Or.inl rfl) (aH aZ.ok (hr.mono (by decide)) rfl aZ.g aZ.kp aZ.b .nil ay (aa (a0 (pv 0) rfl) ak)))
    (ao
     (dI (bW Fj rfl (cR (pv 6)) (aG (i:=7) dH.nd rfl (Or.inl rfl))
      (ai
       (aB (i:=8) dH.nd rfl (Or.inl rfl) (aE j3 (b6 hu (pv 6) (pv 7) (fun _ _=>rfl)) (bR hu (pv 5) (pv 7) aq ⟨rfl,rfl,rfl,rfl⟩)))
      (ao
       (bG (aP lF (pv 8) aq (aV _))
        (ao
         (Fq rfl vB (Fp lb.z lb.ok (hr.mono (by decide)) rfl lb.g lb.kp lb.b (aa (pv 3) (aa (aE cf (pv 4) aq) (aa (pv 7) (aa (pv 8) ak)))))))
        aR)))))))))),?_⟩
  refine⟨_,rfl,_,rfl,c,am,xs,ys,kvs,rfl,hC,hx,hy,lx,ly,hG,wZ,hI,fun H1 e1=>?_⟩
  cases hm:uF kvs xs ys with
  |none=>
   have hs:ck kvs xs ys m=none:=by unfold ck;rw[hm]
   refine⟨_,rfl,_,rfl,ik ?_⟩
   exact q hs _ e1
  |some t=>
   refine⟨_,rfl,_,rfl,cH ⟨_,rfl,_,rfl,_,_,rfl,rfl,_,rfl,fG (fun em=>?_) fun em=>?_⟩⟩
   ·have em:m≤t:=by simpa using em
    have hs:ck kvs xs ys m=none:=by unfold ck;rw[hm];simp [em]
    exact q hs _ e1
   have em:¬m≤t:=by simpa using em
   have hs:ck kvs xs ys m=(dh (dO kvs xs ys t) (aA xs) (aA xs)).map fun p=>(t,p.1,p.2):=by unfold ck;rw[hm];simp [em]
   refine⟨_,rfl,_,rfl,_,rfl,c,am,t,xs,ys,kvs,rfl,hC.same e1,hx,hy,lx,ly,hG,e1 _ _ wZ,hI,hl,fun th H2 nth LH e2=>?_⟩
   have zA:=e1.trans e2
   obtain⟨dx,l,r,hc,hl',Ew⟩:=id hC
   refine⟨_,rfl,c,Ch,dx,_,_,rfl,zA _ _ hc,T.b9,T.gZ,eV _ _,l,xs,rfl,hl'.same zA,hx,lx,fun tk H3 LI xu e3=>?_⟩
   have xu:H3 tk=some (.dK (aA xs)):=xu
   have PR:=zA.trans e3
   have ZY:=e3 _ _ LH
   have hIt:bu (dO kvs xs ys t):=df _ _ _ _ hI
   have PX:bu (aA xs):=cC _
   have XO:H tk=none:=none_back zA LI
   have nht:th≠tk:=ag LH LI
   have ZZ:∀p∈aA xs,∃s:Str,p.1=Sum.inr s∧s.length≤100:=by
    refine la (Pk:=fun j=>∃s:Str,j=Sum.inr s∧s.length≤100) 1 _ [] (fun q hq=>by cases hq) fun p hp=>?_
    obtain⟨z,hz,rfl⟩:=List.mem_map.mp hp
    have:=(hx z hz).2.1
    exact⟨_,rfl,by rw[bj];omega⟩
   dsimp only [du]
   refine⟨_,rfl,tk,aA xs,rfl,xu,fun o nf=>dA nf (fun i σ H'=>∃v7 v8:Option V,σ=[some (.ref c),some (.int m),some (.ref am),some (.int st),some (.int t),some (.ref th),some (.ref tk),v7,v8]∧H'=H3∧dh (dO kvs xs ys t) (aA xs) ((aA xs).drop i)=dh (dO kvs xs ys t) (aA xs) (aA xs)) ⟨none,none,rfl,rfl,rfl⟩ (fun i σ H' ⟨_,_,_,z,_⟩=>by rw[z];exact xu) ?_ ?_⟩
   ·rintro i k v σ H' hi ⟨v7,v8,rfl,rfl,uH⟩
    have hv:=PX.dM (List.mem_of_getElem? hi)
    have RW:(upd H' tk (.fH o (.dK (aA xs)))) th=some (.dK (dO kvs xs ys t)):=by rw[ah nht];exact ZY
    have xW:=(List.getElem?_eq_some_iff.mp hi).1
    have Ig:(aA xs).drop i=(k,v)::(aA xs).drop (i+1):=by
     rw[List.drop_eq_getElem_cons xW]
     congr 1
     exact(List.getElem?_eq_some_iff.mp hi).2
    refine⟨_,rfl,_,rfl,tk,V.int (aO (aA xs) k),rfl, .inl ⟨_,k, .inr ⟨o,af⟩,rfl,hv.symm⟩,_,rfl,th,rfl, .inl ⟨_, .inl RW⟩,_,rfl,_,f9.k (k:=k) RW,?_⟩
    rw[hIt.at k]
    refine⟨_,_,rfl,rfl,?_⟩
    refine⟨_,rfl,_,_,rfl,rfl,_,rfl,fG (fun ec=>?_) fun ec=>?_⟩
    ·have ec:0<aO (aA xs) k - aO (dO kvs xs ys t) k:=by simpa using ec
     rw[Ig,eQ,if_pos ec] at uH
     obtain⟨x,ex,rC⟩:=ZZ _ (List.mem_of_getElem? hi)
     have ex:k=Sum.inr x:=ex
     subst ex
     have E3:ck kvs xs ys m=some (t,Sum.inr x,aO (aA xs) (Sum.inr x) - aO (dO kvs xs ys t) (Sum.inr x)):=by rw[hs,←uH];rfl
     obtain⟨b1,b2,b3,b4⟩:=hb _ _ _ E3
     refine⟨_,rfl,_,rfl,_,_,rfl,rfl,_,rfl,_,rfl,(by show 4≤100;decide),fun e he=>?_⟩
     have s4:au H (upd H' tk (.fH o (.dK (aA xs)))):=fun b o' z=>by rw[ah (ag z XO)];exact PR _ _ z
     have s5:=s4.trans (au.new (o:=tG e Sh none) he)
     refine⟨e,st,t+1,x,_,rfl,af,st0,st1,b1,b2,rC,b3,b4,fun dP H5 qc Im h5e h5d k5=>⟨rfl,?_⟩⟩
     refine⟨e,Sh,HE,_,some dP,rfl,lb.z,h5e,?_⟩
     refine qE t x _ e dP _ E3 af (by rw[ah Im];exact h5d) (none_back s4 he) (none_back s5 qc) fun b o' z=>?_
     have nbe:b≠e:=ag (s4 _ _ z) he
     rw[ah nbe]
     exact k5 _ _ (s5 _ _ z) nbe
    ·have ec:¬0<aO (aA xs) k - aO (dO kvs xs ys t) k:=by simpa using ec
     refine⟨af,_,_,rfl,by rw[kD,eC xu],?_⟩
     rw[←uH,Ig,eQ,if_neg ec]
   ·rintro σ H' ⟨v7,v8,rfl,rfl,uH⟩
    rw[List.drop_length] at uH
    refine q ?_ _ PR
    rw[hs,←uH]
    rfl
variable {uC uP uI uD uL uT eR eS eU uG uS:Tok} {Ch HE Sh St:Addr}
structure N2 (K:PySem.W.Frag) (mg:Str→Option Value) (C R G Pc Fo Ch St:Addr) (uK uN uB uE uM uC uP uI uD uL uT eR eS eU uG uS:Tok):Prop extends nu K mg C R G Pc Fo Ch uK uN uB uE uM uC uP uI uD uL uT eR eS eU uG uS where
 ky:mg "enumerate" =none
 bQ:sy K St
 eO:cG K St "amounts"
 qa:cG K St "gone"
def AD (x:Str) (xs ys:List Tm):Prop:=x.cps.toList=sx xs++p7++sx ys∧xs≠[]∧ys≠[]∧(∀t∈xs,fJ t)∧(∀t∈ys,fJ t)∧x.length≤400∧xs.length+ys.length≤8∧yH (xs++ys)≤60∧(∀t∈xs,cS t.2)∧(∀t∈ys,cS t.2)∧∀k,sumZ xs k=sumZ ys k
theorem qd (t b:Int) (k:Key) (hb:0≤b):∀(as:List (Str×Int)) (acc:List (Key×V)) (B:Int),(∀p∈as, -b≤p.2*t∧p.2*t≤b)→ -B≤aO acc k→aO acc k≤B→ -(B+as.length*b)≤aO (a8 t acc as) k∧aO (a8 t acc as) k≤B+as.length*b
 | [],acc,B,_,h1,h2=>by
   show -(B+((0 :Nat):Int)*b)≤aO acc k∧aO acc k≤B+((0 :Nat):Int)*b
   simp
   exact⟨h1,h2⟩
 |p::r,acc,B,h,h1,h2=>by
  have hp:=h p (List.mem_cons_self ..)
  have e:aO (b8 acc (Sum.inr p.1) (p.2*t)) k=if k=Sum.inr p.1 then aO acc (Sum.inr p.1)+p.2*t else aO acc k:=iF _ _ _ _
  have Em: -(B+b)≤aO (b8 acc (Sum.inr p.1) (p.2*t)) k∧aO (b8 acc (Sum.inr p.1) (p.2*t)) k≤B+b:=by
   rw[e]
   split
   ·rename_i ek
    rw[←ek]
    omega
   ·omega
  have ih:=qd t b k hb r (b8 acc (Sum.inr p.1) (p.2*t)) (B+b) (fun q hq=>h q (List.mem_cons_of_mem _ hq)) Em.1 Em.2
  have el:((p::r).length:Int)*b=b+(r.length:Int)*b:=by rw[List.length_cons];push_cast;rw[Int.add_mul];omega
  rw[el]
  show -(B+(b+(r.length:Int)*b))≤aO (a8 t (b8 acc (Sum.inr p.1) (p.2*t)) r) k∧aO (a8 t (b8 acc (Sum.inr p.1) (p.2*t)) r) k≤B+(b+(r.length:Int)*b)
  omega
theorem Kh {KV:List (Key×V)} {B:Int} (hB:0≤B) (h:∀k, -B≤aO KV k∧aO KV k≤B) (L:List (Key×V)) (k:Key): -B≤aO (rP KV L) k∧aO (rP KV L) k≤B:=by
 cases e:b7 (rP KV L) k with
 |none=>rw[eD e];omega
 |some v=>
  have hm:=fR e
  obtain⟨q,_,Z0⟩:=List.mem_map.mp hm
  injection Z0 with e1 e2
  rw[←e2] at e
  rw[fw e]
  exact h _
theorem B1 {x:Str} {xs ys:List Tm} (h:AD x xs ys):XN xs ys:=fun k=>by
 obtain⟨_,_,_,h1,h2,_,hl,_⟩:=h
 have hy:∀p∈fF ys, -(10^12)≤p.2*1∧p.2*1≤10^12:=fun p hp=>by
  obtain⟨z,hz,rfl⟩:=List.mem_map.mp hp
  have:=h2 z hz
  have b1:=this.1
  have b2:=this.2.1
  show -(10^12)≤z.1*1∧z.1*1≤10^12
  omega
 have hx:∀p∈fF xs, -(10^12)≤p.2*(-1)∧p.2*(-1)≤10^12:=fun p hp=>by
  obtain⟨z,hz,rfl⟩:=List.mem_map.mp hp
  have:=h1 z hz
  have b1:=this.1
  have b2:=this.2.1
  show -(10^12)≤z.1*(-1)∧z.1*(-1)≤10^12
  omega
 have e:∀zs:List Tm,(fF zs).length=zs.length:=fun zs=>by unfold fF;rw[List.length_map]
 have key:∀k, -(10^13)≤aO (uv xs ys) k∧aO (uv xs ys) k≤10^13:=fun k=>by
  have a1:=qd 1 (10^12) k (by decide) (fF ys) [] 0 hy (Int.le_refl _) (Int.le_refl _)
  have a2:=qd (-1) (10^12) k (by decide) (fF xs) (a8 1 [] (fF ys)) (0+(fF ys).length*10^12) hx a1.1 a1.2
  rw[e,e] at a2
  show -(10^13)≤aO (a8 (-1) (a8 1 [] (fF ys)) (fF xs)) k∧aO (a8 (-1) (a8 1 [] (fF ys)) (fF xs)) k≤10^13
  omega
 have:=Kh (by decide) key (uv xs ys) k
 show -(2^62) <aO (rP (uv xs ys) (uv xs ys)) k∧aO (rP (uv xs ys) (uv xs ys)) k<2^62
 omega
def GR (C G Pc Fo Ch:Addr):Sp:=fun vs H Q _=>∃(x:Str) (xs ys:List Tm),vs=[.str x]∧AD x xs ys∧∀c H',H c=none→NL C G Pc Fo Ch H H' c xs ys→au H H'→Q (.ref c) H'
structure jJ where
 xs:List Tm
 ys:List Tm
 x:Str
 m:Int
def gA (H:Hp) (t:Addr) (r:jJ):Prop:=H t=some (.tup [.str r.x, .int r.m])
def oO (am:List (Key×V)) (rs:List jJ):List (Key×V):=rs.foldl (fun a r=>dO a r.xs r.ys r.m) am
def B2 (C G Pc Fo Ch Sh St:Addr):Sp:=fun vs H Q E=>∃(st d g rl:Addr) (kvs:List (Key×V)) (gs:List V) (ts:List Addr) (rs:List jJ),vs=[.ref st, .ref rl]∧jT St H st d g∧H d=some (.dK kvs)∧H g=some (.lst gs)∧g≠rl∧bu kvs∧kvs.length≤400∧H rl=some (.lst (ts.map V.ref))∧Paired (gA H) ts rs∧rs.length≤10∧gs.length≤1000∧(∀r∈rs,AD r.x r.xs r.ys)∧
 (∀i r t k l,rs[i]? =some r→ck (oO kvs (rs.take i)) r.xs r.ys r.m=some (t,k,l)→0≤t+1∧t+1<10^50∧0≤l∧l<10^50)∧
 ((∀i r,rs[i]? =some r→ck (oO kvs (rs.take i)) r.xs r.ys r.m=none)→∀d' H',(d'=d∨H d'=none)→jT St H' st d' g→H' d'=some (.dK (oO kvs rs))→H' g=some (.lst (gs++ts.map V.ref))→(∀b o,H b=some o→b≠st→b≠g→H' b=some o)→Q .cU H')∧
 (∀(i:Nat) r t (x:Str) l e dx H',rs[i]? =some r→(∀j r,j<i→rs[j]? =some r→ck (oO kvs (rs.take j)) r.xs r.ys r.m=none)→ck (oO kvs (rs.take i)) r.xs r.ys r.m=some (t,Sum.inr x,l)→H' e=some (zZ e Sh (some dx))→H' dx=some (zt dx (Eu (i:Nat) (t+1) x l))→H e=none→H dx=none→au H H'→E (.ref Sh) (some dx) H')
theorem N3 {kvs:List (Key×V)} (rs:List jJ) (i:Nat) (h:bu kvs):bu (oO kvs (rs.take i)):=by
 generalize rs.take i=l
 induction l generalizing kvs with
 |nil=>exact h
 |cons r l ih=>exact ih (df _ _ _ _ h)
theorem N4 {kvs:List (Key×V)}:∀{rs:List jJ},(∀r∈rs,r.xs.length+r.ys.length≤8)→(oO kvs rs).length≤kvs.length+8*rs.length:=by
 intro rs
 induction rs generalizing kvs with
 |nil=>intro _;exact Nat.le_refl _
 |cons r l ih=>
  intro h
  have h1:=ih (kvs:=dO kvs r.xs r.ys r.m) fun q hq=>h q (List.mem_cons_of_mem _ hq)
  have h2:(dO kvs r.xs r.ys r.m).length≤kvs.length+(iI r.xs r.ys).length:=eG _ _ _ _
  have h3:(iI r.xs r.ys).length≤(uv r.xs r.ys).length:=wJ _ _
  have h4:=wK r.xs r.ys
  have h5:=h r (List.mem_cons_self ..)
  rw[List.length_cons]
  show (oO (dO kvs r.xs r.ys r.m) l).length≤_
  omega
theorem B3 (d g a:Addr):cL "amounts" (.ref a) (yL d g)=yL a g:=by
 unfold yL
 simp [cL,XH]
theorem jK:ax ["self","rows","changes","amounts","step","change","times"] ["self","rows"] (aj qV):=⟨rfl,rfl,rfl,by decide+kernel,rfl,by decide+kernel,by decide+kernel⟩
def PvG (C G Pc Fo Ch L:Addr) (H:Hp) (rs:List jJ):Nat→List V→Hp→Prop:=fun i ys H'=>∃cs:List Addr,ys=cs.map V.ref∧cs.length=i∧Paired (fun c (r:jJ)=>∀cz:Hp,(∀b o,H b=none→b≠L→H' b=some o→cz b=some o)→dB C G Pc Fo Ch cz c r.xs r.ys) cs (rs.take i)
theorem GS (D:a9 K St "go_all" "Store.go_all" qV ["self","rows"]) (T:N2 K mg C R G Pc Fo Ch St uK uN uB uE uM uC uP uI uD uL uT eR eS eU uG uS) (c1:bg P w K mg base 15 "read_even" ["text"] (GR C G Pc Fo Ch)) (c2:Fy P w K mg base 11 "refuse_short" ["change","times","amounts","step"] (yR C G Pc Fo Ch Sh)) (c3:bg P w K mg base 10 "turned" ["change","times","amounts"] (rT C G Pc Fo Ch)):
  Ab P w K mg base 17 St "go_all" ["self","rows"] (B2 C G Pc Fo Ch Sh St):=by
 obtain⟨_,_,iK⟩:=c1
 obtain⟨_,_,fE⟩:=c2
 obtain⟨_,_,fD⟩:=c3
 refine D.Fz jK (fun vs H Q E h=>?_) (fun f bA A outer s H vs Q E hr h=>?_)
 ·obtain⟨st,d,g,rl,kvs,gs,ts,rs,rfl,_⟩:=h
  rfl
 ·obtain⟨st,d,g,rl,kvs,gs,ts,rs,rfl,⟨dx,fI⟩,hd,hg,ngr,hI,me,Ki,hP,hr20,N5,aS,hb,q,qE⟩:=h
  have hu:=dz hr
  have big:(2000 :Nat)≤sizeLine:=by decide
  refine⟨_,(ai
     (pK (i:=2) jK.nd rfl (Or.inl rfl) (sc:=(aj qV)) (NX:=["self","rows","changes","amounts","step","change","times"]) (N:=["text","times"]) (fr:=[none,none]) ⟨by rfl,by rfl,by decide+kernel,by decide+kernel,by decide+kernel,by rfl,by decide+kernel⟩ rfl rfl rfl (cN (pv 1)) (fun _ _ _ _=>(vq K 2 rfl rfl (bo (aG (i:=0) (show (["text","times"]:List Str).Nodup by decide+kernel) rfl (Or.inl rfl) (Or.inr rfl)) (bo (aG (i:=1) (show (["text","times"]:List Str).Nodup by decide+kernel) rfl (Or.inl rfl) (Or.inr rfl)) dW)))) (fun _ _ _ _=>fW) (fun _ _ _ _=>(aH iK.ok (hr.mono (by decide)) rfl iK.g iK.kp iK.b .nil ay (aa (pv 0) ak))))
    (ai
     (aB (i:=3) jK.nd rfl (Or.inl rfl) (a0 (pv 0) rfl))
    (ai
     (bW Fj rfl (Bc rfl T.ky (aa (pv 2) ak)) (gS rfl (bo (aG (i:=4) jK.nd rfl (Or.inl rfl)) (bo (aG (i:=5) jK.nd rfl (Or.inl rfl)) dW)))
      (ai
       (aB (i:=6) jK.nd rfl (Or.inl rfl) (cE gW (cE cZ (pv 1) (pv 4) (fun _ _=>rfl)) aq (fun _ _=>rfl)))
      (ai
       (bz (Fn fE.ok (hr.mono (by decide)) rfl fE.g fE.kp fE.b .nil vB (aa (pv 5) (aa (pv 6) (aa (pv 3) (aa (pv 4) ak))))))
      (ao
       (aB (i:=3) jK.nd rfl (Or.inl rfl) (aH fD.ok (hr.mono (by decide)) rfl fD.g fD.kp fD.b .nil ay (aa (pv 5) (aa (pv 6) (aa (pv 3) ak)))))))))
    (ai
     (eK (pv 0) (pv 3) rfl)
    (ao
     (bz (i' PySem.F.plainAttrs_list PySem.F.slot_list_extend PySem.F.type_list_extend CW (a0 (pv 0) rfl) (aa (pv 1) ak)))))))),?_⟩
  have iO:=Paired.length hP
  refine⟨_,rfl,rl,rfl,⟨_,b5.of Ki⟩,fun L hL=>kL (K:=K) (a:=rl) (L:=L) (xs:=ts.map V.ref) H (fun σ=>∃v u:Option V,σ=[v,u]) (PvG C G Pc Fo Ch L H rs) (b5.of Ki) ?_ hL ⟨none,none,rfl⟩ (au.new hL) af ⟨[],rfl,rfl, .nil⟩ (by rw[List.length_map];omega) ?_ ?_ ?_⟩
  ·rintro i ys Ha Hb C4 ⟨cs,h1,h2,h3⟩
   exact⟨cs,h1,h2,aK (fun c r z cz k=>z cz fun b o z1 z2 z3=>k b o z1 z2 (C4 _ _ z3 z2)) h3⟩
  ·rintro i ys H' ⟨cs,rfl,h2,_⟩
   rw[List.length_map,h2];exact Nat.le_refl _
  ·rintro j w σ' H5 vs hj ⟨w1,w2,rfl⟩ e5 o9 ⟨cs,rfl,PQ,XQ⟩ N M hN
   rw[List.getElem?_map] at hj
   obtain⟨t,ht,rfl⟩:∃m,ts[j]? =some m∧w=V.ref m:=by
    cases hh:ts[j]? with
    |none=>rw[hh] at hj;cases hj
    |some m=>rw[hh] at hj;exact⟨m,rfl,(Option.some.inj hj).symm⟩
   obtain⟨r,Ew,B4⟩:=bI hP ht
   have B4:H t=some (.tup [.str r.x, .int r.m]):=B4
   refine⟨t,_,rfl,iX.of (e5 _ _ B4),rfl,_,_,rfl,_,_,rfl,rfl,?_⟩
   refine⟨_,rfl,r.x,r.xs,r.ys,rfl,aS r (List.mem_of_getElem? Ew),fun c H6 nc hN6 e6=>?_⟩
   refine hN _ _ _ ⟨_,_,rfl⟩ (e5.trans e6) (e6 _ _ o9) ⟨cs++[c],by rw[List.map_append];rfl,by rw[List.length_append,PQ];rfl,?_⟩
   rw[take_snoc Ew]
   refine bS (fun cz k=>hN6 cz fun b o z1 z2=>k b o (none_back e5 z1) (fun z=>by rw[z,o9] at z1;cases z1) z2) (aK (fun c r z cz k=>z cz fun b o z1 z2 z3=>k b o z1 z2 (e6 _ _ z3)) XQ)
  rintro H2 ys e2 sH ⟨cs,rfl,PQ,XQ⟩
  rw[List.length_map] at PQ
  have B4:rs.take ts.length=rs:=by rw[iO,List.take_length]
  rw[List.length_map,B4] at XQ
  refine⟨_,rfl,st,St,dx,_,_,rfl,e2 _ _ fI,T.bQ,T.eO,iJ _ _,?_⟩
  dsimp only [du]
  have Z1:cs.length=rs.length:=by rw[PQ,iO]
  have hCh:∀{i:Nat} {c:Addr} {r:jJ} {H':Hp},cs[i]? =some c→rs[i]? =some r→au H2 H'→dB C G Pc Fo Ch H' c r.xs r.ys:=fun {i c r H'} h1 h2 e=>by
   obtain⟨r',Ew,z⟩:=bI XQ h1
   rw[h2] at Ew
   cases Ew
   exact z H' fun b o _ _ z3=>e _ _ z3
  have hLH:H L=none:=hL
  refine⟨_,rfl,L,rfl,⟨_,b5.of sH⟩,xY (K:=K) (a:=L) (xs:=cs.map V.ref) (fun i σ H'=>∃(a:Addr) (v4 v5 v6:Option V),σ=[some (.ref st),some (.ref rl),some (.ref L),some (.ref a),v4,v5,v6]∧H' a=some (.dK (oO kvs (rs.take i)))∧(a=d∨H a=none)∧(∀j r,j<i→rs[j]? =some r→ck (oO kvs (rs.take j)) r.xs r.ys r.m=none)∧au H2 H') ?_ (fun i σ H' ⟨_,_,_,_,_,_,_,_,z⟩=>b5.of (z _ _ sH)) ?_ ?_⟩
  ·exact⟨d,none,none,none,rfl,e2 _ _ hd, .inl rfl,(fun j r hj=>absurd hj (Nat.not_lt_zero _)),au.refl _⟩
  ·rintro i v p σ H' hi hp ⟨a,v4,v5,v6,rfl,ha,j6,XR,e3⟩
   rw[List.getElem?_map] at hi
   obtain⟨c,hc,rfl⟩:∃m,cs[i]? =some m∧v=V.ref m:=by
    cases hh:cs[i]? with
    |none=>rw[hh] at hi;cases hi
    |some m=>rw[hh] at hi;exact⟨m,rfl,(Option.some.inj hi).symm⟩
   have xW:i<rs.length:=by have:=(List.getElem?_eq_some_iff.mp hc).1;omega
   have Kj:=List.getElem?_eq_getElem xW
   have JX:ts[i]? =some ts[i]:=List.getElem?_eq_getElem (by omega)
   obtain⟨r',Ew,B4⟩:=bI hP JX
   generalize ts[i]=t at JX B4
   generalize rs[i]=r at Kj
   have er:r=r':=Option.some.inj (Kj.symm.trans Ew)
   subst er
   have B4:H t=some (.tup [.str r.x, .int r.m]):=B4
   have Io:=aS r (List.mem_of_getElem? Kj)
   have s4:=e3.trans (au.new (o:= .tup [.int (i:Nat), .ref c]) hp)
   have PY:=e2.trans s4
   have ha4:=au.new (o:= .tup [.int (i:Nat), .ref c]) hp _ _ ha
   refine⟨p,_,rfl,iX.of af,rfl,_,_,rfl,_,_,rfl,rfl,?_⟩
   refine⟨_,rfl,_,rfl,rl,_,_, .ref t,rfl,rfl,b5.of (PY _ _ Ki),pH (by rw[List.getElem?_map,JX];rfl),t,_,_, .int r.m,rfl,rfl,iX.of (PY _ _ B4),rfl,?_⟩
   have hIa:=N3 rs i hI
   have hla:=N4 (kvs:=kvs) (rs:=rs.take i) fun r hr=>(aS r (List.mem_of_mem_take hr)).2.2.2.2.2.2.1
   have sr:(rs.take i).length≤10:=by rw[List.length_take];omega
   dsimp only [du]
   refine⟨_,rfl,_,rfl,_,rfl,_,rfl,c,a,r.m,(i:Nat),r.xs,r.ys,oO kvs (rs.take i),rfl,hCh hc Kj s4,Io.2.2.2.2.2.2.2.2.1,Io.2.2.2.2.2.2.2.2.2.1,by have:=Io.2.2.2.2.2.2.1;omega,by have:=Io.2.2.2.2.2.2.1;omega,B1 Io,ha4,hIa,by omega,by omega,by omega,fun t k l z=>hb i r t k l Kj z,fun hs H5 e5=>?_,fun t' x l e dP H5 hs he qc ne RX e5=>?_⟩
   ·refine⟨_,rfl,_,rfl,_,rfl,c,a,r.m,r.xs,r.ys,oO kvs (rs.take i),rfl,hCh hc Kj (s4.trans e5),Io.2.2.2.2.2.2.2.2.1,Io.2.2.2.2.2.2.2.2.2.1,by have:=Io.2.2.2.2.2.2.1;omega,by have:=Io.2.2.2.2.2.2.1;omega,B1 Io,e5 _ _ ha4,hIa,by omega,fun a' H6 na' ha' e6=>?_⟩
    refine⟨a',_,_,_,rfl,?_, .inr (none_back (PY.trans e5) na'),fun j r2 hj hr2=>?_,(s4.trans e5).trans e6⟩
    ·rw[ha',take_snoc Kj]
     unfold oO
     rw[List.foldl_append]
     rfl
    ·rcases Nat.lt_succ_iff_lt_or_eq.mp hj with hj|hj
     ·exact XR j r2 hj hr2
     ·subst hj
      have er:=Option.some.inj (Kj.symm.trans hr2)
      rw[←er]
      exact hs
   ·exact qE i r t' x l e dP H5 Kj XR hs he qc (none_back PY ne) (none_back PY RX) (PY.trans e5)
  ·rintro σ H' ⟨a,v4,v5,v6,rfl,ha,j6,XR,e3⟩
   rw[List.length_map,Z1,List.take_length] at ha
   have LJ:=e2.trans e3
   have RY:=LJ _ _ fI
   have hlf:(yL d g).length<1000:=by unfold yL;simp [cL,XH]
   refine⟨_,rfl,_,rfl,st,St,dx,_,rfl,RY,T.bQ,T.eO,hlf,?_⟩
   have Z2:st≠g:=cI fI hg (by intro z;cases z)
   have nsr:st≠rl:=cI fI Ki (by intro z;cases z)
   have RZ:st≠a:=cI RY ha (by intro z;cases z)
   have Z3:g≠a:=cI (LJ _ _ hg) ha (by intro z;cases z)
   refine⟨_,rfl,st,St,dx,_,_,rfl,af,T.bQ,T.qa,(by rw[B3];exact yM _ _),?_⟩
   have hg3:(upd H' st (.ins St dx (cL "amounts" (.ref a) (yL d g)))) g=some (.lst gs):=by rw[ah (Ne.symm Z2)];exact LJ _ _ hg
   refine⟨.inl ⟨rfl,_,b5.of hg3⟩,_,rfl,g,rl,gs,ts.map V.ref,rfl,rfl,by rw[ah (Ne.symm Z2)];exact LJ _ _ hg,by rw[ah (Ne.symm nsr)];exact LJ _ _ Ki,by rw[List.length_map];omega,?_⟩
   refine q (fun i r hi=>XR i r (by rw[List.length_map];have:=(List.getElem?_eq_some_iff.mp hi).1;omega) hi) a _ j6 ⟨dx,by rw[ah Z2,af,B3]⟩ (by rw[ah (Ne.symm Z3),ah (Ne.symm RZ)];exact ha) af fun b o z n1 n2=>?_
   rw[ah n2,ah n1]
   exact LJ _ _ z
variable {uC uP uI uD uL uT eR eS eU uG uS:Tok} {Ch HE Sh St:Addr}
def R1 (C G Pc Fo Ch Sh St:Addr):Sp:=fun vs H Q E=>∃(st d g:Addr) (kvs:List (Key×V)) (gs:List V) (r:jJ),vs=[.ref st, .str r.x, .int r.m]∧jT St H st d g∧H d=some (.dK kvs)∧H g=some (.lst gs)∧bu kvs∧kvs.length≤400∧gs.length≤1000∧AD r.x r.xs r.ys∧
 (∀t k l,ck kvs r.xs r.ys r.m=some (t,k,l)→0≤t+1∧t+1<10^50∧0≤l∧l<10^50)∧
 (ck kvs r.xs r.ys r.m=none→∀d' t H',(d'=d∨H d'=none)→jT St H' st d' g→H' d'=some (.dK (dO kvs r.xs r.ys r.m))→H' g=some (.lst (gs++[.ref t]))→gA H' t r→(∀b o,H b=some o→b≠st→b≠g→H' b=some o)→Q .cU H')∧
 (∀t (x:Str) l e dx H',ck kvs r.xs r.ys r.m=some (t,Sum.inr x,l)→H' e=some (zZ e Sh (some dx))→H' dx=some (zt dx (Eu 0 (t+1) x l))→H e=none→H dx=none→au H H'→E (.ref Sh) (some dx) H')
theorem Z4:ax ["self","text","times"] ["self","text","times"] (aj Dh):=⟨rfl,rfl,rfl,by decide+kernel,rfl,by decide+kernel,by decide+kernel⟩
theorem R3 (D:Bg K St "go" "Store.go" Dh ["self","text","times"] [1]) (T:N2 K mg C R G Pc Fo Ch St uK uN uB uE uM uC uP uI uD uL uT eR eS eU uG uS) (c1:Ab P w K mg base 17 St "go_all" ["self","rows"] (B2 C G Pc Fo Ch Sh St)):vD P w K mg base 18 St "go" ["self","text","times"] [1] (R1 C G Pc Fo Ch Sh St):=by
 obtain⟨_,_,ib⟩:=c1
 refine D.Fz Z4 (fun vs H Q E h=>?_) (fun f bA A outer s H vs Q E hr h=>?_)
 ·obtain⟨st,d,g,kvs,gs,r,rfl,_⟩:=h
  rfl
 ·obtain⟨st,d,g,kvs,gs,r,rfl,⟨dx,fI⟩,hd,hg,hI,me,N5,aS,hb,q,qE⟩:=h
  have big:(2000 :Nat)≤sizeLine:=by decide
  refine⟨_,(ao
     (bz (qP (pv 0) T.bQ ib.m ib.ok (hr.mono (by decide)) ib.b .nil vB (aa (cD (aa (bP (aa (pv 1) (aa (pv 2) ak))) ak)) ak)))),?_⟩
  refine⟨_,rfl,st,dx,_,rfl,fI,jI _ _ (by decide+kernel) (by decide+kernel),_,rfl,_,rfl,(by show 2≤sizeLine;decide),fun t ht=>⟨(by show 1≤sizeLine;decide),fun rl Ki=>?_⟩⟩
  have s1:=au.new (o:= .tup [.str r.x, .int r.m]) ht
  have s2:=s1.trans (au.new (o:= .lst [.ref t]) Ki)
  have RN:=au.new (o:= .lst [.ref t]) Ki _ _ (af (H:=H) (a:=t) (o:= .tup [.str r.x, .int r.m]))
  have h0:([r]:List jJ).take 0=[]:=rfl
  have one:∀{i:Nat} {r':jJ},[r][i]? =some r'→i=0∧r'=r:=fun {i r'} z=>by
   match i,z with
   |0,z=>exact⟨rfl,(Option.some.inj z).symm⟩
  refine⟨st,d,g,rl,kvs,gs,[t],[r],rfl,⟨dx,s2 _ _ fI⟩,s2 _ _ hd,s2 _ _ hg,ag (s1 _ _ hg) Ki,hI,me,af, .cons RN .nil,(by show 1≤10;decide),N5,(fun r' Ew=>by rw[List.mem_singleton.mp Ew];exact aS),fun i r' t' k l z1 z2=>?_,fun z d' H' h0 h1 h2 h3 h4=>?_,fun i r' t' x l e dP H' z1 z2 z3 h1 h2 h3 h4 h5=>?_⟩
  ·obtain⟨rfl,rfl⟩:=one z1
   exact hb t' k l z2
  ·refine q (z 0 r rfl) d' t H' (h0.imp id (none_back s2)) h1 h2 h3 (h4 _ _ RN ?_ ?_) fun b o y n1 n2=>h4 _ _ (s2 _ _ y) n1 n2
   ·exact Ne.symm (ag fI ht)
   ·exact Ne.symm (ag hg ht)
  ·obtain⟨rfl,rfl⟩:=one z1
   exact qE t' x l e dP H' z3 h1 h2 (none_back s2 h3) (none_back s2 h4) (s2.trans h5)
variable {uC uP uI uD uL uT eR eS eU uG uS:Tok} {Ch HE Sh St X1 X2 X3 X4 X5 X6 X7 X8 X9:Addr}
structure N6 (K:PySem.W.Frag) (mg:Str→Option Value) (C HE Sh St X1 X2 X3 X4 X5 X6 X7 X8 X9:Addr):Prop extends Ke K mg HE Sh,oo K mg C where
 bQ:sy K St
 xa:mg "ValueError" =none
 AE:mg "NoChange" =some (.ref X1)
 yS:mg "NoFormula" =some (.ref X2)
 GU:mg "NoName" =some (.ref X3)
 Kk:mg "NoRow" =some (.ref X4)
 DS:mg "NoSplit" =some (.ref X5)
 yT:mg "NoBalance" =some (.ref X6)
 DT:mg "TooLong" =some (.ref X7)
 DU:mg "TooMany" =some (.ref X8)
 xb:mg "Unbalanced" =some (.ref X9)
 i1:PySem.W.kitOne K (.ref Sh) (.ref X1)=some false
 i2:PySem.W.kitOne K (.ref Sh) (.ref X2)=some false
 i3:PySem.W.kitOne K (.ref Sh) (.ref X3)=some false
 i4:PySem.W.kitOne K (.ref Sh) (.ref X4)=some false
 i5:PySem.W.kitOne K (.ref Sh) (.ref X5)=some false
 i6:PySem.W.kitOne K (.ref Sh) (.ref X6)=some false
 i7:PySem.W.kitOne K (.ref Sh) (.ref X7)=some false
 i8:PySem.W.kitOne K (.ref Sh) (.ref X8)=some false
 i9:PySem.W.kitOne K (.ref Sh) (.ref X9)=some false
 iV:PySem.W.kitOne K (.ref Sh) (.type "ValueError")=some true
 iS:PySem.W.kitOne K (.ref Sh) (.ref Sh)=some true
def yU (Sh:Addr):Sp:=fun vs H Q _=>∃e:Addr,vs=[.ref e]∧Jt H e Sh∧Q (.bl false) H
theorem GV:ax ["_law_e"] ["_law_e"] (aj pT):=⟨rfl,rfl,rfl,by decide+kernel,rfl,by decide+kernel,by decide+kernel⟩
theorem DV {f0:Addr} (D:Def K mg "_law_others" "_law_others" pT ["_law_e"]) (T:N6 K mg C HE Sh St X1 X2 X3 X4 X5 X6 X7 X8 X9) (Z:PySem.W.eY K Sh HE f0):bg P w K mg base 1 "_law_others" ["_law_e"] (yU Sh):=by
 refine D.di GV (fun vs H Q E h=>?_) (fun f bA A outer s H vs Q E hr h=>?_)
 ·obtain⟨e,rfl,_⟩:=h
  rfl
 ·obtain⟨e,rfl,hE,q⟩:=h
  refine⟨_,(ai
     (bG (PW.pt (il (cJ (br bX rfl T.bx bh (aa (pv 0) (aa (aX (v:= .ref _) rfl T.AE rfl) ak)))) (il (cJ (br bX rfl T.bx bh (aa (pv 0) (aa (aX (v:= .ref _) rfl T.yS rfl) ak)))) (il (cJ (br bX rfl T.bx bh (aa (pv 0) (aa (aX (v:= .ref _) rfl T.GU rfl) ak)))) (jZ (cJ (br bX rfl T.bx bh (aa (pv 0) (aa (aX (v:= .ref _) rfl T.Kk rfl) ak)))))))))
      (ao
       (aD jS))
      aR)
    (ai
     (bG (PW.pt (il (cJ (br bX rfl T.bx bh (aa (pv 0) (aa (aX (v:= .ref _) rfl T.DS rfl) ak)))) (il (cJ (br bX rfl T.bx bh (aa (pv 0) (aa (aX (v:= .ref _) rfl T.yT rfl) ak)))) (il (cJ (br bX rfl T.bx bh (aa (pv 0) (aa (aX (v:= .ref _) rfl T.DT rfl) ak)))) (jZ (cJ (br bX rfl T.bx bh (aa (pv 0) (aa (aX (v:= .ref _) rfl T.DU rfl) ak)))))))))
      (ao
       (aD jS))
      aR)
    (ao
     (aD (Qd (br bX rfl T.bx bh (aa (pv 0) (aa (aX (v:= .ref _) rfl T.xb rfl) ak))) (qp (EC (br bX rfl T.bx bh (aa (pv 0) (aa (mf (v:= .ty "ValueError") rfl T.xa sF rfl) ak)))))))))),?_⟩
  refine⟨_,rfl,e,_,_,Sh,HE,f0,false,rfl,rfl,Z,T.dE,hE,T.i1,_,rfl,cH ⟨_,rfl,e,_,_,Sh,HE,f0,false,rfl,rfl,Z,T.dE,hE,T.i2,_,rfl,cH ⟨_,rfl,e,_,_,Sh,HE,f0,false,rfl,rfl,Z,T.dE,hE,T.i3,_,rfl,cH ⟨_,rfl,e,_,_,Sh,HE,f0,false,rfl,rfl,Z,T.dE,hE,T.i4,_,rfl,cH ?_⟩⟩⟩⟩
  refine⟨_,rfl,e,_,_,Sh,HE,f0,false,rfl,rfl,Z,T.dE,hE,T.i5,_,rfl,cH ⟨_,rfl,e,_,_,Sh,HE,f0,false,rfl,rfl,Z,T.dE,hE,T.i6,_,rfl,cH ⟨_,rfl,e,_,_,Sh,HE,f0,false,rfl,rfl,Z,T.dE,hE,T.i7,_,rfl,cH ⟨_,rfl,e,_,_,Sh,HE,f0,false,rfl,rfl,Z,T.dE,hE,T.i8,_,rfl,cH ?_⟩⟩⟩⟩
  refine⟨_,rfl,e,_,_,Sh,HE,f0,false,rfl,rfl,Z,T.dE,hE,T.i9,_,rfl,cH ⟨_,rfl,e,_,_,Sh,HE,f0,true,rfl,rfl,Z,T.dE,hE,T.iV,?_⟩⟩
  exact⟨_,rfl,q⟩
variable {uC uP uI uD uL uT eR eS eU uG uS:Tok} {Ch HE Sh St X1 X2 X3 X4 X5 X6 X7 X8 X9:Addr}
theorem nv (st tn:Int) (x:Str) (lk:Int):(Eu st tn x lk).lookup ("lack" :Str)=some (.int lk):=by
 unfold Eu
 rw[az,if_pos rfl]
theorem ph (st tn:Int) (x:Str) (lk:Int):(Eu st tn x lk).lookup ("formula" :Str)=some (.str x):=by
 unfold Eu
 rw[az,if_neg (by decide+kernel),az,if_pos rfl]
theorem nz (st tn:Int) (x:Str) (lk:Int):(Eu st tn x lk).lookup ("turn" :Str)=some (.int tn):=by
 unfold Eu
 rw[az,if_neg (by decide+kernel),az,if_neg (by decide+kernel),az,if_pos rfl]
theorem nB (st tn:Int) (x:Str) (lk:Int):(Eu st tn x lk).lookup ("step" :Str)=some (.int st):=by
 unfold Eu
 rw[az,if_neg (by decide+kernel),az,if_neg (by decide+kernel),az,if_neg (by decide+kernel)]
 rfl
def GW (C G Pc Fo Ch Sh St:Addr):Sp:=fun vs H Q _=>∃(st d g:Addr) (kvs:List (Key×V)) (gs:List V) (r:jJ) (bare:Bool),vs=[.ref st, .str r.x, .int r.m, .bl bare]∧(bare=true→r.m=1)∧jT St H st d g∧H d=some (.dK kvs)∧H g=some (.lst gs)∧bu kvs∧kvs.length≤400∧gs.length≤1000∧AD r.x r.xs r.ys∧
 (∀t k l,ck kvs r.xs r.ys r.m=some (t,k,l)→0≤t+1∧t+1<10^50∧0≤l∧l<10^50)∧
 (ck kvs r.xs r.ys r.m=none→∀d' t tt H',(d'=d∨H d'=none)→jT St H' st d' g→H' d'=some (.dK (dO kvs r.xs r.ys r.m))→H' g=some (.lst (gs++[.ref t]))→gA H' t r→H' tt=some (.tup [.int 0, .bl true])→(∀b o,H b=some o→b≠st→b≠g→H' b=some o)→Q (.ref tt) H')∧
 (∀t (x:Str) l tt H',ck kvs r.xs r.ys r.m=some (t,Sum.inr x,l)→H' tt=some (.tup [.int 1, .int 0, .int (t+1), .str x, .int l])→au H H'→Q (.ref tt) H')
theorem l8:ax ["_law_store","_law_text_here","_law_times","_law_bare","_law_caught","_law_found","_law_e"] ["_law_store","_law_text_here","_law_times","_law_bare"] (aj Bk):=⟨rfl,rfl,rfl,by decide+kernel,rfl,by decide+kernel,by decide+kernel⟩
theorem Kl {f0:Addr} (D:Def K mg "_law_gone" "_law_gone" Bk ["_law_store","_law_text_here","_law_times","_law_bare"]) (T:N6 K mg C HE Sh St X1 X2 X3 X4 X5 X6 X7 X8 X9) (Z:PySem.W.eY K Sh HE f0) (c1:vD P w K mg base 18 St "go" ["self","text","times"] [1] (R1 C G Pc Fo Ch Sh St)) (c2:bg P w K mg base 1 "_law_others" ["_law_e"] (yU Sh)) (c3:bg P w K mg base 1 "_law_whole" ["_law_found"] vV):
  bg P w K mg base 19 "_law_gone" ["_law_store","_law_text_here","_law_times","_law_bare"] (GW C G Pc Fo Ch Sh St):=by
 obtain⟨_,_,fU⟩:=c1
 obtain⟨_,_,jL⟩:=c2
 obtain⟨_,_,bT⟩:=c3
 obtain⟨_,xc,xf⟩:=fU.bs 1 (by decide)
 obtain⟨_,xg,xh⟩:=fU.bs 0 (by decide)
 refine D.di l8 (fun vs H Q E h=>?_) (fun f bA A outer s H vs Q E hr h=>?_)
 ·obtain⟨st,d,g,kvs,gs,r,bare,rfl,_⟩:=h
  rfl
 ·obtain⟨st,d,g,kvs,gs,r,bare,rfl,hm,⟨dx,fI⟩,hd,hg,hI,me,N5,aS,hb,q,qE⟩:=h
  have big:(2000 :Nat)≤sizeLine:=by decide
  refine⟨_,(ai
     (aB (i:=4) l8.nd rfl (Or.inl rfl) u7)
    (ai
     (aB (i:=5) l8.nd rfl (Or.inl rfl) u7)
    (ai
     (Jr ⟨rfl,rfl⟩ (fun _ _=>
      (ao
       (bG (cJ (pv 3))
        (ao
         (aB (i:=5) l8.nd rfl (Or.inl rfl) (qP (pv 0) T.bQ fU.m fU.ok (hr.mono (by decide)) xh xg x4 (aa (pv 1) ak))))
        (ao
         (aB (i:=5) l8.nd rfl (Or.inl rfl) (qP (pv 0) T.bQ fU.m fU.ok (hr.mono (by decide)) xf xc x4 (aa (pv 1) (aa (pv 2) ak)))))))) (fun _=>(Nd K rfl (i:=6) rfl T.pf T.wV l8.nd rfl rfl (fun _=>
      (ao
       (aB (i:=4) l8.nd rfl (Or.inl rfl) (pv 6)))) (Na Jq))))
    (ai
     (bG (qo (qm (pv 4)))
      (ao
       (aD (bP (aa aq (aa (zC (qm (pv 5))) ak)))))
      aR)
    (ai
     (bG (PW.pt (il (jo (cJ (br bX rfl T.bx bh (aa (pv 4) (aa (aX (v:= .ref _) rfl T.Kf rfl) ak))))) (jZ (cJ (aH jL.ok (hr.mono (by decide)) rfl jL.g jL.kp jL.b .nil ay (aa (pv 4) ak))))))
      (ao
       (aD (bP (aa aq (aa (zC (qm (pv 4))) ak)))))
      aR)
    (ai
     (bG (PW.pt (il (jo (cJ (aH bT.ok (hr.mono (by decide)) rfl bT.g bT.kp bT.b .nil ay (aa (jv (pv 4) rfl) ak)))) (il (jo (cJ (aH bT.ok (hr.mono (by decide)) rfl bT.g bT.kp bT.b .nil ay (aa (jv (pv 4) rfl) ak)))) (jZ (jo (cJ (aH bT.ok (hr.mono (by decide)) rfl bT.g bT.kp bT.b .nil ay (aa (jv (pv 4) rfl) ak))))))))
      (ao
       (aD (bP (aa aq (aa (zC (qm (pv 4))) ak)))))
      aR)
    (ao
     (aD (bP (aa aq (aa (jv (pv 4) rfl) (aa (jv (pv 4) rfl) (aa (jv (pv 4) rfl) (aa (jv (pv 4) rfl) ak)))))))))))))),?_⟩
  refine⟨_,rfl,_,rfl,fG (fun yV=>?_) fun yV=>?_⟩
  ·refine⟨_,rfl,st,dx,_,rfl,fI,jI _ _ (by decide+kernel) (by decide+kernel),_,rfl,st,d,g,kvs,gs,r,(by rw[hm yV];rfl),⟨dx,fI⟩,hd,hg,hI,me,N5,aS,hb,fun hs d' t H' h0 h1 h2 h3 h4 h5=>?_,fun t x l e jU H' hs he qc ne RX e1=>?_⟩
   ·refine⟨_,rfl,_,rfl,ik ?_⟩
    refine⟨_,rfl,(by show 2≤sizeLine;decide),fun tt AF=>?_⟩
    have s2:=au.new (o:= .tup [.int 0, .bl true]) AF
    obtain⟨wj,h1⟩:=h1
    exact q hs d' t tt _ h0 ⟨wj,s2 _ _ h1⟩ (s2 _ _ h2) (s2 _ _ h3) (s2 _ _ h4) af fun b o z n1 n2=>s2 _ _ (h5 b o z n1 n2)
   ·refine⟨Sh,HE,f0,true,rfl,Z,T.yQ,ik fun e' tF=>?_⟩
    have hE:Jt H' e' Sh:= .inr ⟨jU,_,tF,qc⟩
    refine⟨_,rfl,?_⟩
    refine⟨_,rfl,_,rfl,cH ?_⟩
    refine⟨_,rfl,e',_,_,Sh,HE,f0,true,rfl,rfl,Z,T.dE,hE,T.iS,_,rfl,cH ⟨_,rfl,e',rfl,hE,_,rfl,cH ?_⟩⟩
    refine⟨_,rfl,e',Sh,HE,f0,jU,_,_,rfl,Z,T.wX,tF,qc,nz _ _ _ _,_,rfl,_,rfl,cH ⟨_,rfl,e',Sh,HE,f0,jU,_,_,rfl,Z,T.wY,tF,qc,nv _ _ _ _,_,rfl,_,rfl,cH ⟨_,rfl,e',Sh,HE,f0,jU,_,_,rfl,Z,T.wW,tF,qc,nB _ _ _ _,_,rfl,_,rfl,cH ?_⟩⟩⟩
    refine⟨_,rfl,e',Sh,HE,f0,jU,_,_,rfl,Z,T.wW,tF,qc,nB _ _ _ _,_,rfl,e',Sh,HE,f0,jU,_,_,rfl,Z,T.wX,tF,qc,nz _ _ _ _,_,rfl,e',Sh,HE,f0,jU,_,_,rfl,Z,T.uA,tF,qc,ph _ _ _ _,_,rfl,e',Sh,HE,f0,jU,_,_,rfl,Z,T.wY,tF,qc,nv _ _ _ _,(by show 5≤sizeLine;decide),fun tt AF=>?_⟩
    exact qE t x l tt _ hs af (e1.trans (au.new AF))
  ·refine⟨_,rfl,st,dx,_,rfl,fI,jI _ _ (by decide+kernel) (by decide+kernel),_,rfl,_,rfl,st,d,g,kvs,gs,r,rfl,⟨dx,fI⟩,hd,hg,hI,me,N5,aS,hb,fun hs d' t H' h0 h1 h2 h3 h4 h5=>?_,fun t x l e jU H' hs he qc ne RX e1=>?_⟩
   ·refine⟨_,rfl,_,rfl,ik ?_⟩
    refine⟨_,rfl,(by show 2≤sizeLine;decide),fun tt AF=>?_⟩
    have s2:=au.new (o:= .tup [.int 0, .bl true]) AF
    obtain⟨wj,h1⟩:=h1
    exact q hs d' t tt _ h0 ⟨wj,s2 _ _ h1⟩ (s2 _ _ h2) (s2 _ _ h3) (s2 _ _ h4) af fun b o z n1 n2=>s2 _ _ (h5 b o z n1 n2)
   ·refine⟨Sh,HE,f0,true,rfl,Z,T.yQ,ik fun e' tF=>?_⟩
    have hE:Jt H' e' Sh:= .inr ⟨jU,_,tF,qc⟩
    refine⟨_,rfl,?_⟩
    refine⟨_,rfl,_,rfl,cH ?_⟩
    refine⟨_,rfl,e',_,_,Sh,HE,f0,true,rfl,rfl,Z,T.dE,hE,T.iS,_,rfl,cH ⟨_,rfl,e',rfl,hE,_,rfl,cH ?_⟩⟩
    refine⟨_,rfl,e',Sh,HE,f0,jU,_,_,rfl,Z,T.wX,tF,qc,nz _ _ _ _,_,rfl,_,rfl,cH ⟨_,rfl,e',Sh,HE,f0,jU,_,_,rfl,Z,T.wY,tF,qc,nv _ _ _ _,_,rfl,_,rfl,cH ⟨_,rfl,e',Sh,HE,f0,jU,_,_,rfl,Z,T.wW,tF,qc,nB _ _ _ _,_,rfl,_,rfl,cH ?_⟩⟩⟩
    refine⟨_,rfl,e',Sh,HE,f0,jU,_,_,rfl,Z,T.wW,tF,qc,nB _ _ _ _,_,rfl,e',Sh,HE,f0,jU,_,_,rfl,Z,T.wX,tF,qc,nz _ _ _ _,_,rfl,e',Sh,HE,f0,jU,_,_,rfl,Z,T.uA,tF,qc,ph _ _ _ _,_,rfl,e',Sh,HE,f0,jU,_,_,rfl,Z,T.wY,tF,qc,nv _ _ _ _,(by show 5≤sizeLine;decide),fun tt AF=>?_⟩
    exact qE t x l tt _ hs af (e1.trans (au.new AF))
variable {uC uP uI uD uL uT eR eS eU uG uS:Tok} {Ch HE Sh St:Addr}
def uJ:Sp:=fun vs H Q _=>∃a t g:Int,vs=[.int a, .int t, .int g]∧ -(2^62) <g∧Q (oV (xy a t g)) H
theorem DW:ax ["amount","taken","gain"] ["amount","taken","gain"] (aj mL):=⟨rfl,rfl,rfl,by decide+kernel,rfl,by decide+kernel,by decide+kernel⟩
theorem AG (D:Def K mg "turns_of" "turns_of" mL ["amount","taken","gain"]):bg P w K mg base 1 "turns_of" ["amount","taken","gain"] uJ:=by
 refine D.di DW (fun vs H Q E h=>?_) (fun f bA A outer s H vs Q E hr h=>?_)
 ·obtain⟨a,t,g,rfl,_⟩:=h
  rfl
 ·obtain⟨a,t,g,rfl,hg,q⟩:=h
  refine⟨_,(ai
     (bG (aP mh (pv 0) (pv 1) (aV _))
      (ao
       (aD aq))
      aR)
    (ai
     (bG (aP Qo (pv 2) aq (aV _))
      (ao
       (aD u7))
      aR)
    (ao
     (aD (aE cf (aE Fd (aE j3 (pv 0) (pv 1)) (oW j4 (pv 2))) aq))))),?_⟩
  unfold xy at q
  refine⟨_,rfl,_,rfl,_,_,rfl,rfl,_,rfl,fG (fun e=>?_) fun e=>?_⟩
  ·have e:a<t:=by simpa using e
   rw[if_pos e] at q
   exact q
  have e:¬a<t:=by simpa using e
  rw[if_neg e] at q
  refine⟨_,rfl,_,_,rfl,rfl,_,rfl,fG (fun e=>?_) fun e=>?_⟩
  ·have e:0≤g:=by simpa using e
   rw[if_pos e] at q
   exact q
  have e:¬0≤g:=by simpa using e
  rw[if_neg e] at q
  exact⟨_,rfl,_,rfl,_,_,rfl,rfl,_,rfl,_,rfl,_,_,rfl,rfl,⟨by omega,by omega⟩,_,_,rfl,rfl,q⟩
theorem nC:ax ["change","times","amounts","gained","told","text"] ["change","times","amounts"] (aj pR):=⟨rfl,rfl,rfl,by decide+kernel,rfl,by decide+kernel,by decide+kernel⟩
theorem DX (D:Def K mg "turned" "turned" pR ["change","times","amounts"]) (T:nu K mg C R G Pc Fo Ch uK uN uB uE uM uC uP uI uD uL uT eR eS eU uG uS) (c1:bg P w K mg base 9 "gains" ["change"] (wM C G Pc Fo Ch)):bg P w K mg base 10 "turned" ["change","times","amounts"] (rT C G Pc Fo Ch):=by
 obtain⟨_,_,gO⟩:=c1
 refine D.di nC (fun vs H Q E h=>?_) (fun f bA A outer s H vs Q E hr h=>?_)
 ·obtain⟨c,am,m,xs,ys,kvs,rfl,_⟩:=h
  rfl
 ·obtain⟨c,am,m,xs,ys,kvs,rfl,hC,hx,hy,lx,ly,hG,wZ,hI,hl,q⟩:=h
  have hu:=dz hr
  have big:(2000 :Nat)≤sizeLine:=by decide
  refine⟨_,(ai
     (aB (i:=3) nC.nd rfl (Or.inl rfl) (aH gO.ok (hr.mono (by decide)) rfl gO.g gO.kp gO.b .nil ay (aa (pv 0) ak)))
    (ai
     (aB (i:=4) nC.nd rfl (Or.inl rfl) (bK lO rfl T.jF iu (aa (pv 2) ak)))
    (ai
     (dI (bW PassesOwn.never rfl (cR (pv 3)) (aG (i:=5) nC.nd rfl (Or.inl rfl))
      (ao
       (cQ hu (pv 4) (pv 5) (aE cf (bR hu (pv 4) (pv 5) aq ⟨rfl,rfl,rfl,rfl⟩) (aE gT (pv 1) (b6 hu (pv 3) (pv 5) (fun _ _=>rfl)))) rfl))))
    (ao
     (aD (pv 4)))))),?_⟩
  refine⟨_,rfl,c,xs,ys,rfl,hC,hx,hy,lx,ly,fun d H1 nd hd e1=>?_⟩
  refine⟨_,rfl,am,_,rfl, .inl (e1 _ _ wZ),fun e0 pA=>?_⟩
  have e01:H e0=none:=none_back e1 pA
  have GA:e0≠d:=fun z=>by rw[z,hd] at pA;cases pA
  have s2:=au.new (o:= .dK kvs) pA
  have hd2:=s2 _ _ hd
  have XE:(upd H1 e0 (.dK kvs)) e0=some (.dK kvs):=af
  have e2:=e1.trans s2
  generalize upd H1 e0 (.dK kvs)=H2 at hd2 XE e2
  have hgl:(iI xs ys).length≤40:=by
   have h3:(iI xs ys).length≤(uv xs ys).length:=wJ _ _
   have h4:=wK xs ys
   omega
  have R4:bu (iI xs ys):=BL _ _
  dsimp only [du]
  refine⟨_,rfl,d,iI xs ys,rfl,hd2,fun o nf=>dA nf (fun j σ H3=>∃w:Option V,σ=[some (.ref c),some (.int m),some (.ref am),some (.ref d),some (.ref e0),w]∧H3=upd H2 e0 (.dK (dY m kvs ((iI xs ys).take j) (iI xs ys)))) ?_ ?_ ?_ ?_⟩
  ·exact⟨none,rfl,(eC XE).symm⟩
  ·rintro j σ H3 ⟨_,_,rfl⟩
   rw[ah (Ne.symm GA)]
   exact hd2
  ·rintro j k v σ H3 hj ⟨w,rfl,rfl⟩
   have oY:∀o',(upd (upd H2 e0 (.dK (dY m kvs ((iI xs ys).take j) (iI xs ys)))) d o') e0=some (.dK (dY m kvs ((iI xs ys).take j) (iI xs ys))):=fun o'=>by rw[ah GA];exact af
   have XF:=eG m (iI xs ys) ((iI xs ys).take j) kvs
   have JX:((iI xs ys).take j).length≤(iI xs ys).length:=List.length_take_le' _ _
   have Gi:=df m (iI xs ys) ((iI xs ys).take j) kvs hI
   have hv:=R4.dM (List.mem_of_getElem? hj)
   have Xt:=hG k
   refine⟨_,rfl,e0,rfl, .inl ⟨_, .inl (oY _)⟩,_,rfl,_,f9.k (k:=k) (oY _),_,rfl,_,rfl,_,rfl,d,V.int (aO (iI xs ys) k),rfl, .inl ⟨_,k, .inr ⟨o,af⟩,rfl,hv.symm⟩,_,_,rfl,rfl, .inr ⟨by omega,by omega⟩,_,_,Gi.at k,rfl,_,rfl,_,rfl,e0,_,rfl,i0.k (k:=k) (oY _) (by omega),?_⟩
   refine⟨by rw[ah (Ne.symm GA)];exact af,some (kV k),rfl,?_⟩
   rw[jj GA hd2]
   unfold dY
   rw[take_snoc hj,List.foldl_append]
   rfl
  ·rintro σ H3 ⟨w,rfl,rfl⟩
   rw[List.take_length]
   exact⟨_,rfl,q e0 _ e01 af fun b o' w'=>by rw[ah (ag w' e01)];exact e2 _ _ w'⟩
variable {uC uP uI uD uL uT eR eS eU uG uS:Tok} {Ch HE Sh St:Addr}
theorem l9:ax ["text","change","lost"] ["text"] (aj kR):=⟨rfl,rfl,rfl,by decide+kernel,rfl,by decide+kernel,by decide+kernel⟩
theorem DY {xs ys:List Tm} (h:∀k,sumZ xs k=sumZ ys k) (ms:List Str):GC ms xs ys=[]:=by
 unfold GC yK
 rw[List.filter_map,List.map_eq_nil_iff,List.filter_eq_nil_iff]
 intro k _
 simp [Function.comp,h]
theorem yW (D:Def K mg "read_even" "read_even" kR ["text"]) (T:nu K mg C R G Pc Fo Ch uK uN uB uE uM uC uP uI uD uL uT eR eS eU uG uS) (c1:bg P w K mg base 14 "read_change" ["text"] (uu C G Pc Fo Ch)) (c2:aJ P w K mg base 10 Ch "lost" ["self"] (GD C G Pc Fo Ch)):bg P w K mg base 15 "read_even" ["text"] (GR C G Pc Fo Ch):=by
 obtain⟨_,_,fY⟩:=c1
 obtain⟨_,_,iW⟩:=c2
 refine D.di l9 (fun vs H Q E h=>?_) (fun f bA A outer s H vs Q E hr h=>?_)
 ·obtain⟨x,xs,ys,rfl,_⟩:=h
  rfl
 ·obtain⟨x,xs,ys,rfl,hev,q⟩:=h
  obtain⟨h1,h2,h3,h4,h5,h6,h7,h8,h9,Zq,h11⟩:=id hev
  refine⟨_,(ai
     (aB (i:=1) l9.nd rfl (Or.inl rfl) (aH fY.ok (hr.mono (by decide)) rfl fY.g fY.kp fY.b .nil ay (aa (pv 0) ak)))
    (ai
     (aB (i:=2) l9.nd rfl (Or.inl rfl) (aN (pv 1) T.b9 iW.m iW.ok (hr.mono (by decide)) iW.b .nil ay))
    (ai
     (bG (qu (pv 2) (fun _=>rfl))
      (ao
       fZ)
      aR)
    (ao
     (aD (pv 1)))))),?_⟩
  refine⟨_,rfl,x,xs,ys,rfl,h1,h2,h3,h4,h5,h6,h7,fun c H1 nc hN e1=>?_⟩
  have hC:=hN H1 fun b o _ z=>z
  obtain⟨dx,l,r,hc,_⟩:=id hC
  refine⟨_,rfl,c,dx,_,rfl,hc,yr _ _ (by decide+kernel) (by decide+kernel),c,xs,ys,rfl,hC,fun z hz=>?_,by rw[List.length_append];omega,h8,fun L ts ms H2 hK nL hL hP e2=>?_⟩
  ·rcases List.mem_append.mp hz with z'|z'
   ·exact h9 z z'
   ·exact Zq z z'
  rw[DY h11] at hP
  cases hP
  have xx:H2 L=some (.lst []):=hL
  refine⟨_,rfl,false, .inl ⟨_,b5.of xx,rfl⟩,cH ⟨_,rfl,q c H2 nc (fun cz k=>hN cz fun b o z1 z2=>k b o z1 (e2 _ _ z2)) (e1.trans e2)⟩⟩
variable {uC uP uI uD uL uT eR eS eU uG uS:Tok} {Ch HE Sh St:Addr}
structure R5 (K:PySem.W.Frag) (mg:Str→Option Value) (C R G Pc Fo Ch:Addr) (uK uN uB uE uM uC uP uI uD uL uT eR eS eU uG uS:Tok):Prop extends nu K mg C R G Pc Fo Ch uK uN uB uE uM uC uP uI uD uL uT eR eS eU uG uS where
 R6:mg "min" =none
theorem rV:∀{l:List Int},l≠[]→∃b∈l,∀a∈l,b≤a
 | [],h=>absurd rfl h
 | [x],_=>⟨x,by simp,fun a ha=>by simp at ha;omega⟩
 |x::y::r,_=>by
  obtain⟨b,hb,hle⟩:=rV (l:=y::r) (by simp)
  by_cases c:x≤b
  ·exact⟨x,by simp,fun a ha=>by
    rcases List.mem_cons.mp ha with z|z
    ·omega
    ·have:=hle a z;omega⟩
  ·exact⟨b,List.mem_cons_of_mem _ hb,fun a ha=>by
    rcases List.mem_cons.mp ha with z|z
    ·omega
    ·exact hle a z⟩
theorem oP:∀{l:List (Option Int)},l.filterMap id=[]→eP l=none
 | [],_=>rfl
 |none::r,h=>oP (l:=r) (by simpa using h)
 |some i::r,h=>by simp at h
theorem jM:∀{l:List (Option Int)} {m:Int},m∈l.filterMap id→(∀a∈l.filterMap id,m≤a)→eP l=some m
 | [],m,h,_=>by simp at h
 |none::r,m,h,h'=>jM (l:=r) (by simpa using h) (fun a ha=>h' a (by simpa using ha))
 |some i::r,m,h,h'=>by
  have hi:m≤i:=h' i (by simp)
  cases e:eP r with
  |none=>
   have er:r.filterMap id=[]:=by
    cases f:r.filterMap id with
    |nil=>rfl
    |cons a as=>
     obtain⟨b,hb,hle⟩:∃b∈r.filterMap id,∀a∈r.filterMap id,b≤a:=rV (by rw[f];simp)
     rw[jM hb hle] at e
     cases e
   have hm:m=i:=by
    simp [er] at h
    rcases h with h| ⟨h,_⟩<;>omega
   show (match eP r with|none=>some i|some j=>some (if j<i then j else i))=some m
   rw[e,hm]
  |some j=>
   have hj:∃b∈r.filterMap id,∀a∈r.filterMap id,b≤a:=by
    apply rV
    intro z
    rw[oP z] at e
    cases e
   obtain⟨b,hb,hle⟩:=hj
   have eb:j=b:=by
    have:=jM hb hle
    rw[e] at this
    exact Option.some.inj this
   subst eb
   have hmj:m≤j:=h' j (by rw[List.filterMap_cons];simp;exact .inr (by simpa using hb))
   show (match eP r with|none=>some i|some j=>some (if j<i then j else i))=some m
   rw[e]
   have MO:m=i∨m∈r.filterMap id:=by
    rw[List.filterMap_cons] at h
    simpa using h
   rcases MO with MO|MO
   ·subst MO
    dsimp only
    rw[if_neg (by omega)]
   ·have:=hle m MO
    dsimp only
    split
    ·congr 1;omega
    ·congr 1;omega
theorem iL:ax ["change","amounts","taken","gained","told"] ["change","amounts"] (aj fP):=⟨rfl,rfl,rfl,by decide+kernel,rfl,by decide+kernel,by decide+kernel⟩
theorem Km (D:Def K mg "most_turns" "most_turns" fP ["change","amounts"]) (T:R5 K mg C R G Pc Fo Ch uK uN uB uE uM uC uP uI uD uL uT eR eS eU uG uS) (c1:bg P w K mg base 8 "side_counts" ["terms"] (gM C G Pc Fo)) (c2:bg P w K mg base 9 "gains" ["change"] (wM C G Pc Fo Ch)) (c3:bg P w K mg base 1 "turns_of" ["amount","taken","gain"] uJ):bg P w K mg base 10 "most_turns" ["change","amounts"] (GQ C G Pc Fo Ch):=by
 obtain⟨_,_,aZ⟩:=c1
 obtain⟨_,_,gO⟩:=c2
 obtain⟨_,_,jN⟩:=c3
 refine D.di iL (fun vs H Q E h=>?_) (fun f bA A outer s H vs Q E hr h=>?_)
 ·obtain⟨c,am,xs,ys,kvs,rfl,_⟩:=h
  rfl
 ·obtain⟨c,am,xs,ys,kvs,rfl,hC,hx,hy,lx,ly,hG,wZ,hI,q⟩:=h
  have hu:=dz hr
  have big:(2000 :Nat)≤sizeLine:=by decide
  obtain⟨dx,l,r,hc,hl,Ij⟩:=id hC
  refine⟨_,(ai
     (aB (i:=2) iL.nd rfl (Or.inr rfl) (aH aZ.ok (hr.mono (by decide)) rfl aZ.g aZ.kp aZ.b .nil ay (aa (a0 (pv 0) rfl) ak)))
    (ai
     (aB (i:=3) iL.nd rfl (Or.inr rfl) (aH gO.ok (hr.mono (by decide)) rfl gO.g gO.kp gO.b .nil ay (aa (pv 0) ak)))
    (ai
     (dI (pK (i:=4) iL.nd rfl (Or.inl rfl) (sc:=(aj fP)) (NX:=["change","amounts","taken","gained","told"]) (N:=["text","taken","amounts","gained"]) (fr:=[none,some 2,some 1,some 3]) ⟨by rfl,by rfl,by decide+kernel,by decide+kernel,by decide+kernel,by rfl,by decide+kernel⟩ rfl rfl rfl (cR (pv 2)) (fun _ _ _ _=>(aG (i:=0) (show (["text","taken","amounts","gained"]:List Str).Nodup by decide+kernel) rfl (Or.inl rfl) (Or.inr rfl))) (fun _ _ _ _=>fW) (fun _ _ _ _=>(aH jN.ok (hr.mono (by decide)) rfl jN.g jN.kp jN.b .nil ay (aa (bR hu (pv 2) (pv 0) aq ⟨rfl,rfl,rfl,rfl⟩) (aa (b6 hu (pv 1) (pv 0) (fun _ _=>rfl)) (aa (bR hu (pv 3) (pv 0) aq ⟨rfl,rfl,rfl,rfl⟩) ak)))))))
    (ao
     (aD (Jv rfl rfl T.R6 (aa (fk (sc:=(aj fP)) (NX:=["change","amounts","taken","gained","told"]) (N:=["turns"]) (fr:=[none]) ⟨by rfl,by rfl,by decide+kernel,by decide+kernel,by decide+kernel,by rfl,by decide+kernel⟩ rfl rfl rfl (cN (pv 4)) (fun _ _ _ _=>(aG (i:=0) (show (["turns"]:List Str).Nodup by decide+kernel) rfl (Or.inl rfl) (Or.inr rfl))) (fun _ _ _ _=>(mq (qo (u9 (pv 0))))) (fun _ _ _ _=>(pv 0))) ak))))))),?_⟩
  refine⟨_,rfl,c,Ch,dx,_,_,rfl,hc,T.b9,T.gZ,eV _ _,l,xs,rfl,hl,hx,lx,fun tk H1 LI xu e1=>?_⟩
  refine⟨_,rfl,c,xs,ys,rfl,hC.same e1,hx,hy,lx,ly,fun gn H2 ngn hgn e2=>?_⟩
  have zA:=e1.trans e2
  have Z5:H2 tk=some (.dK (aA xs)):=e2 _ _ xu
  have PX:bu (aA xs):=cC _
  have R4:bu (iI xs ys):=BL _ _
  have AA:(aA xs).length≤20:=by
   have:=dC (fF xs)
   have e:(fF xs).length=xs.length:=by unfold fF;rw[List.length_map]
   unfold aA
   omega
  have Z6:=zA _ _ wZ
  have nat:am≠tk:=ag wZ LI
  have ngt:gn≠tk:=Ne.symm (ag xu ngn)
  refine⟨_,rfl,tk,aA xs,rfl,Z5,fun o nf L hL=>?_⟩
  have PV:L≠tk:=fun z=>by rw[z,af] at hL;cases hL
  have xx:H2 L=none:=by rwa [ah PV] at hL
  refine kK (a:=tk) (D:=L) (kvs:=aA xs) (fun i σ H'=>∃v:Option V,σ=[v,some (.ref tk),some (.ref am),some (.ref gn)]∧H' tk=some (.fH o (.dK (aA xs)))∧H' L=some (.lst (((aA xs).take i).map fun q=>oV (xy (aO kvs q.1) (aO (aA xs) q.1) (aO (iI xs ys) q.1))))∧∀b o',H2 b=some o'→b≠tk→H' b=some o') ?_ (fun i σ H' ⟨_,_,z,_⟩=>z) ?_ ?_
  ·exact⟨none,rfl,by rw[ah (Ne.symm PV),af],af,fun b o' z hb=>by rw[ah (ag z xx),ah hb];exact z⟩
  ·rintro i k v σ H' hi ⟨v',rfl,f1,f2,f3⟩ N hN
   have hv:=PX.dM (List.mem_of_getElem? hi)
   have ha:=f3 _ _ Z6 nat
   have hg:=f3 _ _ hgn ngt
   have xW:=(List.getElem?_eq_some_iff.mp hi).1
   refine⟨_,rfl,am,rfl, .inl ⟨_, .inl ha⟩,_,rfl,_,f9.k (k:=k) ha,_,rfl,_,rfl,tk,V.int (aO (aA xs) k),rfl, .inl ⟨_,k, .inr ⟨o,f1⟩,rfl,hv.symm⟩,_,rfl,gn,rfl, .inl ⟨_, .inl hg⟩,_,rfl,_,f9.k (k:=k) hg,?_⟩
   rw[hI.at k,R4.at k]
   refine⟨aO kvs k,aO (aA xs) k,aO (iI xs ys) k,rfl,(hG k).1,_,f2,by rw[List.length_map,List.length_take];omega,hN _ _ ⟨_,rfl,by rw[ah (Ne.symm PV)];exact f1,?_,fun b o' z hb=>by rw[ah (ag z xx)];exact f3 b o' z hb⟩⟩
   rw[af,take_snoc hi,List.map_append]
   rfl
  rintro σ H' ⟨v',rfl,f1,f2,f3⟩
  rw[List.take_length] at f2
  refine⟨tk,o,aA xs,f1,nf,?_⟩
  have s3:au H (upd H' tk (.dK (aA xs))):=fun b o' z=>by
   have nb:b≠tk:=ag z LI
   rw[ah nb]
   exact f3 _ _ (zA _ _ z) nb
  have ni:(upd H' tk (.dK (aA xs))) L=some (.lst ((aA xs).map fun q=>oV (xy (aO kvs q.1) (aO (aA xs) q.1) (aO (iI xs ys) q.1)))):=by rw[ah PV];exact f2
  have em:uF kvs xs ys=eP ((aA xs).map fun q=>xy (aO kvs q.1) (aO (aA xs) q.1) (aO (iI xs ys) q.1)):=rfl
  have eo:((aA xs).map fun q=>oV (xy (aO kvs q.1) (aO (aA xs) q.1) (aO (iI xs ys) q.1)))=((aA xs).map fun q=>xy (aO kvs q.1) (aO (aA xs) q.1) (aO (iI xs ys) q.1)).map oV:=by rw[List.map_map];rfl
  rw[eo] at ni
  have hol:((aA xs).map fun q=>xy (aO kvs q.1) (aO (aA xs) q.1) (aO (iI xs ys) q.1)).length≤20:=by rw[List.length_map];exact AA
  rw[em] at q
  generalize ((aA xs).map fun q=>xy (aO kvs q.1) (aO (aA xs) q.1) (aO (iI xs ys) q.1))=os at ni hol q
  generalize upd H' tk (.dK (aA xs))=H3 at s3 ni ⊢
  have hlen:∀i,((os.take i).filterMap id).length≤i:=fun i=>Nat.le_trans (List.length_filterMap_le _ _) (by rw[List.length_take];omega)
  refine⟨_,rfl,L,rfl,⟨_,b5.of ni⟩,fun M hM=>tE (K:=K) (a:=L) (L:=M) (xs:=os.map oV) H3 (fun σ=>∃v:Option V,σ=[v]) (fun i ys=>ys=((os.take i).filterMap id).map V.int) (b5.of ni) hM ⟨none,rfl⟩ (au.new hM) af rfl (by rw[List.length_map];omega) ?_ ?_ ?_⟩
  ·rintro i ys rfl
   rw[List.length_map]
   exact hlen i
  ·rintro i v σ H5 ys hi ⟨w,rfl⟩ e5 R7 rfl N M' hN hM'
   rw[List.getElem?_map] at hi
   obtain⟨z,hz,rfl⟩:∃z,os[i]? =some z∧v=oV z:=by
    cases hh:os[i]? with
    |none=>rw[hh] at hi;cases hi
    |some z=>rw[hh] at hi;exact⟨z,rfl,(Option.some.inj hi).symm⟩
   cases z with
   |none=>
    refine⟨_,rfl,_,rfl,cH (hM' _ _ ⟨_,rfl⟩ e5 R7 ?_)⟩
    rw[take_snoc hz,List.filterMap_append]
    simp
   |some j=>
    refine⟨_,rfl,_,rfl,ik ⟨_,rfl,hN _ _ _ ⟨_,rfl⟩ e5 R7 ?_⟩⟩
    rw[take_snoc hz,List.filterMap_append,List.map_append]
    rfl
  ·rintro H5 ys e5 R7 rfl
   rw[List.length_map,List.take_length] at R7
   refine⟨M,os.filterMap id,rfl,b5.of R7,fun h0=>?_,fun m hm hle=>?_⟩
   ·have:=q H5 (s3.trans e5)
    rw[oP h0] at this
    exact this
   ·have:=q H5 (s3.trans e5)
    rw[jM hm hle] at this
    exact this
variable {uC uP uI uD uL uT eR eS eU uG uS:Tok} {Ch HE Sh St:Addr}
def B5:Sp:=fun vs H Q _=>∃(l:Addr) (xs:List Tm),vs=[.ref l]∧cT H l xs∧(∀x∈xs,cS x.2)∧xs.length≤20∧∀e H',H e=none→H' e=some (.dK (aA xs))→au H H'→Q (.ref e) H'
theorem qe:ax ["_law_terms","_law_found","_law_count_here","_law_formula"] ["_law_terms"] (aj vN):=⟨rfl,rfl,rfl,by decide+kernel,rfl,by decide+kernel,by decide+kernel⟩
theorem GX (D:Def K mg "_law_asked" "_law_asked" vN ["_law_terms"]):bg P w K mg base 1 "_law_asked" ["_law_terms"] B5:=by
 refine D.di qe (fun vs H Q E h=>?_) (fun f bA A outer s H vs Q E hr h=>?_)
 ·obtain⟨l,xs,rfl,_⟩:=h
  rfl
 ·obtain⟨l,xs,rfl,⟨ts,hl,hP⟩,aS,XC,q⟩:=h
  have hu:=dz hr
  have big:(2000 :Nat) <sizeLine:=by decide
  have iO:=Paired.length hP
  refine⟨_,(ai
     (aB (i:=1) qe.nd rfl (Or.inl rfl) dw)
    (ai
     (bW PassesOwn.never rfl (cN (pv 0)) (gS rfl (bo (aG (i:=2) qe.nd rfl (Or.inl rfl)) (bo (aG (i:=3) qe.nd rfl (Or.inl rfl)) dW)))
      (ao
       (cQ hu (pv 1) (cE gW (pv 3) aq (fun _ _=>rfl)) (aE cf (bR hu (pv 1) (cE gW (pv 3) aq (fun _ _=>rfl)) aq ⟨rfl,rfl,rfl,rfl⟩) (pv 2)) rfl)))
    (ao
     (aD (pv 1))))),?_⟩
  refine fun d hd=>?_
  have sD:=au.new (o:= .dK []) hd
  refine⟨_,rfl,l,rfl,⟨_,b5.of (sD _ _ hl)⟩,fb (K:=K) (a:=l) (xs:=ts.map V.ref) (fun i σ H'=>∃v2 v3:Option V,σ=[some (.ref l),some (.ref d),v2,v3]∧H' d=some (.dK (a8 1 [] (fF (xs.take i))))∧au H H') ?_ (fun i σ H' _ ⟨_,_,_,_,z⟩=>b5.of (z _ _ hl)) ?_ ?_⟩
  ·exact⟨none,none,rfl,af,sD⟩
  ·rintro i v σ H' hi ⟨v2,v3,rfl,fK,e⟩
   rw[List.getElem?_map] at hi
   obtain⟨t,ht,rfl⟩:∃p,ts[i]? =some p∧v=V.ref p:=by
    cases hh:ts[i]? with
    |none=>rw[hh] at hi;cases hi
    |some p=>rw[hh] at hi;exact⟨p,rfl,(Option.some.inj hi).symm⟩
   obtain⟨y,hy,fo,h1,cd,h2,_⟩:=bI hP ht
   have hI:bu (a8 1 [] (fF (xs.take i))):=iB 1 _ _ fun p hp=>by cases hp
   have me:=iC 1 (fF (xs.take i)) []
   have XD:(fF (xs.take i)).length≤20:=by unfold fF;rw[List.length_map,List.length_take];omega
   rw[List.length_nil] at me
   refine⟨t,_,rfl,iX.of (e _ _ h1),rfl,_,_,rfl,_,_,rfl,rfl,?_⟩
   refine⟨_,rfl,d,rfl, .inl ⟨_, .inl fK⟩,_,rfl,fo,_,_,_,rfl,rfl,iX.of (e _ _ h2),rfl,_,f9.k (k:=Sum.inr ⟨(fL y.2).toArray⟩) fK,_,rfl,_,_,hI.at _,rfl,_,rfl,_,rfl,fo,_,_,_,rfl,rfl,iX.of (e _ _ h2),rfl,d,_,rfl,i0.k (k:=Sum.inr ⟨(fL y.2).toArray⟩) fK (by omega),?_⟩
   refine⟨_,_,rfl,?_,fun b o z=>?_⟩
   ·rw[af,yC hy]
    rfl
   ·rw[ah (ag z hd)]
    exact e _ _ z
  ·rintro σ H' ⟨v2,v3,rfl,fK,e⟩
   rw[List.length_map,iO,List.take_length] at fK
   exact⟨_,rfl,q d H' hd fK e⟩
variable {uC uP uI uD uL uT:Tok} {St:Addr}
def lh (H:Hp) (l:Addr) (ws:List Fm):Prop:=∃ts:List Addr,H l=some (.lst (ts.map V.ref))∧Paired (yp H) ts ws
theorem lh.same {H H':Hp} {l:Addr} {ws:List Fm} (h:lh H l ws) (e:au H H'):lh H' l ws:=let ⟨ts,h1,h2⟩:=h;⟨ts,e _ _ h1,aK (fun _ _ z=>z.same e) h2⟩
def B6 (K:PySem.W.Frag):Sp:=fun vs H Q _=>∃(a:Addr) (ns:List Int),vs=[.ref a]∧b5 K H a (ns.map V.int)∧ns.length≤63∧∀(l:Addr) (ws:List Fm) H',lh H' l ws→(∀w∈ws,cS w)→(∀w∈ws,(cW 1 w.1).length≤3)→ws.length=3→au H H'→Q (.ref l) H'
theorem B7:ax ["_law_script","_law_kinds"] ["_law_script"] (aj oj):=⟨rfl,rfl,rfl,by decide+kernel,rfl,by decide+kernel,by decide+kernel⟩
theorem GY (D:Def K mg "_law_world" "_law_world" oj ["_law_script"]) (T:pD K mg C R G Pc Fo St uK uN uB uE uM uC uP uI uD uL uT) (c1:bg P w K mg base 1 "_law_cell_at" ["_law_script","_law_k"] (qX K)) (c2:bg P w K mg base 1 "_law_mixed" ["_law_cell","_law_prime"] LG) (c3:bg P w K mg base 1 "_law_kind" ["_law_number"] BC) (c4:bg P w K mg base 2 "_law_matter" ["_law_cell","_law_kinds"] yP):
  bg P w K mg base 3 "_law_world" ["_law_script"] (B6 K):=by
 obtain⟨_,_,aM⟩:=c1
 obtain⟨_,_,eW⟩:=c2
 obtain⟨_,_,nE⟩:=c3
 obtain⟨_,_,jO⟩:=c4
 refine D.di B7 (fun vs H Q E h=>?_) (fun f bA A outer s H vs Q E hr h=>?_)
 ·obtain⟨a,ns,rfl,_⟩:=h
  rfl
 ·obtain⟨a,ns,rfl,hS,hlen,q⟩:=h
  have hu:=dz hr
  have RT:=hr.nX
  have big:(2000 :Nat)≤sizeLine:=by decide
  refine⟨_,(ai
     (aB (i:=1) B7.nd rfl (Or.inr rfl) (fk (sc:=(aj oj)) (NX:=["_law_script","_law_kinds"]) (N:=["_law_k","_law_script"]) (fr:=[none,some 0]) ⟨by rfl,by rfl,by decide+kernel,by decide+kernel,by decide+kernel,by rfl,by decide+kernel⟩ rfl rfl rfl (gP rfl T.kS (aa aq ak)) (fun _ _ _ _=>(aG (i:=0) (show (["_law_k","_law_script"]:List Str).Nodup by decide+kernel) rfl (Or.inl rfl) (Or.inr rfl))) (fun _ _ _ _=>fW) (fun _ _ _ _=>(aH nE.ok (hr.mono (by decide)) rfl nE.g nE.kp nE.b .nil ay (aa (aH eW.ok (hr.mono (by decide)) rfl eW.g eW.kp eW.b .nil ay (aa (aH aM.ok (hr.mono (by decide)) rfl aM.g aM.kp aM.b .nil ay (aa (pv 1) (aa (pv 0) ak))) (aa aq ak))) ak)))))
    (ao
     (aD (fk (sc:=(aj oj)) (NX:=["_law_script","_law_kinds"]) (N:=["_law_k","_law_kinds","_law_script"]) (fr:=[none,some 1,some 0]) ⟨by rfl,by rfl,by decide+kernel,by decide+kernel,by decide+kernel,by rfl,by decide+kernel⟩ rfl rfl rfl (gP rfl T.kS (aa aq ak)) (fun _ _ _ _=>(aG (i:=0) (show (["_law_k","_law_kinds","_law_script"]:List Str).Nodup by decide+kernel) rfl (Or.inl rfl) (Or.inr rfl))) (fun _ _ _ _=>fW) (fun _ _ _ _=>(aH jO.ok (hr.mono (by decide)) rfl jO.g jO.kp jO.b .nil ay (aa (aH eW.ok (hr.mono (by decide)) rfl eW.g eW.kp eW.b .nil ay (aa (aH aM.ok (hr.mono (by decide)) rfl aM.g aM.kp aM.b .nil ay (aa (pv 2) (aa (aE cf aq (pv 0)) ak))) (aa aq ak))) (aa (pv 1) ak)))))))),?_⟩
  refine⟨_,rfl,by decide,by decide,fun L hL=>E8 (L:=L) H (fun σ=>∃v:Option V,σ=[v,some (.ref a)]) (fun i ys=>∃ks:List (List Nat),ys=ks.map (fun k=>V.str ⟨k.toArray⟩)∧ks.length=i∧∀k∈ks,lS k) hL ⟨none,rfl⟩ (au.new hL) af ⟨[],rfl,rfl,fun k hk=>by cases hk⟩ (by decide) ?_ ?_ ?_⟩
  ·rintro i ys ⟨ks,rfl,e,_⟩
   rw[List.length_map,e];exact Nat.le_refl _
  ·rintro i σ H2 ys hi ⟨v,rfl⟩ e2 sH ⟨ks,rfl,me,xv⟩ N M hN
   refine⟨_,rfl,_,rfl,a,ns,i,by rw[Int.zero_add];rfl,e2.seq hS,hlen,fun n=>⟨n,1000003,rfl,by decide,by decide,fun n2=>⟨n2,rfl,fun k H3 hk e3=>?_⟩⟩⟩
   refine hN _ _ _ ⟨_,rfl⟩ (e2.trans e3) (e3 _ _ sH) ⟨ks++[k],by rw[List.map_append];rfl,by rw[List.length_append,me];rfl,fun k' Ll=>?_⟩
   rcases List.mem_append.mp Ll with z|z
   ·exact xv k' z
   ·have:k'=k:=by simpa using z
    rw[this];exact hk
  rintro H2 ys e2 sH ⟨ks,rfl,me,xv⟩
  obtain⟨k0,k1,k2,rfl⟩:∃k0 k1 k2,ks=[k0,k1,k2]:=by
   match ks,me with
   | [k0,k1,k2],_=>exact⟨k0,k1,k2,rfl⟩
  have hk0:=xv k0 (by simp)
  have RU:=xv k1 (by simp)
  have Kc:=xv k2 (by simp)
  refine⟨_,rfl,by decide,by decide,fun L3 ni=>C6 (L:=L3) H2 (fun σ=>∃v:Option V,σ=[v,some (.ref L),some (.ref a)]) (fun i ys H'=>∃(ts ds:List Addr) (ws:List Fm),ys=ts.map V.ref∧ts.length=i∧(∀w∈ws,cS w)∧(∀w∈ws,(cW 1 w.1).length≤3)∧Paired (fun t x=>t≠L3∧∃d,d≠L3∧H' t=some (.tup [.str ⟨(fL x).toArray⟩, .ref d, .int x.2])∧H' d=some (.dK (cW 1 x.1))) ts ws) ?_ ni ⟨none,rfl⟩ (au.new ni) af ⟨[],[],[],rfl,rfl,(fun k hk=>by cases hk),(fun k hk=>by cases hk), .nil⟩ (by decide) ?_ ?_ ?_⟩
  ·rintro i ys Ha Hb hb ⟨ts,ds,ws,h1,h2,h3,h3',h4⟩
   exact⟨ts,ds,ws,h1,h2,h3,h3',aK (fun t x ⟨n1,d,n2,z1,z2⟩=>⟨n1,d,n2,hb _ _ z1 n1,hb _ _ z2 n2⟩) h4⟩
  ·rintro i ys H' ⟨ts,ds,ws,rfl,h2,_⟩
   rw[List.length_map,h2];exact Nat.le_refl _
  ·rintro i σ H5 ys hi ⟨v,rfl⟩ e5 o9 ⟨ts,ds,ws,rfl,AA,aS,AH,hP⟩ N M hN
   have ek:(3 :Int)+(0+(i:Int))=((3+i:Nat):Int):=by omega
   refine⟨_,rfl,_,rfl,_,_,rfl,rfl,a,ns,3+i,by rw[←ek];rfl,e5.seq (e2.seq hS),hlen,fun n=>⟨n,1000033,rfl,by decide,by decide,fun n2=>⟨_,rfl,n2,L,k0,k1,k2,rfl,e5 _ _ sH,hk0,RU,Kc,fun t x H6 md N7 hF e6=>?_⟩⟩⟩
   obtain⟨d,h1,h2⟩:=hF
   have JM:=e6 _ _ o9
   refine hN _ _ _ ⟨_,rfl⟩ (e5.trans e6) JM ⟨ts++[t],ds,ws++[x],by rw[List.map_append];rfl,by rw[List.length_append,AA];rfl,fun w hw=>?_,fun w hw=>?_,?_⟩
   ·rcases List.mem_append.mp hw with z|z
    ·exact aS w z
    ·have:w=x:=by simpa using z
     rw[this];exact md
   ·rcases List.mem_append.mp hw with z|z
    ·exact AH w z
    ·have:w=x:=by simpa using z
     rw[this];exact N7
   ·exact bS ⟨cI h1 JM (by intro z;cases z),d,cI h2 JM (by intro z;cases z),h1,h2⟩ (aK (fun t x ⟨n1,d,n2,z1,z2⟩=>⟨n1,d,n2,e6 _ _ z1,e6 _ _ z2⟩) hP)
  ·rintro H5 ys e5 o9 ⟨ts,ds,ws,rfl,AA,aS,AH,hP⟩
   refine q L3 ws H5 ⟨ts,o9,aK (fun t x ⟨n1,d,n2,z1,z2⟩=>⟨d,z1,z2⟩) hP⟩ aS AH ?_ (e2.trans e5)
   rw[←Paired.length hP,AA];rfl
def B8:Sp:=fun vs H Q _=>∃(l:Addr) (ws:List Fm),vs=[.ref l]∧lh H l ws∧(∀w∈ws,cS w)∧ws.length=3∧∀(e:Addr) (xs:List Str) H',H' e=some (.lst (xs.map V.str))→(∀x∈xs,Told ws x)→(∀x,Told ws x→x∈xs)→1≤xs.length→xs.length≤30→au H H'→Q (.ref e) H'
theorem lj:ax ["_law_world_here","_law_found","_law_text_here","_law_counts","_law_charge","_law_kind_here"] ["_law_world_here"] (aj vO):=⟨rfl,rfl,rfl,by decide+kernel,rfl,by decide+kernel,by decide+kernel⟩
theorem qf (kvs:List (Key×V)) (k:Key) (v:V):k∈(putK kvs k v).map (·.1):=by
 unfold putK
 split
 ·rename_i h
  obtain⟨q,hq,e⟩:=List.any_eq_true.mp h
  have e:q.1=k:=by simpa using e
  exact List.mem_map.mpr ⟨(q.1,v),List.mem_map.mpr ⟨q,hq,by rw[if_pos e]⟩,e⟩
 ·rw[List.map_append]
  exact List.mem_append_right _ (by simp)
theorem gf {kvs:List (Key×V)} {k j:Key} {v:V} (h:j∈kvs.map (·.1)):j∈(putK kvs k v).map (·.1):=by
 obtain⟨q,hq,rfl⟩:=List.mem_map.mp h
 unfold putK
 split
 ·refine List.mem_map.mpr ⟨if q.1=k then (q.1,v) else q,List.mem_map.mpr ⟨q,hq,rfl⟩,?_⟩
  split<;>rfl
 ·rw[List.map_append]
  exact List.mem_append_left _ (List.mem_map_of_mem hq)
def GZ (ws:List Fm) (kvs:List (Key×V)):Prop:=(Sum.inr "e^-" :Key)∈kvs.map (·.1)∧∀w∈ws,(Sum.inr (⟨(fL w).toArray⟩:Str):Key)∈kvs.map (·.1)∧∀k∈(cW 1 w.1).map (·.1),k∈kvs.map (·.1)
theorem GZ.put {ws:List Fm} {kvs:List (Key×V)} (h:GZ ws kvs) (k:Key) (v:V):GZ ws (putK kvs k v):=⟨gf h.1,fun w hw=>⟨gf (h.2 w hw).1,fun j hj=>gf ((h.2 w hw).2 j hj)⟩⟩
def pj (ws:List Fm) (kvs:List (Key×V)):Prop:=∀q∈kvs,∃s,q.1=Sum.inr s∧Told ws s
theorem pj.put {ws:List Fm} {kvs:List (Key×V)} (h:pj ws kvs) {s:Str} (hs:Told ws s) (v:V):pj ws (putK kvs (Sum.inr s) v):=fun q hq=>by
 rcases qb hq with hq|hq
 ·exact h q hq
 ·exact⟨s,by rw[hq],hs⟩
theorem B9 (kvs:List (Key×V)) (k:Key) (v:V):kvs.length≤(putK kvs k v).length:=by
 unfold putK
 split
 ·rw[List.length_map];exact Nat.le_refl _
 ·rw[List.length_append];exact Nat.le_add_right _ _
theorem uO {ws:List Fm}:∀{kvs:List (Key×V)},pj ws kvs→∃xs:List Str,(kvs.map fun q=>kV q.1)=xs.map V.str∧(∀x∈xs,Told ws x)∧xs.length=kvs.length
 | [],_=>⟨[],rfl,(fun x hx=>by cases hx),rfl⟩
 |p::r,h=>by
  obtain⟨xs,e,h1,h2⟩:=uO (kvs:=r) fun q hq=>h q (List.mem_cons_of_mem _ hq)
  obtain⟨s,es,hs⟩:=h p (List.mem_cons_self ..)
  refine⟨s::xs,?_,fun x hx=>?_,by rw[List.length_cons,List.length_cons,h2]⟩
  ·rw[List.map_cons,List.map_cons,e,es]
   rfl
  ·rcases List.mem_cons.mp hx with z|z
   ·rw[z];exact hs
   ·exact h1 x z
theorem G0 (D:Def K mg "_law_texts" "_law_texts" vO ["_law_world_here"]) (T:pD K mg C R G Pc Fo St uK uN uB uE uM uC uP uI uD uL uT):bg P w K mg base 1 "_law_texts" ["_law_world_here"] B8:=by
 refine D.di lj (fun vs H Q E h=>?_) (fun f bA A outer s H vs Q E hr h=>?_)
 ·obtain⟨l,ws,rfl,_⟩:=h
  rfl
 ·obtain⟨l,ws,rfl,⟨ts,hl,hP⟩,aS,h3,q⟩:=h
  have hu:=dz hr
  have RT:=hr.nX
  have big:(2000 :Nat)≤sizeLine:=by decide
  have iO:=Paired.length hP
  refine⟨_,(ai
     (aB (i:=1) lj.nd rfl (Or.inl rfl) (vf (qz bJ jS ve) rfl rfl (by intro z;cases z) (by decide)))
    (ai
     (bW PassesOwn.never rfl (cN (pv 0)) (gS rfl (bo (aG (i:=2) lj.nd rfl (Or.inl rfl)) (bo (aG (i:=3) lj.nd rfl (Or.inl rfl)) (bo (aG (i:=4) lj.nd rfl (Or.inl rfl)) dW))))
      (ai
       (cQ hu (pv 1) (pv 2) jS rfl)
      (ao
       (dI (bW PassesOwn.never rfl (cR (pv 3)) (aG (i:=5) lj.nd rfl (Or.inl rfl))
        (ao
         (cQ hu (pv 1) (pv 5) jS rfl)))))))
    (ao
     (aD (bK (qQ rfl) rfl T.n_list kJ (aa (pv 1) ak)))))),?_⟩
  refine fun d hd=>?_
  refine⟨af,[(Sum.inr "e^-", .bl true)],rfl,(by show 1≤15;decide),?_⟩
  have PB:(upd (upd H d (.dK [])) d (.dK (cu [] [(Sum.inr "e^-",V.bl true)]))) d=some (.dK [(Sum.inr "e^-", .bl true)]):=af
  have s0:au H (upd (upd H d (.dK [])) d (.dK (cu [] [(Sum.inr "e^-",V.bl true)]))):=fun b o z=>by
   rw[ah (ag z hd),ah (ag z hd)]
   exact z
  generalize upd (upd H d (.dK [])) d (.dK (cu [] [(Sum.inr "e^-",V.bl true)]))=H0 at PB s0 ⊢
  refine⟨_,rfl,l,rfl,⟨_,b5.of (s0 _ _ hl)⟩,fb (K:=K) (a:=l) (xs:=ts.map V.ref) (fun i σ H'=>∃(kvs:List (Key×V)) (v2 v3 v4 v5:Option V),σ=[some (.ref l),some (.ref d),v2,v3,v4,v5]∧H' d=some (.dK kvs)∧pj ws kvs∧GZ (ws.take i) kvs∧1≤kvs.length∧kvs.length≤1+8*i∧au H H') ?_ (fun i σ H' _ ⟨_,_,_,_,_,_,_,_,_,_,_,z⟩=>b5.of (z _ _ hl)) ?_ ?_⟩
  ·refine⟨_,none,none,none,none,rfl,PB,fun q hq=>?_,⟨by simp,fun w hw=>by cases hw⟩,Nat.le_refl _,Nat.le_refl _,s0⟩
   have e:q=((Sum.inr ("e^-" :Str),V.bl true):Key×V):=by simpa using hq
   exact⟨"e^-",by rw[e], .inl rfl⟩
  ·rintro i v σ H' hi ⟨kvs,v2,v3,v4,v5,rfl,fK,hT,hS,RU,Kc,e⟩
   rw[List.getElem?_map] at hi
   obtain⟨t,ht,rfl⟩:∃p,ts[i]? =some p∧v=V.ref p:=by
    cases hh:ts[i]? with
    |none=>rw[hh] at hi;cases hi
    |some p=>rw[hh] at hi;exact⟨p,rfl,(Option.some.inj hi).symm⟩
   obtain⟨x,hx,cd,h1,h2⟩:=bI hP ht
   have N8:=List.mem_of_getElem? hx
   have md:=aS x N8
   have xW:i<3:=by have:=(List.getElem?_eq_some_iff.mp hx).1;omega
   have PQ:(cW 1 x.1).length≤7:=Au md.2.2
   have Z7:cd≠d:=ag h2 hd
   refine⟨t,_,rfl,iX.of (e _ _ h1),rfl,_,_,rfl,_,_,rfl,_,_,rfl,rfl,?_⟩
   refine⟨_,rfl,_,rfl,d,_,rfl,i0.k (k:=Sum.inr ⟨(fL x).toArray⟩) fK (by omega),?_⟩
   have hT1:=hT.put (.inr (.inl ⟨x,N8,rfl⟩)) (V.bl true)
   have zq:(putK kvs (Sum.inr (⟨(fL x).toArray⟩:Str)) (V.bl true)).length≤kvs.length+1:=bY _ _ _
   have N5:kvs.length≤(putK kvs (Sum.inr (⟨(fL x).toArray⟩:Str)) (V.bl true)).length:=B9 _ _ _
   have hS1:=hS.put (Sum.inr (⟨(fL x).toArray⟩:Str)) (V.bl true)
   have R8:=qf kvs (Sum.inr (⟨(fL x).toArray⟩:Str)) (V.bl true)
   generalize putK kvs (Sum.inr (⟨(fL x).toArray⟩:Str)) (V.bl true)=R9 at hT1 zq N5 hS1 R8 ⊢
   have e1:au H (upd H' d (.dK R9)):=fun b o z=>by rw[ah (ag z hd)];exact e _ _ z
   have Ek:(upd H' d (.dK R9)) d=some (.dK R9):=af
   generalize upd H' d (.dK R9)=H1 at e1 Ek ⊢
   dsimp only [du]
   refine⟨_,rfl,cd,cW 1 x.1,rfl,e1 _ _ h2,fun o nf=>dA nf (fun j σ H3=>∃(w:Option V) (AI:List (Key×V)),σ=[some (.ref l),some (.ref d),some (.str ⟨(fL x).toArray⟩),some (.ref cd),some (.int x.2),w]∧H3 d=some (.dK AI)∧pj ws AI∧GZ (ws.take i) AI∧(Sum.inr (⟨(fL x).toArray⟩:Str):Key)∈AI.map (·.1)∧(∀k∈((cW 1 x.1).take j).map (·.1),k∈AI.map (·.1))∧1≤AI.length∧AI.length≤2+8*i+j∧au H H3) ?_ (fun j σ H3 ⟨_,_,_,_,_,_,_,_,_,_,z⟩=>z _ _ h2) ?_ ?_⟩
   ·exact⟨v5,R9,rfl,Ek,hT1,hS1,R8,(fun k hk=>by cases hk),by omega,by omega,e1⟩
   ·rintro j k v σ H3 hj ⟨w,AI,rfl,Ik,PZ,Kn,N9,Ca,PK,hl3,e3⟩
    obtain⟨kk,XG,ek⟩:=wR md _ (List.mem_of_getElem? hj)
    have ek:k=Sum.inr (⟨kk.toArray⟩:Str):=ek
    subst ek
    have hjl:j< (cW 1 x.1).length:=(List.getElem?_eq_some_iff.mp hj).1
    have FX:(upd H3 cd (.fH o (.dK (cW 1 x.1)))) d=some (.dK AI):=by rw[ah (Ne.symm Z7)];exact Ik
    refine⟨_,rfl,_,rfl,d,_,rfl,i0.k (k:=Sum.inr ⟨kk.toArray⟩) FX (by omega),?_⟩
    have XS:=PZ.put (.inr (.inr ⟨x,N8,List.mem_map_of_mem (f:=(·.1)) (List.mem_of_getElem? hj)⟩)) (V.bl true)
    have Lr:(putK AI (Sum.inr (⟨kk.toArray⟩:Str)) (V.bl true)).length≤AI.length+1:=bY _ _ _
    have hg4:AI.length≤(putK AI (Sum.inr (⟨kk.toArray⟩:Str)) (V.bl true)).length:=B9 _ _ _
    refine⟨by rw[ah Z7];exact af,_,_,rfl,by rw[ah (Ne.symm Z7),af],XS,Kn.put _ _,gf N9,fun k hk=>?_,by omega,by omega,fun b o' z=>?_⟩
    ·rw[take_snoc hj,List.map_append] at hk
     rcases List.mem_append.mp hk with hk|hk
     ·exact gf (Ca k hk)
     ·have ek:k=Sum.inr (⟨kk.toArray⟩:Str):=by simpa using hk
      rw[ek]
      exact qf _ _ _
    by_cases bc:b=cd
    ·subst bc
     rw[af]
     rw[h2] at z
     exact z
    ·rw[ah bc,ah (ag z hd),ah bc]
     exact e3 _ _ z
   ·rintro σ H3 ⟨w,AI,rfl,Ik,PZ,Kn,N9,Ca,PK,hl3,e3⟩
    rw[List.take_length] at Ca
    refine⟨AI,_,_,_,_,rfl,Ik,PZ,⟨Kn.1,fun w hw=>?_⟩,PK,by omega,e3⟩
    rw[take_snoc hx] at hw
    rcases List.mem_append.mp hw with hw|hw
    ·exact Kn.2 w hw
    ·have ew:w=x:=by simpa using hw
     rw[ew]
     exact⟨N9,Ca⟩
  ·rintro σ H' ⟨kvs,v2,v3,v4,v5,rfl,fK,hT,hS,RU,Kc,e⟩
   rw[List.length_map,iO,List.take_length] at hS
   rw[List.length_map,iO,h3] at Kc
   refine⟨_,rfl,d,kvs,rfl, .inl fK,fun l2 sC=>?_⟩
   have ex:∃xs:List Str,(kvs.map fun q=>kV q.1)=xs.map V.str∧(∀x∈xs,Told ws x)∧xs.length=kvs.length:=uO hT
   obtain⟨xs,ex,Z8,rC⟩:=ex
   refine q l2 xs _ (by rw[af,ex]) Z8 (fun s hs=>?_) (by omega) (by omega) (e.trans (au.new sC))
   have hk:(Sum.inr s:Key)∈kvs.map (·.1):=by
    rcases hs with rfl| ⟨w,hw,rfl⟩ | ⟨w,hw,hs⟩
    ·exact hS.1
    ·exact(hS.2 w hw).1
    ·exact(hS.2 w hw).2 _ hs
   obtain⟨q',su,e'⟩:=List.mem_map.mp hk
   have hm:V.str s∈xs.map V.str:=by
    rw[←ex]
    exact List.mem_map.mpr ⟨q',su,by rw[e'];rfl⟩
   obtain⟨s',E3,Z9⟩:=List.mem_map.mp hm
   injection Z9 with Z9
   rw[←Z9]
   exact E3
variable {uC uP uI uD uL uT:Tok} {St:Addr}
def G1:Sp:=fun vs H Q _=>∃(e d:Addr) (kvs:List (Key×V)),vs=[.ref e, .ref d]∧H e=some (.dK (lD kvs))∧H d=some (.dK kvs)∧e≠d∧bu kvs∧(kvs.map (·.1)).Nodup∧kvs.length≤900∧∀H',au H H'→Q (.bl true) H'
theorem rW:ax ["_law_found","_law_due","_law_text_here"] ["_law_found","_law_due"] (aj jf):=⟨rfl,rfl,rfl,by decide+kernel,rfl,by decide+kernel,by decide+kernel⟩
theorem Oa {kvs:List (Key×V)} (hn:(kvs.map (·.1)).Nodup):((lD kvs).map (·.1)).Nodup:=(List.filter_sublist.map _).nodup hn
theorem Ko (D:Def K mg "_law_amounts" "_law_amounts" jf ["_law_found","_law_due"]) (T:pD K mg C R G Pc Fo St uK uN uB uE uM uC uP uI uD uL uT) (c1:bg P w K mg base 1 "_law_whole" ["_law_found"] vV):bg P w K mg base 2 "_law_amounts" ["_law_found","_law_due"] G1:=by
 obtain⟨_,_,bT⟩:=c1
 refine D.di rW (fun vs H Q E h=>?_) (fun f bA A outer s H vs Q E hr h=>?_)
 ·obtain⟨e,d,kvs,rfl,_⟩:=h
  rfl
 ·obtain⟨e,d,kvs,rfl,he,hd,GA,hI,hn,hl,q⟩:=h
  have hu:=dz hr
  have RT:=hr.nX
  have big:(2000 :Nat)≤sizeLine:=by decide
  refine⟨_,(ai
     (bG (jo (cJ (br ir rfl T.bx bh (aa (pv 0) (aa (mf (v:= .ty "dict") rfl T.jF iu rfl) ak)))))
      (ao
       (aD jS))
      aR)
    (ai
     (dI (bW PassesOwn.never rfl (cR (pv 0)) (aG (i:=2) rW.nd rfl (Or.inl rfl))
      (ao
       (bG (PW.pt (il (jo (cJ (aH bT.ok (hr.mono (by decide)) rfl bT.g bT.kp bT.b .nil ay (aa (b6 hu (pv 0) (pv 2) (fun _ _=>rfl)) ak)))) (il (aP oX (b6 hu (pv 0) (pv 2) (fun _ _=>rfl)) (bR hu (pv 1) (pv 2) aq ⟨rfl,rfl,rfl,rfl⟩) (aV _)) (jZ (aP mh (b6 hu (pv 0) (pv 2) (fun _ _=>rfl)) aq (aV _))))))
        (ao
         (aD jS))
        aR))))
    (ao
     (aD (ip dZ (br zQ rfl T.oZ j7 (aa (pv 0) ak)) (br gD rfl T.oZ j7 (aa (pJ (fk (sc:=(aj jf)) (NX:=["_law_found","_law_due","_law_text_here"]) (N:=["_law_text_here","_law_due"]) (fr:=[none,some 1]) ⟨by rfl,by rfl,by decide+kernel,by decide+kernel,by decide+kernel,by rfl,by decide+kernel⟩ rfl rfl rfl (cR (pv 1)) (fun _ _ _ _=>(aG (i:=0) (show (["_law_text_here","_law_due"]:List Str).Nodup by decide+kernel) rfl (Or.inl rfl) (Or.inr rfl))) (fun _ _ _ _=>(mq (aP lF (b6 hu (pv 1) (pv 0) (fun _ _=>rfl)) aq (aV _)))) (fun _ _ _ _=>(pv 0)))) ak)) (aV _)))))),?_⟩
  refine⟨_,rfl,_,_,_,_,_,rfl,rfl, .dK he,T.k3,_,rfl,cH ?_⟩
  have hIp:bu (lD kvs):=fun p hp=>hI p ((List.mem_filter.mp hp).1)
  refine⟨_,rfl,e,lD kvs,rfl,he,fun o nf=>dA nf (fun i σ H'=>∃v:Option V,σ=[some (.ref e),some (.ref d),v]∧H'=H) ⟨none,rfl,rfl⟩ (fun i σ H' ⟨_,_,z⟩=>by rw[z];exact he) ?_ ?_⟩
  ·rintro i k v σ H' hi ⟨v2,rfl,rfl⟩
   have hm:=List.mem_of_getElem? hi
   obtain⟨z,ez⟩:=hIp _ hm
   have ez:v=V.int z:=ez
   subst ez
   have hz0:0<z:=by
    have:=(List.mem_filter.mp hm).2
    exact of_decide_eq_true this
   have hzk:aO kvs k=z:=BU hn ((List.mem_filter.mp hm).1)
   have hv:b7 (lD kvs) k=some (V.int z):=ja (Oa hn) hm
   have fK:(upd H' e (.fH o (.dK (lD kvs)))) d=some (.dK kvs):=by rw[ah (Ne.symm GA)];exact hd
   have hg:=hI.at k
   rw[hzk] at hg
   refine⟨_,rfl,_,rfl,e,V.int z,rfl, .inl ⟨_,k, .inr ⟨o,af⟩,rfl,hv.symm⟩,z,rfl,_,rfl,cH ?_⟩
   refine⟨_,rfl,_,rfl,e,V.int z,rfl, .inl ⟨_,k, .inr ⟨o,af⟩,rfl,hv.symm⟩,_,rfl,d,rfl, .inl ⟨_, .inl fK⟩,_,rfl,_,f9.k (k:=k) fK,?_⟩
   rw[hg]
   refine⟨rfl,_,rfl,A7 rfl ⟨_,rfl,_,rfl,e,V.int z,rfl, .inl ⟨_,k, .inr ⟨o,af⟩,rfl,hv.symm⟩,_,_,rfl,rfl,_,rfl,fG (fun ec=>?_) fun _=>?_⟩⟩
   ·have ec:z<1:=by simpa using ec
    omega
   ·exact⟨af,some (kV k),rfl,by rw[kD,eC he]⟩
  ·rintro σ H' ⟨v,rfl,rfl⟩
   refine⟨_,rfl,e,lD kvs,rfl, .inl he,_,rfl,d,kvs,rfl,hd,fun o nf L hL=>?_⟩
   have PU:L≠d:=fun z=>by rw[z,af] at hL;cases hL
   have xx:H' L=none:=by rwa [ah PU] at hL
   refine kK (a:=d) (D:=L) (kvs:=kvs) (fun i σ H2=>∃(v:Option V) (ys:List V),σ=[v,some (.ref d)]∧H2 d=some (.fH o (.dK kvs))∧H2 L=some (.lst ys)∧ys.length=(lD (kvs.take i)).length∧∀b o',H' b=some o'→b≠d→H2 b=some o') ?_ (fun i σ H2 ⟨_,_,_,z,_⟩=>z) ?_ ?_
   ·exact⟨none,[],rfl,by rw[ah (Ne.symm PU),af],af,rfl,fun b o' z hb=>by rw[ah (ag z xx),ah hb];exact z⟩
   ·rintro i k v σ H2 hi ⟨v',ys,rfl,f1,f2,f4,f5⟩ N hN
    have hm:=List.mem_of_getElem? hi
    obtain⟨z,ez⟩:=hI _ hm
    have ez:v=V.int z:=ez
    subst ez
    have hv:b7 kvs k=some (V.int z):=ja hn hm
    have xW:=(List.getElem?_eq_some_iff.mp hi).1
    have Z':=BX (kvs.take i)
    rw[List.length_take] at Z'
    refine⟨_,rfl,_,rfl,d,V.int z,rfl, .inl ⟨_,k, .inr ⟨o,f1⟩,rfl,hv.symm⟩,_,_,rfl,rfl,_,rfl,fG (fun ec=>?_) fun ec=>?_⟩
    ·have ec:0<z:=by simpa using ec
     refine⟨_,rfl,_,f2,by omega,hN _ _ ⟨_,ys++[kV k],rfl,by rw[ah (Ne.symm PU)];exact f1,af,?_,fun b o' z' hb=>by rw[ah (ag z' xx)];exact f5 b o' z' hb⟩⟩
     unfold lD at f4 ⊢
     rw[List.length_append,f4,take_snoc hi,List.filter_append,show [(k,V.int z)].filter (fun q=>decide (0<zv q.2))=[(k,V.int z)] by simp [zv,ec],List.length_append]
     rfl
    ·have ec:¬0<z:=by simpa using ec
     refine hN _ _ ⟨_,ys,rfl,f1,f2,?_,f5⟩
     unfold lD at f4 ⊢
     rw[f4,take_snoc hi,List.filter_append,show [(k,V.int z)].filter (fun q=>decide (0<zv q.2))=[] by simp [zv,ec],List.append_nil]
   ·rintro σ H2 ⟨v',ys,rfl,f1,f2,f4,f5⟩
    rw[List.take_length] at f4
    refine⟨d,o,kvs,f1,nf,L,ys,rfl, .inl (b5.of (by rw[ah PU];exact f2)),rfl,?_⟩
    rw[f4,decide_eq_true rfl]
    refine q _ fun b o' z'=>?_
    by_cases bd:b=d
    ·subst bd
     rw[af]
     rw[hd] at z'
     exact z'
    ·rw[ah bd]
     exact f5 _ _ z' bd
variable {uC uP uI uD uL uT eR eS eU uG uS:Tok} {Ch HE Sh St:Addr}
def Cb (St:Addr):Sp:=fun vs H Q _=>∃(st d g:Addr) (ts:List Addr) (rs:List jJ),vs=[.ref st]∧jT St H st d g∧H g=some (.lst (ts.map V.ref))∧Paired (gA H) ts rs∧rs.length≤100∧∀L us H',H L=none→H' L=some (.lst (us.map V.ref))→Paired (gA H') us rs→au H H'→Q (.ref L) H'
def PvW (L:Addr) (rs:List jJ):Nat→List V→Hp→Prop:=fun i ys H'=>∃us:List Addr,ys=us.map V.ref∧us.length=i∧(∀u∈us,u≠L)∧Paired (gA H') us (rs.take i)
theorem G2 (D:a9 K St "went" "Store.went" yb ["self"]) (T:pD K mg C R G Pc Fo St uK uN uB uE uM uC uP uI uD uL uT):aJ P w K mg base 1 St "went" ["self"] (Cb St):=by
 refine D.di NQ (fun vs H Q E h=>?_) (fun f bA A outer s H vs Q E hr h=>?_)
 ·obtain⟨st,d,g,ts,rs,rfl,_⟩:=h
  rfl
 ·obtain⟨st,d,g,ts,rs,rfl,⟨dx,fI⟩,hg,hP,hl,q⟩:=h
  have big:(2000 :Nat)≤sizeLine:=by decide
  have iO:=Paired.length hP
  refine⟨_,(ao
     (aD (fk (sc:=(aj yb)) (NX:=["self"]) (N:=["text","times"]) (fr:=[none,none]) ⟨by rfl,by rfl,by decide+kernel,by decide+kernel,by decide+kernel,by rfl,by decide+kernel⟩ rfl rfl rfl (cN (a0 (pv 0) rfl)) (fun _ _ _ _=>(vq K 2 rfl rfl (bo (aG (i:=0) (show (["text","times"]:List Str).Nodup by decide+kernel) rfl (Or.inl rfl) (Or.inr rfl)) (bo (aG (i:=1) (show (["text","times"]:List Str).Nodup by decide+kernel) rfl (Or.inl rfl) (Or.inr rfl)) dW)))) (fun _ _ _ _=>fW) (fun _ _ _ _=>(bP (aa (pv 0) (aa (pv 1) ak))))))),?_⟩
  refine⟨_,rfl,st,St,dx,_,_,rfl,fI,T.bQ,T.qa,yM _ _,g,rfl,⟨_,b5.of hg⟩,fun L hL=>?_⟩
  refine kL (K:=K) (a:=g) (L:=L) (xs:=ts.map V.ref) H (fun σ=>∃v u:Option V,σ=[v,u]) (PvW L rs) (b5.of hg) ?_ hL ⟨none,none,rfl⟩ (au.new hL) af ⟨[],rfl,rfl,(fun u hu=>by cases hu), .nil⟩ (by rw[List.length_map];omega) ?_ ?_ ?_
  ·rintro i ys Ha Hb hb ⟨us,h1,h2,h3,h4⟩
   exact⟨us,h1,h2,h3,l6 (fun u r hu z=>hb _ _ z (h3 u hu)) h4⟩
  ·rintro i ys H' ⟨us,rfl,h2,_⟩
   rw[List.length_map,h2];exact Nat.le_refl _
  ·rintro j w σ' H5 vs hj ⟨w1,w2,rfl⟩ e5 o9 ⟨us,rfl,LD,hun,GH⟩ N M hN
   rw[List.getElem?_map] at hj
   obtain⟨t,ht,rfl⟩:∃m,ts[j]? =some m∧w=V.ref m:=by
    cases hh:ts[j]? with
    |none=>rw[hh] at hj;cases hj
    |some m=>rw[hh] at hj;exact⟨m,rfl,(Option.some.inj hj).symm⟩
   obtain⟨r,Ew,B4⟩:=bI hP ht
   have B4:H t=some (.tup [.str r.x, .int r.m]):=B4
   refine⟨t,_,rfl,iX.of (e5 _ _ B4),rfl,_,_,rfl,_,_,rfl,rfl,?_⟩
   refine⟨_,rfl,_,rfl,(by show 2≤sizeLine;decide),fun u hu=>?_⟩
   have s6:=au.new (o:= .tup [.str r.x, .int r.m]) hu
   refine hN _ _ _ ⟨_,_,rfl⟩ (e5.trans s6) (s6 _ _ o9) ⟨us++[u],by rw[List.map_append];rfl,by rw[List.length_append,LD];rfl,fun a ha=>?_,?_⟩
   ·rcases List.mem_append.mp ha with z|z
    ·exact hun a z
    ·have ea:a=u:=by simpa using z
     rw[ea]
     exact fun z=>by rw[z,o9] at hu;cases hu
   ·rw[take_snoc Ew]
    have Ob:gA (upd H5 u (.tup [.str r.x, .int r.m])) u r:=af
    exact bS Ob (aK (fun a b (z:gA H5 a b)=>(s6 _ _ z:gA _ a b)) GH)
  ·rintro H5 ys e5 o9 ⟨us,rfl,LD,hun,GH⟩
   rw[List.length_map,iO,List.take_length] at GH
   exact q L us H5 hL o9 GH e5
variable {uC uP uI uD uL uT eR eS eU uG uS:Tok} {Ch HE Sh St:Addr}
def kz (rs:List jJ):PyData:= .list (rs.map fun r=> .tuple [.str r.x, .int r.m])
theorem xi {H:Hp}:∀{ts:List Addr} {rs:List jJ},Paired (gA H) ts rs→zU K H (ts.map V.ref) (rs.map fun r=>PyData.tuple [.str r.x, .int r.m])
 |_,_, .nil=> .nil
 |_,_, .cons h t=> .cons (.tup (iX.of h) (.cons (.str _) (.cons (.int _) .nil))) (xi t)
def Cc (St:Addr):Sp:=fun vs H Q _=>∃(st d g am wl:Addr) (kvs:List (Key×V)) (ts ws:List Addr) (rs:List jJ),vs=[.ref st, .ref am, .ref wl]∧jT St H st d g∧H d=some (.dK kvs)∧H am=some (.dK kvs)∧d≠am∧bu kvs∧(kvs.map (·.1)).Nodup∧(∀q∈kvs,∃x,q.1=Sum.inr x∧uy x)∧kvs.length≤900∧H g=some (.lst (ts.map V.ref))∧Paired (gA H) ts rs∧H wl=some (.lst (ws.map V.ref))∧Paired (gA H) ws rs∧rs.length≤10∧SeqAt.shaped (kz rs)=true∧PyData.eqv (kz rs) (kz rs)=true∧∀H',au H H'→Q (.bl true) H'
theorem Cd:ax ["_law_store","_law_amounts_here","_law_went","_law_text_here"] ["_law_store","_law_amounts_here","_law_went"] (aj vP):=⟨rfl,rfl,rfl,by decide+kernel,rfl,by decide+kernel,by decide+kernel⟩
theorem G3 (D:Def K mg "_law_same" "_law_same" vP ["_law_store","_law_amounts_here","_law_went"]) (T:pD K mg C R G Pc Fo St uK uN uB uE uM uC uP uI uD uL uT) (c1:aJ P w K mg base 12 St "have" ["self","text"] (AB St)) (c2:aJ P w K mg base 1 St "stocks" ["self"] (yO St)) (c3:bg P w K mg base 2 "_law_amounts" ["_law_found","_law_due"] G1) (c4:aJ P w K mg base 1 St "went" ["self"] (Cb St)):bg P w K mg base 13 "_law_same" ["_law_store","_law_amounts_here","_law_went"] (Cc St):=by
 obtain⟨_,_,dt⟩:=c1
 obtain⟨_,_,ic⟩:=c2
 obtain⟨_,_,iM⟩:=c3
 obtain⟨_,_,jP⟩:=c4
 refine D.di Cd (fun vs H Q E h=>?_) (fun f bA A outer s H vs Q E hr h=>?_)
 ·obtain⟨st,d,g,am,wl,kvs,ts,ws,rs,rfl,_⟩:=h
  rfl
 ·obtain⟨st,d,g,am,wl,kvs,ts,ws,rs,rfl,⟨dx,fI⟩,hd,wZ,Nq,hI,hn,hgx,hl,hg,hP,IT,hPw,hr10,Ie,heq,q⟩:=h
  have hu:=dz hr
  have RT:=hr.nX
  have Kp:=hr.units
  have big:(2000 :Nat)≤sizeLine:=by decide
  refine⟨_,(ai
     (dI (bW PassesOwn.never rfl (cR (pv 1)) (aG (i:=3) Cd.nd rfl (Or.inl rfl))
      (ao
       (bG (aP oX (bU (pv 0) T.bQ dt.m dt.ok (hr.mono (by decide)) dt.b .nil ay (aa (pv 3) ak)) (b6 hu (pv 1) (pv 3) (fun _ _=>rfl)) (aV _))
        (ao
         (aD jS))
        aR))))
    (ao
     (aD (vc (aH iM.ok (hr.mono (by decide)) rfl iM.g iM.kp iM.b .nil ay (aa (aN (pv 0) T.bQ ic.m ic.ok (hr.mono (by decide)) ic.b .nil ay) (aa (pv 1) ak))) (qp (ip (E6 Kp) (aN (pv 0) T.bQ jP.m jP.ok (hr.mono (by decide)) jP.b .nil ay) (pv 2) (aV _))))))),?_⟩
  have RZ:st≠am:=cI fI wZ (by intro z;cases z)
  refine⟨_,rfl,am,kvs,rfl,wZ,fun o nf=>dA nf (fun i σ H'=>∃v:Option V,σ=[some (.ref st),some (.ref am),some (.ref wl),v]∧H' am=some (.dK kvs)∧au H H') ⟨none,rfl,wZ,au.refl _⟩ (fun i σ H' ⟨_,_,z,_⟩=>z) ?_ ?_⟩
  ·rintro i k v σ H' hi ⟨v2,rfl,yX,e⟩
   have hm:=List.mem_of_getElem? hi
   obtain⟨x,ex,gx⟩:=hgx _ hm
   have ex:k=Sum.inr x:=ex
   subst ex
   have hv:=hI.dM hm
   have Kq:(upd H' am (.fH o (.dK kvs))) st=some (.ins St dx (yL d g)):=by rw[ah RZ];exact e _ _ fI
   have FX:(upd H' am (.fH o (.dK kvs))) d=some (.dK kvs):=by rw[ah Nq];exact e _ _ hd
   refine⟨_,rfl,st,dx,_,rfl,Kq,jI _ _ (by decide+kernel) (by decide+kernel),_,rfl,st,d,g,x,kvs,rfl,⟨dx,Kq⟩,FX,hI,gx,fun H5 e5=>?_⟩
   have DZ:=e5 _ _ (af (H:=H') (a:=am) (o:= .fH o (.dK kvs)))
   refine⟨_,rfl,_,rfl,am,V.int (aO kvs (Sum.inr x)),rfl, .inl ⟨_,Sum.inr x, .inr ⟨o,DZ⟩,rfl,hv.symm⟩,rfl,_,rfl,A7 rfl ?_⟩
   refine⟨DZ,_,rfl,af,fun b o' z=>?_⟩
   by_cases ba:b=am
   ·subst ba
    rw[af]
    rw[wZ] at z
    exact z
   ·rw[ah ba]
    exact e5 _ _ (by rw[ah ba];exact e _ _ z)
  ·rintro σ H' ⟨v2,rfl,yX,e⟩
   refine⟨_,rfl,st,dx,_,rfl,e _ _ fI,jI _ _ (by decide+kernel) (by decide+kernel),st,d,g,kvs,rfl,⟨dx,e _ _ fI⟩,e _ _ hd,hI,hn,hl,fun ue H8 nue hue e8=>?_⟩
   have e08:=e.trans e8
   refine⟨_,rfl,ue,am,kvs,rfl,hue,e08 _ _ wZ,Ne.symm (ag yX nue),hI,hn,hl,fun H9 e9=>⟨_,rfl,ik ?_⟩⟩
   have R':=e08.trans e9
   refine⟨_,rfl,st,dx,_,rfl,R' _ _ fI,jI _ _ (by decide+kernel) (by decide+kernel),st,d,g,ts,rs,rfl,⟨dx,R' _ _ fI⟩,R' _ _ hg,aK (fun a b (z:gA H a b)=>(R' _ _ z:gA _ a b)) hP,by omega,fun lw us Ld nlw hlw Oc LK=>?_⟩
   have Od:=R'.trans LK
   refine⟨_,rfl,kz rs,kz rs, .lst (b5.of hlw) (xi Oc), .lst (b5.of (Od _ _ IT)) (xi (aK (fun a b (z:gA H a b)=>(Od _ _ z:gA _ a b)) hPw)),Ie,Ie,?_⟩
   rw[heq]
   exact q _ Od
variable {uC uP uI uD uL uT eR eS eU uG uS:Tok} {Ch HE Sh St:Addr}
theorem tm_at (y:Tm):zP [V.str ((toString y.1 :Str)++" " ++⟨(fL y.2).toArray⟩),V.str ⟨(fL y.2).toArray⟩] (if decide (V.int y.1=V.int 1)=true then 1 else 0)=some (V.str (rJ y)):=by
 unfold rJ
 by_cases h:y.1=1
 ·rw[if_pos (decide_eq_true (by rw[h])),if_pos h]
  rfl
 ·rw[if_neg (by simpa using h),if_neg h]
  rfl
def Ce:Sp:=fun vs H Q _=>∃(l r:Addr) (xs ys:List Tm),vs=[.ref l, .ref r]∧cT H l xs∧cT H r ys∧(∀x∈xs,pz (10^40) x)∧(∀y∈ys,pz (10^40) y)∧xs.length≤10∧ys.length≤10∧∀H',au H H'→Q (.str (Txt.join " -> " [uk xs,uk ys])) H'
theorem oQ:ax ["_law_lefts","_law_rights","_law_sides","_law_side","_law_texts_here","_law_count_here","_law_formula"] ["_law_lefts","_law_rights"] (aj Bj):=⟨rfl,rfl,rfl,by decide+kernel,rfl,by decide+kernel,by decide+kernel⟩
theorem G4 (D:Def K mg "_law_text" "_law_text" Bj ["_law_lefts","_law_rights"]) (T:oo K mg C):bg P w K mg base 1 "_law_text" ["_law_lefts","_law_rights"] Ce:=by
 refine D.di oQ (fun vs H Q E h=>?_) (fun f bA A outer s H vs Q E hr h=>?_)
 ·obtain⟨l,r,xs,ys,rfl,_⟩:=h
  rfl
 ·obtain⟨l,r,xs,ys,rfl,Z8,C5,md,zy,lx,ly,q⟩:=h
  have big:(2000 :Nat)≤sizeLine:=by decide
  have hS:Paired (fun a s=>cT H a s∧(∀x∈s,pz (10^40) x)∧s.length≤10) [l,r] [xs,ys]:= .cons ⟨Z8,md,lx⟩ (.cons ⟨C5,zy,ly⟩ .nil)
  refine⟨_,(ai
     (aB (i:=2) oQ.nd rfl (Or.inl rfl) (cD ak))
    (ai
     (bW PassesOwn.never rfl (cN (cD (aa (pv 0) (aa (pv 1) ak)))) (aG (i:=3) oQ.nd rfl (Or.inl rfl))
      (ai
       (aB (i:=4) oQ.nd rfl (Or.inl rfl) (cD ak))
      (ai
       (bW PassesOwn.never rfl (cN (pv 3)) (gS rfl (bo (aG (i:=5) oQ.nd rfl (Or.inl rfl)) (bo (aG (i:=6) oQ.nd rfl (Or.inl rfl)) dW)))
        (ao
         (bz (i' PySem.F.plainAttrs_list PySem.F.slot_list_append PySem.F.type_list_append dX (pv 4) (aa (cE cZ (cD (aa (aE bq (aE bq (bK jr rfl T.FG zT (aa (pv 5) ak)) bJ) (cE gW (pv 6) aq (fun _ _=>rfl))) (aa (cE gW (pv 6) aq (fun _ _=>rfl)) ak))) (bK nU rfl T.yc qG (aa (ip dZ (pv 5) aq (aV _)) ak)) (fun _ _=>rfl)) ak)))))
      (ao
       (bz (i' PySem.F.plainAttrs_list PySem.F.slot_list_append PySem.F.type_list_append dX (pv 2) (aa (i' PySem.F.plainAttrs_str PySem.F.slot_str_join PySem.F.type_str_join pL bJ (aa (pv 4) ak)) ak)))))))
    (ao
     (aD (i' PySem.F.plainAttrs_str PySem.F.slot_str_join PySem.F.type_str_join pL bJ (aa (pv 2) ak)))))),?_⟩
  refine⟨(by show 0≤sizeLine;decide),fun D1 hD1=>?_⟩
  have sD:=au.new (o:= .lst []) hD1
  refine⟨_,rfl,_,rfl,(by show 2≤sizeLine;decide),fun Z hZ=>?_⟩
  have sZ:=au.new (o:= .lst [.ref l, .ref r]) hZ
  have Il:(upd (upd H D1 (.lst [])) Z (.lst [.ref l, .ref r])) D1=some (.lst []):=sZ _ _ af
  have hZ2:(upd (upd H D1 (.lst [])) Z (.lst [.ref l, .ref r])) Z=some (.lst [.ref l, .ref r]):=af
  have s2:=sD.trans sZ
  have nZD:Z≠D1:=fun z=>by rw[z,af] at hZ;cases hZ
  have hZH:H Z=none:=none_back sD hZ
  generalize upd (upd H D1 (.lst [])) Z (.lst [.ref l, .ref r])=H2 at Il hZ2 s2 ⊢
  refine⟨Z,rfl,⟨_,b5.of hZ2⟩,fb (K:=K) (a:=Z) (xs:=[l,r].map V.ref) (fun i σ H'=>∃v3 v4 v5 v6:Option V,σ=[some (.ref l),some (.ref r),some (.ref D1),v3,v4,v5,v6]∧H' D1=some (.lst ((([xs,ys]:List (List Tm)).take i).map fun s=>V.str (uk s)))∧H' Z=some (.lst [.ref l, .ref r])∧au H H') ?_ (fun i σ H' _ ⟨_,_,_,_,_,_,z,_⟩=>b5.of z) ?_ ?_⟩
  ·exact⟨none,none,none,none,rfl,Il,hZ2,s2⟩
  ·rintro i v σ H' hi ⟨v3,v4,v5,v6,rfl,BB,hZ',e⟩
   rw[List.getElem?_map] at hi
   obtain⟨a,ha,rfl⟩:∃p,[l,r][i]? =some p∧v=V.ref p:=by
    cases hh:[l,r][i]? with
    |none=>rw[hh] at hi;cases hi
    |some p=>rw[hh] at hi;exact⟨p,rfl,(Option.some.inj hi).symm⟩
   obtain⟨sd,hsd,⟨ts,hl,hP⟩,aS,Zq⟩:=bI hS ha
   have iO:=Paired.length hP
   have xW:i<2:=(List.getElem?_eq_some_iff.mp hsd).1
   refine⟨(by show 0≤sizeLine;decide),fun D2 Kr=>?_⟩
   have sE:=au.new (o:= .lst []) Kr
   have nD12:D1≠D2:=ag BB Kr
   have nZ2:Z≠D2:=ag hZ' Kr
   have hD2H:H D2=none:=none_back e Kr
   dsimp only [du]
   refine⟨_,rfl,a,rfl,⟨_,b5.of (sE _ _ (e _ _ hl))⟩,fb (K:=K) (a:=a) (xs:=ts.map V.ref) (fun j σ H3=>∃w5 w6:Option V,σ=[some (.ref l),some (.ref r),some (.ref D1),some (.ref a),some (.ref D2),w5,w6]∧H3 D2=some (.lst ((sd.take j).map fun x=>V.str (rJ x)))∧H3 D1=some (.lst ((([xs,ys]:List (List Tm)).take i).map fun s=>V.str (uk s)))∧H3 Z=some (.lst [.ref l, .ref r])∧au H H3) ?_ (fun j σ H3 _ ⟨_,_,_,_,_,_,z⟩=>b5.of (z _ _ hl)) ?_ ?_⟩
   ·exact⟨v5,v6,rfl,af,sE _ _ BB,sE _ _ hZ',e.trans sE⟩
   ·rintro j x σ H3 hj ⟨w5,w6,rfl,h2,h1,hz,e3⟩
    obtain⟨t,y,rfl,hy,fm,ht,d,hf,hd⟩:=yq (H:=H) hP hj
    have md:=aS y (List.mem_of_getElem? hy)
    have ez:=md.2.2.2.1
    have hjl:j<sd.length:=(List.getElem?_eq_some_iff.mp hy).1
    have hzl:((sd.take j).map fun x=>V.str (rJ x)).length<sizeLine:=by rw[List.length_map,List.length_take];omega
    have l1:(" " :Str).length=1:=by decide+kernel
    have zi:=nq (n:=y.1) (by have:=md.1;omega) (by have:=md.2.1;omega)
    refine⟨t,_,rfl,iX.of (e3 _ _ ht),rfl,_,_,rfl,_,_,rfl,rfl,?_⟩
    refine⟨_,rfl, .inl ⟨rfl,_,b5.of h2⟩,_,rfl,y.1,rfl,p6 (by have:=md.1;omega) (by have:=md.2.1;omega),_,_,rfl,rfl,?_,_,rfl,fm,_,_,V.str ⟨(fL y.2).toArray⟩,rfl,rfl,iX.of (e3 _ _ hf),rfl,_,_,rfl,rfl,?_,_,rfl,fm,_,_,V.str ⟨(fL y.2).toArray⟩,rfl,rfl,iX.of (e3 _ _ hf),rfl,(by show 2≤sizeLine;decide),fun Y hY=>⟨_,rfl,rfl, .inr ⟨_,rfl,Y,_,_,V.str (rJ y),rfl,rfl,b5.of af,tm_at y,?_⟩⟩⟩
    ·rw[l1]
     exact Nat.le_trans (Nat.add_le_add_right zi 1) (by decide)
    ·rw[bw,l1,bj]
     exact Nat.le_trans (Nat.add_le_add (Nat.add_le_add_right zi 1) ez) (by decide)
    have sY:=au.new (o:= .lst [V.str ((toString y.1 :Str)++" " ++⟨(fL y.2).toArray⟩),V.str ⟨(fL y.2).toArray⟩]) hY
    refine⟨D2,_,_,rfl,rfl,sY _ _ h2,hzl,_,_,rfl,?_,?_,?_,fun b o z=>?_⟩
    ·rw[af,take_snoc hy,List.map_append]
     rfl
    ·rw[ah nD12]
     exact sY _ _ h1
    ·rw[ah nZ2]
     exact sY _ _ hz
    ·rw[ah (ag z hD2H)]
     exact sY _ _ (e3 _ _ z)
   ·rintro σ H3 ⟨w5,w6,rfl,h2,h1,hz,e3⟩
    rw[List.length_map,iO,List.take_length] at h2
    have l3:(" + " :Str).length=3:=by decide+kernel
    have z:=Bm (ys:=sd.map rJ) (b:=100) fun y hy=>by
     obtain⟨x,hx,rfl⟩:=List.mem_map.mp hy
     exact BE (Int.le_refl _) (aS x hx)
    refine⟨_,rfl, .inl ⟨rfl,_,b5.of h1⟩,rfl,_,rfl," + ",D2,sd.map rJ,rfl,rfl,b5.of (by rw[h2,List.map_map];rfl),?_,?_⟩
    ·rw[List.length_map] at z ⊢
     rw[l3]
     omega
    refine⟨D1,_,_,rfl,rfl,h1,by rw[List.length_map,List.length_take];show min i 2<sizeLine;omega,_,_,_,_,rfl,?_,?_,fun b o z=>?_⟩
    ·rw[af,take_snoc hsd,List.map_append]
     rfl
    ·rw[ah nZD]
     exact hz
    ·rw[ah (ag z hD1)]
     exact e3 _ _ z
  ·rintro σ H' ⟨v3,v4,v5,v6,rfl,BB,hZ',e⟩
   have hx:=um md lx
   have hy:=um zy ly
   have l4:(" -> " :Str).length=4:=by decide+kernel
   refine⟨rfl,_,rfl," -> ",D1,[uk xs,uk ys],rfl,rfl,b5.of BB,?_,q _ e⟩
   show (uk xs).length+((uk ys).length+0)+2*(" -> " :Str).length≤16777216
   rw[l4]
   omega
variable {uC uP uI uD uL uT eR eS eU uG uS:Tok} {Ch HE Sh St:Addr}
def bN (am:List (Key×V)) (xs ys:List Tm):Nat→List (Key×V)
 |0=>am
 |t+1=>dY 1 (dY (-1) (bN am xs ys t) (aA xs) (aA xs)) (aA ys) (aA ys)
theorem rX {am:List (Key×V)} (xs ys:List Tm) (h:bu am):∀t,bu (bN am xs ys t)
 |0=>h
 |t+1=>df _ _ _ _ (df _ _ _ _ (rX xs ys h t))
theorem yY (am:List (Key×V)) (xs ys:List Tm):∀t,(bN am xs ys t).length≤am.length+t*((aA xs).length+(aA ys).length)
 |0=>by rw[Nat.zero_mul];exact Nat.le_refl _
 |t+1=>by
  have h1:=yY am xs ys t
  have h2:=eG 1 (aA ys) (aA ys) (dY (-1) (bN am xs ys t) (aA xs) (aA xs))
  have h3:=eG (-1) (aA xs) (aA xs) (bN am xs ys t)
  rw[Nat.add_mul,Nat.one_mul]
  show (dY 1 _ _ _).length≤_
  omega
def yZ:Sp:=fun vs H Q _=>∃(am l r:Addr) (n:Nat) (kvs:List (Key×V)) (xs ys:List Tm),vs=[.ref am, .ref l, .ref r, .int n]∧H am=some (.dK kvs)∧bu kvs∧kvs.length≤100∧cT H l xs∧cT H r ys∧(∀x∈xs,cS x.2)∧(∀y∈ys,cS y.2)∧xs.length≤20∧ys.length≤20∧n≤12∧(∀q∈aA xs,0<aO (aA xs) q.1)∧
 (∀(t:Nat) k l' tt H',t<n→(∀j,j<t→dh (bN kvs xs ys j) (aA xs) (aA xs)=none)→dh (bN kvs xs ys t) (aA xs) (aA xs)=some (k,l')→H' tt=some (.tup [.int ((t:Int)+1),kV k, .int l'])→au H H'→Q (.ref tt) H')∧
 ((∀j,j<n→dh (bN kvs xs ys j) (aA xs) (aA xs)=none)→∀e H',H e=none→H' e=some (.dK (bN kvs xs ys n))→au H H'→Q (.ref e) H')
theorem gg:ax ["_law_amounts_here","_law_lefts","_law_rights","_law_times","_law_found","_law_takes","_law_gives","_law_turn","_law_text_here"] ["_law_amounts_here","_law_lefts","_law_rights","_law_times"] (aj pU):=⟨rfl,rfl,rfl,by decide+kernel,rfl,by decide+kernel,by decide+kernel⟩
theorem y' (c:Int) (all:List (Key×V)) {j:Key}:∀(l acc:List (Key×V)),j∈acc.map (·.1)→j∈(dY c acc l all).map (·.1)
 | [],_,h=>h
 |p::r,acc,h=>y' c all r (b8 acc p.1 (c*aO all p.1)) (gf h)
theorem oR {th tk:List (Key×V)}:∀{l:List (Key×V)},dh th tk l=none→∀q∈l,aO tk q.1≤aO th q.1
 | [],_,q,hq=>by cases hq
 |p::r,h,q,hq=>by
  rw[eQ] at h
  split at h
  ·cases h
  ·rcases List.mem_cons.mp hq with rfl|hq
   ·omega
   ·exact oR h q hq
theorem bu.xj {kvs:List (Key×V)} (h:bu kvs) {k:Key} (hm:k∈kvs.map (·.1)):b7 kvs k=some (.int (aO kvs k)):=by
 obtain⟨⟨k',v⟩,hp,e⟩:=List.mem_map.mp hm
 have e:k'=k:=e
 subst e
 exact h.dM hp
theorem D0 (D:Def K mg "_law_walked" "_law_walked" pU ["_law_amounts_here","_law_lefts","_law_rights","_law_times"]) (T:nu K mg C R G Pc Fo Ch uK uN uB uE uM uC uP uI uD uL uT eR eS eU uG uS) (c1:bg P w K mg base 1 "_law_asked" ["_law_terms"] B5):bg P w K mg base 2 "_law_walked" ["_law_amounts_here","_law_lefts","_law_rights","_law_times"] yZ:=by
 obtain⟨_,_,eX⟩:=c1
 refine D.di gg (fun vs H Q E h=>?_) (fun f bA A outer s H vs Q E hr h=>?_)
 ·obtain⟨am,l,r,n,kvs,xs,ys,rfl,_⟩:=h
  rfl
 ·obtain⟨am,l,r,n,kvs,xs,ys,rfl,wZ,hI,hl,rC,Z',hx,hy,lx,ly,hn,hpos,qS,qN⟩:=h
  have hu:=dz hr
  have big:(2000 :Nat)≤sizeLine:=by decide
  refine⟨_,(ai
     (aB (i:=4) gg.nd rfl (Or.inl rfl) (bK lO rfl T.jF iu (aa (pv 0) ak)))
    (ai
     (aB (i:=5) gg.nd rfl (Or.inl rfl) (aH eX.ok (hr.mono (by decide)) rfl eX.g eX.kp eX.b .nil ay (aa (pv 1) ak)))
    (ai
     (aB (i:=6) gg.nd rfl (Or.inl rfl) (aH eX.ok (hr.mono (by decide)) rfl eX.g eX.kp eX.b .nil ay (aa (pv 2) ak)))
    (ai
     (bW PassesOwn.never rfl (gP rfl T.kS (aa (pv 3) ak)) (aG (i:=7) gg.nd rfl (Or.inl rfl))
      (ai
       (dI (bW PassesOwn.never rfl (cR (pv 5)) (aG (i:=8) gg.nd rfl (Or.inl rfl))
        (ao
         (bG (aP mh (bR hu (pv 4) (pv 8) aq ⟨rfl,rfl,rfl,rfl⟩) (b6 hu (pv 5) (pv 8) (fun _ _=>rfl)) (aV _))
          (ao
           (aD (bP (aa (aE cf (pv 7) aq) (aa (pv 8) (aa (aE j3 (b6 hu (pv 5) (pv 8) (fun _ _=>rfl)) (bR hu (pv 4) (pv 8) aq ⟨rfl,rfl,rfl,rfl⟩)) ak))))))
          aR))))
      (ai
       (dI (bW PassesOwn.never rfl (cR (pv 5)) (aG (i:=8) gg.nd rfl (Or.inl rfl))
        (ao
         (cQ hu (pv 4) (pv 8) (aE j3 (b6 hu (pv 4) (pv 8) (fun _ _=>rfl)) (b6 hu (pv 5) (pv 8) (fun _ _=>rfl))) rfl))))
      (ao
       (dI (bW PassesOwn.never rfl (cR (pv 6)) (aG (i:=8) gg.nd rfl (Or.inl rfl))
        (ao
         (cQ hu (pv 4) (pv 8) (aE cf (bR hu (pv 4) (pv 8) aq ⟨rfl,rfl,rfl,rfl⟩) (b6 hu (pv 6) (pv 8) (fun _ _=>rfl))) rfl))))))))
    (ao
     (aD (pv 4))))))),?_⟩
  refine⟨_,rfl,am,_,rfl, .inl wZ,fun fd hfd=>?_⟩
  have s1:=au.new (o:= .dK kvs) hfd
  refine⟨_,rfl,l,xs,rfl,rC.same s1,hx,lx,fun tk H2 LI xu e2=>?_⟩
  have zA:=s1.trans e2
  refine⟨_,rfl,r,ys,rfl,Z'.same zA,hy,ly,fun gv H3 ngv hgv e3=>?_⟩
  have PR:=zA.trans e3
  have Sa:H3 tk=some (.dK (aA xs)):=e3 _ _ xu
  have Sb:=e2 _ _ (af (H:=H) (a:=fd) (o:= .dK kvs))
  have hfd3:=e3 _ _ Sb
  have Sd:fd≠tk:=ag (af (H:=H) (a:=fd) (o:= .dK kvs)) LI
  have XT:fd≠gv:=ag Sb ngv
  have PX:bu (aA xs):=cC _
  have R4:bu (aA ys):=cC _
  have AA:(aA xs).length≤20:=by
   have:=dC (fF xs)
   have e:(fF xs).length=xs.length:=by unfold fF;rw[List.length_map]
   unfold aA
   omega
  have hgl:(aA ys).length≤20:=by
   have:=dC (fF ys)
   have e:(fF ys).length=ys.length:=by unfold fF;rw[List.length_map]
   unfold aA
   omega
  have hS:∀o',au H (upd H3 fd o'):=fun o' b o'' z=>by rw[ah (ag z hfd)];exact PR _ _ z
  have XO:H tk=none:=none_back s1 LI
  refine⟨_,rfl,_,rfl,by omega,by omega,kE (fun i σ H'=>∃v7 v8:Option V,σ=[some (.ref am),some (.ref l),some (.ref r),some (.int n),some (.ref fd),some (.ref tk),some (.ref gv),v7,v8]∧H'=upd H3 fd (.dK (bN kvs xs ys i))∧∀j,j<i→dh (bN kvs xs ys j) (aA xs) (aA xs)=none) ⟨none,none,rfl,(eC hfd3).symm,fun j hj=>by omega⟩ ?_ ?_⟩
  ·rintro i σ H' hi ⟨v7,v8,rfl,rfl,hj⟩
   have IT:=yY kvs xs ys i
   have hwl':(bN kvs xs ys i).length≤580:=by
    have:i*((aA xs).length+(aA ys).length)≤12*40:=Nat.mul_le_mul (by omega) (by omega)
    omega
   have XU:=rX xs ys hI i
   have LH:∀o',(upd (upd H3 fd (.dK (bN kvs xs ys i))) tk o') fd=some (.dK (bN kvs xs ys i)):=fun o'=>by rw[ah Sd];exact af
   have G5:∀o',(upd H3 fd o') tk=some (.dK (aA xs)):=fun o'=>by rw[ah (Ne.symm Sd)];exact Sa
   have Se:∀o',(upd H3 fd o') gv=some (.dK (aA ys)):=fun o'=>by rw[ah (Ne.symm XT)];exact hgv
   dsimp only [du]
   refine⟨_,rfl,tk,aA xs,rfl,G5 _,fun o nf=>dA nf (fun j σ H'=>∃v8:Option V,σ=[some (.ref am),some (.ref l),some (.ref r),some (.int n),some (.ref fd),some (.ref tk),some (.ref gv),some (.int (0+i)),v8]∧H'=upd H3 fd (.dK (bN kvs xs ys i))∧dh (bN kvs xs ys i) (aA xs) ((aA xs).drop j)=dh (bN kvs xs ys i) (aA xs) (aA xs)) ⟨v8,rfl,rfl,rfl⟩ (fun j σ H' ⟨_,_,z,_⟩=>by rw[z];exact G5 _) ?_ ?_⟩
   ·rintro j k v σ H' GG ⟨v8,rfl,rfl,uH⟩
    have hv:=PX.dM (List.mem_of_getElem? GG)
    have xW:=(List.getElem?_eq_some_iff.mp GG).1
    have Ig:(aA xs).drop j=(k,v)::(aA xs).drop (j+1):=by
     rw[List.drop_eq_getElem_cons xW]
     congr 1
     exact(List.getElem?_eq_some_iff.mp GG).2
    refine⟨_,rfl,fd,rfl, .inl ⟨_, .inl (LH _)⟩,_,rfl,_,f9.k (k:=k) (LH _),_,rfl,_,rfl,tk,V.int (aO (aA xs) k),rfl, .inl ⟨_,k, .inr ⟨o,af⟩,rfl,hv.symm⟩,?_⟩
    rw[XU.at k]
    refine⟨_,_,rfl,rfl,_,rfl,fG (fun ec=>?_) fun ec=>?_⟩
    ·have ec:aO (bN kvs xs ys i) k<aO (aA xs) k:=by simpa using ec
     rw[Ig,eQ,if_pos (by show 0<aO (aA xs) k - aO (bN kvs xs ys i) k;omega)] at uH
     refine⟨_,rfl,_,_,rfl,rfl,_,rfl,_,rfl,_,rfl,tk,V.int (aO (aA xs) k),rfl, .inl ⟨_,k, .inr ⟨o,af⟩,rfl,hv.symm⟩,_,rfl,fd,rfl, .inl ⟨_, .inl (LH _)⟩,_,rfl,_,f9.k (k:=k) (LH _),?_⟩
     rw[XU.at k]
     refine⟨_,_,rfl,rfl,(by show 3≤sizeLine;decide),fun tt AF=>?_⟩
     have ntt:tt≠tk:=fun z=>by rw[z,af] at AF;cases AF
     have ntf:tt≠fd:=fun z=>by rw[z,LH] at AF;cases AF
     have s4:au H (upd (upd H3 fd (.dK (bN kvs xs ys i))) tk (.fH o (.dK (aA xs)))):=fun b o' z=>by rw[ah (ag z XO)];exact hS _ _ _ z
     refine⟨tk,o,aA xs,by rw[ah (Ne.symm ntt)];exact af,nf,?_⟩
     refine qS i k _ tt _ hi hj uH.symm (by rw[ah ntt,af];show some (HO.tup [V.int (0+(i:Int)+1),kV k,V.int _])=_;rw[Int.zero_add]) fun b o' z=>?_
     rw[ah (ag z XO),ah (ag (s4 _ _ z) AF)]
     exact s4 _ _ z
    ·have ec:¬aO (bN kvs xs ys i) k<aO (aA xs) k:=by simpa using ec
     refine⟨af,_,rfl,by rw[kD,eC (G5 _)],?_⟩
     rw[←uH,Ig,eQ,if_neg (by show¬0<aO (aA xs) k - aO (bN kvs xs ys i) k;omega)]
   ·rintro σ H' ⟨v8',rfl,rfl,uH⟩
    rw[List.drop_length] at uH
    have uH:dh (bN kvs xs ys i) (aA xs) (aA xs)=none:=uH.symm
    have hge:=oR uH
    have tI:∀q∈aA xs,q.1∈(bN kvs xs ys i).map (·.1):=fun q hq=>by
     refine Classical.byContradiction fun z=>?_
     have h1:=mW z
     have h2:=hge q hq
     have h3:=hpos q hq
     omega
    refine⟨_,rfl,tk,aA xs,rfl,G5 _,fun o nf=>dA nf (fun j σ H'=>∃v8:Option V,σ=[some (.ref am),some (.ref l),some (.ref r),some (.int n),some (.ref fd),some (.ref tk),some (.ref gv),some (.int (0+i)),v8]∧H'=upd H3 fd (.dK (dY (-1) (bN kvs xs ys i) ((aA xs).take j) (aA xs)))) ⟨v8',rfl,rfl⟩ (fun j σ H' ⟨_,_,z⟩=>by rw[z];exact G5 _) ?_ ?_⟩
    ·rintro j k v σ H' GG ⟨v8,rfl,rfl⟩
     have hm:=List.mem_of_getElem? GG
     have hv:=PX.dM hm
     have Gi:=df (-1) (aA xs) ((aA xs).take j) _ XU
     have hwk:=Gi.xj (y' (-1) (aA xs) ((aA xs).take j) _ (tI _ hm))
     have XF:=eG (-1) (aA xs) ((aA xs).take j) (bN kvs xs ys i)
     have JX:((aA xs).take j).length≤(aA xs).length:=List.length_take_le' _ _
     have oY:∀o',(upd (upd H3 fd (.dK (dY (-1) (bN kvs xs ys i) ((aA xs).take j) (aA xs)))) tk o') fd=some (.dK (dY (-1) (bN kvs xs ys i) ((aA xs).take j) (aA xs))):=fun o'=>by rw[ah Sd];exact af
     refine⟨_,rfl,_,rfl,fd,V.int _,rfl, .inl ⟨_,k, .inl (oY _),rfl,hwk.symm⟩,_,rfl,_,rfl,tk,V.int (aO (aA xs) k),rfl, .inl ⟨_,k, .inr ⟨o,af⟩,rfl,hv.symm⟩,_,_,rfl,rfl,_,rfl,_,rfl,fd,_,rfl,i0.k (k:=k) (oY _) (by omega),?_⟩
     refine⟨by rw[ah (Ne.symm Sd)];exact af,some (kV k),rfl,?_⟩
     rw[jj Sd Sa]
     show upd H3 fd (.dK (putK _ k (.int (_ - _))))=_
     have ez:∀a b:Int,a - b=a+ -1*b:=fun a b=>by omega
     rw[ez]
     unfold dY
     rw[take_snoc GG,List.foldl_append]
     rfl
    ·rintro σ H' ⟨v8,rfl,rfl⟩
     rw[List.take_length]
     have hIv:=df (-1) (aA xs) (aA xs) _ XU
     have hvl:=eG (-1) (aA xs) (aA xs) (bN kvs xs ys i)
     have ew:bN kvs xs ys (i+1)=dY 1 (dY (-1) (bN kvs xs ys i) (aA xs) (aA xs)) (aA ys) (aA ys):=rfl
     generalize dY (-1) (bN kvs xs ys i) (aA xs) (aA xs)=W at hIv hvl ew ⊢
     refine⟨_,rfl,gv,aA ys,rfl,Se _,fun o nf=>dA nf (fun j σ H'=>∃v8:Option V,σ=[some (.ref am),some (.ref l),some (.ref r),some (.int n),some (.ref fd),some (.ref tk),some (.ref gv),some (.int (0+i)),v8]∧H'=upd H3 fd (.dK (dY 1 W ((aA ys).take j) (aA ys)))) ⟨v8,rfl,rfl⟩ (fun j σ H' ⟨_,_,z⟩=>by rw[z];exact Se _) ?_ ?_⟩
     ·rintro j k v σ H' GG ⟨v8,rfl,rfl⟩
      have hm:=List.mem_of_getElem? GG
      have hv:=R4.dM hm
      have Gi:=df 1 (aA ys) ((aA ys).take j) _ hIv
      have XF:=eG 1 (aA ys) ((aA ys).take j) W
      have JX:((aA ys).take j).length≤(aA ys).length:=List.length_take_le' _ _
      have oY:∀o',(upd (upd H3 fd (.dK (dY 1 W ((aA ys).take j) (aA ys)))) gv o') fd=some (.dK (dY 1 W ((aA ys).take j) (aA ys))):=fun o'=>by rw[ah XT];exact af
      refine⟨_,rfl,fd,rfl, .inl ⟨_, .inl (oY _)⟩,_,rfl,_,f9.k (k:=k) (oY _),_,rfl,_,rfl,gv,V.int (aO (aA ys) k),rfl, .inl ⟨_,k, .inr ⟨o,af⟩,rfl,hv.symm⟩,_,_,Gi.at k,rfl,_,rfl,_,rfl,fd,_,rfl,i0.k (k:=k) (oY _) (by omega),?_⟩
      refine⟨by rw[ah (Ne.symm XT)];exact af,some (kV k),rfl,?_⟩
      rw[jj XT hgv]
      show upd H3 fd (.dK (putK _ k (.int (_+_))))=_
      have ez:∀a b:Int,a+b=a+1*b:=fun a b=>by omega
      rw[ez]
      unfold dY
      rw[take_snoc GG,List.foldl_append]
      rfl
     ·rintro σ H' ⟨v8,rfl,rfl⟩
      rw[List.take_length]
      refine⟨_,_,rfl,by rw[ew],fun j hj2=>?_⟩
      by_cases c:j<i
      ·exact hj j c
      ·have e:j=i:=by omega
       rw[e]
       exact uH
  ·rintro σ H' ⟨v7,v8,rfl,rfl,hj⟩
   exact⟨_,rfl,qN hj fd _ hfd af (hS _)⟩
theorem Cf (x:Tm):rJ x=⟨(gL x).toArray⟩:=by
 unfold rJ gL xS
 by_cases h:x.1=1
 ·rw[if_pos h,if_pos h,h,vY]
  rfl
 ·have e:(toString x.1 :Str)=⟨(aQ x.1).toArray⟩:=by
   rw[←de]
   unfold eZ
   rw[if_neg h]
  rw[if_neg h,if_neg h,e,e32,show (⟨#[32]⟩:Str)=⟨[32].toArray⟩ from rfl,bD,bD,List.append_assoc]
theorem Cg:∀xs:List Tm,Str.join " + " (xs.map rJ)=⟨(sx xs).toArray⟩
 | []=>rfl
 | [x]=>by
   show rJ x=_
   rw[Cf]
   show _=(⟨(gL x++[]).toArray⟩:Str)
   rw[List.append_nil]
 |x::y::r=>by
  have ih:=Cg (y::r)
  show rJ x++" + " ++Str.join " + " ((y::r).map rJ)=_
  have ej:(" + " :Str)=⟨[32,43,32].toArray⟩:=by decide+kernel
  rw[ih,Cf,ej,bD,bD]
  congr 2
  show gL x++[32,43,32]++(gL y++hV r)=gL x++(([32,43,32]++gL y)++hV r)
  simp only [List.append_assoc]
theorem ze (xs:List Tm):uk xs=⟨(sx xs).toArray⟩:=by
 unfold uk
 have e:=PyProof.Rows.join_closes (sep:=" + ") (sep':=" + ") (ys:=xs.map rJ) rfl
 rw[show Txt.join " + " (xs.map rJ)=Str.join " + " (xs.map rJ) by simpa using e]
 exact Cg xs
theorem zf (xs ys:List Tm):XB xs ys=⟨(sx xs++p7++sx ys).toArray⟩:=by
 unfold XB
 have ea:(" -> " :Str)=⟨p7.toArray⟩:=by decide+kernel
 rw[ze,ze,ea,bD,bD]
theorem Ci {x:Tm} (h:fJ x):(gL x).length≤46:=by
 obtain⟨h1,h2,_,h3,_⟩:=h
 have:=LB h1 h2
 have:(xS x.1).length≤1:=by
  unfold xS
  split
  ·exact Nat.zero_le _
  ·exact Nat.le_refl _
 unfold gL
 rw[List.length_append,List.length_append]
 omega
theorem Kt {xs:List Tm} (h:∀x∈xs,fJ x):(hV xs).length≤49*xs.length:=by
 induction xs with
 |nil=>exact Nat.zero_le _
 |cons x r ih=>
  have h1:=Ci (h x (List.mem_cons_self ..))
  have h2:=ih fun y hy=>h y (List.mem_cons_of_mem _ hy)
  have h3:=wH x
  show (Gm x++hV r).length≤_
  rw[List.length_append,List.length_cons]
  omega
theorem Cj {xs:List Tm} (h:∀x∈xs,fJ x) (hn:xs≠[]):(sx xs).length+3≤49*xs.length:=by
 cases xs with
 |nil=>exact absurd rfl hn
 |cons x r=>
  have h1:=Ci (h x (List.mem_cons_self ..))
  have h2:=Kt fun y hy=>h y (List.mem_cons_of_mem _ hy)
  show (gL x++hV r).length+3≤_
  rw[List.length_append,List.length_cons]
  omega
theorem Ku {xs ys:List Tm} (hx:∀x∈xs,fJ x) (hy:∀x∈ys,fJ x) (nx:xs≠[]) (ny:ys≠[]) (h:xs.length+ys.length≤8):(XB xs ys).length≤400:=by
 have h1:=Cj hx nx
 have h2:=Cj hy ny
 have h3:p7.length=4:=rfl
 rw[zf,bj,List.length_append,List.length_append]
 omega
theorem G6 (a b:Str):Txt.join " -> " [a,b]=a++" -> " ++b:=by
 have e:=PyProof.Rows.join_closes (sep:=" -> ") (sep':=" -> ") (ys:=[a,b]) rfl
 rw[show Txt.join " -> " [a,b]=Str.join " -> " [a,b] by simpa using e]
 rfl
theorem zg:∀(d:Nat) (m:Int) (t:Tr),tV d t→1≤m→∀p∈bp d m t,1≤p.2
 |d,m, .one k n,h,hm,p,hp=>by
  have e:bp d m (.one k n)=[(⟨k.toArray⟩,n*m)]:=by cases d<;>rfl
  rw[e] at hp
  have h:lS k∧1≤n∧n≤999:=by cases d<;>exact h
  have ep:p=(⟨k.toArray⟩,n*m):=by simpa using hp
  rw[ep]
  have:=Int.mul_le_mul h.2.1 hm (by decide) (by omega)
  simpa using this
 |0,_, .gr _ _,h,_,_,_=>h.elim
 |d+1,m, .gr ts n,h,hm,p,hp=>by
  obtain⟨t,ht,hp⟩:=List.mem_flatMap.mp hp
  obtain⟨_,h1,n1,n2⟩:=h
  have:=Int.mul_le_mul n1 hm (by decide) (by omega)
  exact zg d (n*m) t (h1 t ht) (by simpa using this) p hp
theorem Ck:∀(d:Nat) (m:Int) (t:Tr),tV d t→bp d m t≠[]
 |d,m, .one k n,h=>by
  have e:bp d m (.one k n)=[(⟨k.toArray⟩,n*m)]:=by cases d<;>rfl
  rw[e]
  simp
 |0,_, .gr _ _,h=>h.elim
 |d+1,m, .gr ts n,h=>by
  obtain⟨h0,h1,_⟩:=h
  intro z
  cases ts with
  |nil=>exact h0 rfl
  |cons t r=>
   have z:bp d (n*m) t++r.flatMap (bp d (n*m))=[]:=z
   exact Ck d (n*m) t (h1 t (List.mem_cons_self ..)) (List.append_eq_nil_iff.mp z).1
def Pos (kvs:List (Key×V)):Prop:=∀q∈kvs,∃i,q.2=V.int i∧1≤i
theorem Pos.nonneg {kvs:List (Key×V)} (h:Pos kvs) (k:Key):0≤aO kvs k:=by
 cases e:b7 kvs k with
 |none=>rw[eD e];exact Int.le_refl _
 |some v=>
  obtain⟨i,ei,hi⟩:=h _ (fR e)
  have ei:v=V.int i:=ei
  rw[ei] at e
  rw[fw e]
  omega
theorem Pos.one {kvs:List (Key×V)} (h:Pos kvs) (hI:bu kvs) {k:Key} (hk:k∈kvs.map (·.1)):1≤aO kvs k:=by
 have e:=hI.xj hk
 obtain⟨i,ei,hi⟩:=h _ (fR e)
 have ei:V.int (aO kvs k)=V.int i:=ei
 injection ei with ei
 omega
theorem qg:∀(as:List (Str×Int)) (acc:List (Key×V)),Pos acc→(∀p∈as,1≤p.2)→Pos (a8 1 acc as)
 | [],_,h,_=>h
 |p::r,acc,h,hp=>by
  have h1:=hp p (List.mem_cons_self ..)
  refine qg r (b8 acc (Sum.inr p.1) (p.2*1)) (fun q hq=>?_) fun q hq=>hp q (List.mem_cons_of_mem _ hq)
  rcases qb hq with hq|hq
  ·exact h q hq
  ·rw[hq]
   refine⟨_,rfl,?_⟩
   have:=h.nonneg (Sum.inr p.1)
   omega
theorem Cm (t:Int) {j:Key}:∀(as:List (Str×Int)) (acc:List (Key×V)),j∈acc.map (·.1)→j∈(a8 t acc as).map (·.1)
 | [],_,h=>h
 |p::r,acc,h=>Cm t r (b8 acc (Sum.inr p.1) (p.2*t)) (gf h)
theorem AJ (t:Int) {p:Str×Int}:∀(as:List (Str×Int)) (acc:List (Key×V)),p∈as→(Sum.inr p.1 :Key)∈(a8 t acc as).map (·.1)
 | [],_,h=>by cases h
 |q::r,acc,h=>by
  rcases List.mem_cons.mp h with rfl|h
  ·exact Cm t r _ (qf _ _ _)
  ·exact AJ t r _ h
theorem Oe {x:Fm} (h:cS x):Pos (cW 1 x.1):=qg _ _ (fun q hq=>by cases hq) fun p hp=>by
 obtain⟨y,hy,hp⟩:=List.mem_flatMap.mp hp
 have zy:=k7 h.1 y hy
 obtain⟨t,ht,hp⟩:=List.mem_flatMap.mp hp
 exact zg 1 y.1 t (zy.2.1 t ht) zy.2.2.1 p hp
theorem Of {x:Fm} (h:cS x) (k:Key):aO (cW 1 x.1) k≤7*1000000000:=by
 have hb:=vU (t:=1) (b:=1000000000) (by decide) (x.1.flatMap (cA 1)) [] 0 (Int.le_refl _) (fun p hp=>by cases hp) fun p hp=>by
  obtain⟨y,hy,hp⟩:=List.mem_flatMap.mp hp
  obtain⟨_,h1,n1,n2⟩:=k7 h.1 y hy
  obtain⟨t,ht,hp⟩:=List.mem_flatMap.mp hp
  obtain⟨q1,q2⟩:=rR 1 y.1 t (h1 t ht) (by omega) p hp
  rw[Int.mul_one]
  refine⟨q1,?_⟩
  have:(999 :Int) ^1*y.1≤999*999:=by
   rw[show (999 :Int) ^1=999 from rfl]
   exact Int.mul_le_mul_of_nonneg_left n2 (by decide)
  omega
 have e7:((x.1.flatMap (cA 1)).length:Int)*1000000000≤7*1000000000:=Int.mul_le_mul_of_nonneg_right (by have:=h.2.2;omega) (by decide)
 cases e:b7 (cW 1 x.1) k with
 |none=>rw[eD e];decide
 |some v=>
  obtain⟨i,ei,b0,b1⟩:=hb _ (fR e)
  have ei:v=V.int i:=ei
  rw[ei] at e
  rw[fw e]
  omega
theorem Sf {x:Fm} (h:cS x) (hx:x.1≠[]):cW 1 x.1≠[]:=by
 intro z
 obtain⟨p,hp⟩:∃p,p∈x.1.flatMap (cA 1):=by
  cases e:x.1 with
  |nil=>exact absurd e hx
  |cons y r=>
   have zy:=k7 h.1 y (by rw[e];exact List.mem_cons_self ..)
   cases e2:y.2 with
   |nil=>exact absurd e2 zy.1
   |cons t r2=>
    have hn:=Ck 1 y.1 t (zy.2.1 t (by rw[e2];exact List.mem_cons_self ..))
    cases e3:bp 1 y.1 t with
    |nil=>exact absurd e3 hn
    |cons p r3=>
     refine⟨p,List.mem_flatMap.mpr ⟨y,List.mem_cons_self ..,?_⟩⟩
     unfold cA
     rw[e2]
     exact List.mem_flatMap.mpr ⟨t,List.mem_cons_self ..,by rw[e3];exact List.mem_cons_self ..⟩
 have:=AJ 1 _ [] hp
 rw[show a8 1 [] (x.1.flatMap (cA 1))=[] from z] at this
 cases this
def Ip (s:Str):Fm:=([(1,[.one s.cps.toList 1])],0)
def D4:Fm:=([], -1)
theorem zh (s:Str):(⟨(fL (Ip s)).toArray⟩:Str)=s:=by
 unfold Ip
 rw[GN]
theorem G7 (s:Str):cW 1 (Ip s).1=[(Sum.inr s, .int 1)]:=by
 show b8 [] (Sum.inr (⟨s.cps.toList.toArray⟩:Str)) (1*1*1)=_
 rw[Array.toArray_toList]
 rfl
theorem Og {s:Str} (h:lS s.cps.toList):cS (Ip s):=BY h
theorem Sg (s:Str) (k:Key):aO (jW (Ip s)) k=if k=Sum.inr ("+" :Str) then 0 else if k=Sum.inr s then 1 else 0:=by
 unfold jW
 rw[G7,iF,J9]
 rfl
theorem Si (k:Key):aO (jW D4) k=if k=Sum.inr ("+" :Str) then -1 else 0:=by
 show aO (putK [] (Sum.inr ("+" :Str)) (.int (-1))) k=_
 rw[iF]
 rfl
theorem jk (a b:List Tm) (k:Key):sumZ (a++b) k=sumZ a k+sumZ b k:=by
 unfold sumZ
 rw[List.map_append,List.sum_append]
theorem gR (z:Tm) (a:List Tm) (k:Key):sumZ (z::a) k=z.1*aO (jW z.2) k+sumZ a k:=by
 unfold sumZ
 rw[List.map_cons,List.sum_cons]
theorem gi (k:Key):sumZ [] k=0:=rfl
def Kv (m:Int) (w:Fm) (s:Str):Tm:=(m*aO (cW 1 w.1) (Sum.inr s),Ip s)
theorem uQ (m:Int) (w:Fm) (k:Key):∀{ms:List Str},ms.Nodup→sumZ (ms.map (Kv m w)) k=if k=Sum.inr ("+" :Str) then 0 else if k∈ms.map Sum.inr then m*aO (cW 1 w.1) k else 0
 | [],_=>by
   rw[List.map_nil,gi]
   split
   ·rfl
   ·rw[if_neg (by simp)]
 |s::r,hn=>by
  rw[List.nodup_cons] at hn
  rw[List.map_cons,gR,uQ m w k hn.2]
  show m*aO (cW 1 w.1) (Sum.inr s)*aO (jW (Ip s)) k+_=_
  rw[Sg]
  by_cases hp:k=Sum.inr ("+" :Str)
  ·rw[if_pos hp,if_pos hp,if_pos hp]
   simp
  rw[if_neg hp,if_neg hp,if_neg hp]
  by_cases hk:k=Sum.inr s
  ·have hnot:¬k∈r.map (Sum.inr:Str→Key):=fun z=>by
    obtain⟨s',E3,e⟩:=List.mem_map.mp z
    rw[hk] at e
    injection e with e
    rw[e] at E3
    exact hn.1 E3
   rw[if_pos hk,if_neg hnot,if_pos (by rw[hk];exact List.mem_cons_self ..),hk]
   omega
  ·rw[if_neg hk]
   by_cases hr:k∈r.map (Sum.inr:Str→Key)
   ·rw[if_pos hr,if_pos (by rw[List.map_cons];exact List.mem_cons_of_mem _ hr)]
    omega
   ·rw[if_neg hr,if_neg (by rw[List.map_cons];intro z;rcases List.mem_cons.mp z with z|z;exact hk z;exact hr z)]
    omega
theorem Sj (m:Int) (w:Fm) (k:Key):sumZ [(m,w)] k=m*(if k=Sum.inr ("+" :Str) then w.2 else aO (cW 1 w.1) k):=by
 rw[gR,gi,Int.add_zero]
 unfold jW
 rw[iF]
theorem Sk (m:Int) {w:Fm} (h:cS w) {ms:List Str} (hn:ms.Nodup) (hm:∀k,k∈(cW 1 w.1).map (·.1)↔k∈ms.map (Sum.inr:Str→Key)) (k:Key):sumZ [(m,w)] k=sumZ (ms.map (Kv m w)) k+if k=Sum.inr ("+" :Str) then m*w.2 else 0:=by
 rw[Sj,uQ m w k hn]
 by_cases hp:k=Sum.inr ("+" :Str)
 ·rw[if_pos hp,if_pos hp,if_pos hp]
  omega
 rw[if_neg hp,if_neg hp,if_neg hp,Int.add_zero]
 by_cases hk:k∈ms.map (Sum.inr:Str→Key)
 ·rw[if_pos hk]
 ·rw[if_neg hk,mW fun z=>hk ((hm k).mp z),Int.mul_zero]
def D5 (ws:List Fm) (z:Tm):Prop:=pz 100000000000 z∧Told ws (⟨(fL z.2).toArray⟩:Str)
def uR (ws:List Fm) (n:Nat) (xs ys:List Tm):Prop:=xs≠[]∧ys≠[]∧(∀x∈xs,D5 ws x)∧(∀y∈ys,D5 ws y)∧xs.length+ys.length≤n∧∀k,sumZ xs k=sumZ ys k
theorem uR.swap {ws:List Fm} {n:Nat} {xs ys:List Tm} (h:uR ws n xs ys):uR ws n ys xs:=by
 obtain⟨h1,h2,h3,h4,h5,h6⟩:=h
 exact⟨h2,h1,h4,h3,by omega,fun k=>(h6 k).symm⟩
theorem uR.ev {ws:List Fm} {xs ys:List Tm} (h:uR ws 8 xs ys):AD (Txt.join " -> " [uk xs,uk ys]) xs ys:=by
 obtain⟨h1,h2,h3,h4,h5,h6⟩:=h
 have tw:∀{z:Tm},D5 ws z→fJ z:=fun {z} h=>⟨h.1.1,Int.le_trans h.1.2.1 (by decide),h.1.2.2⟩
 have ox:∀t∈xs,fJ t:=fun t ht=>tw (h3 t ht)
 have oy:∀t∈ys,fJ t:=fun t ht=>tw (h4 t ht)
 have et:Txt.join " -> " [uk xs,uk ys]=XB xs ys:=G6 _ _
 have fl:∀zs:List Tm,(∀t∈zs,fJ t)→yH zs≤7*zs.length:=fun zs=>by
  induction zs with
  |nil=>intro _;exact Nat.le_refl _
  |cons z r ih=>
   intro h
   have h1:=(h z (List.mem_cons_self ..)).2.2.2.2
   have h2:=ih fun t ht=>h t (List.mem_cons_of_mem _ ht)
   unfold yH at h2 ⊢
   rw[List.map_cons,List.sum_cons,List.length_cons]
   omega
 have hf:=fl (xs++ys) fun t ht=>by
  rcases List.mem_append.mp ht with z|z
  ·exact ox t z
  ·exact oy t z
 rw[List.length_append] at hf
 rw[et]
 exact⟨by rw[zf],h1,h2,ox,oy,Ku ox oy h1 h2 h5,h5,by omega,fun t ht=>(ox t ht).2.2,fun t ht=>(oy t ht).2.2,h6⟩
theorem Cn (ws:List Fm) {n:Int} (h1:1≤n) (h2:n≤10000):D5 ws (n,D4):=⟨⟨h1,by show n≤100000000000;omega,LF⟩, .inl NS⟩
theorem chg0 {ws:List Fm} {w:Fm} (hw:w∈ws) (ok:cS w) (h3:(cW 1 w.1).length≤3) {m:Int} (m1:1≤m) (m3:m≤3) {ks ms:List Str} (hk:(cW 1 w.1).map (·.1)=ks.map Sum.inr) (pm:ms.Perm ks):
  uR ws 5 ([(m,w)]++if 0<w.2 then [(m*w.2,D4)] else []) (ms.map (Kv m w)++if w.2<0 then [(0 - m*w.2,D4)] else []):=by
 have hc:=BS ok
 have hnd:ms.Nodup:=by
  refine pm.nodup_iff.mpr ?_
  have:=RO w
  rw[hk] at this
  exact List.Pairwise.of_map (S:=(·≠·)) Sum.inr (fun a b h e=>h (by rw[e])) this
 have Sl:∀k,k∈(cW 1 w.1).map (·.1)↔k∈ms.map (Sum.inr:Str→Key):=fun k=>by rw[hk];exact(pm.map _).mem_iff.symm
 have RG:ms.length≤3:=by
  have:=congrArg List.length hk
  rw[List.length_map,List.length_map] at this
  rw[pm.length_eq]
  omega
 have aS:∀s∈ms,D5 ws (Kv m w s):=fun s hs=>by
  have tI:=(Sl (Sum.inr s)).mpr (List.mem_map_of_mem hs)
  have p1:=(Oe ok).one (wA _) tI
  have p2:=Of ok (Sum.inr s)
  obtain⟨q,hq,e⟩:=List.mem_map.mp tI
  obtain⟨k,XG,e'⟩:=wR ok q hq
  rw[e] at e'
  injection e' with e'
  refine⟨⟨?_,?_,Og (by rw[e'];exact XG)⟩,?_⟩
  ·show 1≤m*aO (cW 1 w.1) (Sum.inr s)
   obtain rfl|rfl|rfl:m=1∨m=2∨m=3:=by omega
   all_goals omega
  ·show m*aO (cW 1 w.1) (Sum.inr s)≤100000000000
   obtain rfl|rfl|rfl:m=1∨m=2∨m=3:=by omega
   all_goals omega
  ·show Told ws (⟨(fL (Ip s)).toArray⟩:Str)
   rw[zh]
   exact .inr (.inr ⟨w,hw,tI⟩)
 have hwo:D5 ws (m,w):=⟨⟨m1,by show m≤100000000000;omega,ok⟩, .inr (.inl ⟨w,hw,rfl⟩)⟩
 refine⟨by simp,?_,fun x hx=>?_,fun y hy=>?_,?_,fun k=>?_⟩
 ·by_cases z:w.1=[]
  ·have e:w.2= -1:=by
    have:=ok.1
    rw[z] at this
    exact this
   rw[if_pos (by omega)]
   simp
  ·intro z2
   have z3:=(List.append_eq_nil_iff.mp z2).1
   have z4:ms=[]:=by simpa using z3
   have:=Sf ok z
   have z5:(cW 1 w.1).length=0:=by
    have:=congrArg List.length hk
    rw[List.length_map,List.length_map,←pm.length_eq,z4] at this
    exact this
   exact this (List.length_eq_zero_iff.mp z5)
 ·rcases List.mem_append.mp hx with z|z
  ·rw[List.mem_singleton.mp z];exact hwo
  ·split at z
   ·rw[List.mem_singleton.mp z]
    obtain rfl|rfl|rfl:m=1∨m=2∨m=3:=by omega
    all_goals exact Cn ws (by omega) (by omega)
   ·cases z
 ·rcases List.mem_append.mp hy with z|z
  ·obtain⟨s,hs,rfl⟩:=List.mem_map.mp z
   exact aS s hs
  ·split at z
   ·rw[List.mem_singleton.mp z]
    obtain rfl|rfl|rfl:m=1∨m=2∨m=3:=by omega
    all_goals exact Cn ws (by omega) (by omega)
   ·cases z
 ·rw[List.length_append,List.length_append,List.length_map]
  have a1:(if 0<w.2 then [(m*w.2,D4)] else []:List Tm).length+(if w.2<0 then [(0 - m*w.2,D4)] else []:List Tm).length≤1:=by
   by_cases c:0<w.2
   ·rw[if_pos c,if_neg (by omega)];exact Nat.le_refl _
   ·rw[if_neg c]
    split
    ·exact Nat.le_refl _
    ·exact Nat.zero_le _
  show 1+_+_≤5
  omega
 ·rw[jk,jk,Sk m ok hnd Sl k]
  have se:∀n:Int,sumZ [(n,D4)] k=n*if k=Sum.inr ("+" :Str) then -1 else 0:=fun n=>by
   rw[gR,gi,Int.add_zero,Si]
  by_cases c:0<w.2
  ·rw[if_pos c,if_neg (by omega:¬w.2<0),se,gi]
   split<;>omega
  ·rw[if_neg c,gi]
   by_cases d:w.2<0
   ·rw[if_pos d,se]
    split<;>omega
   ·rw[if_neg d,gi]
    have:w.2=0:=by omega
    rw[this]
    split<;>omega
theorem uR.a {ws:List Fm} {n:Nat} {xs ys:List Tm} (h:uR ws n xs ys) {z:Tm} (hz:D5 ws z):uR ws (n+2) ([z]++xs) (ys++[z]):=by
 obtain⟨h1,h2,h3,h4,h5,h6⟩:=h
 refine⟨by simp,by simp,fun x hx=>?_,fun x hx=>?_,by rw[List.length_append,List.length_append];show 1+_+(_+1)≤_;omega,fun k=>by rw[jk,jk,h6 k];omega⟩
 ·rcases List.mem_append.mp hx with y|y
  ·rw[List.mem_singleton.mp y];exact hz
  ·exact h3 x y
 ·rcases List.mem_append.mp hx with y|y
  ·exact h4 x y
  ·rw[List.mem_singleton.mp y];exact hz
theorem uR.b {ws:List Fm} {n:Nat} {xs ys:List Tm} (h:uR ws n xs ys) {o:Fm} {m:Int} (ho:o∈ws) (ok:cS o) (m1:1≤m) (m4:m≤4):uR ws (n+3) (xs++[(m,o),(1,o)]) ([(m+1,o)]++ys):=by
 obtain⟨h1,h2,h3,h4,h5,h6⟩:=h
 have hz:∀{i:Int},1≤i→i≤5→D5 ws (i,o):=fun {i} i1 i2=>⟨⟨i1,by show i≤100000000000;omega,ok⟩, .inr (.inl ⟨o,ho,rfl⟩)⟩
 refine⟨by simp,by simp,fun x hx=>?_,fun x hx=>?_,by rw[List.length_append,List.length_append];show _+2+(1+_)≤_;omega,fun k=>?_⟩
 ·rcases List.mem_append.mp hx with y|y
  ·exact h3 x y
  ·rcases List.mem_cons.mp y with y|y
   ·rw[y];exact hz (by omega) (by omega)
   ·rw[List.mem_singleton.mp y];exact hz (by omega) (by omega)
 ·rcases List.mem_append.mp hx with y|y
  ·rw[List.mem_singleton.mp y];exact hz (by omega) (by omega)
  ·exact h4 x y
 ·rw[jk,jk,h6 k,gR,gR,gi,gR,gi]
  show _+(m*aO (jW o) k+(1*aO (jW o) k+0))=((m+1)*aO (jW o) k+0)+_
  rw[Int.add_mul]
  omega
theorem uR.mono {ws:List Fm} {n m:Nat} {xs ys:List Tm} (h:uR ws n xs ys) (e:n≤m):uR ws m xs ys:=by
 obtain⟨h1,h2,h3,h4,h5,h6⟩:=h
 exact⟨h1,h2,h3,h4,by omega,h6⟩
variable {uC uP uI uD uL uT eR eS eU uG uS:Tok} {Ch HE Sh St:Addr}
def uU:Sp:=fun vs H Q _=>∃(c:Int) (wl:Addr) (ws:List Fm),vs=[.int c, .ref wl]∧lh H wl ws∧(∀w∈ws,cS w)∧(∀w∈ws,(cW 1 w.1).length≤3)∧ws.length=3∧∀(t l r:Addr) (xs ys:List Tm) H',H' t=some (.tup [.ref l, .ref r])→cT H' l xs→cT H' r ys→uR ws 8 xs ys→au H H'→Q (.ref t) H'
theorem cF:ax ["_law_cell","_law_world_here","_law_text_here","_law_counts","_law_charge","_law_many","_law_lefts","_law_rights","_law_other","_law_more"] ["_law_cell","_law_world_here"] (aj kh):=⟨rfl,rfl,rfl,by decide+kernel,rfl,by decide+kernel,by decide+kernel⟩
theorem zj {H:Hp} {wl:Addr} {ws:List Fm} {ts:List Addr} (hP:Paired (yp H) ts ws) (h3:ws.length=3) (c:Int):∃(t:Addr) (x:Fm),zP (ts.map V.ref) (c%3)=some (.ref t)∧x∈ws∧yp H t x:=by
 have iO:=Paired.length hP
 have c0:0≤c%3:=Int.emod_nonneg _ (by decide)
 have c1:c%3<3:=Int.emod_lt_of_pos _ (by decide)
 have hi:(c%3).toNat<ts.length:=by omega
 obtain⟨t,ht⟩:∃t,ts[(c%3).toNat]? =some t:=⟨_,List.getElem?_eq_getElem hi⟩
 obtain⟨x,hx,hF⟩:=bI hP ht
 refine⟨t,x,?_,List.mem_of_getElem? hx,hF⟩
 have:=pH (xs:=ts.map V.ref) (j:=(c%3).toNat) (v:=V.ref t) (by rw[List.getElem?_map,ht];rfl)
 rwa [Int.toNat_of_nonneg c0] at this
theorem LL {H:Hp} {d f u:Addr} {n:Int} (hd:H d=none) (hf:(upd H d (.dK [])) f=none) (hu:(upd (upd H d (.dK [])) f (.tup [.str "e^-", .ref d, .int (-1)])) u=none):d7 (upd (upd (upd H d (.dK [])) f (.tup [.str "e^-", .ref d, .int (-1)])) u (.tup [.int n, .ref f])) u (n,D4)∧au H (upd (upd (upd H d (.dK [])) f (.tup [.str "e^-", .ref d, .int (-1)])) u (.tup [.int n, .ref f])):=by
 have s1:=au.new (o:= .dK []) hd
 have s2:=au.new (o:= .tup [.str "e^-", .ref d, .int (-1)]) hf
 have s3:=au.new (o:= .tup [.int n, .ref f]) hu
 refine⟨⟨f,af,d,?_,s3 _ _ (s2 _ _ af)⟩,(s1.trans s2).trans s3⟩
 show _=some (HO.tup [.str ⟨(fL ([], -1)).toArray⟩, .ref d, .int (-1)])
 rw[NS]
 exact s3 _ _ af
theorem AK (D:Def K mg "_law_change" "_law_change" kh ["_law_cell","_law_world_here"]) (T:Gu K mg C R G Pc Fo Ch uK uN uB uE uM uC uP uI uD uL uT eR eS eU):bg P w K mg base 1 "_law_change" ["_law_cell","_law_world_here"] uU:=by
 refine D.di cF (fun vs H Q E h=>?_) (fun f bA A outer s H vs Q E hr h=>?_)
 ·obtain⟨c,wl,ws,rfl,_⟩:=h
  rfl
 ·obtain⟨c,wl,ws,rfl,⟨ts,IT,hP⟩,aS,AH,h3,q⟩:=h
  have hu:=dz hr
  have big:(2000 :Nat)≤sizeLine:=by decide
  refine⟨_,(ai
     (EE (cE cZ (pv 1) (aE cK (pv 0) aq) (fun _ _=>rfl)) (gS rfl (bo (aG (i:=2) cF.nd rfl (Or.inl rfl)) (bo (aG (i:=3) cF.nd rfl (Or.inr rfl)) (bo (aG (i:=4) cF.nd rfl (Or.inl rfl)) dW)))))
    (ai
     (aB (i:=5) cF.nd rfl (Or.inr rfl) (aE cf aq (aE cK (aE cY (pv 0) aq) aq)))
    (ai
     (aB (i:=6) cF.nd rfl (Or.inl rfl) (cD (aa (bP (aa (pv 5) (aa (bP (aa (pv 2) (aa (pv 3) (aa (pv 4) ak)))) ak))) ak)))
    (ai
     (pK (i:=7) cF.nd rfl (Or.inl rfl) (sc:=(aj kh)) (NX:=["_law_cell","_law_world_here","_law_text_here","_law_counts","_law_charge","_law_many","_law_lefts","_law_rights","_law_other","_law_more"]) (N:=["_law_kind_here","_law_many","_law_counts"]) (fr:=[none,some 5,some 3]) ⟨by rfl,by rfl,by decide+kernel,by decide+kernel,by decide+kernel,by rfl,by decide+kernel⟩ rfl rfl rfl (cN (br (mz rfl) rfl T.yE tD (aa (pv 3) ak))) (fun _ _ _ _=>(aG (i:=0) (show (["_law_kind_here","_law_many","_law_counts"]:List Str).Nodup by decide+kernel) rfl (Or.inl rfl) (Or.inr rfl))) (fun _ _ _ _=>fW) (fun _ _ _ _=>(bP (aa (aE gT (pv 1) (b6 hu (pv 2) (pv 0) (fun _ _=>rfl))) (aa (bP (aa (pv 0) (aa (vf (qz (pv 0) aq ve) rfl rfl (by intro z;cases z) (by decide)) (aa aq ak)))) ak)))))
    (ai
     (bG (aP mh (pv 4) aq (aV _))
      (ao
       (bz (i' PySem.F.plainAttrs_list PySem.F.slot_list_append PySem.F.type_list_append dX (pv 7) (aa (bP (aa (aE j3 aq (aE gT (pv 5) (pv 4))) (aa (bP (aa bJ (aa dw (aa (oW j4 aq) ak)))) ak))) ak))))
      aR)
    (ai
     (bG (aP lF (pv 4) aq (aV _))
      (ao
       (bz (i' PySem.F.plainAttrs_list PySem.F.slot_list_append PySem.F.type_list_append dX (pv 6) (aa (bP (aa (aE gT (pv 5) (pv 4)) (aa (bP (aa bJ (aa dw (aa (oW j4 aq) ak)))) ak))) ak))))
      aR)
    (ai
     (aB (i:=8) cF.nd rfl (Or.inl rfl) (cE cZ (pv 1) (aE cK (aE cY (pv 0) aq) aq) (fun _ _=>rfl)))
    (ai
     (aB (i:=9) cF.nd rfl (Or.inl rfl) (aE cf aq (aE cK (aE cY (pv 0) aq) aq)))
    (ai
     (bG (aP dZ (aE cK (aE cY (pv 0) aq) aq) aq (aV _))
      (ai
       (aB (i:=6) cF.nd rfl (Or.inl rfl) (aE nY (cD (aa (bP (aa (pv 9) (aa (pv 8) ak))) ak)) (pv 6)))
      (ao
       (aB (i:=7) cF.nd rfl (Or.inl rfl) (aE nY (pv 7) (cD (aa (bP (aa (pv 9) (aa (pv 8) ak))) ak))))))
      aR)
    (ai
     (bG (aP dZ (aE cK (aE cY (pv 0) aq) aq) aq (aV _))
      (ai
       (aB (i:=6) cF.nd rfl (Or.inl rfl) (aE nY (pv 6) (cD (aa (bP (aa (pv 9) (aa (pv 8) ak))) (aa (bP (aa aq (aa (pv 8) ak))) ak)))))
      (ao
       (aB (i:=7) cF.nd rfl (Or.inl rfl) (aE nY (cD (aa (bP (aa (aE cf (pv 9) aq) (aa (pv 8) ak))) ak)) (pv 7)))))
      aR)
    (ai
     (bG (aP dZ (aE cK (aE cY (pv 0) aq) aq) aq (aV _))
      (ao
       (aD (bP (aa (pv 7) (aa (pv 6) ak)))))
      aR)
    (ao
     (aD (bP (aa (pv 6) (aa (pv 7) ak)))))))))))))))),?_⟩
  obtain⟨t,x,JQ,N8,cd,PD,hx2⟩:=zj (wl:=wl) hP h3 c
  refine⟨_,rfl,_,rfl,_,_,rfl,rfl,(by show (0 :Int) <3;decide),wl,_,_,V.ref t,rfl,rfl,b5.of IT,JQ,?_⟩
  refine⟨t,_,rfl,iX.of PD,rfl,_,_,rfl,_,_,rfl,_,_,rfl,rfl,?_⟩
  refine⟨_,rfl,_,_,rfl,rfl,⟨by decide,by decide⟩,_,_,rfl,rfl,(by show (0 :Int) <3;decide),_,_,rfl,rfl,?_⟩
  have m0:0≤c/3%3:=Int.emod_nonneg _ (by decide)
  have m1:c/3%3<3:=Int.emod_lt_of_pos _ (by decide)
  dsimp only [du]
  obtain⟨m,em⟩:∃m,m=1+c/3%3:=⟨_,rfl⟩
  rw[←em]
  have mm1:1≤m:=by omega
  have mm3:m≤3:=by omega
  clear em m0 m1
  refine⟨_,rfl,_,rfl,_,rfl,_,rfl,(by show 3≤sizeLine;decide),fun p hp=>⟨(by show 2≤sizeLine;decide),fun q1 hq1=>⟨(by show 1≤sizeLine;decide),fun L hL=>?_⟩⟩⟩
  have s1:=au.new (o:= .tup [.str ⟨(fL x).toArray⟩, .ref cd, .int x.2]) hp
  have s2:=au.new (o:= .tup [.int m, .ref p]) hq1
  have s3:=au.new (o:= .lst [.ref q1]) hL
  have e3:=(s1.trans s2).trans s3
  have ni:(upd (upd (upd H p (.tup [.str ⟨(fL x).toArray⟩, .ref cd, .int x.2])) q1 (.tup [.int m, .ref p])) L (.lst [.ref q1])) L=some (.lst [.ref q1]):=af
  have PZ:d7 (upd (upd (upd H p (.tup [.str ⟨(fL x).toArray⟩, .ref cd, .int x.2])) q1 (.tup [.int m, .ref p])) L (.lst [.ref q1])) q1 (m,x):=⟨p,s3 _ _ af,cd,s3 _ _ (s2 _ _ af),e3 _ _ hx2⟩
  have hLH:H L=none:=none_back (s1.trans s2) hL
  dsimp only [du]
  generalize upd (upd (upd H p (.tup [.str ⟨(fL x).toArray⟩, .ref cd, .int x.2])) q1 (.tup [.int m, .ref p])) L (.lst [.ref q1])=H3 at e3 ni PZ ⊢
  have md:=aS x N8
  have N7:=AH x N8
  have xv:(((cW 1 x.1).map (·.1)).filterMap RE).map Sum.inr=(cW 1 x.1).map (·.1):=BO (BP x.1)
  obtain⟨ks,eks⟩:∃ks,ks=((cW 1 x.1).map (·.1)).filterMap RE:=⟨_,rfl⟩
  rw[←eks] at xv
  have me:ks.length≤3:=by
   have:=congrArg List.length xv
   rw[List.length_map,List.length_map] at this
   omega
  refine⟨_,rfl,cd,cW 1 x.1,ks,rfl, .inl (e3 _ _ hx2),xv.symm,by omega,fun l2 ms pm sm sC=>?_⟩
  have s4:=au.new (o:= .lst (ms.map V.str)) sC
  have Lr:(upd H3 l2 (.lst (ms.map V.str))) l2=some (.lst (ms.map V.str)):=af
  have e4:=e3.trans s4
  have Bw:=s4 _ _ ni
  have XS:=PZ.same s4
  generalize upd H3 l2 (.lst (ms.map V.str))=H4 at e4 Lr Bw XS ⊢
  have RG:ms.length≤3:=by rw[pm.length_eq];exact me
  refine⟨l2,rfl,⟨_,b5.of Lr⟩,fun R0 XW=>kL (K:=K) (a:=l2) (L:=R0) (xs:=ms.map V.str) H4 (fun σ=>∃v:Option V,σ=[v,some (.int m),some (.ref cd)]) (fun i ys H'=>∃us:List Addr,ys=us.map V.ref∧us.length=i∧Paired (fun u z=>u≠R0∧∃f d,f≠R0∧d≠R0∧H' u=some (.tup [.int z.1, .ref f])∧H' f=some (.tup [.str ⟨(fL z.2).toArray⟩, .ref d, .int z.2.2])∧H' d=some (.dK (cW 1 z.2.1))) us ((ms.take i).map (Kv m x))) (b5.of Lr) ?_ XW ⟨none,rfl⟩ (au.new XW) af ⟨[],rfl,rfl, .nil⟩ (by rw[List.length_map];omega) ?_ ?_ ?_⟩
  ·rintro i ys Ha Hb hb ⟨us,h1,h2,h4⟩
   exact⟨us,h1,h2,aK (fun u z ⟨n1,f,d,n2,n3,z1,z2,z3⟩=>⟨n1,f,d,n2,n3,hb _ _ z1 n1,hb _ _ z2 n2,hb _ _ z3 n3⟩) h4⟩
  ·rintro i ys H' ⟨us,rfl,h2,_⟩
   rw[List.length_map,h2];exact Nat.le_refl _
  ·rintro i v σ H5 ys hi ⟨v0,rfl⟩ e5 FY ⟨us,rfl,LD,Oc⟩ N M hN
   rw[List.getElem?_map] at hi
   obtain⟨sk,hsk,rfl⟩:∃p,ms[i]? =some p∧v=V.str p:=by
    cases hh:ms[i]? with
    |none=>rw[hh] at hi;cases hi
    |some p=>rw[hh] at hi;exact⟨p,rfl,(Option.some.inj hi).symm⟩
   have tI:(Sum.inr sk:Key)∈(cW 1 x.1).map (·.1):=by
    rw[←xv]
    exact List.mem_map_of_mem (pm.mem_iff.mp (List.mem_of_getElem? hsk))
   have hv:=(wA x.1).xj tI
   have hcd5:H5 cd=some (.dK (cW 1 x.1)):=e5 _ _ (e4 _ _ hx2)
   refine⟨_,rfl,_,rfl,_,rfl,cd,V.int (aO (cW 1 x.1) (Sum.inr sk)),rfl, .inl ⟨_,Sum.inr sk, .inl hcd5,rfl,hv.symm⟩,_,_,rfl,rfl, .inl ⟨by omega,by omega⟩,?_⟩
   refine⟨_,rfl,fun d hd=>⟨_,rfl,af,[(Sum.inr sk, .int 1)],rfl,(by show 1≤15;decide),(by show 3≤sizeLine;decide),fun f' hf=>⟨(by show 2≤sizeLine;decide),fun u Ob=>?_⟩⟩⟩
   have t1:au H5 (upd (upd H5 d (.dK [])) d (.dK (cu [] [(Sum.inr sk,V.int 1)]))):=fun b o z=>by
    rw[ah (ag z hd),ah (ag z hd)]
    exact z
   have t2:=au.new (o:= .tup [.str sk, .ref d, .int 0]) hf
   have t3:=au.new (o:= .tup [.int (m*aO (cW 1 x.1) (Sum.inr sk)), .ref f']) Ob
   have e6:=(t1.trans t2).trans t3
   have RV:=t3 _ _ (t2 _ _ (af (H:=upd H5 d (.dK [])) (a:=d) (o:= .dK (cu [] [(Sum.inr sk,V.int 1)]))))
   have hf6:=t3 _ _ (af (H:=upd (upd H5 d (.dK [])) d (.dK (cu [] [(Sum.inr sk,V.int 1)]))) (a:=f') (o:= .tup [.str sk, .ref d, .int 0]))
   have Ex:=e6 _ _ FY
   refine hN _ _ _ ⟨_,rfl⟩ (e5.trans e6) Ex ⟨us++[u],by rw[List.map_append];rfl,by rw[List.length_append,LD];rfl,?_⟩
   rw[take_snoc hsk,List.map_append]
   refine bS ⟨cI (af (o:= .tup [.int (m*aO (cW 1 x.1) (Sum.inr sk)), .ref f'])) Ex (by intro z;cases z),f',d,cI hf6 Ex (by intro z;cases z),cI RV Ex (by intro z;cases z),af,?_,?_⟩ (aK (fun u z ⟨n1,f,d,n2,n3,z1,z2,z3⟩=>⟨n1,f,d,n2,n3,e6 _ _ z1,e6 _ _ z2,e6 _ _ z3⟩) Oc)
   ·show _=some (HO.tup [.str ⟨(fL (Ip sk)).toArray⟩, .ref d, .int 0])
    rw[zh]
    exact hf6
   ·show _=some (HO.dK (cW 1 (Ip sk).1))
    rw[G7]
    exact RV
  ·rintro H5 ys e5 FY ⟨us,rfl,LD,Oc⟩
   rw[List.length_map,List.take_length] at Oc
   have Sm:Paired (d7 H5) us (ms.map (Kv m x)):=aK (fun u z ⟨n1,f,d,n2,n3,z1,z2,z3⟩=>⟨f,z1,d,z2,z3⟩) Oc
   clear Oc
   have hR0H:H R0=none:=none_back e4 XW
   have nLR:L≠R0:=ag Bw XW
   have o9:=e5 _ _ Bw
   have hT5:=XS.same e5
   have e05:=e4.trans e5
   have hul':us.length≤3:=by rw[LD,List.length_map];exact RG
   dsimp only [AX]
   refine iw (fun σ' H'=>∃us:List Addr,σ'=[some (.int c),some (.ref wl),some (.str ⟨(fL x).toArray⟩),some (.ref cd),some (.int x.2),some (.int m),some (.ref L),some (.ref R0),none,none]∧H' R0=some (.lst (us.map V.ref))∧us.length≤4∧Paired (d7 H') us (ms.map (Kv m x)++if x.2<0 then [(0 - m*x.2,D4)] else [])∧H' L=some (.lst [.ref q1])∧d7 H' q1 (m,x)∧au H H') (fun N hN=>?_) ?_
   ·refine⟨_,rfl,_,_,rfl,rfl,_,rfl,fG (fun en=>?_) fun en=>?_⟩
    ·have en:x.2<0:=by simpa using en
     refine⟨_,rfl, .inl ⟨rfl,_,b5.of FY⟩,_,rfl,_,rfl,_,_,rfl,rfl, .inl ⟨by omega,by omega⟩,_,_,rfl,rfl,fun d hd=>⟨1,rfl,(by show 3≤sizeLine;decide),fun f' hf=>⟨(by show 2≤sizeLine;decide),fun u Ob=>?_⟩⟩⟩
     obtain⟨tu,t6⟩:=LL (n:=0 - m*x.2) hd hf Ob
     have Ex:=t6 _ _ FY
     refine⟨R0,_,_,rfl,rfl,Ex,by rw[List.length_map];omega,hN _ _ ⟨us++[u],rfl,by rw[af,List.map_append];rfl,by rw[List.length_append];show _+1≤4;omega,?_,?_,?_,?_⟩⟩
     ·rw[if_pos en]
      exact bS (tu.but Ex fun b o z n=>by rw[ah n];exact z) (aK (fun a z h=>(h.same t6).but Ex fun b o z n=>by rw[ah n];exact z) Sm)
     ·rw[ah nLR]
      exact t6 _ _ o9
     ·exact(hT5.same t6).but Ex fun b o z n=>by rw[ah n];exact z
     ·exact fun b o z=>by rw[ah (ag z hR0H)];exact t6 _ _ (e05 _ _ z)
    ·have en:¬x.2<0:=by simpa using en
     refine hN _ _ ⟨us,rfl,FY,by omega,?_,o9,hT5,e05⟩
     rw[if_neg en,List.append_nil]
     exact Sm
   rintro σ' H6 ⟨us,rfl,Ex,hu4,Sm,JM,hT6,e6⟩
   refine iw (fun σ' H'=>∃ls:List Addr,σ'=[some (.int c),some (.ref wl),some (.str ⟨(fL x).toArray⟩),some (.ref cd),some (.int x.2),some (.int m),some (.ref L),some (.ref R0),none,none]∧H' R0=some (.lst (us.map V.ref))∧Paired (d7 H') us (ms.map (Kv m x)++if x.2<0 then [(0 - m*x.2,D4)] else [])∧H' L=some (.lst (ls.map V.ref))∧Paired (d7 H') ls ([(m,x)]++if 0<x.2 then [(m*x.2,D4)] else [])∧au H H') (fun N hN=>?_) ?_
   ·refine⟨_,rfl,_,_,rfl,rfl,_,rfl,fG (fun en=>?_) fun en=>?_⟩
    ·have en:0<x.2:=by simpa using en
     refine⟨_,rfl, .inl ⟨rfl,_,b5.of JM⟩,_,rfl,_,rfl,_,_,rfl,rfl, .inl ⟨by omega,by omega⟩,fun d hd=>⟨1,rfl,(by show 3≤sizeLine;decide),fun f' hf=>⟨(by show 2≤sizeLine;decide),fun u Ob=>?_⟩⟩⟩
     obtain⟨tu,t6⟩:=LL (n:=m*x.2) hd hf Ob
     have P0:=t6 _ _ JM
     refine⟨L,_,_,rfl,rfl,P0,(by show 1<sizeLine;decide),hN _ _ ⟨[q1,u],rfl,?_,?_,?_,?_,?_⟩⟩
     ·rw[ah (Ne.symm nLR)]
      exact t6 _ _ Ex
     ·exact aK (fun a z h=>(h.same t6).but P0 fun b o z n=>by rw[ah n];exact z) Sm
     ·rw[af]
      rfl
     ·rw[if_pos en]
      exact .cons ((hT6.same t6).but P0 fun b o z n=>by rw[ah n];exact z) (.cons (tu.but P0 fun b o z n=>by rw[ah n];exact z) .nil)
     ·exact fun b o z=>by rw[ah (ag z hLH)];exact t6 _ _ (e6 _ _ z)
    ·have en:¬0<x.2:=by simpa using en
     refine hN _ _ ⟨[q1],rfl,Ex,Sm,JM,?_,e6⟩
     rw[if_neg en,List.append_nil]
     exact .cons hT6 .nil
   rintro σ' H7 ⟨ls,rfl,hR7,hPr,P0,hPl,e7⟩
   have hG:=chg0 N8 md N7 mm1 mm3 xv.symm pm
   have AL:cT H7 L _:=⟨ls,P0,hPl⟩
   have AM:cT H7 R0 _:=⟨us,hR7,hPr⟩
   generalize ([(m,x)]++if 0<x.2 then [(m*x.2,D4)] else [])=xs at hG AL
   generalize (ms.map (Kv m x)++if x.2<0 then [(0 - m*x.2,D4)] else [])=ys at hG AM
   obtain⟨t2,o2,NG,XX,Sn⟩:=zj (wl:=wl) hP h3 (c/27)
   refine⟨_,rfl,_,rfl,_,_,rfl,rfl,⟨by decide,by decide⟩,_,_,rfl,rfl,(by show (0 :Int) <3;decide),wl,_,_,V.ref t2,rfl,rfl,b5.of (e7 _ _ IT),NG,?_⟩
   refine⟨_,rfl,_,_,rfl,rfl,⟨by decide,by decide⟩,_,_,rfl,rfl,(by show (0 :Int) <4;decide),_,_,rfl,rfl,?_⟩
   have n0:0≤c/81%4:=Int.emod_nonneg _ (by decide)
   have n1:c/81%4<4:=Int.emod_lt_of_pos _ (by decide)
   dsimp only [du,AX]
   obtain⟨mo,emo⟩:∃m,m=1+c/81%4:=⟨_,rfl⟩
   rw[←emo]
   have mo1:1≤mo:=by omega
   have mo4:mo≤4:=by omega
   clear emo n0 n1
   have okl:D5 ws (mo,o2):=⟨⟨mo1,by show mo≤100000000000;omega,aS o2 XX⟩, .inr (.inl ⟨o2,XX,rfl⟩)⟩
   refine iw (fun σ' H'=>∃(L R0:Addr) (xs ys:List Tm),σ'=[some (.int c),some (.ref wl),some (.str ⟨(fL x).toArray⟩),some (.ref cd),some (.int x.2),some (.int m),some (.ref L),some (.ref R0),some (.ref t2),some (.int mo)]∧cT H' L xs∧cT H' R0 ys∧uR ws 8 xs ys∧(¬c/9%3=1→uR ws 5 xs ys)∧au H H') (fun N hN=>?_) ?_
   ·refine⟨_,rfl,_,_,rfl,rfl,⟨by decide,by decide⟩,_,_,rfl,rfl,(by show (0 :Int) <3;decide),rfl,_,rfl,fG (fun ev=>?_) fun ev=>?_⟩
    ·have ev:c/9%3=1:=by simpa using ev
     obtain⟨D6,tZ,G8⟩:=AL
     obtain⟨Oh,eh,G9⟩:=AM
     have l1:=Paired.length G8
     have l2:=Paired.length G9
     have l5:=hG.2.2.2.2.1
     refine⟨_,rfl,_,rfl,(by show 2≤sizeLine;decide),fun p hp=>⟨(by show 1≤sizeLine;decide),fun q2 XY=>?_⟩⟩
     have s1:=au.new (o:= .tup [.int mo, .ref t2]) hp
     have s2:=s1.trans (au.new (o:= .lst [.ref p]) XY)
     have EN:=au.new (o:= .lst [.ref p]) XY _ _ (af (H:=H7) (a:=p) (o:= .tup [.int mo, .ref t2]))
     have So:(upd (upd H7 p (.tup [.int mo, .ref t2])) q2 (.lst [.ref p])) q2=some (.lst [.ref p]):=af
     generalize upd (upd H7 p (.tup [.int mo, .ref t2])) q2 (.lst [.ref p])=H8 at s2 EN So ⊢
     refine⟨_,rfl,q2,L,[.ref p],D6.map V.ref,rfl,rfl,So,s2 _ _ tZ,by rw[List.length_map];show 1+_≤_;omega,fun L2 sH=>?_⟩
     have s3:=au.new (o:= .lst ([.ref p]++D6.map V.ref)) sH
     have LM:(upd H8 L2 (.lst ([.ref p]++D6.map V.ref))) L2=some (.lst ([.ref p]++D6.map V.ref)):=af
     have Sq:=s2.trans s3
     have Sr:=s3 _ _ EN
     generalize upd H8 L2 (.lst ([.ref p]++D6.map V.ref))=H9 at Sq LM Sr ⊢
     refine⟨_,rfl,_,rfl,_,rfl,(by show 2≤sizeLine;decide),fun p' xT=>⟨(by show 1≤sizeLine;decide),fun q3 Ss=>?_⟩⟩
     have r1:=au.new (o:= .tup [.int mo, .ref t2]) xT
     have r2:=r1.trans (au.new (o:= .lst [.ref p']) Ss)
     have Su:=au.new (o:= .lst [.ref p']) Ss _ _ (af (H:=H9) (a:=p') (o:= .tup [.int mo, .ref t2]))
     have Sv:(upd (upd H9 p' (.tup [.int mo, .ref t2])) q3 (.lst [.ref p'])) q3=some (.lst [.ref p']):=af
     generalize upd (upd H9 p' (.tup [.int mo, .ref t2])) q3 (.lst [.ref p'])=Ld at r2 Su Sv ⊢
     have xU:=Sq.trans r2
     refine⟨R0,q3,Oh.map V.ref,[.ref p'],rfl,rfl,xU _ _ eh,Sv,by rw[List.length_map];show _+1≤_;omega,fun R2 ie=>?_⟩
     have r3:=au.new (o:= .lst (Oh.map V.ref++[.ref p'])) ie
     have G':=xU.trans r3
     refine hN _ _ ⟨L2,R2,[(mo,o2)]++xs,ys++[(mo,o2)],rfl,⟨[p]++D6,?_,?_⟩,⟨Oh++[p'],?_,?_⟩,(hG.a okl).mono (by decide),fun z=>absurd ev z,e7.trans G'⟩
     ·rw[List.map_append]
      exact r3 _ _ (r2 _ _ LM)
     ·exact .cons ⟨t2,r3 _ _ (r2 _ _ Sr),Sn.same (e7.trans G')⟩ (aK (fun a z h=>h.same G') G8)
     ·rw[List.map_append]
      exact af
     ·exact bS ⟨t2,r3 _ _ Su,Sn.same (e7.trans G')⟩ (aK (fun a z h=>h.same G') G9)
    ·have ev:¬c/9%3=1:=by simpa using ev
     exact hN _ _ ⟨L,R0,xs,ys,rfl,AL,AM,hG.mono (by decide),fun _=>hG,e7⟩
   clear AL AM hG
   rintro σ' H8 ⟨L,R0,xs,ys,rfl,AL,AM,Sw,hG5,e8⟩
   refine iw (fun σ' H'=>∃(L R0:Addr) (xs ys:List Tm),σ'=[some (.int c),some (.ref wl),some (.str ⟨(fL x).toArray⟩),some (.ref cd),some (.int x.2),some (.int m),some (.ref L),some (.ref R0),some (.ref t2),some (.int mo)]∧cT H' L xs∧cT H' R0 ys∧uR ws 8 xs ys∧au H H') (fun N hN=>?_) ?_
   ·refine⟨_,rfl,_,_,rfl,rfl,⟨by decide,by decide⟩,_,_,rfl,rfl,(by show (0 :Int) <3;decide),rfl,_,rfl,fG (fun ev=>?_) fun ev=>?_⟩
    ·have ev:c/9%3=2:=by simpa using ev
     have hG:=hG5 (by omega)
     obtain⟨D6,tZ,G8⟩:=AL
     obtain⟨Oh,eh,G9⟩:=AM
     have l1:=Paired.length G8
     have l2:=Paired.length G9
     have l5:=hG.2.2.2.2.1
     refine⟨_,rfl,_,rfl,_,rfl,(by show 2≤sizeLine;decide),fun p hp=>⟨_,rfl,(by show 2≤sizeLine;decide),fun p1 hp1=>⟨(by show 2≤sizeLine;decide),fun q2 XY=>?_⟩⟩⟩
     have s1:=au.new (o:= .tup [.int mo, .ref t2]) hp
     have s1':=au.new (o:= .tup [.int 1, .ref t2]) hp1
     have Oi:=au.new (o:= .lst [.ref p, .ref p1]) XY
     have s2:=(s1.trans s1').trans Oi
     have EN:=Oi _ _ (s1' _ _ (af (H:=H8) (a:=p) (o:= .tup [.int mo, .ref t2])))
     have Sx:=Oi _ _ (af (H:=upd H8 p (.tup [.int mo, .ref t2])) (a:=p1) (o:= .tup [.int 1, .ref t2]))
     have So:(upd (upd (upd H8 p (.tup [.int mo, .ref t2])) p1 (.tup [.int 1, .ref t2])) q2 (.lst [.ref p, .ref p1])) q2=some (.lst [.ref p, .ref p1]):=af
     generalize upd (upd (upd H8 p (.tup [.int mo, .ref t2])) p1 (.tup [.int 1, .ref t2])) q2 (.lst [.ref p, .ref p1])=H9 at s2 EN Sx So ⊢
     refine⟨L,q2,D6.map V.ref,[.ref p, .ref p1],rfl,rfl,s2 _ _ tZ,So,by rw[List.length_map];show _+2≤_;omega,fun L2 sH=>?_⟩
     have s3:=au.new (o:= .lst (D6.map V.ref++[.ref p, .ref p1])) sH
     have LM:(upd H9 L2 (.lst (D6.map V.ref++[.ref p, .ref p1]))) L2=some (.lst (D6.map V.ref++[.ref p, .ref p1])):=af
     have Sq:=s2.trans s3
     have Sr:=s3 _ _ EN
     have Sy:=s3 _ _ Sx
     generalize upd H9 L2 (.lst (D6.map V.ref++[.ref p, .ref p1]))=Ld at Sq LM Sr Sy ⊢
     refine⟨_,rfl,_,_,rfl,rfl,_,rfl,(by show 2≤sizeLine;decide),fun p' xT=>⟨(by show 1≤sizeLine;decide),fun q3 Ss=>?_⟩⟩
     have r1:=au.new (o:= .tup [.int (mo+1), .ref t2]) xT
     have r2:=r1.trans (au.new (o:= .lst [.ref p']) Ss)
     have Su:=au.new (o:= .lst [.ref p']) Ss _ _ (af (H:=Ld) (a:=p') (o:= .tup [.int (mo+1), .ref t2]))
     have Sv:(upd (upd Ld p' (.tup [.int (mo+1), .ref t2])) q3 (.lst [.ref p'])) q3=some (.lst [.ref p']):=af
     generalize upd (upd Ld p' (.tup [.int (mo+1), .ref t2])) q3 (.lst [.ref p'])=H11 at r2 Su Sv ⊢
     have G':=Sq.trans r2
     refine⟨_,rfl,q3,R0,[.ref p'],Oh.map V.ref,rfl,rfl,Sv,G' _ _ eh,by rw[List.length_map];show 1+_≤_;omega,fun R2 ie=>?_⟩
     have r3:=au.new (o:= .lst ([.ref p']++Oh.map V.ref)) ie
     have P1:=G'.trans r3
     refine hN _ _ ⟨L2,R2,xs++[(mo,o2),(1,o2)],[(mo+1,o2)]++ys,rfl,⟨D6++[p,p1],?_,?_⟩,⟨[p']++Oh,?_,?_⟩,hG.b XX (aS o2 XX) mo1 mo4,e8.trans P1⟩
     ·rw[List.map_append]
      exact r3 _ _ (r2 _ _ LM)
     ·exact l7 (aK (fun a z h=>h.same P1) G8) (.cons ⟨t2,r3 _ _ (r2 _ _ Sr),Sn.same (e8.trans P1)⟩ (.cons ⟨t2,r3 _ _ (r2 _ _ Sy),Sn.same (e8.trans P1)⟩ .nil))
     ·rw[List.map_append]
      exact af
     ·exact .cons ⟨t2,r3 _ _ Su,Sn.same (e8.trans P1)⟩ (aK (fun a z h=>h.same P1) G9)
    ·exact hN _ _ ⟨L,R0,xs,ys,rfl,AL,AM,Sw,e8⟩
   clear AL AM Sw hG5
   rintro σ' H9 ⟨L,R0,xs,ys,rfl,AL,AM,Sw,e9⟩
   refine⟨_,rfl,_,_,rfl,rfl,⟨by decide,by decide⟩,_,_,rfl,rfl,(by show (0 :Int) <2;decide),rfl,_,rfl,fG (fun ev=>?_) fun ev=>?_⟩
   ·exact⟨_,rfl,_,rfl,(by show 2≤sizeLine;decide),fun t hT=>q t R0 L ys xs _ af (AM.same (au.new hT)) (AL.same (au.new hT)) Sw.swap (e9.trans (au.new hT))⟩
   ·exact⟨_,rfl,_,rfl,(by show 2≤sizeLine;decide),fun t hT=>q t L R0 xs ys _ af (AL.same (au.new hT)) (AM.same (au.new hT)) Sw (e9.trans (au.new hT))⟩
theorem ll (c:Int) (all:List (Key×V)):∀(l acc:List (Key×V)),(∀q∈l,q.1∈acc.map (·.1))→(dY c acc l all).map (·.1)=acc.map (·.1)
 | [],_,_=>rfl
 |p::r,acc,h=>by
  have e:(b8 acc p.1 (c*aO all p.1)).map (·.1)=acc.map (·.1):=by
   unfold b8
   rw[mU]
   unfold jx
   rw[if_pos (h p (List.mem_cons_self ..))]
  have:=ll c all r (b8 acc p.1 (c*aO all p.1)) fun q hq=>by rw[e];exact h q (List.mem_cons_of_mem _ hq)
  rw[e] at this
  exact this
theorem Sz (t:Int) (k:Key):∀(as:List (Str×Int)) (acc:List (Key×V)),aO (a8 t acc as) k=aO acc k+t*aO (a8 1 [] as) k:=by
 have key:∀(t:Int) (as:List (Str×Int)) (acc:List (Key×V)),aO (a8 t acc as) k=aO acc k+t*(as.map fun p=>if (Sum.inr p.1 :Key)=k then p.2 else 0).sum:=by
  intro t as
  induction as with
  |nil=>intro acc;show aO acc k=_;simp
  |cons p r ih=>
   intro acc
   show aO (a8 t (b8 acc (Sum.inr p.1) (p.2*t)) r) k=_
   rw[ih,wa,List.map_cons,List.sum_cons,Int.mul_add,Int.add_assoc]
   congr 2
   split
   ·rw[Int.mul_comm]
   ·rw[Int.mul_zero]
 intro as acc
 rw[key t as acc,key 1 as []]
 show _=_+t*(0+1*_)
 rw[Int.zero_add,Int.one_mul]
theorem SA {KV:List (Key×V)} (hI:bu KV) (k:Key):aO (rP KV KV) k=aO KV k:=by
 cases e:b7 (rP KV KV) k with
 |some v=>
  have hm:=fR e
  obtain⟨q,_,Z0⟩:=List.mem_map.mp hm
  injection Z0 with e1 e2
  rw[←e2] at e
  rw[fw e,e1]
 |none=>
  rw[eD e]
  refine Classical.byContradiction fun z=>?_
  have tI:k∈KV.map (·.1):=Classical.byContradiction fun h=>z (mW h).symm
  obtain⟨q,hq,rfl⟩:=List.mem_map.mp tI
  refine mn e (List.mem_map.mpr ⟨(q.1,V.int (aO KV q.1)),List.mem_map.mpr ⟨q,List.mem_filter.mpr ⟨hq,decide_eq_true fun h=>z h.symm⟩,rfl⟩,rfl⟩)
theorem D7 (xs ys:List Tm) (k:Key):aO (iI xs ys) k=aO (aA ys) k - aO (aA xs) k:=by
 have e:aO (iI xs ys) k=aO (uv xs ys) k:=SA (BM xs ys) k
 rw[e]
 show aO (a8 (-1) (aA ys) (fF xs)) k=_
 rw[Sz]
 show _+ -1*aO (aA xs) k=_
 omega
def InK (am:List (Key×V)) (xs ys:List Tm):Prop:=(∀q∈aA xs,q.1∈am.map (·.1))∧∀q∈aA ys,q.1∈am.map (·.1)
theorem oS {am:List (Key×V)} {xs ys:List Tm} (h:InK am xs ys):∀t,(bN am xs ys t).map (·.1)=am.map (·.1)
 |0=>rfl
 |t+1=>by
  have ih:=oS h t
  have e1:=ll (-1) (aA xs) (aA xs) (bN am xs ys t) (by rw[ih];exact h.1)
  have e2:=ll 1 (aA ys) (aA ys) (dY (-1) (bN am xs ys t) (aA xs) (aA xs)) (by rw[e1,ih];exact h.2)
  show (dY 1 _ _ _).map _=_
  rw[e2,e1,ih]
theorem Hc (xs:List Tm):((aA xs).map (·.1)).Nodup:=iH _
theorem walk_z (am:List (Key×V)) (xs ys:List Tm) (k:Key):∀t:Nat,aO (bN am xs ys t) k=aO am k+t*(aO (aA ys) k - aO (aA xs) k)
 |0=>by show aO am k=_;simp
 |t+1=>by
  show aO (dY 1 _ _ _) k=_
  rw[wO 1 (Hc ys),wO (-1) (Hc xs),walk_z am xs ys k t]
  push_cast
  rw[Int.add_mul]
  omega
theorem SD {am:List (Key×V)} {xs ys:List Tm} (h:InK am xs ys):∀q∈iI xs ys,q.1∈am.map (·.1):=fun q hq=>by
 have h1:=(yD (uv xs ys) (uv xs ys)).mem (List.mem_map_of_mem (f:=(·.1)) hq)
 obtain⟨q',su,e⟩:=List.mem_map.mp h1
 rw[←e]
 refine la (Pk:=fun j=>j∈am.map (·.1)) (-1) (fF xs) (aA ys) h.2 (fun p hp=>?_) q' su
 have:=AJ 1 (fF xs) [] hp
 obtain⟨q2,h2,e2⟩:=List.mem_map.mp this
 rw[←e2]
 exact h.1 q2 h2
theorem SE (xs ys:List Tm):((iI xs ys).map (·.1)).Nodup:=Gn _ (Gp xs ys)
theorem Hd (am:List (Key×V)) (xs ys:List Tm) (T:Int) (k:Key):aO (dO am xs ys T) k=aO am k+T*aO (iI xs ys) k:=wO T (SE xs ys) am k
theorem uV {am:List (Key×V)} {xs ys:List Tm} (hI:bu am) (hn:(am.map (·.1)).Nodup) (h:InK am xs ys) (t:Nat):bN am xs ys t=dO am xs ys t:=by
 have k1:=oS h t
 have k2:(dO am xs ys t).map (·.1)=am.map (·.1):=ll _ _ _ _ (SD h)
 refine yd (rX xs ys hI t) (df _ _ _ _ hI) (by rw[k1];exact hn) (by rw[k1,k2]) fun k=>?_
 rw[walk_z]
 rw[Hd,D7]
theorem xk {th tk:List (Key×V)}:∀{l:List (Key×V)},(∀q∈l,aO tk q.1≤aO th q.1)→dh th tk l=none
 | [],_=>rfl
 |p::r,h=>by
  rw[eQ,if_neg (by have:=h p (List.mem_cons_self ..);omega)]
  exact xk fun q hq=>h q (List.mem_cons_of_mem _ hq)
theorem oU {th tk:List (Key×V)} {k:Key} {l':Int}:∀{l:List (Key×V)},dh th tk l=some (k,l')→∃q∈l,q.1=k∧l'=aO tk k - aO th k∧0<l'
 | [],h=>by cases h
 |p::r,h=>by
  rw[eQ] at h
  split at h
  ·rename_i c
   injection h with h
   injection h with h1 h2
   refine⟨p,List.mem_cons_self ..,h1,by rw[←h1,←h2],by rw[←h2];exact c⟩
  ·obtain⟨q,hq,z⟩:=oU h
   exact⟨q,List.mem_cons_of_mem _ hq,z⟩
theorem rY {a t g:Int} (h:xy a t g=none) (j:Nat):t≤a+j*g:=by
 unfold xy at h
 split at h
 ·cases h
 ·split at h
  ·rename_i h1 h2
   have:=Int.mul_nonneg (Int.natCast_nonneg j) h2
   omega
  ·cases h
theorem nF {a t g T:Int} (h:xy a t g=some T):0≤T∧(∀j:Int,0≤j→j<T→t≤a+j*g)∧a+T*g<t:=by
 unfold xy at h
 split at h
 ·injection h with h
  subst h
  exact⟨Int.le_refl _,fun j h1 h2=>by omega,by omega⟩
 ·split at h
  ·cases h
  ·rename_i h1 h2
   injection h with h
   have gp:0< -g:=by omega
   have q0:0≤(a - t) /(-g):=Int.ediv_nonneg (by omega) (by omega)
   refine⟨by omega,fun j j0 j1=>?_,?_⟩
   ·have e1:=Int.ediv_mul_le (a - t) (b:= -g) (by omega)
    have e2:j*(-g)≤(a - t) /(-g)*(-g):=Int.mul_le_mul_of_nonneg_right (by omega) (by omega)
    rw[Int.mul_neg] at e2
    omega
   ·have e1:=Int.lt_ediv_add_one_mul_self (a - t) gp
    rw[h,Int.mul_neg] at e1
    omega
theorem kA:∀{l:List (Option Int)},eP l=none→∀o∈l,o=none
 | [],_,o,ho=>by cases ho
 |none::r,h,o,ho=>by
  rcases List.mem_cons.mp ho with z|z
  ·exact z
  ·exact kA (l:=r) h o z
 |some i::r,h,o,ho=>by
  have h:(match eP r with|none=>some i|some j=>some (if j<i then j else i))=none:=h
  cases e:eP r with
  |none=>rw[e] at h;cases h
  |some j=>rw[e] at h;cases h
theorem iN:∀{l:List (Option Int)} {T:Int},eP l=some T→some T∈l∧∀i,some i∈l→T≤i
 | [],_,h=>by cases h
 |none::r,T,h=>by
  obtain⟨h1,h2⟩:=iN (l:=r) h
  refine⟨List.mem_cons_of_mem _ h1,fun i hi=>?_⟩
  rcases List.mem_cons.mp hi with z|z
  ·cases z
  ·exact h2 i z
 |some i::r,T,h=>by
  have h:(match eP r with|none=>some i|some j=>some (if j<i then j else i))=some T:=h
  cases e:eP r with
  |none=>
   rw[e] at h
   injection h with h
   subst h
   refine⟨List.mem_cons_self ..,fun j hj=>?_⟩
   rcases List.mem_cons.mp hj with z|z
   ·injection z with z;omega
   ·have:=kA e _ z
    cases this
  |some j=>
   rw[e] at h
   injection h with h
   obtain⟨h1,h2⟩:=iN e
   refine⟨?_,fun k hk=>?_⟩
   ·rw[←h]
    split
    ·exact List.mem_cons_of_mem _ h1
    ·exact List.mem_cons_self ..
   ·rw[←h]
    rcases List.mem_cons.mp hk with z|z
    ·injection z with z
     split<;>omega
    ·have:=h2 k z
     split<;>omega
theorem AN {am:List (Key×V)} {xs ys:List Tm} {n:Nat} (h:ck am xs ys n=none) (j:Nat) (hj:j<n):dh (bN am xs ys j) (aA xs) (aA xs)=none:=by
 refine xk fun q hq=>?_
 rw[walk_z]
 unfold ck at h
 cases e:uF am xs ys with
 |none=>
  have:=kA e _ (List.mem_map_of_mem hq)
  have:=rY this j
  rw[D7] at this
  exact this
 |some T=>
  rw[e] at h
  obtain⟨h1,h2⟩:=iN e
  dsimp only at h
  by_cases c:(n:Int)≤T
  ·cases e2:xy (aO am q.1) (aO (aA xs) q.1) (aO (iI xs ys) q.1) with
   |none=>
    have:=rY e2 j
    rw[D7] at this
    exact this
   |some i=>
    have hi:=h2 i (by rw[←e2];exact List.mem_map_of_mem (f:=fun q=>xy (aO am q.1) (aO (aA xs) q.1) (aO (iI xs ys) q.1)) hq)
    have:=(nF e2).2.1 j (by omega) (by omega)
    rw[D7] at this
    exact this
  ·rw[if_neg c] at h
   exfalso
   obtain⟨q',su,e3⟩:=List.mem_map.mp h1
   have hT:=nF e3
   have hl:dh (dO am xs ys T) (aA xs) (aA xs)=none:=by
    cases e4:dh (dO am xs ys T) (aA xs) (aA xs) with
    |none=>rfl
    |some p=>rw[e4] at h;cases h
   have:=oR hl q' su
   rw[Hd] at this
   omega
theorem ma {am:List (Key×V)} {xs ys:List Tm} (hI:bu am) (hn:(am.map (·.1)).Nodup) (hk:InK am xs ys) {n:Nat} {t:Int} {k:Key} {l:Int} (h:ck am xs ys n=some (t,k,l)):
  ∃t':Nat,t=t'∧t'<n∧(∀j,j<t'→dh (bN am xs ys j) (aA xs) (aA xs)=none)∧dh (bN am xs ys t') (aA xs) (aA xs)=some (k,l):=by
 unfold ck at h
 cases e:uF am xs ys with
 |none=>rw[e] at h;cases h
 |some T=>
  rw[e] at h
  obtain⟨h1,h2⟩:=iN e
  dsimp only at h
  by_cases c:(n:Int)≤T
  ·rw[if_pos c] at h;cases h
  rw[if_neg c] at h
  obtain⟨q',su,e3⟩:=List.mem_map.mp h1
  have hT:=nF e3
  obtain⟨t',rfl⟩:=Int.eq_ofNat_of_zero_le hT.1
  cases e4:dh (dO am xs ys t') (aA xs) (aA xs) with
  |none=>rw[e4] at h;cases h
  |some p=>
   rw[e4] at h
   injection h with h
   injection h with h3 h4
   injection h4 with h5 h6
   refine⟨t',h3.symm,by omega,fun j hj=>xk fun q hq=>?_,?_⟩
   ·rw[walk_z]
    cases e2:xy (aO am q.1) (aO (aA xs) q.1) (aO (iI xs ys) q.1) with
    |none=>
     have:=rY e2 j
     rw[D7] at this
     exact this
    |some i=>
     have hi:=h2 i (by rw[←e2];exact List.mem_map_of_mem (f:=fun q=>xy (aO am q.1) (aO (aA xs) q.1) (aO (iI xs ys) q.1)) hq)
     have:=(nF e2).2.1 j (by omega) (by omega)
     rw[D7] at this
     exact this
   ·rw[uV hI hn hk t',e4,←h5,←h6]
theorem xl:ax ["count"] ["count"] (aj iy):=⟨rfl,rfl,rfl,by decide+kernel,rfl,by decide+kernel,by decide+kernel⟩
theorem rZ (D:Def K mg "count_shown" "count_shown" iy ["count"]) (T:oo K mg C):bg P w K mg base 1 "count_shown" ["count"] ki:=by
 refine D.di xl (fun vs H Q E h=>?_) (fun f bA A outer s H vs Q E hr h=>?_)
 ·obtain⟨n,rfl,_⟩:=h
  rfl
 ·obtain⟨n,rfl,h1,h2,k⟩:=h
  refine⟨_,(ai
     (bG (aP dZ (pv 0) aq (aV _))
      (ao
       (aD bJ))
      aR)
    (ao
     (aD (bK jr rfl T.FG zT (aa (pv 0) ak))))),?_⟩
  refine⟨_,rfl,rfl,_,rfl,fG (fun e=>?_) fun e=>?_⟩
  ·have e:n=1:=by simpa using e
   subst e
   exact k
  ·have e:¬n=1:=by simpa using e
   refine⟨_,rfl,_,rfl,ti (by omega) (by omega),?_⟩
   unfold eZ at k
   rw[if_neg e] at k
   exact k
theorem Kw:ax ["self"] ["self"] (aj vG):=⟨rfl,rfl,rfl,by decide+kernel,rfl,by decide+kernel,by decide+kernel⟩
theorem He (D:a9 K C "shown" "Atom.shown" vG ["self"]) (T:oo K mg C) (c1:bg P w K mg base 1 "count_shown" ["count"] ki):aJ P w K mg base 2 C "shown" ["self"] (vW C):=by
 obtain⟨_,_,aY⟩:=c1
 refine D.di Kw (fun vs H Q E h=>?_) (fun f bA A outer s H vs Q E hr h=>?_)
 ·obtain⟨p,k,n,rfl,_⟩:=h
  rfl
 ·obtain⟨p,k,n,rfl,⟨dx,hp⟩,hk,h1,h2,q⟩:=h
  refine⟨_,(ao
     (aD (aE bq (a0 (pv 0) rfl) (aH aY.ok (hr.mono (by decide)) rfl aY.g aY.kp aY.b .nil ay (aa (a0 (pv 0) rfl) ak))))),?_⟩
  refine⟨_,rfl,p,C,dx,_,_,rfl,hp,T.gq,T.vX,tL _ _,_,rfl,p,C,dx,_,_,rfl,hp,T.gq,T.qZ,qW _ _,n,rfl,h1,h2,_,_,rfl,rfl,?_,q⟩
  have:=gY h1 h2
  have:(100 :Nat)≤sizeLine:=by decide
  omega
variable {uC uP uI uD uL uT eR eS eU uG uS:Tok} {Ch HE Sh St:Addr}
theorem Co {xs:List Tm} (h:∀x∈xs,pz 100000000000 x) (h8:xs.length≤8) (k:Key):0≤aO (aA xs) k∧aO (aA xs) k≤800000000000:=by
 have hP:Pos (aA xs):=qg _ _ (fun q hq=>by cases hq) fun p hp=>by
  obtain⟨z,hz,rfl⟩:=List.mem_map.mp hp
  exact(h z hz).1
 refine⟨hP.nonneg k,?_⟩
 have a1:=qd 1 100000000000 k (by decide) (fF xs) [] 0 (fun p hp=>by
  obtain⟨z,hz,rfl⟩:=List.mem_map.mp hp
  have b1:=(h z hz).1
  have b2:=(h z hz).2.1
  show -100000000000≤z.1*1∧z.1*1≤100000000000
  omega) (Int.le_refl _) (Int.le_refl _)
 have e:(fF xs).length=xs.length:=by unfold fF;rw[List.length_map]
 rw[e] at a1
 show aO (a8 1 [] (fF xs)) k≤_
 omega
theorem Kx {xs:List Tm} (h:∀x∈xs,pz 100000000000 x):∀q∈aA xs,0<aO (aA xs) q.1:=fun q hq=>by
 have hP:Pos (aA xs):=qg _ _ (fun q hq=>by cases hq) fun p hp=>by
  obtain⟨z,hz,rfl⟩:=List.mem_map.mp hp
  exact(h z hz).1
 have:=hP.one (cC _) (List.mem_map_of_mem (f:=(·.1)) hq)
 omega
theorem r8 {ws:List Fm} {xs:List Tm} (h:∀x∈xs,D5 ws x):∀q∈aA xs,∃s,q.1=Sum.inr s∧Told ws s:=
 la (Pk:=fun j=>∃s,j=Sum.inr s∧Told ws s) 1 (fF xs) [] (fun q hq=>by cases hq) fun p hp=>by
  obtain⟨z,hz,rfl⟩:=List.mem_map.mp hp
  exact⟨_,rfl,(h z hz).2⟩
structure LN (ws:List Fm) (am:List (Key×V)):Prop where
 int:bu am
 nd:(am.map (·.1)).Nodup
 told:pj ws am
 all:∀s,Told ws s→(Sum.inr s:Key)∈am.map (·.1)
 nn:∀k,0≤aO am k
 len:am.length≤30
theorem LN.inK {ws:List Fm} {am:List (Key×V)} (h:LN ws am) {xs ys:List Tm} (hx:∀x∈xs,D5 ws x) (hy:∀x∈ys,D5 ws x):InK am xs ys:=
 ⟨fun q hq=>by obtain⟨s,e,t⟩:=r8 hx q hq;rw[e];exact h.all s t,fun q hq=>by obtain⟨s,e,t⟩:=r8 hy q hq;rw[e];exact h.all s t⟩
theorem LN.add {ws:List Fm} {am:List (Key×V)} (h:LN ws am) {x:Str} (hx:Told ws x) {l:Int} (hl:0≤l):LN ws (b8 am (Sum.inr x) l):=by
 have hk:(b8 am (Sum.inr x) l).map (·.1)=am.map (·.1):=by
  unfold b8
  rw[mU]
  unfold jx
  rw[if_pos (h.all x hx)]
 refine⟨h.int.add _ _,by rw[hk];exact h.nd,h.told.put hx _,fun s hs=>by rw[hk];exact h.all s hs,fun k=>?_,?_⟩
 ·rw[wa]
  have:=h.nn k
  split<;>omega
 ·have:=congrArg List.length hk
  rw[List.length_map,List.length_map] at this
  rw[this]
  exact h.len
theorem D8 {ws:List Fm} {am:List (Key×V)} (h:LN ws am) {xs ys:List Tm} (hG:uR ws 8 xs ys) {n:Nat} (hn:n≤12) {t:Int} {k:Key} {l:Int} (hs:ck am xs ys n=some (t,k,l)):0≤t+1∧t+1<10^50∧0≤l∧l<10^50:=by
 obtain⟨h1,h2,h3,h4,h5,h6⟩:=hG
 obtain⟨t',rfl,ht,_,hl⟩:=ma h.int h.nd (h.inK h3 h4) hs
 obtain⟨q,hq,e1,e2,e3⟩:=oU hl
 have b1:=Co (fun x hx=>(h3 x hx).1) (by omega) k
 have b2:=Co (fun x hx=>(h4 x hx).1) (by omega) k
 have b3:=h.nn k
 rw[walk_z,Int.mul_sub] at e2
 have m1:(0 :Int)≤t'*aO (aA ys) k:=Int.mul_nonneg (Int.natCast_nonneg _) b2.1
 have m2:(t':Int)*aO (aA xs) k≤12*800000000000:=Int.mul_le_mul (by omega) b1.2 b1.1 (by decide)
 refine⟨by omega,by omega,by omega,?_⟩
 omega
theorem Ky {am:List (Key×V)} {xs ys:List Tm} {t t':Nat} {k k':Key} {l l':Int} (h1:∀j,j<t→dh (bN am xs ys j) (aA xs) (aA xs)=none) (h2:dh (bN am xs ys t) (aA xs) (aA xs)=some (k,l)) (h3:∀j,j<t'→dh (bN am xs ys j) (aA xs) (aA xs)=none) (h4:dh (bN am xs ys t') (aA xs) (aA xs)=some (k',l')):t=t'∧k=k'∧l=l':=by
 have e:t=t':=by
  rcases Nat.lt_trichotomy t t' with c|c|c
  ·rw[h3 t c] at h2;cases h2
  ·exact c
  ·rw[h1 t' c] at h4;cases h4
 subst e
 rw[h2] at h4
 injection h4 with h4
 injection h4 with h5 h6
 exact⟨rfl,h5,h6⟩
def Lo (l:List Nat):Prop:=∀c∈l,c<128
theorem Lo.app {a b:List Nat} (ha:Lo a) (hb:Lo b):Lo (a++b):=fun c hc=>by
 rcases List.mem_append.mp hc with z|z
 ·exact ha c z
 ·exact hb c z
theorem Lo.cons {a:Nat} {b:List Nat} (ha:a<128) (hb:Lo b):Lo (a::b):=fun c hc=>by
 rcases List.mem_cons.mp hc with z|z
 ·rw[z];exact ha
 ·exact hb c z
theorem Lo.nil:Lo []:=fun c hc=>by cases hc
theorem Lo.flat {α:Type} {f:α→List Nat} {l:List α} (h:∀x∈l,Lo (f x)):Lo (l.flatMap f):=fun c hc=>by
 obtain⟨x,hx,hc⟩:=List.mem_flatMap.mp hc
 exact h x hx c hc
theorem sf {n:Int} (h:0≤n):Lo (aQ n):=fun c hc=>by
 obtain⟨m,rfl⟩:=Int.eq_ofNat_of_zero_le h
 have:=List.all_eq_true.mp (pV m) c hc
 unfold xw at this
 simp at this
 omega
theorem Cp {k:List Nat} (h:lS k):Lo k:=by
 obtain⟨c,r,rfl,hc,hr,_⟩:=h
 refine Lo.cons (by unfold Eo at hc;simp at hc;omega) fun x hx=>?_
 have:=List.all_eq_true.mp hr x hx
 unfold En at this
 simp at this
 omega
theorem xm:∀(d:Nat) (t:Tr),tV d t→Lo (cn d t)
 |d, .one k n,h=>by
  have h:lS k∧1≤n∧n≤999:=by cases d<;>exact h
  have e:cn d (.one k n)=k++aQ n:=by cases d<;>rfl
  rw[e]
  exact(Cp h.1).app (sf (by omega))
 |0, .gr _ _,h=>h.elim
 |d+1, .gr ts n,h=>by
  obtain⟨_,h1,n1,_⟩:=h
  show Lo (40::(ts.flatMap (cn d)++41::aQ n))
  exact Lo.cons (by decide) ((Lo.flat fun t ht=>xm d t (h1 t ht)).app (Lo.cons (by decide) (sf (by omega))))
theorem LO {x:Fm} (h:cS x):Lo (fL x):=by
 obtain⟨h,_,_⟩:=h
 obtain⟨xs,n⟩:=x
 cases xs with
 |nil=>exact Lo.cons (by decide) (Lo.cons (by decide) (Lo.cons (by decide) Lo.nil))
 |cons y r=>
  obtain⟨_,h2,n1,n2⟩:=h
  have h2:∀z∈y::r,Fl 1 z:=h2
  show Lo (y.2.flatMap (cn 1)++(cX 1 r++jh n))
  refine(Lo.flat fun t ht=>xm 1 t ((h2 y (List.mem_cons_self ..)).2.1 t ht)).app ((Lo.flat fun z hz=>?_).app ?_)
  ·have oz:=h2 z (List.mem_cons_of_mem _ hz)
   exact Lo.cons (by decide) ((sf (by have:=oz.2.2.1;omega)).app (Lo.flat fun t ht=>xm 1 t (oz.2.1 t ht)))
  ·unfold jh
   split
   ·exact Lo.nil
   ·refine Lo.cons (by decide) ((sf (by split<;>omega)).app (Lo.cons (by split<;>decide) Lo.nil))
theorem LP {B:Int} {x:Tm} (h:pz B x):Lo (gL x):=by
 unfold gL
 refine(sf (by have:=h.1;omega)).app (Lo.app ?_ (LO h.2.2))
 unfold xS
 split
 ·exact Lo.nil
 ·exact Lo.cons (by decide) Lo.nil
theorem LQ {B:Int}:∀{xs:List Tm},(∀x∈xs,pz B x)→Lo (sx xs)
 | [],_=>Lo.nil
 |x::r,h=>(LP (h x (List.mem_cons_self ..))).app (Lo.flat fun y hy=>(Lo.cons (by decide) (Lo.cons (by decide) (Lo.cons (by decide) Lo.nil))).app (LP (h y (List.mem_cons_of_mem _ hy))))
theorem sh {x:Str} (h:Lo x.cps.toList):PyData.strOk x=true:=by
 show x.cps.all (· <0x110000)=true
 rw[←Array.all_toList,List.all_eq_true]
 intro c hc
 have:=h c hc
 exact decide_eq_true (by omega)
theorem Oj {x:Str} {xs ys:List Tm} (h:AD x xs ys):PyData.strOk x=true:=by
 obtain⟨h1,_,_,h2,h3,_⟩:=h
 refine sh ?_
 rw[h1]
 exact((LQ h2).app (Lo.cons (by decide) (Lo.cons (by decide) (Lo.cons (by decide) (Lo.cons (by decide) Lo.nil))))).app (LQ h3)
theorem Hf {ws:List Fm} (aS:∀w∈ws,cS w) {s:Str} (h:Told ws s):PyData.strOk s=true:=by
 rcases h with rfl| ⟨w,hw,rfl⟩ | ⟨w,hw,h⟩
 ·decide+kernel
 ·exact sh (LO (aS w hw))
 ·obtain⟨q,hq,e⟩:=List.mem_map.mp h
  obtain⟨k,hk,e'⟩:=wR (aS w hw) q hq
  rw[e] at e'
  injection e' with e'
  rw[e']
  exact sh (Cp hk)
theorem Cq {rs:List jJ} (h:∀r∈rs,PyData.strOk r.x=true):SeqAt.shaped (kz rs)=true∧PyData.eqv (kz rs) (kz rs)=true:=by
 have hc:(kz rs).canLay0=true:=by
  unfold kz
  rw[PyData.canLay0]
  exact qK _ rs fun r hr=>by simp [PyData.canLay0,PyData.canLayAll0,h r hr]
 refine⟨n5 hc ?_,mw _ hc⟩
 have:∀l:List jJ,PyData.depthAll (l.map fun r=>PyData.tuple [.str r.x, .int r.m])≤5:=fun l=>by
  induction l with
  |nil=>simp [PyData.depthAll]
  |cons r l ih=>simp [PyData.depthAll,PyData.depth];omega
 have:=this rs
 simp only [kz,PyData.depth]
 omega
structure SF (K:PySem.W.Frag) (mg:Str→Option Value) (C R G Pc Fo St:Addr) (uK uN uB uE uM uC uP uI uD uL uT:Tok):Prop extends pD K mg C R G Pc Fo St uK uN uB uE uM uC uP uI uD uL uT where
 ky:mg "enumerate" =none
variable {uC uP uI uD uL uT eR eS eU uG uS:Tok} {Ch HE Sh St:Addr}
def Cr (K:PySem.W.Frag):Sp:=fun vs H Q _=>∃(a:Addr) (ns:List Int),vs=[.ref a]∧b5 K H a (ns.map V.int)∧ns.length≤63∧∀H',Q (.bl true) H'
theorem gB:ax ["_law_script","_law_world_here","_law_lefts","_law_rights","_law_text_here","_law_amounts_here","_law_k","_law_one","_law_cell","_law_times","_law_bare","_law_store","_law_went","_law_due","_law_told"] ["_law_script"] (aj vQ):=⟨rfl,rfl,rfl,by decide+kernel,rfl,by decide+kernel,by decide+kernel⟩
theorem D9 {H H':Hp} {st dx St:Addr} (s:au H H') (h1:H' st=none) (h2:H' dx=none):au H (upd (upd H' dx (.own st)) st (.ins St dx [])):=fun b o z=>by
 rw[ah (ag (s _ _ z) h1),ah (ag (s _ _ z) h2)]
 exact s _ _ z
theorem Ol {f:Addr} {fd:FuncData} (F:Ej K "law" "law" vQ f fd) (T:SF K mg C R G Pc Fo St uK uN uB uE uM uC uP uI uD uL uT)
  (c1:bg P w K mg base 3 "_law_world" ["_law_script"] (B6 K)) (c2:bg P w K mg base 1 "_law_texts" ["_law_world_here"] B8) (c3:bg P w K mg base 1 "_law_cell_at" ["_law_script","_law_k"] (qX K)) (c4:bg P w K mg base 1 "_law_change" ["_law_cell","_law_world_here"] uU) (c5:Fv P w K mg base qB 14 St ["self","amounts"] (BV St)) (c6:bg P w K mg base 1 "_law_text" ["_law_lefts","_law_rights"] Ce) (c7:aJ P w K mg base 13 St "put" ["self","text","many"] (GI St)) (c8:bg P w K mg base 2 "_law_walked" ["_law_amounts_here","_law_lefts","_law_rights","_law_times"] yZ) (c9:bg P w K mg base 19 "_law_gone" ["_law_store","_law_text_here","_law_times","_law_bare"] (GW C G Pc Fo Ch Sh St)) (c10:bg P w K mg base 13 "_law_same" ["_law_store","_law_amounts_here","_law_went"] (Cc St)):
  fe P w K mg base qB 20 f fd ["_law_script"] (Cr K):=by
 obtain⟨_,_,lq⟩:=c1
 obtain⟨_,_,lu⟩:=c2
 obtain⟨_,_,aM⟩:=c3
 obtain⟨_,_,jQ⟩:=c4
 obtain⟨_,_,bQ⟩:=c5
 obtain⟨_,_,nG⟩:=c6
 obtain⟨_,_,dS⟩:=c7
 obtain⟨_,_,jR⟩:=c8
 obtain⟨_,_,nH⟩:=c9
 obtain⟨_,_,gj⟩:=c10
 have Ea:=bQ.b0
 have P2:=bQ.b1
 have Eb:Vals [] []:= .nil
 have P4:=Y2
 refine F.ok gB (fun vs H Q E h=>?_) (fun bA A outer s H vs Q E hr h=>?_)
 ·obtain⟨a,ns,rfl,_⟩:=h
  rfl
 ·obtain⟨a,ns,rfl,hS,hlen,q⟩:=h
  have hu:=dz hr
  have RT:=hr.nX
  have Kp:=hr.units
  have big:(2000 :Nat)≤sizeLine:=by decide
  refine⟨_,(ai
     (aB (i:=1) gB.nd rfl (Or.inl rfl) (aH lq.ok (hr.mono (by decide)) rfl lq.g lq.kp lq.b .nil ay (aa (pv 0) ak)))
    (ai
     (EE (aH jQ.ok (hr.mono (by decide)) rfl jQ.g jQ.kp jQ.b .nil ay (aa (aH aM.ok (hr.mono (by decide)) rfl aM.g aM.kp aM.b .nil ay (aa (pv 0) (aa aq ak))) (aa (pv 1) ak))) (gS rfl (bo (aG (i:=2) gB.nd rfl (Or.inl rfl)) (bo (aG (i:=3) gB.nd rfl (Or.inl rfl)) dW))))
    (ai
     (aB (i:=4) gB.nd rfl (Or.inl rfl) (aH nG.ok (hr.mono (by decide)) rfl nG.g nG.kp nG.b .nil ay (aa (pv 2) (aa (pv 3) ak))))
    (ai
     (aB (i:=5) gB.nd rfl (Or.inl rfl) dw)
    (ai
     (bW PassesOwn.never rfl (Bc rfl T.ky (aa (aH lu.ok (hr.mono (by decide)) rfl lu.g lu.kp lu.b .nil ay (aa (pv 1) ak)) ak)) (gS rfl (bo (aG (i:=6) gB.nd rfl (Or.inl rfl)) (bo (aG (i:=7) gB.nd rfl (Or.inl rfl)) dW)))
      (ai
       (aB (i:=8) gB.nd rfl (Or.inl rfl) (aH aM.ok (hr.mono (by decide)) rfl aM.g aM.kp aM.b .nil ay (aa (pv 0) (aa (aE cf aq (pv 6)) ak))))
      (ao
       (cQ hu (pv 5) (pv 7) (aE cK (aE cY (pv 8) aq) (cE cZ (cD (aa aq (aa (aE Mz aq aq) ak))) (bK nU rfl T.yc qG (aa (ip dZ (aE cK (aH aM.ok (hr.mono (by decide)) rfl aM.g aM.kp aM.b .nil ay (aa (pv 0) (aa aq ak))) aq) aq (aV _)) ak)) (fun _ _=>rfl))) rfl))))
    (ai
     (aB (i:=9) gB.nd rfl (Or.inl rfl) (aE cK (aE cY (aH aM.ok (hr.mono (by decide)) rfl aM.g aM.kp aM.b .nil ay (aa (pv 0) (aa aq ak))) aq) aq))
    (ai
     (aB (i:=10) gB.nd rfl (Or.inl rfl) (Jw (vc (ip dZ (pv 9) aq (aV _)) (qp (ip dZ (aE cK (aH aM.ok (hr.mono (by decide)) rfl aM.g aM.kp aM.b .nil ay (aa (pv 0) (aa aq ak))) aq) aq (aV _))))))
    (ai
     (aB (i:=11) gB.nd rfl (Or.inl rfl) (fV bQ.m bQ.ok (hr.mono (by decide)) rfl T.J7 Ea Eb ay (aa (bK lO rfl T.jF iu (aa (pv 5) ak)) ak)))
    (ai
     (aB (i:=12) gB.nd rfl (Or.inl rfl) (cD ak))
    (ai
     (bW PassesOwn.never rfl (gP rfl T.kS (aa aq ak)) (aG (i:=6) gB.nd rfl (Or.inl rfl))
      (ai
       (aB (i:=13) gB.nd rfl (Or.inl rfl) (aH jR.ok (hr.mono (by decide)) rfl jR.g jR.kp jR.b .nil ay (aa (pv 5) (aa (pv 2) (aa (pv 3) (aa (pv 9) ak))))))
      (ai
       (aB (i:=14) gB.nd rfl (Or.inl rfl) (aH nH.ok (hr.mono (by decide)) rfl nH.g nH.kp nH.b .nil ay (aa (pv 11) (aa (pv 4) (aa (pv 9) (aa (pv 10) ak))))))
      (ai
       (bG (cJ (br ir rfl T.bx bh (aa (pv 13) (aa (mf (v:= .ty "dict") rfl T.jF iu rfl) ak))))
        (ao
         (aD (vc (ip (E6 Kp) (pv 14) (bP (aa aq (aa jS ak))) (aV _)) (qp (aH gj.ok (hr.mono (by decide)) rfl gj.g gj.kp gj.b .nil ay (aa (pv 11) (aa (pv 13) (aa (cD (aa (bP (aa (pv 4) (aa (pv 9) ak))) ak)) ak))))))))
        aR)
      (ai
       (bG (PW.pt (il (aP (MS Kp) (pv 14) (aE IK (bP (aa aq (aa aq ak))) (pv 13)) (aV _)) (jZ (jo (cJ (aH gj.ok (hr.mono (by decide)) rfl gj.g gj.kp gj.b .nil ay (aa (pv 11) (aa (pv 5) (aa (pv 12) ak)))))))))
        (ao
         (aD jS))
        aR)
      (ai
       (bG (qo (u9 (bU (pv 11) T.bQ dS.m dS.ok (hr.mono (by decide)) dS.b .nil ay (aa (cE gW (pv 13) aq (fun _ _=>rfl)) (aa (cE gW (pv 13) aq (fun _ _=>rfl)) ak)))))
        (ao
         (aD jS))
        aR)
      (ao
       (cQ hu (pv 5) (cE gW (pv 13) aq (fun _ _=>rfl)) (aE cf (bR hu (pv 5) (cE gW (pv 13) aq (fun _ _=>rfl)) aq ⟨rfl,rfl,rfl,rfl⟩) (cE gW (pv 13) aq (fun _ _=>rfl))) rfl))))))))
    (ao
     (aD jS)))))))))))),?_⟩
  refine⟨_,rfl,a,ns,rfl,hS,hlen,fun wl ws H1 hW aS AH h3 e1=>?_⟩
  refine⟨_,rfl,a,ns,6,rfl,e1.seq hS,hlen,fun n6=>⟨_,rfl,n6,wl,ws,rfl,hW,aS,AH,h3,fun t0 l r xs ys H2 ht0 AL AM hG e2=>?_⟩⟩
  refine⟨t0,_,rfl,iX.of ht0,rfl,_,_,rfl,_,_,rfl,rfl,?_⟩
  obtain⟨g1,g2,g3,g4,g5,g6⟩:=id hG
  have w40:∀{z:Tm},D5 ws z→pz (10^40) z:=fun {z} h=>⟨h.1.1,Int.le_trans h.1.2.1 (by decide),h.1.2.2⟩
  refine⟨_,rfl,_,rfl,l,r,xs,ys,rfl,AL,AM,fun x hx=>w40 (g3 x hx),fun x hx=>w40 (g4 x hx),by omega,by omega,fun H3 e3=>?_⟩
  have XZ:=hG.ev
  generalize Txt.join " -> " [uk xs,uk ys]=tx at XZ ⊢
  have LJ:=(e1.trans e2).trans e3
  have Kn:=LJ.seq hS
  have hW3:=(hW.same e2).same e3
  have hTL3:=AL.same e3
  have hTR3:=AM.same e3
  clear hW hS AL AM ht0 e1 e2 e3
  refine fun am wZ=>?_
  have s4:=au.new (o:= .dK []) wZ
  dsimp only [du]
  refine⟨_,rfl,wl,ws,rfl,hW3.same s4,aS,h3,fun tl us H5 AA PJ xN hu1 hu2 e5=>?_⟩
  have DZ:=e5 _ _ (af (H:=H3) (a:=am) (o:= .dK []))
  have e35:=s4.trans e5
  have nta:tl≠am:=cI AA DZ (by intro z;cases z)
  refine⟨tl,rfl,⟨_,b5.of AA⟩,xY (K:=K) (a:=tl) (xs:=us.map V.str) (fun i σ H'=>∃(kvs:List (Key×V)) (v6 v7 v8:Option V),σ=[some (.ref a),some (.ref wl),some (.ref l),some (.ref r),some (.str tx),some (.ref am),v6,v7,v8,none,none,none,none,none,none]∧H' am=some (.dK kvs)∧H' tl=some (.lst (us.map V.str))∧bu kvs∧(kvs.map (·.1)).Nodup∧pj ws kvs∧(∀s∈us.take i,(Sum.inr s:Key)∈kvs.map (·.1))∧(∀k,0≤aO kvs k)∧kvs.length≤i∧au H3 H') ?_ (fun i σ H' ⟨_,_,_,_,_,_,z,_⟩=>b5.of z) ?_ ?_⟩
  ·exact⟨[],none,none,none,rfl,DZ,AA,(fun p hp=>by cases hp),List.nodup_nil,(fun p hp=>by cases hp),(fun p hp=>by cases hp),fun k=>Int.le_refl _,Nat.le_refl _,e35⟩
  ·rintro i v p σ H' hi hp ⟨kvs,v6,v7,v8,rfl,yX,htl',hI,hn,hT,tI,P5,hl,e⟩
   rw[List.getElem?_map] at hi
   obtain⟨x,hx,rfl⟩:∃p,us[i]? =some p∧v=V.str p:=by
    cases hh:us[i]? with
    |none=>rw[hh] at hi;cases hi
    |some p=>rw[hh] at hi;exact⟨p,rfl,(Option.some.inj hi).symm⟩
   have xW:i<us.length:=(List.getElem?_eq_some_iff.mp hx).1
   have SH:=PJ x (List.mem_of_getElem? hx)
   have s6:=au.new (o:= .tup [.int i, .str x]) hp
   have Ec:=s6 _ _ yX
   have Kz:=s6 _ _ htl'
   have e6:=e.trans s6
   refine⟨p,_,rfl,iX.of af,rfl,_,_,rfl,_,_,rfl,rfl,?_⟩
   generalize upd H' p (.tup [.int i, .str x])=H6 at Ec Kz e6 ⊢
   have ek:(8 :Int)+(i:Int)=((8+i:Nat):Int):=by omega
   refine⟨_,rfl,_,rfl,_,_,rfl,rfl,a,ns,8+i,by rw[←ek];rfl,e6.seq Kn,hlen,fun n8=>?_⟩
   refine⟨_,rfl,_,_,rfl,rfl,⟨by decide,by decide⟩,_,_,rfl,rfl,⟨by decide,by decide,by decide⟩,(by show 2≤sizeLine;decide),fun y hy=>?_⟩
   have s7:=au.new (o:= .lst [V.int 61,V.int (10^(30 :Int).toNat)]) hy
   have AO:=s7 _ _ Ec
   have SI:=s7 _ _ Kz
   have e7:=e6.trans s7
   have hy7:(upd H6 y (.lst [V.int 61,V.int (10^(30 :Int).toNat)])) y=some (.lst [V.int 61,V.int (10^(30 :Int).toNat)]):=af
   dsimp only
   generalize upd H6 y (.lst [V.int 61,V.int (10^(30 :Int).toNat)])=H7 at AO SI e7 hy7 ⊢
   refine⟨_,rfl,a,ns,7,rfl,e7.seq Kn,hlen,fun n7=>?_⟩
   obtain⟨z,z0,JQ⟩:∃z:Int,0<z∧zP [V.int 61,V.int (10^(30 :Int).toNat)] (if decide (V.int (n7%4)=V.int 1)=true then 1 else 0)=some (V.int z):=by
    split
    ·exact⟨_,by decide,rfl⟩
    ·exact⟨_,by decide,rfl⟩
   refine⟨_,_,rfl,rfl,(by show (0 :Int) <4;decide),rfl, .inr ⟨_,rfl,y,_,_,V.int z,rfl,rfl,b5.of hy7,JQ,_,_,rfl,rfl,z0,?_⟩⟩
   have sC:(putK kvs (Sum.inr x) (V.int (n8/4%z))).length≤kvs.length+1:=bY _ _ _
   refine⟨_,rfl,_,rfl,am,_,rfl,i0.k (k:=Sum.inr x) AO (by omega),?_⟩
   refine⟨_,_,_,_,rfl,af,by rw[ah nta];exact SI,hI.put _ _,vS hn,hT.put SH _,fun s hs=>?_,fun k=>?_,Nat.le_trans (bY _ _ _) (by omega),fun b o z=>?_⟩
   ·rw[take_snoc hx] at hs
    rcases List.mem_append.mp hs with hs|hs
    ·exact gf (tI s hs)
    ·have es:s=x:=by simpa using hs
     rw[es]
     exact qf _ _ _
   ·rw[iF]
    split
    ·exact Int.emod_nonneg _ (by omega)
    ·exact P5 k
   ·rw[ah (ag z wZ)]
    exact e7 _ _ z
  rintro σ H6 ⟨kvs,v6,v7,v8,rfl,Ec,Kz,hI,hn,hT,tI,P5,hl,e6⟩
  rw[List.length_map] at tI hl
  rw[List.take_length] at tI
  have hA:LN ws kvs:=⟨hI,hn,hT,fun s hs=>tI s (xN s hs),P5,by omega⟩
  clear tI P5 hl Kz AA xN PJ DZ e35 e5 s4
  refine⟨_,rfl,a,ns,7,rfl,e6.seq Kn,hlen,fun n7=>⟨_,_,rfl,rfl,⟨by decide,by decide⟩,_,_,rfl,rfl,(by show (0 :Int) <13;decide),?_⟩⟩
  have t0:0≤n7/4%13:=Int.emod_nonneg _ (by decide)
  have t1:n7/4%13<13:=Int.emod_lt_of_pos _ (by decide)
  obtain⟨n,en⟩:∃n:Nat,n7/4%13=n:=⟨_,(Int.toNat_of_nonneg t0).symm⟩
  have SJ:n≤12:=by omega
  dsimp only [du]
  rw[en]
  clear t0 t1 en
  refine⟨fun x H'=>∃b:Bool,x= .bl b∧(b=true→(n:Int)=1)∧H6=H',⟨_,rfl,rfl,_,rfl,fG (fun eb=>?_) fun _=>⟨false,rfl,(by intro z;cases z),rfl⟩⟩,?_⟩
  ·have eb:(n:Int)=1:=by simpa using eb
   exact⟨_,rfl,a,ns,7,rfl,e6.seq Kn,hlen,fun n7=>⟨_,_,rfl,rfl,(by show (0 :Int) <2;decide),rfl,_,rfl,fun _=>eb,rfl⟩⟩
  rintro _ _ ⟨bare,rfl,yV,rfl⟩
  refine⟨_,rfl,am,_,rfl, .inl Ec,fun Mq P5=>?_⟩
  have s7:=au.new (o:= .dK kvs) P5
  have AO:=s7 _ _ Ec
  have hh7:(upd H6 Mq (.dK kvs)) Mq=some (.dK kvs):=af
  have e7:=e6.trans s7
  generalize upd H6 Mq (.dK kvs)=H7 at AO hh7 e7 ⊢
  refine fun st dx nst RX nds=>?_
  have nas:am≠st:=ag AO nst
  have s8:au H7 (upd (upd H7 dx (.own st)) st (.ins St dx [])):=D9 (au.refl _) nst RX
  have Om:=s8 _ _ AO
  have hh8:=s8 _ _ hh7
  have e8:=e7.trans s8
  refine⟨st,dx, .ref Mq,kvs,rfl,af, .inr ⟨Mq,rfl,hh8⟩,hA.int,hA.nd,fun q hq=>?_,by have:=hA.len;omega,fun d g H9 nd ng Aj hSt hd hg k9=>⟨rfl,?_⟩⟩
  ·obtain⟨s,es,hs⟩:=hA.told q hq
   exact⟨s,es,oN aS hs⟩
  have SK:=k9 _ _ Om nas
  have Nq:d≠am:=fun z=>by rw[z,Om] at nd;cases nd
  have Ik:H3 d=none:=none_back e8 nd
  have e9:au H3 H9:=fun b o z=>k9 _ _ (e8 _ _ z) (ag (e7 _ _ z) nst)
  clear Om hh8 hh7 AO s8 s7 e8 e7 Ec e6 k9 nd
  obtain⟨dP,SM⟩:=hSt
  refine⟨(by show 0≤sizeLine;decide),fun wt P6=>?_⟩
  have xU:=au.new (o:= .lst []) P6
  have uW:(upd H9 wt (.lst [])) wt=some (.lst []):=af
  have lJ:=xU _ _ SM
  have Ed:=xU _ _ hd
  have Hg:=xU _ _ hg
  have uX:=xU _ _ SK
  have LK:=e9.trans xU
  have ngw:g≠wt:=ag hg P6
  generalize upd H9 wt (.lst [])=Ld at uW lJ Ed Hg uX LK ⊢
  clear SM hd hg SK e9 P6 xU
  have nsd:st≠d:=cI lJ Ed (by intro z;cases z)
  have RZ:st≠am:=cI lJ uX (by intro z;cases z)
  have nsw:st≠wt:=cI lJ uW (by intro z;cases z)
  have ngd:g≠d:=cI Hg Ed (by intro z;cases z)
  have Z3:g≠am:=cI Hg uX (by intro z;cases z)
  have nwd:wt≠d:=cI uW Ed (by intro z;cases z)
  have nwa:wt≠am:=cI uW uX (by intro z;cases z)
  dsimp only [du]
  refine⟨_,rfl,by decide,by decide,kE (fun i σ H'=>∃(kvs:List (Key×V)) (v6 v13 v14:Option V),σ=[some (.ref a),some (.ref wl),some (.ref l),some (.ref r),some (.str tx),some (.ref am),v6,v7,v8,some (.int n),some (.bl bare),some (.ref st),some (.ref wt),v13,v14]∧H' st=some (.ins St dP (yL d g))∧H' d=some (.dK kvs)∧H' g=some (.lst [])∧H' am=some (.dK kvs)∧H' wt=some (.lst [])∧LN ws kvs∧au H3 H') ⟨kvs,_,_,_,rfl,lJ,Ed,Hg,uX,uW,hA,LK⟩ ?_ ?_⟩
  ·clear lJ Ed Hg uX uW hA LK hI hn hT kvs
   rintro i σ H' hi ⟨kvs,v6,v13,v14,rfl,fI,hd,hg,yX,P6,hA,e⟩
   have hlenA:=hA.len
   have hIn:=hA.inK g3 g4
   have IC:∀q∈kvs,∃x,q.1=Sum.inr x∧uy x:=fun q hq=>by
    obtain⟨s,es,hs⟩:=hA.told q hq
    exact⟨s,es,oN aS hs⟩
   have hbd:∀t k l,ck kvs xs ys n=some (t,k,l)→0≤t+1∧t+1<10^50∧0≤l∧l<10^50:=fun t k l z=>D8 hA hG SJ z
   refine⟨_,rfl,_,rfl,_,rfl,_,rfl,am,l,r,n,kvs,xs,ys,rfl,yX,hA.int,by omega,hTL3.same e,hTR3.same e,fun x hx=>(g3 x hx).1.2.2,fun x hx=>(g4 x hx).1.2.2,by omega,by omega,SJ,Kx fun x hx=>(g3 x hx).1,fun t k l' tt H7 htn hjn uH AF e7=>?_,fun xN e0 H7 ne0 pA e7=>?_⟩
   ·refine⟨_,rfl,_,rfl,_,rfl,_,rfl,st,d,g,kvs,[],⟨xs,ys,tx,n⟩,bare,rfl,yV,⟨dP,e7 _ _ fI⟩,e7 _ _ hd,e7 _ _ hg,hA.int,by omega,Nat.zero_le _,XZ,hbd,fun hs=>?_,fun t2 x l2 t3 H8 hs X0 e8=>?_⟩
    ·have:=AN hs t htn
     rw[uH] at this
     cases this
    obtain⟨t4,et4,h41,h42,h43⟩:=ma hA.int hA.nd hIn hs
    obtain⟨rfl,rfl,rfl⟩:=Ky hjn uH h42 h43
    obtain⟨qk,hqk,eqk,_,Xy⟩:=oU uH
    obtain⟨x',P9,SH⟩:=r8 g3 qk hqk
    rw[eqk] at P9
    injection P9 with P9
    subst P9
    have e78:=e7.trans e8
    have Oo:=e8 _ _ AF
    have hsx:=Hf aS SH
    refine⟨_,rfl,_,_,_,_,_,rfl,rfl, .tup Oo,E4 (by decide+kernel) (by decide+kernel) (by decide+kernel),_,rfl,cH ?_⟩
    have hc:(PyData.tuple [.int 1, .int 0, .int ((t:Int)+1), .str x, .int l']).canLay0=true:=by simp [PyData.canLay0,PyData.canLayAll0,hsx]
    have Ie:=n5 hc (by simp [PyData.depth,PyData.depthAll])
    refine⟨_,rfl,(by show 2≤sizeLine;decide),fun p hp=>?_⟩
    have s9:=au.new (o:= .tup [.int 1, .int 0]) hp
    refine⟨_,rfl,p,tt,_,_,rfl,rfl,iX.of af,iX.of (s9 _ _ Oo),(by intro z;cases z),(by show 2+3≤sizeLine;decide),(by intro z;cases z),fun _ p2 EN=>?_⟩
    have xU:=s9.trans (au.new (o:= .tup ([.int 1, .int 0]++[.int ((t:Int)+1), .str x, .int l'])) EN)
    have SQ:(upd (upd H8 p (.tup [.int 1, .int 0])) p2 (.tup ([.int 1, .int 0]++[.int ((t:Int)+1), .str x, .int l']))) p2=some (.tup [.int 1, .int 0, .int ((t:Int)+1), .str x, .int l']):=af
    dsimp only [kV]
    generalize upd (upd H8 p (.tup [.int 1, .int 0])) p2 (.tup ([.int 1, .int 0]++[.int ((t:Int)+1), .str x, .int l']))=H9 at xU SQ ⊢
    have rd:∀{b:Addr},H9 b=some (.tup [.int 1, .int 0, .int ((t:Int)+1), .str x, .int l'])→El K H9 (.ref b) (PyData.tuple [.int 1, .int 0, .int ((t:Int)+1), .str x, .int l']):=fun h=> .tup (iX.of h) (.cons (.int _) (.cons (.int _) (.cons (.int _) (.cons (.str _) (.cons (.int _) .nil)))))
    have SR:=xU _ _ X0
    rw[et4] at SR
    have e9:=e78.trans xU
    refine⟨_,_,rd SR,rd SQ,Ie,Ie,_,rfl,?_⟩
    rw[mw _ hc]
    refine cH ?_
    have SS:=Cq (rs:=[]) fun r hr=>by cases hr
    refine⟨_,rfl,_,rfl,_,rfl,st,d,g,am,wt,kvs,[],[],[],rfl,⟨dP,e9 _ _ fI⟩,e9 _ _ hd,e9 _ _ yX,Nq,hA.int,hA.nd,IC,by omega,e9 _ _ hg, .nil,e9 _ _ P6, .nil,Nat.zero_le _,SS.1,SS.2,fun Ld LK=>⟨_,rfl,cH ?_⟩⟩
    have AQ:=e9.trans LK
    have Cs:=LK _ _ (xU _ _ Oo)
    have lJ:=AQ _ _ fI
    refine⟨_,rfl,st,dP,_,rfl,lJ,jI _ _ (by decide+kernel) (by decide+kernel),_,rfl,tt,_,_,V.str x,rfl,rfl,iX.of Cs,rfl,_,rfl,tt,_,_,V.int l',rfl,rfl,iX.of Cs,rfl,st,d,g,x,l',kvs,rfl,⟨dP,lJ⟩,AQ _ _ hd,hA.int,by omega,oN aS SH,fun H11 kp hd11=>?_⟩
    refine⟨_,rfl,cH ?_⟩
    have ntd:tt≠d:=cI Cs (AQ _ _ hd) (by intro z;cases z)
    have Hh:=kp _ _ Cs ntd
    have Hi:=kp _ _ (AQ _ _ yX) (Ne.symm Nq)
    have hla:(b8 kvs (Sum.inr x) l').length≤kvs.length+1:=bY _ _ _
    refine⟨_,rfl,am,rfl, .inl ⟨_, .inl Hi⟩,_,rfl,tt,_,_,V.str x,rfl,rfl,iX.of Hh,rfl,_,f9.k (k:=Sum.inr x) Hi,_,rfl,tt,_,_,V.int l',rfl,rfl,iX.of Hh,rfl,_,_,hA.int.at _,rfl,_,rfl,_,rfl,tt,_,_,V.str x,rfl,rfl,iX.of Hh,rfl,am,_,rfl,i0.k (k:=Sum.inr x) Hi (by omega),?_⟩
    refine⟨b8 kvs (Sum.inr x) l',_,_,_,rfl,?_,?_,?_,af,?_,hA.add SH (by omega),fun b o z=>?_⟩
    ·rw[ah RZ]
     exact kp _ _ lJ nsd
    ·rw[ah Nq]
     exact hd11
    ·rw[ah Z3]
     exact kp _ _ (AQ _ _ hg) ngd
    ·rw[ah nwa]
     exact kp _ _ (AQ _ _ P6) nwd
    ·rw[ah (ag z wZ)]
     exact kp _ _ (AQ _ _ (e _ _ z)) (ag z Ik)
   ·refine⟨_,rfl,_,rfl,_,rfl,_,rfl,st,d,g,kvs,[],⟨xs,ys,tx,n⟩,bare,rfl,yV,⟨dP,e7 _ _ fI⟩,e7 _ _ hd,e7 _ _ hg,hA.int,by omega,Nat.zero_le _,XZ,hbd,fun hs d2 t2 t3 H8 hnw hSt2 hd2 hg2 hrow X0 k8=>?_,fun t2 x l2 t3 H8 hs X0 e8=>?_⟩
    ·have nes:e0≠st:=Ne.symm (ag fI ne0)
     have neg:e0≠g:=Ne.symm (ag hg ne0)
     have he8:=k8 _ _ pA nes neg
     have n2e:d2≠e0:=by
      rcases hnw with rfl|z
      ·exact ag hd ne0
      ·exact Ne.symm (ag pA z)
     refine⟨_,rfl,_,_,_,_,_,rfl,rfl, .dK he8,fq,_,rfl,ik ?_⟩
     have hc:(PyData.tuple [.int 0, .bool true]).canLay0=true:=rfl
     have Ie:=n5 hc (by simp [PyData.depth,PyData.depthAll])
     refine⟨_,rfl,(by show 2≤sizeLine;decide),fun p hp=>?_⟩
     have s9:=au.new (o:= .tup [.int 0, .bl true]) hp
     have hp9:(upd H8 p (.tup [.int 0, .bl true])) p=some (.tup [.int 0, .bl true]):=af
     generalize upd H8 p (.tup [.int 0, .bl true])=H9 at s9 hp9 ⊢
     have rd:∀{b:Addr},H9 b=some (.tup [.int 0, .bl true])→El K H9 (.ref b) (PyData.tuple [.int 0, .bool true]):=fun h=> .tup (iX.of h) (.cons (.int _) (.cons (.bl _) .nil))
     refine⟨_,_,rd (s9 _ _ X0),rd hp9,Ie,Ie,_,rfl,?_⟩
     rw[mw _ hc]
     refine ik ?_
     refine⟨_,rfl,_,rfl,_,rfl,_,rfl,(by show 2≤sizeLine;decide),fun p2 EN=>⟨(by show 1≤sizeLine;decide),fun L hL=>?_⟩⟩
     have xU:=au.new (o:= .tup [.str tx, .int n]) EN
     have G':=au.new (o:= .lst [.ref p2]) hL
     have Ee:=(s9.trans xU).trans G'
     have LM:(upd (upd H9 p2 (.tup [.str tx, .int n])) L (.lst [.ref p2])) L=some (.lst ([p2].map V.ref)):=af
     have SU:=G' _ _ (af (H:=H9) (a:=p2) (o:= .tup [.str tx, .int n]))
     generalize upd (upd H9 p2 (.tup [.str tx, .int n])) L (.lst [.ref p2])=H11 at Ee LM SU ⊢
     have ewt:=uV hA.int hA.nd hIn n
     have Hj:(dO kvs xs ys n).map (·.1)=kvs.map (·.1):=by rw[←ewt];exact oS hIn n
     have SS:=Cq (rs:=[⟨xs,ys,tx,n⟩]) fun r hr=>by
      rw[List.mem_singleton.mp hr]
      exact Oj XZ
     obtain⟨Er,Kq⟩:=hSt2
     refine⟨st,d2,g,e0,L,dO kvs xs ys n,[t2],[p2],[⟨xs,ys,tx,n⟩],rfl,⟨Er,Ee _ _ Kq⟩,Ee _ _ hd2,by rw[←ewt];exact Ee _ _ he8,n2e,df _ _ _ _ hA.int,by rw[Hj];exact hA.nd,fun q hq=>?_,?_,Ee _ _ hg2, .cons (Ee _ _ hrow) .nil,LM, .cons SU .nil,(by show 1≤10;decide),SS.1,SS.2,fun H12 _=>q H12⟩
     ·have:=List.mem_map_of_mem (f:=(·.1)) hq
      rw[Hj] at this
      obtain⟨q',su,e'⟩:=List.mem_map.mp this
      obtain⟨s,es,hs⟩:=IC q' su
      exact⟨s,by rw[←e',es],hs⟩
     ·have:=congrArg List.length Hj
      rw[List.length_map,List.length_map] at this
      omega
    ·obtain⟨t4,et4,h41,h42,h43⟩:=ma hA.int hA.nd hIn hs
     have:=xN t4 h41
     rw[h43] at this
     cases this
  ·rintro σ H' _
   exact q H'
end
theorem all_mk {l:PySem.W.OpenLaw} {w:World} {K:PySem.W.Frag} {h:Heap} {mg:Str→Option Value} {fa C Gr Pc Fo Rd Rc Ch St HE Sh X1 X2 X3 X4 X5 X6 X7 X8 X9 SV SW SX SY S0 Ct S1 KA S2 KC S3 S4 S5 KD S6 Oq Ot Ou Ov S7 Ow Ox Hk Oy Oz Hl OA OB Hm S8 S9 S' Ta Tb Tc Td Tf Tg Ti LR LS LU Hn Tj Tn To Tp Tq Ts Tt Tu LV Cu KG Tv Tw KH Tx Tz TB TC TJ TN TQ TR TU TV TY T1 T2 T3 T4 T5 T6 T7 T8 OC:Addr} (X:K.In h) (G:h.Ns mainGlobals mg) (hfa:mg "law" =some (.ref fa))
  {OD AR T9 Ho Ua Hq Ub Hr Uc Hs Ud Ht Ue LW:Option Addr} {OE Ug Uh Ui Uj Uk Ul:Array (Option Value)} {OF AS AU AV xn AW Um Hu Hv Hw Cv Hx Uo Hy Hz HA Cw HB Up HC HD HF Cy HG Uq HH HI HJ Cz HK Ur HL HM HN CA HP Us LX LY LZ HQ L0:Value}
  {xo:Addr} {KI:Value} {KJ:Option Addr} {KL:Array (Option Value)} {OG:Nat} {HR:Tok}
  {CB:Addr} {OH:Value} {OI:Option Addr} {OJ:Array (Option Value)} {Ut:Nat} {L1:Tok}
  {CC:Addr} {OL:Value} {OM:Option Addr} {ON:Array (Option Value)} {Uv:Nat} {L4:Tok}
  {CD:Addr} {OO:Value} {OP:Option Addr} {OQ:Array (Option Value)} {Uw:Nat} {L5:Tok}
  {CF:Addr} {OR:Value} {OS:Option Addr} {OT:Array (Option Value)} {Ux:Nat} {L6:Tok}
  {CG:Addr} {OU:Value} {OV:Option Addr} {OW:Array (Option Value)} {Uy:Nat}
  {uK uN uB uE uM uC uP uI uD uL uT eR eS eU uG uS:Tok}
  (aC:PySem.W.nsIn K mainGlobals "Atom" =some (some (.ref C)))
  (aGr:PySem.W.nsIn K mainGlobals "Group" =some (some (.ref Gr)))
  (aPc:PySem.W.nsIn K mainGlobals "Piece" =some (some (.ref Pc)))
  (aFo:PySem.W.nsIn K mainGlobals "Formula" =some (some (.ref Fo)))
  (aRd:PySem.W.nsIn K mainGlobals "Reader" =some (some (.ref Rd)))
  (aRc:PySem.W.nsIn K mainGlobals "ChangeReader" =some (some (.ref Rc)))
  (aCh:PySem.W.nsIn K mainGlobals "Change" =some (some (.ref Ch)))
  (aSt:PySem.W.nsIn K mainGlobals "Store" =some (some (.ref St)))
  (aHE:PySem.W.nsIn K mainGlobals "HallError" =some (some (.ref HE)))
  (aSh:PySem.W.nsIn K mainGlobals "Short" =some (some (.ref Sh)))
  (aX1:PySem.W.nsIn K mainGlobals "NoChange" =some (some (.ref X1)))
  (aX2:PySem.W.nsIn K mainGlobals "NoFormula" =some (some (.ref X2)))
  (aX3:PySem.W.nsIn K mainGlobals "NoName" =some (some (.ref X3)))
  (aX4:PySem.W.nsIn K mainGlobals "NoRow" =some (some (.ref X4)))
  (aX5:PySem.W.nsIn K mainGlobals "NoSplit" =some (some (.ref X5)))
  (aX6:PySem.W.nsIn K mainGlobals "NoBalance" =some (some (.ref X6)))
  (aX7:PySem.W.nsIn K mainGlobals "TooLong" =some (some (.ref X7)))
  (aX8:PySem.W.nsIn K mainGlobals "TooMany" =some (some (.ref X8)))
  (aX9:PySem.W.nsIn K mainGlobals "Unbalanced" =some (some (.ref X9)))
  (axig:PySem.W.nsIn K mainGlobals "is_great" =some (some (.ref SV)))
  (lxig:dJ K "is_great" "is_great" vE SV)
  (axis:PySem.W.nsIn K mainGlobals "is_small" =some (some (.ref SW)))
  (lxis:dJ K "is_small" "is_small" vF SW)
  (axif:PySem.W.nsIn K mainGlobals "is_figure" =some (some (.ref SX)))
  (lxif:dJ K "is_figure" "is_figure" pN SX)
  (axcs:PySem.W.nsIn K mainGlobals "count_shown" =some (some (.ref SY)))
  (lxcs:dJ K "count_shown" "count_shown" iy SY)
  (axps:PySem.W.nsIn K mainGlobals "parts_shown" =some (some (.ref S0)))
  (lxps:dJ K "parts_shown" "parts_shown" kM S0)
  (Uz:PySem.W.findIn K (.ref C) "__init__" =some (some (.ref Ct)))
  (UA:PySem.W.isFn K (.ref Ct)=true)
  (UB:K.lookup Ct=some ⟨OF,OD, .func (PySem.W.fnOf "__init__" "Atom.__init__" (bF jd) (a5 jd) (aj jd) (.ref xo) AS AU AV AR xn AW),OE⟩)
  (L7:K.lookup xo=some ⟨KI,KJ, .seq #[.int 1 HR] OG,KL⟩)
  (UC:PySem.W.codeIn K xn "Atom.__init__" =true)
  (UD:PySem.W.keepIn K (.ref Ct)=true)
  (axsh:PySem.W.findIn K (.ref C) "shown" =some (some (.ref S1)))
  (lxsh:dJ K "shown" "Atom.shown" vG S1)
  (axgi:PySem.W.findIn K (.ref Gr) "__init__" =some (some (.ref KA)))
  (ixgi:PySem.W.isFn K (.ref KA)=true)
  (lxgi:K.lookup KA=some ⟨Um,T9, .func (PySem.W.fnOf "__init__" "Group.__init__" (bF fM) (a5 fM) (aj fM) (.ref CB) Hu Hv Hw Ho Cv Hx),Ug⟩)
  (UE:K.lookup CB=some ⟨OH,OI, .seq #[.int 1 L1] Ut,OJ⟩)
  (cxgi:PySem.W.codeIn K Cv "Group.__init__" =true)
  (kxgi:PySem.W.keepIn K (.ref KA)=true)
  (axgs:PySem.W.findIn K (.ref Gr) "shown" =some (some (.ref S2)))
  (lxgs:dJ K "shown" "Group.shown" kN S2)
  (axpi:PySem.W.findIn K (.ref Pc) "__init__" =some (some (.ref KC)))
  (ixpi:PySem.W.isFn K (.ref KC)=true)
  (lxpi:K.lookup KC=some ⟨Uo,Ua, .func (PySem.W.fnOf "__init__" "Piece.__init__" (bF fN) (a5 fN) (aj fN) (.ref CC) Hy Hz HA Hq Cw HB),Uh⟩)
  (UG:K.lookup CC=some ⟨OL,OM, .seq #[.int 1 L4] Uv,ON⟩)
  (cxpi:PySem.W.codeIn K Cw "Piece.__init__" =true)
  (kxpi:PySem.W.keepIn K (.ref KC)=true)
  (axpS:PySem.W.findIn K (.ref Pc) "shown" =some (some (.ref S3)))
  (lxpS:dJ K "shown" "Piece.shown" iz S3)
  (axtl:PySem.W.nsIn K mainGlobals "refuse_too_long" =some (some (.ref S4)))
  (lxtl:dJ K "refuse_too_long" "refuse_too_long" mC S4)
  (axch:PySem.W.nsIn K mainGlobals "charge_shown" =some (some (.ref S5)))
  (lxch:dJ K "charge_shown" "charge_shown" gH S5)
  (axfi:PySem.W.findIn K (.ref Fo) "__init__" =some (some (.ref KD)))
  (ixfi:PySem.W.isFn K (.ref KD)=true)
  (lxfi:K.lookup KD=some ⟨Up,Ub, .func (PySem.W.fnOf "__init__" "Formula.__init__" (bF fO) (a5 fO) (aj fO) (.ref CD) HC HD HF Hr Cy HG),Ui⟩)
  (UH:K.lookup CD=some ⟨OO,OP, .seq #[.int 0 L5] Uw,OQ⟩)
  (cxfi:PySem.W.codeIn K Cy "Formula.__init__" =true)
  (kxfi:PySem.W.keepIn K (.ref KD)=true)
  (axfS:PySem.W.findIn K (.ref Fo) "shown" =some (some (.ref S6)))
  (lxfS:dJ K "shown" "Formula.shown" mD S6)
  (axri:PySem.W.findIn K (.ref Rd) "__init__" =some (some (.ref Oq)))
  (UI:dJ K "__init__" "Reader.__init__" qR Oq)
  (axrs:PySem.W.findIn K (.ref Rd) "sign" =some (some (.ref Ot)))
  (UJ:dJ K "sign" "Reader.sign" x9 Ot)
  (axrt:PySem.W.findIn K (.ref Rd) "take" =some (some (.ref Ou)))
  (UK:dJ K "take" "Reader.take" ya Ou)
  (axra:PySem.W.findIn K (.ref Rd) "take_all" =some (some (.ref Ov)))
  (UL:dJ K "take_all" "Reader.take_all" kb Ov)
  (axre:PySem.W.findIn K (.ref Rd) "take_end" =some (some (.ref S7)))
  (lxre:dJ K "take_end" "Reader.take_end" mF S7)
  (axrw:PySem.W.findIn K (.ref Rd) "read_whole" =some (some (.ref Ow)))
  (UM:dJ K "read_whole" "Reader.read_whole" mG Ow)
  (axrl:PySem.W.findIn K (.ref Rd) "read_electron" =some (some (.ref Ox)))
  (UN:dJ K "read_electron" "Reader.read_electron" gX Ox)
  (UO:PySem.W.findIn K (.ref Rd) "read_parts" =some (some (.ref Hk)))
  (L8:dJ K "read_parts" "Reader.read_parts" kO Hk)
  (axrp:PySem.W.findIn K (.ref Rd) "read_part" =some (some (.ref Oy)))
  (UP:dJ K "read_part" "Reader.read_part" oh Oy)
  (axrg:PySem.W.findIn K (.ref Rd) "read_group" =some (some (.ref Oz)))
  (UQ:dJ K "read_group" "Reader.read_group" jw Oz)
  (UR:PySem.W.findIn K (.ref Rd) "read_atom" =some (some (.ref Hl)))
  (L9:dJ K "read_atom" "Reader.read_atom" qT Hl)
  (axrc:PySem.W.findIn K (.ref Rd) "read_count" =some (some (.ref OA)))
  (US:dJ K "read_count" "Reader.read_count" mH OA)
  (axrn:PySem.W.findIn K (.ref Rd) "read_number" =some (some (.ref OB)))
  (UT:dJ K "read_number" "Reader.read_number" kd OB)
  (UU:PySem.W.findIn K (.ref Rd) "read_charge" =some (some (.ref Hm)))
  (L':dJ K "read_charge" "Reader.read_charge" kg Hm)
  (axrf:PySem.W.nsIn K mainGlobals "read_formula" =some (some (.ref S8)))
  (lxrf:dJ K "read_formula" "read_formula" kQ S8)
  (axpc:PySem.W.nsIn K mainGlobals "parts_counts" =some (some (.ref S9)))
  (lxpc:dJ K "parts_counts" "parts_counts" jc S9)
  (axco:PySem.W.findIn K (.ref C) "counts" =some (some (.ref S')))
  (lxco:dJ K "counts" "Atom.counts" pO S')
  (axgc:PySem.W.findIn K (.ref Gr) "counts" =some (some (.ref Ta)))
  (lxgc:dJ K "counts" "Group.counts" je Ta)
  (axpC:PySem.W.findIn K (.ref Pc) "counts" =some (some (.ref Tb)))
  (lxpC:dJ K "counts" "Piece.counts" gG Tb)
  (axfC:PySem.W.findIn K (.ref Fo) "counts" =some (some (.ref Tc)))
  (lxfC:dJ K "counts" "Formula.counts" mE Tc)
  (axci:PySem.W.findIn K (.ref Ch) "__init__" =some (some (.ref Td)))
  (lxci:dJ K "__init__" "Change.__init__" vH Td)
  (axam:PySem.W.nsIn K mainGlobals "formula_amounts" =some (some (.ref Tf)))
  (lxam:dJ K "formula_amounts" "formula_amounts" mI Tf)
  (axkd:PySem.W.findIn K (.ref Ch) "kinds" =some (some (.ref Tg)))
  (lxkd:dJ K "kinds" "Change.kinds" vI Tg)
  (axrm:PySem.W.findIn K (.ref Rc) "read_term" =some (some (.ref Ti)))
  (lxrm:dJ K "read_term" "ChangeReader.read_term" vJ Ti)
  (UW:PySem.W.findIn K (.ref Rc) "read_lefts" =some (some (.ref LR)))
  (UX:dJ K "read_lefts" "ChangeReader.read_lefts" pP LR)
  (UY:PySem.W.findIn K (.ref Rc) "read_rights" =some (some (.ref LS)))
  (UZ:dJ K "read_rights" "ChangeReader.read_rights" mJ LS)
  (U0:PySem.W.findIn K (.ref Rc) "read_sides" =some (some (.ref LU)))
  (U1:dJ K "read_sides" "ChangeReader.read_sides" pQ LU)
  (OX:PySem.W.nsIn K mainGlobals "read_change" =some (some (.ref Hn)))
  (OY:dJ K "read_change" "read_change" mK Hn)
  (axsc:PySem.W.nsIn K mainGlobals "side_counts" =some (some (.ref Tj)))
  (lxsc:dJ K "side_counts" "side_counts" iA Tj)
  (axgn:PySem.W.nsIn K mainGlobals "gains" =some (some (.ref Tn)))
  (lxgn:dJ K "gains" "gains" qU Tn)
  (axsa:PySem.W.nsIn K mainGlobals "side_amounts" =some (some (.ref To)))
  (lxsa:dJ K "side_amounts" "side_amounts" gI To)
  (axlo:PySem.W.findIn K (.ref Ch) "lost" =some (some (.ref Tp)))
  (lxlo:dJ K "lost" "Change.lost" tK Tp)
  (axev:PySem.W.nsIn K mainGlobals "read_even" =some (some (.ref Tq)))
  (lxev:dJ K "read_even" "read_even" kR Tq)
  (axto:PySem.W.nsIn K mainGlobals "turns_of" =some (some (.ref Ts)))
  (lxto:dJ K "turns_of" "turns_of" mL Ts)
  (axmo:PySem.W.nsIn K mainGlobals "most_turns" =some (some (.ref Tt)))
  (lxmo:dJ K "most_turns" "most_turns" fP Tt)
  (axtu:PySem.W.nsIn K mainGlobals "turned" =some (some (.ref Tu)))
  (lxtu:dJ K "turned" "turned" pR Tu)
  (U2:PySem.W.nsIn K mainGlobals "refuse_short" =some (some (.ref LV)))
  (U3:dJ K "refuse_short" "refuse_short" gJ LV)
  (U4:PySem.W.findIn K (.ref Sh) "__init__" =some (some (.ref Cu)))
  (U5:dJ K "__init__" "Short.__init__" vK Cu)
  (axsi:PySem.W.findIn K (.ref St) "__init__" =some (some (.ref KG)))
  (ixsi:PySem.W.isFn K (.ref KG)=true)
  (lxsi:K.lookup KG=some ⟨Uq,Uc, .func (PySem.W.fnOf "__init__" "Store.__init__" (bF fQ) (a5 fQ) (aj fQ) (.ref CG) HH HI HJ Hs Cz HK),Uj⟩)
  (U6:K.lookup CG=some ⟨OU,OV, .seq #[.none] Uy,OW⟩)
  (cxsi:PySem.W.codeIn K Cz "Store.__init__" =true)
  (kxsi:PySem.W.keepIn K (.ref KG)=true)
  (axsv:PySem.W.findIn K (.ref St) "have" =some (some (.ref Tv)))
  (lxsv:dJ K "have" "Store.have" Bh Tv)
  (axsp:PySem.W.findIn K (.ref St) "put" =some (some (.ref Tw)))
  (lxsp:dJ K "put" "Store.put" Jy Tw)
  (axso:PySem.W.findIn K (.ref St) "go" =some (some (.ref KH)))
  (ixso:PySem.W.isFn K (.ref KH)=true)
  (lxso:K.lookup KH=some ⟨Ur,Ud, .func (PySem.W.fnOf "go" "Store.go" (bF Dh) (a5 Dh) (aj Dh) (.ref CF) HL HM HN Ht CA HP),Uk⟩)
  (U7:K.lookup CF=some ⟨OR,OS, .seq #[.int 1 L6] Ux,OT⟩)
  (cxso:PySem.W.codeIn K CA "Store.go" =true)
  (U8:PySem.W.keepIn K (.ref KH)=true)
  (axsy:PySem.W.findIn K (.ref St) "go_all" =some (some (.ref Tx)))
  (lxsy:dJ K "go_all" "Store.go_all" qV Tx)
  (axss:PySem.W.findIn K (.ref St) "stocks" =some (some (.ref Tz)))
  (lxss:dJ K "stocks" "Store.stocks" mM Tz)
  (axsw:PySem.W.findIn K (.ref St) "went" =some (some (.ref TB)))
  (lxsw:dJ K "went" "Store.went" yb TB)
  (axca:PySem.W.nsIn K mainGlobals "_law_cell_at" =some (some (.ref TC)))
  (lxca:dJ K "_law_cell_at" "_law_cell_at" pS TC)
  (axmi:PySem.W.nsIn K mainGlobals "_law_mixed" =some (some (.ref TJ)))
  (lxmi:dJ K "_law_mixed" "_law_mixed" vL TJ)
  (axwh:PySem.W.nsIn K mainGlobals "_law_whole" =some (some (.ref TN)))
  (lxwh:dJ K "_law_whole" "_law_whole" vM TN)
  (axki:PySem.W.nsIn K mainGlobals "_law_kind" =some (some (.ref TQ)))
  (lxki:dJ K "_law_kind" "_law_kind" Bi TQ)
  (axfg:PySem.W.nsIn K mainGlobals "_law_figures" =some (some (.ref TR)))
  (lxfg:dJ K "_law_figures" "_law_figures" mN TR)
  (axlm:PySem.W.nsIn K mainGlobals "_law_matter" =some (some (.ref TU)))
  (lxlm:dJ K "_law_matter" "_law_matter" mO TU)
  (axlw:PySem.W.nsIn K mainGlobals "_law_world" =some (some (.ref TV)))
  (lxlw:dJ K "_law_world" "_law_world" oj TV)
  (axlc:PySem.W.nsIn K mainGlobals "_law_change" =some (some (.ref TY)))
  (lxlc:dJ K "_law_change" "_law_change" kh TY)
  (axlt:PySem.W.nsIn K mainGlobals "_law_text" =some (some (.ref T1)))
  (lxlt:dJ K "_law_text" "_law_text" Bj T1)
  (axlk:PySem.W.nsIn K mainGlobals "_law_asked" =some (some (.ref T2)))
  (lxlk:dJ K "_law_asked" "_law_asked" vN T2)
  (axlx:PySem.W.nsIn K mainGlobals "_law_texts" =some (some (.ref T3)))
  (lxlx:dJ K "_law_texts" "_law_texts" vO T3)
  (axla:PySem.W.nsIn K mainGlobals "_law_amounts" =some (some (.ref T4)))
  (lxla:dJ K "_law_amounts" "_law_amounts" jf T4)
  (axlz:PySem.W.nsIn K mainGlobals "_law_others" =some (some (.ref T5)))
  (lxlz:dJ K "_law_others" "_law_others" pT T5)
  (axlv:PySem.W.nsIn K mainGlobals "_law_walked" =some (some (.ref T6)))
  (lxlv:dJ K "_law_walked" "_law_walked" pU T6)
  (axlg:PySem.W.nsIn K mainGlobals "_law_gone" =some (some (.ref T7)))
  (lxlg:dJ K "_law_gone" "_law_gone" Bk T7)
  (axls:PySem.W.nsIn K mainGlobals "_law_same" =some (some (.ref T8)))
  (lxls:dJ K "_law_same" "_law_same" vP T8)
  (alaw:PySem.W.nsIn K mainGlobals "law" =some (some (.ref OC)))
  (llaw:K.lookup OC=some ⟨Us,Ue, .func (PySem.W.fnOf "law" "law" (bF vQ) (a5 vQ) (aj vQ) .none LX LY LZ LW HQ L0),Ul⟩)
  (claw:PySem.W.codeIn K HQ "law" =true)
  (klaw:PySem.W.keepIn K (.ref OC)=true)
  (bxri:PySem.W.findIn K (.ref Rc) "__init__" =some (some (.ref Oq)))
  (bxrs:PySem.W.findIn K (.ref Rc) "sign" =some (some (.ref Ot)))
  (bxrt:PySem.W.findIn K (.ref Rc) "take" =some (some (.ref Ou)))
  (bxra:PySem.W.findIn K (.ref Rc) "take_all" =some (some (.ref Ov)))
  (bxrw:PySem.W.findIn K (.ref Rc) "read_whole" =some (some (.ref Ow)))
  (bxrl:PySem.W.findIn K (.ref Rc) "read_electron" =some (some (.ref Ox)))
  (U9:PySem.W.findIn K (.ref Rc) "read_parts" =some (some (.ref Hk)))
  (bxrp:PySem.W.findIn K (.ref Rc) "read_part" =some (some (.ref Oy)))
  (bxrg:PySem.W.findIn K (.ref Rc) "read_group" =some (some (.ref Oz)))
  (U':PySem.W.findIn K (.ref Rc) "read_atom" =some (some (.ref Hl)))
  (bxrc:PySem.W.findIn K (.ref Rc) "read_count" =some (some (.ref OA)))
  (bxrn:PySem.W.findIn K (.ref Rc) "read_number" =some (some (.ref OB)))
  (Va:PySem.W.findIn K (.ref Rc) "read_charge" =some (some (.ref Hm)))
  (OZ:PySem.W.typeIn K (.ref Cu)=some (.type "function"))
  (saSh:PySem.W.findIn K (.ref Sh) "__setattr__" =some (some (.builtin "object.__setattr__")))
  (gaSh:PySem.W.findIn K (.ref Sh) "__getattribute__" =some (some (.builtin "BaseException.__getattribute__")))
  (ghSh:PySem.W.findIn K (.ref Sh) "__getattr__" =some none)
  (kcSh:PySem.W.keepIn K (.ref Sh)=true)
  (obSh:∃(nm q:Str) (N:Addr) (bs:List Value) (sn:List Str) (sub:List Value) (ab:Bool) (col:Option Bool) (dd:Option Addr) (k0 k1 k2 k3 k5:Option Value),K.lookup Sh=some (excClassObj nm q Sh N bs (.ref HE::PySem.W.zr) true sn sub ab col dd k0 k1 k2 k3 k5 "ValueError.__new__"))
  (pgC:PySem.W.plainGet K C Str.empty=true)
  (hdC:PySem.W.hasDictIn K C=true)
  (poC:PySem.W.plainOver K C=true)
  (saC:PySem.W.findIn K (.ref C) "__setattr__" =some (some (.builtin "object.__setattr__")))
  (mkC:PySem.W.makesIn K C=true)
  (kcC:PySem.W.keepIn K (.ref C)=true)
  (Vb:PySem.W.plainGet K Gr Str.empty=true)
  (Vc:PySem.W.hasDictIn K Gr=true)
  (Vd:PySem.W.plainOver K Gr=true)
  (Ve:PySem.W.findIn K (.ref Gr) "__setattr__" =some (some (.builtin "object.__setattr__")))
  (mkGr:PySem.W.makesIn K Gr=true)
  (kcGr:PySem.W.keepIn K (.ref Gr)=true)
  (Vf:PySem.W.plainGet K Pc Str.empty=true)
  (Vg:PySem.W.hasDictIn K Pc=true)
  (Vh:PySem.W.plainOver K Pc=true)
  (Vi:PySem.W.findIn K (.ref Pc) "__setattr__" =some (some (.builtin "object.__setattr__")))
  (mkPc:PySem.W.makesIn K Pc=true)
  (kcPc:PySem.W.keepIn K (.ref Pc)=true)
  (Vj:PySem.W.plainGet K Fo Str.empty=true)
  (Vk:PySem.W.hasDictIn K Fo=true)
  (Vl:PySem.W.plainOver K Fo=true)
  (Vm:PySem.W.findIn K (.ref Fo) "__setattr__" =some (some (.builtin "object.__setattr__")))
  (mkFo:PySem.W.makesIn K Fo=true)
  (kcFo:PySem.W.keepIn K (.ref Fo)=true)
  (pgRd:PySem.W.plainGet K Rd Str.empty=true)
  (hdRd:PySem.W.hasDictIn K Rd=true)
  (poRd:PySem.W.plainOver K Rd=true)
  (saRd:PySem.W.findIn K (.ref Rd) "__setattr__" =some (some (.builtin "object.__setattr__")))
  (mkRd:PySem.W.makesIn K Rd=true)
  (kcRd:PySem.W.keepIn K (.ref Rd)=true)
  (pgRc:PySem.W.plainGet K Rc Str.empty=true)
  (hdRc:PySem.W.hasDictIn K Rc=true)
  (poRc:PySem.W.plainOver K Rc=true)
  (saRc:PySem.W.findIn K (.ref Rc) "__setattr__" =some (some (.builtin "object.__setattr__")))
  (mkRc:PySem.W.makesIn K Rc=true)
  (kcRc:PySem.W.keepIn K (.ref Rc)=true)
  (pgCh:PySem.W.plainGet K Ch Str.empty=true)
  (hdCh:PySem.W.hasDictIn K Ch=true)
  (poCh:PySem.W.plainOver K Ch=true)
  (saCh:PySem.W.findIn K (.ref Ch) "__setattr__" =some (some (.builtin "object.__setattr__")))
  (mkCh:PySem.W.makesIn K Ch=true)
  (kcCh:PySem.W.keepIn K (.ref Ch)=true)
  (O0:PySem.W.plainGet K St Str.empty=true)
  (O1:PySem.W.hasDictIn K St=true)
  (O2:PySem.W.plainOver K St=true)
  (O3:PySem.W.findIn K (.ref St) "__setattr__" =some (some (.builtin "object.__setattr__")))
  (mkSt:PySem.W.makesIn K St=true)
  (kcSt:PySem.W.keepIn K (.ref St)=true)
  (Ma:PySem.W.findIn K (.ref C) "kind" =some none)
  (HS:PySem.W.findIn K (.ref C) "count" =some none)
  (ngp:PySem.W.findIn K (.ref Gr) "parts" =some none)
  (ngc:PySem.W.findIn K (.ref Gr) "count" =some none)
  (npp:PySem.W.findIn K (.ref Pc) "parts" =some none)
  (Xs:PySem.W.findIn K (.ref Pc) "count" =some none)
  (nfp:PySem.W.findIn K (.ref Fo) "pieces" =some none)
  (nfc:PySem.W.findIn K (.ref Fo) "charge" =some none)
  (nrt:PySem.W.findIn K (.ref Rd) "text" =some none)
  (nrp:PySem.W.findIn K (.ref Rd) "place" =some none)
  (nlf:PySem.W.findIn K (.ref Ch) "lefts" =some none)
  (nrf:PySem.W.findIn K (.ref Ch) "rights" =some none)
  (nct:PySem.W.findIn K (.ref Rc) "text" =some none)
  (ncp:PySem.W.findIn K (.ref Rc) "place" =some none)
  (nam:PySem.W.findIn K (.ref St) "amounts" =some none)
  (ngo:PySem.W.findIn K (.ref St) "gone" =some none)
  (fS1:PySem.W.findIn K (.ref Sh) "step" =some none)
  (fS2:PySem.W.findIn K (.ref Sh) "turn" =some none)
  (fS3:PySem.W.findIn K (.ref Sh) "formula" =some none)
  (fS4:PySem.W.findIn K (.ref Sh) "lack" =some none)
  (Mb:PySem.W.nsIn K mainGlobals "len" =some none)
  (Mc:PySem.W.nsIn K mainGlobals "str" =some none)
  (Md:PySem.W.nsIn K mainGlobals "int" =some none)
  (HU:PySem.W.nsIn K mainGlobals "bool" =some none)
  (CH:PySem.W.nsIn K mainGlobals "range" =some none)
  (nI:PySem.W.nsIn K mainGlobals "isinstance" =some none)
  (HV:PySem.W.nsIn K mainGlobals "list" =some none)
  (Me:PySem.W.nsIn K mainGlobals "abs" =some none)
  (HW:PySem.W.nsIn K mainGlobals "dict" =some none)
  (Vn:PySem.W.nsIn K mainGlobals "sum" =some none)
  (HX:PySem.W.nsIn K mainGlobals "sorted" =some none)
  (Vo:PySem.W.nsIn K mainGlobals "all" =some none)
  (Vp:PySem.W.nsIn K mainGlobals "min" =some none)
  (pk:PySem.W.nsIn K mainGlobals "enumerate" =some none)
  (xp:PySem.W.nsIn K mainGlobals "ValueError" =some none)
  (lK:PySem.W.nsIn K mainGlobals "LONGEST_KIND" =some (some (.int 3 uK)))
  (kB:PySem.W.nsIn K mainGlobals "LONGEST_COUNT" =some (some (.int 3 uN)))
  (nJ:PySem.W.nsIn K mainGlobals "GROUP_BEGIN" =some (some (.str "(" uB)))
  (si:PySem.W.nsIn K mainGlobals "GROUP_END" =some (some (.str ")" uE)))
  (gC:PySem.W.nsIn K mainGlobals "MOST_GROUPS_AROUND" =some (some (.int 3 uM)))
  (nK:PySem.W.nsIn K mainGlobals "CHARGE_MARK" =some (some (.str "^" uC)))
  (Mf:PySem.W.nsIn K mainGlobals "PLUS" =some (some (.str "+" uP)))
  (HY:PySem.W.nsIn K mainGlobals "MINUS" =some (some (.str "-" uI)))
  (sj:PySem.W.nsIn K mainGlobals "PIECE_DOT" =some (some (.str "." uD)))
  (uY:PySem.W.nsIn K mainGlobals "ELECTRON" =some (some (.str "e^-" uL)))
  (lL:PySem.W.nsIn K mainGlobals "LONGEST_TEXT" =some (some (.int 400 uT)))
  (O4:PySem.W.nsIn K mainGlobals "BLANK" =some (some (.str " " eR)))
  (O5:PySem.W.nsIn K mainGlobals "JOINT" =some (some (.str " + " eS)))
  (O6:PySem.W.nsIn K mainGlobals "ARROW" =some (some (.str " -> " eU)))
  (lE:PySem.W.nsIn K mainGlobals "LONGEST_TERM_COUNT" =some (some (.int 12 uG)))
  (zo:PySem.W.nsIn K mainGlobals "MOST_TERMS" =some (some (.int 8 uS)))
  (hE1:PySem.W.specialIn K (.ref HE) "__getattribute__" =some (some (.builtin "type.__getattribute__")))
  (hE2:PySem.W.readsIn K HE (.type "type")=true)
  (hE3:PySem.W.findCls K (.ref HE) (.type "type") "__init__" =some (.val (.builtin "ValueError.__init__")))
  (hE4:∃(nm q:Str) (N:Addr) (bs bm:List Value) (hd:Bool) (sn:List Str) (sub:List Value) (ab:Bool) (col:Option Bool) (dd:Option Addr) (k0 k1 k2 k3 k5:Option Value) (Xp:String),K.lookup HE=some (excClassObj nm q HE N bs bm hd sn sub ab col dd k0 k1 k2 k3 k5 Xp)∧bm.contains (.type "BaseException")=true)
  (tS1:PySem.W.takerIn K Sh "step" =some none)
  (tS2:PySem.W.takerIn K Sh "turn" =some none)
  (tS3:PySem.W.takerIn K Sh "formula" =some none)
  (tS4:PySem.W.takerIn K Sh "lack" =some none)
  (t1:PySem.W.findIn K (.ref Sh) "__class__" =some (some (.builtin "object.__class__")))
  (t2:PySem.W.specialIn K (.builtin "object.__class__") "__get__" =some (some (.builtin "getset_descriptor.__get__")))
  (t3:PySem.W.takesIn K (.builtin "object.__class__")=some true)
  (uS1:PySem.W.mroIn K Sh (.ref HE)=some true)
  (KN:PySem.W.mroIn K Sh (.ref Sh)=some true)
  (w1:PySem.W.isClsIn K X1=true)
  (y1:PySem.W.typeIn K (.ref X1)=some (.type "type"))
  (m1:PySem.W.mroIn K Sh (.ref X1)=some false)
  (w2:PySem.W.isClsIn K X2=true)
  (y2:PySem.W.typeIn K (.ref X2)=some (.type "type"))
  (m2:PySem.W.mroIn K Sh (.ref X2)=some false)
  (w3:PySem.W.isClsIn K X3=true)
  (y3:PySem.W.typeIn K (.ref X3)=some (.type "type"))
  (m3:PySem.W.mroIn K Sh (.ref X3)=some false)
  (w4:PySem.W.isClsIn K X4=true)
  (y4:PySem.W.typeIn K (.ref X4)=some (.type "type"))
  (m4:PySem.W.mroIn K Sh (.ref X4)=some false)
  (w5:PySem.W.isClsIn K X5=true)
  (y5:PySem.W.typeIn K (.ref X5)=some (.type "type"))
  (m5:PySem.W.mroIn K Sh (.ref X5)=some false)
  (w6:PySem.W.isClsIn K X6=true)
  (y6:PySem.W.typeIn K (.ref X6)=some (.type "type"))
  (m6:PySem.W.mroIn K Sh (.ref X6)=some false)
  (w7:PySem.W.isClsIn K X7=true)
  (y7:PySem.W.typeIn K (.ref X7)=some (.type "type"))
  (m7:PySem.W.mroIn K Sh (.ref X7)=some false)
  (w8:PySem.W.isClsIn K X8=true)
  (y8:PySem.W.typeIn K (.ref X8)=some (.type "type"))
  (m8:PySem.W.mroIn K Sh (.ref X8)=some false)
  (w9:PySem.W.isClsIn K X9=true)
  (y9:PySem.W.typeIn K (.ref X9)=some (.type "type"))
  (m9:PySem.W.mroIn K Sh (.ref X9)=some false)
  :∃fd:FuncData,(∀(s:Shared) (v:Value),BindsTo s fd ⟨[v],[]⟩ [("_law_script",v)])∧∀base:Heap,K.In base→base.Ns mainGlobals mg→fe l.prog w K mg base qB 20 fa fd ["_law_script"] (Cr K):=by
 have e:=hfa.symm.trans (PySem.W.mg_of X G alaw)
 cases e
 have T:lC K mg C Rd Gr Pc Fo uK uN uB uE uM uC uP uI uD uL uT:=⟨⟨⟨⟨⟨pgC,hdC,poC,saC⟩,Ma,HS,PySem.W.mg_of X G aC,PySem.W.mg_none_of X G Mb,PySem.W.mg_none_of X G Mc,PySem.W.mg_none_of X G Md,PySem.W.mg_none_of X G HU,PySem.W.mg_none_of X G CH,PySem.W.mg_none_of X G nI,fq,mv,fq,fq,fq⟩,⟨pgRd,hdRd,poRd,saRd⟩,nrt,nrp,PySem.W.mg_of X G lK,PySem.W.mg_of X G kB⟩,⟨Vb,Vc,Vd,Ve⟩,ngp,ngc,PySem.W.mg_of X G aGr,PySem.W.mg_of X G nJ,PySem.W.mg_of X G si,PySem.W.mg_of X G gC⟩,PySem.W.mg_of X G nK,PySem.W.mg_of X G Mf,PySem.W.mg_of X G HY,⟨Vf,Vg,Vh,Vi⟩,⟨Vj,Vk,Vl,Vm⟩,npp,Xs,nfp,nfc,PySem.W.mg_of X G aPc,PySem.W.mg_of X G aFo,PySem.W.mg_of X G sj,PySem.W.mg_of X G uY,PySem.W.mg_of X G lL,PySem.W.mg_none_of X G HV,PySem.W.mg_none_of X G Me⟩
 have Vq:Def K mg "is_great" "is_great" vE ["sign"]:=cw X G axig lxig fun _ _ _ _ _ _ us hl=>match us,hl with| [_],_=>rfl
 have Vr:Def K mg "is_small" "is_small" vF ["sign"]:=cw X G axis lxis fun _ _ _ _ _ _ us hl=>match us,hl with| [_],_=>rfl
 have Vs:Def K mg "is_figure" "is_figure" pN ["sign"]:=cw X G axif lxif fun _ _ _ _ _ _ us hl=>match us,hl with| [_],_=>rfl
 have Vt:Def K mg "count_shown" "count_shown" iy ["count"]:=cw X G axcs lxcs fun _ _ _ _ _ _ us hl=>match us,hl with| [_],_=>rfl
 have Vu:Def K mg "parts_shown" "parts_shown" kM ["parts"]:=cw X G axps lxps fun _ _ _ _ _ _ us hl=>match us,hl with| [_],_=>rfl
 have O7:lB K C "Atom.__init__" jd ["self","kind","count"] [1]:=⟨_,_,_,kI (st:=jd) UB UC UD,⟨mkC,Uz,UA,kcC⟩,fun j hj=>match j,hj with|0,_=>⟨[.int 1 HR], .cons ⟨_,rfl⟩ (.nil),fun s us hk hl=>match us,(show us.length=2 by simpa using hl) with| [_,_],_=>PySem.W.binds_K (K:=K) (fd:=PySem.W.fnOf "__init__" "Atom.__init__" (bF jd) (a5 jd) (aj jd) (.ref xo) AS AU AV AR xn AW) hk rfl L7 rfl rfl rfl⟩ |1,_=>⟨[], .nil,fun s us hk hl=>match us,(show us.length=3 by simpa using hl) with| [_,_,_],_=>PySem.W.binds_K (K:=K) (fd:=PySem.W.fnOf "__init__" "Atom.__init__" (bF jd) (a5 jd) (aj jd) (.ref xo) AS AU AV AR xn AW) hk rfl L7 rfl rfl rfl⟩⟩
 have Vv:a9 K C "shown" "Atom.shown" vG ["self"]:=bM axsh lxsh fun _ _ _ _ _ _ us hl=>match us,hl with| [_],_=>rfl
 have Vw:lB K Gr "Group.__init__" fM ["self","parts","count"] [1]:=⟨_,_,_,kI (st:=fM) lxgi cxgi kxgi,⟨mkGr,axgi,ixgi,kcGr⟩,fun j hj=>match j,hj with|0,_=>⟨[.int 1 L1], .cons ⟨_,rfl⟩ (.nil),fun s us hk hl=>match us,(show us.length=2 by simpa using hl) with| [_,_],_=>PySem.W.binds_K (K:=K) (fd:=PySem.W.fnOf "__init__" "Group.__init__" (bF fM) (a5 fM) (aj fM) (.ref CB) Hu Hv Hw Ho Cv Hx) hk rfl UE rfl rfl rfl⟩ |1,_=>⟨[], .nil,fun s us hk hl=>match us,(show us.length=3 by simpa using hl) with| [_,_,_],_=>PySem.W.binds_K (K:=K) (fd:=PySem.W.fnOf "__init__" "Group.__init__" (bF fM) (a5 fM) (aj fM) (.ref CB) Hu Hv Hw Ho Cv Hx) hk rfl UE rfl rfl rfl⟩⟩
 have Vx:a9 K Gr "shown" "Group.shown" kN ["self"]:=bM axgs lxgs fun _ _ _ _ _ _ us hl=>match us,hl with| [_],_=>rfl
 have Vy:lB K Pc "Piece.__init__" fN ["self","parts","count"] [1]:=⟨_,_,_,kI (st:=fN) lxpi cxpi kxpi,⟨mkPc,axpi,ixpi,kcPc⟩,fun j hj=>match j,hj with|0,_=>⟨[.int 1 L4], .cons ⟨_,rfl⟩ (.nil),fun s us hk hl=>match us,(show us.length=2 by simpa using hl) with| [_,_],_=>PySem.W.binds_K (K:=K) (fd:=PySem.W.fnOf "__init__" "Piece.__init__" (bF fN) (a5 fN) (aj fN) (.ref CC) Hy Hz HA Hq Cw HB) hk rfl UG rfl rfl rfl⟩ |1,_=>⟨[], .nil,fun s us hk hl=>match us,(show us.length=3 by simpa using hl) with| [_,_,_],_=>PySem.W.binds_K (K:=K) (fd:=PySem.W.fnOf "__init__" "Piece.__init__" (bF fN) (a5 fN) (aj fN) (.ref CC) Hy Hz HA Hq Cw HB) hk rfl UG rfl rfl rfl⟩⟩
 have Vz:a9 K Pc "shown" "Piece.shown" iz ["self"]:=bM axpS lxpS fun _ _ _ _ _ _ us hl=>match us,hl with| [_],_=>rfl
 have VA:Def K mg "refuse_too_long" "refuse_too_long" mC ["text"]:=cw X G axtl lxtl fun _ _ _ _ _ _ us hl=>match us,hl with| [_],_=>rfl
 have VB:Def K mg "charge_shown" "charge_shown" gH ["charge"]:=cw X G axch lxch fun _ _ _ _ _ _ us hl=>match us,hl with| [_],_=>rfl
 have VC:lB K Fo "Formula.__init__" fO ["self","pieces","charge"] [0]:=⟨_,_,_,kI (st:=fO) lxfi cxfi kxfi,⟨mkFo,axfi,ixfi,kcFo⟩,fun j hj=>match j,hj with|0,_=>⟨[.int 0 L5], .cons ⟨_,rfl⟩ (.nil),fun s us hk hl=>match us,(show us.length=2 by simpa using hl) with| [_,_],_=>PySem.W.binds_K (K:=K) (fd:=PySem.W.fnOf "__init__" "Formula.__init__" (bF fO) (a5 fO) (aj fO) (.ref CD) HC HD HF Hr Cy HG) hk rfl UH rfl rfl rfl⟩ |1,_=>⟨[], .nil,fun s us hk hl=>match us,(show us.length=3 by simpa using hl) with| [_,_,_],_=>PySem.W.binds_K (K:=K) (fd:=PySem.W.fnOf "__init__" "Formula.__init__" (bF fO) (a5 fO) (aj fO) (.ref CD) HC HD HF Hr Cy HG) hk rfl UH rfl rfl rfl⟩⟩
 have VD:a9 K Fo "shown" "Formula.shown" mD ["self"]:=bM axfS lxfS fun _ _ _ _ _ _ us hl=>match us,hl with| [_],_=>rfl
 have VE:lB K Rd "Reader.__init__" qR ["self","text"] []:=FD mkRd axri kcRd UI fun _ _ _ _ _ _ us hl=>match us,hl with| [_,_],_=>rfl
 have VF:lB K Rc "Reader.__init__" qR ["self","text"] []:=FD mkRc bxri kcRc UI fun _ _ _ _ _ _ us hl=>match us,hl with| [_,_],_=>rfl
 have VG:a9 K Rd "sign" "Reader.sign" x9 ["self"]:=bM axrs UJ fun _ _ _ _ _ _ us hl=>match us,hl with| [_],_=>rfl
 have VH:a9 K Rc "sign" "Reader.sign" x9 ["self"]:=bM bxrs UJ fun _ _ _ _ _ _ us hl=>match us,hl with| [_],_=>rfl
 have VI:a9 K Rd "take" "Reader.take" ya ["self","sign"]:=bM axrt UK fun _ _ _ _ _ _ us hl=>match us,hl with| [_,_],_=>rfl
 have VJ:a9 K Rc "take" "Reader.take" ya ["self","sign"]:=bM bxrt UK fun _ _ _ _ _ _ us hl=>match us,hl with| [_,_],_=>rfl
 have VL:a9 K Rd "take_all" "Reader.take_all" kb ["self","signs"]:=bM axra UL fun _ _ _ _ _ _ us hl=>match us,hl with| [_,_],_=>rfl
 have VM:a9 K Rc "take_all" "Reader.take_all" kb ["self","signs"]:=bM bxra UL fun _ _ _ _ _ _ us hl=>match us,hl with| [_,_],_=>rfl
 have VN:a9 K Rd "take_end" "Reader.take_end" mF ["self"]:=bM axre lxre fun _ _ _ _ _ _ us hl=>match us,hl with| [_],_=>rfl
 have VO:a9 K Rd "read_whole" "Reader.read_whole" mG ["self"]:=bM axrw UM fun _ _ _ _ _ _ us hl=>match us,hl with| [_],_=>rfl
 have VP:a9 K Rc "read_whole" "Reader.read_whole" mG ["self"]:=bM bxrw UM fun _ _ _ _ _ _ us hl=>match us,hl with| [_],_=>rfl
 have VQ:a9 K Rd "read_electron" "Reader.read_electron" gX ["self"]:=bM axrl UN fun _ _ _ _ _ _ us hl=>match us,hl with| [_],_=>rfl
 have VR:a9 K Rc "read_electron" "Reader.read_electron" gX ["self"]:=bM bxrl UN fun _ _ _ _ _ _ us hl=>match us,hl with| [_],_=>rfl
 have O8:a9 K Rd "read_parts" "Reader.read_parts" kO ["self","around"]:=bM UO L8 fun _ _ _ _ _ _ us hl=>match us,hl with| [_,_],_=>rfl
 have O9:a9 K Rc "read_parts" "Reader.read_parts" kO ["self","around"]:=bM U9 L8 fun _ _ _ _ _ _ us hl=>match us,hl with| [_,_],_=>rfl
 have VS:a9 K Rd "read_part" "Reader.read_part" oh ["self","around"]:=bM axrp UP fun _ _ _ _ _ _ us hl=>match us,hl with| [_,_],_=>rfl
 have VT:a9 K Rc "read_part" "Reader.read_part" oh ["self","around"]:=bM bxrp UP fun _ _ _ _ _ _ us hl=>match us,hl with| [_,_],_=>rfl
 have VU:a9 K Rd "read_group" "Reader.read_group" jw ["self","around"]:=bM axrg UQ fun _ _ _ _ _ _ us hl=>match us,hl with| [_,_],_=>rfl
 have VW:a9 K Rc "read_group" "Reader.read_group" jw ["self","around"]:=bM bxrg UQ fun _ _ _ _ _ _ us hl=>match us,hl with| [_,_],_=>rfl
 have Pa:a9 K Rd "read_atom" "Reader.read_atom" qT ["self"]:=bM UR L9 fun _ _ _ _ _ _ us hl=>match us,hl with| [_],_=>rfl
 have Pb:a9 K Rc "read_atom" "Reader.read_atom" qT ["self"]:=bM U' L9 fun _ _ _ _ _ _ us hl=>match us,hl with| [_],_=>rfl
 have VX:a9 K Rd "read_count" "Reader.read_count" mH ["self"]:=bM axrc US fun _ _ _ _ _ _ us hl=>match us,hl with| [_],_=>rfl
 have VY:a9 K Rc "read_count" "Reader.read_count" mH ["self"]:=bM bxrc US fun _ _ _ _ _ _ us hl=>match us,hl with| [_],_=>rfl
 have VZ:a9 K Rd "read_number" "Reader.read_number" kd ["self","longest"]:=bM axrn UT fun _ _ _ _ _ _ us hl=>match us,hl with| [_,_],_=>rfl
 have V0:a9 K Rc "read_number" "Reader.read_number" kd ["self","longest"]:=bM bxrn UT fun _ _ _ _ _ _ us hl=>match us,hl with| [_,_],_=>rfl
 have Pd:a9 K Rd "read_charge" "Reader.read_charge" kg ["self"]:=bM UU L' fun _ _ _ _ _ _ us hl=>match us,hl with| [_],_=>rfl
 have Pe:a9 K Rc "read_charge" "Reader.read_charge" kg ["self"]:=bM Va L' fun _ _ _ _ _ _ us hl=>match us,hl with| [_],_=>rfl
 have V1:Def K mg "read_formula" "read_formula" kQ ["text"]:=cw X G axrf lxrf fun _ _ _ _ _ _ us hl=>match us,hl with| [_],_=>rfl
 have Mg:Def K mg "parts_counts" "parts_counts" jc ["parts","times"]:=cw X G axpc lxpc fun _ _ _ _ _ _ us hl=>match us,hl with| [_,_],_=>rfl
 have V2:a9 K C "counts" "Atom.counts" pO ["self"]:=bM axco lxco fun _ _ _ _ _ _ us hl=>match us,hl with| [_],_=>rfl
 have V3:a9 K Gr "counts" "Group.counts" je ["self"]:=bM axgc lxgc fun _ _ _ _ _ _ us hl=>match us,hl with| [_],_=>rfl
 have V4:a9 K Pc "counts" "Piece.counts" gG ["self"]:=bM axpC lxpC fun _ _ _ _ _ _ us hl=>match us,hl with| [_],_=>rfl
 have V5:a9 K Fo "counts" "Formula.counts" mE ["self"]:=bM axfC lxfC fun _ _ _ _ _ _ us hl=>match us,hl with| [_],_=>rfl
 have V6:lB K Ch "Change.__init__" vH ["self","lefts","rights"] []:=FD mkCh axci kcCh lxci fun _ _ _ _ _ _ us hl=>match us,hl with| [_,_,_],_=>rfl
 have V7:Def K mg "formula_amounts" "formula_amounts" mI ["formula"]:=cw X G axam lxam fun _ _ _ _ _ _ us hl=>match us,hl with| [_],_=>rfl
 have V8:a9 K Ch "kinds" "Change.kinds" vI ["self"]:=bM axkd lxkd fun _ _ _ _ _ _ us hl=>match us,hl with| [_],_=>rfl
 have V9:a9 K Rc "read_term" "ChangeReader.read_term" vJ ["self"]:=bM axrm lxrm fun _ _ _ _ _ _ us hl=>match us,hl with| [_],_=>rfl
 have Pf:a9 K Rc "read_lefts" "ChangeReader.read_lefts" pP ["self"]:=bM UW UX fun _ _ _ _ _ _ us hl=>match us,hl with| [_],_=>rfl
 have Pg:a9 K Rc "read_rights" "ChangeReader.read_rights" mJ ["self"]:=bM UY UZ fun _ _ _ _ _ _ us hl=>match us,hl with| [_],_=>rfl
 have Ph:a9 K Rc "read_sides" "ChangeReader.read_sides" pQ ["self"]:=bM U0 U1 fun _ _ _ _ _ _ us hl=>match us,hl with| [_],_=>rfl
 have KO:Def K mg "read_change" "read_change" mK ["text"]:=cw X G OX OY fun _ _ _ _ _ _ us hl=>match us,hl with| [_],_=>rfl
 have V':Def K mg "side_counts" "side_counts" iA ["terms"]:=cw X G axsc lxsc fun _ _ _ _ _ _ us hl=>match us,hl with| [_],_=>rfl
 have Wa:Def K mg "gains" "gains" qU ["change"]:=cw X G axgn lxgn fun _ _ _ _ _ _ us hl=>match us,hl with| [_],_=>rfl
 have Wb:Def K mg "side_amounts" "side_amounts" gI ["terms"]:=cw X G axsa lxsa fun _ _ _ _ _ _ us hl=>match us,hl with| [_],_=>rfl
 have Wc:a9 K Ch "lost" "Change.lost" tK ["self"]:=bM axlo lxlo fun _ _ _ _ _ _ us hl=>match us,hl with| [_],_=>rfl
 have Wd:Def K mg "read_even" "read_even" kR ["text"]:=cw X G axev lxev fun _ _ _ _ _ _ us hl=>match us,hl with| [_],_=>rfl
 have We:Def K mg "turns_of" "turns_of" mL ["amount","taken","gain"]:=cw X G axto lxto fun _ _ _ _ _ _ us hl=>match us,hl with| [_,_,_],_=>rfl
 have Wf:Def K mg "most_turns" "most_turns" fP ["change","amounts"]:=cw X G axmo lxmo fun _ _ _ _ _ _ us hl=>match us,hl with| [_,_],_=>rfl
 have Wg:Def K mg "turned" "turned" pR ["change","times","amounts"]:=cw X G axtu lxtu fun _ _ _ _ _ _ us hl=>match us,hl with| [_,_,_],_=>rfl
 have Pj:Def K mg "refuse_short" "refuse_short" gJ ["change","times","amounts","step"]:=cw X G U2 U3 fun _ _ _ _ _ _ us hl=>match us,hl with| [_,_,_,_],_=>rfl
 have xq:PySem.W.eY K Sh HE Cu:=⟨obSh,U4,OZ,saSh,gaSh,ghSh⟩
 have Pl:FA K mg "Short" Sh HE "Short.__init__" vK ["self","step","turn","formula","lack"]:=Ri xq (PySem.W.mg_of X G aSh) kcSh U5 fun _ _ _ _ _ _ us hl=>match us,hl with| [_,_,_,_,_],_=>rfl
 have Wh:Js K St "Store.__init__" fQ ["self","amounts"]:=⟨_,_,_,kI (st:=fQ) lxsi cxsi kxsi,⟨mkSt,axsi,ixsi,kcSt⟩,fun s us hk hl=>match us,(show us.length=2 by simpa using hl) with| [_,_],_=>PySem.W.binds_K (K:=K) (fd:=PySem.W.fnOf "__init__" "Store.__init__" (bF fQ) (a5 fQ) (aj fQ) (.ref CG) HH HI HJ Hs Cz HK) hk rfl U6 rfl rfl rfl,fun s us hk hl=>match us,(show us.length=1 by simpa using hl) with| [_],_=>PySem.W.binds_K (K:=K) (fd:=PySem.W.fnOf "__init__" "Store.__init__" (bF fQ) (a5 fQ) (aj fQ) (.ref CG) HH HI HJ Hs Cz HK) hk rfl U6 rfl rfl rfl⟩
 have Wi:a9 K St "have" "Store.have" Bh ["self","text"]:=bM axsv lxsv fun _ _ _ _ _ _ us hl=>match us,hl with| [_,_],_=>rfl
 have Wj:a9 K St "put" "Store.put" Jy ["self","text","many"]:=bM axsp lxsp fun _ _ _ _ _ _ us hl=>match us,hl with| [_,_,_],_=>rfl
 have Wk:Bg K St "go" "Store.go" Dh ["self","text","times"] [1]:=⟨_,_,_,kI (st:=Dh) lxso cxso U8,⟨axso,ixso,U8⟩,fun j hj=>match j,hj with|0,_=>⟨[.int 1 L6], .cons ⟨_,rfl⟩ (.nil),fun s us hk hl=>match us,(show us.length=2 by simpa using hl) with| [_,_],_=>PySem.W.binds_K (K:=K) (fd:=PySem.W.fnOf "go" "Store.go" (bF Dh) (a5 Dh) (aj Dh) (.ref CF) HL HM HN Ht CA HP) hk rfl U7 rfl rfl rfl⟩ |1,_=>⟨[], .nil,fun s us hk hl=>match us,(show us.length=3 by simpa using hl) with| [_,_,_],_=>PySem.W.binds_K (K:=K) (fd:=PySem.W.fnOf "go" "Store.go" (bF Dh) (a5 Dh) (aj Dh) (.ref CF) HL HM HN Ht CA HP) hk rfl U7 rfl rfl rfl⟩⟩
 have Wl:a9 K St "go_all" "Store.go_all" qV ["self","rows"]:=bM axsy lxsy fun _ _ _ _ _ _ us hl=>match us,hl with| [_,_],_=>rfl
 have Wm:a9 K St "stocks" "Store.stocks" mM ["self"]:=bM axss lxss fun _ _ _ _ _ _ us hl=>match us,hl with| [_],_=>rfl
 have Wn:a9 K St "went" "Store.went" yb ["self"]:=bM axsw lxsw fun _ _ _ _ _ _ us hl=>match us,hl with| [_],_=>rfl
 have Wo:Def K mg "_law_cell_at" "_law_cell_at" pS ["_law_script","_law_k"]:=cw X G axca lxca fun _ _ _ _ _ _ us hl=>match us,hl with| [_,_],_=>rfl
 have Wq:Def K mg "_law_mixed" "_law_mixed" vL ["_law_cell","_law_prime"]:=cw X G axmi lxmi fun _ _ _ _ _ _ us hl=>match us,hl with| [_,_],_=>rfl
 have Wr:Def K mg "_law_whole" "_law_whole" vM ["_law_found"]:=cw X G axwh lxwh fun _ _ _ _ _ _ us hl=>match us,hl with| [_],_=>rfl
 have Ws:Def K mg "_law_kind" "_law_kind" Bi ["_law_number"]:=cw X G axki lxki fun _ _ _ _ _ _ us hl=>match us,hl with| [_],_=>rfl
 have Wt:Def K mg "_law_figures" "_law_figures" mN ["_law_count_here"]:=cw X G axfg lxfg fun _ _ _ _ _ _ us hl=>match us,hl with| [_],_=>rfl
 have Wu:Def K mg "_law_matter" "_law_matter" mO ["_law_cell","_law_kinds"]:=cw X G axlm lxlm fun _ _ _ _ _ _ us hl=>match us,hl with| [_,_],_=>rfl
 have Wv:Def K mg "_law_world" "_law_world" oj ["_law_script"]:=cw X G axlw lxlw fun _ _ _ _ _ _ us hl=>match us,hl with| [_],_=>rfl
 have Ww:Def K mg "_law_change" "_law_change" kh ["_law_cell","_law_world_here"]:=cw X G axlc lxlc fun _ _ _ _ _ _ us hl=>match us,hl with| [_,_],_=>rfl
 have Wx:Def K mg "_law_text" "_law_text" Bj ["_law_lefts","_law_rights"]:=cw X G axlt lxlt fun _ _ _ _ _ _ us hl=>match us,hl with| [_,_],_=>rfl
 have Wy:Def K mg "_law_asked" "_law_asked" vN ["_law_terms"]:=cw X G axlk lxlk fun _ _ _ _ _ _ us hl=>match us,hl with| [_],_=>rfl
 have Wz:Def K mg "_law_texts" "_law_texts" vO ["_law_world_here"]:=cw X G axlx lxlx fun _ _ _ _ _ _ us hl=>match us,hl with| [_],_=>rfl
 have WA:Def K mg "_law_amounts" "_law_amounts" jf ["_law_found","_law_due"]:=cw X G axla lxla fun _ _ _ _ _ _ us hl=>match us,hl with| [_,_],_=>rfl
 have WB:Def K mg "_law_others" "_law_others" pT ["_law_e"]:=cw X G axlz lxlz fun _ _ _ _ _ _ us hl=>match us,hl with| [_],_=>rfl
 have WC:Def K mg "_law_walked" "_law_walked" pU ["_law_amounts_here","_law_lefts","_law_rights","_law_times"]:=cw X G axlv lxlv fun _ _ _ _ _ _ us hl=>match us,hl with| [_,_,_,_],_=>rfl
 have WD:Def K mg "_law_gone" "_law_gone" Bk ["_law_store","_law_text_here","_law_times","_law_bare"]:=cw X G axlg lxlg fun _ _ _ _ _ _ us hl=>match us,hl with| [_,_,_,_],_=>rfl
 have WE:Def K mg "_law_same" "_law_same" vP ["_law_store","_law_amounts_here","_law_went"]:=cw X G axls lxls fun _ _ _ _ _ _ us hl=>match us,hl with| [_,_,_],_=>rfl
 have Flaw:=MK (st:=vQ) llaw claw klaw
 refine⟨PySem.W.fnOf "law" "law" (bF vQ) (a5 vQ) (aj vQ) .none LX LY LZ LW HQ L0,fun s v=> .of_eq rfl,fun base _ _=>?_⟩
 have TH:Gd K mg C Rc Gr Pc Fo Ch uK uN uB uE uM uC uP uI uD uL uT eR eS eU:=⟨⟨⟨⟨⟨⟨pgC,hdC,poC,saC⟩,Ma,HS,PySem.W.mg_of X G aC,PySem.W.mg_none_of X G Mb,PySem.W.mg_none_of X G Mc,PySem.W.mg_none_of X G Md,PySem.W.mg_none_of X G HU,PySem.W.mg_none_of X G CH,PySem.W.mg_none_of X G nI,fq,mv,fq,fq,fq⟩,⟨pgRc,hdRc,poRc,saRc⟩,nct,ncp,PySem.W.mg_of X G lK,PySem.W.mg_of X G kB⟩,⟨Vb,Vc,Vd,Ve⟩,ngp,ngc,PySem.W.mg_of X G aGr,PySem.W.mg_of X G nJ,PySem.W.mg_of X G si,PySem.W.mg_of X G gC⟩,PySem.W.mg_of X G nK,PySem.W.mg_of X G Mf,PySem.W.mg_of X G HY,⟨Vf,Vg,Vh,Vi⟩,⟨Vj,Vk,Vl,Vm⟩,npp,Xs,nfp,nfc,PySem.W.mg_of X G aPc,PySem.W.mg_of X G aFo,PySem.W.mg_of X G sj,PySem.W.mg_of X G uY,PySem.W.mg_of X G lL,PySem.W.mg_none_of X G HV,PySem.W.mg_none_of X G Me⟩,PySem.W.mg_none_of X G HW,⟨pgCh,hdCh,poCh,saCh⟩,nlf,nrf,PySem.W.mg_of X G aCh,PySem.W.mg_of X G O4,PySem.W.mg_of X G O5,PySem.W.mg_of X G O6⟩
 have TK:nu K mg C Rc Gr Pc Fo Ch uK uN uB uE uM uC uP uI uD uL uT eR eS eU uG uS:=⟨TH,PySem.W.mg_of X G lE,PySem.W.mg_of X G aRc,PySem.W.mg_of X G zo⟩
 have TL:Gu K mg C Rc Gr Pc Fo Ch uK uN uB uE uM uC uP uI uD uL uT eR eS eU:=⟨TH,PySem.W.mg_none_of X G HX,PySem.W.mg_none_of X G Vo⟩
 have TM:R5 K mg C Rc Gr Pc Fo Ch uK uN uB uE uM uC uP uI uD uL uT eR eS eU uG uS:=⟨TK,PySem.W.mg_none_of X G Vp⟩
 have TO:N2 K mg C Rc Gr Pc Fo Ch St uK uN uB uE uM uC uP uI uD uL uT eR eS eU uG uS:=⟨TK,PySem.W.mg_none_of X G pk,⟨O0,O1,O2,O3⟩,nam,ngo⟩
 have TS:pD K mg C Rd Gr Pc Fo St uK uN uB uE uM uC uP uI uD uL uT:=⟨T,PySem.W.mg_none_of X G HW,PySem.W.mg_none_of X G Vn,⟨O0,O1,O2,O3⟩,nam,ngo,PySem.W.mg_of X G aSt⟩
 have TF:Rt K mg C Rd Gr Pc Fo uK uN uB uE uM uC uP uI uD uL uT:=⟨T,PySem.W.mg_of X G aRd⟩
 have TE:Ke K mg HE Sh:=⟨PySem.W.mg_of X G aHE,⟨hE1,hE2,hE3⟩,⟨hE4⟩,PySem.W.mg_of X G aSh,tS1,tS2,tS3,tS4,fS1,fS2,fS3,fS4,⟨t1,t2,t3⟩,uS1⟩
 have TA:oo K mg C:=T.tori.tosG.tooo
 have KP:=FN (P:=l.prog) (w:=w) (base:=base) Vq
 have WG:=FO (P:=l.prog) (w:=w) (base:=base) Vr
 have WH:=Dn (P:=l.prog) (w:=w) (base:=base) Vs
 have KQ:=rZ (P:=l.prog) (w:=w) (base:=base) Vt TA
 have WI:=JO (P:=l.prog) (w:=w) (base:=base) O7 TA
 have q_sh:=He Vv TA KQ
 have WJ:=F6 (P:=l.prog) (w:=w) (base:=base) Vw T
 have WK:=F7 (P:=l.prog) (w:=w) (base:=base) Vy T
 have KR:=F8 (P:=l.prog) (w:=w) (base:=base) VC T
 have WL:=Al (P:=l.prog) (w:=w) (base:=base) VA T
 have q_ri:=yf (P:=l.prog) (w:=w) (base:=base) VE T.tori.tosG
 have Ef:=Bq (P:=l.prog) (w:=w) (base:=base) VG T.tori.tosG
 have KS:=Br VI T.tori.tosG Ef
 have q_ra:=rg VL T.tori.tosG KS
 have q_rn:=tT VZ T.tori.tosG Ef WH
 have KU:=tU VX T.tori.tosG q_rn
 have WM:=yg Pa T.tori.tosG Ef KP WG KU WI
 have WN:=ro VU VS O8 T.tori Ef KP WM KS KU WJ 1
 have WO:=rp Pd T.toRn Ef KS KU
 have q_rl:=nh 1 VQ T q_ra KR
 have q_rw:=ub 1 VO T Ef KS KU WN WO q_rl WK KR
 have q_re:=Ag (P:=l.prog) (w:=w) (base:=base) VN T.tori.tosG
 have q_rf:=ym 1 V1 TF WL q_ri q_rw q_re
 have q_ps:=uc Vu Vx T.tori q_sh KQ 1
 have q_pS:=rF 1 Vz T q_ps KQ
 have q_ch:=oG VB T KQ
 have q_fS:=Aq 1 VD T q_pS q_ch
 have q_co:=DF (P:=l.prog) (w:=w) (base:=base) V2 TA
 have q_pc:=rM Mg V3 T.tori q_co 1
 have q_pC:=pB 1 V4 T q_pc
 have q_pP:=yw 1 Mg T q_pC
 have WQ:=yx 1 V5 T q_pP
 have p_ri:=yf (P:=l.prog) (w:=w) (base:=base) VF TH.tolC.tori.tosG
 have Eg:=Bq (P:=l.prog) (w:=w) (base:=base) VH TH.tolC.tori.tosG
 have HZ:=Br VJ TH.tolC.tori.tosG Eg
 have Po:=rg VM TH.tolC.tori.tosG HZ
 have WR:=tT V0 TH.tolC.tori.tosG Eg WH
 have KW:=tU VY TH.tolC.tori.tosG WR
 have WS:=yg Pb TH.tolC.tori.tosG Eg KP WG KW WI
 have WT:=ro VW VT O9 TH.tolC.tori Eg KP WS HZ KW WJ 1
 have WU:=rp Pe TH.tolC.toRn Eg HZ KW
 have p_rl:=nh 1 VR TH.tolC Po KR
 have p_rw:=ub 1 VP TH.tolC Eg HZ KW WT WU p_rl WK KR
 have q_ci:=Gf (P:=l.prog) (w:=w) (base:=base) V6 TH
 have WV:=Gk V9 TK WR HZ p_rw
 have WW:=DJ Pf TK WV Po
 have WX:=Av Pg TK WV Po
 have WY:=DK Ph TK WW WX q_ci
 have Pp:=Ay KO TK WL p_ri WY
 have Pq:=sN V' TK q_fS
 have WZ:=Gs Wa TK Pq
 have q_am:=Az V7 TH WQ
 have q_kd:=Gz V8 TL WQ
 have q_sa:=rS Wb TL q_am
 have q_lo:=J6 Wc TL q_sa q_kd
 have q_ev:=yW Wd TK Pp q_lo
 have q_to:=AG (P:=l.prog) (w:=w) (base:=base) We
 have q_mo:=Km Wf TM Pq WZ q_to
 have W0:=DX Wg TK WZ
 have W2:=GP (P:=l.prog) (w:=w) (base:=base) Pl TE
 have W3:=DR Pj TK TE q_mo W0 Pq W2
 have W4:=GS Wl TO q_ev W3 W0
 have q_go:=R3 Wk TO W4
 have W5:=J8 Wi TS q_rf
 have W6:=NP Wj TS W5
 have q_si:=GK Wh TS W6
 have q_sk:=DO (P:=l.prog) (w:=w) (base:=base) Wm TS
 have TX:N6 K mg C HE Sh St X1 X2 X3 X4 X5 X6 X7 X8 X9:=⟨TE,TA,⟨O0,O1,O2,O3⟩,PySem.W.mg_none_of X G xp,PySem.W.mg_of X G aX1,PySem.W.mg_of X G aX2,PySem.W.mg_of X G aX3,PySem.W.mg_of X G aX4,PySem.W.mg_of X G aX5,PySem.W.mg_of X G aX6,PySem.W.mg_of X G aX7,PySem.W.mg_of X G aX8,PySem.W.mg_of X G aX9,gF w1 y1 m1 KN,gF w2 y2 m2 KN,gF w3 y3 m3 KN,gF w4 y4 m4 KN,gF w5 y5 m5 KN,gF w6 y6 m6 KN,gF w7 y7 m7 KN,gF w8 y8 m8 KN,gF w9 y9 m9 KN,Jx xq,FC _⟩
 have q_we:=G2 (P:=l.prog) (w:=w) (base:=base) Wn TS
 have W7:=As (P:=l.prog) (w:=w) (base:=base) Wo TA
 have q_mi:=NT (P:=l.prog) (w:=w) (base:=base) Wq
 have W8:=F4 (P:=l.prog) (w:=w) (base:=base) Wr TA
 have q_ki:=F5 (P:=l.prog) (w:=w) (base:=base) Ws TA
 have q_fg:=Ar (P:=l.prog) (w:=w) (base:=base) Wt TA
 have q_lm:=DP Wu TS q_fg
 have q_lw:=GY Wv TS W7 q_mi q_ki q_lm
 have q_lc:=AK (P:=l.prog) (w:=w) (base:=base) Ww TL
 have q_lt:=G4 (P:=l.prog) (w:=w) (base:=base) Wx TA
 have q_lk:=GX (P:=l.prog) (w:=w) (base:=base) Wy
 have q_lx:=G0 (P:=l.prog) (w:=w) (base:=base) Wz TS
 have q_la:=Ko WA TS W8
 have q_lz:=DV (P:=l.prog) (w:=w) (base:=base) WB TX xq
 have q_lv:=D0 WC TK q_lk
 have q_lg:=Kl WD TX xq q_go q_lz W8
 have q_ls:=G3 WE TS W5 q_sk q_la q_we
 have TZ:SF K mg C Rd Gr Pc Fo St uK uN uB uE uM uC uP uI uD uL uT:=⟨TS,PySem.W.mg_none_of X G pk⟩
 exact Ol Flaw TZ q_lw q_lx W7 q_lc q_si q_lt W6 q_lv q_lg q_ls
theorem walk {l:PySem.W.OpenLaw} {q:Program} {loose:List Str} {XP:(Str→Option Value)→Heap→Prop} {YP:World→Heap→Prop} {d:DefRec} {K:Params→PySem.W.Frag} (hn:l.most=some 63) (QO:d.params.defaults=[])
  (hY:∀(w:World) (h:Heap),YP w h→(K w.params).In h)
  (F:∀(w:World) (mg:Str→Option Value) (fa:Addr) (h:Heap),(K w.params).In h→h.Ns mainGlobals mg→mg d.name=some (.ref fa)→
   ∃fd:FuncData,(∀(s:Shared) (u:Value),BindsTo s fd ⟨[u],[]⟩ [("_law_script",u)])∧∀base:Heap,(K w.params).In base→base.Ns mainGlobals mg→fe l.prog w (K w.params) mg base qB 20 fa fd ["_law_script"] (Cr (K w.params))):
  PySem.W.WalkO q loose XP YP l.row.toRowW d [] (fun f vs=>PySem.call f vs):=
 L2.IU (n:=63) (k:=20) (x:="_law_script") (CX:=fun _=>qB) (sp:=fun w=>Cr (K w.params)) hn (by decide) QO ⟨rfl,by decide,by decide⟩ hY F (fun _ _ a ns hl _ hS=>⟨a,ns,rfl,hS,hl,fun _=>rfl⟩) fun _ _ _ _ _ z=>z
end Y7
open PySem PySem.W PyProof.Rows
def PySem.W.Fast.tw6226277400679494588:Nat:=0
def PySem.W.Fast.tw8737068249402132278:Nat:=0
def PySem.W.Fast.tw16767038338319568482:Nat:=0
def PySem.W.Fast.tw10467769176056931465:Nat:=0
def PySem.W.Fast.tw11050591873346981960:Nat:=0
def PySem.W.Fast.tw1212951452253920105:Nat:=0
def PySem.W.Fast.tw13881486173903819497:Nat:=0
def PySem.W.Fast.tw15647453874355519395:Nat:=0
def PySem.W.Fast.tw2369393494674754772:Nat:=0
def PySem.W.Fast.tw14334507073624103327:Nat:=0
def PySem.W.Fast.tw16693084132823612559:Nat:=0
def PySem.W.Fast.tw15047037417253385572:Nat:=0
def PySem.W.Fast.tw8000735062276305091:Nat:=0
def PySem.W.Fast.tw75455924751323070:Nat:=0
def PySem.W.Fast.tw15784677433138465909:Nat:=0
def PySem.W.Fast.tw11573807895462643801:Nat:=0
def PySem.W.Fast.tw14218304173008446162:Nat:=0
def PySem.W.Fast.tw6792004702052107924:Nat:=0
def PySem.W.Fast.tw1738734081389840681:Nat:=0
def PySem.W.Fast.tw5916493153434502530:Nat:=0
def PySem.W.Fast.tw15377646078099674295:Nat:=0
def PySem.W.Fast.tw17167442950181406279:Nat:=0
def PySem.W.Fast.tw9677899187116803965:Nat:=0
def PySem.W.Fast.tw17856815496217239272:Nat:=0
set_option maxRecDepth 100000 in
set_option maxHeartbeats 0 in
theorem PySem.Challenge.cw_balancehall_k51_turns_walked_holds:PySem.Challenge.rw_balancehall_k51_turns_walked.Holds:=by
 w_on;o_law;k_head;(case hw=>w_witness2)
 k_fill
 refine Y7.walk (l:=PySem.Challenge.rw_balancehall_k51_turns_walked) rfl rfl (fun w h Y=>PySem.W.kIn_of Y) ?F
 case F=>
  intro w mg fa h KX G QP
  apply Y7.all_mk KX G QP
  all_goals first|k_is|exact⟨⟨_,⟨⟨_,_,_,_,_,_,_,_,_,rfl,by k_is,by k_is⟩,by k_is⟩⟩,by k_is⟩ |exact⟨_,_,_,_,_,_,_,_,_,_,_,_,_,_,_,_,_,by k_is,by decide+kernel⟩ |exact⟨_,_,_,_,_,_,_,_,_,_,_,_,_,_,by k_is⟩
