import PyProof.Rows.All
import Wide.All
import OpenK.AllK
import Wide.FinOn
import Lean
import PyProof.EqAt
import PyProof.EqKinds
import PyProof.TupleCall
import PySem.Challenge.RW_balancehall_k52_turns_far
set_option Elab.async false
set_option linter.all false
set_option maxRecDepth 100000
namespace L2
open PySem PySem.Spec PyProof.Rows
abbrev Key:=Sum Int Str
def qe:Key→Value→Bool
 | .inl k,v=>Value.isInt k v
 | .inr x,v=>Value.isStrOf x v
def Zm (w:World):Key→Int
 | .inl k=>hashInt k
 | .inr x=>hashStr w x
theorem cf:∀{k:Key} {v:Value},qe k v=true→(∃i t,k=Sum.inl i∧v=Value.int i t)∨(∃x t,k=Sum.inr x∧v=Value.str x t)
 | .inl i,v,h=>by
   obtain⟨t,e⟩:=Value.isInt_shape (k:=i) (v:=v) h
   exact .inl ⟨i,t,rfl,e⟩
 | .inr x,v,h=>by
   obtain⟨t,e⟩:=Value.isStrOf_shape (x:=x) (v:=v) h
   exact .inr ⟨x,t,rfl,e⟩
theorem Cr (i:Int) (t:Tok):qe (.inl i) (.int i t)=true:=by simp [qe,Value.isInt]
theorem Cs (x:Str) (t:Tok):qe (.inr x) (.str x t)=true:=by simp [qe,Value.isStrOf]
theorem Na (a b:Int):decide ((Sum.inl a:Key)=Sum.inl b)=(a==b):=by
 by_cases e:a=b
 ·subst e;simp
 ·have h:¬(Sum.inl a:Key)=Sum.inl b:=fun q=>e (Sum.inl.inj q)
  rw[decide_eq_false h]
  exact(beq_eq_false_iff_ne.mpr e).symm
theorem Nb (a b:Str):decide ((Sum.inr a:Key)=Sum.inr b)=decide (a=b):=by
 by_cases e:a=b
 ·subst e;simp
 ·have h:¬(Sum.inr a:Key)=Sum.inr b:=fun q=>e (Sum.inr.inj q)
  rw[decide_eq_false h,decide_eq_false e]
theorem Nc (a:Int) (b:Str):decide ((Sum.inl a:Key)=Sum.inr b)=false:=decide_eq_false (fun q=>nomatch q)
theorem Nd (a:Str) (b:Int):decide ((Sum.inr a:Key)=Sum.inl b)=false:=decide_eq_false (fun q=>nomatch q)
def bD (prog:Program) (w:World):PySem.KeyKind prog w Key where
 is:=qe
 hash:=Zm w
 inj:=fun v a b ha hb=>by
  rcases cf ha with ⟨i,t,rfl,rfl⟩ | ⟨x,t,rfl,rfl⟩
  ·rcases cf hb with ⟨j,u,rfl,e⟩ | ⟨y,u,rfl,e⟩
   ·injection e with e1 _;rw[e1]
   ·exact nomatch e
  ·rcases cf hb with ⟨j,u,rfl,e⟩ | ⟨y,u,rfl,e⟩
   ·exact nomatch e
   ·injection e with e1 _;rw[e1]
 byValue:=fun k v h=>by
  rcases cf h with ⟨i,t,rfl,rfl⟩ | ⟨x,t,rfl,rfl⟩<;>rfl
 pyHash:=fun hv h=>by
  rcases cf hv with ⟨i,t,rfl,rfl⟩ | ⟨x,t,rfl,rfl⟩
  ·exact wpAny_pyHash_int h
  ·exact wpAny_pyHash_str h
 eqBool:=fun hu hv h=>by
  rcases cf hu with ⟨i,t,rfl,rfl⟩ | ⟨x,t,rfl,rfl⟩
  ·rcases cf hv with ⟨j,u,rfl,rfl⟩ | ⟨y,u,rfl,rfl⟩
   ·rw[Na] at h;exact wpAny_eqBool_int h
   ·rw[Nc] at h;exact SeqAt.EqAt.int_str i t y u _ _ _ _ h
  ·rcases cf hv with ⟨j,u,rfl,rfl⟩ | ⟨y,u,rfl,rfl⟩
   ·rw[Nd] at h;exact SeqAt.EqAt.str_int x t j u _ _ _ _ h
   ·rw[Nb] at h;exact wpAny_eqBool_str h
 «strs» :=fun k x t v h=>by
  rcases cf h with ⟨i,u,rfl,e⟩ | ⟨y,u,rfl,e⟩
  ·exact nomatch e
  ·injection e with e1 _
   subst e1
   cases v<;>rfl
theorem qf (prog:Program) (w:World) (k:Key) (v:Value):(bD prog w).is k v=qe k v:=rfl
theorem xf (prog:Program) (w:World) (i:Int) (t:Tok):(bD prog w).is (.inl i) (.int i t)=true:=Cr i t
theorem xg (prog:Program) (w:World) (x:Str) (t:Tok):(bD prog w).is (.inr x) (.str x t)=true:=Cs x t
end L2
namespace L2
open PySem PySem.Spec PyProof.Rows
inductive V where
 |cI|bl (b:Bool) |int (i:Int) |str (x:Str) |yT (b:Array UInt8) |LN (b:UInt64) |ref (a:Addr) |ty (n:String)
 deriving DecidableEq
def RelV:V→Value→Prop
 | .cI,u=>u=Value.none
 | .bl b,u=>u=Value.bool b
 | .int i,u=>∃t,u=Value.int i t
 | .str x,u=>∃t,u=Value.str x t
 | .yT b,u=>∃t,u=Value.bytes b t
 | .LN b,u=>∃t,u=Value.float b t
 | .ref a,u=>u=Value.ref a
 | .ty n,u=>u=Value.type n
abbrev Vals:List V→List Value→Prop:=Paired RelV
theorem Vals.length {xs:List V} {us:List Value} (r:Vals xs us):xs.length=us.length:=Paired.length r
theorem Vals.get:∀{xs:List V} {us:List Value} {i:Nat} {x:V},Vals xs us→xs[i]? =some x→∃u,us[i]? =some u∧RelV x u
 |_,_,_,_, .nil,e=>by simp at e
 |_,_,0,_, .cons r _,e=>by simp at e;subst e;exact⟨_,rfl,r⟩
 |_,_,i+1,x, .cons _ t,e=>by
  obtain⟨u,h1,h2⟩:=Vals.get (i:=i) (x:=x) t (by simpa using e)
  exact⟨u,by simpa using h1,h2⟩
theorem Vals.append:∀{xs ys:List V} {us ws:List Value},Vals xs us→Vals ys ws→Vals (xs++ys) (us++ws)
 |_,_,_,_, .nil,s=>s
 |_,_,_,_, .cons r t,s=> .cons r (Vals.append t s)
def iy:Option V→Option Value→Prop
 |some v,some u=>RelV v u
 |none,none=>True
 |_,_=>False
def KV {κ:Type}:List (κ×V)→List (κ×Value)→Prop:=Paired fun (p:κ×V) (q:κ×Value)=>p.1=q.1∧RelV p.2 q.2
def kV:Key→V
 | .inl i=> .int i
 | .inr x=> .str x
inductive HO where
 |lst (xs:List V)
 |tup (xs:List V)
 |dK (kvs:List (Key×V)) |dT (kvs:List (List Key×V))
 |set (S:Int→Bool) (n:Nat)
 |ins (C dx:Addr) (fs:List (Str×V))
 |own (x:Addr)
 |xd (fs:List (Str×V))
 |met (f x:Addr)
 |Zn (lo hi:Int)
 |eC (o:Obj) (u:HO)
 |LO (ps:Array Value)
 |ext (φ:Heap→Prop)
abbrev Hp:=Addr→Option HO
def upd (H:Hp) (a:Addr) (o:HO):Hp:=fun b=>if b=a then some o else H b
theorem af {H:Hp} {a:Addr} {o:HO}:upd H a o a=some o:=by unfold upd;rw[if_pos rfl]
theorem ah {H:Hp} {a b:Addr} {o:HO} (h:b≠a):upd H a o b=H b:=by unfold upd;rw[if_neg h]
theorem jc {H:Hp} {a:Addr} {o u:HO}:upd (upd H a o) a u=upd H a u:=by
 funext b;unfold upd;split<;>rfl
theorem cD {H:Hp} {a b:Addr} {o u:HO} (h:H a=some o) (h':H b=some u) (d:o≠u):a≠b:=by
 intro e;subst e;rw[h] at h';exact d (Option.some.inj h')
theorem ag {H:Hp} {a b:Addr} {o:HO} (h:H a=some o) (h':H b=none):a≠b:=by
 intro e;subst e;rw[h] at h';cases h'
section
variable (P:Program) (w:World)
def cg (H:Hp) (h:Heap) (a:Addr):HO→Prop
 | .lst xs=>xs.length≤sizeLine∧∃(its:List Value) (n:Nat),Vals xs its∧h.get? a=some { cls:= .type "list",data:= .seq its.toArray n }
 | .tup xs=>xs.length≤sizeLine∧∃its:List Value,Vals xs its∧IsTup h a its.toArray
 | .dK kvs=>kvs.length≤sizeLine∧(a==sysModules)=false∧∃vs,KV kvs vs∧h.DictOf (bD P w) a vs
 | .dT kvs=>kvs.length≤sizeLine∧(a==sysModules)=false∧∃xs:List (List Key×Addr×Value),
   Paired (fun (p:List Key×V) (q:List Key×Addr×Value)=>p.1=q.1∧H q.2.1=some (.tup (p.1.map kV))∧RelV p.2 q.2.2) kvs xs∧
   ∃o es ep,h.get? a=some o∧o.ExactDict∧o.data= .dict es ep∧es.toList=xs.map (entryOfKey (tupleKind (bD P w)))∧(xs.map (·.1)).Nodup
 | .set S n=>h.SetOf (intKind P w) a S n
 | .ins C dx fs=>H dx=some (.own a)∧fs.length≤1000∧dx≠a∧h.get? a=some (PySem.W.instObj C dx)∧
   ∃mA,h.Ns1 dx mA∧(∀f,iy (fs.lookup f) (mA f))∧PySem.Within mA (fs.map (·.1))
 | .own _=>∃o,h.get? a=some o
 | .xd fs=>∃mA,h.Ns1 a mA∧∀f,iy (fs.lookup f) (mA f)
 | .Zn lo hi=>∃t u v,h.get? a=some { cls:= .type "range",data:= .fields #[.int lo t, .int hi u, .int 1 v] }
 | .eC o u=>h.get? a=some o∧cg H h a u
 | .LO ps=>h.get? a=some { cls:= .none,data:= .fields ps }
 | .met f x=>h.get? a=some (PySem.W.methodObj (.ref f) (.ref x))
 | .ext φ=>φ h∧(∃o,h.get? a=some o)∧∀h1 h2:Heap,φ h1→(∀o,h1.get? a=some o→h2.get? a=some o)→φ h2
def jQ (H:Hp) (h:Heap):Prop:=∀a o,H a=some o→cg P w H h a o
end
section
variable {P:Program} {w:World} {H H':Hp} {h h':Heap} {a:Addr} {o:HO}
theorem cg.lt (x:cg P w H h a o):a<h.objs.size:=by
 cases o with
 |lst xs=>obtain⟨_,_,_,_,e⟩:=x;exact Heap.lt_size e
 |tup xs=>obtain⟨_,_,_,p⟩:=x;exact p.lt
 |dK kvs=>obtain⟨_,_,_,_,o,_,_,e,_⟩:=x;exact Heap.lt_size e
 |dT kvs=>obtain⟨_,_,_,_,o,_,_,e,_⟩:=x;exact Heap.lt_size e
 |set S n=>obtain⟨o,_,_,_,e,_⟩:=x;exact Heap.lt_size e
 |ins C dx fs=>obtain⟨_,_,_,e,_⟩:=x;exact Heap.lt_size e
 |own y=>obtain⟨_,e⟩:=x;exact Heap.lt_size e
 |xd fs=>obtain⟨_,⟨_,_,_,e,_⟩,_⟩:=x;exact Heap.lt_size e
 |Zn lo hi=>obtain⟨_,_,_,e⟩:=x;exact Heap.lt_size e
 |eC ob u=>obtain⟨e,_⟩:=x;exact Heap.lt_size e
 |LO ps=>exact Heap.lt_size (show h.get? a=some _ from x)
 |met f y=>exact Heap.lt_size (show h.get? a=some _ from x)
 |ext φ=>obtain⟨_,⟨_,e⟩,_⟩:=x;exact Heap.lt_size e
theorem Paired.Nf {α β:Type} {F G:α→β→Prop}:∀{l₁:List α} {l₂:List β},Paired F l₁ l₂→(∀a b,F a b→G a b)→Paired G l₁ l₂
 |_,_, .nil,_=> .nil
 |_,_, .cons r t,f=> .cons (f _ _ r) (Paired.Nf t f)
theorem cg.qg (x:cg P w H h a o) (k:∀b u,(b=a∨H b=some (.own a))→h.get? b=some u→h'.get? b=some u)
  (ho:∀b,H b=some (.own a)→H' b=some (.own a)) (ht:∀b xs,H b=some (.tup xs)→H' b=some (.tup xs)):cg P w H' h' a o:=by
 induction o with
 |lst xs=>obtain⟨z,its,n,r,e⟩:=x;exact⟨z,its,n,r,k _ _ (.inl rfl) e⟩
 |tup xs=>obtain⟨z,its,r,ob,e,c⟩:=x;exact⟨z,its,r,ob,k _ _ (.inl rfl) e,c⟩
 |dK kvs=>obtain⟨z,y,vs,r,ob,es,ep,e,c⟩:=x;exact⟨z,y,vs,r,ob,es,ep,k _ _ (.inl rfl) e,c⟩
 |dT kvs=>
  obtain⟨z,y,xs,r,ob,es,ep,e,c⟩:=x
  exact⟨z,y,xs,Paired.Nf r fun p q z=>⟨z.1,ht _ _ z.2.1,z.2.2⟩,ob,es,ep,k _ _ (.inl rfl) e,c⟩
 |set S n=>obtain⟨ob,es,ep,t,e,c⟩:=x;exact⟨ob,es,ep,t,k _ _ (.inl rfl) e,c⟩
 |ins C dx fs=>
  obtain⟨d,z,ne,e,mA,⟨od,es,ep,e2,c⟩,r⟩:=x
  exact⟨ho _ d,z,ne,k _ _ (.inl rfl) e,mA,⟨od,es,ep,k _ _ (.inr d) e2,c⟩,r⟩
 |own y=>obtain⟨ob,e⟩:=x;exact⟨ob,k _ _ (.inl rfl) e⟩
 |xd fs=>obtain⟨mA,⟨od,es,ep,e,c⟩,r⟩:=x;exact⟨mA,⟨od,es,ep,k _ _ (.inl rfl) e,c⟩,r⟩
 |Zn lo hi=>obtain⟨t,u,v,e⟩:=x;exact⟨t,u,v,k _ _ (.inl rfl) e⟩
 |eC ob u ih=>obtain⟨e,q⟩:=x;exact⟨k _ _ (.inl rfl) e,ih q⟩
 |LO ps=>
  have e:h.get? a=some { cls:= .none,data:= .fields ps }:=x
  show h'.get? a=some { cls:= .none,data:= .fields ps }
  exact k a _ (.inl rfl) e
 |met f y=>
  have e:h.get? a=some (PySem.W.methodObj (.ref f) (.ref y)):=x
  show h'.get? a=some (PySem.W.methodObj (.ref f) (.ref y))
  exact k a _ (.inl rfl) e
 |ext φ=>obtain⟨p,⟨o,e⟩,st⟩:=x;exact⟨st _ _ p fun o q=>k _ _ (.inl rfl) q,⟨o,k _ _ (.inl rfl) e⟩,st⟩
theorem jQ.lt (x:jQ P w H h) (e:H a=some o):a<h.objs.size:=(x a o e).lt
theorem jQ.fresh (x:jQ P w H h) (e:h.objs.size≤a):H a=none:=by
 cases q:H a with
 |none=>rfl
 |some u=>exact absurd (Nat.lt_of_lt_of_le (x.lt q) e) (Nat.lt_irrefl _)
theorem jQ.kept (x:jQ P w H h) (k:∀b u,h.get? b=some u→h'.get? b=some u):jQ P w H h':=fun a o e=>
 (x a o e).qg (fun b u _ q=>k b u q) (fun _ q=>q) fun _ _ q=>q
theorem jQ.laid (x:jQ P w H h) (k:∀b u,h.get? b=some u→h'.get? b=some u) (hp:h.objs.size≤a) (new:cg P w (upd H a o) h' a o):jQ P w (upd H a o) h':=fun b u e=>by
 have hn:=x.fresh hp
 by_cases hb:b=a
 ·subst hb;rw[af] at e;cases e;exact new
 ·rw[ah hb] at e
  exact(x b u e).qg (fun c v _ q=>k c v q) (fun c q=>by rw[ah (ag q hn)];exact q) fun c xs q=>by rw[ah (ag q hn)];exact q
end
def Rd (H:Hp) (a:Addr) (u:HO):Prop:=H a=some u∨∃o,H a=some (.eC o u)
theorem Rd.ok {P:Program} {w:World} {H:Hp} {h:Heap} {a:Addr} {u:HO} (r:Rd H a u) (x:jQ P w H h):cg P w H h a u:=by
 rcases r with r| ⟨o,r⟩
 ·exact x a u r
 ·obtain⟨_,q⟩:=x a _ r
  exact q
def Q4:Option HO→Prop
 |some (.lst _)=>True
 |some (.dK _)=>True
 |some (.dT _)=>True
 |some (.set _ _)=>True
 |some (.ins _ _ _)=>True
 |some (.ext _)=>True
 |_=>False
section
variable {P:Program} {w:World} {H:Hp} {h h':Heap} {x e:Addr} {o':HO}
theorem jQ.write (ok:jQ P w H h) (mu:Q4 (H x)) (he:e=x∨H e=some (.own x)) (k:∀b u,b≠e→h.get? b=some u→h'.get? b=some u) (QF:∃u,h'.get? e=some u)
  (new:cg P w (upd H x o') h' x o'):jQ P w (upd H x o') h':=fun b u q=>by
 have Q5:∀c y,H c=some (.own y)→c≠x:=fun c y r z=>by subst z;rw[r] at mu;exact mu
 have Zo:∀c xs,H c=some (.tup xs)→c≠x:=fun c xs r z=>by subst z;rw[r] at mu;exact mu
 by_cases hb:b=x
 ·subst hb;rw[af] at q;cases q;exact new
 ·rw[ah hb] at q
  by_cases yU:b=e
  ·have q':H b=some (.own x):=by
    rcases he with z|z
    ·exact absurd (yU.trans z) hb
    ·rw[yU];exact z
   rw[q] at q';cases q'
   obtain⟨v,hv⟩:=QF
   exact⟨v,by rw[yU];exact hv⟩
  ·refine(ok b u q).qg (fun c v hc r=>k c v ?_ r) (fun c r=>by rw[ah (Q5 c b r)];exact r) fun c xs r=>by rw[ah (Zo c xs r)];exact r
   rcases hc with rfl|hc
   ·exact yU
   ·rintro rfl
    rcases he with z|z
    ·exact Q5 c b hc z
    ·rw[hc] at z;cases z;exact hb rfl
end
structure Un (fs ex:List Addr) (H H':Hp) (h h':Heap):Prop where
 keep:∀b o,h.get? b=some o→H b=none→b∉fs→b∉ex→h'.get? b=some o
 slot:∀b o,h.get? b=some o→H b=none→b∈fs→b∉ex→∃sl,h'.get? b=some { o with slots:=sl }
 free:∀b o,h.get? b=some o→H b=none→b∉ex→H' b=none
 there:∀b o,h.get? b=some o→b∉ex→∃o',h'.get? b=some o'
 nO:∀b xs,H b=some (.tup xs)→H' b=some (.tup xs)
 nP:∀b o u,H b=some (.eC o u)→H' b=some (.eC o u)
 nQ:∀b ps,H b=some (.LO ps)→∃more,H' b=some (.LO (ps++more))
section
variable {fs Je ex Q6:List Addr} {H H1 H2:Hp} {h h1 h2 h':Heap} {a x e:Addr} {o:HO}
theorem Un.any (u:Un fs ex H H1 h h1) {b:Addr} {ob:Obj} (q:h.get? b=some ob) (n:H b=none) (hx:b∉ex):∃sl,h1.get? b=some { ob with slots:=sl }:=by
 by_cases hb:b∈fs
 ·exact u.slot b ob q n hb hx
 ·exact⟨ob.slots,u.keep b ob q n hb hx⟩
theorem Un.kept (k:∀b u,h.get? b=some u→h'.get? b=some u):Un fs ex H H h h':=
 ⟨fun b ob q _ _ _=>k b ob q,fun b ob q _ _ _=>⟨ob.slots,k b ob q⟩,fun _ _ _ n _=>n,fun b ob q _=>⟨ob,k b ob q⟩,fun _ _ q=>q,fun _ _ _ q=>q,fun _ ps q=>⟨#[],by rw[q];simp⟩⟩
theorem Un.refl:Un fs ex H H h h:=Un.kept fun _ _ q=>q
theorem Un.laid (k:∀b u,h.get? b=some u→h'.get? b=some u) (hp:h.objs.size≤a) (hn:H a=none):Un fs ex H (upd H a o) h h' where
 keep:=fun b u q _ _ _=>k b u q
 slot:=fun b u q _ _ _=>⟨u.slots,k b u q⟩
 free:=fun b u q n _=>by rw[ah (Nat.ne_of_lt (Nat.lt_of_lt_of_le (Heap.lt_size q) hp))];exact n
 there:=fun b u q _=>⟨u,k b u q⟩
 nO:=fun b xs q=>by rw[ah (ag q hn)];exact q
 nP:=fun b u xs q=>by rw[ah (ag q hn)];exact q
 nQ:=fun b ps q=>⟨#[],by rw[ah (ag q hn),q];simp⟩
theorem Un.write (mu:Q4 (H x)) (he:e=x∨H e=some (.own x)) (k:∀b u,b≠e→h.get? b=some u→h'.get? b=some u) (QF:∃u,h'.get? e=some u):Un fs ex H (upd H x o) h h':=by
 have hx:∀b,H b=none→b≠x:=fun b n z=>by subst z;rw[n] at mu;exact mu
 have hb:∀b,H b=none→b≠e:=fun b n z=>by
  subst z
  rcases he with r|r
  ·exact hx b n r
  ·rw[n] at r;cases r
 have hm:∀b u,H b=some u→¬Q4 (some u)→b≠x:=fun b u q nm z=>by subst z;rw[q] at mu;exact nm mu
 refine⟨fun b u q n _ _=>k b u (hb b n) q,fun b u q n _ _=>⟨u.slots,k b u (hb b n) q⟩,fun b u q n _=>by rw[ah (hx b n)];exact n,fun b u q _=>?_,
  fun b xs q=>by rw[ah (hm b _ q fun z=>z)];exact q,fun b u xs q=>by rw[ah (hm b _ q fun z=>z)];exact q,fun b ps q=>⟨#[],by rw[ah (hm b _ q fun z=>z),q];simp⟩⟩
 by_cases yU:b=e
 ·subst yU;exact QF
 ·exact⟨u,k b u yU q⟩
end
def Yr (h:Heap) (H:Hp):List Addr:=(List.range h.objs.size).filter fun a=>(H a).isSome
def uJ (h:Heap) (H:Hp):Heap:=PySem.W.hideAll h (Yr h H)
theorem Ct (h:Heap) (H:Hp):(uJ h H).objs.size=h.objs.size:=PySem.W.hideAll_size _ _
theorem EA {h:Heap} {H:Hp} {b:Addr} {o:Obj} (e:h.get? b=some o) (n:H b=none):(uJ h H).get? b=some o:=
 PySem.W.hideAll_get _ e fun hm=>by
  have q:(H b).isSome=true:=(List.mem_filter.mp hm).2
  rw[n] at q;simp at q
theorem Jf {h:Heap} {H:Hp} {b:Addr} {o:Obj} (e:(uJ h H).get? b=some o):h.get? b=some o∧H b=none:=by
 have e':h.get? b=some o:=PySem.W.of_hideAll (Yr h H) e
 refine⟨e',?_⟩
 cases q:H b with
 |none=>rfl
 |some x=>
  have hm:b∈Yr h H:=List.mem_filter.mpr ⟨List.mem_range.mpr (Heap.lt_size e'),by simp [q]⟩
  have z:(uJ h H).get? b=none:=PySem.W.hideAll_none (Yr h H) hm
  rw[z] at e;cases e
def Jg (g h:Heap) (L:Addr):List (Addr×Obj):=(List.range h.objs.size).filterMap fun a=>if a=L∨(g.get? a).isSome=true then none else (h.get? a).map fun o=>(a,o)
def rest (g h:Heap) (L d:Addr):List (Addr×Obj):=(Jg g h L).filter fun p=>decide (p.1≠d)
end L2
namespace L2
open PySem PySem.Spec PyProof.Rows
structure Mod (K:PySem.W.Frag) (mg:Str→Option Value) (base:Heap):Prop where
 gy:K.In base
 glob:base.Ns mainGlobals mg
 blt:∃mb,base.Ns builtinsNs mb∧∀x:Str,x≠"__name__" →mb x=bootBuiltins x
 nolimit:base.NoLimit
structure Cx where
 prog:Program
 w:World
 K:PySem.W.Frag
 mg:Str→Option Value
 base:Heap
 A:Around
 N:List Str
 s₀:Shared
 H₀:Hp
 env:Env
 outer:List Env
 stack:List Env
 ex:List Addr
 fn:Str→Bool
 calm:Bool
 pn:List (Addr×Obj)
 xe:Value→Shared→Prop
def wY (l:List Env):List Addr:=l.filterMap (·.frame)
abbrev Cx.fs (X:Cx):List Addr:=wY X.outer
def Zp (sc:Scope) (x:Str):Prop:=sc.names.lookup x=some .local∨sc.names.lookup x=some .cell∨sc.names.lookup x=some .free
def Loc (sc:Scope) (x:Str):Prop:=sc.names.lookup x=some .local∨sc.names.lookup x=some .cell
def Look (env:Env) (h:Heap) (m:Str→Option Value) (x:Str) (u:Value):Prop:=
 (env.kindOf x=some .local∧m x=some u)∨((env.kindOf x=some .cell∨env.kindOf x=some .free)∧∃c,env.cells.lookup x=some c∧h.IsCell c (some u))
structure Cx.Ok (X:Cx):Prop where
 mod:Mod X.K X.mg X.base
 kind:X.env.scope.kind= .function
 glob:X.env.globals=mainGlobals
 blt:X.env.builtins=builtinsNs
 above:X.s₀.heap.objs.size≤X.env.locals
 inj:∀x y c,X.env.cells.lookup x=some c→X.env.cells.lookup y=some c→x=y
 has:∀x,(X.env.kindOf x=some .cell∨X.env.kindOf x=some .free)→∃c,X.env.cells.lookup x=some c
 Jh:∀x c,X.fn x=true→X.env.cells.lookup x=some c→X.s₀.heap.objs.size≤c
 hd:X.calm=true→X.A.handled=none
 frames:X.A.frames=some X.stack
 LP:X.stack=X.outer∨(X.stack=X.env::X.outer∧X.env.frame=some X.env.locals)
 QG:∀b∈X.ex,b≠X.env.locals∧∀x c,X.env.cells.lookup x=some c→c≠b
 bs:∀b o,X.base.get? b=some o→X.s₀.heap.get? b=some o∧X.H₀ b=none
 Cu:X.base.objs.size≤X.s₀.heap.objs.size
 uO:∀b o,X.base.get? b=some o→b∉X.ex
 uQ:∀b∈X.ex,b∉X.fs
 lq:X.s₀.heap.FunFrames X.base X.outer
 EB:∀b∈X.fs,X.H₀ b=none
structure Inv (X:Cx) (pins:List (Addr×Obj)) (σ:List (Option V)) (H:Hp) (s:Shared):Prop where
 ok:X.Ok
 os:s.os=X.s₀.os
 bare:AllBare s.gens
 base:Un X.fs X.ex X.H₀ H X.s₀.heap s.heap
 loc:∃m,s.heap.Ns X.env.locals m∧∀(i:Nat) (x:Str) (v:V),X.N[i]? =some x→σ[i]? =some (some v)→Zp X.env.scope x→∃u,RelV v u∧Look X.env s.heap m x u
 cell:∀x c,X.env.cells.lookup x=some c→∃v,s.heap.IsCell c v
 free:H X.env.locals=none
 gF:∀x c,X.env.cells.lookup x=some c→H c=none
 pin:∀p∈X.pn++pins,s.heap.get? p.1=some p.2∧H p.1=none∧p.1≠X.env.locals∧p.1∉X.fs∧∀v,p.2.data≠ .cell v
 aX:jQ X.prog X.w H s.heap
 len:σ.length=X.N.length
section
variable {X:Cx} {pins:List (Addr×Obj)} {σ:List (Option V)} {H H':Hp} {s:Shared} {h':Heap}
theorem Cx.Ok.Zq (ok:X.Ok) {b:Addr} {o:Obj} (e:X.base.get? b=some o):b∉X.fs:=fun hb=>by
 have:=(ok.lq.mem hb).1
 rw[e] at this;cases this
theorem Inv.bs (I:Inv X pins σ H s):∀b o,X.base.get? b=some o→s.heap.get? b=some o∧H b=none:=fun b o e=>
 ⟨I.base.keep b o (I.ok.bs b o e).1 (I.ok.bs b o e).2 (I.ok.Zq e) (I.ok.uO b o e),I.base.free b o (I.ok.bs b o e).1 (I.ok.bs b o e).2 (I.ok.uO b o e)⟩
theorem Inv.bk (I:Inv X pins σ H s):∀b o,X.base.get? b=some o→s.heap.get? b=some o:=fun b o e=>(I.bs b o e).1
theorem Inv.mod (I:Inv X pins σ H s):Mod X.K X.mg X.base:=I.ok.mod
theorem Inv.jd (I:Inv X pins σ H s):X.K.In s.heap:=I.ok.mod.gy.keeps I.bk
theorem Inv.lt (I:Inv X pins σ H s):X.env.locals<s.heap.objs.size:=let ⟨_,hn,_⟩:=I.loc;hn.lt
theorem Inv.sz (I:Inv X pins σ H s):X.s₀.heap.objs.size≤s.heap.objs.size:=Nat.le_trans I.ok.above (Nat.le_of_lt I.lt)
theorem Inv.Zr (I:Inv X pins σ H s) {a:Addr} (h:s.heap.objs.size≤a):a∉X.fs:=fun hb=>by
 obtain⟨_,o,ho,_⟩:=I.ok.lq.mem hb
 exact absurd (Nat.lt_of_lt_of_le (Heap.lt_size ho) (Nat.le_trans I.sz h)) (Nat.lt_irrefl _)
theorem Inv.Ji (I:Inv X pins σ H s):∀x c,X.env.cells.lookup x=some c→c≠X.env.locals:=fun x c e z=>by
 obtain⟨v,o,ho,hd⟩:=I.cell x c e
 obtain⟨m,⟨o',es,ep,si,gA,_⟩,_⟩:=I.loc
 rw[z,si] at ho;cases ho;rw[gA] at hd;cases hd
theorem Inv.lq (I:Inv X pins σ H s):s.heap.FunFrames X.base X.outer:=by
 have all:∀(l:List Env),(∀b∈wY l,b∈X.fs)→X.s₀.heap.FunFrames X.base l→s.heap.FunFrames X.base l:=by
  intro l
  induction l with
  |nil=>intro _ _;trivial
  |cons env r ih=>
   intro hs hl
   obtain⟨hk,⟨L,o,hf,hn,ho,hd⟩,hr⟩:=hl
   have hL:L∈X.fs:=hs L (by unfold wY;rw[List.filterMap_cons,hf];exact List.mem_cons_self)
   obtain⟨sl,e⟩:=I.base.slot L o ho (I.ok.EB L hL) hL fun z=>I.ok.uQ L z hL
   exact⟨hk,⟨L,_,hf,hn,e,hd⟩,ih (fun b hb=>hs b (by unfold wY;rw[List.filterMap_cons,hf];exact List.mem_cons_of_mem _ hb)) hr⟩
 exact all X.outer (fun _ hb=>hb) I.ok.lq
theorem Inv.stack (I:Inv X pins σ H s):s.heap.FunFrames X.base X.stack:=by
 rcases I.ok.LP with e| ⟨e,hf⟩
 ·rw[e];exact I.lq
 ·rw[e]
  obtain⟨m,hn,_⟩:=I.loc
  refine .cons (by rw[I.ok.kind];decide) hf hn ?_ I.lq
  exact Heap.get?_none_of_le (Nat.le_trans I.ok.Cu I.ok.above)
theorem Inv.uR (I:Inv X pins σ H s):∀b∈wY X.stack,b∈X.env.locals::X.fs:=fun b hb=>by
 rcases I.ok.LP with e| ⟨e,hf⟩
 ·rw[e] at hb;exact List.mem_cons_of_mem _ hb
 ·rw[e] at hb
  unfold wY at hb
  rw[List.filterMap_cons,hf] at hb
  exact hb
theorem Inv.uU (I:Inv X pins σ H s):∀b∈wY X.stack,H b=none:=fun b hb=>by
 rcases List.mem_cons.mp (I.uR b hb) with e|hb
 ·rw[e];exact I.free
 ·obtain⟨_,o,ho,_⟩:=I.ok.lq.mem hb
  exact I.base.free b o ho (I.ok.EB b hb) fun z=>I.ok.uQ b z hb
theorem Inv.step {g':Array GenState} {t':Nat} {d':Drawn} {ch:List Addr} (I:Inv X pins σ H s)
  (El:∀b∈ch,(b∈X.ex∨X.s₀.heap.objs.size≤b)∧b≠X.env.locals∧(∀x c,X.env.cells.lookup x=some c→c≠b)∧∀p∈X.pn++pins,p.1≠b)
  (keep:∀b o,b≠X.env.locals→b∉X.fs→b∉ch→s.heap.get? b=some o→H b=none→h'.get? b=some o)
  (slot:∀b o,b≠X.env.locals→b∈X.fs→b∉ch→s.heap.get? b=some o→H b=none→∃sl,h'.get? b=some { o with slots:=sl }) (free:∀b o,b∉ch→s.heap.get? b=some o→H b=none→H' b=none)
  (there:∀b o,b∉ch→s.heap.get? b=some o→∃o',h'.get? b=some o')
  (nO:∀b xs,H b=some (.tup xs)→H' b=some (.tup xs)) (nP:∀b o u,H b=some (.eC o u)→H' b=some (.eC o u)) (nQ:∀b ps,H b=some (.LO ps)→∃more,H' b=some (.LO (ps++more)))
  (ns:∀m,s.heap.Ns X.env.locals m→h'.Ns X.env.locals m) (aX:jQ X.prog X.w H' h') (hg:AllBare g'):
  Inv X pins σ H' { s with heap:=h',gens:=g',drawn:=d',toks:=t' }:=by
 have Q7:∀b o,X.s₀.heap.get? b=some o→b≠X.env.locals:=fun b o e=>Nat.ne_of_lt (Nat.lt_of_lt_of_le (Heap.lt_size e) I.ok.above)
 have Ys:∀b o,X.s₀.heap.get? b=some o→b∉X.ex→b∉ch:=fun b o e hx hb=>by
  rcases (El b hb).1 with z|z
  ·exact hx z
  ·exact absurd (Nat.lt_of_lt_of_le (Heap.lt_size e) z) (Nat.lt_irrefl _)
 have cellK:∀x c,X.env.cells.lookup x=some c→∀v,s.heap.IsCell c v→h'.IsCell c v:=fun x c e v ⟨o,ho,hd⟩=>by
  have EC:c∉ch:=fun z=>(El c z).2.2.1 x c e rfl
  by_cases hc:c∈X.fs
  ·obtain⟨sl,q⟩:=slot c o (I.Ji x c e) hc EC ho (I.gF x c e)
   exact⟨_,q,hd⟩
  ·exact⟨o,keep c o (I.Ji x c e) hc EC ho (I.gF x c e),hd⟩
 refine⟨I.ok,I.os,hg,⟨fun b o e n hb hx=>?_,fun b o e n hb hx=>?_,fun b o e n hx=>?_,fun b o e hx=>?_,fun b xs e=>nO b xs (I.base.nO b xs e),fun b o xs e=>nP b o xs (I.base.nP b o xs e),fun b ps e=>?_⟩,?_,fun x c e=>?_,?_,fun x c e=>?_,fun p hp=>?_,aX,I.len⟩
 ·exact keep b o (Q7 b o e) hb (Ys b o e hx) (I.base.keep b o e n hb hx) (I.base.free b o e n hx)
 ·obtain⟨sl,e1⟩:=I.base.slot b o e n hb hx
  obtain⟨Q8,e2⟩:=slot b _ (Q7 b o e) hb (Ys b o e hx) e1 (I.base.free b o e n hx)
  exact⟨Q8,e2⟩
 ·obtain⟨o',e1⟩:=I.base.there b o e hx
  exact free b o' (Ys b o e hx) e1 (I.base.free b o e n hx)
 ·obtain⟨o',e1⟩:=I.base.there b o e hx
  exact there b o' (Ys b o e hx) e1
 ·obtain⟨m1,e1⟩:=I.base.nQ b ps e
  obtain⟨m2,e2⟩:=nQ b _ e1
  exact⟨m1++m2,by rw[e2,Array.append_assoc]⟩
 ·obtain⟨m,hn,hl⟩:=I.loc
  refine⟨m,ns m hn,fun i x v e1 e2 e3=>?_⟩
  obtain⟨u,r,l⟩:=hl i x v e1 e2 e3
  refine⟨u,r,?_⟩
  rcases l with l| ⟨k,c,e,z⟩
  ·exact .inl l
  ·exact .inr ⟨k,c,e,cellK x c e _ z⟩
 ·obtain⟨v,z⟩:=I.cell x c e
  exact⟨v,cellK x c e v z⟩
 ·obtain⟨m,⟨o,_,_,ho,_⟩,_⟩:=I.loc
  exact free _ o (fun z=>(El _ z).2.1 rfl) ho I.free
 ·obtain⟨v,o,ho,hd⟩:=I.cell x c e
  exact free c o (fun z=>(El c z).2.2.1 x c e rfl) ho (I.gF x c e)
 ·obtain⟨e,n,ne,nf,d⟩:=I.pin p hp
  have EC:p.1∉ch:=fun z=>(El p.1 z).2.2.2 p hp rfl
  exact⟨keep p.1 p.2 ne nf EC e n,free p.1 p.2 EC e n,ne,nf,d⟩
theorem Inv.un {t':Nat} (I:Inv X pins σ H s) (u:Un X.fs [] H H' s.heap h') (aX:jQ X.prog X.w H' h'):Inv X pins σ H' { s with heap:=h',toks:=t' }:=by
 obtain⟨m,⟨o,es,ep,ho,r⟩,_⟩:=id I.loc
 obtain⟨sl,hL⟩:=u.any ho I.free (by simp)
 exact I.step (g':=s.gens) (d':=s.drawn) (ch:=[]) (fun _ z=>nomatch z) (fun b o _ hb _ e n=>u.keep b o e n hb (by simp)) (fun b o _ hb _ e n=>u.slot b o e n hb (by simp)) (fun b o _ e n=>u.free b o e n (by simp)) (fun b o _ e=>u.there b o e (by simp)) u.nO u.nP u.nQ (fun m' hm=>by
  obtain⟨o',Yt,Yu,si,r'⟩:=hm
  rw[ho] at si;cases si
  exact⟨_,Yt,Yu,hL,r'⟩) aX I.bare
theorem Inv.call {g':Array GenState} {t':Nat} {d':Drawn} {ch:List Addr} (I:Inv X pins σ H s) (u:Un (wY X.stack) ch H H' s.heap h') (aX:jQ X.prog X.w H' h') (hg:AllBare g')
  (El:∀b∈ch,(b∈X.ex∨X.s₀.heap.objs.size≤b)∧b≠X.env.locals∧(∀x c,X.env.cells.lookup x=some c→c≠b)∧∀p∈X.pn++pins,p.1≠b):
  Inv X pins σ H' { s with heap:=h',gens:=g',drawn:=d',toks:=t' }:=by
 obtain⟨m,⟨o,es,ep,ho,r⟩,_⟩:=id I.loc
 obtain⟨sl,hL⟩:=u.any ho I.free fun z=>(El _ z).2.1 rfl
 exact I.step (ch:=ch) El (fun b o hL hb hc e n=>u.keep b o e n (fun z=>(List.mem_cons.mp (I.uR b z)).elim hL hb) hc) (fun b o _ _ hc e n=>u.any e n hc) (fun b o hc e n=>u.free b o e n hc) (fun b o hc e=>u.there b o e hc) u.nO u.nP u.nQ (fun m' hm=>by
  obtain⟨o',Yt,Yu,si,r'⟩:=hm
  rw[ho] at si;cases si
  exact⟨_,Yt,Yu,hL,r'⟩) aX hg
theorem Inv.turned {t':Nat} {it:Addr} (I:Inv X pins σ H s) (k:∀b o,b≠it→s.heap.get? b=some o→h'.get? b=some o) (hn:H it=none) (hL:it≠X.env.locals)
  (h1:it∈X.ex∨X.s₀.heap.objs.size≤it) (h2:∀x c,X.env.cells.lookup x=some c→c≠it) (h3:∀p∈X.pn++pins,p.1≠it):Inv X pins σ H { s with heap:=h',toks:=t' }:=by
 have nit:∀b u,H b=some u→b≠it:=fun b u e z=>by rw[z,hn] at e;cases e
 refine I.step (g':=s.gens) (d':=s.drawn) (ch:=[it]) (fun b hb=>?_) (fun b o _ _ hc e _=>k b o (fun z=>hc (by simp [z])) e) (fun b o _ _ hc e _=>⟨o.slots,k b o (fun z=>hc (by simp [z])) e⟩) (fun _ _ _ _ n=>n)
  (fun b o hc e=>⟨o,k b o (fun z=>hc (by simp [z])) e⟩) (fun _ _ e=>e) (fun _ _ _ e=>e) (fun b ps e=>⟨#[],by rw[e];simp⟩) (fun m hm=>?_) (fun b u e=>?_) I.bare
 ·have e:b=it:=by simpa using hb
  subst e
  exact⟨h1,hL,h2,h3⟩
 ·obtain⟨o,es,ep,ho,r⟩:=hm
  exact⟨o,es,ep,k _ o (Ne.symm hL) ho,r⟩
 ·refine(I.aX b u e).qg (fun c v hc q=>k c v ?_ q) (fun _ q=>q) fun _ _ q=>q
  rcases hc with z|z
  ·rw[z];exact nit b u e
  ·exact nit c _ z
theorem Inv.tok (I:Inv X pins σ H s) (t:Nat):Inv X pins σ H { s with toks:=t }:=I.un (h':=s.heap) (t':=t) Un.refl I.aX
theorem Inv.kept {t':Nat} (I:Inv X pins σ H s) (k:∀b u,s.heap.get? b=some u→h'.get? b=some u):Inv X pins σ H { s with heap:=h',toks:=t' }:=I.un (Un.kept k) (I.aX.kept k)
theorem Inv.laid {a:Addr} {o:HO} {t':Nat} (I:Inv X pins σ H s) (k:∀b u,s.heap.get? b=some u→h'.get? b=some u) (hp:s.heap.objs.size≤a) (new:cg X.prog X.w (upd H a o) h' a o):
  Inv X pins σ (upd H a o) { s with heap:=h',toks:=t' }:=I.un (Un.laid k hp (I.aX.fresh hp)) (I.aX.laid k hp new)
theorem Inv.write {x e:Addr} {o:HO} {t':Nat} (I:Inv X pins σ H s) (mu:Q4 (H x)) (he:e=x∨H e=some (.own x)) (k:∀b u,b≠e→s.heap.get? b=some u→h'.get? b=some u) (QF:∃u,h'.get? e=some u)
  (new:cg X.prog X.w (upd H x o) h' x o):Inv X pins σ (upd H x o) { s with heap:=h',toks:=t' }:=I.un (Un.write mu he k QF) (I.aX.write mu he k QF new)
theorem Inv.uV {LQ:List (Addr×Obj)} (I:Inv X pins σ H s) (h:∀p∈LQ,s.heap.get? p.1=some p.2∧H p.1=none∧p.1≠X.env.locals∧p.1∉X.fs∧∀v,p.2.data≠ .cell v):Inv X LQ σ H s:=
 ⟨I.ok,I.os,I.bare,I.base,I.loc,I.cell,I.free,I.gF,fun p hp=>(List.mem_append.mp hp).elim (fun z=>I.pin p (List.mem_append_left _ z)) (h p),I.aX,I.len⟩
theorem qh {N:List Str} (hN:N.Nodup) {i j:Nat} {x:Str} (a:N[i]? =some x) (b:N[j]? =some x):i=j:=by
 obtain⟨h1,e1⟩:=List.getElem?_eq_some_iff.mp a
 obtain⟨h2,e2⟩:=List.getElem?_eq_some_iff.mp b
 exact(List.getElem_inj hN).mp (e1.trans e2.symm)
theorem sN {M:Model} {A:Around} {E:Value→Shared→Prop} {i:Nat} {x:Str} {v:V} {u:Value} {Q:Unit→Shared→Prop} (I:Inv X pins σ H s) (hN:X.N.Nodup) (hi:X.N[i]? =some x) (hx:Loc X.env.scope x) (r:RelV v u)
  (h:∀s',Inv X pins (σ.set i (some v)) H s'→(∃a,Heap.SameBut a s.heap s'.heap∧(a=X.env.locals∨X.env.cells.lookup x=some a))→Q () s') (hf:X.fn x=true∨X.env.scope.names.lookup x=some .local:=by first|exact .inl rfl|exact .inr rfl|assumption):wpAny M A (storeName X.env x u) Q E s:=by
 obtain⟨m,hn,hl⟩:=id I.loc
 have Ng:(X.env.scope.kind== .class||(X.env.scope.kind== .module&&X.env.locals != X.env.globals))=false:=by rw[I.ok.kind];rfl
 have hiσ:i<σ.length:=by rw[I.len];exact(List.getElem?_eq_some_iff.mp hi).1
 have Ji:=I.Ji
 have tracked:∀{a:Addr} {h':Heap},(∃o,s.heap.get? a=some o∧H a=none)→Heap.SameBut a s.heap h'→jQ X.prog X.w H h':=fun {a h'} ha hs b ob e=>by
  obtain⟨_,_,LR⟩:=ha
  refine(I.aX b ob e).qg (fun c w' hc q=>(hs.2 c ?_).trans q) (fun _ q=>q) fun _ _ q=>q
  rintro rfl
  rcases hc with rfl|hc
  ·rw[LR] at e;cases e
  ·rw[LR] at hc;cases hc
 rcases hx with hk|hk
 ·refine wpAny_storeName_local hk hn (fun h' Nh hs=>?_) Ng
  obtain⟨oL,_,_,QH,_⟩:=id hn
  refine h _ ⟨I.ok,I.os,I.bare,⟨fun b o e n hb hx=>?_,fun b o e n hb hx=>?_,I.base.free,fun b o e hx=>?_,I.base.nO,I.base.nP,I.base.nQ⟩,⟨_,Nh,fun j y v' e1 e2 e3=>?_⟩,fun y c e=>?_,I.free,I.gF,fun p hp=>?_,tracked ⟨oL,QH,I.free⟩ hs,by simpa using I.len⟩ ⟨_,hs, .inl rfl⟩
  ·exact(hs.2 b (Nat.ne_of_lt (Nat.lt_of_lt_of_le (Heap.lt_size e) I.ok.above))).trans (I.base.keep b o e n hb hx)
  ·obtain⟨sl,e1⟩:=I.base.slot b o e n hb hx
   exact⟨sl,(hs.2 b (Nat.ne_of_lt (Nat.lt_of_lt_of_le (Heap.lt_size e) I.ok.above))).trans e1⟩
  ·obtain⟨o',e1⟩:=I.base.there b o e hx
   exact⟨o',(hs.2 b (Nat.ne_of_lt (Nat.lt_of_lt_of_le (Heap.lt_size e) I.ok.above))).trans e1⟩
  ·by_cases hj:j=i
   ·subst hj
    rw[hi] at e1;cases e1
    rw[List.getElem?_set_self hiσ] at e2
    cases e2
    exact⟨u,r, .inl ⟨hk,by simp⟩⟩
   ·rw[List.getElem?_set_ne (Ne.symm hj)] at e2
    obtain⟨u',r',q⟩:=hl j y v' e1 e2 e3
    refine⟨u',r',?_⟩
    rcases q with ⟨k,e⟩ | ⟨k,c,e,z⟩
    ·refine .inl ⟨k,?_⟩
     have:y≠x:=fun e=>hj (qh hN e1 (e▸hi))
     simp [this,e]
    ·exact .inr ⟨k,c,e,z.sameBut hs (Ji y c e)⟩
  ·obtain⟨w',z⟩:=I.cell y c e
   exact⟨w',z.sameBut hs (Ji y c e)⟩
  ·obtain⟨e,n,ne,nf,d⟩:=I.pin p hp
   exact⟨(hs.2 p.1 ne).trans e,n,ne,nf,d⟩
 ·have Zs:X.fn x=true:=by
   rcases hf with z|z
   ·exact z
   ·rw[z] at hk;cases hk
  obtain⟨c,hc⟩:=I.ok.has x (.inl hk)
  obtain⟨w',z⟩:=I.cell x c hc
  refine wpAny_storeName_cell I.ok.kind hk hc z (fun h' IP hs=>?_)
  obtain⟨oc,hoc,Zt⟩:=id z
  refine h { s with heap:=h' } ⟨I.ok,I.os,I.bare,⟨fun b o e n hb hx=>?_,fun b o e n hb hx=>?_,I.base.free,fun b o e hx=>?_,I.base.nO,I.base.nP,I.base.nQ⟩,⟨m,hn.sameBut hs (Ne.symm (Ji x c hc)),fun j y v' e1 e2 e3=>?_⟩,fun y c' e=>?_,I.free,I.gF,fun p hp=>?_,tracked ⟨oc,hoc,I.gF x c hc⟩ hs,by simpa using I.len⟩ ⟨c,hs, .inr hc⟩
  ·exact(hs.2 b (Nat.ne_of_lt (Nat.lt_of_lt_of_le (Heap.lt_size e) (I.ok.Jh x c Zs hc)))).trans (I.base.keep b o e n hb hx)
  ·obtain⟨sl,e1⟩:=I.base.slot b o e n hb hx
   exact⟨sl,(hs.2 b (Nat.ne_of_lt (Nat.lt_of_lt_of_le (Heap.lt_size e) (I.ok.Jh x c Zs hc)))).trans e1⟩
  ·obtain⟨o',e1⟩:=I.base.there b o e hx
   exact⟨o',(hs.2 b (Nat.ne_of_lt (Nat.lt_of_lt_of_le (Heap.lt_size e) (I.ok.Jh x c Zs hc)))).trans e1⟩
  ·by_cases hj:j=i
   ·subst hj
    rw[hi] at e1;cases e1
    rw[List.getElem?_set_self hiσ] at e2
    cases e2
    exact⟨u,r, .inr ⟨.inl hk,c,hc,IP⟩⟩
   ·rw[List.getElem?_set_ne (Ne.symm hj)] at e2
    obtain⟨u',r',q⟩:=hl j y v' e1 e2 e3
    refine⟨u',r',?_⟩
    rcases q with q| ⟨k,c',e,z'⟩
    ·exact .inl q
    ·refine .inr ⟨k,c',e,z'.sameBut hs ?_⟩
     rintro rfl
     exact hj (qh hN e1 (I.ok.inj _ _ _ e hc▸hi))
  ·by_cases hcc:c'=c
   ·subst hcc;exact⟨_,IP⟩
   ·obtain⟨w2,z2⟩:=I.cell y c' e
    exact⟨w2,z2.sameBut hs hcc⟩
  ·obtain⟨e,n,ne,nf,d⟩:=I.pin p hp
   refine⟨(hs.2 p.1 ?_).trans e,n,ne,nf,d⟩
   intro q
   rw[q,hoc] at e
   have q':oc=p.2:=Option.some.inj e
   exact d w' (by rw[←q'];exact Zt)
theorem store_ok {M:Model} {A:Around} {E:Value→Shared→Prop} {i:Nat} {x:Str} {v:V} {u:Value} {Q:Unit→Shared→Prop} (I:Inv X pins σ H s) (hN:X.N.Nodup) (hi:X.N[i]? =some x) (hx:Loc X.env.scope x) (r:RelV v u)
  (h:∀s',Inv X pins (σ.set i (some v)) H s'→Q () s') (hf:X.fn x=true∨X.env.scope.names.lookup x=some .local:=by first|exact .inl rfl|exact .inr rfl|assumption):wpAny M A (storeName X.env x u) Q E s:=
 sN I hN hi hx r (fun s' I' _=>h s' I') hf
theorem Inv.ED {s':Shared} {ch:List Addr} (I:Inv X pins σ H s) (ho:s'.os=s.os) (u:Un (wY X.stack) ch H H' s.heap s'.heap) (aX:jQ X.prog X.w H' s'.heap) (hg:AllBare s'.gens)
  (El:∀b∈ch,(b∈X.ex∨X.s₀.heap.objs.size≤b)∧b≠X.env.locals∧(∀x c,X.env.cells.lookup x=some c→c≠b)∧∀p∈X.pn++pins,p.1≠b):Inv X pins σ H' s':=by
 obtain⟨h',g',d',t',o'⟩:=s'
 have e:o'=s.os:=ho
 subst e
 exact I.call (g':=g') (t':=t') (d':=d') u aX hg El
end
abbrev XK:=Value→Option Addr→Hp→Prop
abbrev St:=List (Option V)
abbrev VK:=V→Hp→Prop
abbrev TE:=St→Hp→VK→Prop
abbrev TT:=St→Hp→(Bool→Hp→Prop)→Prop
abbrev TA:=St→Hp→(List V→Hp→Prop)→Prop
structure Ends where
 nx:St→Hp→Prop
 rt:VK
 bk:St→Hp→Prop:=fun _ _=>False
 ct:St→Hp→Prop:=fun _ _=>False
abbrev TS:=Ends→St→Hp→Prop
def EP (X:Cx) (pins:List (Addr×Obj)) (σ:St) (Q:VK) (u:Value) (s':Shared):Prop:=∃v H',Inv X pins σ H' s'∧RelV v u∧Q v H'
def TP (X:Cx) (pins:List (Addr×Obj)) (σ:St) (Q:Bool→Hp→Prop) (b:Bool) (s':Shared):Prop:=∃H',Inv X pins σ H' s'∧Q b H'
def AP (X:Cx) (pins:List (Addr×Obj)) (σ:St) (Q:List V→Hp→Prop) (us:List Value) (s':Shared):Prop:=∃vs H',Inv X pins σ H' s'∧Vals vs us∧Q vs H'
def SP (X:Cx) (pins:List (Addr×Obj)) (D:Ends) (f:Flow) (s':Shared):Prop:=
 match f with
 | .next=>∃σ' H',Inv X pins σ' H' s'∧D.nx σ' H'
 | .brk=>∃σ' H',Inv X pins σ' H' s'∧D.bk σ' H'
 | .cont=>∃σ' H',Inv X pins σ' H' s'∧D.ct σ' H'
 | .ret u=>∃v σ' H',Inv X pins σ' H' s'∧RelV v u∧D.rt v H'
def PE (X:Cx) (e:Expr) (t:TE):Prop:=
 ∀(pins:List (Addr×Obj)) (s:Shared) (σ:St) (H:Hp) (Q:VK),Inv X pins σ H s→t σ H Q→wpAny (model X.prog X.w) X.A (eval e X.env) (EP X pins σ Q) X.xe s
def PT (X:Cx) (e:Expr) (t:TT):Prop:=
 ∀(pins:List (Addr×Obj)) (s:Shared) (σ:St) (H:Hp) (Q:Bool→Hp→Prop),Inv X pins σ H s→t σ H Q→wpAny (model X.prog X.w) X.A (isTrue e X.env (eval e X.env)) (TP X pins σ Q) X.xe s
def PW (X:Cx) (e:Expr) (t:TT):Prop:=
 ∀(whole:Sem Value) (pins:List (Addr×Obj)) (s:Shared) (σ:St) (H:Hp) (Q:Bool→Hp→Prop),Inv X pins σ H s→t σ H Q→wpAny (model X.prog X.w) X.A (isTrue e X.env whole) (TP X pins σ Q) X.xe s
theorem PW.pt {X:Cx} {e:Expr} {t:TT} (h:PW X e t):PT X e t:=h _
def PA (X:Cx) (es:List Expr) (t:TA):Prop:=
 ∀(pos:Pos) (pins:List (Addr×Obj)) (s:Shared) (σ:St) (H:Hp) (Q:List V→Hp→Prop),Inv X pins σ H s→t σ H Q→wpAny (model X.prog X.w) X.A (spliced (backTo pos (starEach es X.env))) (AP X pins σ Q) X.xe s
def PS (X:Cx) (st:Stmt) (t:TS):Prop:=
 ∀(pins:List (Addr×Obj)) (s:Shared) (σ:St) (H:Hp) (D:Ends),Inv X pins σ H s→t D σ H→wpAny (model X.prog X.w) X.A (exec st X.env) (SP X pins D) X.xe s
def lO (X:Cx) (st:List Stmt) (t:TS):Prop:=
 ∀(pins:List (Addr×Obj)) (s:Shared) (σ:St) (H:Hp) (D:Ends),Inv X pins σ H s→t D σ H→wpAny (model X.prog X.w) X.A (execs st X.env) (SP X pins D) X.xe s
theorem bV {α:Type} {t:Sem α} {Q Q':α→Shared→Prop} {M:Model} {A:Around} {E:Value→Shared→Prop} {s:Shared} (h:wpAny M A t Q E s) (hQ:∀a s,Q a s→Q' a s):wpAny M A t Q' E s:=wpAny_mono h hQ fun _ _ x=>x
end L2
namespace L2
open PySem PySem.Spec PyProof.Rows
section
variable {X:Cx}
inductive RV (i:Nat) (σ:St) (H:Hp) (Q:VK):Prop
 |mk (v:V) (e:σ[i]? =some (some v)) (q:Q v H)
def jS (i:Nat):TE:=fun σ H Q=>RV i σ H Q
def tC (v:V):TE:=fun _ H Q=>Q v H
theorem Ni {i:Nat} {x:Str} {pos:Pos} (hN:X.N[i]? =some x) (hv:Zp X.env.scope x) (hd:(x==("__debug__" :Str))=false:=by decide) (oS:(x==("__classdict__" :Str))=false:=by decide):PE X (.Name x pos) (jS i):=by
 intro pins s σ H Q I h
 obtain⟨v,e,h⟩:=h
 obtain⟨m,hn,hl⟩:=I.loc
 obtain⟨u,r,l⟩:=hl i x v hN e hv
 have fin:EP X pins σ Q u s:=⟨v,H,I,r,h⟩
 rcases l with ⟨hk,hm⟩ | ⟨hk,c,hc,LS⟩
 ·exact wpAny_Name (wpAny_loadName_local I.ok.kind hk hn hm fin) hd
 ·rcases hk with hk|hk
  ·exact wpAny_Name (wpAny_loadName_cell I.ok.kind hk hc LS fin) hd
  ·exact wpAny_Name (wpAny_loadName_free I.ok.kind hk hc LS fin oS) hd
theorem aq {i j pos}:PE X (.Constant (.int i) j pos) (tC (.int i)):=fun _ _ _ H _ I h=>wpAny_Constant_int ⟨.int i,H,I.tok _,⟨_,rfl⟩,h⟩
theorem AD {b j pos}:PE X (.Constant (.bool b) j pos) (tC (.bl b)):=fun _ _ _ H _ I h=>Constant_bool ⟨.bl b,H,I,rfl,h⟩
theorem lP {j pos}:PE X (.Constant .none j pos) (tC .cI):=fun _ _ _ H _ I h=>Constant_none ⟨.cI,H,I,rfl,h⟩
theorem bG {x j pos}:PE X (.Constant (.str x) j pos) (tC (.str x)):=fun _ _ _ H _ I h=>Calls.Constant_str ⟨.str x,H,I.tok _,⟨_,rfl⟩,h⟩
def Gl (X:Cx) (x:Str):Prop:=X.env.kindOf x=some .globalImplicit
theorem je {E:Value→Shared→Prop} {pins:List (Addr×Obj)} {s:Shared} {σ:St} {H:Hp} {x:Str} {u:Value} {pos:Pos} {Q:Value→Shared→Prop} (I:Inv X pins σ H s) (hg:Gl X x) (hm:X.mg x=some u) (h:Q u s)
  (hd:(x==("__debug__" :Str))=false:=by decide):wpAny (model X.prog X.w) X.A (eval (.Name x pos) X.env) Q E s:=
 Calls.Name_function_global I.ok.kind hg (Calls.loadGlobal_global (by rw[I.ok.glob];exact I.mod.glob.keeps I.bk) hm h) hd
theorem lQ {E:Value→Shared→Prop} {pins:List (Addr×Obj)} {s:Shared} {σ:St} {H:Hp} {x:Str} {u:Value} {pos:Pos} {Q:Value→Shared→Prop} (I:Inv X pins σ H s) (hg:Gl X x) (hm:X.mg x=none) (hv:bootBuiltins x=some u) (h:Q u s)
  (hn:x≠"__name__" :=by decide) (hd:(x==("__debug__" :Str))=false:=by decide):wpAny (model X.prog X.w) X.A (eval (.Name x pos) X.env) Q E s:=by
 obtain⟨mb,h1,h2⟩:=I.mod.blt
 exact Calls.Name_function_global I.ok.kind hg (Calls.loadGlobal_builtin (by rw[I.ok.glob];exact I.mod.glob.keeps I.bk) hm (by rw[I.ok.blt];exact h1.keeps I.bk) ((h2 x hn).trans hv) h) hd
theorem bp {x:Str} {v:V} {u:Value} {pos:Pos} (hg:Gl X x) (hm:X.mg x=some u) (r:RelV v u) (hd:(x==("__debug__" :Str))=false:=by decide):PE X (.Name x pos) (tC v):=
 fun _ _ _ H _ I h=>je I hg hm ⟨v,H,I,r,h⟩ hd
theorem uW {x:Str} {v:V} {u:Value} {pos:Pos} (hg:Gl X x) (hm:X.mg x=none) (hv:bootBuiltins x=some u) (r:RelV v u) (hn:x≠"__name__" :=by decide) (hd:(x==("__debug__" :Str))=false:=by decide):PE X (.Name x pos) (tC v):=
 fun _ _ _ H _ I h=>lQ I hg hm hv ⟨v,H,I,r,h⟩ hn hd
variable {a b:Expr} {ta tb:TE} {pos:Pos}
def PC (X:Cx) (op:CmpOp) (a b:Expr) (t:TE):Prop:=
 ∀(pins:List (Addr×Obj)) (s:Shared) (σ:St) (H:Hp) (Q:VK),Inv X pins σ H s→t σ H Q→
  wpAny (model X.prog X.w) X.A (eval a X.env) (fun v s₁=>wpAny (model X.prog X.w) X.A (eval b X.env) (fun u s₂=>wpAny (model X.prog X.w) X.A (compareOp op v u) (EP X pins σ Q) X.xe s₂) X.xe s₁) X.xe s
theorem xh (b:Expr) {op:CmpOp} (h:op≠ .In) (h2:op≠ .NotIn):behindInMarks op b=false:=by
 have e1:(op==CmpOp.In)=false:=by cases op<;>first|rfl|exact absurd rfl h
 have e2:(op==CmpOp.NotIn)=false:=by cases op<;>first|rfl|exact absurd rfl h2
 cases b<;>simp [behindInMarks,e1,e2]
def Zu (ta:TE):TE:=fun σ H Q=>ta σ H fun x H1=>Q (.bl (decide (x= .cI))) H1
def Q9 (ta:TE):TE:=fun σ H Q=>ta σ H fun x H1=>Q (.bl (!decide (x= .cI))) H1
theorem RelV.xi {x:V} {v:Value} (r:RelV x v):(v==Value.none)=decide (x= .cI):=by
 cases x with
 |cI=>cases r;rfl
 |bl _=>cases r;rfl
 |int _=>obtain⟨t,rfl⟩:=r;rfl
 |str _=>obtain⟨t,rfl⟩:=r;rfl
 |yT _=>obtain⟨t,rfl⟩:=r;rfl
 |LN _=>obtain⟨t,rfl⟩:=r;rfl
 |ref _=>cases r;rfl
 |ty _=>cases r;rfl
theorem lR {j pos'} (ha:PE X a ta):PC X .Is a (.Constant .none j pos') (Zu ta):=by
 intro pins s σ H Q I h
 refine bV (ha pins s σ H _ I h) fun v s1 ⟨x,H1,I1,r1,q1⟩=>?_
 exact Constant_none (is_none_gen ⟨.bl _,H1,I1,by rw[r1.xi];rfl,q1⟩)
theorem kE {j pos'} (ha:PE X a ta):PC X .IsNot a (.Constant .none j pos') (Q9 ta):=by
 intro pins s σ H Q I h
 refine bV (ha pins s σ H _ I h) fun v s1 ⟨x,H1,I1,r1,q1⟩=>?_
 exact Constant_none (isnot_none_gen ⟨.bl _,H1,I1,by rw[r1.xi];rfl,q1⟩)
def tB (t:TE):TT:=fun σ H Q=>t σ H fun x H1=>∃c,x= .bl c∧Q c H1
theorem EE {op:CmpOp} {t:TE} (h:PC X op a b t) (h1:behindInMarks op b=false:=by first|exact xh _ (by decide) (by decide) |rfl):PE X (.Compare a [op] [b] pos) t:=fun pins s σ H Q I hw=>wpAny_Compare1 (h pins s σ H Q I hw) h1
theorem gW {op:CmpOp} {t:TE} (h:PC X op a b t) (h1:behindInMarks op b=false:=by first|exact xh _ (by decide) (by decide) |rfl):PT X (.Compare a [op] [b] pos) (tB t):=by
 intro pins s σ H Q I hw
 refine wpAny_isTrue_Compare1 (bV (h pins s σ H _ I hw) fun v s1 h1=>bV h1 fun u s2 h2=>bV h2 fun c s3 ⟨x,H1,I1,r1,q1⟩=>?_) h1
 obtain⟨d,rfl,q⟩:=q1
 cases r1
 exact wpAny_truthy_bool ⟨H1,I1,q⟩
theorem jT {e:Expr} {t:TE} (h:PE X e t) (he:∀whole,isTrue e X.env whole=(do let v←whole;standAt e.pos;holding [v] (truthy v)):=by intro _;rfl):PT X e (tB t):=by
 intro pins s σ H Q I hw
 refine isTrue_plain (bV (h pins s σ H _ I hw) fun v s1 ⟨x,H1,I1,r1,q1⟩=>?_) (he _)
 obtain⟨d,rfl,q⟩:=q1
 cases r1
 exact wpAny_truthy_bool ⟨H1,I1,q⟩
variable {tA Yv:TT} {rest:List Expr}
def Zv (t u:TT):TT:=fun σ H Q=>t σ H fun c H1=>if c=true then u σ H1 Q else Q false H1
def tOr (t u:TT):TT:=fun σ H Q=>t σ H fun c H1=>if c=true then Q true H1 else u σ H1 Q
def Zw (t:TT):TT:=fun σ H Q=>t σ H fun c H1=>Q (!c) H1
theorem jf (ha:PT X a tA):PW X (.BoolOp .And [a] pos) tA:=by
 intro wh pins s σ H Q I h
 refine isTrue_and (bV (ha pins s σ H Q I h) fun c s1 e=>?_)
 cases c with
 |true=>exact isTrue_and_nil e
 |false=>exact e
theorem lS (ha:PT X a tA):PW X (.BoolOp .Or [a] pos) tA:=by
 intro wh pins s σ H Q I h
 refine isTrue_or (bV (ha pins s σ H Q I h) fun c s1 e=>?_)
 cases c with
 |false=>exact isTrue_or_nil e
 |true=>exact e
theorem lT (ha:PT X a tA) (hb:PW X (.BoolOp .And (b::rest) pos) Yv):PW X (.BoolOp .And (a::b::rest) pos) (Zv tA Yv):=by
 intro wh pins s σ H Q I h
 refine isTrue_and (bV (ha pins s σ H _ I h) fun c s1 ⟨H1,I1,q1⟩=>?_)
 cases c with
 |true=>exact hb wh pins s1 σ H1 Q I1 q1
 |false=>exact⟨H1,I1,q1⟩
theorem oU (ha:PT X a tA) (hb:PW X (.BoolOp .Or (b::rest) pos) Yv):PW X (.BoolOp .Or (a::b::rest) pos) (tOr tA Yv):=by
 intro wh pins s σ H Q I h
 refine isTrue_or (bV (ha pins s σ H _ I h) fun c s1 ⟨H1,I1,q1⟩=>?_)
 cases c with
 |true=>exact⟨H1,I1,q1⟩
 |false=>exact hb wh pins s1 σ H1 Q I1 q1
theorem nR (ha:PT X a tA):PT X (.UnaryOp .Not a pos) (Zw tA):=by
 intro pins s σ H Q I h
 exact isTrue_not (ha pins s σ H (fun c H1=>Q (!c) H1) I h)
def Ra (ta tb:TE):TE:=fun σ H Q=>ta σ H fun x H1=>∃c,x= .bl c∧if c=true then tb σ H1 Q else Q (.bl false) H1
def Rb (ta:TE):TE:=fun σ H Q=>ta σ H fun x H1=>∃c,x= .bl c∧Q (.bl (!c)) H1
theorem uX {op} {t:TE} (h:PE X a t):PE X (.BoolOp op [a] pos) t:=fun pins s σ H Q I hw=>BoolOp_one (h pins s σ H Q I hw)
theorem nS (ha:PE X a ta) (hb:PE X (.BoolOp .And (b::rest) pos) tb):PE X (.BoolOp .And (a::b::rest) pos) (Ra ta tb):=by
 intro pins s σ H Q I h
 refine BoolOp_and (bV (ha pins s σ H _ I h) fun v s1 ⟨x,H1,I1,r1,q1⟩=>?_)
 obtain⟨c,rfl,q1⟩:=q1
 cases r1
 refine wpAny_truthy_bool ?_
 cases c with
 |true=>exact hb pins s1 σ H1 Q I1 q1
 |false=>exact⟨.bl false,H1,I1,rfl,q1⟩
theorem Nj (ha:PE X a ta):PE X (.UnaryOp .Not a pos) (Rb ta):=by
 intro pins s σ H Q I h
 refine UnaryOp_ (bV (ha pins s σ H _ I h) fun v s1 ⟨x,H1,I1,r1,q1⟩=>?_)
 obtain⟨c,rfl,q1⟩:=q1
 cases r1
 exact not_of (wpAny_truthy_bool ⟨.bl (!c),H1,I1,rfl,q1⟩)
def tIf (t:TT) (ta tb:TE):TE:=fun σ H Q=>t σ H fun c H1=>if c=true then ta σ H1 Q else tb σ H1 Q
theorem xj {c:Expr} (hc:PT X c tA) (ha:PE X a ta) (hb:PE X b tb):PE X (.IfExp c a b pos) (tIf tA ta tb):=by
 intro pins s σ H Q I h
 refine wpAny_IfExp (bV (hc pins s σ H _ I h) fun d s1 ⟨H1,I1,q1⟩=>?_)
 cases d with
 |true=>exact ha pins s1 σ H1 Q I1 q1
 |false=>exact hb pins s1 σ H1 Q I1 q1
end
end L2
namespace L2
open PySem PySem.Spec PyProof.Rows
def bS (K:PySem.W.Frag) (H:Hp) (a:Addr) (xs:List V):Prop:=
 Rd H a (.lst xs)∨
  ∃(o:Obj) (its:Array Value) (n:Nat),K.lookup a=some o∧o.cls= .type "list" ∧o.dict=none∧o.data= .seq its n∧its.size≤sizeLine∧Vals xs its.toList
def jL (K:PySem.W.Frag) (H:Hp) (a:Addr) (xs:List V):Prop:=
 Rd H a (.tup xs)∨
  ∃(o:Obj) (its:Array Value) (n:Nat),K.lookup a=some o∧o.cls= .type "tuple" ∧o.data= .seq its n∧its.size≤sizeLine∧Vals xs its.toList
def Zx:Value→Option V
 | .none=>some .cI
 | .bool b=>some (.bl b)
 | .int i _=>some (.int i)
 | .str x _=>some (.str x)
 | .bytes b _=>some (.yT b)
 | .float b _=>some (.LN b)
 | .ref a=>some (.ref a)
 | .type n=>some (.ty n)
 |_=>none
theorem RelV.abs {x:V} {u:Value} (r:RelV x u):Zx u=some x:=by
 cases x with
 |cI=>cases r;rfl
 |bl _=>cases r;rfl
 |int _=>obtain⟨t,rfl⟩:=r;rfl
 |str _=>obtain⟨t,rfl⟩:=r;rfl
 |yT _=>obtain⟨t,rfl⟩:=r;rfl
 |LN _=>obtain⟨t,rfl⟩:=r;rfl
 |ref _=>cases r;rfl
 |ty _=>cases r;rfl
theorem RelV.inj {x y:V} {u:Value} (r:RelV x u) (q:RelV y u):x=y:=Option.some.inj (r.abs.symm.trans q.abs)
theorem Vals.inj:∀{xs ys:List V} {us:List Value},Vals xs us→Vals ys us→xs=ys
 |_,_,_, .nil, .nil=>rfl
 |_,_,_, .cons r t, .cons r' t'=>by rw[r.inj r',Vals.inj t t']
section
variable {X:Cx} {pins:List (Addr×Obj)} {σ:St} {H:Hp} {s:Shared} {a:Addr} {xs ys:List V}
theorem bS.of {K:PySem.W.Frag} (h:H a=some (.lst xs)):bS K H a xs:= .inl (.inl h)
theorem jL.of {K:PySem.W.Frag} (h:H a=some (.tup xs)):jL K H a xs:= .inl (.inl h)
theorem Inv.list (I:Inv X pins σ H s) (h:bS X.K H a xs):∃its:List Value,Vals xs its∧PlainL s.heap a its.toArray∧xs.length≤sizeLine:=by
 rcases h with h| ⟨o,its,n,hk,hc,hd,hs,hz,r⟩
 ·obtain⟨z,its,n,r,e⟩:=h.ok I.aX
  exact⟨its,r,⟨_,n,e,rfl,rfl,rfl⟩,z⟩
 ·refine⟨its.toList,r,⟨o,n,I.jd a o hk,hc,hd,by simpa using hs⟩,?_⟩
  have e:=r.length
  simp only [Array.length_toList] at e
  omega
theorem Inv.tuple (I:Inv X pins σ H s) (h:jL X.K H a xs):∃its:List Value,Vals xs its∧IsTup s.heap a its.toArray∧xs.length≤sizeLine:=by
 rcases h with h| ⟨o,its,n,hk,hc,hs,hz,r⟩
 ·obtain⟨z,its,r,p⟩:=h.ok I.aX
  exact⟨its,r,p,z⟩
 ·refine⟨its.toList,r,⟨o,I.jd a o hk,hc,n,by simpa using hs⟩,?_⟩
  have e:=r.length
  simp only [Array.length_toList] at e
  omega
theorem Inv.xk (I:Inv X pins σ H s) (h:bS X.K H a xs) (h':bS X.K H a ys):xs=ys:=by
 obtain⟨its,r,⟨o,n,e,_,_,d⟩,_⟩:=I.list h
 obtain⟨its',r',⟨o',n',e',_,_,d'⟩,_⟩:=I.list h'
 rw[e] at e';cases e'
 rw[d] at d'
 injection d' with d1 _
 have:its=its':=by simpa using congrArg Array.toList d1
 subst this
 exact r.inj r'
end
abbrev Cx.jU (X:Cx) (E:Value→Shared→Prop):Cx:={ X with xe:=E }
abbrev Cx.EF (X:Cx):Cx:=X.jU fun _ _=>False
theorem Cx.Ok.jU {X:Cx} (ok:X.Ok) (E:Value→Shared→Prop):(X.jU E).Ok:=
 ⟨ok.mod,ok.kind,ok.glob,ok.blt,ok.above,ok.inj,ok.has,ok.Jh,ok.hd,ok.frames,ok.LP,ok.QG,ok.bs,ok.Cu,ok.uO,ok.uQ,ok.lq,ok.EB⟩
theorem Cx.Ok.d6 {X:Cx} {E:Value→Shared→Prop} (ok:(X.jU E).Ok):X.Ok:=
 ⟨ok.mod,ok.kind,ok.glob,ok.blt,ok.above,ok.inj,ok.has,ok.Jh,ok.hd,ok.frames,ok.LP,ok.QG,ok.bs,ok.Cu,ok.uO,ok.uQ,ok.lq,ok.EB⟩
section
variable {X:Cx} {pins:List (Addr×Obj)} {σ:St} {H:Hp} {s:Shared} {E:Value→Shared→Prop}
theorem Inv.jU (I:Inv X pins σ H s) (E:Value→Shared→Prop):Inv (X.jU E) pins σ H s:=⟨I.ok.jU E,I.os,I.bare,I.base,I.loc,I.cell,I.free,I.gF,I.pin,I.aX,I.len⟩
theorem Inv.d6 (I:Inv (X.jU E) pins σ H s):Inv X pins σ H s:=⟨I.ok.d6,I.os,I.bare,I.base,I.loc,I.cell,I.free,I.gF,I.pin,I.aX,I.len⟩
theorem SP.d6 {D:Ends} {f:Flow} {s':Shared} (h:SP (X.jU E) pins D f s'):SP X pins D f s':=by
 cases f with
 |next=>obtain⟨σ',H',I,q⟩:=h;exact⟨σ',H',I.d6,q⟩
 |brk=>obtain⟨σ',H',I,q⟩:=h;exact⟨σ',H',I.d6,q⟩
 |cont=>obtain⟨σ',H',I,q⟩:=h;exact⟨σ',H',I.d6,q⟩
 |ret u=>obtain⟨v,σ',H',I,r,q⟩:=h;exact⟨v,σ',H',I.d6,r,q⟩
theorem lO.EF {st:List Stmt} {t:TS} (h:lO X.EF st t):lO X st t:=fun pins s σ H D I hw=>
 wpAny_mono (h pins s σ H D (I.jU _) hw) (fun _ _ q=>q.d6) fun _ _ z=>False.elim z
end
section
variable {X:Cx} {st:Stmt} {rest:List Stmt} {t u:TS} {e:Expr} {te:TE} {pos:Pos}
def qi:TS:=fun D σ H=>D.nx σ H
def Rf (t u:TS):TS:=fun D σ H=>t { D with nx:=u D } σ H
theorem aS:lO X [] qi:=fun _ _ σ H _ I h=>wpAny_execs_nil ⟨σ,H,I,h⟩
theorem ai (h1:PS X st t) (h2:lO X rest u):lO X (st::rest) (Rf t u):=by
 intro pins s σ H D I h
 refine wpAny_execs_cons (bV (h1 pins s σ H { D with nx:=u D } I h) fun f s1 q=>?_)
 cases f with
 |next=>
  obtain⟨σ',H',I',q⟩:=q
  exact h2 pins s1 σ' H' D I' q
 |ret v=>exact q
 |brk=>exact q
 |cont=>exact q
theorem ao (h1:PS X st t):lO X [st] t:=by
 intro pins s σ H D I h
 refine wpAny_execs_cons (bV (h1 pins s σ H D I h) fun f s1 q=>?_)
 cases f with
 |next=>exact wpAny_execs_nil q
 |ret v=>exact q
 |brk=>exact q
 |cont=>exact q
theorem Inv.quiet {pins:List (Addr×Obj)} {σ:St} {H:Hp} {s:Shared} (I:Inv X pins σ H s):interactive X.env=false:=by simp [interactive,I.ok.kind]
def Rg (te:TE):TS:=fun D σ H=>te σ H fun _ H1=>D.nx σ H1
theorem bw (he:PE X e te) (hs:swapsWith e none pos.line X.env=pure false:=by rfl):PS X (.Expr e pos) (Rg te):=by
 intro pins s σ H D I h
 exact wpAny_Expr_any (bV (he pins s σ H _ I h) fun v s1 ⟨x,H1,I1,r1,q1⟩=>⟨σ,H1,I1,q1⟩) I.quiet hs
def Zy (te:TE):TS:=fun D σ H=>te σ H D.rt
theorem aE (he:PE X e te):PS X (.Return (some e) pos) (Zy te):=by
 intro pins s σ H D I h
 exact wpAny_Return_some (bV (he pins s σ H _ I h) fun v s1 ⟨x,H1,I1,r1,q1⟩=>⟨x,σ,H1,I1,r1,q1⟩)
def Rh:TS:=fun D _ H=>D.rt .cI H
theorem Jj:PS X (.Return none pos) Rh:=fun _ _ σ H _ I h=>wpAny_Return_none ⟨.cI,σ,H,I,rfl,h⟩
def Nk (c:TT) (t u:TS):TS:=fun D σ H=>c σ H fun b H1=>if b=true then t D σ H1 else u D σ H1
theorem bE {c:Expr} {a b:List Stmt} {tc:TT} (hc:PT X c tc) (ha:lO X a t) (hb:lO X b u):PS X (.If c a b pos) (Nk tc t u):=by
 intro pins s σ H D I h
 refine wpAny_If (bV (hc pins s σ H _ I h) fun d s1 ⟨H1,I1,q1⟩=>?_)
 cases d with
 |true=>exact ha pins s1 σ H1 D I1 q1
 |false=>exact hb pins s1 σ H1 D I1 q1
def Nl:TS:=fun _ _ _=>False
theorem gg:PS X st Nl:=fun _ _ _ _ _ _ h=>h.elim
end
abbrev TG:=V→St→Hp→(St→Hp→Prop)→Prop
abbrev LU:=List V→St→Hp→(St→Hp→Prop)→Prop
def PG (X:Cx) (target:Expr) (t:TG):Prop:=
 ∀(pins:List (Addr×Obj)) (s:Shared) (σ:St) (H:Hp) (v:V) (u:Value) (Q:St→Hp→Prop),Inv X pins σ H s→RelV v u→t v σ H Q→
  wpAny (model X.prog X.w) X.A (assign target X.env u) (fun _ s'=>∃σ' H',Inv X pins σ' H' s'∧Q σ' H') X.xe s
def QI (X:Cx) (ts:List Expr) (t:LU):Prop:=
 ∀(pins:List (Addr×Obj)) (s:Shared) (σ:St) (H:Hp) (vs:List V) (us:List Value) (Q:St→Hp→Prop),Inv X pins σ H s→Vals vs us→t vs σ H Q→
  wpAny (model X.prog X.w) X.A (assignInOrder ((assignEach ts X.env).map (·.2)) us) (fun _ s'=>∃σ' H',Inv X pins σ' H' s'∧Q σ' H') X.xe s
section
variable {X:Cx} {pos:Pos}
def dB (i:Nat):TG:=fun v σ H Q=>Q (σ.set i (some v)) H
theorem aK {i:Nat} {x:Str} (hN:X.N.Nodup) (hi:X.N[i]? =some x) (hx:Loc X.env.scope x) (hf:X.fn x=true∨X.env.scope.names.lookup x=some .local:=by first|exact .inl rfl|exact .inr rfl|assumption):PG X (.Name x pos) (dB i):=by
 intro pins s σ H v u Q I r h
 exact wpAny_assign_Name (store_ok I hN hi hx r (fun s' I'=>⟨_,H,I',h⟩) hf)
def Zz:LU:=fun vs σ H Q=>vs=[]∧Q σ H
def Ri (t:TG) (u:LU):LU:=fun vs σ H Q=>∃v r,vs=v::r∧t v σ H fun σ' H'=>u r σ' H' Q
theorem dC:QI X [] Zz:=by
 intro pins s σ H vs us Q I r h
 obtain⟨e,h⟩:=h
 subst e
 cases r
 exact assignInOrder_nil ⟨σ,H,I,h⟩
theorem a6 {e:Expr} {es:List Expr} {t:TG} {u:LU} (h1:PG X e t) (h2:QI X es u)
  (hs:(assignEach (e::es) X.env).map (·.2)=assign e X.env::(assignEach es X.env).map (·.2):=by rfl):QI X (e::es) (Ri t u):=by
 intro pins s σ H vs us Q I r h
 obtain⟨v,vr,e1,h⟩:=h
 subst e1
 cases r with
 |cons r rr=>
  rw[hs]
  refine assignInOrder_cons (bV (h1 pins s σ H _ _ _ I r h) fun _ s1 ⟨σ1,H1,I1,q1⟩=>?_)
  exact h2 pins s1 σ1 H1 _ _ Q I1 rr q1
def Rj (K:PySem.W.Frag) (n:Nat) (t:LU):TG:=fun v σ H Q=>∃a xs,v= .ref a∧jL K H a xs∧xs.length=n∧t xs σ H Q
theorem gB {es:List Expr} {k:Nat} {t:LU} {n:Nat} (hc:X.calm=true) (h:QI X es t)
  (hn:(assignEach es X.env).length=n:=by rfl) (gz:(assignEach es X.env).findIdx? (·.1)=none:=by rfl):PG X (.Tuple es k pos) (Rj X.K n t):=by
 intro pins s σ H v u Q I r hw
 obtain⟨a,xs,e1,hq,hl,hw⟩:=hw
 subst e1
 cases r
 obtain⟨its,rv,ht,hz⟩:=I.tuple hq
 refine assign_Tuple_tuple (I.ok.hd hc) ht (by simp [hn,←hl,rv.length]) gz fun h' hx=>?_
 have I1:Inv X pins σ H { s with heap:=h' }:=I.kept (t':=s.toks) fun b o e=>hx b o (Nat.ne_of_lt (Heap.lt_size e)) e
 exact h pins _ σ H xs _ Q I1 (by simpa using rv) hw
def Nm (te:TE) (g:TG):TS:=fun D σ H=>te σ H fun x H1=>g x σ H1 D.nx
theorem EG {tg e:Expr} {te:TE} {g:TG} (he:PE X e te) (hg:PG X tg g) (hs:swapsWithSole [tg] e pos.line X.env=pure false:=by rfl) (hw:swappedStores [tg] e X.env=pure none:=by rfl)
  (h1:(assignEach [tg] X.env).map (·.2)=[assign tg X.env]:=by rfl):PS X (.Assign [tg] e pos) (Nm te g):=by
 intro pins s σ H D I h
 refine wpAny_Assign_stores (bV (he pins s σ H _ I h) fun v s1 ⟨x,H1,I1,r1,q1⟩=>?_) hs hw
 rw[h1]
 exact bV (hg pins s1 σ H1 x v _ I1 r1 q1) fun _ s2 q=>q
theorem aB {i:Nat} {x:Str} {e:Expr} {te:TE} {pos':Pos} (hN:X.N.Nodup) (hi:X.N[i]? =some x) (hx:Loc X.env.scope x) (he:PE X e te) (hs:swapsWith e (some (.Name x pos')) pos.line X.env=pure false:=by rfl) (hf:X.fn x=true∨X.env.scope.names.lookup x=some .local:=by first|exact .inl rfl|exact .inr rfl|assumption):
  PS X (.Assign [.Name x pos'] e pos) (Nm te (dB i)):=by
 intro pins s σ H D I h
 refine wpAny_Assign_Name (bV (he pins s σ H _ I h) fun v s1 ⟨y,H1,I1,r1,q1⟩=>?_) hs
 exact store_ok I1 hN hi hx r1 (fun s2 I2=>⟨_,H1,I2,q1⟩) hf
end
section
variable {X:Cx} {pos:Pos}
def Nn (c:TT) (tb:TS):TS:=fun D σ H=>∃W:Nat→St→Hp→Prop,(∃m,W m σ H)∧∀m σ H,W m σ H→
 c σ H fun b H1=>if b=true then∃N:St→Hp→Prop,(∀σ' H',N σ' H'→∃m',m'<m∧W m' σ' H')∧tb { D with nx:=N,ct:=N,bk:=D.nx } σ H1 else D.nx σ H1
theorem iZ {c:Expr} {body:List Stmt} {tc:TT} {tb:TS} (hp:PassesOwn (model X.prog X.w) X.A X.env X.xe) (hc:PT X c tc) (hb:lO X body tb):PS X (.While c body [] pos) (Nn tc tb):=by
 intro pins s σ H D I h
 obtain⟨W,⟨m0,w0⟩,turn⟩:=h
 refine wpAny_While (codeAny_whileLoop (fun n s'=>∃σ' H',Inv X pins σ' H' s'∧W n σ' H') ?_ m0 ⟨σ,H,I,w0⟩)
 rintro n s1 ⟨σ1,H1,I1,w1⟩
 refine wpAny_passesOwn hp (bV (hc pins s1 σ1 H1 _ I1 (turn n σ1 H1 w1)) fun b s2 ⟨H2,I2,q2⟩=>?_)
 cases b with
 |true=>
  obtain⟨N,hN,q2⟩:=q2
  rw[if_pos rfl]
  refine wpAny_passesOwn hp (bV (hb pins s2 σ1 H2 _ I2 q2) fun f s3 q3=>?_)
  cases f with
  |next=>
   obtain⟨σ3,H3,I3,n3⟩:=q3
   obtain⟨m',hm,w3⟩:=hN σ3 H3 n3
   exact⟨m',hm,σ3,H3,I3,w3⟩
  |cont=>
   obtain⟨σ3,H3,I3,n3⟩:=q3
   obtain⟨m',hm,w3⟩:=hN σ3 H3 n3
   exact⟨m',hm,σ3,H3,I3,w3⟩
  |brk=>exact q3
  |ret v=>exact q3
 |false=>
  rw[if_neg Bool.false_ne_true]
  exact wpAny_execs_nil ⟨σ1,H2,I2,q2⟩
end
structure It where
 go:Nat→Hp→Prop
 pf:Nat→Hp→V→Hp→Prop
 stop:Nat→Hp→Prop
def lu (X:Cx) (pins:List (Addr×Obj)) (H:Hp) (b:Addr):Prop:=
 H b=none∧b≠X.env.locals∧b∉X.fs∧(b∈X.ex∨X.s₀.heap.objs.size≤b)∧(∀x c,X.env.cells.lookup x=some c→c≠b)∧∀p∈X.pn++pins,p.1≠b
theorem Inv.xl {X:Cx} {pins:List (Addr×Obj)} {σ:St} {H H':Hp} {s:Shared} {b:Addr} (I:Inv X pins σ H s) (hb:s.heap.objs.size≤b) (hn:H' b=none):lu X pins H' b:=by
 refine⟨hn,Nat.ne_of_gt (Nat.lt_of_lt_of_le I.lt hb),I.Zr hb, .inr (Nat.le_trans I.sz hb),fun x c e z=>?_,fun p hp z=>?_⟩
 ·obtain⟨v,q⟩:=I.cell x c e
  exact absurd (Nat.lt_of_lt_of_le q.lt (by rw[z];exact hb)) (Nat.lt_irrefl _)
 ·exact absurd (Nat.lt_of_lt_of_le (Heap.lt_size (I.pin p hp).1) (by rw[z];exact hb)) (Nat.lt_irrefl _)
structure Turn (P:Program) (w:World) (K:PySem.W.Frag) (tg:Expr) (J:It) (fp:List Addr) (it:Addr) (tn:Nat→Heap→Prop):Prop where
 mem:it∈fp
 obj:∀i h,tn i h→∀b∈fp,∃o,h.get? b=some o∧∀v,o.data≠ .cell v
 keep:∀i h h',tn i h→(∀b∈fp,∀o,h.get? b=some o→h'.get? b=some o)→tn i h'
 item:∀(X:Cx),X.prog=P→X.w=w→X.K=K→X.calm=true→∀(i:Nat) (pins:List (Addr×Obj)) (s:Shared) (σ:St) (H:Hp) (E:Value→Shared→Prop),Inv X pins σ H s→(∀b∈fp,lu X pins H b)→tn i s.heap→J.go i H→
  wpAny (model P w) X.A (pyNext (.ref it)) (fun r s1=>∃u,r=some u∧
   wpAny (model P w) X.A (letOwnedTupleGo tg (.ref it) u) (fun _ s2=>∃x H',Inv X pins σ H' s2∧RelV x u∧J.pf i H x H'∧tn (i+1) s2.heap∧∀b∈fp,H' b=none) E s1) E s
 done:∀(X:Cx),X.prog=P→X.w=w→X.K=K→X.calm=true→∀(i:Nat) (pins:List (Addr×Obj)) (s:Shared) (σ:St) (H:Hp) (E:Value→Shared→Prop),Inv X pins σ H s→(∀b∈fp,lu X pins H b)→tn i s.heap→J.stop i H→
  wpAny (model P w) X.A (pyNext (.ref it)) (fun r s1=>r=none∧Inv X pins σ H s1) E s
 self:∀(A:Around) (i:Nat) (s:Shared) (Q:Value→Shared→Prop) (E:Value→Shared→Prop),tn i s.heap→Q (.ref it) s→wpAny (model P w) A (pyIter (.ref it)) Q E s
abbrev TI:=St→Hp→(It→Hp→Prop)→Prop
def PIE (X:Cx) (pins:List (Addr×Obj)) (σ:St) (tg:Expr) (R:It→Hp→Prop) (Yw:Value) (s2:Shared):Prop:=
 ∃(it:Addr) (fp:List Addr) (tn:Nat→Heap→Prop) (J:It) (H':Hp),Yw= .ref it∧Inv X pins σ H' s2∧Turn X.prog X.w X.K tg J fp it tn∧tn 0 s2.heap∧(∀b∈fp,lu X pins H' b)∧R J H'
def PI (X:Cx) (tg iter:Expr) (wi:TI):Prop:=
 ∀(pins:List (Addr×Obj)) (s:Shared) (σ:St) (H:Hp) (R:It→Hp→Prop),Inv X pins σ H s→wi σ H R→
  wpAny (model X.prog X.w) X.A (eval iter X.env) (fun v s1=>wpAny (model X.prog X.w) X.A (pyIter v) (PIE X pins σ tg R) X.xe s1) X.xe s
theorem AE {M:Model} {A:Around} {E:Value→Shared→Prop} {s:Shared} {tg:Expr} {it:Addr} {u:Value} {o:Obj} {n:String} {vs:Array Value} {Q:Unit→Shared→Prop} (ho:s.heap.get? it=some o) (hc:o.cls= .type n) (hd:o.data= .fields vs)
  (hn:["enumerate","zip","dict_itemiterator","dict_reverseitemiterator","odict_iterator","itertools.zip_longest","itertools.pairwise"].contains n=false) (hQ:Q () s):wpAny M A (letOwnedTupleGo tg (.ref it) u) Q E s:=by
 unfold letOwnedTupleGo
 cases tg<;>first
  |exact wpAny_pure hQ
  | (cases u<;>first
    |exact wpAny_pure hQ
    | (refine wpAny_bind (wpAny_load ho ?_)
       rw[hc,hd]
       show wpAny M A (if (["enumerate","zip","dict_itemiterator","dict_reverseitemiterator","odict_iterator","itertools.zip_longest","itertools.pairwise"].contains n&&vs[0]? ==some (rawInt _))=true then _ else _) Q E s
       rw[if_neg (by intro h;rw[hn,Bool.false_and] at h;cases h)]
       exact wpAny_pure hQ))
def AF (K:PySem.W.Frag) (a:Addr):It:=
 ⟨fun i H=>∃xs x,bS K H a xs∧xs[i]? =some x,fun i H x H'=>H'=H∧∀xs,bS K H a xs→xs[i]? =some x,fun i H=>∃xs,bS K H a xs∧xs.length≤i⟩
def Em (lo:Int) (n:Nat):It:=⟨fun i _=>i<n,fun i H x H'=>H'=H∧x= .int (lo+i),fun i _=>n≤i⟩
theorem Cv {P:Program} {w:World} {K:PySem.W.Frag} {tg:Expr} (a it:Addr):Turn P w K tg (AF K a) [it] it (fun i h=>h.IsListIter it a i) where
 mem:=by simp
 obj:=fun i h st b hb=>by
  have e:b=it:=by simpa using hb
  subst e
  obtain⟨o,e,c,d⟩:=st
  exact⟨o,e,fun v z=>by rw[d] at z;cases z⟩
 keep:=fun i h h' st k=>st.at fun o e=>k it (by simp) o e
 item:=by
  intro X hP hw hK hc i pins s σ H E I hf st hg
  subst hP hw hK
  obtain⟨xs,x,hq,hx⟩:=hg
  obtain⟨its,rv,p,hz⟩:=I.list hq
  obtain⟨u,hu,ru⟩:=rv.get hx
  obtain⟨f0,f1,f2,f3,f4,f5⟩:=hf it (by simp)
  refine wpAny_pyNext_list_item st p.isList (x:=u) (by simpa using hu) fun h' AG sb=>?_
  have I1:Inv X pins σ H { s with heap:=h' }:=I.turned (t':=s.toks) (fun b o hb e=>(sb.2 b hb).trans e) f0 f1 f3 f4 f5
  obtain⟨o,e,c,d⟩:=id AG
  exact⟨u,rfl,AE (s:={ s with heap:=h' }) e c d (by decide) ⟨x,H,I1,ru,⟨rfl,fun ys hy=>by rw[I.xk hy hq];exact hx⟩,AG,fun b hb=>(hf b hb).1⟩⟩
 done:=by
  intro X hP hw hK hc i pins s σ H E I hf st hg
  subst hP hw hK
  obtain⟨xs,hq,hx⟩:=hg
  obtain⟨its,rv,p,hz⟩:=I.list hq
  obtain⟨f0,f1,f2,f3,f4,f5⟩:=hf it (by simp)
  have hl:=rv.length
  exact wpAny_pyNext_list_end (I.ok.hd hc) st p.isList (by simp;omega) fun h' eb=>⟨rfl,I.turned (t':=s.toks) (fun b o hb e=>eb b o hb e) f0 f1 f3 f4 f5⟩
 self:=fun _ _ _ _ _ st h=>wpAny_pyIter_listiter st h
theorem yV {P:Program} {w:World} {K:PySem.W.Frag} {tg:Expr} (it:Addr) (lo:Int) (n:Nat):Turn P w K tg (Em lo n) [it] it (fun i h=>IsRangeIter h it (lo+(i:Nat)*1) ((n:Int) - (i:Nat)) 1) where
 mem:=by simp
 obj:=fun i h st b hb=>by
  have e:b=it:=by simpa using hb
  subst e
  exact⟨_,st,fun v z=>by
   have z':Data.fields _=Data.cell v:=z
   cases z'⟩
 keep:=fun i h h' st k=>k it (by simp) _ st
 item:=by
  intro X hP hw hK hc i pins s σ H E I hf st hg
  subst hP hw hK
  obtain⟨f0,f1,f2,f3,f4,f5⟩:=hf it (by simp)
  have W:=Walks.range (prog:=X.prog) (w:=X.w) (I.ok.hd hc) it lo 1 n
  refine W.item i s _ _ hg st fun v h' tk hv AG kk=>?_
  obtain⟨t,rfl⟩:=hv
  have I1:Inv X pins σ H { s with heap:=h',toks:=tk }:=I.turned (fun b o hb e=>kk b o (by simpa using hb) e) f0 f1 f3 f4 f5
  refine⟨_,rfl,AE (s:={ s with heap:=h',toks:=tk }) (n:="range_iterator") AG rfl rfl (by decide) ⟨.int (lo+i),H,I1,⟨t,?_⟩,⟨rfl,rfl⟩,AG,fun b hb=>(hf b hb).1⟩⟩
  rw[Int.mul_one]
 done:=by
  intro X hP hw hK hc i pins s σ H E I hf st hg
  subst hP hw hK
  obtain⟨f0,f1,f2,f3,f4,f5⟩:=hf it (by simp)
  exact wpAny_pyNext_range_end (I.ok.hd hc) st (by have:n≤i:=hg;omega) fun h' eb=>⟨rfl,I.turned (t':=s.toks) (fun b o hb e=>eb b o hb e) f0 f1 f3 f4 f5⟩
 self:=fun _ _ _ _ _ st h=>wpAny_pyIter_rangeiter st h
end L2
namespace L2
open PySem PySem.Spec PyProof.Rows
section
variable {X:Cx} {tg:Expr}
def Rk (K:PySem.W.Frag) (tl:TE):TI:=fun σ H R=>tl σ H fun x H1=>∃a,x= .ref a∧(∃xs,bS K H1 a xs)∧R (AF K a) H1
theorem cG {l:Expr} {tl:TE} (hl:PE X l tl):PI X tg l (Rk X.K tl):=by
 intro pins s σ H R I h
 refine bV (hl pins s σ H _ I h) fun v s1 ⟨x,H1,I1,r1,q1⟩=>?_
 obtain⟨a,e,⟨xs,hq⟩,q⟩:=q1
 subst e
 cases r1
 obtain⟨its,rv,p,hz⟩:=I1.list hq
 refine wpAny_pyIter_list p.isList ?_
 refine⟨s1.heap.objs.size,[s1.heap.objs.size],_,_,H1,rfl,I1.kept (t':=s1.toks) fun b o e=>Heap.get?_push_of_some _ e,Cv a _,⟨_,Heap.get?_push_size _ rfl,rfl,rfl⟩,fun b hb=>?_,q⟩
 have e:b=s1.heap.objs.size:=by simpa using hb
 subst e
 exact I1.xl (Nat.le_refl _) (I1.aX.fresh (Nat.le_refl _))
theorem EH {pins:List (Addr×Obj)} {σ:St} {H:Hp} {s:Shared} {R:It→Hp→Prop} {E:Value→Shared→Prop} {lo hi:Int} {t u v:Tok} {tk:Nat} (I:Inv X pins σ H s) (h1: -(2^62)≤lo) (h2:lo<2^62) (h3: -(2^62)≤hi) (h4:hi<2^62)
  (q:R (Em lo (hi - lo).toNat) H):wpAny (model X.prog X.w) X.A (pyIter (.ref s.heap.objs.size)) (PIE X pins σ tg R) E { s with heap:=s.heap.push { cls:= .type "range",data:= .fields #[.int lo t, .int hi u, .int 1 v] },toks:=tk }:=by
 refine wpAny_pyIter_range (IsRange.new ..) (small_one h1 h2 h3 h4) ?_
 have I1:Inv X pins σ H { s with heap:=s.heap.push { cls:= .type "range",data:= .fields #[.int lo t, .int hi u, .int 1 v] },toks:=tk }:=I.kept fun b o e=>Heap.get?_push_of_some _ e
 refine⟨(s.heap.push { cls:= .type "range",data:= .fields #[.int lo t, .int hi u, .int 1 v] }).objs.size,[(s.heap.push { cls:= .type "range",data:= .fields #[.int lo t, .int hi u, .int 1 v] }).objs.size],_,_,H,rfl,
  I1.kept (t':=tk) fun b o e=>Heap.get?_push_of_some _ e,yV _ lo (hi - lo).toNat,?_,fun b hb=>?_,q⟩
 ·have e1:lo+((0 :Nat):Int)*1=lo:=by simp
  have e2:(((hi - lo).toNat:Nat):Int) - ((0 :Nat):Int)=Builtin.Range.rangeSize lo hi 1:=by rw[rangeSize_one];split<;>omega
  show IsRangeIter _ _ (lo+((0 :Nat):Int)*1) ((((hi - lo).toNat:Nat):Int) - ((0 :Nat):Int)) 1
  rw[e1,e2]
  exact Heap.get?_push_size _ rfl
 ·have e:b=(s.heap.push { cls:= .type "range",data:= .fields #[.int lo t, .int hi u, .int 1 v] }).objs.size:=by simpa using hb
  subst e
  exact I1.xl (Nat.le_refl _) (I1.aX.fresh (Nat.le_refl _))
def Rl (ta:TA):TI:=fun σ H R=>ta σ H fun vs H1=>∃j:Int,vs=[.int j]∧ -(2^62)≤j∧j<2^62∧R (Em 0 j.toNat) H1
theorem kF {a:Expr} {ta:TA} {p pos:Pos} (hg:Gl X "range") (hm:X.mg "range" =none) (ha:PA X [a] ta) (hs:starEach [a] X.env=[(false,eval a X.env)]:=by rfl):PI X tg (.Call (.Name "range" p) [a] [] pos) (Rl ta):=by
 intro pins s σ H R I h
 refine Call_ (lQ I hg hm boot_range (PyProof.Rows.callWith_type1 (bV (ha pos pins s σ H _ I h) fun us s1 ⟨vs,H1,I1,r1,q1⟩=>?_) hs rfl))
 obtain⟨j,e,q1,q2,q⟩:=q1
 subst e
 cases r1 with
 |cons r rr=>
  cases rr
  obtain⟨t,rfl⟩:=r
  exact call_range_1 (EH I1 (by omega) (by omega) q1 q2 (by simpa using q))
def Np (wi:TI) (g:TG) (tb:TS):TS:=fun D σ H=>wi σ H fun J H1=>∃W:Nat→Nat→St→Hp→Prop,(∃m,W 0 m σ H1)∧∀i m σ H,W i m σ H→
 (J.stop i H∧D.nx σ H)∨(J.go i H∧∃N:St→Hp→Prop,(∀σ' H',N σ' H'→∃m',m'<m∧W (i+1) m' σ' H')∧∀x H',J.pf i H x H'→g x σ H' fun σ2 H2=>tb { D with nx:=N,ct:=N,bk:=D.nx } σ2 H2)
def qj (fp:List Addr) (h:Heap):List (Addr×Obj):=fp.filterMap fun b=>(h.get? b).map fun o=>(b,o)
theorem jg {fp:List Addr} {h:Heap} {b:Addr} {o:Obj} (hb:b∈fp) (e:h.get? b=some o):(b,o)∈qj fp h:=List.mem_filterMap.mpr ⟨b,hb,by rw[e];rfl⟩
theorem Cw {fp:List Addr} {h:Heap} {p:Addr×Obj} (hp:p∈qj fp h):p.1∈fp∧h.get? p.1=some p.2:=by
 obtain⟨b,hb,e⟩:=List.mem_filterMap.mp hp
 cases q:h.get? b with
 |none=>rw[q] at e;cases e
 |some o=>
  rw[q] at e
  have e':(b,o)=p:=Option.some.inj e
  subst e'
  exact⟨hb,q⟩
theorem Inv.pinned {pins:List (Addr×Obj)} {σ:St} {H:Hp} {s:Shared} {fp:List Addr} (I:Inv X pins σ H s) (hf:∀b∈fp,lu X pins H b) (ho:∀b∈fp,∃o,s.heap.get? b=some o∧∀v,o.data≠ .cell v):Inv X (pins++qj fp s.heap) σ H s:=
 I.uV fun p hp=>(List.mem_append.mp hp).elim (fun z=>I.pin p (List.mem_append_right _ z)) fun z=>by
   obtain⟨hb,e⟩:=Cw z
   obtain⟨f0,f1,f2,_⟩:=hf p.1 hb
   obtain⟨o,e',d⟩:=ho p.1 hb
   rw[e] at e';cases e'
   exact⟨e,f0,f1,f2,d⟩
theorem Inv.gi {pins pl:List (Addr×Obj)} {σ:St} {H:Hp} {s:Shared} (I:Inv X (pins++pl) σ H s):Inv X pins σ H s:=I.uV fun p hp=>I.pin p (List.mem_append_right _ (List.mem_append_left _ hp))
theorem cq {iter:Expr} {body:List Stmt} {wi:TI} {g:TG} {tb:TS} {pos:Pos} (hp:PassesOwn (model X.prog X.w) X.A X.env X.xe) (hc:X.calm=true) (hi:PI X tg iter wi) (hg:PG X tg g) (hb:lO X body tb)
  (hs:∀x,foldedSetIterable iter X.env x=pure x:=by intro _;rfl):PS X (.For tg iter body [] pos) (Np wi g tb):=by
 intro pins s σ H D I h
 refine wpAny_For (bV (hi pins s σ H _ I h) fun v s1 h1=>bV h1 fun Yw s2 h2=>?_) hs
 obtain⟨it,fp,tn,J,H2,e,I2,T,Jk,f2,W,⟨m0,w0⟩,turn⟩:=h2
 subst e
 have yW:∀{H':Hp},(∀b∈fp,H' b=none)→∀b∈fp,lu X pins H' b:=fun hn b hb=>⟨hn b hb,(f2 b hb).2⟩
 refine codeAny_forLoop_any (fun n s'=>∃i σ' H',Inv X pins σ' H' s'∧tn i s'.heap∧(∀b∈fp,H' b=none)∧W i n σ' H') ?_ m0 ⟨0,σ,H2,I2,Jk,fun b hb=>(f2 b hb).1,w0⟩
 rintro n s3 ⟨i,σ3,H3,I3,Yx,fr3,w3⟩
 rcases turn i n σ3 H3 w3 with ⟨stop,qn⟩ | ⟨go,N,hN,step⟩
 ·refine wpAny_passesOwn hp (bV (T.done X rfl rfl rfl hc i pins s3 σ3 H3 X.xe I3 (yW fr3) Yx stop) fun r s4 ⟨hr,I4⟩=>?_)
  subst hr
  exact wpAny_execs_nil ⟨σ3,H3,I4,qn⟩
 ·refine wpAny_passesOwn hp (bV (T.item X rfl rfl rfl hc i pins s3 σ3 H3 X.xe I3 (yW fr3) Yx go) fun r s4 ⟨u,hr,h4⟩=>?_)
  subst hr
  refine wpAny_passesOwn hp (bV h4 fun _ s5 ⟨x,H5,I5,r5,y5,ZA,fr5⟩=>?_)
  have I5':=I5.pinned (yW fr5) (T.obj _ _ ZA)
  refine wpAny_passesOwn hp (bV (hg _ s5 σ3 H5 x u _ I5' r5 (step x H5 y5)) fun _ s6 ⟨σ6,H6,I6,q6⟩=>?_)
  refine wpAny_passesOwn hp (bV (hb _ s6 σ6 H6 _ I6 q6) fun f s7 q7=>?_)
  have again:∀{σ7:St} {H7:Hp},Inv X (pins++qj fp s5.heap) σ7 H7 s7→N σ7 H7→∃m,m<n∧∃i σ' H',Inv X pins σ' H' s7∧tn i s7.heap∧(∀b∈fp,H' b=none)∧W i m σ' H':=fun {σ7 H7} I7 n7=>by
   obtain⟨m',hm,w7⟩:=hN σ7 H7 n7
   refine⟨m',hm,i+1,σ7,H7,I7.gi,T.keep _ _ _ ZA fun b hb o e=>(I7.pin (b,o) (List.mem_append_right _ (List.mem_append_right _ (jg hb e)))).1,fun b hb=>?_,w7⟩
   obtain⟨o,e,d⟩:=T.obj _ _ ZA b hb
   exact(I7.pin (b,o) (List.mem_append_right _ (List.mem_append_right _ (jg hb e)))).2.1
  cases f with
  |next=>obtain⟨σ7,H7,I7,n7⟩:=q7;exact again I7 n7
  |cont=>obtain⟨σ7,H7,I7,n7⟩:=q7;exact again I7 n7
  |brk=>obtain⟨σ7,H7,I7,q7⟩:=q7;exact⟨σ7,H7,I7.gi,q7⟩
  |ret v=>obtain⟨x7,σ7,H7,I7,r7,q7⟩:=q7;exact⟨x7,σ7,H7,I7.gi,r7,q7⟩
end
theorem eF {K:PySem.W.Frag} {a:Addr} {xs:List V} {g:TG} {tb:TS} {D:Ends} {σ:St} {H:Hp} (Pv:Nat→St→Hp→Prop) (h0:Pv 0 σ H) (hl:∀i σ H,i≤xs.length→Pv i σ H→bS K H a xs)
  (hs:∀i x σ H,xs[i]? =some x→Pv i σ H→g x σ H fun σ2 H2=>tb { D with nx:=Pv (i+1),ct:=Pv (i+1),bk:=D.nx } σ2 H2) (hd:∀σ H,Pv xs.length σ H→D.nx σ H):
  ∃W:Nat→Nat→St→Hp→Prop,(∃m,W 0 m σ H)∧∀i m σ H,W i m σ H→
   ((AF K a).stop i H∧D.nx σ H)∨((AF K a).go i H∧∃N:St→Hp→Prop,(∀σ' H',N σ' H'→∃m',m'<m∧W (i+1) m' σ' H')∧∀x H',(AF K a).pf i H x H'→g x σ H' fun σ2 H2=>tb { D with nx:=N,ct:=N,bk:=D.nx } σ2 H2):=by
 refine⟨fun i m σ H=>m=xs.length - i∧i≤xs.length∧Pv i σ H,⟨xs.length,by simp,Nat.zero_le _,h0⟩,?_⟩
 rintro i m σ H ⟨rfl,hi,p⟩
 have q:=hl i σ H hi p
 by_cases ml:i<xs.length
 ·refine .inr ⟨⟨xs,xs[i],q,by simp [ml]⟩,Pv (i+1),fun σ' H' p'=>⟨xs.length - (i+1),by omega,rfl,ml,p'⟩,fun x H' y=>?_⟩
  obtain⟨e,y⟩:=y
  subst e
  exact hs i x σ _ (y xs q) p
 ·have e:i=xs.length:=by omega
  subst e
  exact .inl ⟨⟨xs,q,Nat.le_refl _⟩,hd σ H p⟩
theorem sO {lo:Int} {n:Nat} {g:TG} {tb:TS} {D:Ends} {σ:St} {H:Hp} (Pv:Nat→St→Hp→Prop) (h0:Pv 0 σ H)
  (hs:∀i σ H,i<n→Pv i σ H→g (.int (lo+i)) σ H fun σ2 H2=>tb { D with nx:=Pv (i+1),ct:=Pv (i+1),bk:=D.nx } σ2 H2) (hd:∀σ H,Pv n σ H→D.nx σ H):
  ∃W:Nat→Nat→St→Hp→Prop,(∃m,W 0 m σ H)∧∀i m σ H,W i m σ H→
   ((Em lo n).stop i H∧D.nx σ H)∨((Em lo n).go i H∧∃N:St→Hp→Prop,(∀σ' H',N σ' H'→∃m',m'<m∧W (i+1) m' σ' H')∧∀x H',(Em lo n).pf i H x H'→g x σ H' fun σ2 H2=>tb { D with nx:=N,ct:=N,bk:=D.nx } σ2 H2):=by
 refine⟨fun i m σ H=>m=n - i∧i≤n∧Pv i σ H,⟨n,by simp,Nat.zero_le _,h0⟩,?_⟩
 rintro i m σ H ⟨rfl,hi,p⟩
 by_cases ml:i<n
 ·refine .inr ⟨ml,Pv (i+1),fun σ' H' p'=>⟨n - (i+1),by omega,rfl,ml,p'⟩,fun x H' y=>?_⟩
  obtain⟨e,y⟩:=y
  subst e y
  exact hs i σ _ ml p
 ·have e:i=n:=by omega
  subst e
  exact .inl ⟨Nat.le_refl _,hd σ H p⟩
end L2
namespace L2
open PySem PySem.Spec PyProof.Rows
abbrev R2:=V→V→Hp→VK→Prop
def oW (X:Cx) (f:Value→Value→Sem Value) (r:R2):Prop:=
 ∀(pins:List (Addr×Obj)) (s:Shared) (σ:St) (H:Hp) (x y:V) (v u:Value) (Q:VK),Inv X pins σ H s→RelV x v→RelV y u→r x y H Q→
  wpAny (model X.prog X.w) X.A (f v u) (EP X pins σ Q) X.xe s
def ZC (X:Cx) (f:Value→Sem Value) (r:V→Hp→VK→Prop):Prop:=
 ∀(pins:List (Addr×Obj)) (s:Shared) (σ:St) (H:Hp) (x:V) (v:Value) (Q:VK),Inv X pins σ H s→RelV x v→r x H Q→
  wpAny (model X.prog X.w) X.A (f v) (EP X pins σ Q) X.xe s
def gX (X:Cx) (f:Value) (r:List V→Hp→VK→Prop):Prop:=
 ∀(pins:List (Addr×Obj)) (s:Shared) (σ:St) (H:Hp) (xs:List V) (us:List Value) (Q:VK),Inv X pins σ H s→Vals xs us→r xs H Q→
  wpAny (model X.prog X.w) X.A (call f us) (EP X pins σ Q) X.xe s
def ZD (X:Cx) (r:V→Hp→(Bool→Hp→Prop)→Prop):Prop:=
 ∀(pins:List (Addr×Obj)) (s:Shared) (σ:St) (H:Hp) (x:V) (v:Value) (Q:Bool→Hp→Prop),Inv X pins σ H s→RelV x v→r x H Q→
  wpAny (model X.prog X.w) X.A (truthy v) (TP X pins σ Q) X.xe s
def Nq (r:R2) (ta tb:TE):TE:=fun σ H Q=>ta σ H fun x H1=>tb σ H1 fun y H2=>r x y H2 Q
def tUn (r:V→Hp→VK→Prop) (ta:TE):TE:=fun σ H Q=>ta σ H fun x H1=>r x H1 Q
inductive RI (C:Int→Int→Prop) (g:Int→Int→V) (x y:V) (H:Hp) (Q:VK):Prop
 |mk (i j:Int) (e:x= .int i) (f:y= .int j) (c:C i j) (q:Q (g i j) H)
def rI (C:Int→Int→Prop) (g:Int→Int→V):R2:=RI C g
inductive RJ (g:Int→Int→V) (x y:V) (H:Hp) (Q:VK):Prop
 |mk (i j:Int) (e:x= .int i) (f:y= .int j) (q:Q (g i j) H)
def IQ (g:Int→Int→V):R2:=RJ g
def rU (g:Int→V):V→Hp→VK→Prop:=fun x H Q=>∃i,x= .int i∧Q (g i) H
section
variable {X:Cx} {a b c:Expr} {ta tb tc:TE} {pos:Pos}
theorem Nr (ha:PE X a ta) (hb:PE X b tb) {pins:List (Addr×Obj)} {s:Shared} {σ:St} {H:Hp} {R:V→V→Hp→Prop} (I:Inv X pins σ H s)
  (h:ta σ H fun x H1=>tb σ H1 fun y H2=>R x y H2) {Q:Value→Shared→Prop} {f:Value→Value→Sem Value}
  (hf:∀v u s2 x y H2,Inv X pins σ H2 s2→RelV x v→RelV y u→R x y H2→wpAny (model X.prog X.w) X.A (f v u) Q X.xe s2):
  wpAny (model X.prog X.w) X.A (eval a X.env) (fun v s₁=>wpAny (model X.prog X.w) X.A (eval b X.env) (fun u s₂=>wpAny (model X.prog X.w) X.A (f v u) Q X.xe s₂) X.xe s₁) X.xe s:=by
 refine bV (ha pins s σ H _ I h) fun v s1 ⟨x,H1,I1,r1,q1⟩=>?_
 refine bV (hb pins s1 σ H1 _ I1 q1) fun u s2 ⟨y,H2,I2,r2,q2⟩=>?_
 exact hf v u s2 x y H2 I2 r1 r2 q2
theorem az {op:Operator} {r:R2} (ho:oW X (binaryOp op) r) (ha:PE X a ta) (hb:PE X b tb):PE X (.BinOp a op b pos) (Nq r ta tb):=by
 intro pins s σ H Q I h
 exact wpAny_BinOp (Nr ha hb I h fun v u s2 x y H2 I2 rx ry q=>ho pins s2 σ H2 x y v u Q I2 rx ry q)
theorem lF {op:UnaryOp} {r:V→Hp→VK→Prop} (ho:ZC X (unaryOp op) r) (ha:PE X a ta):PE X (.UnaryOp op a pos) (tUn r ta):=by
 intro pins s σ H Q I h
 exact UnaryOp_ (bV (ha pins s σ H _ I h) fun v s1 ⟨x,H1,I1,r1,q1⟩=>ho pins s1 σ H1 x v Q I1 r1 q1)
theorem Rm {f:Value→Value→Sem Value} {C:Int→Int→Prop} {g:Int→Int→Int}
  (rule:∀(i j:Int) (t u:Tok) (s:Shared) (Q:Value→Shared→Prop) (E:Value→Shared→Prop),C i j→Q (.int (g i j) s.toks) { s with toks:=s.toks+1 }→wpAny (model X.prog X.w) X.A (f (.int i t) (.int j u)) Q E s):
  oW X f (rI C fun i j=> .int (g i j)):=by
 intro pins s σ H x y v u Q I rx ry h
 obtain⟨i,j,rfl,rfl,hc,q⟩:=h
 obtain⟨t,rfl⟩:=rx
 obtain⟨t',rfl⟩:=ry
 exact rule i j t t' s _ _ hc ⟨.int (g i j),H,I.tok _,⟨_,rfl⟩,q⟩
theorem Rn {f:Value→Value→Sem Value} {g:Int→Int→Int}
  (rule:∀(i j:Int) (t u:Tok) (s:Shared) (Q:Value→Shared→Prop) (E:Value→Shared→Prop),Q (.int (g i j) s.toks) { s with toks:=s.toks+1 }→wpAny (model X.prog X.w) X.A (f (.int i t) (.int j u)) Q E s):
  oW X f (IQ fun i j=> .int (g i j)):=by
 intro pins s σ H x y v u Q I rx ry h
 obtain⟨i,j,rfl,rfl,q⟩:=h
 obtain⟨t,rfl⟩:=rx
 obtain⟨t',rfl⟩:=ry
 exact rule i j t t' s _ _ ⟨.int (g i j),H,I.tok _,⟨_,rfl⟩,q⟩
theorem Jl {f:Value→Value→Sem Value} {g:Int→Int→Bool}
  (rule:∀(i j:Int) (t u:Tok) (s:Shared) (Q:Value→Shared→Prop) (E:Value→Shared→Prop),Q (.bool (g i j)) s→wpAny (model X.prog X.w) X.A (f (.int i t) (.int j u)) Q E s):
  oW X f (IQ fun i j=> .bl (g i j)):=by
 intro pins s σ H x y v u Q I rx ry h
 obtain⟨i,j,rfl,rfl,q⟩:=h
 obtain⟨t,rfl⟩:=rx
 obtain⟨t',rfl⟩:=ry
 exact rule i j t t' s _ _ ⟨.bl (g i j),H,I,rfl,q⟩
def ZE (i j:Int):Prop:=0<j∧j<1073741824
def ZF (i j:Int):Prop:=0≤j∧j≤1000000∧i.natAbs<2^64
def Jm (i j:Int):Prop:=(-(2^64) <i∧i<2^64)∨(-(2^64) <j∧j<2^64)
theorem Jm.ok {i j:Int} (h:Jm i j):IntMulOk i j:=by
 rcases h with ⟨h1,h2⟩ | ⟨h1,h2⟩
 ·exact .of_left (intBits_le_64 h1 h2)
 ·exact .of_right (intBits_le_64 h1 h2)
theorem bO:oW X (binaryOp .Add) (IQ fun i j=> .int (i+j)):=Rn fun _ _ _ _ _ _ _ q=>add_int q
theorem fu:oW X (binaryOp .Sub) (IQ fun i j=> .int (i - j)):=Rn fun _ _ _ _ _ _ _ q=>sub_int q
theorem dI:oW X (binaryOp .Mult) (rI Jm fun i j=> .int (i*j)):=Rm fun _ _ _ _ _ _ _ hc q=>mul_int q hc.ok
theorem b6:oW X (binaryOp .FloorDiv) (rI ZE fun i j=> .int (i/j)):=Rm fun i j _ _ _ _ _ hc q=>by
 have h1:(0 :Int) <j:=hc.1
 have h2:j<1073741824:=hc.2
 exact floordiv_int (by omega) (by rw[Int.fdiv_eq_ediv_of_nonneg i (by omega)];exact q) (.inl (PyProof.noPylong_small (by omega)))
theorem bT:oW X (binaryOp .Mod) (rI (fun _ j=>0<j) fun i j=> .int (i%j)):=Rm fun i j _ _ _ _ _ hc q=>by
 have h1:(0 :Int) <j:=hc
 exact mod_int' (by omega) (by rw[Int.fmod_eq_emod_of_nonneg i (by omega)];exact q)
theorem EI:oW X (binaryOp .Pow) (rI ZF fun i j=> .int (i^j.toNat)):=Rm fun _ _ _ _ _ _ _ hc q=>pow_int_small hc.1 hc.2.1 hc.2.2 q
theorem unI {f:Value→Sem Value} {g:Int→Int}
  (rule:∀(i:Int) (t:Tok) (s:Shared) (Q:Value→Shared→Prop) (E:Value→Shared→Prop),Q (.int (g i) s.toks) { s with toks:=s.toks+1 }→wpAny (model X.prog X.w) X.A (f (.int i t)) Q E s):
  ZC X f (rU fun i=> .int (g i)):=by
 intro pins s σ H x v Q I rx h
 obtain⟨i,rfl,q⟩:=h
 obtain⟨t,rfl⟩:=rx
 exact rule i t s _ _ ⟨.int (g i),H,I.tok _,⟨_,rfl⟩,q⟩
theorem iQ:ZC X (unaryOp .USub) (rU fun i=> .int (-i)):=unI fun _ _ _ _ _ q=>neg_int q
end
def Ro:V→V→Bool
 | .cI, .cI=>true| .cI, .int _=>true| .int _, .cI=>true| .cI, .bl _=>true| .bl _, .cI=>true| .cI, .str _=>true| .str _, .cI=>true
 | .int _, .int _=>true| .bl _, .bl _=>true| .str _, .str _=>true| .yT _, .yT _=>true
 | .int _, .str _=>true| .str _, .int _=>true| .bl _, .str _=>true| .str _, .bl _=>true
 |_,_=>false
def rEq:R2:=fun x y H Q=>Ro x y=true∧Q (.bl (decide (x=y))) H
def rNe:R2:=fun x y H Q=>Ro x y=true∧Q (.bl (!decide (x=y))) H
theorem AH {i j:Int}:decide (V.int i=V.int j)=(i==j):=by
 rw[Bool.eq_iff_iff]
 simp
theorem EJ {i j:Bool}:decide (V.bl i=V.bl j)=(i==j):=by
 rw[Bool.eq_iff_iff]
 simp
theorem AI {i j:Str}:decide (V.str i=V.str j)=(i==j):=by
 rw[Bool.eq_iff_iff]
 simp
theorem AJ {i j:Array UInt8}:decide (V.yT i=V.yT j)=(i.toList==j.toList):=by
 rw[Bool.eq_iff_iff]
 cases i
 cases j
 simp
section
variable {X:Cx} {a b c:Expr} {ta tb tc:TE} {pos:Pos}
theorem bR {pins:List (Addr×Obj)} {σ:St} {H:Hp} {s:Shared} {Q:VK} {k k':Bool} (I:Inv X pins σ H s) (q:Q (.bl k) H) (e:k=k'):EP X pins σ Q (.bool k') s:=by
 subst e
 exact⟨.bl k,H,I,rfl,q⟩
theorem dJ:oW X (compareOp .Eq) rEq:=by
 intro pins s σ H x y v u Q I rx ry h
 obtain⟨hs,q⟩:=h
 cases x with
 |cI=>
  cases rx
  cases y with
  |cI=>cases ry;exact PySem.EqNone.eq_none_none (bR I q (by simp))
  |bl j=>cases ry;exact PySem.EqNone.eq_none_bool (bR I q (by simp))
  |int j=>obtain⟨t',rfl⟩:=ry;exact PySem.EqNone.eq_none_int (bR I q (by simp))
  |str j=>obtain⟨t',rfl⟩:=ry;exact PySem.EqNone.eq_none_str (bR I q (by simp))
  |_=>exact absurd (show false=true from hs) Bool.false_ne_true
 |bl i=>
  cases rx
  cases y with
  |cI=>cases ry;exact PySem.EqNone.eq_bool_none (bR I q (by simp))
  |bl j=>cases ry;exact eq_bool (bR I q EJ)
  |str j=>obtain⟨t',rfl⟩:=ry;exact PySem.EqMixed.eq_bool_str (bR I q (by simp))
  |_=>exact absurd (show false=true from hs) Bool.false_ne_true
 |int i=>
  obtain⟨t,rfl⟩:=rx
  cases y with
  |cI=>cases ry;exact PySem.EqNone.eq_int_none (bR I q (by simp))
  |int j=>obtain⟨t',rfl⟩:=ry;exact eq_int (bR I q AH)
  |str j=>obtain⟨t',rfl⟩:=ry;exact PySem.EqMixed.eq_int_str (bR I q (by simp))
  |_=>exact absurd (show false=true from hs) Bool.false_ne_true
 |str i=>
  obtain⟨t,rfl⟩:=rx
  cases y with
  |cI=>cases ry;exact PySem.EqNone.eq_str_none (bR I q (by simp))
  |bl j=>cases ry;exact PySem.EqMixed.eq_str_bool (bR I q (by simp))
  |int j=>obtain⟨t',rfl⟩:=ry;exact PySem.EqMixed.eq_str_int (bR I q (by simp))
  |str j=>obtain⟨t',rfl⟩:=ry;exact eq_str (bR I q AI)
  |_=>exact absurd (show false=true from hs) Bool.false_ne_true
 |yT i=>
  obtain⟨t,rfl⟩:=rx
  cases y with
  |yT j=>obtain⟨t',rfl⟩:=ry;exact PySem.W.eq_bytes (bR I q AJ)
  |_=>exact absurd (show false=true from hs) Bool.false_ne_true
 |_=>cases y<;>exact absurd (show false=true from hs) Bool.false_ne_true
theorem qk:oW X (compareOp .NotEq) rNe:=by
 intro pins s σ H x y v u Q I rx ry h
 obtain⟨hs,q⟩:=h
 cases x with
 |cI=>
  cases rx
  cases y with
  |cI=>cases ry;exact PySem.EqNone.ne_none_none (bR I q (by simp))
  |bl j=>cases ry;exact PySem.EqNone.ne_none_bool (bR I q (by simp))
  |int j=>obtain⟨t',rfl⟩:=ry;exact PySem.EqNone.ne_none_int (bR I q (by simp))
  |str j=>obtain⟨t',rfl⟩:=ry;exact PySem.EqNone.ne_none_str (bR I q (by simp))
  |_=>exact absurd (show false=true from hs) Bool.false_ne_true
 |bl i=>
  cases rx
  cases y with
  |cI=>cases ry;exact PySem.EqNone.ne_bool_none (bR I q (by simp))
  |bl j=>cases ry;exact ne_bool (bR I q (congrArg not EJ))
  |str j=>obtain⟨t',rfl⟩:=ry;exact PySem.EqMixed.ne_bool_str (bR I q (by simp))
  |_=>exact absurd (show false=true from hs) Bool.false_ne_true
 |int i=>
  obtain⟨t,rfl⟩:=rx
  cases y with
  |cI=>cases ry;exact PySem.EqNone.ne_int_none (bR I q (by simp))
  |int j=>obtain⟨t',rfl⟩:=ry;exact ne_int (bR I q (congrArg not AH))
  |str j=>obtain⟨t',rfl⟩:=ry;exact PySem.EqMixed.ne_int_str (bR I q (by simp))
  |_=>exact absurd (show false=true from hs) Bool.false_ne_true
 |str i=>
  obtain⟨t,rfl⟩:=rx
  cases y with
  |cI=>cases ry;exact PySem.EqNone.ne_str_none (bR I q (by simp))
  |bl j=>cases ry;exact PySem.EqMixed.ne_str_bool (bR I q (by simp))
  |int j=>obtain⟨t',rfl⟩:=ry;exact PySem.EqMixed.ne_str_int (bR I q (by simp))
  |str j=>obtain⟨t',rfl⟩:=ry;exact ne_str (bR I q (congrArg not AI))
  |_=>exact absurd (show false=true from hs) Bool.false_ne_true
 |yT i=>
  obtain⟨t,rfl⟩:=rx
  cases y with
  |yT j=>obtain⟨t',rfl⟩:=ry;exact PySem.W.ne_bytes (bR I q (congrArg not AJ))
  |_=>exact absurd (show false=true from hs) Bool.false_ne_true
 |_=>cases y<;>exact absurd (show false=true from hs) Bool.false_ne_true
theorem lG:oW X (compareOp .Lt) (IQ fun i j=> .bl (decide (i<j))):=Jl fun _ _ _ _ _ _ _ q=>lt_int q
theorem AK:oW X (compareOp .LtE) (IQ fun i j=> .bl (decide (i≤j))):=Jl fun _ _ _ _ _ _ _ q=>le_int q
theorem jM:oW X (compareOp .Gt) (IQ fun i j=> .bl (decide (j<i))):=Jl fun _ _ _ _ _ _ _ q=>gt_int q
theorem LV:oW X (compareOp .GtE) (IQ fun i j=> .bl (decide (j≤i))):=Jl fun _ _ _ _ _ _ _ q=>ge_int q
theorem aQ (b:Expr) {op:CmpOp} (h:op≠ .In:=by decide) (h2:op≠ .NotIn:=by decide):behindInMarks op b=false:=by
 have e1:(op==CmpOp.In)=false:=by cases op<;>first|rfl|exact absurd rfl h
 have e2:(op==CmpOp.NotIn)=false:=by cases op<;>first|rfl|exact absurd rfl h2
 cases b<;>simp [behindInMarks,e1,e2]
theorem kG {op:CmpOp} {r:R2} (ho:oW X (compareOp op) r) (ha:PE X a ta) (hb:PE X b tb) (hm:behindInMarks op b=false):PE X (.Compare a [op] [b] pos) (Nq r ta tb):=by
 intro pins s σ H Q I h
 exact wpAny_Compare1 (Nr ha hb I h fun v u s2 x y H2 I2 rx ry q=>ho pins s2 σ H2 x y v u Q I2 rx ry q) hm
def Rp (t:TE):TT:=fun σ H Q=>t σ H fun x H'=>∃k,x= .bl k∧Q k H'
theorem aO {op:CmpOp} {r:R2} (ho:oW X (compareOp op) r) (ha:PE X a ta) (hb:PE X b tb) (hm:behindInMarks op b=false):PT X (.Compare a [op] [b] pos) (Rp (Nq r ta tb)):=by
 intro pins s σ H Q I h
 refine wpAny_isTrue_Compare1 (bV (ha pins s σ H _ I h) fun v s1 ⟨x,H1,I1,r1,q1⟩=>bV (hb pins s1 σ H1 _ I1 q1) fun u s2 ⟨y,H2,I2,r2,q2⟩=>
  bV (ho pins s2 σ H2 x y v u _ I2 r1 r2 q2) fun c s3 ⟨z,H3,I3,r3,k,e,q3⟩=>?_) hm
 subst e
 cases r3
 exact wpAny_truthy_bool ⟨H3,I3,q3⟩
def Nt (r r':R2) (ta tb tc:TE):TE:=fun σ H Q=>ta σ H fun x H1=>tb σ H1 fun y H2=>r x y H2 fun z H3=>∃k,z= .bl k∧
 (if k=true then tc σ H3 fun w' H4=>r' y w' H4 Q else Q (.bl false) H3)
theorem ql {op ZG:CmpOp} {r r':R2} (ho:oW X (compareOp op) r) (si:oW X (compareOp ZG) r') (ha:PE X a ta) (hb:PE X b tb) (hc:PE X c tc)
  (hm:lastMarks [op,ZG] [b,c]=false:=by with_unfolding_all rfl):PE X (.Compare a [op,ZG] [b,c] pos) (Nt r r' ta tb tc):=by
 intro pins s σ H Q I h
 refine Compare_chain (bV (ha pins s σ H _ I h) fun v s1 ⟨x,H1,I1,r1,q1⟩=>chain_link (bV (hb pins s1 σ H1 _ I1 q1) fun u s2 ⟨y,H2,I2,r2,q2⟩=>
  bV (ho pins s2 σ H2 x y v u _ I2 r1 r2 q2) fun d s3 ⟨z,H3,I3,r3,k,e,q3⟩=>?_)) hm
 subst e
 cases r3
 refine wpAny_truthy_bool ?_
 cases k with
 |false=>exact ite_ff ⟨.bl false,H3,I3,rfl,q3⟩
 |true=>exact ite_tt (chain_last (bV (hc pins s3 σ H3 _ I3 q3) fun w' s4 ⟨z',H4,I4,r4,q4⟩=>si pins s4 σ H4 y z' u w' Q I4 r2 r4 q4))
def Rq (K:PySem.W.Frag) (x:V) (H:Hp) (k:Bool):Prop:=
 match x with
 | .cI=>k=false
 | .bl b=>k=b
 | .int i=>k=(i != 0)
 | .str y=>y.length≤sizeLine∧k=((y.length:Int) != 0)
 | .yT y=>y.size≤sizeLine∧k=((y.size:Int) != 0)
 | .ref p=>(∃xs,bS K H p xs∧k=!xs.isEmpty)∨(∃xs,jL K H p xs∧k=!xs.isEmpty)∨∃kvs,H p=some (.dK kvs)∧k=!kvs.isEmpty
 |_=>False
theorem yX {κ:Type} {kvs:List (κ×V)} {vs:List (κ×Value)} (r:KV kvs vs):(!vs.isEmpty)=!kvs.isEmpty:=by
 cases r<;>rfl
theorem qm {xs:List V} {its:List Value} (r:Vals xs its):(!its.toArray.isEmpty)=!xs.isEmpty:=by
 cases r<;>simp
theorem nU:(sizeLine:Nat) <2^63:=by rw[sizeLine_eq];decide
theorem Nu:ZD X (fun x H Q=>∃k,Rq X.K x H k∧Q k H):=by
 intro pins s σ H x v Q I rx h
 obtain⟨k,e,q⟩:=h
 have hl:=nU
 have hs:sizeLine=16777216:=sizeLine_eq
 cases x with
 |cI=>
  cases rx
  have e':k=false:=e
  subst e'
  exact truthy_none ⟨H,I,q⟩
 |bl b=>
  cases rx
  have e':k=b:=e
  subst e'
  exact wpAny_truthy_bool ⟨H,I,q⟩
 |int i=>
  obtain⟨t,rfl⟩:=rx
  have e':k=(i != 0):=e
  subst e'
  exact PySem.P.truthy_int ⟨H,I,q⟩
 |str y=>
  obtain⟨t,rfl⟩:=rx
  obtain⟨hy,e'⟩:y.length≤sizeLine∧k=((y.length:Int) != 0):=e
  subst e'
  exact PySem.P.truthy_str (by omega) ⟨H,I.tok _,q⟩
 |yT y=>
  obtain⟨t,rfl⟩:=rx
  obtain⟨hy,e'⟩:y.size≤sizeLine∧k=((y.size:Int) != 0):=e
  subst e'
  exact PySem.W.truthy_bytes (by omega) ⟨H,I.tok _,q⟩
 |ref p=>
  cases rx
  have e':(∃xs,bS X.K H p xs∧k=!xs.isEmpty)∨(∃xs,jL X.K H p xs∧k=!xs.isEmpty)∨∃kvs,H p=some (.dK kvs)∧k=!kvs.isEmpty:=e
  rcases e' with ⟨xs,hx,e'⟩ | ⟨xs,hx,e'⟩ | ⟨kvs,hx,e'⟩
  ·subst e'
   obtain⟨its,r,pl,hz⟩:=I.list hx
   have hlen:=r.length
   exact wpAny_truthy_list pl.isList (by simp only [List.size_toArray];omega) ⟨H,I.tok _,by rw[qm r];exact q⟩
  ·subst e'
   obtain⟨its,r,pl,hz⟩:=I.tuple hx
   have hlen:=r.length
   exact truthy_tuple pl (by simp only [List.size_toArray];omega) ⟨H,I.tok _,by rw[qm r];exact q⟩
  ·subst e'
   obtain⟨hz,hS,vs,r,m⟩:kvs.length≤sizeLine∧(p==sysModules)=false∧∃vs,KV kvs vs∧s.heap.DictOf (bD X.prog X.w) p vs:=I.aX p _ hx
   have hlen:kvs.length=vs.length:=Paired.length r
   exact wpAny_truthy_dict hS m (by omega) ⟨H,I.tok _,by rw[yX r];exact q⟩
 |_=>exact(show False from e).elim
theorem qo (ha:PE X a ta) (he:∀whole,isTrue a X.env whole=(do let v←whole;standAt a.pos;holding [v] (truthy v))):
  PT X a (fun σ H Q=>ta σ H fun x H'=>∃k,Rq X.K x H' k∧Q k H'):=by
 intro pins s σ H Q I h
 exact isTrue_plain (bV (ha pins s σ H _ I h) fun v s1 ⟨x,H1,I1,r1,q1⟩=>Nu pins s1 σ H1 x v Q I1 r1 q1) (he _)
theorem br:oW X (binaryOp .Add) (fun x y H Q=>∃i j,x= .str i∧y= .str j∧i.length+j.length≤sizeLine∧Q (.str (i++j)) H):=by
 intro pins s σ H x y v u Q I rx ry h
 obtain⟨i,j,rfl,rfl,hz,q⟩:=h
 obtain⟨t,rfl⟩:=rx
 obtain⟨t',rfl⟩:=ry
 exact add_str (fun t' tk=>⟨.str (i++j),H,I.tok _,⟨_,rfl⟩,q⟩) hz
theorem vals1 {x:V} {us:List Value} (r:Vals [x] us):∃u,us=[u]∧RelV x u:=by
 cases r with
 |cons r1 r2=>cases r2;exact⟨_,rfl,r1⟩
theorem vals2 {x y:V} {us:List Value} (r:Vals [x,y] us):∃u w',us=[u,w']∧RelV x u∧RelV y w':=by
 cases r with
 |cons r1 r2=>
  cases r2 with
  |cons r3 r4=>cases r4;exact⟨_,_,rfl,r1,r3⟩
theorem xm:gX X (.builtin "abs") (fun xs H Q=>∃i,xs=[.int i]∧Q (.int (if i<0 then -i else i)) H):=by
 intro pins s σ H xs us Q I r h
 obtain⟨i,rfl,q⟩:=h
 obtain⟨u,rfl,t,rfl⟩:=vals1 r
 exact call_abs_int fun u tk=>⟨.int (if i<0 then -i else i),H,I.tok _,⟨_,rfl⟩,q⟩
theorem Cy (hc:X.calm=true):gX X (.builtin "max") (fun xs H Q=>∃i j,xs=[.int i, .int j]∧Q (.int (if j>i then j else i)) H):=by
 intro pins s σ H xs us Q I r h
 obtain⟨i,j,rfl,q⟩:=h
 obtain⟨u,w',rfl,⟨t,rfl⟩,⟨t',rfl⟩⟩:=vals2 r
 refine max_two_ints (I.ok.hd hc) fun h' tk k=>⟨_,H,I.kept k,?_,q⟩
 by_cases hj:j>i
 ·rw[if_pos hj,if_pos hj];exact⟨_,rfl⟩
 ·rw[if_neg hj,if_neg hj];exact⟨_,rfl⟩
theorem kH:gX X (.type "int") (fun xs H Q=>(∃i,xs=[.int i]∧Q (.int i) H)∨∃k,xs=[.bl k]∧Q (.int (if k then 1 else 0)) H):=by
 intro pins s σ H xs us Q I r h
 rcases h with ⟨i,rfl,q⟩ | ⟨k,rfl,q⟩
 ·obtain⟨u,rfl,t,rfl⟩:=vals1 r
  exact call_int_int ⟨.int i,H,I,⟨_,rfl⟩,q⟩
 ·obtain⟨u,rfl,r1⟩:=vals1 r
  cases r1
  exact call_int_bool ⟨.int (if k then 1 else 0),H,I.tok _,⟨_,rfl⟩,q⟩
theorem jh:gX X (.type "str") (fun xs H Q=>∃i,xs=[.int i]∧i.natAbs.log2<1920∧Q (.str (toString i)) H):=by
 intro pins s σ H xs us Q I r h
 obtain⟨i,rfl,hz,q⟩:=h
 obtain⟨u,rfl,t,rfl⟩:=vals1 r
 exact PySem.P.str_of_int hz ⟨.str _,H,I.tok _,⟨_,rfl⟩,q⟩
end
end L2
namespace L2
open PySem PySem.Spec PyProof.Rows
structure yY (h:Heap) (x dx C:Addr) (mA:Str→Option Value):Prop where
 obj:h.get? x=some (PySem.W.instObj C dx)
 ns:h.Ns1 dx mA
 ne:dx≠x
theorem sP {h:Heap} {dx:Addr} {mA:Str→Option Value} (n:h.Ns1 dx mA):∃od,h.get? dx=some od∧∀name,PySem.W.lookIn name od=some (mA name):=by
 obtain⟨o,es,ep,ho,hd,hk,_,hm⟩:=n
 refine⟨o,ho,fun name=>?_⟩
 have e:=hm name
 unfold nsFind findBy at e
 rw[←Array.find?_toList] at e
 unfold PySem.W.lookIn
 rw[hd]
 dsimp only
 split
 ·rename_i y q
  rw[q] at e
  exact congrArg some e
 ·rename_i q
  rw[q] at e
  have a:es.toList.any (·.refKey)=false:=by
   rw[List.any_eq_false]
   intro y hy
   obtain⟨z,t,Nv⟩:=hk y (Array.mem_toList_iff.mp hy)
   simp [DictEntry.refKey,Nv]
  have a':¬es.toList.any (·.refKey)=true:=by rw[a];exact Bool.false_ne_true
  rw[if_neg a']
  exact congrArg some e
theorem yY.look {h:Heap} {x dx C:Addr} {mA:Str→Option Value} (I:yY h x dx C mA):∃od,PySem.W.InstAt h x (PySem.W.instObj C dx) C (some od)∧∀name,PySem.W.lookIn name od=some (mA name):=
 let ⟨od,ho,hl⟩:=sP I.ns
 ⟨od,⟨I.obj,rfl,rfl,ho⟩,hl⟩
section
variable {prog:Program} {w:World} {A:Around} {E:Value→Shared→Prop} {s:Shared} {K:PySem.W.Frag} {x dx C f:Addr} {mA:Str→Option Value} {name:Str} {v:Value}
theorem get_map {expr:Bool} {Q:Value→Shared→Prop} (X:K.In s.heap) (I:yY s.heap x dx C mA) (hg:PySem.W.plainGet K C name=true) (hh:PySem.W.hasDictIn K C=true)
  (ha:PySem.W.findIn K (.ref C) name=some none) (hv:mA name=some v) (hv':PySem.W.handedIn v=true) (h:Q v { s with toks:=s.toks+1 }):
  wpAny (model prog w) A (getAttr (.ref x) name expr) Q E s:=by
 obtain⟨od,J,hl⟩:=I.look
 exact PySem.W.get_value X J (PySem.W.plainGet_of hg).1 (PySem.W.findObj_own hh ha rfl (by rw[hl,hv])) hv' h
theorem EK {pl:Sem Bool} {Q:Value×List Value→Shared→Prop} (X:K.In s.heap) (I:yY s.heap x dx C mA) (hg:PySem.W.plainGet K C name=true)
  (hf:PySem.W.findIn K (.ref C) name=some (some (.ref f))) (ht:PySem.W.isFn K (.ref f)=true) (hv:mA name=none) (h:Q (.ref f,[.ref x]) s):
  wpAny (model prog w) A (getMethod (.ref x) name pl) Q E s:=by
 obtain⟨od,J,hl⟩:=I.look
 exact PySem.W.method_fn X J (PySem.W.plainGet_of hg).1 (PySem.W.plainGet_of hg).2 hf (beq_iff_eq.mp ht) (by show (PySem.W.lookIn name od).map (·.isSome)=some false;rw[hl,hv];rfl) h
theorem Jn {ns:List Str} {Q:Unit→Shared→Prop} (X:K.In s.heap) (I:yY s.heap x dx C mA)
  (hs:PySem.W.findIn K (.ref C) "__setattr__" =some (some (.builtin "object.__setattr__"))) (hp:PySem.W.plainOver K C=true) (ht:PySem.W.takerIn K C name=some none) (hh:PySem.W.hasDictIn K C=true)
  (hw:PySem.Within mA ns) (hsz:ns.length≤sizeLine)
  (h:∀h',yY h' x dx C (fun y=>if y=name then some v else mA y)→Heap.SameBut dx s.heap h'→Q () { s with heap:=h',toks:=s.toks+2 }):
  wpAny (model prog w) A (setAttr (.ref x) name v) Q E s:=by
 obtain⟨od,J,hl⟩:=I.look
 refine PySem.W.set_plain X J hs (PySem.W.osa_open (s:={ s with toks:=s.toks+1 }) (r:=none) X J hp ht fun b=>?_)
 obtain⟨cd,hc,gA⟩:=PySem.W.any_some hh
 have hx:s.heap.get? x=some ⟨.ref C,some dx, .plain,#[]⟩:=I.obj
 refine wpAny_bind (wpAny_pure (wpAny_bind (wpAny_bind (wpAny_loadPart hx (wpAny_bind (PySem.W.Looks.here (s:={ s with toks:=s.toks+1 }) (PySem.W.looks_clsIn X hc) ?_))))))
 rw[gA]
 refine wpAny_pure (a:=some dx) (wpAny_bind (wpAny_pure (wpAny_bind ?_)))
 refine wpAny_nsSet1 (s:={ s with toks:=s.toks+1 }) I.ns fun h' LW hs2=>?_
 obtain⟨oD,esD,epD,hoD,hdD,hcD⟩:=LW.count (PySem.Within.cons name v hw)
 refine wpAny_bind (wpAny_lookBehind hoD (by rw[hdD];exact pastItsLine_dict (Nat.le_trans hcD (by rw[List.length_cons];omega))) ?_)
 exact wpAny_pure (h _ ⟨(hs2.2 _ (Ne.symm I.ne)).trans I.obj,LW,I.ne⟩ hs2)
theorem EL {R:Result→Shared→Prop} {vs:List Value} {kw:List (Str×Value)} (X:K.In s.heap) (hm:PySem.W.makesIn K C=true)
  (hi:PySem.W.findIn K (.ref C) "__init__" =some (some (.ref f))) (hf:PySem.W.typeIn K (.ref f)=some (.type "function"))
  (h:codeAny (model prog w) (A.under (.builtin "type.__call__" ⟨.ref C::vs,kw⟩)) (.call (.ref f) ⟨.ref (s.heap.objs.size+1)::vs,kw⟩) (PySem.W.InitBack (s.heap.objs.size+1) R)
   { s with heap:=(s.heap.push PySem.W.emptyDict).push (PySem.W.instObj C s.heap.objs.size) }):
  codeAny (model prog w) A (.call (.ref C) ⟨vs,kw⟩) R s:=by
 obtain⟨hh,g,d,t,os⟩:=s
 exact PySem.W.make_core (PySem.W.makes_of X hm) (PySem.W.looks_findIn X hi) (fun self=>PySem.W.bind_fn X self hf) (.inl rfl) h
end
def cJ (f:Str) (v:V):List (Str×V)→List (Str×V)
 | []=>[(f,v)]
 | (g,x)::r=>if g=f then (g,v)::r else (g,x)::cJ f v r
theorem aD (f g:Str) (v:V):∀fs:List (Str×V),(cJ f v fs).lookup g=if g=f then some v else fs.lookup g
 | []=>by
   show List.lookup g [(f,v)]=_
   by_cases h:g=f
   ·have hb:(g==f)=true:=beq_iff_eq.mpr h
    simp only [List.lookup,hb,if_pos h]
   ·have hb:(g==f)=false:=beq_eq_false_iff_ne.mpr h
    simp only [List.lookup,hb,if_neg h]
 | (k,x)::r=>by
   have ih:=aD f g v r
   rw[show cJ f v ((k,x)::r)=(if k=f then (k,v)::r else (k,x)::cJ f v r) from rfl]
   by_cases hk:k=f
   ·rw[if_pos hk]
    by_cases h:g=k
    ·have hb:(g==k)=true:=beq_iff_eq.mpr h
     simp only [List.lookup,hb,if_pos (h.trans hk)]
    ·have hb:(g==k)=false:=beq_eq_false_iff_ne.mpr h
     simp only [List.lookup,hb,if_neg (fun e:g=f=>h (e.trans hk.symm))]
   ·rw[if_neg hk]
    by_cases h:g=k
    ·have hb:(g==k)=true:=beq_iff_eq.mpr h
     simp only [List.lookup,hb,if_neg (fun e:g=f=>hk (h.symm.trans e))]
    ·have hb:(g==k)=false:=beq_eq_false_iff_ne.mpr h
     simp only [List.lookup,hb]
     exact ih
theorem i0 (f:Str) (v:V):∀fs:List (Str×V),f∈(cJ f v fs).map (·.1)∧∀g,g∈fs.map (·.1)→g∈(cJ f v fs).map (·.1)
 | []=>⟨by simp [cJ],fun g h=>by simp at h⟩
 | (k,x)::r=>by
   obtain⟨i1,i2⟩:=i0 f v r
   rw[show cJ f v ((k,x)::r)=(if k=f then (k,v)::r else (k,x)::cJ f v r) from rfl]
   by_cases hk:k=f
   ·rw[if_pos hk]
    subst hk
    exact⟨by simp,fun g h=>by simpa using h⟩
   ·rw[if_neg hk]
    refine⟨?_,fun g h=>?_⟩
    ·rw[List.map_cons]
     exact List.mem_cons_of_mem _ i1
    ·rw[List.map_cons] at h ⊢
     rcases List.mem_cons.mp h with e|e
     ·exact List.mem_cons.mpr (.inl e)
     ·exact List.mem_cons_of_mem _ (i2 g e)
theorem gj (f:Str) (v:V):∀fs:List (Str×V),(cJ f v fs).length≤fs.length+1
 | []=>by simp [cJ]
 | (k,x)::r=>by
   have ih:=gj f v r
   rw[show cJ f v ((k,x)::r)=(if k=f then (k,v)::r else (k,x)::cJ f v r) from rfl]
   by_cases hk:k=f
   ·rw[if_pos hk,List.length_cons,List.length_cons];omega
   ·rw[if_neg hk,List.length_cons,List.length_cons];omega
theorem iy.some_of {v:V} {o:Option Value} (r:iy (some v) o):∃u,o=some u∧RelV v u:=by
 cases o with
 |none=>exact(show False from r).elim
 |some u=>exact⟨u,rfl,r⟩
theorem iy.none_of {o:Option Value} (r:iy none o):o=none:=by
 cases o with
 |none=>rfl
 |some u=>exact(show False from r).elim
theorem sQ {v:V} {u:Value} (r:RelV v u):PySem.W.handedIn u=true:=by
 cases v with
 |cI=>cases (show u=Value.none from r);rfl
 |bl b=>cases (show u=Value.bool b from r);rfl
 |int i=>obtain⟨t,e⟩:=(show∃t,u=Value.int i t from r);cases e;rfl
 |str x=>obtain⟨t,e⟩:=(show∃t,u=Value.str x t from r);cases e;rfl
 |yT b=>obtain⟨t,e⟩:=(show∃t,u=Value.bytes b t from r);cases e;rfl
 |LN b=>obtain⟨t,e⟩:=(show∃t,u=Value.float b t from r);cases e;rfl
 |ref a=>cases (show u=Value.ref a from r);rfl
 |ty n=>cases (show u=Value.type n from r);rfl
section
variable {P:Program} {w:World} {H H':Hp} {h h':Heap} {a C dx:Addr} {fs Je:List (Str×V)}
theorem pA (aX:jQ P w H h) (e:H a=some (.ins C dx fs)):∃mA,yY h a dx C mA∧(∀f,iy (fs.lookup f) (mA f))∧PySem.Within mA (fs.map (·.1))∧fs.length≤1000∧H dx=some (.own a):=by
 obtain⟨d,z,ne,ob,mA,n,r,q⟩:=(show cg P w H h a (.ins C dx fs) from aX a _ e)
 exact⟨mA,⟨ob,n,ne⟩,r,q,z,d⟩
end
structure sR (K:PySem.W.Frag) (C:Addr):Prop where
 pg:PySem.W.plainGet K C Str.empty=true
 hd:PySem.W.hasDictIn K C=true
 po:PySem.W.plainOver K C=true
 sa:PySem.W.findIn K (.ref C) "__setattr__" =some (some (.builtin "object.__setattr__"))
theorem sR.get {K:PySem.W.Frag} {C:Addr} (c:sR K C) (f:Str):PySem.W.plainGet K C f=true:=c.pg
def cE (K:PySem.W.Frag) (C:Addr) (f:Str):Prop:=PySem.W.findIn K (.ref C) f=some none
theorem cE.Rr {K:PySem.W.Frag} {C:Addr} {f:Str} (n:cE K C f):PySem.W.takerIn K C f=some none:=by
 unfold PySem.W.takerIn
 rw[show PySem.W.findIn K (.ref C) f=some none from n]
 rfl
structure Meth (K:PySem.W.Frag) (C:Addr) (m:Str) (f:Addr):Prop where
 at_:PySem.W.findIn K (.ref C) m=some (some (.ref f))
 fn:PySem.W.isFn K (.ref f)=true
 kp:PySem.W.keepIn K (.ref f)=true
section
variable {X:Cx} {pins:List (Addr×Obj)} {σ:St} {H:Hp} {s:Shared} {a C dx:Addr} {fs:List (Str×V)} {f:Str} {v:V} {A:Around} {E:Value→Shared→Prop}
theorem qp {b:Bool} {Q:Value→Shared→Prop} (I:Inv X pins σ H s) (e:H a=some (.ins C dx fs)) (c:sR X.K C) (n:cE X.K C f) (l:fs.lookup f=some v)
  (h:∀u s',Inv X pins σ H s'→RelV v u→Q u s'):wpAny (model X.prog X.w) A (getAttr (.ref a) f b) Q E s:=by
 obtain⟨mA,O,r,_,_,_⟩:=pA I.aX e
 obtain⟨u,hu,ru⟩:=iy.some_of (v:=v) (o:=mA f) (by rw[←l];exact r f)
 exact get_map I.jd O (c.get f) c.hd n hu (sQ ru) (h u _ (I.tok _) ru)
theorem lU {m:Str} {g:Addr} {pl:Sem Bool} {Q:Value×List Value→Shared→Prop} (I:Inv X pins σ H s) (e:H a=some (.ins C dx fs)) (c:sR X.K C) (k:Meth X.K C m g) (l:fs.lookup m=none)
  (h:Q (.ref g,[.ref a]) s):wpAny (model X.prog X.w) A (getMethod (.ref a) m pl) Q E s:=by
 obtain⟨mA,O,r,_,_,_⟩:=pA I.aX e
 have hn:mA m=none:=iy.none_of (by rw[←l];exact r m)
 exact EK I.jd O (c.get m) k.at_ k.fn hn h
theorem qq {y:V} {u:Value} {Q:Unit→Shared→Prop} (I:Inv X pins σ H s) (e:H a=some (.ins C dx fs)) (c:sR X.K C) (n:cE X.K C f) (hl:fs.length<1000) (ry:RelV y u)
  (h:∀s',Inv X pins σ (upd H a (.ins C dx (cJ f y fs))) s'→Q () s'):wpAny (model X.prog X.w) A (setAttr (.ref a) f u) Q E s:=by
 obtain⟨mA,O,r,wi,_,ho⟩:=pA I.aX e
 have hz:(fs.map (·.1)).length≤sizeLine:=by rw[List.length_map,sizeLine_eq];omega
 refine Jn I.jd O c.sa c.po n.Rr c.hd wi hz fun h' O' sb=>h _ ?_
 have hd:∃o,h'.get? dx=some o:=let ⟨o,_,_,e',_⟩:=O'.ns;⟨o,e'⟩
 refine I.write (x:=a) (e:=dx) (by rw[e];exact True.intro) (.inr ho) (fun b q hb z=>(sb.2 b hb).trans z) hd ?_
 refine⟨by rw[ah O.ne];exact ho,?_,O.ne,O'.obj,_,O'.ns,fun g=>?_,fun g hg=>?_⟩
 ·have:=gj f y fs;omega
 ·show iy ((cJ f y fs).lookup g) (if g=f then some u else mA g)
  rw[aD]
  by_cases q:g=f
  ·rw[if_pos q,if_pos q];exact ry
  ·rw[if_neg q,if_neg q];exact r g
 ·by_cases q:g=f
  ·rw[q];exact(i0 f y fs).1
  ·refine(i0 f y fs).2 g (wi g fun z=>hg ?_)
   show (if g=f then some u else mA g)=none
   rw[if_neg q];exact z
theorem Inv.made (I:Inv X pins σ H s):Inv X pins σ (upd (upd H s.heap.objs.size (.own (s.heap.objs.size+1))) (s.heap.objs.size+1) (.ins C s.heap.objs.size []))
  { s with heap:=(s.heap.push PySem.W.emptyDict).push (PySem.W.instObj C s.heap.objs.size) }:=by
 have e1:(s.heap.push PySem.W.emptyDict).get? s.heap.objs.size=some PySem.W.emptyDict:=Heap.get?_push_size s.heap rfl
 have e2:((s.heap.push PySem.W.emptyDict).push (PySem.W.instObj C s.heap.objs.size)).get? (s.heap.objs.size+1)=some (PySem.W.instObj C s.heap.objs.size):=by
  have:=Heap.get?_push_size (s.heap.push PySem.W.emptyDict) (o:=PySem.W.instObj C s.heap.objs.size) rfl
  rwa [Heap.size_push] at this
 have e3:(s.heap.push PySem.W.emptyDict).Ns s.heap.objs.size (fun _=>none):=⟨PySem.W.emptyDict,#[],_,e1,rfl,(fun e he=>absurd he (by simp)),fun _=>rfl⟩
 have I1:=I.laid (a:=s.heap.objs.size) (o:= .own (s.heap.objs.size+1)) (h':=s.heap.push PySem.W.emptyDict) (t':=s.toks) (fun b u q=>Heap.get?_push_of_some _ q) (Nat.le_refl _) ⟨_,e1⟩
 refine I1.laid (a:=s.heap.objs.size+1) (o:= .ins C s.heap.objs.size []) (t':=s.toks) (fun b u q=>Heap.get?_push_of_some _ q) (Nat.le_of_eq (Heap.size_push _ _)) ?_
 have ne:s.heap.objs.size≠s.heap.objs.size+1:=Nat.ne_of_lt (Nat.lt_succ_self _)
 refine⟨by rw[ah ne,af],Nat.zero_le _,ne,e2,fun _=>none,(Heap.Ns1.of_empty e3).at fun o q=>Heap.get?_push_of_some _ q,fun _=>True.intro,fun y hy=>absurd rfl hy⟩
theorem AL {prog:Program} {w:World} {env:Env} {e:Expr} {f:Str} {pos:Pos} {s:Shared} {Q:Value→Shared→Prop} (hb:attributeBase e f env (eval e env)=eval e env)
  (h:wpAny (model prog w) A (eval e env) (fun o s₁=>wpAny (model prog w) A (getAttr o f true) Q E s₁) E s):wpAny (model prog w) A (eval (.Attribute e f pos) env) Q E s:=
 Attribute_any_ h (by rw[arm_eval_Attribute,hb])
end
def ZH (K:PySem.W.Frag) (ta:TE) (f:Str):TE:=fun σ H Q=>ta σ H fun x H1=>∃a C dx fs v,x= .ref a∧H1 a=some (.ins C dx fs)∧sR K C∧cE K C f∧fs.lookup f=some v∧Q v H1
def ZI (K:PySem.W.Frag) (ta tv:TE) (f:Str):TS:=fun D σ H=>tv σ H fun y H1=>ta σ H1 fun x H2=>∃a C dx fs,x= .ref a∧H2 a=some (.ins C dx fs)∧sR K C∧cE K C f∧fs.length<1000∧
 D.nx σ (upd H2 a (.ins C dx (cJ f y fs)))
def Rt (X:Cx) (op:Operator) (rd:V→V→Hp→VK→Prop):Prop:=
 ∀(pins:List (Addr×Obj)) (s:Shared) (σ:St) (H:Hp) (x y:V) (u v:Value) (Q:VK),Inv X pins σ H s→RelV x u→RelV y v→rd x y H Q→wpAny (model X.prog X.w) X.A (inplaceOp op u v) (EP X pins σ Q) X.xe s
def Jo (K:PySem.W.Frag) (ta tv:TE) (rd:V→V→Hp→VK→Prop) (f:Str):TS:=fun D σ H=>ta σ H fun x H1=>∃a C dx fs v,x= .ref a∧H1 a=some (.ins C dx fs)∧sR K C∧cE K C f∧fs.lookup f=some v∧
 tv σ H1 fun y H2=>rd v y H2 fun z H3=>∃dH Je,H3 a=some (.ins C dH Je)∧Je.length<1000∧D.nx σ (upd H3 a (.ins C dH (cJ f z Je)))
section
variable {X:Cx} {o e value:Expr} {f:Str} {pos pos' mn:Pos} {ta tv:TE}
theorem a0 (he:PE X e ta) (hb:attributeBase e f X.env (eval e X.env)=eval e X.env):PE X (.Attribute e f pos) (ZH X.K ta f):=by
 intro pins s σ H Q I h
 refine AL hb (bV (he pins s σ H _ I h) fun u s1 ⟨x,H1,I1,rx,a,C,dx,fs,v,ex,ea,c,n,l,q⟩=>?_)
 subst ex
 obtain rfl:u=Value.ref a:=rx
 exact qp I1 ea c n l fun u' s2 I2 ru=>⟨v,H1,I2,ru,q⟩
theorem eP (ha:PE X o ta) (hv:PE X value tv) (hs:swapsWith value (some (.Attribute o f pos')) pos.line X.env=pure false):PS X (.Assign [.Attribute o f pos'] value pos) (ZI X.K ta tv f):=by
 intro pins s σ H D I h
 refine plainObj_wpAny_Assign_Attribute (bV (hv pins s σ H _ I h) fun u s1 ⟨y,H1,I1,ry,q⟩=>bV (ha pins s1 σ H1 _ I1 q) fun ov s2 ⟨x,H2,I2,rx,a,C,dx,fs,ex,ea,c,n,l,q2⟩=>?_) hs
 subst ex
 obtain rfl:ov=Value.ref a:=rx
 exact qq I2 ea c n l ry fun s3 I3=>⟨σ,_,I3,q2⟩
theorem kI {op:Operator} {rd:V→V→Hp→VK→Prop} (ha:PE X o ta) (hv:PE X value tv) (hop:Rt X op rd):PS X (.AugAssign (.Attribute o f mn) op value pos) (Jo X.K ta tv rd f):=by
 intro pins s σ H D I h
 refine wpAny_AugAssign_AttributeAny (bV (ha pins s σ H _ I h) fun ov s1 ⟨x,H1,I1,rx,a,C,dx,fs,v,ex,ea,c,n,l,q⟩=>?_)
 subst ex
 obtain rfl:ov=Value.ref a:=rx
 refine qp I1 ea c n l fun u s2 I2 ru=>bV (hv pins s2 σ H1 _ I2 q) fun w3 s3 ⟨y,H2,I3,ry,q3⟩=>bV (hop pins s3 σ H2 v y u w3 _ I3 ru ry q3) fun w4 s4 ⟨z,H3,I4,rz,dH,Je,ea',l',q4⟩=>?_
 exact qq I4 ea' c n l' rz fun s5 I5=>⟨σ,_,I5,q4⟩
def ZJ:V→V→Hp→VK→Prop:=fun x y H Q=>∃i j,x= .int i∧y= .int j∧Q (.int (i+j)) H
theorem uY:Rt X .Add ZJ:=by
 rintro pins s σ H x y u v Q I rx ry ⟨i,j,rfl,rfl,q⟩
 obtain⟨t,rfl⟩:=(show∃t,u=Value.int i t from rx)
 obtain⟨t',rfl⟩:=(show∃t',v=Value.int j t' from ry)
 exact PyProof.Rows.iadd_int ⟨.int (i+j),H,I.tok _,⟨_,rfl⟩,q⟩
end
section
variable {X:Cx} {pins:List (Addr×Obj)} {σ:St} {H:Hp} {s:Shared} {A:Around} {E:Value→Shared→Prop} {Q:Value→Shared→Prop} {c:Value} {b:Bool}
inductive nV (K:PySem.W.Frag) (H:Hp):V→Value→Prop where
 |cI:nV K H .cI (.type "NoneType")
 |bl (x:Bool):nV K H (.bl x) (.type "bool")
 |int (i:Int):nV K H (.int i) (.type "int")
 |str (x:Str):nV K H (.str x) (.type "str")
 |LN (x:UInt64):nV K H (.LN x) (.type "float")
 |lst {a:Addr} {xs:List V} (e:H a=some (.lst xs)):nV K H (.ref a) (.type "list")
 |eC {a:Addr} {o:Obj} {xs:List V} (e:H a=some (.eC o (.lst xs))):nV K H (.ref a) (.type "list")
 |tup {a:Addr} {xs:List V} (e:H a=some (.tup xs)):nV K H (.ref a) (.type "tuple")
 |dK {a:Addr} {kvs:List (Key×V)} (e:H a=some (.dK kvs)):nV K H (.ref a) (.type "dict")
 |dT {a:Addr} {kvs:List (List Key×V)} (e:H a=some (.dT kvs)):nV K H (.ref a) (.type "dict")
 |ins {a C dx:Addr} {fs:List (Str×V)} (e:H a=some (.ins C dx fs)) (cl:sR K C) (ha:PySem.W.findIn K (.ref C) "__class__" =some (some (.builtin "object.__class__")))
   (hn:PySem.W.specialIn K (.builtin "object.__class__") "__get__" =some (some (.builtin "getset_descriptor.__get__"))) (jN:PySem.W.takesIn K (.builtin "object.__class__")=some true)
   (hm:PySem.W.mroIn K C (.type "object")=some true):nV K H (.ref a) (.ref C)
theorem Cz {x:V} {u t:Value} (I:Inv X pins σ H s) (rx:RelV x u) (ty:nV X.K H x t) (e:PySem.W.kitOne X.K t c=some b) (h:∀tk,Q (.bool b) { s with toks:=tk }):
  wpAny (model X.prog X.w) A (call (.builtin "isinstance") [u,c]) Q E s:=by
 cases ty with
 |cI=>cases (show u=Value.none from rx);exact PySem.W.kia_one PySem.W.kitx_none I.jd True.intro e (fun z=>nomatch z) h
 |bl y=>cases (show u=Value.bool y from rx);exact PySem.W.kia_one PySem.W.kitx_bool I.jd True.intro e (fun z=>nomatch z) h
 |int i=>obtain⟨t,q⟩:=(show∃t,u=Value.int i t from rx);cases q;exact PySem.W.kia_one PySem.W.kitx_int I.jd True.intro e (fun z=>nomatch z) h
 |str y=>obtain⟨t,q⟩:=(show∃t,u=Value.str y t from rx);cases q;exact PySem.W.kia_one PySem.W.kitx_str I.jd True.intro e (fun z=>nomatch z) h
 |LN y=>obtain⟨t,q⟩:=(show∃t,u=Value.float y t from rx);cases q;exact PySem.W.kia_one PySem.W.kitx_float I.jd True.intro e (fun z=>nomatch z) h
 | @lst a xs ea=>
   cases (show u=Value.ref a from rx)
   obtain⟨_,_,n,_,h1⟩:=(show cg X.prog X.w H s.heap a (.lst xs) from I.aX a _ ea)
   exact PySem.W.kia_one PySem.W.kitx_list I.jd ⟨_,h1,rfl⟩ e (fun z=>nomatch z) h
 | @eC a ob xs ea=>
   cases (show u=Value.ref a from rx)
   obtain⟨_,_,_,n,_,h1⟩:=(show cg X.prog X.w H s.heap a (.eC ob (.lst xs)) from I.aX a _ ea)
   exact PySem.W.kia_one PySem.W.kitx_list I.jd ⟨_,h1,rfl⟩ e (fun z=>nomatch z) h
 | @tup a xs ea=>
   cases (show u=Value.ref a from rx)
   obtain⟨_,_,_,p⟩:=(show cg X.prog X.w H s.heap a (.tup xs) from I.aX a _ ea)
   obtain⟨o,h1,h2,_⟩:=p
   exact PySem.W.kia_one PySem.W.kitx_tuple I.jd ⟨o,h1,h2⟩ e (fun z=>nomatch z) h
 | @dK a kvs ea=>
   cases (show u=Value.ref a from rx)
   obtain⟨_,_,vs,_,p⟩:=(show cg X.prog X.w H s.heap a (.dK kvs) from I.aX a _ ea)
   obtain⟨o,es,ep,h1,h2,_⟩:=p
   exact PySem.W.kia_one PySem.W.kitx_dict I.jd ⟨o,h1,h2.1⟩ e (fun z=>nomatch z) h
 | @dT a kvs ea=>
   cases (show u=Value.ref a from rx)
   obtain⟨_,_,xs,_,o,es,ep,h1,h2,_⟩:=(show cg X.prog X.w H s.heap a (.dT kvs) from I.aX a _ ea)
   exact PySem.W.kia_one PySem.W.kitx_dict I.jd ⟨o,h1,h2.1⟩ e (fun z=>nomatch z) h
 | @ins a C dx fs ea cl ha hn jN hm=>
   cases (show u=Value.ref a from rx)
   obtain⟨mA,O,_⟩:=pA I.aX ea
   obtain⟨od,J,_⟩:=O.look
   exact PySem.W.kia_one (PySem.W.kitx_own (cl.get _) cl.hd ha hn jN hm) I.jd J e (fun z=>nomatch z) h
end
end L2
namespace L2
open PySem PySem.Spec PyProof.Rows
structure cP (k:Nat) (A:Around):Prop where
 hd:A.handled=none
 dp:A.depth+3*k+5<recursionLimit
 un:A.units+16*k+200<cLine
theorem cP.mono {j k:Nat} {A:Around} (r:cP k A) (h:j≤k):cP j A:=⟨r.hd,by have:=r.dp;omega,by have:=r.un;omega⟩
theorem cP.deeper {k:Nat} {A:Around} (r:cP (k+1) A) (env:Env):cP k (A.deeper env):=
 ⟨r.hd,by have:=r.dp;show A.depth+1+3*k+5<_;omega,by have:=r.un;show A.units+3+16*k+200<_;omega⟩
theorem yZ {A:Around} {C:Addr} {us:List Value} {kw:List (Str×Value)}:(A.under (.builtin "type.__call__" ⟨.ref C::us,kw⟩)).depth=A.depth+1:=by
 first|rfl|simp [Around.under,Code.weight,Code.isCreation,Code.isGuard,Code.isCaller,Code.frames,Code.isFrame,guardIds]
theorem y7 {A:Around} {C:Addr} {us:List Value} {kw:List (Str×Value)}:(A.under (.builtin "type.__call__" ⟨.ref C::us,kw⟩)).units=A.units+1:=by
 first|rfl|simp [Around.under,Code.cUnits,Code.frames,Code.isFrame]
theorem cP.make {k:Nat} {A:Around} (r:cP (k+1) A) (C:Addr) (us:List Value) (kw:List (Str×Value)):cP k (A.under (.builtin "type.__call__" ⟨.ref C::us,kw⟩)):=
 ⟨r.hd,by have:=r.dp;rw[yZ];omega,by have:=r.un;rw[y7];omega⟩
theorem cP.depth {k:Nat} {A:Around} (r:cP k A):A.depth<recursionLimit:=by have:=r.dp;omega
theorem cP.units {k:Nat} {A:Around} (r:cP k A):A.units+64<cLine:=by have:=r.un;omega
theorem cP.uZ {k:Nat} {A:Around} (r:cP k A):A.units<cLine:=by have:=r.un;omega
def Ru:TA:=fun _ H Q=>Q [] H
def Rv (ta:TE) (tr:TA):TA:=fun σ H Q=>ta σ H fun x H1=>tr σ H1 fun xs H2=>Q (x::xs) H2
section
variable {X:Cx} {e:Expr} {es:List Expr} {te:TE} {t:TA} {pos:Pos}
theorem ak:PA X [] Ru:=fun _ _ _ _ H Q I h=>Calls.spliced_nil ⟨[],H,I, .nil,h⟩
theorem aa (ha:PE X e te) (hr:PA X es t) (hs:starEach (e::es) X.env=(false,eval e X.env)::starEach es X.env:=by rfl):PA X (e::es) (Rv te t):=by
 intro pos pins s σ H Q I h
 rw[hs]
 show wpAny _ _ (spliced ((false,eval e X.env)::backTo pos (starEach es X.env))) _ _ s
 refine Calls.spliced_cons (bV (ha pins s σ H _ I h) fun u s1 ⟨x,H1,I1,r1,q1⟩=>?_)
 exact bV (hr pos pins s1 σ H1 _ I1 q1) fun us s2 ⟨xs,H2,I2,r2,q2⟩=>⟨x::xs,H2,I2, .cons r1 r2,q2⟩
def ZK (t:TA):TE:=fun σ H Q=>t σ H fun xs H1=>xs.length≤sizeLine∧∀p,H1 p=none→Q (.ref p) (upd H1 p (.tup xs))
def ZL (t:TA):TE:=fun σ H Q=>t σ H fun xs H1=>xs.length≤sizeLine∧∀p,H1 p=none→Q (.ref p) (upd H1 p (.lst xs))
theorem bW {x1} (h:PA X es t):PE X (.Tuple es x1 pos) (ZK t):=by
 intro pins s σ H Q I hq
 refine wpAny_Tuple_spliced (bV (h pos pins s σ H _ I hq) fun us s1 ⟨xs,H1,I1,r,z,q⟩=>⟨by rw[←r.length];exact z,?_⟩)
 have hf:H1 s1.heap.objs.size=none:=I1.aX.fresh (Nat.le_refl _)
 refine⟨.ref s1.heap.objs.size,upd H1 s1.heap.objs.size (.tup xs),I1.laid (t':=s1.toks) (fun b u e=>Heap.get?_push_of_some _ e) (Nat.le_refl _) ?_,rfl,q _ hf⟩
 exact⟨z,us,r,⟨_,Heap.get?_push_size _ rfl,rfl,_,rfl⟩⟩
theorem cu (h:PA X es t):PE X (.List es pos) (ZL t):=by
 intro pins s σ H Q I hq
 refine wpAny_List_spliced (bV (h pos pins s σ H _ I hq) fun us s1 ⟨xs,H1,I1,r,z,q⟩=>⟨by rw[←r.length];exact z,?_⟩)
 have hf:H1 s1.heap.objs.size=none:=I1.aX.fresh (Nat.le_refl _)
 refine⟨.ref s1.heap.objs.size,upd H1 s1.heap.objs.size (.lst xs),I1.laid (t':=s1.toks) (fun b u e=>Heap.get?_push_of_some _ e) (Nat.le_refl _) ?_,rfl,q _ hf⟩
 exact⟨z,us,0,r,Heap.get?_push_size _ rfl⟩
end
abbrev Sp:=List V→Hp→VK→XK→Prop
abbrev AM:=List Env→Hp→Shared→XK→Value→Shared→Prop
structure y8 (P:Program) (w:World) (K:PySem.W.Frag) (mg:Str→Option Value) (base:Heap) (A:Around) (outer:List Env) (s:Shared) (H:Hp):Prop where
 frames:A.frames=some outer
 mod:Mod K mg base
 bs:∀b o,base.get? b=some o→s.heap.get? b=some o∧H b=none
 Cu:base.objs.size≤s.heap.objs.size
 lq:s.heap.FunFrames base outer
 EB:∀b∈wY outer,H b=none
 aX:jQ P w H s.heap
 bare:AllBare s.gens
def CE (outer:List Env) (P:Program) (w:World) (H:Hp) (s:Shared) (Q:VK) (u:Value) (s':Shared):Prop:=
 ∃v H',s'.os=s.os∧AllBare s'.gens∧Un (wY outer) [] H H' s.heap s'.heap∧jQ P w H' s'.heap∧RelV v u∧Q v H'
def CR (CX:AM) (outer:List Env) (P:Program) (w:World) (H:Hp) (s:Shared) (Q:VK) (E:XK) (r:Result) (s':Shared):Prop:=
 match r with
 | .ok (.ret u)=>CE outer P w H s Q u s'
 | .ok _=>False
 | .error e=>CX outer H s E e s'
structure fw (P:Program) (w:World) (K:PySem.W.Frag) (mg:Str→Option Value) (base:Heap) (CX:AM) (k:Nat) (f:Addr) (fd:FuncData) (ps:List Str) (sp:Sp):Prop where
 len:∀vs H Q E,sp vs H Q E→vs.length=ps.length
 run:∀(A:Around) (outer:List Env) (s:Shared) (H:Hp) (args:Args) (us:List Value) (vs:List V) (Q:VK) (E:XK),cP k A→y8 P w K mg base A outer s H→BindsTo s fd args (ps.zip us)→Vals vs us→sp vs H Q E→
  codeAny (model P w) A (.call (.ref f) args) (CR CX outer P w H s Q E) s
theorem y8.make {P:Program} {w:World} {K:PySem.W.Frag} {mg:Str→Option Value} {base:Heap} {A:Around} {outer:List Env} {s:Shared} {H:Hp} (e:y8 P w K mg base A outer s H) (C:Addr) (us:List Value) (kw:List (Str×Value)):
  y8 P w K mg base (A.under (.builtin "type.__call__" ⟨.ref C::us,kw⟩)) outer s H:=⟨by first|exact e.frames| (simpa [Around.under,Code.envs,Code.isFrame,pushEnvs] using e.frames),e.mod,e.bs,e.Cu,e.lq,e.EB,e.aX,e.bare⟩
section
variable {X:Cx} {pins:List (Addr×Obj)} {σ:St} {H:Hp} {s s':Shared}
theorem Inv.Jp (I:Inv X pins σ H s):y8 X.prog X.w X.K X.mg X.base X.A X.stack s H:=
 ⟨I.ok.frames,I.ok.mod,I.bs,Nat.le_trans I.ok.Cu I.sz,I.stack,I.uU,I.aX,I.bare⟩
theorem Inv.after {Q:VK} {u:Value} (I:Inv X pins σ H s) (h:CE X.stack X.prog X.w H s Q u s'):EP X pins σ Q u s':=by
 obtain⟨v,H',os,bare,un,aX,r,q⟩:=h
 obtain⟨hh,g,d,t,os'⟩:=s'
 obtain rfl:os'=s.os:=os
 exact⟨v,H',I.call (h':=hh) (g':=g) (d':=d) (t':=t) (ch:=[]) un aX bare (fun b z=>absurd z (by simp)),r,q⟩
end
def Rw (sp:Sp) (kJ:List V) (E:XK) (t:TA):TE:=fun σ H Q=>t σ H fun vs H1=>sp (vs++kJ) H1 Q E
def LX (C:Addr) (m:Str) (sp:Sp) (kJ:List V) (E:XK) (ta:TE) (t:TA):TE:=fun σ H Q=>ta σ H fun x H1=>∃a dx fs,x= .ref a∧H1 a=some (.ins C dx fs)∧fs.lookup m=none∧
 t σ H1 fun vs H2=>sp (x::(vs++kJ)) H2 Q E
def Rx (C:Addr) (sp:Sp) (kJ:List V) (E:XK) (t:TA):TE:=fun σ H Q=>t σ H fun vs H1=>∀x dx,H1 x=none→H1 dx=none→dx≠x→
 sp (.ref x::(vs++kJ)) (upd (upd H1 dx (.own x)) x (.ins C dx [])) (fun v H2=>v= .cI∧Q (.ref x) H2) E
def Binds (K:PySem.W.Frag) (fd:FuncData) (ps:List Str) (ds:List Value):Prop:=
 ∀(s:Shared) (us:List Value),K.In s.heap→(us++ds).length=ps.length→BindsTo s fd ⟨us,[]⟩ (ps.zip (us++ds))
theorem Binds.all {K:PySem.W.Frag} {fd:FuncData} {ps:List Str} (h:∀us:List Value,us.length=ps.length→bindArgs fd ⟨us,[]⟩=pure (ps.zip us)):Binds K fd ps []:=fun s us _ hl=>by
 rw[List.append_nil] at hl ⊢
 exact .of_eq (h us hl)
def Passes (CX:AM) (X:Cx) (E:XK):Prop:=∀(pins:List (Addr×Obj)) (σ:St) (H:Hp) (s:Shared) (e:Value) (s':Shared),Inv X pins σ H s→CX X.stack H s E e s'→X.xe e s'
section
variable {X:Cx} {CX:AM} {k:Nat} {f C:Addr} {fd:FuncData} {ps:List Str} {sp:Sp} {kJ:List V} {ds:List Value} {E:XK} {x m:Str} {p pos apos:Pos} {e o:Expr} {es:List Expr} {ta:TE} {t:TA}
theorem y9 {pins:List (Addr×Obj)} {σ:St} {H:Hp} {s:Shared} {Q:VK} {us:List Value} {vs:List V} (F:fw X.prog X.w X.K X.mg X.base CX k f fd ps sp) (hr:cP k X.A) (hb:Binds X.K fd ps ds) (hd:Vals kJ ds) (hx:Passes CX X E)
  (I:Inv X pins σ H s) (r:Vals vs us) (h:sp (vs++kJ) H Q E):wpAny (model X.prog X.w) X.A (call (.ref f) us) (EP X pins σ Q) X.xe s:=by
 have r2:Vals (vs++kJ) (us++ds):=r.append hd
 have hl:(us++ds).length=ps.length:=by rw[←r2.length];exact F.len _ _ _ _ h
 refine wpAny_call (codeAny_mono (F.run X.A X.stack s H ⟨us,[]⟩ (us++ds) (vs++kJ) Q E hr I.Jp (hb s us I.jd hl) r2 h) fun r s' hq=>?_)
 cases r with
 |error e=>exact hx pins σ H s e s' I hq
 |ok fl=>
  cases fl with
  |ret u=>exact I.after hq
  |next=>exact False.elim hq
  |brk=>exact False.elim hq
  |cont=>exact False.elim hq
theorem aF (F:fw X.prog X.w X.K X.mg X.base CX k f fd ps sp) (hr:cP k X.A) (hg:Gl X x) (hm:X.mg x=some (.ref f)) (hk:PySem.W.keepIn X.K (.ref f)=true) (hb:Binds X.K fd ps ds) (hd:Vals kJ ds) (hx:Passes CX X E)
  (ha:PA X (e::es) t) (EM:(x==("__debug__" :Str))=false:=by decide) (he:starEach (e::es) X.env=(false,eval e X.env)::starEach es X.env:=by rfl) (iu:(backTo pos (starEach es X.env)).any (·.1)=false:=by rfl):
  PE X (.Call (.Name x p) (e::es) [] pos) (Rw sp kJ E t):=by
 intro pins s σ H Q I h
 refine wpAny_Call_Name_kw (je I hg hm ?_ EM)
 refine PySem.W.callWith_K (h₀:=X.base) I.ok.mod.gy hk (bV (ha pos pins s σ H _ I h) fun us s1 ⟨vs,H1,I1,r,q⟩=>⟨I1.jd,?_⟩) he iu
 exact y9 F hr hb hd hx I1 r q
theorem bU {pl:Sem Bool} (he:PE X o ta) (c:sR X.K C) (hm:Meth X.K C m f) (F:fw X.prog X.w X.K X.mg X.base CX k f fd ps sp) (hr:cP k X.A) (hb:Binds X.K fd ps ds) (hd:Vals kJ ds) (hx:Passes CX X E) (ha:PA X (e::es) t)
  (gz:starEach (e::es) X.env=(false,eval e X.env)::starEach es X.env:=by rfl) (iu:(backTo pos (starEach es X.env)).any (·.1)=false:=by rfl)
  (ht:eval (.Call (.Attribute o m apos) (e::es) [] pos) X.env=(do
   let ov←eval o X.env
   standAt apos.atName
   let (f,first)←holding [ov] (getMethod ov m pl)
   callWith pos f first (backTo pos (starEach (e::es) X.env)) (backToKw pos (keywordEach [] X.env))):=by rfl):
  PE X (.Call (.Attribute o m apos) (e::es) [] pos) (LX C m sp kJ E ta t):=by
 intro pins s σ H Q I h
 refine PySem.W.methodCall_KW (pl:=pl) (bV (he pins s σ H _ I h) fun u s1 ⟨x,H1,I1,rx,a,dx,fs,ex,ea,l,q⟩=>?_) ht
 subst ex
 obtain rfl:u=Value.ref a:=rx
 refine lU I1 ea c hm l ?_
 refine PySem.W.callWith_K (first:=[.ref a]) (h₀:=X.base) I.ok.mod.gy hm.kp (bV (ha pos pins s1 σ H1 _ I1 q) fun us s2 ⟨vs,H2,I2,r,q2⟩=>⟨I2.jd,?_⟩) gz iu
 exact y9 (us:= .ref a::us) (vs:= .ref a::vs) F hr hb hd hx I2 (.cons rfl r) q2
theorem aP {pl:Sem Bool} (he:PE X o ta) (c:sR X.K C) (hm:Meth X.K C m f) (F:fw X.prog X.w X.K X.mg X.base CX k f fd ps sp) (hr:cP k X.A) (hb:Binds X.K fd ps ds) (hd:Vals kJ ds) (hx:Passes CX X E)
  (ht:eval (.Call (.Attribute o m apos) [] [] pos) X.env=(do
   let ov←eval o X.env
   standAt apos.atName
   let (f,first)←holding [ov] (getMethod ov m pl)
   callWith pos f first (backTo pos (starEach [] X.env)) (backToKw pos (keywordEach [] X.env))):=by rfl):
  PE X (.Call (.Attribute o m apos) [] [] pos) (LX C m sp kJ E ta Ru):=by
 intro pins s σ H Q I h
 refine PySem.W.methodCall_KW (pl:=pl) (bV (he pins s σ H _ I h) fun u s1 ⟨x,H1,I1,rx,a,dx,fs,ex,ea,l,q⟩=>?_) ht
 subst ex
 obtain rfl:u=Value.ref a:=rx
 refine lU I1 ea c hm l ?_
 exact PySem.W.callWith_K0 (first:=[.ref a]) I1.jd hm.kp (y9 (us:=[.ref a]) (vs:=[.ref a]) F hr hb hd hx I1 (.cons rfl .nil) q)
structure Mk (K:PySem.W.Frag) (C f:Addr):Prop where
 makes:PySem.W.makesIn K C=true
 init:PySem.W.findIn K (.ref C) "__init__" =some (some (.ref f))
 fn:PySem.W.isFn K (.ref f)=true
 kp:PySem.W.keepIn K (.ref C)=true
theorem EN {pins:List (Addr×Obj)} {σ:St} {H:Hp} {s:Shared} {Q:VK} {us:List Value} {vs:List V} (M:Mk X.K C f) (F:fw X.prog X.w X.K X.mg X.base CX k f fd ps sp) (hr:cP (k+1) X.A) (hb:Binds X.K fd ps ds) (hd:Vals kJ ds)
  (hx:Passes CX X E) (I:Inv X pins σ H s) (r:Vals vs us)
  (h:∀x dx,H x=none→H dx=none→dx≠x→sp (.ref x::(vs++kJ)) (upd (upd H dx (.own x)) x (.ins C dx [])) (fun v H2=>v= .cI∧Q (.ref x) H2) E):
  wpAny (model X.prog X.w) X.A (call (.ref C) us) (EP X pins σ Q) X.xe s:=by
 have hq:=h (s.heap.objs.size+1) s.heap.objs.size (I.aX.fresh (Nat.le_succ _)) (I.aX.fresh (Nat.le_refl _)) (Nat.ne_of_lt (Nat.lt_succ_self _))
 have I2:=Inv.made (C:=C) I
 have r2:Vals (V.ref (s.heap.objs.size+1)::(vs++kJ)) (Value.ref (s.heap.objs.size+1)::(us++ds)):= .cons rfl (r.append hd)
 have hl:(Value.ref (s.heap.objs.size+1)::us++ds).length=ps.length:=by
  have e:=r2.length
  rw[F.len _ _ _ _ hq] at e
  exact e.symm
 refine wpAny_call (EL (f:=f) I.jd M.makes M.init (beq_iff_eq.mp M.fn) (codeAny_mono (F.run _ X.stack _ _ ⟨Value.ref (s.heap.objs.size+1)::us,[]⟩ (Value.ref (s.heap.objs.size+1)::(us++ds)) _ _ E (hr.make C us [])
  (I2.Jp.make C us []) (hb _ (Value.ref (s.heap.objs.size+1)::us) I2.jd hl) r2 hq) fun r s' sS=>?_))
 cases r with
 |error e=>exact hx pins σ _ _ e s' I2 sS
 |ok fl=>
  cases fl with
  |ret u=>
   obtain⟨v,H',I3,rv,ev,q3⟩:=I2.after sS
   subst ev
   exact⟨rv,⟨V.ref (s.heap.objs.size+1),H',I3,rfl,q3⟩⟩
  |next=>exact False.elim sS
  |brk=>exact False.elim sS
  |cont=>exact False.elim sS
theorem f6 (M:Mk X.K C f) (F:fw X.prog X.w X.K X.mg X.base CX k f fd ps sp) (hr:cP (k+1) X.A) (hg:Gl X x) (hm:X.mg x=some (.ref C)) (hb:Binds X.K fd ps ds) (hd:Vals kJ ds) (hx:Passes CX X E)
  (ha:PA X (e::es) t) (EM:(x==("__debug__" :Str))=false:=by decide) (he:starEach (e::es) X.env=(false,eval e X.env)::starEach es X.env:=by rfl) (iu:(backTo pos (starEach es X.env)).any (·.1)=false:=by rfl):
  PE X (.Call (.Name x p) (e::es) [] pos) (Rx C sp kJ E t):=by
 intro pins s σ H Q I h
 refine wpAny_Call_Name_kw (je I hg hm ?_ EM)
 refine PySem.W.callWith_K (h₀:=X.base) I.ok.mod.gy M.kp (bV (ha pos pins s σ H _ I h) fun us s1 ⟨vs,H1,I1,r,q⟩=>⟨I1.jd,?_⟩) he iu
 exact EN M F hr hb hd hx I1 r q
end
section
variable {X:Cx} {CX:AM} {k:Nat} {f C:Addr} {fd:FuncData} {ps ks:List Str} {sp:Sp} {E:XK} {x m:Str} {p pos apos Ry:Pos} {e o:Expr} {es:List Expr} {kws:List Keyword} {te ta:TE} {t tk:TA} {nm:Option Str}
variable {g:List Value→List Value→List Value} {gV:List V→List V→List V}
end
structure ay (N P:List Str) (sc:Scope):Prop where
 kind:sc.kind= .function
 co:sc.isCoroutine=false
 gen:sc.isGenerator=false
 nd:N.Nodup
 pre:N.take P.length=P
 par:∀x∈P,sc.names.lookup x=some .local∨sc.names.lookup x=some .cell
 Nw:∀y∈sc.names,y.2≠ .free
theorem sT {kindOf:Str→Option NameKind} {x:Str}:∀{binds:List (Str×Value)} {m:Str→Option Value},(∀v,(x,v)∉binds)→bindL kindOf binds m x=m x
 | [],_,_=>rfl
 | (n,v)::r,m,h=>by
   unfold bindL
   rw[sT fun w hw=>h w (List.mem_cons_of_mem _ hw)]
   split
   ·have:x≠n:=by rintro rfl;exact h v List.mem_cons_self
    simp [this]
   ·rfl
theorem sU {kindOf:Str→Option NameKind} {x:Str}:∀{binds:List (Str×Value)} {m:Str→Option Value},(∀v,(x,v)∉binds)→bindC kindOf binds m x=m x
 | [],_,_=>rfl
 | (n,v)::r,m,h=>by
   unfold bindC
   rw[sU fun w hw=>h w (List.mem_cons_of_mem _ hw)]
   split
   ·rfl
   ·have:x≠n:=by rintro rfl;exact h v List.mem_cons_self
    simp [this]
theorem sV {kindOf:Str→Option NameKind} {x:Str} {v:Value}:∀{P:List Str} {vs:List Value} {i:Nat} {m:Str→Option Value},P.Nodup→P[i]? =some x→vs[i]? =some v→kindOf x=some .local→
  bindL kindOf (P.zip vs) m x=some v
 | [],_,_,_,_,h,_,_=>by simp at h
 |_::_,[],_,_,_,_,h,_=>by simp at h
 |p::P,w::vs,0,m,nd,h1,h2,hk=>by
  simp at h1 h2;subst h1;subst h2
  show bindL kindOf ((p,w)::P.zip vs) m p=_
  unfold bindL
  rw[sT fun v hv=>(List.nodup_cons.mp nd).1 (List.of_mem_zip hv).1,if_pos hk]
  simp
 |p::P,w::vs,i+1,m,nd,h1,h2,hk=>by
  show bindL kindOf ((p,w)::P.zip vs) m x=_
  unfold bindL
  exact sV (i:=i) (List.nodup_cons.mp nd).2 (by simpa using h1) (by simpa using h2) hk
theorem sW {kindOf:Str→Option NameKind} {x:Str} {v:Value}:∀{P:List Str} {vs:List Value} {i:Nat} {m:Str→Option Value},P.Nodup→P[i]? =some x→vs[i]? =some v→kindOf x≠some .local→
  bindC kindOf (P.zip vs) m x=some v
 | [],_,_,_,_,h,_,_=>by simp at h
 |_::_,[],_,_,_,_,h,_=>by simp at h
 |p::P,w::vs,0,m,nd,h1,h2,hk=>by
  simp at h1 h2;subst h1;subst h2
  show bindC kindOf ((p,w)::P.zip vs) m p=_
  unfold bindC
  rw[sU fun v hv=>(List.nodup_cons.mp nd).1 (List.of_mem_zip hv).1,if_neg hk]
  simp
 |p::P,w::vs,i+1,m,nd,h1,h2,hk=>by
  show bindC kindOf ((p,w)::P.zip vs) m x=_
  unfold bindC
  exact sW (i:=i) (List.nodup_cons.mp nd).2 (by simpa using h1) (by simpa using h2) hk
def start (N:List Str) (vs:List V):St:=vs.map some++List.replicate (N.length - vs.length) none
def ji (CX:AM) (P:Program) (w:World) (K:PySem.W.Frag) (mg:Str→Option Value) (base:Heap) (N:List Str) (qual:Str) (scope:Scope) (f:Addr) (cd:Value) (A:Around) (outer:List Env) (s:Shared) (H:Hp) (E:XK):Cx where
 prog:=P
 w:=w
 K:=K
 mg:=mg
 base:=base
 A:=A.deeper (envOfC qual scope s.heap.objs.size f cd)
 N:=N
 s₀:=s
 H₀:=H
 env:=envOfC qual scope s.heap.objs.size f cd
 outer:=outer
 stack:=envOfC qual scope s.heap.objs.size f cd::outer
 ex:=[]
 calm:=true
 fn:=fun _=>true
 pn:=[]
 xe:=fun e s'=>wpAny (model P w) (A.deeper (envOfC qual scope s.heap.objs.size f cd)) (leaving (envOfC qual scope s.heap.objs.size f cd) e) (fun _ Rz=>CX outer H s E e Rz) (fun e' Rz=>CX outer H s E e' Rz) s'
theorem xn {sc:Scope} {n:Nat} {x:Str} (h:sc.names.lookup x=some .cell):∃c,(cellsFrom n sc.names []).lookup x=some c:=by
 have q:=PySem.W.cellsFrom_some sc.names n [] (.inl h)
 exact Option.isSome_iff_exists.mp q
theorem CA {CX:AM} {P:Program} {w:World} {K:PySem.W.Frag} {mg:Str→Option Value} {base:Heap} {N ps:List Str} {qual:Str} {scope:Scope} {f:Addr} {cd:Value} {A:Around} {outer:List Env} {s s1:Shared} {H:Hp} {E:XK} {us:List Value} {vs:List V}
  (S:ay N ps scope) (hd:A.handled=none) (e0:y8 P w K mg base A outer s H) (hl:vs.length=ps.length) (r:Vals vs us)
  (x:InCallC s s.heap.objs.size (bindL (envOfC qual scope s.heap.objs.size f cd).kindOf (ps.zip us) fun _=>none) (cellsFrom (s.heap.objs.size+1) scope.names []) (bindC (envOfC qual scope s.heap.objs.size f cd).kindOf (ps.zip us) fun _=>none) s1):
  Inv (ji CX P w K mg base N qual scope f cd A outer s H E) [] (start N vs) H s1:=by
 have iu:ps.length≤N.length:=by have:=congrArg List.length S.pre;rw[List.length_take] at this;omega
 obtain⟨h1,tk,rfl,hk⟩:=x.done
 have RA:∀b:Addr,b∉(ji CX P w K mg base N qual scope f cd A outer s H E).ex:=fun b z=>absurd (show b∈([]:List Addr) from z) (by simp)
 refine⟨⟨e0.mod,S.kind,rfl,rfl,Nat.le_refl _,fun y z c h1 h2=>?_,fun y hy=>?_,fun y c _ h=>?_,fun _=>hd,Around.frames_deeper e0.frames, .inr ⟨rfl,rfl⟩,fun b z=>absurd z (RA b),e0.bs,e0.Cu,fun b _ _=>RA b,fun b z=>absurd z (RA b),e0.lq,e0.EB⟩,
  rfl,e0.bare,Un.kept hk,⟨_,x.toInCall.ns,fun i y v h1 h2 h3=>?_⟩,fun y c h=>⟨_,x.cell y c h⟩,e0.aX.fresh (Nat.le_refl _),fun y c h=>?_,fun p hp=>absurd (show p∈([]:List (Addr×Obj)) from hp) (by simp),e0.aX.kept hk,?_⟩
 ·exact name_of_addr x.apart (PySem.mem_of_lookup h1) (PySem.mem_of_lookup h2)
 ·have hy:scope.names.lookup y=some .cell∨scope.names.lookup y=some .free:=hy
  rcases hy with hy|hy
  ·exact xn hy
  ·exact absurd rfl (S.Nw _ (PySem.mem_of_lookup hy))
 ·exact Nat.le_of_lt (x.above y c (PySem.mem_of_lookup h))
 ·have hi:i<vs.length:=by
   unfold start at h2
   by_cases hi:i<vs.length
   ·exact hi
   ·rw[List.getElem?_append_right (by simpa using hi)] at h2
    rw[List.getElem?_replicate] at h2
    split at h2<;>cases h2
  have ha:vs[i]? =some v:=by
   unfold start at h2
   rw[List.getElem?_append_left (by simpa using hi),List.getElem?_map] at h2
   cases e:vs[i]? with
   |none=>rw[e] at h2;cases h2
   |some a=>rw[e] at h2;cases h2;rfl
  obtain⟨u,hu,rv⟩:=r.get ha
  have hp:ps[i]? =some y:=by
   rw[←S.pre,List.getElem?_take_of_lt (by omega)];exact h1
  have ndP:ps.Nodup:=by rw[←S.pre];exact S.nd.sublist (List.take_sublist _ _)
  refine⟨u,rv,?_⟩
  rcases S.par y (List.mem_of_getElem? hp) with k|k
  ·exact .inl ⟨k,sV ndP hp hu k⟩
  ·obtain⟨c,e⟩:=xn (n:=s.heap.objs.size+1) k
   refine .inr ⟨.inl k,c,e,?_⟩
   have q:=x.cell y c e
   rw[sW ndP hp hu (by show scope.names.lookup y≠_;rw[k];decide)] at q
   exact q
 ·exact e0.aX.fresh (Nat.le_of_lt (x.above y c (PySem.mem_of_lookup h)))
 ·unfold start
  show _=N.length
  rw[List.length_append,List.length_map,List.length_replicate]
  omega
theorem fn_of {CX:AM} {P:Program} {w:World} {K:PySem.W.Frag} {mg:Str→Option Value} {base:Heap} {k:Nat} {f:Addr} {name qual:Str} {params:Arguments} {body:List Stmt} {scope:Scope} {dV kV doc pm bg ct oc:Value} {an od:Option Addr}
  {r8:Array (Option Value)} {N ps:List Str} {sp:Sp} (lk:K.lookup f=some ⟨oc,od, .func (PySem.W.fnOf name qual params body scope dV kV doc pm an bg ct),r8⟩) (oS:PySem.W.codeIn K bg qual=true) (S:ay N ps scope)
  (len:∀vs H Q E,sp vs H Q E→vs.length=ps.length)
  (dm:∀(A:Around) (outer:List Env) (s:Shared) (H:Hp) (vs:List V) (Q:VK) (E:XK),cP k (A.deeper (envOfC qual scope s.heap.objs.size f bg))→sp vs H Q E→
   ∃t,lO (ji CX P w K mg base N qual scope f bg A outer s H E) body t∧t { nx:=fun _ H'=>Q .cI H',rt:=Q } (start N vs) H):
  fw P w K mg base CX (k+1) f (PySem.W.fnOf name qual params body scope dV kV doc pm an bg ct) ps sp:=by
 refine⟨len,fun A outer s H args us vs Q E hr e0 hb r AN=>?_⟩
 have hl:=len _ _ _ _ AN
 have KX:K.In s.heap:=e0.mod.gy.keeps fun b o e=>(e0.bs b o e).1
 have lim:s.heap.NoLimit:=e0.mod.nolimit.keeps fun b o e=>(e0.bs b o e).1
 have RB:∀y∈ps.zip us,scope.names.lookup y.1=some .local∨(scope.names.lookup y.1=some .cell∧((cellsFrom (s.heap.objs.size+1) scope.names []).lookup y.1).isSome=true):=fun⟨n,v⟩ hy=>by
  rcases S.par n (List.of_mem_zip hy).1 with q|q
  ·exact .inl q
  ·exact .inr ⟨q,PySem.W.cellsFrom_some _ _ _ (.inl q)⟩
 refine codeAny_call_function hr.depth (KX _ _ lk) rfl S.co S.gen rfl (PySem.W.codeRec_of KX oS) (hb _ _ _ _ ?_)
 refine wpAny_newFunctionEnv_cells S.kind RB fun env he s1 x=>?_
 subst he
 refine⟨lim.keeps x.toInCall.keep,codeAny_func ?_⟩
 obtain⟨t,ht,hq⟩:=dm A outer s H vs Q E (hr.deeper _) AN
 have I:Inv (ji CX P w K mg base N qual scope f bg A outer s H E) [] (start N vs) H s1:=CA S hr.hd e0 hl r x
 refine wpAny_mono (ht [] s1 (start N vs) H _ I hq) (fun fl s' hs=>?_) fun e s' hs=>hs
 have fin:∀{σ':St} {H':Hp} {v:V} {u:Value},Inv (ji CX P w K mg base N qual scope f bg A outer s H E) [] σ' H' s'→RelV v u→Q v H'→CE outer P w H s Q u s':=
  fun {σ' H' v u} J rv q=>⟨v,H',J.os,J.bare,J.base,J.aX,rv,q⟩
 cases fl with
 |ret u=>
  obtain⟨v,σ',H',J,rv,q⟩:=hs
  exact fin J rv q
 |next=>
  obtain⟨σ',H',J,q⟩:=hs
  exact fin (v:=V.cI) (u:=Value.none) J rfl q
 |brk=>
  obtain⟨_,_,_,q⟩:=hs
  exact False.elim q
 |cont=>
  obtain⟨_,_,_,q⟩:=hs
  exact False.elim q
end L2
namespace L2
open PySem PySem.Spec PyProof.Rows
section
variable {X:Cx} {x:Str} {p pos:Pos} {e:Expr} {es:List Expr} {t:TA} {id T:String} {r:List V→Hp→VK→Prop}
def tCB (r:List V→Hp→VK→Prop) (t:TA):TE:=fun σ H Q=>t σ H fun vs H1=>r vs H1 Q
theorem cj (hc:gX X (.builtin id) r) (hg:Gl X x) (hm:X.mg x=none) (hv:bootBuiltins x=some (.builtin id)) (ha:PA X (e::es) t) (hn:x≠"__name__" :=by decide) (EM:(x==("__debug__" :Str))=false:=by decide)
  (he:starEach (e::es) X.env=(false,eval e X.env)::starEach es X.env:=by rfl) (iu:(backTo pos (starEach es X.env)).any (·.1)=false:=by rfl):PE X (.Call (.Name x p) (e::es) [] pos) (tCB r t):=by
 intro pins s σ H Q I h
 refine wpAny_Call_Name_kw (lQ I hg hm hv ?_ hn EM)
 exact PyProof.Rows.callWith_builtin1 (bV (ha pos pins s σ H _ I h) fun us s1 ⟨vs,H1,I1,r1,q1⟩=>hc pins s1 σ H1 vs us Q I1 r1 q1) he iu
theorem bC (hc:gX X (.type T) r) (hg:Gl X x) (hm:X.mg x=none) (hv:bootBuiltins x=some (.type T)) (ha:PA X (e::es) t) (hn:x≠"__name__" :=by decide) (EM:(x==("__debug__" :Str))=false:=by decide)
  (he:starEach (e::es) X.env=(false,eval e X.env)::starEach es X.env:=by rfl) (iu:(backTo pos (starEach es X.env)).any (·.1)=false:=by rfl):PE X (.Call (.Name x p) (e::es) [] pos) (tCB r t):=by
 intro pins s σ H Q I h
 refine wpAny_Call_Name_kw (lQ I hg hm hv ?_ hn EM)
 exact PyProof.Rows.callWith_type1 (bV (ha pos pins s σ H _ I h) fun us s1 ⟨vs,H1,I1,r1,q1⟩=>hc pins s1 σ H1 vs us Q I1 r1 q1) he iu
end
end L2
namespace L2
open PySem PySem.Spec PyProof.Rows
section
variable {κ:Type} [DecidableEq κ]
def bX (kvs:List (κ×V)) (k:κ):Option V:=(kvs.find? fun kv=>decide (kv.1=k)).map (·.2)
def putK (kvs:List (κ×V)) (k:κ) (v:V):List (κ×V):=
 if (kvs.any fun kv=>decide (kv.1=k))=true then kvs.map (fun kv=>if kv.1=k then (kv.1,v) else kv) else kvs++[(k,v)]
theorem cL {p:κ×V} {r:List (κ×V)} {k:κ} (e:p.1=k):bX (p::r) k=some p.2:=by simp [bX,List.find?_cons,e]
theorem cM {p:κ×V} {r:List (κ×V)} {k:κ} (e:¬p.1=k):bX (p::r) k=bX r k:=by simp [bX,List.find?_cons,e]
theorem fx (k:κ):∀kvs:List (κ×V),(kvs.any fun kv=>decide (kv.1=k))=(bX kvs k).isSome
 | []=>rfl
 |p::r=>by
  rw[List.any_cons]
  by_cases e:p.1=k
  ·simp only [cL e,decide_eq_true e,Bool.true_or,Option.isSome_some]
  ·rw[cM e,decide_eq_false e,Bool.false_or];exact fx k r
theorem xo (k j:κ) (y:V):∀kvs:List (κ×V),bX (kvs.map fun kv=>if kv.1=k then (kv.1,y) else kv) j=(bX kvs j).map fun x=>if j=k then y else x
 | []=>rfl
 |p::r=>by
  have ih:=xo k j y r
  rw[List.map_cons]
  by_cases h:p.1=k
  ·rw[if_pos h]
   by_cases e:p.1=j
   ·rw[cL (p:=(p.1,y)) e,cL e,Option.map_some,if_pos (e.symm.trans h)]
   ·rw[cM (p:=(p.1,y)) e,cM e,ih]
  ·rw[if_neg h]
   by_cases e:p.1=j
   ·rw[cL (p:=p) e,cL e,Option.map_some,if_neg (fun z=>h (e.trans z))]
   ·rw[cM (p:=p) e,cM e,ih]
theorem sX (k j:κ) (y:V):∀kvs:List (κ×V),bX kvs k=none→bX (kvs++[(k,y)]) j=if j=k then some y else bX kvs j
 | [],_=>by
   by_cases e:k=j
   ·rw[if_pos e.symm];exact cL (p:=(k,y)) e
   ·rw[if_neg (fun z=>e z.symm)];exact cM (p:=(k,y)) e
 |p::r,hn=>by
  rw[List.cons_append]
  have hk:¬p.1=k:=fun z=>by rw[cL z] at hn;cases hn
  rw[cM hk] at hn
  have ih:=sX k j y r hn
  by_cases e:p.1=j
  ·rw[cL e,cL e,if_neg (fun z=>hk (e.trans z))]
  ·rw[cM e,cM e,ih]
theorem EO (kvs:List (κ×V)) (k j:κ) (y:V):bX (putK kvs k y) j=if j=k then some y else bX kvs j:=by
 unfold putK
 by_cases a:(kvs.any fun kv=>decide (kv.1=k))=true
 ·rw[if_pos a,xo]
  rw[fx] at a
  by_cases e:j=k
  ·obtain⟨x,hx⟩:=Option.isSome_iff_exists.mp a
   rw[if_pos e,e,hx,Option.map_some,if_pos rfl]
  ·rw[if_neg e]
   cases bX kvs j with
   |none=>rfl
   |some x=>rw[Option.map_some,if_neg e]
 ·rw[if_neg a]
  refine sX k j y kvs ?_
  rw[fx] at a
  cases q:bX kvs k with
  |none=>rfl
  |some x=>rw[q] at a;exact(a rfl).elim
theorem dM (kvs:List (κ×V)) (k:κ) (v:V):(putK kvs k v).length≤kvs.length+1:=by
 unfold putK
 split
 ·rw[List.length_map];omega
 ·rw[List.length_append,List.length_cons,List.length_nil];omega
theorem mq {kvs:List (κ×V)} {k:κ} (v:V) (h:bX kvs k=none):putK kvs k v=kvs++[(k,v)]:=by
 unfold putK
 rw[fx,h]
 exact if_neg (by decide)
theorem iy.CB {o:Option V} {u:Option Value} (r:iy o u):o.isSome=u.isSome:=by
 cases o with
 |none=>cases u with
  |none=>rfl
  |some _=>exact(show False from r).elim
 |some _=>cases u with
  |none=>exact(show False from r).elim
  |some _=>rfl
theorem iy.getD {o:Option V} {u:Option Value} {d:V} {d':Value} (r:iy o u) (rd:RelV d d'):RelV (o.getD d) (u.getD d'):=by
 cases o with
 |none=>cases u with
  |none=>exact rd
  |some _=>exact(show False from r).elim
 |some _=>cases u with
  |none=>exact(show False from r).elim
  |some _=>exact r
theorem KV.val {kvs:List (κ×V)} {vs:List (κ×Value)} (r:KV kvs vs) (k:κ):iy (bX kvs k) (valueAt vs k):=by
 unfold KV at r
 induction r with
 |nil=>exact True.intro
 | @cons p q ps qs h t ih=>
   obtain⟨h1,h2⟩:=h
   by_cases e:p.1=k
   ·have e':q.1=k:=h1.symm.trans e
    have b:valueAt (q::qs) k=some q.2:=by simp [valueAt,List.find?_cons,e']
    rw[cL e,b];exact h2
   ·have e':¬q.1=k:=fun z=>e (h1.trans z)
    have b:valueAt (q::qs) k=valueAt qs k:=by simp [valueAt,List.find?_cons,e']
    rw[cM e,b];exact ih
theorem KV.any {kvs:List (κ×V)} {vs:List (κ×Value)} (r:KV kvs vs) (k:κ):(kvs.any fun kv=>decide (kv.1=k))=vs.any fun kv=>decide (kv.1=k):=by
 unfold KV at r
 induction r with
 |nil=>rfl
 |cons h t ih=>rw[List.any_cons,List.any_cons,ih,h.1]
theorem KV.Nx {kvs:List (κ×V)} {vs:List (κ×Value)} (r:KV kvs vs) (k:κ) {y:V} {u:Value} (ry:RelV y u):
  KV (kvs.map fun kv=>if kv.1=k then (kv.1,y) else kv) (vs.map fun kv=>if kv.1=k then (kv.1,u) else kv):=by
 unfold KV at r ⊢
 induction r with
 |nil=>exact .nil
 | @cons p q ps qs h t ih=>
   rw[List.map_cons,List.map_cons]
   refine .cons ?_ ih
   obtain⟨h1,h2⟩:=h
   by_cases e:p.1=k
   ·rw[if_pos e,if_pos (h1.symm.trans e)];exact⟨h1,ry⟩
   ·rw[if_neg e,if_neg (fun z=>e (h1.trans z))];exact⟨h1,h2⟩
theorem KV.put {kvs:List (κ×V)} {vs:List (κ×Value)} (r:KV kvs vs) (k:κ) {y:V} {u:Value} (ry:RelV y u):KV (putK kvs k y) (stored vs k u):=by
 unfold putK stored
 rw[r.any k]
 by_cases e:(vs.any fun kv=>decide (kv.1=k))=true
 ·rw[if_pos e,if_pos e];exact r.Nx k ry
 ·rw[if_neg e,if_neg e];exact Paired.snoc r ⟨rfl,ry⟩
theorem KV.keys {kvs:List (κ×V)} {vs:List (κ×Value)} (r:KV kvs vs):kvs.map (·.1)=vs.map (·.1):=by
 unfold KV at r
 induction r with
 |nil=>rfl
 |cons h t ih=>rw[List.map_cons,List.map_cons,ih,h.1]
theorem KV.length {kvs:List (κ×V)} {vs:List (κ×Value)} (r:KV kvs vs):kvs.length=vs.length:=Paired.length r
end
theorem tf {P:Program} {w:World} {k:Key} {u:Value} (r:RelV (kV k) u):(bD P w).is k u=true:=by
 cases k with
 |inl i=>obtain⟨t,e⟩:=(show∃t,u=Value.int i t from r);subst e;exact xf P w i t
 |inr x=>obtain⟨t,e⟩:=(show∃t,u=Value.str x t from r);subst e;exact xg P w x t
theorem items_are {P:Program} {w:World}:∀{ks:List Key} {us:List Value},Vals (ks.map kV) us→ItemsAre (bD P w) ks us
 | [],_,r=>by rw[List.map_nil] at r;cases r;exact .nil
 |k::ks,_,r=>by
  rw[List.map_cons] at r
  cases r with
  |cons h t=>exact .cons (tf h) (items_are t)
abbrev KT (H:Hp):List (List Key×V)→List (List Key×Addr×Value)→Prop:=Paired fun p q=>p.1=q.1∧H q.2.1=some (.tup (p.1.map kV))∧RelV p.2 q.2.2
theorem KT.val {H:Hp} {kvs:List (List Key×V)} {xs:List (List Key×Addr×Value)} (r:KT H kvs xs) (k:List Key):iy (bX kvs k) ((atKey xs k).map (·.2)):=by
 induction r with
 |nil=>exact True.intro
 | @cons p q ps qs h t ih=>
   obtain⟨h1,_,h2⟩:=h
   by_cases e:p.1=k
   ·have e':q.1=k:=h1.symm.trans e
    have b:atKey (q::qs) k=some q.2:=by simp [atKey,List.find?_cons,e']
    rw[cL e,b];exact h2
   ·have e':¬q.1=k:=fun z=>e (h1.trans z)
    have b:atKey (q::qs) k=atKey qs k:=by simp [atKey,List.find?_cons,e']
    rw[cM e,b];exact ih
theorem KT.Nx {H:Hp} {kvs:List (List Key×V)} {xs:List (List Key×Addr×Value)} (r:KT H kvs xs) (k:List Key) {y:V} {u:Value} (ry:RelV y u):
  KT H (kvs.map fun kv=>if kv.1=k then (kv.1,y) else kv) (xs.map (putAt k u)):=by
 induction r with
 |nil=>exact .nil
 | @cons p q ps qs h t ih=>
   rw[List.map_cons,List.map_cons]
   refine .cons ?_ ih
   obtain⟨h1,h2,h3⟩:=h
   unfold putAt
   by_cases e:p.1=k
   ·rw[if_pos e,if_pos (h1.symm.trans e)];exact⟨h1,h2,ry⟩
   ·rw[if_neg e,if_neg (fun z=>e (h1.trans z))];exact⟨h1,h2,h3⟩
theorem KT.put {H:Hp} {kvs:List (List Key×V)} {xs:List (List Key×Addr×Value)} (r:KT H kvs xs) (k:List Key) {b:Addr} {y:V} {u:Value} (hb:H b=some (.tup (k.map kV))) (ry:RelV y u):
  KT H (putK kvs k y) (storedH xs k b u):=by
 have e:(kvs.any fun kv=>decide (kv.1=k))=(atKey xs k).isSome:=by
  rw[fx,(r.val k).CB,Option.isSome_map]
 unfold putK storedH
 rw[e]
 by_cases q:(atKey xs k).isSome=true
 ·rw[if_pos q,if_pos q];exact r.Nx k ry
 ·rw[if_neg q,if_neg q];exact Paired.snoc r ⟨rfl,hb,ry⟩
theorem KT.keeps {H H':Hp} {kvs:List (List Key×V)} {xs:List (List Key×Addr×Value)} (r:KT H kvs xs) (ht:∀b ys,H b=some (.tup ys)→H' b=some (.tup ys)):KT H' kvs xs:=
 Paired.Nf r fun _ _ z=>⟨z.1,ht _ _ z.2.1,z.2.2⟩
section
variable {P:Program} {w:World} {H:Hp} {h:Heap} {a:Addr}
theorem LY {u:HO} (ok:jQ P w H h) (e:Rd H a u):cg P w H h a u:=e.ok ok
theorem oX {kvs:List (Key×V)} (ok:jQ P w H h) (e:Rd H a (.dK kvs)):kvs.length≤sizeLine∧(a==sysModules)=false∧∃vs,KV kvs vs∧h.DictOf (bD P w) a vs:=
 show cg P w H h a (.dK kvs) from LY ok e
theorem oY {kvs:List (Key×V)} (ok:jQ P w H h) (e:H a=some (.dK kvs)):kvs.length≤sizeLine∧(a==sysModules)=false∧∃vs,KV kvs vs∧h.DictOf (bD P w) a vs:=oX ok (.inl e)
theorem key_of {ks:List Key} (ok:jQ P w H h) (e:H a=some (.tup (ks.map kV))):(tupleKind (bD P w)).is h ks a:=by
 obtain⟨_,its,r,o,h1,h2,n,h3⟩:=(show cg P w H h a (.tup (ks.map kV)) from ok a _ e)
 exact⟨o,its.toArray,n,h1,h2,h3,by simpa using items_are r⟩
theorem xp {kvs:List (List Key×V)} (ok:jQ P w H h) (e:Rd H a (.dT kvs)):kvs.length≤sizeLine∧(a==sysModules)=false∧
  ∃xs,KT H kvs xs∧h.DictOfH (tupleKind (bD P w)) a xs:=by
 obtain⟨z,y,xs,r,o,es,ep,h1,h2,h3,h4,h5⟩:=(show cg P w H h a (.dT kvs) from LY ok e)
 refine⟨z,y,xs,r,o,es,ep,h1,h2,h3,h4,fun x hx=>?_,h5⟩
 have all:∀{l:List (List Key×V)} {m:List (List Key×Addr×Value)},KT H l m→∀x∈m,(tupleKind (bD P w)).is h x.1 x.2.1:=by
  intro l m q
  induction q with
  |nil=>intro x hx;exact nomatch hx
  | @cons p q ps qs hq t ih=>
    intro x hx
    rcases List.mem_cons.mp hx with e|hx
    ·subst e
     exact key_of ok (by rw[←hq.1];exact hq.2.1)
    ·exact ih x hx
 exact all r x hx
theorem RC {kvs:List (List Key×V)} (ok:jQ P w H h) (e:H a=some (.dT kvs)):kvs.length≤sizeLine∧(a==sysModules)=false∧
  ∃xs,KT H kvs xs∧h.DictOfH (tupleKind (bD P w)) a xs:=xp ok (.inl e)
end
def gk (H:Hp) (a:Addr) (y:V) (r:Option V):Prop:=
 (∃kvs k,Rd H a (.dK kvs)∧y=kV k∧r=bX kvs k)∨∃kvs k b,Rd H a (.dT kvs)∧y= .ref b∧H b=some (.tup (k.map kV))∧r=bX kvs k
def lz (H:Hp) (a:Addr) (y v:V) (H':Hp):Prop:=
 (∃kvs k,H a=some (.dK kvs)∧y=kV k∧kvs.length<sizeLine∧H'=upd H a (.dK (putK kvs k v)))∨
 ∃kvs k b,H a=some (.dT kvs)∧y= .ref b∧H b=some (.tup (k.map kV))∧kvs.length<sizeLine∧H'=upd H a (.dT (putK kvs k v))
theorem gk.k {H:Hp} {a:Addr} {kvs:List (Key×V)} {k:Key} (e:H a=some (.dK kvs)):gk H a (kV k) (bX kvs k):= .inl ⟨kvs,k, .inl e,rfl,rfl⟩
theorem lz.k {H:Hp} {a:Addr} {kvs:List (Key×V)} {k:Key} {v:V} (e:H a=some (.dK kvs)) (hl:kvs.length<sizeLine):lz H a (kV k) v (upd H a (.dK (putK kvs k v))):= .inl ⟨kvs,k,e,rfl,hl,rfl⟩
section
variable {X:Cx} {pins:List (Addr×Obj)} {σ:St} {H:Hp} {s:Shared} {a:Addr} {y v:V} {u r:Value} {o:Option V} {A:Around} {E:Value→Shared→Prop}
theorem Inv.big (I:Inv X pins σ H s):sysModules<s.heap.objs.size:=by
 have h:mainGlobals<s.heap.objs.size:=(I.mod.glob.keeps I.bk).lt
 exact Nat.lt_trans (by decide) h
theorem CC {Q:Value→Shared→Prop} (hu:A.units+1<cLine) (I:Inv X pins σ H s) (g:gk H a y (some v)) (ry:RelV y u) (h:∀w' s',Inv X pins σ H s'→RelV v w'→Q w' s'):
  wpAny (model X.prog X.w) A (getItem (.ref a) u) Q E s:=by
 rcases g with ⟨kvs,k,e,ey,l⟩ | ⟨kvs,k,b,e,ey,eb,l⟩
 ·subst ey
  obtain⟨z,hd,vs,rel,dd⟩:=oX I.aX e
  obtain⟨w',hw,ES⟩:=iy.some_of (v:=v) (o:=valueAt vs k) (by rw[l];exact rel.val k)
  exact wpAny_getItem_of (tf ry) dd.mapOf hw (h w' _ (I.tok _) ES)
 ·subst ey
  cases (show u=Value.ref b from ry)
  obtain⟨z,hd,xs,rel,dd⟩:=xp I.aX e
  obtain⟨w',hw,ES⟩:=iy.some_of (v:=v) (o:=(atKey xs k).map (·.2)) (by rw[l];exact rel.val k)
  obtain⟨p,hp,En⟩:=Option.map_eq_some_iff.mp hw
  refine wpAny_getItem_heap (tupleKind_room_in1 hu) (key_of I.aX eb) dd hp ?_
  rw[En]
  exact h w' _ (I.tok _) ES
theorem pB {h':Heap} {t':Nat} {ob:HO} (I:Inv X pins σ H s) (mu:Q4 (H a)) (hs:Heap.SameBut a s.heap h') (he:∃q,h'.get? a=some q) (new:cg X.prog X.w (upd H a ob) h' a ob):
  Inv X pins σ (upd H a ob) { s with heap:=h',toks:=t' }:=
 I.write (x:=a) (e:=a) mu (.inl rfl) (fun b q hb z=>(hs.2 b hb).trans z) he new
theorem qr {P:Program} {w:World} {H':Hp} {h':Heap} {kvs:List (Key×V)} {vs:List (Key×Value)} (z:kvs.length≤sizeLine) (hd:(a==sysModules)=false) (rel:KV kvs vs) (dd:h'.DictOf (bD P w) a vs):
  cg P w H' h' a (.dK kvs):=⟨z,hd,vs,rel,dd⟩
theorem CD {H':Hp} {Q:Unit→Shared→Prop} (hu:A.units+1<cLine) (I:Inv X pins σ H s) (g:lz H a y v H') (ry:RelV y u) (rv:RelV v r) (h:∀s',Inv X pins σ H' s'→Q () s'):
  wpAny (model X.prog X.w) A (setItem (.ref a) u r) Q E s:=by
 rcases g with ⟨kvs,k,e,ey,l,eH⟩ | ⟨kvs,k,b,e,ey,eb,l,eH⟩
 ·subst ey eH
  obtain⟨z,hd,vs,rel,dd⟩:=oY I.aX e
  have hz:vs.length≤sizeLine:=by rw[←rel.length];exact z
  have hl:(putK kvs k v).length≤sizeLine:=by have:=dM kvs k v;omega
  refine wpAny_setItem_pairs (hsz:=hz) (tf ry) dd fun h' CF hs=>h _ ?_
  have he:∃q,h'.get? a=some q:=let ⟨q,_,_,hq,_⟩:=CF;⟨q,hq⟩
  exact pB I (by rw[e];exact True.intro) hs he (qr hl hd (rel.put k rv) CF)
 ·subst ey eH
  cases (show u=Value.ref b from ry)
  obtain⟨z,hd,xs,rel,dd⟩:=RC I.aX e
  have hz:xs.length≤sizeLine:=by rw[←Paired.length rel];exact z
  have hl:(putK kvs k v).length≤sizeLine:=by have:=dM kvs k v;omega
  refine wpAny_setItem_heap (hsz:=hz) (tupleKind_room_in1 hu) (key_of I.aX eb) dd fun h' CF hs=>h _ ?_
  obtain⟨q,es,ep,hq,h2,h3,h4,_,h5⟩:=CF
  refine pB I (by rw[e];exact True.intro) hs ⟨q,hq⟩ ⟨hl,hd,_,(rel.put k eb rv).keeps fun c ys ec=>?_,q,es,ep,hq,h2,h3,h4,h5⟩
  rw[ah (cD ec e (fun z=>nomatch z))]
  exact ec
end
section
variable {X:Cx} {pins:List (Addr×Obj)} {σ:St} {H:Hp} {s:Shared} {a:Addr} {kvs:List (Key×V)} {k:Key} {u:Value} {A:Around} {E:Value→Shared→Prop}
theorem RD {Q:Value→Shared→Prop} (I:Inv X pins σ H s) (e:Rd H a (.dK kvs)) (h:∀t s',Inv X pins σ H s'→Q (.int kvs.length t) s'):wpAny (model X.prog X.w) A (call (.builtin "len") [.ref a]) Q E s:=by
 obtain⟨z,hd,vs,rel,dd⟩:=oX I.aX e
 refine call_len_dict hd dd (by rw[←rel.length];rw[sizeLine_eq] at z;omega) ?_
 rw[←rel.length]
 exact h _ _ (I.tok _)
end
def RE (i:Expr):Prop:=∀ov iv,subscripted i false ov iv=operate [ov,iv] (getItem ov iv)
theorem Jq {prog:Program} {w:World} {A:Around} {E:Value→Shared→Prop} {s:Shared} {env:Env} {value slice:Expr} {pos:Pos} {T id:String} {Q:Value→Shared→Prop}
  (hl:typeLookup (.type T) "__getitem__" =pure (some (.builtin id))) (hs:RE slice)
  (h:wpAny (model prog w) A (eval value env) (fun o s₁=>wpAny (model prog w) A (eval slice env) (fun i s₂=>s₂.TypeIs o T∧wpAny (model prog w) A (getItem o i) Q E s₂) E s₁) E s):
  wpAny (model prog w) A (eval (.Subscript value slice pos) env) Q E s:=by
 refine Subscript_ (wpAny_mono h (fun o s₁ h₁=>wpAny_mono h₁ (fun i s₂ h₂=>?_) fun _ _ x=>x) fun _ _ x=>x)
 obtain⟨hT,h₂⟩:=h₂
 unfold subscriptTail
 refine wpAny_bind ?_
 rw[getitemInPython_of_ne hT.not_modules]
 refine wpAny_bind (wpAny_specialOf hT hl ?_)
 have fin:wpAny (model prog w) A (subscripted slice false o i) (fun r s₃=>wpAny (model prog w) A (letTemporaryGo value o r >>= fun _=>pure r) Q E s₃) E s₂:=by
  rw[hs o i]
  exact wpAny_operating (wpAny_mono h₂ (fun r s₃ h₃=>wpAny_bind (wpAny_letTemporaryGo (wpAny_pure h₃))) fun _ _ x=>x)
 first
  |exact wpAny_pure (wpAny_bind fin)
  |exact wpAny_bind (wpAny_pure (wpAny_bind fin))
  |exact wpAny_bind fin
theorem xq {X:Cx} {pins:List (Addr×Obj)} {σ:St} {H:Hp} {s:Shared} {a:Addr} {y:V} {o:Option V} (I:Inv X pins σ H s) (g:gk H a y o):s.TypeIs (.ref a) "dict" :=by
 rcases g with ⟨kvs,k,e,_,_⟩ | ⟨kvs,k,b,e,_,_,_⟩
 ·obtain⟨_,_,vs,_,dd⟩:=oX I.aX e
  exact dd.typeIs
 ·obtain⟨_,_,xs,_,dd⟩:=xp I.aX e
  exact dd.typeIs
def ET (td ty:TE):TE:=fun σ H Q=>td σ H fun x H1=>ty σ H1 fun y H2=>∃a v,x= .ref a∧gk H2 a y (some v)∧Q v H2
def EU (td ty tv:TE):TS:=fun D σ H=>tv σ H fun v H1=>td σ H1 fun x H2=>ty σ H2 fun y H3=>∃a H4,x= .ref a∧lz H3 a y v H4∧D.nx σ H4
section
variable {X:Cx} {o i e value:Expr} {pos pos' mn:Pos} {td ty tv:TE}
theorem bN (hu:X.A.units+1<cLine) (ho:PE X o td) (hi:PE X i ty) (hs:RE i):PE X (.Subscript o i pos) (ET td ty):=by
 intro pins s σ H Q I h
 refine Jq PySem.F.slot_dict_getitem.lookup hs (bV (ho pins s σ H _ I h) fun u s1 ⟨x,H1,I1,rx,q1⟩=>bV (hi pins s1 σ H1 _ I1 q1) fun iv s2 ⟨y,H2,I2,ry,a,v,ex,g,q2⟩=>?_)
 subst ex
 obtain rfl:u=Value.ref a:=rx
 exact⟨xq I2 g,CC hu I2 g ry fun w' s3 I3 ES=>⟨v,H2,I3,ES,q2⟩⟩
theorem dX (hu:X.A.units+1<cLine) (ho:PE X o td) (hi:PE X i ty) (hv:PE X value tv) (hs:swapsWith value (some (.Subscript o i pos')) pos.line X.env=pure false):
  PS X (.Assign [.Subscript o i pos'] value pos) (EU td ty tv):=by
 intro pins s σ H D I h
 refine wpAny_Assign_Subscript (bV (hv pins s σ H _ I h) fun r s1 ⟨v,H1,I1,rv,q1⟩=>bV (ho pins s1 σ H1 _ I1 q1) fun u s2 ⟨x,H2,I2,rx,q2⟩=>bV (hi pins s2 σ H2 _ I2 q2) fun iv s3 ⟨y,H3,I3,ry,a,H4,ex,g,q3⟩=>?_) hs
 subst ex
 obtain rfl:u=Value.ref a:=rx
 exact CD hu I3 g ry rv fun s4 I4=>⟨σ,H4,I4,q3⟩
end
theorem xr {P:Program} {w:World} {H:Hp} (h:Heap) (hb:sysModules<h.objs.size):cg P w H (h.push { cls:= .type "dict",data:= .dict #[] }) h.objs.size (.dK []):=
 ⟨Nat.zero_le _,beq_eq_false_iff_ne.mpr (Ne.symm (Nat.ne_of_lt hb)),[], .nil,Heap.DictOf.new h⟩
def Ny:TE:=fun _ H Q=>∀p,H p=none→Q (.ref p) (upd H p (.dK []))
section
variable {X:Cx} {pos:Pos}
theorem dN:PE X (.Dict [] [] pos) Ny:=fun pins s σ H Q I h=>
 wpAny_Dict_empty ⟨.ref s.heap.objs.size,_,I.laid (a:=s.heap.objs.size) (o:= .dK []) (t':=s.toks) (fun _ _ q=>Heap.get?_push_of_some _ q) (Nat.le_refl _) (xr s.heap I.big),rfl,h _ (I.aX.fresh (Nat.le_refl _))⟩
end
def y':List (TE×TE)→St→Hp→(List (V×V)→Hp→Prop)→Prop
 | [],_,H,Q=>Q [] H
 | (tk,tv)::r,σ,H,Q=>tk σ H fun x H1=>tv σ H1 fun y H2=>y' r σ H2 fun ps H3=>Q ((x,y)::ps) H3
abbrev VV:List (V×V)→List (Value×Value)→Prop:=Paired fun p q=>RelV p.1 q.1∧RelV p.2 q.2
def Yy (X:Cx) (pos:Pos) (keys:List (Option Expr)) (values:List Expr) (Jr:List (TE×TE)):Prop:=
 ∀(pins:List (Addr×Obj)) (s:Shared) (σ:St) (H:Hp) (Q:List (V×V)→Hp→Prop),Inv X pins σ H s→y' Jr σ H Q→
  wpAny (model X.prog X.w) X.A (evalPairs (pairTrees keys values X.env pos)) (fun vs s'=>∃ps H',Inv X pins σ H' s'∧VV ps vs∧Q ps H') X.xe s
theorem AO {X:Cx} {pos:Pos}:Yy X pos [] [] []:=fun pins s σ H Q I h=>pairTrees_nil_walk ⟨[],H,I, .nil,h⟩
theorem xt {X:Cx} {pos:Pos} {k v:Expr} {ks:List (Option Expr)} {vs:List Expr} {tk tv:TE} {Jr:List (TE×TE)} (hk:PE X k tk) (hv:PE X v tv) (hr:Yy X pos ks vs Jr):
  Yy X pos (some k::ks) (v::vs) ((tk,tv)::Jr):=fun pins s σ H Q I h=>
 pairTrees_cons_walk (bV (hk pins s σ H _ I h) fun u s1 ⟨x,H1,I1,rx,q1⟩=>bV (hv pins s1 σ H1 _ I1 q1) fun w2 s2 ⟨y,H2,I2,ry,q2⟩=>
  bV (hr pins s2 σ H2 _ I2 q2) fun ws s3 ⟨ps,H3,I3,rel,q3⟩=>⟨(x,y)::ps,H3,I3, .cons ⟨rx,ry⟩ rel,q3⟩)
def cy (kvs more:List (Key×V)):List (Key×V):=more.foldl (fun acc kv=>putK acc kv.1 kv.2) kvs
theorem KV.merge:∀{more:List (Key×V)} {rs:List (Key×Value)} {kvs:List (Key×V)} {vs:List (Key×Value)},KV more rs→KV kvs vs→KV (cy kvs more) (merged vs rs):=by
 intro more rs kvs vs r
 unfold KV at r
 induction r generalizing kvs vs with
 |nil=>intro q;exact q
 | @cons p q ps qs h t ih=>
   intro r0
   have e:KV (putK kvs p.1 p.2) (stored vs q.1 q.2):=by
    have:=r0.put p.1 h.2
    rw[←h.1];exact this
   exact ih e
theorem eG:∀(more kvs:List (Key×V)),(cy kvs more).length≤kvs.length+more.length
 | [],kvs=>by show kvs.length≤kvs.length+0;omega
 |p::r,kvs=>by
  have h1:=eG r (putK kvs p.1 p.2)
  have h2:=dM kvs p.1 p.2
  show (cy (putK kvs p.1 p.2) r).length≤_
  rw[List.length_cons];omega
theorem qt {P:Program} {w:World}:∀{kvs:List (Key×V)} {ws:List (Value×Value)},VV (kvs.map fun kv=>(kV kv.1,kv.2)) ws→∃rs,Carries (bD P w) ws rs∧KV kvs rs
 | [],_,r=>by rw[List.map_nil] at r;cases r;exact⟨[],True.intro, .nil⟩
 |p::kvs,_,r=>by
  rw[List.map_cons] at r
  cases r with
  | @cons a b as bs h t=>
    obtain⟨rs,c,q⟩:=qt (P:=P) (w:=w) t
    obtain⟨b1,b2⟩:=b
    exact⟨(p.1,b2)::rs,⟨tf h.1,rfl,c⟩, .cons ⟨rfl,h.2⟩ q⟩
def RF (Jr:List (TE×TE)):TE:=fun σ H Q=>∀p,H p=none→y' Jr σ (upd H p (.dK [])) fun ps H2=>H2 p=some (.dK [])∧∃kvs:List (Key×V),ps=kvs.map (fun kv=>(kV kv.1,kv.2))∧kvs.length≤15∧Q (.ref p) (upd H2 p (.dK (cy [] kvs)))
theorem AQ {X:Cx} {pos:Pos} {keys:List (Option Expr)} {values:List Expr} {Jr:List (TE×TE)} (h:Yy X pos keys values Jr) (Nz:keys.all (·.isSome)=true) (hl:keys.length=values.length) (h0:keys≠[])
  (h15:keys.length≤15):PE X (.Dict keys values pos) (RF Jr):=by
 intro pins s σ H Q I q
 have hn:=I.aX.fresh (Nat.le_refl s.heap.objs.size)
 have I1:=I.laid (a:=s.heap.objs.size) (o:= .dK []) (h':=s.heap.push { cls:= .type "dict",data:= .dict #[] }) (t':=s.toks) (fun _ _ q=>Heap.get?_push_of_some _ q) (Nat.le_refl _) (xr s.heap I.big)
 refine wpAny_Dict_walk (knd:=bD X.prog X.w) Nz hl h0 h15 (bV (h pins _ σ _ _ I1 (q _ hn)) fun ws s2 ⟨ps,H2,I2,rel,e,kvs,ep,lk,q2⟩=>?_)
 subst ep
 obtain⟨rs,c,rk⟩:=qt (P:=X.prog) (w:=X.w) rel
 obtain⟨z,hd,vs0,r0,dd⟩:=oY I2.aX e
 cases r0
 refine⟨rs,c,dd,fun h' CF hs=>⟨.ref s.heap.objs.size,_,?_,rfl,q2⟩⟩
 have hz:(cy [] kvs).length≤sizeLine:=by
  have h1:=eG kvs []
  rw[List.length_nil] at h1
  rw[sizeLine_eq];omega
 have he:∃q,h'.get? s.heap.objs.size=some q:=let ⟨q,_,_,hq,_⟩:=CF;⟨q,hq⟩
 exact pB I2 (by rw[e];exact True.intro) hs he (qr hz hd (rk.merge .nil) CF)
structure M1 (X:Cx) (o:Expr) (m:Str) (apos:Pos) (e:Expr) (gY:Pos):Prop where
 base:attributeBase o m X.env (eval o X.env)=eval o X.env
 ZM:((backTo gY (starEach [e] X.env)).all (fun x=>!x.1)&&(backToKw gY (keywordEach [] X.env)).all (fun x=>x.1.isSome)
  &&decide (([e]:List Expr).length+([]:List Keyword).length+(if ([]:List Keyword).isEmpty then 0 else 1) <30))=true
 line:(apos.endLine==gY.line)=true
 trees:backTo gY (starEach [e] X.env)=[(false,eval e X.env)]
structure M2 (X:Cx) (o:Expr) (m:Str) (apos:Pos) (e f:Expr) (gY:Pos):Prop where
 base:attributeBase o m X.env (eval o X.env)=eval o X.env
 ZM:((backTo gY (starEach [e,f] X.env)).all (fun x=>!x.1)&&(backToKw gY (keywordEach [] X.env)).all (fun x=>x.1.isSome)
  &&decide (([e,f]:List Expr).length+([]:List Keyword).length+(if ([]:List Keyword).isEmpty then 0 else 1) <30))=true
 line:(apos.endLine==gY.line)=true
 trees:backTo gY (starEach [e,f] X.env)=[(false,eval e X.env),(false,eval f X.env)]
def ZN (H:Hp) (a:Addr):Prop:=(∃kvs,Rd H a (.dK kvs))∨∃kvs,Rd H a (.dT kvs)
theorem EV {X:Cx} {pins:List (Addr×Obj)} {σ:St} {H:Hp} {s:Shared} {a:Addr} (I:Inv X pins σ H s) (d:ZN H a):
  s.TypeIs (.ref a) "dict" ∧(∀b,Value.ref a= .ref b→∃ob,s.heap.get? b=some ob∧ob.dict=none)∧(a==sysModules)=false:=by
 rcases d with ⟨kvs,e⟩ | ⟨kvs,e⟩
 ·obtain⟨_,hd,vs,_,dd⟩:=oX I.aX e
  refine⟨dd.typeIs,fun b q=>?_,hd⟩
  cases q
  obtain⟨ob,_,_,h1,h2,_⟩:=dd
  exact⟨ob,h1,h2.2.1⟩
 ·obtain⟨_,hd,xs,_,dd⟩:=xp I.aX e
  refine⟨dd.typeIs,fun b q=>?_,hd⟩
  cases q
  obtain⟨ob,_,_,h1,h2,_⟩:=dd
  exact⟨ob,h1,h2.2.1⟩
section
variable {X:Cx} {pins:List (Addr×Obj)} {σ:St} {H:Hp} {s:Shared} {a:Addr} {y d:V} {u r:Value} {o:Option V} {A:Around} {E:Value→Shared→Prop}
theorem NA {Q:Value→Shared→Prop} (hu:A.units+1<cLine) (I:Inv X pins σ H s) (g:gk H a y o) (ry:RelV y u) (rd:RelV d r) (h:∀w' s',Inv X pins σ H s'→RelV (o.getD d) w'→Q w' s'):
  wpAny (model X.prog X.w) A (call (.builtin "dict.get") [.ref a,u,r]) Q E s:=by
 rcases g with ⟨kvs,k,e,ey,l⟩ | ⟨kvs,k,b,e,ey,eb,l⟩
 ·subst ey
  obtain⟨z,hd,vs,rel,dd⟩:=oX I.aX e
  refine call_meetsIn PySem.F.slot_dict_get dd.typeIs PySem.F.entry_dict_get (PySem.F.args_dict_get_3 _ _ _) (meets_dict_get_default (bD X.prog X.w) a (tf ry) hd r) ⟨_,dd.mapOf,h _ _ (I.tok _) ?_⟩
  rw[l]
  exact(rel.val k).getD rd
 ·subst ey
  cases (show u=Value.ref b from ry)
  obtain⟨z,hd,xs,rel,dd⟩:=xp I.aX e
  refine call_meetsIn PySem.F.slot_dict_get dd.typeIs PySem.F.entry_dict_get (PySem.F.args_dict_get_3 _ _ _) (meetsH_dict_get_default (tupleKind (bD X.prog X.w)) a b hd r) ⟨tupleKind_room_in1 hu,k,xs,key_of I.aX eb,dd,h _ _ (I.tok _) ?_⟩
  rw[l]
  exact(rel.val k).getD rd
end
def ze (td ty tx:TE):TE:=fun σ H Q=>td σ H fun x H1=>∃a,x= .ref a∧ZN H1 a∧ty σ H1 fun y H2=>tx σ H2 fun z H3=>∃o,gk H3 a y o∧Q (o.getD z) H3
section
variable {X:Cx} {o e f:Expr} {apos gY:Pos} {td ty tx:TE}
theorem bP (hu:X.A.units+1<cLine) (ho:PE X o td) (he:PE X e ty) (hf:PE X f tx) (m:M2 X o "get" apos e f gY):PE X (.Call (.Attribute o "get" apos) [e,f] [] gY) (ze td ty tx):=by
 intro pins s σ H Q I h
 refine wpAny_Call_method m.base m.ZM m.line PySem.F.plainAttrs_dict PySem.F.slot_dict_get PySem.F.type_dict_get (bV (ho pins s σ H _ I h) fun u s1 ⟨x,H1,I1,rx,a,ex,d,q1⟩=>?_)
 subst ex
 obtain rfl:u=Value.ref a:=rx
 obtain⟨t1,t2,_⟩:=EV I1 d
 refine⟨t1,t2,?_⟩
 rw[m.trees]
 refine Calls.callWith_builtin rfl (Calls.evalArgs_plain (Calls.spliced_cons (bV (he pins s1 σ H1 _ I1 q1) fun iv s2 ⟨y,H2,I2,ry,q2⟩=>
  Calls.spliced_cons (bV (hf pins s2 σ H2 _ I2 q2) fun fv s3 ⟨z,H3,I3,rz,ov,g,q3⟩=>Calls.spliced_nil ?_))))
 exact NA hu I3 g ry rz fun w' s4 I4 ES=>⟨_,H3,I4,ES,q3⟩
end
section
variable {X:Cx} {pins:List (Addr×Obj)} {σ:St} {H:Hp} {s:Shared} {a:Addr} {kvs:List (Key×V)} {A:Around} {E:Value→Shared→Prop}
theorem EW {Q:Value→Shared→Prop} (I:Inv X pins σ H s) (e:Rd H a (.dK kvs)) (h:∀p s',H p=none→Inv X pins σ (upd H p (.dK kvs)) s'→Q (.ref p) s'):wpAny (model X.prog X.w) A (call (.type "dict") [.ref a]) Q E s:=by
 obtain⟨z,hd,vs,rel,dd⟩:=oX I.aX e
 refine kt_call_dict hd dd (by rw[←rel.length];exact z) fun h' CF hs=>?_
 refine h _ _ (I.aX.fresh (Nat.le_refl _)) (I.laid (a:=s.heap.objs.size) (o:= .dK kvs) (t':=s.toks) (fun b q hq=>?_) (Nat.le_refl _) (qr z (beq_eq_false_iff_ne.mpr (Ne.symm (Nat.ne_of_lt I.big))) rel CF))
 exact(hs.2 b (Nat.ne_of_lt (Heap.lt_size hq))).trans (Heap.get?_push_of_some _ hq)
end
section
variable {X:Cx} {pins:List (Addr×Obj)} {σ:St} {H:Hp} {s:Shared} {a:Addr} {y:V} {u:Value} {A:Around} {E:Value→Shared→Prop}
end
end L2
namespace HT
open PySem PyProof.Rows
section
open PySem.SeqAt
open PySem.AutoSeq1 (wpAny_loadPart')
open PySem.MeetsSeq PySem.MeetsSeq2 PySem.MeetsSeq3
end
section
variable {prog:Program} {w:World} {A:Around} {E:Value→Shared→Prop} {s:Shared}
theorem Js {t b:Addr} {vs ws:List Value} {Q:Value→Shared→Prop} (ht:IsTup s.heap t vs.toArray) (hb:IsTup s.heap b ws.toArray) (hv:vs≠[])
  (h1:ws=[]→Q (.ref t) s) (h2:ws≠[]→Q (.ref s.heap.objs.size) { s with heap:=s.heap.push { cls:= .type "tuple",data:= .seq (vs++ws).toArray } })
  (hsz:vs.length+ws.length≤sizeLine):wpAny (model prog w) A (binaryOp .Add (.ref t) (.ref b)) Q E s:=by
 obtain⟨⟨cls,dd,data,sl⟩,ho,hc,n,hd⟩:=id ht
 obtain⟨⟨cls2,Yz,data2,sl2⟩,YA,YB,n2,hd2⟩:=id hb
 simp only at hc hd YB hd2
 subst hc hd YB hd2
 have e:vs.toArray++ws.toArray=(vs++ws).toArray:=by simp
 by_cases hw:ws=[]
 ·exact concat_meets ⟨_,ho,rfl⟩ ⟨_,YA,rfl⟩ noFill_tuple_add seq_tuple_add PySem.F.slot_tuple_add PySem.F.entry_tuple_add (PySem.F.args_tuple_add_2 _ _)
   (tuple_addW1 t b vs.toArray ws.toArray n n2 dd Yz sl sl2 (by simpa using hv) (by simp [hw])) ⟨ho,YA,h1 hw⟩
 ·refine concat_meets ⟨_,ho,rfl⟩ ⟨_,YA,rfl⟩ noFill_tuple_add seq_tuple_add PySem.F.slot_tuple_add PySem.F.entry_tuple_add (PySem.F.args_tuple_add_2 _ _)
   (tuple_addW2 t b vs.toArray ws.toArray n n2 dd Yz sl sl2 (by simpa using hv) (by simpa using hw) (by rw[List.size_toArray,List.size_toArray];exact hsz)) ⟨ho,YA,?_⟩
  rw[e]
  exact h2 hw
end
end HT
namespace L2
open PySem PySem.Spec PyProof.Rows
abbrev TO:=St→Hp→(Option Int→Hp→Prop)→Prop
def PO (X:Cx) (e:Option Expr) (t:TO):Prop:=
 ∀(pins:List (Addr×Obj)) (s:Shared) (σ:St) (H:Hp) (Q:Option Int→Hp→Prop),Inv X pins σ H s→t σ H Q→
  wpAny (model X.prog X.w) X.A (evalPart e X.env) (fun u s'=>∃o H',Inv X pins σ H' s'∧IsPart u o∧Q o H') X.xe s
def RG (t:TE):TO:=fun σ H Q=>t σ H fun x H1=>∃i,x= .int i∧Q (some i) H1
theorem intsAre_of {ns:List Int}:∀{us:List Value},Vals (ns.map V.int) us→IntsAre us ns:=by
 induction ns with
 |nil=>intro us r;rw[List.map_nil] at r;cases r;exact .nil
 |cons n ns ih=>
  intro us r
  rw[List.map_cons] at r
  cases r with
  |cons r1 r2=>
   obtain⟨t,e⟩:=r1
   subst e
   exact .cons n t (ih r2)
section
variable {X:Cx} {e:Expr} {te:TE} {lo hi:Option Expr} {tl th:TO} {pos p2:Pos}
theorem iA (h:PE X e te):PO X (some e) (RG te):=by
 intro pins s σ H Q I hw
 rw[evalPart_some]
 refine bV (h pins s σ H _ I hw) fun u s1 ⟨x,H1,I1,r1,q1⟩=>?_
 obtain⟨i,rfl,q⟩:=q1
 obtain⟨t,rfl⟩:=r1
 exact⟨some i,H1,I1, .int i t,q⟩
def SlR (X:Cx) (r:V→Option Int→Option Int→Hp→VK→Prop):Prop:=
 ∀(pins:List (Addr×Obj)) (s:Shared) (σ:St) (H:Hp) (x:V) (v vl vu:Value) (lo hi:Option Int) (sl:Addr) (Q:VK),Inv X pins σ H s→RelV x v→s.heap.IsSliceOf sl vl vu .none→IsPart vl lo→IsPart vu hi→r x lo hi H Q→
  ∃T id,typeLookup (.type T) "__getitem__" =pure (some (.builtin id))∧s.TypeIs v T∧wpAny (model X.prog X.w) X.A (getItem v (.ref sl)) (EP X pins σ Q) X.xe s
def tSl (r:V→Option Int→Option Int→Hp→VK→Prop) (te:TE) (tl th:TO):TE:=fun σ H Q=>te σ H fun x H1=>tl σ H1 fun l H2=>th σ H2 fun u H3=>r x l u H3 Q
theorem mr {r:V→Option Int→Option Int→Hp→VK→Prop} (hr:SlR X r) (he:PE X e te) (hl:PO X lo tl) (hu:PO X hi th):PE X (.Subscript e (.Slice lo hi none p2) pos) (tSl r te tl th):=by
 intro pins s σ H Q I h
 refine Subscript_ (bV (he pins s σ H _ I h) fun v s1 ⟨x,H1,I1,r1,q1⟩=>?_)
 refine wpAny_Slice (bV (hl pins s1 σ H1 _ I1 q1) fun vl s2 ⟨l,H2,I2,pl,q2⟩=>bV (hu pins s2 σ H2 _ I2 q2) fun vu s3 ⟨u,H3,I3,pu,q3⟩=>?_)
 rw[evalPart_none]
 refine wpAny_pure ?_
 have I4:Inv X pins σ H3 { s3 with heap:=s3.heap.push { cls:= .type "slice",data:= .fields #[vl,vu, .none] } }:=I3.kept (t':=s3.toks) fun b ob q=>Heap.get?_push_of_some _ q
 obtain⟨T,id,hT,ht,hg⟩:=hr pins { s3 with heap:=s3.heap.push { cls:= .type "slice",data:= .fields #[vl,vu, .none] } } σ H3 x v vl vu l u s3.heap.objs.size Q I4 r1 (Heap.IsSliceOf.new ..) pl pu q3
 show wpAny (model X.prog X.w) X.A (subscriptTail e (.Slice lo hi none p2) v (.ref s3.heap.objs.size)) (EP X pins σ Q) X.xe { s3 with heap:=s3.heap.push { cls:= .type "slice",data:= .fields #[vl,vu, .none] } }
 exact tail_any (ops:=[.ref s3.heap.objs.size,v]) ht hT hg (by with_unfolding_all rfl)
def RH (K:PySem.W.Frag):R2:=fun x y H Q=>∃a b xs ys,x= .ref a∧y= .ref b∧jL K H a xs∧jL K H b ys∧xs≠[]∧xs.length+ys.length≤sizeLine∧
 (ys=[]→Q (.ref a) H)∧(ys≠[]→∀p,H p=none→Q (.ref p) (upd H p (.tup (xs++ys))))
theorem Vals.u5 {xs:List V} {us:List Value} (r:Vals xs us):us=[]↔xs=[]:=by
 cases r with
 |nil=>simp
 |cons _ _=>simp
theorem Jt:oW X (binaryOp .Add) (RH X.K):=by
 intro pins s σ H x y v u Q I rx ry h
 obtain⟨a,b,xs,ys,rfl,rfl,ha,hb,hx,hz,q1,q2⟩:=h
 cases rx
 cases ry
 obtain⟨its,r1,p1,_⟩:=I.tuple ha
 obtain⟨xu,r2,p2,_⟩:=I.tuple hb
 refine HT.Js p1 p2 (fun z=>hx (r1.u5.mp z)) (fun z=>⟨.ref a,H,I,rfl,q1 (r2.u5.mp z)⟩) (fun z=>?_) (by rw[←r1.length,←r2.length];exact hz)
 refine⟨.ref s.heap.objs.size,_,I.laid (t':=s.toks) (o:= .tup (xs++ys)) (fun b ob q=>Heap.get?_push_of_some _ q) (Nat.le_refl _) ?_,rfl,q2 (fun w=>z (r2.u5.mpr w)) _ (I.aX.fresh (Nat.le_refl _))⟩
 exact⟨by rw[List.length_append];exact hz,_,r1.append r2,IsTup.new _ _⟩
end
end L2
namespace L2
open PySem PySem.Spec PyProof.Rows
def QJ (n:Nat) (i:Int):Option Nat:=if 0≤i then (if i<n then some i.toNat else none) else if -(n:Int)≤i then some (i+n).toNat else none
def xv {α:Type} (xs:List α) (i:Int):Option α:=(QJ xs.length i).bind fun j=>xs[j]?
theorem Ju {n:Nat} {i:Int} {j:Nat} (h:QJ n i=some j):seqIndex? i n=some j∧j<n∧ -(n:Int)≤i∧i<n:=by
 unfold QJ at h
 by_cases h0:0≤i
 ·rw[if_pos h0] at h
  by_cases h1:i<n
  ·rw[if_pos h1] at h
   have e:i.toNat=j:=Option.some.inj h
   exact⟨by rw[seqIndex_of h0 h1,e],by omega,by omega,h1⟩
  ·rw[if_neg h1] at h;cases h
 ·rw[if_neg h0] at h
  by_cases h1: -(n:Int)≤i
  ·rw[if_pos h1] at h
   have e:(i+n).toNat=j:=Option.some.inj h
   exact⟨by rw[seqIndex_neg (by omega) h1,e],by omega,h1,by omega⟩
  ·rw[if_neg h1] at h;cases h
theorem u6 {α:Type} {xs:List α} {i:Int} {v:α} (h:xv xs i=some v):∃j,seqIndex? i xs.length=some j∧xs[j]? =some v∧j<xs.length∧ -(xs.length:Int)≤i∧i<xs.length:=by
 unfold xv at h
 cases e:QJ xs.length i with
 |none=>rw[e] at h;cases h
 |some j=>
  rw[e] at h
  obtain⟨h1,h2,h3,h4⟩:=Ju e
  exact⟨j,h1,h,h2,h3,h4⟩
theorem pD {α:Type} {xs:List α} {j:Nat} {v:α} (h:xs[j]? =some v):xv xs (j:Int)=some v:=by
 have hj:j<xs.length:=(List.getElem?_eq_some_iff.mp h).1
 have e:QJ xs.length (j:Int)=some j:=by
  unfold QJ
  rw[if_pos (by omega),if_pos (by omega)];simp
 unfold xv;rw[e];exact h
def Jv (b:Expr):Prop:=∀o i,subscripted b false o i=operate [o,i] (getItem o i)
def RK (X:Cx) (r:R2):Prop:=
 ∀(value slice:Expr) (pins:List (Addr×Obj)) (s:Shared) (σ:St) (H:Hp) (x y:V) (v u:Value) (Q:VK),Inv X pins σ H s→RelV x v→RelV y u→r x y H Q→
  subscripted slice false v u=operate [v,u] (getItem v u)→wpAny (model X.prog X.w) X.A (subscriptTail value slice v u) (EP X pins σ Q) X.xe s
def MtR (X:Cx) (id:String) (r:V→List V→Hp→VK→Prop):Prop:=
 ∀(pins:List (Addr×Obj)) (s:Shared) (σ:St) (H:Hp) (x:V) (xs:List V) (v:Value) (us:List Value) (Q:VK),Inv X pins σ H s→RelV x v→Vals xs us→r x xs H Q→
  wpAny (model X.prog X.w) X.A (call (.builtin id) (v::us)) (EP X pins σ Q) X.xe s
section
variable {X:Cx} {a b:Expr} {ta tb:TE} {pos:Pos}
theorem cF {r:R2} (hr:RK X r) (ha:PE X a ta) (hb:PE X b tb) (hs:Jv b):PE X (.Subscript a b pos) (Nq r ta tb):=by
 intro pins s σ H Q I h
 exact Subscript_ (Nr ha hb I h fun v u s2 x y H2 I2 rx ry q=>hr a b pins s2 σ H2 x y v u Q I2 rx ry q (hs _ _))
def ZO (K:PySem.W.Frag):R2:=fun x y H Q=>∃p xs i v,x= .ref p∧y= .int i∧bS K H p xs∧xv xs i=some v∧Q v H
def RL (K:PySem.W.Frag):R2:=fun x y H Q=>∃p xs i v,x= .ref p∧y= .int i∧jL K H p xs∧xv xs i=some v∧Q v H
def ZP:R2:=fun x y H Q=>∃z i c,x= .str z∧y= .int i∧z.length≤sizeLine∧xv z.cps.toList i=some c∧Q (.str ⟨#[c]⟩) H
theorem cH:RK X (ZO X.K):=by
 intro value slice pins s σ H x y v u Q I rx ry h hs
 obtain⟨p,xs,i,z,rfl,rfl,hq,he,q⟩:=h
 cases rx
 obtain⟨t,rfl⟩:=ry
 obtain⟨its,r,pl,hz⟩:=I.list hq
 obtain⟨j,h1,h2,h3,h4,h5⟩:=u6 he
 obtain⟨w,ew,ES⟩:=r.get h2
 have hl:=r.length
 have hn:=nU
 have fin:EP X pins σ Q w s:=⟨z,H,I,ES,q⟩
 by_cases h0:0≤i
 ·have hj:i.toNat=j:=by
   rw[seqIndex_of h0 h5] at h1
   exact Option.some.inj h1
  exact item_listR pl.isList h0 (by omega) (by rw[hj];simpa using ew) fin hs
 ·have hj:(i+(its.toArray.size:Int)).toNat=j:=by
   rw[seqIndex_neg (by omega) h4] at h1
   rw[List.size_toArray,←hl]
   exact Option.some.inj h1
  exact subscriptTail_builtinR (x:=w) pl.isList.typeIs slot_list_getitem.lookup
   (wpAny_getItem_list_neg (Q:=fun r s'=>r=w∧EP X pins σ Q r s') pl.isList (by omega) (by rw[List.size_toArray]<;>omega) (by omega) (by rw[hj];simpa using ew) ⟨rfl,fin⟩) hs
theorem jV:RK X (RL X.K):=by
 intro value slice pins s σ H x y v u Q I rx ry h hs
 obtain⟨p,xs,i,z,rfl,rfl,hq,he,q⟩:=h
 cases rx
 obtain⟨t,rfl⟩:=ry
 obtain⟨its,r,pl,hz⟩:=I.tuple hq
 obtain⟨j,h1,h2,h3,h4,h5⟩:=u6 he
 obtain⟨w,ew,ES⟩:=r.get h2
 have hl:=r.length
 have hn:=nU
 have fin:EP X pins σ Q w s:=⟨z,H,I,ES,q⟩
 exact subscriptTail_builtinR (x:=w) pl.typeIs slot_tuple_getitem.lookup
  (getItem_tuple (j:=j) (Q:=fun r s'=>r=w∧EP X pins σ Q r s') pl (by omega) (by omega) (by rw[List.size_toArray,←hl];exact h1) (by simpa using ew) ⟨rfl,fin⟩) hs
theorem u7:RK X ZP:=by
 intro value slice pins s σ H x y v u Q I rx ry h hs
 obtain⟨z,i,c,rfl,rfl,hz,he,q⟩:=h
 obtain⟨t,rfl⟩:=rx
 obtain⟨t',rfl⟩:=ry
 obtain⟨j,h1,h2,h3,h4,h5⟩:=u6 he
 have hl:z.cps.toList.length=z.length:=by simp [Str.length]
 rw[hl] at h1 h4 h5
 have hn:=nU
 exact tail_any (typeIs_str s z t) slot_str_getitem.lookup (getItem_str (c:=c) (by
  have e1:decide (i< -(2^63 :Int))=false:=decide_eq_false (by omega)
  have e2:decide (i≥2^63)=false:=decide_eq_false (by omega)
  rw[e1,e2,Bool.or_false]) (by rw[h1];simpa using h2) ⟨.str ⟨#[c]⟩,H,I.tok _,⟨_,rfl⟩,q⟩) hs
theorem fy:gX X (.builtin "len") (fun xs H Q=>∃p ys,xs=[.ref p]∧(bS X.K H p ys∨jL X.K H p ys)∧Q (.int ys.length) H):=by
 intro pins s σ H xs us Q I r h
 obtain⟨p,ys,rfl,hq,q⟩:=h
 obtain⟨u,rfl,rx⟩:=vals1 r
 cases rx
 have hn:=nU
 rcases hq with hq|hq
 ·obtain⟨its,r',pl,hz⟩:=I.list hq
  have hlen:=r'.length
  exact Calls.call_len_list pl.isList (by simp only [List.size_toArray]<;>omega) ⟨.int ys.length,H,I.tok _,⟨s.toks+1,by rw[List.size_toArray,hlen]⟩,q⟩
 ·obtain⟨its,r',pl,hz⟩:=I.tuple hq
  have hlen:=r'.length
  exact len_tuple pl (by simp only [List.size_toArray]<;>omega) ⟨.int ys.length,H,I.tok _,⟨s.toks+1,by rw[List.size_toArray,hlen]⟩,q⟩
theorem jj:gX X (.builtin "len") (fun xs H Q=>∃z,xs=[.str z]∧z.length≤sizeLine∧Q (.int z.length) H):=by
 intro pins s σ H xs us Q I r h
 obtain⟨z,rfl,hz,q⟩:=h
 obtain⟨u,rfl,t,rfl⟩:=vals1 r
 have hn:=nU
 exact len_str (by omega) ⟨.int z.length,H,I.tok _,⟨_,rfl⟩,q⟩
theorem fz:gX X (.type "list") (fun xs H Q=>∃p ys,xs=[.ref p]∧(bS X.K H p ys∨jL X.K H p ys)∧∀l,H l=none→Q (.ref l) (upd H l (.lst ys))):=by
 intro pins s σ H xs us Q I r h
 obtain⟨p,ys,rfl,hq,q⟩:=h
 obtain⟨u,rfl,rx⟩:=vals1 r
 cases rx
 have fin:∀(its:List Value),Vals ys its→ys.length≤sizeLine→∀(h':Heap) (c':Nat),(∀b o',s.heap.get? b=some o'→h'.get? b=some o')→
   h'.get? s.heap.objs.size=some { cls:= .type "list",dict:=none,data:= .seq its.toArray c',slots:=#[] }→EP X pins σ Q (.ref s.heap.objs.size) { s with heap:=h' }:=fun its r' hz h' c' kp e=>
  ⟨.ref s.heap.objs.size,_,I.laid (t':=s.toks) kp (Nat.le_refl _) (show cg X.prog X.w _ h' _ (.lst ys) from ⟨hz,its,c',r',e⟩),rfl,q _ (I.aX.fresh (Nat.le_refl _))⟩
 rcases hq with hq|hq
 ·obtain⟨its,r',pl,hz⟩:=I.list hq
  have hlen:=r'.length
  obtain⟨o,ho,hc,n,hd⟩:=pl.isList
  exact call_list_seq p (.inl rfl) ho hc hd (fun h' c' kp e=>fin its r' hz h' c' kp e) (by simp only [List.size_toArray]<;>omega)
 ·obtain⟨its,r',pl,hz⟩:=I.tuple hq
  have hlen:=r'.length
  obtain⟨o,ho,hc,n,hd⟩:=pl
  exact call_list_seq p (.inr rfl) ho hc hd (fun h' c' kp e=>fin its r' hz h' c' kp e) (by simp only [List.size_toArray]<;>omega)
def tyV (K:PySem.W.Frag) (T:String) (x:V) (H:Hp):Prop:=match x with
 | .str _=>T="str"
 | .int _=>T="int"
 | .ref p=>(T="list" ∧∃xs,bS K H p xs)∨(T="tuple" ∧∃o,K.lookup p=some o∧o.cls= .type "tuple" ∧o.dict=none)∨
   (T="dict" ∧((∃kvs,H p=some (.dK kvs))∨∃kvs,H p=some (.dT kvs)))∨(T="set" ∧∃S n,H p=some (.set S n))
 |_=>False
theorem NB {pins:List (Addr×Obj)} {σ:St} {H:Hp} {s:Shared} {T:String} {x:V} {v:Value} (I:Inv X pins σ H s) (r:RelV x v) (ty:tyV X.K T x H):
  s.TypeIs v T∧∀a,v= .ref a→∃ob,s.heap.get? a=some ob∧ob.dict=none:=by
 cases x with
 |str z=>
  obtain⟨t,rfl⟩:=r
  cases (show T="str" from ty)
  exact⟨typeIs_str s z t,fun _ e=>nomatch e⟩
 |int i=>
  obtain⟨t,rfl⟩:=r
  cases (show T="int" from ty)
  exact⟨typeIs_int s i t,fun _ e=>nomatch e⟩
 |ref p=>
  cases r
  rcases ty with ⟨rfl,xs,hq⟩ | ⟨rfl,o,hk,hc,hd⟩ | ⟨rfl,hk⟩ | ⟨rfl,S,n,hk⟩
  ·obtain⟨its,_,pl,_⟩:=I.list hq
   refine⟨pl.isList.typeIs,fun a e=>?_⟩
   cases e
   obtain⟨o,n,e,c,hd,_⟩:=pl
   exact⟨o,e,hd⟩
  ·refine⟨⟨o,I.jd p o hk,hc⟩,fun a e=>?_⟩
   cases e
   exact⟨o,I.jd _ o hk,hd⟩
  ·have z:∃o,s.heap.get? p=some o∧o.ExactDict:=by
    rcases hk with ⟨kvs,hk⟩ | ⟨kvs,hk⟩
    ·obtain⟨_,_,_,_,o,_,_,e,ex,_⟩:=I.aX p _ hk
     exact⟨o,e,ex⟩
    ·obtain⟨_,_,_,_,o,_,_,e,ex,_⟩:=I.aX p _ hk
     exact⟨o,e,ex⟩
   obtain⟨o,e,ex⟩:=z
   refine⟨⟨o,e,ex.1⟩,fun a e2=>?_⟩
   cases e2
   exact⟨o,e,ex.2.1⟩
  ·obtain⟨o,_,_,_,e,ex,_⟩:=I.aX p _ hk
   refine⟨⟨o,e,ex.1⟩,fun a e2=>?_⟩
   cases e2
   exact⟨o,e,ex.2.1⟩
 |_=>exact False.elim ty
def tBM (K:PySem.W.Frag) (T:String) (r:V→List V→Hp→VK→Prop) (to:TE) (t:TA):TE:=fun σ H Q=>to σ H fun x H1=>tyV K T x H1∧t σ H1 fun xs H2=>r x xs H2 Q
variable {o e:Expr} {es:List Expr} {to:TE} {t:TA} {name:Str} {apos gY:Pos} {T id:String} {r:V→List V→Hp→VK→Prop}
theorem iB (pa:PlainAttrs T) (slot:Slot T name id) (hty:typeOf (.builtin id)=pure (.type "method_descriptor")) (hm:MtR X id r) (ho:PE X o to) (ha:PA X (e::es) t)
  (RM:attributeBase o name X.env (eval o X.env)=eval o X.env:=by rfl)
  (ZQ:((backTo gY (starEach (e::es) X.env)).all (fun x=>!x.1)&&(backToKw gY (keywordEach [] X.env)).all (fun x=>x.1.isSome)
   &&decide ((e::es).length+([]:List Keyword).length+(if ([]:List Keyword).isEmpty then 0 else 1) <30))=true:=by rfl)
  (EX:(apos.endLine==gY.line)=true:=by rfl) (hs:starEach (e::es) X.env=(false,eval e X.env)::starEach es X.env:=by rfl) (NC:(backTo gY (starEach es X.env)).any (·.1)=false:=by rfl):
  PE X (.Call (.Attribute o name apos) (e::es) [] gY) (tBM X.K T r to t):=by
 intro pins s σ H Q I h
 refine wpAny_Call_method_late RM ZQ EX rfl (bV (ho pins s σ H _ I h) fun v s1 ⟨x,H1,I1,r1,ty,q1⟩=>?_)
 obtain⟨h1,h2⟩:=NB I1 r1 ty
 refine⟨T,id,pa,slot,hty,h1,h2,?_⟩
 have hA:=ha gY pins s1 σ H1 _ I1 q1
 rw[hs] at hA ⊢
 refine Calls.callWith_builtin (by show (false||(backTo gY (starEach es X.env)).any (·.1))=false;rw[NC]<;>rfl) (Calls.evalArgs_plain ?_)
 exact bV hA fun us s2 ⟨vs,H2,I2,r2,q2⟩=>hm pins s2 σ H2 x vs v us Q I2 r1 r2 q2
end
end L2
namespace L2
open PySem PySem.Spec PyProof.Rows
def MtM (X:Cx) (id:String) (r:V→List V→Hp→VK→Prop):Prop:=
 ∀(pins:List (Addr×Obj)) (s:Shared) (σ:St) (H:Hp) (x:V) (xs:List V) (v:Value) (us:List Value) (Q:VK),Inv X pins σ H s→RelV x v→Vals xs us→r x xs H Q→
  wpAny (model X.prog X.w) X.A (call (.builtin id) (v::us)) (EP X pins σ Q) X.xe s
theorem Vals.one:∀{x:V} {us:List Value},Vals [x] us→∃u,us=[u]∧RelV x u
 |_,_, .cons r .nil=>⟨_,rfl,r⟩
theorem Vals.reverse {xs:List V} {us:List Value} (h:Vals xs us):Vals xs.reverse us.reverse:=by
 induction h with
 |nil=>exact .nil
 |cons r t ih=>rw[List.reverse_cons,List.reverse_cons];exact Vals.append ih (.cons r .nil)
section
variable {X:Cx} {pins:List (Addr×Obj)} {σ:St} {H:Hp} {s:Shared} {l b:Addr} {xs ys zs:List V}
theorem Inv.RN {its its':List Value} {n:Nat} {f:Array Value→Array Value} {t':Nat} (I:Inv X pins σ H s) (hH:H l=some (.lst xs))
  (e:s.heap.get? l=some { cls:= .type "list",data:= .seq its.toArray n }) (hf:f its.toArray=its'.toArray) (hv:Vals ys its') (hz:ys.length≤sizeLine):
  Inv X pins σ (upd H l (.lst ys)) { s with heap:=s.heap.update l (Obj.mapSeq f),toks:=t' }:=by
 have q:=PySem.IsL.update e f
 rw[hf] at q
 refine I.write (x:=l) (e:=l) (by rw[hH];exact trivial) (.inl rfl) (fun b' u hb hu=>(Heap.get?_update_other s.heap (Obj.mapSeq f) (Ne.symm hb)).trans hu) ⟨_,q⟩ ?_
 exact⟨hz,its',_,hv,q⟩
theorem Inv.RO {its:List Value} {t':Nat} (I:Inv X pins σ H s) (hv:Vals ys its) (hz:ys.length≤sizeLine):
  Inv X pins σ (upd H s.heap.objs.size (.lst ys)) { s with heap:=s.heap.push { cls:= .type "list",data:= .seq its.toArray },toks:=t' }:=
 I.laid (fun _ _ q=>Heap.get?_push_of_some _ q) (Nat.le_refl _) ⟨hz,its,0,hv,Heap.get?_push_size _ rfl⟩
theorem Inv.fresh (I:Inv X pins σ H s):H s.heap.objs.size=none:=I.aX.fresh (Nat.le_refl _)
theorem Inv.CG (I:Inv X pins σ H s) (hH:H l=some (.lst xs)):xs.length≤sizeLine∧∃(its:List Value) (n:Nat),Vals xs its∧xs.length=its.length∧s.heap.get? l=some { cls:= .type "list",data:= .seq its.toArray n }:=by
 obtain⟨z,its,n,r,e⟩:=I.aX l _ hH
 exact⟨z,its,n,r,r.length,e⟩
theorem EY {n:Nat} (h:n≤sizeLine):Builtin.List.listTooLong n=false:=by
 unfold Builtin.List.listTooLong
 exact decide_eq_false (by omega)
end
section
variable {X:Cx}
def Jw:V→List V→Hp→VK→Prop:=fun x vs H Q=>∃l xs y,x= .ref l∧vs=[y]∧H l=some (.lst xs)∧xs.length<sizeLine∧Q .cI (upd H l (.lst (xs++[y])))
theorem dv:MtM X "list.append" Jw:=by
 intro pins s σ H x vs v us Q I rx rv h
 obtain⟨l,xs,y,rfl,rfl,hH,hz,q⟩:=h
 cases rx
 obtain⟨u,rfl,ru⟩:=rv.one
 obtain⟨z,its,n,r,hl,e⟩:=I.CG hH
 refine call_meets F.slot_list_append ⟨_,e,rfl⟩ F.entry_list_append (F.args_list_append_2 _ _) (PySem.list_append l its.toArray n u (by rw[List.size_toArray];omega)) ⟨e,?_⟩
 refine⟨.cI,_,I.RN (its':=its++[u]) hH e (by simp) (r.append (.cons ru .nil)) ?_,rfl,q⟩
 rw[List.length_append,List.length_singleton]
 omega
def Jx:V→List V→Hp→VK→Prop:=fun x vs H Q=>∃l b xs zs,x= .ref l∧vs=[.ref b]∧H l=some (.lst xs)∧H b=some (.lst zs)∧xs.length+zs.length≤sizeLine∧Q .cI (upd H l (.lst (xs++zs)))
theorem CH:MtM X "list.extend" Jx:=by
 intro pins s σ H x vs v us Q I rx rv h
 obtain⟨l,b,xs,zs,rfl,rfl,hH,hB,hz,q⟩:=h
 cases rx
 obtain⟨u,rfl,ru⟩:=rv.one
 cases ru
 obtain⟨z,its,n,r,hl,e⟩:=I.CG hH
 obtain⟨z2,xu,n2,r2,wZ,e2⟩:=I.CG hB
 have hsz:its.toArray.size+xu.toArray.size≤sizeLine:=by rw[List.size_toArray,List.size_toArray];omega
 have RP:¬(!its.toArray.isEmpty&&Builtin.List.listTooLong (its.toArray.size+xu.toArray.size))=true:=by
  rw[EY hsz,Bool.and_false]
  exact Bool.false_ne_true
 refine call_meets F.slot_list_extend ⟨_,e,rfl⟩ F.entry_list_extend (F.args_list_extend_2 _ _)
  (AutoSeq1.list_extend_list_list_0 l its.toArray n b xu.toArray n2 RP (by rw[List.size_toArray];omega) (by omega)) ⟨e,e2,?_⟩
 refine⟨.cI,_,I.RN (its':=its++xu) hH e (by simp) (r.append r2) ?_,rfl,q⟩
 rw[List.length_append]
 omega
def ZR:R2:=fun x y H Q=>∃l b xs zs,x= .ref l∧y= .ref b∧H l=some (.lst xs)∧H b=some (.lst zs)∧xs.length+zs.length≤sizeLine∧∀p,H p=none→Q (.ref p) (upd H p (.lst (xs++zs)))
theorem nW:oW X (binaryOp .Add) ZR:=by
 intro pins s σ H x y v u Q I rx ry h
 obtain⟨l,b,xs,zs,rfl,rfl,hH,hB,hz,q⟩:=h
 cases rx
 cases ry
 obtain⟨z,its,n,r,hl,e⟩:=I.CG hH
 obtain⟨z2,xu,n2,r2,wZ,e2⟩:=I.CG hB
 refine PySem.P.add_list e e2 ?_ (by rw[List.size_toArray,List.size_toArray];omega)
 have ea:its.toArray++xu.toArray=(its++xu).toArray:=by simp
 rw[ea]
 exact⟨.ref _,_,I.RO (t':=s.toks) (r.append r2) (by rw[List.length_append];omega),rfl,q _ I.fresh⟩
end
section
variable {prog:Program} {w:World} {A:Around} {E:Value→Shared→Prop} {s:Shared}
end
section
variable {X:Cx}
end
end L2
namespace Att
open PySem PySem.W PySem.Calls PyProof.Rows
theorem ph {P:Params} {h:Heap}:∀(ns:List Int) (vs:List Value),WellAll P h vs (ns.map WData.int)→IntsAre vs ns:=by
 intro ns
 induction ns with
 |nil=>
  intro vs w
  rw[List.map_nil] at w
  cases w
  exact .nil
 |cons n ns ih=>
  intro vs w
  rw[List.map_cons] at w
  cases w with
  |cons a b=>
   cases a
   exact .cons _ _ (ih _ b)
theorem CI {l:OpenLaw} {n:Nat} (hn:l.most=some n) {P:Params} {h:Heap} {args:List WData} {vals:List Value}
  (Jy:l.row.toRowW.claim.pre args=true) (QK:WellAll P h vals args):
  ∃a vs ns,vals=[Value.ref a]∧args=[WData.list (ns.map WData.int)]∧h.get? a=some { cls:= .type "list",data:= .seq vs.toArray }∧IntsAre vs ns∧ns.length≤n:=by
 have YC:WShape.hasAll [] args [.list .int]=true:=(pre_splitW Jy).1
 have hc:l.pre.holds [] { args:=args }=true:=(pre_splitW Jy).2
 obtain⟨d,r,rfl,h1,h2⟩:=hasAllW_cons YC
 obtain rfl:=hasAllW_nil h2
 obtain⟨xs,rfl,h3⟩:=hasW_list h1
 obtain⟨ns,rfl⟩:=items_int h3
 have hlen:ns.length≤n:=by
  unfold OpenLaw.pre at hc
  have h4:(WTm.not (.lt (.lit (.int (n:Int))) (.len (.arg 0)))).holds [] { args:=[.list (ns.map .int)] }=true:=by
   have h4:=(holds_andW hc).1
   rw[hn] at h4
   exact h4
  have h5:=condW_of h4 (w_not (w_lt w_lit (w_len_list (w_arg rfl))))
  rw[List.length_map] at h5
  refine Nat.le_of_not_lt fun q=>?_
  have q':(n:Int) < ((ns.length:Nat):Int):=by omega
  first
   | (rw[decide_eq_true q'] at h5;exact absurd h5 (by decide))
   | (simp at h5;omega)
 cases QK with
 |cons w1 w2=>
  cases w2
  cases w1 with
  |list ho Nz=>exact⟨_,_,ns,rfl,rfl,ho,ph ns _ Nz,hlen⟩
theorem CJ (l:OpenLaw) (args:List WData):l.row.toRowW.claim.post args (.bool true) args=true:=
 postW_of (r:=l.row.toRowW) (X:=(true==true))
  (show WShape.has [] (.bool true) .bool=true by first|rfl|decide|simp [WShape.has,WShape.arms,WShape.armsAll])
  (show (WTm.eq .res (.lit (.bool true))).value [] { args:=args,res:=some (.bool true),after:=args }=some (.bool (true==true)) from w_eq_bool (w_res rfl) w_lit) rfl
theorem xw {l:OpenLaw} {n:Nat} {q:Program} {loose:List Str} {XP:(Str→Option Value)→Heap→Prop} {YP:World→Heap→Prop} {d:DefRec}
  (hn:l.most=some n) (RQ:d.params.defaults=[])
  (call:∀(w:World) (s₀ s₁:Shared) (mg mb:Str→Option Value) (fa:Addr) (o:Obj) (pm cd doc:Value) (a:Addr) (vs:List Value) (ns:List Int),
   Ground q loose [] XP w s₀ mg mb s₁.heap→YP w s₁.heap→
   s₁.heap.get? fa=some o→o.data= .func (docDef d.name d.params d.body d.scope pm cd doc)→s₁.heap.CodeRec cd d.name→mg d.name=some (.ref fa)→
   s₁.heap.get? a=some { cls:= .type "list",data:= .seq vs.toArray }→IntsAre vs ns→ns.length≤n→s₁.gens=#[]→
   codeAny (model l.prog w) callerA (.call (.ref fa) ⟨[.ref a],[]⟩) (fun r s'=>r= .ok (.ret (.bool true))∧OldK s₁.heap s'.heap∧s'.os=s₁.os∧AllBare s'.gens) s₁):
  WalkO q loose XP YP l.row.toRowW d [] (fun f vs=>PySem.call f vs):=by
 intro w s₀ s₁ mg mb G Y fa o pm cd doc dV kV ho hd oS hD RS hg args vals as Jy hlay hrd QK QL
 obtain rfl:dV= .none:=Dflts.none hD RQ
 obtain rfl:kV= .none:=Dflts.noKw hD
 obtain⟨a,vs,ns,rfl,rfl,ND,hints,hlen⟩:=CI hn Jy QK
 refine enter_call (codeAny_mono (call w s₀ s₁ mg mb fa o pm cd doc a vs ns G Y ho (fd_plain hd) oS RS ND hints hlen hg) fun r s' hq=>?_)
 obtain⟨rfl,h2,h3,h4⟩:=hq
 exact⟨.inl ⟨.bool true, .bool true,[],rfl,fun _=>rfl, .bool true,CJ l _,fun _=>⟨List.Pairwise.nil,fun _ hm=>(nomatch hm)⟩⟩,h2,h3,h4⟩
section
variable {prog:Program} {w:World} {A:Around} {E:Value→Shared→Prop} {s:Shared} {K:Frag}
end
end Att
namespace L2
open PySem PySem.Spec PyProof.Rows
theorem ti:∀{vs:List Value} {ns:List Int},IntsAre vs ns→Vals (ns.map V.int) vs
 |_,_, .nil=> .nil
 |_,_, .cons n t h=> .cons ⟨t,rfl⟩ (ti h)
def NG (H:Hp):Prop:=∀b,H b=none∨∃o xs,H b=some (.eC o (.lst xs))
theorem EZ {P:Program} {w:World} {K:PySem.W.Frag} {mg mb:Str→Option Value} {CX:AM} {k:Nat} {fa a:Addr} {fd:FuncData} {x:Str} {sp:Sp} {s₁:Shared} {vs:List Value} {ns:List Int}
  (KX:K.In s₁.heap) (yK:s₁.heap.Ns mainGlobals mg) (hb:s₁.heap.Ns builtinsNs mb) (hbb:∀x:Str,x≠"__name__" →mb x=bootBuiltins x) (ZS:s₁.heap.NoLimit) (hg:s₁.gens=#[])
  (ha:s₁.heap.get? a=some { cls:= .type "list",data:= .seq vs.toArray }) (hi:IntsAre vs ns) (hl:ns.length≤sizeLine) (hr:cP k callerA)
  (F:∀base:Heap,K.In base→base.Ns mainGlobals mg→fw P w K mg base CX k fa fd [x] sp) (RT:∀(s:Shared) (u:Value),BindsTo s fd ⟨[u],[]⟩ [(x,u)])
  (AN:∀H:Hp,NG H→bS K H a (ns.map V.int)→sp [.ref a] H (fun v _=>v= .bl true) fun _ _ _=>False)
  (ZT:∀H e s',CX [] H s₁ (fun _ _ _=>False) e s'→False):
  codeAny (model P w) callerA (.call (.ref fa) ⟨[.ref a],[]⟩) (fun r s'=>r= .ok (.ret (.bool true))∧OldK s₁.heap s'.heap∧s'.os=s₁.os∧AllBare s'.gens) s₁:=by
 have rv:=ti hi
 have ZU:=hi.length
 have core:∀H:Hp,NG H→bS K H a (ns.map V.int)→jQ P w H s₁.heap→(∀b,H b≠none→b=a)→(H a≠none→K.lookup a=none)→
   codeAny (model P w) callerA (.call (.ref fa) ⟨[.ref a],[]⟩) (fun r s'=>r= .ok (.ret (.bool true))∧OldK s₁.heap s'.heap∧s'.os=s₁.os∧AllBare s'.gens) s₁:=by
  intro H hO hS aX hA hK
  have base_of:∀{b:Addr} {o:Obj},s₁.heap.get? b=some o→H b=none→(uJ s₁.heap H).get? b=some o:=fun e n=>EA e n
  have RA:∀{b:Addr} {o:Obj} {es:Array DictEntry} {ep:Nat},s₁.heap.get? b=some o→o.data= .dict es ep→H b=none:=fun {b o es ep} e d=>by
   cases q:H b with
   |none=>rfl
   |some u=>
    have e':b=a:=hA b (by rw[q];simp)
    subst e'
    rw[ha] at e;cases e
    have d':Data.seq vs.toArray _=Data.dict es ep:=d
    cases d'
  have YD:∀{b:Addr} {m:Str→Option Value},s₁.heap.Ns b m→(uJ s₁.heap H).Ns b m:=fun {b m} ⟨o,es,ep,e,d,r⟩=>⟨o,es,ep,base_of e (RA e d),d,r⟩
  have hKb:K.In (uJ s₁.heap H):=fun b o e=>base_of (KX b o e) (by
   cases q:H b with
   |none=>rfl
   |some u=>
    have e':b=a:=hA b (by rw[q];simp)
    subst e'
    rw[hK (by rw[q];simp)] at e;cases e)
  have hM:Mod K mg (uJ s₁.heap H):=⟨hKb,YD yK,⟨mb,YD hb,hbb⟩,let ⟨mc,h1,h2⟩:=ZS;⟨mc,YD h1,h2⟩⟩
  have e0:y8 P w K mg (uJ s₁.heap H) callerA [] s₁ H:=⟨rfl,hM,fun b o e=>Jf e,Nat.le_of_eq (Ct _ _),trivial,fun b hb=>absurd (show b∈([]:List Addr) from hb) (by simp),aX, .of_eq hg⟩
  refine codeAny_mono ((F _ hKb (YD yK)).run callerA [] s₁ H ⟨[.ref a],[]⟩ [.ref a] [.ref a] _ _ hr e0 (RT s₁ (.ref a)) (.cons rfl .nil) (AN H hO hS)) fun r s' h=>?_
  cases r with
  |error e=>exact(ZT H e s' h).elim
  |ok fl=>
   cases fl with
   |next=>exact False.elim h
   |brk=>exact False.elim h
   |cont=>exact False.elim h
   |ret u=>
    obtain⟨v,H',os,bare,un,ZV,r',q⟩:=h
    have q':v= .bl true:=q
    subst q'
    obtain rfl:u=Value.bool true:=r'
    refine⟨rfl,OldK.of_keep fun b o e=>?_,os,bare⟩
    cases q:H b with
    |none=>exact un.keep b o e q (by intro z;exact absurd (show b∈([]:List Addr) from z) (by simp)) (by simp)
    |some u=>
     rcases hO b with z| ⟨ob,xs,z⟩
     ·rw[q] at z;cases z
     ·have z2:=un.nP b ob _ z
      obtain⟨e1,_⟩:=aX b _ z
      obtain⟨e2,_⟩:=ZV b _ z2
      rw[e] at e1;cases e1
      exact e2
 cases hk:K.lookup a with
 |some o=>
  have e:=KX a o hk
  rw[ha] at e
  cases e
  refine core (fun _=>none) (fun _=> .inl rfl) (.inr ⟨_,vs.toArray,_,hk,rfl,rfl,rfl,by rw[List.size_toArray,ZU];exact hl,by simpa using rv⟩) (fun b u z=>by have z':(none:Option HO)=some u:=z;cases z') (fun b z=>absurd rfl z) fun z=>absurd rfl z
 |none=>
  refine core (fun b=>if b=a then some (.eC { cls:= .type "list",data:= .seq vs.toArray } (.lst (ns.map V.int))) else none) (fun b=>?_) (.inl (.inr ⟨{ cls:= .type "list",data:= .seq vs.toArray },if_pos rfl⟩)) (fun b u z=>?_) (fun b z=>?_) fun _=>hk
  ·by_cases hb:b=a
   ·exact .inr ⟨_,_,if_pos hb⟩
   ·exact .inl (if_neg hb)
  ·by_cases hb:b=a
   ·have z':=(if_pos hb).symm.trans z
    cases z'
    subst hb
    exact⟨ha,by rw[List.length_map];exact hl,vs,_,rv,ha⟩
   ·have z':=(if_neg hb).symm.trans z
    cases z'
  ·by_cases hb:b=a
   ·exact hb
   ·exact absurd (if_neg hb) z
end L2
namespace L2
open PySem PySem.Spec PyProof.Rows
theorem Jz {l:PySem.W.OpenLaw} {n k:Nat} {q:Program} {loose:List Str} {XP:(Str→Option Value)→Heap→Prop} {YP:World→Heap→Prop} {d:DefRec} {K:Params→PySem.W.Frag} {CX:World→AM} {sp:World→Sp} {x:Str}
  (hn:l.most=some n) (LW:n≤sizeLine) (RQ:d.params.defaults=[]) (hr:cP k callerA)
  (hY:∀(w:World) (h:Heap),YP w h→(K w.params).In h)
  (F:∀(w:World) (mg:Str→Option Value) (fa:Addr) (h:Heap),(K w.params).In h→h.Ns mainGlobals mg→mg d.name=some (.ref fa)→
   ∃fd:FuncData,(∀(s:Shared) (u:Value),BindsTo s fd ⟨[u],[]⟩ [(x,u)])∧
    ∀base:Heap,(K w.params).In base→base.Ns mainGlobals mg→fw l.prog w (K w.params) mg base (CX w) k fa fd [x] (sp w))
  (AN:∀(w:World) (H:Hp) (a:Addr) (ns:List Int),ns.length≤n→NG H→bS (K w.params) H a (ns.map V.int)→sp w [.ref a] H (fun v _=>v= .bl true) fun _ _ _=>False)
  (ZT:∀(w:World) (H:Hp) (s:Shared) (e:Value) (s':Shared),CX w [] H s (fun _ _ _=>False) e s'→False):
  PySem.W.WalkO q loose XP YP l.row.toRowW d [] (fun f vs=>PySem.call f vs):=by
 refine Att.xw hn RQ fun w s₀ s₁ mg mb fa o pm cd doc a vs ns G Y ho hd oS RS ND hints hlen hg=>?_
 have KX:=hY w _ Y
 obtain⟨fd,hb,hF⟩:=F w mg fa _ KX G.T.g RS
 exact EZ KX G.T.g G.T.b G.T.builtins G.T.nolimit hg ND hints (Nat.le_trans hlen LW) hr hF hb (fun H hO hS=>AN w H a ns hlen hO hS) fun H e s'=>ZT w H s₁ e s'
end L2
namespace L2
open PySem PySem.Spec PyProof.Rows
def inClass (s:Stmt) (j:Nat):Stmt:=match s with
 | .ClassDef _ _ _ body _ _ _ _ _ _ _=>body.getD j (.Pass ⟨0,0,0,0⟩)
 |_=> .Pass ⟨0,0,0,0⟩
def bq (s:Stmt):Arguments:=match s with
 | .FunctionDef _ a _ _ _ _ _ _ _ _=>a
 |_=>{ posonlyargs:=[],args:=[],vararg:=none,kwonlyargs:=[],kw_defaults:=[],kwarg:=none,defaults:=[] }
def aU (s:Stmt):List Stmt:=match s with
 | .FunctionDef _ _ b _ _ _ _ _ _ _=>b
 |_=>[]
def aj (s:Stmt):Scope:=match s with
 | .FunctionDef _ _ _ _ _ _ sc _ _ _=>sc
 |_=>{ kind:= .function,names:=[],isGenerator:=false,isCoroutine:=false }
abbrev qu:AM:=fun _ _ _ _ _ _=>False
abbrev E0:XK:=fun _ _ _=>False
theorem aA {X:Cx}:Passes qu X E0:=fun _ _ _ _ _ _ _ h=>h.elim
structure Eo (K:PySem.W.Frag) (x qual:Str) (st:Stmt) (f:Addr) (fd:FuncData):Prop where
 ex:∃(oc:Value) (od:Option Addr) (kV doc pm:Value) (an:Option Addr) (bg ct:Value) (r8:Array (Option Value)),
  fd=PySem.W.fnOf x qual (bq st) (aU st) (aj st) .none kV doc pm an bg ct∧K.lookup f=some ⟨oc,od, .func fd,r8⟩∧PySem.W.codeIn K bg qual=true
 kp:PySem.W.keepIn K (.ref f)=true
section
variable {P:Program} {w:World} {K:PySem.W.Frag} {mg:Str→Option Value} {base:Heap}
theorem Eo.ok {x qual:Str} {st:Stmt} {f:Addr} {fd:FuncData} {N ps:List Str} {k:Nat} {sp:Sp} (F:Eo K x qual st f fd) (S:ay N ps (aj st)) (len:∀vs H Q E,sp vs H Q E→vs.length=ps.length)
  (dm:∀(bg:Value) (A:Around) (outer:List Env) (s:Shared) (H:Hp) (vs:List V) (Q:VK) (E:XK),cP k (A.deeper (envOfC qual (aj st) s.heap.objs.size f bg))→sp vs H Q E→
   ∃t,lO (ji qu P w K mg base N qual (aj st) f bg A outer s H E).EF (aU st) t∧t { nx:=fun _ H'=>Q .cI H',rt:=Q } (start N vs) H):fw P w K mg base qu (k+1) f fd ps sp:=by
 obtain⟨oc,od,kV,doc,pm,an,bg,ct,r8,rfl,lk,oS⟩:=F.ex
 refine fn_of lk oS S len fun A outer s H vs Q E hr AN=>?_
 obtain⟨t,h,q⟩:=dm bg A outer s H vs Q E hr AN
 exact⟨t,h.EF,q⟩
theorem Eo.binds {x qual:Str} {st:Stmt} {f:Addr} {fd:FuncData} {ps:List Str} (F:Eo K x qual st f fd)
  (h:∀(kV doc pm:Value) (an:Option Addr) (bg ct:Value) (us:List Value),us.length=ps.length→bindArgs (PySem.W.fnOf x qual (bq st) (aU st) (aj st) .none kV doc pm an bg ct) ⟨us,[]⟩=pure (ps.zip us)):Binds K fd ps []:=by
 obtain⟨oc,od,kV,doc,pm,an,bg,ct,r8,rfl,lk,oS⟩:=F.ex
 exact .all (h kV doc pm an bg ct)
theorem NH {x qual:Str} {st:Stmt} {f:Addr} {oc:Value} {od an:Option Addr} {r8:Array (Option Value)} {kV doc pm bg ct:Value} (l:K.lookup f=some ⟨oc,od, .func (PySem.W.fnOf x qual (bq st) (aU st) (aj st) .none kV doc pm an bg ct),r8⟩)
  (c:PySem.W.codeIn K bg qual=true) (k:PySem.W.keepIn K (.ref f)=true):Eo K x qual st f (PySem.W.fnOf x qual (bq st) (aU st) (aj st) .none kV doc pm an bg ct):=⟨⟨oc,od,kV,doc,pm,an,bg,ct,r8,rfl,l,c⟩,k⟩
end
theorem dn {A:Around} {k:Nat} (hr:cP k A):A.units+1<cLine:=Nat.lt_of_le_of_lt (Nat.add_le_add_left (by decide:1≤64) _) hr.units
theorem kL {n:Nat} (h:n≤1000):n<sizeLine:=Nat.lt_of_le_of_lt h (by decide)
section
variable {X:Cx}
theorem pv (i:Nat) {x:Str} {pos:Pos} (hN:X.N[i]? =some x:=by rfl) (hv:Zp X.env.scope x:=by first|exact Or.inl rfl|exact Or.inr (Or.inl rfl) |exact Or.inr (Or.inr rfl)) (hd:(x==("__debug__" :Str))=false:=by decide)
  (oS:(x==("__classdict__" :Str))=false:=by decide):PE X (.Name x pos) (jS i):=Ni hN hv hd oS
end
theorem d7 {A B:Prop} (h:B):if false=true then A else B:=by
 rw[if_neg Bool.false_ne_true]
 exact h
theorem eQ {A B:Prop} (h:A):if true=true then A else B:=by
 rw[if_pos rfl]
 exact h
theorem dY {c A B:Prop} [Decidable c] (h1:c→A) (h2:¬c→B):if c then A else B:=by
 by_cases h:c
 ·rw[if_pos h]
  exact h1 h
 ·rw[if_neg h]
  exact h2 h
theorem E1 {c A B:Prop} [Decidable c] (hc:c) (h:B):if (!decide c)=true then A else B:=by
 rw[decide_eq_true hc]
 exact d7 h
def au (H H':Hp):Prop:=∀b o,H b=some o→H' b=some o
theorem au.refl (H:Hp):au H H:=fun _ _ h=>h
theorem au.trans {H H1 H2:Hp} (a:au H H1) (b:au H1 H2):au H H2:=fun c o h=>b c o (a c o h)
theorem au.seq {K:PySem.W.Frag} {H H':Hp} {a:Addr} {xs:List V} (e:au H H') (h:bS K H a xs):bS K H' a xs:=by
 rcases h with (h| ⟨o,h⟩) |h
 ·exact .inl (.inl (e _ _ h))
 ·exact .inl (.inr ⟨o,e _ _ h⟩)
 ·exact .inr h
section
variable {κ:Type} [DecidableEq κ]
theorem mv {kvs:List (κ×V)} {k:κ} (h:bX kvs k=none):¬k∈kvs.map (·.1):=by
 intro m
 obtain⟨p,hp,e⟩:=List.mem_map.mp m
 have q:(kvs.any fun kv=>decide (kv.1=k))=true:=List.any_eq_true.mpr ⟨p,hp,decide_eq_true e⟩
 rw[fx,h] at q
 exact absurd q (by simp)
theorem pE {kvs:List (κ×V)} {k:κ} {v:V} (h:bX kvs k=some v):k∈kvs.map (·.1):=by
 have q:(kvs.any fun kv=>decide (kv.1=k))=true:=by
  rw[fx,h]
  all_goals rfl
 obtain⟨p,hp,e⟩:=List.any_eq_true.mp q
 exact List.mem_map.mpr ⟨p,hp,of_decide_eq_true e⟩
theorem AR:∀{l:List κ} {k:κ},l.Nodup→¬k∈l→(l++[k]).Nodup
 | [],k,_,_=>by simp
 |a::r,k,h,hk=>by
  obtain⟨h1,h2⟩:=List.nodup_cons.mp h
  show (a::(r++[k])).Nodup
  refine List.nodup_cons.mpr ⟨fun m=>?_,AR h2 fun m=>hk (List.mem_cons.mpr (Or.inr m))⟩
  rcases List.mem_append.mp m with q|q
  ·exact h1 q
  ·exact hk (List.mem_cons.mpr (Or.inl (List.mem_singleton.mp q).symm))
theorem JA {kvs:List (κ×V)} {k:κ} (v:V) (hn:(kvs.map (·.1)).Nodup) (h:bX kvs k=none):((putK kvs k v).map (·.1)).Nodup:=by
 rw[mq v h,List.map_append]
 exact AR hn (mv h)
end
end L2
namespace L2
open PySem PySem.Spec PyProof.Rows
section
variable {X:Cx} {pins:List (Addr×Obj)} {σ:St} {H:Hp} {s:Shared} {a:Addr} {u u':HO}
theorem Inv.LZ (I:Inv X pins σ H s) (e:H a=some u) (nw:cg X.prog X.w (upd H a u') s.heap a u')
  (h1:∀xs,X.H₀ a≠some (.tup xs)) (h2:∀o z,X.H₀ a≠some (.eC o z)) (h3:∀ps,X.H₀ a≠some (.LO ps))
  (n1:∀x,u≠ .own x) (n2:∀xs,u≠ .tup xs):Inv X pins σ (upd H a u') s:=by
 have na:∀b,H b=none→(upd H a u') b=none:=fun b q=>by
  rw[ah (fun z=>by rw[z,e] at q;cases q)];exact q
 have B:=I.base
 refine⟨I.ok,I.os,I.bare,⟨B.keep,B.slot,fun b o q n x=>na b (B.free b o q n x),B.there,fun b xs q=>?_,fun b o z q=>?_,fun b ps q=>?_⟩,
  I.loc,I.cell,na _ I.free,fun x c q=>na _ (I.gF x c q),fun p hp=>?_,fun b o q=>?_,I.len⟩
 ·rw[ah (show b≠a from fun z=>h1 xs (by rw[←z];exact q))];exact B.nO b xs q
 ·rw[ah (show b≠a from fun z'=>h2 o z (by rw[←z'];exact q))];exact B.nP b o z q
 ·rw[ah (show b≠a from fun z'=>h3 ps (by rw[←z'];exact q))];exact B.nQ b ps q
 ·obtain⟨p1,p2,p3⟩:=I.pin p hp
  exact⟨p1,na _ p2,p3⟩
 ·by_cases hb:b=a
  ·subst hb
   rw[af] at q
   cases q
   exact nw
  ·rw[ah hb] at q
   refine(I.aX b o q).qg (fun _ _ _ z=>z) (fun c z=>?_) fun c xs z=>?_
   ·rw[ah (fun z'=>by rw[z',e] at z;exact n1 b (Option.some.inj z))];exact z
   ·rw[ah (fun z'=>by rw[z',e] at z;exact n2 xs (Option.some.inj z))];exact z
def NF (X:Cx) (a:Addr):Prop:=∀o z,X.H₀ a≠some (.eC o z)
theorem Inv.nf {kvs:List (Key×V)} (I:Inv X pins σ H s) (e:H a=some (.dK kvs)):NF X a:=fun o z q=>by
 have:=I.base.nP a o z q
 rw[e] at this;cases this
theorem Inv.freeze {kvs:List (Key×V)} (I:Inv X pins σ H s) (e:H a=some (.dK kvs)):∃o,s.heap.get? a=some o∧Inv X pins σ (upd H a (.eC o (.dK kvs))) s:=by
 have ok:=I.aX a _ e
 obtain⟨z,hd,vs,rel,dd⟩:=oY I.aX e
 obtain⟨o,es,ep,ho,r⟩:=id dd
 refine⟨o,ho,I.LZ e ⟨ho,z,hd,vs,rel,dd⟩ (fun xs q=>?_) (I.nf e) (fun ps q=>?_) (fun x q=>by cases q) fun xs q=>by cases q⟩
 ·have:=I.base.nO a xs q
  rw[e] at this;cases this
 ·obtain⟨m,q'⟩:=I.base.nQ a ps q
  rw[e] at q';cases q'
theorem Inv.E2 {kvs:List (Key×V)} {o:Obj} (I:Inv X pins σ H s) (e:H a=some (.eC o (.dK kvs))) (nf:NF X a):Inv X pins σ (upd H a (.dK kvs)) s:=by
 obtain⟨ho,z,hd,vs,rel,dd⟩:=(show cg X.prog X.w H s.heap a (.eC o (.dK kvs)) from I.aX a _ e)
 refine I.LZ e (show cg X.prog X.w _ s.heap a (.dK kvs) from ⟨z,hd,vs,rel,dd⟩) (fun xs q=>?_) nf (fun ps q=>?_) (fun x q=>by cases q) fun xs q=>by cases q
 ·have:=I.base.nO a xs q
  rw[e] at this;cases this
 ·obtain⟨m,q'⟩:=I.base.nQ a ps q
  rw[e] at q';cases q'
theorem dO {o:HO} (e:H a=some o):upd H a o=H:=by
 funext b
 by_cases hb:b=a
 ·subst hb;rw[af,e]
 ·rw[ah hb]
end
def L0 (a:Addr) (o:Obj) (kvs:List (Key×V)):It:=
 ⟨fun i H=>H a=some (.eC o (.dK kvs))∧i<kvs.length,fun i H x H'=>H'=H∧∃k v,kvs[i]? =some (k,v)∧x=kV k,fun i H=>H a=some (.eC o (.dK kvs))∧kvs.length≤i⟩
theorem KV.get {κ:Type}:∀{kvs:List (κ×V)} {vs:List (κ×Value)} {i:Nat} {k:κ} {v:V},KV kvs vs→kvs[i]? =some (k,v)→∃u,vs[i]? =some (k,u)∧RelV v u
 |_,_,_,_,_, .nil,h=>by simp at h
 |_,_,0,k,v, .cons (a:=p) (b:=q) r _,h=>by
  have hp:p=(k,v):=by simpa using h
  subst hp
  have e:k=q.1:=r.1
  exact⟨q.2,by rw[List.getElem?_cons_zero,e],r.2⟩
 |_,_,i+1,_,_, .cons _ t,h=>by
  simp only [List.getElem?_cons_succ] at h ⊢
  exact KV.get (kvs:=_) t h
theorem u9 {P:Program} {w:World} {k:Key} {u:Value} (h:(bD P w).is k u=true):RelV (kV k) u:=by
 rw[qf] at h
 rcases cf h with ⟨i,t,rfl,rfl⟩ | ⟨x,t,rfl,rfl⟩
 ·exact⟨t,rfl⟩
 ·exact⟨t,rfl⟩
theorem nX {P:Program} {w:World} {H:Hp} {h:Heap} {a:Addr} {o:Obj} {kvs:List (Key×V)} {es:Array DictEntry} {ep:Nat} (ok:jQ P w H h) (e:H a=some (.eC o (.dK kvs))) (hd:o.data= .dict es ep):
  ∃vs,KV kvs vs∧h.DictAt (bD P w) a vs ep∧(a==sysModules)=false:=by
 obtain⟨ho,z,hs,vs,rel,dd⟩:=(show cg P w H h a (.eC o (.dK kvs)) from ok a _ e)
 obtain⟨o',Yt,Yu,si,ex,gA,r⟩:=dd
 rw[ho] at si;cases si
 rw[hd] at gA;cases gA
 exact⟨vs,rel,⟨o,es,ho,ex,hd,r⟩,hs⟩
theorem CK {P:Program} {w:World} {K:PySem.W.Frag} {tg:Expr} (a it:Addr) (o:Obj) (kvs:List (Key×V)) {es:Array DictEntry} {ep:Nat} (hd:o.data= .dict es ep):
  Turn P w K tg (L0 a o kvs) [it] it (fun i h=>h.IsKeyIter it a i kvs.length ep) where
 mem:=by simp
 obj:=fun i h st b hb=>by
  have e:b=it:=by simpa using hb
  subst e
  obtain⟨o,e,c,d⟩:=st
  exact⟨o,e,fun v z=>by rw[d] at z;cases z⟩
 keep:=fun i h h' st k=>let ⟨o,ho,r⟩:=st;⟨o,k it (by simp) o ho,r⟩
 item:=by
  intro X hP hw hK hc i pins s σ H E I hf st hg
  subst hP hw hK
  obtain⟨hz,hi⟩:=hg
  obtain⟨vs,rel,dd,hs⟩:=nX I.aX hz hd
  obtain⟨k,v,xa⟩:∃k v,kvs[i]? =some (k,v):=⟨kvs[i].1,kvs[i].2,by simp [hi]⟩
  obtain⟨u,hu,ru⟩:=rel.get xa
  obtain⟨f0,f1,f2,f3,f4,f5⟩:=hf it (by simp)
  rw[rel.length] at st
  refine wpAny_pyNext_dict_item st dd hu fun key h' hk AG sb=>?_
  rw[←rel.length] at AG
  have I1:Inv X pins σ H { s with heap:=h' }:=I.turned (t':=s.toks) (fun b o hb e=>(sb.2 b hb).trans e) f0 f1 f3 f4 f5
  obtain⟨oi,e,c,d⟩:=id AG
  exact⟨key,rfl,AE (s:={ s with heap:=h' }) e c d (by decide) ⟨kV k,H,I1,u9 hk,⟨rfl,k,v,xa,rfl⟩,AG,fun b hb=>(hf b hb).1⟩⟩
 done:=by
  intro X hP hw hK hc i pins s σ H E I hf st hg
  subst hP hw hK
  obtain⟨hz,hi⟩:=hg
  obtain⟨vs,rel,dd,hs⟩:=nX I.aX hz hd
  obtain⟨f0,f1,f2,f3,f4,f5⟩:=hf it (by simp)
  rw[rel.length] at st hi
  exact wpAny_pyNext_dict_end (I.ok.hd hc) st dd (List.getElem?_eq_none hi) fun h' eb=>⟨rfl,I.turned (t':=s.toks) (fun b o hb e=>eb b o hb e) f0 f1 f3 f4 f5⟩
 self:=fun _ _ _ _ _ st h=>wpAny_pyIter_keyiter st h
section
variable {X:Cx} {tg:Expr}
def E3 (X:Cx) (td:TE):TI:=fun σ H R=>td σ H fun x H1=>∃a kvs,x= .ref a∧H1 a=some (.dK kvs)∧∀o,NF X a→R (L0 a o kvs) (upd H1 a (.eC o (.dK kvs)))
theorem dE {l:Expr} {tl:TE} (hl:PE X l tl):PI X tg l (E3 X tl):=by
 intro pins s σ H R I h
 refine bV (hl pins s σ H _ I h) fun v s1 ⟨x,H1,I1,r1,q1⟩=>?_
 obtain⟨a,kvs,e,hk,q⟩:=q1
 subst e
 cases r1
 obtain⟨o,ho,I2⟩:=I1.freeze hk
 obtain⟨z,hs,vs,rel,dd⟩:=oY I1.aX hk
 obtain⟨ep,da⟩:=dd.dictAt
 obtain⟨o',es,si,ex,hd,_⟩:=id da
 rw[ho] at si;cases si
 refine wpAny_pyIter_dict hs da ?_
 refine⟨s1.heap.objs.size,[s1.heap.objs.size],_,_,_,rfl,I2.kept (t':=s1.toks) fun b o e=>Heap.get?_push_of_some _ e,CK a _ o kvs hd,?_,fun b hb=>?_,q o (I1.nf hk)⟩
 ·rw[rel.length]
  exact⟨_,Heap.get?_push_size _ rfl,rfl,rfl⟩
 ·have e:b=s1.heap.objs.size:=by simpa using hb
  subst e
  exact I2.xl (Nat.le_refl _) (I2.aX.fresh (Nat.le_refl _))
def Th (X:Cx) (Q:Hp→Prop) (H:Hp):Prop:=∃a o kvs,H a=some (.eC o (.dK kvs))∧NF X a∧Q (upd H a (.dK kvs))
def E4 (X:Cx) (t:TS):TS:=fun D σ H=>t { nx:=fun σ'=>Th X (D.nx σ'),rt:=fun v=>Th X (D.rt v),bk:=fun σ'=>Th X (D.bk σ'),ct:=fun σ'=>Th X (D.ct σ') } σ H
theorem eM {st:Stmt} {t:TS} (h:PS X st t):PS X st (E4 X t):=by
 intro pins s σ H D I q
 refine bV (h pins s σ H _ I q) fun f s' z=>?_
 cases f with
 |next=>obtain⟨σ',H',J,a,o,kvs,e,nf,q⟩:=z;exact⟨σ',_,J.E2 e nf,q⟩
 |brk=>obtain⟨σ',H',J,a,o,kvs,e,nf,q⟩:=z;exact⟨σ',_,J.E2 e nf,q⟩
 |cont=>obtain⟨σ',H',J,a,o,kvs,e,nf,q⟩:=z;exact⟨σ',_,J.E2 e nf,q⟩
 |ret u=>obtain⟨v,σ',H',J,r,a,o,kvs,e,nf,q⟩:=z;exact⟨v,σ',_,J.E2 e nf,r,q⟩
theorem pF {e:Expr} {t:TE} (h:PE X e t):PE X e (fun σ H Q=>t σ H fun v=>Th X (Q v)):=by
 intro pins s σ H Q I q
 refine bV (h pins s σ H _ I q) fun u s' z=>?_
 obtain⟨v,H',J,r,a,o,kvs,e,nf,q⟩:=z
 exact⟨v,_,J.E2 e nf,r,q⟩
end
theorem fA {X:Cx} {a:Addr} {o:Obj} {kvs:List (Key×V)} {g:TG} {tb:TS} {D:Ends} {σ:St} {H:Hp} (nf:NF X a) (Pv:Nat→St→Hp→Prop) (h0:Pv 0 σ H) (hl:∀i σ H,Pv i σ H→H a=some (.dK kvs))
  (hs:∀i k v σ H,kvs[i]? =some (k,v)→Pv i σ H→g (kV k) σ (upd H a (.eC o (.dK kvs))) fun σ2 H2=>tb { nx:=fun σ' H'=>H' a=some (.eC o (.dK kvs))∧Pv (i+1) σ' (upd H' a (.dK kvs)),ct:=fun σ' H'=>H' a=some (.eC o (.dK kvs))∧Pv (i+1) σ' (upd H' a (.dK kvs)),bk:=fun σ'=>Th X (D.nx σ'),rt:=fun v=>Th X (D.rt v) } σ2 H2)
  (hd:∀σ H,Pv kvs.length σ H→D.nx σ H):
  ∃W:Nat→Nat→St→Hp→Prop,(∃m,W 0 m σ (upd H a (.eC o (.dK kvs))))∧∀i m σ H,W i m σ H→((L0 a o kvs).stop i H∧Th X (D.nx σ) H)∨
   ((L0 a o kvs).go i H∧∃N:St→Hp→Prop,(∀σ' H',N σ' H'→∃m',m'<m∧W (i+1) m' σ' H')∧∀x H',(L0 a o kvs).pf i H x H'→g x σ H' fun σ2 H2=>tb { nx:=N,ct:=N,bk:=fun σ'=>Th X (D.nx σ'),rt:=fun v=>Th X (D.rt v) } σ2 H2):=by
 refine⟨fun i m σ H=>m+i=kvs.length∧H a=some (.eC o (.dK kvs))∧Pv i σ (upd H a (.dK kvs)),⟨kvs.length,by omega,af,?_⟩,?_⟩
 ·rw[jc,dO (hl _ _ _ h0)];exact h0
 ·rintro i m σ H ⟨hm,hz,hp⟩
  by_cases hi:i<kvs.length
  ·refine .inr ⟨⟨hz,hi⟩,fun σ' H'=>H' a=some (.eC o (.dK kvs))∧Pv (i+1) σ' (upd H' a (.dK kvs)),fun σ' H' q=>⟨m - 1,by omega,by omega,q⟩,?_⟩
   rintro x H' ⟨rfl,k,v,xa,rfl⟩
   have:=hs i k v σ _ xa hp
   rw[jc,dO hz] at this
   exact this
  ·have e:i=kvs.length:=by omega
   subst e
   exact .inl ⟨⟨hz,Nat.le_refl _⟩,a,o,kvs,hz,nf,hd _ _ hp⟩
def RU:V→Option Value
 | .ty n=>some (.type n)
 | .ref a=>some (.ref a)
 |_=>none
theorem jW {X:Cx}:gX X (.builtin "isinstance") (fun xs H Q=>∃x c cv t b,xs=[x,c]∧RU c=some cv∧nV X.K H x t∧PySem.W.kitOne X.K t cv=some b∧Q (.bl b) H):=by
 intro pins s σ H xs us Q I r h
 obtain⟨x,c,cv,t,b,rfl,hc,ty,e,q⟩:=h
 obtain⟨u,v,rfl,ru,rv⟩:=vals2 r
 have hv:v=cv:=by
  cases c<;>simp only [RU,Option.some.injEq,reduceCtorEq] at hc
  ·cases (show v=Value.ref _ from rv);exact hc
  ·cases (show v=Value.type _ from rv);exact hc
 subst hv
 exact Cz I ru ty e fun tk=>⟨.bl b,H,I.tok tk,rfl,q⟩
theorem lV {X:Cx}:gX X (.type "dict") (fun xs H Q=>∃a kvs,xs=[.ref a]∧Rd H a (.dK kvs)∧∀p,H p=none→Q (.ref p) (upd H p (.dK kvs))):=by
 intro pins s σ H xs us Q I r h
 obtain⟨a,kvs,rfl,hk,q⟩:=h
 obtain⟨u,rfl,ru⟩:=vals1 r
 cases ru
 exact EW I hk fun p s' hp I'=>⟨.ref p,_,I',rfl,q p hp⟩
theorem zf {X:Cx}:gX X (.builtin "len") (fun xs H Q=>∃a kvs,xs=[.ref a]∧Rd H a (.dK kvs)∧Q (.int kvs.length) H):=by
 intro pins s σ H xs us Q I r h
 obtain⟨a,kvs,rfl,hk,q⟩:=h
 obtain⟨u,rfl,ru⟩:=vals1 r
 cases ru
 exact RD I hk fun t s' I'=>⟨.int kvs.length,H,I',⟨t,rfl⟩,q⟩
section
variable {X:Cx}
end
theorem gZ:∀{kvs:List (Key×V)} {p:Key×V},(kvs.map (·.1)).Nodup→p∈kvs→bX kvs p.1=some p.2
 |q::r,p,nd,hp=>by
  rw[List.map_cons,List.nodup_cons] at nd
  rcases List.mem_cons.mp hp with rfl|hr
  ·exact cL rfl
  ·rw[cM (fun e=>nd.1 (e▸List.mem_map_of_mem (f:=(·.1)) hr))]
   exact gZ nd.2 hr
end L2
namespace L2
open PySem PySem.Spec PyProof.Rows
def tj (X:Cx) (pins:List (Addr×Obj)) (N:List Str) (scope:Scope) (cl:List (Str×Addr)) (fp:List Addr) (s:Shared) (H:Hp):Cx where
 prog:=X.prog
 w:=X.w
 K:=X.K
 mg:=X.mg
 base:=X.base
 A:=X.A
 N:=N
 s₀:=s
 H₀:=H
 env:=compEnvC scope cl s.heap.objs.size X.env
 outer:=X.stack
 stack:=X.stack
 ex:=fp
 fn:=fun _=>false
 calm:=X.calm
 pn:=X.pn++pins
 xe:=fun _ _=>False
structure RW (X:Cx) (N:List Str) (fr:List (Option Nat)) (scope:Scope) (cl:List (Str×Addr)):Prop where
 RX:closureFor scope X.env=pure cl
 kind:scope.kind= .function
 va:∀y∈scope.names,y.2≠ .cell
 names:∀y∈scope.names,y.2= .local→scope.names.lookup y.1=some .local
 cells:∀x c,cl.lookup x=some c→X.env.cells.lookup x=some c
 has:∀x,((relabel scope X.env).names.lookup x=some .cell∨(relabel scope X.env).names.lookup x=some .free)→∃c,cl.lookup x=some c
 len:fr.length=N.length
 out:∀(i j:Nat) (x:Str),N[i]? =some x→fr[i]? =some (some j)→X.N[j]? =some x∧X.env.kindOf x=some .cell∧((relabel scope X.env).names.lookup x=some .cell∨(relabel scope X.env).names.lookup x=some .free)
end L2
namespace L2
open PySem PySem.Spec PyProof.Rows
def nY (env:Env):List (Str×NameKind)→List (Str×Addr)→List (Str×Addr)
 | [],cs=>cs
 | (n,k)::r,cs=>nY env r (if (k== .free)=true then (n,(env.cells.lookup n).getD 0)::cs else cs)
def xx (scope:Scope) (env:Env):List (Str×Addr):=nY env scope.names []
theorem AS {env:Env}:∀{names:List (Str×NameKind)} (cs:List (Str×Addr)),(∀y∈names,y.2= .free→∃c,env.cells.lookup y.1=some c)→
  (forIn names cs fun (x:Str×NameKind) cs=>match x with
   | (name,kind)=>if (kind==NameKind.free)=true then do let c←cellOf env name;pure (ForInStep.yield ((name,c)::cs)) else pure (ForInStep.yield cs):Sem (List (Str×Addr)))=pure (nY env names cs)
 | [],cs,_=>rfl
 | (n,k)::r,cs,h=>by
   rw[List.forIn_cons]
   dsimp only
   have ih:=fun cs=>AS (env:=env) (names:=r) cs fun y hy=>h y (List.mem_cons_of_mem _ hy)
   by_cases hk:(k==NameKind.free)=true
   ·obtain⟨c,hc⟩:=h (n,k) (List.mem_cons_self ..) (by simpa using hk)
    rw[if_pos hk,show nY env ((n,k)::r) cs=nY env r ((n,c)::cs) by rw[nY,if_pos hk,hc];rfl]
    have e:cellOf env n=pure c:=by unfold cellOf;rw[hc]
    rw[e]
    exact ih _
   ·rw[if_neg hk,show nY env ((n,k)::r) cs=nY env r cs by rw[nY,if_neg hk]]
    exact ih _
theorem JB {scope:Scope} {env:Env} (h:∀y∈scope.names,y.2= .free→∃c,env.cells.lookup y.1=some c):closureFor scope env=pure (xx scope env):=by
 have t:=AS (env:=env) [] h
 have e:closureFor scope env=((forIn scope.names ([]:List (Str×Addr)) fun (x:Str×NameKind) cs=>match x with
   | (name,kind)=>if (kind==NameKind.free)=true then do let c←cellOf env name;pure (ForInStep.yield ((name,c)::cs)) else pure (ForInStep.yield cs)) >>= fun cs=>pure cs:Sem (List (Str×Addr))):=rfl
 rw[e,t]
 rfl
theorem qv {env:Env}:∀{names:List (Str×NameKind)} {cs:List (Str×Addr)},(∀y∈names,y.2= .free→∃c,env.cells.lookup y.1=some c)→(∀x c,cs.lookup x=some c→env.cells.lookup x=some c)→∀x c,(nY env names cs).lookup x=some c→env.cells.lookup x=some c
 | [],_,_,hc,x,c,h=>hc x c h
 | (n,k)::r,cs,hn,hc,x,c,h=>by
   rw[nY] at h
   refine qv (names:=r) (fun y hy=>hn y (List.mem_cons_of_mem _ hy)) (fun x c h=>?_) x c h
   by_cases hk:(k==NameKind.free)=true
   ·rw[if_pos hk] at h
    obtain⟨c',IP⟩:=hn (n,k) (List.mem_cons_self ..) (by simpa using hk)
    rw[List.lookup_cons] at h
    cases e:x==n with
    |true=>
     rw[e] at h
     have ex:x=n:=by simpa using e
     subst ex
     rw[IP] at h ⊢
     exact h
    |false=>
     rw[e] at h
     exact hc x c h
   ·rw[if_neg hk] at h
    exact hc x c h
theorem xy {env:Env}:∀{names:List (Str×NameKind)} {cs:List (Str×Addr)} {x:Str},((x,NameKind.free)∈names∨∃c,cs.lookup x=some c)→∃c,(nY env names cs).lookup x=some c
 | [],_,_,h=>h.elim (fun z=>by cases z) fun z=>z
 | (n,k)::r,cs,x,h=>by
   rw[nY]
   refine xy (names:=r) ?_
   by_cases hk:(k==NameKind.free)=true
   ·rw[if_pos hk,List.lookup_cons]
    cases e:x==n with
    |true=>exact .inr ⟨_,rfl⟩
    |false=>
     rcases h with h|h
     ·rcases List.mem_cons.mp h with z|z
      ·cases z
       simp at e
      ·exact .inl z
     ·exact .inr h
   ·rw[if_neg hk]
    rcases h with h|h
    ·rcases List.mem_cons.mp h with z|z
     ·cases z
      exact absurd rfl hk
     ·exact .inl z
    ·exact .inr h
theorem jX {env:Env} (x:Str):∀names:List (Str×NameKind),
  (names.map fun (y:Str×NameKind)=>match y with
   | (n,k)=>if (k==NameKind.free&&env.scope.kind== .function&&env.kindOf n==some .cell)=true then (n,NameKind.cell) else (n,k)).lookup x
   =(names.lookup x).map fun k=>if (k==NameKind.free&&env.scope.kind== .function&&env.kindOf x==some .cell)=true then NameKind.cell else k
 | []=>rfl
 | (n,k)::r=>by
   have ih:=jX (env:=env) x r
   rw[List.map_cons,List.lookup_cons]
   by_cases e:(x==n)=true
   ·have ex:x=n:=by simpa using e
    subst ex
    dsimp only
    by_cases hc:(k==NameKind.free&&env.scope.kind== .function&&env.kindOf x==some .cell)=true
    ·rw[if_pos hc,List.lookup_cons,beq_self_eq_true]
     dsimp only [Option.map]
     rw[if_pos hc]
    ·rw[if_neg hc,List.lookup_cons,beq_self_eq_true]
     dsimp only [Option.map]
     rw[if_neg hc]
   ·have e':(x==n)=false:=by simpa using e
    dsimp only
    by_cases hc:(k==NameKind.free&&env.scope.kind== .function&&env.kindOf n==some .cell)=true
    ·rw[if_pos hc,List.lookup_cons,e']
     exact ih
    ·rw[if_neg hc,List.lookup_cons,e']
     exact ih
structure JC (sc scope:Scope) (NX N:List Str) (fr:List (Option Nat)):Prop where
 RY:sc.kind= .function
 kind:scope.kind= .function
 va:∀y∈scope.names,y.2≠ .cell
 names:∀y∈scope.names,y.2= .local→scope.names.lookup y.1=some .local
 free:∀y∈scope.names,y.2= .free→sc.names.lookup y.1=some .cell
 len:fr.length=N.length
 out:((List.range N.length).all fun i=>match fr[i]? with
  |some (some j)=>(match N[i]? with
   |some x=>(NX[j]? ==some x)&&(scope.names.lookup x==some .free)
   |none=>false)
  |_=>true)=true
theorem nZ {names:List (Str×NameKind)} {x:Str} {k:NameKind} (h:names.lookup x=some k):(x,k)∈names:=PySem.mem_of_lookup h
theorem JC.yL {X:Cx} {sc scope:Scope} {NX N:List Str} {fr:List (Option Nat)} (B:JC sc scope NX N fr) (e1:X.env.scope=sc) (e2:X.N=NX) (ok:X.Ok):RW X N fr scope (xx scope X.env):=by
 subst e1 e2
 have fc:∀y∈scope.names,y.2= .free→∃c,X.env.cells.lookup y.1=some c:=fun y hy hf=>ok.has y.1 (.inl (B.free y hy hf))
 have lk:∀x,(relabel scope X.env).names.lookup x=(scope.names.lookup x).map fun k=>if (k==NameKind.free&&X.env.scope.kind== .function&&X.env.kindOf x==some .cell)=true then NameKind.cell else k:=fun x=>jX x scope.names
 have NI:∀x,scope.names.lookup x=some .free→(relabel scope X.env).names.lookup x=some .cell:=fun x hx=>by
  have hk:X.env.kindOf x=some .cell:=B.free (x, .free) (nZ hx) rfl
  rw[lk,hx,Option.map_some,hk,B.RY]
  rfl
 refine⟨JB fc,B.kind,B.va,B.names,fun x c h=>qv fc (fun x c h=>by cases h) x c h,fun x h=>xy (.inl ?_),B.len,fun i j x h1 h2=>?_⟩
 ·rw[lk] at h
  cases e:scope.names.lookup x with
  |none=>rw[e] at h;rcases h with h|h<;>cases h
  |some k=>
   rw[e,Option.map_some] at h
   have hm:=nZ e
   cases k with
   |free=>exact hm
   |cell=>exact absurd rfl (B.va _ hm)
   |_=>rcases h with h|h<;>simp at h
 ·have hi:i<N.length:=(List.getElem?_eq_some_iff.mp h1).1
  have:=List.all_eq_true.mp B.out i (List.mem_range.mpr hi)
  rw[h2] at this
  dsimp only at this
  rw[h1] at this
  dsimp only at this
  rw[Bool.and_eq_true] at this
  have a1:X.N[j]? =some x:=by simpa using this.1
  have a2:scope.names.lookup x=some .free:=by simpa using this.2
  exact⟨a1,B.free (x, .free) (nZ a2) rfl, .inl (NI x a2)⟩
end L2
namespace L2
open PySem PySem.Spec PyProof.Rows
def startB (fr:List (Option Nat)) (σ:St):St:=fr.map fun o=>o.bind fun j=>(σ[j]?).join
theorem zg {fr:List (Option Nat)} {σ:St} {i:Nat} {v:V} (h:(startB fr σ)[i]? =some (some v)):∃j,fr[i]? =some (some j)∧σ[j]? =some (some v):=by
 unfold startB at h
 rw[List.getElem?_map] at h
 cases e:fr[i]? with
 |none=>rw[e] at h;cases h
 |some o=>
  rw[e] at h
  cases o with
  |none=>cases h
  |some j=>
   have h':(σ[j]?).join=some v:=Option.some.inj h
   cases q:σ[j]? with
   |none=>rw[q] at h';cases h'
   |some z=>rw[q] at h';exact⟨j,rfl,by rw[q];exact congrArg some h'⟩
section
variable {X:Cx} {pins:List (Addr×Obj)} {σ:St} {H:Hp} {s:Shared} {N:List Str} {fr:List (Option Nat)} {scope:Scope} {cl:List (Str×Addr)} {fp:List Addr}
theorem E5 (B:RW X N fr scope cl) (I:Inv X pins σ H s) (f:∀b∈fp,lu X pins H b∧b<s.heap.objs.size):(tj X pins N scope cl fp s H).Ok where
 mod:=I.mod
 kind:=B.kind
 glob:=I.ok.glob
 blt:=I.ok.blt
 above:=Nat.le_refl _
 inj:=fun x y c h1 h2=>I.ok.inj x y c (B.cells x c h1) (B.cells y c h2)
 has:=fun x h=>B.has x h
 Jh:=fun x c h=>by cases h
 hd:=I.ok.hd
 frames:=I.ok.frames
 LP:= .inl rfl
 QG:=fun b hb=>⟨Nat.ne_of_lt (f b hb).2,fun x c h=>(f b hb).1.2.2.2.2.1 x c (B.cells x c h)⟩
 bs:=I.bs
 Cu:=Nat.le_trans I.ok.Cu I.sz
 uO:=fun b o e hb=>by
  rcases (f b hb).1.2.2.2.1 with h|h
  ·exact I.ok.uO b o e h
  ·exact absurd (Nat.lt_of_lt_of_le (Heap.lt_size e) (Nat.le_trans I.ok.Cu h)) (Nat.lt_irrefl _)
 uQ:=fun b hb h=>by
  rcases List.mem_cons.mp (I.uR b h) with z|z
  ·exact(f b hb).1.2.1 z
  ·exact(f b hb).1.2.2.1 z
 lq:=I.stack
 EB:=I.uU
theorem CL {h1:Heap} {t1:Nat} (B:RW X N fr scope cl) (I:Inv X pins σ H s) (f:∀b∈fp,lu X pins H b∧b<s.heap.objs.size) (yK:h1.Ns s.heap.objs.size fun _=>none)
  (NJ:∀b o,s.heap.get? b=some o→h1.get? b=some o):Inv (tj X pins N scope cl fp s H) [] (startB fr σ) H { s with heap:=h1,toks:=t1 }:=by
 obtain⟨m,hm,hl⟩:=I.loc
 refine⟨E5 B I f,rfl,I.bare,Un.kept NJ,⟨_,yK,fun i x v e1 e2 _=>?_⟩,fun x c h=>?_,I.aX.fresh (Nat.le_refl _),fun x c h=>I.gF x c (B.cells x c h),fun p hp=>?_,I.aX.kept NJ,?_⟩
 ·obtain⟨j,ej,es⟩:=zg e2
  obtain⟨o1,o2,o3⟩:=B.out i j x e1 ej
  obtain⟨u,ru,L⟩:=hl j x v o1 es (.inr (.inl o2))
  refine⟨u,ru, .inr ⟨o3,?_⟩⟩
  obtain⟨c,hc⟩:=B.has x o3
  rcases L with ⟨k1,_⟩ | ⟨_,c',IP,cc⟩
  ·rw[o2] at k1;cases k1
  ·rw[B.cells x c hc] at IP
   cases IP
   exact⟨c,hc,cc.keeps NJ⟩
 ·obtain⟨v,hv⟩:=I.cell x c (B.cells x c h)
  exact⟨v,hv.keeps NJ⟩
 ·have pj:p∈X.pn++pins:=by rw[List.append_nil] at hp;exact hp
  obtain⟨p1,p2,p3,p4,p5⟩:=I.pin p pj
  exact⟨NJ _ _ p1,p2,Nat.ne_of_lt (Heap.lt_size p1),fun z=>(List.mem_cons.mp (I.uR _ z)).elim p3 p4,p5⟩
 ·show (startB fr σ).length=N.length
  unfold startB
  rw[List.length_map,B.len]
end
def NK (X:Cx) (cs:List Expr) (t:TT):Prop:=
 ∀(pins:List (Addr×Obj)) (s:Shared) (σ:St) (H:Hp) (Q:Bool→Hp→Prop),Inv X pins σ H s→t σ H Q→
  wpAny (model X.prog X.w) X.A (forIn cs true fun c r=>if r=true then do let ok←isTrue c X.env (eval c X.env);pure (ForInStep.yield ok) else pure (ForInStep.yield r)) (TP X pins σ Q) X.xe s
def ZW:TT:=fun _ H Q=>Q true H
theorem f7 {X:Cx}:NK X [] ZW:=fun pins s σ H Q I h=>by
 rw[List.forIn_nil]
 exact wpAny_pure ⟨H,I,h⟩
theorem mw {X:Cx} {c:Expr} {t:TT} (h:PT X c t):NK X [c] t:=fun pins s σ H Q I q=>by
 rw[List.forIn_cons,if_pos rfl]
 refine wpAny_bind (wpAny_bind (bV (h pins s σ H Q I q) fun b s' z=>?_))
 refine wpAny_pure ?_
 dsimp only
 rw[List.forIn_nil]
 exact wpAny_pure z
section
variable {prog:Program} {w:World} {A:Around} {R:Result→Shared→Prop} {s:Shared}
theorem comp_loop {elt tg iter:Expr} {ifs:List Expr} {scope:Scope} {pos:Pos} {it acc:Value} {env:Env} (J:Nat→Shared→Prop)
  (turn:∀n s,J n s→wpAny (model prog w) A (pyNext it) (fun r s₁=>match r with
   |none=>R (.ok .next) s₁
   |some v=>wpAny (model prog w) A (letOwnedTupleGo tg it v) (fun _ sg=>wpAny (model prog w) A (assign tg env v) (fun _ s₂=>
     wpAny (model prog w) A (forIn ifs true fun c r=>if r=true then do let ok←isTrue c env (eval c env);pure (ForInStep.yield ok) else pure (ForInStep.yield r)) (fun ok s₃=>
      if ok=true then wpAny (model prog w) A (eval elt env) (fun x s₄=>wpAny (model prog w) A (call (.builtin "list.append") [acc,x]) (fun _ s₅=>∃m,m<n∧J m s₅) (fun _ _=>False) s₄) (fun _ _=>False) s₃
      else∃m,m<n∧J m s₃) (fun _ _=>False) s₂) (fun _ _=>False) sg) (fun _ _=>False) s₁) (fun _ _=>False) s)
  (n:Nat) (h:J n s):codeAny (model prog w) A (.compLoop (.ListComp elt [⟨tg,iter,ifs,0⟩] scope pos) 0 it acc env) R s:=by
 refine codeAny_loop rfl J (fun n s hJ=>?_) n h
 show wpAny _ A ((compTurn (.ListComp elt [⟨tg,iter,ifs,0⟩] scope pos) 0 it acc env).onRaise (fun x=>do noteFrame x env;theTreesLotGoes x)) _ _ s
 refine wpAny_noted ?_
 rw[compTurn_list]
 have no:∀{P:Value→Shared→Prop} (a:Value) (s:Shared),(fun (_:Value) (_:Shared)=>False) a s→P a s:=fun _ _ z=>False.elim z
 refine wpAny_bind (wpAny_standAt (wpAny_bind (wpAny_mono (turn n s hJ) (fun r s₁ h₁=>?_) no)))
 cases r with
 |none=>exact wpAny_pure h₁
 |some v=>
  refine wpAny_bind (wpAny_mono h₁ (fun _ sg hg=>?_) no)
  refine wpAny_bind (wpAny_mono hg (fun _ s₂ h₂=>wpAny_bind (wpAny_mono h₂ (fun ok s₃ h₃=>?_) no)) no)
  cases ok with
  |false=>exact wpAny_pure ⟨rfl,h₃⟩
  |true=>exact wpAny_bind (wpAny_bind (wpAny_mono h₃ (fun x s₄ h₄=>wpAny_bind (wpAny_mono h₄ (fun _ s₅ h₅=>wpAny_pure (wpAny_pure ⟨rfl,h₅⟩)) no)) no))
end
def L1 (wi:TI) (fr:List (Option Nat)) (g:TG) (tt:TT) (te:TE):TE:=fun σ H Q=>wi σ H fun J H1=>∀D,H1 D=none→∃W:Nat→Nat→St→Hp→Prop,(∃m,W 0 m (startB fr σ) (upd H1 D (.lst [])))∧∀i m σ H,W i m σ H→
 (J.stop i H∧Q (.ref D) H)∨(J.go i H∧∀x H2,J.pf i H x H2→g x σ H2 fun σ3 H3=>tt σ3 H3 fun b H4=>if b=true
   then te σ3 H4 fun y H5=>∃ys,H5 D=some (.lst ys)∧ys.length<sizeLine∧∃m',m'<m∧W (i+1) m' σ3 (upd H5 D (.lst (ys++[y])))
   else∃m',m'<m∧W (i+1) m' σ3 H4)
section
variable {X:Cx} {elt tg iter:Expr} {ifs:List Expr} {scope:Scope} {pos:Pos} {N:List Str} {fr:List (Option Nat)} {cl:List (Str×Addr)} {wi:TI} {g:TG} {tt:TT} {te:TE}
theorem JD (B:RW X N fr scope cl) (hc:X.calm=true)
  (hg:∀pins fp s H,PG (tj X pins N scope cl fp s H) tg g) (ht:∀pins fp s H,NK (tj X pins N scope cl fp s H) ifs tt) (he:∀pins fp s H,PE (tj X pins N scope cl fp s H) elt te)
  {pins:List (Addr×Obj)} {s3:Shared} {σ:St} {H3:Hp} {Q:VK} {it D:Addr} {fp:List Addr} {tn:Nat→Heap→Prop} {J:It} (I3:Inv X pins σ H3 s3) (T:Turn X.prog X.w X.K tg J fp it tn) (Yx:tn 0 s3.heap) (f3:∀b∈fp,lu X pins H3 b∧b<s3.heap.objs.size)
  {W:Nat→Nat→St→Hp→Prop} {m0:Nat} (w0:W 0 m0 (startB fr σ) H3)
  (turn:∀i m σ H,W i m σ H→(J.stop i H∧Q (.ref D) H)∨(J.go i H∧∀x H2,J.pf i H x H2→g x σ H2 fun σ3 H3=>tt σ3 H3 fun b H4=>if b=true
    then te σ3 H4 fun y H5=>∃ys,H5 D=some (.lst ys)∧ys.length<sizeLine∧∃m',m'<m∧W (i+1) m' σ3 (upd H5 D (.lst (ys++[y])))
    else∃m',m'<m∧W (i+1) m' σ3 H4))
  {R:Result→Shared→Prop} (hR:∀s' H',Inv X pins σ H' s'→lu X pins H' s3.heap.objs.size→(∃m,s'.heap.Ns s3.heap.objs.size m)→Q (.ref D) H'→R (.ok .next) s')
  {h₁:Heap} {t1:Nat} (yK:h₁.Ns s3.heap.objs.size fun _=>none) (L4:∀b o,s3.heap.get? b=some o→h₁.get? b=some o):
  codeAny (model X.prog X.w) X.A (.compLoop (.ListComp elt [⟨tg,iter,ifs,0⟩] scope pos) 0 (.ref it) (.ref D) (compEnvC scope cl s3.heap.objs.size X.env)) R { s3 with heap:=h₁,toks:=t1 }:=by
 have Ib:=CL (t1:=t1) B I3 f3 yK L4
 have yW:∀{H':Hp},(∀b∈fp,H' b=none)→∀b∈fp,lu (tj X pins N scope cl fp s3 H3) [] H' b:=fun hn b hb=>
  ⟨hn b hb,Nat.ne_of_lt (f3 b hb).2,(E5 B I3 f3).uQ b hb, .inl hb,fun x c h=>(f3 b hb).1.2.2.2.2.1 x c (B.cells x c h),fun p hp=>(f3 b hb).1.2.2.2.2.2 p (by rw[List.append_nil] at hp;exact hp)⟩
 refine comp_loop (fun n s'=>∃i σ' H',Inv (tj X pins N scope cl fp s3 H3) [] σ' H' s'∧tn i s'.heap∧(∀b∈fp,H' b=none)∧W i n σ' H') ?_ m0
  ⟨0,_,_,Ib,T.keep _ _ _ Yx fun b _ o e=>L4 b o e,fun b hb=>(f3 b hb).1.1,w0⟩
 rintro n s4 ⟨i,σ4,H4,I4,st4,fr4,w4⟩
 rcases turn i n σ4 H4 w4 with ⟨stop,qn⟩ | ⟨go,step⟩
 ·refine bV (T.done (tj X pins N scope cl fp s3 H3) rfl rfl rfl hc i [] s4 σ4 H4 _ I4 (yW fr4) st4 stop) fun r s5 ⟨hr,I5⟩=>?_
  subst hr
  have J5:Inv X pins σ H4 s5:=I3.ED (ch:=fp) I5.os I5.base I5.aX I5.bare fun b hb=>⟨(f3 b hb).1.2.2.2.1,(f3 b hb).1.2.1,(f3 b hb).1.2.2.2.2.1,(f3 b hb).1.2.2.2.2.2⟩
  obtain⟨mm,NL,_⟩:=I5.loc
  exact hR s5 H4 J5 (I3.xl (Nat.le_refl _) I5.free) ⟨mm,NL⟩ qn
 ·refine bV (T.item (tj X pins N scope cl fp s3 H3) rfl rfl rfl hc i [] s4 σ4 H4 _ I4 (yW fr4) st4 go) fun r s5 ⟨u,hr,h5⟩=>?_
  subst hr
  refine bV h5 fun _ s6 ⟨x,H6,I6,r6,y6,ZX,fr6⟩=>?_
  have I6':=I6.pinned (yW fr6) (T.obj _ _ ZX)
  have back:∀{s7:Shared} {σ7:St} {H7:Hp} {m':Nat},Inv (tj X pins N scope cl fp s3 H3) ([]++qj fp s6.heap) σ7 H7 s7→m'<n→W (i+1) m' σ7 H7→
    ∃m,m<n∧∃i σ' H',Inv (tj X pins N scope cl fp s3 H3) [] σ' H' s7∧tn i s7.heap∧(∀b∈fp,H' b=none)∧W i m σ' H':=fun {s7 σ7 H7 m'} I7 hm w7=>by
   refine⟨m',hm,i+1,σ7,H7,I7.gi,T.keep _ _ _ ZX fun b hb o e=>(I7.pin (b,o) (List.mem_append_right _ (List.mem_append_right _ (jg hb e)))).1,fun b hb=>?_,w7⟩
   obtain⟨o,e,d⟩:=T.obj _ _ ZX b hb
   exact(I7.pin (b,o) (List.mem_append_right _ (List.mem_append_right _ (jg hb e)))).2.1
  refine bV (hg _ _ _ _ _ s6 σ4 H6 x u _ I6' r6 (step x H6 y6)) fun _ s7 ⟨σ7,H7,I7,q7⟩=>?_
  refine bV (ht _ _ _ _ _ s7 σ7 H7 _ I7 q7) fun ok s8 ⟨H8,I8,q8⟩=>?_
  cases ok with
  |false=>
   rw[if_neg (by decide)] at q8 ⊢
   obtain⟨m',hm,w8⟩:=q8
   exact back I8 hm w8
  |true=>
   rw[if_pos rfl] at q8 ⊢
   refine bV (he _ _ _ _ _ s8 σ7 H8 _ I8 q8) fun y s9 ⟨v9,H9,I9,r9,ys,hD9,hl9,m',hm,w9⟩=>?_
   refine bV (dv _ s9 σ7 H9 (.ref D) [v9] _ [y] (fun _ H'=>W (i+1) m' σ7 H') I9 rfl (.cons r9 .nil) ⟨_,ys,v9,rfl,rfl,hD9,hl9,w9⟩) fun _ NM ⟨_,L5,I10,_,q10⟩=>?_
   exact back I10 hm q10
theorem xA (B:RW X N fr scope cl) (hc:X.calm=true)
  (hg:∀pins fp s H,PG (tj X pins N scope cl fp s H) tg g) (ht:∀pins fp s H,NK (tj X pins N scope cl fp s H) ifs tt) (he:∀pins fp s H,PE (tj X pins N scope cl fp s H) elt te)
  {pins:List (Addr×Obj)} {s2:Shared} {σ:St} {H2:Hp} {Q:VK} {E:Value→Shared→Prop} {it:Addr} {fp:List Addr} {tn:Nat→Heap→Prop} {J:It} (I2:Inv X pins σ H2 s2) (T:Turn X.prog X.w X.K tg J fp it tn) (Jk:tn 0 s2.heap) (f2:∀b∈fp,lu X pins H2 b)
  (q:∀D,H2 D=none→∃W:Nat→Nat→St→Hp→Prop,(∃m,W 0 m (startB fr σ) (upd H2 D (.lst [])))∧∀i m σ H,W i m σ H→
   (J.stop i H∧Q (.ref D) H)∨(J.go i H∧∀x H2,J.pf i H x H2→g x σ H2 fun σ3 H3=>tt σ3 H3 fun b H4=>if b=true
     then te σ3 H4 fun y H5=>∃ys,H5 D=some (.lst ys)∧ys.length<sizeLine∧∃m',m'<m∧W (i+1) m' σ3 (upd H5 D (.lst (ys++[y])))
     else∃m',m'<m∧W (i+1) m' σ3 H4))
  {RR:Value→Addr→Result→Shared→Prop}
  (hRR:∀D C s' H',Inv X pins σ H' s'→lu X pins H' C→(∃m,s'.heap.Ns C m)→Q (.ref D) H'→RR (.ref D) C (.ok .next) s'):
  wpAny (model X.prog X.w) X.A (newList []) (fun acc s₃=>wpAny (model X.prog X.w) X.A (newFunctionEnv scope X.env.globals cl [] X.env.qual none .none (some X.env)) (fun RZ s₄=>
   codeAny (model X.prog X.w) X.A (.compStart (.ListComp elt [⟨tg,iter,ifs,0⟩] scope pos) 0 (.ref it) acc { RZ with scope:=relabel scope X.env }) (RR acc RZ.locals) s₄) E s₃) E s2:=by
 have hD:H2 s2.heap.objs.size=none:=I2.aX.fresh (Nat.le_refl _)
 obtain⟨W,⟨m0,w0⟩,turn⟩:=q s2.heap.objs.size hD
 have I3:=I2.RO (ys:=[]) (its:=[]) (t':=s2.toks) .nil (by decide)
 have lt2:∀b∈fp,b<s2.heap.objs.size:=fun b hb=>by
  obtain⟨o,e,_⟩:=T.obj _ _ Jk b hb
  exact Heap.lt_size e
 refine wpAny_newObj_type (wpAny_newFunctionEnv B.va (by intro y hy;simp at hy) (fun h₁ yK NJ=>?_) B.kind)
 have up2:∀b o,s2.heap.get? b=some o→(s2.heap.push { cls:= .type "list",data:= .seq ([]:List Value).toArray }).get? b=some o:=fun b o e=>Heap.get?_push_of_some _ e
 have L4:∀b o,(s2.heap.push { cls:= .type "list",data:= .seq ([]:List Value).toArray }).get? b=some o→h₁.get? b=some o:=fun b o e=>NJ.extBut b o (Nat.ne_of_lt (Heap.lt_size e)) (Heap.get?_push_of_some _ e)
 have f3:∀b∈fp,lu X pins (upd H2 s2.heap.objs.size (.lst [])) b∧b< (s2.heap.push { cls:= .type "list",data:= .seq ([]:List Value).toArray }).objs.size:=fun b hb=>by
  refine⟨⟨?_,(f2 b hb).2⟩,?_⟩
  ·rw[ah (Nat.ne_of_lt (lt2 b hb))]
   exact(f2 b hb).1
  ·rw[Heap.size_push]
   exact Nat.lt_succ_of_lt (lt2 b hb)
 have fin:=JD (iter:=iter) (pos:=pos) (D:=s2.heap.objs.size) (t1:=s2.toks) (R:=RR (.ref s2.heap.objs.size) (s2.heap.push { cls:= .type "list",data:= .seq ([]:List Value).toArray }).objs.size) B hc hg ht he I3 T (T.keep _ _ _ Jk fun b _ o e=>up2 b o e) f3 w0 turn
  (fun s' H' J' f m q=>hRR _ _ s' H' J' f m q) yK L4
 exact codeAny_compStart_list fin (T.self _ 0 _ _ _ (T.keep _ _ _ Jk fun b _ o e=>L4 b o (up2 b o e)) fin)
theorem fB {sc:Scope} {NX:List Str} (S:JC sc scope NX N fr) (e1:X.env.scope=sc) (e2:X.N=NX) (hc:X.calm=true) (hi:PI X tg iter wi)
  (hg:∀pins fp s H,PG (tj X pins N scope (xx scope X.env) fp s H) tg g) (ht:∀pins fp s H,NK (tj X pins N scope (xx scope X.env) fp s H) ifs tt) (he:∀pins fp s H,PE (tj X pins N scope (xx scope X.env) fp s H) elt te)
  (hs:∀x,foldedSetIterable iter X.env x=pure x:=by intro _;rfl):PE X (.ListComp elt [⟨tg,iter,ifs,0⟩] scope pos) (L1 wi fr g tt te):=by
 intro pins s σ H Q I h
 have B:=S.yL e1 e2 I.ok
 rw[eval_ListComp]
 refine wpAny_comprehension_free (use:=none) rfl hs B.RX B.kind B.names (bV (hi pins s σ H _ I h) fun v s1 h1=>bV h1 fun Yw s2 h2=>?_)
 obtain⟨it,fp,tn,J,H2,e,I2,T,Jk,f2,q⟩:=h2
 subst e
 refine xA (RR:=fun acc C=>compPost (model X.prog X.w) X.A X.xe none (EP X pins σ Q) acc C) B hc hg ht he I2 T Jk f2 q ?_
 intro D C s' H' J' fC ⟨m,hm⟩ qn
 refine⟨m,hm,fun h' JE=>⟨.ref D,H',?_,rfl,qn⟩⟩
 obtain⟨f0,f1,_,f3,f4,f5⟩:=fC
 exact J'.turned (t':=s'.toks) (fun b o hb e=>(JE.2 b hb).trans e) f0 f1 f3 f4 f5
end
end L2
namespace PySem
namespace F
theorem mx:entryFor table "dict.update.loop" =some Builtin.«dict.update.loop» :=entryFor_of_tree (by kernel_rfl)
theorem gJ:plainId "dict.update.loop" =true:=by decide+kernel
theorem vc:typeLookup (.type "list") "keys" =pure none:=by rw[typeLookup_type,builtinLookup_eq_fast];kernel_rfl
end F
section
variable {prog:Program} {w:World} {K:Type} [DecidableEq K] {knd:KeyKind prog w K} {A:Around} {E:Value→Shared→Prop} {s:Shared}
theorem zh {a:Addr} {xs:Array Value} {k:Nat} {sl:Array (Option Value)} {Q:Option Value→Shared→Prop}
  (hx:s.heap.get? a=some { cls:= .type "list",dict:=none,data:= .seq xs k,slots:=sl }) (hA:A.handled=none)
  (h:∀h' tk,(∀b o,s.heap.get? b=some o→h'.get? b=some o)→Q none { s with heap:=h',toks:=tk }):wpAny (model prog w) A (getAttr? (.ref a) "keys") Q E s:=by
 obtain⟨hp,g,d,tk,os⟩:=s
 have hT:∀NN,(⟨hp,g,d,NN,os⟩:Shared).TypeIs (.ref a) "list" :=fun _=>⟨_,hx,rfl⟩
 have f1:=sub_AttributeError
 have f3:=F.slot_list_getattribute.lookup
 have f4:=F.slot_list_getattribute.bind (.ref a)
 have f5:=am_list_getattr_none
 unfold getAttr? getAttrBy? getAttrBy
 repeat (any_goals (first|assumption|exact hT _| ((with_reducible show wpAny _ _ (call (Value.builtin "list.__getattribute__") _ _) _ _ _);refine call_meets F.slot_list_getattribute (hT _) am_entry_list_getattribute (F.args_list_getattribute_2 _ _) (meets_getattribute_miss_list a xs k sl "keys" _ F.vc (by decide+kernel) (by decide+kernel)) ⟨hx,hA,fun h' NN e hx'=>?_⟩) |wp_step))
 obtain⟨t',u',he⟩:=hx'.there
 show wpAny _ _ (getattributeRaised _ _ _ _ _ _ _) _ _ _
 unfold getattributeRaised
 repeat (any_goals (first|assumption|wp_step))
 all_goals exact h h' NN hx'.keeps
theorem NO {d it l:Addr} {res:Value} {R:Result→Shared→Prop} {ps:List (Addr×K×Value×Value)} (hh:A.handled=none) (hdl:d≠l) (n4:d≠it) (yM:it≠l)
  (JF:∀p∈ps,p.1≠d∧p.1≠it∧knd.is p.2.1 p.2.2.1=true):
  ∀(n i:Nat) (s:Shared) (kvs:List (K×Value)),ps.length - i=n→i≤ps.length→s.heap.IsListIter it l i→s.heap.IsList l (ps.map fun p=>Value.ref p.1).toArray→
   (∀p∈ps,s.heap.IsTuple p.1 #[p.2.2.1,p.2.2.2])→s.heap.DictOf knd d kvs→kvs.length+(ps.length - i)≤sizeLine→
   (∀h' tk,h'.DictOf knd d ((ps.drop i).foldl (fun acc p=>stored acc p.2.1 p.2.2.2) kvs)→(∀b o,b≠d→b≠it→s.heap.get? b=some o→h'.get? b=some o)→R (.ok (.ret res)) { s with heap:=h',toks:=tk })→
   codeAny (model prog w) A (.builtin "dict.update.loop" ⟨[.ref d, .ref it,rawInt i,res],[]⟩) R s:=by
 intro n
 induction n with
 |zero=>
  intro i s kvs hn hi hit hl ht hd hsz hR
  refine codeAny_builtin F.mx ?_
  rw[Around.under_plainId F.gJ _]
  show wpAny _ A.in1 (pyNext (.ref it) >>= _) _ _ s
  refine wpAny_bind (wpAny_pyNext_list_end hh hit hl (by simp;omega) fun h' eb=>?_)
  show wpAny _ A.in1 (Builtin.Dict.addKeywords d [] >>= fun _=>ret res) _ _ _
  have e:ps.drop i=[]:=List.drop_eq_nil_of_le (by omega)
  rw[e] at hR
  exact wpAny_bind (wpAny_pure (wpAny_pure (hR h' s.toks (hd.extBut eb n4) fun b o _ hb q=>eb b o hb q)))
 |succ n ih=>
  intro i s kvs hn hi hit hl ht hd hsz hR
  have ml:i<ps.length:=by omega
  have hp:=ps.get_mem ⟨i,ml⟩
  have JG:ps.drop i=ps[i]::ps.drop (i+1):=List.drop_eq_getElem_cons ml
  obtain⟨n1,n2,hk⟩:=JF _ (List.getElem_mem ml)
  refine codeAny_builtin F.mx ?_
  rw[Around.under_plainId F.gJ _]
  show wpAny _ A.in1 (pyNext (.ref it) >>= _) _ _ s
  refine wpAny_bind (wpAny_pyNext_list_item hit hl (x:= .ref ps[i].1) (by simp [ml]) fun h1 ZY YE=>?_)
  have ht1:∀p∈ps,h1.IsTuple p.1 #[p.2.2.1,p.2.2.2]:=fun p hp=>by
   obtain⟨o,q,r⟩:=ht p hp
   exact⟨o,(YE.2 _ (JF p hp).2.1).trans q,r⟩
  obtain⟨o,ho,hc,m,ZZ⟩:=ht1 _ (List.getElem_mem ml)
  have JH:h1.DictOf knd d kvs:=hd.sameBut YE n4
  have AU:h1.IsList l (ps.map fun p=>Value.ref p.1).toArray:=hl.extBut YE.extBut (Ne.symm yM)
  show wpAny _ A.in1 (holding [Value.ref ps[i].1] _ >>= _) _ _ _
  refine wpAny_bind (wpAny_holding (wpAny_bind ?_))
  refine wpAny_tryCatch ?_
  unfold Builtin.Dict.pairItems
  refine wpAny_bind (wpAny_typeOf (T:="tuple") ⟨o,ho,hc⟩ ?_)
  rw[if_pos (by decide)]
  refine wpAny_bind (wpAny_seqItems ho ZZ (wpAny_pure ?_))
  show wpAny _ A.in1 (holding [ps[i].2.2.1,ps[i].2.2.2] (dictSet d ps[i].2.2.1 ps[i].2.2.2)) _ _ _
  refine wpAny_holding (wpAny_dictSet_pairs hk JH (fun h2 hd2 YF=>?_) (by omega))
  have hc1:((i:Int)+1)=((i+1 :Nat):Int):=by push_cast;rfl
  have up:∀b o,b≠d→b≠it→s.heap.get? b=some o→h2.get? b=some o:=fun b o q1 q2 q=>(YF.2 b q1).trans ((YE.2 b q2).trans q)
  refine wpAny_pure ⟨plainId_quiet F.gJ _,?_⟩
  show codeAny _ _ (.builtin "dict.update.loop" ⟨[.ref d, .ref it,rawInt ((i:Int)+1),res],[]⟩) _ _
  rw[hc1]
  refine ih (i+1) _ _ (by omega) ml ?_ ?_ ?_ hd2 ?_ ?_
  ·obtain⟨oi,q,r⟩:=ZY
   exact⟨oi,(YF.2 _ (Ne.symm n4)).trans q,r⟩
  ·exact AU.extBut YF.extBut (Ne.symm hdl)
  ·intro p hp
   obtain⟨o',q,r⟩:=ht1 p hp
   exact⟨o',(YF.2 _ (JF p hp).1).trans q,r⟩
  ·have:=stored_length_le kvs ps[i].2.1 ps[i].2.2.2
   omega
  ·intro h' tk gA keep
   refine hR h' tk ?_ fun b o q1 q2 q=>keep b o q1 q2 (up b o q1 q2 q)
   rw[JG]
   exact gA
end
end PySem
namespace PySem
section
variable {prog:Program} {w:World} {K:Type} [DecidableEq K] {knd:KeyKind prog w K} {A:Around} {E:Value→Shared→Prop} {s:Shared}
theorem lW {l:Addr} {n:Nat} {sl:Array (Option Value)} {ps:List (Addr×K×Value×Value)} {Q:Value→Shared→Prop} (hh:A.handled=none)
  (hl:s.heap.get? l=some { cls:= .type "list",dict:=none,data:= .seq (ps.map fun p=>Value.ref p.1).toArray n,slots:=sl })
  (ht:∀p∈ps,s.heap.IsTuple p.1 #[p.2.2.1,p.2.2.2]∧knd.is p.2.1 p.2.2.1=true) (hsz:ps.length≤sizeLine)
  (h:∀h' tk,h'.DictOf knd s.heap.objs.size (ps.foldl (fun acc p=>stored acc p.2.1 p.2.2.2) [])→(∀b o,s.heap.get? b=some o→h'.get? b=some o)→Q (.ref s.heap.objs.size) { s with heap:=h',toks:=tk }):
  wpAny (model prog w) A (call (.type "dict") [.ref l]) Q E s:=by
 refine callType_codes (Q₁:=fun obj s₁=>obj= .ref s.heap.objs.size∧s₁={ s with heap:=s.heap.push { cls:= .type "dict",data:= .dict #[] } }) F.kt_called_dict (F.kt_typeCall_dict_1 _) F.entry_dict_init (kt_code_dict_new _ ⟨rfl,rfl⟩) ?_
 rintro obj s₁ ⟨rfl,rfl⟩
 have jk:(s.heap.push { cls:= .type "dict",data:= .dict #[] }).DictOf knd s.heap.objs.size []:=Heap.DictOf.new s.heap
 have up:∀b o,s.heap.get? b=some o→(s.heap.push { cls:= .type "dict",data:= .dict #[] }).get? b=some o:=fun b o q=>Heap.get?_push_of_some _ q
 have AU:=up _ _ hl
 refine⟨jk.typeIs,F.args_dict_init_2 _ _,?_⟩
 unfold Builtin.«dict.__init__»
 refine wpAny_bind ?_
 unfold Builtin.Dict.selfAndRest
 refine wpAny_bind (wpAny_notOrdered_dict jk.typeIs ?_)
 show wpAny _ _ (pure (s.heap.objs.size,[Value.ref l])) _ _ _
 refine wpAny_pure ?_
 show wpAny _ _ (Builtin.Dict.updateFrom "dict.__init__" s.heap.objs.size (.ref l) [] .none) _ _ _
 unfold Builtin.Dict.updateFrom
 refine wpAny_bind (wpAny_typeOf (T:="list") ⟨_,AU,rfl⟩ ?_)
 rw[if_pos (by decide)]
 refine wpAny_bind (zh AU hh fun h2 tk2 k2=>?_)
 rw[if_pos (show (none:Option Value).isNone=true from rfl)]
 refine wpAny_bind (wpAny_rule ?_)
 have wZ:=k2 _ _ AU
 have isl:h2.IsList l (ps.map fun p=>Value.ref p.1).toArray:=⟨_,wZ,rfl,n,rfl⟩
 have QL:l<s.heap.objs.size:=Heap.lt_size hl
 have sz:s.heap.objs.size+1≤h2.objs.size:=by
  obtain⟨o,es,ep,q,r⟩:=id jk
  exact Heap.lt_size (k2 _ _ q)
 refine wpAny_bind (wpAny_pyIter_list isl ?_)
 refine wpAny_pure ⟨plainId_quiet F.gJ _,?_⟩
 have L4:∀b o,s.heap.get? b=some o→(h2.push { cls:= .type "list_iterator",data:= .fields #[.ref l, .int 0 0] }).get? b=some o:=fun b o q=>Heap.get?_push_of_some _ (k2 _ _ (up b o q))
 refine NO (A:=A.in1) (knd:=knd) (l:=l) (ps:=ps) hh (Nat.ne_of_gt QL) (Nat.ne_of_lt sz) (Nat.ne_of_gt (Nat.lt_of_lt_of_le QL (Nat.le_of_lt sz))) (fun p hp=>?_) ps.length 0 _ [] (by omega) (Nat.zero_le _) ?_ ?_ ?_ ?_ ?_ ?_
 ·obtain⟨⟨o,q,_⟩,hk⟩:=ht p hp
  have:=Heap.lt_size q
  exact⟨Nat.ne_of_lt this,Nat.ne_of_lt (Nat.lt_trans this sz),hk⟩
 ·exact⟨_,Heap.get?_push_size _ rfl,rfl,rfl⟩
 ·exact⟨_,Heap.get?_push_of_some _ wZ,rfl,n,rfl⟩
 ·intro p hp
  obtain⟨⟨o,q,r⟩,hk⟩:=ht p hp
  exact⟨o,L4 _ _ q,r⟩
 ·obtain⟨o,es,ep,q,r⟩:=jk
  exact⟨o,es,ep,Heap.get?_push_of_some _ (k2 _ _ q),r⟩
 ·simpa using hsz
 ·intro h' tk gA keep
  refine⟨rfl,h h' tk gA fun b o q=>?_⟩
  have:=Heap.lt_size q
  exact keep b o (Nat.ne_of_lt this) (Nat.ne_of_lt (Nat.lt_trans this sz)) (L4 b o q)
end
end PySem
namespace L2
open PySem PySem.Spec PyProof.Rows
theorem tp:∀{as:List Addr} {us:List Value},Vals (as.map V.ref) us→us=as.map Value.ref
 | [],_, .nil=>rfl
 |a::r,_, .cons h t=>by
  rw[tp t]
  exact congrArg (·::r.map Value.ref) (show _=Value.ref a from h)
theorem pairs_of {P:Program} {w:World} {H:Hp} {h:Heap} (ok:jQ P w H h):∀{ps:List (Addr×Key×V)},(∀p∈ps,H p.1=some (.tup [kV p.2.1,p.2.2]))→
  ∃qs:List (Addr×Key×Value×Value),Paired (fun (p:Addr×Key×V) (q:Addr×Key×Value×Value)=>p.1=q.1∧p.2.1=q.2.1∧RelV p.2.2 q.2.2.2) ps qs∧∀q∈qs,h.IsTuple q.1 #[q.2.2.1,q.2.2.2]∧(bD P w).is q.2.1 q.2.2.1=true
 | [],_=>⟨[], .nil,fun q hq=>by cases hq⟩
 | (a,k,v)::r,hp=>by
   obtain⟨qs,pr,hq⟩:=pairs_of ok (ps:=r) fun p pj=>hp p (List.mem_cons_of_mem _ pj)
   obtain⟨_,its,vs,tu⟩:=(show cg P w H h a (.tup [kV k,v]) from ok a _ (hp (a,k,v) (List.mem_cons_self ..)))
   obtain⟨u1,u2,rfl,r1,r2⟩:=vals2 vs
   refine⟨(a,k,u1,u2)::qs, .cons ⟨rfl,rfl,r2⟩ pr,fun q sS=>?_⟩
   rcases List.mem_cons.mp sS with rfl|z
   ·exact⟨tu,tf r1⟩
   ·exact hq q z
theorem qw:∀{ps:List (Addr×Key×V)} {qs:List (Addr×Key×Value×Value)},Paired (fun (p:Addr×Key×V) (q:Addr×Key×Value×Value)=>p.1=q.1∧p.2.1=q.2.1∧RelV p.2.2 q.2.2.2) ps qs→(ps.map fun p=>Value.ref p.1)=qs.map fun q=>Value.ref q.1
 |_,_, .nil=>rfl
 |_,_, .cons h t=>by
  rw[List.map_cons,List.map_cons,qw t,h.1]
theorem qx:∀{ps:List (Addr×Key×V)} {qs:List (Addr×Key×Value×Value)} {kvs:List (Key×V)} {vs:List (Key×Value)},Paired (fun (p:Addr×Key×V) (q:Addr×Key×Value×Value)=>p.1=q.1∧p.2.1=q.2.1∧RelV p.2.2 q.2.2.2) ps qs→KV kvs vs→
  KV (cy kvs (ps.map (·.2))) (qs.foldl (fun acc q=>stored acc q.2.1 q.2.2.2) vs)
 |_,_,_,_, .nil,h=>h
 |_,_,kvs,vs, .cons (b:=q) (a:=p) h t,r=>by
  obtain⟨h1,h2,h3⟩:=h
  have u:KV (putK kvs p.2.1 p.2.2) (stored vs q.2.1 q.2.2.2):=by
   rw[←h2]
   exact r.put p.2.1 h3
  have z:=qx t u
  exact z
theorem jl {X:Cx} (hc:X.calm=true):gX X (.type "dict") (fun xs H Q=>∃l,∃ps:List (Addr×Key×V),xs=[.ref l]∧H l=some (.lst (ps.map fun p=> .ref p.1))∧(∀p∈ps,H p.1=some (.tup [kV p.2.1,p.2.2]))∧
  ∀q,H q=none→Q (.ref q) (upd H q (.dK (cy [] (ps.map (·.2)))))):=by
 intro pins s σ H xs us Q I r h
 obtain⟨l,ps,rfl,hl,hp,q⟩:=h
 obtain⟨u,rfl,ru⟩:=vals1 r
 cases ru
 obtain⟨z,its,n,vs,_,e⟩:=I.CG hl
 obtain⟨qs,pr,hq⟩:=pairs_of I.aX hp
 have e1:its=qs.map fun q=>Value.ref q.1:=by
  rw[←qw pr]
  have:=tp (as:=ps.map (·.1)) (us:=its) (by rw[List.map_map];exact vs)
  rw[this,List.map_map];rfl
 subst e1
 have zl:qs.length≤sizeLine:=by
  rw[←pr.length]
  rwa [List.length_map] at z
 refine lW (ps:=qs) (I.ok.hd hc) e hq zl fun h' tk dd keep=>?_
 have kv:=qx (kvs:=[]) (vs:=[]) pr .nil
 have zz:(cy [] (ps.map (·.2))).length≤sizeLine:=by
  have:=eG (ps.map (·.2)) []
  rw[List.length_map] at this
  have:=pr.length
  simp only [List.length_nil] at*
  omega
 exact⟨.ref s.heap.objs.size,_,I.laid (a:=s.heap.objs.size) (o:= .dK (cy [] (ps.map (·.2)))) (t':=tk) keep (Nat.le_refl _) (qr zz (beq_eq_false_iff_ne.mpr (Ne.symm (Nat.ne_of_lt I.big))) kv dd),rfl,q _ (I.aX.fresh (Nat.le_refl _))⟩
end L2
namespace L2
open PySem PySem.Spec PyProof.Rows
structure xB (K:PySem.W.Frag) (x qual:Str) (st:Stmt) (f:Addr) (fd:FuncData) (dV:Value):Prop where
 ex:∃(oc:Value) (od:Option Addr) (kV doc pm:Value) (an:Option Addr) (bg ct:Value) (r8:Array (Option Value)),
  fd=PySem.W.fnOf x qual (bq st) (aU st) (aj st) dV kV doc pm an bg ct∧K.lookup f=some ⟨oc,od, .func fd,r8⟩∧PySem.W.codeIn K bg qual=true
 kp:PySem.W.keepIn K (.ref f)=true
section
variable {P:Program} {w:World} {K:PySem.W.Frag} {mg:Str→Option Value} {base:Heap}
theorem xB.ok {x qual:Str} {st:Stmt} {f:Addr} {fd:FuncData} {dV:Value} {N ps:List Str} {k:Nat} {sp:Sp} (F:xB K x qual st f fd dV) (S:ay N ps (aj st)) (len:∀vs H Q E,sp vs H Q E→vs.length=ps.length)
  (dm:∀(bg:Value) (A:Around) (outer:List Env) (s:Shared) (H:Hp) (vs:List V) (Q:VK) (E:XK),cP k (A.deeper (envOfC qual (aj st) s.heap.objs.size f bg))→sp vs H Q E→
   ∃t,lO (ji qu P w K mg base N qual (aj st) f bg A outer s H E).EF (aU st) t∧t { nx:=fun _ H'=>Q .cI H',rt:=Q } (start N vs) H):fw P w K mg base qu (k+1) f fd ps sp:=by
 obtain⟨oc,od,kV,doc,pm,an,bg,ct,r8,rfl,lk,oS⟩:=F.ex
 refine fn_of lk oS S len fun A outer s H vs Q E hr AN=>?_
 obtain⟨t,h,q⟩:=dm bg A outer s H vs Q E hr AN
 exact⟨t,h.EF,q⟩
theorem kM {x qual:Str} {st:Stmt} {f:Addr} {oc dV:Value} {od an:Option Addr} {r8:Array (Option Value)} {kV doc pm bg ct:Value} (l:K.lookup f=some ⟨oc,od, .func (PySem.W.fnOf x qual (bq st) (aU st) (aj st) dV kV doc pm an bg ct),r8⟩)
  (c:PySem.W.codeIn K bg qual=true) (k:PySem.W.keepIn K (.ref f)=true):xB K x qual st f (PySem.W.fnOf x qual (bq st) (aU st) (aj st) dV kV doc pm an bg ct) dV:=⟨⟨oc,od,kV,doc,pm,an,bg,ct,r8,rfl,l,c⟩,k⟩
def Def (K:PySem.W.Frag) (mg:Str→Option Value) (x q:Str) (st:Stmt) (ps:List Str):Prop:=∃f fd,Eo K x q st f fd∧Binds K fd ps []∧mg x=some (.ref f)
structure Cal (P:Program) (w:World) (K:PySem.W.Frag) (mg:Str→Option Value) (base:Heap) (k:Nat) (x:Str) (ps:List Str) (sp:Sp) (f:Addr) (fd:FuncData):Prop where
 ok:fw P w K mg base qu k f fd ps sp
 kp:PySem.W.keepIn K (.ref f)=true
 b:Binds K fd ps []
 g:mg x=some (.ref f)
def a9 (P:Program) (w:World) (K:PySem.W.Frag) (mg:Str→Option Value) (base:Heap) (k:Nat) (x:Str) (ps:List Str) (sp:Sp):Prop:=∃f fd,Cal P w K mg base k x ps sp f fd
theorem Def.cY {x q:Str} {st:Stmt} {N ps:List Str} {k:Nat} {sp:Sp} (D:Def K mg x q st ps) (S:ay N ps (aj st)) (len:∀vs H Q E,sp vs H Q E→vs.length=ps.length)
  (dm:∀(f:Addr) (bg:Value) (A:Around) (outer:List Env) (s:Shared) (H:Hp) (vs:List V) (Q:VK) (E:XK),cP k (A.deeper (envOfC q (aj st) s.heap.objs.size f bg))→sp vs H Q E→
   ∃t,lO (ji qu P w K mg base N q (aj st) f bg A outer s H E).EF (aU st) t∧t { nx:=fun _ H'=>Q .cI H',rt:=Q } (start N vs) H):a9 P w K mg base (k+1) x ps sp:=by
 obtain⟨f,fd,F,b,g⟩:=D
 exact⟨f,fd,F.ok S len (dm f),F.kp,b,g⟩
def bb (K:PySem.W.Frag) (C:Addr) (m q:Str) (st:Stmt) (ps:List Str):Prop:=∃f fd,Eo K m q st f fd∧Binds K fd ps []∧Meth K C m f
structure Z0 (P:Program) (w:World) (K:PySem.W.Frag) (mg:Str→Option Value) (base:Heap) (k:Nat) (C:Addr) (m:Str) (ps:List Str) (sp:Sp) (f:Addr) (fd:FuncData):Prop where
 ok:fw P w K mg base qu k f fd ps sp
 m:Meth K C m f
 b:Binds K fd ps []
def aM (P:Program) (w:World) (K:PySem.W.Frag) (mg:Str→Option Value) (base:Heap) (k:Nat) (C:Addr) (m:Str) (ps:List Str) (sp:Sp):Prop:=∃f fd,Z0 P w K mg base k C m ps sp f fd
theorem bb.cY {C:Addr} {m q:Str} {st:Stmt} {N ps:List Str} {k:Nat} {sp:Sp} (D:bb K C m q st ps) (S:ay N ps (aj st)) (len:∀vs H Q E,sp vs H Q E→vs.length=ps.length)
  (dm:∀(f:Addr) (bg:Value) (A:Around) (outer:List Env) (s:Shared) (H:Hp) (vs:List V) (Q:VK) (E:XK),cP k (A.deeper (envOfC q (aj st) s.heap.objs.size f bg))→sp vs H Q E→
   ∃t,lO (ji qu P w K mg base N q (aj st) f bg A outer s H E).EF (aU st) t∧t { nx:=fun _ H'=>Q .cI H',rt:=Q } (start N vs) H):aM P w K mg base (k+1) C m ps sp:=by
 obtain⟨f,fd,F,b,g⟩:=D
 exact⟨f,fd,F.ok S len (dm f),g,b⟩
def lA (K:PySem.W.Frag) (C:Addr) (q:Str) (st:Stmt) (ps:List Str) (ds:List Int):Prop:=∃f fd dV,xB K "__init__" q st f fd dV∧Mk K C f∧∀j,j≤ds.length→∃us,Vals ((ds.drop j).map V.int) us∧Binds K fd ps us
structure Z1 (P:Program) (w:World) (K:PySem.W.Frag) (mg:Str→Option Value) (base:Heap) (k:Nat) (C:Addr) (ps:List Str) (ds:List Int) (sp:Sp) (f:Addr) (fd:FuncData):Prop where
 ok:fw P w K mg base qu k f fd ps sp
 m:Mk K C f
 b:∀j,j≤ds.length→∃us,Vals ((ds.drop j).map V.int) us∧Binds K fd ps us
def gG (P:Program) (w:World) (K:PySem.W.Frag) (mg:Str→Option Value) (base:Heap) (k:Nat) (C:Addr) (ps:List Str) (ds:List Int) (sp:Sp):Prop:=∃f fd,Z1 P w K mg base k C ps ds sp f fd
theorem lA.cY {C:Addr} {q:Str} {st:Stmt} {N ps:List Str} {ds:List Int} {k:Nat} {sp:Sp} (D:lA K C q st ps ds) (S:ay N ps (aj st)) (len:∀vs H Q E,sp vs H Q E→vs.length=ps.length)
  (dm:∀(f:Addr) (bg:Value) (A:Around) (outer:List Env) (s:Shared) (H:Hp) (vs:List V) (Q:VK) (E:XK),cP k (A.deeper (envOfC q (aj st) s.heap.objs.size f bg))→sp vs H Q E→
   ∃t,lO (ji qu P w K mg base N q (aj st) f bg A outer s H E).EF (aU st) t∧t { nx:=fun _ H'=>Q .cI H',rt:=Q } (start N vs) H):gG P w K mg base (k+1) C ps ds sp:=by
 obtain⟨f,fd,dV,F,g,b⟩:=D
 exact⟨f,fd,F.ok S len (dm f),g,b⟩
end
theorem au.new {H:Hp} {p:Addr} {o:HO} (h:H p=none):au H (upd H p o):=fun b q e=>by
 rw[ah (ag e h)];exact e
end L2
namespace L2
open PySem
theorem jm:bootBuiltins "len" =some (.builtin "len"):=PySem.boot_len
theorem iR:bootBuiltins "isinstance" =some (.builtin "isinstance"):=by decide+kernel
theorem n5:bootBuiltins "int" =some (.type "int"):=by decide+kernel
theorem zj:bootBuiltins "str" =some (.type "str"):=by decide+kernel
theorem JI:bootBuiltins "bool" =some (.type "bool"):=by decide+kernel
theorem mz:bootBuiltins "list" =some (.type "list"):=by decide+kernel
theorem iC:bootBuiltins "dict" =some (.type "dict"):=by decide+kernel
theorem vd {c A B:Prop} [Decidable c] (hc:c) (h:A):if decide c=true then A else B:=by
 rw[if_pos (decide_eq_true hc)];exact h
theorem qy {c A B:Prop} [Decidable c] (hc:¬c) (h:B):if decide c=true then A else B:=by
 rw[if_neg (by rw[decide_eq_false hc];decide)];exact h
theorem ve {α:Type} {xs:List α} {i:Int} (h0:0≤i) (h1:i<xs.length):∃v,v∈xs∧xv xs i=some v:=by
 have hl:i.toNat<xs.length:=by omega
 refine⟨xs[i.toNat],List.getElem_mem hl,?_⟩
 have:=pD (List.getElem?_eq_getElem hl)
 rwa [Int.toNat_of_nonneg h0] at this
theorem bx (x y:Str):(x++y).length=x.length+y.length:=by
 show (x.cps++y.cps).size=_
 rw[Array.size_append];rfl
theorem tq {n:Int} (h1:0≤n) (h2:n<2^64):n.natAbs.log2<1920:=by
 by_cases h:n.natAbs=0
 ·rw[h];decide
 ·have:=(Nat.log2_lt h (k:=64)).mpr (by omega)
  omega
end L2
namespace L2
open PySem PySem.Spec PyProof.Rows
inductive tD:List Expr→List V→Prop where
 |nil:tD [] []
 |int {i:Int} {j} {pos:Pos} {es:List Expr} {vs:List V} (t:tD es vs):tD (.Constant (.int i) j pos::es) (.int i::vs)
 |str {x:Str} {j} {pos:Pos} {es:List Expr} {vs:List V} (t:tD es vs):tD (.Constant (.str x) j pos::es) (.str x::vs)
def R1 (vs:List V):TA:=fun _ H Q=>Q vs H
theorem JJ {X:Cx} {es:List Expr} {vs:List V} (h:tD es vs):PA X es (R1 vs):=by
 induction h with
 |nil=>exact ak
 |int t ih=>exact fun pos pins s σ H Q I q=>aa aq ih rfl pos pins s σ H Q I q
 |str t ih=>exact fun pos pins s σ H Q I q=>aa bG ih rfl pos pins s σ H Q I q
section
variable {K:PySem.W.Frag}
theorem gm {T:String}:PySem.W.kitOne K (.type T) (.type T)=some true:=by
 unfold PySem.W.kitOne
 rw[if_pos (by simp)]
theorem NP {T U:String} {b:Bool} (h1:(Value.type T==Value.type U)=false) (h2:PySem.W.kitMeta U=true) (h3:(fastBuiltinMro T).map (·.contains (Value.type U))=some b):PySem.W.kitOne K (.type T) (.type U)=some b:=by
 unfold PySem.W.kitOne
 rw[if_neg (by rw[h1];decide)]
 unfold PySem.W.kitCls
 dsimp only
 rw[if_pos h2]
 exact h3
theorem mB:PySem.W.kitOne K (.type "int") (.type "bool")=some false:=NP (by decide+kernel) (by decide+kernel) (by decide+kernel)
end
end L2
namespace L2
open PySem PySem.Spec PyProof.Rows
section
variable {X:Cx} {elt tg iter:Expr} {ifs:List Expr} {scope:Scope} {pos NQ py:Pos} {N:List Str} {fr:List (Option Nat)} {wi:TI} {g:TG} {tt:TT} {te:TE}
theorem pG {i:Nat} {y:Str} {sc:Scope} {NX:List Str} (hN:X.N.Nodup) (Z2:X.N[i]? =some y) (hy:Loc X.env.scope y) (S:JC sc scope NX N fr) (e1:X.env.scope=sc) (e2:X.N=NX) (hc:X.calm=true) (hi:PI X tg iter wi)
  (hg:∀pins fp s H,PG (tj X pins N scope (xx scope X.env) fp s H) tg g) (ht:∀pins fp s H,NK (tj X pins N scope (xx scope X.env) fp s H) ifs tt) (he:∀pins fp s H,PE (tj X pins N scope (xx scope X.env) fp s H) elt te)
  (hsw:swapsWith (.ListComp elt [⟨tg,iter,ifs,0⟩] scope pos) (some (.Name y py)) NQ.line X.env=pure true:=by rfl) (hs:∀x,foldedSetIterable iter X.env x=pure x:=by intro _;rfl)
  (hf:X.fn y=true∨X.env.scope.names.lookup y=some .local:=by first|exact .inl rfl|exact .inr rfl|assumption):
  PS X (.Assign [.Name y py] (.ListComp elt [⟨tg,iter,ifs,0⟩] scope pos) NQ) (Nm (L1 wi fr g tt te) (dB i)):=by
 intro pins s σ H D I h
 have B:=S.yL e1 e2 I.ok
 rw[exec_Assign_Name_used _ _ _ _ hsw]
 refine wpAny_bind (wpAny_standAt (wpAny_bind ?_))
 show wpAny _ X.A (do let _←comprehension (.ListComp elt [⟨tg,iter,ifs,0⟩] scope pos) scope X.env _ (newList []) false (eval iter X.env) (some (assign (.Name y py) X.env))) _ _ s
 refine wpAny_bind (wpAny_mono (wpAny_comprehension_free (use:=some (assign (.Name y py) X.env)) (Q:=fun _ s'=>SP X pins D .next s') rfl hs B.RX B.kind B.names (bV (hi pins s σ H _ I h) fun v s1 h1=>bV h1 fun Yw s2 h2=>?_)) (fun _ s' hq=>wpAny_pure (wpAny_pure hq)) fun _ _ e=>e)
 obtain⟨it,fp,tn,J,H2,e,I2,T,Jk,f2,q⟩:=h2
 subst e
 refine xA (Q:=fun v H'=>dB i v σ H' D.nx) (RR:=fun acc C=>compPost (model X.prog X.w) X.A X.xe (some (assign (.Name y py) X.env)) (fun _ s'=>SP X pins D .next s') acc C) B hc hg ht he I2 T Jk f2 q ?_
 intro D' C s' H' J' fC ⟨m,hm⟩ qn
 obtain⟨f0,f1,_,f3,f4,f5⟩:=fC
 show wpAny _ X.A (assign (.Name y py) X.env (.ref D')) _ _ _
 refine wpAny_assign_Name (sN J' hN Z2 hy (v:= .ref D') rfl (fun Rz J'' ⟨a,sb,ha⟩=>?_) hf)
 have hCa:C≠a:=by
  rcases ha with z|z
  ·rw[z];exact f1
  ·exact fun w'=>f4 _ _ z w'.symm
 refine⟨m,hm.sameBut sb hCa,fun h' JE=>⟨_,H',?_,qn⟩⟩
 exact J''.turned (t':=Rz.toks) (fun b o hb e=>(JE.2 b hb).trans e) f0 f1 f3 f4 f5
end
theorem tE {K:PySem.W.Frag} {a D:Addr} {xs:List V} {g:TG} {tt:TT} {te:TE} {Q:Hp→Prop} {σ:St} {H:Hp} (Pv:Nat→St→Hp→Prop) (h0:Pv 0 σ H) (hl:∀i σ H,i≤xs.length→Pv i σ H→bS K H a xs)
  (hs:∀i x σ H,xs[i]? =some x→Pv i σ H→∀N:St→Hp→Prop,(∀σ' H',Pv (i+1) σ' H'→N σ' H')→g x σ H fun σ3 H3=>tt σ3 H3 fun b H4=>if b=true then te σ3 H4 fun y H5=>∃ys,H5 D=some (.lst ys)∧ys.length<sizeLine∧N σ3 (upd H5 D (.lst (ys++[y]))) else N σ3 H4)
  (hd:∀σ H,Pv xs.length σ H→Q H):
  ∃W:Nat→Nat→St→Hp→Prop,(∃m,W 0 m σ H)∧∀i m σ H,W i m σ H→((AF K a).stop i H∧Q H)∨((AF K a).go i H∧∀x H2,(AF K a).pf i H x H2→g x σ H2 fun σ3 H3=>tt σ3 H3 fun b H4=>if b=true
   then te σ3 H4 fun y H5=>∃ys,H5 D=some (.lst ys)∧ys.length<sizeLine∧∃m',m'<m∧W (i+1) m' σ3 (upd H5 D (.lst (ys++[y])))
   else∃m',m'<m∧W (i+1) m' σ3 H4):=by
 refine⟨fun i m σ H=>m+i=xs.length∧Pv i σ H,⟨xs.length,rfl,h0⟩,?_⟩
 rintro i m σ H ⟨hm,hp⟩
 have sq:=hl i σ H (by omega) hp
 by_cases hi:i<xs.length
 ·refine .inr ⟨⟨xs,xs[i],sq,List.getElem?_eq_getElem hi⟩,?_⟩
  rintro x H2 ⟨rfl,hx⟩
  exact hs i x σ H2 (hx xs sq) hp _ fun σ' H' q=>⟨m - 1,by omega,by omega,q⟩
 ·have e:i=xs.length:=by omega
  subst e
  exact .inl ⟨⟨xs,sq,Nat.le_refl _⟩,hd σ H hp⟩
theorem vf {X:Cx} {es:List Expr} {k:Nat} {pos:Pos} {t:LU} (K:PySem.W.Frag) (n:Nat) (hK:X.K=K) (hc:X.calm=true) (h:QI X es t) (hn:(assignEach es X.env).length=n:=by rfl) (gz:(assignEach es X.env).findIdx? (·.1)=none:=by rfl):PG X (.Tuple es k pos) (Rj K n t):=by
 subst hK
 exact gB hc h hn gz
theorem kN {a D:Addr} {o:Obj} {kvs:List (Key×V)} {g:TG} {tt:TT} {te:TE} {Q:Hp→Prop} {σ:St} {H:Hp} (Pv:Nat→St→Hp→Prop) (h0:Pv 0 σ H) (hl:∀i σ H,Pv i σ H→H a=some (.eC o (.dK kvs)))
  (hs:∀i k v σ H,kvs[i]? =some (k,v)→Pv i σ H→∀N:St→Hp→Prop,(∀σ' H',Pv (i+1) σ' H'→N σ' H')→g (kV k) σ H fun σ3 H3=>tt σ3 H3 fun b H4=>if b=true then te σ3 H4 fun y H5=>∃ys,H5 D=some (.lst ys)∧ys.length<sizeLine∧N σ3 (upd H5 D (.lst (ys++[y]))) else N σ3 H4)
  (hd:∀σ H,Pv kvs.length σ H→Q H):
  ∃W:Nat→Nat→St→Hp→Prop,(∃m,W 0 m σ H)∧∀i m σ H,W i m σ H→((L0 a o kvs).stop i H∧Q H)∨((L0 a o kvs).go i H∧∀x H2,(L0 a o kvs).pf i H x H2→g x σ H2 fun σ3 H3=>tt σ3 H3 fun b H4=>if b=true
   then te σ3 H4 fun y H5=>∃ys,H5 D=some (.lst ys)∧ys.length<sizeLine∧∃m',m'<m∧W (i+1) m' σ3 (upd H5 D (.lst (ys++[y])))
   else∃m',m'<m∧W (i+1) m' σ3 H4):=by
 refine⟨fun i m σ H=>m+i=kvs.length∧Pv i σ H,⟨kvs.length,rfl,h0⟩,?_⟩
 rintro i m σ H ⟨hm,hp⟩
 have hz:=hl i σ H hp
 by_cases hi:i<kvs.length
 ·refine .inr ⟨⟨hz,hi⟩,?_⟩
  rintro x H2 ⟨rfl,k,v,xa,rfl⟩
  exact hs i k v σ H2 xa hp _ fun σ' H' q=>⟨m - 1,by omega,by omega,q⟩
 ·have e:i=kvs.length:=by omega
  subst e
  exact .inl ⟨⟨hz,Nat.le_refl _⟩,hd σ H hp⟩
end L2
namespace L2
open PySem PySem.Spec PyProof.Rows
section
variable {X:Cx}
def Z3 (t u:TE):TE:=fun σ H Q=>t σ H Q∨u σ H Q
theorem E6 {e:Expr} {t u:TE} (h:PE X e t) (h':PE X e u):PE X e (Z3 t u):=fun pins s σ H Q I q=>
 q.elim (fun z=>h pins s σ H Q I z) fun z=>h' pins s σ H Q I z
theorem qz:∀{xs:List Str} {us:List Value},Vals (xs.map V.str) us→StrsAre us xs
 | [],_, .nil=> .nil
 |x::r,_, .cons h t=>by
  obtain⟨tk,e⟩:=(show∃t,_=Value.str x t from h)
  subst e
  exact .cons x tk (qz t)
def rJoin (K:PySem.W.Frag):V→List V→Hp→VK→Prop:=fun x vs H Q=>∃z l,∃ys:List Str,x= .str z∧vs=[.ref l]∧bS K H l (ys.map V.str)∧(ys.map (·.length)).sum+ys.length*z.length≤16777216∧Q (.str (Txt.join z ys)) H
theorem pH:MtR X "str.join" (rJoin X.K):=by
 intro pins s σ H x vs v us Q I rx rv h
 obtain⟨z,l,ys,rfl,rfl,hS,hz,q⟩:=h
 obtain⟨t,e⟩:=(show∃t,v=Value.str z t from rx)
 subst e
 obtain⟨u,rfl,ru⟩:=rv.one
 cases ru
 obtain⟨its,r,p,_⟩:=I.list hS
 exact join_list p.isList (by simpa using qz r) hz fun t' k=>⟨.str (Txt.join z ys),H,I.tok k,⟨t',rfl⟩,q⟩
mutual
inductive E7 (K:PySem.W.Frag) (H:Hp):V→PyData→Prop where
 |cI:E7 K H .cI .none
 |bl (b:Bool):E7 K H (.bl b) (.bool b)
 |int (i:Int):E7 K H (.int i) (.int i)
 |str (x:Str):E7 K H (.str x) (.str x)
 |lst {a:Addr} {xs:List V} {ds:List PyData} (h:bS K H a xs) (t:CM K H xs ds):E7 K H (.ref a) (.list ds)
 |tup {a:Addr} {xs:List V} {ds:List PyData} (h:jL K H a xs) (t:CM K H xs ds):E7 K H (.ref a) (.tuple ds)
inductive CM (K:PySem.W.Frag) (H:Hp):List V→List PyData→Prop where
 |nil:CM K H [] []
 |cons {x:V} {d:PyData} {xs:List V} {ds:List PyData} (h:E7 K H x d) (t:CM K H xs ds):CM K H (x::xs) (d::ds)
end
mutual
theorem qA {pins:List (Addr×Obj)} {σ:St} {H:Hp} {s:Shared} (I:Inv X pins σ H s) {x:V} {d:PyData} (h:E7 X.K H x d) {u:Value} (r:RelV x u):∃as,Reads s.heap u d as:=by
 cases h with
 |cI=>cases (show u=Value.none from r);exact⟨_, .none⟩
 |bl b=>cases (show u=Value.bool b from r);exact⟨_, .bool b⟩
 |int i=>obtain⟨t,rfl⟩:=(show∃t,u=Value.int i t from r);exact⟨_, .int i t⟩
 |str y=>obtain⟨t,rfl⟩:=(show∃t,u=Value.str y t from r);exact⟨_, .str y t⟩
 | @lst a xs ds hS t=>
   cases (show u=Value.ref a from r)
   obtain⟨its,rv,p,_⟩:=I.list hS
   obtain⟨o,ho,hc,n,hd⟩:=p.isList
   obtain⟨as,ra⟩:=jY I t rv
   exact⟨_, .list ho hc hd (by simpa using ra)⟩
 | @tup a xs ds hS t=>
   cases (show u=Value.ref a from r)
   obtain⟨its,rv,p,_⟩:=I.tuple hS
   obtain⟨o,ho,hc,n,hd⟩:=p
   obtain⟨as,ra⟩:=jY I t rv
   exact⟨_, .tuple ho hc hd (by simpa using ra)⟩
theorem jY {pins:List (Addr×Obj)} {σ:St} {H:Hp} {s:Shared} (I:Inv X pins σ H s) {xs:List V} {ds:List PyData} (h:CM X.K H xs ds) {us:List Value} (r:Vals xs us):∃as,ReadsAll s.heap us ds as:=by
 cases h with
 |nil=>cases r;exact⟨_, .nil⟩
 |cons h t=>
  cases r with
  |cons r1 r2=>
   obtain⟨as,ra⟩:=qA I h r1
   obtain⟨bs,rb⟩:=jY I t r2
   exact⟨_, .cons ra rb⟩
end
def Z4 (neg:Bool) (K:PySem.W.Frag):R2:=fun x y H Q=>∃d e,E7 K H x d∧E7 K H y e∧SeqAt.shaped d=true∧SeqAt.shaped e=true∧Q (.bl (neg^^PyData.eqv d e)) H
theorem NR (hu:X.A.units+64<cLine):oW X (compareOp .NotEq) (Z4 true X.K):=by
 intro pins s σ H x y v u Q I rx ry h
 obtain⟨d,e,hd,he,sd,se,q⟩:=h
 obtain⟨as,ra⟩:=qA I hd rx
 obtain⟨bs,rb⟩:=qA I he ry
 exact SeqAt.compareNe_shaped ra rb sd se hu ⟨.bl (!PyData.eqv d e),H,I,rfl,by simpa using q⟩
end
end L2
namespace L2
open PySem PySem.Spec PyProof.Rows
section
variable {X:Cx}
end
theorem fD {tt:TT} {A B r:TS} {D:Ends} {σ:St} {H:Hp} (Pm:St→Hp→Prop) (h:∀N:St→Hp→Prop,(∀σ' H',Pm σ' H'→N σ' H')→Nk tt A B { D with nx:=N } σ H) (hr:∀σ' H',Pm σ' H'→r D σ' H'):Rf (Nk tt A B) r D σ H:=h _ hr
section
variable {X:Cx} {pins:List (Addr×Obj)} {σ:St} {H:Hp} {s:Shared} {h':Heap}
theorem Inv.vg {t':Nat} {ch:List Addr} {T:Addr} {o:HO} (I:Inv X pins σ H s) (k:∀b u,b∉ch→s.heap.get? b=some u→h'.get? b=some u) (hf:∀b∈ch,lu X pins H b)
  (hT:s.heap.objs.size≤T) (new:cg X.prog X.w (upd H T o) h' T o):Inv X pins σ (upd H T o) { s with heap:=h',toks:=t' }:=by
 have hn:=I.aX.fresh hT
 have EC:∀b u,H b=some u→b∉ch:=fun b u e z=>by rw[(hf b z).1] at e;cases e
 refine I.step (g':=s.gens) (d':=s.drawn) (ch:=ch) (fun b hb=>⟨(hf b hb).2.2.2.1,(hf b hb).2.1,(hf b hb).2.2.2.2.1,(hf b hb).2.2.2.2.2⟩)
  (fun b u _ _ hc e _=>k b u hc e) (fun b u _ _ hc e _=>⟨u.slots,k b u hc e⟩) (fun b u _ e n=>?_) (fun b u hc e=>⟨u,k b u hc e⟩)
  (fun b xs e=>by rw[ah (ag e hn)];exact e) (fun b u v e=>by rw[ah (ag e hn)];exact e) (fun b ps e=>⟨#[],by rw[ah (ag e hn),e];simp⟩) (fun m hm=>?_) (fun b u e=>?_) I.bare
 ·rw[ah (Nat.ne_of_lt (Nat.lt_of_lt_of_le (Heap.lt_size e) hT))];exact n
 ·obtain⟨u,es,ep,ho,r⟩:=hm
  exact⟨u,es,ep,k _ u (fun z=>(hf _ z).2.1 rfl) ho,r⟩
 ·by_cases hb:b=T
  ·subst hb;rw[af] at e;cases e;exact new
  ·rw[ah hb] at e
   refine(I.aX b u e).qg (fun c v hc q=>k c v ?_ q) (fun c q=>by rw[ah (ag q hn)];exact q) fun c xs q=>by rw[ah (ag q hn)];exact q
   rcases hc with z|z
   ·rw[z];exact EC b u e
   ·exact EC c _ z
theorem Inv.vh {t':Nat} {ch:List Addr} (I:Inv X pins σ H s) (k:∀b u,b∉ch→s.heap.get? b=some u→h'.get? b=some u) (hf:∀b∈ch,lu X pins H b):Inv X pins σ H { s with heap:=h',toks:=t' }:=by
 have EC:∀b u,H b=some u→b∉ch:=fun b u e z=>by rw[(hf b z).1] at e;cases e
 refine I.step (g':=s.gens) (d':=s.drawn) (ch:=ch) (fun b hb=>⟨(hf b hb).2.2.2.1,(hf b hb).2.1,(hf b hb).2.2.2.2.1,(hf b hb).2.2.2.2.2⟩)
  (fun b u _ _ hc e _=>k b u hc e) (fun b u _ _ hc e _=>⟨u.slots,k b u hc e⟩) (fun b u _ e n=>n) (fun b u hc e=>⟨u,k b u hc e⟩)
  (fun b xs e=>e) (fun b u v e=>e) (fun b ps e=>⟨#[],by rw[e];simp⟩) (fun m hm=>?_) (fun b u e=>?_) I.bare
 ·obtain⟨u,es,ep,ho,r⟩:=hm
  exact⟨u,es,ep,k _ u (fun z=>(hf _ z).2.1 rfl) ho,r⟩
 ·refine(I.aX b u e).qg (fun c v hc q=>k c v ?_ q) (fun _ q=>q) fun _ _ q=>q
  rcases hc with z|z
  ·rw[z];exact EC b u e
  ·exact EC c _ z
end
theorem neN {m n:Nat} (h:m<n∨n<m):(m:Addr)≠n:=fun z=>by
 have:m=n:=z
 omega
theorem mC:bootBuiltins "enumerate" =some (.type "enumerate"):=by decide+kernel
theorem E8:bootBuiltins "abs" =some (.builtin "abs"):=by decide+kernel
def R3 (K:PySem.W.Frag) (a:Addr):It:=
 ⟨fun i H=>∃xs x,bS K H a xs∧xs[i]? =some x,
  fun i H v H'=>∃p x,H p=none∧H'=upd H p (.tup [.int i,x])∧v= .ref p∧∀xs,bS K H a xs→xs[i]? =some x,
  fun i H=>∃xs,bS K H a xs∧xs.length≤i⟩
theorem CN {P:Program} {w:World} {K:PySem.W.Frag} {elts:List Expr} {x1} {mn:Pos} (l e it:Addr) (QM:e≠it):
  Turn P w K (.Tuple elts x1 mn) (R3 K l) [e,it] e (fun i h=>(∃old,IsEnum h e it (i:Nat) old)∧h.IsListIter it l i) where
 mem:=by simp
 obj:=fun i h st b hb=>by
  obtain⟨⟨old,he⟩,⟨o1,e1,c1,d1⟩⟩:=st
  simp only [List.mem_cons,List.not_mem_nil,or_false] at hb
  rcases hb with q|q
  ·subst q;exact⟨_,he,fun v q=>by cases q⟩
  ·subst q;exact⟨o1,e1,fun v q=>by rw[d1] at q;cases q⟩
 keep:=fun i h h' st k=>by
  obtain⟨⟨old,he⟩,h1⟩:=st
  exact⟨⟨old,k e (by simp) _ he⟩,h1.at fun o q=>k it (by simp) o q⟩
 item:=by
  intro X hP hw hK hc i pins s σ H E I hf st hg
  subst hP hw hK
  obtain⟨xs,x,hq,hx⟩:=hg
  obtain⟨⟨old,he⟩,h1⟩:=st
  obtain⟨its,rv,p,YG⟩:=I.list hq
  obtain⟨u,hu,ru⟩:=rv.get hx
  refine wpAny_pyNext_enum_item he h1 p.isList (x:=u) (by simpa using hu) QM fun h' a1 a2 a3 a4 hk=>⟨_,rfl,?_⟩
  refine wpAny_letOwnedTupleGo_enum (s:={ s with heap:=h',toks:=s.toks+1 }) a1 fun L6 b1 b2=>?_
  have up:∀c o,c≠e→h'.get? c=some o→L6.get? c=some o:=fun c o n q=>b2.extBut _ _ n q
  have ne:∀{c:Addr} {o},s.heap.get? c=some o→s.heap.objs.size≠c:=fun q=>Nat.ne_of_gt (Heap.lt_size q)
  have jk:=up _ _ (ne he) a3
  have I1:Inv X pins σ (upd H s.heap.objs.size (.tup [.int i,x])) { s with heap:=L6,toks:=s.toks+1 }:=by
   refine I.vg (ch:=[e,it]) (fun b o hb q=>?_) hf (Nat.le_refl _) ⟨by show 2≤sizeLine;decide,[.int i s.toks,u], .cons ⟨_,rfl⟩ (.cons ru .nil),⟨_,jk,rfl,_,rfl⟩⟩
   simp only [List.mem_cons,List.not_mem_nil,or_false,not_or] at hb
   exact up _ _ hb.1 (hk b o hb.1 hb.2 q)
  refine⟨.ref s.heap.objs.size,_,I1,rfl,⟨_,x,I.aX.fresh (Nat.le_refl _),rfl,rfl,fun zs hz=>by rw[I.xk hz hq];exact hx⟩,⟨⟨u,?_⟩,a2.at fun o q=>up _ _ (Ne.symm QM) q⟩,fun b hb=>?_⟩
  ·have e1:((i+1 :Nat):Int)=(i:Int)+1:=by push_cast;rfl
   rw[e1];exact b1
  ·rw[ah ?_]
   ·exact(hf b hb).1
   ·simp only [List.mem_cons,List.not_mem_nil,or_false] at hb
    obtain⟨o1,e1,_⟩:=h1
    rcases hb with q|q
    ·rw[q];exact Ne.symm (ne he)
    ·rw[q];exact Ne.symm (ne e1)
 done:=by
  intro X hP hw hK hc i pins s σ H E I hf st hg
  subst hP hw hK
  obtain⟨xs,hq,hl⟩:=hg
  obtain⟨⟨old,he⟩,h1⟩:=st
  obtain⟨its,rv,p,YG⟩:=I.list hq
  have l1:=rv.length
  refine wpAny_pyNext_enum_end (I.ok.hd hc) he h1 p.isList (by simp;omega) fun h' hk=>⟨rfl,I.vh (t':=s.toks) (ch:=[e,it]) (fun b o hb q=>?_) hf⟩
  simp only [List.mem_cons,List.not_mem_nil,or_false,not_or] at hb
  exact hk b o hb.2 q
 self:=fun _ _ _ _ _ st h=>by
  obtain⟨⟨old,he⟩,_⟩:=st
  exact wpAny_pyIter_enum he h
def R4 (K:PySem.W.Frag) (ta:TA):TI:=fun σ H R=>ta σ H fun vs H1=>∃a,vs=[.ref a]∧(∃xs,bS K H1 a xs)∧R (R3 K a) H1
theorem JK {X:Cx} {elts:List Expr} {x1} {mn:Pos} {a:Expr} {ta:TA} {p pos:Pos} (hg:Gl X "enumerate") (hm:X.mg "enumerate" =none) (ha:PA X [a] ta) (hs:starEach [a] X.env=[(false,eval a X.env)]:=by rfl):
  PI X (.Tuple elts x1 mn) (.Call (.Name "enumerate" p) [a] [] pos) (R4 X.K ta):=by
 intro pins s σ H R I h
 refine Call_ (lQ I hg hm mC (PyProof.Rows.callWith_type1 (bV (ha pos pins s σ H _ I h) fun us s1 ⟨vs,H1,I1,r1,q1⟩=>?_) hs rfl))
 obtain⟨l,e,⟨xs,hq⟩,q⟩:=q1
 subst e
 obtain⟨u,rfl,r⟩:=vals1 r1
 cases r
 obtain⟨its,rv,pl,YG⟩:=I1.list hq
 refine call_enumerate_list pl.isList fun h' a1 a2 a3 hk=>wpAny_pyIter_enum (s:={ s1 with heap:=h' }) a1 ?_
 refine⟨_,[s1.heap.objs.size+1,s1.heap.objs.size],_,_,H1,rfl,I1.kept (t':=s1.toks) hk,CN l (s1.heap.objs.size+1) s1.heap.objs.size (neN (by omega)),⟨⟨_,a1⟩,a2⟩,fun b hb=>?_,q⟩
 have yN:s1.heap.objs.size≤b:=by
  simp only [List.mem_cons,List.not_mem_nil,or_false] at hb
  rcases hb with e|e<;>rw[e]<;>first|exact Nat.le_refl _|exact Nat.le_add_right _ _
 exact I1.xl yN (I1.aX.fresh yN)
end L2
namespace L2
open PySem PySem.Spec PyProof.Rows
section
variable {K:PySem.W.Frag} {g:TG} {tt:TT} {te:TE} {tb:TS} {D:Ends}
theorem JL {J:It} {L:Addr} {Q:Hp→Prop} {σ:St} {H:Hp} (n:Nat) (H0:Hp) (S:St→Prop) (Pv:Nat→List V→Prop) (NS:∀i H',i<n→au H0 H'→J.go i H') (qB:∀H',au H0 H'→J.stop n H')
  (zo:H0 L=none) (hσ:S σ) (h0:au H0 H) (hL:H L=some (.lst [])) (p0:Pv 0 []) (hz:n≤sizeLine) (hl:∀i ys,Pv i ys→ys.length≤i)
  (turn:∀i σ H' ys,i<n→S σ→au H0 H'→H' L=some (.lst ys)→Pv i ys→∀(N:St→V→Hp→Prop) (M:St→Hp→Prop),(∀σ3 y H5,S σ3→au H0 H5→H5 L=some (.lst ys)→Pv (i+1) (ys++[y])→N σ3 y H5)→
   ∀x H2,J.pf i H' x H2→g x σ H2 fun σ3 H3=>tt σ3 H3 fun b H4=>if b=true then te σ3 H4 fun y H5=>N σ3 y H5 else M σ3 H4)
  (fin:∀H' ys,au H0 H'→H' L=some (.lst ys)→Pv n ys→Q H'):
  ∃W:Nat→Nat→St→Hp→Prop,(∃m,W 0 m σ H)∧∀i m σ H,W i m σ H→(J.stop i H∧Q H)∨(J.go i H∧∀x H2,J.pf i H x H2→g x σ H2 fun σ3 H3=>tt σ3 H3 fun b H4=>if b=true
   then te σ3 H4 fun y H5=>∃ys,H5 L=some (.lst ys)∧ys.length<sizeLine∧∃m',m'<m∧W (i+1) m' σ3 (upd H5 L (.lst (ys++[y])))
   else∃m',m'<m∧W (i+1) m' σ3 H4):=by
 refine⟨fun i m σ H=>m+i=n∧S σ∧au H0 H∧∃ys,H L=some (.lst ys)∧Pv i ys,⟨n,rfl,hσ,h0,[],hL,p0⟩,?_⟩
 rintro i m σ H ⟨hm,hs,fE,ys,CO,hp⟩
 by_cases hi:i<n
 ·refine .inr ⟨NS i H hi fE,fun x H2 hy=>turn i σ H ys hi hs fE CO hp _ _ (fun σ3 y H5 k1 k2 k3 k4=>?_) x H2 hy⟩
  refine⟨ys,k3,by have:=hl i ys hp;omega,m - 1,by omega,by omega,k1,fun b o e=>?_,ys++[y],af,k4⟩
  rw[ah (ag e zo)];exact k2 b o e
 ·have e:i=n:=by omega
  subst e
  exact .inl ⟨qB H fE,fin H ys fE CO hp⟩
theorem E9 {lo:Int} {n:Nat} {L:Addr} {Q:Hp→Prop} {σ:St} {H:Hp} (H0:Hp) (S:St→Prop) (Pv:Nat→List V→Prop)
  (zo:H0 L=none) (hσ:S σ) (h0:au H0 H) (hL:H L=some (.lst [])) (p0:Pv 0 []) (hz:n≤sizeLine) (hl:∀i ys,Pv i ys→ys.length≤i)
  (turn:∀i σ H' ys,i<n→S σ→au H0 H'→H' L=some (.lst ys)→Pv i ys→∀(N:St→V→Hp→Prop) (M:St→Hp→Prop),(∀σ3 y H5,S σ3→au H0 H5→H5 L=some (.lst ys)→Pv (i+1) (ys++[y])→N σ3 y H5)→
   g (.int (lo+i)) σ H' fun σ3 H3=>tt σ3 H3 fun b H4=>if b=true then te σ3 H4 fun y H5=>N σ3 y H5 else M σ3 H4)
  (fin:∀H' ys,au H0 H'→H' L=some (.lst ys)→Pv n ys→Q H'):
  ∃W:Nat→Nat→St→Hp→Prop,(∃m,W 0 m σ H)∧∀i m σ H,W i m σ H→((Em lo n).stop i H∧Q H)∨((Em lo n).go i H∧∀x H2,(Em lo n).pf i H x H2→g x σ H2 fun σ3 H3=>tt σ3 H3 fun b H4=>if b=true
   then te σ3 H4 fun y H5=>∃ys,H5 L=some (.lst ys)∧ys.length<sizeLine∧∃m',m'<m∧W (i+1) m' σ3 (upd H5 L (.lst (ys++[y])))
   else∃m',m'<m∧W (i+1) m' σ3 H4):=
 JL n H0 S Pv (fun i H' hi e=>hi) (fun H' e=>Nat.le_refl _) zo hσ h0 hL p0 hz hl
  (fun i σ H' ys hi hs e k p N M hN x H2 hy=>by
   obtain⟨rfl,rfl⟩:=hy
   exact turn i σ H2 ys hi hs e k p N M hN) fin
theorem E' {a:Addr} {xs:List V} {σ:St} {H:Hp} (Pv:Nat→St→Hp→Prop) (h0:Pv 0 σ H) (hl:∀i σ H,Pv i σ H→bS K H a xs)
  (hs:∀i x p σ H,xs[i]? =some x→H p=none→Pv i σ H→g (.ref p) σ (upd H p (.tup [.int i,x])) fun σ2 H2=>tb { D with nx:=Pv (i+1),ct:=Pv (i+1),bk:=D.nx } σ2 H2) (hd:∀σ H,Pv xs.length σ H→D.nx σ H):
  ∃W:Nat→Nat→St→Hp→Prop,(∃m,W 0 m σ H)∧∀i m σ H,W i m σ H→
   ((R3 K a).stop i H∧D.nx σ H)∨((R3 K a).go i H∧∃N:St→Hp→Prop,(∀σ' H',N σ' H'→∃m',m'<m∧W (i+1) m' σ' H')∧∀x H',(R3 K a).pf i H x H'→g x σ H' fun σ2 H2=>tb { D with nx:=N,ct:=N,bk:=D.nx } σ2 H2):=by
 refine⟨fun i m σ H=>m+i=xs.length∧Pv i σ H,⟨xs.length,rfl,h0⟩,?_⟩
 rintro i m σ H ⟨hm,p⟩
 have q1:=hl i σ H p
 by_cases ml:i<xs.length
 ·refine .inr ⟨⟨xs,xs[i],q1,List.getElem?_eq_getElem _⟩,Pv (i+1),fun σ' H' p'=>⟨m - 1,by omega,by omega,p'⟩,fun v H' hy=>?_⟩
  obtain⟨t,x,ht,rfl,rfl,hx⟩:=hy
  exact hs i x t σ H (hx xs q1) ht p
 ·have e:i=xs.length:=by omega
  subst e
  exact .inl ⟨⟨xs,q1,by omega⟩,hd σ H p⟩
end
end L2
namespace L2
open PySem PySem.Spec PyProof.Rows
section
variable {X:Cx} {pins:List (Addr×Obj)} {σ:St} {H:Hp} {s:Shared} {N:List Str} {fr:List (Option Nat)} {scope:Scope} {fp:List Addr}
end
section
variable {X:Cx} {elt tg iter:Expr} {ifs:List Expr} {scope:Scope} {pos NQ py:Pos} {N:List Str} {fr:List (Option Nat)} {wi:TI} {g:TG} {tt:TT} {te:TE}
end
section
variable {X:Cx} {tg:Expr} (K:PySem.W.Frag)
end
end L2
namespace L2
open PySem PySem.Spec PyProof.Rows
def L7 (L:Addr) (H H':Hp):Prop:=∀b o,H b=some o→b≠L→H' b=some o
theorem L7.upd {L:Addr} {H:Hp} {o:HO}:L7 L H (upd H L o):=fun b u h n=>by rw[ah n];exact h
section
variable {K:PySem.W.Frag} {g:TG} {tt:TT} {te:TE}
theorem xC {J:It} {L:Addr} {Q:Hp→Prop} {σ:St} {H:Hp} (n:Nat) (H0:Hp) (S:St→Prop) (Pv:Nat→List V→Hp→Prop) (NS:∀i H',i<n→au H0 H'→J.go i H') (qB:∀H',au H0 H'→J.stop n H')
  (zp:∀i ys H H',L7 L H H'→Pv i ys H→Pv i ys H')
  (zo:H0 L=none) (hσ:S σ) (h0:au H0 H) (hL:H L=some (.lst [])) (p0:Pv 0 [] H) (hz:n≤sizeLine) (hl:∀i ys H,Pv i ys H→ys.length≤i)
  (turn:∀i σ H' ys,i<n→S σ→au H0 H'→H' L=some (.lst ys)→Pv i ys H'→∀(N:St→V→Hp→Prop) (M:St→Hp→Prop),(∀σ3 y H5,S σ3→au H0 H5→H5 L=some (.lst ys)→Pv (i+1) (ys++[y]) H5→N σ3 y H5)→
   ∀x H2,J.pf i H' x H2→g x σ H2 fun σ3 H3=>tt σ3 H3 fun b H4=>if b=true then te σ3 H4 fun y H5=>N σ3 y H5 else M σ3 H4)
  (fin:∀H' ys,au H0 H'→H' L=some (.lst ys)→Pv n ys H'→Q H'):
  ∃W:Nat→Nat→St→Hp→Prop,(∃m,W 0 m σ H)∧∀i m σ H,W i m σ H→(J.stop i H∧Q H)∨(J.go i H∧∀x H2,J.pf i H x H2→g x σ H2 fun σ3 H3=>tt σ3 H3 fun b H4=>if b=true
   then te σ3 H4 fun y H5=>∃ys,H5 L=some (.lst ys)∧ys.length<sizeLine∧∃m',m'<m∧W (i+1) m' σ3 (upd H5 L (.lst (ys++[y])))
   else∃m',m'<m∧W (i+1) m' σ3 H4):=by
 refine⟨fun i m σ H=>m+i=n∧S σ∧au H0 H∧∃ys,H L=some (.lst ys)∧Pv i ys H,⟨n,rfl,hσ,h0,[],hL,p0⟩,?_⟩
 rintro i m σ H ⟨hm,hs,fE,ys,CO,hp⟩
 by_cases hi:i<n
 ·refine .inr ⟨NS i H hi fE,fun x H2 hy=>turn i σ H ys hi hs fE CO hp _ _ (fun σ3 y H5 k1 k2 k3 k4=>?_) x H2 hy⟩
  refine⟨ys,k3,by have:=hl i ys H hp;omega,m - 1,by omega,by omega,k1,fun b o e=>?_,ys++[y],af,zp _ _ _ _ L7.upd k4⟩
  rw[ah (ag e zo)];exact k2 b o e
 ·have e:i=n:=by omega
  subst e
  exact .inl ⟨qB H fE,fin H ys fE CO hp⟩
theorem kO {a L:Addr} {xs:List V} {Q:Hp→Prop} {σ:St} {H:Hp} (H0:Hp) (S:St→Prop) (Pv:Nat→List V→Hp→Prop) (ha:bS K H0 a xs) (zp:∀i ys H H',L7 L H H'→Pv i ys H→Pv i ys H')
  (zo:H0 L=none) (hσ:S σ) (h0:au H0 H) (hL:H L=some (.lst [])) (p0:Pv 0 [] H) (hz:xs.length≤sizeLine) (hl:∀i ys H,Pv i ys H→ys.length≤i)
  (turn:∀i x σ H' ys,xs[i]? =some x→S σ→au H0 H'→H' L=some (.lst ys)→Pv i ys H'→∀(N:St→V→Hp→Prop) (M:St→Hp→Prop),(∀σ3 y H5,S σ3→au H0 H5→H5 L=some (.lst ys)→Pv (i+1) (ys++[y]) H5→N σ3 y H5)→
   g x σ H' fun σ3 H3=>tt σ3 H3 fun b H4=>if b=true then te σ3 H4 fun y H5=>N σ3 y H5 else M σ3 H4)
  (fin:∀H' ys,au H0 H'→H' L=some (.lst ys)→Pv xs.length ys H'→Q H'):
  ∃W:Nat→Nat→St→Hp→Prop,(∃m,W 0 m σ H)∧∀i m σ H,W i m σ H→((AF K a).stop i H∧Q H)∨((AF K a).go i H∧∀x H2,(AF K a).pf i H x H2→g x σ H2 fun σ3 H3=>tt σ3 H3 fun b H4=>if b=true
   then te σ3 H4 fun y H5=>∃ys,H5 L=some (.lst ys)∧ys.length<sizeLine∧∃m',m'<m∧W (i+1) m' σ3 (upd H5 L (.lst (ys++[y])))
   else∃m',m'<m∧W (i+1) m' σ3 H4):=
 xC xs.length H0 S Pv (fun i H' hi e=>⟨xs,xs[i],e.seq ha,List.getElem?_eq_getElem hi⟩) (fun H' e=>⟨xs,e.seq ha,Nat.le_refl _⟩) zp zo hσ h0 hL p0 hz hl
  (fun i σ H' ys _ hs e k p N M hN x H2 hy=>by
   obtain⟨rfl,hx⟩:=hy
   exact turn i x σ H2 ys (hx xs (e.seq ha)) hs e k p N M hN) fin
theorem CP {lo:Int} {n:Nat} {L:Addr} {Q:Hp→Prop} {σ:St} {H:Hp} (H0:Hp) (S:St→Prop) (Pv:Nat→List V→Hp→Prop) (zp:∀i ys H H',L7 L H H'→Pv i ys H→Pv i ys H')
  (zo:H0 L=none) (hσ:S σ) (h0:au H0 H) (hL:H L=some (.lst [])) (p0:Pv 0 [] H) (hz:n≤sizeLine) (hl:∀i ys H,Pv i ys H→ys.length≤i)
  (turn:∀i σ H' ys,i<n→S σ→au H0 H'→H' L=some (.lst ys)→Pv i ys H'→∀(N:St→V→Hp→Prop) (M:St→Hp→Prop),(∀σ3 y H5,S σ3→au H0 H5→H5 L=some (.lst ys)→Pv (i+1) (ys++[y]) H5→N σ3 y H5)→
   g (.int (lo+i)) σ H' fun σ3 H3=>tt σ3 H3 fun b H4=>if b=true then te σ3 H4 fun y H5=>N σ3 y H5 else M σ3 H4)
  (fin:∀H' ys,au H0 H'→H' L=some (.lst ys)→Pv n ys H'→Q H'):
  ∃W:Nat→Nat→St→Hp→Prop,(∃m,W 0 m σ H)∧∀i m σ H,W i m σ H→((Em lo n).stop i H∧Q H)∨((Em lo n).go i H∧∀x H2,(Em lo n).pf i H x H2→g x σ H2 fun σ3 H3=>tt σ3 H3 fun b H4=>if b=true
   then te σ3 H4 fun y H5=>∃ys,H5 L=some (.lst ys)∧ys.length<sizeLine∧∃m',m'<m∧W (i+1) m' σ3 (upd H5 L (.lst (ys++[y])))
   else∃m',m'<m∧W (i+1) m' σ3 H4):=
 xC n H0 S Pv (fun i H' hi e=>hi) (fun H' e=>Nat.le_refl _) zp zo hσ h0 hL p0 hz hl
  (fun i σ H' ys hi hs e k p N M hN x H2 hy=>by
   obtain⟨rfl,rfl⟩:=hy
   exact turn i σ H2 ys hi hs e k p N M hN) fin
end
mutual
theorem xD:∀d:PyData,d.canLay0=true→PyData.eqv d d=true
 | .none,_=>by simp [PyData.eqv]
 | .bool _,_=>by simp [PyData.eqv]
 | .int _,_=>by simp [PyData.eqv]
 | .str _,_=>by simp [PyData.eqv]
 | .list xs,h=>by rw[PyData.eqv];exact jZ xs (by simpa [PyData.canLay0] using h)
 | .tuple xs,h=>by rw[PyData.eqv];exact jZ xs (by simpa [PyData.canLay0] using h)
 | .dict _,h=>by simp [PyData.canLay0] at h
theorem jZ:∀xs:List PyData,PyData.canLayAll0 xs=true→PyData.eqvAll xs xs=true
 | [],_=>by simp [PyData.eqvAll]
 |x::xs,h=>by
  have h':x.canLay0=true∧PyData.canLayAll0 xs=true:=by simpa [PyData.canLayAll0] using h
  rw[PyData.eqvAll,xD x h'.1,jZ xs h'.2];rfl
end
theorem CQ {d:PyData} (h1:d.canLay0=true) (h2:d.depth≤64):SeqAt.shaped d=true:=by
 unfold SeqAt.shaped;rw[h1,decide_eq_true h2];rfl
section
variable {X:Cx} (K:PySem.W.Frag)
end
end L2
namespace L2
open PySem PySem.Spec PyProof.Rows
section
variable {K:PySem.W.Frag} {g:TG} {tt:TT} {te:TE}
end
end L2
namespace L2
open PySem PySem.Spec PyProof.Rows
theorem tF:bootBuiltins "sorted" =some (.builtin "sorted"):=by decide+kernel
theorem NT:bootBuiltins "max" =some (.builtin "max"):=by decide+kernel
section
variable {X:Cx}
end
end L2
namespace L2
open PySem PySem.Spec PyProof.Rows
section
variable {X:Cx}
theorem NU {e k:Expr} {te tk:TE} {p2 pos:Pos} (he:PE X e te) (hk:PE X k tk):PE X (.Subscript e (.Slice none none (some k) p2) pos) (fun σ H Q=>te σ H fun x H1=>tk σ H1 fun y H2=>y= .int (-1)∧∃a xs,x= .ref a∧bS X.K H2 a xs∧∀l,H2 l=none→Q (.ref l) (upd H2 l (.lst xs.reverse))):=by
 intro pins s σ H Q I h
 refine Subscript_ (bV (he pins s σ H _ I h) fun v s1 ⟨x,H1,I1,r1,q1⟩=>?_)
 refine wpAny_Slice ?_
 rw[evalPart_none]
 refine wpAny_pure (wpAny_pure ?_)
 rw[evalPart_some]
 refine bV (hk pins s1 σ H1 _ I1 q1) fun u s3 ⟨y,H3,I3,r3,q3⟩=>?_
 obtain⟨rfl,a,xs,rfl,hx,q⟩:=q3
 obtain⟨t,rfl⟩:=r3
 cases r1
 have I4:Inv X pins σ H3 { s3 with heap:=s3.heap.push { cls:= .type "slice",data:= .fields #[.none, .none, .int (-1) t] } }:=I3.kept (t':=s3.toks) fun b ob q=>Heap.get?_push_of_some _ q
 obtain⟨its,r,ht,hz⟩:=I4.list hx
 have hlen:=r.length
 show wpAny (model X.prog X.w) X.A (subscriptTail e (.Slice none none (some k) p2) (.ref a) (.ref s3.heap.objs.size)) (EP X pins σ Q) X.xe { s3 with heap:=s3.heap.push { cls:= .type "slice",data:= .fields #[.none, .none, .int (-1) t] } }
 refine tail_any (ops:=[.ref a, .ref s3.heap.objs.size]) ht.isList.typeIs slot_list_getitem.lookup ?_ (by with_unfolding_all rfl)
 refine wpAny_getItem_list_slice ht.isList (Heap.IsSliceOf.new ..) .none .none (.int (-1) t) (by simp) ?_ (by rw[List.size_toArray]<;>omega)
 rw[PySem.W.krv_pick]
 refine⟨.ref _,_,I4.laid (o:= .lst xs.reverse) (fun b ob q=>Heap.get?_push_of_some _ q) (Nat.le_refl _) ?_,rfl,q _ (I4.aX.fresh (Nat.le_refl _))⟩
 exact⟨by rw[List.length_reverse];exact hz,_,0,r.reverse,Heap.get?_push_size _ rfl⟩
end
end L2
namespace L2
open PySem PySem.Spec PyProof.Rows PySem.W
section
variable {O:KeyOrd} {k:Nat→O.α} {n:Nat} {I:Shared→Prop} {cmp:Nat→Nat→(Bool→Shared→Prop)→Shared→Prop}
end
end L2
namespace PySem.SeqAt
open AutoSeq1 (wpAny_loadPart')
open MeetsSeq MeetsSeq2 MeetsSeq3
def JM (e c:Nat→Bool):List Nat→Bool
 | []=>false
 |j::r=>if e j=true then JM e c r else c j
end PySem.SeqAt
namespace L2
open PySem PySem.Spec PyProof.Rows PySem.SeqAt PySem.W
@[reducible] def Z5:KeyOrd where
  α:=List Int
  blt a b:=decide (a<b)
  irrefl a:=by simp
  trans a b c h1 h2:=by simp only [decide_eq_true_eq] at*;exact List.lt_trans h1 h2
  negTrans a b c h:=by
   simp only [decide_eq_true_eq] at*
   by_cases NV:a<b
   ·exact .inl NV
   ·exact .inr (List.lt_of_le_of_lt (List.not_lt.mp NV) h)
  total a b h1 h2:=by simp only [decide_eq_false_iff_not] at*;exact List.le_antisymm (List.not_lt.mp h2) (List.not_lt.mp h1)
theorem JN:∀(xs ys:List Int) (d:Nat) (f g:Nat→Int),xs.length=ys.length→(∀j,j<xs.length→f (d+j)=xs.getD j 0)→(∀j,j<xs.length→g (d+j)=ys.getD j 0)→
  JM (fun j=>f j==g j) (fun j=>decide (f j<g j)) (List.range' d xs.length)=decide (xs<ys)
 | [],[],d,f,g,_,_,_=>by simp [JM]
 |x::xs,y::ys,d,f,g,hl,hf,hg=>by
  have h0:=hf 0 (by simp)
  have g0:=hg 0 (by simp)
  simp at h0 g0
  have ih:=JN xs ys (d+1) f g (by simpa using hl) (fun j hj=>by
   have:=hf (j+1) (by simp;omega)
   rw[show d+1+j=d+(j+1) by omega,this];simp) (fun j hj=>by
   have:=hg (j+1) (by simp;omega)
   rw[show d+1+j=d+(j+1) by omega,this];simp)
  rw[List.length_cons,List.range'_succ,JM,ih,h0,g0]
  by_cases e:x=y
  ·subst e
   rw[if_pos (by simp)]
   simp [List.cons_lt_cons_iff]
  ·rw[if_neg (by simpa using e)]
   simp [List.cons_lt_cons_iff,e]
section
variable {prog:Program} {w:World} {A:Around} {E:Value→Shared→Prop} {s:Shared}
end
section
variable {X:Cx}
end
end L2
namespace L2
open PySem PySem.Spec PyProof.Rows
theorem NW:bootBuiltins "min" =some (.builtin "min"):=by decide+kernel
section
variable {X:Cx}
end
end L2
namespace L2
open PySem PySem.Spec PyProof.Rows
section
variable {K:PySem.W.Frag} {g:TG} {tt:TT} {te:TE}
theorem Fb {J:It} {L:Addr} {Q:Hp→Prop} {σ:St} {H:Hp} (n:Nat) (H0:Hp) (S:St→Prop) (Pv:Nat→List V→Prop) (NS:∀i H',i<n→au H0 H'→J.go i H') (qB:∀H',au H0 H'→J.stop n H')
  (zo:H0 L=none) (hσ:S σ) (h0:au H0 H) (hL:H L=some (.lst [])) (p0:Pv 0 []) (hz:n≤sizeLine) (hl:∀i ys,Pv i ys→ys.length≤i)
  (turn:∀i σ H' ys,i<n→S σ→au H0 H'→H' L=some (.lst ys)→Pv i ys→∀(N:St→V→Hp→Prop) (M:St→Hp→Prop),(∀σ3 y H5,S σ3→au H0 H5→H5 L=some (.lst ys)→Pv (i+1) (ys++[y])→N σ3 y H5)→(∀σ3 H4,S σ3→au H0 H4→H4 L=some (.lst ys)→Pv (i+1) ys→M σ3 H4)→
   ∀x H2,J.pf i H' x H2→g x σ H2 fun σ3 H3=>tt σ3 H3 fun b H4=>if b=true then te σ3 H4 fun y H5=>N σ3 y H5 else M σ3 H4)
  (fin:∀H' ys,au H0 H'→H' L=some (.lst ys)→Pv n ys→Q H'):
  ∃W:Nat→Nat→St→Hp→Prop,(∃m,W 0 m σ H)∧∀i m σ H,W i m σ H→(J.stop i H∧Q H)∨(J.go i H∧∀x H2,J.pf i H x H2→g x σ H2 fun σ3 H3=>tt σ3 H3 fun b H4=>if b=true
   then te σ3 H4 fun y H5=>∃ys,H5 L=some (.lst ys)∧ys.length<sizeLine∧∃m',m'<m∧W (i+1) m' σ3 (upd H5 L (.lst (ys++[y])))
   else∃m',m'<m∧W (i+1) m' σ3 H4):=by
 refine⟨fun i m σ H=>m+i=n∧S σ∧au H0 H∧∃ys,H L=some (.lst ys)∧Pv i ys,⟨n,rfl,hσ,h0,[],hL,p0⟩,?_⟩
 rintro i m σ H ⟨hm,hs,fE,ys,CO,hp⟩
 by_cases hi:i<n
 ·refine .inr ⟨NS i H hi fE,fun x H2 hy=>turn i σ H ys hi hs fE CO hp _ _ (fun σ3 y H5 k1 k2 k3 k4=>?_) (fun σ3 H4 k1 k2 k3 k4=>?_) x H2 hy⟩
  ·refine⟨ys,k3,by have:=hl i ys hp;omega,m - 1,by omega,by omega,k1,fun b o e=>?_,ys++[y],af,k4⟩
   rw[ah (ag e zo)];exact k2 b o e
  ·exact⟨m - 1,by omega,by omega,k1,k2,ys,k3,k4⟩
 ·have e:i=n:=by omega
  subst e
  exact .inl ⟨qB H fE,fin H ys fE CO hp⟩
theorem tG {a L:Addr} {xs:List V} {Q:Hp→Prop} {σ:St} {H:Hp} (H0:Hp) (S:St→Prop) (Pv:Nat→List V→Prop) (ha:bS K H0 a xs)
  (zo:H0 L=none) (hσ:S σ) (h0:au H0 H) (hL:H L=some (.lst [])) (p0:Pv 0 []) (hz:xs.length≤sizeLine) (hl:∀i ys,Pv i ys→ys.length≤i)
  (turn:∀i x σ H' ys,xs[i]? =some x→S σ→au H0 H'→H' L=some (.lst ys)→Pv i ys→∀(N:St→V→Hp→Prop) (M:St→Hp→Prop),(∀σ3 y H5,S σ3→au H0 H5→H5 L=some (.lst ys)→Pv (i+1) (ys++[y])→N σ3 y H5)→(∀σ3 H4,S σ3→au H0 H4→H4 L=some (.lst ys)→Pv (i+1) ys→M σ3 H4)→
   g x σ H' fun σ3 H3=>tt σ3 H3 fun b H4=>if b=true then te σ3 H4 fun y H5=>N σ3 y H5 else M σ3 H4)
  (fin:∀H' ys,au H0 H'→H' L=some (.lst ys)→Pv xs.length ys→Q H'):
  ∃W:Nat→Nat→St→Hp→Prop,(∃m,W 0 m σ H)∧∀i m σ H,W i m σ H→((AF K a).stop i H∧Q H)∨((AF K a).go i H∧∀x H2,(AF K a).pf i H x H2→g x σ H2 fun σ3 H3=>tt σ3 H3 fun b H4=>if b=true
   then te σ3 H4 fun y H5=>∃ys,H5 L=some (.lst ys)∧ys.length<sizeLine∧∃m',m'<m∧W (i+1) m' σ3 (upd H5 L (.lst (ys++[y])))
   else∃m',m'<m∧W (i+1) m' σ3 H4):=
 Fb xs.length H0 S Pv (fun i H' hi e=>⟨xs,xs[i],e.seq ha,List.getElem?_eq_getElem hi⟩) (fun H' e=>⟨xs,e.seq ha,Nat.le_refl _⟩) zo hσ h0 hL p0 hz hl
  (fun i σ H' ys _ hs e k p N M hN hM x H2 hy=>by
   obtain⟨rfl,hx⟩:=hy
   exact turn i x σ H2 ys (hx xs (e.seq ha)) hs e k p N M hN hM) fin
end
section
variable {X:Cx}
end
end L2
namespace L2
open PySem PySem.Spec PyProof.Rows
section
variable {K:PySem.W.Frag} {g:TG} {tt:TT} {te:TE}
end
section
variable {X:Cx}
end
end L2
namespace PySem.W
open PySem PySem.Calls PyProof.Rows PyProof.V PySem.Spec
section
variable {prog:Program} {w:World} {A:Around} {E:Value→Shared→Prop} {s:Shared} {T:String} {r d:Addr} {n:Nat} {P:Nat→Value→Prop} {OK:Heap→Prop}
theorem zq {G:List Value→Shared→Prop} (S:KdlSrc prog w T r d n P OK) (hd:A.handled=none) (ok:OK s.heap) (small:n≤sizeLine)
  (q:∀(g:Heap) (k:Nat) (xs:Array Value),(∀b o,s.heap.get? b=some o→g.get? b=some o)→s.heap.objs.size<g.objs.size→ItemsOf P xs n→G xs.toList { s with heap:=g,toks:=k }):
  wpAny (model prog w) A (collect (.ref r)) G E s:=by
 obtain⟨lr,ld⟩:=S.there _ ok
 unfold collect;refine wpAny_bind (wpAny_runValue (codeAny_builtin entry_proto_collect' ?_));rw[Around.under_plainId PySem.F.plain_proto_collect _]
 show wpAny _ A.in1 (newList [] >>= fun y=>again (.builtin "list.__iadd__" ⟨[y, .ref r],[]⟩)) _ _ s
 refine wpAny_bind (wpAny_newObj_type (wpAny_pure ⟨plainId_quiet PySem.F.plain_list_iadd _,codeAny_builtin entry_list_iadd' ?_⟩))
 rw[Around.under_plainId PySem.F.plain_list_iadd _];show wpAny _ A.in1 (Builtin.List.listExtendWith (.ref s.heap.objs.size) (.ref r) (.ref s.heap.objs.size)) _ _ _
 have told:=kdl_extend (A:=A) (s:={ s with heap:=s.heap.push { cls:= .type "list",data:= .seq ([]:List Value).toArray } })
  (R:=fun z s1=>∃(g:Heap) (k:Nat) (xs:Array Value) (c:Nat),z= .ok (.ret (.ref s.heap.objs.size))∧s1={ s with heap:=g,toks:=k }∧(∀b o,s.heap.get? b=some o→g.get? b=some o)∧
   g.get? s.heap.objs.size=some { cls:= .type "list",dict:=none,data:= .seq xs c,slots:=#[] }∧ItemsOf P xs n) S hd (S.keep _ _ ok fun b _ o e=>Heap.get?_push_of_some _ e) s.heap.objs.size (Nat.ne_of_gt lr) (Nat.ne_of_gt ld)
  (.ref s.heap.objs.size) 0 (Heap.get?_push_size _ rfl) (fun g k xs c kp at' its=>⟨g,k,xs,c,rfl,rfl,fun b o e=>kp b o (Nat.ne_of_lt (Heap.lt_size e)) (Heap.get?_push_of_some _ e),at',its⟩) small
 refine wpAny_mono told (fun z s1 y=>?_) fun z s1 y=>?_
 ·cases z with
  |done f=>obtain⟨g,k,xs,c,e,rfl,kp,at',its⟩:=y;cases e;exact wpAny_bind (wpAny_load at' (wpAny_pure (q g k xs kp (Heap.lt_size at') its)))
  |again c0=>
   refine⟨y.1,codeAny_mono y.2 fun z1 s2 y2=>?_⟩
   obtain⟨g,k,xs,c,rfl,rfl,kp,at',its⟩:=y2;exact wpAny_bind (wpAny_load at' (wpAny_pure (q g k xs kp (Heap.lt_size at') its)))
 ·obtain⟨_,_,_,_,e,_⟩:=y;cases e
end
end PySem.W
namespace L2
open PySem PySem.Spec PyProof.Rows PySem.W
section
variable {X:Cx}
theorem zr:∀{us:List Value} {ss:List Str},StrsAre us ss→Vals (ss.map V.str) us:=by
 intro us ss h
 induction h with
 |nil=>exact .nil
 |cons=>exact .cons ⟨_,rfl⟩ (by assumption)
theorem mD {P:Program} {w:World}:∀{us:List Value} {ks:List Str},us.length=ks.length→(∀(j:Nat) (k:Str) (u:Value),ks[j]? =some k→us[j]? =some u→(bD P w).is (Sum.inr k) u=true)→StrsAre us ks
 | [],[],_,_=> .nil
 | [],_::_,h,_=>by simp at h
 |_::_,[],h,_=>by simp at h
 |u::us,k::ks,h,q=>by
  have hu:=q 0 k u rfl rfl
  rw[qf] at hu
  rcases cf hu with ⟨i,t,e,_⟩ | ⟨x,t,e,rfl⟩
  ·cases e
  ·cases e
   exact .cons _ _ (mD (by simpa using h) fun j k' u' h1 h2=>q (j+1) k' u' (by simpa using h1) (by simpa using h2))
end
end L2
namespace L2
open PySem PySem.Spec PyProof.Rows
section
variable {X:Cx}
end
end L2
namespace L2
open PySem PySem.Spec PyProof.Rows
section
variable {X:Cx}
theorem gS:oW X (compareOp .LtE) (fun x y H Q=>∃i j,x= .str i∧y= .str j∧Q (.bl (!decide (j.cps.toList<i.cps.toList))) H):=by
 intro pins s σ H x y v u Q I rx ry h
 obtain⟨i,j,rfl,rfl,q⟩:=h
 obtain⟨t,rfl⟩:=(show∃t,v=Value.str i t from rx)
 obtain⟨t',rfl⟩:=(show∃t,u=Value.str j t from ry)
 exact PySem.P.le_str ⟨.bl _,H,I,rfl,q⟩
theorem CS:gX X (.type "int") (fun xs H Q=>∃x n,xs=[.str x]∧PySem.intText? x=some n∧x.length≤640∧Q (.int n) H):=by
 intro pins s σ H xs us Q I r h
 obtain⟨x,n,rfl,hn,hl,q⟩:=h
 obtain⟨u,rfl,ru⟩:=vals1 r
 obtain⟨t,rfl⟩:=(show∃t,u=Value.str x t from ru)
 exact PySem.W.KIN.call_text hn hl ⟨.int n,H,I.tok _,⟨_,rfl⟩,q⟩
def Z6:V→Option Int→Option Int→Hp→VK→Prop:=fun x lo hi H Q=>∃y,x= .str y∧y.length≤sizeLine∧Q (.str (Txt.slice y lo hi)) H
theorem vi:SlR X Z6:=by
 intro pins s σ H x v vl vu lo hi sl Q I rx hs pl pu h
 obtain⟨y,rfl,hz,q⟩:=h
 obtain⟨t,rfl⟩:=(show∃t,v=Value.str y t from rx)
 refine⟨"str",_,F.slot_str_getitem.lookup,typeIs_str _ _ _,?_⟩
 cases pl with
 |none=>cases pu with
  |none=>exact wpAny_getItem_str_slice (l:=none) (u:=none) (st:=none) hs rfl (post_val_or_str ⟨Nat.le_trans (Txt.slice_le y _ _) hz,fun t' k=>⟨.str _,H,I.tok k,⟨t',rfl⟩,q⟩⟩)
  |int j uj=>exact wpAny_getItem_str_slice (l:=none) (u:=some (j,uj)) (st:=none) hs rfl (post_val_or_str ⟨Nat.le_trans (Txt.slice_le y _ _) hz,fun t' k=>⟨.str _,H,I.tok k,⟨t',rfl⟩,q⟩⟩)
 |int i ui=>cases pu with
  |none=>exact wpAny_getItem_str_slice (l:=some (i,ui)) (u:=none) (st:=none) hs rfl (post_val_or_str ⟨Nat.le_trans (Txt.slice_le y _ _) hz,fun t' k=>⟨.str _,H,I.tok k,⟨t',rfl⟩,q⟩⟩)
  |int j uj=>exact wpAny_getItem_str_slice (l:=some (i,ui)) (u:=some (j,uj)) (st:=none) hs rfl (post_val_or_str ⟨Nat.le_trans (Txt.slice_le y _ _) hz,fun t' k=>⟨.str _,H,I.tok k,⟨t',rfl⟩,q⟩⟩)
end
def R5 (x:Str):It:=⟨fun i _=>i<x.length,fun i H v H'=>H'=H∧∃c,x.cps[i]? =some c∧v= .str ⟨#[c]⟩,fun i _=>x.length≤i⟩
theorem Fc {P:Program} {w:World} {K:PySem.W.Frag} {tg:Expr} (it:Addr) (x:Str) (t:Tok):
  Turn P w K tg (R5 x) [it] it (fun i h=>h.IsStrIter it "str_ascii_iterator" x t i) where
 mem:=by simp
 obj:=fun i h st b hb=>by
  have e:b=it:=by simpa using hb
  subst e
  obtain⟨o,e,c,d⟩:=st
  exact⟨o,e,fun v z=>by rw[d] at z;cases z⟩
 keep:=fun i h h' st k=>let ⟨o,ho,r⟩:=st;⟨o,k it (by simp) o ho,r⟩
 item:=by
  intro X hP hw hK hc i pins s σ H E I hf st hg
  subst hP hw hK
  have hg:i<x.cps.size:=hg
  obtain⟨f0,f1,f2,f3,f4,f5⟩:=hf it (by simp)
  refine wpAny_pyNext_ascii_item st (Array.getElem?_eq_getElem hg) fun h' AG sb=>?_
  have I1:Inv X pins σ H { s with heap:=h',toks:=s.toks+1 }:=I.turned (t':=s.toks+1) (fun b o hb e=>(sb.2 b hb).trans e) f0 f1 f3 f4 f5
  obtain⟨oi,e,c,d⟩:=id AG
  exact⟨_,rfl,AE (s:={ s with heap:=h',toks:=s.toks+1 }) e c d (by decide) ⟨.str ⟨#[x.cps[i]]⟩,H,I1,⟨_,rfl⟩,⟨rfl,_,Array.getElem?_eq_getElem hg,rfl⟩,AG,fun b hb=>(hf b hb).1⟩⟩
 done:=by
  intro X hP hw hK hc i pins s σ H E I hf st hg
  subst hP hw hK
  have hg:x.cps.size≤i:=hg
  obtain⟨f0,f1,f2,f3,f4,f5⟩:=hf it (by simp)
  exact wpAny_pyNext_ascii_end (I.ok.hd hc) st (Array.getElem?_eq_none hg) fun h' eb=>⟨rfl,I.turned (t':=s.toks) (fun b o hb e=>eb b o hb e) f0 f1 f3 f4 f5⟩
 self:=fun _ _ _ _ _ st h=>wpAny_pyIter_striter_ascii st h
section
variable {X:Cx} {tg:Expr}
def Z7 (tl:TE):TI:=fun σ H R=>tl σ H fun v H1=>∃x,v= .str x∧x.cps.all (· <128)=true∧R (R5 x) H1
theorem NY {l:Expr} {tl:TE} (hl:PE X l tl):PI X tg l (Z7 tl):=by
 intro pins s σ H R I h
 refine bV (hl pins s σ H _ I h) fun v s1 ⟨y,H1,I1,r1,x,e,ha,q⟩=>?_
 subst e
 obtain⟨t,rfl⟩:=(show∃t,v=Value.str x t from r1)
 refine wpAny_pyIter_ascii ha ?_
 refine⟨s1.heap.objs.size,[s1.heap.objs.size],_,_,_,rfl,I1.kept (t':=s1.toks) fun b o e=>Heap.get?_push_of_some _ e,Fc _ x t,?_,fun b hb=>?_,q⟩
 ·exact⟨_,Heap.get?_push_size _ rfl,rfl,rfl⟩
 ·have e:b=s1.heap.objs.size:=by simpa using hb
  subst e
  exact I1.xl (Nat.le_refl _) (I1.aX.fresh (Nat.le_refl _))
end
theorem JO {x:Str} {g:TG} {tb:TS} {D:Ends} {σ:St} {H:Hp} (Pv:Nat→St→Hp→Prop) (h0:Pv 0 σ H)
  (hs:∀i c σ H,x.cps[i]? =some c→Pv i σ H→g (.str ⟨#[c]⟩) σ H fun σ2 H2=>tb { D with nx:=Pv (i+1),ct:=Pv (i+1),bk:=D.nx } σ2 H2) (hd:∀σ H,Pv x.length σ H→D.nx σ H):
  ∃W:Nat→Nat→St→Hp→Prop,(∃m,W 0 m σ H)∧∀i m σ H,W i m σ H→
   ((R5 x).stop i H∧D.nx σ H)∨((R5 x).go i H∧∃N:St→Hp→Prop,(∀σ' H',N σ' H'→∃m',m'<m∧W (i+1) m' σ' H')∧∀v H',(R5 x).pf i H v H'→g v σ H' fun σ2 H2=>tb { D with nx:=N,ct:=N,bk:=D.nx } σ2 H2):=by
 refine⟨fun i m σ H=>m+i=x.length∧Pv i σ H,⟨x.length,rfl,h0⟩,?_⟩
 rintro i m σ H ⟨hm,p⟩
 by_cases hi:i<x.length
 ·refine .inr ⟨hi,Pv (i+1),fun σ' H' q=>⟨m - 1,by omega,by omega,q⟩,?_⟩
  rintro v H' ⟨rfl,c,hc,rfl⟩
  exact hs i c σ _ hc p
 ·have e:i=x.length:=by omega
  subst e
  exact .inl ⟨Nat.le_refl _,hd σ H p⟩
end L2
namespace L2
open PySem PySem.Spec PyProof.Rows
section
variable {X:Cx}
theorem AV (K:PySem.W.Frag) (hK:X.K=K):RK X (RL K):=by subst hK;exact jV
end
end L2
namespace PySem.W
open PySem PySem.Calls PyProof.Rows PyProof.V PySem.Spec
section
variable {prog:Program} {w:World} {A:Around} {E:Value→Shared→Prop} {s:Shared} {T:String} {r d:Addr} {n:Nat} {P:Nat→Value→Prop} {OK:Heap→Prop}
theorem xE {ss:List Str} {Q:Value→Shared→Prop} (S:KdlSrc prog w T r d n P OK) (hd:A.handled=none) (ok:OK s.heap) (hn:n<64) (hs:∀xs:Array Value,ItemsOf P xs n→StrsAre xs.toList ss)
  (q:∀(g:Heap) (k:Nat) (a:Addr) (out:Array Value) (L8:List Str) (e:Nat),(∀b o,s.heap.get? b=some o→g.get? b=some o)→s.heap.objs.size≤a→g.get? a=some (seqObj "list" out e)→StrsAre out.toList L8→L8.Perm ss→sortedS L8=true→Q (.ref a) { s with heap:=g,toks:=k }):
  wpAny (model prog w) A (call (.builtin "sorted") [.ref r]) Q E s:=by
 refine Calls.call_function_entry kind_sorted plain_sorted entry_sorted (args_sorted1 _) ?_
 unfold Builtin.«sorted»;refine wpAny_bind (m:=checkCount "sorted" 1 1 _) (wpAny_pure ?_)
 have big:(64 :Nat)≤sizeLine:=by decide
 refine wpAny_bind (zq (A:=A.in1) S hd ok (by omega) fun g k xs kp lt its=>?_)
 have hS:=hs xs its
 have hl:xs.toList.length=n:=by rw[Array.length_toList];exact its.1
 refine wpAny_bind (wpAny_newList ?_ (by rw[hl];omega))
 have QH:(g.push (seqObj "list" xs.toList.toArray 0)).get? g.objs.size=some (seqObj "list" xs.toList.toArray 0):=Heap.get?_push_size _ rfl
 refine wpAny_bind (wpAny_holding (wpAny_call_entry slot_list_sort ⟨_,QH,rfl⟩ entry_list_sort (list_sort_treeK strKind_oneLt QH hS.keysOf (fun v₁ v₂ rest e=>keyKind_strs (by rw[←e];exact hS)) (by omega) fun AG a1 a2=>⟨_,rfl,?_⟩) (args_list_sort _)))
 obtain⟨L8,h1,h2,h3⟩:=sorted_out_str hS a1 a2
 obtain⟨e,he⟩:=sortedHeap_at (out:=(arrOf AG).map (·.2)) QH
 refine wpAny_pure ⟨_,rfl,q _ k g.objs.size _ L8 e (fun b o z=>?_) (by omega) he h1 h2 h3⟩
 have hb:=kp b o z
 have ml:=Heap.lt_size hb
 rw[sortedHeap_old (Nat.ne_of_lt ml) (by rw[size_push'];exact Nat.lt_succ_of_lt ml),Heap.get?_push_ne _ _ _ (Nat.ne_of_lt ml)]
 exact hb
end
end PySem.W
namespace L2
open PySem PySem.Spec PyProof.Rows PySem.W
section
variable {X:Cx}
theorem mE (hc:X.calm=true):gX X (.builtin "sorted") (fun xs H Q=>∃p kvs,∃ks:List Str,xs=[.ref p]∧Rd H p (.dK kvs)∧kvs.map (·.1)=ks.map Sum.inr∧ks.length<64∧∀(l:Addr) (ms:List Str),ms.Perm ks→sortedS ms=true→H l=none→Q (.ref l) (upd H l (.lst (ms.map V.str)))):=by
 intro pins s σ H xs us Q I r h
 obtain⟨p,kvs,ks,rfl,hk,yO,h64,q⟩:=h
 obtain⟨u,rfl,ru⟩:=vals1 r
 cases ru
 obtain⟨z,lo,vs,rel,dd⟩:=oX I.aX hk
 obtain⟨ep,da⟩:=dd.dictAt
 have hlen:vs.length=ks.length:=by
  have:=congrArg List.length yO
  rw[List.length_map,List.length_map] at this
  rw[←rel.length];exact this
 have key:∀(j:Nat) (k:Key) (x:Value),vs[j]? =some (k,x)→(ks[j]?).map Sum.inr=some k:=fun j k x e=>by
  have h1:(kvs.map (·.1))[j]? =some k:=by rw[rel.keys,List.getElem?_map,e];rfl
  rw[yO,List.getElem?_map] at h1
  exact h1
 refine xE (ss:=ks) (kdl_dict (knd:=bD X.prog X.w) (kvs:=vs) (ep:=ep) lo) (I.ok.hd hc) da (by omega) (fun ar its=>?_) fun g k a out L8 e kp le hg h1 h2 h3=>?_
 ·refine mD (P:=X.prog) (w:=X.w) (by rw[Array.length_toList,its.1,hlen]) fun j k u h1 h2=>?_
  obtain⟨k',x,h3,h4⟩:=its.2 j u (by simpa using h2)
  have h5:=key j k' x h3
  rw[h1] at h5
  cases h5
  exact h4
 ·refine⟨.ref a,_,I.laid (t':=k) (o:= .lst (L8.map V.str)) kp le ⟨?_,out.toList,e,zr h1,?_⟩,rfl,q _ L8 h2 h3 (I.aX.fresh le)⟩
  ·rw[List.length_map,h2.length_eq]
   have big:(64 :Nat)≤sizeLine:=by decide
   omega
  ·rw[hg]
end
section
variable {X:Cx} {pins:List (Addr×Obj)} {σ:St} {H:Hp} {s:Shared} {a b:Addr} {kvs more:List (Key×V)} {A:Around} {E:Value→Shared→Prop}
theorem Fd {Q:Value→Shared→Prop} (I:Inv X pins σ H s) (e:H a=some (.dK kvs)) (e2:H b=some (.dK more)) (NV:a≠b) (hz:kvs.length+more.length≤sizeLine)
  (h:∀s',Inv X pins σ (upd H a (.dK (cy kvs more))) s'→Q .none s'):wpAny (model X.prog X.w) A (call (.builtin "dict.update") [.ref a, .ref b]) Q E s:=by
 obtain⟨z,hd,vs,rel,dd⟩:=oY I.aX e
 obtain⟨z2,hd2,ws,R6,Yz⟩:=oY I.aX e2
 refine call_meetsIn PySem.F.slot_dict_update dd.typeIs PySem.F.entry_dict_update (PySem.F.args_dict_update_2 _ _) (meets_dict_update (bD X.prog X.w) a b NV hd2)
  ⟨vs,ws,dd,Yz,by rw[←rel.length,←R6.length];exact hz,fun h' CF _ hs=>h _ ?_⟩
 have he:∃q,h'.get? a=some q:=let ⟨q,_,_,hq,_⟩:=CF;⟨q,hq⟩
 exact pB I (by rw[e];exact True.intro) hs he (qr (Nat.le_trans (eG more kvs) hz) hd (KV.merge R6 rel) CF)
end
def R7 (td ty:TE):TE:=fun σ H Q=>td σ H fun x H1=>∃a,x= .ref a∧ZN H1 a∧ty σ H1 fun y H2=>∃b kvs more,y= .ref b∧H2 a=some (.dK kvs)∧H2 b=some (.dK more)∧a≠b∧kvs.length+more.length≤sizeLine∧Q .cI (upd H2 a (.dK (cy kvs more)))
section
variable {X:Cx} {o e:Expr} {apos gY:Pos} {td ty:TE}
theorem JP (ho:PE X o td) (he:PE X e ty) (m:M1 X o "update" apos e gY):PE X (.Call (.Attribute o "update" apos) [e] [] gY) (R7 td ty):=by
 intro pins s σ H Q I h
 refine wpAny_Call_method m.base m.ZM m.line PySem.F.plainAttrs_dict PySem.F.slot_dict_update PySem.F.type_dict_update (bV (ho pins s σ H _ I h) fun u s1 ⟨x,H1,I1,rx,a,ex,d,q1⟩=>?_)
 subst ex
 obtain rfl:u=Value.ref a:=rx
 obtain⟨t1,t2,_⟩:=EV I1 d
 refine⟨t1,t2,?_⟩
 rw[m.trees]
 refine Calls.callWith_builtin rfl (Calls.evalArgs_plain (Calls.spliced_cons (bV (he pins s1 σ H1 _ I1 q1) fun iv s2 ⟨y,H2,I2,ry,b,kvs,more,ey,ea,eb,NV,hz,q2⟩=>Calls.spliced_nil ?_)))
 subst ey
 obtain rfl:iv=Value.ref b:=ry
 exact Fd I2 ea eb NV hz fun s3 I3=>⟨.cI,_,I3,rfl,q2⟩
end
end L2
namespace L2
open PySem PySem.Spec PyProof.Rows
end L2
namespace L2
open PySem PySem.Spec PyProof.Rows
end L2
namespace L2
open PySem PySem.Spec PyProof.Rows PySem.W
section
variable {X:Cx}
end
end L2
namespace L2
open PySem PySem.Spec PyProof.Rows
theorem NZ {X:Cx} {body:List Stmt} {h0:ExceptHandler} {hs:List ExceptHandler} {pos:Pos} {t:TS} (hx:∀v s,X.xe v s→False) (hb:lO X body t):PS X (.Try body (h0::hs) [] [] pos) t:=by
 intro pins s σ H D I h
 refine wpAny_Try_except (wpAny_mono (hb pins s σ H D I h) (fun f s1 q=>?_) fun e s1 z=>(hx e s1 z).elim)
 cases f with
 |next=>exact wpAny_execs_nil q
 |brk=>exact q
 |cont=>exact q
 |ret u=>exact q
end L2
namespace L2
open PySem PySem.Spec PyProof.Rows
section
variable {X:Cx}
theorem Fe:oW X (binaryOp .FloorDiv) (rI (fun _ j=>0<j∧j<18446744073709551616) fun i j=> .int (i/j)):=Rm fun i j _ _ _ _ _ hc q=>by
 have h1:(0 :Int) <j:=hc.1
 have h2:j<18446744073709551616:=hc.2
 refine floordiv_int (by omega) (by rw[Int.fdiv_eq_ediv_of_nonneg i (by omega)];exact q) (.inl (PyProof.noPylong_of_log2 ?_))
 have:=(Nat.log2_lt (n:=j.natAbs) (by omega) (k:=64)).mpr (by omega)
 omega
end
end L2
namespace L2
open PySem PySem.Spec PyProof.Rows
section
variable {X:Cx}
end
end L2
namespace L2
open PySem PySem.Spec PyProof.Rows
section
variable {X:Cx}
end
end L2
namespace PySem
structure Heap.n9 (h:Heap) (e:Addr) (tb:Option Addr):Prop where
 ex:∃oe vs,h.get? e=some oe∧oe.data= .fields vs∧vs[1]? =some (tb.elim Value.none Value.ref)
 tr:∀T,tb=some T→T≠e∧∃oT ts,h.get? T=some oT∧oT.data= .fields ts∧3<ts.size
structure Heap.Moved (fs:List Addr) (e:Addr) (tb:Option Addr) (h h':Heap):Prop where
 keep:∀b o,h.get? b=some o→b≠e→tb≠some b→b∉fs→h'.get? b=some o
 slot:∀b o,h.get? b=some o→b≠e→tb≠some b→∃sl,h'.get? b=some { o with slots:=sl }
 self:∀o,h.get? e=some o→∃vs,h'.get? e=some { o with data:= .fields vs }
 ent:∀b o,tb=some b→b≠e→h.get? b=some o→∃o',h'.get? b=some o'
 size:h.objs.size≤h'.objs.size
theorem Heap.Moved.there {fs:List Addr} {e:Addr} {tb:Option Addr} {h h':Heap} (m:Heap.Moved fs e tb h h') (b:Addr) (o:Obj) (q:h.get? b=some o):∃o',h'.get? b=some o':=by
 by_cases be:b=e
 ·subst be
  obtain⟨vs,z⟩:=m.self o q
  exact⟨_,z⟩
 ·by_cases bt:tb=some b
  ·exact m.ent b o bt be q
  ·obtain⟨sl,z⟩:=m.slot b o q be bt
   exact⟨_,z⟩
theorem Heap.Moved.refl {fs:List Addr} {e:Addr} {tb:Option Addr} {h:Heap} (x:h.n9 e tb):Heap.Moved fs e tb h h:=
 ⟨fun _ _ q _ _ _=>q,fun _ o q _ _=>⟨o.slots,q⟩,fun o q=>by
  obtain⟨oe,vs,he,hd,_⟩:=x.ex
  rw[q] at he
  cases he
  exact⟨vs,by rw[q,←hd]⟩,fun _ o _ _ q=>⟨o,q⟩,Nat.le_refl _⟩
theorem Heap.Moved.trans {fs:List Addr} {e:Addr} {tb tb':Option Addr} {h h1 h2:Heap} (x:Heap.Moved fs e tb h h1) (y:Heap.Moved fs e tb' h1 h2) (n:∀T,tb'=some T→tb=some T∨h.objs.size≤T):Heap.Moved fs e tb h h2 where
 keep:=fun b o q be bt bf=>y.keep b o (x.keep b o q be bt bf) be (fun z=>(n b z).elim bt fun w=>absurd (Heap.lt_size q) (Nat.not_lt.mpr w)) bf
 slot:=fun b o q be bt=>by
  obtain⟨sl,z⟩:=x.slot b o q be bt
  obtain⟨Q8,z'⟩:=y.slot b _ z be (fun z=>(n b z).elim bt fun w=>absurd (Heap.lt_size q) (Nat.not_lt.mpr w))
  exact⟨Q8,z'⟩
 self:=fun o q=>by
  obtain⟨vs,z⟩:=x.self o q
  obtain⟨vs',z'⟩:=y.self _ z
  exact⟨vs',z'⟩
 ent:=fun b o _ be q=>by
  obtain⟨o1,z⟩:=x.there b o q
  exact y.there b o1 z
 size:=Nat.le_trans x.size y.size
theorem Heap.Moved.mono {fs Je:List Addr} {e:Addr} {tb:Option Addr} {h h':Heap} (x:Heap.Moved fs e tb h h') (k:∀b∈fs,b∈Je):Heap.Moved Je e tb h h':=
 ⟨fun b o q be bt bf=>x.keep b o q be bt fun z=>bf (k b z),x.slot,x.self,x.ent,x.size⟩
theorem vj {o:Obj} {vs:Array Value} (hd:o.data= .fields vs) (f:Array Value→Array Value):o.mapFields f={ o with data:= .fields (f vs) }:=by
 obtain⟨a,b,c,d⟩:=o
 cases hd
 rfl
section
variable {M:Model} {A:Around} {E:Value→Shared→Prop} {s:Shared}
theorem xF {base:Heap} {env:Env} {outer:List Env} {L e:Addr} {oe:Obj} {vs:Array Value} {Z8:Value} {nx:Bool} {Q:Unit→Shared→Prop} (fr:A.frames=some (env::outer)) (fl:s.heap.FunFrames base (env::outer)) (hL:env.frame=some L)
  (xe:s.heap.get? e=some oe) (xd:oe.data= .fields vs) (xs:1<vs.size)
  (k:∀h' T,h'.n9 e (some T)→s.heap.objs.size≤T→Heap.Moved ((env::outer).filterMap (·.frame)) e none s.heap h'→Q () { s with heap:=h' }):
  wpAny M A (do let a←frameOf env;let pl←entryPlaceOf L nx;let b←EntryCells.newEntry Z8 a .none (rawInt L) .none pl;setField (.ref e) 1 b) Q E s:=by
 have ene:e∉(env::outer).filterMap (·.frame):=fun z=>by
  obtain⟨_,o,q,nf⟩:=fl.mem z
  rw[xe] at q
  cases q
  exact nf vs xd
 refine wpAny_bind (wpAny_frameOf_fun fr fl hL fun g1 so=>?_)
 refine wpAny_bind (wpAny_entryPlaceOf fun pl ok=>?_)
 unfold EntryCells.newEntry newFields
 refine wpAny_bind (wpAny_newObj_type ?_ (ok.sizeOk5 _ _ _ _ _))
 have e1:g1.get? e=some oe:=(so.2.1 e ene).trans xe
 generalize hO:({ cls:= .type "traceback",dict:=none,data:= .fields ([Z8, .ref L, .none,rawInt L, .none]++(if pl.isEmpty then List.replicate 6 Value.none else pl)).toArray }:Obj)=ob
 have e2:=Heap.get?_push_of_some (h:=g1) ob e1
 refine wpAny_setField e2 xd xs ?_
 have Te:g1.objs.size≠e:=Nat.ne_of_gt (Heap.lt_size e1)
 have nf:ob.isFreed=false:=by rw[←hO];rfl
 have eT:(g1.push ob).get? g1.objs.size=some ob:=Heap.get?_push_size g1 nf
 have e3:=Heap.get?_update_self (Obj.mapFields (·.setIfInBounds 1 (Value.ref g1.objs.size))) e2 (Obj.isFreed_of_fields (Obj.data_mapFields xd _))
 refine k _ g1.objs.size ⟨⟨_,_,e3,Obj.data_mapFields xd _,by simp [xs]⟩,fun T z=>?_⟩ (Nat.le_of_eq so.1.symm) ⟨fun b o q be _ bf=>?_,fun b o q be _=>?_,fun o q=>?_,fun b o z=>(by cases z),?_⟩
 ·cases z
  refine⟨Te,ob,([Z8, .ref L, .none,rawInt L, .none]++(if pl.isEmpty then List.replicate 6 Value.none else pl)).toArray,?_,by rw[←hO],by simp only [List.size_toArray,List.length_append,List.length_cons,List.length_nil];omega⟩
  rw[Heap.get?_update_other _ _ (Ne.symm Te)]
  exact eT
 ·rw[Heap.get?_update_other _ _ (Ne.symm be)]
  exact Heap.get?_push_of_some _ ((so.2.1 b bf).trans q)
 ·obtain⟨sl,z⟩:=so.2.2 b o q
  refine⟨sl,?_⟩
  rw[Heap.get?_update_other _ _ (Ne.symm be)]
  exact Heap.get?_push_of_some _ z
 ·rw[xe] at q
  cases q
  exact⟨_,e3.trans (by rw[vj xd])⟩
 ·show s.heap.objs.size≤((g1.push ob).update e _).objs.size
  rw[Heap.size_after_update,Heap.size_push,←so.1]
  exact Nat.le_succ _
theorem i3 {e:Addr} {tb fr:Option Addr} {Q:Unit→Shared→Prop} (x:s.heap.n9 e tb) (k:∀h',h'.n9 e tb→Heap.Moved [] e tb s.heap h'→Q () { s with heap:=h' }):wpAny M A (setFlight (.ref e) fr) Q E s:=by
 obtain⟨oe,vs,he,hd,h1⟩:=x.ex
 unfold setFlight
 refine wpAny_bind (wpAny_field he hd h1 ?_)
 cases tb with
 |none=>
  rw[if_neg (by decide)]
  exact wpAny_pure (k _ x (.refl x))
 |some T=>
  obtain⟨ne,oT,ts,hT,dT,sz⟩:=x.tr T rfl
  rw[if_pos (show ((some T).elim Value.none Value.ref != Value.none)=true from by simp)]
  generalize (fr.elim Value.none fun f=>rawInt f)=v3
  refine wpAny_setField hT dT sz ?_
  have N0:(s.heap.update T (Obj.mapFields (·.setIfInBounds 3 v3))).get? e=some oe:=(Heap.get?_update_other _ _ ne).trans he
  have YH:=Heap.get?_update_self (Obj.mapFields (·.setIfInBounds 3 v3)) hT (Obj.isFreed_of_fields (Obj.data_mapFields dT _))
  refine k _ ⟨⟨oe,vs,N0,hd,h1⟩,fun T' z=>?_⟩ ⟨fun b o q _ bt _=>?_,fun b o q _ bt=>⟨o.slots,?_⟩,fun o q=>?_,fun b o z _ _=>?_,?_⟩
  ·cases z
   exact⟨ne,_,_,YH,Obj.data_mapFields dT _,by simp [sz]⟩
  ·exact(Heap.get?_update_other _ _ fun z=>bt (by rw[z])).trans q
  ·exact(Heap.get?_update_other _ _ fun z=>bt (by rw[z])).trans q
  ·rw[he] at q
   cases q
   exact⟨vs,by rw[N0,←hd]⟩
  ·cases z
   exact⟨_,YH⟩
  ·show s.heap.objs.size≤(s.heap.update T _).objs.size
   rw[Heap.size_after_update]
   exact Nat.le_refl _
theorem vk {base:Heap} {env:Env} {outer:List Env} {L e:Addr} {tb:Option Addr} {Q:Unit→Shared→Prop} (fr:A.frames=some (env::outer)) (fl:s.heap.FunFrames base (env::outer)) (hL:env.frame=some L) (x:s.heap.n9 e tb)
  (k:∀h' T,h'.n9 e (some T)→tb=some T∨s.heap.objs.size≤T→Heap.Moved ((env::outer).filterMap (·.frame)) e tb s.heap h'→Q () { s with heap:=h' }):wpAny M A (noteFrame (.ref e) env) Q E s:=by
 obtain⟨oe,vs,he,hd,h1⟩:=id x.ex
 have sz1:1<vs.size:=(Array.getElem?_eq_some_iff.mp h1).1
 unfold noteFrame
 simp only [hL]
 refine wpAny_bind (wpAny_field he hd h1 ?_)
 cases tb with
 |none=>
  rw[if_neg (by decide)]
  exact xF fr fl hL he hd sz1 fun h' T a b c=>k h' T a (.inr b) c
 |some T=>
  obtain⟨ne,oT,ts,hT,dT,sz⟩:=x.tr T rfl
  rw[if_pos (show ((some T).elim Value.none Value.ref != Value.none)=true from by simp)]
  have h3:ts[3]? =some ts[3]:=Array.getElem?_eq_getElem sz
  refine wpAny_bind (wpAny_field hT dT h3 ?_)
  by_cases c:(ts[3]==rawInt L)=true
  ·rw[if_pos c]
   exact wpAny_pure (k _ T x (.inl rfl) (.refl x))
  ·rw[if_neg c]
   refine wpAny_bind (wpAny_setField hT dT sz ?_)
   have ot:∀b,b≠T→(s.heap.update T (Obj.mapFields (·.setIfInBounds 3 Value.none))).get? b=s.heap.get? b:=fun b z=>Heap.get?_update_other _ _ (Ne.symm z)
   have YH:=Heap.get?_update_self (Obj.mapFields (·.setIfInBounds 3 Value.none)) hT (Obj.isFreed_of_fields (Obj.data_mapFields dT _))
   have zs:(s.heap.update T (Obj.mapFields (·.setIfInBounds 3 Value.none))).objs.size=s.heap.objs.size:=Heap.size_after_update ..
   refine xF (s:={ s with heap:=s.heap.update T (Obj.mapFields (·.setIfInBounds 3 Value.none)) }) fr (fl.of_keeps fun b o q nf=>⟨o,(ot b fun z=>?_).trans q,rfl⟩) hL ((ot e (Ne.symm ne)).trans he) hd sz1 fun h' T' a b c=>k h' T' a (.inr (by rw[←zs];exact b)) ?_
   ·rw[z,hT] at q
    cases q
    exact nf ts dT
   ·refine⟨fun b o q be bt bf=>c.keep b o ((ot b fun z=>bt (by rw[z])).trans q) be (fun z=>by cases z) bf,fun b o q be bt=>c.slot b o ((ot b fun z=>bt (by rw[z])).trans q) be fun z=>(by cases z),fun o q=>c.self o ((ot e (Ne.symm ne)).trans q),fun b o z be q=>?_,?_⟩
    ·cases z
     exact c.there _ _ YH
    ·rw[←zs]
     exact c.size
theorem Ff {base:Heap} {env:Env} {outer:List Env} {L e:Addr} {tb:Option Addr} {Q:Unit→Shared→Prop} (fr:A.frames=some (env::outer)) (fl:s.heap.FunFrames base (env::outer)) (hL:env.frame=some L) (x:s.heap.n9 e tb)
  (k:∀h' T,h'.n9 e (some T)→tb=some T∨s.heap.objs.size≤T→Heap.Moved ((env::outer).filterMap (·.frame)) e tb s.heap h'→Q () { s with heap:=h' }):wpAny M A (leaving env (.ref e)) Q E s:=by
 unfold leaving
 refine wpAny_bind (vk fr fl hL x fun h1 T a b c=>i3 (s:={ s with heap:=h1 }) a fun h2 a' c'=>k h2 T a' b (c.trans (c'.mono fun _ z=>absurd z (by simp)) fun T' z=>?_))
 cases z
 exact b
theorem JQ {env:Env} {e T:Addr} {Q:Unit→Shared→Prop} (x:s.heap.n9 e (some T)) (k:∀h',h'.n9 e (some T)→Heap.Moved [] e (some T) s.heap h'→Q () { s with heap:=h' }):
  wpAny M A (do
   if (←field (.ref e) 1)== .none then unsupported "frame.own-activation:exception-without-traceback"
   setFlight (.ref e) env.frame) Q E s:=by
 obtain⟨oe,vs,he,hd,h1⟩:=id x.ex
 refine wpAny_bind (wpAny_field he hd h1 ?_)
 rw[if_neg (by simp)]
 exact i3 x k
end
end PySem
namespace PySem.W
open PySem PySem.Calls PyProof.Rows PySem.Builtin PySem.Builtin.ObjectAttr
abbrev xG:List Value:=[.type "ValueError", .type "Exception", .type "BaseException", .type "object"]
structure fR (K:Frag) (C HE f:Addr):Prop where
 obj:∃(nm q:Str) (N:Addr) (bs:List Value) (sn:List Str) (sub:List Value) (ab:Bool) (col:Option Bool) (dd:Option Addr) (k0 k1 k2 k3 k5:Option Value),
  K.lookup C=some (excClassObj nm q C N bs (.ref HE::xG) true sn sub ab col dd k0 k1 k2 k3 k5 "ValueError.__new__")
 init:findIn K (.ref C) "__init__" =some (some (.ref f))
 fn:typeIn K (.ref f)=some (.type "function")
 sa:findIn K (.ref C) "__setattr__" =some (some (.builtin "object.__setattr__"))
 ga:findIn K (.ref C) "__getattribute__" =some (some (.builtin "BaseException.__getattribute__"))
 gh:findIn K (.ref C) "__getattr__" =some none
theorem jo {C HE:Addr} {T:String} {b:Bool} (h:xG.contains (.type T)=b):(Value.ref C:: .ref HE::xG).contains (.type T)=b:=by
 rw[List.contains_cons,List.contains_cons,h]
 rfl
section
variable {prog:Program} {w:World} {A:Around} {E:Value→Shared→Prop} {R:Result→Shared→Prop} {h:Heap} {g:Array GenState} {d:Drawn} {t:Nat} {os:OsState}
variable {nm q:Str} {C N HE:Addr} {bs:List Value} {sn:List Str} {sub:List Value} {ab:Bool} {col:Option Bool} {dd:Option Addr} {k0 k1 k2 k3 k5:Option Value}
abbrev qC (vs:List Value):Obj:={ cls:= .type "tuple",data:= .seq vs.toArray }
abbrev qD (C t:Addr):Obj:={ cls:= .ref C,data:= .fields #[.ref t, .none, .none, .none, .bool false, .none] }
theorem vm {M:Model} {rest:List Value} {Q:Unit→Shared→Prop} (kC:h.get? C=some (excClassObj nm q C N bs (.ref HE::xG) true sn sub ab col dd k0 k1 k2 k3 k5 "ValueError.__new__"))
  (z:Q () ⟨h,g,d,t,os⟩):wpAny M A (checkBuiltinCall "ValueError.__new__" ⟨.ref C::rest,[]⟩) Q E ⟨h,g,d,t,os⟩:=by
 have F:=PySem.F.excBase_ValueError
 have c1:(Value.ref C:: .ref HE::xG).contains (.type "ValueError")=true:=jo (by decide+kernel)
 have f0:=F.noStar
 simp only [checkBuiltinCall,F.newKind,F.newSplit,F.newRow]
 repeat (first|refine wpAny_loadPart_at kC ?_| (refine wpAny_isSubtype_exc kC ?_;rw[c1]) |refine wpAny_staticBase_exc kC ?_|refine wpAny_madeBy_exc kC ?_|simp only [bne_self_eq_false,Bool.false_eq_true,if_false] |wp_step)
 exact z
theorem N2 {rest:List Value} (kC:h.get? C=some (excClassObj nm q C N bs (.ref HE::xG) true sn sub ab col dd k0 k1 k2 k3 k5 "ValueError.__new__"))
  (z:R (.ok (.ret (.ref (h.objs.size+1)))) ⟨(h.push (qC rest)).push (qD C h.objs.size),g,d,t,os⟩) (hz:rest.length≤sizeLine):
  codeAny (model prog w) A (.builtin "ValueError.__new__" ⟨.ref C::rest,[]⟩) R ⟨h,g,d,t,os⟩:=by
 have F:=PySem.F.excBase_ValueError
 have f0:=F.ends
 have c1:(Value.ref C:: .ref HE::xG).contains (.type "ValueError")=true:=jo (by decide+kernel)
 have c2:(Value.ref C:: .ref HE::xG).contains (.type "AttributeError")=false:=jo (by decide+kernel)
 have c3:(Value.ref C:: .ref HE::xG).contains (.type "NameError")=false:=jo (by decide+kernel)
 refine codeAny_builtinAt F.entry ?_
 unfold Builtin.«BaseException.__new__»
 refine wpAt_bind ?_
 show wpAt _ _ _ (stack >>= _) _ _ _
 refine wpAt_bind (wpAt_stack fun p below=>wpAt_of_wpAny ?_)
 wp_walk
 refine wpAt_of_wpAny ?_
 rw[F.owner]
 repeat (first|with_reducible refine wpAny_madeHere_exc F.canon kC ?_|with_reducible refine wpAny_loadPart_at kC ?_| (with_reducible refine wpAny_isSubtype_exc kC ?_;first|rw[c1] |rw[c2] |rw[c3]) |wp_step)
 show R _ _
 rw[Heap.size_push]
 exact z
end
section
variable {prog:Program} {w:World} {A:Around} {E:Value→Shared→Prop} {R:Result→Shared→Prop} {s:Shared} {K:Frag} {C HE f:Addr}
theorem JR {vs:List Value} (X:K.In s.heap) (Z:fR K C HE f) (hz:vs.length≤sizeLine)
  (k:codeAny (model prog w) (A.under (.builtin "type.__call__" ⟨.ref C::vs,[]⟩)) (.call (.ref f) ⟨.ref (s.heap.objs.size+1)::vs,[]⟩) (InitBack (s.heap.objs.size+1) R) { s with heap:=(s.heap.push (qC vs)).push (qD C s.heap.objs.size) }):
  codeAny (model prog w) A (.call (.ref C) ⟨vs,[]⟩) R s:=by
 obtain⟨hp,g,d,t,os⟩:=s
 obtain⟨nm,q,N,bs,sn,sub,ab,col,dd,k0,k1,k2,k3,k5,hK⟩:=Z.obj
 have kC:=X _ _ hK
 have F:=PySem.F.excBase_ValueError
 have f1:=tc_lookup
 have f2:=tc_bind (.ref C)
 have hT:(⟨hp,g,d,t,os⟩:Shared).TypeIs (.ref C) "type" :=⟨_,kC,rfl⟩
 refine codeAny_of_tree ?_
 show wpAny _ _ (callAny (.ref C) _) _ _ _
 repeat (any_goals (first|assumption|with_reducible refine wpAny_loadPart_at kC ?_|wp_step))
 refine⟨rfl,?_⟩
 refine codeAny_call_builtin_at (Code.quiet_builtin _ (by decide+kernel)) entry_typeCall (wpAny_check_type_call_sub kC ?_)
 repeat (first|with_reducible refine wpAny_loadPart_at kC ?_|with_reducible refine wpAny_madeBy_exc kC ?_|wp_step)
 refine codeAny_call_builtin_code (Code.quiet_builtin _ F.quiet) (vm kC ?_)
 refine N2 kC ?_ hz
 show wpAny _ _ _ _ _ _
 have keeps:∀b o,hp.get? b=some o→((hp.push (qC vs)).push (qD C hp.objs.size)).get? b=some o:=fun b o e=>Heap.get?_push_of_some _ (Heap.get?_push_of_some _ e)
 have kC1:=keeps _ _ kC
 have X1:K.In ((hp.push (qC vs)).push (qD C hp.objs.size)):=fun b o e=>keeps b o (X b o e)
 have eg:((hp.push (qC vs)).push (qD C hp.objs.size)).get? (hp.objs.size+1)=some (qD C hp.objs.size):=by heap_get
 have c0:(Value.ref C:: .ref HE::xG).contains (.ref C)=true:=by simp
 unfold isInstance
 repeat (first|with_reducible refine wpAny_loadPart_at eg ?_|wp_step)
 show wpAny _ _ (isSubtype (.ref C) (.ref C)) _ _ _
 refine wpAny_isSubtype_exc kC1 ?_
 rw[c0]
 repeat (first|with_reducible refine wpAny_loadPart_at eg ?_|wp_step)
 show wpAny _ _ (typeLookup (.ref C) _) _ _ _
 refine looks_findIn X1 Z.init _ _ _ _ (fun _ _ e=>e) ?_
 refine wpAny_holding (wpAny_bind (bind_fn X1 _ Z.fn _ _ _ _ (fun _ _ e=>e) ?_))
 refine wpAny_bind (wpAny_call (codeAny_mono k fun r s' y=>?_))
 cases r with
 |error z=>exact y
 |ok fl=>
  cases fl with
  |ret u=>
   obtain⟨eu,y⟩:=y
   subst eu
   exact wpAny_pure (wpAny_pure y)
  |next=>exact y.elim
  |brk=>exact y.elim
  |cont=>exact y.elim
end
section
variable {prog:Program} {w:World} {A:Around} {E:Value→Shared→Prop} {R:Result→Shared→Prop} {s:Shared} {K:Frag} {C HE f e:Addr} {ox:Obj} {od:Option Obj} {vs:Array Value} {name:Str} {v:Value} {tk:Tok}
theorem fR.cd (Z:fR K C HE f):∃cd,clsIn K C=some cd∧cd.mro= .ref C:: .ref HE::xG∧cd.hasDict=true:=by
 obtain⟨nm,q,N,bs,sn,sub,ab,col,dd,k0,k1,k2,k3,k5,hK⟩:=Z.obj
 exact⟨_,by unfold clsIn;rw[hK],rfl,rfl⟩
theorem fR.mro (Z:fR K C HE f) {T:String} {b:Bool} (h:xG.contains (.type T)=b):mroIn K C (.type T)=some b:=by
 obtain⟨cd,a,m,_⟩:=Z.cd
 unfold mroIn
 rw[a,Option.bind_some,m,jo h]
 rfl
theorem Fg (X:K.In s.heap) (Z:fR K C HE f) (I:InstAt s.heap e ox C od) (ht:takerIn K C name=some none)
  (k:∀b,wpAny (model prog w) A.in1 (storeInOwnDict (.ref e) (.ref C) (.str name tk) name v b)
   (fun fin s'=>match fin with| .done f=>R (.ok f) s'| .again c'=>c'.quiet=true∧codeAny (model prog w) A c' R s') (fun e s'=>R (.error e) s') s):
  codeAny (model prog w) A (.call (.builtin "object.__setattr__") ⟨[.ref e, .str name tk,v],[]⟩) R s:=by
 have SO:=PySem.F.store_object
 obtain⟨cd,hc,hm,_⟩:=Z.cd
 have sub:Looks (model prog w) s.heap (isInstance (.ref e) (.type "object")) true:=I.type.andThen (looks_mroIn X (Z.mro (by decide+kernel)))
 refine codeAny_call_builtin SO.slot.plain SO.entry (@check_slot (model prog w) _ _ s "object.__setattr__" "object" "__setattr__" (.ref e) [.str name tk,v] [] _ SO.kind SO.split sub (SO.args (.ref e) (.str name tk) v) ?_)
 obtain⟨attr,ha,hr⟩:=Option.bind_eq_some_iff.mp ht
 have lm:Looks (model prog w) s.heap (mroOf (.ref C)) cd.mro:=(looks_clsIn X hc).andThen .now
 have l3:Looks (model prog w) s.heap (storeTaker? attr) none:=by
  cases attr with
  |none=>exact .now
  |some a=>
   obtain⟨b,hb,eb⟩:=Option.map_eq_some_iff.mp hr
   refine(looks_takesIn X hb).andThen ?_
   cases b with
   |true=>cases eb
   |false=>exact .now
 rw[osa_eq,refuse_eq]
 refine wpAny_bind (wpAny_bind (I.type.here (wpAny_bind (lm.here ?_))))
 rw[hm,refuseLoop_ref,refuseLoop_ref,PySem.F.store_ValueError.passes]
 exact wpAny_pure (wpAny_bind (I.type.here (wpAny_bind ((looks_findIn X ha).here (wpAny_bind (l3.here (k _)))))))
theorem JS {Q:Unit→Shared→Prop} (X:K.In s.heap) (Z:fR K C HE f) (ht:takerIn K C name=some none) (hx:s.heap.get? e=some ox) (hc:ox.cls= .ref C) (hd:ox.data= .fields vs) (hn:ox.dict=none)
  (k:∀h' NN,h'.get? e=some { ox with dict:=some s.heap.objs.size }→h'.Ns1 s.heap.objs.size (fun y=>if y=name then some v else none)→(∀b o,b≠e→s.heap.get? b=some o→h'.get? b=some o)→Q () { s with heap:=h',toks:=NN }):
  wpAny (model prog w) A (setAttr (.ref e) name v) Q E s:=by
 have I:InstAt s.heap e ox C none:=⟨hx,hc,by unfold notCls;rw[hd],by rw[hn];trivial⟩
 obtain⟨cd,oS,_,hh⟩:=Z.cd
 refine set_plain X I Z.sa (Fg (s:={ s with toks:=s.toks+1 }) X Z I ht fun b=>?_)
 obtain⟨oc,YI,Z9,r8⟩:=ox
 dsimp only at hc hd hn
 subst hc hd hn
 refine wpAny_bind (wpAny_pure (wpAny_bind (wpAny_bind (wpAny_loadPart hx (wpAny_bind (Looks.here (s:={ s with toks:=s.toks+1 }) (looks_clsIn X oS) ?_))))))
 rw[hh]
 have xs:e≠s.heap.objs.size:=Nat.ne_of_lt (Heap.lt_size hx)
 rw[if_neg (by decide)]
 have QN:=Heap.get?_push_of_some (h:=s.heap) { cls:= .type "dict",data:= .dict #[] } hx
 refine wpAny_bind (wpAny_alloc' (wpAny_bind (wpAny_update' QN (wpAny_pure ?_))))
 generalize hG:(s.heap.push { cls:= .type "dict",data:= .dict #[] }).update e (fun o=>{ cls:=o.cls,dict:=some s.heap.objs.size,data:=o.data,slots:=o.slots })=G
 have gd:G.get? s.heap.objs.size=some { cls:= .type "dict",data:= .dict #[] }:=by
  rw[←hG]
  exact(Heap.get?_update_ne _ _ _ _ (Ne.symm xs)).trans (Heap.get?_push_at rfl rfl)
 have gx:G.get? e=some { cls:= .ref C,dict:=some s.heap.objs.size,data:= .fields vs,slots:=r8 }:=by
  rw[←hG]
  exact Heap.get?_update_self _ QN rfl
 have go:∀b o,b≠e→s.heap.get? b=some o→G.get? b=some o:=fun b o be q=>by
  rw[←hG]
  exact(Heap.get?_update_ne _ _ _ _ be).trans (Heap.get?_push_of_some _ q)
 have gn:G.Ns s.heap.objs.size (fun _=>none):=⟨_,#[],_,gd,rfl,fun y hy=>absurd hy (by simp),fun _=>rfl⟩
 show wpAny _ _ (storeInDict s.heap.objs.size (.str name s.toks) name v) _ _ { s with heap:=G,toks:=s.toks+1 }
 unfold storeInDict newKeyGuard
 refine wpAny_bind (wpAny_pure (wpAny_bind (wpAny_nsSet1 (s:={ s with heap:=G,toks:=s.toks+1 }) (Heap.Ns1.of_empty gn) fun h' n2 s2=>?_)))
 obtain⟨o2,e2,p2,q2,d2,c2⟩:=n2.count (PySem.Within.cons name v PySem.Within.nil)
 refine wpAny_bind (wpAny_lookBehind q2 (by rw[d2];exact pastItsLine_dict (Nat.le_trans c2 (by rw[List.length_cons,List.length_nil,sizeLine_eq];omega))) ?_)
 exact wpAny_pure (k _ _ ((s2.2 e xs).trans gx) n2 fun b o be q=>(s2.2 b (Nat.ne_of_lt (Heap.lt_size q))).trans (go b o be q))
theorem JT {Q:Unit→Shared→Prop} {dx:Addr} {mA:Str→Option Value} {ns:List Str} (X:K.In s.heap) (Z:fR K C HE f) (ht:takerIn K C name=some none) (hx:s.heap.get? e=some ox) (hc:ox.cls= .ref C) (hd:ox.data= .fields vs) (hn:ox.dict=some dx)
  (N1:s.heap.Ns1 dx mA) (hw:PySem.Within mA ns) (hsz:ns.length≤1000)
  (k:∀h',h'.Ns1 dx (fun y=>if y=name then some v else mA y)→Heap.SameBut dx s.heap h'→Q () { s with heap:=h',toks:=s.toks+2 }):
  wpAny (model prog w) A (setAttr (.ref e) name v) Q E s:=by
 obtain⟨oD,ed,pd,N3,dD,_⟩:=id N1
 have I:InstAt s.heap e ox C (some oD):=⟨hx,hc,by unfold notCls;rw[hd],by rw[hn];exact N3⟩
 obtain⟨cd,oS,_,hh⟩:=Z.cd
 refine set_plain X I Z.sa (Fg (s:={ s with toks:=s.toks+1 }) X Z I ht fun b=>?_)
 obtain⟨oc,YI,Z9,r8⟩:=ox
 dsimp only at hc hd hn
 subst hc hd hn
 refine wpAny_bind (wpAny_pure (wpAny_bind (wpAny_bind (wpAny_loadPart hx (wpAny_bind (Looks.here (s:={ s with toks:=s.toks+1 }) (looks_clsIn X oS) ?_))))))
 rw[hh]
 refine wpAny_pure (a:=some dx) (wpAny_bind (wpAny_pure (wpAny_bind ?_)))
 refine wpAny_nsSet1 (s:={ s with toks:=s.toks+1 }) N1 fun h' n2 s2=>?_
 obtain⟨o2,e2,p2,q2,d2,c2⟩:=n2.count (PySem.Within.cons name v hw)
 refine wpAny_bind (wpAny_lookBehind q2 (by rw[d2];exact pastItsLine_dict (Nat.le_trans c2 (by rw[List.length_cons,sizeLine_eq];omega))) ?_)
 exact wpAny_pure (k _ n2 s2)
theorem N4 {Q:Value→Shared→Prop} {expr:Bool} (X:K.In s.heap) (Z:fR K C HE f) (I:InstAt s.heap e ox C od) (hf:findObj K C od name=some (.value v)) (hh:handedIn v=true) (k:Q v { s with toks:=s.toks+1 }):
  wpAny (model prog w) A (getAttr (.ref e) name expr) Q E s:=by
 have T0:=I.type (M:=model prog w)
 have SG:=PySem.F.attr_ValueError.ga
 refine wpAny_bind (wpAny_mkText (wpAny_holding (wpAny_bind (T0 _ _ _ _ (fun _ _ y=>y) (wpAny_bind (looks_findIn X Z.ga _ _ _ _ (fun _ _ y=>y) ?_))))))
 dsimp only
 rw[show (onTheHeap (Value.ref C)&&Value.builtin "BaseException.__getattribute__" ==Value.builtin "object.__getattribute__")=false from by rw[show (Value.builtin "BaseException.__getattribute__" ==Value.builtin "object.__getattribute__")=false from by decide+kernel,Bool.and_false],if_neg (by decide)]
 refine wpAny_bind (looks_hook X (show (if onTheHeap (Value.ref C) then findIn K (.ref C) "__getattr__" else some none)=some none from Z.gh) _ _ _ _ (fun _ _ y=>y) (wpAny_bind (wpAny_attempt (wpAny_holding ?_))))
 unfold callGetattribute
 rw[show (expr&&onTheHeap (Value.builtin "BaseException.__getattribute__"))=false from Bool.and_false _,if_neg (by decide)]
 unfold boundAndCalled
 rw[SG.bind]
 refine wpAny_bind (wpAny_pure ?_)
 show wpAny _ _ (call (.builtin "BaseException.__getattribute__") [.ref e, .str name s.toks]) _ _ _
 refine wpAny_call (codeAny_call_builtin SG.plain PySem.F.entry_bexc_ga ?_)
 refine @check_slot (model prog w) _ _ { s with toks:=s.toks+1 } "BaseException.__getattribute__" "BaseException" "__getattribute__" (.ref e) [.str name s.toks] [] _ (by decide+kernel) (by decide+kernel) (T0.andThen (looks_mroIn X (Z.mro (by decide+kernel)))) (PySem.F.args_bexc_ga _ _) ?_
 have l1:=looks_find (M:=model prog w) X I hf
 unfold Builtin.«object.__getattribute__»
 refine wpAny_bind (wpAny_of_eq (a:=(Value.ref e,[Value.str name s.toks])) rfl ?_)
 refine wpAny_bind (wpAny_pure (a:=name) (wpAny_bind (T0 _ _ _ _ (fun _ _ y=>y) (wpAny_bind (l1 _ _ _ _ (fun _ _ y=>y) (wpAny_pure ?_))))))
 show wpAny _ _ (handedOut v) _ _ _
 rw[handedOut_of hh]
 exact wpAny_pure k
end
section
variable {M:Model} {A:Around} {E:Value→Shared→Prop} {s:Shared} {K:Frag} {env:Env}
theorem Fh {x:Sem Value} {Q:Flow→Shared→Prop} (ha:A.handled=none)
  (k:wpAny M A x (fun v s1=>∃e oe vs C HE f,v= .ref e∧K.In s1.heap∧fR K C HE f∧s1.heap.get? e=some oe∧oe.cls= .ref C∧oe.data= .fields vs∧vs[1]? =some .none∧E (.ref e) s1) E s):wpAny M A (raiseStmt env (some x) none) Q E s:=by
 unfold raiseStmt
 refine wpAny_bind (wpAny_mono k (fun v s1 y=>?_) fun _ _ y=>y)
 obtain⟨e,oe,vs,C,HE,f,rfl,X,Z,he,hc,hd,h1,hE⟩:=y
 have cB:(Value.ref C:: .ref HE::xG).contains (.type "BaseException")=true:=jo (by decide+kernel)
 obtain⟨nm,q,N,bs,sn,sub,ab,col,dd,k0,k1,k2,k3,k5,hK⟩:=Z.obj
 have kC:=X _ _ hK
 obtain⟨hp,g,d,tk,os⟩:=s1
 obtain⟨oc,YI,Z9,r8⟩:=oe
 dsimp only at hc hd
 subst hc hd
 repeat (first|with_reducible refine wpAny_loadPart_at he ?_|with_reducible refine wpAny_loadPart_at kC ?_| (with_reducible refine wpAny_isSubtype_exc kC ?_;rw[cB]) |wp_step)
 rw[h1]
 refine wpAny_pure ?_
 rw[if_neg (by decide)]
 exact wpAny_pure (wpAny_raiseNew_none ha hE)
end
section
variable {prog:Program} {w:World} {A:Around} {E:Value→Shared→Prop} {s:Shared} {K:Frag} {C HE f e:Addr} {ox:Obj} {vs:Array Value}
theorem Fi {us:List Value} {Q:Value→Shared→Prop} (X:K.In s.heap) (Z:fR K C HE f) (hx:s.heap.get? e=some ox) (hc:ox.cls= .ref C) (hd:ox.data= .fields vs) (h0:0<vs.size) (hz:us.length≤sizeLine)
  (k:∀h',h'.get? e=some { ox with data:= .fields (vs.setIfInBounds 0 (.ref s.heap.objs.size)) }→(∀b o,b≠e→s.heap.get? b=some o→h'.get? b=some o)→Q .none { s with heap:=h' }):
  wpAny (model prog w) A (call (.builtin "ValueError.__init__") (.ref e::us)) Q E s:=by
 have F:=PySem.F.excBase_ValueError
 obtain⟨nm,q,N,bs,sn,sub,ab,col,dd,k0,k1,k2,k3,k5,hK⟩:=Z.obj
 have kC:=X _ _ hK
 have c1:(Value.ref C:: .ref HE::xG).contains (.type "ValueError")=true:=jo (by decide+kernel)
 obtain⟨hp,g,d,t,os⟩:=s
 obtain⟨oc,YI,Z9,r8⟩:=ox
 dsimp only at hc hd
 subst hc hd
 refine wpAny_call (codeAny_call_builtin F.init.plain F.initEntry ?_)
 have f0:=F.noStar
 simp only [checkBuiltinCall,F.initKind,F.initSplit,F.initRow]
 repeat (first|with_reducible refine wpAny_loadPart_at hx ?_|with_reducible refine wpAny_loadPart_at kC ?_| (with_reducible refine wpAny_isSubtype_exc kC ?_;rw[c1]) |wp_step)
 refine wpAny_onRaise ?_
 rw[show∀(a b:String) (n:Nat),Bind.check ⟨.positional,"*","ValueError", .self,[⟨"args", .varPos,false⟩]⟩ a b n (List.map (fun x=>x.fst) ({ pos:=Value.ref e::us }:Args).kw)=pure () from fun a b n=>check_star_args _ _ _ _ _ _]
 refine wpAny_pure ?_
 wp_walk
 rw[show vs[0]? =some vs[0] from Array.getElem?_eq_getElem h0]
 refine wpAny_pure (wpAny_bind (wpAny_setField (Heap.get?_push_of_some _ hx) rfl h0 ?_))
 generalize hG:((hp.push (qC us)).update e (Obj.mapFields (·.setIfInBounds 0 (Value.ref hp.objs.size))))=G
 have gx:G.get? e=some { cls:= .ref C,dict:=YI,data:= .fields (vs.setIfInBounds 0 (.ref hp.objs.size)),slots:=r8 }:=by
  rw[←hG]
  exact Heap.get?_update_self (Obj.mapFields (·.setIfInBounds 0 (Value.ref hp.objs.size))) (Heap.get?_push_of_some (qC us) hx) rfl
 have go:∀b o,b≠e→hp.get? b=some o→G.get? b=some o:=fun b o be q=>by
  rw[←hG]
  exact(Heap.get?_update_other _ _ (Ne.symm be)).trans (Heap.get?_push_of_some _ q)
 have fin:=k G gx go
 generalize vs[0]=v0
 cases v0 with
 |ref a=>
  dsimp only
  repeat wp_step
  exact fin
 |_=>exact wpAny_pure (wpAny_pure fin)
end
end PySem.W
namespace L2
open PySem PySem.Spec PyProof.Rows
def zt (dx:Addr) (fs:List (Str×V)):HO:= .ext fun h=>∃mA,h.Ns1 dx mA∧(∀f,iy (fs.lookup f) (mA f))∧PySem.Within mA (fs.map (·.1))
def tH (e C:Addr) (dx:Option Addr):HO:= .ext fun h=>∃o vs,h.get? e=some o∧o.cls= .ref C∧o.dict=dx∧o.data= .fields vs∧vs[1]? =some .none
def CT (e C:Addr) (dx:Option Addr):HO:= .ext fun h=>∃o vs,h.get? e=some o∧o.cls= .ref C∧o.dict=dx∧o.data= .fields vs
section
variable {P:Program} {w:World} {H:Hp} {h:Heap} {e C dx:Addr} {od:Option Addr} {o:Obj} {vs:Array Value}
theorem L9 (he:h.get? e=some o) (hc:o.cls= .ref C) (hd:o.dict=od) (hf:o.data= .fields vs):cg P w H h e (CT e C od):=
 ⟨⟨o,vs,he,hc,hd,hf⟩,⟨o,he⟩,fun _ _ ⟨o,vs,a,b⟩ k=>⟨o,vs,k _ a,b⟩⟩
theorem Fj (he:h.get? e=some o) (hc:o.cls= .ref C) (hd:o.dict=od) (hf:o.data= .fields vs) (h1:vs[1]? =some .none):cg P w H h e (tH e C od):=
 ⟨⟨o,vs,he,hc,hd,hf,h1⟩,⟨o,he⟩,fun _ _ ⟨o,vs,a,b⟩ k=>⟨o,vs,k _ a,b⟩⟩
theorem L' {fs:List (Str×V)} {mA:Str→Option Value} (n:h.Ns1 dx mA) (r:∀f,iy (fs.lookup f) (mA f)) (wi:PySem.Within mA (fs.map (·.1))):cg P w H h dx (zt dx fs):=by
 obtain⟨o,es,ep,ho,z⟩:=id n
 exact⟨⟨mA,n,r,wi⟩,⟨o,ho⟩,fun _ _ ⟨m,⟨o,es,ep,ho,z⟩,r⟩ k=>⟨m,⟨o,es,ep,k _ ho,z⟩,r⟩⟩
theorem zu (ok:jQ P w H h) (q:H e=some (CT e C od)):∃o vs,h.get? e=some o∧o.cls= .ref C∧o.dict=od∧o.data= .fields vs:=(ok e _ q).1
theorem vn (ok:jQ P w H h) (q:H e=some (tH e C od)):∃o vs,h.get? e=some o∧o.cls= .ref C∧o.dict=od∧o.data= .fields vs∧vs[1]? =some .none:=(ok e _ q).1
theorem Fl {fs:List (Str×V)} (ok:jQ P w H h) (q:H dx=some (zt dx fs)):∃mA,h.Ns1 dx mA∧(∀f,iy (fs.lookup f) (mA f))∧PySem.Within mA (fs.map (·.1)):=(ok dx _ q).1
end
structure j2 (X:Cx) (T:Addr):Prop where
 above:X.s₀.heap.objs.size≤T
 loc:T≠X.env.locals
 cell:∀x c,X.env.cells.lookup x=some c→c≠T
 pn:∀p∈X.pn,p.1≠T
section
variable {X:Cx} {pins:List (Addr×Obj)} {σ:St} {H:Hp} {s:Shared} {e C:Addr} {od tb:Option Addr} {h':Heap} {ER:St→XK} {v:Value}
theorem Inv.Ma (I:Inv X pins σ H s) {T:Addr} (h:s.heap.objs.size≤T):j2 X T:=by
 refine⟨Nat.le_trans I.sz h,fun z=>?_,fun x c q z=>?_,fun p hp z=>?_⟩
 ·subst z
  exact absurd I.lt (Nat.not_lt.mpr h)
 ·obtain⟨_,o,ho,_⟩:=I.cell x c q
  subst z
  exact absurd (Heap.lt_size ho) (Nat.not_lt.mpr h)
 ·have q:=(I.pin p (List.mem_append_left _ hp)).1
  rw[z] at q
  exact absurd (Heap.lt_size q) (Nat.not_lt.mpr h)
def mF (X:Cx) (ER:St→XK) (v:Value) (s:Shared):Prop:=
 ∃e C dx σ H tb,v= .ref e∧Inv X [] σ H s∧H e=some (CT e C dx)∧s.heap.n9 e tb∧(∀T,tb=some T→H T=none∧j2 X T)∧ER σ (.ref C) dx H
def Lets (X:Cx) (ER:St→XK):Prop:=∀v s,mF X ER v s→X.xe v s
theorem j2.d6 {E:Value→Shared→Prop} {T:Addr} (n:j2 (X.jU E) T):j2 X T:=⟨n.above,n.loc,n.cell,n.pn⟩
theorem mF.d6 {E:Value→Shared→Prop} (z:mF (X.jU E) ER v s):mF X ER v s:=by
 obtain⟨e,C,dx,σ,H,tb,ev,I,he,fl,ht,hE⟩:=z
 exact⟨e,C,dx,σ,H,tb,ev,I.d6,he,fl,fun T q=>⟨(ht T q).1,(ht T q).2.d6⟩,hE⟩
theorem Fn:Lets (X.jU (mF X ER)) ER:=fun _ _ z=>z.d6
theorem Inv.Mb (I:Inv X pins σ H s):Inv X [] σ H s:=I.uV fun p hp=>absurd hp (by simp)
theorem Inv.moved (I:Inv X [] σ H s) (he:H e=some (CT e C od)) (ht:∀T,tb=some T→H T=none∧j2 X T) (m:Heap.Moved (wY X.stack) e tb s.heap h'):Inv X [] σ H { s with heap:=h' }:=by
 have ne:∀b,H b=none→b≠e:=fun b n z=>by
  subst z
  rw[he] at n
  cases n
 refine I.ED (s':={ s with heap:=h' }) (H':=H) (ch:=tb.toList) rfl ⟨fun b o q n hb hx=>m.keep b o q (ne b n) (fun z=>hx (by rw[z];simp)) hb,fun b o q n hb hx=>m.slot b o q (ne b n) fun z=>hx (by rw[z];simp),fun _ _ _ n _=>n,fun b o q _=>m.there b o q,
  fun _ _ q=>q,fun _ _ _ q=>q,fun _ ps q=>⟨#[],by simpa using q⟩⟩ (fun a o q=>?_) I.bare fun b hb=>?_
 ·by_cases ae:a=e
  ·subst ae
   rw[he] at q
   cases q
   obtain⟨o,vs,h1,h2,h3,h4⟩:=zu I.aX he
   obtain⟨vs',z⟩:=m.self o h1
   exact L9 z h2 h3 rfl
  ·refine(I.aX a o q).qg (fun b u hb z=>?_) (fun _ q=>q) fun _ _ q=>q
   have yN:∃o',H b=some o':=by
    rcases hb with hb|hb
    ·exact⟨o,by rw[hb];exact q⟩
    ·exact⟨_,hb⟩
   obtain⟨o',yN⟩:=yN
   refine m.keep b u z (fun z=>?_) (fun z=>?_) fun z=>?_
   ·rcases hb with hb|hb
    ·exact ae (hb.symm.trans z)
    ·rw[z,he] at hb
     cases hb
   ·rw[(ht b z).1] at yN
    cases yN
   ·rw[I.uU b z] at yN
    cases yN
 ·have z:tb=some b:=by
   cases tb with
   |none=>simp at hb
   |some T=>simp at hb;rw[hb]
  obtain⟨_,n⟩:=ht b z
  exact⟨.inr n.above,Ne.symm (Ne.symm n.loc),n.cell,by simpa using n.pn⟩
def JU (X:Cx):Prop:=X.stack=X.env::X.outer∧X.env.frame=some X.env.locals
theorem oa (hs:JU X) (I:Inv X pins σ H s):X.A.frames=some (X.env::X.outer)∧s.heap.FunFrames X.base (X.env::X.outer):=by
 refine⟨by rw[I.ok.frames,hs.1],?_⟩
 rw[←hs.1]
 exact I.stack
theorem zw (I:Inv X [] σ H s) {tb:Option Addr} {T:Addr} (ht:∀T,tb=some T→H T=none∧j2 X T) (b:tb=some T∨s.heap.objs.size≤T):∀T',some T=some T'→H T'=none∧j2 X T':=fun T' z=>by
 cases z
 rcases b with b|b
 ·exact ht T b
 ·exact⟨I.aX.fresh b,I.Ma b⟩
theorem CU (hs:JU X):PassesOwn (model X.prog X.w) X.A X.env (mF X ER):=by
 intro v s' z
 obtain⟨e,C,dx,σ,H,tb,ev,I,he,fl,ht,hE⟩:=z
 subst ev
 obtain⟨fr,ff⟩:=oa hs I
 refine vk fr ff hs.2 fl fun h1 T a b m=>?_
 have m1:Heap.Moved (wY X.stack) e tb s'.heap h1:=by unfold wY;rw[hs.1];exact m
 have I1:=I.moved he ht m1
 have t1:=zw I ht b
 refine JQ (s:={ s' with heap:=h1 }) a fun h2 a2 m2=>?_
 exact⟨e,C,dx,σ,H,some T,rfl,I1.moved he t1 (m2.mono fun _ z=>absurd z (by simp)),he,a2,t1,hE⟩
end
def yP (P:Program) (w:World):AM:=fun outer H s E v s'=>
 ∃e C dx H' tb,v= .ref e∧s'.os=s.os∧AllBare s'.gens∧Un (wY outer) [] H H' s.heap s'.heap∧jQ P w H' s'.heap∧H' e=some (CT e C dx)∧s'.heap.n9 e tb∧(∀T,tb=some T→H' T=none∧s.heap.objs.size≤T)∧E (.ref C) dx H'
section
variable {P:Program} {w:World} {K:PySem.W.Frag} {mg:Str→Option Value} {base:Heap} {N ps:List Str} {qual:Str} {scope:Scope} {f:Addr} {cd:Value} {A:Around} {outer:List Env} {s s':Shared} {H:Hp} {E:XK} {v:Value}
theorem xH (z:mF (ji (yP P w) P w K mg base N qual scope f cd A outer s H E) (fun _=>E) v s'):(ji (yP P w) P w K mg base N qual scope f cd A outer s H E).xe v s':=by
 obtain⟨e,C,dx,σ,H',tb,ev,I,he,fl,ht,hE⟩:=z
 subst ev
 obtain⟨fr,ff⟩:=oa (X:=ji (yP P w) P w K mg base N qual scope f cd A outer s H E) ⟨rfl,rfl⟩ I
 refine Ff fr ff rfl fl fun h1 T a b m=>?_
 have I1:=I.moved he ht m
 have t1:=zw I ht b
 have hB:=I.base
 have ne:∀b,H' b=none→b≠e:=fun b n z=>by
  subst z
  rw[he] at n
  cases n
 have nt:∀b o,s.heap.get? b=some o→tb≠some b:=fun b o q z=>absurd (Heap.lt_size q) (Nat.not_lt.mpr (ht b z).2.above)
 refine⟨e,C,dx,H',some T,rfl,I.os,I.bare,⟨fun b o q n hb hx=>?_,fun b o q n hb hx=>?_,hB.free,fun b o q hx=>?_,hB.nO,hB.nP,hB.nQ⟩,I1.aX,he,a,fun T' z=>⟨(t1 T' z).1,(t1 T' z).2.above⟩,hE⟩
 ·refine m.keep b o (hB.keep b o q n hb hx) (ne b (hB.free b o q n hx)) (nt b o q) fun z=>?_
  rcases List.mem_cons.mp (show b∈s.heap.objs.size::wY outer from z) with z|z
  ·exact absurd (Heap.lt_size q) (by rw[z];exact Nat.lt_irrefl _)
  ·exact hb z
 ·obtain⟨sl,z⟩:=hB.slot b o q n hb hx
  obtain⟨Q8,z'⟩:=m.slot b _ z (ne b (hB.free b o q n hx)) (nt b o q)
  exact⟨Q8,z'⟩
 ·obtain⟨o',z⟩:=hB.there b o q hx
  exact m.there b o' z
def IS (P:Program) (w:World) (K:PySem.W.Frag) (mg:Str→Option Value) (base:Heap) (N:List Str) (qual:Str) (scope:Scope) (f:Addr) (cd:Value) (A:Around) (outer:List Env) (s:Shared) (H:Hp) (E:XK):Cx:=
 (ji (yP P w) P w K mg base N qual scope f cd A outer s H E).jU (mF (ji (yP P w) P w K mg base N qual scope f cd A outer s H E) fun _=>E)
theorem vo:Lets (IS P w K mg base N qual scope f cd A outer s H E) (fun _=>E):=fun _ _ z=>z.d6
theorem Fp:PassesOwn (model P w) (IS P w K mg base N qual scope f cd A outer s H E).A (IS P w K mg base N qual scope f cd A outer s H E).env (IS P w K mg base N qual scope f cd A outer s H E).xe:=CU (X:=ji (yP P w) P w K mg base N qual scope f cd A outer s H E) ⟨rfl,rfl⟩
theorem AW {st:List Stmt} {t:TS} (h:lO (IS P w K mg base N qual scope f cd A outer s H E) st t):lO (ji (yP P w) P w K mg base N qual scope f cd A outer s H E) st t:=fun pins s1 σ H1 D I hw=>
 wpAny_mono (h pins s1 σ H1 D (I.jU _) hw) (fun _ _ q=>q.d6) fun _ _ z=>xH z
theorem Eo.Fq {x:Str} {st:Stmt} {fd:FuncData} {k:Nat} {sp:Sp} (F:Eo K x qual st f fd) (S:ay N ps (aj st)) (len:∀vs H Q E,sp vs H Q E→vs.length=ps.length)
  (dm:∀(bg:Value) (A:Around) (outer:List Env) (s:Shared) (H:Hp) (vs:List V) (Q:VK) (E:XK),cP k (A.deeper (envOfC qual (aj st) s.heap.objs.size f bg))→sp vs H Q E→
   ∃t,lO (IS P w K mg base N qual (aj st) f bg A outer s H E) (aU st) t∧t { nx:=fun _ H'=>Q .cI H',rt:=Q } (start N vs) H):fw P w K mg base (yP P w) (k+1) f fd ps sp:=by
 obtain⟨oc,od,kV,doc,pm,an,bg,ct,r8,rfl,lk,oS⟩:=F.ex
 refine fn_of lk oS S len fun A outer s H vs Q E hr AN=>?_
 obtain⟨t,h,q⟩:=dm bg A outer s H vs Q E hr AN
 exact⟨t,AW h,q⟩
theorem xB.Fq {x:Str} {st:Stmt} {fd:FuncData} {dV:Value} {k:Nat} {sp:Sp} (F:xB K x qual st f fd dV) (S:ay N ps (aj st)) (len:∀vs H Q E,sp vs H Q E→vs.length=ps.length)
  (dm:∀(bg:Value) (A:Around) (outer:List Env) (s:Shared) (H:Hp) (vs:List V) (Q:VK) (E:XK),cP k (A.deeper (envOfC qual (aj st) s.heap.objs.size f bg))→sp vs H Q E→
   ∃t,lO (IS P w K mg base N qual (aj st) f bg A outer s H E) (aU st) t∧t { nx:=fun _ H'=>Q .cI H',rt:=Q } (start N vs) H):fw P w K mg base (yP P w) (k+1) f fd ps sp:=by
 obtain⟨oc,od,kV,doc,pm,an,bg,ct,r8,rfl,lk,oS⟩:=F.ex
 refine fn_of lk oS S len fun A outer s H vs Q E hr AN=>?_
 obtain⟨t,h,q⟩:=dm bg A outer s H vs Q E hr AN
 exact⟨t,AW h,q⟩
end
section
variable {X:Cx} {pins:List (Addr×Obj)} {σ:St} {H:Hp} {s s':Shared} {ER:St→XK} {v:Value}
theorem CV (L:Lets X ER) (I:Inv X pins σ H s) (h:yP X.prog X.w X.stack H s (ER σ) v s'):X.xe v s':=by
 obtain⟨e,C,dx,H',tb,ev,os,bare,un,aX,he,fl,ht,hE⟩:=h
 have I1:Inv X pins σ H' s':=I.ED os un aX bare fun b z=>absurd z (by simp)
 exact L v s' ⟨e,C,dx,σ,H',tb,ev,I1.Mb,he,fl,fun T z=>⟨(ht T z).1,I.Ma (ht T z).2⟩,hE⟩
end
section
variable {X:Cx} {k:Nat} {f C:Addr} {fd:FuncData} {ps:List Str} {sp:Sp} {kJ:List V} {ds:List Value} {ER:St→XK} {x m:Str} {p pos apos:Pos} {e o:Expr} {es:List Expr} {ta:TE} {t:TA}
def N5 (sp:Sp) (kJ:List V) (ER:St→XK) (t:TA):TE:=fun σ H Q=>t σ H fun vs H1=>sp (vs++kJ) H1 Q (ER σ)
def N6 (C:Addr) (m:Str) (sp:Sp) (kJ:List V) (ER:St→XK) (ta:TE) (t:TA):TE:=fun σ H Q=>ta σ H fun x H1=>∃a dx fs,x= .ref a∧H1 a=some (.ins C dx fs)∧fs.lookup m=none∧
 t σ H1 fun vs H2=>sp (x::(vs++kJ)) H2 Q (ER σ)
theorem AX {pins:List (Addr×Obj)} {σ:St} {H:Hp} {s:Shared} {Q:VK} {us:List Value} {vs:List V} (F:fw X.prog X.w X.K X.mg X.base (yP X.prog X.w) k f fd ps sp) (hr:cP k X.A) (hb:Binds X.K fd ps ds) (hd:Vals kJ ds) (L:Lets X ER)
  (I:Inv X pins σ H s) (r:Vals vs us) (h:sp (vs++kJ) H Q (ER σ)):wpAny (model X.prog X.w) X.A (call (.ref f) us) (EP X pins σ Q) X.xe s:=by
 have r2:Vals (vs++kJ) (us++ds):=r.append hd
 have hl:(us++ds).length=ps.length:=by rw[←r2.length];exact F.len _ _ _ _ h
 refine wpAny_call (codeAny_mono (F.run X.A X.stack s H ⟨us,[]⟩ (us++ds) (vs++kJ) Q (ER σ) hr I.Jp (hb s us I.jd hl) r2 h) fun r s' hq=>?_)
 cases r with
 |error e=>exact CV L I hq
 |ok fl=>
  cases fl with
  |ret u=>exact I.after hq
  |next=>exact False.elim hq
  |brk=>exact False.elim hq
  |cont=>exact False.elim hq
theorem Fs (F:fw X.prog X.w X.K X.mg X.base (yP X.prog X.w) k f fd ps sp) (hr:cP k X.A) (hg:Gl X x) (hm:X.mg x=some (.ref f)) (hk:PySem.W.keepIn X.K (.ref f)=true) (hb:Binds X.K fd ps ds) (hd:Vals kJ ds) (L:Lets X ER)
  (ha:PA X (e::es) t) (EM:(x==("__debug__" :Str))=false:=by decide) (he:starEach (e::es) X.env=(false,eval e X.env)::starEach es X.env:=by rfl) (iu:(backTo pos (starEach es X.env)).any (·.1)=false:=by rfl):
  PE X (.Call (.Name x p) (e::es) [] pos) (N5 sp kJ ER t):=by
 intro pins s σ H Q I h
 refine wpAny_Call_Name_kw (je I hg hm ?_ EM)
 refine PySem.W.callWith_K (h₀:=X.base) I.ok.mod.gy hk (bV (ha pos pins s σ H _ I h) fun us s1 ⟨vs,H1,I1,r,q⟩=>⟨I1.jd,?_⟩) he iu
 exact AX F hr hb hd L I1 r q
theorem xI {pl:Sem Bool} (he:PE X o ta) (c:sR X.K C) (hm:Meth X.K C m f) (F:fw X.prog X.w X.K X.mg X.base (yP X.prog X.w) k f fd ps sp) (hr:cP k X.A) (hb:Binds X.K fd ps ds) (hd:Vals kJ ds) (L:Lets X ER) (ha:PA X (e::es) t)
  (gz:starEach (e::es) X.env=(false,eval e X.env)::starEach es X.env:=by rfl) (iu:(backTo pos (starEach es X.env)).any (·.1)=false:=by rfl)
  (ht:eval (.Call (.Attribute o m apos) (e::es) [] pos) X.env=(do
   let ov←eval o X.env
   standAt apos.atName
   let (f,first)←holding [ov] (getMethod ov m pl)
   callWith pos f first (backTo pos (starEach (e::es) X.env)) (backToKw pos (keywordEach [] X.env))):=by rfl):
  PE X (.Call (.Attribute o m apos) (e::es) [] pos) (N6 C m sp kJ ER ta t):=by
 intro pins s σ H Q I h
 refine PySem.W.methodCall_KW (pl:=pl) (bV (he pins s σ H _ I h) fun u s1 ⟨x,H1,I1,rx,a,dx,fs,ex,ea,l,q⟩=>?_) ht
 subst ex
 obtain rfl:u=Value.ref a:=rx
 refine lU I1 ea c hm l ?_
 refine PySem.W.callWith_K (first:=[.ref a]) (h₀:=X.base) I.ok.mod.gy hm.kp (bV (ha pos pins s1 σ H1 _ I1 q) fun us s2 ⟨vs,H2,I2,r,q2⟩=>⟨I2.jd,?_⟩) gz iu
 exact AX (us:= .ref a::us) (vs:= .ref a::vs) F hr hb hd L I2 (.cons rfl r) q2
def N7 (C:Addr) (sp:Sp) (t:TA):TE:=fun σ H Q=>t σ H fun vs H1=>vs.length≤100∧∀x,H1 x=none→sp (.ref x::vs) (upd H1 x (tH x C none)) (fun v H2=>v= .cI∧Q (.ref x) H2) E0
theorem CW {HE:Addr} {pins:List (Addr×Obj)} {σ:St} {H:Hp} {s:Shared} {Q:VK} {us:List Value} {vs:List V} (Z:PySem.W.fR X.K C HE f) (F:fw X.prog X.w X.K X.mg X.base qu k f fd ps sp) (hr:cP (k+1) X.A) (hb:Binds X.K fd ps [])
  (I:Inv X pins σ H s) (r:Vals vs us) (hz:vs.length≤100) (h:∀x,H x=none→sp (.ref x::vs) (upd H x (tH x C none)) (fun v H2=>v= .cI∧Q (.ref x) H2) E0):
  wpAny (model X.prog X.w) X.A (call (.ref C) us) (EP X pins σ Q) X.xe s:=by
 have hq:=h (s.heap.objs.size+1) (I.aX.fresh (Nat.le_succ _))
 have e2:((s.heap.push (PySem.W.qC us)).push (PySem.W.qD C s.heap.objs.size)).get? (s.heap.objs.size+1)=some (PySem.W.qD C s.heap.objs.size):=by
  have:=Heap.get?_push_size (s.heap.push (PySem.W.qC us)) (o:=PySem.W.qD C s.heap.objs.size) rfl
  rwa [Heap.size_push] at this
 have I2:Inv X pins σ (upd H (s.heap.objs.size+1) (tH (s.heap.objs.size+1) C none)) { s with heap:=(s.heap.push (PySem.W.qC us)).push (PySem.W.qD C s.heap.objs.size) }:=
  I.laid (a:=s.heap.objs.size+1) (t':=s.toks) (fun b u q=>Heap.get?_push_of_some _ (Heap.get?_push_of_some _ q)) (Nat.le_succ _) (Fj e2 rfl rfl rfl rfl)
 have r2:Vals (V.ref (s.heap.objs.size+1)::vs) (Value.ref (s.heap.objs.size+1)::us):= .cons rfl r
 have hl:(Value.ref (s.heap.objs.size+1)::us++[]).length=ps.length:=by
  have e:=r2.length
  rw[F.len _ _ _ _ hq] at e
  rw[List.append_nil]
  exact e.symm
 have Z':us.length≤sizeLine:=by
  rw[←r.length]
  exact Nat.le_trans hz (by rw[sizeLine_eq];decide)
 have Ep:=hb { s with heap:=(s.heap.push (PySem.W.qC us)).push (PySem.W.qD C s.heap.objs.size) } (Value.ref (s.heap.objs.size+1)::us) I2.jd hl
 rw[List.append_nil] at Ep
 refine wpAny_call (PySem.W.JR I.jd Z Z' (codeAny_mono (F.run _ X.stack _ _ ⟨Value.ref (s.heap.objs.size+1)::us,[]⟩ (Value.ref (s.heap.objs.size+1)::us) _ _ E0 (hr.make C us []) (I2.Jp.make C us []) Ep r2 hq) fun r s' sS=>?_))
 cases r with
 |error e=>exact False.elim sS
 |ok fl=>
  cases fl with
  |ret u=>
   obtain⟨v,H',I3,rv,ev,q3⟩:=I2.after sS
   subst ev
   exact⟨rv,⟨V.ref (s.heap.objs.size+1),H',I3,rfl,q3⟩⟩
  |next=>exact False.elim sS
  |brk=>exact False.elim sS
  |cont=>exact False.elim sS
theorem Ft {HE:Addr} (Z:PySem.W.fR X.K C HE f) (F:fw X.prog X.w X.K X.mg X.base qu k f fd ps sp) (hr:cP (k+1) X.A) (hg:Gl X x) (hm:X.mg x=some (.ref C)) (hk:PySem.W.keepIn X.K (.ref C)=true) (hb:Binds X.K fd ps [])
  (ha:PA X (e::es) t) (EM:(x==("__debug__" :Str))=false:=by decide) (he:starEach (e::es) X.env=(false,eval e X.env)::starEach es X.env:=by rfl) (iu:(backTo pos (starEach es X.env)).any (·.1)=false:=by rfl):
  PE X (.Call (.Name x p) (e::es) [] pos) (N7 C sp t):=by
 intro pins s σ H Q I h
 refine wpAny_Call_Name_kw (je I hg hm ?_ EM)
 refine PySem.W.callWith_K (h₀:=X.base) I.ok.mod.gy hk (bV (ha pos pins s σ H _ I h) fun us s1 ⟨vs,H1,I1,r,q⟩=>⟨I1.jd,?_⟩) he iu
 exact CW Z F hr hb I1 r q.1 q.2
def N8 (K:PySem.W.Frag) (te:TE) (ER:St→XK):TS:=fun _ σ H=>te σ H fun v H1=>∃e C HE f dx,v= .ref e∧PySem.W.fR K C HE f∧H1 e=some (tH e C dx)∧ER σ (.ref C) dx (upd H1 e (CT e C dx))
theorem Fu {ex:Expr} {te:TE} (hc:X.calm=true) (L:Lets X ER) (he:PE X ex te):PS X (.Raise (some ex) none pos) (N8 X.K te ER):=by
 intro pins s σ H D I h
 rw[arm_exec_Raise]
 refine wpAny_bind (wpAny_standAt (PySem.W.Fh (K:=X.K) (I.ok.hd hc) (wpAny_bind (bV (he pins s σ H _ I h) fun u s1 ⟨v,H1,I1,rv,e,C,HE,f,dx,ev,Z,hx,q⟩=>wpAny_bind (wpAny_standAt (wpAny_pure ?_))))))
 subst ev
 obtain rfl:u=Value.ref e:=rv
 obtain⟨o,vs,h1,h2,h3,h4,h5⟩:=vn I1.aX hx
 refine⟨e,o,vs,C,HE,f,rfl,I1.jd,Z,h1,h2,h4,h5,L _ _ ⟨e,C,dx,σ,_,none,rfl,?_,af,⟨⟨o,vs,h1,h4,h5⟩,fun T z=>by cases z⟩,fun T z=>(by cases z),q⟩⟩
 have J:=I1.Mb.write (x:=e) (e:=e) (o:=CT e C dx) (h':=s1.heap) (t':=s1.toks) (by rw[hx];exact True.intro) (.inl rfl) (fun _ _ _ q=>q) ⟨o,h1⟩ (L9 h1 h2 h3 h4)
 exact J
end
end L2
namespace L2
open PySem PySem.Spec PyProof.Rows
theorem N9 {H:Hp} {e:Addr} {o:HO} (h:H e=some o):upd H e o=H:=by
 funext b
 by_cases z:b=e
 ·subst z
  rw[af,h]
 ·rw[ah z]
section
variable {X:Cx} {x f:Str} {a b o value ex:Expr} {ta tb tv:TE} {p pos apos pos':Pos}
structure Mc (K:PySem.W.Frag) (HE:Addr):Prop where
 sp:PySem.W.specialIn K (.ref HE) "__getattribute__" =some (some (.builtin "type.__getattribute__"))
 rd:PySem.W.readsIn K HE (.type "type")=true
 fc:PySem.W.findCls K (.ref HE) (.type "type") "__init__" =some (.val (.builtin "ValueError.__init__"))
def Oa (K:PySem.W.Frag) (ta tb:TE):TE:=fun σ H Q=>ta σ H fun v H1=>tb σ H1 fun _ H2=>∃e C HE f dx,v= .ref e∧PySem.W.fR K C HE f∧H2 e=some (tH e C dx)∧Q .cI H2
theorem Fv {HE:Addr} {pl:Sem Bool} (hg:Gl X x) (hm:X.mg x=some (.ref HE)) (B:Mc X.K HE) (ha:PE X a ta) (hb:PE X b tb) (hd:(x==("__debug__" :Str))=false:=by decide)
  (gz:starEach [a,b] X.env=(false,eval a X.env)::starEach [b] X.env:=by rfl) (aaa:starEach [b] X.env=(false,eval b X.env)::starEach [] X.env:=by rfl) (iu:(backTo pos (starEach [b] X.env)).any (·.1)=false:=by rfl)
  (ht:eval (.Call (.Attribute (.Name x p) "__init__" apos) [a,b] [] pos) X.env=(do
   let ov←eval (.Name x p) X.env
   standAt apos.atName
   let (f,first)←holding [ov] (getMethod ov "__init__" pl)
   callWith pos f first (backTo pos (starEach [a,b] X.env)) (backToKw pos (keywordEach [] X.env))):=by rfl):
  PE X (.Call (.Attribute (.Name x p) "__init__" apos) [a,b] [] pos) (Oa X.K ta tb):=by
 intro pins s σ H Q I h
 refine PySem.W.methodCall_KW (pl:=pl) (je I hg hm ?_ hd) ht
 refine PySem.W.method_cls I.jd B.sp (PySem.W.cls_value I.jd B.rd B.fc rfl ?_)
 have I0:=I.tok (s.toks+1)
 refine PyProof.Rows.callWith_builtin1 (bV (aa ha (aa hb ak aaa) gz pos pins _ σ H (fun vs H2=>match vs with| [v,_]=>∃e C HE f dx,v=V.ref e∧PySem.W.fR X.K C HE f∧H2 e=some (tH e C dx)∧Q .cI H2|_=>False) I0 h) fun us s1 ⟨vs,H2,I2,r,q⟩=>?_) gz iu
 match vs,q with
 | [v,u],q=>
   obtain⟨e,C,HE,f,dx,e1,Z,hx,q⟩:=q
   subst e1
   obtain⟨u1,u2,rfl,r1,r2⟩:=vals2 r
   obtain rfl:u1=Value.ref e:=r1
   obtain⟨ob,vs,h1,h2,h3,h4,h5⟩:=vn I2.aX hx
   have sz:1<vs.size:=(Array.getElem?_eq_some_iff.mp h5).1
   refine PySem.W.Fi I2.jd Z h1 h2 h4 (by omega) (by rw[sizeLine_eq,List.length_cons,List.length_nil];decide) fun h' g1 g2=>⟨.cI,H2,?_,rfl,q⟩
   have J:=I2.write (x:=e) (e:=e) (o:=tH e C dx) (h':=h') (t':=s1.toks) (by rw[hx];exact True.intro) (.inl rfl) (fun b o be q=>g2 b o be q) ⟨_,g1⟩ (Fj g1 h2 h3 rfl (by rw[Array.getElem?_setIfInBounds_ne (by decide)];exact h5))
   rw[N9 hx] at J
   exact J
def R8 (K:PySem.W.Frag) (ta tv:TE) (f:Str):TS:=fun D σ H=>tv σ H fun y H1=>ta σ H1 fun v H2=>∃e C HE g,v= .ref e∧PySem.W.fR K C HE g∧PySem.W.takerIn K C f=some none∧
 ((H2 e=some (tH e C none)∧∀dx,H2 dx=none→dx≠e→D.nx σ (upd (upd H2 dx (zt dx [(f,y)])) e (tH e C (some dx))))∨
  ∃dx fs,H2 e=some (tH e C (some dx))∧H2 dx=some (zt dx fs)∧fs.length<1000∧D.nx σ (upd H2 dx (zt dx (cJ f y fs))))
theorem pI (ha:PE X o ta) (hv:PE X value tv) (hs:swapsWith value (some (.Attribute o f pos')) pos.line X.env=pure false):PS X (.Assign [.Attribute o f pos'] value pos) (R8 X.K ta tv f):=by
 intro pins s σ H D I h
 refine plainObj_wpAny_Assign_Attribute (bV (hv pins s σ H _ I h) fun u s1 ⟨y,H1,I1,ry,q⟩=>bV (ha pins s1 σ H1 _ I1 q) fun ov s2 ⟨x,H2,I2,rx,e,C,HE,g,ex,Z,tk,q2⟩=>?_) hs
 subst ex
 obtain rfl:ov=Value.ref e:=rx
 rcases q2 with ⟨hx,q2⟩ | ⟨dx,fs,hx,hd,hl,q2⟩
 ·obtain⟨ob,vs,h1,h2,h3,h4,h5⟩:=vn I2.aX hx
  refine PySem.W.JS I2.jd Z tk h1 h2 h4 h3 fun h' NN g1 g2 g3=>?_
  have ne:s2.heap.objs.size≠e:=Nat.ne_of_gt (Heap.lt_size h1)
  have fr:=I2.aX.fresh (Nat.le_refl s2.heap.objs.size)
  generalize hN:s2.heap.objs.size=n at g1 g2 ne fr
  have at':∀b o,H2 b=some o→b≠e→upd (upd H2 n (zt n [(f,y)])) e (tH e C (some n)) b=some o:=fun b o q be=>by
   rw[ah be,ah (ag q fr)]
   exact q
  refine⟨σ,upd (upd H2 n (zt n [(f,y)])) e (tH e C (some n)),I2.un (h':=h') (t':=NN) ⟨fun b o q nn _ _=>g3 b o (fun z=>?_) q,fun b o q nn _ _=>⟨o.slots,g3 b o (fun z=>?_) q⟩,fun b o q nn _=>?_,fun b o q _=>?_,fun b xs q=>at' b _ q fun z=>?_,fun b o u q=>at' b _ q fun z=>?_,fun b ps q=>⟨#[],?_⟩⟩ fun b o q=>?_,q2 n fr ne⟩
  ·rw[z,hx] at nn;cases nn
  ·rw[z,hx] at nn;cases nn
  ·rw[ah (fun z=>by rw[z,hx] at nn;cases nn),ah (fun z=>by rw[z,←hN] at q;exact absurd (Heap.lt_size q) (Nat.lt_irrefl _))]
   exact nn
  ·by_cases be:b=e
   ·subst be
    exact⟨_,g1⟩
   ·exact⟨o,g3 b o be q⟩
  ·rw[z,hx] at q;cases q
  ·rw[z,hx] at q;cases q
  ·rw[Array.append_empty]
   exact at' b _ q fun z=>by rw[z,hx] at q;cases q
  ·by_cases be:b=e
   ·subst be
    rw[af] at q
    cases q
    exact Fj g1 h2 rfl h4 h5
   ·rw[ah be] at q
    by_cases bn:b=n
    ·subst bn
     rw[af] at q
     cases q
     refine L' g2 (fun g=>?_) fun g hg=>?_
     ·by_cases eg:g=f
      ·subst eg
       simp only [List.lookup,beq_self_eq_true,if_true]
       exact ry
      ·have e1:(g==f)=false:=by simpa using eg
       simp only [List.lookup,e1,if_neg eg]
       exact True.intro
     ·by_cases eg:g=f
      ·simp [eg]
      ·exact absurd (if_neg eg) hg
    ·rw[ah bn] at q
     refine(I2.aX b o q).qg (fun c u hc z=>g3 c u (fun ce=>?_) z) (fun c z=>at' c _ z fun ce=>?_) fun c xs z=>at' c _ z fun ce=>?_
     ·rcases hc with hc|hc
      ·exact be (hc.symm.trans ce)
      ·rw[ce,hx] at hc;cases hc
     ·rw[ce,hx] at z;cases z
     ·rw[ce,hx] at z;cases z
 ·obtain⟨ob,vs,h1,h2,h3,h4,h5⟩:=vn I2.aX hx
  obtain⟨mA,n1,r1,w1⟩:=Fl I2.aX hd
  have hz:(fs.map (·.1)).length≤1000:=by rw[List.length_map];omega
  refine PySem.W.JT I2.jd Z tk h1 h2 h4 h3 n1 w1 hz fun h' g1 sb=>⟨σ,_,?_,q2⟩
  have gA:∃o,h'.get? dx=some o:=let ⟨o,_,_,e',_⟩:=g1;⟨o,e'⟩
  refine I2.write (x:=dx) (e:=dx) (t':=s2.toks+2) (by rw[hd];exact True.intro) (.inl rfl) (fun b q hb z=>(sb.2 b hb).trans z) gA (L' g1 (fun g=>?_) fun g hg=>?_)
  ·rw[aD]
   by_cases q:g=f
   ·rw[if_pos q,if_pos q];exact ry
   ·rw[if_neg q,if_neg q];exact r1 g
  ·by_cases q:g=f
   ·rw[q];exact(i0 f y fs).1
   ·exact(i0 f y fs).2 g (w1 g fun z=>hg (by rw[if_neg q];exact z))
def Md (K:PySem.W.Frag) (ta:TE) (f:Str):TE:=fun σ H Q=>ta σ H fun v H1=>∃e C HE g dx fs y,v= .ref e∧PySem.W.fR K C HE g∧PySem.W.findIn K (.ref C) f=some none∧H1 e=some (CT e C (some dx))∧H1 dx=some (zt dx fs)∧fs.lookup f=some y∧Q y H1
theorem JV (he:PE X ex ta) (hb:attributeBase ex f X.env (eval ex X.env)=eval ex X.env):PE X (.Attribute ex f pos) (Md X.K ta f):=by
 intro pins s σ H Q I h
 refine AL hb (bV (he pins s σ H _ I h) fun u s1 ⟨x,H1,I1,rx,e,C,HE,g,dx,fs,y,ex,Z,fi,hx,hd,l,q⟩=>?_)
 subst ex
 obtain rfl:u=Value.ref e:=rx
 obtain⟨ob,vs,h1,h2,h3,h4⟩:=zu I1.aX hx
 obtain⟨mA,n1,r1,w1⟩:=Fl I1.aX hd
 obtain⟨od,ho,hl⟩:=sP n1
 obtain⟨u,hu,ru⟩:=iy.some_of (v:=y) (o:=mA f) (by rw[←l];exact r1 f)
 obtain⟨cd,oS,_,hh⟩:=Z.cd
 have J:PySem.W.InstAt s1.heap e ob C (some od):=⟨h1,h2,by unfold PySem.W.notCls;rw[h4],by rw[h3];exact ho⟩
 exact PySem.W.N4 I1.jd Z J (PySem.W.findObj_own (by unfold PySem.W.hasDictIn;rw[oS];exact hh) fi rfl (by rw[hl,hu])) (sQ ru) ⟨y,H1,I1.tok _,ru,q⟩
def aab (ta:TE):TE:=fun σ H Q=>ta σ H fun v H1=>(∃i,v= .int i∧i.natAbs.log2<1920∧Q (.str (toString i)) H1)∨∃y,v= .str y∧y.length≤sizeLine∧Q (.str y) H1
theorem vp (he:PE X ex ta):PE X (.FormattedValue ex (-1) none pos) (aab ta):=by
 intro pins s σ H Q I h
 refine FormattedValue_plain (bV (he pins s σ H _ I h) fun u s1 ⟨v,H1,I1,rv,q⟩=>?_)
 rcases q with ⟨i,rfl,hi,q⟩ | ⟨y,rfl,hy,q⟩
 ·obtain⟨t,rfl⟩:=rv
  exact formatField_int_small hi ⟨.str (toString i),H1,I1.tok _,⟨_,rfl⟩,q⟩
 ·obtain⟨t,rfl⟩:=rv
  exact formatField_str (fun t' tk=>⟨.str y,H1,I1.tok tk,⟨_,rfl⟩,q⟩) hy
def PF (X:Cx) (es:List Expr) (t:Str→TE):Prop:=
 ∀(acc:Str) (pins:List (Addr×Obj)) (s:Shared) (σ:St) (H:Hp) (Q:VK),Inv X pins σ H s→t acc σ H Q→wpAny (model X.prog X.w) X.A (joinParts acc (evalEach es X.env)) (EP X pins σ Q) X.xe s
def R9:Str→TE:=fun acc _ H Q=>acc.length≤sizeLine∧Q (.str acc) H
def Ob (te:TE) (t:Str→TE):Str→TE:=fun acc σ H Q=>te σ H fun v H1=>∃y,v= .str y∧(acc++y).length≤sizeLine∧t (acc++y) σ H1 Q
theorem Oc:PF X [] R9:=fun acc pins s σ H Q I h=>joinParts_nil ⟨.str acc,H,I.tok _,⟨_,rfl⟩,h.2⟩ h.1
theorem iD {es:List Expr} {t:Str→TE} (he:PE X ex ta) (hr:PF X es t) (hs:evalEach (ex::es) X.env=eval ex X.env::evalEach es X.env:=by rfl):PF X (ex::es) (Ob ta t):=by
 intro acc pins s σ H Q I h
 rw[hs]
 refine joinParts_cons (bV (he pins s σ H _ I h) fun u s1 ⟨v,H1,I1,rv,y,ev,hz,q⟩=>?_)
 subst ev
 obtain⟨t',rfl⟩:=rv
 exact⟨hz,hr (acc++y) pins s1 σ H1 Q I1 q⟩
theorem JW {v1 v2:Expr} {es:List Expr} {t:Str→TE} (h:PF X (v1::v2::es) t):PE X (.JoinedStr (v1::v2::es) pos) (t Str.empty):=fun pins s σ H Q I hw=>JoinedStr_many (h Str.empty pins s σ H Q I hw)
end
end L2
namespace PySem.W
open PySem PySem.Calls PyProof.Rows
structure CY (K:Frag) (PC:Addr):Prop where
 obj:∃(nm q:Str) (N:Addr) (bs bm:List Value) (hd:Bool) (sn:List Str) (sub:List Value) (ab:Bool) (col:Option Bool) (dd:Option Addr) (k0 k1 k2 k3 k5:Option Value) (YJ:String),
  K.lookup PC=some (excClassObj nm q PC N bs bm hd sn sub ab col dd k0 k1 k2 k3 k5 YJ)∧bm.contains (.type "BaseException")=true
theorem fR.par {K:Frag} {C HE f:Addr} (Z:fR K C HE f):CY K C:=by
 obtain⟨nm,q,N,bs,sn,sub,ab,col,dd,k0,k1,k2,k3,k5,hK⟩:=Z.obj
 exact⟨nm,q,N,bs,_,_,sn,sub,ab,col,dd,k0,k1,k2,k3,k5,_,hK,by rw[List.contains_cons,show xG.contains (.type "BaseException")=true from by decide+kernel,Bool.or_true]⟩
theorem zx {M:Model} {A:Around} {E:Value→Shared→Prop} {s:Shared} {K:Frag} {C HE f e PC:Addr} {ox:Obj} {b:Bool} {Q:Bool→Shared→Prop} (X:K.In s.heap) (Z:fR K C HE f) (Y:CY K PC) (hx:s.heap.get? e=some ox) (hc:ox.cls= .ref C)
  (hm:mroIn K C (.ref PC)=some b) (k:Q b s):wpAny M A (excMatches (.ref e) (.ref PC)) Q E s:=by
 obtain⟨nm,q,N,bs,sn,sub,ab,col,dd,k0,k1,k2,k3,k5,hK⟩:=Z.obj
 obtain⟨nm',q',N',bs',bm,gA,sn',sub',ab',col',CF,k0',k1',k2',k3',k5',YJ,hP,hB⟩:=Y.obj
 obtain⟨cd,oS,em,_⟩:=Z.cd
 have cb:(Value.ref C:: .ref HE::xG).contains (.ref PC)=b:=by
  unfold mroIn at hm
  rw[oS,Option.bind_some,em] at hm
  exact Option.some.inj hm
 have kC:=X _ _ hK
 have kP:=X _ _ hP
 have cB:(Value.ref PC::bm).contains (.type "BaseException")=true:=by rw[List.contains_cons,hB,Bool.or_true]
 have ft:=tc_notTuple
 obtain⟨hp,g,d,tk,os⟩:=s
 unfold excMatches
 repeat (first| (with_reducible refine wpAny_loadPart_at hx ?_;rw[hc]) |with_reducible refine wpAny_loadPart_at kP ?_| (with_reducible refine wpAny_isSubtype_exc kP ?_;rw[cB]) | (with_reducible refine wpAny_isSubtype_exc kC ?_;rw[cb]) |wp_step)
 cases b<;>(wp_walk;exact k)
end PySem.W
namespace L2
open PySem PySem.Spec PyProof.Rows
abbrev Cx.pinned (X:Cx) (pn:List (Addr×Obj)):Cx:={ X with pn:=X.pn++pn }
abbrev Cx.mark (X:Cx) (e:Addr):Cx:={ X with A:=X.A.mark (some (.ref e)),calm:=false,xe:=fun _ _=>False }
section
variable {X:Cx} {pins pn:List (Addr×Obj)} {σ:St} {H:Hp} {s:Shared} {ER:St→XK} {v:Value} {D:Ends} {fl:Flow}
theorem Cx.Ok.pinned (ok:X.Ok):(X.pinned pn).Ok:=⟨ok.mod,ok.kind,ok.glob,ok.blt,ok.above,ok.inj,ok.has,ok.Jh,ok.hd,ok.frames,ok.LP,ok.QG,ok.bs,ok.Cu,ok.uO,ok.uQ,ok.lq,ok.EB⟩
theorem Cx.Ok.gi (ok:(X.pinned pn).Ok):X.Ok:=⟨ok.mod,ok.kind,ok.glob,ok.blt,ok.above,ok.inj,ok.has,ok.Jh,ok.hd,ok.frames,ok.LP,ok.QG,ok.bs,ok.Cu,ok.uO,ok.uQ,ok.lq,ok.EB⟩
theorem Inv.aac (I:Inv X pins σ H s):Inv (X.pinned pins) [] σ H s:=⟨I.ok.pinned,I.os,I.bare,I.base,I.loc,I.cell,I.free,I.gF,fun p hp=>I.pin p (by simpa using hp),I.aX,I.len⟩
theorem Inv.JX (I:Inv (X.pinned pn) pins σ H s):Inv X pn σ H s:=⟨I.ok.gi,I.os,I.bare,I.base,I.loc,I.cell,I.free,I.gF,fun p hp=>I.pin p (List.mem_append_left _ hp),I.aX,I.len⟩
theorem SP.gi (h:SP (X.pinned pn) pins D fl s):SP X pn D fl s:=by
 cases fl with
 |next=>obtain⟨σ',H',I,q⟩:=h;exact⟨σ',H',I.JX,q⟩
 |brk=>obtain⟨σ',H',I,q⟩:=h;exact⟨σ',H',I.JX,q⟩
 |cont=>obtain⟨σ',H',I,q⟩:=h;exact⟨σ',H',I.JX,q⟩
 |ret u=>obtain⟨v,σ',H',I,r,q⟩:=h;exact⟨v,σ',H',I.JX,r,q⟩
theorem JY:Lets X (fun _ _ _ _=>False):=fun _ _ ⟨_,_,_,_,_,_,_,_,_,_,_,z⟩=>z.elim
theorem Inv.mark (I:Inv X pins σ H s) (e:Addr):Inv (X.mark e) pins σ H s:=
 ⟨⟨I.ok.mod,I.ok.kind,I.ok.glob,I.ok.blt,I.ok.above,I.ok.inj,I.ok.has,I.ok.Jh,fun z=>(by cases z),I.ok.frames,I.ok.LP,I.ok.QG,I.ok.bs,I.ok.Cu,I.ok.uO,I.ok.uQ,I.ok.lq,I.ok.EB⟩,I.os,I.bare,I.base,I.loc,I.cell,I.free,I.gF,I.pin,I.aX,I.len⟩
theorem Inv.unmark {e:Addr} (I:Inv (X.mark e) pins σ H s) (ok:X.Ok):Inv X pins σ H s:=⟨ok,I.os,I.bare,I.base,I.loc,I.cell,I.free,I.gF,I.pin,I.aX,I.len⟩
def PH (X:Cx) (hs:List ExceptHandler) (th:Ends→St→XK):Prop:=
 ∀(s:Shared) (σ:St) (H:Hp) (D:Ends) (e C:Addr) (dx:Option Addr) (T:Addr),Inv X [] σ H s→H e=some (CT e C dx)→s.heap.n9 e (some T)→H T=none→j2 X T→th D σ (.ref C) dx H→
  wpAny (model X.prog X.w) X.A (handleBy (.ref e) X.env hs) (SP X [] D) X.xe s
theorem Od (L:Lets X ER):PH X [] (fun _=>ER):=by
 intro s σ H D e C dx T I he fl hT nT hE
 refine wpAny_handleBy_nil ?_
 obtain⟨oe,vs,h1,h2,h3⟩:=id fl.ex
 unfold PySem.passOn
 refine wpAny_bind (wpAny_field h1 h2 h3 ?_)
 rw[if_neg (by simp)]
 have ht:∀T',some T=some T'→H T'=none∧j2 X T':=fun T' z=>by cases z;exact⟨hT,nT⟩
 refine wpAny_bind (i3 fl fun h' a m=>wpAny_throw (L _ _ ⟨e,C,dx,σ,H,some T,rfl,I.moved he ht (m.mono fun _ z=>absurd z (by simp)),he,a,ht,hE⟩))
def R' (K:PySem.W.Frag) (PC:Addr) (i:Nat) (ts:TS) (tr:Ends→St→XK):Ends→St→XK:=fun D σ cv dx H=>
 ∃C HE f b,cv= .ref C∧PySem.W.fR K C HE f∧PySem.W.mroIn K C (.ref PC)=some b∧
  if b=true then∀e,H e=some (CT e C dx)→ts { D with nx:=fun σ1 H1=>D.nx (σ1.set i none) H1,bk:=fun σ1 H1=>D.bk (σ1.set i none) H1,ct:=fun σ1 H1=>D.ct (σ1.set i none) H1 } (σ.set i (some (.ref e))) H else tr D σ cv dx H
theorem name_goes {i:Nat} {n:Str} {pos:Pos} {Q:Unit→Shared→Prop} {A:Around} {E:Value→Shared→Prop} (I:Inv X pins σ H s) (hN:X.N.Nodup) (hi:X.N[i]? =some n) (hl:X.env.scope.names.lookup n=some .local)
  (k:∀s',Inv X pins (σ.set i none) H s'→Q () s'):wpAny (model X.prog X.w) A (do bindName X.env n .none;unbindBehindTheSuite X.env n pos) Q E s:=by
 have Ng:(X.env.scope.kind== .class||(X.env.scope.kind== .module&&X.env.locals != X.env.globals))=false:=by rw[I.ok.kind];rfl
 refine wpAny_bind (wpAny_bindName (store_ok I hN hi (.inl hl) (v:= .cI) rfl (fun s1 J=>?_) (.inr hl)))
 have hii:i<σ.length:=by rw[I.len];exact(List.getElem?_eq_some_iff.mp hi).1
 obtain⟨m,hn,QL⟩:=id J.loc
 obtain⟨u,_,lk⟩:=QL i n .cI hi (by rw[List.getElem?_set_self hii]) (.inl hl)
 have hmn:(m n).isSome=true:=by
  rcases lk with ⟨_,z⟩ | ⟨z,_⟩
  ·rw[z];rfl
  ·rcases z with z|z
   ·have:X.env.scope.names.lookup n=some .cell:=z
    rw[hl] at this;cases this
   ·have:X.env.scope.names.lookup n=some .free:=z
    rw[hl] at this;cases this
 unfold unbindBehindTheSuite
 refine wpAny_onRaise ?_
 unfold unbindName
 refine wpAny_bind (wpAny_point (wpAny_bind ?_))
 unfold deleteName
 have kl:X.env.kindOf n=some .local:=hl
 simp only [kl,Ng]
 rw[if_neg (by decide)]
 refine wpAny_bind (wpAny_nsDel_keeps hn fun h2 v2 LW sb=>?_)
 rw[hmn]
 refine wpAny_pure (wpAny_point (k _ ?_))
 obtain⟨oL,_,_,QH,_⟩:=id hn
 have lo:∀b o,X.s₀.heap.get? b=some o→b≠X.env.locals:=fun b o q=>Nat.ne_of_lt (Nat.lt_of_lt_of_le (Heap.lt_size q) J.ok.above)
 refine⟨J.ok,J.os,J.bare,⟨fun b o e nn hb hx=>(sb.2 b (lo b o e)).trans (J.base.keep b o e nn hb hx),fun b o e nn hb hx=>?_,J.base.free,fun b o e hx=>?_,J.base.nO,J.base.nP,J.base.nQ⟩,⟨_,LW,fun j y v' e1 e2 e3=>?_⟩,fun y c e=>?_,J.free,J.gF,fun p hp=>?_,fun b ob e=>?_,by simpa using I.len⟩
 ·obtain⟨sl,e1⟩:=J.base.slot b o e nn hb hx
  exact⟨sl,(sb.2 b (lo b o e)).trans e1⟩
 ·obtain⟨o',e1⟩:=J.base.there b o e hx
  exact⟨o',(sb.2 b (lo b o e)).trans e1⟩
 ·by_cases hj:j=i
  ·subst hj
   rw[List.getElem?_set_self hii] at e2
   cases e2
  ·rw[List.getElem?_set_ne (Ne.symm hj)] at e2
   obtain⟨u',r',q⟩:=QL j y v' e1 (by rw[List.getElem?_set_ne (Ne.symm hj)];exact e2) e3
   refine⟨u',r',?_⟩
   rcases q with ⟨k,e⟩ | ⟨k,c,e,z⟩
   ·refine .inl ⟨k,?_⟩
    have:y≠n:=fun e=>hj (qh hN e1 (e▸hi))
    simp [this,e]
   ·exact .inr ⟨k,c,e,z.sameBut sb (J.Ji y c e)⟩
 ·obtain⟨w',z⟩:=J.cell y c e
  exact⟨w',z.sameBut sb (J.Ji y c e)⟩
 ·obtain⟨e,nn,ne,nf,d⟩:=J.pin p hp
  exact⟨(sb.2 p.1 ne).trans e,nn,ne,nf,d⟩
 ·refine(J.aX b ob e).qg (fun c w' hc q=>(sb.2 c ?_).trans q) (fun _ q=>q) fun _ _ q=>q
  rintro rfl
  rcases hc with rfl|hc
  ·rw[J.free] at e;cases e
  ·rw[J.free] at hc;cases hc
theorem Sa {x n:Str} {np pos:Pos} {b0:Stmt} {xJ:List Stmt} {rest:List ExceptHandler} {PC:Addr} {i:Nat} {ts:TS} {tr:Ends→St→XK} (hg:Gl X x) (hm:X.mg x=some (.ref PC)) (Y:PySem.W.CY X.K PC) (hN:X.N.Nodup) (hi:X.N[i]? =some n)
  (hl:X.env.scope.names.lookup n=some .local) (hsu:∀e,lO (X.mark e) (b0::xJ) ts) (hr:PH X rest tr) (hd:(x==("__debug__" :Str))=false:=by decide):
  PH X (.ExceptHandler (some (.Name x np)) (some n) (b0::xJ) pos::rest) (R' X.K PC i ts tr):=by
 intro s σ H D e C dx T I he fl hT nT hE
 obtain⟨C',HE,f,b,ec,Z,mb,hE⟩:=hE
 cases ec
 obtain⟨o,vs,o1,o2,o3,o4⟩:=zu I.aX he
 have ht:∀T',some T=some T'→H T'=none∧j2 X T':=fun T' z=>by cases z;exact⟨hT,nT⟩
 refine wpAny_handleBy_cons (codeAny_handlers_test (je (X:=X.mark e) (I.mark e) hg hm (PySem.W.zx I.jd Z Y o1 o2 mb ?_) hd)) (by intro z;cases z)
 cases b with
 |false=>exact hr s σ H D e C dx T I he fl hT nT hE
 |true=>
  have hE:=hE e he
  refine codeAny_handlers_suite_as (i3 fl fun h1 a m=>?_)
  have I1:=I.moved he ht (m.mono fun _ z=>absurd z (by simp))
  refine store_ok I1 hN hi (.inl hl) (v:= .ref e) rfl (fun s2 I2=>?_) (.inr hl)
  refine wpAny_mono (hsu e [] s2 _ H _ (I2.mark e) hE) (fun f s3 q=>?_) fun _ _ z=>False.elim z
  cases f with
  |next=>
   obtain⟨σ',H',I3,q⟩:=q
   exact name_goes (I3.unmark I.ok) hN hi hl fun s4 I4=>⟨_,H',I4,q⟩
  |brk=>
   obtain⟨σ',H',I3,q⟩:=q
   exact name_goes (I3.unmark I.ok) hN hi hl fun s4 I4=>⟨_,H',I4,q⟩
  |cont=>
   obtain⟨σ',H',I3,q⟩:=q
   exact name_goes (I3.unmark I.ok) hN hi hl fun s4 I4=>⟨_,H',I4,q⟩
  |ret u=>
   obtain⟨v,σ',H',I3,r,q⟩:=q
   exact name_goes (I3.unmark I.ok) hN hi hl fun s4 I4=>⟨v,_,H',I4,r,q⟩
def Sb (tb:(St→XK)→TS) (th:Ends→St→XK):TS:=fun D σ H=>tb (th D) D σ H
theorem JZ {body:List Stmt} {h0:ExceptHandler} {hs:List ExceptHandler} {pos:Pos} {tb:(St→XK)→TS} {th:Ends→St→XK} (fm:JU X) (hb:∀pn ER',lO ((X.pinned pn).jU (mF (X.pinned pn) ER')) body (tb ER')) (hh:∀pn,PH (X.pinned pn) (h0::hs) th):
  PS X (.Try body (h0::hs) [] [] pos) (Sb tb th):=by
 intro pins s σ H D I h
 have fin:∀{f s1},SP (X.pinned pins) [] D f s1→SP X pins D f s1:=fun q=>q.gi
 refine wpAny_Try_except (wpAny_mono (hb pins (th D) [] s σ H D (I.aac.jU _) h) (fun f s1 q=>?_) fun v s1 z=>?_)
 ·have q:=fin q.d6
  cases f with
  |next=>exact wpAny_execs_nil q
  |brk=>exact q
  |cont=>exact q
  |ret u=>exact q
 ·obtain⟨e,C,dx,σ1,H1,tb,ev,I1,he,fl,ht,hE⟩:=z
  subst ev
  have fm':JU (X.pinned pins):=fm
  obtain⟨fr,ff⟩:=oa fm' I1
  refine vk fr ff fm'.2 fl fun h2 T a b m=>?_
  have m1:Heap.Moved (wY (X.pinned pins).stack) e tb s1.heap h2:=by unfold wY;rw[fm'.1];exact m
  have I2:=I1.moved he ht m1
  have t1:=zw I1 ht b
  refine i3 (s:={ s1 with heap:=h2 }) a fun h3 a3 m3=>?_
  have I3:=I2.moved he t1 (m3.mono fun _ z=>absurd z (by simp))
  exact bV (hh pins _ σ1 H1 D e C dx T I3 he a3 (t1 T rfl).1 (t1 T rfl).2 hE) fun f s4 q=>fin q
end
end L2
namespace L2
open PySem PySem.Spec PyProof.Rows
def Sd (a:Addr) (o:Obj) (kvs:List (Key×V)):It:=
 ⟨fun i H=>H a=some (.eC o (.dK kvs))∧i<kvs.length,fun i H x H'=>∃p k v,kvs[i]? =some (k,v)∧H p=none∧H'=upd H p (.tup [kV k,v])∧x= .ref p,fun i H=>H a=some (.eC o (.dK kvs))∧kvs.length≤i⟩
theorem CZ:entryFor table "dict_itemiterator.__iter__" =some Builtin.«dict_keyiterator.__iter__» :=entryFor_alias (id':="dict_keyiterator.__iter__") (by kernel_rfl) rfl (by decide+kernel) (by kernel_rfl)
theorem Fw {prog:Program} {w:World} {A:Around} {E:Value→Shared→Prop} {s:Shared} {it:Addr} {Q:Value→Shared→Prop} (ht:s.TypeIs (.ref it) "dict_itemiterator") (h:Q (.ref it) s):wpAny (model prog w) A (pyIter (.ref it)) Q E s:=by
 refine wpAny_pyIter_slot ht PySem.F.slot_dict_itemiterator_iter (wpAny_call_entry PySem.F.slot_dict_itemiterator_iter ht CZ ?_ (PySem.F.args_dict_itemiterator_iter_1 _))
 exact wpAny_pure ⟨_,rfl,"dict_itemiterator",_,ht,PySem.F.slot_dict_itemiterator_next.lookup,h⟩
theorem zy {P:Program} {w:World} {K:PySem.W.Frag} {elts:List Expr} {x1} {mn:Pos} (a it:Addr) (o:Obj) (kvs:List (Key×V)) {es:Array DictEntry} {ep:Nat} (hd:o.data= .dict es ep):
  Turn P w K (.Tuple elts x1 mn) (Sd a o kvs) [it] it (fun i h=>∃ok ov,IsItemIter h it a i kvs.length ep ok ov) where
 mem:=by simp
 obj:=fun i h st b hb=>by
  have e:b=it:=by simpa using hb
  subst e
  obtain⟨ok,ov,q⟩:=st
  exact⟨_,q,fun v z=>by cases z⟩
 keep:=fun i h h' st k=>let ⟨ok,ov,q⟩:=st;⟨ok,ov,k it (by simp) _ q⟩
 item:=by
  intro X hP hw hK hc i pins s σ H E I hf st hg
  subst hP hw hK
  obtain⟨hz,hi⟩:=hg
  obtain⟨ok,ov,st⟩:=st
  obtain⟨vs,rel,dd,hs⟩:=nX I.aX hz hd
  obtain⟨k,v,xa⟩:∃k v,kvs[i]? =some (k,v):=⟨kvs[i].1,kvs[i].2,by simp [hi]⟩
  obtain⟨u,hu,ru⟩:=rel.get xa
  rw[rel.length] at st
  refine wpAny_pyNext_items_item st dd hu fun key h' hk a1 a2 a3 a4=>⟨_,rfl,?_⟩
  refine wpAny_letOwnedTupleGo_items (s:={ s with heap:=h' }) a1 fun L6 b1 b2=>?_
  have up:∀c q,c≠it→h'.get? c=some q→L6.get? c=some q:=fun c q n z=>b2.extBut _ _ n z
  have ne:s.heap.objs.size≠it:=Nat.ne_of_gt (Heap.lt_size st)
  have jk:=up _ _ ne a2
  have I1:Inv X pins σ (upd H s.heap.objs.size (.tup [kV k,v])) { s with heap:=L6,toks:=s.toks }:=by
   refine I.vg (ch:=[it]) (fun b q hb z=>?_) hf (Nat.le_refl _) ⟨by show 2≤sizeLine;decide,[key,u], .cons (u9 hk) (.cons ru .nil),⟨_,jk,rfl,_,rfl⟩⟩
   have hb:b≠it:=by simpa using hb
   exact up _ _ hb (a4 b q hb z)
  refine⟨.ref s.heap.objs.size,_,I1,rfl,⟨_,k,v,xa,I.aX.fresh (Nat.le_refl _),rfl,rfl⟩,⟨key,u,?_⟩,fun b hb=>?_⟩
  ·rw[rel.length];exact b1
  ·have e:b=it:=by simpa using hb
   rw[ah (by rw[e];exact Ne.symm ne)]
   exact(hf b hb).1
 done:=by
  intro X hP hw hK hc i pins s σ H E I hf st hg
  subst hP hw hK
  obtain⟨hz,hi⟩:=hg
  obtain⟨ok,ov,st⟩:=st
  obtain⟨vs,rel,dd,hs⟩:=nX I.aX hz hd
  rw[rel.length] at st hi
  refine wpAny_pyNext_items_end (I.ok.hd hc) st dd (List.getElem?_eq_none hi) fun h' eb=>⟨rfl,I.vh (t':=s.toks) (ch:=[it]) (fun b q hb z=>?_) hf⟩
  exact eb b q (by simpa using hb) z
 self:=fun _ _ _ _ _ st h=>by
  obtain⟨ok,ov,st⟩:=st
  exact Fw ⟨_,st,rfl⟩ h
section
variable {X:Cx} {tg:Expr}
def Oe (X:Cx) (td:TE):TI:=fun σ H R=>td σ H fun x H1=>∃a kvs,x= .ref a∧H1 a=some (.dK kvs)∧∀o,NF X a→R (Sd a o kvs) (upd H1 a (.eC o (.dK kvs)))
theorem Fx {elts:List Expr} {x1} {mn:Pos} {l:Expr} {tl:TE} {apos pos:Pos} (hl:PE X l tl) (hb:attributeBase l "items" X.env (eval l X.env)=eval l X.env:=by rfl) (EX:(apos.endLine==pos.line)=true:=by rfl):
  PI X (.Tuple elts x1 mn) (.Call (.Attribute l "items" apos) [] [] pos) (Oe X tl):=by
 intro pins s σ H R I h
 refine wpAny_Call_method (T:="dict") (id:="dict.items") hb rfl EX PySem.F.plainAttrs_dict PySem.F.slot_dict_items PySem.F.type_dict_items (bV (hl pins s σ H _ I h) fun v s1 ⟨x,H1,I1,r1,q1⟩=>?_)
 obtain⟨a,kvs,e,hk,q⟩:=q1
 subst e
 cases r1
 obtain⟨o,ho,I2⟩:=I1.freeze hk
 obtain⟨z,hs,vs,rel,dd⟩:=oY I1.aX hk
 obtain⟨ep,da⟩:=id dd.dictAt
 obtain⟨o',es,si,ex,hd,hr⟩:=id da
 rw[ho] at si;cases si
 refine⟨dd.typeIs,dd.mapOf.noDict,method_meetsIn PySem.F.slot_dict_items PySem.F.entry_dict_items rfl (PySem.evalArgs_none ⟨rfl,dd.typeIs,PySem.F.args_dict_items_1 _,_,meets_dict_items _ a hs,⟨vs,dd⟩,?_⟩)⟩
 have kv:∀b q,s1.heap.get? b=some q→(s1.heap.push { cls:= .type "dict_items",data:= .fields #[.ref a] }).get? b=some q:=fun b q e=>Heap.get?_push_of_some _ e
 have da2:(s1.heap.push { cls:= .type "dict_items",data:= .fields #[.ref a] }).DictAt (bD X.prog X.w) a vs ep:=⟨o,es,kv _ _ ho,ex,hd,hr⟩
 refine wpAny_pyIter_items (s:={ s1 with heap:=s1.heap.push { cls:= .type "dict_items",data:= .fields #[.ref a] } }) ⟨_,Heap.get?_push_size _ rfl,rfl,rfl⟩ da2 ?_
 have I3:=I2.kept (t':=s1.toks) kv
 refine⟨(s1.heap.push { cls:= .type "dict_items",data:= .fields #[.ref a] }).objs.size,[(s1.heap.push { cls:= .type "dict_items",data:= .fields #[.ref a] }).objs.size],_,_,_,rfl,I3.kept (t':=s1.toks) fun b o e=>Heap.get?_push_of_some _ e,zy a _ o kvs hd,?_,fun b hb=>?_,q o (I1.nf hk)⟩
 ·rw[rel.length]
  exact⟨_,_,Heap.get?_push_size _ rfl⟩
 ·have e:b=(s1.heap.push { cls:= .type "dict_items",data:= .fields #[.ref a] }).objs.size:=by simpa using hb
  subst e
  exact I3.xl (Nat.le_refl _) (I3.aX.fresh (Nat.le_refl _))
end
section
variable {K:PySem.W.Frag} {g:TG} {tt:TT} {te:TE}
theorem C0 {J:It} {L:Addr} {Q:Hp→Prop} {σ:St} {H:Hp} (n:Nat) (H0:Hp) (S:St→Prop) (Pv:Nat→List V→Hp→Prop) (NS:∀i H',i<n→au H0 H'→J.go i H') (qB:∀H',au H0 H'→J.stop n H') (zp:∀i ys H H',L7 L H H'→Pv i ys H→Pv i ys H')
  (zo:H0 L=none) (hσ:S σ) (h0:au H0 H) (hL:H L=some (.lst [])) (p0:Pv 0 [] H) (hz:n≤sizeLine) (hl:∀i ys H,Pv i ys H→ys.length≤i)
  (turn:∀i σ H' ys,i<n→S σ→au H0 H'→H' L=some (.lst ys)→Pv i ys H'→∀(N:St→V→Hp→Prop) (M:St→Hp→Prop),(∀σ3 y H5,S σ3→au H0 H5→H5 L=some (.lst ys)→Pv (i+1) (ys++[y]) H5→N σ3 y H5)→(∀σ3 H4,S σ3→au H0 H4→H4 L=some (.lst ys)→Pv (i+1) ys H4→M σ3 H4)→
   ∀x H2,J.pf i H' x H2→g x σ H2 fun σ3 H3=>tt σ3 H3 fun b H4=>if b=true then te σ3 H4 fun y H5=>N σ3 y H5 else M σ3 H4)
  (fin:∀H' ys,au H0 H'→H' L=some (.lst ys)→Pv n ys H'→Q H'):
  ∃W:Nat→Nat→St→Hp→Prop,(∃m,W 0 m σ H)∧∀i m σ H,W i m σ H→(J.stop i H∧Q H)∨(J.go i H∧∀x H2,J.pf i H x H2→g x σ H2 fun σ3 H3=>tt σ3 H3 fun b H4=>if b=true
   then te σ3 H4 fun y H5=>∃ys,H5 L=some (.lst ys)∧ys.length<sizeLine∧∃m',m'<m∧W (i+1) m' σ3 (upd H5 L (.lst (ys++[y])))
   else∃m',m'<m∧W (i+1) m' σ3 H4):=by
 refine⟨fun i m σ H=>m+i=n∧S σ∧au H0 H∧∃ys,H L=some (.lst ys)∧Pv i ys H,⟨n,rfl,hσ,h0,[],hL,p0⟩,?_⟩
 rintro i m σ H ⟨hm,hs,fE,ys,CO,hp⟩
 by_cases hi:i<n
 ·refine .inr ⟨NS i H hi fE,fun x H2 hy=>turn i σ H ys hi hs fE CO hp _ _ (fun σ3 y H5 k1 k2 k3 k4=>?_) (fun σ3 H4 k1 k2 k3 k4=>?_) x H2 hy⟩
  ·refine⟨ys,k3,by have:=hl i ys H hp;omega,m - 1,by omega,by omega,k1,fun b o e=>?_,ys++[y],af,zp _ _ _ _ L7.upd k4⟩
   rw[ah (ag e zo)];exact k2 b o e
  ·exact⟨m - 1,by omega,by omega,k1,k2,ys,k3,k4⟩
 ·have e:i=n:=by omega
  subst e
  exact .inl ⟨qB H fE,fin H ys fE CO hp⟩
theorem items_go {a:Addr} {ob:Obj} {kvs:List (Key×V)} {H0:Hp} (ha:H0 a=some (.eC ob (.dK kvs))):∀i H',i<kvs.length→au H0 H'→(Sd a ob kvs).go i H':=fun _ _ hi e=>⟨e _ _ ha,hi⟩
theorem zA {a:Addr} {ob:Obj} {kvs:List (Key×V)} {H0:Hp} (ha:H0 a=some (.eC ob (.dK kvs))):∀H',au H0 H'→(Sd a ob kvs).stop kvs.length H':=fun _ e=>⟨e _ _ ha,Nat.le_refl _⟩
end
end L2
namespace L2
open PySem PySem.Spec PyProof.Rows PySem.W
section
variable {X:Cx}
end
end L2
namespace L2
open PySem PySem.Spec PyProof.Rows
section
variable {P:Program} {w:World} {K:PySem.W.Frag} {mg:Str→Option Value} {base:Heap}
def J0 (K:PySem.W.Frag) (C:Addr) (q:Str) (st:Stmt) (ps:List Str):Prop:=∃f fd dV,xB K "__init__" q st f fd dV∧Mk K C f∧Binds K fd ps []∧Binds K fd ps [.none]
structure CalN (P:Program) (w:World) (K:PySem.W.Frag) (mg:Str→Option Value) (base:Heap) (CX:AM) (k:Nat) (C:Addr) (ps:List Str) (sp:Sp) (f:Addr) (fd:FuncData):Prop where
 ok:fw P w K mg base CX k f fd ps sp
 m:Mk K C f
 b0:Binds K fd ps []
 b1:Binds K fd ps [.none]
def Fy (P:Program) (w:World) (K:PySem.W.Frag) (mg:Str→Option Value) (base:Heap) (CX:AM) (k:Nat) (C:Addr) (ps:List Str) (sp:Sp):Prop:=∃f fd,CalN P w K mg base CX k C ps sp f fd
theorem J0.cY {C:Addr} {q:Str} {st:Stmt} {N ps:List Str} {k:Nat} {sp:Sp} (D:J0 K C q st ps) (S:ay N ps (aj st)) (len:∀vs H Q E,sp vs H Q E→vs.length=ps.length)
  (dm:∀(f:Addr) (bg:Value) (A:Around) (outer:List Env) (s:Shared) (H:Hp) (vs:List V) (Q:VK) (E:XK),cP k (A.deeper (envOfC q (aj st) s.heap.objs.size f bg))→sp vs H Q E→
   ∃t,lO (ji qu P w K mg base N q (aj st) f bg A outer s H E).EF (aU st) t∧t { nx:=fun _ H'=>Q .cI H',rt:=Q } (start N vs) H):Fy P w K mg base qu (k+1) C ps sp:=by
 obtain⟨f,fd,dV,F,g,b0,b1⟩:=D
 exact⟨f,fd,F.ok S len (dm f),g,b0,b1⟩
end
end L2
namespace PySem.W
open PySem PySem.Spec PySem.Calls PyProof.Rows
section
variable {prog:Program} {w:World} {A:Around} {E:Value→Shared→Prop} {s:Shared} {K:Frag} {e C HE f:Addr} {ox:Obj} {od:Option Obj}
end
end PySem.W
namespace L2
open PySem PySem.Spec PyProof.Rows
structure XIs (K:PySem.W.Frag) (C:Addr):Prop where
 cls:PySem.W.findIn K (.ref C) "__class__" =some (some (.builtin "object.__class__"))
 get:PySem.W.specialIn K (.builtin "object.__class__") "__get__" =some (some (.builtin "getset_descriptor.__get__"))
 takes:PySem.W.takesIn K (.builtin "object.__class__")=some true
end L2
namespace YK
open PySem PySem.Spec PySem.Builtin PySem.Builtin.Str
end YK
namespace L2
open PySem PySem.Spec PyProof.Rows
section
variable {X:Cx}
end
section
variable {X:Cx}
theorem Of (K:PySem.W.Frag) (hK:X.K=K) {x n:Str} {np pos:Pos} {b0:Stmt} {xJ:List Stmt} {rest:List ExceptHandler} {PC:Addr} {i:Nat} {ts:TS} {tr:Ends→St→XK} (hg:Gl X x) (hm:X.mg x=some (.ref PC)) (Y:PySem.W.CY K PC) (hN:X.N.Nodup) (hi:X.N[i]? =some n)
  (hl:X.env.scope.names.lookup n=some .local) (hsu:∀e,lO (X.mark e) (b0::xJ) ts) (hr:PH X rest tr) (hd:(x==("__debug__" :Str))=false:=by decide):
  PH X (.ExceptHandler (some (.Name x np)) (some n) (b0::xJ) pos::rest) (R' K PC i ts tr):=by
 subst hK
 exact Sa hg hm Y hN hi hl hsu hr hd
end
section
variable {P:Program} {w:World} {K:PySem.W.Frag} {mg:Str→Option Value} {base:Heap}
structure CalX (P:Program) (w:World) (K:PySem.W.Frag) (mg:Str→Option Value) (base:Heap) (k:Nat) (x:Str) (ps:List Str) (sp:Sp) (f:Addr) (fd:FuncData):Prop where
 ok:fw P w K mg base (yP P w) k f fd ps sp
 kp:PySem.W.keepIn K (.ref f)=true
 b:Binds K fd ps []
 g:mg x=some (.ref f)
def Fz (P:Program) (w:World) (K:PySem.W.Frag) (mg:Str→Option Value) (base:Heap) (k:Nat) (x:Str) (ps:List Str) (sp:Sp):Prop:=∃f fd,CalX P w K mg base k x ps sp f fd
structure Se (P:Program) (w:World) (K:PySem.W.Frag) (mg:Str→Option Value) (base:Heap) (k:Nat) (C:Addr) (m:Str) (ps:List Str) (sp:Sp) (f:Addr) (fd:FuncData):Prop where
 ok:fw P w K mg base (yP P w) k f fd ps sp
 m:Meth K C m f
 b:Binds K fd ps []
def zB (P:Program) (w:World) (K:PySem.W.Frag) (mg:Str→Option Value) (base:Heap) (k:Nat) (C:Addr) (m:Str) (ps:List Str) (sp:Sp):Prop:=∃f fd,Se P w K mg base k C m ps sp f fd
theorem Def.FA {x q:Str} {st:Stmt} {N ps:List Str} {k:Nat} {sp:Sp} (D:Def K mg x q st ps) (S:ay N ps (aj st)) (len:∀vs H Q E,sp vs H Q E→vs.length=ps.length)
  (dm:∀(f:Addr) (bg:Value) (A:Around) (outer:List Env) (s:Shared) (H:Hp) (vs:List V) (Q:VK) (E:XK),cP k (A.deeper (envOfC q (aj st) s.heap.objs.size f bg))→sp vs H Q E→
   ∃t,lO (IS P w K mg base N q (aj st) f bg A outer s H E) (aU st) t∧t { nx:=fun _ H'=>Q .cI H',rt:=Q } (start N vs) H):Fz P w K mg base (k+1) x ps sp:=by
 obtain⟨f,fd,F,b,g⟩:=D
 exact⟨f,fd,F.Fq S len (dm f),F.kp,b,g⟩
theorem bb.FA {C:Addr} {m q:Str} {st:Stmt} {N ps:List Str} {k:Nat} {sp:Sp} (D:bb K C m q st ps) (S:ay N ps (aj st)) (len:∀vs H Q E,sp vs H Q E→vs.length=ps.length)
  (dm:∀(f:Addr) (bg:Value) (A:Around) (outer:List Env) (s:Shared) (H:Hp) (vs:List V) (Q:VK) (E:XK),cP k (A.deeper (envOfC q (aj st) s.heap.objs.size f bg))→sp vs H Q E→
   ∃t,lO (IS P w K mg base N q (aj st) f bg A outer s H E) (aU st) t∧t { nx:=fun _ H'=>Q .cI H',rt:=Q } (start N vs) H):zB P w K mg base (k+1) C m ps sp:=by
 obtain⟨f,fd,F,b,g⟩:=D
 exact⟨f,fd,F.Fq S len (dm f),g,b⟩
def AY (K:PySem.W.Frag) (C:Addr) (m q:Str) (st:Stmt) (ps:List Str) (ds:List Int):Prop:=∃f fd dV,xB K m q st f fd dV∧Meth K C m f∧∀j,j≤ds.length→∃us,Vals ((ds.drop j).map V.int) us∧Binds K fd ps us
structure Og (P:Program) (w:World) (K:PySem.W.Frag) (mg:Str→Option Value) (base:Heap) (k:Nat) (C:Addr) (m:Str) (ps:List Str) (ds:List Int) (sp:Sp) (f:Addr) (fd:FuncData):Prop where
 ok:fw P w K mg base (yP P w) k f fd ps sp
 m:Meth K C m f
 bs:∀j,j≤ds.length→∃us,Vals ((ds.drop j).map V.int) us∧Binds K fd ps us
def vq (P:Program) (w:World) (K:PySem.W.Frag) (mg:Str→Option Value) (base:Heap) (k:Nat) (C:Addr) (m:Str) (ps:List Str) (ds:List Int) (sp:Sp):Prop:=∃f fd,Og P w K mg base k C m ps ds sp f fd
theorem AY.FA {C:Addr} {m q:Str} {st:Stmt} {N ps:List Str} {ds:List Int} {k:Nat} {sp:Sp} (D:AY K C m q st ps ds) (S:ay N ps (aj st)) (len:∀vs H Q E,sp vs H Q E→vs.length=ps.length)
  (dm:∀(f:Addr) (bg:Value) (A:Around) (outer:List Env) (s:Shared) (H:Hp) (vs:List V) (Q:VK) (E:XK),cP k (A.deeper (envOfC q (aj st) s.heap.objs.size f bg))→sp vs H Q E→
   ∃t,lO (IS P w K mg base N q (aj st) f bg A outer s H E) (aU st) t∧t { nx:=fun _ H'=>Q .cI H',rt:=Q } (start N vs) H):vq P w K mg base (k+1) C m ps ds sp:=by
 obtain⟨f,fd,dV,F,g,b⟩:=D
 exact⟨f,fd,F.Fq S len (dm f),g,b⟩
def FC (K:PySem.W.Frag) (mg:Str→Option Value) (x:Str) (C HE:Addr) (q:Str) (st:Stmt) (ps:List Str):Prop:=∃f fd,Eo K "__init__" q st f fd∧PySem.W.fR K C HE f∧Binds K fd ps []∧mg x=some (.ref C)∧PySem.W.keepIn K (.ref C)=true
structure Sf (P:Program) (w:World) (K:PySem.W.Frag) (mg:Str→Option Value) (base:Heap) (k:Nat) (x:Str) (C HE:Addr) (ps:List Str) (sp:Sp) (f:Addr) (fd:FuncData):Prop where
 ok:fw P w K mg base qu k f fd ps sp
 z:PySem.W.fR K C HE f
 b:Binds K fd ps []
 g:mg x=some (.ref C)
 kp:PySem.W.keepIn K (.ref C)=true
def zC (P:Program) (w:World) (K:PySem.W.Frag) (mg:Str→Option Value) (base:Heap) (k:Nat) (x:Str) (C HE:Addr) (ps:List Str) (sp:Sp):Prop:=∃f fd,Sf P w K mg base k x C HE ps sp f fd
theorem FC.cY {x q:Str} {C HE:Addr} {st:Stmt} {N ps:List Str} {k:Nat} {sp:Sp} (D:FC K mg x C HE q st ps) (S:ay N ps (aj st)) (len:∀vs H Q E,sp vs H Q E→vs.length=ps.length)
  (dm:∀(f:Addr) (bg:Value) (A:Around) (outer:List Env) (s:Shared) (H:Hp) (vs:List V) (Q:VK) (E:XK),cP k (A.deeper (envOfC q (aj st) s.heap.objs.size f bg))→sp vs H Q E→
   ∃t,lO (ji qu P w K mg base N q (aj st) f bg A outer s H E).EF (aU st) t∧t { nx:=fun _ H'=>Q .cI H',rt:=Q } (start N vs) H):zC P w K mg base (k+1) x C HE ps sp:=by
 obtain⟨f,fd,F,Z,b,g,kp⟩:=D
 exact⟨f,fd,F.ok S len (dm f),Z,b,g,kp⟩
end
end L2
namespace YK
open PySem PySem.Spec PySem.Calls PyProof.Rows
section
variable {prog:Program} {w:World} {A:Around} {I:Addr} {fp wr:List Addr} {n:Nat} {P:Nat→Value→Prop} {St:Nat→Heap→Prop}
def Sg (P:Nat→Value→Prop) (bt:Nat→Nat→Bool) (i:Nat) (old:Array Value):Prop:=(i=0∧old=#[])∨∃j vb,i=j+1∧old=#[vb,vb]∧P (argBest bt j) vb
theorem J1 {R:Result→Shared→Prop} {d:Value} {key:Str} (W:Walks prog w A.in1 I fp wr n P St) (bt:Nat→Nat→Bool) (hcmp:CmpOf prog w A.in1 .Lt P bt) (S:Addr) (hSf:S∉fp) (k:Nat):
  ∀(i:Nat) (s:Shared) (old:Array Value) (c:Nat),i+k=n→St i s.heap→Sg P bt i old→s.heap.get? S=some { cls:= .type "list",dict:=none,data:= .seq old c,slots:=#[] }→
  (∀v h' tk,(n=0∧v=d∨0<n∧P (argBest bt (n - 1)) v)→(∀b o,b∉wr→b≠S→s.heap.get? b=some o→h'.get? b=some o)→R (.ok (.ret v)) { s with heap:=h',toks:=tk })→
  codeAny (model prog w) A (.builtin "min.loop" ⟨[.ref I, .none, .ref S],[(key,d)]⟩) R s:=by
 have hSw:S∉wr:=fun h=>hSf (W.sub _ h)
 have nm:(toString "min" ++toString ".loop" :String)="min.loop" :=by decide
 have oth:∀{h:Heap} {f:Obj→Obj} {b:Addr} {o:Obj},b≠S→h.get? b=some o→(h.update S f).get? b=some o:=fun hb e=>(Heap.get?_update_other _ _ (Ne.symm hb)).trans e
 induction k with
 |zero=>
  intro i s old c hi gz hB hS hR
  have C1:i=n:=by omega
  refine codeAny_builtin F.entry_min_loop ?_
  rw[Around.under_plainId F.plain_min_loop]
  refine wpAny_bind (wpAny_seqItems hS rfl (wpAny_bind (wpAny_tryCatch (W.done s _ _ (C1▸gz) fun h' tk FD=>?_))))
  rcases hB with ⟨rfl,rfl⟩ | ⟨j,vb,rfl,rfl,hP⟩
  ·exact wpAny_bind (wpAny_rule (wpAny_pure (hR d h' tk (.inl ⟨C1.symm,rfl⟩) fun b o hb _ e=>FD b o hb e)))
  ·refine wpAny_bind (wpAny_updateSeq (FD S _ hSw hS) rfl (wpAny_bind (wpAny_letGo (wpAny_pure ?_))))
   exact hR vb _ tk (.inr ⟨by omega,by rw[←C1];exact hP⟩) fun b o hb YL e=>oth YL (FD b o hb e)
 |succ k ih=>
  intro i s old c hi gz hB hS hR
  have ml:i<n:=by omega
  refine codeAny_builtin F.entry_min_loop ?_
  rw[Around.under_plainId F.plain_min_loop]
  refine wpAny_bind (wpAny_seqItems hS rfl (wpAny_bind (wpAny_tryCatch (W.item i s _ _ ml gz fun v h' tk hP hst' FD=>?_))))
  have Si:=FD S _ hSw hS
  have Oh:∀{h2:Heap} {new:Array Value} {c2:Nat},(∀b o,b≠S→h'.get? b=some o→h2.get? b=some o)→Sg P bt (i+1) new→h2.get? S=some { cls:= .type "list",dict:=none,data:= .seq new c2,slots:=#[] }→
    codeAny (model prog w) A (.builtin "min.loop" ⟨[.ref I, .none, .ref S],[(key,d)]⟩) R { s with heap:=h2,toks:=tk }:=fun {h2 new c2} k2 b2 s2=>
   ih (i+1) _ new c2 (by omega) (W.frame _ _ _ hst' fun b hb o e=>k2 b o (fun z=>hSf (z▸hb)) e) b2 s2 fun v' h3 t3 hP3 hk3=>hR v' h3 t3 hP3 fun b o hb YL e=>hk3 b o hb YL (k2 b o YL (FD b o hb e))
  rcases hB with ⟨rfl,rfl⟩ | ⟨j,vb,rfl,rfl,hPb⟩
  ·show wpAny _ A.in1 (updateSeq S (fun _=>#[v,v]) >>= _) _ _ _
   refine wpAny_bind (wpAny_updateSeq Si rfl ?_)
   rw[nm]
   exact wpAny_pure ⟨plainId_quiet F.plain_min_loop _,Oh (fun b o hb e=>oth hb e) (.inr ⟨0,v,rfl,rfl,hP⟩) (Heap.get?_update_self _ Si rfl)⟩
  ·refine wpAny_bind (wpAny_pure ?_)
   refine wpAny_bind (wpAny_tryCatch (wpAny_holding (wpAny_bind (hcmp (j+1) (argBest bt j) v vb _ _ _ hP hPb (wpAny_bind (wpAny_holding (wpAny_truthy_bool (wpAny_bind (wpAny_letGo (wpAny_pure ?_))))))))))
   cases hb:bt (j+1) (argBest bt j) with
   |true=>
    simp only [if_true]
    refine wpAny_bind (wpAny_updateSeq Si rfl (wpAny_bind (wpAny_letGo ?_)))
    rw[nm]
    exact wpAny_pure ⟨plainId_quiet F.plain_min_loop _,Oh (fun b o yN e=>oth yN e) (.inr ⟨j+1,v,rfl,rfl,by simp only [argBest,hb,if_true];exact hP⟩) (Heap.get?_update_self _ Si rfl)⟩
   |false=>
    simp only [Bool.false_eq_true,if_false]
    refine wpAny_bind (wpAny_letGo ?_)
    rw[nm]
    exact wpAny_pure ⟨plainId_quiet F.plain_min_loop _,Oh (fun b o _ e=>e) (.inr ⟨j+1,vb,rfl,rfl,by simp only [argBest,hb,Bool.false_eq_true,if_false];exact hPb⟩) Si⟩
end
section
variable {prog:Program} {w:World} {A:Around} {E:Value→Shared→Prop} {s:Shared} {l:Addr} {xs:Array (Int×Tok)} {d:Value}
theorem Oi {args:List Value} {kw:List (Str×Value)} {Q:Value→Shared→Prop} (ha:argsOk "min" ⟨args,kw⟩)
  (hc:wpAny (model prog w) A.in1 (Builtin.«min» ⟨args,kw⟩) (fun fin s'=>match fin with
   | .done f=>(match (Except.ok f:Result) with| .ok (.ret v)=>Q v s'| .ok _=>False| .error e=>E e s')
   | .again c'=>c'.quiet=true∧codeAny (model prog w) A c' (fun r s'=>match r with| .ok (.ret v)=>Q v s'| .ok _=>False| .error e=>E e s') s') E s):wpAny (model prog w) A (call (.builtin "min") args kw) Q E s:=by
 refine wpAny_call (codeAny_call_builtin F.plain_min F.entry_min ?_)
 rw[checkBuiltinCall,F.kind_min]
 unfold argsOk at ha
 cases hs:Manifest.signature? "min" with
 |none=>exact wpAny_pure hc
 |some sig=>
  rw[hs] at ha
  have ha:Bind.checkArgs "min" sig ⟨args,kw⟩=pure ():=ha
  dsimp only
  rw[ha]
  exact wpAny_pure hc
theorem C2 (a v:Value):argsOk "min" ⟨[a],[(Str.ofString "default",v)]⟩:=by unfold argsOk;kernel_rfl
theorem C3 {Q:Value→Shared→Prop} (hh:A.handled=none) (hl:s.heap.IsList l (intItems xs))
  (h:∀v h' tk,(xs.size=0∧v=d∨0<xs.size∧(intItems xs)[argBest (fun i j=>decide (numAt xs i<numAt xs j)) (xs.size - 1)]? =some v)→(∀b o,s.heap.get? b=some o→h'.get? b=some o)→Q v { s with heap:=h',toks:=tk }):
  wpAny (model prog w) A (call (.builtin "min") [.ref l] [(Str.ofString "default",d)]) Q E s:=by
 have nm:(toString "min" ++toString ".loop" :String)="min.loop" :=by decide
 refine Oi (C2 _ _) ?_
 show wpAny _ A.in1 (Builtin.Builtins.bindParams "min" ["key","default"] 0 ⟨[],[(Str.ofString "default",d)]⟩ >>= _) _ _ s
 refine wpAny_bind (wpAny_of_eq (show Builtin.Builtins.bindParams "min" ["key","default"] 0 ⟨[],[(Str.ofString "default",d)]⟩=pure [none,some d] from rfl) (wpAny_bind (wpAny_pure (wpAny_bind (iter_intList hl fun s₂ e st hfp hlI=>?_)))))
 subst e
 refine wpAny_bind (wpAny_newObj_type ?_)
 rw[nm]
 have W:=Walks.list (prog:=prog) (w:=w) (A:=A.in1) hh s.heap.objs.size l hlI (intItems xs)
 refine wpAny_pure ⟨plainId_quiet F.plain_min_loop _,J1 W (fun i j=>decide (numAt xs i<numAt xs j)) (CmpOf.ints_lt (numAt xs) (fun _ _=>intItems_at)) _ (fun hm=>Nat.lt_irrefl _ (hfp _ hm)) (intItems xs).size 0 _ #[] _ (Nat.zero_add _) (W.frame _ _ _ st fun b _ o e=>Heap.get?_push_of_some _ e) (.inl ⟨rfl,rfl⟩) (Heap.get?_push_size _ rfl) fun v h' tk hP hk=>?_⟩
 refine h v h' tk ?_ (old_kept fun b o hb e=>hk b o hb (Nat.ne_of_lt (Heap.lt_size e)) (Heap.get?_push_of_some _ e))
 have ez:(intItems xs).size=xs.size:=by simp [intItems]
 rw[ez] at hP
 exact hP
end
end YK
namespace L2
open PySem PySem.Spec PyProof.Rows
section
variable {X:Cx}
def Sj (K:PySem.W.Frag) (t:TA):TE:=fun σ H Q=>t σ H fun vs H1=>∃q,∃ns:List Int,vs=[.ref q]∧bS K H1 q (ns.map V.int)∧(ns=[]→Q .cI H1)∧∀M,M∈ns→(∀a∈ns,M≤a)→Q (.int M) H1
theorem J2 {e:Expr} {t:TA} {p pos kp Ry:Pos} {j} (hc:X.calm=true) (hg:Gl X "min") (hm:X.mg "min" =none) (ha:PA X [e] t)
  (he:backTo pos (starEach [e] X.env)=[(false,eval e X.env)]:=by rfl):PE X (.Call (.Name "min" p) [e] [⟨some "default", .Constant .none j Ry,kp⟩] pos) (Sj X.K t):=by
 intro pins s σ H Q I h
 refine wpAny_Call_Name_kw (lQ I hg hm NW ?_)
 refine callWith_kw (bV (ha pos pins s σ H _ I h) fun us s1 ⟨vs,H1,I1,r1,q,ns,ev,hS,q0,q1⟩=>kws_cons (bV (lP pins s1 σ H1 (fun v H'=>v= .cI∧H'=H1) I1 ⟨rfl,rfl⟩) fun u s2 ⟨v,H2,I2,r2,ev2,eH⟩=>kws_nil ?_)) (by rw[he];rfl) (by rw[he];rfl)
 subst ev ev2 eH
 cases (show u=Value.none from r2)
 obtain⟨u1,rfl,ru⟩:=vals1 r1
 cases ru
 obtain⟨its,rv,pl,hz⟩:=I2.list hS
 have hi:IntsAre its ns:=intsAre_of rv
 obtain⟨xs,ex⟩:=hi.allInts.items
 have yK:ns=xs.toList.map (·.1):=by rw[←hi.numsOf,←nums_intItems,←ex]
 have hl:s2.heap.IsList q (intItems xs):=ex▸pl.isList
 refine YK.C3 (I2.ok.hd hc) hl fun v h' tk hv hk=>?_
 rcases hv with ⟨h0,rfl⟩ | ⟨hp,hv⟩
 ·refine⟨.cI,H2,I2.kept hk,rfl,q0 ?_⟩
  rw[yK,List.map_eq_nil_iff]
  exact List.eq_nil_of_length_eq_zero (by rw[Array.length_toList];exact h0)
 ·obtain⟨t,rfl⟩:=intItems_at hv
  obtain⟨g1,g2⟩:=argBest_lt (numAt xs) (xs.size - 1)
  refine⟨.int _,H2,I2.kept hk,⟨t,rfl⟩,q1 _ ?_ fun a ha=>?_⟩
  ·rw[yK,numAt_eq];exact getD_mem (by rw[List.length_map,Array.length_toList];omega)
  ·rw[yK] at ha
   obtain⟨i,Z2,rfl⟩:=mem_getD ha
   rw[List.length_map,Array.length_toList] at Z2
   rw[←numAt_eq];exact g2 i (by omega)
end
end L2
namespace L2
open PySem PySem.Spec
section
variable {X:Cx}
end
end L2
namespace L2
open PySem PySem.Spec
end L2
namespace L2
open PySem PySem.Spec PyProof.Rows
section
variable {K:PySem.W.Frag} {h:Heap} {mg:Str→Option Value} {x m q:Str} {st:Stmt} {ps:List Str} {f C HE:Addr}
def dF (K:PySem.W.Frag) (x q:Str) (st:Stmt) (f:Addr):Prop:=(∃fd,Eo K x q st f fd)∧PySem.W.isFn K (.ref f)=true
def BA (x q:Str) (st:Stmt) (ps:List Str):Prop:=∀(kV doc pm:Value) (an:Option Addr) (bg ct:Value) (us:List Value),us.length=ps.length→bindArgs (PySem.W.fnOf x q (bq st) (aU st) (aj st) .none kV doc pm an bg ct) ⟨us,[]⟩=pure (ps.zip us)
theorem gT {p0:Str} (h:∀(kV doc pm:Value) (an:Option Addr) (bg ct u0:Value),bindArgs (PySem.W.fnOf x q (bq st) (aU st) (aj st) .none kV doc pm an bg ct) ⟨[u0],[]⟩=pure [(p0,u0)]):BA x q st [p0]:=fun kV doc pm an bg ct us hl=>match us,hl with| [u0],_=>h kV doc pm an bg ct u0
theorem pk {p0 p1:Str} (h:∀(kV doc pm:Value) (an:Option Addr) (bg ct u0 u1:Value),bindArgs (PySem.W.fnOf x q (bq st) (aU st) (aj st) .none kV doc pm an bg ct) ⟨[u0,u1],[]⟩=pure [(p0,u0),(p1,u1)]):BA x q st [p0,p1]:=fun kV doc pm an bg ct us hl=>match us,hl with| [u0,u1],_=>h kV doc pm an bg ct u0 u1
theorem QO {p0 p1 p2:Str} (h:∀(kV doc pm:Value) (an:Option Addr) (bg ct u0 u1 u2:Value),bindArgs (PySem.W.fnOf x q (bq st) (aU st) (aj st) .none kV doc pm an bg ct) ⟨[u0,u1,u2],[]⟩=pure [(p0,u0),(p1,u1),(p2,u2)]):BA x q st [p0,p1,p2]:=fun kV doc pm an bg ct us hl=>match us,hl with| [u0,u1,u2],_=>h kV doc pm an bg ct u0 u1 u2
theorem ba4 {p0 p1 p2 p3:Str} (h:∀(kV doc pm:Value) (an:Option Addr) (bg ct u0 u1 u2 u3:Value),bindArgs (PySem.W.fnOf x q (bq st) (aU st) (aj st) .none kV doc pm an bg ct) ⟨[u0,u1,u2,u3],[]⟩=pure [(p0,u0),(p1,u1),(p2,u2),(p3,u3)]):BA x q st [p0,p1,p2,p3]:=fun kV doc pm an bg ct us hl=>match us,hl with| [u0,u1,u2,u3],_=>h kV doc pm an bg ct u0 u1 u2 u3
theorem ba5 {p0 p1 p2 p3 p4:Str} (h:∀(kV doc pm:Value) (an:Option Addr) (bg ct u0 u1 u2 u3 u4:Value),bindArgs (PySem.W.fnOf x q (bq st) (aU st) (aj st) .none kV doc pm an bg ct) ⟨[u0,u1,u2,u3,u4],[]⟩=pure [(p0,u0),(p1,u1),(p2,u2),(p3,u3),(p4,u4)]):BA x q st [p0,p1,p2,p3,p4]:=fun kV doc pm an bg ct us hl=>match us,hl with| [u0,u1,u2,u3,u4],_=>h kV doc pm an bg ct u0 u1 u2 u3 u4
theorem dq {N P:List Str} {sc:Scope} (a:sc.kind= .function:=by rfl) (b:sc.isCoroutine=false:=by rfl) (c:sc.isGenerator=false:=by rfl) (d:N.Nodup:=by decide+kernel) (e:N.take P.length=P:=by rfl) (f:∀x∈P,sc.names.lookup x=some .local∨sc.names.lookup x=some .cell:=by decide+kernel) (g:∀y∈sc.names,y.2≠ .free:=by decide+kernel):ay N P sc:=⟨a,b,c,d,e,f,g⟩
theorem ck (X:K.In h) (G:h.Ns mainGlobals mg) (a:PySem.W.nsIn K mainGlobals x=some (some (.ref f))) (l:dF K x q st f) (b:BA x q st ps):Def K mg x q st ps:=by
 obtain⟨⟨fd,F⟩,_⟩:=l
 exact⟨f,fd,F,F.binds b,PySem.W.mg_of X G a⟩
theorem bJ (a:PySem.W.findIn K (.ref C) m=some (some (.ref f))) (l:dF K m q st f) (b:BA m q st ps):bb K C m q st ps:=by
 obtain⟨⟨fd,F⟩,i⟩:=l
 exact⟨f,fd,F,F.binds b,⟨a,i,F.kp⟩⟩
theorem FE (k:PySem.W.makesIn K C=true) (a:PySem.W.findIn K (.ref C) "__init__" =some (some (.ref f))) (kc:PySem.W.keepIn K (.ref C)=true) (l:dF K "__init__" q st f) (b:BA "__init__" q st ps):lA K C q st ps []:=by
 obtain⟨⟨fd,F⟩,i⟩:=l
 exact⟨f,fd, .none,⟨F.ex,F.kp⟩,⟨k,a,i,kc⟩,fun j _=>⟨[],by rw[List.drop_nil];exact .nil,F.binds b⟩⟩
theorem Sk (Z:PySem.W.fR K C HE f) (g:mg x=some (.ref C)) (kc:PySem.W.keepIn K (.ref C)=true) (l:dF K "__init__" q st f) (b:BA "__init__" q st ps):FC K mg x C HE q st ps:=by
 obtain⟨⟨fd,F⟩,i⟩:=l
 exact⟨f,fd,F,Z,F.binds b,g,kc⟩
end
end L2
namespace L2
open PySem PySem.Spec PyProof.Rows PySem.W PySem.Calls
section
variable {prog:Program} {w:World} {κ:Type} [DecidableEq κ] {knd:KeyKind prog w κ} {A:Around} {E:Value→Shared→Prop} {s:Shared} {d it:Addr} {i ep:Nat} {kvs:List (κ×Value)}
theorem zD {k:κ} {x:Value} {Q:Value→Shared→Prop} (hit:s.heap.IsKeyIter it d i kvs.length ep) (hm:s.heap.DictAt knd d kvs ep) (hx:kvs[i]? =some (k,x))
  (hQ:∀key h',knd.is k key=true→h'.IsKeyIter it d (i+1) kvs.length ep→Heap.SameBut it s.heap h'→Q key { s with heap:=h' }):
  wpAny (model prog w) A (Builtin.SmallTypes.nextOf (.ref it)) Q E s:=by
 unfold Builtin.SmallTypes.nextOf
 exact wpAny_bind (kdk_special hit hm hx fun key h' a b c=>wpAny_pure (hQ key h' a b c))
theorem C4 {Q:Value→Shared→Prop} (hh:A.handled=none) (hit:s.heap.IsKeyIter it d i kvs.length ep) (hm:s.heap.DictAt knd d kvs ep) (hx:kvs[i]? =none)
  (hE:∀h' e,Heap.ExtBut it s.heap h'→(∃o,h'.get? e=some o∧o.cls= .type "StopIteration")→E (.ref e) { s with heap:=h' }):
  wpAny (model prog w) A (Builtin.SmallTypes.nextOf (.ref it)) Q E s:=by
 have ⟨⟨oc,o2,o3,o4⟩,ho,hc,hd⟩:=hit
 have hc:oc= .type "dict_keyiterator" :=hc
 have hd:o3= .fields #[.ref d, .int i 0, .int kvs.length 0, .int ep 0]:=hd
 subst hc hd
 have ⟨⟨dc,d2,d3,d4⟩,es,N3,oS,Sl,hk,hp,hn⟩:=hm
 have Sl:d3= .dict es ep:=Sl
 subst Sl
 have hz:es.size=kvs.length:=by rw[←hp.length];simp
 have hge:es.size≤i:=by rw[hz];simpa using hx
 unfold Builtin.SmallTypes.nextOf
 refine wpAny_bind (wpAny_callSpecial?_slot (name:="__next__") hit.typeIs PySem.F.slot_dict_keyiterator_next (wpAny_call_entry PySem.F.slot_dict_keyiterator_next hit.typeIs PySem.F.entry_dict_keyiterator_next ?_ (PySem.F.args_dict_keyiterator_next_1 _)))
 refine wpAny_bind (wpAny_pure ?_)
 repeat (first|with_reducible refine wpAny_loadPart_at ho ?_|with_reducible refine wpAny_loadPart_at N3 ?_|wp_step)
 rw[if_neg (by omega),Int.toNat_natCast,Array.getElem?_eq_none hge]
 repeat (first|with_reducible refine wpAny_loadPart_at ho ?_|wp_step)
 unfold raiseNew
 refine wpAny_bind (wpAny_handled ?_)
 rw[show A.in1.handled=none from hh]
 exact wpAny_bind (wpAny_pure (wpAny_throw (hE _ _ (((Heap.SameBut.update ..).extBut.push _).push _) ⟨_,Heap.get?_push_size _ rfl,rfl⟩)))
theorem qF (hh:A.handled=none) (it d:Addr) (kvs:List (κ×Value)) (ep:Nat):Draws prog w A it [it,d] kvs.length (fun j u=>∃k x,kvs[j]? =some (k,x)∧knd.is k u=true) (fun j h=>h.IsKeyIter it d j kvs.length ep∧h.DictAt knd d kvs ep∧it≠d) where
 live:=fun j h st=>by
  obtain⟨⟨o,ho,_⟩,_⟩:=st
  exact⟨o,ho⟩
 frame:=fun j h h' st k=>by
  obtain⟨⟨o,ho,r⟩,⟨od,es,N3,r2⟩,ne⟩:=st
  exact⟨⟨o,k it (by simp) o ho,r⟩,⟨od,es,k d (by simp) od N3,r2⟩,ne⟩
 item:=fun j s Q E hj st hQ=>by
  obtain⟨hit,hm,ne⟩:=st
  refine zD hit hm (List.getElem?_eq_getElem hj) fun key h' hk hit' hs=>?_
  obtain⟨od,es,N3,r2⟩:=id hm
  exact hQ key h' s.toks ⟨_,_,List.getElem?_eq_getElem hj,hk⟩ ⟨hit',⟨od,es,(hs.2 d (Ne.symm ne)).trans N3,r2⟩,ne⟩ hs
 done:=fun s Q E st hE=>by
  obtain⟨hit,hm,ne⟩:=st
  exact C4 hh hit hm (List.getElem?_eq_none (Nat.le_refl _)) hE
abbrev Sm (d:Addr) (n ep:Nat):Obj:={ cls:= .type "dict_keyiterator",data:= .fields #[.ref d, .int 0 0, .int n 0, .int ep 0] }
abbrev enO (it:Addr):Obj:={ cls:= .type "enumerate",data:= .fields #[.none, .bool false, .ref it,rawInt 0, .none, .none] }
theorem sj (d:Addr) (kvs:List (κ×Value)) (ep:Nat) (hs:(d==sysModules)=false):MeetsIn prog w (Builtin.«enumerate.__new__» ⟨[.type "enumerate", .ref d],[]⟩) (fun _ R s=>s.heap.DictAt knd d kvs ep∧
   R (.ok (.ret (.ref (s.heap.push (Sm d kvs.length ep)).objs.size))) { s with heap:=(s.heap.push (Sm d kvs.length ep)).push (enO s.heap.objs.size) }):=
 .of_wp fun A R s ⟨hm,h⟩=>by
  obtain⟨hp,g,dr,tk,os⟩:=s
  have hsub:=sub_enumerate
  have QP:(Shared.heap ⟨hp,g,dr,tk,os⟩).DictAt knd d kvs ep:=hm
  obtain⟨o,es,ho,_⟩:=id hm
  wp_walk using wpAny_loadPart_at ho
  refine wpAny_stack_any fun _=>?_
  refine wpAny_pure ?_
  split
  ·rename_i c _ _ _ _ _
   cases (c==Value.type "enumerate")<;>(wp_walk using wpAny_loadPart_at ho,wpAny_pyIter_dict hs QP;exact⟨_,rfl,h⟩)
  ·wp_walk using wpAny_loadPart_at ho,wpAny_pyIter_dict hs QP
   exact⟨_,rfl,h⟩
theorem qG {d:Addr} {kvs:List (κ×Value)} {ep:Nat} {Q:Value→Shared→Prop} (hs:(d==sysModules)=false) (hm:s.heap.DictAt knd d kvs ep)
  (h:∀h',IsEnum h' (s.heap.objs.size+1) s.heap.objs.size 0 .none→h'.IsKeyIter s.heap.objs.size d 0 kvs.length ep→(∀b o,s.heap.get? b=some o→h'.get? b=some o)→Q (.ref (s.heap.objs.size+1)) { s with heap:=h' }):
  wpAny (model prog w) A (call (.type "enumerate") [.ref d]) Q E s:=by
 refine callType_newIn PySem.F.called_enumerate (by decide) (PySem.F.typeCall_enumerate_1 _) (PySem.F.newCall_enumerate_1 _) (fun x=>PySem.F.args_object_init_2 x _) PySem.F.entry_enumerate_new (sj d kvs ep hs) ⟨hm,?_⟩
 have hz:(s.heap.push (Sm d kvs.length ep)).objs.size=s.heap.objs.size+1:=Heap.size_push ..
 show _∧_
 rw[hz]
 have he:IsEnum ((s.heap.push (Sm d kvs.length ep)).push (enO s.heap.objs.size)) (s.heap.objs.size+1) s.heap.objs.size 0 .none:=by
  have:=Heap.get?_push_size (s.heap.push (Sm d kvs.length ep)) (o:=enO s.heap.objs.size) rfl
  rw[hz] at this
  exact this
 exact⟨⟨_,he,rfl⟩,h _ he ⟨_,Heap.get?_push_of_some _ (Heap.get?_push_size _ rfl),rfl,rfl⟩ fun b o x=>Heap.get?_push_of_some _ (Heap.get?_push_of_some _ x)⟩
end
def Sn (a:Addr) (o:Obj) (kvs:List (Key×V)):It:=
 ⟨fun i H=>H a=some (.eC o (.dK kvs))∧i<kvs.length,fun i H x H'=>∃p k v,kvs[i]? =some (k,v)∧H p=none∧H'=upd H p (.tup [.int i,kV k])∧x= .ref p,fun i H=>H a=some (.eC o (.dK kvs))∧kvs.length≤i⟩
theorem zE {P:Program} {w:World} {K:PySem.W.Frag} {elts:List Expr} {x1} {mn:Pos} (a e it:Addr) (o:Obj) (kvs:List (Key×V)) {es:Array DictEntry} {ep:Nat} (hd:o.data= .dict es ep) (QM:e≠it) (hea:e≠a) (hia:it≠a):
  Turn P w K (.Tuple elts x1 mn) (Sn a o kvs) [e,it] e (fun i h=>(∃old,IsEnum h e it (i:Nat) old)∧h.IsKeyIter it a i kvs.length ep∧i≤kvs.length) where
 mem:=by simp
 obj:=fun i h st b hb=>by
  obtain⟨⟨old,he⟩,⟨o1,e1,c1,d1⟩,_⟩:=st
  simp only [List.mem_cons,List.not_mem_nil,or_false] at hb
  rcases hb with q|q
  ·subst q;exact⟨_,he,fun v q=>by cases q⟩
  ·subst q;exact⟨o1,e1,fun v q=>by rw[d1] at q;cases q⟩
 keep:=fun i h h' st k=>by
  obtain⟨⟨old,he⟩,h1,hl⟩:=st
  exact⟨⟨old,k e (by simp) _ he⟩,h1.at fun o q=>k it (by simp) o q,hl⟩
 item:=by
  intro X hP hw hK hc i pins s σ H E I hf st hg
  subst hP hw hK
  obtain⟨hz,hi⟩:=hg
  obtain⟨⟨old,he⟩,h1,hle⟩:=st
  obtain⟨vs,rel,dd,hs⟩:=nX I.aX hz hd
  obtain⟨k,v,xa⟩:∃k v,kvs[i]? =some (k,v):=⟨kvs[i].1,kvs[i].2,by simp [hi]⟩
  obtain⟨u,hu,ru⟩:=rel.get xa
  rw[rel.length] at h1 hi
  have hh:X.A.in1.handled=none:=I.ok.hd hc
  have D:=qF (prog:=X.prog) (w:=X.w) (knd:=bD X.prog X.w) hh it a vs ep
  refine wpAny_pyNext_enum_itemD D he ⟨h1,dd,hia⟩ hi QM (by simp [QM,hea]) fun key h' tk hP a1 a2 a3 a4 hk=>⟨_,rfl,?_⟩
  obtain⟨k',x',FD,Nv⟩:=hP
  rw[hu] at FD
  cases FD
  refine wpAny_letOwnedTupleGo_enum (s:={ s with heap:=h',toks:=tk+1 }) a1 fun L6 b1 b2=>?_
  have up:∀c q,c≠e→h'.get? c=some q→L6.get? c=some q:=fun c q n z=>b2.extBut _ _ n z
  have ne:∀{c:Addr} {q},s.heap.get? c=some q→s.heap.objs.size≠c:=fun z=>Nat.ne_of_gt (Heap.lt_size z)
  have jk:=up _ _ (ne he) a3
  have I1:Inv X pins σ (upd H s.heap.objs.size (.tup [.int i,kV k])) { s with heap:=L6,toks:=tk+1 }:=by
   refine I.vg (ch:=[e,it]) (fun b q hb z=>?_) hf (Nat.le_refl _) ⟨by show 2≤sizeLine;decide,[.int i tk,key], .cons ⟨_,rfl⟩ (.cons (u9 Nv) .nil),⟨_,jk,rfl,_,rfl⟩⟩
   simp only [List.mem_cons,List.not_mem_nil,or_false,not_or] at hb
   exact up _ _ hb.1 (hk b q hb.1 hb.2 z)
  refine⟨.ref s.heap.objs.size,_,I1,rfl,⟨_,k,v,xa,I.aX.fresh (Nat.le_refl _),rfl,rfl⟩,⟨⟨key,?_⟩,?_,by rw[rel.length];exact hi⟩,fun b hb=>?_⟩
  ·have e1:((i+1 :Nat):Int)=(i:Int)+1:=by push_cast;rfl
   rw[e1];exact b1
  ·rw[rel.length]
   exact a2.1.at fun q z=>up _ _ (Ne.symm QM) z
  ·rw[ah ?_]
   ·exact(hf b hb).1
   ·simp only [List.mem_cons,List.not_mem_nil,or_false] at hb
    obtain⟨o1,e1,_⟩:=h1
    rcases hb with q|q
    ·rw[q];exact Ne.symm (ne he)
    ·rw[q];exact Ne.symm (ne e1)
 done:=by
  intro X hP hw hK hc i pins s σ H E I hf st hg
  subst hP hw hK
  obtain⟨hz,hi⟩:=hg
  obtain⟨⟨old,he⟩,h1,hle⟩:=st
  obtain⟨vs,rel,dd,hs⟩:=nX I.aX hz hd
  rw[rel.length] at h1 hi
  have hh:X.A.in1.handled=none:=I.ok.hd hc
  have D:=qF (prog:=X.prog) (w:=X.w) (knd:=bD X.prog X.w) hh it a vs ep
  have en:i=vs.length:=by rw[rel.length] at hle;omega
  rw[en] at h1
  refine wpAny_pyNext_enum_endD D he ⟨h1,dd,hia⟩ fun h' hk=>⟨rfl,I.vh (t':=s.toks) (ch:=[e,it]) (fun b q hb z=>?_) hf⟩
  simp only [List.mem_cons,List.not_mem_nil,or_false,not_or] at hb
  exact hk b q hb.2 z
 self:=fun _ _ _ _ _ st h=>by
  obtain⟨⟨old,he⟩,_⟩:=st
  exact wpAny_pyIter_enum he h
section
variable {X:Cx}
def Oj (X:Cx) (ta:TA):TI:=fun σ H R=>ta σ H fun vs H1=>∃a kvs,vs=[.ref a]∧H1 a=some (.dK kvs)∧∀o,NF X a→R (Sn a o kvs) (upd H1 a (.eC o (.dK kvs)))
theorem FF {elts:List Expr} {x1} {mn:Pos} {a:Expr} {ta:TA} {p pos:Pos} (hg:Gl X "enumerate") (hm:X.mg "enumerate" =none) (ha:PA X [a] ta) (hs:starEach [a] X.env=[(false,eval a X.env)]:=by rfl):
  PI X (.Tuple elts x1 mn) (.Call (.Name "enumerate" p) [a] [] pos) (Oj X ta):=by
 intro pins s σ H R I h
 refine Call_ (lQ I hg hm mC (PyProof.Rows.callWith_type1 (bV (ha pos pins s σ H _ I h) fun us s1 ⟨vs,H1,I1,r1,q1⟩=>?_) hs rfl))
 obtain⟨l,kvs,e,lB,q⟩:=q1
 subst e
 obtain⟨u,rfl,r⟩:=vals1 r1
 cases r
 obtain⟨o,ho,I2⟩:=I1.freeze lB
 obtain⟨z,hs,vs,rel,dd⟩:=oY I1.aX lB
 obtain⟨ep,da⟩:=dd.dictAt
 obtain⟨o',es,si,ex,hd,_⟩:=id da
 rw[ho] at si;cases si
 have ml:=Heap.lt_size ho
 refine qG hs da fun h' a1 a2 hk=>wpAny_pyIter_enum (s:={ s1 with heap:=h' }) a1 ?_
 refine⟨_,[s1.heap.objs.size+1,s1.heap.objs.size],_,_,_,rfl,I2.kept (t':=s1.toks) hk,zE l (s1.heap.objs.size+1) s1.heap.objs.size o kvs hd (neN (by omega)) (Nat.ne_of_gt (Nat.lt_succ_of_lt ml)) (Nat.ne_of_gt ml),⟨⟨_,a1⟩,by rw[rel.length];exact a2,Nat.zero_le _⟩,fun b hb=>?_,q o (I1.nf lB)⟩
 have yN:s1.heap.objs.size≤b:=by
  simp only [List.mem_cons,List.not_mem_nil,or_false] at hb
  rcases hb with e|e<;>rw[e]<;>first|exact Nat.le_refl _|exact Nat.le_add_right _ _
 exact I2.xl yN (I2.aX.fresh yN)
end
end L2
namespace L2
open PySem PySem.Spec PyProof.Rows
theorem C5 {X:Cx} {a:Addr} {o:Obj} {kvs:List (Key×V)} {g:TG} {tb:TS} {D:Ends} {σ:St} {H:Hp} (nf:NF X a) (Pv:Nat→St→Hp→Prop) (h0:Pv 0 σ H) (hl:∀i σ H,Pv i σ H→H a=some (.dK kvs))
  (hs:∀i k v p σ H,kvs[i]? =some (k,v)→Pv i σ H→(upd H a (.eC o (.dK kvs))) p=none→g (.ref p) σ (upd (upd H a (.eC o (.dK kvs))) p (.tup [.int i,kV k])) fun σ2 H2=>tb { nx:=fun σ' H'=>H' a=some (.eC o (.dK kvs))∧Pv (i+1) σ' (upd H' a (.dK kvs)),ct:=fun σ' H'=>H' a=some (.eC o (.dK kvs))∧Pv (i+1) σ' (upd H' a (.dK kvs)),bk:=fun σ'=>Th X (D.nx σ'),rt:=fun v=>Th X (D.rt v) } σ2 H2)
  (hd:∀σ H,Pv kvs.length σ H→D.nx σ H):
  ∃W:Nat→Nat→St→Hp→Prop,(∃m,W 0 m σ (upd H a (.eC o (.dK kvs))))∧∀i m σ H,W i m σ H→((Sn a o kvs).stop i H∧Th X (D.nx σ) H)∨
   ((Sn a o kvs).go i H∧∃N:St→Hp→Prop,(∀σ' H',N σ' H'→∃m',m'<m∧W (i+1) m' σ' H')∧∀x H',(Sn a o kvs).pf i H x H'→g x σ H' fun σ2 H2=>tb { nx:=N,ct:=N,bk:=fun σ'=>Th X (D.nx σ'),rt:=fun v=>Th X (D.rt v) } σ2 H2):=by
 refine⟨fun i m σ H=>m+i=kvs.length∧H a=some (.eC o (.dK kvs))∧Pv i σ (upd H a (.dK kvs)),⟨kvs.length,by omega,af,?_⟩,?_⟩
 ·rw[jc,dO (hl _ _ _ h0)];exact h0
 ·rintro i m σ H ⟨hm,hz,hp⟩
  by_cases hi:i<kvs.length
  ·refine .inr ⟨⟨hz,hi⟩,fun σ' H'=>H' a=some (.eC o (.dK kvs))∧Pv (i+1) σ' (upd H' a (.dK kvs)),fun σ' H' q=>⟨m - 1,by omega,by omega,q⟩,?_⟩
   rintro x H' ⟨p,k,v,xa,hn,rfl,rfl⟩
   have:=hs i k v p σ _ xa hp
   rw[jc,dO hz] at this
   exact this hn
  ·have e:i=kvs.length:=by omega
   subst e
   exact .inl ⟨⟨hz,Nat.le_refl _⟩,a,o,kvs,hz,nf,hd _ _ hp⟩
end L2
namespace L2
open PySem PySem.Spec
theorem mG {X:Cx} {f:Str} {ex:Expr} {ta:TE} {pos:Pos} (K:PySem.W.Frag) (hK:X.K=K) (he:PE X ex ta) (hb:attributeBase ex f X.env (eval ex X.env)=eval ex X.env):PE X (.Attribute ex f pos) (Md K ta f):=by
 subst hK
 exact JV he hb
end L2
set_option maxHeartbeats 4000000
namespace K52
open PySem L2
def top (i:Nat):Stmt:=PySem.Challenge.pw_balancehall_k52_turns_far.main.body.getD i (.Pass ⟨0,0,0,0⟩)
abbrev vt:Stmt:=top 16
abbrev vw:Stmt:=top 17
abbrev pJ:Stmt:=top 18
abbrev iE:Stmt:=top 19
abbrev kQ:Stmt:=top 21
abbrev i4:Stmt:=top 22
abbrev i5:Stmt:=inClass (top 25) 0
abbrev vx:Stmt:=inClass (top 25) 1
abbrev pK:Stmt:=inClass (top 25) 2
abbrev fS:Stmt:=inClass (top 26) 0
abbrev kR:Stmt:=inClass (top 26) 1
abbrev i6:Stmt:=inClass (top 26) 2
abbrev fT:Stmt:=inClass (top 27) 0
abbrev iF:Stmt:=inClass (top 27) 1
abbrev gK:Stmt:=inClass (top 27) 2
abbrev mH:Stmt:=top 34
abbrev gL:Stmt:=top 35
abbrev fU:Stmt:=inClass (top 36) 0
abbrev mI:Stmt:=inClass (top 36) 1
abbrev mJ:Stmt:=inClass (top 36) 2
abbrev qH:Stmt:=inClass (top 37) 0
abbrev xK:Stmt:=inClass (top 37) 1
abbrev xM:Stmt:=inClass (top 37) 2
abbrev j3:Stmt:=inClass (top 37) 3
abbrev mK:Stmt:=inClass (top 37) 4
abbrev mL:Stmt:=inClass (top 37) 5
abbrev g7:Stmt:=inClass (top 37) 6
abbrev kS:Stmt:=inClass (top 37) 7
abbrev og:Stmt:=inClass (top 37) 8
abbrev jq:Stmt:=inClass (top 37) 9
abbrev qI:Stmt:=inClass (top 37) 10
abbrev mM:Stmt:=inClass (top 37) 11
abbrev j4:Stmt:=inClass (top 37) 12
abbrev j5:Stmt:=inClass (top 37) 13
abbrev kT:Stmt:=top 38
abbrev mN:Stmt:=top 47
abbrev gM:Stmt:=top 48
abbrev iG:Stmt:=top 49
abbrev vy:Stmt:=inClass (top 50) 0
abbrev vz:Stmt:=inClass (top 50) 2
abbrev tI:Stmt:=inClass (top 50) 4
abbrev vA:Stmt:=inClass (top 51) 0
abbrev pL:Stmt:=inClass (top 51) 1
abbrev mO:Stmt:=inClass (top 51) 2
abbrev pM:Stmt:=inClass (top 51) 3
abbrev mP:Stmt:=top 52
abbrev qJ:Stmt:=top 54
abbrev kU:Stmt:=top 56
abbrev mQ:Stmt:=top 57
abbrev fV:Stmt:=top 58
abbrev pN:Stmt:=top 59
abbrev gN:Stmt:=top 60
abbrev fW:Stmt:=inClass (top 61) 0
abbrev AZ:Stmt:=inClass (top 61) 1
abbrev J3:Stmt:=inClass (top 61) 2
abbrev C6:Stmt:=inClass (top 61) 3
abbrev qK:Stmt:=inClass (top 61) 4
abbrev mR:Stmt:=inClass (top 61) 7
abbrev vB:Stmt:=inClass (top 8) 0
abbrev pO:Stmt:=top 63
abbrev vC:Stmt:=top 64
abbrev vD:Stmt:=top 65
abbrev A0:Stmt:=top 66
abbrev mS:Stmt:=top 68
abbrev mT:Stmt:=top 69
abbrev oh:Stmt:=top 70
abbrev j6:Stmt:=top 71
abbrev A1:Stmt:=top 72
abbrev vE:Stmt:=top 73
abbrev i7:Stmt:=top 74
abbrev sr:Stmt:=top 80
abbrev vF:Stmt:=inClass (top 61) 5
abbrev A2:Stmt:=top 75
abbrev vG:Stmt:=top 76
abbrev vH:Stmt:=top 77
abbrev vI:Stmt:=top 78
abbrev pP:Stmt:=top 79
theorem nkc:¬(("kind" :Str)="count"):=by decide+kernel
def vJ (k:Str) (n:Int):List (Str×V):=cJ "count" (.int n) (cJ "kind" (.str k) [])
theorem tJ (k:Str) (n:Int):(vJ k n).lookup ("kind" :Str)=some (.str k):=by
 unfold vJ
 rw[aD,if_neg nkc,aD,if_pos rfl]
theorem qL (k:Str) (n:Int):(vJ k n).lookup ("count" :Str)=some (.int n):=by
 unfold vJ
 rw[aD,if_pos rfl]
theorem A3 (k:Str) (n:Int) {m:Str} (h1:¬m="count") (h2:¬m="kind"):(vJ k n).lookup m=none:=by
 unfold vJ
 rw[aD,if_neg h1,aD,if_neg h2]
 all_goals rfl
def gC (C:Addr) (H:Hp) (p:Addr) (k:Str) (n:Int):Prop:=∃dx,H p=some (.ins C dx (vJ k n))
theorem gC.same {C:Addr} {H H':Hp} {p:Addr} {k:Str} {n:Int} (a:gC C H p k n) (e:au H H'):gC C H' p k n:=let ⟨dx,h⟩:=a;⟨dx,e _ _ h⟩
def bu (kvs:List (Key×V)):Prop:=∀p∈kvs,∃i,p.2=V.int i
def aG (kvs:List (Key×V)) (k:Key):Int:=match bX kvs k with
 |some (.int i)=>i
 |_=>0
theorem eI {kvs:List (Key×V)} {k:Key} (h:bX kvs k=none):aG kvs k=0:=by unfold aG;rw[h]
theorem eK {kvs:List (Key×V)} {k:Key} {i:Int} (h:bX kvs k=some (.int i)):aG kvs k=i:=by unfold aG;rw[h]
def cA (kvs:List (Key×V)) (k:Key) (n:Int):List (Key×V):=putK kvs k (.int (aG kvs k+n))
def a7 (t:Int) (acc:List (Key×V)) (as:List (Str×Int)):List (Key×V):=as.foldl (fun acc p=>cA acc (Sum.inr p.1) (p.2*t)) acc
def iS (c:Int) (acc:List (Key×V)) (l:List (Key×V)) (all:List (Key×V)):List (Key×V):=l.foldl (fun acc p=>cA acc p.1 (aG all p.1*c)) acc
def C7 (c:Int):V→V
 | .int i=> .int (i*c)
 |v=>v
def scale (c:Int) (kvs:List (Key×V)):List (Key×V):=kvs.map fun p=>(p.1,C7 c p.2)
def FG (B:Int) (kvs:List (Key×V)):Prop:=∀p∈kvs,∃i,p.2=V.int i∧0≤i∧i≤B
theorem fX {kvs:List (Key×V)} {k:Key} {v:V} (e:bX kvs k=some v):(k,v)∈kvs:=by
 unfold bX at e
 cases f:kvs.find? fun kv=>decide (kv.1=k) with
 |none=>rw[f] at e;cases e
 |some p=>
  rw[f] at e
  cases e
  have h1:=List.mem_of_find?_eq_some f
  have h2:p.1=k:=by simpa using List.find?_some f
  rw[←h2];exact h1
theorem bu.look {kvs:List (Key×V)} (h:bu kvs) {k:Key} {v:V} (e:bX kvs k=some v):v= .int (aG kvs k):=by
 obtain⟨i,hi⟩:=h _ (fX e)
 have hi:v= .int i:=hi
 subst hi
 rw[eK e]
theorem bu.at {kvs:List (Key×V)} (h:bu kvs) (k:Key):(bX kvs k).getD (.int 0)= .int (aG kvs k):=by
 cases e:bX kvs k with
 |none=>rw[eI e];rfl
 |some v=>rw[h.look e];rfl
theorem FG.So {B:Int} {kvs:List (Key×V)} (h:FG B kvs) (hB:0≤B) (k:Key):0≤aG kvs k∧aG kvs k≤B:=by
 cases e:bX kvs k with
 |none=>rw[eI e];exact⟨Int.le_refl _,hB⟩
 |some v=>
  obtain⟨i,hi,h0,h1⟩:=h _ (fX e)
  have hi:v= .int i:=hi
  subst hi
  rw[eK e];exact⟨h0,h1⟩
theorem FG.put {B B':Int} {kvs:List (Key×V)} (h:FG B kvs) (hBB:B≤B') (k:Key) {i:Int} (h0:0≤i) (h1:i≤B'):FG B' (putK kvs k (.int i)):=by
 intro p hp
 unfold putK at hp
 split at hp
 ·obtain⟨q,hq,e⟩:=List.mem_map.mp hp
  subst e
  split
  ·exact⟨i,rfl,h0,h1⟩
  ·obtain⟨j,e,h2,h3⟩:=h q hq
   exact⟨j,e,h2,Int.le_trans h3 hBB⟩
 ·rcases List.mem_append.mp hp with hq|hq
  ·obtain⟨j,e,h2,h3⟩:=h p hq
   exact⟨j,e,h2,Int.le_trans h3 hBB⟩
  ·have e:p=(k,V.int i):=by simpa using hq
   exact⟨i,by rw[e],h0,h1⟩
theorem FG.add {B b:Int} {kvs:List (Key×V)} (h:FG B kvs) (hB:0≤B) (k:Key) {n:Int} (h0:0≤n) (h1:n≤b):FG (B+b) (cA kvs k n):=by
 obtain⟨z0,z1⟩:=h.So hB k
 exact h.put (by omega) k (by omega) (by omega)
theorem qM {kvs:List (Key×V)} {k:Key} {v:V} (h:(kvs.map (·.1)).Nodup):((putK kvs k v).map (·.1)).Nodup:=by
 cases e:bX kvs k with
 |none=>exact JA v h e
 |some x=>
  have ha:(kvs.any fun kv=>decide (kv.1=k))=true:=by rw[fx,e];rfl
  unfold putK
  rw[if_pos ha,List.map_map]
  have:((fun (x:Key×V)=>x.1)∘fun kv=>if kv.1=k then (kv.1,v) else kv)=fun (x:Key×V)=>x.1:=by
   funext y
   simp only [Function.comp]
   split<;>rfl
  rw[this]
  exact h
theorem oj (c:Int) (k:Key):∀kvs:List (Key×V),bX (scale c kvs) k=(bX kvs k).map (C7 c)
 | []=>rfl
 |p::r=>by
  have ih:=oj c k r
  show bX ((p.1,C7 c p.2)::scale c r) k=_
  by_cases e:p.1=k
  ·refine(cL (p:=(p.1,C7 c p.2)) (r:=scale c r) e).trans ?_
   rw[cL e]
   rfl
  ·refine(cM (p:=(p.1,C7 c p.2)) (r:=scale c r) e).trans ?_
   rw[cM e]
   exact ih
theorem C8 (c:Int) (kvs:List (Key×V)) (k:Key) (i:Int):scale c (putK kvs k (.int i))=putK (scale c kvs) k (.int (i*c)):=by
 have ha:((scale c kvs).any fun kv=>decide (kv.1=k))=kvs.any fun kv=>decide (kv.1=k):=by
  unfold scale
  rw[List.any_map];rfl
 unfold putK
 rw[ha]
 split
 ·unfold scale
  rw[List.map_map,List.map_map]
  apply List.map_congr_left
  intro p _
  simp only [Function.comp]
  split<;>rfl
 ·unfold scale
  rw[List.map_append];rfl
theorem C9 {kvs:List (Key×V)} (h:bu kvs) (c:Int) (k:Key):aG (scale c kvs) k=aG kvs k*c:=by
 cases e:bX kvs k with
 |none=>rw[eI e,eI (by rw[oj,e];rfl),Int.zero_mul]
 |some v=>
  have:=h.look e
  subst this
  exact eK (by rw[oj,e];rfl)
theorem bu.put {kvs:List (Key×V)} (h:bu kvs) (k:Key) (i:Int):bu (putK kvs k (.int i)):=by
 intro p hp
 unfold putK at hp
 split at hp
 ·obtain⟨q,hq,e⟩:=List.mem_map.mp hp
  subst e
  split
  ·exact⟨i,rfl⟩
  ·exact h q hq
 ·rcases List.mem_append.mp hp with hq|hq
  ·exact h p hq
  ·have e:p=(k,V.int i):=by simpa using hq
   exact⟨i,by rw[e]⟩
theorem Dc {kvs:List (Key×V)} (h:bu kvs) (c:Int) (k:Key) (n:Int):scale c (cA kvs k n)=cA (scale c kvs) k (n*c):=by
 unfold cA
 rw[C8,C9 h,Int.add_mul]
theorem bu.add {kvs:List (Key×V)} (h:bu kvs) (k:Key) (n:Int):bu (cA kvs k n):=h.put k _
theorem tK (t c:Int):∀(as:List (Str×Int)) (acc:List (Key×V)),bu acc→scale c (a7 t acc as)=a7 (t*c) (scale c acc) as
 | [],_,_=>rfl
 |p::r,acc,h=>by
  show scale c (a7 t (cA acc (Sum.inr p.1) (p.2*t)) r)=a7 (t*c) (cA (scale c acc) (Sum.inr p.1) (p.2*(t*c))) r
  rw[tK t c r _ (h.add _ _),Dc h,Int.mul_assoc]
theorem iH (t:Int):∀(as:List (Str×Int)) (acc:List (Key×V)),bu acc→bu (a7 t acc as)
 | [],_,h=>h
 |_::r,_,h=>iH t r _ (h.add _ _)
theorem vK (t:Int):∀(as:List (Str×Int)) (acc:List (Key×V)),(acc.map (·.1)).Nodup→((a7 t acc as).map (·.1)).Nodup
 | [],_,h=>h
 |_::r,_,h=>vK t r _ (qM h)
theorem iI (t:Int):∀(as:List (Str×Int)) (acc:List (Key×V)),(a7 t acc as).length≤acc.length+as.length
 | [],_=>Nat.le_refl _
 |p::r,acc=>by
  have:=iI t r (cA acc (Sum.inr p.1) (p.2*t))
  have h2:=dM acc (Sum.inr p.1 :Key) (.int (aG acc (Sum.inr p.1)+p.2*t))
  have e:(cA acc (Sum.inr p.1) (p.2*t)).length≤acc.length+1:=h2
  show (a7 t (cA acc (Sum.inr p.1) (p.2*t)) r).length≤_
  rw[List.length_cons]
  omega
theorem vL {t b:Int} (hb:0≤b):∀(as:List (Str×Int)) (acc:List (Key×V)) (B:Int),0≤B→FG B acc→(∀p∈as,0≤p.2*t∧p.2*t≤b)→FG (B+as.length*b) (a7 t acc as)
 | [],acc,B,_,h,_=>by
   have e:B+(([]:List (Str×Int)).length:Int)*b=B:=by simp
   rw[e];exact h
 |p::r,acc,B,hB,h,hp=>by
  obtain⟨p0,p1⟩:=hp p (List.mem_cons_self ..)
  have:=vL hb r _ (B+b) (by omega) (h.add hB (Sum.inr p.1) p0 p1) fun q hq=>hp q (List.mem_cons_of_mem _ hq)
  have e:B+b+(r.length:Int)*b=B+((p::r).length:Int)*b:=by
   rw[List.length_cons]
   push_cast
   rw[Int.add_mul,Int.one_mul]
   omega
  rw[←e]
  exact this
def fb (n:Int):Str:=if n=1 then "" else (toString n:Str)
theorem zF:∀n:Nat,n<1000→(fb (n:Int)).length≤3:=by decide+kernel
theorem g8 {n:Int} (h:1≤n) (h':n≤999):(fb n).length≤3:=by
 have:=zF n.toNat (by omega)
 rwa [Int.toNat_of_nonneg (by omega)] at this
def jn (ys:List Str):Str:=Str.join ⟨#[]⟩ ys
theorem join_eq (ys:List Str):Txt.join "" ys=jn ys:=by
 have h:=PyProof.Rows.join_closes (sep:="") (sep':=⟨#[]⟩) (ys:=ys) (by decide+kernel)
 unfold jn
 simpa using h
theorem J4 (x:Str) (r:List Str):jn (x::r)=x++jn r:=PyProof.Rows.join_nil_cons x r
theorem A4:∀{ys:List Str} {b:Nat},(∀y∈ys,y.length≤b)→(ys.map (·.length)).sum≤ys.length*b
 | [],_,_=>Nat.zero_le _
 |y::r,b,h=>by
  rw[List.map_cons,List.sum_cons,List.length_cons,Nat.succ_mul]
  have h1:=h y (List.mem_cons_self ..)
  have h2:=A4 (ys:=r) (b:=b) fun z hz=>h z (List.mem_cons_of_mem _ hz)
  omega
theorem tL (x y z:Str):x++y++z=x++(y++z):=by
 show (⟨(x.cps++y.cps)++z.cps⟩:Str)=⟨x.cps++(y.cps++z.cps)⟩
 rw[Array.append_assoc]
theorem YM:¬(("parts" :Str)="count"):=by decide+kernel
def mU (l:Addr) (n:Int):List (Str×V):=cJ "count" (.int n) (cJ "parts" (.ref l) [])
theorem iJ (l:Addr) (n:Int):(mU l n).lookup ("parts" :Str)=some (.ref l):=by
 unfold mU
 rw[aD,if_neg YM,aD,if_pos rfl]
theorem iK (l:Addr) (n:Int):(mU l n).lookup ("count" :Str)=some (.int n):=by
 unfold mU
 rw[aD,if_pos rfl]
theorem mV (l:Addr) (n:Int) {m:Str} (h1:¬m="count") (h2:¬m="parts"):(mU l n).lookup m=none:=by
 unfold mU
 rw[aD,if_neg h1,aD,if_neg h2]
 all_goals rfl
inductive Dd (K:PySem.W.Frag) (vs:List V) (H:Hp) (Q:VK) (E:XK):Prop
 |mk (a:Addr) (ns:List Int) (k:Nat) (dU:vs=[.ref a, .int k]) (dW:bS K H a (ns.map V.int)) (d5:ns.length≤63) (fe:∀n,Q (.int n) H)
def mW (K:PySem.W.Frag):Sp:=Dd K
inductive FH (vs:List V) (H:Hp) (Q:VK) (E:XK):Prop
 |mk (i:Int) (dU:vs=[.int i]) (dW:Q (.bl true) H)
def pQ:Sp:=FH
inductive J6 (vs:List V) (H:Hp) (Q:VK) (E:XK):Prop
 |mk (n:Int) (dU:vs=[.int n]) (dW:1≤n) (d5:n≤999) (fe:Q (.str (fb n)) H)
def j7:Sp:=J6
inductive J7 (C:Addr) (vs:List V) (H:Hp) (Q:VK) (E:XK):Prop
 |mk (p dx:Addr) (k:Str) (n:Int) (dU:vs=[.ref p, .str k, .int n]) (dW:H p=some (.ins C dx [])) (d5:∀H',H' p=some (.ins C dx (vJ k n))→(∀b o,H b=some o→b≠p→H' b=some o)→Q .cI H')
def FI (C:Addr):Sp:=J7 C
inductive FJ (C:Addr) (vs:List V) (H:Hp) (Q:VK) (E:XK):Prop
 |mk (p:Addr) (k:Str) (n:Int) (dU:vs=[.ref p]) (dW:gC C H p k n) (d5:k.length≤3) (fe:1≤n) (gH:n≤999) (jb:Q (.str (k++fb n)) H)
def vM (C:Addr):Sp:=FJ C
inductive De (C:Addr) (vs:List V) (H:Hp) (Q:VK) (E:XK):Prop
 |mk (p:Addr) (k:Str) (n:Int) (dU:vs=[.ref p]) (dW:gC C H p k n) (d5:∀d,H d=none→Q (.ref d) (upd H d (.dK [(Sum.inr k, .int n)])))
def qO (C:Addr):Sp:=De C
structure om (K:PySem.W.Frag) (mg:Str→Option Value) (C:Addr):Prop where
 gD:sR K C
 vN:cE K C "kind"
 qP:cE K C "count"
 Ol:mg "Atom" =some (.ref C)
 mX:mg "len" =none
 FK:mg "str" =none
 tM:mg "int" =none
 Om:mg "bool" =none
 pR:mg "range" =none
 jr:mg "isinstance" =none
 k1:PySem.W.kitOne K (.type "int") (.type "int")=some true
 k2:PySem.W.kitOne K (.type "int") (.type "bool")=some false
 k3:PySem.W.kitOne K (.type "dict") (.type "dict")=some true
 k4:PySem.W.kitOne K (.type "str") (.type "str")=some true
 k6:PySem.W.kitOne K (.type "list") (.type "list")=some true
theorem mY {x y:Str} (h:x.cps.toList=y.cps.toList):x=y:=by
 cases x;cases y
 congr 1
 exact Array.toList_inj.mp h
theorem J8 (a b n:Nat):Builtin.Str.strSliceIndices (some (a:Int)) (some (b:Int)) 1 n=Builtin.Str.strSliceIndices (some (a:Int)) (some ((min b n:Nat):Int)) 1 n:=by
 have h2:¬((b:Int) <0):=by omega
 have h3:¬(((min b n:Nat):Int) <0):=by omega
 have e2:max (0 :Int) (min (b:Int) (n:Int))=max (0 :Int) (min ((min b n:Nat):Int) (n:Int)):=by omega
 simp only [Builtin.Str.strSliceIndices,h2,h3,if_false,e2,show ((1 :Int) >0)=True from by simp,if_true]
theorem tN (x:Str) {a b:Nat} (NV:a≤b) (ha:a≤x.length):(Txt.slice x (some (a:Int)) (some (b:Int))).cps.toList=(x.cps.toList.drop a).take (b - a):=by
 have hm:a≤min b x.length:=by omega
 have hb:min b x.length≤x.length:=by omega
 have h1:=StrLaws.sliced_plain x hm hb
 have h2:=StrLaws.strSliceIndices_plain hm hb
 have hl:x.cps.toList.length=x.length:=by simp [Str.length]
 unfold Txt.slice
 rw[J8]
 split
 ·rename_i h
  have h:(Builtin.Str.strSliceIndices (some (a:Int)) (some ((min b x.length:Nat):Int)) 1 x.length).length=x.length:=by simpa using h
  rw[h2,List.length_map,List.length_range] at h
  by_cases hz:x.length=0
  ·have:x.cps.toList=[]:=List.length_eq_zero_iff.mp (by omega)
   rw[this];simp
  ·have e:a=0:=by omega
   subst e
   rw[List.drop_zero,List.take_of_length_le (by omega)]
 ·show (List.filterMap _ _).toArray.toList=_
  rw[h1,List.take_eq_take_iff,List.length_drop,hl]
  omega
def eR (x:Str) (p:Nat):Str:=⟨((x.cps.toList.drop p).take 1).toArray⟩
theorem tO (x:Str) {p:Nat} (hp:p≤x.length):Txt.slice x (some (p:Int)) (some ((p:Int)+1))=eR x p:=by
 apply mY
 have:=tN x (a:=p) (b:=p+1) (by omega) hp
 rw[Nat.add_sub_cancel_left] at this
 exact this
def Here (x:Str) (p:Nat) (t post:List Nat):Prop:=p≤x.length∧x.cps.toList.drop p=t++post
theorem Here.on {x:Str} {p:Nat} {t u post:List Nat} (h:Here x p (t++u) post):Here x (p+t.length) u post:=by
 obtain⟨h1,h2⟩:=h
 have hl:x.cps.toList.length=x.length:=by simp [Str.length]
 have e:=congrArg List.length h2
 rw[List.length_drop,List.length_append,List.length_append,hl] at e
 refine⟨by omega,?_⟩
 rw[←List.drop_drop,h2,List.append_assoc,List.drop_left]
theorem Here.sg {x:Str} {p:Nat} {c:Nat} {t post:List Nat} (h:Here x p (c::t) post):eR x p=⟨#[c]⟩:=by
 unfold eR
 rw[h.2]
 rfl
theorem Here.Oo {x:Str} {p:Nat} {post:List Nat} (h:Here x p [] post):eR x p=⟨(post.take 1).toArray⟩:=by
 unfold eR
 rw[h.2]
 rfl
theorem Here.cut {x:Str} {p:Nat} {t post:List Nat} (h:Here x p t post):Txt.slice x (some (p:Int)) (some ((p+t.length:Nat):Int))=⟨t.toArray⟩:=by
 apply mY
 rw[tN x (by omega) h.1,h.2,Nat.add_sub_cancel_left,List.take_left]
theorem Here.le {x:Str} {p:Nat} {t post:List Nat} (h:Here x p t post):p+t.length≤x.length:=by
 have hl:x.cps.toList.length=x.length:=by simp [Str.length]
 have e:=congrArg List.length h.2
 rw[List.length_drop,List.length_append,hl] at e
 have:=h.1
 omega
def inR (lo hi:Nat) (s:Str):Bool:=match s.cps.toList with
 | [c]=>decide (lo≤c)&&decide (c≤hi)
 |_=>false
theorem Oq (lo:Nat) (s:Str) (h:s.cps.toList.length≤1):(!decide (s.cps.toList< [lo]))=(match s.cps.toList with| [c]=>decide (lo≤c) |_=>false):=by
 match hh:s.cps.toList,h with
 | [],_=>simp
 | [c],_=>
   have:([c] < [lo])↔c<lo:=by simp [List.cons_lt_cons_iff]
   by_cases hc:c<lo
   ·rw[decide_eq_true (this.mpr hc)];simp;omega
   ·rw[decide_eq_false (fun z=>hc (this.mp z))];simp;omega
 |_::_::_,h=>simp at h
theorem Ot (hi:Nat) (s:Str) (h:s.cps.toList.length≤1):(!decide ([hi] <s.cps.toList))=(match s.cps.toList with| [c]=>decide (c≤hi) |_=>true):=by
 match hh:s.cps.toList,h with
 | [],_=>simp
 | [c],_=>
   have:([hi] < [c])↔hi<c:=by simp [List.cons_lt_cons_iff]
   by_cases hc:hi<c
   ·rw[decide_eq_true (this.mpr hc)];simp;omega
   ·rw[decide_eq_false (fun z=>hc (this.mp z))];simp;omega
 |_::_::_,h=>simp at h
theorem mZ (x:Str) (p:Nat):(eR x p).cps.toList.length≤1:=by
 unfold eR
 simp
 omega
def Not (f:Nat→Bool) (l:List Nat):Prop:=∀c,l.head? =some c→f c=false
def xb (c:Nat):Bool:=decide (48≤c)&&decide (c≤57)
def Er (c:Nat):Bool:=decide (97≤c)&&decide (c≤122)
def Es (c:Nat):Bool:=decide (65≤c)&&decide (c≤90)
def aR (n:Int):List Nat:=(fb n).cps.toList
theorem vO:aR 1=[]:=by decide+kernel
theorem j8 {n:Nat} (h:n≠1):aR (n:Int)=(Nat.toDigits 10 n).map Char.toNat:=by
 unfold aR fb
 rw[if_neg (by omega)]
 exact PySem.W.KIN.signs_num n
theorem pS (n:Nat):(aR (n:Int)).all xb=true:=by
 by_cases h:n=1
 ·subst h;rw[show ((1 :Nat):Int)=1 from rfl,vO];rfl
 ·rw[j8 h,List.all_eq_true]
  intro c hc
  obtain⟨ch,El,e⟩:=List.mem_map.mp hc
  have r:=PyProof.Rows.digit_range (Nat.isDigit_of_mem_toDigits (by decide) (by decide) El)
  rw[←e]
  simp only [xb,Bool.and_eq_true,decide_eq_true_eq]
  exact r
theorem FL (n:Nat):Nat.toDigits 10 n≠[]:=by
 intro e
 have h:=PySem.toDigits_len_ge 10 n
 rw[e] at h
 exact absurd h (by decide)
theorem FN:∀n:Nat,n≠0→(Nat.toDigits 10 n).head? ≠some '0' :=by
 intro n
 induction n using Nat.strongRecOn with
 |_ m ih=>
  intro h0
  by_cases h:m<10
  ·rw[Nat.toDigits_of_lt_base h]
   have:∀m:Nat,m<10→m≠0→[Nat.digitChar m].head? ≠some '0' :=by decide
   exact this m h h0
  ·have hm:m%10<10:=Nat.mod_lt m (by decide)
   have t:Nat.toDigits 10 (m/10)++Nat.toDigits 10 (m%10)=Nat.toDigits 10 (10*(m/10)+m%10):=Nat.toDigits_append_toDigits (by decide) (by omega) hm
   rw[Nat.div_add_mod] at t
   have:=ih (m/10) (by omega) (by omega)
   rw[←t]
   cases hh:Nat.toDigits 10 (m/10) with
   |nil=>exact absurd hh (FL _)
   |cons c r=>
    rw[hh] at this
    exact this
theorem FO (n:Nat) (h0:n≠0):(aR (n:Int)).head? ≠some 48:=by
 by_cases h:n=1
 ·subst h;rw[show ((1 :Nat):Int)=1 from rfl,vO];simp
 ·rw[j8 h,List.head?_map]
  intro z
  cases e:(Nat.toDigits 10 n).head? with
  |none=>rw[e] at z;cases z
  |some c=>
   rw[e] at z
   have z:c.toNat=48:=by simpa using z
   have:c='0' :=by
    apply Char.ext
    apply UInt32.toNat_inj.mp
    exact z
   exact FN n h0 (by rw[e,this])
theorem J9 (n:Nat):aR (n:Int)≠[49]:=by
 by_cases h:n=1
 ·subst h;rw[show ((1 :Nat):Int)=1 from rfl,vO];simp
 ·rw[j8 h]
  intro z
  have:=PySem.W.KIN.val_back n
  rw[z] at this
  exact h this.symm
theorem A5 (n:Nat) (h:aR (n:Int)=[]):n=1:=by
 by_cases e:n=1
 ·exact e
 ·rw[j8 e] at h
  exact absurd (List.map_eq_nil_iff.mp h) (FL n)
theorem kW {n:Nat} {k:Nat} (hk:0<k) (h:n<10^k):(fb (n:Int)).length≤k:=by
 unfold fb
 split
 ·exact Nat.zero_le _
 ·rw[PySem.ofString_length]
  show (Nat.repr n).length≤k
  rw[Nat.length_repr_le_iff hk]
  exact h
theorem Ka (n:Nat) (h:n<10^12) (h1:n≠1):PySem.intText? (fb (n:Int))=some (n:Int):=by
 have hd:PySem.NumText.AllDigits (fb (n:Int)).cps.toList:=by
  intro c hc
  have:=List.all_eq_true.mp (pS n) c hc
  simpa only [xb,Bool.and_eq_true,decide_eq_true_eq] using this
 have pq:(fb (n:Int)).cps.toList≠[]:=fun z=>h1 (A5 n z)
 have e:=PySem.intText_digits hd pq (Nat.le_trans (kW (by decide) h) (by decide))
 rw[show (fb (n:Int)).cps.toList=_ from j8 h1,PySem.W.KIN.val_back] at e
 exact e
theorem m5 (lo hi c:Nat):inR lo hi ⟨#[c]⟩=(decide (lo≤c)&&decide (c≤hi)):=rfl
theorem vP {lo hi:Nat} {post:List Nat} (h:Not (fun c=>decide (lo≤c)&&decide (c≤hi)) post):inR lo hi ⟨(post.take 1).toArray⟩=false:=by
 cases post with
 |nil=>rfl
 |cons c r=>exact h c rfl
instance memKey (k:Key) (K:List Key):Decidable (k∈K):=decidable_of_iff ((K.any fun x=>decide (x=k))=true) (by simp)
def cK (acc:List (Key×V)) (l:List (Key×Int)):List (Key×V):=l.foldl (fun acc p=>cA acc p.1 p.2) acc
def gq (K:List Key) (k:Key):List Key:=if k∈K then K else K++[k]
def cQ (K L:List Key):List Key:=L.foldl gq K
def sumK (l:List (Key×Int)) (j:Key):Int:=(l.map fun p=>if p.1=j then p.2 else 0).sum
theorem js (D:List (Key×V)) (k j:Key) (n:Int):aG (putK D k (.int n)) j=if j=k then n else aG D j:=by
 unfold aG
 rw[EO]
 by_cases h:j=k
 ·rw[if_pos h,if_pos h]
 ·rw[if_neg h,if_neg h]
theorem A6 (D:List (Key×V)) (k j:Key) (n:Int):aG (cA D k n) j=aG D j+if k=j then n else 0:=by
 unfold cA
 rw[js]
 by_cases h:j=k
 ·rw[if_pos h,if_pos h.symm,h]
 ·rw[if_neg h,if_neg (Ne.symm h),Int.add_zero]
theorem xN (D:List (Key×V)) (k:Key) (v:V):(putK D k v).map (·.1)=gq (D.map (·.1)) k:=by
 unfold gq
 cases e:bX D k with
 |none=>rw[if_neg (mv e),mq v e,List.map_append];rfl
 |some x=>
  rw[if_pos (pE e)]
  have ha:(D.any fun kv=>decide (kv.1=k))=true:=by rw[fx,e];rfl
  unfold putK
  rw[if_pos ha,List.map_map]
  apply List.map_congr_left
  intro p _
  simp only [Function.comp]
  split<;>rfl
theorem g9:∀(l:List (Key×Int)) (acc:List (Key×V)),(cK acc l).map (·.1)=cQ (acc.map (·.1)) (l.map (·.1))
 | [],_=>rfl
 |p::r,acc=>by
  show (cK (cA acc p.1 p.2) r).map (·.1)=cQ (gq (acc.map (·.1)) p.1) (r.map (·.1))
  rw[g9 r]
  unfold cA
  rw[xN]
theorem m6:∀(l:List (Key×Int)) (acc:List (Key×V)) (j:Key),aG (cK acc l) j=aG acc j+sumK l j
 | [],acc,j=>by show aG acc j=aG acc j+0;rw[Int.add_zero]
 |p::r,acc,j=>by
  show aG (cK (cA acc p.1 p.2) r) j=aG acc j+((if p.1=j then p.2 else 0)+sumK r j)
  rw[m6 r,A6,Int.add_assoc]
theorem pT:∀(l:List (Key×Int)) (acc:List (Key×V)),bu acc→bu (cK acc l)
 | [],_,h=>h
 |_::r,_,h=>pT r _ (h.add _ _)
theorem zG:∀(l:List (Key×Int)) (acc:List (Key×V)),(acc.map (·.1)).Nodup→((cK acc l).map (·.1)).Nodup
 | [],_,h=>h
 |_::r,_,h=>zG r _ (qM h)
theorem A7 {D:List (Key×V)} (hI:bu D) (hn:(D.map (·.1)).Nodup):D=(D.map (·.1)).map fun k=>(k,V.int (aG D k)):=by
 rw[List.map_map]
 refine(List.map_id D).symm.trans ?_
 apply List.map_congr_left
 intro p hp
 have e:=gZ hn hp
 have:=hI.look e
 show p=(p.1,V.int (aG D p.1))
 rw[←this]
theorem xO {A B:List (Key×V)} (hA:bu A) (hB:bu B) (nA:(A.map (·.1)).Nodup) (hk:A.map (·.1)=B.map (·.1)) (hz:∀k,aG A k=aG B k):A=B:=by
 rw[A7 hA nA,A7 hB (hk▸nA),←hk]
 apply List.map_congr_left
 intro k _
 rw[hz k]
theorem xP {K:List Key} {k j:Key}:j∈gq K k↔j∈K∨j=k:=by
 unfold gq
 split
 ·rename_i h
  exact⟨.inl,fun z=>z.elim id fun e=>e▸h⟩
 ·simp
theorem j9:∀{L K:List Key} {j:Key},j∈cQ K L↔j∈K∨j∈L
 | [],K,j=>by show j∈K↔_;simp
 |x::L,K,j=>by
  show j∈cQ (gq K x) L↔_
  rw[j9,xP,List.mem_cons,or_assoc]
theorem Df (K M:List Key) (x:Key):cQ K (gq M x)=gq (cQ K M) x:=by
 unfold gq
 by_cases h:x∈M
 ·rw[if_pos h,if_pos (j9.mpr (.inr h))]
 ·rw[if_neg h]
  unfold cQ
  rw[List.foldl_append]
  rfl
theorem oo (K:List Key):∀(L M:List Key),cQ K (cQ M L)=cQ (cQ K M) L
 | [],M=>rfl
 |x::L,M=>by
  show cQ K (cQ (gq M x) L)=cQ (gq (cQ K M) x) L
  rw[oo K L,Df]
theorem vQ (f:Key→Int) (j:Key):∀{Ks:List Key},Ks.Nodup→(Ks.map fun k=>if k=j then f k else 0).sum=if j∈Ks then f j else 0
 | [],_=>by simp
 |k::Ks,h=>by
  rw[List.nodup_cons] at h
  rw[List.map_cons,List.sum_cons,vQ f j h.2]
  by_cases e:k=j
  ·subst e
   rw[if_pos rfl,if_neg h.1,if_pos (List.mem_cons_self ..),Int.add_zero]
  ·rw[if_neg e,Int.zero_add]
   have:(j∈k::Ks)↔j∈Ks:=by rw[List.mem_cons];exact⟨fun z=>z.elim (fun w=>absurd w.symm e) id, .inr⟩
   by_cases hj:j∈Ks
   ·rw[if_pos hj,if_pos (this.mpr hj)]
   ·rw[if_neg hj,if_neg (fun z=>hj (this.mp z))]
theorem m8 {D:List (Key×V)} {j:Key} (h:¬j∈D.map (·.1)):aG D j=0:=by
 cases e:bX D j with
 |none=>exact eI e
 |some x=>exact absurd (pE e) h
theorem xQ (c:Int) (j:Key):∀l:List (Key×Int),sumK (l.map fun p=>(p.1,p.2*c)) j=sumK l j*c
 | []=>by show (0 :Int)=0*c;rw[Int.zero_mul]
 |p::r=>by
  show (if p.1=j then p.2*c else 0)+sumK (r.map fun p=>(p.1,p.2*c)) j=((if p.1=j then p.2 else 0)+sumK r j)*c
  rw[xQ c j r,Int.add_mul]
  split
  ·rfl
  ·rw[Int.zero_mul]
theorem add_dict (c:Int) {acc:List (Key×V)} (hI:bu acc) (hn:(acc.map (·.1)).Nodup) (l:List (Key×Int)):
  cK acc ((cK [] l).map fun p=>(p.1,aG (cK [] l) p.1*c))=cK acc (l.map fun p=>(p.1,p.2*c)):=by
 have hD:bu (cK [] l):=pT l [] fun p hp=>by cases hp
 have nD:((cK [] l).map (·.1)).Nodup:=zG l [] List.nodup_nil
 refine xO (pT _ _ hI) (pT _ _ hI) (zG _ _ hn) ?_ fun j=>?_
 ·rw[g9,g9,List.map_map,List.map_map]
  show cQ (acc.map (·.1)) ((cK [] l).map (·.1))=cQ (acc.map (·.1)) (l.map (·.1))
  rw[g9,oo]
  rfl
 ·rw[m6,m6,xQ]
  congr 1
  have e:=vQ (fun k=>aG (cK [] l) k*c) j nD
  rw[List.map_map] at e
  have e2:sumK ((cK [] l).map fun p=>(p.1,aG (cK [] l) p.1*c)) j=if j∈(cK [] l).map (·.1) then aG (cK [] l) j*c else 0:=by
   rw[←e]
   unfold sumK
   rw[List.map_map]
   rfl
  have e3:aG (cK [] l) j=sumK l j:=by
   rw[m6]
   show (0 :Int)+_=_
   rw[Int.zero_add]
  rw[e2]
  split
  ·rw[e3]
  ·rename_i h
   rw[←e3,m8 h,Int.zero_mul]
theorem m9 (t:Int):∀(as:List (Str×Int)) (acc:List (Key×V)),a7 t acc as=cK acc (as.map fun p=>((Sum.inr p.1 :Key),p.2*t))
 | [],_=>rfl
 |p::r,acc=>m9 t r _
theorem A8 (c:Int) (all:List (Key×V)):∀(l acc:List (Key×V)),iS c acc l all=cK acc (l.map fun p=>(p.1,aG all p.1*c))
 | [],_=>rfl
 |p::r,acc=>A8 c all r _
theorem vR (c t:Int) (as:List (Str×Int)) {acc:List (Key×V)} (hI:bu acc) (hn:(acc.map (·.1)).Nodup):iS c acc (a7 t [] as) (a7 t [] as)=a7 (t*c) acc as:=by
 rw[A8,m9,m9,add_dict c hI hn,List.map_map]
 congr 1
 apply List.map_congr_left
 intro p _
 show ((Sum.inr p.1 :Key),p.2*t*c)=(Sum.inr p.1,p.2*(t*c))
 rw[Int.mul_assoc]
theorem ntp:¬(("text" :Str)="place"):=by decide+kernel
def gu (x:Str) (p:Nat):List (Str×V):=cJ "place" (.int p) (cJ "text" (.str x) [])
theorem fY (x:Str) (p:Nat):(gu x p).lookup ("text" :Str)=some (.str x):=by
 unfold gu
 rw[aD,if_neg ntp,aD,if_pos rfl]
theorem bz (x:Str) (p:Nat):(gu x p).lookup ("place" :Str)=some (.int p):=by
 unfold gu
 rw[aD,if_pos rfl]
theorem aJ (x:Str) (p:Nat) {m:Str} (h1:¬m="place") (h2:¬m="text"):(gu x p).lookup m=none:=by
 unfold gu
 rw[aD,if_neg h1,aD,if_neg h2]
 all_goals rfl
theorem kX (x:Str) (p q:Nat):cJ "place" (.int q) (gu x p)=gu x q:=by
 unfold gu
 simp only [cJ,if_neg ntp,if_true]
theorem kY (x:Str) (p:Nat):(gu x p).length<1000:=by
 unfold gu
 simp only [cJ,if_neg ntp]
 show 2<1000
 decide
def dh (R:Addr) (H:Hp) (r:Addr) (x:Str) (p:Nat):Prop:=∃dx,H r=some (.ins R dx (gu x p))
def Kept (r:Addr) (H H':Hp):Prop:=∀b o,H b=some o→b≠r→H' b=some o
theorem Kept.refl (r:Addr) (H:Hp):Kept r H H:=fun _ _ h _=>h
theorem Kept.trans {r:Addr} {H H' cp:Hp} (h:Kept r H H') (h':Kept r H' cp):Kept r H cp:=fun b o e n=>h' b o (h b o e n) n
theorem Kept.of {r:Addr} {H H':Hp} (h:au H H'):Kept r H H':=fun b o e _=>h b o e
inductive IspR (lo hi:Nat) (vs:List V) (H:Hp) (Q:VK) (E:XK):Prop
 |mk (s:Str) (dU:vs=[.str s]) (dW:s.cps.toList.length≤1) (d5:Q (.bl (inR lo hi s)) H)
def Me (lo hi:Nat):Sp:=IspR lo hi
inductive FP (R:Addr) (vs:List V) (H:Hp) (Q:VK) (E:XK):Prop
 |mk (r dx:Addr) (x:Str) (dU:vs=[.ref r, .str x]) (dW:H r=some (.ins R dx [])) (d5:∀H',dh R H' r x 0→Kept r H H'→Q .cI H')
def vS (R:Addr):Sp:=FP R
inductive Kb (R:Addr) (vs:List V) (H:Hp) (Q:VK) (E:XK):Prop
 |mk (r:Addr) (x:Str) (p:Nat) (dU:vs=[.ref r]) (dW:dh R H r x p) (d5:p≤x.length) (fe:x.length≤1000) (gH:Q (.str (eR x p)) H)
def jt (R:Addr):Sp:=Kb R
inductive Kc (R:Addr) (vs:List V) (H:Hp) (Q:VK) (E:XK):Prop
 |mk (r:Addr) (x:Str) (p:Nat) (s:Str) (c:Nat) (t post:List Nat) (dU:vs=[.ref r, .str s]) (dW:s=⟨#[c]⟩) (d5:dh R H r x p) (fe:Here x p (c::t) post) (gH:x.length≤1000) (jb:∀H',dh R H' r x (p+1)→Kept r H H'→Q .cI H')
def lX (R:Addr):Sp:=Kc R
inductive zH (R:Addr) (vs:List V) (H:Hp) (Q:VK) (E:XK):Prop
 |mk (r:Addr) (x:Str) (p:Nat) (s:Str) (post:List Nat) (dU:vs=[.ref r, .str s]) (dW:s.cps.all (· <128)=true) (d5:dh R H r x p) (fe:Here x p s.cps.toList post) (gH:x.length≤1000) (jb:∀H',dh R H' r x (p+s.length)→Kept r H H'→Q .cI H')
def kZ (R:Addr):Sp:=zH R
inductive zI (R:Addr) (vs:List V) (H:Hp) (Q:VK) (E:XK):Prop
 |mk (r:Addr) (x:Str) (dU:vs=[.ref r]) (dW:dh R H r x x.length) (d5:x.length≤1000) (fe:Q .cI H)
def tP (R:Addr):Sp:=zI R
inductive Dg (R:Addr) (vs:List V) (H:Hp) (Q:VK) (E:XK):Prop
 |mk (r:Addr) (x:Str) (p:Nat) (n lg:Int) (post:List Nat) (dU:vs=[.ref r, .int lg]) (dW:dh R H r x p) (d5:Here x p (aR n) post) (fe:1≤n) (gH:n<10^12) (jb:((aR n).length:Int)≤lg) (nM:Not xb post) (su:x.length≤1000) (A9:∀H',dh R H' r x (p+(aR n).length)→Kept r H H'→Q (.int n) H')
def qQ (R:Addr):Sp:=Dg R
inductive Dh (R:Addr) (vs:List V) (H:Hp) (Q:VK) (E:XK):Prop
 |mk (r:Addr) (x:Str) (p:Nat) (n:Int) (post:List Nat) (dU:vs=[.ref r]) (dW:dh R H r x p) (d5:Here x p (aR n) post) (fe:1≤n) (gH:n≤999) (jb:Not xb post) (nM:x.length≤1000) (su:∀H',dh R H' r x (p+(aR n).length)→Kept r H H'→Q (.int n) H')
def i8 (R:Addr):Sp:=Dh R
def lY (k:List Nat):Prop:=∃c r,k=c::r∧Es c=true∧r.all Er=true∧r.length≤2
inductive FQ (C R:Addr) (vs:List V) (H:Hp) (Q:VK) (E:XK):Prop
 |mk (r:Addr) (x:Str) (p:Nat) (k:List Nat) (n:Int) (post:List Nat) (dU:vs=[.ref r]) (dW:dh R H r x p) (d5:Here x p (k++aR n) post) (fe:lY k) (gH:1≤n) (jb:n≤999) (nM:Not xb post) (su:Not Er post) (A9:x.length≤1000) (Kd:∀a H',H a=none→gC C H' a ⟨k.toArray⟩ n→dh R H' r x (p+(k++aR n).length)→Kept r H H'→Q (.ref a) H')
def vT (C R:Addr):Sp:=FQ C R
structure sv (K:PySem.W.Frag) (mg:Str→Option Value) (C R:Addr) (uK uN:Tok):Prop extends om K mg C where
 ax:sR K R
 ju:cE K R "text"
 cm:cE K R "place"
 qR:mg "LONGEST_KIND" =some (.int 3 uK)
 pw:mg "LONGEST_COUNT" =some (.int 3 uN)
section
seal lO PS PE PT PW PA PG QI PI PC NK
variable {P:Program} {w:World} {K:PySem.W.Frag} {mg:Str→Option Value} {base:Heap} {C R G Pc Fo:Addr} {uK uN uB uE uM:Tok}
theorem Ke:ay ["sign"] ["sign"] (aj vt):=dq
theorem Kf:ay ["sign"] ["sign"] (aj vw):=dq
theorem FR:ay ["sign"] ["sign"] (aj pJ):=dq
theorem zJ (lo hi:Nat) (s:Str) (h:s.cps.toList.length≤1):(if (!decide (s.cps.toList< [lo]))=true then (!decide ([hi] <s.cps.toList)) else false)=inR lo hi s:=by
 rw[Oq lo s h,Ot hi s h]
 unfold inR
 match hh:s.cps.toList,h with
 | [],_=>rfl
 | [c],_=>
   show (if decide (lo≤c)=true then decide (c≤hi) else false)=(decide (lo≤c)&&decide (c≤hi))
   cases decide (lo≤c)<;>rfl
 |_::_::_,h=>simp at h
theorem FT (D:Def K mg "is_great" "is_great" vt ["sign"]):a9 P w K mg base 1 "is_great" ["sign"] (Me 65 90):=by
 refine D.cY Ke (fun vs H Q E h=>?_) (fun f bg A outer s H vs Q E hr h=>?_)
 ·obtain⟨n,rfl,_⟩:=h
  rfl
 ·obtain⟨x,rfl,hl,q⟩:=h
  refine⟨_,(ao
     (aE (ql gS gS bG (pv 0) bG))),?_⟩
  rw[←zJ 65 90 x hl] at q
  have e1:("A" :Str).cps.toList=[65]:=by decide+kernel
  have e2:("Z" :Str).cps.toList=[90]:=by decide+kernel
  refine⟨_,rfl,_,_,rfl,rfl,_,rfl,?_⟩
  rw[e1]
  cases hh:(!decide (x.cps.toList< [65])) with
  |false=>rw[hh] at q;exact d7 q
  |true=>rw[hh] at q;exact eQ ⟨_,_,rfl,rfl,by rw[e2];exact q⟩
theorem FU (D:Def K mg "is_small" "is_small" vw ["sign"]):a9 P w K mg base 1 "is_small" ["sign"] (Me 97 122):=by
 refine D.cY Kf (fun vs H Q E h=>?_) (fun f bg A outer s H vs Q E hr h=>?_)
 ·obtain⟨n,rfl,_⟩:=h
  rfl
 ·obtain⟨x,rfl,hl,q⟩:=h
  refine⟨_,(ao
     (aE (ql gS gS bG (pv 0) bG))),?_⟩
  rw[←zJ 97 122 x hl] at q
  have e1:("a" :Str).cps.toList=[97]:=by decide+kernel
  have e2:("z" :Str).cps.toList=[122]:=by decide+kernel
  refine⟨_,rfl,_,_,rfl,rfl,_,rfl,?_⟩
  rw[e1]
  cases hh:(!decide (x.cps.toList< [97])) with
  |false=>rw[hh] at q;exact d7 q
  |true=>rw[hh] at q;exact eQ ⟨_,_,rfl,rfl,by rw[e2];exact q⟩
theorem Di (D:Def K mg "is_figure" "is_figure" pJ ["sign"]):a9 P w K mg base 1 "is_figure" ["sign"] (Me 48 57):=by
 refine D.cY FR (fun vs H Q E h=>?_) (fun f bg A outer s H vs Q E hr h=>?_)
 ·obtain⟨n,rfl,_⟩:=h
  rfl
 ·obtain⟨x,rfl,hl,q⟩:=h
  refine⟨_,(ao
     (aE (ql gS gS bG (pv 0) bG))),?_⟩
  rw[←zJ 48 57 x hl] at q
  have e1:("0" :Str).cps.toList=[48]:=by decide+kernel
  have e2:("9" :Str).cps.toList=[57]:=by decide+kernel
  refine⟨_,rfl,_,_,rfl,rfl,_,rfl,?_⟩
  rw[e1]
  cases hh:(!decide (x.cps.toList< [48])) with
  |false=>rw[hh] at q;exact d7 q
  |true=>rw[hh] at q;exact eQ ⟨_,_,rfl,rfl,by rw[e2];exact q⟩
theorem Kg:ay ["self","text"] ["self","text"] (aj qH):=dq
theorem xR (D:lA K R "Reader.__init__" qH ["self","text"] []) (T:sv K mg C R uK uN):gG P w K mg base 1 R ["self","text"] [] (vS R):=by
 refine D.cY Kg (fun vs H Q E h=>?_) (fun f bg A outer s H vs Q E hr h=>?_)
 ·obtain⟨r,dx,x,rfl,_⟩:=h
  rfl
 ·obtain⟨r,dx,x,rfl,hp,q⟩:=h
  refine⟨_,(ai
     (eP (pv 0) (pv 1) rfl)
    (ao
     (eP (pv 0) aq rfl))),?_⟩
  refine⟨_,rfl,_,rfl,r,R,dx,[],rfl,hp,T.ax,T.ju,(by show 0<1000;decide),_,rfl,r,R,dx,_,rfl,af,T.ax,T.cm,(by show 1<1000;decide),?_⟩
  refine q _ ⟨dx,af⟩ fun b o e hb=>?_
  rw[ah hb,ah hb]
  exact e
theorem Ou:ay ["self"] ["self"] (aj xK):=dq
theorem A' (D:bb K R "sign" "Reader.sign" xK ["self"]) (T:sv K mg C R uK uN):aM P w K mg base 1 R "sign" ["self"] (jt R):=by
 refine D.cY Ou (fun vs H Q E h=>?_) (fun f bg A outer s H vs Q E hr h=>?_)
 ·obtain⟨r,x,p,rfl,_⟩:=h
  rfl
 ·obtain⟨r,x,p,rfl,⟨dx,hR⟩,hp,hx,q⟩:=h
  have big:(1000 :Nat)≤sizeLine:=by decide
  refine⟨_,(ao
     (aE (mr vi (a0 (pv 0) rfl) (iA (a0 (pv 0) rfl)) (iA (az bO (a0 (pv 0) rfl) aq))))),?_⟩
  rw[←tO x hp] at q
  exact⟨_,rfl,r,R,dx,_,_,rfl,hR,T.ax,T.ju,fY _ _,_,rfl,r,R,dx,_,_,rfl,hR,T.ax,T.cm,bz _ _,_,rfl,_,rfl,r,R,dx,_,_,rfl,hR,T.ax,T.cm,bz _ _,_,_,rfl,rfl,_,rfl,x,rfl,by omega,q⟩
theorem Ov:ay ["self","sign"] ["self","sign"] (aj xM):=dq
theorem Ba (D:bb K R "take" "Reader.take" xM ["self","sign"]) (T:sv K mg C R uK uN) (c1:aM P w K mg base 1 R "sign" ["self"] (jt R)):aM P w K mg base 2 R "take" ["self","sign"] (lX R):=by
 obtain⟨_,_,aw⟩:=c1
 refine D.cY Ov (fun vs H Q E h=>?_) (fun f bg A outer s H vs Q E hr h=>?_)
 ·obtain⟨r,x,p,sg,c,t,post,rfl,_⟩:=h
  rfl
 ·obtain⟨r,x,p,sg,c,t,post,rfl,hs,⟨dx,hR⟩,hh,hx,q⟩:=h
  refine⟨_,(ai
     (bE (aO qk (aP (pv 0) T.ax aw.m aw.ok (hr.mono (by decide)) aw.b .nil aA) (pv 1) (aQ _))
      (ao
       gg)
      aS)
    (ao
     (kI (pv 0) aq uY))),?_⟩
  refine⟨_,rfl,r,dx,_,rfl,hR,aJ _ _ (by decide+kernel) (by decide+kernel),r,x,p,rfl,⟨dx,hR⟩,hh.1,hx,_,rfl,rfl,_,rfl,E1 (by rw[hh.sg,hs]) ?_⟩
  refine⟨_,rfl,r,R,dx,_,_,rfl,hR,T.ax,T.cm,bz _ _,_,_,rfl,rfl,dx,_,hR,kY _ _,?_⟩
  refine q _ ⟨dx,?_⟩ fun b o e hb=>?_
  ·rw[af]
   exact congrArg (fun z=>some (HO.ins R dx z)) (kX x p (p+1))
  ·rw[ah hb];exact e
theorem tQ:ay ["self","signs","sign"] ["self","signs"] (aj j3):=dq
theorem qS (D:bb K R "take_all" "Reader.take_all" j3 ["self","signs"]) (T:sv K mg C R uK uN) (c1:aM P w K mg base 2 R "take" ["self","sign"] (lX R)):aM P w K mg base 3 R "take_all" ["self","signs"] (kZ R):=by
 obtain⟨_,_,aH⟩:=c1
 refine D.cY tQ (fun vs H Q E h=>?_) (fun f bg A outer s H vs Q E hr h=>?_)
 ·obtain⟨r,x,p,sg,post,rfl,_⟩:=h
  rfl
 ·obtain⟨r,x,p,sg,post,rfl,ha,hR,hh,hx,q⟩:=h
  refine⟨_,(ao
     (cq PassesOwn.never rfl (NY (pv 1)) (aK (i:=2) tQ.nd rfl (Or.inl rfl))
      (ao
       (bw (bU (pv 0) T.ax aH.m aH.ok (hr.mono (by decide)) aH.b .nil aA (aa (pv 2) ak)))))),?_⟩
  refine⟨_,rfl,sg,rfl,ha,JO (fun i σ H'=>∃v:Option V,σ=[some (.ref r),some (.str sg),v]∧dh R H' r x (p+i)∧Kept r H H') ⟨none,rfl,hR,Kept.refl r H⟩ ?_ ?_⟩
  ·rintro i c σ H' hc ⟨v,rfl,⟨dx,eD⟩,kk⟩
   have IP:sg.cps.toList[i]? =some c:=by rw[Array.getElem?_toList];exact hc
   have hi:i<sg.cps.toList.length:=(List.getElem?_eq_some_iff.mp IP).1
   have e:sg.cps.toList=sg.cps.toList.take i++c::sg.cps.toList.drop (i+1):=by
    conv=>lhs;rw[←List.take_append_drop i sg.cps.toList]
    congr 1
    rw[List.drop_eq_getElem_cons hi]
    congr 1
    exact(List.getElem?_eq_some_iff.mp IP).2
   have h2:Here x (p+i) (c::sg.cps.toList.drop (i+1)) post:=by
    have h3:=Here.on (t:=sg.cps.toList.take i) (u:=c::sg.cps.toList.drop (i+1)) (e▸hh)
    rwa [List.length_take,Nat.min_eq_left (by omega)] at h3
   refine⟨_,rfl,r,dx,_,rfl,eD,aJ _ _ (by decide+kernel) (by decide+kernel),_,rfl,r,x,p+i,_,c,_,post,rfl,rfl,⟨dx,eD⟩,h2,hx,fun cp hR'' k''=>?_⟩
   exact⟨_,rfl,hR'',kk.trans k''⟩
  ·rintro σ H' ⟨v,rfl,eD,kk⟩
   exact q _ eD kk
theorem Dj:ay ["self"] ["self"] (aj mK):=dq
theorem zK (D:bb K R "take_end" "Reader.take_end" mK ["self"]) (T:sv K mg C R uK uN):aM P w K mg base 1 R "take_end" ["self"] (tP R):=by
 refine D.cY Dj (fun vs H Q E h=>?_) (fun f bg A outer s H vs Q E hr h=>?_)
 ·obtain⟨r,x,rfl,_⟩:=h
  rfl
 ·obtain⟨r,x,rfl,⟨dx,hR⟩,hx,q⟩:=h
  refine⟨_,(ao
     (bE (aO lG (a0 (pv 0) rfl) (cj jj rfl T.mX jm (aa (a0 (pv 0) rfl) ak)) (aQ _))
      (ao
       gg)
      aS)),?_⟩
  exact⟨_,rfl,r,R,dx,_,_,rfl,hR,T.ax,T.cm,bz _ _,_,rfl,r,R,dx,_,_,rfl,hR,T.ax,T.ju,fY _ _,x,rfl,Nat.le_trans hx (by decide),_,_,rfl,rfl,_,rfl,qy (by omega) q⟩
theorem Mf {n:Int} (h1:1≤n) (h2:n<10^12):∃m:Nat,n=(m:Int)∧m<10^12∧m≠0:=⟨n.toNat,by omega,by omega,by omega⟩
theorem oq:ay ["self","longest","begin","written"] ["self","longest"] (aj j4):=dq
theorem tR (D:bb K R "read_number" "Reader.read_number" j4 ["self","longest"]) (T:sv K mg C R uK uN) (c1:aM P w K mg base 1 R "sign" ["self"] (jt R)) (c2:a9 P w K mg base 1 "is_figure" ["sign"] (Me 48 57)):aM P w K mg base 2 R "read_number" ["self","longest"] (qQ R):=by
 obtain⟨_,_,aw⟩:=c1
 obtain⟨_,_,iL⟩:=c2
 refine D.cY oq (fun vs H Q E h=>?_) (fun f bg A outer s H vs Q E hr h=>?_)
 ·obtain⟨r,x,p,n,lg,post,rfl,_⟩:=h
  rfl
 ·obtain⟨r,x,p,n,lg,post,rfl,⟨dx,hR⟩,hh,n1,n2,fl,FV,hx,q⟩:=h
  obtain⟨m,rfl,m1,m0⟩:=Mf n1 n2
  have big:(1000 :Nat)≤sizeLine:=by decide
  have fa:=pS m
  have fh:=FO m m0
  have f1:=J9 m
  have fl12:(aR (m:Int)).length≤12:=by
   have:=kW (k:=12) (by decide) m1
   unfold aR
   simpa [Str.length] using this
  have e0:("0" :Str)=⟨#[48]⟩:=by decide+kernel
  have e1:("1" :Str)=⟨#[49]⟩:=by decide+kernel
  refine⟨_,(ai
     (bE (aO dJ (aP (pv 0) T.ax aw.m aw.ok (hr.mono (by decide)) aw.b .nil aA) bG (aQ _))
      (ao
       gg)
      aS)
    (ai
     (aB (i:=2) oq.nd rfl (Or.inl rfl) (a0 (pv 0) rfl))
    (ai
     (iZ PassesOwn.never (PW.pt (lT (jT (aF iL.ok (hr.mono (by decide)) rfl iL.g iL.kp iL.b .nil aA (aa (aP (pv 0) T.ax aw.m aw.ok (hr.mono (by decide)) aw.b .nil aA) ak))) (jf (aO lG (az fu (a0 (pv 0) rfl) (pv 2)) (pv 1) (aQ _)))))
      (ao
       (kI (pv 0) aq uY)))
    (ai
     (aB (i:=3) oq.nd rfl (Or.inl rfl) (mr vi (a0 (pv 0) rfl) (iA (pv 2)) (iA (a0 (pv 0) rfl))))
    (ai
     (bE (aO dJ (pv 3) bG (aQ _))
      (ao
       gg)
      aS)
    (ao
     (aE (xj (qo (pv 3) (fun _=>rfl)) (bC CS rfl T.tM n5 (aa (pv 3) ak)) aq)))))))),?_⟩
  have s0:¬V.str (eR x p)=V.str "0" :=by
   rw[e0]
   intro z
   have z:eR x p=⟨#[48]⟩:=by injection z
   cases hf:aR (m:Int) with
   |nil=>
    rw[hf] at hh
    rw[hh.Oo] at z
    cases post with
    |nil=>have:=congrArg (fun s:Str=>s.cps.toList) z;simp at this
    |cons c r=>
     have:c=48:=by have:=congrArg (fun s:Str=>s.cps.toList) z;simpa using this
     have:=FV c rfl
     subst_vars
     simp [xb] at this
   |cons c r=>
    rw[hf] at hh fh
    rw[hh.sg] at z
    have:c=48:=by have:=congrArg (fun s:Str=>s.cps.toList) z;simpa using this
    exact fh (by rw[this];rfl)
  refine⟨_,rfl,r,dx,_,rfl,hR,aJ _ _ (by decide+kernel) (by decide+kernel),r,x,p,rfl,⟨dx,hR⟩,hh.1,hx,rfl,_,rfl,qy s0 ?_⟩
  refine⟨_,rfl,r,R,dx,_,_,rfl,hR,T.ax,T.cm,bz _ _,?_⟩
  refine⟨fun k σ H'=>∃j:Nat,k+j=(aR (m:Int)).length∧σ=[some (.ref r),some (.int lg),some (.int p),none]∧dh R H' r x (p+j)∧Kept r H H',⟨(aR (m:Int)).length,0,by omega,rfl,⟨dx,hR⟩,Kept.refl r H⟩,?_⟩
  rintro k σ H' ⟨j,hk,rfl,⟨dH,eD⟩,kk⟩
  have hle:=hh.le
  refine⟨_,rfl,r,dH,_,rfl,eD,aJ _ _ (by decide+kernel) (by decide+kernel),r,x,p+j,rfl,⟨dH,eD⟩,by omega,hx,_,rfl,mZ _ _,_,rfl,?_⟩
  by_cases hj:j< (aR (m:Int)).length
  ·have e:aR (m:Int)=(aR (m:Int)).take j++(aR (m:Int))[j]::(aR (m:Int)).drop (j+1):=by
    conv=>lhs;rw[←List.take_append_drop j (aR (m:Int))]
    congr 1
    exact List.drop_eq_getElem_cons hj
   have h2:Here x (p+j) ((aR (m:Int))[j]::(aR (m:Int)).drop (j+1)) post:=by
    have h3:=Here.on (t:=(aR (m:Int)).take j) (u:=(aR (m:Int))[j]::(aR (m:Int)).drop (j+1)) (e▸hh)
    rwa [List.length_take,Nat.min_eq_left (by omega)] at h3
   have ev:inR 48 57 (eR x (p+j))=true:=by
    rw[h2.sg,m5]
    exact List.all_eq_true.mp fa _ (List.getElem_mem hj)
   rw[ev]
   refine eQ ⟨_,rfl,r,R,dH,_,_,rfl,eD,T.ax,T.cm,bz _ _,_,rfl,_,_,rfl,rfl,_,rfl,_,_,rfl,rfl,_,rfl,vd (by omega) ?_⟩
   refine⟨_,fun σ' cp h=>⟨k - 1,by omega,h⟩,?_⟩
   refine⟨_,rfl,r,R,dH,_,_,rfl,eD,T.ax,T.cm,bz _ _,_,_,rfl,rfl,dH,_,eD,kY _ _,?_⟩
   refine⟨j+1,by omega,rfl,⟨dH,?_⟩,fun b o z w=>?_⟩
   ·rw[af]
    exact congrArg (fun z=>some (HO.ins R dH z)) (kX x (p+j) (p+j+1))
   ·rw[ah w];exact kk b o z w
  ·have ej:j=(aR (m:Int)).length:=by omega
   have h2:Here x (p+j) [] post:=by
    have h3:=Here.on (t:=aR (m:Int)) (u:=[]) (by rw[List.append_nil];exact hh)
    rwa [←ej] at h3
   have ev:inR 48 57 (eR x (p+j))=false:=by
    rw[h2.Oo]
    exact vP FV
   rw[ev]
   refine d7 (d7 ?_)
   have ec:Txt.slice x (some (p:Int)) (some ((p+j:Nat):Int))=fb (m:Int):=by
    rw[ej,hh.cut]
    apply mY
    simp [aR]
   refine⟨_,rfl,r,R,dH,_,_,rfl,eD,T.ax,T.ju,fY _ _,_,rfl,_,rfl,_,rfl,r,R,dH,_,_,rfl,eD,T.ax,T.cm,bz _ _,_,rfl,x,rfl,by omega,?_⟩
   rw[ec]
   have nw:¬V.str (fb (m:Int))=V.str "1" :=by
    rw[e1]
    intro z
    have z:fb (m:Int)=⟨#[49]⟩:=by injection z
    exact f1 (by unfold aR;rw[z])
   refine⟨_,rfl,rfl,_,rfl,qy nw ?_⟩
   rw[ej] at eD
   have fin:=q H' ⟨dH,eD⟩ kk
   have lf:(fb (m:Int)).length=(aR (m:Int)).length:=by unfold aR;simp [Str.length]
   refine⟨_,rfl,_,⟨by rw[lf];omega,rfl⟩,?_⟩
   by_cases hm:m=1
   ·subst hm
    have ez:(((fb ((1 :Nat):Int)).length:Int) != 0)=false:=by decide+kernel
    rw[ez]
    exact d7 fin
   ·have ez:(((fb (m:Int)).length:Int) != 0)=true:=by
     rw[lf]
     have:(aR (m:Int)).length≠0:=fun z=>hm (A5 m (List.length_eq_zero_iff.mp z))
     simp only [bne_iff_ne,ne_eq]
     omega
    rw[ez]
    exact eQ ⟨_,rfl,_,_,rfl,Ka m m1 hm,by rw[lf];omega,fin⟩
theorem FW:ay ["self"] ["self"] (aj mM):=dq
theorem tS (D:bb K R "read_count" "Reader.read_count" mM ["self"]) (T:sv K mg C R uK uN) (c1:aM P w K mg base 2 R "read_number" ["self","longest"] (qQ R)):aM P w K mg base 3 R "read_count" ["self"] (i8 R):=by
 obtain⟨_,_,bF⟩:=c1
 refine D.cY FW (fun vs H Q E h=>?_) (fun f bg A outer s H vs Q E hr h=>?_)
 ·obtain⟨r,x,p,n,post,rfl,_⟩:=h
  rfl
 ·obtain⟨r,x,p,n,post,rfl,⟨dx,hR⟩,hh,n1,n2,FV,hx,q⟩:=h
  refine⟨_,(ao
     (aE (bU (pv 0) T.ax bF.m bF.ok (hr.mono (by decide)) bF.b .nil aA (aa (bp (v:= .int 3) rfl T.pw ⟨_,rfl⟩) ak)))),?_⟩
  exact⟨_,rfl,r,dx,_,rfl,hR,aJ _ _ (by decide+kernel) (by decide+kernel),r,x,p,n,3,post,rfl,⟨dx,hR⟩,hh,n1,by omega,(by have:=g8 n1 n2;unfold aR;simp [Str.length] at this;simpa using by omega),FV,hx,q⟩
theorem a5 {r a:Addr} {H H':Hp} {o:HO} (k:Kept r H H') (hr:H' r=some o) (h:H' a=none):H a=none:=by
 cases hh:H a with
 |none=>rfl
 |some o'=>
  by_cases e:a=r
  ·rw[e,hr] at h;cases h
  ·rw[k a o' hh e] at h;cases h
theorem Kh {f:Nat→Bool} {l post:List Nat} (h1:∀c∈l,f c=false) (h2:Not f post):Not f (l++post):=by
 cases l with
 |nil=>exact h2
 |cons c r=>
  intro d hd
  have e:c=d:=by simpa using hd
  rw[←e]
  exact h1 c (List.mem_cons_self ..)
theorem FX {n:Int} (h1:1≤n) (h2:n≤999):∀c∈aR n,Er c=false:=by
 intro c hc
 obtain⟨m,rfl,m1,m0⟩:=Mf h1 (by omega)
 have:=List.all_eq_true.mp (pS m) c hc
 simp only [xb,Er,Bool.and_eq_true,decide_eq_true_eq] at*
 simp
 omega
theorem vU:ay ["self","begin","kind"] ["self"] (aj qI):=dq
theorem xS (D:bb K R "read_atom" "Reader.read_atom" qI ["self"]) (T:sv K mg C R uK uN) (c1:aM P w K mg base 1 R "sign" ["self"] (jt R)) (c2:a9 P w K mg base 1 "is_great" ["sign"] (Me 65 90)) (c3:a9 P w K mg base 1 "is_small" ["sign"] (Me 97 122)) (c4:aM P w K mg base 3 R "read_count" ["self"] (i8 R))
  (c5:gG P w K mg base 1 C ["self","kind","count"] [1] (FI C)):aM P w K mg base 4 R "read_atom" ["self"] (vT C R):=by
 obtain⟨_,_,aw⟩:=c1
 obtain⟨_,_,di⟩:=c2
 obtain⟨_,_,jv⟩:=c3
 obtain⟨_,_,aN⟩:=c4
 obtain⟨_,_,gD⟩:=c5
 obtain⟨_,FY,FZ⟩:=gD.b 1 (by decide)
 refine D.cY vU (fun vs H Q E h=>?_) (fun f bg A outer s H vs Q E hr h=>?_)
 ·obtain⟨r,x,p,k,n,post,rfl,_⟩:=h
  rfl
 ·obtain⟨r,x,p,k,n,post,rfl,⟨dx,hR⟩,hh,⟨c,rk,rfl,hc,YN,hl⟩,n1,n2,FV,yK,hx,q⟩:=h
  have big:(1000 :Nat)≤sizeLine:=by decide
  have hle:=hh.le
  refine⟨_,(ai
     (bE (nR (jT (aF di.ok (hr.mono (by decide)) rfl di.g di.kp di.b .nil aA (aa (aP (pv 0) T.ax aw.m aw.ok (hr.mono (by decide)) aw.b .nil aA) ak))))
      (ao
       gg)
      aS)
    (ai
     (aB (i:=1) vU.nd rfl (Or.inl rfl) (a0 (pv 0) rfl))
    (ai
     (kI (pv 0) aq uY)
    (ai
     (iZ PassesOwn.never (PW.pt (lT (jT (aF jv.ok (hr.mono (by decide)) rfl jv.g jv.kp jv.b .nil aA (aa (aP (pv 0) T.ax aw.m aw.ok (hr.mono (by decide)) aw.b .nil aA) ak))) (jf (aO lG (az fu (a0 (pv 0) rfl) (pv 1)) (bp (v:= .int 3) rfl T.qR ⟨_,rfl⟩) (aQ _)))))
      (ao
       (kI (pv 0) aq uY)))
    (ai
     (aB (i:=2) vU.nd rfl (Or.inl rfl) (mr vi (a0 (pv 0) rfl) (iA (pv 1)) (iA (a0 (pv 0) rfl))))
    (ao
     (aE (f6 gD.m gD.ok (hr.mono (by decide)) rfl T.Ol FZ FY aA (aa (pv 2) (aa (aP (pv 0) T.ax aN.m aN.ok (hr.mono (by decide)) aN.b .nil aA) ak)))))))))),?_⟩
  refine⟨_,rfl,r,dx,_,rfl,hR,aJ _ _ (by decide+kernel) (by decide+kernel),r,x,p,rfl,⟨dx,hR⟩,hh.1,hx,_,rfl,mZ _ _,_,rfl,?_⟩
  have ev:inR 65 90 (eR x p)=true:=by
   rw[Here.sg (c:=c) (t:=rk++aR n) hh,m5]
   exact hc
  rw[ev]
  refine d7 ?_
  refine⟨_,rfl,r,R,dx,_,_,rfl,hR,T.ax,T.cm,bz _ _,?_⟩
  refine⟨_,rfl,r,R,dx,_,_,rfl,hR,T.ax,T.cm,bz _ _,_,_,rfl,rfl,dx,_,hR,kY _ _,?_⟩
  have eL:(upd H r (.ins R dx (cJ "place" (.int ((p:Int)+1)) (gu x p)))) r=some (.ins R dx (gu x (p+1))):=by
   rw[af]
   exact congrArg (fun z=>some (HO.ins R dx z)) (kX x p (p+1))
  have k1:Kept r H (upd H r (.ins R dx (cJ "place" (.int ((p:Int)+1)) (gu x p)))):=fun b o z w=>by rw[ah w];exact z
  generalize upd H r _=H1 at eL k1 ⊢
  have zL:Here x (p+1) (rk++aR n) post:=Here.on (t:=[c]) (u:=rk++aR n) hh
  refine⟨fun m σ H'=>∃j:Nat,m+j=rk.length∧σ=[some (.ref r),some (.int p),none]∧dh R H' r x (p+1+j)∧Kept r H H',⟨rk.length,0,by omega,rfl,⟨dx,eL⟩,k1⟩,?_⟩
  rintro m σ H' ⟨j,hk,rfl,⟨dH,eD⟩,kk⟩
  have hle1:=zL.le
  rw[List.length_append] at hle1
  refine⟨_,rfl,r,dH,_,rfl,eD,aJ _ _ (by decide+kernel) (by decide+kernel),r,x,p+1+j,rfl,⟨dH,eD⟩,by omega,hx,_,rfl,mZ _ _,_,rfl,?_⟩
  by_cases hj:j<rk.length
  ·have e:rk=rk.take j++rk[j]::rk.drop (j+1):=by
    conv=>lhs;rw[←List.take_append_drop j rk]
    congr 1
    exact List.drop_eq_getElem_cons hj
   have h2:Here x (p+1+j) (rk[j]::(rk.drop (j+1)++aR n)) post:=by
    have e':rk++aR n=rk.take j++(rk[j]::(rk.drop (j+1)++aR n)):=by
     conv=>lhs;rw[e]
     rw[List.append_assoc]
     rfl
    have h3:=Here.on (t:=rk.take j) (u:=rk[j]::(rk.drop (j+1)++aR n)) (e'▸zL)
    rwa [List.length_take,Nat.min_eq_left (by omega)] at h3
   have ev:inR 97 122 (eR x (p+1+j))=true:=by
    rw[h2.sg,m5]
    exact List.all_eq_true.mp YN _ (List.getElem_mem hj)
   rw[ev]
   refine eQ ⟨_,rfl,r,R,dH,_,_,rfl,eD,T.ax,T.cm,bz _ _,_,rfl,_,_,rfl,rfl,_,_,rfl,rfl,_,rfl,vd (by omega) ?_⟩
   refine⟨_,fun σ' cp h=>⟨m - 1,by omega,h⟩,?_⟩
   refine⟨_,rfl,r,R,dH,_,_,rfl,eD,T.ax,T.cm,bz _ _,_,_,rfl,rfl,dH,_,eD,kY _ _,?_⟩
   refine⟨j+1,by omega,rfl,⟨dH,?_⟩,fun b o z w=>?_⟩
   ·rw[af]
    exact congrArg (fun z=>some (HO.ins R dH z)) (kX x (p+1+j) (p+1+j+1))
   ·rw[ah w];exact kk b o z w
  ·have ej:j=rk.length:=by omega
   have h2:Here x (p+1+j) (aR n) post:=by
    have h3:=Here.on (t:=rk) (u:=aR n) zL
    rwa [←ej] at h3
   have ev:inR 97 122 (eR x (p+1+j))=false:=by
    have h3:Here x (p+1+j) [] (aR n++post):=⟨h2.1,by rw[h2.2];rfl⟩
    rw[h3.Oo]
    exact vP (Kh (FX n1 n2) yK)
   rw[ev]
   refine d7 (d7 ?_)
   have ec:Txt.slice x (some (p:Int)) (some ((p+1+j:Nat):Int))=⟨(c::rk).toArray⟩:=by
    have h3:Here x p (c::rk) (aR n++post):=⟨hh.1,by rw[hh.2,List.append_assoc]⟩
    have:=h3.cut
    rw[List.length_cons] at this
    rw[show p+1+j=p+(rk.length+1) by omega]
    exact this
   refine⟨_,rfl,r,R,dH,_,_,rfl,eD,T.ax,T.ju,fY _ _,_,rfl,_,rfl,_,rfl,r,R,dH,_,_,rfl,eD,T.ax,T.cm,bz _ _,_,rfl,x,rfl,by omega,?_⟩
   rw[ec]
   refine⟨_,rfl,_,rfl,r,dH,_,rfl,eD,aJ _ _ (by decide+kernel) (by decide+kernel),r,x,p+1+j,n,post,rfl,⟨dH,eD⟩,h2,n1,n2,FV,hx,fun H2 iw k2=>?_⟩
   obtain⟨pU,iw⟩:=iw
   refine fun a da na nda nea=>⟨a,da,_,n,rfl,af,fun H3 h3 k3=>⟨rfl,?_⟩⟩
   have s3:au H2 H3:=fun b o z=>k3 b o (by rw[ah (ag z na),ah (ag z nda)];exact z) (ag z na)
   have kf:=(kk.trans k2)
   refine q a H3 (a5 kf iw na) ⟨da,h3⟩ ⟨pU,?_⟩ (kf.trans (Kept.of s3))
   rw[s3 _ _ iw,List.length_append,List.length_cons]
   rw[show p+1+j+(aR n).length=p+(rk.length+1+(aR n).length) by omega]
inductive Tr where
 |one (k:List Nat) (n:Int)
 |gr (ts:List Tr) (n:Int)
def b9:Nat→Tr→List Nat
 |_, .one k n=>k++aR n
 |0, .gr _ _=>[]
 |d+1, .gr ts n=>40::(ts.flatMap (b9 d)++41::aR n)
def tT:Nat→Tr→Prop
 |_, .one k n=>lY k∧1≤n∧n≤999
 |0, .gr _ _=>False
 |d+1, .gr ts n=>ts≠[]∧(∀t∈ts,tT d t)∧1≤n∧n≤999
def eS (C G:Addr):Nat→Hp→Addr→Tr→Prop
 |_,H,p, .one k n=>gC C H p ⟨k.toArray⟩ n
 |0,_,_, .gr _ _=>False
 |d+1,H,p, .gr ts n=>∃dx l ps,H p=some (.ins G dx (mU l n))∧H l=some (.lst (ps.map V.ref))∧Paired (eS C G d H) ps ts
def Sq (C G:Addr) (d:Nat) (H H':Hp) (a:Addr) (t:Tr):Prop:=∀cp,(∀b o,H b=none→H' b=some o→cp b=some o)→eS C G d cp a t
def NewL (C G L:Addr) (d:Nat) (H H':Hp) (a:Addr) (t:Tr):Prop:=∀cp,(∀b o,H b=none→b≠L→H' b=some o→cp b=some o)→eS C G d cp a t
def Sr (C G:Addr) (d:Nat) (H H':Hp) (l:Addr) (ts:List Tr):Prop:=H l=none∧∃ps,H' l=some (.lst (ps.map V.ref))∧∀cp,(∀b o,H b=none→H' b=some o→cp b=some o)→Paired (eS C G d cp) ps ts
def Stop (post:List Nat):Prop:=Not xb post∧Not Er post∧Not Es post∧Not (fun c=>decide (c=40)) post
inductive F0 (C G R:Addr) (d:Nat) (vs:List V) (H:Hp) (Q:VK) (E:XK):Prop
 |mk (r:Addr) (x:Str) (p:Nat) (a:Nat) (t:Tr) (post:List Nat) (dU:vs=[.ref r, .int a]) (dW:dh R H r x p) (d5:Here x p (b9 d t) post) (fe:tT d t) (gH:a+d≤4) (jb:Not xb post) (nM:Not Er post) (su:x.length≤1000) (A9:∀y H',H y=none→Sq C G d H H' y t→dh R H' r x (p+(b9 d t).length)→Kept r H H'→Q (.ref y) H')
def Bb (C G R:Addr) (d:Nat):Sp:=F0 C G R d
def qT (C G R:Addr):Nat→Sp
 |0=>fun _ _ _ _=>False
 |d+1=>fun vs H Q _=>∃(r:Addr) (x:Str) (p:Nat) (a:Nat) (ts:List Tr) (n:Int) (post:List Nat),vs=[.ref r, .int a]∧dh R H r x p∧Here x p (b9 (d+1) (.gr ts n)) post∧tT (d+1) (.gr ts n)∧a+d+1≤4∧Not xb post∧x.length≤1000∧
  ∀y H',H y=none→Sq C G (d+1) H H' y (.gr ts n)→dh R H' r x (p+(b9 (d+1) (.gr ts n)).length)→Kept r H H'→Q (.ref y) H'
inductive Dk (C G R:Addr) (d:Nat) (vs:List V) (H:Hp) (Q:VK) (E:XK):Prop
 |mk (r:Addr) (x:Str) (p:Nat) (a:Nat) (ts:List Tr) (post:List Nat) (dU:vs=[.ref r, .int a]) (dW:dh R H r x p) (d5:Here x p (ts.flatMap (b9 d)) post) (fe:ts≠[]) (gH:(∀t∈ts,tT d t)) (jb:a+d≤4) (nM:Stop post) (su:x.length≤1000) (A9:∀l H',Sr C G d H H' l ts→dh R H' r x (p+(ts.flatMap (b9 d)).length)→Kept r H H'→Q (.ref l) H')
def nh (C G R:Addr) (d:Nat):Sp:=Dk C G R d
structure qU (K:PySem.W.Frag) (mg:Str→Option Value) (C R G:Addr) (uK uN uB uE uM:Tok):Prop extends sv K mg C R uK uN where
 eN:sR K G
 ou:cE K G "parts"
 ow:cE K G "count"
 Ki:mg "Group" =some (.ref G)
 f9:mg "GROUP_BEGIN" =some (.str "(" uB)
 oZ:mg "GROUP_END" =some (.str ")" uE)
 j':mg "MOST_GROUPS_AROUND" =some (.int 3 uM)
theorem Ow:("(" :Str)=⟨#[40]⟩:=by decide+kernel
theorem e41:(")" :Str)=⟨#[41]⟩:=by decide+kernel
theorem oA {d:Nat} {t:Tr} (h:tT d t):∃c r,b9 d t=c::r∧((Es c=true∧∃k n,t= .one k n)∨(c=40∧∃ts n,t= .gr ts n)):=by
 cases t with
 |one k n=>
  have h:lY k∧1≤n∧n≤999:=by cases d<;>exact h
  obtain⟨⟨c,r,rfl,hc,_⟩,_⟩:=h
  have e:b9 d (.one (c::r) n)=c::(r++aR n):=by cases d<;>rfl
  exact⟨c,_,e, .inl ⟨hc,_,_,rfl⟩⟩
 |gr ts n=>
  cases d with
  |zero=>exact h.elim
  |succ d=>exact⟨40,_,rfl, .inr ⟨rfl,_,_,rfl⟩⟩
theorem Kj:ay ["self","around"] ["self","around"] (aj og):=dq
theorem xT (d:Nat) (D:bb K R "read_part" "Reader.read_part" og ["self","around"]) (T:qU K mg C R G uK uN uB uE uM) (c1:aM P w K mg base 1 R "sign" ["self"] (jt R)) (c2:aM P w K mg base 4 R "read_atom" ["self"] (vT C R)) (c3:aM P w K mg base (3*d+4) R "read_group" ["self","around"] (qT C G R d)):
  aM P w K mg base (3*d+5) R "read_part" ["self","around"] (Bb C G R d):=by
 obtain⟨_,_,aw⟩:=c1
 obtain⟨_,_,eU⟩:=c2
 obtain⟨_,_,d8⟩:=c3
 refine D.cY Kj (fun vs H Q E h=>?_) (fun f bg A outer s H vs Q E hr h=>?_)
 ·obtain⟨r,x,p,a,t,post,rfl,_⟩:=h
  rfl
 ·obtain⟨r,x,p,a,t,post,rfl,⟨dx,hR⟩,hh,ok,ha,FV,yK,hx,q⟩:=h
  refine⟨_,(ai
     (bE (PW.pt (lT (aO dJ (aP (pv 0) T.ax aw.m aw.ok (hr.mono (by omega)) aw.b .nil aA) (bp (v:= .str "(") rfl T.f9 ⟨_,rfl⟩) (aQ _)) (jf (aO AK (pv 1) (bp (v:= .int 3) rfl T.j' ⟨_,rfl⟩) (aQ _)))))
      (ao
       (aE (bU (pv 0) T.ax d8.m d8.ok (hr.mono (by omega)) d8.b .nil aA (aa (pv 1) ak))))
      aS)
    (ao
     (aE (aP (pv 0) T.ax eU.m eU.ok (hr.mono (by omega)) eU.b .nil aA)))),?_⟩
  obtain⟨c,rest,hc,ht⟩:=oA ok
  have Mg:eR x p=⟨#[c]⟩:=Here.sg (t:=rest) (hc▸hh)
  refine⟨_,rfl,r,dx,_,rfl,hR,aJ _ _ (by decide+kernel) (by decide+kernel),r,x,p,rfl,⟨dx,hR⟩,hh.1,hx,rfl,_,rfl,?_⟩
  rcases ht with ⟨hg,k,n,rfl⟩ | ⟨rfl,ts,n,rfl⟩
  ·have ne:¬V.str (eR x p)=V.str "(" :=by
    rw[Mg,Ow]
    intro z
    have z:(⟨#[c]⟩:Str)=⟨#[40]⟩:=by injection z
    have:c=40:=by have:=congrArg (fun s:Str=>s.cps.toList) z;simpa using this
    subst this
    simp [Es] at hg
   refine qy ne ?_
   have Mh:lY k∧1≤n∧n≤999:=by cases d<;>exact ok
   have et:b9 d (.one k n)=k++aR n:=by cases d<;>rfl
   rw[et] at hh q
   refine⟨_,rfl,r,dx,_,rfl,hR,aJ _ _ (by decide+kernel) (by decide+kernel),r,x,p,k,n,post,rfl,⟨dx,hR⟩,hh,Mh.1,Mh.2.1,Mh.2.2,FV,yK,hx,fun y H' ny hA eD kp=>q y H' ny (fun cp ke=>?_) eD kp⟩
   obtain⟨dy,hA⟩:=hA
   have e:eS C G d cp y (.one k n)=gC C cp y ⟨k.toArray⟩ n:=by cases d<;>rfl
   rw[e]
   exact⟨dy,ke _ _ ny hA⟩
  ·cases d with
   |zero=>exact ok.elim
   |succ d=>
    refine vd (by rw[Mg,Ow]) ?_
    refine⟨_,rfl,_,_,rfl,rfl,_,rfl,vd (by omega) ?_⟩
    exact⟨_,rfl,r,dx,_,rfl,hR,aJ _ _ (by decide+kernel) (by decide+kernel),_,rfl,r,x,p,a,ts,n,post,rfl,⟨dx,hR⟩,hh,ok,by omega,FV,hx,q⟩
inductive F1 (X:Addr) (vs:List V) (H:Hp) (Q:VK) (E:XK):Prop
 |mk (p dx l:Addr) (c:Int) (xs:List V) (dU:vs=[.ref p, .ref l, .int c]) (dW:H p=some (.ins X dx [])) (d5:H l=some (.lst xs)) (fe:∀n H',H n=none→H' p=some (.ins X dx (mU n c))→H' n=some (.lst xs)→(∀b o,H b=some o→b≠p→H' b=some o)→Q .cI H')
def ni (X:Addr):Sp:=F1 X
theorem fZ {H:Hp} {a b m:Addr} {o o':HO} (h:(upd (upd H a o) b o') m=none):H m=none:=by
 by_cases e:m=b
 ·rw[e,af] at h;cases h
 ·rw[ah e] at h
  by_cases e':m=a
  ·rw[e',af] at h;cases h
  ·rwa [ah e'] at h
theorem Ox (l:List Nat):Stop (41::l):=by
 refine⟨?_,?_,?_,?_⟩<;>(intro c hc;have e:41=c:=by simpa using hc)<;>subst e<;>decide
theorem qV:ay ["self","around","parts"] ["self","around"] (aj jq):=dq
theorem zM (D:bb K R "read_group" "Reader.read_group" jq ["self","around"]):aM P w K mg base 4 R "read_group" ["self","around"] (qT C G R 0):=
 D.cY (k:=3) qV (fun vs H Q E h=>h.elim) (fun f bg A outer s H vs Q E hr h=>h.elim)
theorem Dl (d:Nat) (D:bb K R "read_group" "Reader.read_group" jq ["self","around"]) (T:qU K mg C R G uK uN uB uE uM) (c1:aM P w K mg base 2 R "take" ["self","sign"] (lX R)) (c2:aM P w K mg base 3 R "read_count" ["self"] (i8 R)) (c3:aM P w K mg base (3*d+6) R "read_parts" ["self","around"] (nh C G R d))
  (c4:gG P w K mg base 1 G ["self","parts","count"] [1] (ni G)):aM P w K mg base (3*d+7) R "read_group" ["self","around"] (qT C G R (d+1)):=by
 obtain⟨_,_,aH⟩:=c1
 obtain⟨_,_,aN⟩:=c2
 obtain⟨_,_,a8⟩:=c3
 obtain⟨_,_,eN⟩:=c4
 obtain⟨_,Dm,Dn⟩:=eN.b 1 (by decide)
 refine D.cY qV (fun vs H Q E h=>?_) (fun f bg A outer s H vs Q E hr h=>?_)
 ·obtain⟨r,x,p,a,ts,n,post,rfl,_⟩:=h
  rfl
 ·obtain⟨r,x,p,a,ts,n,post,rfl,⟨dx,hR⟩,hh,⟨pq,aX,n1,n2⟩,ha,FV,hx,q⟩:=h
  refine⟨_,(ai
     (bw (bU (pv 0) T.ax aH.m aH.ok (hr.mono (by omega)) aH.b .nil aA (aa (bp (v:= .str "(") rfl T.f9 ⟨_,rfl⟩) ak)))
    (ai
     (aB (i:=2) qV.nd rfl (Or.inl rfl) (bU (pv 0) T.ax a8.m a8.ok (hr.mono (by omega)) a8.b .nil aA (aa (az bO (pv 1) aq) ak)))
    (ai
     (bw (bU (pv 0) T.ax aH.m aH.ok (hr.mono (by omega)) aH.b .nil aA (aa (bp (v:= .str ")") rfl T.oZ ⟨_,rfl⟩) ak)))
    (ao
     (aE (f6 eN.m eN.ok (hr.mono (by omega)) rfl T.Ki Dn Dm aA (aa (pv 2) (aa (aP (pv 0) T.ax aN.m aN.ok (hr.mono (by omega)) aN.b .nil aA) ak)))))))),?_⟩
  have F2:Here x p (40::(ts.flatMap (b9 d)++41::aR n)) post:=hh
  have zL:Here x (p+1) (ts.flatMap (b9 d)++41::aR n) post:=Here.on (t:=[40]) F2
  have Oy:Here x (p+1) (ts.flatMap (b9 d)) (41::(aR n++post)):=⟨zL.1,by rw[zL.2,List.append_assoc];rfl⟩
  have Et:Here x (p+1+(ts.flatMap (b9 d)).length) (41::aR n) post:=Here.on (t:=ts.flatMap (b9 d)) zL
  have hh4:Here x (p+1+(ts.flatMap (b9 d)).length+1) (aR n) post:=Here.on (t:=[41]) Et
  refine⟨_,rfl,r,dx,_,rfl,hR,aJ _ _ (by decide+kernel) (by decide+kernel),r,x,p,_,40,_,post,rfl,Ow,⟨dx,hR⟩,F2,hx,fun H1 eL k1=>?_⟩
  obtain⟨nN,eL⟩:=eL
  refine⟨_,rfl,r,nN,_,rfl,eL,aJ _ _ (by decide+kernel) (by decide+kernel),_,rfl,_,_,rfl,rfl,r,x,p+1,a+1,ts,_,rfl,⟨nN,eL⟩,Oy,pq,aX,by omega,Ox _,hx,fun l H2 hN iw k2=>?_⟩
  obtain⟨pU,iw⟩:=iw
  obtain⟨AU,ps,wZ,JF⟩:=hN
  refine⟨_,rfl,r,pU,_,rfl,iw,aJ _ _ (by decide+kernel) (by decide+kernel),r,x,p+1+(ts.flatMap (b9 d)).length,_,41,_,post,rfl,e41,⟨pU,iw⟩,Et,hx,fun H3 ix k3=>?_⟩
  obtain⟨sf,ix⟩:=ix
  refine⟨_,rfl,_,rfl,r,sf,_,rfl,ix,aJ _ _ (by decide+kernel) (by decide+kernel),r,x,_,n,post,rfl,⟨sf,ix⟩,hh4,n1,n2,FV,hx,fun H4 tU k4=>?_⟩
  obtain⟨IT,tU⟩:=tU
  have YO:l≠r:=fun z=>by rw[z,eL] at AU;cases AU
  have Oz:=k4 _ _ (k3 _ _ wZ YO) YO
  refine fun g dg ng zN neg=>⟨g,dg,l,n,ps.map V.ref,rfl,af,?_,fun m H5 hm hg QQ kp=>⟨rfl,?_⟩⟩
  ·rw[ah (ag Oz ng),ah (ag Oz zN)];exact Oz
  have s5:au H4 H5:=fun b o z=>kp b o (by rw[ah (ag z ng),ah (ag z zN)];exact z) (ag z ng)
  have kf:Kept r H H4:=((k1.trans k2).trans k3).trans k4
  refine q g H5 (a5 kf tU ng) (fun cp ke=>?_) ⟨IT,?_⟩ (kf.trans (Kept.of s5))
  ·refine⟨dg,m,ps,ke _ _ (a5 kf tU ng) hg,ke _ _ (a5 kf tU (fZ hm)) QQ,JF cp fun b o z1 z2=>?_⟩
   have yQ:b≠r:=fun z=>by rw[z,eL] at z1;cases z1
   exact ke _ _ (a5 k1 eL z1) (s5 _ _ (k4 _ _ (k3 _ _ z2 yQ) yQ))
  ·rw[s5 _ _ tU]
   show some (HO.ins R IT (gu x (p+1+(ts.flatMap (b9 d)).length+1+(aR n).length)))=some (HO.ins R IT (gu x (p+(40::(ts.flatMap (b9 d)++41::aR n)).length)))
   rw[List.length_cons,List.length_append,List.length_cons]
   rw[show p+1+(ts.flatMap (b9 d)).length+1+(aR n).length=p+((ts.flatMap (b9 d)).length+((aR n).length+1)+1) by omega]
theorem qW {d:Nat}:∀{ts:List Tr},(∀t∈ts,tT d t)→ts.length≤(ts.flatMap (b9 d)).length
 | [],_=>Nat.le_refl _
 |t::ts,h=>by
  obtain⟨c,r,e,_⟩:=oA (h t (List.mem_cons_self ..))
  have:=qW (d:=d) (ts:=ts) fun u hu=>h u (List.mem_cons_of_mem _ hu)
  rw[List.flatMap_cons,List.length_append,e,List.length_cons,List.length_cons]
  omega
theorem list_at {α:Type} {l:List α} {i:Nat} (h:i<l.length):l=l.take i++l[i]::l.drop (i+1):=by
 conv=>lhs;rw[←List.take_append_drop i l]
 congr 1
 exact List.drop_eq_getElem_cons h
theorem qX {d:Nat} {ts:List Tr} {post:List Nat} (h:∀t∈ts,tT d t) (hs:Stop post):Not xb (ts.flatMap (b9 d)++post)∧Not Er (ts.flatMap (b9 d)++post):=by
 cases ts with
 |nil=>exact⟨hs.1,hs.2.1⟩
 |cons t ts=>
  obtain⟨c,r,e,hc⟩:=oA (h t (List.mem_cons_self ..))
  have hc:Es c=true∨c=40:=hc.elim (fun z=> .inl z.1) fun z=> .inr z.1
  rw[List.flatMap_cons,e]
  refine⟨fun b hb=>?_,fun b hb=>?_⟩<;>have eb:c=b:=by simpa using hb
  ·subst eb
   rcases hc with hc|rfl
   ·simp only [Es,xb,Bool.and_eq_true,decide_eq_true_eq] at*
    simp
    omega
   ·decide
  ·subst eb
   rcases hc with hc|rfl
   ·simp only [Es,Er,Bool.and_eq_true,decide_eq_true_eq] at*
    simp
    omega
   ·decide
theorem zO {d:Nat} {x:Str} {p:Nat} {ts:List Tr} {post:List Nat} {i:Nat} (h:Here x p (ts.flatMap (b9 d)) post) (hi:i<ts.length):Here x (p+((ts.take i).flatMap (b9 d)).length) (b9 d ts[i]) ((ts.drop (i+1)).flatMap (b9 d)++post):=by
 have e:ts.flatMap (b9 d)=(ts.take i).flatMap (b9 d)++(b9 d ts[i]++(ts.drop (i+1)).flatMap (b9 d)):=by
  conv=>lhs;rw[list_at hi]
  rw[List.flatMap_append,List.flatMap_cons]
 have h1:=Here.on (t:=(ts.take i).flatMap (b9 d)) (e▸h)
 exact⟨h1.1,by rw[h1.2,List.append_assoc]⟩
theorem tV {d:Nat} {ts:List Tr} {i:Nat} (hi:i<ts.length):(ts.take (i+1)).flatMap (b9 d)=(ts.take i).flatMap (b9 d)++b9 d ts[i]:=by
 rw[List.take_add_one,List.getElem?_eq_getElem hi]
 show (ts.take i++[ts[i]]).flatMap (b9 d)=_
 rw[List.flatMap_append,List.flatMap_cons,List.flatMap_nil,List.append_nil]
theorem aL {α β:Type} {p q:α→β→Prop} (h:∀a b,p a b→q a b):∀{as:List α} {bs:List β},Paired p as bs→Paired q as bs
 |_,_, .nil=> .nil
 |_,_, .cons x t=> .cons (h _ _ x) (aL h t)
theorem bK {α β:Type} {p:α→β→Prop} {a:α} {b:β} (x:p a b):∀{as:List α} {bs:List β},Paired p as bs→Paired p (as++[a]) (bs++[b])
 |_,_, .nil=> .cons x .nil
 |_,_, .cons y t=> .cons y (bK x t)
theorem xU:ay ["self","around","parts"] ["self","around"] (aj kS):=dq
theorem tW (d:Nat) (D:bb K R "read_parts" "Reader.read_parts" kS ["self","around"]) (T:qU K mg C R G uK uN uB uE uM) (c1:aM P w K mg base 1 R "sign" ["self"] (jt R)) (c2:a9 P w K mg base 1 "is_great" ["sign"] (Me 65 90)) (c3:aM P w K mg base (3*d+5) R "read_part" ["self","around"] (Bb C G R d)):
  aM P w K mg base (3*d+6) R "read_parts" ["self","around"] (nh C G R d):=by
 obtain⟨_,_,aw⟩:=c1
 obtain⟨_,_,di⟩:=c2
 obtain⟨_,_,bZ⟩:=c3
 refine D.cY xU (fun vs H Q E h=>?_) (fun f bg A outer s H vs Q E hr h=>?_)
 ·obtain⟨r,x,p,a,ts,post,rfl,_⟩:=h
  rfl
 ·obtain⟨r,x,p,a,ts,post,rfl,⟨dx,hR⟩,hh,pq,aX,ha,gz,hx,q⟩:=h
  have big:(2000 :Nat)≤sizeLine:=by decide
  have hle:=hh.le
  have hfl:=qW aX
  have t0:0<ts.length:=List.length_pos_iff.mpr pq
  refine⟨_,(ai
     (aB (i:=2) xU.nd rfl (Or.inl rfl) (cu (aa (bU (pv 0) T.ax bZ.m bZ.ok (hr.mono (by omega)) bZ.b .nil aA (aa (pv 1) ak)) ak)))
    (ai
     (iZ PassesOwn.never (PW.pt (oU (jT (aF di.ok (hr.mono (by omega)) rfl di.g di.kp di.b .nil aA (aa (aP (pv 0) T.ax aw.m aw.ok (hr.mono (by omega)) aw.b .nil aA) ak))) (lS (aO dJ (aP (pv 0) T.ax aw.m aw.ok (hr.mono (by omega)) aw.b .nil aA) (bp (v:= .str "(") rfl T.f9 ⟨_,rfl⟩) (aQ _)))))
      (ao
       (bw (iB PySem.F.plainAttrs_list PySem.F.slot_list_append PySem.F.type_list_append dv (pv 2) (aa (bU (pv 0) T.ax bZ.m bZ.ok (hr.mono (by omega)) bZ.b .nil aA (aa (pv 1) ak)) ak)))))
    (ao
     (aE (pv 2))))),?_⟩
  have JG:∀i,∀t∈ts.drop i,tT d t:=fun i t ht=>aX t (List.mem_of_mem_drop ht)
  have h0:Here x p (b9 d ts[0]) ((ts.drop (0+1)).flatMap (b9 d)++post):=zO hh t0
  have n0:=qX (JG (0+1)) gz
  refine⟨_,rfl,r,dx,_,rfl,hR,aJ _ _ (by decide+kernel) (by decide+kernel),_,rfl,r,x,p,a,ts[0],_,rfl,⟨dx,hR⟩,h0,aX _ (List.getElem_mem t0),ha,n0.1,n0.2,hx,fun y H1 ny hN eL k1=>⟨(by show 1≤sizeLine;decide),fun L hL=>?_⟩⟩
  obtain⟨nN,eL⟩:=eL
  have xc:H L=none:=a5 k1 eL hL
  have xV:L≠r:=fun z=>by rw[z,eL] at hL;cases hL
  refine⟨fun m σ H'=>∃i:Nat,m+i=ts.length∧σ=[some (.ref r),some (.int a),some (.ref L)]∧dh R H' r x (p+((ts.take i).flatMap (b9 d)).length)∧Kept r H H'∧∃ps,H' L=some (.lst (ps.map V.ref))∧ps.length=i∧Paired (NewL C G L d H H') ps (ts.take i),⟨ts.length - 1,1,by omega,rfl,?_,?_,[y],af,rfl,?_⟩,?_⟩
  ·refine⟨nN,?_⟩
   rw[ah (Ne.symm xV),eL]
   have:=tV (d:=d) t0
   rw[this]
   rfl
  ·exact k1.trans (Kept.of (au.new hL))
  ·rw[show ts.take 1=[ts[0]] by
    have:=@List.take_add_one _ ts 0
    rw[this,List.getElem?_eq_getElem t0];rfl]
   refine .cons (fun cp ke=>hN cp fun b o z1 z2=>?_) .nil
   have Bc:b≠L:=ag z2 hL
   exact ke b o z1 Bc (by rw[ah Bc];exact z2)
  rintro m σ H' ⟨i,hm,rfl,⟨dH,eD⟩,kk,ps,pV,iu,hP⟩
  have YQ:p+((ts.take i).flatMap (b9 d)).length≤x.length:=by
   have:((ts.take i).flatMap (b9 d)).length≤(ts.flatMap (b9 d)).length:=by
    conv=>rhs;rw[←List.take_append_drop i ts,List.flatMap_append,List.length_append]
    omega
   omega
  refine⟨_,rfl,r,dH,_,rfl,eD,aJ _ _ (by decide+kernel) (by decide+kernel),r,x,_,rfl,⟨dH,eD⟩,YQ,hx,_,rfl,mZ _ _,_,rfl,?_⟩
  by_cases hi:i<ts.length
  ·have h2:=zO hh hi
   have QR:=aX _ (List.getElem_mem hi)
   obtain⟨c,rest,hc,ht⟩:=oA QR
   have Mg:eR x (p+((ts.take i).flatMap (b9 d)).length)=⟨#[c]⟩:=Here.sg (t:=rest) (hc▸h2)
   have nn:=qX (JG (i+1)) gz
   have JF:ps.length<sizeLine:=by omega
   rcases ht with ⟨hg,_⟩ | ⟨Ss,_⟩
   case' inl=>
    have ev:inR 65 90 (eR x (p+((ts.take i).flatMap (b9 d)).length))=true:=by
     rw[Mg,m5]
     exact hg
    rw[ev]
    refine eQ (eQ ?_)
   case' inr=>
    have ev:inR 65 90 (eR x (p+((ts.take i).flatMap (b9 d)).length))=false:=by
     rw[Mg,m5,Ss]
     rfl
    rw[ev]
    refine d7 ⟨_,rfl,r,dH,_,rfl,eD,aJ _ _ (by decide+kernel) (by decide+kernel),r,x,_,rfl,⟨dH,eD⟩,YQ,hx,rfl,_,rfl,vd (by rw[Mg,Ow,Ss]) ?_⟩
   all_goals
    refine⟨_,fun σ' cp h=>⟨m - 1,by omega,h⟩,?_⟩
    refine⟨_,rfl, .inl ⟨rfl,_,bS.of pV⟩,_,rfl,r,dH,_,rfl,eD,aJ _ _ (by decide+kernel) (by decide+kernel),_,rfl,r,x,_,a,ts[i],_,rfl,⟨dH,eD⟩,h2,QR,ha,nn.1,nn.2,hx,fun y H2 ny hN iw k2=>?_⟩
    obtain⟨pU,iw⟩:=iw
    have sx:=k2 _ _ pV xV
    refine⟨L,_,_,rfl,rfl,sx,by rw[List.length_map];exact JF,i+1,by omega,rfl,⟨pU,?_⟩,fun b o z w=>?_,ps++[y],by rw[af,List.map_append];rfl,by rw[List.length_append,iu];rfl,?_⟩
    ·rw[ah (Ne.symm xV),iw,tV hi,List.length_append,Nat.add_assoc]
    ·rw[ah (ag z xc)]
     exact k2 _ _ (kk _ _ z w) w
    ·rw[List.take_add_one,List.getElem?_eq_getElem hi]
     refine bK (fun cp ke=>hN cp fun b o z1 z2=>?_) (aL (fun c t h cp ke=>h cp fun b o z1 z2 z3=>ke b o z1 z2 ?_) hP)
     ·have Bc:b≠L:=fun z=>by rw[z,pV] at z1;cases z1
      exact ke b o (a5 kk eD z1) Bc (by rw[ah Bc];exact z2)
     ·have yQ:b≠r:=fun z=>by rw[z,hR] at z1;cases z1
      rw[ah z2]
      exact k2 _ _ z3 yQ
  ·have ei:i=ts.length:=by omega
   rw[ei,List.take_length] at eD hP YQ ⊢
   have h3:Here x (p+(ts.flatMap (b9 d)).length) [] post:=Here.on (t:=ts.flatMap (b9 d)) (u:=[]) (by rw[List.append_nil];exact hh)
   have ev:inR 65 90 (eR x (p+(ts.flatMap (b9 d)).length))=false:=by
    rw[h3.Oo]
    exact vP gz.2.2.1
   rw[ev]
   have ne:¬V.str (eR x (p+(ts.flatMap (b9 d)).length))=V.str "(" :=by
    rw[h3.Oo,Ow]
    intro z
    have z:(⟨(post.take 1).toArray⟩:Str)=⟨#[40]⟩:=by injection z
    cases post with
    |nil=>have:=congrArg (fun s:Str=>s.cps.toList) z;simp at this
    |cons c _=>
     have e:c=40:=by have:=congrArg (fun s:Str=>s.cps.toList) z;simpa using this
     have:=gz.2.2.2 c rfl
     simp [e] at this
   refine d7 ⟨_,rfl,r,dH,_,rfl,eD,aJ _ _ (by decide+kernel) (by decide+kernel),r,x,_,rfl,⟨dH,eD⟩,YQ,hx,rfl,_,rfl,qy ne ?_⟩
   exact⟨_,rfl,q L H' ⟨xc,ps,pV,fun cp ke=>aL (fun c t h=>h cp fun b o z1 _ z3=>ke b o z1 z3) hP⟩ ⟨dH,eD⟩ kk⟩
theorem qY (D1:bb K R "read_group" "Reader.read_group" jq ["self","around"]) (D2:bb K R "read_part" "Reader.read_part" og ["self","around"]) (D3:bb K R "read_parts" "Reader.read_parts" kS ["self","around"]) (T:qU K mg C R G uK uN uB uE uM)
  (c1:aM P w K mg base 1 R "sign" ["self"] (jt R)) (c2:a9 P w K mg base 1 "is_great" ["sign"] (Me 65 90)) (c3:aM P w K mg base 4 R "read_atom" ["self"] (vT C R)) (c4:aM P w K mg base 2 R "take" ["self","sign"] (lX R)) (c5:aM P w K mg base 3 R "read_count" ["self"] (i8 R))
  (c6:gG P w K mg base 1 G ["self","parts","count"] [1] (ni G)):∀d:Nat,aM P w K mg base (3*d+6) R "read_parts" ["self","around"] (nh C G R d)
 |0=>tW 0 D3 T c1 c2 (xT 0 D2 T c1 c3 (zM D1))
 |d+1=>tW (d+1) D3 T c1 c2 (xT (d+1) D2 T c1 c3 (by rw[show 3*(d+1)+4=3*d+7 by omega];exact Dl d D1 T c4 c5 (qY D1 D2 D3 T c1 c2 c3 c4 c5 c6 d) c6))
def i9 (n:Int):List Nat:=if n=0 then [] else 94::(aR (if n<0 then -n else n)++[if 0<n then 43 else 45])
def Eu (post:List Nat):Prop:=post=[]∨∃r,post=32::r
theorem Eu.ne {post:List Nat} (h:Eu post) {c:Nat} (hc:c≠32):¬V.str (⟨(post.take 1).toArray⟩:Str)=V.str (⟨#[c]⟩:Str):=by
 intro z
 have z:(⟨(post.take 1).toArray⟩:Str)=⟨#[c]⟩:=by injection z
 have z:=congrArg (fun s:Str=>s.cps.toList) z
 rcases h with rfl| ⟨r,rfl⟩
 ·simp at z
 ·have e:32=c:=by simpa using z
  exact hc e.symm
theorem Eu.stop {post:List Nat} (h:Eu post):Stop post:=by
 rcases h with rfl| ⟨r,rfl⟩
 ·refine⟨?_,?_,?_,?_⟩<;>(intro c hc;cases hc)
 ·refine⟨?_,?_,?_,?_⟩<;>(intro c hc;have e:32=c:=by simpa using hc)<;>subst e<;>decide
inductive zP (R:Addr) (vs:List V) (H:Hp) (Q:VK) (E:XK):Prop
 |mk (r:Addr) (x:Str) (p:Nat) (n:Int) (post:List Nat) (dU:vs=[.ref r]) (dW:dh R H r x p) (d5:Here x p (i9 n) post) (fe:Eu post) (gH: -999≤n) (jb:n≤999) (nM:x.length≤1000) (su:∀H',dh R H' r x (p+(i9 n).length)→Kept r H H'→Q (.int n) H')
def tX (R:Addr):Sp:=zP R
structure Su (K:PySem.W.Frag) (mg:Str→Option Value) (C R:Addr) (uK uN uC uP uI:Tok):Prop extends sv K mg C R uK uN where
 iT:mg "CHARGE_MARK" =some (.str "^" uC)
 vV:mg "PLUS" =some (.str "+" uP)
 vW:mg "MINUS" =some (.str "-" uI)
theorem Sv:("^" :Str)=⟨#[94]⟩:=by decide+kernel
theorem e43:("+" :Str)=⟨#[43]⟩:=by decide+kernel
theorem Sw:("-" :Str)=⟨#[45]⟩:=by decide+kernel
theorem pW {c b:Nat} (h:c≠b):¬V.str (⟨#[c]⟩:Str)=V.str (⟨#[b]⟩:Str):=by
 intro z
 have z:(⟨#[c]⟩:Str)=⟨#[b]⟩:=by injection z
 exact h (by have:=congrArg (fun s:Str=>s.cps.toList) z;simpa using this)
theorem tY:ay ["self","count"] ["self"] (aj j5):=dq
theorem qZ {uC uP uI:Tok} (D:bb K R "read_charge" "Reader.read_charge" j5 ["self"]) (T:Su K mg C R uK uN uC uP uI) (c1:aM P w K mg base 1 R "sign" ["self"] (jt R)) (c2:aM P w K mg base 2 R "take" ["self","sign"] (lX R)) (c3:aM P w K mg base 3 R "read_count" ["self"] (i8 R)):
  aM P w K mg base 4 R "read_charge" ["self"] (tX R):=by
 obtain⟨_,_,aw⟩:=c1
 obtain⟨_,_,aH⟩:=c2
 obtain⟨_,_,aN⟩:=c3
 refine D.cY tY (fun vs H Q E h=>?_) (fun f bg A outer s H vs Q E hr h=>?_)
 ·obtain⟨r,x,p,n,post,rfl,_⟩:=h
  rfl
 ·obtain⟨r,x,p,n,post,rfl,⟨dx,hR⟩,hh,IU,n1,n2,hx,q⟩:=h
  refine⟨_,(ai
     (bE (aO qk (aP (pv 0) T.ax aw.m aw.ok (hr.mono (by decide)) aw.b .nil aA) (bp (v:= .str "^") rfl T.iT ⟨_,rfl⟩) (aQ _))
      (ao
       (aE aq))
      aS)
    (ai
     (bw (bU (pv 0) T.ax aH.m aH.ok (hr.mono (by decide)) aH.b .nil aA (aa (bp (v:= .str "^") rfl T.iT ⟨_,rfl⟩) ak)))
    (ai
     (aB (i:=1) tY.nd rfl (Or.inl rfl) (aP (pv 0) T.ax aN.m aN.ok (hr.mono (by decide)) aN.b .nil aA))
    (ai
     (bE (aO dJ (aP (pv 0) T.ax aw.m aw.ok (hr.mono (by decide)) aw.b .nil aA) (bp (v:= .str "-") rfl T.vW ⟨_,rfl⟩) (aQ _))
      (ai
       (bw (bU (pv 0) T.ax aH.m aH.ok (hr.mono (by decide)) aH.b .nil aA (aa (bp (v:= .str "-") rfl T.vW ⟨_,rfl⟩) ak)))
      (ao
       (aE (lF iQ (pv 1)))))
      aS)
    (ai
     (bw (bU (pv 0) T.ax aH.m aH.ok (hr.mono (by decide)) aH.b .nil aA (aa (bp (v:= .str "+") rfl T.vV ⟨_,rfl⟩) ak)))
    (ao
     (aE (pv 1)))))))),?_⟩
  refine⟨_,rfl,r,dx,_,rfl,hR,aJ _ _ (by decide+kernel) (by decide+kernel),r,x,p,rfl,⟨dx,hR⟩,hh.1,hx,rfl,_,rfl,?_⟩
  by_cases h0:n=0
  ·subst h0
   have hh:Here x p [] post:=hh
   have ne:¬V.str (eR x p)=V.str "^" :=by
    rw[hh.Oo,Sv]
    exact IU.ne (by decide)
   rw[decide_eq_false ne]
   exact eQ (q H ⟨dx,hR⟩ (Kept.refl r H))
  ·have ec:i9 n=94::(aR (if n<0 then -n else n)++[if 0<n then 43 else 45]):=by unfold i9;rw[if_neg h0]
   rw[ec] at hh q
   have a1:1≤(if n<0 then -n else n):=by split<;>omega
   have a2:(if n<0 then -n else n)≤999:=by split<;>omega
   have eq:V.str (eR x p)=V.str "^" :=by rw[hh.sg,Sv]
   rw[decide_eq_true eq]
   refine d7 ?_
   have zL:Here x (p+1) (aR (if n<0 then -n else n)++[if 0<n then 43 else 45]) post:=Here.on (t:=[94]) hh
   have Oy:Here x (p+1) (aR (if n<0 then -n else n)) ((if 0<n then 43 else 45)::post):=⟨zL.1,by rw[zL.2,List.append_assoc];rfl⟩
   have Et:Here x (p+1+(aR (if n<0 then -n else n)).length) [if 0<n then 43 else 45] post:=Here.on zL
   refine⟨_,rfl,r,dx,_,rfl,hR,aJ _ _ (by decide+kernel) (by decide+kernel),r,x,p,_,94,_,post,rfl,Sv,⟨dx,hR⟩,hh,hx,fun H1 eL k1=>?_⟩
   obtain⟨nN,eL⟩:=eL
   have nf:Not xb ((if 0<n then 43 else 45)::post):=by
    intro c hc
    have e:(if 0<n then 43 else 45)=c:=by simpa using hc
    rw[←e]
    split<;>rfl
   refine⟨_,rfl,r,nN,_,rfl,eL,aJ _ _ (by decide+kernel) (by decide+kernel),r,x,p+1,_,_,rfl,⟨nN,eL⟩,Oy,a1,a2,nf,hx,fun H2 iw k2=>?_⟩
   obtain⟨pU,iw⟩:=iw
   have kk:=k1.trans k2
   refine⟨_,rfl,r,pU,_,rfl,iw,aJ _ _ (by decide+kernel) (by decide+kernel),r,x,_,rfl,⟨pU,iw⟩,Et.1,hx,rfl,_,rfl,?_⟩
   have el:p+1+(aR (if n<0 then -n else n)).length+1=p+(94::(aR (if n<0 then -n else n)++[if 0<n then 43 else 45])).length:=by
    rw[List.length_cons,List.length_append]
    simp
    omega
   by_cases hp:0<n
   ·rw[if_pos hp] at Et
    have ne:¬V.str (eR x (p+1+(aR (if n<0 then -n else n)).length))=V.str "-" :=by
     rw[Et.sg,Sw]
     exact pW (by decide)
    refine qy ne ?_
    refine⟨_,rfl,r,pU,_,rfl,iw,aJ _ _ (by decide+kernel) (by decide+kernel),r,x,_,_,43,_,post,rfl,e43,⟨pU,iw⟩,Et,hx,fun H3 ix k3=>?_⟩
    rw[el] at ix
    have:=q H3 ix (kk.trans k3)
    refine⟨_,rfl,?_⟩
    rw[if_neg (by omega)]
    exact this
   ·rw[if_neg hp] at Et
    refine vd (by rw[Et.sg,Sw]) ?_
    refine⟨_,rfl,r,pU,_,rfl,iw,aJ _ _ (by decide+kernel) (by decide+kernel),r,x,_,_,45,_,post,rfl,Sw,⟨pU,iw⟩,Et,hx,fun H3 ix k3=>?_⟩
    rw[el] at ix
    have:=q H3 ix (kk.trans k3)
    have e2: -(if n<0 then -n else n)=n:=by rw[if_pos (by omega),Int.neg_neg]
    rw[show V.int n=V.int (-(if n<0 then -n else n)) from by rw[e2]] at this
    exact⟨_,rfl,_,rfl,this⟩
theorem npch:¬(("pieces" :Str)="charge"):=by decide+kernel
def o5 (l:Addr) (n:Int):List (Str×V):=cJ "charge" (.int n) (cJ "pieces" (.ref l) [])
theorem jw (l:Addr) (n:Int):(o5 l n).lookup ("pieces" :Str)=some (.ref l):=by
 unfold o5
 rw[aD,if_neg npch,aD,if_pos rfl]
theorem nj (l:Addr) (n:Int):(o5 l n).lookup ("charge" :Str)=some (.int n):=by
 unfold o5
 rw[aD,if_pos rfl]
theorem q5 (l:Addr) (n:Int) {m:Str} (h1:¬m="charge") (h2:¬m="pieces"):(o5 l n).lookup m=none:=by
 unfold o5
 rw[aD,if_neg h1,aD,if_neg h2]
 all_goals rfl
inductive F3 (X:Addr) (vs:List V) (H:Hp) (Q:VK) (E:XK):Prop
 |mk (p dx l:Addr) (c:Int) (xs:List V) (dU:vs=[.ref p, .ref l, .int c]) (dW:H p=some (.ins X dx [])) (d5:H l=some (.lst xs)) (fe:∀n H',H n=none→H' p=some (.ins X dx (o5 n c))→H' n=some (.lst xs)→(∀b o,H b=some o→b≠p→H' b=some o)→Q .cI H')
def vX (X:Addr):Sp:=F3 X
abbrev jO:=Int×List Tr
def jx (C G Pc:Addr) (d:Nat) (H:Hp) (p:Addr) (x:jO):Prop:=∃dx l ps,H p=some (.ins Pc dx (mU l x.1))∧H l=some (.lst (ps.map V.ref))∧Paired (eS C G d H) ps x.2
def o6 (C G Pc Fo:Addr) (d:Nat) (H:Hp) (f:Addr) (xs:List jO) (n:Int):Prop:=∃dx l ps,H f=some (.ins Fo dx (o5 l n))∧H l=some (.lst (ps.map V.ref))∧Paired (jx C G Pc d H) ps xs
def Sx (C G Pc L:Addr) (d:Nat) (H H':Hp) (p:Addr) (x:jO):Prop:=∀cp,(∀b o,H b=none→b≠L→H' b=some o→cp b=some o)→jx C G Pc d cp p x
def OA (C G Pc Fo:Addr) (d:Nat) (H H':Hp) (f:Addr) (xs:List jO) (n:Int):Prop:=∀cp,(∀b o,H b=none→H' b=some o→cp b=some o)→o6 C G Pc Fo d cp f xs n
def lH (d:Nat) (x:jO):List Nat:=aR x.1++x.2.flatMap (b9 d)
def cR (d:Nat) (xs:List jO):List Nat:=xs.flatMap fun x=>46::lH d x
def wL (d:Nat):List jO→Int→List Nat
 | [],_=>[101,94,45]
 |x::r,n=>x.2.flatMap (b9 d)++(cR d r++i9 n)
def Fq (d:Nat) (x:jO):Prop:=x.2≠[]∧(∀t∈x.2,tT d t)∧1≤x.1∧x.1≤999
def Kk (d:Nat):List jO→Int→Prop
 | [],n=>n= -1
 |x::r,n=>x.1=1∧(∀y∈x::r,Fq d y)∧ -999≤n∧n≤999
inductive vY (C G Pc Fo R:Addr) (d:Nat) (vs:List V) (H:Hp) (Q:VK) (E:XK):Prop
 |mk (r:Addr) (x:Str) (p:Nat) (post:List Nat) (dU:vs=[.ref r]) (dW:dh R H r x p) (d5:Here x p [101,94,45] post) (fe:x.length≤1000) (gH:∀f H',H f=none→OA C G Pc Fo d H H' f [] (-1)→dh R H' r x (p+3)→Kept r H H'→Q (.ref f) H')
def o7 (C G Pc Fo R:Addr) (d:Nat):Sp:=vY C G Pc Fo R d
inductive Dp (C G Pc Fo R:Addr) (d:Nat) (vs:List V) (H:Hp) (Q:VK) (E:XK):Prop
 |mk (r:Addr) (x:Str) (p:Nat) (xs:List jO) (n:Int) (post:List Nat) (dU:vs=[.ref r]) (dW:dh R H r x p) (d5:Here x p (wL d xs n) post) (fe:Eu post) (gH:Kk d xs n) (jb:d≤4) (nM:x.length≤1000) (su:∀f H',H f=none→OA C G Pc Fo d H H' f xs n→dh R H' r x (p+(wL d xs n).length)→Kept r H H'→Q (.ref f) H')
def q9 (C G Pc Fo R:Addr) (d:Nat):Sp:=Dp C G Pc Fo R d
structure lC (K:PySem.W.Frag) (mg:Str→Option Value) (C R G Pc Fo:Addr) (uK uN uB uE uM uC uP uI uD uL uT:Tok):Prop extends qU K mg C R G uK uN uB uE uM,Su K mg C R uK uN uC uP uI where
 dj:sR K Pc
 bL:sR K Fo
 oB:cE K Pc "parts"
 oC:cE K Pc "count"
 jy:cE K Fo "pieces"
 lZ:cE K Fo "charge"
 Bd:mg "Piece" =some (.ref Pc)
 tZ:mg "Formula" =some (.ref Fo)
 ka:mg "PIECE_DOT" =some (.str "." uD)
 l6:mg "ELECTRON" =some (.str "e^-" uL)
 rf:mg "LONGEST_TEXT" =some (.int 400 uT)
 n_list:mg "list" =none
 F4:mg "abs" =none
theorem eE:("e^-" :Str)=⟨#[101,94,45]⟩:=by decide+kernel
theorem xW {x:Str} {l:List Nat} (h:x.cps.toList=l):Here x 0 l []:=⟨Nat.zero_le _,by rw[List.drop_zero,h,List.append_nil]⟩
theorem xX:ay ["self"] ["self"] (aj g7):=dq
variable {uC uP uI uD uL uT:Tok}
theorem nq (d:Nat) (D:bb K R "read_electron" "Reader.read_electron" g7 ["self"]) (T:lC K mg C R G Pc Fo uK uN uB uE uM uC uP uI uD uL uT) (c1:aM P w K mg base 3 R "take_all" ["self","signs"] (kZ R)) (c2:gG P w K mg base 1 Fo ["self","pieces","charge"] [0] (vX Fo)):
  aM P w K mg base 4 R "read_electron" ["self"] (o7 C G Pc Fo R d):=by
 obtain⟨_,_,aV⟩:=c1
 obtain⟨_,_,bL⟩:=c2
 obtain⟨_,kb,kd⟩:=bL.b 1 (by decide)
 refine D.cY xX (fun vs H Q E h=>?_) (fun f bg A outer s H vs Q E hr h=>?_)
 ·obtain⟨r,x,p,post,rfl,_⟩:=h
  rfl
 ·obtain⟨r,x,p,post,rfl,⟨dx,hR⟩,t4,hx,q⟩:=h
  refine⟨_,(ai
     (bw (bU (pv 0) T.ax aV.m aV.ok (hr.mono (by decide)) aV.b .nil aA (aa (bp (v:= .str "e^-") rfl T.l6 ⟨_,rfl⟩) ak)))
    (ao
     (aE (f6 bL.m bL.ok (hr.mono (by decide)) rfl T.tZ kd kb aA (aa (cu ak) (aa (lF iQ aq) ak)))))),?_⟩
  have ee:("e^-" :Str).cps.toList=[101,94,45]:=by decide+kernel
  have ea:("e^-" :Str).cps.all (· <128)=true:=by decide+kernel
  have el:("e^-" :Str).length=3:=by decide+kernel
  refine⟨_,rfl,r,dx,_,rfl,hR,aJ _ _ (by decide+kernel) (by decide+kernel),r,x,p,_,post,rfl,ea,⟨dx,hR⟩,by rw[ee];exact t4,hx,fun H1 eL k1=>?_⟩
  obtain⟨nN,eL⟩:=eL
  refine⟨(by show 0≤sizeLine;decide),fun l hl=>⟨1,rfl,fun g dg ng zN neg=>⟨g,dg,l, -1,[],rfl,af,?_,fun m H5 hm hg QQ kp=>⟨rfl,?_⟩⟩⟩⟩
  ·rw[ah (ag af ng),ah (ag af zN)];exact af
  have sl:au H1 (upd H1 l (.lst [])):=au.new hl
  have s5:au (upd H1 l (.lst [])) H5:=fun b o z=>kp b o (by rw[ah (ag z ng),ah (ag z zN)];exact z) (ag z ng)
  have kf:Kept r H (upd H1 l (.lst [])):=k1.trans (Kept.of sl)
  have YR:=sl _ _ eL
  refine q g H5 (a5 kf YR ng) (fun cp ke=>⟨dg,m,[],ke _ _ (a5 kf YR ng) hg,ke _ _ (a5 kf YR (fZ hm)) QQ, .nil⟩) ⟨nN,?_⟩ (kf.trans (Kept.of s5))
  rw[s5 _ _ YR,el]
variable {uC uP uI uD uL uT:Tok}
theorem vZ {α:Type} (f:α→List Nat) {x:Str} {p:Nat} {ts:List α} {post:List Nat} {i:Nat} (h:Here x p (ts.flatMap f) post) (hi:i<ts.length):Here x (p+((ts.take i).flatMap f).length) (f ts[i]) ((ts.drop (i+1)).flatMap f++post):=by
 have e:ts.flatMap f=(ts.take i).flatMap f++(f ts[i]++(ts.drop (i+1)).flatMap f):=by
  conv=>lhs;rw[list_at hi]
  rw[List.flatMap_append,List.flatMap_cons]
 have h1:=Here.on (t:=(ts.take i).flatMap f) (e▸h)
 exact⟨h1.1,by rw[h1.2,List.append_assoc]⟩
theorem wa {α:Type} (f:α→List Nat) {ts:List α} {i:Nat} (hi:i<ts.length):(ts.take (i+1)).flatMap f=(ts.take i).flatMap f++f ts[i]:=by
 rw[List.take_add_one,List.getElem?_eq_getElem hi]
 show (ts.take i++[ts[i]]).flatMap f=_
 rw[List.flatMap_append,List.flatMap_cons,List.flatMap_nil,List.append_nil]
theorem Be (n:Int):i9 n=[]∨∃r,i9 n=94::r:=by
 unfold i9
 split
 ·exact .inl rfl
 ·exact .inr ⟨_,rfl⟩
theorem t7 {c:Nat} {l:List Nat} (h:c=46∨c=94):Stop (c::l):=by
 refine⟨?_,?_,?_,?_⟩<;>(intro b hb;have e:c=b:=by simpa using hb)<;>subst e<;>rcases h with rfl|rfl<;>decide
theorem t8 (d:Nat) (xs:List jO) (n:Int) {post:List Nat} (IU:Eu post):Stop (cR d xs++(i9 n++post)):=by
 cases xs with
 |nil=>
  show Stop (i9 n++post)
  rcases Be n with e| ⟨r,e⟩
  ·rw[e];exact IU.stop
  ·rw[e];exact t7 (.inr rfl)
 |cons x r=>exact t7 (.inl rfl)
theorem wb (d:Nat):∀xs:List jO,xs.length≤(cR d xs).length
 | []=>Nat.le_refl _
 |y::r=>by
  have ih:=wb d r
  show r.length+1≤(46::lH d y++cR d r).length
  rw[List.length_append,List.length_cons]
  omega
theorem YS:("." :Str)=⟨#[46]⟩:=by decide+kernel
theorem rg:ay ["self","pieces","count"] ["self"] (aj mL):=dq
theorem t9 (d:Nat) (D:bb K R "read_whole" "Reader.read_whole" mL ["self"]) (T:lC K mg C R G Pc Fo uK uN uB uE uM uC uP uI uD uL uT) (c1:aM P w K mg base 1 R "sign" ["self"] (jt R)) (c2:aM P w K mg base 2 R "take" ["self","sign"] (lX R)) (c3:aM P w K mg base 3 R "read_count" ["self"] (i8 R)) (c4:aM P w K mg base (3*d+6) R "read_parts" ["self","around"] (nh C G R d))
  (c5:aM P w K mg base 4 R "read_charge" ["self"] (tX R)) (c6:aM P w K mg base 4 R "read_electron" ["self"] (o7 C G Pc Fo R d)) (c7:gG P w K mg base 1 Pc ["self","parts","count"] [1] (ni Pc)) (c8:gG P w K mg base 1 Fo ["self","pieces","charge"] [0] (vX Fo)):
  aM P w K mg base (3*d+7) R "read_whole" ["self"] (q9 C G Pc Fo R d):=by
 obtain⟨_,_,aw⟩:=c1
 obtain⟨_,_,aH⟩:=c2
 obtain⟨_,_,aN⟩:=c3
 obtain⟨_,_,a8⟩:=c4
 obtain⟨_,_,dP⟩:=c5
 obtain⟨_,_,dk⟩:=c6
 obtain⟨_,_,dj⟩:=c7
 obtain⟨_,_,bL⟩:=c8
 obtain⟨_,Dq,Dr⟩:=dj.b 0 (by decide)
 obtain⟨_,Ds,Dt⟩:=dj.b 1 (by decide)
 obtain⟨_,kb,kd⟩:=bL.b 1 (by decide)
 refine D.cY rg (fun vs H Q E h=>?_) (fun f bg A outer s H vs Q E hr h=>?_)
 ·obtain⟨r,x,p,xs,n,post,rfl,_⟩:=h
  rfl
 ·obtain⟨r,x,p,xs,n,post,rfl,⟨dx,hR⟩,t4,IU,aX,OB,hx,q⟩:=h
  have big:(2000 :Nat)≤sizeLine:=by decide
  refine⟨_,(ai
     (bE (aO dJ (aP (pv 0) T.ax aw.m aw.ok (hr.mono (by omega)) aw.b .nil aA) (cF u7 (bp (v:= .str "e^-") rfl T.l6 ⟨_,rfl⟩) aq (fun _ _=>rfl)) (aQ _))
      (ao
       (aE (aP (pv 0) T.ax dk.m dk.ok (hr.mono (by omega)) dk.b .nil aA)))
      aS)
    (ai
     (aB (i:=1) rg.nd rfl (Or.inl rfl) (cu (aa (f6 dj.m dj.ok (hr.mono (by omega)) rfl T.Bd Dr Dq aA (aa (bU (pv 0) T.ax a8.m a8.ok (hr.mono (by omega)) a8.b .nil aA (aa aq ak)) ak)) ak)))
    (ai
     (iZ PassesOwn.never (aO dJ (aP (pv 0) T.ax aw.m aw.ok (hr.mono (by omega)) aw.b .nil aA) (bp (v:= .str ".") rfl T.ka ⟨_,rfl⟩) (aQ _))
      (ai
       (bw (bU (pv 0) T.ax aH.m aH.ok (hr.mono (by omega)) aH.b .nil aA (aa (bp (v:= .str ".") rfl T.ka ⟨_,rfl⟩) ak)))
      (ai
       (aB (i:=2) rg.nd rfl (Or.inl rfl) (aP (pv 0) T.ax aN.m aN.ok (hr.mono (by omega)) aN.b .nil aA))
      (ao
       (bw (iB PySem.F.plainAttrs_list PySem.F.slot_list_append PySem.F.type_list_append dv (pv 1) (aa (f6 dj.m dj.ok (hr.mono (by omega)) rfl T.Bd Dt Ds aA (aa (bU (pv 0) T.ax a8.m a8.ok (hr.mono (by omega)) a8.b .nil aA (aa aq ak)) (aa (pv 2) ak))) ak)))))))
    (ao
     (aE (f6 bL.m bL.ok (hr.mono (by omega)) rfl T.tZ kd kb aA (aa (pv 1) (aa (aP (pv 0) T.ax dP.m dP.ok (hr.mono (by omega)) dP.b .nil aA) ak)))))))),?_⟩
  refine⟨_,rfl,r,dx,_,rfl,hR,aJ _ _ (by decide+kernel) (by decide+kernel),r,x,p,rfl,⟨dx,hR⟩,t4.1,hx,"e^-",0,101,rfl,rfl,(by decide+kernel),(by decide+kernel),rfl,_,rfl,?_⟩
  cases xs with
  |nil=>
   have hn:n= -1:=aX
   subst hn
   have t4:Here x p [101,94,45] post:=t4
   refine vd (by rw[t4.sg]) ?_
   exact⟨_,rfl,r,dx,_,rfl,hR,aJ _ _ (by decide+kernel) (by decide+kernel),r,x,p,post,rfl,⟨dx,hR⟩,t4,hx,q⟩
  |cons x0 r0=>
   obtain⟨h01,Du,n1,n2⟩:=aX
   have OC:=Du x0 (List.mem_cons_self ..)
   have hw:Here x p (x0.2.flatMap (b9 d)++(cR d r0++i9 n)) post:=t4
   have F2:Here x p (x0.2.flatMap (b9 d)) (cR d r0++(i9 n++post)):=⟨hw.1,by rw[hw.2,List.append_assoc,List.append_assoc]⟩
   have hb:Here x (p+(x0.2.flatMap (b9 d)).length) (cR d r0++i9 n) post:=Here.on hw
   have Ep:Here x (p+(x0.2.flatMap (b9 d)).length) (cR d r0) (i9 n++post):=⟨hb.1,by rw[hb.2,List.append_assoc]⟩
   have ne:¬V.str (eR x p)=V.str (⟨#[101]⟩:Str):=by
    have t0:0<x0.2.length:=List.length_pos_iff.mpr OC.1
    obtain⟨c,rest,hc,ht⟩:=oA (OC.2.1 _ (List.getElem_mem t0))
    have h2:=zO F2 t0
    have Mg:eR x p=⟨#[c]⟩:=Here.sg (t:=rest) (hc▸h2)
    rw[Mg]
    refine pW ?_
    rcases ht with ⟨hg,_⟩ | ⟨rfl,_⟩
    ·intro z
     subst z
     simp [Es] at hg
    ·decide
   refine qy ne ?_
   refine⟨_,rfl,r,dx,_,rfl,hR,aJ _ _ (by decide+kernel) (by decide+kernel),r,x,p,0,x0.2,_,rfl,⟨dx,hR⟩,F2,OC.1,OC.2.1,by omega,t8 d r0 n IU,hx,fun l H1 hN eL k1=>?_⟩
   obtain⟨nN,eL⟩:=eL
   obtain⟨hl0,ps0,AU,hps0⟩:=hN
   refine fun g dg ng zN neg=>⟨g,dg,l,1,ps0.map V.ref,rfl,af,?_,fun m H2 hm hg QQ kp=>⟨rfl,(by show 1≤sizeLine;decide),fun L hL=>?_⟩⟩
   ·rw[ah (ag AU ng),ah (ag AU zN)];exact AU
   have s2:au H1 H2:=fun b o z=>kp b o (by rw[ah (ag z ng),ah (ag z zN)];exact z) (ag z ng)
   have iw:=s2 _ _ eL
   have k2:Kept r H H2:=k1.trans (Kept.of s2)
   have xc:H L=none:=a5 k2 iw hL
   have xV:L≠r:=fun z=>by rw[z,iw] at hL;cases hL
   have sL:au H2 (upd H2 L (.lst [V.ref g])):=au.new hL
   have ng0:=a5 k1 eL ng
   have nm0:=a5 k1 eL (fZ hm)
   have first:Sx C G Pc L d H (upd H2 L (.lst [V.ref g])) g x0:=fun cp ke=>by
    refine⟨dg,m,ps0,?_,ke _ _ nm0 (ag QQ hL) (sL _ _ QQ),hps0 cp fun b o z1 z2=>ke b o z1 (ag (s2 _ _ z2) hL) (sL _ _ (s2 _ _ z2))⟩
    rw[h01]
    exact ke _ _ ng0 (ag hg hL) (sL _ _ hg)
   refine⟨fun k σ H'=>∃i:Nat,k+i=r0.length∧(∃v:Option V,σ=[some (.ref r),some (.ref L),v])∧dh R H' r x (p+(x0.2.flatMap (b9 d)).length+(cR d (r0.take i)).length)∧Kept r H H'∧∃ps,H' L=some (.lst (ps.map V.ref))∧ps.length=i+1∧Paired (Sx C G Pc L d H H') ps (x0::r0.take i),⟨r0.length,0,by omega,⟨none,rfl⟩,?_,k2.trans (Kept.of sL),[g],af,rfl, .cons first .nil⟩,?_⟩
   ·exact⟨nN,sL _ _ iw⟩
   rintro k σ H' ⟨i,hk,⟨v,rfl⟩,⟨dH,eD⟩,kk,ps,pV,iu,hP⟩
   have hle:=Ep.le
   have yM:(cR d (r0.take i)).length≤(cR d r0).length:=by
    unfold cR
    conv=>rhs;rw[←List.take_append_drop i r0,List.flatMap_append,List.length_append]
    omega
   have hr0:=wb d r0
   refine⟨_,rfl,r,dH,_,rfl,eD,aJ _ _ (by decide+kernel) (by decide+kernel),r,x,_,rfl,⟨dH,eD⟩,by omega,hx,rfl,_,rfl,?_⟩
   by_cases hi:i<r0.length
   ·have h2:Here x (p+(x0.2.flatMap (b9 d)).length+(cR d (r0.take i)).length) (46::(aR r0[i].1++r0[i].2.flatMap (b9 d))) (cR d (r0.drop (i+1))++(i9 n++post)):=vZ (fun x=>46::lH d x) Ep hi
    have Kl:=Du _ (List.mem_cons_of_mem _ (List.getElem_mem hi))
    have h3:Here x (p+(x0.2.flatMap (b9 d)).length+(cR d (r0.take i)).length+1) (aR r0[i].1++r0[i].2.flatMap (b9 d)) (cR d (r0.drop (i+1))++(i9 n++post)):=Here.on (t:=[46]) h2
    have h4:Here x (p+(x0.2.flatMap (b9 d)).length+(cR d (r0.take i)).length+1) (aR r0[i].1) (r0[i].2.flatMap (b9 d)++(cR d (r0.drop (i+1))++(i9 n++post))):=⟨h3.1,by rw[h3.2,List.append_assoc]⟩
    have h5:Here x (p+(x0.2.flatMap (b9 d)).length+(cR d (r0.take i)).length+1+(aR r0[i].1).length) (r0[i].2.flatMap (b9 d)) (cR d (r0.drop (i+1))++(i9 n++post)):=Here.on h3
    have st:=t8 d (r0.drop (i+1)) n IU
    have nn:=qX Kl.2.1 st
    refine vd (by rw[h2.sg,YS]) ?_
    refine⟨_,fun σ' cp h=>⟨k - 1,by omega,h⟩,?_⟩
    refine⟨_,rfl,r,dH,_,rfl,eD,aJ _ _ (by decide+kernel) (by decide+kernel),r,x,_,_,46,_,_,rfl,YS,⟨dH,eD⟩,h2,hx,fun H3 ix k3=>?_⟩
    obtain⟨sf,ix⟩:=ix
    refine⟨_,rfl,r,sf,_,rfl,ix,aJ _ _ (by decide+kernel) (by decide+kernel),r,x,_,r0[i].1,_,rfl,⟨sf,ix⟩,h4,Kl.2.2.1,Kl.2.2.2,nn.1,hx,fun H4 tU k4=>?_⟩
    obtain⟨IT,tU⟩:=tU
    have Km:=k3.trans k4
    have Bf:=Km _ _ pV xV
    refine⟨_,rfl, .inl ⟨rfl,_,bS.of Bf⟩,_,rfl,r,IT,_,rfl,tU,aJ _ _ (by decide+kernel) (by decide+kernel),r,x,_,0,r0[i].2,_,rfl,⟨IT,tU⟩,h5,Kl.1,Kl.2.1,by omega,st,hx,fun l' H5 hN' F5 k5=>?_⟩
    obtain⟨dx5,F5⟩:=F5
    obtain⟨hl0',QS,OD,hps'⟩:=hN'
    refine⟨_,rfl,fun g' Sy Ew F6 neg'=>⟨g',Sy,l',r0[i].1,QS.map V.ref,rfl,af,?_,fun m' H6 QP Bg OE kp'=>⟨rfl,?_⟩⟩⟩
    ·rw[ah (ag OD Ew),ah (ag OD F6)];exact OD
    have s6:au H5 H6:=fun b o z=>kp' b o (by rw[ah (ag z Ew),ah (ag z F6)];exact z) (ag z Ew)
    have k36:Kept r H' H6:=(Km.trans k5).trans (Kept.of s6)
    have sy:=k5 _ _ Bf xV
    have Kn:=s6 _ _ sy
    have k45:Kept r H H4:=kk.trans Km
    have k55:Kept r H H5:=k45.trans k5
    refine⟨L,_,_,rfl,rfl,Kn,by rw[List.length_map];omega,i+1,by omega,⟨_,rfl⟩,⟨dx5,?_⟩,fun b o z w=>?_,ps++[g'],by rw[af,List.map_append];rfl,by rw[List.length_append,iu];rfl,?_⟩
    ·rw[ah (Ne.symm xV),s6 _ _ F5]
     have e:=wa (fun x=>46::lH d x) hi
     have e':(cR d (r0.take (i+1))).length=(cR d (r0.take i)).length+((aR r0[i].1).length+(r0[i].2.flatMap (b9 d)).length+1):=by
      unfold cR
      rw[e,List.length_append,List.length_cons]
      unfold lH
      rw[List.length_append]
     rw[e']
     congr 3
     omega
    ·rw[ah (ag z xc)]
     exact k36 _ _ (kk _ _ z w) w
    ·rw[List.take_add_one,List.getElem?_eq_getElem hi]
     refine bK (as:=ps) (bs:=x0::r0.take i) (fun cp ke=>?_) (aL (fun c t h cp ke=>h cp fun b o z1 z2 z3=>ke b o z1 z2 ?_) hP)
     ·have u:∀{b o},H6 b=some o→b≠L→(upd H6 L (.lst (ps.map V.ref++[V.ref g']))) b=some o:=fun {b o} z w=>by rw[ah w];exact z
      have ngL:g'≠L:=fun z=>by rw[z,sy] at Ew;cases Ew
      have nm5:=fZ QP
      have nmL:m'≠L:=fun z=>by rw[z,sy] at nm5;cases nm5
      refine⟨Sy,m',QS,ke _ _ (a5 k55 F5 Ew) ngL (u Bg ngL),ke _ _ (a5 k55 F5 nm5) nmL (u OE nmL),hps' cp fun b o z1 z2=>?_⟩
      have Bc:b≠L:=fun z=>by rw[z,Bf] at z1;cases z1
      exact ke b o (a5 k45 tU z1) Bc (u (s6 _ _ z2) Bc)
     ·have yQ:b≠r:=fun z=>by rw[z,hR] at z1;cases z1
      rw[ah z2]
      exact k36 _ _ z3 yQ
   ·have ei:i=r0.length:=by omega
    rw[ei,List.take_length] at eD hP ⊢
    have h3:Here x (p+(x0.2.flatMap (b9 d)).length+(cR d r0).length) (i9 n) post:=Here.on hb
    have ne2:¬V.str (eR x (p+(x0.2.flatMap (b9 d)).length+(cR d r0).length))=V.str "." :=by
     rw[YS]
     rcases Be n with e| ⟨rr,e⟩
     ·rw[e] at h3
      rw[h3.Oo]
      exact IU.ne (by decide)
     ·rw[e] at h3
      rw[h3.sg]
      exact pW (by decide)
    refine qy ne2 ?_
    refine⟨_,rfl,_,rfl,r,dH,_,rfl,eD,aJ _ _ (by decide+kernel) (by decide+kernel),r,x,_,n,post,rfl,⟨dH,eD⟩,h3,IU,n1,n2,hx,fun H3 ix k3=>?_⟩
    obtain⟨sf,ix⟩:=ix
    have nu:=k3 _ _ pV xV
    have YT:=kk.trans k3
    refine fun g' Sy Ew F6 neg'=>⟨g',Sy,L,n,ps.map V.ref,rfl,af,?_,fun m' H6 QP Bg OE kp'=>⟨rfl,?_⟩⟩
    ·rw[ah (ag nu Ew),ah (ag nu F6)];exact nu
    have s6:au H3 H6:=fun b o z=>kp' b o (by rw[ah (ag z Ew),ah (ag z F6)];exact z) (ag z Ew)
    refine q g' H6 (a5 YT ix Ew) (fun cp ke=>?_) ⟨sf,?_⟩ (YT.trans (Kept.of s6))
    ·refine⟨Sy,m',ps,ke _ _ (a5 YT ix Ew) Bg,ke _ _ (a5 YT ix (fZ QP)) OE,aL (fun c t h=>h cp fun b o z1 z2 z3=>ke b o z1 ?_) hP⟩
     have yQ:b≠r:=fun z=>by rw[z,hR] at z1;cases z1
     exact s6 _ _ (k3 _ _ z3 yQ)
    ·rw[s6 _ _ ix]
     rw[show wL d (x0::r0) n=x0.2.flatMap (b9 d)++(cR d r0++i9 n) from rfl,List.length_append,List.length_append]
     congr 3
     omega
variable {uC uP uI uD uL uT:Tok}
inductive zQ (vs:List V) (H:Hp) (Q:VK) (E:XK):Prop
 |mk (x:Str) (dU:vs=[.str x]) (dW:x.length≤400) (d5:Q .cI H)
def oE:Sp:=zQ
inductive F7 (C G Pc Fo:Addr) (d:Nat) (vs:List V) (H:Hp) (Q:VK) (E:XK):Prop
 |mk (x:Str) (xs:List jO) (n:Int) (dU:vs=[.str x]) (dW:x.cps.toList=wL d xs n) (d5:Kk d xs n) (fe:d≤4) (gH:x.length≤400) (jb:∀f H',H f=none→OA C G Pc Fo d H H' f xs n→au H H'→Q (.ref f) H')
def Bh (C G Pc Fo:Addr) (d:Nat):Sp:=F7 C G Pc Fo d
theorem Dv:ay ["text"] ["text"] (aj mH):=dq
theorem zR (D:Def K mg "refuse_too_long" "refuse_too_long" mH ["text"]) (T:lC K mg C R G Pc Fo uK uN uB uE uM uC uP uI uD uL uT):a9 P w K mg base 1 "refuse_too_long" ["text"] oE:=by
 refine D.cY Dv (fun vs H Q E h=>?_) (fun f bg A outer s H vs Q E hr h=>?_)
 ·obtain⟨x,rfl,_⟩:=h
  rfl
 ·obtain⟨x,rfl,hx,q⟩:=h
  refine⟨_,(ao
     (bE (aO jM (cj jj rfl T.mX jm (aa (pv 0) ak)) (bp (v:= .int 400) rfl T.rf ⟨_,rfl⟩) (aQ _))
      (ao
       gg)
      aS)),?_⟩
  exact⟨_,rfl,x,rfl,Nat.le_trans hx (by decide),_,_,rfl,rfl,_,rfl,qy (by omega) q⟩
structure Sz (K:PySem.W.Frag) (mg:Str→Option Value) (C R G Pc Fo:Addr) (uK uN uB uE uM uC uP uI uD uL uT:Tok):Prop extends lC K mg C R G Pc Fo uK uN uB uE uM uC uP uI uD uL uT where
 F8:mg "Reader" =some (.ref R)
theorem l7:ay ["text","reader","formula"] ["text"] (aj kT):=dq
theorem xY (d:Nat) (D:Def K mg "read_formula" "read_formula" kT ["text"]) (T:Sz K mg C R G Pc Fo uK uN uB uE uM uC uP uI uD uL uT) (c1:a9 P w K mg base 1 "refuse_too_long" ["text"] oE) (c2:gG P w K mg base 1 R ["self","text"] [] (vS R)) (c3:aM P w K mg base (3*d+7) R "read_whole" ["self"] (q9 C G Pc Fo R d)) (c4:aM P w K mg base 1 R "take_end" ["self"] (tP R)):
  a9 P w K mg base (3*d+8) "read_formula" ["text"] (Bh C G Pc Fo d):=by
 obtain⟨_,_,bA⟩:=c1
 obtain⟨_,_,ax⟩:=c2
 obtain⟨_,_,bH⟩:=c3
 obtain⟨_,_,fF⟩:=c4
 obtain⟨_,zS,zT⟩:=ax.b 0 (by decide)
 refine D.cY l7 (fun vs H Q E h=>?_) (fun f bg A outer s H vs Q E hr h=>?_)
 ·obtain⟨x,xs,n,rfl,_⟩:=h
  rfl
 ·obtain⟨x,xs,n,rfl,t4,aX,OB,hx,q⟩:=h
  refine⟨_,(ai
     (bw (aF bA.ok (hr.mono (by omega)) rfl bA.g bA.kp bA.b .nil aA (aa (pv 0) ak)))
    (ai
     (aB (i:=1) l7.nd rfl (Or.inl rfl) (f6 ax.m ax.ok (hr.mono (by omega)) rfl T.F8 zT zS aA (aa (pv 0) ak)))
    (ai
     (aB (i:=2) l7.nd rfl (Or.inl rfl) (aP (pv 1) T.ax bH.m bH.ok (hr.mono (by omega)) bH.b .nil aA))
    (ai
     (bw (aP (pv 1) T.ax fF.m fF.ok (hr.mono (by omega)) fF.b .nil aA))
    (ao
     (aE (pv 2))))))),?_⟩
  refine⟨_,rfl,x,rfl,hx,?_⟩
  refine⟨_,rfl,fun r dr nr ndr ner=>⟨r,dr,x,rfl,af,fun H1 eL k1=>⟨rfl,?_⟩⟩⟩
  obtain⟨nN,eL⟩:=eL
  have s1:au H H1:=fun b o z=>k1 b o (by rw[ah (ag z nr),ah (ag z ndr)];exact z) (ag z nr)
  refine⟨_,rfl,r,nN,_,rfl,eL,aJ _ _ (by decide+kernel) (by decide+kernel),r,x,0,xs,n,[],rfl,⟨nN,eL⟩,xW t4, .inl rfl,aX,OB,by omega,fun f H2 nf hF iw k2=>?_⟩
  obtain⟨pU,iw⟩:=iw
  have hxe:0+(wL d xs n).length=x.length:=by rw[←t4];simp [Str.length]
  rw[hxe] at iw
  have back:∀b,H1 b=none→H b=none:=fun b z=>by
   cases hh:H b with
   |none=>rfl
   |some o=>rw[s1 _ _ hh] at z;cases z
  refine⟨_,rfl,r,pU,_,rfl,iw,aJ _ _ (by decide+kernel) (by decide+kernel),r,x,rfl,⟨pU,iw⟩,by omega,?_⟩
  exact⟨_,rfl,q f H2 (back f nf) (fun cp ke=>hF cp fun b o z1 z2=>ke b o (back b z1) z2) fun b o z=>k2 b o (s1 _ _ z) (ag z nr)⟩
theorem bB (a b:List Nat):(⟨a.toArray⟩:Str)++⟨b.toArray⟩=⟨(a++b).toArray⟩:=by
 show (⟨a.toArray++b.toArray⟩:Str)=_
 simp
theorem Bi (d:Nat):∀ts:List Tr,jn (ts.map fun t=>(⟨(b9 d t).toArray⟩:Str))=⟨(ts.flatMap (b9 d)).toArray⟩
 | []=>rfl
 |t::ts=>by
  rw[List.map_cons,J4,Bi d ts,bB,List.flatMap_cons]
theorem bh (a:List Nat):(⟨a.toArray⟩:Str).length=a.length:=by simp [Str.length]
theorem cS (n:Int):fb n=⟨(aR n).toArray⟩:=by
 apply mY
 simp [aR]
theorem wc {d:Nat} {ts:List Tr} {t:Tr} (h:t∈ts):(b9 d t).length≤(ts.flatMap (b9 d)).length:=by
 obtain⟨s,r,rfl⟩:=List.append_of_mem h
 rw[List.flatMap_append,List.flatMap_cons,List.length_append,List.length_append]
 omega
def oF (C G:Addr):Nat→Sp
 |0=>fun _ _ _ _=>False
 |d+1=>fun vs H Q _=>∃(g:Addr) (ts:List Tr) (n:Int),vs=[.ref g]∧eS C G (d+1) H g (.gr ts n)∧tT (d+1) (.gr ts n)∧(b9 (d+1) (.gr ts n)).length≤1000∧∀H',au H H'→Q (.str ⟨(b9 (d+1) (.gr ts n)).toArray⟩) H'
inductive zU (C G:Addr) (d:Nat) (vs:List V) (H:Hp) (Q:VK) (E:XK):Prop
 |mk (l:Addr) (ps:List Addr) (ts:List Tr) (dU:vs=[.ref l]) (dW:H l=some (.lst (ps.map V.ref))) (d5:Paired (eS C G d H) ps ts) (fe:(∀t∈ts,tT d t)) (gH:(ts.flatMap (b9 d)).length≤1000) (jb:∀H',au H H'→Q (.str ⟨(ts.flatMap (b9 d)).toArray⟩) H')
def k7 (C G:Addr) (d:Nat):Sp:=zU C G d
theorem eS.same {C G:Addr}:∀{d:Nat} {H H':Hp} {p:Addr} {t:Tr},eS C G d H p t→au H H'→eS C G d H' p t
 |0,H,H',p, .one k n,h,e=>gC.same h e
 |d+1,H,H',p, .one k n,h,e=>gC.same (C:=C) (k:=⟨k.toArray⟩) (n:=n) h e
 |0,_,_,_, .gr _ _,h,_=>h.elim
 |d+1,H,H',p, .gr ts n,⟨dx,l,ps,h1,h2,h3⟩,e=>⟨dx,l,ps,e _ _ h1,e _ _ h2,aL (fun a b h=>eS.same h e) h3⟩
theorem bI {α β:Type} {p:α→β→Prop}:∀{as:List α} {bs:List β} {i:Nat} {a:α},Paired p as bs→as[i]? =some a→∃b,bs[i]? =some b∧p a b
 |_,_,_,_, .nil,h=>by simp at h
 |_,_,0,_, .cons h _,e=>⟨_,rfl,by have e:=Option.some.inj e;rw[←e];exact h⟩
 |_,_,i+1,_, .cons _ t,e=>bI (i:=i) t e
theorem F9:ay ["parts"] ["parts"] (aj kQ):=dq
theorem Ko {k:List Nat} (h:lY k):(⟨k.toArray⟩:Str).length≤3:=by
 obtain⟨c,r,rfl,_,_,hl⟩:=h
 rw[bh,List.length_cons]
 omega
theorem rh (d:Nat) (D:Def K mg "parts_shown" "parts_shown" kQ ["parts"]) (T:qU K mg C R G uK uN uB uE uM) (c1:aM P w K mg base 2 C "shown" ["self"] (vM C)) (c2:aM P w K mg base (2*d+2) G "shown" ["self"] (oF C G d)):a9 P w K mg base (2*d+3) "parts_shown" ["parts"] (k7 C G d):=by
 obtain⟨_,_,jz⟩:=c1
 obtain⟨_,_,iU⟩:=c2
 refine D.cY F9 (fun vs H Q E h=>?_) (fun f bg A outer s H vs Q E hr h=>?_)
 ·obtain⟨l,ps,ts,rfl,_⟩:=h
  rfl
 ·obtain⟨l,ps,ts,rfl,hl,hP,aX,hz,q⟩:=h
  have big:(2000 :Nat) <sizeLine:=by decide
  have hfl:=qW aX
  have lp:ps.length=ts.length:=Paired.length hP
  refine⟨_,(ao
     (aE (iB PySem.F.plainAttrs_str PySem.F.slot_str_join PySem.F.type_str_join pH bG (aa (fB (sc:=(aj kQ)) (NX:=["parts"]) (N:=["part"]) (fr:=[none]) ⟨by rfl,by rfl,by decide+kernel,by decide+kernel,by decide+kernel,by rfl,by decide+kernel⟩ rfl rfl rfl (cG (pv 0)) (fun _ _ _ _=>(aK (i:=0) (show (["part"]:List Str).Nodup by decide+kernel) rfl (Or.inl rfl) (Or.inr rfl))) (fun _ _ _ _=>f7) (fun _ _ _ _=>(E6 (aP (pv 0) T.gD jz.m jz.ok (hr.mono (by omega)) jz.b .nil aA) (aP (pv 0) T.eN iU.m iU.ok (hr.mono (by omega)) iU.b .nil aA)))) ak)))),?_⟩
  refine⟨rfl,_,rfl,l,rfl,⟨_,bS.of hl⟩,fun D hD=>tE (K:=K) (a:=l) (D:=D) (xs:=ps.map V.ref) (fun i σ H'=>∃v:Option V,σ=[v]∧au H H'∧H' D=some (.lst ((ts.take i).map fun t=>V.str ⟨(b9 d t).toArray⟩)))
   ?_ (fun i σ H' _ ⟨_,_,e,_⟩=>bS.of (e _ _ hl)) ?_ ?_⟩
  ·exact⟨none,rfl,au.new hD,af⟩
  ·rintro i v σ H' hi ⟨v',rfl,e,Bj⟩ N hN
   rw[List.getElem?_map] at hi
   obtain⟨p,hp,rfl⟩:∃p,ps[i]? =some p∧v=V.ref p:=by
    cases hh:ps[i]? with
    |none=>rw[hh] at hi;cases hi
    |some p=>rw[hh] at hi;exact⟨p,rfl,(Option.some.inj hi).symm⟩
   obtain⟨t,ht,hT⟩:=bI hP hp
   have hT:=hT.same e
   have QR:=aX t (List.mem_of_getElem? ht)
   have lt:=Nat.le_trans (wc (d:=d) (List.mem_of_getElem? ht)) hz
   have fin:∀cp,au H' cp→∃ys,cp D=some (.lst ys)∧ys.length<sizeLine∧N [some (V.ref p)] (upd cp D (.lst (ys++[V.str ⟨(b9 d t).toArray⟩]))):=fun cp e'=>by
    refine⟨_,e' _ _ Bj,?_,hN _ _ ⟨_,rfl,fun b o z=>?_,?_⟩⟩
    ·rw[List.length_map]
     have:(ts.take i).length≤ts.length:=List.length_take_le' _ _
     omega
    ·rw[ah (ag z hD)]
     exact e' _ _ (e _ _ z)
    ·rw[af,List.take_add_one,ht,List.map_append]
     rfl
   cases t with
   |one k n=>
    have Mh:lY k∧1≤n∧n≤999:=by cases d<;>exact QR
    have hA:gC C H' p ⟨k.toArray⟩ n:=by cases d<;>exact hT
    have et:(⟨(b9 d (.one k n)).toArray⟩:Str)=⟨k.toArray⟩++fb n:=by
     rw[cS,bB]
     cases d<;>rfl
    obtain⟨dx,pj⟩:=id hA
    have:=fin H' (au.refl _)
    rw[et] at this
    exact Or.inl ⟨_,rfl,p,dx,_,rfl,pj,A3 _ _ (by decide+kernel) (by decide+kernel),p,_,n,rfl,hA,Ko Mh.1,Mh.2.1,Mh.2.2,this⟩
   |gr us n=>
    cases d with
    |zero=>exact QR.elim
    |succ d=>
     obtain⟨dx,l',QS,h1,h2,h3⟩:=id hT
     exact Or.inr ⟨_,rfl,p,dx,_,rfl,h1,mV _ _ (by decide+kernel) (by decide+kernel),p,us,n,rfl,hT,QR,lt,fin⟩
  ·rintro σ H' ⟨v,rfl,e,Bj⟩
   rw[List.length_map,lp,List.take_length] at Bj
   have es:((ts.map fun t=>(⟨(b9 d t).toArray⟩:Str)).map (·.length)).sum=(ts.flatMap (b9 d)).length:=by
    rw[List.map_map,List.length_flatMap]
    congr 1
   refine⟨_,D,ts.map (fun t=>⟨(b9 d t).toArray⟩),rfl,rfl,bS.of (by rw[Bj,List.map_map];rfl),?_,?_⟩
   ·have e0:("" :Str).length=0:=by decide+kernel
    rw[es,e0]
    omega
   ·rw[join_eq,Bi]
    exact q _ e
theorem xZ:ay ["self"] ["self"] (aj kR):=dq
theorem zV (D:bb K G "shown" "Group.shown" kR ["self"]):aM P w K mg base 2 G "shown" ["self"] (oF C G 0):=
 D.cY (k:=1) xZ (fun vs H Q E h=>h.elim) (fun f bg A outer s H vs Q E hr h=>h.elim)
theorem zW (d:Nat) (D:bb K G "shown" "Group.shown" kR ["self"]) (T:qU K mg C R G uK uN uB uE uM) (c1:a9 P w K mg base (2*d+3) "parts_shown" ["parts"] (k7 C G d)) (c2:a9 P w K mg base 1 "count_shown" ["count"] j7):aM P w K mg base (2*d+4) G "shown" ["self"] (oF C G (d+1)):=by
 obtain⟨_,_,b7⟩:=c1
 obtain⟨_,_,aY⟩:=c2
 refine D.cY xZ (fun vs H Q E h=>?_) (fun f bg A outer s H vs Q E hr h=>?_)
 ·obtain⟨g,ts,n,rfl,_⟩:=h
  rfl
 ·obtain⟨g,ts,n,rfl,⟨dx,l,ps,hg,hl,hP⟩,⟨pq,aX,n1,n2⟩,hz,q⟩:=h
  have big:(2000 :Nat)≤sizeLine:=by decide
  have hz:(40::(ts.flatMap (b9 d)++41::aR n)).length≤1000:=hz
  rw[List.length_cons,List.length_append,List.length_cons] at hz
  have e1:("(" :Str).length=1:=by decide+kernel
  have e2:(")" :Str).length=1:=by decide+kernel
  have lf:(fb n).length=(aR n).length:=by rw[cS,bh]
  have ee:(⟨(b9 (d+1) (.gr ts n)).toArray⟩:Str)="(" ++⟨(ts.flatMap (b9 d)).toArray⟩++")" ++fb n:=by
   rw[cS,Ow,e41]
   rw[show (⟨#[40]⟩:Str)=⟨[40].toArray⟩ from rfl,show (⟨#[41]⟩:Str)=⟨[41].toArray⟩ from rfl,bB,bB,bB]
   simp [b9]
  rw[ee] at q
  refine⟨_,(ao
     (aE (az br (az br (az br (bp (v:= .str "(") rfl T.f9 ⟨_,rfl⟩) (aF b7.ok (hr.mono (by omega)) rfl b7.g b7.kp b7.b .nil aA (aa (a0 (pv 0) rfl) ak))) (bp (v:= .str ")") rfl T.oZ ⟨_,rfl⟩)) (aF aY.ok (hr.mono (by omega)) rfl aY.g aY.kp aY.b .nil aA (aa (a0 (pv 0) rfl) ak))))),?_⟩
  refine⟨_,rfl,g,G,dx,_,_,rfl,hg,T.eN,T.ou,iJ _ _,l,ps,ts,rfl,hl,hP,aX,by omega,fun H1 s1=>⟨_,_,rfl,rfl,?_,_,_,rfl,rfl,?_,_,rfl,g,G,dx,_,_,rfl,s1 _ _ hg,T.eN,T.ow,iK _ _,n,rfl,n1,n2,_,_,rfl,rfl,?_,q _ s1⟩⟩
  ·rw[e1,bh]
   omega
  ·rw[bx,e1,e2,bh]
   omega
  ·rw[bx,bx,e1,e2,bh,lf]
   omega
theorem ua (D1:Def K mg "parts_shown" "parts_shown" kQ ["parts"]) (D2:bb K G "shown" "Group.shown" kR ["self"]) (T:qU K mg C R G uK uN uB uE uM) (c1:aM P w K mg base 2 C "shown" ["self"] (vM C)) (c2:a9 P w K mg base 1 "count_shown" ["count"] j7):∀d:Nat,a9 P w K mg base (2*d+3) "parts_shown" ["parts"] (k7 C G d)
 |0=>rh 0 D1 T c1 (zV D2)
 |d+1=>rh (d+1) D1 T c1 (by rw[show 2*(d+1)+2=2*d+4 by omega];exact zW d D2 T (ua D1 D2 T c1 c2 d) c2)
variable {uC uP uI uD uL uT:Tok}
inductive ri (C G Pc:Addr) (d:Nat) (vs:List V) (H:Hp) (Q:VK) (E:XK):Prop
 |mk (q:Addr) (x:jO) (dU:vs=[.ref q]) (dW:jx C G Pc d H q x) (d5:Fq d x) (fe:(lH d x).length≤1000) (gH:∀H',au H H'→Q (.str ⟨(lH d x).toArray⟩) H')
def lI (C G Pc:Addr) (d:Nat):Sp:=ri C G Pc d
theorem wd:ay ["self"] ["self"] (aj iF):=dq
theorem rj (d:Nat) (D:bb K Pc "shown" "Piece.shown" iF ["self"]) (T:lC K mg C R G Pc Fo uK uN uB uE uM uC uP uI uD uL uT) (c1:a9 P w K mg base (2*d+3) "parts_shown" ["parts"] (k7 C G d)) (c2:a9 P w K mg base 1 "count_shown" ["count"] j7):aM P w K mg base (2*d+4) Pc "shown" ["self"] (lI C G Pc d):=by
 obtain⟨_,_,b7⟩:=c1
 obtain⟨_,_,aY⟩:=c2
 refine D.cY wd (fun vs H Q E h=>?_) (fun f bg A outer s H vs Q E hr h=>?_)
 ·obtain⟨p,x,rfl,_⟩:=h
  rfl
 ·obtain⟨p,x,rfl,⟨dx,l,ps,hp,hl,hP⟩,⟨pq,aX,n1,n2⟩,hz,q⟩:=h
  have big:(2000 :Nat)≤sizeLine:=by decide
  have hz':=hz
  unfold lH at hz' q
  rw[List.length_append] at hz'
  have lf:(fb x.1).length=(aR x.1).length:=by rw[cS,bh]
  rw[←bB,←cS] at q
  refine⟨_,(ao
     (aE (az br (aF aY.ok (hr.mono (by omega)) rfl aY.g aY.kp aY.b .nil aA (aa (a0 (pv 0) rfl) ak)) (aF b7.ok (hr.mono (by omega)) rfl b7.g b7.kp b7.b .nil aA (aa (a0 (pv 0) rfl) ak))))),?_⟩
  refine⟨_,rfl,p,Pc,dx,_,_,rfl,hp,T.dj,T.oC,iK _ _,x.1,rfl,n1,n2,_,rfl,p,Pc,dx,_,_,rfl,hp,T.dj,T.oB,iJ _ _,l,ps,x.2,rfl,hl,hP,aX,by omega,fun H1 e1=>⟨_,_,rfl,rfl,?_,q _ e1⟩⟩
  rw[lf,bh]
  omega
inductive zX (vs:List V) (H:Hp) (Q:VK) (E:XK):Prop
 |mk (n:Int) (dU:vs=[.int n]) (dW: -999≤n) (d5:n≤999) (fe:Q (.str ⟨(i9 n).toArray⟩) H)
def ub:Sp:=zX
theorem OF {n:Int} (h1: -999≤n) (h2:n≤999):(i9 n).length≤5:=by
 unfold i9
 split
 ·exact Nat.zero_le _
 ·rename_i h0
  have:=g8 (n:=if n<0 then -n else n) (by split<;>omega) (by split<;>omega)
  rw[cS,bh] at this
  rw[List.length_cons,List.length_append]
  simp
  omega
theorem sA:ay ["charge"] ["charge"] (aj gL):=dq
theorem oG (D:Def K mg "charge_shown" "charge_shown" gL ["charge"]) (T:lC K mg C R G Pc Fo uK uN uB uE uM uC uP uI uD uL uT) (c1:a9 P w K mg base 1 "count_shown" ["count"] j7):a9 P w K mg base 2 "charge_shown" ["charge"] ub:=by
 obtain⟨_,_,aY⟩:=c1
 refine D.cY sA (fun vs H Q E h=>?_) (fun f bg A outer s H vs Q E hr h=>?_)
 ·obtain⟨n,rfl,_⟩:=h
  rfl
 ·obtain⟨n,rfl,h1,h2,q⟩:=h
  have big:(2000 :Nat)≤sizeLine:=by decide
  refine⟨_,(ai
     (bE (aO dJ (pv 0) aq (aQ _))
      (ao
       (aE bG))
      aS)
    (ao
     (aE (az br (az br (bp (v:= .str "^") rfl T.iT ⟨_,rfl⟩) (aF aY.ok (hr.mono (by decide)) rfl aY.g aY.kp aY.b .nil aA (aa (cj xm rfl T.F4 E8 (aa (pv 0) ak)) ak))) (xj (aO jM (pv 0) aq (aQ _)) (bp (v:= .str "+") rfl T.vV ⟨_,rfl⟩) (bp (v:= .str "-") rfl T.vW ⟨_,rfl⟩)))))),?_⟩
  refine⟨_,rfl,rfl,_,rfl,dY (fun e=>?_) fun e=>?_⟩
  ·have e:n=0:=by simpa using e
   subst e
   have e0:(⟨(i9 0).toArray⟩:Str)="" :=by decide+kernel
   rw[e0] at q
   exact q
  ·have e:¬n=0:=by simpa using e
   have a1:1≤(if n<0 then -n else n):=by split<;>omega
   have a2:(if n<0 then -n else n)≤999:=by split<;>omega
   have z:=g8 a1 a2
   have e1:("^" :Str).length=1:=by decide+kernel
   refine⟨_,rfl,n,rfl,_,rfl,a1,a2,_,_,rfl,rfl,by rw[e1];omega,_,rfl,_,_,rfl,rfl,?_⟩
   have ec:(⟨(i9 n).toArray⟩:Str)="^" ++fb (if n<0 then -n else n)++(if 0<n then ("+" :Str) else ("-" :Str)):=by
    unfold i9
    rw[if_neg e,cS,Sv,e43,Sw]
    rw[show (⟨#[94]⟩:Str)=⟨[94].toArray⟩ from rfl,bB]
    by_cases hp:0<n
    ·rw[if_pos hp,if_pos hp,show (⟨#[43]⟩:Str)=⟨[43].toArray⟩ from rfl,bB]
     simp
    ·rw[if_neg hp,if_neg hp,show (⟨#[45]⟩:Str)=⟨[45].toArray⟩ from rfl,bB]
     simp
   rw[ec] at q
   refine⟨_,rfl,dY (fun e=>?_) fun e=>?_⟩
   ·have e:0<n:=by simpa using e
    rw[if_pos e] at q
    refine⟨_,_,rfl,rfl,?_,q⟩
    have e2:("+" :Str).length=1:=by decide+kernel
    rw[bx,e1,e2]
    omega
   ·have e:¬0<n:=by simpa using e
    rw[if_neg e] at q
    refine⟨_,_,rfl,rfl,?_,q⟩
    have e2:("-" :Str).length=1:=by decide+kernel
    rw[bx,e1,e2]
    omega
inductive zY (C G Pc Fo:Addr) (d:Nat) (vs:List V) (H:Hp) (Q:VK) (E:XK):Prop
 |mk (f:Addr) (xs:List jO) (n:Int) (dU:vs=[.ref f]) (dW:o6 C G Pc Fo d H f xs n) (d5:Kk d xs n) (fe:(wL d xs n).length≤1000) (gH:∀H',au H H'→Q (.str ⟨(wL d xs n).toArray⟩) H')
def uc (C G Pc Fo:Addr) (d:Nat):Sp:=zY C G Pc Fo d
theorem ud (d:Nat):∀(x:jO) (r:List jO),Str.join "." ((x::r).map fun y=>(⟨(lH d y).toArray⟩:Str))=⟨(lH d x++cR d r).toArray⟩
 |x,[]=>by
  show (⟨(lH d x).toArray⟩:Str)=⟨(lH d x++[]).toArray⟩
  rw[List.append_nil]
 |x,y::r=>by
  show (⟨(lH d x).toArray⟩:Str)++"." ++Str.join "." ((y::r).map fun y=>(⟨(lH d y).toArray⟩:Str))=⟨(lH d x++(46::lH d y++cR d r)).toArray⟩
  rw[ud d y r,YS,show (⟨#[46]⟩:Str)=⟨[46].toArray⟩ from rfl,bB,bB]
  simp
theorem jx.same {C G Pc:Addr} {d:Nat} {H H':Hp} {p:Addr} {x:jO} (h:jx C G Pc d H p x) (e:au H H'):jx C G Pc d H' p x:=
 let ⟨dx,l,ps,h1,h2,h3⟩:=h;⟨dx,l,ps,e _ _ h1,e _ _ h2,aL (fun _ _ h=>eS.same h e) h3⟩
theorem o6.same {C G Pc Fo:Addr} {d:Nat} {H H':Hp} {p:Addr} {xs:List jO} {n:Int} (h:o6 C G Pc Fo d H p xs n) (e:au H H'):o6 C G Pc Fo d H' p xs n:=
 let ⟨dx,l,ps,h1,h2,h3⟩:=h;⟨dx,l,ps,e _ _ h1,e _ _ h2,aL (fun _ _ h=>jx.same h e) h3⟩
theorem F':ay ["self"] ["self"] (aj mI):=dq
theorem zZ (d:Nat) (D:bb K Fo "shown" "Formula.shown" mI ["self"]) (T:lC K mg C R G Pc Fo uK uN uB uE uM uC uP uI uD uL uT) (c1:aM P w K mg base (2*d+4) Pc "shown" ["self"] (lI C G Pc d)) (c2:a9 P w K mg base 2 "charge_shown" ["charge"] ub):aM P w K mg base (2*d+5) Fo "shown" ["self"] (uc C G Pc Fo d):=by
 obtain⟨_,_,iV⟩:=c1
 obtain⟨_,_,fG⟩:=c2
 refine D.cY F' (fun vs H Q E h=>?_) (fun f bg A outer s H vs Q E hr h=>?_)
 ·obtain⟨f,xs,n,rfl,_⟩:=h
  rfl
 ·obtain⟨f,xs,n,rfl,⟨dx,l,ps,hf,hl,hP⟩,aX,hz,q⟩:=h
  have big:(3000 :Nat) <sizeLine:=by decide
  have lp:ps.length=xs.length:=Paired.length hP
  refine⟨_,(ai
     (bE (nR (qo (a0 (pv 0) rfl) (fun _=>rfl)))
      (ao
       (aE (bp (v:= .str "e^-") rfl T.l6 ⟨_,rfl⟩)))
      aS)
    (ao
     (aE (az br (iB PySem.F.plainAttrs_str PySem.F.slot_str_join PySem.F.type_str_join pH (bp (v:= .str ".") rfl T.ka ⟨_,rfl⟩) (aa (fB (sc:=(aj mI)) (NX:=["self"]) (N:=["piece"]) (fr:=[none]) ⟨by rfl,by rfl,by decide+kernel,by decide+kernel,by decide+kernel,by rfl,by decide+kernel⟩ rfl rfl rfl (cG (a0 (pv 0) rfl)) (fun _ _ _ _=>(aK (i:=0) (show (["piece"]:List Str).Nodup by decide+kernel) rfl (Or.inl rfl) (Or.inr rfl))) (fun _ _ _ _=>f7) (fun _ _ _ _=>(aP (pv 0) T.dj iV.m iV.ok (hr.mono (by omega)) iV.b .nil aA))) ak)) (aF fG.ok (hr.mono (by omega)) rfl fG.g fG.kp fG.b .nil aA (aa (a0 (pv 0) rfl) ak)))))),?_⟩
  refine⟨_,rfl,f,Fo,dx,_,_,rfl,hf,T.bL,T.jy,jw _ _,_, .inl ⟨_,bS.of hl,rfl⟩,?_⟩
  cases xs with
  |nil=>
   have hp:ps=[]:=List.length_eq_zero_iff.mp lp
   subst hp
   refine eQ ?_
   have e0:(⟨(wL d [] n).toArray⟩:Str)="e^-" :=by rw[eE];rfl
   rw[e0] at q
   exact q _ (au.refl _)
  |cons x0 r0=>
   obtain⟨h01,Du,n1,n2⟩:=aX
   have hpe:(!(ps.map V.ref).isEmpty)=true:=by
    cases ps with
    |nil=>simp at lp
    |cons _ _=>rfl
   rw[hpe]
   refine d7 ?_
   have zc:=OF n1 n2
   have ez:wL d (x0::r0) n=(lH d x0++cR d r0)++i9 n:=by
    show x0.2.flatMap (b9 d)++(cR d r0++i9 n)=_
    unfold lH
    rw[h01,show aR 1=[] from rfl,List.nil_append,List.append_assoc]
   rw[ez,List.length_append,List.length_append] at hz
   have hr0:=wb d r0
   have each:∀y∈x0::r0,(lH d y).length≤1000:=fun y hy=>by
    rcases List.mem_cons.mp hy with rfl|hy
    ·omega
    ·obtain⟨a,b,rfl⟩:=List.append_of_mem hy
     have:(cR d (a++y::b)).length=(cR d a).length+(46::lH d y++cR d b).length:=by
      unfold cR
      rw[List.flatMap_append,List.length_append,List.flatMap_cons]
     rw[this,List.length_append,List.length_cons] at hz
     omega
   refine⟨rfl,_,rfl,f,Fo,dx,_,_,rfl,hf,T.bL,T.jy,jw _ _,l,rfl,⟨_,bS.of hl⟩,fun D hD=>tE (K:=K) (a:=l) (D:=D) (xs:=ps.map V.ref) (fun i σ H'=>∃v:Option V,σ=[v]∧au H H'∧H' D=some (.lst (((x0::r0).take i).map fun x=>V.str ⟨(lH d x).toArray⟩)))
    ?_ (fun i σ H' _ ⟨_,_,e,_⟩=>bS.of (e _ _ hl)) ?_ ?_⟩
   ·exact⟨none,rfl,au.new hD,af⟩
   ·rintro i v σ H' hi ⟨v',rfl,e,Bj⟩ N hN
    rw[List.getElem?_map] at hi
    obtain⟨p,hp,rfl⟩:∃p,ps[i]? =some p∧v=V.ref p:=by
     cases hh:ps[i]? with
     |none=>rw[hh] at hi;cases hi
     |some p=>rw[hh] at hi;exact⟨p,rfl,(Option.some.inj hi).symm⟩
    obtain⟨y,hy,hY⟩:=bI hP hp
    have hY:=hY.same e
    obtain⟨dH,l',QS,h1,h2⟩:=id hY
    have my:=List.mem_of_getElem? hy
    refine⟨_,rfl,p,dH,_,rfl,h1,mV _ _ (by decide+kernel) (by decide+kernel),p,y,rfl,hY,Du y my,each y my,fun cp e'=>⟨_,e' _ _ Bj,?_,hN _ _ ⟨_,rfl,fun b o z=>?_,?_⟩⟩⟩
    ·rw[List.length_map]
     have:((x0::r0).take i).length≤(x0::r0).length:=List.length_take_le' _ _
     rw[List.length_cons] at this
     omega
    ·rw[ah (ag z hD)]
     exact e' _ _ (e _ _ z)
    ·rw[af,List.take_add_one,hy,List.map_append]
     rfl
   ·rintro σ H' ⟨v,rfl,e,Bj⟩
    rw[List.length_map,lp,List.take_length] at Bj
    have ej:Txt.join "." ((x0::r0).map fun y=>(⟨(lH d y).toArray⟩:Str))=⟨(lH d x0++cR d r0).toArray⟩:=by
     have:=PyProof.Rows.join_closes (sep:=".") (sep':=".") (ys:=(x0::r0).map fun y=>(⟨(lH d y).toArray⟩:Str)) rfl
     rw[←ud]
     simpa using this
    have es:(((x0::r0).map fun y=>(⟨(lH d y).toArray⟩:Str)).map (·.length)).sum≤(lH d x0).length+(cR d r0).length:=by
     rw[List.map_map,List.map_cons,List.sum_cons]
     have:∀r:List jO,(r.map ((·.length)∘fun y=>(⟨(lH d y).toArray⟩:Str))).sum≤(cR d r).length:=fun r=>by
      induction r with
      |nil=>exact Nat.le_refl _
      |cons y r ih=>
       show (⟨(lH d y).toArray⟩:Str).length+(r.map ((·.length)∘fun y=>(⟨(lH d y).toArray⟩:Str))).sum≤(46::lH d y++cR d r).length
       rw[bh,List.length_append,List.length_cons]
       omega
     have h2:=this r0
     show (⟨(lH d x0).toArray⟩:Str).length+_≤_
     rw[bh]
     omega
    refine⟨_,D,(x0::r0).map (fun y=>⟨(lH d y).toArray⟩),rfl,rfl,bS.of (by rw[Bj,List.map_map];rfl),?_,?_⟩
    ·have e0:("." :Str).length=1:=by decide+kernel
     rw[e0,List.length_map,List.length_cons]
     omega
    ·rw[ej]
     refine⟨_,rfl,f,Fo,dx,_,_,rfl,e _ _ hf,T.bL,T.lZ,nj _ _,n,rfl,n1,n2,_,_,rfl,rfl,?_,?_⟩
     ·rw[bh,bh,List.length_append]
      omega
     ·rw[bB,←ez]
      exact q _ e
theorem Dw:ay ["_law_count_here"] ["_law_count_here"] (aj mS):=dq
theorem z6 (D:Def K mg "_law_figures" "_law_figures" mS ["_law_count_here"]) (T:om K mg C):a9 P w K mg base 1 "_law_figures" ["_law_count_here"] j7:=by
 refine D.cY Dw (fun vs H Q E h=>?_) (fun f bg A outer s H vs Q E hr h=>?_)
 ·obtain⟨n,rfl,_⟩:=h
  rfl
 ·obtain⟨n,rfl,h1,h2,k⟩:=h
  refine⟨_,(ai
     (bE (aO dJ (pv 0) aq (aQ _))
      (ao
       (aE bG))
      aS)
    (ao
     (aE (bC jh rfl T.FK zj (aa (pv 0) ak))))),?_⟩
  refine⟨_,rfl,rfl,_,rfl,dY (fun e=>?_) fun e=>?_⟩
  ·have e:n=1:=by simpa using e
   subst e
   exact k
  ·have e:¬n=1:=by simpa using e
   refine⟨_,rfl,_,rfl,tq (by omega) (by omega),?_⟩
   unfold fb at k
   rw[if_neg e] at k
   exact k
theorem OG:ay ["self","kind","count"] ["self","kind","count"] (aj i5):=dq
theorem Kp (D:lA K C "Atom.__init__" i5 ["self","kind","count"] [1]) (T:om K mg C):gG P w K mg base 1 C ["self","kind","count"] [1] (FI C):=by
 refine D.cY OG (fun vs H Q E h=>?_) (fun f bg A outer s H vs Q E hr h=>?_)
 ·obtain⟨p,dx,k,n,rfl,_⟩:=h
  rfl
 ·obtain⟨p,dx,k,n,rfl,hp,q⟩:=h
  refine⟨_,(ai
     (eP (pv 0) (pv 1) rfl)
    (ao
     (eP (pv 0) (pv 2) rfl))),?_⟩
  refine⟨_,rfl,_,rfl,p,C,dx,[],rfl,hp,T.gD,T.vN,(by show 0<1000;decide),_,rfl,_,rfl,p,C,dx,_,rfl,af,T.gD,T.qP,(by show 1<1000;decide),?_⟩
  refine q _ af fun b o e hb=>?_
  rw[ah hb,ah hb]
  exact e
theorem Ga:ay ["_law_script","_law_k"] ["_law_script","_law_k"] (aj pO):=dq
theorem z7 (D:Def K mg "_law_cell_at" "_law_cell_at" pO ["_law_script","_law_k"]) (T:om K mg C):a9 P w K mg base 1 "_law_cell_at" ["_law_script","_law_k"] (mW K):=by
 refine D.cY Ga (fun vs H Q E h=>?_) (fun f bg A outer s H vs Q E hr h=>?_)
 ·obtain⟨a,ns,k,rfl,_⟩:=h
  rfl
 ·obtain⟨a,ns,k,rfl,hS,hl,q⟩:=h
  refine⟨_,(ai
     (bE (aO lG (pv 1) (cj fy rfl T.mX jm (aa (pv 0) ak)) (aQ _))
      (ao
       (aE (cF cH (pv 0) (pv 1) (fun _ _=>rfl))))
      aS)
    (ao
     (aE aq))),?_⟩
  refine⟨_,rfl,_,rfl,a,_,rfl, .inl hS,_,_,rfl,rfl,_,rfl,dY (fun e=>?_) fun e=>?_⟩
  ·have e:k<ns.length:=by simpa using e
   exact⟨_,rfl,_,rfl,a,_,_,V.int ns[k],rfl,rfl,hS,pD (by rw[List.getElem?_map,List.getElem?_eq_getElem e];rfl),q _⟩
  ·exact q 0
theorem Kq:ay ["_law_found"] ["_law_found"] (aj vD):=dq
theorem Gb (D:Def K mg "_law_whole" "_law_whole" vD ["_law_found"]) (T:om K mg C):a9 P w K mg base 1 "_law_whole" ["_law_found"] pQ:=by
 refine D.cY Kq (fun vs H Q E h=>?_) (fun f bg A outer s H vs Q E hr h=>?_)
 ·obtain⟨i,rfl,_⟩:=h
  rfl
 ·obtain⟨i,rfl,q⟩:=h
  refine⟨_,(ao
     (aE (nS (cj jW rfl T.jr iR (aa (pv 0) (aa (uW (v:= .ty "int") rfl T.tM n5 rfl) ak))) (uX (Nj (cj jW rfl T.jr iR (aa (pv 0) (aa (uW (v:= .ty "bool") rfl T.Om JI rfl) ak)))))))),?_⟩
  exact⟨_,rfl,_,_,_,_,_,rfl,rfl, .int i,T.k1,_,rfl,eQ ⟨_,rfl,_,_,_,_,_,rfl,rfl, .int i,T.k2,_,rfl,q⟩⟩
abbrev great:Str:="ABCDEFGHIJKLMNOPQRSTUVWXYZ"
abbrev small:Str:="abcdefghijklmnopqrstuvwxyz"
theorem Dx:great.cps.toList.length=26:=by decide+kernel
theorem Dy:small.cps.toList.length=26:=by decide+kernel
def SA:List Str:=["C","Co","O","Cob","H","N","No","B","Ob","Nob"]
theorem l8:ay ["_law_number","_law_great","_law_small","_law_kind_here","_law_k"] ["_law_number"] (aj A0):=dq
inductive Gd (vs:List V) (H:Hp) (Q:VK) (E:XK):Prop
 |mk (n:Int) (dU:vs=[.int n]) (dW:∀(k:List Nat) H',lY k→au H H'→Q (.str ⟨k.toArray⟩) H')
def Bk:Sp:=Gd
def OH:List Nat→Bool
 |c::r=>Es c&&r.all Er&&decide (r.length≤2)
 | []=>false
theorem OI:∀{l:List Nat},OH l=true→lY l
 | [],h=>by cases h
 |c::r,h=>by
  simp only [OH,Bool.and_eq_true,decide_eq_true_eq] at h
  exact⟨c,r,rfl,h.1.1,h.1.2,h.2⟩
theorem OJ:SA.all (fun x=>OH x.cps.toList)=true:=by decide+kernel
theorem Dz:great.cps.toList.all Es=true:=by decide+kernel
theorem DA:small.cps.toList.all Er=true:=by decide+kernel
theorem Ge (D:Def K mg "_law_kind" "_law_kind" A0 ["_law_number"]) (T:om K mg C):a9 P w K mg base 1 "_law_kind" ["_law_number"] Bk:=by
 refine D.cY l8 (fun vs H Q E h=>?_) (fun f bg A outer s H vs Q E hr h=>?_)
 ·obtain⟨n,rfl,_⟩:=h
  rfl
 ·obtain⟨n,rfl,q⟩:=h
  refine⟨_,(ai
     (aB (i:=1) l8.nd rfl (Or.inl rfl) bG)
    (ai
     (aB (i:=2) l8.nd rfl (Or.inl rfl) bG)
    (ai
     (bE (aO dJ (az bT (pv 0) aq) aq (aQ _))
      (ao
       (aE (cF cH (cu (JJ (.str (.str (.str (.str (.str (.str (.str (.str (.str (.str .nil)))))))))))) (az bT (az b6 (pv 0) aq) aq) (fun _ _=>rfl))))
      aS)
    (ai
     (aB (i:=0) l8.nd rfl (Or.inl rfl) (az b6 (pv 0) aq))
    (ai
     (aB (i:=3) l8.nd rfl (Or.inl rfl) (cF u7 (pv 1) (az bT (pv 0) aq) (fun _ _=>rfl)))
    (ai
     (cq PassesOwn.never rfl (kF rfl T.pR (aa (az bT (az b6 (pv 0) aq) aq) ak)) (aK (i:=4) l8.nd rfl (Or.inl rfl))
      (ao
       (aB (i:=3) l8.nd rfl (Or.inl rfl) (az br (pv 3) (cF u7 (pv 2) (az bT (az b6 (pv 0) (az bO aq (az dI aq (pv 4)))) aq) (fun _ _=>rfl))))))
    (ao
     (aE (pv 3))))))))),?_⟩
  refine⟨_,rfl,_,_,rfl,rfl,(by show (0 :Int) <2;decide),rfl,_,rfl,dY (fun _=>?_) fun _=>?_⟩
  ·have b0:0≤n/2%10:=Int.emod_nonneg _ (by decide)
   have b1:n/2%10<10:=Int.emod_lt_of_pos _ (by decide)
   obtain⟨v,hv,Bl⟩:=ve (xs:=SA.map V.str) b0 b1
   obtain⟨k,hk,rfl⟩:=List.mem_map.mp hv
   have ek:(⟨k.cps.toList.toArray⟩:Str)=k:=mY (by simp)
   have okk:=OI (List.all_eq_true.mp OJ k hk)
   have q':∀l (hl:H l=none),Q (.str k) (upd H l (.lst (SA.map V.str))):=fun l hl=>by
    have:=q k.cps.toList _ okk (au.new (o:= .lst (SA.map V.str)) hl)
    rwa [ek] at this
   exact⟨(by show 10≤sizeLine;decide),fun l hl=>⟨_,rfl,_,_,rfl,rfl,⟨by decide,by decide⟩,_,_,rfl,rfl,(by show (0 :Int) <10;decide),l,SA.map V.str,_,_,rfl,rfl,bS.of af,Bl,q' l hl⟩⟩
  ·have b0:0≤n/2%26:=Int.emod_nonneg _ (by decide)
   have b1:n/2%26<26:=Int.emod_lt_of_pos _ (by decide)
   have b2:0≤n/2/26%3:=Int.emod_nonneg _ (by decide)
   have b3:n/2/26%3<3:=Int.emod_lt_of_pos _ (by decide)
   obtain⟨c,hc,Bl⟩:=ve (xs:=great.cps.toList) b0 (by rw[Dx];exact b1)
   have gc:=List.all_eq_true.mp Dz c hc
   refine⟨_,rfl,_,_,rfl,rfl,⟨by decide,by decide⟩,_,rfl,_,rfl,_,_,rfl,rfl,(by show (0 :Int) <26;decide),great,_,c,rfl,rfl,(by decide+kernel),Bl,?_⟩
   refine⟨_,rfl,_,_,rfl,rfl,⟨by decide,by decide⟩,_,_,rfl,rfl,(by show (0 :Int) <3;decide),_,rfl,by omega,by omega,
    sO (fun i σ H'=>∃(r:List Nat) (v:Option V),σ=[some (.int (n/2)),some (.str great),some (.str small),some (.str ⟨(c::r).toArray⟩),v]∧r.all Er=true∧r.length≤i∧H'=H) ⟨[],none,rfl,rfl,Nat.le_refl _,rfl⟩ ?_ ?_⟩
   ·rintro i σ H' hi ⟨r,v,rfl,ha,hk,rfl⟩
    have c0:0≤n/2/(78+1950*(0+(i:Int))) %26:=Int.emod_nonneg _ (by decide)
    have c1:n/2/(78+1950*(0+(i:Int))) %26<26:=Int.emod_lt_of_pos _ (by decide)
    obtain⟨c2,YB,OL⟩:=ve (xs:=small.cps.toList) c0 (by rw[Dy];exact c1)
    have sc2:=List.all_eq_true.mp DA c2 YB
    have l2:(⟨#[c2]⟩:Str).length=1:=rfl
    have big:(100 :Nat)≤sizeLine:=by decide
    have e2:(⟨(c::r).toArray⟩:Str)++⟨#[c2]⟩=⟨(c::(r++[c2])).toArray⟩:=bB (c::r) [c2]
    refine⟨_,rfl,_,rfl,_,rfl,_,rfl,_,_,rfl,rfl, .inl ⟨by decide,by decide⟩,_,_,rfl,rfl,_,_,rfl,rfl,⟨by omega,by omega⟩,_,_,rfl,rfl,(by show (0 :Int) <26;decide),small,_,c2,rfl,rfl,(by decide+kernel),OL,_,_,rfl,rfl,?_,r++[c2],some (.int (0+(i:Int))),?_,?_,?_,rfl⟩
    ·rw[bh,l2,List.length_cons]
     omega
    ·rw[←e2]
     rfl
    ·rw[List.all_append,ha]
     simpa using sc2
    ·rw[List.length_append]
     show r.length+1≤i+1
     omega
   ·rintro σ H' ⟨r,v,rfl,ha,hk,rfl⟩
    exact⟨_,rfl,q (c::r) _ ⟨c,r,rfl,gc,ha,by omega⟩ (au.refl _)⟩
variable {uC uP uI uD uL uT:Tok}
theorem Kr:ay ["self","parts","count"] ["self","parts","count"] (aj fS):=dq
theorem Gf (D:lA K G "Group.__init__" fS ["self","parts","count"] [1]) (T:lC K mg C R G Pc Fo uK uN uB uE uM uC uP uI uD uL uT):gG P w K mg base 1 G ["self","parts","count"] [1] (ni G):=by
 refine D.cY Kr (fun vs H Q E h=>?_) (fun f bg A outer s H vs Q E hr h=>?_)
 ·obtain⟨p,dx,l,c,xs,rfl,_⟩:=h
  rfl
 ·obtain⟨p,dx,l,c,xs,rfl,hp,hl,q⟩:=h
  refine⟨_,(ai
     (eP (pv 0) (bC fz rfl T.n_list mz (aa (pv 1) ak)) rfl)
    (ao
     (eP (pv 0) (pv 2) rfl))),?_⟩
  refine⟨_,rfl,l,xs,rfl, .inl (bS.of hl),fun n hn=>?_⟩
  have yR:p≠n:=ag hp hn
  refine⟨_,rfl,p,G,dx,[],rfl,(by rw[ah yR];exact hp),T.eN,T.ou,(by show 0<1000;decide),_,rfl,_,rfl,p,G,dx,_,rfl,af,T.eN,T.ow,(by show 1<1000;decide),?_⟩
  refine q n _ hn af (by rw[ah (Ne.symm yR),ah (Ne.symm yR),af]) fun b o e hb=>?_
  rw[ah hb,ah hb,ah (ag e hn)]
  exact e
theorem Kt:ay ["self","parts","count"] ["self","parts","count"] (aj fT):=dq
theorem Gg (D:lA K Pc "Piece.__init__" fT ["self","parts","count"] [1]) (T:lC K mg C R G Pc Fo uK uN uB uE uM uC uP uI uD uL uT):gG P w K mg base 1 Pc ["self","parts","count"] [1] (ni Pc):=by
 refine D.cY Kt (fun vs H Q E h=>?_) (fun f bg A outer s H vs Q E hr h=>?_)
 ·obtain⟨p,dx,l,c,xs,rfl,_⟩:=h
  rfl
 ·obtain⟨p,dx,l,c,xs,rfl,hp,hl,q⟩:=h
  refine⟨_,(ai
     (eP (pv 0) (bC fz rfl T.n_list mz (aa (pv 1) ak)) rfl)
    (ao
     (eP (pv 0) (pv 2) rfl))),?_⟩
  refine⟨_,rfl,l,xs,rfl, .inl (bS.of hl),fun n hn=>?_⟩
  have yR:p≠n:=ag hp hn
  refine⟨_,rfl,p,Pc,dx,[],rfl,(by rw[ah yR];exact hp),T.dj,T.oB,(by show 0<1000;decide),_,rfl,_,rfl,p,Pc,dx,_,rfl,af,T.dj,T.oC,(by show 1<1000;decide),?_⟩
  refine q n _ hn af (by rw[ah (Ne.symm yR),ah (Ne.symm yR),af]) fun b o e hb=>?_
  rw[ah hb,ah hb,ah (ag e hn)]
  exact e
theorem Ku:ay ["self","pieces","charge"] ["self","pieces","charge"] (aj fU):=dq
theorem Gh (D:lA K Fo "Formula.__init__" fU ["self","pieces","charge"] [0]) (T:lC K mg C R G Pc Fo uK uN uB uE uM uC uP uI uD uL uT):gG P w K mg base 1 Fo ["self","pieces","charge"] [0] (vX Fo):=by
 refine D.cY Ku (fun vs H Q E h=>?_) (fun f bg A outer s H vs Q E hr h=>?_)
 ·obtain⟨p,dx,l,c,xs,rfl,_⟩:=h
  rfl
 ·obtain⟨p,dx,l,c,xs,rfl,hp,hl,q⟩:=h
  refine⟨_,(ai
     (eP (pv 0) (bC fz rfl T.n_list mz (aa (pv 1) ak)) rfl)
    (ao
     (eP (pv 0) (pv 2) rfl))),?_⟩
  refine⟨_,rfl,l,xs,rfl, .inl (bS.of hl),fun n hn=>?_⟩
  have yR:p≠n:=ag hp hn
  refine⟨_,rfl,p,Fo,dx,[],rfl,(by rw[ah yR];exact hp),T.bL,T.jy,(by show 0<1000;decide),_,rfl,_,rfl,p,Fo,dx,_,rfl,af,T.bL,T.lZ,(by show 1<1000;decide),?_⟩
  refine q n _ hn af (by rw[ah (Ne.symm yR),ah (Ne.symm yR),af]) fun b o e hb=>?_
  rw[ah hb,ah hb,ah (ag e hn)]
  exact e
structure SD (K:PySem.W.Frag) (mg:Str→Option Value) (C:Addr):Prop extends om K mg C where
 jA:mg "dict" =none
 F4:mg "abs" =none
def bj:Nat→Int→Tr→List (Str×Int)
 |_,m, .one k n=>[(⟨k.toArray⟩,n*m)]
 |0,_, .gr _ _=>[]
 |d+1,m, .gr ts n=>ts.flatMap (bj d (n*m))
def cx (d:Nat) (x:jO):List (Str×Int):=x.2.flatMap (bj d x.1)
def cW (d:Nat) (xs:List jO):List (Key×V):=a7 1 [] (xs.flatMap (cx d))
def DB (ts:List Tr):Prop:=ts≠[]∧(∀t∈ts,tT 1 t)∧(ts.flatMap (b9 1)).length≤23∧(ts.flatMap (bj 1 1)).length≤5
theorem kh:∀(l acc:List (Key×V)),((acc++l).map (·.1)).Nodup→cy acc l=acc++l
 | [],acc,_=>by rw[List.append_nil];rfl
 |p::r,acc,h=>by
  have hn:bX acc p.1=none:=by
   cases e:bX acc p.1 with
   |none=>rfl
   |some x=>
    rw[List.map_append,List.nodup_append] at h
    exact absurd rfl (h.2.2 _ (pE e) p.1 (by simp))
  show cy (putK acc p.1 p.2) r=_
  rw[mq _ hn,kh r (acc++[(p.1,p.2)]) (by rw[List.append_assoc];exact h),List.append_assoc]
  rfl
theorem pX (c:Int):∀(as:List (Str×Int)) (acc:List (Key×V)),a7 1 acc (as.map fun p=>(p.1,p.2*c))=a7 c acc as
 | [],_=>rfl
 |p::r,acc=>by
  show a7 1 (cA acc (Sum.inr p.1) (p.2*c*1)) (r.map fun p=>(p.1,p.2*c))=a7 c (cA acc (Sum.inr p.1) (p.2*c)) r
  rw[Int.mul_one,pX c r]
theorem uf {D:List (Key×V)} (hI:bu D) (hn:(D.map (·.1)).Nodup) (c:Int):(D.map fun p=>(p.1,V.int (c*aG D p.1)))=scale c D:=by
 unfold scale
 apply List.map_congr_left
 intro p hp
 have e:=hI.look (gZ hn hp)
 show (p.1,V.int (c*aG D p.1))=(p.1,C7 c p.2)
 rw[e]
 show _=(p.1,V.int (aG D p.1*c))
 rw[Int.mul_comm]
abbrev Bm:=List (List Nat×Int)
def aT (a:List Nat×Int):Tr:= .one a.1 a.2
def oH (as:Bm):List (Str×Int):=as.map fun a=>((⟨a.1.toArray⟩:Str),a.2)
def Gi (as:Bm):Prop:=∀a∈as,lY a.1∧1≤a.2∧a.2≤999
theorem l9 (d:Nat) (m:Int) (as:Bm):(as.map aT).flatMap (bj d m)=(oH as).map fun p=>(p.1,p.2*m):=by
 unfold oH
 induction as with
 |nil=>rfl
 |cons a r ih=>
  rw[List.map_cons,List.flatMap_cons,ih,List.map_cons,List.map_cons]
  have e:bj d m (aT a)=[((⟨a.1.toArray⟩:Str),a.2*m)]:=by cases d<;>rfl
  rw[e]
  rfl
theorem oI (d:Nat) (as:Bm):(as.map aT).flatMap (b9 d)=as.flatMap fun a=>a.1++aR a.2:=by
 induction as with
 |nil=>rfl
 |cons a r ih=>
  rw[List.map_cons,List.flatMap_cons,ih,List.flatMap_cons]
  have e:b9 d (aT a)=a.1++aR a.2:=by cases d<;>rfl
  rw[e]
theorem rm {n:Int} (h:1≤n) (h':n≤999):(aR n).length≤3:=by
 have:=g8 h h'
 rw[cS,bh] at this
 exact this
theorem Gj {n:Int} (h:1≤n) (h':n≤99):(aR n).length≤2:=by
 obtain⟨m,rfl⟩:=Int.eq_ofNat_of_zero_le (show 0≤n by omega)
 have:=kW (n:=m) (k:=2) (by decide) (by omega)
 rw[cS,bh] at this
 exact this
theorem rn {k:List Nat} (h:lY k):k.length≤3:=by
 obtain⟨c,r,rfl,_,_,h3⟩:=h
 rw[List.length_cons]
 omega
theorem k8 {as:Bm} (h:Gi as):(as.flatMap fun a=>a.1++aR a.2).length≤6*as.length:=by
 induction as with
 |nil=>exact Nat.zero_le _
 |cons a r ih=>
  have h1:=h a (List.mem_cons_self ..)
  have h2:=ih fun b hb=>h b (List.mem_cons_of_mem _ hb)
  have h3:=rn h1.1
  have h4:=rm h1.2.1 h1.2.2
  rw[List.flatMap_cons,List.length_append,List.length_append,List.length_cons]
  omega
theorem x2 {as:Bm} (h:Gi as) (d:Nat):∀t∈as.map aT,tT d t:=by
 intro t ht
 obtain⟨a,ha,rfl⟩:=List.mem_map.mp ht
 have:=h a ha
 cases d<;>exact this
theorem Gk {as:Bm} (h:Gi as) (h1:1≤as.length) (h3:as.length≤3):DB (as.map aT):=by
 refine⟨?_,x2 h 1,?_,?_⟩
 ·intro z
  have:=congrArg List.length z
  rw[List.length_map,List.length_nil] at this
  omega
 ·rw[oI]
  have:=k8 h
  omega
 ·rw[l9,List.length_map]
  unfold oH
  rw[List.length_map]
  omega
theorem Mi (as:Bm):cW 1 [(1,as.map aT)]=a7 1 [] (oH as):=by
 show a7 1 [] ((as.map aT).flatMap (bj 1 1)++[])=_
 rw[List.append_nil,l9,pX]
theorem Mj (as:Bm) (c:Int):([Tr.gr (as.map aT) c].flatMap (b9 1))=40::((as.flatMap fun a=>a.1++aR a.2)++41::aR c):=by
 rw[List.flatMap_cons,List.flatMap_nil,List.append_nil]
 show 40::((as.map aT).flatMap (b9 0)++41::aR c)=_
 rw[oI]
theorem Ml (as:Bm) (c:Int):([Tr.gr (as.map aT) c].flatMap (bj 1 1))=(oH as).map fun p=>(p.1,p.2*(c*1)):=by
 rw[List.flatMap_cons,List.flatMap_nil,List.append_nil]
 show (as.map aT).flatMap (bj 0 (c*1))=_
 rw[l9]
theorem OM {as:Bm} (h:Gi as) (h1:1≤as.length) (h3:as.length≤3) {c:Int} (c1:1≤c) (c2:c≤999):DB [.gr (as.map aT) c]:=by
 refine⟨by simp,fun t ht=>?_,?_,?_⟩
 ·have e:t= .gr (as.map aT) c:=by simpa using ht
  subst e
  exact⟨(Gk h h1 h3).1,x2 h 0,c1,c2⟩
 ·rw[Mj]
  have:=k8 h
  have:=rm c1 c2
  simp only [List.length_cons,List.length_append]
  omega
 ·rw[Ml,List.length_map]
  unfold oH
  rw[List.length_map]
  omega
theorem Mm (as:Bm) (c:Int):cW 1 [(1,[.gr (as.map aT) c])]=scale c (a7 1 [] (oH as)):=by
 show a7 1 [] ([Tr.gr (as.map aT) c].flatMap (bj 1 1)++[])=_
 rw[List.append_nil,Ml,pX,tK 1 c _ [] (fun p hp=>by cases hp),Int.mul_one,Int.one_mul]
 rfl
theorem bu.dZ {kvs:List (Key×V)} (h:bu kvs) {k:Key} {v:V} (hm:(k,v)∈kvs):bX kvs k=some (.int (aG kvs k)):=by
 cases f:bX kvs k with
 |none=>exact absurd (List.mem_map_of_mem (f:=(·.1)) hm) (mv f)
 |some x=>rw[h.look f]
theorem none_back {H H':Hp} {D:Addr} (e:au H H') (h:H' D=none):H D=none:=by
 cases hh:H D with
 |none=>rfl
 |some o=>rw[e _ _ hh] at h;cases h
theorem take_snoc {α:Type} {l:List α} {i:Nat} {a:α} (h:l[i]? =some a):l.take (i+1)=l.take i++[a]:=by
 rw[List.take_add_one,h]
 rfl
theorem Mn:(⟨(([]:Bm).flatMap fun a=>a.1++aR a.2).toArray⟩:Str)="" :=by decide+kernel
abbrev Fm:=List jO×Int
def fL (x:Fm):List Nat:=wL 1 x.1 x.2
def cT (x:Fm):Prop:=Kk 1 x.1 x.2∧(fL x).length≤33∧(x.1.flatMap (cx 1)).length≤7
def x3 (H:Hp) (t:Addr) (x:Fm):Prop:=∃d,H t=some (.tup [.str ⟨(fL x).toArray⟩, .ref d, .int x.2])∧H d=some (.dK (cW 1 x.1))
theorem x3.same {H H':Hp} {t:Addr} {x:Fm} (h:x3 H t x) (e:au H H'):x3 H' t x:=let ⟨d,h1,h2⟩:=h;⟨d,e _ _ h1,e _ _ h2⟩
theorem ON (n:Int):xv [V.str "-",V.str "+"] (if decide (n>0)=true then 1 else 0)=some (V.str (if 0<n then ("+" :Str) else ("-" :Str))):=by
 by_cases h:0<n
 ·rw[if_pos (decide_eq_true h),if_pos h]
  rfl
 ·rw[if_neg (by simpa using h),if_neg h]
  rfl
theorem Kv {n:Int} (e:¬n=0):(⟨(i9 n).toArray⟩:Str)="^" ++fb (if n<0 then -n else n)++(if 0<n then ("+" :Str) else ("-" :Str)):=by
 unfold i9
 rw[if_neg e,cS,Sv,e43,Sw]
 rw[show (⟨#[94]⟩:Str)=⟨[94].toArray⟩ from rfl,bB]
 by_cases hp:0<n
 ·rw[if_pos hp,if_pos hp,show (⟨#[43]⟩:Str)=⟨[43].toArray⟩ from rfl,bB]
  simp
 ·rw[if_neg hp,if_neg hp,show (⟨#[45]⟩:Str)=⟨[45].toArray⟩ from rfl,bB]
  simp
theorem SE {xs:List jO} (h:xs≠[]) (n:Int):wL 1 xs n=wL 1 xs 0++i9 n:=by
 cases xs with
 |nil=>exact absurd rfl h
 |cons x r=>
  show x.2.flatMap (b9 1)++(cR 1 r++i9 n)=x.2.flatMap (b9 1)++(cR 1 r++[])++i9 n
  rw[List.append_nil,List.append_assoc]
def YU (xs:List jO):Prop:=xs≠[]∧(∀n, -999≤n→n≤999→Kk 1 xs n)∧(wL 1 xs 0).length≤29∧(xs.flatMap (cx 1)).length≤7
theorem SF:aR 1=[]:=by decide+kernel
theorem SH (ts:List Tr):wL 1 [(1,ts)] 0=ts.flatMap (b9 1):=by
 show ts.flatMap (b9 1)++([]++[])=_
 simp
theorem Gm {ts:List Tr} (h:DB ts):YU [(1,ts)]:=by
 obtain⟨h1,h2,h3,h4⟩:=h
 refine⟨by simp,fun n n1 n2=>⟨rfl,fun x hx=>?_,n1,n2⟩,?_,?_⟩
 ·have e:x=(1,ts):=by simpa using hx
  subst e
  exact⟨h1,h2,(by show (1 :Int)≤1;decide),(by show (1 :Int)≤999;decide)⟩
 ·rw[SH]
  omega
 ·show (ts.flatMap (bj 1 1)++[]).length≤7
  rw[List.append_nil]
  omega
theorem Mo {xs:List jO} (h:YU xs) {n:Int} (n1: -99≤n) (n2:n≤99):cT (xs,n):=by
 obtain⟨h1,h2,h3,h4⟩:=h
 refine⟨h2 n (by omega) (by omega),?_,h4⟩
 show (wL 1 xs n).length≤33
 rw[SE h1,List.length_append]
 have:(i9 n).length≤4:=by
  unfold i9
  split
  ·exact Nat.zero_le _
  ·have:=Gj (n:=if n<0 then -n else n) (by split<;>omega) (by split<;>omega)
   rw[List.length_cons,List.length_append]
   show _+1+1≤4
   omega
 omega
theorem we (xs:List jO):bu (cW 1 xs):=iH 1 _ _ fun p hp=>by cases hp
theorem Gn {xs:List jO} {m:Nat} (h:(xs.flatMap (cx 1)).length≤m):(cW 1 xs).length≤m:=by
 have:=iI 1 (xs.flatMap (cx 1)) []
 rw[List.length_nil] at this
 unfold cW
 omega
abbrev Tm:=Int×Fm
def d9 (H:Hp) (t:Addr) (x:Tm):Prop:=∃f,H t=some (.tup [.int x.1, .ref f])∧x3 H f x.2
def iz (B:Int) (x:Tm):Prop:=1≤x.1∧x.1≤B∧cT x.2
theorem d9.same {H H':Hp} {t:Addr} {x:Tm} (h:d9 H t x) (e:au H H'):d9 H' t x:=let ⟨f,h1,h2⟩:=h;⟨f,e _ _ h1,h2.same e⟩
theorem d9.but {D:Addr} {H H':Hp} {ys:List V} {t:Addr} {x:Tm} (hD:H D=some (.lst ys)) (e:∀b o,H b=some o→b≠D→H' b=some o) (h:d9 H t x):d9 H' t x:=by
 obtain⟨f,h1,d,h2,h3⟩:=h
 exact⟨f,e _ _ h1 (cD h1 hD (by intro z;cases z)),d,e _ _ h2 (cD h2 hD (by intro z;cases z)),e _ _ h3 (cD h3 hD (by intro z;cases z))⟩
def cN (H:Hp) (l:Addr) (xs:List Tm):Prop:=∃ts,H l=some (.lst (ts.map V.ref))∧Paired (d9 H) ts xs
theorem cN.same {H H':Hp} {l:Addr} {xs:List Tm} (h:cN H l xs) (e:au H H'):cN H' l xs:=let ⟨ts,h1,h2⟩:=h;⟨ts,e _ _ h1,aL (fun _ _ z=>z.same e) h2⟩
variable {uC uP uI uD uL uT:Tok}
theorem Bn {n:Int} (h0:0≤n) (h:n<10^50):(toString n:Str).length≤50:=by
 rw[PySem.ofString_length]
 obtain⟨m,rfl⟩:=Int.eq_ofNat_of_zero_le h0
 show (Nat.repr m).length≤50
 rw[Nat.length_repr_le_iff (by decide)]
 omega
theorem Kw {n:Int} (h0:0≤n) (h:n<10^50):n.natAbs.log2<1920:=by
 by_cases e:n.natAbs=0
 ·rw[e];decide
 ·have:=(Nat.log2_lt e (k:=170)).mpr (by omega)
  omega
def ro (x:Tm):Str:=if x.1=1 then ⟨(fL x.2).toArray⟩ else (toString x.1 :Str)++" " ++⟨(fL x.2).toArray⟩
def ug (xs:List Tm):Str:=Txt.join " + " (xs.map ro)
theorem Bo {B:Int} (hB:B≤10^40) {x:Tm} (h:iz B x):(ro x).length≤100:=by
 obtain⟨h1,h2,_,h3,_⟩:=h
 unfold ro
 split
 ·rw[bh]
  omega
 ·have:=Bn (n:=x.1) (by omega) (by omega)
  have l1:(" " :Str).length=1:=by decide+kernel
  rw[bx,bx,bh,l1]
  exact Nat.le_trans (Nat.add_le_add (Nat.add_le_add_right this 1) h3) (by decide)
theorem x4 {H:Hp}:∀{ts:List Addr} {xs:List Tm} {i:Nat} {x:V},Paired (d9 H) ts xs→(ts.map V.ref)[i]? =some x→∃t y,x= .ref t∧xs[i]? =some y∧d9 H t y
 |_,_,_,_, .nil,h=>by simp at h
 |_,_,0,_, .cons h _,e=>⟨_,_,(Option.some.inj e).symm,rfl,h⟩
 |_,_,i+1,_, .cons _ t,e=>x4 (i:=i) t e
variable {uC uP uI uD uL uT fg fj fk:Tok} {Ch:Addr}
structure Gp (K:PySem.W.Frag) (mg:Str→Option Value) (C R G Pc Fo Ch:Addr) (uK uN uB uE uM uC uP uI uD uL uT fg fj fk:Tok):Prop extends lC K mg C R G Pc Fo uK uN uB uE uM uC uP uI uD uL uT,SD K mg C where
 bY:sR K Ch
 hV:cE K Ch "lefts"
 i':cE K Ch "rights"
 Gq:mg "Change" =some (.ref Ch)
 Kx:mg "BLANK" =some (.str " " fg)
 Bp:mg "JOINT" =some (.str " + " fj)
 Bq:mg "ARROW" =some (.str " -> " fk)
def jB (C G Pc Fo:Addr) (H:Hp) (t:Addr) (x:Tm):Prop:=∃f,H t=some (.tup [.int x.1, .ref f])∧o6 C G Pc Fo 1 H f x.2.1 x.2.2
def ia (C G Pc Fo:Addr) (H:Hp) (l:Addr) (xs:List Tm):Prop:=∃ts,H l=some (.lst (ts.map V.ref))∧Paired (jB C G Pc Fo H) ts xs
theorem jB.same {C G Pc Fo:Addr} {H H':Hp} {t:Addr} {x:Tm} (h:jB C G Pc Fo H t x) (e:au H H'):jB C G Pc Fo H' t x:=let ⟨f,h1,h2⟩:=h;⟨f,e _ _ h1,h2.same e⟩
theorem ia.same {C G Pc Fo:Addr} {H H':Hp} {l:Addr} {xs:List Tm} (h:ia C G Pc Fo H l xs) (e:au H H'):ia C G Pc Fo H' l xs:=let ⟨ts,h1,h2⟩:=h;⟨ts,e _ _ h1,aL (fun _ _ z=>z.same e) h2⟩
theorem YO:¬(("lefts" :Str)="rights"):=by decide+kernel
def o8 (l r:Addr):List (Str×V):=cJ "rights" (.ref r) (cJ "lefts" (.ref l) [])
theorem eV (l r:Addr):(o8 l r).lookup ("lefts" :Str)=some (.ref l):=by
 unfold o8
 rw[aD,if_neg YO,aD,if_pos rfl]
theorem gO (l r:Addr):(o8 l r).lookup ("rights" :Str)=some (.ref r):=by
 unfold o8
 rw[aD,if_pos rfl]
theorem x5 (l r:Addr) {m:Str} (h1:¬m="rights") (h2:¬m="lefts"):(o8 l r).lookup m=none:=by
 unfold o8
 rw[aD,if_neg h1,aD,if_neg h2]
 all_goals rfl
inductive Gs (Ch:Addr) (vs:List V) (H:Hp) (Q:VK) (E:XK):Prop
 |mk (p dx l r:Addr) (xs ys:List V) (dU:vs=[.ref p, .ref l, .ref r]) (dW:H p=some (.ins Ch dx [])) (d5:H l=some (.lst xs)) (fe:H r=some (.lst ys)) (gH:∀n m H',H n=none→H m=none→n≠m→H' p=some (.ins Ch dx (o8 n m))→H' n=some (.lst xs)→H' m=some (.lst ys)→(∀b o,H b=some o→b≠p→H' b=some o)→Q .cI H')
def Br (Ch:Addr):Sp:=Gs Ch
theorem Ky:ay ["self","lefts","rights"] ["self","lefts","rights"] (aj vy):=dq
theorem Gu (D:lA K Ch "Change.__init__" vy ["self","lefts","rights"] []) (T:Gp K mg C R G Pc Fo Ch uK uN uB uE uM uC uP uI uD uL uT fg fj fk):gG P w K mg base 1 Ch ["self","lefts","rights"] [] (Br Ch):=by
 refine D.cY Ky (fun vs H Q E h=>?_) (fun f bg A outer s H vs Q E hr h=>?_)
 ·obtain⟨p,dx,l,r,xs,ys,rfl,_⟩:=h
  rfl
 ·obtain⟨p,dx,l,r,xs,ys,rfl,hp,hl,IV,q⟩:=h
  refine⟨_,(ai
     (eP (pv 0) (bC fz rfl T.n_list mz (aa (pv 1) ak)) rfl)
    (ao
     (eP (pv 0) (bC fz rfl T.n_list mz (aa (pv 2) ak)) rfl))),?_⟩
  refine⟨_,rfl,l,xs,rfl, .inl (bS.of hl),fun n hn=>?_⟩
  have yR:p≠n:=ag hp hn
  have npr:r≠p:=cD IV hp (by intro z;cases z)
  refine⟨_,rfl,p,Ch,dx,[],rfl,(by rw[ah yR];exact hp),T.bY,T.hV,(by show 0<1000;decide),?_⟩
  refine⟨_,rfl,r,ys,rfl, .inl (bS.of (by rw[ah npr,ah (ag IV hn)];exact IV)),fun m hm=>?_⟩
  have nmp:p≠m:=ag af hm
  have SI:n≠m:=fun z=>by rw[←z,ah (Ne.symm yR),af] at hm;cases hm
  have hm0:H m=none:=by rwa [ah (Ne.symm nmp),ah (Ne.symm SI)] at hm
  refine⟨_,rfl,p,Ch,dx,_,rfl,(by rw[ah nmp];exact af),T.bY,T.i',(by show 1<1000;decide),?_⟩
  refine q n m _ hn hm0 SI af ?_ ?_ fun b o e hb=>?_
  ·rw[ah (Ne.symm yR),ah SI,ah (Ne.symm yR),af]
  ·rw[ah (Ne.symm nmp),af]
  ·rw[ah hb,ah (ag e hm0),ah hb,ah (ag e hn)]
   exact e
def dt (C G Pc Fo Ch:Addr) (H:Hp) (c:Addr) (xs ys:List Tm):Prop:=∃dx l r,H c=some (.ins Ch dx (o8 l r))∧ia C G Pc Fo H l xs∧ia C G Pc Fo H r ys
theorem dt.same {C G Pc Fo Ch:Addr} {H H':Hp} {c:Addr} {xs ys:List Tm} (h:dt C G Pc Fo Ch H c xs ys) (e:au H H'):dt C G Pc Fo Ch H' c xs ys:=let ⟨dx,l,r,h1,h2,h3⟩:=h;⟨dx,l,r,e _ _ h1,h2.same e,h3.same e⟩
def YV (xs ys:List Tm):Str:=ug xs++" -> " ++ug ys
theorem uh {xs:List Tm} (aX:∀x∈xs,iz (10^40) x) (SJ:xs.length≤10):(ug xs).length≤2000:=by
 unfold ug
 have e:=PyProof.Rows.join_closes (sep:=" + ") (sep':=" + ") (ys:=xs.map ro) rfl
 rw[show Txt.join " + " (xs.map ro)=Str.join " + " (xs.map ro) by simpa using e]
 have l3:(" + " :Str).length=3:=by decide+kernel
 have key:∀ys:List Str,(∀y∈ys,y.length≤100)→(Str.join " + " ys).length≤103*ys.length:=by
  intro ys
  induction ys with
  |nil=>intro _;exact Nat.zero_le _
  |cons y r ih=>
   intro h
   have h1:=h y (List.mem_cons_self ..)
   have h2:=ih fun z hz=>h z (List.mem_cons_of_mem _ hz)
   cases r with
   |nil=>
    show y.length≤103*1
    omega
   |cons z r'=>
    show (y++" + " ++Str.join " + " (z::r')).length≤_
    rw[bx,bx,l3,List.length_cons]
    omega
 have:=key (xs.map ro) fun y hy=>by
  obtain⟨x,hx,rfl⟩:=List.mem_map.mp hy
  exact Bo (Int.le_refl _) (aX x hx)
 rw[List.length_map] at this
 omega
variable {uC uP uI uD uL uT:Tok}
theorem rp (c:Int):∀(d:Nat) (m:Int) (t:Tr),bj d (m*c) t=(bj d m t).map fun p=>(p.1,p.2*c)
 |d,m, .one k n=>by
  have e1:bj d (m*c) (.one k n)=[(⟨k.toArray⟩,n*(m*c))]:=by cases d<;>rfl
  have e2:bj d m (.one k n)=[(⟨k.toArray⟩,n*m)]:=by cases d<;>rfl
  rw[e1,e2,List.map_cons,List.map_nil,Int.mul_assoc]
 |0,_, .gr _ _=>rfl
 |d+1,m, .gr ts n=>by
  show ts.flatMap (bj d (n*(m*c)))=(ts.flatMap (bj d (n*m))).map _
  rw[List.map_flatMap,←Int.mul_assoc]
  congr 1
  funext t
  exact rp c d (n*m) t
theorem Bs (t:Int) (acc:List (Key×V)) (as bs:List (Str×Int)):a7 t acc (as++bs)=a7 t (a7 t acc as) bs:=by
 unfold a7
 rw[List.foldl_append]
theorem Gv (t:Int) {acc:List (Key×V)} (hI:bu acc) (hn:(acc.map (·.1)).Nodup) (d:Nat) (x:Tr):
  iS t acc (a7 1 [] (bj d 1 x)) (a7 1 [] (bj d 1 x))=a7 1 acc (bj d t x):=by
 have e:=rp t d 1 x
 rw[Int.one_mul] at e
 rw[vR t 1 (bj d 1 x) hI hn,Int.one_mul,e,pX]
theorem Gw:bu []:=fun p hp=>by cases hp
theorem mul_int (c:Int) (all:List (Key×V)):∀(l acc:List (Key×V)),bu acc→bu (iS c acc l all)
 | [],_,h=>h
 |_::r,_,h=>mul_int c all r _ (h.add _ _)
theorem wg (c:Int) (all:List (Key×V)):∀(l acc:List (Key×V)),(iS c acc l all).length≤acc.length+l.length
 | [],_=>Nat.le_refl _
 |p::r,acc=>by
  have h1:=wg c all r (cA acc p.1 (aG all p.1*c))
  have h2:(cA acc p.1 (aG all p.1*c)).length≤acc.length+1:=dM _ _ _
  show (iS c (cA acc p.1 (aG all p.1*c)) r all).length≤_
  rw[List.length_cons]
  omega
theorem kL {n:Nat} (h:n≤1000):n<sizeLine:=Nat.lt_of_le_of_lt h (by decide)
theorem ja {H:Hp} {d e:Addr} {A F B E:HO} (pq:d≠e) (he:H e=some E):upd (upd (upd (upd H d A) e F) d B) e E=upd H d B:=by
 funext b
 by_cases h1:b=e
 ·subst h1
  rw[af,ah (Ne.symm pq),he]
 ·rw[ah h1]
  by_cases h2:b=d
  ·subst h2
   rw[af,af]
  ·rw[ah h2,ah h1,ah h2,ah h2]
theorem x6 (c:Int) (all acc:List (Key×V)) {i:Nat} {p:Key×V} (h:all[i]? =some p):iS c acc (all.take (i+1)) all=cA (iS c acc (all.take i) all) p.1 (aG all p.1*c):=by
 unfold iS
 rw[take_snoc h,List.foldl_append]
 rfl
theorem rq {X:Cx} {D:Ends} {l d e:Addr} {t:Int} {v3 v5:Option V} {H:Hp} {acc gy:List (Key×V)} (hu:X.A.units+1<cLine) (hd:H d=some (.dK acc)) (he:H e=some (.dK gy)) (pq:d≠e) (hI:bu acc) (SK:bu gy) (hl:acc.length+gy.length≤1000) (t1:1≤t) (t2:t≤999)
  (fin:∀z:Option V,D.nx [some (.ref l),some (.int t),some (.ref d),v3,some (.ref e),z] (upd H d (.dK (iS t acc gy gy)))):
  E4 X (Np (E3 X (jS 4)) (dB 5) (EU (jS 2) (jS 5) (Nq (IQ fun i j=> .int (i+j)) (ze (jS 2) (jS 5) (tC (.int 0))) (Nq (rI Jm fun i j=> .int (i*j)) (ET (jS 4) (jS 5)) (jS 1))))) D [some (.ref l),some (.int t),some (.ref d),v3,some (.ref e),v5] H:=by
 refine⟨_,rfl,e,gy,rfl,he,fun o nf=>fA nf (fun j σ H'=>∃z:Option V,σ=[some (.ref l),some (.int t),some (.ref d),v3,some (.ref e),z]∧H'=upd H d (.dK (iS t acc (gy.take j) gy))) ?_ ?_ ?_ ?_⟩
 ·exact⟨v5,rfl,(dO hd).symm⟩
 ·rintro i σ H' ⟨_,_,rfl⟩
  rw[ah (Ne.symm pq)]
  exact he
 ·rintro i k v σ H' hi ⟨z,rfl,rfl⟩
  have n4:∀o',(upd (upd H d (.dK (iS t acc (gy.take i) gy))) e o') d=some (.dK (iS t acc (gy.take i) gy)):=fun o'=>by rw[ah pq];exact af
  have hv:=SK.dZ (List.mem_of_getElem? hi)
  have Gx:bu (iS t acc (gy.take i) gy):=mul_int t gy _ _ hI
  have hli:=wg t gy (gy.take i) acc
  have Kz:(gy.take i).length≤gy.length:=List.length_take_le' _ _
  refine⟨_,rfl,d,rfl, .inl ⟨_, .inl (n4 _)⟩,_,rfl,_,gk.k (k:=k) (n4 _),_,rfl,_,rfl,e,V.int (aG gy k),rfl, .inl ⟨_,k, .inr ⟨o,af⟩,rfl,hv.symm⟩,_,rfl,_,_,rfl,rfl, .inr ⟨by omega,by omega⟩,_,_,Gx.at k,rfl,_,rfl,_,rfl,d,_,rfl,lz.k (k:=k) (n4 _) (kL ?_),?_⟩
  ·omega
  ·refine⟨by rw[ah (Ne.symm pq)];exact af,some (kV k),rfl,?_⟩
   rw[ja pq he,x6 t gy acc hi]
   rfl
 ·rintro σ H' ⟨z,rfl,rfl⟩
  rw[List.take_length]
  exact fin z
theorem dw:ay ["parts","times","total","part","inner","kind"] ["parts","times"] (aj i4):=dq
theorem Gy:ay ["self"] ["self"] (aj pK):=dq
theorem DC (D:bb K C "counts" "Atom.counts" pK ["self"]) (T:om K mg C):aM P w K mg base 1 C "counts" ["self"] (qO C):=by
 refine D.cY Gy (fun vs H Q E h=>?_) (fun f bg A outer s H vs Q E hr h=>?_)
 ·obtain⟨p,k,n,rfl,_⟩:=h
  rfl
 ·obtain⟨p,k,n,rfl,⟨dx,hp⟩,q⟩:=h
  refine⟨_,(ao
     (aE (AQ (xt (a0 (pv 0) rfl) (a0 (pv 0) rfl) AO) rfl rfl (by intro z;cases z) (by decide)))),?_⟩
  intro d hd
  have pj:∀o,(upd H d o) p=some (.ins C dx (vJ k n)):=fun o=>by rw[ah (ag hp hd)];exact hp
  refine⟨_,rfl,p,C,dx,_,_,rfl,pj _,T.gD,T.vN,tJ _ _,_,rfl,p,C,dx,_,_,rfl,pj _,T.gD,T.qP,qL _ _,af,[(Sum.inr k, .int n)],rfl,(by show 1≤15;decide),?_⟩
  rw[jc]
  exact q d hd
def ma (C G:Addr):Nat→Sp
 |0=>fun _ _ _ _=>False
 |d+1=>fun vs H Q _=>∃(g:Addr) (ts:List Tr) (n:Int),vs=[.ref g]∧eS C G (d+1) H g (.gr ts n)∧tT (d+1) (.gr ts n)∧(bj (d+1) 1 (.gr ts n)).length≤400∧∀e H',H e=none→H' e=some (.dK (a7 1 [] (bj (d+1) 1 (.gr ts n))))→au H H'→Q (.ref e) H'
inductive x8 (C G:Addr) (d:Nat) (vs:List V) (H:Hp) (Q:VK) (E:XK):Prop
 |mk (l:Addr) (ps:List Addr) (ts:List Tr) (t:Int) (dU:vs=[.ref l, .int t]) (dW:H l=some (.lst (ps.map V.ref))) (d5:Paired (eS C G d H) ps ts) (fe:(∀x∈ts,tT d x)) (gH:1≤t) (jb:t≤999) (nM:(ts.flatMap (bj d t)).length≤400) (su:∀e H',H e=none→H' e=some (.dK (a7 1 [] (ts.flatMap (bj d t))))→au H H'→Q (.ref e) H')
def jC (C G:Addr) (d:Nat):Sp:=x8 C G d
theorem DD (d:Nat) (t:Int) (x:Tr):(bj d t x).length=(bj d 1 x).length:=by
 have e:=rp t d 1 x
 rw[Int.one_mul] at e
 rw[e,List.length_map]
theorem wj {d:Nat} {t:Int} {ts:List Tr} {x:Tr} (h:x∈ts):(bj d 1 x).length≤(ts.flatMap (bj d t)).length:=by
 rw[←DD d t x]
 obtain⟨as,bs,rfl⟩:=List.append_of_mem h
 rw[List.flatMap_append,List.flatMap_cons,List.length_append,List.length_append]
 omega
theorem KA (k:Str) (n:Int):a7 1 [] [(k,n*1)]=[(Sum.inr k, .int n)]:=by
 show putK [] (Sum.inr k) (.int (aG [] (Sum.inr k)+n*1*1))=_
 rw[show aG [] (Sum.inr k:Key)=0 from rfl,Int.zero_add,Int.mul_one,Int.mul_one]
 rfl
theorem sC {d:Nat} {t:Int} (ts:List Tr) (i:Nat):((ts.take i).flatMap (bj d t)).length≤(ts.flatMap (bj d t)).length:=by
 conv=>rhs;rw[←List.take_append_drop i ts,List.flatMap_append,List.length_append]
 omega
theorem iM (l:List (Str×Int)):((a7 1 [] l).map (·.1)).Nodup:=vK 1 l [] List.nodup_nil
theorem bQ (l:List (Str×Int)):bu (a7 1 [] l):=iH 1 l [] Gw
theorem cU (l:List (Str×Int)):(a7 1 [] l).length≤l.length:=by
 have:=iI 1 l []
 rw[List.length_nil] at this
 omega
theorem o9 (d:Nat) (D:Def K mg "parts_counts" "parts_counts" i4 ["parts","times"]) (T:qU K mg C R G uK uN uB uE uM) (c1:aM P w K mg base 1 C "counts" ["self"] (qO C)) (c2:aM P w K mg base (2*d+1) G "counts" ["self"] (ma C G d)):a9 P w K mg base (2*d+2) "parts_counts" ["parts","times"] (jC C G d):=by
 obtain⟨_,_,iW⟩:=c1
 obtain⟨_,_,ib⟩:=c2
 refine D.cY dw (fun vs H Q E h=>?_) (fun f bg A outer s H vs Q E hr h=>?_)
 ·obtain⟨l,ps,ts,t,rfl,_⟩:=h
  rfl
 ·obtain⟨l,ps,ts,t,rfl,hl,hP,aX,t1,t2,hz,q⟩:=h
  have hu:=dn hr
  have lp:ps.length=ts.length:=Paired.length hP
  refine⟨_,(ai
     (aB (i:=2) dw.nd rfl (Or.inl rfl) dN)
    (ai
     (cq PassesOwn.never rfl (cG (pv 0)) (aK (i:=3) dw.nd rfl (Or.inl rfl))
      (ai
       (aB (i:=4) dw.nd rfl (Or.inl rfl) (E6 (aP (pv 3) T.gD iW.m iW.ok (hr.mono (by omega)) iW.b .nil aA) (aP (pv 3) T.eN ib.m ib.ok (hr.mono (by omega)) ib.b .nil aA)))
      (ao
       (eM (cq PassesOwn.never rfl (dE (pv 4)) (aK (i:=5) dw.nd rfl (Or.inl rfl))
        (ao
         (dX hu (pv 2) (pv 5) (az bO (bP hu (pv 2) (pv 5) aq ⟨rfl,rfl,rfl,rfl⟩) (az dI (bN hu (pv 4) (pv 5) (fun _ _=>rfl)) (pv 1))) rfl)))))))
    (ao
     (aE (pv 2))))),?_⟩
  intro e0 sh
  refine⟨_,rfl,l,rfl,⟨_,bS.of (au.new sh _ _ hl)⟩,eF (K:=K) (a:=l) (xs:=ps.map V.ref) (fun i σ H'=>∃v u z:Option V,σ=[some (.ref l),some (.int t),some (.ref e0),v,u,z]∧au H H'∧H' e0=some (.dK (a7 1 [] ((ts.take i).flatMap (bj d t))))) ?_ (fun i σ H' _ ⟨_,_,_,_,e,_⟩=>bS.of (e _ _ hl)) ?_ ?_⟩
  ·exact⟨none,none,none,rfl,au.new sh,af⟩
  ·rintro i v σ H' hi ⟨v',u,z,rfl,e,gA⟩
   rw[List.getElem?_map] at hi
   obtain⟨p,hp,rfl⟩:∃p,ps[i]? =some p∧v=V.ref p:=by
    cases hh:ps[i]? with
    |none=>rw[hh] at hi;cases hi
    |some p=>rw[hh] at hi;exact⟨p,rfl,(Option.some.inj hi).symm⟩
   obtain⟨x,hx,hT⟩:=bI hP hp
   have hT:=hT.same e
   have iN:=aX x (List.mem_of_getElem? hx)
   have lx:=Nat.le_trans (wj (d:=d) (t:=t) (List.mem_of_getElem? hx)) hz
   have li:=Nat.le_trans (sC (d:=d) (t:=t) ts i) hz
   have jk:a7 1 [] ((ts.take (i+1)).flatMap (bj d t))=iS t (a7 1 [] ((ts.take i).flatMap (bj d t))) (a7 1 [] (bj d 1 x)) (a7 1 [] (bj d 1 x)):=by
    rw[Gv t (bQ _) (iM _),take_snoc hx,List.flatMap_append,List.flatMap_cons,List.flatMap_nil,List.append_nil,Bs]
   have hlen:(a7 1 [] ((ts.take i).flatMap (bj d t))).length+(a7 1 [] (bj d 1 x)).length≤1000:=by
    have:=cU ((ts.take i).flatMap (bj d t))
    have:=cU (bj d 1 x)
    omega
   cases x with
   |one k n=>
    have Mh:lY k∧1≤n∧n≤999:=by cases d<;>exact iN
    have hA:gC C H' p ⟨k.toArray⟩ n:=by cases d<;>exact hT
    have ef:bj d 1 (.one k n)=[(⟨k.toArray⟩,n*1)]:=by cases d<;>rfl
    rw[ef,KA] at jk hlen
    obtain⟨dx,pj⟩:=id hA
    refine Or.inl ⟨_,rfl,p,dx,_,rfl,pj,A3 _ _ (by decide+kernel) (by decide+kernel),p,_,n,rfl,hA,fun b hb=>?_⟩
    have nb:e0≠b:=ag gA hb
    refine rq hu (by rw[ah nb];exact gA) af nb (bQ _) (fun q hq=>⟨n,by rw[List.mem_singleton.mp hq]⟩) hlen t1 t2 fun z'=>⟨_,_,_,rfl,fun b' o w'=>?_,?_⟩
    ·rw[ah (ag w' sh),ah (ag (e _ _ w') hb)]
     exact e _ _ w'
    ·rw[af,jk]
   |gr us n=>
    cases d with
    |zero=>exact iN.elim
    |succ d=>
     obtain⟨dx,l',QS,h1,h2,h3⟩:=id hT
     refine Or.inr ⟨_,rfl,p,dx,_,rfl,h1,mV _ _ (by decide+kernel) (by decide+kernel),p,us,n,rfl,hT,iN,lx,fun b cp nb hb e'=>?_⟩
     refine rq hu (e' _ _ gA) hb (ag gA nb) (bQ _) (bQ _) hlen t1 t2 fun z'=>⟨_,_,_,rfl,fun b' o w'=>?_,?_⟩
     ·rw[ah (ag w' sh)]
      exact e' _ _ (e _ _ w')
     ·rw[af,jk]
  ·rintro σ H' ⟨v,u,z,rfl,e,gA⟩
   rw[List.length_map,lp,List.take_length] at gA
   exact⟨_,rfl,q e0 H' sh gA e⟩
theorem uk:ay ["self"] ["self"] (aj i6):=dq
theorem x9 (D:bb K G "counts" "Group.counts" i6 ["self"]):aM P w K mg base 1 G "counts" ["self"] (ma C G 0):=
 D.cY (k:=0) uk (fun vs H Q E h=>h.elim) (fun f bg A outer s H vs Q E hr h=>h.elim)
theorem ya (d:Nat) (D:bb K G "counts" "Group.counts" i6 ["self"]) (T:qU K mg C R G uK uN uB uE uM) (c1:a9 P w K mg base (2*d+2) "parts_counts" ["parts","times"] (jC C G d)):aM P w K mg base (2*d+3) G "counts" ["self"] (ma C G (d+1)):=by
 obtain⟨_,_,bc⟩:=c1
 refine D.cY uk (fun vs H Q E h=>?_) (fun f bg A outer s H vs Q E hr h=>?_)
 ·obtain⟨g,ts,n,rfl,_⟩:=h
  rfl
 ·obtain⟨g,ts,n,rfl,⟨dx,l,ps,h1,h2,h3⟩,⟨ne,aX,n1,n2⟩,hz,q⟩:=h
  have e:bj (d+1) 1 (.gr ts n)=ts.flatMap (bj d n):=by
   show ts.flatMap (bj d (n*1))=_
   rw[Int.mul_one]
  rw[e] at hz q
  refine⟨_,(ao
     (aE (aF bc.ok (hr.mono (by omega)) rfl bc.g bc.kp bc.b .nil aA (aa (a0 (pv 0) rfl) (aa (a0 (pv 0) rfl) ak))))),?_⟩
  exact⟨_,rfl,g,G,dx,_,_,rfl,h1,T.eN,T.ou,iJ _ _,_,rfl,g,G,dx,_,_,rfl,h1,T.eN,T.ow,iK _ _,l,ps,ts,n,rfl,h2,h3,aX,n1,n2,hz,q⟩
theorem rA (D1:Def K mg "parts_counts" "parts_counts" i4 ["parts","times"]) (D2:bb K G "counts" "Group.counts" i6 ["self"]) (T:qU K mg C R G uK uN uB uE uM) (c1:aM P w K mg base 1 C "counts" ["self"] (qO C)):∀d:Nat,a9 P w K mg base (2*d+2) "parts_counts" ["parts","times"] (jC C G d)
 |0=>o9 0 D1 T c1 (x9 D2)
 |d+1=>o9 (d+1) D1 T c1 (ya d D2 T (rA D1 D2 T c1 d))
inductive px (C G Pc:Addr) (d:Nat) (vs:List V) (H:Hp) (Q:VK) (E:XK):Prop
 |mk (q:Addr) (x:jO) (dU:vs=[.ref q]) (dW:jx C G Pc d H q x) (d5:Fq d x) (fe:(cx d x).length≤400) (gH:∀e H',H e=none→H' e=some (.dK (a7 1 [] (cx d x)))→au H H'→Q (.ref e) H')
def ki (C G Pc:Addr) (d:Nat):Sp:=px C G Pc d
theorem sF:ay ["self"] ["self"] (aj gK):=dq
theorem pz (d:Nat) (D:bb K Pc "counts" "Piece.counts" gK ["self"]) (T:lC K mg C R G Pc Fo uK uN uB uE uM uC uP uI uD uL uT) (c1:a9 P w K mg base (2*d+2) "parts_counts" ["parts","times"] (jC C G d)):aM P w K mg base (2*d+3) Pc "counts" ["self"] (ki C G Pc d):=by
 obtain⟨_,_,bc⟩:=c1
 refine D.cY sF (fun vs H Q E h=>?_) (fun f bg A outer s H vs Q E hr h=>?_)
 ·obtain⟨q,x,rfl,_⟩:=h
  rfl
 ·obtain⟨g,x,rfl,⟨dx,l,ps,h1,h2,h3⟩,⟨ne,aX,n1,n2⟩,hz,q⟩:=h
  refine⟨_,(ao
     (aE (aF bc.ok (hr.mono (by omega)) rfl bc.g bc.kp bc.b .nil aA (aa (a0 (pv 0) rfl) (aa (a0 (pv 0) rfl) ak))))),?_⟩
  exact⟨_,rfl,g,Pc,dx,_,_,rfl,h1,T.dj,T.oB,iJ _ _,_,rfl,g,Pc,dx,_,_,rfl,h1,T.dj,T.oC,iK _ _,l,ps,x.2,x.1,rfl,h2,h3,aX,n1,n2,hz,q⟩
inductive yb (C G Pc:Addr) (d:Nat) (vs:List V) (H:Hp) (Q:VK) (E:XK):Prop
 |mk (l:Addr) (ps:List Addr) (xs:List jO) (dU:vs=[.ref l, .int 1]) (dW:H l=some (.lst (ps.map V.ref))) (d5:Paired (jx C G Pc d H) ps xs) (fe:(∀x∈xs,Fq d x)) (gH:(xs.flatMap (cx d)).length≤400) (jb:∀e H',H e=none→H' e=some (.dK (cW d xs))→au H H'→Q (.ref e) H')
def rB (C G Pc:Addr) (d:Nat):Sp:=yb C G Pc d
theorem yc (d:Nat) (D:Def K mg "parts_counts" "parts_counts" i4 ["parts","times"]) (T:lC K mg C R G Pc Fo uK uN uB uE uM uC uP uI uD uL uT) (c1:aM P w K mg base (2*d+3) Pc "counts" ["self"] (ki C G Pc d)):a9 P w K mg base (2*d+4) "parts_counts" ["parts","times"] (rB C G Pc d):=by
 obtain⟨_,_,ic⟩:=c1
 refine D.cY dw (fun vs H Q E h=>?_) (fun f bg A outer s H vs Q E hr h=>?_)
 ·obtain⟨l,ps,xs,rfl,_⟩:=h
  rfl
 ·obtain⟨l,ps,xs,rfl,hl,hP,aX,hz,q⟩:=h
  have hu:=dn hr
  have lp:ps.length=xs.length:=Paired.length hP
  refine⟨_,(ai
     (aB (i:=2) dw.nd rfl (Or.inl rfl) dN)
    (ai
     (cq PassesOwn.never rfl (cG (pv 0)) (aK (i:=3) dw.nd rfl (Or.inl rfl))
      (ai
       (aB (i:=4) dw.nd rfl (Or.inl rfl) (aP (pv 3) T.dj ic.m ic.ok (hr.mono (by omega)) ic.b .nil aA))
      (ao
       (eM (cq PassesOwn.never rfl (dE (pv 4)) (aK (i:=5) dw.nd rfl (Or.inl rfl))
        (ao
         (dX hu (pv 2) (pv 5) (az bO (bP hu (pv 2) (pv 5) aq ⟨rfl,rfl,rfl,rfl⟩) (az dI (bN hu (pv 4) (pv 5) (fun _ _=>rfl)) (pv 1))) rfl)))))))
    (ao
     (aE (pv 2))))),?_⟩
  intro e0 sh
  refine⟨_,rfl,l,rfl,⟨_,bS.of (au.new sh _ _ hl)⟩,eF (K:=K) (a:=l) (xs:=ps.map V.ref) (fun i σ H'=>∃v u z:Option V,σ=[some (.ref l),some (.int 1),some (.ref e0),v,u,z]∧au H H'∧H' e0=some (.dK (cW d (xs.take i)))) ?_ (fun i σ H' _ ⟨_,_,_,_,e,_⟩=>bS.of (e _ _ hl)) ?_ ?_⟩
  ·exact⟨none,none,none,rfl,au.new sh,af⟩
  ·rintro i v σ H' hi ⟨v',u,z,rfl,e,gA⟩
   rw[List.getElem?_map] at hi
   obtain⟨p,hp,rfl⟩:∃p,ps[i]? =some p∧v=V.ref p:=by
    cases hh:ps[i]? with
    |none=>rw[hh] at hi;cases hi
    |some p=>rw[hh] at hi;exact⟨p,rfl,(Option.some.inj hi).symm⟩
   obtain⟨x,hx,hT⟩:=bI hP hp
   have hT:=hT.same e
   have iN:=aX x (List.mem_of_getElem? hx)
   have lx:(cx d x).length≤400:=by
    refine Nat.le_trans ?_ hz
    obtain⟨as,bs,rfl⟩:=List.append_of_mem (List.mem_of_getElem? hx)
    rw[List.flatMap_append,List.flatMap_cons,List.length_append,List.length_append]
    omega
   have li:((xs.take i).flatMap (cx d)).length≤400:=by
    refine Nat.le_trans ?_ hz
    conv=>rhs;rw[←List.take_append_drop i xs,List.flatMap_append,List.length_append]
    omega
   have jk:cW d (xs.take (i+1))=iS 1 (cW d (xs.take i)) (a7 1 [] (cx d x)) (a7 1 [] (cx d x)):=by
    unfold cW
    rw[vR 1 1 (cx d x) (bQ _) (iM _),take_snoc hx,List.flatMap_append,List.flatMap_cons,List.flatMap_nil,List.append_nil,Bs]
    rfl
   obtain⟨dx,l',QS,h1,h2,h3⟩:=id hT
   refine⟨_,rfl,p,dx,_,rfl,h1,mV _ _ (by decide+kernel) (by decide+kernel),p,x,rfl,hT,iN,lx,fun b cp nb hb e'=>?_⟩
   refine rq hu (e' _ _ gA) hb (ag gA nb) (bQ _) (bQ _) ?_ (by decide) (by decide) fun z'=>⟨_,_,_,rfl,fun b' o w'=>?_,?_⟩
   ·have z1:(cW d (xs.take i)).length≤((xs.take i).flatMap (cx d)).length:=cU ((xs.take i).flatMap (cx d))
    have z2:=cU (cx d x)
    omega
   ·rw[ah (ag w' sh)]
    exact e' _ _ (e _ _ w')
   ·rw[af,jk]
  ·rintro σ H' ⟨v,u,z,rfl,e,gA⟩
   rw[List.length_map,lp,List.take_length] at gA
   exact⟨_,rfl,q e0 H' sh gA e⟩
inductive yd (C G Pc Fo:Addr) (d:Nat) (vs:List V) (H:Hp) (Q:VK) (E:XK):Prop
 |mk (f:Addr) (xs:List jO) (n:Int) (dU:vs=[.ref f]) (dW:o6 C G Pc Fo d H f xs n) (d5:Kk d xs n) (fe:(xs.flatMap (cx d)).length≤400) (gH:∀e H',H e=none→H' e=some (.dK (cW d xs))→au H H'→Q (.ref e) H')
def md (C G Pc Fo:Addr) (d:Nat):Sp:=yd C G Pc Fo d
theorem k9 {d:Nat} {xs:List jO} {n:Int} (h:Kk d xs n):∀x∈xs,Fq d x:=by
 cases xs with
 |nil=>intro x hx;cases hx
 |cons y r=>exact h.2.1
theorem DE:ay ["self"] ["self"] (aj mJ):=dq
theorem ye (d:Nat) (D:bb K Fo "counts" "Formula.counts" mJ ["self"]) (T:lC K mg C R G Pc Fo uK uN uB uE uM uC uP uI uD uL uT) (c1:a9 P w K mg base (2*d+4) "parts_counts" ["parts","times"] (rB C G Pc d)):aM P w K mg base (2*d+5) Fo "counts" ["self"] (md C G Pc Fo d):=by
 obtain⟨_,_,bc⟩:=c1
 refine D.cY DE (fun vs H Q E h=>?_) (fun f bg A outer s H vs Q E hr h=>?_)
 ·obtain⟨f,xs,n,rfl,_⟩:=h
  rfl
 ·obtain⟨g,xs,n,rfl,⟨dx,l,ps,h1,h2,h3⟩,aX,hz,q⟩:=h
  refine⟨_,(ao
     (aE (aF bc.ok (hr.mono (by omega)) rfl bc.g bc.kp bc.b .nil aA (aa (a0 (pv 0) rfl) (aa aq ak))))),?_⟩
  exact⟨_,rfl,g,Fo,dx,_,_,rfl,h1,T.bL,T.jy,jw _ _,l,ps,xs,rfl,h2,h3,k9 aX,hz,q⟩
variable {uC uP uI uD uL uT fg fj fk uG uS:Tok} {Ch:Addr}
structure oJ (K:PySem.W.Frag) (mg:Str→Option Value) (C R G Pc Fo Ch:Addr) (uK uN uB uE uM uC uP uI uD uL uT fg fj fk uG uS:Tok):Prop extends Gp K mg C R G Pc Fo Ch uK uN uB uE uM uC uP uI uD uL uT fg fj fk where
 kj:mg "LONGEST_TERM_COUNT" =some (.int 12 uG)
 rC:mg "ChangeReader" =some (.ref R)
 wk:mg "MOST_TERMS" =some (.int 8 uS)
def yL (n:Int):List Nat:=if n=1 then [] else [32]
def ie (x:Tm):List Nat:=aR x.1++(yL x.1++fL x.2)
def NewQ (C G Pc Fo:Addr) (H H':Hp) (t:Addr) (x:Tm):Prop:=∀cp,(∀b o,H b=none→H' b=some o→cp b=some o)→jB C G Pc Fo cp t x
def Mp (C G Pc Fo L:Addr) (H H':Hp) (t:Addr) (x:Tm):Prop:=∀cp,(∀b o,H b=none→b≠L→H' b=some o→cp b=some o)→jB C G Pc Fo cp t x
def Mq (C G Pc Fo:Addr) (H H':Hp) (l:Addr) (xs:List Tm):Prop:=H l=none∧∃ps,H' l=some (.lst (ps.map V.ref))∧∀cp,(∀b o,H b=none→H' b=some o→cp b=some o)→Paired (jB C G Pc Fo cp) ps xs
abbrev fQ (x:Tm):Prop:=iz 999999999999 x
inductive Gz (C G Pc Fo R:Addr) (vs:List V) (H:Hp) (Q:VK) (E:XK):Prop
 |mk (r:Addr) (x:Str) (p:Nat) (tm:Tm) (post:List Nat) (dU:vs=[.ref r]) (dW:dh R H r x p) (d5:Here x p (ie tm) post) (fe:Eu post) (gH:fQ tm) (jb:x.length≤1000) (nM:∀t H',H t=none→NewQ C G Pc Fo H H' t tm→dh R H' r x (p+(ie tm).length)→Kept r H H'→Q (.ref t) H')
def wm (C G Pc Fo R:Addr):Sp:=Gz C G Pc Fo R
theorem e32:(" " :Str)=⟨#[32]⟩:=by decide+kernel
theorem OO {x:Fm} (h:Kk 1 x.1 x.2) (post:List Nat):Not xb (fL x++post):=by
 obtain⟨xs,n⟩:=x
 cases xs with
 |nil=>
  intro c hc
  rw[show fL ([],n)=[101,94,45] from rfl] at hc
  have e:101=c:=by simpa using hc
  subst e
  rfl
 |cons x0 r0=>
  obtain⟨_,Du,_⟩:=h
  have OC:=Du x0 (List.mem_cons_self ..)
  have e:fL (x0::r0,n)++post=x0.2.flatMap (b9 1)++(cR 1 r0++i9 n++post):=by
   show x0.2.flatMap (b9 1)++(cR 1 r0++i9 n)++post=_
   rw[List.append_assoc]
  rw[e]
  cases hx:x0.2 with
  |nil=>exact absurd hx OC.1
  |cons t ts=>
   obtain⟨c,rest,hc,ht⟩:=oA (OC.2.1 t (by rw[hx];exact List.mem_cons_self ..))
   intro b hb
   rw[List.flatMap_cons,hc] at hb
   have e:c=b:=by simpa using hb
   subst e
   rcases ht with ⟨hg,_⟩ | ⟨rfl,_⟩
   ·simp only [Es,xb,Bool.and_eq_true,decide_eq_true_eq] at*
    simp
    omega
   ·rfl
theorem KC {x:Tm} (h:Kk 1 x.2.1 x.2.2) (post:List Nat):Not xb (yL x.1++fL x.2++post):=by
 unfold yL
 split
 ·exact OO h post
 ·intro c hc
  have e:32=c:=by simpa using hc
  subst e
  rfl
theorem Mr {n:Int} (h1:1≤n) (h2:n≤999999999999):((aR n).length:Int)≤12:=by
 obtain⟨m,rfl⟩:=Int.eq_ofNat_of_zero_le (show 0≤n by omega)
 have:=kW (n:=m) (k:=12) (by decide) (by omega)
 rw[cS,bh] at this
 show ((aR (m:Int)).length:Int)≤12
 omega
theorem Bt:ay ["self","count"] ["self"] (aj vA):=dq
theorem GA (D:bb K R "read_term" "ChangeReader.read_term" vA ["self"]) (T:oJ K mg C R G Pc Fo Ch uK uN uB uE uM uC uP uI uD uL uT fg fj fk uG uS) (c1:aM P w K mg base 2 R "read_number" ["self","longest"] (qQ R)) (c2:aM P w K mg base 2 R "take" ["self","sign"] (lX R)) (c3:aM P w K mg base 10 R "read_whole" ["self"] (q9 C G Pc Fo R 1)):
  aM P w K mg base 11 R "read_term" ["self"] (wm C G Pc Fo R):=by
 obtain⟨_,_,bF⟩:=c1
 obtain⟨_,_,aH⟩:=c2
 obtain⟨_,_,bH⟩:=c3
 refine D.cY Bt (fun vs H Q E h=>?_) (fun f bg A outer s H vs Q E hr h=>?_)
 ·obtain⟨r,x,p,tm,post,rfl,_⟩:=h
  rfl
 ·obtain⟨r,x,p,tm,post,rfl,⟨dx,hR⟩,hh,IU,⟨n1,n2,SM⟩,hx,q⟩:=h
  refine⟨_,(ai
     (aB (i:=1) Bt.nd rfl (Or.inl rfl) (bU (pv 0) T.ax bF.m bF.ok (hr.mono (by decide)) bF.b .nil aA (aa (bp (v:= .int 12) rfl T.kj ⟨_,rfl⟩) ak)))
    (ai
     (bE (aO jM (pv 1) aq (aQ _))
      (ao
       (bw (bU (pv 0) T.ax aH.m aH.ok (hr.mono (by decide)) aH.b .nil aA (aa (bp (v:= .str " ") rfl T.Kx ⟨_,rfl⟩) ak))))
      aS)
    (ao
     (aE (bW (aa (pv 1) (aa (aP (pv 0) T.ax bH.m bH.ok (hr.mono (by decide)) bH.b .nil aA) ak))))))),?_⟩
  have zL:Here x p (aR tm.1) (yL tm.1++fL tm.2++post):=⟨hh.1,by rw[hh.2];unfold ie;rw[List.append_assoc]⟩
  have Oy:Here x (p+(aR tm.1).length) (yL tm.1++fL tm.2) post:=Here.on hh
  have Et:Here x (p+(aR tm.1).length+(yL tm.1).length) (fL tm.2) post:=Here.on Oy
  refine⟨_,rfl,r,dx,_,rfl,hR,aJ _ _ (by decide+kernel) (by decide+kernel),r,x,p,tm.1,12,_,rfl,⟨dx,hR⟩,zL,n1,by omega,Mr n1 n2,KC SM.1 post,hx,fun H1 eL k1=>?_⟩
  obtain⟨nN,eL⟩:=eL
  dsimp only [dB]
  refine fD (fun σ' H'=>σ'=[some (.ref r),some (.int tm.1)]∧dh R H' r x (p+(aR tm.1).length+(yL tm.1).length)∧Kept r H H') (fun N hN=>?_) ?_
  ·refine⟨_,rfl,_,_,rfl,rfl,_,rfl,dY (fun e=>?_) fun e=>?_⟩
   ·have e:1<tm.1:=by simpa using e
    have eb:yL tm.1=[32]:=if_neg (by omega)
    rw[eb] at Oy hN
    refine⟨_,rfl,r,nN,_,rfl,eL,aJ _ _ (by decide+kernel) (by decide+kernel),r,x,_,_,32,_,post,rfl,e32,⟨nN,eL⟩,Oy,hx,fun H2 iw k2=>hN _ _ ⟨rfl,iw,k1.trans k2⟩⟩
   ·have e:¬1<tm.1:=by simpa using e
    have eb:yL tm.1=[]:=if_pos (by omega)
    rw[eb] at hN
    exact hN _ _ ⟨rfl,⟨nN,eL⟩,k1⟩
  rintro σ' H2 ⟨rfl,⟨pU,iw⟩,k2⟩
  refine⟨_,rfl,_,rfl,r,pU,_,rfl,iw,aJ _ _ (by decide+kernel) (by decide+kernel),r,x,_,tm.2.1,tm.2.2,post,rfl,⟨pU,iw⟩,Et,IU,SM.1,by decide,hx,fun f H3 nf hF ix k3=>⟨(by show 2≤sizeLine;decide),fun t ht=>?_⟩⟩
  obtain⟨sf,ix⟩:=ix
  have k13:=k2.trans k3
  have st:=au.new (o:= .tup [.int tm.1, .ref f]) ht
  refine q t _ (a5 k13 ix ht) (fun cp ke=>⟨f,ke _ _ (a5 k13 ix ht) af,hF cp fun b o z1 z2=>ke b o (a5 k2 iw z1) (st _ _ z2)⟩) ⟨sf,?_⟩ (k13.trans (Kept.of st))
  rw[st _ _ ix]
  have e:(ie tm).length=(aR tm.1).length+((yL tm.1).length+(wL 1 tm.2.1 tm.2.2).length):=by
   unfold ie
   rw[List.length_append,List.length_append]
   rfl
  rw[e]
  congr 3
  omega
variable {uC uP uI uD uL uT fg fj fk uG uS:Tok} {Ch:Addr}
def GB (x:Tm):List Nat:=[32,43,32]++ie x
def ig (xs:List Tm):List Nat:=xs.flatMap GB
def sG:List Tm→List Nat
 | []=>[]
 |x::r=>ie x++ig r
def pY:List Nat:=[32,45,62,32]
inductive DF (C G Pc Fo R:Addr) (vs:List V) (H:Hp) (Q:VK) (E:XK):Prop
 |mk (r:Addr) (x:Str) (p:Nat) (xs:List Tm) (post:List Nat) (dU:vs=[.ref r]) (dW:dh R H r x p) (d5:Here x p (sG xs++pY) post) (fe:xs≠[]) (gH:(∀t∈xs,fQ t)) (jb:x.length≤1000) (nM:∀l H',Mq C G Pc Fo H H' l xs→dh R H' r x (p+(sG xs++pY).length)→Kept r H H'→Q (.ref l) H')
def yf (C G Pc Fo R:Addr):Sp:=DF C G Pc Fo R
inductive z8 (C G Pc Fo R:Addr) (vs:List V) (H:Hp) (Q:VK) (E:XK):Prop
 |mk (r:Addr) (x:Str) (p:Nat) (xs:List Tm) (dU:vs=[.ref r]) (dW:dh R H r x p) (d5:Here x p (sG xs) []) (fe:xs≠[]) (gH:(∀t∈xs,fQ t)) (jb:x.length≤1000) (nM:∀l H',Mq C G Pc Fo H H' l xs→Kept r H H'→(∃o,H' r=some o)→Q (.ref l) H')
def um (C G Pc Fo R:Addr):Sp:=z8 C G Pc Fo R
theorem wo (xs:List Tm) {post:List Nat} (h:Eu post):Eu (ig xs++post):=by
 cases xs with
 |nil=>exact h
 |cons x r=>exact .inr ⟨_,rfl⟩
theorem wq (x:Tm):(GB x).length=3+(ie x).length:=by
 unfold GB
 rw[List.length_append]
 rfl
theorem wt:∀xs:List Tm,xs.length≤(ig xs).length
 | []=>Nat.zero_le _
 |x::r=>by
  have:=wt r
  have h:=wq x
  show r.length+1≤(GB x++ig r).length
  rw[List.length_append]
  omega
theorem Bu (xs:List Tm) (i:Nat):(ig (xs.take i)).length≤(ig xs).length:=by
 unfold ig
 conv=>rhs;rw[←List.take_append_drop i xs,List.flatMap_append,List.length_append]
 omega
theorem eJ:(" + " :Str).cps.toList=[32,43,32]:=by decide+kernel
theorem eJa:(" + " :Str).cps.all (· <128)=true:=by decide+kernel
theorem eJl:(" + " :Str).length=3:=by decide+kernel
theorem eA:(" -> " :Str).cps.toList=pY:=by decide+kernel
theorem eAa:(" -> " :Str).cps.all (· <128)=true:=by decide+kernel
theorem eAl:(" -> " :Str).length=4:=by decide+kernel
theorem DG (x:Str) {p:Nat} (hp:p+1≤x.length):Txt.slice x (some ((p:Int)+1)) (some ((p:Int)+2))=eR x (p+1):=by
 have:=tO x hp
 have e:(((p+1 :Nat):Int))+1=(p:Int)+2:=by omega
 rw[e] at this
 exact this
theorem yg:ay ["self","terms"] ["self"] (aj pL):=dq
theorem DH (D:bb K R "read_lefts" "ChangeReader.read_lefts" pL ["self"]) (T:oJ K mg C R G Pc Fo Ch uK uN uB uE uM uC uP uI uD uL uT fg fj fk uG uS) (c1:aM P w K mg base 11 R "read_term" ["self"] (wm C G Pc Fo R)) (c2:aM P w K mg base 3 R "take_all" ["self","signs"] (kZ R)):
  aM P w K mg base 12 R "read_lefts" ["self"] (yf C G Pc Fo R):=by
 obtain⟨_,_,aW⟩:=c1
 obtain⟨_,_,aV⟩:=c2
 refine D.cY yg (fun vs H Q E h=>?_) (fun f bg A outer s H vs Q E hr h=>?_)
 ·obtain⟨r,x,p,xs,post,rfl,_⟩:=h
  rfl
 ·obtain⟨r,x,p,xs,post,rfl,⟨dx,hR⟩,hh,pq,aX,hx,q⟩:=h
  have big:(2000 :Nat)≤sizeLine:=by decide
  obtain⟨x0,r0,rfl⟩:∃x0 r0,xs=x0::r0:=by
   cases xs with
   |nil=>exact absurd rfl pq
   |cons a b=>exact⟨a,b,rfl⟩
  refine⟨_,(ai
     (aB (i:=1) yg.nd rfl (Or.inl rfl) (cu (aa (aP (pv 0) T.ax aW.m aW.ok (hr.mono (by decide)) aW.b .nil aA) ak)))
    (ai
     (iZ PassesOwn.never (aO qk (mr vi (a0 (pv 0) rfl) (iA (az bO (a0 (pv 0) rfl) aq)) (iA (az bO (a0 (pv 0) rfl) aq))) (cF u7 (bp (v:= .str " -> ") rfl T.Bq ⟨_,rfl⟩) aq (fun _ _=>rfl)) (aQ _))
      (ai
       (bw (bU (pv 0) T.ax aV.m aV.ok (hr.mono (by decide)) aV.b .nil aA (aa (bp (v:= .str " + ") rfl T.Bp ⟨_,rfl⟩) ak)))
      (ao
       (bw (iB PySem.F.plainAttrs_list PySem.F.slot_list_append PySem.F.type_list_append dv (pv 1) (aa (aP (pv 0) T.ax aW.m aW.ok (hr.mono (by decide)) aW.b .nil aA) ak))))))
    (ai
     (bw (bU (pv 0) T.ax aV.m aV.ok (hr.mono (by decide)) aV.b .nil aA (aa (bp (v:= .str " -> ") rfl T.Bq ⟨_,rfl⟩) ak)))
    (ao
     (aE (pv 1)))))),?_⟩
  have hw:Here x p (ie x0++(ig r0++pY)) post:=⟨hh.1,by rw[hh.2];show (ie x0++ig r0)++pY++post=_;simp only [List.append_assoc]⟩
  have F2:Here x p (ie x0) (ig r0++(pY++post)):=⟨hw.1,by rw[hw.2];simp only [List.append_assoc]⟩
  have hb:Here x (p+(ie x0).length) (ig r0++pY) post:=Here.on hw
  have Ep:Here x (p+(ie x0).length) (ig r0) (pY++post):=⟨hb.1,by rw[hb.2];simp only [List.append_assoc]⟩
  have OP:Here x (p+(ie x0).length+(ig r0).length) pY post:=Here.on hb
  have ea:Eu (pY++post):= .inr ⟨_,rfl⟩
  refine⟨_,rfl,r,dx,_,rfl,hR,aJ _ _ (by decide+kernel) (by decide+kernel),r,x,p,x0,_,rfl,⟨dx,hR⟩,F2,wo r0 ea,aX x0 (List.mem_cons_self ..),hx,fun t0 H1 nt0 hN eL k1=>⟨(by show 1≤sizeLine;decide),fun L hL=>?_⟩⟩
  obtain⟨nN,eL⟩:=eL
  have xc:H L=none:=a5 k1 eL hL
  have xV:L≠r:=fun z=>by rw[z,eL] at hL;cases hL
  have sL:au H1 (upd H1 L (.lst [V.ref t0])):=au.new hL
  refine⟨fun k σ H'=>∃i:Nat,k+i=r0.length∧σ=[some (.ref r),some (.ref L)]∧dh R H' r x (p+(ie x0).length+(ig (r0.take i)).length)∧Kept r H H'∧∃ps,H' L=some (.lst (ps.map V.ref))∧ps.length=i+1∧Paired (Mp C G Pc Fo L H H') ps (x0::r0.take i),⟨r0.length,0,by omega,rfl,⟨nN,sL _ _ eL⟩,k1.trans (Kept.of sL),[t0],af,rfl, .cons (fun cp ke=>hN cp fun b o z1 z2=>ke b o z1 (ag z2 hL) (sL _ _ z2)) .nil⟩,?_⟩
  rintro k σ H' ⟨i,hk,rfl,⟨dH,eD⟩,kk,ps,pV,iu,hP⟩
  have hle:=OP.le
  have yM:=Bu r0 i
  have hr0:=wt r0
  have a4:pY.length=4:=rfl
  refine⟨_,rfl,r,R,dH,_,_,rfl,eD,T.ax,T.ju,fY _ _,_,rfl,r,R,dH,_,_,rfl,eD,T.ax,T.cm,bz _ _,_,_,rfl,rfl,_,rfl,_,rfl,r,R,dH,_,_,rfl,eD,T.ax,T.cm,bz _ _,_,_,rfl,rfl,_,rfl,x,rfl,by omega," -> ",1,45,rfl,rfl,(by decide+kernel),(by decide+kernel),rfl,_,rfl,?_⟩
  rw[DG x (by omega)]
  by_cases hi:i<r0.length
  ·have h2:Here x (p+(ie x0).length+(ig (r0.take i)).length) (GB r0[i]) (ig (r0.drop (i+1))++(pY++post)):=vZ GB Ep hi
   have Kl:=aX _ (List.mem_cons_of_mem _ (List.getElem_mem hi))
   have h3:Here x (p+(ie x0).length+(ig (r0.take i)).length) [32,43,32] (ie r0[i]++(ig (r0.drop (i+1))++(pY++post))):=⟨h2.1,by rw[h2.2];rfl⟩
   have h4:Here x (p+(ie x0).length+(ig (r0.take i)).length+3) (ie r0[i]) (ig (r0.drop (i+1))++(pY++post)):=Here.on (t:=[32,43,32]) h2
   have h5:eR x (p+(ie x0).length+(ig (r0.take i)).length+1)=⟨#[43]⟩:=(Here.on (t:=[32]) (u:=[43,32]) h3).sg
   rw[h5,decide_eq_false (pW (by decide))]
   refine eQ ⟨_,fun σ' cp h=>⟨k - 1,by omega,h⟩,?_⟩
   refine⟨_,rfl,r,dH,_,rfl,eD,aJ _ _ (by decide+kernel) (by decide+kernel),r,x,_,_,_,rfl,eJa,⟨dH,eD⟩,(by rw[eJ];exact h3),hx,fun H3 ix k3=>?_⟩
   rw[eJl] at ix
   obtain⟨sf,ix⟩:=ix
   have nu:=k3 _ _ pV xV
   have kk3:=kk.trans k3
   refine⟨_,rfl, .inl ⟨rfl,_,bS.of nu⟩,_,rfl,r,sf,_,rfl,ix,aJ _ _ (by decide+kernel) (by decide+kernel),r,x,_,r0[i],_,rfl,⟨sf,ix⟩,h4,wo _ ea,Kl,hx,fun t H4 nt hN4 tU k4=>?_⟩
   obtain⟨IT,tU⟩:=tU
   have Bf:=k4 _ _ nu xV
   have Km:=k3.trans k4
   refine⟨L,_,_,rfl,rfl,Bf,by rw[List.length_map];omega,i+1,by omega,rfl,⟨IT,?_⟩,fun b o z w=>?_,ps++[t],by rw[af,List.map_append];rfl,by rw[List.length_append,iu];rfl,?_⟩
   ·rw[ah (Ne.symm xV),tU]
    have e:=wa GB hi
    have e':(ig (r0.take (i+1))).length=(ig (r0.take i)).length+(3+(ie r0[i]).length):=by
     unfold ig
     rw[e,List.length_append,wq]
    rw[e']
    congr 3
    omega
   ·rw[ah (ag z xc)]
    exact Km _ _ (kk _ _ z w) w
   ·rw[List.take_add_one,List.getElem?_eq_getElem hi]
    refine bK (as:=ps) (bs:=x0::r0.take i) (fun cp ke=>hN4 cp fun b o z1 z2=>?_) (aL (fun c t h cp ke=>h cp fun b o z1 z2 z3=>ke b o z1 z2 ?_) hP)
    ·have Bc:b≠L:=fun z=>by rw[z,nu] at z1;cases z1
     exact ke b o (a5 kk3 ix z1) Bc (by rw[ah Bc];exact z2)
    ·have yQ:b≠r:=fun z=>by rw[z,hR] at z1;cases z1
     rw[ah z2]
     exact Km _ _ z3 yQ
  ·have ei:i=r0.length:=by omega
   rw[ei,List.take_length] at eD hP ⊢
   have h5:eR x (p+(ie x0).length+(ig r0).length+1)=⟨#[45]⟩:=(Here.on (t:=[32]) (u:=[45,62,32]) OP).sg
   rw[h5,decide_eq_true rfl]
   refine d7 ?_
   refine⟨_,rfl,r,dH,_,rfl,eD,aJ _ _ (by decide+kernel) (by decide+kernel),r,x,_,_,post,rfl,eAa,⟨dH,eD⟩,(by rw[eA];exact OP),hx,fun H3 ix k3=>?_⟩
   rw[eAl] at ix
   have nu:=k3 _ _ pV xV
   have el:p+(ie x0).length+(ig r0).length+4=p+(sG (x0::r0)++pY).length:=by
    rw[List.length_append]
    show _=p+((ie x0++ig r0).length+4)
    rw[List.length_append]
    omega
   rw[el] at ix
   refine⟨_,rfl,q L H3 ⟨xc,ps,nu,fun cp ke=>aL (fun c t h=>h cp fun b o z1 z2 z3=>ke b o z1 ?_) hP⟩ ix (kk.trans k3)⟩
   have yQ:b≠r:=fun z=>by rw[z,hR] at z1;cases z1
   exact k3 _ _ z3 yQ
variable {uC uP uI uD uL uT fg fj fk uG uS:Tok} {Ch:Addr}
theorem uo:ay ["self","terms"] ["self"] (aj mO):=dq
theorem z9 (D:bb K R "read_rights" "ChangeReader.read_rights" mO ["self"]) (T:oJ K mg C R G Pc Fo Ch uK uN uB uE uM uC uP uI uD uL uT fg fj fk uG uS) (c1:aM P w K mg base 11 R "read_term" ["self"] (wm C G Pc Fo R)) (c2:aM P w K mg base 3 R "take_all" ["self","signs"] (kZ R)):
  aM P w K mg base 12 R "read_rights" ["self"] (um C G Pc Fo R):=by
 obtain⟨_,_,aW⟩:=c1
 obtain⟨_,_,aV⟩:=c2
 refine D.cY uo (fun vs H Q E h=>?_) (fun f bg A outer s H vs Q E hr h=>?_)
 ·obtain⟨r,x,p,xs,rfl,_⟩:=h
  rfl
 ·obtain⟨r,x,p,xs,rfl,⟨dx,hR⟩,hh,pq,aX,hx,q⟩:=h
  have big:(2000 :Nat)≤sizeLine:=by decide
  obtain⟨x0,r0,rfl⟩:∃x0 r0,xs=x0::r0:=by
   cases xs with
   |nil=>exact absurd rfl pq
   |cons a b=>exact⟨a,b,rfl⟩
  refine⟨_,(ai
     (aB (i:=1) uo.nd rfl (Or.inl rfl) (cu (aa (aP (pv 0) T.ax aW.m aW.ok (hr.mono (by decide)) aW.b .nil aA) ak)))
    (ai
     (iZ PassesOwn.never (aO lG (a0 (pv 0) rfl) (cj jj rfl T.mX jm (aa (a0 (pv 0) rfl) ak)) (aQ _))
      (ai
       (bw (bU (pv 0) T.ax aV.m aV.ok (hr.mono (by decide)) aV.b .nil aA (aa (bp (v:= .str " + ") rfl T.Bp ⟨_,rfl⟩) ak)))
      (ao
       (bw (iB PySem.F.plainAttrs_list PySem.F.slot_list_append PySem.F.type_list_append dv (pv 1) (aa (aP (pv 0) T.ax aW.m aW.ok (hr.mono (by decide)) aW.b .nil aA) ak))))))
    (ao
     (aE (pv 1))))),?_⟩
  have hw:Here x p (ie x0++ig r0) []:=hh
  have F2:Here x p (ie x0) (ig r0++[]):=⟨hw.1,by rw[hw.2];simp only [List.append_assoc]⟩
  have Ep:Here x (p+(ie x0).length) (ig r0) []:=Here.on hw
  have t4:x.length=p+(ie x0).length+(ig r0).length:=by
   have:=congrArg List.length hw.2
   have h1:=hw.1
   have hl:x.cps.toList.length=x.length:=by simp [Str.length]
   rw[List.length_drop,List.length_append,List.length_append,hl] at this
   simp at this
   omega
  have ea:Eu []:= .inl rfl
  refine⟨_,rfl,r,dx,_,rfl,hR,aJ _ _ (by decide+kernel) (by decide+kernel),r,x,p,x0,_,rfl,⟨dx,hR⟩,F2,wo r0 ea,aX x0 (List.mem_cons_self ..),hx,fun t0 H1 nt0 hN eL k1=>⟨(by show 1≤sizeLine;decide),fun L hL=>?_⟩⟩
  obtain⟨nN,eL⟩:=eL
  have xc:H L=none:=a5 k1 eL hL
  have xV:L≠r:=fun z=>by rw[z,eL] at hL;cases hL
  have sL:au H1 (upd H1 L (.lst [V.ref t0])):=au.new hL
  refine⟨fun k σ H'=>∃i:Nat,k+i=r0.length∧σ=[some (.ref r),some (.ref L)]∧dh R H' r x (p+(ie x0).length+(ig (r0.take i)).length)∧Kept r H H'∧∃ps,H' L=some (.lst (ps.map V.ref))∧ps.length=i+1∧Paired (Mp C G Pc Fo L H H') ps (x0::r0.take i),⟨r0.length,0,by omega,rfl,⟨nN,sL _ _ eL⟩,k1.trans (Kept.of sL),[t0],af,rfl, .cons (fun cp ke=>hN cp fun b o z1 z2=>ke b o z1 (ag z2 hL) (sL _ _ z2)) .nil⟩,?_⟩
  rintro k σ H' ⟨i,hk,rfl,⟨dH,eD⟩,kk,ps,pV,iu,hP⟩
  have yM:=Bu r0 i
  have hr0:=wt r0
  refine⟨_,rfl,r,R,dH,_,_,rfl,eD,T.ax,T.cm,bz _ _,_,rfl,r,R,dH,_,_,rfl,eD,T.ax,T.ju,fY _ _,x,rfl,Nat.le_trans hx (by decide),_,_,rfl,rfl,_,rfl,?_⟩
  by_cases hi:i<r0.length
  ·have h2:Here x (p+(ie x0).length+(ig (r0.take i)).length) (GB r0[i]) (ig (r0.drop (i+1))++[]):=vZ GB Ep hi
   have Kl:=aX _ (List.mem_cons_of_mem _ (List.getElem_mem hi))
   have h3:Here x (p+(ie x0).length+(ig (r0.take i)).length) [32,43,32] (ie r0[i]++(ig (r0.drop (i+1))++[])):=⟨h2.1,by rw[h2.2];rfl⟩
   have h4:Here x (p+(ie x0).length+(ig (r0.take i)).length+3) (ie r0[i]) (ig (r0.drop (i+1))++[]):=Here.on (t:=[32,43,32]) h2
   have ml:p+(ie x0).length+(ig (r0.take i)).length<x.length:=by
    have:=h3.le
    have e:[32,43,32].length=3:=rfl
    omega
   refine vd (by omega) ?_
   refine⟨_,fun σ' cp h=>⟨k - 1,by omega,h⟩,?_⟩
   refine⟨_,rfl,r,dH,_,rfl,eD,aJ _ _ (by decide+kernel) (by decide+kernel),r,x,_,_,_,rfl,eJa,⟨dH,eD⟩,(by rw[eJ];exact h3),hx,fun H3 ix k3=>?_⟩
   rw[eJl] at ix
   obtain⟨sf,ix⟩:=ix
   have nu:=k3 _ _ pV xV
   have kk3:=kk.trans k3
   refine⟨_,rfl, .inl ⟨rfl,_,bS.of nu⟩,_,rfl,r,sf,_,rfl,ix,aJ _ _ (by decide+kernel) (by decide+kernel),r,x,_,r0[i],_,rfl,⟨sf,ix⟩,h4,wo _ ea,Kl,hx,fun t H4 nt hN4 tU k4=>?_⟩
   obtain⟨IT,tU⟩:=tU
   have Bf:=k4 _ _ nu xV
   have Km:=k3.trans k4
   refine⟨L,_,_,rfl,rfl,Bf,by rw[List.length_map];omega,i+1,by omega,rfl,⟨IT,?_⟩,fun b o z w=>?_,ps++[t],by rw[af,List.map_append];rfl,by rw[List.length_append,iu];rfl,?_⟩
   ·rw[ah (Ne.symm xV),tU]
    have e:=wa GB hi
    have e':(ig (r0.take (i+1))).length=(ig (r0.take i)).length+(3+(ie r0[i]).length):=by
     unfold ig
     rw[e,List.length_append,wq]
    rw[e']
    congr 3
    omega
   ·rw[ah (ag z xc)]
    exact Km _ _ (kk _ _ z w) w
   ·rw[List.take_add_one,List.getElem?_eq_getElem hi]
    refine bK (as:=ps) (bs:=x0::r0.take i) (fun cp ke=>hN4 cp fun b o z1 z2=>?_) (aL (fun c t h cp ke=>h cp fun b o z1 z2 z3=>ke b o z1 z2 ?_) hP)
    ·have Bc:b≠L:=fun z=>by rw[z,nu] at z1;cases z1
     exact ke b o (a5 kk3 ix z1) Bc (by rw[ah Bc];exact z2)
    ·have yQ:b≠r:=fun z=>by rw[z,hR] at z1;cases z1
     rw[ah z2]
     exact Km _ _ z3 yQ
  ·have ei:i=r0.length:=by omega
   rw[ei,List.take_length] at eD hP ⊢
   refine qy (by omega) ?_
   exact⟨_,rfl,q L H' ⟨xc,ps,pV,fun cp ke=>aL (fun c t h=>h cp fun b o z1 z2 z3=>ke b o z1 z3) hP⟩ kk ⟨_,eD⟩⟩
variable {uC uP uI uD uL uT fg fj fk uG uS:Tok} {Ch:Addr}
def OQ (C G Pc Fo Ch:Addr) (H H':Hp) (c:Addr) (xs ys:List Tm):Prop:=∀cp,(∀b o,H b=none→H' b=some o→cp b=some o)→dt C G Pc Fo Ch cp c xs ys
inductive DI (C G Pc Fo Ch R:Addr) (vs:List V) (H:Hp) (Q:VK) (E:XK):Prop
 |mk (r:Addr) (x:Str) (xs ys:List Tm) (dU:vs=[.ref r]) (dW:dh R H r x 0) (d5:x.cps.toList=sG xs++pY++sG ys) (fe:xs≠[]) (gH:ys≠[]) (jb:(∀t∈xs,fQ t)) (nM:(∀t∈ys,fQ t)) (su:x.length≤1000) (A9:∀c H',H c=none→OQ C G Pc Fo Ch H H' c xs ys→Kept r H H'→Q (.ref c) H')
def yh (C G Pc Fo Ch R:Addr):Sp:=DI C G Pc Fo Ch R
inductive Aa (C G Pc Fo Ch:Addr) (vs:List V) (H:Hp) (Q:VK) (E:XK):Prop
 |mk (x:Str) (xs ys:List Tm) (dU:vs=[.str x]) (dW:x.cps.toList=sG xs++pY++sG ys) (d5:xs≠[]) (fe:ys≠[]) (gH:(∀t∈xs,fQ t)) (jb:(∀t∈ys,fQ t)) (nM:x.length≤400) (su:xs.length+ys.length≤8) (A9:∀c H',H c=none→OQ C G Pc Fo Ch H H' c xs ys→au H H'→Q (.ref c) H')
def uq (C G Pc Fo Ch:Addr):Sp:=Aa C G Pc Fo Ch
theorem yi:ay ["self","lefts"] ["self"] (aj pM):=dq
theorem DJ (D:bb K R "read_sides" "ChangeReader.read_sides" pM ["self"]) (T:oJ K mg C R G Pc Fo Ch uK uN uB uE uM uC uP uI uD uL uT fg fj fk uG uS) (c1:aM P w K mg base 12 R "read_lefts" ["self"] (yf C G Pc Fo R)) (c2:aM P w K mg base 12 R "read_rights" ["self"] (um C G Pc Fo R)) (c3:gG P w K mg base 1 Ch ["self","lefts","rights"] [] (Br Ch)):
  aM P w K mg base 13 R "read_sides" ["self"] (yh C G Pc Fo Ch R):=by
 obtain⟨_,_,eh⟩:=c1
 obtain⟨_,_,dQ⟩:=c2
 obtain⟨_,_,bY⟩:=c3
 obtain⟨_,Ab,Ac⟩:=bY.b 0 (by decide)
 refine D.cY yi (fun vs H Q E h=>?_) (fun f bg A outer s H vs Q E hr h=>?_)
 ·obtain⟨r,x,xs,ys,rfl,_⟩:=h
  rfl
 ·obtain⟨r,x,xs,ys,rfl,⟨dx,hR⟩,t4,nx,ny,iN,km,hx,q⟩:=h
  refine⟨_,(ai
     (aB (i:=1) yi.nd rfl (Or.inl rfl) (aP (pv 0) T.ax eh.m eh.ok (hr.mono (by decide)) eh.b .nil aA))
    (ao
     (aE (f6 bY.m bY.ok (hr.mono (by decide)) rfl T.Gq Ac Ab aA (aa (pv 1) (aa (aP (pv 0) T.ax dQ.m dQ.ok (hr.mono (by decide)) dQ.b .nil aA) ak)))))),?_⟩
  have hw:Here x 0 (sG xs++pY++sG ys) []:=xW t4
  have F2:Here x 0 (sG xs++pY) (sG ys):=⟨hw.1,by rw[hw.2,List.append_nil]⟩
  have zL:Here x (0+(sG xs++pY).length) (sG ys) []:=Here.on hw
  refine⟨_,rfl,r,dx,_,rfl,hR,aJ _ _ (by decide+kernel) (by decide+kernel),r,x,0,xs,_,rfl,⟨dx,hR⟩,F2,nx,iN,hx,fun l H1 hN1 eL k1=>?_⟩
  obtain⟨nN,eL⟩:=eL
  refine⟨_,rfl,_,rfl,r,nN,_,rfl,eL,aJ _ _ (by decide+kernel) (by decide+kernel),r,x,_,ys,rfl,⟨nN,eL⟩,zL,ny,km,hx,fun m H2 hN2 k2 iw=>?_⟩
  obtain⟨o2,iw⟩:=iw
  obtain⟨hl0,ps,AU,JF⟩:=hN1
  obtain⟨hm0,us,hm1,Z'⟩:=hN2
  have nlr':l≠r:=fun z=>by rw[z,hR] at hl0;cases hl0
  have wZ:=k2 _ _ AU nlr'
  have QT:=k1.trans k2
  refine fun c dc nc ndc nec=>⟨c,dc,l,m,ps.map V.ref,us.map V.ref,rfl,af,?_,?_,fun n1 n2 H3 hn1 LW n12 hc3 hn13 hn23 kp=>⟨rfl,?_⟩⟩
  ·rw[ah (ag wZ nc),ah (ag wZ ndc)];exact wZ
  ·rw[ah (ag hm1 nc),ah (ag hm1 ndc)];exact hm1
  have s3:au H2 H3:=fun b o z=>kp b o (by rw[ah (ag z nc),ah (ag z ndc)];exact z) (ag z nc)
  have back:∀b,H2 b=none→H b=none:=fun b z=>a5 QT iw z
  refine q c H3 (back c nc) (fun cp ke=>⟨dc,n1,n2,ke _ _ (back c nc) hc3,⟨ps,ke _ _ (back n1 (fZ hn1)) hn13,JF cp fun b o z1 z2=>?_⟩,⟨us,ke _ _ (back n2 (fZ LW)) hn23,Z' cp fun b o z1 z2=>?_⟩⟩) (QT.trans (Kept.of s3))
  ·have yQ:b≠r:=fun z=>by rw[z,hR] at z1;cases z1
   exact ke b o z1 (s3 _ _ (k2 _ _ z2 yQ))
  ·exact ke b o (a5 k1 eL z1) (s3 _ _ z2)
theorem oK:ay ["text","change","many"] ["text"] (aj mP):=dq
theorem Ad (D:Def K mg "read_change" "read_change" mP ["text"]) (T:oJ K mg C R G Pc Fo Ch uK uN uB uE uM uC uP uI uD uL uT fg fj fk uG uS) (c1:a9 P w K mg base 1 "refuse_too_long" ["text"] oE) (c2:gG P w K mg base 1 R ["self","text"] [] (vS R)) (c3:aM P w K mg base 13 R "read_sides" ["self"] (yh C G Pc Fo Ch R)):
  a9 P w K mg base 14 "read_change" ["text"] (uq C G Pc Fo Ch):=by
 obtain⟨_,_,bA⟩:=c1
 obtain⟨_,_,ij⟩:=c2
 obtain⟨_,_,eB⟩:=c3
 obtain⟨_,oM,oN⟩:=ij.b 0 (by decide)
 refine D.cY oK (fun vs H Q E h=>?_) (fun f bg A outer s H vs Q E hr h=>?_)
 ·obtain⟨x,xs,ys,rfl,_⟩:=h
  rfl
 ·obtain⟨x,xs,ys,rfl,t4,nx,ny,iN,km,hx,h8,q⟩:=h
  refine⟨_,(ai
     (bw (aF bA.ok (hr.mono (by decide)) rfl bA.g bA.kp bA.b .nil aA (aa (pv 0) ak)))
    (ai
     (NZ (fun _ _ z=>z)
      (ao
       (aB (i:=1) oK.nd rfl (Or.inl rfl) (aP (f6 ij.m ij.ok (hr.mono (by decide)) rfl T.rC oN oM aA (aa (pv 0) ak)) T.ax eB.m eB.ok (hr.mono (by decide)) eB.b .nil aA))))
    (ai
     (aB (i:=2) oK.nd rfl (Or.inl rfl) (az bO (cj fy rfl T.mX jm (aa (a0 (pv 1) rfl) ak)) (cj fy rfl T.mX jm (aa (a0 (pv 1) rfl) ak))))
    (ai
     (bE (aO jM (pv 2) (bp (v:= .int 8) rfl T.wk ⟨_,rfl⟩) (aQ _))
      (ao
       gg)
      aS)
    (ao
     (aE (pv 1))))))),?_⟩
  refine⟨_,rfl,x,rfl,hx,?_⟩
  refine⟨_,rfl,fun r dr nr ndr ner=>⟨r,dr,x,rfl,af,fun H1 eL k1=>⟨rfl,?_⟩⟩⟩
  obtain⟨nN,eL⟩:=eL
  have s1:au H H1:=fun b o z=>k1 b o (by rw[ah (ag z nr),ah (ag z ndr)];exact z) (ag z nr)
  refine⟨r,nN,_,rfl,eL,aJ _ _ (by decide+kernel) (by decide+kernel),r,x,xs,ys,rfl,⟨nN,eL⟩,t4,nx,ny,iN,km,by omega,fun c H2 nc hC k2=>?_⟩
  have back:∀b,H1 b=none→H b=none:=fun b z=>by
   cases hh:H b with
   |none=>rfl
   |some o=>rw[s1 _ _ hh] at z;cases z
  have hC2:=hC H2 fun b o _ z=>z
  obtain⟨dc,l,m,hc,⟨ps,hl,hP⟩,⟨us,hm,hU⟩⟩:=hC2
  have e1:=Paired.length hP
  have e2:=Paired.length hU
  refine⟨_,rfl,c,Ch,dc,_,_,rfl,hc,T.bY,T.hV,eV _ _,l,_,rfl, .inl (bS.of hl),_,rfl,c,Ch,dc,_,_,rfl,hc,T.bY,T.i',gO _ _,m,_,rfl, .inl (bS.of hm),_,_,rfl,rfl,?_⟩
  refine⟨_,rfl,_,_,rfl,rfl,_,rfl,qy (by rw[List.length_map,List.length_map];omega) ?_⟩
  exact⟨_,rfl,q c H2 (back c nc) (fun cp ke=>hC cp fun b o z1 z2=>ke b o (back b z1) z2) fun b o z=>k2 b o (s1 _ _ z) (ag z nr)⟩
variable {uC uP uI uD uL uT fg fj fk uG uS:Tok} {Ch:Addr}
def eO (xs:List Tm):List (Str×Int):=xs.map fun x=>((⟨(fL x.2).toArray⟩:Str),x.1)
inductive sH (C G Pc Fo:Addr) (vs:List V) (H:Hp) (Q:VK) (E:XK):Prop
 |mk (l:Addr) (xs:List Tm) (dU:vs=[.ref l]) (dW:ia C G Pc Fo H l xs) (d5:(∀x∈xs,cT x.2)) (fe:xs.length≤20) (gH:∀e H',H e=none→H' e=some (.dK (a7 1 [] (eO xs)))→au H H'→Q (.ref e) H')
def gP (C G Pc Fo:Addr):Sp:=sH C G Pc Fo
theorem yj {xs:List Tm} {i:Nat} {y:Tm} (h:xs[i]? =some y):a7 1 [] (eO (xs.take (i+1)))=cA (a7 1 [] (eO (xs.take i))) (Sum.inr ⟨(fL y.2).toArray⟩) y.1:=by
 unfold eO a7
 rw[take_snoc h,List.map_append,List.foldl_append]
 show cA _ _ (y.1*1)=_
 rw[Int.mul_one]
theorem fH:ay ["terms","total","count","formula","text"] ["terms"] (aj iG):=dq
theorem sI (D:Def K mg "side_counts" "side_counts" iG ["terms"]) (T:oJ K mg C R G Pc Fo Ch uK uN uB uE uM uC uP uI uD uL uT fg fj fk uG uS) (c1:aM P w K mg base 7 Fo "shown" ["self"] (uc C G Pc Fo 1)):a9 P w K mg base 8 "side_counts" ["terms"] (gP C G Pc Fo):=by
 obtain⟨_,_,gE⟩:=c1
 refine D.cY fH (fun vs H Q E h=>?_) (fun f bg A outer s H vs Q E hr h=>?_)
 ·obtain⟨l,xs,rfl,_⟩:=h
  rfl
 ·obtain⟨l,xs,rfl,⟨ts,hl,hP⟩,aX,YW,q⟩:=h
  have hu:=dn hr
  have big:(2000 :Nat) <sizeLine:=by decide
  have iu:=Paired.length hP
  refine⟨_,(ai
     (aB (i:=1) fH.nd rfl (Or.inl rfl) dN)
    (ai
     (cq PassesOwn.never rfl (cG (pv 0)) (gB rfl (a6 (aK (i:=2) fH.nd rfl (Or.inl rfl)) (a6 (aK (i:=3) fH.nd rfl (Or.inl rfl)) dC)))
      (ai
       (aB (i:=4) fH.nd rfl (Or.inl rfl) (aP (pv 3) T.bL gE.m gE.ok (hr.mono (by decide)) gE.b .nil aA))
      (ao
       (dX hu (pv 1) (pv 4) (az bO (bP hu (pv 1) (pv 4) aq ⟨rfl,rfl,rfl,rfl⟩) (pv 2)) rfl))))
    (ao
     (aE (pv 1))))),?_⟩
  refine fun d hd=>?_
  have sD:=au.new (o:= .dK []) hd
  refine⟨_,rfl,l,rfl,⟨_,bS.of (sD _ _ hl)⟩,eF (K:=K) (a:=l) (xs:=ts.map V.ref) (fun i σ H'=>∃v2 v3 v4:Option V,σ=[some (.ref l),some (.ref d),v2,v3,v4]∧H' d=some (.dK (a7 1 [] (eO (xs.take i))))∧au H H') ?_ (fun i σ H' _ ⟨_,_,_,_,_,e⟩=>bS.of (e _ _ hl)) ?_ ?_⟩
  ·exact⟨none,none,none,rfl,af,sD⟩
  ·rintro i v σ H' hi ⟨v2,v3,v4,rfl,gA,e⟩
   rw[List.getElem?_map] at hi
   obtain⟨t,ht,rfl⟩:∃p,ts[i]? =some p∧v=V.ref p:=by
    cases hh:ts[i]? with
    |none=>rw[hh] at hi;cases hi
    |some p=>rw[hh] at hi;exact⟨p,rfl,(Option.some.inj hi).symm⟩
   obtain⟨y,hy,fo,h1,h2⟩:=bI hP ht
   obtain⟨dx,fl,fps,hfo,_⟩:=id h2
   have iN:=aX y (List.mem_of_getElem? hy)
   have zl:(wL 1 y.2.1 y.2.2).length≤1000:=Nat.le_trans iN.2.1 (by decide)
   have hI:bu (a7 1 [] (eO (xs.take i))):=iH 1 _ _ fun p hp=>by cases hp
   have lB:=iI 1 (eO (xs.take i)) []
   have YX:(eO (xs.take i)).length≤20:=by unfold eO;rw[List.length_map,List.length_take];omega
   rw[List.length_nil] at lB
   refine⟨t,_,rfl,jL.of (e _ _ h1),rfl,_,_,rfl,_,_,rfl,rfl,?_⟩
   refine⟨_,rfl,fo,dx,_,rfl,e _ _ hfo,q5 _ _ (by decide+kernel) (by decide+kernel),fo,_,_,rfl,h2.same e,iN.1,zl,fun H2 e2=>?_⟩
   have hd2:=e2 _ _ gA
   refine⟨_,rfl,d,rfl, .inl ⟨_, .inl hd2⟩,_,rfl,_,gk.k (k:=Sum.inr ⟨(fL y.2).toArray⟩) hd2,_,rfl,_,_,hI.at _,rfl,_,rfl,_,rfl,d,_,rfl,lz.k (k:=Sum.inr ⟨(fL y.2).toArray⟩) hd2 (by omega),?_⟩
   refine⟨_,_,_,rfl,?_,fun b o z=>?_⟩
   ·rw[af,yj hy]
    rfl
   ·rw[ah (ag z hd)]
    exact e2 _ _ (e _ _ z)
  ·rintro σ H' ⟨v2,v3,v4,rfl,gA,e⟩
   rw[List.length_map,iu,List.take_length] at gA
   exact⟨_,rfl,q d H' hd gA e⟩
variable {uC uP uI uD uL uT fg fj fk uG uS:Tok} {Ch:Addr}
def pZ (KV L:List (Key×V)):List (Key×V):=(L.filter fun p=>decide (¬aG KV p.1=0)).map fun p=>(p.1,V.int (aG KV p.1))
theorem DK {KV L:List (Key×V)} {i:Nat} {p:Key×V} (h:L[i]? =some p) (z:aG KV p.1=0):pZ KV (L.take (i+1))=pZ KV (L.take i):=by
 unfold pZ
 rw[take_snoc h,List.filter_append,show [p].filter (fun p=>decide (¬aG KV p.1=0))=[] by simp [z],List.append_nil]
theorem DL {KV L:List (Key×V)} {i:Nat} {p:Key×V} (h:L[i]? =some p) (z:¬aG KV p.1=0):pZ KV (L.take (i+1))=pZ KV (L.take i)++[(p.1,V.int (aG KV p.1))]:=by
 unfold pZ
 rw[take_snoc h,List.filter_append,show [p].filter (fun p=>decide (¬aG KV p.1=0))=[p] by simp [z],List.map_append]
 rfl
theorem GC (KV L:List (Key×V)):List.Sublist ((pZ KV L).map (·.1)) (L.map (·.1)):=by
 unfold pZ
 rw[List.map_map]
 exact(List.filter_sublist (l:=L)).map _
theorem GD (KV:List (Key×V)) {L:List (Key×V)} (h:(L.map (·.1)).Nodup):((pZ KV L).map (·.1)).Nodup:=(GC KV L).nodup h
theorem Bv (KV L:List (Key×V)):bu (pZ KV L):=by
 intro p hp
 obtain⟨q,_,rfl⟩:=List.mem_map.mp hp
 exact⟨_,rfl⟩
theorem p6 (KV L:List (Key×V)):(pZ KV L).length≤L.length:=by
 unfold pZ
 rw[List.length_map]
 exact List.length_filter_le _ _
def p7 (xs ys:List Tm):List (Key×V):=a7 (-1) (a7 1 [] (eO ys)) (eO xs)
def gQ (xs ys:List Tm):List (Key×V):=pZ (p7 xs ys) (p7 xs ys)
theorem wu (xs ys:List Tm):bu (p7 xs ys):=iH _ _ _ (bQ _)
theorem GF (xs ys:List Tm):((p7 xs ys).map (·.1)).Nodup:=vK _ _ _ (iM _)
theorem p8 (xs ys:List Tm):(p7 xs ys).length≤xs.length+ys.length:=by
 have h1:=iI (-1) (eO xs) (a7 1 [] (eO ys))
 have h2:=cU (eO ys)
 have e:∀zs:List Tm,(eO zs).length=zs.length:=fun zs=>by unfold eO;rw[List.length_map]
 rw[e] at h1 h2
 show (a7 _ _ _).length≤_
 omega
inductive GG (C G Pc Fo Ch:Addr) (vs:List V) (H:Hp) (Q:VK) (E:XK):Prop
 |mk (c:Addr) (xs ys:List Tm) (dU:vs=[.ref c]) (dW:dt C G Pc Fo Ch H c xs ys) (d5:(∀x∈xs,cT x.2)) (fe:(∀y∈ys,cT y.2)) (gH:xs.length≤20) (jb:ys.length≤20) (nM:∀e H',H e=none→H' e=some (.dK (gQ xs ys))→au H H'→Q (.ref e) H')
def wx (C G Pc Fo Ch:Addr):Sp:=GG C G Pc Fo Ch
theorem GH {X:Cx} {D:Ends} {c d e:Addr} {v3:Option V} {H:Hp} {acc gy:List (Key×V)} (hu:X.A.units+1<cLine) (hd:H d=some (.dK acc)) (he:H e=some (.dK gy)) (pq:d≠e) (hI:bu acc) (SK:bu gy) (hl:acc.length+gy.length≤1000)
  (fin:∀z:Option V,D.nx [some (.ref c),some (.ref d),some (.ref e),z] (upd H d (.dK (iS (-1) acc gy gy)))):
  E4 X (Np (E3 X (jS 2)) (dB 3) (EU (jS 1) (jS 3) (Nq (IQ fun i j=> .int (i - j)) (ze (jS 1) (jS 3) (tC (.int 0))) (ET (jS 2) (jS 3))))) D [some (.ref c),some (.ref d),some (.ref e),v3] H:=by
 refine⟨_,rfl,e,gy,rfl,he,fun o nf=>fA nf (fun j σ H'=>∃z:Option V,σ=[some (.ref c),some (.ref d),some (.ref e),z]∧H'=upd H d (.dK (iS (-1) acc (gy.take j) gy))) ?_ ?_ ?_ ?_⟩
 ·exact⟨v3,rfl,(dO hd).symm⟩
 ·rintro i σ H' ⟨_,_,rfl⟩
  rw[ah (Ne.symm pq)]
  exact he
 ·rintro i k v σ H' hi ⟨z,rfl,rfl⟩
  have n4:∀o',(upd (upd H d (.dK (iS (-1) acc (gy.take i) gy))) e o') d=some (.dK (iS (-1) acc (gy.take i) gy)):=fun o'=>by rw[ah pq];exact af
  have hv:=SK.dZ (List.mem_of_getElem? hi)
  have Gx:bu (iS (-1) acc (gy.take i) gy):=mul_int (-1) gy _ _ hI
  have hli:=wg (-1) gy (gy.take i) acc
  have Kz:(gy.take i).length≤gy.length:=List.length_take_le' _ _
  refine⟨_,rfl,d,rfl, .inl ⟨_, .inl (n4 _)⟩,_,rfl,_,gk.k (k:=k) (n4 _),_,rfl,_,rfl,e,V.int (aG gy k),rfl, .inl ⟨_,k, .inr ⟨o,af⟩,rfl,hv.symm⟩,_,_,Gx.at k,rfl,_,rfl,_,rfl,d,_,rfl,lz.k (k:=k) (n4 _) (kL ?_),?_⟩
  ·omega
  ·refine⟨by rw[ah (Ne.symm pq)];exact af,some (kV k),rfl,?_⟩
   have ez:∀a b:Int,a - b=a+b*(-1):=fun a b=>by omega
   rw[ja pq he,x6 (-1) gy acc hi]
   unfold cA
   rw[←ez]
 ·rintro σ H' ⟨z,rfl,rfl⟩
  rw[List.take_length]
  exact fin z
def Pvg (o:Obj) (KV:List (Key×V)) (d D2:Addr) (H2:Hp):Nat→St→Hp→Prop:=fun i σ H'=>∃(v:Option V) (ps:List (Addr×Key×V)),σ=[v,some (.ref d)]∧H' d=some (.eC o (.dK KV))∧H' D2=some (.lst (ps.map fun p=> .ref p.1))∧(∀p∈ps,H' p.1=some (.tup [kV p.2.1,p.2.2]))∧ps.map (·.2)=pZ KV (KV.take i)∧∀b o',H2 b=some o'→b≠d→H' b=some o'
theorem p9:ay ["change","more","taken","text"] ["change"] (aj qJ):=dq
theorem GI (D:Def K mg "gains" "gains" qJ ["change"]) (T:oJ K mg C R G Pc Fo Ch uK uN uB uE uM uC uP uI uD uL uT fg fj fk uG uS) (c1:a9 P w K mg base 8 "side_counts" ["terms"] (gP C G Pc Fo)):a9 P w K mg base 9 "gains" ["change"] (wx C G Pc Fo Ch):=by
 obtain⟨_,_,aZ⟩:=c1
 refine D.cY p9 (fun vs H Q E h=>?_) (fun f bg A outer s H vs Q E hr h=>?_)
 ·obtain⟨c,xs,ys,rfl,_⟩:=h
  rfl
 ·obtain⟨c,xs,ys,rfl,⟨dc,l,r,hc,hl,IV⟩,iN,km,lx,ly,q⟩:=h
  have hu:=dn hr
  have big:(2000 :Nat) <sizeLine:=by decide
  refine⟨_,(ai
     (aB (i:=1) p9.nd rfl (Or.inr rfl) (aF aZ.ok (hr.mono (by decide)) rfl aZ.g aZ.kp aZ.b .nil aA (aa (a0 (pv 0) rfl) ak)))
    (ai
     (aB (i:=2) p9.nd rfl (Or.inl rfl) (aF aZ.ok (hr.mono (by decide)) rfl aZ.g aZ.kp aZ.b .nil aA (aa (a0 (pv 0) rfl) ak)))
    (ai
     (eM (cq PassesOwn.never rfl (dE (pv 2)) (aK (i:=3) p9.nd rfl (Or.inl rfl))
      (ao
       (dX hu (pv 1) (pv 3) (az fu (bP hu (pv 1) (pv 3) aq ⟨rfl,rfl,rfl,rfl⟩) (bN hu (pv 2) (pv 3) (fun _ _=>rfl))) rfl))))
    (ao
     (aE (bC (jl rfl) rfl T.jA iC (aa (pF (fB (sc:=(aj qJ)) (NX:=["change","more","taken","text"]) (N:=["text","more"]) (fr:=[none,some 1]) ⟨by rfl,by rfl,by decide+kernel,by decide+kernel,by decide+kernel,by rfl,by decide+kernel⟩ rfl rfl rfl (dE (pv 1)) (fun _ _ _ _=>(aK (i:=0) (show (["text","more"]:List Str).Nodup by decide+kernel) rfl (Or.inl rfl) (Or.inr rfl))) (fun _ _ _ _=>(mw (aO qk (bN hu (pv 1) (pv 0) (fun _ _=>rfl)) aq (aQ _)))) (fun _ _ _ _=>(bW (aa (pv 0) (aa (bN hu (pv 1) (pv 0) (fun _ _=>rfl)) ak)))))) ak))))))),?_⟩
  refine⟨_,rfl,c,Ch,dc,_,_,rfl,hc,T.bY,T.i',gO _ _,r,ys,rfl,IV,km,ly,fun d H1 nd hd e1=>?_⟩
  refine⟨_,rfl,c,Ch,dc,_,_,rfl,e1 _ _ hc,T.bY,T.hV,eV _ _,l,xs,rfl,hl.same e1,iN,lx,fun e H2 ne he e2=>?_⟩
  have pq:d≠e:=ag hd ne
  have hd2:=e2 _ _ hd
  have QN:=cU (eO xs)
  have hy1:=cU (eO ys)
  have lt:∀zs:List Tm,(eO zs).length=zs.length:=fun zs=>by unfold eO;rw[List.length_map]
  rw[lt] at QN hy1
  refine GH hu hd2 he pq (bQ _) (bQ _) (by omega) fun z=>?_
  rw[vR (-1) 1 (eO xs) (bQ _) (iM _),Int.one_mul]
  have hI:=wu xs ys
  have hn:=GF xs ys
  have lB:=p8 xs ys
  have hq:gQ xs ys=pZ (p7 xs ys) (p7 xs ys):=rfl
  show _
  generalize hK:p7 xs ys=KV at hI hn lB hq
  rw[show a7 (-1) (a7 1 [] (eO ys)) (eO xs)=KV from hK]
  have Ms:∀b o',H b=some o'→(upd H2 d (.dK KV)) b=some o':=fun b o' z=>by
   rw[ah (ag z nd)]
   exact e2 _ _ (e1 _ _ z)
  have YY:(upd H2 d (.dK KV)) d=some (.dK KV):=af
  generalize upd H2 d (.dK KV)=H3 at Ms YY ⊢
  refine⟨_,rfl,d,_,rfl,YY,fun o nf D2 IW=>?_⟩
  have KD:D2≠d:=fun z=>by rw[z,af] at IW;cases IW
  have SQ:H3 D2=none:=by rwa [ah KD] at IW
  have gen:∀i σ H',Pvg o KV d D2 H3 i σ H'→H' d=some (.eC o (.dK KV)):=fun i σ H' ⟨_,_,_,z,_⟩=>z
  refine kN (a:=d) (D:=D2) (kvs:=KV) (Pvg o KV d D2 H3) ?_ gen ?_ ?_
  ·exact⟨none,[],rfl,by rw[ah (Ne.symm KD),af],af,(fun p hp=>by cases hp),rfl,fun b o' z hb=>by rw[ah (ag z SQ),ah hb];exact z⟩
  ·rintro i k v σ H' hi ⟨v',ps,rfl,f1,f2,f3,f4,f5⟩ N hN
   have hv:=hI.dZ (List.mem_of_getElem? hi)
   have iu:ps.length≤40:=by
    have h1:=congrArg List.length f4
    have h2:=p6 KV (KV.take i)
    rw[List.length_map] at h1
    rw[List.length_take] at h2
    omega
   refine⟨_,rfl,_,rfl,d,V.int (aG KV k),rfl, .inl ⟨_,k, .inr ⟨o,f1⟩,rfl,hv.symm⟩,rfl,_,rfl,dY (fun ec=>?_) fun ec=>?_⟩
   ·have ec:¬aG KV k=0:=by simpa using ec
    refine⟨_,rfl,_,rfl,_,rfl,d,V.int (aG KV k),rfl, .inl ⟨_,k, .inr ⟨o,f1⟩,rfl,hv.symm⟩,(by show 2≤sizeLine;decide),fun t ht=>?_⟩
    have SR:D2≠t:=ag f2 ht
    have ndt:d≠t:=ag f1 ht
    refine⟨_,by rw[ah SR];exact f2,by rw[List.length_map];omega,hN _ _ ⟨_,ps++[(t,k,V.int (aG KV k))],rfl,?_,?_,?_,?_,?_⟩⟩
    ·rw[ah (Ne.symm KD),ah ndt];exact f1
    ·rw[af,List.map_append];rfl
    ·intro p hp
     rcases List.mem_append.mp hp with hp|hp
     ·have p1:=f3 p hp
      rw[ah (cD p1 f2 (by intro z;cases z)),ah (ag p1 ht)]
      exact p1
     ·have e':p=(t,k,V.int (aG KV k)):=by simpa using hp
      subst e'
      rw[ah (Ne.symm SR)];exact af
    ·rw[List.map_append,f4,DL hi ec]
     rfl
    ·intro b o' e' hb
     rw[ah (ag e' SQ),ah (ag (f5 b o' e' hb) ht)]
     exact f5 b o' e' hb
   ·have ec:aG KV k=0:=by simpa using ec
    exact hN _ _ ⟨_,ps,rfl,f1,f2,f3,by rw[f4,DK hi ec],f5⟩
  rintro σ H' ⟨v',ps,rfl,f1,f2,f3,f4,f5⟩
  rw[List.take_length] at f4
  refine⟨d,o,KV,f1,nf,D2,ps,rfl,by rw[ah KD];exact f2,fun p hp=>by rw[ah (cD (f3 p hp) f1 (by intro z;cases z))];exact f3 p hp,fun w hw=>?_⟩
  have e8:cy [] (ps.map (·.2))=pZ KV KV:=by
   rw[f4,kh _ [] (by rw[List.nil_append];exact GD KV hn),List.nil_append]
  have SS:au H (upd H' d (.dK KV)):=fun b o' z=>by
   have zd:b≠d:=ag z nd
   rw[ah zd]
   exact f5 b o' (Ms b o' z) zd
  rw[e8]
  exact q w _ (none_back SS hw) (by rw[af,hq]) (SS.trans (au.new hw))
variable {uC uP uI uD uL uT fg fj fk:Tok} {Ch:Addr}
structure GJ (K:PySem.W.Frag) (mg:Str→Option Value) (C R G Pc Fo Ch:Addr) (uK uN uB uE uM uC uP uI uD uL uT fg fj fk:Tok):Prop extends Gp K mg C R G Pc Fo Ch uK uN uB uE uM uC uP uI uD uL uT fg fj fk where
 yk:mg "sorted" =none
 n_all:mg "all" =none
def jP (x:Fm):List (Key×V):=putK (cW 1 x.1) (Sum.inr "+") (.int x.2)
theorem Bw {x:Fm} (h:cT x):(cW 1 x.1).length≤7:=Gn h.2.2
theorem KG (x:Fm):bu (jP x):=(we x.1).put _ _
inductive Ae (C G Pc Fo:Addr) (vs:List V) (H:Hp) (Q:VK) (E:XK):Prop
 |mk (f:Addr) (x:Fm) (dU:vs=[.ref f]) (dW:o6 C G Pc Fo 1 H f x.1 x.2) (d5:cT x) (fe:∀e H',H e=none→H' e=some (.dK (jP x))→au H H'→Q (.ref e) H')
def ur (C G Pc Fo:Addr):Sp:=Ae C G Pc Fo
theorem uu:ay ["formula","amounts"] ["formula"] (aj mN):=dq
theorem Af (D:Def K mg "formula_amounts" "formula_amounts" mN ["formula"]) (T:Gp K mg C R G Pc Fo Ch uK uN uB uE uM uC uP uI uD uL uT fg fj fk) (c1:aM P w K mg base 7 Fo "counts" ["self"] (md C G Pc Fo 1)):a9 P w K mg base 8 "formula_amounts" ["formula"] (ur C G Pc Fo):=by
 obtain⟨_,_,b5⟩:=c1
 refine D.cY uu (fun vs H Q E h=>?_) (fun f bg A outer s H vs Q E hr h=>?_)
 ·obtain⟨f,x,rfl,_⟩:=h
  rfl
 ·obtain⟨fo,x,rfl,hF,aX,q⟩:=h
  have hu:=dn hr
  have big:(2000 :Nat)≤sizeLine:=by decide
  obtain⟨dx,l,ps,hf,_⟩:=id hF
  have hz:(x.1.flatMap (cx 1)).length≤400:=Nat.le_trans aX.2.2 (by decide)
  refine⟨_,(ai
     (aB (i:=1) uu.nd rfl (Or.inl rfl) (aP (pv 0) T.bL b5.m b5.ok (hr.mono (by decide)) b5.b .nil aA))
    (ai
     (dX hu (pv 1) (bp (v:= .str "+") rfl T.vV ⟨_,rfl⟩) (a0 (pv 0) rfl) rfl)
    (ao
     (aE (pv 1))))),?_⟩
  refine⟨_,rfl,fo,dx,_,rfl,hf,q5 _ _ (by decide+kernel) (by decide+kernel),fo,x.1,x.2,rfl,hF,aX.1,hz,fun e H' ne he es=>?_⟩
  have hl:=Bw aX
  refine⟨_,rfl,fo,Fo,dx,_,_,rfl,es _ _ hf,T.bL,T.lZ,nj _ _,_,rfl,e,_,rfl,lz.k (k:=Sum.inr "+") he (by omega),?_⟩
  exact⟨_,rfl,q e _ ne af fun b o z=>by rw[ah (ag z ne)];exact es _ _ z⟩
def Mt (zs:List Tm):List Key:=zs.foldl (fun ks z=>cQ ks ((cW 1 z.2.1).map (·.1))) []
def SU:Key→Option Str
 | .inr s=>some s
 | .inl _=>none
def SV (zs:List Tm):List Str:=(Mt zs).filterMap SU
def yl (ks:List Key):Prop:=∀k∈ks,∃s:Str,k=Sum.inr s
theorem Bx {ks:List Key} (h:yl ks):(ks.filterMap SU).map Sum.inr=ks:=by
 induction ks with
 |nil=>rfl
 |cons k r ih=>
  obtain⟨s,rfl⟩:=h k (List.mem_cons_self ..)
  show (s::r.filterMap SU).map Sum.inr=_
  rw[List.map_cons,ih fun k hk=>h k (List.mem_cons_of_mem _ hk)]
theorem ym {ks ls:List Key} (h1:yl ks) (h2:yl ls):yl (cQ ks ls):=fun k hk=>by
 rcases j9.mp hk with h|h
 ·exact h1 k h
 ·exact h2 k h
theorem KH (xs:List jO):(cW 1 xs).map (·.1)=cQ [] ((xs.flatMap (cx 1)).map fun p=>(Sum.inr p.1 :Key)):=by
 unfold cW
 rw[m9,g9,List.map_map]
 rfl
theorem By (xs:List jO):yl ((cW 1 xs).map (·.1)):=by
 rw[KH]
 refine ym (fun k hk=>by cases hk) fun k hk=>?_
 obtain⟨p,_,rfl⟩:=List.mem_map.mp hk
 exact⟨_,rfl⟩
theorem GK {zs:List Tm} {i:Nat} {z:Tm} (h:zs[i]? =some z):Mt (zs.take (i+1))=cQ (Mt (zs.take i)) ((cW 1 z.2.1).map (·.1)):=by
 unfold Mt
 rw[take_snoc h,List.foldl_append]
 rfl
theorem GL (zs:List Tm):yl (Mt zs):=by
 have:∀(zs:List Tm) (ks:List Key),yl ks→yl (zs.foldl (fun ks z=>cQ ks ((cW 1 z.2.1).map (·.1))) ks):=by
  intro zs
  induction zs with
  |nil=>intro ks h;exact h
  |cons z r ih=>intro ks h;exact ih _ (ym h (By _))
 exact this zs [] fun k hk=>by cases hk
theorem wy (zs:List Tm):Mt zs=(SV zs).map Sum.inr:=(Bx (GL zs)).symm
theorem rD:∀(more acc:List (Key×V)),(cy acc more).map (·.1)=cQ (acc.map (·.1)) (more.map (·.1))
 | [],_=>rfl
 |p::r,acc=>by
  show (cy (putK acc p.1 p.2) r).map (·.1)=cQ (gq (acc.map (·.1)) p.1) (r.map (·.1))
  rw[rD r,xN]
def Bz (zs:List Tm) (ms:List Str):Prop:=ms.Perm (SV zs)∧PyProof.Rows.sortedS ms=true
def yn (zs:List Tm):Nat:=(zs.map fun z=>(z.2.1.flatMap (cx 1)).length).sum
theorem GN {zs:List Tm} {i:Nat} {z:Tm} (h:zs[i]? =some z):yn (zs.take (i+1))=yn (zs.take i)+(z.2.1.flatMap (cx 1)).length:=by
 unfold yn
 rw[take_snoc h,List.map_append,List.sum_append]
 simp
theorem GO (zs:List Tm) (i:Nat):yn (zs.take i)≤yn zs:=by
 unfold yn
 conv=>rhs;rw[←List.take_append_drop i zs,List.map_append,List.sum_append]
 omega
theorem rE {α β:Type} {p q:α→β→Prop}:∀{as:List α} {bs:List β},(∀a b,a∈as→p a b→q a b)→Paired p as bs→Paired q as bs
 |_,_,_, .nil=> .nil
 |_,_,h, .cons x t=> .cons (h _ _ (List.mem_cons_self ..) x) (rE (fun a b ha=>h a b (List.mem_cons_of_mem _ ha)) t)
theorem yo:∀(ls ks:List Key),(cQ ks ls).length≤ks.length+ls.length
 | [],_=>Nat.le_refl _
 |k::r,ks=>by
  have h1:=yo r (gq ks k)
  have h2:(gq ks k).length≤ks.length+1:=by
   unfold gq
   split
   ·omega
   ·rw[List.length_append];exact Nat.le_refl _
  show (cQ (gq ks k) r).length≤_
  rw[List.length_cons]
  omega
inductive GP (C G Pc Fo Ch:Addr) (vs:List V) (H:Hp) (Q:VK) (E:XK):Prop
 |mk (c:Addr) (xs ys:List Tm) (dU:vs=[.ref c]) (dW:dt C G Pc Fo Ch H c xs ys) (d5:(∀z∈xs++ys,cT z.2)) (fe:(xs++ys).length≤20) (gH:yn (xs++ys)≤60) (jb:∀l ms H',Bz (xs++ys) ms→H l=none→H' l=some (.lst ((ms++[("+" :Str)]).map V.str))→au H H'→Q (.ref l) H')
def BB (C G Pc Fo Ch:Addr):Sp:=GP C G Pc Fo Ch
theorem qa:ay ["self","found","count","formula"] ["self"] (aj vz):=dq
theorem me {α β:Type} {p:α→β→Prop}:∀{as:List α} {bs:List β} {cs:List α} {ds:List β},Paired p as bs→Paired p cs ds→Paired p (as++cs) (bs++ds)
 |_,_,_,_, .nil,h=>h
 |_,_,_,_, .cons h t,h2=> .cons h (me t h2)
theorem GQ (D:bb K Ch "kinds" "Change.kinds" vz ["self"]) (T:GJ K mg C R G Pc Fo Ch uK uN uB uE uM uC uP uI uD uL uT fg fj fk) (c1:aM P w K mg base 7 Fo "counts" ["self"] (md C G Pc Fo 1)):aM P w K mg base 8 Ch "kinds" ["self"] (BB C G Pc Fo Ch):=by
 obtain⟨_,_,b5⟩:=c1
 refine D.cY qa (fun vs H Q E h=>?_) (fun f bg A outer s H vs Q E hr h=>?_)
 ·obtain⟨c,xs,ys,rfl,_⟩:=h
  rfl
 ·obtain⟨c,xs,ys,rfl,⟨dx,l,r,hc,⟨ts,hl,hT⟩,⟨us,IV,hU⟩⟩,aX,h8,h60,q⟩:=h
  have hu:=dn hr
  have big:(2000 :Nat)≤sizeLine:=by decide
  have hP:=me hT hU
  have lp:=Paired.length hP
  refine⟨_,(ai
     (aB (i:=1) qa.nd rfl (Or.inl rfl) dN)
    (ai
     (cq PassesOwn.never rfl (cG (az nW (a0 (pv 0) rfl) (a0 (pv 0) rfl))) (gB rfl (a6 (aK (i:=2) qa.nd rfl (Or.inl rfl)) (a6 (aK (i:=3) qa.nd rfl (Or.inl rfl)) dC)))
      (ao
       (bw (JP (pv 1) (aP (pv 3) T.bL b5.m b5.ok (hr.mono (by decide)) b5.b .nil aA) ⟨rfl,rfl,rfl,rfl⟩))))
    (ao
     (aE (az nW (cj (mE rfl) rfl T.yk tF (aa (pv 1) ak)) (cu (aa (bp (v:= .str "+") rfl T.vV ⟨_,rfl⟩) ak))))))),?_⟩
  refine fun e0 sh=>?_
  have s0:=au.new (o:= .dK []) sh
  have hc0:=s0 _ _ hc
  refine⟨_,rfl,c,Ch,dx,_,_,rfl,hc0,T.bY,T.hV,eV _ _,_,rfl,c,Ch,dx,_,_,rfl,hc0,T.bY,T.i',gO _ _,l,r,_,_,rfl,rfl,s0 _ _ hl,s0 _ _ IV,?_,fun L hL=>?_⟩
  ·rw[List.length_map,List.length_map,←List.length_append,lp]
   omega
  have s1:=s0.trans (au.new (o:= .lst (ts.map V.ref++us.map V.ref)) hL)
  have Q7:e0≠L:=ag af hL
  refine⟨L,rfl,⟨_,bS.of af⟩,eF (K:=K) (a:=L) (xs:=(ts++us).map V.ref) (fun i σ H'=>∃(kvs:List (Key×V)) (v2 v3:Option V),σ=[some (.ref c),some (.ref e0),v2,v3]∧H' e0=some (.dK kvs)∧kvs.map (·.1)=Mt ((xs++ys).take i)∧kvs.length≤yn ((xs++ys).take i)∧au H H'∧H' L=some (.lst ((ts++us).map V.ref))) ?_ (fun i σ H' _ ⟨_,_,_,_,_,_,_,_,z⟩=>bS.of z) ?_ ?_⟩
  ·exact⟨[],none,none,rfl,by rw[ah Q7,af],rfl,Nat.zero_le _,s1,by rw[af,List.map_append]⟩
  ·rintro i v σ H' hi ⟨kvs,v2,v3,rfl,he,hk,lB,e,pV⟩
   rw[List.getElem?_map] at hi
   obtain⟨t,ht,rfl⟩:∃p,(ts++us)[i]? =some p∧v=V.ref p:=by
    cases hh:(ts++us)[i]? with
    |none=>rw[hh] at hi;cases hi
    |some p=>rw[hh] at hi;exact⟨p,rfl,(Option.some.inj hi).symm⟩
   obtain⟨z,hz,fo,h1,h2⟩:=bI hP ht
   have OR:=aX z (List.mem_of_getElem? hz)
   have yM:i< (xs++ys).length:=(List.getElem?_eq_some_iff.mp hz).1
   obtain⟨dy,fl,fps,hfo,_⟩:=id h2
   refine⟨t,_,rfl,jL.of (e _ _ h1),rfl,_,_,rfl,_,_,rfl,rfl,?_⟩
   refine⟨_,rfl,e0,rfl, .inl ⟨_, .inl he⟩,_,rfl,fo,dy,_,rfl,e _ _ hfo,q5 _ _ (by decide+kernel) (by decide+kernel),fo,z.2.1,z.2.2,rfl,h2.same e,OR.1,Nat.le_trans OR.2.2 (by decide),fun b cp nb hb e'=>?_⟩
   have SW:(cW 1 z.2.1).length≤(z.2.1.flatMap (cx 1)).length:=cU _
   have SX:=eG (cW 1 z.2.1) kvs
   have hfs:=GN hz
   have hfl:=GO (xs++ys) i
   have hz7:=OR.2.2
   have neb:e0≠b:=ag he nb
   refine⟨b,kvs,_,rfl,e' _ _ he,hb,neb,by omega,cy kvs (cW 1 z.2.1),_,_,rfl,af,?_,by omega,fun b' o w=>?_,?_⟩
   ·rw[rD,hk,GK hz]
   ·rw[ah (ag w sh)]
    exact e' _ _ (e _ _ w)
   ·rw[ah (Ne.symm Q7)]
    exact e' _ _ pV
  ·rintro σ H' ⟨kvs,v2,v3,rfl,he,hk,lB,e,pV⟩
   rw[List.length_map,lp] at hk lB
   rw[List.take_length] at hk lB
   have yO:(SV (xs++ys)).length<64:=by
    have:=congrArg List.length hk
    rw[wy,List.length_map,List.length_map] at this
    omega
   refine⟨_,rfl,e0,kvs,SV (xs++ys),rfl, .inl he,by rw[hk,wy],yO,fun m ms pm sm hm=>⟨(by show 1≤sizeLine;decide),fun n hn=>?_⟩⟩
   have SI:m≠n:=ag af hn
   refine⟨m,n,ms.map V.str,[V.str "+"],rfl,rfl,by rw[ah SI,af],af,?_,fun p hp=>?_⟩
   ·rw[List.length_map,pm.length_eq]
    show _+1≤sizeLine
    omega
   have s2:=(au.new (o:= .lst (ms.map V.str)) hm).trans (au.new (o:= .lst [V.str "+"]) hn)
   have hpH:H p=none:=none_back (e.trans s2) hp
   refine q p ms _ ⟨pm,sm⟩ hpH ?_ ((e.trans s2).trans (au.new hp))
   rw[af,List.map_append]
   rfl
variable {uC uP uI uD uL uT fg fj fk:Tok} {Ch:Addr}
def fq (c:Int) (acc l all:List (Key×V)):List (Key×V):=l.foldl (fun acc p=>cA acc p.1 (c*aG all p.1)) acc
theorem rF (c:Int) (all:List (Key×V)):∀(l acc:List (Key×V)),fq c acc l all=cK acc (l.map fun p=>(p.1,c*aG all p.1))
 | [],_=>rfl
 |p::r,acc=>rF c all r _
theorem cV (c:Int) (all:List (Key×V)):∀(l acc:List (Key×V)),bu acc→bu (fq c acc l all)
 | [],_,h=>h
 |_::r,_,h=>cV c all r _ (h.add _ _)
theorem fI (c:Int) (all:List (Key×V)):∀(l acc:List (Key×V)),(fq c acc l all).length≤acc.length+l.length
 | [],_=>Nat.le_refl _
 |p::r,acc=>by
  have h1:=fI c all r (cA acc p.1 (c*aG all p.1))
  have h2:(cA acc p.1 (c*aG all p.1)).length≤acc.length+1:=dM _ _ _
  show (fq c (cA acc p.1 (c*aG all p.1)) r all).length≤_
  rw[List.length_cons]
  omega
theorem wz (c:Int) {D:List (Key×V)} (hn:(D.map (·.1)).Nodup) (acc:List (Key×V)) (j:Key):aG (fq c acc D D) j=aG acc j+c*aG D j:=by
 rw[rF,m6]
 congr 1
 have e:=vQ (fun k=>c*aG D k) j hn
 rw[List.map_map] at e
 have e2:sumK (D.map fun p=>(p.1,c*aG D p.1)) j=if j∈D.map (·.1) then c*aG D j else 0:=by
  rw[←e]
  unfold sumK
  rw[List.map_map]
  rfl
 rw[e2]
 split
 ·rfl
 ·rename_i h
  rw[m8 h,Int.mul_zero]
def sumZ (zs:List Tm) (k:Key):Int:=(zs.map fun z=>z.1*aG (jP z.2) k).sum
theorem sumZ_snoc {zs:List Tm} {i:Nat} {z:Tm} (h:zs[i]? =some z) (k:Key):sumZ (zs.take (i+1)) k=sumZ (zs.take i) k+z.1*aG (jP z.2) k:=by
 unfold sumZ
 rw[take_snoc h,List.map_append,List.sum_append]
 simp
theorem OS (x:Fm):((jP x).map (·.1)).Nodup:=qM (iM _)
theorem KI {x:Fm} (h:cT x):(jP x).length≤8:=by
 have h1:=Bw h
 have h2:(jP x).length≤(cW 1 x.1).length+1:=dM _ _ _
 omega
theorem rG:∀(d:Nat) (m:Int) (t:Tr),tT d t→0≤m→∀p∈bj d m t,0≤p.2∧p.2≤999*(999^d*m)
 |d,m, .one k n,h,hm,p,hp=>by
  have e:bj d m (.one k n)=[(⟨k.toArray⟩,n*m)]:=by cases d<;>rfl
  rw[e] at hp
  have h:lY k∧1≤n∧n≤999:=by cases d<;>exact h
  have ep:p=(⟨k.toArray⟩,n*m):=by simpa using hp
  rw[ep]
  have p1:(1 :Int)≤999^d:=Int.pow_pos (by decide)
  have p2:m≤999^d*m:=by
   have:=Int.mul_le_mul_of_nonneg_right p1 hm
   rwa [Int.one_mul] at this
  refine⟨Int.mul_nonneg (by omega) hm,?_⟩
  exact Int.le_trans (Int.mul_le_mul_of_nonneg_right h.2.2 hm) (Int.mul_le_mul_of_nonneg_left p2 (by decide))
 |0,_, .gr _ _,h,_,_,_=>h.elim
 |d+1,m, .gr ts n,h,hm,p,hp=>by
  obtain⟨t,ht,hp⟩:=List.mem_flatMap.mp hp
  obtain⟨_,h1,n1,n2⟩:=h
  have nm:0≤n*m:=Int.mul_nonneg (by omega) hm
  obtain⟨q1,q2⟩:=rG d (n*m) t (h1 t ht) nm p hp
  refine⟨q1,Int.le_trans q2 ?_⟩
  have p0:(0 :Int)≤999^d:=Int.le_of_lt (Int.pow_pos (by decide))
  have e:(999 :Int) ^(d+1)*m=999^d*(999*m):=by rw[Int.pow_succ,Int.mul_assoc]
  rw[e]
  exact Int.mul_le_mul_of_nonneg_left (Int.mul_le_mul_of_nonneg_left (Int.mul_le_mul_of_nonneg_right n2 hm) p0) (by decide)
theorem KJ {x:Fm} (h:cT x):FG (2^60) (cW 1 x.1):=by
 have hb:=vL (t:=1) (b:=1000000000000) (by decide) (x.1.flatMap (cx 1)) [] 0 (Int.le_refl _) (fun p hp=>by cases hp) fun p hp=>by
  obtain⟨y,hy,hp⟩:=List.mem_flatMap.mp hp
  obtain⟨_,h1,n1,n2⟩:=k9 h.1 y hy
  obtain⟨t,ht,hp⟩:=List.mem_flatMap.mp hp
  obtain⟨q1,q2⟩:=rG 1 y.1 t (h1 t ht) (by omega) p hp
  rw[Int.mul_one]
  refine⟨q1,?_⟩
  have:(999 :Int) ^1*y.1≤999*999:=by
   rw[show (999 :Int) ^1=999 from rfl]
   exact Int.mul_le_mul_of_nonneg_left n2 (by decide)
  omega
 intro p hp
 obtain⟨i,e,b0,b1⟩:=hb p hp
 refine⟨i,e,b0,?_⟩
 have:=h.2.2
 have:(2 :Int) ^60=1152921504606846976:=by decide
 have e7:((x.1.flatMap (cx 1)).length:Int)*1000000000000≤7*1000000000000:=Int.mul_le_mul_of_nonneg_right (by omega) (by decide)
 omega
theorem BC {x:Fm} (h:cT x): -999≤x.2∧x.2≤999:=by
 obtain⟨h,_,_⟩:=h
 obtain⟨xs,n⟩:=x
 cases xs with
 |nil=>
  have:n= -1:=h
  subst this
  exact⟨by decide,by decide⟩
 |cons y r=>exact⟨h.2.2.1,h.2.2.2⟩
theorem DM {x:Fm} (h:cT x) (k:Key): -(2^64) <aG (jP x) k∧aG (jP x) k<2^64:=by
 unfold jP
 rw[js]
 split
 ·have:=BC h
  omega
 ·have:=(KJ h).So (by decide) k
  omega
inductive rH (C G Pc Fo:Addr) (vs:List V) (H:Hp) (Q:VK) (E:XK):Prop
 |mk (l:Addr) (xs:List Tm) (dU:vs=[.ref l]) (dW:ia C G Pc Fo H l xs) (d5:(∀x∈xs,cT x.2)) (fe:xs.length≤20) (gH:∀e kvs H',H e=none→H' e=some (.dK kvs)→bu kvs→(∀k,aG kvs k=sumZ xs k)→au H H'→Q (.ref e) H')
def lJ (C G Pc Fo:Addr):Sp:=rH C G Pc Fo
theorem dz:ay ["terms","total","count","formula","amounts","kind"] ["terms"] (aj gM):=dq
theorem rJ (D:Def K mg "side_amounts" "side_amounts" gM ["terms"]) (T:GJ K mg C R G Pc Fo Ch uK uN uB uE uM uC uP uI uD uL uT fg fj fk) (c1:a9 P w K mg base 8 "formula_amounts" ["formula"] (ur C G Pc Fo)):a9 P w K mg base 9 "side_amounts" ["terms"] (lJ C G Pc Fo):=by
 obtain⟨_,_,dG⟩:=c1
 refine D.cY dz (fun vs H Q E h=>?_) (fun f bg A outer s H vs Q E hr h=>?_)
 ·obtain⟨l,xs,rfl,_⟩:=h
  rfl
 ·obtain⟨l,xs,rfl,⟨ts,hl,hP⟩,aX,YW,q⟩:=h
  have hu:=dn hr
  have big:(2000 :Nat)≤sizeLine:=by decide
  have lp:=Paired.length hP
  refine⟨_,(ai
     (aB (i:=1) dz.nd rfl (Or.inl rfl) dN)
    (ai
     (cq PassesOwn.never rfl (cG (pv 0)) (gB rfl (a6 (aK (i:=2) dz.nd rfl (Or.inl rfl)) (a6 (aK (i:=3) dz.nd rfl (Or.inl rfl)) dC)))
      (ai
       (aB (i:=4) dz.nd rfl (Or.inl rfl) (aF dG.ok (hr.mono (by decide)) rfl dG.g dG.kp dG.b .nil aA (aa (pv 3) ak)))
      (ao
       (eM (cq PassesOwn.never rfl (dE (pv 4)) (aK (i:=5) dz.nd rfl (Or.inl rfl))
        (ao
         (dX hu (pv 1) (pv 5) (az bO (bP hu (pv 1) (pv 5) aq ⟨rfl,rfl,rfl,rfl⟩) (az dI (pv 2) (bN hu (pv 4) (pv 5) (fun _ _=>rfl)))) rfl)))))))
    (ao
     (aE (pv 1))))),?_⟩
  refine fun e0 sh=>?_
  have s0:=au.new (o:= .dK []) sh
  refine⟨_,rfl,l,rfl,⟨_,bS.of (s0 _ _ hl)⟩,eF (K:=K) (a:=l) (xs:=ts.map V.ref) (fun i σ H'=>∃(kvs:List (Key×V)) (v2 v3 v4 v5:Option V),σ=[some (.ref l),some (.ref e0),v2,v3,v4,v5]∧H' e0=some (.dK kvs)∧bu kvs∧(∀k,aG kvs k=sumZ (xs.take i) k)∧kvs.length≤8*i∧au H H') ?_ (fun i σ H' _ ⟨_,_,_,_,_,_,_,_,_,_,z⟩=>bS.of (z _ _ hl)) ?_ ?_⟩
  ·exact⟨[],none,none,none,none,rfl,af,Gw,fun _=>rfl,Nat.zero_le _,s0⟩
  ·rintro i v σ H' hi ⟨kvs,v2,v3,v4,v5,rfl,he,hI,hz,lB,e⟩
   rw[List.getElem?_map] at hi
   obtain⟨t,ht,rfl⟩:∃p,ts[i]? =some p∧v=V.ref p:=by
    cases hh:ts[i]? with
    |none=>rw[hh] at hi;cases hi
    |some p=>rw[hh] at hi;exact⟨p,rfl,(Option.some.inj hi).symm⟩
   obtain⟨z,SY,fo,h1,h2⟩:=bI hP ht
   have OR:=aX z (List.mem_of_getElem? SY)
   have yM:i<xs.length:=(List.getElem?_eq_some_iff.mp SY).1
   have YX:=KI OR
   refine⟨t,_,rfl,jL.of (e _ _ h1),rfl,_,_,rfl,_,_,rfl,rfl,?_⟩
   refine⟨_,rfl,fo,z.2,rfl,h2.same e,OR,fun d H2 nd hd e2=>?_⟩
   have GR:e0≠d:=ag he nd
   have YZ:=e2 _ _ he
   dsimp only [dB]
   refine⟨_,rfl,d,jP z.2,rfl,hd,fun o nf=>fA nf (fun j σ H3=>∃w:Option V,σ=[some (.ref l),some (.ref e0),some (.int z.1),some (.ref fo),some (.ref d),w]∧H3=upd H2 e0 (.dK (fq z.1 kvs ((jP z.2).take j) (jP z.2)))) ?_ ?_ ?_ ?_⟩
   ·exact⟨v5,rfl,(dO YZ).symm⟩
   ·rintro j σ H3 ⟨_,_,rfl⟩
    rw[ah (Ne.symm GR)]
    exact hd
   ·rintro j k v σ H3 hj ⟨w,rfl,rfl⟩
    have n4:∀o',(upd (upd H2 e0 (.dK (fq z.1 kvs ((jP z.2).take j) (jP z.2)))) d o') e0=some (.dK (fq z.1 kvs ((jP z.2).take j) (jP z.2))):=fun o'=>by rw[ah GR];exact af
    have Y0:=fI z.1 (jP z.2) ((jP z.2).take j) kvs
    have Kz:((jP z.2).take j).length≤(jP z.2).length:=List.length_take_le' _ _
    have Gx:=cV z.1 (jP z.2) ((jP z.2).take j) kvs hI
    have hv:=(KG z.2).dZ (List.mem_of_getElem? hj)
    have YN:=DM OR k
    refine⟨_,rfl,e0,rfl, .inl ⟨_, .inl (n4 _)⟩,_,rfl,_,gk.k (k:=k) (n4 _),_,rfl,_,rfl,_,rfl,d,V.int (aG (jP z.2) k),rfl, .inl ⟨_,k, .inr ⟨o,af⟩,rfl,hv.symm⟩,_,_,rfl,rfl, .inr YN,_,_,Gx.at k,rfl,_,rfl,_,rfl,e0,_,rfl,lz.k (k:=k) (n4 _) (by omega),?_⟩
    refine⟨by rw[ah (Ne.symm GR)];exact af,some (kV k),rfl,?_⟩
    rw[ja GR hd]
    unfold fq
    rw[take_snoc hj,List.foldl_append]
    rfl
   ·rintro σ H3 ⟨w,rfl,rfl⟩
    rw[List.take_length]
    have Y0:=fI z.1 (jP z.2) (jP z.2) kvs
    refine⟨_,_,_,_,_,rfl,af,cV z.1 (jP z.2) (jP z.2) kvs hI,fun k=>?_,by omega,fun b o' w'=>?_⟩
    ·rw[wz z.1 (OS _),hz k,sumZ_snoc SY]
    ·rw[ah (ag w' sh)]
     exact e2 _ _ (e _ _ w')
  ·rintro σ H' ⟨kvs,v2,v3,v4,v5,rfl,he,hI,hz,lB,e⟩
   rw[List.length_map,lp,List.take_length] at hz
   exact⟨_,rfl,q e0 kvs H' sh he hI hz e⟩
variable {uC uP uI uD uL uT fg fj fk:Tok} {Ch:Addr}
abbrev Tri:=Str×Int×Int
theorem S0 {c A B:Prop} [Decidable c] (hc:¬c) (h:A):if (!decide c)=true then A else B:=by
 rw[decide_eq_false hc]
 exact h
def GS (H:Hp) (t:Addr) (p:Tri):Prop:=H t=some (.tup [.str p.1, .int p.2.1, .int p.2.2])
def yp (ms:List Str) (xs ys:List Tm):List Tri:=ms.map fun k=>(k,sumZ xs (Sum.inr k),sumZ ys (Sum.inr k))
def GU (ms:List Str) (xs ys:List Tm):List Tri:=(yp ms xs ys).filter fun p=>!decide (p.2.1=p.2.2)
inductive KL (C G Pc Fo Ch:Addr) (vs:List V) (H:Hp) (Q:VK) (E:XK):Prop
 |mk (c:Addr) (xs ys:List Tm) (dU:vs=[.ref c]) (dW:dt C G Pc Fo Ch H c xs ys) (d5:(∀z∈xs++ys,cT z.2)) (fe:(xs++ys).length≤20) (gH:yn (xs++ys)≤60) (jb:∀L ts ms H',Bz (xs++ys) ms→H L=none→H' L=some (.lst (ts.map V.ref))→Paired (GS H') ts (GU (ms++[("+" :Str)]) xs ys)→au H H'→Q (.ref L) H')
def GV (C G Pc Fo Ch:Addr):Sp:=KL C G Pc Fo Ch
theorem wA:ay ["self","lefts","rights","told"] ["self"] (aj tI):=dq
theorem GW {zs:List Tm}:(SV zs).length≤yn zs:=by
 have key:∀(zs:List Tm) (ks:List Key),(zs.foldl (fun ks z=>cQ ks ((cW 1 z.2.1).map (·.1))) ks).length≤ks.length+yn zs:=by
  intro zs
  induction zs with
  |nil=>intro ks;exact Nat.le_refl _
  |cons z r ih=>
   intro ks
   have h1:=ih (cQ ks ((cW 1 z.2.1).map (·.1)))
   have h2:(cQ ks ((cW 1 z.2.1).map (·.1))).length≤ks.length+((cW 1 z.2.1).map (·.1)).length:=yo _ _
   have h3:(cW 1 z.2.1).length≤(z.2.1.flatMap (cx 1)).length:=cU _
   have h4:yn (z::r)=(z.2.1.flatMap (cx 1)).length+yn r:=rfl
   rw[List.length_map] at h2
   rw[List.foldl_cons]
   omega
 have h:=key zs []
 have e:=congrArg List.length (wy zs)
 rw[List.length_map] at e
 rw[←e]
 have h:(Mt zs).length≤0+yn zs:=h
 omega
theorem KN (D:bb K Ch "lost" "Change.lost" tI ["self"]) (T:GJ K mg C R G Pc Fo Ch uK uN uB uE uM uC uP uI uD uL uT fg fj fk) (c1:a9 P w K mg base 9 "side_amounts" ["terms"] (lJ C G Pc Fo)) (c2:aM P w K mg base 8 Ch "kinds" ["self"] (BB C G Pc Fo Ch)):aM P w K mg base 10 Ch "lost" ["self"] (GV C G Pc Fo Ch):=by
 obtain⟨_,_,cn⟩:=c1
 obtain⟨_,_,ik⟩:=c2
 refine D.cY wA (fun vs H Q E h=>?_) (fun f bg A outer s H vs Q E hr h=>?_)
 ·obtain⟨c,xs,ys,rfl,_⟩:=h
  rfl
 ·obtain⟨c,xs,ys,rfl,hC,aX,YW,h60,q⟩:=h
  have hu:=dn hr
  have big:(2000 :Nat)≤sizeLine:=by decide
  obtain⟨dx,l,r,hc,hl,IV⟩:=id hC
  have hla:=List.length_append (as:=xs) (bs:=ys)
  refine⟨_,(ai
     (aB (i:=1) wA.nd rfl (Or.inr rfl) (aF cn.ok (hr.mono (by decide)) rfl cn.g cn.kp cn.b .nil aA (aa (a0 (pv 0) rfl) ak)))
    (ai
     (aB (i:=2) wA.nd rfl (Or.inr rfl) (aF cn.ok (hr.mono (by decide)) rfl cn.g cn.kp cn.b .nil aA (aa (a0 (pv 0) rfl) ak)))
    (ai
     (pG (i:=3) wA.nd rfl (Or.inl rfl) (sc:=(aj tI)) (NX:=["self","lefts","rights","told"]) (N:=["kind","lefts","rights"]) (fr:=[none,some 1,some 2]) ⟨by rfl,by rfl,by decide+kernel,by decide+kernel,by decide+kernel,by rfl,by decide+kernel⟩ rfl rfl rfl (cG (aP (pv 0) T.bY ik.m ik.ok (hr.mono (by decide)) ik.b .nil aA)) (fun _ _ _ _=>(aK (i:=0) (show (["kind","lefts","rights"]:List Str).Nodup by decide+kernel) rfl (Or.inl rfl) (Or.inr rfl))) (fun _ _ _ _=>f7) (fun _ _ _ _=>(bW (aa (pv 0) (aa (bP hu (pv 1) (pv 0) aq ⟨rfl,rfl,rfl,rfl⟩) (aa (bP hu (pv 2) (pv 0) aq ⟨rfl,rfl,rfl,rfl⟩) ak))))))
    (ao
     (aE (fB (sc:=(aj tI)) (NX:=["self","lefts","rights","told"]) (N:=["each"]) (fr:=[none]) ⟨by rfl,by rfl,by decide+kernel,by decide+kernel,by decide+kernel,by rfl,by decide+kernel⟩ rfl rfl rfl (cG (pv 3)) (fun _ _ _ _=>(aK (i:=0) (show (["each"]:List Str).Nodup by decide+kernel) rfl (Or.inl rfl) (Or.inr rfl))) (fun _ _ _ _=>(mw (aO qk (cF (AV K rfl) (pv 0) aq (fun _ _=>rfl)) (cF (AV K rfl) (pv 0) aq (fun _ _=>rfl)) (aQ _)))) (fun _ _ _ _=>(pv 0)))))))),?_⟩
  refine⟨_,rfl,c,Ch,dx,_,_,rfl,hc,T.bY,T.hV,eV _ _,l,xs,rfl,hl,fun x hx=>aX x (List.mem_append_left _ hx),by omega,fun d1 k1 H1 nd1 JH hI1 YG e1=>?_⟩
  refine⟨_,rfl,c,Ch,dx,_,_,rfl,e1 _ _ hc,T.bY,T.i',gO _ _,r,ys,rfl,IV.same e1,fun x hx=>aX x (List.mem_append_right _ hx),by omega,fun d2 k2 H2 nd2 hd2 SK hz2 e2=>?_⟩
  have uv:=e1.trans e2
  have hd12:=e2 _ _ JH
  dsimp only [dB]
  refine⟨_,rfl,c,dx,_,rfl,uv _ _ hc,x5 _ _ (by decide+kernel) (by decide+kernel),c,xs,ys,rfl,hC.same uv,aX,YW,h60,fun k ms H3 hK nk hk e3=>?_⟩
  have Y1:=uv.trans e3
  have DN:=e3 _ _ hd12
  have hd23:=e3 _ _ hd2
  have SX:(ms++[("+" :Str)]).length≤100:=by
   have h1:=hK.1.length_eq
   have h2:=GW (zs:=xs++ys)
   rw[List.length_append]
   show _+1≤100
   omega
  generalize hms:ms++[("+" :Str)]=mp at hk SX
  refine⟨k,rfl,⟨_,bS.of hk⟩,fun L hL=>kO (K:=K) (a:=k) (L:=L) (xs:=mp.map V.str) H3 (fun σ=>∃v:Option V,σ=[v,some (.ref d1),some (.ref d2)]) (fun i zs cp=>∃ts:List Addr,zs=ts.map V.ref∧ts.length=i∧(∀a∈ts,a≠L)∧Paired (GS cp) ts ((yp mp xs ys).take i))
   (bS.of hk) ?_ hL ⟨none,rfl⟩ (au.new hL) af ⟨[],rfl,rfl,(fun a ha=>by cases ha), .nil⟩ (by rw[List.length_map];omega) (fun i ys _ ⟨ps,e1,e2,_⟩=>by rw[e1,List.length_map,e2];exact Nat.le_refl _) ?_ ?_⟩
  ·rintro i ys Ha Hb hb ⟨ds,h1,h2,h3,h4⟩
   exact⟨ds,h1,h2,h3,rE (fun a x ha z=>hb _ _ z (h3 a ha)) h4⟩
  ·rintro j w σ' H5 vs hj ⟨w1,rfl⟩ e5 sy ⟨ts,rfl,GX,hnL,S1⟩ N M hN
   rw[List.getElem?_map] at hj
   obtain⟨kk,hkk,rfl⟩:∃m,mp[j]? =some m∧w=V.str m:=by
    cases hh:mp[j]? with
    |none=>rw[hh] at hj;cases hj
    |some m=>rw[hh] at hj;exact⟨m,rfl,(Option.some.inj hj).symm⟩
   have h1:=e5 _ _ DN
   have h2:=e5 _ _ hd23
   have a1:=hI1.at (Sum.inr kk)
   have a2:=SK.at (Sum.inr kk)
   rw[YG] at a1
   rw[hz2] at a2
   refine⟨_,rfl,_,rfl,d1,rfl, .inl ⟨_, .inl h1⟩,_,rfl,_,gk.k (k:=Sum.inr kk) h1,_,rfl,d2,rfl, .inl ⟨_, .inl h2⟩,_,rfl,_,gk.k (k:=Sum.inr kk) h2,(by show 3≤sizeLine;decide),fun t ht=>?_⟩
   have st:=au.new (o:= .tup [.str kk,(bX k1 (Sum.inr kk)).getD (.int 0),(bX k2 (Sum.inr kk)).getD (.int 0)]) ht
   refine hN _ _ _ ⟨_,rfl⟩ (e5.trans st) (st _ _ sy) ⟨ts++[t],by rw[List.map_append];rfl,by rw[List.length_append,GX];rfl,fun a ha=>?_,?_⟩
   ·rcases List.mem_append.mp ha with ha|ha
    ·exact hnL a ha
    ·have ea:a=t:=by simpa using ha
     subst ea
     exact fun z=>by rw[z,sy] at ht;cases ht
   have hj':(yp mp xs ys)[j]? =some (kk,sumZ xs (Sum.inr kk),sumZ ys (Sum.inr kk)):=by unfold yp;rw[List.getElem?_map,hkk];rfl
   rw[take_snoc hj']
   refine bK ?_ (aL (fun _ _ z=>st _ _ z) S1)
   show (upd H5 t _) t=_
   rw[af,a1,a2]
  rintro H4 vs e4 Bf ⟨ts,rfl,GX,_,S1⟩
  have ltr:(yp mp xs ys).length=mp.length:=by unfold yp;rw[List.length_map]
  rw[List.length_map] at GX
  rw[List.length_map,←ltr,List.take_length] at S1
  dsimp only [dB]
  refine⟨_,rfl,L,rfl,⟨_,bS.of Bf⟩,fun L2 sx=>tG (K:=K) (a:=L) (L:=L2) (xs:=ts.map V.ref) H4 (fun σ=>∃v:Option V,σ=[v]) (fun i zs=>∃us:List Addr,zs=us.map V.ref∧us.length≤i∧Paired (GS H4) us (((yp mp xs ys).take i).filter fun p=>!decide (p.2.1=p.2.2)))
   (bS.of Bf) sx ⟨none,rfl⟩ (au.new sx) af ⟨[],rfl,Nat.le_refl _, .nil⟩ (by rw[List.length_map];omega) (fun i ys ⟨ps,e1,e2,_⟩=>by rw[e1,List.length_map];exact e2) ?_ ?_⟩
  ·rintro j w σ' H5 vs hj ⟨w1,rfl⟩ e5 sy ⟨us,rfl,S2,QU⟩ N M hN hM
   rw[List.getElem?_map] at hj
   obtain⟨t,ht,rfl⟩:∃m,ts[j]? =some m∧w=V.ref m:=by
    cases hh:ts[j]? with
    |none=>rw[hh] at hj;cases hj
    |some m=>rw[hh] at hj;exact⟨m,rfl,(Option.some.inj hj).symm⟩
   obtain⟨p,hp,S3⟩:=bI S1 ht
   have S3:H4 t=some (.tup [.str p.1, .int p.2.1, .int p.2.2]):=S3
   refine⟨_,rfl,t,_,_,V.int p.2.1,rfl,rfl,jL.of (e5 _ _ S3),rfl,_,rfl,t,_,_,V.int p.2.2,rfl,rfl,jL.of (e5 _ _ S3),rfl,rfl,_,rfl,?_⟩
   by_cases hd:p.2.1=p.2.2
   ·refine E1 (by rw[hd]) ?_
    refine hM _ _ ⟨_,rfl⟩ e5 sy ⟨us,rfl,by omega,?_⟩
    rw[take_snoc hp,List.filter_append]
    have:[p].filter (fun p=>!decide (p.2.1=p.2.2))=[]:=by simp [hd]
    rw[this,List.append_nil]
    exact QU
   ·refine S0 (by intro z;injection z with z;exact hd z) ?_
    refine⟨_,rfl,hN _ _ _ ⟨_,rfl⟩ e5 sy ⟨us++[t],by rw[List.map_append];rfl,by rw[List.length_append];show _+1≤_;omega,?_⟩⟩
    rw[take_snoc hp,List.filter_append]
    have:[p].filter (fun p=>!decide (p.2.1=p.2.2))=[p]:=by simp [hd]
    rw[this]
    refine bK ?_ ?_
    ·exact S3
    ·exact QU
  rintro H5 vs e5 sy ⟨us,rfl,S2,QU⟩
  have lts:=Paired.length S1
  rw[List.length_map,lts,List.take_length] at QU
  have S4:=(Y1.trans e4)
  rw[←hms] at QU
  exact q L2 us ms H5 hK (none_back S4 sx) sy (aL (fun _ _ z=>e5 _ _ z) QU) (S4.trans e5)
variable {uC uP uI uD uL uT:Tok} {St:Addr}
structure wB (K:PySem.W.Frag) (mg:Str→Option Value) (C R G Pc Fo St:Addr) (uK uN uB uE uM uC uP uI uD uL uT:Tok):Prop extends lC K mg C R G Pc Fo uK uN uB uE uM uC uP uI uD uL uT where
 jA:mg "dict" =none
 n_sum:mg "sum" =none
 b8:sR K St
 dR:cE K St "amounts"
 wC:cE K St "gone"
 KO:mg "Store" =some (.ref St)
theorem Y2:¬(("amounts" :Str)="gone"):=by decide+kernel
def Ag (d g:Addr):List (Str×V):=cJ "gone" (.ref g) (cJ "amounts" (.ref d) [])
theorem gw (d g:Addr):(Ag d g).lookup ("amounts" :Str)=some (.ref d):=by
 unfold Ag
 rw[aD,if_neg Y2,aD,if_pos rfl]
theorem GY (d g:Addr):(Ag d g).lookup ("gone" :Str)=some (.ref g):=by
 unfold Ag
 rw[aD,if_pos rfl]
theorem kn (d g:Addr) {m:Str} (h1:¬m="gone") (h2:¬m="amounts"):(Ag d g).lookup m=none:=by
 unfold Ag
 rw[aD,if_neg h1,aD,if_neg h2]
 all_goals rfl
def lK (St:Addr) (H:Hp) (st d g:Addr):Prop:=∃dx,H st=some (.ins St dx (Ag d g))
def BD (x:Str):Prop:=∃fm:Fm,cT fm∧x=⟨(fL fm).toArray⟩
inductive KP (St:Addr) (vs:List V) (H:Hp) (Q:VK) (E:XK):Prop
 |mk (st d g:Addr) (x:Str) (kvs:List (Key×V)) (dU:vs=[.ref st, .str x]) (dW:lK St H st d g) (d5:H d=some (.dK kvs)) (fe:bu kvs) (gH:BD x) (jb:∀H',au H H'→Q (.int (aG kvs (Sum.inr x))) H')
def GZ (St:Addr):Sp:=KP St
inductive OT (St:Addr) (vs:List V) (H:Hp) (Q:VK) (E:XK):Prop
 |mk (st d g:Addr) (x:Str) (m:Int) (kvs:List (Key×V)) (dU:vs=[.ref st, .str x, .int m]) (dW:lK St H st d g) (d5:H d=some (.dK kvs)) (fe:bu kvs) (gH:kvs.length≤1000) (jb:BD x) (nM:∀H',Kept d H H'→H' d=some (.dK (cA kvs (Sum.inr x) m))→Q .cI H')
def Mu (St:Addr):Sp:=OT St
theorem OU:ay ["self","text"] ["self","text"] (aj AZ):=dq
theorem KQ (D:bb K St "have" "Store.have" AZ ["self","text"]) (T:wB K mg C R G Pc Fo St uK uN uB uE uM uC uP uI uD uL uT) (c1:a9 P w K mg base 11 "read_formula" ["text"] (Bh C G Pc Fo 1)):aM P w K mg base 12 St "have" ["self","text"] (GZ St):=by
 obtain⟨_,_,fJ⟩:=c1
 refine D.cY OU (fun vs H Q E h=>?_) (fun f bg A outer s H vs Q E hr h=>?_)
 ·obtain⟨st,d,g,x,kvs,rfl,_⟩:=h
  rfl
 ·obtain⟨st,d,g,x,kvs,rfl,⟨dx,gz⟩,hd,hI,⟨fm,SM,ex⟩,q⟩:=h
  have hu:=dn hr
  have t4:x.cps.toList=wL 1 fm.1 fm.2:=by rw[ex];rfl
  have hx4:x.length≤400:=by
   have:=SM.2.1
   rw[ex,bh]
   omega
  refine⟨_,(ai
     (bw (aF fJ.ok (hr.mono (by decide)) rfl fJ.g fJ.kp fJ.b .nil aA (aa (pv 1) ak)))
    (ao
     (aE (bP hu (a0 (pv 0) rfl) (pv 1) aq ⟨rfl,rfl,rfl,rfl⟩)))),?_⟩
  refine⟨_,rfl,x,fm.1,fm.2,rfl,t4,SM.1,by decide,hx4,fun f H1 nf hF e1=>?_⟩
  refine⟨_,rfl,st,St,dx,_,_,rfl,e1 _ _ gz,T.b8,T.dR,gw _ _,d,rfl, .inl ⟨_, .inl (e1 _ _ hd)⟩,_,rfl,_,gk.k (k:=Sum.inr x) (e1 _ _ hd),?_⟩
  have e:=hI.at (Sum.inr x)
  rw[e]
  exact q _ e1
theorem S5:ay ["self","text","many"] ["self","text","many"] (aj J3):=dq
theorem OV (D:bb K St "put" "Store.put" J3 ["self","text","many"]) (T:wB K mg C R G Pc Fo St uK uN uB uE uM uC uP uI uD uL uT) (c1:aM P w K mg base 12 St "have" ["self","text"] (GZ St)):aM P w K mg base 13 St "put" ["self","text","many"] (Mu St):=by
 obtain⟨_,_,jD⟩:=c1
 refine D.cY S5 (fun vs H Q E h=>?_) (fun f bg A outer s H vs Q E hr h=>?_)
 ·obtain⟨st,d,g,x,m,kvs,rfl,_⟩:=h
  rfl
 ·obtain⟨st,d,g,x,m,kvs,rfl,⟨dx,gz⟩,hd,hI,hl,hx,q⟩:=h
  have hu:=dn hr
  refine⟨_,(ao
     (dX hu (a0 (pv 0) rfl) (pv 1) (az bO (bU (pv 0) T.b8 jD.m jD.ok (hr.mono (by decide)) jD.b .nil aA (aa (pv 1) ak)) (pv 2)) rfl)),?_⟩
  refine⟨_,rfl,st,dx,_,rfl,gz,kn _ _ (by decide+kernel) (by decide+kernel),_,rfl,st,d,g,x,kvs,rfl,⟨dx,gz⟩,hd,hI,hx,fun H1 e1=>?_⟩
  refine⟨_,rfl,_,_,rfl,rfl,_,rfl,st,St,dx,_,_,rfl,e1 _ _ gz,T.b8,T.dR,gw _ _,_,rfl,d,_,rfl,lz.k (k:=Sum.inr x) (e1 _ _ hd) (kL hl),?_⟩
  refine q _ (fun b o z n=>?_) af
  rw[ah n]
  exact e1 _ _ z
variable {uC uP uI uD uL uT:Tok} {St:Addr}
theorem yq {kvs:List (Key×V)} {k:Key} (h:¬k∈kvs.map (·.1)):bX kvs k=none:=by
 cases e:bX kvs k with
 |none=>rfl
 |some v=>exact absurd (pE e) h
theorem G0 {kvs:List (Key×V)} {k:Key} (h:¬k∈kvs.map (·.1)) (n:Int):cA kvs k n=kvs++[(k, .int n)]:=by
 unfold cA
 rw[mq _ (yq h),eI (yq h),Int.zero_add]
theorem BE {kvs:List (Key×V)} (hn:(kvs.map (·.1)).Nodup) {k:Key} {z:Int} (h:(k,V.int z)∈kvs):aG kvs k=z:=eK (gZ hn h)
theorem take_out {kvs:List (Key×V)} (hn:(kvs.map (·.1)).Nodup) {i:Nat} {p:Key×V} (h:kvs[i]? =some p):¬p.1∈(kvs.take i).map (·.1):=by
 intro m
 have e:kvs.take (i+1)=kvs.take i++[p]:=take_snoc h
 have hs:((kvs.take (i+1)).map (·.1)).Nodup:=hn.sublist ((List.take_sublist _ _).map _)
 rw[e,List.map_append,List.nodup_append] at hs
 exact hs.2.2 _ m p.1 (by simp) rfl
inductive G1 (St:Addr) (vs:List V) (H:Hp) (Q:VK) (E:XK):Prop
 |mk (p dx:Addr) (v:V) (kvs:List (Key×V)) (dU:vs=[.ref p,v]) (dW:H p=some (.ins St dx [])) (d5:((v= .cI∧kvs=[])∨∃a,v= .ref a∧H a=some (.dK kvs))) (fe:bu kvs) (gH:(kvs.map (·.1)).Nodup) (jb:(∀q∈kvs,∃x,q.1=Sum.inr x∧BD x)) (nM:kvs.length≤900) (su:∀d g H',H d=none→H g=none→d≠g→lK St H' p d g→H' d=some (.dK kvs)→H' g=some (.lst [])→(∀b o,H b=some o→b≠p→H' b=some o)→Q .cI H')
def BF (St:Addr):Sp:=G1 St
theorem BG:ay ["self","amounts","text"] ["self","amounts"] (aj fW):=dq
theorem G2 (D:J0 K St "Store.__init__" fW ["self","amounts"]) (T:wB K mg C R G Pc Fo St uK uN uB uE uM uC uP uI uD uL uT) (c1:aM P w K mg base 13 St "put" ["self","text","many"] (Mu St)):Fy P w K mg base qu 14 St ["self","amounts"] (BF St):=by
 obtain⟨_,_,ko⟩:=c1
 refine D.cY BG (fun vs H Q E h=>?_) (fun f bg A outer s H vs Q E hr h=>?_)
 ·obtain⟨p,dx,v,kvs,rfl,_⟩:=h
  rfl
 ·obtain⟨p,dx,v,kvs,rfl,hp,hv,hI,hn,hg,hl,q⟩:=h
  have hu:=dn hr
  refine⟨_,(ai
     (eP (pv 0) dN rfl)
    (ai
     (eP (pv 0) (cu ak) rfl)
    (ao
     (bE (gW (kE (pv 1)))
      (ao
       (eM (cq PassesOwn.never rfl (dE (pv 1)) (aK (i:=2) BG.nd rfl (Or.inl rfl))
        (ao
         (bw (bU (pv 0) T.b8 ko.m ko.ok (hr.mono (by decide)) ko.b .nil aA (aa (pv 2) (aa (bN hu (pv 1) (pv 2) (fun _ _=>rfl)) ak))))))))
      aS)))),?_⟩
  refine fun d hd=>?_
  have S6:p≠d:=ag hp hd
  refine⟨_,rfl,p,St,dx,[],rfl,(by rw[ah S6];exact hp),T.b8,T.dR,(by show 0<1000;decide),(by show 0≤sizeLine;decide),fun g Bg=>?_⟩
  have npg:p≠g:=fun z=>by rw[z,af] at Bg;cases Bg
  rw[ah (Ne.symm npg)] at Bg
  have zN:d≠g:=fun z=>by rw[z,af] at Bg;cases Bg
  rw[ah (Ne.symm zN)] at Bg
  refine⟨_,rfl,p,St,dx,_,rfl,(by rw[ah npg,af]),T.b8,T.wC,(by show 1<1000;decide),?_⟩
  generalize Y3:upd (upd (upd (upd H d (.dK [])) p (.ins St dx (cJ "amounts" (.ref d) []))) g (.lst [])) p (.ins St dx (cJ "gone" (.ref g) (cJ "amounts" (.ref d) [])))=H1
  have h1p:H1 p=some (.ins St dx (Ag d g)):=by rw[←Y3,af];rfl
  have h1d:H1 d=some (.dK []):=by rw[←Y3,ah (Ne.symm S6),ah zN,ah (Ne.symm S6),af]
  have h1g:H1 g=some (.lst []):=by rw[←Y3,ah (Ne.symm npg),af]
  have h1o:∀b o,H b=some o→b≠p→H1 b=some o:=fun b o z n=>by
   rw[←Y3,ah n,ah (ag z Bg),ah n,ah (ag z hd)]
   exact z
  rcases hv with ⟨rfl,rfl⟩ | ⟨a,rfl,ha⟩
  ·exact⟨_,rfl,_,rfl,d7 (q d g H1 hd Bg zN ⟨dx,h1p⟩ h1d h1g h1o)⟩
  ·have nap:a≠p:=cD ha hp (by intro z;cases z)
   have ha1:=h1o a _ ha nap
   have Y4:a≠d:=ag ha hd
   have Y2:a≠g:=ag ha Bg
   refine⟨_,rfl,_,rfl,eQ ?_⟩
   refine⟨_,rfl,a,kvs,rfl,ha1,fun o nf=>fA nf (fun i σ H'=>∃v2:Option V,σ=[some (.ref p),some (.ref a),v2]∧H' d=some (.dK (kvs.take i))∧∀b o',H1 b=some o'→b≠d→H' b=some o') ?_ (fun i σ H' ⟨_,_,_,e⟩=>e _ _ ha1 Y4) ?_ ?_⟩
   ·exact⟨none,rfl,h1d,fun b o' z _=>z⟩
   ·rintro i k v σ H' hi ⟨v2,rfl,gA,e⟩
    obtain⟨x,ex,gx⟩:=hg _ (List.mem_of_getElem? hi)
    have ex:k=Sum.inr x:=ex
    subst ex
    have hv:=hI.dZ (List.mem_of_getElem? hi)
    obtain⟨z,ez⟩:=hI _ (List.mem_of_getElem? hi)
    have ez:v=V.int z:=ez
    subst ez
    have SY:aG kvs (Sum.inr x)=z:=by
     have m:=List.mem_of_getElem? hi
     exact eK (by rw[hv];exact congrArg some (by rw[BE hn m]))
    have pj:(upd H' a (.eC o (.dK kvs))) p=some (.ins St dx (Ag d g)):=by rw[ah (Ne.symm nap)];exact e _ _ h1p S6
    have Sl:(upd H' a (.eC o (.dK kvs))) d=some (.dK (kvs.take i)):=by rw[ah (Ne.symm Y4)];exact gA
    refine⟨_,rfl,p,dx,_,rfl,pj,kn _ _ (by decide+kernel) (by decide+kernel),_,rfl,_,rfl,_,rfl,a,V.int z,rfl, .inl ⟨_,Sum.inr x, .inr ⟨o,af⟩,rfl,(by rw[hv,SY])⟩,p,d,g,x,z,kvs.take i,rfl,⟨dx,pj⟩,Sl,fun q hq=>hI q (List.mem_of_mem_take hq),?_,gx,fun H2 kp hd2=>?_⟩
    ·rw[List.length_take];omega
    ·refine⟨kp _ _ af Y4,some (.str x),rfl,?_,fun b o' z' nb=>?_⟩
     ·rw[ah (Ne.symm Y4),hd2,G0 (take_out hn hi),take_snoc hi]
     ·by_cases ba:b=a
      ·subst ba
       rw[af]
       rw[ha1] at z'
       exact z'
      ·rw[ah ba]
       refine kp _ _ ?_ nb
       rw[ah ba]
       exact e _ _ z' nb
   ·rintro σ H' ⟨v2,rfl,gA,e⟩
    rw[List.take_length] at gA
    exact q d g H' hd Bg zN ⟨dx,e _ _ h1p S6⟩ gA (e _ _ h1g (Ne.symm zN)) fun b o' z nb=>e _ _ (h1o b o' z nb) (ag z hd)
variable {uC uP uI uD uL uT:Tok} {St:Addr}
def zv:V→Int
 | .int i=>i
 |_=>0
def lD (kvs:List (Key×V)):List (Key×V):=kvs.filter fun q=>decide (0<zv q.2)
inductive DO (St:Addr) (vs:List V) (H:Hp) (Q:VK) (E:XK):Prop
 |mk (st d g:Addr) (kvs:List (Key×V)) (dU:vs=[.ref st]) (dW:lK St H st d g) (d5:H d=some (.dK kvs)) (fe:bu kvs) (gH:(kvs.map (·.1)).Nodup) (jb:kvs.length≤900) (nM:∀e H',H e=none→H' e=some (.dK (lD kvs))→au H H'→Q (.ref e) H')
def yr (St:Addr):Sp:=DO St
theorem G3:ay ["self"] ["self"] (aj mR):=dq
def PvS (L:Addr) (kvs:List (Key×V)) (H0:Hp):Nat→List V→Hp→Prop:=fun i ys H'=>∃ps:List (Addr×Key×V),ys=ps.map (fun p=>V.ref p.1)∧(∀p∈ps,H' p.1=some (.tup [kV p.2.1,p.2.2])∧p.1≠L)∧ps.map (·.2)=lD (kvs.take i)
theorem BH (kvs:List (Key×V)):(lD kvs).length≤kvs.length:=List.length_filter_le _ _
theorem DP (D:bb K St "stocks" "Store.stocks" mR ["self"]) (T:wB K mg C R G Pc Fo St uK uN uB uE uM uC uP uI uD uL uT):aM P w K mg base 1 St "stocks" ["self"] (yr St):=by
 refine D.cY G3 (fun vs H Q E h=>?_) (fun f bg A outer s H vs Q E hr h=>?_)
 ·obtain⟨st,d,g,kvs,rfl,_⟩:=h
  rfl
 ·obtain⟨st,d,g,kvs,rfl,⟨dx,gz⟩,hd,hI,hn,hl,q⟩:=h
  have hu:=dn hr
  have big:(2000 :Nat)≤sizeLine:=by decide
  refine⟨_,(ao
     (aE (bC (jl rfl) rfl T.jA iC (aa (pF (fB (sc:=(aj mR)) (NX:=["self"]) (N:=["text","many"]) (fr:=[none,none]) ⟨by rfl,by rfl,by decide+kernel,by decide+kernel,by decide+kernel,by rfl,by decide+kernel⟩ rfl rfl rfl (Fx (a0 (pv 0) rfl)) (fun _ _ _ _=>(vf K 2 rfl rfl (a6 (aK (i:=0) (show (["text","many"]:List Str).Nodup by decide+kernel) rfl (Or.inl rfl) (Or.inr rfl)) (a6 (aK (i:=1) (show (["text","many"]:List Str).Nodup by decide+kernel) rfl (Or.inl rfl) (Or.inr rfl)) dC)))) (fun _ _ _ _=>(mw (aO jM (pv 1) aq (aQ _)))) (fun _ _ _ _=>(bW (aa (pv 0) (aa (pv 1) ak)))))) ak)))),?_⟩
  refine⟨_,rfl,st,St,dx,_,_,rfl,gz,T.b8,T.dR,gw _ _,d,kvs,rfl,hd,fun o nf L hL=>?_⟩
  have QV:L≠d:=fun z=>by rw[z,af] at hL;cases hL
  have hz:(upd H d (.eC o (.dK kvs))) d=some (.eC o (.dK kvs)):=af
  refine C0 (J:=Sd d o kvs) (L:=L) kvs.length (upd H d (.eC o (.dK kvs))) (fun σ=>∃v u:Option V,σ=[v,u]) (PvS L kvs H) (items_go hz) (zA hz) ?_ hL ⟨none,none,rfl⟩ (au.new hL) af ⟨[],rfl,(fun p hp=>by cases hp),rfl⟩ (by omega) ?_ ?_ ?_
  ·rintro i ys H1 H2 e ⟨ps,e1,e2,e3⟩
   exact⟨ps,e1,fun p hp=>⟨e _ _ (e2 p hp).1 (e2 p hp).2,(e2 p hp).2⟩,e3⟩
  ·rintro i ys H1 ⟨ps,e1,_,e3⟩
   have h1:=congrArg List.length e3
   have h2:=BH (kvs.take i)
   rw[List.length_map] at h1
   rw[List.length_take] at h2
   rw[e1,List.length_map]
   omega
  ·rintro i σ H2 ys hi ⟨v,u,rfl⟩ hs sx ⟨ps,rfl,e2,e3⟩ N M hN hM y H3 ⟨t,kk,vv,xa,ht,rfl,rfl⟩
   obtain⟨z,ez⟩:=hI _ (List.mem_of_getElem? xa)
   have ez:vv=V.int z:=ez
   subst ez
   have s3:=hs.trans (au.new (o:= .tup [kV kk, .int z]) ht)
   have nu:(upd H2 t (.tup [kV kk, .int z])) L=some (.lst (ps.map fun p=>V.ref p.1)):=by rw[ah (ag sx ht)];exact sx
   refine⟨t,_,rfl,jL.of af,rfl,_,_,rfl,_,_,rfl,rfl,_,rfl,_,_,rfl,rfl,_,rfl,dY (fun ec=>?_) fun ec=>?_⟩
   ·have ec:0<z:=by simpa using ec
    refine⟨_,rfl,_,rfl,(by show 2≤sizeLine;decide),fun t2 OW=>?_⟩
    have s4:=au.new (o:= .tup [kV kk, .int z]) OW
    have QW:L≠t2:=ag nu OW
    refine hN _ _ _ ⟨_,_,rfl⟩ (s3.trans s4) (s4 _ _ nu) ⟨ps++[(t2,kk, .int z)],by rw[List.map_append];rfl,fun p hp=>?_,?_⟩
    ·rcases List.mem_append.mp hp with hp|hp
     ·exact⟨s4 _ _ (au.new ht _ _ (e2 p hp).1),(e2 p hp).2⟩
     ·have e':p=(t2,kk, .int z):=by simpa using hp
      subst e'
      exact⟨af,Ne.symm QW⟩
    ·unfold lD at e3 ⊢
     rw[List.map_append,e3,take_snoc xa,List.filter_append,show [(kk,V.int z)].filter (fun q=>decide (0<zv q.2))=[(kk,V.int z)] by simp [zv,ec]]
     rfl
   ·have ec:¬0<z:=by simpa using ec
    refine hM _ _ ⟨_,_,rfl⟩ s3 nu ⟨ps,rfl,fun p hp=>⟨au.new ht _ _ (e2 p hp).1,(e2 p hp).2⟩,?_⟩
    unfold lD at e3 ⊢
    rw[e3,take_snoc xa,List.filter_append,show [(kk,V.int z)].filter (fun q=>decide (0<zv q.2))=[] by simp [zv,ec],List.append_nil]
  ·rintro H2 ys hs sx ⟨ps,rfl,e2,e3⟩
   rw[List.take_length] at e3
   have s2:au H (upd H2 d (.dK kvs)):=fun b o' z'=>by
    by_cases bd:b=d
    ·subst bd
     rw[af]
     rw[hd] at z'
     exact z'
    ·rw[ah bd]
     exact hs _ _ (by rw[ah bd];exact z')
   refine⟨d,o,kvs,hs _ _ hz,nf,L,ps,rfl,by rw[ah QV];exact sx,fun p hp=>?_,fun e he=>?_⟩
   ·have p1:=(e2 p hp).1
    rw[ah (cD p1 (hs _ _ hz) (by intro z;cases z))]
    exact p1
   ·have e8:cy [] (ps.map (·.2))=lD kvs:=by
     rw[e3,kh _ [] (by rw[List.nil_append];exact(List.filter_sublist.map _).nodup hn),List.nil_append]
    rw[e8]
    exact q e _ (none_back s2 he) af (s2.trans (au.new he))
variable {uC uP uI uD uL uT:Tok} {St:Addr}
theorem uw:∀(d:Nat) (m:Int) (t:Tr),tT d t→∀p∈bj d m t,∃k,lY k∧p.1=⟨k.toArray⟩
 |d,m, .one k n,h,p,hp=>by
  have e:bj d m (.one k n)=[(⟨k.toArray⟩,n*m)]:=by cases d<;>rfl
  rw[e] at hp
  have h:lY k∧1≤n∧n≤999:=by cases d<;>exact h
  have ep:p=(⟨k.toArray⟩,n*m):=by simpa using hp
  exact⟨k,h.1,by rw[ep]⟩
 |0,_, .gr _ _,h,_,_=>h.elim
 |d+1,m, .gr ts n,h,p,hp=>by
  obtain⟨t,ht,hp⟩:=List.mem_flatMap.mp hp
  exact uw d (n*m) t (h.2.1 t ht) p hp
theorem OX {k:List Nat} (hk:lY k) {n:Int} (n1:1≤n) (n2:n≤999):DB [.one k n]:=by
 refine⟨by simp,fun t ht=>?_,?_,(by show 1≤5;decide)⟩
 ·have e:t= .one k n:=by simpa using ht
  subst e
  exact⟨hk,n1,n2⟩
 ·have h1:=rn hk
  have h2:=rm n1 n2
  show ((k++aR n)++[]).length≤23
  rw[List.append_nil,List.length_append]
  omega
theorem BI {k:List Nat} (hk:lY k):cT ([(1,[.one k 1])],0):=Mo (Gm (OX hk (by decide) (by decide))) (by decide) (by decide)
theorem G4 (k:List Nat):fL ([(1,[.one k 1])],0)=k:=by
 show (k++aR 1++[])++([]++i9 0)=_
 rw[SF,show i9 0=[] from rfl]
 simp
theorem Mv:cT ([], -1):=⟨rfl,(by show 3≤33;decide),(by show 0≤7;decide)⟩
theorem OY:(⟨(fL ([], -1)).toArray⟩:Str)="e^-" :=by decide+kernel
theorem wD {kvs:List (Key×V)} {k:Key} {v:V} {q:Key×V} (h:q∈putK kvs k v):q∈kvs∨q=(k,v):=by
 unfold putK at h
 split at h
 ·obtain⟨r,hr,e⟩:=List.mem_map.mp h
  subst e
  split
  ·rename_i e
   exact .inr (by rw[e])
  ·exact .inl hr
 ·rcases List.mem_append.mp h with h|h
  ·exact .inl h
  ·exact .inr (by simpa using h)
theorem nv {Pk:Key→Prop} (t:Int):∀(as:List (Str×Int)) (acc:List (Key×V)),(∀q∈acc,Pk q.1)→(∀p∈as,Pk (Sum.inr p.1))→∀q∈a7 t acc as,Pk q.1
 | [],_,h,_,q,hq=>h q hq
 |p::r,acc,h,h',q,hq=>by
  refine nv t r (cA acc (Sum.inr p.1) (p.2*t)) (fun q hq=>?_) (fun p hp=>h' p (List.mem_cons_of_mem _ hp)) q hq
  rcases wD hq with hq|hq
  ·exact h q hq
  ·rw[hq]
   exact h' p (List.mem_cons_self ..)
theorem Ah {x:Fm} (h:cT x):∀q∈cW 1 x.1,∃k,lY k∧q.1=Sum.inr (⟨k.toArray⟩:Str):=by
 refine nv (Pk:=fun j=>∃k,lY k∧j=Sum.inr (⟨k.toArray⟩:Str)) 1 _ [] (fun q hq=>by cases hq) fun p hp=>?_
 obtain⟨y,hy,hp⟩:=List.mem_flatMap.mp hp
 have km:=k9 h.1 y hy
 obtain⟨t,ht,hp⟩:=List.mem_flatMap.mp hp
 obtain⟨k,hk,e⟩:=uw 1 y.1 t (km.2.1 t ht) p hp
 exact⟨k,hk,by rw[e]⟩
theorem S7 (x:Fm):((cW 1 x.1).map (·.1)).Nodup:=iM _
theorem KR (k:Str) (k':Key):aG [(Sum.inr k, .int 1)] k'=if k'=Sum.inr k then 1 else 0:=js [] (Sum.inr k) k' 1
def Told (ws:List Fm) (s:Str):Prop:=s="e^-" ∨(∃w∈ws,s=⟨(fL w).toArray⟩)∨∃w∈ws,(Sum.inr s:Key)∈(cW 1 w.1).map (·.1)
theorem DQ {ws:List Fm} (h:∀w∈ws,cT w) {s:Str} (t:Told ws s):BD s:=by
 rcases t with rfl| ⟨w,hw,rfl⟩ | ⟨w,hw,hs⟩
 ·exact⟨_,Mv,OY.symm⟩
 ·exact⟨w,h w hw,rfl⟩
 ·obtain⟨q,hq,e⟩:=List.mem_map.mp hs
  obtain⟨k,hk,e'⟩:=Ah (h w hw) q hq
  rw[e] at e'
  injection e' with e'
  exact⟨_,BI hk,by rw[G4,e']⟩
variable {uC uP uI uD uL uT:Tok} {St:Addr}
theorem BJ:ay ["_law_cell","_law_prime","_law_number"] ["_law_cell","_law_prime"] (aj vC):=dq
inductive OZ (vs:List V) (H:Hp) (Q:VK) (E:XK):Prop
 |mk (c p:Int) (dU:vs=[.int c, .int p]) (dW:0<p) (d5:p<2^60) (fe:∀n,Q (.int n) H)
def Mw:Sp:=OZ
theorem O0 (D:Def K mg "_law_mixed" "_law_mixed" vC ["_law_cell","_law_prime"]):a9 P w K mg base 1 "_law_mixed" ["_law_cell","_law_prime"] Mw:=by
 refine D.cY BJ (fun vs H Q E h=>?_) (fun f bg A outer s H vs Q E hr h=>?_)
 ·obtain⟨c,p,rfl,_⟩:=h
  rfl
 ·obtain⟨c,p,rfl,p0,p1,q⟩:=h
  have m0:0≤c%2147483647:=Int.emod_nonneg _ (by decide)
  have m1:c%2147483647<2147483647:=Int.emod_lt_of_pos _ (by decide)
  refine⟨_,(ai
     (aB (i:=2) BJ.nd rfl (Or.inl rfl) (az bO (az bT (pv 0) aq) aq))
    (ao
     (aE (az bT (az bO (az dI (az dI (pv 2) (pv 2)) aq) (pv 2)) (pv 1))))),?_⟩
  refine⟨_,rfl,_,_,rfl,rfl,(by show (0 :Int) <2147483647;decide),_,_,rfl,rfl,?_⟩
  refine⟨_,rfl,_,rfl,_,_,rfl,rfl, .inl ⟨by omega,by omega⟩,_,_,rfl,rfl, .inr ⟨by decide,by decide⟩,_,rfl,_,_,rfl,rfl,_,rfl,_,_,rfl,rfl,p0,q _⟩
theorem O1:aR 12=[49,50]:=by decide+kernel
theorem fig3:aR 3=[51]:=by decide+kernel
theorem uv:(".12" :Str)=⟨[46,49,50].toArray⟩:=by decide+kernel
theorem e413:(")3" :Str)=⟨[41,51].toArray⟩:=by decide+kernel
theorem S8 (ts:List Tr) (k:List Nat):wL 1 [(1,ts),(12,[.one k 1])] 0=ts.flatMap (b9 1)++([46,49,50]++k):=by
 show ts.flatMap (b9 1)++(((46::(aR 12++(k++aR 1++[])))++[])++[])=_
 rw[O1,SF]
 simp
theorem S9 {ts:List Tr} (h:DB ts) {k:List Nat} (hk:lY k):YU [(1,ts),(12,[.one k 1])]:=by
 obtain⟨h1,h2,h3,h4⟩:=h
 refine⟨by simp,fun n n1 n2=>⟨rfl,fun x hx=>?_,n1,n2⟩,?_,?_⟩
 ·have e:x=(1,ts)∨x=(12,[.one k 1]):=by simpa using hx
  rcases e with e|e
  ·subst e
   exact⟨h1,h2,(by show (1 :Int)≤1;decide),(by show (1 :Int)≤999;decide)⟩
  ·subst e
   refine⟨by simp,fun u hu=>?_,(by show (1 :Int)≤12;decide),(by show (12 :Int)≤999;decide)⟩
   have e:u= .one k 1:=by simpa using hu
   subst e
   exact⟨hk,by decide,by decide⟩
 ·have:=rn hk
  rw[S8,List.length_append,List.length_append]
  show _+(3+_)≤29
  omega
 ·show (ts.flatMap (bj 1 1)++([((⟨k.toArray⟩:Str),(1 :Int)*12)]++[]++[])).length≤7
  rw[List.length_append]
  show _+1≤7
  omega
theorem S' (ts:List Tr) (k:List Nat):cW 1 [(1,ts),(12,[.one k 1])]=cA (cW 1 [(1,ts)]) (Sum.inr ⟨k.toArray⟩) 12:=by
 have e:([(1,ts),(12,[.one k 1])]:List jO).flatMap (cx 1)=([(1,ts)]:List jO).flatMap (cx 1)++[((⟨k.toArray⟩:Str),1*12)]:=by
  show ts.flatMap (bj 1 1)++([((⟨k.toArray⟩:Str),(1 :Int)*12)]++[]++[])=(ts.flatMap (bj 1 1)++[])++_
  simp
 unfold cW a7
 rw[e,List.foldl_append]
 rfl
def K3 (k0 k1 k2:List Nat):List Key:=[Sum.inr ⟨k0.toArray⟩,Sum.inr ⟨k1.toArray⟩,Sum.inr ⟨k2.toArray⟩]
theorem few3 {k0 k1 k2:List Nat} {kvs:List (Key×V)} (hn:(kvs.map (·.1)).Nodup) (h:∀q∈kvs,q.1∈K3 k0 k1 k2):kvs.length≤3:=by
 have:(kvs.map (·.1)).length≤(K3 k0 k1 k2).length:=List.Nodup.length_le_of_subset hn fun k hk=>by
  obtain⟨q,hq,rfl⟩:=List.mem_map.mp hk
  exact h q hq
 rw[List.length_map] at this
 exact this
theorem G5 {k0 k1 k2:List Nat} (h0:lY k0) (h1:lY k1) (h2:lY k2) {i:Nat} (hi:i<3):∃k,lY k∧(Sum.inr (⟨k.toArray⟩:Str):Key)∈K3 k0 k1 k2∧xv [V.str ⟨k0.toArray⟩, .str ⟨k1.toArray⟩, .str ⟨k2.toArray⟩] (0+(i:Int))=some (V.str ⟨k.toArray⟩):=by
 match i,hi with
 |0,_=>exact⟨k0,h0,by simp [K3],rfl⟩
 |1,_=>exact⟨k1,h1,by simp [K3],rfl⟩
 |2,_=>exact⟨k2,h2,by simp [K3],rfl⟩
theorem O2 {i:Nat} (hi:i<3):∃z,0<z∧z<100∧xv [V.int 1, .int 5, .int 25] (0+(i:Int))=some (V.int z):=by
 match i,hi with
 |0,_=>exact⟨1,by decide,by decide,rfl⟩
 |1,_=>exact⟨5,by decide,by decide,rfl⟩
 |2,_=>exact⟨25,by decide,by decide,rfl⟩
def PvM (o:Obj) (KV:List (Key×V)) (d D2:Addr) (H2:Hp):Nat→L2.St→Hp→Prop:=fun i σ H'=>∃(v:Option V) (ps:List (Addr×Key×V)),σ=[v,some (.ref d)]∧H' d=some (.eC o (.dK KV))∧H' D2=some (.lst (ps.map fun p=> .ref p.1))∧(∀p∈ps,H' p.1=some (.tup [kV p.2.1,p.2.2]))∧ps.map (·.2)=((KV.take i).map fun p=>(p.1,V.int (3*aG KV p.1)))∧∀b o',H2 b=some o'→b≠d→H' b=some o'
inductive DR (vs:List V) (H:Hp) (Q:VK) (E:XK):Prop
 |mk (c:Int) (kl:Addr) (k0 k1 k2:List Nat) (dU:vs=[.int c, .ref kl]) (dW:H kl=some (.lst [.str ⟨k0.toArray⟩, .str ⟨k1.toArray⟩, .str ⟨k2.toArray⟩])) (d5:lY k0) (fe:lY k1) (gH:lY k2) (jb:∀(t:Addr) (x:Fm) H',cT x→(cW 1 x.1).length≤3→x3 H' t x→au H H'→Q (.ref t) H')
def yt:Sp:=DR
theorem dS:ay ["_law_cell","_law_kinds","_law_counts","_law_text_here","_law_k","_law_count_here","_law_charge"] ["_law_cell","_law_kinds"] (aj mT):=dq
theorem DS (D:Def K mg "_law_matter" "_law_matter" mT ["_law_cell","_law_kinds"]) (T:wB K mg C R G Pc Fo St uK uN uB uE uM uC uP uI uD uL uT) (c4:a9 P w K mg base 1 "_law_figures" ["_law_count_here"] j7):
  a9 P w K mg base 2 "_law_matter" ["_law_cell","_law_kinds"] yt:=by
 obtain⟨_,_,cZ⟩:=c4
 refine D.cY dS (fun vs H Q E h=>?_) (fun f bg A outer s H vs Q E hr h=>?_)
 ·obtain⟨c,kl,k0,k1,k2,rfl,_⟩:=h
  rfl
 ·obtain⟨c,kl,k0,k1,k2,rfl,KS,O3,okk1,okk2,q⟩:=h
  have hu:=dn hr
  have hu0:=hr.uZ
  have big:(2000 :Nat)≤sizeLine:=by decide
  refine⟨_,(ai
     (aB (i:=2) dS.nd rfl (Or.inr rfl) dN)
    (ai
     (aB (i:=3) dS.nd rfl (Or.inl rfl) bG)
    (ai
     (cq PassesOwn.never rfl (kF rfl T.pR (aa aq ak)) (aK (i:=4) dS.nd rfl (Or.inl rfl))
      (ai
       (aB (i:=5) dS.nd rfl (Or.inl rfl) (az bT (az b6 (pv 0) (cF cH (cu (aa aq (aa aq (aa aq ak)))) (pv 4) (fun _ _=>rfl))) aq))
      (ao
       (bE (aO jM (pv 5) aq (aQ _))
        (ai
         (dX hu (pv 2) (cF cH (pv 1) (pv 4) (fun _ _=>rfl)) (az bO (bP hu (pv 2) (cF cH (pv 1) (pv 4) (fun _ _=>rfl)) aq ⟨rfl,rfl,rfl,rfl⟩) (pv 5)) rfl)
        (ao
         (aB (i:=3) dS.nd rfl (Or.inl rfl) (az br (az br (pv 3) (cF cH (pv 1) (pv 4) (fun _ _=>rfl))) (aF cZ.ok (hr.mono (by decide)) rfl cZ.g cZ.kp cZ.b .nil aA (aa (pv 5) ak))))))
        aS))))
    (ai
     (aB (i:=6) dS.nd rfl (Or.inl rfl) (cF cH (cu (aa aq (aa aq (aa aq (aa (lF iQ aq) (aa aq (aa (lF iQ aq) ak))))))) (az bT (az b6 (pv 0) aq) aq) (fun _ _=>rfl)))
    (ai
     (bE (aO dJ (pv 3) bG (aQ _))
      (ao
       (aE (bW (aa bG (aa dN (aa (lF iQ aq) ak))))))
      aS)
    (ai
     (bE (aO dJ (az bT (az b6 (pv 0) aq) aq) aq (aQ _))
      (ai
       (aB (i:=3) dS.nd rfl (Or.inl rfl) (az br (az br bG (pv 3)) bG))
      (ao
       (aB (i:=2) dS.nd rfl (Or.inr rfl) (bC (jl rfl) rfl T.jA iC (aa (pF (fB (sc:=(aj mT)) (NX:=["_law_cell","_law_kinds","_law_counts","_law_text_here","_law_k","_law_count_here","_law_charge"]) (N:=["_law_kind_here","_law_counts"]) (fr:=[none,some 2]) ⟨by rfl,by rfl,by decide+kernel,by decide+kernel,by decide+kernel,by rfl,by decide+kernel⟩ rfl rfl rfl (dE (pv 2)) (fun _ _ _ _=>(aK (i:=0) (show (["_law_kind_here","_law_counts"]:List Str).Nodup by decide+kernel) rfl (Or.inl rfl) (Or.inr rfl))) (fun _ _ _ _=>f7) (fun _ _ _ _=>(bW (aa (pv 0) (aa (az dI aq (bN hu (pv 1) (pv 0) (fun _ _=>rfl))) ak)))))) ak)))))
      aS)
    (ai
     (bE (aO dJ (az bT (az b6 (pv 0) aq) aq) aq (aQ _))
      (ai
       (aB (i:=3) dS.nd rfl (Or.inl rfl) (az br (az br (pv 3) bG) (cF cH (pv 1) aq (fun _ _=>rfl))))
      (ao
       (dX hu (pv 2) (cF cH (pv 1) aq (fun _ _=>rfl)) (az bO (bP hu (pv 2) (cF cH (pv 1) aq (fun _ _=>rfl)) aq ⟨rfl,rfl,rfl,rfl⟩) aq) rfl)))
      aS)
    (ai
     (bE (aO qk (pv 6) aq (aQ _))
      (ao
       (aB (i:=3) dS.nd rfl (Or.inl rfl) (az br (az br (az br (pv 3) bG) (aF cZ.ok (hr.mono (by decide)) rfl cZ.g cZ.kp cZ.b .nil aA (aa (cj xm rfl T.F4 E8 (aa (pv 6) ak)) ak))) (cF cH (cu (aa bG (aa bG ak))) (bC kH rfl T.tM n5 (aa (kG jM (pv 6) aq (aQ _)) ak)) (fun _ _=>rfl)))))
      aS)
    (ao
     (aE (bW (aa (pv 3) (aa (pv 2) (aa (pv 6) ak)))))))))))))),?_⟩
  refine fun d hd=>?_
  refine⟨_,rfl,by decide,by decide,sO (fun i σ H'=>∃(as:Bm) (v3 v4:Option V),σ=[some (.int c),some (.ref kl),some (.ref d),some (.str ⟨(as.flatMap fun a=>a.1++aR a.2).toArray⟩),v3,v4,none]∧Gi as∧(∀p∈oH as,(Sum.inr p.1 :Key)∈K3 k0 k1 k2)∧as.length≤i∧H' d=some (.dK (a7 1 [] (oH as)))∧au H H') ?_ ?_ ?_⟩
  ·exact⟨[],none,none,by rw[Mn];rfl,(fun a ha=>by cases ha),(fun a ha=>by cases ha),Nat.le_refl _,af,au.new hd⟩
  ·rintro i σ H' hi ⟨as,v3,v4,rfl,aX,KU,hl,gA,e⟩
   have hi3:i<3:=by have:i< (3 :Int).toNat:=hi;omega
   obtain⟨k,hk,hkin,hka⟩:=G5 O3 okk1 okk2 hi3
   obtain⟨z,z0,z1,hza⟩:=O2 hi3
   have hkl':=e _ _ KS
   have sl:∀l,H' l=none→au H' (upd H' l (.lst [V.int 1, .int 5, .int 25])):=fun l hl=>au.new hl
   refine⟨_,rfl,(by show 3≤sizeLine;decide),fun l wZ=>⟨_,rfl,l,_,_,V.int z,rfl,rfl,bS.of af,hza,_,_,rfl,rfl,⟨z0,by omega⟩,_,_,rfl,rfl,(by show (0 :Int) <5;decide),?_⟩⟩
   have e2:=e.trans (sl l wZ)
   have hd2:=sl l wZ _ _ gA
   have QX:=sl l wZ _ _ hkl'
   have m0:0≤c/z%5:=Int.emod_nonneg _ (by decide)
   have m1:c/z%5<5:=Int.emod_lt_of_pos _ (by decide)
   dsimp only [dB]
   generalize c/z%5=m at m0 m1 ⊢
   generalize upd H' l (.lst [V.int 1, .int 5, .int 25])=H2 at e2 hd2 QX ⊢
   refine⟨_,rfl,_,_,rfl,rfl,_,rfl,dY (fun em=>?_) fun _=>⟨as,_,_,rfl,aX,KU,by omega,hd2,e2⟩⟩
   have em:0<m:=by simpa using em
   have za:=k8 aX
   have zk:=rn hk
   have zm:=g8 (n:=m) (by omega) (by omega)
   have hI:bu (a7 1 [] (oH as)):=iH 1 _ _ fun p hp=>by cases hp
   have lB:=iI 1 (oH as) []
   have YX:(oH as).length=as.length:=by unfold oH;rw[List.length_map]
   rw[List.length_nil] at lB
   refine⟨_,rfl,d,rfl, .inl ⟨_, .inl hd2⟩,_,rfl,_,rfl,kl,_,_,_,rfl,rfl,bS.of QX,hka,_,gk.k (k:=Sum.inr ⟨k.toArray⟩) hd2,_,rfl,_,_,hI.at _,rfl,_,rfl,_,rfl,_,rfl,kl,_,_,_,rfl,rfl,bS.of QX,hka,d,_,rfl,lz.k (k:=Sum.inr ⟨k.toArray⟩) hd2 (by omega),?_⟩
   have nkd:kl≠d:=ag KS hd
   have hk3:(upd H2 d (.dK (putK (a7 1 [] (oH as)) (Sum.inr ⟨k.toArray⟩) (.int (aG (a7 1 [] (oH as)) (Sum.inr ⟨k.toArray⟩)+m))))) kl=some (.lst [.str ⟨k0.toArray⟩, .str ⟨k1.toArray⟩, .str ⟨k2.toArray⟩]):=by rw[ah nkd];exact QX
   refine⟨_,rfl,_,rfl,_,rfl,kl,_,_,_,rfl,rfl,bS.of hk3,hka,_,_,rfl,rfl,by rw[bh,bh];omega,_,rfl,m,rfl,by omega,by omega,_,_,rfl,rfl,by rw[bx,bh,bh];omega,?_⟩
   refine⟨as++[(k,m)],some (.int (0+(i:Int))),some (.int m),?_,?_,?_,?_,?_,?_⟩
   ·have ex:(⟨(as.flatMap fun a=>a.1++aR a.2).toArray⟩:Str)++⟨k.toArray⟩++fb m=⟨((as++[(k,m)]).flatMap fun a=>a.1++aR a.2).toArray⟩:=by
     rw[cS,bB,bB,List.flatMap_append,List.flatMap_cons,List.flatMap_nil,List.append_nil,List.append_assoc]
    rw[←ex]
    rfl
   ·intro a ha
    rcases List.mem_append.mp ha with ha|ha
    ·exact aX a ha
    ·have ea:a=(k,m):=by simpa using ha
     subst ea
     exact⟨hk,by omega,by omega⟩
   ·intro p hp
    unfold oH at hp
    rw[List.map_append] at hp
    rcases List.mem_append.mp hp with hp|hp
    ·exact KU p hp
    ·have ep:p=((⟨k.toArray⟩:Str),m):=by simpa using hp
     rw[ep]
     exact hkin
   ·rw[List.length_append]
    show as.length+1≤i+1
    omega
   ·rw[af]
    have ec:a7 1 [] (oH (as++[(k,m)]))=cA (a7 1 [] (oH as)) (Sum.inr ⟨k.toArray⟩) (m*1):=by
     unfold oH a7
     rw[List.map_append,List.foldl_append]
     rfl
    rw[ec,Int.mul_one]
    rfl
   ·intro b o z
    rw[ah (ag z hd)]
    exact e2 _ _ z
  ·rintro σ H' ⟨as,v3,v4,rfl,aX,KU,hl,gA,e⟩
   have l3:as.length≤3:=hl
   have lB:=e _ _ KS
   have za:=k8 aX
   have d0:0≤c/125%6:=Int.emod_nonneg _ (by decide)
   have d1:c/125%6<6:=Int.emod_lt_of_pos _ (by decide)
   obtain⟨v,hv,Bl⟩:=ve (xs:=[V.int 0,V.int 0,V.int 1,V.int (-1),V.int 2,V.int (-14)]) d0 d1
   have hc:∃n,v=V.int n∧ -99≤n∧n≤99:=by
    simp only [List.mem_cons,List.not_mem_nil,or_false] at hv
    rcases hv with rfl|rfl|rfl|rfl|rfl|rfl<;>exact⟨_,rfl,by decide,by decide⟩
   obtain⟨n,rfl,n1,n2⟩:=hc
   refine⟨1,rfl,14,rfl,(by show 6≤sizeLine;decide),fun l wZ=>⟨_,rfl,_,_,rfl,rfl,⟨by decide,by decide⟩,_,_,rfl,rfl,(by show (0 :Int) <6;decide),l,_,_,V.int n,rfl,rfl,bS.of af,Bl,?_⟩⟩
   have sl:=au.new (o:= .lst [V.int 0,V.int 0,V.int 1,V.int (-1),V.int 2,V.int (-14)]) wZ
   have e1:=e.trans sl
   have JH:=sl _ _ gA
   have hk1:=sl _ _ lB
   dsimp only [dB]
   generalize upd H' l (.lst [V.int 0,V.int 0,V.int 1,V.int (-1),V.int 2,V.int (-14)])=H1 at e1 JH hk1 ⊢
   refine⟨_,rfl,rfl,_,rfl,dY (fun et=>?_) fun et=>?_⟩
   ·refine fun d3 YY=>⟨1,rfl,(by show 3≤sizeLine;decide),fun t ht=>?_⟩
    have e0:("e^-" :Str)=⟨(fL ([], -1)).toArray⟩:=by decide+kernel
    refine q t ([], -1) _ ⟨rfl,(by show 3≤33;decide),(by show 0≤7;decide)⟩ (by show 0≤3;decide) ⟨d3,?_,?_⟩ (e1.trans ((au.new YY).trans (au.new ht)))
    ·rw[af,←e0]
    ·rw[ah (ag af ht),af]
     rfl
   have l1:1≤as.length:=by
    cases as with
    |nil=>exact absurd (by rw[Mn];decide) et
    |cons a r=>rw[List.length_cons];omega
   have hkc:∀c:Int,∀q∈a7 c [] (oH as),q.1∈K3 k0 k1 k2:=fun c=>nv (Pk:=fun j=>j∈K3 k0 k1 k2) c (oH as) [] (fun q hq=>by cases hq) KU
   dsimp only [qi]
   refine fD (fun σ' H'=>∃(ts:List Tr) (d':Addr),σ'=[some (.int c),some (.ref kl),some (.ref d'),some (.str ⟨(ts.flatMap (b9 1)).toArray⟩),v3,v4,some (.int n)]∧DB ts∧(∀q∈cW 1 [(1,ts)],q.1∈K3 k0 k1 k2)∧H d'=none∧H' d'=some (.dK (cW 1 [(1,ts)]))∧au H H') (fun N hN=>?_) ?_
   ·refine⟨_,rfl,_,_,rfl,rfl,⟨by decide,by decide⟩,_,_,rfl,rfl,(by show (0 :Int) <4;decide),rfl,_,rfl,dY (fun _=>?_) fun _=>?_⟩
    ·have l40:("(" :Str).length=1:=by decide+kernel
     have l41:(")3" :Str).length=2:=by decide+kernel
     refine⟨_,rfl,_,_,rfl,rfl,by rw[l40,bh];omega,_,_,rfl,rfl,by rw[bx,l40,l41,bh];omega,?_⟩
     refine⟨_,rfl,d,_,rfl,JH,fun o nf D2 IW=>?_⟩
     have hI:bu (a7 1 [] (oH as)):=iH 1 _ _ fun p hp=>by cases hp
     have hn:((a7 1 [] (oH as)).map (·.1)).Nodup:=vK 1 _ _ List.nodup_nil
     have lB:=iI 1 (oH as) []
     have YX:(oH as).length=as.length:=by unfold oH;rw[List.length_map]
     rw[List.length_nil] at lB
     generalize hK:a7 1 [] (oH as)=KV at JH hI hn lB
     have KD:D2≠d:=fun z=>by rw[z,af] at IW;cases IW
     have SQ:H1 D2=none:=by rwa [ah KD] at IW
     have gen:∀i σ H',PvM o KV d D2 H1 i σ H'→H' d=some (.eC o (.dK KV)):=fun i σ H' ⟨_,_,_,z,_⟩=>z
     refine kN (a:=d) (D:=D2) (kvs:=KV) (PvM o KV d D2 H1) ?_ gen ?_ ?_
     ·exact⟨none,[],rfl,by rw[ah (Ne.symm KD),af],af,(fun p hp=>by cases hp),rfl,fun b o' z hb=>by rw[ah (ag z SQ),ah hb];exact z⟩
     ·rintro i k v σ H' hi ⟨v',ps,rfl,f1,f2,f3,f4,f5⟩ N hN
      have hv:=hI.dZ (List.mem_of_getElem? hi)
      have iu:ps.length≤3:=by
       have:=congrArg List.length f4
       rw[List.length_map,List.length_map,List.length_take] at this
       omega
      refine⟨_,rfl,_,rfl,_,rfl,d,V.int (aG KV k),rfl, .inl ⟨_,k, .inr ⟨o,f1⟩,rfl,hv.symm⟩,_,_,rfl,rfl, .inl ⟨by decide,by decide⟩,(by show 2≤sizeLine;decide),fun t ht=>?_⟩
      have SR:D2≠t:=ag f2 ht
      have ndt:d≠t:=ag f1 ht
      refine⟨_,by rw[ah SR];exact f2,by rw[List.length_map];omega,hN _ _ ⟨_,ps++[(t,k,V.int (3*aG KV k))],rfl,?_,?_,?_,?_,?_⟩⟩
      ·rw[ah (Ne.symm KD),ah ndt];exact f1
      ·rw[af,List.map_append];rfl
      ·intro p hp
       rcases List.mem_append.mp hp with hp|hp
       ·have p1:=f3 p hp
        rw[ah (cD p1 f2 (by intro z;cases z)),ah (ag p1 ht)]
        exact p1
       ·have e':p=(t,k,V.int (3*aG KV k)):=by simpa using hp
        subst e'
        rw[ah (Ne.symm SR)];exact af
      ·rw[List.map_append,f4,take_snoc hi,List.map_append]
       rfl
      ·intro b o' e' hb
       rw[ah (ag e' SQ),ah (ag (f5 b o' e' hb) ht)]
       exact f5 b o' e' hb
     rintro σ H' ⟨v',ps,rfl,f1,f2,f3,f4,f5⟩
     rw[List.take_length] at f4
     refine⟨d,o,KV,f1,nf,D2,ps,rfl,by rw[ah KD];exact f2,fun p hp=>by rw[ah (cD (f3 p hp) f1 (by intro z;cases z))];exact f3 p hp,fun w hw=>?_⟩
     have e8:cy [] (ps.map (·.2))=scale 3 KV:=by
      rw[f4,kh _ [] (by rw[List.nil_append,List.map_map];exact hn),List.nil_append,uf hI hn]
     have SS:au H1 (upd H' d (.dK KV)):=fun b o' e=>by
      by_cases z:b=d
      ·subst z
       rw[af]
       exact JH.symm.trans e
      ·rw[ah z];exact f5 b o' e z
     have s8:au H1 (upd (upd H' d (.dK KV)) w (.dK (cy [] (ps.map (·.2))))):=SS.trans (au.new hw)
     refine hN _ _ ⟨[.gr (as.map aT) 3],w,?_,OM aX l1 l3 (by decide) (by decide),?_,none_back (e1.trans SS) hw,?_,e1.trans s8⟩
     ·have ex:("(" :Str)++(⟨(as.flatMap fun a=>a.1++aR a.2).toArray⟩:Str)++")3" =⟨([Tr.gr (as.map aT) 3].flatMap (b9 1)).toArray⟩:=by
       rw[Mj,fig3,Ow,e413,show (⟨#[40]⟩:Str)=⟨[40].toArray⟩ from rfl,bB,bB]
       simp
      rw[←ex]
      rfl
     ·rw[Mm,hK,←uf hI hn]
      intro q hq
      obtain⟨p,hp,rfl⟩:=List.mem_map.mp hq
      exact hkc 1 p (by rw[hK];exact hp)
     ·rw[af,Mm,hK,e8]
    ·refine hN _ _ ⟨as.map aT,d,by rw[oI];rfl,Gk aX l1 l3,by rw[Mi];exact hkc 1,hd,by rw[Mi];exact JH,e1⟩
   rintro σ' H4 ⟨ts,d4,rfl,KW,jN,hd40,OB,e4⟩
   have hk4:=e4 _ _ KS
   have z1:=KW.2.2.1
   refine fD (fun σ' H'=>∃xs:List jO,σ'=[some (.int c),some (.ref kl),some (.ref d4),some (.str ⟨(wL 1 xs 0).toArray⟩),v3,v4,some (.int n)]∧YU xs∧(∀q∈cW 1 xs,q.1∈K3 k0 k1 k2)∧H' d4=some (.dK (cW 1 xs))∧au H H') (fun N hN=>?_) ?_
   ·refine⟨_,rfl,_,_,rfl,rfl,⟨by decide,by decide⟩,_,_,rfl,rfl,(by show (0 :Int) <4;decide),rfl,_,rfl,dY (fun _=>?_) fun _=>?_⟩
    ·have l12:(".12" :Str).length=3:=by decide+kernel
     have zk:=rn O3
     have hI:=we [(1,ts)]
     have hl:=Gn (Gm KW).2.2.2
     have ha0:xv [V.str ⟨k0.toArray⟩, .str ⟨k1.toArray⟩, .str ⟨k2.toArray⟩] 0=some (V.str ⟨k0.toArray⟩):=rfl
     refine⟨_,rfl,_,_,rfl,rfl,by rw[l12,bh];omega,_,rfl,kl,_,_,_,rfl,rfl,bS.of hk4,ha0,_,_,rfl,rfl,by rw[bx,l12,bh,bh];omega,?_⟩
     refine⟨_,rfl,d4,rfl, .inl ⟨_, .inl OB⟩,_,rfl,kl,_,_,_,rfl,rfl,bS.of hk4,ha0,_,gk.k (k:=Sum.inr ⟨k0.toArray⟩) OB,_,_,hI.at _,rfl,_,rfl,_,rfl,kl,_,_,_,rfl,rfl,bS.of hk4,ha0,d4,_,rfl,lz.k (k:=Sum.inr ⟨k0.toArray⟩) OB (by omega),?_⟩
     refine hN _ _ ⟨[(1,ts),(12,[.one k0 1])],?_,S9 KW O3,?_,?_,fun b o z=>?_⟩
     ·have ex:(⟨(ts.flatMap (b9 1)).toArray⟩:Str)++".12" ++⟨k0.toArray⟩=⟨(wL 1 [(1,ts),(12,[.one k0 1])] 0).toArray⟩:=by
       rw[S8,uv,bB,bB]
       simp
      rw[←ex]
      rfl
     ·rw[S']
      intro q hq
      rcases wD hq with hq|hq
      ·exact jN q hq
      ·rw[hq];simp [K3]
     ·rw[af,S']
      rfl
     ·rw[ah (ag z hd40)]
      exact e4 _ _ z
    ·exact hN _ _ ⟨[(1,ts)],by rw[SH],Gm KW,jN,OB,e4⟩
   rintro σ' H5 ⟨xs,rfl,okb,hxk,hd5,e5⟩
   have zb:=okb.2.2.1
   refine fD (fun σ' H'=>σ'=[some (.int c),some (.ref kl),some (.ref d4),some (.str ⟨(wL 1 xs n).toArray⟩),v3,v4,some (.int n)]∧H' d4=some (.dK (cW 1 xs))∧au H H') (fun N hN=>?_) ?_
   ·refine⟨_,rfl,rfl,_,rfl,dY (fun e=>?_) fun e=>?_⟩
    ·have e:¬n=0:=by simpa using e
     have a1:1≤(if n<0 then -n else n):=by split<;>omega
     have a2:(if n<0 then -n else n)≤999:=by split<;>omega
     have z:=g8 a1 a2
     have g1:("^" :Str).length=1:=by decide+kernel
     have g2:(if 0<n then ("+" :Str) else ("-" :Str)).length=1:=by split<;>decide+kernel
     refine⟨_,rfl,_,_,rfl,rfl,by rw[g1,bh];omega,_,rfl,n,rfl,_,rfl,a1,a2,_,_,rfl,rfl,by rw[bx,g1,bh];omega,(by show 2≤sizeLine;decide),fun y hy=>⟨_,rfl,_,_,rfl,rfl, .inr ⟨_,rfl,y,_,_,V.str _,rfl,rfl,bS.of af,ON n,_,_,rfl,rfl,?_,hN _ _ ⟨?_,?_,e5.trans (au.new hy)⟩⟩⟩⟩
     ·rw[bx,bx,bh,g1,g2]
      omega
     ·have ex:(⟨(wL 1 xs 0).toArray⟩:Str)++"^" ++fb (if n<0 then -n else n)++(if 0<n then ("+" :Str) else ("-" :Str))=⟨(wL 1 xs n).toArray⟩:=by
       rw[SE okb.1 n,←bB,Kv e,←tL,←tL]
      rw[←ex]
      rfl
     ·rw[ah (ag hd5 hy)]
      exact hd5
    ·have e:n=0:=by simpa using e
     subst e
     exact hN _ _ ⟨rfl,hd5,e5⟩
   rintro σ' H6 ⟨rfl,Ta,e6⟩
   exact⟨_,rfl,_,rfl,_,rfl,(by show 3≤sizeLine;decide),fun t ht=>q t (xs,n) _ (Mo okb n1 n2) (few3 (iM _) hxk) ⟨d4,af,by rw[ah (ag Ta ht)];exact Ta⟩ (e6.trans (au.new ht))⟩
variable {HE Sh:Addr}
theorem rK {n:Int} (h0:0≤n) (h:n<10^60):(toString n:Str).length≤60:=by
 rw[PySem.ofString_length]
 obtain⟨m,rfl⟩:=Int.eq_ofNat_of_zero_le h0
 show (Nat.repr m).length≤60
 rw[Nat.length_repr_le_iff (by decide)]
 omega
theorem rL {n:Int} (h0:0≤n) (h:n<10^60):n.natAbs.log2<1920:=by
 by_cases e:n.natAbs=0
 ·rw[e];decide
 ·have:=(Nat.log2_lt e (k:=200)).mpr (by omega)
  omega
structure KY (K:PySem.W.Frag) (mg:Str→Option Value) (HE Sh:Addr):Prop where
 yu:mg "HallError" =some (.ref HE)
 wF:Mc K HE
 KZ:PySem.W.CY K HE
 K0:mg "Short" =some (.ref Sh)
 O4:PySem.W.takerIn K Sh "step" =some none
 O5:PySem.W.takerIn K Sh "turn" =some none
 DT:PySem.W.takerIn K Sh "formula" =some none
 O6:PySem.W.takerIn K Sh "lack" =some none
 O7:PySem.W.findIn K (.ref Sh) "step" =some none
 O8:PySem.W.findIn K (.ref Sh) "turn" =some none
 DU:PySem.W.findIn K (.ref Sh) "formula" =some none
 O9:PySem.W.findIn K (.ref Sh) "lack" =some none
 Tb:XIs K Sh
 Tc:PySem.W.mroIn K Sh (.ref HE)=some true
def Ex (st tn:Int) (x:Str) (lk:Int):List (Str×V):=cJ "lack" (.int lk) (cJ "formula" (.str x) (cJ "turn" (.int tn) [("step", .int st)]))
inductive G6 (Sh:Addr) (vs:List V) (H:Hp) (Q:VK) (E:XK):Prop
 |mk (e:Addr) (st tn:Int) (x:Str) (lk:Int) (dU:vs=[.ref e, .int st, .int tn, .str x, .int lk]) (dW:H e=some (tH e Sh none)) (d5:0≤st) (fe:st<10^60) (gH:0≤tn) (jb:tn<10^60) (nM:x.length≤100) (su:0≤lk) (A9:lk<10^60) (Kd:∀dx H',H dx=none→dx≠e→H' e=some (tH e Sh (some dx))→H' dx=some (zt dx (Ex st tn x lk))→(∀b o,H b=some o→b≠e→H' b=some o)→Q .cI H')
def BK (Sh:Addr):Sp:=G6 Sh
theorem K1:ay ["self","step","turn","formula","lack"] ["self","step","turn","formula","lack"] (aj vB):=dq
theorem G7 (D:FC K mg "Short" Sh HE "Short.__init__" vB ["self","step","turn","formula","lack"]) (T:KY K mg HE Sh):zC P w K mg base 1 "Short" Sh HE ["self","step","turn","formula","lack"] (BK Sh):=by
 obtain⟨f0,_,_,Z,_⟩:=id D
 refine D.cY K1 (fun vs H Q E h=>?_) (fun f bg A outer s H vs Q E hr h=>?_)
 ·obtain⟨e,st,tn,x,lk,rfl,_⟩:=h
  rfl
 ·obtain⟨e,st,tn,x,lk,rfl,he,s0,s1,t0,t1,hx,l0,l1,q⟩:=h
  have big:(2000 :Nat)≤sizeLine:=by decide
  have z1:=rK s0 s1
  have z2:=rK t0 t1
  have z3:=rK l0 l1
  refine⟨_,(ai
     (bw (Fv rfl T.yu T.wF (pv 0) (JW (iD bG (iD (vp (pv 1)) (iD bG (iD (vp (pv 2)) (iD bG (iD (vp (pv 3)) (iD bG (iD (vp (pv 4)) Oc)))))))))))
    (ai
     (pI (pv 0) (pv 1) rfl)
    (ai
     (pI (pv 0) (pv 2) rfl)
    (ai
     (pI (pv 0) (pv 3) rfl)
    (ao
     (pI (pv 0) (pv 4) rfl)))))),?_⟩
  have y1:("step " :Str).length=5:=by decide+kernel
  have y2:(", turn " :Str).length=7:=by decide+kernel
  have y3:(": of " :Str).length=5:=by decide+kernel
  have y4:(" there lacks " :Str).length=13:=by decide+kernel
  have y0:(Str.empty).length=0:=rfl
  refine⟨_,rfl,_,rfl,?_,_,rfl, .inl ⟨_,rfl,rL s0 s1,_,rfl,?_,_,rfl,?_,_,rfl, .inl ⟨_,rfl,rL t0 t1,_,rfl,?_,_,rfl,?_,_,rfl, .inr ⟨_,rfl,by omega,_,rfl,?_,_,rfl,?_,_,rfl, .inl ⟨_,rfl,rL l0 l1,_,rfl,?_,?_,e,Sh,HE,f0,none,rfl,Z,he,?_⟩⟩⟩⟩⟩
  any_goals (simp only [bx,y0,y1,y2,y3,y4];omega)
  refine⟨_,rfl,_,rfl,e,Sh,HE,f0,rfl,Z,T.O4, .inl ⟨he,fun dx G8 IX=>?_⟩⟩
  have h1:(upd (upd H dx (zt dx [("step", .int st)])) e (tH e Sh (some dx))) e=some (tH e Sh (some dx)):=af
  have h2:(upd (upd H dx (zt dx [("step", .int st)])) e (tH e Sh (some dx))) dx=some (zt dx [("step", .int st)]):=by rw[ah IX,af]
  refine⟨_,rfl,_,rfl,e,Sh,HE,f0,rfl,Z,T.O5, .inr ⟨dx,_,h1,h2,(by show 1<1000;decide),?_⟩⟩
  refine⟨_,rfl,_,rfl,e,Sh,HE,f0,rfl,Z,T.DT, .inr ⟨dx,_,by rw[ah (Ne.symm IX)];exact h1,af,Nat.lt_of_le_of_lt (gj _ _ _) (by show 1+1<1000;decide),?_⟩⟩
  refine⟨_,rfl,_,rfl,e,Sh,HE,f0,rfl,Z,T.O6, .inr ⟨dx,_,by rw[ah (Ne.symm IX),ah (Ne.symm IX)];exact h1,af,Nat.lt_of_le_of_lt (gj _ _ _) (Nat.lt_of_le_of_lt (Nat.add_le_add_right (gj _ _ _) 1) (by show 1+1+1<1000;decide)),?_⟩⟩
  refine q dx _ G8 IX (by rw[ah (Ne.symm IX),ah (Ne.symm IX),ah (Ne.symm IX)];exact h1) af fun b o z nb=>?_
  have Y5:=ag z G8
  rw[ah Y5,ah Y5,ah Y5,ah nb,ah Y5]
  exact z
variable {uC uP uI uD uL uT fg fj fk uG uS:Tok} {Ch HE Sh:Addr}
def iX (a t g:Int):Option Int:=if a<t then some 0 else if 0≤g then none else some ((a - t) /(-g)+1)
def bo:List (Option Int)→Option Int
 | []=>none
 |none::r=>bo r
 |some i::r=>match bo r with
  |none=>some i
  |some j=>some (if j<i then j else i)
def av (xs:List Tm):List (Key×V):=a7 1 [] (eO xs)
def lL (am:List (Key×V)) (xs ys:List Tm):Option Int:=bo ((av xs).map fun q=>iX (aG am q.1) (aG (av xs) q.1) (aG (gQ xs ys) q.1))
def de (am:List (Key×V)) (xs ys:List Tm) (m:Int):List (Key×V):=fq m am (gQ xs ys) (gQ xs ys)
def pb (th tk:List (Key×V)):List (Key×V)→Option (Key×Int)
 | []=>none
 |q::r=>if 0<aG tk q.1 - aG th q.1 then some (q.1,aG tk q.1 - aG th q.1) else pb th tk r
theorem mf (th tk:List (Key×V)) (q:Key×V) (r:List (Key×V)):pb th tk (q::r)=if 0<aG tk q.1 - aG th q.1 then some (q.1,aG tk q.1 - aG th q.1) else pb th tk r:=rfl
def oV:Option Int→V
 |none=> .cI
 |some i=> .int i
def Y6 (xs ys:List Tm):Prop:=∀k, -(2^62) <aG (gQ xs ys) k∧aG (gQ xs ys) k<2^62
inductive K2 (C G Pc Fo Ch:Addr) (vs:List V) (H:Hp) (Q:VK) (E:XK):Prop
 |mk (c am:Addr) (xs ys:List Tm) (kvs:List (Key×V)) (dU:vs=[.ref c, .ref am]) (dW:dt C G Pc Fo Ch H c xs ys) (d5:(∀x∈xs,cT x.2)) (fe:(∀y∈ys,cT y.2)) (gH:xs.length≤20) (jb:ys.length≤20) (nM:Y6 xs ys) (su:H am=some (.dK kvs)) (A9:bu kvs) (Kd:∀H',au H H'→Q (oV (lL kvs xs ys)) H')
def Ai (C G Pc Fo Ch:Addr):Sp:=K2 C G Pc Fo Ch
inductive DV (C G Pc Fo Ch:Addr) (vs:List V) (H:Hp) (Q:VK) (E:XK):Prop
 |mk (c am:Addr) (m:Int) (xs ys:List Tm) (kvs:List (Key×V)) (dU:vs=[.ref c, .int m, .ref am]) (dW:dt C G Pc Fo Ch H c xs ys) (d5:(∀x∈xs,cT x.2)) (fe:(∀y∈ys,cT y.2)) (gH:xs.length≤20) (jb:ys.length≤20) (nM:Y6 xs ys) (su:H am=some (.dK kvs)) (A9:bu kvs) (Kd:kvs.length≤900) (DW:∀e H',H e=none→H' e=some (.dK (de kvs xs ys m))→au H H'→Q (.ref e) H')
def rM (C G Pc Fo Ch:Addr):Sp:=DV C G Pc Fo Ch
def cw (am:List (Key×V)) (xs ys:List Tm) (m:Int):Option (Int×Key×Int):=match lL am xs ys with
 |none=>none
 |some t=>if m≤t then none else (pb (de am xs ys t) (av xs) (av xs)).map fun p=>(t,p.1,p.2)
inductive DX (C G Pc Fo Ch Sh:Addr) (vs:List V) (H:Hp) (Q:VK) (E:XK):Prop
 |mk (c am:Addr) (m st:Int) (xs ys:List Tm) (kvs:List (Key×V)) (dU:vs=[.ref c, .int m, .ref am, .int st]) (dW:dt C G Pc Fo Ch H c xs ys) (d5:(∀x∈xs,cT x.2)) (fe:(∀y∈ys,cT y.2)) (gH:xs.length≤20) (jb:ys.length≤20) (nM:Y6 xs ys) (su:H am=some (.dK kvs)) (A9:bu kvs) (Kd:kvs.length≤900) (DW:0≤st) (Td:st<10^60) (h'12:(∀t k l,cw kvs xs ys m=some (t,k,l)→0≤t+1∧t+1<10^60∧0≤l∧l<10^60)) (h'13:(cw kvs xs ys m=none→∀H',au H H'→Q .cI H')) (h'14:(∀t (x:Str) l e dx H',cw kvs xs ys m=some (t,Sum.inr x,l)→H' e=some (CT e Sh (some dx))→H' dx=some (zt dx (Ex st (t+1) x l))→H e=none→H dx=none→au H H'→E (.ref Sh) (some dx) H'))
def yv (C G Pc Fo Ch Sh:Addr):Sp:=DX C G Pc Fo Ch Sh
theorem dA:ay ["change","times","amounts","step","turns","there","taken","text","lack"] ["change","times","amounts","step"] (aj gN):=dq
theorem DY (D:Def K mg "refuse_short" "refuse_short" gN ["change","times","amounts","step"]) (T:oJ K mg C R G Pc Fo Ch uK uN uB uE uM uC uP uI uD uL uT fg fj fk uG uS) (TE:KY K mg HE Sh) (c1:a9 P w K mg base 10 "most_turns" ["change","amounts"] (Ai C G Pc Fo Ch)) (c2:a9 P w K mg base 10 "turned" ["change","times","amounts"] (rM C G Pc Fo Ch)) (c3:a9 P w K mg base 8 "side_counts" ["terms"] (gP C G Pc Fo)) (c4:zC P w K mg base 1 "Short" Sh HE ["self","step","turn","formula","lack"] (BK Sh)):
  Fz P w K mg base 11 "refuse_short" ["change","times","amounts","step"] (yv C G Pc Fo Ch Sh):=by
 obtain⟨_,_,cz⟩:=c1
 obtain⟨_,_,fK⟩:=c2
 obtain⟨_,_,aZ⟩:=c3
 obtain⟨_,_,la⟩:=c4
 refine D.FA dA (fun vs H Q E h=>?_) (fun f bg A outer s H vs Q E hr h=>?_)
 ·obtain⟨c,am,m,st,xs,ys,kvs,rfl,_⟩:=h
  rfl
 ·obtain⟨c,am,m,st,xs,ys,kvs,rfl,hC,hx,hy,lx,ly,hG,yw,hI,hl,st0,st1,hb,q,qE⟩:=h
  have hu:=dn hr
  have big:(2000 :Nat)≤sizeLine:=by decide
  refine⟨_,(ai
     (aB (i:=4) dA.nd rfl (Or.inl rfl) (aF cz.ok (hr.mono (by decide)) rfl cz.g cz.kp cz.b .nil aA (aa (pv 0) (aa (pv 2) ak))))
    (ai
     (bE (PW.pt (oU (gW (lR (pv 4))) (lS (aO AK (pv 1) (pv 4) (aQ _)))))
      (ao
       Jj)
      aS)
    (ai
     (aB (i:=5) dA.nd rfl (Or.inl rfl) (aF fK.ok (hr.mono (by decide)) rfl fK.g fK.kp fK.b .nil aA (aa (pv 0) (aa (pv 4) (aa (pv 2) ak)))))
    (ai
     (aB (i:=6) dA.nd rfl (Or.inl rfl) (aF aZ.ok (hr.mono (by decide)) rfl aZ.g aZ.kp aZ.b .nil aA (aa (a0 (pv 0) rfl) ak)))
    (ao
     (eM (cq Fp rfl (dE (pv 6)) (aK (i:=7) dA.nd rfl (Or.inl rfl))
      (ai
       (aB (i:=8) dA.nd rfl (Or.inl rfl) (az fu (bN hu (pv 6) (pv 7) (fun _ _=>rfl)) (bP hu (pv 5) (pv 7) aq ⟨rfl,rfl,rfl,rfl⟩)))
      (ao
       (bE (aO jM (pv 8) aq (aQ _))
        (ao
         (Fu rfl vo (Ft la.z la.ok (hr.mono (by decide)) rfl la.g la.kp la.b (aa (pv 3) (aa (az bO (pv 4) aq) (aa (pv 7) (aa (pv 8) ak)))))))
        aS)))))))))),?_⟩
  refine⟨_,rfl,_,rfl,c,am,xs,ys,kvs,rfl,hC,hx,hy,lx,ly,hG,yw,hI,fun H1 e1=>?_⟩
  cases hm:lL kvs xs ys with
  |none=>
   have hs:cw kvs xs ys m=none:=by unfold cw;rw[hm]
   refine⟨_,rfl,_,rfl,eQ ?_⟩
   exact q hs _ e1
  |some t=>
   refine⟨_,rfl,_,rfl,d7 ⟨_,rfl,_,rfl,_,_,rfl,rfl,_,rfl,dY (fun em=>?_) fun em=>?_⟩⟩
   ·have em:m≤t:=by simpa using em
    have hs:cw kvs xs ys m=none:=by unfold cw;rw[hm];simp [em]
    exact q hs _ e1
   have em:¬m≤t:=by simpa using em
   have hs:cw kvs xs ys m=(pb (de kvs xs ys t) (av xs) (av xs)).map fun p=>(t,p.1,p.2):=by unfold cw;rw[hm];simp [em]
   refine⟨_,rfl,_,rfl,_,rfl,c,am,t,xs,ys,kvs,rfl,hC.same e1,hx,hy,lx,ly,hG,e1 _ _ yw,hI,hl,fun th H2 nth hth e2=>?_⟩
   have uv:=e1.trans e2
   obtain⟨dx,l,r,hc,hl',IY⟩:=id hC
   refine⟨_,rfl,c,Ch,dx,_,_,rfl,uv _ _ hc,T.bY,T.hV,eV _ _,l,xs,rfl,hl'.same uv,hx,lx,fun tk H3 Pa jN e3=>?_⟩
   have jN:H3 tk=some (.dK (av xs)):=jN
   have Y1:=uv.trans e3
   have hth3:=e3 _ _ hth
   have Mx:bu (de kvs xs ys t):=cV _ _ _ _ hI
   have K4:bu (av xs):=bQ _
   have htH:H tk=none:=none_back uv Pa
   have nht:th≠tk:=ag hth Pa
   have hinr:∀p∈av xs,∃s:Str,p.1=Sum.inr s∧s.length≤100:=by
    refine nv (Pk:=fun j=>∃s:Str,j=Sum.inr s∧s.length≤100) 1 _ [] (fun q hq=>by cases hq) fun p hp=>?_
    obtain⟨z,hz,rfl⟩:=List.mem_map.mp hp
    have:=(hx z hz).2.1
    exact⟨_,rfl,by rw[bh];omega⟩
   dsimp only [dB]
   refine⟨_,rfl,tk,av xs,rfl,jN,fun o nf=>fA nf (fun i σ H'=>∃v7 v8:Option V,σ=[some (.ref c),some (.int m),some (.ref am),some (.int st),some (.int t),some (.ref th),some (.ref tk),v7,v8]∧H'=H3∧pb (de kvs xs ys t) (av xs) ((av xs).drop i)=pb (de kvs xs ys t) (av xs) (av xs)) ⟨none,none,rfl,rfl,rfl⟩ (fun i σ H' ⟨_,_,_,z,_⟩=>by rw[z];exact jN) ?_ ?_⟩
   ·rintro i k v σ H' hi ⟨v7,v8,rfl,rfl,QY⟩
    have hv:=K4.dZ (List.mem_of_getElem? hi)
    have Tf:(upd H' tk (.eC o (.dK (av xs)))) th=some (.dK (de kvs xs ys t)):=by rw[ah nht];exact hth3
    have yM:=(List.getElem?_eq_some_iff.mp hi).1
    have JG:(av xs).drop i=(k,v)::(av xs).drop (i+1):=by
     rw[List.drop_eq_getElem_cons yM]
     congr 1
     exact(List.getElem?_eq_some_iff.mp hi).2
    refine⟨_,rfl,_,rfl,tk,V.int (aG (av xs) k),rfl, .inl ⟨_,k, .inr ⟨o,af⟩,rfl,hv.symm⟩,_,rfl,th,rfl, .inl ⟨_, .inl Tf⟩,_,rfl,_,gk.k (k:=k) Tf,?_⟩
    rw[Mx.at k]
    refine⟨_,_,rfl,rfl,?_⟩
    refine⟨_,rfl,_,_,rfl,rfl,_,rfl,dY (fun ec=>?_) fun ec=>?_⟩
    ·have ec:0<aG (av xs) k - aG (de kvs xs ys t) k:=by simpa using ec
     rw[JG,mf,if_pos ec] at QY
     obtain⟨x,ex,t4⟩:=hinr _ (List.mem_of_getElem? hi)
     have ex:k=Sum.inr x:=ex
     subst ex
     have JE:cw kvs xs ys m=some (t,Sum.inr x,aG (av xs) (Sum.inr x) - aG (de kvs xs ys t) (Sum.inr x)):=by rw[hs,←QY];rfl
     obtain⟨b1,b2,b3,b4⟩:=hb _ _ _ JE
     refine⟨_,rfl,_,rfl,_,_,rfl,rfl,_,rfl,_,rfl,(by show 4≤100;decide),fun e he=>?_⟩
     have s4:au H (upd H' tk (.eC o (.dK (av xs)))):=fun b o' z=>by rw[ah (ag z htH)];exact Y1 _ _ z
     have s5:=s4.trans (au.new (o:=tH e Sh none) he)
     refine⟨e,st,t+1,x,_,rfl,af,st0,st1,b1,b2,t4,b3,b4,fun dH H5 G8 IX h5e h5d k5=>⟨rfl,?_⟩⟩
     refine⟨e,Sh,HE,_,some dH,rfl,la.z,h5e,?_⟩
     refine qE t x _ e dH _ JE af (by rw[ah IX];exact h5d) (none_back s4 he) (none_back s5 G8) fun b o' z=>?_
     have Y7:b≠e:=ag (s4 _ _ z) he
     rw[ah Y7]
     exact k5 _ _ (s5 _ _ z) Y7
    ·have ec:¬0<aG (av xs) k - aG (de kvs xs ys t) k:=by simpa using ec
     refine⟨af,_,_,rfl,by rw[jc,dO jN],?_⟩
     rw[←QY,JG,mf,if_neg ec]
   ·rintro σ H' ⟨v7,v8,rfl,rfl,QY⟩
    rw[List.drop_length] at QY
    refine q ?_ _ Y1
    rw[hs,←QY]
    rfl
variable {uC uP uI uD uL uT fg fj fk uG uS:Tok} {Ch HE Sh St:Addr}
structure G9 (K:PySem.W.Frag) (mg:Str→Option Value) (C R G Pc Fo Ch St:Addr) (uK uN uB uE uM uC uP uI uD uL uT fg fj fk uG uS:Tok):Prop extends oJ K mg C R G Pc Fo Ch uK uN uB uE uM uC uP uI uD uL uT fg fj fk uG uS where
 kq:mg "enumerate" =none
 b8:sR K St
 dR:cE K St "amounts"
 wC:cE K St "gone"
def Aj (x:Str) (xs ys:List Tm):Prop:=x.cps.toList=sG xs++pY++sG ys∧xs≠[]∧ys≠[]∧(∀t∈xs,fQ t)∧(∀t∈ys,fQ t)∧x.length≤400∧xs.length+ys.length≤8∧yn (xs++ys)≤60∧(∀t∈xs,cT t.2)∧(∀t∈ys,cT t.2)∧∀k,sumZ xs k=sumZ ys k
theorem qb (t b:Int) (k:Key) (hb:0≤b):∀(as:List (Str×Int)) (acc:List (Key×V)) (B:Int),(∀p∈as, -b≤p.2*t∧p.2*t≤b)→ -B≤aG acc k→aG acc k≤B→ -(B+as.length*b)≤aG (a7 t acc as) k∧aG (a7 t acc as) k≤B+as.length*b
 | [],acc,B,_,h1,h2=>by
   show -(B+((0 :Nat):Int)*b)≤aG acc k∧aG acc k≤B+((0 :Nat):Int)*b
   simp
   exact⟨h1,h2⟩
 |p::r,acc,B,h,h1,h2=>by
  have hp:=h p (List.mem_cons_self ..)
  have e:aG (cA acc (Sum.inr p.1) (p.2*t)) k=if k=Sum.inr p.1 then aG acc (Sum.inr p.1)+p.2*t else aG acc k:=js _ _ _ _
  have Ep: -(B+b)≤aG (cA acc (Sum.inr p.1) (p.2*t)) k∧aG (cA acc (Sum.inr p.1) (p.2*t)) k≤B+b:=by
   rw[e]
   split
   ·rename_i ek
    rw[←ek]
    omega
   ·omega
  have ih:=qb t b k hb r (cA acc (Sum.inr p.1) (p.2*t)) (B+b) (fun q hq=>h q (List.mem_cons_of_mem _ hq)) Ep.1 Ep.2
  have el:((p::r).length:Int)*b=b+(r.length:Int)*b:=by rw[List.length_cons];push_cast;rw[Int.add_mul];omega
  rw[el]
  show -(B+(b+(r.length:Int)*b))≤aG (a7 t (cA acc (Sum.inr p.1) (p.2*t)) r) k∧aG (a7 t (cA acc (Sum.inr p.1) (p.2*t)) r) k≤B+(b+(r.length:Int)*b)
  omega
theorem K5 {KV:List (Key×V)} {B:Int} (hB:0≤B) (h:∀k, -B≤aG KV k∧aG KV k≤B) (L:List (Key×V)) (k:Key): -B≤aG (pZ KV L) k∧aG (pZ KV L) k≤B:=by
 cases e:bX (pZ KV L) k with
 |none=>rw[eI e];omega
 |some v=>
  have hm:=fX e
  obtain⟨q,_,eq'⟩:=List.mem_map.mp hm
  injection eq' with e1 e2
  rw[←e2] at e
  rw[eK e]
  exact h _
theorem wG {x:Str} {xs ys:List Tm} (h:Aj x xs ys):Y6 xs ys:=fun k=>by
 obtain⟨_,_,_,h1,h2,_,hl,_⟩:=h
 have hy:∀p∈eO ys, -(10^12)≤p.2*1∧p.2*1≤10^12:=fun p hp=>by
  obtain⟨z,hz,rfl⟩:=List.mem_map.mp hp
  have:=h2 z hz
  have b1:=this.1
  have b2:=this.2.1
  show -(10^12)≤z.1*1∧z.1*1≤10^12
  omega
 have hx:∀p∈eO xs, -(10^12)≤p.2*(-1)∧p.2*(-1)≤10^12:=fun p hp=>by
  obtain⟨z,hz,rfl⟩:=List.mem_map.mp hp
  have:=h1 z hz
  have b1:=this.1
  have b2:=this.2.1
  show -(10^12)≤z.1*(-1)∧z.1*(-1)≤10^12
  omega
 have e:∀zs:List Tm,(eO zs).length=zs.length:=fun zs=>by unfold eO;rw[List.length_map]
 have key:∀k, -(10^13)≤aG (p7 xs ys) k∧aG (p7 xs ys) k≤10^13:=fun k=>by
  have a1:=qb 1 (10^12) k (by decide) (eO ys) [] 0 hy (Int.le_refl _) (Int.le_refl _)
  have a2:=qb (-1) (10^12) k (by decide) (eO xs) (a7 1 [] (eO ys)) (0+(eO ys).length*10^12) hx a1.1 a1.2
  rw[e,e] at a2
  show -(10^13)≤aG (a7 (-1) (a7 1 [] (eO ys)) (eO xs)) k∧aG (a7 (-1) (a7 1 [] (eO ys)) (eO xs)) k≤10^13
  omega
 have:=K5 (by decide) key (p7 xs ys) k
 show -(2^62) <aG (pZ (p7 xs ys) (p7 xs ys)) k∧aG (pZ (p7 xs ys) (p7 xs ys)) k<2^62
 omega
inductive K6 (C G Pc Fo Ch:Addr) (vs:List V) (H:Hp) (Q:VK) (E:XK):Prop
 |mk (x:Str) (xs ys:List Tm) (dU:vs=[.str x]) (dW:Aj x xs ys) (d5:∀c H',H c=none→OQ C G Pc Fo Ch H H' c xs ys→au H H'→Q (.ref c) H')
def Ak (C G Pc Fo Ch:Addr):Sp:=K6 C G Pc Fo Ch
structure rN where
 xs:List Tm
 ys:List Tm
 x:Str
 m:Int
def My (H:Hp) (t:Addr) (r:rN):Prop:=H t=some (.tup [.str r.x, .int r.m])
def oO (am:List (Key×V)) (rs:List rN):List (Key×V):=rs.foldl (fun a r=>de a r.xs r.ys r.m) am
inductive G' (C G Pc Fo Ch Sh St:Addr) (vs:List V) (H:Hp) (Q:VK) (E:XK):Prop
 |mk (st d g rl:Addr) (kvs:List (Key×V)) (gs:List V) (ts:List Addr) (rs:List rN) (dU:vs=[.ref st, .ref rl]) (dW:lK St H st d g) (d5:H d=some (.dK kvs)) (fe:H g=some (.lst gs)) (gH:g≠rl) (jb:bu kvs) (nM:kvs.length≤400) (su:H rl=some (.lst (ts.map V.ref))) (A9:Paired (My H) ts rs) (Kd:rs.length≤10) (DW:gs.length≤1000) (Td:(∀r∈rs,Aj r.x r.xs r.ys)) (h'12:(∀i r t k l,rs[i]? =some r→cw (oO kvs (rs.take i)) r.xs r.ys r.m=some (t,k,l)→0≤t+1∧t+1<10^60∧0≤l∧l<10^60)) (h'13:((∀i r,rs[i]? =some r→cw (oO kvs (rs.take i)) r.xs r.ys r.m=none)→∀d' H',(d'=d∨H d'=none)→lK St H' st d' g→H' d'=some (.dK (oO kvs rs))→H' g=some (.lst (gs++ts.map V.ref))→(∀b o,H b=some o→b≠st→b≠g→H' b=some o)→Q .cI H')) (h'14:(∀(i:Nat) r t (x:Str) l e dx H',rs[i]? =some r→(∀j r,j<i→rs[j]? =some r→cw (oO kvs (rs.take j)) r.xs r.ys r.m=none)→cw (oO kvs (rs.take i)) r.xs r.ys r.m=some (t,Sum.inr x,l)→H' e=some (CT e Sh (some dx))→H' dx=some (zt dx (Ex (i:Nat) (t+1) x l))→H e=none→H dx=none→au H H'→E (.ref Sh) (some dx) H'))
def BL (C G Pc Fo Ch Sh St:Addr):Sp:=G' C G Pc Fo Ch Sh St
theorem Pb {kvs:List (Key×V)} (rs:List rN) (i:Nat) (h:bu kvs):bu (oO kvs (rs.take i)):=by
 generalize rs.take i=l
 induction l generalizing kvs with
 |nil=>exact h
 |cons r l ih=>exact ih (cV _ _ _ _ h)
theorem Pd {kvs:List (Key×V)}:∀{rs:List rN},(∀r∈rs,r.xs.length+r.ys.length≤8)→(oO kvs rs).length≤kvs.length+8*rs.length:=by
 intro rs
 induction rs generalizing kvs with
 |nil=>intro _;exact Nat.le_refl _
 |cons r l ih=>
  intro h
  have h1:=ih (kvs:=de kvs r.xs r.ys r.m) fun q hq=>h q (List.mem_cons_of_mem _ hq)
  have h2:(de kvs r.xs r.ys r.m).length≤kvs.length+(gQ r.xs r.ys).length:=fI _ _ _ _
  have h3:(gQ r.xs r.ys).length≤(p7 r.xs r.ys).length:=p6 _ _
  have h4:=p8 r.xs r.ys
  have h5:=h r (List.mem_cons_self ..)
  rw[List.length_cons]
  show (oO (de kvs r.xs r.ys r.m) l).length≤_
  omega
theorem BM (d g a:Addr):cJ "amounts" (.ref a) (Ag d g)=Ag a g:=by
 unfold Ag
 simp [cJ,Y2]
theorem jE:ay ["self","rows","changes","amounts","step","change","times"] ["self","rows"] (aj qK):=dq
def PvG (C G Pc Fo Ch L:Addr) (H:Hp) (rs:List rN):Nat→List V→Hp→Prop:=fun i ys H'=>∃cs:List Addr,ys=cs.map V.ref∧cs.length=i∧Paired (fun c (r:rN)=>∀cp:Hp,(∀b o,H b=none→b≠L→H' b=some o→cp b=some o)→dt C G Pc Fo Ch cp c r.xs r.ys) cs (rs.take i)
theorem Hc (D:bb K St "go_all" "Store.go_all" qK ["self","rows"]) (T:G9 K mg C R G Pc Fo Ch St uK uN uB uE uM uC uP uI uD uL uT fg fj fk uG uS) (c1:a9 P w K mg base 15 "read_even" ["text"] (Ak C G Pc Fo Ch)) (c2:Fz P w K mg base 11 "refuse_short" ["change","times","amounts","step"] (yv C G Pc Fo Ch Sh)) (c3:a9 P w K mg base 10 "turned" ["change","times","amounts"] (rM C G Pc Fo Ch)):
  zB P w K mg base 17 St "go_all" ["self","rows"] (BL C G Pc Fo Ch Sh St):=by
 obtain⟨_,_,cO⟩:=c1
 obtain⟨_,_,fM⟩:=c2
 obtain⟨_,_,fK⟩:=c3
 refine D.FA jE (fun vs H Q E h=>?_) (fun f bg A outer s H vs Q E hr h=>?_)
 ·obtain⟨st,d,g,rl,kvs,gs,ts,rs,rfl,_⟩:=h
  rfl
 ·obtain⟨st,d,g,rl,kvs,gs,ts,rs,rfl,⟨dx,gz⟩,hd,hg,ngr,hI,lB,K7,hP,hr20,hg1,aX,hb,q,qE⟩:=h
  have hu:=dn hr
  have big:(2000 :Nat)≤sizeLine:=by decide
  refine⟨_,(ai
     (pG (i:=2) jE.nd rfl (Or.inl rfl) (sc:=(aj qK)) (NX:=["self","rows","changes","amounts","step","change","times"]) (N:=["text","times"]) (fr:=[none,none]) ⟨by rfl,by rfl,by decide+kernel,by decide+kernel,by decide+kernel,by rfl,by decide+kernel⟩ rfl rfl rfl (cG (pv 1)) (fun _ _ _ _=>(vf K 2 rfl rfl (a6 (aK (i:=0) (show (["text","times"]:List Str).Nodup by decide+kernel) rfl (Or.inl rfl) (Or.inr rfl)) (a6 (aK (i:=1) (show (["text","times"]:List Str).Nodup by decide+kernel) rfl (Or.inl rfl) (Or.inr rfl)) dC)))) (fun _ _ _ _=>f7) (fun _ _ _ _=>(aF cO.ok (hr.mono (by decide)) rfl cO.g cO.kp cO.b .nil aA (aa (pv 0) ak))))
    (ai
     (aB (i:=3) jE.nd rfl (Or.inl rfl) (a0 (pv 0) rfl))
    (ai
     (cq Fp rfl (JK rfl T.kq (aa (pv 2) ak)) (gB rfl (a6 (aK (i:=4) jE.nd rfl (Or.inl rfl)) (a6 (aK (i:=5) jE.nd rfl (Or.inl rfl)) dC)))
      (ai
       (aB (i:=6) jE.nd rfl (Or.inl rfl) (cF jV (cF cH (pv 1) (pv 4) (fun _ _=>rfl)) aq (fun _ _=>rfl)))
      (ai
       (bw (Fs fM.ok (hr.mono (by decide)) rfl fM.g fM.kp fM.b .nil vo (aa (pv 5) (aa (pv 6) (aa (pv 3) (aa (pv 4) ak))))))
      (ao
       (aB (i:=3) jE.nd rfl (Or.inl rfl) (aF fK.ok (hr.mono (by decide)) rfl fK.g fK.kp fK.b .nil aA (aa (pv 5) (aa (pv 6) (aa (pv 3) ak)))))))))
    (ai
     (eP (pv 0) (pv 3) rfl)
    (ao
     (bw (iB PySem.F.plainAttrs_list PySem.F.slot_list_extend PySem.F.type_list_extend CH (a0 (pv 0) rfl) (aa (pv 1) ak)))))))),?_⟩
  have iu:=Paired.length hP
  refine⟨_,rfl,rl,rfl,⟨_,bS.of K7⟩,fun L hL=>kO (K:=K) (a:=rl) (L:=L) (xs:=ts.map V.ref) H (fun σ=>∃v u:Option V,σ=[v,u]) (PvG C G Pc Fo Ch L H rs) (bS.of K7) ?_ hL ⟨none,none,rfl⟩ (au.new hL) af ⟨[],rfl,rfl, .nil⟩ (by rw[List.length_map];omega) ?_ ?_ ?_⟩
  ·rintro i ys Ha Hb yN ⟨cs,h1,h2,h3⟩
   exact⟨cs,h1,h2,aL (fun c r z cp k=>z cp fun b o z1 z2 z3=>k b o z1 z2 (yN _ _ z3 z2)) h3⟩
  ·rintro i ys H' ⟨cs,rfl,h2,_⟩
   rw[List.length_map,h2];exact Nat.le_refl _
  ·rintro j w σ' H5 vs hj ⟨w1,w2,rfl⟩ e5 sy ⟨cs,rfl,SW,Y8⟩ N M hN
   rw[List.getElem?_map] at hj
   obtain⟨t,ht,rfl⟩:∃m,ts[j]? =some m∧w=V.ref m:=by
    cases hh:ts[j]? with
    |none=>rw[hh] at hj;cases hj
    |some m=>rw[hh] at hj;exact⟨m,rfl,(Option.some.inj hj).symm⟩
   obtain⟨r,IY,IZ⟩:=bI hP ht
   have IZ:H t=some (.tup [.str r.x, .int r.m]):=IZ
   refine⟨t,_,rfl,jL.of (e5 _ _ IZ),rfl,_,_,rfl,_,_,rfl,rfl,?_⟩
   refine⟨_,rfl,r.x,r.xs,r.ys,rfl,aX r (List.mem_of_getElem? IY),fun c H6 nc hN6 e6=>?_⟩
   refine hN _ _ _ ⟨_,_,rfl⟩ (e5.trans e6) (e6 _ _ sy) ⟨cs++[c],by rw[List.map_append];rfl,by rw[List.length_append,SW];rfl,?_⟩
   rw[take_snoc IY]
   refine bK (fun cp k=>hN6 cp fun b o z1 z2=>k b o (none_back e5 z1) (fun z=>by rw[z,sy] at z1;cases z1) z2) (aL (fun c r z cp k=>z cp fun b o z1 z2 z3=>k b o z1 z2 (e6 _ _ z3)) Y8)
  rintro H2 ys e2 sx ⟨cs,rfl,SW,Y8⟩
  rw[List.length_map] at SW
  have IZ:rs.take ts.length=rs:=by rw[iu,List.take_length]
  rw[List.length_map,IZ] at Y8
  refine⟨_,rfl,st,St,dx,_,_,rfl,e2 _ _ gz,T.b8,T.dR,gw _ _,?_⟩
  dsimp only [dB]
  have hcl2:cs.length=rs.length:=by rw[SW,iu]
  have hCh:∀{i:Nat} {c:Addr} {r:rN} {H':Hp},cs[i]? =some c→rs[i]? =some r→au H2 H'→dt C G Pc Fo Ch H' c r.xs r.ys:=fun {i c r H'} h1 h2 e=>by
   obtain⟨r',IY,z⟩:=bI Y8 h1
   rw[h2] at IY
   cases IY
   exact z H' fun b o _ _ z3=>e _ _ z3
  have hLH:H L=none:=hL
  refine⟨_,rfl,L,rfl,⟨_,bS.of sx⟩,E' (K:=K) (a:=L) (xs:=cs.map V.ref) (fun i σ H'=>∃(a:Addr) (v4 v5 v6:Option V),σ=[some (.ref st),some (.ref rl),some (.ref L),some (.ref a),v4,v5,v6]∧H' a=some (.dK (oO kvs (rs.take i)))∧(a=d∨H a=none)∧(∀j r,j<i→rs[j]? =some r→cw (oO kvs (rs.take j)) r.xs r.ys r.m=none)∧au H2 H') ?_ (fun i σ H' ⟨_,_,_,_,_,_,_,_,z⟩=>bS.of (z _ _ sx)) ?_ ?_⟩
  ·exact⟨d,none,none,none,rfl,e2 _ _ hd, .inl rfl,(fun j r hj=>absurd hj (Nat.not_lt_zero _)),au.refl _⟩
  ·rintro i v p σ H' hi hp ⟨a,v4,v5,v6,rfl,ha,jk,Pe,e3⟩
   rw[List.getElem?_map] at hi
   obtain⟨c,hc,rfl⟩:∃m,cs[i]? =some m∧v=V.ref m:=by
    cases hh:cs[i]? with
    |none=>rw[hh] at hi;cases hi
    |some m=>rw[hh] at hi;exact⟨m,rfl,(Option.some.inj hi).symm⟩
   have yM:i<rs.length:=by have:=(List.getElem?_eq_some_iff.mp hc).1;omega
   have K8:=List.getElem?_eq_getElem yM
   have Kz:ts[i]? =some ts[i]:=List.getElem?_eq_getElem (by omega)
   obtain⟨r',IY,IZ⟩:=bI hP Kz
   generalize ts[i]=t at Kz IZ
   generalize rs[i]=r at K8
   have er:r=r':=Option.some.inj (K8.symm.trans IY)
   subst er
   have IZ:H t=some (.tup [.str r.x, .int r.m]):=IZ
   have Ja:=aX r (List.mem_of_getElem? K8)
   have s4:=e3.trans (au.new (o:= .tup [.int (i:Nat), .ref c]) hp)
   have QZ:=e2.trans s4
   have ha4:=au.new (o:= .tup [.int (i:Nat), .ref c]) hp _ _ ha
   refine⟨p,_,rfl,jL.of af,rfl,_,_,rfl,_,_,rfl,rfl,?_⟩
   refine⟨_,rfl,_,rfl,rl,_,_, .ref t,rfl,rfl,bS.of (QZ _ _ K7),pD (by rw[List.getElem?_map,Kz];rfl),t,_,_, .int r.m,rfl,rfl,jL.of (QZ _ _ IZ),rfl,?_⟩
   have hIa:=Pb rs i hI
   have hla:=Pd (kvs:=kvs) (rs:=rs.take i) fun r hr=>(aX r (List.mem_of_mem_take hr)).2.2.2.2.2.2.1
   have ml:(rs.take i).length≤10:=by rw[List.length_take];omega
   dsimp only [dB]
   refine⟨_,rfl,_,rfl,_,rfl,_,rfl,c,a,r.m,(i:Nat),r.xs,r.ys,oO kvs (rs.take i),rfl,hCh hc K8 s4,Ja.2.2.2.2.2.2.2.2.1,Ja.2.2.2.2.2.2.2.2.2.1,by have:=Ja.2.2.2.2.2.2.1;omega,by have:=Ja.2.2.2.2.2.2.1;omega,wG Ja,ha4,hIa,by omega,by omega,by omega,fun t k l z=>hb i r t k l K8 z,fun hs H5 e5=>?_,fun t' x l e dH H5 hs he G8 ne Y9 e5=>?_⟩
   ·refine⟨_,rfl,_,rfl,_,rfl,c,a,r.m,r.xs,r.ys,oO kvs (rs.take i),rfl,hCh hc K8 (s4.trans e5),Ja.2.2.2.2.2.2.2.2.1,Ja.2.2.2.2.2.2.2.2.2.1,by have:=Ja.2.2.2.2.2.2.1;omega,by have:=Ja.2.2.2.2.2.2.1;omega,wG Ja,e5 _ _ ha4,hIa,by omega,fun a' H6 na' ha' e6=>?_⟩
    refine⟨a',_,_,_,rfl,?_, .inr (none_back (QZ.trans e5) na'),fun j r2 hj Y'=>?_,(s4.trans e5).trans e6⟩
    ·rw[ha',take_snoc K8]
     unfold oO
     rw[List.foldl_append]
     rfl
    ·rcases Nat.lt_succ_iff_lt_or_eq.mp hj with hj|hj
     ·exact Pe j r2 hj Y'
     ·subst hj
      have er:=Option.some.inj (K8.symm.trans Y')
      rw[←er]
      exact hs
   ·exact qE i r t' x l e dH H5 K8 Pe hs he G8 (none_back QZ ne) (none_back QZ Y9) (QZ.trans e5)
  ·rintro σ H' ⟨a,v4,v5,v6,rfl,ha,jk,Pe,e3⟩
   rw[List.length_map,hcl2,List.take_length] at ha
   have Jb:=e2.trans e3
   have wH:=Jb _ _ gz
   have hlf:(Ag d g).length<1000:=by unfold Ag;simp [cJ,Y2]
   refine⟨_,rfl,_,rfl,st,St,dx,_,rfl,wH,T.b8,T.dR,hlf,?_⟩
   have nsg:st≠g:=cD gz hg (by intro z;cases z)
   have nsr:st≠rl:=cD gz K7 (by intro z;cases z)
   have nsa:st≠a:=cD wH ha (by intro z;cases z)
   have nga:g≠a:=cD (Jb _ _ hg) ha (by intro z;cases z)
   refine⟨_,rfl,st,St,dx,_,_,rfl,af,T.b8,T.wC,(by rw[BM];exact GY _ _),?_⟩
   have hg3:(upd H' st (.ins St dx (cJ "amounts" (.ref a) (Ag d g)))) g=some (.lst gs):=by rw[ah (Ne.symm nsg)];exact Jb _ _ hg
   refine⟨.inl ⟨rfl,_,bS.of hg3⟩,_,rfl,g,rl,gs,ts.map V.ref,rfl,rfl,by rw[ah (Ne.symm nsg)];exact Jb _ _ hg,by rw[ah (Ne.symm nsr)];exact Jb _ _ K7,by rw[List.length_map];omega,?_⟩
   refine q (fun i r hi=>Pe i r (by rw[List.length_map];have:=(List.getElem?_eq_some_iff.mp hi).1;omega) hi) a _ jk ⟨dx,by rw[ah nsg,af,BM]⟩ (by rw[ah (Ne.symm nga),ah (Ne.symm nsa)];exact ha) af fun b o z n1 n2=>?_
   rw[ah n2,ah n1]
   exact Jb _ _ z
variable {uC uP uI uD uL uT fg fj fk uG uS:Tok} {Ch HE Sh St:Addr}
inductive Tg (C G Pc Fo Ch Sh St:Addr) (vs:List V) (H:Hp) (Q:VK) (E:XK):Prop
 |mk (st d g:Addr) (kvs:List (Key×V)) (gs:List V) (r:rN) (dU:vs=[.ref st, .str r.x, .int r.m]) (dW:lK St H st d g) (d5:H d=some (.dK kvs)) (fe:H g=some (.lst gs)) (gH:bu kvs) (jb:kvs.length≤400) (nM:gs.length≤1000) (su:Aj r.x r.xs r.ys) (A9:(∀t k l,cw kvs r.xs r.ys r.m=some (t,k,l)→0≤t+1∧t+1<10^60∧0≤l∧l<10^60)) (Kd:(cw kvs r.xs r.ys r.m=none→∀d' t H',(d'=d∨H d'=none)→lK St H' st d' g→H' d'=some (.dK (de kvs r.xs r.ys r.m))→H' g=some (.lst (gs++[.ref t]))→My H' t r→(∀b o,H b=some o→b≠st→b≠g→H' b=some o)→Q .cI H')) (DW:(∀t (x:Str) l e dx H',cw kvs r.xs r.ys r.m=some (t,Sum.inr x,l)→H' e=some (CT e Sh (some dx))→H' dx=some (zt dx (Ex 0 (t+1) x l))→H e=none→H dx=none→au H H'→E (.ref Sh) (some dx) H'))
def Ti (C G Pc Fo Ch Sh St:Addr):Sp:=Tg C G Pc Fo Ch Sh St
theorem scGo:ay ["self","text","times"] ["self","text","times"] (aj C6):=dq
theorem Tj (D:AY K St "go" "Store.go" C6 ["self","text","times"] [1]) (T:G9 K mg C R G Pc Fo Ch St uK uN uB uE uM uC uP uI uD uL uT fg fj fk uG uS) (c1:zB P w K mg base 17 St "go_all" ["self","rows"] (BL C G Pc Fo Ch Sh St)):vq P w K mg base 18 St "go" ["self","text","times"] [1] (Ti C G Pc Fo Ch Sh St):=by
 obtain⟨_,_,il⟩:=c1
 refine D.FA scGo (fun vs H Q E h=>?_) (fun f bg A outer s H vs Q E hr h=>?_)
 ·obtain⟨st,d,g,kvs,gs,r,rfl,_⟩:=h
  rfl
 ·obtain⟨st,d,g,kvs,gs,r,rfl,⟨dx,gz⟩,hd,hg,hI,lB,hg1,aX,hb,q,qE⟩:=h
  have big:(2000 :Nat)≤sizeLine:=by decide
  refine⟨_,(ao
     (bw (xI (pv 0) T.b8 il.m il.ok (hr.mono (by decide)) il.b .nil vo (aa (cu (aa (bW (aa (pv 1) (aa (pv 2) ak))) ak)) ak)))),?_⟩
  refine⟨_,rfl,st,dx,_,rfl,gz,kn _ _ (by decide+kernel) (by decide+kernel),_,rfl,_,rfl,(by show 2≤sizeLine;decide),fun t ht=>⟨(by show 1≤sizeLine;decide),fun rl K7=>?_⟩⟩
  have s1:=au.new (o:= .tup [.str r.x, .int r.m]) ht
  have s2:=s1.trans (au.new (o:= .lst [.ref t]) K7)
  have OW:=au.new (o:= .lst [.ref t]) K7 _ _ (af (H:=H) (a:=t) (o:= .tup [.str r.x, .int r.m]))
  have h0:([r]:List rN).take 0=[]:=rfl
  have one:∀{i:Nat} {r':rN},[r][i]? =some r'→i=0∧r'=r:=fun {i r'} z=>by
   match i,z with
   |0,z=>exact⟨rfl,(Option.some.inj z).symm⟩
  refine⟨st,d,g,rl,kvs,gs,[t],[r],rfl,⟨dx,s2 _ _ gz⟩,s2 _ _ hd,s2 _ _ hg,ag (s1 _ _ hg) K7,hI,lB,af, .cons OW .nil,(by show 1≤10;decide),hg1,(fun r' IY=>by rw[List.mem_singleton.mp IY];exact aX),fun i r' t' k l z1 z2=>?_,fun z d' H' h0 h1 h2 h3 h4=>?_,fun i r' t' x l e dH H' z1 z2 z3 h1 h2 h3 h4 h5=>?_⟩
  ·obtain⟨rfl,rfl⟩:=one z1
   exact hb t' k l z2
  ·refine q (z 0 r rfl) d' t H' (h0.imp id (none_back s2)) h1 h2 h3 (h4 _ _ OW ?_ ?_) fun b o y n1 n2=>h4 _ _ (s2 _ _ y) n1 n2
   ·exact Ne.symm (ag gz ht)
   ·exact Ne.symm (ag hg ht)
  ·obtain⟨rfl,rfl⟩:=one z1
   exact qE t' x l e dH H' z3 h1 h2 (none_back s2 h3) (none_back s2 h4) (s2.trans h5)
variable {uC uP uI uD uL uT fg fj fk uG uS:Tok} {Ch HE Sh St:Addr}
inductive Al (vs:List V) (H:Hp) (Q:VK) (E:XK):Prop
 |mk (a t g:Int) (dU:vs=[.int a, .int t, .int g]) (dW: -(2^62) <g) (d5:Q (oV (iX a t g)) H)
def ux:Sp:=Al
theorem DZ:ay ["amount","taken","gain"] ["amount","taken","gain"] (aj mQ):=dq
theorem Am (D:Def K mg "turns_of" "turns_of" mQ ["amount","taken","gain"]):a9 P w K mg base 1 "turns_of" ["amount","taken","gain"] ux:=by
 refine D.cY DZ (fun vs H Q E h=>?_) (fun f bg A outer s H vs Q E hr h=>?_)
 ·obtain⟨a,t,g,rfl,_⟩:=h
  rfl
 ·obtain⟨a,t,g,rfl,hg,q⟩:=h
  refine⟨_,(ai
     (bE (aO lG (pv 0) (pv 1) (aQ _))
      (ao
       (aE aq))
      aS)
    (ai
     (bE (aO LV (pv 2) aq (aQ _))
      (ao
       (aE lP))
      aS)
    (ao
     (aE (az bO (az Fe (az fu (pv 0) (pv 1)) (lF iQ (pv 2))) aq))))),?_⟩
  unfold iX at q
  refine⟨_,rfl,_,rfl,_,_,rfl,rfl,_,rfl,dY (fun e=>?_) fun e=>?_⟩
  ·have e:a<t:=by simpa using e
   rw[if_pos e] at q
   exact q
  have e:¬a<t:=by simpa using e
  rw[if_neg e] at q
  refine⟨_,rfl,_,_,rfl,rfl,_,rfl,dY (fun e=>?_) fun e=>?_⟩
  ·have e:0≤g:=by simpa using e
   rw[if_pos e] at q
   exact q
  have e:¬0≤g:=by simpa using e
  rw[if_neg e] at q
  exact⟨_,rfl,_,rfl,_,_,rfl,rfl,_,rfl,_,rfl,_,_,rfl,rfl,⟨by omega,by omega⟩,_,_,rfl,rfl,q⟩
theorem nz:ay ["change","times","amounts","gained","told","text"] ["change","times","amounts"] (aj pN):=dq
theorem D0 (D:Def K mg "turned" "turned" pN ["change","times","amounts"]) (T:oJ K mg C R G Pc Fo Ch uK uN uB uE uM uC uP uI uD uL uT fg fj fk uG uS) (c1:a9 P w K mg base 9 "gains" ["change"] (wx C G Pc Fo Ch)):a9 P w K mg base 10 "turned" ["change","times","amounts"] (rM C G Pc Fo Ch):=by
 obtain⟨_,_,gR⟩:=c1
 refine D.cY nz (fun vs H Q E h=>?_) (fun f bg A outer s H vs Q E hr h=>?_)
 ·obtain⟨c,am,m,xs,ys,kvs,rfl,_⟩:=h
  rfl
 ·obtain⟨c,am,m,xs,ys,kvs,rfl,hC,hx,hy,lx,ly,hG,yw,hI,hl,q⟩:=h
  have hu:=dn hr
  have big:(2000 :Nat)≤sizeLine:=by decide
  refine⟨_,(ai
     (aB (i:=3) nz.nd rfl (Or.inl rfl) (aF gR.ok (hr.mono (by decide)) rfl gR.g gR.kp gR.b .nil aA (aa (pv 0) ak)))
    (ai
     (aB (i:=4) nz.nd rfl (Or.inl rfl) (bC lV rfl T.jA iC (aa (pv 2) ak)))
    (ai
     (eM (cq PassesOwn.never rfl (dE (pv 3)) (aK (i:=5) nz.nd rfl (Or.inl rfl))
      (ao
       (dX hu (pv 4) (pv 5) (az bO (bP hu (pv 4) (pv 5) aq ⟨rfl,rfl,rfl,rfl⟩) (az dI (pv 1) (bN hu (pv 3) (pv 5) (fun _ _=>rfl)))) rfl))))
    (ao
     (aE (pv 4)))))),?_⟩
  refine⟨_,rfl,c,xs,ys,rfl,hC,hx,hy,lx,ly,fun d H1 nd hd e1=>?_⟩
  refine⟨_,rfl,am,_,rfl, .inl (e1 _ _ yw),fun e0 sh=>?_⟩
  have e01:H e0=none:=none_back e1 sh
  have GR:e0≠d:=fun z=>by rw[z,hd] at sh;cases sh
  have s2:=au.new (o:= .dK kvs) sh
  have hd2:=s2 _ _ hd
  have YZ:(upd H1 e0 (.dK kvs)) e0=some (.dK kvs):=af
  have e2:=e1.trans s2
  generalize upd H1 e0 (.dK kvs)=H2 at hd2 YZ e2
  have hgl:(gQ xs ys).length≤40:=by
   have h3:(gQ xs ys).length≤(p7 xs ys).length:=p6 _ _
   have h4:=p8 xs ys
   omega
  have K9:bu (gQ xs ys):=Bv _ _
  dsimp only [dB]
  refine⟨_,rfl,d,gQ xs ys,rfl,hd2,fun o nf=>fA nf (fun j σ H3=>∃w:Option V,σ=[some (.ref c),some (.int m),some (.ref am),some (.ref d),some (.ref e0),w]∧H3=upd H2 e0 (.dK (fq m kvs ((gQ xs ys).take j) (gQ xs ys)))) ?_ ?_ ?_ ?_⟩
  ·exact⟨none,rfl,(dO YZ).symm⟩
  ·rintro j σ H3 ⟨_,_,rfl⟩
   rw[ah (Ne.symm GR)]
   exact hd2
  ·rintro j k v σ H3 hj ⟨w,rfl,rfl⟩
   have n4:∀o',(upd (upd H2 e0 (.dK (fq m kvs ((gQ xs ys).take j) (gQ xs ys)))) d o') e0=some (.dK (fq m kvs ((gQ xs ys).take j) (gQ xs ys))):=fun o'=>by rw[ah GR];exact af
   have Y0:=fI m (gQ xs ys) ((gQ xs ys).take j) kvs
   have Kz:((gQ xs ys).take j).length≤(gQ xs ys).length:=List.length_take_le' _ _
   have Gx:=cV m (gQ xs ys) ((gQ xs ys).take j) kvs hI
   have hv:=K9.dZ (List.mem_of_getElem? hj)
   have YN:=hG k
   refine⟨_,rfl,e0,rfl, .inl ⟨_, .inl (n4 _)⟩,_,rfl,_,gk.k (k:=k) (n4 _),_,rfl,_,rfl,_,rfl,d,V.int (aG (gQ xs ys) k),rfl, .inl ⟨_,k, .inr ⟨o,af⟩,rfl,hv.symm⟩,_,_,rfl,rfl, .inr ⟨by omega,by omega⟩,_,_,Gx.at k,rfl,_,rfl,_,rfl,e0,_,rfl,lz.k (k:=k) (n4 _) (by omega),?_⟩
   refine⟨by rw[ah (Ne.symm GR)];exact af,some (kV k),rfl,?_⟩
   rw[ja GR hd2]
   unfold fq
   rw[take_snoc hj,List.foldl_append]
   rfl
  ·rintro σ H3 ⟨w,rfl,rfl⟩
   rw[List.take_length]
   exact⟨_,rfl,q e0 _ e01 af fun b o' w'=>by rw[ah (ag w' e01)];exact e2 _ _ w'⟩
variable {uC uP uI uD uL uT fg fj fk uG uS:Tok} {Ch HE Sh St:Addr}
theorem mh:ay ["text","change","lost"] ["text"] (aj kU):=dq
theorem D4 {xs ys:List Tm} (h:∀k,sumZ xs k=sumZ ys k) (ms:List Str):GU ms xs ys=[]:=by
 unfold GU yp
 rw[List.filter_map,List.map_eq_nil_iff,List.filter_eq_nil_iff]
 intro k _
 simp [Function.comp,h]
theorem yx (D:Def K mg "read_even" "read_even" kU ["text"]) (T:oJ K mg C R G Pc Fo Ch uK uN uB uE uM uC uP uI uD uL uT fg fj fk uG uS) (c1:a9 P w K mg base 14 "read_change" ["text"] (uq C G Pc Fo Ch)) (c2:aM P w K mg base 10 Ch "lost" ["self"] (GV C G Pc Fo Ch)):a9 P w K mg base 15 "read_even" ["text"] (Ak C G Pc Fo Ch):=by
 obtain⟨_,_,gf⟩:=c1
 obtain⟨_,_,iY⟩:=c2
 refine D.cY mh (fun vs H Q E h=>?_) (fun f bg A outer s H vs Q E hr h=>?_)
 ·obtain⟨x,xs,ys,rfl,_⟩:=h
  rfl
 ·obtain⟨x,xs,ys,rfl,Pf,q⟩:=h
  obtain⟨h1,h2,h3,h4,h5,h6,h7,h8,h9,SJ,h11⟩:=id Pf
  refine⟨_,(ai
     (aB (i:=1) mh.nd rfl (Or.inl rfl) (aF gf.ok (hr.mono (by decide)) rfl gf.g gf.kp gf.b .nil aA (aa (pv 0) ak)))
    (ai
     (aB (i:=2) mh.nd rfl (Or.inl rfl) (aP (pv 1) T.bY iY.m iY.ok (hr.mono (by decide)) iY.b .nil aA))
    (ai
     (bE (qo (pv 2) (fun _=>rfl))
      (ao
       gg)
      aS)
    (ao
     (aE (pv 1)))))),?_⟩
  refine⟨_,rfl,x,xs,ys,rfl,h1,h2,h3,h4,h5,h6,h7,fun c H1 nc hN e1=>?_⟩
  have hC:=hN H1 fun b o _ z=>z
  obtain⟨dx,l,r,hc,_⟩:=id hC
  refine⟨_,rfl,c,dx,_,rfl,hc,x5 _ _ (by decide+kernel) (by decide+kernel),c,xs,ys,rfl,hC,fun z hz=>?_,by rw[List.length_append];omega,h8,fun L ts ms H2 hK nL hL hP e2=>?_⟩
  ·rcases List.mem_append.mp hz with z'|z'
   ·exact h9 z z'
   ·exact SJ z z'
  rw[D4 h11] at hP
  cases hP
  have xc:H2 L=some (.lst []):=hL
  refine⟨_,rfl,false, .inl ⟨_,bS.of xc,rfl⟩,d7 ⟨_,rfl,q c H2 nc (fun cp k=>hN cp fun b o z1 z2=>k b o z1 (e2 _ _ z2)) (e1.trans e2)⟩⟩
variable {uC uP uI uD uL uT fg fj fk uG uS:Tok} {Ch HE Sh St:Addr}
structure Tn (K:PySem.W.Frag) (mg:Str→Option Value) (C R G Pc Fo Ch:Addr) (uK uN uB uE uM uC uP uI uD uL uT fg fj fk uG uS:Tok):Prop extends oJ K mg C R G Pc Fo Ch uK uN uB uE uM uC uP uI uD uL uT fg fj fk uG uS where
 To:mg "min" =none
theorem rO:∀{l:List Int},l≠[]→∃b∈l,∀a∈l,b≤a
 | [],h=>absurd rfl h
 | [x],_=>⟨x,by simp,fun a ha=>by simp at ha;omega⟩
 |x::y::r,_=>by
  obtain⟨b,hb,hle⟩:=rO (l:=y::r) (by simp)
  by_cases c:x≤b
  ·exact⟨x,by simp,fun a ha=>by
    rcases List.mem_cons.mp ha with z|z
    ·omega
    ·have:=hle a z;omega⟩
  ·exact⟨b,List.mem_cons_of_mem _ hb,fun a ha=>by
    rcases List.mem_cons.mp ha with z|z
    ·omega
    ·exact hle a z⟩
theorem oP:∀{l:List (Option Int)},l.filterMap id=[]→bo l=none
 | [],_=>rfl
 |none::r,h=>oP (l:=r) (by simpa using h)
 |some i::r,h=>by simp at h
theorem jF:∀{l:List (Option Int)} {m:Int},m∈l.filterMap id→(∀a∈l.filterMap id,m≤a)→bo l=some m
 | [],m,h,_=>by simp at h
 |none::r,m,h,h'=>jF (l:=r) (by simpa using h) (fun a ha=>h' a (by simpa using ha))
 |some i::r,m,h,h'=>by
  have hi:m≤i:=h' i (by simp)
  cases e:bo r with
  |none=>
   have er:r.filterMap id=[]:=by
    cases f:r.filterMap id with
    |nil=>rfl
    |cons a as=>
     obtain⟨b,hb,hle⟩:∃b∈r.filterMap id,∀a∈r.filterMap id,b≤a:=rO (by rw[f];simp)
     rw[jF hb hle] at e
     cases e
   have hm:m=i:=by
    simp [er] at h
    rcases h with h| ⟨h,_⟩<;>omega
   show (match bo r with|none=>some i|some j=>some (if j<i then j else i))=some m
   rw[e,hm]
  |some j=>
   have hj:∃b∈r.filterMap id,∀a∈r.filterMap id,b≤a:=by
    apply rO
    intro z
    rw[oP z] at e
    cases e
   obtain⟨b,hb,hle⟩:=hj
   have eb:j=b:=by
    have:=jF hb hle
    rw[e] at this
    exact Option.some.inj this
   subst eb
   have hmj:m≤j:=h' j (by rw[List.filterMap_cons];simp;exact .inr (by simpa using hb))
   show (match bo r with|none=>some i|some j=>some (if j<i then j else i))=some m
   rw[e]
   have NL:m=i∨m∈r.filterMap id:=by
    rw[List.filterMap_cons] at h
    simpa using h
   rcases NL with NL|NL
   ·subst NL
    dsimp only
    rw[if_neg (by omega)]
   ·have:=hle m NL
    dsimp only
    split
    ·congr 1;omega
    ·congr 1;omega
theorem iO:ay ["change","amounts","taken","gained","told"] ["change","amounts"] (aj fV):=dq
theorem K' (D:Def K mg "most_turns" "most_turns" fV ["change","amounts"]) (T:Tn K mg C R G Pc Fo Ch uK uN uB uE uM uC uP uI uD uL uT fg fj fk uG uS) (c1:a9 P w K mg base 8 "side_counts" ["terms"] (gP C G Pc Fo)) (c2:a9 P w K mg base 9 "gains" ["change"] (wx C G Pc Fo Ch)) (c3:a9 P w K mg base 1 "turns_of" ["amount","taken","gain"] ux):a9 P w K mg base 10 "most_turns" ["change","amounts"] (Ai C G Pc Fo Ch):=by
 obtain⟨_,_,aZ⟩:=c1
 obtain⟨_,_,gR⟩:=c2
 obtain⟨_,_,jG⟩:=c3
 refine D.cY iO (fun vs H Q E h=>?_) (fun f bg A outer s H vs Q E hr h=>?_)
 ·obtain⟨c,am,xs,ys,kvs,rfl,_⟩:=h
  rfl
 ·obtain⟨c,am,xs,ys,kvs,rfl,hC,hx,hy,lx,ly,hG,yw,hI,q⟩:=h
  have hu:=dn hr
  have big:(2000 :Nat)≤sizeLine:=by decide
  obtain⟨dx,l,r,hc,hl,IV⟩:=id hC
  refine⟨_,(ai
     (aB (i:=2) iO.nd rfl (Or.inr rfl) (aF aZ.ok (hr.mono (by decide)) rfl aZ.g aZ.kp aZ.b .nil aA (aa (a0 (pv 0) rfl) ak)))
    (ai
     (aB (i:=3) iO.nd rfl (Or.inr rfl) (aF gR.ok (hr.mono (by decide)) rfl gR.g gR.kp gR.b .nil aA (aa (pv 0) ak)))
    (ai
     (eM (pG (i:=4) iO.nd rfl (Or.inl rfl) (sc:=(aj fV)) (NX:=["change","amounts","taken","gained","told"]) (N:=["text","taken","amounts","gained"]) (fr:=[none,some 2,some 1,some 3]) ⟨by rfl,by rfl,by decide+kernel,by decide+kernel,by decide+kernel,by rfl,by decide+kernel⟩ rfl rfl rfl (dE (pv 2)) (fun _ _ _ _=>(aK (i:=0) (show (["text","taken","amounts","gained"]:List Str).Nodup by decide+kernel) rfl (Or.inl rfl) (Or.inr rfl))) (fun _ _ _ _=>f7) (fun _ _ _ _=>(aF jG.ok (hr.mono (by decide)) rfl jG.g jG.kp jG.b .nil aA (aa (bP hu (pv 2) (pv 0) aq ⟨rfl,rfl,rfl,rfl⟩) (aa (bN hu (pv 1) (pv 0) (fun _ _=>rfl)) (aa (bP hu (pv 3) (pv 0) aq ⟨rfl,rfl,rfl,rfl⟩) ak)))))))
    (ao
     (aE (J2 rfl rfl T.To (aa (fB (sc:=(aj fV)) (NX:=["change","amounts","taken","gained","told"]) (N:=["turns"]) (fr:=[none]) ⟨by rfl,by rfl,by decide+kernel,by decide+kernel,by decide+kernel,by rfl,by decide+kernel⟩ rfl rfl rfl (cG (pv 4)) (fun _ _ _ _=>(aK (i:=0) (show (["turns"]:List Str).Nodup by decide+kernel) rfl (Or.inl rfl) (Or.inr rfl))) (fun _ _ _ _=>(mw (gW (kE (pv 0))))) (fun _ _ _ _=>(pv 0))) ak))))))),?_⟩
  refine⟨_,rfl,c,Ch,dx,_,_,rfl,hc,T.bY,T.hV,eV _ _,l,xs,rfl,hl,hx,lx,fun tk H1 Pa jN e1=>?_⟩
  refine⟨_,rfl,c,xs,ys,rfl,hC.same e1,hx,hy,lx,ly,fun gn H2 ngn hgn e2=>?_⟩
  have uv:=e1.trans e2
  have htk2:H2 tk=some (.dK (av xs)):=e2 _ _ jN
  have K4:bu (av xs):=bQ _
  have K9:bu (gQ xs ys):=Bv _ _
  have GX:(av xs).length≤20:=by
   have:=cU (eO xs)
   have e:(eO xs).length=xs.length:=by unfold eO;rw[List.length_map]
   unfold av
   omega
  have ham2:=uv _ _ yw
  have nat:am≠tk:=ag yw Pa
  have ngt:gn≠tk:=Ne.symm (ag jN ngn)
  refine⟨_,rfl,tk,av xs,rfl,htk2,fun o nf L hL=>?_⟩
  have QW:L≠tk:=fun z=>by rw[z,af] at hL;cases hL
  have xc:H2 L=none:=by rwa [ah QW] at hL
  refine kN (a:=tk) (D:=L) (kvs:=av xs) (fun i σ H'=>∃v:Option V,σ=[v,some (.ref tk),some (.ref am),some (.ref gn)]∧H' tk=some (.eC o (.dK (av xs)))∧H' L=some (.lst (((av xs).take i).map fun q=>oV (iX (aG kvs q.1) (aG (av xs) q.1) (aG (gQ xs ys) q.1))))∧∀b o',H2 b=some o'→b≠tk→H' b=some o') ?_ (fun i σ H' ⟨_,_,z,_⟩=>z) ?_ ?_
  ·exact⟨none,rfl,by rw[ah (Ne.symm QW),af],af,fun b o' z hb=>by rw[ah (ag z xc),ah hb];exact z⟩
  ·rintro i k v σ H' hi ⟨v',rfl,f1,f2,f3⟩ N hN
   have hv:=K4.dZ (List.mem_of_getElem? hi)
   have ha:=f3 _ _ ham2 nat
   have hg:=f3 _ _ hgn ngt
   have yM:=(List.getElem?_eq_some_iff.mp hi).1
   refine⟨_,rfl,am,rfl, .inl ⟨_, .inl ha⟩,_,rfl,_,gk.k (k:=k) ha,_,rfl,_,rfl,tk,V.int (aG (av xs) k),rfl, .inl ⟨_,k, .inr ⟨o,f1⟩,rfl,hv.symm⟩,_,rfl,gn,rfl, .inl ⟨_, .inl hg⟩,_,rfl,_,gk.k (k:=k) hg,?_⟩
   rw[hI.at k,K9.at k]
   refine⟨aG kvs k,aG (av xs) k,aG (gQ xs ys) k,rfl,(hG k).1,_,f2,by rw[List.length_map,List.length_take];omega,hN _ _ ⟨_,rfl,by rw[ah (Ne.symm QW)];exact f1,?_,fun b o' z hb=>by rw[ah (ag z xc)];exact f3 b o' z hb⟩⟩
   rw[af,take_snoc hi,List.map_append]
   rfl
  rintro σ H' ⟨v',rfl,f1,f2,f3⟩
  rw[List.take_length] at f2
  refine⟨tk,o,av xs,f1,nf,?_⟩
  have s3:au H (upd H' tk (.dK (av xs))):=fun b o' z=>by
   have nb:b≠tk:=ag z Pa
   rw[ah nb]
   exact f3 _ _ (uv _ _ z) nb
  have nu:(upd H' tk (.dK (av xs))) L=some (.lst ((av xs).map fun q=>oV (iX (aG kvs q.1) (aG (av xs) q.1) (aG (gQ xs ys) q.1)))):=by rw[ah QW];exact f2
  have em:lL kvs xs ys=bo ((av xs).map fun q=>iX (aG kvs q.1) (aG (av xs) q.1) (aG (gQ xs ys) q.1)):=rfl
  have eo:((av xs).map fun q=>oV (iX (aG kvs q.1) (aG (av xs) q.1) (aG (gQ xs ys) q.1)))=((av xs).map fun q=>iX (aG kvs q.1) (aG (av xs) q.1) (aG (gQ xs ys) q.1)).map oV:=by rw[List.map_map];rfl
  rw[eo] at nu
  have hol:((av xs).map fun q=>iX (aG kvs q.1) (aG (av xs) q.1) (aG (gQ xs ys) q.1)).length≤20:=by rw[List.length_map];exact GX
  rw[em] at q
  generalize ((av xs).map fun q=>iX (aG kvs q.1) (aG (av xs) q.1) (aG (gQ xs ys) q.1))=os at nu hol q
  generalize upd H' tk (.dK (av xs))=H3 at s3 nu ⊢
  have hlen:∀i,((os.take i).filterMap id).length≤i:=fun i=>Nat.le_trans (List.length_filterMap_le _ _) (by rw[List.length_take];omega)
  refine⟨_,rfl,L,rfl,⟨_,bS.of nu⟩,fun M hM=>tG (K:=K) (a:=L) (L:=M) (xs:=os.map oV) H3 (fun σ=>∃v:Option V,σ=[v]) (fun i ys=>ys=((os.take i).filterMap id).map V.int) (bS.of nu) hM ⟨none,rfl⟩ (au.new hM) af rfl (by rw[List.length_map];omega) ?_ ?_ ?_⟩
  ·rintro i ys rfl
   rw[List.length_map]
   exact hlen i
  ·rintro i v σ H5 ys hi ⟨w,rfl⟩ e5 Tp rfl N M' hN hM'
   rw[List.getElem?_map] at hi
   obtain⟨z,hz,rfl⟩:∃z,os[i]? =some z∧v=oV z:=by
    cases hh:os[i]? with
    |none=>rw[hh] at hi;cases hi
    |some z=>rw[hh] at hi;exact⟨z,rfl,(Option.some.inj hi).symm⟩
   cases z with
   |none=>
    refine⟨_,rfl,_,rfl,d7 (hM' _ _ ⟨_,rfl⟩ e5 Tp ?_)⟩
    rw[take_snoc hz,List.filterMap_append]
    simp
   |some j=>
    refine⟨_,rfl,_,rfl,eQ ⟨_,rfl,hN _ _ _ ⟨_,rfl⟩ e5 Tp ?_⟩⟩
    rw[take_snoc hz,List.filterMap_append,List.map_append]
    rfl
  ·rintro H5 ys e5 Tp rfl
   rw[List.length_map,List.take_length] at Tp
   refine⟨M,os.filterMap id,rfl,bS.of Tp,fun h0=>?_,fun m hm hle=>?_⟩
   ·have:=q H5 (s3.trans e5)
    rw[oP h0] at this
    exact this
   ·have:=q H5 (s3.trans e5)
    rw[jF hm hle] at this
    exact this
variable {uC uP uI uD uL uT fg fj fk uG uS:Tok} {Ch HE Sh St:Addr}
inductive Hd (vs:List V) (H:Hp) (Q:VK) (E:XK):Prop
 |mk (l:Addr) (xs:List Tm) (dU:vs=[.ref l]) (dW:cN H l xs) (d5:(∀x∈xs,cT x.2)) (fe:xs.length≤20) (gH:∀e H',H e=none→H' e=some (.dK (av xs))→au H H'→Q (.ref e) H')
def BN:Sp:=Hd
theorem qc:ay ["_law_terms","_law_found","_law_count_here","_law_formula"] ["_law_terms"] (aj vE):=dq
theorem He (D:Def K mg "_law_asked" "_law_asked" vE ["_law_terms"]):a9 P w K mg base 1 "_law_asked" ["_law_terms"] BN:=by
 refine D.cY qc (fun vs H Q E h=>?_) (fun f bg A outer s H vs Q E hr h=>?_)
 ·obtain⟨l,xs,rfl,_⟩:=h
  rfl
 ·obtain⟨l,xs,rfl,⟨ts,hl,hP⟩,aX,YW,q⟩:=h
  have hu:=dn hr
  have big:(2000 :Nat) <sizeLine:=by decide
  have iu:=Paired.length hP
  refine⟨_,(ai
     (aB (i:=1) qc.nd rfl (Or.inl rfl) dN)
    (ai
     (cq PassesOwn.never rfl (cG (pv 0)) (gB rfl (a6 (aK (i:=2) qc.nd rfl (Or.inl rfl)) (a6 (aK (i:=3) qc.nd rfl (Or.inl rfl)) dC)))
      (ao
       (dX hu (pv 1) (cF jV (pv 3) aq (fun _ _=>rfl)) (az bO (bP hu (pv 1) (cF jV (pv 3) aq (fun _ _=>rfl)) aq ⟨rfl,rfl,rfl,rfl⟩) (pv 2)) rfl)))
    (ao
     (aE (pv 1))))),?_⟩
  refine fun d hd=>?_
  have sD:=au.new (o:= .dK []) hd
  refine⟨_,rfl,l,rfl,⟨_,bS.of (sD _ _ hl)⟩,eF (K:=K) (a:=l) (xs:=ts.map V.ref) (fun i σ H'=>∃v2 v3:Option V,σ=[some (.ref l),some (.ref d),v2,v3]∧H' d=some (.dK (a7 1 [] (eO (xs.take i))))∧au H H') ?_ (fun i σ H' _ ⟨_,_,_,_,z⟩=>bS.of (z _ _ hl)) ?_ ?_⟩
  ·exact⟨none,none,rfl,af,sD⟩
  ·rintro i v σ H' hi ⟨v2,v3,rfl,gA,e⟩
   rw[List.getElem?_map] at hi
   obtain⟨t,ht,rfl⟩:∃p,ts[i]? =some p∧v=V.ref p:=by
    cases hh:ts[i]? with
    |none=>rw[hh] at hi;cases hi
    |some p=>rw[hh] at hi;exact⟨p,rfl,(Option.some.inj hi).symm⟩
   obtain⟨y,hy,fo,h1,cd,h2,_⟩:=bI hP ht
   have hI:bu (a7 1 [] (eO (xs.take i))):=iH 1 _ _ fun p hp=>by cases hp
   have lB:=iI 1 (eO (xs.take i)) []
   have YX:(eO (xs.take i)).length≤20:=by unfold eO;rw[List.length_map,List.length_take];omega
   rw[List.length_nil] at lB
   refine⟨t,_,rfl,jL.of (e _ _ h1),rfl,_,_,rfl,_,_,rfl,rfl,?_⟩
   refine⟨_,rfl,d,rfl, .inl ⟨_, .inl gA⟩,_,rfl,fo,_,_,_,rfl,rfl,jL.of (e _ _ h2),rfl,_,gk.k (k:=Sum.inr ⟨(fL y.2).toArray⟩) gA,_,rfl,_,_,hI.at _,rfl,_,rfl,_,rfl,fo,_,_,_,rfl,rfl,jL.of (e _ _ h2),rfl,d,_,rfl,lz.k (k:=Sum.inr ⟨(fL y.2).toArray⟩) gA (by omega),?_⟩
   refine⟨_,_,rfl,?_,fun b o z=>?_⟩
   ·rw[af,yj hy]
    rfl
   ·rw[ah (ag z hd)]
    exact e _ _ z
  ·rintro σ H' ⟨v2,v3,rfl,gA,e⟩
   rw[List.length_map,iu,List.take_length] at gA
   exact⟨_,rfl,q d H' hd gA e⟩
variable {uC uP uI uD uL uT:Tok} {St:Addr}
def BO (H:Hp) (l:Addr) (ws:List Fm):Prop:=∃ts:List Addr,H l=some (.lst (ts.map V.ref))∧Paired (x3 H) ts ws
inductive Hf (K:PySem.W.Frag) (vs:List V) (H:Hp) (Q:VK) (E:XK):Prop
 |mk (a:Addr) (ns:List Int) (dU:vs=[.ref a]) (dW:bS K H a (ns.map V.int)) (d5:ns.length≤63) (fe:∀(l:Addr) (ws:List Fm) H',BO H' l ws→(∀w∈ws,cT w)→(∀w∈ws,(cW 1 w.1).length≤3)→ws.length=3→au H H'→Q (.ref l) H')
def BP (K:PySem.W.Frag):Sp:=Hf K
theorem BQ:ay ["_law_script","_law_kinds"] ["_law_script"] (aj oh):=dq
theorem Hg (D:Def K mg "_law_world" "_law_world" oh ["_law_script"]) (T:wB K mg C R G Pc Fo St uK uN uB uE uM uC uP uI uD uL uT) (c1:a9 P w K mg base 1 "_law_cell_at" ["_law_script","_law_k"] (mW K)) (c2:a9 P w K mg base 1 "_law_mixed" ["_law_cell","_law_prime"] Mw) (c3:a9 P w K mg base 1 "_law_kind" ["_law_number"] Bk) (c4:a9 P w K mg base 2 "_law_matter" ["_law_cell","_law_kinds"] yt):
  a9 P w K mg base 3 "_law_world" ["_law_script"] (BP K):=by
 obtain⟨_,_,aI⟩:=c1
 obtain⟨_,_,eW⟩:=c2
 obtain⟨_,_,nB⟩:=c3
 obtain⟨_,_,jH⟩:=c4
 refine D.cY BQ (fun vs H Q E h=>?_) (fun f bg A outer s H vs Q E hr h=>?_)
 ·obtain⟨a,ns,rfl,_⟩:=h
  rfl
 ·obtain⟨a,ns,rfl,hS,hlen,q⟩:=h
  have hu:=dn hr
  have hu0:=hr.uZ
  have big:(2000 :Nat)≤sizeLine:=by decide
  refine⟨_,(ai
     (aB (i:=1) BQ.nd rfl (Or.inr rfl) (fB (sc:=(aj oh)) (NX:=["_law_script","_law_kinds"]) (N:=["_law_k","_law_script"]) (fr:=[none,some 0]) ⟨by rfl,by rfl,by decide+kernel,by decide+kernel,by decide+kernel,by rfl,by decide+kernel⟩ rfl rfl rfl (kF rfl T.pR (aa aq ak)) (fun _ _ _ _=>(aK (i:=0) (show (["_law_k","_law_script"]:List Str).Nodup by decide+kernel) rfl (Or.inl rfl) (Or.inr rfl))) (fun _ _ _ _=>f7) (fun _ _ _ _=>(aF nB.ok (hr.mono (by decide)) rfl nB.g nB.kp nB.b .nil aA (aa (aF eW.ok (hr.mono (by decide)) rfl eW.g eW.kp eW.b .nil aA (aa (aF aI.ok (hr.mono (by decide)) rfl aI.g aI.kp aI.b .nil aA (aa (pv 1) (aa (pv 0) ak))) (aa aq ak))) ak)))))
    (ao
     (aE (fB (sc:=(aj oh)) (NX:=["_law_script","_law_kinds"]) (N:=["_law_k","_law_kinds","_law_script"]) (fr:=[none,some 1,some 0]) ⟨by rfl,by rfl,by decide+kernel,by decide+kernel,by decide+kernel,by rfl,by decide+kernel⟩ rfl rfl rfl (kF rfl T.pR (aa aq ak)) (fun _ _ _ _=>(aK (i:=0) (show (["_law_k","_law_kinds","_law_script"]:List Str).Nodup by decide+kernel) rfl (Or.inl rfl) (Or.inr rfl))) (fun _ _ _ _=>f7) (fun _ _ _ _=>(aF jH.ok (hr.mono (by decide)) rfl jH.g jH.kp jH.b .nil aA (aa (aF eW.ok (hr.mono (by decide)) rfl eW.g eW.kp eW.b .nil aA (aa (aF aI.ok (hr.mono (by decide)) rfl aI.g aI.kp aI.b .nil aA (aa (pv 2) (aa (az bO aq (pv 0)) ak))) (aa aq ak))) (aa (pv 1) ak)))))))),?_⟩
  refine⟨_,rfl,by decide,by decide,fun L hL=>E9 (L:=L) H (fun σ=>∃v:Option V,σ=[v,some (.ref a)]) (fun i ys=>∃ks:List (List Nat),ys=ks.map (fun k=>V.str ⟨k.toArray⟩)∧ks.length=i∧∀k∈ks,lY k) hL ⟨none,rfl⟩ (au.new hL) af ⟨[],rfl,rfl,fun k hk=>by cases hk⟩ (by decide) ?_ ?_ ?_⟩
  ·rintro i ys ⟨ks,rfl,e,_⟩
   rw[List.length_map,e];exact Nat.le_refl _
  ·rintro i σ H2 ys hi ⟨v,rfl⟩ e2 sx ⟨ks,rfl,lB,yO⟩ N M hN
   refine⟨_,rfl,_,rfl,a,ns,i,by rw[Int.zero_add];rfl,e2.seq hS,hlen,fun n=>⟨n,1000003,rfl,by decide,by decide,fun n2=>⟨n2,rfl,fun k H3 hk e3=>?_⟩⟩⟩
   refine hN _ _ _ ⟨_,rfl⟩ (e2.trans e3) (e3 _ _ sx) ⟨ks++[k],by rw[List.map_append];rfl,by rw[List.length_append,lB];rfl,fun k' FD=>?_⟩
   rcases List.mem_append.mp FD with z|z
   ·exact yO k' z
   ·have:k'=k:=by simpa using z
    rw[this];exact hk
  rintro H2 ys e2 sx ⟨ks,rfl,lB,yO⟩
  obtain⟨k0,k1,k2,rfl⟩:∃k0 k1 k2,ks=[k0,k1,k2]:=by
   match ks,lB with
   | [k0,k1,k2],_=>exact⟨k0,k1,k2,rfl⟩
  have hk0:=yO k0 (by simp)
  have hk1:=yO k1 (by simp)
  have QX:=yO k2 (by simp)
  refine⟨_,rfl,by decide,by decide,fun L3 nu=>CP (L:=L3) H2 (fun σ=>∃v:Option V,σ=[v,some (.ref L),some (.ref a)]) (fun i ys H'=>∃(ts ds:List Addr) (ws:List Fm),ys=ts.map V.ref∧ts.length=i∧(∀w∈ws,cT w)∧(∀w∈ws,(cW 1 w.1).length≤3)∧Paired (fun t x=>t≠L3∧∃d,d≠L3∧H' t=some (.tup [.str ⟨(fL x).toArray⟩, .ref d, .int x.2])∧H' d=some (.dK (cW 1 x.1))) ts ws) ?_ nu ⟨none,rfl⟩ (au.new nu) af ⟨[],[],[],rfl,rfl,(fun k hk=>by cases hk),(fun k hk=>by cases hk), .nil⟩ (by decide) ?_ ?_ ?_⟩
  ·rintro i ys Ha Hb hb ⟨ts,ds,ws,h1,h2,h3,h3',h4⟩
   exact⟨ts,ds,ws,h1,h2,h3,h3',aL (fun t x ⟨n1,d,n2,z1,z2⟩=>⟨n1,d,n2,hb _ _ z1 n1,hb _ _ z2 n2⟩) h4⟩
  ·rintro i ys H' ⟨ts,ds,ws,rfl,h2,_⟩
   rw[List.length_map,h2];exact Nat.le_refl _
  ·rintro i σ H5 ys hi ⟨v,rfl⟩ e5 sy ⟨ts,ds,ws,rfl,GX,aX,An,hP⟩ N M hN
   have ek:(3 :Int)+(0+(i:Int))=((3+i:Nat):Int):=by omega
   refine⟨_,rfl,_,rfl,_,_,rfl,rfl,a,ns,3+i,by rw[←ek];rfl,e5.seq (e2.seq hS),hlen,fun n=>⟨n,1000033,rfl,by decide,by decide,fun n2=>⟨_,rfl,n2,L,k0,k1,k2,rfl,e5 _ _ sx,hk0,hk1,QX,fun t x H6 iN Pg hF e6=>?_⟩⟩⟩
   obtain⟨d,h1,h2⟩:=hF
   have Kn:=e6 _ _ sy
   refine hN _ _ _ ⟨_,rfl⟩ (e5.trans e6) Kn ⟨ts++[t],ds,ws++[x],by rw[List.map_append];rfl,by rw[List.length_append,GX];rfl,fun w hw=>?_,fun w hw=>?_,?_⟩
   ·rcases List.mem_append.mp hw with z|z
    ·exact aX w z
    ·have:w=x:=by simpa using z
     rw[this];exact iN
   ·rcases List.mem_append.mp hw with z|z
    ·exact An w z
    ·have:w=x:=by simpa using z
     rw[this];exact Pg
   ·exact bK ⟨cD h1 Kn (by intro z;cases z),d,cD h2 Kn (by intro z;cases z),h1,h2⟩ (aL (fun t x ⟨n1,d,n2,z1,z2⟩=>⟨n1,d,n2,e6 _ _ z1,e6 _ _ z2⟩) hP)
  ·rintro H5 ys e5 sy ⟨ts,ds,ws,rfl,GX,aX,An,hP⟩
   refine q L3 ws H5 ⟨ts,sy,aL (fun t x ⟨n1,d,n2,z1,z2⟩=>⟨d,z1,z2⟩) hP⟩ aX An ?_ (e2.trans e5)
   rw[←Paired.length hP,GX];rfl
theorem La (kvs:List (Key×V)) (k:Key) (v:V):k∈(putK kvs k v).map (·.1):=by
 unfold putK
 split
 ·rename_i h
  obtain⟨q,hq,e⟩:=List.any_eq_true.mp h
  have e:q.1=k:=by simpa using e
  exact List.mem_map.mpr ⟨(q.1,v),List.mem_map.mpr ⟨q,hq,by rw[if_pos e]⟩,e⟩
 ·rw[List.map_append]
  exact List.mem_append_right _ (by simp)
theorem Hh {kvs:List (Key×V)} {k j:Key} {v:V} (h:j∈kvs.map (·.1)):j∈(putK kvs k v).map (·.1):=by
 obtain⟨q,hq,rfl⟩:=List.mem_map.mp h
 unfold putK
 split
 ·refine List.mem_map.mpr ⟨if q.1=k then (q.1,v) else q,List.mem_map.mpr ⟨q,hq,rfl⟩,?_⟩
  split<;>rfl
 ·rw[List.map_append]
  exact List.mem_append_left _ (List.mem_map_of_mem hq)
theorem bu.wI {kvs:List (Key×V)} (h:bu kvs) {k:Key} (hm:k∈kvs.map (·.1)):bX kvs k=some (.int (aG kvs k)):=by
 obtain⟨⟨k',v⟩,hp,e⟩:=List.mem_map.mp hm
 have e:k'=k:=e
 subst e
 exact h.dZ hp
variable {uC uP uI uD uL uT:Tok} {St:Addr}
inductive Lb (vs:List V) (H:Hp) (Q:VK) (E:XK):Prop
 |mk (e d:Addr) (kvs:List (Key×V)) (dU:vs=[.ref e, .ref d]) (dW:H e=some (.dK (lD kvs))) (d5:H d=some (.dK kvs)) (fe:e≠d) (gH:bu kvs) (jb:(kvs.map (·.1)).Nodup) (nM:kvs.length≤900) (su:∀H',au H H'→Q (.bl true) H')
def Hi:Sp:=Lb
theorem rP:ay ["_law_found","_law_due","_law_text_here"] ["_law_found","_law_due"] (aj i7):=dq
theorem Ph {kvs:List (Key×V)} (hn:(kvs.map (·.1)).Nodup):((lD kvs).map (·.1)).Nodup:=(List.filter_sublist.map _).nodup hn
theorem Lc (D:Def K mg "_law_amounts" "_law_amounts" i7 ["_law_found","_law_due"]) (T:wB K mg C R G Pc Fo St uK uN uB uE uM uC uP uI uD uL uT) (c1:a9 P w K mg base 1 "_law_whole" ["_law_found"] pQ):a9 P w K mg base 2 "_law_amounts" ["_law_found","_law_due"] Hi:=by
 obtain⟨_,_,bM⟩:=c1
 refine D.cY rP (fun vs H Q E h=>?_) (fun f bg A outer s H vs Q E hr h=>?_)
 ·obtain⟨e,d,kvs,rfl,_⟩:=h
  rfl
 ·obtain⟨e,d,kvs,rfl,he,hd,GR,hI,hn,hl,q⟩:=h
  have hu:=dn hr
  have hu0:=hr.uZ
  have big:(2000 :Nat)≤sizeLine:=by decide
  refine⟨_,(ai
     (bE (nR (jT (cj jW rfl T.jr iR (aa (pv 0) (aa (uW (v:= .ty "dict") rfl T.jA iC rfl) ak)))))
      (ao
       (aE AD))
      aS)
    (ai
     (eM (cq PassesOwn.never rfl (dE (pv 0)) (aK (i:=2) rP.nd rfl (Or.inl rfl))
      (ao
       (bE (PW.pt (oU (nR (jT (aF bM.ok (hr.mono (by decide)) rfl bM.g bM.kp bM.b .nil aA (aa (bN hu (pv 0) (pv 2) (fun _ _=>rfl)) ak)))) (oU (aO qk (bN hu (pv 0) (pv 2) (fun _ _=>rfl)) (bP hu (pv 1) (pv 2) aq ⟨rfl,rfl,rfl,rfl⟩) (aQ _)) (lS (aO lG (bN hu (pv 0) (pv 2) (fun _ _=>rfl)) aq (aQ _))))))
        (ao
         (aE AD))
        aS))))
    (ao
     (aE (kG dJ (cj zf rfl T.mX jm (aa (pv 0) ak)) (cj fy rfl T.mX jm (aa (pF (fB (sc:=(aj i7)) (NX:=["_law_found","_law_due","_law_text_here"]) (N:=["_law_text_here","_law_due"]) (fr:=[none,some 1]) ⟨by rfl,by rfl,by decide+kernel,by decide+kernel,by decide+kernel,by rfl,by decide+kernel⟩ rfl rfl rfl (dE (pv 1)) (fun _ _ _ _=>(aK (i:=0) (show (["_law_text_here","_law_due"]:List Str).Nodup by decide+kernel) rfl (Or.inl rfl) (Or.inr rfl))) (fun _ _ _ _=>(mw (aO jM (bN hu (pv 1) (pv 0) (fun _ _=>rfl)) aq (aQ _)))) (fun _ _ _ _=>(pv 0)))) ak)) (aQ _)))))),?_⟩
  refine⟨_,rfl,_,_,_,_,_,rfl,rfl, .dK he,T.k3,_,rfl,d7 ?_⟩
  have hIp:bu (lD kvs):=fun p hp=>hI p ((List.mem_filter.mp hp).1)
  refine⟨_,rfl,e,lD kvs,rfl,he,fun o nf=>fA nf (fun i σ H'=>∃v:Option V,σ=[some (.ref e),some (.ref d),v]∧H'=H) ⟨none,rfl,rfl⟩ (fun i σ H' ⟨_,_,z⟩=>by rw[z];exact he) ?_ ?_⟩
  ·rintro i k v σ H' hi ⟨v2,rfl,rfl⟩
   have hm:=List.mem_of_getElem? hi
   obtain⟨z,ez⟩:=hIp _ hm
   have ez:v=V.int z:=ez
   subst ez
   have hz0:0<z:=by
    have:=(List.mem_filter.mp hm).2
    exact of_decide_eq_true this
   have hzk:aG kvs k=z:=BE hn ((List.mem_filter.mp hm).1)
   have hv:bX (lD kvs) k=some (V.int z):=gZ (Ph hn) hm
   have gA:(upd H' e (.eC o (.dK (lD kvs)))) d=some (.dK kvs):=by rw[ah (Ne.symm GR)];exact hd
   have hg:=hI.at k
   rw[hzk] at hg
   refine⟨_,rfl,_,rfl,e,V.int z,rfl, .inl ⟨_,k, .inr ⟨o,af⟩,rfl,hv.symm⟩,z,rfl,_,rfl,d7 ?_⟩
   refine⟨_,rfl,_,rfl,e,V.int z,rfl, .inl ⟨_,k, .inr ⟨o,af⟩,rfl,hv.symm⟩,_,rfl,d,rfl, .inl ⟨_, .inl gA⟩,_,rfl,_,gk.k (k:=k) gA,?_⟩
   rw[hg]
   refine⟨rfl,_,rfl,E1 rfl ⟨_,rfl,_,rfl,e,V.int z,rfl, .inl ⟨_,k, .inr ⟨o,af⟩,rfl,hv.symm⟩,_,_,rfl,rfl,_,rfl,dY (fun ec=>?_) fun _=>?_⟩⟩
   ·have ec:z<1:=by simpa using ec
    omega
   ·exact⟨af,some (kV k),rfl,by rw[jc,dO he]⟩
  ·rintro σ H' ⟨v,rfl,rfl⟩
   refine⟨_,rfl,e,lD kvs,rfl, .inl he,_,rfl,d,kvs,rfl,hd,fun o nf L hL=>?_⟩
   have QV:L≠d:=fun z=>by rw[z,af] at hL;cases hL
   have xc:H' L=none:=by rwa [ah QV] at hL
   refine kN (a:=d) (D:=L) (kvs:=kvs) (fun i σ H2=>∃(v:Option V) (ys:List V),σ=[v,some (.ref d)]∧H2 d=some (.eC o (.dK kvs))∧H2 L=some (.lst ys)∧ys.length=(lD (kvs.take i)).length∧∀b o',H' b=some o'→b≠d→H2 b=some o') ?_ (fun i σ H2 ⟨_,_,_,z,_⟩=>z) ?_ ?_
   ·exact⟨none,[],rfl,by rw[ah (Ne.symm QV),af],af,rfl,fun b o' z hb=>by rw[ah (ag z xc),ah hb];exact z⟩
   ·rintro i k v σ H2 hi ⟨v',ys,rfl,f1,f2,f4,f5⟩ N hN
    have hm:=List.mem_of_getElem? hi
    obtain⟨z,ez⟩:=hI _ hm
    have ez:v=V.int z:=ez
    subst ez
    have hv:bX kvs k=some (V.int z):=gZ hn hm
    have yM:=(List.getElem?_eq_some_iff.mp hi).1
    have hyl:=BH (kvs.take i)
    rw[List.length_take] at hyl
    refine⟨_,rfl,_,rfl,d,V.int z,rfl, .inl ⟨_,k, .inr ⟨o,f1⟩,rfl,hv.symm⟩,_,_,rfl,rfl,_,rfl,dY (fun ec=>?_) fun ec=>?_⟩
    ·have ec:0<z:=by simpa using ec
     refine⟨_,rfl,_,f2,by omega,hN _ _ ⟨_,ys++[kV k],rfl,by rw[ah (Ne.symm QV)];exact f1,af,?_,fun b o' z' hb=>by rw[ah (ag z' xc)];exact f5 b o' z' hb⟩⟩
     unfold lD at f4 ⊢
     rw[List.length_append,f4,take_snoc hi,List.filter_append,show [(k,V.int z)].filter (fun q=>decide (0<zv q.2))=[(k,V.int z)] by simp [zv,ec],List.length_append]
     rfl
    ·have ec:¬0<z:=by simpa using ec
     refine hN _ _ ⟨_,ys,rfl,f1,f2,?_,f5⟩
     unfold lD at f4 ⊢
     rw[f4,take_snoc hi,List.filter_append,show [(k,V.int z)].filter (fun q=>decide (0<zv q.2))=[] by simp [zv,ec],List.append_nil]
   ·rintro σ H2 ⟨v',ys,rfl,f1,f2,f4,f5⟩
    rw[List.take_length] at f4
    refine⟨d,o,kvs,f1,nf,L,ys,rfl, .inl (bS.of (by rw[ah QV];exact f2)),rfl,?_⟩
    rw[f4,decide_eq_true rfl]
    refine q _ fun b o' z'=>?_
    by_cases bd:b=d
    ·subst bd
     rw[af]
     rw[hd] at z'
     exact z'
    ·rw[ah bd]
     exact f5 _ _ z' bd
variable {uC uP uI uD uL uT fg fj fk uG uS:Tok} {Ch HE Sh St:Addr}
theorem tm_at (y:Tm):xv [V.str ((toString y.1 :Str)++" " ++⟨(fL y.2).toArray⟩),V.str ⟨(fL y.2).toArray⟩] (if decide (V.int y.1=V.int 1)=true then 1 else 0)=some (V.str (ro y)):=by
 unfold ro
 by_cases h:y.1=1
 ·rw[if_pos (decide_eq_true (by rw[h])),if_pos h]
  rfl
 ·rw[if_neg (by simpa using h),if_neg h]
  rfl
inductive Hj (vs:List V) (H:Hp) (Q:VK) (E:XK):Prop
 |mk (l r:Addr) (xs ys:List Tm) (dU:vs=[.ref l, .ref r]) (dW:cN H l xs) (d5:cN H r ys) (fe:(∀x∈xs,iz (10^40) x)) (gH:(∀y∈ys,iz (10^40) y)) (jb:xs.length≤10) (nM:ys.length≤10) (su:∀H',au H H'→Q (.str (Txt.join " -> " [ug xs,ug ys])) H')
def BR:Sp:=Hj
theorem oQ:ay ["_law_lefts","_law_rights","_law_sides","_law_side","_law_texts","_law_count_here","_law_formula"] ["_law_lefts","_law_rights"] (aj A1):=dq
theorem Hk (D:Def K mg "_law_text" "_law_text" A1 ["_law_lefts","_law_rights"]) (T:om K mg C):a9 P w K mg base 1 "_law_text" ["_law_lefts","_law_rights"] BR:=by
 refine D.cY oQ (fun vs H Q E h=>?_) (fun f bg A outer s H vs Q E hr h=>?_)
 ·obtain⟨l,r,xs,ys,rfl,_⟩:=h
  rfl
 ·obtain⟨l,r,xs,ys,rfl,hxs,CO,iN,km,lx,ly,q⟩:=h
  have big:(2000 :Nat)≤sizeLine:=by decide
  have hS:Paired (fun a s=>cN H a s∧(∀x∈s,iz (10^40) x)∧s.length≤10) [l,r] [xs,ys]:= .cons ⟨hxs,iN,lx⟩ (.cons ⟨CO,km,ly⟩ .nil)
  refine⟨_,(ai
     (aB (i:=2) oQ.nd rfl (Or.inl rfl) (cu ak))
    (ai
     (cq PassesOwn.never rfl (cG (cu (aa (pv 0) (aa (pv 1) ak)))) (aK (i:=3) oQ.nd rfl (Or.inl rfl))
      (ai
       (aB (i:=4) oQ.nd rfl (Or.inl rfl) (cu ak))
      (ai
       (cq PassesOwn.never rfl (cG (pv 3)) (gB rfl (a6 (aK (i:=5) oQ.nd rfl (Or.inl rfl)) (a6 (aK (i:=6) oQ.nd rfl (Or.inl rfl)) dC)))
        (ao
         (bw (iB PySem.F.plainAttrs_list PySem.F.slot_list_append PySem.F.type_list_append dv (pv 4) (aa (cF cH (cu (aa (az br (az br (bC jh rfl T.FK zj (aa (pv 5) ak)) bG) (cF jV (pv 6) aq (fun _ _=>rfl))) (aa (cF jV (pv 6) aq (fun _ _=>rfl)) ak))) (bC kH rfl T.tM n5 (aa (kG dJ (pv 5) aq (aQ _)) ak)) (fun _ _=>rfl)) ak)))))
      (ao
       (bw (iB PySem.F.plainAttrs_list PySem.F.slot_list_append PySem.F.type_list_append dv (pv 2) (aa (iB PySem.F.plainAttrs_str PySem.F.slot_str_join PySem.F.type_str_join pH bG (aa (pv 4) ak)) ak)))))))
    (ao
     (aE (iB PySem.F.plainAttrs_str PySem.F.slot_str_join PySem.F.type_str_join pH bG (aa (pv 2) ak)))))),?_⟩
  refine⟨(by show 0≤sizeLine;decide),fun D1 hD1=>?_⟩
  have sD:=au.new (o:= .lst []) hD1
  refine⟨_,rfl,_,rfl,(by show 2≤sizeLine;decide),fun Z hZ=>?_⟩
  have sZ:=au.new (o:= .lst [.ref l, .ref r]) hZ
  have IW:(upd (upd H D1 (.lst [])) Z (.lst [.ref l, .ref r])) D1=some (.lst []):=sZ _ _ af
  have hZ2:(upd (upd H D1 (.lst [])) Z (.lst [.ref l, .ref r])) Z=some (.lst [.ref l, .ref r]):=af
  have s2:=sD.trans sZ
  have nZD:Z≠D1:=fun z=>by rw[z,af] at hZ;cases hZ
  have hZH:H Z=none:=none_back sD hZ
  generalize upd (upd H D1 (.lst [])) Z (.lst [.ref l, .ref r])=H2 at IW hZ2 s2 ⊢
  refine⟨Z,rfl,⟨_,bS.of hZ2⟩,eF (K:=K) (a:=Z) (xs:=[l,r].map V.ref) (fun i σ H'=>∃v3 v4 v5 v6:Option V,σ=[some (.ref l),some (.ref r),some (.ref D1),v3,v4,v5,v6]∧H' D1=some (.lst ((([xs,ys]:List (List Tm)).take i).map fun s=>V.str (ug s)))∧H' Z=some (.lst [.ref l, .ref r])∧au H H') ?_ (fun i σ H' _ ⟨_,_,_,_,_,_,z,_⟩=>bS.of z) ?_ ?_⟩
  ·exact⟨none,none,none,none,rfl,IW,hZ2,s2⟩
  ·rintro i v σ H' hi ⟨v3,v4,v5,v6,rfl,Bj,hZ',e⟩
   rw[List.getElem?_map] at hi
   obtain⟨a,ha,rfl⟩:∃p,[l,r][i]? =some p∧v=V.ref p:=by
    cases hh:[l,r][i]? with
    |none=>rw[hh] at hi;cases hi
    |some p=>rw[hh] at hi;exact⟨p,rfl,(Option.some.inj hi).symm⟩
   obtain⟨sd,hsd,⟨ts,hl,hP⟩,aX,SJ⟩:=bI hS ha
   have iu:=Paired.length hP
   have yM:i<2:=(List.getElem?_eq_some_iff.mp hsd).1
   refine⟨(by show 0≤sizeLine;decide),fun D2 Ld=>?_⟩
   have sE:=au.new (o:= .lst []) Ld
   have nD12:D1≠D2:=ag Bj Ld
   have nZ2:Z≠D2:=ag hZ' Ld
   have hD2H:H D2=none:=none_back e Ld
   dsimp only [dB]
   refine⟨_,rfl,a,rfl,⟨_,bS.of (sE _ _ (e _ _ hl))⟩,eF (K:=K) (a:=a) (xs:=ts.map V.ref) (fun j σ H3=>∃w5 w6:Option V,σ=[some (.ref l),some (.ref r),some (.ref D1),some (.ref a),some (.ref D2),w5,w6]∧H3 D2=some (.lst ((sd.take j).map fun x=>V.str (ro x)))∧H3 D1=some (.lst ((([xs,ys]:List (List Tm)).take i).map fun s=>V.str (ug s)))∧H3 Z=some (.lst [.ref l, .ref r])∧au H H3) ?_ (fun j σ H3 _ ⟨_,_,_,_,_,_,z⟩=>bS.of (z _ _ hl)) ?_ ?_⟩
   ·exact⟨v5,v6,rfl,af,sE _ _ Bj,sE _ _ hZ',e.trans sE⟩
   ·rintro j x σ H3 hj ⟨w5,w6,rfl,h2,h1,hz,e3⟩
    obtain⟨t,y,rfl,hy,fm,ht,d,hf,hd⟩:=x4 (H:=H) hP hj
    have iN:=aX y (List.mem_of_getElem? hy)
    have ez:=iN.2.2.2.1
    have hjl:j<sd.length:=(List.getElem?_eq_some_iff.mp hy).1
    have hzl:((sd.take j).map fun x=>V.str (ro x)).length<sizeLine:=by rw[List.length_map,List.length_take];omega
    have l1:(" " :Str).length=1:=by decide+kernel
    have zi:=Bn (n:=y.1) (by have:=iN.1;omega) (by have:=iN.2.1;omega)
    refine⟨t,_,rfl,jL.of (e3 _ _ ht),rfl,_,_,rfl,_,_,rfl,rfl,?_⟩
    refine⟨_,rfl, .inl ⟨rfl,_,bS.of h2⟩,_,rfl,y.1,rfl,Kw (by have:=iN.1;omega) (by have:=iN.2.1;omega),_,_,rfl,rfl,?_,_,rfl,fm,_,_,V.str ⟨(fL y.2).toArray⟩,rfl,rfl,jL.of (e3 _ _ hf),rfl,_,_,rfl,rfl,?_,_,rfl,fm,_,_,V.str ⟨(fL y.2).toArray⟩,rfl,rfl,jL.of (e3 _ _ hf),rfl,(by show 2≤sizeLine;decide),fun Y hY=>⟨_,rfl,rfl, .inr ⟨_,rfl,Y,_,_,V.str (ro y),rfl,rfl,bS.of af,tm_at y,?_⟩⟩⟩
    ·rw[l1]
     exact Nat.le_trans (Nat.add_le_add_right zi 1) (by decide)
    ·rw[bx,l1,bh]
     exact Nat.le_trans (Nat.add_le_add (Nat.add_le_add_right zi 1) ez) (by decide)
    have sY:=au.new (o:= .lst [V.str ((toString y.1 :Str)++" " ++⟨(fL y.2).toArray⟩),V.str ⟨(fL y.2).toArray⟩]) hY
    refine⟨D2,_,_,rfl,rfl,sY _ _ h2,hzl,_,_,rfl,?_,?_,?_,fun b o z=>?_⟩
    ·rw[af,take_snoc hy,List.map_append]
     rfl
    ·rw[ah nD12]
     exact sY _ _ h1
    ·rw[ah nZ2]
     exact sY _ _ hz
    ·rw[ah (ag z hD2H)]
     exact sY _ _ (e3 _ _ z)
   ·rintro σ H3 ⟨w5,w6,rfl,h2,h1,hz,e3⟩
    rw[List.length_map,iu,List.take_length] at h2
    have l3:(" + " :Str).length=3:=by decide+kernel
    have z:=A4 (ys:=sd.map ro) (b:=100) fun y hy=>by
     obtain⟨x,hx,rfl⟩:=List.mem_map.mp hy
     exact Bo (Int.le_refl _) (aX x hx)
    refine⟨_,rfl, .inl ⟨rfl,_,bS.of h1⟩,rfl,_,rfl," + ",D2,sd.map ro,rfl,rfl,bS.of (by rw[h2,List.map_map];rfl),?_,?_⟩
    ·rw[List.length_map] at z ⊢
     rw[l3]
     omega
    refine⟨D1,_,_,rfl,rfl,h1,by rw[List.length_map,List.length_take];show min i 2<sizeLine;omega,_,_,_,_,rfl,?_,?_,fun b o z=>?_⟩
    ·rw[af,take_snoc hsd,List.map_append]
     rfl
    ·rw[ah nZD]
     exact hz
    ·rw[ah (ag z hD1)]
     exact e3 _ _ z
  ·rintro σ H' ⟨v3,v4,v5,v6,rfl,Bj,hZ',e⟩
   have hx:=uh iN lx
   have hy:=uh km ly
   have l4:(" -> " :Str).length=4:=by decide+kernel
   refine⟨rfl,_,rfl," -> ",D1,[ug xs,ug ys],rfl,rfl,bS.of Bj,?_,q _ e⟩
   show (ug xs).length+((ug ys).length+0)+2*(" -> " :Str).length≤16777216
   rw[l4]
   omega
theorem BS (x:Tm):ro x=⟨(ie x).toArray⟩:=by
 unfold ro ie yL
 by_cases h:x.1=1
 ·rw[if_pos h,if_pos h,h,vO]
  rfl
 ·have e:(toString x.1 :Str)=⟨(aR x.1).toArray⟩:=by
   rw[←cS]
   unfold fb
   rw[if_neg h]
  rw[if_neg h,if_neg h,e,e32,show (⟨#[32]⟩:Str)=⟨[32].toArray⟩ from rfl,bB,bB,List.append_assoc]
theorem BU:∀xs:List Tm,Str.join " + " (xs.map ro)=⟨(sG xs).toArray⟩
 | []=>rfl
 | [x]=>by
   show ro x=_
   rw[BS]
   show _=(⟨(ie x++[]).toArray⟩:Str)
   rw[List.append_nil]
 |x::y::r=>by
  have ih:=BU (y::r)
  show ro x++" + " ++Str.join " + " ((y::r).map ro)=_
  have ej:(" + " :Str)=⟨[32,43,32].toArray⟩:=by decide+kernel
  rw[ih,BS,ej,bB,bB]
  congr 2
  show ie x++[32,43,32]++(ie y++ig r)=ie x++(([32,43,32]++ie y)++ig r)
  simp only [List.append_assoc]
theorem yy (xs:List Tm):ug xs=⟨(sG xs).toArray⟩:=by
 unfold ug
 have e:=PyProof.Rows.join_closes (sep:=" + ") (sep':=" + ") (ys:=xs.map ro) rfl
 rw[show Txt.join " + " (xs.map ro)=Str.join " + " (xs.map ro) by simpa using e]
 exact BU xs
theorem yz (xs ys:List Tm):YV xs ys=⟨(sG xs++pY++sG ys).toArray⟩:=by
 unfold YV
 have ea:(" -> " :Str)=⟨pY.toArray⟩:=by decide+kernel
 rw[yy,yy,ea,bB,bB]
theorem BV {x:Tm} (h:fQ x):(ie x).length≤46:=by
 obtain⟨h1,h2,_,h3,_⟩:=h
 have:=Mr h1 h2
 have:(yL x.1).length≤1:=by
  unfold yL
  split
  ·exact Nat.zero_le _
  ·exact Nat.le_refl _
 unfold ie
 rw[List.length_append,List.length_append]
 omega
theorem Le {xs:List Tm} (h:∀x∈xs,fQ x):(ig xs).length≤49*xs.length:=by
 induction xs with
 |nil=>exact Nat.zero_le _
 |cons x r ih=>
  have h1:=BV (h x (List.mem_cons_self ..))
  have h2:=ih fun y hy=>h y (List.mem_cons_of_mem _ hy)
  have h3:=wq x
  show (GB x++ig r).length≤_
  rw[List.length_append,List.length_cons]
  omega
theorem BW {xs:List Tm} (h:∀x∈xs,fQ x) (hn:xs≠[]):(sG xs).length+3≤49*xs.length:=by
 cases xs with
 |nil=>exact absurd rfl hn
 |cons x r=>
  have h1:=BV (h x (List.mem_cons_self ..))
  have h2:=Le fun y hy=>h y (List.mem_cons_of_mem _ hy)
  show (ie x++ig r).length+3≤_
  rw[List.length_append,List.length_cons]
  omega
theorem Lf {xs ys:List Tm} (hx:∀x∈xs,fQ x) (hy:∀x∈ys,fQ x) (nx:xs≠[]) (ny:ys≠[]) (h:xs.length+ys.length≤8):(YV xs ys).length≤400:=by
 have h1:=BW hx nx
 have h2:=BW hy ny
 have h3:pY.length=4:=rfl
 rw[yz,bh,List.length_append,List.length_append]
 omega
theorem Hl (a b:Str):Txt.join " -> " [a,b]=a++" -> " ++b:=by
 have e:=PyProof.Rows.join_closes (sep:=" -> ") (sep':=" -> ") (ys:=[a,b]) rfl
 rw[show Txt.join " -> " [a,b]=Str.join " -> " [a,b] by simpa using e]
 rfl
theorem yA:∀(d:Nat) (m:Int) (t:Tr),tT d t→1≤m→∀p∈bj d m t,1≤p.2
 |d,m, .one k n,h,hm,p,hp=>by
  have e:bj d m (.one k n)=[(⟨k.toArray⟩,n*m)]:=by cases d<;>rfl
  rw[e] at hp
  have h:lY k∧1≤n∧n≤999:=by cases d<;>exact h
  have ep:p=(⟨k.toArray⟩,n*m):=by simpa using hp
  rw[ep]
  have:=Int.mul_le_mul h.2.1 hm (by decide) (by omega)
  simpa using this
 |0,_, .gr _ _,h,_,_,_=>h.elim
 |d+1,m, .gr ts n,h,hm,p,hp=>by
  obtain⟨t,ht,hp⟩:=List.mem_flatMap.mp hp
  obtain⟨_,h1,n1,n2⟩:=h
  have:=Int.mul_le_mul n1 hm (by decide) (by omega)
  exact yA d (n*m) t (h1 t ht) (by simpa using this) p hp
theorem BX:∀(d:Nat) (m:Int) (t:Tr),tT d t→bj d m t≠[]
 |d,m, .one k n,h=>by
  have e:bj d m (.one k n)=[(⟨k.toArray⟩,n*m)]:=by cases d<;>rfl
  rw[e]
  simp
 |0,_, .gr _ _,h=>h.elim
 |d+1,m, .gr ts n,h=>by
  obtain⟨h0,h1,_⟩:=h
  intro z
  cases ts with
  |nil=>exact h0 rfl
  |cons t r=>
   have z:bj d (n*m) t++r.flatMap (bj d (n*m))=[]:=z
   exact BX d (n*m) t (h1 t (List.mem_cons_self ..)) (List.append_eq_nil_iff.mp z).1
def Pos (kvs:List (Key×V)):Prop:=∀q∈kvs,∃i,q.2=V.int i∧1≤i
theorem Pos.nonneg {kvs:List (Key×V)} (h:Pos kvs) (k:Key):0≤aG kvs k:=by
 cases e:bX kvs k with
 |none=>rw[eI e];exact Int.le_refl _
 |some v=>
  obtain⟨i,ei,hi⟩:=h _ (fX e)
  have ei:v=V.int i:=ei
  rw[ei] at e
  rw[eK e]
  omega
theorem Pos.one {kvs:List (Key×V)} (h:Pos kvs) (hI:bu kvs) {k:Key} (hk:k∈kvs.map (·.1)):1≤aG kvs k:=by
 have e:=hI.wI hk
 obtain⟨i,ei,hi⟩:=h _ (fX e)
 have ei:V.int (aG kvs k)=V.int i:=ei
 injection ei with ei
 omega
theorem qd:∀(as:List (Str×Int)) (acc:List (Key×V)),Pos acc→(∀p∈as,1≤p.2)→Pos (a7 1 acc as)
 | [],_,h,_=>h
 |p::r,acc,h,hp=>by
  have h1:=hp p (List.mem_cons_self ..)
  refine qd r (cA acc (Sum.inr p.1) (p.2*1)) (fun q hq=>?_) fun q hq=>hp q (List.mem_cons_of_mem _ hq)
  rcases wD hq with hq|hq
  ·exact h q hq
  ·rw[hq]
   refine⟨_,rfl,?_⟩
   have:=h.nonneg (Sum.inr p.1)
   omega
theorem BY (t:Int) {j:Key}:∀(as:List (Str×Int)) (acc:List (Key×V)),j∈acc.map (·.1)→j∈(a7 t acc as).map (·.1)
 | [],_,h=>h
 |p::r,acc,h=>BY t r (cA acc (Sum.inr p.1) (p.2*t)) (Hh h)
theorem Ao (t:Int) {p:Str×Int}:∀(as:List (Str×Int)) (acc:List (Key×V)),p∈as→(Sum.inr p.1 :Key)∈(a7 t acc as).map (·.1)
 | [],_,h=>by cases h
 |q::r,acc,h=>by
  rcases List.mem_cons.mp h with rfl|h
  ·exact BY t r _ (La _ _ _)
  ·exact Ao t r _ h
theorem Pj {x:Fm} (h:cT x):Pos (cW 1 x.1):=qd _ _ (fun q hq=>by cases hq) fun p hp=>by
 obtain⟨y,hy,hp⟩:=List.mem_flatMap.mp hp
 have km:=k9 h.1 y hy
 obtain⟨t,ht,hp⟩:=List.mem_flatMap.mp hp
 exact yA 1 y.1 t (km.2.1 t ht) km.2.2.1 p hp
theorem Pl {x:Fm} (h:cT x) (k:Key):aG (cW 1 x.1) k≤7*1000000000:=by
 have hb:=vL (t:=1) (b:=1000000000) (by decide) (x.1.flatMap (cx 1)) [] 0 (Int.le_refl _) (fun p hp=>by cases hp) fun p hp=>by
  obtain⟨y,hy,hp⟩:=List.mem_flatMap.mp hp
  obtain⟨_,h1,n1,n2⟩:=k9 h.1 y hy
  obtain⟨t,ht,hp⟩:=List.mem_flatMap.mp hp
  obtain⟨q1,q2⟩:=rG 1 y.1 t (h1 t ht) (by omega) p hp
  rw[Int.mul_one]
  refine⟨q1,?_⟩
  have:(999 :Int) ^1*y.1≤999*999:=by
   rw[show (999 :Int) ^1=999 from rfl]
   exact Int.mul_le_mul_of_nonneg_left n2 (by decide)
  omega
 have e7:((x.1.flatMap (cx 1)).length:Int)*1000000000≤7*1000000000:=Int.mul_le_mul_of_nonneg_right (by have:=h.2.2;omega) (by decide)
 cases e:bX (cW 1 x.1) k with
 |none=>rw[eI e];decide
 |some v=>
  obtain⟨i,ei,b0,b1⟩:=hb _ (fX e)
  have ei:v=V.int i:=ei
  rw[ei] at e
  rw[eK e]
  omega
theorem Tq {x:Fm} (h:cT x) (hx:x.1≠[]):cW 1 x.1≠[]:=by
 intro z
 obtain⟨p,hp⟩:∃p,p∈x.1.flatMap (cx 1):=by
  cases e:x.1 with
  |nil=>exact absurd e hx
  |cons y r=>
   have km:=k9 h.1 y (by rw[e];exact List.mem_cons_self ..)
   cases e2:y.2 with
   |nil=>exact absurd e2 km.1
   |cons t r2=>
    have hn:=BX 1 y.1 t (km.2.1 t (by rw[e2];exact List.mem_cons_self ..))
    cases e3:bj 1 y.1 t with
    |nil=>exact absurd e3 hn
    |cons p r3=>
     refine⟨p,List.mem_flatMap.mpr ⟨y,List.mem_cons_self ..,?_⟩⟩
     unfold cx
     rw[e2]
     exact List.mem_flatMap.mpr ⟨t,List.mem_cons_self ..,by rw[e3];exact List.mem_cons_self ..⟩
 have:=Ao 1 _ [] hp
 rw[show a7 1 [] (x.1.flatMap (cx 1))=[] from z] at this
 cases this
def Jc (s:Str):Fm:=([(1,[.one s.cps.toList 1])],0)
def D5:Fm:=([], -1)
theorem yB (s:Str):(⟨(fL (Jc s)).toArray⟩:Str)=s:=by
 unfold Jc
 rw[G4]
theorem Hm (s:Str):cW 1 (Jc s).1=[(Sum.inr s, .int 1)]:=by
 show cA [] (Sum.inr (⟨s.cps.toList.toArray⟩:Str)) (1*1*1)=_
 rw[Array.toArray_toList]
 rfl
theorem Po {s:Str} (h:lY s.cps.toList):cT (Jc s):=BI h
theorem Ts (s:Str) (k:Key):aG (jP (Jc s)) k=if k=Sum.inr ("+" :Str) then 0 else if k=Sum.inr s then 1 else 0:=by
 unfold jP
 rw[Hm,js,KR]
 rfl
theorem Tt (k:Key):aG (jP D5) k=if k=Sum.inr ("+" :Str) then -1 else 0:=by
 show aG (putK [] (Sum.inr ("+" :Str)) (.int (-1))) k=_
 rw[js]
 rfl
theorem ip (a b:List Tm) (k:Key):sumZ (a++b) k=sumZ a k+sumZ b k:=by
 unfold sumZ
 rw[List.map_append,List.sum_append]
theorem eX (z:Tm) (a:List Tm) (k:Key):sumZ (z::a) k=z.1*aG (jP z.2) k+sumZ a k:=by
 unfold sumZ
 rw[List.map_cons,List.sum_cons]
theorem fN (k:Key):sumZ [] k=0:=rfl
def Lg (m:Int) (w:Fm) (s:Str):Tm:=(m*aG (cW 1 w.1) (Sum.inr s),Jc s)
theorem uy (m:Int) (w:Fm) (k:Key):∀{ms:List Str},ms.Nodup→sumZ (ms.map (Lg m w)) k=if k=Sum.inr ("+" :Str) then 0 else if k∈ms.map Sum.inr then m*aG (cW 1 w.1) k else 0
 | [],_=>by
   rw[List.map_nil,fN]
   split
   ·rfl
   ·rw[if_neg (by simp)]
 |s::r,hn=>by
  rw[List.nodup_cons] at hn
  rw[List.map_cons,eX,uy m w k hn.2]
  show m*aG (cW 1 w.1) (Sum.inr s)*aG (jP (Jc s)) k+_=_
  rw[Ts]
  by_cases hp:k=Sum.inr ("+" :Str)
  ·rw[if_pos hp,if_pos hp,if_pos hp]
   simp
  rw[if_neg hp,if_neg hp,if_neg hp]
  by_cases hk:k=Sum.inr s
  ·have hnot:¬k∈r.map (Sum.inr:Str→Key):=fun z=>by
    obtain⟨s',JE,e⟩:=List.mem_map.mp z
    rw[hk] at e
    injection e with e
    rw[e] at JE
    exact hn.1 JE
   rw[if_pos hk,if_neg hnot,if_pos (by rw[hk];exact List.mem_cons_self ..),hk]
   omega
  ·rw[if_neg hk]
   by_cases hr:k∈r.map (Sum.inr:Str→Key)
   ·rw[if_pos hr,if_pos (by rw[List.map_cons];exact List.mem_cons_of_mem _ hr)]
    omega
   ·rw[if_neg hr,if_neg (by rw[List.map_cons];intro z;rcases List.mem_cons.mp z with z|z;exact hk z;exact hr z)]
    omega
theorem Tu (m:Int) (w:Fm) (k:Key):sumZ [(m,w)] k=m*(if k=Sum.inr ("+" :Str) then w.2 else aG (cW 1 w.1) k):=by
 rw[eX,fN,Int.add_zero]
 unfold jP
 rw[js]
theorem Tv (m:Int) {w:Fm} (h:cT w) {ms:List Str} (hn:ms.Nodup) (hm:∀k,k∈(cW 1 w.1).map (·.1)↔k∈ms.map (Sum.inr:Str→Key)) (k:Key):sumZ [(m,w)] k=sumZ (ms.map (Lg m w)) k+if k=Sum.inr ("+" :Str) then m*w.2 else 0:=by
 rw[Tu,uy m w k hn]
 by_cases hp:k=Sum.inr ("+" :Str)
 ·rw[if_pos hp,if_pos hp,if_pos hp]
  omega
 rw[if_neg hp,if_neg hp,if_neg hp,Int.add_zero]
 by_cases hk:k∈ms.map (Sum.inr:Str→Key)
 ·rw[if_pos hk]
 ·rw[if_neg hk,m8 fun z=>hk ((hm k).mp z),Int.mul_zero]
def Jd (ws:List Fm) (z:Tm):Prop:=iz 100000000000 z∧Told ws (⟨(fL z.2).toArray⟩:Str)
def rQ (ws:List Fm) (n:Nat) (xs ys:List Tm):Prop:=xs≠[]∧ys≠[]∧(∀x∈xs,Jd ws x)∧(∀y∈ys,Jd ws y)∧xs.length+ys.length≤n∧∀k,sumZ xs k=sumZ ys k
theorem rQ.swap {ws:List Fm} {n:Nat} {xs ys:List Tm} (h:rQ ws n xs ys):rQ ws n ys xs:=by
 obtain⟨h1,h2,h3,h4,h5,h6⟩:=h
 exact⟨h2,h1,h4,h3,by omega,fun k=>(h6 k).symm⟩
theorem rQ.ev {ws:List Fm} {xs ys:List Tm} (h:rQ ws 8 xs ys):Aj (Txt.join " -> " [ug xs,ug ys]) xs ys:=by
 obtain⟨h1,h2,h3,h4,h5,h6⟩:=h
 have tw:∀{z:Tm},Jd ws z→fQ z:=fun {z} h=>⟨h.1.1,Int.le_trans h.1.2.1 (by decide),h.1.2.2⟩
 have ox:∀t∈xs,fQ t:=fun t ht=>tw (h3 t ht)
 have oy:∀t∈ys,fQ t:=fun t ht=>tw (h4 t ht)
 have et:Txt.join " -> " [ug xs,ug ys]=YV xs ys:=Hl _ _
 have fl:∀zs:List Tm,(∀t∈zs,fQ t)→yn zs≤7*zs.length:=fun zs=>by
  induction zs with
  |nil=>intro _;exact Nat.le_refl _
  |cons z r ih=>
   intro h
   have h1:=(h z (List.mem_cons_self ..)).2.2.2.2
   have h2:=ih fun t ht=>h t (List.mem_cons_of_mem _ ht)
   unfold yn at h2 ⊢
   rw[List.map_cons,List.sum_cons,List.length_cons]
   omega
 have hf:=fl (xs++ys) fun t ht=>by
  rcases List.mem_append.mp ht with z|z
  ·exact ox t z
  ·exact oy t z
 rw[List.length_append] at hf
 rw[et]
 exact⟨by rw[yz],h1,h2,ox,oy,Lf ox oy h1 h2 h5,h5,by omega,fun t ht=>(ox t ht).2.2,fun t ht=>(oy t ht).2.2,h6⟩
theorem BZ (ws:List Fm) {n:Int} (h1:1≤n) (h2:n≤10000):Jd ws (n,D5):=⟨⟨h1,by show n≤100000000000;omega,Mv⟩, .inl OY⟩
theorem chg0 {ws:List Fm} {w:Fm} (hw:w∈ws) (ok:cT w) (h3:(cW 1 w.1).length≤3) {m:Int} (m1:1≤m) (m3:m≤3) {ks ms:List Str} (hk:(cW 1 w.1).map (·.1)=ks.map Sum.inr) (pm:ms.Perm ks):
  rQ ws 5 ([(m,w)]++if 0<w.2 then [(m*w.2,D5)] else []) (ms.map (Lg m w)++if w.2<0 then [(0 - m*w.2,D5)] else []):=by
 have hc:=BC ok
 have hnd:ms.Nodup:=by
  refine pm.nodup_iff.mpr ?_
  have:=S7 w
  rw[hk] at this
  exact List.Pairwise.of_map (S:=(·≠·)) Sum.inr (fun a b h e=>h (by rw[e])) this
 have Tw:∀k,k∈(cW 1 w.1).map (·.1)↔k∈ms.map (Sum.inr:Str→Key):=fun k=>by rw[hk];exact(pm.map _).mem_iff.symm
 have SX:ms.length≤3:=by
  have:=congrArg List.length hk
  rw[List.length_map,List.length_map] at this
  rw[pm.length_eq]
  omega
 have aX:∀s∈ms,Jd ws (Lg m w s):=fun s hs=>by
  have C1:=(Tw (Sum.inr s)).mpr (List.mem_map_of_mem hs)
  have p1:=(Pj ok).one (we _) C1
  have p2:=Pl ok (Sum.inr s)
  obtain⟨q,hq,e⟩:=List.mem_map.mp C1
  obtain⟨k,hkk,e'⟩:=Ah ok q hq
  rw[e] at e'
  injection e' with e'
  refine⟨⟨?_,?_,Po (by rw[e'];exact hkk)⟩,?_⟩
  ·show 1≤m*aG (cW 1 w.1) (Sum.inr s)
   obtain rfl|rfl|rfl:m=1∨m=2∨m=3:=by omega
   all_goals omega
  ·show m*aG (cW 1 w.1) (Sum.inr s)≤100000000000
   obtain rfl|rfl|rfl:m=1∨m=2∨m=3:=by omega
   all_goals omega
  ·show Told ws (⟨(fL (Jc s)).toArray⟩:Str)
   rw[yB]
   exact .inr (.inr ⟨w,hw,C1⟩)
 have hwo:Jd ws (m,w):=⟨⟨m1,by show m≤100000000000;omega,ok⟩, .inr (.inl ⟨w,hw,rfl⟩)⟩
 refine⟨by simp,?_,fun x hx=>?_,fun y hy=>?_,?_,fun k=>?_⟩
 ·by_cases z:w.1=[]
  ·have e:w.2= -1:=by
    have:=ok.1
    rw[z] at this
    exact this
   rw[if_pos (by omega)]
   simp
  ·intro z2
   have z3:=(List.append_eq_nil_iff.mp z2).1
   have z4:ms=[]:=by simpa using z3
   have:=Tq ok z
   have z5:(cW 1 w.1).length=0:=by
    have:=congrArg List.length hk
    rw[List.length_map,List.length_map,←pm.length_eq,z4] at this
    exact this
   exact this (List.length_eq_zero_iff.mp z5)
 ·rcases List.mem_append.mp hx with z|z
  ·rw[List.mem_singleton.mp z];exact hwo
  ·split at z
   ·rw[List.mem_singleton.mp z]
    obtain rfl|rfl|rfl:m=1∨m=2∨m=3:=by omega
    all_goals exact BZ ws (by omega) (by omega)
   ·cases z
 ·rcases List.mem_append.mp hy with z|z
  ·obtain⟨s,hs,rfl⟩:=List.mem_map.mp z
   exact aX s hs
  ·split at z
   ·rw[List.mem_singleton.mp z]
    obtain rfl|rfl|rfl:m=1∨m=2∨m=3:=by omega
    all_goals exact BZ ws (by omega) (by omega)
   ·cases z
 ·rw[List.length_append,List.length_append,List.length_map]
  have a1:(if 0<w.2 then [(m*w.2,D5)] else []:List Tm).length+(if w.2<0 then [(0 - m*w.2,D5)] else []:List Tm).length≤1:=by
   by_cases c:0<w.2
   ·rw[if_pos c,if_neg (by omega)];exact Nat.le_refl _
   ·rw[if_neg c]
    split
    ·exact Nat.le_refl _
    ·exact Nat.zero_le _
  show 1+_+_≤5
  omega
 ·rw[ip,ip,Tv m ok hnd Tw k]
  have se:∀n:Int,sumZ [(n,D5)] k=n*if k=Sum.inr ("+" :Str) then -1 else 0:=fun n=>by
   rw[eX,fN,Int.add_zero,Tt]
  by_cases c:0<w.2
  ·rw[if_pos c,if_neg (by omega:¬w.2<0),se,fN]
   split<;>omega
  ·rw[if_neg c,fN]
   by_cases d:w.2<0
   ·rw[if_pos d,se]
    split<;>omega
   ·rw[if_neg d,fN]
    have:w.2=0:=by omega
    rw[this]
    split<;>omega
theorem rQ.a {ws:List Fm} {n:Nat} {xs ys:List Tm} (h:rQ ws n xs ys) {z:Tm} (hz:Jd ws z):rQ ws (n+2) ([z]++xs) (ys++[z]):=by
 obtain⟨h1,h2,h3,h4,h5,h6⟩:=h
 refine⟨by simp,by simp,fun x hx=>?_,fun x hx=>?_,by rw[List.length_append,List.length_append];show 1+_+(_+1)≤_;omega,fun k=>by rw[ip,ip,h6 k];omega⟩
 ·rcases List.mem_append.mp hx with y|y
  ·rw[List.mem_singleton.mp y];exact hz
  ·exact h3 x y
 ·rcases List.mem_append.mp hx with y|y
  ·exact h4 x y
  ·rw[List.mem_singleton.mp y];exact hz
theorem rQ.b {ws:List Fm} {n:Nat} {xs ys:List Tm} (h:rQ ws n xs ys) {o:Fm} {m:Int} (ho:o∈ws) (ok:cT o) (m1:1≤m) (m4:m≤4):rQ ws (n+3) (xs++[(m,o),(1,o)]) ([(m+1,o)]++ys):=by
 obtain⟨h1,h2,h3,h4,h5,h6⟩:=h
 have hz:∀{i:Int},1≤i→i≤5→Jd ws (i,o):=fun {i} i1 i2=>⟨⟨i1,by show i≤100000000000;omega,ok⟩, .inr (.inl ⟨o,ho,rfl⟩)⟩
 refine⟨by simp,by simp,fun x hx=>?_,fun x hx=>?_,by rw[List.length_append,List.length_append];show _+2+(1+_)≤_;omega,fun k=>?_⟩
 ·rcases List.mem_append.mp hx with y|y
  ·exact h3 x y
  ·rcases List.mem_cons.mp y with y|y
   ·rw[y];exact hz (by omega) (by omega)
   ·rw[List.mem_singleton.mp y];exact hz (by omega) (by omega)
 ·rcases List.mem_append.mp hx with y|y
  ·rw[List.mem_singleton.mp y];exact hz (by omega) (by omega)
  ·exact h4 x y
 ·rw[ip,ip,h6 k,eX,eX,fN,eX,fN]
  show _+(m*aG (jP o) k+(1*aG (jP o) k+0))=((m+1)*aG (jP o) k+0)+_
  rw[Int.add_mul]
  omega
theorem rQ.mono {ws:List Fm} {n m:Nat} {xs ys:List Tm} (h:rQ ws n xs ys) (e:n≤m):rQ ws m xs ys:=by
 obtain⟨h1,h2,h3,h4,h5,h6⟩:=h
 exact⟨h1,h2,h3,h4,by omega,h6⟩
variable {uC uP uI uD uL uT fg fj fk uG uS:Tok} {Ch HE Sh St:Addr}
inductive Ap (vs:List V) (H:Hp) (Q:VK) (E:XK):Prop
 |mk (c:Int) (wl:Addr) (ws:List Fm) (dU:vs=[.int c, .ref wl]) (dW:BO H wl ws) (d5:(∀w∈ws,cT w)) (fe:(∀w∈ws,(cW 1 w.1).length≤3)) (gH:ws.length=3) (jb:∀(t l r:Addr) (xs ys:List Tm) H',H' t=some (.tup [.ref l, .ref r])→cN H' l xs→cN H' r ys→rQ ws 8 xs ys→au H H'→Q (.ref t) H')
def uz:Sp:=Ap
theorem cC:ay ["_law_cell","_law_world_here","_law_text_here","_law_counts","_law_charge","_law_many","_law_lefts","_law_rights","_law_other","_law_more"] ["_law_cell","_law_world_here"] (aj j6):=dq
theorem yC {H:Hp} {wl:Addr} {ws:List Fm} {ts:List Addr} (hP:Paired (x3 H) ts ws) (h3:ws.length=3) (c:Int):∃(t:Addr) (x:Fm),xv (ts.map V.ref) (c%3)=some (.ref t)∧x∈ws∧x3 H t x:=by
 have iu:=Paired.length hP
 have c0:0≤c%3:=Int.emod_nonneg _ (by decide)
 have c1:c%3<3:=Int.emod_lt_of_pos _ (by decide)
 have hi:(c%3).toNat<ts.length:=by omega
 obtain⟨t,ht⟩:∃t,ts[(c%3).toNat]? =some t:=⟨_,List.getElem?_eq_getElem hi⟩
 obtain⟨x,hx,hF⟩:=bI hP ht
 refine⟨t,x,?_,List.mem_of_getElem? hx,hF⟩
 have:=pD (xs:=ts.map V.ref) (j:=(c%3).toNat) (v:=V.ref t) (by rw[List.getElem?_map,ht];rfl)
 rwa [Int.toNat_of_nonneg c0] at this
theorem Mz {H:Hp} {d f u:Addr} {n:Int} (hd:H d=none) (hf:(upd H d (.dK [])) f=none) (hu:(upd (upd H d (.dK [])) f (.tup [.str "e^-", .ref d, .int (-1)])) u=none):d9 (upd (upd (upd H d (.dK [])) f (.tup [.str "e^-", .ref d, .int (-1)])) u (.tup [.int n, .ref f])) u (n,D5)∧au H (upd (upd (upd H d (.dK [])) f (.tup [.str "e^-", .ref d, .int (-1)])) u (.tup [.int n, .ref f])):=by
 have s1:=au.new (o:= .dK []) hd
 have s2:=au.new (o:= .tup [.str "e^-", .ref d, .int (-1)]) hf
 have s3:=au.new (o:= .tup [.int n, .ref f]) hu
 refine⟨⟨f,af,d,?_,s3 _ _ (s2 _ _ af)⟩,(s1.trans s2).trans s3⟩
 show _=some (HO.tup [.str ⟨(fL ([], -1)).toArray⟩, .ref d, .int (-1)])
 rw[OY]
 exact s3 _ _ af
theorem Aq (D:Def K mg "_law_change" "_law_change" j6 ["_law_cell","_law_world_here"]) (T:GJ K mg C R G Pc Fo Ch uK uN uB uE uM uC uP uI uD uL uT fg fj fk):a9 P w K mg base 1 "_law_change" ["_law_cell","_law_world_here"] uz:=by
 refine D.cY cC (fun vs H Q E h=>?_) (fun f bg A outer s H vs Q E hr h=>?_)
 ·obtain⟨c,wl,ws,rfl,_⟩:=h
  rfl
 ·obtain⟨c,wl,ws,rfl,⟨ts,QK,hP⟩,aX,An,h3,q⟩:=h
  have hu:=dn hr
  have big:(2000 :Nat)≤sizeLine:=by decide
  refine⟨_,(ai
     (EG (cF cH (pv 1) (az bT (pv 0) aq) (fun _ _=>rfl)) (gB rfl (a6 (aK (i:=2) cC.nd rfl (Or.inl rfl)) (a6 (aK (i:=3) cC.nd rfl (Or.inr rfl)) (a6 (aK (i:=4) cC.nd rfl (Or.inl rfl)) dC)))))
    (ai
     (aB (i:=5) cC.nd rfl (Or.inr rfl) (az bO aq (az bT (az b6 (pv 0) aq) aq)))
    (ai
     (aB (i:=6) cC.nd rfl (Or.inl rfl) (cu (aa (bW (aa (pv 5) (aa (bW (aa (pv 2) (aa (pv 3) (aa (pv 4) ak)))) ak))) ak)))
    (ai
     (pG (i:=7) cC.nd rfl (Or.inl rfl) (sc:=(aj j6)) (NX:=["_law_cell","_law_world_here","_law_text_here","_law_counts","_law_charge","_law_many","_law_lefts","_law_rights","_law_other","_law_more"]) (N:=["_law_kind_here","_law_many","_law_counts"]) (fr:=[none,some 5,some 3]) ⟨by rfl,by rfl,by decide+kernel,by decide+kernel,by decide+kernel,by rfl,by decide+kernel⟩ rfl rfl rfl (cG (cj (mE rfl) rfl T.yk tF (aa (pv 3) ak))) (fun _ _ _ _=>(aK (i:=0) (show (["_law_kind_here","_law_many","_law_counts"]:List Str).Nodup by decide+kernel) rfl (Or.inl rfl) (Or.inr rfl))) (fun _ _ _ _=>f7) (fun _ _ _ _=>(bW (aa (az dI (pv 1) (bN hu (pv 2) (pv 0) (fun _ _=>rfl))) (aa (bW (aa (pv 0) (aa (AQ (xt (pv 0) aq AO) rfl rfl (by intro z;cases z) (by decide)) (aa aq ak)))) ak)))))
    (ai
     (bE (aO lG (pv 4) aq (aQ _))
      (ao
       (bw (iB PySem.F.plainAttrs_list PySem.F.slot_list_append PySem.F.type_list_append dv (pv 7) (aa (bW (aa (az fu aq (az dI (pv 5) (pv 4))) (aa (bW (aa bG (aa dN (aa (lF iQ aq) ak)))) ak))) ak))))
      aS)
    (ai
     (bE (aO jM (pv 4) aq (aQ _))
      (ao
       (bw (iB PySem.F.plainAttrs_list PySem.F.slot_list_append PySem.F.type_list_append dv (pv 6) (aa (bW (aa (az dI (pv 5) (pv 4)) (aa (bW (aa bG (aa dN (aa (lF iQ aq) ak)))) ak))) ak))))
      aS)
    (ai
     (aB (i:=8) cC.nd rfl (Or.inl rfl) (cF cH (pv 1) (az bT (az b6 (pv 0) aq) aq) (fun _ _=>rfl)))
    (ai
     (aB (i:=9) cC.nd rfl (Or.inl rfl) (az bO aq (az bT (az b6 (pv 0) aq) aq)))
    (ai
     (bE (aO dJ (az bT (az b6 (pv 0) aq) aq) aq (aQ _))
      (ai
       (aB (i:=6) cC.nd rfl (Or.inl rfl) (az nW (cu (aa (bW (aa (pv 9) (aa (pv 8) ak))) ak)) (pv 6)))
      (ao
       (aB (i:=7) cC.nd rfl (Or.inl rfl) (az nW (pv 7) (cu (aa (bW (aa (pv 9) (aa (pv 8) ak))) ak))))))
      aS)
    (ai
     (bE (aO dJ (az bT (az b6 (pv 0) aq) aq) aq (aQ _))
      (ai
       (aB (i:=6) cC.nd rfl (Or.inl rfl) (az nW (pv 6) (cu (aa (bW (aa (pv 9) (aa (pv 8) ak))) (aa (bW (aa aq (aa (pv 8) ak))) ak)))))
      (ao
       (aB (i:=7) cC.nd rfl (Or.inl rfl) (az nW (cu (aa (bW (aa (az bO (pv 9) aq) (aa (pv 8) ak))) ak)) (pv 7)))))
      aS)
    (ai
     (bE (aO dJ (az bT (az b6 (pv 0) aq) aq) aq (aQ _))
      (ao
       (aE (bW (aa (pv 7) (aa (pv 6) ak)))))
      aS)
    (ao
     (aE (bW (aa (pv 6) (aa (pv 7) ak)))))))))))))))),?_⟩
  obtain⟨t,x,Bl,hxm,cd,QN,hx2⟩:=yC (wl:=wl) hP h3 c
  refine⟨_,rfl,_,rfl,_,_,rfl,rfl,(by show (0 :Int) <3;decide),wl,_,_,V.ref t,rfl,rfl,bS.of QK,Bl,?_⟩
  refine⟨t,_,rfl,jL.of QN,rfl,_,_,rfl,_,_,rfl,_,_,rfl,rfl,?_⟩
  refine⟨_,rfl,_,_,rfl,rfl,⟨by decide,by decide⟩,_,_,rfl,rfl,(by show (0 :Int) <3;decide),_,_,rfl,rfl,?_⟩
  have m0:0≤c/3%3:=Int.emod_nonneg _ (by decide)
  have m1:c/3%3<3:=Int.emod_lt_of_pos _ (by decide)
  dsimp only [dB]
  obtain⟨m,em⟩:∃m,m=1+c/3%3:=⟨_,rfl⟩
  rw[←em]
  have mm1:1≤m:=by omega
  have mm3:m≤3:=by omega
  clear em m0 m1
  refine⟨_,rfl,_,rfl,_,rfl,_,rfl,(by show 3≤sizeLine;decide),fun p hp=>⟨(by show 2≤sizeLine;decide),fun q1 hq1=>⟨(by show 1≤sizeLine;decide),fun L hL=>?_⟩⟩⟩
  have s1:=au.new (o:= .tup [.str ⟨(fL x).toArray⟩, .ref cd, .int x.2]) hp
  have s2:=au.new (o:= .tup [.int m, .ref p]) hq1
  have s3:=au.new (o:= .lst [.ref q1]) hL
  have e3:=(s1.trans s2).trans s3
  have nu:(upd (upd (upd H p (.tup [.str ⟨(fL x).toArray⟩, .ref cd, .int x.2])) q1 (.tup [.int m, .ref p])) L (.lst [.ref q1])) L=some (.lst [.ref q1]):=af
  have hT3:d9 (upd (upd (upd H p (.tup [.str ⟨(fL x).toArray⟩, .ref cd, .int x.2])) q1 (.tup [.int m, .ref p])) L (.lst [.ref q1])) q1 (m,x):=⟨p,s3 _ _ af,cd,s3 _ _ (s2 _ _ af),e3 _ _ hx2⟩
  have hLH:H L=none:=none_back (s1.trans s2) hL
  dsimp only [dB]
  generalize upd (upd (upd H p (.tup [.str ⟨(fL x).toArray⟩, .ref cd, .int x.2])) q1 (.tup [.int m, .ref p])) L (.lst [.ref q1])=H3 at e3 nu hT3 ⊢
  have iN:=aX x hxm
  have Pg:=An x hxm
  have yO:(((cW 1 x.1).map (·.1)).filterMap SU).map Sum.inr=(cW 1 x.1).map (·.1):=Bx (By x.1)
  obtain⟨ks,eks⟩:∃ks,ks=((cW 1 x.1).map (·.1)).filterMap SU:=⟨_,rfl⟩
  rw[←eks] at yO
  have lB:ks.length≤3:=by
   have:=congrArg List.length yO
   rw[List.length_map,List.length_map] at this
   omega
  refine⟨_,rfl,cd,cW 1 x.1,ks,rfl, .inl (e3 _ _ hx2),yO.symm,by omega,fun l2 ms pm sm wZ=>?_⟩
  have s4:=au.new (o:= .lst (ms.map V.str)) wZ
  have Oz:(upd H3 l2 (.lst (ms.map V.str))) l2=some (.lst (ms.map V.str)):=af
  have e4:=e3.trans s4
  have Bf:=s4 _ _ nu
  have hT4:=hT3.same s4
  generalize upd H3 l2 (.lst (ms.map V.str))=H4 at e4 Oz Bf hT4 ⊢
  have SX:ms.length≤3:=by rw[pm.length_eq];exact lB
  refine⟨l2,rfl,⟨_,bS.of Oz⟩,fun R0 Za=>kO (K:=K) (a:=l2) (L:=R0) (xs:=ms.map V.str) H4 (fun σ=>∃v:Option V,σ=[v,some (.int m),some (.ref cd)]) (fun i ys H'=>∃us:List Addr,ys=us.map V.ref∧us.length=i∧Paired (fun u z=>u≠R0∧∃f d,f≠R0∧d≠R0∧H' u=some (.tup [.int z.1, .ref f])∧H' f=some (.tup [.str ⟨(fL z.2).toArray⟩, .ref d, .int z.2.2])∧H' d=some (.dK (cW 1 z.2.1))) us ((ms.take i).map (Lg m x))) (bS.of Oz) ?_ Za ⟨none,rfl⟩ (au.new Za) af ⟨[],rfl,rfl, .nil⟩ (by rw[List.length_map];omega) ?_ ?_ ?_⟩
  ·rintro i ys Ha Hb hb ⟨us,h1,h2,h4⟩
   exact⟨us,h1,h2,aL (fun u z ⟨n1,f,d,n2,n3,z1,z2,z3⟩=>⟨n1,f,d,n2,n3,hb _ _ z1 n1,hb _ _ z2 n2,hb _ _ z3 n3⟩) h4⟩
  ·rintro i ys H' ⟨us,rfl,h2,_⟩
   rw[List.length_map,h2];exact Nat.le_refl _
  ·rintro i v σ H5 ys hi ⟨v0,rfl⟩ e5 F5 ⟨us,rfl,S2,Tx⟩ N M hN
   rw[List.getElem?_map] at hi
   obtain⟨sk,hsk,rfl⟩:∃p,ms[i]? =some p∧v=V.str p:=by
    cases hh:ms[i]? with
    |none=>rw[hh] at hi;cases hi
    |some p=>rw[hh] at hi;exact⟨p,rfl,(Option.some.inj hi).symm⟩
   have C1:(Sum.inr sk:Key)∈(cW 1 x.1).map (·.1):=by
    rw[←yO]
    exact List.mem_map_of_mem (pm.mem_iff.mp (List.mem_of_getElem? hsk))
   have hv:=(we x.1).wI C1
   have hcd5:H5 cd=some (.dK (cW 1 x.1)):=e5 _ _ (e4 _ _ hx2)
   refine⟨_,rfl,_,rfl,_,rfl,cd,V.int (aG (cW 1 x.1) (Sum.inr sk)),rfl, .inl ⟨_,Sum.inr sk, .inl hcd5,rfl,hv.symm⟩,_,_,rfl,rfl, .inl ⟨by omega,by omega⟩,?_⟩
   refine⟨_,rfl,fun d hd=>⟨_,rfl,af,[(Sum.inr sk, .int 1)],rfl,(by show 1≤15;decide),(by show 3≤sizeLine;decide),fun f' hf=>⟨(by show 2≤sizeLine;decide),fun u Tz=>?_⟩⟩⟩
   have t1:au H5 (upd (upd H5 d (.dK [])) d (.dK (cy [] [(Sum.inr sk,V.int 1)]))):=fun b o z=>by
    rw[ah (ag z hd),ah (ag z hd)]
    exact z
   have t2:=au.new (o:= .tup [.str sk, .ref d, .int 0]) hf
   have t3:=au.new (o:= .tup [.int (m*aG (cW 1 x.1) (Sum.inr sk)), .ref f']) Tz
   have e6:=(t1.trans t2).trans t3
   have Ta:=t3 _ _ (t2 _ _ (af (H:=upd H5 d (.dK [])) (a:=d) (o:= .dK (cy [] [(Sum.inr sk,V.int 1)]))))
   have hf6:=t3 _ _ (af (H:=upd (upd H5 d (.dK [])) d (.dK (cy [] [(Sum.inr sk,V.int 1)]))) (a:=f') (o:= .tup [.str sk, .ref d, .int 0]))
   have Ey:=e6 _ _ F5
   refine hN _ _ _ ⟨_,rfl⟩ (e5.trans e6) Ey ⟨us++[u],by rw[List.map_append];rfl,by rw[List.length_append,S2];rfl,?_⟩
   rw[take_snoc hsk,List.map_append]
   refine bK ⟨cD (af (o:= .tup [.int (m*aG (cW 1 x.1) (Sum.inr sk)), .ref f'])) Ey (by intro z;cases z),f',d,cD hf6 Ey (by intro z;cases z),cD Ta Ey (by intro z;cases z),af,?_,?_⟩ (aL (fun u z ⟨n1,f,d,n2,n3,z1,z2,z3⟩=>⟨n1,f,d,n2,n3,e6 _ _ z1,e6 _ _ z2,e6 _ _ z3⟩) Tx)
   ·show _=some (HO.tup [.str ⟨(fL (Jc sk)).toArray⟩, .ref d, .int 0])
    rw[yB]
    exact hf6
   ·show _=some (HO.dK (cW 1 (Jc sk).1))
    rw[Hm]
    exact Ta
  ·rintro H5 ys e5 F5 ⟨us,rfl,S2,Tx⟩
   rw[List.length_map,List.take_length] at Tx
   have TB:Paired (d9 H5) us (ms.map (Lg m x)):=aL (fun u z ⟨n1,f,d,n2,n3,z1,z2,z3⟩=>⟨f,z1,d,z2,z3⟩) Tx
   clear Tx
   have hR0H:H R0=none:=none_back e4 Za
   have nLR:L≠R0:=ag Bf Za
   have sy:=e5 _ _ Bf
   have hT5:=hT4.same e5
   have e05:=e4.trans e5
   have hul':us.length≤3:=by rw[S2,List.length_map];exact SX
   dsimp only [qi]
   refine fD (fun σ' H'=>∃us:List Addr,σ'=[some (.int c),some (.ref wl),some (.str ⟨(fL x).toArray⟩),some (.ref cd),some (.int x.2),some (.int m),some (.ref L),some (.ref R0),none,none]∧H' R0=some (.lst (us.map V.ref))∧us.length≤4∧Paired (d9 H') us (ms.map (Lg m x)++if x.2<0 then [(0 - m*x.2,D5)] else [])∧H' L=some (.lst [.ref q1])∧d9 H' q1 (m,x)∧au H H') (fun N hN=>?_) ?_
   ·refine⟨_,rfl,_,_,rfl,rfl,_,rfl,dY (fun en=>?_) fun en=>?_⟩
    ·have en:x.2<0:=by simpa using en
     refine⟨_,rfl, .inl ⟨rfl,_,bS.of F5⟩,_,rfl,_,rfl,_,_,rfl,rfl, .inl ⟨by omega,by omega⟩,_,_,rfl,rfl,fun d hd=>⟨1,rfl,(by show 3≤sizeLine;decide),fun f' hf=>⟨(by show 2≤sizeLine;decide),fun u Tz=>?_⟩⟩⟩
     obtain⟨tu,t6⟩:=Mz (n:=0 - m*x.2) hd hf Tz
     have Ey:=t6 _ _ F5
     refine⟨R0,_,_,rfl,rfl,Ey,by rw[List.length_map];omega,hN _ _ ⟨us++[u],rfl,by rw[af,List.map_append];rfl,by rw[List.length_append];show _+1≤4;omega,?_,?_,?_,?_⟩⟩
     ·rw[if_pos en]
      exact bK (tu.but Ey fun b o z n=>by rw[ah n];exact z) (aL (fun a z h=>(h.same t6).but Ey fun b o z n=>by rw[ah n];exact z) TB)
     ·rw[ah nLR]
      exact t6 _ _ sy
     ·exact(hT5.same t6).but Ey fun b o z n=>by rw[ah n];exact z
     ·exact fun b o z=>by rw[ah (ag z hR0H)];exact t6 _ _ (e05 _ _ z)
    ·have en:¬x.2<0:=by simpa using en
     refine hN _ _ ⟨us,rfl,F5,by omega,?_,sy,hT5,e05⟩
     rw[if_neg en,List.append_nil]
     exact TB
   rintro σ' H6 ⟨us,rfl,Ey,hu4,TB,Kn,hT6,e6⟩
   refine fD (fun σ' H'=>∃ls:List Addr,σ'=[some (.int c),some (.ref wl),some (.str ⟨(fL x).toArray⟩),some (.ref cd),some (.int x.2),some (.int m),some (.ref L),some (.ref R0),none,none]∧H' R0=some (.lst (us.map V.ref))∧Paired (d9 H') us (ms.map (Lg m x)++if x.2<0 then [(0 - m*x.2,D5)] else [])∧H' L=some (.lst (ls.map V.ref))∧Paired (d9 H') ls ([(m,x)]++if 0<x.2 then [(m*x.2,D5)] else [])∧au H H') (fun N hN=>?_) ?_
   ·refine⟨_,rfl,_,_,rfl,rfl,_,rfl,dY (fun en=>?_) fun en=>?_⟩
    ·have en:0<x.2:=by simpa using en
     refine⟨_,rfl, .inl ⟨rfl,_,bS.of Kn⟩,_,rfl,_,rfl,_,_,rfl,rfl, .inl ⟨by omega,by omega⟩,fun d hd=>⟨1,rfl,(by show 3≤sizeLine;decide),fun f' hf=>⟨(by show 2≤sizeLine;decide),fun u Tz=>?_⟩⟩⟩
     obtain⟨tu,t6⟩:=Mz (n:=m*x.2) hd hf Tz
     have Hn:=t6 _ _ Kn
     refine⟨L,_,_,rfl,rfl,Hn,(by show 1<sizeLine;decide),hN _ _ ⟨[q1,u],rfl,?_,?_,?_,?_,?_⟩⟩
     ·rw[ah (Ne.symm nLR)]
      exact t6 _ _ Ey
     ·exact aL (fun a z h=>(h.same t6).but Hn fun b o z n=>by rw[ah n];exact z) TB
     ·rw[af]
      rfl
     ·rw[if_pos en]
      exact .cons ((hT6.same t6).but Hn fun b o z n=>by rw[ah n];exact z) (.cons (tu.but Hn fun b o z n=>by rw[ah n];exact z) .nil)
     ·exact fun b o z=>by rw[ah (ag z hLH)];exact t6 _ _ (e6 _ _ z)
    ·have en:¬0<x.2:=by simpa using en
     refine hN _ _ ⟨[q1],rfl,Ey,TB,Kn,?_,e6⟩
     rw[if_neg en,List.append_nil]
     exact .cons hT6 .nil
   rintro σ' H7 ⟨ls,rfl,hR7,hPr,Hn,Q0,e7⟩
   have hG:=chg0 hxm iN Pg mm1 mm3 yO.symm pm
   have sJ:cN H7 L _:=⟨ls,Hn,Q0⟩
   have wJ:cN H7 R0 _:=⟨us,hR7,hPr⟩
   generalize ([(m,x)]++if 0<x.2 then [(m*x.2,D5)] else [])=xs at hG sJ
   generalize (ms.map (Lg m x)++if x.2<0 then [(0 - m*x.2,D5)] else [])=ys at hG wJ
   obtain⟨t2,o2,OL,Zb,TC⟩:=yC (wl:=wl) hP h3 (c/27)
   refine⟨_,rfl,_,rfl,_,_,rfl,rfl,⟨by decide,by decide⟩,_,_,rfl,rfl,(by show (0 :Int) <3;decide),wl,_,_,V.ref t2,rfl,rfl,bS.of (e7 _ _ QK),OL,?_⟩
   refine⟨_,rfl,_,_,rfl,rfl,⟨by decide,by decide⟩,_,_,rfl,rfl,(by show (0 :Int) <4;decide),_,_,rfl,rfl,?_⟩
   have n0:0≤c/81%4:=Int.emod_nonneg _ (by decide)
   have n1:c/81%4<4:=Int.emod_lt_of_pos _ (by decide)
   dsimp only [dB,qi]
   obtain⟨mo,emo⟩:∃m,m=1+c/81%4:=⟨_,rfl⟩
   rw[←emo]
   have mo1:1≤mo:=by omega
   have mo4:mo≤4:=by omega
   clear emo n0 n1
   have okl:Jd ws (mo,o2):=⟨⟨mo1,by show mo≤100000000000;omega,aX o2 Zb⟩, .inr (.inl ⟨o2,Zb,rfl⟩)⟩
   refine fD (fun σ' H'=>∃(L R0:Addr) (xs ys:List Tm),σ'=[some (.int c),some (.ref wl),some (.str ⟨(fL x).toArray⟩),some (.ref cd),some (.int x.2),some (.int m),some (.ref L),some (.ref R0),some (.ref t2),some (.int mo)]∧cN H' L xs∧cN H' R0 ys∧rQ ws 8 xs ys∧(¬c/9%3=1→rQ ws 5 xs ys)∧au H H') (fun N hN=>?_) ?_
   ·refine⟨_,rfl,_,_,rfl,rfl,⟨by decide,by decide⟩,_,_,rfl,rfl,(by show (0 :Int) <3;decide),rfl,_,rfl,dY (fun ev=>?_) fun ev=>?_⟩
    ·have ev:c/9%3=1:=by simpa using ev
     obtain⟨D6,pV,Ho⟩:=sJ
     obtain⟨Pp,eD,Hq⟩:=wJ
     have l1:=Paired.length Ho
     have l2:=Paired.length Hq
     have l5:=hG.2.2.2.2.1
     refine⟨_,rfl,_,rfl,(by show 2≤sizeLine;decide),fun p hp=>⟨(by show 1≤sizeLine;decide),fun q2 Zc=>?_⟩⟩
     have s1:=au.new (o:= .tup [.int mo, .ref t2]) hp
     have s2:=s1.trans (au.new (o:= .lst [.ref p]) Zc)
     have En:=au.new (o:= .lst [.ref p]) Zc _ _ (af (H:=H7) (a:=p) (o:= .tup [.int mo, .ref t2]))
     have TJ:(upd (upd H7 p (.tup [.int mo, .ref t2])) q2 (.lst [.ref p])) q2=some (.lst [.ref p]):=af
     generalize upd (upd H7 p (.tup [.int mo, .ref t2])) q2 (.lst [.ref p])=H8 at s2 En TJ ⊢
     refine⟨_,rfl,q2,L,[.ref p],D6.map V.ref,rfl,rfl,TJ,s2 _ _ pV,by rw[List.length_map];show 1+_≤_;omega,fun L2 sx=>?_⟩
     have s3:=au.new (o:= .lst ([.ref p]++D6.map V.ref)) sx
     have TQ:(upd H8 L2 (.lst ([.ref p]++D6.map V.ref))) L2=some (.lst ([.ref p]++D6.map V.ref)):=af
     have TR:=s2.trans s3
     have TU:=s3 _ _ En
     generalize upd H8 L2 (.lst ([.ref p]++D6.map V.ref))=H9 at TR TQ TU ⊢
     refine⟨_,rfl,_,rfl,_,rfl,(by show 2≤sizeLine;decide),fun p' pj=>⟨(by show 1≤sizeLine;decide),fun q3 TV=>?_⟩⟩
     have r1:=au.new (o:= .tup [.int mo, .ref t2]) pj
     have r2:=r1.trans (au.new (o:= .lst [.ref p']) TV)
     have TX:=au.new (o:= .lst [.ref p']) TV _ _ (af (H:=H9) (a:=p') (o:= .tup [.int mo, .ref t2]))
     have TZ:(upd (upd H9 p' (.tup [.int mo, .ref t2])) q3 (.lst [.ref p'])) q3=some (.lst [.ref p']):=af
     generalize upd (upd H9 p' (.tup [.int mo, .ref t2])) q3 (.lst [.ref p'])=L5 at r2 TX TZ ⊢
     have NM:=TR.trans r2
     refine⟨R0,q3,Pp.map V.ref,[.ref p'],rfl,rfl,NM _ _ eD,TZ,by rw[List.length_map];show _+1≤_;omega,fun R2 iw=>?_⟩
     have r3:=au.new (o:= .lst (Pp.map V.ref++[.ref p'])) iw
     have D7:=NM.trans r3
     refine hN _ _ ⟨L2,R2,[(mo,o2)]++xs,ys++[(mo,o2)],rfl,⟨[p]++D6,?_,?_⟩,⟨Pp++[p'],?_,?_⟩,(hG.a okl).mono (by decide),fun z=>absurd ev z,e7.trans D7⟩
     ·rw[List.map_append]
      exact r3 _ _ (r2 _ _ TQ)
     ·exact .cons ⟨t2,r3 _ _ (r2 _ _ TU),TC.same (e7.trans D7)⟩ (aL (fun a z h=>h.same D7) Ho)
     ·rw[List.map_append]
      exact af
     ·exact bK ⟨t2,r3 _ _ TX,TC.same (e7.trans D7)⟩ (aL (fun a z h=>h.same D7) Hq)
    ·have ev:¬c/9%3=1:=by simpa using ev
     exact hN _ _ ⟨L,R0,xs,ys,rfl,sJ,wJ,hG.mono (by decide),fun _=>hG,e7⟩
   clear sJ wJ hG
   rintro σ' H8 ⟨L,R0,xs,ys,rfl,sJ,wJ,T1,hG5,e8⟩
   refine fD (fun σ' H'=>∃(L R0:Addr) (xs ys:List Tm),σ'=[some (.int c),some (.ref wl),some (.str ⟨(fL x).toArray⟩),some (.ref cd),some (.int x.2),some (.int m),some (.ref L),some (.ref R0),some (.ref t2),some (.int mo)]∧cN H' L xs∧cN H' R0 ys∧rQ ws 8 xs ys∧au H H') (fun N hN=>?_) ?_
   ·refine⟨_,rfl,_,_,rfl,rfl,⟨by decide,by decide⟩,_,_,rfl,rfl,(by show (0 :Int) <3;decide),rfl,_,rfl,dY (fun ev=>?_) fun ev=>?_⟩
    ·have ev:c/9%3=2:=by simpa using ev
     have hG:=hG5 (by omega)
     obtain⟨D6,pV,Ho⟩:=sJ
     obtain⟨Pp,eD,Hq⟩:=wJ
     have l1:=Paired.length Ho
     have l2:=Paired.length Hq
     have l5:=hG.2.2.2.2.1
     refine⟨_,rfl,_,rfl,_,rfl,(by show 2≤sizeLine;decide),fun p hp=>⟨_,rfl,(by show 2≤sizeLine;decide),fun p1 hp1=>⟨(by show 2≤sizeLine;decide),fun q2 Zc=>?_⟩⟩⟩
     have s1:=au.new (o:= .tup [.int mo, .ref t2]) hp
     have s1':=au.new (o:= .tup [.int 1, .ref t2]) hp1
     have Pq:=au.new (o:= .lst [.ref p, .ref p1]) Zc
     have s2:=(s1.trans s1').trans Pq
     have En:=Pq _ _ (s1' _ _ (af (H:=H8) (a:=p) (o:= .tup [.int mo, .ref t2])))
     have T2:=Pq _ _ (af (H:=upd H8 p (.tup [.int mo, .ref t2])) (a:=p1) (o:= .tup [.int 1, .ref t2]))
     have TJ:(upd (upd (upd H8 p (.tup [.int mo, .ref t2])) p1 (.tup [.int 1, .ref t2])) q2 (.lst [.ref p, .ref p1])) q2=some (.lst [.ref p, .ref p1]):=af
     generalize upd (upd (upd H8 p (.tup [.int mo, .ref t2])) p1 (.tup [.int 1, .ref t2])) q2 (.lst [.ref p, .ref p1])=H9 at s2 En T2 TJ ⊢
     refine⟨L,q2,D6.map V.ref,[.ref p, .ref p1],rfl,rfl,s2 _ _ pV,TJ,by rw[List.length_map];show _+2≤_;omega,fun L2 sx=>?_⟩
     have s3:=au.new (o:= .lst (D6.map V.ref++[.ref p, .ref p1])) sx
     have TQ:(upd H9 L2 (.lst (D6.map V.ref++[.ref p, .ref p1]))) L2=some (.lst (D6.map V.ref++[.ref p, .ref p1])):=af
     have TR:=s2.trans s3
     have TU:=s3 _ _ En
     have T3:=s3 _ _ T2
     generalize upd H9 L2 (.lst (D6.map V.ref++[.ref p, .ref p1]))=L5 at TR TQ TU T3 ⊢
     refine⟨_,rfl,_,_,rfl,rfl,_,rfl,(by show 2≤sizeLine;decide),fun p' pj=>⟨(by show 1≤sizeLine;decide),fun q3 TV=>?_⟩⟩
     have r1:=au.new (o:= .tup [.int (mo+1), .ref t2]) pj
     have r2:=r1.trans (au.new (o:= .lst [.ref p']) TV)
     have TX:=au.new (o:= .lst [.ref p']) TV _ _ (af (H:=L5) (a:=p') (o:= .tup [.int (mo+1), .ref t2]))
     have TZ:(upd (upd L5 p' (.tup [.int (mo+1), .ref t2])) q3 (.lst [.ref p'])) q3=some (.lst [.ref p']):=af
     generalize upd (upd L5 p' (.tup [.int (mo+1), .ref t2])) q3 (.lst [.ref p'])=H11 at r2 TX TZ ⊢
     have D7:=TR.trans r2
     refine⟨_,rfl,q3,R0,[.ref p'],Pp.map V.ref,rfl,rfl,TZ,D7 _ _ eD,by rw[List.length_map];show 1+_≤_;omega,fun R2 iw=>?_⟩
     have r3:=au.new (o:= .lst ([.ref p']++Pp.map V.ref)) iw
     have Q1:=D7.trans r3
     refine hN _ _ ⟨L2,R2,xs++[(mo,o2),(1,o2)],[(mo+1,o2)]++ys,rfl,⟨D6++[p,p1],?_,?_⟩,⟨[p']++Pp,?_,?_⟩,hG.b Zb (aX o2 Zb) mo1 mo4,e8.trans Q1⟩
     ·rw[List.map_append]
      exact r3 _ _ (r2 _ _ TQ)
     ·exact me (aL (fun a z h=>h.same Q1) Ho) (.cons ⟨t2,r3 _ _ (r2 _ _ TU),TC.same (e8.trans Q1)⟩ (.cons ⟨t2,r3 _ _ (r2 _ _ T3),TC.same (e8.trans Q1)⟩ .nil))
     ·rw[List.map_append]
      exact af
     ·exact .cons ⟨t2,r3 _ _ TX,TC.same (e8.trans Q1)⟩ (aL (fun a z h=>h.same Q1) Hq)
    ·exact hN _ _ ⟨L,R0,xs,ys,rfl,sJ,wJ,T1,e8⟩
   clear sJ wJ T1 hG5
   rintro σ' H9 ⟨L,R0,xs,ys,rfl,sJ,wJ,T1,e9⟩
   refine⟨_,rfl,_,_,rfl,rfl,⟨by decide,by decide⟩,_,_,rfl,rfl,(by show (0 :Int) <2;decide),rfl,_,rfl,dY (fun ev=>?_) fun ev=>?_⟩
   ·exact⟨_,rfl,_,rfl,(by show 2≤sizeLine;decide),fun t hT=>q t R0 L ys xs _ af (wJ.same (au.new hT)) (sJ.same (au.new hT)) T1.swap (e9.trans (au.new hT))⟩
   ·exact⟨_,rfl,_,rfl,(by show 2≤sizeLine;decide),fun t hT=>q t L R0 xs ys _ af (sJ.same (au.new hT)) (wJ.same (au.new hT)) T1 (e9.trans (au.new hT))⟩
theorem wK:ay ["count"] ["count"] (aj iE):=dq
theorem rR (D:Def K mg "count_shown" "count_shown" iE ["count"]) (T:om K mg C):a9 P w K mg base 1 "count_shown" ["count"] j7:=by
 refine D.cY wK (fun vs H Q E h=>?_) (fun f bg A outer s H vs Q E hr h=>?_)
 ·obtain⟨n,rfl,_⟩:=h
  rfl
 ·obtain⟨n,rfl,h1,h2,k⟩:=h
  refine⟨_,(ai
     (bE (aO dJ (pv 0) aq (aQ _))
      (ao
       (aE bG))
      aS)
    (ao
     (aE (bC jh rfl T.FK zj (aa (pv 0) ak))))),?_⟩
  refine⟨_,rfl,rfl,_,rfl,dY (fun e=>?_) fun e=>?_⟩
  ·have e:n=1:=by simpa using e
   subst e
   exact k
  ·have e:¬n=1:=by simpa using e
   refine⟨_,rfl,_,rfl,tq (by omega) (by omega),?_⟩
   unfold fb at k
   rw[if_neg e] at k
   exact k
theorem Lh:ay ["self"] ["self"] (aj vx):=dq
theorem Hr (D:bb K C "shown" "Atom.shown" vx ["self"]) (T:om K mg C) (c1:a9 P w K mg base 1 "count_shown" ["count"] j7):aM P w K mg base 2 C "shown" ["self"] (vM C):=by
 obtain⟨_,_,aY⟩:=c1
 refine D.cY Lh (fun vs H Q E h=>?_) (fun f bg A outer s H vs Q E hr h=>?_)
 ·obtain⟨p,k,n,rfl,_⟩:=h
  rfl
 ·obtain⟨p,k,n,rfl,⟨dx,hp⟩,hk,h1,h2,q⟩:=h
  refine⟨_,(ao
     (aE (az br (a0 (pv 0) rfl) (aF aY.ok (hr.mono (by decide)) rfl aY.g aY.kp aY.b .nil aA (aa (a0 (pv 0) rfl) ak))))),?_⟩
  refine⟨_,rfl,p,C,dx,_,_,rfl,hp,T.gD,T.vN,tJ _ _,_,rfl,p,C,dx,_,_,rfl,hp,T.gD,T.qP,qL _ _,n,rfl,h1,h2,_,_,rfl,rfl,?_,q⟩
  have:=g8 h1 h2
  have:(100 :Nat)≤sizeLine:=by decide
  omega
theorem T4 (t:Int) (k:Key):∀(as:List (Str×Int)) (acc:List (Key×V)),aG (a7 t acc as) k=aG acc k+t*aG (a7 1 [] as) k:=by
 have key:∀(t:Int) (as:List (Str×Int)) (acc:List (Key×V)),aG (a7 t acc as) k=aG acc k+t*(as.map fun p=>if (Sum.inr p.1 :Key)=k then p.2 else 0).sum:=by
  intro t as
  induction as with
  |nil=>intro acc;show aG acc k=_;simp
  |cons p r ih=>
   intro acc
   show aG (a7 t (cA acc (Sum.inr p.1) (p.2*t)) r) k=_
   rw[ih,A6,List.map_cons,List.sum_cons,Int.mul_add,Int.add_assoc]
   congr 2
   split
   ·rw[Int.mul_comm]
   ·rw[Int.mul_zero]
 intro as acc
 rw[key t as acc,key 1 as []]
 show _=_+t*(0+1*_)
 rw[Int.zero_add,Int.one_mul]
theorem MA {KV:List (Key×V)} (hI:bu KV) (k:Key):aG (pZ KV KV) k=aG KV k:=by
 cases e:bX (pZ KV KV) k with
 |some v=>
  have hm:=fX e
  obtain⟨q,_,eq'⟩:=List.mem_map.mp hm
  injection eq' with e1 e2
  rw[←e2] at e
  rw[eK e,e1]
 |none=>
  rw[eI e]
  refine Classical.byContradiction fun z=>?_
  have C1:k∈KV.map (·.1):=Classical.byContradiction fun h=>z (m8 h).symm
  obtain⟨q,hq,rfl⟩:=List.mem_map.mp C1
  refine mv e (List.mem_map.mpr ⟨(q.1,V.int (aG KV q.1)),List.mem_map.mpr ⟨q,List.mem_filter.mpr ⟨hq,decide_eq_true fun h=>z h.symm⟩,rfl⟩,rfl⟩)
theorem Hs (xs ys:List Tm) (k:Key):aG (gQ xs ys) k=aG (av ys) k - aG (av xs) k:=by
 have e:aG (gQ xs ys) k=aG (p7 xs ys) k:=MA (wu xs ys) k
 rw[e]
 show aG (a7 (-1) (av ys) (eO xs)) k=_
 rw[T4]
 show _+ -1*aG (av xs) k=_
 omega
theorem wM (xs:List Tm):((av xs).map (·.1)).Nodup:=iM _
theorem T5 (xs ys:List Tm):((gQ xs ys).map (·.1)).Nodup:=GD _ (GF xs ys)
theorem Ar (am:List (Key×V)) (xs ys:List Tm) (T:Int) (k:Key):aG (de am xs ys T) k=aG am k+T*aG (gQ xs ys) k:=wz T (T5 xs ys) am k
theorem yD {a t g:Int} (h:iX a t g=none) (j:Nat):t≤a+j*g:=by
 unfold iX at h
 split at h
 ·cases h
 ·split at h
  ·rename_i h1 h2
   have:=Int.mul_nonneg (Int.natCast_nonneg j) h2
   omega
  ·cases h
theorem kr {a t g T:Int} (h:iX a t g=some T):0≤T∧(∀j:Int,0≤j→j<T→t≤a+j*g)∧a+T*g<t:=by
 unfold iX at h
 split at h
 ·injection h with h
  subst h
  exact⟨Int.le_refl _,fun j h1 h2=>by omega,by omega⟩
 ·split at h
  ·cases h
  ·rename_i h1 h2
   injection h with h
   have gp:0< -g:=by omega
   have q0:0≤(a - t) /(-g):=Int.ediv_nonneg (by omega) (by omega)
   refine⟨by omega,fun j j0 j1=>?_,?_⟩
   ·have e1:=Int.ediv_mul_le (a - t) (b:= -g) (by omega)
    have e2:j*(-g)≤(a - t) /(-g)*(-g):=Int.mul_le_mul_of_nonneg_right (by omega) (by omega)
    rw[Int.mul_neg] at e2
    omega
   ·have e1:=Int.lt_ediv_add_one_mul_self (a - t) gp
    rw[h,Int.mul_neg] at e1
    omega
theorem ku:∀{l:List (Option Int)},bo l=none→∀o∈l,o=none
 | [],_,o,ho=>by cases ho
 |none::r,h,o,ho=>by
  rcases List.mem_cons.mp ho with z|z
  ·exact z
  ·exact ku (l:=r) h o z
 |some i::r,h,o,ho=>by
  have h:(match bo r with|none=>some i|some j=>some (if j<i then j else i))=none:=h
  cases e:bo r with
  |none=>rw[e] at h;cases h
  |some j=>rw[e] at h;cases h
theorem eY:∀{l:List (Option Int)} {T:Int},bo l=some T→some T∈l∧∀i,some i∈l→T≤i
 | [],_,h=>by cases h
 |none::r,T,h=>by
  obtain⟨h1,h2⟩:=eY (l:=r) h
  refine⟨List.mem_cons_of_mem _ h1,fun i hi=>?_⟩
  rcases List.mem_cons.mp hi with z|z
  ·cases z
  ·exact h2 i z
 |some i::r,T,h=>by
  have h:(match bo r with|none=>some i|some j=>some (if j<i then j else i))=some T:=h
  cases e:bo r with
  |none=>
   rw[e] at h
   injection h with h
   subst h
   refine⟨List.mem_cons_self ..,fun j hj=>?_⟩
   rcases List.mem_cons.mp hj with z|z
   ·injection z with z;omega
   ·have:=ku e _ z
    cases this
  |some j=>
   rw[e] at h
   injection h with h
   obtain⟨h1,h2⟩:=eY e
   refine⟨?_,fun k hk=>?_⟩
   ·rw[←h]
    split
    ·exact List.mem_cons_of_mem _ h1
    ·exact List.mem_cons_self ..
   ·rw[←h]
    rcases List.mem_cons.mp hk with z|z
    ·injection z with z
     split<;>omega
    ·have:=h2 k z
     split<;>omega
variable {uC uP uI uD uL uT fg fj fk uG uS:Tok} {Ch HE Sh St:Addr}
theorem iP {xs:List Tm} (h:∀x∈xs,iz 100000000000 x) (h8:xs.length≤8) (k:Key):0≤aG (av xs) k∧aG (av xs) k≤800000000000:=by
 have hP:Pos (av xs):=qd _ _ (fun q hq=>by cases hq) fun p hp=>by
  obtain⟨z,hz,rfl⟩:=List.mem_map.mp hp
  exact(h z hz).1
 refine⟨hP.nonneg k,?_⟩
 have a1:=qb 1 100000000000 k (by decide) (eO xs) [] 0 (fun p hp=>by
  obtain⟨z,hz,rfl⟩:=List.mem_map.mp hp
  have b1:=(h z hz).1
  have b2:=(h z hz).2.1
  show -100000000000≤z.1*1∧z.1*1≤100000000000
  omega) (Int.le_refl _) (Int.le_refl _)
 have e:(eO xs).length=xs.length:=by unfold eO;rw[List.length_map]
 rw[e] at a1
 show aG (a7 1 [] (eO xs)) k≤_
 omega
theorem B0 {xs:List Tm} (h:∀x∈xs,iz 100000000000 x):∀q∈av xs,0<aG (av xs) q.1:=fun q hq=>by
 have hP:Pos (av xs):=qd _ _ (fun q hq=>by cases hq) fun p hp=>by
  obtain⟨z,hz,rfl⟩:=List.mem_map.mp hp
  exact(h z hz).1
 have:=hP.one (bQ _) (List.mem_map_of_mem (f:=(·.1)) hq)
 omega
theorem yE {ws:List Fm} {xs:List Tm} (h:∀x∈xs,Jd ws x):∀q∈av xs,∃s,q.1=Sum.inr s∧Told ws s:=
 nv (Pk:=fun j=>∃s,j=Sum.inr s∧Told ws s) 1 (eO xs) [] (fun q hq=>by cases hq) fun p hp=>by
  obtain⟨z,hz,rfl⟩:=List.mem_map.mp hp
  exact⟨_,rfl,(h z hz).2⟩
def Lo (l:List Nat):Prop:=∀c∈l,c<128
theorem Lo.app {a b:List Nat} (ha:Lo a) (hb:Lo b):Lo (a++b):=fun c hc=>by
 rcases List.mem_append.mp hc with z|z
 ·exact ha c z
 ·exact hb c z
theorem Lo.cons {a:Nat} {b:List Nat} (ha:a<128) (hb:Lo b):Lo (a::b):=fun c hc=>by
 rcases List.mem_cons.mp hc with z|z
 ·rw[z];exact ha
 ·exact hb c z
theorem Lo.nil:Lo []:=fun c hc=>by cases hc
theorem Lo.flat {α:Type} {f:α→List Nat} {l:List α} (h:∀x∈l,Lo (f x)):Lo (l.flatMap f):=fun c hc=>by
 obtain⟨x,hx,hc⟩:=List.mem_flatMap.mp hc
 exact h x hx c hc
theorem wN {n:Int} (h:0≤n):Lo (aR n):=fun c hc=>by
 obtain⟨m,rfl⟩:=Int.eq_ofNat_of_zero_le h
 have:=List.all_eq_true.mp (pS m) c hc
 unfold xb at this
 simp at this
 omega
theorem B1 {k:List Nat} (h:lY k):Lo k:=by
 obtain⟨c,r,rfl,hc,hr,_⟩:=h
 refine Lo.cons (by unfold Es at hc;simp at hc;omega) fun x hx=>?_
 have:=List.all_eq_true.mp hr x hx
 unfold Er at this
 simp at this
 omega
theorem wO:∀(d:Nat) (t:Tr),tT d t→Lo (b9 d t)
 |d, .one k n,h=>by
  have h:lY k∧1≤n∧n≤999:=by cases d<;>exact h
  have e:b9 d (.one k n)=k++aR n:=by cases d<;>rfl
  rw[e]
  exact(B1 h.1).app (wN (by omega))
 |0, .gr _ _,h=>h.elim
 |d+1, .gr ts n,h=>by
  obtain⟨_,h1,n1,_⟩:=h
  show Lo (40::(ts.flatMap (b9 d)++41::aR n))
  exact Lo.cons (by decide) ((Lo.flat fun t ht=>wO d t (h1 t ht)).app (Lo.cons (by decide) (wN (by omega))))
theorem T6 {x:Fm} (h:cT x):Lo (fL x):=by
 obtain⟨h,_,_⟩:=h
 obtain⟨xs,n⟩:=x
 cases xs with
 |nil=>exact Lo.cons (by decide) (Lo.cons (by decide) (Lo.cons (by decide) Lo.nil))
 |cons y r=>
  obtain⟨_,h2,n1,n2⟩:=h
  have h2:∀z∈y::r,Fq 1 z:=h2
  show Lo (y.2.flatMap (b9 1)++(cR 1 r++i9 n))
  refine(Lo.flat fun t ht=>wO 1 t ((h2 y (List.mem_cons_self ..)).2.1 t ht)).app ((Lo.flat fun z hz=>?_).app ?_)
  ·have oz:=h2 z (List.mem_cons_of_mem _ hz)
   exact Lo.cons (by decide) ((wN (by have:=oz.2.2.1;omega)).app (Lo.flat fun t ht=>wO 1 t (oz.2.1 t ht)))
  ·unfold i9
   split
   ·exact Lo.nil
   ·refine Lo.cons (by decide) ((wN (by split<;>omega)).app (Lo.cons (by split<;>decide) Lo.nil))
theorem yF {x:Str} (h:Lo x.cps.toList):PyData.strOk x=true:=by
 show x.cps.all (· <0x110000)=true
 rw[←Array.all_toList,List.all_eq_true]
 intro c hc
 have:=h c hc
 exact decide_eq_true (by omega)
theorem Ht {ws:List Fm} (aX:∀w∈ws,cT w) {s:Str} (h:Told ws s):PyData.strOk s=true:=by
 rcases h with rfl| ⟨w,hw,rfl⟩ | ⟨w,hw,h⟩
 ·decide+kernel
 ·exact yF (T6 (aX w hw))
 ·obtain⟨q,hq,e⟩:=List.mem_map.mp h
  obtain⟨k,hk,e'⟩:=Ah (aX w hw) q hq
  rw[e] at e'
  injection e' with e'
  rw[e']
  exact yF (B1 hk)
theorem Hu (st tn:Int) (x:Str) (lk:Int):(Ex st tn x lk).lookup ("lack" :Str)=some (.int lk):=by
 unfold Ex
 rw[aD,if_pos rfl]
theorem yG (st tn:Int) (x:Str) (lk:Int):(Ex st tn x lk).lookup ("formula" :Str)=some (.str x):=by
 unfold Ex
 rw[aD,if_neg (by decide+kernel),aD,if_pos rfl]
theorem Hv (st tn:Int) (x:Str) (lk:Int):(Ex st tn x lk).lookup ("turn" :Str)=some (.int tn):=by
 unfold Ex
 rw[aD,if_neg (by decide+kernel),aD,if_neg (by decide+kernel),aD,if_pos rfl]
theorem Hw (st tn:Int) (x:Str) (lk:Int):(Ex st tn x lk).lookup ("step" :Str)=some (.int st):=by
 unfold Ex
 rw[aD,if_neg (by decide+kernel),aD,if_neg (by decide+kernel),aD,if_neg (by decide+kernel)]
 rfl
variable {uC uP uI uD uL uT fg fj fk uG uS:Tok} {Ch HE Sh St:Addr}
inductive Hx (St:Addr) (vs:List V) (H:Hp) (Q:VK) (E:XK):Prop
 |mk (st d g:Addr) (x:Str) (kvs:List (Key×V)) (xs ys:List Tm) (dU:vs=[.ref st, .str x]) (dW:lK St H st d g) (d5:H d=some (.dK kvs)) (fe:bu kvs) (gH:Aj x xs ys) (jb:∀H',au H H'→Q (oV (lL kvs xs ys)) H')
def B2 (St:Addr):Sp:=Hx St
theorem Li:ay ["self","text"] ["self","text"] (aj vF):=dq
theorem Hy (D:bb K St "most" "Store.most" vF ["self","text"]) (T:G9 K mg C R G Pc Fo Ch St uK uN uB uE uM uC uP uI uD uL uT fg fj fk uG uS) (c1:a9 P w K mg base 15 "read_even" ["text"] (Ak C G Pc Fo Ch)) (c2:a9 P w K mg base 10 "most_turns" ["change","amounts"] (Ai C G Pc Fo Ch)):aM P w K mg base 16 St "most" ["self","text"] (B2 St):=by
 obtain⟨_,_,cO⟩:=c1
 obtain⟨_,_,cz⟩:=c2
 refine D.cY Li (fun vs H Q E h=>?_) (fun f bg A outer s H vs Q E hr h=>?_)
 ·obtain⟨st,d,g,x,kvs,xs,ys,rfl,_⟩:=h
  rfl
 ·obtain⟨st,d,g,x,kvs,xs,ys,rfl,⟨dx,gz⟩,hd,hI,Pf,q⟩:=h
  obtain⟨_,_,_,_,_,_,h7,_,h9,SJ,_⟩:=id Pf
  refine⟨_,(ao
     (aE (aF cz.ok (hr.mono (by decide)) rfl cz.g cz.kp cz.b .nil aA (aa (aF cO.ok (hr.mono (by decide)) rfl cO.g cO.kp cO.b .nil aA (aa (pv 1) ak)) (aa (a0 (pv 0) rfl) ak))))),?_⟩
  refine⟨_,rfl,x,xs,ys,rfl,Pf,fun c H1 nc hN e1=>?_⟩
  exact⟨_,rfl,st,St,dx,_,_,rfl,e1 _ _ gz,T.b8,T.dR,gw _ _,c,d,xs,ys,kvs,rfl,hN H1 fun b o _ z=>z,h9,SJ,by omega,by omega,wG Pf,e1 _ _ hd,hI,fun H2 e2=>q H2 (e1.trans e2)⟩
variable {uC uP uI uD uL uT fg fj fk uG uS:Tok} {Ch HE Sh St:Addr}
def rS (H:Hp) (xs ys:List Tm) (t:Addr) (p:Key×Int):Prop:=H t=some (.tup [kV p.1, .int p.2,oV (iX p.2 (aG (av xs) p.1) (aG (av ys) p.1 - aG (av xs) p.1))])
def Zd (xs ys:List Tm) (p:Key×Int):Prop:=0≤p.2∧∀T,iX p.2 (aG (av xs) p.1) (aG (av ys) p.1 - aG (av xs) p.1)=some T→T<10^50
inductive Lj (K:PySem.W.Frag) (vs:List V) (H:Hp) (Q:VK) (E:XK):Prop
 |mk (a tk gv:Addr) (ns:List Int) (xs ys:List Tm) (dU:vs=[.ref a, .ref tk, .ref gv]) (dW:bS K H a (ns.map V.int)) (d5:ns.length≤63) (fe:H tk=some (.dK (av xs))) (gH:H gv=some (.dK (av ys))) (jb:tk≠gv) (nM:(∀x∈xs,iz 100000000000 x)) (su:(∀y∈ys,iz 100000000000 y)) (A9:xs.length≤8) (Kd:ys.length≤8) (DW:∀(L:Addr) (ts:List Addr) (ps:List (Key×Int)) H',ps.map (·.1)=(av xs).map (·.1)→(∀p∈ps,Zd xs ys p)→H' L=some (.lst (ts.map V.ref))→Paired (rS H' xs ys) ts ps→au H H'→Q (.ref L) H')
def Hz (K:PySem.W.Frag):Sp:=Lj K
theorem iq:ay ["_law_script","_law_takes","_law_gives","_law_plan_here","_law_k","_law_text_here","_law_cell","_law_less","_law_turns","_law_amount"] ["_law_script","_law_takes","_law_gives"] (aj A2):=dq
structure T7 (K:PySem.W.Frag) (mg:Str→Option Value) (C:Addr):Prop extends om K mg C where
 kq:mg "enumerate" =none
theorem HA {K:PySem.W.Frag} {H H':Hp} {a d:Addr} {xs:List V} {kvs:List (Key×V)} (h:bS K H a xs) (e:∀b o,H b=some o→b≠d→H' b=some o) (hd:H d=some (.dK kvs)):bS K H' a xs:=by
 rcases h with (h| ⟨o,h⟩) |h
 ·exact .inl (.inl (e _ _ h (cD h hd (by intro z;cases z))))
 ·exact .inl (.inr ⟨o,e _ _ h (cD h hd (by intro z;cases z))⟩)
 ·exact .inr h
theorem D8 {t z l e:Int} (hl:0<l) (hz:1≤z) (e0:0≤e) (e1:e≤l - 1):iX (t+(z - 1)*l+e) t (-l)=some z:=by
 have hm:0≤(z - 1)*l:=Int.mul_nonneg (by omega) (by omega)
 unfold iX
 rw[if_neg (by omega),if_neg (by omega),Int.neg_neg,show t+(z - 1)*l+e - t=e+(z - 1)*l by omega,Int.add_mul_ediv_right _ _ (by omega),Int.ediv_eq_zero_of_lt e0 (by omega)]
 congr 1
 omega
theorem D9 {q l:Int} (q0:0≤q) (q1:q<4) (hl:0<l):0≤q*(l - 1) /3∧q*(l - 1) /3≤l - 1:=by
 have h1:0≤q*(l - 1):=Int.mul_nonneg q0 (by omega)
 have h2:q*(l - 1)≤3*(l - 1):=Int.mul_le_mul_of_nonneg_right (by omega) (by omega)
 omega
theorem HB {a t g T:Int} (hg:0≤g) (h:iX a t g=some T):T=0:=by
 unfold iX at h
 by_cases c:a<t
 ·rw[if_pos c] at h
  injection h with h
  exact h.symm
 ·rw[if_neg c,if_pos hg] at h
  cases h
theorem Lk (D:Def K mg "_law_plan" "_law_plan" A2 ["_law_script","_law_takes","_law_gives"]) (T:T7 K mg C) (c1:a9 P w K mg base 1 "_law_cell_at" ["_law_script","_law_k"] (mW K)):a9 P w K mg base 2 "_law_plan" ["_law_script","_law_takes","_law_gives"] (Hz K):=by
 obtain⟨_,_,aI⟩:=c1
 refine D.cY iq (fun vs H Q E h=>?_) (fun f bg A outer s H vs Q E hr h=>?_)
 ·obtain⟨a,tk,gv,ns,xs,ys,rfl,_⟩:=h
  rfl
 ·obtain⟨a,tk,gv,ns,xs,ys,rfl,hS,hlen,jN,yH,ntg,iN,km,lx,ly,q⟩:=h
  have hu:=dn hr
  have big:(2000 :Nat)≤sizeLine:=by decide
  have K4:bu (av xs):=bQ _
  have K9:bu (av ys):=bQ _
  have hpos:=B0 iN
  have GX:(av xs).length≤8:=by
   have:=cU (eO xs)
   have e:(eO xs).length=xs.length:=by unfold eO;rw[List.length_map]
   unfold av
   omega
  refine⟨_,(ai
     (aB (i:=3) iq.nd rfl (Or.inl rfl) (cu ak))
    (ai
     (eM (cq PassesOwn.never rfl (FF rfl T.kq (aa (pv 1) ak)) (gB rfl (a6 (aK (i:=4) iq.nd rfl (Or.inl rfl)) (a6 (aK (i:=5) iq.nd rfl (Or.inl rfl)) dC)))
      (ai
       (aB (i:=6) iq.nd rfl (Or.inl rfl) (aF aI.ok (hr.mono (by decide)) rfl aI.g aI.kp aI.b .nil aA (aa (pv 0) (aa (az bO aq (pv 4)) ak))))
      (ai
       (aB (i:=7) iq.nd rfl (Or.inl rfl) (az fu (bN hu (pv 1) (pv 5) (fun _ _=>rfl)) (bP hu (pv 2) (pv 5) aq ⟨rfl,rfl,rfl,rfl⟩)))
      (ai
       (aB (i:=8) iq.nd rfl (Or.inl rfl) (cF cH (cu (aa (az bT (az b6 (pv 6) aq) aq) (aa (az bT (az b6 (pv 6) aq) (az EI aq aq)) ak))) (az bT (pv 6) aq) (fun _ _=>rfl)))
      (ai
       (bE (aO AK (pv 7) aq (aQ _))
        (ai
         (aB (i:=9) iq.nd rfl (Or.inl rfl) (az bO (az bT (az b6 (pv 6) aq) aq) (az dI (bN hu (pv 1) (pv 5) (fun _ _=>rfl)) (bC kH rfl T.tM n5 (aa (kG jM (az bT (pv 6) aq) aq (aQ _)) ak)))))
        (ao
         (aB (i:=8) iq.nd rfl (Or.inl rfl) (cF cH (cu (aa aq (aa lP ak))) (bC kH rfl T.tM n5 (aa (kG LV (pv 9) (bN hu (pv 1) (pv 5) (fun _ _=>rfl)) (aQ _)) ak)) (fun _ _=>rfl)))))
        (ao
         (bE (aO dJ (pv 8) aq (aQ _))
          (ao
           (aB (i:=9) iq.nd rfl (Or.inl rfl) (az bT (az b6 (pv 6) aq) (bN hu (pv 1) (pv 5) (fun _ _=>rfl)))))
          (ao
           (aB (i:=9) iq.nd rfl (Or.inl rfl) (az bO (az bO (bN hu (pv 1) (pv 5) (fun _ _=>rfl)) (az dI (az fu (pv 8) aq) (pv 7))) (az b6 (az dI (az bT (az b6 (pv 6) aq) aq) (az fu (pv 7) aq)) aq)))))))
      (ao
       (bw (iB PySem.F.plainAttrs_list PySem.F.slot_list_append PySem.F.type_list_append dv (pv 3) (aa (bW (aa (pv 5) (aa (pv 9) (aa (pv 8) ak)))) ak))))))))))
    (ao
     (aE (pv 3))))),?_⟩
  refine⟨(by show 0≤sizeLine;decide),fun L hL=>?_⟩
  have sL:=au.new (o:= .lst []) hL
  have ntL:tk≠L:=ag jN hL
  have ngL:gv≠L:=ag yH hL
  refine⟨_,rfl,tk,av xs,rfl,sL _ _ jN,fun o nf=>C5 nf (fun i σ H'=>∃(ts:List Addr) (ps:List (Key×Int)) (v4 v5 v6 v7 v8 v9:Option V),σ=[some (.ref a),some (.ref tk),some (.ref gv),some (.ref L),v4,v5,v6,v7,v8,v9]∧ps.map (·.1)=((av xs).take i).map (·.1)∧(∀p∈ps,Zd xs ys p)∧H' L=some (.lst (ts.map V.ref))∧Paired (rS H' xs ys) ts ps∧au H H') ?_ (fun i σ H' ⟨_,_,_,_,_,_,_,_,_,_,_,_,_,z⟩=>z _ _ jN) ?_ ?_⟩
  ·exact⟨[],[],none,none,none,none,none,none,rfl,rfl,(fun p hp=>by cases hp),af, .nil,sL⟩
  ·rintro i k v p σ H' hi ⟨ts,ps,v4,v5,v6,v7,v8,v9,rfl,hk,Q2,pV,hP,e⟩ hp
   have hm:=List.mem_of_getElem? hi
   have hv:=K4.dZ hm
   have yM:=(List.getElem?_eq_some_iff.mp hi).1
   have Ze:=hpos _ hm
   have Ze:0<aG (av xs) k:=Ze
   have tb:=iP iN lx k
   have gb:=iP km ly k
   have npt:p≠tk:=fun z=>by rw[z,af] at hp;cases hp
   have npH:H' p=none:=by rwa [ah npt] at hp
   have T8:∀b o',H' b=some o'→b≠tk→(upd (upd H' tk (.eC o (.dK (av xs)))) p (.tup [.int i,kV k])) b=some o':=fun b o' z n=>by rw[ah (ag z npH),ah n];exact z
   have Ll:(upd (upd H' tk (.eC o (.dK (av xs)))) p (.tup [.int i,kV k])) tk=some (.eC o (.dK (av xs))):=by rw[ah (Ne.symm npt)];exact af
   refine⟨p,_,rfl,jL.of af,rfl,_,_,rfl,_,_,rfl,rfl,?_⟩
   generalize upd (upd H' tk (.eC o (.dK (av xs)))) p (.tup [.int i,kV k])=H6 at T8 Ll ⊢
   have Pr:=T8 _ _ (e _ _ yH) (Ne.symm ntg)
   have ek:(9 :Int)+(i:Int)=((9+i:Nat):Int):=by omega
   refine⟨_,rfl,_,rfl,_,_,rfl,rfl,a,ns,9+i,by rw[←ek];rfl,HA (e.seq hS) T8 (e _ _ jN),hlen,fun c=>?_⟩
   refine⟨_,rfl,_,rfl,tk,V.int (aG (av xs) k),rfl, .inl ⟨_,k, .inr ⟨o,Ll⟩,rfl,hv.symm⟩,_,rfl,gv,rfl, .inl ⟨_, .inl Pr⟩,_,rfl,_,gk.k (k:=k) Pr,?_⟩
   rw[K9.at k]
   refine⟨_,_,rfl,rfl,?_⟩
   have q0:0≤c/8%4:=Int.emod_nonneg _ (by decide)
   have q1:0≤c/8%10^(50 :Int).toNat:=Int.emod_nonneg _ (by decide)
   have q2:c/8%4<4:=Int.emod_lt_of_pos _ (by decide)
   have q3:c/8%10^(50 :Int).toNat<10^(50 :Int).toNat:=Int.emod_lt_of_pos _ (by decide)
   obtain⟨z,z0,z1,Bl⟩:∃z:Int,0≤z∧z<10^50∧xv [V.int (c/8%4),V.int (c/8%10^(50 :Int).toNat)] (c%2)=some (V.int z):=by
    have h2:c%2=0∨c%2=1:=by omega
    rcases h2 with h2|h2
    ·rw[h2];exact⟨_,q0,by omega,rfl⟩
    ·rw[h2];exact⟨_,q1,q3,rfl⟩
   refine⟨_,rfl,_,_,rfl,rfl,⟨by decide,by decide⟩,_,_,rfl,rfl,(by show (0 :Int) <4;decide),_,rfl,_,_,rfl,rfl,⟨by decide,by decide⟩,_,_,rfl,rfl,⟨by decide,by decide,by decide⟩,_,_,rfl,rfl,(by show (0 :Int) <10^(50 :Int).toNat;decide),(by show 2≤sizeLine;decide),fun y hy=>⟨_,rfl,_,_,rfl,rfl,(by show (0 :Int) <2;decide),y,_,_,V.int z,rfl,rfl,bS.of af,Bl,?_⟩⟩
   have s7:=au.new (o:= .lst [V.int (c/8%4),V.int (c/8%10^(50 :Int).toNat)]) hy
   have sM:=s7 _ _ Ll
   have hb7:∀b o',H' b=some o'→b≠tk→(upd H6 y (.lst [V.int (c/8%4),V.int (c/8%10^(50 :Int).toNat)])) b=some o':=fun b o' z n=>s7 _ _ (T8 b o' z n)
   dsimp only [dB,qi]
   generalize upd H6 y (.lst [V.int (c/8%4),V.int (c/8%10^(50 :Int).toNat)])=H7 at sM hb7 ⊢
   clear s7 Pr T8 Ll Bl q0 q1 q2 q3
   have dg:∀{H8:Hp},au H7 H8→H8 tk=some (.eC o (.dK (av xs))):=fun e8=>e8 _ _ sM
   refine fD (fun σ' H8=>∃am:Int,σ'=[some (.ref a),some (.ref tk),some (.ref gv),some (.ref L),some (.int i),some (kV k),some (.int c),some (.int (aG (av xs) k - aG (av ys) k)),some (oV (iX am (aG (av xs) k) (aG (av ys) k - aG (av xs) k))),some (.int am)]∧Zd xs ys (k,am)∧au H7 H8) (fun N hN=>?_) ?_
   ·refine⟨_,rfl,_,_,rfl,rfl,_,rfl,dY (fun el=>?_) fun el=>?_⟩
    ·have el:aG (av xs) k - aG (av ys) k≤0:=by simpa using el
     refine⟨_,rfl,_,_,rfl,rfl,⟨by decide,by decide⟩,_,_,rfl,rfl,(by show (0 :Int) <200;decide),_,rfl,_,rfl,tk,V.int (aG (av xs) k),rfl, .inl ⟨_,k, .inr ⟨o,sM⟩,rfl,hv.symm⟩,_,rfl,_,_,rfl,rfl,(by show (0 :Int) <4;decide),_,_,rfl,rfl, .inr ⟨_,rfl,_,_,rfl,rfl, .inl ⟨by omega,by omega⟩,_,_,rfl,rfl,?_⟩⟩
     obtain⟨am,T9⟩:∃am:Int,am=c/8%200+aG (av xs) k*(if decide (c%4>0)=true then 1 else 0):=⟨_,rfl⟩
     have am0:0≤am:=by
      have h1:0≤c/8%200:=Int.emod_nonneg _ (by decide)
      rw[T9]
      split<;>omega
     have Bl:xv [V.int 0,V.cI] (if decide (am≥aG (av xs) k)=true then 1 else 0)=some (oV (iX am (aG (av xs) k) (aG (av ys) k - aG (av xs) k))):=by
      unfold iX
      by_cases h:am<aG (av xs) k
      ·rw[if_neg (by simpa using h),if_pos h]
       rfl
      ·rw[if_pos (by simpa using h),if_neg h,if_pos (by omega)]
       rfl
     refine⟨(by show 2≤sizeLine;decide),fun y2 hy2=>?_⟩
     have s8:=au.new (o:= .lst [V.int 0,V.cI]) hy2
     subst T9
     refine⟨_,rfl,_,rfl,_,rfl,tk,V.int (aG (av xs) k),rfl, .inl ⟨_,k, .inr ⟨o,s8 _ _ sM⟩,rfl,hv.symm⟩,_,_,rfl,rfl, .inr ⟨_,rfl,y2,_,_,oV (iX (c/8%200+aG (av xs) k*(if decide (c%4>0)=true then 1 else 0)) (aG (av xs) k) (aG (av ys) k - aG (av xs) k)),rfl,rfl,bS.of af,Bl,hN _ _ ⟨_,rfl,⟨am0,fun T hT=>?_⟩,s8⟩⟩⟩
     have hT0:T=0:=HB (g:=aG (av ys) k - aG (av xs) k) (by omega) hT
     omega
    ·have el:¬aG (av xs) k - aG (av ys) k≤0:=by simpa using el
     refine⟨_,rfl,rfl,_,rfl,dY (fun ez=>?_) fun ez=>?_⟩
     ·have ez:z=0:=by simpa using ez
      have h0:=Int.emod_nonneg (c/32) (b:=aG (av xs) k) (by omega)
      have h1:=Int.emod_lt_of_pos (c/32) Ze
      refine⟨_,rfl,_,_,rfl,rfl,⟨by decide,by decide⟩,_,rfl,_,rfl,tk,V.int (aG (av xs) k),rfl, .inl ⟨_,k, .inr ⟨o,sM⟩,rfl,hv.symm⟩,_,_,rfl,rfl,Ze,hN _ _ ⟨c/32%aG (av xs) k,?_,⟨h0,fun T hT=>?_⟩,au.refl _⟩⟩
      ·unfold iX
       rw[if_pos h1,ez]
       rfl
      ·have hT:iX (c/32%aG (av xs) k) (aG (av xs) k) (aG (av ys) k - aG (av xs) k)=some T:=hT
       unfold iX at hT
       rw[if_pos h1] at hT
       injection hT with hT
       omega
     ·have ez:¬z=0:=by simpa using ez
      have q0:0≤c/2%4:=Int.emod_nonneg _ (by decide)
      have q1:c/2%4<4:=Int.emod_lt_of_pos _ (by decide)
      have hr:=D9 q0 q1 (l:=aG (av xs) k - aG (av ys) k) (by omega)
      have hm:0≤(z - 1)*(aG (av xs) k - aG (av ys) k):=Int.mul_nonneg (by omega) (by omega)
      have ht:=D8 (t:=aG (av xs) k) (z:=z) (l:=aG (av xs) k - aG (av ys) k) (by omega) (by omega) hr.1 hr.2
      rw[Int.neg_sub] at ht
      refine⟨_,rfl,_,rfl,tk,V.int (aG (av xs) k),rfl, .inl ⟨_,k, .inr ⟨o,sM⟩,rfl,hv.symm⟩,_,rfl,_,_,rfl,rfl,_,rfl,_,_,rfl,rfl, .inr ⟨by omega,by omega⟩,_,_,rfl,rfl,_,rfl,_,_,rfl,rfl,⟨by decide,by decide⟩,_,_,rfl,rfl,(by show (0 :Int) <4;decide),_,rfl,_,_,rfl,rfl,_,_,rfl,rfl, .inl ⟨by omega,by omega⟩,_,_,rfl,rfl,⟨by decide,by decide⟩,_,_,rfl,rfl,hN _ _ ⟨aG (av xs) k+(z - 1)*(aG (av xs) k - aG (av ys) k)+c/2%4*(aG (av xs) k - aG (av ys) k - 1) /3,?_,⟨by show 0≤aG (av xs) k+(z - 1)*(aG (av xs) k - aG (av ys) k)+c/2%4*(aG (av xs) k - aG (av ys) k - 1) /3;omega,fun T hT=>?_⟩,au.refl _⟩⟩
      ·rw[ht]
       rfl
      ·have hT:=ht.symm.trans hT
       injection hT with hT
       omega
   rintro σ' H8 ⟨am,rfl,am0,s8⟩
   have hb8:∀b o',H' b=some o'→b≠tk→H8 b=some o':=fun b o' z n=>s8 _ _ (hb7 b o' z n)
   have Ua:=s8 _ _ sM
   have hL8:=hb8 _ _ pV (Ne.symm ntL)
   have iu:=Paired.length hP
   have lB:=congrArg List.length hk
   rw[List.length_map,List.length_map,List.length_take] at lB
   refine⟨_,rfl, .inl ⟨rfl,_,bS.of hL8⟩,_,rfl,_,rfl,_,rfl,(by show 3≤sizeLine;decide),fun t2 OW=>?_⟩
   have s9:=au.new (o:= .tup [kV k, .int am,oV (iX am (aG (av xs) k) (aG (av ys) k - aG (av xs) k))]) OW
   have hL9:=s9 _ _ hL8
   refine⟨L,_,_,rfl,rfl,hL9,by rw[List.length_map];omega,?_⟩
   refine⟨by rw[ah ntL];exact s9 _ _ Ua,ts++[t2],ps++[(k,am)],_,_,_,_,_,_,rfl,?_,fun p' pj=>?_,?_,?_,fun b o' z=>?_⟩
   ·rw[List.map_append,hk,take_snoc hi,List.map_append]
    rfl
   ·rcases List.mem_append.mp pj with z|z
    ·exact Q2 p' z
    ·have ep:p'=(k,am):=by simpa using z
     rw[ep]
     exact am0
   ·rw[ah (Ne.symm ntL),af,List.map_append]
    rfl
   ·have gen:∀{t3:Addr} {p3:Key×Int},(upd H8 t2 (.tup [kV k, .int am,oV (iX am (aG (av xs) k) (aG (av ys) k - aG (av xs) k))])) t3=some (.tup [kV p3.1, .int p3.2,oV (iX p3.2 (aG (av xs) p3.1) (aG (av ys) p3.1 - aG (av xs) p3.1))])→rS (upd (upd (upd H8 t2 (.tup [kV k, .int am,oV (iX am (aG (av xs) k) (aG (av ys) k - aG (av xs) k))])) L (.lst (ts.map V.ref++[V.ref t2]))) tk (.dK (av xs))) xs ys t3 p3:=fun {t3 p3} h3=>by
     show _=_
     rw[ah (cD h3 (s9 _ _ Ua) (by intro z;cases z)),ah (cD h3 hL9 (by intro z;cases z))]
     exact h3
    exact bK (gen af) (aL (fun a b (h:rS H' xs ys a b)=>gen (s9 _ _ (hb8 _ _ h (cD h (e _ _ jN) (by intro z;cases z))))) hP)
   ·by_cases bt:b=tk
    ·subst bt
     rw[af]
     rw[jN] at z
     exact z
    ·rw[ah bt,ah (ag z hL)]
     exact s9 _ _ (hb8 _ _ (e _ _ z) bt)
  ·rintro σ H' ⟨ts,ps,v4,v5,v6,v7,v8,v9,rfl,hk,Q2,pV,hP,e⟩
   rw[List.take_length] at hk
   exact⟨_,rfl,q L ts ps H' hk Q2 pV hP e⟩
variable {uC uP uI uD uL uT fg fj fk uG uS:Tok} {Ch HE Sh St:Addr}
theorem kx:∀(l:List (Option Int)) (o:Option Int),bo (l++[o])=match o with
  |none=>bo l
  |some t=>match bo l with
   |none=>some t
   |some j=>some (if t<j then t else j)
 | [],none=>rfl
 | [],some t=>rfl
 |none::r,o=>kx r o
 |some i::r,o=>by
  have ih:=kx r o
  show (match bo (r++[o]) with|none=>some i|some j=>some (if j<i then j else i))=_
  rw[ih]
  have e:bo (some i::r)=(match bo r with|none=>some i|some j=>some (if j<i then j else i)):=rfl
  rw[e]
  cases o with
  |none=>rfl
  |some t=>
   cases bo r with
   |none=>rfl
   |some j=>
    dsimp only
    congr 1
    split<;>split<;>(try split)<;>(try split)<;>omega
def jR (xs ys:List Tm) (p:Key×Int):Option Int:=iX p.2 (aG (av xs) p.1) (aG (av ys) p.1 - aG (av xs) p.1)
inductive HC (vs:List V) (H:Hp) (Q:VK) (E:XK):Prop
 |mk (L:Addr) (ts:List Addr) (ps:List (Key×Int)) (xs ys:List Tm) (dU:vs=[.ref L]) (dW:H L=some (.lst (ts.map V.ref))) (d5:Paired (rS H xs ys) ts ps) (fe:Q (oV (bo (ps.map (jR xs ys)))) H)
def B3:Sp:=HC
theorem lb:ay ["_law_plan_here","_law_found","_law_text_here","_law_amount","_law_turns"] ["_law_plan_here"] (aj vG):=dq
theorem As {H:Hp} {xs ys:List Tm} {ts:List Addr} {ps:List (Key×Int)} {i:Nat} {v:V} (hP:Paired (rS H xs ys) ts ps) (h:(ts.map V.ref)[i]? =some v):∃t p,v= .ref t∧ps[i]? =some p∧H t=some (.tup [kV p.1, .int p.2,oV (jR xs ys p)]):=by
 rw[List.getElem?_map] at h
 cases hh:ts[i]? with
 |none=>rw[hh] at h;cases h
 |some t=>
  rw[hh] at h
  obtain⟨p,hp,hF⟩:=bI hP hh
  exact⟨t,p,(Option.some.inj h).symm,hp,hF⟩
theorem HD (D:Def K mg "_law_least" "_law_least" vG ["_law_plan_here"]):a9 P w K mg base 1 "_law_least" ["_law_plan_here"] B3:=by
 refine D.cY lb (fun vs H Q E h=>?_) (fun f bg A outer s H vs Q E hr h=>?_)
 ·obtain⟨L,ts,ps,xs,ys,rfl,_⟩:=h
  rfl
 ·obtain⟨L,ts,ps,xs,ys,rfl,hL,hP,q⟩:=h
  have iu:=Paired.length hP
  refine⟨_,(ai
     (aB (i:=1) lb.nd rfl (Or.inl rfl) lP)
    (ai
     (cq PassesOwn.never rfl (cG (pv 0)) (gB rfl (a6 (aK (i:=2) lb.nd rfl (Or.inl rfl)) (a6 (aK (i:=3) lb.nd rfl (Or.inl rfl)) (a6 (aK (i:=4) lb.nd rfl (Or.inl rfl)) dC))))
      (ao
       (bE (PW.pt (lT (gW (kE (pv 4))) (jf (PW.pt (oU (gW (lR (pv 1))) (lS (aO lG (pv 4) (pv 1) (aQ _))))))))
        (ao
         (aB (i:=1) lb.nd rfl (Or.inl rfl) (pv 4)))
        aS)))
    (ao
     (aE (pv 1))))),?_⟩
  refine⟨_,rfl,L,rfl,⟨_,bS.of hL⟩,eF (K:=K) (a:=L) (xs:=ts.map V.ref) (fun i σ H'=>∃v2 v3 v4:Option V,σ=[some (.ref L),some (oV (bo ((ps.take i).map (jR xs ys)))),v2,v3,v4]∧H'=H) ⟨none,none,none,rfl,rfl⟩ (fun i σ H' _ ⟨_,_,_,_,z⟩=>by rw[z];exact bS.of hL) ?_ ?_⟩
  ·rintro i v σ H' hi ⟨v2,v3,v4,rfl,rfl⟩
   obtain⟨t,p,rfl,hp,ht⟩:=As hP hi
   refine⟨t,_,rfl,jL.of ht,rfl,_,_,rfl,_,_,rfl,_,_,rfl,rfl,?_⟩
   have Au:=kx ((ps.take i).map (jR xs ys)) (jR xs ys p)
   have e1:(ps.take (i+1)).map (jR xs ys)=(ps.take i).map (jR xs ys)++[jR xs ys p]:=by rw[take_snoc hp,List.map_append];rfl
   rw[←e1] at Au
   cases hq:jR xs ys p with
   |none=>
    rw[hq] at Au
    dsimp only at Au
    refine⟨_,rfl,_,rfl,d7 ⟨some (kV p.1),some (.int p.2),some .cI,?_,rfl⟩⟩
    rw[Au]
    rfl
   |some j=>
    rw[hq] at Au
    dsimp only at Au
    cases hl:bo ((ps.take i).map (jR xs ys)) with
    |none=>
     rw[hl] at Au
     dsimp only at Au
     refine⟨_,rfl,_,rfl,eQ ⟨_,rfl,_,rfl,eQ ⟨_,rfl,some (kV p.1),some (.int p.2),some (.int j),?_,rfl⟩⟩⟩
     rw[Au]
     rfl
    |some m=>
     rw[hl] at Au
     dsimp only at Au
     refine⟨_,rfl,_,rfl,eQ ⟨_,rfl,_,rfl,d7 ⟨_,rfl,_,rfl,_,_,rfl,rfl,_,rfl,dY (fun c=>?_) fun c=>?_⟩⟩⟩
     ·have c:j<m:=by simpa using c
      rw[if_pos c] at Au
      refine⟨_,rfl,some (kV p.1),some (.int p.2),some (.int j),?_,rfl⟩
      rw[Au]
      rfl
     ·have c:¬j<m:=by simpa using c
      rw[if_neg c] at Au
      refine⟨some (kV p.1),some (.int p.2),some (.int j),?_,rfl⟩
      rw[Au]
      rfl
  ·rintro σ H' ⟨v2,v3,v4,rfl,rfl⟩
   rw[List.length_map,iu,List.take_length]
   exact⟨_,rfl,q⟩
def ir (xs ys:List Tm) (T:Int):List (Key×Int)→Option (Key×Int)
 | []=>none
 |p::r=>if jR xs ys p=some T then some (p.1,aG (av xs) p.1+T*(aG (av xs) p.1 - aG (av ys) p.1) - p.2) else ir xs ys T r
theorem ky (xs ys:List Tm) (T:Int) (p:Key×Int) (r:List (Key×Int)):ir xs ys T (p::r)=if jR xs ys p=some T then some (p.1,aG (av xs) p.1+T*(aG (av xs) p.1 - aG (av ys) p.1) - p.2) else ir xs ys T r:=rfl
inductive HF (vs:List V) (H:Hp) (Q:VK) (E:XK):Prop
 |mk (L tk gv:Addr) (T:Int) (ts:List Addr) (ps:List (Key×Int)) (xs ys:List Tm) (dU:vs=[.ref L, .int T, .ref tk, .ref gv]) (dW:H L=some (.lst (ts.map V.ref))) (d5:Paired (rS H xs ys) ts ps) (fe:H tk=some (.dK (av xs))) (gH:H gv=some (.dK (av ys))) (jb:(∀p∈ps,p.1∈(av xs).map (·.1))) (nM:(∀x∈xs,iz 100000000000 x)) (su:(∀y∈ys,iz 100000000000 y)) (A9:xs.length≤8) (Kd:ys.length≤8) (DW:(∀k l tt H',ir xs ys T ps=some (k,l)→H' tt=some (.tup [.int (T+1),kV k, .int l])→au H H'→Q (.ref tt) H')) (Td:(ir xs ys T ps=none→Q .cI H))
def B4:Sp:=HF
theorem nC:ay ["_law_plan_here","_law_turns","_law_takes","_law_gives","_law_text_here","_law_amount","_law_many","_law_less"] ["_law_plan_here","_law_turns","_law_takes","_law_gives"] (aj vH):=dq
theorem HG (D:Def K mg "_law_first" "_law_first" vH ["_law_plan_here","_law_turns","_law_takes","_law_gives"]):a9 P w K mg base 1 "_law_first" ["_law_plan_here","_law_turns","_law_takes","_law_gives"] B4:=by
 refine D.cY nC (fun vs H Q E h=>?_) (fun f bg A outer s H vs Q E hr h=>?_)
 ·obtain⟨L,tk,gv,T,ts,ps,xs,ys,rfl,_⟩:=h
  rfl
 ·obtain⟨L,tk,gv,T,ts,ps,xs,ys,rfl,hL,hP,jN,yH,C1,iN,km,lx,ly,q,qN⟩:=h
  have hu:=dn hr
  have iu:=Paired.length hP
  have K4:bu (av xs):=bQ _
  have K9:bu (av ys):=bQ _
  refine⟨_,(ai
     (cq PassesOwn.never rfl (cG (pv 0)) (gB rfl (a6 (aK (i:=4) nC.nd rfl (Or.inl rfl)) (a6 (aK (i:=5) nC.nd rfl (Or.inl rfl)) (a6 (aK (i:=6) nC.nd rfl (Or.inl rfl)) dC))))
      (ao
       (bE (PW.pt (lT (gW (kE (pv 6))) (jf (aO dJ (pv 6) (pv 1) (aQ _)))))
        (ai
         (aB (i:=7) nC.nd rfl (Or.inl rfl) (az fu (bN hu (pv 2) (pv 4) (fun _ _=>rfl)) (bP hu (pv 3) (pv 4) aq ⟨rfl,rfl,rfl,rfl⟩)))
        (ao
         (aE (bW (aa (az bO (pv 1) aq) (aa (pv 4) (aa (az fu (az bO (bN hu (pv 2) (pv 4) (fun _ _=>rfl)) (az dI (pv 1) (pv 7))) (pv 5)) ak)))))))
        aS)))
    (ao
     (aE lP))),?_⟩
  refine⟨_,rfl,L,rfl,⟨_,bS.of hL⟩,eF (K:=K) (a:=L) (xs:=ts.map V.ref) (fun i σ H'=>∃v4 v5 v6 v7:Option V,σ=[some (.ref L),some (.int T),some (.ref tk),some (.ref gv),v4,v5,v6,v7]∧H'=H∧ir xs ys T (ps.drop i)=ir xs ys T ps) ⟨none,none,none,none,rfl,rfl,rfl⟩ (fun i σ H' _ ⟨_,_,_,_,_,z,_⟩=>by rw[z];exact bS.of hL) ?_ ?_⟩
  ·rintro i v σ H' hi ⟨v4,v5,v6,v7,rfl,rfl,hf⟩
   obtain⟨t,p,rfl,hp,ht⟩:=As hP hi
   have yM:=(List.getElem?_eq_some_iff.mp hp).1
   have JG:ps.drop i=p::ps.drop (i+1):=by
    rw[List.drop_eq_getElem_cons yM]
    congr 1
    exact(List.getElem?_eq_some_iff.mp hp).2
   rw[JG,ky] at hf
   have hv:=K4.wI (C1 p (List.mem_of_getElem? hp))
   have tb:=iP iN lx p.1
   have gb:=iP km ly p.1
   refine⟨t,_,rfl,jL.of ht,rfl,_,_,rfl,_,_,rfl,_,_,rfl,rfl,?_⟩
   cases hq:jR xs ys p with
   |none=>
    rw[if_neg (by rw[hq];intro z;cases z)] at hf
    exact⟨_,rfl,_,rfl,d7 ⟨some (kV p.1),some (.int p.2),some .cI,v7,rfl,rfl,hf⟩⟩
   |some j=>
    refine⟨_,rfl,_,rfl,eQ ⟨_,rfl,_,rfl,rfl,_,rfl,dY (fun c=>?_) fun c=>?_⟩⟩
    ·have c:j=T:=by simpa [oV] using c
     rw[if_pos (by rw[hq,c])] at hf
     refine⟨_,rfl,_,rfl,tk,V.int (aG (av xs) p.1),rfl, .inl ⟨_,p.1, .inl jN,rfl,hv.symm⟩,_,rfl,gv,rfl, .inl ⟨_, .inl yH⟩,_,rfl,_,gk.k (k:=p.1) yH,?_⟩
     rw[K9.at p.1]
     refine⟨_,_,rfl,rfl,?_⟩
     exact⟨_,rfl,_,_,rfl,rfl,_,rfl,_,rfl,_,rfl,tk,V.int (aG (av xs) p.1),rfl, .inl ⟨_,p.1, .inl jN,rfl,hv.symm⟩,_,rfl,_,rfl,_,_,rfl,rfl, .inr ⟨by omega,by omega⟩,_,_,rfl,rfl,_,rfl,_,_,rfl,rfl,(by show 3≤sizeLine;decide),fun tt htt=>q _ _ tt _ hf.symm af (au.new htt)⟩
    ·have c:¬j=T:=by simpa [oV] using c
     rw[if_neg (by rw[hq];intro z;exact c (Option.some.inj z))] at hf
     exact⟨some (kV p.1),some (.int p.2),some (.int j),v7,rfl,rfl,hf⟩
  ·rintro σ H' ⟨v4,v5,v6,v7,rfl,rfl,hf⟩
   rw[List.length_map,iu,List.drop_length] at hf
   exact qN hf.symm
inductive HH (St:Addr) (vs:List V) (H:Hp) (Q:VK) (E:XK):Prop
 |mk (st d g:Addr) (x:Str) (kvs:List (Key×V)) (xs ys:List Tm) (o:Option Int) (dU:vs=[.ref st, .str x,oV o]) (dW:lK St H st d g) (d5:H d=some (.dK kvs)) (fe:bu kvs) (gH:Aj x xs ys) (jb:o=lL kvs xs ys) (nM:∀H',au H H'→Q (.bl true) H')
def B5 (St:Addr):Sp:=HH St
theorem B6:ay ["_law_store","_law_text_here","_law_due","_law_found"] ["_law_store","_law_text_here","_law_due"] (aj vI):=dq
theorem HI (D:Def K mg "_law_most" "_law_most" vI ["_law_store","_law_text_here","_law_due"]) (T:G9 K mg C R G Pc Fo Ch St uK uN uB uE uM uC uP uI uD uL uT fg fj fk uG uS) (c1:aM P w K mg base 16 St "most" ["self","text"] (B2 St)) (c2:a9 P w K mg base 1 "_law_whole" ["_law_found"] pQ):a9 P w K mg base 17 "_law_most" ["_law_store","_law_text_here","_law_due"] (B5 St):=by
 obtain⟨_,_,jI⟩:=c1
 obtain⟨_,_,bM⟩:=c2
 refine D.cY B6 (fun vs H Q E h=>?_) (fun f bg A outer s H vs Q E hr h=>?_)
 ·obtain⟨st,d,g,x,kvs,xs,ys,o,rfl,_⟩:=h
  rfl
 ·obtain⟨st,d,g,x,kvs,xs,ys,o,rfl,⟨dx,gz⟩,hd,hI,Pf,ho,q⟩:=h
  refine⟨_,(ai
     (aB (i:=3) B6.nd rfl (Or.inl rfl) (bU (pv 0) T.b8 jI.m jI.ok (hr.mono (by decide)) jI.b .nil aA (aa (pv 1) ak)))
    (ai
     (bE (gW (lR (pv 2)))
      (ao
       (aE (EE (lR (pv 3)))))
      aS)
    (ao
     (aE (nS (aF bM.ok (hr.mono (by decide)) rfl bM.g bM.kp bM.b .nil aA (aa (pv 3) ak)) (uX (kG dJ (pv 3) (pv 2) (aQ _)))))))),?_⟩
  refine⟨_,rfl,st,dx,_,rfl,gz,kn _ _ (by decide+kernel) (by decide+kernel),_,rfl,st,d,g,x,kvs,xs,ys,rfl,⟨dx,gz⟩,hd,hI,Pf,fun H1 e1=>?_⟩
  rw[←ho]
  cases o with
  |none=>exact⟨_,rfl,_,rfl,eQ ⟨_,rfl,q H1 e1⟩⟩
  |some j=>
   refine⟨_,rfl,_,rfl,d7 ⟨_,rfl,j,rfl,_,rfl,eQ ⟨_,rfl,_,rfl,rfl,?_⟩⟩⟩
   rw[show decide (oV (some j)=oV (some j))=true from decide_eq_true rfl]
   exact q H1 e1
def Ea (kvs:List (Key×V)) (xs ys:List Tm) (m:Int):List (Key×V):=fq m (fq (-m) kvs (av xs) (av xs)) (av ys) (av ys)
inductive Eb (vs:List V) (H:Hp) (Q:VK) (E:XK):Prop
 |mk (am tk gv:Addr) (m:Int) (kvs:List (Key×V)) (xs ys:List Tm) (dU:vs=[.ref am, .ref tk, .ref gv, .int m]) (dW:H am=some (.dK kvs)) (d5:bu kvs) (fe:kvs.length≤100) (gH:H tk=some (.dK (av xs))) (jb:H gv=some (.dK (av ys))) (nM:(∀x∈xs,iz 100000000000 x)) (su:(∀y∈ys,iz 100000000000 y)) (A9:xs.length≤8) (Kd:ys.length≤8) (DW:∀e H',H e=none→H' e=some (.dK (Ea kvs xs ys m))→au H H'→Q (.ref e) H')
def yI:Sp:=Eb
theorem nE:ay ["_law_amounts_here","_law_takes","_law_gives","_law_times","_law_found","_law_text_here"] ["_law_amounts_here","_law_takes","_law_gives","_law_times"] (aj pP):=dq
theorem Ec (D:Def K mg "_law_behind" "_law_behind" pP ["_law_amounts_here","_law_takes","_law_gives","_law_times"]) (T:SD K mg C):a9 P w K mg base 1 "_law_behind" ["_law_amounts_here","_law_takes","_law_gives","_law_times"] yI:=by
 refine D.cY nE (fun vs H Q E h=>?_) (fun f bg A outer s H vs Q E hr h=>?_)
 ·obtain⟨am,tk,gv,m,kvs,xs,ys,rfl,_⟩:=h
  rfl
 ·obtain⟨am,tk,gv,m,kvs,xs,ys,rfl,yw,hI,hl,jN,yH,iN,km,lx,ly,q⟩:=h
  have hu:=dn hr
  have big:(2000 :Nat)≤sizeLine:=by decide
  have K4:bu (av xs):=bQ _
  have K9:bu (av ys):=bQ _
  have Ub:∀zs:List Tm,zs.length≤8→(av zs).length≤8:=fun zs h=>by
   have:=cU (eO zs)
   have e:(eO zs).length=zs.length:=by unfold eO;rw[List.length_map]
   unfold av
   omega
  have GX:=Ub xs lx
  have hgl:=Ub ys ly
  refine⟨_,(ai
     (aB (i:=4) nE.nd rfl (Or.inl rfl) (bC lV rfl T.jA iC (aa (pv 0) ak)))
    (ai
     (eM (cq PassesOwn.never rfl (dE (pv 1)) (aK (i:=5) nE.nd rfl (Or.inl rfl))
      (ao
       (dX hu (pv 4) (pv 5) (az fu (bP hu (pv 4) (pv 5) aq ⟨rfl,rfl,rfl,rfl⟩) (az dI (pv 3) (bN hu (pv 1) (pv 5) (fun _ _=>rfl)))) rfl))))
    (ai
     (eM (cq PassesOwn.never rfl (dE (pv 2)) (aK (i:=5) nE.nd rfl (Or.inl rfl))
      (ao
       (dX hu (pv 4) (pv 5) (az bO (bP hu (pv 4) (pv 5) aq ⟨rfl,rfl,rfl,rfl⟩) (az dI (pv 3) (bN hu (pv 2) (pv 5) (fun _ _=>rfl)))) rfl))))
    (ao
     (aE (pv 4)))))),?_⟩
  refine⟨_,rfl,am,_,rfl, .inl yw,fun fd Uc=>?_⟩
  have s1:=au.new (o:= .dK kvs) Uc
  have Lm:=s1 _ _ jN
  have Pt:=s1 _ _ yH
  have Ud:(upd H fd (.dK kvs)) fd=some (.dK kvs):=af
  have Zf:fd≠tk:=Ne.symm (ag jN Uc)
  have Zg:fd≠gv:=Ne.symm (ag yH Uc)
  generalize upd H fd (.dK kvs)=H3 at s1 Lm Pt Ud ⊢
  have htk4:∀o',(upd H3 fd o') tk=some (.dK (av xs)):=fun o'=>by rw[ah (Ne.symm Zf)];exact Lm
  have Ue:∀o',(upd H3 fd o') gv=some (.dK (av ys)):=fun o'=>by rw[ah (Ne.symm Zg)];exact Pt
  dsimp only [dB]
  refine⟨_,rfl,tk,av xs,rfl,Lm,fun o nf=>fA nf (fun j σ H'=>∃v5:Option V,σ=[some (.ref am),some (.ref tk),some (.ref gv),some (.int m),some (.ref fd),v5]∧H'=upd H3 fd (.dK (fq (-m) kvs ((av xs).take j) (av xs)))) ⟨none,rfl,(dO Ud).symm⟩ (fun j σ H' ⟨_,_,z⟩=>by rw[z];exact htk4 _) ?_ ?_⟩
  ·rintro j k v σ H' hj ⟨v5,rfl,rfl⟩
   have hm:=List.mem_of_getElem? hj
   have hv:=K4.dZ hm
   have Gx:=cV (-m) (av xs) ((av xs).take j) _ hI
   have Y0:=fI (-m) (av xs) ((av xs).take j) kvs
   have Kz:((av xs).take j).length≤(av xs).length:=List.length_take_le' _ _
   have tb:=iP iN lx k
   have n4:∀o',(upd (upd H3 fd (.dK (fq (-m) kvs ((av xs).take j) (av xs)))) tk o') fd=some (.dK (fq (-m) kvs ((av xs).take j) (av xs))):=fun o'=>by rw[ah Zf];exact af
   refine⟨_,rfl,fd,rfl, .inl ⟨_, .inl (n4 _)⟩,_,rfl,_,gk.k (k:=k) (n4 _),_,rfl,_,rfl,_,rfl,tk,V.int (aG (av xs) k),rfl, .inl ⟨_,k, .inr ⟨o,af⟩,rfl,hv.symm⟩,_,_,rfl,rfl, .inr ⟨by omega,by omega⟩,_,_,Gx.at k,rfl,_,rfl,_,rfl,fd,_,rfl,lz.k (k:=k) (n4 _) (by omega),?_⟩
   refine⟨by rw[ah (Ne.symm Zf)];exact af,some (kV k),rfl,?_⟩
   rw[ja Zf Lm]
   show upd H3 fd (.dK (putK _ k (.int (_ - _))))=_
   have ez:∀a b:Int,a - m*b=a+ -m*b:=fun a b=>by rw[Int.neg_mul];omega
   rw[ez]
   unfold fq
   rw[take_snoc hj,List.foldl_append]
   rfl
  ·rintro σ H' ⟨v5,rfl,rfl⟩
   rw[List.take_length]
   have hIv:=cV (-m) (av xs) (av xs) _ hI
   have hvl:=fI (-m) (av xs) (av xs) kvs
   have ew:Ea kvs xs ys m=fq m (fq (-m) kvs (av xs) (av xs)) (av ys) (av ys):=rfl
   generalize fq (-m) kvs (av xs) (av xs)=W at hIv hvl ew ⊢
   refine⟨_,rfl,gv,av ys,rfl,Ue _,fun o nf=>fA nf (fun j σ H'=>∃v5:Option V,σ=[some (.ref am),some (.ref tk),some (.ref gv),some (.int m),some (.ref fd),v5]∧H'=upd H3 fd (.dK (fq m W ((av ys).take j) (av ys)))) ⟨v5,rfl,rfl⟩ (fun j σ H' ⟨_,_,z⟩=>by rw[z];exact Ue _) ?_ ?_⟩
   ·rintro j k v σ H' hj ⟨v5,rfl,rfl⟩
    have hm:=List.mem_of_getElem? hj
    have hv:=K9.dZ hm
    have Gx:=cV m (av ys) ((av ys).take j) _ hIv
    have Y0:=fI m (av ys) ((av ys).take j) W
    have Kz:((av ys).take j).length≤(av ys).length:=List.length_take_le' _ _
    have tb:=iP km ly k
    have n4:∀o',(upd (upd H3 fd (.dK (fq m W ((av ys).take j) (av ys)))) gv o') fd=some (.dK (fq m W ((av ys).take j) (av ys))):=fun o'=>by rw[ah Zg];exact af
    refine⟨_,rfl,fd,rfl, .inl ⟨_, .inl (n4 _)⟩,_,rfl,_,gk.k (k:=k) (n4 _),_,rfl,_,rfl,_,rfl,gv,V.int (aG (av ys) k),rfl, .inl ⟨_,k, .inr ⟨o,af⟩,rfl,hv.symm⟩,_,_,rfl,rfl, .inr ⟨by omega,by omega⟩,_,_,Gx.at k,rfl,_,rfl,_,rfl,fd,_,rfl,lz.k (k:=k) (n4 _) (by omega),?_⟩
    refine⟨by rw[ah (Ne.symm Zg)];exact af,some (kV k),rfl,?_⟩
    rw[ja Zg Pt]
    unfold fq
    rw[take_snoc hj,List.foldl_append]
    rfl
   ·rintro σ H' ⟨v5,rfl,rfl⟩
    rw[List.take_length]
    exact⟨_,rfl,q fd _ Uc (by rw[ew];exact af) fun b o' z=>by rw[ah (ag z Uc)];exact s1 _ _ z⟩
def gU (ps:List (Key×Int)):List (Key×V):=ps.map fun p=>(p.1,V.int p.2)
theorem fO (ps:List (Key×Int)):bu (gU ps):=fun q hq=>by
 obtain⟨p,_,rfl⟩:=List.mem_map.mp hq
 exact⟨p.2,rfl⟩
theorem kz (ps:List (Key×Int)):(gU ps).map (·.1)=ps.map (·.1):=by
 unfold gU
 rw[List.map_map]
 rfl
theorem Av {ps:List (Key×Int)} (hn:(ps.map (·.1)).Nodup) {p:Key×Int} (hp:p∈ps):aG (gU ps) p.1=p.2:=by
 have hm:(p.1,V.int p.2)∈gU ps:=List.mem_map.mpr ⟨p,hp,rfl⟩
 exact eK (gZ (by rw[kz];exact hn) hm)
theorem rT {α β γ:Type} (F:α→γ):∀{l:List (α×β)} {m:List (α×Int)},l.map (·.1)=m.map (·.1)→l.map (fun q=>F q.1)=m.map fun p=>F p.1
 | [],[],_=>rfl
 | [],_::_,h=>by cases h
 |_::_,[],h=>by cases h
 |q::l,p::m,h=>by
  rw[List.map_cons,List.map_cons] at h ⊢
  injection h with h1 h2
  rw[rT F h2,h1]
structure wQ (xs:List Tm) (ps:List (Key×Int)):Prop where
 keys:ps.map (·.1)=(av xs).map (·.1)
 nn:∀p∈ps,0≤p.2
theorem wQ.nd {xs:List Tm} {ps:List (Key×Int)} (h:wQ xs ps):(ps.map (·.1)).Nodup:=by rw[h.keys];exact wM xs
theorem oR {xs ys:List Tm} {ps:List (Key×Int)} (h:wQ xs ps):lL (gU ps) xs ys=bo (ps.map (jR xs ys)):=by
 unfold lL
 rw[rT (fun k=>iX (aG (gU ps) k) (aG (av xs) k) (aG (gQ xs ys) k)) h.keys.symm]
 congr 1
 apply List.map_congr_left
 intro p hp
 rw[Av h.nd hp,Hs]
 rfl
theorem Ed {xs ys:List Tm} {ps:List (Key×Int)} {T:Int} (h:bo (ps.map (jR xs ys))=some T) {p:Key×Int} (hp:p∈ps):jR xs ys p=some T↔p.2+T*(aG (av ys) p.1 - aG (av xs) p.1) <aG (av xs) p.1:=by
 obtain⟨h1,h2⟩:=eY h
 obtain⟨p0,hp0,e0⟩:=List.mem_map.mp h1
 have T0:=(kr e0).1
 constructor
 ·intro e
  exact(kr e).2.2
 ·intro c
  cases e:jR xs ys p with
  |none=>
   obtain⟨n,rfl⟩:=Int.eq_ofNat_of_zero_le T0
   have:=yD e n
   omega
  |some i=>
   have hi:=h2 i (by rw[←e];exact List.mem_map_of_mem hp)
   by_cases d:T<i
   ·have:=(kr e).2.1 T T0 d
    omega
   ·congr 1
    omega
theorem uA {xs ys:List Tm} {T:Int} {th:List (Key×V)}:∀{l:List (Key×V)} {ps:List (Key×Int)},l.map (·.1)=ps.map (·.1)→(∀p∈ps,aG th p.1=p.2+T*(aG (av ys) p.1 - aG (av xs) p.1))→(∀p∈ps,jR xs ys p=some T↔p.2+T*(aG (av ys) p.1 - aG (av xs) p.1) <aG (av xs) p.1)→pb th (av xs) l=ir xs ys T ps
 | [],[],_,_,_=>rfl
 | [],_::_,h,_,_=>by cases h
 |_::_,[],h,_,_=>by cases h
 |q::l,p::ps,h,hz,hi=>by
  rw[List.map_cons,List.map_cons] at h
  injection h with h1 h2
  have z:=hz p (List.mem_cons_self ..)
  have i:=hi p (List.mem_cons_self ..)
  rw[mf,ky,uA h2 (fun p' pj=>hz p' (List.mem_cons_of_mem _ pj)) (fun p' pj=>hi p' (List.mem_cons_of_mem _ pj)),h1,z]
  have e:T*(aG (av xs) p.1 - aG (av ys) p.1)= -(T*(aG (av ys) p.1 - aG (av xs) p.1)):=by rw[←Int.mul_neg,Int.neg_sub]
  by_cases c:jR xs ys p=some T
  ·have:=i.mp c
   rw[if_pos (by omega),if_pos c,e]
   congr 2
   omega
  ·have:¬p.2+T*(aG (av ys) p.1 - aG (av xs) p.1) <aG (av xs) p.1:=fun x=>c (i.mpr x)
   rw[if_neg (by omega),if_neg c]
theorem rV {xs ys:List Tm} {ps:List (Key×Int)} (h:wQ xs ps) {T m:Int} (hT:bo (ps.map (jR xs ys))=some T) (hm:T<m):cw (gU ps) xs ys m=(ir xs ys T ps).map fun p=>(T,p.1,p.2):=by
 unfold cw
 rw[oR h,hT]
 dsimp only
 rw[if_neg (by omega),uA h.keys.symm (fun p hp=>by rw[Ar,Av h.nd hp,Hs]) fun p hp=>Ed hT hp]
theorem uF {xs ys:List Tm} {ps:List (Key×Int)} (h:wQ xs ps) {m:Int} (hm:∀T,bo (ps.map (jR xs ys))=some T→m≤T):cw (gU ps) xs ys m=none:=by
 unfold cw
 rw[oR h]
 cases e:bo (ps.map (jR xs ys)) with
 |none=>rfl
 |some T=>
  dsimp only
  rw[if_pos (hm T e)]
theorem kA {xs ys:List Tm} {T:Int}:∀{ps:List (Key×Int)},some T∈ps.map (jR xs ys)→∃p∈ps,jR xs ys p=some T∧ir xs ys T ps=some (p.1,aG (av xs) p.1+T*(aG (av xs) p.1 - aG (av ys) p.1) - p.2)
 | [],h=>by cases h
 |p::r,h=>by
  rw[ky]
  by_cases c:jR xs ys p=some T
  ·rw[if_pos c]
   exact⟨p,List.mem_cons_self ..,c,rfl⟩
  ·rw[if_neg c]
   rw[List.map_cons] at h
   rcases List.mem_cons.mp h with z|z
   ·exact absurd z.symm c
   ·obtain⟨p',pj,c',e'⟩:=kA z
    exact⟨p',List.mem_cons_of_mem _ pj,c',e'⟩
theorem Ee {a t g m:Int} (m0:0≤m) (h:∀T,iX a t g=some T→m≤T):iX (a+m*g) t g=(iX a t g).map fun T=>T - m:=by
 cases e:iX a t g with
 |none=>
  obtain⟨n,rfl⟩:=Int.eq_ofNat_of_zero_le m0
  have h1:=yD e n
  unfold iX at e ⊢
  split at e
  ·cases e
  ·split at e
   ·rename_i h2 h3
    rw[if_neg (by omega),if_pos h3]
    rfl
   ·cases e
 |some T=>
  have hT:=h T e
  have hs:=kr e
  show _=some (T - m)
  by_cases c:m<T
  ·have h1:=hs.2.1 m m0 c
   unfold iX at e ⊢
   split at e
   ·injection e with e
    omega
   ·split at e
    ·cases e
    ·rename_i h2 h3
     injection e with e
     rw[if_neg (by omega),if_neg h3]
     congr 1
     have:a+m*g - t=(a - t)+(-m)*(-g):=by rw[Int.neg_mul_neg];omega
     rw[this,Int.add_mul_ediv_right _ _ (by omega)]
     omega
  ·have em:m=T:=by omega
   subst em
   have h1:=hs.2.2
   unfold iX
   rw[if_pos h1]
   congr 1
   omega
theorem mi (m:Int):∀l:List (Option Int),bo (l.map fun o=>o.map fun T=>T - m)=(bo l).map fun T=>T - m
 | []=>rfl
 |none::r=>mi m r
 |some i::r=>by
  have ih:=mi m r
  show (match bo (r.map fun o=>o.map fun T=>T - m) with|none=>some (i - m) |some j=>some (if j<i - m then j else i - m))=(match bo r with|none=>some i|some j=>some (if j<i then j else i):Option Int).map fun T=>T - m
  rw[ih]
  cases bo r with
  |none=>rfl
  |some j=>
   show some (if j - m<i - m then j - m else i - m)=some ((if j<i then j else i) - m)
   congr 1
   split<;>split<;>omega
theorem Ef {xs ys:List Tm} {ps:List (Key×Int)} (h:wQ xs ps) {m:Int} (m0:0≤m) (hm:∀T,bo (ps.map (jR xs ys))=some T→m≤T):lL (de (gU ps) xs ys m) xs ys=(bo (ps.map (jR xs ys))).map fun T=>T - m:=by
 unfold lL
 rw[rT (fun k=>iX (aG (de (gU ps) xs ys m) k) (aG (av xs) k) (aG (gQ xs ys) k)) h.keys.symm,←mi,List.map_map]
 congr 1
 apply List.map_congr_left
 intro p hp
 show iX (aG (de (gU ps) xs ys m) p.1) (aG (av xs) p.1) (aG (gQ xs ys) p.1)=(jR xs ys p).map fun T=>T - m
 rw[Ar,Av h.nd hp,Hs]
 refine Ee m0 fun T e=>?_
 cases e2:bo (ps.map (jR xs ys)) with
 |none=>
  have:=ku e2 _ (List.mem_map_of_mem (f:=jR xs ys) hp)
  rw[show jR xs ys p=some T from e] at this
  cases this
 |some T'=>
  have h1:=hm T' e2
  have h2:=(eY e2).2 T (by rw[←(show jR xs ys p=some T from e)];exact List.mem_map_of_mem hp)
  omega
theorem rW (c:Int) (acc l all:List (Key×V)):(fq c acc l all).map (·.1)=cQ (acc.map (·.1)) (l.map (·.1)):=by
 rw[rF,g9,List.map_map]
 rfl
theorem wR:∀{L K:List Key},(∀k∈L,k∈K)→cQ K L=K
 | [],_,_=>rfl
 |x::L,K,h=>by
  show cQ (gq K x) L=K
  have e:gq K x=K:=by unfold gq;rw[if_pos (h x (List.mem_cons_self ..))]
  rw[e]
  exact wR fun k hk=>h k (List.mem_cons_of_mem _ hk)
theorem kB (f:Key→Bool):∀{L K:List Key},(∀k∈L,f k=false→k∈K)→cQ K (L.filter f)=cQ K L
 | [],_,_=>rfl
 |x::L,K,h=>by
  have ht:∀k∈L,f k=false→k∈gq K x:=fun k hk hf=>xP.mpr (.inl (h k (List.mem_cons_of_mem _ hk) hf))
  cases e:f x with
  |true=>
   rw[List.filter_cons_of_pos e]
   show cQ (gq K x) (L.filter f)=cQ (gq K x) L
   exact kB f ht
  |false=>
   rw[List.filter_cons_of_neg (by rw[e];decide)]
   have e2:gq K x=K:=by unfold gq;rw[if_pos (h x (List.mem_cons_self ..) e)]
   show cQ K (L.filter f)=cQ (gq K x) L
   rw[e2] at ht ⊢
   exact kB f ht
theorem HJ {xs ys:List Tm} (km:∀y∈ys,iz 100000000000 y) {ps:List (Key×Int)} (h:wQ xs ps) (m:Int):Ea (gU ps) xs ys m=de (gU ps) xs ys m:=by
 have hK:(gU ps).map (·.1)=(av xs).map (·.1):=by rw[kz,h.keys]
 have Ug:=B0 km
 have k1:(Ea (gU ps) xs ys m).map (·.1)=cQ ((av xs).map (·.1)) ((av ys).map (·.1)):=by
  unfold Ea
  rw[rW,rW,hK,wR (L:=(av xs).map (·.1)) fun k hk=>hk]
 have kK:(p7 xs ys).map (·.1)=cQ ((av ys).map (·.1)) ((eO xs).map fun p=>(Sum.inr p.1 :Key)):=by
  show (a7 (-1) (av ys) (eO xs)).map (·.1)=_
  rw[m9,g9,List.map_map]
  rfl
 have hX:∀k∈(eO xs).map (fun p=>(Sum.inr p.1 :Key)),k∈(av xs).map (·.1):=fun k hk=>by
  obtain⟨p,hp,rfl⟩:=List.mem_map.mp hk
  exact Ao 1 (eO xs) [] hp
 have k2:(de (gU ps) xs ys m).map (·.1)=cQ ((av xs).map (·.1)) ((gQ xs ys).map (·.1)):=by
  unfold de
  rw[rW,hK]
 have kg:(gQ xs ys).map (·.1)=((p7 xs ys).map (·.1)).filter fun k=>decide (¬aG (p7 xs ys) k=0):=by
  unfold gQ pZ
  rw[List.map_map,List.filter_map]
  rfl
 have k3:cQ ((av xs).map (·.1)) ((gQ xs ys).map (·.1))=cQ ((av xs).map (·.1)) ((av ys).map (·.1)):=by
  rw[kg,kB _ fun k hk hf=>?_,kK,oo,wR fun k hk=>j9.mpr (.inl (hX k hk))]
  have hz:aG (p7 xs ys) k=0:=by simpa using hf
  rw[kK] at hk
  rcases j9.mp hk with hk|hk
  ·refine Classical.byContradiction fun n=>?_
   have e1:aG (p7 xs ys) k=aG (gQ xs ys) k:=(MA (wu xs ys) k).symm
   obtain⟨q,hq,eq⟩:=List.mem_map.mp hk
   have p1:=Ug q hq
   rw[eq] at p1
   rw[e1,Hs,m8 n] at hz
   omega
  ·exact hX k hk
 refine xO (cV _ _ _ _ (cV _ _ _ _ (fO ps))) (cV _ _ _ _ (fO ps)) ?_ (by rw[k1,k2,k3]) fun k=>?_
 ·rw[k1,←k3,←k2]
  have:∀(l acc:List (Key×V)) (c:Int) (all:List (Key×V)),(acc.map (·.1)).Nodup→((fq c acc l all).map (·.1)).Nodup:=fun l=>by
   induction l with
   |nil=>intro acc c all hn;exact hn
   |cons q r ih=>intro acc c all hn;exact ih _ c all (qM hn)
  exact this _ _ _ _ (by rw[hK];exact wM xs)
 ·unfold Ea
  rw[Ar,Hs,wz m (wM ys),wz (-m) (wM xs),Int.mul_sub,Int.neg_mul]
  omega
theorem HK (xs:List Tm) (k:Key):sumZ xs.reverse k=sumZ xs k:=by
 induction xs with
 |nil=>rfl
 |cons x r ih=>
  rw[List.reverse_cons,ip,ih,eX,eX,fN]
  omega
theorem rQ.rev {ws:List Fm} {n:Nat} {xs ys:List Tm} (h:rQ ws n xs ys) (h4:xs.length≤4):rQ ws 8 xs xs.reverse:=by
 obtain⟨h1,_,h3,_,_,_⟩:=h
 exact⟨h1,by simpa using h1,h3,fun y hy=>h3 y (List.mem_reverse.mp hy),by rw[List.length_reverse];omega,fun k=>(HK xs k).symm⟩
theorem rX {α β:Type} {p:α→β→Prop}:∀{as:List α} {bs:List β},Paired p as bs→Paired p as.reverse bs.reverse
 |_,_, .nil=> .nil
 |_,_, .cons h t=>by
  rw[List.reverse_cons,List.reverse_cons]
  exact bK h (rX t)
theorem B7 (c:Int) (all:List (Key×V)):∀(l acc:List (Key×V)),(acc.map (·.1)).Nodup→((fq c acc l all).map (·.1)).Nodup
 | [],_,h=>h
 |q::r,acc,h=>B7 c all r (cA acc q.1 (c*aG all q.1)) (qM h)
theorem HL {xs ys:List Tm} (iN:∀x∈xs,iz 100000000000 x) (km:∀y∈ys,iz 100000000000 y) (lx:xs.length≤8) (ly:ys.length≤8) {ps:List (Key×Int)} (h:wQ xs ps) (hb:∀p∈ps,Zd xs ys p) {m t:Int} {k:Key} {l:Int} (hs:cw (gU ps) xs ys m=some (t,k,l)):
  bo (ps.map (jR xs ys))=some t∧t<m∧ir xs ys t ps=some (k,l)∧k∈(av xs).map (·.1)∧0≤t+1∧t+1<10^60∧0≤l∧l<10^60:=by
 cases e:bo (ps.map (jR xs ys)) with
 |none=>
  rw[uF h (fun T hT=>by rw[e] at hT;cases hT)] at hs
  cases hs
 |some T=>
  by_cases c:m≤T
  ·rw[uF h (fun T' hT=>by rw[e] at hT;injection hT with hT;omega)] at hs
   cases hs
  obtain⟨p,hp,hq,hf⟩:=kA (eY e).1
  rw[rV h e (by omega),hf] at hs
  injection hs with hs
  injection hs with h1 h2
  injection h2 with h3 h4
  have sS:iX p.2 (aG (av xs) p.1) (aG (av ys) p.1 - aG (av xs) p.1)=some T:=hq
  have hT:=kr sS
  have hB:=(hb p hp).2 T sS
  have h0:=(hb p hp).1
  have b1:=iP iN lx p.1
  have b2:=iP km ly p.1
  have ez:T*(aG (av xs) p.1 - aG (av ys) p.1)= -(T*(aG (av ys) p.1 - aG (av xs) p.1)):=by rw[←Int.mul_neg,Int.neg_sub]
  have hl:l≤10^13:=by
   have h4:aG (av xs) p.1+T*(aG (av xs) p.1 - aG (av ys) p.1) - p.2=l:=h4
   by_cases t0:T=0
   ·subst t0
    omega
   ·have:=hT.2.1 (T - 1) (by omega) (by omega)
    rw[Int.sub_mul] at this
    omega
  have h4:aG (av xs) p.1+T*(aG (av xs) p.1 - aG (av ys) p.1) - p.2=l:=h4
  subst h1
  refine⟨rfl,by omega,by rw[hf];exact congrArg some (Prod.ext h3 h4),?_,by omega,by omega,by omega,by omega⟩
  rw[←h.keys]
  exact List.mem_map.mpr ⟨p,hp,h3⟩
variable {uC uP uI uD uL uT fg fj fk uG uS:Tok} {Ch HE Sh St:Addr}
structure Uh (K:PySem.W.Frag) (mg:Str→Option Value) (C R G Pc Fo St HE Sh:Addr) (uK uN uB uE uM uC uP uI uD uL uT:Tok):Prop extends wB K mg C R G Pc Fo St uK uN uB uE uM uC uP uI uD uL uT,KY K mg HE Sh where
 Ui:mg "max" =none
 HM:PySem.W.CY K Sh
 HN:PySem.W.mroIn K Sh (.ref Sh)=some true
inductive Pu (K:PySem.W.Frag) (vs:List V) (H:Hp) (Q:VK) (E:XK):Prop
 |mk (a:Addr) (ns:List Int) (dU:vs=[.ref a]) (dW:bS K H a (ns.map V.int)) (d5:ns.length≤63) (fe:∀H',Q (.bl true) H')
def B8 (K:PySem.W.Frag):Sp:=Pu K
theorem fP:ay ["_law_script","_law_lefts","_law_rights","_law_takes","_law_gives","_law_plan_here","_law_text_here","_law_amounts_here","_law_store","_law_due","_law_times","_law_told","e","_law_left"] ["_law_script"] (aj sr):=dq
theorem Eg {H H':Hp} {st dx St:Addr} (s:au H H') (h1:H' st=none) (h2:H' dx=none):au H (upd (upd H' dx (.own st)) st (.ins St dx [])):=fun b o z=>by
 rw[ah (ag (s _ _ z) h1),ah (ag (s _ _ z) h2)]
 exact s _ _ z
theorem Pw {f f0:Addr} {fd:FuncData} (F:Eo K "law" "law" sr f fd) (T:Uh K mg C R G Pc Fo St HE Sh uK uN uB uE uM uC uP uI uD uL uT) (Z:PySem.W.fR K Sh HE f0)
  (c1:a9 P w K mg base 3 "_law_world" ["_law_script"] (BP K)) (c3:a9 P w K mg base 1 "_law_cell_at" ["_law_script","_law_k"] (mW K)) (c4:a9 P w K mg base 1 "_law_change" ["_law_cell","_law_world_here"] uz) (c5:Fy P w K mg base qu 14 St ["self","amounts"] (BF St)) (c6:a9 P w K mg base 1 "_law_text" ["_law_lefts","_law_rights"] BR) (c7:a9 P w K mg base 1 "_law_asked" ["_law_terms"] BN) (c8:a9 P w K mg base 2 "_law_plan" ["_law_script","_law_takes","_law_gives"] (Hz K)) (c9:a9 P w K mg base 1 "_law_least" ["_law_plan_here"] B3) (c10:a9 P w K mg base 1 "_law_first" ["_law_plan_here","_law_turns","_law_takes","_law_gives"] B4) (c11:a9 P w K mg base 17 "_law_most" ["_law_store","_law_text_here","_law_due"] (B5 St)) (c12:a9 P w K mg base 1 "_law_behind" ["_law_amounts_here","_law_takes","_law_gives","_law_times"] yI) (c13:vq P w K mg base 18 St "go" ["self","text","times"] [1] (Ti C G Pc Fo Ch Sh St)) (c14:a9 P w K mg base 1 "_law_whole" ["_law_found"] pQ) (c15:aM P w K mg base 1 St "stocks" ["self"] (yr St)) (c16:a9 P w K mg base 2 "_law_amounts" ["_law_found","_law_due"] Hi):
  fw P w K mg base qu 20 f fd ["_law_script"] (B8 K):=by
 obtain⟨_,_,lh⟩:=c1
 obtain⟨_,_,aI⟩:=c3
 obtain⟨_,_,jJ⟩:=c4
 obtain⟨_,_,b8⟩:=c5
 obtain⟨_,_,nF⟩:=c6
 obtain⟨_,_,eZ⟩:=c7
 obtain⟨_,_,nG⟩:=c8
 obtain⟨_,_,lj⟩:=c9
 obtain⟨_,_,ll⟩:=c10
 obtain⟨_,_,du⟩:=c11
 obtain⟨_,_,jK⟩:=c12
 obtain⟨_,_,mj⟩:=c13
 obtain⟨_,_,bM⟩:=c14
 obtain⟨_,_,cX⟩:=c15
 obtain⟨_,_,df⟩:=c16
 obtain⟨_,wU,wV⟩:=mj.bs 1 (by decide)
 have Eh:=b8.b0
 have Ei:Vals [] []:= .nil
 refine F.ok fP (fun vs H Q E h=>?_) (fun bg A outer s H vs Q E hr h=>?_)
 ·obtain⟨a,ns,rfl,_⟩:=h
  rfl
 ·obtain⟨a,ns,rfl,hS,hlen,q⟩:=h
  have hu:=dn hr
  have hu0:=hr.uZ
  have hu64:=hr.units
  have big:(2000 :Nat)≤sizeLine:=by decide
  refine⟨_,(ai
     (EG (aF jJ.ok (hr.mono (by decide)) rfl jJ.g jJ.kp jJ.b .nil aA (aa (aF aI.ok (hr.mono (by decide)) rfl aI.g aI.kp aI.b .nil aA (aa (pv 0) (aa aq ak))) (aa (aF lh.ok (hr.mono (by decide)) rfl lh.g lh.kp lh.b .nil aA (aa (pv 0) ak)) ak))) (gB rfl (a6 (aK (i:=1) fP.nd rfl (Or.inl rfl)) (a6 (aK (i:=2) fP.nd rfl (Or.inl rfl)) dC))))
    (ai
     (bE (PW.pt (lT (aO dJ (az bT (aF aI.ok (hr.mono (by decide)) rfl aI.g aI.kp aI.b .nil aA (aa (pv 0) (aa aq ak))) aq) aq (aQ _)) (jf (aO lG (cj fy rfl T.mX jm (aa (pv 1) ak)) aq (aQ _)))))
      (ao
       (aB (i:=2) fP.nd rfl (Or.inl rfl) (NU (pv 1) (lF iQ aq))))
      aS)
    (ai
     (aB (i:=3) fP.nd rfl (Or.inl rfl) (aF eZ.ok (hr.mono (by decide)) rfl eZ.g eZ.kp eZ.b .nil aA (aa (pv 1) ak)))
    (ai
     (aB (i:=4) fP.nd rfl (Or.inl rfl) (aF eZ.ok (hr.mono (by decide)) rfl eZ.g eZ.kp eZ.b .nil aA (aa (pv 2) ak)))
    (ai
     (aB (i:=5) fP.nd rfl (Or.inl rfl) (aF nG.ok (hr.mono (by decide)) rfl nG.g nG.kp nG.b .nil aA (aa (pv 0) (aa (pv 3) (aa (pv 4) ak)))))
    (ai
     (aB (i:=6) fP.nd rfl (Or.inl rfl) (aF nF.ok (hr.mono (by decide)) rfl nF.g nF.kp nF.b .nil aA (aa (pv 1) (aa (pv 2) ak))))
    (ai
     (aB (i:=7) fP.nd rfl (Or.inl rfl) (bC (jl rfl) rfl T.jA iC (aa (fB (sc:=(aj sr)) (NX:=["_law_script","_law_lefts","_law_rights","_law_takes","_law_gives","_law_plan_here","_law_text_here","_law_amounts_here","_law_store","_law_due","_law_times","_law_told","e","_law_left"]) (N:=["_law_one","_law_amount","_law_turns"]) (fr:=[none,none,none]) ⟨by rfl,by rfl,by decide+kernel,by decide+kernel,by decide+kernel,by rfl,by decide+kernel⟩ rfl rfl rfl (cG (pv 5)) (fun _ _ _ _=>(vf K 3 rfl rfl (a6 (aK (i:=0) (show (["_law_one","_law_amount","_law_turns"]:List Str).Nodup by decide+kernel) rfl (Or.inl rfl) (Or.inr rfl)) (a6 (aK (i:=1) (show (["_law_one","_law_amount","_law_turns"]:List Str).Nodup by decide+kernel) rfl (Or.inl rfl) (Or.inr rfl)) (a6 (aK (i:=2) (show (["_law_one","_law_amount","_law_turns"]:List Str).Nodup by decide+kernel) rfl (Or.inl rfl) (Or.inr rfl)) dC))))) (fun _ _ _ _=>f7) (fun _ _ _ _=>(bW (aa (pv 0) (aa (pv 1) ak))))) ak)))
    (ai
     (aB (i:=8) fP.nd rfl (Or.inl rfl) (f6 b8.m b8.ok (hr.mono (by decide)) rfl T.KO Eh Ei aA (aa (bC lV rfl T.jA iC (aa (pv 7) ak)) ak)))
    (ai
     (aB (i:=9) fP.nd rfl (Or.inl rfl) (aF lj.ok (hr.mono (by decide)) rfl lj.g lj.kp lj.b .nil aA (aa (pv 5) ak)))
    (ai
     (aB (i:=10) fP.nd rfl (Or.inl rfl) (az bT (az b6 (aF aI.ok (hr.mono (by decide)) rfl aI.g aI.kp aI.b .nil aA (aa (pv 0) (aa aq ak))) aq) (az EI aq aq)))
    (ai
     (bE (PW.pt (lT (gW (kE (pv 9))) (jf (aO jM (az bT (aF aI.ok (hr.mono (by decide)) rfl aI.g aI.kp aI.b .nil aA (aa (pv 0) (aa aq ak))) aq) aq (aQ _)))))
      (ao
       (aB (i:=10) fP.nd rfl (Or.inl rfl) (cj (Cy rfl) rfl T.Ui NT (aa aq (aa (az bO (pv 9) (cF cH (cu (aa aq (aa aq (aa (lF iQ aq) (aa aq ak))))) (az fu (az bT (aF aI.ok (hr.mono (by decide)) rfl aI.g aI.kp aI.b .nil aA (aa (pv 0) (aa aq ak))) aq) aq) (fun _ _=>rfl))) ak)))))
      aS)
    (ai
     (bE (PW.pt (oU (nR (jT (aF du.ok (hr.mono (by decide)) rfl du.g du.kp du.b .nil aA (aa (pv 8) (aa (pv 6) (aa (pv 9) ak)))))) (lS (nR (jT (aF du.ok (hr.mono (by decide)) rfl du.g du.kp du.b .nil aA (aa (pv 8) (aa (pv 6) (aa (pv 9) ak)))))))))
      (ao
       (aE AD))
      aS)
    (ai
     (aB (i:=11) fP.nd rfl (Or.inl rfl) lP)
    (ai
     (JZ ⟨rfl,rfl⟩ (fun _ _=>
      (ao
       (bw (xI (pv 8) T.b8 mj.m mj.ok (hr.mono (by decide)) wV wU Fn (aa (pv 6) (aa (pv 10) ak)))))) (fun _=>(Of K rfl (i:=12) rfl T.K0 T.HM fP.nd rfl rfl (fun _=>
      (ao
       (aB (i:=11) fP.nd rfl (Or.inl rfl) (bW (aa (mG K rfl (pv 12) rfl) (aa (mG K rfl (pv 12) rfl) (aa (mG K rfl (pv 12) rfl) (aa (mG K rfl (pv 12) rfl) ak)))))))) (Od JY))))
    (ai
     (bE (PW.pt (oU (gW (lR (pv 9))) (lS (aO AK (pv 10) (pv 9) (aQ _)))))
      (ai
       (aB (i:=13) fP.nd rfl (Or.inl rfl) lP)
      (ai
       (bE (gW (kE (pv 9)))
        (ao
         (aB (i:=13) fP.nd rfl (Or.inl rfl) (az fu (pv 9) (pv 10))))
        aS)
      (ai
       (aB (i:=7) fP.nd rfl (Or.inl rfl) (aF jK.ok (hr.mono (by decide)) rfl jK.g jK.kp jK.b .nil aA (aa (pv 7) (aa (pv 3) (aa (pv 4) (aa (pv 10) ak))))))
      (ao
       (aE (nS (EE (lR (pv 11))) (nS (aF df.ok (hr.mono (by decide)) rfl df.g df.kp df.b .nil aA (aa (aP (pv 8) T.b8 cX.m cX.ok (hr.mono (by decide)) cX.b .nil aA) (aa (pv 7) ak))) (uX (aF du.ok (hr.mono (by decide)) rfl du.g du.kp du.b .nil aA (aa (pv 8) (aa (pv 6) (aa (pv 13) ak))))))))))))
      aS)
    (ai
     (bE (PW.pt (oU (gW (lR (pv 11))) (lS (aO (NR hu64) (pv 11) (az Jt (bW (aa aq ak)) (aF ll.ok (hr.mono (by decide)) rfl ll.g ll.kp ll.b .nil aA (aa (pv 5) (aa (pv 9) (aa (pv 3) (aa (pv 4) ak)))))) (aQ _)))))
      (ao
       (aE AD))
      aS)
    (ao
     (aE (nS (aF bM.ok (hr.mono (by decide)) rfl bM.g bM.kp bM.b .nil aA (aa (cF jV (pv 11) aq (fun _ _=>rfl)) ak)) (nS (aF bM.ok (hr.mono (by decide)) rfl bM.g bM.kp bM.b .nil aA (aa (cF jV (pv 11) aq (fun _ _=>rfl)) ak)) (uX (aF df.ok (hr.mono (by decide)) rfl df.g df.kp df.b .nil aA (aa (aP (pv 8) T.b8 cX.m cX.ok (hr.mono (by decide)) cX.b .nil aA) (aa (pv 7) ak)))))))))))))))))))))))),?_⟩
  refine⟨_,rfl,a,ns,6,rfl,hS,hlen,fun n6=>⟨_,rfl,a,ns,rfl,hS,hlen,fun wl ws H1 hW aX An h3 e1=>⟨n6,wl,ws,rfl,hW,aX,An,h3,fun t0 l r xs ys H2 ht0 sJ wJ hG e2=>?_⟩⟩⟩
  refine⟨t0,_,rfl,jL.of ht0,rfl,_,_,rfl,_,_,rfl,rfl,?_⟩
  have Ms:=e1.trans e2
  dsimp only [dB,qi]
  refine fD (fun σ' H3=>∃(r:Addr) (ys:List Tm),σ'=[some (.ref a),some (.ref l),some (.ref r),none,none,none,none,none,none,none,none,none,none,none]∧cN H3 l xs∧cN H3 r ys∧rQ ws 8 xs ys∧au H H3) (fun N hN=>?_) ?_
  ·obtain⟨ts,hl,hP⟩:=id sJ
   have iu:=Paired.length hP
   refine⟨_,rfl,a,ns,8,rfl,Ms.seq hS,hlen,fun n8=>⟨_,_,rfl,rfl,(by show (0 :Int) <4;decide),rfl,_,rfl,dY (fun _=>?_) fun _=>hN _ _ ⟨r,ys,rfl,sJ,wJ,hG,Ms⟩⟩⟩
   refine⟨_,rfl,l,_,rfl, .inl (bS.of hl),_,_,rfl,rfl,_,rfl,dY (fun c5=>?_) fun _=>hN _ _ ⟨r,ys,rfl,sJ,wJ,hG,Ms⟩⟩
   have c5:ts.length<5:=by
    have:((ts.map V.ref).length:Int) <5:=by simpa using c5
    rw[List.length_map] at this
    omega
   refine⟨_,rfl,1,rfl,rfl,l,_,rfl,bS.of hl,fun r2 Y'=>?_⟩
   have s3:=au.new (o:= .lst (ts.map V.ref).reverse) Y'
   refine hN _ _ ⟨r2,xs.reverse,rfl,sJ.same s3,⟨ts.reverse,by rw[af,List.map_reverse],rX (aL (fun _ _ z=>z.same s3) hP)⟩,hG.rev (by omega),Ms.trans s3⟩
  clear sJ wJ hG Ms e2 e1 hW ht0
  rintro σ' H3 ⟨r,ys,rfl,sJ,wJ,hG,Jb⟩
  obtain⟨g1,g2,g3,g4,g5,g6⟩:=id hG
  have iN:∀x∈xs,iz 100000000000 x:=fun x hx=>(g3 x hx).1
  have km:∀x∈ys,iz 100000000000 x:=fun x hx=>(g4 x hx).1
  have lx:xs.length≤8:=by omega
  have ly:ys.length≤8:=by omega
  refine⟨_,rfl,l,xs,rfl,sJ,fun x hx=>(iN x hx).2.2,by omega,fun tk H4 Pa jN e4=>?_⟩
  refine⟨_,rfl,r,ys,rfl,wJ.same e4,fun x hx=>(km x hx).2.2,by omega,fun gv H5 ngv yH e5=>?_⟩
  have e35:=e4.trans e5
  have ntg:tk≠gv:=ag jN ngv
  refine⟨_,rfl,_,rfl,_,rfl,a,tk,gv,ns,xs,ys,rfl,(Jb.trans e35).seq hS,hlen,e5 _ _ jN,yH,ntg,iN,km,lx,ly,fun L ts ps H6 B9 Q2 hL Q0 e6=>?_⟩
  have Px:wQ xs ps:=⟨B9,fun p hp=>(Q2 p hp).1⟩
  have w40:∀{z:Tm},iz 100000000000 z→iz (10^40) z:=fun {z} h=>⟨h.1,Int.le_trans h.2.1 (by decide),h.2.2⟩
  have Zh:=e35.trans e6
  refine⟨_,rfl,_,rfl,l,r,xs,ys,rfl,sJ.same Zh,wJ.same Zh,fun x hx=>w40 (iN x hx),fun x hx=>w40 (km x hx),by omega,by omega,fun H7 e7=>?_⟩
  have Q3:=hG.ev
  generalize Txt.join " -> " [ug xs,ug ys]=tx at Q3 ⊢
  have sM:=e7 _ _ (e6 _ _ (e5 _ _ jN))
  have Uj:=e7 _ _ (e6 _ _ yH)
  have Hn:=e7 _ _ hL
  have Ln:Paired (rS H7 xs ys) ts ps:=aL (fun _ _ z=>e7 _ _ z) Q0
  have e07:=(Jb.trans Zh).trans e7
  clear sJ wJ Jb e35 Zh e4 e5 e6 e7 jN yH hL Q0 Pa ngv
  have iu:=Paired.length Ln
  have hpl8:ps.length≤8:=by
   have h1:=congrArg List.length B9
   rw[List.length_map,List.length_map] at h1
   have:=cU (eO xs)
   have e:(eO xs).length=xs.length:=by unfold eO;rw[List.length_map]
   have h2:(av xs).length≤(eO xs).length:=this
   omega
  refine⟨_,rfl,L,rfl,⟨_,bS.of Hn⟩,fun D hD=>kO (K:=K) (a:=L) (L:=D) (xs:=ts.map V.ref) H7 (fun σ=>∃v u w:Option V,σ=[v,u,w]) (fun i Uk H'=>∃qs:List (Addr×Key×V),Uk=qs.map (fun q=>V.ref q.1)∧(∀q∈qs,q.1≠D∧H' q.1=some (.tup [kV q.2.1,q.2.2]))∧qs.map (·.2)=gU (ps.take i)) (bS.of Hn) ?_ hD ⟨none,none,none,rfl⟩ (au.new hD) af ⟨[],rfl,(fun q hq=>by cases hq),rfl⟩ (by rw[List.length_map];omega) ?_ ?_ ?_⟩
  ·rintro i Uk Ha Hb hb ⟨qs,h1,h2,h3⟩
   exact⟨qs,h1,fun q hq=>⟨(h2 q hq).1,hb _ _ (h2 q hq).2 (h2 q hq).1⟩,h3⟩
  ·rintro i Uk H' ⟨qs,rfl,_,h3⟩
   have:=congrArg List.length h3
   unfold gU at this
   rw[List.length_map,List.length_map,List.length_take] at this
   rw[List.length_map]
   omega
  ·rintro i v σ H8 Uk hi ⟨v0,v1,v2,rfl⟩ e8 Ul ⟨qs,rfl,h2,h3⟩ N M hN
   obtain⟨t,p,rfl,hp,ht⟩:=As Ln hi
   refine⟨t,_,rfl,jL.of (e8 _ _ ht),rfl,_,_,rfl,_,_,rfl,_,_,rfl,rfl,?_⟩
   refine⟨_,rfl,_,rfl,(by show 2≤sizeLine;decide),fun p2 En=>?_⟩
   have s9:=au.new (o:= .tup [kV p.1, .int p.2]) En
   refine hN _ _ _ ⟨_,_,_,rfl⟩ (e8.trans s9) (s9 _ _ Ul) ⟨qs++[(p2,p.1, .int p.2)],by rw[List.map_append];rfl,fun q hq=>?_,?_⟩
   ·rcases List.mem_append.mp hq with z|z
    ·exact⟨(h2 q z).1,s9 _ _ (h2 q z).2⟩
    ·have eq:q=(p2,p.1,V.int p.2):=by simpa using z
     rw[eq]
     exact⟨Ne.symm (ag Ul En),af⟩
   ·rw[List.map_append,h3,take_snoc hp]
    unfold gU
    rw[List.map_append]
    rfl
  rintro H8 Uk e8 Ul ⟨qs,rfl,h2,h3⟩
  rw[List.length_map,iu,List.take_length] at h3
  refine⟨D,qs,rfl,Ul,fun q hq=>(h2 q hq).2,fun am yw=>?_⟩
  have T9:cy [] (qs.map (·.2))=gU ps:=by
   rw[h3,kh _ [] (by rw[List.nil_append,kz];exact Px.nd),List.nil_append]
  rw[T9]
  have s9:=au.new (o:= .dK (gU ps)) yw
  have Lp:(upd H8 am (.dK (gU ps))) am=some (.dK (gU ps)):=af
  have e79:=e8.trans s9
  generalize upd H8 am (.dK (gU ps))=H9 at s9 Lp e79 ⊢
  refine⟨_,rfl,am,_,rfl, .inl Lp,fun Nh Um=>?_⟩
  have NM:=au.new (o:= .dK (gU ps)) Um
  have Ca:=NM _ _ Lp
  have Pz:(upd H9 Nh (.dK (gU ps))) Nh=some (.dK (gU ps)):=af
  have Lq:=e79.trans NM
  generalize upd H9 Nh (.dK (gU ps))=L5 at Ca Pz Lq ⊢
  refine fun st dx nst Y9 nds=>?_
  have nas:am≠st:=ag Ca nst
  have D7:au L5 (upd (upd L5 dx (.own st)) st (.ins St dx [])):=Eg (au.refl _) nst Y9
  have HP:=D7 _ _ Ca
  have hlA:(gU ps).length≤8:=by unfold gU;rw[List.length_map];exact hpl8
  have Lr:((gU ps).map (·.1)).Nodup:=by rw[kz];exact Px.nd
  refine⟨st,dx, .ref Nh,gU ps,rfl,af, .inr ⟨Nh,rfl,D7 _ _ Pz⟩,fO ps,Lr,fun q hq=>?_,by omega,fun d g H12 nd ng zN hSt hd hg QT=>⟨rfl,?_⟩⟩
  ·have hk:=List.mem_map_of_mem (f:=(·.1)) hq
   rw[kz,B9] at hk
   obtain⟨q',sS,e'⟩:=List.mem_map.mp hk
   obtain⟨s,es,hs⟩:=yE g3 q' sS
   exact⟨s,by rw[←e',es],DQ aX hs⟩
  have uv:au H7 H12:=fun b o z=>QT _ _ (D7 _ _ (Lq _ _ z)) (ag (Lq _ _ z) nst)
  have MB:=QT _ _ HP nas
  have nda:d≠am:=fun z=>by rw[z,HP] at nd;cases nd
  obtain⟨dH,gz⟩:=hSt
  clear QT nd D7 HP Lq Pz Ca NM e79 Lp s9 Um T9 h2 h3 Ul e8
  have PB:=uv _ _ Hn
  have HQ:Paired (rS H12 xs ys) ts ps:=aL (fun _ _ z=>uv _ _ z) Ln
  have MC:=uv _ _ sM
  have MD:=uv _ _ Uj
  have Ls:=e07.trans uv
  clear Hn Ln sM Uj e07 uv
  refine⟨_,rfl,L,ts,ps,xs,ys,rfl,PB,HQ,?_⟩
  have hmo:=oR (ys:=ys) Px
  obtain⟨o,eo⟩:∃o,bo (ps.map (jR xs ys))=o:=⟨_,rfl⟩
  rw[eo] at hmo ⊢
  refine⟨_,rfl,a,ns,7,rfl,Ls.seq hS,hlen,fun n7=>⟨_,_,rfl,rfl,⟨by decide,by decide⟩,_,_,rfl,rfl,⟨by decide,by decide,by decide⟩,_,_,rfl,rfl,(by show (0 :Int) <10^(50 :Int).toNat;decide),?_⟩⟩
  have t0:0≤n7/5%10^(50 :Int).toNat:=Int.emod_nonneg _ (by decide)
  dsimp only [dB,qi]
  generalize n7/5%10^(50 :Int).toNat=m7 at t0 ⊢
  refine fD (fun σ' H13=>∃m:Int,σ'=[some (.ref a),some (.ref l),some (.ref r),some (.ref tk),some (.ref gv),some (.ref L),some (.str tx),some (.ref am),some (.ref st),some (oV o),some (.int m),none,none,none]∧0≤m∧au H12 H13) (fun N hN=>?_) ?_
  ·cases o with
   |none=>exact⟨_,rfl,_,rfl,d7 (hN _ _ ⟨m7,rfl,t0,au.refl _⟩)⟩
   |some T0=>
    refine⟨_,rfl,_,rfl,eQ ⟨_,rfl,a,ns,7,rfl,Ls.seq hS,hlen,fun n=>⟨_,_,rfl,rfl,(by show (0 :Int) <5;decide),_,_,rfl,rfl,_,rfl,dY (fun _=>?_) fun _=>hN _ _ ⟨m7,rfl,t0,au.refl _⟩⟩⟩⟩
    refine⟨_,rfl,1,rfl,(by show 4≤sizeLine;decide),fun y hy=>?_⟩
    have Ez:=au.new (o:= .lst [V.int 0,V.int 1,V.int (-1),V.int 1]) hy
    refine⟨_,rfl,a,ns,7,rfl,(Ls.trans Ez).seq hS,hlen,fun n'=>?_⟩
    obtain⟨z,Bl⟩:∃z:Int,xv [V.int 0,V.int 1,V.int (-1),V.int 1] (n'%5 - 1)=some (V.int z):=by
     have h5:n'%5=0∨n'%5=1∨n'%5=2∨n'%5=3∨n'%5=4:=by omega
     rcases h5 with h5|h5|h5|h5|h5<;>(rw[h5];exact⟨_,rfl⟩)
    refine⟨_,_,rfl,rfl,(by show (0 :Int) <5;decide),_,_,rfl,rfl,y,_,_,V.int z,rfl,rfl,bS.of af,Bl,_,_,rfl,rfl,0,T0+z,rfl,hN _ _ ⟨if T0+z>0 then T0+z else 0,rfl,by split<;>omega,Ez⟩⟩
  rintro σ' H13 ⟨m,rfl,m0,Ez⟩
  have Cb:=Ez _ _ gz
  have DN:=Ez _ _ hd
  have Uo:=Ez _ _ hg
  have ME:=Ez _ _ MB
  have Up:=Ez _ _ PB
  have MF:Paired (rS H13 xs ys) ts ps:=aL (fun _ _ z=>Ez _ _ z) HQ
  have MG:=Ez _ _ MC
  have MH:=Ez _ _ MD
  clear gz hd hg MB PB HQ MC MD Ez Ls t0
  refine⟨_,rfl,_,rfl,_,rfl,st,d,g,tx,gU ps,xs,ys,o,rfl,⟨dH,Cb⟩,DN,fO ps,Q3,hmo.symm,fun H14 Zi=>⟨_,rfl,d7 ?_⟩⟩
  refine⟨_,rfl,_,rfl,_,rfl,st,d,g,tx,gU ps,xs,ys,o,rfl,⟨dH,Zi _ _ Cb⟩,Zi _ _ DN,fO ps,Q3,hmo.symm,fun H15 e15=>⟨_,rfl,d7 ?_⟩⟩
  have nH:=Zi.trans e15
  have gz:=nH _ _ Cb
  have hd:=nH _ _ DN
  have hg:=nH _ _ Uo
  have yw:=nH _ _ ME
  have hL:=nH _ _ Up
  have Q0:Paired (rS H15 xs ys) ts ps:=aL (fun _ _ z=>nH _ _ z) MF
  have jN:=nH _ _ MG
  have yH:=nH _ _ MH
  clear Cb DN Uo ME Up MF MG MH nH Zi e15
  have nsa:am≠st:=cD yw gz (by intro z;cases z)
  have nga:am≠g:=cD yw hg (by intro z;cases z)
  have nst':tk≠st:=cD jN gz (by intro z;cases z)
  have ngt:tk≠g:=cD jN hg (by intro z;cases z)
  have nsg':gv≠st:=cD yH gz (by intro z;cases z)
  have ngg:gv≠g:=cD yH hg (by intro z;cases z)
  have hbd:=fun t k l (z:cw (gU ps) xs ys m=some (t,k,l))=>HL iN km lx ly Px Q2 z
  refine⟨_,rfl,st,dH,_,rfl,gz,kn _ _ (by decide+kernel) (by decide+kernel),_,rfl,_,rfl,st,d,g,gU ps,[],⟨xs,ys,tx,m⟩,rfl,⟨dH,gz⟩,hd,hg,fO ps,by omega,Nat.zero_le _,Q3,fun t k l z=>(hbd t k l z).2.2.2.2,fun hs d' t H' h0 h1 h2 h3 h4 h5=>?_,fun t x l' e pU H' hs he G8 ne Y9 e1=>?_⟩
  ·have hle:∀T,bo (ps.map (jR xs ys))=some T→m≤T:=fun T hT=>by
    refine Classical.byContradiction fun c=>?_
    have hs:cw (gU ps) xs ys m=none:=hs
    obtain⟨p,_,_,hf⟩:=kA (eY hT).1
    rw[rV Px hT (by omega),hf] at hs
    cases hs
   have HR:=Ef Px m0 hle
   rw[eo] at HR
   have hbt:=HJ km Px m
   have Uq:=h5 _ _ yw nsa nga
   have Ur:=h5 _ _ jN nst' ngt
   have Us:=h5 _ _ yH nsg' ngg
   obtain⟨sf,wH⟩:=h1
   have Mx:bu (de (gU ps) xs ys m):=cV _ _ _ _ (fO ps)
   have Lu:((de (gU ps) xs ys m).map (·.1)).Nodup:=B7 _ _ _ _ Lr
   have ml:(de (gU ps) xs ys m).length≤900:=by
    have h6:(de (gU ps) xs ys m).length≤(gU ps).length+(gQ xs ys).length:=fI _ _ _ _
    have h7:(gQ xs ys).length≤(p7 xs ys).length:=p6 _ _
    have h8:=p8 xs ys
    omega
   cases o with
   |none=>
    refine⟨_,rfl,_,rfl,eQ ?_⟩
    refine⟨_,rfl,_,rfl,d7 ?_⟩
    refine⟨_,rfl,_,rfl,_,rfl,_,rfl,am,tk,gv,m,gU ps,xs,ys,rfl,Uq,fO ps,by omega,Ur,Us,iN,km,lx,ly,fun be H17 Y7 yU yS=>?_⟩
    rw[hbt] at yU
    refine⟨_,rfl,_,rfl,eQ ?_⟩
    refine⟨_,rfl,st,sf,_,rfl,yS _ _ wH,kn _ _ (by decide+kernel) (by decide+kernel),st,d',g,_,rfl,⟨sf,yS _ _ wH⟩,yS _ _ h2,Mx,Lu,ml,fun ue Zj Ut Uv Lv=>?_⟩
    refine⟨_,rfl,ue,be,_,rfl,Uv,Lv _ _ yU,Ne.symm (ag yU Ut),Mx,Lu,ml,fun Zk Lw=>⟨_,rfl,eQ ?_⟩⟩
    have Uw:=(yS.trans Lv).trans Lw
    exact⟨_,rfl,_,rfl,_,rfl,st,d',g,tx,_,xs,ys,none,rfl,⟨sf,Uw _ _ wH⟩,Uw _ _ h2,Mx,Q3,HR.symm,fun Zl _=>q Zl⟩
   |some T0=>
    have hT0:=hle T0 eo
    refine⟨_,rfl,_,rfl,d7 ⟨_,rfl,_,rfl,_,_,rfl,rfl,_,rfl,dY (fun _=>?_) fun c=>absurd (by simpa using hT0) c⟩⟩
    refine⟨_,rfl,_,rfl,eQ ⟨_,rfl,_,rfl,_,_,rfl,rfl,?_⟩⟩
    refine⟨_,rfl,_,rfl,_,rfl,_,rfl,am,tk,gv,m,gU ps,xs,ys,rfl,Uq,fO ps,by omega,Ur,Us,iN,km,lx,ly,fun be H17 Y7 yU yS=>?_⟩
    rw[hbt] at yU
    refine⟨_,rfl,_,rfl,eQ ?_⟩
    refine⟨_,rfl,st,sf,_,rfl,yS _ _ wH,kn _ _ (by decide+kernel) (by decide+kernel),st,d',g,_,rfl,⟨sf,yS _ _ wH⟩,yS _ _ h2,Mx,Lu,ml,fun ue Zj Ut Uv Lv=>?_⟩
    refine⟨_,rfl,ue,be,_,rfl,Uv,Lv _ _ yU,Ne.symm (ag yU Ut),Mx,Lu,ml,fun Zk Lw=>⟨_,rfl,eQ ?_⟩⟩
    have Uw:=(yS.trans Lv).trans Lw
    exact⟨_,rfl,_,rfl,_,rfl,st,d',g,tx,_,xs,ys,some (T0 - m),rfl,⟨sf,Uw _ _ wH⟩,Uw _ _ h2,Mx,Q3,HR.symm,fun Zl _=>q Zl⟩
  ·obtain⟨b1,b2,b3,b4,_⟩:=hbd t (Sum.inr x) l' hs
   rw[eo] at b1
   subst b1
   obtain⟨q',sS,e'⟩:=List.mem_map.mp b4
   obtain⟨x',Q6,hTx⟩:=yE g3 q' sS
   rw[e'] at Q6
   injection Q6 with Q6
   subst Q6
   have hsx:=Ht aX hTx
   refine⟨Sh,HE,f0,true,rfl,Z,T.HN,eQ fun e' N0=>?_⟩
   refine⟨_,rfl,e',Sh,HE,f0,pU,_,_,rfl,Z,T.O7,N0,G8,Hw _ _ _ _,_,rfl,e',Sh,HE,f0,pU,_,_,rfl,Z,T.O8,N0,G8,Hv _ _ _ _,_,rfl,e',Sh,HE,f0,pU,_,_,rfl,Z,T.DU,N0,G8,yG _ _ _ _,_,rfl,e',Sh,HE,f0,pU,_,_,rfl,Z,T.O9,N0,G8,Hu _ _ _ _,(by show 4≤sizeLine;decide),fun tt htt=>?_⟩
   have e16:=e1.trans (au.new (o:= .tup [.int 0, .int (t+1), .str x, .int l']) htt)
   have MI:(upd H' tt (.tup [.int 0, .int (t+1), .str x, .int l'])) tt=some (.tup [.int 0, .int (t+1), .str x, .int l']):=af
   dsimp only
   generalize upd H' tt (.tup [.int 0, .int (t+1), .str x, .int l'])=H16 at e16 MI ⊢
   refine⟨_,rfl,_,rfl,d7 ⟨_,rfl,_,rfl,_,_,rfl,rfl,_,rfl,dY (fun c=>?_) fun _=>?_⟩⟩
   ·have c:m≤t:=by simpa using c
    omega
   refine⟨_,rfl,_,rfl,d7 ⟨_,rfl,(by show 1≤sizeLine;decide),fun p hp=>?_⟩⟩
   have s17:=au.new (o:= .tup [.int 0]) hp
   have Ux:(upd H16 p (.tup [.int 0])) p=some (.tup [.int 0]):=af
   have yS:=e16.trans s17
   have MJ:=s17 _ _ MI
   generalize upd H16 p (.tup [.int 0])=H17 at s17 Ux yS MJ ⊢
   refine⟨_,rfl,_,rfl,_,rfl,_,rfl,L,tk,gv,t,ts,ps,xs,ys,rfl,yS _ _ hL,aL (fun _ _ z=>yS _ _ z) Q0,yS _ _ jN,yS _ _ yH,fun p hp=>by rw[←B9];exact List.mem_map_of_mem hp,iN,km,lx,ly,fun k l2 t5 Zj hf ht5 Lv=>?_,fun Pe=>?_⟩
   ·rw[b3] at hf
    injection hf with hf
    injection hf with hf1 hf2
    subst hf1 hf2
    have hc:(PyData.tuple [.int 0, .int (t+1), .str x, .int l']).canLay0=true:=by simp [PyData.canLay0,PyData.canLayAll0,hsx]
    have YC:=CQ hc (by simp [PyData.depth,PyData.depthAll])
    refine⟨p,t5,_,_,rfl,rfl,jL.of (Lv _ _ Ux),jL.of ht5,(by intro z;cases z),(by show 1+3≤sizeLine;decide),(by intro z;cases z),fun _ p2 En=>?_⟩
    have s19:=au.new (o:= .tup ([.int 0]++[.int (t+1), .str x, .int l'])) En
    have Uy:(upd Zj p2 (.tup ([.int 0]++[.int (t+1), .str x, .int l']))) p2=some (.tup [.int 0, .int (t+1), .str x, .int l']):=af
    dsimp only [kV]
    generalize upd Zj p2 (.tup ([.int 0]++[.int (t+1), .str x, .int l']))=Zk at s19 Uy ⊢
    have rd:∀{b:Addr},Zk b=some (.tup [.int 0, .int (t+1), .str x, .int l'])→E7 K Zk (.ref b) (PyData.tuple [.int 0, .int (t+1), .str x, .int l']):=fun h=> .tup (jL.of h) (.cons (.int _) (.cons (.int _) (.cons (.str _) (.cons (.int _) .nil))))
    have HS:=s19 _ _ (Lv _ _ MJ)
    have Lw:=(yS.trans Lv).trans s19
    refine⟨_,_,rd HS,rd Uy,YC,YC,_,rfl,?_⟩
    rw[xD _ hc]
    refine d7 ?_
    refine⟨_,rfl,tt,_,_,V.int (t+1),rfl,rfl,jL.of HS,rfl,t+1,rfl,_,rfl,eQ ⟨_,rfl,tt,_,_,V.int l',rfl,rfl,jL.of HS,rfl,l',rfl,_,rfl,eQ ?_⟩⟩
    refine⟨_,rfl,st,dH,_,rfl,Lw _ _ gz,kn _ _ (by decide+kernel) (by decide+kernel),st,d,g,gU ps,rfl,⟨dH,Lw _ _ gz⟩,Lw _ _ hd,fO ps,Lr,by omega,fun ue Zl Ut Uv e20=>?_⟩
    exact⟨_,rfl,ue,am,gU ps,rfl,Uv,e20 _ _ (Lw _ _ yw),Ne.symm (ag (Lw _ _ yw) Ut),fO ps,Lr,by omega,fun H21 _=>q H21⟩
   ·rw[b3] at Pe
    cases Pe
end
theorem all_mk {l:PySem.W.OpenLaw} {w:World} {K:PySem.W.Frag} {h:Heap} {mg:Str→Option Value} {fa C Gr Pc Fo Rd Rc Ch St HE Sh Uz UA UB UC UD Cc UE Lx UG Ly UH UI UJ Lz UK PD PJ PK PL UL PM PN HU PQ PR HV PU PV HW UM UN UO UP UQ UR US UT UU UW MK ML MM HX UX UY UZ U0 U1 U2 U3 U4 MN Cd LA U5 U6 LB U7 U8 U9 U' Va Vb Vc Vd Ve Vf Vg Vh Vi Vj Vk Vl Vm Vn Vo PX:Addr} (X:K.In h) (G:h.Ns mainGlobals mg) (hfa:mg "law" =some (.ref fa))
  {PY Aw Vp HY Vq HZ Vr Ia Vs Ic Vt Ie Vu MO:Option Addr} {PZ Vv Vw Vx Vy Vz VA:Array (Option Value)} {P0 Ax Ay Az wW AA VB Ig Ih Ii Ce Ij VC Ik Il Im Cf Io VD Ip Iq Ir Cg Iu VE Iv Iw Iy Ci Iz VF IA IB IC Cj ID VG MP MQ MR IE MS:Value}
  {wX:Addr} {LC:Value} {LD:Option Addr} {LF:Array (Option Value)} {P1:Nat} {IF:Tok}
  {Ck:Addr} {P2:Value} {P4:Option Addr} {P5:Array (Option Value)} {VH:Nat} {MT:Tok}
  {Cm:Addr} {P6:Value} {P7:Option Addr} {P8:Array (Option Value)} {VI:Nat} {MU:Tok}
  {Cn:Addr} {P9:Value} {P':Option Addr} {Qa:Array (Option Value)} {VJ:Nat} {MV:Tok}
  {Co:Addr} {Qb:Value} {Qc:Option Addr} {Qd:Array (Option Value)} {VL:Nat} {MW:Tok}
  {Cp:Addr} {Qe:Value} {Qf:Option Addr} {Qg:Array (Option Value)} {VM:Nat}
  {uK uN uB uE uM uC uP uI uD uL uT fg fj fk uG uS:Tok}
  (aC:PySem.W.nsIn K mainGlobals "Atom" =some (some (.ref C)))
  (aGr:PySem.W.nsIn K mainGlobals "Group" =some (some (.ref Gr)))
  (aPc:PySem.W.nsIn K mainGlobals "Piece" =some (some (.ref Pc)))
  (aFo:PySem.W.nsIn K mainGlobals "Formula" =some (some (.ref Fo)))
  (aRd:PySem.W.nsIn K mainGlobals "Reader" =some (some (.ref Rd)))
  (aRc:PySem.W.nsIn K mainGlobals "ChangeReader" =some (some (.ref Rc)))
  (aCh:PySem.W.nsIn K mainGlobals "Change" =some (some (.ref Ch)))
  (aSt:PySem.W.nsIn K mainGlobals "Store" =some (some (.ref St)))
  (aHE:PySem.W.nsIn K mainGlobals "HallError" =some (some (.ref HE)))
  (aSh:PySem.W.nsIn K mainGlobals "Short" =some (some (.ref Sh)))
  (axig:PySem.W.nsIn K mainGlobals "is_great" =some (some (.ref Uz)))
  (lxig:dF K "is_great" "is_great" vt Uz)
  (axis:PySem.W.nsIn K mainGlobals "is_small" =some (some (.ref UA)))
  (lxis:dF K "is_small" "is_small" vw UA)
  (axif:PySem.W.nsIn K mainGlobals "is_figure" =some (some (.ref UB)))
  (lxif:dF K "is_figure" "is_figure" pJ UB)
  (axcs:PySem.W.nsIn K mainGlobals "count_shown" =some (some (.ref UC)))
  (lxcs:dF K "count_shown" "count_shown" iE UC)
  (axps:PySem.W.nsIn K mainGlobals "parts_shown" =some (some (.ref UD)))
  (lxps:dF K "parts_shown" "parts_shown" kQ UD)
  (VN:PySem.W.findIn K (.ref C) "__init__" =some (some (.ref Cc)))
  (VO:PySem.W.isFn K (.ref Cc)=true)
  (VP:K.lookup Cc=some ⟨P0,PY, .func (PySem.W.fnOf "__init__" "Atom.__init__" (bq i5) (aU i5) (aj i5) (.ref wX) Ax Ay Az Aw wW AA),PZ⟩)
  (MX:K.lookup wX=some ⟨LC,LD, .seq #[.int 1 IF] P1,LF⟩)
  (VQ:PySem.W.codeIn K wW "Atom.__init__" =true)
  (VR:PySem.W.keepIn K (.ref Cc)=true)
  (axsh:PySem.W.findIn K (.ref C) "shown" =some (some (.ref UE)))
  (lxsh:dF K "shown" "Atom.shown" vx UE)
  (axgi:PySem.W.findIn K (.ref Gr) "__init__" =some (some (.ref Lx)))
  (ixgi:PySem.W.isFn K (.ref Lx)=true)
  (lxgi:K.lookup Lx=some ⟨VB,Vp, .func (PySem.W.fnOf "__init__" "Group.__init__" (bq fS) (aU fS) (aj fS) (.ref Ck) Ig Ih Ii HY Ce Ij),Vv⟩)
  (VS:K.lookup Ck=some ⟨P2,P4, .seq #[.int 1 MT] VH,P5⟩)
  (cxgi:PySem.W.codeIn K Ce "Group.__init__" =true)
  (kxgi:PySem.W.keepIn K (.ref Lx)=true)
  (axgs:PySem.W.findIn K (.ref Gr) "shown" =some (some (.ref UG)))
  (lxgs:dF K "shown" "Group.shown" kR UG)
  (axpi:PySem.W.findIn K (.ref Pc) "__init__" =some (some (.ref Ly)))
  (ixpi:PySem.W.isFn K (.ref Ly)=true)
  (lxpi:K.lookup Ly=some ⟨VC,Vq, .func (PySem.W.fnOf "__init__" "Piece.__init__" (bq fT) (aU fT) (aj fT) (.ref Cm) Ik Il Im HZ Cf Io),Vw⟩)
  (VT:K.lookup Cm=some ⟨P6,P7, .seq #[.int 1 MU] VI,P8⟩)
  (cxpi:PySem.W.codeIn K Cf "Piece.__init__" =true)
  (kxpi:PySem.W.keepIn K (.ref Ly)=true)
  (axpS:PySem.W.findIn K (.ref Pc) "shown" =some (some (.ref UH)))
  (lxpS:dF K "shown" "Piece.shown" iF UH)
  (axtl:PySem.W.nsIn K mainGlobals "refuse_too_long" =some (some (.ref UI)))
  (lxtl:dF K "refuse_too_long" "refuse_too_long" mH UI)
  (axch:PySem.W.nsIn K mainGlobals "charge_shown" =some (some (.ref UJ)))
  (lxch:dF K "charge_shown" "charge_shown" gL UJ)
  (axfi:PySem.W.findIn K (.ref Fo) "__init__" =some (some (.ref Lz)))
  (ixfi:PySem.W.isFn K (.ref Lz)=true)
  (lxfi:K.lookup Lz=some ⟨VD,Vr, .func (PySem.W.fnOf "__init__" "Formula.__init__" (bq fU) (aU fU) (aj fU) (.ref Cn) Ip Iq Ir Ia Cg Iu),Vx⟩)
  (VU:K.lookup Cn=some ⟨P9,P', .seq #[.int 0 MV] VJ,Qa⟩)
  (cxfi:PySem.W.codeIn K Cg "Formula.__init__" =true)
  (kxfi:PySem.W.keepIn K (.ref Lz)=true)
  (axfS:PySem.W.findIn K (.ref Fo) "shown" =some (some (.ref UK)))
  (lxfS:dF K "shown" "Formula.shown" mI UK)
  (axri:PySem.W.findIn K (.ref Rd) "__init__" =some (some (.ref PD)))
  (VW:dF K "__init__" "Reader.__init__" qH PD)
  (axrs:PySem.W.findIn K (.ref Rd) "sign" =some (some (.ref PJ)))
  (VX:dF K "sign" "Reader.sign" xK PJ)
  (axrt:PySem.W.findIn K (.ref Rd) "take" =some (some (.ref PK)))
  (VY:dF K "take" "Reader.take" xM PK)
  (axra:PySem.W.findIn K (.ref Rd) "take_all" =some (some (.ref PL)))
  (VZ:dF K "take_all" "Reader.take_all" j3 PL)
  (axre:PySem.W.findIn K (.ref Rd) "take_end" =some (some (.ref UL)))
  (lxre:dF K "take_end" "Reader.take_end" mK UL)
  (axrw:PySem.W.findIn K (.ref Rd) "read_whole" =some (some (.ref PM)))
  (V0:dF K "read_whole" "Reader.read_whole" mL PM)
  (axrl:PySem.W.findIn K (.ref Rd) "read_electron" =some (some (.ref PN)))
  (V1:dF K "read_electron" "Reader.read_electron" g7 PN)
  (V2:PySem.W.findIn K (.ref Rd) "read_parts" =some (some (.ref HU)))
  (MY:dF K "read_parts" "Reader.read_parts" kS HU)
  (axrp:PySem.W.findIn K (.ref Rd) "read_part" =some (some (.ref PQ)))
  (V3:dF K "read_part" "Reader.read_part" og PQ)
  (axrg:PySem.W.findIn K (.ref Rd) "read_group" =some (some (.ref PR)))
  (V4:dF K "read_group" "Reader.read_group" jq PR)
  (V5:PySem.W.findIn K (.ref Rd) "read_atom" =some (some (.ref HV)))
  (MZ:dF K "read_atom" "Reader.read_atom" qI HV)
  (axrc:PySem.W.findIn K (.ref Rd) "read_count" =some (some (.ref PU)))
  (V6:dF K "read_count" "Reader.read_count" mM PU)
  (axrn:PySem.W.findIn K (.ref Rd) "read_number" =some (some (.ref PV)))
  (V7:dF K "read_number" "Reader.read_number" j4 PV)
  (V8:PySem.W.findIn K (.ref Rd) "read_charge" =some (some (.ref HW)))
  (M0:dF K "read_charge" "Reader.read_charge" j5 HW)
  (axrf:PySem.W.nsIn K mainGlobals "read_formula" =some (some (.ref UM)))
  (lxrf:dF K "read_formula" "read_formula" kT UM)
  (axpc:PySem.W.nsIn K mainGlobals "parts_counts" =some (some (.ref UN)))
  (lxpc:dF K "parts_counts" "parts_counts" i4 UN)
  (axco:PySem.W.findIn K (.ref C) "counts" =some (some (.ref UO)))
  (lxco:dF K "counts" "Atom.counts" pK UO)
  (axgc:PySem.W.findIn K (.ref Gr) "counts" =some (some (.ref UP)))
  (lxgc:dF K "counts" "Group.counts" i6 UP)
  (axpC:PySem.W.findIn K (.ref Pc) "counts" =some (some (.ref UQ)))
  (lxpC:dF K "counts" "Piece.counts" gK UQ)
  (axfC:PySem.W.findIn K (.ref Fo) "counts" =some (some (.ref UR)))
  (lxfC:dF K "counts" "Formula.counts" mJ UR)
  (axci:PySem.W.findIn K (.ref Ch) "__init__" =some (some (.ref US)))
  (lxci:dF K "__init__" "Change.__init__" vy US)
  (axam:PySem.W.nsIn K mainGlobals "formula_amounts" =some (some (.ref UT)))
  (lxam:dF K "formula_amounts" "formula_amounts" mN UT)
  (axkd:PySem.W.findIn K (.ref Ch) "kinds" =some (some (.ref UU)))
  (lxkd:dF K "kinds" "Change.kinds" vz UU)
  (axrm:PySem.W.findIn K (.ref Rc) "read_term" =some (some (.ref UW)))
  (lxrm:dF K "read_term" "ChangeReader.read_term" vA UW)
  (V9:PySem.W.findIn K (.ref Rc) "read_lefts" =some (some (.ref MK)))
  (V':dF K "read_lefts" "ChangeReader.read_lefts" pL MK)
  (Wa:PySem.W.findIn K (.ref Rc) "read_rights" =some (some (.ref ML)))
  (Wb:dF K "read_rights" "ChangeReader.read_rights" mO ML)
  (Wc:PySem.W.findIn K (.ref Rc) "read_sides" =some (some (.ref MM)))
  (Wd:dF K "read_sides" "ChangeReader.read_sides" pM MM)
  (Qh:PySem.W.nsIn K mainGlobals "read_change" =some (some (.ref HX)))
  (Qi:dF K "read_change" "read_change" mP HX)
  (axsc:PySem.W.nsIn K mainGlobals "side_counts" =some (some (.ref UX)))
  (lxsc:dF K "side_counts" "side_counts" iG UX)
  (axgn:PySem.W.nsIn K mainGlobals "gains" =some (some (.ref UY)))
  (lxgn:dF K "gains" "gains" qJ UY)
  (axsa:PySem.W.nsIn K mainGlobals "side_amounts" =some (some (.ref UZ)))
  (lxsa:dF K "side_amounts" "side_amounts" gM UZ)
  (axlo:PySem.W.findIn K (.ref Ch) "lost" =some (some (.ref U0)))
  (lxlo:dF K "lost" "Change.lost" tI U0)
  (axev:PySem.W.nsIn K mainGlobals "read_even" =some (some (.ref U1)))
  (lxev:dF K "read_even" "read_even" kU U1)
  (axto:PySem.W.nsIn K mainGlobals "turns_of" =some (some (.ref U2)))
  (lxto:dF K "turns_of" "turns_of" mQ U2)
  (axmo:PySem.W.nsIn K mainGlobals "most_turns" =some (some (.ref U3)))
  (lxmo:dF K "most_turns" "most_turns" fV U3)
  (axtu:PySem.W.nsIn K mainGlobals "turned" =some (some (.ref U4)))
  (lxtu:dF K "turned" "turned" pN U4)
  (We:PySem.W.nsIn K mainGlobals "refuse_short" =some (some (.ref MN)))
  (Wf:dF K "refuse_short" "refuse_short" gN MN)
  (Wg:PySem.W.findIn K (.ref Sh) "__init__" =some (some (.ref Cd)))
  (Wh:dF K "__init__" "Short.__init__" vB Cd)
  (axsi:PySem.W.findIn K (.ref St) "__init__" =some (some (.ref LA)))
  (ixsi:PySem.W.isFn K (.ref LA)=true)
  (lxsi:K.lookup LA=some ⟨VE,Vs, .func (PySem.W.fnOf "__init__" "Store.__init__" (bq fW) (aU fW) (aj fW) (.ref Cp) Iv Iw Iy Ic Ci Iz),Vy⟩)
  (Wi:K.lookup Cp=some ⟨Qe,Qf, .seq #[.none] VM,Qg⟩)
  (cxsi:PySem.W.codeIn K Ci "Store.__init__" =true)
  (kxsi:PySem.W.keepIn K (.ref LA)=true)
  (axsv:PySem.W.findIn K (.ref St) "have" =some (some (.ref U5)))
  (lxsv:dF K "have" "Store.have" AZ U5)
  (axsp:PySem.W.findIn K (.ref St) "put" =some (some (.ref U6)))
  (lxsp:dF K "put" "Store.put" J3 U6)
  (axso:PySem.W.findIn K (.ref St) "go" =some (some (.ref LB)))
  (ixso:PySem.W.isFn K (.ref LB)=true)
  (lxso:K.lookup LB=some ⟨VF,Vt, .func (PySem.W.fnOf "go" "Store.go" (bq C6) (aU C6) (aj C6) (.ref Co) IA IB IC Ie Cj ID),Vz⟩)
  (Wj:K.lookup Co=some ⟨Qb,Qc, .seq #[.int 1 MW] VL,Qd⟩)
  (cxso:PySem.W.codeIn K Cj "Store.go" =true)
  (Wk:PySem.W.keepIn K (.ref LB)=true)
  (axsy:PySem.W.findIn K (.ref St) "go_all" =some (some (.ref U7)))
  (lxsy:dF K "go_all" "Store.go_all" qK U7)
  (axss:PySem.W.findIn K (.ref St) "stocks" =some (some (.ref U8)))
  (lxss:dF K "stocks" "Store.stocks" mR U8)
  (axsm:PySem.W.findIn K (.ref St) "most" =some (some (.ref U9)))
  (lxsm:dF K "most" "Store.most" vF U9)
  (axca:PySem.W.nsIn K mainGlobals "_law_cell_at" =some (some (.ref U')))
  (lxca:dF K "_law_cell_at" "_law_cell_at" pO U')
  (axmi:PySem.W.nsIn K mainGlobals "_law_mixed" =some (some (.ref Va)))
  (lxmi:dF K "_law_mixed" "_law_mixed" vC Va)
  (axwh:PySem.W.nsIn K mainGlobals "_law_whole" =some (some (.ref Vb)))
  (lxwh:dF K "_law_whole" "_law_whole" vD Vb)
  (axki:PySem.W.nsIn K mainGlobals "_law_kind" =some (some (.ref Vc)))
  (lxki:dF K "_law_kind" "_law_kind" A0 Vc)
  (axfg:PySem.W.nsIn K mainGlobals "_law_figures" =some (some (.ref Vd)))
  (lxfg:dF K "_law_figures" "_law_figures" mS Vd)
  (axlm:PySem.W.nsIn K mainGlobals "_law_matter" =some (some (.ref Ve)))
  (lxlm:dF K "_law_matter" "_law_matter" mT Ve)
  (axlw:PySem.W.nsIn K mainGlobals "_law_world" =some (some (.ref Vf)))
  (lxlw:dF K "_law_world" "_law_world" oh Vf)
  (axlc:PySem.W.nsIn K mainGlobals "_law_change" =some (some (.ref Vg)))
  (lxlc:dF K "_law_change" "_law_change" j6 Vg)
  (axlt:PySem.W.nsIn K mainGlobals "_law_text" =some (some (.ref Vh)))
  (lxlt:dF K "_law_text" "_law_text" A1 Vh)
  (axlk:PySem.W.nsIn K mainGlobals "_law_asked" =some (some (.ref Vi)))
  (lxlk:dF K "_law_asked" "_law_asked" vE Vi)
  (axla:PySem.W.nsIn K mainGlobals "_law_amounts" =some (some (.ref Vj)))
  (lxla:dF K "_law_amounts" "_law_amounts" i7 Vj)
  (axpl:PySem.W.nsIn K mainGlobals "_law_plan" =some (some (.ref Vk)))
  (lxpl:dF K "_law_plan" "_law_plan" A2 Vk)
  (axle:PySem.W.nsIn K mainGlobals "_law_least" =some (some (.ref Vl)))
  (lxle:dF K "_law_least" "_law_least" vG Vl)
  (axfr:PySem.W.nsIn K mainGlobals "_law_first" =some (some (.ref Vm)))
  (lxfr:dF K "_law_first" "_law_first" vH Vm)
  (axlq:PySem.W.nsIn K mainGlobals "_law_most" =some (some (.ref Vn)))
  (lxlq:dF K "_law_most" "_law_most" vI Vn)
  (axbe:PySem.W.nsIn K mainGlobals "_law_behind" =some (some (.ref Vo)))
  (lxbe:dF K "_law_behind" "_law_behind" pP Vo)
  (alaw:PySem.W.nsIn K mainGlobals "law" =some (some (.ref PX)))
  (llaw:K.lookup PX=some ⟨VG,Vu, .func (PySem.W.fnOf "law" "law" (bq sr) (aU sr) (aj sr) .none MP MQ MR MO IE MS),VA⟩)
  (claw:PySem.W.codeIn K IE "law" =true)
  (klaw:PySem.W.keepIn K (.ref PX)=true)
  (bxri:PySem.W.findIn K (.ref Rc) "__init__" =some (some (.ref PD)))
  (bxrs:PySem.W.findIn K (.ref Rc) "sign" =some (some (.ref PJ)))
  (bxrt:PySem.W.findIn K (.ref Rc) "take" =some (some (.ref PK)))
  (bxra:PySem.W.findIn K (.ref Rc) "take_all" =some (some (.ref PL)))
  (bxrw:PySem.W.findIn K (.ref Rc) "read_whole" =some (some (.ref PM)))
  (bxrl:PySem.W.findIn K (.ref Rc) "read_electron" =some (some (.ref PN)))
  (Wl:PySem.W.findIn K (.ref Rc) "read_parts" =some (some (.ref HU)))
  (bxrp:PySem.W.findIn K (.ref Rc) "read_part" =some (some (.ref PQ)))
  (bxrg:PySem.W.findIn K (.ref Rc) "read_group" =some (some (.ref PR)))
  (Wm:PySem.W.findIn K (.ref Rc) "read_atom" =some (some (.ref HV)))
  (bxrc:PySem.W.findIn K (.ref Rc) "read_count" =some (some (.ref PU)))
  (bxrn:PySem.W.findIn K (.ref Rc) "read_number" =some (some (.ref PV)))
  (Wn:PySem.W.findIn K (.ref Rc) "read_charge" =some (some (.ref HW)))
  (Qj:PySem.W.typeIn K (.ref Cd)=some (.type "function"))
  (saSh:PySem.W.findIn K (.ref Sh) "__setattr__" =some (some (.builtin "object.__setattr__")))
  (gaSh:PySem.W.findIn K (.ref Sh) "__getattribute__" =some (some (.builtin "BaseException.__getattribute__")))
  (ghSh:PySem.W.findIn K (.ref Sh) "__getattr__" =some none)
  (kcSh:PySem.W.keepIn K (.ref Sh)=true)
  (obSh:∃(nm q:Str) (N:Addr) (bs:List Value) (sn:List Str) (sub:List Value) (ab:Bool) (col:Option Bool) (dd:Option Addr) (k0 k1 k2 k3 k5:Option Value),K.lookup Sh=some (excClassObj nm q Sh N bs (.ref HE::PySem.W.xG) true sn sub ab col dd k0 k1 k2 k3 k5 "ValueError.__new__"))
  (pgC:PySem.W.plainGet K C Str.empty=true)
  (hdC:PySem.W.hasDictIn K C=true)
  (poC:PySem.W.plainOver K C=true)
  (saC:PySem.W.findIn K (.ref C) "__setattr__" =some (some (.builtin "object.__setattr__")))
  (mkC:PySem.W.makesIn K C=true)
  (kcC:PySem.W.keepIn K (.ref C)=true)
  (Wo:PySem.W.plainGet K Gr Str.empty=true)
  (Wq:PySem.W.hasDictIn K Gr=true)
  (Wr:PySem.W.plainOver K Gr=true)
  (Ws:PySem.W.findIn K (.ref Gr) "__setattr__" =some (some (.builtin "object.__setattr__")))
  (mkGr:PySem.W.makesIn K Gr=true)
  (kcGr:PySem.W.keepIn K (.ref Gr)=true)
  (Wt:PySem.W.plainGet K Pc Str.empty=true)
  (Wu:PySem.W.hasDictIn K Pc=true)
  (Wv:PySem.W.plainOver K Pc=true)
  (Ww:PySem.W.findIn K (.ref Pc) "__setattr__" =some (some (.builtin "object.__setattr__")))
  (mkPc:PySem.W.makesIn K Pc=true)
  (kcPc:PySem.W.keepIn K (.ref Pc)=true)
  (Wx:PySem.W.plainGet K Fo Str.empty=true)
  (Wy:PySem.W.hasDictIn K Fo=true)
  (Wz:PySem.W.plainOver K Fo=true)
  (WA:PySem.W.findIn K (.ref Fo) "__setattr__" =some (some (.builtin "object.__setattr__")))
  (mkFo:PySem.W.makesIn K Fo=true)
  (kcFo:PySem.W.keepIn K (.ref Fo)=true)
  (pgRd:PySem.W.plainGet K Rd Str.empty=true)
  (hdRd:PySem.W.hasDictIn K Rd=true)
  (poRd:PySem.W.plainOver K Rd=true)
  (saRd:PySem.W.findIn K (.ref Rd) "__setattr__" =some (some (.builtin "object.__setattr__")))
  (mkRd:PySem.W.makesIn K Rd=true)
  (kcRd:PySem.W.keepIn K (.ref Rd)=true)
  (pgRc:PySem.W.plainGet K Rc Str.empty=true)
  (hdRc:PySem.W.hasDictIn K Rc=true)
  (poRc:PySem.W.plainOver K Rc=true)
  (saRc:PySem.W.findIn K (.ref Rc) "__setattr__" =some (some (.builtin "object.__setattr__")))
  (mkRc:PySem.W.makesIn K Rc=true)
  (kcRc:PySem.W.keepIn K (.ref Rc)=true)
  (pgCh:PySem.W.plainGet K Ch Str.empty=true)
  (hdCh:PySem.W.hasDictIn K Ch=true)
  (poCh:PySem.W.plainOver K Ch=true)
  (saCh:PySem.W.findIn K (.ref Ch) "__setattr__" =some (some (.builtin "object.__setattr__")))
  (mkCh:PySem.W.makesIn K Ch=true)
  (kcCh:PySem.W.keepIn K (.ref Ch)=true)
  (WB:PySem.W.plainGet K St Str.empty=true)
  (WC:PySem.W.hasDictIn K St=true)
  (WD:PySem.W.plainOver K St=true)
  (WE:PySem.W.findIn K (.ref St) "__setattr__" =some (some (.builtin "object.__setattr__")))
  (mkSt:PySem.W.makesIn K St=true)
  (kcSt:PySem.W.keepIn K (.ref St)=true)
  (M3:PySem.W.findIn K (.ref C) "kind" =some none)
  (IG:PySem.W.findIn K (.ref C) "count" =some none)
  (ngp:PySem.W.findIn K (.ref Gr) "parts" =some none)
  (ngc:PySem.W.findIn K (.ref Gr) "count" =some none)
  (npp:PySem.W.findIn K (.ref Pc) "parts" =some none)
  (YM:PySem.W.findIn K (.ref Pc) "count" =some none)
  (nfp:PySem.W.findIn K (.ref Fo) "pieces" =some none)
  (nfc:PySem.W.findIn K (.ref Fo) "charge" =some none)
  (nrt:PySem.W.findIn K (.ref Rd) "text" =some none)
  (nrp:PySem.W.findIn K (.ref Rd) "place" =some none)
  (nlf:PySem.W.findIn K (.ref Ch) "lefts" =some none)
  (nrf:PySem.W.findIn K (.ref Ch) "rights" =some none)
  (nct:PySem.W.findIn K (.ref Rc) "text" =some none)
  (ncp:PySem.W.findIn K (.ref Rc) "place" =some none)
  (nam:PySem.W.findIn K (.ref St) "amounts" =some none)
  (ngo:PySem.W.findIn K (.ref St) "gone" =some none)
  (fS1:PySem.W.findIn K (.ref Sh) "step" =some none)
  (fS2:PySem.W.findIn K (.ref Sh) "turn" =some none)
  (fS3:PySem.W.findIn K (.ref Sh) "formula" =some none)
  (fS4:PySem.W.findIn K (.ref Sh) "lack" =some none)
  (M4:PySem.W.nsIn K mainGlobals "len" =some none)
  (M5:PySem.W.nsIn K mainGlobals "str" =some none)
  (M6:PySem.W.nsIn K mainGlobals "int" =some none)
  (IH:PySem.W.nsIn K mainGlobals "bool" =some none)
  (Cq:PySem.W.nsIn K mainGlobals "range" =some none)
  (nI:PySem.W.nsIn K mainGlobals "isinstance" =some none)
  (II:PySem.W.nsIn K mainGlobals "list" =some none)
  (M7:PySem.W.nsIn K mainGlobals "abs" =some none)
  (IJ:PySem.W.nsIn K mainGlobals "dict" =some none)
  (WG:PySem.W.nsIn K mainGlobals "sum" =some none)
  (IK:PySem.W.nsIn K mainGlobals "sorted" =some none)
  (WH:PySem.W.nsIn K mainGlobals "all" =some none)
  (WI:PySem.W.nsIn K mainGlobals "min" =some none)
  (pe:PySem.W.nsIn K mainGlobals "enumerate" =some none)
  (WJ:PySem.W.nsIn K mainGlobals "max" =some none)
  (lM:PySem.W.nsIn K mainGlobals "LONGEST_KIND" =some (some (.int 3 uK)))
  (kD:PySem.W.nsIn K mainGlobals "LONGEST_COUNT" =some (some (.int 3 uN)))
  (nJ:PySem.W.nsIn K mainGlobals "GROUP_BEGIN" =some (some (.str "(" uB)))
  (rY:PySem.W.nsIn K mainGlobals "GROUP_END" =some (some (.str ")" uE)))
  (gI:PySem.W.nsIn K mainGlobals "MOST_GROUPS_AROUND" =some (some (.int 3 uM)))
  (nK:PySem.W.nsIn K mainGlobals "CHARGE_MARK" =some (some (.str "^" uC)))
  (M8:PySem.W.nsIn K mainGlobals "PLUS" =some (some (.str "+" uP)))
  (IL:PySem.W.nsIn K mainGlobals "MINUS" =some (some (.str "-" uI)))
  (rZ:PySem.W.nsIn K mainGlobals "PIECE_DOT" =some (some (.str "." uD)))
  (uH:PySem.W.nsIn K mainGlobals "ELECTRON" =some (some (.str "e^-" uL)))
  (lN:PySem.W.nsIn K mainGlobals "LONGEST_TEXT" =some (some (.int 400 uT)))
  (Qk:PySem.W.nsIn K mainGlobals "BLANK" =some (some (.str " " fg)))
  (Ql:PySem.W.nsIn K mainGlobals "JOINT" =some (some (.str " + " fj)))
  (Qm:PySem.W.nsIn K mainGlobals "ARROW" =some (some (.str " -> " fk)))
  (lE:PySem.W.nsIn K mainGlobals "LONGEST_TERM_COUNT" =some (some (.int 12 uG)))
  (yJ:PySem.W.nsIn K mainGlobals "MOST_TERMS" =some (some (.int 8 uS)))
  (hE1:PySem.W.specialIn K (.ref HE) "__getattribute__" =some (some (.builtin "type.__getattribute__")))
  (hE2:PySem.W.readsIn K HE (.type "type")=true)
  (hE3:PySem.W.findCls K (.ref HE) (.type "type") "__init__" =some (.val (.builtin "ValueError.__init__")))
  (hE4:∃(nm q:Str) (N:Addr) (bs bm:List Value) (hd:Bool) (sn:List Str) (sub:List Value) (ab:Bool) (col:Option Bool) (dd:Option Addr) (k0 k1 k2 k3 k5:Option Value) (YJ:String),K.lookup HE=some (excClassObj nm q HE N bs bm hd sn sub ab col dd k0 k1 k2 k3 k5 YJ)∧bm.contains (.type "BaseException")=true)
  (tS1:PySem.W.takerIn K Sh "step" =some none)
  (tS2:PySem.W.takerIn K Sh "turn" =some none)
  (tS3:PySem.W.takerIn K Sh "formula" =some none)
  (tS4:PySem.W.takerIn K Sh "lack" =some none)
  (t1:PySem.W.findIn K (.ref Sh) "__class__" =some (some (.builtin "object.__class__")))
  (t2:PySem.W.specialIn K (.builtin "object.__class__") "__get__" =some (some (.builtin "getset_descriptor.__get__")))
  (t3:PySem.W.takesIn K (.builtin "object.__class__")=some true)
  (uS1:PySem.W.mroIn K Sh (.ref HE)=some true)
  (uS2:PySem.W.mroIn K Sh (.ref Sh)=some true)
  :∃fd:FuncData,(∀(s:Shared) (v:Value),BindsTo s fd ⟨[v],[]⟩ [("_law_script",v)])∧∀base:Heap,K.In base→base.Ns mainGlobals mg→fw l.prog w K mg base qu 20 fa fd ["_law_script"] (B8 K):=by
 have e:=hfa.symm.trans (PySem.W.mg_of X G alaw)
 cases e
 have T:lC K mg C Rd Gr Pc Fo uK uN uB uE uM uC uP uI uD uL uT:=⟨⟨⟨⟨⟨pgC,hdC,poC,saC⟩,M3,IG,PySem.W.mg_of X G aC,PySem.W.mg_none_of X G M4,PySem.W.mg_none_of X G M5,PySem.W.mg_none_of X G M6,PySem.W.mg_none_of X G IH,PySem.W.mg_none_of X G Cq,PySem.W.mg_none_of X G nI,gm,mB,gm,gm,gm⟩,⟨pgRd,hdRd,poRd,saRd⟩,nrt,nrp,PySem.W.mg_of X G lM,PySem.W.mg_of X G kD⟩,⟨Wo,Wq,Wr,Ws⟩,ngp,ngc,PySem.W.mg_of X G aGr,PySem.W.mg_of X G nJ,PySem.W.mg_of X G rY,PySem.W.mg_of X G gI⟩,PySem.W.mg_of X G nK,PySem.W.mg_of X G M8,PySem.W.mg_of X G IL,⟨Wt,Wu,Wv,Ww⟩,⟨Wx,Wy,Wz,WA⟩,npp,YM,nfp,nfc,PySem.W.mg_of X G aPc,PySem.W.mg_of X G aFo,PySem.W.mg_of X G rZ,PySem.W.mg_of X G uH,PySem.W.mg_of X G lN,PySem.W.mg_none_of X G II,PySem.W.mg_none_of X G M7⟩
 have WK:Def K mg "is_great" "is_great" vt ["sign"]:=ck X G axig lxig (gT fun _ _ _ _ _ _ _=>rfl)
 have WL:Def K mg "is_small" "is_small" vw ["sign"]:=ck X G axis lxis (gT fun _ _ _ _ _ _ _=>rfl)
 have WM:Def K mg "is_figure" "is_figure" pJ ["sign"]:=ck X G axif lxif (gT fun _ _ _ _ _ _ _=>rfl)
 have WN:Def K mg "count_shown" "count_shown" iE ["count"]:=ck X G axcs lxcs (gT fun _ _ _ _ _ _ _=>rfl)
 have WO:Def K mg "parts_shown" "parts_shown" kQ ["parts"]:=ck X G axps lxps (gT fun _ _ _ _ _ _ _=>rfl)
 have Qn:lA K C "Atom.__init__" i5 ["self","kind","count"] [1]:=⟨_,_,_,kM (st:=i5) VP VQ VR,⟨mkC,VN,VO,kcC⟩,fun j hj=>match j,hj with|0,_=>⟨[.int 1 IF], .cons ⟨_,rfl⟩ (.nil),fun s us hk hl=>match us,(show us.length=2 by simpa using hl) with| [_,_],_=>PySem.W.binds_K (K:=K) (fd:=PySem.W.fnOf "__init__" "Atom.__init__" (bq i5) (aU i5) (aj i5) (.ref wX) Ax Ay Az Aw wW AA) hk rfl MX rfl rfl rfl⟩ |1,_=>⟨[], .nil,fun s us hk hl=>match us,(show us.length=3 by simpa using hl) with| [_,_,_],_=>PySem.W.binds_K (K:=K) (fd:=PySem.W.fnOf "__init__" "Atom.__init__" (bq i5) (aU i5) (aj i5) (.ref wX) Ax Ay Az Aw wW AA) hk rfl MX rfl rfl rfl⟩⟩
 have WQ:bb K C "shown" "Atom.shown" vx ["self"]:=bJ axsh lxsh (gT fun _ _ _ _ _ _ _=>rfl)
 have WR:lA K Gr "Group.__init__" fS ["self","parts","count"] [1]:=⟨_,_,_,kM (st:=fS) lxgi cxgi kxgi,⟨mkGr,axgi,ixgi,kcGr⟩,fun j hj=>match j,hj with|0,_=>⟨[.int 1 MT], .cons ⟨_,rfl⟩ (.nil),fun s us hk hl=>match us,(show us.length=2 by simpa using hl) with| [_,_],_=>PySem.W.binds_K (K:=K) (fd:=PySem.W.fnOf "__init__" "Group.__init__" (bq fS) (aU fS) (aj fS) (.ref Ck) Ig Ih Ii HY Ce Ij) hk rfl VS rfl rfl rfl⟩ |1,_=>⟨[], .nil,fun s us hk hl=>match us,(show us.length=3 by simpa using hl) with| [_,_,_],_=>PySem.W.binds_K (K:=K) (fd:=PySem.W.fnOf "__init__" "Group.__init__" (bq fS) (aU fS) (aj fS) (.ref Ck) Ig Ih Ii HY Ce Ij) hk rfl VS rfl rfl rfl⟩⟩
 have WS:bb K Gr "shown" "Group.shown" kR ["self"]:=bJ axgs lxgs (gT fun _ _ _ _ _ _ _=>rfl)
 have WT:lA K Pc "Piece.__init__" fT ["self","parts","count"] [1]:=⟨_,_,_,kM (st:=fT) lxpi cxpi kxpi,⟨mkPc,axpi,ixpi,kcPc⟩,fun j hj=>match j,hj with|0,_=>⟨[.int 1 MU], .cons ⟨_,rfl⟩ (.nil),fun s us hk hl=>match us,(show us.length=2 by simpa using hl) with| [_,_],_=>PySem.W.binds_K (K:=K) (fd:=PySem.W.fnOf "__init__" "Piece.__init__" (bq fT) (aU fT) (aj fT) (.ref Cm) Ik Il Im HZ Cf Io) hk rfl VT rfl rfl rfl⟩ |1,_=>⟨[], .nil,fun s us hk hl=>match us,(show us.length=3 by simpa using hl) with| [_,_,_],_=>PySem.W.binds_K (K:=K) (fd:=PySem.W.fnOf "__init__" "Piece.__init__" (bq fT) (aU fT) (aj fT) (.ref Cm) Ik Il Im HZ Cf Io) hk rfl VT rfl rfl rfl⟩⟩
 have WU:bb K Pc "shown" "Piece.shown" iF ["self"]:=bJ axpS lxpS (gT fun _ _ _ _ _ _ _=>rfl)
 have WV:Def K mg "refuse_too_long" "refuse_too_long" mH ["text"]:=ck X G axtl lxtl (gT fun _ _ _ _ _ _ _=>rfl)
 have WW:Def K mg "charge_shown" "charge_shown" gL ["charge"]:=ck X G axch lxch (gT fun _ _ _ _ _ _ _=>rfl)
 have WX:lA K Fo "Formula.__init__" fU ["self","pieces","charge"] [0]:=⟨_,_,_,kM (st:=fU) lxfi cxfi kxfi,⟨mkFo,axfi,ixfi,kcFo⟩,fun j hj=>match j,hj with|0,_=>⟨[.int 0 MV], .cons ⟨_,rfl⟩ (.nil),fun s us hk hl=>match us,(show us.length=2 by simpa using hl) with| [_,_],_=>PySem.W.binds_K (K:=K) (fd:=PySem.W.fnOf "__init__" "Formula.__init__" (bq fU) (aU fU) (aj fU) (.ref Cn) Ip Iq Ir Ia Cg Iu) hk rfl VU rfl rfl rfl⟩ |1,_=>⟨[], .nil,fun s us hk hl=>match us,(show us.length=3 by simpa using hl) with| [_,_,_],_=>PySem.W.binds_K (K:=K) (fd:=PySem.W.fnOf "__init__" "Formula.__init__" (bq fU) (aU fU) (aj fU) (.ref Cn) Ip Iq Ir Ia Cg Iu) hk rfl VU rfl rfl rfl⟩⟩
 have WY:bb K Fo "shown" "Formula.shown" mI ["self"]:=bJ axfS lxfS (gT fun _ _ _ _ _ _ _=>rfl)
 have WZ:lA K Rd "Reader.__init__" qH ["self","text"] []:=FE mkRd axri kcRd VW (pk fun _ _ _ _ _ _ _ _=>rfl)
 have W0:lA K Rc "Reader.__init__" qH ["self","text"] []:=FE mkRc bxri kcRc VW (pk fun _ _ _ _ _ _ _ _=>rfl)
 have W2:bb K Rd "sign" "Reader.sign" xK ["self"]:=bJ axrs VX (gT fun _ _ _ _ _ _ _=>rfl)
 have W3:bb K Rc "sign" "Reader.sign" xK ["self"]:=bJ bxrs VX (gT fun _ _ _ _ _ _ _=>rfl)
 have W4:bb K Rd "take" "Reader.take" xM ["self","sign"]:=bJ axrt VY (pk fun _ _ _ _ _ _ _ _=>rfl)
 have W5:bb K Rc "take" "Reader.take" xM ["self","sign"]:=bJ bxrt VY (pk fun _ _ _ _ _ _ _ _=>rfl)
 have W6:bb K Rd "take_all" "Reader.take_all" j3 ["self","signs"]:=bJ axra VZ (pk fun _ _ _ _ _ _ _ _=>rfl)
 have W7:bb K Rc "take_all" "Reader.take_all" j3 ["self","signs"]:=bJ bxra VZ (pk fun _ _ _ _ _ _ _ _=>rfl)
 have W8:bb K Rd "take_end" "Reader.take_end" mK ["self"]:=bJ axre lxre (gT fun _ _ _ _ _ _ _=>rfl)
 have W9:bb K Rd "read_whole" "Reader.read_whole" mL ["self"]:=bJ axrw V0 (gT fun _ _ _ _ _ _ _=>rfl)
 have W':bb K Rc "read_whole" "Reader.read_whole" mL ["self"]:=bJ bxrw V0 (gT fun _ _ _ _ _ _ _=>rfl)
 have Xa:bb K Rd "read_electron" "Reader.read_electron" g7 ["self"]:=bJ axrl V1 (gT fun _ _ _ _ _ _ _=>rfl)
 have Xb:bb K Rc "read_electron" "Reader.read_electron" g7 ["self"]:=bJ bxrl V1 (gT fun _ _ _ _ _ _ _=>rfl)
 have Qo:bb K Rd "read_parts" "Reader.read_parts" kS ["self","around"]:=bJ V2 MY (pk fun _ _ _ _ _ _ _ _=>rfl)
 have Qq:bb K Rc "read_parts" "Reader.read_parts" kS ["self","around"]:=bJ Wl MY (pk fun _ _ _ _ _ _ _ _=>rfl)
 have Xc:bb K Rd "read_part" "Reader.read_part" og ["self","around"]:=bJ axrp V3 (pk fun _ _ _ _ _ _ _ _=>rfl)
 have Xd:bb K Rc "read_part" "Reader.read_part" og ["self","around"]:=bJ bxrp V3 (pk fun _ _ _ _ _ _ _ _=>rfl)
 have Xe:bb K Rd "read_group" "Reader.read_group" jq ["self","around"]:=bJ axrg V4 (pk fun _ _ _ _ _ _ _ _=>rfl)
 have Xf:bb K Rc "read_group" "Reader.read_group" jq ["self","around"]:=bJ bxrg V4 (pk fun _ _ _ _ _ _ _ _=>rfl)
 have Qr:bb K Rd "read_atom" "Reader.read_atom" qI ["self"]:=bJ V5 MZ (gT fun _ _ _ _ _ _ _=>rfl)
 have Qs:bb K Rc "read_atom" "Reader.read_atom" qI ["self"]:=bJ Wm MZ (gT fun _ _ _ _ _ _ _=>rfl)
 have Xg:bb K Rd "read_count" "Reader.read_count" mM ["self"]:=bJ axrc V6 (gT fun _ _ _ _ _ _ _=>rfl)
 have Xh:bb K Rc "read_count" "Reader.read_count" mM ["self"]:=bJ bxrc V6 (gT fun _ _ _ _ _ _ _=>rfl)
 have Xi:bb K Rd "read_number" "Reader.read_number" j4 ["self","longest"]:=bJ axrn V7 (pk fun _ _ _ _ _ _ _ _=>rfl)
 have Xj:bb K Rc "read_number" "Reader.read_number" j4 ["self","longest"]:=bJ bxrn V7 (pk fun _ _ _ _ _ _ _ _=>rfl)
 have Qt:bb K Rd "read_charge" "Reader.read_charge" j5 ["self"]:=bJ V8 M0 (gT fun _ _ _ _ _ _ _=>rfl)
 have Qu:bb K Rc "read_charge" "Reader.read_charge" j5 ["self"]:=bJ Wn M0 (gT fun _ _ _ _ _ _ _=>rfl)
 have Xk:Def K mg "read_formula" "read_formula" kT ["text"]:=ck X G axrf lxrf (gT fun _ _ _ _ _ _ _=>rfl)
 have M9:Def K mg "parts_counts" "parts_counts" i4 ["parts","times"]:=ck X G axpc lxpc (pk fun _ _ _ _ _ _ _ _=>rfl)
 have Xl:bb K C "counts" "Atom.counts" pK ["self"]:=bJ axco lxco (gT fun _ _ _ _ _ _ _=>rfl)
 have Xm:bb K Gr "counts" "Group.counts" i6 ["self"]:=bJ axgc lxgc (gT fun _ _ _ _ _ _ _=>rfl)
 have Xn:bb K Pc "counts" "Piece.counts" gK ["self"]:=bJ axpC lxpC (gT fun _ _ _ _ _ _ _=>rfl)
 have Xo:bb K Fo "counts" "Formula.counts" mJ ["self"]:=bJ axfC lxfC (gT fun _ _ _ _ _ _ _=>rfl)
 have Xp:lA K Ch "Change.__init__" vy ["self","lefts","rights"] []:=FE mkCh axci kcCh lxci (QO fun _ _ _ _ _ _ _ _ _=>rfl)
 have Xq:Def K mg "formula_amounts" "formula_amounts" mN ["formula"]:=ck X G axam lxam (gT fun _ _ _ _ _ _ _=>rfl)
 have Xr:bb K Ch "kinds" "Change.kinds" vz ["self"]:=bJ axkd lxkd (gT fun _ _ _ _ _ _ _=>rfl)
 have Xs:bb K Rc "read_term" "ChangeReader.read_term" vA ["self"]:=bJ axrm lxrm (gT fun _ _ _ _ _ _ _=>rfl)
 have Qv:bb K Rc "read_lefts" "ChangeReader.read_lefts" pL ["self"]:=bJ V9 V' (gT fun _ _ _ _ _ _ _=>rfl)
 have Qw:bb K Rc "read_rights" "ChangeReader.read_rights" mO ["self"]:=bJ Wa Wb (gT fun _ _ _ _ _ _ _=>rfl)
 have Qx:bb K Rc "read_sides" "ChangeReader.read_sides" pM ["self"]:=bJ Wc Wd (gT fun _ _ _ _ _ _ _=>rfl)
 have LG:Def K mg "read_change" "read_change" mP ["text"]:=ck X G Qh Qi (gT fun _ _ _ _ _ _ _=>rfl)
 have Xt:Def K mg "side_counts" "side_counts" iG ["terms"]:=ck X G axsc lxsc (gT fun _ _ _ _ _ _ _=>rfl)
 have Xu:Def K mg "gains" "gains" qJ ["change"]:=ck X G axgn lxgn (gT fun _ _ _ _ _ _ _=>rfl)
 have Xv:Def K mg "side_amounts" "side_amounts" gM ["terms"]:=ck X G axsa lxsa (gT fun _ _ _ _ _ _ _=>rfl)
 have Xw:bb K Ch "lost" "Change.lost" tI ["self"]:=bJ axlo lxlo (gT fun _ _ _ _ _ _ _=>rfl)
 have Xx:Def K mg "read_even" "read_even" kU ["text"]:=ck X G axev lxev (gT fun _ _ _ _ _ _ _=>rfl)
 have Xy:Def K mg "turns_of" "turns_of" mQ ["amount","taken","gain"]:=ck X G axto lxto (QO fun _ _ _ _ _ _ _ _ _=>rfl)
 have Xz:Def K mg "most_turns" "most_turns" fV ["change","amounts"]:=ck X G axmo lxmo (pk fun _ _ _ _ _ _ _ _=>rfl)
 have XA:Def K mg "turned" "turned" pN ["change","times","amounts"]:=ck X G axtu lxtu (QO fun _ _ _ _ _ _ _ _ _=>rfl)
 have Qy:Def K mg "refuse_short" "refuse_short" gN ["change","times","amounts","step"]:=ck X G We Wf (ba4 fun _ _ _ _ _ _ _ _ _ _=>rfl)
 have AB:PySem.W.fR K Sh HE Cd:=⟨obSh,Wg,Qj,saSh,gaSh,ghSh⟩
 have Qz:FC K mg "Short" Sh HE "Short.__init__" vB ["self","step","turn","formula","lack"]:=Sk AB (PySem.W.mg_of X G aSh) kcSh Wh (ba5 fun _ _ _ _ _ _ _ _ _ _ _=>rfl)
 have XB:J0 K St "Store.__init__" fW ["self","amounts"]:=⟨_,_,_,kM (st:=fW) lxsi cxsi kxsi,⟨mkSt,axsi,ixsi,kcSt⟩,fun s us hk hl=>match us,(show us.length=2 by simpa using hl) with| [_,_],_=>PySem.W.binds_K (K:=K) (fd:=PySem.W.fnOf "__init__" "Store.__init__" (bq fW) (aU fW) (aj fW) (.ref Cp) Iv Iw Iy Ic Ci Iz) hk rfl Wi rfl rfl rfl,fun s us hk hl=>match us,(show us.length=1 by simpa using hl) with| [_],_=>PySem.W.binds_K (K:=K) (fd:=PySem.W.fnOf "__init__" "Store.__init__" (bq fW) (aU fW) (aj fW) (.ref Cp) Iv Iw Iy Ic Ci Iz) hk rfl Wi rfl rfl rfl⟩
 have XC:bb K St "have" "Store.have" AZ ["self","text"]:=bJ axsv lxsv (pk fun _ _ _ _ _ _ _ _=>rfl)
 have XD:bb K St "put" "Store.put" J3 ["self","text","many"]:=bJ axsp lxsp (QO fun _ _ _ _ _ _ _ _ _=>rfl)
 have XE:AY K St "go" "Store.go" C6 ["self","text","times"] [1]:=⟨_,_,_,kM (st:=C6) lxso cxso Wk,⟨axso,ixso,Wk⟩,fun j hj=>match j,hj with|0,_=>⟨[.int 1 MW], .cons ⟨_,rfl⟩ (.nil),fun s us hk hl=>match us,(show us.length=2 by simpa using hl) with| [_,_],_=>PySem.W.binds_K (K:=K) (fd:=PySem.W.fnOf "go" "Store.go" (bq C6) (aU C6) (aj C6) (.ref Co) IA IB IC Ie Cj ID) hk rfl Wj rfl rfl rfl⟩ |1,_=>⟨[], .nil,fun s us hk hl=>match us,(show us.length=3 by simpa using hl) with| [_,_,_],_=>PySem.W.binds_K (K:=K) (fd:=PySem.W.fnOf "go" "Store.go" (bq C6) (aU C6) (aj C6) (.ref Co) IA IB IC Ie Cj ID) hk rfl Wj rfl rfl rfl⟩⟩
 have XF:bb K St "go_all" "Store.go_all" qK ["self","rows"]:=bJ axsy lxsy (pk fun _ _ _ _ _ _ _ _=>rfl)
 have XG:bb K St "stocks" "Store.stocks" mR ["self"]:=bJ axss lxss (gT fun _ _ _ _ _ _ _=>rfl)
 have XH:bb K St "most" "Store.most" vF ["self","text"]:=bJ axsm lxsm (pk fun _ _ _ _ _ _ _ _=>rfl)
 have XI:Def K mg "_law_cell_at" "_law_cell_at" pO ["_law_script","_law_k"]:=ck X G axca lxca (pk fun _ _ _ _ _ _ _ _=>rfl)
 have XJ:Def K mg "_law_mixed" "_law_mixed" vC ["_law_cell","_law_prime"]:=ck X G axmi lxmi (pk fun _ _ _ _ _ _ _ _=>rfl)
 have XM:Def K mg "_law_whole" "_law_whole" vD ["_law_found"]:=ck X G axwh lxwh (gT fun _ _ _ _ _ _ _=>rfl)
 have XN:Def K mg "_law_kind" "_law_kind" A0 ["_law_number"]:=ck X G axki lxki (gT fun _ _ _ _ _ _ _=>rfl)
 have XO:Def K mg "_law_figures" "_law_figures" mS ["_law_count_here"]:=ck X G axfg lxfg (gT fun _ _ _ _ _ _ _=>rfl)
 have XQ:Def K mg "_law_matter" "_law_matter" mT ["_law_cell","_law_kinds"]:=ck X G axlm lxlm (pk fun _ _ _ _ _ _ _ _=>rfl)
 have XR:Def K mg "_law_world" "_law_world" oh ["_law_script"]:=ck X G axlw lxlw (gT fun _ _ _ _ _ _ _=>rfl)
 have XS:Def K mg "_law_change" "_law_change" j6 ["_law_cell","_law_world_here"]:=ck X G axlc lxlc (pk fun _ _ _ _ _ _ _ _=>rfl)
 have XT:Def K mg "_law_text" "_law_text" A1 ["_law_lefts","_law_rights"]:=ck X G axlt lxlt (pk fun _ _ _ _ _ _ _ _=>rfl)
 have XU:Def K mg "_law_asked" "_law_asked" vE ["_law_terms"]:=ck X G axlk lxlk (gT fun _ _ _ _ _ _ _=>rfl)
 have XW:Def K mg "_law_amounts" "_law_amounts" i7 ["_law_found","_law_due"]:=ck X G axla lxla (pk fun _ _ _ _ _ _ _ _=>rfl)
 have XX:Def K mg "_law_plan" "_law_plan" A2 ["_law_script","_law_takes","_law_gives"]:=ck X G axpl lxpl (QO fun _ _ _ _ _ _ _ _ _=>rfl)
 have XY:Def K mg "_law_least" "_law_least" vG ["_law_plan_here"]:=ck X G axle lxle (gT fun _ _ _ _ _ _ _=>rfl)
 have XZ:Def K mg "_law_first" "_law_first" vH ["_law_plan_here","_law_turns","_law_takes","_law_gives"]:=ck X G axfr lxfr (ba4 fun _ _ _ _ _ _ _ _ _ _=>rfl)
 have X0:Def K mg "_law_most" "_law_most" vI ["_law_store","_law_text_here","_law_due"]:=ck X G axlq lxlq (QO fun _ _ _ _ _ _ _ _ _=>rfl)
 have X2:Def K mg "_law_behind" "_law_behind" pP ["_law_amounts_here","_law_takes","_law_gives","_law_times"]:=ck X G axbe lxbe (ba4 fun _ _ _ _ _ _ _ _ _ _=>rfl)
 have Flaw:=NH (st:=sr) llaw claw klaw
 refine⟨PySem.W.fnOf "law" "law" (bq sr) (aU sr) (aj sr) .none MP MQ MR MO IE MS,fun s v=> .of_eq rfl,fun base _ _=>?_⟩
 have TH:Gp K mg C Rc Gr Pc Fo Ch uK uN uB uE uM uC uP uI uD uL uT fg fj fk:=⟨⟨⟨⟨⟨⟨pgC,hdC,poC,saC⟩,M3,IG,PySem.W.mg_of X G aC,PySem.W.mg_none_of X G M4,PySem.W.mg_none_of X G M5,PySem.W.mg_none_of X G M6,PySem.W.mg_none_of X G IH,PySem.W.mg_none_of X G Cq,PySem.W.mg_none_of X G nI,gm,mB,gm,gm,gm⟩,⟨pgRc,hdRc,poRc,saRc⟩,nct,ncp,PySem.W.mg_of X G lM,PySem.W.mg_of X G kD⟩,⟨Wo,Wq,Wr,Ws⟩,ngp,ngc,PySem.W.mg_of X G aGr,PySem.W.mg_of X G nJ,PySem.W.mg_of X G rY,PySem.W.mg_of X G gI⟩,PySem.W.mg_of X G nK,PySem.W.mg_of X G M8,PySem.W.mg_of X G IL,⟨Wt,Wu,Wv,Ww⟩,⟨Wx,Wy,Wz,WA⟩,npp,YM,nfp,nfc,PySem.W.mg_of X G aPc,PySem.W.mg_of X G aFo,PySem.W.mg_of X G rZ,PySem.W.mg_of X G uH,PySem.W.mg_of X G lN,PySem.W.mg_none_of X G II,PySem.W.mg_none_of X G M7⟩,PySem.W.mg_none_of X G IJ,⟨pgCh,hdCh,poCh,saCh⟩,nlf,nrf,PySem.W.mg_of X G aCh,PySem.W.mg_of X G Qk,PySem.W.mg_of X G Ql,PySem.W.mg_of X G Qm⟩
 have TK:oJ K mg C Rc Gr Pc Fo Ch uK uN uB uE uM uC uP uI uD uL uT fg fj fk uG uS:=⟨TH,PySem.W.mg_of X G lE,PySem.W.mg_of X G aRc,PySem.W.mg_of X G yJ⟩
 have TL:GJ K mg C Rc Gr Pc Fo Ch uK uN uB uE uM uC uP uI uD uL uT fg fj fk:=⟨TH,PySem.W.mg_none_of X G IK,PySem.W.mg_none_of X G WH⟩
 have TM:Tn K mg C Rc Gr Pc Fo Ch uK uN uB uE uM uC uP uI uD uL uT fg fj fk uG uS:=⟨TK,PySem.W.mg_none_of X G WI⟩
 have TO:G9 K mg C Rc Gr Pc Fo Ch St uK uN uB uE uM uC uP uI uD uL uT fg fj fk uG uS:=⟨TK,PySem.W.mg_none_of X G pe,⟨WB,WC,WD,WE⟩,nam,ngo⟩
 have TS:wB K mg C Rd Gr Pc Fo St uK uN uB uE uM uC uP uI uD uL uT:=⟨T,PySem.W.mg_none_of X G IJ,PySem.W.mg_none_of X G WG,⟨WB,WC,WD,WE⟩,nam,ngo,PySem.W.mg_of X G aSt⟩
 have TF:Sz K mg C Rd Gr Pc Fo uK uN uB uE uM uC uP uI uD uL uT:=⟨T,PySem.W.mg_of X G aRd⟩
 have TE:KY K mg HE Sh:=⟨PySem.W.mg_of X G aHE,⟨hE1,hE2,hE3⟩,⟨hE4⟩,PySem.W.mg_of X G aSh,tS1,tS2,tS3,tS4,fS1,fS2,fS3,fS4,⟨t1,t2,t3⟩,uS1⟩
 have TA:om K mg C:=T.toqU.tosv.toom
 have LH:=FT (P:=l.prog) (w:=w) (base:=base) WK
 have X3:=FU (P:=l.prog) (w:=w) (base:=base) WL
 have X4:=Di (P:=l.prog) (w:=w) (base:=base) WM
 have LI:=rR (P:=l.prog) (w:=w) (base:=base) WN TA
 have X5:=Kp (P:=l.prog) (w:=w) (base:=base) Qn TA
 have q_sh:=Hr WQ TA LI
 have X6:=Gf (P:=l.prog) (w:=w) (base:=base) WR T
 have X7:=Gg (P:=l.prog) (w:=w) (base:=base) WT T
 have LJ:=Gh (P:=l.prog) (w:=w) (base:=base) WX T
 have X8:=zR (P:=l.prog) (w:=w) (base:=base) WV T
 have q_ri:=xR (P:=l.prog) (w:=w) (base:=base) WZ T.toqU.tosv
 have Ej:=A' (P:=l.prog) (w:=w) (base:=base) W2 T.toqU.tosv
 have LK:=Ba W4 T.toqU.tosv Ej
 have q_ra:=qS W6 T.toqU.tosv LK
 have q_rn:=tR Xi T.toqU.tosv Ej X4
 have LL:=tS Xg T.toqU.tosv q_rn
 have X9:=xS Qr T.toqU.tosv Ej LH X3 LL X5
 have X':=qY Xe Xc Qo T.toqU Ej LH X9 LK LL X6 1
 have Ya:=qZ Qt T.toSu Ej LK LL
 have q_rl:=nq 1 Xa T q_ra LJ
 have q_rw:=t9 1 W9 T Ej LK LL X' Ya q_rl X7 LJ
 have q_re:=zK (P:=l.prog) (w:=w) (base:=base) W8 T.toqU.tosv
 have q_rf:=xY 1 Xk TF X8 q_ri q_rw q_re
 have q_ps:=ua WO WS T.toqU q_sh LI 1
 have q_pS:=rj 1 WU T q_ps LI
 have q_ch:=oG WW T LI
 have q_fS:=zZ 1 WY T q_pS q_ch
 have q_co:=DC (P:=l.prog) (w:=w) (base:=base) Xl TA
 have q_pc:=rA M9 Xm T.toqU q_co 1
 have q_pC:=pz 1 Xn T q_pc
 have q_pP:=yc 1 M9 T q_pC
 have Yb:=ye 1 Xo T q_pP
 have p_ri:=xR (P:=l.prog) (w:=w) (base:=base) W0 TH.tolC.toqU.tosv
 have Ek:=A' (P:=l.prog) (w:=w) (base:=base) W3 TH.tolC.toqU.tosv
 have IM:=Ba W5 TH.tolC.toqU.tosv Ek
 have QA:=qS W7 TH.tolC.toqU.tosv IM
 have Yc:=tR Xj TH.tolC.toqU.tosv Ek X4
 have LM:=tS Xh TH.tolC.toqU.tosv Yc
 have Yd:=xS Qs TH.tolC.toqU.tosv Ek LH X3 LM X5
 have Ye:=qY Xf Xd Qq TH.tolC.toqU Ek LH Yd IM LM X6 1
 have Yf:=qZ Qu TH.tolC.toSu Ek IM LM
 have p_rl:=nq 1 Xb TH.tolC QA LJ
 have p_rw:=t9 1 W' TH.tolC Ek IM LM Ye Yf p_rl X7 LJ
 have q_ci:=Gu (P:=l.prog) (w:=w) (base:=base) Xp TH
 have Yg:=GA Xs TK Yc IM p_rw
 have Yh:=DH Qv TK Yg QA
 have Yi:=z9 Qw TK Yg QA
 have Yj:=DJ Qx TK Yh Yi q_ci
 have QB:=Ad LG TK X8 p_ri Yj
 have QC:=sI Xt TK q_fS
 have Yk:=GI Xu TK QC
 have q_am:=Af Xq TH Yb
 have q_kd:=GQ Xr TL Yb
 have q_sa:=rJ Xv TL q_am
 have q_lo:=KN Xw TL q_sa q_kd
 have Yl:=yx Xx TK QB q_lo
 have q_to:=Am (P:=l.prog) (w:=w) (base:=base) Xy
 have Ym:=K' Xz TM QC Yk q_to
 have Yn:=D0 XA TK Yk
 have Yo:=G7 (P:=l.prog) (w:=w) (base:=base) Qz TE
 have Yp:=DY Qy TK TE Ym Yn QC Yo
 have Yq:=Hc XF TO Yl Yp Yn
 have q_go:=Tj XE TO Yq
 have q_ha:=KQ XC TS q_rf
 have q_pu:=OV XD TS q_ha
 have q_si:=G2 XB TS q_pu
 have q_sk:=DP (P:=l.prog) (w:=w) (base:=base) XG TS
 have QD:=z7 (P:=l.prog) (w:=w) (base:=base) XI TA
 have q_mi:=O0 (P:=l.prog) (w:=w) (base:=base) XJ
 have QE:=Gb (P:=l.prog) (w:=w) (base:=base) XM TA
 have q_ki:=Ge (P:=l.prog) (w:=w) (base:=base) XN TA
 have q_fg:=z6 (P:=l.prog) (w:=w) (base:=base) XO TA
 have q_lm:=DS XQ TS q_fg
 have q_lw:=Hg XR TS QD q_mi q_ki q_lm
 have q_lc:=Aq (P:=l.prog) (w:=w) (base:=base) XS TL
 have q_lt:=Hk (P:=l.prog) (w:=w) (base:=base) XT TA
 have q_lk:=He (P:=l.prog) (w:=w) (base:=base) XU
 have q_la:=Lc XW TS QE
 have TN:T7 K mg C:=⟨TA,PySem.W.mg_none_of X G pe⟩
 have q_pl:=Lk XX TN QD
 have q_le:=HD (P:=l.prog) (w:=w) (base:=base) XY
 have q_fr:=HG (P:=l.prog) (w:=w) (base:=base) XZ
 have q_mS:=Hy XH TO Yl Ym
 have q_lq:=HI X0 TO q_mS QE
 have q_be:=Ec (P:=l.prog) (w:=w) (base:=base) X2 TH.toSD
 have TY:Uh K mg C Rd Gr Pc Fo St HE Sh uK uN uB uE uM uC uP uI uD uL uT:=⟨TS,TE,PySem.W.mg_none_of X G WJ,AB.par,uS2⟩
 exact Pw Flaw TY AB q_lw QD q_lc q_si q_lt q_lk q_pl q_le q_fr q_lq q_be q_go QE q_sk q_la
theorem walk {l:PySem.W.OpenLaw} {q:Program} {loose:List Str} {XP:(Str→Option Value)→Heap→Prop} {YP:World→Heap→Prop} {d:DefRec} {K:Params→PySem.W.Frag} (hn:l.most=some 63) (RQ:d.params.defaults=[])
  (hY:∀(w:World) (h:Heap),YP w h→(K w.params).In h)
  (F:∀(w:World) (mg:Str→Option Value) (fa:Addr) (h:Heap),(K w.params).In h→h.Ns mainGlobals mg→mg d.name=some (.ref fa)→
   ∃fd:FuncData,(∀(s:Shared) (u:Value),BindsTo s fd ⟨[u],[]⟩ [("_law_script",u)])∧∀base:Heap,(K w.params).In base→base.Ns mainGlobals mg→fw l.prog w (K w.params) mg base qu 20 fa fd ["_law_script"] (B8 (K w.params))):
  PySem.W.WalkO q loose XP YP l.row.toRowW d [] (fun f vs=>PySem.call f vs):=
 L2.Jz (n:=63) (k:=20) (x:="_law_script") (CX:=fun _=>qu) (sp:=fun w=>B8 (K w.params)) hn (by decide) RQ ⟨rfl,by decide,by decide⟩ hY F (fun _ _ a ns hl _ hS=>⟨a,ns,rfl,hS,hl,fun _=>rfl⟩) fun _ _ _ _ _ z=>z
end K52
open PySem PySem.W PyProof.Rows
namespace PySem.W.Fast
def tw9570640507504744206:=0
def tw3003708755302312414:=0
def tw12414513738407809138:=0
def tw14959681525348519141:=0
def tw4425279346745761016:=0
def tw15946294296617468103:=0
def tw7643238352609783741:=0
def tw1655523616325513960:=0
def tw9895829828095827573:=0
def tw12015988190366047136:=0
def tw372578510006627046:=0
def tw14271350517662958843:=0
def tw9085887714341488102:=0
def tw16788917067305119067:=0
def tw15613283363892332182:=0
def tw7568574136105088751:=0
def tw14944056573619393037:=0
def tw2037253190112666849:=0
def tw11517427209005500432:=0
def tw7495909931704169595:=0
def tw4979937292251105354:=0
def tw4649809538428544443:=0
def tw15089012407056449975:=0
def tw1405472929971941521:=0
def tw11273020829084839143:=0
def tw16213528718915439435:=0
def tw8357015553429798110:=0
def tw17894050651316754052:=0
def tw16318043273581842409:=0
def tw6823155396391819524:=0
def tw8554322794019005557:=0
def tw17560527808051973694:=0
def tw8045295981154902465:=0
def tw15664629391580965315:=0
def tw17599653466529966036:=0
def tw14333002355910146930:=0
def tw16872002033363589725:=0
def tw12264058590407183691:=0
def tw784193497641236780:=0
def tw14729499866394039396:=0
def tw3688935726293770410:=0
def tw11272519266734785911:=0
def tw4517814217285098791:=0
def tw4769674089721035586:=0
def tw3598007977470301520:=0
def tw11786928590859596743:=0
def tw15975965501096608321:=0
def tw3258227105991612278:=0
def tw18262606899431041967:=0
def tw2417836162757609942:=0
def tw17858480879405218038:=0
def tw9374427228776395620:=0
def tw17834330407584839029:=0
def tw12121098098386259460:=0
def tw5464943604639938181:=0
def tw9706228899351332171:=0
def tw13873823713857611198:=0
def tw5543273656685308719:=0
def tw3986127334863183790:=0
def tw13615682916746077710:=0
def tw8899279102073651895:=0
def tw2666191619427425922:=0
def tw2892337782274518410:=0
def tw17275791166374317801:=0
def tw1803989910224746565:=0
def tw6304476582535625368:=0
def tw11381903660920795246:=0
def tw6922773999882881574:=0
def tw6802563421640168882:=0
def tw15696683123590997956:=0
def tw8447295026655992407:=0
def tw12611762614552807935:=0
def tw15720022447789696531:=0
def tw16534063808875860600:=0
def tw8608173114559056884:=0
def tw6477158250912200599:=0
def tw500355783360077219:=0
def tw10304972506823476358:=0
def tw4640761248911565902:=0
def tw15853536451707414201:=0
def tw10346650569492241083:=0
def tw7898364551515347967:=0
def tw16107448797921085100:=0
def tw14690603643772580363:=0
def tw11754043673481902585:=0
def tw10379248129297867670:=0
def tw15213230298412084760:=0
def tw10487997965264235394:=0
def tw18026753508830416055:=0
def tw8155573462962474941:=0
def tw13537649905798158643:=0
def tw997228174147539806:=0
def tw13717461047430573479:=0
def tw13938483404403715858:=0
def tw6172811498676635164:=0
def tw6277325914883903448:=0
def tw7432986562543833528:=0
def tw12422422494978215754:=0
def tw1342488115198974174:=0
def tw16955074699444273424:=0
def tw13092748371801153537:=0
def tw3036653994049894920:=0
def tw12754788601876010832:=0
def tw13709246403157257300:=0
def tw6622483972521691546:=0
def tw6353711776321235991:=0
def tw17592684582629087136:=0
def tw14609235993660742907:=0
def tw9021858826811313190:=0
def tw1408419886087147386:=0
def tw17879823615941075063:=0
def tw16376844077085798445:=0
def tw13341379860722156620:=0
def tw15461561581194662224:=0
def tw13402993664610244515:=0
def tw10864275186057495592:=0
def tw2659633426915148500:=0
def tw13145295151538305113:=0
def tw8857317259495452415:=0
def tw10230309778149878426:=0
def tw14458304034699551925:=0
def tw7045988573004488430:=0
def tw5889497414384402010:=0
def tw3043334907002041429:=0
def tw236532851134466485:=0
def tw2010097615360981217:=0
def tw8332975472062549508:=0
def tw7904787625181201949:=0
def tw7991010375606086532:=0
def tw445750683301600789:=0
def tw2290732405532484476:=0
def tw8272723530025025959:=0
def tw521243866306523484:=0
def tw9803382175070472473:=0
def tw6746589158699408063:=0
def tw17923823593020341650:=0
def tw11983451215552435729:=0
def tw141256922810203543:=0
def tw16641789175577867678:=0
def tw2686551200063928905:=0
def tw3098168583794785594:=0
def tw958229283742296587:=0
def tw13408078463932533840:=0
def tw5467058083580431095:=0
def tw17624478970954365028:=0
def tw13296508869745072739:=0
def tw2632988588828462936:=0
def tw8086211000546373627:=0
def tw7109881495255443952:=0
def tw5453671988200207712:=0
def tw4066626139429295254:=0
def tw13762793906221523723:=0
def tw5400079740277429930:=0
def tw141413276080436599:=0
def tw16259226763892720578:=0
def tw7368762291057859945:=0
def tw4158272301910172855:=0
def tw16532286537850242760:=0
def tw12908810054419073234:=0
def tw14565845020346342914:=0
def tw10759152338151257214:=0
def tw5154679663884468258:=0
def tw2100182231367533565:=0
def tw9581002860688762079:=0
def tw10570293628002928345:=0
def tw15460764079895950436:=0
def tw10116302427057254321:=0
def tw1376031483910212180:=0
def tw381638276975997370:=0
def tw12265742244647304444:=0
def tw7886470176578240775:=0
def tw15166015910666437023:=0
def tw9830634489399331610:=0
def tw11266047179172538532:=0
def tw799394329122029863:=0
def tw17300933866249854767:=0
def tw9453119342247404949:=0
def tw17383390761344944560:=0
def tw6624059077930271781:=0
def tw15897483678105166583:=0
def tw17863747015981267751:=0
def tw16961570586579631713:=0
def tw339551339743327508:=0
def tw73765562156053241:=0
def tw17628846128752416440:=0
def tw18193171754182820539:=0
def tw5181233727582950777:=0
def tw17045478893248791124:=0
def tw16203088817751361969:=0
def tw2512787591620275747:=0
def tw12181605450694752126:=0
def tw8669999370267461032:=0
def tw3366840733685699584:=0
def tw16488023075298563814:=0
def tw17034080469417790449:=0
def tw16942841200241207102:=0
def tw8642421329588300039:=0
def tw17256466675805780205:=0
def tw2925635612826012298:=0
def tw15128509046327913372:=0
def tw12479934027331240041:=0
def tw13818463707294298293:=0
def tw17194763844174182687:=0
def tw17969562776506764758:=0
def tw2220687552222627338:=0
def tw9822401392932495738:=0
def tw4243238373338933255:=0
def tw11969539138146989791:=0
def tw8738447880032574110:=0
def tw10308078939452404482:=0
def tw12657209718799413933:=0
def tw17034934817290363088:=0
def tw4166109596824978391:=0
def tw15523778308308806847:=0
def tw6188157508869133935:=0
def tw3275626010840122832:=0
def tw13738317066236754949:=0
def tw16701474550409876538:=0
def tw3102583283413298955:=0
def tw2882686402715728281:=0
def tw17034279587834638230:=0
def tw11752346176609535456:=0
def tw7130463817962954663:=0
def tw4281916795516458912:=0
def tw6014017290775507251:=0
def tw11586995424127706748:=0
def tw11812764204067869639:=0
def tw11861764637980490434:=0
def tw3062334266774138888:=0
def tw5934133139965738442:=0
def tw1071416116265661151:=0
def tw3353142160671889457:=0
def tw474463360827722620:=0
def tw4300305080124340890:=0
def tw9934336026987976956:=0
def tw15327791869322497382:=0
def tw7633176807557324843:=0
def tw4406733206305751898:=0
def tw5809366636028247912:=0
def tw1568519177814248896:=0
def tw15153498194431316859:=0
def tw6400676501802544358:=0
def tw5199709510095625605:=0
def tw1851932396708340796:=0
def tw17172725512193303567:=0
def tw15698908303491525070:=0
def tw11545395479821427059:=0
def tw11466825441135299800:=0
def tw7405312517634869154:=0
def tw15713340436908655195:=0
def tw13192079080403016219:=0
def tw5409552232888279474:=0
def tw15564057660546188702:=0
def tw14579946033040101221:=0
def tw4495212263528618543:=0
def tw2464279132758374008:=0
def tw13459131838763711165:=0
def tw1570590048807822675:=0
def tw4879501374257139484:=0
def tw5783228743401938993:=0
def tw4257322789863078354:=0
def tw13405482702411274089:=0
def tw5909496047038868523:=0
def tw9160590232895991290:=0
def tw18150221619566200085:=0
def tw16527055045819730558:=0
def tw17838721308404937540:=0
def tw11189483698630896485:=0
def tw17579431564230711097:=0
def tw6779026734500717473:=0
def tw12809154702075058713:=0
def tw14057661511690575700:=0
def tw4146558035800949901:=0
def tw16678011892431566860:=0
def tw8660296710623236653:=0
def tw17156637188011069146:=0
def tw10112031548601047899:=0
def tw2642094333136159951:=0
def tw251095486147742313:=0
def tw10929255766357580079:=0
def tw1273759759634776090:=0
def tw9573565085528046787:=0
def tw15368854017846632911:=0
def tw11204644330373751526:=0
def tw4430003492707366948:=0
def tw1950589556935443532:=0
def tw7660044318950349262:=0
def tw5594249945515149779:=0
def tw11942848275127401920:=0
def tw9631445449422800369:=0
def tw7170004871017454244:=0
def tw16774243376820754944:=0
def tw3077558393749471502:=0
def tw12218140240969265539:=0
def tw1858925393901807037:=0
def tw2565013144193904309:=0
def tw7450702759348679166:=0
def tw8520468830988864011:=0
def tw6591482589448288365:=0
def tw6187075405796965859:=0
def tw5034471415899721461:=0
def tw4762605233866754229:=0
def tw11182778540233301070:=0
def tw3410167639810850469:=0
def tw4743814508979361923:=0
def tw214547749783737588:=0
def tw702478212900462783:=0
def tw15923330570659307681:=0
def tw8561713752434503342:=0
def tw11938061850012026007:=0
def tw4744922014892392262:=0
def tw5076659217973637739:=0
def tw15900240888197106742:=0
def tw11160722801515044728:=0
def tw4160343663156581246:=0
def tw14129132146339726376:=0
def tw6266705013052714743:=0
def tw1201857630676291912:=0
def tw9477397765673227361:=0
def tw13398308992121232025:=0
def tw3939058231747303684:=0
def tw16863683705949165004:=0
def tw5667043139101061522:=0
def tw13380474522892938784:=0
def tw11896341493299881383:=0
def tw12973182853724934919:=0
def tw17852847276205366759:=0
def tw8964437967123828839:=0
def tw10121129230310508702:=0
def tw18428718976160002990:=0
def tw6902671312793042536:=0
def tw3634047350848722786:=0
def tw5609404160187612449:=0
def tw304235163691344842:=0
def tw13185199170162057648:=0
def tw13251482790332806562:=0
def tw6267363962080568460:=0
def tw30581468695986674:=0
def tw15763631477567935790:=0
def tw10840940535221091093:=0
def tw1271373855938882792:=0
def tw15254755162359118814:=0
def tw15596742718073855466:=0
def tw16365337156221752944:=0
def tw925655474731332661:=0
def tw8459967612125294899:=0
def tw17886544941262851382:=0
def tw17420045478710101059:=0
def tw7083946344701931040:=0
def tw17348789308026864897:=0
def tw8304305648399545367:=0
def tw12224633522558897997:=0
def tw11181915146349881769:=0
def tw6099362153643880292:=0
def tw12118872585459767478:=0
def tw9771606674420896526:=0
def tw9745183949518124281:=0
def tw1441279259188348794:=0
def tw5389539604038525736:=0
def tw15384647941238528627:=0
def tw17333549386606711780:=0
def tw248582133315699828:=0
def tw1991621661775982966:=0
def tw14562239519795105619:=0
def tw8460478560133108078:=0
def tw16341154624904048381:=0
def tw13008081550927340502:=0
def tw15726309698965954886:=0
def tw11915991701661492413:=0
def tw12383110578805740697:=0
def tw4321580161972068220:=0
def tw10258833161190351239:=0
def tw2268564922255628492:=0
def tw17045578569501505023:=0
def tw16848365006359371415:=0
def tw7421090876477770637:=0
def tw6744780816491059456:=0
def tw9464855288810209862:=0
def tw6220942761047509180:=0
def tw18290063159363852594:=0
def tw10345250414865572629:=0
def tw3980578107897602503:=0
def tw3109955306632580293:=0
def tw17171653574515779785:=0
def tw11144880222493952745:=0
def tw8616100886820867290:=0
def tw11541995204346957540:=0
def tw15321445111492176537:=0
def tw17106809635297603334:=0
def tw11534749742284161721:=0
def tw9265659715871210309:=0
def tw17004118430580078052:=0
def tw18396915950580037969:=0
def tw2091963694458263014:=0
def tw3291237500957885765:=0
def tw3619230813914776035:=0
def tw4380251403180742988:=0
def tw9967188865526876507:=0
end PySem.W.Fast
set_option maxRecDepth 100000 in
set_option maxHeartbeats 0 in
theorem PySem.Challenge.cw_balancehall_k52_turns_far_holds : PySem.Challenge.rw_balancehall_k52_turns_far.Holds := by
 w_on;o_law;k_head;(case hw=>w_witness2)
 k_fill
 refine K52.walk (l:=PySem.Challenge.rw_balancehall_k52_turns_far) rfl rfl (fun w h Y=>PySem.W.kIn_of Y) ?F
 case F=>
  intro w mg fa h KX G RS
  apply K52.all_mk KX G RS
  all_goals first|k_is|exact⟨⟨_,⟨⟨_,_,_,_,_,_,_,_,_,rfl,by k_is,by k_is⟩,by k_is⟩⟩,by k_is⟩ |exact⟨_,_,_,_,_,_,_,_,_,_,_,_,_,_,_,_,_,by k_is,by decide+kernel⟩ |exact⟨_,_,_,_,_,_,_,_,_,_,_,_,_,_,by k_is⟩
