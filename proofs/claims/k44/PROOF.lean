import PyProof.Rows.All
import Wide.All
import OpenK.AllK
import Wide.FinOn
import Lean
import PyProof.EqAt
import PyProof.EqKinds
import PyProof.TupleCall
import PySem.Challenge.RW_balancehall_k44_no_change
set_option Elab.async false
set_option linter.all false
set_option maxRecDepth 100000
namespace L2
open PySem PySem.Spec PyProof.Rows
abbrev Key:=Sum Int Str
def nv:Key→Value→Bool
 | .inl k,v=>Value.isInt k v
 | .inr x,v=>Value.isStrOf x v
def QK(w:World):Key→Int
 | .inl k=>hashInt k
 | .inr x=>hashStr w x
theorem b5:∀{k:Key} {v:Value},nv k v=true→(∃i t,k=Sum.inl i∧v=Value.int i t)∨(∃x t,k=Sum.inr x∧v=Value.str x t)
 | .inl i,v,h=>by
   obtain⟨t,e⟩:=Value.isInt_shape (k:=i) (v:=v) h
   exact .inl ⟨i,t,rfl,e⟩
 | .inr x,v,h=>by
   obtain⟨t,e⟩:=Value.isStrOf_shape (x:=x) (v:=v) h
   exact .inr ⟨x,t,rfl,e⟩
theorem yU(i:Int)(t:Tok):nv (.inl i) (.int i t)=true:=by simp [nv,Value.isInt]
theorem yV(x:Str)(t:Tok):nv (.inr x) (.str x t)=true:=by simp [nv,Value.isStrOf]
theorem Hc(a b:Int):decide ((Sum.inl a:Key)=Sum.inl b)=(a==b):=by
 by_cases e:a=b
 ·subst e;simp
 ·have h:¬(Sum.inl a:Key)=Sum.inl b:=fun q=>e (Sum.inl.inj q)
  rw[decide_eq_false h]
  exact(beq_eq_false_iff_ne.mpr e).symm
theorem Hd(a b:Str):decide ((Sum.inr a:Key)=Sum.inr b)=decide (a=b):=by
 by_cases e:a=b
 ·subst e;simp
 ·have h:¬(Sum.inr a:Key)=Sum.inr b:=fun q=>e (Sum.inr.inj q)
  rw[decide_eq_false h,decide_eq_false e]
theorem He(a:Int)(b:Str):decide ((Sum.inl a:Key)=Sum.inr b)=false:=decide_eq_false (fun q=>nomatch q)
theorem Hf(a:Str)(b:Int):decide ((Sum.inr a:Key)=Sum.inl b)=false:=decide_eq_false (fun q=>nomatch q)
def bV(prog:Program)(w:World):PySem.KeyKind prog w Key where
 is:=nv
 hash:=QK w
 inj:=fun v a b ha hb=>by
  rcases b5 ha with ⟨i,t,rfl,rfl⟩ | ⟨x,t,rfl,rfl⟩
  ·rcases b5 hb with ⟨j,u,rfl,e⟩ | ⟨y,u,rfl,e⟩
   ·injection e with e1 _;rw[e1]
   ·exact nomatch e
  ·rcases b5 hb with ⟨j,u,rfl,e⟩ | ⟨y,u,rfl,e⟩
   ·exact nomatch e
   ·injection e with e1 _;rw[e1]
 byValue:=fun k v h=>by
  rcases b5 h with ⟨i,t,rfl,rfl⟩ | ⟨x,t,rfl,rfl⟩<;>rfl
 pyHash:=fun hv h=>by
  rcases b5 hv with ⟨i,t,rfl,rfl⟩ | ⟨x,t,rfl,rfl⟩
  ·exact wpAny_pyHash_int h
  ·exact wpAny_pyHash_str h
 eqBool:=fun hu hv h=>by
  rcases b5 hu with ⟨i,t,rfl,rfl⟩ | ⟨x,t,rfl,rfl⟩
  ·rcases b5 hv with ⟨j,u,rfl,rfl⟩ | ⟨y,u,rfl,rfl⟩
   ·rw[Hc] at h;exact wpAny_eqBool_int h
   ·rw[He] at h;exact SeqAt.EqAt.int_str i t y u _ _ _ _ h
  ·rcases b5 hv with ⟨j,u,rfl,rfl⟩ | ⟨y,u,rfl,rfl⟩
   ·rw[Hf] at h;exact SeqAt.EqAt.str_int x t j u _ _ _ _ h
   ·rw[Hd] at h;exact wpAny_eqBool_str h
 «strs» :=fun k x t v h=>by
  rcases b5 h with ⟨i,u,rfl,e⟩ | ⟨y,u,rfl,e⟩
  ·exact nomatch e
  ·injection e with e1 _
   subst e1
   cases v<;>rfl
theorem vq(prog:Program)(w:World)(k:Key)(v:Value):(bV prog w).is k v=nv k v:=rfl
theorem sH(prog:Program)(w:World)(i:Int)(t:Tok):(bV prog w).is (.inl i) (.int i t)=true:=yU i t
theorem sI(prog:Program)(w:World)(x:Str)(t:Tok):(bV prog w).is (.inr x) (.str x t)=true:=yV x t
end L2
namespace L2
open PySem PySem.Spec PyProof.Rows
inductive V where
 |cn|bl (b:Bool) |int (i:Int) |str (x:Str) |vt (b:Array UInt8) |F9 (b:UInt64) |ref (a:Addr) |ty (n:String)
 deriving DecidableEq
def RelV:V→Value→Prop
 | .cn,u=>u=Value.none
 | .bl b,u=>u=Value.bool b
 | .int i,u=>∃t,u=Value.int i t
 | .str x,u=>∃t,u=Value.str x t
 | .vt b,u=>∃t,u=Value.bytes b t
 | .F9 b,u=>∃t,u=Value.float b t
 | .ref a,u=>u=Value.ref a
 | .ty n,u=>u=Value.type n
abbrev Vals:List V→List Value→Prop:=Paired RelV
theorem Vals.length{xs:List V}{us:List Value}(r:Vals xs us):xs.length=us.length:=Paired.length r
theorem Vals.get:∀{xs:List V} {us:List Value} {i:Nat} {x:V},Vals xs us→xs[i]? =some x→∃u,us[i]? =some u∧RelV x u
 |_,_,_,_, .nil,e=>by simp at e
 |_,_,0,_, .cons r _,e=>by simp at e;subst e;exact⟨_,rfl,r⟩
 |_,_,i+1,x, .cons _ t,e=>by
  obtain⟨u,h1,h2⟩:=Vals.get (i:=i) (x:=x) t (by simpa using e)
  exact⟨u,by simpa using h1,h2⟩
theorem Vals.append:∀{xs ys:List V} {us ws:List Value},Vals xs us→Vals ys ws→Vals (xs++ys) (us++ws)
 |_,_,_,_, .nil,s=>s
 |_,_,_,_, .cons r t,s=> .cons r (Vals.append t s)
def fP:Option V→Option Value→Prop
 |some v,some u=>RelV v u
 |none,none=>True
 |_,_=>False
def KV{κ:Type}:List (κ×V)→List (κ×Value)→Prop:=Paired fun (p:κ×V) (q:κ×Value)=>p.1=q.1∧RelV p.2 q.2
def kV:Key→V
 | .inl i=> .int i
 | .inr x=> .str x
inductive HO where
 |lst (xs:List V)
 |tup (xs:List V)
 |dK (kvs:List (Key×V)) |dT (kvs:List (List Key×V))
 |set (S:Int→Bool) (n:Nat)
 |ins (C dx:Addr) (fs:List (Str×V))
 |own (x:Addr)
 |xd (fs:List (Str×V))
 |met (f x:Addr)
 |QL (lo hi:Int)
 |kY (o:Obj) (u:HO)
 |F' (ps:Array Value)
 |ext (φ:Heap→Prop)
abbrev Hp:=Addr→Option HO
def upd(H:Hp)(a:Addr)(o:HO):Hp:=fun b=>if b=a then some o else H b
theorem ag{H:Hp}{a:Addr}{o:HO}:upd H a o a=some o:=by unfold upd;rw[if_pos rfl]
theorem ao{H:Hp}{a b:Addr}{o:HO}(h:b≠a):upd H a o b=H b:=by unfold upd;rw[if_neg h]
theorem DN{H:Hp}{a:Addr}{o u:HO}:upd (upd H a o) a u=upd H a u:=by
 funext b;unfold upd;split<;>rfl
theorem xm{H:Hp}{a b:Addr}{o u:HO}(h:H a=some o)(h':H b=some u)(d:o≠u):a≠b:=by
 intro e;subst e;rw[h] at h';exact d (Option.some.inj h')
theorem ai{H:Hp}{a b:Addr}{o:HO}(h:H a=some o)(h':H b=none):a≠b:=by
 intro e;subst e;rw[h] at h';cases h'
section
variable (P:Program)(w:World)
def bQ(H:Hp)(h:Heap)(a:Addr):HO→Prop
 | .lst xs=>xs.length≤sizeLine∧∃(its:List Value) (n:Nat),Vals xs its∧h.get? a=some { cls:= .type "list",data:= .seq its.toArray n }
 | .tup xs=>xs.length≤sizeLine∧∃its:List Value,Vals xs its∧IsTup h a its.toArray
 | .dK kvs=>kvs.length≤sizeLine∧(a==sysModules)=false∧∃vs,KV kvs vs∧h.DictOf (bV P w) a vs
 | .dT kvs=>kvs.length≤sizeLine∧(a==sysModules)=false∧∃xs:List (List Key×Addr×Value),
   Paired (fun (p:List Key×V) (q:List Key×Addr×Value)=>p.1=q.1∧H q.2.1=some (.tup (p.1.map kV))∧RelV p.2 q.2.2) kvs xs∧
   ∃o es ep,h.get? a=some o∧o.ExactDict∧o.data= .dict es ep∧es.toList=xs.map (entryOfKey (tupleKind (bV P w)))∧(xs.map (·.1)).Nodup
 | .set S n=>h.SetOf (intKind P w) a S n
 | .ins C dx fs=>H dx=some (.own a)∧fs.length≤1000∧dx≠a∧h.get? a=some (PySem.W.instObj C dx)∧
   ∃mA,h.Ns1 dx mA∧(∀f,fP (fs.lookup f) (mA f))∧PySem.Within mA (fs.map (·.1))
 | .own _=>∃o,h.get? a=some o
 | .xd fs=>∃mA,h.Ns1 a mA∧∀f,fP (fs.lookup f) (mA f)
 | .QL lo hi=>∃t u v,h.get? a=some { cls:= .type "range",data:= .fields #[.int lo t, .int hi u, .int 1 v] }
 | .kY o u=>h.get? a=some o∧bQ H h a u
 | .F' ps=>h.get? a=some { cls:= .none,data:= .fields ps }
 | .met f x=>h.get? a=some (PySem.W.methodObj (.ref f) (.ref x))
 | .ext φ=>φ h∧(∃o,h.get? a=some o)∧∀h1 h2:Heap,φ h1→(∀o,h1.get? a=some o→h2.get? a=some o)→φ h2
def ix(H:Hp)(h:Heap):Prop:=∀a o,H a=some o→bQ P w H h a o
end
section
variable {P:Program}{w:World}{H H':Hp}{h h':Heap}{a:Addr}{o:HO}
theorem bQ.lt(x:bQ P w H h a o):a<h.objs.size:=by
 cases o with
 |lst xs=>obtain⟨_,_,_,_,e⟩:=x;exact Heap.lt_size e
 |tup xs=>obtain⟨_,_,_,p⟩:=x;exact p.lt
 |dK kvs=>obtain⟨_,_,_,_,o,_,_,e,_⟩:=x;exact Heap.lt_size e
 |dT kvs=>obtain⟨_,_,_,_,o,_,_,e,_⟩:=x;exact Heap.lt_size e
 |set S n=>obtain⟨o,_,_,_,e,_⟩:=x;exact Heap.lt_size e
 |ins C dx fs=>obtain⟨_,_,_,e,_⟩:=x;exact Heap.lt_size e
 |own y=>obtain⟨_,e⟩:=x;exact Heap.lt_size e
 |xd fs=>obtain⟨_,⟨_,_,_,e,_⟩,_⟩:=x;exact Heap.lt_size e
 |QL lo hi=>obtain⟨_,_,_,e⟩:=x;exact Heap.lt_size e
 |kY ob u=>obtain⟨e,_⟩:=x;exact Heap.lt_size e
 |F' ps=>exact Heap.lt_size (show h.get? a=some _ from x)
 |met f y=>exact Heap.lt_size (show h.get? a=some _ from x)
 |ext φ=>obtain⟨_,⟨_,e⟩,_⟩:=x;exact Heap.lt_size e
theorem Paired.Hg{α β:Type}{F G:α→β→Prop}:∀{l₁:List α} {l₂:List β},Paired F l₁ l₂→(∀a b,F a b→G a b)→Paired G l₁ l₂
 |_,_, .nil,_=> .nil
 |_,_, .cons r t,f=> .cons (f _ _ r) (Paired.Hg t f)
theorem bQ.qo(x:bQ P w H h a o)(k:∀b u,(b=a∨H b=some (.own a))→h.get? b=some u→h'.get? b=some u)
  (ho:∀b,H b=some (.own a)→H' b=some (.own a)) (ht:∀b xs,H b=some (.tup xs)→H' b=some (.tup xs)):bQ P w H' h' a o:=by
 induction o with
 |lst xs=>obtain⟨z,its,n,r,e⟩:=x;exact⟨z,its,n,r,k _ _ (.inl rfl) e⟩
 |tup xs=>obtain⟨z,its,r,ob,e,c⟩:=x;exact⟨z,its,r,ob,k _ _ (.inl rfl) e,c⟩
 |dK kvs=>obtain⟨z,y,vs,r,ob,es,ep,e,c⟩:=x;exact⟨z,y,vs,r,ob,es,ep,k _ _ (.inl rfl) e,c⟩
 |dT kvs=>
  obtain⟨z,y,xs,r,ob,es,ep,e,c⟩:=x
  exact⟨z,y,xs,Paired.Hg r fun p q z=>⟨z.1,ht _ _ z.2.1,z.2.2⟩,ob,es,ep,k _ _ (.inl rfl) e,c⟩
 |set S n=>obtain⟨ob,es,ep,t,e,c⟩:=x;exact⟨ob,es,ep,t,k _ _ (.inl rfl) e,c⟩
 |ins C dx fs=>
  obtain⟨d,z,ne,e,mA,⟨od,es,ep,e2,c⟩,r⟩:=x
  exact⟨ho _ d,z,ne,k _ _ (.inl rfl) e,mA,⟨od,es,ep,k _ _ (.inr d) e2,c⟩,r⟩
 |own y=>obtain⟨ob,e⟩:=x;exact⟨ob,k _ _ (.inl rfl) e⟩
 |xd fs=>obtain⟨mA,⟨od,es,ep,e,c⟩,r⟩:=x;exact⟨mA,⟨od,es,ep,k _ _ (.inl rfl) e,c⟩,r⟩
 |QL lo hi=>obtain⟨t,u,v,e⟩:=x;exact⟨t,u,v,k _ _ (.inl rfl) e⟩
 |kY ob u ih=>obtain⟨e,q⟩:=x;exact⟨k _ _ (.inl rfl) e,ih q⟩
 |F' ps=>
  have e:h.get? a=some { cls:= .none,data:= .fields ps }:=x
  show h'.get? a=some { cls:= .none,data:= .fields ps }
  exact k a _ (.inl rfl) e
 |met f y=>
  have e:h.get? a=some (PySem.W.methodObj (.ref f) (.ref y)):=x
  show h'.get? a=some (PySem.W.methodObj (.ref f) (.ref y))
  exact k a _ (.inl rfl) e
 |ext φ=>obtain⟨p,⟨o,e⟩,st⟩:=x;exact⟨st _ _ p fun o q=>k _ _ (.inl rfl) q,⟨o,k _ _ (.inl rfl) e⟩,st⟩
theorem ix.lt(x:ix P w H h)(e:H a=some o):a<h.objs.size:=(x a o e).lt
theorem ix.fresh(x:ix P w H h)(e:h.objs.size≤a):H a=none:=by
 cases q:H a with
 |none=>rfl
 |some u=>exact absurd (Nat.lt_of_lt_of_le (x.lt q) e) (Nat.lt_irrefl _)
theorem ix.kept(x:ix P w H h)(k:∀b u,h.get? b=some u→h'.get? b=some u):ix P w H h':=fun a o e=>
 (x a o e).qo (fun b u _ q=>k b u q) (fun _ q=>q) fun _ _ q=>q
theorem ix.laid(x:ix P w H h)(k:∀b u,h.get? b=some u→h'.get? b=some u)(hp:h.objs.size≤a)(new:bQ P w (upd H a o) h' a o):ix P w (upd H a o) h':=fun b u e=>by
 have hn:=x.fresh hp
 by_cases hb:b=a
 ·subst hb;rw[ag] at e;cases e;exact new
 ·rw[ao hb] at e
  exact(x b u e).qo (fun c v _ q=>k c v q) (fun c q=>by rw[ao (ai q hn)];exact q) fun c xs q=>by rw[ao (ai q hn)];exact q
end
def Rd(H:Hp)(a:Addr)(u:HO):Prop:=H a=some u∨∃o,H a=some (.kY o u)
theorem Rd.ok{P:Program}{w:World}{H:Hp}{h:Heap}{a:Addr}{u:HO}(r:Rd H a u)(x:ix P w H h):bQ P w H h a u:=by
 rcases r with r| ⟨o,r⟩
 ·exact x a u r
 ·obtain⟨_,q⟩:=x a _ r
  exact q
def KH:Option HO→Prop
 |some (.lst _)=>True
 |some (.dK _)=>True
 |some (.dT _)=>True
 |some (.set _ _)=>True
 |some (.ins _ _ _)=>True
 |some (.ext _)=>True
 |_=>False
section
variable {P:Program}{w:World}{H:Hp}{h h':Heap}{x e:Addr}{o':HO}
theorem ix.write(ok:ix P w H h)(mu:KH (H x))(he:e=x∨H e=some (.own x))(k:∀b u,b≠e→h.get? b=some u→h'.get? b=some u)(Kg:∃u,h'.get? e=some u)
  (new:bQ P w (upd H x o') h' x o'):ix P w (upd H x o') h':=fun b u q=>by
 have KI:∀c y,H c=some (.own y)→c≠x:=fun c y r z=>by subst z;rw[r] at mu;exact mu
 have QM:∀c xs,H c=some (.tup xs)→c≠x:=fun c xs r z=>by subst z;rw[r] at mu;exact mu
 by_cases hb:b=x
 ·subst hb;rw[ag] at q;cases q;exact new
 ·rw[ao hb] at q
  by_cases Hh:b=e
  ·have q':H b=some (.own x):=by
    rcases he with z|z
    ·exact absurd (Hh.trans z) hb
    ·rw[Hh];exact z
   rw[q] at q';cases q'
   obtain⟨v,hv⟩:=Kg
   exact⟨v,by rw[Hh];exact hv⟩
  ·refine(ok b u q).qo (fun c v hc r=>k c v ?_ r) (fun c r=>by rw[ao (KI c b r)];exact r) fun c xs r=>by rw[ao (QM c xs r)];exact r
   rcases hc with rfl|hc
   ·exact Hh
   ·rintro rfl
    rcases he with z|z
    ·exact KI c b hc z
    ·rw[hc] at z;cases z;exact hb rfl
end
structure Un(fs ex:List Addr)(H H':Hp)(h h':Heap):Prop where
 keep:∀b o,h.get? b=some o→H b=none→b∉fs→b∉ex→h'.get? b=some o
 slot:∀b o,h.get? b=some o→H b=none→b∈fs→b∉ex→∃sl,h'.get? b=some { o with slots:=sl }
 free:∀b o,h.get? b=some o→H b=none→b∉ex→H' b=none
 there:∀b o,h.get? b=some o→b∉ex→∃o',h'.get? b=some o'
 kZ:∀b xs,H b=some (.tup xs)→H' b=some (.tup xs)
 k7:∀b o u,H b=some (.kY o u)→H' b=some (.kY o u)
 k8:∀b ps,H b=some (.F' ps)→∃more,H' b=some (.F' (ps++more))
section
variable {fs DO ex ex':List Addr}{H H1 H2:Hp}{h h1 h2 h':Heap}{a x e:Addr}{o:HO}
theorem Un.any(u:Un fs ex H H1 h h1){b:Addr}{ob:Obj}(q:h.get? b=some ob)(n:H b=none)(hx:b∉ex):∃sl,h1.get? b=some { ob with slots:=sl }:=by
 by_cases hb:b∈fs
 ·exact u.slot b ob q n hb hx
 ·exact⟨ob.slots,u.keep b ob q n hb hx⟩
theorem Un.kept(k:∀b u,h.get? b=some u→h'.get? b=some u):Un fs ex H H h h':=
 ⟨fun b ob q _ _ _=>k b ob q,fun b ob q _ _ _=>⟨ob.slots,k b ob q⟩,fun _ _ _ n _=>n,fun b ob q _=>⟨ob,k b ob q⟩,fun _ _ q=>q,fun _ _ _ q=>q,fun _ ps q=>⟨#[],by rw[q];simp⟩⟩
theorem Un.refl:Un fs ex H H h h:=Un.kept fun _ _ q=>q
theorem Un.laid(k:∀b u,h.get? b=some u→h'.get? b=some u)(hp:h.objs.size≤a)(hn:H a=none):Un fs ex H (upd H a o) h h' where
 keep:=fun b u q _ _ _=>k b u q
 slot:=fun b u q _ _ _=>⟨u.slots,k b u q⟩
 free:=fun b u q n _=>by rw[ao (Nat.ne_of_lt (Nat.lt_of_lt_of_le (Heap.lt_size q) hp))];exact n
 there:=fun b u q _=>⟨u,k b u q⟩
 kZ:=fun b xs q=>by rw[ao (ai q hn)];exact q
 k7:=fun b u xs q=>by rw[ao (ai q hn)];exact q
 k8:=fun b ps q=>⟨#[],by rw[ao (ai q hn),q];simp⟩
theorem Un.write(mu:KH (H x))(he:e=x∨H e=some (.own x))(k:∀b u,b≠e→h.get? b=some u→h'.get? b=some u)(Kg:∃u,h'.get? e=some u):Un fs ex H (upd H x o) h h':=by
 have hx:∀b,H b=none→b≠x:=fun b n z=>by subst z;rw[n] at mu;exact mu
 have hb:∀b,H b=none→b≠e:=fun b n z=>by
  subst z
  rcases he with r|r
  ·exact hx b n r
  ·rw[n] at r;cases r
 have hm:∀b u,H b=some u→¬KH (some u)→b≠x:=fun b u q nm z=>by subst z;rw[q] at mu;exact nm mu
 refine⟨fun b u q n _ _=>k b u (hb b n) q,fun b u q n _ _=>⟨u.slots,k b u (hb b n) q⟩,fun b u q n _=>by rw[ao (hx b n)];exact n,fun b u q _=>?_,
  fun b xs q=>by rw[ao (hm b _ q fun z=>z)];exact q,fun b u xs q=>by rw[ao (hm b _ q fun z=>z)];exact q,fun b ps q=>⟨#[],by rw[ao (hm b _ q fun z=>z),q];simp⟩⟩
 by_cases Hh:b=e
 ·subst Hh;exact Kg
 ·exact⟨u,k b u Hh q⟩
end
def PX(h:Heap)(H:Hp):List Addr:=(List.range h.objs.size).filter fun a=>(H a).isSome
def qp(h:Heap)(H:Hp):Heap:=PySem.W.hideAll h (PX h H)
theorem yW(h:Heap)(H:Hp):(qp h H).objs.size=h.objs.size:=PySem.W.hideAll_size _ _
theorem AL{h:Heap}{H:Hp}{b:Addr}{o:Obj}(e:h.get? b=some o)(n:H b=none):(qp h H).get? b=some o:=
 PySem.W.hideAll_get _ e fun hm=>by
  have q:(H b).isSome=true:=(List.mem_filter.mp hm).2
  rw[n] at q;simp at q
theorem DP{h:Heap}{H:Hp}{b:Addr}{o:Obj}(e:(qp h H).get? b=some o):h.get? b=some o∧H b=none:=by
 have e':h.get? b=some o:=PySem.W.of_hideAll (PX h H) e
 refine⟨e',?_⟩
 cases q:H b with
 |none=>rfl
 |some x=>
  have hm:b∈PX h H:=List.mem_filter.mpr ⟨List.mem_range.mpr (Heap.lt_size e'),by simp [q]⟩
  have z:(qp h H).get? b=none:=PySem.W.hideAll_none (PX h H) hm
  rw[z] at e;cases e
def DQ(g h:Heap)(L:Addr):List (Addr×Obj):=(List.range h.objs.size).filterMap fun a=>if a=L∨(g.get? a).isSome=true then none else (h.get? a).map fun o=>(a,o)
def rest(g h:Heap)(L d:Addr):List (Addr×Obj):=(DQ g h L).filter fun p=>decide (p.1≠d)
end L2
namespace L2
open PySem PySem.Spec PyProof.Rows
structure Mod(K:PySem.W.Frag)(mg:Str→Option Value)(base:Heap):Prop where
 DR:K.In base
 glob:base.Ns mainGlobals mg
 blt:∃mb,base.Ns builtinsNs mb∧∀x:Str,x≠"__name__" →mb x=bootBuiltins x
 nolimit:base.NoLimit
structure Cx where
 prog:Program
 w:World
 K:PySem.W.Frag
 mg:Str→Option Value
 base:Heap
 A:Around
 N:List Str
 s₀:Shared
 H₀:Hp
 env:Env
 outer:List Env
 stack:List Env
 ex:List Addr
 fn:Str→Bool
 calm:Bool
 pn:List (Addr×Obj)
 xe:Value→Shared→Prop
def oU(l:List Env):List Addr:=l.filterMap (·.frame)
abbrev Cx.fs(X:Cx):List Addr:=oU X.outer
def QN(sc:Scope)(x:Str):Prop:=sc.names.lookup x=some .local∨sc.names.lookup x=some .cell∨sc.names.lookup x=some .free
def Loc(sc:Scope)(x:Str):Prop:=sc.names.lookup x=some .local∨sc.names.lookup x=some .cell
def Look(env:Env)(h:Heap)(m:Str→Option Value)(x:Str)(u:Value):Prop:=
 (env.kindOf x=some .local∧m x=some u)∨((env.kindOf x=some .cell∨env.kindOf x=some .free)∧∃c,env.cells.lookup x=some c∧h.IsCell c (some u))
structure Cx.Ok(X:Cx):Prop where
 mod:Mod X.K X.mg X.base
 kind:X.env.scope.kind= .function
 glob:X.env.globals=mainGlobals
 blt:X.env.builtins=builtinsNs
 above:X.s₀.heap.objs.size≤X.env.locals
 inj:∀x y c,X.env.cells.lookup x=some c→X.env.cells.lookup y=some c→x=y
 has:∀x,(X.env.kindOf x=some .cell∨X.env.kindOf x=some .free)→∃c,X.env.cells.lookup x=some c
 DS:∀x c,X.fn x=true→X.env.cells.lookup x=some c→X.s₀.heap.objs.size≤c
 hd:X.calm=true→X.A.handled=none
 frames:X.A.frames=some X.stack
 Ga:X.stack=X.outer∨(X.stack=X.env::X.outer∧X.env.frame=some X.env.locals)
 Kh:∀b∈X.ex,b≠X.env.locals∧∀x c,X.env.cells.lookup x=some c→c≠b
 bs:∀b o,X.base.get? b=some o→X.s₀.heap.get? b=some o∧X.H₀ b=none
 xn:X.base.objs.size≤X.s₀.heap.objs.size
 qq:∀b o,X.base.get? b=some o→b∉X.ex
 qr:∀b∈X.ex,b∉X.fs
 iy:X.s₀.heap.FunFrames X.base X.outer
 Aw:∀b∈X.fs,X.H₀ b=none
structure Inv(X:Cx)(pins:List (Addr×Obj))(σ:List (Option V))(H:Hp)(s:Shared):Prop where
 ok:X.Ok
 os:s.os=X.s₀.os
 bare:AllBare s.gens
 base:Un X.fs X.ex X.H₀ H X.s₀.heap s.heap
 loc:∃m,s.heap.Ns X.env.locals m∧∀(i:Nat) (x:Str) (v:V),X.N[i]? =some x→σ[i]? =some (some v)→QN X.env.scope x→∃u,RelV v u∧Look X.env s.heap m x u
 cell:∀x c,X.env.cells.lookup x=some c→∃v,s.heap.IsCell c v
 free:H X.env.locals=none
 eS:∀x c,X.env.cells.lookup x=some c→H c=none
 pin:∀p∈X.pn++pins,s.heap.get? p.1=some p.2∧H p.1=none∧p.1≠X.env.locals∧p.1∉X.fs∧∀v,p.2.data≠ .cell v
 bq:ix X.prog X.w H s.heap
 len:σ.length=X.N.length
section
variable {X:Cx}{pins:List (Addr×Obj)}{σ:List (Option V)}{H H':Hp}{s:Shared}{h':Heap}
theorem Cx.Ok.QO(ok:X.Ok){b:Addr}{o:Obj}(e:X.base.get? b=some o):b∉X.fs:=fun hb=>by
 have:=(ok.iy.mem hb).1
 rw[e] at this;cases this
theorem Inv.bs(I:Inv X pins σ H s):∀b o,X.base.get? b=some o→s.heap.get? b=some o∧H b=none:=fun b o e=>
 ⟨I.base.keep b o (I.ok.bs b o e).1 (I.ok.bs b o e).2 (I.ok.QO e) (I.ok.qq b o e),I.base.free b o (I.ok.bs b o e).1 (I.ok.bs b o e).2 (I.ok.qq b o e)⟩
theorem Inv.bk(I:Inv X pins σ H s):∀b o,X.base.get? b=some o→s.heap.get? b=some o:=fun b o e=>(I.bs b o e).1
theorem Inv.mod(I:Inv X pins σ H s):Mod X.K X.mg X.base:=I.ok.mod
theorem Inv.fQ(I:Inv X pins σ H s):X.K.In s.heap:=I.ok.mod.DR.keeps I.bk
theorem Inv.lt(I:Inv X pins σ H s):X.env.locals<s.heap.objs.size:=let ⟨_,hn,_⟩:=I.loc;hn.lt
theorem Inv.sz(I:Inv X pins σ H s):X.s₀.heap.objs.size≤s.heap.objs.size:=Nat.le_trans I.ok.above (Nat.le_of_lt I.lt)
theorem Inv.QP(I:Inv X pins σ H s){a:Addr}(h:s.heap.objs.size≤a):a∉X.fs:=fun hb=>by
 obtain⟨_,o,ho,_⟩:=I.ok.iy.mem hb
 exact absurd (Nat.lt_of_lt_of_le (Heap.lt_size ho) (Nat.le_trans I.sz h)) (Nat.lt_irrefl _)
theorem Inv.DT(I:Inv X pins σ H s):∀x c,X.env.cells.lookup x=some c→c≠X.env.locals:=fun x c e z=>by
 obtain⟨v,o,ho,hd⟩:=I.cell x c e
 obtain⟨m,⟨o',es,ep,vv,qt,_⟩,_⟩:=I.loc
 rw[z,vv] at ho;cases ho;rw[qt] at hd;cases hd
theorem Inv.iy(I:Inv X pins σ H s):s.heap.FunFrames X.base X.outer:=by
 have all:∀(l:List Env),(∀b∈oU l,b∈X.fs)→X.s₀.heap.FunFrames X.base l→s.heap.FunFrames X.base l:=by
  intro l
  induction l with
  |nil=>intro _ _;trivial
  |cons env r ih=>
   intro hs hl
   obtain⟨hk,⟨L,o,hf,hn,ho,hd⟩,hr⟩:=hl
   have hL:L∈X.fs:=hs L (by unfold oU;rw[List.filterMap_cons,hf];exact List.mem_cons_self)
   obtain⟨sl,e⟩:=I.base.slot L o ho (I.ok.Aw L hL) hL fun z=>I.ok.qr L z hL
   exact⟨hk,⟨L,_,hf,hn,e,hd⟩,ih (fun b hb=>hs b (by unfold oU;rw[List.filterMap_cons,hf];exact List.mem_cons_of_mem _ hb)) hr⟩
 exact all X.outer (fun _ hb=>hb) I.ok.iy
theorem Inv.stack(I:Inv X pins σ H s):s.heap.FunFrames X.base X.stack:=by
 rcases I.ok.Ga with e| ⟨e,hf⟩
 ·rw[e];exact I.iy
 ·rw[e]
  obtain⟨m,hn,_⟩:=I.loc
  refine .cons (by rw[I.ok.kind];decide) hf hn ?_ I.iy
  exact Heap.get?_none_of_le (Nat.le_trans I.ok.xn I.ok.above)
theorem Inv.qu(I:Inv X pins σ H s):∀b∈oU X.stack,b∈X.env.locals::X.fs:=fun b hb=>by
 rcases I.ok.Ga with e| ⟨e,hf⟩
 ·rw[e] at hb;exact List.mem_cons_of_mem _ hb
 ·rw[e] at hb
  unfold oU at hb
  rw[List.filterMap_cons,hf] at hb
  exact hb
theorem Inv.qv(I:Inv X pins σ H s):∀b∈oU X.stack,H b=none:=fun b hb=>by
 rcases List.mem_cons.mp (I.qu b hb) with e|hb
 ·rw[e];exact I.free
 ·obtain⟨_,o,ho,_⟩:=I.ok.iy.mem hb
  exact I.base.free b o ho (I.ok.Aw b hb) fun z=>I.ok.qr b z hb
theorem Inv.step{g':Array GenState}{t':Nat}{d':Drawn}{ch:List Addr}(I:Inv X pins σ H s)
  (Ax:∀b∈ch,(b∈X.ex∨X.s₀.heap.objs.size≤b)∧b≠X.env.locals∧(∀x c,X.env.cells.lookup x=some c→c≠b)∧∀p∈X.pn++pins,p.1≠b)
  (keep:∀b o,b≠X.env.locals→b∉X.fs→b∉ch→s.heap.get? b=some o→H b=none→h'.get? b=some o)
  (slot:∀b o,b≠X.env.locals→b∈X.fs→b∉ch→s.heap.get? b=some o→H b=none→∃sl,h'.get? b=some { o with slots:=sl }) (free:∀b o,b∉ch→s.heap.get? b=some o→H b=none→H' b=none)
  (there:∀b o,b∉ch→s.heap.get? b=some o→∃o',h'.get? b=some o')
  (kZ:∀b xs,H b=some (.tup xs)→H' b=some (.tup xs)) (k7:∀b o u,H b=some (.kY o u)→H' b=some (.kY o u)) (k8:∀b ps,H b=some (.F' ps)→∃more,H' b=some (.F' (ps++more)))
  (ns:∀m,s.heap.Ns X.env.locals m→h'.Ns X.env.locals m) (bq:ix X.prog X.w H' h') (hg:AllBare g'):
  Inv X pins σ H' { s with heap:=h',gens:=g',drawn:=d',toks:=t' }:=by
 have WU:∀b o,X.s₀.heap.get? b=some o→b≠X.env.locals:=fun b o e=>Nat.ne_of_lt (Nat.lt_of_lt_of_le (Heap.lt_size e) I.ok.above)
 have PY:∀b o,X.s₀.heap.get? b=some o→b∉X.ex→b∉ch:=fun b o e hx hb=>by
  rcases (Ax b hb).1 with z|z
  ·exact hx z
  ·exact absurd (Nat.lt_of_lt_of_le (Heap.lt_size e) z) (Nat.lt_irrefl _)
 have cellK:∀x c,X.env.cells.lookup x=some c→∀v,s.heap.IsCell c v→h'.IsCell c v:=fun x c e v ⟨o,ho,hd⟩=>by
  have KJ:c∉ch:=fun z=>(Ax c z).2.2.1 x c e rfl
  by_cases hc:c∈X.fs
  ·obtain⟨sl,q⟩:=slot c o (I.DT x c e) hc KJ ho (I.eS x c e)
   exact⟨_,q,hd⟩
  ·exact⟨o,keep c o (I.DT x c e) hc KJ ho (I.eS x c e),hd⟩
 refine⟨I.ok,I.os,hg,⟨fun b o e n hb hx=>?_,fun b o e n hb hx=>?_,fun b o e n hx=>?_,fun b o e hx=>?_,fun b xs e=>kZ b xs (I.base.kZ b xs e),fun b o xs e=>k7 b o xs (I.base.k7 b o xs e),fun b ps e=>?_⟩,?_,fun x c e=>?_,?_,fun x c e=>?_,fun p hp=>?_,bq,I.len⟩
 ·exact keep b o (WU b o e) hb (PY b o e hx) (I.base.keep b o e n hb hx) (I.base.free b o e n hx)
 ·obtain⟨sl,e1⟩:=I.base.slot b o e n hb hx
  obtain⟨Hi,e2⟩:=slot b _ (WU b o e) hb (PY b o e hx) e1 (I.base.free b o e n hx)
  exact⟨Hi,e2⟩
 ·obtain⟨o',e1⟩:=I.base.there b o e hx
  exact free b o' (PY b o e hx) e1 (I.base.free b o e n hx)
 ·obtain⟨o',e1⟩:=I.base.there b o e hx
  exact there b o' (PY b o e hx) e1
 ·obtain⟨m1,e1⟩:=I.base.k8 b ps e
  obtain⟨m2,e2⟩:=k8 b _ e1
  exact⟨m1++m2,by rw[e2,Array.append_assoc]⟩
 ·obtain⟨m,hn,hl⟩:=I.loc
  refine⟨m,ns m hn,fun i x v e1 e2 e3=>?_⟩
  obtain⟨u,r,l⟩:=hl i x v e1 e2 e3
  refine⟨u,r,?_⟩
  rcases l with l| ⟨k,c,e,z⟩
  ·exact .inl l
  ·exact .inr ⟨k,c,e,cellK x c e _ z⟩
 ·obtain⟨v,z⟩:=I.cell x c e
  exact⟨v,cellK x c e v z⟩
 ·obtain⟨m,⟨o,_,_,ho,_⟩,_⟩:=I.loc
  exact free _ o (fun z=>(Ax _ z).2.1 rfl) ho I.free
 ·obtain⟨v,o,ho,hd⟩:=I.cell x c e
  exact free c o (fun z=>(Ax c z).2.2.1 x c e rfl) ho (I.eS x c e)
 ·obtain⟨e,n,ne,nf,d⟩:=I.pin p hp
  have KJ:p.1∉ch:=fun z=>(Ax p.1 z).2.2.2 p hp rfl
  exact⟨keep p.1 p.2 ne nf KJ e n,free p.1 p.2 KJ e n,ne,nf,d⟩
theorem Inv.un{t':Nat}(I:Inv X pins σ H s)(u:Un X.fs [] H H' s.heap h')(bq:ix X.prog X.w H' h'):Inv X pins σ H' { s with heap:=h',toks:=t' }:=by
 obtain⟨m,⟨o,es,ep,ho,r⟩,_⟩:=id I.loc
 obtain⟨sl,hL⟩:=u.any ho I.free (by simp)
 exact I.step (g':=s.gens) (d':=s.drawn) (ch:=[]) (fun _ z=>nomatch z) (fun b o _ hb _ e n=>u.keep b o e n hb (by simp)) (fun b o _ hb _ e n=>u.slot b o e n hb (by simp)) (fun b o _ e n=>u.free b o e n (by simp)) (fun b o _ e=>u.there b o e (by simp)) u.kZ u.k7 u.k8 (fun m' hm=>by
  obtain⟨o',PZ,P0,vv,r'⟩:=hm
  rw[ho] at vv;cases vv
  exact⟨_,PZ,P0,hL,r'⟩) bq I.bare
theorem Inv.call{g':Array GenState}{t':Nat}{d':Drawn}{ch:List Addr}(I:Inv X pins σ H s)(u:Un (oU X.stack) ch H H' s.heap h')(bq:ix X.prog X.w H' h')(hg:AllBare g')
  (Ax:∀b∈ch,(b∈X.ex∨X.s₀.heap.objs.size≤b)∧b≠X.env.locals∧(∀x c,X.env.cells.lookup x=some c→c≠b)∧∀p∈X.pn++pins,p.1≠b):
  Inv X pins σ H' { s with heap:=h',gens:=g',drawn:=d',toks:=t' }:=by
 obtain⟨m,⟨o,es,ep,ho,r⟩,_⟩:=id I.loc
 obtain⟨sl,hL⟩:=u.any ho I.free fun z=>(Ax _ z).2.1 rfl
 exact I.step (ch:=ch) Ax (fun b o hL hb hc e n=>u.keep b o e n (fun z=>(List.mem_cons.mp (I.qu b z)).elim hL hb) hc) (fun b o _ _ hc e n=>u.any e n hc) (fun b o hc e n=>u.free b o e n hc) (fun b o hc e=>u.there b o e hc) u.kZ u.k7 u.k8 (fun m' hm=>by
  obtain⟨o',PZ,P0,vv,r'⟩:=hm
  rw[ho] at vv;cases vv
  exact⟨_,PZ,P0,hL,r'⟩) bq hg
theorem Inv.turned{t':Nat}{it:Addr}(I:Inv X pins σ H s)(k:∀b o,b≠it→s.heap.get? b=some o→h'.get? b=some o)(hn:H it=none)(hL:it≠X.env.locals)
  (h1:it∈X.ex∨X.s₀.heap.objs.size≤it) (h2:∀x c,X.env.cells.lookup x=some c→c≠it) (h3:∀p∈X.pn++pins,p.1≠it):Inv X pins σ H { s with heap:=h',toks:=t' }:=by
 have WV:∀b u,H b=some u→b≠it:=fun b u e z=>by rw[z,hn] at e;cases e
 refine I.step (g':=s.gens) (d':=s.drawn) (ch:=[it]) (fun b hb=>?_) (fun b o _ _ hc e _=>k b o (fun z=>hc (by simp [z])) e) (fun b o _ _ hc e _=>⟨o.slots,k b o (fun z=>hc (by simp [z])) e⟩) (fun _ _ _ _ n=>n)
  (fun b o hc e=>⟨o,k b o (fun z=>hc (by simp [z])) e⟩) (fun _ _ e=>e) (fun _ _ _ e=>e) (fun b ps e=>⟨#[],by rw[e];simp⟩) (fun m hm=>?_) (fun b u e=>?_) I.bare
 ·have e:b=it:=by simpa using hb
  subst e
  exact⟨h1,hL,h2,h3⟩
 ·obtain⟨o,es,ep,ho,r⟩:=hm
  exact⟨o,es,ep,k _ o (Ne.symm hL) ho,r⟩
 ·refine(I.bq b u e).qo (fun c v hc q=>k c v ?_ q) (fun _ q=>q) fun _ _ q=>q
  rcases hc with z|z
  ·rw[z];exact WV b u e
  ·exact WV c _ z
theorem Inv.tok(I:Inv X pins σ H s)(t:Nat):Inv X pins σ H { s with toks:=t }:=I.un (h':=s.heap) (t':=t) Un.refl I.bq
theorem Inv.kept{t':Nat}(I:Inv X pins σ H s)(k:∀b u,s.heap.get? b=some u→h'.get? b=some u):Inv X pins σ H { s with heap:=h',toks:=t' }:=I.un (Un.kept k) (I.bq.kept k)
theorem Inv.laid{a:Addr}{o:HO}{t':Nat}(I:Inv X pins σ H s)(k:∀b u,s.heap.get? b=some u→h'.get? b=some u)(hp:s.heap.objs.size≤a)(new:bQ X.prog X.w (upd H a o) h' a o):
  Inv X pins σ (upd H a o) { s with heap:=h',toks:=t' }:=I.un (Un.laid k hp (I.bq.fresh hp)) (I.bq.laid k hp new)
theorem Inv.write{x e:Addr}{o:HO}{t':Nat}(I:Inv X pins σ H s)(mu:KH (H x))(he:e=x∨H e=some (.own x))(k:∀b u,b≠e→s.heap.get? b=some u→h'.get? b=some u)(Kg:∃u,h'.get? e=some u)
  (new:bQ X.prog X.w (upd H x o) h' x o):Inv X pins σ (upd H x o) { s with heap:=h',toks:=t' }:=I.un (Un.write mu he k Kg) (I.bq.write mu he k Kg new)
theorem Inv.mn{pins':List (Addr×Obj)}(I:Inv X pins σ H s)(h:∀p∈pins',s.heap.get? p.1=some p.2∧H p.1=none∧p.1≠X.env.locals∧p.1∉X.fs∧∀v,p.2.data≠ .cell v):Inv X pins' σ H s:=
 ⟨I.ok,I.os,I.bare,I.base,I.loc,I.cell,I.free,I.eS,fun p hp=>(List.mem_append.mp hp).elim (fun z=>I.pin p (List.mem_append_left _ z)) (h p),I.bq,I.len⟩
theorem nz{N:List Str}(hN:N.Nodup){i j:Nat}{x:Str}(a:N[i]? =some x)(b:N[j]? =some x):i=j:=by
 obtain⟨h1,e1⟩:=List.getElem?_eq_some_iff.mp a
 obtain⟨h2,e2⟩:=List.getElem?_eq_some_iff.mp b
 exact(List.getElem_inj hN).mp (e1.trans e2.symm)
theorem yX{M:Model}{A:Around}{E:Value→Shared→Prop}{i:Nat}{x:Str}{v:V}{u:Value}{Q:Unit→Shared→Prop}(I:Inv X pins σ H s)(hN:X.N.Nodup)(hi:X.N[i]? =some x)(hx:Loc X.env.scope x)(r:RelV v u)
  (h:∀s',Inv X pins (σ.set i (some v)) H s'→(∃a,Heap.SameBut a s.heap s'.heap∧(a=X.env.locals∨X.env.cells.lookup x=some a))→Q () s') (hf:X.fn x=true∨X.env.scope.names.lookup x=some .local:=by first|exact .inl rfl|exact .inr rfl|assumption):wpAny M A (storeName X.env x u) Q E s:=by
 obtain⟨m,hn,hl⟩:=id I.loc
 have Hj:(X.env.scope.kind== .class||(X.env.scope.kind== .module&&X.env.locals != X.env.globals))=false:=by rw[I.ok.kind];rfl
 have WW:i<σ.length:=by rw[I.len];exact(List.getElem?_eq_some_iff.mp hi).1
 have DT:=I.DT
 have tracked:∀{a:Addr} {h':Heap},(∃o,s.heap.get? a=some o∧H a=none)→Heap.SameBut a s.heap h'→ix X.prog X.w H h':=fun {a h'} ha hs b ob e=>by
  obtain⟨_,_,Gb⟩:=ha
  refine(I.bq b ob e).qo (fun c w' hc q=>(hs.2 c ?_).trans q) (fun _ q=>q) fun _ _ q=>q
  rintro rfl
  rcases hc with rfl|hc
  ·rw[Gb] at e;cases e
  ·rw[Gb] at hc;cases hc
 rcases hx with hk|hk
 ·refine wpAny_storeName_local hk hn (fun h' yY hs=>?_) Hj
  obtain⟨oL,_,_,WX,_⟩:=id hn
  refine h _ ⟨I.ok,I.os,I.bare,⟨fun b o e n hb hx=>?_,fun b o e n hb hx=>?_,I.base.free,fun b o e hx=>?_,I.base.kZ,I.base.k7,I.base.k8⟩,⟨_,yY,fun j y v' e1 e2 e3=>?_⟩,fun y c e=>?_,I.free,I.eS,fun p hp=>?_,tracked ⟨oL,WX,I.free⟩ hs,by simpa using I.len⟩ ⟨_,hs, .inl rfl⟩
  ·exact(hs.2 b (Nat.ne_of_lt (Nat.lt_of_lt_of_le (Heap.lt_size e) I.ok.above))).trans (I.base.keep b o e n hb hx)
  ·obtain⟨sl,e1⟩:=I.base.slot b o e n hb hx
   exact⟨sl,(hs.2 b (Nat.ne_of_lt (Nat.lt_of_lt_of_le (Heap.lt_size e) I.ok.above))).trans e1⟩
  ·obtain⟨o',e1⟩:=I.base.there b o e hx
   exact⟨o',(hs.2 b (Nat.ne_of_lt (Nat.lt_of_lt_of_le (Heap.lt_size e) I.ok.above))).trans e1⟩
  ·by_cases hj:j=i
   ·subst hj
    rw[hi] at e1;cases e1
    rw[List.getElem?_set_self WW] at e2
    cases e2
    exact⟨u,r, .inl ⟨hk,by simp⟩⟩
   ·rw[List.getElem?_set_ne (Ne.symm hj)] at e2
    obtain⟨u',r',q⟩:=hl j y v' e1 e2 e3
    refine⟨u',r',?_⟩
    rcases q with ⟨k,e⟩ | ⟨k,c,e,z⟩
    ·refine .inl ⟨k,?_⟩
     have:y≠x:=fun e=>hj (nz hN e1 (e▸hi))
     simp [this,e]
    ·exact .inr ⟨k,c,e,z.sameBut hs (DT y c e)⟩
  ·obtain⟨w',z⟩:=I.cell y c e
   exact⟨w',z.sameBut hs (DT y c e)⟩
  ·obtain⟨e,n,ne,nf,d⟩:=I.pin p hp
   exact⟨(hs.2 p.1 ne).trans e,n,ne,nf,d⟩
 ·have QQ:X.fn x=true:=by
   rcases hf with z|z
   ·exact z
   ·rw[z] at hk;cases hk
  obtain⟨c,hc⟩:=I.ok.has x (.inl hk)
  obtain⟨w',z⟩:=I.cell x c hc
  refine wpAny_storeName_cell I.ok.kind hk hc z (fun h' Dz hs=>?_)
  obtain⟨oc,WY,QR⟩:=id z
  refine h { s with heap:=h' } ⟨I.ok,I.os,I.bare,⟨fun b o e n hb hx=>?_,fun b o e n hb hx=>?_,I.base.free,fun b o e hx=>?_,I.base.kZ,I.base.k7,I.base.k8⟩,⟨m,hn.sameBut hs (Ne.symm (DT x c hc)),fun j y v' e1 e2 e3=>?_⟩,fun y c' e=>?_,I.free,I.eS,fun p hp=>?_,tracked ⟨oc,WY,I.eS x c hc⟩ hs,by simpa using I.len⟩ ⟨c,hs, .inr hc⟩
  ·exact(hs.2 b (Nat.ne_of_lt (Nat.lt_of_lt_of_le (Heap.lt_size e) (I.ok.DS x c QQ hc)))).trans (I.base.keep b o e n hb hx)
  ·obtain⟨sl,e1⟩:=I.base.slot b o e n hb hx
   exact⟨sl,(hs.2 b (Nat.ne_of_lt (Nat.lt_of_lt_of_le (Heap.lt_size e) (I.ok.DS x c QQ hc)))).trans e1⟩
  ·obtain⟨o',e1⟩:=I.base.there b o e hx
   exact⟨o',(hs.2 b (Nat.ne_of_lt (Nat.lt_of_lt_of_le (Heap.lt_size e) (I.ok.DS x c QQ hc)))).trans e1⟩
  ·by_cases hj:j=i
   ·subst hj
    rw[hi] at e1;cases e1
    rw[List.getElem?_set_self WW] at e2
    cases e2
    exact⟨u,r, .inr ⟨.inl hk,c,hc,Dz⟩⟩
   ·rw[List.getElem?_set_ne (Ne.symm hj)] at e2
    obtain⟨u',r',q⟩:=hl j y v' e1 e2 e3
    refine⟨u',r',?_⟩
    rcases q with q| ⟨k,c',e,z'⟩
    ·exact .inl q
    ·refine .inr ⟨k,c',e,z'.sameBut hs ?_⟩
     rintro rfl
     exact hj (nz hN e1 (I.ok.inj _ _ _ e hc▸hi))
  ·by_cases Ay:c'=c
   ·subst Ay;exact⟨_,Dz⟩
   ·obtain⟨w2,z2⟩:=I.cell y c' e
    exact⟨w2,z2.sameBut hs Ay⟩
  ·obtain⟨e,n,ne,nf,d⟩:=I.pin p hp
   refine⟨(hs.2 p.1 ?_).trans e,n,ne,nf,d⟩
   intro q
   rw[q,WY] at e
   have q':oc=p.2:=Option.some.inj e
   exact d w' (by rw[←q'];exact QR)
theorem store_ok{M:Model}{A:Around}{E:Value→Shared→Prop}{i:Nat}{x:Str}{v:V}{u:Value}{Q:Unit→Shared→Prop}(I:Inv X pins σ H s)(hN:X.N.Nodup)(hi:X.N[i]? =some x)(hx:Loc X.env.scope x)(r:RelV v u)
  (h:∀s',Inv X pins (σ.set i (some v)) H s'→Q () s') (hf:X.fn x=true∨X.env.scope.names.lookup x=some .local:=by first|exact .inl rfl|exact .inr rfl|assumption):wpAny M A (storeName X.env x u) Q E s:=
 yX I hN hi hx r (fun s' I' _=>h s' I') hf
theorem Inv.AM{s':Shared}{ch:List Addr}(I:Inv X pins σ H s)(ho:s'.os=s.os)(u:Un (oU X.stack) ch H H' s.heap s'.heap)(bq:ix X.prog X.w H' s'.heap)(hg:AllBare s'.gens)
  (Ax:∀b∈ch,(b∈X.ex∨X.s₀.heap.objs.size≤b)∧b≠X.env.locals∧(∀x c,X.env.cells.lookup x=some c→c≠b)∧∀p∈X.pn++pins,p.1≠b):Inv X pins σ H' s':=by
 obtain⟨h',g',d',t',o'⟩:=s'
 have e:o'=s.os:=ho
 subst e
 exact I.call (g':=g') (t':=t') (d':=d') u bq hg Ax
end
abbrev XK:=Value→Option Addr→Hp→Prop
abbrev St:=List (Option V)
abbrev VK:=V→Hp→Prop
abbrev TE:=St→Hp→VK→Prop
abbrev TT:=St→Hp→(Bool→Hp→Prop)→Prop
abbrev TA:=St→Hp→(List V→Hp→Prop)→Prop
structure Ends where
 nx:St→Hp→Prop
 rt:VK
 bk:St→Hp→Prop:=fun _ _=>False
 ct:St→Hp→Prop:=fun _ _=>False
abbrev TS:=Ends→St→Hp→Prop
def EP(X:Cx)(pins:List (Addr×Obj))(σ:St)(Q:VK)(u:Value)(s':Shared):Prop:=∃v H',Inv X pins σ H' s'∧RelV v u∧Q v H'
def TP(X:Cx)(pins:List (Addr×Obj))(σ:St)(Q:Bool→Hp→Prop)(b:Bool)(s':Shared):Prop:=∃H',Inv X pins σ H' s'∧Q b H'
def AP(X:Cx)(pins:List (Addr×Obj))(σ:St)(Q:List V→Hp→Prop)(us:List Value)(s':Shared):Prop:=∃vs H',Inv X pins σ H' s'∧Vals vs us∧Q vs H'
def SP(X:Cx)(pins:List (Addr×Obj))(D:Ends)(f:Flow)(s':Shared):Prop:=
 match f with
 | .next=>∃σ' H',Inv X pins σ' H' s'∧D.nx σ' H'
 | .brk=>∃σ' H',Inv X pins σ' H' s'∧D.bk σ' H'
 | .cont=>∃σ' H',Inv X pins σ' H' s'∧D.ct σ' H'
 | .ret u=>∃v σ' H',Inv X pins σ' H' s'∧RelV v u∧D.rt v H'
def PE(X:Cx)(e:Expr)(t:TE):Prop:=
 ∀(pins:List (Addr×Obj)) (s:Shared) (σ:St) (H:Hp) (Q:VK),Inv X pins σ H s→t σ H Q→wpAny (model X.prog X.w) X.A (eval e X.env) (EP X pins σ Q) X.xe s
def PT(X:Cx)(e:Expr)(t:TT):Prop:=
 ∀(pins:List (Addr×Obj)) (s:Shared) (σ:St) (H:Hp) (Q:Bool→Hp→Prop),Inv X pins σ H s→t σ H Q→wpAny (model X.prog X.w) X.A (isTrue e X.env (eval e X.env)) (TP X pins σ Q) X.xe s
def PW(X:Cx)(e:Expr)(t:TT):Prop:=
 ∀(whole:Sem Value) (pins:List (Addr×Obj)) (s:Shared) (σ:St) (H:Hp) (Q:Bool→Hp→Prop),Inv X pins σ H s→t σ H Q→wpAny (model X.prog X.w) X.A (isTrue e X.env whole) (TP X pins σ Q) X.xe s
theorem PW.pt{X:Cx}{e:Expr}{t:TT}(h:PW X e t):PT X e t:=h _
def PA(X:Cx)(es:List Expr)(t:TA):Prop:=
 ∀(pos:Pos) (pins:List (Addr×Obj)) (s:Shared) (σ:St) (H:Hp) (Q:List V→Hp→Prop),Inv X pins σ H s→t σ H Q→wpAny (model X.prog X.w) X.A (spliced (backTo pos (starEach es X.env))) (AP X pins σ Q) X.xe s
def PS(X:Cx)(st:Stmt)(t:TS):Prop:=
 ∀(pins:List (Addr×Obj)) (s:Shared) (σ:St) (H:Hp) (D:Ends),Inv X pins σ H s→t D σ H→wpAny (model X.prog X.w) X.A (exec st X.env) (SP X pins D) X.xe s
def jJ(X:Cx)(st:List Stmt)(t:TS):Prop:=
 ∀(pins:List (Addr×Obj)) (s:Shared) (σ:St) (H:Hp) (D:Ends),Inv X pins σ H s→t D σ H→wpAny (model X.prog X.w) X.A (execs st X.env) (SP X pins D) X.xe s
theorem bU{α:Type}{t:Sem α}{Q Q':α→Shared→Prop}{M:Model}{A:Around}{E:Value→Shared→Prop}{s:Shared}(h:wpAny M A t Q E s)(hQ:∀a s,Q a s→Q' a s):wpAny M A t Q' E s:=wpAny_mono h hQ fun _ _ x=>x
end L2
namespace L2
open PySem PySem.Spec PyProof.Rows
section
variable {X:Cx}
inductive RV(i:Nat)(σ:St)(H:Hp)(Q:VK):Prop
 |mk (v:V) (e:σ[i]? =some (some v)) (q:Q v H)
def vw(i:Nat):TE:=fun σ H Q=>RV i σ H Q
def tC(v:V):TE:=fun _ H Q=>Q v H
theorem Hk{i:Nat}{x:Str}{pos:Pos}(hN:X.N[i]? =some x)(hv:QN X.env.scope x)(hd:(x==("__debug__" :Str))=false:=by decide)(me:(x==("__classdict__" :Str))=false:=by decide):PE X (.Name x pos) (vw i):=by
 intro pins s σ H Q I h
 obtain⟨v,e,h⟩:=h
 obtain⟨m,hn,hl⟩:=I.loc
 obtain⟨u,r,l⟩:=hl i x v hN e hv
 have fin:EP X pins σ Q u s:=⟨v,H,I,r,h⟩
 rcases l with ⟨hk,hm⟩ | ⟨hk,c,hc,Gd⟩
 ·exact wpAny_Name (wpAny_loadName_local I.ok.kind hk hn hm fin) hd
 ·rcases hk with hk|hk
  ·exact wpAny_Name (wpAny_loadName_cell I.ok.kind hk hc Gd fin) hd
  ·exact wpAny_Name (wpAny_loadName_free I.ok.kind hk hc Gd fin me) hd
theorem aq{i j pos}:PE X (.Constant (.int i) j pos) (tC (.int i)):=fun _ _ _ H _ I h=>wpAny_Constant_int ⟨.int i,H,I.tok _,⟨_,rfl⟩,h⟩
theorem iw{b j pos}:PE X (.Constant (.bool b) j pos) (tC (.bl b)):=fun _ _ _ H _ I h=>Constant_bool ⟨.bl b,H,I,rfl,h⟩
theorem k9{j pos}:PE X (.Constant .none j pos) (tC .cn):=fun _ _ _ H _ I h=>Constant_none ⟨.cn,H,I,rfl,h⟩
theorem aN{x j pos}:PE X (.Constant (.str x) j pos) (tC (.str x)):=fun _ _ _ H _ I h=>Calls.Constant_str ⟨.str x,H,I.tok _,⟨_,rfl⟩,h⟩
def Gl(X:Cx)(x:Str):Prop:=X.env.kindOf x=some .globalImplicit
theorem eV{E:Value→Shared→Prop}{pins:List (Addr×Obj)}{s:Shared}{σ:St}{H:Hp}{x:Str}{u:Value}{pos:Pos}{Q:Value→Shared→Prop}(I:Inv X pins σ H s)(hg:Gl X x)(hm:X.mg x=some u)(h:Q u s)
  (hd:(x==("__debug__" :Str))=false:=by decide):wpAny (model X.prog X.w) X.A (eval (.Name x pos) X.env) Q E s:=
 Calls.Name_function_global I.ok.kind hg (Calls.loadGlobal_global (by rw[I.ok.glob];exact I.mod.glob.keeps I.bk) hm h) hd
theorem nA{E:Value→Shared→Prop}{pins:List (Addr×Obj)}{s:Shared}{σ:St}{H:Hp}{x:Str}{u:Value}{pos:Pos}{Q:Value→Shared→Prop}(I:Inv X pins σ H s)(hg:Gl X x)(hm:X.mg x=none)(hv:bootBuiltins x=some u)(h:Q u s)
  (hn:x≠"__name__" :=by decide) (hd:(x==("__debug__" :Str))=false:=by decide):wpAny (model X.prog X.w) X.A (eval (.Name x pos) X.env) Q E s:=by
 obtain⟨mb,h1,h2⟩:=I.mod.blt
 exact Calls.Name_function_global I.ok.kind hg (Calls.loadGlobal_builtin (by rw[I.ok.glob];exact I.mod.glob.keeps I.bk) hm (by rw[I.ok.blt];exact h1.keeps I.bk) ((h2 x hn).trans hv) h) hd
theorem aQ{x:Str}{v:V}{u:Value}{pos:Pos}(hg:Gl X x)(hm:X.mg x=some u)(r:RelV v u)(hd:(x==("__debug__" :Str))=false:=by decide):PE X (.Name x pos) (tC v):=
 fun _ _ _ H _ I h=>eV I hg hm ⟨v,H,I,r,h⟩ hd
theorem qw{x:Str}{v:V}{u:Value}{pos:Pos}(hg:Gl X x)(hm:X.mg x=none)(hv:bootBuiltins x=some u)(r:RelV v u)(hn:x≠"__name__" :=by decide)(hd:(x==("__debug__" :Str))=false:=by decide):PE X (.Name x pos) (tC v):=
 fun _ _ _ H _ I h=>nA I hg hm hv ⟨v,H,I,r,h⟩ hn hd
variable {a b:Expr}{ta tb:TE}{pos:Pos}
def PC(X:Cx)(op:CmpOp)(a b:Expr)(t:TE):Prop:=
 ∀(pins:List (Addr×Obj)) (s:Shared) (σ:St) (H:Hp) (Q:VK),Inv X pins σ H s→t σ H Q→
  wpAny (model X.prog X.w) X.A (eval a X.env) (fun v s₁=>wpAny (model X.prog X.w) X.A (eval b X.env) (fun u s₂=>wpAny (model X.prog X.w) X.A (compareOp op v u) (EP X pins σ Q) X.xe s₂) X.xe s₁) X.xe s
theorem AN(b:Expr){op:CmpOp}(h:op≠ .In)(h2:op≠ .NotIn):behindInMarks op b=false:=by
 have e1:(op==CmpOp.In)=false:=by cases op<;>first|rfl|exact absurd rfl h
 have e2:(op==CmpOp.NotIn)=false:=by cases op<;>first|rfl|exact absurd rfl h2
 cases b<;>simp [behindInMarks,e1,e2]
def QS(ta:TE):TE:=fun σ H Q=>ta σ H fun x H1=>Q (.bl (decide (x= .cn))) H1
def KL(ta:TE):TE:=fun σ H Q=>ta σ H fun x H1=>Q (.bl (!decide (x= .cn))) H1
theorem RelV.sJ{x:V}{v:Value}(r:RelV x v):(v==Value.none)=decide (x= .cn):=by
 cases x with
 |cn=>cases r;rfl
 |bl _=>cases r;rfl
 |int _=>obtain⟨t,rfl⟩:=r;rfl
 |str _=>obtain⟨t,rfl⟩:=r;rfl
 |vt _=>obtain⟨t,rfl⟩:=r;rfl
 |F9 _=>obtain⟨t,rfl⟩:=r;rfl
 |ref _=>cases r;rfl
 |ty _=>cases r;rfl
theorem Hl{j pos'}(ha:PE X a ta):PC X .Is a (.Constant .none j pos') (QS ta):=by
 intro pins s σ H Q I h
 refine bU (ha pins s σ H _ I h) fun v s1 ⟨x,H1,I1,r1,q1⟩=>?_
 exact Constant_none (is_none_gen ⟨.bl _,H1,I1,by rw[r1.sJ];rfl,q1⟩)
theorem DU{j pos'}(ha:PE X a ta):PC X .IsNot a (.Constant .none j pos') (KL ta):=by
 intro pins s σ H Q I h
 refine bU (ha pins s σ H _ I h) fun v s1 ⟨x,H1,I1,r1,q1⟩=>?_
 exact Constant_none (isnot_none_gen ⟨.bl _,H1,I1,by rw[r1.sJ];rfl,q1⟩)
def tB(t:TE):TT:=fun σ H Q=>t σ H fun x H1=>∃c,x= .bl c∧Q c H1
theorem AO{op:CmpOp}{t:TE}(h:PC X op a b t)(h1:behindInMarks op b=false:=by first|exact AN _ (by decide) (by decide) |rfl):PT X (.Compare a [op] [b] pos) (tB t):=by
 intro pins s σ H Q I hw
 refine wpAny_isTrue_Compare1 (bU (h pins s σ H _ I hw) fun v s1 h1=>bU h1 fun u s2 h2=>bU h2 fun c s3 ⟨x,H1,I1,r1,q1⟩=>?_) h1
 obtain⟨d,rfl,q⟩:=q1
 cases r1
 exact wpAny_truthy_bool ⟨H1,I1,q⟩
theorem dC{e:Expr}{t:TE}(h:PE X e t)(he:∀whole,isTrue e X.env whole=(do let v←whole;standAt e.pos;holding [v] (truthy v)):=by intro _;rfl):PT X e (tB t):=by
 intro pins s σ H Q I hw
 refine isTrue_plain (bU (h pins s σ H _ I hw) fun v s1 ⟨x,H1,I1,r1,q1⟩=>?_) (he _)
 obtain⟨d,rfl,q⟩:=q1
 cases r1
 exact wpAny_truthy_bool ⟨H1,I1,q⟩
variable {tA P1:TT}{rest:List Expr}
def QT(t u:TT):TT:=fun σ H Q=>t σ H fun c H1=>if c=true then u σ H1 Q else Q false H1
def Yp(t u:TT):TT:=fun σ H Q=>t σ H fun c H1=>if c=true then Q true H1 else u σ H1 Q
def QU(t:TT):TT:=fun σ H Q=>t σ H fun c H1=>Q (!c) H1
theorem i8(ha:PT X a tA):PW X (.BoolOp .And [a] pos) tA:=by
 intro wh pins s σ H Q I h
 refine isTrue_and (bU (ha pins s σ H Q I h) fun c s1 e=>?_)
 cases c with
 |true=>exact isTrue_and_nil e
 |false=>exact e
theorem iG(ha:PT X a tA):PW X (.BoolOp .Or [a] pos) tA:=by
 intro wh pins s σ H Q I h
 refine isTrue_or (bU (ha pins s σ H Q I h) fun c s1 e=>?_)
 cases c with
 |false=>exact isTrue_or_nil e
 |true=>exact e
theorem lb(ha:PT X a tA)(hb:PW X (.BoolOp .And (b::rest) pos) P1):PW X (.BoolOp .And (a::b::rest) pos) (QT tA P1):=by
 intro wh pins s σ H Q I h
 refine isTrue_and (bU (ha pins s σ H _ I h) fun c s1 ⟨H1,I1,q1⟩=>?_)
 cases c with
 |true=>exact hb wh pins s1 σ H1 Q I1 q1
 |false=>exact⟨H1,I1,q1⟩
theorem fS(ha:PT X a tA)(hb:PW X (.BoolOp .Or (b::rest) pos) P1):PW X (.BoolOp .Or (a::b::rest) pos) (Yp tA P1):=by
 intro wh pins s σ H Q I h
 refine isTrue_or (bU (ha pins s σ H _ I h) fun c s1 ⟨H1,I1,q1⟩=>?_)
 cases c with
 |true=>exact⟨H1,I1,q1⟩
 |false=>exact hb wh pins s1 σ H1 Q I1 q1
theorem vx(ha:PT X a tA):PT X (.UnaryOp .Not a pos) (QU tA):=by
 intro pins s σ H Q I h
 exact isTrue_not (ha pins s σ H (fun c H1=>Q (!c) H1) I h)
def KN(ta tb:TE):TE:=fun σ H Q=>ta σ H fun x H1=>∃c,x= .bl c∧if c=true then tb σ H1 Q else Q (.bl false) H1
def QV(ta tb:TE):TE:=fun σ H Q=>ta σ H fun x H1=>∃c,x= .bl c∧if c=true then Q (.bl true) H1 else tb σ H1 Q
def KO(ta:TE):TE:=fun σ H Q=>ta σ H fun x H1=>∃c,x= .bl c∧Q (.bl (!c)) H1
theorem AQ{op}{t:TE}(h:PE X a t):PE X (.BoolOp op [a] pos) t:=fun pins s σ H Q I hw=>BoolOp_one (h pins s σ H Q I hw)
theorem Hm(ha:PE X a ta)(hb:PE X (.BoolOp .And (b::rest) pos) tb):PE X (.BoolOp .And (a::b::rest) pos) (KN ta tb):=by
 intro pins s σ H Q I h
 refine BoolOp_and (bU (ha pins s σ H _ I h) fun v s1 ⟨x,H1,I1,r1,q1⟩=>?_)
 obtain⟨c,rfl,q1⟩:=q1
 cases r1
 refine wpAny_truthy_bool ?_
 cases c with
 |true=>exact hb pins s1 σ H1 Q I1 q1
 |false=>exact⟨.bl false,H1,I1,rfl,q1⟩
theorem Ge(ha:PE X a ta)(hb:PE X (.BoolOp .Or (b::rest) pos) tb):PE X (.BoolOp .Or (a::b::rest) pos) (QV ta tb):=by
 intro pins s σ H Q I h
 refine BoolOp_or (bU (ha pins s σ H _ I h) fun v s1 ⟨x,H1,I1,r1,q1⟩=>?_)
 obtain⟨c,rfl,q1⟩:=q1
 cases r1
 refine wpAny_truthy_bool ?_
 cases c with
 |false=>exact hb pins s1 σ H1 Q I1 q1
 |true=>exact⟨.bl true,H1,I1,rfl,q1⟩
theorem Hn(ha:PE X a ta):PE X (.UnaryOp .Not a pos) (KO ta):=by
 intro pins s σ H Q I h
 refine UnaryOp_ (bU (ha pins s σ H _ I h) fun v s1 ⟨x,H1,I1,r1,q1⟩=>?_)
 obtain⟨c,rfl,q1⟩:=q1
 cases r1
 exact not_of (wpAny_truthy_bool ⟨.bl (!c),H1,I1,rfl,q1⟩)
def Yq(t:TT)(ta tb:TE):TE:=fun σ H Q=>t σ H fun c H1=>if c=true then ta σ H1 Q else tb σ H1 Q
theorem sM{c:Expr}(hc:PT X c tA)(ha:PE X a ta)(hb:PE X b tb):PE X (.IfExp c a b pos) (Yq tA ta tb):=by
 intro pins s σ H Q I h
 refine wpAny_IfExp (bU (hc pins s σ H _ I h) fun d s1 ⟨H1,I1,q1⟩=>?_)
 cases d with
 |true=>exact ha pins s1 σ H1 Q I1 q1
 |false=>exact hb pins s1 σ H1 Q I1 q1
end
end L2
namespace L2
open PySem PySem.Spec PyProof.Rows
def cL(K:PySem.W.Frag)(H:Hp)(a:Addr)(xs:List V):Prop:=
 Rd H a (.lst xs)∨
  ∃(o:Obj) (its:Array Value) (n:Nat),K.lookup a=some o∧o.cls= .type "list" ∧o.dict=none∧o.data= .seq its n∧its.size≤sizeLine∧Vals xs its.toList
def mq(K:PySem.W.Frag)(H:Hp)(a:Addr)(xs:List V):Prop:=
 Rd H a (.tup xs)∨
  ∃(o:Obj) (its:Array Value) (n:Nat),K.lookup a=some o∧o.cls= .type "tuple" ∧o.data= .seq its n∧its.size≤sizeLine∧Vals xs its.toList
def QW:Value→Option V
 | .none=>some .cn
 | .bool b=>some (.bl b)
 | .int i _=>some (.int i)
 | .str x _=>some (.str x)
 | .bytes b _=>some (.vt b)
 | .float b _=>some (.F9 b)
 | .ref a=>some (.ref a)
 | .type n=>some (.ty n)
 |_=>none
theorem RelV.abs{x:V}{u:Value}(r:RelV x u):QW u=some x:=by
 cases x with
 |cn=>cases r;rfl
 |bl _=>cases r;rfl
 |int _=>obtain⟨t,rfl⟩:=r;rfl
 |str _=>obtain⟨t,rfl⟩:=r;rfl
 |vt _=>obtain⟨t,rfl⟩:=r;rfl
 |F9 _=>obtain⟨t,rfl⟩:=r;rfl
 |ref _=>cases r;rfl
 |ty _=>cases r;rfl
theorem RelV.inj{x y:V}{u:Value}(r:RelV x u)(q:RelV y u):x=y:=Option.some.inj (r.abs.symm.trans q.abs)
theorem Vals.inj:∀{xs ys:List V} {us:List Value},Vals xs us→Vals ys us→xs=ys
 |_,_,_, .nil, .nil=>rfl
 |_,_,_, .cons r t, .cons r' t'=>by rw[r.inj r',Vals.inj t t']
section
variable {X:Cx}{pins:List (Addr×Obj)}{σ:St}{H:Hp}{s:Shared}{a:Addr}{xs ys:List V}
theorem cL.of{K:PySem.W.Frag}(h:H a=some (.lst xs)):cL K H a xs:= .inl (.inl h)
theorem mq.of{K:PySem.W.Frag}(h:H a=some (.tup xs)):mq K H a xs:= .inl (.inl h)
theorem Inv.list(I:Inv X pins σ H s)(h:cL X.K H a xs):∃its:List Value,Vals xs its∧PlainL s.heap a its.toArray∧xs.length≤sizeLine:=by
 rcases h with h| ⟨o,its,n,hk,hc,hd,hs,hz,r⟩
 ·obtain⟨z,its,n,r,e⟩:=h.ok I.bq
  exact⟨its,r,⟨_,n,e,rfl,rfl,rfl⟩,z⟩
 ·refine⟨its.toList,r,⟨o,n,I.fQ a o hk,hc,hd,by simpa using hs⟩,?_⟩
  have e:=r.length
  simp only [Array.length_toList] at e
  omega
theorem Inv.tuple(I:Inv X pins σ H s)(h:mq X.K H a xs):∃its:List Value,Vals xs its∧IsTup s.heap a its.toArray∧xs.length≤sizeLine:=by
 rcases h with h| ⟨o,its,n,hk,hc,hs,hz,r⟩
 ·obtain⟨z,its,r,p⟩:=h.ok I.bq
  exact⟨its,r,p,z⟩
 ·refine⟨its.toList,r,⟨o,I.fQ a o hk,hc,n,by simpa using hs⟩,?_⟩
  have e:=r.length
  simp only [Array.length_toList] at e
  omega
theorem Inv.AR(I:Inv X pins σ H s)(h:cL X.K H a xs)(h':cL X.K H a ys):xs=ys:=by
 obtain⟨its,r,⟨o,n,e,_,_,d⟩,_⟩:=I.list h
 obtain⟨its',r',⟨o',n',e',_,_,d'⟩,_⟩:=I.list h'
 rw[e] at e';cases e'
 rw[d] at d'
 injection d' with d1 _
 have:its=its':=by simpa using congrArg Array.toList d1
 subst this
 exact r.inj r'
end
abbrev Cx.gw(X:Cx)(E:Value→Shared→Prop):Cx:={ X with xe:=E }
abbrev Cx.DA(X:Cx):Cx:=X.gw fun _ _=>False
theorem Cx.Ok.gw{X:Cx}(ok:X.Ok)(E:Value→Shared→Prop):(X.gw E).Ok:=
 ⟨ok.mod,ok.kind,ok.glob,ok.blt,ok.above,ok.inj,ok.has,ok.DS,ok.hd,ok.frames,ok.Ga,ok.Kh,ok.bs,ok.xn,ok.qq,ok.qr,ok.iy,ok.Aw⟩
theorem Cx.Ok.cO{X:Cx}{E:Value→Shared→Prop}(ok:(X.gw E).Ok):X.Ok:=
 ⟨ok.mod,ok.kind,ok.glob,ok.blt,ok.above,ok.inj,ok.has,ok.DS,ok.hd,ok.frames,ok.Ga,ok.Kh,ok.bs,ok.xn,ok.qq,ok.qr,ok.iy,ok.Aw⟩
section
variable {X:Cx}{pins:List (Addr×Obj)}{σ:St}{H:Hp}{s:Shared}{E:Value→Shared→Prop}
theorem Inv.gw(I:Inv X pins σ H s)(E:Value→Shared→Prop):Inv (X.gw E) pins σ H s:=⟨I.ok.gw E,I.os,I.bare,I.base,I.loc,I.cell,I.free,I.eS,I.pin,I.bq,I.len⟩
theorem Inv.cO(I:Inv (X.gw E) pins σ H s):Inv X pins σ H s:=⟨I.ok.cO,I.os,I.bare,I.base,I.loc,I.cell,I.free,I.eS,I.pin,I.bq,I.len⟩
theorem SP.cO{D:Ends}{f:Flow}{s':Shared}(h:SP (X.gw E) pins D f s'):SP X pins D f s':=by
 cases f with
 |next=>obtain⟨σ',H',I,q⟩:=h;exact⟨σ',H',I.cO,q⟩
 |brk=>obtain⟨σ',H',I,q⟩:=h;exact⟨σ',H',I.cO,q⟩
 |cont=>obtain⟨σ',H',I,q⟩:=h;exact⟨σ',H',I.cO,q⟩
 |ret u=>obtain⟨v,σ',H',I,r,q⟩:=h;exact⟨v,σ',H',I.cO,r,q⟩
theorem jJ.DA{st:List Stmt}{t:TS}(h:jJ X.DA st t):jJ X st t:=fun pins s σ H D I hw=>
 wpAny_mono (h pins s σ H D (I.gw _) hw) (fun _ _ q=>q.cO) fun _ _ z=>False.elim z
end
section
variable {X:Cx}{st:Stmt}{rest:List Stmt}{t u:TS}{e:Expr}{te:TE}{pos:Pos}
def KP:TS:=fun D σ H=>D.nx σ H
def AS(t u:TS):TS:=fun D σ H=>t { D with nx:=u D } σ H
theorem aY:jJ X [] KP:=fun _ _ σ H _ I h=>wpAny_execs_nil ⟨σ,H,I,h⟩
theorem aj(h1:PS X st t)(h2:jJ X rest u):jJ X (st::rest) (AS t u):=by
 intro pins s σ H D I h
 refine wpAny_execs_cons (bU (h1 pins s σ H { D with nx:=u D } I h) fun f s1 q=>?_)
 cases f with
 |next=>
  obtain⟨σ',H',I',q⟩:=q
  exact h2 pins s1 σ' H' D I' q
 |ret v=>exact q
 |brk=>exact q
 |cont=>exact q
theorem au(h1:PS X st t):jJ X [st] t:=by
 intro pins s σ H D I h
 refine wpAny_execs_cons (bU (h1 pins s σ H D I h) fun f s1 q=>?_)
 cases f with
 |next=>exact wpAny_execs_nil q
 |ret v=>exact q
 |brk=>exact q
 |cont=>exact q
theorem Inv.quiet{pins:List (Addr×Obj)}{σ:St}{H:Hp}{s:Shared}(I:Inv X pins σ H s):interactive X.env=false:=by simp [interactive,I.ok.kind]
def KQ(te:TE):TS:=fun D σ H=>te σ H fun _ H1=>D.nx σ H1
theorem bF(he:PE X e te)(hs:swapsWith e none pos.line X.env=pure false:=by rfl):PS X (.Expr e pos) (KQ te):=by
 intro pins s σ H D I h
 exact wpAny_Expr_any (bU (he pins s σ H _ I h) fun v s1 ⟨x,H1,I1,r1,q1⟩=>⟨σ,H1,I1,q1⟩) I.quiet hs
def KR(te:TE):TS:=fun D σ H=>te σ H D.rt
theorem aB(he:PE X e te):PS X (.Return (some e) pos) (KR te):=by
 intro pins s σ H D I h
 exact wpAny_Return_some (bU (he pins s σ H _ I h) fun v s1 ⟨x,H1,I1,r1,q1⟩=>⟨x,σ,H1,I1,r1,q1⟩)
def Ho(c:TT)(t u:TS):TS:=fun D σ H=>c σ H fun b H1=>if b=true then t D σ H1 else u D σ H1
theorem bB{c:Expr}{a b:List Stmt}{tc:TT}(hc:PT X c tc)(ha:jJ X a t)(hb:jJ X b u):PS X (.If c a b pos) (Ho tc t u):=by
 intro pins s σ H D I h
 refine wpAny_If (bU (hc pins s σ H _ I h) fun d s1 ⟨H1,I1,q1⟩=>?_)
 cases d with
 |true=>exact ha pins s1 σ H1 D I1 q1
 |false=>exact hb pins s1 σ H1 D I1 q1
end
abbrev TG:=V→St→Hp→(St→Hp→Prop)→Prop
abbrev Gf:=List V→St→Hp→(St→Hp→Prop)→Prop
def PG(X:Cx)(target:Expr)(t:TG):Prop:=
 ∀(pins:List (Addr×Obj)) (s:Shared) (σ:St) (H:Hp) (v:V) (u:Value) (Q:St→Hp→Prop),Inv X pins σ H s→RelV v u→t v σ H Q→
  wpAny (model X.prog X.w) X.A (assign target X.env u) (fun _ s'=>∃σ' H',Inv X pins σ' H' s'∧Q σ' H') X.xe s
def Ki(X:Cx)(ts:List Expr)(t:Gf):Prop:=
 ∀(pins:List (Addr×Obj)) (s:Shared) (σ:St) (H:Hp) (vs:List V) (us:List Value) (Q:St→Hp→Prop),Inv X pins σ H s→Vals vs us→t vs σ H Q→
  wpAny (model X.prog X.w) X.A (assignInOrder ((assignEach ts X.env).map (·.2)) us) (fun _ s'=>∃σ' H',Inv X pins σ' H' s'∧Q σ' H') X.xe s
section
variable {X:Cx}{pos:Pos}
def iH(i:Nat):TG:=fun v σ H Q=>Q (σ.set i (some v)) H
theorem bZ{i:Nat}{x:Str}(hN:X.N.Nodup)(hi:X.N[i]? =some x)(hx:Loc X.env.scope x)(hf:X.fn x=true∨X.env.scope.names.lookup x=some .local:=by first|exact .inl rfl|exact .inr rfl|assumption):PG X (.Name x pos) (iH i):=by
 intro pins s σ H v u Q I r h
 exact wpAny_assign_Name (store_ok I hN hi hx r (fun s' I'=>⟨_,H,I',h⟩) hf)
def QX:Gf:=fun vs σ H Q=>vs=[]∧Q σ H
def KS(t:TG)(u:Gf):Gf:=fun vs σ H Q=>∃v r,vs=v::r∧t v σ H fun σ' H'=>u r σ' H' Q
theorem mr:Ki X [] QX:=by
 intro pins s σ H vs us Q I r h
 obtain⟨e,h⟩:=h
 subst e
 cases r
 exact assignInOrder_nil ⟨σ,H,I,h⟩
theorem dH{e:Expr}{es:List Expr}{t:TG}{u:Gf}(h1:PG X e t)(h2:Ki X es u)
  (hs:(assignEach (e::es) X.env).map (·.2)=assign e X.env::(assignEach es X.env).map (·.2):=by rfl):Ki X (e::es) (KS t u):=by
 intro pins s σ H vs us Q I r h
 obtain⟨v,vr,e1,h⟩:=h
 subst e1
 cases r with
 |cons r rr=>
  rw[hs]
  refine assignInOrder_cons (bU (h1 pins s σ H _ _ _ I r h) fun _ s1 ⟨σ1,H1,I1,q1⟩=>?_)
  exact h2 pins s1 σ1 H1 _ _ Q I1 rr q1
def KU(K:PySem.W.Frag)(n:Nat)(t:Gf):TG:=fun v σ H Q=>∃a xs,v= .ref a∧mq K H a xs∧xs.length=n∧t xs σ H Q
theorem qx{es:List Expr}{k:Nat}{t:Gf}{n:Nat}(hc:X.calm=true)(h:Ki X es t)
  (hn:(assignEach es X.env).length=n:=by rfl) (Gg:(assignEach es X.env).findIdx? (·.1)=none:=by rfl):PG X (.Tuple es k pos) (KU X.K n t):=by
 intro pins s σ H v u Q I r hw
 obtain⟨a,xs,e1,hq,hl,hw⟩:=hw
 subst e1
 cases r
 obtain⟨its,rv,ht,hz⟩:=I.tuple hq
 refine assign_Tuple_tuple (I.ok.hd hc) ht (by simp [hn,←hl,rv.length]) Gg fun h' hx=>?_
 have I1:Inv X pins σ H { s with heap:=h' }:=I.kept (t':=s.toks) fun b o e=>hx b o (Nat.ne_of_lt (Heap.lt_size e)) e
 exact h pins _ σ H xs _ Q I1 (by simpa using rv) hw
def DV(te:TE)(g:TG):TS:=fun D σ H=>te σ H fun x H1=>g x σ H1 D.nx
theorem AU{tg e:Expr}{te:TE}{g:TG}(he:PE X e te)(hg:PG X tg g)(hs:swapsWithSole [tg] e pos.line X.env=pure false:=by rfl)(hw:swappedStores [tg] e X.env=pure none:=by rfl)
  (h1:(assignEach [tg] X.env).map (·.2)=[assign tg X.env]:=by rfl):PS X (.Assign [tg] e pos) (DV te g):=by
 intro pins s σ H D I h
 refine wpAny_Assign_stores (bU (he pins s σ H _ I h) fun v s1 ⟨x,H1,I1,r1,q1⟩=>?_) hs hw
 rw[h1]
 exact bU (hg pins s1 σ H1 x v _ I1 r1 q1) fun _ s2 q=>q
theorem aO{i:Nat}{x:Str}{e:Expr}{te:TE}{pos':Pos}(hN:X.N.Nodup)(hi:X.N[i]? =some x)(hx:Loc X.env.scope x)(he:PE X e te)(hs:swapsWith e (some (.Name x pos')) pos.line X.env=pure false:=by rfl)(hf:X.fn x=true∨X.env.scope.names.lookup x=some .local:=by first|exact .inl rfl|exact .inr rfl|assumption):
  PS X (.Assign [.Name x pos'] e pos) (DV te (iH i)):=by
 intro pins s σ H D I h
 refine wpAny_Assign_Name (bU (he pins s σ H _ I h) fun v s1 ⟨y,H1,I1,r1,q1⟩=>?_) hs
 exact store_ok I1 hN hi hx r1 (fun s2 I2=>⟨_,H1,I2,q1⟩) hf
end
section
variable {X:Cx}{pos:Pos}
def Hq(c:TT)(tb:TS):TS:=fun D σ H=>∃W:Nat→St→Hp→Prop,(∃m,W m σ H)∧∀m σ H,W m σ H→
 c σ H fun b H1=>if b=true then∃N:St→Hp→Prop,(∀σ' H',N σ' H'→∃m',m'<m∧W m' σ' H')∧tb { D with nx:=N,ct:=N,bk:=D.nx } σ H1 else D.nx σ H1
theorem gy{c:Expr}{body:List Stmt}{tc:TT}{tb:TS}(hp:PassesOwn (model X.prog X.w) X.A X.env X.xe)(hc:PT X c tc)(hb:jJ X body tb):PS X (.While c body [] pos) (Hq tc tb):=by
 intro pins s σ H D I h
 obtain⟨W,⟨m0,w0⟩,turn⟩:=h
 refine wpAny_While (codeAny_whileLoop (fun n s'=>∃σ' H',Inv X pins σ' H' s'∧W n σ' H') ?_ m0 ⟨σ,H,I,w0⟩)
 rintro n s1 ⟨σ1,H1,I1,w1⟩
 refine wpAny_passesOwn hp (bU (hc pins s1 σ1 H1 _ I1 (turn n σ1 H1 w1)) fun b s2 ⟨H2,I2,q2⟩=>?_)
 cases b with
 |true=>
  obtain⟨N,hN,q2⟩:=q2
  rw[if_pos rfl]
  refine wpAny_passesOwn hp (bU (hb pins s2 σ1 H2 _ I2 q2) fun f s3 q3=>?_)
  cases f with
  |next=>
   obtain⟨σ3,H3,I3,n3⟩:=q3
   obtain⟨m',hm,w3⟩:=hN σ3 H3 n3
   exact⟨m',hm,σ3,H3,I3,w3⟩
  |cont=>
   obtain⟨σ3,H3,I3,n3⟩:=q3
   obtain⟨m',hm,w3⟩:=hN σ3 H3 n3
   exact⟨m',hm,σ3,H3,I3,w3⟩
  |brk=>exact q3
  |ret v=>exact q3
 |false=>
  rw[if_neg Bool.false_ne_true]
  exact wpAny_execs_nil ⟨σ1,H2,I2,q2⟩
end
structure It where
 go:Nat→Hp→Prop
 yZ:Nat→Hp→V→Hp→Prop
 stop:Nat→Hp→Prop
def j6(X:Cx)(pins:List (Addr×Obj))(H:Hp)(b:Addr):Prop:=
 H b=none∧b≠X.env.locals∧b∉X.fs∧(b∈X.ex∨X.s₀.heap.objs.size≤b)∧(∀x c,X.env.cells.lookup x=some c→c≠b)∧∀p∈X.pn++pins,p.1≠b
theorem Inv.AV{X:Cx}{pins:List (Addr×Obj)}{σ:St}{H H':Hp}{s:Shared}{b:Addr}(I:Inv X pins σ H s)(hb:s.heap.objs.size≤b)(hn:H' b=none):j6 X pins H' b:=by
 refine⟨hn,Nat.ne_of_gt (Nat.lt_of_lt_of_le I.lt hb),I.QP hb, .inr (Nat.le_trans I.sz hb),fun x c e z=>?_,fun p hp z=>?_⟩
 ·obtain⟨v,q⟩:=I.cell x c e
  exact absurd (Nat.lt_of_lt_of_le q.lt (by rw[z];exact hb)) (Nat.lt_irrefl _)
 ·exact absurd (Nat.lt_of_lt_of_le (Heap.lt_size (I.pin p hp).1) (by rw[z];exact hb)) (Nat.lt_irrefl _)
structure Turn(P:Program)(w:World)(K:PySem.W.Frag)(tg:Expr)(J:It)(fp:List Addr)(it:Addr)(tn:Nat→Heap→Prop):Prop where
 mem:it∈fp
 obj:∀i h,tn i h→∀b∈fp,∃o,h.get? b=some o∧∀v,o.data≠ .cell v
 keep:∀i h h',tn i h→(∀b∈fp,∀o,h.get? b=some o→h'.get? b=some o)→tn i h'
 item:∀(X:Cx),X.prog=P→X.w=w→X.K=K→X.calm=true→∀(i:Nat) (pins:List (Addr×Obj)) (s:Shared) (σ:St) (H:Hp) (E:Value→Shared→Prop),Inv X pins σ H s→(∀b∈fp,j6 X pins H b)→tn i s.heap→J.go i H→
  wpAny (model P w) X.A (pyNext (.ref it)) (fun r s1=>∃u,r=some u∧
   wpAny (model P w) X.A (letOwnedTupleGo tg (.ref it) u) (fun _ s2=>∃x H',Inv X pins σ H' s2∧RelV x u∧J.yZ i H x H'∧tn (i+1) s2.heap∧∀b∈fp,H' b=none) E s1) E s
 done:∀(X:Cx),X.prog=P→X.w=w→X.K=K→X.calm=true→∀(i:Nat) (pins:List (Addr×Obj)) (s:Shared) (σ:St) (H:Hp) (E:Value→Shared→Prop),Inv X pins σ H s→(∀b∈fp,j6 X pins H b)→tn i s.heap→J.stop i H→
  wpAny (model P w) X.A (pyNext (.ref it)) (fun r s1=>r=none∧Inv X pins σ H s1) E s
 self:∀(A:Around) (i:Nat) (s:Shared) (Q:Value→Shared→Prop) (E:Value→Shared→Prop),tn i s.heap→Q (.ref it) s→wpAny (model P w) A (pyIter (.ref it)) Q E s
abbrev TI:=St→Hp→(It→Hp→Prop)→Prop
def WZ(X:Cx)(pins:List (Addr×Obj))(σ:St)(tg:Expr)(R:It→Hp→Prop)(QY:Value)(s2:Shared):Prop:=
 ∃(it:Addr) (fp:List Addr) (tn:Nat→Heap→Prop) (J:It) (H':Hp),QY= .ref it∧Inv X pins σ H' s2∧Turn X.prog X.w X.K tg J fp it tn∧tn 0 s2.heap∧(∀b∈fp,j6 X pins H' b)∧R J H'
def PI(X:Cx)(tg iter:Expr)(wi:TI):Prop:=
 ∀(pins:List (Addr×Obj)) (s:Shared) (σ:St) (H:Hp) (R:It→Hp→Prop),Inv X pins σ H s→wi σ H R→
  wpAny (model X.prog X.w) X.A (eval iter X.env) (fun v s1=>wpAny (model X.prog X.w) X.A (pyIter v) (WZ X pins σ tg R) X.xe s1) X.xe s
theorem xo{M:Model}{A:Around}{E:Value→Shared→Prop}{s:Shared}{tg:Expr}{it:Addr}{u:Value}{o:Obj}{n:String}{vs:Array Value}{Q:Unit→Shared→Prop}(ho:s.heap.get? it=some o)(hc:o.cls= .type n)(hd:o.data= .fields vs)
  (hn:["enumerate","zip","dict_itemiterator","dict_reverseitemiterator","odict_iterator","itertools.zip_longest","itertools.pairwise"].contains n=false) (hQ:Q () s):wpAny M A (letOwnedTupleGo tg (.ref it) u) Q E s:=by
 unfold letOwnedTupleGo
 cases tg<;>first
  |exact wpAny_pure hQ
  | (cases u<;>first
    |exact wpAny_pure hQ
    | (refine wpAny_bind (wpAny_load ho ?_)
       rw[hc,hd]
       show wpAny M A (if (["enumerate","zip","dict_itemiterator","dict_reverseitemiterator","odict_iterator","itertools.zip_longest","itertools.pairwise"].contains n&&vs[0]? ==some (rawInt _))=true then _ else _) Q E s
       rw[if_neg (by intro h;rw[hn,Bool.false_and] at h;cases h)]
       exact wpAny_pure hQ))
def AW(K:PySem.W.Frag)(a:Addr):It:=
 ⟨fun i H=>∃xs x,cL K H a xs∧xs[i]? =some x,fun i H x H'=>H'=H∧∀xs,cL K H a xs→xs[i]? =some x,fun i H=>∃xs,cL K H a xs∧xs.length≤i⟩
def Hr(lo:Int)(n:Nat):It:=⟨fun i _=>i<n,fun i H x H'=>H'=H∧x= .int (lo+i),fun i _=>n≤i⟩
theorem y7{P:Program}{w:World}{K:PySem.W.Frag}{tg:Expr}(a it:Addr):Turn P w K tg (AW K a) [it] it (fun i h=>h.IsListIter it a i) where
 mem:=by simp
 obj:=fun i h st b hb=>by
  have e:b=it:=by simpa using hb
  subst e
  obtain⟨o,e,c,d⟩:=st
  exact⟨o,e,fun v z=>by rw[d] at z;cases z⟩
 keep:=fun i h h' st k=>st.at fun o e=>k it (by simp) o e
 item:=by
  intro X hP hw hK hc i pins s σ H E I hf st hg
  subst hP hw hK
  obtain⟨xs,x,hq,hx⟩:=hg
  obtain⟨its,rv,p,hz⟩:=I.list hq
  obtain⟨u,hu,ru⟩:=rv.get hx
  obtain⟨f0,f1,f2,f3,f4,f5⟩:=hf it (by simp)
  refine wpAny_pyNext_list_item st p.isList (x:=u) (by simpa using hu) fun h' Az sb=>?_
  have I1:Inv X pins σ H { s with heap:=h' }:=I.turned (t':=s.toks) (fun b o hb e=>(sb.2 b hb).trans e) f0 f1 f3 f4 f5
  obtain⟨o,e,c,d⟩:=id Az
  exact⟨u,rfl,xo (s:={ s with heap:=h' }) e c d (by decide) ⟨x,H,I1,ru,⟨rfl,fun ys hy=>by rw[I.AR hy hq];exact hx⟩,Az,fun b hb=>(hf b hb).1⟩⟩
 done:=by
  intro X hP hw hK hc i pins s σ H E I hf st hg
  subst hP hw hK
  obtain⟨xs,hq,hx⟩:=hg
  obtain⟨its,rv,p,hz⟩:=I.list hq
  obtain⟨f0,f1,f2,f3,f4,f5⟩:=hf it (by simp)
  have hl:=rv.length
  exact wpAny_pyNext_list_end (I.ok.hd hc) st p.isList (by simp;omega) fun h' eb=>⟨rfl,I.turned (t':=s.toks) (fun b o hb e=>eb b o hb e) f0 f1 f3 f4 f5⟩
 self:=fun _ _ _ _ _ st h=>wpAny_pyIter_listiter st h
theorem vy{P:Program}{w:World}{K:PySem.W.Frag}{tg:Expr}(it:Addr)(lo:Int)(n:Nat):Turn P w K tg (Hr lo n) [it] it (fun i h=>IsRangeIter h it (lo+(i:Nat)*1) ((n:Int) - (i:Nat)) 1) where
 mem:=by simp
 obj:=fun i h st b hb=>by
  have e:b=it:=by simpa using hb
  subst e
  exact⟨_,st,fun v z=>by
   have z':Data.fields _=Data.cell v:=z
   cases z'⟩
 keep:=fun i h h' st k=>k it (by simp) _ st
 item:=by
  intro X hP hw hK hc i pins s σ H E I hf st hg
  subst hP hw hK
  obtain⟨f0,f1,f2,f3,f4,f5⟩:=hf it (by simp)
  have W:=Walks.range (prog:=X.prog) (w:=X.w) (I.ok.hd hc) it lo 1 n
  refine W.item i s _ _ hg st fun v h' tk hv Az kk=>?_
  obtain⟨t,rfl⟩:=hv
  have I1:Inv X pins σ H { s with heap:=h',toks:=tk }:=I.turned (fun b o hb e=>kk b o (by simpa using hb) e) f0 f1 f3 f4 f5
  refine⟨_,rfl,xo (s:={ s with heap:=h',toks:=tk }) (n:="range_iterator") Az rfl rfl (by decide) ⟨.int (lo+i),H,I1,⟨t,?_⟩,⟨rfl,rfl⟩,Az,fun b hb=>(hf b hb).1⟩⟩
  rw[Int.mul_one]
 done:=by
  intro X hP hw hK hc i pins s σ H E I hf st hg
  subst hP hw hK
  obtain⟨f0,f1,f2,f3,f4,f5⟩:=hf it (by simp)
  exact wpAny_pyNext_range_end (I.ok.hd hc) st (by have:n≤i:=hg;omega) fun h' eb=>⟨rfl,I.turned (t':=s.toks) (fun b o hb e=>eb b o hb e) f0 f1 f3 f4 f5⟩
 self:=fun _ _ _ _ _ st h=>wpAny_pyIter_rangeiter st h
end L2
namespace L2
open PySem PySem.Spec PyProof.Rows
section
variable {X:Cx}{tg:Expr}
def KW(K:PySem.W.Frag)(tl:TE):TI:=fun σ H R=>tl σ H fun x H1=>∃a,x= .ref a∧(∃xs,cL K H1 a xs)∧R (AW K a) H1
theorem j7{l:Expr}{tl:TE}(hl:PE X l tl):PI X tg l (KW X.K tl):=by
 intro pins s σ H R I h
 refine bU (hl pins s σ H _ I h) fun v s1 ⟨x,H1,I1,r1,q1⟩=>?_
 obtain⟨a,e,⟨xs,hq⟩,q⟩:=q1
 subst e
 cases r1
 obtain⟨its,rv,p,hz⟩:=I1.list hq
 refine wpAny_pyIter_list p.isList ?_
 refine⟨s1.heap.objs.size,[s1.heap.objs.size],_,_,H1,rfl,I1.kept (t':=s1.toks) fun b o e=>Heap.get?_push_of_some _ e,y7 a _,⟨_,Heap.get?_push_size _ rfl,rfl,rfl⟩,fun b hb=>?_,q⟩
 have e:b=s1.heap.objs.size:=by simpa using hb
 subst e
 exact I1.AV (Nat.le_refl _) (I1.bq.fresh (Nat.le_refl _))
theorem sN{pins:List (Addr×Obj)}{σ:St}{H:Hp}{s:Shared}{R:It→Hp→Prop}{E:Value→Shared→Prop}{lo hi:Int}{t u v:Tok}{tk:Nat}(I:Inv X pins σ H s)(h1: -(2^62)≤lo)(h2:lo<2^62)(h3: -(2^62)≤hi)(h4:hi<2^62)
  (q:R (Hr lo (hi - lo).toNat) H):wpAny (model X.prog X.w) X.A (pyIter (.ref s.heap.objs.size)) (WZ X pins σ tg R) E { s with heap:=s.heap.push { cls:= .type "range",data:= .fields #[.int lo t, .int hi u, .int 1 v] },toks:=tk }:=by
 refine wpAny_pyIter_range (IsRange.new ..) (small_one h1 h2 h3 h4) ?_
 have I1:Inv X pins σ H { s with heap:=s.heap.push { cls:= .type "range",data:= .fields #[.int lo t, .int hi u, .int 1 v] },toks:=tk }:=I.kept fun b o e=>Heap.get?_push_of_some _ e
 refine⟨(s.heap.push { cls:= .type "range",data:= .fields #[.int lo t, .int hi u, .int 1 v] }).objs.size,[(s.heap.push { cls:= .type "range",data:= .fields #[.int lo t, .int hi u, .int 1 v] }).objs.size],_,_,H,rfl,
  I1.kept (t':=tk) fun b o e=>Heap.get?_push_of_some _ e,vy _ lo (hi - lo).toNat,?_,fun b hb=>?_,q⟩
 ·have e1:lo+((0 :Nat):Int)*1=lo:=by simp
  have e2:(((hi - lo).toNat:Nat):Int) - ((0 :Nat):Int)=Builtin.Range.rangeSize lo hi 1:=by rw[rangeSize_one];split<;>omega
  show IsRangeIter _ _ (lo+((0 :Nat):Int)*1) ((((hi - lo).toNat:Nat):Int) - ((0 :Nat):Int)) 1
  rw[e1,e2]
  exact Heap.get?_push_size _ rfl
 ·have e:b=(s.heap.push { cls:= .type "range",data:= .fields #[.int lo t, .int hi u, .int 1 v] }).objs.size:=by simpa using hb
  subst e
  exact I1.AV (Nat.le_refl _) (I1.bq.fresh (Nat.le_refl _))
def KY(ta:TA):TI:=fun σ H R=>ta σ H fun vs H1=>∃j:Int,vs=[.int j]∧ -(2^62)≤j∧j<2^62∧R (Hr 0 j.toNat) H1
def KZ(ta:TA):TI:=fun σ H R=>ta σ H fun vs H1=>∃i j:Int,vs=[.int i, .int j]∧(-(2^62)≤i∧i<2^62∧ -(2^62)≤j∧j<2^62)∧R (Hr i (j - i).toNat) H1
theorem i9{a:Expr}{ta:TA}{p pos:Pos}(hg:Gl X "range")(hm:X.mg "range" =none)(ha:PA X [a] ta)(hs:starEach [a] X.env=[(false,eval a X.env)]:=by rfl):PI X tg (.Call (.Name "range" p) [a] [] pos) (KY ta):=by
 intro pins s σ H R I h
 refine Call_ (nA I hg hm boot_range (PyProof.Rows.callWith_type1 (bU (ha pos pins s σ H _ I h) fun us s1 ⟨vs,H1,I1,r1,q1⟩=>?_) hs rfl))
 obtain⟨j,e,q1,q2,q⟩:=q1
 subst e
 cases r1 with
 |cons r rr=>
  cases rr
  obtain⟨t,rfl⟩:=r
  exact call_range_1 (sN I1 (by omega) (by omega) q1 q2 (by simpa using q))
theorem y9{a b:Expr}{ta:TA}{p pos:Pos}(hg:Gl X "range")(hm:X.mg "range" =none)(ha:PA X [a,b] ta)(hs:starEach [a,b] X.env=[(false,eval a X.env),(false,eval b X.env)]:=by rfl)(K0:starEach [b] X.env=[(false,eval b X.env)]:=by rfl):
  PI X tg (.Call (.Name "range" p) [a,b] [] pos) (KZ ta):=by
 intro pins s σ H R I h
 refine Call_ (nA I hg hm boot_range (PyProof.Rows.callWith_type1 (bU (ha pos pins s σ H _ I h) fun us s1 ⟨vs,H1,I1,r1,q1⟩=>?_) (by rw[hs,K0]) (by rw[K0];rfl)))
 obtain⟨i,j,e,⟨q1,q2,q3,q4⟩,q⟩:=q1
 subst e
 cases r1 with
 |cons r rr=>
  cases rr with
  |cons r' rr=>
   cases rr
   obtain⟨t,rfl⟩:=r
   obtain⟨t',rfl⟩:=r'
   exact call_range_2 (sN I1 q1 q2 q3 q4 q)
def QZ(wi:TI)(g:TG)(tb:TS):TS:=fun D σ H=>wi σ H fun J H1=>∃W:Nat→Nat→St→Hp→Prop,(∃m,W 0 m σ H1)∧∀i m σ H,W i m σ H→
 (J.stop i H∧D.nx σ H)∨(J.go i H∧∃N:St→Hp→Prop,(∀σ' H',N σ' H'→∃m',m'<m∧W (i+1) m' σ' H')∧∀x H',J.yZ i H x H'→g x σ H' fun σ2 H2=>tb { D with nx:=N,ct:=N,bk:=D.nx } σ2 H2)
def nB(fp:List Addr)(h:Heap):List (Addr×Obj):=fp.filterMap fun b=>(h.get? b).map fun o=>(b,o)
theorem gX{fp:List Addr}{h:Heap}{b:Addr}{o:Obj}(hb:b∈fp)(e:h.get? b=some o):(b,o)∈nB fp h:=List.mem_filterMap.mpr ⟨b,hb,by rw[e];rfl⟩
theorem zd{fp:List Addr}{h:Heap}{p:Addr×Obj}(hp:p∈nB fp h):p.1∈fp∧h.get? p.1=some p.2:=by
 obtain⟨b,hb,e⟩:=List.mem_filterMap.mp hp
 cases q:h.get? b with
 |none=>rw[q] at e;cases e
 |some o=>
  rw[q] at e
  have e':(b,o)=p:=Option.some.inj e
  subst e'
  exact⟨hb,q⟩
theorem Inv.pinned{pins:List (Addr×Obj)}{σ:St}{H:Hp}{s:Shared}{fp:List Addr}(I:Inv X pins σ H s)(hf:∀b∈fp,j6 X pins H b)(ho:∀b∈fp,∃o,s.heap.get? b=some o∧∀v,o.data≠ .cell v):Inv X (pins++nB fp s.heap) σ H s:=
 I.mn fun p hp=>(List.mem_append.mp hp).elim (fun z=>I.pin p (List.mem_append_right _ z)) fun z=>by
   obtain⟨hb,e⟩:=zd z
   obtain⟨f0,f1,f2,_⟩:=hf p.1 hb
   obtain⟨o,e',d⟩:=ho p.1 hb
   rw[e] at e';cases e'
   exact⟨e,f0,f1,f2,d⟩
theorem Inv.dn{pins pl:List (Addr×Obj)}{σ:St}{H:Hp}{s:Shared}(I:Inv X (pins++pl) σ H s):Inv X pins σ H s:=I.mn fun p hp=>I.pin p (List.mem_append_right _ (List.mem_append_left _ hp))
theorem jK{iter:Expr}{body:List Stmt}{wi:TI}{g:TG}{tb:TS}{pos:Pos}(hp:PassesOwn (model X.prog X.w) X.A X.env X.xe)(hc:X.calm=true)(hi:PI X tg iter wi)(hg:PG X tg g)(hb:jJ X body tb)
  (hs:∀x,foldedSetIterable iter X.env x=pure x:=by intro _;rfl):PS X (.For tg iter body [] pos) (QZ wi g tb):=by
 intro pins s σ H D I h
 refine wpAny_For (bU (hi pins s σ H _ I h) fun v s1 h1=>bU h1 fun QY s2 h2=>?_) hs
 obtain⟨it,fp,tn,J,H2,e,I2,T,Hs,f2,W,⟨m0,w0⟩,turn⟩:=h2
 subst e
 have vz:∀{H':Hp},(∀b∈fp,H' b=none)→∀b∈fp,j6 X pins H' b:=fun hn b hb=>⟨hn b hb,(f2 b hb).2⟩
 refine codeAny_forLoop_any (fun n s'=>∃i σ' H',Inv X pins σ' H' s'∧tn i s'.heap∧(∀b∈fp,H' b=none)∧W i n σ' H') ?_ m0 ⟨0,σ,H2,I2,Hs,fun b hb=>(f2 b hb).1,w0⟩
 rintro n s3 ⟨i,σ3,H3,I3,P2,W0,w3⟩
 rcases turn i n σ3 H3 w3 with ⟨stop,qn⟩ | ⟨go,N,hN,step⟩
 ·refine wpAny_passesOwn hp (bU (T.done X rfl rfl rfl hc i pins s3 σ3 H3 X.xe I3 (vz W0) P2 stop) fun r s4 ⟨hr,I4⟩=>?_)
  subst hr
  exact wpAny_execs_nil ⟨σ3,H3,I4,qn⟩
 ·refine wpAny_passesOwn hp (bU (T.item X rfl rfl rfl hc i pins s3 σ3 H3 X.xe I3 (vz W0) P2 go) fun r s4 ⟨u,hr,h4⟩=>?_)
  subst hr
  refine wpAny_passesOwn hp (bU h4 fun _ s5 ⟨x,H5,I5,r5,y5,Q0,Q1⟩=>?_)
  have Yr:=I5.pinned (vz Q1) (T.obj _ _ Q0)
  refine wpAny_passesOwn hp (bU (hg _ s5 σ3 H5 x u _ Yr r5 (step x H5 y5)) fun _ s6 ⟨σ6,H6,I6,q6⟩=>?_)
  refine wpAny_passesOwn hp (bU (hb _ s6 σ6 H6 _ I6 q6) fun f s7 q7=>?_)
  have again:∀{σ7:St} {H7:Hp},Inv X (pins++nB fp s5.heap) σ7 H7 s7→N σ7 H7→∃m,m<n∧∃i σ' H',Inv X pins σ' H' s7∧tn i s7.heap∧(∀b∈fp,H' b=none)∧W i m σ' H':=fun {σ7 H7} I7 n7=>by
   obtain⟨m',hm,w7⟩:=hN σ7 H7 n7
   refine⟨m',hm,i+1,σ7,H7,I7.dn,T.keep _ _ _ Q0 fun b hb o e=>(I7.pin (b,o) (List.mem_append_right _ (List.mem_append_right _ (gX hb e)))).1,fun b hb=>?_,w7⟩
   obtain⟨o,e,d⟩:=T.obj _ _ Q0 b hb
   exact(I7.pin (b,o) (List.mem_append_right _ (List.mem_append_right _ (gX hb e)))).2.1
  cases f with
  |next=>obtain⟨σ7,H7,I7,n7⟩:=q7;exact again I7 n7
  |cont=>obtain⟨σ7,H7,I7,n7⟩:=q7;exact again I7 n7
  |brk=>obtain⟨σ7,H7,I7,q7⟩:=q7;exact⟨σ7,H7,I7.dn,q7⟩
  |ret v=>obtain⟨x7,σ7,H7,I7,r7,q7⟩:=q7;exact⟨x7,σ7,H7,I7.dn,r7,q7⟩
end
theorem AX{K:PySem.W.Frag}{a:Addr}{xs:List V}{g:TG}{tb:TS}{D:Ends}{σ:St}{H:Hp}(Pv:Nat→St→Hp→Prop)(h0:Pv 0 σ H)(hl:∀i σ H,i≤xs.length→Pv i σ H→cL K H a xs)
  (hs:∀i x σ H,xs[i]? =some x→Pv i σ H→g x σ H fun σ2 H2=>tb { D with nx:=Pv (i+1),ct:=Pv (i+1),bk:=D.nx } σ2 H2) (hd:∀σ H,Pv xs.length σ H→D.nx σ H):
  ∃W:Nat→Nat→St→Hp→Prop,(∃m,W 0 m σ H)∧∀i m σ H,W i m σ H→
   ((AW K a).stop i H∧D.nx σ H)∨((AW K a).go i H∧∃N:St→Hp→Prop,(∀σ' H',N σ' H'→∃m',m'<m∧W (i+1) m' σ' H')∧∀x H',(AW K a).yZ i H x H'→g x σ H' fun σ2 H2=>tb { D with nx:=N,ct:=N,bk:=D.nx } σ2 H2):=by
 refine⟨fun i m σ H=>m=xs.length - i∧i≤xs.length∧Pv i σ H,⟨xs.length,by simp,Nat.zero_le _,h0⟩,?_⟩
 rintro i m σ H ⟨rfl,hi,p⟩
 have q:=hl i σ H hi p
 by_cases vA:i<xs.length
 ·refine .inr ⟨⟨xs,xs[i],q,by simp [vA]⟩,Pv (i+1),fun σ' H' p'=>⟨xs.length - (i+1),by omega,rfl,vA,p'⟩,fun x H' y=>?_⟩
  obtain⟨e,y⟩:=y
  subst e
  exact hs i x σ _ (y xs q) p
 ·have e:i=xs.length:=by omega
  subst e
  exact .inl ⟨⟨xs,q,Nat.le_refl _⟩,hd σ H p⟩
theorem gA{lo:Int}{n:Nat}{g:TG}{tb:TS}{D:Ends}{σ:St}{H:Hp}(Pv:Nat→St→Hp→Prop)(h0:Pv 0 σ H)
  (hs:∀i σ H,i<n→Pv i σ H→g (.int (lo+i)) σ H fun σ2 H2=>tb { D with nx:=Pv (i+1),ct:=Pv (i+1),bk:=D.nx } σ2 H2) (hd:∀σ H,Pv n σ H→D.nx σ H):
  ∃W:Nat→Nat→St→Hp→Prop,(∃m,W 0 m σ H)∧∀i m σ H,W i m σ H→
   ((Hr lo n).stop i H∧D.nx σ H)∨((Hr lo n).go i H∧∃N:St→Hp→Prop,(∀σ' H',N σ' H'→∃m',m'<m∧W (i+1) m' σ' H')∧∀x H',(Hr lo n).yZ i H x H'→g x σ H' fun σ2 H2=>tb { D with nx:=N,ct:=N,bk:=D.nx } σ2 H2):=by
 refine⟨fun i m σ H=>m=n - i∧i≤n∧Pv i σ H,⟨n,by simp,Nat.zero_le _,h0⟩,?_⟩
 rintro i m σ H ⟨rfl,hi,p⟩
 by_cases vA:i<n
 ·refine .inr ⟨vA,Pv (i+1),fun σ' H' p'=>⟨n - (i+1),by omega,rfl,vA,p'⟩,fun x H' y=>?_⟩
  obtain⟨e,y⟩:=y
  subst e y
  exact hs i σ _ vA p
 ·have e:i=n:=by omega
  subst e
  exact .inl ⟨Nat.le_refl _,hd σ H p⟩
end L2
namespace L2
open PySem PySem.Spec PyProof.Rows
abbrev R2:=V→V→Hp→VK→Prop
def lh(X:Cx)(f:Value→Value→Sem Value)(r:R2):Prop:=
 ∀(pins:List (Addr×Obj)) (s:Shared) (σ:St) (H:Hp) (x y:V) (v u:Value) (Q:VK),Inv X pins σ H s→RelV x v→RelV y u→r x y H Q→
  wpAny (model X.prog X.w) X.A (f v u) (EP X pins σ Q) X.xe s
def Q2(X:Cx)(f:Value→Sem Value)(r:V→Hp→VK→Prop):Prop:=
 ∀(pins:List (Addr×Obj)) (s:Shared) (σ:St) (H:Hp) (x:V) (v:Value) (Q:VK),Inv X pins σ H s→RelV x v→r x H Q→
  wpAny (model X.prog X.w) X.A (f v) (EP X pins σ Q) X.xe s
def gD(X:Cx)(f:Value)(r:List V→Hp→VK→Prop):Prop:=
 ∀(pins:List (Addr×Obj)) (s:Shared) (σ:St) (H:Hp) (xs:List V) (us:List Value) (Q:VK),Inv X pins σ H s→Vals xs us→r xs H Q→
  wpAny (model X.prog X.w) X.A (call f us) (EP X pins σ Q) X.xe s
def Q3(X:Cx)(r:V→Hp→(Bool→Hp→Prop)→Prop):Prop:=
 ∀(pins:List (Addr×Obj)) (s:Shared) (σ:St) (H:Hp) (x:V) (v:Value) (Q:Bool→Hp→Prop),Inv X pins σ H s→RelV x v→r x H Q→
  wpAny (model X.prog X.w) X.A (truthy v) (TP X pins σ Q) X.xe s
def DB(r:R2)(ta tb:TE):TE:=fun σ H Q=>ta σ H fun x H1=>tb σ H1 fun y H2=>r x y H2 Q
def Ys(r:V→Hp→VK→Prop)(ta:TE):TE:=fun σ H Q=>ta σ H fun x H1=>r x H1 Q
inductive RI(C:Int→Int→Prop)(g:Int→Int→V)(x y:V)(H:Hp)(Q:VK):Prop
 |mk (i j:Int) (e:x= .int i) (f:y= .int j) (c:C i j) (q:Q (g i j) H)
def rI(C:Int→Int→Prop)(g:Int→Int→V):R2:=RI C g
inductive RJ(g:Int→Int→V)(x y:V)(H:Hp)(Q:VK):Prop
 |mk (i j:Int) (e:x= .int i) (f:y= .int j) (q:Q (g i j) H)
def DW(g:Int→Int→V):R2:=RJ g
def rU(g:Int→V):V→Hp→VK→Prop:=fun x H Q=>∃i,x= .int i∧Q (g i) H
section
variable {X:Cx}{a b c:Expr}{ta tb tc:TE}{pos:Pos}
theorem Ht(ha:PE X a ta)(hb:PE X b tb){pins:List (Addr×Obj)}{s:Shared}{σ:St}{H:Hp}{R:V→V→Hp→Prop}(I:Inv X pins σ H s)
  (h:ta σ H fun x H1=>tb σ H1 fun y H2=>R x y H2) {Q:Value→Shared→Prop} {f:Value→Value→Sem Value}
  (hf:∀v u s2 x y H2,Inv X pins σ H2 s2→RelV x v→RelV y u→R x y H2→wpAny (model X.prog X.w) X.A (f v u) Q X.xe s2):
  wpAny (model X.prog X.w) X.A (eval a X.env) (fun v s₁=>wpAny (model X.prog X.w) X.A (eval b X.env) (fun u s₂=>wpAny (model X.prog X.w) X.A (f v u) Q X.xe s₂) X.xe s₁) X.xe s:=by
 refine bU (ha pins s σ H _ I h) fun v s1 ⟨x,H1,I1,r1,q1⟩=>?_
 refine bU (hb pins s1 σ H1 _ I1 q1) fun u s2 ⟨y,H2,I2,r2,q2⟩=>?_
 exact hf v u s2 x y H2 I2 r1 r2 q2
theorem ax{op:Operator}{r:R2}(ho:lh X (binaryOp op) r)(ha:PE X a ta)(hb:PE X b tb):PE X (.BinOp a op b pos) (DB r ta tb):=by
 intro pins s σ H Q I h
 exact wpAny_BinOp (Ht ha hb I h fun v u s2 x y H2 I2 rx ry q=>ho pins s2 σ H2 x y v u Q I2 rx ry q)
theorem j8{op:UnaryOp}{r:V→Hp→VK→Prop}(ho:Q2 X (unaryOp op) r)(ha:PE X a ta):PE X (.UnaryOp op a pos) (Ys r ta):=by
 intro pins s σ H Q I h
 exact UnaryOp_ (bU (ha pins s σ H _ I h) fun v s1 ⟨x,H1,I1,r1,q1⟩=>ho pins s1 σ H1 x v Q I1 r1 q1)
theorem P4{f:Value→Value→Sem Value}{C:Int→Int→Prop}{g:Int→Int→Int}
  (rule:∀(i j:Int) (t u:Tok) (s:Shared) (Q:Value→Shared→Prop) (E:Value→Shared→Prop),C i j→Q (.int (g i j) s.toks) { s with toks:=s.toks+1 }→wpAny (model X.prog X.w) X.A (f (.int i t) (.int j u)) Q E s):
  lh X f (rI C fun i j=> .int (g i j)):=by
 intro pins s σ H x y v u Q I rx ry h
 obtain⟨i,j,rfl,rfl,hc,q⟩:=h
 obtain⟨t,rfl⟩:=rx
 obtain⟨t',rfl⟩:=ry
 exact rule i j t t' s _ _ hc ⟨.int (g i j),H,I.tok _,⟨_,rfl⟩,q⟩
theorem K1{f:Value→Value→Sem Value}{g:Int→Int→Int}
  (rule:∀(i j:Int) (t u:Tok) (s:Shared) (Q:Value→Shared→Prop) (E:Value→Shared→Prop),Q (.int (g i j) s.toks) { s with toks:=s.toks+1 }→wpAny (model X.prog X.w) X.A (f (.int i t) (.int j u)) Q E s):
  lh X f (DW fun i j=> .int (g i j)):=by
 intro pins s σ H x y v u Q I rx ry h
 obtain⟨i,j,rfl,rfl,q⟩:=h
 obtain⟨t,rfl⟩:=rx
 obtain⟨t',rfl⟩:=ry
 exact rule i j t t' s _ _ ⟨.int (g i j),H,I.tok _,⟨_,rfl⟩,q⟩
theorem Hu{f:Value→Value→Sem Value}{g:Int→Int→Bool}
  (rule:∀(i j:Int) (t u:Tok) (s:Shared) (Q:Value→Shared→Prop) (E:Value→Shared→Prop),Q (.bool (g i j)) s→wpAny (model X.prog X.w) X.A (f (.int i t) (.int j u)) Q E s):
  lh X f (DW fun i j=> .bl (g i j)):=by
 intro pins s σ H x y v u Q I rx ry h
 obtain⟨i,j,rfl,rfl,q⟩:=h
 obtain⟨t,rfl⟩:=rx
 obtain⟨t',rfl⟩:=ry
 exact rule i j t t' s _ _ ⟨.bl (g i j),H,I,rfl,q⟩
def Q4(i j:Int):Prop:=0<j∧j<1073741824
def Q5(i j:Int):Prop:=0≤j∧j≤1000000∧i.natAbs<2^64
def AY(i j:Int):Prop:=(-(2^64) <i∧i<2^64)∨(-(2^64) <j∧j<2^64)
theorem AY.ok{i j:Int}(h:AY i j):IntMulOk i j:=by
 rcases h with ⟨h1,h2⟩ | ⟨h1,h2⟩
 ·exact .of_left (intBits_le_64 h1 h2)
 ·exact .of_right (intBits_le_64 h1 h2)
theorem bH:lh X (binaryOp .Add) (DW fun i j=> .int (i+j)):=K1 fun _ _ _ _ _ _ _ q=>add_int q
theorem nD:lh X (binaryOp .Sub) (DW fun i j=> .int (i - j)):=K1 fun _ _ _ _ _ _ _ q=>sub_int q
theorem iI:lh X (binaryOp .Mult) (rI AY fun i j=> .int (i*j)):=P4 fun _ _ _ _ _ _ _ hc q=>mul_int q hc.ok
theorem bW:lh X (binaryOp .FloorDiv) (rI Q4 fun i j=> .int (i/j)):=P4 fun i j _ _ _ _ _ hc q=>by
 have h1:(0 :Int) <j:=hc.1
 have h2:j<1073741824:=hc.2
 exact floordiv_int (by omega) (by rw[Int.fdiv_eq_ediv_of_nonneg i (by omega)];exact q) (.inl (PyProof.noPylong_small (by omega)))
theorem bA:lh X (binaryOp .Mod) (rI (fun _ j=>0<j) fun i j=> .int (i%j)):=P4 fun i j _ _ _ _ _ hc q=>by
 have h1:(0 :Int) <j:=hc
 exact mod_int' (by omega) (by rw[Int.fmod_eq_emod_of_nonneg i (by omega)];exact q)
theorem vB:lh X (binaryOp .Pow) (rI Q5 fun i j=> .int (i^j.toNat)):=P4 fun _ _ _ _ _ _ _ hc q=>pow_int_small hc.1 hc.2.1 hc.2.2 q
theorem Yt{f:Value→Sem Value}{g:Int→Int}
  (rule:∀(i:Int) (t:Tok) (s:Shared) (Q:Value→Shared→Prop) (E:Value→Shared→Prop),Q (.int (g i) s.toks) { s with toks:=s.toks+1 }→wpAny (model X.prog X.w) X.A (f (.int i t)) Q E s):
  Q2 X f (rU fun i=> .int (g i)):=by
 intro pins s σ H x v Q I rx h
 obtain⟨i,rfl,q⟩:=h
 obtain⟨t,rfl⟩:=rx
 exact rule i t s _ _ ⟨.int (g i),H,I.tok _,⟨_,rfl⟩,q⟩
theorem gY:Q2 X (unaryOp .USub) (rU fun i=> .int (-i)):=Yt fun _ _ _ _ _ q=>neg_int q
end
def K2:V→V→Bool
 | .cn, .cn=>true| .cn, .int _=>true| .int _, .cn=>true| .cn, .bl _=>true| .bl _, .cn=>true| .cn, .str _=>true| .str _, .cn=>true
 | .int _, .int _=>true| .bl _, .bl _=>true| .str _, .str _=>true| .vt _, .vt _=>true
 | .int _, .str _=>true| .str _, .int _=>true| .bl _, .str _=>true| .str _, .bl _=>true
 |_,_=>false
def Yu:R2:=fun x y H Q=>K2 x y=true∧Q (.bl (decide (x=y))) H
def Yv:R2:=fun x y H Q=>K2 x y=true∧Q (.bl (!decide (x=y))) H
theorem xp{i j:Int}:decide (V.int i=V.int j)=(i==j):=by
 rw[Bool.eq_iff_iff]
 simp
theorem AZ{i j:Bool}:decide (V.bl i=V.bl j)=(i==j):=by
 rw[Bool.eq_iff_iff]
 simp
theorem xq{i j:Str}:decide (V.str i=V.str j)=(i==j):=by
 rw[Bool.eq_iff_iff]
 simp
theorem xr{i j:Array UInt8}:decide (V.vt i=V.vt j)=(i.toList==j.toList):=by
 rw[Bool.eq_iff_iff]
 cases i
 cases j
 simp
section
variable {X:Cx}{a b c:Expr}{ta tb tc:TE}{pos:Pos}
theorem bC{pins:List (Addr×Obj)}{σ:St}{H:Hp}{s:Shared}{Q:VK}{k k':Bool}(I:Inv X pins σ H s)(q:Q (.bl k) H)(e:k=k'):EP X pins σ Q (.bool k') s:=by
 subst e
 exact⟨.bl k,H,I,rfl,q⟩
theorem cw:lh X (compareOp .Eq) Yu:=by
 intro pins s σ H x y v u Q I rx ry h
 obtain⟨hs,q⟩:=h
 cases x with
 |cn=>
  cases rx
  cases y with
  |cn=>cases ry;exact PySem.EqNone.eq_none_none (bC I q (by simp))
  |bl j=>cases ry;exact PySem.EqNone.eq_none_bool (bC I q (by simp))
  |int j=>obtain⟨t',rfl⟩:=ry;exact PySem.EqNone.eq_none_int (bC I q (by simp))
  |str j=>obtain⟨t',rfl⟩:=ry;exact PySem.EqNone.eq_none_str (bC I q (by simp))
  |_=>exact absurd (show false=true from hs) Bool.false_ne_true
 |bl i=>
  cases rx
  cases y with
  |cn=>cases ry;exact PySem.EqNone.eq_bool_none (bC I q (by simp))
  |bl j=>cases ry;exact eq_bool (bC I q AZ)
  |str j=>obtain⟨t',rfl⟩:=ry;exact PySem.EqMixed.eq_bool_str (bC I q (by simp))
  |_=>exact absurd (show false=true from hs) Bool.false_ne_true
 |int i=>
  obtain⟨t,rfl⟩:=rx
  cases y with
  |cn=>cases ry;exact PySem.EqNone.eq_int_none (bC I q (by simp))
  |int j=>obtain⟨t',rfl⟩:=ry;exact eq_int (bC I q xp)
  |str j=>obtain⟨t',rfl⟩:=ry;exact PySem.EqMixed.eq_int_str (bC I q (by simp))
  |_=>exact absurd (show false=true from hs) Bool.false_ne_true
 |str i=>
  obtain⟨t,rfl⟩:=rx
  cases y with
  |cn=>cases ry;exact PySem.EqNone.eq_str_none (bC I q (by simp))
  |bl j=>cases ry;exact PySem.EqMixed.eq_str_bool (bC I q (by simp))
  |int j=>obtain⟨t',rfl⟩:=ry;exact PySem.EqMixed.eq_str_int (bC I q (by simp))
  |str j=>obtain⟨t',rfl⟩:=ry;exact eq_str (bC I q xq)
  |_=>exact absurd (show false=true from hs) Bool.false_ne_true
 |vt i=>
  obtain⟨t,rfl⟩:=rx
  cases y with
  |vt j=>obtain⟨t',rfl⟩:=ry;exact PySem.W.eq_bytes (bC I q xr)
  |_=>exact absurd (show false=true from hs) Bool.false_ne_true
 |_=>cases y<;>exact absurd (show false=true from hs) Bool.false_ne_true
theorem sO:lh X (compareOp .NotEq) Yv:=by
 intro pins s σ H x y v u Q I rx ry h
 obtain⟨hs,q⟩:=h
 cases x with
 |cn=>
  cases rx
  cases y with
  |cn=>cases ry;exact PySem.EqNone.ne_none_none (bC I q (by simp))
  |bl j=>cases ry;exact PySem.EqNone.ne_none_bool (bC I q (by simp))
  |int j=>obtain⟨t',rfl⟩:=ry;exact PySem.EqNone.ne_none_int (bC I q (by simp))
  |str j=>obtain⟨t',rfl⟩:=ry;exact PySem.EqNone.ne_none_str (bC I q (by simp))
  |_=>exact absurd (show false=true from hs) Bool.false_ne_true
 |bl i=>
  cases rx
  cases y with
  |cn=>cases ry;exact PySem.EqNone.ne_bool_none (bC I q (by simp))
  |bl j=>cases ry;exact ne_bool (bC I q (congrArg not AZ))
  |str j=>obtain⟨t',rfl⟩:=ry;exact PySem.EqMixed.ne_bool_str (bC I q (by simp))
  |_=>exact absurd (show false=true from hs) Bool.false_ne_true
 |int i=>
  obtain⟨t,rfl⟩:=rx
  cases y with
  |cn=>cases ry;exact PySem.EqNone.ne_int_none (bC I q (by simp))
  |int j=>obtain⟨t',rfl⟩:=ry;exact ne_int (bC I q (congrArg not xp))
  |str j=>obtain⟨t',rfl⟩:=ry;exact PySem.EqMixed.ne_int_str (bC I q (by simp))
  |_=>exact absurd (show false=true from hs) Bool.false_ne_true
 |str i=>
  obtain⟨t,rfl⟩:=rx
  cases y with
  |cn=>cases ry;exact PySem.EqNone.ne_str_none (bC I q (by simp))
  |bl j=>cases ry;exact PySem.EqMixed.ne_str_bool (bC I q (by simp))
  |int j=>obtain⟨t',rfl⟩:=ry;exact PySem.EqMixed.ne_str_int (bC I q (by simp))
  |str j=>obtain⟨t',rfl⟩:=ry;exact ne_str (bC I q (congrArg not xq))
  |_=>exact absurd (show false=true from hs) Bool.false_ne_true
 |vt i=>
  obtain⟨t,rfl⟩:=rx
  cases y with
  |vt j=>obtain⟨t',rfl⟩:=ry;exact PySem.W.ne_bytes (bC I q (congrArg not xr))
  |_=>exact absurd (show false=true from hs) Bool.false_ne_true
 |_=>cases y<;>exact absurd (show false=true from hs) Bool.false_ne_true
theorem xt:lh X (compareOp .Lt) (DW fun i j=> .bl (decide (i<j))):=Hu fun _ _ _ _ _ _ _ q=>lt_int q
theorem K3:lh X (compareOp .LtE) (DW fun i j=> .bl (decide (i≤j))):=Hu fun _ _ _ _ _ _ _ q=>le_int q
theorem fT:lh X (compareOp .Gt) (DW fun i j=> .bl (decide (j<i))):=Hu fun _ _ _ _ _ _ _ q=>gt_int q
theorem ze:lh X (compareOp .In) (fun x y H Q=>∃i j,x= .str i∧y= .str j∧Q (.bl (!(Builtin.Str.occurrences j i 0 j.length 1).isEmpty)) H):=by
 intro pins s σ H x y v u Q I rx ry h
 obtain⟨i,j,rfl,rfl,q⟩:=h
 obtain⟨t,rfl⟩:=rx
 obtain⟨t',rfl⟩:=ry
 exact in_str (bC I q rfl)
theorem aU(b:Expr){op:CmpOp}(h:op≠ .In:=by decide)(h2:op≠ .NotIn:=by decide):behindInMarks op b=false:=by
 have e1:(op==CmpOp.In)=false:=by cases op<;>first|rfl|exact absurd rfl h
 have e2:(op==CmpOp.NotIn)=false:=by cases op<;>first|rfl|exact absurd rfl h2
 cases b<;>simp [behindInMarks,e1,e2]
theorem i'{op:CmpOp}{r:R2}(ho:lh X (compareOp op) r)(ha:PE X a ta)(hb:PE X b tb)(hm:behindInMarks op b=false):PE X (.Compare a [op] [b] pos) (DB r ta tb):=by
 intro pins s σ H Q I h
 exact wpAny_Compare1 (Ht ha hb I h fun v u s2 x y H2 I2 rx ry q=>ho pins s2 σ H2 x y v u Q I2 rx ry q) hm
def K4(t:TE):TT:=fun σ H Q=>t σ H fun x H'=>∃k,x= .bl k∧Q k H'
theorem aJ{op:CmpOp}{r:R2}(ho:lh X (compareOp op) r)(ha:PE X a ta)(hb:PE X b tb)(hm:behindInMarks op b=false):PT X (.Compare a [op] [b] pos) (K4 (DB r ta tb)):=by
 intro pins s σ H Q I h
 refine wpAny_isTrue_Compare1 (bU (ha pins s σ H _ I h) fun v s1 ⟨x,H1,I1,r1,q1⟩=>bU (hb pins s1 σ H1 _ I1 q1) fun u s2 ⟨y,H2,I2,r2,q2⟩=>
  bU (ho pins s2 σ H2 x y v u _ I2 r1 r2 q2) fun c s3 ⟨z,H3,I3,r3,k,e,q3⟩=>?_) hm
 subst e
 cases r3
 exact wpAny_truthy_bool ⟨H3,I3,q3⟩
def Hv(r r':R2)(ta tb tc:TE):TE:=fun σ H Q=>ta σ H fun x H1=>tb σ H1 fun y H2=>r x y H2 fun z H3=>∃k,z= .bl k∧
 (if k=true then tc σ H3 fun w' H4=>r' y w' H4 Q else Q (.bl false) H3)
theorem nE{op Q6:CmpOp}{r r':R2}(ho:lh X (compareOp op) r)(vv:lh X (compareOp Q6) r')(ha:PE X a ta)(hb:PE X b tb)(hc:PE X c tc)
  (hm:lastMarks [op,Q6] [b,c]=false:=by with_unfolding_all rfl):PE X (.Compare a [op,Q6] [b,c] pos) (Hv r r' ta tb tc):=by
 intro pins s σ H Q I h
 refine Compare_chain (bU (ha pins s σ H _ I h) fun v s1 ⟨x,H1,I1,r1,q1⟩=>chain_link (bU (hb pins s1 σ H1 _ I1 q1) fun u s2 ⟨y,H2,I2,r2,q2⟩=>
  bU (ho pins s2 σ H2 x y v u _ I2 r1 r2 q2) fun d s3 ⟨z,H3,I3,r3,k,e,q3⟩=>?_)) hm
 subst e
 cases r3
 refine wpAny_truthy_bool ?_
 cases k with
 |false=>exact ite_ff ⟨.bl false,H3,I3,rfl,q3⟩
 |true=>exact ite_tt (chain_last (bU (hc pins s3 σ H3 _ I3 q3) fun w' s4 ⟨z',H4,I4,r4,q4⟩=>vv pins s4 σ H4 y z' u w' Q I4 r2 r4 q4))
def K5(K:PySem.W.Frag)(x:V)(H:Hp)(k:Bool):Prop:=
 match x with
 | .cn=>k=false
 | .bl b=>k=b
 | .int i=>k=(i != 0)
 | .str y=>y.length≤sizeLine∧k=((y.length:Int) != 0)
 | .vt y=>y.size≤sizeLine∧k=((y.size:Int) != 0)
 | .ref p=>(∃xs,cL K H p xs∧k=!xs.isEmpty)∨(∃xs,mq K H p xs∧k=!xs.isEmpty)∨∃kvs,H p=some (.dK kvs)∧k=!kvs.isEmpty
 |_=>False
theorem vC{κ:Type}{kvs:List (κ×V)}{vs:List (κ×Value)}(r:KV kvs vs):(!vs.isEmpty)=!kvs.isEmpty:=by
 cases r<;>rfl
theorem nG{xs:List V}{its:List Value}(r:Vals xs its):(!its.toArray.isEmpty)=!xs.isEmpty:=by
 cases r<;>simp
theorem jL:(sizeLine:Nat) <2^63:=by rw[sizeLine_eq];decide
theorem Hw:Q3 X (fun x H Q=>∃k,K5 X.K x H k∧Q k H):=by
 intro pins s σ H x v Q I rx h
 obtain⟨k,e,q⟩:=h
 have hl:=jL
 have hs:sizeLine=16777216:=sizeLine_eq
 cases x with
 |cn=>
  cases rx
  have e':k=false:=e
  subst e'
  exact truthy_none ⟨H,I,q⟩
 |bl b=>
  cases rx
  have e':k=b:=e
  subst e'
  exact wpAny_truthy_bool ⟨H,I,q⟩
 |int i=>
  obtain⟨t,rfl⟩:=rx
  have e':k=(i != 0):=e
  subst e'
  exact PySem.P.truthy_int ⟨H,I,q⟩
 |str y=>
  obtain⟨t,rfl⟩:=rx
  obtain⟨hy,e'⟩:y.length≤sizeLine∧k=((y.length:Int) != 0):=e
  subst e'
  exact PySem.P.truthy_str (by omega) ⟨H,I.tok _,q⟩
 |vt y=>
  obtain⟨t,rfl⟩:=rx
  obtain⟨hy,e'⟩:y.size≤sizeLine∧k=((y.size:Int) != 0):=e
  subst e'
  exact PySem.W.truthy_bytes (by omega) ⟨H,I.tok _,q⟩
 |ref p=>
  cases rx
  have e':(∃xs,cL X.K H p xs∧k=!xs.isEmpty)∨(∃xs,mq X.K H p xs∧k=!xs.isEmpty)∨∃kvs,H p=some (.dK kvs)∧k=!kvs.isEmpty:=e
  rcases e' with ⟨xs,hx,e'⟩ | ⟨xs,hx,e'⟩ | ⟨kvs,hx,e'⟩
  ·subst e'
   obtain⟨its,r,pl,hz⟩:=I.list hx
   have hlen:=r.length
   exact wpAny_truthy_list pl.isList (by simp only [List.size_toArray];omega) ⟨H,I.tok _,by rw[nG r];exact q⟩
  ·subst e'
   obtain⟨its,r,pl,hz⟩:=I.tuple hx
   have hlen:=r.length
   exact truthy_tuple pl (by simp only [List.size_toArray];omega) ⟨H,I.tok _,by rw[nG r];exact q⟩
  ·subst e'
   obtain⟨hz,hS,vs,r,m⟩:kvs.length≤sizeLine∧(p==sysModules)=false∧∃vs,KV kvs vs∧s.heap.DictOf (bV X.prog X.w) p vs:=I.bq p _ hx
   have hlen:kvs.length=vs.length:=Paired.length r
   exact wpAny_truthy_dict hS m (by omega) ⟨H,I.tok _,by rw[vC r];exact q⟩
 |_=>exact(show False from e).elim
theorem sP(ha:PE X a ta)(he:∀whole,isTrue a X.env whole=(do let v←whole;standAt a.pos;holding [v] (truthy v))):
  PT X a (fun σ H Q=>ta σ H fun x H'=>∃k,K5 X.K x H' k∧Q k H'):=by
 intro pins s σ H Q I h
 exact isTrue_plain (bU (ha pins s σ H _ I h) fun v s1 ⟨x,H1,I1,r1,q1⟩=>Hw pins s1 σ H1 x v Q I1 r1 q1) (he _)
theorem aG:lh X (binaryOp .Add) (fun x y H Q=>∃i j,x= .str i∧y= .str j∧i.length+j.length≤sizeLine∧Q (.str (i++j)) H):=by
 intro pins s σ H x y v u Q I rx ry h
 obtain⟨i,j,rfl,rfl,hz,q⟩:=h
 obtain⟨t,rfl⟩:=rx
 obtain⟨t',rfl⟩:=ry
 exact add_str (fun t' tk=>⟨.str (i++j),H,I.tok _,⟨_,rfl⟩,q⟩) hz
theorem vals1{x:V}{us:List Value}(r:Vals [x] us):∃u,us=[u]∧RelV x u:=by
 cases r with
 |cons r1 r2=>cases r2;exact⟨_,rfl,r1⟩
theorem vals2{x y:V}{us:List Value}(r:Vals [x,y] us):∃u w',us=[u,w']∧RelV x u∧RelV y w':=by
 cases r with
 |cons r1 r2=>
  cases r2 with
  |cons r3 r4=>cases r4;exact⟨_,_,rfl,r1,r3⟩
theorem sQ:gD X (.builtin "abs") (fun xs H Q=>∃i,xs=[.int i]∧Q (.int (if i<0 then -i else i)) H):=by
 intro pins s σ H xs us Q I r h
 obtain⟨i,rfl,q⟩:=h
 obtain⟨u,rfl,t,rfl⟩:=vals1 r
 exact call_abs_int fun u tk=>⟨.int (if i<0 then -i else i),H,I.tok _,⟨_,rfl⟩,q⟩
theorem zf(hc:X.calm=true):gD X (.builtin "max") (fun xs H Q=>∃i j,xs=[.int i, .int j]∧Q (.int (if j>i then j else i)) H):=by
 intro pins s σ H xs us Q I r h
 obtain⟨i,j,rfl,q⟩:=h
 obtain⟨u,w',rfl,⟨t,rfl⟩,⟨t',rfl⟩⟩:=vals2 r
 refine max_two_ints (I.ok.hd hc) fun h' tk k=>⟨_,H,I.kept k,?_,q⟩
 by_cases hj:j>i
 ·rw[if_pos hj,if_pos hj];exact⟨_,rfl⟩
 ·rw[if_neg hj,if_neg hj];exact⟨_,rfl⟩
theorem lj:gD X (.type "int") (fun xs H Q=>(∃i,xs=[.int i]∧Q (.int i) H)∨∃k,xs=[.bl k]∧Q (.int (if k then 1 else 0)) H):=by
 intro pins s σ H xs us Q I r h
 rcases h with ⟨i,rfl,q⟩ | ⟨k,rfl,q⟩
 ·obtain⟨u,rfl,t,rfl⟩:=vals1 r
  exact call_int_int ⟨.int i,H,I,⟨_,rfl⟩,q⟩
 ·obtain⟨u,rfl,r1⟩:=vals1 r
  cases r1
  exact call_int_bool ⟨.int (if k then 1 else 0),H,I.tok _,⟨_,rfl⟩,q⟩
theorem eW:gD X (.type "str") (fun xs H Q=>∃i,xs=[.int i]∧i.natAbs.log2<1920∧Q (.str (toString i)) H):=by
 intro pins s σ H xs us Q I r h
 obtain⟨i,rfl,hz,q⟩:=h
 obtain⟨u,rfl,t,rfl⟩:=vals1 r
 exact PySem.P.str_of_int hz ⟨.str _,H,I.tok _,⟨_,rfl⟩,q⟩
end
end L2
namespace L2
open PySem PySem.Spec PyProof.Rows
structure vD(h:Heap)(x dx C:Addr)(mA:Str→Option Value):Prop where
 obj:h.get? x=some (PySem.W.instObj C dx)
 ns:h.Ns1 dx mA
 ne:dx≠x
theorem ll{h:Heap}{dx:Addr}{mA:Str→Option Value}(n:h.Ns1 dx mA):∃od,h.get? dx=some od∧∀name,PySem.W.lookIn name od=some (mA name):=by
 obtain⟨o,es,ep,ho,hd,hk,_,hm⟩:=n
 refine⟨o,ho,fun name=>?_⟩
 have e:=hm name
 unfold nsFind findBy at e
 rw[←Array.find?_toList] at e
 unfold PySem.W.lookIn
 rw[hd]
 dsimp only
 split
 ·rename_i y q
  rw[q] at e
  exact congrArg some e
 ·rename_i q
  rw[q] at e
  have a:es.toList.any (·.refKey)=false:=by
   rw[List.any_eq_false]
   intro y hy
   obtain⟨z,t,Q7⟩:=hk y (Array.mem_toList_iff.mp hy)
   simp [DictEntry.refKey,Q7]
  have a':¬es.toList.any (·.refKey)=true:=by rw[a];exact Bool.false_ne_true
  rw[if_neg a']
  exact congrArg some e
theorem vD.look{h:Heap}{x dx C:Addr}{mA:Str→Option Value}(I:vD h x dx C mA):∃od,PySem.W.InstAt h x (PySem.W.instObj C dx) C (some od)∧∀name,PySem.W.lookIn name od=some (mA name):=
 let ⟨od,ho,hl⟩:=ll I.ns
 ⟨od,⟨I.obj,rfl,rfl,ho⟩,hl⟩
section
variable {prog:Program}{w:World}{A:Around}{E:Value→Shared→Prop}{s:Shared}{K:PySem.W.Frag}{x dx C f:Addr}{mA:Str→Option Value}{name:Str}{v:Value}
theorem get_map{expr:Bool}{Q:Value→Shared→Prop}(X:K.In s.heap)(I:vD s.heap x dx C mA)(hg:PySem.W.plainGet K C name=true)(hh:PySem.W.hasDictIn K C=true)
  (ha:PySem.W.findIn K (.ref C) name=some none) (hv:mA name=some v) (Yw:PySem.W.handedIn v=true) (h:Q v { s with toks:=s.toks+1 }):
  wpAny (model prog w) A (getAttr (.ref x) name expr) Q E s:=by
 obtain⟨od,J,hl⟩:=I.look
 exact PySem.W.get_value X J (PySem.W.plainGet_of hg).1 (PySem.W.findObj_own hh ha rfl (by rw[hl,hv])) Yw h
theorem A1{pl:Sem Bool}{Q:Value×List Value→Shared→Prop}(X:K.In s.heap)(I:vD s.heap x dx C mA)(hg:PySem.W.plainGet K C name=true)
  (hf:PySem.W.findIn K (.ref C) name=some (some (.ref f))) (ht:PySem.W.isFn K (.ref f)=true) (hv:mA name=none) (h:Q (.ref f,[.ref x]) s):
  wpAny (model prog w) A (getMethod (.ref x) name pl) Q E s:=by
 obtain⟨od,J,hl⟩:=I.look
 exact PySem.W.method_fn X J (PySem.W.plainGet_of hg).1 (PySem.W.plainGet_of hg).2 hf (beq_iff_eq.mp ht) (by show (PySem.W.lookIn name od).map (·.isSome)=some false;rw[hl,hv];rfl) h
theorem DX{ns:List Str}{Q:Unit→Shared→Prop}(X:K.In s.heap)(I:vD s.heap x dx C mA)
  (hs:PySem.W.findIn K (.ref C) "__setattr__" =some (some (.builtin "object.__setattr__"))) (hp:PySem.W.plainOver K C=true) (ht:PySem.W.takerIn K C name=some none) (hh:PySem.W.hasDictIn K C=true)
  (hw:PySem.Within mA ns) (hsz:ns.length≤sizeLine)
  (h:∀h',vD h' x dx C (fun y=>if y=name then some v else mA y)→Heap.SameBut dx s.heap h'→Q () { s with heap:=h',toks:=s.toks+2 }):
  wpAny (model prog w) A (setAttr (.ref x) name v) Q E s:=by
 obtain⟨od,J,hl⟩:=I.look
 refine PySem.W.set_plain X J hs (PySem.W.osa_open (s:={ s with toks:=s.toks+1 }) (r:=none) X J hp ht fun b=>?_)
 obtain⟨cd,hc,qt⟩:=PySem.W.any_some hh
 have hx:s.heap.get? x=some ⟨.ref C,some dx, .plain,#[]⟩:=I.obj
 refine wpAny_bind (wpAny_pure (wpAny_bind (wpAny_bind (wpAny_loadPart hx (wpAny_bind (PySem.W.Looks.here (s:={ s with toks:=s.toks+1 }) (PySem.W.looks_clsIn X hc) ?_))))))
 rw[qt]
 refine wpAny_pure (a:=some dx) (wpAny_bind (wpAny_pure (wpAny_bind ?_)))
 refine wpAny_nsSet1 (s:={ s with toks:=s.toks+1 }) I.ns fun h' Gh K0=>?_
 obtain⟨oD,esD,epD,Yx,Yy,DY⟩:=Gh.count (PySem.Within.cons name v hw)
 refine wpAny_bind (wpAny_lookBehind Yx (by rw[Yy];exact pastItsLine_dict (Nat.le_trans DY (by rw[List.length_cons];omega))) ?_)
 exact wpAny_pure (h _ ⟨(K0.2 _ (Ne.symm I.ne)).trans I.obj,Gh,I.ne⟩ K0)
theorem A2{R:Result→Shared→Prop}{vs:List Value}{kw:List (Str×Value)}(X:K.In s.heap)(hm:PySem.W.makesIn K C=true)
  (hi:PySem.W.findIn K (.ref C) "__init__" =some (some (.ref f))) (hf:PySem.W.typeIn K (.ref f)=some (.type "function"))
  (h:codeAny (model prog w) (A.under (.builtin "type.__call__" ⟨.ref C::vs,kw⟩)) (.call (.ref f) ⟨.ref (s.heap.objs.size+1)::vs,kw⟩) (PySem.W.InitBack (s.heap.objs.size+1) R)
   { s with heap:=(s.heap.push PySem.W.emptyDict).push (PySem.W.instObj C s.heap.objs.size) }):
  codeAny (model prog w) A (.call (.ref C) ⟨vs,kw⟩) R s:=by
 obtain⟨hh,g,d,t,os⟩:=s
 exact PySem.W.make_core (PySem.W.makes_of X hm) (PySem.W.looks_findIn X hi) (fun self=>PySem.W.bind_fn X self hf) (.inl rfl) h
end
def c9(f:Str)(v:V):List (Str×V)→List (Str×V)
 | []=>[(f,v)]
 | (g,x)::r=>if g=f then (g,v)::r else (g,x)::c9 f v r
theorem aK(f g:Str)(v:V):∀fs:List (Str×V),(c9 f v fs).lookup g=if g=f then some v else fs.lookup g
 | []=>by
   show List.lookup g [(f,v)]=_
   by_cases h:g=f
   ·have hb:(g==f)=true:=beq_iff_eq.mpr h
    simp only [List.lookup,hb,if_pos h]
   ·have hb:(g==f)=false:=beq_eq_false_iff_ne.mpr h
    simp only [List.lookup,hb,if_neg h]
 | (k,x)::r=>by
   have ih:=aK f g v r
   rw[show c9 f v ((k,x)::r)=(if k=f then (k,v)::r else (k,x)::c9 f v r) from rfl]
   by_cases hk:k=f
   ·rw[if_pos hk]
    by_cases h:g=k
    ·have hb:(g==k)=true:=beq_iff_eq.mpr h
     simp only [List.lookup,hb,if_pos (h.trans hk)]
    ·have hb:(g==k)=false:=beq_eq_false_iff_ne.mpr h
     simp only [List.lookup,hb,if_neg (fun e:g=f=>h (e.trans hk.symm))]
   ·rw[if_neg hk]
    by_cases h:g=k
    ·have hb:(g==k)=true:=beq_iff_eq.mpr h
     simp only [List.lookup,hb,if_neg (fun e:g=f=>hk (h.symm.trans e))]
    ·have hb:(g==k)=false:=beq_eq_false_iff_ne.mpr h
     simp only [List.lookup,hb]
     exact ih
theorem gE(f:Str)(v:V):∀fs:List (Str×V),f∈(c9 f v fs).map (·.1)∧∀g,g∈fs.map (·.1)→g∈(c9 f v fs).map (·.1)
 | []=>⟨by simp [c9],fun g h=>by simp at h⟩
 | (k,x)::r=>by
   obtain⟨i1,i2⟩:=gE f v r
   rw[show c9 f v ((k,x)::r)=(if k=f then (k,v)::r else (k,x)::c9 f v r) from rfl]
   by_cases hk:k=f
   ·rw[if_pos hk]
    subst hk
    exact⟨by simp,fun g h=>by simpa using h⟩
   ·rw[if_neg hk]
    refine⟨?_,fun g h=>?_⟩
    ·rw[List.map_cons]
     exact List.mem_cons_of_mem _ i1
    ·rw[List.map_cons] at h ⊢
     rcases List.mem_cons.mp h with e|e
     ·exact List.mem_cons.mpr (.inl e)
     ·exact List.mem_cons_of_mem _ (i2 g e)
theorem lR(f:Str)(v:V):∀fs:List (Str×V),(c9 f v fs).length≤fs.length+1
 | []=>by simp [c9]
 | (k,x)::r=>by
   have ih:=lR f v r
   rw[show c9 f v ((k,x)::r)=(if k=f then (k,v)::r else (k,x)::c9 f v r) from rfl]
   by_cases hk:k=f
   ·rw[if_pos hk,List.length_cons,List.length_cons];omega
   ·rw[if_neg hk,List.length_cons,List.length_cons];omega
theorem fP.some_of{v:V}{o:Option Value}(r:fP (some v) o):∃u,o=some u∧RelV v u:=by
 cases o with
 |none=>exact(show False from r).elim
 |some u=>exact⟨u,rfl,r⟩
theorem fP.none_of{o:Option Value}(r:fP none o):o=none:=by
 cases o with
 |none=>rfl
 |some u=>exact(show False from r).elim
theorem pz{v:V}{u:Value}(r:RelV v u):PySem.W.handedIn u=true:=by
 cases v with
 |cn=>cases (show u=Value.none from r);rfl
 |bl b=>cases (show u=Value.bool b from r);rfl
 |int i=>obtain⟨t,e⟩:=(show∃t,u=Value.int i t from r);cases e;rfl
 |str x=>obtain⟨t,e⟩:=(show∃t,u=Value.str x t from r);cases e;rfl
 |vt b=>obtain⟨t,e⟩:=(show∃t,u=Value.bytes b t from r);cases e;rfl
 |F9 b=>obtain⟨t,e⟩:=(show∃t,u=Value.float b t from r);cases e;rfl
 |ref a=>cases (show u=Value.ref a from r);rfl
 |ty n=>cases (show u=Value.type n from r);rfl
section
variable {P:Program}{w:World}{H H':Hp}{h h':Heap}{a C dx:Addr}{fs DO:List (Str×V)}
theorem mv(bq:ix P w H h)(e:H a=some (.ins C dx fs)):∃mA,vD h a dx C mA∧(∀f,fP (fs.lookup f) (mA f))∧PySem.Within mA (fs.map (·.1))∧fs.length≤1000∧H dx=some (.own a):=by
 obtain⟨d,z,ne,ob,mA,n,r,q⟩:=(show bQ P w H h a (.ins C dx fs) from bq a _ e)
 exact⟨mA,⟨ob,n,ne⟩,r,q,z,d⟩
end
structure qy(K:PySem.W.Frag)(C:Addr):Prop where
 pg:PySem.W.plainGet K C Str.empty=true
 hd:PySem.W.hasDictIn K C=true
 po:PySem.W.plainOver K C=true
 sa:PySem.W.findIn K (.ref C) "__setattr__" =some (some (.builtin "object.__setattr__"))
theorem qy.get{K:PySem.W.Frag}{C:Addr}(c:qy K C)(f:Str):PySem.W.plainGet K C f=true:=c.pg
def cz(K:PySem.W.Frag)(C:Addr)(f:Str):Prop:=PySem.W.findIn K (.ref C) f=some none
theorem cz.K6{K:PySem.W.Frag}{C:Addr}{f:Str}(n:cz K C f):PySem.W.takerIn K C f=some none:=by
 unfold PySem.W.takerIn
 rw[show PySem.W.findIn K (.ref C) f=some none from n]
 rfl
structure Meth(K:PySem.W.Frag)(C:Addr)(m:Str)(f:Addr):Prop where
 at_:PySem.W.findIn K (.ref C) m=some (some (.ref f))
 fn:PySem.W.isFn K (.ref f)=true
 kp:PySem.W.keepIn K (.ref f)=true
section
variable {X:Cx}{pins:List (Addr×Obj)}{σ:St}{H:Hp}{s:Shared}{a C dx:Addr}{fs:List (Str×V)}{f:Str}{v:V}{A:Around}{E:Value→Shared→Prop}
theorem nH{b:Bool}{Q:Value→Shared→Prop}(I:Inv X pins σ H s)(e:H a=some (.ins C dx fs))(c:qy X.K C)(n:cz X.K C f)(l:fs.lookup f=some v)
  (h:∀u s',Inv X pins σ H s'→RelV v u→Q u s'):wpAny (model X.prog X.w) A (getAttr (.ref a) f b) Q E s:=by
 obtain⟨mA,O,r,_,_,_⟩:=mv I.bq e
 obtain⟨u,hu,ru⟩:=fP.some_of (v:=v) (o:=mA f) (by rw[←l];exact r f)
 exact get_map I.fQ O (c.get f) c.hd n hu (pz ru) (h u _ (I.tok _) ru)
theorem jM{m:Str}{g:Addr}{pl:Sem Bool}{Q:Value×List Value→Shared→Prop}(I:Inv X pins σ H s)(e:H a=some (.ins C dx fs))(c:qy X.K C)(k:Meth X.K C m g)(l:fs.lookup m=none)
  (h:Q (.ref g,[.ref a]) s):wpAny (model X.prog X.w) A (getMethod (.ref a) m pl) Q E s:=by
 obtain⟨mA,O,r,_,_,_⟩:=mv I.bq e
 have hn:mA m=none:=fP.none_of (by rw[←l];exact r m)
 exact A1 I.fQ O (c.get m) k.at_ k.fn hn h
theorem nI{y:V}{u:Value}{Q:Unit→Shared→Prop}(I:Inv X pins σ H s)(e:H a=some (.ins C dx fs))(c:qy X.K C)(n:cz X.K C f)(hl:fs.length<1000)(ry:RelV y u)
  (h:∀s',Inv X pins σ (upd H a (.ins C dx (c9 f y fs))) s'→Q () s'):wpAny (model X.prog X.w) A (setAttr (.ref a) f u) Q E s:=by
 obtain⟨mA,O,r,wi,_,ho⟩:=mv I.bq e
 have hz:(fs.map (·.1)).length≤sizeLine:=by rw[List.length_map,sizeLine_eq];omega
 refine DX I.fQ O c.sa c.po n.K6 c.hd wi hz fun h' O' sb=>h _ ?_
 have hd:∃o,h'.get? dx=some o:=let ⟨o,_,_,e',_⟩:=O'.ns;⟨o,e'⟩
 refine I.write (x:=a) (e:=dx) (by rw[e];exact True.intro) (.inr ho) (fun b q hb z=>(sb.2 b hb).trans z) hd ?_
 refine⟨by rw[ao O.ne];exact ho,?_,O.ne,O'.obj,_,O'.ns,fun g=>?_,fun g hg=>?_⟩
 ·have:=lR f y fs;omega
 ·show fP ((c9 f y fs).lookup g) (if g=f then some u else mA g)
  rw[aK]
  by_cases q:g=f
  ·rw[if_pos q,if_pos q];exact ry
  ·rw[if_neg q,if_neg q];exact r g
 ·by_cases q:g=f
  ·rw[q];exact(gE f y fs).1
  ·refine(gE f y fs).2 g (wi g fun z=>hg ?_)
   show (if g=f then some u else mA g)=none
   rw[if_neg q];exact z
theorem Inv.made(I:Inv X pins σ H s):Inv X pins σ (upd (upd H s.heap.objs.size (.own (s.heap.objs.size+1))) (s.heap.objs.size+1) (.ins C s.heap.objs.size []))
  { s with heap:=(s.heap.push PySem.W.emptyDict).push (PySem.W.instObj C s.heap.objs.size) }:=by
 have e1:(s.heap.push PySem.W.emptyDict).get? s.heap.objs.size=some PySem.W.emptyDict:=Heap.get?_push_size s.heap rfl
 have e2:((s.heap.push PySem.W.emptyDict).push (PySem.W.instObj C s.heap.objs.size)).get? (s.heap.objs.size+1)=some (PySem.W.instObj C s.heap.objs.size):=by
  have:=Heap.get?_push_size (s.heap.push PySem.W.emptyDict) (o:=PySem.W.instObj C s.heap.objs.size) rfl
  rwa [Heap.size_push] at this
 have e3:(s.heap.push PySem.W.emptyDict).Ns s.heap.objs.size (fun _=>none):=⟨PySem.W.emptyDict,#[],_,e1,rfl,(fun e he=>absurd he (by simp)),fun _=>rfl⟩
 have I1:=I.laid (a:=s.heap.objs.size) (o:= .own (s.heap.objs.size+1)) (h':=s.heap.push PySem.W.emptyDict) (t':=s.toks) (fun b u q=>Heap.get?_push_of_some _ q) (Nat.le_refl _) ⟨_,e1⟩
 refine I1.laid (a:=s.heap.objs.size+1) (o:= .ins C s.heap.objs.size []) (t':=s.toks) (fun b u q=>Heap.get?_push_of_some _ q) (Nat.le_of_eq (Heap.size_push _ _)) ?_
 have ne:s.heap.objs.size≠s.heap.objs.size+1:=Nat.ne_of_lt (Nat.lt_succ_self _)
 refine⟨by rw[ao ne,ag],Nat.zero_le _,ne,e2,fun _=>none,(Heap.Ns1.of_empty e3).at fun o q=>Heap.get?_push_of_some _ q,fun _=>True.intro,fun y hy=>absurd rfl hy⟩
theorem xu{prog:Program}{w:World}{env:Env}{e:Expr}{f:Str}{pos:Pos}{s:Shared}{Q:Value→Shared→Prop}(hb:attributeBase e f env (eval e env)=eval e env)
  (h:wpAny (model prog w) A (eval e env) (fun o s₁=>wpAny (model prog w) A (getAttr o f true) Q E s₁) E s):wpAny (model prog w) A (eval (.Attribute e f pos) env) Q E s:=
 Attribute_any_ h (by rw[arm_eval_Attribute,hb])
end
def Q8(K:PySem.W.Frag)(ta:TE)(f:Str):TE:=fun σ H Q=>ta σ H fun x H1=>∃a C dx fs v,x= .ref a∧H1 a=some (.ins C dx fs)∧qy K C∧cz K C f∧fs.lookup f=some v∧Q v H1
def Q9(K:PySem.W.Frag)(ta tv:TE)(f:Str):TS:=fun D σ H=>tv σ H fun y H1=>ta σ H1 fun x H2=>∃a C dx fs,x= .ref a∧H2 a=some (.ins C dx fs)∧qy K C∧cz K C f∧fs.length<1000∧
 D.nx σ (upd H2 a (.ins C dx (c9 f y fs)))
def K7(X:Cx)(op:Operator)(rd:V→V→Hp→VK→Prop):Prop:=
 ∀(pins:List (Addr×Obj)) (s:Shared) (σ:St) (H:Hp) (x y:V) (u v:Value) (Q:VK),Inv X pins σ H s→RelV x u→RelV y v→rd x y H Q→wpAny (model X.prog X.w) X.A (inplaceOp op u v) (EP X pins σ Q) X.xe s
def DZ(K:PySem.W.Frag)(ta tv:TE)(rd:V→V→Hp→VK→Prop)(f:Str):TS:=fun D σ H=>ta σ H fun x H1=>∃a C dx fs v,x= .ref a∧H1 a=some (.ins C dx fs)∧qy K C∧cz K C f∧fs.lookup f=some v∧
 tv σ H1 fun y H2=>rd v y H2 fun z H3=>∃cX DO,H3 a=some (.ins C cX DO)∧DO.length<1000∧D.nx σ (upd H3 a (.ins C cX (c9 f z DO)))
section
variable {X:Cx}{o e value:Expr}{f:Str}{pos pos' K8:Pos}{ta tv:TE}
theorem bz(he:PE X e ta)(hb:attributeBase e f X.env (eval e X.env)=eval e X.env):PE X (.Attribute e f pos) (Q8 X.K ta f):=by
 intro pins s σ H Q I h
 refine xu hb (bU (he pins s σ H _ I h) fun u s1 ⟨x,H1,I1,rx,a,C,dx,fs,v,ex,ea,c,n,l,q⟩=>?_)
 subst ex
 obtain rfl:u=Value.ref a:=rx
 exact nH I1 ea c n l fun u' s2 I2 ru=>⟨v,H1,I2,ru,q⟩
theorem eQ(ha:PE X o ta)(hv:PE X value tv)(hs:swapsWith value (some (.Attribute o f pos')) pos.line X.env=pure false):PS X (.Assign [.Attribute o f pos'] value pos) (Q9 X.K ta tv f):=by
 intro pins s σ H D I h
 refine plainObj_wpAny_Assign_Attribute (bU (hv pins s σ H _ I h) fun u s1 ⟨y,H1,I1,ry,q⟩=>bU (ha pins s1 σ H1 _ I1 q) fun ov s2 ⟨x,H2,I2,rx,a,C,dx,fs,ex,ea,c,n,l,q2⟩=>?_) hs
 subst ex
 obtain rfl:ov=Value.ref a:=rx
 exact nI I2 ea c n l ry fun s3 I3=>⟨σ,_,I3,q2⟩
theorem ja{op:Operator}{rd:V→V→Hp→VK→Prop}(ha:PE X o ta)(hv:PE X value tv)(Yz:K7 X op rd):PS X (.AugAssign (.Attribute o f K8) op value pos) (DZ X.K ta tv rd f):=by
 intro pins s σ H D I h
 refine wpAny_AugAssign_AttributeAny (bU (ha pins s σ H _ I h) fun ov s1 ⟨x,H1,I1,rx,a,C,dx,fs,v,ex,ea,c,n,l,q⟩=>?_)
 subst ex
 obtain rfl:ov=Value.ref a:=rx
 refine nH I1 ea c n l fun u s2 I2 ru=>bU (hv pins s2 σ H1 _ I2 q) fun w3 s3 ⟨y,H2,I3,ry,q3⟩=>bU (Yz pins s3 σ H2 v y u w3 _ I3 ru ry q3) fun w4 s4 ⟨z,H3,I4,rz,cX,DO,YA,l',q4⟩=>?_
 exact nI I4 YA c n l' rz fun s5 I5=>⟨σ,_,I5,q4⟩
def Ra:V→V→Hp→VK→Prop:=fun x y H Q=>∃i j,x= .int i∧y= .int j∧Q (.int (i+j)) H
theorem qz:K7 X .Add Ra:=by
 rintro pins s σ H x y u v Q I rx ry ⟨i,j,rfl,rfl,q⟩
 obtain⟨t,rfl⟩:=(show∃t,u=Value.int i t from rx)
 obtain⟨t',rfl⟩:=(show∃t',v=Value.int j t' from ry)
 exact PyProof.Rows.iadd_int ⟨.int (i+j),H,I.tok _,⟨_,rfl⟩,q⟩
end
section
variable {X:Cx}{pins:List (Addr×Obj)}{σ:St}{H:Hp}{s:Shared}{A:Around}{E:Value→Shared→Prop}{Q:Value→Shared→Prop}{c:Value}{b:Bool}
inductive lq(K:PySem.W.Frag)(H:Hp):V→Value→Prop where
 |cn:lq K H .cn (.type "NoneType")
 |bl (x:Bool):lq K H (.bl x) (.type "bool")
 |int (i:Int):lq K H (.int i) (.type "int")
 |str (x:Str):lq K H (.str x) (.type "str")
 |F9 (x:UInt64):lq K H (.F9 x) (.type "float")
 |lst {a:Addr} {xs:List V} (e:H a=some (.lst xs)):lq K H (.ref a) (.type "list")
 |kY {a:Addr} {o:Obj} {xs:List V} (e:H a=some (.kY o (.lst xs))):lq K H (.ref a) (.type "list")
 |tup {a:Addr} {xs:List V} (e:H a=some (.tup xs)):lq K H (.ref a) (.type "tuple")
 |dK {a:Addr} {kvs:List (Key×V)} (e:H a=some (.dK kvs)):lq K H (.ref a) (.type "dict")
 |dT {a:Addr} {kvs:List (List Key×V)} (e:H a=some (.dT kvs)):lq K H (.ref a) (.type "dict")
 |ins {a C dx:Addr} {fs:List (Str×V)} (e:H a=some (.ins C dx fs)) (cl:qy K C) (ha:PySem.W.findIn K (.ref C) "__class__" =some (some (.builtin "object.__class__")))
   (hn:PySem.W.specialIn K (.builtin "object.__class__") "__get__" =some (some (.builtin "getset_descriptor.__get__"))) (P5:PySem.W.takesIn K (.builtin "object.__class__")=some true)
   (hm:PySem.W.mroIn K C (.type "object")=some true):lq K H (.ref a) (.ref C)
theorem zg{x:V}{u t:Value}(I:Inv X pins σ H s)(rx:RelV x u)(ty:lq X.K H x t)(e:PySem.W.kitOne X.K t c=some b)(h:∀tk,Q (.bool b) { s with toks:=tk }):
  wpAny (model X.prog X.w) A (call (.builtin "isinstance") [u,c]) Q E s:=by
 cases ty with
 |cn=>cases (show u=Value.none from rx);exact PySem.W.kia_one PySem.W.kitx_none I.fQ True.intro e (fun z=>nomatch z) h
 |bl y=>cases (show u=Value.bool y from rx);exact PySem.W.kia_one PySem.W.kitx_bool I.fQ True.intro e (fun z=>nomatch z) h
 |int i=>obtain⟨t,q⟩:=(show∃t,u=Value.int i t from rx);cases q;exact PySem.W.kia_one PySem.W.kitx_int I.fQ True.intro e (fun z=>nomatch z) h
 |str y=>obtain⟨t,q⟩:=(show∃t,u=Value.str y t from rx);cases q;exact PySem.W.kia_one PySem.W.kitx_str I.fQ True.intro e (fun z=>nomatch z) h
 |F9 y=>obtain⟨t,q⟩:=(show∃t,u=Value.float y t from rx);cases q;exact PySem.W.kia_one PySem.W.kitx_float I.fQ True.intro e (fun z=>nomatch z) h
 | @lst a xs ea=>
   cases (show u=Value.ref a from rx)
   obtain⟨_,_,n,_,h1⟩:=(show bQ X.prog X.w H s.heap a (.lst xs) from I.bq a _ ea)
   exact PySem.W.kia_one PySem.W.kitx_list I.fQ ⟨_,h1,rfl⟩ e (fun z=>nomatch z) h
 | @kY a ob xs ea=>
   cases (show u=Value.ref a from rx)
   obtain⟨_,_,_,n,_,h1⟩:=(show bQ X.prog X.w H s.heap a (.kY ob (.lst xs)) from I.bq a _ ea)
   exact PySem.W.kia_one PySem.W.kitx_list I.fQ ⟨_,h1,rfl⟩ e (fun z=>nomatch z) h
 | @tup a xs ea=>
   cases (show u=Value.ref a from rx)
   obtain⟨_,_,_,p⟩:=(show bQ X.prog X.w H s.heap a (.tup xs) from I.bq a _ ea)
   obtain⟨o,h1,h2,_⟩:=p
   exact PySem.W.kia_one PySem.W.kitx_tuple I.fQ ⟨o,h1,h2⟩ e (fun z=>nomatch z) h
 | @dK a kvs ea=>
   cases (show u=Value.ref a from rx)
   obtain⟨_,_,vs,_,p⟩:=(show bQ X.prog X.w H s.heap a (.dK kvs) from I.bq a _ ea)
   obtain⟨o,es,ep,h1,h2,_⟩:=p
   exact PySem.W.kia_one PySem.W.kitx_dict I.fQ ⟨o,h1,h2.1⟩ e (fun z=>nomatch z) h
 | @dT a kvs ea=>
   cases (show u=Value.ref a from rx)
   obtain⟨_,_,xs,_,o,es,ep,h1,h2,_⟩:=(show bQ X.prog X.w H s.heap a (.dT kvs) from I.bq a _ ea)
   exact PySem.W.kia_one PySem.W.kitx_dict I.fQ ⟨o,h1,h2.1⟩ e (fun z=>nomatch z) h
 | @ins a C dx fs ea cl ha hn P5 hm=>
   cases (show u=Value.ref a from rx)
   obtain⟨mA,O,_⟩:=mv I.bq ea
   obtain⟨od,J,_⟩:=O.look
   exact PySem.W.kia_one (PySem.W.kitx_own (cl.get _) cl.hd ha hn P5 hm) I.fQ J e (fun z=>nomatch z) h
end
end L2
namespace L2
open PySem PySem.Spec PyProof.Rows
structure b8(k:Nat)(A:Around):Prop where
 hd:A.handled=none
 dp:A.depth+3*k+5<recursionLimit
 un:A.units+16*k+200<cLine
theorem b8.mono{j k:Nat}{A:Around}(r:b8 k A)(h:j≤k):b8 j A:=⟨r.hd,by have:=r.dp;omega,by have:=r.un;omega⟩
theorem b8.deeper{k:Nat}{A:Around}(r:b8 (k+1) A)(env:Env):b8 k (A.deeper env):=
 ⟨r.hd,by have:=r.dp;show A.depth+1+3*k+5<_;omega,by have:=r.un;show A.units+3+16*k+200<_;omega⟩
theorem vE{A:Around}{C:Addr}{us:List Value}{kw:List (Str×Value)}:(A.under (.builtin "type.__call__" ⟨.ref C::us,kw⟩)).depth=A.depth+1:=by
 first|rfl|simp [Around.under,Code.weight,Code.isCreation,Code.isGuard,Code.isCaller,Code.frames,Code.isFrame,guardIds]
theorem vF{A:Around}{C:Addr}{us:List Value}{kw:List (Str×Value)}:(A.under (.builtin "type.__call__" ⟨.ref C::us,kw⟩)).units=A.units+1:=by
 first|rfl|simp [Around.under,Code.cUnits,Code.frames,Code.isFrame]
theorem b8.make{k:Nat}{A:Around}(r:b8 (k+1) A)(C:Addr)(us:List Value)(kw:List (Str×Value)):b8 k (A.under (.builtin "type.__call__" ⟨.ref C::us,kw⟩)):=
 ⟨r.hd,by have:=r.dp;rw[vE];omega,by have:=r.un;rw[vF];omega⟩
theorem b8.depth{k:Nat}{A:Around}(r:b8 k A):A.depth<recursionLimit:=by have:=r.dp;omega
theorem b8.units{k:Nat}{A:Around}(r:b8 k A):A.units+64<cLine:=by have:=r.un;omega
theorem b8.vG{k:Nat}{A:Around}(r:b8 k A):A.units<cLine:=by have:=r.un;omega
def Hx:TA:=fun _ H Q=>Q [] H
def K9(ta:TE)(tr:TA):TA:=fun σ H Q=>ta σ H fun x H1=>tr σ H1 fun xs H2=>Q (x::xs) H2
section
variable {X:Cx}{e:Expr}{es:List Expr}{te:TE}{t:TA}{pos:Pos}
theorem ah:PA X [] Hx:=fun _ _ _ _ H Q I h=>Calls.spliced_nil ⟨[],H,I, .nil,h⟩
theorem aa(ha:PE X e te)(hr:PA X es t)(hs:starEach (e::es) X.env=(false,eval e X.env)::starEach es X.env:=by rfl):PA X (e::es) (K9 te t):=by
 intro pos pins s σ H Q I h
 rw[hs]
 show wpAny _ _ (spliced ((false,eval e X.env)::backTo pos (starEach es X.env))) _ _ s
 refine Calls.spliced_cons (bU (ha pins s σ H _ I h) fun u s1 ⟨x,H1,I1,r1,q1⟩=>?_)
 exact bU (hr pos pins s1 σ H1 _ I1 q1) fun us s2 ⟨xs,H2,I2,r2,q2⟩=>⟨x::xs,H2,I2, .cons r1 r2,q2⟩
def Rb(t:TA):TE:=fun σ H Q=>t σ H fun xs H1=>xs.length≤sizeLine∧∀p,H1 p=none→Q (.ref p) (upd H1 p (.tup xs))
def Rc(t:TA):TE:=fun σ H Q=>t σ H fun xs H1=>xs.length≤sizeLine∧∀p,H1 p=none→Q (.ref p) (upd H1 p (.lst xs))
theorem b9{x1}(h:PA X es t):PE X (.Tuple es x1 pos) (Rb t):=by
 intro pins s σ H Q I hq
 refine wpAny_Tuple_spliced (bU (h pos pins s σ H _ I hq) fun us s1 ⟨xs,H1,I1,r,z,q⟩=>⟨by rw[←r.length];exact z,?_⟩)
 have hf:H1 s1.heap.objs.size=none:=I1.bq.fresh (Nat.le_refl _)
 refine⟨.ref s1.heap.objs.size,upd H1 s1.heap.objs.size (.tup xs),I1.laid (t':=s1.toks) (fun b u e=>Heap.get?_push_of_some _ e) (Nat.le_refl _) ?_,rfl,q _ hf⟩
 exact⟨z,us,r,⟨_,Heap.get?_push_size _ rfl,rfl,_,rfl⟩⟩
theorem cf(h:PA X es t):PE X (.List es pos) (Rc t):=by
 intro pins s σ H Q I hq
 refine wpAny_List_spliced (bU (h pos pins s σ H _ I hq) fun us s1 ⟨xs,H1,I1,r,z,q⟩=>⟨by rw[←r.length];exact z,?_⟩)
 have hf:H1 s1.heap.objs.size=none:=I1.bq.fresh (Nat.le_refl _)
 refine⟨.ref s1.heap.objs.size,upd H1 s1.heap.objs.size (.lst xs),I1.laid (t':=s1.toks) (fun b u e=>Heap.get?_push_of_some _ e) (Nat.le_refl _) ?_,rfl,q _ hf⟩
 exact⟨z,us,0,r,Heap.get?_push_size _ rfl⟩
end
abbrev Sp:=List V→Hp→VK→XK→Prop
abbrev AA:=List Env→Hp→Shared→XK→Value→Shared→Prop
structure qA(P:Program)(w:World)(K:PySem.W.Frag)(mg:Str→Option Value)(base:Heap)(A:Around)(outer:List Env)(s:Shared)(H:Hp):Prop where
 frames:A.frames=some outer
 mod:Mod K mg base
 bs:∀b o,base.get? b=some o→s.heap.get? b=some o∧H b=none
 xn:base.objs.size≤s.heap.objs.size
 iy:s.heap.FunFrames base outer
 Aw:∀b∈oU outer,H b=none
 bq:ix P w H s.heap
 bare:AllBare s.gens
def CE(outer:List Env)(P:Program)(w:World)(H:Hp)(s:Shared)(Q:VK)(u:Value)(s':Shared):Prop:=
 ∃v H',s'.os=s.os∧AllBare s'.gens∧Un (oU outer) [] H H' s.heap s'.heap∧ix P w H' s'.heap∧RelV v u∧Q v H'
def CR(CX:AA)(outer:List Env)(P:Program)(w:World)(H:Hp)(s:Shared)(Q:VK)(E:XK)(r:Result)(s':Shared):Prop:=
 match r with
 | .ok (.ret u)=>CE outer P w H s Q u s'
 | .ok _=>False
 | .error e=>CX outer H s E e s'
structure eD(P:Program)(w:World)(K:PySem.W.Frag)(mg:Str→Option Value)(base:Heap)(CX:AA)(k:Nat)(f:Addr)(fd:FuncData)(ps:List Str)(sp:Sp):Prop where
 len:∀vs H Q E,sp vs H Q E→vs.length=ps.length
 run:∀(A:Around) (outer:List Env) (s:Shared) (H:Hp) (args:Args) (us:List Value) (vs:List V) (Q:VK) (E:XK),b8 k A→qA P w K mg base A outer s H→BindsTo s fd args (ps.zip us)→Vals vs us→sp vs H Q E→
  codeAny (model P w) A (.call (.ref f) args) (CR CX outer P w H s Q E) s
theorem qA.make{P:Program}{w:World}{K:PySem.W.Frag}{mg:Str→Option Value}{base:Heap}{A:Around}{outer:List Env}{s:Shared}{H:Hp}(e:qA P w K mg base A outer s H)(C:Addr)(us:List Value)(kw:List (Str×Value)):
  qA P w K mg base (A.under (.builtin "type.__call__" ⟨.ref C::us,kw⟩)) outer s H:=⟨by first|exact e.frames| (simpa [Around.under,Code.envs,Code.isFrame,pushEnvs] using e.frames),e.mod,e.bs,e.xn,e.iy,e.Aw,e.bq,e.bare⟩
section
variable {X:Cx}{pins:List (Addr×Obj)}{σ:St}{H:Hp}{s s':Shared}
theorem Inv.A3(I:Inv X pins σ H s):qA X.prog X.w X.K X.mg X.base X.A X.stack s H:=
 ⟨I.ok.frames,I.ok.mod,I.bs,Nat.le_trans I.ok.xn I.sz,I.stack,I.qv,I.bq,I.bare⟩
theorem Inv.after{Q:VK}{u:Value}(I:Inv X pins σ H s)(h:CE X.stack X.prog X.w H s Q u s'):EP X pins σ Q u s':=by
 obtain⟨v,H',os,bare,un,bq,r,q⟩:=h
 obtain⟨hh,g,d,t,YB⟩:=s'
 obtain rfl:YB=s.os:=os
 exact⟨v,H',I.call (h':=hh) (g':=g) (d':=d) (t':=t) (ch:=[]) un bq bare (fun b z=>absurd z (by simp)),r,q⟩
end
def K'(sp:Sp)(jb:List V)(E:XK)(t:TA):TE:=fun σ H Q=>t σ H fun vs H1=>sp (vs++jb) H1 Q E
def La(C:Addr)(m:Str)(sp:Sp)(jb:List V)(E:XK)(ta:TE)(t:TA):TE:=fun σ H Q=>ta σ H fun x H1=>∃a dx fs,x= .ref a∧H1 a=some (.ins C dx fs)∧fs.lookup m=none∧
 t σ H1 fun vs H2=>sp (x::(vs++jb)) H2 Q E
def Lb(C:Addr)(sp:Sp)(jb:List V)(E:XK)(t:TA):TE:=fun σ H Q=>t σ H fun vs H1=>∀x dx,H1 x=none→H1 dx=none→dx≠x→
 sp (.ref x::(vs++jb)) (upd (upd H1 dx (.own x)) x (.ins C dx [])) (fun v H2=>v= .cn∧Q (.ref x) H2) E
def Binds(K:PySem.W.Frag)(fd:FuncData)(ps:List Str)(ds:List Value):Prop:=
 ∀(s:Shared) (us:List Value),K.In s.heap→(us++ds).length=ps.length→BindsTo s fd ⟨us,[]⟩ (ps.zip (us++ds))
theorem Binds.all{K:PySem.W.Frag}{fd:FuncData}{ps:List Str}(h:∀us:List Value,us.length=ps.length→bindArgs fd ⟨us,[]⟩=pure (ps.zip us)):Binds K fd ps []:=fun s us _ hl=>by
 rw[List.append_nil] at hl ⊢
 exact .of_eq (h us hl)
def Passes(CX:AA)(X:Cx)(E:XK):Prop:=∀(pins:List (Addr×Obj)) (σ:St) (H:Hp) (s:Shared) (e:Value) (s':Shared),Inv X pins σ H s→CX X.stack H s E e s'→X.xe e s'
section
variable {X:Cx}{CX:AA}{k:Nat}{f C:Addr}{fd:FuncData}{ps:List Str}{sp:Sp}{jb:List V}{ds:List Value}{E:XK}{x m:Str}{p pos apos:Pos}{e o:Expr}{es:List Expr}{ta:TE}{t:TA}
theorem A4{pins:List (Addr×Obj)}{σ:St}{H:Hp}{s:Shared}{Q:VK}{us:List Value}{vs:List V}(F:eD X.prog X.w X.K X.mg X.base CX k f fd ps sp)(hr:b8 k X.A)(hb:Binds X.K fd ps ds)(hd:Vals jb ds)(hx:Passes CX X E)
  (I:Inv X pins σ H s) (r:Vals vs us) (h:sp (vs++jb) H Q E):wpAny (model X.prog X.w) X.A (call (.ref f) us) (EP X pins σ Q) X.xe s:=by
 have r2:Vals (vs++jb) (us++ds):=r.append hd
 have hl:(us++ds).length=ps.length:=by rw[←r2.length];exact F.len _ _ _ _ h
 refine wpAny_call (codeAny_mono (F.run X.A X.stack s H ⟨us,[]⟩ (us++ds) (vs++jb) Q E hr I.A3 (hb s us I.fQ hl) r2 h) fun r s' hq=>?_)
 cases r with
 |error e=>exact hx pins σ H s e s' I hq
 |ok fl=>
  cases fl with
  |ret u=>exact I.after hq
  |next=>exact False.elim hq
  |brk=>exact False.elim hq
  |cont=>exact False.elim hq
theorem aM(F:eD X.prog X.w X.K X.mg X.base CX k f fd ps sp)(hr:b8 k X.A)(hg:Gl X x)(hm:X.mg x=some (.ref f))(hk:PySem.W.keepIn X.K (.ref f)=true)(hb:Binds X.K fd ps ds)(hd:Vals jb ds)(hx:Passes CX X E)
  (ha:PA X (e::es) t) (zh:(x==("__debug__" :Str))=false:=by decide) (he:starEach (e::es) X.env=(false,eval e X.env)::starEach es X.env:=by rfl) (mf:(backTo pos (starEach es X.env)).any (·.1)=false:=by rfl):
  PE X (.Call (.Name x p) (e::es) [] pos) (K' sp jb E t):=by
 intro pins s σ H Q I h
 refine wpAny_Call_Name_kw (eV I hg hm ?_ zh)
 refine PySem.W.callWith_K (h₀:=X.base) I.ok.mod.DR hk (bU (ha pos pins s σ H _ I h) fun us s1 ⟨vs,H1,I1,r,q⟩=>⟨I1.fQ,?_⟩) he mf
 exact A4 F hr hb hd hx I1 r q
theorem bJ{pl:Sem Bool}(he:PE X o ta)(c:qy X.K C)(hm:Meth X.K C m f)(F:eD X.prog X.w X.K X.mg X.base CX k f fd ps sp)(hr:b8 k X.A)(hb:Binds X.K fd ps ds)(hd:Vals jb ds)(hx:Passes CX X E)
  (ht:eval (.Call (.Attribute o m apos) [] [] pos) X.env=(do
   let ov←eval o X.env
   standAt apos.atName
   let (f,first)←holding [ov] (getMethod ov m pl)
   callWith pos f first (backTo pos (starEach [] X.env)) (backToKw pos (keywordEach [] X.env))):=by rfl):
  PE X (.Call (.Attribute o m apos) [] [] pos) (La C m sp jb E ta Hx):=by
 intro pins s σ H Q I h
 refine PySem.W.methodCall_KW (pl:=pl) (bU (he pins s σ H _ I h) fun u s1 ⟨x,H1,I1,rx,a,dx,fs,ex,ea,l,q⟩=>?_) ht
 subst ex
 obtain rfl:u=Value.ref a:=rx
 refine jM I1 ea c hm l ?_
 exact PySem.W.callWith_K0 (first:=[.ref a]) I1.fQ hm.kp (A4 (us:=[.ref a]) (vs:=[.ref a]) F hr hb hd hx I1 (.cons rfl .nil) q)
structure Mk(K:PySem.W.Frag)(C f:Addr):Prop where
 makes:PySem.W.makesIn K C=true
 init:PySem.W.findIn K (.ref C) "__init__" =some (some (.ref f))
 fn:PySem.W.isFn K (.ref f)=true
 kp:PySem.W.keepIn K (.ref C)=true
theorem A5{pins:List (Addr×Obj)}{σ:St}{H:Hp}{s:Shared}{Q:VK}{us:List Value}{vs:List V}(M:Mk X.K C f)(F:eD X.prog X.w X.K X.mg X.base CX k f fd ps sp)(hr:b8 (k+1) X.A)(hb:Binds X.K fd ps ds)(hd:Vals jb ds)
  (hx:Passes CX X E) (I:Inv X pins σ H s) (r:Vals vs us)
  (h:∀x dx,H x=none→H dx=none→dx≠x→sp (.ref x::(vs++jb)) (upd (upd H dx (.own x)) x (.ins C dx [])) (fun v H2=>v= .cn∧Q (.ref x) H2) E):
  wpAny (model X.prog X.w) X.A (call (.ref C) us) (EP X pins σ Q) X.xe s:=by
 have hq:=h (s.heap.objs.size+1) s.heap.objs.size (I.bq.fresh (Nat.le_succ _)) (I.bq.fresh (Nat.le_refl _)) (Nat.ne_of_lt (Nat.lt_succ_self _))
 have I2:=Inv.made (C:=C) I
 have r2:Vals (V.ref (s.heap.objs.size+1)::(vs++jb)) (Value.ref (s.heap.objs.size+1)::(us++ds)):= .cons rfl (r.append hd)
 have hl:(Value.ref (s.heap.objs.size+1)::us++ds).length=ps.length:=by
  have e:=r2.length
  rw[F.len _ _ _ _ hq] at e
  exact e.symm
 refine wpAny_call (A2 (f:=f) I.fQ M.makes M.init (beq_iff_eq.mp M.fn) (codeAny_mono (F.run _ X.stack _ _ ⟨Value.ref (s.heap.objs.size+1)::us,[]⟩ (Value.ref (s.heap.objs.size+1)::(us++ds)) _ _ E (hr.make C us [])
  (I2.A3.make C us []) (hb _ (Value.ref (s.heap.objs.size+1)::us) I2.fQ hl) r2 hq) fun r s' iJ=>?_))
 cases r with
 |error e=>exact hx pins σ _ _ e s' I2 iJ
 |ok fl=>
  cases fl with
  |ret u=>
   obtain⟨v,H',I3,rv,ev,q3⟩:=I2.after iJ
   subst ev
   exact⟨rv,⟨V.ref (s.heap.objs.size+1),H',I3,rfl,q3⟩⟩
  |next=>exact False.elim iJ
  |brk=>exact False.elim iJ
  |cont=>exact False.elim iJ
theorem fU(M:Mk X.K C f)(F:eD X.prog X.w X.K X.mg X.base CX k f fd ps sp)(hr:b8 (k+1) X.A)(hg:Gl X x)(hm:X.mg x=some (.ref C))(hb:Binds X.K fd ps ds)(hd:Vals jb ds)(hx:Passes CX X E)
  (ha:PA X (e::es) t) (zh:(x==("__debug__" :Str))=false:=by decide) (he:starEach (e::es) X.env=(false,eval e X.env)::starEach es X.env:=by rfl) (mf:(backTo pos (starEach es X.env)).any (·.1)=false:=by rfl):
  PE X (.Call (.Name x p) (e::es) [] pos) (Lb C sp jb E t):=by
 intro pins s σ H Q I h
 refine wpAny_Call_Name_kw (eV I hg hm ?_ zh)
 refine PySem.W.callWith_K (h₀:=X.base) I.ok.mod.DR M.kp (bU (ha pos pins s σ H _ I h) fun us s1 ⟨vs,H1,I1,r,q⟩=>⟨I1.fQ,?_⟩) he mf
 exact A5 M F hr hb hd hx I1 r q
end
section
variable {X:Cx}{CX:AA}{k:Nat}{f C:Addr}{fd:FuncData}{ps ks:List Str}{sp:Sp}{E:XK}{x m:Str}{p pos apos YC:Pos}{e o:Expr}{es:List Expr}{kws:List Keyword}{te ta:TE}{t tk:TA}{nm:Option Str}
variable {g:List Value→List Value→List Value}{gV:List V→List V→List V}
end
structure ay(N P:List Str)(sc:Scope):Prop where
 kind:sc.kind= .function
 co:sc.isCoroutine=false
 gen:sc.isGenerator=false
 nd:N.Nodup
 pre:N.take P.length=P
 par:∀x∈P,sc.names.lookup x=some .local∨sc.names.lookup x=some .cell
 Hy:∀y∈sc.names,y.2≠ .free
theorem pB{kindOf:Str→Option NameKind}{x:Str}:∀{binds:List (Str×Value)} {m:Str→Option Value},(∀v,(x,v)∉binds)→bindL kindOf binds m x=m x
 | [],_,_=>rfl
 | (n,v)::r,m,h=>by
   unfold bindL
   rw[pB fun w hw=>h w (List.mem_cons_of_mem _ hw)]
   split
   ·have:x≠n:=by rintro rfl;exact h v List.mem_cons_self
    simp [this]
   ·rfl
theorem pD{kindOf:Str→Option NameKind}{x:Str}:∀{binds:List (Str×Value)} {m:Str→Option Value},(∀v,(x,v)∉binds)→bindC kindOf binds m x=m x
 | [],_,_=>rfl
 | (n,v)::r,m,h=>by
   unfold bindC
   rw[pD fun w hw=>h w (List.mem_cons_of_mem _ hw)]
   split
   ·rfl
   ·have:x≠n:=by rintro rfl;exact h v List.mem_cons_self
    simp [this]
theorem pE{kindOf:Str→Option NameKind}{x:Str}{v:Value}:∀{P:List Str} {vs:List Value} {i:Nat} {m:Str→Option Value},P.Nodup→P[i]? =some x→vs[i]? =some v→kindOf x=some .local→
  bindL kindOf (P.zip vs) m x=some v
 | [],_,_,_,_,h,_,_=>by simp at h
 |_::_,[],_,_,_,_,h,_=>by simp at h
 |p::P,w::vs,0,m,nd,h1,h2,hk=>by
  simp at h1 h2;subst h1;subst h2
  show bindL kindOf ((p,w)::P.zip vs) m p=_
  unfold bindL
  rw[pB fun v hv=>(List.nodup_cons.mp nd).1 (List.of_mem_zip hv).1,if_pos hk]
  simp
 |p::P,w::vs,i+1,m,nd,h1,h2,hk=>by
  show bindL kindOf ((p,w)::P.zip vs) m x=_
  unfold bindL
  exact pE (i:=i) (List.nodup_cons.mp nd).2 (by simpa using h1) (by simpa using h2) hk
theorem pF{kindOf:Str→Option NameKind}{x:Str}{v:Value}:∀{P:List Str} {vs:List Value} {i:Nat} {m:Str→Option Value},P.Nodup→P[i]? =some x→vs[i]? =some v→kindOf x≠some .local→
  bindC kindOf (P.zip vs) m x=some v
 | [],_,_,_,_,h,_,_=>by simp at h
 |_::_,[],_,_,_,_,h,_=>by simp at h
 |p::P,w::vs,0,m,nd,h1,h2,hk=>by
  simp at h1 h2;subst h1;subst h2
  show bindC kindOf ((p,w)::P.zip vs) m p=_
  unfold bindC
  rw[pD fun v hv=>(List.nodup_cons.mp nd).1 (List.of_mem_zip hv).1,if_neg hk]
  simp
 |p::P,w::vs,i+1,m,nd,h1,h2,hk=>by
  show bindC kindOf ((p,w)::P.zip vs) m x=_
  unfold bindC
  exact pF (i:=i) (List.nodup_cons.mp nd).2 (by simpa using h1) (by simpa using h2) hk
def start(N:List Str)(vs:List V):St:=vs.map some++List.replicate (N.length - vs.length) none
def fR(CX:AA)(P:Program)(w:World)(K:PySem.W.Frag)(mg:Str→Option Value)(base:Heap)(N:List Str)(qual:Str)(scope:Scope)(f:Addr)(cd:Value)(A:Around)(outer:List Env)(s:Shared)(H:Hp)(E:XK):Cx where
 prog:=P
 w:=w
 K:=K
 mg:=mg
 base:=base
 A:=A.deeper (envOfC qual scope s.heap.objs.size f cd)
 N:=N
 s₀:=s
 H₀:=H
 env:=envOfC qual scope s.heap.objs.size f cd
 outer:=outer
 stack:=envOfC qual scope s.heap.objs.size f cd::outer
 ex:=[]
 calm:=true
 fn:=fun _=>true
 pn:=[]
 xe:=fun e s'=>wpAny (model P w) (A.deeper (envOfC qual scope s.heap.objs.size f cd)) (leaving (envOfC qual scope s.heap.objs.size f cd) e) (fun _ Rg=>CX outer H s E e Rg) (fun e' Rg=>CX outer H s E e' Rg) s'
theorem sR{sc:Scope}{n:Nat}{x:Str}(h:sc.names.lookup x=some .cell):∃c,(cellsFrom n sc.names []).lookup x=some c:=by
 have q:=PySem.W.cellsFrom_some sc.names n [] (.inl h)
 exact Option.isSome_iff_exists.mp q
theorem pG{CX:AA}{P:Program}{w:World}{K:PySem.W.Frag}{mg:Str→Option Value}{base:Heap}{N ps:List Str}{qual:Str}{scope:Scope}{f:Addr}{cd:Value}{A:Around}{outer:List Env}{s s1:Shared}{H:Hp}{E:XK}{us:List Value}{vs:List V}
  (S:ay N ps scope) (hd:A.handled=none) (e0:qA P w K mg base A outer s H) (hl:vs.length=ps.length) (r:Vals vs us)
  (x:InCallC s s.heap.objs.size (bindL (envOfC qual scope s.heap.objs.size f cd).kindOf (ps.zip us) fun _=>none) (cellsFrom (s.heap.objs.size+1) scope.names []) (bindC (envOfC qual scope s.heap.objs.size f cd).kindOf (ps.zip us) fun _=>none) s1):
  Inv (fR CX P w K mg base N qual scope f cd A outer s H E) [] (start N vs) H s1:=by
 have mf:ps.length≤N.length:=by have:=congrArg List.length S.pre;rw[List.length_take] at this;omega
 obtain⟨h1,tk,rfl,hk⟩:=x.done
 have Lc:∀b:Addr,b∉(fR CX P w K mg base N qual scope f cd A outer s H E).ex:=fun b z=>absurd (show b∈([]:List Addr) from z) (by simp)
 refine⟨⟨e0.mod,S.kind,rfl,rfl,Nat.le_refl _,fun y z c h1 h2=>?_,fun y hy=>?_,fun y c _ h=>?_,fun _=>hd,Around.frames_deeper e0.frames, .inr ⟨rfl,rfl⟩,fun b z=>absurd z (Lc b),e0.bs,e0.xn,fun b _ _=>Lc b,fun b z=>absurd z (Lc b),e0.iy,e0.Aw⟩,
  rfl,e0.bare,Un.kept hk,⟨_,x.toInCall.ns,fun i y v h1 h2 h3=>?_⟩,fun y c h=>⟨_,x.cell y c h⟩,e0.bq.fresh (Nat.le_refl _),fun y c h=>?_,fun p hp=>absurd (show p∈([]:List (Addr×Obj)) from hp) (by simp),e0.bq.kept hk,?_⟩
 ·exact name_of_addr x.apart (PySem.mem_of_lookup h1) (PySem.mem_of_lookup h2)
 ·have hy:scope.names.lookup y=some .cell∨scope.names.lookup y=some .free:=hy
  rcases hy with hy|hy
  ·exact sR hy
  ·exact absurd rfl (S.Hy _ (PySem.mem_of_lookup hy))
 ·exact Nat.le_of_lt (x.above y c (PySem.mem_of_lookup h))
 ·have hi:i<vs.length:=by
   unfold start at h2
   by_cases hi:i<vs.length
   ·exact hi
   ·rw[List.getElem?_append_right (by simpa using hi)] at h2
    rw[List.getElem?_replicate] at h2
    split at h2<;>cases h2
  have ha:vs[i]? =some v:=by
   unfold start at h2
   rw[List.getElem?_append_left (by simpa using hi),List.getElem?_map] at h2
   cases e:vs[i]? with
   |none=>rw[e] at h2;cases h2
   |some a=>rw[e] at h2;cases h2;rfl
  obtain⟨u,hu,rv⟩:=r.get ha
  have hp:ps[i]? =some y:=by
   rw[←S.pre,List.getElem?_take_of_lt (by omega)];exact h1
  have W2:ps.Nodup:=by rw[←S.pre];exact S.nd.sublist (List.take_sublist _ _)
  refine⟨u,rv,?_⟩
  rcases S.par y (List.mem_of_getElem? hp) with k|k
  ·exact .inl ⟨k,pE W2 hp hu k⟩
  ·obtain⟨c,e⟩:=sR (n:=s.heap.objs.size+1) k
   refine .inr ⟨.inl k,c,e,?_⟩
   have q:=x.cell y c e
   rw[pF W2 hp hu (by show scope.names.lookup y≠_;rw[k];decide)] at q
   exact q
 ·exact e0.bq.fresh (Nat.le_of_lt (x.above y c (PySem.mem_of_lookup h)))
 ·unfold start
  show _=N.length
  rw[List.length_append,List.length_map,List.length_replicate]
  omega
theorem fn_of{CX:AA}{P:Program}{w:World}{K:PySem.W.Frag}{mg:Str→Option Value}{base:Heap}{k:Nat}{f:Addr}{name qual:Str}{params:Arguments}{body:List Stmt}{scope:Scope}{dV kV doc pm bo ct oc:Value}{an od:Option Addr}
  {mw:Array (Option Value)} {N ps:List Str} {sp:Sp} (lk:K.lookup f=some ⟨oc,od, .func (PySem.W.fnOf name qual params body scope dV kV doc pm an bo ct),mw⟩) (me:PySem.W.codeIn K bo qual=true) (S:ay N ps scope)
  (len:∀vs H Q E,sp vs H Q E→vs.length=ps.length)
  (cP:∀(A:Around) (outer:List Env) (s:Shared) (H:Hp) (vs:List V) (Q:VK) (E:XK),b8 k (A.deeper (envOfC qual scope s.heap.objs.size f bo))→sp vs H Q E→
   ∃t,jJ (fR CX P w K mg base N qual scope f bo A outer s H E) body t∧t { nx:=fun _ H'=>Q .cn H',rt:=Q } (start N vs) H):
  eD P w K mg base CX (k+1) f (PySem.W.fnOf name qual params body scope dV kV doc pm an bo ct) ps sp:=by
 refine⟨len,fun A outer s H args us vs Q E hr e0 hb r vH=>?_⟩
 have hl:=len _ _ _ _ vH
 have KX:K.In s.heap:=e0.mod.DR.keeps fun b o e=>(e0.bs b o e).1
 have lim:s.heap.NoLimit:=e0.mod.nolimit.keeps fun b o e=>(e0.bs b o e).1
 have A6:∀y∈ps.zip us,scope.names.lookup y.1=some .local∨(scope.names.lookup y.1=some .cell∧((cellsFrom (s.heap.objs.size+1) scope.names []).lookup y.1).isSome=true):=fun⟨n,v⟩ hy=>by
  rcases S.par n (List.of_mem_zip hy).1 with q|q
  ·exact .inl q
  ·exact .inr ⟨q,PySem.W.cellsFrom_some _ _ _ (.inl q)⟩
 refine codeAny_call_function hr.depth (KX _ _ lk) rfl S.co S.gen rfl (PySem.W.codeRec_of KX me) (hb _ _ _ _ ?_)
 refine wpAny_newFunctionEnv_cells S.kind A6 fun env he s1 x=>?_
 subst he
 refine⟨lim.keeps x.toInCall.keep,codeAny_func ?_⟩
 obtain⟨t,ht,hq⟩:=cP A outer s H vs Q E (hr.deeper _) vH
 have I:Inv (fR CX P w K mg base N qual scope f bo A outer s H E) [] (start N vs) H s1:=pG S hr.hd e0 hl r x
 refine wpAny_mono (ht [] s1 (start N vs) H _ I hq) (fun fl s' hs=>?_) fun e s' hs=>hs
 have fin:∀{σ':St} {H':Hp} {v:V} {u:Value},Inv (fR CX P w K mg base N qual scope f bo A outer s H E) [] σ' H' s'→RelV v u→Q v H'→CE outer P w H s Q u s':=
  fun {σ' H' v u} J rv q=>⟨v,H',J.os,J.bare,J.base,J.bq,rv,q⟩
 cases fl with
 |ret u=>
  obtain⟨v,σ',H',J,rv,q⟩:=hs
  exact fin J rv q
 |next=>
  obtain⟨σ',H',J,q⟩:=hs
  exact fin (v:=V.cn) (u:=Value.none) J rfl q
 |brk=>
  obtain⟨_,_,_,q⟩:=hs
  exact False.elim q
 |cont=>
  obtain⟨_,_,_,q⟩:=hs
  exact False.elim q
end L2
namespace L2
open PySem PySem.Spec PyProof.Rows
section
variable {X:Cx}{x:Str}{p pos:Pos}{e:Expr}{es:List Expr}{t:TA}{id T:String}{r:List V→Hp→VK→Prop}
def W3(r:List V→Hp→VK→Prop)(t:TA):TE:=fun σ H Q=>t σ H fun vs H1=>r vs H1 Q
theorem bb(hc:gD X (.builtin id) r)(hg:Gl X x)(hm:X.mg x=none)(hv:bootBuiltins x=some (.builtin id))(ha:PA X (e::es) t)(hn:x≠"__name__" :=by decide)(zh:(x==("__debug__" :Str))=false:=by decide)
  (he:starEach (e::es) X.env=(false,eval e X.env)::starEach es X.env:=by rfl) (mf:(backTo pos (starEach es X.env)).any (·.1)=false:=by rfl):PE X (.Call (.Name x p) (e::es) [] pos) (W3 r t):=by
 intro pins s σ H Q I h
 refine wpAny_Call_Name_kw (nA I hg hm hv ?_ hn zh)
 exact PyProof.Rows.callWith_builtin1 (bU (ha pos pins s σ H _ I h) fun us s1 ⟨vs,H1,I1,r1,q1⟩=>hc pins s1 σ H1 vs us Q I1 r1 q1) he mf
theorem bX(hc:gD X (.type T) r)(hg:Gl X x)(hm:X.mg x=none)(hv:bootBuiltins x=some (.type T))(ha:PA X (e::es) t)(hn:x≠"__name__" :=by decide)(zh:(x==("__debug__" :Str))=false:=by decide)
  (he:starEach (e::es) X.env=(false,eval e X.env)::starEach es X.env:=by rfl) (mf:(backTo pos (starEach es X.env)).any (·.1)=false:=by rfl):PE X (.Call (.Name x p) (e::es) [] pos) (W3 r t):=by
 intro pins s σ H Q I h
 refine wpAny_Call_Name_kw (nA I hg hm hv ?_ hn zh)
 exact PyProof.Rows.callWith_type1 (bU (ha pos pins s σ H _ I h) fun us s1 ⟨vs,H1,I1,r1,q1⟩=>hc pins s1 σ H1 vs us Q I1 r1 q1) he mf
end
end L2
namespace L2
open PySem PySem.Spec PyProof.Rows
section
variable {κ:Type}[DecidableEq κ]
def de(kvs:List (κ×V))(k:κ):Option V:=(kvs.find? fun kv=>decide (kv.1=k)).map (·.2)
def putK(kvs:List (κ×V))(k:κ)(v:V):List (κ×V):=
 if (kvs.any fun kv=>decide (kv.1=k))=true then kvs.map (fun kv=>if kv.1=k then (kv.1,v) else kv) else kvs++[(k,v)]
theorem gF{p:κ×V}{r:List (κ×V)}{k:κ}(e:p.1=k):de (p::r) k=some p.2:=by simp [de,List.find?_cons,e]
theorem gH{p:κ×V}{r:List (κ×V)}{k:κ}(e:¬p.1=k):de (p::r) k=de r k:=by simp [de,List.find?_cons,e]
theorem gI(k:κ):∀kvs:List (κ×V),(kvs.any fun kv=>decide (kv.1=k))=(de kvs k).isSome
 | []=>rfl
 |p::r=>by
  rw[List.any_cons]
  by_cases e:p.1=k
  ·simp only [gF e,decide_eq_true e,Bool.true_or,Option.isSome_some]
  ·rw[gH e,decide_eq_false e,Bool.false_or];exact gI k r
theorem eF(kvs:List (κ×V))(k:κ)(v:V):(putK kvs k v).length≤kvs.length+1:=by
 unfold putK
 split
 ·rw[List.length_map];omega
 ·rw[List.length_append,List.length_cons,List.length_nil];omega
theorem sS{kvs:List (κ×V)}{k:κ}(v:V)(h:de kvs k=none):putK kvs k v=kvs++[(k,v)]:=by
 unfold putK
 rw[gI,h]
 exact if_neg (by decide)
theorem fP.zj{o:Option V}{u:Option Value}(r:fP o u):o.isSome=u.isSome:=by
 cases o with
 |none=>cases u with
  |none=>rfl
  |some _=>exact(show False from r).elim
 |some _=>cases u with
  |none=>exact(show False from r).elim
  |some _=>rfl
theorem fP.getD{o:Option V}{u:Option Value}{d:V}{d':Value}(r:fP o u)(rd:RelV d d'):RelV (o.getD d) (u.getD d'):=by
 cases o with
 |none=>cases u with
  |none=>exact rd
  |some _=>exact(show False from r).elim
 |some _=>cases u with
  |none=>exact(show False from r).elim
  |some _=>exact r
theorem KV.val{kvs:List (κ×V)}{vs:List (κ×Value)}(r:KV kvs vs)(k:κ):fP (de kvs k) (valueAt vs k):=by
 unfold KV at r
 induction r with
 |nil=>exact True.intro
 | @cons p q ps qs h t ih=>
   obtain⟨h1,h2⟩:=h
   by_cases e:p.1=k
   ·have e':q.1=k:=h1.symm.trans e
    have b:valueAt (q::qs) k=some q.2:=by simp [valueAt,List.find?_cons,e']
    rw[gF e,b];exact h2
   ·have e':¬q.1=k:=fun z=>e (h1.trans z)
    have b:valueAt (q::qs) k=valueAt qs k:=by simp [valueAt,List.find?_cons,e']
    rw[gH e,b];exact ih
theorem KV.any{kvs:List (κ×V)}{vs:List (κ×Value)}(r:KV kvs vs)(k:κ):(kvs.any fun kv=>decide (kv.1=k))=vs.any fun kv=>decide (kv.1=k):=by
 unfold KV at r
 induction r with
 |nil=>rfl
 |cons h t ih=>rw[List.any_cons,List.any_cons,ih,h.1]
theorem KV.Hz{kvs:List (κ×V)}{vs:List (κ×Value)}(r:KV kvs vs)(k:κ){y:V}{u:Value}(ry:RelV y u):
  KV (kvs.map fun kv=>if kv.1=k then (kv.1,y) else kv) (vs.map fun kv=>if kv.1=k then (kv.1,u) else kv):=by
 unfold KV at r ⊢
 induction r with
 |nil=>exact .nil
 | @cons p q ps qs h t ih=>
   rw[List.map_cons,List.map_cons]
   refine .cons ?_ ih
   obtain⟨h1,h2⟩:=h
   by_cases e:p.1=k
   ·rw[if_pos e,if_pos (h1.symm.trans e)];exact⟨h1,ry⟩
   ·rw[if_neg e,if_neg (fun z=>e (h1.trans z))];exact⟨h1,h2⟩
theorem KV.put{kvs:List (κ×V)}{vs:List (κ×Value)}(r:KV kvs vs)(k:κ){y:V}{u:Value}(ry:RelV y u):KV (putK kvs k y) (stored vs k u):=by
 unfold putK stored
 rw[r.any k]
 by_cases e:(vs.any fun kv=>decide (kv.1=k))=true
 ·rw[if_pos e,if_pos e];exact r.Hz k ry
 ·rw[if_neg e,if_neg e];exact Paired.snoc r ⟨rfl,ry⟩
theorem KV.length{kvs:List (κ×V)}{vs:List (κ×Value)}(r:KV kvs vs):kvs.length=vs.length:=Paired.length r
end
theorem sT{P:Program}{w:World}{k:Key}{u:Value}(r:RelV (kV k) u):(bV P w).is k u=true:=by
 cases k with
 |inl i=>obtain⟨t,e⟩:=(show∃t,u=Value.int i t from r);subst e;exact sH P w i t
 |inr x=>obtain⟨t,e⟩:=(show∃t,u=Value.str x t from r);subst e;exact sI P w x t
theorem items_are{P:Program}{w:World}:∀{ks:List Key} {us:List Value},Vals (ks.map kV) us→ItemsAre (bV P w) ks us
 | [],_,r=>by rw[List.map_nil] at r;cases r;exact .nil
 |k::ks,_,r=>by
  rw[List.map_cons] at r
  cases r with
  |cons h t=>exact .cons (sT h) (items_are t)
abbrev KT(H:Hp):List (List Key×V)→List (List Key×Addr×Value)→Prop:=Paired fun p q=>p.1=q.1∧H q.2.1=some (.tup (p.1.map kV))∧RelV p.2 q.2.2
theorem KT.val{H:Hp}{kvs:List (List Key×V)}{xs:List (List Key×Addr×Value)}(r:KT H kvs xs)(k:List Key):fP (de kvs k) ((atKey xs k).map (·.2)):=by
 induction r with
 |nil=>exact True.intro
 | @cons p q ps qs h t ih=>
   obtain⟨h1,_,h2⟩:=h
   by_cases e:p.1=k
   ·have e':q.1=k:=h1.symm.trans e
    have b:atKey (q::qs) k=some q.2:=by simp [atKey,List.find?_cons,e']
    rw[gF e,b];exact h2
   ·have e':¬q.1=k:=fun z=>e (h1.trans z)
    have b:atKey (q::qs) k=atKey qs k:=by simp [atKey,List.find?_cons,e']
    rw[gH e,b];exact ih
theorem KT.Hz{H:Hp}{kvs:List (List Key×V)}{xs:List (List Key×Addr×Value)}(r:KT H kvs xs)(k:List Key){y:V}{u:Value}(ry:RelV y u):
  KT H (kvs.map fun kv=>if kv.1=k then (kv.1,y) else kv) (xs.map (putAt k u)):=by
 induction r with
 |nil=>exact .nil
 | @cons p q ps qs h t ih=>
   rw[List.map_cons,List.map_cons]
   refine .cons ?_ ih
   obtain⟨h1,h2,h3⟩:=h
   unfold putAt
   by_cases e:p.1=k
   ·rw[if_pos e,if_pos (h1.symm.trans e)];exact⟨h1,h2,ry⟩
   ·rw[if_neg e,if_neg (fun z=>e (h1.trans z))];exact⟨h1,h2,h3⟩
theorem KT.put{H:Hp}{kvs:List (List Key×V)}{xs:List (List Key×Addr×Value)}(r:KT H kvs xs)(k:List Key){b:Addr}{y:V}{u:Value}(hb:H b=some (.tup (k.map kV)))(ry:RelV y u):
  KT H (putK kvs k y) (storedH xs k b u):=by
 have e:(kvs.any fun kv=>decide (kv.1=k))=(atKey xs k).isSome:=by
  rw[gI,(r.val k).zj,Option.isSome_map]
 unfold putK storedH
 rw[e]
 by_cases q:(atKey xs k).isSome=true
 ·rw[if_pos q,if_pos q];exact r.Hz k ry
 ·rw[if_neg q,if_neg q];exact Paired.snoc r ⟨rfl,hb,ry⟩
theorem KT.keeps{H H':Hp}{kvs:List (List Key×V)}{xs:List (List Key×Addr×Value)}(r:KT H kvs xs)(ht:∀b ys,H b=some (.tup ys)→H' b=some (.tup ys)):KT H' kvs xs:=
 Paired.Hg r fun _ _ z=>⟨z.1,ht _ _ z.2.1,z.2.2⟩
section
variable {P:Program}{w:World}{H:Hp}{h:Heap}{a:Addr}
theorem Gi{u:HO}(ok:ix P w H h)(e:Rd H a u):bQ P w H h a u:=e.ok ok
theorem sU{kvs:List (Key×V)}(ok:ix P w H h)(e:Rd H a (.dK kvs)):kvs.length≤sizeLine∧(a==sysModules)=false∧∃vs,KV kvs vs∧h.DictOf (bV P w) a vs:=
 show bQ P w H h a (.dK kvs) from Gi ok e
theorem A7{kvs:List (Key×V)}(ok:ix P w H h)(e:H a=some (.dK kvs)):kvs.length≤sizeLine∧(a==sysModules)=false∧∃vs,KV kvs vs∧h.DictOf (bV P w) a vs:=sU ok (.inl e)
theorem key_of{ks:List Key}(ok:ix P w H h)(e:H a=some (.tup (ks.map kV))):(tupleKind (bV P w)).is h ks a:=by
 obtain⟨_,its,r,o,h1,h2,n,h3⟩:=(show bQ P w H h a (.tup (ks.map kV)) from ok a _ e)
 exact⟨o,its.toArray,n,h1,h2,h3,by simpa using items_are r⟩
theorem sV{kvs:List (List Key×V)}(ok:ix P w H h)(e:Rd H a (.dT kvs)):kvs.length≤sizeLine∧(a==sysModules)=false∧
  ∃xs,KT H kvs xs∧h.DictOfH (tupleKind (bV P w)) a xs:=by
 obtain⟨z,y,xs,r,o,es,ep,h1,h2,h3,h4,h5⟩:=(show bQ P w H h a (.dT kvs) from Gi ok e)
 refine⟨z,y,xs,r,o,es,ep,h1,h2,h3,h4,fun x hx=>?_,h5⟩
 have all:∀{l:List (List Key×V)} {m:List (List Key×Addr×Value)},KT H l m→∀x∈m,(tupleKind (bV P w)).is h x.1 x.2.1:=by
  intro l m q
  induction q with
  |nil=>intro x hx;exact nomatch hx
  | @cons p q ps qs hq t ih=>
    intro x hx
    rcases List.mem_cons.mp hx with e|hx
    ·subst e
     exact key_of ok (by rw[←hq.1];exact hq.2.1)
    ·exact ih x hx
 exact all r x hx
theorem Ld{kvs:List (List Key×V)}(ok:ix P w H h)(e:H a=some (.dT kvs)):kvs.length≤sizeLine∧(a==sysModules)=false∧
  ∃xs,KT H kvs xs∧h.DictOfH (tupleKind (bV P w)) a xs:=sV ok (.inl e)
end
def oX(H:Hp)(a:Addr)(y:V)(r:Option V):Prop:=
 (∃kvs k,Rd H a (.dK kvs)∧y=kV k∧r=de kvs k)∨∃kvs k b,Rd H a (.dT kvs)∧y= .ref b∧H b=some (.tup (k.map kV))∧r=de kvs k
def vI(H:Hp)(a:Addr)(y v:V)(H':Hp):Prop:=
 (∃kvs k,H a=some (.dK kvs)∧y=kV k∧kvs.length<sizeLine∧H'=upd H a (.dK (putK kvs k v)))∨
 ∃kvs k b,H a=some (.dT kvs)∧y= .ref b∧H b=some (.tup (k.map kV))∧kvs.length<sizeLine∧H'=upd H a (.dT (putK kvs k v))
theorem oX.k{H:Hp}{a:Addr}{kvs:List (Key×V)}{k:Key}(e:H a=some (.dK kvs)):oX H a (kV k) (de kvs k):= .inl ⟨kvs,k, .inl e,rfl,rfl⟩
theorem vI.k{H:Hp}{a:Addr}{kvs:List (Key×V)}{k:Key}{v:V}(e:H a=some (.dK kvs))(hl:kvs.length<sizeLine):vI H a (kV k) v (upd H a (.dK (putK kvs k v))):= .inl ⟨kvs,k,e,rfl,hl,rfl⟩
section
variable {X:Cx}{pins:List (Addr×Obj)}{σ:St}{H:Hp}{s:Shared}{a:Addr}{y v:V}{u r:Value}{o:Option V}{A:Around}{E:Value→Shared→Prop}
theorem Inv.big(I:Inv X pins σ H s):sysModules<s.heap.objs.size:=by
 have h:mainGlobals<s.heap.objs.size:=(I.mod.glob.keeps I.bk).lt
 exact Nat.lt_trans (by decide) h
theorem zo{Q:Value→Shared→Prop}(hu:A.units+1<cLine)(I:Inv X pins σ H s)(g:oX H a y (some v))(ry:RelV y u)(h:∀w' s',Inv X pins σ H s'→RelV v w'→Q w' s'):
  wpAny (model X.prog X.w) A (getItem (.ref a) u) Q E s:=by
 rcases g with ⟨kvs,k,e,ey,l⟩ | ⟨kvs,k,b,e,ey,eb,l⟩
 ·subst ey
  obtain⟨z,hd,vs,rel,dd⟩:=sU I.bq e
  obtain⟨w',hw,zq⟩:=fP.some_of (v:=v) (o:=valueAt vs k) (by rw[l];exact rel.val k)
  exact wpAny_getItem_of (sT ry) dd.mapOf hw (h w' _ (I.tok _) zq)
 ·subst ey
  cases (show u=Value.ref b from ry)
  obtain⟨z,hd,xs,rel,dd⟩:=sV I.bq e
  obtain⟨w',hw,zq⟩:=fP.some_of (v:=v) (o:=(atKey xs k).map (·.2)) (by rw[l];exact rel.val k)
  obtain⟨p,hp,P6⟩:=Option.map_eq_some_iff.mp hw
  refine wpAny_getItem_heap (tupleKind_room_in1 hu) (key_of I.bq eb) dd hp ?_
  rw[P6]
  exact h w' _ (I.tok _) zq
theorem xv{h':Heap}{t':Nat}{ob:HO}(I:Inv X pins σ H s)(mu:KH (H a))(hs:Heap.SameBut a s.heap h')(he:∃q,h'.get? a=some q)(new:bQ X.prog X.w (upd H a ob) h' a ob):
  Inv X pins σ (upd H a ob) { s with heap:=h',toks:=t' }:=
 I.write (x:=a) (e:=a) mu (.inl rfl) (fun b q hb z=>(hs.2 b hb).trans z) he new
theorem A8{P:Program}{w:World}{H':Hp}{h':Heap}{kvs:List (Key×V)}{vs:List (Key×Value)}(z:kvs.length≤sizeLine)(hd:(a==sysModules)=false)(rel:KV kvs vs)(dd:h'.DictOf (bV P w) a vs):
  bQ P w H' h' a (.dK kvs):=⟨z,hd,vs,rel,dd⟩
theorem zr{H':Hp}{Q:Unit→Shared→Prop}(hu:A.units+1<cLine)(I:Inv X pins σ H s)(g:vI H a y v H')(ry:RelV y u)(rv:RelV v r)(h:∀s',Inv X pins σ H' s'→Q () s'):
  wpAny (model X.prog X.w) A (setItem (.ref a) u r) Q E s:=by
 rcases g with ⟨kvs,k,e,ey,l,eH⟩ | ⟨kvs,k,b,e,ey,eb,l,eH⟩
 ·subst ey eH
  obtain⟨z,hd,vs,rel,dd⟩:=A7 I.bq e
  have hz:vs.length≤sizeLine:=by rw[←rel.length];exact z
  have hl:(putK kvs k v).length≤sizeLine:=by have:=eF kvs k v;omega
  refine wpAny_setItem_pairs (hsz:=hz) (sT ry) dd fun h' Le hs=>h _ ?_
  have he:∃q,h'.get? a=some q:=let ⟨q,_,_,hq,_⟩:=Le;⟨q,hq⟩
  exact xv I (by rw[e];exact True.intro) hs he (A8 hl hd (rel.put k rv) Le)
 ·subst ey eH
  cases (show u=Value.ref b from ry)
  obtain⟨z,hd,xs,rel,dd⟩:=Ld I.bq e
  have hz:xs.length≤sizeLine:=by rw[←Paired.length rel];exact z
  have hl:(putK kvs k v).length≤sizeLine:=by have:=eF kvs k v;omega
  refine wpAny_setItem_heap (hsz:=hz) (tupleKind_room_in1 hu) (key_of I.bq eb) dd fun h' Le hs=>h _ ?_
  obtain⟨q,es,ep,hq,h2,h3,h4,_,h5⟩:=Le
  refine xv I (by rw[e];exact True.intro) hs ⟨q,hq⟩ ⟨hl,hd,_,(rel.put k eb rv).keeps fun c ys ec=>?_,q,es,ep,hq,h2,h3,h4,h5⟩
  rw[ao (xm ec e (fun z=>nomatch z))]
  exact ec
end
section
variable {X:Cx}{pins:List (Addr×Obj)}{σ:St}{H:Hp}{s:Shared}{a:Addr}{kvs:List (Key×V)}{k:Key}{u:Value}{A:Around}{E:Value→Shared→Prop}
end
def Lf(i:Expr):Prop:=∀ov iv,subscripted i false ov iv=operate [ov,iv] (getItem ov iv)
theorem D0{prog:Program}{w:World}{A:Around}{E:Value→Shared→Prop}{s:Shared}{env:Env}{value slice:Expr}{pos:Pos}{T id:String}{Q:Value→Shared→Prop}
  (hl:typeLookup (.type T) "__getitem__" =pure (some (.builtin id))) (hs:Lf slice)
  (h:wpAny (model prog w) A (eval value env) (fun o s₁=>wpAny (model prog w) A (eval slice env) (fun i s₂=>s₂.TypeIs o T∧wpAny (model prog w) A (getItem o i) Q E s₂) E s₁) E s):
  wpAny (model prog w) A (eval (.Subscript value slice pos) env) Q E s:=by
 refine Subscript_ (wpAny_mono h (fun o s₁ h₁=>wpAny_mono h₁ (fun i s₂ h₂=>?_) fun _ _ x=>x) fun _ _ x=>x)
 obtain⟨hT,h₂⟩:=h₂
 unfold subscriptTail
 refine wpAny_bind ?_
 rw[getitemInPython_of_ne hT.not_modules]
 refine wpAny_bind (wpAny_specialOf hT hl ?_)
 have fin:wpAny (model prog w) A (subscripted slice false o i) (fun r s₃=>wpAny (model prog w) A (letTemporaryGo value o r >>= fun _=>pure r) Q E s₃) E s₂:=by
  rw[hs o i]
  exact wpAny_operating (wpAny_mono h₂ (fun r s₃ h₃=>wpAny_bind (wpAny_letTemporaryGo (wpAny_pure h₃))) fun _ _ x=>x)
 first
  |exact wpAny_pure (wpAny_bind fin)
  |exact wpAny_bind (wpAny_pure (wpAny_bind fin))
  |exact wpAny_bind fin
theorem sW{X:Cx}{pins:List (Addr×Obj)}{σ:St}{H:Hp}{s:Shared}{a:Addr}{y:V}{o:Option V}(I:Inv X pins σ H s)(g:oX H a y o):s.TypeIs (.ref a) "dict" :=by
 rcases g with ⟨kvs,k,e,_,_⟩ | ⟨kvs,k,b,e,_,_,_⟩
 ·obtain⟨_,_,vs,_,dd⟩:=sU I.bq e
  exact dd.typeIs
 ·obtain⟨_,_,xs,_,dd⟩:=sV I.bq e
  exact dd.typeIs
def Lg(td ty:TE):TE:=fun σ H Q=>td σ H fun x H1=>ty σ H1 fun y H2=>∃a v,x= .ref a∧oX H2 a y (some v)∧Q v H2
def Lh(td ty tv:TE):TS:=fun D σ H=>tv σ H fun v H1=>td σ H1 fun x H2=>ty σ H2 fun y H3=>∃a H4,x= .ref a∧vI H3 a y v H4∧D.nx σ H4
section
variable {X:Cx}{o i e value:Expr}{pos pos' K8:Pos}{td ty tv:TE}
theorem D4(hu:X.A.units+1<cLine)(ho:PE X o td)(hi:PE X i ty)(hs:Lf i):PE X (.Subscript o i pos) (Lg td ty):=by
 intro pins s σ H Q I h
 refine D0 PySem.F.slot_dict_getitem.lookup hs (bU (ho pins s σ H _ I h) fun u s1 ⟨x,H1,I1,rx,q1⟩=>bU (hi pins s1 σ H1 _ I1 q1) fun iv s2 ⟨y,H2,I2,ry,a,v,ex,g,q2⟩=>?_)
 subst ex
 obtain rfl:u=Value.ref a:=rx
 exact⟨sW I2 g,zo hu I2 g ry fun w' s3 I3 zq=>⟨v,H2,I3,zq,q2⟩⟩
theorem qB(hu:X.A.units+1<cLine)(ho:PE X o td)(hi:PE X i ty)(hv:PE X value tv)(hs:swapsWith value (some (.Subscript o i pos')) pos.line X.env=pure false):
  PS X (.Assign [.Subscript o i pos'] value pos) (Lh td ty tv):=by
 intro pins s σ H D I h
 refine wpAny_Assign_Subscript (bU (hv pins s σ H _ I h) fun r s1 ⟨v,H1,I1,rv,q1⟩=>bU (ho pins s1 σ H1 _ I1 q1) fun u s2 ⟨x,H2,I2,rx,q2⟩=>bU (hi pins s2 σ H2 _ I2 q2) fun iv s3 ⟨y,H3,I3,ry,a,H4,ex,g,q3⟩=>?_) hs
 subst ex
 obtain rfl:u=Value.ref a:=rx
 exact zr hu I3 g ry rv fun s4 I4=>⟨σ,H4,I4,q3⟩
end
theorem A9{P:Program}{w:World}{H:Hp}(h:Heap)(hb:sysModules<h.objs.size):bQ P w H (h.push { cls:= .type "dict",data:= .dict #[] }) h.objs.size (.dK []):=
 ⟨Nat.zero_le _,beq_eq_false_iff_ne.mpr (Ne.symm (Nat.ne_of_lt hb)),[], .nil,Heap.DictOf.new h⟩
def HA:TE:=fun _ H Q=>∀p,H p=none→Q (.ref p) (upd H p (.dK []))
section
variable {X:Cx}{pos:Pos}
theorem sX:PE X (.Dict [] [] pos) HA:=fun pins s σ H Q I h=>
 wpAny_Dict_empty ⟨.ref s.heap.objs.size,_,I.laid (a:=s.heap.objs.size) (o:= .dK []) (t':=s.toks) (fun _ _ q=>Heap.get?_push_of_some _ q) (Nat.le_refl _) (A9 s.heap I.big),rfl,h _ (I.bq.fresh (Nat.le_refl _))⟩
end
def gg(kvs more:List (Key×V)):List (Key×V):=more.foldl (fun acc kv=>putK acc kv.1 kv.2) kvs
theorem jD:∀(more kvs:List (Key×V)),(gg kvs more).length≤kvs.length+more.length
 | [],kvs=>by show kvs.length≤kvs.length+0;omega
 |p::r,kvs=>by
  have h1:=jD r (putK kvs p.1 p.2)
  have h2:=eF kvs p.1 p.2
  show (gg (putK kvs p.1 p.2) r).length≤_
  rw[List.length_cons];omega
structure M2(X:Cx)(o:Expr)(m:Str)(apos:Pos)(e f:Expr)(gJ:Pos):Prop where
 base:attributeBase o m X.env (eval o X.env)=eval o X.env
 YD:((backTo gJ (starEach [e,f] X.env)).all (fun x=>!x.1)&&(backToKw gJ (keywordEach [] X.env)).all (fun x=>x.1.isSome)
  &&decide (([e,f]:List Expr).length+([]:List Keyword).length+(if ([]:List Keyword).isEmpty then 0 else 1) <30))=true
 line:(apos.endLine==gJ.line)=true
 trees:backTo gJ (starEach [e,f] X.env)=[(false,eval e X.env),(false,eval f X.env)]
def W4(H:Hp)(a:Addr):Prop:=(∃kvs,Rd H a (.dK kvs))∨∃kvs,Rd H a (.dT kvs)
theorem HB{X:Cx}{pins:List (Addr×Obj)}{σ:St}{H:Hp}{s:Shared}{a:Addr}(I:Inv X pins σ H s)(d:W4 H a):
  s.TypeIs (.ref a) "dict" ∧(∀b,Value.ref a= .ref b→∃ob,s.heap.get? b=some ob∧ob.dict=none)∧(a==sysModules)=false:=by
 rcases d with ⟨kvs,e⟩ | ⟨kvs,e⟩
 ·obtain⟨_,hd,vs,_,dd⟩:=sU I.bq e
  refine⟨dd.typeIs,fun b q=>?_,hd⟩
  cases q
  obtain⟨ob,_,_,h1,h2,_⟩:=dd
  exact⟨ob,h1,h2.2.1⟩
 ·obtain⟨_,hd,xs,_,dd⟩:=sV I.bq e
  refine⟨dd.typeIs,fun b q=>?_,hd⟩
  cases q
  obtain⟨ob,_,_,h1,h2,_⟩:=dd
  exact⟨ob,h1,h2.2.1⟩
section
variable {X:Cx}{pins:List (Addr×Obj)}{σ:St}{H:Hp}{s:Shared}{a:Addr}{y d:V}{u r:Value}{o:Option V}{A:Around}{E:Value→Shared→Prop}
theorem HC{Q:Value→Shared→Prop}(hu:A.units+1<cLine)(I:Inv X pins σ H s)(g:oX H a y o)(ry:RelV y u)(rd:RelV d r)(h:∀w' s',Inv X pins σ H s'→RelV (o.getD d) w'→Q w' s'):
  wpAny (model X.prog X.w) A (call (.builtin "dict.get") [.ref a,u,r]) Q E s:=by
 rcases g with ⟨kvs,k,e,ey,l⟩ | ⟨kvs,k,b,e,ey,eb,l⟩
 ·subst ey
  obtain⟨z,hd,vs,rel,dd⟩:=sU I.bq e
  refine call_meetsIn PySem.F.slot_dict_get dd.typeIs PySem.F.entry_dict_get (PySem.F.args_dict_get_3 _ _ _) (meets_dict_get_default (bV X.prog X.w) a (sT ry) hd r) ⟨_,dd.mapOf,h _ _ (I.tok _) ?_⟩
  rw[l]
  exact(rel.val k).getD rd
 ·subst ey
  cases (show u=Value.ref b from ry)
  obtain⟨z,hd,xs,rel,dd⟩:=sV I.bq e
  refine call_meetsIn PySem.F.slot_dict_get dd.typeIs PySem.F.entry_dict_get (PySem.F.args_dict_get_3 _ _ _) (meetsH_dict_get_default (tupleKind (bV X.prog X.w)) a b hd r) ⟨tupleKind_room_in1 hu,k,xs,key_of I.bq eb,dd,h _ _ (I.tok _) ?_⟩
  rw[l]
  exact(rel.val k).getD rd
end
def HD(td ty tx:TE):TE:=fun σ H Q=>td σ H fun x H1=>∃a,x= .ref a∧W4 H1 a∧ty σ H1 fun y H2=>tx σ H2 fun z H3=>∃o,oX H3 a y o∧Q (o.getD z) H3
section
variable {X:Cx}{o e f:Expr}{apos gJ:Pos}{td ty tx:TE}
theorem nJ(hu:X.A.units+1<cLine)(ho:PE X o td)(he:PE X e ty)(hf:PE X f tx)(m:M2 X o "get" apos e f gJ):PE X (.Call (.Attribute o "get" apos) [e,f] [] gJ) (HD td ty tx):=by
 intro pins s σ H Q I h
 refine wpAny_Call_method m.base m.YD m.line PySem.F.plainAttrs_dict PySem.F.slot_dict_get PySem.F.type_dict_get (bU (ho pins s σ H _ I h) fun u s1 ⟨x,H1,I1,rx,a,ex,d,q1⟩=>?_)
 subst ex
 obtain rfl:u=Value.ref a:=rx
 obtain⟨t1,t2,_⟩:=HB I1 d
 refine⟨t1,t2,?_⟩
 rw[m.trees]
 refine Calls.callWith_builtin rfl (Calls.evalArgs_plain (Calls.spliced_cons (bU (he pins s1 σ H1 _ I1 q1) fun iv s2 ⟨y,H2,I2,ry,q2⟩=>
  Calls.spliced_cons (bU (hf pins s2 σ H2 _ I2 q2) fun fv s3 ⟨z,H3,I3,rz,ov,g,q3⟩=>Calls.spliced_nil ?_))))
 exact HC hu I3 g ry rz fun w' s4 I4 zq=>⟨_,H3,I4,zq,q3⟩
end
section
variable {X:Cx}{pins:List (Addr×Obj)}{σ:St}{H:Hp}{s:Shared}{a:Addr}{kvs:List (Key×V)}{A:Around}{E:Value→Shared→Prop}
end
section
variable {X:Cx}{pins:List (Addr×Obj)}{σ:St}{H:Hp}{s:Shared}{a:Addr}{y:V}{u:Value}{A:Around}{E:Value→Shared→Prop}
end
end L2
namespace HT
open PySem PyProof.Rows
section
open PySem.SeqAt
open PySem.AutoSeq1 (wpAny_loadPart')
open PySem.MeetsSeq PySem.MeetsSeq2 PySem.MeetsSeq3
end
section
variable {prog:Program}{w:World}{A:Around}{E:Value→Shared→Prop}{s:Shared}
end
end HT
namespace L2
open PySem PySem.Spec PyProof.Rows
abbrev TO:=St→Hp→(Option Int→Hp→Prop)→Prop
def PO(X:Cx)(e:Option Expr)(t:TO):Prop:=
 ∀(pins:List (Addr×Obj)) (s:Shared) (σ:St) (H:Hp) (Q:Option Int→Hp→Prop),Inv X pins σ H s→t σ H Q→
  wpAny (model X.prog X.w) X.A (evalPart e X.env) (fun u s'=>∃o H',Inv X pins σ H' s'∧IsPart u o∧Q o H') X.xe s
def D5:TO:=fun _ H Q=>Q none H
def Li(t:TE):TO:=fun σ H Q=>t σ H fun x H1=>∃i,x= .int i∧Q (some i) H1
section
variable {X:Cx}{e:Expr}{te:TE}{lo hi:Option Expr}{tl th:TO}{pos p2:Pos}
theorem fV:PO X none D5:=by
 intro pins s σ H Q I h
 rw[evalPart_none]
 exact wpAny_pure ⟨none,H,I, .none,h⟩
theorem cq(h:PE X e te):PO X (some e) (Li te):=by
 intro pins s σ H Q I hw
 rw[evalPart_some]
 refine bU (h pins s σ H _ I hw) fun u s1 ⟨x,H1,I1,r1,q1⟩=>?_
 obtain⟨i,rfl,q⟩:=q1
 obtain⟨t,rfl⟩:=r1
 exact⟨some i,H1,I1, .int i t,q⟩
def W5(X:Cx)(r:V→Option Int→Option Int→Hp→VK→Prop):Prop:=
 ∀(pins:List (Addr×Obj)) (s:Shared) (σ:St) (H:Hp) (x:V) (v vl vu:Value) (lo hi:Option Int) (sl:Addr) (Q:VK),Inv X pins σ H s→RelV x v→s.heap.IsSliceOf sl vl vu .none→IsPart vl lo→IsPart vu hi→r x lo hi H Q→
  ∃T id,typeLookup (.type T) "__getitem__" =pure (some (.builtin id))∧s.TypeIs v T∧wpAny (model X.prog X.w) X.A (getItem v (.ref sl)) (EP X pins σ Q) X.xe s
def YE(r:V→Option Int→Option Int→Hp→VK→Prop)(te:TE)(tl th:TO):TE:=fun σ H Q=>te σ H fun x H1=>tl σ H1 fun l H2=>th σ H2 fun u H3=>r x l u H3 Q
theorem cE{r:V→Option Int→Option Int→Hp→VK→Prop}(hr:W5 X r)(he:PE X e te)(hl:PO X lo tl)(hu:PO X hi th):PE X (.Subscript e (.Slice lo hi none p2) pos) (YE r te tl th):=by
 intro pins s σ H Q I h
 refine Subscript_ (bU (he pins s σ H _ I h) fun v s1 ⟨x,H1,I1,r1,q1⟩=>?_)
 refine wpAny_Slice (bU (hl pins s1 σ H1 _ I1 q1) fun vl s2 ⟨l,H2,I2,pl,q2⟩=>bU (hu pins s2 σ H2 _ I2 q2) fun vu s3 ⟨u,H3,I3,pu,q3⟩=>?_)
 rw[evalPart_none]
 refine wpAny_pure ?_
 have I4:Inv X pins σ H3 { s3 with heap:=s3.heap.push { cls:= .type "slice",data:= .fields #[vl,vu, .none] } }:=I3.kept (t':=s3.toks) fun b ob q=>Heap.get?_push_of_some _ q
 obtain⟨T,id,hT,ht,hg⟩:=hr pins { s3 with heap:=s3.heap.push { cls:= .type "slice",data:= .fields #[vl,vu, .none] } } σ H3 x v vl vu l u s3.heap.objs.size Q I4 r1 (Heap.IsSliceOf.new ..) pl pu q3
 show wpAny (model X.prog X.w) X.A (subscriptTail e (.Slice lo hi none p2) v (.ref s3.heap.objs.size)) (EP X pins σ Q) X.xe { s3 with heap:=s3.heap.push { cls:= .type "slice",data:= .fields #[vl,vu, .none] } }
 exact tail_any (ops:=[.ref s3.heap.objs.size,v]) ht hT hg (by with_unfolding_all rfl)
end
end L2
namespace L2
open PySem PySem.Spec PyProof.Rows
def DC(n:Nat)(i:Int):Option Nat:=if 0≤i then (if i<n then some i.toNat else none) else if -(n:Int)≤i then some (i+n).toNat else none
def sY{α:Type}(xs:List α)(i:Int):Option α:=(DC xs.length i).bind fun j=>xs[j]?
theorem D6{n:Nat}{i:Int}{j:Nat}(h:DC n i=some j):seqIndex? i n=some j∧j<n∧ -(n:Int)≤i∧i<n:=by
 unfold DC at h
 by_cases h0:0≤i
 ·rw[if_pos h0] at h
  by_cases h1:i<n
  ·rw[if_pos h1] at h
   have e:i.toNat=j:=Option.some.inj h
   exact⟨by rw[seqIndex_of h0 h1,e],by omega,by omega,h1⟩
  ·rw[if_neg h1] at h;cases h
 ·rw[if_neg h0] at h
  by_cases h1: -(n:Int)≤i
  ·rw[if_pos h1] at h
   have e:(i+n).toNat=j:=Option.some.inj h
   exact⟨by rw[seqIndex_neg (by omega) h1,e],by omega,h1,by omega⟩
  ·rw[if_neg h1] at h;cases h
theorem qC{α:Type}{xs:List α}{i:Int}{v:α}(h:sY xs i=some v):∃j,seqIndex? i xs.length=some j∧xs[j]? =some v∧j<xs.length∧ -(xs.length:Int)≤i∧i<xs.length:=by
 unfold sY at h
 cases e:DC xs.length i with
 |none=>rw[e] at h;cases h
 |some j=>
  rw[e] at h
  obtain⟨h1,h2,h3,h4⟩:=D6 e
  exact⟨j,h1,h,h2,h3,h4⟩
theorem mz{α:Type}{xs:List α}{j:Nat}{v:α}(h:xs[j]? =some v):sY xs (j:Int)=some v:=by
 have hj:j<xs.length:=(List.getElem?_eq_some_iff.mp h).1
 have e:DC xs.length (j:Int)=some j:=by
  unfold DC
  rw[if_pos (by omega),if_pos (by omega)];simp
 unfold sY;rw[e];exact h
theorem sZ{α:Type}(xs:List α)(v:α):sY (xs++[v]) (-1)=some v:=by
 have hl:(xs++[v]).length=xs.length+1:=by simp
 have e:DC (xs++[v]).length (-1)=some xs.length:=by
  unfold DC
  rw[hl,if_neg (by decide),if_pos (by omega)]
  congr 1
  omega
 unfold sY
 rw[e]
 show (xs++[v])[xs.length]? =some v
 simp
def D7(b:Expr):Prop:=∀o i,subscripted b false o i=operate [o,i] (getItem o i)
def P7(X:Cx)(r:R2):Prop:=
 ∀(value slice:Expr) (pins:List (Addr×Obj)) (s:Shared) (σ:St) (H:Hp) (x y:V) (v u:Value) (Q:VK),Inv X pins σ H s→RelV x v→RelV y u→r x y H Q→
  subscripted slice false v u=operate [v,u] (getItem v u)→wpAny (model X.prog X.w) X.A (subscriptTail value slice v u) (EP X pins σ Q) X.xe s
def Kj(X:Cx)(id:String)(r:V→List V→Hp→VK→Prop):Prop:=
 ∀(pins:List (Addr×Obj)) (s:Shared) (σ:St) (H:Hp) (x:V) (xs:List V) (v:Value) (us:List Value) (Q:VK),Inv X pins σ H s→RelV x v→Vals xs us→r x xs H Q→
  wpAny (model X.prog X.w) X.A (call (.builtin id) (v::us)) (EP X pins σ Q) X.xe s
section
variable {X:Cx}{a b:Expr}{ta tb:TE}{pos:Pos}
theorem cY{r:R2}(hr:P7 X r)(ha:PE X a ta)(hb:PE X b tb)(hs:D7 b):PE X (.Subscript a b pos) (DB r ta tb):=by
 intro pins s σ H Q I h
 exact Subscript_ (Ht ha hb I h fun v u s2 x y H2 I2 rx ry q=>hr a b pins s2 σ H2 x y v u Q I2 rx ry q (hs _ _))
def Rh(K:PySem.W.Frag):R2:=fun x y H Q=>∃p xs i v,x= .ref p∧y= .int i∧cL K H p xs∧sY xs i=some v∧Q v H
def Ri(K:PySem.W.Frag):R2:=fun x y H Q=>∃p xs i v,x= .ref p∧y= .int i∧mq K H p xs∧sY xs i=some v∧Q v H
def Rj:R2:=fun x y H Q=>∃z i c,x= .str z∧y= .int i∧z.length≤sizeLine∧sY z.cps.toList i=some c∧Q (.str ⟨#[c]⟩) H
theorem cV:P7 X (Rh X.K):=by
 intro value slice pins s σ H x y v u Q I rx ry h hs
 obtain⟨p,xs,i,z,rfl,rfl,hq,he,q⟩:=h
 cases rx
 obtain⟨t,rfl⟩:=ry
 obtain⟨its,r,pl,hz⟩:=I.list hq
 obtain⟨j,h1,h2,h3,h4,h5⟩:=qC he
 obtain⟨w,ew,zq⟩:=r.get h2
 have hl:=r.length
 have hn:=jL
 have fin:EP X pins σ Q w s:=⟨z,H,I,zq,q⟩
 by_cases h0:0≤i
 ·have hj:i.toNat=j:=by
   rw[seqIndex_of h0 h5] at h1
   exact Option.some.inj h1
  exact item_listR pl.isList h0 (by omega) (by rw[hj];simpa using ew) fin hs
 ·have hj:(i+(its.toArray.size:Int)).toNat=j:=by
   rw[seqIndex_neg (by omega) h4] at h1
   rw[List.size_toArray,←hl]
   exact Option.some.inj h1
  exact subscriptTail_builtinR (x:=w) pl.isList.typeIs slot_list_getitem.lookup
   (wpAny_getItem_list_neg (Q:=fun r s'=>r=w∧EP X pins σ Q r s') pl.isList (by omega) (by rw[List.size_toArray]<;>omega) (by omega) (by rw[hj];simpa using ew) ⟨rfl,fin⟩) hs
theorem vJ:P7 X (Ri X.K):=by
 intro value slice pins s σ H x y v u Q I rx ry h hs
 obtain⟨p,xs,i,z,rfl,rfl,hq,he,q⟩:=h
 cases rx
 obtain⟨t,rfl⟩:=ry
 obtain⟨its,r,pl,hz⟩:=I.tuple hq
 obtain⟨j,h1,h2,h3,h4,h5⟩:=qC he
 obtain⟨w,ew,zq⟩:=r.get h2
 have hl:=r.length
 have hn:=jL
 have fin:EP X pins σ Q w s:=⟨z,H,I,zq,q⟩
 exact subscriptTail_builtinR (x:=w) pl.typeIs slot_tuple_getitem.lookup
  (getItem_tuple (j:=j) (Q:=fun r s'=>r=w∧EP X pins σ Q r s') pl (by omega) (by omega) (by rw[List.size_toArray,←hl];exact h1) (by simpa using ew) ⟨rfl,fin⟩) hs
theorem lr:P7 X Rj:=by
 intro value slice pins s σ H x y v u Q I rx ry h hs
 obtain⟨z,i,c,rfl,rfl,hz,he,q⟩:=h
 obtain⟨t,rfl⟩:=rx
 obtain⟨t',rfl⟩:=ry
 obtain⟨j,h1,h2,h3,h4,h5⟩:=qC he
 have hl:z.cps.toList.length=z.length:=by simp [Str.length]
 rw[hl] at h1 h4 h5
 have hn:=jL
 exact tail_any (typeIs_str s z t) slot_str_getitem.lookup (getItem_str (c:=c) (by
  have e1:decide (i< -(2^63 :Int))=false:=decide_eq_false (by omega)
  have e2:decide (i≥2^63)=false:=decide_eq_false (by omega)
  rw[e1,e2,Bool.or_false]) (by rw[h1];simpa using h2) ⟨.str ⟨#[c]⟩,H,I.tok _,⟨_,rfl⟩,q⟩) hs
def jE:V→Bool
 | .cn=>true
 | .bl _=>true
 | .int _=>true
 | .str _=>true
 |_=>false
def AB:V→V→Bool
 | .cn, .cn=>true
 | .bl a, .bl b=>a==b
 | .bl a, .int b=>(if a then 1 else 0)==b
 | .int a, .bl b=>a==(if b then 1 else 0)
 | .int a, .int b=>a==b
 | .str a, .str b=>a==b
 |_,_=>false
theorem HF{A:Around}{s:Shared}{y x:V}{u v:Value}(ry:RelV y u)(rx:RelV x v)(fy:jE y=true)(fx:jE x=true):SeqAt.EqAt A s u v (AB y x):=by
 cases y with
 |cn=>
  cases ry
  cases x with
  |cn=>cases rx;exact SeqAt.EqAt.same _
  |bl b=>cases rx;exact SeqAt.EqAt.none_bool b
  |int b=>obtain⟨t,rfl⟩:=rx;exact SeqAt.EqAt.none_int b t
  |str b=>obtain⟨t,rfl⟩:=rx;exact SeqAt.EqAt.none_str b t
  |_=>exact absurd (show false=true from fx) Bool.false_ne_true
 |bl a=>
  cases ry
  cases x with
  |cn=>cases rx;exact SeqAt.EqAt.bool_none a
  |bl b=>cases rx;exact SeqAt.EqAt.bool_bool a b
  |int b=>obtain⟨t,rfl⟩:=rx;exact SeqAt.EqAt.bool_int a b t
  |str b=>obtain⟨t,rfl⟩:=rx;exact SeqAt.EqAt.bool_str a b t
  |_=>exact absurd (show false=true from fx) Bool.false_ne_true
 |int a=>
  obtain⟨t',rfl⟩:=ry
  cases x with
  |cn=>cases rx;exact SeqAt.EqAt.int_none a t'
  |bl b=>cases rx;exact SeqAt.EqAt.int_bool a t' b
  |int b=>obtain⟨t,rfl⟩:=rx;exact SeqAt.EqAt.int_int a t' b t
  |str b=>obtain⟨t,rfl⟩:=rx;exact SeqAt.EqAt.int_str a t' b t
  |_=>exact absurd (show false=true from fx) Bool.false_ne_true
 |str a=>
  obtain⟨t',rfl⟩:=ry
  cases x with
  |cn=>cases rx;exact SeqAt.EqAt.str_none a t'
  |bl b=>cases rx;exact SeqAt.EqAt.str_bool a t' b
  |int b=>obtain⟨t,rfl⟩:=rx;exact SeqAt.EqAt.str_int a t' b t
  |str b=>obtain⟨t,rfl⟩:=rx;exact SeqAt.EqAt.str_str a t' b t
  |_=>exact absurd (show false=true from fx) Bool.false_ne_true
 |_=>exact absurd (show false=true from fy) Bool.false_ne_true
def Ba(x:V)(u:Value):Bool:=match u with
 | .none=>AB .cn x
 | .bool b=>AB (.bl b) x
 | .int i _=>AB (.int i) x
 | .str z _=>AB (.str z) x
 |_=>false
theorem vK{x y:V}{u:Value}(r:RelV y u)(f:jE y=true):Ba x u=AB y x:=by
 cases y with
 |cn=>cases r;rfl
 |bl b=>cases r;rfl
 |int i=>obtain⟨t,rfl⟩:=r;rfl
 |str z=>obtain⟨t,rfl⟩:=r;rfl
 |_=>exact absurd (show false=true from f) Bool.false_ne_true
theorem qD{x:V}:∀{xs:List V} {us:List Value},Vals xs us→xs.all jE=true→us.any (Ba x)=xs.any fun y=>AB y x
 |_,_, .nil,_=>rfl
 |y::xs,u::us, .cons r t,f=>by
  rw[List.all_cons,Bool.and_eq_true] at f
  rw[List.any_cons,List.any_cons,vK r f.1,qD t f.2]
theorem j9{A:Around}{s:Shared}{x:V}{v:Value}(rx:RelV x v)(fx:jE x=true):∀{xs:List V} {us:List Value},Vals xs us→xs.all jE=true→∀u∈us,SeqAt.EqAt A s u v (Ba x u)
 |_,_, .nil,_=>fun u hu=>by cases hu
 |y::xs,u::us, .cons r t,f=>fun u' hu=>by
  rw[List.all_cons,Bool.and_eq_true] at f
  rcases List.mem_cons.mp hu with rfl|hu
  ·rw[vK r f.1];exact HF r rx f.1 fx
  ·exact j9 rx fx t f.2 u' hu
def zu(x:V)(xs:List V):Bool:=xs.any fun y=>AB y x
def YF(K:PySem.W.Frag)(neg:Bool):R2:=fun x y H Q=>∃p xs,y= .ref p∧(cL K H p xs∨mq K H p xs)∧jE x=true∧xs.all jE=true∧Q (.bl (if neg then !zu x xs else zu x xs)) H
theorem pH:lh X (compareOp .In) (YF X.K false):=by
 intro pins s σ H x y v u Q I rx ry h
 obtain⟨p,xs,rfl,hq,fx,fs,q⟩:=h
 cases ry
 rcases hq with hq|hq
 ·obtain⟨its,r,pl,hz⟩:=I.list hq
  refine SeqAt.in_listAt (Ba x) pl.isList (fun w hw=>j9 rx fx r fs w (by simpa using hw)) ⟨.bl _,H,I,rfl,?_⟩
  rw[show its.toArray.any (Ba x)=its.any (Ba x) by simp,qD r fs]
  exact q
 ·obtain⟨its,r,pl,hz⟩:=I.tuple hq
  refine SeqAt.in_tupleAt (Ba x) pl (fun w hw=>j9 rx fx r fs w (by simpa using hw)) ⟨.bl _,H,I,rfl,?_⟩
  rw[show its.toArray.any (Ba x)=its.any (Ba x) by simp,qD r fs]
  exact q
theorem qF:lh X (compareOp .NotIn) (fun x y H Q=>∃i j,x= .str i∧y= .str j∧Q (.bl (!(!(Builtin.Str.occurrences j i 0 j.length 1).isEmpty))) H):=by
 intro pins s σ H x y v u Q I rx ry h
 obtain⟨i,j,rfl,rfl,q⟩:=h
 obtain⟨t,rfl⟩:=rx
 obtain⟨t',rfl⟩:=ry
 exact notIn_str ⟨.bl _,H,I,rfl,q⟩
theorem eX:gD X (.builtin "len") (fun xs H Q=>∃p ys,xs=[.ref p]∧(cL X.K H p ys∨mq X.K H p ys)∧Q (.int ys.length) H):=by
 intro pins s σ H xs us Q I r h
 obtain⟨p,ys,rfl,hq,q⟩:=h
 obtain⟨u,rfl,rx⟩:=vals1 r
 cases rx
 have hn:=jL
 rcases hq with hq|hq
 ·obtain⟨its,r',pl,hz⟩:=I.list hq
  have hlen:=r'.length
  exact Calls.call_len_list pl.isList (by simp only [List.size_toArray]<;>omega) ⟨.int ys.length,H,I.tok _,⟨s.toks+1,by rw[List.size_toArray,hlen]⟩,q⟩
 ·obtain⟨its,r',pl,hz⟩:=I.tuple hq
  have hlen:=r'.length
  exact len_tuple pl (by simp only [List.size_toArray]<;>omega) ⟨.int ys.length,H,I.tok _,⟨s.toks+1,by rw[List.size_toArray,hlen]⟩,q⟩
theorem b4:gD X (.builtin "len") (fun xs H Q=>∃z,xs=[.str z]∧z.length≤sizeLine∧Q (.int z.length) H):=by
 intro pins s σ H xs us Q I r h
 obtain⟨z,rfl,hz,q⟩:=h
 obtain⟨u,rfl,t,rfl⟩:=vals1 r
 have hn:=jL
 exact len_str (by omega) ⟨.int z.length,H,I.tok _,⟨_,rfl⟩,q⟩
theorem dI:gD X (.type "list") (fun xs H Q=>∃p ys,xs=[.ref p]∧(cL X.K H p ys∨mq X.K H p ys)∧∀l,H l=none→Q (.ref l) (upd H l (.lst ys))):=by
 intro pins s σ H xs us Q I r h
 obtain⟨p,ys,rfl,hq,q⟩:=h
 obtain⟨u,rfl,rx⟩:=vals1 r
 cases rx
 have fin:∀(its:List Value),Vals ys its→ys.length≤sizeLine→∀(h':Heap) (c':Nat),(∀b o',s.heap.get? b=some o'→h'.get? b=some o')→
   h'.get? s.heap.objs.size=some { cls:= .type "list",dict:=none,data:= .seq its.toArray c',slots:=#[] }→EP X pins σ Q (.ref s.heap.objs.size) { s with heap:=h' }:=fun its r' hz h' c' kp e=>
  ⟨.ref s.heap.objs.size,_,I.laid (t':=s.toks) kp (Nat.le_refl _) (show bQ X.prog X.w _ h' _ (.lst ys) from ⟨hz,its,c',r',e⟩),rfl,q _ (I.bq.fresh (Nat.le_refl _))⟩
 rcases hq with hq|hq
 ·obtain⟨its,r',pl,hz⟩:=I.list hq
  have hlen:=r'.length
  obtain⟨o,ho,hc,n,hd⟩:=pl.isList
  exact call_list_seq p (.inl rfl) ho hc hd (fun h' c' kp e=>fin its r' hz h' c' kp e) (by simp only [List.size_toArray]<;>omega)
 ·obtain⟨its,r',pl,hz⟩:=I.tuple hq
  have hlen:=r'.length
  obtain⟨o,ho,hc,n,hd⟩:=pl
  exact call_list_seq p (.inr rfl) ho hc hd (fun h' c' kp e=>fin its r' hz h' c' kp e) (by simp only [List.size_toArray]<;>omega)
def W6(K:PySem.W.Frag)(T:String)(x:V)(H:Hp):Prop:=match x with
 | .str _=>T="str"
 | .int _=>T="int"
 | .ref p=>(T="list" ∧∃xs,cL K H p xs)∨(T="tuple" ∧∃o,K.lookup p=some o∧o.cls= .type "tuple" ∧o.dict=none)∨
   (T="dict" ∧((∃kvs,H p=some (.dK kvs))∨∃kvs,H p=some (.dT kvs)))∨(T="set" ∧∃S n,H p=some (.set S n))
 |_=>False
theorem HG{pins:List (Addr×Obj)}{σ:St}{H:Hp}{s:Shared}{T:String}{x:V}{v:Value}(I:Inv X pins σ H s)(r:RelV x v)(ty:W6 X.K T x H):
  s.TypeIs v T∧∀a,v= .ref a→∃ob,s.heap.get? a=some ob∧ob.dict=none:=by
 cases x with
 |str z=>
  obtain⟨t,rfl⟩:=r
  cases (show T="str" from ty)
  exact⟨typeIs_str s z t,fun _ e=>nomatch e⟩
 |int i=>
  obtain⟨t,rfl⟩:=r
  cases (show T="int" from ty)
  exact⟨typeIs_int s i t,fun _ e=>nomatch e⟩
 |ref p=>
  cases r
  rcases ty with ⟨rfl,xs,hq⟩ | ⟨rfl,o,hk,hc,hd⟩ | ⟨rfl,hk⟩ | ⟨rfl,S,n,hk⟩
  ·obtain⟨its,_,pl,_⟩:=I.list hq
   refine⟨pl.isList.typeIs,fun a e=>?_⟩
   cases e
   obtain⟨o,n,e,c,hd,_⟩:=pl
   exact⟨o,e,hd⟩
  ·refine⟨⟨o,I.fQ p o hk,hc⟩,fun a e=>?_⟩
   cases e
   exact⟨o,I.fQ _ o hk,hd⟩
  ·have z:∃o,s.heap.get? p=some o∧o.ExactDict:=by
    rcases hk with ⟨kvs,hk⟩ | ⟨kvs,hk⟩
    ·obtain⟨_,_,_,_,o,_,_,e,ex,_⟩:=I.bq p _ hk
     exact⟨o,e,ex⟩
    ·obtain⟨_,_,_,_,o,_,_,e,ex,_⟩:=I.bq p _ hk
     exact⟨o,e,ex⟩
   obtain⟨o,e,ex⟩:=z
   refine⟨⟨o,e,ex.1⟩,fun a e2=>?_⟩
   cases e2
   exact⟨o,e,ex.2.1⟩
  ·obtain⟨o,_,_,_,e,ex,_⟩:=I.bq p _ hk
   refine⟨⟨o,e,ex.1⟩,fun a e2=>?_⟩
   cases e2
   exact⟨o,e,ex.2.1⟩
 |_=>exact False.elim ty
def YG(K:PySem.W.Frag)(T:String)(r:V→List V→Hp→VK→Prop)(to:TE)(t:TA):TE:=fun σ H Q=>to σ H fun x H1=>W6 K T x H1∧t σ H1 fun xs H2=>r x xs H2 Q
variable {o e:Expr}{es:List Expr}{to:TE}{t:TA}{name:Str}{apos gJ:Pos}{T id:String}{r:V→List V→Hp→VK→Prop}
theorem eG(pa:PlainAttrs T)(slot:Slot T name id)(YH:typeOf (.builtin id)=pure (.type "method_descriptor"))(hm:Kj X id r)(ho:PE X o to)(ha:PA X (e::es) t)
  (Bb:attributeBase o name X.env (eval o X.env)=eval o X.env:=by rfl)
  (Rk:((backTo gJ (starEach (e::es) X.env)).all (fun x=>!x.1)&&(backToKw gJ (keywordEach [] X.env)).all (fun x=>x.1.isSome)
   &&decide ((e::es).length+([]:List Keyword).length+(if ([]:List Keyword).isEmpty then 0 else 1) <30))=true:=by rfl)
  (Bc:(apos.endLine==gJ.line)=true:=by rfl) (hs:starEach (e::es) X.env=(false,eval e X.env)::starEach es X.env:=by rfl) (HH:(backTo gJ (starEach es X.env)).any (·.1)=false:=by rfl):
  PE X (.Call (.Attribute o name apos) (e::es) [] gJ) (YG X.K T r to t):=by
 intro pins s σ H Q I h
 refine wpAny_Call_method_late Bb Rk Bc rfl (bU (ho pins s σ H _ I h) fun v s1 ⟨x,H1,I1,r1,ty,q1⟩=>?_)
 obtain⟨h1,h2⟩:=HG I1 r1 ty
 refine⟨T,id,pa,slot,YH,h1,h2,?_⟩
 have hA:=ha gJ pins s1 σ H1 _ I1 q1
 rw[hs] at hA ⊢
 refine Calls.callWith_builtin (by show (false||(backTo gJ (starEach es X.env)).any (·.1))=false;rw[HH]<;>rfl) (Calls.evalArgs_plain ?_)
 exact bU hA fun us s2 ⟨vs,H2,I2,r2,q2⟩=>hm pins s2 σ H2 x vs v us Q I2 r1 r2 q2
end
end L2
namespace L2
open PySem PySem.Spec PyProof.Rows
def YI(X:Cx)(id:String)(r:V→List V→Hp→VK→Prop):Prop:=
 ∀(pins:List (Addr×Obj)) (s:Shared) (σ:St) (H:Hp) (x:V) (xs:List V) (v:Value) (us:List Value) (Q:VK),Inv X pins σ H s→RelV x v→Vals xs us→r x xs H Q→
  wpAny (model X.prog X.w) X.A (call (.builtin id) (v::us)) (EP X pins σ Q) X.xe s
theorem Vals.one:∀{x:V} {us:List Value},Vals [x] us→∃u,us=[u]∧RelV x u
 |_,_, .cons r .nil=>⟨_,rfl,r⟩
section
variable {X:Cx}{pins:List (Addr×Obj)}{σ:St}{H:Hp}{s:Shared}{l b:Addr}{xs ys zs:List V}
theorem Inv.Rl{its its':List Value}{n:Nat}{f:Array Value→Array Value}{t':Nat}(I:Inv X pins σ H s)(hH:H l=some (.lst xs))
  (e:s.heap.get? l=some { cls:= .type "list",data:= .seq its.toArray n }) (hf:f its.toArray=its'.toArray) (hv:Vals ys its') (hz:ys.length≤sizeLine):
  Inv X pins σ (upd H l (.lst ys)) { s with heap:=s.heap.update l (Obj.mapSeq f),toks:=t' }:=by
 have q:=PySem.IsL.update e f
 rw[hf] at q
 refine I.write (x:=l) (e:=l) (by rw[hH];exact trivial) (.inl rfl) (fun b' u hb hu=>(Heap.get?_update_other s.heap (Obj.mapSeq f) (Ne.symm hb)).trans hu) ⟨_,q⟩ ?_
 exact⟨hz,its',_,hv,q⟩
theorem Inv.Rm{its:List Value}{t':Nat}(I:Inv X pins σ H s)(hv:Vals ys its)(hz:ys.length≤sizeLine):
  Inv X pins σ (upd H s.heap.objs.size (.lst ys)) { s with heap:=s.heap.push { cls:= .type "list",data:= .seq its.toArray },toks:=t' }:=
 I.laid (fun _ _ q=>Heap.get?_push_of_some _ q) (Nat.le_refl _) ⟨hz,its,0,hv,Heap.get?_push_size _ rfl⟩
theorem Inv.fresh(I:Inv X pins σ H s):H s.heap.objs.size=none:=I.bq.fresh (Nat.le_refl _)
theorem Inv.Lj(I:Inv X pins σ H s)(hH:H l=some (.lst xs)):xs.length≤sizeLine∧∃(its:List Value) (n:Nat),Vals xs its∧xs.length=its.length∧s.heap.get? l=some { cls:= .type "list",data:= .seq its.toArray n }:=by
 obtain⟨z,its,n,r,e⟩:=I.bq l _ hH
 exact⟨z,its,n,r,r.length,e⟩
end
section
variable {X:Cx}
def D8:V→List V→Hp→VK→Prop:=fun x vs H Q=>∃l xs y,x= .ref l∧vs=[y]∧H l=some (.lst xs)∧xs.length<sizeLine∧Q .cn (upd H l (.lst (xs++[y])))
theorem dW:YI X "list.append" D8:=by
 intro pins s σ H x vs v us Q I rx rv h
 obtain⟨l,xs,y,rfl,rfl,hH,hz,q⟩:=h
 cases rx
 obtain⟨u,rfl,ru⟩:=rv.one
 obtain⟨z,its,n,r,hl,e⟩:=I.Lj hH
 refine call_meets F.slot_list_append ⟨_,e,rfl⟩ F.entry_list_append (F.args_list_append_2 _ _) (PySem.list_append l its.toArray n u (by rw[List.size_toArray];omega)) ⟨e,?_⟩
 refine⟨.cn,_,I.Rl (its':=its++[u]) hH e (by simp) (r.append (.cons ru .nil)) ?_,rfl,q⟩
 rw[List.length_append,List.length_singleton]
 omega
end
section
variable {prog:Program}{w:World}{A:Around}{E:Value→Shared→Prop}{s:Shared}
end
section
variable {X:Cx}
end
end L2
namespace W7
open PySem PySem.W PySem.Calls PyProof.Rows
theorem mh{P:Params}{h:Heap}:∀(ns:List Int) (vs:List Value),WellAll P h vs (ns.map WData.int)→IntsAre vs ns:=by
 intro ns
 induction ns with
 |nil=>
  intro vs w
  rw[List.map_nil] at w
  cases w
  exact .nil
 |cons n ns ih=>
  intro vs w
  rw[List.map_cons] at w
  cases w with
  |cons a b=>
   cases a
   exact .cons _ _ (ih _ b)
theorem zv{l:OpenLaw}{n:Nat}(hn:l.most=some n){P:Params}{h:Heap}{args:List WData}{vals:List Value}
  (lu:l.row.toRowW.claim.pre args=true) (Rn:WellAll P h vals args):
  ∃a vs ns,vals=[Value.ref a]∧args=[WData.list (ns.map WData.int)]∧h.get? a=some { cls:= .type "list",data:= .seq vs.toArray }∧IntsAre vs ns∧ns.length≤n:=by
 have Kk:WShape.hasAll [] args [.list .int]=true:=(pre_splitW lu).1
 have hc:l.pre.holds [] { args:=args }=true:=(pre_splitW lu).2
 obtain⟨d,r,rfl,h1,h2⟩:=hasAllW_cons Kk
 obtain rfl:=hasAllW_nil h2
 obtain⟨xs,rfl,h3⟩:=hasW_list h1
 obtain⟨ns,rfl⟩:=items_int h3
 have hlen:ns.length≤n:=by
  unfold OpenLaw.pre at hc
  have h4:(WTm.not (.lt (.lit (.int (n:Int))) (.len (.arg 0)))).holds [] { args:=[.list (ns.map .int)] }=true:=by
   have h4:=(holds_andW hc).1
   rw[hn] at h4
   exact h4
  have h5:=condW_of h4 (w_not (w_lt w_lit (w_len_list (w_arg rfl))))
  rw[List.length_map] at h5
  refine Nat.le_of_not_lt fun q=>?_
  have q':(n:Int) < ((ns.length:Nat):Int):=by omega
  first
   | (rw[decide_eq_true q'] at h5;exact absurd h5 (by decide))
   | (simp at h5;omega)
 cases Rn with
 |cons w1 w2=>
  cases w2
  cases w1 with
  |list ho Ro=>exact⟨_,_,ns,rfl,rfl,ho,mh ns _ Ro,hlen⟩
theorem zw(l:OpenLaw)(args:List WData):l.row.toRowW.claim.post args (.bool true) args=true:=
 postW_of (r:=l.row.toRowW) (X:=(true==true))
  (show WShape.has [] (.bool true) .bool=true by first|rfl|decide|simp [WShape.has,WShape.arms,WShape.armsAll])
  (show (WTm.eq .res (.lit (.bool true))).value [] { args:=args,res:=some (.bool true),after:=args }=some (.bool (true==true)) from w_eq_bool (w_res rfl) w_lit) rfl
theorem tf{l:OpenLaw}{n:Nat}{q:Program}{loose:List Str}{XP:(Str→Option Value)→Heap→Prop}{YP:World→Heap→Prop}{d:DefRec}
  (hn:l.most=some n) (Lk:d.params.defaults=[])
  (call:∀(w:World) (s₀ s₁:Shared) (mg mb:Str→Option Value) (fa:Addr) (o:Obj) (pm cd doc:Value) (a:Addr) (vs:List Value) (ns:List Int),
   Ground q loose [] XP w s₀ mg mb s₁.heap→YP w s₁.heap→
   s₁.heap.get? fa=some o→o.data= .func (docDef d.name d.params d.body d.scope pm cd doc)→s₁.heap.CodeRec cd d.name→mg d.name=some (.ref fa)→
   s₁.heap.get? a=some { cls:= .type "list",data:= .seq vs.toArray }→IntsAre vs ns→ns.length≤n→s₁.gens=#[]→
   codeAny (model l.prog w) callerA (.call (.ref fa) ⟨[.ref a],[]⟩) (fun r s'=>r= .ok (.ret (.bool true))∧OldK s₁.heap s'.heap∧s'.os=s₁.os∧AllBare s'.gens) s₁):
  WalkO q loose XP YP l.row.toRowW d [] (fun f vs=>PySem.call f vs):=by
 intro w s₀ s₁ mg mb G Y fa o pm cd doc dV kV ho hd me hD Ll hg args vals as lu YJ hrd Rn zx
 obtain rfl:dV= .none:=Dflts.none hD Lk
 obtain rfl:kV= .none:=Dflts.noKw hD
 obtain⟨a,vs,ns,rfl,rfl,HI,hints,hlen⟩:=zv hn lu Rn
 refine enter_call (codeAny_mono (call w s₀ s₁ mg mb fa o pm cd doc a vs ns G Y ho (fd_plain hd) me Ll HI hints hlen hg) fun r s' hq=>?_)
 obtain⟨rfl,h2,h3,h4⟩:=hq
 exact⟨.inl ⟨.bool true, .bool true,[],rfl,fun _=>rfl, .bool true,zw l _,fun _=>⟨List.Pairwise.nil,fun _ hm=>(nomatch hm)⟩⟩,h2,h3,h4⟩
section
variable {prog:Program}{w:World}{A:Around}{E:Value→Shared→Prop}{s:Shared}{K:Frag}
end
end W7
namespace L2
open PySem PySem.Spec PyProof.Rows
theorem pI:∀{vs:List Value} {ns:List Int},IntsAre vs ns→Vals (ns.map V.int) vs
 |_,_, .nil=> .nil
 |_,_, .cons n t h=> .cons ⟨t,rfl⟩ (pI h)
def HJ(H:Hp):Prop:=∀b,H b=none∨∃o xs,H b=some (.kY o (.lst xs))
theorem Bd{P:Program}{w:World}{K:PySem.W.Frag}{mg mb:Str→Option Value}{CX:AA}{k:Nat}{fa a:Addr}{fd:FuncData}{x:Str}{sp:Sp}{s₁:Shared}{vs:List Value}{ns:List Int}
  (KX:K.In s₁.heap) (Gj:s₁.heap.Ns mainGlobals mg) (hb:s₁.heap.Ns builtinsNs mb) (YK:∀x:Str,x≠"__name__" →mb x=bootBuiltins x) (Rp:s₁.heap.NoLimit) (hg:s₁.gens=#[])
  (ha:s₁.heap.get? a=some { cls:= .type "list",data:= .seq vs.toArray }) (hi:IntsAre vs ns) (hl:ns.length≤sizeLine) (hr:b8 k callerA)
  (F:∀base:Heap,K.In base→base.Ns mainGlobals mg→eD P w K mg base CX k fa fd [x] sp) (Lm:∀(s:Shared) (u:Value),BindsTo s fd ⟨[u],[]⟩ [(x,u)])
  (vH:∀H:Hp,HJ H→cL K H a (ns.map V.int)→sp [.ref a] H (fun v _=>v= .bl true) fun _ _ _=>False)
  (Rq:∀H e s',CX [] H s₁ (fun _ _ _=>False) e s'→False):
  codeAny (model P w) callerA (.call (.ref fa) ⟨[.ref a],[]⟩) (fun r s'=>r= .ok (.ret (.bool true))∧OldK s₁.heap s'.heap∧s'.os=s₁.os∧AllBare s'.gens) s₁:=by
 have rv:=pI hi
 have Rr:=hi.length
 have core:∀H:Hp,HJ H→cL K H a (ns.map V.int)→ix P w H s₁.heap→(∀b,H b≠none→b=a)→(H a≠none→K.lookup a=none)→
   codeAny (model P w) callerA (.call (.ref fa) ⟨[.ref a],[]⟩) (fun r s'=>r= .ok (.ret (.bool true))∧OldK s₁.heap s'.heap∧s'.os=s₁.os∧AllBare s'.gens) s₁:=by
  intro H hO hS bq hA hK
  have base_of:∀{b:Addr} {o:Obj},s₁.heap.get? b=some o→H b=none→(qp s₁.heap H).get? b=some o:=fun e n=>AL e n
  have Lc:∀{b:Addr} {o:Obj} {es:Array DictEntry} {ep:Nat},s₁.heap.get? b=some o→o.data= .dict es ep→H b=none:=fun {b o es ep} e d=>by
   cases q:H b with
   |none=>rfl
   |some u=>
    have e':b=a:=hA b (by rw[q];simp)
    subst e'
    rw[ha] at e;cases e
    have d':Data.seq vs.toArray _=Data.dict es ep:=d
    cases d'
  have P8:∀{b:Addr} {m:Str→Option Value},s₁.heap.Ns b m→(qp s₁.heap H).Ns b m:=fun {b m} ⟨o,es,ep,e,d,r⟩=>⟨o,es,ep,base_of e (Lc e d),d,r⟩
  have W8:K.In (qp s₁.heap H):=fun b o e=>base_of (KX b o e) (by
   cases q:H b with
   |none=>rfl
   |some u=>
    have e':b=a:=hA b (by rw[q];simp)
    subst e'
    rw[hK (by rw[q];simp)] at e;cases e)
  have hM:Mod K mg (qp s₁.heap H):=⟨W8,P8 Gj,⟨mb,P8 hb,YK⟩,let ⟨mc,h1,h2⟩:=Rp;⟨mc,P8 h1,h2⟩⟩
  have e0:qA P w K mg (qp s₁.heap H) callerA [] s₁ H:=⟨rfl,hM,fun b o e=>DP e,Nat.le_of_eq (yW _ _),trivial,fun b hb=>absurd (show b∈([]:List Addr) from hb) (by simp),bq, .of_eq hg⟩
  refine codeAny_mono ((F _ W8 (P8 Gj)).run callerA [] s₁ H ⟨[.ref a],[]⟩ [.ref a] [.ref a] _ _ hr e0 (Lm s₁ (.ref a)) (.cons rfl .nil) (vH H hO hS)) fun r s' h=>?_
  cases r with
  |error e=>exact(Rq H e s' h).elim
  |ok fl=>
   cases fl with
   |next=>exact False.elim h
   |brk=>exact False.elim h
   |cont=>exact False.elim h
   |ret u=>
    obtain⟨v,H',os,bare,un,Rt,r',q⟩:=h
    have q':v= .bl true:=q
    subst q'
    obtain rfl:u=Value.bool true:=r'
    refine⟨rfl,OldK.of_keep fun b o e=>?_,os,bare⟩
    cases q:H b with
    |none=>exact un.keep b o e q (by intro z;exact absurd (show b∈([]:List Addr) from z) (by simp)) (by simp)
    |some u=>
     rcases hO b with z| ⟨ob,xs,z⟩
     ·rw[q] at z;cases z
     ·have z2:=un.k7 b ob _ z
      obtain⟨e1,_⟩:=bq b _ z
      obtain⟨e2,_⟩:=Rt b _ z2
      rw[e] at e1;cases e1
      exact e2
 cases hk:K.lookup a with
 |some o=>
  have e:=KX a o hk
  rw[ha] at e
  cases e
  refine core (fun _=>none) (fun _=> .inl rfl) (.inr ⟨_,vs.toArray,_,hk,rfl,rfl,rfl,by rw[List.size_toArray,Rr];exact hl,by simpa using rv⟩) (fun b u z=>by have z':(none:Option HO)=some u:=z;cases z') (fun b z=>absurd rfl z) fun z=>absurd rfl z
 |none=>
  refine core (fun b=>if b=a then some (.kY { cls:= .type "list",data:= .seq vs.toArray } (.lst (ns.map V.int))) else none) (fun b=>?_) (.inl (.inr ⟨{ cls:= .type "list",data:= .seq vs.toArray },if_pos rfl⟩)) (fun b u z=>?_) (fun b z=>?_) fun _=>hk
  ·by_cases hb:b=a
   ·exact .inr ⟨_,_,if_pos hb⟩
   ·exact .inl (if_neg hb)
  ·by_cases hb:b=a
   ·have z':=(if_pos hb).symm.trans z
    cases z'
    subst hb
    exact⟨ha,by rw[List.length_map];exact hl,vs,_,rv,ha⟩
   ·have z':=(if_neg hb).symm.trans z
    cases z'
  ·by_cases hb:b=a
   ·exact hb
   ·exact absurd (if_neg hb) z
end L2
namespace L2
open PySem PySem.Spec PyProof.Rows
theorem D9{l:PySem.W.OpenLaw}{n k:Nat}{q:Program}{loose:List Str}{XP:(Str→Option Value)→Heap→Prop}{YP:World→Heap→Prop}{d:DefRec}{K:Params→PySem.W.Frag}{CX:World→AA}{sp:World→Sp}{x:Str}
  (hn:l.most=some n) (Gh:n≤sizeLine) (Lk:d.params.defaults=[]) (hr:b8 k callerA)
  (hY:∀(w:World) (h:Heap),YP w h→(K w.params).In h)
  (F:∀(w:World) (mg:Str→Option Value) (fa:Addr) (h:Heap),(K w.params).In h→h.Ns mainGlobals mg→mg d.name=some (.ref fa)→
   ∃fd:FuncData,(∀(s:Shared) (u:Value),BindsTo s fd ⟨[u],[]⟩ [(x,u)])∧
    ∀base:Heap,(K w.params).In base→base.Ns mainGlobals mg→eD l.prog w (K w.params) mg base (CX w) k fa fd [x] (sp w))
  (vH:∀(w:World) (H:Hp) (a:Addr) (ns:List Int),ns.length≤n→HJ H→cL (K w.params) H a (ns.map V.int)→sp w [.ref a] H (fun v _=>v= .bl true) fun _ _ _=>False)
  (Rq:∀(w:World) (H:Hp) (s:Shared) (e:Value) (s':Shared),CX w [] H s (fun _ _ _=>False) e s'→False):
  PySem.W.WalkO q loose XP YP l.row.toRowW d [] (fun f vs=>PySem.call f vs):=by
 refine W7.tf hn Lk fun w s₀ s₁ mg mb fa o pm cd doc a vs ns G Y ho hd me Ll HI hints hlen hg=>?_
 have KX:=hY w _ Y
 obtain⟨fd,hb,hF⟩:=F w mg fa _ KX G.T.g Ll
 exact Bd KX G.T.g G.T.b G.T.builtins G.T.nolimit hg HI hints (Nat.le_trans hlen Gh) hr hF hb (fun H hO hS=>vH w H a ns hlen hO hS) fun H e s'=>Rq w H s₁ e s'
end L2
namespace L2
open PySem PySem.Spec PyProof.Rows
def inClass(s:Stmt)(j:Nat):Stmt:=match s with
 | .ClassDef _ _ _ body _ _ _ _ _ _ _=>body.getD j (.Pass ⟨0,0,0,0⟩)
 |_=> .Pass ⟨0,0,0,0⟩
def bI(s:Stmt):Arguments:=match s with
 | .FunctionDef _ a _ _ _ _ _ _ _ _=>a
 |_=>{ posonlyargs:=[],args:=[],vararg:=none,kwonlyargs:=[],kw_defaults:=[],kwarg:=none,defaults:=[] }
def bg(s:Stmt):List Stmt:=match s with
 | .FunctionDef _ _ b _ _ _ _ _ _ _=>b
 |_=>[]
def ak(s:Stmt):Scope:=match s with
 | .FunctionDef _ _ _ _ _ _ sc _ _ _=>sc
 |_=>{ kind:= .function,names:=[],isGenerator:=false,isCoroutine:=false }
abbrev mB:AA:=fun _ _ _ _ _ _=>False
abbrev E0:XK:=fun _ _ _=>False
theorem aP{X:Cx}:Passes mB X E0:=fun _ _ _ _ _ _ _ h=>h.elim
structure xw(K:PySem.W.Frag)(x qual:Str)(st:Stmt)(f:Addr)(fd:FuncData):Prop where
 ex:∃(oc:Value) (od:Option Addr) (kV doc pm:Value) (an:Option Addr) (bo ct:Value) (mw:Array (Option Value)),
  fd=PySem.W.fnOf x qual (bI st) (bg st) (ak st) .none kV doc pm an bo ct∧K.lookup f=some ⟨oc,od, .func fd,mw⟩∧PySem.W.codeIn K bo qual=true
 kp:PySem.W.keepIn K (.ref f)=true
section
variable {P:Program}{w:World}{K:PySem.W.Frag}{mg:Str→Option Value}{base:Heap}
theorem xw.ok{x qual:Str}{st:Stmt}{f:Addr}{fd:FuncData}{N ps:List Str}{k:Nat}{sp:Sp}(F:xw K x qual st f fd)(S:ay N ps (ak st))(len:∀vs H Q E,sp vs H Q E→vs.length=ps.length)
  (cP:∀(bo:Value) (A:Around) (outer:List Env) (s:Shared) (H:Hp) (vs:List V) (Q:VK) (E:XK),b8 k (A.deeper (envOfC qual (ak st) s.heap.objs.size f bo))→sp vs H Q E→
   ∃t,jJ (fR mB P w K mg base N qual (ak st) f bo A outer s H E).DA (bg st) t∧t { nx:=fun _ H'=>Q .cn H',rt:=Q } (start N vs) H):eD P w K mg base mB (k+1) f fd ps sp:=by
 obtain⟨oc,od,kV,doc,pm,an,bo,ct,mw,rfl,lk,me⟩:=F.ex
 refine fn_of lk me S len fun A outer s H vs Q E hr vH=>?_
 obtain⟨t,h,q⟩:=cP bo A outer s H vs Q E hr vH
 exact⟨t,h.DA,q⟩
theorem xw.binds{x qual:Str}{st:Stmt}{f:Addr}{fd:FuncData}{ps:List Str}(F:xw K x qual st f fd)
  (h:∀(kV doc pm:Value) (an:Option Addr) (bo ct:Value) (us:List Value),us.length=ps.length→bindArgs (PySem.W.fnOf x qual (bI st) (bg st) (ak st) .none kV doc pm an bo ct) ⟨us,[]⟩=pure (ps.zip us)):Binds K fd ps []:=by
 obtain⟨oc,od,kV,doc,pm,an,bo,ct,mw,rfl,lk,me⟩:=F.ex
 exact .all (h kV doc pm an bo ct)
theorem HK{x qual:Str}{st:Stmt}{f:Addr}{oc:Value}{od an:Option Addr}{mw:Array (Option Value)}{kV doc pm bo ct:Value}(l:K.lookup f=some ⟨oc,od, .func (PySem.W.fnOf x qual (bI st) (bg st) (ak st) .none kV doc pm an bo ct),mw⟩)
  (c:PySem.W.codeIn K bo qual=true) (k:PySem.W.keepIn K (.ref f)=true):xw K x qual st f (PySem.W.fnOf x qual (bI st) (bg st) (ak st) .none kV doc pm an bo ct):=⟨⟨oc,od,kV,doc,pm,an,bo,ct,mw,rfl,l,c⟩,k⟩
end
theorem Be{A:Around}{k:Nat}(hr:b8 k A):A.units+1<cLine:=Nat.lt_of_le_of_lt (Nat.add_le_add_left (by decide:1≤64) _) hr.units
section
variable {X:Cx}
theorem pv(i:Nat){x:Str}{pos:Pos}(hN:X.N[i]? =some x:=by rfl)(hv:QN X.env.scope x:=by first|exact Or.inl rfl|exact Or.inr (Or.inl rfl) |exact Or.inr (Or.inr rfl))(hd:(x==("__debug__" :Str))=false:=by decide)
  (me:(x==("__classdict__" :Str))=false:=by decide):PE X (.Name x pos) (vw i):=Hk hN hv hd me
end
theorem cQ{A B:Prop}(h:B):if false=true then A else B:=by
 rw[if_neg Bool.false_ne_true]
 exact h
theorem dJ{A B:Prop}(h:A):if true=true then A else B:=by
 rw[if_pos rfl]
 exact h
theorem gZ{c A B:Prop}[Decidable c](h1:c→A)(h2:¬c→B):if c then A else B:=by
 by_cases h:c
 ·rw[if_pos h]
  exact h1 h
 ·rw[if_neg h]
  exact h2 h
theorem Ln{c A B:Prop}[Decidable c](hc:c)(h:B):if (!decide c)=true then A else B:=by
 rw[decide_eq_true hc]
 exact cQ h
def aF(H H':Hp):Prop:=∀b o,H b=some o→H' b=some o
theorem aF.refl(H:Hp):aF H H:=fun _ _ h=>h
theorem aF.trans{H H1 H2:Hp}(a:aF H H1)(b:aF H1 H2):aF H H2:=fun c o h=>b c o (a c o h)
theorem aF.free{H H':Hp}(e:aF H H'){l:Addr}(h:H' l=Option.none):H l=Option.none:=by
 cases q:H l with
 |none=>rfl
 |some o=>
  rw[e l o q] at h
  cases h
theorem aF.seq{K:PySem.W.Frag}{H H':Hp}{a:Addr}{xs:List V}(e:aF H H')(h:cL K H a xs):cL K H' a xs:=by
 rcases h with (h| ⟨o,h⟩) |h
 ·exact .inl (.inl (e _ _ h))
 ·exact .inl (.inr ⟨o,e _ _ h⟩)
 ·exact .inr h
section
variable {κ:Type}[DecidableEq κ]
theorem ti{kvs:List (κ×V)}{k:κ}(h:de kvs k=none):¬k∈kvs.map (·.1):=by
 intro m
 obtain⟨p,hp,e⟩:=List.mem_map.mp m
 have q:(kvs.any fun kv=>decide (kv.1=k))=true:=List.any_eq_true.mpr ⟨p,hp,decide_eq_true e⟩
 rw[gI,h] at q
 exact absurd q (by simp)
theorem D'{kvs:List (κ×V)}{k:κ}{v:V}(h:de kvs k=some v):k∈kvs.map (·.1):=by
 have q:(kvs.any fun kv=>decide (kv.1=k))=true:=by
  rw[gI,h]
  all_goals rfl
 obtain⟨p,hp,e⟩:=List.any_eq_true.mp q
 exact List.mem_map.mpr ⟨p,hp,of_decide_eq_true e⟩
theorem xx:∀{l:List κ} {k:κ},l.Nodup→¬k∈l→(l++[k]).Nodup
 | [],k,_,_=>by simp
 |a::r,k,h,hk=>by
  obtain⟨h1,h2⟩:=List.nodup_cons.mp h
  show (a::(r++[k])).Nodup
  refine List.nodup_cons.mpr ⟨fun m=>?_,xx h2 fun m=>hk (List.mem_cons.mpr (Or.inr m))⟩
  rcases List.mem_append.mp m with q|q
  ·exact h1 q
  ·exact hk (List.mem_cons.mpr (Or.inl (List.mem_singleton.mp q).symm))
theorem Ea{kvs:List (κ×V)}{k:κ}(v:V)(hn:(kvs.map (·.1)).Nodup)(h:de kvs k=none):((putK kvs k v).map (·.1)).Nodup:=by
 rw[sS v h,List.map_append]
 exact xx hn (ti h)
end
end L2
namespace L2
open PySem PySem.Spec PyProof.Rows
section
variable {X:Cx}{pins:List (Addr×Obj)}{σ:St}{H:Hp}{s:Shared}{a:Addr}{u u':HO}
theorem Inv.Gk(I:Inv X pins σ H s)(e:H a=some u)(nw:bQ X.prog X.w (upd H a u') s.heap a u')
  (h1:∀xs,X.H₀ a≠some (.tup xs)) (h2:∀o z,X.H₀ a≠some (.kY o z)) (h3:∀ps,X.H₀ a≠some (.F' ps))
  (n1:∀x,u≠ .own x) (n2:∀xs,u≠ .tup xs):Inv X pins σ (upd H a u') s:=by
 have na:∀b,H b=none→(upd H a u') b=none:=fun b q=>by
  rw[ao (fun z=>by rw[z,e] at q;cases q)];exact q
 have B:=I.base
 refine⟨I.ok,I.os,I.bare,⟨B.keep,B.slot,fun b o q n x=>na b (B.free b o q n x),B.there,fun b xs q=>?_,fun b o z q=>?_,fun b ps q=>?_⟩,
  I.loc,I.cell,na _ I.free,fun x c q=>na _ (I.eS x c q),fun p hp=>?_,fun b o q=>?_,I.len⟩
 ·rw[ao (show b≠a from fun z=>h1 xs (by rw[←z];exact q))];exact B.kZ b xs q
 ·rw[ao (show b≠a from fun z'=>h2 o z (by rw[←z'];exact q))];exact B.k7 b o z q
 ·rw[ao (show b≠a from fun z'=>h3 ps (by rw[←z'];exact q))];exact B.k8 b ps q
 ·obtain⟨p1,p2,p3⟩:=I.pin p hp
  exact⟨p1,na _ p2,p3⟩
 ·by_cases hb:b=a
  ·subst hb
   rw[ag] at q
   cases q
   exact nw
  ·rw[ao hb] at q
   refine(I.bq b o q).qo (fun _ _ _ z=>z) (fun c z=>?_) fun c xs z=>?_
   ·rw[ao (fun z'=>by rw[z',e] at z;exact n1 b (Option.some.inj z))];exact z
   ·rw[ao (fun z'=>by rw[z',e] at z;exact n2 xs (Option.some.inj z))];exact z
def NF(X:Cx)(a:Addr):Prop:=∀o z,X.H₀ a≠some (.kY o z)
theorem Inv.nf{kvs:List (Key×V)}(I:Inv X pins σ H s)(e:H a=some (.dK kvs)):NF X a:=fun o z q=>by
 have:=I.base.k7 a o z q
 rw[e] at this;cases this
theorem Inv.freeze{kvs:List (Key×V)}(I:Inv X pins σ H s)(e:H a=some (.dK kvs)):∃o,s.heap.get? a=some o∧Inv X pins σ (upd H a (.kY o (.dK kvs))) s:=by
 have ok:=I.bq a _ e
 obtain⟨z,hd,vs,rel,dd⟩:=A7 I.bq e
 obtain⟨o,es,ep,ho,r⟩:=id dd
 refine⟨o,ho,I.Gk e ⟨ho,z,hd,vs,rel,dd⟩ (fun xs q=>?_) (I.nf e) (fun ps q=>?_) (fun x q=>by cases q) fun xs q=>by cases q⟩
 ·have:=I.base.kZ a xs q
  rw[e] at this;cases this
 ·obtain⟨m,q'⟩:=I.base.k8 a ps q
  rw[e] at q';cases q'
theorem Inv.Ru{kvs:List (Key×V)}{o:Obj}(I:Inv X pins σ H s)(e:H a=some (.kY o (.dK kvs)))(nf:NF X a):Inv X pins σ (upd H a (.dK kvs)) s:=by
 obtain⟨ho,z,hd,vs,rel,dd⟩:=(show bQ X.prog X.w H s.heap a (.kY o (.dK kvs)) from I.bq a _ e)
 refine I.Gk e (show bQ X.prog X.w _ s.heap a (.dK kvs) from ⟨z,hd,vs,rel,dd⟩) (fun xs q=>?_) nf (fun ps q=>?_) (fun x q=>by cases q) fun xs q=>by cases q
 ·have:=I.base.kZ a xs q
  rw[e] at this;cases this
 ·obtain⟨m,q'⟩:=I.base.k8 a ps q
  rw[e] at q';cases q'
end
def Lo(a:Addr)(o:Obj)(kvs:List (Key×V)):It:=
 ⟨fun i H=>H a=some (.kY o (.dK kvs))∧i<kvs.length,fun i H x H'=>H'=H∧∃k v,kvs[i]? =some (k,v)∧x=kV k,fun i H=>H a=some (.kY o (.dK kvs))∧kvs.length≤i⟩
theorem KV.get{κ:Type}:∀{kvs:List (κ×V)} {vs:List (κ×Value)} {i:Nat} {k:κ} {v:V},KV kvs vs→kvs[i]? =some (k,v)→∃u,vs[i]? =some (k,u)∧RelV v u
 |_,_,_,_,_, .nil,h=>by simp at h
 |_,_,0,k,v, .cons (a:=p) (b:=q) r _,h=>by
  have hp:p=(k,v):=by simpa using h
  subst hp
  have e:k=q.1:=r.1
  exact⟨q.2,by rw[List.getElem?_cons_zero,e],r.2⟩
 |_,_,i+1,_,_, .cons _ t,h=>by
  simp only [List.getElem?_cons_succ] at h ⊢
  exact KV.get (kvs:=_) t h
theorem Eb{P:Program}{w:World}{k:Key}{u:Value}(h:(bV P w).is k u=true):RelV (kV k) u:=by
 rw[vq] at h
 rcases b5 h with ⟨i,t,rfl,rfl⟩ | ⟨x,t,rfl,rfl⟩
 ·exact⟨t,rfl⟩
 ·exact⟨t,rfl⟩
theorem Bf{P:Program}{w:World}{H:Hp}{h:Heap}{a:Addr}{o:Obj}{kvs:List (Key×V)}{es:Array DictEntry}{ep:Nat}(ok:ix P w H h)(e:H a=some (.kY o (.dK kvs)))(hd:o.data= .dict es ep):
  ∃vs,KV kvs vs∧h.DictAt (bV P w) a vs ep∧(a==sysModules)=false:=by
 obtain⟨ho,z,hs,vs,rel,dd⟩:=(show bQ P w H h a (.kY o (.dK kvs)) from ok a _ e)
 obtain⟨o',PZ,P0,vv,ex,qt,r⟩:=dd
 rw[ho] at vv;cases vv
 rw[hd] at qt;cases qt
 exact⟨vs,rel,⟨o,es,ho,ex,hd,r⟩,hs⟩
theorem zy{P:Program}{w:World}{K:PySem.W.Frag}{tg:Expr}(a it:Addr)(o:Obj)(kvs:List (Key×V)){es:Array DictEntry}{ep:Nat}(hd:o.data= .dict es ep):
  Turn P w K tg (Lo a o kvs) [it] it (fun i h=>h.IsKeyIter it a i kvs.length ep) where
 mem:=by simp
 obj:=fun i h st b hb=>by
  have e:b=it:=by simpa using hb
  subst e
  obtain⟨o,e,c,d⟩:=st
  exact⟨o,e,fun v z=>by rw[d] at z;cases z⟩
 keep:=fun i h h' st k=>let ⟨o,ho,r⟩:=st;⟨o,k it (by simp) o ho,r⟩
 item:=by
  intro X hP hw hK hc i pins s σ H E I hf st hg
  subst hP hw hK
  obtain⟨hz,hi⟩:=hg
  obtain⟨vs,rel,dd,hs⟩:=Bf I.bq hz hd
  obtain⟨k,v,P9⟩:∃k v,kvs[i]? =some (k,v):=⟨kvs[i].1,kvs[i].2,by simp [hi]⟩
  obtain⟨u,hu,ru⟩:=rel.get P9
  obtain⟨f0,f1,f2,f3,f4,f5⟩:=hf it (by simp)
  rw[rel.length] at st
  refine wpAny_pyNext_dict_item st dd hu fun key h' hk Az sb=>?_
  rw[←rel.length] at Az
  have I1:Inv X pins σ H { s with heap:=h' }:=I.turned (t':=s.toks) (fun b o hb e=>(sb.2 b hb).trans e) f0 f1 f3 f4 f5
  obtain⟨oi,e,c,d⟩:=id Az
  exact⟨key,rfl,xo (s:={ s with heap:=h' }) e c d (by decide) ⟨kV k,H,I1,Eb hk,⟨rfl,k,v,P9,rfl⟩,Az,fun b hb=>(hf b hb).1⟩⟩
 done:=by
  intro X hP hw hK hc i pins s σ H E I hf st hg
  subst hP hw hK
  obtain⟨hz,hi⟩:=hg
  obtain⟨vs,rel,dd,hs⟩:=Bf I.bq hz hd
  obtain⟨f0,f1,f2,f3,f4,f5⟩:=hf it (by simp)
  rw[rel.length] at st hi
  exact wpAny_pyNext_dict_end (I.ok.hd hc) st dd (List.getElem?_eq_none hi) fun h' eb=>⟨rfl,I.turned (t':=s.toks) (fun b o hb e=>eb b o hb e) f0 f1 f3 f4 f5⟩
 self:=fun _ _ _ _ _ st h=>wpAny_pyIter_keyiter st h
section
variable {X:Cx}{tg:Expr}
def Lp(X:Cx)(td:TE):TI:=fun σ H R=>td σ H fun x H1=>∃a kvs,x= .ref a∧H1 a=some (.dK kvs)∧∀o,NF X a→R (Lo a o kvs) (upd H1 a (.kY o (.dK kvs)))
theorem Ec{l:Expr}{tl:TE}(hl:PE X l tl):PI X tg l (Lp X tl):=by
 intro pins s σ H R I h
 refine bU (hl pins s σ H _ I h) fun v s1 ⟨x,H1,I1,r1,q1⟩=>?_
 obtain⟨a,kvs,e,hk,q⟩:=q1
 subst e
 cases r1
 obtain⟨o,ho,I2⟩:=I1.freeze hk
 obtain⟨z,hs,vs,rel,dd⟩:=A7 I1.bq hk
 obtain⟨ep,da⟩:=dd.dictAt
 obtain⟨o',es,vv,ex,hd,_⟩:=id da
 rw[ho] at vv;cases vv
 refine wpAny_pyIter_dict hs da ?_
 refine⟨s1.heap.objs.size,[s1.heap.objs.size],_,_,_,rfl,I2.kept (t':=s1.toks) fun b o e=>Heap.get?_push_of_some _ e,zy a _ o kvs hd,?_,fun b hb=>?_,q o (I1.nf hk)⟩
 ·rw[rel.length]
  exact⟨_,Heap.get?_push_size _ rfl,rfl,rfl⟩
 ·have e:b=s1.heap.objs.size:=by simpa using hb
  subst e
  exact I2.AV (Nat.le_refl _) (I2.bq.fresh (Nat.le_refl _))
def Th(X:Cx)(Q:Hp→Prop)(H:Hp):Prop:=∃a o kvs,H a=some (.kY o (.dK kvs))∧NF X a∧Q (upd H a (.dK kvs))
theorem Ed{e:Expr}{t:TE}(h:PE X e t):PE X e (fun σ H Q=>t σ H fun v=>Th X (Q v)):=by
 intro pins s σ H Q I q
 refine bU (h pins s σ H _ I q) fun u s' z=>?_
 obtain⟨v,H',J,r,a,o,kvs,e,nf,q⟩:=z
 exact⟨v,_,J.Ru e nf,r,q⟩
end
def Ee:V→Option Value
 | .ty n=>some (.type n)
 | .ref a=>some (.ref a)
 |_=>none
theorem lS{X:Cx}:gD X (.builtin "isinstance") (fun xs H Q=>∃x c cv t b,xs=[x,c]∧Ee c=some cv∧lq X.K H x t∧PySem.W.kitOne X.K t cv=some b∧Q (.bl b) H):=by
 intro pins s σ H xs us Q I r h
 obtain⟨x,c,cv,t,b,rfl,hc,ty,e,q⟩:=h
 obtain⟨u,v,rfl,ru,rv⟩:=vals2 r
 have hv:v=cv:=by
  cases c<;>simp only [Ee,Option.some.injEq,reduceCtorEq] at hc
  ·cases (show v=Value.ref _ from rv);exact hc
  ·cases (show v=Value.type _ from rv);exact hc
 subst hv
 exact zg I ru ty e fun tk=>⟨.bl b,H,I.tok tk,rfl,q⟩
section
variable {X:Cx}
end
theorem tj:∀{kvs:List (Key×V)} {p:Key×V},(kvs.map (·.1)).Nodup→p∈kvs→de kvs p.1=some p.2
 |q::r,p,nd,hp=>by
  rw[List.map_cons,List.nodup_cons] at nd
  rcases List.mem_cons.mp hp with rfl|hr
  ·exact gF rfl
  ·rw[gH (fun e=>nd.1 (e▸List.mem_map_of_mem (f:=(·.1)) hr))]
   exact tj nd.2 hr
end L2
namespace L2
open PySem PySem.Spec PyProof.Rows
def tq(X:Cx)(pins:List (Addr×Obj))(N:List Str)(scope:Scope)(cl:List (Str×Addr))(fp:List Addr)(s:Shared)(H:Hp):Cx where
 prog:=X.prog
 w:=X.w
 K:=X.K
 mg:=X.mg
 base:=X.base
 A:=X.A
 N:=N
 s₀:=s
 H₀:=H
 env:=compEnvC scope cl s.heap.objs.size X.env
 outer:=X.stack
 stack:=X.stack
 ex:=fp
 fn:=fun _=>false
 calm:=X.calm
 pn:=X.pn++pins
 xe:=fun _ _=>False
structure Lq(X:Cx)(N:List Str)(fr:List (Option Nat))(scope:Scope)(cl:List (Str×Addr)):Prop where
 Rv:closureFor scope X.env=pure cl
 kind:scope.kind= .function
 qG:∀y∈scope.names,y.2≠ .cell
 names:∀y∈scope.names,y.2= .local→scope.names.lookup y.1=some .local
 cells:∀x c,cl.lookup x=some c→X.env.cells.lookup x=some c
 has:∀x,((relabel scope X.env).names.lookup x=some .cell∨(relabel scope X.env).names.lookup x=some .free)→∃c,cl.lookup x=some c
 len:fr.length=N.length
 out:∀(i j:Nat) (x:Str),N[i]? =some x→fr[i]? =some (some j)→X.N[j]? =some x∧X.env.kindOf x=some .cell∧((relabel scope X.env).names.lookup x=some .cell∨(relabel scope X.env).names.lookup x=some .free)
end L2
namespace L2
open PySem PySem.Spec PyProof.Rows
def lz(env:Env):List (Str×NameKind)→List (Str×Addr)→List (Str×Addr)
 | [],cs=>cs
 | (n,k)::r,cs=>lz env r (if (k== .free)=true then (n,(env.cells.lookup n).getD 0)::cs else cs)
def Bh(scope:Scope)(env:Env):List (Str×Addr):=lz env scope.names []
theorem xy{env:Env}:∀{names:List (Str×NameKind)} (cs:List (Str×Addr)),(∀y∈names,y.2= .free→∃c,env.cells.lookup y.1=some c)→
  (forIn names cs fun (x:Str×NameKind) cs=>match x with
   | (name,kind)=>if (kind==NameKind.free)=true then do let c←cellOf env name;pure (ForInStep.yield ((name,c)::cs)) else pure (ForInStep.yield cs):Sem (List (Str×Addr)))=pure (lz env names cs)
 | [],cs,_=>rfl
 | (n,k)::r,cs,h=>by
   rw[List.forIn_cons]
   dsimp only
   have ih:=fun cs=>xy (env:=env) (names:=r) cs fun y hy=>h y (List.mem_cons_of_mem _ hy)
   by_cases hk:(k==NameKind.free)=true
   ·obtain⟨c,hc⟩:=h (n,k) (List.mem_cons_self ..) (by simpa using hk)
    rw[if_pos hk,show lz env ((n,k)::r) cs=lz env r ((n,c)::cs) by rw[lz,if_pos hk,hc];rfl]
    have e:cellOf env n=pure c:=by unfold cellOf;rw[hc]
    rw[e]
    exact ih _
   ·rw[if_neg hk,show lz env ((n,k)::r) cs=lz env r cs by rw[lz,if_neg hk]]
    exact ih _
theorem Ef{scope:Scope}{env:Env}(h:∀y∈scope.names,y.2= .free→∃c,env.cells.lookup y.1=some c):closureFor scope env=pure (Bh scope env):=by
 have t:=xy (env:=env) [] h
 have e:closureFor scope env=((forIn scope.names ([]:List (Str×Addr)) fun (x:Str×NameKind) cs=>match x with
   | (name,kind)=>if (kind==NameKind.free)=true then do let c←cellOf env name;pure (ForInStep.yield ((name,c)::cs)) else pure (ForInStep.yield cs)) >>= fun cs=>pure cs:Sem (List (Str×Addr))):=rfl
 rw[e,t]
 rfl
theorem nK{env:Env}:∀{names:List (Str×NameKind)} {cs:List (Str×Addr)},(∀y∈names,y.2= .free→∃c,env.cells.lookup y.1=some c)→(∀x c,cs.lookup x=some c→env.cells.lookup x=some c)→∀x c,(lz env names cs).lookup x=some c→env.cells.lookup x=some c
 | [],_,_,hc,x,c,h=>hc x c h
 | (n,k)::r,cs,hn,hc,x,c,h=>by
   rw[lz] at h
   refine nK (names:=r) (fun y hy=>hn y (List.mem_cons_of_mem _ hy)) (fun x c h=>?_) x c h
   by_cases hk:(k==NameKind.free)=true
   ·rw[if_pos hk] at h
    obtain⟨c',Dz⟩:=hn (n,k) (List.mem_cons_self ..) (by simpa using hk)
    rw[List.lookup_cons] at h
    cases e:x==n with
    |true=>
     rw[e] at h
     have ex:x=n:=by simpa using e
     subst ex
     rw[Dz] at h ⊢
     exact h
    |false=>
     rw[e] at h
     exact hc x c h
   ·rw[if_neg hk] at h
    exact hc x c h
theorem tw{env:Env}:∀{names:List (Str×NameKind)} {cs:List (Str×Addr)} {x:Str},((x,NameKind.free)∈names∨∃c,cs.lookup x=some c)→∃c,(lz env names cs).lookup x=some c
 | [],_,_,h=>h.elim (fun z=>by cases z) fun z=>z
 | (n,k)::r,cs,x,h=>by
   rw[lz]
   refine tw (names:=r) ?_
   by_cases hk:(k==NameKind.free)=true
   ·rw[if_pos hk,List.lookup_cons]
    cases e:x==n with
    |true=>exact .inr ⟨_,rfl⟩
    |false=>
     rcases h with h|h
     ·rcases List.mem_cons.mp h with z|z
      ·cases z
       simp at e
      ·exact .inl z
     ·exact .inr h
   ·rw[if_neg hk]
    rcases h with h|h
    ·rcases List.mem_cons.mp h with z|z
     ·cases z
      exact absurd rfl hk
     ·exact .inl z
    ·exact .inr h
theorem iK{env:Env}(x:Str):∀names:List (Str×NameKind),
  (names.map fun (y:Str×NameKind)=>match y with
   | (n,k)=>if (k==NameKind.free&&env.scope.kind== .function&&env.kindOf n==some .cell)=true then (n,NameKind.cell) else (n,k)).lookup x
   =(names.lookup x).map fun k=>if (k==NameKind.free&&env.scope.kind== .function&&env.kindOf x==some .cell)=true then NameKind.cell else k
 | []=>rfl
 | (n,k)::r=>by
   have ih:=iK (env:=env) x r
   rw[List.map_cons,List.lookup_cons]
   by_cases e:(x==n)=true
   ·have ex:x=n:=by simpa using e
    subst ex
    dsimp only
    by_cases hc:(k==NameKind.free&&env.scope.kind== .function&&env.kindOf x==some .cell)=true
    ·rw[if_pos hc,List.lookup_cons,beq_self_eq_true]
     dsimp only [Option.map]
     rw[if_pos hc]
    ·rw[if_neg hc,List.lookup_cons,beq_self_eq_true]
     dsimp only [Option.map]
     rw[if_neg hc]
   ·have e':(x==n)=false:=by simpa using e
    dsimp only
    by_cases hc:(k==NameKind.free&&env.scope.kind== .function&&env.kindOf n==some .cell)=true
    ·rw[if_pos hc,List.lookup_cons,e']
     exact ih
    ·rw[if_neg hc,List.lookup_cons,e']
     exact ih
structure HL(sc scope:Scope)(NX N:List Str)(fr:List (Option Nat)):Prop where
 Lr:sc.kind= .function
 kind:scope.kind= .function
 qG:∀y∈scope.names,y.2≠ .cell
 names:∀y∈scope.names,y.2= .local→scope.names.lookup y.1=some .local
 free:∀y∈scope.names,y.2= .free→sc.names.lookup y.1=some .cell
 len:fr.length=N.length
 out:((List.range N.length).all fun i=>match fr[i]? with
  |some (some j)=>(match N[i]? with
   |some x=>(NX[j]? ==some x)&&(scope.names.lookup x==some .free)
   |none=>false)
  |_=>true)=true
theorem lA{names:List (Str×NameKind)}{x:Str}{k:NameKind}(h:names.lookup x=some k):(x,k)∈names:=PySem.mem_of_lookup h
theorem HL.YL{X:Cx}{sc scope:Scope}{NX N:List Str}{fr:List (Option Nat)}(B:HL sc scope NX N fr)(e1:X.env.scope=sc)(e2:X.N=NX)(ok:X.Ok):Lq X N fr scope (Bh scope X.env):=by
 subst e1 e2
 have fc:∀y∈scope.names,y.2= .free→∃c,X.env.cells.lookup y.1=some c:=fun y hy hf=>ok.has y.1 (.inl (B.free y hy hf))
 have lk:∀x,(relabel scope X.env).names.lookup x=(scope.names.lookup x).map fun k=>if (k==NameKind.free&&X.env.scope.kind== .function&&X.env.kindOf x==some .cell)=true then NameKind.cell else k:=fun x=>iK x scope.names
 have HM:∀x,scope.names.lookup x=some .free→(relabel scope X.env).names.lookup x=some .cell:=fun x hx=>by
  have hk:X.env.kindOf x=some .cell:=B.free (x, .free) (lA hx) rfl
  rw[lk,hx,Option.map_some,hk,B.Lr]
  rfl
 refine⟨Ef fc,B.kind,B.qG,B.names,fun x c h=>nK fc (fun x c h=>by cases h) x c h,fun x h=>tw (.inl ?_),B.len,fun i j x h1 h2=>?_⟩
 ·rw[lk] at h
  cases e:scope.names.lookup x with
  |none=>rw[e] at h;rcases h with h|h<;>cases h
  |some k=>
   rw[e,Option.map_some] at h
   have hm:=lA e
   cases k with
   |free=>exact hm
   |cell=>exact absurd rfl (B.qG _ hm)
   |_=>rcases h with h|h<;>simp at h
 ·have hi:i<N.length:=(List.getElem?_eq_some_iff.mp h1).1
  have:=List.all_eq_true.mp B.out i (List.mem_range.mpr hi)
  rw[h2] at this
  dsimp only at this
  rw[h1] at this
  dsimp only at this
  rw[Bool.and_eq_true] at this
  have a1:X.N[j]? =some x:=by simpa using this.1
  have a2:scope.names.lookup x=some .free:=by simpa using this.2
  exact⟨a1,B.free (x, .free) (lA a2) rfl, .inl (HM x a2)⟩
end L2
namespace L2
open PySem PySem.Spec PyProof.Rows
def startB(fr:List (Option Nat))(σ:St):St:=fr.map fun o=>o.bind fun j=>(σ[j]?).join
theorem vL{fr:List (Option Nat)}{σ:St}{i:Nat}{v:V}(h:(startB fr σ)[i]? =some (some v)):∃j,fr[i]? =some (some j)∧σ[j]? =some (some v):=by
 unfold startB at h
 rw[List.getElem?_map] at h
 cases e:fr[i]? with
 |none=>rw[e] at h;cases h
 |some o=>
  rw[e] at h
  cases o with
  |none=>cases h
  |some j=>
   have h':(σ[j]?).join=some v:=Option.some.inj h
   cases q:σ[j]? with
   |none=>rw[q] at h';cases h'
   |some z=>rw[q] at h';exact⟨j,rfl,by rw[q];exact congrArg some h'⟩
section
variable {X:Cx}{pins:List (Addr×Obj)}{σ:St}{H:Hp}{s:Shared}{N:List Str}{fr:List (Option Nat)}{scope:Scope}{cl:List (Str×Addr)}{fp:List Addr}
theorem Bi(B:Lq X N fr scope cl)(I:Inv X pins σ H s)(f:∀b∈fp,j6 X pins H b∧b<s.heap.objs.size):(tq X pins N scope cl fp s H).Ok where
 mod:=I.mod
 kind:=B.kind
 glob:=I.ok.glob
 blt:=I.ok.blt
 above:=Nat.le_refl _
 inj:=fun x y c h1 h2=>I.ok.inj x y c (B.cells x c h1) (B.cells y c h2)
 has:=fun x h=>B.has x h
 DS:=fun x c h=>by cases h
 hd:=I.ok.hd
 frames:=I.ok.frames
 Ga:= .inl rfl
 Kh:=fun b hb=>⟨Nat.ne_of_lt (f b hb).2,fun x c h=>(f b hb).1.2.2.2.2.1 x c (B.cells x c h)⟩
 bs:=I.bs
 xn:=Nat.le_trans I.ok.xn I.sz
 qq:=fun b o e hb=>by
  rcases (f b hb).1.2.2.2.1 with h|h
  ·exact I.ok.qq b o e h
  ·exact absurd (Nat.lt_of_lt_of_le (Heap.lt_size e) (Nat.le_trans I.ok.xn h)) (Nat.lt_irrefl _)
 qr:=fun b hb h=>by
  rcases List.mem_cons.mp (I.qu b h) with z|z
  ·exact(f b hb).1.2.1 z
  ·exact(f b hb).1.2.2.1 z
 iy:=I.stack
 Aw:=I.qv
theorem zA{h1:Heap}{t1:Nat}(B:Lq X N fr scope cl)(I:Inv X pins σ H s)(f:∀b∈fp,j6 X pins H b∧b<s.heap.objs.size)(Gj:h1.Ns s.heap.objs.size fun _=>none)
  (HN:∀b o,s.heap.get? b=some o→h1.get? b=some o):Inv (tq X pins N scope cl fp s H) [] (startB fr σ) H { s with heap:=h1,toks:=t1 }:=by
 obtain⟨m,hm,hl⟩:=I.loc
 refine⟨Bi B I f,rfl,I.bare,Un.kept HN,⟨_,Gj,fun i x v e1 e2 _=>?_⟩,fun x c h=>?_,I.bq.fresh (Nat.le_refl _),fun x c h=>I.eS x c (B.cells x c h),fun p hp=>?_,I.bq.kept HN,?_⟩
 ·obtain⟨j,ej,es⟩:=vL e2
  obtain⟨o1,o2,o3⟩:=B.out i j x e1 ej
  obtain⟨u,ru,L⟩:=hl j x v o1 es (.inr (.inl o2))
  refine⟨u,ru, .inr ⟨o3,?_⟩⟩
  obtain⟨c,hc⟩:=B.has x o3
  rcases L with ⟨k1,_⟩ | ⟨_,c',Dz,cc⟩
  ·rw[o2] at k1;cases k1
  ·rw[B.cells x c hc] at Dz
   cases Dz
   exact⟨c,hc,cc.keeps HN⟩
 ·obtain⟨v,hv⟩:=I.cell x c (B.cells x c h)
  exact⟨v,hv.keeps HN⟩
 ·have Ls:p∈X.pn++pins:=by rw[List.append_nil] at hp;exact hp
  obtain⟨p1,p2,p3,p4,p5⟩:=I.pin p Ls
  exact⟨HN _ _ p1,p2,Nat.ne_of_lt (Heap.lt_size p1),fun z=>(List.mem_cons.mp (I.qu _ z)).elim p3 p4,p5⟩
 ·show (startB fr σ).length=N.length
  unfold startB
  rw[List.length_map,B.len]
end
def Kl(X:Cx)(cs:List Expr)(t:TT):Prop:=
 ∀(pins:List (Addr×Obj)) (s:Shared) (σ:St) (H:Hp) (Q:Bool→Hp→Prop),Inv X pins σ H s→t σ H Q→
  wpAny (model X.prog X.w) X.A (forIn cs true fun c r=>if r=true then do let ok←isTrue c X.env (eval c X.env);pure (ForInStep.yield ok) else pure (ForInStep.yield r)) (TP X pins σ Q) X.xe s
def Rw:TT:=fun _ H Q=>Q true H
theorem mC{X:Cx}:Kl X [] Rw:=fun pins s σ H Q I h=>by
 rw[List.forIn_nil]
 exact wpAny_pure ⟨H,I,h⟩
theorem Eg{X:Cx}{c:Expr}{t:TT}(h:PT X c t):Kl X [c] t:=fun pins s σ H Q I q=>by
 rw[List.forIn_cons,if_pos rfl]
 refine wpAny_bind (wpAny_bind (bU (h pins s σ H Q I q) fun b s' z=>?_))
 refine wpAny_pure ?_
 dsimp only
 rw[List.forIn_nil]
 exact wpAny_pure z
section
variable {prog:Program}{w:World}{A:Around}{R:Result→Shared→Prop}{s:Shared}
theorem comp_loop{elt tg iter:Expr}{ifs:List Expr}{scope:Scope}{pos:Pos}{it acc:Value}{env:Env}(J:Nat→Shared→Prop)
  (turn:∀n s,J n s→wpAny (model prog w) A (pyNext it) (fun r s₁=>match r with
   |none=>R (.ok .next) s₁
   |some v=>wpAny (model prog w) A (letOwnedTupleGo tg it v) (fun _ sg=>wpAny (model prog w) A (assign tg env v) (fun _ s₂=>
     wpAny (model prog w) A (forIn ifs true fun c r=>if r=true then do let ok←isTrue c env (eval c env);pure (ForInStep.yield ok) else pure (ForInStep.yield r)) (fun ok s₃=>
      if ok=true then wpAny (model prog w) A (eval elt env) (fun x s₄=>wpAny (model prog w) A (call (.builtin "list.append") [acc,x]) (fun _ s₅=>∃m,m<n∧J m s₅) (fun _ _=>False) s₄) (fun _ _=>False) s₃
      else∃m,m<n∧J m s₃) (fun _ _=>False) s₂) (fun _ _=>False) sg) (fun _ _=>False) s₁) (fun _ _=>False) s)
  (n:Nat) (h:J n s):codeAny (model prog w) A (.compLoop (.ListComp elt [⟨tg,iter,ifs,0⟩] scope pos) 0 it acc env) R s:=by
 refine codeAny_loop rfl J (fun n s hJ=>?_) n h
 show wpAny _ A ((compTurn (.ListComp elt [⟨tg,iter,ifs,0⟩] scope pos) 0 it acc env).onRaise (fun x=>do noteFrame x env;theTreesLotGoes x)) _ _ s
 refine wpAny_noted ?_
 rw[compTurn_list]
 have no:∀{P:Value→Shared→Prop} (a:Value) (s:Shared),(fun (_:Value) (_:Shared)=>False) a s→P a s:=fun _ _ z=>False.elim z
 refine wpAny_bind (wpAny_standAt (wpAny_bind (wpAny_mono (turn n s hJ) (fun r s₁ h₁=>?_) no)))
 cases r with
 |none=>exact wpAny_pure h₁
 |some v=>
  refine wpAny_bind (wpAny_mono h₁ (fun _ sg hg=>?_) no)
  refine wpAny_bind (wpAny_mono hg (fun _ s₂ h₂=>wpAny_bind (wpAny_mono h₂ (fun ok s₃ h₃=>?_) no)) no)
  cases ok with
  |false=>exact wpAny_pure ⟨rfl,h₃⟩
  |true=>exact wpAny_bind (wpAny_bind (wpAny_mono h₃ (fun x s₄ h₄=>wpAny_bind (wpAny_mono h₄ (fun _ s₅ h₅=>wpAny_pure (wpAny_pure ⟨rfl,h₅⟩)) no)) no))
end
def Lu(wi:TI)(fr:List (Option Nat))(g:TG)(tt:TT)(te:TE):TE:=fun σ H Q=>wi σ H fun J H1=>∀D,H1 D=none→∃W:Nat→Nat→St→Hp→Prop,(∃m,W 0 m (startB fr σ) (upd H1 D (.lst [])))∧∀i m σ H,W i m σ H→
 (J.stop i H∧Q (.ref D) H)∨(J.go i H∧∀x H2,J.yZ i H x H2→g x σ H2 fun σ3 H3=>tt σ3 H3 fun b H4=>if b=true
   then te σ3 H4 fun y H5=>∃ys,H5 D=some (.lst ys)∧ys.length<sizeLine∧∃m',m'<m∧W (i+1) m' σ3 (upd H5 D (.lst (ys++[y])))
   else∃m',m'<m∧W (i+1) m' σ3 H4)
section
variable {X:Cx}{elt tg iter:Expr}{ifs:List Expr}{scope:Scope}{pos:Pos}{N:List Str}{fr:List (Option Nat)}{cl:List (Str×Addr)}{wi:TI}{g:TG}{tt:TT}{te:TE}
theorem Eh(B:Lq X N fr scope cl)(hc:X.calm=true)
  (hg:∀pins fp s H,PG (tq X pins N scope cl fp s H) tg g) (ht:∀pins fp s H,Kl (tq X pins N scope cl fp s H) ifs tt) (he:∀pins fp s H,PE (tq X pins N scope cl fp s H) elt te)
  {pins:List (Addr×Obj)} {s3:Shared} {σ:St} {H3:Hp} {Q:VK} {it D:Addr} {fp:List Addr} {tn:Nat→Heap→Prop} {J:It} (I3:Inv X pins σ H3 s3) (T:Turn X.prog X.w X.K tg J fp it tn) (P2:tn 0 s3.heap) (f3:∀b∈fp,j6 X pins H3 b∧b<s3.heap.objs.size)
  {W:Nat→Nat→St→Hp→Prop} {m0:Nat} (w0:W 0 m0 (startB fr σ) H3)
  (turn:∀i m σ H,W i m σ H→(J.stop i H∧Q (.ref D) H)∨(J.go i H∧∀x H2,J.yZ i H x H2→g x σ H2 fun σ3 H3=>tt σ3 H3 fun b H4=>if b=true
    then te σ3 H4 fun y H5=>∃ys,H5 D=some (.lst ys)∧ys.length<sizeLine∧∃m',m'<m∧W (i+1) m' σ3 (upd H5 D (.lst (ys++[y])))
    else∃m',m'<m∧W (i+1) m' σ3 H4))
  {R:Result→Shared→Prop} (hR:∀s' H',Inv X pins σ H' s'→j6 X pins H' s3.heap.objs.size→(∃m,s'.heap.Ns s3.heap.objs.size m)→Q (.ref D) H'→R (.ok .next) s')
  {h₁:Heap} {t1:Nat} (Gj:h₁.Ns s3.heap.objs.size fun _=>none) (Gm:∀b o,s3.heap.get? b=some o→h₁.get? b=some o):
  codeAny (model X.prog X.w) X.A (.compLoop (.ListComp elt [⟨tg,iter,ifs,0⟩] scope pos) 0 (.ref it) (.ref D) (compEnvC scope cl s3.heap.objs.size X.env)) R { s3 with heap:=h₁,toks:=t1 }:=by
 have Ib:=zA (t1:=t1) B I3 f3 Gj Gm
 have vz:∀{H':Hp},(∀b∈fp,H' b=none)→∀b∈fp,j6 (tq X pins N scope cl fp s3 H3) [] H' b:=fun hn b hb=>
  ⟨hn b hb,Nat.ne_of_lt (f3 b hb).2,(Bi B I3 f3).qr b hb, .inl hb,fun x c h=>(f3 b hb).1.2.2.2.2.1 x c (B.cells x c h),fun p hp=>(f3 b hb).1.2.2.2.2.2 p (by rw[List.append_nil] at hp;exact hp)⟩
 refine comp_loop (fun n s'=>∃i σ' H',Inv (tq X pins N scope cl fp s3 H3) [] σ' H' s'∧tn i s'.heap∧(∀b∈fp,H' b=none)∧W i n σ' H') ?_ m0
  ⟨0,_,_,Ib,T.keep _ _ _ P2 fun b _ o e=>Gm b o e,fun b hb=>(f3 b hb).1.1,w0⟩
 rintro n s4 ⟨i,σ4,H4,I4,W9,W',w4⟩
 rcases turn i n σ4 H4 w4 with ⟨stop,qn⟩ | ⟨go,step⟩
 ·refine bU (T.done (tq X pins N scope cl fp s3 H3) rfl rfl rfl hc i [] s4 σ4 H4 _ I4 (vz W') W9 stop) fun r s5 ⟨hr,I5⟩=>?_
  subst hr
  have J5:Inv X pins σ H4 s5:=I3.AM (ch:=fp) I5.os I5.base I5.bq I5.bare fun b hb=>⟨(f3 b hb).1.2.2.2.1,(f3 b hb).1.2.1,(f3 b hb).1.2.2.2.2.1,(f3 b hb).1.2.2.2.2.2⟩
  obtain⟨mm,YM,_⟩:=I5.loc
  exact hR s5 H4 J5 (I3.AV (Nat.le_refl _) I5.free) ⟨mm,YM⟩ qn
 ·refine bU (T.item (tq X pins N scope cl fp s3 H3) rfl rfl rfl hc i [] s4 σ4 H4 _ I4 (vz W') W9 go) fun r s5 ⟨u,hr,h5⟩=>?_
  subst hr
  refine bU h5 fun _ s6 ⟨x,H6,I6,r6,y6,Rx,YN⟩=>?_
  have YO:=I6.pinned (vz YN) (T.obj _ _ Rx)
  have back:∀{s7:Shared} {σ7:St} {H7:Hp} {m':Nat},Inv (tq X pins N scope cl fp s3 H3) ([]++nB fp s6.heap) σ7 H7 s7→m'<n→W (i+1) m' σ7 H7→
    ∃m,m<n∧∃i σ' H',Inv (tq X pins N scope cl fp s3 H3) [] σ' H' s7∧tn i s7.heap∧(∀b∈fp,H' b=none)∧W i m σ' H':=fun {s7 σ7 H7 m'} I7 hm w7=>by
   refine⟨m',hm,i+1,σ7,H7,I7.dn,T.keep _ _ _ Rx fun b hb o e=>(I7.pin (b,o) (List.mem_append_right _ (List.mem_append_right _ (gX hb e)))).1,fun b hb=>?_,w7⟩
   obtain⟨o,e,d⟩:=T.obj _ _ Rx b hb
   exact(I7.pin (b,o) (List.mem_append_right _ (List.mem_append_right _ (gX hb e)))).2.1
  refine bU (hg _ _ _ _ _ s6 σ4 H6 x u _ YO r6 (step x H6 y6)) fun _ s7 ⟨σ7,H7,I7,q7⟩=>?_
  refine bU (ht _ _ _ _ _ s7 σ7 H7 _ I7 q7) fun ok s8 ⟨H8,I8,q8⟩=>?_
  cases ok with
  |false=>
   rw[if_neg (by decide)] at q8 ⊢
   obtain⟨m',hm,w8⟩:=q8
   exact back I8 hm w8
  |true=>
   rw[if_pos rfl] at q8 ⊢
   refine bU (he _ _ _ _ _ s8 σ7 H8 _ I8 q8) fun y s9 ⟨v9,H9,I9,r9,ys,YQ,YR,m',hm,w9⟩=>?_
   refine bU (dW _ s9 σ7 H9 (.ref D) [v9] _ [y] (fun _ H'=>W (i+1) m' σ7 H') I9 rfl (.cons r9 .nil) ⟨_,ys,v9,rfl,rfl,YQ,YR,w9⟩) fun _ s10 ⟨_,H10,YS,_,YT⟩=>?_
   exact back YS hm YT
theorem Bj(B:Lq X N fr scope cl)(hc:X.calm=true)
  (hg:∀pins fp s H,PG (tq X pins N scope cl fp s H) tg g) (ht:∀pins fp s H,Kl (tq X pins N scope cl fp s H) ifs tt) (he:∀pins fp s H,PE (tq X pins N scope cl fp s H) elt te)
  {pins:List (Addr×Obj)} {s2:Shared} {σ:St} {H2:Hp} {Q:VK} {E:Value→Shared→Prop} {it:Addr} {fp:List Addr} {tn:Nat→Heap→Prop} {J:It} (I2:Inv X pins σ H2 s2) (T:Turn X.prog X.w X.K tg J fp it tn) (Hs:tn 0 s2.heap) (f2:∀b∈fp,j6 X pins H2 b)
  (q:∀D,H2 D=none→∃W:Nat→Nat→St→Hp→Prop,(∃m,W 0 m (startB fr σ) (upd H2 D (.lst [])))∧∀i m σ H,W i m σ H→
   (J.stop i H∧Q (.ref D) H)∨(J.go i H∧∀x H2,J.yZ i H x H2→g x σ H2 fun σ3 H3=>tt σ3 H3 fun b H4=>if b=true
     then te σ3 H4 fun y H5=>∃ys,H5 D=some (.lst ys)∧ys.length<sizeLine∧∃m',m'<m∧W (i+1) m' σ3 (upd H5 D (.lst (ys++[y])))
     else∃m',m'<m∧W (i+1) m' σ3 H4))
  {RR:Value→Addr→Result→Shared→Prop}
  (YU:∀D C s' H',Inv X pins σ H' s'→j6 X pins H' C→(∃m,s'.heap.Ns C m)→Q (.ref D) H'→RR (.ref D) C (.ok .next) s'):
  wpAny (model X.prog X.w) X.A (newList []) (fun acc s₃=>wpAny (model X.prog X.w) X.A (newFunctionEnv scope X.env.globals cl [] X.env.qual none .none (some X.env)) (fun Lv s₄=>
   codeAny (model X.prog X.w) X.A (.compStart (.ListComp elt [⟨tg,iter,ifs,0⟩] scope pos) 0 (.ref it) acc { Lv with scope:=relabel scope X.env }) (RR acc Lv.locals) s₄) E s₃) E s2:=by
 have hD:H2 s2.heap.objs.size=none:=I2.bq.fresh (Nat.le_refl _)
 obtain⟨W,⟨m0,w0⟩,turn⟩:=q s2.heap.objs.size hD
 have I3:=I2.Rm (ys:=[]) (its:=[]) (t':=s2.toks) .nil (by decide)
 have Xa:∀b∈fp,b<s2.heap.objs.size:=fun b hb=>by
  obtain⟨o,e,_⟩:=T.obj _ _ Hs b hb
  exact Heap.lt_size e
 refine wpAny_newObj_type (wpAny_newFunctionEnv B.qG (by intro y hy;simp at hy) (fun h₁ Gj HN=>?_) B.kind)
 have Xb:∀b o,s2.heap.get? b=some o→(s2.heap.push { cls:= .type "list",data:= .seq ([]:List Value).toArray }).get? b=some o:=fun b o e=>Heap.get?_push_of_some _ e
 have Gm:∀b o,(s2.heap.push { cls:= .type "list",data:= .seq ([]:List Value).toArray }).get? b=some o→h₁.get? b=some o:=fun b o e=>HN.extBut b o (Nat.ne_of_lt (Heap.lt_size e)) (Heap.get?_push_of_some _ e)
 have f3:∀b∈fp,j6 X pins (upd H2 s2.heap.objs.size (.lst [])) b∧b< (s2.heap.push { cls:= .type "list",data:= .seq ([]:List Value).toArray }).objs.size:=fun b hb=>by
  refine⟨⟨?_,(f2 b hb).2⟩,?_⟩
  ·rw[ao (Nat.ne_of_lt (Xa b hb))]
   exact(f2 b hb).1
  ·rw[Heap.size_push]
   exact Nat.lt_succ_of_lt (Xa b hb)
 have fin:=Eh (iter:=iter) (pos:=pos) (D:=s2.heap.objs.size) (t1:=s2.toks) (R:=RR (.ref s2.heap.objs.size) (s2.heap.push { cls:= .type "list",data:= .seq ([]:List Value).toArray }).objs.size) B hc hg ht he I3 T (T.keep _ _ _ Hs fun b _ o e=>Xb b o e) f3 w0 turn
  (fun s' H' J' f m q=>YU _ _ s' H' J' f m q) Gj Gm
 exact codeAny_compStart_list fin (T.self _ 0 _ _ _ (T.keep _ _ _ Hs fun b _ o e=>Gm b o (Xb b o e)) fin)
theorem j'{sc:Scope}{NX:List Str}(S:HL sc scope NX N fr)(e1:X.env.scope=sc)(e2:X.N=NX)(hc:X.calm=true)(hi:PI X tg iter wi)
  (hg:∀pins fp s H,PG (tq X pins N scope (Bh scope X.env) fp s H) tg g) (ht:∀pins fp s H,Kl (tq X pins N scope (Bh scope X.env) fp s H) ifs tt) (he:∀pins fp s H,PE (tq X pins N scope (Bh scope X.env) fp s H) elt te)
  (hs:∀x,foldedSetIterable iter X.env x=pure x:=by intro _;rfl):PE X (.ListComp elt [⟨tg,iter,ifs,0⟩] scope pos) (Lu wi fr g tt te):=by
 intro pins s σ H Q I h
 have B:=S.YL e1 e2 I.ok
 rw[eval_ListComp]
 refine wpAny_comprehension_free (use:=none) rfl hs B.Rv B.kind B.names (bU (hi pins s σ H _ I h) fun v s1 h1=>bU h1 fun QY s2 h2=>?_)
 obtain⟨it,fp,tn,J,H2,e,I2,T,Hs,f2,q⟩:=h2
 subst e
 refine Bj (RR:=fun acc C=>compPost (model X.prog X.w) X.A X.xe none (EP X pins σ Q) acc C) B hc hg ht he I2 T Hs f2 q ?_
 intro D C s' H' J' fC ⟨m,hm⟩ qn
 refine⟨m,hm,fun h' HP=>⟨.ref D,H',?_,rfl,qn⟩⟩
 obtain⟨f0,f1,_,f3,f4,f5⟩:=fC
 exact J'.turned (t':=s'.toks) (fun b o hb e=>(HP.2 b hb).trans e) f0 f1 f3 f4 f5
end
end L2
namespace PySem
namespace F
theorem ka:entryFor table "dict.update.loop" =some Builtin.«dict.update.loop» :=entryFor_of_tree (by kernel_rfl)
theorem eY:plainId "dict.update.loop" =true:=by decide+kernel
theorem qH:typeLookup (.type "list") "keys" =pure none:=by rw[typeLookup_type,builtinLookup_eq_fast];kernel_rfl
end F
section
variable {prog:Program}{w:World}{K:Type}[DecidableEq K]{knd:KeyKind prog w K}{A:Around}{E:Value→Shared→Prop}{s:Shared}
theorem vM{a:Addr}{xs:Array Value}{k:Nat}{sl:Array (Option Value)}{Q:Option Value→Shared→Prop}
  (hx:s.heap.get? a=some { cls:= .type "list",dict:=none,data:= .seq xs k,slots:=sl }) (hA:A.handled=none)
  (h:∀h' tk,(∀b o,s.heap.get? b=some o→h'.get? b=some o)→Q none { s with heap:=h',toks:=tk }):wpAny (model prog w) A (getAttr? (.ref a) "keys") Q E s:=by
 obtain⟨hp,g,d,tk,os⟩:=s
 have hT:∀HQ,(⟨hp,g,d,HQ,os⟩:Shared).TypeIs (.ref a) "list" :=fun _=>⟨_,hx,rfl⟩
 have f1:=sub_AttributeError
 have f3:=F.slot_list_getattribute.lookup
 have f4:=F.slot_list_getattribute.bind (.ref a)
 have f5:=am_list_getattr_none
 unfold getAttr? getAttrBy? getAttrBy
 repeat (any_goals (first|assumption|exact hT _| ((with_reducible show wpAny _ _ (call (Value.builtin "list.__getattribute__") _ _) _ _ _);refine call_meets F.slot_list_getattribute (hT _) am_entry_list_getattribute (F.args_list_getattribute_2 _ _) (meets_getattribute_miss_list a xs k sl "keys" _ F.qH (by decide+kernel) (by decide+kernel)) ⟨hx,hA,fun h' HQ e P'=>?_⟩) |wp_step))
 obtain⟨t',u',he⟩:=P'.there
 show wpAny _ _ (getattributeRaised _ _ _ _ _ _ _) _ _ _
 unfold getattributeRaised
 repeat (any_goals (first|assumption|wp_step))
 all_goals exact h h' HQ P'.keeps
theorem HR{d it l:Addr}{res:Value}{R:Result→Shared→Prop}{ps:List (Addr×K×Value×Value)}(hh:A.handled=none)(YV:d≠l)(Ry:d≠it)(RA:it≠l)
  (Ei:∀p∈ps,p.1≠d∧p.1≠it∧knd.is p.2.1 p.2.2.1=true):
  ∀(n i:Nat) (s:Shared) (kvs:List (K×Value)),ps.length - i=n→i≤ps.length→s.heap.IsListIter it l i→s.heap.IsList l (ps.map fun p=>Value.ref p.1).toArray→
   (∀p∈ps,s.heap.IsTuple p.1 #[p.2.2.1,p.2.2.2])→s.heap.DictOf knd d kvs→kvs.length+(ps.length - i)≤sizeLine→
   (∀h' tk,h'.DictOf knd d ((ps.drop i).foldl (fun acc p=>stored acc p.2.1 p.2.2.2) kvs)→(∀b o,b≠d→b≠it→s.heap.get? b=some o→h'.get? b=some o)→R (.ok (.ret res)) { s with heap:=h',toks:=tk })→
   codeAny (model prog w) A (.builtin "dict.update.loop" ⟨[.ref d, .ref it,rawInt i,res],[]⟩) R s:=by
 intro n
 induction n with
 |zero=>
  intro i s kvs hn hi hit hl ht hd hsz hR
  refine codeAny_builtin F.ka ?_
  rw[Around.under_plainId F.eY _]
  show wpAny _ A.in1 (pyNext (.ref it) >>= _) _ _ s
  refine wpAny_bind (wpAny_pyNext_list_end hh hit hl (by simp;omega) fun h' eb=>?_)
  show wpAny _ A.in1 (Builtin.Dict.addKeywords d [] >>= fun _=>ret res) _ _ _
  have e:ps.drop i=[]:=List.drop_eq_nil_of_le (by omega)
  rw[e] at hR
  exact wpAny_bind (wpAny_pure (wpAny_pure (hR h' s.toks (hd.extBut eb Ry) fun b o _ hb q=>eb b o hb q)))
 |succ n ih=>
  intro i s kvs hn hi hit hl ht hd hsz hR
  have vA:i<ps.length:=by omega
  have hp:=ps.get_mem ⟨i,vA⟩
  have YW:ps.drop i=ps[i]::ps.drop (i+1):=List.drop_eq_getElem_cons vA
  obtain⟨n1,n2,hk⟩:=Ei _ (List.getElem_mem vA)
  refine codeAny_builtin F.ka ?_
  rw[Around.under_plainId F.eY _]
  show wpAny _ A.in1 (pyNext (.ref it) >>= _) _ _ s
  refine wpAny_bind (wpAny_pyNext_list_item hit hl (x:= .ref ps[i].1) (by simp [vA]) fun h1 RB Qa=>?_)
  have Qb:∀p∈ps,h1.IsTuple p.1 #[p.2.2.1,p.2.2.2]:=fun p hp=>by
   obtain⟨o,q,r⟩:=ht p hp
   exact⟨o,(Qa.2 _ (Ei p hp).2.1).trans q,r⟩
  obtain⟨o,ho,hc,m,RC⟩:=Qb _ (List.getElem_mem vA)
  have RD:h1.DictOf knd d kvs:=hd.sameBut Qa Ry
  have xA:h1.IsList l (ps.map fun p=>Value.ref p.1).toArray:=hl.extBut Qa.extBut (Ne.symm RA)
  show wpAny _ A.in1 (holding [Value.ref ps[i].1] _ >>= _) _ _ _
  refine wpAny_bind (wpAny_holding (wpAny_bind ?_))
  refine wpAny_tryCatch ?_
  unfold Builtin.Dict.pairItems
  refine wpAny_bind (wpAny_typeOf (T:="tuple") ⟨o,ho,hc⟩ ?_)
  rw[if_pos (by decide)]
  refine wpAny_bind (wpAny_seqItems ho RC (wpAny_pure ?_))
  show wpAny _ A.in1 (holding [ps[i].2.2.1,ps[i].2.2.2] (dictSet d ps[i].2.2.1 ps[i].2.2.2)) _ _ _
  refine wpAny_holding (wpAny_dictSet_pairs hk RD (fun h2 hd2 Qc=>?_) (by omega))
  have YX:((i:Int)+1)=((i+1 :Nat):Int):=by push_cast;rfl
  have up:∀b o,b≠d→b≠it→s.heap.get? b=some o→h2.get? b=some o:=fun b o q1 q2 q=>(Qc.2 b q1).trans ((Qa.2 b q2).trans q)
  refine wpAny_pure ⟨plainId_quiet F.eY _,?_⟩
  show codeAny _ _ (.builtin "dict.update.loop" ⟨[.ref d, .ref it,rawInt ((i:Int)+1),res],[]⟩) _ _
  rw[YX]
  refine ih (i+1) _ _ (by omega) vA ?_ ?_ ?_ hd2 ?_ ?_
  ·obtain⟨oi,q,r⟩:=RB
   exact⟨oi,(Qc.2 _ (Ne.symm Ry)).trans q,r⟩
  ·exact xA.extBut Qc.extBut (Ne.symm YV)
  ·intro p hp
   obtain⟨o',q,r⟩:=Qb p hp
   exact⟨o',(Qc.2 _ (Ei p hp).1).trans q,r⟩
  ·have:=stored_length_le kvs ps[i].2.1 ps[i].2.2.2
   omega
  ·intro h' tk qt keep
   refine hR h' tk ?_ fun b o q1 q2 q=>keep b o q1 q2 (up b o q1 q2 q)
   rw[YW]
   exact qt
end
end PySem
namespace PySem
section
variable {prog:Program}{w:World}{K:Type}[DecidableEq K]{knd:KeyKind prog w K}{A:Around}{E:Value→Shared→Prop}{s:Shared}
theorem jN{l:Addr}{n:Nat}{sl:Array (Option Value)}{ps:List (Addr×K×Value×Value)}{Q:Value→Shared→Prop}(hh:A.handled=none)
  (hl:s.heap.get? l=some { cls:= .type "list",dict:=none,data:= .seq (ps.map fun p=>Value.ref p.1).toArray n,slots:=sl })
  (ht:∀p∈ps,s.heap.IsTuple p.1 #[p.2.2.1,p.2.2.2]∧knd.is p.2.1 p.2.2.1=true) (hsz:ps.length≤sizeLine)
  (h:∀h' tk,h'.DictOf knd s.heap.objs.size (ps.foldl (fun acc p=>stored acc p.2.1 p.2.2.2) [])→(∀b o,s.heap.get? b=some o→h'.get? b=some o)→Q (.ref s.heap.objs.size) { s with heap:=h',toks:=tk }):
  wpAny (model prog w) A (call (.type "dict") [.ref l]) Q E s:=by
 refine callType_codes (Q₁:=fun obj s₁=>obj= .ref s.heap.objs.size∧s₁={ s with heap:=s.heap.push { cls:= .type "dict",data:= .dict #[] } }) F.kt_called_dict (F.kt_typeCall_dict_1 _) F.entry_dict_init (kt_code_dict_new _ ⟨rfl,rfl⟩) ?_
 rintro obj s₁ ⟨rfl,rfl⟩
 have Ej:(s.heap.push { cls:= .type "dict",data:= .dict #[] }).DictOf knd s.heap.objs.size []:=Heap.DictOf.new s.heap
 have up:∀b o,s.heap.get? b=some o→(s.heap.push { cls:= .type "dict",data:= .dict #[] }).get? b=some o:=fun b o q=>Heap.get?_push_of_some _ q
 have xA:=up _ _ hl
 refine⟨Ej.typeIs,F.args_dict_init_2 _ _,?_⟩
 unfold Builtin.«dict.__init__»
 refine wpAny_bind ?_
 unfold Builtin.Dict.selfAndRest
 refine wpAny_bind (wpAny_notOrdered_dict Ej.typeIs ?_)
 show wpAny _ _ (pure (s.heap.objs.size,[Value.ref l])) _ _ _
 refine wpAny_pure ?_
 show wpAny _ _ (Builtin.Dict.updateFrom "dict.__init__" s.heap.objs.size (.ref l) [] .none) _ _ _
 unfold Builtin.Dict.updateFrom
 refine wpAny_bind (wpAny_typeOf (T:="list") ⟨_,xA,rfl⟩ ?_)
 rw[if_pos (by decide)]
 refine wpAny_bind (vM xA hh fun h2 tk2 k2=>?_)
 rw[if_pos (show (none:Option Value).isNone=true from rfl)]
 refine wpAny_bind (wpAny_rule ?_)
 have DD:=k2 _ _ xA
 have YY:h2.IsList l (ps.map fun p=>Value.ref p.1).toArray:=⟨_,DD,rfl,n,rfl⟩
 have zx:l<s.heap.objs.size:=Heap.lt_size hl
 have sz:s.heap.objs.size+1≤h2.objs.size:=by
  obtain⟨o,es,ep,q,r⟩:=id Ej
  exact Heap.lt_size (k2 _ _ q)
 refine wpAny_bind (wpAny_pyIter_list YY ?_)
 refine wpAny_pure ⟨plainId_quiet F.eY _,?_⟩
 have Gm:∀b o,s.heap.get? b=some o→(h2.push { cls:= .type "list_iterator",data:= .fields #[.ref l, .int 0 0] }).get? b=some o:=fun b o q=>Heap.get?_push_of_some _ (k2 _ _ (up b o q))
 refine HR (A:=A.in1) (knd:=knd) (l:=l) (ps:=ps) hh (Nat.ne_of_gt zx) (Nat.ne_of_lt sz) (Nat.ne_of_gt (Nat.lt_of_lt_of_le zx (Nat.le_of_lt sz))) (fun p hp=>?_) ps.length 0 _ [] (by omega) (Nat.zero_le _) ?_ ?_ ?_ ?_ ?_ ?_
 ·obtain⟨⟨o,q,_⟩,hk⟩:=ht p hp
  have:=Heap.lt_size q
  exact⟨Nat.ne_of_lt this,Nat.ne_of_lt (Nat.lt_trans this sz),hk⟩
 ·exact⟨_,Heap.get?_push_size _ rfl,rfl,rfl⟩
 ·exact⟨_,Heap.get?_push_of_some _ DD,rfl,n,rfl⟩
 ·intro p hp
  obtain⟨⟨o,q,r⟩,hk⟩:=ht p hp
  exact⟨o,Gm _ _ q,r⟩
 ·obtain⟨o,es,ep,q,r⟩:=Ej
  exact⟨o,es,ep,Heap.get?_push_of_some _ (k2 _ _ q),r⟩
 ·simpa using hsz
 ·intro h' tk qt keep
  refine⟨rfl,h h' tk qt fun b o q=>?_⟩
  have:=Heap.lt_size q
  exact keep b o (Nat.ne_of_lt this) (Nat.ne_of_lt (Nat.lt_trans this sz)) (Gm b o q)
end
end PySem
namespace L2
open PySem PySem.Spec PyProof.Rows
theorem pK:∀{as:List Addr} {us:List Value},Vals (as.map V.ref) us→us=as.map Value.ref
 | [],_, .nil=>rfl
 |a::r,_, .cons h t=>by
  rw[pK t]
  exact congrArg (·::r.map Value.ref) (show _=Value.ref a from h)
theorem pairs_of{P:Program}{w:World}{H:Hp}{h:Heap}(ok:ix P w H h):∀{ps:List (Addr×Key×V)},(∀p∈ps,H p.1=some (.tup [kV p.2.1,p.2.2]))→
  ∃qs:List (Addr×Key×Value×Value),Paired (fun (p:Addr×Key×V) (q:Addr×Key×Value×Value)=>p.1=q.1∧p.2.1=q.2.1∧RelV p.2.2 q.2.2.2) ps qs∧∀q∈qs,h.IsTuple q.1 #[q.2.2.1,q.2.2.2]∧(bV P w).is q.2.1 q.2.2.1=true
 | [],_=>⟨[], .nil,fun q hq=>by cases hq⟩
 | (a,k,v)::r,hp=>by
   obtain⟨qs,pr,hq⟩:=pairs_of ok (ps:=r) fun p Ls=>hp p (List.mem_cons_of_mem _ Ls)
   obtain⟨_,its,vs,tu⟩:=(show bQ P w H h a (.tup [kV k,v]) from ok a _ (hp (a,k,v) (List.mem_cons_self ..)))
   obtain⟨u1,u2,rfl,r1,r2⟩:=vals2 vs
   refine⟨(a,k,u1,u2)::qs, .cons ⟨rfl,rfl,r2⟩ pr,fun q iJ=>?_⟩
   rcases List.mem_cons.mp iJ with rfl|z
   ·exact⟨tu,sT r1⟩
   ·exact hq q z
theorem nL:∀{ps:List (Addr×Key×V)} {qs:List (Addr×Key×Value×Value)},Paired (fun (p:Addr×Key×V) (q:Addr×Key×Value×Value)=>p.1=q.1∧p.2.1=q.2.1∧RelV p.2.2 q.2.2.2) ps qs→(ps.map fun p=>Value.ref p.1)=qs.map fun q=>Value.ref q.1
 |_,_, .nil=>rfl
 |_,_, .cons h t=>by
  rw[List.map_cons,List.map_cons,nL t,h.1]
theorem nM:∀{ps:List (Addr×Key×V)} {qs:List (Addr×Key×Value×Value)} {kvs:List (Key×V)} {vs:List (Key×Value)},Paired (fun (p:Addr×Key×V) (q:Addr×Key×Value×Value)=>p.1=q.1∧p.2.1=q.2.1∧RelV p.2.2 q.2.2.2) ps qs→KV kvs vs→
  KV (gg kvs (ps.map (·.2))) (qs.foldl (fun acc q=>stored acc q.2.1 q.2.2.2) vs)
 |_,_,_,_, .nil,h=>h
 |_,_,kvs,vs, .cons (b:=q) (a:=p) h t,r=>by
  obtain⟨h1,h2,h3⟩:=h
  have u:KV (putK kvs p.2.1 p.2.2) (stored vs q.2.1 q.2.2.2):=by
   rw[←h2]
   exact r.put p.2.1 h3
  have z:=nM t u
  exact z
theorem vN{X:Cx}(hc:X.calm=true):gD X (.type "dict") (fun xs H Q=>∃l,∃ps:List (Addr×Key×V),xs=[.ref l]∧H l=some (.lst (ps.map fun p=> .ref p.1))∧(∀p∈ps,H p.1=some (.tup [kV p.2.1,p.2.2]))∧
  ∀q,H q=none→Q (.ref q) (upd H q (.dK (gg [] (ps.map (·.2)))))):=by
 intro pins s σ H xs us Q I r h
 obtain⟨l,ps,rfl,hl,hp,q⟩:=h
 obtain⟨u,rfl,ru⟩:=vals1 r
 cases ru
 obtain⟨z,its,n,vs,_,e⟩:=I.Lj hl
 obtain⟨qs,pr,hq⟩:=pairs_of I.bq hp
 have e1:its=qs.map fun q=>Value.ref q.1:=by
  rw[←nL pr]
  have:=pK (as:=ps.map (·.1)) (us:=its) (by rw[List.map_map];exact vs)
  rw[this,List.map_map];rfl
 subst e1
 have zl:qs.length≤sizeLine:=by
  rw[←pr.length]
  rwa [List.length_map] at z
 refine jN (ps:=qs) (I.ok.hd hc) e hq zl fun h' tk dd keep=>?_
 have kv:=nM (kvs:=[]) (vs:=[]) pr .nil
 have zz:(gg [] (ps.map (·.2))).length≤sizeLine:=by
  have:=jD (ps.map (·.2)) []
  rw[List.length_map] at this
  have:=pr.length
  simp only [List.length_nil] at*
  omega
 exact⟨.ref s.heap.objs.size,_,I.laid (a:=s.heap.objs.size) (o:= .dK (gg [] (ps.map (·.2)))) (t':=tk) keep (Nat.le_refl _) (A8 zz (beq_eq_false_iff_ne.mpr (Ne.symm (Nat.ne_of_lt I.big))) kv dd),rfl,q _ (I.bq.fresh (Nat.le_refl _))⟩
def HS(K:PySem.W.Frag):V→List V→Hp→VK→Prop:=fun x vs H Q=>∃l xs y,∃j:Nat,x= .ref l∧vs=[y]∧cL K H l xs∧xs.all jE=true∧jE y=true∧xs.findIdx? (fun z=>AB z y)=some j∧Q (.int j) H
theorem Bk{X:Cx}:Kj X "list.index" (HS X.K):=by
 intro pins s σ H x vs v us Q I rx rv h
 obtain⟨l,xs,y,j,rfl,rfl,hS,fl,fy,hj,q⟩:=h
 cases rx
 obtain⟨u,rfl,ru⟩:=rv.one
 obtain⟨its,r,p,z⟩:=I.list hS
 obtain⟨o,ho,Lw,n,hd⟩:=p.isList
 obtain⟨c,dd,dt,sl⟩:=o
 simp only at Lw hd
 subst Lw hd
 obtain⟨Xc,RE,YZ⟩:=List.findIdx?_eq_some_iff_getElem.mp hj
 have hlen:=r.length
 have all:∀i (h1:i<xs.length) (h2:i<its.length),Ba y its[i]=AB xs[i] y:=fun i h1 h2=>by
  obtain⟨w',hw,zq⟩:=r.get (List.getElem?_eq_getElem h1)
  rw[List.getElem?_eq_getElem h2] at hw
  have e:its[i]=w':=Option.some.inj hw
  rw[e]
  exact vK zq (List.all_eq_true.mp fl _ (List.getElem_mem h1))
 refine call_meets F.slot_list_index ⟨_,ho,rfl⟩ F.entry_list_index (F.args_list_index_2 _ _) (SeqAt.list_indexAt l its.toArray n dd sl u (Ba y) j (by rw[List.size_toArray];omega) ?_ ?_ ?_) ⟨ho,?_,?_⟩
 ·have:(sizeLine:Nat) <2^63:=jL
  omega
 ·rw[List.getElem_toArray,all j Xc (by omega)]
  exact RE
 ·intro m hm Y0
  rw[List.size_toArray] at hm
  rw[List.getElem_toArray,all m (by omega) hm]
  have:=YZ m Y0
  simpa using this
 ·intro y' Y1
  exact j9 ru fy r fl y' (by simpa using Y1)
 ·exact⟨.int j,H,I.tok _,⟨_,rfl⟩,q⟩
end L2
namespace L2
open PySem PySem.Spec PyProof.Rows
structure Ek(K:PySem.W.Frag)(x qual:Str)(st:Stmt)(f:Addr)(fd:FuncData)(dV:Value):Prop where
 ex:∃(oc:Value) (od:Option Addr) (kV doc pm:Value) (an:Option Addr) (bo ct:Value) (mw:Array (Option Value)),
  fd=PySem.W.fnOf x qual (bI st) (bg st) (ak st) dV kV doc pm an bo ct∧K.lookup f=some ⟨oc,od, .func fd,mw⟩∧PySem.W.codeIn K bo qual=true
 kp:PySem.W.keepIn K (.ref f)=true
section
variable {P:Program}{w:World}{K:PySem.W.Frag}{mg:Str→Option Value}{base:Heap}
theorem Ek.ok{x qual:Str}{st:Stmt}{f:Addr}{fd:FuncData}{dV:Value}{N ps:List Str}{k:Nat}{sp:Sp}(F:Ek K x qual st f fd dV)(S:ay N ps (ak st))(len:∀vs H Q E,sp vs H Q E→vs.length=ps.length)
  (cP:∀(bo:Value) (A:Around) (outer:List Env) (s:Shared) (H:Hp) (vs:List V) (Q:VK) (E:XK),b8 k (A.deeper (envOfC qual (ak st) s.heap.objs.size f bo))→sp vs H Q E→
   ∃t,jJ (fR mB P w K mg base N qual (ak st) f bo A outer s H E).DA (bg st) t∧t { nx:=fun _ H'=>Q .cn H',rt:=Q } (start N vs) H):eD P w K mg base mB (k+1) f fd ps sp:=by
 obtain⟨oc,od,kV,doc,pm,an,bo,ct,mw,rfl,lk,me⟩:=F.ex
 refine fn_of lk me S len fun A outer s H vs Q E hr vH=>?_
 obtain⟨t,h,q⟩:=cP bo A outer s H vs Q E hr vH
 exact⟨t,h.DA,q⟩
theorem mD{x qual:Str}{st:Stmt}{f:Addr}{oc dV:Value}{od an:Option Addr}{mw:Array (Option Value)}{kV doc pm bo ct:Value}(l:K.lookup f=some ⟨oc,od, .func (PySem.W.fnOf x qual (bI st) (bg st) (ak st) dV kV doc pm an bo ct),mw⟩)
  (c:PySem.W.codeIn K bo qual=true) (k:PySem.W.keepIn K (.ref f)=true):Ek K x qual st f (PySem.W.fnOf x qual (bI st) (bg st) (ak st) dV kV doc pm an bo ct) dV:=⟨⟨oc,od,kV,doc,pm,an,bo,ct,mw,rfl,l,c⟩,k⟩
def Def(K:PySem.W.Frag)(mg:Str→Option Value)(x q:Str)(st:Stmt)(ps:List Str):Prop:=∃f fd,xw K x q st f fd∧Binds K fd ps []∧mg x=some (.ref f)
structure Y2(P:Program)(w:World)(K:PySem.W.Frag)(mg:Str→Option Value)(base:Heap)(k:Nat)(x:Str)(ps:List Str)(sp:Sp)(f:Addr)(fd:FuncData):Prop where
 ok:eD P w K mg base mB k f fd ps sp
 kp:PySem.W.keepIn K (.ref f)=true
 b:Binds K fd ps []
 g:mg x=some (.ref f)
def bD(P:Program)(w:World)(K:PySem.W.Frag)(mg:Str→Option Value)(base:Heap)(k:Nat)(x:Str)(ps:List Str)(sp:Sp):Prop:=∃f fd,Y2 P w K mg base k x ps sp f fd
theorem Def.fW{x q:Str}{st:Stmt}{N ps:List Str}{k:Nat}{sp:Sp}(D:Def K mg x q st ps)(S:ay N ps (ak st))(len:∀vs H Q E,sp vs H Q E→vs.length=ps.length)
  (cP:∀(f:Addr) (bo:Value) (A:Around) (outer:List Env) (s:Shared) (H:Hp) (vs:List V) (Q:VK) (E:XK),b8 k (A.deeper (envOfC q (ak st) s.heap.objs.size f bo))→sp vs H Q E→
   ∃t,jJ (fR mB P w K mg base N q (ak st) f bo A outer s H E).DA (bg st) t∧t { nx:=fun _ H'=>Q .cn H',rt:=Q } (start N vs) H):bD P w K mg base (k+1) x ps sp:=by
 obtain⟨f,fd,F,b,g⟩:=D
 exact⟨f,fd,F.ok S len (cP f),F.kp,b,g⟩
def bR(K:PySem.W.Frag)(C:Addr)(m q:Str)(st:Stmt)(ps:List Str):Prop:=∃f fd,xw K m q st f fd∧Binds K fd ps []∧Meth K C m f
structure RF(P:Program)(w:World)(K:PySem.W.Frag)(mg:Str→Option Value)(base:Heap)(k:Nat)(C:Addr)(m:Str)(ps:List Str)(sp:Sp)(f:Addr)(fd:FuncData):Prop where
 ok:eD P w K mg base mB k f fd ps sp
 m:Meth K C m f
 b:Binds K fd ps []
def cZ(P:Program)(w:World)(K:PySem.W.Frag)(mg:Str→Option Value)(base:Heap)(k:Nat)(C:Addr)(m:Str)(ps:List Str)(sp:Sp):Prop:=∃f fd,RF P w K mg base k C m ps sp f fd
theorem bR.fW{C:Addr}{m q:Str}{st:Stmt}{N ps:List Str}{k:Nat}{sp:Sp}(D:bR K C m q st ps)(S:ay N ps (ak st))(len:∀vs H Q E,sp vs H Q E→vs.length=ps.length)
  (cP:∀(f:Addr) (bo:Value) (A:Around) (outer:List Env) (s:Shared) (H:Hp) (vs:List V) (Q:VK) (E:XK),b8 k (A.deeper (envOfC q (ak st) s.heap.objs.size f bo))→sp vs H Q E→
   ∃t,jJ (fR mB P w K mg base N q (ak st) f bo A outer s H E).DA (bg st) t∧t { nx:=fun _ H'=>Q .cn H',rt:=Q } (start N vs) H):cZ P w K mg base (k+1) C m ps sp:=by
 obtain⟨f,fd,F,b,g⟩:=D
 exact⟨f,fd,F.ok S len (cP f),g,b⟩
def jO(K:PySem.W.Frag)(C:Addr)(q:Str)(st:Stmt)(ps:List Str)(ds:List Int):Prop:=∃f fd dV,Ek K "__init__" q st f fd dV∧Mk K C f∧∀j,j≤ds.length→∃us,Vals ((ds.drop j).map V.int) us∧Binds K fd ps us
structure RG(P:Program)(w:World)(K:PySem.W.Frag)(mg:Str→Option Value)(base:Heap)(k:Nat)(C:Addr)(ps:List Str)(ds:List Int)(sp:Sp)(f:Addr)(fd:FuncData):Prop where
 ok:eD P w K mg base mB k f fd ps sp
 m:Mk K C f
 b:∀j,j≤ds.length→∃us,Vals ((ds.drop j).map V.int) us∧Binds K fd ps us
def fD(P:Program)(w:World)(K:PySem.W.Frag)(mg:Str→Option Value)(base:Heap)(k:Nat)(C:Addr)(ps:List Str)(ds:List Int)(sp:Sp):Prop:=∃f fd,RG P w K mg base k C ps ds sp f fd
theorem jO.fW{C:Addr}{q:Str}{st:Stmt}{N ps:List Str}{ds:List Int}{k:Nat}{sp:Sp}(D:jO K C q st ps ds)(S:ay N ps (ak st))(len:∀vs H Q E,sp vs H Q E→vs.length=ps.length)
  (cP:∀(f:Addr) (bo:Value) (A:Around) (outer:List Env) (s:Shared) (H:Hp) (vs:List V) (Q:VK) (E:XK),b8 k (A.deeper (envOfC q (ak st) s.heap.objs.size f bo))→sp vs H Q E→
   ∃t,jJ (fR mB P w K mg base N q (ak st) f bo A outer s H E).DA (bg st) t∧t { nx:=fun _ H'=>Q .cn H',rt:=Q } (start N vs) H):fD P w K mg base (k+1) C ps ds sp:=by
 obtain⟨f,fd,dV,F,g,b⟩:=D
 exact⟨f,fd,F.ok S len (cP f),g,b⟩
end
theorem aF.new{H:Hp}{p:Addr}{o:HO}(h:H p=none):aF H (upd H p o):=fun b q e=>by
 rw[ao (ai e h)];exact e
end L2
namespace L2
open PySem
theorem dX:bootBuiltins "len" =some (.builtin "len"):=PySem.boot_len
theorem bj:bootBuiltins "isinstance" =some (.builtin "isinstance"):=by decide+kernel
theorem nN:bootBuiltins "int" =some (.type "int"):=by decide+kernel
theorem qI:bootBuiltins "str" =some (.type "str"):=by decide+kernel
theorem El:bootBuiltins "bool" =some (.type "bool"):=by decide+kernel
theorem kb:bootBuiltins "list" =some (.type "list"):=by decide+kernel
theorem Em:bootBuiltins "dict" =some (.type "dict"):=by decide+kernel
theorem eI{c A B:Prop}[Decidable c](hc:c)(h:A):if decide c=true then A else B:=by
 rw[if_pos (decide_eq_true hc)];exact h
theorem dR{c A B:Prop}[Decidable c](hc:¬c)(h:B):if decide c=true then A else B:=by
 rw[if_neg (by rw[decide_eq_false hc];decide)];exact h
theorem iL{α:Type}{xs:List α}{i:Int}(h0:0≤i)(h1:i<xs.length):∃v,v∈xs∧sY xs i=some v:=by
 have hl:i.toNat<xs.length:=by omega
 refine⟨xs[i.toNat],List.getElem_mem hl,?_⟩
 have:=mz (List.getElem?_eq_getElem hl)
 rwa [Int.toNat_of_nonneg h0] at this
theorem aL(x y:Str):(x++y).length=x.length+y.length:=by
 show (x.cps++y.cps).size=_
 rw[Array.size_append];rfl
theorem pL{n:Int}(h1:0≤n)(h2:n<2^64):n.natAbs.log2<1920:=by
 by_cases h:n.natAbs=0
 ·rw[h];decide
 ·have:=(Nat.log2_lt h (k:=64)).mpr (by omega)
  omega
end L2
namespace L2
open PySem PySem.Spec PyProof.Rows
inductive pM:List Expr→List V→Prop where
 |nil:pM [] []
 |int {i:Int} {j} {pos:Pos} {es:List Expr} {vs:List V} (t:pM es vs):pM (.Constant (.int i) j pos::es) (.int i::vs)
 |str {x:Str} {j} {pos:Pos} {es:List Expr} {vs:List V} (t:pM es vs):pM (.Constant (.str x) j pos::es) (.str x::vs)
def Lx(vs:List V):TA:=fun _ H Q=>Q vs H
theorem mE{X:Cx}{es:List Expr}{vs:List V}(h:pM es vs):PA X es (Lx vs):=by
 induction h with
 |nil=>exact ah
 |int t ih=>exact fun pos pins s σ H Q I q=>aa aq ih rfl pos pins s σ H Q I q
 |str t ih=>exact fun pos pins s σ H Q I q=>aa aN ih rfl pos pins s σ H Q I q
section
variable {K:PySem.W.Frag}
theorem kd{T:String}:PySem.W.kitOne K (.type T) (.type T)=some true:=by
 unfold PySem.W.kitOne
 rw[if_pos (by simp)]
theorem HU{T U:String}{b:Bool}(h1:(Value.type T==Value.type U)=false)(h2:PySem.W.kitMeta U=true)(h3:(fastBuiltinMro T).map (·.contains (Value.type U))=some b):PySem.W.kitOne K (.type T) (.type U)=some b:=by
 unfold PySem.W.kitOne
 rw[if_neg (by rw[h1];decide)]
 unfold PySem.W.kitCls
 dsimp only
 rw[if_pos h2]
 exact h3
theorem qJ:PySem.W.kitOne K (.type "int") (.type "bool")=some false:=HU (by decide+kernel) (by decide+kernel) (by decide+kernel)
end
end L2
namespace L2
open PySem PySem.Spec PyProof.Rows
section
variable {X:Cx}{elt tg iter:Expr}{ifs:List Expr}{scope:Scope}{pos Ly py:Pos}{N:List Str}{fr:List (Option Nat)}{wi:TI}{g:TG}{tt:TT}{te:TE}
end
theorem lB{K:PySem.W.Frag}{a D:Addr}{xs:List V}{g:TG}{tt:TT}{te:TE}{Q:Hp→Prop}{σ:St}{H:Hp}(Pv:Nat→St→Hp→Prop)(h0:Pv 0 σ H)(hl:∀i σ H,i≤xs.length→Pv i σ H→cL K H a xs)
  (hs:∀i x σ H,xs[i]? =some x→Pv i σ H→∀N:St→Hp→Prop,(∀σ' H',Pv (i+1) σ' H'→N σ' H')→g x σ H fun σ3 H3=>tt σ3 H3 fun b H4=>if b=true then te σ3 H4 fun y H5=>∃ys,H5 D=some (.lst ys)∧ys.length<sizeLine∧N σ3 (upd H5 D (.lst (ys++[y]))) else N σ3 H4)
  (hd:∀σ H,Pv xs.length σ H→Q H):
  ∃W:Nat→Nat→St→Hp→Prop,(∃m,W 0 m σ H)∧∀i m σ H,W i m σ H→((AW K a).stop i H∧Q H)∨((AW K a).go i H∧∀x H2,(AW K a).yZ i H x H2→g x σ H2 fun σ3 H3=>tt σ3 H3 fun b H4=>if b=true
   then te σ3 H4 fun y H5=>∃ys,H5 D=some (.lst ys)∧ys.length<sizeLine∧∃m',m'<m∧W (i+1) m' σ3 (upd H5 D (.lst (ys++[y])))
   else∃m',m'<m∧W (i+1) m' σ3 H4):=by
 refine⟨fun i m σ H=>m+i=xs.length∧Pv i σ H,⟨xs.length,rfl,h0⟩,?_⟩
 rintro i m σ H ⟨hm,hp⟩
 have sq:=hl i σ H (by omega) hp
 by_cases hi:i<xs.length
 ·refine .inr ⟨⟨xs,xs[i],sq,List.getElem?_eq_getElem hi⟩,?_⟩
  rintro x H2 ⟨rfl,hx⟩
  exact hs i x σ H2 (hx xs sq) hp _ fun σ' H' q=>⟨m - 1,by omega,by omega,q⟩
 ·have e:i=xs.length:=by omega
  subst e
  exact .inl ⟨⟨xs,sq,Nat.le_refl _⟩,hd σ H hp⟩
theorem En{X:Cx}{es:List Expr}{k:Nat}{pos:Pos}{t:Gf}(K:PySem.W.Frag)(n:Nat)(hK:X.K=K)(hc:X.calm=true)(h:Ki X es t)(hn:(assignEach es X.env).length=n:=by rfl)(Gg:(assignEach es X.env).findIdx? (·.1)=none:=by rfl):PG X (.Tuple es k pos) (KU K n t):=by
 subst hK
 exact qx hc h hn Gg
theorem zB{a D:Addr}{o:Obj}{kvs:List (Key×V)}{g:TG}{tt:TT}{te:TE}{Q:Hp→Prop}{σ:St}{H:Hp}(Pv:Nat→St→Hp→Prop)(h0:Pv 0 σ H)(hl:∀i σ H,Pv i σ H→H a=some (.kY o (.dK kvs)))
  (hs:∀i k v σ H,kvs[i]? =some (k,v)→Pv i σ H→∀N:St→Hp→Prop,(∀σ' H',Pv (i+1) σ' H'→N σ' H')→g (kV k) σ H fun σ3 H3=>tt σ3 H3 fun b H4=>if b=true then te σ3 H4 fun y H5=>∃ys,H5 D=some (.lst ys)∧ys.length<sizeLine∧N σ3 (upd H5 D (.lst (ys++[y]))) else N σ3 H4)
  (hd:∀σ H,Pv kvs.length σ H→Q H):
  ∃W:Nat→Nat→St→Hp→Prop,(∃m,W 0 m σ H)∧∀i m σ H,W i m σ H→((Lo a o kvs).stop i H∧Q H)∨((Lo a o kvs).go i H∧∀x H2,(Lo a o kvs).yZ i H x H2→g x σ H2 fun σ3 H3=>tt σ3 H3 fun b H4=>if b=true
   then te σ3 H4 fun y H5=>∃ys,H5 D=some (.lst ys)∧ys.length<sizeLine∧∃m',m'<m∧W (i+1) m' σ3 (upd H5 D (.lst (ys++[y])))
   else∃m',m'<m∧W (i+1) m' σ3 H4):=by
 refine⟨fun i m σ H=>m+i=kvs.length∧Pv i σ H,⟨kvs.length,rfl,h0⟩,?_⟩
 rintro i m σ H ⟨hm,hp⟩
 have hz:=hl i σ H hp
 by_cases hi:i<kvs.length
 ·refine .inr ⟨⟨hz,hi⟩,?_⟩
  rintro x H2 ⟨rfl,k,v,P9,rfl⟩
  exact hs i k v σ H2 P9 hp _ fun σ' H' q=>⟨m - 1,by omega,by omega,q⟩
 ·have e:i=kvs.length:=by omega
  subst e
  exact .inl ⟨⟨hz,Nat.le_refl _⟩,hd σ H hp⟩
end L2
namespace L2
open PySem PySem.Spec PyProof.Rows
section
variable {X:Cx}
def RH(t u:TE):TE:=fun σ H Q=>t σ H Q∨u σ H Q
theorem HV{e:Expr}{t u:TE}(h:PE X e t)(h':PE X e u):PE X e (RH t u):=fun pins s σ H Q I q=>
 q.elim (fun z=>h pins s σ H Q I z) fun z=>h' pins s σ H Q I z
theorem nO:∀{xs:List Str} {us:List Value},Vals (xs.map V.str) us→StrsAre us xs
 | [],_, .nil=> .nil
 |x::r,_, .cons h t=>by
  obtain⟨tk,e⟩:=(show∃t,_=Value.str x t from h)
  subst e
  exact .cons x tk (nO t)
def rJoin(K:PySem.W.Frag):V→List V→Hp→VK→Prop:=fun x vs H Q=>∃z l,∃ys:List Str,x= .str z∧vs=[.ref l]∧cL K H l (ys.map V.str)∧(ys.map (·.length)).sum+ys.length*z.length≤16777216∧Q (.str (Txt.join z ys)) H
theorem mF:Kj X "str.join" (rJoin X.K):=by
 intro pins s σ H x vs v us Q I rx rv h
 obtain⟨z,l,ys,rfl,rfl,hS,hz,q⟩:=h
 obtain⟨t,e⟩:=(show∃t,v=Value.str z t from rx)
 subst e
 obtain⟨u,rfl,ru⟩:=rv.one
 cases ru
 obtain⟨its,r,p,_⟩:=I.list hS
 exact join_list p.isList (by simpa using nO r) hz fun t' k=>⟨.str (Txt.join z ys),H,I.tok k,⟨t',rfl⟩,q⟩
mutual
inductive DE(K:PySem.W.Frag)(H:Hp):V→PyData→Prop where
 |cn:DE K H .cn .none
 |bl (b:Bool):DE K H (.bl b) (.bool b)
 |int (i:Int):DE K H (.int i) (.int i)
 |str (x:Str):DE K H (.str x) (.str x)
 |lst {a:Addr} {xs:List V} {ds:List PyData} (h:cL K H a xs) (t:vO K H xs ds):DE K H (.ref a) (.list ds)
 |tup {a:Addr} {xs:List V} {ds:List PyData} (h:mq K H a xs) (t:vO K H xs ds):DE K H (.ref a) (.tuple ds)
inductive vO(K:PySem.W.Frag)(H:Hp):List V→List PyData→Prop where
 |nil:vO K H [] []
 |cons {x:V} {d:PyData} {xs:List V} {ds:List PyData} (h:DE K H x d) (t:vO K H xs ds):vO K H (x::xs) (d::ds)
end
mutual
theorem iN{pins:List (Addr×Obj)}{σ:St}{H:Hp}{s:Shared}(I:Inv X pins σ H s){x:V}{d:PyData}(h:DE X.K H x d){u:Value}(r:RelV x u):∃as,Reads s.heap u d as:=by
 cases h with
 |cn=>cases (show u=Value.none from r);exact⟨_, .none⟩
 |bl b=>cases (show u=Value.bool b from r);exact⟨_, .bool b⟩
 |int i=>obtain⟨t,rfl⟩:=(show∃t,u=Value.int i t from r);exact⟨_, .int i t⟩
 |str y=>obtain⟨t,rfl⟩:=(show∃t,u=Value.str y t from r);exact⟨_, .str y t⟩
 | @lst a xs ds hS t=>
   cases (show u=Value.ref a from r)
   obtain⟨its,rv,p,_⟩:=I.list hS
   obtain⟨o,ho,hc,n,hd⟩:=p.isList
   obtain⟨as,ra⟩:=iO I t rv
   exact⟨_, .list ho hc hd (by simpa using ra)⟩
 | @tup a xs ds hS t=>
   cases (show u=Value.ref a from r)
   obtain⟨its,rv,p,_⟩:=I.tuple hS
   obtain⟨o,ho,hc,n,hd⟩:=p
   obtain⟨as,ra⟩:=iO I t rv
   exact⟨_, .tuple ho hc hd (by simpa using ra)⟩
theorem iO{pins:List (Addr×Obj)}{σ:St}{H:Hp}{s:Shared}(I:Inv X pins σ H s){xs:List V}{ds:List PyData}(h:vO X.K H xs ds){us:List Value}(r:Vals xs us):∃as,ReadsAll s.heap us ds as:=by
 cases h with
 |nil=>cases r;exact⟨_, .nil⟩
 |cons h t=>
  cases r with
  |cons r1 r2=>
   obtain⟨as,ra⟩:=iN I h r1
   obtain⟨bs,rb⟩:=iO I t r2
   exact⟨_, .cons ra rb⟩
end
def Lz(neg:Bool)(K:PySem.W.Frag):R2:=fun x y H Q=>∃d e,DE K H x d∧DE K H y e∧SeqAt.shaped d=true∧SeqAt.shaped e=true∧Q (.bl (neg^^PyData.eqv d e)) H
theorem HW(hu:X.A.units+64<cLine):lh X (compareOp .Eq) (Lz false X.K):=by
 intro pins s σ H x y v u Q I rx ry h
 obtain⟨d,e,hd,he,sd,se,q⟩:=h
 obtain⟨as,ra⟩:=iN I hd rx
 obtain⟨bs,rb⟩:=iN I he ry
 exact SeqAt.compareEq_shaped ra rb sd se hu ⟨.bl (PyData.eqv d e),H,I,rfl,by simpa using q⟩
theorem Bl(hu:X.A.units+64<cLine):lh X (compareOp .NotEq) (Lz true X.K):=by
 intro pins s σ H x y v u Q I rx ry h
 obtain⟨d,e,hd,he,sd,se,q⟩:=h
 obtain⟨as,ra⟩:=iN I hd rx
 obtain⟨bs,rb⟩:=iN I he ry
 exact SeqAt.compareNe_shaped ra rb sd se hu ⟨.bl (!PyData.eqv d e),H,I,rfl,by simpa using q⟩
end
end L2
namespace L2
open PySem PySem.Spec PyProof.Rows
section
variable {X:Cx}
end
theorem eZ{tt:TT}{A B r:TS}{D:Ends}{σ:St}{H:Hp}(Pm:St→Hp→Prop)(h:∀N:St→Hp→Prop,(∀σ' H',Pm σ' H'→N σ' H')→Ho tt A B { D with nx:=N } σ H)(hr:∀σ' H',Pm σ' H'→r D σ' H'):AS (Ho tt A B) r D σ H:=h _ hr
section
variable {X:Cx}{pins:List (Addr×Obj)}{σ:St}{H:Hp}{s:Shared}{h':Heap}
end
theorem Bm:bootBuiltins "abs" =some (.builtin "abs"):=by decide+kernel
end L2
namespace L2
open PySem PySem.Spec PyProof.Rows
section
variable {K:PySem.W.Frag}{g:TG}{tt:TT}{te:TE}{tb:TS}{D:Ends}
end
end L2
namespace L2
open PySem PySem.Spec PyProof.Rows
section
variable {X:Cx}{pins:List (Addr×Obj)}{σ:St}{H:Hp}{s:Shared}{N:List Str}{fr:List (Option Nat)}{scope:Scope}{fp:List Addr}
end
section
variable {X:Cx}{elt tg iter:Expr}{ifs:List Expr}{scope:Scope}{pos Ly py:Pos}{N:List Str}{fr:List (Option Nat)}{wi:TI}{g:TG}{tt:TT}{te:TE}
end
section
variable {X:Cx}{tg:Expr}(K:PySem.W.Frag)
end
end L2
namespace L2
open PySem PySem.Spec PyProof.Rows
section
variable {K:PySem.W.Frag}{g:TG}{tt:TT}{te:TE}
end
mutual
theorem kg:∀d:PyData,d.canLay0=true→PyData.eqv d d=true
 | .none,_=>by simp [PyData.eqv]
 | .bool _,_=>by simp [PyData.eqv]
 | .int _,_=>by simp [PyData.eqv]
 | .str _,_=>by simp [PyData.eqv]
 | .list xs,h=>by rw[PyData.eqv];exact iP xs (by simpa [PyData.canLay0] using h)
 | .tuple xs,h=>by rw[PyData.eqv];exact iP xs (by simpa [PyData.canLay0] using h)
 | .dict _,h=>by simp [PyData.canLay0] at h
theorem iP:∀xs:List PyData,PyData.canLayAll0 xs=true→PyData.eqvAll xs xs=true
 | [],_=>by simp [PyData.eqvAll]
 |x::xs,h=>by
  have h':x.canLay0=true∧PyData.canLayAll0 xs=true:=by simpa [PyData.canLayAll0] using h
  rw[PyData.eqvAll,kg x h'.1,iP xs h'.2];rfl
end
theorem pN{d:PyData}(h1:d.canLay0=true)(h2:d.depth≤64):SeqAt.shaped d=true:=by
 unfold SeqAt.shaped;rw[h1,decide_eq_true h2];rfl
section
variable {X:Cx}(K:PySem.W.Frag)
end
end L2
namespace L2
open PySem PySem.Spec PyProof.Rows
section
variable {K:PySem.W.Frag}{g:TG}{tt:TT}{te:TE}
end
end L2
namespace L2
open PySem PySem.Spec PyProof.Rows
theorem HX:bootBuiltins "max" =some (.builtin "max"):=by decide+kernel
section
variable {X:Cx}
end
end L2
namespace L2
open PySem PySem.Spec PyProof.Rows
section
variable {X:Cx}
end
end L2
namespace L2
open PySem PySem.Spec PyProof.Rows PySem.W
section
variable {O:KeyOrd}{k:Nat→O.α}{n:Nat}{I:Shared→Prop}{cmp:Nat→Nat→(Bool→Shared→Prop)→Shared→Prop}
end
end L2
namespace PySem.SeqAt
open AutoSeq1 (wpAny_loadPart')
open MeetsSeq MeetsSeq2 MeetsSeq3
def Eo(e c:Nat→Bool):List Nat→Bool
 | []=>false
 |j::r=>if e j=true then Eo e c r else c j
end PySem.SeqAt
namespace L2
open PySem PySem.Spec PyProof.Rows PySem.SeqAt PySem.W
@[reducible] def RK:KeyOrd where
  α:=List Int
  blt a b:=decide (a<b)
  irrefl a:=by simp
  trans a b c h1 h2:=by simp only [decide_eq_true_eq] at*;exact List.lt_trans h1 h2
  negTrans a b c h:=by
   simp only [decide_eq_true_eq] at*
   by_cases RL:a<b
   ·exact .inl RL
   ·exact .inr (List.lt_of_le_of_lt (List.not_lt.mp RL) h)
  total a b h1 h2:=by simp only [decide_eq_false_iff_not] at*;exact List.le_antisymm (List.not_lt.mp h2) (List.not_lt.mp h1)
theorem Ep:∀(xs ys:List Int) (d:Nat) (f g:Nat→Int),xs.length=ys.length→(∀j,j<xs.length→f (d+j)=xs.getD j 0)→(∀j,j<xs.length→g (d+j)=ys.getD j 0)→
  Eo (fun j=>f j==g j) (fun j=>decide (f j<g j)) (List.range' d xs.length)=decide (xs<ys)
 | [],[],d,f,g,_,_,_=>by simp [Eo]
 |x::xs,y::ys,d,f,g,hl,hf,hg=>by
  have h0:=hf 0 (by simp)
  have g0:=hg 0 (by simp)
  simp at h0 g0
  have ih:=Ep xs ys (d+1) f g (by simpa using hl) (fun j hj=>by
   have:=hf (j+1) (by simp;omega)
   rw[show d+1+j=d+(j+1) by omega,this];simp) (fun j hj=>by
   have:=hg (j+1) (by simp;omega)
   rw[show d+1+j=d+(j+1) by omega,this];simp)
  rw[List.length_cons,List.range'_succ,Eo,ih,h0,g0]
  by_cases e:x=y
  ·subst e
   rw[if_pos (by simp)]
   simp [List.cons_lt_cons_iff]
  ·rw[if_neg (by simpa using e)]
   simp [List.cons_lt_cons_iff,e]
section
variable {prog:Program}{w:World}{A:Around}{E:Value→Shared→Prop}{s:Shared}
end
section
variable {X:Cx}
end
end L2
namespace L2
open PySem PySem.Spec PyProof.Rows
section
variable {X:Cx}
end
end L2
namespace L2
open PySem PySem.Spec PyProof.Rows
section
variable {K:PySem.W.Frag}{g:TG}{tt:TT}{te:TE}
theorem Bn{J:It}{L:Addr}{Q:Hp→Prop}{σ:St}{H:Hp}(n:Nat)(H0:Hp)(S:St→Prop)(Pv:Nat→List V→Prop)(Y3:∀i H',i<n→aF H0 H'→J.go i H')(LA:∀H',aF H0 H'→J.stop n H')
  (RM:H0 L=none) (hσ:S σ) (h0:aF H0 H) (hL:H L=some (.lst [])) (p0:Pv 0 []) (hz:n≤sizeLine) (hl:∀i ys,Pv i ys→ys.length≤i)
  (turn:∀i σ H' ys,i<n→S σ→aF H0 H'→H' L=some (.lst ys)→Pv i ys→∀(N:St→V→Hp→Prop) (M:St→Hp→Prop),(∀σ3 y H5,S σ3→aF H0 H5→H5 L=some (.lst ys)→Pv (i+1) (ys++[y])→N σ3 y H5)→(∀σ3 H4,S σ3→aF H0 H4→H4 L=some (.lst ys)→Pv (i+1) ys→M σ3 H4)→
   ∀x H2,J.yZ i H' x H2→g x σ H2 fun σ3 H3=>tt σ3 H3 fun b H4=>if b=true then te σ3 H4 fun y H5=>N σ3 y H5 else M σ3 H4)
  (fin:∀H' ys,aF H0 H'→H' L=some (.lst ys)→Pv n ys→Q H'):
  ∃W:Nat→Nat→St→Hp→Prop,(∃m,W 0 m σ H)∧∀i m σ H,W i m σ H→(J.stop i H∧Q H)∨(J.go i H∧∀x H2,J.yZ i H x H2→g x σ H2 fun σ3 H3=>tt σ3 H3 fun b H4=>if b=true
   then te σ3 H4 fun y H5=>∃ys,H5 L=some (.lst ys)∧ys.length<sizeLine∧∃m',m'<m∧W (i+1) m' σ3 (upd H5 L (.lst (ys++[y])))
   else∃m',m'<m∧W (i+1) m' σ3 H4):=by
 refine⟨fun i m σ H=>m+i=n∧S σ∧aF H0 H∧∃ys,H L=some (.lst ys)∧Pv i ys,⟨n,rfl,hσ,h0,[],hL,p0⟩,?_⟩
 rintro i m σ H ⟨hm,hs,xB,ys,Xd,hp⟩
 by_cases hi:i<n
 ·refine .inr ⟨Y3 i H hi xB,fun x H2 hy=>turn i σ H ys hi hs xB Xd hp _ _ (fun σ3 y H5 k1 k2 k3 k4=>?_) (fun σ3 H4 k1 k2 k3 k4=>?_) x H2 hy⟩
  ·refine⟨ys,k3,by have:=hl i ys hp;omega,m - 1,by omega,by omega,k1,fun b o e=>?_,ys++[y],ag,k4⟩
   rw[ao (ai e RM)];exact k2 b o e
  ·exact⟨m - 1,by omega,by omega,k1,k2,ys,k3,k4⟩
 ·have e:i=n:=by omega
  subst e
  exact .inl ⟨LA H xB,fin H ys xB Xd hp⟩
theorem zC{a L:Addr}{xs:List V}{Q:Hp→Prop}{σ:St}{H:Hp}(H0:Hp)(S:St→Prop)(Pv:Nat→List V→Prop)(ha:cL K H0 a xs)
  (RM:H0 L=none) (hσ:S σ) (h0:aF H0 H) (hL:H L=some (.lst [])) (p0:Pv 0 []) (hz:xs.length≤sizeLine) (hl:∀i ys,Pv i ys→ys.length≤i)
  (turn:∀i x σ H' ys,xs[i]? =some x→S σ→aF H0 H'→H' L=some (.lst ys)→Pv i ys→∀(N:St→V→Hp→Prop) (M:St→Hp→Prop),(∀σ3 y H5,S σ3→aF H0 H5→H5 L=some (.lst ys)→Pv (i+1) (ys++[y])→N σ3 y H5)→(∀σ3 H4,S σ3→aF H0 H4→H4 L=some (.lst ys)→Pv (i+1) ys→M σ3 H4)→
   g x σ H' fun σ3 H3=>tt σ3 H3 fun b H4=>if b=true then te σ3 H4 fun y H5=>N σ3 y H5 else M σ3 H4)
  (fin:∀H' ys,aF H0 H'→H' L=some (.lst ys)→Pv xs.length ys→Q H'):
  ∃W:Nat→Nat→St→Hp→Prop,(∃m,W 0 m σ H)∧∀i m σ H,W i m σ H→((AW K a).stop i H∧Q H)∨((AW K a).go i H∧∀x H2,(AW K a).yZ i H x H2→g x σ H2 fun σ3 H3=>tt σ3 H3 fun b H4=>if b=true
   then te σ3 H4 fun y H5=>∃ys,H5 L=some (.lst ys)∧ys.length<sizeLine∧∃m',m'<m∧W (i+1) m' σ3 (upd H5 L (.lst (ys++[y])))
   else∃m',m'<m∧W (i+1) m' σ3 H4):=
 Bn xs.length H0 S Pv (fun i H' hi e=>⟨xs,xs[i],e.seq ha,List.getElem?_eq_getElem hi⟩) (fun H' e=>⟨xs,e.seq ha,Nat.le_refl _⟩) RM hσ h0 hL p0 hz hl
  (fun i σ H' ys _ hs e k p N M hN hM x H2 hy=>by
   obtain⟨rfl,hx⟩:=hy
   exact turn i x σ H2 ys (hx xs (e.seq ha)) hs e k p N M hN hM) fin
end
section
variable {X:Cx}
end
end L2
namespace L2
open PySem PySem.Spec PyProof.Rows
section
variable {K:PySem.W.Frag}{g:TG}{tt:TT}{te:TE}
end
section
variable {X:Cx}
end
end L2
namespace PySem.W
open PySem PySem.Calls PyProof.Rows PyProof.V PySem.Spec
section
variable {prog:Program}{w:World}{A:Around}{E:Value→Shared→Prop}{s:Shared}{T:String}{r d:Addr}{n:Nat}{P:Nat→Value→Prop}{OK:Heap→Prop}
end
end PySem.W
namespace L2
open PySem PySem.Spec PyProof.Rows PySem.W
section
variable {X:Cx}
end
end L2
namespace L2
open PySem PySem.Spec PyProof.Rows
section
variable {X:Cx}
end
end L2
namespace L2
open PySem PySem.Spec PyProof.Rows
section
variable {X:Cx}
theorem fu:lh X (compareOp .LtE) (fun x y H Q=>∃i j,x= .str i∧y= .str j∧Q (.bl (!decide (j.cps.toList<i.cps.toList))) H):=by
 intro pins s σ H x y v u Q I rx ry h
 obtain⟨i,j,rfl,rfl,q⟩:=h
 obtain⟨t,rfl⟩:=(show∃t,v=Value.str i t from rx)
 obtain⟨t',rfl⟩:=(show∃t,u=Value.str j t from ry)
 exact PySem.P.le_str ⟨.bl _,H,I,rfl,q⟩
theorem zD:gD X (.type "int") (fun xs H Q=>∃x n,xs=[.str x]∧PySem.intText? x=some n∧x.length≤640∧Q (.int n) H):=by
 intro pins s σ H xs us Q I r h
 obtain⟨x,n,rfl,hn,hl,q⟩:=h
 obtain⟨u,rfl,ru⟩:=vals1 r
 obtain⟨t,rfl⟩:=(show∃t,u=Value.str x t from ru)
 exact PySem.W.KIN.call_text hn hl ⟨.int n,H,I.tok _,⟨_,rfl⟩,q⟩
def RN:V→Option Int→Option Int→Hp→VK→Prop:=fun x lo hi H Q=>∃y,x= .str y∧y.length≤sizeLine∧Q (.str (Txt.slice y lo hi)) H
theorem eR:W5 X RN:=by
 intro pins s σ H x v vl vu lo hi sl Q I rx hs pl pu h
 obtain⟨y,rfl,hz,q⟩:=h
 obtain⟨t,rfl⟩:=(show∃t,v=Value.str y t from rx)
 refine⟨"str",_,F.slot_str_getitem.lookup,typeIs_str _ _ _,?_⟩
 cases pl with
 |none=>cases pu with
  |none=>exact wpAny_getItem_str_slice (l:=none) (u:=none) (st:=none) hs rfl (post_val_or_str ⟨Nat.le_trans (Txt.slice_le y _ _) hz,fun t' k=>⟨.str _,H,I.tok k,⟨t',rfl⟩,q⟩⟩)
  |int j uj=>exact wpAny_getItem_str_slice (l:=none) (u:=some (j,uj)) (st:=none) hs rfl (post_val_or_str ⟨Nat.le_trans (Txt.slice_le y _ _) hz,fun t' k=>⟨.str _,H,I.tok k,⟨t',rfl⟩,q⟩⟩)
 |int i ui=>cases pu with
  |none=>exact wpAny_getItem_str_slice (l:=some (i,ui)) (u:=none) (st:=none) hs rfl (post_val_or_str ⟨Nat.le_trans (Txt.slice_le y _ _) hz,fun t' k=>⟨.str _,H,I.tok k,⟨t',rfl⟩,q⟩⟩)
  |int j uj=>exact wpAny_getItem_str_slice (l:=some (i,ui)) (u:=some (j,uj)) (st:=none) hs rfl (post_val_or_str ⟨Nat.le_trans (Txt.slice_le y _ _) hz,fun t' k=>⟨.str _,H,I.tok k,⟨t',rfl⟩,q⟩⟩)
end
def LB(x:Str):It:=⟨fun i _=>i<x.length,fun i H v H'=>H'=H∧∃c,x.cps[i]? =some c∧v= .str ⟨#[c]⟩,fun i _=>x.length≤i⟩
theorem Bo{P:Program}{w:World}{K:PySem.W.Frag}{tg:Expr}(it:Addr)(x:Str)(t:Tok):
  Turn P w K tg (LB x) [it] it (fun i h=>h.IsStrIter it "str_ascii_iterator" x t i) where
 mem:=by simp
 obj:=fun i h st b hb=>by
  have e:b=it:=by simpa using hb
  subst e
  obtain⟨o,e,c,d⟩:=st
  exact⟨o,e,fun v z=>by rw[d] at z;cases z⟩
 keep:=fun i h h' st k=>let ⟨o,ho,r⟩:=st;⟨o,k it (by simp) o ho,r⟩
 item:=by
  intro X hP hw hK hc i pins s σ H E I hf st hg
  subst hP hw hK
  have hg:i<x.cps.size:=hg
  obtain⟨f0,f1,f2,f3,f4,f5⟩:=hf it (by simp)
  refine wpAny_pyNext_ascii_item st (Array.getElem?_eq_getElem hg) fun h' Az sb=>?_
  have I1:Inv X pins σ H { s with heap:=h',toks:=s.toks+1 }:=I.turned (t':=s.toks+1) (fun b o hb e=>(sb.2 b hb).trans e) f0 f1 f3 f4 f5
  obtain⟨oi,e,c,d⟩:=id Az
  exact⟨_,rfl,xo (s:={ s with heap:=h',toks:=s.toks+1 }) e c d (by decide) ⟨.str ⟨#[x.cps[i]]⟩,H,I1,⟨_,rfl⟩,⟨rfl,_,Array.getElem?_eq_getElem hg,rfl⟩,Az,fun b hb=>(hf b hb).1⟩⟩
 done:=by
  intro X hP hw hK hc i pins s σ H E I hf st hg
  subst hP hw hK
  have hg:x.cps.size≤i:=hg
  obtain⟨f0,f1,f2,f3,f4,f5⟩:=hf it (by simp)
  exact wpAny_pyNext_ascii_end (I.ok.hd hc) st (Array.getElem?_eq_none hg) fun h' eb=>⟨rfl,I.turned (t':=s.toks) (fun b o hb e=>eb b o hb e) f0 f1 f3 f4 f5⟩
 self:=fun _ _ _ _ _ st h=>wpAny_pyIter_striter_ascii st h
section
variable {X:Cx}{tg:Expr}
def RO(tl:TE):TI:=fun σ H R=>tl σ H fun v H1=>∃x,v= .str x∧x.cps.all (· <128)=true∧R (LB x) H1
theorem HY{l:Expr}{tl:TE}(hl:PE X l tl):PI X tg l (RO tl):=by
 intro pins s σ H R I h
 refine bU (hl pins s σ H _ I h) fun v s1 ⟨y,H1,I1,r1,x,e,ha,q⟩=>?_
 subst e
 obtain⟨t,rfl⟩:=(show∃t,v=Value.str x t from r1)
 refine wpAny_pyIter_ascii ha ?_
 refine⟨s1.heap.objs.size,[s1.heap.objs.size],_,_,_,rfl,I1.kept (t':=s1.toks) fun b o e=>Heap.get?_push_of_some _ e,Bo _ x t,?_,fun b hb=>?_,q⟩
 ·exact⟨_,Heap.get?_push_size _ rfl,rfl,rfl⟩
 ·have e:b=s1.heap.objs.size:=by simpa using hb
  subst e
  exact I1.AV (Nat.le_refl _) (I1.bq.fresh (Nat.le_refl _))
end
theorem Er{x:Str}{g:TG}{tb:TS}{D:Ends}{σ:St}{H:Hp}(Pv:Nat→St→Hp→Prop)(h0:Pv 0 σ H)
  (hs:∀i c σ H,x.cps[i]? =some c→Pv i σ H→g (.str ⟨#[c]⟩) σ H fun σ2 H2=>tb { D with nx:=Pv (i+1),ct:=Pv (i+1),bk:=D.nx } σ2 H2) (hd:∀σ H,Pv x.length σ H→D.nx σ H):
  ∃W:Nat→Nat→St→Hp→Prop,(∃m,W 0 m σ H)∧∀i m σ H,W i m σ H→
   ((LB x).stop i H∧D.nx σ H)∨((LB x).go i H∧∃N:St→Hp→Prop,(∀σ' H',N σ' H'→∃m',m'<m∧W (i+1) m' σ' H')∧∀v H',(LB x).yZ i H v H'→g v σ H' fun σ2 H2=>tb { D with nx:=N,ct:=N,bk:=D.nx } σ2 H2):=by
 refine⟨fun i m σ H=>m+i=x.length∧Pv i σ H,⟨x.length,rfl,h0⟩,?_⟩
 rintro i m σ H ⟨hm,p⟩
 by_cases hi:i<x.length
 ·refine .inr ⟨hi,Pv (i+1),fun σ' H' q=>⟨m - 1,by omega,by omega,q⟩,?_⟩
  rintro v H' ⟨rfl,c,hc,rfl⟩
  exact hs i c σ _ hc p
 ·have e:i=x.length:=by omega
  subst e
  exact .inl ⟨Nat.le_refl _,hd σ H p⟩
end L2
namespace L2
open PySem PySem.Spec PyProof.Rows
section
variable {X:Cx}
end
end L2
namespace PySem.W
open PySem PySem.Calls PyProof.Rows PyProof.V PySem.Spec
section
variable {prog:Program}{w:World}{A:Around}{E:Value→Shared→Prop}{s:Shared}{T:String}{r d:Addr}{n:Nat}{P:Nat→Value→Prop}{OK:Heap→Prop}
end
end PySem.W
namespace L2
open PySem PySem.Spec PyProof.Rows PySem.W
section
variable {X:Cx}
end
section
variable {X:Cx}{pins:List (Addr×Obj)}{σ:St}{H:Hp}{s:Shared}{a b:Addr}{kvs more:List (Key×V)}{A:Around}{E:Value→Shared→Prop}
end
section
variable {X:Cx}{o e:Expr}{apos gJ:Pos}{td ty:TE}
end
end L2
namespace L2
open PySem PySem.Spec PyProof.Rows
end L2
namespace L2
open PySem PySem.Spec PyProof.Rows
end L2
namespace L2
open PySem PySem.Spec PyProof.Rows PySem.W
section
variable {X:Cx}
end
end L2
namespace L2
open PySem PySem.Spec PyProof.Rows
end L2
namespace L2
open PySem PySem.Spec PyProof.Rows
section
variable {X:Cx}
end
end L2
namespace L2
open PySem PySem.Spec PyProof.Rows
section
variable {X:Cx}
end
end L2
namespace L2
open PySem PySem.Spec PyProof.Rows
section
variable {X:Cx}
end
end L2
namespace PySem
structure Heap.jP(h:Heap)(e:Addr)(tb:Option Addr):Prop where
 ex:∃oe vs,h.get? e=some oe∧oe.data= .fields vs∧vs[1]? =some (tb.elim Value.none Value.ref)
 tr:∀T,tb=some T→T≠e∧∃oT ts,h.get? T=some oT∧oT.data= .fields ts∧3<ts.size
structure Heap.Moved(fs:List Addr)(e:Addr)(tb:Option Addr)(h h':Heap):Prop where
 keep:∀b o,h.get? b=some o→b≠e→tb≠some b→b∉fs→h'.get? b=some o
 slot:∀b o,h.get? b=some o→b≠e→tb≠some b→∃sl,h'.get? b=some { o with slots:=sl }
 self:∀o,h.get? e=some o→∃vs,h'.get? e=some { o with data:= .fields vs }
 ent:∀b o,tb=some b→b≠e→h.get? b=some o→∃o',h'.get? b=some o'
 size:h.objs.size≤h'.objs.size
 ctx:∀o vs,h.get? e=some o→o.data= .fields vs→∃sC,h'.get? e=some { o with data:= .fields sC }∧sC[2]? =vs[2]?
theorem Heap.Moved.there{fs:List Addr}{e:Addr}{tb:Option Addr}{h h':Heap}(m:Heap.Moved fs e tb h h')(b:Addr)(o:Obj)(q:h.get? b=some o):∃o',h'.get? b=some o':=by
 by_cases be:b=e
 ·subst be
  obtain⟨vs,z⟩:=m.self o q
  exact⟨_,z⟩
 ·by_cases bt:tb=some b
  ·exact m.ent b o bt be q
  ·obtain⟨sl,z⟩:=m.slot b o q be bt
   exact⟨_,z⟩
theorem Heap.Moved.refl{fs:List Addr}{e:Addr}{tb:Option Addr}{h:Heap}(x:h.jP e tb):Heap.Moved fs e tb h h:=
 ⟨fun _ _ q _ _ _=>q,fun _ o q _ _=>⟨o.slots,q⟩,fun o q=>by
  obtain⟨oe,vs,he,hd,_⟩:=x.ex
  rw[q] at he
  cases he
  exact⟨vs,by rw[q,←hd]⟩,fun _ o _ _ q=>⟨o,q⟩,Nat.le_refl _,fun o vs q d=>⟨vs,by rw[q,←d],rfl⟩⟩
theorem Heap.Moved.trans{fs:List Addr}{e:Addr}{tb Xe:Option Addr}{h h1 h2:Heap}(x:Heap.Moved fs e tb h h1)(y:Heap.Moved fs e Xe h1 h2)(n:∀T,Xe=some T→tb=some T∨h.objs.size≤T):Heap.Moved fs e tb h h2 where
 keep:=fun b o q be bt bf=>y.keep b o (x.keep b o q be bt bf) be (fun z=>(n b z).elim bt fun w=>absurd (Heap.lt_size q) (Nat.not_lt.mpr w)) bf
 slot:=fun b o q be bt=>by
  obtain⟨sl,z⟩:=x.slot b o q be bt
  obtain⟨Hi,z'⟩:=y.slot b _ z be (fun z=>(n b z).elim bt fun w=>absurd (Heap.lt_size q) (Nat.not_lt.mpr w))
  exact⟨Hi,z'⟩
 self:=fun o q=>by
  obtain⟨vs,z⟩:=x.self o q
  obtain⟨sC,z'⟩:=y.self _ z
  exact⟨sC,z'⟩
 ent:=fun b o _ be q=>by
  obtain⟨o1,z⟩:=x.there b o q
  exact y.there b o1 z
 size:=Nat.le_trans x.size y.size
 ctx:=fun o vs q d=>by
  obtain⟨v1,z1,c1⟩:=x.ctx o vs q d
  obtain⟨v2,z2,c2⟩:=y.ctx _ v1 z1 rfl
  exact⟨v2,z2,c2.trans c1⟩
theorem Heap.Moved.mono{fs DO:List Addr}{e:Addr}{tb:Option Addr}{h h':Heap}(x:Heap.Moved fs e tb h h')(k:∀b∈fs,b∈DO):Heap.Moved DO e tb h h':=
 ⟨fun b o q be bt bf=>x.keep b o q be bt fun z=>bf (k b z),x.slot,x.self,x.ent,x.size,x.ctx⟩
theorem kh{o:Obj}{vs:Array Value}(hd:o.data= .fields vs)(f:Array Value→Array Value):o.mapFields f={ o with data:= .fields (f vs) }:=by
 obtain⟨a,b,c,d⟩:=o
 cases hd
 rfl
section
variable {M:Model}{A:Around}{E:Value→Shared→Prop}{s:Shared}
theorem tD{base:Heap}{env:Env}{outer:List Env}{L e:Addr}{oe:Obj}{vs:Array Value}{RP:Value}{nx:Bool}{Q:Unit→Shared→Prop}(fr:A.frames=some (env::outer))(fl:s.heap.FunFrames base (env::outer))(hL:env.frame=some L)
  (xe:s.heap.get? e=some oe) (xd:oe.data= .fields vs) (xs:1<vs.size)
  (k:∀h' T,h'.jP e (some T)→s.heap.objs.size≤T→Heap.Moved ((env::outer).filterMap (·.frame)) e none s.heap h'→Q () { s with heap:=h' }):
  wpAny M A (do let a←frameOf env;let pl←entryPlaceOf L nx;let b←EntryCells.newEntry RP a .none (rawInt L) .none pl;setField (.ref e) 1 b) Q E s:=by
 have Y4:e∉(env::outer).filterMap (·.frame):=fun z=>by
  obtain⟨_,o,q,nf⟩:=fl.mem z
  rw[xe] at q
  cases q
  exact nf vs xd
 refine wpAny_bind (wpAny_frameOf_fun fr fl hL fun g1 so=>?_)
 refine wpAny_bind (wpAny_entryPlaceOf fun pl ok=>?_)
 unfold EntryCells.newEntry newFields
 refine wpAny_bind (wpAny_newObj_type ?_ (ok.sizeOk5 _ _ _ _ _))
 have e1:g1.get? e=some oe:=(so.2.1 e Y4).trans xe
 generalize hO:({ cls:= .type "traceback",dict:=none,data:= .fields ([RP, .ref L, .none,rawInt L, .none]++(if pl.isEmpty then List.replicate 6 Value.none else pl)).toArray }:Obj)=ob
 have e2:=Heap.get?_push_of_some (h:=g1) ob e1
 refine wpAny_setField e2 xd xs ?_
 have Te:g1.objs.size≠e:=Nat.ne_of_gt (Heap.lt_size e1)
 have nf:ob.isFreed=false:=by rw[←hO];rfl
 have eT:(g1.push ob).get? g1.objs.size=some ob:=Heap.get?_push_size g1 nf
 have e3:=Heap.get?_update_self (Obj.mapFields (·.setIfInBounds 1 (Value.ref g1.objs.size))) e2 (Obj.isFreed_of_fields (Obj.data_mapFields xd _))
 refine k _ g1.objs.size ⟨⟨_,_,e3,Obj.data_mapFields xd _,by simp [xs]⟩,fun T z=>?_⟩ (Nat.le_of_eq so.1.symm) ⟨fun b o q be _ bf=>?_,fun b o q be _=>?_,fun o q=>?_,fun b o z=>(by cases z),?_,fun o us q d=>?_⟩
 ·cases z
  refine⟨Te,ob,([RP, .ref L, .none,rawInt L, .none]++(if pl.isEmpty then List.replicate 6 Value.none else pl)).toArray,?_,by rw[←hO],by simp only [List.size_toArray,List.length_append,List.length_cons,List.length_nil];omega⟩
  rw[Heap.get?_update_other _ _ (Ne.symm Te)]
  exact eT
 ·rw[Heap.get?_update_other _ _ (Ne.symm be)]
  exact Heap.get?_push_of_some _ ((so.2.1 b bf).trans q)
 ·obtain⟨sl,z⟩:=so.2.2 b o q
  refine⟨sl,?_⟩
  rw[Heap.get?_update_other _ _ (Ne.symm be)]
  exact Heap.get?_push_of_some _ z
 ·rw[xe] at q
  cases q
  exact⟨_,e3.trans (by rw[kh xd])⟩
 ·show s.heap.objs.size≤((g1.push ob).update e _).objs.size
  rw[Heap.size_after_update,Heap.size_push,←so.1]
  exact Nat.le_succ _
 ·rw[xe] at q
  cases q
  rw[xd] at d
  cases d
  exact⟨_,e3.trans (by rw[kh xd]),by simp⟩
theorem dY{e:Addr}{tb fr:Option Addr}{Q:Unit→Shared→Prop}(x:s.heap.jP e tb)(k:∀h',h'.jP e tb→Heap.Moved [] e tb s.heap h'→Q () { s with heap:=h' }):wpAny M A (setFlight (.ref e) fr) Q E s:=by
 obtain⟨oe,vs,he,hd,h1⟩:=x.ex
 unfold setFlight
 refine wpAny_bind (wpAny_field he hd h1 ?_)
 cases tb with
 |none=>
  rw[if_neg (by decide)]
  exact wpAny_pure (k _ x (.refl x))
 |some T=>
  obtain⟨ne,oT,ts,hT,dT,sz⟩:=x.tr T rfl
  rw[if_pos (show ((some T).elim Value.none Value.ref != Value.none)=true from by simp)]
  generalize (fr.elim Value.none fun f=>rawInt f)=v3
  refine wpAny_setField hT dT sz ?_
  have tE:(s.heap.update T (Obj.mapFields (·.setIfInBounds 3 v3))).get? e=some oe:=(Heap.get?_update_other _ _ ne).trans he
  have Qd:=Heap.get?_update_self (Obj.mapFields (·.setIfInBounds 3 v3)) hT (Obj.isFreed_of_fields (Obj.data_mapFields dT _))
  refine k _ ⟨⟨oe,vs,tE,hd,h1⟩,fun T' z=>?_⟩ ⟨fun b o q _ bt _=>?_,fun b o q _ bt=>⟨o.slots,?_⟩,fun o q=>?_,fun b o z _ _=>?_,?_,fun o us q d=>?_⟩
  ·cases z
   exact⟨ne,_,_,Qd,Obj.data_mapFields dT _,by simp [sz]⟩
  ·exact(Heap.get?_update_other _ _ fun z=>bt (by rw[z])).trans q
  ·exact(Heap.get?_update_other _ _ fun z=>bt (by rw[z])).trans q
  ·rw[he] at q
   cases q
   exact⟨vs,by rw[tE,←hd]⟩
  ·cases z
   exact⟨_,Qd⟩
  ·show s.heap.objs.size≤(s.heap.update T _).objs.size
   rw[Heap.size_after_update]
   exact Nat.le_refl _
  ·rw[he] at q
   cases q
   exact⟨us,by rw[tE,←d],rfl⟩
theorem ki{base:Heap}{env:Env}{outer:List Env}{L e:Addr}{tb:Option Addr}{Q:Unit→Shared→Prop}(fr:A.frames=some (env::outer))(fl:s.heap.FunFrames base (env::outer))(hL:env.frame=some L)(x:s.heap.jP e tb)
  (k:∀h' T,h'.jP e (some T)→tb=some T∨s.heap.objs.size≤T→Heap.Moved ((env::outer).filterMap (·.frame)) e tb s.heap h'→Q () { s with heap:=h' }):wpAny M A (noteFrame (.ref e) env) Q E s:=by
 obtain⟨oe,vs,he,hd,h1⟩:=id x.ex
 have Xf:1<vs.size:=(Array.getElem?_eq_some_iff.mp h1).1
 unfold noteFrame
 simp only [hL]
 refine wpAny_bind (wpAny_field he hd h1 ?_)
 cases tb with
 |none=>
  rw[if_neg (by decide)]
  exact tD fr fl hL he hd Xf fun h' T a b c=>k h' T a (.inr b) c
 |some T=>
  obtain⟨ne,oT,ts,hT,dT,sz⟩:=x.tr T rfl
  rw[if_pos (show ((some T).elim Value.none Value.ref != Value.none)=true from by simp)]
  have h3:ts[3]? =some ts[3]:=Array.getElem?_eq_getElem sz
  refine wpAny_bind (wpAny_field hT dT h3 ?_)
  by_cases c:(ts[3]==rawInt L)=true
  ·rw[if_pos c]
   exact wpAny_pure (k _ T x (.inl rfl) (.refl x))
  ·rw[if_neg c]
   refine wpAny_bind (wpAny_setField hT dT sz ?_)
   have ot:∀b,b≠T→(s.heap.update T (Obj.mapFields (·.setIfInBounds 3 Value.none))).get? b=s.heap.get? b:=fun b z=>Heap.get?_update_other _ _ (Ne.symm z)
   have Qd:=Heap.get?_update_self (Obj.mapFields (·.setIfInBounds 3 Value.none)) hT (Obj.isFreed_of_fields (Obj.data_mapFields dT _))
   have zs:(s.heap.update T (Obj.mapFields (·.setIfInBounds 3 Value.none))).objs.size=s.heap.objs.size:=Heap.size_after_update ..
   refine tD (s:={ s with heap:=s.heap.update T (Obj.mapFields (·.setIfInBounds 3 Value.none)) }) fr (fl.of_keeps fun b o q nf=>⟨o,(ot b fun z=>?_).trans q,rfl⟩) hL ((ot e (Ne.symm ne)).trans he) hd Xf fun h' T' a b c=>k h' T' a (.inr (by rw[←zs];exact b)) ?_
   ·rw[z,hT] at q
    cases q
    exact nf ts dT
   ·refine⟨fun b o q be bt bf=>c.keep b o ((ot b fun z=>bt (by rw[z])).trans q) be (fun z=>by cases z) bf,fun b o q be bt=>c.slot b o ((ot b fun z=>bt (by rw[z])).trans q) be fun z=>(by cases z),fun o q=>c.self o ((ot e (Ne.symm ne)).trans q),fun b o z be q=>?_,?_,fun o us q d=>c.ctx o us ((ot e (Ne.symm ne)).trans q) d⟩
    ·cases z
     exact c.there _ _ Qd
    ·rw[←zs]
     exact c.size
theorem Bp{base:Heap}{env:Env}{outer:List Env}{L e:Addr}{tb:Option Addr}{Q:Unit→Shared→Prop}(fr:A.frames=some (env::outer))(fl:s.heap.FunFrames base (env::outer))(hL:env.frame=some L)(x:s.heap.jP e tb)
  (k:∀h' T,h'.jP e (some T)→tb=some T∨s.heap.objs.size≤T→Heap.Moved ((env::outer).filterMap (·.frame)) e tb s.heap h'→Q () { s with heap:=h' }):wpAny M A (leaving env (.ref e)) Q E s:=by
 unfold leaving
 refine wpAny_bind (ki fr fl hL x fun h1 T a b c=>dY (s:={ s with heap:=h1 }) a fun h2 a' c'=>k h2 T a' b (c.trans (c'.mono fun _ z=>absurd z (by simp)) fun T' z=>?_))
 cases z
 exact b
theorem xC{env:Env}{e T:Addr}{Q:Unit→Shared→Prop}(x:s.heap.jP e (some T))(k:∀h',h'.jP e (some T)→Heap.Moved [] e (some T) s.heap h'→Q () { s with heap:=h' }):
  wpAny M A (do
   if (←field (.ref e) 1)== .none then unsupported "frame.own-activation:exception-without-traceback"
   setFlight (.ref e) env.frame) Q E s:=by
 obtain⟨oe,vs,he,hd,h1⟩:=id x.ex
 refine wpAny_bind (wpAny_field he hd h1 ?_)
 rw[if_neg (by simp)]
 exact dY x k
end
end PySem
namespace PySem.W
open PySem PySem.Calls PyProof.Rows PySem.Builtin PySem.Builtin.ObjectAttr
abbrev oY:List Value:=[.type "ValueError", .type "Exception", .type "BaseException", .type "object"]
structure b7(K:Frag)(C HE f:Addr):Prop where
 obj:∃(nm q:Str) (N:Addr) (bs:List Value) (sn:List Str) (sub:List Value) (ab:Bool) (col:Option Bool) (dd:Option Addr) (k0 k1 k2 k3 k5:Option Value),
  K.lookup C=some (excClassObj nm q C N bs (.ref HE::oY) true sn sub ab col dd k0 k1 k2 k3 k5 "ValueError.__new__")
 init:findIn K (.ref C) "__init__" =some (some (.ref f))
 fn:typeIn K (.ref f)=some (.type "function")
 sa:findIn K (.ref C) "__setattr__" =some (some (.builtin "object.__setattr__"))
 ga:findIn K (.ref C) "__getattribute__" =some (some (.builtin "BaseException.__getattribute__"))
 gh:findIn K (.ref C) "__getattr__" =some none
theorem fX{C HE:Addr}{T:String}{b:Bool}(h:oY.contains (.type T)=b):(Value.ref C:: .ref HE::oY).contains (.type T)=b:=by
 rw[List.contains_cons,List.contains_cons,h]
 rfl
section
variable {prog:Program}{w:World}{A:Around}{E:Value→Shared→Prop}{R:Result→Shared→Prop}{h:Heap}{g:Array GenState}{d:Drawn}{t:Nat}{os:OsState}
variable {nm q:Str}{C N HE:Addr}{bs:List Value}{sn:List Str}{sub:List Value}{ab:Bool}{col:Option Bool}{dd:Option Addr}{k0 k1 k2 k3 k5:Option Value}
abbrev jz(vs:List Value):Obj:={ cls:= .type "tuple",data:= .seq vs.toArray }
abbrev iQ(C t:Addr):Obj:={ cls:= .ref C,data:= .fields #[.ref t, .none, .none, .none, .bool false, .none] }
theorem qK{M:Model}{rest:List Value}{Q:Unit→Shared→Prop}(kC:h.get? C=some (excClassObj nm q C N bs (.ref HE::oY) true sn sub ab col dd k0 k1 k2 k3 k5 "ValueError.__new__"))
  (z:Q () ⟨h,g,d,t,os⟩):wpAny M A (checkBuiltinCall "ValueError.__new__" ⟨.ref C::rest,[]⟩) Q E ⟨h,g,d,t,os⟩:=by
 have F:=PySem.F.excBase_ValueError
 have c1:(Value.ref C:: .ref HE::oY).contains (.type "ValueError")=true:=fX (by decide+kernel)
 have f0:=F.noStar
 simp only [checkBuiltinCall,F.newKind,F.newSplit,F.newRow]
 repeat (first|refine wpAny_loadPart_at kC ?_| (refine wpAny_isSubtype_exc kC ?_;rw[c1]) |refine wpAny_staticBase_exc kC ?_|refine wpAny_madeBy_exc kC ?_|simp only [bne_self_eq_false,Bool.false_eq_true,if_false] |wp_step)
 exact z
theorem HZ{rest:List Value}(kC:h.get? C=some (excClassObj nm q C N bs (.ref HE::oY) true sn sub ab col dd k0 k1 k2 k3 k5 "ValueError.__new__"))
  (z:R (.ok (.ret (.ref (h.objs.size+1)))) ⟨(h.push (jz rest)).push (iQ C h.objs.size),g,d,t,os⟩) (hz:rest.length≤sizeLine):
  codeAny (model prog w) A (.builtin "ValueError.__new__" ⟨.ref C::rest,[]⟩) R ⟨h,g,d,t,os⟩:=by
 have F:=PySem.F.excBase_ValueError
 have f0:=F.ends
 have c1:(Value.ref C:: .ref HE::oY).contains (.type "ValueError")=true:=fX (by decide+kernel)
 have c2:(Value.ref C:: .ref HE::oY).contains (.type "AttributeError")=false:=fX (by decide+kernel)
 have c3:(Value.ref C:: .ref HE::oY).contains (.type "NameError")=false:=fX (by decide+kernel)
 refine codeAny_builtinAt F.entry ?_
 unfold Builtin.«BaseException.__new__»
 refine wpAt_bind ?_
 show wpAt _ _ _ (stack >>= _) _ _ _
 refine wpAt_bind (wpAt_stack fun p below=>wpAt_of_wpAny ?_)
 wp_walk
 refine wpAt_of_wpAny ?_
 rw[F.owner]
 repeat (first|with_reducible refine wpAny_madeHere_exc F.canon kC ?_|with_reducible refine wpAny_loadPart_at kC ?_| (with_reducible refine wpAny_isSubtype_exc kC ?_;first|rw[c1] |rw[c2] |rw[c3]) |wp_step)
 show R _ _
 rw[Heap.size_push]
 exact z
end
section
variable {prog:Program}{w:World}{A:Around}{E:Value→Shared→Prop}{R:Result→Shared→Prop}{s:Shared}{K:Frag}{C HE f:Addr}
theorem xD{vs:List Value}(X:K.In s.heap)(Z:b7 K C HE f)(hz:vs.length≤sizeLine)
  (k:codeAny (model prog w) (A.under (.builtin "type.__call__" ⟨.ref C::vs,[]⟩)) (.call (.ref f) ⟨.ref (s.heap.objs.size+1)::vs,[]⟩) (InitBack (s.heap.objs.size+1) R) { s with heap:=(s.heap.push (jz vs)).push (iQ C s.heap.objs.size) }):
  codeAny (model prog w) A (.call (.ref C) ⟨vs,[]⟩) R s:=by
 obtain⟨hp,g,d,t,os⟩:=s
 obtain⟨nm,q,N,bs,sn,sub,ab,col,dd,k0,k1,k2,k3,k5,hK⟩:=Z.obj
 have kC:=X _ _ hK
 have F:=PySem.F.excBase_ValueError
 have f1:=tc_lookup
 have f2:=tc_bind (.ref C)
 have hT:(⟨hp,g,d,t,os⟩:Shared).TypeIs (.ref C) "type" :=⟨_,kC,rfl⟩
 refine codeAny_of_tree ?_
 show wpAny _ _ (callAny (.ref C) _) _ _ _
 repeat (any_goals (first|assumption|with_reducible refine wpAny_loadPart_at kC ?_|wp_step))
 refine⟨rfl,?_⟩
 refine codeAny_call_builtin_at (Code.quiet_builtin _ (by decide+kernel)) entry_typeCall (wpAny_check_type_call_sub kC ?_)
 repeat (first|with_reducible refine wpAny_loadPart_at kC ?_|with_reducible refine wpAny_madeBy_exc kC ?_|wp_step)
 refine codeAny_call_builtin_code (Code.quiet_builtin _ F.quiet) (qK kC ?_)
 refine HZ kC ?_ hz
 show wpAny _ _ _ _ _ _
 have keeps:∀b o,hp.get? b=some o→((hp.push (jz vs)).push (iQ C hp.objs.size)).get? b=some o:=fun b o e=>Heap.get?_push_of_some _ (Heap.get?_push_of_some _ e)
 have Y5:=keeps _ _ kC
 have X1:K.In ((hp.push (jz vs)).push (iQ C hp.objs.size)):=fun b o e=>keeps b o (X b o e)
 have eg:((hp.push (jz vs)).push (iQ C hp.objs.size)).get? (hp.objs.size+1)=some (iQ C hp.objs.size):=by heap_get
 have c0:(Value.ref C:: .ref HE::oY).contains (.ref C)=true:=by simp
 unfold isInstance
 repeat (first|with_reducible refine wpAny_loadPart_at eg ?_|wp_step)
 show wpAny _ _ (isSubtype (.ref C) (.ref C)) _ _ _
 refine wpAny_isSubtype_exc Y5 ?_
 rw[c0]
 repeat (first|with_reducible refine wpAny_loadPart_at eg ?_|wp_step)
 show wpAny _ _ (typeLookup (.ref C) _) _ _ _
 refine looks_findIn X1 Z.init _ _ _ _ (fun _ _ e=>e) ?_
 refine wpAny_holding (wpAny_bind (bind_fn X1 _ Z.fn _ _ _ _ (fun _ _ e=>e) ?_))
 refine wpAny_bind (wpAny_call (codeAny_mono k fun r s' y=>?_))
 cases r with
 |error z=>exact y
 |ok fl=>
  cases fl with
  |ret u=>
   obtain⟨eu,y⟩:=y
   subst eu
   exact wpAny_pure (wpAny_pure y)
  |next=>exact y.elim
  |brk=>exact y.elim
  |cont=>exact y.elim
end
section
variable {prog:Program}{w:World}{A:Around}{E:Value→Shared→Prop}{R:Result→Shared→Prop}{s:Shared}{K:Frag}{C HE f e:Addr}{ox:Obj}{od:Option Obj}{vs:Array Value}{name:Str}{v:Value}{tk:Tok}
theorem b7.cd(Z:b7 K C HE f):∃cd,clsIn K C=some cd∧cd.mro= .ref C:: .ref HE::oY∧cd.hasDict=true:=by
 obtain⟨nm,q,N,bs,sn,sub,ab,col,dd,k0,k1,k2,k3,k5,hK⟩:=Z.obj
 exact⟨_,by unfold clsIn;rw[hK],rfl,rfl⟩
theorem b7.mro(Z:b7 K C HE f){T:String}{b:Bool}(h:oY.contains (.type T)=b):mroIn K C (.type T)=some b:=by
 obtain⟨cd,a,m,_⟩:=Z.cd
 unfold mroIn
 rw[a,Option.bind_some,m,fX h]
 rfl
theorem Bq(X:K.In s.heap)(Z:b7 K C HE f)(I:InstAt s.heap e ox C od)(ht:takerIn K C name=some none)
  (k:∀b,wpAny (model prog w) A.in1 (storeInOwnDict (.ref e) (.ref C) (.str name tk) name v b)
   (fun fin s'=>match fin with| .done f=>R (.ok f) s'| .again c'=>c'.quiet=true∧codeAny (model prog w) A c' R s') (fun e s'=>R (.error e) s') s):
  codeAny (model prog w) A (.call (.builtin "object.__setattr__") ⟨[.ref e, .str name tk,v],[]⟩) R s:=by
 have SO:=PySem.F.store_object
 obtain⟨cd,hc,hm,_⟩:=Z.cd
 have sub:Looks (model prog w) s.heap (isInstance (.ref e) (.type "object")) true:=I.type.andThen (looks_mroIn X (Z.mro (by decide+kernel)))
 refine codeAny_call_builtin SO.slot.plain SO.entry (@check_slot (model prog w) _ _ s "object.__setattr__" "object" "__setattr__" (.ref e) [.str name tk,v] [] _ SO.kind SO.split sub (SO.args (.ref e) (.str name tk) v) ?_)
 obtain⟨attr,ha,hr⟩:=Option.bind_eq_some_iff.mp ht
 have lm:Looks (model prog w) s.heap (mroOf (.ref C)) cd.mro:=(looks_clsIn X hc).andThen .now
 have l3:Looks (model prog w) s.heap (storeTaker? attr) none:=by
  cases attr with
  |none=>exact .now
  |some a=>
   obtain⟨b,hb,eb⟩:=Option.map_eq_some_iff.mp hr
   refine(looks_takesIn X hb).andThen ?_
   cases b with
   |true=>cases eb
   |false=>exact .now
 rw[osa_eq,refuse_eq]
 refine wpAny_bind (wpAny_bind (I.type.here (wpAny_bind (lm.here ?_))))
 rw[hm,refuseLoop_ref,refuseLoop_ref,PySem.F.store_ValueError.passes]
 exact wpAny_pure (wpAny_bind (I.type.here (wpAny_bind ((looks_findIn X ha).here (wpAny_bind (l3.here (k _)))))))
theorem Es{Q:Unit→Shared→Prop}(X:K.In s.heap)(Z:b7 K C HE f)(ht:takerIn K C name=some none)(hx:s.heap.get? e=some ox)(hc:ox.cls= .ref C)(hd:ox.data= .fields vs)(hn:ox.dict=none)
  (k:∀h' HQ,h'.get? e=some { ox with dict:=some s.heap.objs.size }→h'.Ns1 s.heap.objs.size (fun y=>if y=name then some v else none)→(∀b o,b≠e→s.heap.get? b=some o→h'.get? b=some o)→Q () { s with heap:=h',toks:=HQ }):
  wpAny (model prog w) A (setAttr (.ref e) name v) Q E s:=by
 have I:InstAt s.heap e ox C none:=⟨hx,hc,by unfold notCls;rw[hd],by rw[hn];trivial⟩
 obtain⟨cd,me,_,hh⟩:=Z.cd
 refine set_plain X I Z.sa (Bq (s:={ s with toks:=s.toks+1 }) X Z I ht fun b=>?_)
 obtain⟨oc,Km,Qe,mw⟩:=ox
 dsimp only at hc hd hn
 subst hc hd hn
 refine wpAny_bind (wpAny_pure (wpAny_bind (wpAny_bind (wpAny_loadPart hx (wpAny_bind (Looks.here (s:={ s with toks:=s.toks+1 }) (looks_clsIn X me) ?_))))))
 rw[hh]
 have xs:e≠s.heap.objs.size:=Nat.ne_of_lt (Heap.lt_size hx)
 rw[if_neg (by decide)]
 have Xg:=Heap.get?_push_of_some (h:=s.heap) { cls:= .type "dict",data:= .dict #[] } hx
 refine wpAny_bind (wpAny_alloc' (wpAny_bind (wpAny_update' Xg (wpAny_pure ?_))))
 generalize hG:(s.heap.push { cls:= .type "dict",data:= .dict #[] }).update e (fun o=>{ cls:=o.cls,dict:=some s.heap.objs.size,data:=o.data,slots:=o.slots })=G
 have gd:G.get? s.heap.objs.size=some { cls:= .type "dict",data:= .dict #[] }:=by
  rw[←hG]
  exact(Heap.get?_update_ne _ _ _ _ (Ne.symm xs)).trans (Heap.get?_push_at rfl rfl)
 have gx:G.get? e=some { cls:= .ref C,dict:=some s.heap.objs.size,data:= .fields vs,slots:=mw }:=by
  rw[←hG]
  exact Heap.get?_update_self _ Xg rfl
 have go:∀b o,b≠e→s.heap.get? b=some o→G.get? b=some o:=fun b o be q=>by
  rw[←hG]
  exact(Heap.get?_update_ne _ _ _ _ be).trans (Heap.get?_push_of_some _ q)
 have gn:G.Ns s.heap.objs.size (fun _=>none):=⟨_,#[],_,gd,rfl,fun y hy=>absurd hy (by simp),fun _=>rfl⟩
 show wpAny _ _ (storeInDict s.heap.objs.size (.str name s.toks) name v) _ _ { s with heap:=G,toks:=s.toks+1 }
 unfold storeInDict newKeyGuard
 refine wpAny_bind (wpAny_pure (wpAny_bind (wpAny_nsSet1 (s:={ s with heap:=G,toks:=s.toks+1 }) (Heap.Ns1.of_empty gn) fun h' n2 s2=>?_)))
 obtain⟨o2,e2,p2,q2,d2,c2⟩:=n2.count (PySem.Within.cons name v PySem.Within.nil)
 refine wpAny_bind (wpAny_lookBehind q2 (by rw[d2];exact pastItsLine_dict (Nat.le_trans c2 (by rw[List.length_cons,List.length_nil,sizeLine_eq];omega))) ?_)
 exact wpAny_pure (k _ _ ((s2.2 e xs).trans gx) n2 fun b o be q=>(s2.2 b (Nat.ne_of_lt (Heap.lt_size q))).trans (go b o be q))
theorem Et{Q:Unit→Shared→Prop}{dx:Addr}{mA:Str→Option Value}{ns:List Str}(X:K.In s.heap)(Z:b7 K C HE f)(ht:takerIn K C name=some none)(hx:s.heap.get? e=some ox)(hc:ox.cls= .ref C)(hd:ox.data= .fields vs)(hn:ox.dict=some dx)
  (N1:s.heap.Ns1 dx mA) (hw:PySem.Within mA ns) (hsz:ns.length≤1000)
  (k:∀h',h'.Ns1 dx (fun y=>if y=name then some v else mA y)→Heap.SameBut dx s.heap h'→Q () { s with heap:=h',toks:=s.toks+2 }):
  wpAny (model prog w) A (setAttr (.ref e) name v) Q E s:=by
 obtain⟨oD,ed,pd,Y6,dD,_⟩:=id N1
 have I:InstAt s.heap e ox C (some oD):=⟨hx,hc,by unfold notCls;rw[hd],by rw[hn];exact Y6⟩
 obtain⟨cd,me,_,hh⟩:=Z.cd
 refine set_plain X I Z.sa (Bq (s:={ s with toks:=s.toks+1 }) X Z I ht fun b=>?_)
 obtain⟨oc,Km,Qe,mw⟩:=ox
 dsimp only at hc hd hn
 subst hc hd hn
 refine wpAny_bind (wpAny_pure (wpAny_bind (wpAny_bind (wpAny_loadPart hx (wpAny_bind (Looks.here (s:={ s with toks:=s.toks+1 }) (looks_clsIn X me) ?_))))))
 rw[hh]
 refine wpAny_pure (a:=some dx) (wpAny_bind (wpAny_pure (wpAny_bind ?_)))
 refine wpAny_nsSet1 (s:={ s with toks:=s.toks+1 }) N1 fun h' n2 s2=>?_
 obtain⟨o2,e2,p2,q2,d2,c2⟩:=n2.count (PySem.Within.cons name v hw)
 refine wpAny_bind (wpAny_lookBehind q2 (by rw[d2];exact pastItsLine_dict (Nat.le_trans c2 (by rw[List.length_cons,sizeLine_eq];omega))) ?_)
 exact wpAny_pure (k _ n2 s2)
theorem Ia{Q:Value→Shared→Prop}{expr:Bool}(X:K.In s.heap)(Z:b7 K C HE f)(I:InstAt s.heap e ox C od)(hf:findObj K C od name=some (.value v))(hh:handedIn v=true)(k:Q v { s with toks:=s.toks+1 }):
  wpAny (model prog w) A (getAttr (.ref e) name expr) Q E s:=by
 have T0:=I.type (M:=model prog w)
 have SG:=PySem.F.attr_ValueError.ga
 refine wpAny_bind (wpAny_mkText (wpAny_holding (wpAny_bind (T0 _ _ _ _ (fun _ _ y=>y) (wpAny_bind (looks_findIn X Z.ga _ _ _ _ (fun _ _ y=>y) ?_))))))
 dsimp only
 rw[show (onTheHeap (Value.ref C)&&Value.builtin "BaseException.__getattribute__" ==Value.builtin "object.__getattribute__")=false from by rw[show (Value.builtin "BaseException.__getattribute__" ==Value.builtin "object.__getattribute__")=false from by decide+kernel,Bool.and_false],if_neg (by decide)]
 refine wpAny_bind (looks_hook X (show (if onTheHeap (Value.ref C) then findIn K (.ref C) "__getattr__" else some none)=some none from Z.gh) _ _ _ _ (fun _ _ y=>y) (wpAny_bind (wpAny_attempt (wpAny_holding ?_))))
 unfold callGetattribute
 rw[show (expr&&onTheHeap (Value.builtin "BaseException.__getattribute__"))=false from Bool.and_false _,if_neg (by decide)]
 unfold boundAndCalled
 rw[SG.bind]
 refine wpAny_bind (wpAny_pure ?_)
 show wpAny _ _ (call (.builtin "BaseException.__getattribute__") [.ref e, .str name s.toks]) _ _ _
 refine wpAny_call (codeAny_call_builtin SG.plain PySem.F.entry_bexc_ga ?_)
 refine @check_slot (model prog w) _ _ { s with toks:=s.toks+1 } "BaseException.__getattribute__" "BaseException" "__getattribute__" (.ref e) [.str name s.toks] [] _ (by decide+kernel) (by decide+kernel) (T0.andThen (looks_mroIn X (Z.mro (by decide+kernel)))) (PySem.F.args_bexc_ga _ _) ?_
 have l1:=looks_find (M:=model prog w) X I hf
 unfold Builtin.«object.__getattribute__»
 refine wpAny_bind (wpAny_of_eq (a:=(Value.ref e,[Value.str name s.toks])) rfl ?_)
 refine wpAny_bind (wpAny_pure (a:=name) (wpAny_bind (T0 _ _ _ _ (fun _ _ y=>y) (wpAny_bind (l1 _ _ _ _ (fun _ _ y=>y) (wpAny_pure ?_))))))
 show wpAny _ _ (handedOut v) _ _ _
 rw[handedOut_of hh]
 exact wpAny_pure k
end
section
variable {M:Model}{A:Around}{E:Value→Shared→Prop}{s:Shared}{K:Frag}{env:Env}
theorem Br{x:Sem Value}{Q:Flow→Shared→Prop}(ha:A.handled=none)
  (k:wpAny M A x (fun v s1=>∃e oe vs C HE f,v= .ref e∧K.In s1.heap∧b7 K C HE f∧s1.heap.get? e=some oe∧oe.cls= .ref C∧oe.data= .fields vs∧vs[1]? =some .none∧E (.ref e) s1) E s):wpAny M A (raiseStmt env (some x) none) Q E s:=by
 unfold raiseStmt
 refine wpAny_bind (wpAny_mono k (fun v s1 y=>?_) fun _ _ y=>y)
 obtain⟨e,oe,vs,C,HE,f,rfl,X,Z,he,hc,hd,h1,hE⟩:=y
 have cB:(Value.ref C:: .ref HE::oY).contains (.type "BaseException")=true:=fX (by decide+kernel)
 obtain⟨nm,q,N,bs,sn,sub,ab,col,dd,k0,k1,k2,k3,k5,hK⟩:=Z.obj
 have kC:=X _ _ hK
 obtain⟨hp,g,d,tk,os⟩:=s1
 obtain⟨oc,Km,Qe,mw⟩:=oe
 dsimp only at hc hd
 subst hc hd
 repeat (first|with_reducible refine wpAny_loadPart_at he ?_|with_reducible refine wpAny_loadPart_at kC ?_| (with_reducible refine wpAny_isSubtype_exc kC ?_;rw[cB]) |wp_step)
 rw[h1]
 refine wpAny_pure ?_
 rw[if_neg (by decide)]
 exact wpAny_pure (wpAny_raiseNew_none ha hE)
end
section
variable {prog:Program}{w:World}{A:Around}{E:Value→Shared→Prop}{s:Shared}{K:Frag}{C HE f e:Addr}{ox:Obj}{vs:Array Value}
theorem Bs{us:List Value}{Q:Value→Shared→Prop}(X:K.In s.heap)(Z:b7 K C HE f)(hx:s.heap.get? e=some ox)(hc:ox.cls= .ref C)(hd:ox.data= .fields vs)(h0:0<vs.size)(hz:us.length≤sizeLine)
  (k:∀h',h'.get? e=some { ox with data:= .fields (vs.setIfInBounds 0 (.ref s.heap.objs.size)) }→(∀b o,b≠e→s.heap.get? b=some o→h'.get? b=some o)→Q .none { s with heap:=h' }):
  wpAny (model prog w) A (call (.builtin "ValueError.__init__") (.ref e::us)) Q E s:=by
 have F:=PySem.F.excBase_ValueError
 obtain⟨nm,q,N,bs,sn,sub,ab,col,dd,k0,k1,k2,k3,k5,hK⟩:=Z.obj
 have kC:=X _ _ hK
 have c1:(Value.ref C:: .ref HE::oY).contains (.type "ValueError")=true:=fX (by decide+kernel)
 obtain⟨hp,g,d,t,os⟩:=s
 obtain⟨oc,Km,Qe,mw⟩:=ox
 dsimp only at hc hd
 subst hc hd
 refine wpAny_call (codeAny_call_builtin F.init.plain F.initEntry ?_)
 have f0:=F.noStar
 simp only [checkBuiltinCall,F.initKind,F.initSplit,F.initRow]
 repeat (first|with_reducible refine wpAny_loadPart_at hx ?_|with_reducible refine wpAny_loadPart_at kC ?_| (with_reducible refine wpAny_isSubtype_exc kC ?_;rw[c1]) |wp_step)
 refine wpAny_onRaise ?_
 rw[show∀(a b:String) (n:Nat),Bind.check ⟨.positional,"*","ValueError", .self,[⟨"args", .varPos,false⟩]⟩ a b n (List.map (fun x=>x.fst) ({ pos:=Value.ref e::us }:Args).kw)=pure () from fun a b n=>check_star_args _ _ _ _ _ _]
 refine wpAny_pure ?_
 wp_walk
 rw[show vs[0]? =some vs[0] from Array.getElem?_eq_getElem h0]
 refine wpAny_pure (wpAny_bind (wpAny_setField (Heap.get?_push_of_some _ hx) rfl h0 ?_))
 generalize hG:((hp.push (jz us)).update e (Obj.mapFields (·.setIfInBounds 0 (Value.ref hp.objs.size))))=G
 have gx:G.get? e=some { cls:= .ref C,dict:=Km,data:= .fields (vs.setIfInBounds 0 (.ref hp.objs.size)),slots:=mw }:=by
  rw[←hG]
  exact Heap.get?_update_self (Obj.mapFields (·.setIfInBounds 0 (Value.ref hp.objs.size))) (Heap.get?_push_of_some (jz us) hx) rfl
 have go:∀b o,b≠e→hp.get? b=some o→G.get? b=some o:=fun b o be q=>by
  rw[←hG]
  exact(Heap.get?_update_other _ _ (Ne.symm be)).trans (Heap.get?_push_of_some _ q)
 have fin:=k G gx go
 generalize vs[0]=v0
 cases v0 with
 |ref a=>
  dsimp only
  repeat wp_step
  exact fin
 |_=>exact wpAny_pure (wpAny_pure fin)
end
end PySem.W
namespace L2
open PySem PySem.Spec PyProof.Rows
class gK where
 tF:Addr→Prop
variable [gK]
def xE(dx:Addr)(fs:List (Str×V)):HO:= .ext fun h=>∃mA,h.Ns1 dx mA∧(∀f,fP (fs.lookup f) (mA f))∧PySem.Within mA (fs.map (·.1))
def oZ(e C:Addr)(dx:Option Addr):HO:= .ext fun h=>∃o vs,h.get? e=some o∧o.cls= .ref C∧o.dict=dx∧o.data= .fields vs∧vs[1]? =some .none∧vs[2]? =some .none∧vs.size=6
def nP(e C:Addr)(dx:Option Addr):HO:= .ext fun h=>∃o vs,h.get? e=some o∧o.cls= .ref C∧o.dict=dx∧o.data= .fields vs∧(vs[2]? =some .none∨gK.tF C)
section
variable {P:Program}{w:World}{H:Hp}{h:Heap}{e C dx:Addr}{od:Option Addr}{o:Obj}{vs:Array Value}
theorem xF(he:h.get? e=some o)(hc:o.cls= .ref C)(hd:o.dict=od)(hf:o.data= .fields vs)(h2:vs[2]? =some .none∨gK.tF C):bQ P w H h e (nP e C od):=
 ⟨⟨o,vs,he,hc,hd,hf,h2⟩,⟨o,he⟩,fun _ _ ⟨o,vs,a,b⟩ k=>⟨o,vs,k _ a,b⟩⟩
theorem xG(he:h.get? e=some o)(hc:o.cls= .ref C)(hd:o.dict=od)(hf:o.data= .fields vs)(h1:vs[1]? =some .none)(h2:vs[2]? =some .none∧vs.size=6):bQ P w H h e (oZ e C od):=
 ⟨⟨o,vs,he,hc,hd,hf,h1,h2⟩,⟨o,he⟩,fun _ _ ⟨o,vs,a,b⟩ k=>⟨o,vs,k _ a,b⟩⟩
theorem Gn{fs:List (Str×V)}{mA:Str→Option Value}(n:h.Ns1 dx mA)(r:∀f,fP (fs.lookup f) (mA f))(wi:PySem.Within mA (fs.map (·.1))):bQ P w H h dx (xE dx fs):=by
 obtain⟨o,es,ep,ho,z⟩:=id n
 exact⟨⟨mA,n,r,wi⟩,⟨o,ho⟩,fun _ _ ⟨m,⟨o,es,ep,ho,z⟩,r⟩ k=>⟨m,⟨o,es,ep,k _ ho,z⟩,r⟩⟩
theorem nQ(ok:ix P w H h)(q:H e=some (nP e C od)):∃o vs,h.get? e=some o∧o.cls= .ref C∧o.dict=od∧o.data= .fields vs:=let ⟨o,vs,a,b,c,d,_⟩:=(ok e _ q).1;⟨o,vs,a,b,c,d⟩
theorem vP(ok:ix P w H h)(q:H e=some (nP e C od)):∃o vs,h.get? e=some o∧o.cls= .ref C∧o.dict=od∧o.data= .fields vs∧(vs[2]? =some .none∨gK.tF C):=(ok e _ q).1
theorem nR(ok:ix P w H h)(q:H e=some (oZ e C od)):∃o vs,h.get? e=some o∧o.cls= .ref C∧o.dict=od∧o.data= .fields vs∧vs[1]? =some .none∧vs[2]? =some .none∧vs.size=6:=(ok e _ q).1
theorem vQ{fs:List (Str×V)}(ok:ix P w H h)(q:H dx=some (xE dx fs)):∃mA,h.Ns1 dx mA∧(∀f,fP (fs.lookup f) (mA f))∧PySem.Within mA (fs.map (·.1)):=(ok dx _ q).1
end
structure gL(X:Cx)(T:Addr):Prop where
 above:X.s₀.heap.objs.size≤T
 loc:T≠X.env.locals
 cell:∀x c,X.env.cells.lookup x=some c→c≠T
 pn:∀p∈X.pn,p.1≠T
section
variable {X:Cx}{pins:List (Addr×Obj)}{σ:St}{H:Hp}{s:Shared}{e C:Addr}{od tb:Option Addr}{h':Heap}{ER:St→XK}{v:Value}
theorem Inv.Gp(I:Inv X pins σ H s){T:Addr}(h:s.heap.objs.size≤T):gL X T:=by
 refine⟨Nat.le_trans I.sz h,fun z=>?_,fun x c q z=>?_,fun p hp z=>?_⟩
 ·subst z
  exact absurd I.lt (Nat.not_lt.mpr h)
 ·obtain⟨_,o,ho,_⟩:=I.cell x c q
  subst z
  exact absurd (Heap.lt_size ho) (Nat.not_lt.mpr h)
 ·have q:=(I.pin p (List.mem_append_left _ hp)).1
  rw[z] at q
  exact absurd (Heap.lt_size q) (Nat.not_lt.mpr h)
def fY(X:Cx)(ER:St→XK)(v:Value)(s:Shared):Prop:=
 ∃e C dx σ H tb,v= .ref e∧Inv X [] σ H s∧H e=some (nP e C dx)∧s.heap.jP e tb∧(∀T,tb=some T→H T=none∧gL X T)∧ER σ (.ref C) dx H
def Lets(X:Cx)(ER:St→XK):Prop:=∀v s,fY X ER v s→X.xe v s
theorem gL.cO{E:Value→Shared→Prop}{T:Addr}(n:gL (X.gw E) T):gL X T:=⟨n.above,n.loc,n.cell,n.pn⟩
theorem fY.cO{E:Value→Shared→Prop}(z:fY (X.gw E) ER v s):fY X ER v s:=by
 obtain⟨e,C,dx,σ,H,tb,ev,I,he,fl,ht,hE⟩:=z
 exact⟨e,C,dx,σ,H,tb,ev,I.cO,he,fl,fun T q=>⟨(ht T q).1,(ht T q).2.cO⟩,hE⟩
theorem nS:Lets (X.gw (fY X ER)) ER:=fun _ _ z=>z.cO
theorem Inv.tG(I:Inv X pins σ H s):Inv X [] σ H s:=I.mn fun p hp=>absurd hp (by simp)
theorem Inv.moved(I:Inv X [] σ H s)(he:H e=some (nP e C od))(ht:∀T,tb=some T→H T=none∧gL X T)(m:Heap.Moved (oU X.stack) e tb s.heap h'):Inv X [] σ H { s with heap:=h' }:=by
 have ne:∀b,H b=none→b≠e:=fun b n z=>by
  subst z
  rw[he] at n
  cases n
 refine I.AM (s':={ s with heap:=h' }) (H':=H) (ch:=tb.toList) rfl ⟨fun b o q n hb hx=>m.keep b o q (ne b n) (fun z=>hx (by rw[z];simp)) hb,fun b o q n hb hx=>m.slot b o q (ne b n) fun z=>hx (by rw[z];simp),fun _ _ _ n _=>n,fun b o q _=>m.there b o q,
  fun _ _ q=>q,fun _ _ _ q=>q,fun _ ps q=>⟨#[],by simpa using q⟩⟩ (fun a o q=>?_) I.bare fun b hb=>?_
 ·by_cases ae:a=e
  ·subst ae
   rw[he] at q
   cases q
   obtain⟨o,vs,h1,h2,h3,h4,h5⟩:=vP I.bq he
   obtain⟨sC,z,c⟩:=m.ctx o vs h1 h4
   exact xF z h2 h3 rfl (by rw[c];exact h5)
  ·refine(I.bq a o q).qo (fun b u hb z=>?_) (fun _ q=>q) fun _ _ q=>q
   have vh:∃o',H b=some o':=by
    rcases hb with hb|hb
    ·exact⟨o,by rw[hb];exact q⟩
    ·exact⟨_,hb⟩
   obtain⟨o',vh⟩:=vh
   refine m.keep b u z (fun z=>?_) (fun z=>?_) fun z=>?_
   ·rcases hb with hb|hb
    ·exact ae (hb.symm.trans z)
    ·rw[z,he] at hb
     cases hb
   ·rw[(ht b z).1] at vh
    cases vh
   ·rw[I.qv b z] at vh
    cases vh
 ·have z:tb=some b:=by
   cases tb with
   |none=>simp at hb
   |some T=>simp at hb;rw[hb]
  obtain⟨_,n⟩:=ht b z
  exact⟨.inr n.above,Ne.symm (Ne.symm n.loc),n.cell,by simpa using n.pn⟩
def zE(X:Cx):Prop:=X.stack=X.env::X.outer∧X.env.frame=some X.env.locals
theorem gM(hs:zE X)(I:Inv X pins σ H s):X.A.frames=some (X.env::X.outer)∧s.heap.FunFrames X.base (X.env::X.outer):=by
 refine⟨by rw[I.ok.frames,hs.1],?_⟩
 rw[←hs.1]
 exact I.stack
theorem nU(I:Inv X [] σ H s){tb:Option Addr}{T:Addr}(ht:∀T,tb=some T→H T=none∧gL X T)(b:tb=some T∨s.heap.objs.size≤T):∀T',some T=some T'→H T'=none∧gL X T':=fun T' z=>by
 cases z
 rcases b with b|b
 ·exact ht T b
 ·exact⟨I.bq.fresh b,I.Gp b⟩
theorem zF(hs:zE X):PassesOwn (model X.prog X.w) X.A X.env (fY X ER):=by
 intro v s' z
 obtain⟨e,C,dx,σ,H,tb,ev,I,he,fl,ht,hE⟩:=z
 subst ev
 obtain⟨fr,ff⟩:=gM hs I
 refine ki fr ff hs.2 fl fun h1 T a b m=>?_
 have m1:Heap.Moved (oU X.stack) e tb s'.heap h1:=by unfold oU;rw[hs.1];exact m
 have I1:=I.moved he ht m1
 have t1:=nU I ht b
 refine xC (s:={ s' with heap:=h1 }) a fun h2 a2 m2=>?_
 exact⟨e,C,dx,σ,H,some T,rfl,I1.moved he t1 (m2.mono fun _ z=>absurd z (by simp)),he,a2,t1,hE⟩
end
def vR(P:Program)(w:World):AA:=fun outer H s E v s'=>
 ∃e C dx H' tb,v= .ref e∧s'.os=s.os∧AllBare s'.gens∧Un (oU outer) [] H H' s.heap s'.heap∧ix P w H' s'.heap∧H' e=some (nP e C dx)∧s'.heap.jP e tb∧(∀T,tb=some T→H' T=none∧s.heap.objs.size≤T)∧E (.ref C) dx H'
section
variable {P:Program}{w:World}{K:PySem.W.Frag}{mg:Str→Option Value}{base:Heap}{N ps:List Str}{qual:Str}{scope:Scope}{f:Addr}{cd:Value}{A:Around}{outer:List Env}{s s':Shared}{H:Hp}{E:XK}{v:Value}
theorem tH(z:fY (fR (vR P w) P w K mg base N qual scope f cd A outer s H E) (fun _=>E) v s'):(fR (vR P w) P w K mg base N qual scope f cd A outer s H E).xe v s':=by
 obtain⟨e,C,dx,σ,H',tb,ev,I,he,fl,ht,hE⟩:=z
 subst ev
 obtain⟨fr,ff⟩:=gM (X:=fR (vR P w) P w K mg base N qual scope f cd A outer s H E) ⟨rfl,rfl⟩ I
 refine Bp fr ff rfl fl fun h1 T a b m=>?_
 have I1:=I.moved he ht m
 have t1:=nU I ht b
 have hB:=I.base
 have ne:∀b,H' b=none→b≠e:=fun b n z=>by
  subst z
  rw[he] at n
  cases n
 have nt:∀b o,s.heap.get? b=some o→tb≠some b:=fun b o q z=>absurd (Heap.lt_size q) (Nat.not_lt.mpr (ht b z).2.above)
 refine⟨e,C,dx,H',some T,rfl,I.os,I.bare,⟨fun b o q n hb hx=>?_,fun b o q n hb hx=>?_,hB.free,fun b o q hx=>?_,hB.kZ,hB.k7,hB.k8⟩,I1.bq,he,a,fun T' z=>⟨(t1 T' z).1,(t1 T' z).2.above⟩,hE⟩
 ·refine m.keep b o (hB.keep b o q n hb hx) (ne b (hB.free b o q n hx)) (nt b o q) fun z=>?_
  rcases List.mem_cons.mp (show b∈s.heap.objs.size::oU outer from z) with z|z
  ·exact absurd (Heap.lt_size q) (by rw[z];exact Nat.lt_irrefl _)
  ·exact hb z
 ·obtain⟨sl,z⟩:=hB.slot b o q n hb hx
  obtain⟨Hi,z'⟩:=m.slot b _ z (ne b (hB.free b o q n hx)) (nt b o q)
  exact⟨Hi,z'⟩
 ·obtain⟨o',z⟩:=hB.there b o q hx
  exact m.there b o' z
def Gq(P:Program)(w:World)(K:PySem.W.Frag)(mg:Str→Option Value)(base:Heap)(N:List Str)(qual:Str)(scope:Scope)(f:Addr)(cd:Value)(A:Around)(outer:List Env)(s:Shared)(H:Hp)(E:XK):Cx:=
 (fR (vR P w) P w K mg base N qual scope f cd A outer s H E).gw (fY (fR (vR P w) P w K mg base N qual scope f cd A outer s H E) fun _=>E)
theorem aV:Lets (Gq P w K mg base N qual scope f cd A outer s H E) (fun _=>E):=fun _ _ z=>z.cO
theorem jQ:PassesOwn (model P w) (Gq P w K mg base N qual scope f cd A outer s H E).A (Gq P w K mg base N qual scope f cd A outer s H E).env (Gq P w K mg base N qual scope f cd A outer s H E).xe:=zF (X:=fR (vR P w) P w K mg base N qual scope f cd A outer s H E) ⟨rfl,rfl⟩
theorem Eu{st:List Stmt}{t:TS}(h:jJ (Gq P w K mg base N qual scope f cd A outer s H E) st t):jJ (fR (vR P w) P w K mg base N qual scope f cd A outer s H E) st t:=fun pins s1 σ H1 D I hw=>
 wpAny_mono (h pins s1 σ H1 D (I.gw _) hw) (fun _ _ q=>q.cO) fun _ _ z=>tH z
theorem xw.Gs{x:Str}{st:Stmt}{fd:FuncData}{k:Nat}{sp:Sp}(F:xw K x qual st f fd)(S:ay N ps (ak st))(len:∀vs H Q E,sp vs H Q E→vs.length=ps.length)
  (cP:∀(bo:Value) (A:Around) (outer:List Env) (s:Shared) (H:Hp) (vs:List V) (Q:VK) (E:XK),b8 k (A.deeper (envOfC qual (ak st) s.heap.objs.size f bo))→sp vs H Q E→
   ∃t,jJ (Gq P w K mg base N qual (ak st) f bo A outer s H E) (bg st) t∧t { nx:=fun _ H'=>Q .cn H',rt:=Q } (start N vs) H):eD P w K mg base (vR P w) (k+1) f fd ps sp:=by
 obtain⟨oc,od,kV,doc,pm,an,bo,ct,mw,rfl,lk,me⟩:=F.ex
 refine fn_of lk me S len fun A outer s H vs Q E hr vH=>?_
 obtain⟨t,h,q⟩:=cP bo A outer s H vs Q E hr vH
 exact⟨t,Eu h,q⟩
end
section
variable {X:Cx}{pins:List (Addr×Obj)}{σ:St}{H:Hp}{s s':Shared}{ER:St→XK}{v:Value}
theorem zG(L:Lets X ER)(I:Inv X pins σ H s)(h:vR X.prog X.w X.stack H s (ER σ) v s'):X.xe v s':=by
 obtain⟨e,C,dx,H',tb,ev,os,bare,un,bq,he,fl,ht,hE⟩:=h
 have I1:Inv X pins σ H' s':=I.AM os un bq bare fun b z=>absurd z (by simp)
 exact L v s' ⟨e,C,dx,σ,H',tb,ev,I1.tG,he,fl,fun T z=>⟨(ht T z).1,I.Gp (ht T z).2⟩,hE⟩
end
section
variable {X:Cx}{k:Nat}{f C:Addr}{fd:FuncData}{ps:List Str}{sp:Sp}{jb:List V}{ds:List Value}{ER:St→XK}{x m:Str}{p pos apos:Pos}{e o:Expr}{es:List Expr}{ta:TE}{t:TA}
def Ic(sp:Sp)(jb:List V)(ER:St→XK)(t:TA):TE:=fun σ H Q=>t σ H fun vs H1=>sp (vs++jb) H1 Q (ER σ)
def Bt(C:Addr)(m:Str)(sp:Sp)(jb:List V)(ER:St→XK)(ta:TE)(t:TA):TE:=fun σ H Q=>ta σ H fun x H1=>∃a dx fs,x= .ref a∧H1 a=some (.ins C dx fs)∧fs.lookup m=none∧
 t σ H1 fun vs H2=>sp (x::(vs++jb)) H2 Q (ER σ)
theorem qN{pins:List (Addr×Obj)}{σ:St}{H:Hp}{s:Shared}{Q:VK}{us:List Value}{vs:List V}(F:eD X.prog X.w X.K X.mg X.base (vR X.prog X.w) k f fd ps sp)(hr:b8 k X.A)(hb:Binds X.K fd ps ds)(hd:Vals jb ds)(L:Lets X ER)
  (I:Inv X pins σ H s) (r:Vals vs us) (h:sp (vs++jb) H Q (ER σ)):wpAny (model X.prog X.w) X.A (call (.ref f) us) (EP X pins σ Q) X.xe s:=by
 have r2:Vals (vs++jb) (us++ds):=r.append hd
 have hl:(us++ds).length=ps.length:=by rw[←r2.length];exact F.len _ _ _ _ h
 refine wpAny_call (codeAny_mono (F.run X.A X.stack s H ⟨us,[]⟩ (us++ds) (vs++jb) Q (ER σ) hr I.A3 (hb s us I.fQ hl) r2 h) fun r s' hq=>?_)
 cases r with
 |error e=>exact zG L I hq
 |ok fl=>
  cases fl with
  |ret u=>exact I.after hq
  |next=>exact False.elim hq
  |brk=>exact False.elim hq
  |cont=>exact False.elim hq
theorem tI(F:eD X.prog X.w X.K X.mg X.base (vR X.prog X.w) k f fd ps sp)(hr:b8 k X.A)(hg:Gl X x)(hm:X.mg x=some (.ref f))(hk:PySem.W.keepIn X.K (.ref f)=true)(hb:Binds X.K fd ps ds)(hd:Vals jb ds)(L:Lets X ER)
  (ha:PA X (e::es) t) (zh:(x==("__debug__" :Str))=false:=by decide) (he:starEach (e::es) X.env=(false,eval e X.env)::starEach es X.env:=by rfl) (mf:(backTo pos (starEach es X.env)).any (·.1)=false:=by rfl):
  PE X (.Call (.Name x p) (e::es) [] pos) (Ic sp jb ER t):=by
 intro pins s σ H Q I h
 refine wpAny_Call_Name_kw (eV I hg hm ?_ zh)
 refine PySem.W.callWith_K (h₀:=X.base) I.ok.mod.DR hk (bU (ha pos pins s σ H _ I h) fun us s1 ⟨vs,H1,I1,r,q⟩=>⟨I1.fQ,?_⟩) he mf
 exact qN F hr hb hd L I1 r q
theorem bE{pl:Sem Bool}(he:PE X o ta)(c:qy X.K C)(hm:Meth X.K C m f)(F:eD X.prog X.w X.K X.mg X.base (vR X.prog X.w) k f fd ps sp)(hr:b8 k X.A)(hb:Binds X.K fd ps ds)(hd:Vals jb ds)(L:Lets X ER)(ha:PA X (e::es) t)
  (Gg:starEach (e::es) X.env=(false,eval e X.env)::starEach es X.env:=by rfl) (mf:(backTo pos (starEach es X.env)).any (·.1)=false:=by rfl)
  (ht:eval (.Call (.Attribute o m apos) (e::es) [] pos) X.env=(do
   let ov←eval o X.env
   standAt apos.atName
   let (f,first)←holding [ov] (getMethod ov m pl)
   callWith pos f first (backTo pos (starEach (e::es) X.env)) (backToKw pos (keywordEach [] X.env))):=by rfl):
  PE X (.Call (.Attribute o m apos) (e::es) [] pos) (Bt C m sp jb ER ta t):=by
 intro pins s σ H Q I h
 refine PySem.W.methodCall_KW (pl:=pl) (bU (he pins s σ H _ I h) fun u s1 ⟨x,H1,I1,rx,a,dx,fs,ex,ea,l,q⟩=>?_) ht
 subst ex
 obtain rfl:u=Value.ref a:=rx
 refine jM I1 ea c hm l ?_
 refine PySem.W.callWith_K (first:=[.ref a]) (h₀:=X.base) I.ok.mod.DR hm.kp (bU (ha pos pins s1 σ H1 _ I1 q) fun us s2 ⟨vs,H2,I2,r,q2⟩=>⟨I2.fQ,?_⟩) Gg mf
 exact qN (us:= .ref a::us) (vs:= .ref a::vs) F hr hb hd L I2 (.cons rfl r) q2
theorem bM{pl:Sem Bool}(he:PE X o ta)(c:qy X.K C)(hm:Meth X.K C m f)(F:eD X.prog X.w X.K X.mg X.base (vR X.prog X.w) k f fd ps sp)(hr:b8 k X.A)(hb:Binds X.K fd ps ds)(hd:Vals jb ds)(L:Lets X ER)
  (ht:eval (.Call (.Attribute o m apos) [] [] pos) X.env=(do
   let ov←eval o X.env
   standAt apos.atName
   let (f,first)←holding [ov] (getMethod ov m pl)
   callWith pos f first (backTo pos (starEach [] X.env)) (backToKw pos (keywordEach [] X.env))):=by rfl):
  PE X (.Call (.Attribute o m apos) [] [] pos) (Bt C m sp jb ER ta Hx):=by
 intro pins s σ H Q I h
 refine PySem.W.methodCall_KW (pl:=pl) (bU (he pins s σ H _ I h) fun u s1 ⟨x,H1,I1,rx,a,dx,fs,ex,ea,l,q⟩=>?_) ht
 subst ex
 obtain rfl:u=Value.ref a:=rx
 refine jM I1 ea c hm l ?_
 exact PySem.W.callWith_K0 (first:=[.ref a]) I1.fQ hm.kp (qN (us:=[.ref a]) (vs:=[.ref a]) F hr hb hd L I1 (.cons rfl .nil) q)
def Bu(C:Addr)(sp:Sp)(t:TA):TE:=fun σ H Q=>t σ H fun vs H1=>vs.length≤100∧∀x,H1 x=none→sp (.ref x::vs) (upd H1 x (oZ x C none)) (fun v H2=>v= .cn∧Q (.ref x) H2) E0
theorem zH{HE:Addr}{pins:List (Addr×Obj)}{σ:St}{H:Hp}{s:Shared}{Q:VK}{us:List Value}{vs:List V}(Z:PySem.W.b7 X.K C HE f)(F:eD X.prog X.w X.K X.mg X.base mB k f fd ps sp)(hr:b8 (k+1) X.A)(hb:Binds X.K fd ps [])
  (I:Inv X pins σ H s) (r:Vals vs us) (hz:vs.length≤100) (h:∀x,H x=none→sp (.ref x::vs) (upd H x (oZ x C none)) (fun v H2=>v= .cn∧Q (.ref x) H2) E0):
  wpAny (model X.prog X.w) X.A (call (.ref C) us) (EP X pins σ Q) X.xe s:=by
 have hq:=h (s.heap.objs.size+1) (I.bq.fresh (Nat.le_succ _))
 have e2:((s.heap.push (PySem.W.jz us)).push (PySem.W.iQ C s.heap.objs.size)).get? (s.heap.objs.size+1)=some (PySem.W.iQ C s.heap.objs.size):=by
  have:=Heap.get?_push_size (s.heap.push (PySem.W.jz us)) (o:=PySem.W.iQ C s.heap.objs.size) rfl
  rwa [Heap.size_push] at this
 have I2:Inv X pins σ (upd H (s.heap.objs.size+1) (oZ (s.heap.objs.size+1) C none)) { s with heap:=(s.heap.push (PySem.W.jz us)).push (PySem.W.iQ C s.heap.objs.size) }:=
  I.laid (a:=s.heap.objs.size+1) (t':=s.toks) (fun b u q=>Heap.get?_push_of_some _ (Heap.get?_push_of_some _ q)) (Nat.le_succ _) (xG e2 rfl rfl rfl rfl ⟨rfl,rfl⟩)
 have r2:Vals (V.ref (s.heap.objs.size+1)::vs) (Value.ref (s.heap.objs.size+1)::us):= .cons rfl r
 have hl:(Value.ref (s.heap.objs.size+1)::us++[]).length=ps.length:=by
  have e:=r2.length
  rw[F.len _ _ _ _ hq] at e
  rw[List.append_nil]
  exact e.symm
 have LC:us.length≤sizeLine:=by
  rw[←r.length]
  exact Nat.le_trans hz (by rw[sizeLine_eq];decide)
 have DF:=hb { s with heap:=(s.heap.push (PySem.W.jz us)).push (PySem.W.iQ C s.heap.objs.size) } (Value.ref (s.heap.objs.size+1)::us) I2.fQ hl
 rw[List.append_nil] at DF
 refine wpAny_call (PySem.W.xD I.fQ Z LC (codeAny_mono (F.run _ X.stack _ _ ⟨Value.ref (s.heap.objs.size+1)::us,[]⟩ (Value.ref (s.heap.objs.size+1)::us) _ _ E0 (hr.make C us []) (I2.A3.make C us []) DF r2 hq) fun r s' iJ=>?_))
 cases r with
 |error e=>exact False.elim iJ
 |ok fl=>
  cases fl with
  |ret u=>
   obtain⟨v,H',I3,rv,ev,q3⟩:=I2.after iJ
   subst ev
   exact⟨rv,⟨V.ref (s.heap.objs.size+1),H',I3,rfl,q3⟩⟩
  |next=>exact False.elim iJ
  |brk=>exact False.elim iJ
  |cont=>exact False.elim iJ
theorem gN{HE:Addr}(Z:PySem.W.b7 X.K C HE f)(F:eD X.prog X.w X.K X.mg X.base mB k f fd ps sp)(hr:b8 (k+1) X.A)(hg:Gl X x)(hm:X.mg x=some (.ref C))(hk:PySem.W.keepIn X.K (.ref C)=true)(hb:Binds X.K fd ps [])
  (ha:PA X (e::es) t) (zh:(x==("__debug__" :Str))=false:=by decide) (he:starEach (e::es) X.env=(false,eval e X.env)::starEach es X.env:=by rfl) (mf:(backTo pos (starEach es X.env)).any (·.1)=false:=by rfl):
  PE X (.Call (.Name x p) (e::es) [] pos) (Bu C sp t):=by
 intro pins s σ H Q I h
 refine wpAny_Call_Name_kw (eV I hg hm ?_ zh)
 refine PySem.W.callWith_K (h₀:=X.base) I.ok.mod.DR hk (bU (ha pos pins s σ H _ I h) fun us s1 ⟨vs,H1,I1,r,q⟩=>⟨I1.fQ,?_⟩) he mf
 exact zH Z F hr hb I1 r q.1 q.2
def Ie(K:PySem.W.Frag)(te:TE)(ER:St→XK):TS:=fun _ σ H=>te σ H fun v H1=>∃e C HE f dx,v= .ref e∧PySem.W.b7 K C HE f∧H1 e=some (oZ e C dx)∧ER σ (.ref C) dx (upd H1 e (nP e C dx))
theorem gO{ex:Expr}{te:TE}(hc:X.calm=true)(L:Lets X ER)(he:PE X ex te):PS X (.Raise (some ex) none pos) (Ie X.K te ER):=by
 intro pins s σ H D I h
 rw[arm_exec_Raise]
 refine wpAny_bind (wpAny_standAt (PySem.W.Br (K:=X.K) (I.ok.hd hc) (wpAny_bind (bU (he pins s σ H _ I h) fun u s1 ⟨v,H1,I1,rv,e,C,HE,f,dx,ev,Z,hx,q⟩=>wpAny_bind (wpAny_standAt (wpAny_pure ?_))))))
 subst ev
 obtain rfl:u=Value.ref e:=rv
 obtain⟨o,vs,h1,h2,h3,h4,h5,h6⟩:=nR I1.bq hx
 refine⟨e,o,vs,C,HE,f,rfl,I1.fQ,Z,h1,h2,h4,h5,L _ _ ⟨e,C,dx,σ,_,none,rfl,?_,ag,⟨⟨o,vs,h1,h4,h5⟩,fun T z=>by cases z⟩,fun T z=>(by cases z),q⟩⟩
 have J:=I1.tG.write (x:=e) (e:=e) (o:=nP e C dx) (h':=s1.heap) (t':=s1.toks) (by rw[hx];exact True.intro) (.inl rfl) (fun _ _ _ q=>q) ⟨o,h1⟩ (xF h1 h2 h3 h4 (.inl h6.1))
 exact J
end
end L2
namespace L2
open PySem PySem.Spec PyProof.Rows
variable [gK]
theorem Bv{H:Hp}{e:Addr}{o:HO}(h:H e=some o):upd H e o=H:=by
 funext b
 by_cases z:b=e
 ·subst z
  rw[ag,h]
 ·rw[ao z]
section
variable {X:Cx}{x f:Str}{a b o value ex:Expr}{ta tb tv:TE}{p pos apos pos':Pos}
structure Gu(K:PySem.W.Frag)(HE:Addr):Prop where
 sp:PySem.W.specialIn K (.ref HE) "__getattribute__" =some (some (.builtin "type.__getattribute__"))
 rd:PySem.W.readsIn K HE (.type "type")=true
 fc:PySem.W.findCls K (.ref HE) (.type "type") "__init__" =some (.val (.builtin "ValueError.__init__"))
def Ig(K:PySem.W.Frag)(ta tb:TE):TE:=fun σ H Q=>ta σ H fun v H1=>tb σ H1 fun _ H2=>∃e C HE f dx,v= .ref e∧PySem.W.b7 K C HE f∧H2 e=some (oZ e C dx)∧Q .cn H2
theorem kj{HE:Addr}{pl:Sem Bool}(hg:Gl X x)(hm:X.mg x=some (.ref HE))(B:Gu X.K HE)(ha:PE X a ta)(hb:PE X b tb)(hd:(x==("__debug__" :Str))=false:=by decide)
  (Gg:starEach [a,b] X.env=(false,eval a X.env)::starEach [b] X.env:=by rfl) (RQ:starEach [b] X.env=(false,eval b X.env)::starEach [] X.env:=by rfl) (mf:(backTo pos (starEach [b] X.env)).any (·.1)=false:=by rfl)
  (ht:eval (.Call (.Attribute (.Name x p) "__init__" apos) [a,b] [] pos) X.env=(do
   let ov←eval (.Name x p) X.env
   standAt apos.atName
   let (f,first)←holding [ov] (getMethod ov "__init__" pl)
   callWith pos f first (backTo pos (starEach [a,b] X.env)) (backToKw pos (keywordEach [] X.env))):=by rfl):
  PE X (.Call (.Attribute (.Name x p) "__init__" apos) [a,b] [] pos) (Ig X.K ta tb):=by
 intro pins s σ H Q I h
 refine PySem.W.methodCall_KW (pl:=pl) (eV I hg hm ?_ hd) ht
 refine PySem.W.method_cls I.fQ B.sp (PySem.W.cls_value I.fQ B.rd B.fc rfl ?_)
 have I0:=I.tok (s.toks+1)
 refine PyProof.Rows.callWith_builtin1 (bU (aa ha (aa hb ah RQ) Gg pos pins _ σ H (fun vs H2=>match vs with| [v,_]=>∃e C HE f dx,v=V.ref e∧PySem.W.b7 X.K C HE f∧H2 e=some (oZ e C dx)∧Q .cn H2|_=>False) I0 h) fun us s1 ⟨vs,H2,I2,r,q⟩=>?_) Gg mf
 match vs,q with
 | [v,u],q=>
   obtain⟨e,C,HE,f,dx,e1,Z,hx,q⟩:=q
   subst e1
   obtain⟨u1,u2,rfl,r1,r2⟩:=vals2 r
   obtain rfl:u1=Value.ref e:=r1
   obtain⟨ob,vs,h1,h2,h3,h4,h5,h6⟩:=nR I2.bq hx
   have sz:1<vs.size:=(Array.getElem?_eq_some_iff.mp h5).1
   refine PySem.W.Bs I2.fQ Z h1 h2 h4 (by omega) (by rw[sizeLine_eq,List.length_cons,List.length_nil];decide) fun h' g1 g2=>⟨.cn,H2,?_,rfl,q⟩
   have J:=I2.write (x:=e) (e:=e) (o:=oZ e C dx) (h':=h') (t':=s1.toks) (by rw[hx];exact True.intro) (.inl rfl) (fun b o be q=>g2 b o be q) ⟨_,g1⟩ (xG g1 h2 h3 rfl (by rw[Array.getElem?_setIfInBounds_ne (by decide)];exact h5) ⟨by rw[Array.getElem?_setIfInBounds_ne (by decide)];exact h6.1,by rw[Array.size_setIfInBounds];exact h6.2⟩)
   rw[Bv hx] at J
   exact J
def LD(K:PySem.W.Frag)(ta tv:TE)(f:Str):TS:=fun D σ H=>tv σ H fun y H1=>ta σ H1 fun v H2=>∃e C HE g,v= .ref e∧PySem.W.b7 K C HE g∧PySem.W.takerIn K C f=some none∧
 ((H2 e=some (oZ e C none)∧∀dx,H2 dx=none→dx≠e→D.nx σ (upd (upd H2 dx (xE dx [(f,y)])) e (oZ e C (some dx))))∨
  ∃dx fs,H2 e=some (oZ e C (some dx))∧H2 dx=some (xE dx fs)∧fs.length<1000∧D.nx σ (upd H2 dx (xE dx (c9 f y fs))))
theorem mG(ha:PE X o ta)(hv:PE X value tv)(hs:swapsWith value (some (.Attribute o f pos')) pos.line X.env=pure false):PS X (.Assign [.Attribute o f pos'] value pos) (LD X.K ta tv f):=by
 intro pins s σ H D I h
 refine plainObj_wpAny_Assign_Attribute (bU (hv pins s σ H _ I h) fun u s1 ⟨y,H1,I1,ry,q⟩=>bU (ha pins s1 σ H1 _ I1 q) fun ov s2 ⟨x,H2,I2,rx,e,C,HE,g,ex,Z,tk,q2⟩=>?_) hs
 subst ex
 obtain rfl:ov=Value.ref e:=rx
 rcases q2 with ⟨hx,q2⟩ | ⟨dx,fs,hx,hd,hl,q2⟩
 ·obtain⟨ob,vs,h1,h2,h3,h4,h5,h6⟩:=nR I2.bq hx
  refine PySem.W.Es I2.fQ Z tk h1 h2 h4 h3 fun h' HQ g1 g2 g3=>?_
  have ne:s2.heap.objs.size≠e:=Nat.ne_of_gt (Heap.lt_size h1)
  have fr:=I2.bq.fresh (Nat.le_refl s2.heap.objs.size)
  generalize hN:s2.heap.objs.size=n at g1 g2 ne fr
  have at':∀b o,H2 b=some o→b≠e→upd (upd H2 n (xE n [(f,y)])) e (oZ e C (some n)) b=some o:=fun b o q be=>by
   rw[ao be,ao (ai q fr)]
   exact q
  refine⟨σ,upd (upd H2 n (xE n [(f,y)])) e (oZ e C (some n)),I2.un (h':=h') (t':=HQ) ⟨fun b o q nn _ _=>g3 b o (fun z=>?_) q,fun b o q nn _ _=>⟨o.slots,g3 b o (fun z=>?_) q⟩,fun b o q nn _=>?_,fun b o q _=>?_,fun b xs q=>at' b _ q fun z=>?_,fun b o u q=>at' b _ q fun z=>?_,fun b ps q=>⟨#[],?_⟩⟩ fun b o q=>?_,q2 n fr ne⟩
  ·rw[z,hx] at nn;cases nn
  ·rw[z,hx] at nn;cases nn
  ·rw[ao (fun z=>by rw[z,hx] at nn;cases nn),ao (fun z=>by rw[z,←hN] at q;exact absurd (Heap.lt_size q) (Nat.lt_irrefl _))]
   exact nn
  ·by_cases be:b=e
   ·subst be
    exact⟨_,g1⟩
   ·exact⟨o,g3 b o be q⟩
  ·rw[z,hx] at q;cases q
  ·rw[z,hx] at q;cases q
  ·rw[Array.append_empty]
   exact at' b _ q fun z=>by rw[z,hx] at q;cases q
  ·by_cases be:b=e
   ·subst be
    rw[ag] at q
    cases q
    exact xG g1 h2 rfl h4 h5 h6
   ·rw[ao be] at q
    by_cases bn:b=n
    ·subst bn
     rw[ag] at q
     cases q
     refine Gn g2 (fun g=>?_) fun g hg=>?_
     ·by_cases eg:g=f
      ·subst eg
       simp only [List.lookup,beq_self_eq_true,if_true]
       exact ry
      ·have e1:(g==f)=false:=by simpa using eg
       simp only [List.lookup,e1,if_neg eg]
       exact True.intro
     ·by_cases eg:g=f
      ·simp [eg]
      ·exact absurd (if_neg eg) hg
    ·rw[ao bn] at q
     refine(I2.bq b o q).qo (fun c u hc z=>g3 c u (fun ce=>?_) z) (fun c z=>at' c _ z fun ce=>?_) fun c xs z=>at' c _ z fun ce=>?_
     ·rcases hc with hc|hc
      ·exact be (hc.symm.trans ce)
      ·rw[ce,hx] at hc;cases hc
     ·rw[ce,hx] at z;cases z
     ·rw[ce,hx] at z;cases z
 ·obtain⟨ob,vs,h1,h2,h3,h4,h5,h6⟩:=nR I2.bq hx
  obtain⟨mA,n1,r1,w1⟩:=vQ I2.bq hd
  have hz:(fs.map (·.1)).length≤1000:=by rw[List.length_map];omega
  refine PySem.W.Et I2.fQ Z tk h1 h2 h4 h3 n1 w1 hz fun h' g1 sb=>⟨σ,_,?_,q2⟩
  have qt:∃o,h'.get? dx=some o:=let ⟨o,_,_,e',_⟩:=g1;⟨o,e'⟩
  refine I2.write (x:=dx) (e:=dx) (t':=s2.toks+2) (by rw[hd];exact True.intro) (.inl rfl) (fun b q hb z=>(sb.2 b hb).trans z) qt (Gn g1 (fun g=>?_) fun g hg=>?_)
  ·rw[aK]
   by_cases q:g=f
   ·rw[if_pos q,if_pos q];exact ry
   ·rw[if_neg q,if_neg q];exact r1 g
  ·by_cases q:g=f
   ·rw[q];exact(gE f y fs).1
   ·exact(gE f y fs).2 g (w1 g fun z=>hg (by rw[if_neg q];exact z))
def Gv(K:PySem.W.Frag)(ta:TE)(f:Str):TE:=fun σ H Q=>ta σ H fun v H1=>∃e C HE g dx fs y,v= .ref e∧PySem.W.b7 K C HE g∧PySem.W.findIn K (.ref C) f=some none∧H1 e=some (nP e C (some dx))∧H1 dx=some (xE dx fs)∧fs.lookup f=some y∧Q y H1
theorem km(he:PE X ex ta)(hb:attributeBase ex f X.env (eval ex X.env)=eval ex X.env):PE X (.Attribute ex f pos) (Gv X.K ta f):=by
 intro pins s σ H Q I h
 refine xu hb (bU (he pins s σ H _ I h) fun u s1 ⟨x,H1,I1,rx,e,C,HE,g,dx,fs,y,ex,Z,fi,hx,hd,l,q⟩=>?_)
 subst ex
 obtain rfl:u=Value.ref e:=rx
 obtain⟨ob,vs,h1,h2,h3,h4⟩:=nQ I1.bq hx
 obtain⟨mA,n1,r1,w1⟩:=vQ I1.bq hd
 obtain⟨od,ho,hl⟩:=ll n1
 obtain⟨u,hu,ru⟩:=fP.some_of (v:=y) (o:=mA f) (by rw[←l];exact r1 f)
 obtain⟨cd,me,_,hh⟩:=Z.cd
 have J:PySem.W.InstAt s1.heap e ob C (some od):=⟨h1,h2,by unfold PySem.W.notCls;rw[h4],by rw[h3];exact ho⟩
 exact PySem.W.Ia I1.fQ Z J (PySem.W.findObj_own (by unfold PySem.W.hasDictIn;rw[me];exact hh) fi rfl (by rw[hl,hu])) (pz ru) ⟨y,H1,I1.tok _,ru,q⟩
def RS(ta:TE):TE:=fun σ H Q=>ta σ H fun v H1=>(∃i,v= .int i∧i.natAbs.log2<1920∧Q (.str (toString i)) H1)∨∃y,v= .str y∧y.length≤sizeLine∧Q (.str y) H1
theorem qO(he:PE X ex ta):PE X (.FormattedValue ex (-1) none pos) (RS ta):=by
 intro pins s σ H Q I h
 refine FormattedValue_plain (bU (he pins s σ H _ I h) fun u s1 ⟨v,H1,I1,rv,q⟩=>?_)
 rcases q with ⟨i,rfl,hi,q⟩ | ⟨y,rfl,hy,q⟩
 ·obtain⟨t,rfl⟩:=rv
  exact formatField_int_small hi ⟨.str (toString i),H1,I1.tok _,⟨_,rfl⟩,q⟩
 ·obtain⟨t,rfl⟩:=rv
  exact formatField_str (fun t' tk=>⟨.str y,H1,I1.tok tk,⟨_,rfl⟩,q⟩) hy
def PF(X:Cx)(es:List Expr)(t:Str→TE):Prop:=
 ∀(acc:Str) (pins:List (Addr×Obj)) (s:Shared) (σ:St) (H:Hp) (Q:VK),Inv X pins σ H s→t acc σ H Q→wpAny (model X.prog X.w) X.A (joinParts acc (evalEach es X.env)) (EP X pins σ Q) X.xe s
def LF:Str→TE:=fun acc _ H Q=>acc.length≤sizeLine∧Q (.str acc) H
def Ih(te:TE)(t:Str→TE):Str→TE:=fun acc σ H Q=>te σ H fun v H1=>∃y,v= .str y∧(acc++y).length≤sizeLine∧t (acc++y) σ H1 Q
theorem qP:PF X [] LF:=fun acc pins s σ H Q I h=>joinParts_nil ⟨.str acc,H,I.tok _,⟨_,rfl⟩,h.2⟩ h.1
theorem dM{es:List Expr}{t:Str→TE}(he:PE X ex ta)(hr:PF X es t)(hs:evalEach (ex::es) X.env=eval ex X.env::evalEach es X.env:=by rfl):PF X (ex::es) (Ih ta t):=by
 intro acc pins s σ H Q I h
 rw[hs]
 refine joinParts_cons (bU (he pins s σ H _ I h) fun u s1 ⟨v,H1,I1,rv,y,ev,hz,q⟩=>?_)
 subst ev
 obtain⟨t',rfl⟩:=rv
 exact⟨hz,hr (acc++y) pins s1 σ H1 Q I1 q⟩
theorem mH{v1 v2:Expr}{es:List Expr}{t:Str→TE}(h:PF X (v1::v2::es) t):PE X (.JoinedStr (v1::v2::es) pos) (t Str.empty):=fun pins s σ H Q I hw=>JoinedStr_many (h Str.empty pins s σ H Q I hw)
end
end L2
namespace PySem.W
open PySem PySem.Calls PyProof.Rows
structure tJ(K:Frag)(PC:Addr):Prop where
 obj:∃(nm q:Str) (N:Addr) (bs bm:List Value) (hd:Bool) (sn:List Str) (sub:List Value) (ab:Bool) (col:Option Bool) (dd:Option Addr) (k0 k1 k2 k3 k5:Option Value) (Qf:String),
  K.lookup PC=some (excClassObj nm q PC N bs bm hd sn sub ab col dd k0 k1 k2 k3 k5 Qf)∧bm.contains (.type "BaseException")=true
theorem b7.par{K:Frag}{C HE f:Addr}(Z:b7 K C HE f):tJ K C:=by
 obtain⟨nm,q,N,bs,sn,sub,ab,col,dd,k0,k1,k2,k3,k5,hK⟩:=Z.obj
 exact⟨nm,q,N,bs,_,_,sn,sub,ab,col,dd,k0,k1,k2,k3,k5,_,hK,by rw[List.contains_cons,show oY.contains (.type "BaseException")=true from by decide+kernel,Bool.or_true]⟩
theorem nV{M:Model}{A:Around}{E:Value→Shared→Prop}{s:Shared}{K:Frag}{C HE f e PC:Addr}{ox:Obj}{b:Bool}{Q:Bool→Shared→Prop}(X:K.In s.heap)(Z:b7 K C HE f)(Y:tJ K PC)(hx:s.heap.get? e=some ox)(hc:ox.cls= .ref C)
  (hm:mroIn K C (.ref PC)=some b) (k:Q b s):wpAny M A (excMatches (.ref e) (.ref PC)) Q E s:=by
 obtain⟨nm,q,N,bs,sn,sub,ab,col,dd,k0,k1,k2,k3,k5,hK⟩:=Z.obj
 obtain⟨nm',q',N',bs',bm,qt,sn',Y7,ab',Y8,Le,k0',k1',k2',k3',k5',Qf,hP,hB⟩:=Y.obj
 obtain⟨cd,me,em,_⟩:=Z.cd
 have cb:(Value.ref C:: .ref HE::oY).contains (.ref PC)=b:=by
  unfold mroIn at hm
  rw[me,Option.bind_some,em] at hm
  exact Option.some.inj hm
 have kC:=X _ _ hK
 have kP:=X _ _ hP
 have cB:(Value.ref PC::bm).contains (.type "BaseException")=true:=by rw[List.contains_cons,hB,Bool.or_true]
 have ft:=tc_notTuple
 obtain⟨hp,g,d,tk,os⟩:=s
 unfold excMatches
 repeat (first| (with_reducible refine wpAny_loadPart_at hx ?_;rw[hc]) |with_reducible refine wpAny_loadPart_at kP ?_| (with_reducible refine wpAny_isSubtype_exc kP ?_;rw[cB]) | (with_reducible refine wpAny_isSubtype_exc kC ?_;rw[cb]) |wp_step)
 cases b<;>(wp_walk;exact k)
end PySem.W
namespace L2
open PySem PySem.Spec PyProof.Rows
variable [gK]
abbrev Cx.pinned(X:Cx)(pn:List (Addr×Obj)):Cx:={ X with pn:=X.pn++pn }
abbrev Cx.mark(X:Cx)(e:Addr):Cx:={ X with A:=X.A.mark (some (.ref e)),calm:=false,xe:=fun _ _=>False }
section
variable {X:Cx}{pins pn:List (Addr×Obj)}{σ:St}{H:Hp}{s:Shared}{ER:St→XK}{v:Value}{D:Ends}{fl:Flow}
theorem Cx.Ok.pinned(ok:X.Ok):(X.pinned pn).Ok:=⟨ok.mod,ok.kind,ok.glob,ok.blt,ok.above,ok.inj,ok.has,ok.DS,ok.hd,ok.frames,ok.Ga,ok.Kh,ok.bs,ok.xn,ok.qq,ok.qr,ok.iy,ok.Aw⟩
theorem Cx.Ok.dn(ok:(X.pinned pn).Ok):X.Ok:=⟨ok.mod,ok.kind,ok.glob,ok.blt,ok.above,ok.inj,ok.has,ok.DS,ok.hd,ok.frames,ok.Ga,ok.Kh,ok.bs,ok.xn,ok.qq,ok.qr,ok.iy,ok.Aw⟩
theorem Inv.RT(I:Inv X pins σ H s):Inv (X.pinned pins) [] σ H s:=⟨I.ok.pinned,I.os,I.bare,I.base,I.loc,I.cell,I.free,I.eS,fun p hp=>I.pin p (by simpa using hp),I.bq,I.len⟩
theorem Inv.Bw(I:Inv (X.pinned pn) pins σ H s):Inv X pn σ H s:=⟨I.ok.dn,I.os,I.bare,I.base,I.loc,I.cell,I.free,I.eS,fun p hp=>I.pin p (List.mem_append_left _ hp),I.bq,I.len⟩
theorem SP.dn(h:SP (X.pinned pn) pins D fl s):SP X pn D fl s:=by
 cases fl with
 |next=>obtain⟨σ',H',I,q⟩:=h;exact⟨σ',H',I.Bw,q⟩
 |brk=>obtain⟨σ',H',I,q⟩:=h;exact⟨σ',H',I.Bw,q⟩
 |cont=>obtain⟨σ',H',I,q⟩:=h;exact⟨σ',H',I.Bw,q⟩
 |ret u=>obtain⟨v,σ',H',I,r,q⟩:=h;exact⟨v,σ',H',I.Bw,r,q⟩
theorem fY.dn(z:fY (X.pinned pn) ER v s):fY X ER v s:=by
 obtain⟨e,C,dx,σ,H,tb,ev,I,he,fl,ht,hE⟩:=z
 exact⟨e,C,dx,σ,H,tb,ev,I.Bw.tG,he,fl,fun T q=>⟨(ht T q).1,(ht T q).2.above,(ht T q).2.loc,(ht T q).2.cell,fun p hp=>(ht T q).2.pn p (List.mem_append_left _ hp)⟩,hE⟩
theorem tK(L:Lets X ER):Lets (X.pinned pn) ER:=fun v s z=>L v s z.dn
theorem Ew:Lets X (fun _ _ _ _=>False):=fun _ _ ⟨_,_,_,_,_,_,_,_,_,_,_,z⟩=>z.elim
theorem Inv.mark(I:Inv X pins σ H s)(e:Addr):Inv (X.mark e) pins σ H s:=
 ⟨⟨I.ok.mod,I.ok.kind,I.ok.glob,I.ok.blt,I.ok.above,I.ok.inj,I.ok.has,I.ok.DS,fun z=>(by cases z),I.ok.frames,I.ok.Ga,I.ok.Kh,I.ok.bs,I.ok.xn,I.ok.qq,I.ok.qr,I.ok.iy,I.ok.Aw⟩,I.os,I.bare,I.base,I.loc,I.cell,I.free,I.eS,I.pin,I.bq,I.len⟩
theorem Inv.unmark{e:Addr}(I:Inv (X.mark e) pins σ H s)(ok:X.Ok):Inv X pins σ H s:=⟨ok,I.os,I.bare,I.base,I.loc,I.cell,I.free,I.eS,I.pin,I.bq,I.len⟩
def PH(X:Cx)(hs:List ExceptHandler)(th:Ends→St→XK):Prop:=
 ∀(s:Shared) (σ:St) (H:Hp) (D:Ends) (e C:Addr) (dx:Option Addr) (T:Addr),Inv X [] σ H s→H e=some (nP e C dx)→s.heap.jP e (some T)→H T=none→gL X T→th D σ (.ref C) dx H→
  wpAny (model X.prog X.w) X.A (handleBy (.ref e) X.env hs) (SP X [] D) X.xe s
theorem Bx(L:Lets X ER):PH X [] (fun _=>ER):=by
 intro s σ H D e C dx T I he fl hT nT hE
 refine wpAny_handleBy_nil ?_
 obtain⟨oe,vs,h1,h2,h3⟩:=id fl.ex
 unfold PySem.passOn
 refine wpAny_bind (wpAny_field h1 h2 h3 ?_)
 rw[if_neg (by simp)]
 have ht:∀T',some T=some T'→H T'=none∧gL X T':=fun T' z=>by cases z;exact⟨hT,nT⟩
 refine wpAny_bind (dY fl fun h' a m=>wpAny_throw (L _ _ ⟨e,C,dx,σ,H,some T,rfl,I.moved he ht (m.mono fun _ z=>absurd z (by simp)),he,a,ht,hE⟩))
def LG(K:PySem.W.Frag)(PC:Addr)(i:Nat)(ts:TS)(tr:Ends→St→XK):Ends→St→XK:=fun D σ cv dx H=>
 ∃C HE f b,cv= .ref C∧PySem.W.b7 K C HE f∧PySem.W.mroIn K C (.ref PC)=some b∧
  if b=true then∀e,H e=some (nP e C dx)→ts { D with nx:=fun σ1 H1=>D.nx (σ1.set i none) H1,bk:=fun σ1 H1=>D.bk (σ1.set i none) H1,ct:=fun σ1 H1=>D.ct (σ1.set i none) H1 } (σ.set i (some (.ref e))) H else tr D σ cv dx H
theorem name_goes{i:Nat}{n:Str}{pos:Pos}{Q:Unit→Shared→Prop}{A:Around}{E:Value→Shared→Prop}(I:Inv X pins σ H s)(hN:X.N.Nodup)(hi:X.N[i]? =some n)(hl:X.env.scope.names.lookup n=some .local)
  (k:∀s',Inv X pins (σ.set i none) H s'→Q () s'):wpAny (model X.prog X.w) A (do bindName X.env n .none;unbindBehindTheSuite X.env n pos) Q E s:=by
 have Hj:(X.env.scope.kind== .class||(X.env.scope.kind== .module&&X.env.locals != X.env.globals))=false:=by rw[I.ok.kind];rfl
 refine wpAny_bind (wpAny_bindName (store_ok I hN hi (.inl hl) (v:= .cn) rfl (fun s1 J=>?_) (.inr hl)))
 have Xh:i<σ.length:=by rw[I.len];exact(List.getElem?_eq_some_iff.mp hi).1
 obtain⟨m,hn,zx⟩:=id J.loc
 obtain⟨u,_,lk⟩:=zx i n .cn hi (by rw[List.getElem?_set_self Xh]) (.inl hl)
 have Y9:(m n).isSome=true:=by
  rcases lk with ⟨_,z⟩ | ⟨z,_⟩
  ·rw[z];rfl
  ·rcases z with z|z
   ·have:X.env.scope.names.lookup n=some .cell:=z
    rw[hl] at this;cases this
   ·have:X.env.scope.names.lookup n=some .free:=z
    rw[hl] at this;cases this
 unfold unbindBehindTheSuite
 refine wpAny_onRaise ?_
 unfold unbindName
 refine wpAny_bind (wpAny_point (wpAny_bind ?_))
 unfold deleteName
 have kl:X.env.kindOf n=some .local:=hl
 simp only [kl,Hj]
 rw[if_neg (by decide)]
 refine wpAny_bind (wpAny_nsDel_keeps hn fun h2 v2 Gh sb=>?_)
 rw[Y9]
 refine wpAny_pure (wpAny_point (k _ ?_))
 obtain⟨oL,_,_,WX,_⟩:=id hn
 have lo:∀b o,X.s₀.heap.get? b=some o→b≠X.env.locals:=fun b o q=>Nat.ne_of_lt (Nat.lt_of_lt_of_le (Heap.lt_size q) J.ok.above)
 refine⟨J.ok,J.os,J.bare,⟨fun b o e nn hb hx=>(sb.2 b (lo b o e)).trans (J.base.keep b o e nn hb hx),fun b o e nn hb hx=>?_,J.base.free,fun b o e hx=>?_,J.base.kZ,J.base.k7,J.base.k8⟩,⟨_,Gh,fun j y v' e1 e2 e3=>?_⟩,fun y c e=>?_,J.free,J.eS,fun p hp=>?_,fun b ob e=>?_,by simpa using I.len⟩
 ·obtain⟨sl,e1⟩:=J.base.slot b o e nn hb hx
  exact⟨sl,(sb.2 b (lo b o e)).trans e1⟩
 ·obtain⟨o',e1⟩:=J.base.there b o e hx
  exact⟨o',(sb.2 b (lo b o e)).trans e1⟩
 ·by_cases hj:j=i
  ·subst hj
   rw[List.getElem?_set_self Xh] at e2
   cases e2
  ·rw[List.getElem?_set_ne (Ne.symm hj)] at e2
   obtain⟨u',r',q⟩:=zx j y v' e1 (by rw[List.getElem?_set_ne (Ne.symm hj)];exact e2) e3
   refine⟨u',r',?_⟩
   rcases q with ⟨k,e⟩ | ⟨k,c,e,z⟩
   ·refine .inl ⟨k,?_⟩
    have:y≠n:=fun e=>hj (nz hN e1 (e▸hi))
    simp [this,e]
   ·exact .inr ⟨k,c,e,z.sameBut sb (J.DT y c e)⟩
 ·obtain⟨w',z⟩:=J.cell y c e
  exact⟨w',z.sameBut sb (J.DT y c e)⟩
 ·obtain⟨e,nn,ne,nf,d⟩:=J.pin p hp
  exact⟨(sb.2 p.1 ne).trans e,nn,ne,nf,d⟩
 ·refine(J.bq b ob e).qo (fun c w' hc q=>(sb.2 c ?_).trans q) (fun _ q=>q) fun _ _ q=>q
  rintro rfl
  rcases hc with rfl|hc
  ·rw[J.free] at e;cases e
  ·rw[J.free] at hc;cases hc
theorem LH{x n:Str}{np pos:Pos}{b0:Stmt}{iR:List Stmt}{rest:List ExceptHandler}{PC:Addr}{i:Nat}{ts:TS}{tr:Ends→St→XK}(hg:Gl X x)(hm:X.mg x=some (.ref PC))(Y:PySem.W.tJ X.K PC)(hN:X.N.Nodup)(hi:X.N[i]? =some n)
  (hl:X.env.scope.names.lookup n=some .local) (Ii:∀e,jJ (X.mark e) (b0::iR) ts) (hr:PH X rest tr) (hd:(x==("__debug__" :Str))=false:=by decide):
  PH X (.ExceptHandler (some (.Name x np)) (some n) (b0::iR) pos::rest) (LG X.K PC i ts tr):=by
 intro s σ H D e C dx T I he fl hT nT hE
 obtain⟨C',HE,f,b,ec,Z,mb,hE⟩:=hE
 cases ec
 obtain⟨o,vs,o1,o2,o3,o4⟩:=nQ I.bq he
 have ht:∀T',some T=some T'→H T'=none∧gL X T':=fun T' z=>by cases z;exact⟨hT,nT⟩
 refine wpAny_handleBy_cons (codeAny_handlers_test (eV (X:=X.mark e) (I.mark e) hg hm (PySem.W.nV I.fQ Z Y o1 o2 mb ?_) hd)) (by intro z;cases z)
 cases b with
 |false=>exact hr s σ H D e C dx T I he fl hT nT hE
 |true=>
  have hE:=hE e he
  refine codeAny_handlers_suite_as (dY fl fun h1 a m=>?_)
  have I1:=I.moved he ht (m.mono fun _ z=>absurd z (by simp))
  refine store_ok I1 hN hi (.inl hl) (v:= .ref e) rfl (fun s2 I2=>?_) (.inr hl)
  refine wpAny_mono (Ii e [] s2 _ H _ (I2.mark e) hE) (fun f s3 q=>?_) fun _ _ z=>False.elim z
  cases f with
  |next=>
   obtain⟨σ',H',I3,q⟩:=q
   exact name_goes (I3.unmark I.ok) hN hi hl fun s4 I4=>⟨_,H',I4,q⟩
  |brk=>
   obtain⟨σ',H',I3,q⟩:=q
   exact name_goes (I3.unmark I.ok) hN hi hl fun s4 I4=>⟨_,H',I4,q⟩
  |cont=>
   obtain⟨σ',H',I3,q⟩:=q
   exact name_goes (I3.unmark I.ok) hN hi hl fun s4 I4=>⟨_,H',I4,q⟩
  |ret u=>
   obtain⟨v,σ',H',I3,r,q⟩:=q
   exact name_goes (I3.unmark I.ok) hN hi hl fun s4 I4=>⟨v,_,H',I4,r,q⟩
def LI(tb:(St→XK)→TS)(th:Ends→St→XK):TS:=fun D σ H=>tb (th D) D σ H
theorem xH{body:List Stmt}{h0:ExceptHandler}{hs:List ExceptHandler}{pos:Pos}{tb:(St→XK)→TS}{th:Ends→St→XK}(fm:zE X)(hb:∀pn Xi,jJ ((X.pinned pn).gw (fY (X.pinned pn) Xi)) body (tb Xi))(hh:∀pn,PH (X.pinned pn) (h0::hs) th):
  PS X (.Try body (h0::hs) [] [] pos) (LI tb th):=by
 intro pins s σ H D I h
 have fin:∀{f s1},SP (X.pinned pins) [] D f s1→SP X pins D f s1:=fun q=>q.dn
 refine wpAny_Try_except (wpAny_mono (hb pins (th D) [] s σ H D (I.RT.gw _) h) (fun f s1 q=>?_) fun v s1 z=>?_)
 ·have q:=fin q.cO
  cases f with
  |next=>exact wpAny_execs_nil q
  |brk=>exact q
  |cont=>exact q
  |ret u=>exact q
 ·obtain⟨e,C,dx,σ1,H1,tb,ev,I1,he,fl,ht,hE⟩:=z
  subst ev
  have RU:zE (X.pinned pins):=fm
  obtain⟨fr,ff⟩:=gM RU I1
  refine ki fr ff RU.2 fl fun h2 T a b m=>?_
  have m1:Heap.Moved (oU (X.pinned pins).stack) e tb s1.heap h2:=by unfold oU;rw[RU.1];exact m
  have I2:=I1.moved he ht m1
  have t1:=nU I1 ht b
  refine dY (s:={ s1 with heap:=h2 }) a fun h3 a3 m3=>?_
  have I3:=I2.moved he t1 (m3.mono fun _ z=>absurd z (by simp))
  exact bU (hh pins _ σ1 H1 D e C dx T I3 he a3 (t1 T rfl).1 (t1 T rfl).2 hE) fun f s4 q=>fin q
end
end L2
namespace L2
open PySem PySem.Spec PyProof.Rows
section
variable {X:Cx}{tg:Expr}
end
section
variable {K:PySem.W.Frag}{g:TG}{tt:TT}{te:TE}
end
end L2
namespace L2
open PySem PySem.Spec PyProof.Rows PySem.W
section
variable {X:Cx}
end
end L2
namespace L2
open PySem PySem.Spec PyProof.Rows
section
variable {P:Program}{w:World}{K:PySem.W.Frag}{mg:Str→Option Value}{base:Heap}
end
end L2
namespace PySem.W
open PySem PySem.Spec PySem.Calls PyProof.Rows
section
variable {prog:Program}{w:World}{A:Around}{E:Value→Shared→Prop}{s:Shared}{K:Frag}{e C HE f:Addr}{ox:Obj}{od:Option Obj}
theorem tL{name:Str}{a g:Value}(hc:(clsIn K C).isSome=true)(ha:findIn K (.ref C) name=some (some a))(hg:specialIn K a "__get__" =some (some g))(ht:takesIn K a=some true):findObj K C od name=some (.bind g a):=by
 obtain⟨cd,hc⟩:=Option.isSome_iff_exists.mp hc
 unfold findObj
 rw[hc,Option.bind_some,ha,Option.bind_some]
 simp [hg,ht]
theorem By{Q:Option Value→Shared→Prop}(X:K.In s.heap)(Z:b7 K C HE f)(I:InstAt s.heap e ox C od)(hf:findObj K C od "__class__" =some (.bind (.builtin "getset_descriptor.__get__") (.builtin "object.__class__")))
  (h:Q (some (.ref C)) { s with toks:=s.toks+1 }):wpAny (model prog w) A (getAttr? (.ref e) "__class__") Q E s:=by
 have T0:=I.type (M:=model prog w)
 have SG:=PySem.F.attr_ValueError.ga
 unfold getAttr? getAttrBy? getAttrBy
 refine wpAny_bind (wpAny_mkText (wpAny_bind (wpAny_attempt (wpAny_holding (wpAny_bind (T0 _ _ _ _ (fun _ _ y=>y) (wpAny_bind (looks_findIn X Z.ga _ _ _ _ (fun _ _ y=>y) ?_))))))))
 dsimp only
 rw[show (onTheHeap (Value.ref C)&&Value.builtin "BaseException.__getattribute__" ==Value.builtin "object.__getattribute__")=false from by rw[show (Value.builtin "BaseException.__getattribute__" ==Value.builtin "object.__getattribute__")=false from by decide+kernel,Bool.and_false],if_neg (by decide)]
 refine wpAny_bind (looks_hook X (show (if onTheHeap (Value.ref C) then findIn K (.ref C) "__getattr__" else some none)=some none from Z.gh) _ _ _ _ (fun _ _ y=>y) (wpAny_bind (wpAny_attempt (wpAny_holding ?_))))
 unfold callGetattribute
 rw[show (false&&onTheHeap (Value.builtin "BaseException.__getattribute__"))=false from rfl,if_neg (by decide)]
 unfold boundAndCalled
 rw[SG.bind]
 refine wpAny_bind (wpAny_pure ?_)
 show wpAny _ _ (call (.builtin "BaseException.__getattribute__") [.ref e, .str "__class__" s.toks]) _ _ _
 refine wpAny_call (codeAny_call_builtin SG.plain PySem.F.entry_bexc_ga ?_)
 refine @check_slot (model prog w) _ _ { s with toks:=s.toks+1 } "BaseException.__getattribute__" "BaseException" "__getattribute__" (.ref e) [.str "__class__" s.toks] [] _ (by decide+kernel) (by decide+kernel) (T0.andThen (looks_mroIn X (Z.mro (by decide+kernel)))) (PySem.F.args_bexc_ga _ _) ?_
 have l1:=looks_find (M:=model prog w) X I hf
 unfold Builtin.«object.__getattribute__»
 refine wpAny_bind (wpAny_of_eq (a:=(Value.ref e,[Value.str "__class__" s.toks])) rfl ?_)
 refine wpAny_bind (wpAny_pure (a:=("__class__" :Str)) (wpAny_bind (T0 _ _ _ _ (fun _ _ y=>y) (wpAny_bind (l1 _ _ _ _ (fun _ _ y=>y) ?_)))))
 show wpAny _ _ (holding [Value.builtin "object.__class__"] (call (.builtin "getset_descriptor.__get__") [.builtin "object.__class__", .ref e, .ref C]) >>= ret) _ _ _
 refine wpAny_bind (wpAny_holding (wpAny_call (class_get (s:={ s with toks:=s.toks+1 }) (ox:=ox) (od:=od) X I (Z.mro (by decide+kernel)) ?_)))
 refine wpAny_pure ?_
 show wpAny _ _ (handedOut (Value.ref C)) _ _ _
 rw[handedOut_of rfl]
 exact wpAny_pure (wpAny_pure h)
theorem Bz(Z:b7 K C HE f)(ha:findIn K (.ref C) "__class__" =some (some (.builtin "object.__class__")))(hn:specialIn K (.builtin "object.__class__") "__get__" =some (some (.builtin "getset_descriptor.__get__")))(P5:takesIn K (.builtin "object.__class__")=some true):
  KitX K (.ref e) (.ref C) (fun h=>InstAt h e ox C od) where
 ty:=fun _ _ _ I=>I.type
 it:=fun _ _ X _=>by
  obtain⟨Y',DY,_⟩:=Z.cd
  unfold clsIn at DY
  split at DY
  ·rename_i c' d' Za Hi ho
   intro A' Q' E' s' k q
   unfold isType loadHead
   exact wpAny_bind (wpAny_loadPart (k _ _ (X _ _ ho)) (wpAny_pure q))
  ·cases DY
 ne:=fun h tp dd its n sl X Zb=>by
  obtain⟨Y',DY,_⟩:=Z.cd
  refine Bool.eq_false_iff.mpr fun q=>?_
  have e:C=tp:=Value.ref.inj (beq_iff_eq.mp q)
  subst e
  unfold clsIn at DY
  split at DY
  ·rename_i c' d' Za Hi ho
   have z:=(X _ _ ho).symm.trans Zb
   cases z
  ·cases DY
 ca:=fun X I k=>By X Z I (tL (by obtain⟨cd,hc,_⟩:=Z.cd;rw[hc];rfl) ha hn P5) k
end
end PySem.W
namespace L2
open PySem PySem.Spec PyProof.Rows
variable [gK]
def Ex(H:Hp)(e C:Addr):Prop:=H e=some (nP e C none)∨∃dx fs,H e=some (nP e C (some dx))∧H dx=some (xE dx fs)
structure Xj(K:PySem.W.Frag)(C:Addr):Prop where
 cls:PySem.W.findIn K (.ref C) "__class__" =some (some (.builtin "object.__class__"))
 get:PySem.W.specialIn K (.builtin "object.__class__") "__get__" =some (some (.builtin "getset_descriptor.__get__"))
 takes:PySem.W.takesIn K (.builtin "object.__class__")=some true
theorem bG{X:Cx}:gD X (.builtin "isinstance") (fun xs H Q=>∃e c cv C HE f b,xs=[.ref e,c]∧Ee c=some cv∧PySem.W.b7 X.K C HE f∧Xj X.K C∧Ex H e C∧PySem.W.kitOne X.K (.ref C) cv=some b∧Q (.bl b) H):=by
 intro pins s σ H xs us Q I r h
 obtain⟨e,c,cv,C,HE,f,b,rfl,hc,Z,Y,hE,ek,q⟩:=h
 obtain⟨u,v,rfl,ru,rv⟩:=vals2 r
 have hv:v=cv:=by
  cases c<;>simp only [Ee,Option.some.injEq,reduceCtorEq] at hc
  ·cases (show v=Value.ref _ from rv);exact hc
  ·cases (show v=Value.type _ from rv);exact hc
 subst hv
 cases (show u=Value.ref e from ru)
 have J:∃ob od,PySem.W.InstAt s.heap e ob C od:=by
  rcases hE with hx| ⟨dx,fs,hx,hd⟩
  ·obtain⟨ob,vs,h1,h2,h3,h4⟩:=nQ I.bq hx
   exact⟨ob,none,h1,h2,by unfold PySem.W.notCls;rw[h4],by rw[h3];trivial⟩
  ·obtain⟨ob,vs,h1,h2,h3,h4⟩:=nQ I.bq hx
   obtain⟨mA,n1,r1,w1⟩:=vQ I.bq hd
   obtain⟨od,ho,hl⟩:=ll n1
   exact⟨ob,some od,h1,h2,by unfold PySem.W.notCls;rw[h4],by rw[h3];exact ho⟩
 obtain⟨ob,od,J⟩:=J
 exact PySem.W.kia_one (PySem.W.Bz Z Y.cls Y.get Y.takes) I.fQ J ek (fun z=>nomatch z) fun tk=>⟨.bl b,H,I.tok tk,rfl,q⟩
end L2
namespace RW
open PySem PySem.Spec PySem.Builtin PySem.Builtin.Str
end RW
namespace L2
open PySem PySem.Spec PyProof.Rows
section
variable {X:Cx}
theorem o5:bootBuiltins "ValueError" =some (.type "ValueError"):=by decide+kernel
end
variable [gK]
section
variable {X:Cx}
theorem Ij(K:PySem.W.Frag)(hK:X.K=K){x n:Str}{np pos:Pos}{b0:Stmt}{iR:List Stmt}{rest:List ExceptHandler}{PC:Addr}{i:Nat}{ts:TS}{tr:Ends→St→XK}(hg:Gl X x)(hm:X.mg x=some (.ref PC))(Y:PySem.W.tJ K PC)(hN:X.N.Nodup)(hi:X.N[i]? =some n)
  (hl:X.env.scope.names.lookup n=some .local) (Ii:∀e,jJ (X.mark e) (b0::iR) ts) (hr:PH X rest tr) (hd:(x==("__debug__" :Str))=false:=by decide):
  PH X (.ExceptHandler (some (.Name x np)) (some n) (b0::iR) pos::rest) (LG K PC i ts tr):=by
 subst hK
 exact LH hg hm Y hN hi hl Ii hr hd
end
section
variable {P:Program}{w:World}{K:PySem.W.Frag}{mg:Str→Option Value}{base:Heap}
structure RX(P:Program)(w:World)(K:PySem.W.Frag)(mg:Str→Option Value)(base:Heap)(k:Nat)(x:Str)(ps:List Str)(sp:Sp)(f:Addr)(fd:FuncData):Prop where
 ok:eD P w K mg base (vR P w) k f fd ps sp
 kp:PySem.W.keepIn K (.ref f)=true
 b:Binds K fd ps []
 g:mg x=some (.ref f)
def tM(P:Program)(w:World)(K:PySem.W.Frag)(mg:Str→Option Value)(base:Heap)(k:Nat)(x:Str)(ps:List Str)(sp:Sp):Prop:=∃f fd,RX P w K mg base k x ps sp f fd
structure LJ(P:Program)(w:World)(K:PySem.W.Frag)(mg:Str→Option Value)(base:Heap)(k:Nat)(C:Addr)(m:Str)(ps:List Str)(sp:Sp)(f:Addr)(fd:FuncData):Prop where
 ok:eD P w K mg base (vR P w) k f fd ps sp
 m:Meth K C m f
 b:Binds K fd ps []
def a9(P:Program)(w:World)(K:PySem.W.Frag)(mg:Str→Option Value)(base:Heap)(k:Nat)(C:Addr)(m:Str)(ps:List Str)(sp:Sp):Prop:=∃f fd,LJ P w K mg base k C m ps sp f fd
theorem Def.g7{x q:Str}{st:Stmt}{N ps:List Str}{k:Nat}{sp:Sp}(D:Def K mg x q st ps)(S:ay N ps (ak st))(len:∀vs H Q E,sp vs H Q E→vs.length=ps.length)
  (cP:∀(f:Addr) (bo:Value) (A:Around) (outer:List Env) (s:Shared) (H:Hp) (vs:List V) (Q:VK) (E:XK),b8 k (A.deeper (envOfC q (ak st) s.heap.objs.size f bo))→sp vs H Q E→
   ∃t,jJ (Gq P w K mg base N q (ak st) f bo A outer s H E) (bg st) t∧t { nx:=fun _ H'=>Q .cn H',rt:=Q } (start N vs) H):tM P w K mg base (k+1) x ps sp:=by
 obtain⟨f,fd,F,b,g⟩:=D
 exact⟨f,fd,F.Gs S len (cP f),F.kp,b,g⟩
theorem bR.g7{C:Addr}{m q:Str}{st:Stmt}{N ps:List Str}{k:Nat}{sp:Sp}(D:bR K C m q st ps)(S:ay N ps (ak st))(len:∀vs H Q E,sp vs H Q E→vs.length=ps.length)
  (cP:∀(f:Addr) (bo:Value) (A:Around) (outer:List Env) (s:Shared) (H:Hp) (vs:List V) (Q:VK) (E:XK),b8 k (A.deeper (envOfC q (ak st) s.heap.objs.size f bo))→sp vs H Q E→
   ∃t,jJ (Gq P w K mg base N q (ak st) f bo A outer s H E) (bg st) t∧t { nx:=fun _ H'=>Q .cn H',rt:=Q } (start N vs) H):a9 P w K mg base (k+1) C m ps sp:=by
 obtain⟨f,fd,F,b,g⟩:=D
 exact⟨f,fd,F.Gs S len (cP f),g,b⟩
def lD(K:PySem.W.Frag)(mg:Str→Option Value)(x:Str)(C HE:Addr)(q:Str)(st:Stmt)(ps:List Str):Prop:=∃f fd,xw K "__init__" q st f fd∧PySem.W.b7 K C HE f∧Binds K fd ps []∧mg x=some (.ref C)∧PySem.W.keepIn K (.ref C)=true
structure LK(P:Program)(w:World)(K:PySem.W.Frag)(mg:Str→Option Value)(base:Heap)(k:Nat)(x:Str)(C HE:Addr)(ps:List Str)(sp:Sp)(f:Addr)(fd:FuncData):Prop where
 ok:eD P w K mg base mB k f fd ps sp
 z:PySem.W.b7 K C HE f
 b:Binds K fd ps []
 g:mg x=some (.ref C)
 kp:PySem.W.keepIn K (.ref C)=true
def gi(P:Program)(w:World)(K:PySem.W.Frag)(mg:Str→Option Value)(base:Heap)(k:Nat)(x:Str)(C HE:Addr)(ps:List Str)(sp:Sp):Prop:=∃f fd,LK P w K mg base k x C HE ps sp f fd
theorem lD.fW{x q:Str}{C HE:Addr}{st:Stmt}{N ps:List Str}{k:Nat}{sp:Sp}(D:lD K mg x C HE q st ps)(S:ay N ps (ak st))(len:∀vs H Q E,sp vs H Q E→vs.length=ps.length)
  (cP:∀(f:Addr) (bo:Value) (A:Around) (outer:List Env) (s:Shared) (H:Hp) (vs:List V) (Q:VK) (E:XK),b8 k (A.deeper (envOfC q (ak st) s.heap.objs.size f bo))→sp vs H Q E→
   ∃t,jJ (fR mB P w K mg base N q (ak st) f bo A outer s H E).DA (bg st) t∧t { nx:=fun _ H'=>Q .cn H',rt:=Q } (start N vs) H):gi P w K mg base (k+1) x C HE ps sp:=by
 obtain⟨f,fd,F,Z,b,g,kp⟩:=D
 exact⟨f,fd,F.ok S len (cP f),Z,b,g,kp⟩
end
end L2
namespace RW
open PySem PySem.Spec PySem.Calls PyProof.Rows
section
variable {prog:Program}{w:World}{A:Around}{I:Addr}{fp wr:List Addr}{n:Nat}{P:Nat→Value→Prop}{St:Nat→Heap→Prop}
end
section
variable {prog:Program}{w:World}{A:Around}{E:Value→Shared→Prop}{s:Shared}{l:Addr}{xs:Array (Int×Tok)}{d:Value}
end
end RW
namespace L2
open PySem PySem.Spec PyProof.Rows
section
variable {X:Cx}
end
end L2
namespace L2
open PySem PySem.Spec
section
variable {X:Cx}
end
end L2
namespace L2
open PySem PySem.Spec
theorem bu{K:PySem.W.Frag}{C P:Addr}(h1:PySem.W.isClsIn K P=true)(h2:PySem.W.typeIn K (.ref P)=some (.type "type"))(h3:PySem.W.mroIn K C (.ref P)=some false)(h4:PySem.W.mroIn K C (.ref C)=some true):PySem.W.kitOne K (.ref C) (.ref P)=some false:=by
 have jc:¬(Value.ref C==Value.ref P)=true:=fun e=>by
  have e:Value.ref C=Value.ref P:=by simpa using e
  rw[←e,h4] at h3
  cases h3
 unfold PySem.W.kitOne
 rw[if_neg jc]
 unfold PySem.W.kitCls
 dsimp only
 rw[if_pos (by rw[show (PySem.W.clsIn K P).isSome=true from h1,h2,Bool.true_and];decide+kernel)]
 exact h3
theorem qQ{K:PySem.W.Frag}{C HE f:Addr}(Z:PySem.W.b7 K C HE f):PySem.W.kitOne K (.ref C) (.type "ValueError")=some true:=by
 unfold PySem.W.kitOne
 rw[if_neg (by simp)]
 unfold PySem.W.kitCls
 dsimp only
 rw[if_pos (by decide+kernel)]
 exact Z.mro (by decide+kernel)
theorem nW{K:PySem.W.Frag}(v:Value):PySem.W.kitOne K v v=some true:=by
 unfold PySem.W.kitOne
 rw[if_pos (by simp)]
end L2
namespace L2
open PySem PySem.Spec PyProof.Rows
theorem Xk{p:List Value→Prop}(us:List Value)(e:us.length=1)(h:∀a,p [a]):p us:=by
 cases us with
 |nil=>cases e
 |cons a us=>cases us with
  |nil=>exact h a
  |cons b us=>simp at e
theorem ln2{p:List Value→Prop}(us:List Value)(e:us.length=2)(h:∀a b,p [a,b]):p us:=by
 cases us with
 |nil=>cases e
 |cons a us=>exact Xk (p:=fun us=>p (a::us)) us (by simpa using e) (h a)
theorem Xl{p:List Value→Prop}(us:List Value)(e:us.length=3)(h:∀a b c,p [a,b,c]):p us:=by
 cases us with
 |nil=>cases e
 |cons a us=>exact ln2 (p:=fun us=>p (a::us)) us (by simpa using e) (h a)
section
variable {K:PySem.W.Frag}{h:Heap}{mg:Str→Option Value}{x m q:Str}{st:Stmt}{ps:List Str}{f C HE:Addr}
def dQ(K:PySem.W.Frag)(x q:Str)(st:Stmt)(f:Addr):Prop:=(∃fd,xw K x q st f fd)∧PySem.W.isFn K (.ref f)=true
def BB(x q:Str)(st:Stmt)(ps:List Str)(kV doc pm:Value)(an:Option Addr)(bo ct:Value)(us:List Value):Prop:=bindArgs (PySem.W.fnOf x q (bI st) (bg st) (ak st) .none kV doc pm an bo ct) ⟨us,[]⟩=pure (ps.zip us)
def BA(x q:Str)(st:Stmt)(ps:List Str):Prop:=∀(kV doc pm:Value) (an:Option Addr) (bo ct:Value) (us:List Value),us.length=ps.length→BB x q st ps kV doc pm an bo ct us
theorem iS{p0:Str}(h:∀(kV doc pm:Value) (an:Option Addr) (bo ct u0:Value),BB x q st [p0] kV doc pm an bo ct [u0]):BA x q st [p0]:=fun kV doc pm an bo ct us hl=>Xk (p:=BB x q st [p0] kV doc pm an bo ct) us hl (h kV doc pm an bo ct)
theorem vj{p0 p1:Str}(h:∀(kV doc pm:Value) (an:Option Addr) (bo ct u0 u1:Value),BB x q st [p0,p1] kV doc pm an bo ct [u0,u1]):BA x q st [p0,p1]:=fun kV doc pm an bo ct us hl=>ln2 (p:=BB x q st [p0,p1] kV doc pm an bo ct) us hl (h kV doc pm an bo ct)
theorem RY{p0 p1 p2:Str}(h:∀(kV doc pm:Value) (an:Option Addr) (bo ct u0 u1 u2:Value),BB x q st [p0,p1,p2] kV doc pm an bo ct [u0,u1,u2]):BA x q st [p0,p1,p2]:=fun kV doc pm an bo ct us hl=>Xl (p:=BB x q st [p0,p1,p2] kV doc pm an bo ct) us hl (h kV doc pm an bo ct)
theorem dN{N P:List Str}{sc:Scope}(a:sc.kind= .function:=by rfl)(b:sc.isCoroutine=false:=by rfl)(c:sc.isGenerator=false:=by rfl)(d:N.Nodup:=by decide+kernel)(e:N.take P.length=P:=by rfl)(f:∀x∈P,sc.names.lookup x=some .local∨sc.names.lookup x=some .cell:=by decide+kernel)(g:∀y∈sc.names,y.2≠ .free:=by decide+kernel):ay N P sc:=⟨a,b,c,d,e,f,g⟩
theorem cy(X:K.In h)(G:h.Ns mainGlobals mg)(a:PySem.W.nsIn K mainGlobals x=some (some (.ref f)))(l:dQ K x q st f)(b:BA x q st ps):Def K mg x q st ps:=by
 obtain⟨⟨fd,F⟩,_⟩:=l
 exact⟨f,fd,F,F.binds b,PySem.W.mg_of X G a⟩
theorem dq(a:PySem.W.findIn K (.ref C) m=some (some (.ref f)))(l:dQ K m q st f)(b:BA m q st ps):bR K C m q st ps:=by
 obtain⟨⟨fd,F⟩,i⟩:=l
 exact⟨f,fd,F,F.binds b,⟨a,i,F.kp⟩⟩
theorem Gw(k:PySem.W.makesIn K C=true)(a:PySem.W.findIn K (.ref C) "__init__" =some (some (.ref f)))(kc:PySem.W.keepIn K (.ref C)=true)(l:dQ K "__init__" q st f)(b:BA "__init__" q st ps):jO K C q st ps []:=by
 obtain⟨⟨fd,F⟩,i⟩:=l
 exact⟨f,fd, .none,⟨F.ex,F.kp⟩,⟨k,a,i,kc⟩,fun j _=>⟨[],by rw[List.drop_nil];exact .nil,F.binds b⟩⟩
theorem xI(Z:PySem.W.b7 K C HE f)(g:mg x=some (.ref C))(kc:PySem.W.keepIn K (.ref C)=true)(l:dQ K "__init__" q st f)(b:BA "__init__" q st ps):lD K mg x C HE q st ps:=by
 obtain⟨⟨fd,F⟩,i⟩:=l
 exact⟨f,fd,F,Z,F.binds b,g,kc⟩
end
end L2
namespace L2
open PySem PySem.Spec PyProof.Rows PySem.W PySem.Calls
section
variable {prog:Program}{w:World}{κ:Type}[DecidableEq κ]{knd:KeyKind prog w κ}{A:Around}{E:Value→Shared→Prop}{s:Shared}{d it:Addr}{i ep:Nat}{kvs:List (κ×Value)}
end
section
variable {X:Cx}
end
end L2
namespace L2
open PySem PySem.Spec PyProof.Rows
end L2
namespace L2
open PySem PySem.Spec
variable [gK]
theorem BC{X:Cx}{f:Str}{ex:Expr}{ta:TE}{pos:Pos}(K:PySem.W.Frag)(hK:X.K=K)(he:PE X ex ta)(hb:attributeBase ex f X.env (eval ex X.env)=eval ex X.env):PE X (.Attribute ex f pos) (Gv K ta f):=by
 subst hK
 exact km he hb
end L2
namespace L2
open PySem PySem.Spec PyProof.Rows PySem.W
section
variable {X:Cx}
end
end L2
namespace L2
open PySem PySem.Spec PyProof.Rows
variable [gK]
section
variable {prog:Program}{w:World}{A:Around}{R:Result→Shared→Prop}{s:Shared}
end
section
variable {X:Cx}{elt tg iter:Expr}{ifs:List Expr}{scope:Scope}{pos:Pos}{N:List Str}{fr:List (Option Nat)}{cl:List (Str×Addr)}{wi:TI}{g:TG}{tt:TT}{te:TE}
variable {teX:(St→XK)→TE}{ER:St→XK}
variable {Ly py:Pos}
end
end L2
namespace L2
open PySem PySem.Spec PyProof.Rows
section
variable {X:Cx}{e o:Expr}{es:List Expr}{t:TA}{ta:TE}{x m:Str}{ps:List Str}{sp:Sp}{f C:Addr}{fd:FuncData}{k n:Nat}{p apos pos:Pos}
end
end L2
namespace L2
open PySem
theorem Qg{p:Nat→Prop}(a:p 0)(b:p 1)(j:Nat)(h:j≤1):p j:=by
 cases j with
 |zero=>exact a
 |succ j=>cases j with
  |zero=>exact b
  |succ j=>omega
theorem Qh{K:PySem.W.Frag}{fd:FuncData}{ps:List Str}{ds:List Value}(l:ps.length=2+ds.length)(h:∀s a b,K.In s.heap→BindsTo s fd ⟨[a,b],[]⟩ (ps.zip ([a,b]++ds))):Binds K fd ps ds:=fun s us hk hl=>ln2 (p:=fun us=>BindsTo s fd ⟨us,[]⟩ (ps.zip (us++ds))) us (by rw[List.length_append] at hl;omega) fun a b=>h s a b hk
theorem Qi{K:PySem.W.Frag}{fd:FuncData}{ps:List Str}{ds:List Value}(l:ps.length=3+ds.length)(h:∀s a b c,K.In s.heap→BindsTo s fd ⟨[a,b,c],[]⟩ (ps.zip ([a,b,c]++ds))):Binds K fd ps ds:=fun s us hk hl=>Xl (p:=fun us=>BindsTo s fd ⟨us,[]⟩ (ps.zip (us++ds))) us (by rw[List.length_append] at hl;omega) fun a b c=>h s a b c hk
end L2
namespace L2
open PySem PySem.Spec PyProof.Rows
section
variable {X:Cx}{o:Expr}{to:TE}{apos gJ:Pos}
def LL(f:Str→Bool)(to:TE):TE:=fun σ H Q=>to σ H fun x H1=>∃z,x= .str z∧Q (.bl (f z)) H1
theorem xJ(a:Array Nat):∀(n:Nat) (acc:Array Nat),((List.replicate n a).foldl (·++·) acc).size=acc.size+a.size*n
 |0,acc=>by simp
 |n+1,acc=>by
  rw[List.replicate_succ,List.foldl_cons,xJ a n,Array.size_append,Nat.mul_succ]
  omega
end
end L2
namespace L2
open PySem PySem.Spec PyProof.Rows
section
variable {X:Cx}
def Ey:V→List V→Hp→VK→Prop:=fun x vs H Q=>∃z y:Str,x= .str z∧vs=[.str y]∧z.length≤sizeLine∧Q (.str (Txt.rstripChars z y)) H
theorem zI:Kj X "str.rstrip" Ey:=by
 intro pins s σ H x vs v us Q I rx rv h
 obtain⟨z,y,rfl,rfl,hz,q⟩:=h
 obtain⟨t,rfl⟩:=(show∃t,v=Value.str z t from rx)
 obtain⟨u,rfl,ru⟩:=rv.one
 obtain⟨t2,rfl⟩:=(show∃t,u=Value.str y t from ru)
 exact SC.rstripChars (fun t' k=>⟨.str _,H,I.tok k,⟨t',rfl⟩,q⟩) hz
def Ik:V→List V→Hp→VK→Prop:=fun x vs H Q=>∃z y:Str,x= .str z∧vs=[.str y]∧Q (.int (Txt.count z y)) H
theorem kn:Kj X "str.count" Ik:=by
 intro pins s σ H x vs v us Q I rx rv h
 obtain⟨z,y,rfl,rfl,q⟩:=h
 obtain⟨t,rfl⟩:=(show∃t,v=Value.str z t from rx)
 obtain⟨u,rfl,ru⟩:=rv.one
 obtain⟨t2,rfl⟩:=(show∃t,u=Value.str y t from ru)
 exact SC.count ⟨.int _,H,I.tok _,⟨_,rfl⟩,q⟩
end
end L2
namespace PySem
section
variable {prog:Program}{w:World}{A:Around}{E:Value→Shared→Prop}{s:Shared}
end
namespace F
end F
section
variable {prog:Program}{w:World}{K:Type}[DecidableEq K]{knd:KeyKind prog w K}{A:Around}{E:Value→Shared→Prop}{s:Shared}
end
end PySem
namespace L2
open PySem PySem.Spec PyProof.Rows
end L2
namespace PySem.W
open PySem PySem.Calls PyProof.Rows
section
variable {prog:Program}{w:World}{A:Around}{E:Value→Shared→Prop}{s:Shared}{K:Frag}{env:Env}
theorem o6:entryFor table "proto.unchain" =some Builtin.«proto.unchain» :=entryFor_of_tree (by kernel_rfl)
theorem zJ{x c:Sem Value}{Q:Flow→Shared→Prop}{e':Addr}(ha:A.handled=some (.ref e'))
  (k:wpAny (model prog w) A x (fun v s1=>wpAny (model prog w) A c (fun u s2=>u= .none∧∃e oe vs C HE f RZ sC,v= .ref e∧e≠e'∧K.In s2.heap∧b7 K C HE f∧s2.heap.get? e=some oe∧oe.cls= .ref C∧oe.data= .fields vs∧vs[1]? =some .none∧vs.size=6∧
   s2.heap.get? e'=some RZ∧RZ.data= .fields sC∧sC[2]? =some .none∧
   ∀h',h'.get? e=some { oe with data:= .fields (((vs.setIfInBounds 3 .none).setIfInBounds 4 (.bool true)).setIfInBounds 2 (.ref e')) }→(∀b o,b≠e→s2.heap.get? b=some o→h'.get? b=some o)→h'.objs.size=s2.heap.objs.size→E (.ref e) { s2 with heap:=h' }) E s1) E s):
  wpAny (model prog w) A (raiseStmt env (some x) (some c)) Q E s:=by
 unfold raiseStmt
 refine wpAny_bind (wpAny_mono k (fun v s1 y=>?_) fun _ _ y=>y)
 refine wpAny_bind (wpAny_holding (wpAny_mono y (fun u s2 y=>wpAny_bind (wpAny_pure ?_)) fun _ _ y=>y))
 obtain⟨rfl,e,oe,vs,C,HE,f,RZ,sC,rfl,ne,X,Z,he,hc,hd,h1,hz,tE,qt,Zc,hE⟩:=y
 have cB:(Value.ref C:: .ref HE::oY).contains (.type "BaseException")=true:=fX (by decide+kernel)
 obtain⟨nm,q,N,bs,sn,sub,ab,col,dd,k0,k1,k2,k3,k5,hK⟩:=Z.obj
 have kC:=X _ _ hK
 obtain⟨hp,g,d,tk,os⟩:=s2
 obtain⟨oc,Km,Qe,mw⟩:=oe
 dsimp only at hc hd
 subst hc hd
 refine wpAny_bind (wpAny_holding ?_)
 repeat (first|with_reducible refine wpAny_loadPart_at he ?_|with_reducible refine wpAny_loadPart_at kC ?_| (with_reducible refine wpAny_isSubtype_exc kC ?_;rw[cB]) |wp_step)
 have nC:C≠e:=fun z=>by
  rw[z,he] at kC
  cases kC
 generalize hG:(hp.update e (Obj.mapFields fun x=>x.setIfInBounds 3 Value.none)).update e (Obj.mapFields fun x=>x.setIfInBounds 4 (Value.bool true))=G
 have g0:=Heap.get?_update_self (Obj.mapFields (·.setIfInBounds 3 Value.none)) he (Obj.isFreed_of_fields (Obj.data_mapFields rfl _))
 have ge:G.get? e=some { cls:= .ref C,dict:=Km,data:= .fields ((vs.setIfInBounds 3 .none).setIfInBounds 4 (.bool true)),slots:=mw }:=by
  rw[←hG]
  exact Heap.get?_update_self (Obj.mapFields (·.setIfInBounds 4 (Value.bool true))) g0 (Obj.isFreed_of_fields (Obj.data_mapFields rfl _))
 have go:∀b o,b≠e→hp.get? b=some o→G.get? b=some o:=fun b o be q=>by
  rw[←hG]
  exact(Heap.get?_update_other _ _ (Ne.symm be)).trans ((Heap.get?_update_other _ _ (Ne.symm be)).trans q)
 have gz:G.objs.size=hp.objs.size:=by
  rw[←hG,Heap.size_after_update,Heap.size_after_update]
 have gC:=go _ _ nC kC
 have Zd:=go _ _ (Ne.symm ne) tE
 repeat (first|with_reducible refine wpAny_loadPart_at ge ?_|with_reducible refine wpAny_loadPart_at gC ?_|wp_step)
 rw[show ((vs.setIfInBounds 3 Value.none).setIfInBounds 4 (Value.bool true))[1]? =some .none from by rw[Array.getElem?_setIfInBounds_ne (by decide),Array.getElem?_setIfInBounds_ne (by decide)];exact h1]
 refine wpAny_pure ?_
 rw[if_neg (by decide)]
 refine wpAny_pure ?_
 unfold raiseNew
 refine wpAny_bind (wpAny_handled ?_)
 rw[ha]
 dsimp only
 rw[if_pos (show (Value.ref e' != Value.ref e)=true from by simp [Ne.symm ne])]
 refine wpAny_bind (wpAny_holding (wpAny_runValue (codeAny_builtin o6 ?_)))
 unfold Builtin.«proto.unchain»
 dsimp only
 refine wpAny_bind (wpAny_field Zd qt Zc ?_)
 rw[if_pos (by decide)]
 refine wpAny_pure ?_
 show wpAny (model prog w) A (do
  setField (.ref e) 2 (Value.ref e')
  throw (Value.ref e)) Q E _
 refine wpAny_bind (wpAny_setField ge rfl (by rw[Array.size_setIfInBounds,Array.size_setIfInBounds,hz];decide) (wpAny_throw ?_))
 refine hE _ ?_ (fun b o be q=>(Heap.get?_update_other _ _ (Ne.symm be)).trans (go b o be q)) (by rw[Heap.size_after_update];exact gz)
 exact Heap.get?_update_self (Obj.mapFields (·.setIfInBounds 2 (Value.ref e'))) ge (Obj.isFreed_of_fields (Obj.data_mapFields rfl _))
end
end PySem.W
namespace L2
open PySem PySem.Spec PyProof.Rows
variable [gK]
section
variable {P:Program}{w:World}{K:PySem.W.Frag}{mg:Str→Option Value}{base:Heap}
structure xK(P:Program)(w:World)(K:PySem.W.Frag)(mg:Str→Option Value)(base:Heap)(k:Nat)(f:Addr)(fd:FuncData)(ps:List Str)(sp:Sp):Prop where
 len:∀vs H Q E,sp vs H Q E→vs.length=ps.length
 run:∀(e:Addr) (A:Around) (outer:List Env) (s:Shared) (H:Hp) (args:Args) (us:List Value) (vs:List V) (Q:VK) (E:XK),b8 k A→qA P w K mg base A outer s H→BindsTo s fd args (ps.zip us)→Vals vs us→sp vs H Q E→
  codeAny (model P w) (A.mark (some (.ref e))) (.call (.ref f) args) (CR mB outer P w H s Q E) s
theorem xw.Ze{x qual:Str}{st:Stmt}{f:Addr}{fd:FuncData}{N ps:List Str}{k:Nat}{sp:Sp}(F:xw K x qual st f fd)(S:ay N ps (ak st))(len:∀vs H Q E,sp vs H Q E→vs.length=ps.length)
  (cP:∀(e:Addr) (bo:Value) (A:Around) (outer:List Env) (s:Shared) (H:Hp) (vs:List V) (Q:VK) (E:XK),b8 k (A.deeper (envOfC qual (ak st) s.heap.objs.size f bo))→sp vs H Q E→
   ∃t,jJ ((fR mB P w K mg base N qual (ak st) f bo A outer s H E).mark e) (bg st) t∧t { nx:=fun _ H'=>Q .cn H',rt:=Q } (start N vs) H):xK P w K mg base (k+1) f fd ps sp:=by
 obtain⟨oc,od,kV,doc,pm,an,bo,ct,mw,rfl,lk,me⟩:=F.ex
 refine⟨len,fun e A outer s H args us vs Q E hr e0 hb r vH=>?_⟩
 have hl:=len _ _ _ _ vH
 have KX:K.In s.heap:=e0.mod.DR.keeps fun b o e=>(e0.bs b o e).1
 have lim:s.heap.NoLimit:=e0.mod.nolimit.keeps fun b o e=>(e0.bs b o e).1
 have A6:∀y∈ps.zip us,(ak st).names.lookup y.1=some .local∨((ak st).names.lookup y.1=some .cell∧((cellsFrom (s.heap.objs.size+1) (ak st).names []).lookup y.1).isSome=true):=fun⟨n,v⟩ hy=>by
  rcases S.par n (List.of_mem_zip hy).1 with q|q
  ·exact .inl q
  ·exact .inr ⟨q,PySem.W.cellsFrom_some _ _ _ (.inl q)⟩
 refine codeAny_call_function (A:=A.mark (some (.ref e))) hr.depth (KX _ _ lk) rfl S.co S.gen rfl (PySem.W.codeRec_of KX me) (hb _ _ _ _ ?_)
 refine wpAny_newFunctionEnv_cells S.kind A6 fun env he s1 x=>?_
 subst he
 refine⟨lim.keeps x.toInCall.keep,codeAny_func ?_⟩
 obtain⟨t,ht,hq⟩:=cP e bo A outer s H vs Q E (hr.deeper _) vH
 have I:Inv (fR mB P w K mg base N qual (ak st) f bo A outer s H E) [] (start N vs) H s1:=pG S hr.hd e0 hl r x
 refine wpAny_mono (ht [] s1 (start N vs) H _ (I.mark e) hq) (fun fl s' hs=>?_) fun e s' hs=>False.elim hs
 have fin:∀{σ':St} {H':Hp} {v:V} {u:Value},Inv ((fR mB P w K mg base N qual (ak st) f bo A outer s H E).mark e) [] σ' H' s'→RelV v u→Q v H'→CE outer P w H s Q u s':=
  fun {σ' H' v u} J rv q=>⟨v,H',J.os,J.bare,J.base,J.bq,rv,q⟩
 cases fl with
 |ret u=>
  obtain⟨v,σ',H',J,rv,q⟩:=hs
  exact fin J rv q
 |next=>
  obtain⟨σ',H',J,q⟩:=hs
  exact fin (v:=V.cn) (u:=Value.none) J rfl q
 |brk=>
  obtain⟨_,_,_,q⟩:=hs
  exact False.elim q
 |cont=>
  obtain⟨_,_,_,q⟩:=hs
  exact False.elim q
structure LM(P:Program)(w:World)(K:PySem.W.Frag)(mg:Str→Option Value)(base:Heap)(k:Nat)(x:Str)(C HE:Addr)(ps:List Str)(sp:Sp)(f:Addr)(fd:FuncData):Prop where
 ok:xK P w K mg base k f fd ps sp
 z:PySem.W.b7 K C HE f
 b:Binds K fd ps []
 g:mg x=some (.ref C)
 kp:PySem.W.keepIn K (.ref C)=true
def vS(P:Program)(w:World)(K:PySem.W.Frag)(mg:Str→Option Value)(base:Heap)(k:Nat)(x:Str)(C HE:Addr)(ps:List Str)(sp:Sp):Prop:=∃f fd,LM P w K mg base k x C HE ps sp f fd
theorem lD.R0{x q:Str}{C HE:Addr}{st:Stmt}{N ps:List Str}{k:Nat}{sp:Sp}(D:lD K mg x C HE q st ps)(S:ay N ps (ak st))(len:∀vs H Q E,sp vs H Q E→vs.length=ps.length)
  (cP:∀(f e:Addr) (bo:Value) (A:Around) (outer:List Env) (s:Shared) (H:Hp) (vs:List V) (Q:VK) (E:XK),b8 k (A.deeper (envOfC q (ak st) s.heap.objs.size f bo))→sp vs H Q E→
   ∃t,jJ ((fR mB P w K mg base N q (ak st) f bo A outer s H E).mark e) (bg st) t∧t { nx:=fun _ H'=>Q .cn H',rt:=Q } (start N vs) H):vS P w K mg base (k+1) x C HE ps sp:=by
 obtain⟨f,fd,F,Z,b,g,kp⟩:=D
 exact⟨f,fd,F.Ze S len (cP f),Z,b,g,kp⟩
end
end L2
namespace L2
open PySem PySem.Spec PyProof.Rows
variable [gK]
section
variable {X Y:Cx}{k:Nat}{f C:Addr}{fd:FuncData}{ps:List Str}{sp:Sp}{ER:St→XK}{x:Str}{p pos:Pos}{e:Expr}{es:List Expr}{t:TA}{A0:Around}{e':Addr}
theorem zK{HE:Addr}{pins:List (Addr×Obj)}{σ:St}{H:Hp}{s:Shared}{Q:VK}{us:List Value}{vs:List V}(hA:Y.A=A0.mark (some (.ref e')))(Z:PySem.W.b7 Y.K C HE f)(F:xK Y.prog Y.w Y.K Y.mg Y.base k f fd ps sp)(hr:b8 (k+1) A0)(hb:Binds Y.K fd ps [])
  (I:Inv Y pins σ H s) (r:Vals vs us) (hz:vs.length≤100) (h:∀x,H x=none→sp (.ref x::vs) (upd H x (oZ x C none)) (fun v H2=>v= .cn∧Q (.ref x) H2) E0):
  wpAny (model Y.prog Y.w) Y.A (call (.ref C) us) (EP Y pins σ Q) Y.xe s:=by
 have hq:=h (s.heap.objs.size+1) (I.bq.fresh (Nat.le_succ _))
 have e2:((s.heap.push (PySem.W.jz us)).push (PySem.W.iQ C s.heap.objs.size)).get? (s.heap.objs.size+1)=some (PySem.W.iQ C s.heap.objs.size):=by
  have:=Heap.get?_push_size (s.heap.push (PySem.W.jz us)) (o:=PySem.W.iQ C s.heap.objs.size) rfl
  rwa [Heap.size_push] at this
 have I2:Inv Y pins σ (upd H (s.heap.objs.size+1) (oZ (s.heap.objs.size+1) C none)) { s with heap:=(s.heap.push (PySem.W.jz us)).push (PySem.W.iQ C s.heap.objs.size) }:=
  I.laid (a:=s.heap.objs.size+1) (t':=s.toks) (fun b u q=>Heap.get?_push_of_some _ (Heap.get?_push_of_some _ q)) (Nat.le_succ _) (xG e2 rfl rfl rfl rfl ⟨rfl,rfl⟩)
 have r2:Vals (V.ref (s.heap.objs.size+1)::vs) (Value.ref (s.heap.objs.size+1)::us):= .cons rfl r
 have hl:(Value.ref (s.heap.objs.size+1)::us++[]).length=ps.length:=by
  have e:=r2.length
  rw[F.len _ _ _ _ hq] at e
  rw[List.append_nil]
  exact e.symm
 have LC:us.length≤sizeLine:=by
  rw[←r.length]
  exact Nat.le_trans hz (by rw[sizeLine_eq];decide)
 have DF:=hb { s with heap:=(s.heap.push (PySem.W.jz us)).push (PySem.W.iQ C s.heap.objs.size) } (Value.ref (s.heap.objs.size+1)::us) I2.fQ hl
 rw[List.append_nil] at DF
 have e0:=I2.A3
 rw[hA] at e0 ⊢
 have Zf:qA Y.prog Y.w Y.K Y.mg Y.base A0 Y.stack { s with heap:=(s.heap.push (PySem.W.jz us)).push (PySem.W.iQ C s.heap.objs.size) } (upd H (s.heap.objs.size+1) (oZ (s.heap.objs.size+1) C none)):=⟨e0.frames,e0.mod,e0.bs,e0.xn,e0.iy,e0.Aw,e0.bq,e0.bare⟩
 refine wpAny_call (PySem.W.xD I.fQ Z LC (codeAny_mono (F.run e' (A0.under (.builtin "type.__call__" ⟨.ref C::us,[]⟩)) Y.stack _ _ ⟨Value.ref (s.heap.objs.size+1)::us,[]⟩ (Value.ref (s.heap.objs.size+1)::us) _ _ E0 (hr.make C us []) (Zf.make C us []) DF r2 hq) fun r s' iJ=>?_))
 cases r with
 |error e=>exact False.elim iJ
 |ok fl=>
  cases fl with
  |ret u=>
   obtain⟨v,H',I3,rv,ev,q3⟩:=I2.after iJ
   subst ev
   exact⟨rv,⟨V.ref (s.heap.objs.size+1),H',I3,rfl,q3⟩⟩
  |next=>exact False.elim iJ
  |brk=>exact False.elim iJ
  |cont=>exact False.elim iJ
theorem BD{HE:Addr}(hA:Y.A=A0.mark (some (.ref e')))(Z:PySem.W.b7 Y.K C HE f)(F:xK Y.prog Y.w Y.K Y.mg Y.base k f fd ps sp)(hr:b8 (k+1) A0)(hg:Gl Y x)(hm:Y.mg x=some (.ref C))(hk:PySem.W.keepIn Y.K (.ref C)=true)(hb:Binds Y.K fd ps [])
  (ha:PA Y (e::es) t) (zh:(x==("__debug__" :Str))=false:=by decide) (he:starEach (e::es) Y.env=(false,eval e Y.env)::starEach es Y.env:=by rfl) (mf:(backTo pos (starEach es Y.env)).any (·.1)=false:=by rfl):
  PE Y (.Call (.Name x p) (e::es) [] pos) (Bu C sp t):=by
 intro pins s σ H Q I h
 refine wpAny_Call_Name_kw (eV I hg hm ?_ zh)
 refine PySem.W.callWith_K (h₀:=Y.base) I.ok.mod.DR hk (bU (ha pos pins s σ H _ I h) fun us s1 ⟨vs,H1,I1,r,q⟩=>⟨I1.fQ,?_⟩) he mf
 exact zK hA Z F hr hb I1 r q.1 q.2
def xM(K:PySem.W.Frag)(e':Addr)(te:TE)(ER:St→XK):TS:=fun _ σ H=>te σ H fun v H1=>∃e C HE f dx C' cX,v= .ref e∧PySem.W.b7 K C HE f∧H1 e=some (oZ e C dx)∧gK.tF C∧e≠e'∧H1 e'=some (nP e' C' cX)∧¬gK.tF C'∧ER σ (.ref C) dx (upd H1 e (nP e C dx))
theorem zL{ex:Expr}{te:TE}{cj:Nat}{cp:Pos}(hA:Y.A.handled=some (.ref e'))(L:Lets Y ER)(he:PE Y ex te):PS Y (.Raise (some ex) (some (.Constant .none cj cp)) pos) (xM Y.K e' te ER):=by
 intro pins s σ H D I h
 rw[arm_exec_Raise]
 refine wpAny_bind (wpAny_standAt (PySem.W.zJ (K:=Y.K) hA (wpAny_bind (bU (he pins s σ H _ I h) fun u s1 ⟨v,H1,I1,rv,e,C,HE,f,dx,C',cX,ev,Z,hx,lC,ne,P',nl,q⟩=>wpAny_bind (wpAny_standAt (wpAny_pure ?_))))))
 subst ev
 obtain rfl:u=Value.ref e:=rv
 refine wpAny_bind (bU (k9 (X:=Y) (j:=cj) (pos:=cp) pins s1 σ H1 (fun w H2=>w= .cn∧H2=H1) I1 ⟨rfl,rfl⟩) fun u2 s2 ⟨w2,H2,I2,Zg,ew,eH⟩=>wpAny_bind (wpAny_standAt (wpAny_pure ?_)))
 subst ew eH
 obtain⟨o,vs,h1,h2,h3,h4,h5,h6⟩:=nR I2.bq hx
 obtain⟨o',sC,g1,g2,g3,g4,g5⟩:=vP I2.bq P'
 refine⟨Zg,e,o,vs,C,HE,f,o',sC,rfl,ne,I2.fQ,Z,h1,h2,h4,h5,h6.2,g1,g4,g5.resolve_right nl,fun h' k1 k2 k3=>L _ _ ⟨e,C,dx,σ,_,none,rfl,?_,ag,⟨⟨_,_,k1,rfl,?_⟩,fun T z=>by cases z⟩,fun T z=>(by cases z),q⟩⟩
 ·have J:=I2.tG.write (x:=e) (e:=e) (o:=nP e C dx) (h':=h') (t':=s2.toks) (by rw[hx];exact True.intro) (.inl rfl) (fun b u be q=>k2 b u be q) ⟨_,k1⟩ (xF k1 h2 h3 rfl (.inr lC))
  exact J
 ·rw[Array.getElem?_setIfInBounds_ne (by decide),Array.getElem?_setIfInBounds_ne (by decide),Array.getElem?_setIfInBounds_ne (by decide)]
  exact h5
theorem vT(K:PySem.W.Frag)(hK:Y.K=K){ex:Expr}{te:TE}{cj:Nat}{cp:Pos}(hA:Y.A.handled=some (.ref e'))(L:Lets Y ER)(he:PE Y ex te):PS Y (.Raise (some ex) (some (.Constant .none cj cp)) pos) (xM K e' te ER):=by
 subst hK
 exact zL hA L he
end
section
variable {X:Cx}{pins:List (Addr×Obj)}{σ:St}{H:Hp}{s:Shared}{ER:St→XK}
def Xm(e C:Addr)(dx:Option Addr)(p:Array Value→Prop):HO:= .ext fun h=>∃o vs,h.get? e=some o∧o.cls= .ref C∧o.dict=dx∧o.data= .fields vs∧p vs
theorem LN{P:Program}{w:World}{h:Heap}{e C:Addr}{od:Option Addr}{o:Obj}{vs:Array Value}{p:Array Value→Prop}(he:h.get? e=some o)(hc:o.cls= .ref C)(hd:o.dict=od)(hf:o.data= .fields vs)(hp:p vs):bQ P w H h e (Xm e C od p):=
 ⟨⟨o,vs,he,hc,hd,hf,hp⟩,⟨o,he⟩,fun _ _ ⟨o,vs,a,b⟩ k=>⟨o,vs,k _ a,b⟩⟩
theorem vU{i:Nat}{n:Str}{pos:Pos}{Q:Unit→Shared→Prop}{A:Around}{E:Value→Shared→Prop}{e C T:Addr}{dx:Option Addr}(I:Inv X [] σ H s)(he:H e=some (nP e C dx))(fl:s.heap.jP e (some T))(hT:H T=none)(nT:gL X T)(hN:X.N.Nodup)(hi:X.N[i]? =some n)(hl:X.env.scope.names.lookup n=some .local)
  (k:∀s',Inv X [] (σ.set i none) H s'→s'.heap.jP e (some T)→Q () s'):wpAny (model X.prog X.w) A (do bindName X.env n .none;unbindBehindTheSuite X.env n pos) Q E s:=by
 obtain⟨o,vs,h1,h2,h3,h4,h5⟩:=vP I.bq he
 obtain⟨oe,vs2,f1,f2,f3⟩:=fl.ex
 rw[h1] at f1
 cases f1
 rw[h4] at f2
 cases f2
 obtain⟨neT,oT,ts,t1,t2,t3⟩:=fl.tr T rfl
 have J:=I.write (x:=e) (e:=e) (o:=Xm e C dx fun vs=>vs[1]? =some (.ref T)∧(vs[2]? =some .none∨gK.tF C)) (h':=s.heap) (t':=s.toks) (by rw[he];exact True.intro) (.inl rfl) (fun _ _ _ q=>q) ⟨o,h1⟩ (LN h1 h2 h3 h4 ⟨f3,h5⟩)
 have J2:=J.mn (pins':=[(T,oT)]) fun p hp=>by
  have ep:p=(T,oT):=by simpa using hp
  subst ep
  refine⟨t1,by rw[ao neT];exact hT,nT.loc,fun z=>?_,fun v z=>by rw[t2] at z;cases z⟩
  obtain⟨_,ob,q,nf⟩:=I.ok.iy.mem z
  exact absurd (Heap.lt_size q) (Nat.not_lt.mpr nT.above)
 refine name_goes J2 hN hi hl fun s' J3=>?_
 obtain⟨o',sC,g1,g2,g3,g4,g5,g6⟩:=(J3.bq e _ ag).1
 have pT:=(J3.pin (T,oT) (by simp)).1
 refine k s' ?_ ⟨⟨o',sC,g1,g4,g5⟩,fun T' z=>?_⟩
 ·have J4:=J3.tG.write (x:=e) (e:=e) (o:=nP e C dx) (h':=s'.heap) (t':=s'.toks) (by rw[ag];exact True.intro) (.inl rfl) (fun _ _ _ q=>q) ⟨o',g1⟩ (xF g1 g2 g3 g4 g6)
  rw[DN,Bv he] at J4
  exact J4
 ·cases z
  exact⟨neT,oT,ts,pT,t2,t3⟩
def Gx(K:PySem.W.Frag)(PC:Addr)(i:Nat)(ts:Addr→TS)(tr:Ends→St→XK):Ends→St→XK:=fun D σ cv dx H=>
 ∃C HE f b,cv= .ref C∧PySem.W.b7 K C HE f∧PySem.W.mroIn K C (.ref PC)=some b∧
  if b=true then∀e,H e=some (nP e C dx)→ts e { D with nx:=fun σ1 H1=>D.nx (σ1.set i none) H1,bk:=fun σ1 H1=>D.bk (σ1.set i none) H1,ct:=fun σ1 H1=>D.ct (σ1.set i none) H1 } (σ.set i (some (.ref e))) H else tr D σ cv dx H
theorem Il{x n:Str}{np pos:Pos}{b0:Stmt}{iR:List Stmt}{rest:List ExceptHandler}{PC:Addr}{i:Nat}{ts:Addr→TS}{tr:Ends→St→XK}(fm:zE X)(L:Lets X ER)(hg:Gl X x)(hm:X.mg x=some (.ref PC))(Y:PySem.W.tJ X.K PC)(hN:X.N.Nodup)(hi:X.N[i]? =some n)
  (hl:X.env.scope.names.lookup n=some .local) (Ii:∀e,jJ ((X.mark e).gw (fY (X.mark e) fun σ1=>ER (σ1.set i none))) (b0::iR) (ts e)) (hr:PH X rest tr) (hd:(x==("__debug__" :Str))=false:=by decide):
  PH X (.ExceptHandler (some (.Name x np)) (some n) (b0::iR) pos::rest) (Gx X.K PC i ts tr):=by
 intro s σ H D e C dx T I he fl hT nT hE
 obtain⟨C',HE,f,b,ec,Z,mb,hE⟩:=hE
 cases ec
 obtain⟨o,vs,o1,o2,o3,o4⟩:=nQ I.bq he
 have ht:∀T',some T=some T'→H T'=none∧gL X T':=fun T' z=>by cases z;exact⟨hT,nT⟩
 refine wpAny_handleBy_cons (codeAny_handlers_test (eV (X:=X.mark e) (I.mark e) hg hm (PySem.W.nV I.fQ Z Y o1 o2 mb ?_) hd)) (by intro z;cases z)
 cases b with
 |false=>exact hr s σ H D e C dx T I he fl hT nT hE
 |true=>
  have hE:=hE e he
  refine codeAny_handlers_suite_as (dY fl fun h1 a m=>?_)
  have I1:=I.moved he ht (m.mono fun _ z=>absurd z (by simp))
  refine store_ok I1 hN hi (.inl hl) (v:= .ref e) rfl (fun s2 I2=>?_) (.inr hl)
  refine wpAny_mono (Ii e [] s2 _ H _ ((I2.mark e).gw _) hE) (fun f s3 q=>?_) fun v s3 z=>?_
  ·have q:=q.cO
   cases f with
   |next=>
    obtain⟨σ',H',I3,q⟩:=q
    exact name_goes (I3.unmark I.ok) hN hi hl fun s4 I4=>⟨_,H',I4,q⟩
   |brk=>
    obtain⟨σ',H',I3,q⟩:=q
    exact name_goes (I3.unmark I.ok) hN hi hl fun s4 I4=>⟨_,H',I4,q⟩
   |cont=>
    obtain⟨σ',H',I3,q⟩:=q
    exact name_goes (I3.unmark I.ok) hN hi hl fun s4 I4=>⟨_,H',I4,q⟩
   |ret u=>
    obtain⟨v,σ',H',I3,r,q⟩:=q
    exact name_goes (I3.unmark I.ok) hN hi hl fun s4 I4=>⟨v,_,H',I4,r,q⟩
  ·obtain⟨e2,C2,jR,σ2,H2,tb,ev,J,Kn,Zh,Xn,R1⟩:=z
   subst ev
   obtain⟨fr,ff⟩:=gM (X:=X.mark e) fm J
   refine ki fr ff fm.2 Zh fun h3 T3 a3 b3 m3=>?_
   have Zi:Heap.Moved (oU (X.mark e).stack) e2 tb s3.heap h3:=by unfold oU;rw[show (X.mark e).stack=X.env::X.outer from fm.1];exact m3
   have J3:=J.moved Kn Xn Zi
   have t3:=nU J Xn b3
   refine vU (X:=X.mark e) (s:={ s3 with heap:=h3 }) J3 Kn a3 (t3 T3 rfl).1 (t3 T3 rfl).2 hN hi hl fun s4 J4 Xo=>?_
   unfold PySem.passOn
   obtain⟨oe,ws,q1,q2,q3⟩:=id Xo.ex
   refine wpAny_bind (wpAny_field q1 q2 q3 ?_)
   rw[if_neg (by simp)]
   refine wpAny_bind (dY Xo fun h5 a5 m5=>wpAny_throw ?_)
   have J5:=J4.moved Kn t3 (m5.mono fun _ z=>absurd z (by simp))
   obtain⟨Q1,Zj⟩:=gM (X:=X.mark e) fm J5
   refine ki (s:={ s4 with heap:=h5 }) Q1 Zj fm.2 a5 fun h6 T6 a6 b6 m6=>?_
   have Zk:Heap.Moved (oU (X.mark e).stack) e2 (some T3) h5 h6:=by unfold oU;rw[show (X.mark e).stack=X.env::X.outer from fm.1];exact m6
   have J6:=J5.moved Kn t3 Zk
   have t6:=nU J5 t3 b6
   refine xC (s:={ s4 with heap:=h6 }) a6 fun h7 a7 m7=>?_
   have J7:=J6.moved Kn t6 (m7.mono fun _ z=>absurd z (by simp))
   exact L _ _ ⟨e2,C2,jR,_,H2,some T6,rfl,J7.unmark I.ok,Kn,a7,fun T' z=>⟨(t6 T' z).1,(t6 T' z).2.above,(t6 T' z).2.loc,(t6 T' z).2.cell,(t6 T' z).2.pn⟩,R1⟩
theorem Ez(K:PySem.W.Frag)(hK:X.K=K){x n:Str}{np pos:Pos}{b0:Stmt}{iR:List Stmt}{rest:List ExceptHandler}{PC:Addr}{i:Nat}{ts:Addr→TS}{tr:Ends→St→XK}(fm:zE X)(L:Lets X ER)(hg:Gl X x)(hm:X.mg x=some (.ref PC))(Y:PySem.W.tJ K PC)(hN:X.N.Nodup)(hi:X.N[i]? =some n)
  (hl:X.env.scope.names.lookup n=some .local) (Ii:∀e,jJ ((X.mark e).gw (fY (X.mark e) fun σ1=>ER (σ1.set i none))) (b0::iR) (ts e)) (hr:PH X rest tr) (hd:(x==("__debug__" :Str))=false:=by decide):
  PH X (.ExceptHandler (some (.Name x np)) (some n) (b0::iR) pos::rest) (Gx K PC i ts tr):=by
 subst hK
 exact Il fm L hg hm Y hN hi hl Ii hr hd
end
instance (priority:=low) Qj:gK:=⟨fun _=>True⟩
end L2
namespace L2
open PySem PySem.Spec PyProof.Rows
section
variable {X:Cx}{o:Expr}{to:TE}{apos gJ:Pos}
theorem vV(ho:PE X o to)(Bb:attributeBase o "isdigit" X.env (eval o X.env)=eval o X.env:=by rfl)(Bc:(apos.endLine==gJ.line)=true:=by rfl):PE X (.Call (.Attribute o "isdigit" apos) [] [] gJ) (LL Txt.isdigit to):=by
 intro pins s σ H Q I h
 refine wpAny_Call_method0_late Bb Bc (bU (ho pins s σ H _ I h) fun v s1 ⟨x,H1,I1,r1,z,ex,q1⟩=>?_)
 subst ex
 obtain⟨t,rfl⟩:=(show∃t,v=Value.str z t from r1)
 exact⟨"str","str.isdigit",PySem.F.plainAttrs_str,PySem.F.slot_str_isdigit,PySem.F.type_str_isdigit,typeIs_str s1 z t,(fun _ e=>nomatch e),Calls.callWith_builtin rfl (PySem.evalArgs_none (call_gives F.slot_str_isdigit (typeIs_str _ _ _) F.entry_str_isdigit (F.args_str_isdigit_1 _) (gives_str_isdigit z t) ⟨.bl _,H1,I1,rfl,q1⟩))⟩
def tN:V→List V→Hp→VK→Prop:=fun x vs H Q=>∃z y:Str,x= .str z∧vs=[.str y]∧(y.length==0)=false∧z.length≤sizeLine∧∀p,H p=none→Q (.ref p) (upd H p (.tup [.str (Txt.rpartition z y).1, .str (Txt.rpartition z y).2.1, .str (Txt.rpartition z y).2.2]))
theorem o7:Kj X "str.rpartition" tN:=by
 intro pins s σ H x vs v us Q I rx rv h
 obtain⟨z,y,rfl,rfl,hy,hz,q⟩:=h
 obtain⟨t,rfl⟩:=(show∃t,v=Value.str z t from rx)
 obtain⟨u,rfl,ru⟩:=rv.one
 obtain⟨t2,rfl⟩:=(show∃t,u=Value.str y t from ru)
 refine call_meets F.slot_str_rpartition (typeIs_str _ _ _) F.entry_str_rpartition (F.args_str_rpartition_2 _ _) (meets_str_rpartition z y t t2 hy hz) ?_
 have q':=q _ I.fresh
 unfold Txt.rpartition at q'
 revert q'
 cases Builtin.Str.lastOccurrence z y 0 z.length with
 |none=>
  intro q'
  refine⟨.ref _,_,I.laid (fun b u e=>Heap.get?_push_of_some _ e) (Nat.le_refl _) ?_,rfl,q'⟩
  exact⟨(by show 3≤sizeLine;decide),_, .cons ⟨_,rfl⟩ (.cons ⟨_,rfl⟩ (.cons ⟨_,rfl⟩ .nil)),⟨_,Heap.get?_push_size _ rfl,rfl,_,rfl⟩⟩
 |some i=>
  intro q'
  refine⟨.ref _,_,I.laid (fun b u e=>Heap.get?_push_of_some _ e) (Nat.le_refl _) ?_,rfl,q'⟩
  exact⟨(by show 3≤sizeLine;decide),_, .cons ⟨_,rfl⟩ (.cons ⟨_,rfl⟩ (.cons ⟨_,rfl⟩ .nil)),⟨_,Heap.get?_push_size _ rfl,rfl,_,rfl⟩⟩
def LO:R2:=fun x y H Q=>∃(z:List Nat) (n:Nat),x= .str ⟨z.toArray⟩∧y= .int (n:Int)∧2≤n∧n≤400∧z≠[]∧z.length≤20∧Q (.str ⟨(List.replicate n z).flatten.toArray⟩) H
theorem tO(z:List Nat):∀(n:Nat) (acc:List Nat),(List.replicate n z.toArray).foldl (·++·) acc.toArray=(acc++(List.replicate n z).flatten).toArray
 |0,acc=>by simp
 |n+1,acc=>by
  rw[List.replicate_succ,List.foldl_cons,show acc.toArray++z.toArray=(acc++z).toArray by simp,tO z n,List.append_assoc,List.replicate_succ]
  rfl
theorem qR:lh X (binaryOp .Mult) LO:=by
 intro pins s σ H x y v u Q I rx ry h
 obtain⟨z,n,rfl,rfl,n1,n2,z0,z1,q⟩:=h
 obtain⟨t,rfl⟩:=(show∃t,v=Value.str ⟨z.toArray⟩ t from rx)
 obtain⟨t2,rfl⟩:=(show∃t,u=Value.int _ t from ry)
 have big:(10000 :Nat)≤sizeLine:=by decide
 have zl:(⟨z.toArray⟩:Str).length=z.length:=rfl
 have zp:=List.length_pos_iff.mpr z0
 have hzn:z.length*n≤8000:=Nat.mul_le_mul z1 n2
 have e1:((n:Int)==1||(⟨z.toArray⟩:Str).length==0)=false:=by
  have h1:((n:Int)==1)=false:=by simp only [beq_eq_false_iff_ne];omega
  have h2:((⟨z.toArray⟩:Str).length==0)=false:=by simp only [beq_eq_false_iff_ne];omega
  rw[h1,h2];rfl
 have ef:(List.replicate n z.toArray).foldl (·++·) #[]=(List.replicate n z).flatten.toArray:=by
  have:=tO z n []
  rwa [List.nil_append] at this
 refine PySem.P.mul_str (by rw[decide_eq_false (by omega),decide_eq_false (by omega)];rfl) (fun _ _=>?_) (fun _ _=>?_) ?_
 ·have hd:(20 :Int)≤(2^63 - 1) /(n:Int):=by
   rw[Int.le_ediv_iff_mul_le (by omega)]
   omega
  omega
 ·unfold Builtin.Str.tooLong
  rw[Int.toNat_natCast]
  simp only [decide_eq_false_iff_not]
  rw[zl]
  omega
 ·rw[if_neg (by omega),if_neg (by rw[e1];simp),Int.toNat_natCast]
  rw[←ef] at q
  refine⟨?_,⟨.str _,H,I.tok _,⟨_,rfl⟩,q⟩⟩
  show ((List.replicate n z.toArray).foldl (·++·) #[]).size≤sizeLine
  rw[xJ]
  show 0+z.length*n≤sizeLine
  omega
end
end L2
set_option maxHeartbeats 4000000
namespace R3
open PySem L2
def top(i:Nat):Stmt:=PySem.Challenge.pw_balancehall_k44_no_change.main.body.getD i (.Pass ⟨0,0,0,0⟩)
abbrev qS:Stmt:=inClass (top 3) 0
abbrev EA:Stmt:=inClass (top 4) 0
abbrev EB:Stmt:=inClass (top 5) 0
abbrev qT:Stmt:=inClass (top 6) 0
abbrev qU:Stmt:=top 20
abbrev qV:Stmt:=top 21
abbrev mI:Stmt:=top 22
abbrev fZ:Stmt:=top 23
abbrev jd:Stmt:=top 25
abbrev gQ:Stmt:=inClass (top 27) 0
abbrev qW:Stmt:=inClass (top 27) 1
abbrev dZ:Stmt:=inClass (top 28) 0
abbrev je:Stmt:=inClass (top 28) 1
abbrev d5:Stmt:=inClass (top 29) 0
abbrev f6:Stmt:=inClass (top 29) 1
abbrev ko:Stmt:=top 36
abbrev e7:Stmt:=top 37
abbrev d6:Stmt:=inClass (top 38) 0
abbrev kq:Stmt:=inClass (top 38) 1
abbrev qX:Stmt:=inClass (top 39) 0
abbrev xN:Stmt:=inClass (top 39) 1
abbrev xO:Stmt:=inClass (top 39) 2
abbrev kr:Stmt:=inClass (top 39) 3
abbrev mJ:Stmt:=inClass (top 39) 5
abbrev g8:Stmt:=inClass (top 39) 6
abbrev ku:Stmt:=inClass (top 39) 7
abbrev nX:Stmt:=inClass (top 39) 8
abbrev jf:Stmt:=inClass (top 39) 9
abbrev qY:Stmt:=inClass (top 39) 10
abbrev mK:Stmt:=inClass (top 39) 11
abbrev kx:Stmt:=inClass (top 39) 12
abbrev ky:Stmt:=inClass (top 39) 13
abbrev g9:Stmt:=top 46
abbrev fE:Stmt:=top 47
abbrev qZ:Stmt:=inClass (top 48) 0
abbrev mL:Stmt:=inClass (top 48) 1
abbrev q0:Stmt:=inClass (top 49) 0
abbrev mM:Stmt:=inClass (top 49) 1
abbrev kz:Stmt:=inClass (top 49) 2
abbrev mN:Stmt:=inClass (top 49) 3
abbrev kA:Stmt:=top 50
abbrev mO:Stmt:=top 52
abbrev q9:Stmt:=top 53
abbrev xP:Stmt:=top 54
abbrev rh:Stmt:=top 55
abbrev xQ:Stmt:=top 56
abbrev ri:Stmt:=top 57
abbrev kB:Stmt:=top 58
abbrev kD:Stmt:=top 59
abbrev jg:Stmt:=top 60
abbrev xR:Stmt:=top 61
abbrev mP:Stmt:=top 62
abbrev tP:Stmt:=top 63
abbrev xS:Stmt:=top 64
abbrev mQ:Stmt:=top 65
abbrev xT:Stmt:=top 66
abbrev EC:Stmt:=top 67
abbrev rj:Stmt:=top 68
abbrev rk:Stmt:=top 69
theorem Zl:¬(("kind" :Str)="count"):=by decide+kernel
def tQ(k:Str)(n:Int):List (Str×V):=c9 "count" (.int n) (c9 "kind" (.str k) [])
theorem zM(k:Str)(n:Int):(tQ k n).lookup ("kind" :Str)=some (.str k):=by
 unfold tQ
 rw[aK,if_neg Zl,aK,if_pos rfl]
theorem vW(k:Str)(n:Int):(tQ k n).lookup ("count" :Str)=some (.int n):=by
 unfold tQ
 rw[aK,if_pos rfl]
theorem ED(k:Str)(n:Int){m:Str}(h1:¬m="count")(h2:¬m="kind"):(tQ k n).lookup m=none:=by
 unfold tQ
 rw[aK,if_neg h1,aK,if_neg h2]
 all_goals rfl
def fF(C:Addr)(H:Hp)(p:Addr)(k:Str)(n:Int):Prop:=∃dx,H p=some (.ins C dx (tQ k n))
theorem fF.same{C:Addr}{H H':Hp}{p:Addr}{k:Str}{n:Int}(a:fF C H p k n)(e:aF H H'):fF C H' p k n:=let ⟨dx,h⟩:=a;⟨dx,e _ _ h⟩
def gj(kvs:List (Key×V)):Prop:=∀p∈kvs,∃i,p.2=V.int i
def sE(kvs:List (Key×V))(k:Key):Int:=match de kvs k with
 |some (.int i)=>i
 |_=>0
theorem nY{kvs:List (Key×V)}{k:Key}(h:de kvs k=none):sE kvs k=0:=by unfold sE;rw[h]
theorem tR{kvs:List (Key×V)}{k:Key}{i:Int}(h:de kvs k=some (.int i)):sE kvs k=i:=by unfold sE;rw[h]
def iz(kvs:List (Key×V))(k:Key)(n:Int):List (Key×V):=putK kvs k (.int (sE kvs k+n))
def eK(t:Int)(acc:List (Key×V))(as:List (Str×Int)):List (Key×V):=as.foldl (fun acc p=>iz acc (Sum.inr p.1) (p.2*t)) acc
def zN(c:Int):V→V
 | .int i=> .int (i*c)
 |v=>v
def scale(c:Int)(kvs:List (Key×V)):List (Key×V):=kvs.map fun p=>(p.1,zN c p.2)
theorem zO{kvs:List (Key×V)}{k:Key}{v:V}(e:de kvs k=some v):(k,v)∈kvs:=by
 unfold de at e
 cases f:kvs.find? fun kv=>decide (kv.1=k) with
 |none=>rw[f] at e;cases e
 |some p=>
  rw[f] at e
  cases e
  have h1:=List.mem_of_find?_eq_some f
  have h2:p.1=k:=by simpa using List.find?_some f
  rw[←h2];exact h1
theorem gj.look{kvs:List (Key×V)}(h:gj kvs){k:Key}{v:V}(e:de kvs k=some v):v= .int (sE kvs k):=by
 obtain⟨i,hi⟩:=h _ (zO e)
 have hi:v= .int i:=hi
 subst hi
 rw[tR e]
theorem gj.at{kvs:List (Key×V)}(h:gj kvs)(k:Key):(de kvs k).getD (.int 0)= .int (sE kvs k):=by
 cases e:de kvs k with
 |none=>rw[nY e];rfl
 |some v=>rw[h.look e];rfl
theorem Im{kvs:List (Key×V)}{k:Key}{v:V}(h:(kvs.map (·.1)).Nodup):((putK kvs k v).map (·.1)).Nodup:=by
 cases e:de kvs k with
 |none=>exact Ea v h e
 |some x=>
  have ha:(kvs.any fun kv=>decide (kv.1=k))=true:=by rw[gI,e];rfl
  unfold putK
  rw[if_pos ha,List.map_map]
  have:((fun (x:Key×V)=>x.1)∘fun kv=>if kv.1=k then (kv.1,v) else kv)=fun (x:Key×V)=>x.1:=by
   funext y
   simp only [Function.comp]
   split<;>rfl
  rw[this]
  exact h
theorem lE(c:Int)(k:Key):∀kvs:List (Key×V),de (scale c kvs) k=(de kvs k).map (zN c)
 | []=>rfl
 |p::r=>by
  have ih:=lE c k r
  show de ((p.1,zN c p.2)::scale c r) k=_
  by_cases e:p.1=k
  ·refine(gF (p:=(p.1,zN c p.2)) (r:=scale c r) e).trans ?_
   rw[gF e]
   rfl
  ·refine(gH (p:=(p.1,zN c p.2)) (r:=scale c r) e).trans ?_
   rw[gH e]
   exact ih
theorem zP(c:Int)(kvs:List (Key×V))(k:Key)(i:Int):scale c (putK kvs k (.int i))=putK (scale c kvs) k (.int (i*c)):=by
 have ha:((scale c kvs).any fun kv=>decide (kv.1=k))=kvs.any fun kv=>decide (kv.1=k):=by
  unfold scale
  rw[List.any_map];rfl
 unfold putK
 rw[ha]
 split
 ·unfold scale
  rw[List.map_map,List.map_map]
  apply List.map_congr_left
  intro p _
  simp only [Function.comp]
  split<;>rfl
 ·unfold scale
  rw[List.map_append];rfl
theorem zQ{kvs:List (Key×V)}(h:gj kvs)(c:Int)(k:Key):sE (scale c kvs) k=sE kvs k*c:=by
 cases e:de kvs k with
 |none=>rw[nY e,nY (by rw[lE,e];rfl),Int.zero_mul]
 |some v=>
  have:=h.look e
  subst this
  exact tR (by rw[lE,e];rfl)
theorem gj.put{kvs:List (Key×V)}(h:gj kvs)(k:Key)(i:Int):gj (putK kvs k (.int i)):=by
 intro p hp
 unfold putK at hp
 split at hp
 ·obtain⟨q,hq,e⟩:=List.mem_map.mp hp
  subst e
  split
  ·exact⟨i,rfl⟩
  ·exact h q hq
 ·rcases List.mem_append.mp hp with hq|hq
  ·exact h p hq
  ·have e:p=(k,V.int i):=by simpa using hq
   exact⟨i,by rw[e]⟩
theorem zR{kvs:List (Key×V)}(h:gj kvs)(c:Int)(k:Key)(n:Int):scale c (iz kvs k n)=iz (scale c kvs) k (n*c):=by
 unfold iz
 rw[zP,zQ h,Int.add_mul]
theorem gj.add{kvs:List (Key×V)}(h:gj kvs)(k:Key)(n:Int):gj (iz kvs k n):=h.put k _
theorem pO(t c:Int):∀(as:List (Str×Int)) (acc:List (Key×V)),gj acc→scale c (eK t acc as)=eK (t*c) (scale c acc) as
 | [],_,_=>rfl
 |p::r,acc,h=>by
  show scale c (eK t (iz acc (Sum.inr p.1) (p.2*t)) r)=eK (t*c) (iz (scale c acc) (Sum.inr p.1) (p.2*(t*c))) r
  rw[pO t c r _ (h.add _ _),zR h,Int.mul_assoc]
theorem mR(t:Int):∀(as:List (Str×Int)) (acc:List (Key×V)),gj acc→gj (eK t acc as)
 | [],_,h=>h
 |_::r,_,h=>mR t r _ (h.add _ _)
theorem BE(t:Int):∀(as:List (Str×Int)) (acc:List (Key×V)),(acc.map (·.1)).Nodup→((eK t acc as).map (·.1)).Nodup
 | [],_,h=>h
 |_::r,_,h=>BE t r _ (Im h)
theorem mS(t:Int):∀(as:List (Str×Int)) (acc:List (Key×V)),(eK t acc as).length≤acc.length+as.length
 | [],_=>Nat.le_refl _
 |p::r,acc=>by
  have:=mS t r (iz acc (Sum.inr p.1) (p.2*t))
  have h2:=eF acc (Sum.inr p.1 :Key) (.int (sE acc (Sum.inr p.1)+p.2*t))
  have e:(iz acc (Sum.inr p.1) (p.2*t)).length≤acc.length+1:=h2
  show (eK t (iz acc (Sum.inr p.1) (p.2*t)) r).length≤_
  rw[List.length_cons]
  omega
def du(n:Int):Str:=if n=1 then "" else (toString n:Str)
theorem vX:∀n:Nat,n<1000→(du (n:Int)).length≤3:=by decide+kernel
theorem dO{n:Int}(h:1≤n)(h':n≤999):(du n).length≤3:=by
 have:=vX n.toNat (by omega)
 rwa [Int.toNat_of_nonneg (by omega)] at this
def jn(ys:List Str):Str:=Str.join ⟨#[]⟩ ys
theorem join_eq(ys:List Str):Txt.join "" ys=jn ys:=by
 have h:=PyProof.Rows.join_closes (sep:="") (sep':=⟨#[]⟩) (ys:=ys) (by decide+kernel)
 unfold jn
 simpa using h
theorem EE(x:Str)(r:List Str):jn (x::r)=x++jn r:=PyProof.Rows.join_nil_cons x r
theorem rl:∀{ys:List Str} {b:Nat},(∀y∈ys,y.length≤b)→(ys.map (·.length)).sum≤ys.length*b
 | [],_,_=>Nat.zero_le _
 |y::r,b,h=>by
  rw[List.map_cons,List.sum_cons,List.length_cons,Nat.succ_mul]
  have h1:=h y (List.mem_cons_self ..)
  have h2:=rl (ys:=r) (b:=b) fun z hz=>h z (List.mem_cons_of_mem _ hz)
  omega
theorem pP(x y z:Str):x++y++z=x++(y++z):=by
 show (⟨(x.cps++y.cps)++z.cps⟩:Str)=⟨x.cps++(y.cps++z.cps)⟩
 rw[Array.append_assoc]
theorem R4:¬(("parts" :Str)="count"):=by decide+kernel
def kE(l:Addr)(n:Int):List (Str×V):=c9 "count" (.int n) (c9 "parts" (.ref l) [])
theorem lT(l:Addr)(n:Int):(kE l n).lookup ("parts" :Str)=some (.ref l):=by
 unfold kE
 rw[aK,if_neg R4,aK,if_pos rfl]
theorem lU(l:Addr)(n:Int):(kE l n).lookup ("count" :Str)=some (.int n):=by
 unfold kE
 rw[aK,if_pos rfl]
theorem tS(l:Addr)(n:Int){m:Str}(h1:¬m="count")(h2:¬m="parts"):(kE l n).lookup m=none:=by
 unfold kE
 rw[aK,if_neg h1,aK,if_neg h2]
 all_goals rfl
def nZ(K:PySem.W.Frag):Sp:=fun vs H Q _=>∃(a:Addr) (ns:List Int) (k:Nat),vs=[.ref a, .int k]∧cL K H a (ns.map V.int)∧ns.length≤63∧∀n,Q (.int n) H
def jS:List Int:=[999979,999983,1000003,1000033,1000037,1000081,1000099]
def xU:Sp:=fun vs H Q _=>∃(c p:Int) (j:Nat),vs=[.int c, .int p]∧j<7∧jS[j]? =some p∧∀n H',aF H H'→Q (.int n) H'
def xV:Sp:=fun vs H Q _=>∃i:Int,vs=[.int i]∧Q (.bl true) H
def hV:Sp:=fun vs H Q _=>∃n:Int,vs=[.int n]∧1≤n∧n≤999∧Q (.str (du n)) H
def BF(C:Addr):Sp:=fun vs H Q _=>∃(p dx:Addr) (k:Str) (n:Int),vs=[.ref p, .str k, .int n]∧H p=some (.ins C dx [])∧∀H',H' p=some (.ins C dx (tQ k n))→(∀b o,H b=some o→b≠p→H' b=some o)→Q .cn H'
def rm(C:Addr):Sp:=fun vs H Q _=>∃(p:Addr) (k:Str) (n:Int),vs=[.ref p]∧fF C H p k n∧k.length≤3∧1≤n∧n≤999∧Q (.str (k++du n)) H
structure kF(K:PySem.W.Frag)(mg:Str→Option Value)(C:Addr):Prop where
 hZ:qy K C
 xW:cz K C "kind"
 tT:cz K C "count"
 Io:mg "Atom" =some (.ref C)
 f7:mg "len" =none
 xX:mg "str" =none
 pQ:mg "int" =none
 Ip:mg "bool" =none
 kG:mg "range" =none
 bp:mg "isinstance" =none
 k1:PySem.W.kitOne K (.type "int") (.type "int")=some true
 k2:PySem.W.kitOne K (.type "int") (.type "bool")=some false
 k3:PySem.W.kitOne K (.type "dict") (.type "dict")=some true
 k4:PySem.W.kitOne K (.type "str") (.type "str")=some true
 k6:PySem.W.kitOne K (.type "list") (.type "list")=some true
theorem ei{x y:Str}(h:x.cps.toList=y.cps.toList):x=y:=by
 cases x;cases y
 congr 1
 exact Array.toList_inj.mp h
theorem EF(a b n:Nat):Builtin.Str.strSliceIndices (some (a:Int)) (some (b:Int)) 1 n=Builtin.Str.strSliceIndices (some (a:Int)) (some ((min b n:Nat):Int)) 1 n:=by
 have h2:¬((b:Int) <0):=by omega
 have h3:¬(((min b n:Nat):Int) <0):=by omega
 have e2:max (0 :Int) (min (b:Int) (n:Int))=max (0 :Int) (min ((min b n:Nat):Int) (n:Int)):=by omega
 simp only [Builtin.Str.strSliceIndices,h2,h3,if_false,e2,show ((1 :Int) >0)=True from by simp,if_true]
theorem gR(x:Str){a b:Nat}(RL:a≤b)(ha:a≤x.length):(Txt.slice x (some (a:Int)) (some (b:Int))).cps.toList=(x.cps.toList.drop a).take (b - a):=by
 have hm:a≤min b x.length:=by omega
 have hb:min b x.length≤x.length:=by omega
 have h1:=StrLaws.sliced_plain x hm hb
 have h2:=StrLaws.strSliceIndices_plain hm hb
 have hl:x.cps.toList.length=x.length:=by simp [Str.length]
 unfold Txt.slice
 rw[EF]
 split
 ·rename_i h
  have h:(Builtin.Str.strSliceIndices (some (a:Int)) (some ((min b x.length:Nat):Int)) 1 x.length).length=x.length:=by simpa using h
  rw[h2,List.length_map,List.length_range] at h
  by_cases hz:x.length=0
  ·have:x.cps.toList=[]:=List.length_eq_zero_iff.mp (by omega)
   rw[this];simp
  ·have e:a=0:=by omega
   subst e
   rw[List.drop_zero,List.take_of_length_le (by omega)]
 ·show (List.filterMap _ _).toArray.toList=_
  rw[h1,List.take_eq_take_iff,List.length_drop,hl]
  omega
def e9(x:Str)(p:Nat):Str:=⟨((x.cps.toList.drop p).take 1).toArray⟩
theorem pR(x:Str){p:Nat}(hp:p≤x.length):Txt.slice x (some (p:Int)) (some ((p:Int)+1))=e9 x p:=by
 apply ei
 have:=gR x (a:=p) (b:=p+1) (by omega) hp
 rw[Nat.add_sub_cancel_left] at this
 exact this
def inR(lo hi:Nat)(s:Str):Bool:=match s.cps.toList with
 | [c]=>decide (lo≤c)&&decide (c≤hi)
 |_=>false
theorem Iq(lo:Nat)(s:Str)(h:s.cps.toList.length≤1):(!decide (s.cps.toList< [lo]))=(match s.cps.toList with| [c]=>decide (lo≤c) |_=>false):=by
 match hh:s.cps.toList,h with
 | [],_=>simp
 | [c],_=>
   have:([c] < [lo])↔c<lo:=by simp [List.cons_lt_cons_iff]
   by_cases hc:c<lo
   ·rw[decide_eq_true (this.mpr hc)];simp;omega
   ·rw[decide_eq_false (fun z=>hc (this.mp z))];simp;omega
 |_::_::_,h=>simp at h
theorem Ir(hi:Nat)(s:Str)(h:s.cps.toList.length≤1):(!decide ([hi] <s.cps.toList))=(match s.cps.toList with| [c]=>decide (c≤hi) |_=>true):=by
 match hh:s.cps.toList,h with
 | [],_=>simp
 | [c],_=>
   have:([hi] < [c])↔hi<c:=by simp [List.cons_lt_cons_iff]
   by_cases hc:hi<c
   ·rw[decide_eq_true (this.mpr hc)];simp;omega
   ·rw[decide_eq_false (fun z=>hc (this.mp z))];simp;omega
 |_::_::_,h=>simp at h
theorem kH(x:Str)(p:Nat):(e9 x p).cps.toList.length≤1:=by
 unfold e9
 simp
 omega
def Not(f:Nat→Bool)(l:List Nat):Prop:=∀c,l.head? =some c→f c=false
def bK(c:Nat):Bool:=decide (48≤c)&&decide (c≤57)
def gk(c:Nat):Bool:=decide (97≤c)&&decide (c≤122)
def gS(c:Nat):Bool:=decide (65≤c)&&decide (c≤90)
def bc(n:Int):List Nat:=(du n).cps.toList
theorem gm:bc 1=[]:=by decide+kernel
theorem fG{n:Nat}(h:n≠1):bc (n:Int)=(Nat.toDigits 10 n).map Char.toNat:=by
 unfold bc du
 rw[if_neg (by omega)]
 exact PySem.W.KIN.signs_num n
theorem eo(n:Nat):(bc (n:Int)).all bK=true:=by
 by_cases h:n=1
 ·subst h;rw[show ((1 :Nat):Int)=1 from rfl,gm];rfl
 ·rw[fG h,List.all_eq_true]
  intro c hc
  obtain⟨ch,Ax,e⟩:=List.mem_map.mp hc
  have r:=PyProof.Rows.digit_range (Nat.isDigit_of_mem_toDigits (by decide) (by decide) Ax)
  rw[←e]
  simp only [bK,Bool.and_eq_true,decide_eq_true_eq]
  exact r
theorem BG(n:Nat):Nat.toDigits 10 n≠[]:=by
 intro e
 have h:=PySem.toDigits_len_ge 10 n
 rw[e] at h
 exact absurd h (by decide)
theorem BH:∀n:Nat,n≠0→(Nat.toDigits 10 n).head? ≠some '0' :=by
 intro n
 induction n using Nat.strongRecOn with
 |_ m ih=>
  intro h0
  by_cases h:m<10
  ·rw[Nat.toDigits_of_lt_base h]
   have:∀m:Nat,m<10→m≠0→[Nat.digitChar m].head? ≠some '0' :=by decide
   exact this m h h0
  ·have hm:m%10<10:=Nat.mod_lt m (by decide)
   have t:Nat.toDigits 10 (m/10)++Nat.toDigits 10 (m%10)=Nat.toDigits 10 (10*(m/10)+m%10):=Nat.toDigits_append_toDigits (by decide) (by omega) hm
   rw[Nat.div_add_mod] at t
   have:=ih (m/10) (by omega) (by omega)
   rw[←t]
   cases hh:Nat.toDigits 10 (m/10) with
   |nil=>exact absurd hh (BG _)
   |cons c r=>
    rw[hh] at this
    exact this
theorem kI(n:Nat)(h0:n≠0):(bc (n:Int)).head? ≠some 48:=by
 by_cases h:n=1
 ·subst h;rw[show ((1 :Nat):Int)=1 from rfl,gm];simp
 ·rw[fG h,List.head?_map]
  intro z
  cases e:(Nat.toDigits 10 n).head? with
  |none=>rw[e] at z;cases z
  |some c=>
   rw[e] at z
   have z:c.toNat=48:=by simpa using z
   have:c='0' :=by
    apply Char.ext
    apply UInt32.toNat_inj.mp
    exact z
   exact BH n h0 (by rw[e,this])
theorem mT(n:Nat):bc (n:Int)≠[49]:=by
 by_cases h:n=1
 ·subst h;rw[show ((1 :Nat):Int)=1 from rfl,gm];simp
 ·rw[fG h]
  intro z
  have:=PySem.W.KIN.val_back n
  rw[z] at this
  exact h this.symm
theorem EG(n:Nat)(h:bc (n:Int)=[]):n=1:=by
 by_cases e:n=1
 ·exact e
 ·rw[fG e] at h
  exact absurd (List.map_eq_nil_iff.mp h) (BG n)
theorem jh{n:Nat}{k:Nat}(hk:0<k)(h:n<10^k):(du (n:Int)).length≤k:=by
 unfold du
 split
 ·exact Nat.zero_le _
 ·rw[PySem.ofString_length]
  show (Nat.repr n).length≤k
  rw[Nat.length_repr_le_iff hk]
  exact h
theorem EH(n:Nat)(h:n<10^12)(h1:n≠1):PySem.intText? (du (n:Int))=some (n:Int):=by
 have hd:PySem.NumText.AllDigits (du (n:Int)).cps.toList:=by
  intro c hc
  have:=List.all_eq_true.mp (eo n) c hc
  simpa only [bK,Bool.and_eq_true,decide_eq_true_eq] using this
 have jc:(du (n:Int)).cps.toList≠[]:=fun z=>h1 (EG n z)
 have e:=PySem.intText_digits hd jc (Nat.le_trans (jh (by decide) h) (by decide))
 rw[show (du (n:Int)).cps.toList=_ from fG h1,PySem.W.KIN.val_back] at e
 exact e
instance R5 (k:Key) (K:List Key):Decidable (k∈K):=decidable_of_iff ((K.any fun x=>decide (x=k))=true) (by simp)
theorem R6:¬(("text" :Str)="place"):=by decide+kernel
def fH(x:Str)(p:Nat):List (Str×V):=c9 "place" (.int p) (c9 "text" (.str x) [])
theorem fI(x:Str)(p:Nat):(fH x p).lookup ("text" :Str)=some (.str x):=by
 unfold fH
 rw[aK,if_neg R6,aK,if_pos rfl]
theorem a8(x:Str)(p:Nat):(fH x p).lookup ("place" :Str)=some (.int p):=by
 unfold fH
 rw[aK,if_pos rfl]
theorem aE(x:Str)(p:Nat){m:Str}(h1:¬m="place")(h2:¬m="text"):(fH x p).lookup m=none:=by
 unfold fH
 rw[aK,if_neg h1,aK,if_neg h2]
 all_goals rfl
theorem ji(x:Str)(p q:Nat):c9 "place" (.int q) (fH x p)=fH x q:=by
 unfold fH
 simp only [c9,if_neg R6,if_true]
theorem jj(x:Str)(p:Nat):(fH x p).length<1000:=by
 unfold fH
 simp only [c9,if_neg R6]
 show 2<1000
 decide
def cH(R:Addr)(H:Hp)(r:Addr)(x:Str)(p:Nat):Prop:=∃dx,H r=some (.ins R dx (fH x p))
def Kept(r:Addr)(H H':Hp):Prop:=∀b o,H b=some o→b≠r→H' b=some o
theorem Kept.refl(r:Addr)(H:Hp):Kept r H H:=fun _ _ h _=>h
theorem Kept.trans{r:Addr}{H H' cu:Hp}(h:Kept r H H')(h':Kept r H' cu):Kept r H cu:=fun b o e n=>h' b o (h b o e n) n
theorem Kept.of{r:Addr}{H H':Hp}(h:aF H H'):Kept r H H':=fun b o e _=>h b o e
def Gy(lo hi:Nat):Sp:=fun vs H Q _=>∃s:Str,vs=[.str s]∧s.cps.toList.length≤1∧Q (.bl (inR lo hi s)) H
def xY(R:Addr):Sp:=fun vs H Q _=>∃(r dx:Addr) (x:Str),vs=[.ref r, .str x]∧H r=some (.ins R dx [])∧∀H',cH R H' r x 0→Kept r H H'→Q .cn H'
def ia(R:Addr):Sp:=fun vs H Q _=>∃(r:Addr) (x:Str) (p:Nat),vs=[.ref r]∧cH R H r x p∧p≤x.length∧x.length≤1000∧Q (.str (e9 x p)) H
def rn(k:List Nat):Prop:=∃c r,k=c::r∧gS c=true∧r.all gk=true∧r.length≤2
structure o8(K:PySem.W.Frag)(mg:Str→Option Value)(C R:Addr)(uK uN:Tok):Prop extends kF K mg C where
 aw:qy K R
 jk:cz K R "text"
 bx:cz K R "place"
 n6:mg "LONGEST_KIND" =some (.int 3 uK)
 mi:mg "LONGEST_COUNT" =some (.int 3 uN)
section
seal jJ PS PE PT PW PA PG Ki PI PC Kl
variable [gK]{P:Program}{w:World}{K:PySem.W.Frag}{mg:Str→Option Value}{base:Heap}{C R G Pc Fo:Addr}{uK uN uB uE uM:Tok}
theorem EI:ay ["sign"] ["sign"] (ak qU):=dN
theorem EJ:ay ["sign"] ["sign"] (ak qV):=dN
theorem BI:ay ["sign"] ["sign"] (ak mI):=dN
theorem vY(lo hi:Nat)(s:Str)(h:s.cps.toList.length≤1):(if (!decide (s.cps.toList< [lo]))=true then (!decide ([hi] <s.cps.toList)) else false)=inR lo hi s:=by
 rw[Iq lo s h,Ir hi s h]
 unfold inR
 match hh:s.cps.toList,h with
 | [],_=>rfl
 | [c],_=>
   show (if decide (lo≤c)=true then decide (c≤hi) else false)=(decide (lo≤c)&&decide (c≤hi))
   cases decide (lo≤c)<;>rfl
 |_::_::_,h=>simp at h
theorem BJ(D:Def K mg "is_great" "is_great" qU ["sign"]):bD P w K mg base 1 "is_great" ["sign"] (Gy 65 90):=by
 refine D.fW EI (fun vs H Q E h=>?_) (fun f bo A outer s H vs Q E hr h=>?_)
 ·obtain⟨n,rfl,_⟩:=h
  rfl
 ·obtain⟨x,rfl,hl,q⟩:=h
  refine⟨_,(au
     (aB (nE fu fu aN (pv 0) aN))),?_⟩
  rw[←vY 65 90 x hl] at q
  have e1:("A" :Str).cps.toList=[65]:=by decide+kernel
  have e2:("Z" :Str).cps.toList=[90]:=by decide+kernel
  refine⟨_,rfl,_,_,rfl,rfl,_,rfl,?_⟩
  rw[e1]
  cases hh:(!decide (x.cps.toList< [65])) with
  |false=>rw[hh] at q;exact cQ q
  |true=>rw[hh] at q;exact dJ ⟨_,_,rfl,rfl,by rw[e2];exact q⟩
theorem BK(D:Def K mg "is_small" "is_small" qV ["sign"]):bD P w K mg base 1 "is_small" ["sign"] (Gy 97 122):=by
 refine D.fW EJ (fun vs H Q E h=>?_) (fun f bo A outer s H vs Q E hr h=>?_)
 ·obtain⟨n,rfl,_⟩:=h
  rfl
 ·obtain⟨x,rfl,hl,q⟩:=h
  refine⟨_,(au
     (aB (nE fu fu aN (pv 0) aN))),?_⟩
  rw[←vY 97 122 x hl] at q
  have e1:("a" :Str).cps.toList=[97]:=by decide+kernel
  have e2:("z" :Str).cps.toList=[122]:=by decide+kernel
  refine⟨_,rfl,_,_,rfl,rfl,_,rfl,?_⟩
  rw[e1]
  cases hh:(!decide (x.cps.toList< [97])) with
  |false=>rw[hh] at q;exact cQ q
  |true=>rw[hh] at q;exact dJ ⟨_,_,rfl,rfl,by rw[e2];exact q⟩
theorem zS(D:Def K mg "is_figure" "is_figure" mI ["sign"]):bD P w K mg base 1 "is_figure" ["sign"] (Gy 48 57):=by
 refine D.fW BI (fun vs H Q E h=>?_) (fun f bo A outer s H vs Q E hr h=>?_)
 ·obtain⟨n,rfl,_⟩:=h
  rfl
 ·obtain⟨x,rfl,hl,q⟩:=h
  refine⟨_,(au
     (aB (nE fu fu aN (pv 0) aN))),?_⟩
  rw[←vY 48 57 x hl] at q
  have e1:("0" :Str).cps.toList=[48]:=by decide+kernel
  have e2:("9" :Str).cps.toList=[57]:=by decide+kernel
  refine⟨_,rfl,_,_,rfl,rfl,_,rfl,?_⟩
  rw[e1]
  cases hh:(!decide (x.cps.toList< [48])) with
  |false=>rw[hh] at q;exact cQ q
  |true=>rw[hh] at q;exact dJ ⟨_,_,rfl,rfl,by rw[e2];exact q⟩
theorem EK:ay ["self","text"] ["self","text"] (ak qX):=dN
theorem BL(D:jO K R "Reader.__init__" qX ["self","text"] [])(T:o8 K mg C R uK uN):fD P w K mg base 1 R ["self","text"] [] (xY R):=by
 refine D.fW EK (fun vs H Q E h=>?_) (fun f bo A outer s H vs Q E hr h=>?_)
 ·obtain⟨r,dx,x,rfl,_⟩:=h
  rfl
 ·obtain⟨r,dx,x,rfl,hp,q⟩:=h
  refine⟨_,(aj
     (eQ (pv 0) (pv 1) rfl)
    (au
     (eQ (pv 0) aq rfl))),?_⟩
  refine⟨_,rfl,_,rfl,r,R,dx,[],rfl,hp,T.aw,T.jk,(by show 0<1000;decide),_,rfl,r,R,dx,_,rfl,ag,T.aw,T.bx,(by show 1<1000;decide),?_⟩
  refine q _ ⟨dx,ag⟩ fun b o e hb=>?_
  rw[ao hb,ao hb]
  exact e
theorem Iu:ay ["self"] ["self"] (ak xN):=dN
theorem EL(D:bR K R "sign" "Reader.sign" xN ["self"])(T:o8 K mg C R uK uN):cZ P w K mg base 1 R "sign" ["self"] (ia R):=by
 refine D.fW Iu (fun vs H Q E h=>?_) (fun f bo A outer s H vs Q E hr h=>?_)
 ·obtain⟨r,x,p,rfl,_⟩:=h
  rfl
 ·obtain⟨r,x,p,rfl,⟨dx,hR⟩,hp,hx,q⟩:=h
  have big:(1000 :Nat)≤sizeLine:=by decide
  refine⟨_,(au
     (aB (cE eR (bz (pv 0) rfl) (cq (bz (pv 0) rfl)) (cq (ax bH (bz (pv 0) rfl) aq))))),?_⟩
  rw[←pR x hp] at q
  exact⟨_,rfl,r,R,dx,_,_,rfl,hR,T.aw,T.jk,fI _ _,_,rfl,r,R,dx,_,_,rfl,hR,T.aw,T.bx,a8 _ _,_,rfl,_,rfl,r,R,dx,_,_,rfl,hR,T.aw,T.bx,a8 _ _,_,_,rfl,rfl,_,rfl,x,rfl,by omega,q⟩
theorem Iv:ay ["self","sign"] ["self","sign"] (ak xO):=dN
theorem pS:ay ["self","signs","sign"] ["self","signs"] (ak kr):=dN
theorem kJ{n:Int}(h1:1≤n)(h2:n<10^12):∃m:Nat,n=(m:Int)∧m<10^12∧m≠0:=⟨n.toNat,by omega,by omega,by omega⟩
theorem lF:ay ["self","longest","begin","written"] ["self","longest"] (ak kx):=dN
theorem BM:ay ["self"] ["self"] (ak mK):=dN
theorem aX{r a:Addr}{H H':Hp}{o:HO}(k:Kept r H H')(hr:H' r=some o)(h:H' a=none):H a=none:=by
 cases hh:H a with
 |none=>rfl
 |some o'=>
  by_cases e:a=r
  ·rw[e,hr] at h;cases h
  ·rw[k a o' hh e] at h;cases h
theorem EM{f:Nat→Bool}{l post:List Nat}(h1:∀c∈l,f c=false)(h2:Not f post):Not f (l++post):=by
 cases l with
 |nil=>exact h2
 |cons c r=>
  intro d hd
  have e:c=d:=by simpa using hd
  rw[←e]
  exact h1 c (List.mem_cons_self ..)
theorem BN{n:Int}(h1:1≤n)(h2:n≤999):∀c∈bc n,gk c=false:=by
 intro c hc
 obtain⟨m,rfl,m1,m0⟩:=kJ h1 (by omega)
 have:=List.all_eq_true.mp (eo m) c hc
 simp only [bK,gk,Bool.and_eq_true,decide_eq_true_eq] at*
 simp
 omega
theorem rp:ay ["self","begin","kind"] ["self"] (ak qY):=dN
inductive Tr where
 |one (k:List Nat) (n:Int)
 |gr (ts:List Tr) (n:Int)
def ck:Nat→Tr→List Nat
 |_, .one k n=>k++bc n
 |0, .gr _ _=>[]
 |d+1, .gr ts n=>40::(ts.flatMap (ck d)++41::bc n)
def o9:Nat→Tr→Prop
 |_, .one k n=>rn k∧1≤n∧n≤999
 |0, .gr _ _=>False
 |d+1, .gr ts n=>ts≠[]∧(∀t∈ts,o9 d t)∧1≤n∧n≤999
def d7(C G:Addr):Nat→Hp→Addr→Tr→Prop
 |_,H,p, .one k n=>fF C H p ⟨k.toArray⟩ n
 |0,_,_, .gr _ _=>False
 |d+1,H,p, .gr ts n=>∃dx l ps,H p=some (.ins G dx (kE l n))∧H l=some (.lst (ps.map V.ref))∧Paired (d7 C G d H) ps ts
def Iw(C G:Addr)(d:Nat)(H H':Hp)(a:Addr)(t:Tr):Prop:=∀cu,(∀b o,H b=none→H' b=some o→cu b=some o)→d7 C G d cu a t
def R7(C G L:Addr)(d:Nat)(H H':Hp)(a:Addr)(t:Tr):Prop:=∀cu,(∀b o,H b=none→b≠L→H' b=some o→cu b=some o)→d7 C G d cu a t
def LP(C G:Addr)(d:Nat)(H H':Hp)(l:Addr)(ts:List Tr):Prop:=H l=none∧∃ps,H' l=some (.lst (ps.map V.ref))∧∀cu,(∀b o,H b=none→H' b=some o→cu b=some o)→Paired (d7 C G d cu) ps ts
def Stop(post:List Nat):Prop:=Not bK post∧Not gk post∧Not gS post∧Not (fun c=>decide (c=40)) post
structure rq(K:PySem.W.Frag)(mg:Str→Option Value)(C R G:Addr)(uK uN uB uE uM:Tok):Prop extends o8 K mg C R uK uN where
 fb:qy K G
 pU:cz K G "parts"
 pV:cz K G "count"
 EN:mg "Group" =some (.ref G)
 er:mg "GROUP_BEGIN" =some (.str "(" uB)
 lV:mg "GROUP_END" =some (.str ")" uE)
 iU:mg "MOST_GROUPS_AROUND" =some (.int 3 uM)
theorem Gz:("(" :Str)=⟨#[40]⟩:=by decide+kernel
theorem Qk:(")" :Str)=⟨#[41]⟩:=by decide+kernel
theorem rA{d:Nat}{t:Tr}(h:o9 d t):∃c r,ck d t=c::r∧((gS c=true∧∃k n,t= .one k n)∨(c=40∧∃ts n,t= .gr ts n)):=by
 cases t with
 |one k n=>
  have h:rn k∧1≤n∧n≤999:=by cases d<;>exact h
  obtain⟨⟨c,r,rfl,hc,_⟩,_⟩:=h
  have e:ck d (.one (c::r) n)=c::(r++bc n):=by cases d<;>rfl
  exact⟨c,_,e, .inl ⟨hc,_,_,rfl⟩⟩
 |gr ts n=>
  cases d with
  |zero=>exact h.elim
  |succ d=>exact⟨40,_,rfl, .inr ⟨rfl,_,_,rfl⟩⟩
theorem EO:ay ["self","around"] ["self","around"] (ak nX):=dN
def kK(X:Addr):Sp:=fun vs H Q _=>∃(p dx l:Addr) (c:Int) (xs:List V),vs=[.ref p, .ref l, .int c]∧H p=some (.ins X dx [])∧H l=some (.lst xs)∧
 ∀n H',H n=none→H' p=some (.ins X dx (kE n c))→H' n=some (.lst xs)→(∀b o,H b=some o→b≠p→H' b=some o)→Q .cn H'
theorem d8{H:Hp}{a b m:Addr}{o o':HO}(h:(upd (upd H a o) b o') m=none):H m=none:=by
 by_cases e:m=b
 ·rw[e,ag] at h;cases h
 ·rw[ao e] at h
  by_cases e':m=a
  ·rw[e',ag] at h;cases h
  ·rwa [ao e'] at h
theorem Iy(l:List Nat):Stop (41::l):=by
 refine⟨?_,?_,?_,?_⟩<;>(intro c hc;have e:41=c:=by simpa using hc)<;>subst e<;>decide
theorem n8:ay ["self","around","parts"] ["self","around"] (ak jf):=dN
theorem tU{d:Nat}:∀{ts:List Tr},(∀t∈ts,o9 d t)→ts.length≤(ts.flatMap (ck d)).length
 | [],_=>Nat.le_refl _
 |t::ts,h=>by
  obtain⟨c,r,e,_⟩:=rA (h t (List.mem_cons_self ..))
  have:=tU (d:=d) (ts:=ts) fun u hu=>h u (List.mem_cons_of_mem _ hu)
  rw[List.flatMap_cons,List.length_append,e,List.length_cons,List.length_cons]
  omega
theorem list_at{α:Type}{l:List α}{i:Nat}(h:i<l.length):l=l.take i++l[i]::l.drop (i+1):=by
 conv=>lhs;rw[←List.take_append_drop i l]
 congr 1
 exact List.drop_eq_getElem_cons h
theorem n9{d:Nat}{ts:List Tr}{post:List Nat}(h:∀t∈ts,o9 d t)(hs:Stop post):Not bK (ts.flatMap (ck d)++post)∧Not gk (ts.flatMap (ck d)++post):=by
 cases ts with
 |nil=>exact⟨hs.1,hs.2.1⟩
 |cons t ts=>
  obtain⟨c,r,e,hc⟩:=rA (h t (List.mem_cons_self ..))
  have hc:gS c=true∨c=40:=hc.elim (fun z=> .inl z.1) fun z=> .inr z.1
  rw[List.flatMap_cons,e]
  refine⟨fun b hb=>?_,fun b hb=>?_⟩<;>have eb:c=b:=by simpa using hb
  ·subst eb
   rcases hc with hc|rfl
   ·simp only [gS,bK,Bool.and_eq_true,decide_eq_true_eq] at*
    simp
    omega
   ·decide
  ·subst eb
   rcases hc with hc|rfl
   ·simp only [gS,gk,Bool.and_eq_true,decide_eq_true_eq] at*
    simp
    omega
   ·decide
theorem bY{α β:Type}{p q:α→β→Prop}(h:∀a b,p a b→q a b):∀{as:List α} {bs:List β},Paired p as bs→Paired q as bs
 |_,_, .nil=> .nil
 |_,_, .cons x t=> .cons (h _ _ x) (bY h t)
theorem f9{α β:Type}{p:α→β→Prop}{a:α}{b:β}(x:p a b):∀{as:List α} {bs:List β},Paired p as bs→Paired p (as++[a]) (bs++[b])
 |_,_, .nil=> .cons x .nil
 |_,_, .cons y t=> .cons y (f9 x t)
theorem tV:ay ["self","around","parts"] ["self","around"] (ak ku):=dN
def iA(n:Int):List Nat:=if n=0 then [] else 94::(bc (if n<0 then -n else n)++[if 0<n then 43 else 45])
def R8(post:List Nat):Prop:=post=[]∨∃r,post=32::r
theorem R8.stop{post:List Nat}(h:R8 post):Stop post:=by
 rcases h with rfl| ⟨r,rfl⟩
 ·refine⟨?_,?_,?_,?_⟩<;>(intro c hc;cases hc)
 ·refine⟨?_,?_,?_,?_⟩<;>(intro c hc;have e:32=c:=by simpa using hc)<;>subst e<;>decide
structure LQ(K:PySem.W.Frag)(mg:Str→Option Value)(C R:Addr)(uK uN uC uP uI:Tok):Prop extends o8 K mg C R uK uN where
 gq:mg "CHARGE_MARK" =some (.str "^" uC)
 BO:mg "PLUS" =some (.str "+" uP)
 rB:mg "MINUS" =some (.str "-" uI)
theorem Iz:("^" :Str)=⟨#[94]⟩:=by decide+kernel
theorem R9:("+" :Str)=⟨#[43]⟩:=by decide+kernel
theorem LR:("-" :Str)=⟨#[45]⟩:=by decide+kernel
theorem pW:ay ["self","count"] ["self"] (ak ky):=dN
theorem R':¬(("pieces" :Str)="charge"):=by decide+kernel
def lW(l:Addr)(n:Int):List (Str×V):=c9 "charge" (.int n) (c9 "pieces" (.ref l) [])
theorem kL(l:Addr)(n:Int):(lW l n).lookup ("pieces" :Str)=some (.ref l):=by
 unfold lW
 rw[aK,if_neg R',aK,if_pos rfl]
theorem rC(l:Addr)(n:Int):(lW l n).lookup ("charge" :Str)=some (.int n):=by
 unfold lW
 rw[aK,if_pos rfl]
theorem tW(l:Addr)(n:Int){m:Str}(h1:¬m="charge")(h2:¬m="pieces"):(lW l n).lookup m=none:=by
 unfold lW
 rw[aK,if_neg h1,aK,if_neg h2]
 all_goals rfl
def rD(X:Addr):Sp:=fun vs H Q _=>∃(p dx l:Addr) (c:Int) (xs:List V),vs=[.ref p, .ref l, .int c]∧H p=some (.ins X dx [])∧H l=some (.lst xs)∧
 ∀n H',H n=none→H' p=some (.ins X dx (lW n c))→H' n=some (.lst xs)→(∀b o,H b=some o→b≠p→H' b=some o)→Q .cn H'
abbrev eU:=Int×List Tr
def jT(C G Pc:Addr)(d:Nat)(H:Hp)(p:Addr)(x:eU):Prop:=∃dx l ps,H p=some (.ins Pc dx (kE l x.1))∧H l=some (.lst (ps.map V.ref))∧Paired (d7 C G d H) ps x.2
def oa(C G Pc Fo:Addr)(d:Nat)(H:Hp)(f:Addr)(xs:List eU)(n:Int):Prop:=∃dx l ps,H f=some (.ins Fo dx (lW l n))∧H l=some (.lst (ps.map V.ref))∧Paired (jT C G Pc d H) ps xs
def LS(C G Pc L:Addr)(d:Nat)(H H':Hp)(p:Addr)(x:eU):Prop:=∀cu,(∀b o,H b=none→b≠L→H' b=some o→cu b=some o)→jT C G Pc d cu p x
def LU(C G Pc Fo:Addr)(d:Nat)(H H':Hp)(f:Addr)(xs:List eU)(n:Int):Prop:=∀cu,(∀b o,H b=none→H' b=some o→cu b=some o)→oa C G Pc Fo d cu f xs n
def jF(d:Nat)(x:eU):List Nat:=bc x.1++x.2.flatMap (ck d)
def cA(d:Nat)(xs:List eU):List Nat:=xs.flatMap fun x=>46::jF d x
def wL(d:Nat):List eU→Int→List Nat
 | [],_=>[101,94,45]
 |x::r,n=>x.2.flatMap (ck d)++(cA d r++iA n)
def Gs(d:Nat)(x:eU):Prop:=x.2≠[]∧(∀t∈x.2,o9 d t)∧1≤x.1∧x.1≤999
def sF(d:Nat):List eU→Int→Prop
 | [],n=>n= -1
 |x::r,n=>x.1=1∧(∀y∈x::r,Gs d y)∧ -999≤n∧n≤999
structure pb(K:PySem.W.Frag)(mg:Str→Option Value)(C R G Pc Fo:Addr)(uK uN uB uE uM uC uP uI uD uL uT:Tok):Prop extends rq K mg C R G uK uN uB uE uM,LQ K mg C R uK uN uC uP uI where
 dw:qy K Pc
 bN:qy K Fo
 pX:cz K Pc "parts"
 pY:cz K Pc "count"
 jU:cz K Fo "pieces"
 og:cz K Fo "charge"
 xZ:mg "Piece" =some (.ref Pc)
 pZ:mg "Formula" =some (.ref Fo)
 oh:mg "ChangeReader" =some (.ref R)
 iW:mg "PIECE_DOT" =some (.str "." uD)
 jV:mg "ELECTRON" =some (.str "e^-" uL)
 oj:mg "LONGEST_TEXT" =some (.int 400 uT)
 n_list:mg "list" =none
 BP:mg "abs" =none
theorem eE:("e^-" :Str)=⟨#[101,94,45]⟩:=by decide+kernel
theorem tX:ay ["self"] ["self"] (ak g8):=dN
theorem x2(n:Int):iA n=[]∨∃r,iA n=94::r:=by
 unfold iA
 split
 ·exact .inl rfl
 ·exact .inr ⟨_,rfl⟩
theorem p6{c:Nat}{l:List Nat}(h:c=46∨c=94):Stop (c::l):=by
 refine⟨?_,?_,?_,?_⟩<;>(intro b hb;have e:c=b:=by simpa using hb)<;>subst e<;>rcases h with rfl|rfl<;>decide
theorem zT(d:Nat)(xs:List eU)(n:Int){post:List Nat}(Zm:R8 post):Stop (cA d xs++(iA n++post)):=by
 cases xs with
 |nil=>
  show Stop (iA n++post)
  rcases x2 n with e| ⟨r,e⟩
  ·rw[e];exact Zm.stop
  ·rw[e];exact p6 (.inr rfl)
 |cons x r=>exact p6 (.inl rfl)
theorem x3(d:Nat):∀xs:List eU,xs.length≤(cA d xs).length
 | []=>Nat.le_refl _
 |y::r=>by
  have ih:=x3 d r
  show r.length+1≤(46::jF d y++cA d r).length
  rw[List.length_append,List.length_cons]
  omega
theorem IA:("." :Str)=⟨#[46]⟩:=by decide+kernel
theorem om:ay ["self","pieces","count"] ["self"] (ak mJ):=dN
theorem zU:ay ["text"] ["text"] (ak ko):=dN
theorem ES:∀(w:List Nat),w.all bK=true→w.head? ≠some 48→w≠[]→∃n:Nat,0<n∧(Nat.toDigits 10 n).map Char.toNat=w∧n<10^w.length:=by
 have one:∀c:Nat,c<10→(Nat.toDigits 10 c).map Char.toNat=[c+48]:=by decide
 intro w
 induction hl:w.length generalizing w with
 |zero=>intro _ _ h;exact absurd (List.length_eq_zero_iff.mp hl) h
 |succ m ih=>
  intro ha hh _
  obtain⟨v,c,rfl⟩:∃v c,w=v++[c]:=⟨w.dropLast,w.getLast (by intro z;rw[z] at hl;cases hl),(List.dropLast_concat_getLast _).symm⟩
  rw[List.all_append,Bool.and_eq_true] at ha
  obtain⟨ha,hc⟩:=ha
  have hc:48≤c∧c≤57:=by simpa [bK] using hc
  have hv:v.length=m:=by simpa using hl
  cases v with
  |nil=>
   have hc0:c≠48:=fun z=>hh (by rw[z];rfl)
   refine⟨c - 48,by omega,?_,by have:m=0:=hv.symm;subst this;omega⟩
   rw[one (c - 48) (by omega)]
   show [c - 48+48]=[c]
   rw[Nat.sub_add_cancel hc.1]
  |cons b r=>
   obtain⟨n,n0,en,nl⟩:=ih (b::r) hv ha (fun z=>hh (by simpa using z)) (by simp)
   refine⟨10*n+(c - 48),by omega,?_,?_⟩
   ·rw[←Nat.toDigits_append_toDigits (by decide) n0 (by omega:c - 48<10),List.map_append,en,one (c - 48) (by omega),Nat.sub_add_cancel hc.1]
   ·have:m+1=(b::r).length+1:=by omega
    rw[Nat.pow_succ]
    omega
theorem IB{w:List Nat}(ha:w.all bK=true)(hh:w.head? ≠some 48)(h1:w≠[49]):∃n:Nat,bc (n:Int)=w∧0<n∧(w=[]∧n=1∨w≠[]∧n≠1)∧n<10^(w.length+1)∧(w≠[]→n<10^w.length):=by
 by_cases hw:w=[]
 ·subst hw
  exact⟨1,gm,by decide, .inl ⟨rfl,rfl⟩,by decide,fun z=>absurd rfl z⟩
 ·obtain⟨n,n0,en,nl⟩:=ES w ha hh hw
  have n1:n≠1:=fun z=>h1 (by rw[←en,z];rfl)
  exact⟨n,by rw[fG n1,en],n0, .inr ⟨hw,n1⟩,Nat.lt_of_lt_of_le nl (Nat.pow_le_pow_right (by decide) (by omega)),fun _=>nl⟩
abbrev sf(x:Str)(p:Nat):List Nat:=x.cps.toList.drop p
def jA(lg:Nat)(u:List Nat)(n:Int)(v:List Nat):Prop:=u=bc n++v∧1≤n∧n<10^lg∧(bc n).length≤lg∧(Not bK v∨(bc n).length=lg)
def rE(u v:List Nat):Prop:=v=u∧u.head? =some 48∨u=49::v∧Not bK v
def jG(u k:List Nat)(n:Int)(v:List Nat):Prop:=∃w,u=k++w∧rn k∧(k.length=3∨Not gk w)∧jA 3 w n v
def x4(u v:List Nat):Prop:=v=u∧Not gS u∨∃k w,u=k++w∧rn k∧(k.length=3∨Not gk w)∧rE w v
def More(u:List Nat):Prop:=∃c,u.head? =some c∧(gS c=true∨c=40)
inductive Sq(p:List Nat→Tr→List Nat→Prop)(u:List Nat):List Tr→List Nat→Prop
 |one (t:Tr) (v:List Nat) (h:p u t v):Sq p u [t] v
 |snoc (ts:List Tr) (w:List Nat) (t:Tr) (v:List Nat) (s:Sq p u ts w) (m:More w) (h:p w t v):Sq p u (ts++[t]) v
def DG(p:List Nat→Tr→List Nat→Prop)(u:List Nat)(ts:List Tr)(v:List Nat):Prop:=Sq p u ts v∧¬More v
def Ko(p:List Nat→Tr→List Nat→Prop)(b:List Nat→List Nat→Prop)(u v:List Nat):Prop:=b u v∨∃ts w,Sq p u ts w∧More w∧b w v
def jW:Nat→List Nat→Tr→List Nat→Prop
 |0,u,t,v=>∃k n,t= .one k n∧jG u k n v
 |d+1,u,t,v=>(u.head? ≠some 40∧∃k n,t= .one k n∧jG u k n v)∨∃u' ts n w,u=40::u'∧t= .gr ts n∧DG (jW d) u' ts (41::w)∧jA 3 w n v
def IC:Nat→List Nat→List Nat→Prop
 |0,u,v=>x4 u v
 |d+1,u,v=>(u.head? ≠some 40∧x4 u v)∨∃u',u=40::u'∧(Ko (jW d) (IC d) u' v∨(∃ts,DG (jW d) u' ts v∧v.head? ≠some 41)∨∃ts w,DG (jW d) u' ts (41::w)∧rE w v)
def Ql(u:List Nat)(n:Int)(v:List Nat):Prop:=(u.head? ≠some 94∧n=0∧v=u)∨∃u' m w,u=94::u'∧jA 3 u' m w∧(w=45::v∧n= -m∨w=43::v∧n=m)
def Xp(u v:List Nat):Prop:=∃u',u=94::u'∧(rE u' v∨∃m,jA 3 u' m v∧v.head? ≠some 45∧v.head? ≠some 43)
def Xq(u v:List Nat):Prop:=u=101::v∧v.head? ≠some 94∨u=101::94::v∧v.head? ≠some 45
inductive vk(u:List Nat):List eU→List Nat→Prop
 |one (ts:List Tr) (v:List Nat) (h:DG (jW 4) u ts v):vk u [(1,ts)] v
 |snoc (ps:List eU) (w:List Nat) (m:Int) (w1:List Nat) (ts:List Tr) (v:List Nat) (s:vk u ps (46::w)) (n:jA 3 w m w1) (h:DG (jW 4) w1 ts v):vk u (ps++[(m,ts)]) v
def DH(u:List Nat)(xs:List eU)(n:Int)(v:List Nat):Prop:=(u=101::94::45::v∧xs=[]∧n= -1)∨u.head? ≠some 101∧∃w,vk u xs w∧w.head? ≠some 46∧Ql w n v
def LV(u v:List Nat):Prop:=Xq u v∨u.head? ≠some 101∧(Ko (jW 4) (IC 4) u v∨(∃ps w,vk u ps (46::w)∧(rE w v∨∃m w1,jA 3 w m w1∧Ko (jW 4) (IC 4) w1 v))∨∃ps w,vk u ps w∧w.head? ≠some 46∧Xp w v)
theorem iX(x:Str)(p:Nat):(sf x p).length=x.length - p:=by
 unfold sf
 rw[List.length_drop]
 simp [Str.length]
theorem BQ(x:Str)(p:Nat):e9 x p=⟨((sf x p).take 1).toArray⟩:=rfl
theorem dS{x:Str}{p c:Nat}:(V.str (e9 x p)=V.str (⟨#[c]⟩:Str))↔(sf x p).head? =some c:=by
 rw[BQ]
 cases hs:sf x p with
 |nil=>
  refine⟨fun z=>?_,fun z=>by cases z⟩
  have z:(⟨((([]:List Nat)).take 1).toArray⟩:Str)=⟨#[c]⟩:=by injection z
  have:=congrArg (fun s:Str=>s.cps.toList) z
  simp at this
 |cons b r=>
  refine⟨fun z=>?_,fun z=>?_⟩
  ·have z:(⟨((b::r).take 1).toArray⟩:Str)=⟨#[c]⟩:=by injection z
   have:=congrArg (fun s:Str=>s.cps.toList) z
   simpa using this
  ·have:b=c:=by simpa using z
   rw[this]
   rfl
theorem dz{x:Str}{p c:Nat}(h:(sf x p).head? =some c):sf x p=c::sf x (p+1)∧p+1≤x.length:=by
 have hl:=iX x p
 have ed:sf x (p+1)=(sf x p).drop 1:=by unfold sf;rw[List.drop_drop]
 cases hs:sf x p with
 |nil=>rw[hs] at h;cases h
 |cons b r=>
  rw[hs] at h hl ed
  have:b=c:=by simpa using h
  rw[List.length_cons] at hl
  exact⟨by rw[ed,this];rfl,by omega⟩
theorem oo{x:Str}{p:Nat}(lo hi:Nat):inR lo hi (e9 x p)=true↔∃c,(sf x p).head? =some c∧(decide (lo≤c)&&decide (c≤hi))=true:=by
 rw[BQ]
 cases hs:sf x p with
 |nil=>exact⟨fun z=>(by cases z),fun⟨c,z,_⟩=>(by cases z)⟩
 |cons b r=>
  refine⟨fun z=>⟨b,rfl,z⟩,fun⟨c,z,h⟩=>?_⟩
  have:b=c:=by simpa using z
  rw[this]
  exact h
theorem vZ{x:Str}{p lo hi:Nat}(h:inR lo hi (e9 x p)=false):Not (fun c=>decide (lo≤c)&&decide (c≤hi)) (sf x p):=fun c z=>by
 cases hb:(decide (lo≤c)&&decide (c≤hi)) with
 |false=>exact hb
 |true=>rw[(oo lo hi).mpr ⟨c,z,hb⟩] at h;cases h
theorem BR{x:Str}{p j:Nat}(h:p+j≤x.length):∃w,sf x p=w++sf x (p+j)∧w.length=j∧Txt.slice x (some (p:Int)) (some ((p+j:Nat):Int))=⟨w.toArray⟩:=by
 have hl:=iX x p
 have ed:sf x (p+j)=(sf x p).drop j:=by unfold sf;rw[List.drop_drop]
 refine⟨(sf x p).take j,by rw[ed,List.take_append_drop],by rw[List.length_take];omega,?_⟩
 apply ei
 rw[gR x (by omega) (by omega),Nat.add_sub_cancel_left]
variable {HE NF TL:Addr}
structure tY(K:PySem.W.Frag)(mg:Str→Option Value)(HE NF TL:Addr):Prop where
 eL:mg "HallError" =some (.ref HE)
 fe:Gu K HE
 lX:mg "NoFormula" =some (.ref NF)
 zV:mg "TooLong" =some (.ref TL)
 ET:PySem.W.takerIn K NF "place" =some none
 ID:PySem.W.takerIn K TL "many" =some none
theorem kM{n:Int}(h0:0≤n)(h:n<10^50):(toString n:Str).length≤50:=by
 obtain⟨m,rfl⟩:=Int.eq_ofNat_of_zero_le h0
 rw[PySem.ofString_length]
 show (Nat.repr m).length≤50
 rw[Nat.length_repr_le_iff (by decide)]
 omega
theorem kN{n:Int}(h0:0≤n)(h:n<10^50):n.natAbs.log2<1920:=by
 by_cases e:n.natAbs=0
 ·rw[e];decide
 ·have:=(Nat.log2_lt e (k:=200)).mpr (by omega)
  omega
def iY(X:Addr)(fld:Str):Sp:=fun vs H Q _=>∃(e:Addr) (n:Int),vs=[.ref e, .int n]∧H e=some (oZ e X none)∧0≤n∧n<10^50∧
 ∀dx H',H dx=none→dx≠e→H' e=some (oZ e X (some dx))→H' dx=some (xE dx [(fld, .int n)])→(∀b o,H b=some o→b≠e→H' b=some o)→Q .cn H'
theorem LW:ay ["self","place"] ["self","place"] (ak EA):=dN
theorem EU:ay ["self","many"] ["self","many"] (ak qS):=dN
theorem IE(D:lD K mg "NoFormula" NF HE "NoFormula.__init__" EA ["self","place"])(T:tY K mg HE NF TL):gi P w K mg base 1 "NoFormula" NF HE ["self","place"] (iY NF "place"):=by
 obtain⟨f0,_,_,Z,_⟩:=id D
 refine D.fW LW (fun vs H Q E h=>?_) (fun f bo A outer s H vs Q E hr h=>?_)
 ·obtain⟨e,n,rfl,_⟩:=h
  rfl
 ·obtain⟨e,n,rfl,he,n0,n1,q⟩:=h
  have big:(2000 :Nat)≤sizeLine:=by decide
  have z1:=kM n0 n1
  have y1:("no formula, by place " :Str).length=21:=by decide+kernel
  have y2:(" of the text" :Str).length=12:=by decide+kernel
  have y0:(Str.empty).length=0:=rfl
  refine⟨_,(aj
     (bF (kj rfl T.eL T.fe (pv 0) (mH (dM aN (dM (qO (pv 1)) (dM aN qP))))))
    (au
     (mG (pv 0) (pv 1) rfl))),?_⟩
  refine⟨_,rfl,_,rfl,?_,_,rfl, .inl ⟨_,rfl,kN n0 n1,_,rfl,?_,_,rfl,?_,?_,e,NF,HE,f0,none,rfl,Z,he,?_⟩⟩
  any_goals (simp only [aL,y0,y1,y2];omega)
  refine⟨_,rfl,_,rfl,e,NF,HE,f0,rfl,Z,T.ET, .inl ⟨he,fun dx iE jm=>?_⟩⟩
  refine q dx _ iE jm ag (by rw[ao jm,ag]) fun b o z nb=>?_
  rw[ao nb,ao (ai z iE)]
  exact z
theorem BS(D:lD K mg "TooLong" TL HE "TooLong.__init__" qS ["self","many"])(T:tY K mg HE NF TL):gi P w K mg base 1 "TooLong" TL HE ["self","many"] (iY TL "many"):=by
 obtain⟨f0,_,_,Z,_⟩:=id D
 refine D.fW EU (fun vs H Q E h=>?_) (fun f bo A outer s H vs Q E hr h=>?_)
 ·obtain⟨e,n,rfl,_⟩:=h
  rfl
 ·obtain⟨e,n,rfl,he,n0,n1,q⟩:=h
  have big:(2000 :Nat)≤sizeLine:=by decide
  have z1:=kM n0 n1
  have y1:("the text is too long to be read: " :Str).length=33:=by decide+kernel
  have y2:(" signs" :Str).length=6:=by decide+kernel
  have y0:(Str.empty).length=0:=rfl
  refine⟨_,(aj
     (bF (kj rfl T.eL T.fe (pv 0) (mH (dM aN (dM (qO (pv 1)) (dM aN qP))))))
    (au
     (mG (pv 0) (pv 1) rfl))),?_⟩
  refine⟨_,rfl,_,rfl,?_,_,rfl, .inl ⟨_,rfl,kN n0 n1,_,rfl,?_,_,rfl,?_,?_,e,TL,HE,f0,none,rfl,Z,he,?_⟩⟩
  any_goals (simp only [aL,y0,y1,y2];omega)
  refine⟨_,rfl,_,rfl,e,TL,HE,f0,rfl,Z,T.ID, .inl ⟨he,fun dx iE jm=>?_⟩⟩
  refine q dx _ iE jm ag (by rw[ao jm,ag]) fun b o z nb=>?_
  rw[ao nb,ao (ai z iE)]
  exact z
def Rz(NF:Addr)(H:Hp)(r:Addr)(E:XK)(e:Nat):Prop:=∀b dx H',H b=none→H dx=none→H' b=some (nP b NF (some dx))→H' dx=some (xE dx [("place", .int (e:Int))])→Kept r H H'→E (.ref NF) (some dx) H'
theorem Rz.on{NF:Addr}{H H1:Hp}{r:Addr}{E:XK}{e:Nat}{o:HO}(h:Rz NF H r E e)(k:Kept r H H1)(hr:H1 r=some o):Rz NF H1 r E e:=fun b dx H' nb nd h1 h2 k2=>h b dx H' (aX k hr nb) (aX k hr nd) h1 h2 (k.trans k2)
def ib(NF R:Addr):Sp:=fun vs H Q E=>∃(r:Addr) (x:Str) (p c:Nat),vs=[.ref r, .str ⟨#[c]⟩]∧cH R H r x p∧p≤x.length∧x.length≤1000∧
 ((sf x p).head? =some c→∀H',cH R H' r x (p+1)→Kept r H H'→Q .cn H')∧((sf x p).head? ≠some c→Rz NF H r E p)
def ic(NF R:Addr):Sp:=fun vs H Q E=>∃(r:Addr) (x:Str) (p:Nat) (s:Str),vs=[.ref r, .str s]∧s.cps.all (· <128)=true∧cH R H r x p∧p≤x.length∧x.length≤1000∧
 (sf x p=s.cps.toList++sf x (p+s.length)→p+s.length≤x.length→∀H',cH R H' r x (p+s.length)→Kept r H H'→Q .cn H')∧
 (∀i c,s.cps.toList[i]? =some c→sf x p=s.cps.toList.take i++sf x (p+i)→(sf x (p+i)).head? ≠some c→p+i≤x.length→Rz NF H r E (p+i))
theorem x5{H:Hp}{r:Addr}{E:XK}{e:Nat}(q:Rz NF H r E e){b dx:Addr}{H5:Hp}(hb:H b=none)(hd:H dx=none)(jm:dx≠b)(vm:H5 dx=some (xE dx [("place", .int (e:Int))]))(k5:∀b' o,(upd H b (oZ b NF none)) b'=some o→b'≠b→H5 b'=some o):E (.ref NF) (some dx) (upd H5 b (nP b NF (some dx))):=by
 refine q b dx _ hb hd ag (by rw[ao jm];exact vm) fun b' o z _=>?_
 have v7:b'≠b:=ai z hb
 rw[ao v7]
 exact k5 _ _ (by rw[ao v7];exact z) v7
theorem BU(D:bR K R "take" "Reader.take" xO ["self","sign"])(T:o8 K mg C R uK uN)(TE:tY K mg HE NF TL)(c1:cZ P w K mg base 1 R "sign" ["self"] (ia R))(c2:gi P w K mg base 1 "NoFormula" NF HE ["self","place"] (iY NF "place")):a9 P w K mg base 3 R "take" ["self","sign"] (ib NF R):=by
 obtain⟨_,_,av⟩:=c1
 obtain⟨_,_,aI⟩:=c2
 refine D.g7 Iv (fun vs H Q E h=>?_) (fun f bo A outer s H vs Q E hr h=>?_)
 ·obtain⟨r,x,p,c,rfl,_⟩:=h
  rfl
 ·obtain⟨r,x,p,c,rfl,⟨dx,hR⟩,hp,hx,q,qE⟩:=h
  refine⟨_,(aj
     (bB (aJ sO (bJ (pv 0) T.aw av.m av.ok (hr.mono (by decide)) av.b .nil aP) (pv 1) (aU _))
      (au
       (gO rfl aV (gN aI.z aI.ok (hr.mono (by decide)) rfl aI.g aI.kp aI.b (aa (bz (pv 0) rfl) ah))))
      aY)
    (au
     (ja (pv 0) aq qz))),?_⟩
  refine⟨_,rfl,r,dx,_,rfl,hR,aE _ _ (by decide+kernel) (by decide+kernel),r,x,p,rfl,⟨dx,hR⟩,hp,hx,_,rfl,rfl,_,rfl,?_⟩
  by_cases hc:(sf x p).head? =some c
  ·refine Ln (dS.mpr hc) ?_
   refine⟨_,rfl,r,R,dx,_,_,rfl,hR,T.aw,T.bx,a8 _ _,_,_,rfl,rfl,dx,_,hR,jj _ _,?_⟩
   refine q hc _ ⟨dx,?_⟩ fun b o e hb=>?_
   ·rw[ag]
    exact congrArg (fun z=>some (HO.ins R dx z)) (ji x p (p+1))
   ·rw[ao hb];exact e
  ·have ne:¬V.str (e9 x p)=V.str (⟨#[c]⟩:Str):=fun z=>hc (dS.mp z)
   rw[decide_eq_false ne]
   refine dJ ⟨_,rfl,r,R,dx,_,_,rfl,hR,T.aw,T.bx,a8 _ _,(by show 1≤100;decide),fun b hb=>?_⟩
   refine⟨b,_,rfl,ag,by omega,by omega,fun cX H5 iE jm zW vm k5=>⟨rfl,b,NF,HE,_,some cX,rfl,aI.z,zW,?_⟩⟩
   exact x5 (qE hc) hb (by rw[ao jm] at iE;exact iE) jm vm k5
variable {HE NF TL:Addr}
theorem tZ(D:bR K R "take_all" "Reader.take_all" kr ["self","signs"])(T:o8 K mg C R uK uN)(c1:a9 P w K mg base 3 R "take" ["self","sign"] (ib NF R)):a9 P w K mg base 4 R "take_all" ["self","signs"] (ic NF R):=by
 obtain⟨_,_,aA⟩:=c1
 refine D.g7 pS (fun vs H Q E h=>?_) (fun f bo A outer s H vs Q E hr h=>?_)
 ·obtain⟨r,x,p,sg,rfl,_⟩:=h
  rfl
 ·obtain⟨r,x,p,sg,rfl,ha,hR,hp,hx,q,qE⟩:=h
  refine⟨_,(au
     (jK jQ rfl (HY (pv 1)) (bZ (i:=2) pS.nd rfl (Or.inl rfl))
      (au
       (bF (bE (pv 0) T.aw aA.m aA.ok (hr.mono (by decide)) aA.b .nil aV (aa (pv 2) ah)))))),?_⟩
  refine⟨_,rfl,sg,rfl,ha,Er (fun i σ H'=>∃v:Option V,σ=[some (.ref r),some (.str sg),v]∧cH R H' r x (p+i)∧Kept r H H'∧sf x p=sg.cps.toList.take i++sf x (p+i)∧p+i≤x.length) ⟨none,rfl,hR,Kept.refl r H,rfl,hp⟩ ?_ ?_⟩
  ·rintro i c σ H' hc ⟨v,rfl,⟨dx,cM⟩,kk,es,Qm⟩
   have Dz:sg.cps.toList[i]? =some c:=by rw[Array.getElem?_toList];exact hc
   refine⟨_,rfl,r,dx,_,rfl,cM,aE _ _ (by decide+kernel) (by decide+kernel),_,rfl,r,x,p+i,c,rfl,⟨dx,cM⟩,Qm,hx,fun hd cu Sa Zn=>?_,fun hd=>(qE i c Dz es hd Qm).on kk cM⟩
   obtain⟨e1,e2⟩:=dz hd
   refine⟨_,rfl,Sa,kk.trans Zn,?_,e2⟩
   rw[es,e1,List.take_add_one,Dz,List.append_assoc]
   rfl
  ·rintro σ H' ⟨v,rfl,cM,kk,es,Qm⟩
   have hl:sg.cps.toList.length=sg.length:=by simp [Str.length]
   refine q ?_ Qm _ cM kk
   have:sg.cps.toList.take sg.length=sg.cps.toList:=List.take_of_length_le (by omega)
   rw[←this]
   exact es
def lG(NF R:Addr):Sp:=fun vs H Q E=>∃(r:Addr) (x:Str) (p lg:Nat),vs=[.ref r, .int (lg:Int)]∧cH R H r x p∧p≤x.length∧x.length≤1000∧2≤lg∧lg≤12∧
 (∀n q H',jA lg (sf x p) n (sf x q)→p≤q→q≤x.length→cH R H' r x q→Kept r H H'→Q (.int n) H')∧(∀e,rE (sf x p) (sf x e)→p≤e→e≤x.length→Rz NF H r E e)
def fw(NF R:Addr):Sp:=fun vs H Q E=>∃(r:Addr) (x:Str) (p:Nat),vs=[.ref r]∧cH R H r x p∧p≤x.length∧x.length≤1000∧
 (∀n q H',jA 3 (sf x p) n (sf x q)→p≤q→q≤x.length→cH R H' r x q→Kept r H H'→Q (.int n) H')∧(∀e,rE (sf x p) (sf x e)→p≤e→e≤x.length→Rz NF H r E e)
theorem v8(D:bR K R "read_number" "Reader.read_number" kx ["self","longest"])(T:o8 K mg C R uK uN)(TE:tY K mg HE NF TL)(c1:cZ P w K mg base 1 R "sign" ["self"] (ia R))(c2:bD P w K mg base 1 "is_figure" ["sign"] (Gy 48 57))(c3:gi P w K mg base 1 "NoFormula" NF HE ["self","place"] (iY NF "place")):a9 P w K mg base 3 R "read_number" ["self","longest"] (lG NF R):=by
 obtain⟨_,_,av⟩:=c1
 obtain⟨_,_,gb⟩:=c2
 obtain⟨_,_,aI⟩:=c3
 refine D.g7 lF (fun vs H Q E h=>?_) (fun f bo A outer s H vs Q E hr h=>?_)
 ·obtain⟨r,x,p,lg,rfl,_⟩:=h
  rfl
 ·obtain⟨r,x,p,lg,rfl,⟨dx,hR⟩,hp,hx,l2,Zo,q,qE⟩:=h
  have big:(1000 :Nat)≤sizeLine:=by decide
  have e0:("0" :Str)=⟨#[48]⟩:=by decide+kernel
  have e1:("1" :Str)=⟨#[49]⟩:=by decide+kernel
  refine⟨_,(aj
     (bB (aJ cw (bJ (pv 0) T.aw av.m av.ok (hr.mono (by decide)) av.b .nil aP) aN (aU _))
      (au
       (gO rfl aV (gN aI.z aI.ok (hr.mono (by decide)) rfl aI.g aI.kp aI.b (aa (bz (pv 0) rfl) ah))))
      aY)
    (aj
     (aO (i:=2) lF.nd rfl (Or.inl rfl) (bz (pv 0) rfl))
    (aj
     (gy jQ (PW.pt (lb (dC (aM gb.ok (hr.mono (by decide)) rfl gb.g gb.kp gb.b .nil aP (aa (bJ (pv 0) T.aw av.m av.ok (hr.mono (by decide)) av.b .nil aP) ah))) (i8 (aJ xt (ax nD (bz (pv 0) rfl) (pv 2)) (pv 1) (aU _)))))
      (au
       (ja (pv 0) aq qz)))
    (aj
     (aO (i:=3) lF.nd rfl (Or.inl rfl) (cE eR (bz (pv 0) rfl) (cq (pv 2)) (cq (bz (pv 0) rfl))))
    (aj
     (bB (aJ cw (pv 3) aN (aU _))
      (au
       (gO rfl aV (gN aI.z aI.ok (hr.mono (by decide)) rfl aI.g aI.kp aI.b (aa (bz (pv 0) rfl) ah))))
      aY)
    (au
     (aB (sM (sP (pv 3) (fun _=>rfl)) (bX zD rfl T.pQ nN (aa (pv 3) ah)) aq)))))))),?_⟩
  refine⟨_,rfl,r,dx,_,rfl,hR,aE _ _ (by decide+kernel) (by decide+kernel),r,x,p,rfl,⟨dx,hR⟩,hp,hx,rfl,_,rfl,?_⟩
  by_cases h0:(sf x p).head? =some 48
  ·refine eI (by rw[e0];exact dS.mpr h0) ⟨_,rfl,r,R,dx,_,_,rfl,hR,T.aw,T.bx,a8 _ _,(by show 1≤100;decide),fun b hb=>?_⟩
   refine⟨b,_,rfl,ag,by omega,by omega,fun cX H5 iE jm zW vm k5=>⟨rfl,b,NF,HE,_,some cX,rfl,aI.z,zW,?_⟩⟩
   exact x5 (qE p (.inl ⟨rfl,h0⟩) (Nat.le_refl _) hp) hb (by rw[ao jm] at iE;exact iE) jm vm k5
  refine dR (by rw[e0];exact fun z=>h0 (dS.mp z)) ?_
  refine⟨_,rfl,r,R,dx,_,_,rfl,hR,T.aw,T.bx,a8 _ _,?_⟩
  refine⟨fun k σ H'=>∃j:Nat,k+j=lg∧p+j≤x.length∧(∃w,sf x p=w++sf x (p+j)∧w.length=j∧w.all bK=true)∧σ=[some (.ref r),some (.int lg),some (.int p),none]∧cH R H' r x (p+j)∧Kept r H H',⟨lg,0,by omega,hp,⟨[],rfl,rfl,rfl⟩,rfl,⟨dx,hR⟩,Kept.refl r H⟩,?_⟩
  rintro k σ H' ⟨j,hk,hj,⟨w,ew,wl,wf⟩,rfl,⟨cX,cM⟩,kk⟩
  have wh:w.head? ≠some 48:=fun z=>h0 (by
   rw[ew]
   cases w with
   |nil=>cases z
   |cons c r=>simpa using z)
  refine⟨_,rfl,r,cX,_,rfl,cM,aE _ _ (by decide+kernel) (by decide+kernel),r,x,p+j,rfl,⟨cX,cM⟩,hj,hx,_,rfl,kH _ _,_,rfl,?_⟩
  by_cases hf:inR 48 57 (e9 x (p+j))=true∧j<lg
  ·obtain⟨ev,Zp⟩:=hf
   obtain⟨c,hc,cF⟩:=(oo 48 57).mp ev
   rw[ev]
   refine dJ ⟨_,rfl,r,R,cX,_,_,rfl,cM,T.aw,T.bx,a8 _ _,_,rfl,_,_,rfl,rfl,_,rfl,_,_,rfl,rfl,_,rfl,eI (by omega) ?_⟩
   refine⟨_,fun σ' cu h=>⟨k - 1,by omega,h⟩,?_⟩
   obtain⟨Sb,Xr⟩:=dz hc
   refine⟨_,rfl,r,R,cX,_,_,rfl,cM,T.aw,T.bx,a8 _ _,_,_,rfl,rfl,cX,_,cM,jj _ _,?_⟩
   refine⟨j+1,by omega,Xr,⟨w++[c],by rw[ew,Sb,List.append_assoc];rfl,by rw[List.length_append,wl];rfl,by rw[List.all_append,wf];simpa [bK] using cF⟩,rfl,⟨cX,?_⟩,fun b o z w=>?_⟩
   ·rw[ag]
    exact congrArg (fun z=>some (HO.ins R cX z)) (ji x (p+j) (p+j+1))
   ·rw[ao w];exact kk b o z w
  have he:Not bK (sf x (p+j))∨j=lg:=by
   cases ev:inR 48 57 (e9 x (p+j)) with
   |true=>exact .inr (by have:¬j<lg:=fun z=>hf ⟨ev,z⟩;omega)
   |false=>exact .inl (vZ ev)
  have ec:Txt.slice x (some (p:Int)) (some ((p+j:Nat):Int))=⟨w.toArray⟩:=by
   obtain⟨w',Sb,Xr,Zq⟩:=BR hj
   rw[Zq,List.append_cancel_right (Sb.symm.trans ew)]
  cases ev:inR 48 57 (e9 x (p+j))
  case' true=>
   refine dJ ⟨_,rfl,r,R,cX,_,_,rfl,cM,T.aw,T.bx,a8 _ _,_,rfl,_,_,rfl,rfl,_,rfl,_,_,rfl,rfl,_,rfl,dR (by have:¬j<lg:=fun z=>hf ⟨ev,z⟩;omega) ?_⟩
  case' false=>
   refine cQ (cQ ?_)
  all_goals
   refine⟨_,rfl,r,R,cX,_,_,rfl,cM,T.aw,T.jk,fI _ _,_,rfl,_,rfl,_,rfl,r,R,cX,_,_,rfl,cM,T.aw,T.bx,a8 _ _,_,rfl,x,rfl,by omega,?_⟩
   rw[ec]
   by_cases Sd:w=[49]
   ·subst Sd
    have Xc:j=1:=wl.symm
    refine⟨_,rfl,rfl,_,rfl,eI (by rw[e1]) ⟨_,rfl,r,R,cX,_,_,rfl,cM,T.aw,T.bx,a8 _ _,(by show 1≤100;decide),fun b hb=>?_⟩⟩
    refine⟨b,_,rfl,ag,by omega,by omega,fun jR H5 iE jm zW vm k5=>⟨rfl,b,NF,HE,_,some jR,rfl,aI.z,zW,?_⟩⟩
    exact x5 ((qE (p+j) (.inr ⟨ew,he.elim id fun z=>by omega⟩) (by omega) hj).on kk cM) hb (by rw[ao jm] at iE;exact iE) jm vm k5
   ·obtain⟨n,en,n0,hn,_,nl⟩:=IB wf wh Sd
    have es:(⟨w.toArray⟩:Str)=du (n:Int):=ei (by rw[←en];rfl)
    have nw:¬V.str (du (n:Int))=V.str "1" :=by
     rw[←es,e1]
     intro z
     have z:(⟨w.toArray⟩:Str)=⟨#[49]⟩:=by injection z
     exact Sd (by have:=congrArg (fun s:Str=>s.cps.toList) z;simpa using this)
    have lf:(du (n:Int)).length=j:=by rw[←es,←wl];simp [Str.length]
    have nb:n<10^lg:=by
     by_cases hw:w=[]
     ·have:n=1:=by rcases hn with z|z;exact z.2;exact absurd hw z.1
      rw[this]
      exact Nat.one_lt_pow (by omega) (by decide)
     ·exact Nat.lt_of_lt_of_le (nl hw) (Nat.pow_le_pow_right (by decide) (by omega))
    have Xs:n<10^12:=Nat.lt_of_lt_of_le nb (Nat.pow_le_pow_right (by decide) Zo)
    have fin:=q n (p+j) H' ⟨by rw[en];exact ew,by omega,by exact_mod_cast nb,by rw[en];omega,by rw[en,wl];exact he⟩ (by omega) hj ⟨cX,cM⟩ kk
    rw[es]
    refine⟨_,rfl,rfl,_,rfl,dR nw ?_⟩
    refine⟨_,rfl,_,⟨by rw[lf];omega,rfl⟩,?_⟩
    rcases hn with ⟨hw,hn⟩ | ⟨hw,hn⟩
    ·have ez:(((du (n:Int)).length:Int) != 0)=false:=by rw[lf,←wl,hw];rfl
     rw[ez]
     rw[hn] at fin
     exact cQ fin
    ·have ez:(((du (n:Int)).length:Int) != 0)=true:=by
      rw[lf,←wl]
      have:w.length≠0:=fun z=>hw (List.length_eq_zero_iff.mp z)
      simp only [bne_iff_ne,ne_eq]
      omega
     rw[ez]
     exact dJ ⟨_,rfl,_,_,rfl,EH n Xs hn,by rw[lf];omega,fin⟩
theorem wa(D:bR K R "read_count" "Reader.read_count" mK ["self"])(T:o8 K mg C R uK uN)(c1:a9 P w K mg base 3 R "read_number" ["self","longest"] (lG NF R)):a9 P w K mg base 4 R "read_count" ["self"] (fw NF R):=by
 obtain⟨_,_,br⟩:=c1
 refine D.g7 BM (fun vs H Q E h=>?_) (fun f bo A outer s H vs Q E hr h=>?_)
 ·obtain⟨r,x,p,rfl,_⟩:=h
  rfl
 ·obtain⟨r,x,p,rfl,⟨dx,hR⟩,hp,hx,q,qE⟩:=h
  refine⟨_,(au
     (aB (bE (pv 0) T.aw br.m br.ok (hr.mono (by decide)) br.b .nil aV (aa (aQ (v:= .int 3) rfl T.mi ⟨_,rfl⟩) ah)))),?_⟩
  exact⟨_,rfl,r,dx,_,rfl,hR,aE _ _ (by decide+kernel) (by decide+kernel),r,x,p,3,rfl,⟨dx,hR⟩,hp,hx,by decide,by decide,q,qE⟩
variable {HE NF TL:Addr}
def oq(NF C R:Addr):Sp:=fun vs H Q E=>∃(r:Addr) (x:Str) (p:Nat),vs=[.ref r]∧cH R H r x p∧p≤x.length∧x.length≤1000∧
 (∀k n q a H',jG (sf x p) k n (sf x q)→p≤q→q≤x.length→H a=none→fF C H' a ⟨k.toArray⟩ n→cH R H' r x q→Kept r H H'→Q (.ref a) H')∧(∀e,x4 (sf x p) (sf x e)→p≤e→e≤x.length→Rz NF H r E e)
theorem zX(D:bR K R "read_atom" "Reader.read_atom" qY ["self"])(T:o8 K mg C R uK uN)(TE:tY K mg HE NF TL)(c1:cZ P w K mg base 1 R "sign" ["self"] (ia R))(c2:bD P w K mg base 1 "is_great" ["sign"] (Gy 65 90))(c3:bD P w K mg base 1 "is_small" ["sign"] (Gy 97 122))(c4:a9 P w K mg base 4 R "read_count" ["self"] (fw NF R))
  (c5:fD P w K mg base 1 C ["self","kind","count"] [1] (BF C)) (c6:gi P w K mg base 1 "NoFormula" NF HE ["self","place"] (iY NF "place")):a9 P w K mg base 5 R "read_atom" ["self"] (oq NF C R):=by
 obtain⟨_,_,av⟩:=c1
 obtain⟨_,_,cC⟩:=c2
 obtain⟨_,_,ie⟩:=c3
 obtain⟨_,_,aH⟩:=c4
 obtain⟨_,_,hZ⟩:=c5
 obtain⟨_,BV,BW⟩:=hZ.b 1 (by decide)
 obtain⟨_,_,aI⟩:=c6
 refine D.g7 rp (fun vs H Q E h=>?_) (fun f bo A outer s H vs Q E hr h=>?_)
 ·obtain⟨r,x,p,rfl,_⟩:=h
  rfl
 ·obtain⟨r,x,p,rfl,⟨dx,hR⟩,hp,hx,q,qE⟩:=h
  have big:(1000 :Nat)≤sizeLine:=by decide
  refine⟨_,(aj
     (bB (vx (dC (aM cC.ok (hr.mono (by decide)) rfl cC.g cC.kp cC.b .nil aP (aa (bJ (pv 0) T.aw av.m av.ok (hr.mono (by decide)) av.b .nil aP) ah))))
      (au
       (gO rfl aV (gN aI.z aI.ok (hr.mono (by decide)) rfl aI.g aI.kp aI.b (aa (bz (pv 0) rfl) ah))))
      aY)
    (aj
     (aO (i:=1) rp.nd rfl (Or.inl rfl) (bz (pv 0) rfl))
    (aj
     (ja (pv 0) aq qz)
    (aj
     (gy jQ (PW.pt (lb (dC (aM ie.ok (hr.mono (by decide)) rfl ie.g ie.kp ie.b .nil aP (aa (bJ (pv 0) T.aw av.m av.ok (hr.mono (by decide)) av.b .nil aP) ah))) (i8 (aJ xt (ax nD (bz (pv 0) rfl) (pv 1)) (aQ (v:= .int 3) rfl T.n6 ⟨_,rfl⟩) (aU _)))))
      (au
       (ja (pv 0) aq qz)))
    (aj
     (aO (i:=2) rp.nd rfl (Or.inl rfl) (cE eR (bz (pv 0) rfl) (cq (pv 1)) (cq (bz (pv 0) rfl))))
    (au
     (aB (fU hZ.m hZ.ok (hr.mono (by decide)) rfl T.Io BW BV aP (aa (pv 2) (aa (bM (pv 0) T.aw aH.m aH.ok (hr.mono (by decide)) aH.b .nil aV) ah)))))))))),?_⟩
  refine⟨_,rfl,r,dx,_,rfl,hR,aE _ _ (by decide+kernel) (by decide+kernel),r,x,p,rfl,⟨dx,hR⟩,hp,hx,_,rfl,kH _ _,_,rfl,?_⟩
  cases ev:inR 65 90 (e9 x p) with
  |false=>
   refine dJ ⟨_,rfl,r,R,dx,_,_,rfl,hR,T.aw,T.bx,a8 _ _,(by show 1≤100;decide),fun b hb=>?_⟩
   refine⟨b,_,rfl,ag,by omega,by omega,fun jR H5 iE jm zW vm k5=>⟨rfl,b,NF,HE,_,some jR,rfl,aI.z,zW,?_⟩⟩
   exact x5 (qE p (.inl ⟨rfl,vZ ev⟩) (Nat.le_refl _) hp) hb (by rw[ao jm] at iE;exact iE) jm vm k5
  |true=>
  obtain⟨c,hc,cG⟩:=(oo 65 90).mp ev
  obtain⟨e1,e2⟩:=dz hc
  refine cQ ?_
  refine⟨_,rfl,r,R,dx,_,_,rfl,hR,T.aw,T.bx,a8 _ _,?_⟩
  refine⟨_,rfl,r,R,dx,_,_,rfl,hR,T.aw,T.bx,a8 _ _,_,_,rfl,rfl,dx,_,hR,jj _ _,?_⟩
  have dv:(upd H r (.ins R dx (c9 "place" (.int ((p:Int)+1)) (fH x p)))) r=some (.ins R dx (fH x (p+1))):=by
   rw[ag]
   exact congrArg (fun z=>some (HO.ins R dx z)) (ji x p (p+1))
  have k1:Kept r H (upd H r (.ins R dx (c9 "place" (.int ((p:Int)+1)) (fH x p)))):=fun b o z w=>by rw[ao w];exact z
  generalize upd H r _=H1 at dv k1 ⊢
  refine⟨fun m σ H'=>∃j:Nat,m+j=2∧p+1+j≤x.length∧(∃w,sf x (p+1)=w++sf x (p+1+j)∧w.length=j∧w.all gk=true)∧σ=[some (.ref r),some (.int p),none]∧cH R H' r x (p+1+j)∧Kept r H H',⟨2,0,rfl,e2,⟨[],rfl,rfl,rfl⟩,rfl,⟨dx,dv⟩,k1⟩,?_⟩
  rintro m σ H' ⟨j,hm,hj,⟨w,ew,wl,wf⟩,rfl,⟨cX,cM⟩,kk⟩
  refine⟨_,rfl,r,cX,_,rfl,cM,aE _ _ (by decide+kernel) (by decide+kernel),r,x,p+1+j,rfl,⟨cX,cM⟩,hj,hx,_,rfl,kH _ _,_,rfl,?_⟩
  by_cases hf:inR 97 122 (e9 x (p+1+j))=true∧j<2
  ·obtain⟨ev,Zp⟩:=hf
   obtain⟨b,hb,bS⟩:=(oo 97 122).mp ev
   rw[ev]
   refine dJ ⟨_,rfl,r,R,cX,_,_,rfl,cM,T.aw,T.bx,a8 _ _,_,rfl,_,_,rfl,rfl,_,_,rfl,rfl,_,rfl,eI (by omega) ?_⟩
   refine⟨_,fun σ' cu h=>⟨m - 1,by omega,h⟩,?_⟩
   obtain⟨f1,f2⟩:=dz hb
   refine⟨_,rfl,r,R,cX,_,_,rfl,cM,T.aw,T.bx,a8 _ _,_,_,rfl,rfl,cX,_,cM,jj _ _,?_⟩
   refine⟨j+1,by omega,f2,⟨w++[b],by rw[ew,f1,List.append_assoc];rfl,by rw[List.length_append,wl];rfl,by rw[List.all_append,wf];simpa [gk] using bS⟩,rfl,⟨cX,?_⟩,fun b o z w=>?_⟩
   ·rw[ag]
    exact congrArg (fun z=>some (HO.ins R cX z)) (ji x (p+1+j) (p+1+j+1))
   ·rw[ao w];exact kk b o z w
  have he:(c::w).length=3∨Not gk (sf x (p+1+j)):=by
   cases ev:inR 97 122 (e9 x (p+1+j)) with
   |true=>exact .inl (by have:¬j<2:=fun z=>hf ⟨ev,z⟩;rw[List.length_cons];omega)
   |false=>exact .inr (vZ ev)
  have Se:sf x p=(c::w)++sf x (p+1+j):=by rw[e1,ew];rfl
  have ok:rn (c::w):=⟨c,w,rfl,by simpa [gS] using cG,wf,by omega⟩
  have ec:Txt.slice x (some (p:Int)) (some ((p+1+j:Nat):Int))=⟨(c::w).toArray⟩:=by
   obtain⟨w',a1,a2,a3⟩:=BR (x:=x) (p:=p) (j:=1+j) (by omega)
   rw[←Nat.add_assoc] at a1 a3
   rw[a3,List.append_cancel_right (a1.symm.trans Se)]
  cases ev:inR 97 122 (e9 x (p+1+j))
  case' true=>
   refine dJ ⟨_,rfl,r,R,cX,_,_,rfl,cM,T.aw,T.bx,a8 _ _,_,rfl,_,_,rfl,rfl,_,_,rfl,rfl,_,rfl,dR (by have:¬j<2:=fun z=>hf ⟨ev,z⟩;omega) ?_⟩
  case' false=>
   refine cQ (cQ ?_)
  all_goals
   refine⟨_,rfl,r,R,cX,_,_,rfl,cM,T.aw,T.jk,fI _ _,_,rfl,_,rfl,_,rfl,r,R,cX,_,_,rfl,cM,T.aw,T.bx,a8 _ _,_,rfl,x,rfl,by omega,?_⟩
   rw[ec]
   refine⟨_,rfl,_,rfl,r,cX,_,rfl,cM,aE _ _ (by decide+kernel) (by decide+kernel),r,x,p+1+j,rfl,⟨cX,cM⟩,hj,hx,fun n q' H2 hN EV hq ig k2=>?_,fun e hB Xt tE=>(qE e (.inr ⟨c::w,_,Se,ok,he,hB⟩) (by omega) tE).on kk cM⟩
   obtain⟨jR,ig⟩:=ig
   refine fun a da na Zr nea=>⟨a,da,_,n,rfl,ag,fun H3 h3 k3=>⟨rfl,?_⟩⟩
   have s3:aF H2 H3:=fun b o z=>k3 b o (by rw[ao (ai z na),ao (ai z Zr)];exact z) (ai z na)
   have kf:=(kk.trans k2)
   exact q (c::w) n q' a H3 ⟨_,Se,ok,he,hN⟩ (by omega) hq (aX kf ig na) ⟨da,h3⟩ ⟨jR,s3 _ _ ig⟩ (kf.trans (Kept.of s3))
variable {HE NF TL:Addr}
def t9(NF C G R:Addr)(d:Nat):Sp:=fun vs H Q E=>∃(r:Addr) (x:Str) (p a:Nat),vs=[.ref r, .int a]∧cH R H r x p∧p≤x.length∧x.length≤1000∧a+d=4∧
 (∀t q y H',jW d (sf x p) t (sf x q)→p<q→q≤x.length→H y=none→Iw C G d H H' y t→cH R H' r x q→Kept r H H'→Q (.ref y) H')∧(∀e,IC d (sf x p) (sf x e)→p≤e→e≤x.length→Rz NF H r E e)
def lH(NF C G R:Addr):Nat→Sp
 |0=>fun _ _ _ _=>False
 |d+1=>fun vs H Q E=>∃(r:Addr) (x:Str) (p a:Nat) (u':List Nat),vs=[.ref r, .int a]∧cH R H r x p∧p≤x.length∧x.length≤1000∧a+d+1=4∧sf x p=40::u'∧
  (∀ts n w q y H',DG (jW d) u' ts (41::w)→jA 3 w n (sf x q)→p<q→q≤x.length→H y=none→Iw C G (d+1) H H' y (.gr ts n)→cH R H' r x q→Kept r H H'→Q (.ref y) H')∧
  (∀e,(Ko (jW d) (IC d) u' (sf x e)∨(∃ts,DG (jW d) u' ts (sf x e)∧(sf x e).head? ≠some 41)∨∃ts w,DG (jW d) u' ts (41::w)∧rE w (sf x e))→p≤e→e≤x.length→Rz NF H r E e)
def jo(NF C G R:Addr)(d:Nat):Sp:=fun vs H Q E=>∃(r:Addr) (x:Str) (p a:Nat),vs=[.ref r, .int a]∧cH R H r x p∧p≤x.length∧x.length≤1000∧a+d=4∧
 (∀ts q l H',DG (jW d) (sf x p) ts (sf x q)→p<q→q≤x.length→LP C G d H H' l ts→cH R H' r x q→Kept r H H'→Q (.ref l) H')∧(∀e,Ko (jW d) (IC d) (sf x p) (sf x e)→p≤e→e≤x.length→Rz NF H r E e)
theorem jG.lt{x:Str}{p q:Nat}{k:List Nat}{n:Int}(h:jG (sf x p) k n (sf x q))(hp:p≤x.length)(hq:q≤x.length):p<q:=by
 obtain⟨w,e,⟨c,r,rfl,_⟩,_,e2,_⟩:=h
 have:=congrArg List.length e
 rw[e2,List.length_append,List.length_append,iX,iX,List.length_cons] at this
 omega
theorem p7(d:Nat)(D:bR K R "read_part" "Reader.read_part" nX ["self","around"])(T:rq K mg C R G uK uN uB uE uM)(c1:cZ P w K mg base 1 R "sign" ["self"] (ia R))(c2:a9 P w K mg base 5 R "read_atom" ["self"] (oq NF C R))(c3:a9 P w K mg base (3*d+5) R "read_group" ["self","around"] (lH NF C G R d)):
  a9 P w K mg base (3*d+6) R "read_part" ["self","around"] (t9 NF C G R d):=by
 obtain⟨_,_,av⟩:=c1
 obtain⟨_,_,dE⟩:=c2
 obtain⟨_,_,dh⟩:=c3
 refine D.g7 EO (fun vs H Q E h=>?_) (fun f bo A outer s H vs Q E hr h=>?_)
 ·obtain⟨r,x,p,a,rfl,_⟩:=h
  rfl
 ·obtain⟨r,x,p,a,rfl,⟨dx,hR⟩,hp,hx,ha,q,qE⟩:=h
  refine⟨_,(aj
     (bB (PW.pt (lb (aJ cw (bJ (pv 0) T.aw av.m av.ok (hr.mono (by omega)) av.b .nil aP) (aQ (v:= .str "(") rfl T.er ⟨_,rfl⟩) (aU _)) (i8 (aJ K3 (pv 1) (aQ (v:= .int 3) rfl T.iU ⟨_,rfl⟩) (aU _)))))
      (au
       (aB (bE (pv 0) T.aw dh.m dh.ok (hr.mono (by omega)) dh.b .nil aV (aa (pv 1) ah))))
      aY)
    (au
     (aB (bM (pv 0) T.aw dE.m dE.ok (hr.mono (by omega)) dE.b .nil aV)))),?_⟩
  refine⟨_,rfl,r,dx,_,rfl,hR,aE _ _ (by decide+kernel) (by decide+kernel),r,x,p,rfl,⟨dx,hR⟩,hp,hx,rfl,_,rfl,?_⟩
  have atom:∀{k:List Nat} {n:Int} {y:Addr} {H':Hp},H y=none→fF C H' y ⟨k.toArray⟩ n→Iw C G d H H' y (.one k n):=fun {k n y H'} ny hA cu ke=>by
   obtain⟨dy,hA⟩:=hA
   have e:d7 C G d cu y (.one k n)=fF C cu y ⟨k.toArray⟩ n:=by cases d<;>rfl
   rw[e]
   exact⟨dy,ke _ _ ny hA⟩
  by_cases oV:(sf x p).head? =some 40
  ·refine eI (by rw[Gz];exact dS.mpr oV) ?_
   obtain⟨e1,e2⟩:=dz oV
   cases d with
   |zero=>
    refine⟨_,rfl,_,_,rfl,rfl,_,rfl,dR (by omega) ?_⟩
    exact⟨_,rfl,r,dx,_,rfl,hR,aE _ _ (by decide+kernel) (by decide+kernel),r,x,p,rfl,⟨dx,hR⟩,hp,hx,fun k n q' y H' hA EV hq ny hy cM kp=>q (.one k n) q' y H' ⟨k,n,rfl,hA⟩ (hA.lt hp hq) hq ny (atom ny hy) cM kp,fun e hB=>qE e hB⟩
   |succ d=>
    refine⟨_,rfl,_,_,rfl,rfl,_,rfl,eI (by omega) ?_⟩
    exact⟨_,rfl,r,dx,_,rfl,hR,aE _ _ (by decide+kernel) (by decide+kernel),_,rfl,r,x,p,a,_,rfl,⟨dx,hR⟩,hp,hx,by omega,e1,fun ts n w q' y H' hS hN EV hq ny hy cM kp=>q (.gr ts n) q' y H' (.inr ⟨_,ts,n,w,e1,rfl,hS,hN⟩) EV hq ny hy cM kp,fun e hB=>qE e (.inr ⟨_,e1,hB⟩)⟩
  ·refine dR (by rw[Gz];exact fun z=>oV (dS.mp z)) ?_
   refine⟨_,rfl,r,dx,_,rfl,hR,aE _ _ (by decide+kernel) (by decide+kernel),r,x,p,rfl,⟨dx,hR⟩,hp,hx,fun k n q' y H' hA EV hq ny hy cM kp=>q (.one k n) q' y H' ?_ (hA.lt hp hq) hq ny (atom ny hy) cM kp,fun e hB=>qE e ?_⟩
   ·cases d with
    |zero=>exact⟨k,n,rfl,hA⟩
    |succ d=>exact .inl ⟨oV,k,n,rfl,hA⟩
   ·cases d with
    |zero=>exact hB
    |succ d=>exact .inl ⟨oV,hB⟩
variable {HE NF TL:Addr}
theorem ua(D:bR K R "read_group" "Reader.read_group" jf ["self","around"]):a9 P w K mg base 5 R "read_group" ["self","around"] (lH NF C G R 0):=
 D.g7 (k:=4) n8 (fun vs H Q E h=>h.elim) (fun f bo A outer s H vs Q E hr h=>h.elim)
theorem wb(d:Nat)(D:bR K R "read_group" "Reader.read_group" jf ["self","around"])(T:rq K mg C R G uK uN uB uE uM)(c1:a9 P w K mg base 3 R "take" ["self","sign"] (ib NF R))(c2:a9 P w K mg base 4 R "read_count" ["self"] (fw NF R))(c3:a9 P w K mg base (3*d+7) R "read_parts" ["self","around"] (jo NF C G R d))
  (c4:fD P w K mg base 1 G ["self","parts","count"] [1] (kK G)):a9 P w K mg base (3*d+8) R "read_group" ["self","around"] (lH NF C G R (d+1)):=by
 obtain⟨_,_,aA⟩:=c1
 obtain⟨_,_,aH⟩:=c2
 obtain⟨_,_,ba⟩:=c3
 obtain⟨_,_,fb⟩:=c4
 obtain⟨_,zY,zZ⟩:=fb.b 1 (by decide)
 refine D.g7 n8 (fun vs H Q E h=>?_) (fun f bo A outer s H vs Q E hr h=>?_)
 ·obtain⟨r,x,p,a,u',rfl,_⟩:=h
  rfl
 ·obtain⟨r,x,p,a,u',rfl,⟨dx,hR⟩,hp,hx,ha,hu,q,qE⟩:=h
  refine⟨_,(aj
     (bF (bE (pv 0) T.aw aA.m aA.ok (hr.mono (by omega)) aA.b .nil aV (aa (aQ (v:= .str "(") rfl T.er ⟨_,rfl⟩) ah)))
    (aj
     (aO (i:=2) n8.nd rfl (Or.inl rfl) (bE (pv 0) T.aw ba.m ba.ok (hr.mono (by omega)) ba.b .nil aV (aa (ax bH (pv 1) aq) ah)))
    (aj
     (bF (bE (pv 0) T.aw aA.m aA.ok (hr.mono (by omega)) aA.b .nil aV (aa (aQ (v:= .str ")") rfl T.lV ⟨_,rfl⟩) ah)))
    (au
     (aB (fU fb.m fb.ok (hr.mono (by omega)) rfl T.EN zZ zY aP (aa (pv 2) (aa (bM (pv 0) T.aw aH.m aH.ok (hr.mono (by omega)) aH.b .nil aV) ah)))))))),?_⟩
  have oV:(sf x p).head? =some 40:=by rw[hu];rfl
  obtain⟨eu,e2⟩:=dz oV
  have Zs:u'=sf x (p+1):=by rw[hu] at eu;injection eu
  subst Zs
  refine⟨_,rfl,r,dx,_,rfl,hR,aE _ _ (by decide+kernel) (by decide+kernel),r,x,p,40,congrArg (fun z=>[V.ref r,V.str z]) Gz,⟨dx,hR⟩,hp,hx,fun _ H1 dv k1=>?_,fun n=>absurd oV n⟩
  obtain⟨mj,dv⟩:=dv
  refine⟨_,rfl,r,mj,_,rfl,dv,aE _ _ (by decide+kernel) (by decide+kernel),_,rfl,_,_,rfl,rfl,r,x,p+1,a+1,rfl,⟨mj,dv⟩,e2,hx,by omega,fun ts q2 l H2 hS Xu ub hN ig k2=>?_,fun e hB h1 h2=>(qE e (.inl hB) (by omega) h2).on k1 dv⟩
  obtain⟨jR,ig⟩:=ig
  obtain⟨xA,ps,DD,Ei⟩:=hN
  refine⟨_,rfl,r,jR,_,rfl,ig,aE _ _ (by decide+kernel) (by decide+kernel),r,x,q2,41,congrArg (fun z=>[V.ref r,V.str z]) Qk,⟨jR,ig⟩,ub,hx,fun EW H3 fh k3=>?_,fun n=>(qE q2 (.inr (.inl ⟨ts,hS,n⟩)) (by omega) ub).on (k1.trans k2) ig⟩
  obtain⟨uc,fh⟩:=fh
  obtain⟨e3,Zt⟩:=dz EW
  rw[e3] at hS
  refine⟨_,rfl,_,rfl,r,uc,_,rfl,fh,aE _ _ (by decide+kernel) (by decide+kernel),r,x,q2+1,rfl,⟨uc,fh⟩,Zt,hx,fun n q4 H4 LX Sf BX pe k4=>?_,fun e hB h1 h2=>(qE e (.inr (.inr ⟨ts,_,hS,hB⟩)) (by omega) h2).on ((k1.trans k2).trans k3) fh⟩
  obtain⟨GA,pe⟩:=pe
  have Qn:l≠r:=fun z=>by rw[z,dv] at xA;cases xA
  have Sg:=k4 _ _ (k3 _ _ DD Qn) Qn
  refine fun g dg ng GB neg=>⟨g,dg,l,n,ps.map V.ref,rfl,ag,?_,fun m H5 hm hg Kp kp=>⟨rfl,?_⟩⟩
  ·rw[ao (ai Sg ng),ao (ai Sg GB)];exact Sg
  have s5:aF H4 H5:=fun b o z=>kp b o (by rw[ao (ai z ng),ao (ai z GB)];exact z) (ai z ng)
  have kf:Kept r H H4:=((k1.trans k2).trans k3).trans k4
  refine q ts n _ q4 g H5 hS LX (by omega) BX (aX kf pe ng) (fun cu ke=>?_) ⟨GA,s5 _ _ pe⟩ (kf.trans (Kept.of s5))
  refine⟨dg,m,ps,ke _ _ (aX kf pe ng) hg,ke _ _ (aX kf pe (d8 hm)) Kp,Ei cu fun b o z1 z2=>?_⟩
  have AD:b≠r:=fun z=>by rw[z,dv] at z1;cases z1
  exact ke _ _ (aX k1 dv z1) (s5 _ _ (k4 _ _ (k3 _ _ z2 AD) AD))
theorem ou(d:Nat)(D:bR K R "read_parts" "Reader.read_parts" ku ["self","around"])(T:rq K mg C R G uK uN uB uE uM)(c1:cZ P w K mg base 1 R "sign" ["self"] (ia R))(c2:bD P w K mg base 1 "is_great" ["sign"] (Gy 65 90))(c3:a9 P w K mg base (3*d+6) R "read_part" ["self","around"] (t9 NF C G R d)):
  a9 P w K mg base (3*d+7) R "read_parts" ["self","around"] (jo NF C G R d):=by
 obtain⟨_,_,av⟩:=c1
 obtain⟨_,_,cC⟩:=c2
 obtain⟨_,_,bO⟩:=c3
 refine D.g7 tV (fun vs H Q E h=>?_) (fun f bo A outer s H vs Q E hr h=>?_)
 ·obtain⟨r,x,p,a,rfl,_⟩:=h
  rfl
 ·obtain⟨r,x,p,a,rfl,⟨dx,hR⟩,hp,hx,ha,q,qE⟩:=h
  have big:(2000 :Nat)≤sizeLine:=by decide
  refine⟨_,(aj
     (aO (i:=2) tV.nd rfl (Or.inl rfl) (cf (aa (bE (pv 0) T.aw bO.m bO.ok (hr.mono (by omega)) bO.b .nil aV (aa (pv 1) ah)) ah)))
    (aj
     (gy jQ (PW.pt (fS (dC (aM cC.ok (hr.mono (by omega)) rfl cC.g cC.kp cC.b .nil aP (aa (bJ (pv 0) T.aw av.m av.ok (hr.mono (by omega)) av.b .nil aP) ah))) (iG (aJ cw (bJ (pv 0) T.aw av.m av.ok (hr.mono (by omega)) av.b .nil aP) (aQ (v:= .str "(") rfl T.er ⟨_,rfl⟩) (aU _)))))
      (au
       (bF (eG PySem.F.plainAttrs_list PySem.F.slot_list_append PySem.F.type_list_append dW (pv 2) (aa (bE (pv 0) T.aw bO.m bO.ok (hr.mono (by omega)) bO.b .nil aV (aa (pv 1) ah)) ah)))))
    (au
     (aB (pv 2))))),?_⟩
  refine⟨_,rfl,r,dx,_,rfl,hR,aE _ _ (by decide+kernel) (by decide+kernel),_,rfl,r,x,p,a,rfl,⟨dx,hR⟩,hp,hx,ha,fun t q1 y H1 hP EV DI ny hN dv k1=>⟨(by show 1≤sizeLine;decide),fun L hL=>?_⟩,fun e hB=>qE e (.inl hB)⟩
  obtain⟨mj,dv⟩:=dv
  have x6:H L=none:=aX k1 dv hL
  have pf:L≠r:=fun z=>by rw[z,dv] at hL;cases hL
  refine⟨fun m σ H'=>∃q' ts,m+q'=x.length∧p<q'∧Sq (jW d) (sf x p) ts (sf x q')∧σ=[some (.ref r),some (.int a),some (.ref L)]∧cH R H' r x q'∧Kept r H H'∧∃ps,H' L=some (.lst (ps.map V.ref))∧ps.length≤q'∧Paired (R7 C G L d H H') ps ts,⟨x.length - q1,q1,[t],by omega,EV, .one t _ hP,rfl,⟨mj,?_⟩,?_,[y],ag,by show 1≤q1;omega,?_⟩,?_⟩
  ·rw[ao (Ne.symm pf),dv]
  ·exact k1.trans (Kept.of (aF.new hL))
  ·refine .cons (fun cu ke=>hN cu fun b o z1 z2=>?_) .nil
   have BY:b≠L:=ai z2 hL
   exact ke b o z1 BY (by rw[ao BY];exact z2)
  rintro m σ H' ⟨q',ts,hm,Sh,hS,rfl,⟨cX,cM⟩,kk,ps,IF,mf,hP⟩
  have iJ:q'≤x.length:=by omega
  refine⟨_,rfl,r,cX,_,rfl,cM,aE _ _ (by decide+kernel) (by decide+kernel),r,x,q',rfl,⟨cX,cM⟩,iJ,hx,_,rfl,kH _ _,_,rfl,?_⟩
  by_cases hM:More (sf x q')
  ·obtain⟨c,hc,Ay⟩:=id hM
   have Ei:ps.length<sizeLine:=by omega
   rcases Ay with hg|Si
   case' inl=>
    have ev:inR 65 90 (e9 x q')=true:=(oo 65 90).mpr ⟨c,hc,hg⟩
    rw[ev]
    refine dJ (dJ ?_)
   case' inr=>
    subst Si
    have ev:inR 65 90 (e9 x q')=false:=by
     cases ev:inR 65 90 (e9 x q') with
     |false=>rfl
     |true=>
      obtain⟨b,hb,vh⟩:=(oo 65 90).mp ev
      rw[hc] at hb
      cases hb
      cases vh
    rw[ev]
    refine cQ ⟨_,rfl,r,cX,_,rfl,cM,aE _ _ (by decide+kernel) (by decide+kernel),r,x,_,rfl,⟨cX,cM⟩,iJ,hx,rfl,_,rfl,eI (by rw[Gz];exact dS.mpr hc) ?_⟩
   all_goals
    refine⟨_,fun σ' cu h=>h,?_⟩
    refine⟨_,rfl, .inl ⟨rfl,_,cL.of IF⟩,_,rfl,r,cX,_,rfl,cM,aE _ _ (by decide+kernel) (by decide+kernel),_,rfl,r,x,q',a,rfl,⟨cX,cM⟩,iJ,hx,ha,fun t q2 y H2 hT Xu ub ny hN ig k2=>?_,fun e hB h1 h2=>(qE e (.inr ⟨ts,_,hS,hM,hB⟩) (by omega) h2).on kk cM⟩
    obtain⟨jR,ig⟩:=ig
    have Zu:=k2 _ _ IF pf
    refine⟨L,_,_,rfl,rfl,Zu,by rw[List.length_map];exact Ei,?_⟩
    refine⟨x.length - q2,by omega,q2,ts++[t],by omega,by omega, .snoc ts _ t _ hS hM hT,rfl,⟨jR,?_⟩,fun b o z w=>?_,ps++[y],by rw[ag,List.map_append];rfl,by rw[List.length_append];show ps.length+1≤q2;omega,?_⟩
    ·rw[ao (Ne.symm pf),ig]
    ·rw[ao (ai z x6)]
     exact k2 _ _ (kk _ _ z w) w
    ·refine f9 (fun cu ke=>hN cu fun b o z1 z2=>?_) (bY (fun c t h cu ke=>h cu fun b o z1 z2 z3=>ke b o z1 z2 ?_) hP)
     ·have BY:b≠L:=fun z=>by rw[z,IF] at z1;cases z1
      exact ke b o (aX kk cM z1) BY (by rw[ao BY];exact z2)
     ·have AD:b≠r:=fun z=>by rw[z,hR] at z1;cases z1
      rw[ao z2]
      exact k2 _ _ z3 AD
  ·have ev:inR 65 90 (e9 x q')=false:=by
    cases ev:inR 65 90 (e9 x q') with
    |false=>rfl
    |true=>
     obtain⟨b,hb,vh⟩:=(oo 65 90).mp ev
     exact absurd ⟨b,hb, .inl vh⟩ hM
   rw[ev]
   refine cQ ⟨_,rfl,r,cX,_,rfl,cM,aE _ _ (by decide+kernel) (by decide+kernel),r,x,_,rfl,⟨cX,cM⟩,iJ,hx,rfl,_,rfl,dR (by rw[Gz];exact fun z=>hM ⟨40,dS.mp z, .inr rfl⟩) ?_⟩
   exact⟨_,rfl,q ts q' L H' ⟨hS,hM⟩ Sh iJ ⟨x6,ps,IF,fun cu ke=>bY (fun c t h=>h cu fun b o z1 _ z3=>ke b o z1 z3) hP⟩ ⟨cX,cM⟩ kk⟩
theorem p8(D1:bR K R "read_group" "Reader.read_group" jf ["self","around"])(D2:bR K R "read_part" "Reader.read_part" nX ["self","around"])(D3:bR K R "read_parts" "Reader.read_parts" ku ["self","around"])(T:rq K mg C R G uK uN uB uE uM)
  (c1:cZ P w K mg base 1 R "sign" ["self"] (ia R)) (c2:bD P w K mg base 1 "is_great" ["sign"] (Gy 65 90)) (c3:a9 P w K mg base 5 R "read_atom" ["self"] (oq NF C R)) (c4:a9 P w K mg base 3 R "take" ["self","sign"] (ib NF R)) (c5:a9 P w K mg base 4 R "read_count" ["self"] (fw NF R))
  (c6:fD P w K mg base 1 G ["self","parts","count"] [1] (kK G)):∀d:Nat,a9 P w K mg base (3*d+7) R "read_parts" ["self","around"] (jo NF C G R d)
 |0=>ou 0 D3 T c1 c2 (p7 0 D2 T c1 c3 (ua D1))
 |d+1=>ou (d+1) D3 T c1 c2 (p7 (d+1) D2 T c1 c3 (by rw[show 3*(d+1)+5=3*d+8 by omega];exact wb d D1 T c4 c5 (p8 D1 D2 D3 T c1 c2 c3 c4 c5 c6 d) c6))
variable {HE NF TL:Addr}{uC uP uI uD uL uT:Tok}
def ow(NF R:Addr):Sp:=fun vs H Q E=>∃(r:Addr) (x:Str) (p:Nat),vs=[.ref r]∧cH R H r x p∧p≤x.length∧x.length≤1000∧
 (∀n q H',Ql (sf x p) n (sf x q)→p≤q→q≤x.length→cH R H' r x q→Kept r H H'→Q (.int n) H')∧(∀e,Xp (sf x p) (sf x e)→p≤e→e≤x.length→Rz NF H r E e)
theorem ud(D:bR K R "read_charge" "Reader.read_charge" ky ["self"])(T:LQ K mg C R uK uN uC uP uI)(c1:cZ P w K mg base 1 R "sign" ["self"] (ia R))(c2:a9 P w K mg base 3 R "take" ["self","sign"] (ib NF R))(c3:a9 P w K mg base 4 R "read_count" ["self"] (fw NF R)):
  a9 P w K mg base 5 R "read_charge" ["self"] (ow NF R):=by
 obtain⟨_,_,av⟩:=c1
 obtain⟨_,_,aA⟩:=c2
 obtain⟨_,_,aH⟩:=c3
 refine D.g7 pW (fun vs H Q E h=>?_) (fun f bo A outer s H vs Q E hr h=>?_)
 ·obtain⟨r,x,p,rfl,_⟩:=h
  rfl
 ·obtain⟨r,x,p,rfl,⟨dx,hR⟩,hp,hx,q,qE⟩:=h
  refine⟨_,(aj
     (bB (aJ sO (bJ (pv 0) T.aw av.m av.ok (hr.mono (by decide)) av.b .nil aP) (aQ (v:= .str "^") rfl T.gq ⟨_,rfl⟩) (aU _))
      (au
       (aB aq))
      aY)
    (aj
     (bF (bE (pv 0) T.aw aA.m aA.ok (hr.mono (by decide)) aA.b .nil aV (aa (aQ (v:= .str "^") rfl T.gq ⟨_,rfl⟩) ah)))
    (aj
     (aO (i:=1) pW.nd rfl (Or.inl rfl) (bM (pv 0) T.aw aH.m aH.ok (hr.mono (by decide)) aH.b .nil aV))
    (aj
     (bB (aJ cw (bJ (pv 0) T.aw av.m av.ok (hr.mono (by decide)) av.b .nil aP) (aQ (v:= .str "-") rfl T.rB ⟨_,rfl⟩) (aU _))
      (aj
       (bF (bE (pv 0) T.aw aA.m aA.ok (hr.mono (by decide)) aA.b .nil aV (aa (aQ (v:= .str "-") rfl T.rB ⟨_,rfl⟩) ah)))
      (au
       (aB (j8 gY (pv 1)))))
      aY)
    (aj
     (bF (bE (pv 0) T.aw aA.m aA.ok (hr.mono (by decide)) aA.b .nil aV (aa (aQ (v:= .str "+") rfl T.BO ⟨_,rfl⟩) ah)))
    (au
     (aB (pv 1)))))))),?_⟩
  refine⟨_,rfl,r,dx,_,rfl,hR,aE _ _ (by decide+kernel) (by decide+kernel),r,x,p,rfl,⟨dx,hR⟩,hp,hx,rfl,_,rfl,?_⟩
  by_cases h0:(sf x p).head? =some 94
  ·have eq:V.str (e9 x p)=V.str "^" :=by rw[Iz];exact dS.mpr h0
   rw[decide_eq_true eq]
   refine cQ ?_
   obtain⟨e1,e2⟩:=dz h0
   refine⟨_,rfl,r,dx,_,rfl,hR,aE _ _ (by decide+kernel) (by decide+kernel),r,x,p,94,congrArg (fun z=>[V.ref r,V.str z]) Iz,⟨dx,hR⟩,hp,hx,fun _ H1 dv k1=>?_,fun n=>absurd h0 n⟩
   obtain⟨mj,dv⟩:=dv
   refine⟨_,rfl,r,mj,_,rfl,dv,aE _ _ (by decide+kernel) (by decide+kernel),r,x,p+1,rfl,⟨mj,dv⟩,e2,hx,fun m q2 H2 hN Xu ub ig k2=>?_,fun e hB h1 h2=>(qE e ⟨_,e1, .inl hB⟩ (by omega) h2).on k1 dv⟩
   obtain⟨jR,ig⟩:=ig
   have kk:=k1.trans k2
   refine⟨_,rfl,r,jR,_,rfl,ig,aE _ _ (by decide+kernel) (by decide+kernel),r,x,_,rfl,⟨jR,ig⟩,ub,hx,rfl,_,rfl,?_⟩
   by_cases lY:(sf x q2).head? =some 45
   ·obtain⟨f1,f2⟩:=dz lY
    refine eI (by rw[LR];exact dS.mpr lY) ?_
    refine⟨_,rfl,r,jR,_,rfl,ig,aE _ _ (by decide+kernel) (by decide+kernel),r,x,q2,45,congrArg (fun z=>[V.ref r,V.str z]) LR,⟨jR,ig⟩,ub,hx,fun _ H3 fh k3=>?_,fun n=>absurd lY n⟩
    exact⟨_,rfl,_,rfl,q (-m) (q2+1) H3 (.inr ⟨_,m,_,e1,hN, .inl ⟨f1,rfl⟩⟩) (by omega) f2 fh (kk.trans k3)⟩
   ·refine dR (by rw[LR];exact fun z=>lY (dS.mp z)) ?_
    refine⟨_,rfl,r,jR,_,rfl,ig,aE _ _ (by decide+kernel) (by decide+kernel),r,x,q2,43,congrArg (fun z=>[V.ref r,V.str z]) R9,⟨jR,ig⟩,ub,hx,fun LY H3 fh k3=>?_,fun LY=>(qE q2 ⟨_,e1, .inr ⟨m,hN,lY,LY⟩⟩ (by omega) ub).on kk ig⟩
    obtain⟨f1,f2⟩:=dz LY
    exact⟨_,rfl,q m (q2+1) H3 (.inr ⟨_,m,_,e1,hN, .inr ⟨f1,rfl⟩⟩) (by omega) f2 fh (kk.trans k3)⟩
  ·have ne:¬V.str (e9 x p)=V.str "^" :=by rw[Iz];exact fun z=>h0 (dS.mp z)
   rw[decide_eq_false ne]
   exact dJ (q 0 p H (.inl ⟨h0,rfl,rfl⟩) (Nat.le_refl _) hp ⟨dx,hR⟩ (Kept.refl r H))
def kO(NF C G Pc Fo R:Addr):Sp:=fun vs H Q E=>∃(r:Addr) (x:Str) (p:Nat),vs=[.ref r]∧cH R H r x p∧p≤x.length∧x.length≤1000∧(sf x p).head? =some 101∧
 (sf x p=101::94::45::sf x (p+3)→p+3≤x.length→∀f H',H f=none→LU C G Pc Fo 4 H H' f [] (-1)→cH R H' r x (p+3)→Kept r H H'→Q (.ref f) H')∧(∀e,Xq (sf x p) (sf x e)→p≤e→e≤x.length→Rz NF H r E e)
theorem ph(D:bR K R "read_electron" "Reader.read_electron" g8 ["self"])(T:pb K mg C R G Pc Fo uK uN uB uE uM uC uP uI uD uL uT)(c1:a9 P w K mg base 4 R "take_all" ["self","signs"] (ic NF R))(c2:fD P w K mg base 1 Fo ["self","pieces","charge"] [0] (rD Fo)):
  a9 P w K mg base 5 R "read_electron" ["self"] (kO NF C G Pc Fo R):=by
 obtain⟨_,_,aR⟩:=c1
 obtain⟨_,_,bN⟩:=c2
 obtain⟨_,iZ,i0⟩:=bN.b 1 (by decide)
 refine D.g7 tX (fun vs H Q E h=>?_) (fun f bo A outer s H vs Q E hr h=>?_)
 ·obtain⟨r,x,p,rfl,_⟩:=h
  rfl
 ·obtain⟨r,x,p,rfl,⟨dx,hR⟩,hp,hx,Sj,q,qE⟩:=h
  refine⟨_,(aj
     (bF (bE (pv 0) T.aw aR.m aR.ok (hr.mono (by decide)) aR.b .nil aV (aa (aQ (v:= .str "e^-") rfl T.jV ⟨_,rfl⟩) ah)))
    (au
     (aB (fU bN.m bN.ok (hr.mono (by decide)) rfl T.pZ i0 iZ aP (aa (cf ah) (aa (j8 gY aq) ah)))))),?_⟩
  have ee:("e^-" :Str).cps.toList=[101,94,45]:=by decide+kernel
  have ea:("e^-" :Str).cps.all (· <128)=true:=by decide+kernel
  have el:("e^-" :Str).length=3:=by decide+kernel
  refine⟨_,rfl,r,dx,_,rfl,hR,aE _ _ (by decide+kernel) (by decide+kernel),r,x,p,_,rfl,ea,⟨dx,hR⟩,hp,hx,fun hs Xv H1 dv k1=>?_,fun i c hc hs hn hl=>?_⟩
  ·obtain⟨mj,dv⟩:=dv
   rw[ee,el] at hs
   rw[el] at Xv dv
   refine⟨(by show 0≤sizeLine;decide),fun l hl=>⟨1,rfl,fun g dg ng GB neg=>⟨g,dg,l, -1,[],rfl,ag,?_,fun m H5 hm hg Kp kp=>⟨rfl,?_⟩⟩⟩⟩
   ·rw[ao (ai ag ng),ao (ai ag GB)];exact ag
   have sl:aF H1 (upd H1 l (.lst [])):=aF.new hl
   have s5:aF (upd H1 l (.lst [])) H5:=fun b o z=>kp b o (by rw[ao (ai z ng),ao (ai z GB)];exact z) (ai z ng)
   have kf:Kept r H (upd H1 l (.lst [])):=k1.trans (Kept.of sl)
   have Qo:=sl _ _ dv
   exact q hs Xv g H5 (aX kf Qo ng) (fun cu ke=>⟨dg,m,[],ke _ _ (aX kf Qo ng) hg,ke _ _ (aX kf Qo (d8 hm)) Kp, .nil⟩) ⟨mj,s5 _ _ Qo⟩ (kf.trans (Kept.of s5))
  ·rw[ee] at hc hs
   refine qE (p+i) ?_ (by omega) hl
   match i,hc with
   |0,hc=>
    have:101=c:=by simpa using hc
    subst this
    exact absurd Sj hn
   |1,hc=>
    have:94=c:=by simpa using hc
    subst this
    exact .inl ⟨hs,hn⟩
   |2,hc=>
    have:45=c:=by simpa using hc
    subst this
    exact .inr ⟨hs,hn⟩
def p9(NF C G Pc Fo R:Addr):Sp:=fun vs H Q E=>∃(r:Addr) (x:Str) (p:Nat),vs=[.ref r]∧cH R H r x p∧p≤x.length∧x.length≤1000∧
 (∀xs n q f H',DH (sf x p) xs n (sf x q)→p≤q→q≤x.length→H f=none→LU C G Pc Fo 4 H H' f xs n→cH R H' r x q→Kept r H H'→Q (.ref f) H')∧(∀e,LV (sf x p) (sf x e)→p≤e→e≤x.length→Rz NF H r E e)
theorem wc(D:bR K R "read_whole" "Reader.read_whole" mJ ["self"])(T:pb K mg C R G Pc Fo uK uN uB uE uM uC uP uI uD uL uT)(c1:cZ P w K mg base 1 R "sign" ["self"] (ia R))(c2:a9 P w K mg base 3 R "take" ["self","sign"] (ib NF R))(c3:a9 P w K mg base 4 R "read_count" ["self"] (fw NF R))(c4:a9 P w K mg base 19 R "read_parts" ["self","around"] (jo NF C G R 4))
  (c5:a9 P w K mg base 5 R "read_charge" ["self"] (ow NF R)) (c6:a9 P w K mg base 5 R "read_electron" ["self"] (kO NF C G Pc Fo R)) (c7:fD P w K mg base 1 Pc ["self","parts","count"] [1] (kK Pc)) (c8:fD P w K mg base 1 Fo ["self","pieces","charge"] [0] (rD Fo)):
  a9 P w K mg base 20 R "read_whole" ["self"] (p9 NF C G Pc Fo R):=by
 obtain⟨_,_,av⟩:=c1
 obtain⟨_,_,aA⟩:=c2
 obtain⟨_,_,aH⟩:=c3
 obtain⟨_,_,ba⟩:=c4
 obtain⟨_,_,cR⟩:=c5
 obtain⟨_,_,cD⟩:=c6
 obtain⟨_,_,dw⟩:=c7
 obtain⟨_,_,bN⟩:=c8
 obtain⟨_,z4,z5⟩:=dw.b 0 (by decide)
 obtain⟨_,z6,z7⟩:=dw.b 1 (by decide)
 obtain⟨_,iZ,i0⟩:=bN.b 1 (by decide)
 refine D.g7 om (fun vs H Q E h=>?_) (fun f bo A outer s H vs Q E hr h=>?_)
 ·obtain⟨r,x,p,rfl,_⟩:=h
  rfl
 ·obtain⟨r,x,p,rfl,⟨dx,hR⟩,hp,hx,q,qE⟩:=h
  have big:(2000 :Nat)≤sizeLine:=by decide
  refine⟨_,(aj
     (bB (aJ cw (bJ (pv 0) T.aw av.m av.ok (hr.mono (by decide)) av.b .nil aP) (cY lr (aQ (v:= .str "e^-") rfl T.jV ⟨_,rfl⟩) aq (fun _ _=>rfl)) (aU _))
      (au
       (aB (bM (pv 0) T.aw cD.m cD.ok (hr.mono (by decide)) cD.b .nil aV)))
      aY)
    (aj
     (aO (i:=1) om.nd rfl (Or.inl rfl) (cf (aa (fU dw.m dw.ok (hr.mono (by decide)) rfl T.xZ z5 z4 aP (aa (bE (pv 0) T.aw ba.m ba.ok (hr.mono (by decide)) ba.b .nil aV (aa aq ah)) ah)) ah)))
    (aj
     (gy jQ (aJ cw (bJ (pv 0) T.aw av.m av.ok (hr.mono (by decide)) av.b .nil aP) (aQ (v:= .str ".") rfl T.iW ⟨_,rfl⟩) (aU _))
      (aj
       (bF (bE (pv 0) T.aw aA.m aA.ok (hr.mono (by decide)) aA.b .nil aV (aa (aQ (v:= .str ".") rfl T.iW ⟨_,rfl⟩) ah)))
      (aj
       (aO (i:=2) om.nd rfl (Or.inl rfl) (bM (pv 0) T.aw aH.m aH.ok (hr.mono (by decide)) aH.b .nil aV))
      (au
       (bF (eG PySem.F.plainAttrs_list PySem.F.slot_list_append PySem.F.type_list_append dW (pv 1) (aa (fU dw.m dw.ok (hr.mono (by decide)) rfl T.xZ z7 z6 aP (aa (bE (pv 0) T.aw ba.m ba.ok (hr.mono (by decide)) ba.b .nil aV (aa aq ah)) (aa (pv 2) ah))) ah)))))))
    (au
     (aB (fU bN.m bN.ok (hr.mono (by decide)) rfl T.pZ i0 iZ aP (aa (pv 1) (aa (bM (pv 0) T.aw cR.m cR.ok (hr.mono (by decide)) cR.b .nil aV) ah)))))))),?_⟩
  refine⟨_,rfl,r,dx,_,rfl,hR,aE _ _ (by decide+kernel) (by decide+kernel),r,x,p,rfl,⟨dx,hR⟩,hp,hx,"e^-",0,101,rfl,rfl,(by decide+kernel),(by decide+kernel),rfl,_,rfl,?_⟩
  by_cases h0:(sf x p).head? =some 101
  ·refine eI (dS.mpr h0) ?_
   exact⟨_,rfl,r,dx,_,rfl,hR,aE _ _ (by decide+kernel) (by decide+kernel),r,x,p,rfl,⟨dx,hR⟩,hp,hx,h0,fun hs hl f H' nf hF cM k'=>q [] (-1) (p+3) f H' (.inl ⟨hs,rfl,rfl⟩) (by omega) hl nf hF cM k',fun e hB=>qE e (.inl hB)⟩
  ·refine dR (fun z=>h0 (dS.mp z)) ?_
   refine⟨_,rfl,r,dx,_,rfl,hR,aE _ _ (by decide+kernel) (by decide+kernel),r,x,p,0,rfl,⟨dx,hR⟩,hp,hx,rfl,fun Sk q1 l H1 hS DI ue hN dv k1=>?_,fun e hB=>qE e (.inr ⟨h0, .inl hB⟩)⟩
   obtain⟨mj,dv⟩:=dv
   obtain⟨Sl,Xw,xA,Sm⟩:=hN
   refine fun g dg ng GB neg=>⟨g,dg,l,1,Xw.map V.ref,rfl,ag,?_,fun m H2 hm hg Kp kp=>⟨rfl,(by show 1≤sizeLine;decide),fun L hL=>?_⟩⟩
   ·rw[ao (ai xA ng),ao (ai xA GB)];exact xA
   have s2:aF H1 H2:=fun b o z=>kp b o (by rw[ao (ai z ng),ao (ai z GB)];exact z) (ai z ng)
   have ig:=s2 _ _ dv
   have k2:Kept r H H2:=k1.trans (Kept.of s2)
   have x6:H L=none:=aX k2 ig hL
   have pf:L≠r:=fun z=>by rw[z,ig] at hL;cases hL
   have sL:aF H2 (upd H2 L (.lst [V.ref g])):=aF.new hL
   have Zv:=aX k1 dv ng
   have Zw:=aX k1 dv (d8 hm)
   have first:LS C G Pc L 4 H (upd H2 L (.lst [V.ref g])) g (1,Sk):=fun cu ke=>
    ⟨dg,m,Xw,ke _ _ Zv (ai hg hL) (sL _ _ hg),ke _ _ Zw (ai Kp hL) (sL _ _ Kp),Sm cu fun b o z1 z2=>ke b o z1 (ai (s2 _ _ z2) hL) (sL _ _ (s2 _ _ z2))⟩
   refine⟨fun k σ H'=>∃q' xs,k+q'=x.length∧p<q'∧vk (sf x p) xs (sf x q')∧(∃v:Option V,σ=[some (.ref r),some (.ref L),v])∧cH R H' r x q'∧Kept r H H'∧∃ps,H' L=some (.lst (ps.map V.ref))∧ps.length≤q'∧Paired (LS C G Pc L 4 H H') ps xs,⟨x.length - q1,q1,[(1,Sk)],by omega,DI, .one Sk _ hS,⟨none,rfl⟩,⟨mj,sL _ _ ig⟩,k2.trans (Kept.of sL),[g],ag,by show 1≤q1;omega, .cons first .nil⟩,?_⟩
   rintro k σ H' ⟨q',xs,hk,EV,Kq,⟨v,rfl⟩,⟨cX,cM⟩,kk,ps,IF,mf,hP⟩
   have iJ:q'≤x.length:=by omega
   refine⟨_,rfl,r,cX,_,rfl,cM,aE _ _ (by decide+kernel) (by decide+kernel),r,x,_,rfl,⟨cX,cM⟩,iJ,hx,rfl,_,rfl,?_⟩
   by_cases rF:(sf x q').head? =some 46
   ·obtain⟨f1,f2⟩:=dz rF
    rw[f1] at Kq
    refine eI (by rw[IA];exact dS.mpr rF) ?_
    refine⟨_,fun σ' cu h=>h,?_⟩
    refine⟨_,rfl,r,cX,_,rfl,cM,aE _ _ (by decide+kernel) (by decide+kernel),r,x,q',46,congrArg (fun z=>[V.ref r,V.str z]) IA,⟨cX,cM⟩,iJ,hx,fun _ H3 fh k3=>?_,fun n=>absurd rF n⟩
    obtain⟨uc,fh⟩:=fh
    refine⟨_,rfl,r,uc,_,rfl,fh,aE _ _ (by decide+kernel) (by decide+kernel),r,x,q'+1,rfl,⟨uc,fh⟩,f2,hx,fun c q4 H4 hC Sf BX pe k4=>?_,fun e hB h1 h2=>(qE e (.inr ⟨h0, .inr (.inl ⟨xs,_,Kq, .inl hB⟩)⟩) (by omega) h2).on (kk.trans k3) fh⟩
    obtain⟨GA,pe⟩:=pe
    have IG:=k3.trans k4
    have AE:=IG _ _ IF pf
    refine⟨_,rfl, .inl ⟨rfl,_,cL.of AE⟩,_,rfl,r,GA,_,rfl,pe,aE _ _ (by decide+kernel) (by decide+kernel),r,x,q4,0,rfl,⟨GA,pe⟩,BX,hx,rfl,fun Qq q5 l' H5 Zx hq5 Zy Qr LZ k5=>?_,fun e hB h1 h2=>(qE e (.inr ⟨h0, .inr (.inl ⟨xs,_,Kq, .inr ⟨c,_,hC,hB⟩⟩)⟩) (by omega) h2).on (kk.trans IG) pe⟩
    obtain⟨Zz,LZ⟩:=LZ
    obtain⟨ZA,Qs,IH,Sn⟩:=Qr
    refine⟨_,rfl,fun g' L0 AF BZ So=>⟨g',L0,l',c,Qs.map V.ref,rfl,ag,?_,fun m' H6 Sr Ss II Su=>⟨rfl,?_⟩⟩⟩
    ·rw[ao (ai IH AF),ao (ai IH BZ)];exact IH
    have s6:aF H5 H6:=fun b o z=>Su b o (by rw[ao (ai z AF),ao (ai z BZ)];exact z) (ai z AF)
    have Xx:Kept r H' H6:=(IG.trans k5).trans (Kept.of s6)
    have Kr:=k5 _ _ AE pf
    have ZC:=s6 _ _ Kr
    have Xy:Kept r H H4:=kk.trans IG
    have Xz:Kept r H H5:=Xy.trans k5
    refine⟨L,_,_,rfl,rfl,ZC,by rw[List.length_map];omega,x.length - q5,by omega,q5,xs++[(c,Qq)],by omega,by omega, .snoc xs _ c _ Qq _ Kq hC Zx,⟨_,rfl⟩,⟨Zz,?_⟩,fun b o z w=>?_,ps++[g'],by rw[ag,List.map_append];rfl,by rw[List.length_append];show ps.length+1≤q5;omega,?_⟩
    ·rw[ao (Ne.symm pf),s6 _ _ LZ]
    ·rw[ao (ai z x6)]
     exact Xx _ _ (kk _ _ z w) w
    ·refine f9 (fun cu ke=>?_) (bY (fun c t h cu ke=>h cu fun b o z1 z2 z3=>ke b o z1 z2 ?_) hP)
     ·have u:∀{b o},H6 b=some o→b≠L→(upd H6 L (.lst (ps.map V.ref++[V.ref g']))) b=some o:=fun {b o} z w=>by rw[ao w];exact z
      have XA:g'≠L:=fun z=>by rw[z,Kr] at AF;cases AF
      have Sv:=d8 Sr
      have XB:m'≠L:=fun z=>by rw[z,Kr] at Sv;cases Sv
      refine⟨L0,m',Qs,ke _ _ (aX Xz LZ AF) XA (u Ss XA),ke _ _ (aX Xz LZ Sv) XB (u II XB),Sn cu fun b o z1 z2=>?_⟩
      have BY:b≠L:=fun z=>by rw[z,AE] at z1;cases z1
      exact ke b o (aX Xy pe z1) BY (u (s6 _ _ z2) BY)
     ·have AD:b≠r:=fun z=>by rw[z,hR] at z1;cases z1
      rw[ao z2]
      exact Xx _ _ z3 AD
   ·refine dR (by rw[IA];exact fun z=>rF (dS.mp z)) ?_
    refine⟨_,rfl,_,rfl,r,cX,_,rfl,cM,aE _ _ (by decide+kernel) (by decide+kernel),r,x,q',rfl,⟨cX,cM⟩,iJ,hx,fun n q3 H3 hC ZD IJ fh k3=>?_,fun e hB h1 h2=>(qE e (.inr ⟨h0, .inr (.inr ⟨xs,_,Kq,rF,hB⟩)⟩) (by omega) h2).on kk cM⟩
    obtain⟨uc,fh⟩:=fh
    have z8:=k3 _ _ IF pf
    have Qt:=kk.trans k3
    refine fun g' L0 AF BZ So=>⟨g',L0,L,n,ps.map V.ref,rfl,ag,?_,fun m' H6 Sr Ss II Su=>⟨rfl,?_⟩⟩
    ·rw[ao (ai z8 AF),ao (ai z8 BZ)];exact z8
    have s6:aF H3 H6:=fun b o z=>Su b o (by rw[ao (ai z AF),ao (ai z BZ)];exact z) (ai z AF)
    refine q xs n q3 g' H6 (.inr ⟨h0,_,Kq,rF,hC⟩) (by omega) IJ (aX Qt fh AF) (fun cu ke=>?_) ⟨uc,s6 _ _ fh⟩ (Qt.trans (Kept.of s6))
    refine⟨L0,m',ps,ke _ _ (aX Qt fh AF) Ss,ke _ _ (aX Qt fh (d8 Sr)) II,bY (fun c t h=>h cu fun b o z1 z2 z3=>ke b o z1 ?_) hP⟩
    have AD:b≠r:=fun z=>by rw[z,hR] at z1;cases z1
    exact s6 _ _ (k3 _ _ z3 AD)
variable {HE NF TL:Addr}{uC uP uI uD uL uT:Tok}
def Rf(X:Addr)(fld:Str)(H:Hp)(E:XK)(e:Nat):Prop:=∀b dx H',H b=none→H dx=none→H' b=some (nP b X (some dx))→H' dx=some (xE dx [(fld, .int (e:Int))])→aF H H'→E (.ref X) (some dx) H'
def oy(TL:Addr):Sp:=fun vs H Q E=>∃x:Str,vs=[.str x]∧x.length≤10000∧(x.length≤400→Q .cn H)∧(400<x.length→Rf TL "many" H E x.length)
theorem uf(D:Def K mg "refuse_too_long" "refuse_too_long" ko ["text"])(T:pb K mg C R G Pc Fo uK uN uB uE uM uC uP uI uD uL uT)(TE:tY K mg HE NF TL)(c1:gi P w K mg base 1 "TooLong" TL HE ["self","many"] (iY TL "many")):tM P w K mg base 3 "refuse_too_long" ["text"] (oy TL):=by
 obtain⟨_,_,fz⟩:=c1
 refine D.g7 zU (fun vs H Q E h=>?_) (fun f bo A outer s H vs Q E hr h=>?_)
 ·obtain⟨x,rfl,_⟩:=h
  rfl
 ·obtain⟨x,rfl,hx,q,qE⟩:=h
  have big:(10000 :Nat)≤sizeLine:=by decide
  refine⟨_,(au
     (bB (aJ fT (bb b4 rfl T.f7 dX (aa (pv 0) ah)) (aQ (v:= .int 400) rfl T.oj ⟨_,rfl⟩) (aU _))
      (au
       (gO rfl aV (gN fz.z fz.ok (hr.mono (by decide)) rfl fz.g fz.kp fz.b (aa (bb b4 rfl T.f7 dX (aa (pv 0) ah)) ah))))
      aY)),?_⟩
  refine⟨_,rfl,x,rfl,by omega,_,_,rfl,rfl,_,rfl,?_⟩
  by_cases h:400<x.length
  ·refine eI (by omega) ⟨_,rfl,x,rfl,by omega,(by show 1≤100;decide),fun b hb=>?_⟩
   refine⟨b,_,rfl,ag,by omega,by omega,fun jR H5 iE jm zW vm k5=>⟨rfl,b,TL,HE,_,some jR,rfl,fz.z,zW,?_⟩⟩
   rw[ao jm] at iE
   refine qE h b jR _ hb iE ag (by rw[ao jm];exact vm) fun b' o z=>?_
   have v7:b'≠b:=ai z hb
   rw[ao v7]
   exact k5 _ _ (by rw[ao v7];exact z) v7
  ·exact dR (by omega) (q (by omega))
variable {HE NF TL NC TM:Addr}
structure ug(K:PySem.W.Frag)(mg:Str→Option Value)(HE NF TL NC TM:Addr):Prop extends tY K mg HE NF TL where
 wd:mg "NoChange" =some (.ref NC)
 z9:mg "TooMany" =some (.ref TM)
 B0:PySem.W.takerIn K NC "place" =some none
 EX:PySem.W.takerIn K TM "many" =some none
 rG:PySem.W.tJ K NF
 EY:PySem.W.findIn K (.ref NF) "place" =some none
 up:PySem.W.mroIn K NF (.ref NF)=some true
 lt:gK.tF NC
 nl:¬gK.tF NF
theorem L1:ay ["self","place"] ["self","place"] (ak EB):=dN
theorem EZ:ay ["self","many"] ["self","many"] (ak qT):=dN
theorem IK(D:lD K mg "NoChange" NC HE "NoChange.__init__" EB ["self","place"])(T:ug K mg HE NF TL NC TM):vS P w K mg base 1 "NoChange" NC HE ["self","place"] (iY NC "place"):=by
 obtain⟨f0,_,_,Z,_⟩:=id D
 refine D.R0 L1 (fun vs H Q E h=>?_) (fun f e' bo A outer s H vs Q E hr h=>?_)
 ·obtain⟨e,n,rfl,_⟩:=h
  rfl
 ·obtain⟨e,n,rfl,he,n0,n1,q⟩:=h
  have big:(2000 :Nat)≤sizeLine:=by decide
  have z1:=kM n0 n1
  have y1:("no change, by place " :Str).length=20:=by decide+kernel
  have y2:(" of the text" :Str).length=12:=by decide+kernel
  have y0:(Str.empty).length=0:=rfl
  refine⟨_,(aj
     (bF (kj rfl T.eL T.fe (pv 0) (mH (dM aN (dM (qO (pv 1)) (dM aN qP))))))
    (au
     (mG (pv 0) (pv 1) rfl))),?_⟩
  refine⟨_,rfl,_,rfl,?_,_,rfl, .inl ⟨_,rfl,kN n0 n1,_,rfl,?_,_,rfl,?_,?_,e,NC,HE,f0,none,rfl,Z,he,?_⟩⟩
  any_goals (simp only [aL,y0,y1,y2];omega)
  refine⟨_,rfl,_,rfl,e,NC,HE,f0,rfl,Z,T.B0, .inl ⟨he,fun dx iE jm=>?_⟩⟩
  refine q dx _ iE jm ag (by rw[ao jm,ag]) fun b o z nb=>?_
  rw[ao nb,ao (ai z iE)]
  exact z
theorem B1(D:lD K mg "TooMany" TM HE "TooMany.__init__" qT ["self","many"])(T:ug K mg HE NF TL NC TM):gi P w K mg base 1 "TooMany" TM HE ["self","many"] (iY TM "many"):=by
 obtain⟨f0,_,_,Z,_⟩:=id D
 refine D.fW EZ (fun vs H Q E h=>?_) (fun f bo A outer s H vs Q E hr h=>?_)
 ·obtain⟨e,n,rfl,_⟩:=h
  rfl
 ·obtain⟨e,n,rfl,he,n0,n1,q⟩:=h
  have big:(2000 :Nat)≤sizeLine:=by decide
  have z1:=kM n0 n1
  have y1:("too many: " :Str).length=10:=by decide+kernel
  have y0:(Str.empty).length=0:=rfl
  refine⟨_,(aj
     (bF (kj rfl T.eL T.fe (pv 0) (mH (dM aN (dM (qO (pv 1)) qP)))))
    (au
     (mG (pv 0) (pv 1) rfl))),?_⟩
  refine⟨_,rfl,_,rfl,?_,_,rfl, .inl ⟨_,rfl,kN n0 n1,_,rfl,?_,?_,e,TM,HE,f0,none,rfl,Z,he,?_⟩⟩
  any_goals (simp only [aL,y0,y1];omega)
  refine⟨_,rfl,_,rfl,e,TM,HE,f0,rfl,Z,T.EX, .inl ⟨he,fun dx iE jm=>?_⟩⟩
  refine q dx _ iE jm ag (by rw[ao jm,ag]) fun b o z nb=>?_
  rw[ao nb,ao (ai z iE)]
  exact z
theorem aZ(a b:List Nat):(⟨a.toArray⟩:Str)++⟨b.toArray⟩=⟨(a++b).toArray⟩:=by
 show (⟨a.toArray++b.toArray⟩:Str)=_
 simp
theorem x8(d:Nat):∀ts:List Tr,jn (ts.map fun t=>(⟨(ck d t).toArray⟩:Str))=⟨(ts.flatMap (ck d)).toArray⟩
 | []=>rfl
 |t::ts=>by
  rw[List.map_cons,EE,x8 d ts,aZ,List.flatMap_cons]
theorem az(a:List Nat):(⟨a.toArray⟩:Str).length=a.length:=by simp [Str.length]
theorem bL(n:Int):du n=⟨(bc n).toArray⟩:=by
 apply ei
 simp [bc]
theorem rH{d:Nat}{ts:List Tr}{t:Tr}(h:t∈ts):(ck d t).length≤(ts.flatMap (ck d)).length:=by
 obtain⟨s,r,rfl⟩:=List.append_of_mem h
 rw[List.flatMap_append,List.flatMap_cons,List.length_append,List.length_append]
 omega
def lI(C G:Addr):Nat→Sp
 |0=>fun _ _ _ _=>False
 |d+1=>fun vs H Q _=>∃(g:Addr) (ts:List Tr) (n:Int),vs=[.ref g]∧d7 C G (d+1) H g (.gr ts n)∧o9 (d+1) (.gr ts n)∧(ck (d+1) (.gr ts n)).length≤1000∧∀H',aF H H'→Q (.str ⟨(ck (d+1) (.gr ts n)).toArray⟩) H'
def jq(C G:Addr)(d:Nat):Sp:=fun vs H Q _=>∃(l:Addr) (ps:List Addr) (ts:List Tr),vs=[.ref l]∧H l=some (.lst (ps.map V.ref))∧Paired (d7 C G d H) ps ts∧(∀t∈ts,o9 d t)∧(ts.flatMap (ck d)).length≤1000∧∀H',aF H H'→Q (.str ⟨(ts.flatMap (ck d)).toArray⟩) H'
theorem d7.same{C G:Addr}:∀{d:Nat} {H H':Hp} {p:Addr} {t:Tr},d7 C G d H p t→aF H H'→d7 C G d H' p t
 |0,H,H',p, .one k n,h,e=>fF.same h e
 |d+1,H,H',p, .one k n,h,e=>fF.same (C:=C) (k:=⟨k.toArray⟩) (n:=n) h e
 |0,_,_,_, .gr _ _,h,_=>h.elim
 |d+1,H,H',p, .gr ts n,⟨dx,l,ps,h1,h2,h3⟩,e=>⟨dx,l,ps,e _ _ h1,e _ _ h2,bY (fun a b h=>d7.same h e) h3⟩
theorem ij{α β:Type}{p:α→β→Prop}:∀{as:List α} {bs:List β} {i:Nat} {a:α},Paired p as bs→as[i]? =some a→∃b,bs[i]? =some b∧p a b
 |_,_,_,_, .nil,h=>by simp at h
 |_,_,0,_, .cons h _,e=>⟨_,rfl,by have e:=Option.some.inj e;rw[←e];exact h⟩
 |_,_,i+1,_, .cons _ t,e=>ij (i:=i) t e
theorem B2:ay ["parts"] ["parts"] (ak jd):=dN
theorem E1{k:List Nat}(h:rn k):(⟨k.toArray⟩:Str).length≤3:=by
 obtain⟨c,r,rfl,_,_,hl⟩:=h
 rw[az,List.length_cons]
 omega
theorem oz(d:Nat)(D:Def K mg "parts_shown" "parts_shown" jd ["parts"])(T:rq K mg C R G uK uN uB uE uM)(c1:cZ P w K mg base 2 C "shown" ["self"] (rm C))(c2:cZ P w K mg base (2*d+2) G "shown" ["self"] (lI C G d)):bD P w K mg base (2*d+3) "parts_shown" ["parts"] (jq C G d):=by
 obtain⟨_,_,ik⟩:=c1
 obtain⟨_,_,gs⟩:=c2
 refine D.fW B2 (fun vs H Q E h=>?_) (fun f bo A outer s H vs Q E hr h=>?_)
 ·obtain⟨l,ps,ts,rfl,_⟩:=h
  rfl
 ·obtain⟨l,ps,ts,rfl,hl,hP,bq,hz,q⟩:=h
  have big:(2000 :Nat) <sizeLine:=by decide
  have hfl:=tU bq
  have lp:ps.length=ts.length:=Paired.length hP
  refine⟨_,(au
     (aB (eG PySem.F.plainAttrs_str PySem.F.slot_str_join PySem.F.type_str_join mF aN (aa (j' (sc:=(ak jd)) (NX:=["parts"]) (N:=["part"]) (fr:=[none]) ⟨by rfl,by rfl,by decide+kernel,by decide+kernel,by decide+kernel,by rfl,by decide+kernel⟩ rfl rfl rfl (j7 (pv 0)) (fun _ _ _ _=>(bZ (i:=0) (show (["part"]:List Str).Nodup by decide+kernel) rfl (Or.inl rfl) (Or.inr rfl))) (fun _ _ _ _=>mC) (fun _ _ _ _=>(HV (bJ (pv 0) T.hZ ik.m ik.ok (hr.mono (by omega)) ik.b .nil aP) (bJ (pv 0) T.fb gs.m gs.ok (hr.mono (by omega)) gs.b .nil aP)))) ah)))),?_⟩
  refine⟨rfl,_,rfl,l,rfl,⟨_,cL.of hl⟩,fun D hD=>lB (K:=K) (a:=l) (D:=D) (xs:=ps.map V.ref) (fun i σ H'=>∃v:Option V,σ=[v]∧aF H H'∧H' D=some (.lst ((ts.take i).map fun t=>V.str ⟨(ck d t).toArray⟩)))
   ?_ (fun i σ H' _ ⟨_,_,e,_⟩=>cL.of (e _ _ hl)) ?_ ?_⟩
  ·exact⟨none,rfl,aF.new hD,ag⟩
  ·rintro i v σ H' hi ⟨v',rfl,e,oW⟩ N hN
   rw[List.getElem?_map] at hi
   obtain⟨p,hp,rfl⟩:∃p,ps[i]? =some p∧v=V.ref p:=by
    cases hh:ps[i]? with
    |none=>rw[hh] at hi;cases hi
    |some p=>rw[hh] at hi;exact⟨p,rfl,(Option.some.inj hi).symm⟩
   obtain⟨t,ht,hT⟩:=ij hP hp
   have hT:=hT.same e
   have Ks:=bq t (List.mem_of_getElem? ht)
   have lt:=Nat.le_trans (rH (d:=d) (List.mem_of_getElem? ht)) hz
   have fin:∀cu,aF H' cu→∃ys,cu D=some (.lst ys)∧ys.length<sizeLine∧N [some (V.ref p)] (upd cu D (.lst (ys++[V.str ⟨(ck d t).toArray⟩]))):=fun cu e'=>by
    refine⟨_,e' _ _ oW,?_,hN _ _ ⟨_,rfl,fun b o z=>?_,?_⟩⟩
    ·rw[List.length_map]
     have:(ts.take i).length≤ts.length:=List.length_take_le' _ _
     omega
    ·rw[ao (ai z hD)]
     exact e' _ _ (e _ _ z)
    ·rw[ag,List.take_add_one,ht,List.map_append]
     rfl
   cases t with
   |one k n=>
    have Sw:rn k∧1≤n∧n≤999:=by cases d<;>exact Ks
    have hA:fF C H' p ⟨k.toArray⟩ n:=by cases d<;>exact hT
    have et:(⟨(ck d (.one k n)).toArray⟩:Str)=⟨k.toArray⟩++du n:=by
     rw[bL,aZ]
     cases d<;>rfl
    obtain⟨dx,Ls⟩:=id hA
    have:=fin H' (aF.refl _)
    rw[et] at this
    exact Or.inl ⟨_,rfl,p,dx,_,rfl,Ls,ED _ _ (by decide+kernel) (by decide+kernel),p,_,n,rfl,hA,E1 Sw.1,Sw.2.1,Sw.2.2,this⟩
   |gr us n=>
    cases d with
    |zero=>exact Ks.elim
    |succ d=>
     obtain⟨dx,l',Qs,h1,h2,h3⟩:=id hT
     exact Or.inr ⟨_,rfl,p,dx,_,rfl,h1,tS _ _ (by decide+kernel) (by decide+kernel),p,us,n,rfl,hT,Ks,lt,fin⟩
  ·rintro σ H' ⟨v,rfl,e,oW⟩
   rw[List.length_map,lp,List.take_length] at oW
   have es:((ts.map fun t=>(⟨(ck d t).toArray⟩:Str)).map (·.length)).sum=(ts.flatMap (ck d)).length:=by
    rw[List.map_map,List.length_flatMap]
    congr 1
   refine⟨_,D,ts.map (fun t=>⟨(ck d t).toArray⟩),rfl,rfl,cL.of (by rw[oW,List.map_map];rfl),?_,?_⟩
   ·have e0:("" :Str).length=0:=by decide+kernel
    rw[es,e0]
    omega
   ·rw[join_eq,x8]
    exact q _ e
theorem uh:ay ["self"] ["self"] (ak je):=dN
theorem we(D:bR K G "shown" "Group.shown" je ["self"]):cZ P w K mg base 2 G "shown" ["self"] (lI C G 0):=
 D.fW (k:=1) uh (fun vs H Q E h=>h.elim) (fun f bo A outer s H vs Q E hr h=>h.elim)
theorem wg(d:Nat)(D:bR K G "shown" "Group.shown" je ["self"])(T:rq K mg C R G uK uN uB uE uM)(c1:bD P w K mg base (2*d+3) "parts_shown" ["parts"] (jq C G d))(c2:bD P w K mg base 1 "count_shown" ["count"] hV):cZ P w K mg base (2*d+4) G "shown" ["self"] (lI C G (d+1)):=by
 obtain⟨_,_,bP⟩:=c1
 obtain⟨_,_,aW⟩:=c2
 refine D.fW uh (fun vs H Q E h=>?_) (fun f bo A outer s H vs Q E hr h=>?_)
 ·obtain⟨g,ts,n,rfl,_⟩:=h
  rfl
 ·obtain⟨g,ts,n,rfl,⟨dx,l,ps,hg,hl,hP⟩,⟨jc,bq,n1,n2⟩,hz,q⟩:=h
  have big:(2000 :Nat)≤sizeLine:=by decide
  have hz:(40::(ts.flatMap (ck d)++41::bc n)).length≤1000:=hz
  rw[List.length_cons,List.length_append,List.length_cons] at hz
  have e1:("(" :Str).length=1:=by decide+kernel
  have e2:(")" :Str).length=1:=by decide+kernel
  have lf:(du n).length=(bc n).length:=by rw[bL,az]
  have ee:(⟨(ck (d+1) (.gr ts n)).toArray⟩:Str)="(" ++⟨(ts.flatMap (ck d)).toArray⟩++")" ++du n:=by
   rw[bL,Gz,Qk]
   rw[show (⟨#[40]⟩:Str)=⟨[40].toArray⟩ from rfl,show (⟨#[41]⟩:Str)=⟨[41].toArray⟩ from rfl,aZ,aZ,aZ]
   simp [ck]
  rw[ee] at q
  refine⟨_,(au
     (aB (ax aG (ax aG (ax aG (aQ (v:= .str "(") rfl T.er ⟨_,rfl⟩) (aM bP.ok (hr.mono (by omega)) rfl bP.g bP.kp bP.b .nil aP (aa (bz (pv 0) rfl) ah))) (aQ (v:= .str ")") rfl T.lV ⟨_,rfl⟩)) (aM aW.ok (hr.mono (by omega)) rfl aW.g aW.kp aW.b .nil aP (aa (bz (pv 0) rfl) ah))))),?_⟩
  refine⟨_,rfl,g,G,dx,_,_,rfl,hg,T.fb,T.pU,lT _ _,l,ps,ts,rfl,hl,hP,bq,by omega,fun H1 s1=>⟨_,_,rfl,rfl,?_,_,_,rfl,rfl,?_,_,rfl,g,G,dx,_,_,rfl,s1 _ _ hg,T.fb,T.pV,lU _ _,n,rfl,n1,n2,_,_,rfl,rfl,?_,q _ s1⟩⟩
  ·rw[e1,az]
   omega
  ·rw[aL,e1,e2,az]
   omega
  ·rw[aL,aL,e1,e2,az,lf]
   omega
theorem qa(D1:Def K mg "parts_shown" "parts_shown" jd ["parts"])(D2:bR K G "shown" "Group.shown" je ["self"])(T:rq K mg C R G uK uN uB uE uM)(c1:cZ P w K mg base 2 C "shown" ["self"] (rm C))(c2:bD P w K mg base 1 "count_shown" ["count"] hV):∀d:Nat,bD P w K mg base (2*d+3) "parts_shown" ["parts"] (jq C G d)
 |0=>oz 0 D1 T c1 (we D2)
 |d+1=>oz (d+1) D1 T c1 (by rw[show 2*(d+1)+2=2*d+4 by omega];exact wg d D2 T (qa D1 D2 T c1 c2 d) c2)
variable {uC uP uI uD uL uT:Tok}
def jH(C G Pc:Addr)(d:Nat):Sp:=fun vs H Q _=>∃(q:Addr) (x:eU),vs=[.ref q]∧jT C G Pc d H q x∧Gs d x∧(jF d x).length≤1000∧∀H',aF H H'→Q (.str ⟨(jF d x).toArray⟩) H'
theorem rJ:ay ["self"] ["self"] (ak f6):=dN
theorem oA(d:Nat)(D:bR K Pc "shown" "Piece.shown" f6 ["self"])(T:pb K mg C R G Pc Fo uK uN uB uE uM uC uP uI uD uL uT)(c1:bD P w K mg base (2*d+3) "parts_shown" ["parts"] (jq C G d))(c2:bD P w K mg base 1 "count_shown" ["count"] hV):cZ P w K mg base (2*d+4) Pc "shown" ["self"] (jH C G Pc d):=by
 obtain⟨_,_,bP⟩:=c1
 obtain⟨_,_,aW⟩:=c2
 refine D.fW rJ (fun vs H Q E h=>?_) (fun f bo A outer s H vs Q E hr h=>?_)
 ·obtain⟨p,x,rfl,_⟩:=h
  rfl
 ·obtain⟨p,x,rfl,⟨dx,l,ps,hp,hl,hP⟩,⟨jc,bq,n1,n2⟩,hz,q⟩:=h
  have big:(2000 :Nat)≤sizeLine:=by decide
  have XC:=hz
  unfold jF at XC q
  rw[List.length_append] at XC
  have lf:(du x.1).length=(bc x.1).length:=by rw[bL,az]
  rw[←aZ,←bL] at q
  refine⟨_,(au
     (aB (ax aG (aM aW.ok (hr.mono (by omega)) rfl aW.g aW.kp aW.b .nil aP (aa (bz (pv 0) rfl) ah)) (aM bP.ok (hr.mono (by omega)) rfl bP.g bP.kp bP.b .nil aP (aa (bz (pv 0) rfl) ah))))),?_⟩
  refine⟨_,rfl,p,Pc,dx,_,_,rfl,hp,T.dw,T.pY,lU _ _,x.1,rfl,n1,n2,_,rfl,p,Pc,dx,_,_,rfl,hp,T.dw,T.pX,lT _ _,l,ps,x.2,rfl,hl,hP,bq,by omega,fun H1 e1=>⟨_,_,rfl,rfl,?_,q _ e1⟩⟩
  rw[lf,az]
  omega
def qb:Sp:=fun vs H Q _=>∃n:Int,vs=[.int n]∧ -999≤n∧n≤999∧Q (.str ⟨(iA n).toArray⟩) H
theorem IL{n:Int}(h1: -999≤n)(h2:n≤999):(iA n).length≤5:=by
 unfold iA
 split
 ·exact Nat.zero_le _
 ·rename_i h0
  have:=dO (n:=if n<0 then -n else n) (by split<;>omega) (by split<;>omega)
  rw[bL,az] at this
  rw[List.length_cons,List.length_append]
  simp
  omega
theorem pj:ay ["charge"] ["charge"] (ak e7):=dN
theorem lJ(D:Def K mg "charge_shown" "charge_shown" e7 ["charge"])(T:pb K mg C R G Pc Fo uK uN uB uE uM uC uP uI uD uL uT)(c1:bD P w K mg base 1 "count_shown" ["count"] hV):bD P w K mg base 2 "charge_shown" ["charge"] qb:=by
 obtain⟨_,_,aW⟩:=c1
 refine D.fW pj (fun vs H Q E h=>?_) (fun f bo A outer s H vs Q E hr h=>?_)
 ·obtain⟨n,rfl,_⟩:=h
  rfl
 ·obtain⟨n,rfl,h1,h2,q⟩:=h
  have big:(2000 :Nat)≤sizeLine:=by decide
  refine⟨_,(aj
     (bB (aJ cw (pv 0) aq (aU _))
      (au
       (aB aN))
      aY)
    (au
     (aB (ax aG (ax aG (aQ (v:= .str "^") rfl T.gq ⟨_,rfl⟩) (aM aW.ok (hr.mono (by decide)) rfl aW.g aW.kp aW.b .nil aP (aa (bb sQ rfl T.BP Bm (aa (pv 0) ah)) ah))) (sM (aJ fT (pv 0) aq (aU _)) (aQ (v:= .str "+") rfl T.BO ⟨_,rfl⟩) (aQ (v:= .str "-") rfl T.rB ⟨_,rfl⟩)))))),?_⟩
  refine⟨_,rfl,rfl,_,rfl,gZ (fun e=>?_) fun e=>?_⟩
  ·have e:n=0:=by simpa using e
   subst e
   have e0:(⟨(iA 0).toArray⟩:Str)="" :=by decide+kernel
   rw[e0] at q
   exact q
  ·have e:¬n=0:=by simpa using e
   have a1:1≤(if n<0 then -n else n):=by split<;>omega
   have a2:(if n<0 then -n else n)≤999:=by split<;>omega
   have z:=dO a1 a2
   have e1:("^" :Str).length=1:=by decide+kernel
   refine⟨_,rfl,n,rfl,_,rfl,a1,a2,_,_,rfl,rfl,by rw[e1];omega,_,rfl,_,_,rfl,rfl,?_⟩
   have ec:(⟨(iA n).toArray⟩:Str)="^" ++du (if n<0 then -n else n)++(if 0<n then ("+" :Str) else ("-" :Str)):=by
    unfold iA
    rw[if_neg e,bL,Iz,R9,LR]
    rw[show (⟨#[94]⟩:Str)=⟨[94].toArray⟩ from rfl,aZ]
    by_cases hp:0<n
    ·rw[if_pos hp,if_pos hp,show (⟨#[43]⟩:Str)=⟨[43].toArray⟩ from rfl,aZ]
     simp
    ·rw[if_neg hp,if_neg hp,show (⟨#[45]⟩:Str)=⟨[45].toArray⟩ from rfl,aZ]
     simp
   rw[ec] at q
   refine⟨_,rfl,gZ (fun e=>?_) fun e=>?_⟩
   ·have e:0<n:=by simpa using e
    rw[if_pos e] at q
    refine⟨_,_,rfl,rfl,?_,q⟩
    have e2:("+" :Str).length=1:=by decide+kernel
    rw[aL,e1,e2]
    omega
   ·have e:¬0<n:=by simpa using e
    rw[if_neg e] at q
    refine⟨_,_,rfl,rfl,?_,q⟩
    have e2:("-" :Str).length=1:=by decide+kernel
    rw[aL,e1,e2]
    omega
def qc(C G Pc Fo:Addr)(d:Nat):Sp:=fun vs H Q _=>∃(f:Addr) (xs:List eU) (n:Int),vs=[.ref f]∧oa C G Pc Fo d H f xs n∧sF d xs n∧(wL d xs n).length≤1000∧∀H',aF H H'→Q (.str ⟨(wL d xs n).toArray⟩) H'
theorem qd(d:Nat):∀(x:eU) (r:List eU),Str.join "." ((x::r).map fun y=>(⟨(jF d y).toArray⟩:Str))=⟨(jF d x++cA d r).toArray⟩
 |x,[]=>by
  show (⟨(jF d x).toArray⟩:Str)=⟨(jF d x++[]).toArray⟩
  rw[List.append_nil]
 |x,y::r=>by
  show (⟨(jF d x).toArray⟩:Str)++"." ++Str.join "." ((y::r).map fun y=>(⟨(jF d y).toArray⟩:Str))=⟨(jF d x++(46::jF d y++cA d r)).toArray⟩
  rw[qd d y r,IA,show (⟨#[46]⟩:Str)=⟨[46].toArray⟩ from rfl,aZ,aZ]
  simp
theorem jT.same{C G Pc:Addr}{d:Nat}{H H':Hp}{p:Addr}{x:eU}(h:jT C G Pc d H p x)(e:aF H H'):jT C G Pc d H' p x:=
 let ⟨dx,l,ps,h1,h2,h3⟩:=h;⟨dx,l,ps,e _ _ h1,e _ _ h2,bY (fun _ _ h=>d7.same h e) h3⟩
theorem oa.same{C G Pc Fo:Addr}{d:Nat}{H H':Hp}{p:Addr}{xs:List eU}{n:Int}(h:oa C G Pc Fo d H p xs n)(e:aF H H'):oa C G Pc Fo d H' p xs n:=
 let ⟨dx,l,ps,h1,h2,h3⟩:=h;⟨dx,l,ps,e _ _ h1,e _ _ h2,bY (fun _ _ h=>jT.same h e) h3⟩
theorem B3:ay ["self"] ["self"] (ak kq):=dN
theorem wj(d:Nat)(D:bR K Fo "shown" "Formula.shown" kq ["self"])(T:pb K mg C R G Pc Fo uK uN uB uE uM uC uP uI uD uL uT)(c1:cZ P w K mg base (2*d+4) Pc "shown" ["self"] (jH C G Pc d))(c2:bD P w K mg base 2 "charge_shown" ["charge"] qb):cZ P w K mg base (2*d+5) Fo "shown" ["self"] (qc C G Pc Fo d):=by
 obtain⟨_,_,gu⟩:=c1
 obtain⟨_,_,dP⟩:=c2
 refine D.fW B3 (fun vs H Q E h=>?_) (fun f bo A outer s H vs Q E hr h=>?_)
 ·obtain⟨f,xs,n,rfl,_⟩:=h
  rfl
 ·obtain⟨f,xs,n,rfl,⟨dx,l,ps,hf,hl,hP⟩,bq,hz,q⟩:=h
  have big:(3000 :Nat) <sizeLine:=by decide
  have lp:ps.length=xs.length:=Paired.length hP
  refine⟨_,(aj
     (bB (vx (sP (bz (pv 0) rfl) (fun _=>rfl)))
      (au
       (aB (aQ (v:= .str "e^-") rfl T.jV ⟨_,rfl⟩)))
      aY)
    (au
     (aB (ax aG (eG PySem.F.plainAttrs_str PySem.F.slot_str_join PySem.F.type_str_join mF (aQ (v:= .str ".") rfl T.iW ⟨_,rfl⟩) (aa (j' (sc:=(ak kq)) (NX:=["self"]) (N:=["piece"]) (fr:=[none]) ⟨by rfl,by rfl,by decide+kernel,by decide+kernel,by decide+kernel,by rfl,by decide+kernel⟩ rfl rfl rfl (j7 (bz (pv 0) rfl)) (fun _ _ _ _=>(bZ (i:=0) (show (["piece"]:List Str).Nodup by decide+kernel) rfl (Or.inl rfl) (Or.inr rfl))) (fun _ _ _ _=>mC) (fun _ _ _ _=>(bJ (pv 0) T.dw gu.m gu.ok (hr.mono (by omega)) gu.b .nil aP))) ah)) (aM dP.ok (hr.mono (by omega)) rfl dP.g dP.kp dP.b .nil aP (aa (bz (pv 0) rfl) ah)))))),?_⟩
  refine⟨_,rfl,f,Fo,dx,_,_,rfl,hf,T.bN,T.jU,kL _ _,_, .inl ⟨_,cL.of hl,rfl⟩,?_⟩
  cases xs with
  |nil=>
   have hp:ps=[]:=List.length_eq_zero_iff.mp lp
   subst hp
   refine dJ ?_
   have e0:(⟨(wL d [] n).toArray⟩:Str)="e^-" :=by rw[eE];rfl
   rw[e0] at q
   exact q _ (aF.refl _)
  |cons x0 r0=>
   obtain⟨ZE,Sx,n1,n2⟩:=bq
   have Xt:(!(ps.map V.ref).isEmpty)=true:=by
    cases ps with
    |nil=>simp at lp
    |cons _ _=>rfl
   rw[Xt]
   refine cQ ?_
   have zc:=IL n1 n2
   have ez:wL d (x0::r0) n=(jF d x0++cA d r0)++iA n:=by
    show x0.2.flatMap (ck d)++(cA d r0++iA n)=_
    unfold jF
    rw[ZE,show bc 1=[] from rfl,List.nil_append,List.append_assoc]
   rw[ez,List.length_append,List.length_append] at hz
   have XD:=x3 d r0
   have each:∀y∈x0::r0,(jF d y).length≤1000:=fun y hy=>by
    rcases List.mem_cons.mp hy with rfl|hy
    ·omega
    ·obtain⟨a,b,rfl⟩:=List.append_of_mem hy
     have:(cA d (a++y::b)).length=(cA d a).length+(46::jF d y++cA d b).length:=by
      unfold cA
      rw[List.flatMap_append,List.length_append,List.flatMap_cons]
     rw[this,List.length_append,List.length_cons] at hz
     omega
   refine⟨rfl,_,rfl,f,Fo,dx,_,_,rfl,hf,T.bN,T.jU,kL _ _,l,rfl,⟨_,cL.of hl⟩,fun D hD=>lB (K:=K) (a:=l) (D:=D) (xs:=ps.map V.ref) (fun i σ H'=>∃v:Option V,σ=[v]∧aF H H'∧H' D=some (.lst (((x0::r0).take i).map fun x=>V.str ⟨(jF d x).toArray⟩)))
    ?_ (fun i σ H' _ ⟨_,_,e,_⟩=>cL.of (e _ _ hl)) ?_ ?_⟩
   ·exact⟨none,rfl,aF.new hD,ag⟩
   ·rintro i v σ H' hi ⟨v',rfl,e,oW⟩ N hN
    rw[List.getElem?_map] at hi
    obtain⟨p,hp,rfl⟩:∃p,ps[i]? =some p∧v=V.ref p:=by
     cases hh:ps[i]? with
     |none=>rw[hh] at hi;cases hi
     |some p=>rw[hh] at hi;exact⟨p,rfl,(Option.some.inj hi).symm⟩
    obtain⟨y,hy,hY⟩:=ij hP hp
    have hY:=hY.same e
    obtain⟨cX,l',Qs,h1,h2⟩:=id hY
    have my:=List.mem_of_getElem? hy
    refine⟨_,rfl,p,cX,_,rfl,h1,tS _ _ (by decide+kernel) (by decide+kernel),p,y,rfl,hY,Sx y my,each y my,fun cu e'=>⟨_,e' _ _ oW,?_,hN _ _ ⟨_,rfl,fun b o z=>?_,?_⟩⟩⟩
    ·rw[List.length_map]
     have:((x0::r0).take i).length≤(x0::r0).length:=List.length_take_le' _ _
     rw[List.length_cons] at this
     omega
    ·rw[ao (ai z hD)]
     exact e' _ _ (e _ _ z)
    ·rw[ag,List.take_add_one,hy,List.map_append]
     rfl
   ·rintro σ H' ⟨v,rfl,e,oW⟩
    rw[List.length_map,lp,List.take_length] at oW
    have ej:Txt.join "." ((x0::r0).map fun y=>(⟨(jF d y).toArray⟩:Str))=⟨(jF d x0++cA d r0).toArray⟩:=by
     have:=PyProof.Rows.join_closes (sep:=".") (sep':=".") (ys:=(x0::r0).map fun y=>(⟨(jF d y).toArray⟩:Str)) rfl
     rw[←qd]
     simpa using this
    have es:(((x0::r0).map fun y=>(⟨(jF d y).toArray⟩:Str)).map (·.length)).sum≤(jF d x0).length+(cA d r0).length:=by
     rw[List.map_map,List.map_cons,List.sum_cons]
     have:∀r:List eU,(r.map ((·.length)∘fun y=>(⟨(jF d y).toArray⟩:Str))).sum≤(cA d r).length:=fun r=>by
      induction r with
      |nil=>exact Nat.le_refl _
      |cons y r ih=>
       show (⟨(jF d y).toArray⟩:Str).length+(r.map ((·.length)∘fun y=>(⟨(jF d y).toArray⟩:Str))).sum≤(46::jF d y++cA d r).length
       rw[az,List.length_append,List.length_cons]
       omega
     have h2:=this r0
     show (⟨(jF d x0).toArray⟩:Str).length+_≤_
     rw[az]
     omega
    refine⟨_,D,(x0::r0).map (fun y=>⟨(jF d y).toArray⟩),rfl,rfl,cL.of (by rw[oW,List.map_map];rfl),?_,?_⟩
    ·have e0:("." :Str).length=1:=by decide+kernel
     rw[e0,List.length_map,List.length_cons]
     omega
    ·rw[ej]
     refine⟨_,rfl,f,Fo,dx,_,_,rfl,e _ _ hf,T.bN,T.og,rC _ _,n,rfl,n1,n2,_,_,rfl,rfl,?_,?_⟩
     ·rw[az,az,List.length_append]
      omega
     ·rw[aZ,←ez]
      exact q _ e
theorem rK:ay ["count"] ["count"] (ak fZ):=dN
theorem oB(D:Def K mg "count_shown" "count_shown" fZ ["count"])(T:kF K mg C):bD P w K mg base 1 "count_shown" ["count"] hV:=by
 refine D.fW rK (fun vs H Q E h=>?_) (fun f bo A outer s H vs Q E hr h=>?_)
 ·obtain⟨n,rfl,_⟩:=h
  rfl
 ·obtain⟨n,rfl,h1,h2,k⟩:=h
  refine⟨_,(aj
     (bB (aJ cw (pv 0) aq (aU _))
      (au
       (aB aN))
      aY)
    (au
     (aB (bX eW rfl T.xX qI (aa (pv 0) ah))))),?_⟩
  refine⟨_,rfl,rfl,_,rfl,gZ (fun e=>?_) fun e=>?_⟩
  ·have e:n=1:=by simpa using e
   subst e
   exact k
  ·have e:¬n=1:=by simpa using e
   refine⟨_,rfl,_,rfl,pL (by omega) (by omega),?_⟩
   unfold du at k
   rw[if_neg e] at k
   exact k
theorem Aa:ay ["_law_count_here"] ["_law_count_here"] (ak kB):=dN
theorem wm(D:Def K mg "_law_figures" "_law_figures" kB ["_law_count_here"])(T:kF K mg C):bD P w K mg base 1 "_law_figures" ["_law_count_here"] hV:=by
 refine D.fW Aa (fun vs H Q E h=>?_) (fun f bo A outer s H vs Q E hr h=>?_)
 ·obtain⟨n,rfl,_⟩:=h
  rfl
 ·obtain⟨n,rfl,h1,h2,k⟩:=h
  refine⟨_,(aj
     (bB (aJ cw (pv 0) aq (aU _))
      (au
       (aB aN))
      aY)
    (au
     (aB (bX eW rfl T.xX qI (aa (pv 0) ah))))),?_⟩
  refine⟨_,rfl,rfl,_,rfl,gZ (fun e=>?_) fun e=>?_⟩
  ·have e:n=1:=by simpa using e
   subst e
   exact k
  ·have e:¬n=1:=by simpa using e
   refine⟨_,rfl,_,rfl,pL (by omega) (by omega),?_⟩
   unfold du at k
   rw[if_neg e] at k
   exact k
theorem IM:ay ["self","kind","count"] ["self","kind","count"] (ak gQ):=dN
theorem E2(D:jO K C "Atom.__init__" gQ ["self","kind","count"] [1])(T:kF K mg C):fD P w K mg base 1 C ["self","kind","count"] [1] (BF C):=by
 refine D.fW IM (fun vs H Q E h=>?_) (fun f bo A outer s H vs Q E hr h=>?_)
 ·obtain⟨p,dx,k,n,rfl,_⟩:=h
  rfl
 ·obtain⟨p,dx,k,n,rfl,hp,q⟩:=h
  refine⟨_,(aj
     (eQ (pv 0) (pv 1) rfl)
    (au
     (eQ (pv 0) (pv 2) rfl))),?_⟩
  refine⟨_,rfl,_,rfl,p,C,dx,[],rfl,hp,T.hZ,T.xW,(by show 0<1000;decide),_,rfl,_,rfl,p,C,dx,_,rfl,ag,T.hZ,T.tT,(by show 1<1000;decide),?_⟩
  refine q _ ag fun b o e hb=>?_
  rw[ao hb,ao hb]
  exact e
theorem E3:ay ["self"] ["self"] (ak qW):=dN
theorem B4(D:bR K C "shown" "Atom.shown" qW ["self"])(T:kF K mg C)(c1:bD P w K mg base 1 "count_shown" ["count"] hV):cZ P w K mg base 2 C "shown" ["self"] (rm C):=by
 obtain⟨_,_,aW⟩:=c1
 refine D.fW E3 (fun vs H Q E h=>?_) (fun f bo A outer s H vs Q E hr h=>?_)
 ·obtain⟨p,k,n,rfl,_⟩:=h
  rfl
 ·obtain⟨p,k,n,rfl,⟨dx,hp⟩,hk,h1,h2,q⟩:=h
  refine⟨_,(au
     (aB (ax aG (bz (pv 0) rfl) (aM aW.ok (hr.mono (by decide)) rfl aW.g aW.kp aW.b .nil aP (aa (bz (pv 0) rfl) ah))))),?_⟩
  refine⟨_,rfl,p,C,dx,_,_,rfl,hp,T.hZ,T.xW,zM _ _,_,rfl,p,C,dx,_,_,rfl,hp,T.hZ,T.tT,vW _ _,n,rfl,h1,h2,_,_,rfl,rfl,?_,q⟩
  have:=dO h1 h2
  have:(100 :Nat)≤sizeLine:=by decide
  omega
theorem B5:ay ["_law_script","_law_k"] ["_law_script","_law_k"] (ak mO):=dN
theorem wo(D:Def K mg "_law_cell_at" "_law_cell_at" mO ["_law_script","_law_k"])(T:kF K mg C):bD P w K mg base 1 "_law_cell_at" ["_law_script","_law_k"] (nZ K):=by
 refine D.fW B5 (fun vs H Q E h=>?_) (fun f bo A outer s H vs Q E hr h=>?_)
 ·obtain⟨a,ns,k,rfl,_⟩:=h
  rfl
 ·obtain⟨a,ns,k,rfl,hS,hl,q⟩:=h
  refine⟨_,(aj
     (bB (aJ xt (pv 1) (bb eX rfl T.f7 dX (aa (pv 0) ah)) (aU _))
      (au
       (aB (cY cV (pv 0) (pv 1) (fun _ _=>rfl))))
      aY)
    (au
     (aB aq))),?_⟩
  refine⟨_,rfl,_,rfl,a,_,rfl, .inl hS,_,_,rfl,rfl,_,rfl,gZ (fun e=>?_) fun e=>?_⟩
  ·have e:k<ns.length:=by simpa using e
   exact⟨_,rfl,_,rfl,a,_,_,V.int ns[k],rfl,rfl,hS,mz (by rw[List.getElem?_map,List.getElem?_eq_getElem e];rfl),q _⟩
  ·exact q 0
theorem kQ:ay ["_law_cell","_law_prime","_law_digits","_law_step","_law_number"] ["_law_cell","_law_prime"] (ak q9):=dN
theorem wq{j:Nat}{p:Int}(h:jS[j]? =some p):0<p:=by
 have all:∀q∈jS,(0 :Int) <q:=by decide
 exact all p (List.mem_of_getElem? h)
theorem Ab:∀j:Nat,j<7→∀p,jS[j]? =some p→(jS.map V.int).findIdx? (fun z=>AB z (.int p))=some j:=by
 intro j hj p hp
 match j,hj with
 |0,_=>cases hp;rfl
 |1,_=>cases hp;rfl
 |2,_=>cases hp;rfl
 |3,_=>cases hp;rfl
 |4,_=>cases hp;rfl
 |5,_=>cases hp;rfl
 |6,_=>cases hp;rfl
theorem B6(D:Def K mg "_law_mixed" "_law_mixed" q9 ["_law_cell","_law_prime"])(T:kF K mg C):bD P w K mg base 1 "_law_mixed" ["_law_cell","_law_prime"] xU:=by
 refine D.fW kQ (fun vs H Q E h=>?_) (fun f bo A outer s H vs Q E hr h=>?_)
 ·obtain⟨c,p,j,rfl,_⟩:=h
  rfl
 ·obtain⟨c,p,j,rfl,hj,hp,q⟩:=h
  have pp:=wq hp
  refine⟨_,(aj
     (bB (PW.pt (lb (aJ cw (ax bA (pv 0) aq) aq (aU _)) (i8 (aJ fT (pv 0) (ax vB aq aq) (aU _)))))
      (aj
       (aO (i:=2) kQ.nd rfl (Or.inl rfl) (ax bW (pv 0) aq))
      (aj
       (jK PassesOwn.never rfl (i9 rfl T.kG (aa (eG PySem.F.plainAttrs_list PySem.F.slot_list_index PySem.F.type_list_index Bk (cf (mE (.int (.int (.int (.int (.int (.int (.int .nil))))))))) (aa (pv 1) ah)) ah)) (bZ (i:=3) kQ.nd rfl (Or.inl rfl))
        (au
         (aO (i:=2) kQ.nd rfl (Or.inl rfl) (ax bW (pv 2) aq))))
      (au
       (aB (ax bA (ax bA (pv 2) aq) (pv 1))))))
      aY)
    (aj
     (aO (i:=4) kQ.nd rfl (Or.inl rfl) (ax bH (ax bA (pv 0) aq) aq))
    (au
     (aB (ax bA (ax bH (ax iI (ax iI (pv 4) (pv 4)) aq) (pv 4)) (pv 1)))))),?_⟩
  have low:∀H':Hp,aF H H'→AS (DV (DB (DW fun i j=> .int (i+j)) (DB (rI (fun _ j=>0<j) fun i j=> .int (i%j)) (vw 0) (tC (.int 2147483647))) (tC (.int 7))) (iH 4))
    (KR (DB (rI (fun _ j=>0<j) fun i j=> .int (i%j)) (DB (DW fun i j=> .int (i+j)) (DB (rI AY fun i j=> .int (i*j)) (DB (rI AY fun i j=> .int (i*j)) (vw 4) (vw 4)) (tC (.int 48271))) (vw 4)) (vw 1)))
    { nx:=fun _ H'=>Q .cn H',rt:=Q } [some (.int c),some (.int p),none,none,none] H':=fun H' e=>by
   have b0:0≤c%2147483647:=Int.emod_nonneg _ (by decide)
   have b1:c%2147483647<2147483647:=Int.emod_lt_of_pos _ (by decide)
   exact⟨_,rfl,_,_,rfl,rfl,(by show (0 :Int) <2147483647;decide),_,_,rfl,rfl,_,rfl,_,rfl,_,_,rfl,rfl, .inl ⟨by omega,by omega⟩,_,_,rfl,rfl, .inr ⟨by decide,by decide⟩,_,rfl,_,_,rfl,rfl,_,rfl,_,_,rfl,rfl,pp,q _ _ e⟩
  refine⟨_,rfl,_,_,rfl,rfl,(by show (0 :Int) <2;decide),rfl,_,rfl,gZ (fun _=>?_) fun _=>low H (aF.refl H)⟩
  refine⟨_,rfl,_,_,rfl,rfl,⟨by decide,by decide,by decide⟩,_,_,rfl,rfl,_,rfl,gZ (fun _=>?_) fun _=>low H (aF.refl H)⟩
  refine⟨_,rfl,_,_,rfl,rfl,⟨by decide,by decide⟩,(by show 7≤sizeLine;decide),fun l hl=>⟨.inl ⟨rfl,_,cL.of ag⟩,_,rfl,l,jS.map V.int,_,j,rfl,rfl,cL.of ag,rfl,rfl,Ab j hj p hp,?_⟩⟩
  refine⟨_,rfl,by omega,by omega,gA (fun i σ H'=>∃(z:Int) (v:Option V),σ=[some (.int c),some (.int p),some (.int z),v,none]∧aF H H') ⟨_,none,rfl,aF.new hl⟩ ?_ ?_⟩
  ·rintro i σ H' hi ⟨z,v,rfl,e⟩
   exact⟨_,rfl,_,_,rfl,rfl,⟨by decide,by decide⟩,_,_,rfl,e⟩
  ·rintro σ H' ⟨z,v,rfl,e⟩
   exact⟨_,rfl,_,_,rfl,rfl,(by show (0 :Int) <1000003;decide),_,rfl,_,_,rfl,rfl,pp,q _ _ e⟩
theorem E4:ay ["_law_found"] ["_law_found"] (ak rh):=dN
theorem B7(D:Def K mg "_law_whole" "_law_whole" rh ["_law_found"])(T:kF K mg C):bD P w K mg base 1 "_law_whole" ["_law_found"] xV:=by
 refine D.fW E4 (fun vs H Q E h=>?_) (fun f bo A outer s H vs Q E hr h=>?_)
 ·obtain⟨i,rfl,_⟩:=h
  rfl
 ·obtain⟨i,rfl,q⟩:=h
  refine⟨_,(au
     (aB (Hm (bb lS rfl T.bp bj (aa (pv 0) (aa (qw (v:= .ty "int") rfl T.pQ nN rfl) ah))) (AQ (Hn (bb lS rfl T.bp bj (aa (pv 0) (aa (qw (v:= .ty "bool") rfl T.Ip El rfl) ah)))))))),?_⟩
  exact⟨_,rfl,_,_,_,_,_,rfl,rfl, .int i,T.k1,_,rfl,dJ ⟨_,rfl,_,_,_,_,_,rfl,rfl, .int i,T.k2,_,rfl,q⟩⟩
abbrev great:Str:="ABCDEFGHIJKLMNOPQRSTUVWXYZ"
abbrev small:Str:="abcdefghijklmnopqrstuvwxyz"
theorem Ac:great.cps.toList.length=26:=by decide+kernel
theorem Ad:small.cps.toList.length=26:=by decide+kernel
def L3:List Str:=["C","Co","O","Cob","H","N","No","B","Ob","Nob"]
theorem jX:ay ["_law_number","_law_great","_law_small","_law_kind_here","_law_k"] ["_law_number"] (ak xQ):=dN
def x9:Sp:=fun vs H Q _=>∃n:Int,vs=[.int n]∧∀(k:List Nat) H',rn k→aF H H'→Q (.str ⟨k.toArray⟩) H'
def IP:List Nat→Bool
 |c::r=>gS c&&r.all gk&&decide (r.length≤2)
 | []=>false
theorem IQ:∀{l:List Nat},IP l=true→rn l
 | [],h=>by cases h
 |c::r,h=>by
  simp only [IP,Bool.and_eq_true,decide_eq_true_eq] at h
  exact⟨c,r,rfl,h.1.1,h.1.2,h.2⟩
theorem IS:L3.all (fun x=>IP x.cps.toList)=true:=by decide+kernel
theorem Ae:great.cps.toList.all gS=true:=by decide+kernel
theorem Af:small.cps.toList.all gk=true:=by decide+kernel
theorem B8(D:Def K mg "_law_kind" "_law_kind" xQ ["_law_number"])(T:kF K mg C):bD P w K mg base 1 "_law_kind" ["_law_number"] x9:=by
 refine D.fW jX (fun vs H Q E h=>?_) (fun f bo A outer s H vs Q E hr h=>?_)
 ·obtain⟨n,rfl,_⟩:=h
  rfl
 ·obtain⟨n,rfl,q⟩:=h
  refine⟨_,(aj
     (aO (i:=1) jX.nd rfl (Or.inl rfl) aN)
    (aj
     (aO (i:=2) jX.nd rfl (Or.inl rfl) aN)
    (aj
     (bB (aJ cw (ax bA (pv 0) aq) aq (aU _))
      (au
       (aB (cY cV (cf (mE (.str (.str (.str (.str (.str (.str (.str (.str (.str (.str .nil)))))))))))) (ax bA (ax bW (pv 0) aq) aq) (fun _ _=>rfl))))
      aY)
    (aj
     (aO (i:=0) jX.nd rfl (Or.inl rfl) (ax bW (pv 0) aq))
    (aj
     (aO (i:=3) jX.nd rfl (Or.inl rfl) (cY lr (pv 1) (ax bA (pv 0) aq) (fun _ _=>rfl)))
    (aj
     (jK PassesOwn.never rfl (i9 rfl T.kG (aa (ax bA (ax bW (pv 0) aq) aq) ah)) (bZ (i:=4) jX.nd rfl (Or.inl rfl))
      (au
       (aO (i:=3) jX.nd rfl (Or.inl rfl) (ax aG (pv 3) (cY lr (pv 2) (ax bA (ax bW (pv 0) (ax bH aq (ax iI aq (pv 4)))) aq) (fun _ _=>rfl))))))
    (au
     (aB (pv 3))))))))),?_⟩
  refine⟨_,rfl,_,_,rfl,rfl,(by show (0 :Int) <2;decide),rfl,_,rfl,gZ (fun _=>?_) fun _=>?_⟩
  ·have b0:0≤n/2%10:=Int.emod_nonneg _ (by decide)
   have b1:n/2%10<10:=Int.emod_lt_of_pos _ (by decide)
   obtain⟨v,hv,qe⟩:=iL (xs:=L3.map V.str) b0 b1
   obtain⟨k,hk,rfl⟩:=List.mem_map.mp hv
   have ek:(⟨k.cps.toList.toArray⟩:Str)=k:=ei (by simp)
   have ZF:=IQ (List.all_eq_true.mp IS k hk)
   have q':∀l (hl:H l=none),Q (.str k) (upd H l (.lst (L3.map V.str))):=fun l hl=>by
    have:=q k.cps.toList _ ZF (aF.new (o:= .lst (L3.map V.str)) hl)
    rwa [ek] at this
   exact⟨(by show 10≤sizeLine;decide),fun l hl=>⟨_,rfl,_,_,rfl,rfl,⟨by decide,by decide⟩,_,_,rfl,rfl,(by show (0 :Int) <10;decide),l,L3.map V.str,_,_,rfl,rfl,cL.of ag,qe,q' l hl⟩⟩
  ·have b0:0≤n/2%26:=Int.emod_nonneg _ (by decide)
   have b1:n/2%26<26:=Int.emod_lt_of_pos _ (by decide)
   have b2:0≤n/2/26%3:=Int.emod_nonneg _ (by decide)
   have b3:n/2/26%3<3:=Int.emod_lt_of_pos _ (by decide)
   obtain⟨c,hc,qe⟩:=iL (xs:=great.cps.toList) b0 (by rw[Ac];exact b1)
   have gc:=List.all_eq_true.mp Ae c hc
   refine⟨_,rfl,_,_,rfl,rfl,⟨by decide,by decide⟩,_,rfl,_,rfl,_,_,rfl,rfl,(by show (0 :Int) <26;decide),great,_,c,rfl,rfl,(by decide+kernel),qe,?_⟩
   refine⟨_,rfl,_,_,rfl,rfl,⟨by decide,by decide⟩,_,_,rfl,rfl,(by show (0 :Int) <3;decide),_,rfl,by omega,by omega,
    gA (fun i σ H'=>∃(r:List Nat) (v:Option V),σ=[some (.int (n/2)),some (.str great),some (.str small),some (.str ⟨(c::r).toArray⟩),v]∧r.all gk=true∧r.length≤i∧H'=H) ⟨[],none,rfl,rfl,Nat.le_refl _,rfl⟩ ?_ ?_⟩
   ·rintro i σ H' hi ⟨r,v,rfl,ha,hk,rfl⟩
    have c0:0≤n/2/(78+1950*(0+(i:Int))) %26:=Int.emod_nonneg _ (by decide)
    have c1:n/2/(78+1950*(0+(i:Int))) %26<26:=Int.emod_lt_of_pos _ (by decide)
    obtain⟨c2,ZG,Sy⟩:=iL (xs:=small.cps.toList) c0 (by rw[Ad];exact c1)
    have ZH:=List.all_eq_true.mp Af c2 ZG
    have l2:(⟨#[c2]⟩:Str).length=1:=rfl
    have big:(100 :Nat)≤sizeLine:=by decide
    have e2:(⟨(c::r).toArray⟩:Str)++⟨#[c2]⟩=⟨(c::(r++[c2])).toArray⟩:=aZ (c::r) [c2]
    refine⟨_,rfl,_,rfl,_,rfl,_,rfl,_,_,rfl,rfl, .inl ⟨by decide,by decide⟩,_,_,rfl,rfl,_,_,rfl,rfl,⟨by omega,by omega⟩,_,_,rfl,rfl,(by show (0 :Int) <26;decide),small,_,c2,rfl,rfl,(by decide+kernel),Sy,_,_,rfl,rfl,?_,r++[c2],some (.int (0+(i:Int))),?_,?_,?_,rfl⟩
    ·rw[az,l2,List.length_cons]
     omega
    ·rw[←e2]
     rfl
    ·rw[List.all_append,ha]
     simpa using ZH
    ·rw[List.length_append]
     show r.length+1≤i+1
     omega
   ·rintro σ H' ⟨r,v,rfl,ha,hk,rfl⟩
    exact⟨_,rfl,q (c::r) _ ⟨c,r,rfl,gc,ha,by omega⟩ (aF.refl _)⟩
def x':Sp:=fun vs H Q _=>∃n:Int,vs=[.int n]∧∀c H',1≤c→c≤999→aF H H'→Q (.int c) H'
theorem E6:ay ["_law_number"] ["_law_number"] (ak ri):=dN
theorem B9(D:Def K mg "_law_count" "_law_count" ri ["_law_number"]):bD P w K mg base 1 "_law_count" ["_law_number"] x':=by
 refine D.fW E6 (fun vs H Q E h=>?_) (fun f bo A outer s H vs Q E hr h=>?_)
 ·obtain⟨n,rfl,_⟩:=h
  rfl
 ·obtain⟨n,rfl,q⟩:=h
  refine⟨_,(au
     (aB (cY cV (cf (aa aq (aa aq (aa (ax bH aq (ax bA (ax bW (pv 0) aq) aq)) (aa (ax bH aq (ax bA (ax bW (pv 0) aq) aq)) ah))))) (ax bA (pv 0) aq) (fun _ _=>rfl)))),?_⟩
  have b0:0≤n%4:=Int.emod_nonneg _ (by decide)
  have b1:n%4<4:=Int.emod_lt_of_pos _ (by decide)
  have d0:0≤n/4%11:=Int.emod_nonneg _ (by decide)
  have d1:n/4%11<11:=Int.emod_lt_of_pos _ (by decide)
  have e0:0≤n/4%999:=Int.emod_nonneg _ (by decide)
  have e1:n/4%999<999:=Int.emod_lt_of_pos _ (by decide)
  obtain⟨v,hv,qe⟩:=iL (xs:=[V.int 1,V.int 1,V.int (2+n/4%11),V.int (1+n/4%999)]) b0 b1
  have hc:∃c,v=V.int c∧1≤c∧c≤999:=by
   simp only [List.mem_cons,List.not_mem_nil,or_false] at hv
   rcases hv with rfl|rfl|rfl|rfl
   ·exact⟨1,rfl,by decide,by decide⟩
   ·exact⟨1,rfl,by decide,by decide⟩
   ·exact⟨_,rfl,by omega,by omega⟩
   ·exact⟨_,rfl,by omega,by omega⟩
  obtain⟨c,rfl,c0,c1⟩:=hc
  exact⟨_,rfl,_,_,rfl,rfl,⟨by decide,by decide⟩,_,_,rfl,rfl,(by show (0 :Int) <11;decide),_,_,rfl,rfl,_,rfl,_,_,rfl,rfl,⟨by decide,by decide⟩,_,_,rfl,rfl,(by show (0 :Int) <999;decide),_,_,rfl,rfl,(by show 4≤sizeLine;decide),
   fun l hl=>⟨_,rfl,_,_,rfl,rfl,(by show (0 :Int) <4;decide),l,_,_,_,rfl,rfl,cL.of ag,qe,q c _ c0 c1 (aF.new hl)⟩⟩
variable {uC uP uI uD uL uT:Tok}
theorem E7:ay ["self","parts","count"] ["self","parts","count"] (ak dZ):=dN
theorem B'(D:jO K G "Group.__init__" dZ ["self","parts","count"] [1])(T:pb K mg C R G Pc Fo uK uN uB uE uM uC uP uI uD uL uT):fD P w K mg base 1 G ["self","parts","count"] [1] (kK G):=by
 refine D.fW E7 (fun vs H Q E h=>?_) (fun f bo A outer s H vs Q E hr h=>?_)
 ·obtain⟨p,dx,l,c,xs,rfl,_⟩:=h
  rfl
 ·obtain⟨p,dx,l,c,xs,rfl,hp,hl,q⟩:=h
  refine⟨_,(aj
     (eQ (pv 0) (bX dI rfl T.n_list kb (aa (pv 1) ah)) rfl)
    (au
     (eQ (pv 0) (pv 2) rfl))),?_⟩
  refine⟨_,rfl,l,xs,rfl, .inl (cL.of hl),fun n hn=>?_⟩
  have vn:p≠n:=ai hp hn
  refine⟨_,rfl,p,G,dx,[],rfl,(by rw[ao vn];exact hp),T.fb,T.pU,(by show 0<1000;decide),_,rfl,_,rfl,p,G,dx,_,rfl,ag,T.fb,T.pV,(by show 1<1000;decide),?_⟩
  refine q n _ hn ag (by rw[ao (Ne.symm vn),ao (Ne.symm vn),ag]) fun b o e hb=>?_
  rw[ao hb,ao hb,ao (ai e hn)]
  exact e
theorem E9:ay ["self","parts","count"] ["self","parts","count"] (ak d5):=dN
theorem Ca(D:jO K Pc "Piece.__init__" d5 ["self","parts","count"] [1])(T:pb K mg C R G Pc Fo uK uN uB uE uM uC uP uI uD uL uT):fD P w K mg base 1 Pc ["self","parts","count"] [1] (kK Pc):=by
 refine D.fW E9 (fun vs H Q E h=>?_) (fun f bo A outer s H vs Q E hr h=>?_)
 ·obtain⟨p,dx,l,c,xs,rfl,_⟩:=h
  rfl
 ·obtain⟨p,dx,l,c,xs,rfl,hp,hl,q⟩:=h
  refine⟨_,(aj
     (eQ (pv 0) (bX dI rfl T.n_list kb (aa (pv 1) ah)) rfl)
    (au
     (eQ (pv 0) (pv 2) rfl))),?_⟩
  refine⟨_,rfl,l,xs,rfl, .inl (cL.of hl),fun n hn=>?_⟩
  have vn:p≠n:=ai hp hn
  refine⟨_,rfl,p,Pc,dx,[],rfl,(by rw[ao vn];exact hp),T.dw,T.pX,(by show 0<1000;decide),_,rfl,_,rfl,p,Pc,dx,_,rfl,ag,T.dw,T.pY,(by show 1<1000;decide),?_⟩
  refine q n _ hn ag (by rw[ao (Ne.symm vn),ao (Ne.symm vn),ag]) fun b o e hb=>?_
  rw[ao hb,ao hb,ao (ai e hn)]
  exact e
theorem Fb:ay ["self","pieces","charge"] ["self","pieces","charge"] (ak d6):=dN
theorem Cb(D:jO K Fo "Formula.__init__" d6 ["self","pieces","charge"] [0])(T:pb K mg C R G Pc Fo uK uN uB uE uM uC uP uI uD uL uT):fD P w K mg base 1 Fo ["self","pieces","charge"] [0] (rD Fo):=by
 refine D.fW Fb (fun vs H Q E h=>?_) (fun f bo A outer s H vs Q E hr h=>?_)
 ·obtain⟨p,dx,l,c,xs,rfl,_⟩:=h
  rfl
 ·obtain⟨p,dx,l,c,xs,rfl,hp,hl,q⟩:=h
  refine⟨_,(aj
     (eQ (pv 0) (bX dI rfl T.n_list kb (aa (pv 1) ah)) rfl)
    (au
     (eQ (pv 0) (pv 2) rfl))),?_⟩
  refine⟨_,rfl,l,xs,rfl, .inl (cL.of hl),fun n hn=>?_⟩
  have vn:p≠n:=ai hp hn
  refine⟨_,rfl,p,Fo,dx,[],rfl,(by rw[ao vn];exact hp),T.bN,T.jU,(by show 0<1000;decide),_,rfl,_,rfl,p,Fo,dx,_,rfl,ag,T.bN,T.og,(by show 1<1000;decide),?_⟩
  refine q n _ hn ag (by rw[ao (Ne.symm vn),ao (Ne.symm vn),ag]) fun b o e hb=>?_
  rw[ao hb,ao hb,ao (ai e hn)]
  exact e
def wu:Sp:=fun vs H Q _=>∃(c t:Int),vs=[.int c, .int t]∧0≤t∧t≤20∧∀n H',aF H H'→Q (.int n) H'
theorem rL:ay ["_law_cell","_law_turn","_law_digits","_law_step"] ["_law_cell","_law_turn"] (ak xP):=dN
theorem Fc(D:Def K mg "_law_pick" "_law_pick" xP ["_law_cell","_law_turn"])(T:kF K mg C)(c1:bD P w K mg base 1 "_law_mixed" ["_law_cell","_law_prime"] xU):bD P w K mg base 2 "_law_pick" ["_law_cell","_law_turn"] wu:=by
 obtain⟨_,_,jr⟩:=c1
 refine D.fW rL (fun vs H Q E h=>?_) (fun f bo A outer s H vs Q E hr h=>?_)
 ·obtain⟨c,t,rfl,_⟩:=h
  rfl
 ·obtain⟨c,t,rfl,t0,t1,q⟩:=h
  refine⟨_,(aj
     (bB (PW.pt (lb (aJ cw (ax bA (pv 0) aq) aq (aU _)) (i8 (aJ fT (pv 0) (ax vB aq aq) (aU _)))))
      (aj
       (aO (i:=2) rL.nd rfl (Or.inl rfl) (ax bW (pv 0) aq))
      (aj
       (jK PassesOwn.never rfl (i9 rfl T.kG (aa (pv 1) ah)) (bZ (i:=3) rL.nd rfl (Or.inl rfl))
        (au
         (aO (i:=2) rL.nd rfl (Or.inl rfl) (ax bW (pv 2) aq))))
      (au
       (aB (ax bA (pv 2) aq)))))
      aY)
    (au
     (aB (aM jr.ok (hr.mono (by decide)) rfl jr.g jr.kp jr.b .nil aP (aa (ax bH (ax iI (pv 0) (ax bH (pv 1) aq)) (pv 1)) (aa (cY cV (cf (aa aq (aa aq ah))) (ax bA (pv 1) aq) (fun _ _=>rfl)) ah)))))),?_⟩
  refine eZ (fun σ' H'=>σ'=[some (.int c),some (.int t),none,none]∧H'=H) (fun N hN=>?_) ?_
  ·refine⟨_,rfl,_,_,rfl,rfl,(by show (0 :Int) <2;decide),rfl,_,rfl,gZ (fun _=>?_) fun _=>hN _ _ ⟨rfl,rfl⟩⟩
   refine⟨_,rfl,_,_,rfl,rfl,⟨by decide,by decide,by decide⟩,_,_,rfl,rfl,_,rfl,gZ (fun _=>?_) fun _=>hN _ _ ⟨rfl,rfl⟩⟩
   refine⟨_,rfl,_,_,rfl,rfl,⟨by decide,by decide⟩,_,rfl,_,rfl,by omega,by omega,gA (fun i σ H'=>∃(z:Int) (v:Option V),σ=[some (.int c),some (.int t),some (.int z),v]∧H'=H) ⟨_,none,rfl,rfl⟩ ?_ ?_⟩
   ·rintro i σ H' hi ⟨z,v,rfl,rfl⟩
    exact⟨_,rfl,_,_,rfl,rfl,⟨by decide,by decide⟩,_,_,rfl,rfl⟩
   ·rintro σ H' ⟨z,v,rfl,rfl⟩
    exact⟨_,rfl,_,_,rfl,rfl,(by show (0 :Int) <1000003;decide),q _ _ (aF.refl _)⟩
  ·rintro σ' H' ⟨rfl,rfl⟩
   have d0:0≤t%2:=Int.emod_nonneg _ (by decide)
   have d1:t%2<2:=Int.emod_lt_of_pos _ (by decide)
   obtain⟨v,hv,qe⟩:=iL (xs:=[V.int 1000003,V.int 1000033]) d0 d1
   have hc:∃p j,v=V.int p∧j<7∧jS[j]? =some p:=by
    simp only [List.mem_cons,List.not_mem_nil,or_false] at hv
    rcases hv with rfl|rfl
    ·exact⟨_,2,rfl,by decide,rfl⟩
    ·exact⟨_,3,rfl,by decide,rfl⟩
   obtain⟨p,j,rfl,hj,hp⟩:=hc
   exact⟨_,rfl,_,rfl,_,_,rfl,rfl,_,_,rfl,rfl, .inr ⟨by omega,by omega⟩,_,rfl,_,_,rfl,rfl,(by show 2≤sizeLine;decide),fun l hl=>⟨_,rfl,_,_,rfl,rfl,(by show (0 :Int) <2;decide),l,_,_,V.int p,rfl,rfl,cL.of ag,qe,_,p,j,rfl,hj,hp,fun n H1 e=>q n _ ((aF.new hl).trans e)⟩⟩
structure wx(K:PySem.W.Frag)(mg:Str→Option Value)(C:Addr):Prop extends kF K mg C where
 IT:mg "dict" =none
 BP:mg "abs" =none
def gT:Nat→Int→Tr→List (Str×Int)
 |_,m, .one k n=>[(⟨k.toArray⟩,n*m)]
 |0,_, .gr _ _=>[]
 |d+1,m, .gr ts n=>ts.flatMap (gT d (n*m))
def lZ(d:Nat)(x:eU):List (Str×Int):=x.2.flatMap (gT d x.1)
def cW(d:Nat)(xs:List eU):List (Key×V):=eK 1 [] (xs.flatMap (lZ d))
def Cc(ts:List Tr):Prop:=ts≠[]∧(∀t∈ts,o9 1 t)∧(ts.flatMap (ck 1)).length≤23∧(ts.flatMap (gT 1 1)).length≤5
theorem uk:∀(l acc:List (Key×V)),((acc++l).map (·.1)).Nodup→gg acc l=acc++l
 | [],acc,_=>by rw[List.append_nil];rfl
 |p::r,acc,h=>by
  have hn:de acc p.1=none:=by
   cases e:de acc p.1 with
   |none=>rfl
   |some x=>
    rw[List.map_append,List.nodup_append] at h
    exact absurd rfl (h.2.2 _ (D' e) p.1 (by simp))
  show gg (putK acc p.1 p.2) r=_
  rw[sS _ hn,uk r (acc++[(p.1,p.2)]) (by rw[List.append_assoc];exact h),List.append_assoc]
  rfl
theorem rM(c:Int):∀(as:List (Str×Int)) (acc:List (Key×V)),eK 1 acc (as.map fun p=>(p.1,p.2*c))=eK c acc as
 | [],_=>rfl
 |p::r,acc=>by
  show eK 1 (iz acc (Sum.inr p.1) (p.2*c*1)) (r.map fun p=>(p.1,p.2*c))=eK c (iz acc (Sum.inr p.1) (p.2*c)) r
  rw[Int.mul_one,rM c r]
theorem Ag{D:List (Key×V)}(hI:gj D)(hn:(D.map (·.1)).Nodup)(c:Int):(D.map fun p=>(p.1,V.int (c*sE D p.1)))=scale c D:=by
 unfold scale
 apply List.map_congr_left
 intro p hp
 have e:=hI.look (tj hn hp)
 show (p.1,V.int (c*sE D p.1))=(p.1,zN c p.2)
 rw[e]
 show _=(p.1,V.int (sE D p.1*c))
 rw[Int.mul_comm]
abbrev wz:=List (List Nat×Int)
def aT(a:List Nat×Int):Tr:= .one a.1 a.2
def pk(as:wz):List (Str×Int):=as.map fun a=>((⟨a.1.toArray⟩:Str),a.2)
def Cd(as:wz):Prop:=∀a∈as,rn a.1∧1≤a.2∧a.2≤999
theorem jY(d:Nat)(m:Int)(as:wz):(as.map aT).flatMap (gT d m)=(pk as).map fun p=>(p.1,p.2*m):=by
 unfold pk
 induction as with
 |nil=>rfl
 |cons a r ih=>
  rw[List.map_cons,List.flatMap_cons,ih,List.map_cons,List.map_cons]
  have e:gT d m (aT a)=[((⟨a.1.toArray⟩:Str),a.2*m)]:=by cases d<;>rfl
  rw[e]
  rfl
theorem lK(d:Nat)(as:wz):(as.map aT).flatMap (ck d)=as.flatMap fun a=>a.1++bc a.2:=by
 induction as with
 |nil=>rfl
 |cons a r ih=>
  rw[List.map_cons,List.flatMap_cons,ih,List.flatMap_cons]
  have e:ck d (aT a)=a.1++bc a.2:=by cases d<;>rfl
  rw[e]
theorem um{n:Int}(h:1≤n)(h':n≤999):(bc n).length≤3:=by
 have:=dO h h'
 rw[bL,az] at this
 exact this
theorem uo{n:Int}(h:1≤n)(h':n≤99):(bc n).length≤2:=by
 obtain⟨m,rfl⟩:=Int.eq_ofNat_of_zero_le (show 0≤n by omega)
 have:=jh (n:=m) (k:=2) (by decide) (by omega)
 rw[bL,az] at this
 exact this
theorem Ce{k:List Nat}(h:rn k):k.length≤3:=by
 obtain⟨c,r,rfl,_,_,h3⟩:=h
 rw[List.length_cons]
 omega
theorem js{as:wz}(h:Cd as):(as.flatMap fun a=>a.1++bc a.2).length≤6*as.length:=by
 induction as with
 |nil=>exact Nat.zero_le _
 |cons a r ih=>
  have h1:=h a (List.mem_cons_self ..)
  have h2:=ih fun b hb=>h b (List.mem_cons_of_mem _ hb)
  have h3:=Ce h1.1
  have h4:=um h1.2.1 h1.2.2
  rw[List.flatMap_cons,List.length_append,List.length_append,List.length_cons]
  omega
theorem uq{as:wz}(h:Cd as)(d:Nat):∀t∈as.map aT,o9 d t:=by
 intro t ht
 obtain⟨a,ha,rfl⟩:=List.mem_map.mp ht
 have:=h a ha
 cases d<;>exact this
theorem Cf{as:wz}(h:Cd as)(h1:1≤as.length)(h3:as.length≤3):Cc (as.map aT):=by
 refine⟨?_,uq h 1,?_,?_⟩
 ·intro z
  have:=congrArg List.length z
  rw[List.length_map,List.length_nil] at this
  omega
 ·rw[lK]
  have:=js h
  omega
 ·rw[jY,List.length_map]
  unfold pk
  rw[List.length_map]
  omega
theorem L4(as:wz):cW 1 [(1,as.map aT)]=eK 1 [] (pk as):=by
 show eK 1 [] ((as.map aT).flatMap (gT 1 1)++[])=_
 rw[List.append_nil,jY,rM]
theorem GC(as:wz)(c:Int):([Tr.gr (as.map aT) c].flatMap (ck 1))=40::((as.flatMap fun a=>a.1++bc a.2)++41::bc c):=by
 rw[List.flatMap_cons,List.flatMap_nil,List.append_nil]
 show 40::((as.map aT).flatMap (ck 0)++41::bc c)=_
 rw[lK]
theorem GD(as:wz)(c:Int):([Tr.gr (as.map aT) c].flatMap (gT 1 1))=(pk as).map fun p=>(p.1,p.2*(c*1)):=by
 rw[List.flatMap_cons,List.flatMap_nil,List.append_nil]
 show (as.map aT).flatMap (gT 0 (c*1))=_
 rw[jY]
theorem IU{as:wz}(h:Cd as)(h1:1≤as.length)(h3:as.length≤3){c:Int}(c1:1≤c)(c2:c≤999):Cc [.gr (as.map aT) c]:=by
 refine⟨by simp,fun t ht=>?_,?_,?_⟩
 ·have e:t= .gr (as.map aT) c:=by simpa using ht
  subst e
  exact⟨(Cf h h1 h3).1,uq h 0,c1,c2⟩
 ·rw[GC]
  have:=js h
  have:=um c1 c2
  simp only [List.length_cons,List.length_append]
  omega
 ·rw[GD,List.length_map]
  unfold pk
  rw[List.length_map]
  omega
theorem L5(as:wz)(c:Int):cW 1 [(1,[.gr (as.map aT) c])]=scale c (eK 1 [] (pk as)):=by
 show eK 1 [] ([Tr.gr (as.map aT) c].flatMap (gT 1 1)++[])=_
 rw[List.append_nil,GD,rM,pO 1 c _ [] (fun p hp=>by cases hp),Int.mul_one,Int.one_mul]
 rfl
theorem gj.Fd{kvs:List (Key×V)}(h:gj kvs){k:Key}{v:V}(hm:(k,v)∈kvs):de kvs k=some (.int (sE kvs k)):=by
 cases f:de kvs k with
 |none=>exact absurd (List.mem_map_of_mem (f:=(·.1)) hm) (ti f)
 |some x=>rw[h.look f]
theorem none_back{H H':Hp}{D:Addr}(e:aF H H')(h:H' D=none):H D=none:=by
 cases hh:H D with
 |none=>rfl
 |some o=>rw[e _ _ hh] at h;cases h
theorem take_snoc{α:Type}{l:List α}{i:Nat}{a:α}(h:l[i]? =some a):l.take (i+1)=l.take i++[a]:=by
 rw[List.take_add_one,h]
 rfl
theorem L6:(⟨(([]:wz).flatMap fun a=>a.1++bc a.2).toArray⟩:Str)="" :=by decide+kernel
theorem L7(as:wz)(m:Int):("(" :Str)++(⟨(as.flatMap fun a=>a.1++bc a.2).toArray⟩:Str)++")" ++du m=⟨([Tr.gr (as.map aT) m].flatMap (ck 1)).toArray⟩:=by
 rw[GC,bL,Gz,Qk,show (⟨#[40]⟩:Str)=⟨[40].toArray⟩ from rfl,show (⟨#[41]⟩:Str)=⟨[41].toArray⟩ from rfl,aZ,aZ,aZ]
 simp
def XE(o:Obj)(KV:List (Key×V))(d D2:Addr)(m:Int)(H2:Hp):Nat→St→Hp→Prop:=fun i σ H'=>∃(v:Option V) (ps:List (Addr×Key×V)),σ=[v,some (.int m),some (.ref d)]∧H' d=some (.kY o (.dK KV))∧H' D2=some (.lst (ps.map fun p=> .ref p.1))∧(∀p∈ps,H' p.1=some (.tup [kV p.2.1,p.2.2]))∧ps.map (·.2)=((KV.take i).map fun p=>(p.1,V.int (m*sE KV p.1)))∧∀b o',H2 b=some o'→b≠d→H' b=some o'
theorem eM:ay ["_law_cell","_law_text","_law_counts","_law_k","_law_kind_here","_law_count_here","_law_times"] ["_law_cell"] (ak kD):=dN
def ur:Sp:=fun vs H Q _=>∃c:Int,vs=[.int c]∧∀(t d:Addr) (ts:List Tr) H',Cc ts→H d=none→H' t=some (.tup [.str ⟨(ts.flatMap (ck 1)).toArray⟩, .ref d])→H' d=some (.dK (cW 1 [(1,ts)]))→aF H H'→Q (.ref t) H'
theorem Ah(D:Def K mg "_law_piece" "_law_piece" kD ["_law_cell"])(T:wx K mg C)(c1:bD P w K mg base 2 "_law_pick" ["_law_cell","_law_turn"] wu)(c2:bD P w K mg base 1 "_law_kind" ["_law_number"] x9)(c3:bD P w K mg base 1 "_law_count" ["_law_number"] x')(c4:bD P w K mg base 1 "_law_figures" ["_law_count_here"] hV):
  bD P w K mg base 3 "_law_piece" ["_law_cell"] ur:=by
 obtain⟨_,_,bT⟩:=c1
 obtain⟨_,_,kR⟩:=c2
 obtain⟨_,_,dF⟩:=c3
 obtain⟨_,_,bh⟩:=c4
 refine D.fW eM (fun vs H Q E h=>?_) (fun f bo A outer s H vs Q E hr h=>?_)
 ·obtain⟨c,rfl,_⟩:=h
  rfl
 ·obtain⟨c,rfl,q⟩:=h
  have hu:=Be hr
  have XF:=hr.vG
  have big:(2000 :Nat)≤sizeLine:=by decide
  have m0:0≤c%3:=Int.emod_nonneg _ (by decide)
  have m1:c%3<3:=Int.emod_lt_of_pos _ (by decide)
  refine⟨_,(aj
     (aO (i:=1) eM.nd rfl (Or.inl rfl) aN)
    (aj
     (aO (i:=2) eM.nd rfl (Or.inr rfl) sX)
    (aj
     (jK PassesOwn.never rfl (i9 rfl T.kG (aa (ax bH aq (ax bA (pv 0) aq)) ah)) (bZ (i:=3) eM.nd rfl (Or.inl rfl))
      (aj
       (aO (i:=4) eM.nd rfl (Or.inl rfl) (aM kR.ok (hr.mono (by decide)) rfl kR.g kR.kp kR.b .nil aP (aa (aM bT.ok (hr.mono (by decide)) rfl bT.g bT.kp bT.b .nil aP (aa (pv 0) (aa (ax iI aq (pv 3)) ah))) ah)))
      (aj
       (aO (i:=5) eM.nd rfl (Or.inl rfl) (aM dF.ok (hr.mono (by decide)) rfl dF.g dF.kp dF.b .nil aP (aa (aM bT.ok (hr.mono (by decide)) rfl bT.g bT.kp bT.b .nil aP (aa (pv 0) (aa (ax bH (ax iI aq (pv 3)) aq) ah))) ah)))
      (aj
       (aO (i:=1) eM.nd rfl (Or.inl rfl) (ax aG (ax aG (pv 1) (pv 4)) (aM bh.ok (hr.mono (by decide)) rfl bh.g bh.kp bh.b .nil aP (aa (pv 5) ah))))
      (au
       (qB hu (pv 2) (pv 4) (ax bH (nJ hu (pv 2) (pv 4) aq ⟨rfl,rfl,rfl,rfl⟩) (pv 5)) rfl))))))
    (aj
     (aO (i:=6) eM.nd rfl (Or.inr rfl) (aM dF.ok (hr.mono (by decide)) rfl dF.g dF.kp dF.b .nil aP (aa (aM bT.ok (hr.mono (by decide)) rfl bT.g bT.kp bT.b .nil aP (aa (pv 0) (aa aq ah))) ah)))
    (aj
     (bB (aJ fT (ax bA (ax bW (pv 0) aq) aq) aq (aU _))
      (au
       (aB (b9 (aa (pv 1) (aa (pv 2) ah)))))
      aY)
    (au
     (aB (b9 (aa (ax aG (ax aG (ax aG aN (pv 1)) aN) (aM bh.ok (hr.mono (by decide)) rfl bh.g bh.kp bh.b .nil aP (aa (pv 6) ah))) (aa (bX (vN rfl) rfl T.IT Em (aa (Ed (j' (sc:=(ak kD)) (NX:=["_law_cell","_law_text","_law_counts","_law_k","_law_kind_here","_law_count_here","_law_times"]) (N:=["_law_kind_here","_law_times","_law_counts"]) (fr:=[none,some 6,some 2]) ⟨by rfl,by rfl,by decide+kernel,by decide+kernel,by decide+kernel,by rfl,by decide+kernel⟩ rfl rfl rfl (Ec (pv 2)) (fun _ _ _ _=>(bZ (i:=0) (show (["_law_kind_here","_law_times","_law_counts"]:List Str).Nodup by decide+kernel) rfl (Or.inl rfl) (Or.inr rfl))) (fun _ _ _ _=>mC) (fun _ _ _ _=>(b9 (aa (pv 0) (aa (ax iI (pv 1) (D4 hu (pv 2) (pv 0) (fun _ _=>rfl))) ah)))))) ah)) ah)))))))))),?_⟩
  refine fun d hd=>?_
  refine⟨_,rfl,_,_,rfl,rfl,(by show (0 :Int) <3;decide),_,_,rfl,rfl,_,rfl,by omega,by omega,gA (fun i σ H'=>∃(as:wz) (v3 v4 v5:Option V),σ=[some (.int c),some (.str ⟨(as.flatMap fun a=>a.1++bc a.2).toArray⟩),some (.ref d),v3,v4,v5,none]∧Cd as∧as.length=i∧H' d=some (.dK (eK 1 [] (pk as)))∧aF H H') ?_ ?_ ?_⟩
  ·exact⟨[],none,none,none,by rw[L6];rfl,(fun a ha=>by cases ha),rfl,ag,aF.new hd⟩
  ·rintro i σ H' hi ⟨as,v3,v4,v5,rfl,bq,hl,qt,e⟩
   have hi3:i<3:=by omega
   refine⟨_,rfl,_,rfl,_,_,rfl,rfl, .inl ⟨by decide,by decide⟩,c,_,rfl,by omega,by omega,fun n1 H1 e1=>⟨n1,rfl,fun k H2 hk e2=>?_⟩⟩
   refine⟨_,rfl,_,rfl,_,_,rfl,rfl, .inl ⟨by decide,by decide⟩,_,_,rfl,rfl,c,_,rfl,by omega,by omega,fun n2 H3 e3=>⟨n2,rfl,fun m H4 m1 m2 e4=>?_⟩⟩
   have s4:=((e1.trans e2).trans e3).trans e4
   have Fe:=s4 _ _ qt
   have za:=js bq
   have zk:=Ce hk
   have zm:=dO m1 m2
   have hI:gj (eK 1 [] (pk as)):=mR 1 _ _ fun p hp=>by cases hp
   have Qu:=mS 1 (pk as) []
   have DJ:(pk as).length=as.length:=by unfold pk;rw[List.length_map]
   rw[List.length_nil] at Qu
   refine⟨_,rfl,_,rfl,_,_,rfl,rfl,by rw[az,az];omega,_,rfl,m,rfl,m1,m2,_,_,rfl,rfl,by rw[aL,az,az];omega,?_⟩
   refine⟨_,rfl,d,rfl, .inl ⟨_, .inl Fe⟩,_,rfl,_,oX.k (k:=Sum.inr ⟨k.toArray⟩) Fe,_,rfl,_,_,hI.at _,rfl,_,rfl,_,rfl,d,_,rfl,vI.k (k:=Sum.inr ⟨k.toArray⟩) Fe (by omega),?_⟩
   refine⟨as++[(k,m)],some (.int (0+(i:Int))),some (.str ⟨k.toArray⟩),some (.int m),?_,?_,?_,?_,?_⟩
   ·have ex:(⟨(as.flatMap fun a=>a.1++bc a.2).toArray⟩:Str)++⟨k.toArray⟩++du m=⟨((as++[(k,m)]).flatMap fun a=>a.1++bc a.2).toArray⟩:=by
     rw[bL,aZ,aZ,List.flatMap_append,List.flatMap_cons,List.flatMap_nil,List.append_nil,List.append_assoc]
    rw[←ex]
    rfl
   ·intro a ha
    rcases List.mem_append.mp ha with ha|ha
    ·exact bq a ha
    ·have ea:a=(k,m):=by simpa using ha
     subst ea
     exact⟨hk,m1,m2⟩
   ·rw[List.length_append,hl]
    rfl
   ·rw[ag]
    have ec:eK 1 [] (pk (as++[(k,m)]))=iz (eK 1 [] (pk as)) (Sum.inr ⟨k.toArray⟩) (m*1):=by
     unfold pk eK
     rw[List.map_append,List.foldl_append]
     rfl
    rw[ec,Int.mul_one]
    rfl
   ·intro b o z
    rw[ao (ai z hd)]
    exact s4 _ _ (e _ _ z)
  ·rintro σ H' ⟨as,v3,v4,v5,rfl,bq,hl,qt,e⟩
   have l1:1≤as.length:=by omega
   have l3:as.length≤3:=by omega
   refine⟨_,rfl,c,6,rfl,by decide,by decide,fun n1 H1 e1=>⟨n1,rfl,fun m H2 m1 m2 e2=>?_⟩⟩
   have s2:=e1.trans e2
   have hd2:=s2 _ _ qt
   have Sz:=e.trans s2
   have za:=js bq
   have zm:=dO m1 m2
   refine⟨_,rfl,_,_,rfl,rfl,⟨by decide,by decide⟩,_,_,rfl,rfl,(by show (0 :Int) <3;decide),_,_,rfl,rfl,_,rfl,gZ (fun _=>?_) fun _=>?_⟩
   ·refine⟨_,rfl,_,rfl,(by show 2≤sizeLine;decide),fun t ht=>q t d (as.map aT) _ (Cf bq l1 l3) hd ?_ ?_ (Sz.trans (aF.new ht))⟩
    ·rw[ag,lK]
    ·rw[ao (ai hd2 ht),L4]
     exact hd2
   ·have SA:("(" :Str).length=1:=by decide+kernel
    have XG:(")" :Str).length=1:=by decide+kernel
    refine⟨_,rfl,_,_,rfl,rfl,by rw[SA,az];omega,_,_,rfl,rfl,by rw[aL,SA,XG,az];omega,_,rfl,m,rfl,m1,m2,_,_,rfl,rfl,by rw[aL,aL,SA,XG,az];omega,?_⟩
    refine⟨_,rfl,d,_,rfl,hd2,fun o nf D2 SD=>?_⟩
    have hI:gj (eK 1 [] (pk as)):=mR 1 _ _ fun p hp=>by cases hp
    have hn:((eK 1 [] (pk as)).map (·.1)).Nodup:=BE 1 _ _ List.nodup_nil
    have Qu:=mS 1 (pk as) []
    have DJ:(pk as).length=as.length:=by unfold pk;rw[List.length_map]
    rw[List.length_nil] at Qu
    generalize hK:eK 1 [] (pk as)=KV at hd2 hI hn Qu
    have Qv:D2≠d:=fun z=>by rw[z,ag] at SD;cases SD
    have XH:H2 D2=none:=by rwa [ao Qv] at SD
    have gen:∀i σ H',XE o KV d D2 m H2 i σ H'→H' d=some (.kY o (.dK KV)):=fun i σ H' ⟨_,_,_,z,_⟩=>z
    refine zB (a:=d) (D:=D2) (kvs:=KV) (XE o KV d D2 m H2) ?_ gen ?_ ?_
    ·exact⟨none,[],rfl,by rw[ao (Ne.symm Qv),ag],ag,(fun p hp=>by cases hp),rfl,fun b o' z hb=>by rw[ao (ai z XH),ao hb];exact z⟩
    ·rintro i k v σ H' hi ⟨v',ps,rfl,f1,f2,f3,f4,f5⟩ N hN
     have hv:=hI.Fd (List.mem_of_getElem? hi)
     have mf:ps.length≤3:=by
      have:=congrArg List.length f4
      rw[List.length_map,List.length_map,List.length_take] at this
      omega
     refine⟨_,rfl,_,rfl,_,rfl,_,rfl,d,V.int (sE KV k),rfl, .inl ⟨_,k, .inr ⟨o,f1⟩,rfl,hv.symm⟩,_,_,rfl,rfl, .inl ⟨by omega,by omega⟩,(by show 2≤sizeLine;decide),fun t ht=>?_⟩
     have XI:D2≠t:=ai f2 ht
     have ZI:d≠t:=ai f1 ht
     refine⟨_,by rw[ao XI];exact f2,by rw[List.length_map];omega,hN _ _ ⟨_,ps++[(t,k,V.int (m*sE KV k))],rfl,?_,?_,?_,?_,?_⟩⟩
     ·rw[ao (Ne.symm Qv),ao ZI];exact f1
     ·rw[ag,List.map_append];rfl
     ·intro p hp
      rcases List.mem_append.mp hp with hp|hp
      ·have p1:=f3 p hp
       rw[ao (xm p1 f2 (by intro z;cases z)),ao (ai p1 ht)]
       exact p1
      ·have e':p=(t,k,V.int (m*sE KV k)):=by simpa using hp
       subst e'
       rw[ao (Ne.symm XI)];exact ag
     ·rw[List.map_append,f4,take_snoc hi,List.map_append]
      rfl
     ·intro b o' e' hb
      rw[ao (ai e' XH),ao (ai (f5 b o' e' hb) ht)]
      exact f5 b o' e' hb
    rintro σ H' ⟨v',ps,rfl,f1,f2,f3,f4,f5⟩
    rw[List.take_length] at f4
    refine⟨d,o,KV,f1,nf,D2,ps,rfl,by rw[ao Qv];exact f2,fun p hp=>by rw[ao (xm (f3 p hp) f1 (by intro z;cases z))];exact f3 p hp,fun w hw=>?_⟩
    have e8:gg [] (ps.map (·.2))=scale m KV:=by
     rw[f4,uk _ [] (by rw[List.nil_append,List.map_map];exact hn),List.nil_append,Ag hI hn]
    have XJ:aF H2 (upd H' d (.dK KV)):=fun b o' e=>by
     by_cases z:b=d
     ·subst z
      rw[ag]
      exact hd2.symm.trans e
     ·rw[ao z];exact f5 b o' e z
    have s8:aF H2 (upd (upd H' d (.dK KV)) w (.dK (gg [] (ps.map (·.2))))):=XJ.trans (aF.new hw)
    have ZJ:H w=none:=none_back (Sz.trans XJ) hw
    refine⟨(by show 2≤sizeLine;decide),fun t ht=>?_⟩
    refine q t w [.gr (as.map aT) m] _ (IU bq l1 l3 m1 m2) ZJ ?_ ?_ ((Sz.trans s8).trans (aF.new ht))
    ·rw[ag,←L7]
    ·rw[ao (ai ag ht),ag,L5,hK,e8]
abbrev Fm:=List eU×Int
def fL(x:Fm):List Nat:=wL 1 x.1 x.2
def IV(x:Fm):Prop:=sF 1 x.1 x.2∧(fL x).length≤33∧(x.1.flatMap (lZ 1)).length≤7
def Cg(H:Hp)(t:Addr)(x:Fm):Prop:=∃d,H t=some (.tup [.str ⟨(fL x).toArray⟩, .ref d, .int x.2])∧H d=some (.dK (cW 1 x.1))
theorem Cg.same{H H':Hp}{t:Addr}{x:Fm}(h:Cg H t x)(e:aF H H'):Cg H' t x:=let ⟨d,h1,h2⟩:=h;⟨d,e _ _ h1,e _ _ h2⟩
theorem IW(n:Int):sY [V.str "-",V.str "+"] (if decide (n>0)=true then 1 else 0)=some (V.str (if 0<n then ("+" :Str) else ("-" :Str))):=by
 by_cases h:0<n
 ·rw[if_pos (decide_eq_true h),if_pos h]
  rfl
 ·rw[if_neg (by simpa using h),if_neg h]
  rfl
theorem Ff{n:Int}(e:¬n=0):(⟨(iA n).toArray⟩:Str)="^" ++du (if n<0 then -n else n)++(if 0<n then ("+" :Str) else ("-" :Str)):=by
 unfold iA
 rw[if_neg e,bL,Iz,R9,LR]
 rw[show (⟨#[94]⟩:Str)=⟨[94].toArray⟩ from rfl,aZ]
 by_cases hp:0<n
 ·rw[if_pos hp,if_pos hp,show (⟨#[43]⟩:Str)=⟨[43].toArray⟩ from rfl,aZ]
  simp
 ·rw[if_neg hp,if_neg hp,show (⟨#[45]⟩:Str)=⟨[45].toArray⟩ from rfl,aZ]
  simp
theorem L8{xs:List eU}(h:xs≠[])(n:Int):wL 1 xs n=wL 1 xs 0++iA n:=by
 cases xs with
 |nil=>exact absurd rfl h
 |cons x r=>
  show x.2.flatMap (ck 1)++(cA 1 r++iA n)=x.2.flatMap (ck 1)++(cA 1 r++[])++iA n
  rw[List.append_nil,List.append_assoc]
def Qw(xs:List eU):Prop:=xs≠[]∧(∀n, -999≤n→n≤999→sF 1 xs n)∧(wL 1 xs 0).length≤29∧(xs.flatMap (lZ 1)).length≤7
def AG(t:Int):eU:=(t,[.one [72] 2, .one [79] 1])
theorem eH:("H" :Str)=⟨[72].toArray⟩:=by decide+kernel
theorem eO:("O" :Str)=⟨[79].toArray⟩:=by decide+kernel
theorem SE:("H2O" :Str)=⟨[72,50,79].toArray⟩:=by decide+kernel
theorem SF:bc 2=[50]:=by decide+kernel
theorem SH:bc 1=[]:=by decide+kernel
theorem L9(t:Int):cA 1 [AG t]=46::(bc t++[72,50,79]):=by
 show (46::(bc t++([72]++bc 2++([79]++bc 1++[]))))++[]=_
 rw[SF,SH]
 simp
theorem L'(ts:List Tr):wL 1 [(1,ts)] 0=ts.flatMap (ck 1):=by
 show ts.flatMap (ck 1)++([]++[])=_
 simp
theorem Ma(ts:List Tr)(t:Int):wL 1 [(1,ts),AG t] 0=ts.flatMap (ck 1)++46::(bc t++[72,50,79]):=by
 show ts.flatMap (ck 1)++(cA 1 [AG t]++[])=_
 rw[List.append_nil,L9]
theorem GF{ts:List Tr}(h:Cc ts):Qw [(1,ts)]:=by
 obtain⟨h1,h2,h3,h4⟩:=h
 refine⟨by simp,fun n n1 n2=>⟨rfl,fun x hx=>?_,n1,n2⟩,?_,?_⟩
 ·have e:x=(1,ts):=by simpa using hx
  subst e
  exact⟨h1,h2,(by show (1 :Int)≤1;decide),(by show (1 :Int)≤999;decide)⟩
 ·rw[L']
  omega
 ·show (ts.flatMap (gT 1 1)++[]).length≤7
  rw[List.append_nil]
  omega
theorem Mb{ts:List Tr}(h:Cc ts){t:Int}(t1:1≤t)(t2:t≤99):Qw [(1,ts),AG t]:=by
 obtain⟨h1,h2,h3,h4⟩:=h
 refine⟨by simp,fun n n1 n2=>⟨rfl,fun x hx=>?_,n1,n2⟩,?_,?_⟩
 ·have e:x=(1,ts)∨x=AG t:=by simpa using hx
  rcases e with e|e
  ·subst e
   exact⟨h1,h2,(by show (1 :Int)≤1;decide),(by show (1 :Int)≤999;decide)⟩
  ·subst e
   refine⟨by simp [AG],fun u hu=>?_,t1,(by show t≤999;omega)⟩
   have e:u= .one [72] 2∨u= .one [79] 1:=by simpa [AG] using hu
   rcases e with e|e
   ·subst e
    exact⟨⟨72,[],rfl,by decide,by decide,by decide⟩,by decide,by decide⟩
   ·subst e
    exact⟨⟨79,[],rfl,by decide,by decide,by decide⟩,by decide,by decide⟩
 ·rw[Ma,List.length_append,List.length_cons,List.length_append]
  have:=uo t1 t2
  have:[72,50,79].length=3:=rfl
  omega
 ·show (ts.flatMap (gT 1 1)++(lZ 1 (AG t)++[])).length≤7
  rw[List.length_append]
  show _+2≤7
  omega
theorem SI(ts:List Tr)(t:Int):cW 1 [(1,ts),AG t]=iz (iz (cW 1 [(1,ts)]) (Sum.inr "H") (2*t)) (Sum.inr "O") t:=by
 have e:([(1,ts),AG t]:List eU).flatMap (lZ 1)=([(1,ts)]:List eU).flatMap (lZ 1)++[((⟨[72].toArray⟩:Str),2*t),(⟨[79].toArray⟩,1*t)]:=by
  show ts.flatMap (gT 1 1)++([((⟨[72].toArray⟩:Str),2*t)]++([((⟨[79].toArray⟩:Str),1*t)]++[])++[])=(ts.flatMap (gT 1 1)++[])++_
  simp
 unfold cW eK
 rw[e,List.foldl_append,eH,eO]
 show iz (iz _ (Sum.inr _) (2*t*1)) (Sum.inr _) (1*t*1)=_
 rw[Int.mul_one,Int.mul_one,Int.one_mul]
theorem Mc{xs:List eU}(h:Qw xs){n:Int}(n1: -99≤n)(n2:n≤99):IV (xs,n):=by
 obtain⟨h1,h2,h3,h4⟩:=h
 refine⟨h2 n (by omega) (by omega),?_,h4⟩
 show (wL 1 xs n).length≤33
 rw[L8 h1,List.length_append]
 have:(iA n).length≤4:=by
  unfold iA
  split
  ·exact Nat.zero_le _
  ·have:=uo (n:=if n<0 then -n else n) (by split<;>omega) (by split<;>omega)
   rw[List.length_cons,List.length_append]
   show _+1+1≤4
   omega
 omega
theorem IX(xs:List eU):gj (cW 1 xs):=mR 1 _ _ fun p hp=>by cases hp
theorem IY{xs:List eU}{m:Nat}(h:(xs.flatMap (lZ 1)).length≤m):(cW 1 xs).length≤m:=by
 have:=mS 1 (xs.flatMap (lZ 1)) []
 rw[List.length_nil] at this
 unfold cW
 omega
def oC:Sp:=fun vs H Q _=>∃c:Int,vs=[.int c]∧∀(t:Addr) (x:Fm) H',IV x→Cg H' t x→aF H H'→Q (.ref t) H'
theorem cS:ay ["_law_cell","_law_text","_law_counts","_law_water","_law_times","_law_charge"] ["_law_cell"] (ak jg):=dN
theorem uu(D:Def K mg "_law_formula" "_law_formula" jg ["_law_cell"])(T:wx K mg C)(c1:bD P w K mg base 2 "_law_pick" ["_law_cell","_law_turn"] wu)(c2:bD P w K mg base 3 "_law_piece" ["_law_cell"] ur)(c4:bD P w K mg base 1 "_law_figures" ["_law_count_here"] hV):
  bD P w K mg base 4 "_law_formula" ["_law_cell"] oC:=by
 obtain⟨_,_,bT⟩:=c1
 obtain⟨_,_,ju⟩:=c2
 obtain⟨_,_,bh⟩:=c4
 refine D.fW cS (fun vs H Q E h=>?_) (fun f bo A outer s H vs Q E hr h=>?_)
 ·obtain⟨c,rfl,_⟩:=h
  rfl
 ·obtain⟨c,rfl,q⟩:=h
  have hu:=Be hr
  have XF:=hr.vG
  have big:(2000 :Nat)≤sizeLine:=by decide
  refine⟨_,(aj
     (bB (aJ cw (ax bA (pv 0) aq) aq (aU _))
      (au
       (aB (b9 (aa aN (aa sX (aa (j8 gY aq) ah))))))
      aY)
    (aj
     (AU (aM ju.ok (hr.mono (by decide)) rfl ju.g ju.kp ju.b .nil aP (aa (ax bW (pv 0) aq) ah)) (qx rfl (dH (bZ (i:=1) cS.nd rfl (Or.inl rfl)) (dH (bZ (i:=2) cS.nd rfl (Or.inl rfl)) mr))))
    (aj
     (aO (i:=3) cS.nd rfl (Or.inl rfl) (aM bT.ok (hr.mono (by decide)) rfl bT.g bT.kp bT.b .nil aP (aa (pv 0) (aa aq ah))))
    (aj
     (bB (aJ cw (ax bA (pv 3) aq) aq (aU _))
      (aj
       (aO (i:=4) cS.nd rfl (Or.inl rfl) (ax bH aq (ax bA (ax bW (pv 3) aq) aq)))
      (aj
       (aO (i:=1) cS.nd rfl (Or.inl rfl) (ax aG (ax aG (ax aG (pv 1) aN) (aM bh.ok (hr.mono (by decide)) rfl bh.g bh.kp bh.b .nil aP (aa (pv 4) ah))) aN))
      (aj
       (qB hu (pv 2) aN (ax bH (nJ hu (pv 2) aN aq ⟨rfl,rfl,rfl,rfl⟩) (ax iI aq (pv 4))) rfl)
      (au
       (qB hu (pv 2) aN (ax bH (nJ hu (pv 2) aN aq ⟨rfl,rfl,rfl,rfl⟩) (pv 4)) rfl)))))
      aY)
    (aj
     (aO (i:=5) cS.nd rfl (Or.inl rfl) (cY cV (cf (aa aq (aa aq (aa aq (aa (j8 gY aq) (aa aq (aa (j8 gY aq) (aa aq (aa (j8 gY aq) (aa aq ah)))))))))) (ax bA (ax bW (pv 3) aq) aq) (fun _ _=>rfl)))
    (aj
     (bB (aJ sO (pv 5) aq (aU _))
      (au
       (aO (i:=1) cS.nd rfl (Or.inl rfl) (ax aG (ax aG (ax aG (pv 1) aN) (aM bh.ok (hr.mono (by decide)) rfl bh.g bh.kp bh.b .nil aP (aa (bb sQ rfl T.BP Bm (aa (pv 5) ah)) ah))) (cY cV (cf (aa aN (aa aN ah))) (bX lj rfl T.pQ nN (aa (i' fT (pv 5) aq (aU _)) ah)) (fun _ _=>rfl)))))
      aY)
    (au
     (aB (b9 (aa (pv 1) (aa (pv 2) (aa (pv 5) ah)))))))))))),?_⟩
  refine⟨_,rfl,_,_,rfl,rfl,(by show (0 :Int) <16;decide),rfl,_,rfl,gZ (fun _=>?_) fun _=>?_⟩
  ·refine fun d hd=>⟨1,rfl,(by show 3≤sizeLine;decide),fun t ht=>?_⟩
   have e0:("e^-" :Str)=⟨(fL ([], -1)).toArray⟩:=by decide+kernel
   refine q t ([], -1) _ ⟨rfl,(by show 3≤33;decide),(by show 0≤7;decide)⟩ ⟨d,?_,?_⟩ ((aF.new hd).trans (aF.new ht))
   ·rw[ag,←e0]
   ·rw[ao (ai ag ht),ag]
    rfl
  refine⟨_,rfl,_,_,rfl,rfl,⟨by decide,by decide⟩,_,rfl,fun t0 d ts H1 Fg hd ZK RD e1=>?_⟩
  refine⟨t0,_,rfl,mq.of ZK,rfl,_,_,rfl,_,_,rfl,rfl,?_⟩
  refine⟨_,rfl,c,9,rfl,by decide,by decide,fun wt H2 e2=>?_⟩
  have hd2:=e2 _ _ RD
  have XM:=e1.trans e2
  have z1:=Fg.2.2.1
  dsimp only [iH]
  refine eZ (fun σ' H'=>∃(xs:List eU) (v4:Option V),σ'=[some (.int c),some (.str ⟨(wL 1 xs 0).toArray⟩),some (.ref d),some (.int wt),v4,none]∧Qw xs∧H' d=some (.dK (cW 1 xs))∧aF H H') (fun N hN=>?_) ?_
  ·refine⟨_,rfl,_,_,rfl,rfl,(by show (0 :Int) <5;decide),rfl,_,rfl,gZ (fun _=>?_) fun _=>?_⟩
   ·have t1:1≤1+wt/5%99:=by have:=Int.emod_nonneg (wt/5) (show (99 :Int)≠0 by decide);omega
    have t2:1+wt/5%99≤99:=by have:=Int.emod_lt_of_pos (wt/5) (show (0 :Int) <99 by decide);omega
    have zt:=dO t1 (by omega)
    have SJ:("." :Str).length=1:=by decide+kernel
    have lw:("H2O" :Str).length=3:=by decide+kernel
    refine⟨_,rfl,_,_,rfl,rfl,⟨by decide,by decide⟩,_,_,rfl,rfl,(by show (0 :Int) <99;decide),_,_,rfl,rfl,?_⟩
    refine⟨_,rfl,_,_,rfl,rfl,by rw[az,SJ];omega,_,rfl,1+wt/5%99,rfl,t1,by omega,_,_,rfl,rfl,by rw[aL,az,SJ];omega,_,_,rfl,rfl,by rw[aL,aL,az,SJ,lw];omega,?_⟩
    have hI:=IX [(1,ts)]
    have hl:=IY (GF Fg).2.2.2
    have DD:(iz (cW 1 [(1,ts)]) (Sum.inr "H") (2*(1+wt/5%99))).length≤(cW 1 [(1,ts)]).length+1:=eF _ _ _
    refine⟨_,rfl,d,rfl, .inl ⟨_, .inl hd2⟩,_,oX.k (k:=Sum.inr "H") hd2,_,rfl,_,_,rfl,rfl, .inl ⟨by decide,by decide⟩,_,_,hI.at _,rfl,_,rfl,d,_,rfl,vI.k (k:=Sum.inr "H") hd2 (by omega),?_⟩
    refine⟨_,rfl,d,rfl, .inl ⟨_, .inl ag⟩,_,oX.k (k:=Sum.inr "O") ag,_,rfl,_,_,(hI.add _ _).at _,rfl,_,rfl,d,_,rfl,vI.k (k:=Sum.inr "O") ag (Nat.lt_of_le_of_lt DD (by omega)),?_⟩
    refine hN _ _ ⟨[(1,ts),AG (1+wt/5%99)],some (.int (1+wt/5%99)),?_,Mb Fg t1 t2,?_,fun b o z=>?_⟩
    ·have ex:(⟨(ts.flatMap (ck 1)).toArray⟩:Str)++"." ++du (1+wt/5%99)++"H2O" =⟨(wL 1 [(1,ts),AG (1+wt/5%99)] 0).toArray⟩:=by
      rw[Ma,bL,IA,SE,show (⟨#[46]⟩:Str)=⟨[46].toArray⟩ from rfl,aZ,aZ,aZ]
      simp
     rw[←ex]
     rfl
    ·rw[ag,SI]
     rfl
    ·rw[ao (ai z hd),ao (ai z hd)]
     exact XM _ _ z
   ·exact hN _ _ ⟨[(1,ts)],none,by rw[L'];rfl,GF Fg,hd2,XM⟩
  rintro σ' H3 ⟨xs,v4,rfl,SK,ZL,e3⟩
  have d0:0≤wt/500%9:=Int.emod_nonneg _ (by decide)
  have d1:wt/500%9<9:=Int.emod_lt_of_pos _ (by decide)
  obtain⟨v,hv,qe⟩:=iL (xs:=[V.int 0,V.int 0,V.int 1,V.int (-1),V.int 2,V.int (-2),V.int 7,V.int (-99),V.int 12]) d0 d1
  have hc:∃n,v=V.int n∧ -99≤n∧n≤99:=by
   simp only [List.mem_cons,List.not_mem_nil,or_false] at hv
   rcases hv with rfl|rfl|rfl|rfl|rfl|rfl|rfl|rfl|rfl<;>exact⟨_,rfl,by decide,by decide⟩
  obtain⟨n,rfl,n1,n2⟩:=hc
  refine⟨1,rfl,2,rfl,99,rfl,(by show 9≤sizeLine;decide),fun l hl=>⟨_,rfl,_,_,rfl,rfl,⟨by decide,by decide⟩,_,_,rfl,rfl,(by show (0 :Int) <9;decide),l,_,_,V.int n,rfl,rfl,cL.of ag,qe,?_⟩⟩
  have sl:=aF.new (o:= .lst [V.int 0,V.int 0,V.int 1,V.int (-1),V.int 2,V.int (-2),V.int 7,V.int (-99),V.int 12]) hl
  have e4:=e3.trans sl
  have Fe:=sl _ _ ZL
  have zb:=SK.2.2.1
  dsimp only [iH]
  refine eZ (fun σ' H'=>σ'=[some (.int c),some (.str ⟨(wL 1 xs n).toArray⟩),some (.ref d),some (.int wt),v4,some (.int n)]∧H' d=some (.dK (cW 1 xs))∧aF H H') (fun N hN=>?_) ?_
  ·refine⟨_,rfl,rfl,_,rfl,gZ (fun e=>?_) fun e=>?_⟩
   ·have e:¬n=0:=by simpa using e
    have a1:1≤(if n<0 then -n else n):=by split<;>omega
    have a2:(if n<0 then -n else n)≤999:=by split<;>omega
    have z:=dO a1 a2
    have g1:("^" :Str).length=1:=by decide+kernel
    have g2:(if 0<n then ("+" :Str) else ("-" :Str)).length=1:=by split<;>decide+kernel
    refine⟨_,rfl,_,_,rfl,rfl,by rw[g1,az];omega,_,rfl,n,rfl,_,rfl,a1,a2,_,_,rfl,rfl,by rw[aL,g1,az];omega,(by show 2≤sizeLine;decide),fun y hy=>⟨_,rfl,_,_,rfl,rfl, .inr ⟨_,rfl,y,_,_,V.str _,rfl,rfl,cL.of ag,IW n,_,_,rfl,rfl,?_,hN _ _ ⟨?_,?_,e4.trans (aF.new hy)⟩⟩⟩⟩
    ·rw[aL,aL,az,g1,g2]
     omega
    ·have ex:(⟨(wL 1 xs 0).toArray⟩:Str)++"^" ++du (if n<0 then -n else n)++(if 0<n then ("+" :Str) else ("-" :Str))=⟨(wL 1 xs n).toArray⟩:=by
      rw[L8 SK.1 n,←aZ,Ff e,←pP,←pP]
     rw[←ex]
     rfl
    ·rw[ao (ai Fe hy)]
     exact Fe
   ·have e:n=0:=by simpa using e
    subst e
    exact hN _ _ ⟨rfl,Fe,e4⟩
  rintro σ' H5 ⟨rfl,XN,e5⟩
  exact⟨_,rfl,_,rfl,_,rfl,(by show 3≤sizeLine;decide),fun t ht=>q t (xs,n) _ (Mc SK n1 n2) ⟨d,ag,by rw[ao (ai XN ht)];exact XN⟩ (e5.trans (aF.new ht))⟩
abbrev Tm:=Int×Fm
def wA(H:Hp)(t:Addr)(x:Tm):Prop:=∃f,H t=some (.tup [.int x.1, .ref f])∧Cg H f x.2
def Ci(B:Int)(x:Tm):Prop:=1≤x.1∧x.1≤B∧IV x.2
def Fh(H:Hp)(l:Addr)(xs:List Tm):Prop:=∃ts,H l=some (.lst (ts.map V.ref))∧Paired (wA H) ts xs
variable {uC uP uI uD uL uT:Tok}
theorem mU{n:Int}(h0:0≤n)(h:n<10^50):(toString n:Str).length≤50:=by
 rw[PySem.ofString_length]
 obtain⟨m,rfl⟩:=Int.eq_ofNat_of_zero_le h0
 show (Nat.repr m).length≤50
 rw[Nat.length_repr_le_iff (by decide)]
 omega
theorem ya{n:Int}(h0:0≤n)(h:n<10^50):n.natAbs.log2<1920:=by
 by_cases e:n.natAbs=0
 ·rw[e];decide
 ·have:=(Nat.log2_lt e (k:=170)).mpr (by omega)
  omega
def vo(x:Tm):Str:=if x.1=1 then ⟨(fL x.2).toArray⟩ else (toString x.1 :Str)++" " ++⟨(fL x.2).toArray⟩
def SM(xs:List Tm):Str:=Txt.join " + " (xs.map vo)
theorem Fi{B:Int}(hB:B≤10^40){x:Tm}(h:Ci B x):(vo x).length≤100:=by
 obtain⟨h1,h2,_,h3,_⟩:=h
 unfold vo
 split
 ·rw[az]
  omega
 ·have:=mU (n:=x.1) (by omega) (by omega)
  have l1:(" " :Str).length=1:=by decide+kernel
  rw[aL,aL,az,l1]
  exact Nat.le_trans (Nat.add_le_add (Nat.add_le_add_right this 1) h3) (by decide)
theorem uv{H:Hp}:∀{ts:List Addr} {xs:List Tm} {i:Nat} {x:V},Paired (wA H) ts xs→(ts.map V.ref)[i]? =some x→∃t y,x= .ref t∧xs[i]? =some y∧wA H t y
 |_,_,_,_, .nil,h=>by simp at h
 |_,_,0,_, .cons h _,e=>⟨_,_,(Option.some.inj e).symm,rfl,h⟩
 |_,_,i+1,_, .cons _ t,e=>uv (i:=i) t e
def Cj:Sp:=fun vs H Q _=>∃(l:Addr) (xs:List Tm),vs=[.ref l]∧Fh H l xs∧(∀x∈xs,Ci (10^40) x)∧xs.length≤10∧∀H',aF H H'→Q (.str (SM xs)) H'
theorem rN:ay ["_law_terms","_law_texts","_law_count_here","_law_formula_here"] ["_law_terms"] (ak xR):=dN
theorem Fj(D:Def K mg "_law_side" "_law_side" xR ["_law_terms"])(T:wx K mg C):bD P w K mg base 1 "_law_side" ["_law_terms"] Cj:=by
 refine D.fW rN (fun vs H Q E h=>?_) (fun f bo A outer s H vs Q E hr h=>?_)
 ·obtain⟨l,xs,rfl,_⟩:=h
  rfl
 ·obtain⟨l,xs,rfl,⟨ts,hl,hP⟩,bq,Kt,q⟩:=h
  have big:(2000 :Nat)≤sizeLine:=by decide
  have mf:=Paired.length hP
  refine⟨_,(aj
     (aO (i:=1) rN.nd rfl (Or.inl rfl) (cf ah))
    (aj
     (jK PassesOwn.never rfl (j7 (pv 0)) (qx rfl (dH (bZ (i:=2) rN.nd rfl (Or.inl rfl)) (dH (bZ (i:=3) rN.nd rfl (Or.inl rfl)) mr)))
      (au
       (bB (aJ cw (pv 2) aq (aU _))
        (au
         (bF (eG PySem.F.plainAttrs_list PySem.F.slot_list_append PySem.F.type_list_append dW (pv 1) (aa (cY vJ (pv 3) aq (fun _ _=>rfl)) ah))))
        (au
         (bF (eG PySem.F.plainAttrs_list PySem.F.slot_list_append PySem.F.type_list_append dW (pv 1) (aa (ax aG (ax aG (bX eW rfl T.xX qI (aa (pv 2) ah)) aN) (cY vJ (pv 3) aq (fun _ _=>rfl))) ah)))))))
    (au
     (aB (eG PySem.F.plainAttrs_str PySem.F.slot_str_join PySem.F.type_str_join mF aN (aa (pv 1) ah)))))),?_⟩
  refine⟨(by show 0≤sizeLine;decide),fun D1 Ku=>?_⟩
  have sD:=aF.new (o:= .lst []) Ku
  refine⟨_,rfl,l,rfl,⟨_,cL.of (sD _ _ hl)⟩,AX (K:=K) (a:=l) (xs:=ts.map V.ref) (fun i σ H'=>∃v2 v3:Option V,σ=[some (.ref l),some (.ref D1),v2,v3]∧H' D1=some (.lst ((xs.take i).map fun x=>V.str (vo x)))∧aF H H') ?_ (fun i σ H' _ ⟨_,_,_,_,e⟩=>cL.of (e _ _ hl)) ?_ ?_⟩
  ·exact⟨none,none,rfl,ag,sD⟩
  ·rintro i x σ H' hi ⟨v2,v3,rfl,oW,e⟩
   obtain⟨t,y,rfl,hy,fm,ht,d,hf,hd⟩:=uv (H:=H) hP hi
   have GG:=bq y (List.mem_of_getElem? hy)
   have ez:=GG.2.2.2.1
   have RA:i<xs.length:=(List.getElem?_eq_some_iff.mp hy).1
   have Md:((xs.take i).map fun x=>V.str (vo x)).length<sizeLine:=by rw[List.length_map,List.length_take];omega
   refine⟨t,_,rfl,mq.of (e _ _ ht),rfl,_,_,rfl,_,_,rfl,rfl,?_⟩
   refine⟨_,rfl,rfl,_,rfl,gZ (fun e1=>?_) fun e1=>?_⟩
   ·have e1:y.1=1:=by simpa using e1
    refine⟨_,rfl, .inl ⟨rfl,_,cL.of oW⟩,_,rfl,fm,_,_,V.str ⟨(fL y.2).toArray⟩,rfl,rfl,mq.of (e _ _ hf),rfl,D1,_,_,rfl,rfl,oW,Md,_,_,rfl,?_,fun b o z=>by rw[ao (ai z Ku)];exact e _ _ z⟩
    rw[ag,take_snoc hy,List.map_append]
    have et:vo y=⟨(fL y.2).toArray⟩:=if_pos e1
    rw[←et]
    rfl
   ·have e1:¬y.1=1:=by simpa using e1
    have l1:(" " :Str).length=1:=by decide+kernel
    have zi:=mU (n:=y.1) (by have:=GG.1;omega) (by have:=GG.2.1;omega)
    refine⟨_,rfl, .inl ⟨rfl,_,cL.of oW⟩,_,rfl,y.1,rfl,ya (by have:=GG.1;omega) (by have:=GG.2.1;omega),_,_,rfl,rfl,?_,_,rfl,fm,_,_,V.str ⟨(fL y.2).toArray⟩,rfl,rfl,mq.of (e _ _ hf),rfl,_,_,rfl,rfl,?_,D1,_,_,rfl,rfl,oW,Md,_,_,rfl,?_,fun b o z=>by rw[ao (ai z Ku)];exact e _ _ z⟩
    ·rw[l1]
     exact Nat.le_trans (Nat.add_le_add_right zi 1) (by decide)
    ·rw[aL,l1,az]
     exact Nat.le_trans (Nat.add_le_add (Nat.add_le_add_right zi 1) ez) (by decide)
    ·rw[ag,take_snoc hy,List.map_append]
     have et:vo y=(toString y.1 :Str)++" " ++⟨(fL y.2).toArray⟩:=if_neg e1
     rw[←et]
     rfl
  ·rintro σ H' ⟨v2,v3,rfl,oW,e⟩
   rw[List.length_map,mf,List.take_length] at oW
   refine⟨rfl,_,rfl," + ",D1,xs.map vo,rfl,rfl,cL.of (by rw[oW,List.map_map];rfl),?_,q _ e⟩
   have l3:(" + " :Str).length=3:=by decide+kernel
   have z:=rl (ys:=xs.map vo) (b:=100) fun y hy=>by
    obtain⟨x,hx,rfl⟩:=List.mem_map.mp hy
    exact Fi (Int.le_refl _) (bq x hx)
   rw[List.length_map] at z ⊢
   rw[l3]
   omega
variable {uC uP uI uD uL uT mV mW mX:Tok}{Ch:Addr}
structure Ck(K:PySem.W.Frag)(mg:Str→Option Value)(C R G Pc Fo Ch:Addr)(uK uN uB uE uM uC uP uI uD uL uT mV mW mX:Tok):Prop extends pb K mg C R G Pc Fo uK uN uB uE uM uC uP uI uD uL uT,wx K mg C where
 cI:qy K Ch
 oE:cz K Ch "lefts"
 lL:cz K Ch "rights"
 Cm:mg "Change" =some (.ref Ch)
 yb:mg "BLANK" =some (.str " " mV)
 rO:mg "JOINT" =some (.str " + " mW)
 rP:mg "ARROW" =some (.str " -> " mX)
def GH(x:Fm):List Nat:=wL 4 x.1 x.2
def pq(x:Tm):Prop:=1≤x.1∧x.1≤10^40∧sF 4 x.2.1 x.2.2∧(wL 4 x.2.1 x.2.2).length≤400
def mY(x:Tm):Str:=if x.1=1 then ⟨(GH x.2).toArray⟩ else (toString x.1 :Str)++" " ++⟨(GH x.2).toArray⟩
def IZ(xs:List Tm):Str:=Txt.join " + " (xs.map mY)
theorem yc{x:Tm}(h:pq x):(mY x).length≤500:=by
 obtain⟨h1,h2,_,h3⟩:=h
 unfold mY
 split
 ·rw[az]
  exact Nat.le_trans h3 (by decide)
 ·have:=mU (n:=x.1) (by omega) (by omega)
  have l1:(" " :Str).length=1:=by decide+kernel
  rw[aL,aL,az,l1]
  exact Nat.le_trans (Nat.add_le_add (Nat.add_le_add_right this 1) h3) (by decide)
def l4(C G Pc Fo:Addr):Sp:=fun vs H Q _=>∃(f:Addr) (x:Tm),vs=[.int x.1, .ref f]∧oa C G Pc Fo 4 H f x.2.1 x.2.2∧pq x∧∀H',aF H H'→Q (.str (mY x)) H'
theorem uw:ay ["count","formula"] ["count","formula"] (ak g9):=dN
theorem rQ(D:Def K mg "term_shown" "term_shown" g9 ["count","formula"])(T:Ck K mg C R G Pc Fo Ch uK uN uB uE uM uC uP uI uD uL uT mV mW mX)(c1:cZ P w K mg base 13 Fo "shown" ["self"] (qc C G Pc Fo 4)):bD P w K mg base 14 "term_shown" ["count","formula"] (l4 C G Pc Fo):=by
 obtain⟨_,_,cg⟩:=c1
 refine D.fW uw (fun vs H Q E h=>?_) (fun f bo A outer s H vs Q E hr h=>?_)
 ·obtain⟨f,x,rfl,_⟩:=h
  rfl
 ·obtain⟨f',x,rfl,hF,⟨h1,h2,Ja,hz⟩,q⟩:=h
  obtain⟨dx,l,ps,hf,_⟩:=id hF
  have zl:(wL 4 x.2.1 x.2.2).length≤1000:=Nat.le_trans hz (by decide)
  refine⟨_,(aj
     (bB (aJ cw (pv 0) aq (aU _))
      (au
       (aB (bJ (pv 1) T.bN cg.m cg.ok (hr.mono (by decide)) cg.b .nil aP)))
      aY)
    (au
     (aB (ax aG (ax aG (bX eW rfl T.xX qI (aa (pv 0) ah)) (aQ (v:= .str " ") rfl T.yb ⟨_,rfl⟩)) (bJ (pv 1) T.bN cg.m cg.ok (hr.mono (by decide)) cg.b .nil aP))))),?_⟩
  refine⟨_,rfl,rfl,_,rfl,gZ (fun e=>?_) fun e=>?_⟩
  ·have e:x.1=1:=by simpa using e
   have et:mY x=⟨(GH x.2).toArray⟩:=if_pos e
   rw[et] at q
   exact⟨_,rfl,f',dx,_,rfl,hf,tW _ _ (by decide+kernel) (by decide+kernel),f',_,_,rfl,hF,Ja,zl,q⟩
  ·have e:¬x.1=1:=by simpa using e
   have et:mY x=(toString x.1 :Str)++" " ++⟨(GH x.2).toArray⟩:=if_neg e
   rw[et] at q
   have l1:(" " :Str).length=1:=by decide+kernel
   have zi:=mU (n:=x.1) (by omega) (by omega)
   refine⟨_,rfl,x.1,rfl,ya (by omega) (by omega),_,_,rfl,rfl,?_,_,rfl,f',dx,_,rfl,hf,tW _ _ (by decide+kernel) (by decide+kernel),f',_,_,rfl,hF,Ja,zl,fun H' e'=>⟨_,_,rfl,rfl,?_,q _ e'⟩⟩
   ·rw[l1]
    exact Nat.le_trans (Nat.add_le_add_right zi 1) (by decide)
   ·rw[aL,l1,az]
    exact Nat.le_trans (Nat.add_le_add (Nat.add_le_add_right zi 1) hz) (by decide)
def ip(C G Pc Fo:Addr)(H:Hp)(t:Addr)(x:Tm):Prop:=∃f,H t=some (.tup [.int x.1, .ref f])∧oa C G Pc Fo 4 H f x.2.1 x.2.2
def gU(C G Pc Fo:Addr)(H:Hp)(l:Addr)(xs:List Tm):Prop:=∃ts,H l=some (.lst (ts.map V.ref))∧Paired (ip C G Pc Fo H) ts xs
theorem ip.same{C G Pc Fo:Addr}{H H':Hp}{t:Addr}{x:Tm}(h:ip C G Pc Fo H t x)(e:aF H H'):ip C G Pc Fo H' t x:=let ⟨f,h1,h2⟩:=h;⟨f,e _ _ h1,h2.same e⟩
theorem gU.same{C G Pc Fo:Addr}{H H':Hp}{l:Addr}{xs:List Tm}(h:gU C G Pc Fo H l xs)(e:aF H H'):gU C G Pc Fo H' l xs:=let ⟨ts,h1,h2⟩:=h;⟨ts,e _ _ h1,bY (fun _ _ z=>z.same e) h2⟩
def l6(C G Pc Fo:Addr):Sp:=fun vs H Q _=>∃(l:Addr) (xs:List Tm),vs=[.ref l]∧gU C G Pc Fo H l xs∧(∀x∈xs,pq x)∧xs.length≤10∧∀H',aF H H'→Q (.str (IZ xs)) H'
theorem ux:ay ["terms"] ["terms"] (ak fE):=dN
theorem Fl{xs:List Tm}(bq:∀x∈xs,pq x)(Kt:xs.length≤10):((xs.map mY).map (·.length)).sum+(xs.map mY).length*(" + " :Str).length≤16777216:=by
 have l3:(" + " :Str).length=3:=by decide+kernel
 have z:=rl (ys:=xs.map mY) (b:=500) fun y hy=>by
  obtain⟨x,hx,rfl⟩:=List.mem_map.mp hy
  exact yc (bq x hx)
 rw[List.length_map] at z ⊢
 rw[l3]
 omega
theorem rR(D:Def K mg "side_shown" "side_shown" fE ["terms"])(T:Ck K mg C R G Pc Fo Ch uK uN uB uE uM uC uP uI uD uL uT mV mW mX)(c1:bD P w K mg base 14 "term_shown" ["count","formula"] (l4 C G Pc Fo)):bD P w K mg base 15 "side_shown" ["terms"] (l6 C G Pc Fo):=by
 obtain⟨_,_,fj⟩:=c1
 refine D.fW ux (fun vs H Q E h=>?_) (fun f bo A outer s H vs Q E hr h=>?_)
 ·obtain⟨l,xs,rfl,_⟩:=h
  rfl
 ·obtain⟨l,xs,rfl,⟨ts,hl,hP⟩,bq,Kt,q⟩:=h
  have big:(2000 :Nat) <sizeLine:=by decide
  have mf:=Paired.length hP
  refine⟨_,(au
     (aB (eG PySem.F.plainAttrs_str PySem.F.slot_str_join PySem.F.type_str_join mF (aQ (v:= .str " + ") rfl T.rO ⟨_,rfl⟩) (aa (j' (sc:=(ak fE)) (NX:=["terms"]) (N:=["count","formula"]) (fr:=[none,none]) ⟨by rfl,by rfl,by decide+kernel,by decide+kernel,by decide+kernel,by rfl,by decide+kernel⟩ rfl rfl rfl (j7 (pv 0)) (fun _ _ _ _=>(En K 2 rfl rfl (dH (bZ (i:=0) (show (["count","formula"]:List Str).Nodup by decide+kernel) rfl (Or.inl rfl) (Or.inr rfl)) (dH (bZ (i:=1) (show (["count","formula"]:List Str).Nodup by decide+kernel) rfl (Or.inl rfl) (Or.inr rfl)) mr)))) (fun _ _ _ _=>mC) (fun _ _ _ _=>(aM fj.ok (hr.mono (by decide)) rfl fj.g fj.kp fj.b .nil aP (aa (pv 0) (aa (pv 1) ah))))) ah)))),?_⟩
  refine⟨rfl,_,rfl,l,rfl,⟨_,cL.of hl⟩,fun D1 Ku=>lB (K:=K) (a:=l) (D:=D1) (xs:=ts.map V.ref) (fun i σ H'=>∃v u:Option V,σ=[v,u]∧aF H H'∧H' D1=some (.lst ((xs.take i).map fun x=>V.str (mY x))))
   ?_ (fun i σ H' _ ⟨_,_,_,e,_⟩=>cL.of (e _ _ hl)) ?_ ?_⟩
  ·exact⟨none,none,rfl,aF.new Ku,ag⟩
  ·rintro i v σ H' hi ⟨v',u',rfl,e,oW⟩ N hN
   rw[List.getElem?_map] at hi
   obtain⟨t,ht,rfl⟩:∃p,ts[i]? =some p∧v=V.ref p:=by
    cases hh:ts[i]? with
    |none=>rw[hh] at hi;cases hi
    |some p=>rw[hh] at hi;exact⟨p,rfl,(Option.some.inj hi).symm⟩
   obtain⟨y,hy,fo,h1,h2⟩:=ij hP ht
   have RA:i<xs.length:=(List.getElem?_eq_some_iff.mp hy).1
   refine⟨t,_,rfl,mq.of (e _ _ h1),rfl,_,_,rfl,_,_,rfl,rfl,?_⟩
   refine⟨_,rfl,_,rfl,fo,y,rfl,h2.same e,bq y (List.mem_of_getElem? hy),fun cu e'=>?_⟩
   refine⟨_,e' _ _ oW,?_,hN _ _ ⟨_,_,rfl,fun b o z=>?_,?_⟩⟩
   ·rw[List.length_map,List.length_take]
    omega
   ·rw[ao (ai z Ku)]
    exact e' _ _ (e _ _ z)
   ·rw[ag,take_snoc hy,List.map_append]
    rfl
  ·rintro σ H' ⟨v',u',rfl,e,oW⟩
   rw[List.length_map,mf,List.take_length] at oW
   exact⟨_,D1,xs.map mY,rfl,rfl,cL.of (by rw[oW,List.map_map];rfl),Fl bq Kt,q _ e⟩
theorem Qn:¬(("lefts" :Str)="rights"):=by decide+kernel
def l7(l r:Addr):List (Str×V):=c9 "rights" (.ref r) (c9 "lefts" (.ref l) [])
theorem l8(l r:Addr):(l7 l r).lookup ("lefts" :Str)=some (.ref l):=by
 unfold l7
 rw[aK,if_neg Qn,aK,if_pos rfl]
theorem kS(l r:Addr):(l7 l r).lookup ("rights" :Str)=some (.ref r):=by
 unfold l7
 rw[aK,if_pos rfl]
theorem Cn(l r:Addr){m:Str}(h1:¬m="rights")(h2:¬m="lefts"):(l7 l r).lookup m=none:=by
 unfold l7
 rw[aK,if_neg h1,aK,if_neg h2]
 all_goals rfl
def yd(Ch:Addr):Sp:=fun vs H Q _=>∃(p dx l r:Addr) (xs ys:List V),vs=[.ref p, .ref l, .ref r]∧H p=some (.ins Ch dx [])∧H l=some (.lst xs)∧H r=some (.lst ys)∧
 ∀n m H',H n=none→H m=none→n≠m→H' p=some (.ins Ch dx (l7 n m))→H' n=some (.lst xs)→H' m=some (.lst ys)→(∀b o,H b=some o→b≠p→H' b=some o)→Q .cn H'
theorem Fn:ay ["self","lefts","rights"] ["self","lefts","rights"] (ak qZ):=dN
theorem Co(D:jO K Ch "Change.__init__" qZ ["self","lefts","rights"] [])(T:Ck K mg C R G Pc Fo Ch uK uN uB uE uM uC uP uI uD uL uT mV mW mX):fD P w K mg base 1 Ch ["self","lefts","rights"] [] (yd Ch):=by
 refine D.fW Fn (fun vs H Q E h=>?_) (fun f bo A outer s H vs Q E hr h=>?_)
 ·obtain⟨p,dx,l,r,xs,ys,rfl,_⟩:=h
  rfl
 ·obtain⟨p,dx,l,r,xs,ys,rfl,hp,hl,Me,q⟩:=h
  refine⟨_,(aj
     (eQ (pv 0) (bX dI rfl T.n_list kb (aa (pv 1) ah)) rfl)
    (au
     (eQ (pv 0) (bX dI rfl T.n_list kb (aa (pv 2) ah)) rfl))),?_⟩
  refine⟨_,rfl,l,xs,rfl, .inl (cL.of hl),fun n hn=>?_⟩
  have vn:p≠n:=ai hp hn
  have ZM:r≠p:=xm Me hp (by intro z;cases z)
  refine⟨_,rfl,p,Ch,dx,[],rfl,(by rw[ao vn];exact hp),T.cI,T.oE,(by show 0<1000;decide),?_⟩
  refine⟨_,rfl,r,ys,rfl, .inl (cL.of (by rw[ao ZM,ao (ai Me hn)];exact Me)),fun m hm=>?_⟩
  have SQ:p≠m:=ai ag hm
  have SR:n≠m:=fun z=>by rw[←z,ao (Ne.symm vn),ag] at hm;cases hm
  have SS:H m=none:=by rwa [ao (Ne.symm SQ),ao (Ne.symm SR)] at hm
  refine⟨_,rfl,p,Ch,dx,_,rfl,(by rw[ao SQ];exact ag),T.cI,T.lL,(by show 1<1000;decide),?_⟩
  refine q n m _ hn SS SR ag ?_ ?_ fun b o e hb=>?_
  ·rw[ao (Ne.symm vn),ao SR,ao (Ne.symm vn),ag]
  ·rw[ao (Ne.symm SQ),ag]
  ·rw[ao hb,ao (ai e SS),ao hb,ao (ai e hn)]
   exact e
def oF(C G Pc Fo Ch:Addr)(H:Hp)(c:Addr)(xs ys:List Tm):Prop:=∃dx l r,H c=some (.ins Ch dx (l7 l r))∧gU C G Pc Fo H l xs∧gU C G Pc Fo H r ys
def XO(xs ys:List Tm):Prop:=(∀x∈xs,pq x)∧(∀y∈ys,pq y)∧xs.length≤10∧ys.length≤10
def Mf(xs ys:List Tm):Str:=IZ xs++" -> " ++IZ ys
def uy(C G Pc Fo Ch:Addr):Sp:=fun vs H Q _=>∃(c:Addr) (xs ys:List Tm),vs=[.ref c]∧oF C G Pc Fo Ch H c xs ys∧XO xs ys∧∀H',aF H H'→Q (.str (Mf xs ys)) H'
theorem qf{xs:List Tm}(bq:∀x∈xs,pq x)(Kt:xs.length≤10):(IZ xs).length≤6000:=by
 unfold IZ
 have e:=PyProof.Rows.join_closes (sep:=" + ") (sep':=" + ") (ys:=xs.map mY) rfl
 rw[show Txt.join " + " (xs.map mY)=Str.join " + " (xs.map mY) by simpa using e]
 have l3:(" + " :Str).length=3:=by decide+kernel
 have key:∀ys:List Str,(∀y∈ys,y.length≤500)→(Str.join " + " ys).length≤503*ys.length:=by
  intro ys
  induction ys with
  |nil=>intro _;exact Nat.zero_le _
  |cons y r ih=>
   intro h
   have h1:=h y (List.mem_cons_self ..)
   have h2:=ih fun z hz=>h z (List.mem_cons_of_mem _ hz)
   cases r with
   |nil=>
    show y.length≤503*1
    omega
   |cons z r'=>
    show (y++" + " ++Str.join " + " (z::r')).length≤_
    rw[aL,aL,l3,List.length_cons]
    omega
 have:=key (xs.map mY) fun y hy=>by
  obtain⟨x,hx,rfl⟩:=List.mem_map.mp hy
  exact yc (bq x hx)
 rw[List.length_map] at this
 omega
theorem Cp:ay ["self"] ["self"] (ak mL):=dN
theorem Ai(D:bR K Ch "shown" "Change.shown" mL ["self"])(T:Ck K mg C R G Pc Fo Ch uK uN uB uE uM uC uP uI uD uL uT mV mW mX)(c1:bD P w K mg base 15 "side_shown" ["terms"] (l6 C G Pc Fo)):cZ P w K mg base 16 Ch "shown" ["self"] (uy C G Pc Fo Ch):=by
 obtain⟨_,_,cm⟩:=c1
 refine D.fW Cp (fun vs H Q E h=>?_) (fun f bo A outer s H vs Q E hr h=>?_)
 ·obtain⟨c,xs,ys,rfl,_⟩:=h
  rfl
 ·obtain⟨c,xs,ys,rfl,⟨dx,l,r,hc,hl,Me⟩,⟨XQ,XR,n1,n2⟩,q⟩:=h
  have la:(" -> " :Str).length=4:=by decide+kernel
  have big:(20000 :Nat)≤sizeLine:=by decide
  have z1:=qf XQ n1
  have z2:=qf XR n2
  refine⟨_,(au
     (aB (ax aG (ax aG (aM cm.ok (hr.mono (by decide)) rfl cm.g cm.kp cm.b .nil aP (aa (bz (pv 0) rfl) ah)) (aQ (v:= .str " -> ") rfl T.rP ⟨_,rfl⟩)) (aM cm.ok (hr.mono (by decide)) rfl cm.g cm.kp cm.b .nil aP (aa (bz (pv 0) rfl) ah))))),?_⟩
  refine⟨_,rfl,c,Ch,dx,_,_,rfl,hc,T.cI,T.oE,l8 _ _,l,xs,rfl,hl,XQ,n1,fun H1 e1=>⟨_,_,rfl,rfl,by rw[la];omega,?_⟩⟩
  refine⟨_,rfl,c,Ch,dx,_,_,rfl,e1 _ _ hc,T.cI,T.lL,kS _ _,r,ys,rfl,Me.same e1,XR,n2,fun H2 e2=>⟨_,_,rfl,rfl,by rw[aL,la];omega,q _ (e1.trans e2)⟩⟩
variable {uC uP uI uD uL uT:Tok}
def cJ(l:List Nat):Prop:=∀c∈l,c<128
theorem cJ.app{a b:List Nat}(ha:cJ a)(hb:cJ b):cJ (a++b):=fun c hc=>(List.mem_append.mp hc).elim (ha c) (hb c)
theorem cJ.take{a:List Nat}(h:cJ a)(n:Nat):cJ (a.take n):=fun c hc=>h c (List.mem_of_mem_take hc)
theorem cJ.drop{a:List Nat}(h:cJ a)(n:Nat):cJ (a.drop n):=fun c hc=>h c (List.mem_of_mem_drop hc)
theorem mZ{n:Int}(h1:1≤n)(h2:n≤999):cJ (bc n):=fun c hc=>by
 obtain⟨m,rfl,m1,m0⟩:=kJ h1 (by omega)
 have:=List.all_eq_true.mp (eo m) c hc
 simp only [bK,Bool.and_eq_true,decide_eq_true_eq] at this
 omega
theorem Fp{k:List Nat}(h:rn k):cJ k:=by
 obtain⟨c,r,rfl,hg,hs,_⟩:=h
 intro b hb
 rcases List.mem_cons.mp hb with rfl|hb
 ·simp only [gS,Bool.and_eq_true,decide_eq_true_eq] at hg
  omega
 ·have:=List.all_eq_true.mp hs b hb
  simp only [gk,Bool.and_eq_true,decide_eq_true_eq] at this
  omega
theorem ye:∀(d:Nat) (t:Tr),o9 d t→cJ (ck d t)
 |d, .one k n,h=>by
  have h:rn k∧1≤n∧n≤999:=by cases d<;>exact h
  have e:ck d (.one k n)=k++bc n:=by cases d<;>rfl
  rw[e]
  exact(Fp h.1).app (mZ h.2.1 h.2.2)
 |0, .gr _ _,h=>h.elim
 |d+1, .gr ts n,⟨_,h,n1,n2⟩=>by
  intro c hc
  rcases List.mem_cons.mp (show c∈40::(ts.flatMap (ck d)++41::bc n) from hc) with rfl|hc
  ·decide
  ·rcases List.mem_append.mp hc with hc|hc
   ·obtain⟨t,ht,hc⟩:=List.mem_flatMap.mp hc
    exact ye d t (h t ht) c hc
   ·rcases List.mem_cons.mp hc with rfl|hc
    ·decide
    ·exact mZ n1 n2 c hc
theorem Cq{d:Nat}{ts:List Tr}(h:∀t∈ts,o9 d t):cJ (ts.flatMap (ck d)):=fun c hc=>by
 obtain⟨t,ht,hc⟩:=List.mem_flatMap.mp hc
 exact ye d t (h t ht) c hc
theorem Cr(x:Str){a:Nat}(ha:a≤x.length):(Txt.slice x none (some (a:Int))).cps.toList=x.cps.toList.take a:=by
 have:=gR x (a:=0) (b:=a) (Nat.zero_le _) (Nat.zero_le _)
 rw[List.drop_zero,Nat.sub_zero] at this
 rw[←this]
 have e:∀n,Builtin.Str.strSliceIndices none (some (a:Int)) 1 n=Builtin.Str.strSliceIndices (some ((0 :Nat):Int)) (some (a:Int)) 1 n:=fun n=>by
  simp only [Builtin.Str.strSliceIndices,show ((1 :Int) >0)=True from by simp,if_true]
  congr 1
 unfold Txt.slice
 rw[e]
theorem Cs(x:Str){a:Nat}(ha:a≤x.length):(Txt.slice x (some (a:Int)) none).cps.toList=x.cps.toList.drop a:=by
 have hl:x.cps.toList.length=x.length:=by simp [Str.length]
 have:=gR x (a:=a) (b:=x.length) ha ha
 rw[List.take_of_length_le (by rw[List.length_drop];omega)] at this
 rw[←this]
 have e:Builtin.Str.strSliceIndices (some (a:Int)) none 1 x.length=Builtin.Str.strSliceIndices (some (a:Int)) (some ((x.length:Nat):Int)) 1 x.length:=by
  simp only [Builtin.Str.strSliceIndices,show ((1 :Int) >0)=True from by simp,if_true]
  congr 1
  have:¬((x.length:Nat):Int) <0:=by omega
  rw[if_neg this]
  omega
 unfold Txt.slice
 rw[e]
theorem yf(l:List Nat){a:Nat}(h:a≤l.length):Txt.slice ⟨l.toArray⟩ none (some (a:Int))=⟨(l.take a).toArray⟩:=ei (by rw[Cr _ (by rw[az];exact h)])
theorem Ct(l:List Nat){a:Nat}(h:a≤l.length):Txt.slice ⟨l.toArray⟩ (some (a:Int)) none=⟨(l.drop a).toArray⟩:=ei (by rw[Cs _ (by rw[az];exact h)])
theorem jA.ok{u v:List Nat}{n:Int}(h:jA 3 u n v):u=bc n++v∧1≤n∧n≤999:=⟨h.1,h.2.1,by have:=h.2.2.1;omega⟩
theorem jG.ok{u k v:List Nat}{n:Int}(h:jG u k n v):u=(k++bc n)++v∧rn k∧1≤n∧n≤999:=by
 obtain⟨w,rfl,hk,_,hN⟩:=h
 obtain⟨e,n1,n2⟩:=hN.ok
 exact⟨by rw[e,List.append_assoc],hk,n1,n2⟩
theorem Sq.ok{p:List Nat→Tr→List Nat→Prop}{d:Nat}(hp:∀u t v,p u t v→u=ck d t++v∧o9 d t){u:List Nat}:∀{ts:List Tr} {v:List Nat},Sq p u ts v→u=ts.flatMap (ck d)++v∧ts≠[]∧∀t∈ts,o9 d t:=by
 intro ts v h
 induction h with
 |one t v a=>
  obtain⟨e,o⟩:=hp u t v a
  refine⟨by rw[e];simp,by simp,fun t' ht=>by rw[List.mem_singleton.mp ht];exact o⟩
 |snoc ts w t v _ _ a ih=>
  obtain⟨e,_,o⟩:=ih
  obtain⟨e2,o2⟩:=hp w t v a
  refine⟨by rw[e,e2,List.flatMap_append,List.append_assoc];simp,by simp,fun t' ht=>?_⟩
  rcases List.mem_append.mp ht with z|z
  ·exact o t' z
  ·rw[List.mem_singleton.mp z];exact o2
theorem jW.ok:∀(d:Nat) (u:List Nat) (t:Tr) (v:List Nat),jW d u t v→u=ck d t++v∧o9 d t
 |0,u,t,v,h=>by
  obtain⟨k,n,rfl,a⟩:=h
  obtain⟨e,o⟩:=a.ok
  exact⟨e,o⟩
 |d+1,u,t,v,h=>by
  rcases h with ⟨_,k,n,rfl,a⟩ | ⟨u',ts,n,w,rfl,rfl,⟨q,_⟩,hN⟩
  ·obtain⟨e,o⟩:=a.ok
   exact⟨e,o⟩
  ·obtain⟨e,ne,o⟩:=q.ok (jW.ok d)
   obtain⟨e2,n1,n2⟩:=hN.ok
   refine⟨?_,ne,o,n1,n2⟩
   rw[e,e2]
   show 40::(ts.flatMap (ck d)++41::(bc n++v))=40::(ts.flatMap (ck d)++41::bc n)++v
   simp
theorem vk.ok{u:List Nat}:∀{ps:List eU} {v:List Nat},vk u ps v→∃x r,ps=x::r∧x.1=1∧u=x.2.flatMap (ck 4)++(cA 4 r++v)∧∀y∈ps,Gs 4 y:=by
 intro ps v h
 induction h with
 |one ts v a=>
  obtain⟨e,ne,o⟩:=a.1.ok (jW.ok 4)
  exact⟨(1,ts),[],rfl,rfl,e,fun y hy=>by rw[List.mem_singleton.mp hy];exact⟨ne,o,(by show (1 :Int)≤1;decide),(by show (1 :Int)≤999;decide)⟩⟩
 |snoc ps w m w1 ts v _ n a ih=>
  obtain⟨x,r,rfl,x1,e,o⟩:=ih
  obtain⟨e2,n1,n2⟩:=n.ok
  obtain⟨e3,ne,o3⟩:=a.1.ok (jW.ok 4)
  refine⟨x,r++[(m,ts)],rfl,x1,?_,fun y hy=>?_⟩
  ·rw[e,e2,e3]
   unfold cA jF
   rw[List.flatMap_append]
   simp
  ·rcases List.mem_append.mp (show y∈(x::r)++[(m,ts)] from hy) with z|z
   ·exact o y z
   ·rw[List.mem_singleton.mp z];exact⟨ne,o3,n1,n2⟩
theorem Ql.ok{u v:List Nat}{n:Int}(h:Ql u n v):u=iA n++v∧ -999≤n∧n≤999:=by
 rcases h with ⟨_,rfl,rfl⟩ | ⟨u',m,w,rfl,hN,hs⟩
 ·exact⟨rfl,by decide,by decide⟩
 ·obtain⟨e,n1,n2⟩:=hN.ok
  rcases hs with ⟨rfl,rfl⟩ | ⟨rfl,rfl⟩
  ·refine⟨?_,by omega,by omega⟩
   unfold iA
   rw[if_neg (by omega),if_pos (by omega),if_neg (by omega),Int.neg_neg,e]
   simp
  ·refine⟨?_,by omega,by omega⟩
   unfold iA
   rw[if_neg (by omega),if_neg (by omega),if_pos (by omega),e]
   simp
theorem DH.Mg{u v:List Nat}{xs:List eU}{n:Int}(h:DH u xs n v):u=wL 4 xs n++v∧sF 4 xs n:=by
 rcases h with ⟨rfl,rfl,rfl⟩ | ⟨_,w,q,_,c⟩
 ·exact⟨rfl,rfl⟩
 ·obtain⟨x,r,rfl,x1,e,o⟩:=q.ok
  obtain⟨e2,n1,n2⟩:=c.ok
  refine⟨?_,x1,o,n1,n2⟩
  rw[e,e2]
  show _=x.2.flatMap (ck 4)++(cA 4 r++iA n)++v
  simp only [List.append_assoc]
theorem Mh{xs:List eU}{n:Int}(h:sF 4 xs n):wL 4 xs n≠[]:=by
 cases xs with
 |nil=>simp [wL]
 |cons x r=>
  obtain⟨_,ho,_⟩:=h
  obtain⟨ne,ot,_⟩:=ho x (List.mem_cons_self ..)
  intro z
  have z:x.2.flatMap (ck 4)++(cA 4 r++iA n)=[]:=z
  have z1:=(List.append_eq_nil_iff.mp z).1
  cases hx:x.2 with
  |nil=>exact ne hx
  |cons t ts=>
   rw[hx,List.flatMap_cons] at z1
   have z2:=(List.append_eq_nil_iff.mp z1).1
   have ht:=ot t (by rw[hx];exact List.mem_cons_self ..)
   cases t with
   |one k m=>
    obtain⟨⟨c,k',rfl,_⟩,_⟩:=ht
    cases z2
   |gr Qq m=>cases z2
variable {HE NF TL NC TM:Addr}{uC uP uI uD uL uT mV mW mX uG uS:Tok}{Ch:Addr}
structure Aj(K:PySem.W.Frag)(mg:Str→Option Value)(C R G Pc Fo Ch:Addr)(uK uN uB uE uM uC uP uI uD uL uT mV mW mX uG uS:Tok):Prop extends Ck K mg C R G Pc Fo Ch uK uN uB uE uM uC uP uI uD uL uT mV mW mX where
 i4:mg "LONGEST_TERM_COUNT" =some (.int 12 uG)
 rS:mg "MOST_TERMS" =some (.int 8 uS)
def Fq(u:List Nat)(t:Tm)(v:List Nat):Prop:=∃w,jA 12 u t.1 w∧((t.1=1∧DH w t.2.1 t.2.2 v)∨(t.1≠1∧∃w',w=32::w'∧DH w' t.2.1 t.2.2 v))
def Kv(u v:List Nat):Prop:=rE u v∨∃n w,jA 12 u n w∧((n=1∧LV w v)∨(n≠1∧w.head? ≠some 32∧v=w)∨(n≠1∧∃w',w=32::w'∧LV w' v))
def SU(s w v:List Nat):Prop:=∃i c,s[i]? =some c∧w=s.take i++v∧v.head? ≠some c
inductive vp(u:List Nat):List Tm→List Nat→Prop
 |one (t:Tm) (v:List Nat) (h:Fq u t v):vp u [t] v
 |snoc (ts:List Tm) (w:List Nat) (t:Tm) (v:List Nat) (s:vp u ts (32::43::32::w)) (h:Fq w t v):vp u (ts++[t]) v
def SV(u:List Nat)(ts:List Tm)(v:List Nat):Prop:=vp u ts (32::45::62::32::v)
def SW(w v:List Nat):Prop:=SU [32,43,32] w v∨∃w',w=32::43::32::w'∧Kv w' v
def SX(u v:List Nat):Prop:=Kv u v∨∃ts w,vp u ts w∧(((w.drop 1).head? ≠some 45∧SW w v)∨((w.drop 1).head? =some 45∧SU [32,45,62,32] w v))
def SY(u v:List Nat):Prop:=Kv u v∨∃ts w,vp u ts w∧w≠[]∧SW w v
def Kw(u:List Nat)(xs ys:List Tm):Prop:=∃w,SV u xs w∧vp w ys []
def S0(u v:List Nat):Prop:=SX u v∨∃xs w,SV u xs w∧SY w v
def Mi(C G Pc Fo:Addr)(H H':Hp)(t:Addr)(x:Tm):Prop:=∀cu,(∀b o,H b=none→H' b=some o→cu b=some o)→ip C G Pc Fo cu t x
def GI(C G Pc Fo L:Addr)(H H':Hp)(t:Addr)(x:Tm):Prop:=∀cu,(∀b o,H b=none→b≠L→H' b=some o→cu b=some o)→ip C G Pc Fo cu t x
def Cu(C G Pc Fo:Addr)(H H':Hp)(l:Addr)(xs:List Tm):Prop:=H l=none∧∃ps,H' l=some (.lst (ps.map V.ref))∧∀cu,(∀b o,H b=none→H' b=some o→cu b=some o)→Paired (ip C G Pc Fo cu) ps xs
theorem S1:(" " :Str)=⟨#[32]⟩:=by decide+kernel
def oG(NF C G Pc Fo R:Addr):Sp:=fun vs H Q E=>∃(r:Addr) (x:Str) (p:Nat),vs=[.ref r]∧cH R H r x p∧p≤x.length∧x.length≤1000∧
 (∀tm q t H',Fq (sf x p) tm (sf x q)→p<q→q≤x.length→H t=none→Mi C G Pc Fo H H' t tm→cH R H' r x q→Kept r H H'→Q (.ref t) H')∧(∀e,Kv (sf x p) (sf x e)→p≤e→e≤x.length→Rz NF H r E e)
theorem yg:ay ["self","count"] ["self"] (ak q0):=dN
theorem Cv{u v:List Nat}{xs:List eU}{n:Int}(h:DH u xs n v):v.length<u.length:=by
 obtain⟨e,o⟩:=h.Mg
 have:=Mh o
 rw[e,List.length_append]
 have:(wL 4 xs n).length≠0:=fun z=>this (List.length_eq_zero_iff.mp z)
 omega
theorem Jb{u v:List Nat}{t:Tm}(h:Fq u t v):v.length<u.length:=by
 obtain⟨w,hN,hw⟩:=h
 have e:=hN.1
 have l:w.length≤u.length:=by rw[e,List.length_append];omega
 rcases hw with ⟨_,hw⟩ | ⟨_,w',rfl,hw⟩
 ·have:=Cv hw
  omega
 ·have:=Cv hw
  rw[List.length_cons] at l
  omega
theorem Mj{x:Str}{p q:Nat}(h:(sf x q).length< (sf x p).length):p<q:=by
 rw[iX,iX] at h
 omega
theorem Ak(D:bR K R "read_term" "ChangeReader.read_term" q0 ["self"])(T:Aj K mg C R G Pc Fo Ch uK uN uB uE uM uC uP uI uD uL uT mV mW mX uG uS)(c1:a9 P w K mg base 3 R "read_number" ["self","longest"] (lG NF R))(c2:a9 P w K mg base 3 R "take" ["self","sign"] (ib NF R))(c3:a9 P w K mg base 20 R "read_whole" ["self"] (p9 NF C G Pc Fo R)):
  a9 P w K mg base 21 R "read_term" ["self"] (oG NF C G Pc Fo R):=by
 obtain⟨_,_,br⟩:=c1
 obtain⟨_,_,aA⟩:=c2
 obtain⟨_,_,di⟩:=c3
 refine D.g7 yg (fun vs H Q E h=>?_) (fun f bo A outer s H vs Q E hr h=>?_)
 ·obtain⟨r,x,p,rfl,_⟩:=h
  rfl
 ·obtain⟨r,x,p,rfl,⟨dx,hR⟩,hp,hx,q,qE⟩:=h
  refine⟨_,(aj
     (aO (i:=1) yg.nd rfl (Or.inl rfl) (bE (pv 0) T.aw br.m br.ok (hr.mono (by decide)) br.b .nil aV (aa (aQ (v:= .int 12) rfl T.i4 ⟨_,rfl⟩) ah)))
    (aj
     (bB (aJ fT (pv 1) aq (aU _))
      (au
       (bF (bE (pv 0) T.aw aA.m aA.ok (hr.mono (by decide)) aA.b .nil aV (aa (aQ (v:= .str " ") rfl T.yb ⟨_,rfl⟩) ah))))
      aY)
    (au
     (aB (b9 (aa (pv 1) (aa (bM (pv 0) T.aw di.m di.ok (hr.mono (by decide)) di.b .nil aV) ah))))))),?_⟩
  refine⟨_,rfl,r,dx,_,rfl,hR,aE _ _ (by decide+kernel) (by decide+kernel),r,x,p,12,rfl,⟨dx,hR⟩,hp,hx,by decide,by decide,fun n q1 H1 hN DI ue dv k1=>?_,fun e hB=>qE e (.inl hB)⟩
  obtain⟨mj,dv⟩:=dv
  dsimp only [iH]
  refine eZ (fun σ' H'=>∃p2,σ'=[some (.ref r),some (.int n)]∧cH R H' r x p2∧Kept r H H'∧p≤p2∧p2≤x.length∧(∀xs m v,DH (sf x p2) xs m v→Fq (sf x p) (n,xs,m) v)∧∀v,LV (sf x p2) v→Kv (sf x p) v) (fun N Qr=>?_) ?_
  ·refine⟨_,rfl,_,_,rfl,rfl,_,rfl,gZ (fun e=>?_) fun e=>?_⟩
   ·have e:1<n:=by simpa using e
    have n1:n≠1:=by omega
    refine⟨_,rfl,r,mj,_,rfl,dv,aE _ _ (by decide+kernel) (by decide+kernel),r,x,q1,32,congrArg (fun z=>[V.ref r,V.str z]) S1,⟨mj,dv⟩,ue,hx,fun iF H2 ig k2=>?_,fun iF=>(qE q1 (.inr ⟨n,_,hN, .inr (.inl ⟨n1,iF,rfl⟩)⟩) DI ue).on k1 dv⟩
    obtain⟨f1,f2⟩:=dz iF
    exact Qr _ _ ⟨q1+1,rfl,ig,k1.trans k2,by omega,f2,fun xs m v hw=>⟨_,hN, .inr ⟨n1,_,f1,hw⟩⟩,fun v hw=> .inr ⟨n,_,hN, .inr (.inr ⟨n1,_,f1,hw⟩)⟩⟩
   ·have e:¬1<n:=by simpa using e
    have n1:n=1:=by have:=hN.2.1;omega
    exact Qr _ _ ⟨q1,rfl,⟨mj,dv⟩,k1,DI,ue,fun xs m v hw=>⟨_,hN, .inl ⟨n1,hw⟩⟩,fun v hw=> .inr ⟨n,_,hN, .inl ⟨n1,hw⟩⟩⟩
  rintro σ' H2 ⟨p2,rfl,⟨jR,ig⟩,k2,P6,S2,gG,gB⟩
  refine⟨_,rfl,_,rfl,r,jR,_,rfl,ig,aE _ _ (by decide+kernel) (by decide+kernel),r,x,p2,rfl,⟨jR,ig⟩,S2,hx,fun xs m q3 f H3 hW ZD IJ nf hF fh k3=>⟨(by show 2≤sizeLine;decide),fun t ht=>?_⟩,fun e hB h1 h2=>(qE e (gB _ hB) (by omega) h2).on k2 ig⟩
  obtain⟨uc,fh⟩:=fh
  have S3:=k2.trans k3
  have st:=aF.new (o:= .tup [.int n, .ref f]) ht
  have hT:=gG _ _ _ hW
  refine q (n,xs,m) q3 t _ hT (Mj (Jb hT)) IJ (aX S3 fh ht) (fun cu ke=>⟨f,ke _ _ (aX S3 fh ht) ag,hF cu fun b o z1 z2=>ke b o (aX k2 ig z1) (st _ _ z2)⟩) ⟨uc,st _ _ fh⟩ (S3.trans (Kept.of st))
variable {HE NF TL NC TM:Addr}{uC uP uI uD uL uT mV mW mX uG uS:Tok}{Ch:Addr}
theorem eJ:(" + " :Str).cps.toList=[32,43,32]:=by decide+kernel
theorem XS:(" + " :Str).cps.all (· <128)=true:=by decide+kernel
theorem Qx:(" + " :Str).length=3:=by decide+kernel
theorem eA:(" -> " :Str).cps.toList=[32,45,62,32]:=by decide+kernel
theorem ZN:(" -> " :Str).cps.all (· <128)=true:=by decide+kernel
theorem XT:(" -> " :Str).length=4:=by decide+kernel
theorem wB(x:Str){p:Nat}(hp:p≤x.length):Txt.slice x (some ((p:Int)+1)) (some ((p:Int)+2))=e9 x (p+1):=by
 by_cases h:p+1≤x.length
 ·have:=pR x h
  have e:(((p+1 :Nat):Int))+1=(p:Int)+2:=by omega
  rw[e] at this
  exact this
 ·have ep:p=x.length:=by omega
  apply ei
  have e:Builtin.Str.strSliceIndices (some ((p:Int)+1)) (some ((p:Int)+2)) 1 x.length=Builtin.Str.strSliceIndices (some ((x.length:Nat):Int)) (some ((x.length:Nat):Int)) 1 x.length:=by
   simp only [Builtin.Str.strSliceIndices,show ((1 :Int) >0)=True from by simp,if_true]
   have h1:¬((p:Int)+1) <0:=by omega
   have h2:¬((p:Int)+2) <0:=by omega
   have h3:¬((x.length:Nat):Int) <0:=by omega
   rw[if_neg h1,if_neg h2,if_neg h3]
   congr 1<;>omega
  have h3:Txt.slice x (some ((p:Int)+1)) (some ((p:Int)+2))=Txt.slice x (some ((x.length:Nat):Int)) (some ((x.length:Nat):Int)):=by
   unfold Txt.slice
   rw[e]
  rw[h3,gR x (Nat.le_refl _) (Nat.le_refl _),Nat.sub_self,List.take_zero]
  rw[BQ]
  have:sf x (p+1)=[]:=List.drop_eq_nil_of_le (by simp [Str.length] at ep ⊢;omega)
  rw[this]
  rfl
theorem yh(x:Str)(p:Nat):(sf x p).drop 1=sf x (p+1):=by unfold sf;rw[List.drop_drop]
def jI(C G Pc Fo L:Addr)(H H':Hp)(q:Nat)(xs:List Tm):Prop:=∃ps,H' L=some (.lst (ps.map V.ref))∧ps.length≤q∧Paired (GI C G Pc Fo L H H') ps xs
def qg(NF C G Pc Fo R:Addr):Sp:=fun vs H Q E=>∃(r:Addr) (x:Str) (p:Nat),vs=[.ref r]∧cH R H r x p∧p≤x.length∧x.length≤1000∧
 (∀xs q l H',SV (sf x p) xs (sf x q)→p<q→q≤x.length→xs.length≤1000→Cu C G Pc Fo H H' l xs→cH R H' r x q→Kept r H H'→Q (.ref l) H')∧(∀e,SX (sf x p) (sf x e)→p≤e→e≤x.length→Rz NF H r E e)
def oH(NF C G Pc Fo R:Addr):Sp:=fun vs H Q E=>∃(r:Addr) (x:Str) (p:Nat),vs=[.ref r]∧cH R H r x p∧p≤x.length∧x.length≤1000∧
 (∀xs l H',vp (sf x p) xs []→xs.length≤1000→Cu C G Pc Fo H H' l xs→Kept r H H'→(∃o,H' r=some o)→Q (.ref l) H')∧(∀e,SY (sf x p) (sf x e)→p≤e→e≤x.length→Rz NF H r E e)
theorem uz:ay ["self","terms"] ["self"] (ak mM):=dN
theorem jI.done{L r:Addr}{H H':Hp}{q:Nat}{xs:List Tm}{o:HO}(h:jI C G Pc Fo L H H' q xs)(x6:H L=none)(k:Kept r H H')(hr:H r=some o):Cu C G Pc Fo H H' L xs:=by
 obtain⟨ps,h1,h2,h3⟩:=h
 exact⟨x6,ps,h1,fun cu ke=>bY (fun _ _ z=>z cu fun b o z1 _ z3=>ke b o z1 z3) h3⟩
theorem jI.len{L:Addr}{H H':Hp}{q:Nat}{xs:List Tm}(h:jI C G Pc Fo L H H' q xs):xs.length≤q:=by
 obtain⟨ps,h1,h2,h3⟩:=h
 rw[←Paired.length h3]
 exact h2
theorem jI.more{L r t:Addr}{H H' H3 H4:Hp}{q q':Nat}{xs:List Tm}{y:Tm}{o o3:HO}{ps:List Addr}(h1:H' L=some (.lst (ps.map V.ref)))(h2:ps.length≤q)(h3:Paired (GI C G Pc Fo L H H') ps xs)(x6:H L=none)(XD:H r=some o)(kk:Kept r H H')(k3:Kept r H' H3)(k4:Kept r H3 H4)(ZO:H3 r=some o3)(pf:L≠r)(hN:Mi C G Pc Fo H3 H4 t y)(hq:q<q'):
  jI C G Pc Fo L H (upd H4 L (.lst (ps.map V.ref++[V.ref t]))) q' (xs++[y])∧Kept r H (upd H4 L (.lst (ps.map V.ref++[V.ref t]))):=by
 have ZP:=kk.trans k3
 have z8:=k3 _ _ h1 pf
 have IG:=k3.trans k4
 refine⟨⟨ps++[t],by rw[ag,List.map_append];rfl,by rw[List.length_append];show ps.length+1≤q';omega,?_⟩,fun b o z w=>?_⟩
 ·refine f9 (fun cu ke=>hN cu fun b o z1 z2=>?_) (bY (fun c t h cu ke=>h cu fun b o z1 z2 z3=>ke b o z1 z2 ?_) h3)
  ·have BY:b≠L:=fun z=>by rw[z,z8] at z1;cases z1
   exact ke b o (aX ZP ZO z1) BY (by rw[ao BY];exact z2)
  ·have AD:b≠r:=fun z=>by rw[z,XD] at z1;cases z1
   rw[ao z2]
   exact IG _ _ z3 AD
 ·rw[ao (ai z x6)]
  exact IG _ _ (kk _ _ z w) w
theorem wD(D:bR K R "read_lefts" "ChangeReader.read_lefts" mM ["self"])(T:Aj K mg C R G Pc Fo Ch uK uN uB uE uM uC uP uI uD uL uT mV mW mX uG uS)(c1:a9 P w K mg base 21 R "read_term" ["self"] (oG NF C G Pc Fo R))(c2:a9 P w K mg base 4 R "take_all" ["self","signs"] (ic NF R)):
  a9 P w K mg base 22 R "read_lefts" ["self"] (qg NF C G Pc Fo R):=by
 obtain⟨_,_,aS⟩:=c1
 obtain⟨_,_,aR⟩:=c2
 refine D.g7 uz (fun vs H Q E h=>?_) (fun f bo A outer s H vs Q E hr h=>?_)
 ·obtain⟨r,x,p,rfl,_⟩:=h
  rfl
 ·obtain⟨r,x,p,rfl,⟨dx,hR⟩,hp,hx,q,qE⟩:=h
  have big:(2000 :Nat)≤sizeLine:=by decide
  refine⟨_,(aj
     (aO (i:=1) uz.nd rfl (Or.inl rfl) (cf (aa (bM (pv 0) T.aw aS.m aS.ok (hr.mono (by decide)) aS.b .nil aV) ah)))
    (aj
     (gy jQ (aJ sO (cE eR (bz (pv 0) rfl) (cq (ax bH (bz (pv 0) rfl) aq)) (cq (ax bH (bz (pv 0) rfl) aq))) (cY lr (aQ (v:= .str " -> ") rfl T.rP ⟨_,rfl⟩) aq (fun _ _=>rfl)) (aU _))
      (aj
       (bF (bE (pv 0) T.aw aR.m aR.ok (hr.mono (by decide)) aR.b .nil aV (aa (aQ (v:= .str " + ") rfl T.rO ⟨_,rfl⟩) ah)))
      (au
       (bF (eG PySem.F.plainAttrs_list PySem.F.slot_list_append PySem.F.type_list_append dW (pv 1) (aa (bM (pv 0) T.aw aS.m aS.ok (hr.mono (by decide)) aS.b .nil aV) ah))))))
    (aj
     (bF (bE (pv 0) T.aw aR.m aR.ok (hr.mono (by decide)) aR.b .nil aV (aa (aQ (v:= .str " -> ") rfl T.rP ⟨_,rfl⟩) ah)))
    (au
     (aB (pv 1)))))),?_⟩
  refine⟨_,rfl,r,dx,_,rfl,hR,aE _ _ (by decide+kernel) (by decide+kernel),r,x,p,rfl,⟨dx,hR⟩,hp,hx,fun t0 q1 a0 H1 hT DI ue ZQ hN dv k1=>⟨(by show 1≤sizeLine;decide),fun L hL=>?_⟩,fun e hB=>qE e (.inl hB)⟩
  obtain⟨mj,dv⟩:=dv
  have x6:H L=none:=aX k1 dv hL
  have pf:L≠r:=fun z=>by rw[z,dv] at hL;cases hL
  have sL:aF H1 (upd H1 L (.lst [V.ref a0])):=aF.new hL
  refine⟨fun k σ H'=>∃q' xs,k+q'=x.length∧p<q'∧vp (sf x p) xs (sf x q')∧σ=[some (.ref r),some (.ref L)]∧cH R H' r x q'∧Kept r H H'∧jI C G Pc Fo L H H' q' xs,⟨x.length - q1,q1,[t0],by omega,DI, .one t0 _ hT,rfl,⟨mj,sL _ _ dv⟩,k1.trans (Kept.of sL),[a0],ag,by show 1≤q1;omega, .cons (fun cu ke=>hN cu fun b o z1 z2=>ke b o z1 (ai z2 hL) (sL _ _ z2)) .nil⟩,?_⟩
  rintro k σ H' ⟨q',xs,hk,EV,hQ,rfl,⟨cX,cM⟩,kk,Kx⟩
  have iJ:q'≤x.length:=by omega
  refine⟨_,rfl,r,R,cX,_,_,rfl,cM,T.aw,T.jk,fI _ _,_,rfl,r,R,cX,_,_,rfl,cM,T.aw,T.bx,a8 _ _,_,_,rfl,rfl,_,rfl,_,rfl,r,R,cX,_,_,rfl,cM,T.aw,T.bx,a8 _ _,_,_,rfl,rfl,_,rfl,x,rfl,by omega," -> ",1,45,rfl,rfl,(by decide+kernel),(by decide+kernel),rfl,_,rfl,?_⟩
  rw[wB x iJ]
  by_cases lY:(sf x (q'+1)).head? =some 45
  ·have Fs:((sf x q').drop 1).head? =some 45:=by rw[yh];exact lY
   rw[decide_eq_true (dS.mpr lY)]
   refine cQ ?_
   refine⟨_,rfl,r,cX,_,rfl,cM,aE _ _ (by decide+kernel) (by decide+kernel),r,x,q'," -> ",rfl,ZN,⟨cX,cM⟩,iJ,hx,fun hs hl H3 fh k3=>?_,fun i c hc hs hn hl=>(qE (q'+i) (.inr ⟨xs,_,hQ, .inr ⟨Fs,i,c,by rw[←eA];exact hc,by rw[←eA];exact hs,hn⟩⟩) (by omega) hl).on kk cM⟩
   rw[eA,XT] at hs
   rw[XT] at hl fh
   rw[hs] at hQ
   obtain⟨ps,p1,p2,p3⟩:=Kx
   obtain⟨uc,fh⟩:=fh
   have z8:=k3 _ _ p1 pf
   refine⟨_,rfl,q xs (q'+4) L H3 hQ (by omega) hl ?_ ⟨x6,ps,z8,fun cu ke=>bY (fun _ _ z=>z cu fun b o z1 _ z3=>ke b o z1 (k3 _ _ z3 fun e=>by rw[e,hR] at z1;cases z1)) p3⟩ ⟨uc,fh⟩ (kk.trans k3)⟩
   have:=Paired.length p3
   omega
  ·have Fs:((sf x q').drop 1).head? ≠some 45:=by rw[yh];exact lY
   rw[decide_eq_false (fun z=>lY (dS.mp z))]
   refine dJ ⟨_,fun σ' cu h=>h,?_⟩
   refine⟨_,rfl,r,cX,_,rfl,cM,aE _ _ (by decide+kernel) (by decide+kernel),r,x,q'," + ",rfl,XS,⟨cX,cM⟩,iJ,hx,fun hs hl H3 fh k3=>?_,fun i c hc hs hn hl=>(qE (q'+i) (.inr ⟨xs,_,hQ, .inl ⟨Fs, .inl ⟨i,c,by rw[←eJ];exact hc,by rw[←eJ];exact hs,hn⟩⟩⟩) (by omega) hl).on kk cM⟩
   rw[eJ,Qx] at hs
   rw[Qx] at hl fh
   have HP:sf x q'=32::43::32::sf x (q'+3):=hs
   obtain⟨ps,p1,p2,p3⟩:=Kx
   obtain⟨uc,fh⟩:=fh
   have z8:=k3 _ _ p1 pf
   refine⟨_,rfl, .inl ⟨rfl,_,cL.of z8⟩,_,rfl,r,uc,_,rfl,fh,aE _ _ (by decide+kernel) (by decide+kernel),r,x,q'+3,rfl,⟨uc,fh⟩,hl,hx,fun t4 q4 a4 H4 S4 Sf BX ZR LX pe k4=>?_,fun e hB h1 h2=>(qE e (.inr ⟨xs,_,hQ, .inl ⟨Fs, .inr ⟨_,HP,hB⟩⟩⟩) (by omega) h2).on (kk.trans k3) fh⟩
   obtain⟨GA,pe⟩:=pe
   have AE:=k4 _ _ z8 pf
   obtain⟨m1,m2⟩:=jI.more (q':=q4) p1 p2 p3 x6 hR kk k3 k4 fh pf LX (by omega)
   refine⟨L,_,_,rfl,rfl,AE,by rw[List.length_map];omega,x.length - q4,by omega,q4,xs++[t4],by omega,by omega, .snoc xs _ t4 _ (by rw[←HP];exact hQ) S4,rfl,⟨GA,by rw[ao (Ne.symm pf)];exact pe⟩,m2,m1⟩
theorem qh:ay ["self","terms"] ["self"] (ak kz):=dN
theorem uA(D:bR K R "read_rights" "ChangeReader.read_rights" kz ["self"])(T:Aj K mg C R G Pc Fo Ch uK uN uB uE uM uC uP uI uD uL uT mV mW mX uG uS)(c1:a9 P w K mg base 21 R "read_term" ["self"] (oG NF C G Pc Fo R))(c2:a9 P w K mg base 4 R "take_all" ["self","signs"] (ic NF R)):
  a9 P w K mg base 22 R "read_rights" ["self"] (oH NF C G Pc Fo R):=by
 obtain⟨_,_,aS⟩:=c1
 obtain⟨_,_,aR⟩:=c2
 refine D.g7 qh (fun vs H Q E h=>?_) (fun f bo A outer s H vs Q E hr h=>?_)
 ·obtain⟨r,x,p,rfl,_⟩:=h
  rfl
 ·obtain⟨r,x,p,rfl,⟨dx,hR⟩,hp,hx,q,qE⟩:=h
  have big:(2000 :Nat)≤sizeLine:=by decide
  refine⟨_,(aj
     (aO (i:=1) qh.nd rfl (Or.inl rfl) (cf (aa (bM (pv 0) T.aw aS.m aS.ok (hr.mono (by decide)) aS.b .nil aV) ah)))
    (aj
     (gy jQ (aJ xt (bz (pv 0) rfl) (bb b4 rfl T.f7 dX (aa (bz (pv 0) rfl) ah)) (aU _))
      (aj
       (bF (bE (pv 0) T.aw aR.m aR.ok (hr.mono (by decide)) aR.b .nil aV (aa (aQ (v:= .str " + ") rfl T.rO ⟨_,rfl⟩) ah)))
      (au
       (bF (eG PySem.F.plainAttrs_list PySem.F.slot_list_append PySem.F.type_list_append dW (pv 1) (aa (bM (pv 0) T.aw aS.m aS.ok (hr.mono (by decide)) aS.b .nil aV) ah))))))
    (au
     (aB (pv 1))))),?_⟩
  refine⟨_,rfl,r,dx,_,rfl,hR,aE _ _ (by decide+kernel) (by decide+kernel),r,x,p,rfl,⟨dx,hR⟩,hp,hx,fun t0 q1 a0 H1 hT DI ue ZQ hN dv k1=>⟨(by show 1≤sizeLine;decide),fun L hL=>?_⟩,fun e hB=>qE e (.inl hB)⟩
  obtain⟨mj,dv⟩:=dv
  have x6:H L=none:=aX k1 dv hL
  have pf:L≠r:=fun z=>by rw[z,dv] at hL;cases hL
  have sL:aF H1 (upd H1 L (.lst [V.ref a0])):=aF.new hL
  refine⟨fun k σ H'=>∃q' xs,k+q'=x.length∧p<q'∧vp (sf x p) xs (sf x q')∧σ=[some (.ref r),some (.ref L)]∧cH R H' r x q'∧Kept r H H'∧jI C G Pc Fo L H H' q' xs,⟨x.length - q1,q1,[t0],by omega,DI, .one t0 _ hT,rfl,⟨mj,sL _ _ dv⟩,k1.trans (Kept.of sL),[a0],ag,by show 1≤q1;omega, .cons (fun cu ke=>hN cu fun b o z1 z2=>ke b o z1 (ai z2 hL) (sL _ _ z2)) .nil⟩,?_⟩
  rintro k σ H' ⟨q',xs,hk,EV,hQ,rfl,⟨cX,cM⟩,kk,Kx⟩
  have iJ:q'≤x.length:=by omega
  refine⟨_,rfl,r,R,cX,_,_,rfl,cM,T.aw,T.bx,a8 _ _,_,rfl,r,R,cX,_,_,rfl,cM,T.aw,T.jk,fI _ _,x,rfl,by omega,_,_,rfl,rfl,_,rfl,?_⟩
  by_cases vA:q'<x.length
  ·have jc:sf x q'≠[]:=fun z=>by
    have:=iX x q'
    rw[z] at this
    simp at this
    omega
   refine eI (by omega) ⟨_,fun σ' cu h=>h,?_⟩
   refine⟨_,rfl,r,cX,_,rfl,cM,aE _ _ (by decide+kernel) (by decide+kernel),r,x,q'," + ",rfl,XS,⟨cX,cM⟩,iJ,hx,fun hs hl H3 fh k3=>?_,fun i c hc hs hn hl=>(qE (q'+i) (.inr ⟨xs,_,hQ,jc, .inl ⟨i,c,by rw[←eJ];exact hc,by rw[←eJ];exact hs,hn⟩⟩) (by omega) hl).on kk cM⟩
   rw[eJ,Qx] at hs
   rw[Qx] at hl fh
   have HP:sf x q'=32::43::32::sf x (q'+3):=hs
   obtain⟨ps,p1,p2,p3⟩:=Kx
   obtain⟨uc,fh⟩:=fh
   have z8:=k3 _ _ p1 pf
   refine⟨_,rfl, .inl ⟨rfl,_,cL.of z8⟩,_,rfl,r,uc,_,rfl,fh,aE _ _ (by decide+kernel) (by decide+kernel),r,x,q'+3,rfl,⟨uc,fh⟩,hl,hx,fun t4 q4 a4 H4 S4 Sf BX ZR LX pe k4=>?_,fun e hB h1 h2=>(qE e (.inr ⟨xs,_,hQ,jc, .inr ⟨_,HP,hB⟩⟩) (by omega) h2).on (kk.trans k3) fh⟩
   obtain⟨GA,pe⟩:=pe
   have AE:=k4 _ _ z8 pf
   obtain⟨m1,m2⟩:=jI.more (q':=q4) p1 p2 p3 x6 hR kk k3 k4 fh pf LX (by omega)
   refine⟨L,_,_,rfl,rfl,AE,by rw[List.length_map];omega,x.length - q4,by omega,q4,xs++[t4],by omega,by omega, .snoc xs _ t4 _ (by rw[←HP];exact hQ) S4,rfl,⟨GA,by rw[ao (Ne.symm pf)];exact pe⟩,m2,m1⟩
  ·refine dR (by omega) ?_
   have S6:sf x q'=[]:=List.drop_eq_nil_of_le (by simp [Str.length] at vA ⊢;omega)
   rw[S6] at hQ
   have:=Kx.len
   exact⟨_,rfl,q xs L H' hQ (by omega) (Kx.done x6 kk hR) kk ⟨_,cM⟩⟩
variable {HE NF TL NC TM:Addr}{uC uP uI uD uL uT mV mW mX uG uS:Tok}{Ch:Addr}
def Ml(C G Pc Fo Ch:Addr)(H H':Hp)(c:Addr)(xs ys:List Tm):Prop:=∀cu,(∀b o,H b=none→H' b=some o→cu b=some o)→oF C G Pc Fo Ch cu c xs ys
def qi(NF C G Pc Fo Ch R:Addr):Sp:=fun vs H Q E=>∃(r:Addr) (x:Str),vs=[.ref r]∧cH R H r x 0∧x.length≤1000∧
 (∀xs ys c H',Kw x.cps.toList xs ys→xs.length≤1000→ys.length≤1000→H c=none→Ml C G Pc Fo Ch H H' c xs ys→Kept r H H'→Q (.ref c) H')∧(∀e,S0 x.cps.toList (sf x e)→e≤x.length→Rz NF H r E e)
theorem uF:ay ["self","lefts"] ["self"] (ak mN):=dN
theorem wF(D:bR K R "read_sides" "ChangeReader.read_sides" mN ["self"])(T:Aj K mg C R G Pc Fo Ch uK uN uB uE uM uC uP uI uD uL uT mV mW mX uG uS)(c1:a9 P w K mg base 22 R "read_lefts" ["self"] (qg NF C G Pc Fo R))(c2:a9 P w K mg base 22 R "read_rights" ["self"] (oH NF C G Pc Fo R))(c3:fD P w K mg base 1 Ch ["self","lefts","rights"] [] (yd Ch)):
  a9 P w K mg base 23 R "read_sides" ["self"] (qi NF C G Pc Fo Ch R):=by
 obtain⟨_,_,dj⟩:=c1
 obtain⟨_,_,cT⟩:=c2
 obtain⟨_,_,cI⟩:=c3
 obtain⟨_,wG,wH⟩:=cI.b 0 (by decide)
 refine D.g7 uF (fun vs H Q E h=>?_) (fun f bo A outer s H vs Q E hr h=>?_)
 ·obtain⟨r,x,rfl,_⟩:=h
  rfl
 ·obtain⟨r,x,rfl,⟨dx,hR⟩,hx,q,qE⟩:=h
  refine⟨_,(aj
     (aO (i:=1) uF.nd rfl (Or.inl rfl) (bM (pv 0) T.aw dj.m dj.ok (hr.mono (by decide)) dj.b .nil aV))
    (au
     (aB (fU cI.m cI.ok (hr.mono (by decide)) rfl T.Cm wH wG aP (aa (pv 1) (aa (bM (pv 0) T.aw cT.m cT.ok (hr.mono (by decide)) cT.b .nil aV) ah)))))),?_⟩
  refine⟨_,rfl,r,dx,_,rfl,hR,aE _ _ (by decide+kernel) (by decide+kernel),r,x,0,rfl,⟨dx,hR⟩,Nat.zero_le _,hx,fun xs q1 l H1 hG DI ue lx ZS dv k1=>?_,fun e hB _ he=>qE e (.inl hB) he⟩
  obtain⟨mj,dv⟩:=dv
  refine⟨_,rfl,_,rfl,r,mj,_,rfl,dv,aE _ _ (by decide+kernel) (by decide+kernel),r,x,q1,rfl,⟨mj,dv⟩,ue,hx,fun ys m H2 ZT ly ZU k2 ig=>?_,fun e hB _ he=>(qE e (.inr ⟨xs,_,hG,hB⟩) he).on k1 dv⟩
  obtain⟨o2,ig⟩:=ig
  obtain⟨Sl,ps,xA,Ei⟩:=ZS
  obtain⟨SS,us,Mn,LC⟩:=ZU
  have S7:l≠r:=fun z=>by rw[z,hR] at Sl;cases Sl
  have DD:=k2 _ _ xA S7
  have XU:=k1.trans k2
  refine fun c dc nc S9 nec=>⟨c,dc,l,m,ps.map V.ref,us.map V.ref,rfl,ag,?_,?_,fun n1 n2 H3 ZV Gh Xs ZW S' Ta kp=>⟨rfl,?_⟩⟩
  ·rw[ao (ai DD nc),ao (ai DD S9)];exact DD
  ·rw[ao (ai Mn nc),ao (ai Mn S9)];exact Mn
  have s3:aF H2 H3:=fun b o z=>kp b o (by rw[ao (ai z nc),ao (ai z S9)];exact z) (ai z nc)
  have back:∀b,H2 b=none→H b=none:=fun b z=>aX XU ig z
  refine q xs ys c H3 ⟨_,hG,ZT⟩ lx ly (back c nc) (fun cu ke=>⟨dc,n1,n2,ke _ _ (back c nc) ZW,⟨ps,ke _ _ (back n1 (d8 ZV)) S',Ei cu fun b o z1 z2=>?_⟩,⟨us,ke _ _ (back n2 (d8 Gh)) Ta,LC cu fun b o z1 z2=>?_⟩⟩) (XU.trans (Kept.of s3))
  ·have AD:b≠r:=fun z=>by rw[z,hR] at z1;cases z1
   exact ke b o z1 (s3 _ _ (k2 _ _ z2 AD))
  ·exact ke b o (aX k1 dv z1) (s3 _ _ z2)
structure GJ(K:PySem.W.Frag)(mg:Str→Option Value)(C R G Pc Fo Ch HE NF TL NC TM:Addr)(uK uN uB uE uM uC uP uI uD uL uT mV mW mX uG uS:Tok):Prop extends Aj K mg C R G Pc Fo Ch uK uN uB uE uM uC uP uI uD uL uT mV mW mX uG uS,ug K mg HE NF TL NC TM
def oI(TL NC TM C G Pc Fo Ch:Addr):Sp:=fun vs H Q E=>∃x:Str,vs=[.str x]∧x.length≤10000∧
 (x.length≤400→∀xs ys c H',Kw x.cps.toList xs ys→xs.length+ys.length≤8→H c=none→Ml C G Pc Fo Ch H H' c xs ys→aF H H'→Q (.ref c) H')∧
 (x.length≤400→∀xs ys,Kw x.cps.toList xs ys→8<xs.length+ys.length→Rf TM "many" H E (xs.length+ys.length))∧
 (x.length≤400→∀e,S0 x.cps.toList (sf x e)→e≤x.length→Rf NC "place" H E e)∧(400<x.length→Rf TL "many" H E x.length)
theorem jv:ay ["text","change","e","many"] ["text"] (ak kA):=dN
theorem uH(D:Def K mg "read_change" "read_change" kA ["text"])(T:GJ K mg C R G Pc Fo Ch HE NF TL NC TM uK uN uB uE uM uC uP uI uD uL uT mV mW mX uG uS)(c1:tM P w K mg base 3 "refuse_too_long" ["text"] (oy TL))(c2:fD P w K mg base 1 R ["self","text"] [] (xY R))(c3:a9 P w K mg base 23 R "read_sides" ["self"] (qi NF C G Pc Fo Ch R))
  (c4:vS P w K mg base 1 "NoChange" NC HE ["self","place"] (iY NC "place")) (c5:gi P w K mg base 1 "TooMany" TM HE ["self","many"] (iY TM "many")) (c6:gi P w K mg base 1 "NoFormula" NF HE ["self","place"] (iY NF "place")):
  tM P w K mg base 24 "read_change" ["text"] (oI TL NC TM C G Pc Fo Ch):=by
 obtain⟨_,_,cN⟩:=c1
 obtain⟨_,_,fJ⟩:=c2
 obtain⟨_,_,dk⟩:=c3
 obtain⟨fc,_,eh⟩:=c4
 obtain⟨_,_,fA⟩:=c5
 obtain⟨fn,_,aI⟩:=c6
 obtain⟨_,lM,lN⟩:=fJ.b 0 (by decide)
 refine D.g7 jv (fun vs H Q E h=>?_) (fun f bo A outer s H vs Q E hr h=>?_)
 ·obtain⟨x,rfl,_⟩:=h
  rfl
 ·obtain⟨x,rfl,hx,q,qM,qE,qL⟩:=h
  have big:(10000 :Nat)≤sizeLine:=by decide
  refine⟨_,(aj
     (bF (tI cN.ok (hr.mono (by decide)) rfl cN.g cN.kp cN.b .nil aV (aa (pv 0) ah)))
    (aj
     (xH ⟨rfl,rfl⟩ (fun _ _=>
      (au
       (aO (i:=1) jv.nd rfl (Or.inl rfl) (bM (fU fJ.m fJ.ok (hr.mono (by decide)) rfl T.oh lN lM aP (aa (pv 0) ah)) T.aw dk.m dk.ok (hr.mono (by decide)) dk.b .nil nS)))) (fun _=>(Ez K rfl ⟨rfl,rfl⟩ (tK aV) (i:=2) rfl T.lX T.rG jv.nd rfl rfl (fun _=>
      (au
       (vT K rfl rfl nS (BD rfl eh.z eh.ok (hr.mono (by decide)) rfl eh.g eh.kp eh.b (aa (BC K rfl (pv 2) rfl) ah))))) (Bx (tK aV)))))
    (aj
     (aO (i:=3) jv.nd rfl (Or.inl rfl) (ax bH (bb eX rfl T.f7 dX (aa (bz (pv 1) rfl) ah)) (bb eX rfl T.f7 dX (aa (bz (pv 1) rfl) ah))))
    (aj
     (bB (aJ fT (pv 3) (aQ (v:= .int 8) rfl T.rS ⟨_,rfl⟩) (aU _))
      (au
       (gO rfl aV (gN fA.z fA.ok (hr.mono (by decide)) rfl fA.g fA.kp fA.b (aa (pv 3) ah))))
      aY)
    (au
     (aB (pv 1))))))),?_⟩
  refine⟨_,rfl,x,rfl,hx,fun h4=>?_,qL⟩
  have q:=q h4
  have qM:=qM h4
  have qE:=qE h4
  refine⟨_,rfl,fun r dr nr ZY ner=>⟨r,dr,x,rfl,ag,fun H1 dv k1=>⟨rfl,?_⟩⟩⟩
  obtain⟨mj,dv⟩:=dv
  have s1:aF H H1:=fun b o z=>k1 b o (by rw[ao (ai z nr),ao (ai z ZY)];exact z) (ai z nr)
  have back:∀b,H1 b=none→H b=none:=fun b z=>by
   cases hh:H b with
   |none=>rfl
   |some o=>rw[s1 _ _ hh] at z;cases z
  refine⟨r,mj,_,rfl,dv,aE _ _ (by decide+kernel) (by decide+kernel),r,x,rfl,⟨mj,dv⟩,by omega,fun xs ys c H2 hG lx ly nc hC k2=>?_,fun e hB he b XW H2 nb nd DF hd2 k2=>?_⟩
  ·have ZZ:=hC H2 fun b o _ z=>z
   obtain⟨dc,l,m,hc,⟨ps,hl,hP⟩,⟨us,hm,hU⟩⟩:=ZZ
   have e1:=Paired.length hP
   have e2:=Paired.length hU
   have s2:aF H H2:=fun b o z=>k2 b o (s1 _ _ z) (ai z nr)
   dsimp only [iH]
   refine⟨_,rfl,c,Ch,dc,_,_,rfl,hc,T.cI,T.oE,l8 _ _,l,_,rfl, .inl (cL.of hl),_,rfl,c,Ch,dc,_,_,rfl,hc,T.cI,T.lL,kS _ _,m,_,rfl, .inl (cL.of hm),_,_,rfl,rfl,?_⟩
   rw[List.length_map,List.length_map,e1,e2]
   by_cases h8:8<xs.length+ys.length
   ·refine⟨_,rfl,_,_,rfl,rfl,_,rfl,eI (by omega) ⟨_,rfl,(by show 1≤100;decide),fun b hb=>?_⟩⟩
    refine⟨b,_,rfl,ag,by omega,by omega,fun jR H5 iE jm zW vm k5=>⟨rfl,b,TM,HE,_,some jR,rfl,fA.z,zW,?_⟩⟩
    rw[ao jm] at iE
    have ec:((xs.length:Nat):Int)+((ys.length:Nat):Int)=((xs.length+ys.length:Nat):Int):=by omega
    rw[ec] at vm
    refine qM xs ys hG h8 b jR _ (s2.free hb) (s2.free iE) ag (by rw[ao jm];exact vm) fun b' o z=>?_
    have v7:b'≠b:=ai (s2 _ _ z) hb
    rw[ao v7]
    exact k5 _ _ (by rw[ao v7];exact s2 _ _ z) v7
   ·refine⟨_,rfl,_,_,rfl,rfl,_,rfl,dR (by omega) ?_⟩
    exact⟨_,rfl,q xs ys c H2 hG (by omega) (back c nc) (fun cu ke=>hC cu fun b o z1 z2=>ke b o (back b z1) z2) s2⟩
  ·have s2:aF H H2:=fun b o z=>k2 b o (s1 _ _ z) (ai z nr)
   refine⟨NF,HE,fn,true,rfl,aI.z,T.up,dJ fun e' tE=>?_⟩
   refine⟨_,rfl,e',NF,HE,fn,XW,_, .int (e:Int),rfl,aI.z,T.EY,tE,hd2,rfl,(by show 1≤100;decide),fun b2 Ft=>?_⟩
   have ne2:b2≠e':=fun z=>by rw[z,tE] at Ft;cases Ft
   refine⟨b2,(e:Int),rfl,ag,by omega,by omega,fun jR H5 iE jm zW vm k5=>⟨rfl,b2,NC,HE,fc,some jR,NF,some XW,rfl,eh.z,zW,T.lt,ne2,k5 _ _ (by rw[ao (Ne.symm ne2)];exact tE) (Ne.symm ne2),T.nl,?_⟩⟩
   rw[ao jm] at iE
   refine qE e hB he b2 jR _ (s2.free Ft) (s2.free iE) ag (by rw[ao jm];exact vm) fun b' o z=>?_
   have v7:b'≠b2:=ai (s2 _ _ z) Ft
   rw[ao v7]
   exact k5 _ _ (by rw[ao v7];exact s2 _ _ z) v7
variable {κ:List Nat→Option (List Nat)}
inductive Nm where
 |start|AH|part|dot|fK|minus|bw|stop
 deriving DecidableEq
structure S8 where
 nm:Nm
 sm:Nat
 fg:Nat
 al:Bool
def Cw(s:S8)(dp c:Nat):Option (S8×Nat):=if s.fg=3∨s.fg=0∧c=48 then none else some (⟨s.nm,0,s.fg+1,decide (s.fg=0)&&decide (c=49)⟩,dp)
def Cy(s:S8)(dp c:Nat):Option (S8×Nat):=if gS c=true then some (⟨.part,2,0,false⟩,dp) else if s.nm= .start∧c=101 then some (⟨.fK,0,0,false⟩,dp) else if s.nm= .part∧0<s.sm∧s.fg=0 then some (⟨.part,s.sm - 1,0,false⟩,dp) else none
def rT(m:Nm):Nat:=if m= .fK then 94 else if m= .minus then 45 else 43
def fB(s:S8)(dp c:Nat):Option (S8×Nat):=
 if bK c=true∧(s.nm= .part∨s.nm= .dot∨s.nm= .bw) then Cw s dp c
 else if s.al=true∨s.nm= .stop then none
 else if s.nm= .fK∨s.nm= .minus∨s.nm= .bw then (if c=rT s.nm∨s.nm= .bw∧c=45 then some (⟨if s.nm= .fK then .minus else .stop,0,0,false⟩,dp) else none)
 else if gS c=true∨gk c=true then Cy s dp c
 else if c=40∧dp<4 then some (⟨.AH,0,0,false⟩,dp+1)
 else if s.nm= .part∧c=41∧0<dp then some (⟨.part,0,0,false⟩,dp - 1)
 else if s.nm= .part∧(c=46∨c=94)∧dp=0 then some (⟨if c=46 then .dot else .bw,0,0,false⟩,dp)
 else none
def iq(s:S8)(dp:Nat):Prop:=s.nm= .stop∨s.nm= .part∧dp=0∧s.al=false
instance (s:S8) (dp:Nat):Decidable (iq s dp):=by unfold iq;infer_instance
def vd(κ:List Nat→Option (List Nat)):S8→Nat→List Nat→Option (List Nat)
 |s,dp,[]=>if iq s dp then κ [] else some []
 |s,dp,c::r=>if c=32∧iq s dp then κ (c::r) else match fB s dp c with
  |none=>some (c::r)
  |some (s',d')=>vd κ s' d' r
theorem wI(s:S8)(dp:Nat):fB s dp 32=none:=by
 unfold fB
 rw[if_neg (fun z=>by cases z.1)]
 split
 ·rfl
 ·split
  ·rename_i h
   have:¬(32=rT s.nm∨s.nm= .bw∧32=45):=by
    rintro (z| ⟨_,z⟩)
    ·unfold rT at z
     split at z
     ·cases z
     ·split at z<;>cases z
    ·cases z
   rw[if_neg this]
  ·rw[if_neg (by decide),if_neg (fun z=>by cases z.1),if_neg (fun z=>by cases z.2.1),if_neg (fun z=>by rcases z.2.1 with y|y<;>cases y)]
theorem oJ{s:S8}{dp c:Nat}{r:List Nat}(h:fB s dp c=none)(iF:c=32→¬iq s dp):vd κ s dp (c::r)=some (c::r):=by rw[vd,if_neg (fun z=>iF z.1 z.2),h]
theorem dU{s s':S8}{dp d' c:Nat}{r:List Nat}(h:fB s dp c=some (s',d')):vd κ s dp (c::r)=vd κ s' d' r:=by
 rw[vd,if_neg (fun z=>by rw[z.1,wI] at h;cases h),h]
theorem rV{s:S8}{dp:Nat}(h:¬iq s dp):vd κ s dp []=some []:=by rw[vd,if_neg h]
theorem oK{s:S8}{dp:Nat}(h1:s.nm≠ .stop)(h2:s.nm≠ .part∨s.al=true∨dp≠0):¬iq s dp:=by
 rintro (z| ⟨z1,z2,z3⟩)
 ·exact h1 z
 ·rcases h2 with y|y|y
  ·exact y z1
  ·rw[y] at z3;cases z3
  ·exact y z2
theorem fM{c:Nat}(h:bK c=true):gS c=false∧gk c=false∧c≠40∧c≠41∧c≠46∧c≠94∧c≠45∧c≠43∧c≠101:=by
 simp only [bK,gS,gk,Bool.and_eq_true,decide_eq_true_eq,Bool.and_eq_false_iff,decide_eq_false_iff_not] at*
 omega
theorem Mo{c:Nat}(h:gS c=true):bK c=false∧gk c=false∧c≠40:=by
 simp only [bK,gS,gk,Bool.and_eq_true,decide_eq_true_eq,Bool.and_eq_false_iff,decide_eq_false_iff_not] at*
 omega
theorem Cz{c:Nat}(h:gk c=true):bK c=false∧gS c=false∧c≠40:=by
 simp only [bK,gS,gk,Bool.and_eq_true,decide_eq_true_eq,Bool.and_eq_false_iff,decide_eq_false_iff_not] at*
 omega
theorem Fu{s:S8}{dp:Nat}(hn:s.nm= .part∨s.nm= .dot∨s.nm= .bw):∀(w v:List Nat),w.all bK=true→s.fg+w.length≤3→(s.fg=0→w.head? ≠some 48)→w≠[]→
  vd κ s dp (w++v)=vd κ ⟨s.nm,0,s.fg+w.length,decide (s.fg=0)&&decide (w=[49])⟩ dp v:=by
 intro w
 induction w generalizing s with
 |nil=>intro _ _ _ _ h;exact absurd rfl h
 |cons c r ih=>
  intro v ha hl h0 _
  rw[List.all_cons,Bool.and_eq_true] at ha
  rw[List.length_cons] at hl
  have e:fB s dp c=some (⟨s.nm,0,s.fg+1,decide (s.fg=0)&&decide (c=49)⟩,dp):=by
   unfold fB Cw
   rw[if_pos ⟨ha.1,hn⟩,if_neg]
   rintro (z| ⟨z1,z2⟩)
   ·omega
   ·exact h0 z1 (by rw[z2];rfl)
  rw[List.cons_append,dU e]
  cases r with
  |nil=>
   have:(decide ([c]=[49]):Bool)=decide (c=49):=by simp
   rw[this]
   rfl
  |cons b t=>
   rw[ih (s:=⟨s.nm,0,s.fg+1,decide (s.fg=0)&&decide (c=49)⟩) hn v ha.2 (by show s.fg+1+(b::t).length≤3;omega) (fun z=>absurd z (Nat.succ_ne_zero _)) (by simp)]
   show vd κ ⟨s.nm,0,s.fg+1+(b::t).length,decide (s.fg+1=0)&&_⟩ dp v=_
   have e1:(decide (s.fg+1=0):Bool)=false:=by simp
   have e2:(decide (c::b::t=[49]):Bool)=false:=by simp
   rw[e1,e2,Bool.and_false,Bool.false_and,List.length_cons (a:=c)]
   rw[show s.fg+1+(b::t).length=s.fg+((b::t).length+1) by omega]
def Tb(s:S8)(v:List Nat):Prop:=∀c,v.head? =some c→bK c=true→s.fg=3
theorem lO{s:S8}{dp:Nat}(hn:s.nm= .part∨s.nm= .dot∨s.nm= .bw)(hf:s.fg=0)(ha:s.al=false){u v:List Nat}{n:Int}(h:jA 3 u n v):∃s',vd κ s dp u=vd κ s' dp v∧s'.nm=s.nm∧s'.al=false∧Tb s' v∧(s'=s∧u=v∨s'.fg≠0):=by
 obtain⟨e,n1,n2,hl,hv⟩:=h
 obtain⟨m,rfl,m1,m0⟩:=kJ n1 (by omega)
 by_cases hw:bc (m:Int)=[]
 ·rw[hw] at e hl hv
  refine⟨s,by rw[e];rfl,rfl,ha,fun c hc hF=>?_, .inl ⟨rfl,e⟩⟩
  rcases hv with z|z
  ·rw[z c hc] at hF;cases hF
  ·cases z
 ·have Mp:=mT m
  have e2:=Fu (κ:=κ) (s:=s) (dp:=dp) hn (bc (m:Int)) v (eo m) (by omega) (fun _=>kI m m0) hw
  refine⟨⟨s.nm,0,s.fg+(bc (m:Int)).length,false⟩,?_,rfl,rfl,fun c hc hF=>?_, .inr ?_⟩
  ·rw[e,e2]
   have:(decide (bc (m:Int)=[49]):Bool)=false:=by simpa using Mp
   rw[this,Bool.and_false]
  ·rcases hv with z|z
   ·rw[z c hc] at hF;cases hF
   ·show s.fg+(bc (m:Int)).length=3
    omega
  ·show s.fg+(bc (m:Int)).length≠0
   have:(bc (m:Int)).length≠0:=fun z=>hw (List.length_eq_zero_iff.mp z)
   omega
theorem m4{s:S8}{dp:Nat}(hn:s.nm= .part∨s.nm= .dot∨s.nm= .bw)(hf:s.fg=0){u v:List Nat}(h:rE u v):vd κ s dp u=some v:=by
 rcases h with ⟨rfl,h⟩ | ⟨rfl,h⟩
 ·cases v with
  |nil=>cases h
  |cons c r=>
   have:c=48:=by simpa using h
   subst this
   refine oJ ?_ (fun z=>by cases z)
   unfold fB Cw
   rw[if_pos ⟨rfl,hn⟩,if_pos (.inr ⟨hf,rfl⟩)]
 ·have e:fB s dp 49=some (⟨s.nm,0,1,true⟩,dp):=by
   unfold fB Cw
   rw[if_pos ⟨rfl,hn⟩,if_neg (by rw[hf];decide),hf]
   rfl
  rw[dU e]
  cases v with
  |nil=>
   refine rV ?_
   rintro (z| ⟨_,_,z⟩)
   ·rcases hn with n|n|n<;>(have z:s.nm= .stop:=z;rw[n] at z;cases z)
   ·cases z
  |cons c r=>
   refine oJ ?_ (fun _=>oK (by show s.nm≠ .stop;rcases hn with n|n|n<;>(rw[n];decide)) (.inr (.inl rfl)))
   unfold fB
   rw[if_neg (fun z=>by rw[h c rfl] at z;cases z.1),if_pos (.inl rfl)]
def AI(s:S8)(v:List Nat):Prop:=s.nm= .part∧s.al=false∧Tb s v∧∀c,v.head? =some c→gk c=true→s.sm=0∨s.fg≠0
def iB(s:S8)(u:List Nat):Prop:=s.al=false∧(s.nm= .start∧u.head? ≠some 101∨s.nm= .AH∨s.nm= .dot∧Tb s u∨s.nm= .part∧More u)
theorem iB.nm{s:S8}{u:List Nat}(h:iB s u):s.nm≠ .stop∧s.nm≠ .fK∧s.nm≠ .minus∧s.nm≠ .bw:=by
 rcases h.2 with z|z|z|z
 ·rw[z.1];decide
 ·rw[z];decide
 ·rw[z.1];decide
 ·rw[z.1];decide
theorem Al{s:S8}{dp c:Nat}{r:List Nat}(h:iB s (c::r))(hg:gS c=true):fB s dp c=some (⟨.part,2,0,false⟩,dp):=by
 obtain⟨n1,n2,n3,n4⟩:=h.nm
 have ha:=h.1
 unfold fB Cy
 rw[if_neg (fun z=>by rw[(Mo hg).1] at z;cases z.1),if_neg (fun z=>by rcases z with z|z;rw[ha] at z;cases z;exact n1 z),if_neg (fun z=>by rcases z with z|z|z;exact n2 z;exact n3 z;exact n4 z),if_pos (.inl hg),if_pos hg]
theorem Am{sm dp c:Nat}(h:gk c=true):fB ⟨.part,sm+1,0,false⟩ dp c=some (⟨.part,sm,0,false⟩,dp):=by
 unfold fB Cy
 rw[if_neg (fun z=>by rw[(Cz h).1] at z;cases z.1),if_neg (by simp),if_neg (by simp),if_pos (.inr h),if_neg (by rw[(Cz h).2.1];simp),if_neg (by simp),if_pos ⟨rfl,Nat.succ_pos _,rfl⟩]
 rfl
theorem qj:∀(w v:List Nat) (sm dp:Nat),w.all gk=true→vd κ ⟨.part,sm+w.length,0,false⟩ dp (w++v)=vd κ ⟨.part,sm,0,false⟩ dp v
 | [],v,sm,dp,_=>rfl
 |c::r,v,sm,dp,h=>by
  rw[List.all_cons,Bool.and_eq_true] at h
  rw[List.length_cons,←Nat.add_assoc,List.cons_append,dU (Am h.1),qj r v sm dp h.2]
theorem yi{s:S8}{dp:Nat}{k w:List Nat}(h:iB s (k++w))(hk:rn k):vd κ s dp (k++w)=vd κ ⟨.part,3 - k.length,0,false⟩ dp w:=by
 obtain⟨c,r,rfl,hg,hs,hl⟩:=hk
 rw[List.cons_append] at h ⊢
 rw[dU (Al h hg)]
 have:=qj (κ:=κ) r w (2 - r.length) dp hs
 rw[show 2 - r.length+r.length=2 by omega] at this
 rw[this,List.length_cons]
 rw[show 3 - (r.length+1)=2 - r.length by omega]
theorem uJ{s:S8}{dp:Nat}{u k v:List Nat}{n:Int}(h:iB s u)(a:jG u k n v):∃s',vd κ s dp u=vd κ s' dp v∧AI s' v:=by
 obtain⟨w,rfl,hk,hs,hN⟩:=a
 rw[yi h hk]
 obtain⟨s',e,h1,h2,h3,h4⟩:=lO (κ:=κ) (s:=⟨.part,3 - k.length,0,false⟩) (dp:=dp) (.inl rfl) rfl rfl hN
 refine⟨s',e,h1,h2,h3,fun c hc hS=>?_⟩
 rcases h4 with ⟨rfl,rfl⟩ |z
 ·rcases hs with z|z
  ·left
   show 3 - k.length=0
   omega
  ·rw[z c hc] at hS;cases hS
 ·exact .inr z
theorem uO{s:S8}{dp:Nat}{u v:List Nat}(h:iB s u)(h4:dp=4∨u.head? ≠some 40)(a:x4 u v):vd κ s dp u=some v:=by
 rcases a with ⟨rfl,a⟩ | ⟨k,w,rfl,hk,hs,hN⟩
 ·obtain⟨n1,n2,n3,n4⟩:=h.nm
  have ha:=h.1
  cases v with
  |nil=>
   refine rV ?_
   rintro (z| ⟨z,_⟩)
   ·exact n1 z
   ·rcases h.2 with y|y|y|y
    ·rw[y.1] at z;cases z
    ·rw[y] at z;cases z
    ·rw[y.1] at z;cases z
    ·obtain⟨c,hc,_⟩:=y.2;cases hc
  |cons c r=>
   refine oJ ?_ (fun iF=>oK n1 ?_)
   rotate_left
   ·rcases h.2 with y|y|y|y
    ·exact .inl (by rw[y.1];decide)
    ·exact .inl (by rw[y];decide)
    ·exact .inl (by rw[y.1];decide)
    ·obtain⟨b,hb,vh⟩:=y.2
     have:c=b:=by simpa using hb
     subst this
     subst iF
     rcases vh with z|z<;>cases z
   have hg:gS c=false:=a c rfl
   unfold fB
   by_cases hF:bK c=true
   ·by_cases hp:s.nm= .part∨s.nm= .dot∨s.nm= .bw
    ·rw[if_pos ⟨hF,hp⟩]
     unfold Cw
     rcases h.2 with y|y|y|y
     ·rw[y.1] at hp;rcases hp with z|z|z<;>cases z
     ·rw[y] at hp;rcases hp with z|z|z<;>cases z
     ·rw[if_pos (.inl (y.2 c rfl hF))]
     ·obtain⟨b,hb,vh⟩:=y.2
      have:c=b:=by simpa using hb
      subst this
      rcases vh with z|z
      ·rw[hg] at z;cases z
      ·exact absurd z (fM hF).2.2.1
    ·rw[if_neg (fun z=>hp z.2),if_neg (fun z=>by rcases z with z|z;rw[ha] at z;cases z;exact n1 z),if_neg (fun z=>by rcases z with z|z|z;exact n2 z;exact n3 z;exact n4 z),if_neg (by rw[hg,(fM hF).2.1];simp),if_neg (fun z=>(fM hF).2.2.1 z.1),if_neg (fun z=>(fM hF).2.2.2.1 z.2.1),if_neg (fun z=>by rcases z.2.1 with y|y;exact(fM hF).2.2.2.2.1 y;exact(fM hF).2.2.2.2.2.1 y)]
   ·rw[if_neg (fun z=>hF z.1),if_neg (fun z=>by rcases z with z|z;rw[ha] at z;cases z;exact n1 z),if_neg (fun z=>by rcases z with z|z|z;exact n2 z;exact n3 z;exact n4 z)]
    have XX:c≠40→s.nm≠ .part:=fun oV hp=>by
     rcases h.2 with y|y|y|y
     ·rw[y.1] at hp;cases hp
     ·rw[y] at hp;cases hp
     ·rw[y.1] at hp;cases hp
     ·obtain⟨b,hb,vh⟩:=y.2
      have:c=b:=by simpa using hb
      subst this
      rcases vh with z|z
      ·rw[hg] at z;cases z
      ·exact oV z
    by_cases hS:gk c=true
    ·rw[if_pos (.inr hS)]
     unfold Cy
     have hp:=XX (Cz hS).2.2
     rw[if_neg (by rw[hg];simp),if_neg,if_neg (fun z=>hp z.1)]
     rintro ⟨z1,z2⟩
     rcases h.2 with y|y|y|y
     ·exact y.2 (by rw[z2];rfl)
     ·rw[y] at z1;cases z1
     ·rw[y.1] at z1;cases z1
     ·rw[y.1] at z1;cases z1
    ·rw[if_neg (by rw[hg];rintro (z|z);cases z;exact hS z)]
     by_cases oV:c=40
     ·subst oV
      have d4:dp=4:=h4.elim id fun z=>absurd rfl z
      rw[if_neg (fun z=>by omega),if_neg (fun z=>by cases z.2.1),if_neg (fun z=>by rcases z.2.1 with y|y<;>cases y)]
     ·have hp:=XX oV
      rw[if_neg (fun z=>oV z.1),if_neg (fun z=>hp z.1),if_neg (fun z=>hp z.1)]
 ·rw[yi h hk]
  exact m4 (.inl rfl) rfl hN
theorem AI.exp{s:S8}{v:List Nat}(h:AI s v)(m:More v):iB s v:=⟨h.2.1, .inr (.inr (.inr ⟨h.1,m⟩))⟩
theorem qk{p:List Nat→Tr→List Nat→Prop}{dp:Nat}(hp:∀s u t v,iB s u→p u t v→∃s',vd κ s dp u=vd κ s' dp v∧AI s' v){s:S8}{u:List Nat}(h:iB s u):∀{ts:List Tr} {v:List Nat},Sq p u ts v→∃s',vd κ s dp u=vd κ s' dp v∧AI s' v:=by
 intro ts v q
 induction q with
 |one t v a=>exact hp s u t v h a
 |snoc ts w t v _ m a ih=>
  obtain⟨s',e,c⟩:=ih
  obtain⟨s2,e2,c2⟩:=hp s' w t v (c.exp m) a
  exact⟨s2,e.trans e2,c2⟩
theorem wJ{p:List Nat→Tr→List Nat→Prop}{b:List Nat→List Nat→Prop}{dp:Nat}(hp:∀s u t v,iB s u→p u t v→∃s',vd κ s dp u=vd κ s' dp v∧AI s' v)(hb:∀s u v,iB s u→b u v→vd κ s dp u=some v){s:S8}{u v:List Nat}(h:iB s u)(q:Ko p b u v):vd κ s dp u=some v:=by
 rcases q with q| ⟨ts,w,q,m,a⟩
 ·exact hb s u v h q
 ·obtain⟨s',e,c⟩:=qk hp h q
  rw[e]
  exact hb s' w v (c.exp m) a
theorem uQ{s:S8}{dp:Nat}{r:List Nat}(h:iB s (40::r))(hd:dp<4):fB s dp 40=some (⟨.AH,0,0,false⟩,dp+1):=by
 obtain⟨n1,n2,n3,n4⟩:=h.nm
 have ha:=h.1
 unfold fB
 rw[if_neg (fun z=>by cases z.1),if_neg (fun z=>by rcases z with z|z;rw[ha] at z;cases z;exact n1 z),if_neg (fun z=>by rcases z with z|z|z;exact n2 z;exact n3 z;exact n4 z),if_neg (by decide),if_pos ⟨rfl,hd⟩]
theorem uR{s:S8}{dp:Nat}{r:List Nat}(h:AI s (41::r)):fB s (dp+1) 41=some (⟨.part,0,0,false⟩,dp):=by
 obtain⟨hn,ha,_⟩:=h
 unfold fB
 rw[if_neg (fun z=>by cases z.1),if_neg (by rw[ha,hn];decide),if_neg (by rw[hn];decide),if_neg (by decide),if_neg (fun z=>by cases z.1),if_pos ⟨hn,rfl,Nat.succ_pos _⟩]
 rfl
theorem AI.no{s:S8}{dp c:Nat}{r:List Nat}(h:AI s (c::r))(hm:¬More (c::r))(EW:c=41→dp=0)(h0:c=46∨c=94→dp≠0):fB s dp c=none:=by
 obtain⟨hn,ha,hF,hS⟩:=h
 have hg:gS c=false:=by
  cases e:gS c with
  |false=>rfl
  |true=>exact absurd ⟨c,rfl, .inl e⟩ hm
 have oV:c≠40:=fun z=>hm ⟨c,rfl, .inr z⟩
 unfold fB
 by_cases f:bK c=true
 ·rw[if_pos ⟨f, .inl hn⟩]
  unfold Cw
  rw[if_pos (.inl (hF c rfl f))]
 ·rw[if_neg (fun z=>f z.1),if_neg (by rw[ha,hn];decide),if_neg (by rw[hn];decide)]
  by_cases hs:gk c=true
  ·rw[if_pos (.inr hs)]
   unfold Cy
   rw[if_neg (by rw[hg];simp),if_neg (by rw[hn];rintro ⟨z,_⟩;cases z),if_neg]
   rintro ⟨_,z1,z2⟩
   rcases hS c rfl hs with z|z
   ·omega
   ·exact z z2
  ·rw[if_neg (by rw[hg];rintro (z|z);cases z;exact hs z),if_neg (fun z=>oV z.1),if_neg (fun z=>by have:=EW z.2.1;omega),if_neg (fun z=>h0 z.2.1 z.2.2)]
theorem rW:∀(d dp:Nat),dp+d=4→(∀s u t v,iB s u→jW d u t v→∃s',vd κ s dp u=vd κ s' dp v∧AI s' v)∧(∀s u v,iB s u→IC d u v→vd κ s dp u=some v)
 |0,dp,hd=>⟨fun s u t v h ⟨k,n,_,a⟩=>uJ h a,fun s u v h a=>uO h (.inl hd) a⟩
 |d+1,dp,hd=>by
  obtain⟨hG,hB⟩:=rW d (dp+1) (by omega)
  have e0:∀u':List Nat,iB ⟨.AH,0,0,false⟩ u':=fun u'=>⟨rfl, .inr (.inl rfl)⟩
  refine⟨fun s u t v h a=>?_,fun s u v h a=>?_⟩
  ·rcases a with ⟨_,k,n,_,a⟩ | ⟨u',ts,n,w,rfl,rfl,⟨q,_⟩,hN⟩
   ·exact uJ h a
   ·obtain⟨s',e,c⟩:=qk hG (e0 u') q
    obtain⟨s2,e2,h1,h2,h3,h4⟩:=lO (κ:=κ) (s:=⟨.part,0,0,false⟩) (dp:=dp) (.inl rfl) rfl rfl hN
    refine⟨s2,by rw[dU (uQ h (by omega)),e,dU (uR c),e2],h1,h2,h3,fun b hb hS=>?_⟩
    rcases h4 with ⟨z,_⟩ |z
    ·rw[z];exact .inl rfl
    ·exact .inr z
  ·rcases a with ⟨oV,a⟩ | ⟨u',rfl,a⟩
   ·exact uO h (.inr oV) a
   ·rw[dU (uQ h (by omega))]
    rcases a with a| ⟨ts,⟨q,hm⟩,EW⟩ | ⟨ts,w,⟨q,_⟩,hN⟩
    ·exact wJ hG hB (e0 u') a
    ·obtain⟨s',e,c⟩:=qk hG (e0 u') q
     rw[e]
     cases v with
     |nil=>
      refine rV ?_
      rintro (z| ⟨_,z,_⟩)
      ·rw[c.1] at z;cases z
      ·omega
     |cons b r=>exact oJ (c.no hm (fun z=>absurd (by rw[z];rfl) EW) fun _=>Nat.succ_ne_zero _) (fun _=>oK (by rw[c.1];decide) (.inr (.inr (Nat.succ_ne_zero _))))
    ·obtain⟨s',e,c⟩:=qk hG (e0 u') q
     rw[e,dU (uR c)]
     exact m4 (.inl rfl) rfl hN
theorem m8{s:S8}{c:Nat}{r:List Nat}(h:AI s (c::r))(hc:c=46∨c=94):fB s 0 c=some (⟨if c=46 then .dot else .bw,0,0,false⟩,0):=by
 obtain⟨hn,ha,_⟩:=h
 have h1:bK c=false∧gS c=false∧gk c=false∧c≠40∧c≠41:=by rcases hc with rfl|rfl<;>decide
 unfold fB
 rw[if_neg (fun z=>by rw[h1.1] at z;cases z.1),if_neg (by rw[ha,hn];decide),if_neg (by rw[hn];decide),if_neg (by rw[h1.2.1,h1.2.2.1];simp),if_neg (fun z=>h1.2.2.2.1 z.1),if_neg (fun z=>h1.2.2.2.2 z.2.1),if_pos ⟨hn,hc,rfl⟩]
theorem wK{s:S8}{u:List Nat}(h:iB s u):∀{ps:List eU} {v:List Nat},vk u ps v→(∃s',vd κ s 0 u=vd κ s' 0 v∧AI s' v)∧¬More v:=by
 obtain⟨hG,hB⟩:=rW (κ:=κ) 4 0 rfl
 intro ps v q
 induction q with
 |one ts v a=>exact⟨qk hG h a.1,a.2⟩
 |snoc ps w m w1 ts v _ n a ih=>
  obtain⟨⟨s',e,c⟩,_⟩:=ih
  obtain⟨s2,e2,h1,h2,h3,_⟩:=lO (κ:=κ) (s:=⟨.dot,0,0,false⟩) (dp:=0) (.inr (.inl rfl)) rfl rfl n
  obtain⟨s3,e3,c3⟩:=qk hG (s:=s2) ⟨h2, .inr (.inr (.inl ⟨h1,h3⟩))⟩ a.1
  exact⟨⟨s3,by rw[e,dU (m8 c (.inl rfl))];exact e2.trans e3,c3⟩,a.2⟩
def jw:S8:=⟨.start,0,0,false⟩
theorem Jc:∀v:List Nat,vd κ jw 0 (101::v)=vd κ ⟨.fK,0,0,false⟩ 0 v:=fun _=>dU rfl
def cont(κ:List Nat→Option (List Nat))(v:List Nat):Option (List Nat):=if v=[]∨v.head? =some 32 then κ v else some v
theorem wO{s:S8}{v:List Nat}(ha:iq s 0)(hn:∀c r,v=c::r→c≠32→fB s 0 c=none):vd κ s 0 v=cont κ v:=by
 unfold cont
 cases v with
 |nil=>rw[vd,if_pos ha,if_pos (.inl rfl)]
 |cons c r=>
  by_cases h:c=32
  ·subst h
   rw[vd,if_pos ⟨rfl,ha⟩,if_pos (.inr rfl)]
  ·rw[oJ (hn c r rfl h) (fun z=>absurd z h),if_neg]
   rintro (z|z)
   ·cases z
   ·exact h (by simpa using z)
theorem wQ{u v:List Nat}{xs:List eU}{n:Int}(h:DH u xs n v):vd κ jw 0 u=cont κ v:=by
 rcases h with ⟨rfl,_⟩ | ⟨h0,w,q,rF,c⟩
 ·rw[Jc,dU (s':=⟨.minus,0,0,false⟩) (d':=0) rfl,dU (s':=⟨.stop,0,0,false⟩) (d':=0) rfl]
  refine wO (.inl rfl) fun c r _ _=>?_
  unfold fB
  rw[if_neg (by rintro ⟨_,z|z|z⟩<;>cases z),if_pos (.inr rfl)]
 ·obtain⟨⟨s',e,cl⟩,hm⟩:=wK (κ:=κ) (s:=jw) ⟨rfl, .inl ⟨rfl,h0⟩⟩ q
  rw[e]
  rcases c with ⟨Ky,_,rfl⟩ | ⟨u',m,w2,rfl,hN,hs⟩
  ·refine wO (.inr ⟨cl.1,rfl,cl.2.1⟩) fun b r hv _=>?_
   subst hv
   exact cl.no hm (fun _=>rfl) fun z=>by
    rcases z with z|z
    ·exact absurd (by rw[z];rfl) rF
    ·exact absurd (by rw[z];rfl) Ky
  ·obtain⟨s2,e2,h1,h2,h3,_⟩:=lO (κ:=κ) (s:=⟨.bw,0,0,false⟩) (dp:=0) (.inr (.inr rfl)) rfl rfl hN
   rw[dU (m8 cl (.inr rfl))]
   show vd κ ⟨.bw,0,0,false⟩ 0 u'=_
   rw[e2]
   have hs:∃b,w2=b::v∧(b=45∨b=43):=by
    rcases hs with ⟨z,_⟩ | ⟨z,_⟩
    ·exact⟨_,z, .inl rfl⟩
    ·exact⟨_,z, .inr rfl⟩
   obtain⟨b,rfl,hb⟩:=hs
   have hn:s2.nm= .bw:=h1
   have en:fB s2 0 b=some (⟨.stop,0,0,false⟩,0):=by
    unfold fB
    rw[if_neg (by rcases hb with rfl|rfl<;>(rintro ⟨z,_⟩;cases z)),if_neg (by rw[h2,hn];decide),if_pos (.inr (.inr hn)),hn,if_pos (by rcases hb with rfl|rfl;exact .inr ⟨rfl,rfl⟩;exact .inl rfl)]
    rfl
   rw[dU en]
   refine wO (.inl rfl) fun c r _ _=>?_
   unfold fB
   rw[if_neg (by rintro ⟨_,z|z|z⟩<;>cases z),if_pos (.inr rfl)]
theorem CA{u v:List Nat}(h:LV u v):vd κ jw 0 u=some v:=by
 have ro:∀(m:Nm) (c:Nat) (r:List Nat),(m= .fK∧c≠94∨m= .minus∧c≠45)→vd κ ⟨m,0,0,false⟩ 0 (c::r)=some (c::r):=fun m c r hh=>by
  refine oJ ?_ (fun _=>by rcases hh with ⟨rfl,_⟩ | ⟨rfl,_⟩<;>exact oK (by decide) (.inl (by decide)))
  unfold fB
  rcases hh with ⟨rfl,z⟩ | ⟨rfl,z⟩
  ·rw[if_neg (by rintro ⟨_,z|z|z⟩<;>cases z),if_neg (by decide),if_pos (.inl rfl),if_neg (by rintro (y| ⟨y,_⟩);exact z y;cases y)]
  ·rw[if_neg (by rintro ⟨_,z|z|z⟩<;>cases z),if_neg (by decide),if_pos (.inr (.inl rfl)),if_neg (by rintro (y| ⟨y,_⟩);exact z y;cases y)]
 rcases h with h| ⟨h0,h⟩
 ·rcases h with ⟨rfl,h⟩ | ⟨rfl,h⟩
  ·rw[Jc]
   cases v with
   |nil=>rfl
   |cons c r=>exact ro _ _ _ (.inl ⟨rfl,fun z=>h (by rw[z];rfl)⟩)
  ·rw[Jc,dU (s':=⟨.minus,0,0,false⟩) (d':=0) rfl]
   cases v with
   |nil=>rfl
   |cons c r=>exact ro _ _ _ (.inr ⟨rfl,fun z=>h (by rw[z];rfl)⟩)
 ·obtain⟨hG,hB⟩:=rW (κ:=κ) 4 0 rfl
  have ex:iB jw u:=⟨rfl, .inl ⟨rfl,h0⟩⟩
  rcases h with h| ⟨ps,w,q,h⟩ | ⟨ps,w,q,rF,h⟩
  ·exact wJ hG hB ex h
  ·obtain⟨⟨s',e,cl⟩,_⟩:=wK (κ:=κ) ex q
   rw[e,dU (m8 cl (.inl rfl))]
   show vd κ ⟨.dot,0,0,false⟩ 0 w=_
   rcases h with h| ⟨m,w1,n,h⟩
   ·exact m4 (.inr (.inl rfl)) rfl h
   ·obtain⟨s2,e2,h1,h2,h3,_⟩:=lO (κ:=κ) (s:=⟨.dot,0,0,false⟩) (dp:=0) (.inr (.inl rfl)) rfl rfl n
    rw[e2]
    exact wJ hG hB ⟨h2, .inr (.inr (.inl ⟨h1,h3⟩))⟩ h
  ·obtain⟨⟨s',e,cl⟩,_⟩:=wK (κ:=κ) ex q
   obtain⟨u',rfl,h⟩:=h
   rw[e,dU (m8 cl (.inr rfl))]
   show vd κ ⟨.bw,0,0,false⟩ 0 u'=_
   rcases h with h| ⟨m,n,lY,LY⟩
   ·exact m4 (.inr (.inr rfl)) rfl h
   ·obtain⟨s2,e2,h1,h2,h3,_⟩:=lO (κ:=κ) (s:=⟨.bw,0,0,false⟩) (dp:=0) (.inr (.inr rfl)) rfl rfl n
    have hn:s2.nm= .bw:=h1
    rw[e2]
    cases v with
    |nil=>
     refine rV ?_
     rintro (z| ⟨z,_⟩)<;>(rw[hn] at z;cases z)
    |cons c r=>
     refine oJ ?_ (fun _=>oK (by rw[hn];decide) (.inl (by rw[hn];decide)))
     unfold fB
     by_cases f:bK c=true
     ·rw[if_pos ⟨f, .inr (.inr hn)⟩]
      unfold Cw
      rw[if_pos (.inl (h3 c rfl f))]
     ·rw[if_neg (fun z=>f z.1),if_neg (by rw[h2,hn];decide),if_pos (.inr (.inr hn)),hn,if_neg]
      rintro (z| ⟨_,z⟩)
      ·exact LY (by rw[show c=43 from z];rfl)
      ·exact lY (by rw[z];rfl)
inductive N5 where
 |term|start|AH|part|dot|fK|minus|bw|stop|count|gap|plus|dash|head
 deriving DecidableEq
structure S5 where
 nm:N5
 sm:Nat
 fg:Nat
 al:Bool
def AJ(m:N5)(fg c most:Nat):Option S5:=if fg=most∨fg=0∧c=48 then none else some ⟨m,0,fg+1,decide (fg=0)&&decide (c=49)⟩
def Jd(s:S5)(c:Nat):Option S5:=if gS c=true then some ⟨.part,2,0,false⟩ else if (s.nm= .term∨s.nm= .start)∧c=101 then some ⟨.fK,0,0,false⟩ else if s.nm= .part∧0<s.sm∧s.fg=0 then some ⟨.part,s.sm - 1,0,false⟩ else none
def rX:N5→Nat
 | .fK=>94| .minus=>45| .plus=>32| .dash=>62| .head=>32| .count=>32| .gap=>43|_=>0
def wR:N5→N5
 | .fK=> .minus| .minus=> .stop| .plus=> .term| .dash=> .head| .head=> .term| .count=> .start|_=> .plus
def sG(m:N5)(rt:Bool)(c:Nat):Option S5:=
 if m= .bw∧(c=43∨c=45) then some ⟨.stop,0,0,false⟩
 else if m= .gap∧c=45∧rt=false then some ⟨.dash,0,0,false⟩
 else if m≠ .bw∧c=rX m then some ⟨wR m,0,0,false⟩ else none
def lP(s:S5)(dp:Nat):Prop:=s.nm= .stop∨s.nm= .part∧dp=0∧s.al=false
instance (s:S5) (dp:Nat):Decidable (lP s dp):=by unfold lP;infer_instance
def m9(m:N5):Prop:=m= .bw∨m= .fK∨m= .minus∨m= .plus∨m= .dash∨m= .head∨m= .count∨m= .gap
instance (m:N5):Decidable (m9 m):=by unfold m9;infer_instance
def dm(s:S5)(dp:Nat)(rt:Bool)(c:Nat):Option S5:=
 if bK c=true then
  (if s.nm= .term then AJ .count 0 c 12
  else if s.nm= .part∨s.nm= .dot∨s.nm= .bw∨s.nm= .count then AJ s.nm s.fg c (if s.nm= .count then 12 else 3) else none)
 else if s.al=true then none
 else if m9 s.nm then sG s.nm rt c
 else if c=32∧lP s dp then some ⟨.gap,0,0,false⟩
 else if s.nm= .stop then none
 else if gS c=true∨gk c=true then Jd s c
 else if c=40∧dp<4 then some ⟨.AH,0,0,false⟩
 else if s.nm= .part∧c=41∧0<dp then some ⟨.part,0,0,false⟩
 else if s.nm= .part∧(c=46∨c=94)∧dp=0 then some ⟨if c=46 then .dot else .bw,0,0,false⟩
 else none
def l9(dp c:Nat):Nat:=dp+(if c=40 then 1 else 0) - (if c=41 then 1 else 0)
def dA:S5→Nat→Bool→List Nat→Option (List Nat)
 |s,dp,rt,[]=>if rt=true∧lP s dp then none else some []
 |s,dp,rt,c::r=>match dm s dp (rt||decide (s.nm= .head)) c with
  |none=>some (c::r)
  |some s'=>dA s' (l9 dp c) (rt||decide (s.nm= .head)) r
theorem jZ{s:S5}{dp c:Nat}{rt:Bool}{r:List Nat}(h:dm s dp (rt||decide (s.nm= .head)) c=none):dA s dp rt (c::r)=some (c::r):=by rw[dA,h]
theorem fN{s s':S5}{dp c:Nat}{rt:Bool}{r:List Nat}(h:dm s dp (rt||decide (s.nm= .head)) c=some s'):dA s dp rt (c::r)=dA s' (l9 dp c) (rt||decide (s.nm= .head)) r:=by rw[dA,h]
def yj:Nm→N5
 | .start=> .start| .AH=> .AH| .part=> .part| .dot=> .dot| .fK=> .fK| .minus=> .minus| .bw=> .bw| .stop=> .stop
def up(s:S8):S5:=⟨yj s.nm,s.sm,s.fg,s.al⟩
theorem uU{s:S8}{dp:Nat}:lP (up s) dp↔iq s dp:=by
 unfold lP iq up
 cases s.nm<;>simp [yj]
theorem uV(s:S8)(dp:Nat)(rt:Bool)(c:Nat)(hs:s.nm= .stop→s.al=false):dm (up s) dp rt c=if c=32∧iq s dp then some ⟨.gap,0,0,false⟩ else (fB s dp c).map fun p=>up p.1:=by
 obtain⟨nm,sm,fg,al⟩:=s
 by_cases hF:bK c=true
 ·have hn:=fM hF
  have iF:c≠32:=fun z=>by rw[z] at hF;cases hF
  rw[if_neg (fun z=>iF z.1)]
  unfold dm
  rw[if_pos hF]
  unfold fB Cw AJ Cy
  cases nm<;>cases al<;>simp [up,yj,hF,hn,rT]<;>(try (split<;>simp_all [up,yj]<;>(try rfl)))
 ·unfold dm
  rw[if_neg hF]
  unfold fB Cy Jd sG
  by_cases iF:c=32
  ·subst iF
   cases nm<;>cases al<;>simp [up,yj,rT,m9,rX,wR,lP,iq,gS,gk,bK] at hs ⊢<;>(try (split<;>simp_all [up,yj]))
  ·cases nm<;>cases al<;>simp [up,yj,hF,iF,rT,m9,rX,wR,lP,iq]
   all_goals (try (repeat' split)<;>simp_all [up,yj])
theorem yk{s s':S8}{dp d' c:Nat}(h:fB s dp c=some (s',d')):d'=l9 dp c:=by
 obtain⟨nm,sm,fg,al⟩:=s
 unfold fB Cw Cy at h
 unfold l9
 by_cases oV:c=40
 ·subst oV
  cases nm<;>cases al<;>simp [bK,gS,gk,rT] at h ⊢<;>(try omega)
 ·by_cases EW:c=41
  ·subst EW
   cases nm<;>cases al<;>simp [bK,gS,gk,rT] at h ⊢<;>(try omega)
  ·rw[if_neg oV,if_neg EW]
   simp only [oV,EW,false_and,and_false,if_false] at h
   cases nm<;>cases al<;>simp at h<;>(repeat' split at h)<;>simp_all
structure J8(s:S8)(dp:Nat):Prop where
 z:s.nm≠ .part→s.nm≠ .AH→dp=0
 st:s.nm= .stop→s.al=false
theorem J8.go{s s':S8}{dp d' c:Nat}(j:J8 s dp)(h:fB s dp c=some (s',d')):J8 s' d':=by
 obtain⟨j1,j2⟩:=j
 unfold fB at h
 split at h
 ·rename_i h0
  unfold Cw at h
  split at h
  ·cases h
  ·cases h
   exact⟨j1,fun z=>by
    have z:s.nm= .stop:=z
    rw[z] at h0
    rcases h0.2 with y|y|y<;>cases y⟩
 ·split at h
  ·cases h
  ·split at h
   ·rename_i h0
    split at h
    ·cases h
     refine⟨fun _ _=>j1 ?_ ?_,fun _=>rfl⟩<;>(intro z;rw[z] at h0;rcases h0 with y|y|y<;>cases y)
    ·cases h
   ·split at h
    ·unfold Cy at h
     split at h
     ·cases h
      exact⟨fun z=>absurd rfl z,fun z=>by cases z⟩
     ·split at h
      ·rename_i h0
       cases h
       exact⟨fun _ _=>j1 (by rw[h0.1];decide) (by rw[h0.1];decide),fun z=>by cases z⟩
      ·split at h
       ·cases h
        exact⟨fun z=>absurd rfl z,fun z=>by cases z⟩
       ·cases h
    ·split at h
     ·cases h
      exact⟨fun _ z=>absurd rfl z,fun z=>by cases z⟩
     ·split at h
      ·cases h
       exact⟨fun z=>absurd rfl z,fun z=>by cases z⟩
      ·split at h
       ·rename_i h0
        cases h
        exact⟨fun _ _=>h0.2.2,fun z=>by
         have z:(if c=46 then Nm.dot else Nm.bw)= .stop:=z
         split at z<;>cases z⟩
       ·cases h
def κ5(rt:Bool):List Nat→Option (List Nat)
 | []=>if rt=true then none else some []
 |_::r=>dA ⟨.gap,0,0,false⟩ 0 rt r
theorem nh(s:S8):(up s).nm≠ .head:=by
 unfold up
 cases s.nm<;>simp [yj]
theorem CB{rt:Bool}:∀(u:List Nat) {s:S8} {dp:Nat},J8 s dp→dA (up s) dp rt u=vd (κ5 rt) s dp u
 | [],s,dp,j=>by
   rw[dA,vd]
   by_cases ha:iq s dp
   ·rw[if_pos ha]
    by_cases hr:rt=true
    ·rw[if_pos ⟨hr,uU.mpr ha⟩]
     unfold κ5
     rw[if_pos hr]
    ·rw[if_neg (fun z=>hr z.1)]
     unfold κ5
     rw[if_neg hr]
   ·rw[if_neg ha,if_neg (fun z=>ha (uU.mp z.2))]
 |c::r,s,dp,j=>by
  have hh:(rt||decide ((up s).nm= .head))=rt:=by rw[decide_eq_false (nh s),Bool.or_false]
  have e:=uV s dp rt c j.st
  by_cases ha:c=32∧iq s dp
  ·rw[if_pos ha] at e
   rw[fN (s':=⟨.gap,0,0,false⟩) (by rw[hh];exact e),vd,if_pos ha,hh]
   have h0:dp=0:=by
    rcases ha.2 with z|z
    ·exact j.z (by rw[z];decide) (by rw[z];decide)
    ·exact z.2.1
   rw[ha.1,h0]
   rfl
  ·rw[if_neg ha] at e
   cases hn:fB s dp c with
   |none=>
    rw[hn] at e
    rw[jZ (by rw[hh];exact e),vd,if_neg ha,hn]
   |some p=>
    obtain⟨s',d'⟩:=p
    rw[hn] at e
    rw[fN (by rw[hh];exact e),hh,dU hn,←yk hn]
    exact CB r (j.go hn)
abbrev t5:S5:=⟨.term,0,0,false⟩
theorem Kz:J8 jw 0:=⟨fun _ _=>rfl,fun z=>by cases z⟩
theorem oM{rt:Bool}{u:List Nat}(h:Not bK u):dA t5 0 rt u=vd (κ5 rt) jw 0 u:=by
 rw[←CB u Kz]
 cases u with
 |nil=>simp [dA,lP,up,yj,jw]
 |cons c r=>
  have hf:bK c=false:=h c rfl
  have e:dm t5 0 (rt||decide (t5.nm= .head)) c=dm (up jw) 0 (rt||decide ((up jw).nm= .head)) c:=by
   unfold dm Jd
   simp [hf,up,yj,jw,m9,lP]
  rw[dA,dA,e]
  rfl
theorem ma{rt:Bool}(u:List Nat){sm fg:Nat}:dA ⟨.count,sm,fg,false⟩ 0 rt (32::u)=vd (κ5 rt) jw 0 u:=by
 rw[←CB u Kz]
 have e:dm ⟨.count,sm,fg,false⟩ 0 (rt||decide ((N5.count)= .head)) 32=some (up jw):=by
  unfold dm sG
  simp [bK,m9,rX,wR,up,yj,jw]
 rw[fN e]
 simp [l9]
theorem CC{rt:Bool}{w:List Nat}{sm fg:Nat}(iF:w.head? ≠some 32)(hv:Not bK w∨fg=12):dA ⟨.count,sm,fg,false⟩ 0 rt w=some w:=by
 cases w with
 |nil=>simp [dA,lP]
 |cons c r=>
  refine jZ ?_
  have hc:c≠32:=fun z=>iF (by rw[z];rfl)
  unfold dm AJ sG
  by_cases hf:bK c=true
  ·have Qy:fg=12:=hv.elim (fun z=>by rw[z c rfl] at hf;cases hf) id
   simp [hf,Qy]
  ·simp [hf,m9,rX,hc]
theorem wU{rt:Bool}{s:S5}(hn:s.nm= .count):∀(w v:List Nat),w.all bK=true→s.fg+w.length≤12→(s.fg=0→w.head? ≠some 48)→w≠[]→
  dA s 0 rt (w++v)=dA ⟨.count,0,s.fg+w.length,decide (s.fg=0)&&decide (w=[49])⟩ 0 rt v:=by
 intro w
 induction w generalizing s with
 |nil=>intro _ _ _ _ h;exact absurd rfl h
 |cons c r ih=>
  intro v ha hl h0 _
  rw[List.all_cons,Bool.and_eq_true] at ha
  rw[List.length_cons] at hl
  have hh:(rt||decide (s.nm= .head))=rt:=by rw[hn];simp
  have XY:c≠40∧c≠41:=⟨(fM ha.1).2.2.1,(fM ha.1).2.2.2.1⟩
  have e:dm s 0 rt c=some ⟨.count,0,s.fg+1,decide (s.fg=0)&&decide (c=49)⟩:=by
   unfold dm AJ
   rw[if_pos ha.1,hn,if_neg (by decide),if_pos (by decide),if_pos rfl,if_neg]
   rintro (z| ⟨z1,z2⟩)
   ·omega
   ·exact h0 z1 (by rw[z2];rfl)
  have d0:l9 0 c=0:=by unfold l9;rw[if_neg XY.1,if_neg XY.2]
  rw[List.cons_append,fN (by rw[hh];exact e),hh,d0]
  cases r with
  |nil=>
   have:(decide ([c]=[49]):Bool)=decide (c=49):=by simp
   rw[this]
   rfl
  |cons b t=>
   rw[ih (s:=⟨.count,0,s.fg+1,decide (s.fg=0)&&decide (c=49)⟩) rfl v ha.2 (by show s.fg+1+(b::t).length≤12;omega) (fun z=>absurd z (Nat.succ_ne_zero _)) (by simp)]
   show dA ⟨.count,0,s.fg+1+(b::t).length,decide (s.fg+1=0)&&_⟩ 0 rt v=_
   have e1:(decide (s.fg+1=0):Bool)=false:=by simp
   have e2:(decide (c::b::t=[49]):Bool)=false:=by simp
   rw[e1,e2,Bool.and_false,Bool.false_and,List.length_cons (a:=c)]
   rw[show s.fg+1+(b::t).length=s.fg+((b::t).length+1) by omega]
theorem ql{rt:Bool}{w v:List Nat}(ha:w.all bK=true)(hl:w.length≤12)(h0:w.head? ≠some 48)(hw:w≠[]):dA t5 0 rt (w++v)=dA ⟨.count,0,w.length,decide (w=[49])⟩ 0 rt v:=by
 have e:=wU (rt:=rt) (s:=⟨.count,0,0,false⟩) rfl w v ha (by show 0+w.length≤12;omega) (fun _=>h0) hw
 have e2:dA t5 0 rt (w++v)=dA ⟨.count,0,0,false⟩ 0 rt (w++v):=by
  cases w with
  |nil=>exact absurd rfl hw
  |cons c r=>
   rw[List.all_cons,Bool.and_eq_true] at ha
   have e3:dm t5 0 (rt||decide (t5.nm= .head)) c=dm ⟨.count,0,0,false⟩ 0 (rt||decide (N5.count= .head)) c:=by
    unfold dm
    simp [ha.1]
   rw[List.cons_append,dA,dA,e3]
   rfl
 rw[e2,e]
 show dA ⟨.count,0,0+w.length,decide (0=0)&&decide (w=[49])⟩ 0 rt v=_
 rw[Nat.zero_add]
 rfl
theorem rY{m:Nat}(h:m≠1):bc (m:Int)≠[]:=by
 rw[fG h]
 intro z
 have z:=List.map_eq_nil_iff.mp z
 exact absurd z Nat.toDigits_ne_nil
theorem CD{rt:Bool}{u v:List Nat}{t:Tm}(h:Fq u t v):dA t5 0 rt u=cont (κ5 rt) v:=by
 obtain⟨w,⟨e,n1,n2,hl,hv⟩,hw⟩:=h
 obtain⟨m,em,m1,m0⟩:=kJ n1 (by omega)
 rcases hw with ⟨t1,hW⟩ | ⟨t1,w',rfl,hW⟩
 ·rw[t1,gm] at e hv
  have hv:Not bK w:=hv.elim id fun z=>by cases z
  have e:u=w:=e
  rw[e,oM hv]
  exact wQ hW
 ·rw[em] at t1 e hv hl
  have Tc:m≠1:=fun z=>t1 (by rw[z];rfl)
  have hw:=rY Tc
  have Mp:(decide (bc (m:Int)=[49]):Bool)=false:=by simpa using mT m
  rw[e,ql (eo m) hl (kI m m0) hw,Mp,ma]
  exact wQ hW
theorem wV{rt:Bool}{u v:List Nat}(h:Kv u v):dA t5 0 rt u=some v:=by
 rcases h with h| ⟨n,w,⟨e,n1,n2,hl,hv⟩,hw⟩
 ·rcases h with ⟨rfl,h⟩ | ⟨rfl,h⟩
  ·cases v with
   |nil=>cases h
   |cons c r=>
    have:c=48:=by simpa using h
    subst this
    exact jZ (by simp [dm,AJ,bK])
  ·have e1:dm t5 0 (rt||decide (t5.nm= .head)) 49=some ⟨.count,0,1,true⟩:=by simp [dm,AJ,bK]
   rw[fN e1]
   cases v with
   |nil=>simp [dA,lP]
   |cons c r=>
    have hf:bK c=false:=h c rfl
    exact jZ (by simp [dm,hf])
 ·obtain⟨m,em,m1,m0⟩:=kJ n1 (by omega)
  rcases hw with ⟨t1,hW⟩ | ⟨t1,iF,rfl⟩ | ⟨t1,w',rfl,hW⟩
  ·rw[t1,gm] at e hv
   have hv:Not bK w:=hv.elim id fun z=>by cases z
   have e:u=w:=e
   rw[e,oM hv]
   exact CA hW
  all_goals
   rw[em] at t1 e hv hl
   have Tc:m≠1:=fun z=>t1 (by rw[z];rfl)
   have hw:=rY Tc
   have Mp:(decide (bc (m:Int)=[49]):Bool)=false:=by simpa using mT m
   rw[e,ql (eo m) hl (kI m m0) hw,Mp]
  ·exact CC iF hv
  ·rw[ma]
   exact CA hW
theorem yl{κ:List Nat→Option (List Nat)}{v:List Nat}(h1:v≠[])(h2:v.head? ≠some 32):cont κ v=some v:=by
 unfold cont
 rw[if_neg (fun z=>z.elim h1 h2)]
theorem uW{rt:Bool}(v:List Nat):dA ⟨.gap,0,0,false⟩ 0 rt (43::v)=dA ⟨.plus,0,0,false⟩ 0 rt v:=by
 rw[fN (s':=⟨.plus,0,0,false⟩) (by cases rt<;>simp [dm,sG,bK,m9,rX,wR])]
 cases rt<;>simp [l9]
theorem An{rt:Bool}(v:List Nat):dA ⟨.plus,0,0,false⟩ 0 rt (32::v)=dA t5 0 rt v:=by
 rw[fN (s':=t5) (by cases rt<;>simp [dm,sG,bK,m9,rX,wR])]
 cases rt<;>simp [l9]
theorem oN(v:List Nat):dA ⟨.gap,0,0,false⟩ 0 false (45::v)=dA ⟨.dash,0,0,false⟩ 0 false v:=by
 rw[fN (s':=⟨.dash,0,0,false⟩) (by simp [dm,sG,bK,m9,rX,wR])]
 simp [l9]
theorem qm(v:List Nat):dA ⟨.dash,0,0,false⟩ 0 false (62::v)=dA ⟨.head,0,0,false⟩ 0 false v:=by
 rw[fN (s':=⟨.head,0,0,false⟩) (by simp [dm,sG,bK,m9,rX,wR])]
 simp [l9]
theorem Ao(v:List Nat):dA ⟨.head,0,0,false⟩ 0 false (32::v)=dA t5 0 true v:=by
 rw[fN (s':=t5) (by simp [dm,sG,bK,m9,rX,wR])]
 simp [l9]
theorem oO{rt:Bool}(v:List Nat):cont (κ5 rt) (32::43::32::v)=dA t5 0 rt v:=by
 unfold cont
 rw[if_pos (.inr rfl)]
 show dA ⟨.gap,0,0,false⟩ 0 rt (43::32::v)=_
 rw[uW,An]
theorem oP(v:List Nat):cont (κ5 false) (32::45::62::32::v)=dA t5 0 true v:=by
 unfold cont
 rw[if_pos (.inr rfl)]
 show dA ⟨.gap,0,0,false⟩ 0 false (45::62::32::v)=_
 rw[oN,qm,Ao]
theorem lQ{rt:Bool}{u:List Nat}{ts:List Tm}{v:List Nat}(h:vp u ts v):dA t5 0 rt u=cont (κ5 rt) v:=by
 induction h with
 |one t v h=>exact CD h
 |snoc ts w t v _ h ih=>rw[ih,oO,CD h]
theorem ni{m:N5}{rt:Bool}(hm:m9 m)(hc:m≠ .bw){v:List Nat}(h1:v.head? ≠some (rX m))(h2:m= .gap→v.head? =some 45→rt=true)(h3:m= .count→False):dA ⟨m,0,0,false⟩ 0 rt v=some v:=by
 cases v with
 |nil=>
  rw[dA,if_neg]
  rintro ⟨_,z| ⟨z,_⟩⟩<;>(have z:m=_:=z;subst z;revert hm;decide)
 |cons c r=>
  refine jZ ?_
  have hw:c≠rX m:=fun z=>h1 (by rw[z];rfl)
  unfold dm
  by_cases hf:bK c=true
  ·rw[if_pos hf,if_neg (fun z=>by have z:m= .term:=z;subst z;revert hm;decide),if_neg]
   rintro (z|z|z|z)<;>have z:m=_:=z
   ·subst z;revert hm;decide
   ·subst z;revert hm;decide
   ·exact hc z
   ·exact h3 z
  ·rw[if_neg hf,if_neg (fun z=>by cases z),if_pos hm]
   unfold sG
   rw[if_neg (fun z=>hc z.1),if_neg,if_neg (fun z=>hw z.2)]
   rintro ⟨z1,z2,z3⟩
   have z1:m= .gap:=z1
   have:=h2 z1 (by rw[z2];rfl)
   rw[this] at z3
   cases z3
theorem CF{rt:Bool}{w v:List Nat}(jc:rt=true→w≠[])(lY:rt=false→(w.drop 1).head? ≠some 45)(h:SW w v):cont (κ5 rt) w=some v:=by
 rcases h with ⟨i,c,hc,e,hn⟩ | ⟨w',rfl,hB⟩
 ·match i,hc with
  |0,hc=>
   have:c=32:=by simpa using hc.symm
   subst this
   have e:w=v:=e
   subst e
   by_cases hw:w=[]
   ·subst hw
    cases rt with
    |true=>exact absurd rfl (jc rfl)
    |false=>rfl
   ·exact yl hw hn
  |1,hc=>
   have:c=43:=by simpa using hc.symm
   subst this
   have e:w=32::v:=e
   subst e
   unfold cont
   rw[if_pos (.inr rfl)]
   refine ni (m:= .gap) (by decide) (by decide) hn (fun _ z=>?_) (fun z=>by cases z)
   cases rt with
   |true=>rfl
   |false=>exact absurd z (lY rfl)
  |2,hc=>
   have:c=32:=by simpa using hc.symm
   subst this
   have e:w=32::43::v:=e
   subst e
   unfold cont
   rw[if_pos (.inr rfl)]
   show dA ⟨.gap,0,0,false⟩ 0 rt (43::v)=_
   rw[uW]
   exact ni (m:= .plus) (by decide) (by decide) hn (fun z=>by cases z) (fun z=>by cases z)
  |i+3,hc=>simp at hc
 ·rw[oO]
  exact wV hB
theorem Je{w v:List Nat}(lY:(w.drop 1).head? =some 45)(h:SU [32,45,62,32] w v):cont (κ5 false) w=some v:=by
 obtain⟨i,c,hc,e,hn⟩:=h
 match i,hc with
 |0,hc=>
  have:c=32:=by simpa using hc.symm
  subst this
  have e:w=v:=e
  subst e
  refine yl (fun z=>?_) hn
  subst z
  cases lY
 |1,hc=>
  have:c=45:=by simpa using hc.symm
  subst this
  have e:w=32::v:=e
  subst e
  exact absurd lY hn
 |2,hc=>
  have:c=62:=by simpa using hc.symm
  subst this
  have e:w=32::45::v:=e
  subst e
  unfold cont
  rw[if_pos (.inr rfl)]
  show dA ⟨.gap,0,0,false⟩ 0 false (45::v)=_
  rw[oN]
  exact ni (m:= .dash) (by decide) (by decide) hn (fun z=>by cases z) (fun z=>by cases z)
 |3,hc=>
  have:c=32:=by simpa using hc.symm
  subst this
  have e:w=32::45::62::v:=e
  subst e
  unfold cont
  rw[if_pos (.inr rfl)]
  show dA ⟨.gap,0,0,false⟩ 0 false (45::62::v)=_
  rw[oN,qm]
  exact ni (m:= .head) (by decide) (by decide) hn (fun z=>by cases z) (fun z=>by cases z)
 |i+4,hc=>simp at hc
theorem Jf{u v:List Nat}(h:SX u v):dA t5 0 false u=some v:=by
 rcases h with h| ⟨ts,w,q,⟨lY,h⟩ | ⟨lY,h⟩⟩
 ·exact wV h
 ·rw[lQ q]
  exact CF (fun z=>by cases z) (fun _=>lY) h
 ·rw[lQ q]
  exact Je lY h
theorem Jg{u v:List Nat}(h:SY u v):dA t5 0 true u=some v:=by
 rcases h with h| ⟨ts,w,q,jc,h⟩
 ·exact wV h
 ·rw[lQ q]
  exact CF (fun _=>jc) (fun z=>by cases z) h
theorem CG{u:List Nat}{xs ys:List Tm}(h:Kw u xs ys):dA t5 0 false u=none:=by
 obtain⟨w,h1,h2⟩:=h
 rw[lQ h1,oP,lQ h2]
 rfl
theorem Jh{u v:List Nat}(h:S0 u v):dA t5 0 false u=some v:=by
 rcases h with h| ⟨xs,w,h1,h2⟩
 ·exact Jf h
 ·rw[lQ h1,oP]
  exact Jg h2
def gP(p:List Nat):Nat→List Nat→Nat
 |_,[]=>0
 |k+1,_::r=>gP p k r
 |0,c::r=>if p.isPrefixOf (c::r)=true then 1+gP p (p.length - 1) r else gP p 0 r
theorem ym(p:List Nat):∀(k:Nat) (l:List Nat),gP p k l=gP p 0 (l.drop k)
 |0,l=>by rw[List.drop_zero]
 |k+1,[]=>by simp [gP]
 |k+1,c::r=>by
  rw[gP,ym p k r]
  rfl
theorem rZ{l p:List Nat}(hp:p≠[]){i:Nat}:Builtin.Str.subAt ⟨l.toArray⟩ ⟨p.toArray⟩ i=true↔p.isPrefixOf (l.drop i)=true:=by
 unfold Builtin.Str.subAt
 have hl:(⟨p.toArray⟩:Str).length=p.length:=az p
 rw[hl]
 show (l.toArray.extract i (i+p.length)==p.toArray)=true↔_
 rw[beq_iff_eq,←Array.toList_inj,Array.toList_extract]
 show ((l.drop i).take (i+p.length - i))=p↔_
 rw[Nat.add_sub_cancel_left,List.isPrefixOf_iff_prefix,List.prefix_iff_eq_take]
 exact⟨fun h=>h.symm,fun h=>h.symm⟩
open PySem.StrLaws in
theorem CH(l p:List Nat)(hp:p≠[])(lim:Nat):∀(n lo:Nat) (st:Array Nat×Nat),lo+n=l.length+1→st.1.size+n≤lim→
  (forIn (List.range' lo n) st (occBody ⟨l.toArray⟩ ⟨p.toArray⟩ l.length lim)).run.1.size=st.1.size+gP p 0 (l.drop (max lo st.2))
 |0,lo,st,h1,h2=>by
  rw[List.drop_eq_nil_of_le (by omega)]
  rfl
 |n+1,lo,st,h1,h2=>by
  rw[List.range'_succ,List.forIn_cons]
  have l1:(⟨p.toArray⟩:Str).length=p.length:=az p
  have pl:0<p.length:=List.length_pos_iff.mpr hp
  by_cases h:st.2≤lo∧lo+p.length≤l.length∧Builtin.Str.subAt ⟨l.toArray⟩ ⟨p.toArray⟩ lo=true
  ·have e:occBody ⟨l.toArray⟩ ⟨p.toArray⟩ l.length lim lo st=pure (ForInStep.yield (st.1.push lo,lo+p.length)):=by
    unfold occBody
    rw[if_pos ⟨⟨⟨by omega,h.1⟩,by rw[l1];exact h.2.1⟩,h.2.2⟩,l1]
   rw[e]
   show (forIn (List.range' (lo+1) n) (st.1.push lo,lo+p.length) (occBody ⟨l.toArray⟩ ⟨p.toArray⟩ l.length lim)).run.1.size=_
   rw[CH l p hp lim n (lo+1) _ (by omega) (by rw[Array.size_push];omega),Array.size_push]
   show st.1.size+1+gP p 0 (l.drop (max (lo+1) (lo+p.length)))=_
   rw[Nat.max_eq_right (by omega),Nat.max_eq_left h.1]
   have hd:l.drop lo=l[lo]'(by omega)::l.drop (lo+1):=List.drop_eq_getElem_cons (by omega)
   have lu:=(rZ hp).mp h.2.2
   rw[hd] at lu ⊢
   rw[gP,if_pos lu,ym p (p.length - 1),List.drop_drop,show lo+1+(p.length - 1)=lo+p.length by omega]
   omega
  ·have e:occBody ⟨l.toArray⟩ ⟨p.toArray⟩ l.length lim lo st=pure (ForInStep.yield (st.1,st.2)):=by
    unfold occBody
    rw[if_neg fun z=>h ⟨z.1.1.2,by have:=z.1.2;rw[l1] at this;exact this,z.2⟩]
   rw[e]
   show (forIn (List.range' (lo+1) n) (st.1,st.2) (occBody ⟨l.toArray⟩ ⟨p.toArray⟩ l.length lim)).run.1.size=_
   rw[CH l p hp lim n (lo+1) _ (by omega) (by show st.1.size+n≤lim;omega)]
   show st.1.size+gP p 0 (l.drop (max (lo+1) st.2))=_
   by_cases hf:st.2≤lo
   ·rw[Nat.max_eq_left (by omega),Nat.max_eq_left hf]
    by_cases zx:lo<l.length
    ·have hd:l.drop lo=l[lo]::l.drop (lo+1):=List.drop_eq_getElem_cons zx
     have lu:¬p.isPrefixOf (l.drop lo)=true:=fun z=>by
      have hle:=(List.isPrefixOf_iff_prefix.mp z).length_le
      rw[List.length_drop] at hle
      exact h ⟨hf,by omega,(rZ hp).mpr z⟩
     rw[hd] at lu ⊢
     rw[gP,if_neg lu]
    ·rw[List.drop_eq_nil_of_le (by omega),List.drop_eq_nil_of_le (by omega)]
   ·rw[Nat.max_eq_right (by omega),Nat.max_eq_right (by omega)]
theorem yn(l p:List Nat)(hp:p≠[]):Txt.count ⟨l.toArray⟩ ⟨p.toArray⟩=(gP p 0 l:Int):=by
 have xl:(⟨l.toArray⟩:Str).length=l.length:=az l
 unfold Txt.count
 rw[PySem.StrLaws.occ_eq,Array.length_toList,xl]
 show ((forIn (List.range' 0 (l.length+1)) ((#[]:Array Nat),0) (PySem.StrLaws.occBody ⟨l.toArray⟩ ⟨p.toArray⟩ l.length (l.length+1))).run.1.size:Int)=_
 rw[CH l p hp (l.length+1) (l.length+1) 0 (#[],0) (by omega) (by show 0+(l.length+1)≤_;omega)]
 show ((0+gP p 0 (l.drop (max 0 0)):Nat):Int)=_
 rw[Nat.zero_add]
 rfl
def pJ:List Nat:=[32,43,32]
def pA:List Nat:=[32,45,62,32]
theorem dB{p:List Nat}(iF:p.head? =some 32):∀{a:List Nat} (v:List Nat),(∀c∈a,c≠32)→gP p 0 (a++v)=gP p 0 v
 | [],v,_=>rfl
 |c::r,v,h=>by
  have hc:=h c (List.mem_cons_self ..)
  rw[List.cons_append,gP,if_neg,dB iF v fun b hb=>h b (List.mem_cons_of_mem _ hb)]
  cases p with
  |nil=>cases iF
  |cons b q=>
   have:b=32:=by simpa using iF
   subst this
   simp [List.isPrefixOf,Ne.symm hc]
theorem cU{b:Nat}{q:List Nat}{c:Nat}(r:List Nat)(h:b≠c):gP (32::b::q) 0 (32::c::r)=gP (32::b::q) 0 (c::r):=by
 rw[gP,if_neg]
 simp [List.isPrefixOf,h]
def Bg(c:Nat):Prop:=bK c=true∨gS c=true∨c=40∨c=101
theorem Bg.ne{c:Nat}(h:Bg c):c≠43∧c≠45∧c≠32:=by
 rcases h with h|h|h|h
 ·simp only [bK,Bool.and_eq_true,decide_eq_true_eq] at h;omega
 ·simp only [gS,Bool.and_eq_true,decide_eq_true_eq] at h;omega
 ·omega
 ·omega
theorem jx{n:Int}(h:0≤n):∀c∈bc n,c≠32:=fun c hc=>by
 obtain⟨m,rfl⟩:=Int.eq_ofNat_of_zero_le h
 have:=List.all_eq_true.mp (eo m) c hc
 unfold bK at this
 simp at this
 omega
theorem Fv{k:List Nat}(h:rn k):∀c∈k,c≠32:=by
 obtain⟨c,r,rfl,hc,hr,_⟩:=h
 intro b hb
 rcases List.mem_cons.mp hb with e|hb
 ·rw[e]
  unfold gS at hc
  simp at hc
  omega
 ·have:=List.all_eq_true.mp hr b hb
  unfold gk at this
  simp at this
  omega
theorem yo:∀(d:Nat) (t:Tr),o9 d t→∀c∈ck d t,c≠32
 |d, .one k n,h=>by
  have h:rn k∧1≤n∧n≤999:=by cases d<;>exact h
  have e:ck d (.one k n)=k++bc n:=by cases d<;>rfl
  rw[e]
  intro c hc
  rcases List.mem_append.mp hc with z|z
  ·exact Fv h.1 c z
  ·exact jx (by omega) c z
 |0, .gr _ _,h=>h.elim
 |d+1, .gr ts n,h=>by
  obtain⟨_,h1,n1,_⟩:=h
  intro c hc
  rcases List.mem_cons.mp (show c∈40::(ts.flatMap (ck d)++41::bc n) from hc) with e|hc
  ·rw[e];decide
  ·rcases List.mem_append.mp hc with z|z
   ·obtain⟨t,ht,z⟩:=List.mem_flatMap.mp z
    exact yo d t (h1 t ht) c z
   ·rcases List.mem_cons.mp z with e|z
    ·rw[e];decide
    ·exact jx (by omega) c z
theorem uX{d:Nat}{ts:List Tr}(h:∀t∈ts,o9 d t):∀c∈ts.flatMap (ck d),c≠32:=fun c hc=>by
 obtain⟨t,ht,z⟩:=List.mem_flatMap.mp hc
 exact yo d t (h t ht) c z
theorem oQ{xs:List eU}{n:Int}(h:sF 4 xs n):∀c∈wL 4 xs n,c≠32:=by
 cases xs with
 |nil=>
  have:∀c∈[101,94,45],c≠32:=by decide
  exact this
 |cons x r=>
  obtain⟨_,ho,n1,n2⟩:=h
  intro c hc
  rcases List.mem_append.mp (show c∈x.2.flatMap (ck 4)++(cA 4 r++iA n) from hc) with z|z
  ·exact uX (ho x (List.mem_cons_self ..)).2.1 c z
  ·rcases List.mem_append.mp z with z|z
   ·obtain⟨y,hy,z⟩:=List.mem_flatMap.mp z
    obtain⟨_,o1,o2,o3⟩:=ho y (List.mem_cons_of_mem _ hy)
    rcases List.mem_cons.mp z with e|z
    ·rw[e];decide
    ·rcases List.mem_append.mp z with z|z
     ·exact jx (by omega) c z
     ·exact uX o1 c z
   ·unfold iA at z
    by_cases h0:n=0
    ·rw[if_pos h0] at z;cases z
    ·rw[if_neg h0] at z
     rcases List.mem_cons.mp z with e|z
     ·rw[e];decide
     ·rcases List.mem_append.mp z with z|z
      ·exact jx (by split<;>omega) c z
      ·have:c=if 0<n then 43 else 45:=by simpa using z
       rw[this]
       split<;>decide
theorem uY{xs:List eU}{n:Int}(h:sF 4 xs n):∃c r,wL 4 xs n=c::r∧Bg c:=by
 cases xs with
 |nil=>exact⟨101,_,rfl, .inr (.inr (.inr rfl))⟩
 |cons x r=>
  obtain⟨_,ho,_⟩:=h
  obtain⟨ne,ot,_⟩:=ho x (List.mem_cons_self ..)
  cases hx:x.2 with
  |nil=>exact absurd hx ne
  |cons t ts=>
   have ht:=ot t (by rw[hx];exact List.mem_cons_self ..)
   have e:wL 4 (x::r) n=ck 4 t++(ts.flatMap (ck 4)++(cA 4 r++iA n)):=by
    show x.2.flatMap (ck 4)++(cA 4 r++iA n)=_
    rw[hx,List.flatMap_cons,List.append_assoc]
   rw[e]
   cases t with
   |one k m=>
    obtain⟨⟨c,k',rfl,hg,_⟩,_⟩:=ht
    exact⟨c,_,rfl, .inr (.inl hg)⟩
   |gr Qq m=>exact⟨40,_,rfl, .inr (.inr (.inl rfl))⟩
theorem r8{p:List Nat}{b:Nat}{q:List Nat}(hp:p=32::b::q)(hb:b=43∨b=45){u v:List Nat}{t:Tm}(h:Fq u t v):gP p 0 u=gP p 0 v∧∃c r,u=c::r∧Bg c:=by
 obtain⟨w,⟨e,n1,n2,hl,hv⟩,hw⟩:=h
 have iF:p.head? =some 32:=by rw[hp];rfl
 have Td:=jx (n:=t.1) (by omega)
 rcases hw with ⟨t1,hW⟩ | ⟨t1,w',rfl,hW⟩
 ·obtain⟨ew,ok⟩:=hW.Mg
  obtain⟨c,r,ec,hc⟩:=uY ok
  rw[t1,gm] at e
  have e:u=w:=e
  rw[e,ew,dB iF v (oQ ok)]
  exact⟨rfl,c,r++v,by rw[ec];rfl,hc⟩
 ·obtain⟨ew,ok⟩:=hW.Mg
  obtain⟨c,r,ec,hc⟩:=uY ok
  obtain⟨m,em,m1,m0⟩:=kJ n1 (by omega)
  have jc:bc t.1≠[]:=by
   rw[em]
   exact rY fun z=>t1 (by rw[em,z];rfl)
  refine⟨?_,?_⟩
  ·rw[e,dB iF _ Td,ew,ec,hp,List.cons_append,cU _ (fun z=>by have:=hc.ne;omega),←List.cons_append,←ec,←hp]
   exact dB iF v (oQ ok)
  ·cases hf:bc t.1 with
   |nil=>exact absurd hf jc
   |cons c0 r0=>
    rw[hf] at e
    refine⟨c0,_,e, .inl ?_⟩
    have:=List.all_eq_true.mp (eo m) c0 (by rw[←em,hf];exact List.mem_cons_self ..)
    exact this
theorem CI{u:List Nat}{ts:List Tm}{v:List Nat}(h:vp u ts v):gP pJ 0 u+1=ts.length+gP pJ 0 v∧gP pA 0 u=gP pA 0 v∧∃c r,u=c::r∧Bg c:=by
 induction h with
 |one t v h=>
  obtain⟨h1,h3⟩:=r8 (p:=pJ) rfl (.inl rfl) h
  obtain⟨h2,_⟩:=r8 (p:=pA) rfl (.inr rfl) h
  exact⟨by rw[h1];show _=1+_;omega,h2,h3⟩
 |snoc ts w t v _ h ih=>
  obtain⟨h1,c,r,ec,hc⟩:=r8 (p:=pJ) rfl (.inl rfl) h
  obtain⟨h2,_⟩:=r8 (p:=pA) rfl (.inr rfl) h
  obtain⟨i1,i2,i3⟩:=ih
  have e1:gP pJ 0 (32::43::32::w)=1+gP pJ 0 w:=by
   unfold pJ
   rw[gP,if_pos (by simp [List.isPrefixOf])]
   rfl
  have e2:gP pA 0 (32::43::32::w)=gP pA 0 w:=by
   have n:=hc.ne
   rw[ec]
   unfold pA
   rw[cU _ (by decide),gP,if_neg (by simp [List.isPrefixOf]),cU _ (by omega)]
  rw[e1,h1] at i1
  rw[e2,h2] at i2
  exact⟨by rw[i1,List.length_append];show _=ts.length+1+_;omega,i2,i3⟩
theorem CJ{u:List Nat}{xs ys:List Tm}(h:Kw u xs ys):1+gP pJ 0 u+gP pA 0 u=xs.length+ys.length:=by
 obtain⟨w,h1,h2⟩:=h
 obtain⟨a1,a2,_⟩:=CI h1
 obtain⟨b1,b2,c,r,ec,hc⟩:=CI h2
 have n:=hc.ne
 have e1:gP pJ 0 (32::45::62::32::w)=gP pJ 0 w:=by
  rw[ec]
  unfold pJ
  rw[cU _ (by decide),gP,if_neg (by simp [List.isPrefixOf]),gP,if_neg (by simp [List.isPrefixOf]),cU _ (by omega)]
 have e2:gP pA 0 (32::45::62::32::w)=1+gP pA 0 w:=by
  unfold pA
  rw[gP,if_pos (by simp [List.isPrefixOf])]
  rfl
 rw[e1] at a1
 rw[e2] at a2
 have z1:gP pJ 0 []=0:=rfl
 have z2:gP pA 0 []=0:=rfl
 omega
def iD(x:Tm):List Nat:=bc x.1++((if x.1=1 then [] else [32])++GH x.2)
def Fw(xs:List Tm):List Nat:=xs.flatMap fun x=>[32,43,32]++iD x
def ml:List Tm→List Nat
 | []=>[]
 |x::r=>iD x++Fw r
theorem uZ(x:Tm):mY x=⟨(iD x).toArray⟩:=by
 unfold mY iD
 by_cases h:x.1=1
 ·rw[if_pos h,if_pos h,h,gm]
  rfl
 ·have e:(toString x.1 :Str)=⟨(bc x.1).toArray⟩:=by
   rw[←bL]
   unfold du
   rw[if_neg h]
  rw[if_neg h,if_neg h,e,S1,show (⟨#[32]⟩:Str)=⟨[32].toArray⟩ from rfl,aZ,aZ,List.append_assoc]
theorem u3:∀xs:List Tm,Str.join " + " (xs.map mY)=⟨(ml xs).toArray⟩
 | []=>rfl
 | [x]=>by
   show mY x=_
   rw[uZ]
   show _=(⟨(iD x++[]).toArray⟩:Str)
   rw[List.append_nil]
 |x::y::r=>by
  have ih:=u3 (y::r)
  show mY x++" + " ++Str.join " + " ((y::r).map mY)=_
  have ej:(" + " :Str)=⟨[32,43,32].toArray⟩:=by decide+kernel
  rw[ih,uZ,ej,aZ,aZ]
  congr 2
  show iD x++[32,43,32]++(iD y++Fw r)=iD x++(([32,43,32]++iD y)++Fw r)
  simp only [List.append_assoc]
theorem u4(xs:List Tm):IZ xs=⟨(ml xs).toArray⟩:=by
 unfold IZ
 have e:=PyProof.Rows.join_closes (sep:=" + ") (sep':=" + ") (ys:=xs.map mY) rfl
 rw[show Txt.join " + " (xs.map mY)=Str.join " + " (xs.map mY) by simpa using e]
 exact u3 xs
theorem CK(xs ys:List Tm):Mf xs ys=⟨(ml xs++[32,45,62,32]++ml ys).toArray⟩:=by
 unfold Mf
 have ea:(" -> " :Str)=⟨[32,45,62,32].toArray⟩:=by decide+kernel
 rw[u4,u4,ea,aZ,aZ]
theorem CL{ts:List Tm}(h:ts≠[])(t:Tm):ml (ts++[t])=ml ts++(32::43::32::iD t):=by
 cases ts with
 |nil=>exact absurd rfl h
 |cons x r=>
  show iD x++Fw (r++[t])=iD x++Fw r++_
  unfold Fw
  rw[List.flatMap_append,List.append_assoc]
  simp
def Ji(x:Tm):Prop:=1≤x.1∧x.1<10^12∧sF 4 x.2.1 x.2.2
theorem Fq.text{u v:List Nat}{t:Tm}(h:Fq u t v):u=iD t++v∧Ji t:=by
 obtain⟨w,⟨e,n1,n2,hl,hv⟩,hw⟩:=h
 unfold iD
 rcases hw with ⟨t1,hW⟩ | ⟨t1,w',rfl,hW⟩
 ·obtain⟨ew,ok⟩:=hW.Mg
  rw[if_pos t1,e,ew]
  exact⟨by simp [GH],n1,n2,ok⟩
 ·obtain⟨ew,ok⟩:=hW.Mg
  rw[if_neg t1,e,ew]
  exact⟨by simp [GH],n1,n2,ok⟩
theorem vp.text{u:List Nat}{ts:List Tm}{v:List Nat}(h:vp u ts v):u=ml ts++v∧ts≠[]∧∀x∈ts,Ji x:=by
 induction h with
 |one t v h=>
  obtain⟨e,o⟩:=h.text
  refine⟨?_,by simp,fun x hx=>?_⟩
  ·show u=iD t++[]++v
   rw[List.append_nil]
   exact e
  ·have:x=t:=by simpa using hx
   rw[this]
   exact o
 |snoc ts w t v _ h ih=>
  obtain⟨e,o⟩:=h.text
  obtain⟨i1,i2,i3⟩:=ih
  refine⟨?_,by simp,fun x hx=>?_⟩
  ·rw[CL i2,i1,e]
   simp
  ·rcases List.mem_append.mp hx with z|z
   ·exact i3 x z
   ·have:x=t:=by simpa using z
    rw[this]
    exact o
theorem yp{xs:List Tm}{x:Tm}(h:x∈xs):(wL 4 x.2.1 x.2.2).length≤(ml xs).length:=by
 have tl:∀y:Tm,(wL 4 y.2.1 y.2.2).length≤(iD y).length:=fun y=>by
  unfold iD GH
  rw[List.length_append,List.length_append]
  omega
 have jl:∀r:List Tm,x∈r→(wL 4 x.2.1 x.2.2).length≤(Fw r).length:=fun r hr=>by
  obtain⟨a,b,rfl⟩:=List.append_of_mem hr
  unfold Fw
  rw[List.flatMap_append,List.flatMap_cons,List.length_append,List.length_append,List.length_append]
  have:=tl x
  omega
 cases xs with
 |nil=>cases h
 |cons y r=>
  show _≤(iD y++Fw r).length
  rw[List.length_append]
  rcases List.mem_cons.mp h with e|e
  ·rw[e]
   have:=tl y
   omega
  ·have:=jl r e
   omega
theorem Fx{u:List Nat}{xs ys:List Tm}(h:Kw u xs ys)(hl:u.length≤400):Mf xs ys=⟨u.toArray⟩∧(∀x∈xs,pq x)∧∀x∈ys,pq x:=by
 obtain⟨w,h1,h2⟩:=h
 obtain⟨e1,n1,o1⟩:=vp.text h1
 obtain⟨e2,n2,o2⟩:=vp.text h2
 rw[List.append_nil] at e2
 have e:u=ml xs++[32,45,62,32]++ml ys:=by rw[e1,e2];simp
 have l:(ml xs).length≤400∧(ml ys).length≤400:=by
  rw[e,List.length_append,List.length_append] at hl
  omega
 have up:∀x:Tm,Ji x→(wL 4 x.2.1 x.2.2).length≤400→pq x:=fun x o hx=>⟨o.1,by have:=o.2.1;omega,o.2.2,hx⟩
 refine⟨by rw[CK,e],fun x hx=>up x (o1 x hx) (Nat.le_trans (yp hx) l.1),fun x hx=>up x (o2 x hx) (Nat.le_trans (yp hx) l.2)⟩
def wk:S8→Nat→List Nat→Option (S8×Nat)
 |s,dp,[]=>some (s,dp)
 |s,dp,c::r=>match fB s dp c with
  |none=>none
  |some (s',d')=>wk s' d' r
theorem yq:∀{l:List Nat} {c:Nat} {s s':S8} {dp d':Nat},wk s dp (l++[c])=some (s',d')→∃s1 d1,wk s dp l=some (s1,d1)∧fB s1 d1 c=some (s',d')
 | [],c,s,s',dp,d',h=>by
   rw[List.nil_append,wk] at h
   split at h
   ·cases h
   ·rename_i s1 d1 e
    cases h
    exact⟨s,dp,rfl,e⟩
 |b::r,c,s,s',dp,d',h=>by
  rw[List.cons_append,wk] at h
  split at h
  ·cases h
  ·rename_i s1 d1 e
   obtain⟨s2,d2,z1,z2⟩:=yq h
   exact⟨s2,d2,by rw[wk,e];exact z1,z2⟩
def md(u:List Nat):List Nat:=(u.reverse.takeWhile bK).reverse
def gv(u:List Nat):List Nat:=(u.reverse.dropWhile bK).reverse
theorem KA(u:List Nat):u=gv u++md u:=by
 unfold gv md
 rw[←List.reverse_append,List.takeWhile_append_dropWhile,List.reverse_reverse]
theorem kT(u:List Nat)(c:Nat):md (u++[c])=if bK c=true then md u++[c] else []:=by
 unfold md
 rw[List.reverse_append]
 show ((c::u.reverse).takeWhile bK).reverse=_
 rw[List.takeWhile_cons]
 by_cases h:bK c=true
 ·rw[if_pos h,if_pos h,List.reverse_cons]
 ·rw[if_neg h,if_neg h];rfl
theorem i5(u:List Nat)(c:Nat):gv (u++[c])=if bK c=true then gv u else u++[c]:=by
 unfold gv
 rw[List.reverse_append]
 show ((c::u.reverse).dropWhile bK).reverse=_
 rw[List.dropWhile_cons]
 by_cases h:bK c=true
 ·rw[if_pos h,if_pos h]
 ·rw[if_neg h,if_neg h,List.reverse_cons,List.reverse_reverse]
def E8(u:List Nat)(s:S8)(dp:Nat):Prop:=
 u.count 40=dp+u.count 41∧
 (s.nm= .start→u=[]∧dp=0∧s.al=false)∧
 (s.nm= .AH→u.getLast? =some 40)∧
 (s.nm= .part→(∃c,(gv u).getLast? =some c∧(gS c=true∨gk c=true∨c=41))∧s.fg=(md u).length∧(s.al=true↔md u=[49]))∧
 (s.nm= .dot→(gv u).getLast? =some 46∧dp=0)∧
 (s.nm= .bw→(gv u).getLast? =some 94∧dp=0)∧
 (s.nm= .fK→u=[101]∧dp=0)∧
 (s.nm= .minus→u=[101,94]∧dp=0)∧
 (s.nm= .stop→(∃c,u.getLast? =some c∧(c=43∨c=45))∧dp=0)
theorem u5(u:List Nat)(c b:Nat):(u++[c]).count b=u.count b+if c=b then 1 else 0:=by
 rw[List.count_append,List.count_singleton]
 by_cases h:c=b
 ·subst h;simp
 ·simp [h]
theorem E8.step{u:List Nat}{s s':S8}{dp d' c:Nat}(h:E8 u s dp)(e:fB s dp c=some (s',d')):E8 (u++[c]) s' d':=by
 obtain⟨h0,h1,h2,h3,h4,h5,h6,h7,h8⟩:=h
 have hk:∀{s':S8} {d':Nat},u.count 40+(if c=40 then 1 else 0)=d'+(u.count 41+if c=41 then 1 else 0)→(u++[c]).count 40=d'+(u++[c]).count 41:=fun {_ d'} z=>by
  rw[u5,u5]
  exact z
 have last:(u++[c]).getLast? =some c:=by simp
 unfold fB at e
 by_cases c1:bK c=true∧(s.nm= .part∨s.nm= .dot∨s.nm= .bw)
 ·rw[if_pos c1] at e
  obtain⟨hF,hn⟩:=c1
  unfold Cw at e
  split at e
  ·cases e
  ·cases e
   have nf:=fM hF
   have t1:md (u++[c])=md u++[c]:=by rw[kT,if_pos hF]
   have t2:gv (u++[c])=gv u:=by rw[i5,if_pos hF]
   refine⟨hk (s':=s) (by rw[if_neg nf.2.2.1,if_neg nf.2.2.2.1];omega),?_,?_,?_,?_,?_,?_,?_,?_⟩
   ·intro z;have z:s.nm= .start:=z;rcases hn with y|y|y<;>(rw[y] at z;cases z)
   ·intro z;have z:s.nm= .AH:=z;rcases hn with y|y|y<;>(rw[y] at z;cases z)
   ·intro z
    have z:s.nm= .part:=z
    obtain⟨p1,p2,p3⟩:=h3 z
    refine⟨by rw[t2];exact p1,by rw[t1,List.length_append];show s.fg+1=_;rw[p2];rfl,?_⟩
    show (decide (s.fg=0)&&decide (c=49))=true↔_
    rw[t1,p2]
    constructor
    ·intro y
     rw[Bool.and_eq_true,decide_eq_true_eq,decide_eq_true_eq] at y
     rw[List.length_eq_zero_iff.mp y.1,y.2]
     rfl
    ·intro y
     have ly:=congrArg List.length y
     rw[List.length_append] at ly
     have l0:(md u).length=0:=by simp at ly;rw[ly];rfl
     rw[List.length_eq_zero_iff.mp l0] at y
     have:c=49:=by simpa using y
     rw[this,l0]
     rfl
   ·intro z
    have z:s.nm= .dot:=z
    rw[t2]
    exact h4 z
   ·intro z
    have z:s.nm= .bw:=z
    rw[t2]
    exact h5 z
   ·intro z;have z:s.nm= .fK:=z;rcases hn with y|y|y<;>(rw[y] at z;cases z)
   ·intro z;have z:s.nm= .minus:=z;rcases hn with y|y|y<;>(rw[y] at z;cases z)
   ·intro z;have z:s.nm= .stop:=z;rcases hn with y|y|y<;>(rw[y] at z;cases z)
 rw[if_neg c1] at e
 by_cases c2:s.al=true∨s.nm= .stop
 ·rw[if_pos c2] at e;cases e
 rw[if_neg c2] at e
 by_cases c3:s.nm= .fK∨s.nm= .minus∨s.nm= .bw
 ·rw[if_pos c3] at e
  by_cases c4:c=rT s.nm∨s.nm= .bw∧c=45
  ·rw[if_pos c4] at e
   cases e
   have d0:dp=0:=by
    rcases c3 with z|z|z
    ·exact(h6 z).2
    ·exact(h7 z).2
    ·exact(h5 z).2
   have hc:c=94∧s.nm= .fK∨(c=43∨c=45)∧s.nm≠ .fK:=by
    rcases c3 with z|z|z
    ·left
     rcases c4 with y|y
     ·rw[z] at y;exact⟨y,z⟩
     ·rw[z] at y;cases y.1
    ·right
     rcases c4 with y|y
     ·rw[z] at y;exact⟨.inr y,by rw[z];decide⟩
     ·rw[z] at y;cases y.1
    ·right
     rcases c4 with y|y
     ·rw[z] at y;exact⟨.inl y,by rw[z];decide⟩
     ·exact⟨.inr y.2,by rw[z];decide⟩
   have n4:c≠40∧c≠41:=by
    rcases hc with ⟨z,_⟩ | ⟨z|z,_⟩<;>(rw[z];decide)
   refine⟨hk (s':=s) (by rw[if_neg n4.1,if_neg n4.2];omega),?_,?_,?_,?_,?_,?_,?_,?_⟩
   all_goals
    intro z
    rcases hc with ⟨hc,hr⟩ | ⟨hc,hr⟩
   any_goals (have z:(if s.nm= .fK then Nm.minus else .stop)=_:=z;rw[if_pos hr] at z;first| (cases z;done) |exact⟨by rw[(h6 hr).1,hc];rfl,d0⟩)
   any_goals (have z:(if s.nm= .fK then Nm.minus else .stop)=_:=z;rw[if_neg hr] at z;first| (cases z;done) |exact⟨⟨c,last,hc⟩,d0⟩)
  ·rw[if_neg c4] at e;cases e
 rw[if_neg c3] at e
 have nF:gS c=true∨gk c=true∨c=40∨c=41∨c=46∨c=94→bK c=false:=by
  intro z
  simp only [gS,gk,bK,Bool.and_eq_true,decide_eq_true_eq,Bool.and_eq_false_iff,decide_eq_false_iff_not] at*
  omega
 by_cases c5:gS c=true∨gk c=true
 ·rw[if_pos c5] at e
  have f0:bK c=false:=nF (c5.elim .inl fun z=> .inr (.inl z))
  have n4:c≠40∧c≠41:=by
   simp only [gS,gk,Bool.and_eq_true,decide_eq_true_eq] at c5
   omega
  have t1:md (u++[c])=[]:=by rw[kT,if_neg (by rw[f0];simp)]
  have t2:gv (u++[c])=u++[c]:=by rw[i5,if_neg (by rw[f0];simp)]
  have part:∀sm,E8 (u++[c]) ⟨.part,sm,0,false⟩ dp:=fun sm=>by
   refine⟨hk (s':=s) (by rw[if_neg n4.1,if_neg n4.2];omega),?_,?_,?_,?_,?_,?_,?_,?_⟩
   any_goals (intro z;cases z;done)
   intro _
   refine⟨⟨c,by rw[t2];exact last,c5.elim .inl fun z=> .inr (.inl z)⟩,by rw[t1];rfl,?_⟩
   rw[t1]
   exact⟨fun z=>(by cases z),fun z=>(by cases z)⟩
  unfold Cy at e
  split at e
  ·cases e;exact part 2
  ·split at e
   ·rename_i hh
    cases e
    obtain⟨u0,d0,_⟩:=h1 hh.1
    refine⟨hk (s':=s) (by rw[if_neg n4.1,if_neg n4.2];omega),?_,?_,?_,?_,?_,?_,?_,?_⟩
    any_goals (intro z;cases z;done)
    intro _
    rw[u0,hh.2]
    exact⟨rfl,d0⟩
   ·split at e
    ·cases e;exact part _
    ·cases e
 rw[if_neg c5] at e
 by_cases c6:c=40∧dp<4
 ·rw[if_pos c6] at e
  cases e
  refine⟨hk (s':=s) (by rw[if_pos c6.1,if_neg (by rw[c6.1];decide)];omega),?_,?_,?_,?_,?_,?_,?_,?_⟩
  any_goals (intro z;cases z;done)
  intro _
  rw[last,c6.1]
 rw[if_neg c6] at e
 by_cases c7:s.nm= .part∧c=41∧0<dp
 ·rw[if_pos c7] at e
  cases e
  have f0:bK c=false:=nF (.inr (.inr (.inr (.inl c7.2.1))))
  have t1:md (u++[c])=[]:=by rw[kT,if_neg (by rw[f0];simp)]
  have t2:gv (u++[c])=u++[c]:=by rw[i5,if_neg (by rw[f0];simp)]
  refine⟨hk (s':=s) (by rw[if_neg (by rw[c7.2.1];decide),if_pos c7.2.1];omega),?_,?_,?_,?_,?_,?_,?_,?_⟩
  any_goals (intro z;cases z;done)
  intro _
  refine⟨⟨c,by rw[t2];exact last, .inr (.inr c7.2.1)⟩,by rw[t1];rfl,?_⟩
  rw[t1]
  exact⟨fun z=>(by cases z),fun z=>(by cases z)⟩
 rw[if_neg c7] at e
 split at e
 ·rename_i hh
  cases e
  obtain⟨hp,hc,d0⟩:=hh
  have f0:bK c=false:=nF (.inr (.inr (.inr (.inr hc))))
  have t2:gv (u++[c])=u++[c]:=by rw[i5,if_neg (by rw[f0];simp)]
  have n4:c≠40∧c≠41:=by rcases hc with z|z<;>(rw[z];decide)
  refine⟨hk (s':=s) (by rw[if_neg n4.1,if_neg n4.2];omega),?_,?_,?_,?_,?_,?_,?_,?_⟩
  all_goals
   intro z
   have z:(if c=46 then Nm.dot else .bw)=_:=z
   by_cases rF:c=46
  any_goals (rw[if_pos rF] at z;first| (cases z;done) |exact⟨by rw[t2,last,rF],d0⟩)
  any_goals (rw[if_neg rF] at z;first| (cases z;done) |exact⟨by rw[t2,last,hc.resolve_left rF],d0⟩)
 ·cases e
theorem Mq:∀{u:List Nat} {s:S8} {dp:Nat},wk jw 0 u=some (s,dp)→E8 u s dp:=by
 intro u
 induction hn:u.length generalizing u with
 |zero=>
  intro s dp h
  have:u=[]:=List.length_eq_zero_iff.mp hn
  subst this
  cases h
  refine⟨rfl,?_,?_,?_,?_,?_,?_,?_,?_⟩
  any_goals (intro z;cases z;done)
  exact fun _=>⟨rfl,rfl,rfl⟩
 |succ n ih=>
  intro s dp h
  obtain⟨v,c,rfl⟩:∃v c,u=v++[c]:=⟨u.dropLast,u.getLast (by intro z;rw[z] at hn;cases hn),(List.dropLast_concat_getLast _).symm⟩
  obtain⟨s1,d1,w1,w2⟩:=yq h
  exact(ih (by simpa using hn) w1).step w2
def XZ(u:List Nat):Prop:=(u=[]∨(∃c,u.getLast? =some c∧(c=40∨c=46∨c=94))∨u=[101]∨u=[101,94])∨(md u=[49]∨(gv u).getLast? =some 94)∨u.count 41<u.count 40∨(gv u).getLast? =some 46
theorem Z0{u:List Nat}{s:S8}{dp:Nat}(h:wk jw 0 u=some (s,dp)):XZ u↔¬iq s dp:=by
 obtain⟨h0,h1,h2,h3,h4,h5,h6,h7,h8⟩:=Mq h
 cases hn:s.nm with
 |start=>exact⟨fun _ z=>(by rcases z with z|z;rw[hn] at z;cases z;rw[hn] at z;cases z.1),fun _=> .inl (.inl (h1 hn).1)⟩
 |AH=>exact⟨fun _ z=>(by rcases z with z|z;rw[hn] at z;cases z;rw[hn] at z;cases z.1),fun _=> .inl (.inr (.inl ⟨40,h2 hn, .inl rfl⟩))⟩
 |dot=>exact⟨fun _ z=>(by rcases z with z|z;rw[hn] at z;cases z;rw[hn] at z;cases z.1),fun _=> .inr (.inr (.inr (h4 hn).1))⟩
 |bw=>exact⟨fun _ z=>(by rcases z with z|z;rw[hn] at z;cases z;rw[hn] at z;cases z.1),fun _=> .inr (.inl (.inr (h5 hn).1))⟩
 |fK=>exact⟨fun _ z=>(by rcases z with z|z;rw[hn] at z;cases z;rw[hn] at z;cases z.1),fun _=> .inl (.inr (.inr (.inl (h6 hn).1)))⟩
 |minus=>exact⟨fun _ z=>(by rcases z with z|z;rw[hn] at z;cases z;rw[hn] at z;cases z.1),fun _=> .inl (.inr (.inr (.inr (h7 hn).1)))⟩
 |stop=>
  obtain⟨⟨c,hc,Ay⟩,d0⟩:=h8 hn
  have hF:bK c=false:=by rcases Ay with rfl|rfl<;>rfl
  have hu:u=u.dropLast++[c]:=by
   have jc:u≠[]:=fun z=>by rw[z] at hc;cases hc
   rw[List.getLast?_eq_some_getLast jc] at hc
   cases hc
   exact(List.dropLast_concat_getLast jc).symm
  have t1:md u=[]:=by rw[hu,kT,if_neg (by rw[hF];simp)]
  have t2:gv u=u:=by rw[hu,i5,if_neg (by rw[hF];simp)]
  refine⟨fun z=>?_,fun z=>absurd (.inl hn) z⟩
  exfalso
  rcases z with (z| ⟨b,hb,z⟩ |z|z) | (z|z) |z|z
  ·rw[z] at hc;cases hc
  ·rw[hc] at hb;cases hb;rcases Ay with rfl|rfl<;>(rcases z with z|z|z<;>cases z)
  ·rw[z] at hc;cases hc;rcases Ay with z|z<;>cases z
  ·rw[z] at hc;cases hc;rcases Ay with z|z<;>cases z
  ·rw[t1] at z;cases z
  ·rw[t2,hc] at z;cases z;rcases Ay with z|z<;>cases z
  ·omega
  ·rw[t2,hc] at z;cases z;rcases Ay with z|z<;>cases z
 |part=>
  obtain⟨⟨c,hc,Ay⟩,hf,DJ⟩:=h3 hn
  have nc:c≠40∧c≠46∧c≠94∧bK c=false:=by
   simp only [gS,gk,bK,Bool.and_eq_true,decide_eq_true_eq,Bool.and_eq_false_iff,decide_eq_false_iff_not] at*
   omega
  constructor
  ·rintro z (y| ⟨_,y1,y2⟩)
   ·rw[hn] at y;cases y
   ·rcases z with (z| ⟨b,hb,z⟩ |z|z) | (z|z) |z|z
    ·rw[z] at hc;cases hc
    ·
     by_cases ht:md u=[]
     ·have:gv u=u:=by have:=KA u;rw[ht,List.append_nil] at this;exact this.symm
      rw[this,hb] at hc
      cases hc
      rcases z with z|z|z
      ·exact nc.1 z
      ·exact nc.2.1 z
      ·exact nc.2.2.1 z
     ·have e:=KA u
      have:u.getLast? =(md u).getLast? :=by
       conv=>lhs;rw[e]
       rw[List.getLast?_append]
       cases hz:(md u).getLast? with
       |none=>exact absurd (List.getLast?_eq_none_iff.mp hz) ht
       |some b=>rfl
      rw[this] at hb
      have hm:=List.mem_of_getLast? hb
      have:bK b=true:=by
       unfold md at hm
       exact List.all_eq_true.mp List.all_takeWhile b (List.mem_reverse.mp hm)
      rcases z with rfl|rfl|rfl<;>cases this
    ·rw[z] at h
     have:s.nm= .fK:=by cases h;rfl
     rw[hn] at this;cases this
    ·rw[z] at h
     have:s.nm= .minus:=by cases h;rfl
     rw[hn] at this;cases this
    ·rw[DJ.mpr z] at y2;cases y2
    ·rw[hc] at z;cases z;exact nc.2.2.1 rfl
    ·omega
    ·rw[hc] at z;cases z;exact nc.2.1 rfl
  ·intro z
   by_cases hd:dp=0
   ·have:s.al=true:=by
     cases e:s.al with
     |true=>rfl
     |false=>exact absurd (.inr ⟨hn,hd,e⟩) z
    exact .inr (.inl (.inl (DJ.mp this)))
   ·exact .inr (.inr (.inl (by omega)))
theorem Tf{n:Int}(h1:1≤n)(h2:n≤999):(bc n).length≤3:=by
 have:=dO h1 h2
 rwa [bL,az] at this
theorem jA.Qz{n:Int}{v:List Nat}(n1:1≤n)(n2:n≤999)(h:Not bK v):jA 3 (bc n++v) n v:=⟨rfl,n1,by omega,Tf n1 n2, .inl h⟩
theorem jG.X0{k v:List Nat}{n:Int}(hk:rn k)(n1:1≤n)(n2:n≤999)(h:Not bK v)(hs:Not gk v):jG ((k++bc n)++v) k n v:=
 ⟨bc n++v,List.append_assoc ..,hk, .inr (EM (BN n1 n2) hs), .Qz n1 n2 h⟩
theorem Stop.more{v:List Nat}(h:Stop v):¬More v:=fun⟨c,hc,z⟩=>by
 rcases z with z|z
 ·rw[h.2.2.1 c hc] at z;cases z
 ·have:=h.2.2.2 c hc
  simp [z] at this
theorem Sq.Tg{d:Nat}(hp:∀t v,o9 d t→Not bK v→Not gk v→jW d (ck d t++v) t v){ts:List Tr}(jc:ts≠[])(ho:∀t∈ts,o9 d t){v:List Nat}(hs:Stop v):DG (jW d) (ts.flatMap (ck d)++v) ts v:=by
 have step:∀i,i<ts.length→Sq (jW d) (ts.flatMap (ck d)++v) (ts.take (i+1)) ((ts.drop (i+1)).flatMap (ck d)++v):=by
  intro i
  induction i with
  |zero=>
   intro h
   have e:ts=ts[0]::ts.drop 1:=by have:=list_at h;simpa using this
   have nn:=n9 (d:=d) (ts:=ts.drop 1) (fun t ht=>ho t (List.mem_of_mem_drop ht)) hs
   have:=Sq.one (p:=jW d) (u:=ts.flatMap (ck d)++v) ts[0] ((ts.drop 1).flatMap (ck d)++v) (by
    have e2:ts.flatMap (ck d)++v=ck d ts[0]++((ts.drop 1).flatMap (ck d)++v):=by
     conv=>lhs;rw[e]
     rw[List.flatMap_cons,List.append_assoc]
    rw[e2]
    exact hp _ _ (ho _ (List.getElem_mem h)) nn.1 nn.2)
   have e1:ts.take 1=[ts[0]]:=by rw[List.take_add_one,List.getElem?_eq_getElem h];rfl
   rw[Nat.zero_add,e1]
   exact this
  |succ i ih=>
   intro h
   have q:=ih (by omega)
   have e:ts.drop (i+1)=ts[i+1]::ts.drop (i+2):=List.drop_eq_getElem_cons h
   have Ks:=ho _ (List.getElem_mem h)
   have nn:=n9 (d:=d) (ts:=ts.drop (i+2)) (fun t ht=>ho t (List.mem_of_mem_drop ht)) hs
   obtain⟨c,r,hc,ht⟩:=rA Ks
   have em:(ts.drop (i+1)).flatMap (ck d)++v=ck d ts[i+1]++((ts.drop (i+2)).flatMap (ck d)++v):=by rw[e,List.flatMap_cons,List.append_assoc]
   rw[em] at q
   rw[List.take_add_one,List.getElem?_eq_getElem h]
   refine .snoc _ _ _ _ q ⟨c,by rw[hc];rfl,ht.imp (·.1) (·.1)⟩ (hp _ _ Ks nn.1 nn.2)
 have hl:0<ts.length:=List.length_pos_iff.mpr jc
 have:=step (ts.length - 1) (by omega)
 rw[show ts.length - 1+1=ts.length by omega,List.take_length,List.drop_eq_nil_of_le (Nat.le_refl _)] at this
 exact⟨this,hs.more⟩
theorem jW.Ti:∀(d:Nat) (t:Tr) (v:List Nat),o9 d t→Not bK v→Not gk v→jW d (ck d t++v) t v
 |0, .one k n,v,h,hf,hs=>⟨k,n,rfl, .X0 h.1 h.2.1 h.2.2 hf hs⟩
 |0, .gr _ _,_,h,_,_=>h.elim
 |d+1, .one k n,v,h,hf,hs=>by
  refine .inl ⟨?_,k,n,rfl, .X0 h.1 h.2.1 h.2.2 hf hs⟩
  obtain⟨c,r,rfl,hg,_⟩:=h.1
  intro z
  have:c=40:=by simpa [ck] using z
  subst this
  cases hg
 |d+1, .gr ts n,v,⟨jc,ho,n1,n2⟩,hf,hs=>by
  refine .inr ⟨ts.flatMap (ck d)++41::(bc n++v),ts,n,bc n++v,?_,rfl,Sq.Tg (jW.Ti d) jc ho (Iy _), .Qz n1 n2 hf⟩
  show 40::(ts.flatMap (ck d)++41::bc n)++v=_
  simp
theorem vk.Z3{x:eU}{r:List eU}(x1:x.1=1)(ho:∀y∈x::r,Gs 4 y){v:List Nat}(hs:∀ys:List eU,Stop (cA 4 ys++v)):vk (x.2.flatMap (ck 4)++(cA 4 r++v)) (x::r) v:=by
 have step:∀i,i≤r.length→vk (x.2.flatMap (ck 4)++(cA 4 r++v)) (x::r.take i) (cA 4 (r.drop i)++v):=by
  intro i
  induction i with
  |zero=>
   intro _
   obtain⟨ne,o,_⟩:=ho x (List.mem_cons_self ..)
   have:=vk.one x.2 (cA 4 r++v) (Sq.Tg (jW.Ti 4) ne o (hs r))
   rw[←x1] at this
   exact this
  |succ i ih=>
   intro h
   have q:=ih (by omega)
   have hi:i<r.length:=h
   have e:r.drop i=r[i]::r.drop (i+1):=List.drop_eq_getElem_cons hi
   obtain⟨ne,o,n1,n2⟩:=ho r[i] (List.mem_cons_of_mem _ (List.getElem_mem hi))
   have em:cA 4 (r.drop i)++v=46::(bc r[i].1++(r[i].2.flatMap (ck 4)++(cA 4 (r.drop (i+1))++v))):=by
    rw[e]
    unfold cA jF
    rw[List.flatMap_cons]
    simp
   rw[em] at q
   have st:=hs (r.drop (i+1))
   have nn:=n9 o st
   have:=vk.snoc _ _ r[i].1 _ r[i].2 _ q (.Qz n1 n2 nn.1) (Sq.Tg (jW.Ti 4) ne o st)
   rw[List.take_add_one,List.getElem?_eq_getElem hi]
   exact this
 have:=step r.length (Nat.le_refl _)
 rw[List.take_length,List.drop_eq_nil_of_le (Nat.le_refl _)] at this
 exact this
theorem DH.Z4{xs:List eU}{n:Int}(h:sF 4 xs n):DH (wL 4 xs n) xs n []:=by
 cases xs with
 |nil=>
  have:n= -1:=h
  subst this
  exact .inl ⟨rfl,rfl,rfl⟩
 |cons x r=>
  obtain⟨x1,ho,n1,n2⟩:=h
  obtain⟨ne,o,_⟩:=ho x (List.mem_cons_self ..)
  refine .inr ⟨?_,iA n,?_,?_,?_⟩
  ·have t0:0<x.2.length:=List.length_pos_iff.mpr ne
   obtain⟨c,rest,hc,ht⟩:=rA (o _ (List.getElem_mem t0))
   have e:x.2=x.2[0]::x.2.drop 1:=by have:=list_at t0;simpa using this
   intro z
   have:c=101:=by
    rw[show wL 4 (x::r) n=x.2.flatMap (ck 4)++(cA 4 r++iA n) from rfl,e,List.flatMap_cons,hc] at z
    simpa using z
   subst this
   rcases ht with ⟨hg,_⟩ | ⟨z,_⟩
   ·cases hg
   ·cases z
  ·exact vk.Z3 x1 ho fun ys=>by
    have:=zT 4 ys n (post:=[]) (.inl rfl)
    rwa [List.append_nil] at this
  ·rcases x2 n with e| ⟨rr,e⟩<;>rw[e]<;>simp
  ·by_cases h0:n=0
   ·subst h0
    exact .inl ⟨by simp [iA],rfl,rfl⟩
   ·refine .inr ⟨bc (if n<0 then -n else n)++[if 0<n then 43 else 45],(if n<0 then -n else n),[if 0<n then 43 else 45],by unfold iA;rw[if_neg h0], .Qz (by split<;>omega) (by split<;>omega) (fun c hc=>?_),?_⟩
    ·have e:(if 0<n then 43 else 45)=c:=by simpa using hc
     rw[←e]
     split<;>rfl
    ·by_cases hp:0<n
     ·right
      rw[if_pos hp,if_neg (by omega)]
      exact⟨rfl,rfl⟩
     ·left
      rw[if_neg hp,if_pos (by omega)]
      exact⟨rfl,by omega⟩
def fk:S5→Nat→Bool→List Nat→Option (S5×Nat×Bool)
 |s,dp,rt,[]=>some (s,dp,rt)
 |s,dp,rt,c::r=>match dm s dp (rt||decide (s.nm= .head)) c with
  |none=>none
  |some s'=>fk s' (l9 dp c) (rt||decide (s.nm= .head)) r
theorem j0{s s':S5}{dp c:Nat}{rt:Bool}{r:List Nat}(h:dm s dp (rt||decide (s.nm= .head)) c=some s'):fk s dp rt (c::r)=fk s' (l9 dp c) (rt||decide (s.nm= .head)) r:=by rw[fk,h]
theorem eB:∀{l m:List Nat} {s s':S5} {dp d':Nat} {rt r':Bool},fk s dp rt l=some (s',d',r')→fk s dp rt (l++m)=fk s' d' r' m
 | [],m,s,s',dp,d',rt,r',h=>by cases h;rfl
 |c::r,m,s,s',dp,d',rt,r',h=>by
  rw[fk] at h
  split at h
  ·cases h
  ·rename_i s1 e
   rw[List.cons_append,j0 e,eB h]
theorem oR:∀{l m:List Nat} {s s':S5} {dp d':Nat} {rt r':Bool},fk s dp rt l=some (s',d',r')→dA s dp rt (l++m)=dA s' d' r' m
 | [],m,s,s',dp,d',rt,r',h=>by cases h;rfl
 |c::r,m,s,s',dp,d',rt,r',h=>by
  rw[fk] at h
  split at h
  ·cases h
  ·rename_i s1 e
   rw[List.cons_append,fN e,oR h]
theorem sh:∀{l m:List Nat} {s:S5} {dp:Nat} {rt:Bool} {p:S5×Nat×Bool},fk s dp rt (l++m)=some p→∃q,fk s dp rt l=some q
 | [],m,s,dp,rt,p,_=>⟨_,rfl⟩
 |c::r,m,s,dp,rt,p,h=>by
  rw[List.cons_append,fk] at h
  split at h
  ·cases h
  ·rename_i s1 e
   obtain⟨q,z⟩:=sh h
   exact⟨q,by rw[fk,e];exact z⟩
theorem u6:∀{l:List Nat} {c:Nat} {s s':S5} {dp d':Nat} {rt r':Bool},fk s dp rt (l++[c])=some (s',d',r')→∃s1 d1 r1,fk s dp rt l=some (s1,d1,r1)∧dm s1 d1 r' c=some s'∧d'=l9 d1 c∧r'=(r1||decide (s1.nm= .head))
 | [],c,s,s',dp,d',rt,r',h=>by
   rw[List.nil_append,fk] at h
   split at h
   ·cases h
   ·rename_i s1 e
    cases h
    exact⟨s,dp,rt,rfl,e,rfl,rfl⟩
 |b::r,c,s,s',dp,d',rt,r',h=>by
  rw[List.cons_append,fk] at h
  split at h
  ·cases h
  ·rename_i s1 e
   obtain⟨s2,d2,r2,z1,z2⟩:=u6 h
   exact⟨s2,d2,r2,by rw[fk,e];exact z1,z2⟩
def j5(l:List Nat):List Nat:=l.foldl (fun t c=>if c=32 then [] else t++[c]) []
theorem i6(l:List Nat)(c:Nat):j5 (l++[c])=if c=32 then [] else j5 l++[c]:=by
 unfold j5
 rw[List.foldl_append]
 rfl
def E5(l:List Nat)(s:S5)(dp:Nat)(rt:Bool):Prop:=
 ((∃s8,s=up s8∧wk jw 0 (j5 l)=some (s8,dp)∧J8 s8 dp)∨
   (dp=0∧s.al=false∧s.nm= .term∧j5 l=[])∨
   (dp=0∧s.nm= .count∧j5 l≠[]∧(j5 l).all bK=true)∨
   (dp=0∧s.al=false∧s.nm= .gap∧j5 l=[]∧∃m,l=m++[32])∨
   (dp=0∧s.al=false∧s.nm= .plus∧j5 l=[43])∨
   (dp=0∧s.al=false∧s.nm= .dash∧j5 l=[45]∧∃m,l=m++[32,45])∨
   (dp=0∧s.al=false∧s.nm= .head∧j5 l=[45,62]∧∃m,l=m++[32,45,62]))
theorem CM{u:List Nat}{c:Nat}{s s':S8}{dp d':Nat}:∀{s0:S8} {d0:Nat},wk s0 d0 u=some (s,dp)→fB s dp c=some (s',d')→wk s0 d0 (u++[c])=some (s',d'):=by
 induction u with
 |nil=>
  intro s0 d0 h e
  cases h
  rw[List.nil_append,wk,e]
  rfl
 |cons b r ih=>
  intro s0 d0 h e
  rw[wk] at h
  rw[List.cons_append,wk]
  split at h
  ·cases h
  ·rename_i s1 d1 e1
   exact ih h e
theorem E5.step{l:List Nat}{s s':S5}{dp c:Nat}{rt AK:Bool}(h:E5 l s dp rt)(e:dm s dp AK c=some s'):E5 (l++[c]) s' (l9 dp c) AK:=by
 unfold E5
 rw[i6]
 rcases h with ⟨s8,rfl,hw,hj⟩ | ⟨rfl,ha,hn,ht⟩ | ⟨rfl,hn,jc,ht⟩ | ⟨rfl,ha,hn,ht,Tj⟩ | ⟨rfl,ha,hn,ht⟩ | ⟨rfl,ha,hn,ht,m,hm⟩ | ⟨rfl,ha,hn,ht,m,hm⟩
 ·rw[uV s8 dp AK c hj.st] at e
  by_cases iF:c=32∧iq s8 dp
  ·rw[if_pos iF] at e
   cases e
   have h0:dp=0:=by
    rcases iF.2 with z|z
    ·exact hj.z (by rw[z];decide) (by rw[z];decide)
    ·exact z.2.1
   right;right;right;left
   rw[if_pos iF.1,iF.1,h0]
   exact⟨rfl,rfl,rfl,rfl,l,rfl⟩
  ·rw[if_neg iF] at e
   cases hz:fB s8 dp c with
   |none=>rw[hz] at e;cases e
   |some p=>
    obtain⟨s9,d9⟩:=p
    rw[hz] at e
    cases e
    have Jj:c≠32:=fun z=>by rw[z,wI] at hz;cases hz
    left
    rw[if_neg Jj,←yk hz]
    exact⟨s9,rfl,CM hw hz,hj.go hz⟩
 ·by_cases hF:bK c=true
  ·have yY:=fM hF
   have Jj:c≠32:=fun z=>by rw[z] at hF;cases hF
   unfold dm AJ at e
   rw[if_pos hF,if_pos hn] at e
   split at e
   ·cases e
   ·cases e
    right;right;left
    rw[if_neg Jj,ht]
    refine⟨?_,rfl,by simp,by simp [hF]⟩
    unfold l9
    rw[if_neg yY.2.2.1,if_neg yY.2.2.2.1]
  ·have e2:dm (up jw) 0 AK c=some s':=by
    rw[←e]
    obtain⟨nm,sm,fg,al⟩:=s
    cases hn
    cases ha
    unfold dm Jd lP
    simp [up,yj,jw,hF,m9]
   rw[uV jw 0 AK c (fun z=>by cases z)] at e2
   have na:¬(c=32∧iq jw 0):=fun z=>by rcases z.2 with y|y;cases y;cases y.1
   rw[if_neg na] at e2
   cases hz:fB jw 0 c with
   |none=>rw[hz] at e2;cases e2
   |some p=>
    obtain⟨s9,d9⟩:=p
    rw[hz] at e2
    cases e2
    have Jj:c≠32:=fun z=>by rw[z,wI] at hz;cases hz
    left
    rw[if_neg Jj,←yk hz,ht]
    exact⟨s9,rfl,CM (u:=[]) rfl hz,Kz.go hz⟩
 ·by_cases hF:bK c=true
  ·have yY:=fM hF
   have Jj:c≠32:=fun z=>by rw[z] at hF;cases hF
   unfold dm AJ at e
   rw[if_pos hF,if_neg (by rw[hn];decide),if_pos (by rw[hn];simp),if_pos hn] at e
   split at e
   ·cases e
   ·cases e
    right;right;left
    rw[if_neg Jj]
    refine⟨?_,hn,by simp,by simp [hF];exact fun x hx=>List.all_eq_true.mp ht x hx⟩
    unfold l9
    rw[if_neg yY.2.2.1,if_neg yY.2.2.2.1]
  ·unfold dm at e
   rw[if_neg hF] at e
   split at e
   ·cases e
   ·rw[if_pos (by rw[hn];simp [m9])] at e
    unfold sG at e
    rw[hn] at e
    simp [rX,wR] at e
    obtain⟨rfl,rfl⟩:=e
    left
    rw[if_pos rfl]
    exact⟨jw,rfl,rfl,Kz⟩
 ·obtain⟨nm,sm,fg,al⟩:=s
  cases hn
  cases ha
  have hF:bK c=false:=by
   cases z:bK c with
   |false=>rfl
   |true=>unfold dm at e;rw[if_pos z] at e;simp at e
  have e3:sG .gap AK c=some s':=by
   rw[←e]
   unfold dm
   simp [hF,m9]
  unfold sG at e3
  rw[if_neg (by simp)] at e3
  by_cases lY:c=45∧AK=false
  ·rw[if_pos ⟨rfl,lY.1,lY.2⟩] at e3
   cases e3
   right;right;right;right;right;left
   rw[lY.1,if_neg (by decide),ht]
   obtain⟨m,hm⟩:=Tj
   exact⟨rfl,rfl,rfl,rfl,m,by rw[hm,List.append_assoc];rfl⟩
  ·rw[if_neg (fun z=>lY z.2)] at e3
   simp [rX,wR] at e3
   obtain⟨rfl,rfl⟩:=e3
   right;right;right;right;left
   rw[if_neg (by decide),ht]
   exact⟨rfl,rfl,rfl,rfl⟩
 ·obtain⟨nm,sm,fg,al⟩:=s
  cases hn
  cases ha
  have hF:bK c=false:=by
   cases z:bK c with
   |false=>rfl
   |true=>unfold dm at e;rw[if_pos z] at e;simp at e
  unfold dm sG at e
  simp [hF,m9,rX,wR] at e
  obtain⟨rfl,rfl⟩:=e
  right;left
  rw[if_pos rfl]
  exact⟨rfl,rfl,rfl,rfl⟩
 ·obtain⟨nm,sm,fg,al⟩:=s
  cases hn
  cases ha
  have hF:bK c=false:=by
   cases z:bK c with
   |false=>rfl
   |true=>unfold dm at e;rw[if_pos z] at e;simp at e
  unfold dm sG at e
  simp [hF,m9,rX,wR] at e
  obtain⟨rfl,rfl⟩:=e
  right;right;right;right;right;right
  rw[if_neg (by decide),ht]
  exact⟨rfl,rfl,rfl,rfl,m,by rw[hm,List.append_assoc];rfl⟩
 ·obtain⟨nm,sm,fg,al⟩:=s
  cases hn
  cases ha
  have hF:bK c=false:=by
   cases z:bK c with
   |false=>rfl
   |true=>unfold dm at e;rw[if_pos z] at e;simp at e
  unfold dm sG at e
  simp [hF,m9,rX,wR] at e
  obtain⟨rfl,rfl⟩:=e
  right;left
  rw[if_pos rfl]
  exact⟨rfl,rfl,rfl,rfl⟩
def Fy(l:List Nat):Prop:=∃a b,l=a++pA++b
theorem Mr:E5 [] t5 0 false:= .inr (.inl ⟨rfl,rfl,rfl,rfl⟩)
theorem Fz{s s':S5}{dp c:Nat}{rt:Bool}(hn:s.nm= .head)(ha:s.al=false)(e:dm s dp rt c=some s'):c=32:=by
 obtain⟨nm,sm,fg,al⟩:=s
 cases hn
 cases ha
 have hF:bK c=false:=by
  cases z:bK c with
  |false=>rfl
  |true=>unfold dm at e;rw[if_pos z] at e;simp at e
 unfold dm sG at e
 simp [hF,m9,rX,wR] at e
 exact e.1
theorem E5.head{l:List Nat}{s:S5}{dp:Nat}{rt:Bool}(h:E5 l s dp rt)(hn:s.nm= .head):s.al=false∧∃m,l=m++[32,45,62]:=by
 rcases h with ⟨s8,rfl,_,_⟩ | ⟨_,_,h,_⟩ | ⟨_,h,_⟩ | ⟨_,_,h,_⟩ | ⟨_,_,h,_⟩ | ⟨_,_,h,_⟩ | ⟨_,ha,h,_,m,hm⟩
 ·exact absurd hn (nh s8)
 all_goals first|exact⟨ha,m,hm⟩ | (rw[hn] at h;cases h)
theorem E5.tail{l:List Nat}{s:S5}{dp:Nat}{rt:Bool}(h:E5 l s dp rt)(ht:j5 l=[45,62]):s.nm= .head:=by
 rcases h with ⟨s8,rfl,hw,_⟩ | ⟨_,_,_,h⟩ | ⟨_,_,_,h⟩ | ⟨_,_,_,h,_⟩ | ⟨_,_,_,h⟩ | ⟨_,_,_,h,_⟩ | ⟨_,_,h,_⟩
 ·rw[ht] at hw;cases hw
 ·rw[ht] at h;cases h
 ·rw[ht] at h;cases h
 ·rw[ht] at h;cases h
 ·rw[ht] at h;cases h
 ·rw[ht] at h;cases h
 ·exact h
theorem CN:∀{l:List Nat} {s:S5} {dp:Nat} {rt:Bool},fk t5 0 false l=some (s,dp,rt)→E5 l s dp rt∧(rt=true↔Fy l):=by
 intro l
 induction hn:l.length generalizing l with
 |zero=>
  intro s dp rt h
  have:l=[]:=List.length_eq_zero_iff.mp hn
  subst this
  cases h
  refine⟨Mr,fun z=>(by cases z),fun⟨a,b,z⟩=>?_⟩
  have:=congrArg List.length z
  rw[List.length_append,List.length_append] at this
  have h4:pA.length=4:=rfl
  rw[h4] at this
  simp at this
  omega
 |succ n ih=>
  intro s dp rt h
  obtain⟨v,c,rfl⟩:∃v c,l=v++[c]:=⟨l.dropLast,l.getLast (by intro z;rw[z] at hn;cases hn),(List.dropLast_concat_getLast _).symm⟩
  obtain⟨s1,d1,r1,w1,w2,rfl,rfl⟩:=u6 h
  obtain⟨i1,i2⟩:=ih (by simpa using hn) w1
  refine⟨i1.step w2,fun z=>?_,fun⟨a,b,z⟩=>?_⟩
  ·rw[Bool.or_eq_true,decide_eq_true_eq] at z
   rcases z with z|z
   ·obtain⟨a,b,e⟩:=i2.mp z
    exact⟨a,b++[c],by rw[e];simp⟩
   ·obtain⟨ha,m,hm⟩:=i1.head z
    refine⟨m,[],?_⟩
    rw[Fz z ha w2,hm]
    simp [pA]
  ·rw[Bool.or_eq_true,decide_eq_true_eq]
   rcases List.eq_nil_or_concat b with rfl| ⟨b',d,rfl⟩
   ·right
    have z2:v++[c]=(a++[32,45,62])++[32]:=by rw[z];simp [pA]
    have hv:=(List.append_inj' z2 rfl).1
    refine i1.tail ?_
    rw[hv,show a++[32,45,62]=((a++[32])++[45])++[62] by simp,i6,i6,i6]
    rfl
   ·left
    have z2:v++[c]=(a++pA++b')++[d]:=by rw[z];simp
    exact i2.mpr ⟨a,b',(List.append_inj' z2 rfl).1⟩
def Ms(t:List Nat):Prop:=(t=[]∨t=[43]∨t=[45]∨t=[45,62]∨t=[101]∨t=[101,94])∨(t≠[]∧t.all bK=true)∨
 ((∃c,t.getLast? =some c∧(c=40∨c=46∨c=94))∨md t=[49]∨(gv t).getLast? =some 94∨(gv t).getLast? =some 46)∨t.count 41<t.count 40
def DK(l:List Nat):Prop:=¬Fy l∨Ms (j5 l)
theorem yr{c:Nat}(h:bK c=true):fB jw 0 c=none:=by
 have n:=fM h
 unfold fB Cy
 simp [jw,n.1,n.2.1,n.2.2.1,n.2.2.2.1]
theorem Z5{l:List Nat}{s:S5}{dp:Nat}{rt:Bool}(h:fk t5 0 false l=some (s,dp,rt)):DK l↔¬(rt=true∧lP s dp):=by
 obtain⟨i1,i2⟩:=CN h
 have key:Ms (j5 l)↔¬lP s dp:=by
  rcases i1 with ⟨s8,rfl,hw,_⟩ | ⟨_,_,hn,ht⟩ | ⟨_,hn,jc,ht⟩ | ⟨_,_,hn,ht,_⟩ | ⟨_,_,hn,ht⟩ | ⟨_,_,hn,ht,_⟩ | ⟨_,_,hn,ht,_⟩
  ·rw[uU,←Z0 hw]
   unfold Ms XZ
   constructor
   ·rintro ((z|z|z|z|z|z) | ⟨z1,z2⟩ | (z|z|z|z) |z)
    ·exact .inl (.inl z)
    ·rw[z] at hw;cases hw
    ·rw[z] at hw;cases hw
    ·rw[z] at hw;cases hw
    ·exact .inl (.inr (.inr (.inl z)))
    ·exact .inl (.inr (.inr (.inr z)))
    ·obtain⟨c,r,hc⟩:∃c r,j5 l=c::r:=by
      cases hz:j5 l with
      |nil=>exact absurd hz z1
      |cons c r=>exact⟨c,r,rfl⟩
     rw[hc] at hw z2
     rw[wk,yr (List.all_eq_true.mp z2 c (List.mem_cons_self ..))] at hw
     cases hw
    ·exact .inl (.inr (.inl z))
    ·exact .inr (.inl (.inl z))
    ·exact .inr (.inl (.inr z))
    ·exact .inr (.inr (.inr z))
    ·exact .inr (.inr (.inl z))
   ·rintro ((z|z|z|z) | (z|z) |z|z)
    ·exact .inl (.inl z)
    ·exact .inr (.inr (.inl (.inl z)))
    ·exact .inl (.inr (.inr (.inr (.inr (.inl z)))))
    ·exact .inl (.inr (.inr (.inr (.inr (.inr z)))))
    ·exact .inr (.inr (.inl (.inr (.inl z))))
    ·exact .inr (.inr (.inl (.inr (.inr (.inl z)))))
    ·exact .inr (.inr (.inr z))
    ·exact .inr (.inr (.inl (.inr (.inr (.inr z)))))
  all_goals
   have nc:¬lP s dp:=by
    rintro (z|z)
    ·rw[hn] at z;cases z
    ·rw[hn] at z;cases z.1
   refine⟨fun _=>nc,fun _=>?_⟩
  ·exact .inl (.inl ht)
  ·exact .inr (.inl ⟨jc,ht⟩)
  ·exact .inl (.inl ht)
  ·exact .inl (.inr (.inl ht))
  ·exact .inl (.inr (.inr (.inl ht)))
  ·exact .inl (.inr (.inr (.inr (.inl ht))))
 unfold DK
 rw[key,←i2]
 by_cases hr:rt=true<;>by_cases hc:lP s dp<;>simp [hr,hc]
theorem Jk{l:List Nat}{s:S5}{dp:Nat}{rt:Bool}(h:fk t5 0 false l=some (s,dp,rt)):(DK l→dA t5 0 false l=some [])∧(¬DK l→dA t5 0 false l=none):=by
 have e:dA t5 0 false l=dA s dp rt []:=by
  have:=oR (m:=[]) h
  rwa [List.append_nil] at this
 rw[e,dA,Z5 h]
 exact⟨fun z=>if_neg z,fun z=>if_pos (Classical.not_not.mp z)⟩
theorem nj{α β:Type}{f g:α→List β}:∀{xs:List α},(∀x∈xs,f x=g x)→xs.flatMap f=xs.flatMap g
 | [],_=>rfl
 |x::r,h=>by rw[List.flatMap_cons,List.flatMap_cons,h x (List.mem_cons_self ..),nj fun y hy=>h y (List.mem_cons_of_mem _ hy)]
theorem yt:∀(d:Nat) (t:Tr),o9 d t→o9 (d+1) t∧ck (d+1) t=ck d t
 |d, .one k n,h=>by
  have h:rn k∧1≤n∧n≤999:=by cases d<;>exact h
  exact⟨h,by cases d<;>rfl⟩
 |0, .gr _ _,h=>h.elim
 |d+1, .gr ts n,⟨h1,h2,h3⟩=>by
  refine⟨⟨h1,fun t ht=>(yt d t (h2 t ht)).1,h3⟩,?_⟩
  show 40::(ts.flatMap (ck (d+1))++41::bc n)=40::(ts.flatMap (ck d)++41::bc n)
  rw[nj fun t ht=>(yt d t (h2 t ht)).2]
theorem w_up{d:Nat}{xs:List eU}{n:Int}(h:sF d xs n):sF (d+1) xs n∧wL (d+1) xs n=wL d xs n:=by
 cases xs with
 |nil=>exact⟨h,rfl⟩
 |cons x r=>
  obtain⟨x1,ho,n1⟩:=h
  have hx:∀y∈x::r,Gs (d+1) y∧y.2.flatMap (ck (d+1))=y.2.flatMap (ck d):=fun y hy=>by
   obtain⟨a1,a2,a3⟩:=ho y hy
   exact⟨⟨a1,fun t ht=>(yt d t (a2 t ht)).1,a3⟩,nj fun t ht=>(yt d t (a2 t ht)).2⟩
  refine⟨⟨x1,fun y hy=>(hx y hy).1,n1⟩,?_⟩
  show x.2.flatMap (ck (d+1))++(cA (d+1) r++iA n)=x.2.flatMap (ck d)++(cA d r++iA n)
  rw[(hx x (List.mem_cons_self ..)).2]
  congr 2
  unfold cA jF
  exact nj fun y hy=>by rw[(hx y (List.mem_cons_of_mem _ hy)).2]
theorem Mt{xs:List eU}{n:Int}(h:sF 1 xs n):sF 4 xs n∧wL 4 xs n=wL 1 xs n:=by
 obtain⟨a1,a2⟩:=w_up h
 obtain⟨b1,b2⟩:=w_up a1
 obtain⟨c1,c2⟩:=w_up b1
 exact⟨c1,by rw[c2,b2,a2]⟩
theorem CO{κ:List Nat→Option (List Nat)}:∀{u:List Nat} {s:S8} {dp:Nat},(∀c∈u,c≠32)→vd κ s dp u=none→∃s' d',wk s dp u=some (s',d')∧iq s' d'
 | [],s,dp,_,h=>by
   rw[vd] at h
   split at h
   ·rename_i ha;exact⟨s,dp,rfl,ha⟩
   ·cases h
 |c::r,s,dp,hn,h=>by
  rw[vd,if_neg fun z=>hn c (List.mem_cons_self ..) z.1] at h
  split at h
  ·cases h
  ·rename_i s1 d1 e
   obtain⟨s',d',z1,z2⟩:=CO (fun b hb=>hn b (List.mem_cons_of_mem _ hb)) h
   exact⟨s',d',by rw[wk,e];exact z1,z2⟩
theorem J8.walk:∀{u:List Nat} {s s':S8} {dp d':Nat},J8 s dp→wk s dp u=some (s',d')→J8 s' d'
 | [],s,s',dp,d',j,h=>by cases h;exact j
 |c::r,s,s',dp,d',j,h=>by
  rw[wk] at h
  split at h
  ·cases h
  ·rename_i s1 d1 e
   exact J8.walk (j.go e) h
theorem GK{rt:Bool}:∀{u:List Nat} {s s':S8} {dp d':Nat},(∀c∈u,c≠32)→J8 s dp→wk s dp u=some (s',d')→fk (up s) dp rt u=some (up s',d',rt)
 | [],s,s',dp,d',_,_,h=>by cases h;rfl
 |c::r,s,s',dp,d',hn,j,h=>by
  rw[wk] at h
  split at h
  ·cases h
  ·rename_i s1 d1 e
   have hh:(rt||decide ((up s).nm= .head))=rt:=by rw[decide_eq_false (nh s),Bool.or_false]
   have e5:dm (up s) dp rt c=some (up s1):=by
    rw[uV s dp rt c j.st,if_neg fun z=>hn c (List.mem_cons_self ..) z.1,e]
    rfl
   rw[j0 (s':=up s1) (by rw[hh];exact e5),hh,←yk e]
   exact GK (fun b hb=>hn b (List.mem_cons_of_mem _ hb)) (j.go e) h
theorem yu{xs:List eU}{n:Int}(h:sF 4 xs n)(rt:Bool):∃s,fk (up jw) 0 rt (wL 4 xs n)=some (s,0,rt)∧lP s 0∧fk t5 0 rt (wL 4 xs n)=some (s,0,rt):=by
 have hv:vd (fun _=>none) jw 0 (wL 4 xs n)=none:=by rw[wQ (.Z4 h)];rfl
 obtain⟨s8,d,hw,ha⟩:=CO (oQ h) hv
 have hj:=J8.walk Kz hw
 have h0:d=0:=by
  rcases ha with z|z
  ·exact hj.z (by rw[z];decide) (by rw[z];decide)
  ·exact z.2.1
 subst h0
 have hu:=GK (rt:=rt) (oQ h) Kz hw
 refine⟨up s8,hu,uU.mpr ha,?_⟩
 obtain⟨c,r,ec,hc⟩:=uY h
 rw[ec] at hw hu ⊢
 have hF:¬bK c=true:=fun z=>by rw[wk,yr z] at hw;cases hw
 rw[←hu]
 have e:dm t5 0 (rt||decide (t5.nm= .head)) c=dm (up jw) 0 (rt||decide ((up jw).nm= .head)) c:=by
  show dm t5 0 (rt||false) c=dm (up jw) 0 (rt||false) c
  unfold dm Jd lP
  simp [up,yj,jw,t5,hF,m9]
 rw[fk,fk,e]
 rfl
theorem u7{rt:Bool}:∀(w:List Nat) {fg:Nat} {al:Bool},w.all bK=true→fg≠0→fg+w.length≤12→∃KC QA,fk ⟨.count,0,fg,al⟩ 0 rt w=some (⟨.count,0,QA,KC⟩,0,rt)∧(w≠[]∨al=false→KC=false)
 | [],fg,al,_,_,_=>⟨al,fg,rfl,fun z=>z.resolve_left fun y=>y rfl⟩
 |c::r,fg,al,ha,h0,hl=>by
  have hF:=List.all_eq_true.mp ha c (List.mem_cons_self ..)
  have hl:fg+(r.length+1)≤12:=hl
  have yY:=fM hF
  have e:dm ⟨.count,0,fg,al⟩ 0 rt c=some ⟨.count,0,fg+1,false⟩:=by
   unfold dm AJ
   rw[if_pos hF,if_neg (by simp),if_pos (by simp),if_pos rfl,if_neg (by show¬(fg=12∨fg=0∧c=48);omega)]
   show some (⟨.count,0,fg+1,decide (fg=0)&&_⟩:S5)=_
   rw[decide_eq_false h0]
   rfl
  obtain⟨KC,QA,i1,i2⟩:=u7 (rt:=rt) r (fg:=fg+1) (al:=false) (List.all_eq_true.mpr fun b hb=>List.all_eq_true.mp ha b (List.mem_cons_of_mem _ hb)) (by omega) (by omega)
  refine⟨KC,QA,?_,fun _=>i2 (.inr rfl)⟩
  rw[j0 (s':=⟨.count,0,fg+1,false⟩) (by show dm _ 0 (rt||false) c=_;rw[Bool.or_false];exact e)]
  show fk _ (l9 0 c) (rt||false) r=_
  rw[Bool.or_false,show l9 0 c=0 by unfold l9;rw[if_neg yY.2.2.1,if_neg yY.2.2.2.1]]
  exact i1
theorem Ap{rt:Bool}{w:List Nat}(ha:w.all bK=true)(hl:w.length≤12)(h0:w.head? ≠some 48)(hw:w≠[])(h1:w≠[49]):fk t5 0 rt (w++[32])=some (up jw,0,rt):=by
 cases w with
 |nil=>exact absurd rfl hw
 |cons c r=>
  have hF:=List.all_eq_true.mp ha c (List.mem_cons_self ..)
  have yY:=fM hF
  have c48:c≠48:=fun z=>h0 (by rw[z];rfl)
  have hl:r.length+1≤12:=hl
  have e:dm t5 0 rt c=some ⟨.count,0,1,decide (c=49)⟩:=by
   unfold dm AJ
   rw[if_pos hF,if_pos rfl,if_neg (by omega)]
   rfl
  obtain⟨KC,QA,i1,i2⟩:=u7 (rt:=rt) r (fg:=1) (al:=decide (c=49)) (List.all_eq_true.mpr fun b hb=>List.all_eq_true.mp ha b (List.mem_cons_of_mem _ hb)) (by decide) (by omega)
  have DJ:KC=false:=i2 (by
   by_cases hr:r=[]
   ·right
    rw[hr] at h1
    exact decide_eq_false fun z=>h1 (by rw[z])
   ·exact .inl hr)
  rw[List.cons_append,j0 (s':=⟨.count,0,1,decide (c=49)⟩) (by show dm _ 0 (rt||false) c=_;rw[Bool.or_false];exact e)]
  show fk _ (l9 0 c) (rt||false) (r++[32])=_
  rw[Bool.or_false,show l9 0 c=0 by unfold l9;rw[if_neg yY.2.2.1,if_neg yY.2.2.2.1],eB i1,DJ]
  rw[j0 (s':=up jw) (by show dm _ 0 (rt||false) 32=_;rw[Bool.or_false];rfl)]
  show some (up jw,l9 0 32,rt||false)=_
  rw[Bool.or_false]
  rfl
structure wW(l:List Nat):Prop where
 a:cJ l
 w:∀rt,∃s,fk t5 0 rt l=some (s,0,rt)∧lP s 0
 j:∀v,gP pJ 0 (l++v)=gP pJ 0 v
 r:∀v,gP pA 0 (l++v)=gP pA 0 v
 b:∃c r,l=c::r∧Bg c
theorem Jl{xs:List eU}{n:Int}(h:sF 4 xs n)(ha:cJ (wL 4 xs n)):wW (wL 4 xs n):=
 ⟨ha,fun rt=>let ⟨s,_,h2,h3⟩:=yu h rt;⟨s,h3,h2⟩,fun v=>dB rfl v (oQ h),fun v=>dB rfl v (oQ h),uY h⟩
theorem Jm{xs:List eU}{n m:Int}(h:sF 4 xs n)(ha:cJ (wL 4 xs n))(m1:2≤m)(m2:m<10^12):wW (bc m++([32]++wL 4 xs n)):=by
 obtain⟨k,rfl,k1,k0⟩:=kJ (n:=m) (by omega) m2
 have jc:bc (k:Int)≠[]:=rY (by omega)
 have DJ:(bc (k:Int)).all bK=true:=eo k
 have hlen:(bc (k:Int)).length≤12:=by
  have:=jh (n:=k) (k:=12) (by decide) (by omega)
  rwa [bL,az] at this
 obtain⟨c,r,ec,hc⟩:=uY h
 have Td:=jx (n:=(k:Int)) (by omega)
 have gp:∀{p:List Nat} {b:Nat} {q:List Nat},p=32::b::q→(b=43∨b=45)→∀v,gP p 0 (bc (k:Int)++([32]++wL 4 xs n)++v)=gP p 0 v:=fun {p b q} hp hb v=>by
  have iF:p.head? =some 32:=by rw[hp];rfl
  rw[List.append_assoc,dB iF _ Td,ec,hp]
  show gP (32::b::q) 0 (32::c::(r++v))=_
  rw[cU _ (fun z=>by have:=hc.ne;omega),←List.cons_append,←ec,←hp]
  exact dB iF v (oQ h)
 refine⟨?_,fun rt=>?_,gp rfl (.inl rfl),gp rfl (.inr rfl),?_⟩
 ·refine cJ.app (fun b hb=>?_) (cJ.app (fun b hb=>by rw[List.mem_singleton.mp hb];decide) ha)
  have:=List.all_eq_true.mp DJ b hb
  simp only [bK,Bool.and_eq_true,decide_eq_true_eq] at this
  omega
 ·obtain⟨s,e1,e2,_⟩:=yu h rt
  refine⟨s,?_,e2⟩
  rw[←List.append_assoc,eB (Ap DJ hlen (kI k k0) jc (by simpa using mT k))]
  exact e1
 ·cases hf:bc (k:Int) with
  |nil=>exact absurd hf jc
  |cons c0 r0=>exact⟨c0,_,rfl, .inl (List.all_eq_true.mp DJ c0 (by rw[hf];exact List.mem_cons_self ..))⟩
variable {HE NF TL NC TM X1 X3 X4 X5 X6 X8:Addr}{uC uP uI uD uL uT mV mW mX uG uS:Tok}{Ch:Addr}
structure Jn(K:PySem.W.Frag)(mg:Str→Option Value)(HE NF TL NC TM X1 X3 X4 X5 X6 X8:Addr):Prop extends ug K mg HE NF TL NC TM where
 bp:mg "isinstance" =none
 si:mg "ValueError" =none
 sj:PySem.W.tJ K HE
 u9:mg "NoBalance" =some (.ref X1)
 CP:mg "NoName" =some (.ref X3)
 FA:mg "NoRow" =some (.ref X4)
 Aq:mg "NoSplit" =some (.ref X5)
 FC:mg "Short" =some (.ref X6)
 sk:mg "Unbalanced" =some (.ref X8)
 io:∀{X Y},X=NC∨X=TL∨X=TM→Y=X1∨Y=NF∨Y=X3∨Y=X4∨Y=X5∨Y=X6∨Y=X8→PySem.W.kitOne K (.ref X) (.ref Y)=some false
 iV:∀{X},X=NC∨X=TL∨X=TM→PySem.W.kitOne K (.ref X) (.type "ValueError")=some true
 iC:PySem.W.kitOne K (.ref NC) (.ref NC)=some true∧PySem.W.kitOne K (.ref NC) (.ref TL)=some false∧PySem.W.kitOne K (.ref NC) (.ref TM)=some false
 iT:PySem.W.kitOne K (.ref TL) (.ref NC)=some false∧PySem.W.kitOne K (.ref TL) (.ref TL)=some true∧PySem.W.kitOne K (.ref TL) (.ref TM)=some false
 iM:PySem.W.kitOne K (.ref TM) (.ref NC)=some false∧PySem.W.kitOne K (.ref TM) (.ref TL)=some false∧PySem.W.kitOne K (.ref TM) (.ref TM)=some true
 Mu:∀{X},X=NC∨X=TL∨X=TM→Xj K X
 Jo:∀{X},X=NC∨X=TL∨X=TM→PySem.W.mroIn K X (.ref HE)=some true
 CQ:PySem.W.findIn K (.ref NC) "place" =some none
 FD:PySem.W.findIn K (.ref TL) "many" =some none
 FE:PySem.W.findIn K (.ref TM) "many" =some none
def va(NC TL TM:Addr):Sp:=fun vs H Q _=>∃e X:Addr,vs=[.ref e]∧(X=NC∨X=TL∨X=TM)∧Ex H e X∧Q (.bl false) H
theorem CS:ay ["_law_e"] ["_law_e"] (ak mP):=dN
theorem Ar{f0 f1 f2:Addr}(D:Def K mg "_law_others" "_law_others" mP ["_law_e"])(T:Jn K mg HE NF TL NC TM X1 X3 X4 X5 X6 X8)(Z:PySem.W.b7 K NC HE f0)(Z1:PySem.W.b7 K TL HE f1)(Z2:PySem.W.b7 K TM HE f2):bD P w K mg base 1 "_law_others" ["_law_e"] (va NC TL TM):=by
 refine D.fW CS (fun vs H Q E h=>?_) (fun f bo A outer s H vs Q E hr h=>?_)
 ·obtain⟨e,X,rfl,_⟩:=h
  rfl
 ·obtain⟨e,X,rfl,hX,hE,q⟩:=h
  obtain⟨g,ZX⟩:∃g,PySem.W.b7 K X HE g:=by
   rcases hX with rfl|rfl|rfl
   ·exact⟨_,Z⟩
   ·exact⟨_,Z1⟩
   ·exact⟨_,Z2⟩
  have Y:=T.Mu hX
  refine⟨_,(aj
     (bB (PW.pt (fS (dC (bb bG rfl T.bp bj (aa (pv 0) (aa (aQ (v:= .ref _) rfl T.u9 rfl) ah)))) (fS (dC (bb bG rfl T.bp bj (aa (pv 0) (aa (aQ (v:= .ref _) rfl T.lX rfl) ah)))) (fS (dC (bb bG rfl T.bp bj (aa (pv 0) (aa (aQ (v:= .ref _) rfl T.CP rfl) ah)))) (iG (dC (bb bG rfl T.bp bj (aa (pv 0) (aa (aQ (v:= .ref _) rfl T.FA rfl) ah)))))))))
      (au
       (aB iw))
      aY)
    (au
     (aB (Ge (bb bG rfl T.bp bj (aa (pv 0) (aa (aQ (v:= .ref _) rfl T.Aq rfl) ah))) (Ge (bb bG rfl T.bp bj (aa (pv 0) (aa (aQ (v:= .ref _) rfl T.FC rfl) ah))) (AQ (bb bG rfl T.bp bj (aa (pv 0) (aa (aQ (v:= .ref _) rfl T.sk rfl) ah))))))))),?_⟩
  refine⟨_,rfl,e,_,_,X,HE,g,false,rfl,rfl,ZX,Y,hE,T.io hX (.inl rfl),_,rfl,cQ ⟨_,rfl,e,_,_,X,HE,g,false,rfl,rfl,ZX,Y,hE,T.io hX (.inr (.inl rfl)),_,rfl,cQ ⟨_,rfl,e,_,_,X,HE,g,false,rfl,rfl,ZX,Y,hE,T.io hX (.inr (.inr (.inl rfl))),_,rfl,cQ ⟨_,rfl,e,_,_,X,HE,g,false,rfl,rfl,ZX,Y,hE,T.io hX (.inr (.inr (.inr (.inl rfl)))),_,rfl,cQ ?_⟩⟩⟩⟩
  exact⟨_,rfl,e,_,_,X,HE,g,false,rfl,rfl,ZX,Y,hE,T.io hX (.inr (.inr (.inr (.inr (.inl rfl))))),_,rfl,cQ ⟨_,rfl,e,_,_,X,HE,g,false,rfl,rfl,ZX,Y,hE,T.io hX (.inr (.inr (.inr (.inr (.inr (.inl rfl)))))),_,rfl,cQ ⟨_,rfl,e,_,_,X,HE,g,false,rfl,rfl,ZX,Y,hE,T.io hX (.inr (.inr (.inr (.inr (.inr (.inr rfl)))))),q⟩⟩⟩
variable {HE NF TL NC TM X1 X3 X4 X5 X6 X8:Addr}{uC uP uI uD uL uT mV mW mX uG uS:Tok}{Ch:Addr}
def yv(l:List Nat):Nat:=1+gP pJ 0 l+gP pA 0 l
def yw(l:List Nat):List V:=if 400<l.length then [.int 2, .int (l.length:Int), .bl true] else match dA t5 0 false l with
 |none=>if 8<yv l then [.int 3, .int (yv l:Int), .bl true] else [.int 0, .str ⟨l.toArray⟩, .bl true]
 |some v=>[.int 1, .int ((l.length:Int) - v.length), .bl true]
structure Mv(K:PySem.W.Frag)(mg:Str→Option Value)(Ch HE NF TL NC TM X1 X3 X4 X5 X6 X8:Addr):Prop extends Jn K mg HE NF TL NC TM X1 X3 X4 X5 X6 X8 where
 cI:qy K Ch
 f7:mg "len" =none
 pQ:mg "int" =none
def CT:Sp:=fun vs H Q _=>∃l:List Nat,vs=[.str ⟨l.toArray⟩]∧l.length≤9000∧∀t H',H' t=some (.tup (yw l))→aF H H'→Q (.ref t) H'
theorem j3:ay ["_law_text","_law_caught","_law_found","_law_e","_law_some"] ["_law_text"] (ak tP):=dN
theorem GL{v:V}{i:Nat}{r:TS}{D:Ends}{σ:L2.St}{H:Hp}(h:r D (σ.set i (some v)) H):AS (DV (tC v) (iH i)) r D σ H:=h
theorem CU{A r:TS}{D:Ends}{σ:L2.St}{H:Hp}(Pm:L2.St→Hp→Prop)(h:∀N:L2.St→Hp→Prop,(∀σ' H',Pm σ' H'→N σ' H')→A { D with nx:=N } σ H)(hr:∀σ' H',Pm σ' H'→r D σ' H'):AS A r D σ H:=h _ hr
def vb(bs:List Bool):List V:=(bs.filter id).map V.bl
theorem FF{f0 f1 f2:Addr}(D:Def K mg "_law_told" "_law_told" tP ["_law_text"])(T:Mv K mg Ch HE NF TL NC TM X1 X3 X4 X5 X6 X8)(Z:PySem.W.b7 K NC HE f0)(Z1:PySem.W.b7 K TL HE f1)(Z2:PySem.W.b7 K TM HE f2)(c1:tM P w K mg base 24 "read_change" ["text"] (oI TL NC TM C G Pc Fo Ch))(c2:cZ P w K mg base 16 Ch "shown" ["self"] (uy C G Pc Fo Ch))(c3:bD P w K mg base 1 "_law_others" ["_law_e"] (va NC TL TM))(c4:bD P w K mg base 1 "_law_whole" ["_law_found"] xV):bD P w K mg base 25 "_law_told" ["_law_text"] CT:=by
 obtain⟨_,_,eC⟩:=c1
 obtain⟨_,_,fO⟩:=c2
 obtain⟨_,_,ir⟩:=c3
 obtain⟨_,_,dG⟩:=c4
 refine D.fW j3 (fun vs H Q E h=>?_) (fun f bo A outer s H vs Q E hr h=>?_)
 ·obtain⟨l,rfl,_⟩:=h
  rfl
 ·obtain⟨l,rfl,hl,q⟩:=h
  have xl:(⟨l.toArray⟩:Str).length=l.length:=az l
  have el:(⟨l.toArray⟩:Str).cps.toList=l:=rfl
  have big:(10000 :Nat)≤sizeLine:=by decide
  refine⟨_,(aj
     (aO (i:=1) j3.nd rfl (Or.inl rfl) k9)
    (aj
     (aO (i:=2) j3.nd rfl (Or.inl rfl) k9)
    (aj
     (xH ⟨rfl,rfl⟩ (fun _ _=>
      (au
       (aO (i:=2) j3.nd rfl (Or.inl rfl) (tI eC.ok (hr.mono (by decide)) rfl eC.g eC.kp eC.b .nil nS (aa (pv 0) ah))))) (fun _=>(Ij K rfl (i:=3) rfl T.eL T.sj j3.nd rfl rfl (fun _=>
      (au
       (aO (i:=1) j3.nd rfl (Or.inl rfl) (pv 3)))) (Bx Ew))))
    (aj
     (bB (AO (Hl (pv 1)))
      (au
       (aB (b9 (aa aq (aa (bJ (pv 2) T.cI fO.m fO.ok (hr.mono (by decide)) fO.b .nil aP) (aa iw ah))))))
      aY)
    (aj
     (aO (i:=4) j3.nd rfl (Or.inl rfl) (cf (aa (bb bG rfl T.bp bj (aa (pv 1) (aa (aQ (v:= .ref _) rfl T.wd rfl) ah))) (aa (bb bG rfl T.bp bj (aa (pv 1) (aa (aQ (v:= .ref _) rfl T.zV rfl) ah))) (aa (bb bG rfl T.bp bj (aa (pv 1) (aa (aQ (v:= .ref _) rfl T.z9 rfl) ah))) ah)))))
    (aj
     (bB (PW.pt (fS (aJ sO (bb eX rfl T.f7 dX (aa (j' (sc:=(ak tP)) (NX:=["_law_text","_law_caught","_law_found","_law_e","_law_some"]) (N:=["_law_one"]) (fr:=[none]) ⟨by rfl,by rfl,by decide+kernel,by decide+kernel,by decide+kernel,by rfl,by decide+kernel⟩ rfl rfl rfl (j7 (pv 4)) (fun _ _ _ _=>(bZ (i:=0) (show (["_law_one"]:List Str).Nodup by decide+kernel) rfl (Or.inl rfl) (Or.inr rfl))) (fun _ _ _ _=>(Eg (dC (pv 0)))) (fun _ _ _ _=>(pv 0))) ah)) aq (aU _)) (fS (dC (aM ir.ok (hr.mono (by decide)) rfl ir.g ir.kp ir.b .nil aP (aa (pv 1) ah))) (iG (vx (dC (bb bG rfl T.bp bj (aa (pv 1) (aa (qw (v:= .ty "ValueError") rfl T.si o5 rfl) ah)))))))))
      (au
       (aB (b9 (aa aq (aa aq (aa iw ah))))))
      aY)
    (aj
     (bB (dC (cY cV (pv 4) aq (fun _ _=>rfl)))
      (au
       (aB (b9 (aa aq (aa (km (pv 1) rfl) (aa (aM dG.ok (hr.mono (by decide)) rfl dG.g dG.kp dG.b .nil aP (aa (km (pv 1) rfl) ah)) ah))))))
      aY)
    (au
     (aB (b9 (aa (ax bH aq (bX lj rfl T.pQ nN (aa (cY cV (pv 4) aq (fun _ _=>rfl)) ah))) (aa (km (pv 1) rfl) (aa (aM dG.ok (hr.mono (by decide)) rfl dG.g dG.kp dG.b .nil aP (aa (km (pv 1) rfl) ah)) ah))))))))))))),?_⟩
  refine GL (GL ?_)
  refine CU (fun σ' H'=>(∃(c:Addr) (xs ys:List Tm),σ'=[some (.str ⟨l.toArray⟩),some .cn,some (.ref c),none,none]∧oF C G Pc Fo Ch H' c xs ys∧XO xs ys∧Mf xs ys=⟨l.toArray⟩∧yw l=[.int 0, .str ⟨l.toArray⟩, .bl true]∧aF H H')∨
   (∃(e dx X g:Addr) (b1 b2 b3:Bool) (fld:Str) (k:Int),σ'=[some (.str ⟨l.toArray⟩),some (.ref e),some .cn,none,none]∧(X=NC∨X=TL∨X=TM)∧PySem.W.b7 K X HE g∧(PySem.W.kitOne K (.ref X) (.ref NC)=some b1∧PySem.W.kitOne K (.ref X) (.ref TL)=some b2∧PySem.W.kitOne K (.ref X) (.ref TM)=some b3)∧(vb [b1,b2,b3]).length=1∧fld=(if b1=true then "place" else "many")∧PySem.W.findIn K (.ref X) fld=some none∧H' e=some (nP e X (some dx))∧H' dx=some (xE dx [(fld, .int k)])∧yw l=[.int (if b1=true then 1 else 2+(if b3=true then 1 else 0)), .int k, .bl true]∧aF H H')) (fun N hN=>?_) ?_
  ·refine⟨_,rfl,⟨l.toArray⟩,rfl,by omega,fun h4 xs ys c H3 hG h8 nc hC e3=>?_,fun h4 xs ys hG h8 b dx H3 nb nd h1 h2 e3=>?_,fun h4 e hB he b dx H3 nb nd h1 h2 e3=>?_,fun h4 b dx H3 nb nd h1 h2 e3=>?_⟩
   ·rw[el] at hG
    have hc:yv l=xs.length+ys.length:=CJ hG
    obtain⟨et,o1,o2⟩:=Fx hG (by omega)
    refine hN _ _ (.inl ⟨c,xs,ys,rfl,hC H3 fun _ _ _ z=>z,⟨o1,o2,by omega,by omega⟩,et,?_,e3⟩)
    unfold yw
    rw[if_neg (by omega),CG hG]
    exact if_neg (by omega)
   ·rw[el] at hG
    have hc:yv l=xs.length+ys.length:=CJ hG
    refine⟨TM,HE,f2,true,rfl,Z2,T.Jo (.inr (.inr rfl)),dJ fun e' tE=>?_⟩
    refine⟨_,rfl,hN _ _ (.inr ⟨e',dx,TM,f2,false,false,true,_,_,rfl, .inr (.inr rfl),Z2,T.iM,rfl,rfl,T.FE,tE,h2,?_,e3⟩)⟩
    unfold yw
    rw[if_neg (by omega),CG hG]
    show (if 8<yv l then _ else _)=_
    rw[if_pos (by omega),hc]
    rfl
   ·have hv:dA t5 0 false l=some (sf ⟨l.toArray⟩ e):=Jh hB
    have ep:(l.length:Int) - ((sf ⟨l.toArray⟩ e).length:Int)=(e:Int):=by
     rw[iX,xl]
     omega
    refine⟨NC,HE,f0,true,rfl,Z,T.Jo (.inl rfl),dJ fun e' tE=>?_⟩
    refine⟨_,rfl,hN _ _ (.inr ⟨e',dx,NC,f0,true,false,false,_,_,rfl, .inl rfl,Z,T.iC,rfl,rfl,T.CQ,tE,h2,?_,e3⟩)⟩
    unfold yw
    rw[if_neg (by omega),hv]
    show [V.int 1, .int ((l.length:Int) - ((sf ⟨l.toArray⟩ e).length:Int)), .bl true]=_
    rw[ep]
    rfl
   ·refine⟨TL,HE,f1,true,rfl,Z1,T.Jo (.inr (.inl rfl)),dJ fun e' tE=>?_⟩
    refine⟨_,rfl,hN _ _ (.inr ⟨e',dx,TL,f1,false,true,false,_,_,rfl, .inr (.inl rfl),Z1,T.iT,rfl,rfl,T.FD,tE,h2,?_,e3⟩)⟩
    unfold yw
    rw[if_pos (by omega),xl]
    rfl
  rintro σ H3 (⟨c,xs,ys,rfl,hC,Z6,et,tl,e3⟩ | ⟨e,dx,X,g,b1,b2,b3,fld,k,rfl,hX,ZX,⟨k1,k2,k3⟩,h1,hf,QB,he,iE,tl,e3⟩)
  ·obtain⟨df,lf,rg,hc,_,_⟩:=id hC
   refine⟨_,rfl,_,rfl,eI rfl ?_⟩
   refine⟨_,rfl,c,df,_,rfl,hc,Cn _ _ (by decide+kernel) (by decide+kernel),c,xs,ys,rfl,hC,Z6,fun H5 e5=>⟨(by show 3≤sizeLine;decide),fun t ht=>?_⟩⟩
   refine q t _ ?_ ((e3.trans e5).trans (aF.new ht))
   rw[ag,tl,et]
  ·have hE:Ex H3 e X:= .inr ⟨dx,_,he,iE⟩
   have Y:=T.Mu hX
   refine⟨_,rfl,_,rfl,dR (by intro z;cases z) ?_⟩
   refine⟨_,rfl,e,_,_,X,HE,g,b1,rfl,rfl,ZX,Y,hE,k1,_,rfl,e,_,_,X,HE,g,b2,rfl,rfl,ZX,Y,hE,k2,_,rfl,e,_,_,X,HE,g,b3,rfl,rfl,ZX,Y,hE,k3,(by show 3≤sizeLine;decide),fun L hL=>?_⟩
   have sL:=aF.new (o:= .lst [V.bl b1,V.bl b2,V.bl b3]) hL
   have AE:(upd H3 L (.lst [V.bl b1,V.bl b2,V.bl b3])) L=some (.lst [V.bl b1,V.bl b2,V.bl b3]):=ag
   generalize upd H3 L (.lst [V.bl b1,V.bl b2,V.bl b3])=H4 at sL AE ⊢
   have e4:=e3.trans sL
   have Z7:=sL _ _ he
   have Tn:=sL _ _ iE
   clear he iE hE
   refine⟨_,rfl,L,rfl,⟨_,cL.of AE⟩,fun M hM=>zC (K:=K) (a:=L) (L:=M) (xs:=[b1,b2,b3].map V.bl) H4 (fun σ=>∃v:Option V,σ=[v]) (fun i ys=>ys=vb ([b1,b2,b3].take i)) (cL.of AE) hM ⟨none,rfl⟩ (aF.new hM) ag rfl (by show 3≤sizeLine;decide) ?_ ?_ ?_⟩
   ·rintro i ys rfl
    unfold vb
    rw[List.length_map]
    exact Nat.le_trans (List.length_filter_le _ _) (by rw[List.length_take];omega)
   ·rintro i x σ H5 ys hx ⟨v,rfl⟩ Jp Mw rfl N' M' hN Z8
    rw[List.getElem?_map,Option.map_eq_some_iff] at hx
    obtain⟨b,hb,rfl⟩:=hx
    have tk:vb ([b1,b2,b3].take (i+1))=vb ([b1,b2,b3].take i)++vb [b]:=by
     unfold vb
     rw[List.take_add_one,hb,List.filter_append,List.map_append]
     rfl
    refine⟨_,rfl,_,rfl,?_⟩
    cases b with
    |true=>exact dJ ⟨_,rfl,hN _ _ _ ⟨_,rfl⟩ Jp Mw (by rw[tk];rfl)⟩
    |false=>exact cQ (Z8 _ _ ⟨_,rfl⟩ Jp Mw (by rw[tk];simp [vb]))
   ·rintro H5 ys Jp Mw rfl
    rw[show ([b1,b2,b3].map V.bl).length=[b1,b2,b3].length from rfl,List.take_length] at Mw
    have e5:=e4.trans Jp
    have Kr:=Jp _ _ AE
    have Mx:=Jp _ _ Z7
    have CV:=Jp _ _ Tn
    have X2:Ex H5 e X:= .inr ⟨dx,_,Mx,CV⟩
    refine⟨M,_,rfl, .inl (cL.of Mw),rfl,_,rfl,?_⟩
    rw[h1]
    refine cQ ⟨_,rfl,e,X,rfl,hX,X2,_,rfl,cQ ⟨_,rfl,e,_,_,X,HE,g,true,rfl,rfl,ZX,Y,X2,T.iV hX,_,rfl,cQ ?_⟩⟩
    refine⟨_,rfl,L,_,_,V.bl b1,rfl,rfl,cL.of Kr,rfl,_,rfl,?_⟩
    cases b1 with
    |true=>
     have hf:fld="place" :=hf
     subst hf
     refine dJ ⟨_,rfl,e,X,HE,g,dx,_,_,rfl,ZX,QB,Mx,CV,rfl,_,rfl,e,X,HE,g,dx,_,_,rfl,ZX,QB,Mx,CV,rfl,_,rfl,(by show 3≤sizeLine;decide),fun t ht=>?_⟩
     refine q t _ ?_ (e5.trans (aF.new ht))
     rw[ag,tl]
     rfl
    |false=>
     have hf:fld="many" :=hf
     subst hf
     refine cQ ?_
     refine⟨_,rfl,L,_,_,V.bl b3,rfl,rfl,cL.of Kr,rfl, .inr ⟨b3,rfl,_,_,rfl,rfl,_,rfl,e,X,HE,g,dx,_,_,rfl,ZX,QB,Mx,CV,rfl,_,rfl,e,X,HE,g,dx,_,_,rfl,ZX,QB,Mx,CV,rfl,_,rfl,(by show 3≤sizeLine;decide),fun t ht=>?_⟩⟩
     refine q t _ ?_ (e5.trans (aF.new ht))
     rw[ag,tl]
     rfl
def vc(x:Tm):List Nat:=bc x.1++((if x.1=1 then [] else [32])++fL x.2)
theorem CW(x:Tm):vo x=⟨(vc x).toArray⟩:=by
 unfold vo vc
 by_cases h:x.1=1
 ·rw[if_pos h,if_pos h,h,gm]
  rfl
 ·have e:(toString x.1 :Str)=⟨(bc x.1).toArray⟩:=by
   rw[←bL]
   unfold du
   rw[if_neg h]
  rw[if_neg h,if_neg h,e,S1,show (⟨#[32]⟩:Str)=⟨[32].toArray⟩ from rfl,aZ,aZ,List.append_assoc]
theorem CY{n:Int}(h1:1≤n)(h2:n<10^12):cJ (bc n):=fun c hc=>by
 obtain⟨m,rfl,m1,m0⟩:=kJ h1 h2
 have:=List.all_eq_true.mp (eo m) c hc
 simp only [bK,Bool.and_eq_true,decide_eq_true_eq] at this
 omega
theorem CZ{x:Fm}(h:sF 1 x.1 x.2):cJ (fL x):=by
 obtain⟨xs,n⟩:=x
 cases xs with
 |nil=>
  have:∀c∈[101,94,45],c<128:=by decide
  exact this
 |cons x r=>
  obtain⟨_,ho,n1,n2⟩:=h
  refine(Cq (ho x (List.mem_cons_self ..)).2.1).app (cJ.app (fun c hc=>?_) fun c hc=>?_)
  ·obtain⟨y,hy,hc⟩:=List.mem_flatMap.mp hc
   obtain⟨_,o1,o2,o3⟩:=ho y (List.mem_cons_of_mem _ hy)
   rcases List.mem_cons.mp hc with rfl|hc
   ·decide
   ·exact((mZ o2 o3).app (Cq o1)) c hc
  ·unfold iA at hc
   by_cases h0:n=0
   ·rw[if_pos h0] at hc;cases hc
   ·rw[if_neg h0] at hc
    rcases List.mem_cons.mp hc with rfl|hc
    ·decide
    ·rcases List.mem_append.mp hc with hc|hc
     ·exact mZ (by split<;>omega) (by split<;>omega) c hc
     ·have:c=if 0<n then 43 else 45:=by simpa using hc
      rw[this]
      split<;>decide
theorem C0{x:Tm}(h:Ci 999999999999 x):cJ (vc x)∧(vc x).length≤46:=by
 obtain⟨h1,h2,Ja,hl,_⟩:=h
 have Qy:x.1<10^12:=by omega
 have hb:cJ (if x.1=1 then [] else [32])∧(if x.1=1 then ([]:List Nat) else [32]).length≤1:=by
  split
  ·exact⟨(fun c hc=>by cases hc),by decide⟩
  ·exact⟨(fun c hc=>by rw[List.mem_singleton.mp hc];decide),by decide⟩
 have hf:(bc x.1).length≤12:=by
  obtain⟨m,em,m1,m0⟩:=kJ h1 Qy
  have:=jh (n:=m) (k:=12) (by decide) (by omega)
  rw[bL,az] at this
  rw[em]
  exact this
 refine⟨(CY h1 Qy).app (hb.1.app (CZ Ja)),?_⟩
 unfold vc
 rw[List.length_append,List.length_append]
 omega
theorem wX{l:List Nat}(h:∀c∈l,c<128):cJ l:=h
theorem My{x:Tm}(h:Ci 999999999999 x):wW (vc x):=by
 obtain⟨a1,_⟩:=C0 h
 obtain⟨h1,h2,Ja,hl,_⟩:=h
 obtain⟨o4,e4⟩:=Mt Ja
 have ef:fL x.2=wL 4 x.2.1 x.2.2:=e4.symm
 have af:=CZ Ja
 unfold vc at a1 ⊢
 by_cases hx:x.1=1
 ·rw[if_pos hx,hx,gm,ef]
  show wW (wL 4 x.2.1 x.2.2)
  rw[ef] at af
  exact Jl o4 af
 ·rw[if_neg hx,ef]
  rw[ef] at af
  exact Jm o4 af (by omega) (by omega)
structure JT(l:List Nat)(k:Nat)(rt:Bool):Prop where
 a:cJ l
 w:∃s,fk t5 0 false l=some (s,0,rt)∧lP s 0
 c:∀v,gP pJ 0 (l++v)+gP pA 0 (l++v)=k+(gP pJ 0 v+gP pA 0 v)
theorem wW.jt{l:List Nat}(h:wW l):JT l 0 false:=⟨h.a,h.w false,fun v=>by rw[h.j,h.r];omega⟩
theorem wY{l:List Nat}{s:S5}{rt:Bool}(h:fk t5 0 false l=some (s,0,rt))(hc:lP s 0):fk s 0 rt [32]=some (⟨.gap,0,0,false⟩,0,rt):=by
 obtain⟨i1,_⟩:=CN h
 rcases i1 with ⟨s8,rfl,_,hj⟩ | ⟨_,_,hn,_⟩ | ⟨_,hn,_⟩ | ⟨_,_,hn,_⟩ | ⟨_,_,hn,_⟩ | ⟨_,_,hn,_⟩ | ⟨_,_,hn,_⟩
 ·have hh:(rt||decide ((up s8).nm= .head))=rt:=by rw[decide_eq_false (nh s8),Bool.or_false]
  rw[j0 (s':=⟨.gap,0,0,false⟩) (by rw[hh,uV s8 0 rt 32 hj.st,if_pos ⟨rfl,uU.mp hc⟩]),hh]
  rfl
 all_goals
  exfalso
  rcases hc with z|z
  ·rw[hn] at z;cases z
  ·rw[hn] at z;cases z.1
theorem JT.plus{l t:List Nat}{k:Nat}{rt:Bool}(h:JT l k rt)(ht:wW t):JT (l++pJ++t) (k+1) rt:=by
 obtain⟨s,w1,w2⟩:=h.w
 obtain⟨s',v1,v2⟩:=ht.w rt
 obtain⟨c,r,ec,hc⟩:=ht.b
 refine⟨(h.a.app (wX (by decide))).app ht.a,⟨s',?_,v2⟩,fun v=>?_⟩
 ·rw[List.append_assoc,eB w1,show pJ++t=[32]++([43,32]++t) from rfl,eB (wY w1 w2),eB (show fk ⟨.gap,0,0,false⟩ 0 rt [43,32]=some (t5,0,rt) by cases rt<;>rfl)]
  exact v1
 ·rw[List.append_assoc,List.append_assoc,h.c]
  have n:=hc.ne
  have e1:gP pJ 0 (pJ++(t++v))=1+gP pJ 0 (t++v):=by
   show gP [32,43,32] 0 (32::43::32::(t++v))=_
   rw[gP,if_pos (by simp [List.isPrefixOf])]
   rfl
  have e2:gP pA 0 (pJ++(t++v))=gP pA 0 (t++v):=by
   rw[ec]
   show gP [32,45,62,32] 0 (32::43::32::c::(r++v))=_
   rw[cU _ (by decide),gP,if_neg (by simp [List.isPrefixOf]),cU _ (by omega)]
   rfl
  rw[e1,e2,ht.j,ht.r]
  omega
theorem JT.arrow{l t:List Nat}{k:Nat}(h:JT l k false)(ht:wW t):JT (l++pA++t) (k+1) true:=by
 obtain⟨s,w1,w2⟩:=h.w
 obtain⟨s',v1,v2⟩:=ht.w true
 obtain⟨c,r,ec,hc⟩:=ht.b
 refine⟨(h.a.app (wX (by decide))).app ht.a,⟨s',?_,v2⟩,fun v=>?_⟩
 ·rw[List.append_assoc,eB w1,show pA++t=[32]++([45,62,32]++t) from rfl,eB (wY w1 w2),eB (show fk ⟨.gap,0,0,false⟩ 0 false [45,62,32]=some (t5,0,true) from rfl)]
  exact v1
 ·rw[List.append_assoc,List.append_assoc,h.c]
  have n:=hc.ne
  have e1:gP pA 0 (pA++(t++v))=1+gP pA 0 (t++v):=by
   show gP [32,45,62,32] 0 (32::45::62::32::(t++v))=_
   rw[gP,if_pos (by simp [List.isPrefixOf])]
   rfl
  have e2:gP pJ 0 (pA++(t++v))=gP pJ 0 (t++v):=by
   rw[ec]
   show gP [32,43,32] 0 (32::45::62::32::c::(r++v))=_
   rw[cU _ (by decide),gP,if_neg (by simp [List.isPrefixOf]),gP,if_neg (by simp [List.isPrefixOf]),cU _ (by omega)]
   rfl
  rw[e1,e2,ht.j,ht.r]
  omega
theorem C1{p:List Nat}{b:Nat}{q:List Nat}(hp:p=32::b::q)(hb:b=43∨b=45){f r:List Nat}{c:Nat}(hf:∀c∈f,c≠32)(hu:∀x∈c::r,x≠32)(hc:c≠43∧c≠45)(v:List Nat):gP p 0 (f++(32::c::r)++v)=gP p 0 v:=by
 have iF:p.head? =some 32:=by rw[hp];rfl
 rw[List.append_assoc,dB iF _ hf,hp]
 show gP (32::b::q) 0 (32::c::(r++v))=_
 rw[cU _ (fun z=>by omega),←List.cons_append,←hp]
 exact dB iF v hu
def Mz:List (List Nat):=[[72,50],[50,32,79],[101,94,45],[78,97,94,43],[51,32,67,111,50,79,51],[49,50,32,72],[67],[67,79]]
theorem j4{l:List Nat}(ha:∀c∈l,c<128)(hn:∀c∈l,c≠32)(hw:∀rt,∃s,fk t5 0 rt l=some (s,0,rt)∧lP s 0)(hb:∃c r,l=c::r∧Bg c):wW l:=⟨ha,hw,fun v=>dB rfl v hn,fun v=>dB rfl v hn,hb⟩
theorem wZ{f r:List Nat}{c:Nat}(ha:∀x∈f++(32::c::r),x<128)(hf:∀c∈f,c≠32)(hu:∀x∈c::r,x≠32)(hc:c≠43∧c≠45)(hw:∀rt,∃s,fk t5 0 rt (f++(32::c::r))=some (s,0,rt)∧lP s 0)(hb:∃d t,f++(32::c::r)=d::t∧Bg d):wW (f++(32::c::r)):=⟨ha,hw,C1 rfl (.inl rfl) hf hu hc,C1 rfl (.inr rfl) hf hu hc,hb⟩
theorem MA:∀l∈Mz,wW l∧l.length≤7∧1≤l.length:=by
 have nbt:∀{l:List Nat},(∀c∈l,c<128)→(∀c∈l,c≠32)→(∀rt,∃s,fk t5 0 rt l=some (s,0,rt)∧lP s 0)→(∃c r,l=c::r∧Bg c)→wW l:=j4
 intro l hl
 unfold Mz at hl
 simp only [List.mem_cons,List.not_mem_nil,or_false] at hl
 rcases hl with rfl|rfl|rfl|rfl|rfl|rfl|rfl|rfl
 ·exact⟨j4 (by decide) (by decide) (fun rt=>by cases rt<;>exact⟨_,rfl, .inr ⟨rfl,rfl,rfl⟩⟩) ⟨_,_,rfl, .inr (.inl rfl)⟩,by decide,by decide⟩
 ·exact⟨wZ (f:=[50]) (c:=79) (r:=[]) (by decide) (by decide) (by decide) (by decide) (fun rt=>by cases rt<;>exact⟨_,rfl, .inr ⟨rfl,rfl,rfl⟩⟩) ⟨_,_,rfl, .inl rfl⟩,by decide,by decide⟩
 ·exact⟨j4 (by decide) (by decide) (fun rt=>by cases rt<;>exact⟨_,rfl, .inl rfl⟩) ⟨_,_,rfl, .inr (.inr (.inr rfl))⟩,by decide,by decide⟩
 ·exact⟨j4 (by decide) (by decide) (fun rt=>by cases rt<;>exact⟨_,rfl, .inl rfl⟩) ⟨_,_,rfl, .inr (.inl rfl)⟩,by decide,by decide⟩
 ·exact⟨wZ (f:=[51]) (c:=67) (r:=[111,50,79,51]) (by decide) (by decide) (by decide) (by decide) (fun rt=>by cases rt<;>exact⟨_,rfl, .inr ⟨rfl,rfl,rfl⟩⟩) ⟨_,_,rfl, .inl rfl⟩,by decide,by decide⟩
 ·exact⟨wZ (f:=[49,50]) (c:=72) (r:=[]) (by decide) (by decide) (by decide) (by decide) (fun rt=>by cases rt<;>exact⟨_,rfl, .inr ⟨rfl,rfl,rfl⟩⟩) ⟨_,_,rfl, .inl rfl⟩,by decide,by decide⟩
 ·exact⟨j4 (by decide) (by decide) (fun rt=>by cases rt<;>exact⟨_,rfl, .inr ⟨rfl,rfl,rfl⟩⟩) ⟨_,_,rfl, .inr (.inl rfl)⟩,by decide,by decide⟩
 ·exact⟨j4 (by decide) (by decide) (fun rt=>by cases rt<;>exact⟨_,rfl, .inr ⟨rfl,rfl,rfl⟩⟩) ⟨_,_,rfl, .inr (.inl rfl)⟩,by decide,by decide⟩
def C3:Sp:=fun vs H Q _=>∃(n:Int) (b:Bool),vs=[.int n, .bl b]∧∀l H',wW l→1≤l.length→l.length≤(if b=true then 7 else 46)→aF H H'→Q (.str ⟨l.toArray⟩) H'
theorem C4:ay ["_law_cell","_law_short","_law_count_here"] ["_law_cell","_law_short"] (ak xS):=dN
theorem FG(D:Def K mg "_law_term" "_law_term" xS ["_law_cell","_law_short"])(T:wx K mg C)(c1:bD P w K mg base 4 "_law_formula" ["_law_cell"] oC)(c2:bD P w K mg base 1 "_law_side" ["_law_terms"] Cj):bD P w K mg base 5 "_law_term" ["_law_cell","_law_short"] C3:=by
 obtain⟨_,_,gf⟩:=c1
 obtain⟨_,_,kU⟩:=c2
 refine D.fW C4 (fun vs H Q E h=>?_) (fun f bo A outer s H vs Q E hr h=>?_)
 ·obtain⟨n,b,rfl,_⟩:=h
  rfl
 ·obtain⟨n,b,rfl,q⟩:=h
  have big:(4000 :Nat)≤sizeLine:=by decide
  refine⟨_,(aj
     (bB (dC (pv 1))
      (au
       (aB (cY cV (cf (mE (.str (.str (.str (.str (.str (.str (.str (.str .nil)))))))))) (ax bA (pv 0) aq) (fun _ _=>rfl))))
      aY)
    (aj
     (aO (i:=2) C4.nd rfl (Or.inl rfl) (cY cV (cf (aa aq (aa aq (aa (ax bH aq (ax bA (ax bW (pv 0) aq) aq)) (aa (ax bH aq (ax bA (ax bW (pv 0) aq) (ax nD (ax vB aq aq) aq))) ah))))) (ax bA (pv 0) aq) (fun _ _=>rfl)))
    (au
     (aB (aM kU.ok (hr.mono (by decide)) rfl kU.g kU.kp kU.b .nil aP (aa (cf (aa (b9 (aa (pv 2) (aa (aM gf.ok (hr.mono (by decide)) rfl gf.g gf.kp gf.b .nil aP (aa (ax bW (pv 0) aq) ah)) ah))) ah)) ah)))))),?_⟩
  refine⟨_,rfl,_,rfl,?_⟩
  cases b with
  |true=>
   have e:[V.str "H2", .str "2 O", .str "e^-", .str "Na^+", .str "3 Co2O3", .str "12 H", .str "C", .str "CO"]=Mz.map fun l=>V.str ⟨l.toArray⟩:=by decide+kernel
   have h0:=Int.emod_nonneg n (show (8 :Int)≠0 by decide)
   have h1:=Int.emod_lt_of_pos n (show (0 :Int) <8 by decide)
   obtain⟨k,hk⟩:=Int.eq_ofNat_of_zero_le h0
   have hl:k<Mz.length:=by show k<8;omega
   obtain⟨a1,a2,a3⟩:=MA _ (List.getElem_mem hl)
   have qe:sY [V.str "H2", .str "2 O", .str "e^-", .str "Na^+", .str "3 Co2O3", .str "12 H", .str "C", .str "CO"] (n%8)=some (V.str ⟨Mz[k].toArray⟩):=by
    rw[e,hk]
    exact mz (by rw[List.getElem?_map,List.getElem?_eq_getElem hl];rfl)
   exact dJ ⟨(by show 8≤sizeLine;decide),fun p hp=>⟨_,rfl,_,_,rfl,rfl,(by show (0 :Int) <8;decide),p,_,_,_,rfl,rfl,cL.of ag,qe,q _ _ a1 a3 a2 (aF.new hp)⟩⟩
  |false=>
   refine cQ ?_
   have d0:0≤n%4:=Int.emod_nonneg _ (by decide)
   have d1:n%4<4:=Int.emod_lt_of_pos _ (by decide)
   have f0:0≤n/4%20:=Int.emod_nonneg _ (by decide)
   have f1:n/4%20<20:=Int.emod_lt_of_pos _ (by decide)
   have g0:0≤n/4%((10 :Int) ^(12 :Int).toNat - 1):=Int.emod_nonneg _ (by decide)
   have g1:n/4%((10 :Int) ^(12 :Int).toNat - 1) <999999999999:=Int.emod_lt_of_pos _ (by decide)
   obtain⟨v,hv,qe⟩:=iL (xs:=[V.int 1,V.int 1,V.int (2+n/4%20),V.int (1+n/4%((10 :Int) ^(12 :Int).toNat - 1))]) d0 d1
   have hc:∃c,v=V.int c∧1≤c∧c≤999999999999:=by
    simp only [List.mem_cons,List.not_mem_nil,or_false] at hv
    rcases hv with rfl|rfl|rfl|rfl
    ·exact⟨1,rfl,by decide,by decide⟩
    ·exact⟨1,rfl,by decide,by decide⟩
    ·exact⟨_,rfl,by omega,by omega⟩
    ·exact⟨_,rfl,by omega,by omega⟩
   obtain⟨c,rfl,c0,c1⟩:=hc
   refine⟨_,rfl,_,_,rfl,rfl,⟨by decide,by decide⟩,_,_,rfl,rfl,(by show (0 :Int) <20;decide),_,_,rfl,rfl,_,rfl,_,_,rfl,rfl,⟨by decide,by decide⟩,_,_,rfl,rfl,⟨by decide,by decide,by decide⟩,_,_,rfl,rfl,_,_,rfl,rfl,(by show (0 :Int) <10^(12 :Int).toNat - 1;decide),_,_,rfl,rfl,(by show 4≤sizeLine;decide),fun l1 h1=>?_⟩
   refine⟨_,rfl,_,_,rfl,rfl,(by show (0 :Int) <4;decide),l1,_,_,V.int c,rfl,rfl,cL.of ag,qe,?_⟩
   have s1:=aF.new (o:= .lst [V.int 1,V.int 1,V.int (2+n/4%20),V.int (1+n/4%((10 :Int) ^(12 :Int).toNat - 1))]) h1
   generalize upd H l1 _=H1 at s1 ⊢
   refine⟨_,rfl,_,rfl,_,_,rfl,rfl,⟨by decide,by decide⟩,_,rfl,fun fm x H2 GG hx e2=>⟨(by show 2≤sizeLine;decide),fun t ht=>⟨(by show 1≤sizeLine;decide),fun l hl=>?_⟩⟩⟩
   have st:=aF.new (o:= .tup [.int c, .ref fm]) ht
   have sl:=aF.new (o:= .lst [V.ref t]) hl
   have bq:Ci 999999999999 (c,x):=⟨c0,c1,GG⟩
   refine⟨l,[(c,x)],rfl,⟨[t],ag, .cons ⟨fm,sl _ _ ag,(hx.same st).same sl⟩ .nil⟩,(fun y hy=>by rw[List.mem_singleton.mp hy];exact⟨c0,by show c≤10^40;omega,GG⟩),(by show 1≤10;decide),fun H' e'=>?_⟩
   have ej:SM [(c,x)]=⟨(vc (c,x)).toArray⟩:=by
    unfold SM
    have e:=PyProof.Rows.join_closes (sep:=" + ") (sep':=" + ") (ys:=[vo (c,x)]) rfl
    rw[show [(c,x)].map vo=[vo (c,x)] from rfl,show Txt.join " + " [vo (c,x)]=Str.join " + " [vo (c,x)] by simpa using e]
    exact CW (c,x)
   rw[ej]
   have tx:=My bq
   refine q _ _ tx ?_ (C0 bq).2 ((((s1.trans e2).trans st).trans sl).trans e')
   obtain⟨b,r,eb,_⟩:=tx.b
   rw[eb]
   exact Nat.succ_le_succ (Nat.zero_le _)
def i7(m k:Nat):Nat:=if 7<m then 7+11*k else 46+50*k
def ve(K:PySem.W.Frag):Sp:=fun vs H Q _=>∃(a ar:Addr) (ns:List Int) (m:Nat) (ks:List Int),vs=[.ref a, .int (m:Int), .ref ar]∧cL K H a (ns.map V.int)∧ns.length≤63∧1≤m∧m≤10∧H ar=some (.lst (ks.map V.int))∧(ks=[]∨∃k0,ks=[k0]∧1≤k0∧k0≤10)∧
 ∀l H' rt,JT l (m - 1) rt→(rt=true↔∃k0,ks=[k0]∧k0<m)→l.length≤i7 m (m - 1)→4*m≤l.length+3→aF H H'→Q (.str ⟨l.toArray⟩) H'
theorem gW:ay ["_law_script","_law_many","_law_arrows","_law_text","_law_k"] ["_law_script","_law_many","_law_arrows"] (ak mQ):=dN
theorem As(D:Def K mg "_law_joined" "_law_joined" mQ ["_law_script","_law_many","_law_arrows"])(T:wx K mg C)(c1:bD P w K mg base 1 "_law_cell_at" ["_law_script","_law_k"] (nZ K))(c2:bD P w K mg base 5 "_law_term" ["_law_cell","_law_short"] C3):bD P w K mg base 6 "_law_joined" ["_law_script","_law_many","_law_arrows"] (ve K):=by
 obtain⟨_,_,aD⟩:=c1
 obtain⟨_,_,eP⟩:=c2
 refine D.fW gW (fun vs H Q E h=>?_) (fun f bo A outer s H vs Q E hr h=>?_)
 ·obtain⟨a,ar,ns,m,ks,rfl,_⟩:=h
  rfl
 ·obtain⟨a,ar,ns,m,ks,rfl,hS,hlen,m1,X7,hA,MB,q⟩:=h
  have big:(4000 :Nat)≤sizeLine:=by decide
  refine⟨_,(aj
     (aO (i:=3) gW.nd rfl (Or.inl rfl) (aM eP.ok (hr.mono (by decide)) rfl eP.g eP.kp eP.b .nil aP (aa (aM aD.ok (hr.mono (by decide)) rfl aD.g aD.kp aD.b .nil aP (aa (pv 0) (aa aq ah))) (aa (i' fT (pv 1) aq (aU _)) ah))))
    (aj
     (jK PassesOwn.never rfl (y9 rfl T.kG (aa aq (aa (pv 1) ah))) (bZ (i:=4) gW.nd rfl (Or.inl rfl))
      (aj
       (bB (aJ pH (pv 4) (pv 2) (by with_unfolding_all rfl))
        (au
         (aO (i:=3) gW.nd rfl (Or.inl rfl) (ax aG (pv 3) aN)))
        (au
         (aO (i:=3) gW.nd rfl (Or.inl rfl) (ax aG (pv 3) aN))))
      (au
       (aO (i:=3) gW.nd rfl (Or.inl rfl) (ax aG (pv 3) (aM eP.ok (hr.mono (by decide)) rfl eP.g eP.kp eP.b .nil aP (aa (aM aD.ok (hr.mono (by decide)) rfl aD.g aD.kp aD.b .nil aP (aa (pv 0) (aa (ax bH aq (pv 4)) ah))) (aa (i' fT (pv 1) aq (aU _)) ah))))))))
    (au
     (aB (pv 3))))),?_⟩
  refine⟨_,rfl,a,ns,3,rfl,hS,hlen,fun n0=>⟨_,rfl,_,_,rfl,rfl,_,_,rfl,fun l0 H1 t0 p0 b0 e1=>?_⟩⟩
  have sb:∀x:Nat,x≤(if decide ((7 :Int) < (m:Int))=true then 7 else 46)→x≤i7 m 0:=fun x hx=>by
   unfold i7
   by_cases h7:7<m
   ·rw[if_pos (decide_eq_true (by omega))] at hx;rw[if_pos h7];omega
   ·rw[if_neg (by rw[decide_eq_false (by omega)];simp)] at hx;rw[if_neg h7];omega
  have sl:∀k,i7 m (k+1)=i7 m k+i7 m 0+4:=fun k=>by
   unfold i7
   split<;>omega
  have l5:∀k,k≤10→i7 m k≤1000:=fun k hk=>by
   unfold i7
   split<;>omega
  dsimp only [iH]
  have X9:∀k:Int,zu (V.int k) (ks.map V.int)=true↔∃k0,ks=[k0]∧k0=k:=fun k=>by
   rcases MB with rfl| ⟨k0,rfl,_⟩
   ·refine⟨fun z=>(by cases z),fun⟨_,z,_⟩=>(by cases z)⟩
   ·have e:zu (V.int k) ([k0].map V.int)=decide (k0=k):=by
     simp [zu,AB]
     rw[Bool.eq_iff_iff,beq_iff_eq,decide_eq_true_eq]
    rw[e,decide_eq_true_eq]
    exact⟨fun z=>⟨k0,rfl,z⟩,fun⟨x,z1,z2⟩=>by cases z1;exact z2⟩
  have KD:(" -> " :Str)=⟨pA.toArray⟩:=by decide+kernel
  have QC:(" + " :Str)=⟨pJ.toArray⟩:=by decide+kernel
  refine⟨_,rfl,1,m,rfl,by omega,gA (fun i σ H'=>∃(l:List Nat) (v:Option V) (rt:Bool),σ=[some (.ref a),some (.int (m:Int)),some (.ref ar),some (.str ⟨l.toArray⟩),v]∧JT l i rt∧(rt=true↔∃k0,ks=[k0]∧k0< (i:Int)+1)∧l.length≤i7 m i∧4*(i+1)≤l.length+3∧aF H H') ⟨l0,none,false,rfl,t0.jt,?_,sb _ b0,by omega,e1⟩ ?_ ?_⟩
  ·refine⟨fun z=>(by cases z),fun⟨k0,z,y⟩=>?_⟩
   rcases MB with h| ⟨k1,h,h1,_⟩
   ·rw[h] at z;cases z
   ·rw[h] at z
    cases z
    omega
  ·rintro i σ H2 hi ⟨l,v,rt,rfl,hJ,DL,FH,zx,e2⟩
   have hi9:i+1≤10:=by omega
   have h1k:=l5 i (by omega)
   have hs:=sl i
   have h0k:=l5 0 (by omega)
   dsimp only [iH]
   refine eZ (fun σ' H'=>∃l2:List Nat,σ'=[some (.ref a),some (.int (m:Int)),some (.ref ar),some (.str ⟨l2.toArray⟩),some (.int (1+(i:Int)))]∧(∀t,wW t→∃AK,JT (l2++t) (i+1) AK∧(AK=true↔∃k0,ks=[k0]∧k0< ((i+1 :Nat):Int)+1))∧l2.length≤l.length+4∧l.length+3≤l2.length∧H'=H2) (fun N hN=>?_) ?_
   ·refine⟨_,rfl,_,rfl,ar,_,rfl, .inl (cL.of (e2 _ _ hA)),rfl,?_,_,rfl,?_⟩
    ·rw[List.all_map]
     exact List.all_eq_true.mpr fun _ _=>rfl
    by_cases hk:∃k0,ks=[k0]∧k0=1+(i:Int)
    ·have rf:rt=false:=by
      cases rt with
      |false=>rfl
      |true=>
       obtain⟨k0,y1,y2⟩:=DL.mp rfl
       obtain⟨k1,z1,z2⟩:=hk
       rw[y1] at z1
       cases z1
       omega
     rw[rf] at hJ
     rw[show (if false=true then !zu (V.int (1+(i:Int))) (ks.map V.int) else zu (V.int (1+(i:Int))) (ks.map V.int))=true from (X9 _).mpr hk]
     refine dJ ⟨_,rfl,⟨l.toArray⟩,_,rfl,rfl,?_,?_⟩
     ·rw[KD,az,az]
      show l.length+4≤_
      omega
     ·rw[KD,aZ]
      refine hN _ _ ⟨l++pA,rfl,fun t ht=>⟨true,hJ.arrow ht,fun _=>?_,fun _=>rfl⟩,by rw[List.length_append];exact Nat.le_refl _,by rw[List.length_append];show _≤l.length+4;omega,rfl⟩
      obtain⟨k1,z1,z2⟩:=hk
      exact⟨k1,z1,by omega⟩
    ·rw[show (if false=true then !zu (V.int (1+(i:Int))) (ks.map V.int) else zu (V.int (1+(i:Int))) (ks.map V.int))=false from Bool.eq_false_iff.mpr fun z=>hk ((X9 _).mp z)]
     refine cQ ⟨_,rfl,⟨l.toArray⟩,_,rfl,rfl,?_,?_⟩
     ·rw[QC,az,az]
      show l.length+3≤_
      omega
     ·rw[QC,aZ]
      refine hN _ _ ⟨l++pJ,rfl,fun t ht=>⟨rt,hJ.plus ht,?_⟩,by rw[List.length_append];show l.length+3≤_;omega,by rw[List.length_append];exact Nat.le_refl _,rfl⟩
      rw[DL]
      constructor
      ·rintro ⟨k1,z1,z2⟩
       exact⟨k1,z1,by omega⟩
      ·rintro ⟨k1,z1,z2⟩
       refine⟨k1,z1,?_⟩
       have:k1≠1+(i:Int):=fun y=>hk ⟨k1,z1,y⟩
       omega
   rintro σ H3 ⟨l2,rfl,RE,u1,u2,rfl⟩
   refine⟨_,rfl,_,rfl,_,rfl,_,_,rfl,rfl,a,ns,3+(1+i),congrArg (fun z=>[V.ref a,V.int z]) (show (3 :Int)+(1+(i:Int))=((3+(1+i):Nat):Int) by omega),e2.seq hS,hlen,fun n1=>⟨_,rfl,_,_,rfl,rfl,_,_,rfl,fun t H4 tt p1 b1 e4=>?_⟩⟩
   have b1':=sb _ b1
   refine⟨⟨l2.toArray⟩,⟨t.toArray⟩,rfl,rfl,by rw[az,az];omega,?_⟩
   rw[aZ]
   obtain⟨AK,j1,j2⟩:=RE t tt
   exact⟨l2++t,_,AK,rfl,j1,j2,by rw[List.length_append];omega,by rw[List.length_append];omega,e2.trans e4⟩
  ·rintro σ H2 ⟨l,v,rt,rfl,hJ,DL,FH,zx,e2⟩
   have em:((m:Int) - 1).toNat=m - 1:=by omega
   rw[em] at hJ DL FH zx
   refine⟨_,rfl,q l H2 rt hJ ?_ FH (by omega) e2⟩
   rw[DL]
   constructor<;>(rintro ⟨k0,z1,z2⟩;exact⟨k0,z1,by omega⟩)
theorem sub_one{x:Str}{c i:Nat}:Builtin.Str.subAt x ⟨#[c]⟩ i=true↔x.cps.toList[i]? =some c:=by
 unfold Builtin.Str.subAt
 show (x.cps.extract i (i+1)==#[c])=true↔_
 rw[beq_iff_eq,←Array.toList_inj,Array.toList_extract]
 show ((x.cps.toList.drop i).take (i+1 - i))=[c]↔_
 rw[Nat.add_sub_cancel_left]
 rw[←List.head?_drop]
 cases x.cps.toList.drop i with
 |nil=>simp
 |cons a r=>simp
open PySem.StrLaws in
theorem sr(x:Str)(c hi lim:Nat):∀(n lo:Nat) (st:Array Nat×Nat),st.2≤lo→st.1.size+n≤lim→
  (forIn (List.range' lo n) st (occBody x ⟨#[c]⟩ hi lim)).run.1.size=st.1.size+((List.range' lo n).filter fun i=>decide (i+1≤hi)&&Builtin.Str.subAt x ⟨#[c]⟩ i).length
 |0,lo,st,_,_=>rfl
 |n+1,lo,st,h1,h2=>by
  rw[List.range'_succ,List.forIn_cons,List.filter_cons]
  have l1:(⟨#[c]⟩:Str).length=1:=rfl
  by_cases h:lo+1≤hi∧Builtin.Str.subAt x ⟨#[c]⟩ lo=true
  ·have e:occBody x ⟨#[c]⟩ hi lim lo st=pure (ForInStep.yield (st.1.push lo,lo+1)):=by
    unfold occBody
    rw[if_pos ⟨⟨⟨by omega,h1⟩,by rw[l1];exact h.1⟩,h.2⟩]
    rfl
   rw[e]
   have e2:(decide (lo+1≤hi)&&Builtin.Str.subAt x ⟨#[c]⟩ lo)=true:=by rw[h.2,decide_eq_true h.1];rfl
   rw[if_pos e2]
   show (forIn (List.range' (lo+1) n) (st.1.push lo,lo+1) (occBody x ⟨#[c]⟩ hi lim)).run.1.size=_
   rw[sr x c hi lim n (lo+1) _ (Nat.le_refl _) (by rw[Array.size_push];omega),Array.size_push,List.length_cons]
   omega
  ·have e:occBody x ⟨#[c]⟩ hi lim lo st=pure (ForInStep.yield (st.1,st.2)):=by
    unfold occBody
    rw[if_neg fun z=>h ⟨by have:=z.1.2;rw[l1] at this;exact this,z.2⟩]
   rw[e]
   have e2:¬(decide (lo+1≤hi)&&Builtin.Str.subAt x ⟨#[c]⟩ lo)=true:=fun z=>h (by simpa using z)
   rw[if_neg e2]
   show (forIn (List.range' (lo+1) n) (st.1,st.2) (occBody x ⟨#[c]⟩ hi lim)).run.1.size=_
   rw[sr x c hi lim n (lo+1) _ (Nat.le_succ_of_le h1) (by show st.1.size+n≤lim;omega)]
theorem yx(c:Nat):∀(l:List Nat) (lo:Nat) (m:List Nat),m.length=lo→((List.range' lo (l.length+1)).filter fun i=>decide (i+1≤lo+l.length)&&decide ((m++l)[i]? =some c)).length=l.count c
 | [],lo,m,_=>by
   show ((List.range' lo 1).filter _).length=0
   simp
   intro h
   omega
 |a::r,lo,m,hm=>by
  rw[List.length_cons,List.range'_succ,List.filter_cons]
  have e0:(m++a::r)[lo]? =some a:=by rw[List.getElem?_append_right (by omega),hm,Nat.sub_self];rfl
  have ih:=yx c r (lo+1) (m++[a]) (by rw[List.length_append,hm];rfl)
  rw[List.append_assoc] at ih
  have e1:(fun i=>decide (i+1≤lo+(r.length+1))&&decide ((m++a::r)[i]? =some c))=fun i=>decide (i+1≤lo+1+r.length)&&decide ((m++([a]++r))[i]? =some c):=by
   funext i
   rw[show lo+(r.length+1)=lo+1+r.length by omega]
   rfl
  rw[e1,e0,decide_eq_true (by omega),Bool.true_and]
  by_cases h:a=c
  ·subst h
   rw[if_pos (by simp),List.length_cons,ih,List.count_cons_self]
  ·have h':¬(some a=some c):=fun z=>h (Option.some.inj z)
   rw[if_neg (by simpa using h'),ih,List.count_cons_of_ne h]
theorem count_is(l:List Nat)(c:Nat):Txt.count ⟨l.toArray⟩ ⟨#[c]⟩=(l.count c:Int):=by
 have xl:(⟨l.toArray⟩:Str).length=l.length:=az l
 unfold Txt.count
 rw[PySem.StrLaws.occ_eq,Array.length_toList,xl]
 show ((forIn (List.range' 0 (l.length+1)) ((#[]:Array Nat),0) (PySem.StrLaws.occBody ⟨l.toArray⟩ ⟨#[c]⟩ l.length (l.length+1))).run.1.size:Int)=_
 rw[sr ⟨l.toArray⟩ c l.length (l.length+1) (l.length+1) 0 (#[],0) (Nat.le_refl _) (by show 0+(l.length+1)≤_;omega)]
 have:=yx c l 0 [] rfl
 rw[Nat.zero_add,List.nil_append] at this
 rw[←this]
 congr 1
 show 0+_=_
 rw[Nat.zero_add]
 congr 2
 funext i
 congr 1
 have:=sub_one (x:=⟨l.toArray⟩) (c:=c) (i:=i)
 cases hb:Builtin.Str.subAt ⟨l.toArray⟩ ⟨#[c]⟩ i with
 |true=>exact(decide_eq_true (this.mp hb)).symm
 |false=>exact(decide_eq_false fun z=>by rw[this.mpr z] at hb;cases hb).symm
theorem C5(l:List Nat):Txt.rstripChars ⟨l.toArray⟩ "1234567890" =⟨(gv l).toArray⟩:=by
 have xl:(⟨l.toArray⟩:Str).length=l.length:=az l
 have dig:∀c:Nat,("1234567890" :Str).cps.contains c=bK c:=by
  intro c
  have e:("1234567890" :Str).cps=#[49,50,51,52,53,54,55,56,57,48]:=by decide+kernel
  rw[e]
  by_cases h:c<58
  ·have:∀c:Nat,c<58→(#[49,50,51,52,53,54,55,56,57,48]:Array Nat).contains c=bK c:=by decide+kernel
   exact this c h
  ·have h1:bK c=false:=by
    simp only [bK,Bool.and_eq_false_iff,decide_eq_false_iff_not]
    omega
   rw[h1]
   have:¬(#[49,50,51,52,53,54,55,56,57,48]:Array Nat).contains c=true:=by
    intro z
    have:c∈(#[49,50,51,52,53,54,55,56,57,48]:Array Nat):=Array.contains_iff_mem.mp z
    simp at this
    omega
   exact Bool.eq_false_iff.mpr this
 have ef:("1234567890" :Str).cps.contains=bK:=funext dig
 have h8:=KA l
 have hl:=congrArg List.length h8
 rw[List.length_append] at hl
 have et:(l.reverse.takeWhile bK).length=(md l).length:=by unfold md;rw[List.length_reverse]
 unfold Txt.rstripChars Txt.stripBy
 rw[ef]
 have hi:stripHi bK true ⟨l.toArray⟩ 0=(gv l).length:=by
  unfold stripHi
  rw[if_pos rfl,xl]
  show l.length - ((l.drop 0).reverse.takeWhile bK).length=_
  rw[List.drop_zero,et]
  omega
 have lo:stripLo bK false ⟨l.toArray⟩=0:=rfl
 have tk:l.take (gv l).length=gv l:=by
  have:(gv l++md l).take (gv l).length=gv l:=List.take_left ..
  rwa [←h8] at this
 unfold stripSame stripped
 rw[lo,hi,xl]
 by_cases hz:(gv l).length=l.length
 ·rw[if_pos (by simp [hz])]
  have:gv l=l:=by rw[←tk,hz,List.take_length]
  rw[this]
 ·rw[if_neg (by simp [hz])]
  apply ei
  show (l.toArray.extract 0 (gv l).length).toList=gv l
  rw[Array.toList_extract]
  show (l.drop 0).take ((gv l).length - 0)=gv l
  rw[List.drop_zero,Nat.sub_zero,tk]
theorem FI(l:List Nat):Txt.slice ⟨l.toArray⟩ (some (-1)) none=⟨(l.drop (l.length - 1)).toArray⟩:=by
 have xl:(⟨l.toArray⟩:Str).length=l.length:=az l
 have e:Builtin.Str.strSliceIndices (some (-1)) none 1 l.length=Builtin.Str.strSliceIndices (some ((l.length - 1 :Nat):Int)) none 1 l.length:=by
  simp only [Builtin.Str.strSliceIndices,show ((1 :Int) >0)=True from by simp,if_true]
  congr 1
  rw[if_pos (by decide),if_neg (by omega)]
  omega
 have h2:=Ct l (a:=l.length - 1) (by omega)
 rw[←h2]
 unfold Txt.slice
 rw[xl,e]
theorem nk(l:List Nat)(c:Nat):V.str (Txt.slice ⟨l.toArray⟩ (some (-1)) none)=V.str ⟨#[c]⟩↔l.getLast? =some c:=by
 rw[FI]
 cases h:l.getLast? with
 |none=>
  rw[List.getLast?_eq_none_iff.mp h]
  refine⟨fun z=>?_,fun z=>by cases z⟩
  have z:(⟨([]:List Nat).toArray⟩:Str)=⟨#[c]⟩:=by injection z
  have:=congrArg (fun s:Str=>s.cps.toList) z
  simp at this
 |some b=>
  have jc:l≠[]:=fun z=>by rw[z] at h;cases h
  have e:l.drop (l.length - 1)=[b]:=by
   have e1:l=l.dropLast++[b]:=by
    rw[List.getLast?_eq_some_getLast jc] at h
    cases h
    exact(List.dropLast_concat_getLast jc).symm
   conv=>lhs;rw[e1]
   rw[List.length_append]
   show (l.dropLast++[b]).drop (l.dropLast.length+1 - 1)=[b]
   rw[Nat.add_sub_cancel,List.drop_left]
  rw[e]
  refine⟨fun z=>?_,fun z=>?_⟩
  ·have z:(⟨[b].toArray⟩:Str)=⟨#[c]⟩:=by injection z
   have:=congrArg (fun s:Str=>s.cps.toList) z
   have:b=c:=by simpa using this
   rw[this]
  ·cases z;rfl
theorem sZ{l:List Nat}{b:Nat}(h:l.getLast? =some b):sY l (-1)=some b:=by
 have jc:l≠[]:=fun z=>by rw[z] at h;cases h
 have hl:0<l.length:=List.length_pos_iff.mpr jc
 rw[List.getLast?_eq_getElem?] at h
 have e:DC l.length (-1)=some (l.length - 1):=by
  unfold DC
  have h1:((-1 :Int)+(l.length:Int))=((l.length - 1 :Nat):Int):=by omega
  simp only [show ((-1 :Int) <0) from by decide,if_true,h1]
  simp
  try omega
 unfold sY
 rw[e]
 exact h
theorem yy(l:List Nat):(!(Builtin.Str.occurrences ⟨l.toArray⟩ " -> " 0 (⟨l.toArray⟩:Str).length 1).isEmpty)=true↔Fy l:=by
 have KD:(" -> " :Str)=⟨pA.toArray⟩:=by decide+kernel
 rw[PySem.StrLaws.found_iff,KD]
 constructor
 ·rintro ⟨i,h1,h2⟩
  rw[rZ (by decide)] at h2
  obtain⟨b,hb⟩:=List.isPrefixOf_iff_prefix.mp h2
  exact⟨l.take i,b,by rw[List.append_assoc,hb,List.take_append_drop]⟩
 ·rintro ⟨a,b,h⟩
  refine⟨a.length,?_,?_⟩
  ·rw[az,az,h,List.length_append,List.length_append]
   omega
  ·rw[rZ (by decide),List.isPrefixOf_iff_prefix,h,List.append_assoc,List.drop_left]
   exact⟨b,rfl⟩
theorem xa:∀{b t:List Nat},(∀c∈b,c≠32)→b.foldl (fun t c=>if c=32 then [] else t++[c]) t=t++b
 | [],t,_=>by simp
 |c::r,t,h=>by
  rw[List.foldl_cons,if_neg (h c (List.mem_cons_self ..)),xa fun x hx=>h x (List.mem_cons_of_mem _ hx)]
  simp
theorem FJ{l:List Nat}(h:∀c∈l,c≠32):j5 l=l:=by
 unfold j5
 rw[xa h,List.nil_append]
theorem Jq(a:List Nat){b:List Nat}(h:∀c∈b,c≠32):j5 (a++32::b)=b:=by
 unfold j5
 rw[List.foldl_append,List.foldl_cons,if_pos rfl,xa h,List.nil_append]
theorem C6(l:List Nat):(Txt.rpartition ⟨l.toArray⟩ " ").2.2=⟨(j5 l).toArray⟩:=by
 have eb:(" " :Str)=⟨#[32]⟩:=by decide+kernel
 rw[eb]
 have C7:∀i,PySem.StrLaws.At ⟨l.toArray⟩ ⟨#[32]⟩ (⟨l.toArray⟩:Str).length i↔l[i]? =some 32:=fun i=>PySem.StrLaws.subAt_one ⟨l.toArray⟩ 32 i
 unfold Txt.rpartition
 rcases PySem.StrLaws.last_spec ⟨l.toArray⟩ ⟨#[32]⟩ with ⟨h,hn⟩ | ⟨i,h,hi,hk⟩
 ·rw[h]
  show (⟨l.toArray⟩:Str)=_
  rw[FJ]
  intro c hc z
  obtain⟨i,hi⟩:=List.getElem?_of_mem hc
  exact hn i ((C7 i).mpr (by rw[hi,z]))
 ·rw[h]
  have hi:=(C7 i).mp hi
  have il:=(List.getElem?_eq_some_iff.mp hi).1
  have hv:=(List.getElem?_eq_some_iff.mp hi).2
  have el:l=l.take i++32::l.drop (i+1):=by
   conv=>lhs;rw[←List.take_append_drop i l,List.drop_eq_getElem_cons il,hv]
  have hb:∀c∈l.drop (i+1),c≠32:=fun c hc z=>by
   obtain⟨j,hj⟩:=List.getElem?_of_mem hc
   rw[List.getElem?_drop] at hj
   exact hk (i+1+j) (by omega) ((C7 _).mpr (by rw[hj,z]))
  have e2:j5 l=l.drop (i+1):=by
   conv=>lhs;rw[el]
   exact Jq _ hb
  rw[e2]
  refine ei ?_
  show (l.toArray.extract (i+1) (⟨l.toArray⟩:Str).length).toList=l.drop (i+1)
  rw[az,Array.toList_extract]
  show (l.drop (i+1)).take (l.length - (i+1))=_
  rw[List.take_of_length_le (by rw[List.length_drop];omega)]
theorem yz:∀c:Nat,c<128→Unicode.isDigit c=bK c:=by decide+kernel
theorem C8{t:List Nat}(h:cJ t):Txt.isdigit ⟨t.toArray⟩=true↔t≠[]∧t.all bK=true:=by
 show (decide ((⟨t.toArray⟩:Str).length>0)&&t.toArray.all Unicode.isDigit)=true↔_
 rw[Bool.and_eq_true,decide_eq_true_eq,az]
 have e:t.toArray.all Unicode.isDigit=t.all bK:=by
  rw[List.all_toArray]
  rw[Bool.eq_iff_iff,List.all_eq_true,List.all_eq_true]
  exact⟨fun z c hc=>by rw[←yz c (h c hc)];exact z c hc,fun z c hc=>by rw[yz c (h c hc)];exact z c hc⟩
 rw[e]
 exact and_congr_left fun _=>List.length_pos_iff
variable {uC uP uI uD uL uT:Tok}
def C9:Sp:=fun vs H Q _=>∃l:List Nat,vs=[.str ⟨l.toArray⟩]∧cJ l∧l.length≤9000∧(DK l→∀H',aF H H'→Q (.bl true) H')∧(¬DK l→∀H',aF H H'→Q (.bl false) H')
theorem xb:ay ["_law_text","_law_tail","_law_head"] ["_law_text"] (ak xT):=dN
theorem yA{a b:List Nat}:V.str (⟨a.toArray⟩:Str)=V.str (⟨b.toArray⟩:Str)↔a=b:=by
 refine⟨fun z=>?_,fun z=>by rw[z]⟩
 have z:(⟨a.toArray⟩:Str)=⟨b.toArray⟩:=by injection z
 have:=congrArg (fun s:Str=>s.cps.toList) z
 simpa using this
theorem MC:∀c:Nat,c<128→(!(Builtin.Str.occurrences "(.^" ⟨#[c]⟩ 0 ("(.^" :Str).length 1).isEmpty)=(decide (c=40)||(decide (c=46)||decide (c=94))):=by decide+kernel
theorem X':("1" :Str)=⟨[49].toArray⟩:=by decide+kernel
def To:List (List Nat):=[[],[43],[45],[45,62],[101],[101,94]]
theorem GN(t:List Nat):zu (V.str ⟨t.toArray⟩) [V.str "",V.str "+",V.str "-",V.str "->",V.str "e",V.str "e^"]=true↔(t=[]∨t=[43]∨t=[45]∨t=[45,62]∨t=[101]∨t=[101,94]):=by
 have e:[V.str "",V.str "+",V.str "-",V.str "->",V.str "e",V.str "e^"]=To.map fun l=>V.str ⟨l.toArray⟩:=by decide+kernel
 have q:∀a:List Nat,((⟨a.toArray⟩:Str)==⟨t.toArray⟩)=true↔t=a:=fun a=>by
  rw[beq_iff_eq]
  exact⟨fun z=>by have:=congrArg (fun s:Str=>s.cps.toList) z;simpa using this.symm,fun z=>by rw[z]⟩
 rw[e]
 unfold zu
 rw[List.any_map,List.any_eq_true]
 constructor
 ·rintro ⟨a,ha,z⟩
  have z:t=a:=(q a).mp z
  subst z
  simpa [To] using ha
 ·intro h
  exact⟨t,by simpa [To] using h,(q t).mpr rfl⟩
theorem FK:∀l:List Nat,∃a,l=a++j5 l:=by
 intro l
 induction hn:l.length generalizing l with
 |zero=>
  have:l=[]:=List.length_eq_zero_iff.mp hn
  subst this
  exact⟨[],rfl⟩
 |succ n ih=>
  obtain⟨v,c,rfl⟩:∃v c,l=v++[c]:=⟨l.dropLast,l.getLast (by intro z;rw[z] at hn;cases hn),(List.dropLast_concat_getLast _).symm⟩
  obtain⟨a,e⟩:=ih v (by simpa using hn)
  rw[i6]
  by_cases h:c=32
  ·rw[if_pos h];exact⟨v++[c],by simp⟩
  ·rw[if_neg h];exact⟨a,by rw[←List.append_assoc,←e]⟩
theorem FL(D:Def K mg "_law_open" "_law_open" xT ["_law_text"])(T:kF K mg C):bD P w K mg base 1 "_law_open" ["_law_text"] C9:=by
 refine D.fW xb (fun vs H Q E h=>?_) (fun f bo A outer s H vs Q E hr h=>?_)
 ·obtain⟨l,rfl,_⟩:=h
  rfl
 ·obtain⟨l,rfl,ha,hl,q1,q2⟩:=h
  have big:(10000 :Nat)≤sizeLine:=by decide
  have xl:(⟨l.toArray⟩:Str).length=l.length:=az l
  refine⟨_,(aj
     (aO (i:=1) xb.nd rfl (Or.inl rfl) (cY vJ (eG PySem.F.plainAttrs_str PySem.F.slot_str_rpartition PySem.F.type_str_rpartition o7 (pv 0) (aa aN ah)) aq (fun _ _=>rfl)))
    (aj
     (bB (PW.pt (fS (aJ qF aN (pv 0) (by with_unfolding_all rfl)) (fS (aJ pH (pv 1) (cf (mE (.str (.str (.str (.str (.str (.str .nil)))))))) (by with_unfolding_all rfl)) (iG (dC (vV (pv 1)))))))
      (au
       (aB iw))
      aY)
    (aj
     (aO (i:=2) xb.nd rfl (Or.inl rfl) (eG PySem.F.plainAttrs_str PySem.F.slot_str_rstrip PySem.F.type_str_rstrip zI (pv 1) (aa aN ah)))
    (aj
     (bB (PW.pt (fS (aJ ze (cY lr (pv 1) (j8 gY aq) (fun _ _=>rfl)) aN (by with_unfolding_all rfl)) (fS (aJ cw (cE eR (pv 1) (cq (bb b4 rfl T.f7 dX (aa (pv 2) ah))) fV) aN (aU _)) (fS (aJ cw (cE eR (pv 2) (cq (j8 gY aq)) fV) aN (aU _)) (iG (aJ cw (cE eR (pv 2) (cq (j8 gY aq)) fV) aN (aU _)))))))
      (au
       (aB iw))
      aY)
    (au
     (aB (i' fT (eG PySem.F.plainAttrs_str PySem.F.slot_str_count PySem.F.type_str_count kn (pv 1) (aa aN ah)) (eG PySem.F.plainAttrs_str PySem.F.slot_str_count PySem.F.type_str_count kn (pv 1) (aa aN ah)) (aU _)))))))),?_⟩
  refine⟨_,rfl,rfl,⟨l.toArray⟩," ",rfl,rfl,rfl,by omega,fun p hp=>⟨p,_,_,_,rfl,rfl,mq.of ag,rfl,?_⟩⟩
  have e1:=aF.new (o:= .tup [.str (Txt.rpartition ⟨l.toArray⟩ " ").1, .str (Txt.rpartition ⟨l.toArray⟩ " ").2.1, .str (Txt.rpartition ⟨l.toArray⟩ " ").2.2]) hp
  generalize upd H p _=H1 at e1 ⊢
  rw[C6]
  obtain⟨pre,lu⟩:=FK l
  have QD:cJ (j5 l):=fun c hc=>ha c (by rw[lu];exact List.mem_append.mpr (.inr hc))
  have Z9:(j5 l).length≤l.length:=by have:=congrArg List.length lu;rw[List.length_append] at this;omega
  have tx:(⟨(j5 l).toArray⟩:Str).length=(j5 l).length:=az _
  refine⟨_,rfl,_,_,rfl,rfl,_,rfl,?_⟩
  by_cases hA:Fy l
  rotate_left
  ·have:(!(Builtin.Str.occurrences ⟨l.toArray⟩ " -> " 0 (⟨l.toArray⟩:Str).length 1).isEmpty)=false:=Bool.eq_false_iff.mpr fun z=>hA ((yy l).mp z)
   rw[this]
   exact dJ (q1 (.inl hA) H1 e1)
  rw[(yy l).mpr hA]
  have q1:Ms (j5 l)→∀H',aF H H'→Q (.bl true) H':=fun z=>q1 (.inr z)
  have q2:¬Ms (j5 l)→∀H',aF H H'→Q (.bl false) H':=fun z=>q2 (fun y=>y.elim (fun y=>y hA) z)
  generalize j5 l=t at QD Z9 tx q1 q2 ⊢
  refine cQ ⟨_,rfl,(by show 6≤sizeLine;decide),fun p2 P6=>⟨p2,_,rfl, .inl (cL.of ag),rfl,rfl,_,rfl,?_⟩⟩
  have e2:=e1.trans (aF.new (o:= .lst [V.str "",V.str "+",V.str "-",V.str "->",V.str "e",V.str "e^"]) P6)
  generalize upd H1 p2 _=H2 at e2 ⊢
  show if zu (V.str ⟨t.toArray⟩) [V.str "",V.str "+",V.str "-",V.str "->",V.str "e",V.str "e^"]=true then _ else _
  by_cases MD:t=[]∨t=[43]∨t=[45]∨t=[45,62]∨t=[101]∨t=[101,94]
  ·rw[(GN t).mpr MD]
   exact dJ (q1 (.inl MD) H2 e2)
  rw[show zu (V.str ⟨t.toArray⟩) [V.str "",V.str "+",V.str "-",V.str "->",V.str "e",V.str "e^"]=false from Bool.eq_false_iff.mpr fun z=>MD ((GN t).mp z)]
  refine cQ ⟨_,rfl,⟨t.toArray⟩,rfl,_,rfl,?_⟩
  by_cases QE:t≠[]∧t.all bK=true
  ·rw[(C8 QD).mpr QE]
   exact dJ (q1 (.inr (.inl QE)) H2 e2)
  rw[show Txt.isdigit ⟨t.toArray⟩=false from Bool.eq_false_iff.mpr fun z=>QE ((C8 QD).mp z)]
  refine cQ ?_
  have h8:=KA t
  have Z':(gv t).length≤t.length:=by have:=congrArg List.length h8;rw[List.length_append] at this;omega
  have dl:t.drop (gv t).length=md t:=by
   have:(gv t++md t).drop (gv t).length=md t:=List.drop_left ..
   rwa [←h8] at this
  refine⟨_,rfl,rfl,⟨t.toArray⟩,_,rfl,rfl,by omega,?_⟩
  rw[C5]
  have hxl:(⟨(gv t).toArray⟩:Str).length=(gv t).length:=az _
  have h0:t≠[]:=fun z=>MD (.inl z)
  obtain⟨b,hb⟩:∃b,t.getLast? =some b:=⟨_,List.getLast?_eq_some_getLast h0⟩
  have Tp:b<128:=QD b (List.mem_of_getLast? hb)
  refine⟨_,rfl,1,rfl,⟨t.toArray⟩, -1,b,rfl,rfl,by omega,sZ hb,_,_,rfl,rfl,_,rfl,?_⟩
  rw[MC b Tp]
  by_cases FN:b=40∨b=46∨b=94
  ·have:(decide (b=40)||(decide (b=46)||decide (b=94)))=true:=by simpa using FN
   rw[this]
   exact dJ (q1 (.inr (.inr (.inl (.inl ⟨b,hb,FN⟩)))) H2 e2)
  have:(decide (b=40)||(decide (b=46)||decide (b=94)))=false:=by simpa using FN
  rw[this]
  refine cQ ⟨_,rfl,_,rfl,⟨(gv t).toArray⟩,rfl,by omega,_,rfl,⟨t.toArray⟩,rfl,by omega,?_⟩
  rw[hxl,Ct t Z',dl]
  refine⟨rfl,_,rfl,?_⟩
  by_cases ht:md t=[49]
  ·exact eI (by rw[X'];exact yA.mpr ht) (q1 (.inr (.inr (.inl (.inr (.inl ht))))) _ e2)
  refine dR (by rw[X'];exact fun z=>ht (yA.mp z)) ?_
  refine⟨_,rfl,1,rfl,_,rfl,⟨(gv t).toArray⟩,rfl,by omega,rfl,_,rfl,?_⟩
  by_cases Ky:(gv t).getLast? =some 94
  ·exact eI (by rw[Iz];exact(nk _ _).mpr Ky) (q1 (.inr (.inr (.inl (.inr (.inr (.inl Ky)))))) _ e2)
  refine dR (by rw[Iz];exact fun z=>Ky ((nk _ _).mp z)) ?_
  refine⟨_,rfl,1,rfl,_,rfl,⟨(gv t).toArray⟩,rfl,by omega,rfl,_,rfl,?_⟩
  by_cases rF:(gv t).getLast? =some 46
  ·exact eI (by rw[IA];exact(nk _ _).mpr rF) (q1 (.inr (.inr (.inl (.inr (.inr (.inr rF)))))) _ e2)
  refine dR (by rw[IA];exact fun z=>rF ((nk _ _).mp z)) ?_
  refine⟨_,rfl,rfl,⟨t.toArray⟩,_,rfl,rfl,_,rfl,rfl,⟨t.toArray⟩,_,rfl,rfl,?_⟩
  rw[Gz,Qk,count_is,count_is]
  refine⟨_,_,rfl,rfl,?_⟩
  by_cases hc:t.count 41<t.count 40
  ·rw[decide_eq_true (by omega)]
   exact q1 (.inr (.inr (.inr hc))) _ e2
  ·rw[decide_eq_false (by omega)]
   refine q2 ?_ _ e2
   rintro (z|z| (⟨c,y,z⟩ |z|z|z) |z)
   ·exact MD z
   ·exact QE z
   ·rw[hb] at y;cases y;exact FN z
   ·exact ht z
   ·exact Ky z
   ·exact rF z
   ·exact hc z
def ME(l:List Nat)(m:Int)(at':Option Nat):List V→Prop:=fun vs=>
 (400<l.length→vs=[.int 2, .int (l.length:Int), .bl true])∧(l.length≤400→(∀p,at'=some p→vs=[.int 1, .int (p:Int), .bl true])∧(at'=none→(DK l→vs=[.int 1, .int (l.length:Int), .bl true])∧(¬DK l→vs=if 8<m then [.int 3, .int m, .bl true] else [.int 0, .str ⟨l.toArray⟩, .bl true])))
def Jr:Option Nat→V
 |none=> .cn
 |some p=> .int (p:Int)
def GO:Sp:=fun vs H Q _=>∃(l:List Nat) (m:Int) (at':Option Nat),vs=[.str ⟨l.toArray⟩, .int m,Jr at']∧cJ l∧l.length≤9000∧∀t sC H',ME l m at' sC→H' t=some (.tup sC)→aF H H'→Q (.ref t) H'
theorem MF:ay ["_law_text","_law_many","_law_at"] ["_law_text","_law_many","_law_at"] (ak EC):=dN
theorem Js(D:Def K mg "_law_due" "_law_due" EC ["_law_text","_law_many","_law_at"])(T:kF K mg C)(c1:bD P w K mg base 1 "_law_open" ["_law_text"] C9):bD P w K mg base 2 "_law_due" ["_law_text","_law_many","_law_at"] GO:=by
 obtain⟨_,_,kW⟩:=c1
 refine D.fW MF (fun vs H Q E h=>?_) (fun f bo A outer s H vs Q E hr h=>?_)
 ·obtain⟨l,m,at',rfl,_⟩:=h
  rfl
 ·obtain⟨l,m,at',rfl,ha,hl,q⟩:=h
  have big:(10000 :Nat)≤sizeLine:=by decide
  have xl:(⟨l.toArray⟩:Str).length=l.length:=az l
  refine⟨_,(aj
     (bB (aJ fT (bb b4 rfl T.f7 dX (aa (pv 0) ah)) aq (aU _))
      (au
       (aB (b9 (aa aq (aa (bb b4 rfl T.f7 dX (aa (pv 0) ah)) (aa iw ah))))))
      aY)
    (aj
     (bB (AO (DU (pv 2)))
      (au
       (aB (b9 (aa aq (aa (pv 2) (aa iw ah))))))
      aY)
    (aj
     (bB (dC (aM kW.ok (hr.mono (by decide)) rfl kW.g kW.kp kW.b .nil aP (aa (pv 0) ah)))
      (au
       (aB (b9 (aa aq (aa (bb b4 rfl T.f7 dX (aa (pv 0) ah)) (aa iw ah))))))
      aY)
    (aj
     (bB (aJ fT (pv 1) aq (aU _))
      (au
       (aB (b9 (aa aq (aa (pv 1) (aa iw ah))))))
      aY)
    (au
     (aB (b9 (aa aq (aa (pv 0) (aa iw ah)))))))))),?_⟩
  by_cases h4:400<l.length
  ·refine⟨_,rfl,⟨l.toArray⟩,rfl,by omega,_,_,rfl,rfl,_,rfl,eI (by rw[xl];omega) ⟨_,rfl,⟨l.toArray⟩,rfl,by omega,(by show 3≤sizeLine;decide),fun t ht=>?_⟩⟩
   rw[xl]
   exact q t _ _ ⟨fun _=>rfl,fun z=>absurd h4 (by omega)⟩ ag (aF.new ht)
  refine⟨_,rfl,⟨l.toArray⟩,rfl,by omega,_,_,rfl,rfl,_,rfl,dR (by rw[xl];omega) ?_⟩
  cases at' with
  |some p=>
   refine⟨_,rfl,_,rfl,gZ (fun _=>?_) fun z=>absurd rfl z⟩
   exact⟨_,rfl,(by show 3≤sizeLine;decide),fun t ht=>q t _ _ ⟨fun z=>absurd z h4,fun _=>⟨fun p' z=>(by cases z;rfl),fun z=>(by cases z)⟩⟩ ag (aF.new ht)⟩
  |none=>
   refine⟨_,rfl,_,rfl,gZ (fun z=>absurd z (by decide)) fun _=>?_⟩
   refine⟨_,rfl,l,rfl,ha,hl,fun ho H1 e1=>⟨_,rfl,dJ ?_⟩,fun ho H1 e1=>⟨_,rfl,cQ ?_⟩⟩
   ·refine⟨_,rfl,⟨l.toArray⟩,rfl,by omega,(by show 3≤sizeLine;decide),fun t ht=>?_⟩
    rw[xl]
    exact q t _ _ ⟨fun z=>absurd z h4,fun _=>⟨fun p' z=>(by cases z),fun _=>⟨fun _=>rfl,fun z=>absurd ho z⟩⟩⟩ ag (e1.trans (aF.new ht))
   ·refine⟨_,rfl,_,_,rfl,rfl,_,rfl,?_⟩
    by_cases h8:8<m
    ·exact eI h8 ⟨_,rfl,(by show 3≤sizeLine;decide),fun t ht=>q t _ _ ⟨fun z=>absurd z h4,fun _=>⟨fun p' z=>(by cases z),fun _=>⟨fun z=>absurd z ho,fun _=>(if_pos h8).symm⟩⟩⟩ ag (e1.trans (aF.new ht))⟩
    ·exact dR h8 ⟨_,rfl,(by show 3≤sizeLine;decide),fun t ht=>q t _ _ ⟨fun z=>absurd z h4,fun _=>⟨fun p' z=>(by cases z),fun _=>⟨fun z=>absurd z ho,fun _=>(if_neg h8).symm⟩⟩⟩ ag (e1.trans (aF.new ht))⟩
def G4(l:List Nat)(m:Int)(at':Option Nat):Prop:=cJ l∧l.length≤9000∧∀vs,ME l m at' vs→vs=yw l
theorem nq{l:List Nat}{m:Int}{p:S5×Nat×Bool}(ha:cJ l)(hl:l.length≤9000)(h:l.length≤400→fk t5 0 false l=some p)(hm:l.length≤400→¬DK l→m=(yv l:Int)):G4 l m none:=by
 refine⟨ha,hl,fun vs ⟨d1,d2⟩=>?_⟩
 unfold yw
 by_cases h4:400<l.length
 ·rw[if_pos h4];exact d1 h4
 ·rw[if_neg h4]
  obtain⟨d3,d4⟩:=(d2 (by omega)).2 rfl
  obtain⟨s,dp,rt⟩:=p
  obtain⟨v1,v2⟩:=Jk (h (by omega))
  by_cases ho:DK l
  ·rw[v1 ho,d3 ho]
   show _=[V.int 1,V.int ((l.length:Int) - (([]:List Nat).length:Int)),V.bl true]
   rw[show (([]:List Nat).length:Int)=0 from rfl,Int.sub_zero]
  ·rw[v2 ho,d4 ho,hm (by omega) ho]
   show _=if 8<yv l then _ else _
   by_cases h8:8<yv l
   ·rw[if_pos h8,if_pos (by omega)]
   ·rw[if_neg h8,if_neg (by omega)]
theorem yB{l v:List Nat}{m:Int}{k:Nat}(ha:cJ l)(hl:l.length≤9000)(h:l.length≤400→dA t5 0 false l=some v∧k+v.length=l.length):G4 l m (some k):=by
 refine⟨ha,hl,fun vs ⟨d1,d2⟩=>?_⟩
 unfold yw
 by_cases h4:400<l.length
 ·rw[if_pos h4];exact d1 h4
 ·rw[if_neg h4]
  obtain⟨e1,e2⟩:=h (by omega)
  rw[(d2 (by omega)).1 k rfl,e1]
  show _=[V.int 1,V.int ((l.length:Int) - (v.length:Int)),V.bl true]
  rw[show (l.length:Int) - (v.length:Int)=(k:Int) by omega]
theorem JT.tn{l:List Nat}{k:Nat}{rt:Bool}(h:JT l k rt):yv l=k+1:=by
 have:=h.c []
 rw[List.append_nil] at this
 have z:gP pJ 0 []+gP pA 0 []=0:=rfl
 rw[z] at this
 unfold yv
 omega
theorem Dc{l:List Nat}{k:Nat}{rt:Bool}(h:JT l k rt)(hl:l.length≤9000):G4 l ((k+1 :Nat):Int) none:=by
 obtain⟨s,w,_⟩:=h.w
 exact nq h.a hl (fun _=>w) fun _ _=>by rw[h.tn]
theorem Jt{l:List Nat}{k:Nat}{m:Int}(h:JT l k true)(hl:l.length≤8000):G4 (l++[32,45,62,32,72]) m (some (l.length+1)):=by
 obtain⟨s,w,c⟩:=h.w
 refine yB (v:=[45,62,32,72]) (h.a.app (wX (by decide))) (by rw[List.length_append];show _+5≤_;omega) fun _=>⟨?_,by rw[List.length_append];show l.length+1+4=l.length+5;omega⟩
 rw[oR w,show [32,45,62,32,72]=[32]++[45,62,32,72] from rfl,oR (wY w c)]
 exact jZ rfl
theorem Ju{l:List Nat}{k:Nat}{rt:Bool}(h:JT l k rt)(hl:l.length≤8000)(c:Nat):G4 (l.take c) (yv (l.take c):Int) none:=by
 obtain⟨s,w,_⟩:=h.w
 obtain⟨q,hq⟩:∃q,fk t5 0 false (l.take c)=some q:=sh (m:=l.drop c) (by rw[List.take_append_drop];exact w)
 exact nq (h.a.take c) (by rw[List.length_take];omega) (fun _=>hq) fun _ _=>rfl
def Jv:List Nat:=[33,35,36,38,42,44,58,59,60,61,63,64,91,93,95,124,126,47,123,125,39,34,92]
theorem GP:∀c∈Jv,c<128∧bK c=false∧gS c=false∧gk c=false∧c≠32∧c≠40∧c≠41∧c≠43∧c≠45∧c≠46∧c≠62∧c≠94:=by decide
theorem MG{c:Nat}(h:c∈Jv)(s:S5)(dp:Nat)(rt:Bool):dm s dp rt c=none:=by
 obtain⟨_,h1,h2,h3,h4,h5,h6,h7,h8,h9,Kt,h11⟩:=GP c h
 obtain⟨nm,sm,fg,al⟩:=s
 unfold dm sG
 cases nm<;>cases al<;>simp [h1,h2,h3,h4,h5,h6,h7,h8,h9,Kt,h11,m9,rX,lP]
theorem MH{l r:List Nat}{k:Nat}{m:Int}{rt:Bool}(h:JT l k rt)(hl:l.length≤4000){c:Nat}(hc:c≤l.length){x:Nat}(hx:x∈Jv)(hr:cJ r)(Ya:r.length≤4000):G4 (l.take c++[x]++r) m (some c):=by
 obtain⟨s,w,_⟩:=h.w
 obtain⟨⟨s',d',r'⟩,hq⟩:∃q,fk t5 0 false (l.take c)=some q:=sh (m:=l.drop c) (by rw[List.take_append_drop];exact w)
 have ex:cJ [x]:=fun b hb=>by rw[List.mem_singleton.mp hb];exact(GP x hx).1
 have lt:(l.take c).length=c:=by rw[List.length_take];omega
 refine yB (v:=x::r) (((h.a.take c).app ex).app hr) (by rw[List.length_append,List.length_append,lt];show c+1+_≤_;omega) fun _=>⟨?_,by rw[List.length_append,List.length_append,lt];show c+(r.length+1)=c+1+r.length;omega⟩
 rw[List.append_assoc,oR hq]
 exact jZ (MG hx _ _ _)
theorem MI:wW [72]:=j4 (by decide) (by decide) (fun rt=>by cases rt<;>exact⟨_,rfl, .inr ⟨rfl,rfl,rfl⟩⟩) ⟨_,_,rfl, .inr (.inl rfl)⟩
theorem yD{l:List Nat}{k:Nat}(h:JT l k false):∀n:Nat,JT (l++(List.replicate n [32,43,32,72]).flatten) (k+n) false
 |0=>by simpa using h
 |n+1=>by
  have ih:=(yD h n).plus MI
  have e:l++(List.replicate (n+1) [32,43,32,72]).flatten=l++(List.replicate n [32,43,32,72]).flatten++pJ++[72]:=by
   rw[List.replicate_succ',List.flatten_append]
   simp [pJ]
  rw[e]
  exact ih
theorem yE{rt:Bool}:∀(n:Nat) {s:S5},s.nm= .part→s.al=false→∃s',fk s 0 rt (List.replicate n 72)=some (s',0,rt)
 |0,s,_,_=>⟨s,rfl⟩
 |n+1,s,hn,ha=>by
  obtain⟨nm,sm,fg,al⟩:=s
  cases hn
  cases ha
  obtain⟨s',i⟩:=yE (rt:=rt) n (s:=⟨.part,2,0,false⟩) rfl rfl
  refine⟨s',?_⟩
  have e:dm ⟨.part,sm,fg,false⟩ 0 rt 72=some ⟨.part,2,0,false⟩:=by
   unfold dm Jd
   simp [bK,gS,m9]
  rw[List.replicate_succ,j0 (s':=⟨.part,2,0,false⟩) (by show dm _ 0 (rt||false) 72=_;rw[Bool.or_false];exact e)]
  show fk _ (l9 0 72) (rt||false) _=_
  rw[Bool.or_false]
  exact i
theorem FO{c dp:Nat}{s:S5}{rt:Bool}(e:dm t5 dp rt c=some s):s.nm≠ .stop:=by
 unfold dm at e
 split at e
 ·rw[if_pos rfl] at e
  unfold AJ at e
  split at e
  ·cases e
  ·cases e;exact fun z=>by cases z
 ·rw[if_neg (by decide),if_neg (by decide),if_neg (fun z=>by rcases z.2 with y|y;cases y;cases y.1),if_neg (by decide)] at e
  split at e
  ·unfold Jd at e
   split at e
   ·cases e;exact fun z=>by cases z
   ·split at e
    ·cases e;exact fun z=>by cases z
    ·rw[if_neg (fun z=>by cases z.1)] at e;cases e
  ·split at e
   ·cases e;exact fun z=>by cases z
   ·rw[if_neg (fun z=>by cases z.1),if_neg (fun z=>by cases z.1)] at e;cases e
theorem Dd{c:Nat}{s:S5}{rt:Bool}(h:fk t5 0 false [c]=some (s,0,rt))(hc:lP s 0):s.nm= .part∧s.al=false∧rt=false:=by
 rw[fk] at h
 split at h
 ·cases h
 ·rename_i s1 e
  simp only [fk,Option.some.injEq,Prod.mk.injEq] at h
  obtain⟨rfl,_,rfl⟩:=h
  rcases hc with z|z
  ·exact absurd z (FO e)
  ·exact⟨z.1,z.2.2,rfl⟩
theorem FP{l z:List Nat}{k:Nat}{m:Int}{rt:Bool}(h:JT l k rt)(hl:l.length≤1000)(hz:cJ z)(Md:z.length≤400)(hk:4*(k+1)≤l.length+3)(DL:k=0→rt=false)
  (hw:400≤z.length∨(∃n,399≤n∧z=List.replicate n 72)∨∃n,99≤n∧z=(List.replicate n [32,43,32,72]).flatten):G4 (l++z) m none:=by
 obtain⟨s,w,c⟩:=h.w
 have ha:=h.a.app hz
 have FH:(l++z).length≤9000:=by rw[List.length_append];omega
 by_cases h4:(l++z).length≤400
 ·have key:∃q,fk t5 0 false (l++z)=some q∧q.2.2=false:=by
   rw[List.length_append] at h4
   rcases hw with y| ⟨n,hn,rfl⟩ | ⟨n,hn,rfl⟩
   ·exfalso;omega
   ·rw[List.length_replicate] at h4
    have h1:l.length=1:=by omega
    obtain⟨b,rfl⟩:∃b,l=[b]:=List.length_eq_one_iff.mp h1
    obtain⟨p1,p2,rfl⟩:=Dd w c
    obtain⟨s',i⟩:=yE (rt:=false) n p1 p2
    exact⟨_,by rw[eB w];exact i,rfl⟩
   ·have fl:(List.replicate n [32,43,32,72]).flatten.length=4*n:=by
     rw[List.length_flatten,List.map_replicate,List.sum_replicate_nat]
     show n*4=_
     omega
    rw[fl] at h4
    have k0:k=0:=by omega
    rw[DL k0] at h
    obtain⟨s',i,_⟩:=(yD h n).w
    exact⟨_,i,rfl⟩
  obtain⟨⟨s',d',r'⟩,i,hf⟩:=key
  have hf:r'=false:=hf
  subst hf
  refine nq ha FH (fun _=>i) fun _ ho=>absurd (.inl fun z=>?_) ho
  cases (CN i).2.mpr z
 ·exact nq (p:=(t5,0,false)) ha FH (fun z=>absurd z h4) fun z=>absurd z h4
def yF(K:PySem.W.Frag):Sp:=fun vs H Q _=>∃(a:Addr) (ns:List Int),vs=[.ref a]∧cL K H a (ns.map V.int)∧ns.length≤63∧∀t l m at' H',G4 l m at'→H' t=some (.tup [.str ⟨l.toArray⟩, .int m,Jr at'])→aF H H'→Q (.ref t) H'
theorem fq:ay ["_law_script","_law_many","_law_way","_law_arrows","_law_text","_law_cut","_law_terms","_law_sign","_law_more"] ["_law_script"] (ak rj):=dN
structure MJ(K:PySem.W.Frag)(mg:Str→Option Value)(C:Addr):Prop extends wx K mg C where
 MK:mg "max" =none
theorem De(D:Def K mg "_law_drawn" "_law_drawn" rj ["_law_script"])(T:MJ K mg C)(c1:bD P w K mg base 1 "_law_cell_at" ["_law_script","_law_k"] (nZ K))(c2:bD P w K mg base 6 "_law_joined" ["_law_script","_law_many","_law_arrows"] (ve K)):bD P w K mg base 7 "_law_drawn" ["_law_script"] (yF K):=by
 obtain⟨_,_,aD⟩:=c1
 obtain⟨_,_,iu⟩:=c2
 refine D.fW fq (fun vs H Q E h=>?_) (fun f bo A outer s H vs Q E hr h=>?_)
 ·obtain⟨a,ns,rfl,_⟩:=h
  rfl
 ·obtain⟨a,ns,rfl,hS,hlen,q⟩:=h
  have big:(10000 :Nat)≤sizeLine:=by decide
  refine⟨_,(aj
     (aO (i:=1) fq.nd rfl (Or.inl rfl) (ax bH aq (ax bA (aM aD.ok (hr.mono (by decide)) rfl aD.g aD.kp aD.b .nil aP (aa (pv 0) (aa aq ah))) aq)))
    (aj
     (aO (i:=2) fq.nd rfl (Or.inl rfl) (ax bA (aM aD.ok (hr.mono (by decide)) rfl aD.g aD.kp aD.b .nil aP (aa (pv 0) (aa aq ah))) aq))
    (aj
     (aO (i:=3) fq.nd rfl (Or.inl rfl) (cY cV (cf (aa (cf (aa (ax bH aq (ax bA (aM aD.ok (hr.mono (by decide)) rfl aD.g aD.kp aD.b .nil aP (aa (pv 0) (aa aq ah))) (bb (zf rfl) rfl T.MK HX (aa aq (aa (ax nD (pv 1) aq) ah))))) ah)) (aa (cf ah) ah))) (bX lj rfl T.pQ nN (aa (i' cw (pv 2) aq (aU _)) ah)) (fun _ _=>rfl)))
    (aj
     (aO (i:=4) fq.nd rfl (Or.inl rfl) (aM iu.ok (hr.mono (by decide)) rfl iu.g iu.kp iu.b .nil aP (aa (pv 0) (aa (pv 1) (aa (pv 3) ah)))))
    (aj
     (aO (i:=5) fq.nd rfl (Or.inl rfl) (ax bA (ax bW (aM aD.ok (hr.mono (by decide)) rfl aD.g aD.kp aD.b .nil aP (aa (pv 0) (aa aq ah))) aq) (ax bH (bb b4 rfl T.f7 dX (aa (pv 4) ah)) aq)))
    (aj
     (bB (PW.pt (lb (aJ cw (pv 2) aq (aU _)) (i8 (aJ fT (pv 1) aq (aU _)))))
      (au
       (aB (b9 (aa (ax aG (pv 4) aN) (aa (pv 1) (aa (ax bH (bb b4 rfl T.f7 dX (aa (pv 4) ah)) aq) ah))))))
      aY)
    (aj
     (bB (PW.pt (fS (aJ cw (pv 2) aq (aU _)) (iG (aJ cw (pv 2) aq (aU _)))))
      (aj
       (aO (i:=6) fq.nd rfl (Or.inl rfl) (ax bH (ax bH aq (eG PySem.F.plainAttrs_str PySem.F.slot_str_count PySem.F.type_str_count kn (cE eR (pv 4) fV (cq (pv 5))) (aa aN ah))) (eG PySem.F.plainAttrs_str PySem.F.slot_str_count PySem.F.type_str_count kn (cE eR (pv 4) fV (cq (pv 5))) (aa aN ah))))
      (au
       (aB (b9 (aa (cE eR (pv 4) fV (cq (pv 5))) (aa (pv 6) (aa k9 ah)))))))
      aY)
    (aj
     (bB (PW.pt (fS (aJ cw (pv 2) aq (aU _)) (iG (aJ cw (pv 2) aq (aU _)))))
      (aj
       (aO (i:=7) fq.nd rfl (Or.inl rfl) (cY lr aN (ax bA (ax bW (aM aD.ok (hr.mono (by decide)) rfl aD.g aD.kp aD.b .nil aP (aa (pv 0) (aa aq ah))) aq) aq) (fun _ _=>rfl)))
      (au
       (aB (b9 (aa (ax aG (ax aG (cE eR (pv 4) fV (cq (pv 5))) (pv 7)) (cY cV (cf (aa (cE eR (pv 4) (cq (pv 5)) fV) (aa aN ah))) (ax nD (pv 2) aq) (fun _ _=>rfl))) (aa (pv 1) (aa (pv 5) ah)))))))
      aY)
    (aj
     (bB (aJ cw (pv 2) aq (aU _))
      (aj
       (aO (i:=8) fq.nd rfl (Or.inl rfl) (cY cV (cf (aa (ax qR aN aq) (aa (ax qR aN aq) (aa (ax qR aN aq) ah)))) (ax bA (ax bW (aM aD.ok (hr.mono (by decide)) rfl aD.g aD.kp aD.b .nil aP (aa (pv 0) (aa aq ah))) aq) aq) (fun _ _=>rfl)))
      (au
       (aB (b9 (aa (ax aG (pv 4) (pv 8)) (aa (pv 1) (aa k9 ah)))))))
      aY)
    (au
     (aB (b9 (aa (pv 4) (aa (pv 1) (aa k9 ah))))))))))))))),?_⟩
  refine⟨_,rfl,a,ns,0,rfl,hS,hlen,fun n0=>⟨_,_,rfl,rfl,(by show (0 :Int) <10;decide),_,_,rfl,rfl,?_⟩⟩
  obtain⟨m,hm,m1,X7⟩:∃m:Nat,1+n0%10=(m:Int)∧1≤m∧m≤10:=by
   have z0:=Int.emod_nonneg n0 (show (10 :Int)≠0 by decide)
   have z1:=Int.emod_lt_of_pos n0 (show (0 :Int) <10 by decide)
   exact⟨(1+n0%10).toNat,by omega,by omega,by omega⟩
  rw[hm]
  refine⟨_,rfl,a,ns,1,rfl,hS,hlen,fun n1=>⟨_,_,rfl,rfl,(by show (0 :Int) <8;decide),?_⟩⟩
  have y0:=Int.emod_nonneg n1 (show (8 :Int)≠0 by decide)
  have y1:=Int.emod_lt_of_pos n1 (show (0 :Int) <8 by decide)
  generalize n1%8=wy at y0 y1 ⊢
  have mx:∃M:Nat,(if ((m:Int) - 1) >1 then ((m:Int) - 1) else 1)=(M:Int)∧1≤M∧M≤9∧(1<m→M<m):=by
   by_cases z:((m:Int) - 1) >1
   ·rw[if_pos z];exact⟨m - 1,by omega,by omega,by omega,by omega⟩
   ·rw[if_neg z];exact⟨1,rfl,by omega,by omega,by omega⟩
  obtain⟨M,hM,M1,M9,Mm⟩:=mx
  refine⟨_,rfl,a,ns,2,rfl,hS,hlen,fun n2=>⟨_,rfl,_,_,rfl,rfl,_,_,rfl,?_⟩⟩
  rw[hM]
  have x0:=Int.emod_nonneg n2 (show (M:Int)≠0 by omega)
  have x1:=Int.emod_lt_of_pos n2 (show (0 :Int) < (M:Int) by omega)
  refine⟨_,_,rfl,rfl,by omega,_,_,rfl,rfl,(by show 1≤sizeLine;decide),fun b1 Yb=>⟨(by show 0≤sizeLine;decide),fun b2 DF=>⟨(by show 2≤sizeLine;decide),fun b3 FN=>?_⟩⟩⟩
  generalize n2%(M:Int)=kk at x0 x1 Yb DF FN ⊢
  have s1:=aF.new (o:= .lst [V.int (1+kk)]) Yb
  have FQ:(upd H b1 (.lst [V.int (1+kk)])) b1=some (.lst [V.int (1+kk)]):=ag
  generalize upd H b1 (.lst [V.int (1+kk)])=H1 at s1 FQ DF FN ⊢
  have s2:=aF.new (o:= .lst []) DF
  have KG:(upd H1 b2 (.lst [])) b2=some (.lst []):=ag
  have FQ:=s2 _ _ FQ
  generalize upd H1 b2 (.lst [])=H2 at s2 FQ KG FN ⊢
  have s3:=aF.new (o:= .lst [V.ref b1,V.ref b2]) FN
  have Tq:(upd H2 b3 (.lst [V.ref b1,V.ref b2])) b3=some (.lst [V.ref b1,V.ref b2]):=ag
  have FQ:=s3 _ _ FQ
  have KG:=s3 _ _ KG
  generalize upd H2 b3 (.lst [V.ref b1,V.ref b2])=H3 at s3 FQ KG Tq ⊢
  have e3:=(s1.trans s2).trans s3
  clear s1 s2 s3
  obtain⟨ar,ks,qe,Yc,MB,hkm⟩:∃(ar:Addr) (ks:List Int),sY [V.ref b1,V.ref b2] (if decide (V.int wy=V.int 1)=true then 1 else 0)=some (V.ref ar)∧H3 ar=some (.lst (ks.map V.int))∧(ks=[]∨∃k0,ks=[k0]∧1≤k0∧k0≤10)∧(wy≠1→1<m→∃k0,ks=[k0]∧k0<m):=by
   by_cases hw:wy=1
   ·refine⟨b2,[],?_,KG, .inl rfl,fun z=>absurd hw z⟩
    rw[if_pos (decide_eq_true (by rw[hw]))]
    rfl
   ·refine⟨b1,[1+kk],?_,FQ, .inr ⟨_,rfl,by omega,by omega⟩,fun _ z=>⟨_,rfl,by have:=Mm z;omega⟩⟩
    rw[if_neg (by rw[decide_eq_false (fun z=>hw (by injection z))];simp)]
    rfl
  refine⟨_,rfl,rfl, .inr ⟨_,rfl,b3,_,_,_,rfl,rfl,cL.of Tq,qe,?_⟩⟩
  refine⟨_,rfl,_,rfl,_,rfl,a,ar,ns,m,ks,rfl,e3.seq hS,hlen,m1,X7,Yc,MB,fun l H5 rt hJ DL FH zx e5=>?_⟩
  have e5:=e3.trans e5
  clear FQ KG Tq Yc qe e3
  have Yd:l.length≤400:=by
   unfold i7 at FH
   split at FH<;>omega
  have xl:(⟨l.toArray⟩:Str).length=l.length:=az l
  have mk:m - 1+1=m:=by omega
  refine⟨_,rfl,a,ns,2,rfl,e5.seq hS,hlen,fun n3=>⟨_,_,rfl,rfl,⟨by decide,by decide⟩,_,rfl,⟨l.toArray⟩,rfl,by omega,_,_,rfl,rfl,_,_,rfl,rfl,by omega,?_⟩⟩
  obtain⟨c,ec,cl⟩:∃c:Nat,n3/9%(((⟨l.toArray⟩:Str).length:Int)+1)=(c:Int)∧c≤l.length:=by
   have z0:=Int.emod_nonneg (n3/9) (show (((⟨l.toArray⟩:Str).length:Int)+1)≠0 by omega)
   have z1:=Int.emod_lt_of_pos (n3/9) (show (0 :Int) < ((⟨l.toArray⟩:Str).length:Int)+1 by omega)
   exact⟨(n3/9%(((⟨l.toArray⟩:Str).length:Int)+1)).toNat,by omega,by omega⟩
  rw[ec]
  have fin:∀{t:Addr} {l':List Nat} {m':Int} {at':Option Nat} {H':Hp},G4 l' m' at'→H' t=some (.tup [.str ⟨l'.toArray⟩, .int m',Jr at'])→aF H5 H'→Q (.ref t) H':=fun g h e=>q _ _ _ _ _ g h (e5.trans e)
  dsimp only [iH]
  have whole:=Dc hJ (by omega)
  rw[mk] at whole
  have vi:∀{i j:Int},¬i=j→¬V.int i=V.int j:=fun h z=>h (by injection z)
  have eN:("" :Str)=⟨([]:List Nat).toArray⟩:=by decide+kernel
  have KD:(" -> " :Str)=⟨pA.toArray⟩:=by decide+kernel
  have QC:(" + " :Str)=⟨pJ.toArray⟩:=by decide+kernel
  have Ye:(" -> H" :Str)=⟨[32,45,62,32,72].toArray⟩:=by decide+kernel
  refine eZ (fun σ' H'=>(wy≠2∨m=1)∧H'=H5∧σ'=[some (.ref a),some (.int (m:Int)),some (.int wy),some (.ref ar),some (.str ⟨l.toArray⟩),some (.int (c:Int)),none,none,none]) (fun N hN=>?_) ?_
  ·refine⟨_,rfl,rfl,_,rfl,?_⟩
   by_cases h2:wy=2
   ·refine eI (by rw[h2]) ⟨_,rfl,_,_,rfl,rfl,_,rfl,?_⟩
    by_cases Mn:1<m
    ·refine eI (by omega) ⟨_,rfl,⟨l.toArray⟩,_,rfl,rfl,by rw[Ye,az,az];show _+5≤_;omega,?_⟩
     rw[Ye,aZ]
     refine⟨_,rfl,_,rfl,⟨l.toArray⟩,rfl,by omega,_,_,rfl,rfl,(by show 3≤sizeLine;decide),fun t ht=>?_⟩
     have rtt:rt=true:=DL.mpr (hkm (by omega) Mn)
     rw[rtt] at hJ
     refine fin (Jt (m:=(m:Int)) hJ (by omega)) ?_ (aF.new ht)
     rw[ag,xl]
     rfl
    ·exact dR (by omega) (hN _ _ ⟨.inr (by omega),rfl,rfl⟩)
   ·exact dR (vi h2) (hN _ _ ⟨.inl h2,rfl,rfl⟩)
  rintro σ H6 ⟨_,rfl,rfl⟩
  have lt:(⟨(l.take c).toArray⟩:Str).length=c:=by rw[az,List.length_take];omega
  refine eZ (fun σ' H'=>H'=H6∧σ'=[some (.ref a),some (.int (m:Int)),some (.int wy),some (.ref ar),some (.str ⟨l.toArray⟩),some (.int (c:Int)),none,none,none]) (fun N hN=>?_) ?_
  ·by_cases Ts:wy=3∨wy=4
   ·have tn:(1 :Int)+Txt.count ⟨(l.take c).toArray⟩ " + " +Txt.count ⟨(l.take c).toArray⟩ " -> " =(yv (l.take c):Int):=by
     rw[KD,QC,yn _ pJ (by decide),yn _ pA (by decide)]
     unfold yv
     omega
    rcases Ts with h|h
    refine⟨_,rfl,rfl,_,rfl,eI (by rw[h]) ?_⟩
    rotate_left
    refine⟨_,rfl,rfl,_,rfl,dR (by rw[h];decide) ⟨_,rfl,rfl,_,rfl,eI (by rw[h]) ?_⟩⟩
    all_goals
     refine⟨_,rfl,_,rfl,_,rfl,⟨l.toArray⟩,rfl,by omega,?_⟩
     rw[yf l cl]
     refine⟨rfl,⟨(l.take c).toArray⟩," + ",rfl,rfl,_,_,rfl,rfl,_,rfl,_,rfl,_,rfl,⟨l.toArray⟩,rfl,by omega,?_⟩
     rw[yf l cl]
     refine⟨rfl,⟨(l.take c).toArray⟩," -> ",rfl,rfl,_,_,rfl,rfl,?_⟩
     rw[tn]
     refine⟨_,rfl,_,rfl,_,rfl,⟨l.toArray⟩,rfl,by omega,?_⟩
     rw[yf l cl]
     exact⟨_,rfl,(by show 3≤sizeLine;decide),fun t ht=>fin (Ju hJ (by omega) c) ag (aF.new ht)⟩
   ·refine⟨_,rfl,rfl,_,rfl,dR (vi fun z=>Ts (.inl z)) ⟨_,rfl,rfl,_,rfl,dR (vi fun z=>Ts (.inr z)) (hN _ _ ⟨rfl,rfl⟩)⟩⟩
  rintro σ H7 ⟨rfl,rfl⟩
  refine eZ (fun σ' H'=>H'=H7∧σ'=[some (.ref a),some (.int (m:Int)),some (.int wy),some (.ref ar),some (.str ⟨l.toArray⟩),some (.int (c:Int)),none,none,none]) (fun N hN=>?_) ?_
  ·by_cases Tt:wy=5∨wy=6
   ·have esg:("!#$&*,:;<=?\x40[]_|~/{}'\"\\" :Str).cps.toList=Jv:=by decide+kernel
    have hsg:∀z:Int,∃x∈Jv,sY ("!#$&*,:;<=?\x40[]_|~/{}'\"\\" :Str).cps.toList (z%23)=some x:=fun z=>by
     have z0:=Int.emod_nonneg z (show (23 :Int)≠0 by decide)
     have z1:=Int.emod_lt_of_pos z (show (0 :Int) <23 by decide)
     obtain⟨k,hk⟩:=Int.eq_ofNat_of_zero_le z0
     have hl:k<Jv.length:=by show k<23;omega
     rw[esg,hk]
     exact⟨Jv[k],List.getElem_mem hl,mz (List.getElem?_eq_getElem hl)⟩
    rcases Tt with h|h
    refine⟨_,rfl,rfl,_,rfl,eI (by rw[h]) ?_⟩
    rotate_left
    refine⟨_,rfl,rfl,_,rfl,dR (by rw[h];decide) ⟨_,rfl,rfl,_,rfl,eI (by rw[h]) ?_⟩⟩
    all_goals
     refine⟨_,rfl,a,ns,1,rfl,e5.seq hS,hlen,fun n4=>⟨_,_,rfl,rfl,⟨by decide,by decide⟩,_,_,rfl,rfl,(by show (0 :Int) <23;decide),?_⟩⟩
     obtain⟨x,hx,hxa⟩:=hsg (n4/8)
     refine⟨_,_,x,rfl,rfl,by decide+kernel,hxa,?_⟩
     have cx:(⟨#[x]⟩:Str)=⟨[x].toArray⟩:=rfl
     refine⟨_,rfl,_,rfl,_,rfl,⟨l.toArray⟩,rfl,by omega,?_⟩
     rw[yf l cl]
     refine⟨_,rfl,⟨(l.take c).toArray⟩,_,rfl,rfl,by rw[lt,cx,az];show c+1≤_;omega,?_⟩
     rw[cx,aZ]
     refine⟨_,rfl,_,rfl,_,rfl,⟨l.toArray⟩,rfl,by omega,?_⟩
     rw[Ct l cl]
     refine⟨(by show 2≤sizeLine;decide),fun p hp=>?_⟩
     have sp:=aF.new (o:= .lst [V.str ⟨(l.drop c).toArray⟩,V.str ""]) hp
     have ML:(upd H7 p (.lst [V.str ⟨(l.drop c).toArray⟩,V.str ""])) p=some (.lst [V.str ⟨(l.drop c).toArray⟩,V.str ""]):=ag
     generalize upd H7 p (.lst [V.str ⟨(l.drop c).toArray⟩,V.str ""])=H8 at sp ML ⊢
     obtain⟨r,qe,hr,Ya⟩:∃r:List Nat,sY [V.str ⟨(l.drop c).toArray⟩,V.str ""] (wy - 5)=some (V.str ⟨r.toArray⟩)∧cJ r∧r.length≤4000:=by
      first
      |exact⟨l.drop c,by rw[h];rfl,hJ.a.drop c,by rw[List.length_drop];omega⟩
      |exact⟨[],by rw[h,eN];rfl,(fun _ z=>by cases z),Nat.zero_le _⟩
     refine⟨_,rfl,_,_,rfl,rfl,p,_,_,_,rfl,rfl,cL.of ML,qe,⟨(l.take c++[x]).toArray⟩,⟨r.toArray⟩,rfl,rfl,by rw[az,az,List.length_append,List.length_take];show _+1+_≤_;omega,?_⟩
     rw[aZ]
     exact⟨_,rfl,_,rfl,(by show 3≤sizeLine;decide),fun t ht=>fin (MH (m:=(m:Int)) hJ (by omega) cl hx hr Ya) (by rw[ag];rfl) (sp.trans (aF.new ht))⟩
   ·refine⟨_,rfl,rfl,_,rfl,dR (vi fun z=>Tt (.inl z)) ⟨_,rfl,rfl,_,rfl,dR (vi fun z=>Tt (.inr z)) (hN _ _ ⟨rfl,rfl⟩)⟩⟩
  rintro σ H8 ⟨rfl,rfl⟩
  refine eZ (fun σ' H'=>H'=H8∧σ'=[some (.ref a),some (.int (m:Int)),some (.int wy),some (.ref ar),some (.str ⟨l.toArray⟩),some (.int (c:Int)),none,none,none]) (fun N hN=>?_) ?_
  ·refine⟨_,rfl,rfl,_,rfl,?_⟩
   by_cases h7:wy=7
   ·refine eI (by rw[h7]) ?_
    have fr:∀(n:Nat) (x:Nat),(List.replicate n [x]).flatten=List.replicate n x:=fun n x=>by
     induction n with
     |zero=>rfl
     |succ n ih=>rw[List.replicate_succ,List.flatten_cons,ih];rfl
    have fl:(List.replicate 99 [32,43,32,72]).flatten.length=396:=by
     rw[List.length_flatten,List.map_replicate,List.sum_replicate_nat]
     rfl
    obtain⟨z1,QF⟩:∃z,z=(List.replicate 400 [32]).flatten:=⟨_,rfl⟩
    obtain⟨z2,QG⟩:∃z,z=(List.replicate 399 [72]).flatten:=⟨_,rfl⟩
    obtain⟨z3,QH⟩:∃z,z=(List.replicate 99 [32,43,32,72]).flatten:=⟨_,rfl⟩
    refine⟨[32],400,by decide+kernel,rfl,by decide,by decide,by decide,by decide,[72],399,by decide+kernel,rfl,by decide,by decide,by decide,by decide,[32,43,32,72],99,by decide+kernel,rfl,by decide,by decide,by decide,by decide,?_⟩
    rw[←QF,←QG,←QH]
    refine⟨(by show 3≤sizeLine;decide),fun p hp=>?_⟩
    have sp:=aF.new (o:= .lst [V.str ⟨z1.toArray⟩,V.str ⟨z2.toArray⟩,V.str ⟨z3.toArray⟩]) hp
    have ML:(upd H8 p (.lst [V.str ⟨z1.toArray⟩,V.str ⟨z2.toArray⟩,V.str ⟨z3.toArray⟩])) p=some (.lst [V.str ⟨z1.toArray⟩,V.str ⟨z2.toArray⟩,V.str ⟨z3.toArray⟩]):=ag
    generalize upd H8 p (.lst [V.str ⟨z1.toArray⟩,V.str ⟨z2.toArray⟩,V.str ⟨z3.toArray⟩])=H9 at sp ML ⊢
    refine⟨_,rfl,a,ns,1,rfl,(e5.trans sp).seq hS,hlen,fun n5=>⟨_,_,rfl,rfl,⟨by decide,by decide⟩,_,_,rfl,rfl,(by show (0 :Int) <3;decide),?_⟩⟩
    have d0:0≤n5/8%3:=Int.emod_nonneg _ (by decide)
    have d1:n5/8%3<3:=Int.emod_lt_of_pos _ (by decide)
    obtain⟨v,hv,qe⟩:=iL (xs:=[V.str ⟨z1.toArray⟩,V.str ⟨z2.toArray⟩,V.str ⟨z3.toArray⟩]) d0 d1
    obtain⟨z,rfl,hza,Md,hw⟩:∃z:List Nat,v=V.str ⟨z.toArray⟩∧cJ z∧z.length≤400∧(400≤z.length∨(∃n,399≤n∧z=List.replicate n 72)∨∃n,99≤n∧z=(List.replicate n [32,43,32,72]).flatten):=by
     simp only [List.mem_cons,List.not_mem_nil,or_false] at hv
     rcases hv with rfl|rfl|rfl
     ·refine⟨z1,rfl,?_,?_, .inl ?_⟩
      ·rw[QF,fr];intro b hb;rw[List.eq_of_mem_replicate hb];decide
      ·rw[QF,fr,List.length_replicate];exact Nat.le_refl _
      ·rw[QF,fr,List.length_replicate];exact Nat.le_refl _
     ·refine⟨z2,rfl,?_,?_, .inr (.inl ⟨399,Nat.le_refl _,by rw[QG,fr]⟩)⟩
      ·rw[QG,fr];intro b hb;rw[List.eq_of_mem_replicate hb];decide
      ·rw[QG,fr,List.length_replicate];decide
     ·refine⟨z3,rfl,?_,?_, .inr (.inr ⟨99,Nat.le_refl _,QH⟩)⟩
      ·rw[QH]
       intro b hb
       obtain⟨y,hy,hb⟩:=List.mem_flatten.mp hb
       rw[List.eq_of_mem_replicate hy] at hb
       have:∀b∈[32,43,32,72],b<128:=by decide
       exact this b hb
      ·rw[QH,fl];decide
    refine⟨p,_,_,_,rfl,rfl,cL.of ML,qe,?_⟩
    refine⟨_,rfl,_,rfl,⟨l.toArray⟩,⟨z.toArray⟩,rfl,rfl,by rw[az,az];omega,?_⟩
    rw[aZ]
    refine⟨_,rfl,(by show 3≤sizeLine;decide),fun t ht=>fin (FP (m:=(m:Int)) hJ (by omega) hza Md (by rw[mk];exact zx) (fun hk0=>?_) hw) (by rw[ag];rfl) (sp.trans (aF.new ht))⟩
    cases rt with
    |false=>rfl
    |true=>
     obtain⟨k0,w1,w2⟩:=DL.mp rfl
     rcases MB with y| ⟨k1,y,y2,_⟩
     ·rw[y] at w1;cases w1
     ·rw[y] at w1
      cases w1
      omega
   ·exact dR (vi h7) (hN _ _ ⟨rfl,rfl⟩)
  rintro σ H9 ⟨rfl,rfl⟩
  exact⟨_,rfl,_,rfl,(by show 3≤sizeLine;decide),fun t ht=>fin whole ag (aF.new ht)⟩
def yG(K:PySem.W.Frag):Sp:=fun vs H Q _=>∃(a:Addr) (ns:List Int),vs=[.ref a]∧cL K H a (ns.map V.int)∧ns.length≤63∧∀H',Q (.bl true) H'
theorem Yf:("H -> H" :Str)=⟨[72,32,45,62,32,72].toArray⟩:=by decide+kernel
theorem vf:ay ["_law_script","_law_text","_law_many","_law_at","_law_due_here"] ["_law_script"] (ak rk):=dN
theorem Jw{f:Addr}{fd:FuncData}(F:xw K "law" "law" rk f fd)(c1:bD P w K mg base 7 "_law_drawn" ["_law_script"] (yF K))(c5:bD P w K mg base 2 "_law_due" ["_law_text","_law_many","_law_at"] GO)(c6:bD P w K mg base 25 "_law_told" ["_law_text"] CT):
  eD P w K mg base mB 26 f fd ["_law_script"] (yG K):=by
 obtain⟨_,_,jy⟩:=c1
 obtain⟨_,_,nu⟩:=c5
 obtain⟨_,_,cK⟩:=c6
 refine F.ok vf (fun vs H Q E h=>?_) (fun bo A outer s H vs Q E hr h=>?_)
 ·obtain⟨a,ns,rfl,_⟩:=h
  rfl
 ·obtain⟨a,ns,rfl,hS,hlen,q⟩:=h
  have hu:=Be hr
  have XF:=hr.vG
  have Jx:=hr.units
  refine⟨_,(aj
     (AU (aM jy.ok (hr.mono (by decide)) rfl jy.g jy.kp jy.b .nil aP (aa (pv 0) ah)) (qx rfl (dH (bZ (i:=1) vf.nd rfl (Or.inl rfl)) (dH (bZ (i:=2) vf.nd rfl (Or.inl rfl)) (dH (bZ (i:=3) vf.nd rfl (Or.inl rfl)) mr)))))
    (aj
     (aO (i:=4) vf.nd rfl (Or.inl rfl) (aM nu.ok (hr.mono (by decide)) rfl nu.g nu.kp nu.b .nil aP (aa (pv 1) (aa (pv 2) (aa (pv 3) ah)))))
    (aj
     (bB (PW.pt (fS (aJ (Bl Jx) (aM cK.ok (hr.mono (by decide)) rfl cK.g cK.kp cK.b .nil aP (aa (pv 1) ah)) (pv 4) (aU _)) (iG (aJ (Bl Jx) (aM cK.ok (hr.mono (by decide)) rfl cK.g cK.kp cK.b .nil aP (aa aN ah)) (b9 (aa aq (aa aN (aa iw ah)))) (aU _)))))
      (au
       (aB iw))
      aY)
    (au
     (aB (i' (HW Jx) (aM cK.ok (hr.mono (by decide)) rfl cK.g cK.kp cK.b .nil aP (aa (pv 1) ah)) (pv 4) (aU _))))))),?_⟩
  refine⟨_,rfl,a,ns,rfl,hS,hlen,fun td l m at' H1 g4 Qb e1=>?_⟩
  obtain⟨ha,hl,Tu⟩:=g4
  refine⟨td,_,rfl,mq.of Qb,rfl,_,_,rfl,_,_,rfl,_,_,rfl,rfl,?_⟩
  refine⟨_,rfl,_,rfl,_,rfl,l,m,at',rfl,ha,hl,fun t4 sC H4 Fe Yg e4=>?_⟩
  have ev:=Tu sC Fe
  subst ev
  have Yh:PyData.strOk ⟨l.toArray⟩=true:=by
   unfold PyData.strOk
   rw[Array.all_eq_true]
   intro i hi
   have:=ha (l.toArray[i]) (by rw[←List.mem_toArray];exact Array.getElem_mem hi)
   exact decide_eq_true (Nat.lt_trans this (by decide))
  obtain⟨ds,QI,Lw,Kk⟩:∃ds:List PyData,(∀H:Hp,vO K H (yw l) ds)∧(PyData.tuple ds).canLay0=true∧SeqAt.shaped (.tuple ds)=true:=by
   unfold yw
   split
   ·exact⟨[.int 2, .int (l.length:Int), .bool true],fun _=> .cons (.int _) (.cons (.int _) (.cons (.bl _) .nil)),rfl,rfl⟩
   ·split
    ·split
     ·exact⟨[.int 3, .int (yv l:Int), .bool true],fun _=> .cons (.int _) (.cons (.int _) (.cons (.bl _) .nil)),rfl,rfl⟩
     ·exact⟨[.int 0, .str ⟨l.toArray⟩, .bool true],fun _=> .cons (.int _) (.cons (.str _) (.cons (.bl _) .nil)),by simp [PyData.canLay0,PyData.canLayAll0,Yh],pN (by simp [PyData.canLay0,PyData.canLayAll0,Yh]) (by simp [PyData.depth,PyData.depthAll])⟩
    ·rename_i v _
     exact⟨[.int 1, .int ((l.length:Int) - v.length), .bool true],fun _=> .cons (.int _) (.cons (.int _) (.cons (.bl _) .nil)),rfl,rfl⟩
  refine⟨_,rfl,l,rfl,hl,fun t5 H5 ht5 e5=>⟨_,rfl, .tuple ds, .tuple ds, .tup (mq.of ht5) (QI _), .tup (mq.of (e5 _ _ Yg)) (QI _),Kk,Kk,?_⟩⟩
  rw[kg _ Lw]
  refine⟨_,rfl,cQ ?_⟩
  have MM:(PyData.tuple [.int 0, .str "H -> H", .bool true]).canLay0=true:=by decide+kernel
  have MN:=pN MM (by simp [PyData.depth,PyData.depthAll])
  have tHo:yw [72,32,45,62,32,72]=[.int 0, .str ⟨[72,32,45,62,32,72].toArray⟩, .bl true]:=by
   unfold yw
   rw[if_neg (by decide),show dA _ 0 false [72,32,45,62,32,72]=none by decide+kernel]
   exact if_neg (by decide)
  refine⟨[72,32,45,62,32,72],congrArg (fun z=>[V.str z]) Yf,by decide,fun t6 H6 Yi e6=>⟨(by show 3≤sizeLine;decide),fun t7 Yj=>?_⟩⟩
  rw[tHo,←Yf] at Yi
  refine⟨.tuple [.int 0, .str "H -> H", .bool true], .tuple [.int 0, .str "H -> H", .bool true], .tup (mq.of ((aF.new Yj) _ _ Yi)) (.cons (.int _) (.cons (.str _) (.cons (.bl _) .nil))), .tup (mq.of ag) (.cons (.int _) (.cons (.str _) (.cons (.bl _) .nil))),MN,MN,?_⟩
  rw[kg _ MM]
  refine⟨_,rfl,cQ ?_⟩
  have e57:aF H4 (upd H6 t7 (.tup [V.int 0,V.str "H -> H",V.bl true])):=e5.trans (e6.trans (aF.new Yj))
  refine⟨_,rfl,l,rfl,hl,fun t8 H8 KA e8=>⟨_,rfl, .tuple ds, .tuple ds, .tup (mq.of KA) (QI _), .tup (mq.of (e8 _ _ (e57 _ _ Yg))) (QI _),Kk,Kk,?_⟩⟩
  rw[kg _ Lw]
  exact q _
end
theorem all_mk{l:PySem.W.OpenLaw}{w:World}{K:PySem.W.Frag}{h:Heap}{mg:Str→Option Value}{fa C Gr Pc Fo Rd Ch HE NF TL NC TM X1 X3 X4 X5 X6 X8 MO MP MQ MR MS yH MT FR MU FT MV MW MX FU MY MZ M0 M3 M4 M5 M6 GQ M7 M8 GR Na Nb GS Nc Nd Nf Ng Nh GU GV GW Df FV FW FX FY Ni Nj Nk Nl Nn Np Nq Nr Nt Nu Nv Nw Nx Ny GX GY GZ Jy:Addr}(X:K.In h)(G:h.Ns mainGlobals mg)(hfa:mg "law" =some (.ref fa))
  {Jz xc Nz Dg NA Dh NB Di ND G0:Option Addr} {JA NG NH NI NJ:Array (Option Value)} {JB xf xg xh su xi NK Dj Dk Dl yI Dm NL Dn Dp Dq yJ Dr NM Ds Dt Du yK Dv NN G1 G2 G3 Dw G5:Value}
  {sv:Addr} {FZ:Value} {F0:Option Addr} {F1:Array (Option Value)} {JC:Nat} {Dx:Tok}
  {yL:Addr} {JD:Value} {JE:Option Addr} {JF:Array (Option Value)} {NO:Nat} {G6:Tok}
  {yO:Addr} {JG:Value} {JH:Option Addr} {JI:Array (Option Value)} {NP:Nat} {G7:Tok}
  {yP:Addr} {JJ:Value} {JK:Option Addr} {JL:Array (Option Value)} {NQ:Nat} {G8:Tok}
  {uK uN uB uE uM uC uP uI uD uL uT mV mW mX uG uS:Tok}
  (aC:PySem.W.nsIn K mainGlobals "Atom" =some (some (.ref C)))
  (aGr:PySem.W.nsIn K mainGlobals "Group" =some (some (.ref Gr)))
  (aPc:PySem.W.nsIn K mainGlobals "Piece" =some (some (.ref Pc)))
  (aFo:PySem.W.nsIn K mainGlobals "Formula" =some (some (.ref Fo)))
  (aRd:PySem.W.nsIn K mainGlobals "ChangeReader" =some (some (.ref Rd)))
  (aCh:PySem.W.nsIn K mainGlobals "Change" =some (some (.ref Ch)))
  (aHE:PySem.W.nsIn K mainGlobals "HallError" =some (some (.ref HE)))
  (Yk:PySem.W.nsIn K mainGlobals "NoFormula" =some (some (.ref NF)))
  (Yl:PySem.W.nsIn K mainGlobals "TooLong" =some (some (.ref TL)))
  (Ym:PySem.W.nsIn K mainGlobals "NoChange" =some (some (.ref NC)))
  (Yn:PySem.W.nsIn K mainGlobals "TooMany" =some (some (.ref TM)))
  (aX1:PySem.W.nsIn K mainGlobals "NoBalance" =some (some (.ref X1)))
  (aX3:PySem.W.nsIn K mainGlobals "NoName" =some (some (.ref X3)))
  (aX4:PySem.W.nsIn K mainGlobals "NoRow" =some (some (.ref X4)))
  (aX5:PySem.W.nsIn K mainGlobals "NoSplit" =some (some (.ref X5)))
  (aX6:PySem.W.nsIn K mainGlobals "Short" =some (some (.ref X6)))
  (aX8:PySem.W.nsIn K mainGlobals "Unbalanced" =some (some (.ref X8)))
  (Tv:PySem.W.nsIn K mainGlobals "is_great" =some (some (.ref MO)))
  (Tw:dQ K "is_great" "is_great" qU MO)
  (Tx:PySem.W.nsIn K mainGlobals "is_small" =some (some (.ref MP)))
  (Tz:dQ K "is_small" "is_small" qV MP)
  (TB:PySem.W.nsIn K mainGlobals "is_figure" =some (some (.ref MQ)))
  (TC:dQ K "is_figure" "is_figure" mI MQ)
  (TF:PySem.W.nsIn K mainGlobals "count_shown" =some (some (.ref MR)))
  (TJ:dQ K "count_shown" "count_shown" fZ MR)
  (TK:PySem.W.nsIn K mainGlobals "parts_shown" =some (some (.ref MS)))
  (TN:dQ K "parts_shown" "parts_shown" jd MS)
  (NR:PySem.W.findIn K (.ref C) "__init__" =some (some (.ref yH)))
  (NS:PySem.W.isFn K (.ref yH)=true)
  (NT:K.lookup yH=some ⟨JB,Jz, .func (PySem.W.fnOf "__init__" "Atom.__init__" (bI gQ) (bg gQ) (ak gQ) (.ref sv) xf xg xh xc su xi),JA⟩)
  (G9:K.lookup sv=some ⟨FZ,F0, .seq #[.int 1 Dx] JC,F1⟩)
  (NU:PySem.W.codeIn K su "Atom.__init__" =true)
  (NV:PySem.W.keepIn K (.ref yH)=true)
  (TQ:PySem.W.findIn K (.ref C) "shown" =some (some (.ref MT)))
  (TU:dQ K "shown" "Atom.shown" qW MT)
  (TV:PySem.W.findIn K (.ref Gr) "__init__" =some (some (.ref FR)))
  (TX:PySem.W.isFn K (.ref FR)=true)
  (TY:K.lookup FR=some ⟨NK,Nz, .func (PySem.W.fnOf "__init__" "Group.__init__" (bI dZ) (bg dZ) (ak dZ) (.ref yL) Dj Dk Dl Dg yI Dm),NG⟩)
  (NW:K.lookup yL=some ⟨JD,JE, .seq #[.int 1 G6] NO,JF⟩)
  (TZ:PySem.W.codeIn K yI "Group.__init__" =true)
  (T1:PySem.W.keepIn K (.ref FR)=true)
  (T2:PySem.W.findIn K (.ref Gr) "shown" =some (some (.ref MU)))
  (T4:dQ K "shown" "Group.shown" je MU)
  (T5:PySem.W.findIn K (.ref Pc) "__init__" =some (some (.ref FT)))
  (T7:PySem.W.isFn K (.ref FT)=true)
  (T8:K.lookup FT=some ⟨NL,NA, .func (PySem.W.fnOf "__init__" "Piece.__init__" (bI d5) (bg d5) (ak d5) (.ref yO) Dn Dp Dq Dh yJ Dr),NH⟩)
  (NY:K.lookup yO=some ⟨JG,JH, .seq #[.int 1 G7] NP,JI⟩)
  (T9:PySem.W.codeIn K yJ "Piece.__init__" =true)
  (Ua:PySem.W.keepIn K (.ref FT)=true)
  (Ub:PySem.W.findIn K (.ref Pc) "shown" =some (some (.ref MV)))
  (Uc:dQ K "shown" "Piece.shown" f6 MV)
  (Ud:PySem.W.nsIn K mainGlobals "refuse_too_long" =some (some (.ref MW)))
  (Ue:dQ K "refuse_too_long" "refuse_too_long" ko MW)
  (Ug:PySem.W.nsIn K mainGlobals "charge_shown" =some (some (.ref MX)))
  (Uh:dQ K "charge_shown" "charge_shown" e7 MX)
  (Ui:PySem.W.findIn K (.ref Fo) "__init__" =some (some (.ref FU)))
  (Uj:PySem.W.isFn K (.ref FU)=true)
  (Uk:K.lookup FU=some ⟨NM,NB, .func (PySem.W.fnOf "__init__" "Formula.__init__" (bI d6) (bg d6) (ak d6) (.ref yP) Ds Dt Du Di yK Dv),NI⟩)
  (NZ:K.lookup yP=some ⟨JJ,JK, .seq #[.int 0 G8] NQ,JL⟩)
  (Ul:PySem.W.codeIn K yK "Formula.__init__" =true)
  (Um:PySem.W.keepIn K (.ref FU)=true)
  (Uo:PySem.W.findIn K (.ref Fo) "shown" =some (some (.ref MY)))
  (Up:dQ K "shown" "Formula.shown" kq MY)
  (Uq:PySem.W.findIn K (.ref Rd) "__init__" =some (some (.ref MZ)))
  (Ur:dQ K "__init__" "Reader.__init__" qX MZ)
  (Us:PySem.W.findIn K (.ref Rd) "sign" =some (some (.ref M0)))
  (Ut:dQ K "sign" "Reader.sign" xN M0)
  (Uv:PySem.W.findIn K (.ref Rd) "take" =some (some (.ref M3)))
  (Uw:dQ K "take" "Reader.take" xO M3)
  (Ux:PySem.W.findIn K (.ref Rd) "take_all" =some (some (.ref M4)))
  (Uy:dQ K "take_all" "Reader.take_all" kr M4)
  (Uz:PySem.W.findIn K (.ref Rd) "read_whole" =some (some (.ref M5)))
  (UA:dQ K "read_whole" "Reader.read_whole" mJ M5)
  (UB:PySem.W.findIn K (.ref Rd) "read_electron" =some (some (.ref M6)))
  (UC:dQ K "read_electron" "Reader.read_electron" g8 M6)
  (N0:PySem.W.findIn K (.ref Rd) "read_parts" =some (some (.ref GQ)))
  (N2:dQ K "read_parts" "Reader.read_parts" ku GQ)
  (UD:PySem.W.findIn K (.ref Rd) "read_part" =some (some (.ref M7)))
  (UE:dQ K "read_part" "Reader.read_part" nX M7)
  (UG:PySem.W.findIn K (.ref Rd) "read_group" =some (some (.ref M8)))
  (UH:dQ K "read_group" "Reader.read_group" jf M8)
  (N3:PySem.W.findIn K (.ref Rd) "read_atom" =some (some (.ref GR)))
  (N4:dQ K "read_atom" "Reader.read_atom" qY GR)
  (UI:PySem.W.findIn K (.ref Rd) "read_count" =some (some (.ref Na)))
  (UJ:dQ K "read_count" "Reader.read_count" mK Na)
  (UK:PySem.W.findIn K (.ref Rd) "read_number" =some (some (.ref Nb)))
  (UL:dQ K "read_number" "Reader.read_number" kx Nb)
  (N6:PySem.W.findIn K (.ref Rd) "read_charge" =some (some (.ref GS)))
  (N7:dQ K "read_charge" "Reader.read_charge" ky GS)
  (UM:PySem.W.nsIn K mainGlobals "term_shown" =some (some (.ref Nc)))
  (UN:dQ K "term_shown" "term_shown" g9 Nc)
  (UO:PySem.W.nsIn K mainGlobals "side_shown" =some (some (.ref Nd)))
  (UP:dQ K "side_shown" "side_shown" fE Nd)
  (UQ:PySem.W.findIn K (.ref Ch) "__init__" =some (some (.ref Nf)))
  (UR:dQ K "__init__" "Change.__init__" qZ Nf)
  (US:PySem.W.findIn K (.ref Ch) "shown" =some (some (.ref Ng)))
  (UT:dQ K "shown" "Change.shown" mL Ng)
  (UU:PySem.W.findIn K (.ref Rd) "read_term" =some (some (.ref Nh)))
  (UW:dQ K "read_term" "ChangeReader.read_term" q0 Nh)
  (N8:PySem.W.findIn K (.ref Rd) "read_lefts" =some (some (.ref GU)))
  (N9:dQ K "read_lefts" "ChangeReader.read_lefts" mM GU)
  (Oa:PySem.W.findIn K (.ref Rd) "read_rights" =some (some (.ref GV)))
  (Ob:dQ K "read_rights" "ChangeReader.read_rights" kz GV)
  (Oc:PySem.W.findIn K (.ref Rd) "read_sides" =some (some (.ref GW)))
  (Od:dQ K "read_sides" "ChangeReader.read_sides" mN GW)
  (JM:PySem.W.nsIn K mainGlobals "read_change" =some (some (.ref Df)))
  (JN:dQ K "read_change" "read_change" kA Df)
  (UX:PySem.W.findIn K (.ref NF) "__init__" =some (some (.ref FV)))
  (UY:dQ K "__init__" "NoFormula.__init__" EA FV)
  (UZ:PySem.W.findIn K (.ref TL) "__init__" =some (some (.ref FW)))
  (U0:dQ K "__init__" "TooLong.__init__" qS FW)
  (U1:PySem.W.findIn K (.ref NC) "__init__" =some (some (.ref FX)))
  (U2:dQ K "__init__" "NoChange.__init__" EB FX)
  (U3:PySem.W.findIn K (.ref TM) "__init__" =some (some (.ref FY)))
  (U4:dQ K "__init__" "TooMany.__init__" qT FY)
  (U5:PySem.W.nsIn K mainGlobals "_law_cell_at" =some (some (.ref Ni)))
  (U6:dQ K "_law_cell_at" "_law_cell_at" mO Ni)
  (U7:PySem.W.nsIn K mainGlobals "_law_mixed" =some (some (.ref Nj)))
  (U8:dQ K "_law_mixed" "_law_mixed" q9 Nj)
  (U9:PySem.W.nsIn K mainGlobals "_law_pick" =some (some (.ref Nk)))
  (U':dQ K "_law_pick" "_law_pick" xP Nk)
  (Va:PySem.W.nsIn K mainGlobals "_law_whole" =some (some (.ref Nl)))
  (Vb:dQ K "_law_whole" "_law_whole" rh Nl)
  (Vc:PySem.W.nsIn K mainGlobals "_law_kind" =some (some (.ref Nn)))
  (Vd:dQ K "_law_kind" "_law_kind" xQ Nn)
  (Ve:PySem.W.nsIn K mainGlobals "_law_count" =some (some (.ref Np)))
  (Vf:dQ K "_law_count" "_law_count" ri Np)
  (Vg:PySem.W.nsIn K mainGlobals "_law_figures" =some (some (.ref Nq)))
  (Vh:dQ K "_law_figures" "_law_figures" kB Nq)
  (Vi:PySem.W.nsIn K mainGlobals "_law_piece" =some (some (.ref Nr)))
  (Vj:dQ K "_law_piece" "_law_piece" kD Nr)
  (Vk:PySem.W.nsIn K mainGlobals "_law_formula" =some (some (.ref Nt)))
  (Vl:dQ K "_law_formula" "_law_formula" jg Nt)
  (Vm:PySem.W.nsIn K mainGlobals "_law_side" =some (some (.ref Nu)))
  (Vn:dQ K "_law_side" "_law_side" xR Nu)
  (Vo:PySem.W.nsIn K mainGlobals "_law_others" =some (some (.ref Nv)))
  (Vp:dQ K "_law_others" "_law_others" mP Nv)
  (Vq:PySem.W.nsIn K mainGlobals "_law_told" =some (some (.ref Nw)))
  (Vr:dQ K "_law_told" "_law_told" tP Nw)
  (Vs:PySem.W.nsIn K mainGlobals "_law_term" =some (some (.ref Nx)))
  (Vt:dQ K "_law_term" "_law_term" xS Nx)
  (Vu:PySem.W.nsIn K mainGlobals "_law_joined" =some (some (.ref Ny)))
  (Vv:dQ K "_law_joined" "_law_joined" mQ Ny)
  (Oe:PySem.W.nsIn K mainGlobals "_law_open" =some (some (.ref GX)))
  (Of:dQ K "_law_open" "_law_open" xT GX)
  (Og:PySem.W.nsIn K mainGlobals "_law_due" =some (some (.ref GY)))
  (Oh:dQ K "_law_due" "_law_due" EC GY)
  (Oi:PySem.W.nsIn K mainGlobals "_law_drawn" =some (some (.ref GZ)))
  (Oj:dQ K "_law_drawn" "_law_drawn" rj GZ)
  (Vw:PySem.W.nsIn K mainGlobals "law" =some (some (.ref Jy)))
  (Vx:K.lookup Jy=some ⟨NN,ND, .func (PySem.W.fnOf "law" "law" (bI rk) (bg rk) (ak rk) .none G1 G2 G3 G0 Dw G5),NJ⟩)
  (Vy:PySem.W.codeIn K Dw "law" =true)
  (Vz:PySem.W.keepIn K (.ref Jy)=true)
  (Ol:PySem.W.typeIn K (.ref FV)=some (.type "function"))
  (VA:PySem.W.findIn K (.ref NF) "__setattr__" =some (some (.builtin "object.__setattr__")))
  (VB:PySem.W.findIn K (.ref NF) "__getattribute__" =some (some (.builtin "BaseException.__getattribute__")))
  (VC:PySem.W.findIn K (.ref NF) "__getattr__" =some none)
  (VD:PySem.W.keepIn K (.ref NF)=true)
  (VE:∃(nm q:Str) (N:Addr) (bs:List Value) (sn:List Str) (sub:List Value) (ab:Bool) (col:Option Bool) (dd:Option Addr) (k0 k1 k2 k3 k5:Option Value),K.lookup NF=some (excClassObj nm q NF N bs (.ref HE::PySem.W.oY) true sn sub ab col dd k0 k1 k2 k3 k5 "ValueError.__new__"))
  (Om:PySem.W.typeIn K (.ref FW)=some (.type "function"))
  (VF:PySem.W.findIn K (.ref TL) "__setattr__" =some (some (.builtin "object.__setattr__")))
  (VG:PySem.W.findIn K (.ref TL) "__getattribute__" =some (some (.builtin "BaseException.__getattribute__")))
  (VH:PySem.W.findIn K (.ref TL) "__getattr__" =some none)
  (VI:PySem.W.keepIn K (.ref TL)=true)
  (VJ:∃(nm q:Str) (N:Addr) (bs:List Value) (sn:List Str) (sub:List Value) (ab:Bool) (col:Option Bool) (dd:Option Addr) (k0 k1 k2 k3 k5:Option Value),K.lookup TL=some (excClassObj nm q TL N bs (.ref HE::PySem.W.oY) true sn sub ab col dd k0 k1 k2 k3 k5 "ValueError.__new__"))
  (Oo:PySem.W.typeIn K (.ref FX)=some (.type "function"))
  (VL:PySem.W.findIn K (.ref NC) "__setattr__" =some (some (.builtin "object.__setattr__")))
  (VM:PySem.W.findIn K (.ref NC) "__getattribute__" =some (some (.builtin "BaseException.__getattribute__")))
  (VN:PySem.W.findIn K (.ref NC) "__getattr__" =some none)
  (VO:PySem.W.keepIn K (.ref NC)=true)
  (VP:∃(nm q:Str) (N:Addr) (bs:List Value) (sn:List Str) (sub:List Value) (ab:Bool) (col:Option Bool) (dd:Option Addr) (k0 k1 k2 k3 k5:Option Value),K.lookup NC=some (excClassObj nm q NC N bs (.ref HE::PySem.W.oY) true sn sub ab col dd k0 k1 k2 k3 k5 "ValueError.__new__"))
  (Oq:PySem.W.typeIn K (.ref FY)=some (.type "function"))
  (VQ:PySem.W.findIn K (.ref TM) "__setattr__" =some (some (.builtin "object.__setattr__")))
  (VR:PySem.W.findIn K (.ref TM) "__getattribute__" =some (some (.builtin "BaseException.__getattribute__")))
  (VS:PySem.W.findIn K (.ref TM) "__getattr__" =some none)
  (VT:PySem.W.keepIn K (.ref TM)=true)
  (VU:∃(nm q:Str) (N:Addr) (bs:List Value) (sn:List Str) (sub:List Value) (ab:Bool) (col:Option Bool) (dd:Option Addr) (k0 k1 k2 k3 k5:Option Value),K.lookup TM=some (excClassObj nm q TM N bs (.ref HE::PySem.W.oY) true sn sub ab col dd k0 k1 k2 k3 k5 "ValueError.__new__"))
  (pgC:PySem.W.plainGet K C Str.empty=true)
  (hdC:PySem.W.hasDictIn K C=true)
  (poC:PySem.W.plainOver K C=true)
  (saC:PySem.W.findIn K (.ref C) "__setattr__" =some (some (.builtin "object.__setattr__")))
  (mkC:PySem.W.makesIn K C=true)
  (kcC:PySem.W.keepIn K (.ref C)=true)
  (VV:PySem.W.plainGet K Gr Str.empty=true)
  (VW:PySem.W.hasDictIn K Gr=true)
  (VX:PySem.W.plainOver K Gr=true)
  (VY:PySem.W.findIn K (.ref Gr) "__setattr__" =some (some (.builtin "object.__setattr__")))
  (VZ:PySem.W.makesIn K Gr=true)
  (V0:PySem.W.keepIn K (.ref Gr)=true)
  (V1:PySem.W.plainGet K Pc Str.empty=true)
  (V2:PySem.W.hasDictIn K Pc=true)
  (V3:PySem.W.plainOver K Pc=true)
  (V4:PySem.W.findIn K (.ref Pc) "__setattr__" =some (some (.builtin "object.__setattr__")))
  (V5:PySem.W.makesIn K Pc=true)
  (V6:PySem.W.keepIn K (.ref Pc)=true)
  (V7:PySem.W.plainGet K Fo Str.empty=true)
  (V8:PySem.W.hasDictIn K Fo=true)
  (V9:PySem.W.plainOver K Fo=true)
  (V':PySem.W.findIn K (.ref Fo) "__setattr__" =some (some (.builtin "object.__setattr__")))
  (Wa:PySem.W.makesIn K Fo=true)
  (Wb:PySem.W.keepIn K (.ref Fo)=true)
  (Wc:PySem.W.plainGet K Rd Str.empty=true)
  (Wd:PySem.W.hasDictIn K Rd=true)
  (We:PySem.W.plainOver K Rd=true)
  (Wf:PySem.W.findIn K (.ref Rd) "__setattr__" =some (some (.builtin "object.__setattr__")))
  (Wg:PySem.W.makesIn K Rd=true)
  (Wh:PySem.W.keepIn K (.ref Rd)=true)
  (Ot:PySem.W.plainGet K Ch Str.empty=true)
  (Ou:PySem.W.hasDictIn K Ch=true)
  (Ov:PySem.W.plainOver K Ch=true)
  (Ow:PySem.W.findIn K (.ref Ch) "__setattr__" =some (some (.builtin "object.__setattr__")))
  (Wi:PySem.W.makesIn K Ch=true)
  (Wj:PySem.W.keepIn K (.ref Ch)=true)
  (Ox:PySem.W.findIn K (.ref C) "kind" =some none)
  (JO:PySem.W.findIn K (.ref C) "count" =some none)
  (ngp:PySem.W.findIn K (.ref Gr) "parts" =some none)
  (ngc:PySem.W.findIn K (.ref Gr) "count" =some none)
  (npp:PySem.W.findIn K (.ref Pc) "parts" =some none)
  (R4:PySem.W.findIn K (.ref Pc) "count" =some none)
  (nfp:PySem.W.findIn K (.ref Fo) "pieces" =some none)
  (nfc:PySem.W.findIn K (.ref Fo) "charge" =some none)
  (nrt:PySem.W.findIn K (.ref Rd) "text" =some none)
  (nrp:PySem.W.findIn K (.ref Rd) "place" =some none)
  (nlf:PySem.W.findIn K (.ref Ch) "lefts" =some none)
  (nrf:PySem.W.findIn K (.ref Ch) "rights" =some none)
  (fN1:PySem.W.findIn K (.ref NF) "place" =some none)
  (fC1:PySem.W.findIn K (.ref NC) "place" =some none)
  (fT1:PySem.W.findIn K (.ref TL) "many" =some none)
  (fM1:PySem.W.findIn K (.ref TM) "many" =some none)
  (G':PySem.W.nsIn K mainGlobals "len" =some none)
  (Oy:PySem.W.nsIn K mainGlobals "str" =some none)
  (Ha:PySem.W.nsIn K mainGlobals "int" =some none)
  (JP:PySem.W.nsIn K mainGlobals "bool" =some none)
  (F2:PySem.W.nsIn K mainGlobals "range" =some none)
  (kX:PySem.W.nsIn K mainGlobals "isinstance" =some none)
  (JQ:PySem.W.nsIn K mainGlobals "list" =some none)
  (Oz:PySem.W.nsIn K mainGlobals "abs" =some none)
  (JR:PySem.W.nsIn K mainGlobals "dict" =some none)
  (sx:PySem.W.nsIn K mainGlobals "ValueError" =some none)
  (OA:PySem.W.nsIn K mainGlobals "max" =some none)
  (pw:PySem.W.nsIn K mainGlobals "LONGEST_KIND" =some (some (.int 3 uK)))
  (oS:PySem.W.nsIn K mainGlobals "LONGEST_COUNT" =some (some (.int 3 uN)))
  (sy:PySem.W.nsIn K mainGlobals "GROUP_BEGIN" =some (some (.str "(" uB)))
  (xj:PySem.W.nsIn K mainGlobals "GROUP_END" =some (some (.str ")" uE)))
  (jB:PySem.W.nsIn K mainGlobals "MOST_GROUPS_AROUND" =some (some (.int 3 uM)))
  (sA:PySem.W.nsIn K mainGlobals "CHARGE_MARK" =some (some (.str "^" uC)))
  (OB:PySem.W.nsIn K mainGlobals "PLUS" =some (some (.str "+" uP)))
  (JS:PySem.W.nsIn K mainGlobals "MINUS" =some (some (.str "-" uI)))
  (xk:PySem.W.nsIn K mainGlobals "PIECE_DOT" =some (some (.str "." uD)))
  (Au:PySem.W.nsIn K mainGlobals "ELECTRON" =some (some (.str "e^-" uL)))
  (px:PySem.W.nsIn K mainGlobals "LONGEST_TEXT" =some (some (.int 400 uT)))
  (JU:PySem.W.nsIn K mainGlobals "BLANK" =some (some (.str " " mV)))
  (JV:PySem.W.nsIn K mainGlobals "JOINT" =some (some (.str " + " mW)))
  (JW:PySem.W.nsIn K mainGlobals "ARROW" =some (some (.str " -> " mX)))
  (jC:PySem.W.nsIn K mainGlobals "LONGEST_TERM_COUNT" =some (some (.int 12 uG)))
  (vg:PySem.W.nsIn K mainGlobals "MOST_TERMS" =some (some (.int 8 uS)))
  (hE1:PySem.W.specialIn K (.ref HE) "__getattribute__" =some (some (.builtin "type.__getattribute__")))
  (R1:PySem.W.readsIn K HE (.type "type")=true)
  (hE3:PySem.W.findCls K (.ref HE) (.type "type") "__init__" =some (.val (.builtin "ValueError.__init__")))
  (tN1:PySem.W.takerIn K NF "place" =some none)
  (tT1:PySem.W.takerIn K TL "many" =some none)
  (tC1:PySem.W.takerIn K NC "place" =some none)
  (tM1:PySem.W.takerIn K TM "many" =some none)
  (uN2:PySem.W.mroIn K NF (.ref NF)=some true)
  (Yo:PySem.W.mroIn K NF (.ref NC)=some false)
  (hE4:∃(nm q:Str) (N:Addr) (bs bm:List Value) (hd:Bool) (sn:List Str) (sub:List Value) (ab:Bool) (col:Option Bool) (dd:Option Addr) (k0 k1 k2 k3 k5:Option Value) (Qf:String),K.lookup HE=some (excClassObj nm q HE N bs bm hd sn sub ab col dd k0 k1 k2 k3 k5 Qf)∧bm.contains (.type "BaseException")=true)
  (t2:PySem.W.specialIn K (.builtin "object.__class__") "__get__" =some (some (.builtin "getset_descriptor.__get__")))
  (t3:PySem.W.takesIn K (.builtin "object.__class__")=some true)
  (w1:PySem.W.isClsIn K X1=true)
  (y1:PySem.W.typeIn K (.ref X1)=some (.type "type"))
  (wN:PySem.W.isClsIn K NF=true)
  (yN:PySem.W.typeIn K (.ref NF)=some (.type "type"))
  (w3:PySem.W.isClsIn K X3=true)
  (y3:PySem.W.typeIn K (.ref X3)=some (.type "type"))
  (w4:PySem.W.isClsIn K X4=true)
  (y4:PySem.W.typeIn K (.ref X4)=some (.type "type"))
  (w5:PySem.W.isClsIn K X5=true)
  (y5:PySem.W.typeIn K (.ref X5)=some (.type "type"))
  (w6:PySem.W.isClsIn K X6=true)
  (y6:PySem.W.typeIn K (.ref X6)=some (.type "type"))
  (w8:PySem.W.isClsIn K X8=true)
  (y8:PySem.W.typeIn K (.ref X8)=some (.type "type"))
  (wC:PySem.W.isClsIn K NC=true)
  (yC:PySem.W.typeIn K (.ref NC)=some (.type "type"))
  (wT:PySem.W.isClsIn K TL=true)
  (yT:PySem.W.typeIn K (.ref TL)=some (.type "type"))
  (wM:PySem.W.isClsIn K TM=true)
  (yM:PySem.W.typeIn K (.ref TM)=some (.type "type"))
  (DM:PySem.W.mroIn K NC (.ref NC)=some true)
  (uC1:PySem.W.mroIn K NC (.ref HE)=some true)
  (t1C:PySem.W.findIn K (.ref NC) "__class__" =some (some (.builtin "object.__class__")))
  (mC1:PySem.W.mroIn K NC (.ref X1)=some false)
  (mCN:PySem.W.mroIn K NC (.ref NF)=some false)
  (mC3:PySem.W.mroIn K NC (.ref X3)=some false)
  (mC4:PySem.W.mroIn K NC (.ref X4)=some false)
  (mC5:PySem.W.mroIn K NC (.ref X5)=some false)
  (mC6:PySem.W.mroIn K NC (.ref X6)=some false)
  (mC8:PySem.W.mroIn K NC (.ref X8)=some false)
  (mCT:PySem.W.mroIn K NC (.ref TL)=some false)
  (mCM:PySem.W.mroIn K NC (.ref TM)=some false)
  (F3:PySem.W.mroIn K TL (.ref TL)=some true)
  (uT1:PySem.W.mroIn K TL (.ref HE)=some true)
  (t1T:PySem.W.findIn K (.ref TL) "__class__" =some (some (.builtin "object.__class__")))
  (mT1:PySem.W.mroIn K TL (.ref X1)=some false)
  (mTN:PySem.W.mroIn K TL (.ref NF)=some false)
  (mT3:PySem.W.mroIn K TL (.ref X3)=some false)
  (mT4:PySem.W.mroIn K TL (.ref X4)=some false)
  (mT5:PySem.W.mroIn K TL (.ref X5)=some false)
  (mT6:PySem.W.mroIn K TL (.ref X6)=some false)
  (mT8:PySem.W.mroIn K TL (.ref X8)=some false)
  (mTC:PySem.W.mroIn K TL (.ref NC)=some false)
  (mTM:PySem.W.mroIn K TL (.ref TM)=some false)
  (F4:PySem.W.mroIn K TM (.ref TM)=some true)
  (uM1:PySem.W.mroIn K TM (.ref HE)=some true)
  (t1M:PySem.W.findIn K (.ref TM) "__class__" =some (some (.builtin "object.__class__")))
  (mM1:PySem.W.mroIn K TM (.ref X1)=some false)
  (mMN:PySem.W.mroIn K TM (.ref NF)=some false)
  (mM3:PySem.W.mroIn K TM (.ref X3)=some false)
  (mM4:PySem.W.mroIn K TM (.ref X4)=some false)
  (mM5:PySem.W.mroIn K TM (.ref X5)=some false)
  (mM6:PySem.W.mroIn K TM (.ref X6)=some false)
  (mM8:PySem.W.mroIn K TM (.ref X8)=some false)
  (mMC:PySem.W.mroIn K TM (.ref NC)=some false)
  (mMT:PySem.W.mroIn K TM (.ref TL)=some false)
  :∃fd:FuncData,(∀(s:Shared) (v:Value),BindsTo s fd ⟨[v],[]⟩ [("_law_script",v)])∧∀base:Heap,K.In base→base.Ns mainGlobals mg→eD l.prog w K mg base mB 26 fa fd ["_law_script"] (yG K):=by
 have e:=hfa.symm.trans (PySem.W.mg_of X G Vw)
 cases e
 have T:Aj K mg C Rd Gr Pc Fo Ch uK uN uB uE uM uC uP uI uD uL uT mV mW mX uG uS:=⟨⟨⟨⟨⟨⟨⟨pgC,hdC,poC,saC⟩,Ox,JO,PySem.W.mg_of X G aC,PySem.W.mg_none_of X G G',PySem.W.mg_none_of X G Oy,PySem.W.mg_none_of X G Ha,PySem.W.mg_none_of X G JP,PySem.W.mg_none_of X G F2,PySem.W.mg_none_of X G kX,kd,qJ,kd,kd,kd⟩,⟨Wc,Wd,We,Wf⟩,nrt,nrp,PySem.W.mg_of X G pw,PySem.W.mg_of X G oS⟩,⟨VV,VW,VX,VY⟩,ngp,ngc,PySem.W.mg_of X G aGr,PySem.W.mg_of X G sy,PySem.W.mg_of X G xj,PySem.W.mg_of X G jB⟩,PySem.W.mg_of X G sA,PySem.W.mg_of X G OB,PySem.W.mg_of X G JS,⟨V1,V2,V3,V4⟩,⟨V7,V8,V9,V'⟩,npp,R4,nfp,nfc,PySem.W.mg_of X G aPc,PySem.W.mg_of X G aFo,PySem.W.mg_of X G aRd,PySem.W.mg_of X G xk,PySem.W.mg_of X G Au,PySem.W.mg_of X G px,PySem.W.mg_none_of X G JQ,PySem.W.mg_none_of X G Oz⟩,PySem.W.mg_none_of X G JR,⟨Ot,Ou,Ov,Ow⟩,nlf,nrf,PySem.W.mg_of X G aCh,PySem.W.mg_of X G JU,PySem.W.mg_of X G JV,PySem.W.mg_of X G JW⟩,PySem.W.mg_of X G jC,PySem.W.mg_of X G vg⟩
 have OC:Def K mg "is_great" "is_great" qU ["sign"]:=cy X G Tv Tw (iS fun _ _ _ _ _ _ _=>rfl)
 have OD:Def K mg "is_small" "is_small" qV ["sign"]:=cy X G Tx Tz (iS fun _ _ _ _ _ _ _=>rfl)
 have OE:Def K mg "is_figure" "is_figure" mI ["sign"]:=cy X G TB TC (iS fun _ _ _ _ _ _ _=>rfl)
 have OF:Def K mg "count_shown" "count_shown" fZ ["count"]:=cy X G TF TJ (iS fun _ _ _ _ _ _ _=>rfl)
 have OG:Def K mg "parts_shown" "parts_shown" jd ["parts"]:=cy X G TK TN (iS fun _ _ _ _ _ _ _=>rfl)
 have JX:jO K C "Atom.__init__" gQ ["self","kind","count"] [1]:=⟨_,_,_,mD (st:=gQ) NT NU NV,⟨mkC,NR,NS,kcC⟩,Qg (⟨[.int 1 Dx], .cons ⟨_,rfl⟩ (.nil),Qh rfl fun _ _ _ hk=>PySem.W.binds_K (K:=K) (fd:=PySem.W.fnOf "__init__" "Atom.__init__" (bI gQ) (bg gQ) (ak gQ) (.ref sv) xf xg xh xc su xi) hk rfl G9 rfl rfl rfl⟩) (⟨[], .nil,Qi rfl fun _ _ _ _ hk=>PySem.W.binds_K (K:=K) (fd:=PySem.W.fnOf "__init__" "Atom.__init__" (bI gQ) (bg gQ) (ak gQ) (.ref sv) xf xg xh xc su xi) hk rfl G9 rfl rfl rfl⟩)⟩
 have OH:bR K C "shown" "Atom.shown" qW ["self"]:=dq TQ TU (iS fun _ _ _ _ _ _ _=>rfl)
 have OI:jO K Gr "Group.__init__" dZ ["self","parts","count"] [1]:=⟨_,_,_,mD (st:=dZ) TY TZ T1,⟨VZ,TV,TX,V0⟩,Qg (⟨[.int 1 G6], .cons ⟨_,rfl⟩ (.nil),Qh rfl fun _ _ _ hk=>PySem.W.binds_K (K:=K) (fd:=PySem.W.fnOf "__init__" "Group.__init__" (bI dZ) (bg dZ) (ak dZ) (.ref yL) Dj Dk Dl Dg yI Dm) hk rfl NW rfl rfl rfl⟩) (⟨[], .nil,Qi rfl fun _ _ _ _ hk=>PySem.W.binds_K (K:=K) (fd:=PySem.W.fnOf "__init__" "Group.__init__" (bI dZ) (bg dZ) (ak dZ) (.ref yL) Dj Dk Dl Dg yI Dm) hk rfl NW rfl rfl rfl⟩)⟩
 have OJ:bR K Gr "shown" "Group.shown" je ["self"]:=dq T2 T4 (iS fun _ _ _ _ _ _ _=>rfl)
 have OL:jO K Pc "Piece.__init__" d5 ["self","parts","count"] [1]:=⟨_,_,_,mD (st:=d5) T8 T9 Ua,⟨V5,T5,T7,V6⟩,Qg (⟨[.int 1 G7], .cons ⟨_,rfl⟩ (.nil),Qh rfl fun _ _ _ hk=>PySem.W.binds_K (K:=K) (fd:=PySem.W.fnOf "__init__" "Piece.__init__" (bI d5) (bg d5) (ak d5) (.ref yO) Dn Dp Dq Dh yJ Dr) hk rfl NY rfl rfl rfl⟩) (⟨[], .nil,Qi rfl fun _ _ _ _ hk=>PySem.W.binds_K (K:=K) (fd:=PySem.W.fnOf "__init__" "Piece.__init__" (bI d5) (bg d5) (ak d5) (.ref yO) Dn Dp Dq Dh yJ Dr) hk rfl NY rfl rfl rfl⟩)⟩
 have OM:bR K Pc "shown" "Piece.shown" f6 ["self"]:=dq Ub Uc (iS fun _ _ _ _ _ _ _=>rfl)
 have ON:Def K mg "refuse_too_long" "refuse_too_long" ko ["text"]:=cy X G Ud Ue (iS fun _ _ _ _ _ _ _=>rfl)
 have OO:Def K mg "charge_shown" "charge_shown" e7 ["charge"]:=cy X G Ug Uh (iS fun _ _ _ _ _ _ _=>rfl)
 have OP:jO K Fo "Formula.__init__" d6 ["self","pieces","charge"] [0]:=⟨_,_,_,mD (st:=d6) Uk Ul Um,⟨Wa,Ui,Uj,Wb⟩,Qg (⟨[.int 0 G8], .cons ⟨_,rfl⟩ (.nil),Qh rfl fun _ _ _ hk=>PySem.W.binds_K (K:=K) (fd:=PySem.W.fnOf "__init__" "Formula.__init__" (bI d6) (bg d6) (ak d6) (.ref yP) Ds Dt Du Di yK Dv) hk rfl NZ rfl rfl rfl⟩) (⟨[], .nil,Qi rfl fun _ _ _ _ hk=>PySem.W.binds_K (K:=K) (fd:=PySem.W.fnOf "__init__" "Formula.__init__" (bI d6) (bg d6) (ak d6) (.ref yP) Ds Dt Du Di yK Dv) hk rfl NZ rfl rfl rfl⟩)⟩
 have OQ:bR K Fo "shown" "Formula.shown" kq ["self"]:=dq Uo Up (iS fun _ _ _ _ _ _ _=>rfl)
 have OR:jO K Rd "Reader.__init__" qX ["self","text"] []:=Gw Wg Uq Wh Ur (vj fun _ _ _ _ _ _ _ _=>rfl)
 have OS:bR K Rd "sign" "Reader.sign" xN ["self"]:=dq Us Ut (iS fun _ _ _ _ _ _ _=>rfl)
 have OT:bR K Rd "take" "Reader.take" xO ["self","sign"]:=dq Uv Uw (vj fun _ _ _ _ _ _ _ _=>rfl)
 have OU:bR K Rd "take_all" "Reader.take_all" kr ["self","signs"]:=dq Ux Uy (vj fun _ _ _ _ _ _ _ _=>rfl)
 have OV:bR K Rd "read_whole" "Reader.read_whole" mJ ["self"]:=dq Uz UA (iS fun _ _ _ _ _ _ _=>rfl)
 have OW:bR K Rd "read_electron" "Reader.read_electron" g8 ["self"]:=dq UB UC (iS fun _ _ _ _ _ _ _=>rfl)
 have JY:bR K Rd "read_parts" "Reader.read_parts" ku ["self","around"]:=dq N0 N2 (vj fun _ _ _ _ _ _ _ _=>rfl)
 have OX:bR K Rd "read_part" "Reader.read_part" nX ["self","around"]:=dq UD UE (vj fun _ _ _ _ _ _ _ _=>rfl)
 have OY:bR K Rd "read_group" "Reader.read_group" jf ["self","around"]:=dq UG UH (vj fun _ _ _ _ _ _ _ _=>rfl)
 have JZ:bR K Rd "read_atom" "Reader.read_atom" qY ["self"]:=dq N3 N4 (iS fun _ _ _ _ _ _ _=>rfl)
 have OZ:bR K Rd "read_count" "Reader.read_count" mK ["self"]:=dq UI UJ (iS fun _ _ _ _ _ _ _=>rfl)
 have O0:bR K Rd "read_number" "Reader.read_number" kx ["self","longest"]:=dq UK UL (vj fun _ _ _ _ _ _ _ _=>rfl)
 have J0:bR K Rd "read_charge" "Reader.read_charge" ky ["self"]:=dq N6 N7 (iS fun _ _ _ _ _ _ _=>rfl)
 have O1:Def K mg "term_shown" "term_shown" g9 ["count","formula"]:=cy X G UM UN (vj fun _ _ _ _ _ _ _ _=>rfl)
 have O2:Def K mg "side_shown" "side_shown" fE ["terms"]:=cy X G UO UP (iS fun _ _ _ _ _ _ _=>rfl)
 have O3:jO K Ch "Change.__init__" qZ ["self","lefts","rights"] []:=Gw Wi UQ Wj UR (RY fun _ _ _ _ _ _ _ _ _=>rfl)
 have O4:bR K Ch "shown" "Change.shown" mL ["self"]:=dq US UT (iS fun _ _ _ _ _ _ _=>rfl)
 have O5:bR K Rd "read_term" "ChangeReader.read_term" q0 ["self"]:=dq UU UW (iS fun _ _ _ _ _ _ _=>rfl)
 have J1:bR K Rd "read_lefts" "ChangeReader.read_lefts" mM ["self"]:=dq N8 N9 (iS fun _ _ _ _ _ _ _=>rfl)
 have J9:bR K Rd "read_rights" "ChangeReader.read_rights" kz ["self"]:=dq Oa Ob (iS fun _ _ _ _ _ _ _=>rfl)
 have Ka:bR K Rd "read_sides" "ChangeReader.read_sides" mN ["self"]:=dq Oc Od (iS fun _ _ _ _ _ _ _=>rfl)
 have F5:Def K mg "read_change" "read_change" kA ["text"]:=cy X G JM JN (iS fun _ _ _ _ _ _ _=>rfl)
 have Hb:PySem.W.b7 K NF HE FV:=⟨VE,UX,Ol,VA,VB,VC⟩
 have O6:lD K mg "NoFormula" NF HE "NoFormula.__init__" EA ["self","place"]:=xI Hb (PySem.W.mg_of X G Yk) VD UY (vj fun _ _ _ _ _ _ _ _=>rfl)
 have yQ:PySem.W.b7 K TL HE FW:=⟨VJ,UZ,Om,VF,VG,VH⟩
 have O7:lD K mg "TooLong" TL HE "TooLong.__init__" qS ["self","many"]:=xI yQ (PySem.W.mg_of X G Yl) VI U0 (vj fun _ _ _ _ _ _ _ _=>rfl)
 have yR:PySem.W.b7 K NC HE FX:=⟨VP,U1,Oo,VL,VM,VN⟩
 have O8:lD K mg "NoChange" NC HE "NoChange.__init__" EB ["self","place"]:=xI yR (PySem.W.mg_of X G Ym) VO U2 (vj fun _ _ _ _ _ _ _ _=>rfl)
 have yS:PySem.W.b7 K TM HE FY:=⟨VU,U3,Oq,VQ,VR,VS⟩
 have O9:lD K mg "TooMany" TM HE "TooMany.__init__" qT ["self","many"]:=xI yS (PySem.W.mg_of X G Yn) VT U4 (vj fun _ _ _ _ _ _ _ _=>rfl)
 have Pa:Def K mg "_law_cell_at" "_law_cell_at" mO ["_law_script","_law_k"]:=cy X G U5 U6 (vj fun _ _ _ _ _ _ _ _=>rfl)
 have Pb:Def K mg "_law_mixed" "_law_mixed" q9 ["_law_cell","_law_prime"]:=cy X G U7 U8 (vj fun _ _ _ _ _ _ _ _=>rfl)
 have Pd:Def K mg "_law_pick" "_law_pick" xP ["_law_cell","_law_turn"]:=cy X G U9 U' (vj fun _ _ _ _ _ _ _ _=>rfl)
 have Pe:Def K mg "_law_whole" "_law_whole" rh ["_law_found"]:=cy X G Va Vb (iS fun _ _ _ _ _ _ _=>rfl)
 have Pf:Def K mg "_law_kind" "_law_kind" xQ ["_law_number"]:=cy X G Vc Vd (iS fun _ _ _ _ _ _ _=>rfl)
 have Pg:Def K mg "_law_count" "_law_count" ri ["_law_number"]:=cy X G Ve Vf (iS fun _ _ _ _ _ _ _=>rfl)
 have Ph:Def K mg "_law_figures" "_law_figures" kB ["_law_count_here"]:=cy X G Vg Vh (iS fun _ _ _ _ _ _ _=>rfl)
 have Pj:Def K mg "_law_piece" "_law_piece" kD ["_law_cell"]:=cy X G Vi Vj (iS fun _ _ _ _ _ _ _=>rfl)
 have Pk:Def K mg "_law_formula" "_law_formula" jg ["_law_cell"]:=cy X G Vk Vl (iS fun _ _ _ _ _ _ _=>rfl)
 have Pl:Def K mg "_law_side" "_law_side" xR ["_law_terms"]:=cy X G Vm Vn (iS fun _ _ _ _ _ _ _=>rfl)
 have Po:Def K mg "_law_others" "_law_others" mP ["_law_e"]:=cy X G Vo Vp (iS fun _ _ _ _ _ _ _=>rfl)
 have Pp:Def K mg "_law_told" "_law_told" tP ["_law_text"]:=cy X G Vq Vr (iS fun _ _ _ _ _ _ _=>rfl)
 have Pq:Def K mg "_law_term" "_law_term" xS ["_law_cell","_law_short"]:=cy X G Vs Vt (vj fun _ _ _ _ _ _ _ _=>rfl)
 have Pr:Def K mg "_law_joined" "_law_joined" mQ ["_law_script","_law_many","_law_arrows"]:=cy X G Vu Vv (RY fun _ _ _ _ _ _ _ _ _=>rfl)
 have Kb:Def K mg "_law_open" "_law_open" xT ["_law_text"]:=cy X G Oe Of (iS fun _ _ _ _ _ _ _=>rfl)
 have Kc:Def K mg "_law_due" "_law_due" EC ["_law_text","_law_many","_law_at"]:=cy X G Og Oh (RY fun _ _ _ _ _ _ _ _ _=>rfl)
 have Kd:Def K mg "_law_drawn" "_law_drawn" rj ["_law_script"]:=cy X G Oi Oj (iS fun _ _ _ _ _ _ _=>rfl)
 have Wk:=HK (st:=rk) Vx Vy Vz
 refine⟨PySem.W.fnOf "law" "law" (bI rk) (bg rk) (ak rk) .none G1 G2 G3 G0 Dw G5,fun s v=> .of_eq rfl,fun base _ _=>?_⟩
 letI:gK:=⟨fun C=>C=NC⟩
 have jc:¬NF=NC:=fun e=>by rw[e,DM] at Yo;cases Yo
 have TE:tY K mg HE NF TL:=⟨PySem.W.mg_of X G aHE,⟨hE1,R1,hE3⟩,PySem.W.mg_of X G Yk,PySem.W.mg_of X G Yl,tN1,tT1⟩
 have QJ:ug K mg HE NF TL NC TM:=⟨TE,PySem.W.mg_of X G Ym,PySem.W.mg_of X G Yn,tC1,tM1,Hb.par,fN1,uN2,rfl,jc⟩
 have TO:Jn K mg HE NF TL NC TM X1 X3 X4 X5 X6 X8:=⟨QJ,PySem.W.mg_none_of X G kX,PySem.W.mg_none_of X G sx,⟨hE4⟩,PySem.W.mg_of X G aX1,PySem.W.mg_of X G aX3,PySem.W.mg_of X G aX4,PySem.W.mg_of X G aX5,PySem.W.mg_of X G aX6,PySem.W.mg_of X G aX8,(fun h g=>by rcases h with rfl|rfl|rfl<;>rcases g with rfl|rfl|rfl|rfl|rfl|rfl|rfl;exact bu w1 y1 mC1 DM;exact bu wN yN mCN DM;exact bu w3 y3 mC3 DM;exact bu w4 y4 mC4 DM;exact bu w5 y5 mC5 DM;exact bu w6 y6 mC6 DM;exact bu w8 y8 mC8 DM;exact bu w1 y1 mT1 F3;exact bu wN yN mTN F3;exact bu w3 y3 mT3 F3;exact bu w4 y4 mT4 F3;exact bu w5 y5 mT5 F3;exact bu w6 y6 mT6 F3;exact bu w8 y8 mT8 F3;exact bu w1 y1 mM1 F4;exact bu wN yN mMN F4;exact bu w3 y3 mM3 F4;exact bu w4 y4 mM4 F4;exact bu w5 y5 mM5 F4;exact bu w6 y6 mM6 F4;exact bu w8 y8 mM8 F4),(fun h=>by rcases h with rfl|rfl|rfl;exact qQ yR;exact qQ yQ;exact qQ yS),⟨nW _,bu wT yT mCT DM,bu wM yM mCM DM⟩,⟨bu wC yC mTC F3,nW _,bu wM yM mTM F3⟩,⟨bu wC yC mMC F4,bu wT yT mMT F4,nW _⟩,(fun h=>by rcases h with rfl|rfl|rfl;exact⟨t1C,t2,t3⟩;exact⟨t1T,t2,t3⟩;exact⟨t1M,t2,t3⟩),(fun h=>by rcases h with rfl|rfl|rfl;exact uC1;exact uT1;exact uM1),fC1,fT1,fM1⟩
 have TD:Mv K mg Ch HE NF TL NC TM X1 X3 X4 X5 X6 X8:=⟨TO,⟨Ot,Ou,Ov,Ow⟩,PySem.W.mg_none_of X G G',PySem.W.mg_none_of X G Ha⟩
 have TKE:GJ K mg C Rd Gr Pc Fo Ch HE NF TL NC TM uK uN uB uE uM uC uP uI uD uL uT mV mW mX uG uS:=⟨T,QJ⟩
 have TH:=T.toCk
 have TW:=TH.topb
 have TP:=TH.towx
 have TM':MJ K mg C:=⟨TP,PySem.W.mg_none_of X G OA⟩
 have TT:rq K mg C Rd Gr uK uN uB uE uM:=TW.torq
 have TR:o8 K mg C Rd uK uN:=TT.too8
 have TA:kF K mg C:=TR.tokF
 have Pt:=BJ (P:=l.prog) (w:=w) (base:=base) OC
 have Wl:=BK (P:=l.prog) (w:=w) (base:=base) OD
 have Wm:=zS (P:=l.prog) (w:=w) (base:=base) OE
 have F6:=oB (P:=l.prog) (w:=w) (base:=base) OF TA
 have Wn:=E2 (P:=l.prog) (w:=w) (base:=base) JX TA
 have Wo:=B4 OH TA F6
 have Wq:=B' (P:=l.prog) (w:=w) (base:=base) OI TW
 have Wr:=Ca (P:=l.prog) (w:=w) (base:=base) OL TW
 have Pu:=Cb (P:=l.prog) (w:=w) (base:=base) OP TW
 have Ws:=BL (P:=l.prog) (w:=w) (base:=base) OR TR
 have Av:=EL (P:=l.prog) (w:=w) (base:=base) OS TR
 have F7:=IE (P:=l.prog) (w:=w) (base:=base) O6 TE
 have Wt:=BS (P:=l.prog) (w:=w) (base:=base) O7 TE
 have Wu:=IK (P:=l.prog) (w:=w) (base:=base) O8 QJ
 have Wv:=B1 (P:=l.prog) (w:=w) (base:=base) O9 QJ
 have Dy:=BU OT TR TE Av F7
 have Ke:=tZ OU TR Dy
 have Pw:=v8 O0 TR TE Av Wm F7
 have F8:=wa OZ TR Pw
 have Px:=zX JZ TR TE Av Pt Wl F8 Wn F7
 have Pz:=p8 OY OX JY TT Av Pt Px Dy F8 Wq 4
 have PB:=ud J0 TW.toLQ Av Dy F8
 have Ww:=ph OW TW Ke Pu
 have Wx:=wc OV TW Av Dy F8 Pz PB Ww Wr Pu
 have Wy:=uf ON TW TE Wt
 have Wz:=qa OG OJ TT Wo F6 4
 have WA:=oA 4 OM TW Wz F6
 have WB:=lJ OO TW F6
 have WC:=wj 4 OQ TW WA WB
 have PD:=wo (P:=l.prog) (w:=w) (base:=base) Pa TA
 have WD:=B6 (P:=l.prog) (w:=w) (base:=base) Pb TA
 have WE:=B7 (P:=l.prog) (w:=w) (base:=base) Pe TA
 have WG:=B8 (P:=l.prog) (w:=w) (base:=base) Pf TA
 have WH:=B9 (P:=l.prog) (w:=w) (base:=base) Pg
 have PJ:=wm (P:=l.prog) (w:=w) (base:=base) Ph TA
 have PK:=Fc Pd TA WD
 have WI:=Ah Pj TP PK WG WH PJ
 have WJ:=uu Pk TP PK WI PJ
 have WK:=Fj (P:=l.prog) (w:=w) (base:=base) Pl TP
 have WL:=rQ O1 TH WC
 have WM:=rR O2 TH WL
 have WN:=Co (P:=l.prog) (w:=w) (base:=base) O3 TH
 have WO:=Ai O4 TH WM
 have PL:=Ak O5 T Pw Dy Wx
 have PM:=wD J1 T PL Ke
 have PN:=uA J9 T PL Ke
 have PQ:=wF Ka T PM PN WN
 have Kf:=uH F5 TKE Wy Ws PQ Wu Wv F7
 have WQ:=Ar (P:=l.prog) (w:=w) (base:=base) Po TO yR yQ yS
 have WR:=FF Pp TD yR yQ yS Kf WO WQ WE
 have WS:=FG Pq TP WJ WK
 have WT:=As Pr TP PD WS
 have PR:=FL (P:=l.prog) (w:=w) (base:=base) Kb TA
 have PU:=Js Kc TA PR
 have PV:=De Kd TM' PD WT
 exact Jw Wk PV PU WR
theorem walk{l:PySem.W.OpenLaw}{q:Program}{loose:List Str}{XP:(Str→Option Value)→Heap→Prop}{YP:World→Heap→Prop}{d:DefRec}{K:Params→PySem.W.Frag}(hn:l.most=some 63)(Lk:d.params.defaults=[])
  (hY:∀(w:World) (h:Heap),YP w h→(K w.params).In h)
  (F:∀(w:World) (mg:Str→Option Value) (fa:Addr) (h:Heap),(K w.params).In h→h.Ns mainGlobals mg→mg d.name=some (.ref fa)→
   ∃fd:FuncData,(∀(s:Shared) (u:Value),BindsTo s fd ⟨[u],[]⟩ [("_law_script",u)])∧∀base:Heap,(K w.params).In base→base.Ns mainGlobals mg→eD l.prog w (K w.params) mg base mB 26 fa fd ["_law_script"] (yG (K w.params))):
  PySem.W.WalkO q loose XP YP l.row.toRowW d [] (fun f vs=>PySem.call f vs):=
 L2.D9 (n:=63) (k:=26) (x:="_law_script") (CX:=fun _=>mB) (sp:=fun w=>yG (K w.params)) hn (by decide) Lk ⟨rfl,by decide,by decide⟩ hY F (fun _ _ a ns hl _ hS=>⟨a,ns,rfl,hS,hl,fun _=>rfl⟩) fun _ _ _ _ _ z=>z
end R3
open PySem PySem.W PyProof.Rows
namespace PySem.W.Fast
def tw3079064062928267122:=True
def tw16721873278222641492:=True
def tw11822420945481903159:=True
def tw791337144222019225:=True
def tw12802809655176559480:=True
def tw10070741403129143528:=True
def tw15681629156204353845:=True
def tw9064044785407147853:=True
def tw3159291185287773739:=True
def tw7099676833351157268:=True
def tw516575964863297820:=True
def tw4752779828364479340:=True
def tw16241380921125398896:=True
def tw13326979948237151042:=True
def tw7850946832009659408:=True
def tw4478619071269525219:=True
def tw8092335277628697314:=True
def tw14913521347527701540:=True
def tw14452631846196535839:=True
def tw16807538790261747897:=True
def tw3282181884023344498:=True
def tw8838688265999805479:=True
def tw5756978162242819618:=True
def tw11724961579339371392:=True
def tw10141234210870344728:=True
def tw7959456642400840663:=True
def tw9817248340506791489:=True
def tw15497368356898340484:=True
def tw17500546977878007700:=True
def tw2956737855628711845:=True
def tw4670323329352425229:=True
def tw15967649379834613570:=True
def tw6742856997950506874:=True
def tw5020539467294140548:=True
def tw9546745514137158810:=True
def tw15593537102600795256:=True
def tw7919751053575864831:=True
def tw3649816902129458217:=True
def tw12914884517660077585:=True
def tw17280987996298149872:=True
def tw17573346070835332594:=True
def tw2197093233848420178:=True
def tw6151193365582624477:=True
def tw159309629893888195:=True
def tw14208382003786686704:=True
def tw14168993079984471679:=True
def tw4852572376072401827:=True
def tw5878762430643207228:=True
def tw7186623778428862729:=True
def tw248494158106070811:=True
def tw14748959610201384720:=True
def tw16285432654964037013:=True
def tw14829009799029094496:=True
def tw18215638811293878180:=True
def tw16879790907564336702:=True
def tw3781362903627495621:=True
def tw8243933526171004541:=True
def tw16990712755470621856:=True
def tw15773109519033756901:=True
def tw845419065977897678:=True
def tw13348471721224849077:=True
def tw4410974877528192452:=True
def tw5406238696200892801:=True
def tw2388751671042334338:=True
def tw993104297843230493:=True
def tw11972074739530678155:=True
def tw7104668483077063835:=True
def tw10966568773594174915:=True
def tw966361151399888699:=True
def tw10942045945850996869:=True
def tw18341211227814297377:=True
def tw11738507045655112379:=True
def tw653912475422691196:=True
def tw8788693251622242660:=True
def tw10751594409313840848:=True
def tw5764259898096725010:=True
def tw12918641057018615971:=True
def tw15240816649951560268:=True
def tw13069755783365969533:=True
def tw14609440294345854798:=True
def tw6819019932001726286:=True
def tw7613936617779845981:=True
def tw13500524416482579244:=True
def tw4829391643512448161:=True
def tw5269618150181361294:=True
def tw6916439921457221819:=True
def tw3616521682863804467:=True
def tw12714337825635780055:=True
def tw4135451902782973220:=True
def tw5352052282805792858:=True
def tw1858752397358104736:=True
def tw13441550100781327371:=True
def tw4024908993103255737:=True
def tw4427567711175896805:=True
def tw4522753932805874940:=True
def tw14176791048677505206:=True
def tw14267703325989605427:=True
def tw8628558019899927483:=True
def tw5872701191398204582:=True
def tw3220933190916477590:=True
def tw4607524437177497123:=True
def tw5675993481871936642:=True
def tw8259675126250918854:=True
def tw902984591432516500:=True
def tw2269222397986147251:=True
def tw11027898364322716207:=True
def tw1254423673732465465:=True
def tw3527426367465191522:=True
def tw5882267603287012039:=True
def tw6655959639097122139:=True
def tw7086160240065989991:=True
def tw6898783564514026537:=True
def tw8043299636069010901:=True
def tw14760056666878658257:=True
def tw8619920454160841710:=True
def tw6391788372848805450:=True
def tw16370839393557705717:=True
def tw5122189137220580287:=True
def tw12611223601749281145:=True
def tw2097553459950711158:=True
def tw13927180186998110424:=True
def tw3820719104526695289:=True
def tw7743533685727686245:=True
def tw4381995669539326983:=True
def tw4851553670419315032:=True
def tw13136536698308564036:=True
def tw15922785136612170001:=True
def tw12284231291793683043:=True
def tw11422056146603301892:=True
def tw14681610475379286300:=True
def tw1860151832274780199:=True
def tw14516386909580060065:=True
def tw15784936030637420354:=True
def tw11932145864614316270:=True
def tw5824342237215878005:=True
def tw17014673754833224764:=True
def tw7909202483676108934:=True
def tw7531938574678803958:=True
def tw11936488203781802793:=True
def tw108703654293488336:=True
def tw1177877092463710833:=True
def tw13057052253144351909:=True
def tw6710878949326078414:=True
def tw1413015055819968526:=True
def tw8113013152403955111:=True
def tw7067915251790696968:=True
def tw17576423294469796731:=True
def tw457554946359995312:=True
def tw3038910296214919075:=True
def tw6174487229369835655:=True
def tw18261817236091048160:=True
def tw5171788575949718702:=True
def tw11320415792685416297:=True
def tw8711147784617548071:=True
def tw16963484905503041260:=True
def tw961142736833933152:=True
def tw2605428645729027197:=True
def tw15168633690479035311:=True
def tw11600146331856602597:=True
def tw13202962896397356509:=True
def tw10539936879123763204:=True
def tw7249194507400327585:=True
def tw15774218731498720446:=True
def tw14447692891932351195:=True
def tw3115650704354913551:=True
def tw1713005790283892504:=True
def tw11596074074616238171:=True
def tw3420077895267008981:=True
def tw5871975574324321155:=True
def tw5147346849394842371:=True
def tw12855169099974897264:=True
def tw10646634208318460506:=True
def tw7611476786962353063:=True
def tw2309897747069854825:=True
def tw2540327729391971690:=True
def tw1619543885597380580:=True
def tw5820409279332507429:=True
def tw9078285340500750054:=True
def tw5452988641379292974:=True
def tw6066332038529388329:=True
def tw482294142656184590:=True
def tw17687378609850103161:=True
def tw13829951549917187938:=True
def tw2097783340576096729:=True
def tw2823687269116561940:=True
def tw4771770568384359393:=True
def tw2321469561008165437:=True
def tw13866845335930142506:=True
def tw9399687476720856634:=True
def tw9117598559780734634:=True
def tw2969293189070022183:=True
def tw14418257592916233762:=True
def tw7725569198609632526:=True
def tw3790935104050571879:=True
def tw8759207883376029679:=True
def tw11117472071032194820:=True
def tw7806876403805538965:=True
def tw2818481108442028791:=True
def tw11402431964922668486:=True
def tw18191244294081797762:=True
def tw18410119434961851994:=True
def tw18300530837243689418:=True
def tw17019344193322166641:=True
def tw5959097433637887688:=True
def tw15094471655921503511:=True
def tw17483306680796240939:=True
def tw3732495804020566608:=True
def tw5616393795100341757:=True
def tw55856007722473764:=True
def tw984014527777837316:=True
def tw199958980041539036:=True
def tw16817331868920980751:=True
def tw14963866283446616040:=True
def tw2450365260314740444:=True
def tw17164736203351140907:=True
def tw13611404328206885772:=True
def tw8502095441932933157:=True
def tw16835441016463299198:=True
def tw17173019496377258009:=True
def tw2664369680519219329:=True
def tw359697537929263410:=True
def tw7736150713859873532:=True
def tw8655902056434952586:=True
def tw5899025900149317284:=True
def tw11961705794563651570:=True
def tw12533889345801498925:=True
def tw13879617534339744352:=True
def tw13173481015422262531:=True
def tw4441372332861951333:=True
def tw7059650915207366040:=True
def tw2520872370396167233:=True
def tw2257241678499847458:=True
def tw10214834208679231686:=True
def tw8394999470752626620:=True
def tw16213109033138734791:=True
def tw14882058724971089961:=True
def tw8556431952275861691:=True
def tw16626613994154565278:=True
def tw15214045653232804866:=True
def tw6551879927700017441:=True
def tw6832049085866221303:=True
def tw15185174979173469213:=True
def tw18281422376483232331:=True
def tw11040595744280116272:=True
def tw6832060084656309753:=True
def tw12774116264496479903:=True
def tw9568350198448782156:=True
def tw434309362640779564:=True
def tw18294336444240177235:=True
def tw14651561394301116613:=True
def tw1835647592398402751:=True
def tw11479246346127779666:=True
def tw10775192079392161941:=True
def tw16250517316641601579:=True
def tw2159155569981611440:=True
def tw3972050525766982580:=True
def tw7713764818941458842:=True
def tw11012179963907368278:=True
def tw15091176823661860947:=True
def tw1997571447475530831:=True
def tw10035337874370915607:=True
def tw5783182958478783108:=True
def tw18148928476346821130:=True
def tw13933412915471226977:=True
def tw4914916567200716208:=True
def tw15099422957196039721:=True
def tw16191285038296577007:=True
def tw18151564532125518356:=True
def tw13325842399264897487:=True
def tw16301923091639597672:=True
def tw9789277373675878777:=True
def tw4838036251409757715:=True
def tw8744855202899674433:=True
def tw309780085994686494:=True
def tw8384058689655226511:=True
def tw18139970561511853557:=True
def tw2007002742068555950:=True
def tw13573696503960345792:=True
def tw6141074824085746180:=True
def tw1465584741756565993:=True
def tw14803998139370144813:=True
def tw1283358523646441099:=True
def tw12326043239117904055:=True
def tw9074665399973032012:=True
def tw7378191875367591760:=True
def tw2919559035572017090:=True
def tw16182512014966809132:=True
def tw11009046710367979658:=True
def tw16684126135941487739:=True
def tw2750584518531273586:=True
def tw10792849454540288530:=True
def tw9623161288217687621:=True
def tw478247834312942755:=True
def tw14401899327908382859:=True
def tw16160253675283913771:=True
def tw1797188956926774716:=True
def tw10922365202759479391:=True
def tw16980798374893579373:=True
def tw10127585664734884112:=True
def tw884111366702505204:=True
def tw17567011959246591447:=True
def tw17343189690503913701:=True
def tw1286668832467489573:=True
def tw10845275530944773139:=True
def tw14394641711121556549:=True
def tw2292862074743255916:=True
def tw10793076542658667664:=True
def tw11283967981797887660:=True
def tw6190739620725262095:=True
def tw15830731342697067368:=True
def tw11006879318984344792:=True
def tw16015626988222430234:=True
def tw10190608181303681180:=True
def tw8966202643781813675:=True
def tw9159696744368848161:=True
def tw16484326120797169258:=True
def tw6402171917645398752:=True
def tw6401437606386415007:=True
def tw18298357192043026084:=True
def tw9833762226401270809:=True
def tw7047961070602752458:=True
def tw2801974761553058175:=True
def tw10455984976648345684:=True
def tw5778452446739071461:=True
def tw13436610715090179077:=True
def tw243819192238651706:=True
def tw667826494034689508:=True
def tw18073139283098281470:=True
def tw4445429693402800508:=True
def tw5017897679985849399:=True
def tw10481703516929069394:=True
def tw15297619686359565955:=True
def tw5140440885718338713:=True
def tw7917310650016113801:=True
def tw2923779519619692263:=True
def tw7344885049303308128:=True
def tw13636150545709335173:=True
def tw1393841750362081926:=True
def tw3978341526004612491:=True
def tw14009963649998516603:=True
def tw646667491425818303:=True
def tw15828723032270764213:=True
def tw15618104726279144328:=True
def tw5612108225005749627:=True
def tw9225664907196107448:=True
def tw9919960960442401001:=True
def tw3908802275379432836:=True
def tw12854747491063385630:=True
def tw5965472625072447281:=True
def tw17769606537855417319:=True
def tw10793028214416601785:=True
def tw8518105200082748251:=True
def tw5767095518831459580:=True
def tw6736328901061029174:=True
def tw5852021895834957991:=True
def tw12875103724929605129:=True
def tw12855961401404456617:=True
def tw13897620650325291609:=True
def tw577267889989150982:=True
def tw10932072855480825567:=True
def tw13420192410255561746:=True
def tw9490493594475263324:=True
def tw12945919520797620875:=True
def tw14113675764769167401:=True
def tw8838020011354876080:=True
def tw11675884548238460053:=True
def tw16022433320054132569:=True
def tw14886237424832244774:=True
def tw13507186767205528928:=True
def tw11709124449190367461:=True
def tw4979148229594752889:=True
def tw8522332522786596852:=True
def tw16733283549997658161:=True
def tw18020351375127156644:=True
def tw1004880833631201398:=True
def tw883079638165385172:=True
def tw10485107661779576628:=True
def tw10603225197318109181:=True
def tw3420063116135213769:=True
def tw2046209309152588451:=True
def tw4695602307786854148:=True
def tw6420455633510258248:=True
def tw8030725895016732786:=True
def tw9905299258655791669:=True
def tw2606461101331900159:=True
def tw13554179977028557612:=True
def tw6865749589341406218:=True
def tw11254606786913179138:=True
def tw4436088653632674554:=True
def tw7141423256625809026:=True
def tw8251419125256107525:=True
def tw3569936117795844882:=True
def tw16994413470182669337:=True
def tw15435564346486475634:=True
def tw16029398120311884223:=True
def tw10589747423222667632:=True
def tw13688989260657997766:=True
def tw15712335376924274283:=True
def tw3512556269721305033:=True
def tw10185639226757347390:=True
def tw13595049821151263205:=True
def tw6136171462928781586:=True
def tw5692951076631338746:=True
def tw1989710367566581350:=True
def tw6889442150234390842:=True
def tw978415221827916699:=True
def tw13388499649634260985:=True
def tw1127130370703530170:=True
def tw10628903798109282918:=True
def tw3467691132841421491:=True
def tw8614985611155294423:=True
def tw3606432573362565450:=True
def tw2428121495792780156:=True
def tw10640570452203609512:=True
def tw6774243808723622563:=True
def tw12196702855212180965:=True
def tw5434350701376640041:=True
def tw11751579067783228415:=True
def tw6511012971525315138:=True
def tw4212869323372641822:=True
def tw5256801603287530340:=True
def tw4392639331917514852:=True
def tw8873720019902005742:=True
def tw16686325873361877048:=True
def tw16156382971319123641:=True
def tw11296924777189221132:=True
def tw3166763822223089046:=True
def tw5114708788084336775:=True
def tw5444875425881117808:=True
def tw1716492282821756076:=True
def tw3556921709957289584:=True
def tw13637536055475002154:=True
def tw2982317103957411566:=True
def tw15808879400708374272:=True
def tw4085264525354933186:=True
def tw14412178192995953984:=True
def tw4970305218461464373:=True
def tw10586842952584265766:=True
def tw10517327504871155981:=True
def tw6623987716269509738:=True
end PySem.W.Fast
set_option maxRecDepth 100000 in
set_option maxHeartbeats 0 in
theorem PySem.Challenge.cw_balancehall_k44_no_change_holds : PySem.Challenge.rw_balancehall_k44_no_change.Holds := by
 w_on;o_law;k_head;(case hw=>w_witness2)
 k_fill
 refine R3.walk (l:=PySem.Challenge.rw_balancehall_k44_no_change) rfl rfl (fun w h Y=>PySem.W.kIn_of Y) ?F
 case F=>
  intro w mg fa h KX G Ll
  apply R3.all_mk KX G Ll
  all_goals first|k_is|exact⟨⟨_,⟨⟨_,_,_,_,_,_,_,_,_,rfl,by k_is,by k_is⟩,by k_is⟩⟩,by k_is⟩ |exact⟨_,_,_,_,_,_,_,_,_,_,_,_,_,_,_,_,_,by k_is,by decide+kernel⟩ |exact⟨_,_,_,_,_,_,_,_,_,_,_,_,_,_,by k_is⟩
