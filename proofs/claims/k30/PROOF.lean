import PyProof.Rows.All
import Wide.All
import OpenK.AllK
import Wide.FinOn
import Lean
import PyProof.EqAt
import PyProof.EqKinds
import PyProof.TupleCall
import PySem.Challenge.RW_balancehall_k30_least_told
set_option Elab.async false
set_option linter.all false
set_option maxRecDepth 100000
namespace L2
open PySem PySem.Spec PyProof.Rows
abbrev Key:=Sum Int Str
def A3:Key→Value→Bool
 | .inl k,v=>Value.isInt k v
 | .inr x,v=>Value.isStrOf x v
def OP(w:World):Key→Int
 | .inl k=>hashInt k
 | .inr x=>hashStr w x
theorem bK:∀{k:Key} {v:Value},A3 k v=true→(∃i t,k=Sum.inl i∧v=Value.int i t)∨(∃x t,k=Sum.inr x∧v=Value.str x t)
 | .inl i,v,h=>by
   obtain⟨t,e⟩:=Value.isInt_shape (k:=i) (v:=v) h
   exact .inl ⟨i,t,rfl,e⟩
 | .inr x,v,h=>by
   obtain⟨t,e⟩:=Value.isStrOf_shape (x:=x) (v:=v) h
   exact .inr ⟨x,t,rfl,e⟩
theorem Co(a b:Int):decide ((Sum.inl a:Key)=Sum.inl b)=(a==b):=by
 by_cases e:a=b
 ·subst e;simp
 ·have h:¬(Sum.inl a:Key)=Sum.inl b:=fun q=>e (Sum.inl.inj q)
  rw[decide_eq_false h]
  exact(beq_eq_false_iff_ne.mpr e).symm
theorem Cp(a b:Str):decide ((Sum.inr a:Key)=Sum.inr b)=decide (a=b):=by
 by_cases e:a=b
 ·subst e;simp
 ·have h:¬(Sum.inr a:Key)=Sum.inr b:=fun q=>e (Sum.inr.inj q)
  rw[decide_eq_false h,decide_eq_false e]
theorem Cq(a:Int)(b:Str):decide ((Sum.inl a:Key)=Sum.inr b)=false:=decide_eq_false (fun q=>nomatch q)
theorem Cr(a:Str)(b:Int):decide ((Sum.inr a:Key)=Sum.inl b)=false:=decide_eq_false (fun q=>nomatch q)
def qQ(prog:Program)(w:World):PySem.KeyKind prog w Key where
 is:=A3
 hash:=OP w
 inj:=fun v a b ha hb=>by
  rcases bK ha with ⟨i,t,rfl,rfl⟩ | ⟨x,t,rfl,rfl⟩
  ·rcases bK hb with ⟨j,u,rfl,e⟩ | ⟨y,u,rfl,e⟩
   ·injection e with e1 _;rw[e1]
   ·exact nomatch e
  ·rcases bK hb with ⟨j,u,rfl,e⟩ | ⟨y,u,rfl,e⟩
   ·exact nomatch e
   ·injection e with e1 _;rw[e1]
 byValue:=fun k v h=>by
  rcases bK h with ⟨i,t,rfl,rfl⟩ | ⟨x,t,rfl,rfl⟩<;>rfl
 pyHash:=fun hv h=>by
  rcases bK hv with ⟨i,t,rfl,rfl⟩ | ⟨x,t,rfl,rfl⟩
  ·exact wpAny_pyHash_int h
  ·exact wpAny_pyHash_str h
 eqBool:=fun hu hv h=>by
  rcases bK hu with ⟨i,t,rfl,rfl⟩ | ⟨x,t,rfl,rfl⟩
  ·rcases bK hv with ⟨j,u,rfl,rfl⟩ | ⟨y,u,rfl,rfl⟩
   ·rw[Co] at h;exact wpAny_eqBool_int h
   ·rw[Cq] at h;exact SeqAt.EqAt.int_str i t y u _ _ _ _ h
  ·rcases bK hv with ⟨j,u,rfl,rfl⟩ | ⟨y,u,rfl,rfl⟩
   ·rw[Cr] at h;exact SeqAt.EqAt.str_int x t j u _ _ _ _ h
   ·rw[Cp] at h;exact wpAny_eqBool_str h
 «strs» :=fun k x t v h=>by
  rcases bK h with ⟨i,u,rfl,e⟩ | ⟨y,u,rfl,e⟩
  ·exact nomatch e
  ·injection e with e1 _
   subst e1
   cases v<;>rfl
end L2
namespace L2
open PySem PySem.Spec PyProof.Rows
inductive V where
 |dG|bl (b:Bool) |int (i:Int) |str (x:Str) |sD (b:Array UInt8) |pK (b:UInt64) |ref (a:Addr) |ty (n:String)
 deriving DecidableEq
def RelV:V→Value→Prop
 | .dG,u=>u=Value.none
 | .bl b,u=>u=Value.bool b
 | .int i,u=>∃t,u=Value.int i t
 | .str x,u=>∃t,u=Value.str x t
 | .sD b,u=>∃t,u=Value.bytes b t
 | .pK b,u=>∃t,u=Value.float b t
 | .ref a,u=>u=Value.ref a
 | .ty n,u=>u=Value.type n
abbrev Vals:List V→List Value→Prop:=Paired RelV
theorem Vals.length{xs:List V}{us:List Value}(r:Vals xs us):xs.length=us.length:=Paired.length r
theorem Vals.get:∀{xs:List V} {us:List Value} {i:Nat} {x:V},Vals xs us→xs[i]? =some x→∃u,us[i]? =some u∧RelV x u
 |_,_,_,_, .nil,e=>by simp at e
 |_,_,0,_, .cons r _,e=>by simp at e;subst e;exact⟨_,rfl,r⟩
 |_,_,i+1,x, .cons _ t,e=>by
  obtain⟨u,h1,h2⟩:=Vals.get (i:=i) (x:=x) t (by simpa using e)
  exact⟨u,by simpa using h1,h2⟩
theorem Vals.set{x:V}{u:Value}(r:RelV x u):∀{xs:List V} {us:List Value} (i:Nat),Vals xs us→Vals (xs.set i x) (us.set i u)
 |_,_,_, .nil=> .nil
 |_,_,0, .cons _ t=> .cons r t
 |_,_,i+1, .cons q t=> .cons q (Vals.set r i t)
theorem Vals.append:∀{xs ys:List V} {us ws:List Value},Vals xs us→Vals ys ws→Vals (xs++ys) (us++ws)
 |_,_,_,_, .nil,s=>s
 |_,_,_,_, .cons r t,s=> .cons r (Vals.append t s)
theorem Vals.take:∀{xs:List V} {us:List Value} (n:Nat),Vals xs us→Vals (xs.take n) (us.take n)
 |_,_,0,_=> .nil
 |_,_,_+1, .nil=> .nil
 |_,_,n+1, .cons r t=> .cons r (Vals.take n t)
theorem Vals.drop:∀{xs:List V} {us:List Value} (n:Nat),Vals xs us→Vals (xs.drop n) (us.drop n)
 |_,_,0,r=>r
 |_,_,_+1, .nil=> .nil
 |_,_,n+1, .cons _ t=>Vals.drop n t
def lq:Option V→Option Value→Prop
 |some v,some u=>RelV v u
 |none,none=>True
 |_,_=>False
def KV{κ:Type}:List (κ×V)→List (κ×Value)→Prop:=Paired fun (p:κ×V) (q:κ×Value)=>p.1=q.1∧RelV p.2 q.2
def kV:Key→V
 | .inl i=> .int i
 | .inr x=> .str x
inductive HO where
 |lst (xs:List V)
 |tup (xs:List V)
 |dK (ip:List (Key×V)) |dT (ip:List (List Key×V))
 |set (S:Int→Bool) (n:Nat)
 |ins (C dx:Addr) (fs:List (Str×V))
 |own (x:Addr)
 |xd (fs:List (Str×V))
 |met (f x:Addr)
 |OQ (lo hi:Int)
 |qR (o:Obj) (u:HO)
 |Cs (ps:Array Value)
 |ext (φ:Heap→Prop)
abbrev Hp:=Addr→Option HO
def upd(H:Hp)(a:Addr)(o:HO):Hp:=fun b=>if b=a then some o else H b
theorem ae{H:Hp}{a:Addr}{o:HO}:upd H a o a=some o:=by unfold upd;rw[if_pos rfl]
theorem ao{H:Hp}{a b:Addr}{o:HO}(h:b≠a):upd H a o b=H b:=by unfold upd;rw[if_neg h]
theorem xZ{H:Hp}{a:Addr}{o u:HO}:upd (upd H a o) a u=upd H a u:=by
 funext b;unfold upd;split<;>rfl
theorem fQ{H:Hp}{a b:Addr}{o u:HO}(h:H a=some o)(h':H b=some u)(d:o≠u):a≠b:=by
 intro e;subst e;rw[h] at h';exact d (Option.some.inj h')
theorem af{H:Hp}{a b:Addr}{o:HO}(h:H a=some o)(h':H b=none):a≠b:=by
 intro e;subst e;rw[h] at h';cases h'
section
variable (P:Program)(w:World)
def cR(H:Hp)(h:Heap)(a:Addr):HO→Prop
 | .lst xs=>xs.length≤sizeLine∧∃(its:List Value) (n:Nat),Vals xs its∧h.get? a=some { cls:= .type "list",data:= .seq its.toArray n }
 | .tup xs=>xs.length≤sizeLine∧∃its:List Value,Vals xs its∧IsTup h a its.toArray
 | .dK ip=>ip.length≤sizeLine∧(a==sysModules)=false∧∃vs,KV ip vs∧h.DictOf (qQ P w) a vs
 | .dT ip=>ip.length≤sizeLine∧(a==sysModules)=false∧∃xs:List (List Key×Addr×Value),
   Paired (fun (p:List Key×V) (q:List Key×Addr×Value)=>p.1=q.1∧H q.2.1=some (.tup (p.1.map kV))∧RelV p.2 q.2.2) ip xs∧
   ∃o es ep,h.get? a=some o∧o.ExactDict∧o.data= .dict es ep∧es.toList=xs.map (entryOfKey (tupleKind (qQ P w)))∧(xs.map (·.1)).Nodup
 | .set S n=>h.SetOf (intKind P w) a S n
 | .ins C dx fs=>H dx=some (.own a)∧fs.length≤1000∧dx≠a∧h.get? a=some (PySem.W.instObj C dx)∧
   ∃mA,h.Ns1 dx mA∧(∀f,lq (fs.lookup f) (mA f))∧PySem.Within mA (fs.map (·.1))
 | .own _=>∃o,h.get? a=some o
 | .xd fs=>∃mA,h.Ns1 a mA∧∀f,lq (fs.lookup f) (mA f)
 | .OQ lo hi=>∃t u v,h.get? a=some { cls:= .type "range",data:= .fields #[.int lo t, .int hi u, .int 1 v] }
 | .qR o u=>h.get? a=some o∧cR H h a u
 | .Cs ps=>h.get? a=some { cls:= .none,data:= .fields ps }
 | .met f x=>h.get? a=some (PySem.W.methodObj (.ref f) (.ref x))
 | .ext φ=>φ h∧(∃o,h.get? a=some o)∧∀h1 h2:Heap,φ h1→(∀o,h1.get? a=some o→h2.get? a=some o)→φ h2
def jN(H:Hp)(h:Heap):Prop:=∀a o,H a=some o→cR P w H h a o
end
section
variable {P:Program}{w:World}{H H':Hp}{h h':Heap}{a:Addr}{o:HO}
theorem cR.lt(x:cR P w H h a o):a<h.objs.size:=by
 cases o with
 |lst xs=>obtain⟨_,_,_,_,e⟩:=x;exact Heap.lt_size e
 |tup xs=>obtain⟨_,_,_,p⟩:=x;exact p.lt
 |dK ip=>obtain⟨_,_,_,_,o,_,_,e,_⟩:=x;exact Heap.lt_size e
 |dT ip=>obtain⟨_,_,_,_,o,_,_,e,_⟩:=x;exact Heap.lt_size e
 |set S n=>obtain⟨o,_,_,_,e,_⟩:=x;exact Heap.lt_size e
 |ins C dx fs=>obtain⟨_,_,_,e,_⟩:=x;exact Heap.lt_size e
 |own y=>obtain⟨_,e⟩:=x;exact Heap.lt_size e
 |xd fs=>obtain⟨_,⟨_,_,_,e,_⟩,_⟩:=x;exact Heap.lt_size e
 |OQ lo hi=>obtain⟨_,_,_,e⟩:=x;exact Heap.lt_size e
 |qR ob u=>obtain⟨e,_⟩:=x;exact Heap.lt_size e
 |Cs ps=>exact Heap.lt_size (show h.get? a=some _ from x)
 |met f y=>exact Heap.lt_size (show h.get? a=some _ from x)
 |ext φ=>obtain⟨_,⟨_,e⟩,_⟩:=x;exact Heap.lt_size e
theorem Paired.Gw{α β:Type}{F G:α→β→Prop}:∀{l₁:List α} {l₂:List β},Paired F l₁ l₂→(∀a b,F a b→G a b)→Paired G l₁ l₂
 |_,_, .nil,_=> .nil
 |_,_, .cons r t,f=> .cons (f _ _ r) (Paired.Gw t f)
theorem cR.pQ(x:cR P w H h a o)(k:∀b u,(b=a∨H b=some (.own a))→h.get? b=some u→h'.get? b=some u)
  (ho:∀b,H b=some (.own a)→H' b=some (.own a)) (ht:∀b xs,H b=some (.tup xs)→H' b=some (.tup xs)):cR P w H' h' a o:=by
 induction o with
 |lst xs=>obtain⟨z,its,n,r,e⟩:=x;exact⟨z,its,n,r,k _ _ (.inl rfl) e⟩
 |tup xs=>obtain⟨z,its,r,ob,e,c⟩:=x;exact⟨z,its,r,ob,k _ _ (.inl rfl) e,c⟩
 |dK ip=>obtain⟨z,y,vs,r,ob,es,ep,e,c⟩:=x;exact⟨z,y,vs,r,ob,es,ep,k _ _ (.inl rfl) e,c⟩
 |dT ip=>
  obtain⟨z,y,xs,r,ob,es,ep,e,c⟩:=x
  exact⟨z,y,xs,Paired.Gw r fun p q z=>⟨z.1,ht _ _ z.2.1,z.2.2⟩,ob,es,ep,k _ _ (.inl rfl) e,c⟩
 |set S n=>obtain⟨ob,es,ep,t,e,c⟩:=x;exact⟨ob,es,ep,t,k _ _ (.inl rfl) e,c⟩
 |ins C dx fs=>
  obtain⟨d,z,ne,e,mA,⟨od,es,ep,e2,c⟩,r⟩:=x
  exact⟨ho _ d,z,ne,k _ _ (.inl rfl) e,mA,⟨od,es,ep,k _ _ (.inr d) e2,c⟩,r⟩
 |own y=>obtain⟨ob,e⟩:=x;exact⟨ob,k _ _ (.inl rfl) e⟩
 |xd fs=>obtain⟨mA,⟨od,es,ep,e,c⟩,r⟩:=x;exact⟨mA,⟨od,es,ep,k _ _ (.inl rfl) e,c⟩,r⟩
 |OQ lo hi=>obtain⟨t,u,v,e⟩:=x;exact⟨t,u,v,k _ _ (.inl rfl) e⟩
 |qR ob u ih=>obtain⟨e,q⟩:=x;exact⟨k _ _ (.inl rfl) e,ih q⟩
 |Cs ps=>
  have e:h.get? a=some { cls:= .none,data:= .fields ps }:=x
  show h'.get? a=some { cls:= .none,data:= .fields ps }
  exact k a _ (.inl rfl) e
 |met f y=>
  have e:h.get? a=some (PySem.W.methodObj (.ref f) (.ref y)):=x
  show h'.get? a=some (PySem.W.methodObj (.ref f) (.ref y))
  exact k a _ (.inl rfl) e
 |ext φ=>obtain⟨p,⟨o,e⟩,st⟩:=x;exact⟨st _ _ p fun o q=>k _ _ (.inl rfl) q,⟨o,k _ _ (.inl rfl) e⟩,st⟩
theorem jN.lt(x:jN P w H h)(e:H a=some o):a<h.objs.size:=(x a o e).lt
theorem jN.fresh(x:jN P w H h)(e:h.objs.size≤a):H a=none:=by
 cases q:H a with
 |none=>rfl
 |some u=>exact absurd (Nat.lt_of_lt_of_le (x.lt q) e) (Nat.lt_irrefl _)
theorem jN.kept(x:jN P w H h)(k:∀b u,h.get? b=some u→h'.get? b=some u):jN P w H h':=fun a o e=>
 (x a o e).pQ (fun b u _ q=>k b u q) (fun _ q=>q) fun _ _ q=>q
theorem jN.laid(x:jN P w H h)(k:∀b u,h.get? b=some u→h'.get? b=some u)(hp:h.objs.size≤a)(new:cR P w (upd H a o) h' a o):jN P w (upd H a o) h':=fun b u e=>by
 have hn:=x.fresh hp
 by_cases hb:b=a
 ·subst hb;rw[ae] at e;cases e;exact new
 ·rw[ao hb] at e
  exact(x b u e).pQ (fun c v _ q=>k c v q) (fun c q=>by rw[ao (af q hn)];exact q) fun c xs q=>by rw[ao (af q hn)];exact q
end
def Rd(H:Hp)(a:Addr)(u:HO):Prop:=H a=some u∨∃o,H a=some (.qR o u)
theorem Rd.ok{P:Program}{w:World}{H:Hp}{h:Heap}{a:Addr}{u:HO}(r:Rd H a u)(x:jN P w H h):cR P w H h a u:=by
 rcases r with r| ⟨o,r⟩
 ·exact x a u r
 ·obtain⟨_,q⟩:=x a _ r
  exact q
def NV:Option HO→Prop
 |some (.lst _)=>True
 |some (.dK _)=>True
 |some (.dT _)=>True
 |some (.set _ _)=>True
 |some (.ins _ _ _)=>True
 |some (.ext _)=>True
 |_=>False
section
variable {P:Program}{w:World}{H:Hp}{h h':Heap}{x e:Addr}{o':HO}
theorem jN.write(ok:jN P w H h)(mu:NV (H x))(he:e=x∨H e=some (.own x))(k:∀b u,b≠e→h.get? b=some u→h'.get? b=some u)(FZ:∃u,h'.get? e=some u)
  (new:cR P w (upd H x o') h' x o'):jN P w (upd H x o') h':=fun b u q=>by
 have Gx:∀c y,H c=some (.own y)→c≠x:=fun c y r z=>by subst z;rw[r] at mu;exact mu
 have OR:∀c xs,H c=some (.tup xs)→c≠x:=fun c xs r z=>by subst z;rw[r] at mu;exact mu
 by_cases hb:b=x
 ·subst hb;rw[ae] at q;cases q;exact new
 ·rw[ao hb] at q
  by_cases Ct:b=e
  ·have q':H b=some (.own x):=by
    rcases he with z|z
    ·exact absurd (Ct.trans z) hb
    ·rw[Ct];exact z
   rw[q] at q';cases q'
   obtain⟨v,hv⟩:=FZ
   exact⟨v,by rw[Ct];exact hv⟩
  ·refine(ok b u q).pQ (fun c v hc r=>k c v ?_ r) (fun c r=>by rw[ao (Gx c b r)];exact r) fun c xs r=>by rw[ao (OR c xs r)];exact r
   rcases hc with rfl|hc
   ·exact Ct
   ·rintro rfl
    rcases he with z|z
    ·exact Gx c b hc z
    ·rw[hc] at z;cases z;exact hb rfl
end
structure Un(fs ex:List Addr)(H H':Hp)(h h':Heap):Prop where
 keep:∀b o,h.get? b=some o→H b=none→b∉fs→b∉ex→h'.get? b=some o
 slot:∀b o,h.get? b=some o→H b=none→b∈fs→b∉ex→∃sl,h'.get? b=some { o with slots:=sl }
 free:∀b o,h.get? b=some o→H b=none→b∉ex→H' b=none
 there:∀b o,h.get? b=some o→b∉ex→∃o',h'.get? b=some o'
 n9:∀b xs,H b=some (.tup xs)→H' b=some (.tup xs)
 mF:∀b o u,H b=some (.qR o u)→H' b=some (.qR o u)
 oe:∀b ps,H b=some (.Cs ps)→∃more,H' b=some (.Cs (ps++more))
section
variable {fs A4 ex Wu:List Addr}{H H1 H2:Hp}{h h1 h2 h':Heap}{a x e:Addr}{o:HO}
theorem Un.any(u:Un fs ex H H1 h h1){b:Addr}{ob:Obj}(q:h.get? b=some ob)(n:H b=none)(hx:b∉ex):∃sl,h1.get? b=some { ob with slots:=sl }:=by
 by_cases hb:b∈fs
 ·exact u.slot b ob q n hb hx
 ·exact⟨ob.slots,u.keep b ob q n hb hx⟩
theorem Un.kept(k:∀b u,h.get? b=some u→h'.get? b=some u):Un fs ex H H h h':=
 ⟨fun b ob q _ _ _=>k b ob q,fun b ob q _ _ _=>⟨ob.slots,k b ob q⟩,fun _ _ _ n _=>n,fun b ob q _=>⟨ob,k b ob q⟩,fun _ _ q=>q,fun _ _ _ q=>q,fun _ ps q=>⟨#[],by rw[q];simp⟩⟩
theorem Un.refl:Un fs ex H H h h:=Un.kept fun _ _ q=>q
theorem Un.laid(k:∀b u,h.get? b=some u→h'.get? b=some u)(hp:h.objs.size≤a)(hn:H a=none):Un fs ex H (upd H a o) h h' where
 keep:=fun b u q _ _ _=>k b u q
 slot:=fun b u q _ _ _=>⟨u.slots,k b u q⟩
 free:=fun b u q n _=>by rw[ao (Nat.ne_of_lt (Nat.lt_of_lt_of_le (Heap.lt_size q) hp))];exact n
 there:=fun b u q _=>⟨u,k b u q⟩
 n9:=fun b xs q=>by rw[ao (af q hn)];exact q
 mF:=fun b u xs q=>by rw[ao (af q hn)];exact q
 oe:=fun b ps q=>⟨#[],by rw[ao (af q hn),q];simp⟩
theorem Un.write(mu:NV (H x))(he:e=x∨H e=some (.own x))(k:∀b u,b≠e→h.get? b=some u→h'.get? b=some u)(FZ:∃u,h'.get? e=some u):Un fs ex H (upd H x o) h h':=by
 have hx:∀b,H b=none→b≠x:=fun b n z=>by subst z;rw[n] at mu;exact mu
 have hb:∀b,H b=none→b≠e:=fun b n z=>by
  subst z
  rcases he with r|r
  ·exact hx b n r
  ·rw[n] at r;cases r
 have hm:∀b u,H b=some u→¬NV (some u)→b≠x:=fun b u q nm z=>by subst z;rw[q] at mu;exact nm mu
 refine⟨fun b u q n _ _=>k b u (hb b n) q,fun b u q n _ _=>⟨u.slots,k b u (hb b n) q⟩,fun b u q n _=>by rw[ao (hx b n)];exact n,fun b u q _=>?_,
  fun b xs q=>by rw[ao (hm b _ q fun z=>z)];exact q,fun b u xs q=>by rw[ao (hm b _ q fun z=>z)];exact q,fun b ps q=>⟨#[],by rw[ao (hm b _ q fun z=>z),q];simp⟩⟩
 by_cases Ct:b=e
 ·subst Ct;exact FZ
 ·exact⟨u,k b u Ct q⟩
end
def NW(h:Heap)(H:Hp):List Addr:=(List.range h.objs.size).filter fun a=>(H a).isSome
def mG(h:Heap)(H:Hp):Heap:=PySem.W.hideAll h (NW h H)
theorem sE(h:Heap)(H:Hp):(mG h H).objs.size=h.objs.size:=PySem.W.hideAll_size _ _
theorem uD{h:Heap}{H:Hp}{b:Addr}{o:Obj}(e:h.get? b=some o)(n:H b=none):(mG h H).get? b=some o:=
 PySem.W.hideAll_get _ e fun hm=>by
  have q:(H b).isSome=true:=(List.mem_filter.mp hm).2
  rw[n] at q;simp at q
theorem x6{h:Heap}{H:Hp}{b:Addr}{o:Obj}(e:(mG h H).get? b=some o):h.get? b=some o∧H b=none:=by
 have e':h.get? b=some o:=PySem.W.of_hideAll (NW h H) e
 refine⟨e',?_⟩
 cases q:H b with
 |none=>rfl
 |some x=>
  have hm:b∈NW h H:=List.mem_filter.mpr ⟨List.mem_range.mpr (Heap.lt_size e'),by simp [q]⟩
  have z:(mG h H).get? b=none:=PySem.W.hideAll_none (NW h H) hm
  rw[z] at e;cases e
def x8(g h:Heap)(L:Addr):List (Addr×Obj):=(List.range h.objs.size).filterMap fun a=>if a=L∨(g.get? a).isSome=true then none else (h.get? a).map fun o=>(a,o)
def rest(g h:Heap)(L d:Addr):List (Addr×Obj):=(x8 g h L).filter fun p=>decide (p.1≠d)
end L2
namespace L2
open PySem PySem.Spec PyProof.Rows
structure Mod(K:PySem.W.Frag)(mg:Str→Option Value)(base:Heap):Prop where
 Gy:K.In base
 glob:base.Ns mainGlobals mg
 blt:∃mb,base.Ns builtinsNs mb∧∀x:Str,x≠"__name__" →mb x=bootBuiltins x
 nolimit:base.NoLimit
structure Cx where
 prog:Program
 w:World
 K:PySem.W.Frag
 mg:Str→Option Value
 base:Heap
 A:Around
 N:List Str
 s₀:Shared
 H₀:Hp
 env:Env
 outer:List Env
 stack:List Env
 ex:List Addr
 fn:Str→Bool
 calm:Bool
 pn:List (Addr×Obj)
 xe:Value→Shared→Prop
def uE(l:List Env):List Addr:=l.filterMap (·.frame)
abbrev Cx.fs(X:Cx):List Addr:=uE X.outer
def OS(sc:Scope)(x:Str):Prop:=sc.names.lookup x=some .local∨sc.names.lookup x=some .cell∨sc.names.lookup x=some .free
def Loc(sc:Scope)(x:Str):Prop:=sc.names.lookup x=some .local∨sc.names.lookup x=some .cell
def Look(env:Env)(h:Heap)(m:Str→Option Value)(x:Str)(u:Value):Prop:=
 (env.kindOf x=some .local∧m x=some u)∨((env.kindOf x=some .cell∨env.kindOf x=some .free)∧∃c,env.cells.lookup x=some c∧h.IsCell c (some u))
structure Cx.Ok(X:Cx):Prop where
 mod:Mod X.K X.mg X.base
 kind:X.env.scope.kind= .function
 glob:X.env.globals=mainGlobals
 blt:X.env.builtins=builtinsNs
 above:X.s₀.heap.objs.size≤X.env.locals
 inj:∀x y c,X.env.cells.lookup x=some c→X.env.cells.lookup y=some c→x=y
 has:∀x,(X.env.kindOf x=some .cell∨X.env.kindOf x=some .free)→∃c,X.env.cells.lookup x=some c
 Cu:∀x c,X.fn x=true→X.env.cells.lookup x=some c→X.s₀.heap.objs.size≤c
 hd:X.calm=true→X.A.handled=none
 frames:X.A.frames=some X.stack
 F1:X.stack=X.outer∨(X.stack=X.env::X.outer∧X.env.frame=some X.env.locals)
 Gz:∀b∈X.ex,b≠X.env.locals∧∀x c,X.env.cells.lookup x=some c→c≠b
 bs:∀b o,X.base.get? b=some o→X.s₀.heap.get? b=some o∧X.H₀ b=none
 sH:X.base.objs.size≤X.s₀.heap.objs.size
 og:∀b o,X.base.get? b=some o→b∉X.ex
 oh:∀b∈X.ex,b∉X.fs
 iq:X.s₀.heap.FunFrames X.base X.outer
 x9:∀b∈X.fs,X.H₀ b=none
structure Inv(X:Cx)(pins:List (Addr×Obj))(σ:List (Option V))(H:Hp)(s:Shared):Prop where
 ok:X.Ok
 os:s.os=X.s₀.os
 bare:AllBare s.gens
 base:Un X.fs X.ex X.H₀ H X.s₀.heap s.heap
 loc:∃m,s.heap.Ns X.env.locals m∧∀(i:Nat) (x:Str) (v:V),X.N[i]? =some x→σ[i]? =some (some v)→OS X.env.scope x→∃u,RelV v u∧Look X.env s.heap m x u
 cell:∀x c,X.env.cells.lookup x=some c→∃v,s.heap.IsCell c v
 free:H X.env.locals=none
 fR:∀x c,X.env.cells.lookup x=some c→H c=none
 pin:∀p∈X.pn++pins,s.heap.get? p.1=some p.2∧H p.1=none∧p.1≠X.env.locals∧p.1∉X.fs∧∀v,p.2.data≠ .cell v
 bV:jN X.prog X.w H s.heap
 len:σ.length=X.N.length
section
variable {X:Cx}{pins:List (Addr×Obj)}{σ:List (Option V)}{H H':Hp}{s:Shared}{h':Heap}
theorem Cx.Ok.OT(ok:X.Ok){b:Addr}{o:Obj}(e:X.base.get? b=some o):b∉X.fs:=fun hb=>by
 have:=(ok.iq.mem hb).1
 rw[e] at this;cases this
theorem Inv.bs(I:Inv X pins σ H s):∀b o,X.base.get? b=some o→s.heap.get? b=some o∧H b=none:=fun b o e=>
 ⟨I.base.keep b o (I.ok.bs b o e).1 (I.ok.bs b o e).2 (I.ok.OT e) (I.ok.og b o e),I.base.free b o (I.ok.bs b o e).1 (I.ok.bs b o e).2 (I.ok.og b o e)⟩
theorem Inv.bk(I:Inv X pins σ H s):∀b o,X.base.get? b=some o→s.heap.get? b=some o:=fun b o e=>(I.bs b o e).1
theorem Inv.mod(I:Inv X pins σ H s):Mod X.K X.mg X.base:=I.ok.mod
theorem Inv.ju(I:Inv X pins σ H s):X.K.In s.heap:=I.ok.mod.Gy.keeps I.bk
theorem Inv.lt(I:Inv X pins σ H s):X.env.locals<s.heap.objs.size:=let ⟨_,hn,_⟩:=I.loc;hn.lt
theorem Inv.sz(I:Inv X pins σ H s):X.s₀.heap.objs.size≤s.heap.objs.size:=Nat.le_trans I.ok.above (Nat.le_of_lt I.lt)
theorem Inv.OU(I:Inv X pins σ H s){a:Addr}(h:s.heap.objs.size≤a):a∉X.fs:=fun hb=>by
 obtain⟨_,o,ho,_⟩:=I.ok.iq.mem hb
 exact absurd (Nat.lt_of_lt_of_le (Heap.lt_size ho) (Nat.le_trans I.sz h)) (Nat.lt_irrefl _)
theorem Inv.Cv(I:Inv X pins σ H s):∀x c,X.env.cells.lookup x=some c→c≠X.env.locals:=fun x c e z=>by
 obtain⟨v,o,ho,hd⟩:=I.cell x c e
 obtain⟨m,⟨o',es,ep,Cw,OV,_⟩,_⟩:=I.loc
 rw[z,Cw] at ho;cases ho;rw[OV] at hd;cases hd
theorem Inv.iq(I:Inv X pins σ H s):s.heap.FunFrames X.base X.outer:=by
 have all:∀(l:List Env),(∀b∈uE l,b∈X.fs)→X.s₀.heap.FunFrames X.base l→s.heap.FunFrames X.base l:=by
  intro l
  induction l with
  |nil=>intro _ _;trivial
  |cons env r ih=>
   intro hs hl
   obtain⟨hk,⟨L,o,hf,hn,ho,hd⟩,hr⟩:=hl
   have hL:L∈X.fs:=hs L (by unfold uE;rw[List.filterMap_cons,hf];exact List.mem_cons_self)
   obtain⟨sl,e⟩:=I.base.slot L o ho (I.ok.x9 L hL) hL fun z=>I.ok.oh L z hL
   exact⟨hk,⟨L,_,hf,hn,e,hd⟩,ih (fun b hb=>hs b (by unfold uE;rw[List.filterMap_cons,hf];exact List.mem_cons_of_mem _ hb)) hr⟩
 exact all X.outer (fun _ hb=>hb) I.ok.iq
theorem Inv.stack(I:Inv X pins σ H s):s.heap.FunFrames X.base X.stack:=by
 rcases I.ok.F1 with e| ⟨e,hf⟩
 ·rw[e];exact I.iq
 ·rw[e]
  obtain⟨m,hn,_⟩:=I.loc
  refine .cons (by rw[I.ok.kind];decide) hf hn ?_ I.iq
  exact Heap.get?_none_of_le (Nat.le_trans I.ok.sH I.ok.above)
theorem Inv.iZ(I:Inv X pins σ H s):∀b∈uE X.stack,b∈X.env.locals::X.fs:=fun b hb=>by
 rcases I.ok.F1 with e| ⟨e,hf⟩
 ·rw[e] at hb;exact List.mem_cons_of_mem _ hb
 ·rw[e] at hb
  unfold uE at hb
  rw[List.filterMap_cons,hf] at hb
  exact hb
theorem Inv.mH(I:Inv X pins σ H s):∀b∈uE X.stack,H b=none:=fun b hb=>by
 rcases List.mem_cons.mp (I.iZ b hb) with e|hb
 ·rw[e];exact I.free
 ·obtain⟨_,o,ho,_⟩:=I.ok.iq.mem hb
  exact I.base.free b o ho (I.ok.x9 b hb) fun z=>I.ok.oh b z hb
theorem Inv.step{g':Array GenState}{t':Nat}{d':Drawn}{ch:List Addr}(I:Inv X pins σ H s)
  (xQ:∀b∈ch,(b∈X.ex∨X.s₀.heap.objs.size≤b)∧b≠X.env.locals∧(∀x c,X.env.cells.lookup x=some c→c≠b)∧∀p∈X.pn++pins,p.1≠b)
  (keep:∀b o,b≠X.env.locals→b∉X.fs→b∉ch→s.heap.get? b=some o→H b=none→h'.get? b=some o)
  (slot:∀b o,b≠X.env.locals→b∈X.fs→b∉ch→s.heap.get? b=some o→H b=none→∃sl,h'.get? b=some { o with slots:=sl }) (free:∀b o,b∉ch→s.heap.get? b=some o→H b=none→H' b=none)
  (there:∀b o,b∉ch→s.heap.get? b=some o→∃o',h'.get? b=some o')
  (n9:∀b xs,H b=some (.tup xs)→H' b=some (.tup xs)) (mF:∀b o u,H b=some (.qR o u)→H' b=some (.qR o u)) (oe:∀b ps,H b=some (.Cs ps)→∃more,H' b=some (.Cs (ps++more)))
  (ns:∀m,s.heap.Ns X.env.locals m→h'.Ns X.env.locals m) (bV:jN X.prog X.w H' h') (hg:AllBare g'):
  Inv X pins σ H' { s with heap:=h',gens:=g',drawn:=d',toks:=t' }:=by
 have R8:∀b o,X.s₀.heap.get? b=some o→b≠X.env.locals:=fun b o e=>Nat.ne_of_lt (Nat.lt_of_lt_of_le (Heap.lt_size e) I.ok.above)
 have NY:∀b o,X.s₀.heap.get? b=some o→b∉X.ex→b∉ch:=fun b o e hx hb=>by
  rcases (xQ b hb).1 with z|z
  ·exact hx z
  ·exact absurd (Nat.lt_of_lt_of_le (Heap.lt_size e) z) (Nat.lt_irrefl _)
 have cellK:∀x c,X.env.cells.lookup x=some c→∀v,s.heap.IsCell c v→h'.IsCell c v:=fun x c e v ⟨o,ho,hd⟩=>by
  have uF:c∉ch:=fun z=>(xQ c z).2.2.1 x c e rfl
  by_cases hc:c∈X.fs
  ·obtain⟨sl,q⟩:=slot c o (I.Cv x c e) hc uF ho (I.fR x c e)
   exact⟨_,q,hd⟩
  ·exact⟨o,keep c o (I.Cv x c e) hc uF ho (I.fR x c e),hd⟩
 refine⟨I.ok,I.os,hg,⟨fun b o e n hb hx=>?_,fun b o e n hb hx=>?_,fun b o e n hx=>?_,fun b o e hx=>?_,fun b xs e=>n9 b xs (I.base.n9 b xs e),fun b o xs e=>mF b o xs (I.base.mF b o xs e),fun b ps e=>?_⟩,?_,fun x c e=>?_,?_,fun x c e=>?_,fun p hp=>?_,bV,I.len⟩
 ·exact keep b o (R8 b o e) hb (NY b o e hx) (I.base.keep b o e n hb hx) (I.base.free b o e n hx)
 ·obtain⟨sl,e1⟩:=I.base.slot b o e n hb hx
  obtain⟨Um,e2⟩:=slot b _ (R8 b o e) hb (NY b o e hx) e1 (I.base.free b o e n hx)
  exact⟨Um,e2⟩
 ·obtain⟨o',e1⟩:=I.base.there b o e hx
  exact free b o' (NY b o e hx) e1 (I.base.free b o e n hx)
 ·obtain⟨o',e1⟩:=I.base.there b o e hx
  exact there b o' (NY b o e hx) e1
 ·obtain⟨m1,e1⟩:=I.base.oe b ps e
  obtain⟨m2,e2⟩:=oe b _ e1
  exact⟨m1++m2,by rw[e2,Array.append_assoc]⟩
 ·obtain⟨m,hn,hl⟩:=I.loc
  refine⟨m,ns m hn,fun i x v e1 e2 e3=>?_⟩
  obtain⟨u,r,l⟩:=hl i x v e1 e2 e3
  refine⟨u,r,?_⟩
  rcases l with l| ⟨k,c,e,z⟩
  ·exact .inl l
  ·exact .inr ⟨k,c,e,cellK x c e _ z⟩
 ·obtain⟨v,z⟩:=I.cell x c e
  exact⟨v,cellK x c e v z⟩
 ·obtain⟨m,⟨o,_,_,ho,_⟩,_⟩:=I.loc
  exact free _ o (fun z=>(xQ _ z).2.1 rfl) ho I.free
 ·obtain⟨v,o,ho,hd⟩:=I.cell x c e
  exact free c o (fun z=>(xQ c z).2.2.1 x c e rfl) ho (I.fR x c e)
 ·obtain⟨e,n,ne,nf,d⟩:=I.pin p hp
  have uF:p.1∉ch:=fun z=>(xQ p.1 z).2.2.2 p hp rfl
  exact⟨keep p.1 p.2 ne nf uF e n,free p.1 p.2 uF e n,ne,nf,d⟩
theorem Inv.un{t':Nat}(I:Inv X pins σ H s)(u:Un X.fs [] H H' s.heap h')(bV:jN X.prog X.w H' h'):Inv X pins σ H' { s with heap:=h',toks:=t' }:=by
 obtain⟨m,⟨o,es,ep,ho,r⟩,_⟩:=id I.loc
 obtain⟨sl,hL⟩:=u.any ho I.free (by simp)
 exact I.step (g':=s.gens) (d':=s.drawn) (ch:=[]) (fun _ z=>nomatch z) (fun b o _ hb _ e n=>u.keep b o e n hb (by simp)) (fun b o _ hb _ e n=>u.slot b o e n hb (by simp)) (fun b o _ e n=>u.free b o e n (by simp)) (fun b o _ e=>u.there b o e (by simp)) u.n9 u.mF u.oe (fun m' hm=>by
  obtain⟨o',OW,OX,Cw,r'⟩:=hm
  rw[ho] at Cw;cases Cw
  exact⟨_,OW,OX,hL,r'⟩) bV I.bare
theorem Inv.call{g':Array GenState}{t':Nat}{d':Drawn}{ch:List Addr}(I:Inv X pins σ H s)(u:Un (uE X.stack) ch H H' s.heap h')(bV:jN X.prog X.w H' h')(hg:AllBare g')
  (xQ:∀b∈ch,(b∈X.ex∨X.s₀.heap.objs.size≤b)∧b≠X.env.locals∧(∀x c,X.env.cells.lookup x=some c→c≠b)∧∀p∈X.pn++pins,p.1≠b):
  Inv X pins σ H' { s with heap:=h',gens:=g',drawn:=d',toks:=t' }:=by
 obtain⟨m,⟨o,es,ep,ho,r⟩,_⟩:=id I.loc
 obtain⟨sl,hL⟩:=u.any ho I.free fun z=>(xQ _ z).2.1 rfl
 exact I.step (ch:=ch) xQ (fun b o hL hb hc e n=>u.keep b o e n (fun z=>(List.mem_cons.mp (I.iZ b z)).elim hL hb) hc) (fun b o _ _ hc e n=>u.any e n hc) (fun b o hc e n=>u.free b o e n hc) (fun b o hc e=>u.there b o e hc) u.n9 u.mF u.oe (fun m' hm=>by
  obtain⟨o',OW,OX,Cw,r'⟩:=hm
  rw[ho] at Cw;cases Cw
  exact⟨_,OW,OX,hL,r'⟩) bV hg
theorem Inv.turned{t':Nat}{it:Addr}(I:Inv X pins σ H s)(k:∀b o,b≠it→s.heap.get? b=some o→h'.get? b=some o)(hn:H it=none)(hL:it≠X.env.locals)
  (h1:it∈X.ex∨X.s₀.heap.objs.size≤it) (h2:∀x c,X.env.cells.lookup x=some c→c≠it) (h3:∀p∈X.pn++pins,p.1≠it):Inv X pins σ H { s with heap:=h',toks:=t' }:=by
 have R9:∀b u,H b=some u→b≠it:=fun b u e z=>by rw[z,hn] at e;cases e
 refine I.step (g':=s.gens) (d':=s.drawn) (ch:=[it]) (fun b hb=>?_) (fun b o _ _ hc e _=>k b o (fun z=>hc (by simp [z])) e) (fun b o _ _ hc e _=>⟨o.slots,k b o (fun z=>hc (by simp [z])) e⟩) (fun _ _ _ _ n=>n)
  (fun b o hc e=>⟨o,k b o (fun z=>hc (by simp [z])) e⟩) (fun _ _ e=>e) (fun _ _ _ e=>e) (fun b ps e=>⟨#[],by rw[e];simp⟩) (fun m hm=>?_) (fun b u e=>?_) I.bare
 ·have e:b=it:=by simpa using hb
  subst e
  exact⟨h1,hL,h2,h3⟩
 ·obtain⟨o,es,ep,ho,r⟩:=hm
  exact⟨o,es,ep,k _ o (Ne.symm hL) ho,r⟩
 ·refine(I.bV b u e).pQ (fun c v hc q=>k c v ?_ q) (fun _ q=>q) fun _ _ q=>q
  rcases hc with z|z
  ·rw[z];exact R9 b u e
  ·exact R9 c _ z
theorem Inv.tok(I:Inv X pins σ H s)(t:Nat):Inv X pins σ H { s with toks:=t }:=I.un (h':=s.heap) (t':=t) Un.refl I.bV
theorem Inv.kept{t':Nat}(I:Inv X pins σ H s)(k:∀b u,s.heap.get? b=some u→h'.get? b=some u):Inv X pins σ H { s with heap:=h',toks:=t' }:=I.un (Un.kept k) (I.bV.kept k)
theorem Inv.laid{a:Addr}{o:HO}{t':Nat}(I:Inv X pins σ H s)(k:∀b u,s.heap.get? b=some u→h'.get? b=some u)(hp:s.heap.objs.size≤a)(new:cR X.prog X.w (upd H a o) h' a o):
  Inv X pins σ (upd H a o) { s with heap:=h',toks:=t' }:=I.un (Un.laid k hp (I.bV.fresh hp)) (I.bV.laid k hp new)
theorem Inv.write{x e:Addr}{o:HO}{t':Nat}(I:Inv X pins σ H s)(mu:NV (H x))(he:e=x∨H e=some (.own x))(k:∀b u,b≠e→s.heap.get? b=some u→h'.get? b=some u)(FZ:∃u,h'.get? e=some u)
  (new:cR X.prog X.w (upd H x o) h' x o):Inv X pins σ (upd H x o) { s with heap:=h',toks:=t' }:=I.un (Un.write mu he k FZ) (I.bV.write mu he k FZ new)
theorem Inv.qS{A5:List (Addr×Obj)}(I:Inv X pins σ H s)(h:∀p∈A5,s.heap.get? p.1=some p.2∧H p.1=none∧p.1≠X.env.locals∧p.1∉X.fs∧∀v,p.2.data≠ .cell v):Inv X A5 σ H s:=
 ⟨I.ok,I.os,I.bare,I.base,I.loc,I.cell,I.free,I.fR,fun p hp=>(List.mem_append.mp hp).elim (fun z=>I.pin p (List.mem_append_left _ z)) (h p),I.bV,I.len⟩
theorem oi{N:List Str}(hN:N.Nodup){i j:Nat}{x:Str}(a:N[i]? =some x)(b:N[j]? =some x):i=j:=by
 obtain⟨h1,e1⟩:=List.getElem?_eq_some_iff.mp a
 obtain⟨h2,e2⟩:=List.getElem?_eq_some_iff.mp b
 exact(List.getElem_inj hN).mp (e1.trans e2.symm)
theorem i0{M:Model}{A:Around}{E:Value→Shared→Prop}{i:Nat}{x:Str}{v:V}{u:Value}{Q:Unit→Shared→Prop}(I:Inv X pins σ H s)(hN:X.N.Nodup)(hi:X.N[i]? =some x)(hx:Loc X.env.scope x)(r:RelV v u)
  (h:∀s',Inv X pins (σ.set i (some v)) H s'→(∃a,Heap.SameBut a s.heap s'.heap∧(a=X.env.locals∨X.env.cells.lookup x=some a))→Q () s') (hf:X.fn x=true∨X.env.scope.names.lookup x=some .local:=by first|exact .inl rfl|exact .inr rfl|assumption):wpAny M A (storeName X.env x u) Q E s:=by
 obtain⟨m,hn,hl⟩:=id I.loc
 have OY:(X.env.scope.kind== .class||(X.env.scope.kind== .module&&X.env.locals != X.env.globals))=false:=by rw[I.ok.kind];rfl
 have Sa:i<σ.length:=by rw[I.len];exact(List.getElem?_eq_some_iff.mp hi).1
 have Cv:=I.Cv
 have tracked:∀{a:Addr} {h':Heap},(∃o,s.heap.get? a=some o∧H a=none)→Heap.SameBut a s.heap h'→jN X.prog X.w H h':=fun {a h'} ha hs b ob e=>by
  obtain⟨_,_,A6⟩:=ha
  refine(I.bV b ob e).pQ (fun c w' hc q=>(hs.2 c ?_).trans q) (fun _ q=>q) fun _ _ q=>q
  rintro rfl
  rcases hc with rfl|hc
  ·rw[A6] at e;cases e
  ·rw[A6] at hc;cases hc
 rcases hx with hk|hk
 ·refine wpAny_storeName_local hk hn (fun h' A7 hs=>?_) OY
  obtain⟨oL,_,_,Cy,_⟩:=id hn
  refine h _ ⟨I.ok,I.os,I.bare,⟨fun b o e n hb hx=>?_,fun b o e n hb hx=>?_,I.base.free,fun b o e hx=>?_,I.base.n9,I.base.mF,I.base.oe⟩,⟨_,A7,fun j y v' e1 e2 e3=>?_⟩,fun y c e=>?_,I.free,I.fR,fun p hp=>?_,tracked ⟨oL,Cy,I.free⟩ hs,by simpa using I.len⟩ ⟨_,hs, .inl rfl⟩
  ·exact(hs.2 b (Nat.ne_of_lt (Nat.lt_of_lt_of_le (Heap.lt_size e) I.ok.above))).trans (I.base.keep b o e n hb hx)
  ·obtain⟨sl,e1⟩:=I.base.slot b o e n hb hx
   exact⟨sl,(hs.2 b (Nat.ne_of_lt (Nat.lt_of_lt_of_le (Heap.lt_size e) I.ok.above))).trans e1⟩
  ·obtain⟨o',e1⟩:=I.base.there b o e hx
   exact⟨o',(hs.2 b (Nat.ne_of_lt (Nat.lt_of_lt_of_le (Heap.lt_size e) I.ok.above))).trans e1⟩
  ·by_cases hj:j=i
   ·subst hj
    rw[hi] at e1;cases e1
    rw[List.getElem?_set_self Sa] at e2
    cases e2
    exact⟨u,r, .inl ⟨hk,by simp⟩⟩
   ·rw[List.getElem?_set_ne (Ne.symm hj)] at e2
    obtain⟨u',r',q⟩:=hl j y v' e1 e2 e3
    refine⟨u',r',?_⟩
    rcases q with ⟨k,e⟩ | ⟨k,c,e,z⟩
    ·refine .inl ⟨k,?_⟩
     have:y≠x:=fun e=>hj (oi hN e1 (e▸hi))
     simp [this,e]
    ·exact .inr ⟨k,c,e,z.sameBut hs (Cv y c e)⟩
  ·obtain⟨w',z⟩:=I.cell y c e
   exact⟨w',z.sameBut hs (Cv y c e)⟩
  ·obtain⟨e,n,ne,nf,d⟩:=I.pin p hp
   exact⟨(hs.2 p.1 ne).trans e,n,ne,nf,d⟩
 ·have OZ:X.fn x=true:=by
   rcases hf with z|z
   ·exact z
   ·rw[z] at hk;cases hk
  obtain⟨c,hc⟩:=I.ok.has x (.inl hk)
  obtain⟨w',z⟩:=I.cell x c hc
  refine wpAny_storeName_cell I.ok.kind hk hc z (fun h' lC hs=>?_)
  obtain⟨oc,Sb,O0⟩:=id z
  refine h { s with heap:=h' } ⟨I.ok,I.os,I.bare,⟨fun b o e n hb hx=>?_,fun b o e n hb hx=>?_,I.base.free,fun b o e hx=>?_,I.base.n9,I.base.mF,I.base.oe⟩,⟨m,hn.sameBut hs (Ne.symm (Cv x c hc)),fun j y v' e1 e2 e3=>?_⟩,fun y c' e=>?_,I.free,I.fR,fun p hp=>?_,tracked ⟨oc,Sb,I.fR x c hc⟩ hs,by simpa using I.len⟩ ⟨c,hs, .inr hc⟩
  ·exact(hs.2 b (Nat.ne_of_lt (Nat.lt_of_lt_of_le (Heap.lt_size e) (I.ok.Cu x c OZ hc)))).trans (I.base.keep b o e n hb hx)
  ·obtain⟨sl,e1⟩:=I.base.slot b o e n hb hx
   exact⟨sl,(hs.2 b (Nat.ne_of_lt (Nat.lt_of_lt_of_le (Heap.lt_size e) (I.ok.Cu x c OZ hc)))).trans e1⟩
  ·obtain⟨o',e1⟩:=I.base.there b o e hx
   exact⟨o',(hs.2 b (Nat.ne_of_lt (Nat.lt_of_lt_of_le (Heap.lt_size e) (I.ok.Cu x c OZ hc)))).trans e1⟩
  ·by_cases hj:j=i
   ·subst hj
    rw[hi] at e1;cases e1
    rw[List.getElem?_set_self Sa] at e2
    cases e2
    exact⟨u,r, .inr ⟨.inl hk,c,hc,lC⟩⟩
   ·rw[List.getElem?_set_ne (Ne.symm hj)] at e2
    obtain⟨u',r',q⟩:=hl j y v' e1 e2 e3
    refine⟨u',r',?_⟩
    rcases q with q| ⟨k,c',e,z'⟩
    ·exact .inl q
    ·refine .inr ⟨k,c',e,z'.sameBut hs ?_⟩
     rintro rfl
     exact hj (oi hN e1 (I.ok.inj _ _ _ e hc▸hi))
  ·by_cases Sd:c'=c
   ·subst Sd;exact⟨_,lC⟩
   ·obtain⟨w2,z2⟩:=I.cell y c' e
    exact⟨w2,z2.sameBut hs Sd⟩
  ·obtain⟨e,n,ne,nf,d⟩:=I.pin p hp
   refine⟨(hs.2 p.1 ?_).trans e,n,ne,nf,d⟩
   intro q
   rw[q,Sb] at e
   have q':oc=p.2:=Option.some.inj e
   exact d w' (by rw[←q'];exact O0)
theorem store_ok{M:Model}{A:Around}{E:Value→Shared→Prop}{i:Nat}{x:Str}{v:V}{u:Value}{Q:Unit→Shared→Prop}(I:Inv X pins σ H s)(hN:X.N.Nodup)(hi:X.N[i]? =some x)(hx:Loc X.env.scope x)(r:RelV v u)
  (h:∀s',Inv X pins (σ.set i (some v)) H s'→Q () s') (hf:X.fn x=true∨X.env.scope.names.lookup x=some .local:=by first|exact .inl rfl|exact .inr rfl|assumption):wpAny M A (storeName X.env x u) Q E s:=
 i0 I hN hi hx r (fun s' I' _=>h s' I') hf
theorem Inv.A8{s':Shared}{ch:List Addr}(I:Inv X pins σ H s)(ho:s'.os=s.os)(u:Un (uE X.stack) ch H H' s.heap s'.heap)(bV:jN X.prog X.w H' s'.heap)(hg:AllBare s'.gens)
  (xQ:∀b∈ch,(b∈X.ex∨X.s₀.heap.objs.size≤b)∧b≠X.env.locals∧(∀x c,X.env.cells.lookup x=some c→c≠b)∧∀p∈X.pn++pins,p.1≠b):Inv X pins σ H' s':=by
 obtain⟨h',g',d',t',o'⟩:=s'
 have e:o'=s.os:=ho
 subst e
 exact I.call (g':=g') (t':=t') (d':=d') u bV hg xQ
end
abbrev XK:=Value→Option Addr→Hp→Prop
abbrev St:=List (Option V)
abbrev VK:=V→Hp→Prop
abbrev TE:=St→Hp→VK→Prop
abbrev TT:=St→Hp→(Bool→Hp→Prop)→Prop
abbrev TA:=St→Hp→(List V→Hp→Prop)→Prop
structure Ends where
 nx:St→Hp→Prop
 rt:VK
 bk:St→Hp→Prop:=fun _ _=>False
 ct:St→Hp→Prop:=fun _ _=>False
abbrev TS:=Ends→St→Hp→Prop
def EP(X:Cx)(pins:List (Addr×Obj))(σ:St)(Q:VK)(u:Value)(s':Shared):Prop:=∃v H',Inv X pins σ H' s'∧RelV v u∧Q v H'
def TP(X:Cx)(pins:List (Addr×Obj))(σ:St)(Q:Bool→Hp→Prop)(b:Bool)(s':Shared):Prop:=∃H',Inv X pins σ H' s'∧Q b H'
def AP(X:Cx)(pins:List (Addr×Obj))(σ:St)(Q:List V→Hp→Prop)(us:List Value)(s':Shared):Prop:=∃vs H',Inv X pins σ H' s'∧Vals vs us∧Q vs H'
def SP(X:Cx)(pins:List (Addr×Obj))(D:Ends)(f:Flow)(s':Shared):Prop:=
 match f with
 | .next=>∃σ' H',Inv X pins σ' H' s'∧D.nx σ' H'
 | .brk=>∃σ' H',Inv X pins σ' H' s'∧D.bk σ' H'
 | .cont=>∃σ' H',Inv X pins σ' H' s'∧D.ct σ' H'
 | .ret u=>∃v σ' H',Inv X pins σ' H' s'∧RelV v u∧D.rt v H'
def PE(X:Cx)(e:Expr)(t:TE):Prop:=
 ∀(pins:List (Addr×Obj)) (s:Shared) (σ:St) (H:Hp) (Q:VK),Inv X pins σ H s→t σ H Q→wpAny (model X.prog X.w) X.A (eval e X.env) (EP X pins σ Q) X.xe s
def PT(X:Cx)(e:Expr)(t:TT):Prop:=
 ∀(pins:List (Addr×Obj)) (s:Shared) (σ:St) (H:Hp) (Q:Bool→Hp→Prop),Inv X pins σ H s→t σ H Q→wpAny (model X.prog X.w) X.A (isTrue e X.env (eval e X.env)) (TP X pins σ Q) X.xe s
def PW(X:Cx)(e:Expr)(t:TT):Prop:=
 ∀(whole:Sem Value) (pins:List (Addr×Obj)) (s:Shared) (σ:St) (H:Hp) (Q:Bool→Hp→Prop),Inv X pins σ H s→t σ H Q→wpAny (model X.prog X.w) X.A (isTrue e X.env whole) (TP X pins σ Q) X.xe s
theorem PW.pt{X:Cx}{e:Expr}{t:TT}(h:PW X e t):PT X e t:=h _
def PA(X:Cx)(es:List Expr)(t:TA):Prop:=
 ∀(pos:Pos) (pins:List (Addr×Obj)) (s:Shared) (σ:St) (H:Hp) (Q:List V→Hp→Prop),Inv X pins σ H s→t σ H Q→wpAny (model X.prog X.w) X.A (spliced (backTo pos (starEach es X.env))) (AP X pins σ Q) X.xe s
def PS(X:Cx)(st:Stmt)(t:TS):Prop:=
 ∀(pins:List (Addr×Obj)) (s:Shared) (σ:St) (H:Hp) (D:Ends),Inv X pins σ H s→t D σ H→wpAny (model X.prog X.w) X.A (exec st X.env) (SP X pins D) X.xe s
def nV(X:Cx)(st:List Stmt)(t:TS):Prop:=
 ∀(pins:List (Addr×Obj)) (s:Shared) (σ:St) (H:Hp) (D:Ends),Inv X pins σ H s→t D σ H→wpAny (model X.prog X.w) X.A (execs st X.env) (SP X pins D) X.xe s
theorem bF{α:Type}{t:Sem α}{Q Q':α→Shared→Prop}{M:Model}{A:Around}{E:Value→Shared→Prop}{s:Shared}(h:wpAny M A t Q E s)(hQ:∀a s,Q a s→Q' a s):wpAny M A t Q' E s:=wpAny_mono h hQ fun _ _ x=>x
end L2
namespace L2
open PySem PySem.Spec PyProof.Rows
section
variable {X:Cx}
inductive RV(i:Nat)(σ:St)(H:Hp)(Q:VK):Prop
 |mk (v:V) (e:σ[i]? =some (some v)) (q:Q v H)
def GA(i:Nat):TE:=fun σ H Q=>RV i σ H Q
def tC(v:V):TE:=fun _ H Q=>Q v H
theorem Cz{i:Nat}{x:Str}{pos:Pos}(hN:X.N[i]? =some x)(hv:OS X.env.scope x)(hd:(x==("__debug__" :Str))=false:=by decide)(sI:(x==("__classdict__" :Str))=false:=by decide):PE X (.Name x pos) (GA i):=by
 intro pins s σ H Q I h
 obtain⟨v,e,h⟩:=h
 obtain⟨m,hn,hl⟩:=I.loc
 obtain⟨u,r,l⟩:=hl i x v hN e hv
 have fin:EP X pins σ Q u s:=⟨v,H,I,r,h⟩
 rcases l with ⟨hk,hm⟩ | ⟨hk,c,hc,A9⟩
 ·exact wpAny_Name (wpAny_loadName_local I.ok.kind hk hn hm fin) hd
 ·rcases hk with hk|hk
  ·exact wpAny_Name (wpAny_loadName_cell I.ok.kind hk hc A9 fin) hd
  ·exact wpAny_Name (wpAny_loadName_free I.ok.kind hk hc A9 fin sI) hd
theorem ax{i j pos}:PE X (.Constant (.int i) j pos) (tC (.int i)):=fun _ _ _ H _ I h=>wpAny_Constant_int ⟨.int i,H,I.tok _,⟨_,rfl⟩,h⟩
theorem kc{b j pos}:PE X (.Constant (.bool b) j pos) (tC (.bl b)):=fun _ _ _ H _ I h=>Constant_bool ⟨.bl b,H,I,rfl,h⟩
theorem CA{j pos}:PE X (.Constant .none j pos) (tC .dG):=fun _ _ _ H _ I h=>Constant_none ⟨.dG,H,I,rfl,h⟩
theorem CB{x j pos}:PE X (.Constant (.str x) j pos) (tC (.str x)):=fun _ _ _ H _ I h=>Calls.Constant_str ⟨.str x,H,I.tok _,⟨_,rfl⟩,h⟩
def Gl(X:Cx)(x:Str):Prop:=X.env.kindOf x=some .globalImplicit
theorem mI{E:Value→Shared→Prop}{pins:List (Addr×Obj)}{s:Shared}{σ:St}{H:Hp}{x:Str}{u:Value}{pos:Pos}{Q:Value→Shared→Prop}(I:Inv X pins σ H s)(hg:Gl X x)(hm:X.mg x=some u)(h:Q u s)
  (hd:(x==("__debug__" :Str))=false:=by decide):wpAny (model X.prog X.w) X.A (eval (.Name x pos) X.env) Q E s:=
 Calls.Name_function_global I.ok.kind hg (Calls.loadGlobal_global (by rw[I.ok.glob];exact I.mod.glob.keeps I.bk) hm h) hd
theorem fk{E:Value→Shared→Prop}{pins:List (Addr×Obj)}{s:Shared}{σ:St}{H:Hp}{x:Str}{u:Value}{pos:Pos}{Q:Value→Shared→Prop}(I:Inv X pins σ H s)(hg:Gl X x)(hm:X.mg x=none)(hv:bootBuiltins x=some u)(h:Q u s)
  (hn:x≠"__name__" :=by decide) (hd:(x==("__debug__" :Str))=false:=by decide):wpAny (model X.prog X.w) X.A (eval (.Name x pos) X.env) Q E s:=by
 obtain⟨mb,h1,h2⟩:=I.mod.blt
 exact Calls.Name_function_global I.ok.kind hg (Calls.loadGlobal_builtin (by rw[I.ok.glob];exact I.mod.glob.keeps I.bk) hm (by rw[I.ok.blt];exact h1.keeps I.bk) ((h2 x hn).trans hv) h) hd
theorem jO{x:Str}{v:V}{u:Value}{pos:Pos}(hg:Gl X x)(hm:X.mg x=none)(hv:bootBuiltins x=some u)(r:RelV v u)(hn:x≠"__name__" :=by decide)(hd:(x==("__debug__" :Str))=false:=by decide):PE X (.Name x pos) (tC v):=
 fun _ _ _ H _ I h=>fk I hg hm hv ⟨v,H,I,r,h⟩ hn hd
variable {a b:Expr}{ta tb:TE}{pos:Pos}
def PC(X:Cx)(op:CmpOp)(a b:Expr)(t:TE):Prop:=
 ∀(pins:List (Addr×Obj)) (s:Shared) (σ:St) (H:Hp) (Q:VK),Inv X pins σ H s→t σ H Q→
  wpAny (model X.prog X.w) X.A (eval a X.env) (fun v s₁=>wpAny (model X.prog X.w) X.A (eval b X.env) (fun u s₂=>wpAny (model X.prog X.w) X.A (compareOp op v u) (EP X pins σ Q) X.xe s₂) X.xe s₁) X.xe s
theorem uG(b:Expr){op:CmpOp}(h:op≠ .In)(h2:op≠ .NotIn):behindInMarks op b=false:=by
 have e1:(op==CmpOp.In)=false:=by cases op<;>first|rfl|exact absurd rfl h
 have e2:(op==CmpOp.NotIn)=false:=by cases op<;>first|rfl|exact absurd rfl h2
 cases b<;>simp [behindInMarks,e1,e2]
def O1(ta:TE):TE:=fun σ H Q=>ta σ H fun x H1=>Q (.bl (decide (x= .dG))) H1
theorem RelV.uH{x:V}{v:Value}(r:RelV x v):(v==Value.none)=decide (x= .dG):=by
 cases x with
 |dG=>cases r;rfl
 |bl _=>cases r;rfl
 |int _=>obtain⟨t,rfl⟩:=r;rfl
 |str _=>obtain⟨t,rfl⟩:=r;rfl
 |sD _=>obtain⟨t,rfl⟩:=r;rfl
 |pK _=>obtain⟨t,rfl⟩:=r;rfl
 |ref _=>cases r;rfl
 |ty _=>cases r;rfl
theorem CC{j pos'}(ha:PE X a ta):PC X .Is a (.Constant .none j pos') (O1 ta):=by
 intro pins s σ H Q I h
 refine bF (ha pins s σ H _ I h) fun v s1 ⟨x,H1,I1,r1,q1⟩=>?_
 exact Constant_none (is_none_gen ⟨.bl _,H1,I1,by rw[r1.uH];rfl,q1⟩)
def tB(t:TE):TT:=fun σ H Q=>t σ H fun x H1=>∃c,x= .bl c∧Q c H1
theorem CD{op:CmpOp}{t:TE}(h:PC X op a b t)(h1:behindInMarks op b=false:=by first|exact uG _ (by decide) (by decide) |rfl):PT X (.Compare a [op] [b] pos) (tB t):=by
 intro pins s σ H Q I hw
 refine wpAny_isTrue_Compare1 (bF (h pins s σ H _ I hw) fun v s1 h1=>bF h1 fun u s2 h2=>bF h2 fun c s3 ⟨x,H1,I1,r1,q1⟩=>?_) h1
 obtain⟨d,rfl,q⟩:=q1
 cases r1
 exact wpAny_truthy_bool ⟨H1,I1,q⟩
theorem eL{e:Expr}{t:TE}(h:PE X e t)(he:∀whole,isTrue e X.env whole=(do let v←whole;standAt e.pos;holding [v] (truthy v)):=by intro _;rfl):PT X e (tB t):=by
 intro pins s σ H Q I hw
 refine isTrue_plain (bF (h pins s σ H _ I hw) fun v s1 ⟨x,H1,I1,r1,q1⟩=>?_) (he _)
 obtain⟨d,rfl,q⟩:=q1
 cases r1
 exact wpAny_truthy_bool ⟨H1,I1,q⟩
variable {tA NZ:TT}{rest:List Expr}
def O2(t u:TT):TT:=fun σ H Q=>t σ H fun c H1=>if c=true then u σ H1 Q else Q false H1
def Uo(t u:TT):TT:=fun σ H Q=>t σ H fun c H1=>if c=true then Q true H1 else u σ H1 Q
def O3(t:TT):TT:=fun σ H Q=>t σ H fun c H1=>Q (!c) H1
theorem x'(ha:PT X a tA):PW X (.BoolOp .And [a] pos) tA:=by
 intro wh pins s σ H Q I h
 refine isTrue_and (bF (ha pins s σ H Q I h) fun c s1 e=>?_)
 cases c with
 |true=>exact isTrue_and_nil e
 |false=>exact e
theorem pR(ha:PT X a tA):PW X (.BoolOp .Or [a] pos) tA:=by
 intro wh pins s σ H Q I h
 refine isTrue_or (bF (ha pins s σ H Q I h) fun c s1 e=>?_)
 cases c with
 |false=>exact isTrue_or_nil e
 |true=>exact e
theorem CF(ha:PT X a tA)(hb:PW X (.BoolOp .And (b::rest) pos) NZ):PW X (.BoolOp .And (a::b::rest) pos) (O2 tA NZ):=by
 intro wh pins s σ H Q I h
 refine isTrue_and (bF (ha pins s σ H _ I h) fun c s1 ⟨H1,I1,q1⟩=>?_)
 cases c with
 |true=>exact hb wh pins s1 σ H1 Q I1 q1
 |false=>exact⟨H1,I1,q1⟩
theorem uI(ha:PT X a tA)(hb:PW X (.BoolOp .Or (b::rest) pos) NZ):PW X (.BoolOp .Or (a::b::rest) pos) (Uo tA NZ):=by
 intro wh pins s σ H Q I h
 refine isTrue_or (bF (ha pins s σ H _ I h) fun c s1 ⟨H1,I1,q1⟩=>?_)
 cases c with
 |true=>exact⟨H1,I1,q1⟩
 |false=>exact hb wh pins s1 σ H1 Q I1 q1
theorem gZ(ha:PT X a tA):PT X (.UnaryOp .Not a pos) (O3 tA):=by
 intro pins s σ H Q I h
 exact isTrue_not (ha pins s σ H (fun c H1=>Q (!c) H1) I h)
def GB(ta tb:TE):TE:=fun σ H Q=>ta σ H fun x H1=>∃c,x= .bl c∧if c=true then tb σ H1 Q else Q (.bl false) H1
def GC(ta:TE):TE:=fun σ H Q=>ta σ H fun x H1=>∃c,x= .bl c∧Q (.bl (!c)) H1
theorem CG{op}{t:TE}(h:PE X a t):PE X (.BoolOp op [a] pos) t:=fun pins s σ H Q I hw=>BoolOp_one (h pins s σ H Q I hw)
theorem uJ(ha:PE X a ta)(hb:PE X (.BoolOp .And (b::rest) pos) tb):PE X (.BoolOp .And (a::b::rest) pos) (GB ta tb):=by
 intro pins s σ H Q I h
 refine BoolOp_and (bF (ha pins s σ H _ I h) fun v s1 ⟨x,H1,I1,r1,q1⟩=>?_)
 obtain⟨c,rfl,q1⟩:=q1
 cases r1
 refine wpAny_truthy_bool ?_
 cases c with
 |true=>exact hb pins s1 σ H1 Q I1 q1
 |false=>exact⟨.bl false,H1,I1,rfl,q1⟩
theorem CH(ha:PE X a ta):PE X (.UnaryOp .Not a pos) (GC ta):=by
 intro pins s σ H Q I h
 refine UnaryOp_ (bF (ha pins s σ H _ I h) fun v s1 ⟨x,H1,I1,r1,q1⟩=>?_)
 obtain⟨c,rfl,q1⟩:=q1
 cases r1
 exact not_of (wpAny_truthy_bool ⟨.bl (!c),H1,I1,rfl,q1⟩)
end
end L2
namespace L2
open PySem PySem.Spec PyProof.Rows
def aD(K:PySem.W.Frag)(H:Hp)(a:Addr)(xs:List V):Prop:=
 Rd H a (.lst xs)∨
  ∃(o:Obj) (its:Array Value) (n:Nat),K.lookup a=some o∧o.cls= .type "list" ∧o.dict=none∧o.data= .seq its n∧its.size≤sizeLine∧Vals xs its.toList
def kd(K:PySem.W.Frag)(H:Hp)(a:Addr)(xs:List V):Prop:=
 Rd H a (.tup xs)∨
  ∃(o:Obj) (its:Array Value) (n:Nat),K.lookup a=some o∧o.cls= .type "tuple" ∧o.data= .seq its n∧its.size≤sizeLine∧Vals xs its.toList
def O4:Value→Option V
 | .none=>some .dG
 | .bool b=>some (.bl b)
 | .int i _=>some (.int i)
 | .str x _=>some (.str x)
 | .bytes b _=>some (.sD b)
 | .float b _=>some (.pK b)
 | .ref a=>some (.ref a)
 | .type n=>some (.ty n)
 |_=>none
theorem RelV.abs{x:V}{u:Value}(r:RelV x u):O4 u=some x:=by
 cases x with
 |dG=>cases r;rfl
 |bl _=>cases r;rfl
 |int _=>obtain⟨t,rfl⟩:=r;rfl
 |str _=>obtain⟨t,rfl⟩:=r;rfl
 |sD _=>obtain⟨t,rfl⟩:=r;rfl
 |pK _=>obtain⟨t,rfl⟩:=r;rfl
 |ref _=>cases r;rfl
 |ty _=>cases r;rfl
theorem RelV.inj{x y:V}{u:Value}(r:RelV x u)(q:RelV y u):x=y:=Option.some.inj (r.abs.symm.trans q.abs)
theorem Vals.inj:∀{xs ys:List V} {us:List Value},Vals xs us→Vals ys us→xs=ys
 |_,_,_, .nil, .nil=>rfl
 |_,_,_, .cons r t, .cons r' t'=>by rw[r.inj r',Vals.inj t t']
section
variable {X:Cx}{pins:List (Addr×Obj)}{σ:St}{H:Hp}{s:Shared}{a:Addr}{xs ys:List V}
theorem aD.of{K:PySem.W.Frag}(h:H a=some (.lst xs)):aD K H a xs:= .inl (.inl h)
theorem kd.of{K:PySem.W.Frag}(h:H a=some (.tup xs)):kd K H a xs:= .inl (.inl h)
theorem Inv.list(I:Inv X pins σ H s)(h:aD X.K H a xs):∃its:List Value,Vals xs its∧PlainL s.heap a its.toArray∧xs.length≤sizeLine:=by
 rcases h with h| ⟨o,its,n,hk,hc,hd,hs,hz,r⟩
 ·obtain⟨z,its,n,r,e⟩:=h.ok I.bV
  exact⟨its,r,⟨_,n,e,rfl,rfl,rfl⟩,z⟩
 ·refine⟨its.toList,r,⟨o,n,I.ju a o hk,hc,hd,by simpa using hs⟩,?_⟩
  have e:=r.length
  simp only [Array.length_toList] at e
  omega
theorem Inv.tuple(I:Inv X pins σ H s)(h:kd X.K H a xs):∃its:List Value,Vals xs its∧IsTup s.heap a its.toArray∧xs.length≤sizeLine:=by
 rcases h with h| ⟨o,its,n,hk,hc,hs,hz,r⟩
 ·obtain⟨z,its,r,p⟩:=h.ok I.bV
  exact⟨its,r,p,z⟩
 ·refine⟨its.toList,r,⟨o,I.ju a o hk,hc,n,by simpa using hs⟩,?_⟩
  have e:=r.length
  simp only [Array.length_toList] at e
  omega
theorem Inv.iu(I:Inv X pins σ H s)(h:aD X.K H a xs)(h':aD X.K H a ys):xs=ys:=by
 obtain⟨its,r,⟨o,n,e,_,_,d⟩,_⟩:=I.list h
 obtain⟨its',r',⟨o',n',e',_,_,d'⟩,_⟩:=I.list h'
 rw[e] at e';cases e'
 rw[d] at d'
 injection d' with d1 _
 have:its=its':=by simpa using congrArg Array.toList d1
 subst this
 exact r.inj r'
end
abbrev Cx.lD(X:Cx)(E:Value→Shared→Prop):Cx:={ X with xe:=E }
abbrev Cx.ya(X:Cx):Cx:=X.lD fun _ _=>False
theorem Cx.Ok.lD{X:Cx}(ok:X.Ok)(E:Value→Shared→Prop):(X.lD E).Ok:=
 ⟨ok.mod,ok.kind,ok.glob,ok.blt,ok.above,ok.inj,ok.has,ok.Cu,ok.hd,ok.frames,ok.F1,ok.Gz,ok.bs,ok.sH,ok.og,ok.oh,ok.iq,ok.x9⟩
theorem Cx.Ok.fT{X:Cx}{E:Value→Shared→Prop}(ok:(X.lD E).Ok):X.Ok:=
 ⟨ok.mod,ok.kind,ok.glob,ok.blt,ok.above,ok.inj,ok.has,ok.Cu,ok.hd,ok.frames,ok.F1,ok.Gz,ok.bs,ok.sH,ok.og,ok.oh,ok.iq,ok.x9⟩
section
variable {X:Cx}{pins:List (Addr×Obj)}{σ:St}{H:Hp}{s:Shared}{E:Value→Shared→Prop}
theorem Inv.lD(I:Inv X pins σ H s)(E:Value→Shared→Prop):Inv (X.lD E) pins σ H s:=⟨I.ok.lD E,I.os,I.bare,I.base,I.loc,I.cell,I.free,I.fR,I.pin,I.bV,I.len⟩
theorem Inv.fT(I:Inv (X.lD E) pins σ H s):Inv X pins σ H s:=⟨I.ok.fT,I.os,I.bare,I.base,I.loc,I.cell,I.free,I.fR,I.pin,I.bV,I.len⟩
theorem SP.fT{D:Ends}{f:Flow}{s':Shared}(h:SP (X.lD E) pins D f s'):SP X pins D f s':=by
 cases f with
 |next=>obtain⟨σ',H',I,q⟩:=h;exact⟨σ',H',I.fT,q⟩
 |brk=>obtain⟨σ',H',I,q⟩:=h;exact⟨σ',H',I.fT,q⟩
 |cont=>obtain⟨σ',H',I,q⟩:=h;exact⟨σ',H',I.fT,q⟩
 |ret u=>obtain⟨v,σ',H',I,r,q⟩:=h;exact⟨v,σ',H',I.fT,r,q⟩
theorem nV.ya{st:List Stmt}{t:TS}(h:nV X.ya st t):nV X st t:=fun pins s σ H D I hw=>
 wpAny_mono (h pins s σ H D (I.lD _) hw) (fun _ _ q=>q.fT) fun _ _ z=>False.elim z
end
section
variable {X:Cx}{st:Stmt}{rest:List Stmt}{t u:TS}{e:Expr}{te:TE}{pos:Pos}
def GD:TS:=fun D σ H=>D.nx σ H
def GF(t u:TS):TS:=fun D σ H=>t { D with nx:=u D } σ H
theorem cp:nV X [] GD:=fun _ _ σ H _ I h=>wpAny_execs_nil ⟨σ,H,I,h⟩
theorem ah(h1:PS X st t)(h2:nV X rest u):nV X (st::rest) (GF t u):=by
 intro pins s σ H D I h
 refine wpAny_execs_cons (bF (h1 pins s σ H { D with nx:=u D } I h) fun f s1 q=>?_)
 cases f with
 |next=>
  obtain⟨σ',H',I',q⟩:=q
  exact h2 pins s1 σ' H' D I' q
 |ret v=>exact q
 |brk=>exact q
 |cont=>exact q
theorem aw(h1:PS X st t):nV X [st] t:=by
 intro pins s σ H D I h
 refine wpAny_execs_cons (bF (h1 pins s σ H D I h) fun f s1 q=>?_)
 cases f with
 |next=>exact wpAny_execs_nil q
 |ret v=>exact q
 |brk=>exact q
 |cont=>exact q
theorem Inv.quiet{pins:List (Addr×Obj)}{σ:St}{H:Hp}{s:Shared}(I:Inv X pins σ H s):interactive X.env=false:=by simp [interactive,I.ok.kind]
def GG(te:TE):TS:=fun D σ H=>te σ H fun _ H1=>D.nx σ H1
theorem cK(he:PE X e te)(hs:swapsWith e none pos.line X.env=pure false:=by rfl):PS X (.Expr e pos) (GG te):=by
 intro pins s σ H D I h
 exact wpAny_Expr_any (bF (he pins s σ H _ I h) fun v s1 ⟨x,H1,I1,r1,q1⟩=>⟨σ,H1,I1,q1⟩) I.quiet hs
def O5(te:TE):TS:=fun D σ H=>te σ H D.rt
theorem aU(he:PE X e te):PS X (.Return (some e) pos) (O5 te):=by
 intro pins s σ H D I h
 exact wpAny_Return_some (bF (he pins s σ H _ I h) fun v s1 ⟨x,H1,I1,r1,q1⟩=>⟨x,σ,H1,I1,r1,q1⟩)
def CI(c:TT)(t u:TS):TS:=fun D σ H=>c σ H fun b H1=>if b=true then t D σ H1 else u D σ H1
theorem eg{c:Expr}{a b:List Stmt}{tc:TT}(hc:PT X c tc)(ha:nV X a t)(hb:nV X b u):PS X (.If c a b pos) (CI tc t u):=by
 intro pins s σ H D I h
 refine wpAny_If (bF (hc pins s σ H _ I h) fun d s1 ⟨H1,I1,q1⟩=>?_)
 cases d with
 |true=>exact ha pins s1 σ H1 D I1 q1
 |false=>exact hb pins s1 σ H1 D I1 q1
end
abbrev TG:=V→St→Hp→(St→Hp→Prop)→Prop
abbrev A':=List V→St→Hp→(St→Hp→Prop)→Prop
def PG(X:Cx)(target:Expr)(t:TG):Prop:=
 ∀(pins:List (Addr×Obj)) (s:Shared) (σ:St) (H:Hp) (v:V) (u:Value) (Q:St→Hp→Prop),Inv X pins σ H s→RelV v u→t v σ H Q→
  wpAny (model X.prog X.w) X.A (assign target X.env u) (fun _ s'=>∃σ' H',Inv X pins σ' H' s'∧Q σ' H') X.xe s
def F2(X:Cx)(ts:List Expr)(t:A'):Prop:=
 ∀(pins:List (Addr×Obj)) (s:Shared) (σ:St) (H:Hp) (vs:List V) (us:List Value) (Q:St→Hp→Prop),Inv X pins σ H s→Vals vs us→t vs σ H Q→
  wpAny (model X.prog X.w) X.A (assignInOrder ((assignEach ts X.env).map (·.2)) us) (fun _ s'=>∃σ' H',Inv X pins σ' H' s'∧Q σ' H') X.xe s
abbrev uK:=V→V→V→Hp→(Hp→Prop)→Prop
def CJ(X:Cx)(t:uK):Prop:=
 ∀(pins:List (Addr×Obj)) (s:Shared) (σ:St) (H:Hp) (o i v:V) (ov iv u:Value) (Q:Hp→Prop),Inv X pins σ H s→RelV o ov→RelV i iv→RelV v u→t o i v H Q→
  wpAny (model X.prog X.w) X.A (setItem ov iv u) (fun _ s'=>∃H',Inv X pins σ H' s'∧Q H') X.xe s
abbrev N0:=V→V→Hp→VK→Prop
def Se(X:Cx)(op:Operator)(t:N0):Prop:=
 ∀(pins:List (Addr×Obj)) (s:Shared) (σ:St) (H:Hp) (x y:V) (v u:Value) (Q:VK),Inv X pins σ H s→RelV x v→RelV y u→t x y H Q→
  wpAny (model X.prog X.w) X.A (inplaceOp op v u) (EP X pins σ Q) X.xe s
section
variable {X:Cx}{pos:Pos}
def aO(i:Nat):TG:=fun v σ H Q=>Q (σ.set i (some v)) H
theorem av{i:Nat}{x:Str}(hN:X.N.Nodup)(hi:X.N[i]? =some x)(hx:Loc X.env.scope x)(hf:X.fn x=true∨X.env.scope.names.lookup x=some .local:=by first|exact .inl rfl|exact .inr rfl|assumption):PG X (.Name x pos) (aO i):=by
 intro pins s σ H v u Q I r h
 exact wpAny_assign_Name (store_ok I hN hi hx r (fun s' I'=>⟨_,H,I',h⟩) hf)
def O6:A':=fun vs σ H Q=>vs=[]∧Q σ H
def GH(t:TG)(u:A'):A':=fun vs σ H Q=>∃v r,vs=v::r∧t v σ H fun σ' H'=>u r σ' H' Q
theorem bX:F2 X [] O6:=by
 intro pins s σ H vs us Q I r h
 obtain⟨e,h⟩:=h
 subst e
 cases r
 exact assignInOrder_nil ⟨σ,H,I,h⟩
theorem aK{e:Expr}{es:List Expr}{t:TG}{u:A'}(h1:PG X e t)(h2:F2 X es u)
  (hs:(assignEach (e::es) X.env).map (·.2)=assign e X.env::(assignEach es X.env).map (·.2):=by rfl):F2 X (e::es) (GH t u):=by
 intro pins s σ H vs us Q I r h
 obtain⟨v,vr,e1,h⟩:=h
 subst e1
 cases r with
 |cons r rr=>
  rw[hs]
  refine assignInOrder_cons (bF (h1 pins s σ H _ _ _ I r h) fun _ s1 ⟨σ1,H1,I1,q1⟩=>?_)
  exact h2 pins s1 σ1 H1 _ _ Q I1 rr q1
def GI(K:PySem.W.Frag)(n:Nat)(t:A'):TG:=fun v σ H Q=>∃a xs,v= .ref a∧kd K H a xs∧xs.length=n∧t xs σ H Q
theorem ke{es:List Expr}{k:Nat}{t:A'}{n:Nat}(hc:X.calm=true)(h:F2 X es t)
  (hn:(assignEach es X.env).length=n:=by rfl) (GJ:(assignEach es X.env).findIdx? (·.1)=none:=by rfl):PG X (.Tuple es k pos) (GI X.K n t):=by
 intro pins s σ H v u Q I r hw
 obtain⟨a,xs,e1,hq,hl,hw⟩:=hw
 subst e1
 cases r
 obtain⟨its,rv,ht,hz⟩:=I.tuple hq
 refine assign_Tuple_tuple (I.ok.hd hc) ht (by simp [hn,←hl,rv.length]) GJ fun h' hx=>?_
 have I1:Inv X pins σ H { s with heap:=h' }:=I.kept (t':=s.toks) fun b o e=>hx b o (Nat.ne_of_lt (Heap.lt_size e)) e
 exact h pins _ σ H xs _ Q I1 (by simpa using rv) hw
def O7(to ti:TE)(t:uK):TG:=fun v σ H Q=>to σ H fun o H1=>ti σ H1 fun i H2=>t o i v H2 fun H3=>Q σ H3
theorem kg{o i:Expr}{to ti:TE}{t:uK}(ho:PE X o to)(hi:PE X i ti)(hs:CJ X t)
  (ha:∀v,assign (.Subscript o i pos) X.env v=(do
   let ov←holding [v] (eval o X.env)
   let iv←holding [v,ov] (eval i X.env)
   standAt pos
   holding [v,ov,iv] (setItem ov iv v)
   release [v,ov,iv] []):=by intro _;rfl):PG X (.Subscript o i pos) (O7 to ti t):=by
 intro pins s σ H v u Q I r h
 rw[ha]
 refine wpAny_bind (wpAny_holding (bF (ho pins s σ H _ I h) fun ov s1 ⟨x,H1,I1,r1,q1⟩=>?_))
 refine wpAny_bind (wpAny_holding (bF (hi pins s1 σ H1 _ I1 q1) fun iv s2 ⟨y,H2,I2,r2,q2⟩=>?_))
 refine wpAny_bind (wpAny_standAt (wpAny_bind (wpAny_holding (bF (hs pins s2 σ H2 x y v ov iv u _ I2 r1 r2 r q2) fun _ s3 ⟨H3,I3,q3⟩=>?_))))
 exact wpAny_release ⟨σ,H3,I3,q3⟩
def yb(te:TE)(g:TG):TS:=fun D σ H=>te σ H fun x H1=>g x σ H1 D.nx
theorem kh{tg e:Expr}{te:TE}{g:TG}(he:PE X e te)(hg:PG X tg g)(hs:swapsWithSole [tg] e pos.line X.env=pure false:=by rfl)(hw:swappedStores [tg] e X.env=pure none:=by rfl)
  (h1:(assignEach [tg] X.env).map (·.2)=[assign tg X.env]:=by rfl):PS X (.Assign [tg] e pos) (yb te g):=by
 intro pins s σ H D I h
 refine wpAny_Assign_stores (bF (he pins s σ H _ I h) fun v s1 ⟨x,H1,I1,r1,q1⟩=>?_) hs hw
 rw[h1]
 exact bF (hg pins s1 σ H1 x v _ I1 r1 q1) fun _ s2 q=>q
theorem aF{i:Nat}{x:Str}{e:Expr}{te:TE}{pos':Pos}(hN:X.N.Nodup)(hi:X.N[i]? =some x)(hx:Loc X.env.scope x)(he:PE X e te)(hs:swapsWith e (some (.Name x pos')) pos.line X.env=pure false:=by rfl)(hf:X.fn x=true∨X.env.scope.names.lookup x=some .local:=by first|exact .inl rfl|exact .inr rfl|assumption):
  PS X (.Assign [.Name x pos'] e pos) (yb te (aO i)):=by
 intro pins s σ H D I h
 refine wpAny_Assign_Name (bF (he pins s σ H _ I h) fun v s1 ⟨y,H1,I1,r1,q1⟩=>?_) hs
 exact store_ok I1 hN hi hx r1 (fun s2 I2=>⟨_,H1,I2,q1⟩) hf
def GK(to ti te:TE)(yc:V→V→Hp→VK→Prop)(N1:N0)(yd:uK):TS:=fun D σ H=>to σ H fun o H1=>ti σ H1 fun i H2=>yc o i H2 fun x H3=>te σ H3 fun y H4=>N1 x y H4 fun z H5=>yd o i z H5 fun H6=>D.nx σ H6
def GL(X:Cx)(t:V→V→Hp→VK→Prop):Prop:=
 ∀(pins:List (Addr×Obj)) (s:Shared) (σ:St) (H:Hp) (o i:V) (ov iv:Value) (Q:VK),Inv X pins σ H s→RelV o ov→RelV i iv→t o i H Q→
  wpAny (model X.prog X.w) X.A (getItem ov iv) (EP X pins σ Q) X.xe s
theorem ye{o i e:Expr}{to ti te:TE}{yc:V→V→Hp→VK→Prop}{N1:N0}{yd:uK}{op:Operator}{i7:Pos}(ho:PE X o to)(hi:PE X i ti)(hg:GL X yc)(he:PE X e te)(hp:Se X op N1)(hs:CJ X yd)
  (ha:∀ov iv new,augStore i ov iv new=(do holding [new,ov,iv] (setItem ov iv new);release [new,ov,iv] [];pure .next):=by intros;rfl):PS X (.AugAssign (.Subscript o i i7) op e pos) (GK to ti te yc N1 yd):=by
 intro pins s σ H D I h
 refine wpAny_AugAssign_SubscriptAny (bF (ho pins s σ H _ I h) fun ov s1 ⟨x1,H1,I1,r1,q1⟩=>?_) ha
 refine bF (hi pins s1 σ H1 _ I1 q1) fun iv s2 ⟨x2,H2,I2,r2,q2⟩=>?_
 refine bF (hg pins s2 σ H2 x1 x2 ov iv _ I2 r1 r2 q2) fun old s3 ⟨x3,H3,I3,r3,q3⟩=>?_
 refine bF (he pins s3 σ H3 _ I3 q3) fun v s4 ⟨x4,H4,I4,r4,q4⟩=>?_
 refine bF (hp pins s4 σ H4 x3 x4 old v _ I4 r3 r4 q4) fun new s5 ⟨x5,H5,I5,r5,q5⟩=>?_
 exact bF (hs pins s5 σ H5 x1 x2 x5 ov iv new _ I5 r1 r2 r5 q5) fun _ s6 ⟨H6,I6,q6⟩=>⟨σ,H6,I6,q6⟩
def Up(f:Int→Int→Int):N0:=fun x y H Q=>∃i j,x= .int i∧y= .int j∧Q (.int (f i j)) H
theorem CK:Se X .Add (Up fun i j=>i+j):=by
 intro pins s σ H x y v u Q I r1 r2 h
 obtain⟨i,j,e1,e2,q⟩:=h
 subst e1;subst e2
 obtain⟨t,rfl⟩:=r1
 obtain⟨t',rfl⟩:=r2
 exact iadd_int ⟨.int _,H,I.tok _,⟨_,rfl⟩,q⟩
end
section
variable {X:Cx}{pos:Pos}
def uL(c:TT)(tb:TS):TS:=fun D σ H=>∃W:Nat→St→Hp→Prop,(∃m,W m σ H)∧∀m σ H,W m σ H→
 c σ H fun b H1=>if b=true then∃N:St→Hp→Prop,(∀σ' H',N σ' H'→∃m',m'<m∧W m' σ' H')∧tb { D with nx:=N,ct:=N,bk:=D.nx } σ H1 else D.nx σ H1
theorem uM{c:Expr}{body:List Stmt}{tc:TT}{tb:TS}(hp:PassesOwn (model X.prog X.w) X.A X.env X.xe)(hc:PT X c tc)(hb:nV X body tb):PS X (.While c body [] pos) (uL tc tb):=by
 intro pins s σ H D I h
 obtain⟨W,⟨m0,w0⟩,turn⟩:=h
 refine wpAny_While (codeAny_whileLoop (fun n s'=>∃σ' H',Inv X pins σ' H' s'∧W n σ' H') ?_ m0 ⟨σ,H,I,w0⟩)
 rintro n s1 ⟨σ1,H1,I1,w1⟩
 refine wpAny_passesOwn hp (bF (hc pins s1 σ1 H1 _ I1 (turn n σ1 H1 w1)) fun b s2 ⟨H2,I2,q2⟩=>?_)
 cases b with
 |true=>
  obtain⟨N,hN,q2⟩:=q2
  rw[if_pos rfl]
  refine wpAny_passesOwn hp (bF (hb pins s2 σ1 H2 _ I2 q2) fun f s3 q3=>?_)
  cases f with
  |next=>
   obtain⟨σ3,H3,I3,n3⟩:=q3
   obtain⟨m',hm,w3⟩:=hN σ3 H3 n3
   exact⟨m',hm,σ3,H3,I3,w3⟩
  |cont=>
   obtain⟨σ3,H3,I3,n3⟩:=q3
   obtain⟨m',hm,w3⟩:=hN σ3 H3 n3
   exact⟨m',hm,σ3,H3,I3,w3⟩
  |brk=>exact q3
  |ret v=>exact q3
 |false=>
  rw[if_neg Bool.false_ne_true]
  exact wpAny_execs_nil ⟨σ1,H2,I2,q2⟩
end
structure It where
 go:Nat→Hp→Prop
 jP:Nat→Hp→V→Hp→Prop
 stop:Nat→Hp→Prop
def dN(X:Cx)(pins:List (Addr×Obj))(H:Hp)(b:Addr):Prop:=
 H b=none∧b≠X.env.locals∧b∉X.fs∧(b∈X.ex∨X.s₀.heap.objs.size≤b)∧(∀x c,X.env.cells.lookup x=some c→c≠b)∧∀p∈X.pn++pins,p.1≠b
theorem Inv.sJ{X:Cx}{pins:List (Addr×Obj)}{σ:St}{H H':Hp}{s:Shared}{b:Addr}(I:Inv X pins σ H s)(hb:s.heap.objs.size≤b)(hn:H' b=none):dN X pins H' b:=by
 refine⟨hn,Nat.ne_of_gt (Nat.lt_of_lt_of_le I.lt hb),I.OU hb, .inr (Nat.le_trans I.sz hb),fun x c e z=>?_,fun p hp z=>?_⟩
 ·obtain⟨v,q⟩:=I.cell x c e
  exact absurd (Nat.lt_of_lt_of_le q.lt (by rw[z];exact hb)) (Nat.lt_irrefl _)
 ·exact absurd (Nat.lt_of_lt_of_le (Heap.lt_size (I.pin p hp).1) (by rw[z];exact hb)) (Nat.lt_irrefl _)
structure Turn(P:Program)(w:World)(K:PySem.W.Frag)(tg:Expr)(J:It)(fp:List Addr)(it:Addr)(tn:Nat→Heap→Prop):Prop where
 mem:it∈fp
 obj:∀i h,tn i h→∀b∈fp,∃o,h.get? b=some o∧∀v,o.data≠ .cell v
 keep:∀i h h',tn i h→(∀b∈fp,∀o,h.get? b=some o→h'.get? b=some o)→tn i h'
 item:∀(X:Cx),X.prog=P→X.w=w→X.K=K→X.calm=true→∀(i:Nat) (pins:List (Addr×Obj)) (s:Shared) (σ:St) (H:Hp) (E:Value→Shared→Prop),Inv X pins σ H s→(∀b∈fp,dN X pins H b)→tn i s.heap→J.go i H→
  wpAny (model P w) X.A (pyNext (.ref it)) (fun r s1=>∃u,r=some u∧
   wpAny (model P w) X.A (letOwnedTupleGo tg (.ref it) u) (fun _ s2=>∃x H',Inv X pins σ H' s2∧RelV x u∧J.jP i H x H'∧tn (i+1) s2.heap∧∀b∈fp,H' b=none) E s1) E s
 done:∀(X:Cx),X.prog=P→X.w=w→X.K=K→X.calm=true→∀(i:Nat) (pins:List (Addr×Obj)) (s:Shared) (σ:St) (H:Hp) (E:Value→Shared→Prop),Inv X pins σ H s→(∀b∈fp,dN X pins H b)→tn i s.heap→J.stop i H→
  wpAny (model P w) X.A (pyNext (.ref it)) (fun r s1=>r=none∧Inv X pins σ H s1) E s
 self:∀(A:Around) (i:Nat) (s:Shared) (Q:Value→Shared→Prop) (E:Value→Shared→Prop),tn i s.heap→Q (.ref it) s→wpAny (model P w) A (pyIter (.ref it)) Q E s
abbrev TI:=St→Hp→(It→Hp→Prop)→Prop
def Sf(X:Cx)(pins:List (Addr×Obj))(σ:St)(tg:Expr)(R:It→Hp→Prop)(F3:Value)(s2:Shared):Prop:=
 ∃(it:Addr) (fp:List Addr) (tn:Nat→Heap→Prop) (J:It) (H':Hp),F3= .ref it∧Inv X pins σ H' s2∧Turn X.prog X.w X.K tg J fp it tn∧tn 0 s2.heap∧(∀b∈fp,dN X pins H' b)∧R J H'
def PI(X:Cx)(tg iter:Expr)(wi:TI):Prop:=
 ∀(pins:List (Addr×Obj)) (s:Shared) (σ:St) (H:Hp) (R:It→Hp→Prop),Inv X pins σ H s→wi σ H R→
  wpAny (model X.prog X.w) X.A (eval iter X.env) (fun v s1=>wpAny (model X.prog X.w) X.A (pyIter v) (Sf X pins σ tg R) X.xe s1) X.xe s
theorem Ba{M:Model}{A:Around}{E:Value→Shared→Prop}{s:Shared}{tg:Expr}{it:Addr}{u:Value}{o:Obj}{n:String}{vs:Array Value}{Q:Unit→Shared→Prop}(ho:s.heap.get? it=some o)(hc:o.cls= .type n)(hd:o.data= .fields vs)
  (hn:["enumerate","zip","dict_itemiterator","dict_reverseitemiterator","odict_iterator","itertools.zip_longest","itertools.pairwise"].contains n=false) (hQ:Q () s):wpAny M A (letOwnedTupleGo tg (.ref it) u) Q E s:=by
 unfold letOwnedTupleGo
 cases tg<;>first
  |exact wpAny_pure hQ
  | (cases u<;>first
    |exact wpAny_pure hQ
    | (refine wpAny_bind (wpAny_load ho ?_)
       rw[hc,hd]
       show wpAny M A (if (["enumerate","zip","dict_itemiterator","dict_reverseitemiterator","odict_iterator","itertools.zip_longest","itertools.pairwise"].contains n&&vs[0]? ==some (rawInt _))=true then _ else _) Q E s
       rw[if_neg (by intro h;rw[hn,Bool.false_and] at h;cases h)]
       exact wpAny_pure hQ))
def qT(K:PySem.W.Frag)(a:Addr):It:=
 ⟨fun i H=>∃xs x,aD K H a xs∧xs[i]? =some x,fun i H x H'=>H'=H∧∀xs,aD K H a xs→xs[i]? =some x,fun i H=>∃xs,aD K H a xs∧xs.length≤i⟩
def sL(lo:Int)(n:Nat):It:=⟨fun i _=>i<n,fun i H x H'=>H'=H∧x= .int (lo+i),fun i _=>n≤i⟩
theorem sM{P:Program}{w:World}{K:PySem.W.Frag}{tg:Expr}(a it:Addr):Turn P w K tg (qT K a) [it] it (fun i h=>h.IsListIter it a i) where
 mem:=by simp
 obj:=fun i h st b hb=>by
  have e:b=it:=by simpa using hb
  subst e
  obtain⟨o,e,c,d⟩:=st
  exact⟨o,e,fun v z=>by rw[d] at z;cases z⟩
 keep:=fun i h h' st k=>st.at fun o e=>k it (by simp) o e
 item:=by
  intro X hP hw hK hc i pins s σ H E I hf st hg
  subst hP hw hK
  obtain⟨xs,x,hq,hx⟩:=hg
  obtain⟨its,rv,p,hz⟩:=I.list hq
  obtain⟨u,hu,ru⟩:=rv.get hx
  obtain⟨f0,f1,f2,f3,f4,f5⟩:=hf it (by simp)
  refine wpAny_pyNext_list_item st p.isList (x:=u) (by simpa using hu) fun h' aZ sb=>?_
  have I1:Inv X pins σ H { s with heap:=h' }:=I.turned (t':=s.toks) (fun b o hb e=>(sb.2 b hb).trans e) f0 f1 f3 f4 f5
  obtain⟨o,e,c,d⟩:=id aZ
  exact⟨u,rfl,Ba (s:={ s with heap:=h' }) e c d (by decide) ⟨x,H,I1,ru,⟨rfl,fun ys hy=>by rw[I.iu hy hq];exact hx⟩,aZ,fun b hb=>(hf b hb).1⟩⟩
 done:=by
  intro X hP hw hK hc i pins s σ H E I hf st hg
  subst hP hw hK
  obtain⟨xs,hq,hx⟩:=hg
  obtain⟨its,rv,p,hz⟩:=I.list hq
  obtain⟨f0,f1,f2,f3,f4,f5⟩:=hf it (by simp)
  have hl:=rv.length
  exact wpAny_pyNext_list_end (I.ok.hd hc) st p.isList (by simp;omega) fun h' eb=>⟨rfl,I.turned (t':=s.toks) (fun b o hb e=>eb b o hb e) f0 f1 f3 f4 f5⟩
 self:=fun _ _ _ _ _ st h=>wpAny_pyIter_listiter st h
theorem pS{P:Program}{w:World}{K:PySem.W.Frag}{tg:Expr}(it:Addr)(lo:Int)(n:Nat):Turn P w K tg (sL lo n) [it] it (fun i h=>IsRangeIter h it (lo+(i:Nat)*1) ((n:Int) - (i:Nat)) 1) where
 mem:=by simp
 obj:=fun i h st b hb=>by
  have e:b=it:=by simpa using hb
  subst e
  exact⟨_,st,fun v z=>by
   have z':Data.fields _=Data.cell v:=z
   cases z'⟩
 keep:=fun i h h' st k=>k it (by simp) _ st
 item:=by
  intro X hP hw hK hc i pins s σ H E I hf st hg
  subst hP hw hK
  obtain⟨f0,f1,f2,f3,f4,f5⟩:=hf it (by simp)
  have W:=Walks.range (prog:=X.prog) (w:=X.w) (I.ok.hd hc) it lo 1 n
  refine W.item i s _ _ hg st fun v h' tk hv aZ kk=>?_
  obtain⟨t,rfl⟩:=hv
  have I1:Inv X pins σ H { s with heap:=h',toks:=tk }:=I.turned (fun b o hb e=>kk b o (by simpa using hb) e) f0 f1 f3 f4 f5
  refine⟨_,rfl,Ba (s:={ s with heap:=h',toks:=tk }) (n:="range_iterator") aZ rfl rfl (by decide) ⟨.int (lo+i),H,I1,⟨t,?_⟩,⟨rfl,rfl⟩,aZ,fun b hb=>(hf b hb).1⟩⟩
  rw[Int.mul_one]
 done:=by
  intro X hP hw hK hc i pins s σ H E I hf st hg
  subst hP hw hK
  obtain⟨f0,f1,f2,f3,f4,f5⟩:=hf it (by simp)
  exact wpAny_pyNext_range_end (I.ok.hd hc) st (by have:n≤i:=hg;omega) fun h' eb=>⟨rfl,I.turned (t':=s.toks) (fun b o hb e=>eb b o hb e) f0 f1 f3 f4 f5⟩
 self:=fun _ _ _ _ _ st h=>wpAny_pyIter_rangeiter st h
end L2
namespace L2
open PySem PySem.Spec PyProof.Rows
section
variable {X:Cx}{tg:Expr}
def Bb(K:PySem.W.Frag)(tl:TE):TI:=fun σ H R=>tl σ H fun x H1=>∃a,x= .ref a∧(∃xs,aD K H1 a xs)∧R (qT K a) H1
theorem a9{l:Expr}{tl:TE}(hl:PE X l tl):PI X tg l (Bb X.K tl):=by
 intro pins s σ H R I h
 refine bF (hl pins s σ H _ I h) fun v s1 ⟨x,H1,I1,r1,q1⟩=>?_
 obtain⟨a,e,⟨xs,hq⟩,q⟩:=q1
 subst e
 cases r1
 obtain⟨its,rv,p,hz⟩:=I1.list hq
 refine wpAny_pyIter_list p.isList ?_
 refine⟨s1.heap.objs.size,[s1.heap.objs.size],_,_,H1,rfl,I1.kept (t':=s1.toks) fun b o e=>Heap.get?_push_of_some _ e,sM a _,⟨_,Heap.get?_push_size _ rfl,rfl,rfl⟩,fun b hb=>?_,q⟩
 have e:b=s1.heap.objs.size:=by simpa using hb
 subst e
 exact I1.sJ (Nat.le_refl _) (I1.bV.fresh (Nat.le_refl _))
theorem oj{pins:List (Addr×Obj)}{σ:St}{H:Hp}{s:Shared}{R:It→Hp→Prop}{E:Value→Shared→Prop}{lo hi:Int}{t u v:Tok}{tk:Nat}(I:Inv X pins σ H s)(h1: -(2^62)≤lo)(h2:lo<2^62)(h3: -(2^62)≤hi)(h4:hi<2^62)
  (q:R (sL lo (hi - lo).toNat) H):wpAny (model X.prog X.w) X.A (pyIter (.ref s.heap.objs.size)) (Sf X pins σ tg R) E { s with heap:=s.heap.push { cls:= .type "range",data:= .fields #[.int lo t, .int hi u, .int 1 v] },toks:=tk }:=by
 refine wpAny_pyIter_range (IsRange.new ..) (small_one h1 h2 h3 h4) ?_
 have I1:Inv X pins σ H { s with heap:=s.heap.push { cls:= .type "range",data:= .fields #[.int lo t, .int hi u, .int 1 v] },toks:=tk }:=I.kept fun b o e=>Heap.get?_push_of_some _ e
 refine⟨(s.heap.push { cls:= .type "range",data:= .fields #[.int lo t, .int hi u, .int 1 v] }).objs.size,[(s.heap.push { cls:= .type "range",data:= .fields #[.int lo t, .int hi u, .int 1 v] }).objs.size],_,_,H,rfl,
  I1.kept (t':=tk) fun b o e=>Heap.get?_push_of_some _ e,pS _ lo (hi - lo).toNat,?_,fun b hb=>?_,q⟩
 ·have e1:lo+((0 :Nat):Int)*1=lo:=by simp
  have e2:(((hi - lo).toNat:Nat):Int) - ((0 :Nat):Int)=Builtin.Range.rangeSize lo hi 1:=by rw[rangeSize_one];split<;>omega
  show IsRangeIter _ _ (lo+((0 :Nat):Int)*1) ((((hi - lo).toNat:Nat):Int) - ((0 :Nat):Int)) 1
  rw[e1,e2]
  exact Heap.get?_push_size _ rfl
 ·have e:b=(s.heap.push { cls:= .type "range",data:= .fields #[.int lo t, .int hi u, .int 1 v] }).objs.size:=by simpa using hb
  subst e
  exact I1.sJ (Nat.le_refl _) (I1.bV.fresh (Nat.le_refl _))
def GN(ta:TA):TI:=fun σ H R=>ta σ H fun vs H1=>∃j:Int,vs=[.int j]∧ -(2^62)≤j∧j<2^62∧R (sL 0 j.toNat) H1
def GO(ta:TA):TI:=fun σ H R=>ta σ H fun vs H1=>∃i j:Int,vs=[.int i, .int j]∧(-(2^62)≤i∧i<2^62∧ -(2^62)≤j∧j<2^62)∧R (sL i (j - i).toNat) H1
theorem bQ{a:Expr}{ta:TA}{p pos:Pos}(hg:Gl X "range")(hm:X.mg "range" =none)(ha:PA X [a] ta)(hs:starEach [a] X.env=[(false,eval a X.env)]:=by rfl):PI X tg (.Call (.Name "range" p) [a] [] pos) (GN ta):=by
 intro pins s σ H R I h
 refine Call_ (fk I hg hm boot_range (PyProof.Rows.callWith_type1 (bF (ha pos pins s σ H _ I h) fun us s1 ⟨vs,H1,I1,r1,q1⟩=>?_) hs rfl))
 obtain⟨j,e,q1,q2,q⟩:=q1
 subst e
 cases r1 with
 |cons r rr=>
  cases rr
  obtain⟨t,rfl⟩:=r
  exact call_range_1 (oj I1 (by omega) (by omega) q1 q2 (by simpa using q))
theorem sN{a b:Expr}{ta:TA}{p pos:Pos}(hg:Gl X "range")(hm:X.mg "range" =none)(ha:PA X [a,b] ta)(hs:starEach [a,b] X.env=[(false,eval a X.env),(false,eval b X.env)]:=by rfl)(ki:starEach [b] X.env=[(false,eval b X.env)]:=by rfl):
  PI X tg (.Call (.Name "range" p) [a,b] [] pos) (GO ta):=by
 intro pins s σ H R I h
 refine Call_ (fk I hg hm boot_range (PyProof.Rows.callWith_type1 (bF (ha pos pins s σ H _ I h) fun us s1 ⟨vs,H1,I1,r1,q1⟩=>?_) (by rw[hs,ki]) (by rw[ki];rfl)))
 obtain⟨i,j,e,⟨q1,q2,q3,q4⟩,q⟩:=q1
 subst e
 cases r1 with
 |cons r rr=>
  cases rr with
  |cons r' rr=>
   cases rr
   obtain⟨t,rfl⟩:=r
   obtain⟨t',rfl⟩:=r'
   exact call_range_2 (oj I1 q1 q2 q3 q4 q)
def O8(wi:TI)(g:TG)(tb:TS):TS:=fun D σ H=>wi σ H fun J H1=>∃W:Nat→Nat→St→Hp→Prop,(∃m,W 0 m σ H1)∧∀i m σ H,W i m σ H→
 (J.stop i H∧D.nx σ H)∨(J.go i H∧∃N:St→Hp→Prop,(∀σ' H',N σ' H'→∃m',m'<m∧W (i+1) m' σ' H')∧∀x H',J.jP i H x H'→g x σ H' fun σ2 H2=>tb { D with nx:=N,ct:=N,bk:=D.nx } σ2 H2)
def i8(fp:List Addr)(h:Heap):List (Addr×Obj):=fp.filterMap fun b=>(h.get? b).map fun o=>(b,o)
theorem dh{fp:List Addr}{h:Heap}{b:Addr}{o:Obj}(hb:b∈fp)(e:h.get? b=some o):(b,o)∈i8 fp h:=List.mem_filterMap.mpr ⟨b,hb,by rw[e];rfl⟩
theorem sO{fp:List Addr}{h:Heap}{p:Addr×Obj}(hp:p∈i8 fp h):p.1∈fp∧h.get? p.1=some p.2:=by
 obtain⟨b,hb,e⟩:=List.mem_filterMap.mp hp
 cases q:h.get? b with
 |none=>rw[q] at e;cases e
 |some o=>
  rw[q] at e
  have e':(b,o)=p:=Option.some.inj e
  subst e'
  exact⟨hb,q⟩
theorem Inv.pinned{pins:List (Addr×Obj)}{σ:St}{H:Hp}{s:Shared}{fp:List Addr}(I:Inv X pins σ H s)(hf:∀b∈fp,dN X pins H b)(ho:∀b∈fp,∃o,s.heap.get? b=some o∧∀v,o.data≠ .cell v):Inv X (pins++i8 fp s.heap) σ H s:=
 I.qS fun p hp=>(List.mem_append.mp hp).elim (fun z=>I.pin p (List.mem_append_right _ z)) fun z=>by
   obtain⟨hb,e⟩:=sO z
   obtain⟨f0,f1,f2,_⟩:=hf p.1 hb
   obtain⟨o,e',d⟩:=ho p.1 hb
   rw[e] at e';cases e'
   exact⟨e,f0,f1,f2,d⟩
theorem Inv.fU{pins pl:List (Addr×Obj)}{σ:St}{H:Hp}{s:Shared}(I:Inv X (pins++pl) σ H s):Inv X pins σ H s:=I.qS fun p hp=>I.pin p (List.mem_append_right _ (List.mem_append_left _ hp))
theorem b5{iter:Expr}{body:List Stmt}{wi:TI}{g:TG}{tb:TS}{pos:Pos}(hp:PassesOwn (model X.prog X.w) X.A X.env X.xe)(hc:X.calm=true)(hi:PI X tg iter wi)(hg:PG X tg g)(hb:nV X body tb)
  (hs:∀x,foldedSetIterable iter X.env x=pure x:=by intro _;rfl):PS X (.For tg iter body [] pos) (O8 wi g tb):=by
 intro pins s σ H D I h
 refine wpAny_For (bF (hi pins s σ H _ I h) fun v s1 h1=>bF h1 fun F3 s2 h2=>?_) hs
 obtain⟨it,fp,tn,J,H2,e,I2,T,fN,f2,W,⟨m0,w0⟩,turn⟩:=h2
 subst e
 have kj:∀{H':Hp},(∀b∈fp,H' b=none)→∀b∈fp,dN X pins H' b:=fun hn b hb=>⟨hn b hb,(f2 b hb).2⟩
 refine codeAny_forLoop_any (fun n s'=>∃i σ' H',Inv X pins σ' H' s'∧tn i s'.heap∧(∀b∈fp,H' b=none)∧W i n σ' H') ?_ m0 ⟨0,σ,H2,I2,fN,fun b hb=>(f2 b hb).1,w0⟩
 rintro n s3 ⟨i,σ3,H3,I3,uN,Sg,w3⟩
 rcases turn i n σ3 H3 w3 with ⟨stop,qn⟩ | ⟨go,N,hN,step⟩
 ·refine wpAny_passesOwn hp (bF (T.done X rfl rfl rfl hc i pins s3 σ3 H3 X.xe I3 (kj Sg) uN stop) fun r s4 ⟨hr,I4⟩=>?_)
  subst hr
  exact wpAny_execs_nil ⟨σ3,H3,I4,qn⟩
 ·refine wpAny_passesOwn hp (bF (T.item X rfl rfl rfl hc i pins s3 σ3 H3 X.xe I3 (kj Sg) uN go) fun r s4 ⟨u,hr,h4⟩=>?_)
  subst hr
  refine wpAny_passesOwn hp (bF h4 fun _ s5 ⟨x,H5,I5,r5,y5,O9,Uq⟩=>?_)
  have Ur:=I5.pinned (kj Uq) (T.obj _ _ O9)
  refine wpAny_passesOwn hp (bF (hg _ s5 σ3 H5 x u _ Ur r5 (step x H5 y5)) fun _ s6 ⟨σ6,H6,I6,q6⟩=>?_)
  refine wpAny_passesOwn hp (bF (hb _ s6 σ6 H6 _ I6 q6) fun f s7 q7=>?_)
  have again:∀{σ7:St} {H7:Hp},Inv X (pins++i8 fp s5.heap) σ7 H7 s7→N σ7 H7→∃m,m<n∧∃i σ' H',Inv X pins σ' H' s7∧tn i s7.heap∧(∀b∈fp,H' b=none)∧W i m σ' H':=fun {σ7 H7} I7 n7=>by
   obtain⟨m',hm,w7⟩:=hN σ7 H7 n7
   refine⟨m',hm,i+1,σ7,H7,I7.fU,T.keep _ _ _ O9 fun b hb o e=>(I7.pin (b,o) (List.mem_append_right _ (List.mem_append_right _ (dh hb e)))).1,fun b hb=>?_,w7⟩
   obtain⟨o,e,d⟩:=T.obj _ _ O9 b hb
   exact(I7.pin (b,o) (List.mem_append_right _ (List.mem_append_right _ (dh hb e)))).2.1
  cases f with
  |next=>obtain⟨σ7,H7,I7,n7⟩:=q7;exact again I7 n7
  |cont=>obtain⟨σ7,H7,I7,n7⟩:=q7;exact again I7 n7
  |brk=>obtain⟨σ7,H7,I7,q7⟩:=q7;exact⟨σ7,H7,I7.fU,q7⟩
  |ret v=>obtain⟨x7,σ7,H7,I7,r7,q7⟩:=q7;exact⟨x7,σ7,H7,I7.fU,r7,q7⟩
end
theorem dY{K:PySem.W.Frag}{a:Addr}{xs:List V}{g:TG}{tb:TS}{D:Ends}{σ:St}{H:Hp}(Pv:Nat→St→Hp→Prop)(h0:Pv 0 σ H)(hl:∀i σ H,i≤xs.length→Pv i σ H→aD K H a xs)
  (hs:∀i x σ H,xs[i]? =some x→Pv i σ H→g x σ H fun σ2 H2=>tb { D with nx:=Pv (i+1),ct:=Pv (i+1),bk:=D.nx } σ2 H2) (hd:∀σ H,Pv xs.length σ H→D.nx σ H):
  ∃W:Nat→Nat→St→Hp→Prop,(∃m,W 0 m σ H)∧∀i m σ H,W i m σ H→
   ((qT K a).stop i H∧D.nx σ H)∨((qT K a).go i H∧∃N:St→Hp→Prop,(∀σ' H',N σ' H'→∃m',m'<m∧W (i+1) m' σ' H')∧∀x H',(qT K a).jP i H x H'→g x σ H' fun σ2 H2=>tb { D with nx:=N,ct:=N,bk:=D.nx } σ2 H2):=by
 refine⟨fun i m σ H=>m=xs.length - i∧i≤xs.length∧Pv i σ H,⟨xs.length,by simp,Nat.zero_le _,h0⟩,?_⟩
 rintro i m σ H ⟨rfl,hi,p⟩
 have q:=hl i σ H hi p
 by_cases jQ:i<xs.length
 ·refine .inr ⟨⟨xs,xs[i],q,by simp [jQ]⟩,Pv (i+1),fun σ' H' p'=>⟨xs.length - (i+1),by omega,rfl,jQ,p'⟩,fun x H' y=>?_⟩
  obtain⟨e,y⟩:=y
  subst e
  exact hs i x σ _ (y xs q) p
 ·have e:i=xs.length:=by omega
  subst e
  exact .inl ⟨⟨xs,q,Nat.le_refl _⟩,hd σ H p⟩
theorem cS{lo:Int}{n:Nat}{g:TG}{tb:TS}{D:Ends}{σ:St}{H:Hp}(Pv:Nat→St→Hp→Prop)(h0:Pv 0 σ H)
  (hs:∀i σ H,i<n→Pv i σ H→g (.int (lo+i)) σ H fun σ2 H2=>tb { D with nx:=Pv (i+1),ct:=Pv (i+1),bk:=D.nx } σ2 H2) (hd:∀σ H,Pv n σ H→D.nx σ H):
  ∃W:Nat→Nat→St→Hp→Prop,(∃m,W 0 m σ H)∧∀i m σ H,W i m σ H→
   ((sL lo n).stop i H∧D.nx σ H)∨((sL lo n).go i H∧∃N:St→Hp→Prop,(∀σ' H',N σ' H'→∃m',m'<m∧W (i+1) m' σ' H')∧∀x H',(sL lo n).jP i H x H'→g x σ H' fun σ2 H2=>tb { D with nx:=N,ct:=N,bk:=D.nx } σ2 H2):=by
 refine⟨fun i m σ H=>m=n - i∧i≤n∧Pv i σ H,⟨n,by simp,Nat.zero_le _,h0⟩,?_⟩
 rintro i m σ H ⟨rfl,hi,p⟩
 by_cases jQ:i<n
 ·refine .inr ⟨jQ,Pv (i+1),fun σ' H' p'=>⟨n - (i+1),by omega,rfl,jQ,p'⟩,fun x H' y=>?_⟩
  obtain⟨e,y⟩:=y
  subst e y
  exact hs i σ _ jQ p
 ·have e:i=n:=by omega
  subst e
  exact .inl ⟨Nat.le_refl _,hd σ H p⟩
theorem uO{c:TT}{tb:TS}{D:Ends}{σ:St}{H:Hp}(Pv:St→Hp→Prop)(μ:St→Hp→Nat)(h0:Pv σ H)
  (hs:∀σ H,Pv σ H→c σ H fun b H1=>if b=true then tb { D with nx:=fun σ' H'=>Pv σ' H'∧μ σ' H'<μ σ H,ct:=fun σ' H'=>Pv σ' H'∧μ σ' H'<μ σ H,bk:=D.nx } σ H1 else D.nx σ H1)
  (mono:∀σ H Q Q',(∀b H1,Q b H1→Q' b H1)→c σ H Q→c σ H Q'):uL c tb D σ H:=by
 refine⟨fun m σ H=>m=μ σ H∧Pv σ H,⟨_,rfl,h0⟩,?_⟩
 rintro m σ H ⟨rfl,p⟩
 refine mono σ H _ _ (fun b H1 q=>?_) (hs σ H p)
 cases b with
 |true=>exact⟨_,fun σ' H' ⟨p',l⟩=>⟨_,l,rfl,p'⟩,q⟩
 |false=>exact q
end L2
namespace L2
open PySem PySem.Spec PyProof.Rows
abbrev R2:=V→V→Hp→VK→Prop
def jH(X:Cx)(f:Value→Value→Sem Value)(r:R2):Prop:=
 ∀(pins:List (Addr×Obj)) (s:Shared) (σ:St) (H:Hp) (x y:V) (v u:Value) (Q:VK),Inv X pins σ H s→RelV x v→RelV y u→r x y H Q→
  wpAny (model X.prog X.w) X.A (f v u) (EP X pins σ Q) X.xe s
def Pa(X:Cx)(f:Value→Sem Value)(r:V→Hp→VK→Prop):Prop:=
 ∀(pins:List (Addr×Obj)) (s:Shared) (σ:St) (H:Hp) (x:V) (v:Value) (Q:VK),Inv X pins σ H s→RelV x v→r x H Q→
  wpAny (model X.prog X.w) X.A (f v) (EP X pins σ Q) X.xe s
def eh(X:Cx)(f:Value)(r:List V→Hp→VK→Prop):Prop:=
 ∀(pins:List (Addr×Obj)) (s:Shared) (σ:St) (H:Hp) (xs:List V) (us:List Value) (Q:VK),Inv X pins σ H s→Vals xs us→r xs H Q→
  wpAny (model X.prog X.w) X.A (call f us) (EP X pins σ Q) X.xe s
def N3(r:R2)(ta tb:TE):TE:=fun σ H Q=>ta σ H fun x H1=>tb σ H1 fun y H2=>r x y H2 Q
def Us(r:V→Hp→VK→Prop)(ta:TE):TE:=fun σ H Q=>ta σ H fun x H1=>r x H1 Q
inductive RI(C:Int→Int→Prop)(g:Int→Int→V)(x y:V)(H:Hp)(Q:VK):Prop
 |mk (i j:Int) (e:x= .int i) (f:y= .int j) (c:C i j) (q:Q (g i j) H)
def rI(C:Int→Int→Prop)(g:Int→Int→V):R2:=RI C g
inductive RJ(g:Int→Int→V)(x y:V)(H:Hp)(Q:VK):Prop
 |mk (i j:Int) (e:x= .int i) (f:y= .int j) (q:Q (g i j) H)
def CL(g:Int→Int→V):R2:=RJ g
def rU(g:Int→V):V→Hp→VK→Prop:=fun x H Q=>∃i,x= .int i∧Q (g i) H
section
variable {X:Cx}{a b c:Expr}{ta tb tc:TE}{pos:Pos}
theorem CM(ha:PE X a ta)(hb:PE X b tb){pins:List (Addr×Obj)}{s:Shared}{σ:St}{H:Hp}{R:V→V→Hp→Prop}(I:Inv X pins σ H s)
  (h:ta σ H fun x H1=>tb σ H1 fun y H2=>R x y H2) {Q:Value→Shared→Prop} {f:Value→Value→Sem Value}
  (hf:∀v u s2 x y H2,Inv X pins σ H2 s2→RelV x v→RelV y u→R x y H2→wpAny (model X.prog X.w) X.A (f v u) Q X.xe s2):
  wpAny (model X.prog X.w) X.A (eval a X.env) (fun v s₁=>wpAny (model X.prog X.w) X.A (eval b X.env) (fun u s₂=>wpAny (model X.prog X.w) X.A (f v u) Q X.xe s₂) X.xe s₁) X.xe s:=by
 refine bF (ha pins s σ H _ I h) fun v s1 ⟨x,H1,I1,r1,q1⟩=>?_
 refine bF (hb pins s1 σ H1 _ I1 q1) fun u s2 ⟨y,H2,I2,r2,q2⟩=>?_
 exact hf v u s2 x y H2 I2 r1 r2 q2
theorem aH{op:Operator}{r:R2}(ho:jH X (binaryOp op) r)(ha:PE X a ta)(hb:PE X b tb):PE X (.BinOp a op b pos) (N3 r ta tb):=by
 intro pins s σ H Q I h
 exact wpAny_BinOp (CM ha hb I h fun v u s2 x y H2 I2 rx ry q=>ho pins s2 σ H2 x y v u Q I2 rx ry q)
theorem uP{op:UnaryOp}{r:V→Hp→VK→Prop}(ho:Pa X (unaryOp op) r)(ha:PE X a ta):PE X (.UnaryOp op a pos) (Us r ta):=by
 intro pins s σ H Q I h
 exact UnaryOp_ (bF (ha pins s σ H _ I h) fun v s1 ⟨x,H1,I1,r1,q1⟩=>ho pins s1 σ H1 x v Q I1 r1 q1)
theorem Bc{f:Value→Value→Sem Value}{C:Int→Int→Prop}{g:Int→Int→Int}
  (rule:∀(i j:Int) (t u:Tok) (s:Shared) (Q:Value→Shared→Prop) (E:Value→Shared→Prop),C i j→Q (.int (g i j) s.toks) { s with toks:=s.toks+1 }→wpAny (model X.prog X.w) X.A (f (.int i t) (.int j u)) Q E s):
  jH X f (rI C fun i j=> .int (g i j)):=by
 intro pins s σ H x y v u Q I rx ry h
 obtain⟨i,j,rfl,rfl,hc,q⟩:=h
 obtain⟨t,rfl⟩:=rx
 obtain⟨t',rfl⟩:=ry
 exact rule i j t t' s _ _ hc ⟨.int (g i j),H,I.tok _,⟨_,rfl⟩,q⟩
theorem GP{f:Value→Value→Sem Value}{g:Int→Int→Int}
  (rule:∀(i j:Int) (t u:Tok) (s:Shared) (Q:Value→Shared→Prop) (E:Value→Shared→Prop),Q (.int (g i j) s.toks) { s with toks:=s.toks+1 }→wpAny (model X.prog X.w) X.A (f (.int i t) (.int j u)) Q E s):
  jH X f (CL fun i j=> .int (g i j)):=by
 intro pins s σ H x y v u Q I rx ry h
 obtain⟨i,j,rfl,rfl,q⟩:=h
 obtain⟨t,rfl⟩:=rx
 obtain⟨t',rfl⟩:=ry
 exact rule i j t t' s _ _ ⟨.int (g i j),H,I.tok _,⟨_,rfl⟩,q⟩
theorem CN{f:Value→Value→Sem Value}{g:Int→Int→Bool}
  (rule:∀(i j:Int) (t u:Tok) (s:Shared) (Q:Value→Shared→Prop) (E:Value→Shared→Prop),Q (.bool (g i j)) s→wpAny (model X.prog X.w) X.A (f (.int i t) (.int j u)) Q E s):
  jH X f (CL fun i j=> .bl (g i j)):=by
 intro pins s σ H x y v u Q I rx ry h
 obtain⟨i,j,rfl,rfl,q⟩:=h
 obtain⟨t,rfl⟩:=rx
 obtain⟨t',rfl⟩:=ry
 exact rule i j t t' s _ _ ⟨.bl (g i j),H,I,rfl,q⟩
def Pb(i j:Int):Prop:=0<j∧j<1073741824
def Pc(i j:Int):Prop:=0≤j∧j≤1000000∧i.natAbs<2^64
def yf(i j:Int):Prop:=(-(2^64) <i∧i<2^64)∨(-(2^64) <j∧j<2^64)
theorem yf.ok{i j:Int}(h:yf i j):IntMulOk i j:=by
 rcases h with ⟨h1,h2⟩ | ⟨h1,h2⟩
 ·exact .of_left (intBits_le_64 h1 h2)
 ·exact .of_right (intBits_le_64 h1 h2)
theorem dH:jH X (binaryOp .Add) (CL fun i j=> .int (i+j)):=GP fun _ _ _ _ _ _ _ q=>add_int q
theorem fV:jH X (binaryOp .Sub) (CL fun i j=> .int (i - j)):=GP fun _ _ _ _ _ _ _ q=>sub_int q
theorem i9:jH X (binaryOp .Mult) (rI yf fun i j=> .int (i*j)):=Bc fun _ _ _ _ _ _ _ hc q=>mul_int q hc.ok
theorem qU:jH X (binaryOp .FloorDiv) (rI Pb fun i j=> .int (i/j)):=Bc fun i j _ _ _ _ _ hc q=>by
 have h1:(0 :Int) <j:=hc.1
 have h2:j<1073741824:=hc.2
 exact floordiv_int (by omega) (by rw[Int.fdiv_eq_ediv_of_nonneg i (by omega)];exact q) (.inl (PyProof.noPylong_small (by omega)))
theorem di:jH X (binaryOp .Mod) (rI (fun _ j=>0<j) fun i j=> .int (i%j)):=Bc fun i j _ _ _ _ _ hc q=>by
 have h1:(0 :Int) <j:=hc
 exact mod_int' (by omega) (by rw[Int.fmod_eq_emod_of_nonneg i (by omega)];exact q)
theorem yg:jH X (binaryOp .Mod) (rI (fun _ j=>j≠0) fun i j=> .int (i.fmod j)):=Bc fun _ _ _ _ _ _ _ hc q=>mod_int' hc q
theorem uQ:jH X (binaryOp .Pow) (rI Pc fun i j=> .int (i^j.toNat)):=Bc fun _ _ _ _ _ _ _ hc q=>pow_int_small hc.1 hc.2.1 hc.2.2 q
theorem Ut{f:Value→Sem Value}{g:Int→Int}
  (rule:∀(i:Int) (t:Tok) (s:Shared) (Q:Value→Shared→Prop) (E:Value→Shared→Prop),Q (.int (g i) s.toks) { s with toks:=s.toks+1 }→wpAny (model X.prog X.w) X.A (f (.int i t)) Q E s):
  Pa X f (rU fun i=> .int (g i)):=by
 intro pins s σ H x v Q I rx h
 obtain⟨i,rfl,q⟩:=h
 obtain⟨t,rfl⟩:=rx
 exact rule i t s _ _ ⟨.int (g i),H,I.tok _,⟨_,rfl⟩,q⟩
theorem pT:Pa X (unaryOp .USub) (rU fun i=> .int (-i)):=Ut fun _ _ _ _ _ q=>neg_int q
end
def GQ:V→V→Bool
 | .dG, .dG=>true| .dG, .int _=>true| .int _, .dG=>true| .dG, .bl _=>true| .bl _, .dG=>true| .dG, .str _=>true| .str _, .dG=>true
 | .int _, .int _=>true| .bl _, .bl _=>true| .str _, .str _=>true| .sD _, .sD _=>true
 | .int _, .str _=>true| .str _, .int _=>true| .bl _, .str _=>true| .str _, .bl _=>true
 |_,_=>false
def Uv:R2:=fun x y H Q=>GQ x y=true∧Q (.bl (decide (x=y))) H
def Uw:R2:=fun x y H Q=>GQ x y=true∧Q (.bl (!decide (x=y))) H
theorem qV{i j:Int}:decide (V.int i=V.int j)=(i==j):=by
 rw[Bool.eq_iff_iff]
 simp
theorem uR{i j:Bool}:decide (V.bl i=V.bl j)=(i==j):=by
 rw[Bool.eq_iff_iff]
 simp
theorem qW{i j:Str}:decide (V.str i=V.str j)=(i==j):=by
 rw[Bool.eq_iff_iff]
 simp
theorem qX{i j:Array UInt8}:decide (V.sD i=V.sD j)=(i.toList==j.toList):=by
 rw[Bool.eq_iff_iff]
 cases i
 cases j
 simp
section
variable {X:Cx}{a b c:Expr}{ta tb tc:TE}{pos:Pos}
theorem a7{pins:List (Addr×Obj)}{σ:St}{H:Hp}{s:Shared}{Q:VK}{k k':Bool}(I:Inv X pins σ H s)(q:Q (.bl k) H)(e:k=k'):EP X pins σ Q (.bool k') s:=by
 subst e
 exact⟨.bl k,H,I,rfl,q⟩
theorem uS:jH X (compareOp .Eq) Uv:=by
 intro pins s σ H x y v u Q I rx ry h
 obtain⟨hs,q⟩:=h
 cases x with
 |dG=>
  cases rx
  cases y with
  |dG=>cases ry;exact PySem.EqNone.eq_none_none (a7 I q (by simp))
  |bl j=>cases ry;exact PySem.EqNone.eq_none_bool (a7 I q (by simp))
  |int j=>obtain⟨t',rfl⟩:=ry;exact PySem.EqNone.eq_none_int (a7 I q (by simp))
  |str j=>obtain⟨t',rfl⟩:=ry;exact PySem.EqNone.eq_none_str (a7 I q (by simp))
  |_=>exact absurd (show false=true from hs) Bool.false_ne_true
 |bl i=>
  cases rx
  cases y with
  |dG=>cases ry;exact PySem.EqNone.eq_bool_none (a7 I q (by simp))
  |bl j=>cases ry;exact eq_bool (a7 I q uR)
  |str j=>obtain⟨t',rfl⟩:=ry;exact PySem.EqMixed.eq_bool_str (a7 I q (by simp))
  |_=>exact absurd (show false=true from hs) Bool.false_ne_true
 |int i=>
  obtain⟨t,rfl⟩:=rx
  cases y with
  |dG=>cases ry;exact PySem.EqNone.eq_int_none (a7 I q (by simp))
  |int j=>obtain⟨t',rfl⟩:=ry;exact eq_int (a7 I q qV)
  |str j=>obtain⟨t',rfl⟩:=ry;exact PySem.EqMixed.eq_int_str (a7 I q (by simp))
  |_=>exact absurd (show false=true from hs) Bool.false_ne_true
 |str i=>
  obtain⟨t,rfl⟩:=rx
  cases y with
  |dG=>cases ry;exact PySem.EqNone.eq_str_none (a7 I q (by simp))
  |bl j=>cases ry;exact PySem.EqMixed.eq_str_bool (a7 I q (by simp))
  |int j=>obtain⟨t',rfl⟩:=ry;exact PySem.EqMixed.eq_str_int (a7 I q (by simp))
  |str j=>obtain⟨t',rfl⟩:=ry;exact eq_str (a7 I q qW)
  |_=>exact absurd (show false=true from hs) Bool.false_ne_true
 |sD i=>
  obtain⟨t,rfl⟩:=rx
  cases y with
  |sD j=>obtain⟨t',rfl⟩:=ry;exact PySem.W.eq_bytes (a7 I q qX)
  |_=>exact absurd (show false=true from hs) Bool.false_ne_true
 |_=>cases y<;>exact absurd (show false=true from hs) Bool.false_ne_true
theorem qY:jH X (compareOp .NotEq) Uw:=by
 intro pins s σ H x y v u Q I rx ry h
 obtain⟨hs,q⟩:=h
 cases x with
 |dG=>
  cases rx
  cases y with
  |dG=>cases ry;exact PySem.EqNone.ne_none_none (a7 I q (by simp))
  |bl j=>cases ry;exact PySem.EqNone.ne_none_bool (a7 I q (by simp))
  |int j=>obtain⟨t',rfl⟩:=ry;exact PySem.EqNone.ne_none_int (a7 I q (by simp))
  |str j=>obtain⟨t',rfl⟩:=ry;exact PySem.EqNone.ne_none_str (a7 I q (by simp))
  |_=>exact absurd (show false=true from hs) Bool.false_ne_true
 |bl i=>
  cases rx
  cases y with
  |dG=>cases ry;exact PySem.EqNone.ne_bool_none (a7 I q (by simp))
  |bl j=>cases ry;exact ne_bool (a7 I q (congrArg not uR))
  |str j=>obtain⟨t',rfl⟩:=ry;exact PySem.EqMixed.ne_bool_str (a7 I q (by simp))
  |_=>exact absurd (show false=true from hs) Bool.false_ne_true
 |int i=>
  obtain⟨t,rfl⟩:=rx
  cases y with
  |dG=>cases ry;exact PySem.EqNone.ne_int_none (a7 I q (by simp))
  |int j=>obtain⟨t',rfl⟩:=ry;exact ne_int (a7 I q (congrArg not qV))
  |str j=>obtain⟨t',rfl⟩:=ry;exact PySem.EqMixed.ne_int_str (a7 I q (by simp))
  |_=>exact absurd (show false=true from hs) Bool.false_ne_true
 |str i=>
  obtain⟨t,rfl⟩:=rx
  cases y with
  |dG=>cases ry;exact PySem.EqNone.ne_str_none (a7 I q (by simp))
  |bl j=>cases ry;exact PySem.EqMixed.ne_str_bool (a7 I q (by simp))
  |int j=>obtain⟨t',rfl⟩:=ry;exact PySem.EqMixed.ne_str_int (a7 I q (by simp))
  |str j=>obtain⟨t',rfl⟩:=ry;exact ne_str (a7 I q (congrArg not qW))
  |_=>exact absurd (show false=true from hs) Bool.false_ne_true
 |sD i=>
  obtain⟨t,rfl⟩:=rx
  cases y with
  |sD j=>obtain⟨t',rfl⟩:=ry;exact PySem.W.ne_bytes (a7 I q (congrArg not qX))
  |_=>exact absurd (show false=true from hs) Bool.false_ne_true
 |_=>cases y<;>exact absurd (show false=true from hs) Bool.false_ne_true
theorem GR:jH X (compareOp .Lt) (CL fun i j=> .bl (decide (i<j))):=CN fun _ _ _ _ _ _ _ q=>lt_int q
theorem Bd:jH X (compareOp .LtE) (CL fun i j=> .bl (decide (i≤j))):=CN fun _ _ _ _ _ _ _ q=>le_int q
theorem uT:jH X (compareOp .Gt) (CL fun i j=> .bl (decide (j<i))):=CN fun _ _ _ _ _ _ _ q=>gt_int q
theorem cz(b:Expr){op:CmpOp}(h:op≠ .In:=by decide)(h2:op≠ .NotIn:=by decide):behindInMarks op b=false:=by
 have e1:(op==CmpOp.In)=false:=by cases op<;>first|rfl|exact absurd rfl h
 have e2:(op==CmpOp.NotIn)=false:=by cases op<;>first|rfl|exact absurd rfl h2
 cases b<;>simp [behindInMarks,e1,e2]
theorem jR{op:CmpOp}{r:R2}(ho:jH X (compareOp op) r)(ha:PE X a ta)(hb:PE X b tb)(hm:behindInMarks op b=false):PE X (.Compare a [op] [b] pos) (N3 r ta tb):=by
 intro pins s σ H Q I h
 exact wpAny_Compare1 (CM ha hb I h fun v u s2 x y H2 I2 rx ry q=>ho pins s2 σ H2 x y v u Q I2 rx ry q) hm
def GS(t:TE):TT:=fun σ H Q=>t σ H fun x H'=>∃k,x= .bl k∧Q k H'
theorem cL{op:CmpOp}{r:R2}(ho:jH X (compareOp op) r)(ha:PE X a ta)(hb:PE X b tb)(hm:behindInMarks op b=false):PT X (.Compare a [op] [b] pos) (GS (N3 r ta tb)):=by
 intro pins s σ H Q I h
 refine wpAny_isTrue_Compare1 (bF (ha pins s σ H _ I h) fun v s1 ⟨x,H1,I1,r1,q1⟩=>bF (hb pins s1 σ H1 _ I1 q1) fun u s2 ⟨y,H2,I2,r2,q2⟩=>
  bF (ho pins s2 σ H2 x y v u _ I2 r1 r2 q2) fun c s3 ⟨z,H3,I3,r3,k,e,q3⟩=>?_) hm
 subst e
 cases r3
 exact wpAny_truthy_bool ⟨H3,I3,q3⟩
theorem mJ:(sizeLine:Nat) <2^63:=by rw[sizeLine_eq];decide
theorem vals1{x:V}{us:List Value}(r:Vals [x] us):∃u,us=[u]∧RelV x u:=by
 cases r with
 |cons r1 r2=>cases r2;exact⟨_,rfl,r1⟩
theorem vals2{x y:V}{us:List Value}(r:Vals [x,y] us):∃u w',us=[u,w']∧RelV x u∧RelV y w':=by
 cases r with
 |cons r1 r2=>
  cases r2 with
  |cons r3 r4=>cases r4;exact⟨_,_,rfl,r1,r3⟩
theorem uU:eh X (.builtin "abs") (fun xs H Q=>∃i,xs=[.int i]∧Q (.int (if i<0 then -i else i)) H):=by
 intro pins s σ H xs us Q I r h
 obtain⟨i,rfl,q⟩:=h
 obtain⟨u,rfl,t,rfl⟩:=vals1 r
 exact call_abs_int fun u tk=>⟨.int (if i<0 then -i else i),H,I.tok _,⟨_,rfl⟩,q⟩
end
end L2
namespace L2
open PySem PySem.Spec PyProof.Rows
structure pU(h:Heap)(x dx C:Addr)(mA:Str→Option Value):Prop where
 obj:h.get? x=some (PySem.W.instObj C dx)
 ns:h.Ns1 dx mA
 ne:dx≠x
theorem sP{h:Heap}{dx:Addr}{mA:Str→Option Value}(n:h.Ns1 dx mA):∃od,h.get? dx=some od∧∀name,PySem.W.lookIn name od=some (mA name):=by
 obtain⟨o,es,ep,ho,hd,hk,_,hm⟩:=n
 refine⟨o,ho,fun name=>?_⟩
 have e:=hm name
 unfold nsFind findBy at e
 rw[←Array.find?_toList] at e
 unfold PySem.W.lookIn
 rw[hd]
 dsimp only
 split
 ·rename_i y q
  rw[q] at e
  exact congrArg some e
 ·rename_i q
  rw[q] at e
  have a:es.toList.any (·.refKey)=false:=by
   rw[List.any_eq_false]
   intro y hy
   obtain⟨z,t,Pd⟩:=hk y (Array.mem_toList_iff.mp hy)
   simp [DictEntry.refKey,Pd]
  have a':¬es.toList.any (·.refKey)=true:=by rw[a];exact Bool.false_ne_true
  rw[if_neg a']
  exact congrArg some e
theorem pU.look{h:Heap}{x dx C:Addr}{mA:Str→Option Value}(I:pU h x dx C mA):∃od,PySem.W.InstAt h x (PySem.W.instObj C dx) C (some od)∧∀name,PySem.W.lookIn name od=some (mA name):=
 let ⟨od,ho,hl⟩:=sP I.ns
 ⟨od,⟨I.obj,rfl,rfl,ho⟩,hl⟩
section
variable {prog:Program}{w:World}{A:Around}{E:Value→Shared→Prop}{s:Shared}{K:PySem.W.Frag}{x dx C f:Addr}{mA:Str→Option Value}{name:Str}{v:Value}
theorem get_map{expr:Bool}{Q:Value→Shared→Prop}(X:K.In s.heap)(I:pU s.heap x dx C mA)(hg:PySem.W.plainGet K C name=true)(hh:PySem.W.hasDictIn K C=true)
  (ha:PySem.W.findIn K (.ref C) name=some none) (hv:mA name=some v) (CO:PySem.W.handedIn v=true) (h:Q v { s with toks:=s.toks+1 }):
  wpAny (model prog w) A (getAttr (.ref x) name expr) Q E s:=by
 obtain⟨od,J,hl⟩:=I.look
 exact PySem.W.get_value X J (PySem.W.plainGet_of hg).1 (PySem.W.findObj_own hh ha rfl (by rw[hl,hv])) CO h
theorem uV{pl:Sem Bool}{Q:Value×List Value→Shared→Prop}(X:K.In s.heap)(I:pU s.heap x dx C mA)(hg:PySem.W.plainGet K C name=true)
  (hf:PySem.W.findIn K (.ref C) name=some (some (.ref f))) (ht:PySem.W.isFn K (.ref f)=true) (hv:mA name=none) (h:Q (.ref f,[.ref x]) s):
  wpAny (model prog w) A (getMethod (.ref x) name pl) Q E s:=by
 obtain⟨od,J,hl⟩:=I.look
 exact PySem.W.method_fn X J (PySem.W.plainGet_of hg).1 (PySem.W.plainGet_of hg).2 hf (beq_iff_eq.mp ht) (by show (PySem.W.lookIn name od).map (·.isSome)=some false;rw[hl,hv];rfl) h
theorem yh{ns:List Str}{Q:Unit→Shared→Prop}(X:K.In s.heap)(I:pU s.heap x dx C mA)
  (hs:PySem.W.findIn K (.ref C) "__setattr__" =some (some (.builtin "object.__setattr__"))) (hp:PySem.W.plainOver K C=true) (ht:PySem.W.takerIn K C name=some none) (hh:PySem.W.hasDictIn K C=true)
  (hw:PySem.Within mA ns) (om:ns.length≤sizeLine)
  (h:∀h',pU h' x dx C (fun y=>if y=name then some v else mA y)→Heap.SameBut dx s.heap h'→Q () { s with heap:=h',toks:=s.toks+2 }):
  wpAny (model prog w) A (setAttr (.ref x) name v) Q E s:=by
 obtain⟨od,J,hl⟩:=I.look
 refine PySem.W.set_plain X J hs (PySem.W.osa_open (s:={ s with toks:=s.toks+1 }) (r:=none) X J hp ht fun b=>?_)
 obtain⟨cd,hc,OV⟩:=PySem.W.any_some hh
 have hx:s.heap.get? x=some ⟨.ref C,some dx, .plain,#[]⟩:=I.obj
 refine wpAny_bind (wpAny_pure (wpAny_bind (wpAny_bind (wpAny_loadPart hx (wpAny_bind (PySem.W.Looks.here (s:={ s with toks:=s.toks+1 }) (PySem.W.looks_clsIn X hc) ?_))))))
 rw[OV]
 refine wpAny_pure (a:=some dx) (wpAny_bind (wpAny_pure (wpAny_bind ?_)))
 refine wpAny_nsSet1 (s:={ s with toks:=s.toks+1 }) I.ns fun h' CP ki=>?_
 obtain⟨oD,Wv,Ww,Ux,Uy,Uz⟩:=CP.count (PySem.Within.cons name v hw)
 refine wpAny_bind (wpAny_lookBehind Ux (by rw[Uy];exact pastItsLine_dict (Nat.le_trans Uz (by rw[List.length_cons];omega))) ?_)
 exact wpAny_pure (h _ ⟨(ki.2 _ (Ne.symm I.ne)).trans I.obj,CP,I.ne⟩ ki)
theorem uW{R:Result→Shared→Prop}{vs:List Value}{kw:List (Str×Value)}(X:K.In s.heap)(hm:PySem.W.makesIn K C=true)
  (hi:PySem.W.findIn K (.ref C) "__init__" =some (some (.ref f))) (hf:PySem.W.typeIn K (.ref f)=some (.type "function"))
  (h:codeAny (model prog w) (A.under (.builtin "type.__call__" ⟨.ref C::vs,kw⟩)) (.call (.ref f) ⟨.ref (s.heap.objs.size+1)::vs,kw⟩) (PySem.W.InitBack (s.heap.objs.size+1) R)
   { s with heap:=(s.heap.push PySem.W.emptyDict).push (PySem.W.instObj C s.heap.objs.size) }):
  codeAny (model prog w) A (.call (.ref C) ⟨vs,kw⟩) R s:=by
 obtain⟨hh,g,d,t,os⟩:=s
 exact PySem.W.make_core (PySem.W.makes_of X hm) (PySem.W.looks_findIn X hi) (fun self=>PySem.W.bind_fn X self hf) (.inl rfl) h
end
def az(f:Str)(v:V):List (Str×V)→List (Str×V)
 | []=>[(f,v)]
 | (g,x)::r=>if g=f then (g,v)::r else (g,x)::az f v r
theorem aq(f g:Str)(v:V):∀fs:List (Str×V),(az f v fs).lookup g=if g=f then some v else fs.lookup g
 | []=>by
   show List.lookup g [(f,v)]=_
   by_cases h:g=f
   ·have hb:(g==f)=true:=beq_iff_eq.mpr h
    simp only [List.lookup,hb,if_pos h]
   ·have hb:(g==f)=false:=beq_eq_false_iff_ne.mpr h
    simp only [List.lookup,hb,if_neg h]
 | (k,x)::r=>by
   have ih:=aq f g v r
   rw[show az f v ((k,x)::r)=(if k=f then (k,v)::r else (k,x)::az f v r) from rfl]
   by_cases hk:k=f
   ·rw[if_pos hk]
    by_cases h:g=k
    ·have hb:(g==k)=true:=beq_iff_eq.mpr h
     simp only [List.lookup,hb,if_pos (h.trans hk)]
    ·have hb:(g==k)=false:=beq_eq_false_iff_ne.mpr h
     simp only [List.lookup,hb,if_neg (fun e:g=f=>h (e.trans hk.symm))]
   ·rw[if_neg hk]
    by_cases h:g=k
    ·have hb:(g==k)=true:=beq_iff_eq.mpr h
     simp only [List.lookup,hb,if_neg (fun e:g=f=>hk (h.symm.trans e))]
    ·have hb:(g==k)=false:=beq_eq_false_iff_ne.mpr h
     simp only [List.lookup,hb]
     exact ih
theorem ja(f:Str)(v:V):∀fs:List (Str×V),f∈(az f v fs).map (·.1)∧∀g,g∈fs.map (·.1)→g∈(az f v fs).map (·.1)
 | []=>⟨by simp [az],fun g h=>by simp at h⟩
 | (k,x)::r=>by
   obtain⟨i1,i2⟩:=ja f v r
   rw[show az f v ((k,x)::r)=(if k=f then (k,v)::r else (k,x)::az f v r) from rfl]
   by_cases hk:k=f
   ·rw[if_pos hk]
    subst hk
    exact⟨by simp,fun g h=>by simpa using h⟩
   ·rw[if_neg hk]
    refine⟨?_,fun g h=>?_⟩
    ·rw[List.map_cons]
     exact List.mem_cons_of_mem _ i1
    ·rw[List.map_cons] at h ⊢
     rcases List.mem_cons.mp h with e|e
     ·exact List.mem_cons.mpr (.inl e)
     ·exact List.mem_cons_of_mem _ (i2 g e)
theorem bL(f:Str)(v:V):∀fs:List (Str×V),(az f v fs).length≤fs.length+1
 | []=>by simp [az]
 | (k,x)::r=>by
   have ih:=bL f v r
   rw[show az f v ((k,x)::r)=(if k=f then (k,v)::r else (k,x)::az f v r) from rfl]
   by_cases hk:k=f
   ·rw[if_pos hk,List.length_cons,List.length_cons];omega
   ·rw[if_neg hk,List.length_cons,List.length_cons];omega
theorem lq.some_of{v:V}{o:Option Value}(r:lq (some v) o):∃u,o=some u∧RelV v u:=by
 cases o with
 |none=>exact(show False from r).elim
 |some u=>exact⟨u,rfl,r⟩
theorem lq.none_of{o:Option Value}(r:lq none o):o=none:=by
 cases o with
 |none=>rfl
 |some u=>exact(show False from r).elim
theorem sQ{v:V}{u:Value}(r:RelV v u):PySem.W.handedIn u=true:=by
 cases v with
 |dG=>cases (show u=Value.none from r);rfl
 |bl b=>cases (show u=Value.bool b from r);rfl
 |int i=>obtain⟨t,e⟩:=(show∃t,u=Value.int i t from r);cases e;rfl
 |str x=>obtain⟨t,e⟩:=(show∃t,u=Value.str x t from r);cases e;rfl
 |sD b=>obtain⟨t,e⟩:=(show∃t,u=Value.bytes b t from r);cases e;rfl
 |pK b=>obtain⟨t,e⟩:=(show∃t,u=Value.float b t from r);cases e;rfl
 |ref a=>cases (show u=Value.ref a from r);rfl
 |ty n=>cases (show u=Value.type n from r);rfl
section
variable {P:Program}{w:World}{H H':Hp}{h h':Heap}{a C dx:Addr}{fs A4:List (Str×V)}
theorem jS(bV:jN P w H h)(e:H a=some (.ins C dx fs)):∃mA,pU h a dx C mA∧(∀f,lq (fs.lookup f) (mA f))∧PySem.Within mA (fs.map (·.1))∧fs.length≤1000∧H dx=some (.own a):=by
 obtain⟨d,z,ne,ob,mA,n,r,q⟩:=(show cR P w H h a (.ins C dx fs) from bV a _ e)
 exact⟨mA,⟨ob,n,ne⟩,r,q,z,d⟩
end
structure sR(K:PySem.W.Frag)(C:Addr):Prop where
 pg:PySem.W.plainGet K C Str.empty=true
 hd:PySem.W.hasDictIn K C=true
 po:PySem.W.plainOver K C=true
 sa:PySem.W.findIn K (.ref C) "__setattr__" =some (some (.builtin "object.__setattr__"))
theorem sR.get{K:PySem.W.Frag}{C:Addr}(c:sR K C)(f:Str):PySem.W.plainGet K C f=true:=c.pg
def cm(K:PySem.W.Frag)(C:Addr)(f:Str):Prop:=PySem.W.findIn K (.ref C) f=some none
theorem cm.GU{K:PySem.W.Frag}{C:Addr}{f:Str}(n:cm K C f):PySem.W.takerIn K C f=some none:=by
 unfold PySem.W.takerIn
 rw[show PySem.W.findIn K (.ref C) f=some none from n]
 rfl
structure Meth(K:PySem.W.Frag)(C:Addr)(m:Str)(f:Addr):Prop where
 at_:PySem.W.findIn K (.ref C) m=some (some (.ref f))
 fn:PySem.W.isFn K (.ref f)=true
 kp:PySem.W.keepIn K (.ref f)=true
section
variable {X:Cx}{pins:List (Addr×Obj)}{σ:St}{H:Hp}{s:Shared}{a C dx:Addr}{fs:List (Str×V)}{f:Str}{v:V}{A:Around}{E:Value→Shared→Prop}
theorem pV{b:Bool}{Q:Value→Shared→Prop}(I:Inv X pins σ H s)(e:H a=some (.ins C dx fs))(c:sR X.K C)(n:cm X.K C f)(l:fs.lookup f=some v)
  (h:∀u s',Inv X pins σ H s'→RelV v u→Q u s'):wpAny (model X.prog X.w) A (getAttr (.ref a) f b) Q E s:=by
 obtain⟨mA,O,r,_,_,_⟩:=jS I.bV e
 obtain⟨u,hu,ru⟩:=lq.some_of (v:=v) (o:=mA f) (by rw[←l];exact r f)
 exact get_map I.ju O (c.get f) c.hd n hu (sQ ru) (h u _ (I.tok _) ru)
theorem km{m:Str}{g:Addr}{pl:Sem Bool}{Q:Value×List Value→Shared→Prop}(I:Inv X pins σ H s)(e:H a=some (.ins C dx fs))(c:sR X.K C)(k:Meth X.K C m g)(l:fs.lookup m=none)
  (h:Q (.ref g,[.ref a]) s):wpAny (model X.prog X.w) A (getMethod (.ref a) m pl) Q E s:=by
 obtain⟨mA,O,r,_,_,_⟩:=jS I.bV e
 have hn:mA m=none:=lq.none_of (by rw[←l];exact r m)
 exact uV I.ju O (c.get m) k.at_ k.fn hn h
theorem pW{y:V}{u:Value}{Q:Unit→Shared→Prop}(I:Inv X pins σ H s)(e:H a=some (.ins C dx fs))(c:sR X.K C)(n:cm X.K C f)(hl:fs.length<1000)(ry:RelV y u)
  (h:∀s',Inv X pins σ (upd H a (.ins C dx (az f y fs))) s'→Q () s'):wpAny (model X.prog X.w) A (setAttr (.ref a) f u) Q E s:=by
 obtain⟨mA,O,r,wi,_,ho⟩:=jS I.bV e
 have hz:(fs.map (·.1)).length≤sizeLine:=by rw[List.length_map,sizeLine_eq];omega
 refine yh I.ju O c.sa c.po n.GU c.hd wi hz fun h' O' sb=>h _ ?_
 have hd:∃o,h'.get? dx=some o:=let ⟨o,_,_,e',_⟩:=O'.ns;⟨o,e'⟩
 refine I.write (x:=a) (e:=dx) (by rw[e];exact True.intro) (.inr ho) (fun b q hb z=>(sb.2 b hb).trans z) hd ?_
 refine⟨by rw[ao O.ne];exact ho,?_,O.ne,O'.obj,_,O'.ns,fun g=>?_,fun g hg=>?_⟩
 ·have:=bL f y fs;omega
 ·show lq ((az f y fs).lookup g) (if g=f then some u else mA g)
  rw[aq]
  by_cases q:g=f
  ·rw[if_pos q,if_pos q];exact ry
  ·rw[if_neg q,if_neg q];exact r g
 ·by_cases q:g=f
  ·rw[q];exact(ja f y fs).1
  ·refine(ja f y fs).2 g (wi g fun z=>hg ?_)
   show (if g=f then some u else mA g)=none
   rw[if_neg q];exact z
theorem Inv.made(I:Inv X pins σ H s):Inv X pins σ (upd (upd H s.heap.objs.size (.own (s.heap.objs.size+1))) (s.heap.objs.size+1) (.ins C s.heap.objs.size []))
  { s with heap:=(s.heap.push PySem.W.emptyDict).push (PySem.W.instObj C s.heap.objs.size) }:=by
 have e1:(s.heap.push PySem.W.emptyDict).get? s.heap.objs.size=some PySem.W.emptyDict:=Heap.get?_push_size s.heap rfl
 have e2:((s.heap.push PySem.W.emptyDict).push (PySem.W.instObj C s.heap.objs.size)).get? (s.heap.objs.size+1)=some (PySem.W.instObj C s.heap.objs.size):=by
  have:=Heap.get?_push_size (s.heap.push PySem.W.emptyDict) (o:=PySem.W.instObj C s.heap.objs.size) rfl
  rwa [Heap.size_push] at this
 have e3:(s.heap.push PySem.W.emptyDict).Ns s.heap.objs.size (fun _=>none):=⟨PySem.W.emptyDict,#[],_,e1,rfl,(fun e he=>absurd he (by simp)),fun _=>rfl⟩
 have I1:=I.laid (a:=s.heap.objs.size) (o:= .own (s.heap.objs.size+1)) (h':=s.heap.push PySem.W.emptyDict) (t':=s.toks) (fun b u q=>Heap.get?_push_of_some _ q) (Nat.le_refl _) ⟨_,e1⟩
 refine I1.laid (a:=s.heap.objs.size+1) (o:= .ins C s.heap.objs.size []) (t':=s.toks) (fun b u q=>Heap.get?_push_of_some _ q) (Nat.le_of_eq (Heap.size_push _ _)) ?_
 have ne:s.heap.objs.size≠s.heap.objs.size+1:=Nat.ne_of_lt (Nat.lt_succ_self _)
 refine⟨by rw[ao ne,ae],Nat.zero_le _,ne,e2,fun _=>none,(Heap.Ns1.of_empty e3).at fun o q=>Heap.get?_push_of_some _ q,fun _=>True.intro,fun y hy=>absurd rfl hy⟩
theorem yi{prog:Program}{w:World}{env:Env}{e:Expr}{f:Str}{pos:Pos}{s:Shared}{Q:Value→Shared→Prop}(hb:attributeBase e f env (eval e env)=eval e env)
  (h:wpAny (model prog w) A (eval e env) (fun o s₁=>wpAny (model prog w) A (getAttr o f true) Q E s₁) E s):wpAny (model prog w) A (eval (.Attribute e f pos) env) Q E s:=
 Attribute_any_ h (by rw[arm_eval_Attribute,hb])
end
def GV(K:PySem.W.Frag)(ta:TE)(f:Str):TE:=fun σ H Q=>ta σ H fun x H1=>∃a C dx fs v,x= .ref a∧H1 a=some (.ins C dx fs)∧sR K C∧cm K C f∧fs.lookup f=some v∧Q v H1
def Pe(K:PySem.W.Frag)(ta tv:TE)(f:Str):TS:=fun D σ H=>tv σ H fun y H1=>ta σ H1 fun x H2=>∃a C dx fs,x= .ref a∧H2 a=some (.ins C dx fs)∧sR K C∧cm K C f∧fs.length<1000∧
 D.nx σ (upd H2 a (.ins C dx (az f y fs)))
section
variable {X:Cx}{o e value:Expr}{f:Str}{pos pos' i7:Pos}{ta tv:TE}
theorem bR(he:PE X e ta)(hb:attributeBase e f X.env (eval e X.env)=eval e X.env):PE X (.Attribute e f pos) (GV X.K ta f):=by
 intro pins s σ H Q I h
 refine yi hb (bF (he pins s σ H _ I h) fun u s1 ⟨x,H1,I1,rx,a,C,dx,fs,v,ex,ea,c,n,l,q⟩=>?_)
 subst ex
 obtain rfl:u=Value.ref a:=rx
 exact pV I1 ea c n l fun u' s2 I2 ru=>⟨v,H1,I2,ru,q⟩
theorem dj(ha:PE X o ta)(hv:PE X value tv)(hs:swapsWith value (some (.Attribute o f pos')) pos.line X.env=pure false):PS X (.Assign [.Attribute o f pos'] value pos) (Pe X.K ta tv f):=by
 intro pins s σ H D I h
 refine plainObj_wpAny_Assign_Attribute (bF (hv pins s σ H _ I h) fun u s1 ⟨y,H1,I1,ry,q⟩=>bF (ha pins s1 σ H1 _ I1 q) fun ov s2 ⟨x,H2,I2,rx,a,C,dx,fs,ex,ea,c,n,l,q2⟩=>?_) hs
 subst ex
 obtain rfl:ov=Value.ref a:=rx
 exact pW I2 ea c n l ry fun s3 I3=>⟨σ,_,I3,q2⟩
end
section
variable {X:Cx}{pins:List (Addr×Obj)}{σ:St}{H:Hp}{s:Shared}{A:Around}{E:Value→Shared→Prop}{Q:Value→Shared→Prop}{c:Value}{b:Bool}
inductive jb(K:PySem.W.Frag)(H:Hp):V→Value→Prop where
 |dG:jb K H .dG (.type "NoneType")
 |bl (x:Bool):jb K H (.bl x) (.type "bool")
 |int (i:Int):jb K H (.int i) (.type "int")
 |str (x:Str):jb K H (.str x) (.type "str")
 |pK (x:UInt64):jb K H (.pK x) (.type "float")
 |lst {a:Addr} {xs:List V} (e:H a=some (.lst xs)):jb K H (.ref a) (.type "list")
 |qR {a:Addr} {o:Obj} {xs:List V} (e:H a=some (.qR o (.lst xs))):jb K H (.ref a) (.type "list")
 |tup {a:Addr} {xs:List V} (e:H a=some (.tup xs)):jb K H (.ref a) (.type "tuple")
 |dK {a:Addr} {ip:List (Key×V)} (e:H a=some (.dK ip)):jb K H (.ref a) (.type "dict")
 |dT {a:Addr} {ip:List (List Key×V)} (e:H a=some (.dT ip)):jb K H (.ref a) (.type "dict")
 |ins {a C dx:Addr} {fs:List (Str×V)} (e:H a=some (.ins C dx fs)) (cl:sR K C) (ha:PySem.W.findIn K (.ref C) "__class__" =some (some (.builtin "object.__class__")))
   (hn:PySem.W.specialIn K (.builtin "object.__class__") "__get__" =some (some (.builtin "getset_descriptor.__get__"))) (Sh:PySem.W.takesIn K (.builtin "object.__class__")=some true)
   (hm:PySem.W.mroIn K C (.type "object")=some true):jb K H (.ref a) (.ref C)
theorem sU{x:V}{u t:Value}(I:Inv X pins σ H s)(rx:RelV x u)(ty:jb X.K H x t)(e:PySem.W.kitOne X.K t c=some b)(h:∀tk,Q (.bool b) { s with toks:=tk }):
  wpAny (model X.prog X.w) A (call (.builtin "isinstance") [u,c]) Q E s:=by
 cases ty with
 |dG=>cases (show u=Value.none from rx);exact PySem.W.kia_one PySem.W.kitx_none I.ju True.intro e (fun z=>nomatch z) h
 |bl y=>cases (show u=Value.bool y from rx);exact PySem.W.kia_one PySem.W.kitx_bool I.ju True.intro e (fun z=>nomatch z) h
 |int i=>obtain⟨t,q⟩:=(show∃t,u=Value.int i t from rx);cases q;exact PySem.W.kia_one PySem.W.kitx_int I.ju True.intro e (fun z=>nomatch z) h
 |str y=>obtain⟨t,q⟩:=(show∃t,u=Value.str y t from rx);cases q;exact PySem.W.kia_one PySem.W.kitx_str I.ju True.intro e (fun z=>nomatch z) h
 |pK y=>obtain⟨t,q⟩:=(show∃t,u=Value.float y t from rx);cases q;exact PySem.W.kia_one PySem.W.kitx_float I.ju True.intro e (fun z=>nomatch z) h
 | @lst a xs ea=>
   cases (show u=Value.ref a from rx)
   obtain⟨_,_,n,_,h1⟩:=(show cR X.prog X.w H s.heap a (.lst xs) from I.bV a _ ea)
   exact PySem.W.kia_one PySem.W.kitx_list I.ju ⟨_,h1,rfl⟩ e (fun z=>nomatch z) h
 | @qR a ob xs ea=>
   cases (show u=Value.ref a from rx)
   obtain⟨_,_,_,n,_,h1⟩:=(show cR X.prog X.w H s.heap a (.qR ob (.lst xs)) from I.bV a _ ea)
   exact PySem.W.kia_one PySem.W.kitx_list I.ju ⟨_,h1,rfl⟩ e (fun z=>nomatch z) h
 | @tup a xs ea=>
   cases (show u=Value.ref a from rx)
   obtain⟨_,_,_,p⟩:=(show cR X.prog X.w H s.heap a (.tup xs) from I.bV a _ ea)
   obtain⟨o,h1,h2,_⟩:=p
   exact PySem.W.kia_one PySem.W.kitx_tuple I.ju ⟨o,h1,h2⟩ e (fun z=>nomatch z) h
 | @dK a ip ea=>
   cases (show u=Value.ref a from rx)
   obtain⟨_,_,vs,_,p⟩:=(show cR X.prog X.w H s.heap a (.dK ip) from I.bV a _ ea)
   obtain⟨o,es,ep,h1,h2,_⟩:=p
   exact PySem.W.kia_one PySem.W.kitx_dict I.ju ⟨o,h1,h2.1⟩ e (fun z=>nomatch z) h
 | @dT a ip ea=>
   cases (show u=Value.ref a from rx)
   obtain⟨_,_,xs,_,o,es,ep,h1,h2,_⟩:=(show cR X.prog X.w H s.heap a (.dT ip) from I.bV a _ ea)
   exact PySem.W.kia_one PySem.W.kitx_dict I.ju ⟨o,h1,h2.1⟩ e (fun z=>nomatch z) h
 | @ins a C dx fs ea cl ha hn Sh hm=>
   cases (show u=Value.ref a from rx)
   obtain⟨mA,O,_⟩:=jS I.bV ea
   obtain⟨od,J,_⟩:=O.look
   exact PySem.W.kia_one (PySem.W.kitx_own (cl.get _) cl.hd ha hn Sh hm) I.ju J e (fun z=>nomatch z) h
end
end L2
namespace L2
open PySem PySem.Spec PyProof.Rows
structure cV(k:Nat)(A:Around):Prop where
 hd:A.handled=none
 dp:A.depth+3*k+5<recursionLimit
 un:A.units+16*k+200<cLine
theorem cV.mono{j k:Nat}{A:Around}(r:cV k A)(h:j≤k):cV j A:=⟨r.hd,by have:=r.dp;omega,by have:=r.un;omega⟩
theorem cV.deeper{k:Nat}{A:Around}(r:cV (k+1) A)(env:Env):cV k (A.deeper env):=
 ⟨r.hd,by have:=r.dp;show A.depth+1+3*k+5<_;omega,by have:=r.un;show A.units+3+16*k+200<_;omega⟩
theorem pX{A:Around}{C:Addr}{us:List Value}{kw:List (Str×Value)}:(A.under (.builtin "type.__call__" ⟨.ref C::us,kw⟩)).depth=A.depth+1:=by
 first|rfl|simp [Around.under,Code.weight,Code.isCreation,Code.isGuard,Code.isCaller,Code.frames,Code.isFrame,guardIds]
theorem pY{A:Around}{C:Addr}{us:List Value}{kw:List (Str×Value)}:(A.under (.builtin "type.__call__" ⟨.ref C::us,kw⟩)).units=A.units+1:=by
 first|rfl|simp [Around.under,Code.cUnits,Code.frames,Code.isFrame]
theorem cV.make{k:Nat}{A:Around}(r:cV (k+1) A)(C:Addr)(us:List Value)(kw:List (Str×Value)):cV k (A.under (.builtin "type.__call__" ⟨.ref C::us,kw⟩)):=
 ⟨r.hd,by have:=r.dp;rw[pX];omega,by have:=r.un;rw[pY];omega⟩
theorem cV.depth{k:Nat}{A:Around}(r:cV k A):A.depth<recursionLimit:=by have:=r.dp;omega
theorem cV.units{k:Nat}{A:Around}(r:cV k A):A.units+64<cLine:=by have:=r.un;omega
def CQ:TA:=fun _ H Q=>Q [] H
def GW(ta:TE)(tr:TA):TA:=fun σ H Q=>ta σ H fun x H1=>tr σ H1 fun xs H2=>Q (x::xs) H2
section
variable {X:Cx}{e:Expr}{es:List Expr}{te:TE}{t:TA}{pos:Pos}
theorem ai:PA X [] CQ:=fun _ _ _ _ H Q I h=>Calls.spliced_nil ⟨[],H,I, .nil,h⟩
theorem aa(ha:PE X e te)(hr:PA X es t)(hs:starEach (e::es) X.env=(false,eval e X.env)::starEach es X.env:=by rfl):PA X (e::es) (GW te t):=by
 intro pos pins s σ H Q I h
 rw[hs]
 show wpAny _ _ (spliced ((false,eval e X.env)::backTo pos (starEach es X.env))) _ _ s
 refine Calls.spliced_cons (bF (ha pins s σ H _ I h) fun u s1 ⟨x,H1,I1,r1,q1⟩=>?_)
 exact bF (hr pos pins s1 σ H1 _ I1 q1) fun us s2 ⟨xs,H2,I2,r2,q2⟩=>⟨x::xs,H2,I2, .cons r1 r2,q2⟩
def Pf(t:TA):TE:=fun σ H Q=>t σ H fun xs H1=>xs.length≤sizeLine∧∀p,H1 p=none→Q (.ref p) (upd H1 p (.tup xs))
def Pg(t:TA):TE:=fun σ H Q=>t σ H fun xs H1=>xs.length≤sizeLine∧∀p,H1 p=none→Q (.ref p) (upd H1 p (.lst xs))
theorem uX{x1}(h:PA X es t):PE X (.Tuple es x1 pos) (Pf t):=by
 intro pins s σ H Q I hq
 refine wpAny_Tuple_spliced (bF (h pos pins s σ H _ I hq) fun us s1 ⟨xs,H1,I1,r,z,q⟩=>⟨by rw[←r.length];exact z,?_⟩)
 have hf:H1 s1.heap.objs.size=none:=I1.bV.fresh (Nat.le_refl _)
 refine⟨.ref s1.heap.objs.size,upd H1 s1.heap.objs.size (.tup xs),I1.laid (t':=s1.toks) (fun b u e=>Heap.get?_push_of_some _ e) (Nat.le_refl _) ?_,rfl,q _ hf⟩
 exact⟨z,us,r,⟨_,Heap.get?_push_size _ rfl,rfl,_,rfl⟩⟩
theorem bq(h:PA X es t):PE X (.List es pos) (Pg t):=by
 intro pins s σ H Q I hq
 refine wpAny_List_spliced (bF (h pos pins s σ H _ I hq) fun us s1 ⟨xs,H1,I1,r,z,q⟩=>⟨by rw[←r.length];exact z,?_⟩)
 have hf:H1 s1.heap.objs.size=none:=I1.bV.fresh (Nat.le_refl _)
 refine⟨.ref s1.heap.objs.size,upd H1 s1.heap.objs.size (.lst xs),I1.laid (t':=s1.toks) (fun b u e=>Heap.get?_push_of_some _ e) (Nat.le_refl _) ?_,rfl,q _ hf⟩
 exact⟨z,us,0,r,Heap.get?_push_size _ rfl⟩
end
abbrev Sp:=List V→Hp→VK→XK→Prop
abbrev uY:=List Env→Hp→Shared→XK→Value→Shared→Prop
structure pZ(P:Program)(w:World)(K:PySem.W.Frag)(mg:Str→Option Value)(base:Heap)(A:Around)(outer:List Env)(s:Shared)(H:Hp):Prop where
 frames:A.frames=some outer
 mod:Mod K mg base
 bs:∀b o,base.get? b=some o→s.heap.get? b=some o∧H b=none
 sH:base.objs.size≤s.heap.objs.size
 iq:s.heap.FunFrames base outer
 x9:∀b∈uE outer,H b=none
 bV:jN P w H s.heap
 bare:AllBare s.gens
def CE(outer:List Env)(P:Program)(w:World)(H:Hp)(s:Shared)(Q:VK)(u:Value)(s':Shared):Prop:=
 ∃v H',s'.os=s.os∧AllBare s'.gens∧Un (uE outer) [] H H' s.heap s'.heap∧jN P w H' s'.heap∧RelV v u∧Q v H'
def CR(CX:uY)(outer:List Env)(P:Program)(w:World)(H:Hp)(s:Shared)(Q:VK)(E:XK)(r:Result)(s':Shared):Prop:=
 match r with
 | .ok (.ret u)=>CE outer P w H s Q u s'
 | .ok _=>False
 | .error e=>CX outer H s E e s'
structure fO(P:Program)(w:World)(K:PySem.W.Frag)(mg:Str→Option Value)(base:Heap)(CX:uY)(k:Nat)(f:Addr)(fd:FuncData)(ps:List Str)(sp:Sp):Prop where
 len:∀vs H Q E,sp vs H Q E→vs.length=ps.length
 run:∀(A:Around) (outer:List Env) (s:Shared) (H:Hp) (args:Args) (us:List Value) (vs:List V) (Q:VK) (E:XK),cV k A→pZ P w K mg base A outer s H→BindsTo s fd args (ps.zip us)→Vals vs us→sp vs H Q E→
  codeAny (model P w) A (.call (.ref f) args) (CR CX outer P w H s Q E) s
theorem pZ.make{P:Program}{w:World}{K:PySem.W.Frag}{mg:Str→Option Value}{base:Heap}{A:Around}{outer:List Env}{s:Shared}{H:Hp}(e:pZ P w K mg base A outer s H)(C:Addr)(us:List Value)(kw:List (Str×Value)):
  pZ P w K mg base (A.under (.builtin "type.__call__" ⟨.ref C::us,kw⟩)) outer s H:=⟨by first|exact e.frames| (simpa [Around.under,Code.envs,Code.isFrame,pushEnvs] using e.frames),e.mod,e.bs,e.sH,e.iq,e.x9,e.bV,e.bare⟩
section
variable {X:Cx}{pins:List (Addr×Obj)}{σ:St}{H:Hp}{s s':Shared}
theorem Inv.GX(I:Inv X pins σ H s):pZ X.prog X.w X.K X.mg X.base X.A X.stack s H:=
 ⟨I.ok.frames,I.ok.mod,I.bs,Nat.le_trans I.ok.sH I.sz,I.stack,I.mH,I.bV,I.bare⟩
theorem Inv.after{Q:VK}{u:Value}(I:Inv X pins σ H s)(h:CE X.stack X.prog X.w H s Q u s'):EP X pins σ Q u s':=by
 obtain⟨v,H',os,bare,un,bV,r,q⟩:=h
 obtain⟨hh,g,d,t,UA⟩:=s'
 obtain rfl:UA=s.os:=os
 exact⟨v,H',I.call (h':=hh) (g':=g) (d':=d) (t':=t) (ch:=[]) un bV bare (fun b z=>absurd z (by simp)),r,q⟩
end
def GY(sp:Sp)(jT:List V)(E:XK)(t:TA):TE:=fun σ H Q=>t σ H fun vs H1=>sp (vs++jT) H1 Q E
def Be(C:Addr)(m:Str)(sp:Sp)(jT:List V)(E:XK)(ta:TE)(t:TA):TE:=fun σ H Q=>ta σ H fun x H1=>∃a dx fs,x= .ref a∧H1 a=some (.ins C dx fs)∧fs.lookup m=none∧
 t σ H1 fun vs H2=>sp (x::(vs++jT)) H2 Q E
def Bf(C:Addr)(sp:Sp)(jT:List V)(E:XK)(t:TA):TE:=fun σ H Q=>t σ H fun vs H1=>∀x dx,H1 x=none→H1 dx=none→dx≠x→
 sp (.ref x::(vs++jT)) (upd (upd H1 dx (.own x)) x (.ins C dx [])) (fun v H2=>v= .dG∧Q (.ref x) H2) E
def Binds(K:PySem.W.Frag)(fd:FuncData)(ps:List Str)(ds:List Value):Prop:=
 ∀(s:Shared) (us:List Value),K.In s.heap→(us++ds).length=ps.length→BindsTo s fd ⟨us,[]⟩ (ps.zip (us++ds))
theorem Binds.all{K:PySem.W.Frag}{fd:FuncData}{ps:List Str}(h:∀us:List Value,us.length=ps.length→bindArgs fd ⟨us,[]⟩=pure (ps.zip us)):Binds K fd ps []:=fun s us _ hl=>by
 rw[List.append_nil] at hl ⊢
 exact .of_eq (h us hl)
def Passes(CX:uY)(X:Cx)(E:XK):Prop:=∀(pins:List (Addr×Obj)) (σ:St) (H:Hp) (s:Shared) (e:Value) (s':Shared),Inv X pins σ H s→CX X.stack H s E e s'→X.xe e s'
section
variable {X:Cx}{CX:uY}{k:Nat}{f C:Addr}{fd:FuncData}{ps:List Str}{sp:Sp}{jT:List V}{ds:List Value}{E:XK}{x m:Str}{p pos apos:Pos}{e o:Expr}{es:List Expr}{ta:TE}{t:TA}
theorem p6{pins:List (Addr×Obj)}{σ:St}{H:Hp}{s:Shared}{Q:VK}{us:List Value}{vs:List V}(F:fO X.prog X.w X.K X.mg X.base CX k f fd ps sp)(hr:cV k X.A)(hb:Binds X.K fd ps ds)(hd:Vals jT ds)(hx:Passes CX X E)
  (I:Inv X pins σ H s) (r:Vals vs us) (h:sp (vs++jT) H Q E):wpAny (model X.prog X.w) X.A (call (.ref f) us) (EP X pins σ Q) X.xe s:=by
 have r2:Vals (vs++jT) (us++ds):=r.append hd
 have hl:(us++ds).length=ps.length:=by rw[←r2.length];exact F.len _ _ _ _ h
 refine wpAny_call (codeAny_mono (F.run X.A X.stack s H ⟨us,[]⟩ (us++ds) (vs++jT) Q E hr I.GX (hb s us I.ju hl) r2 h) fun r s' hq=>?_)
 cases r with
 |error e=>exact hx pins σ H s e s' I hq
 |ok fl=>
  cases fl with
  |ret u=>exact I.after hq
  |next=>exact False.elim hq
  |brk=>exact False.elim hq
  |cont=>exact False.elim hq
theorem aX(F:fO X.prog X.w X.K X.mg X.base CX k f fd ps sp)(hr:cV k X.A)(hg:Gl X x)(hm:X.mg x=some (.ref f))(hk:PySem.W.keepIn X.K (.ref f)=true)(hb:Binds X.K fd ps ds)(hd:Vals jT ds)(hx:Passes CX X E)
  (ha:PA X (e::es) t) (yj:(x==("__debug__" :Str))=false:=by decide) (he:starEach (e::es) X.env=(false,eval e X.env)::starEach es X.env:=by rfl) (uu:(backTo pos (starEach es X.env)).any (·.1)=false:=by rfl):
  PE X (.Call (.Name x p) (e::es) [] pos) (GY sp jT E t):=by
 intro pins s σ H Q I h
 refine wpAny_Call_Name_kw (mI I hg hm ?_ yj)
 refine PySem.W.callWith_K (h₀:=X.base) I.ok.mod.Gy hk (bF (ha pos pins s σ H _ I h) fun us s1 ⟨vs,H1,I1,r,q⟩=>⟨I1.ju,?_⟩) he uu
 exact p6 F hr hb hd hx I1 r q
theorem dO{pl:Sem Bool}(he:PE X o ta)(c:sR X.K C)(hm:Meth X.K C m f)(F:fO X.prog X.w X.K X.mg X.base CX k f fd ps sp)(hr:cV k X.A)(hb:Binds X.K fd ps ds)(hd:Vals jT ds)(hx:Passes CX X E)(ha:PA X (e::es) t)
  (GJ:starEach (e::es) X.env=(false,eval e X.env)::starEach es X.env:=by rfl) (uu:(backTo pos (starEach es X.env)).any (·.1)=false:=by rfl)
  (ht:eval (.Call (.Attribute o m apos) (e::es) [] pos) X.env=(do
   let ov←eval o X.env
   standAt apos.atName
   let (f,first)←holding [ov] (getMethod ov m pl)
   callWith pos f first (backTo pos (starEach (e::es) X.env)) (backToKw pos (keywordEach [] X.env))):=by rfl):
  PE X (.Call (.Attribute o m apos) (e::es) [] pos) (Be C m sp jT E ta t):=by
 intro pins s σ H Q I h
 refine PySem.W.methodCall_KW (pl:=pl) (bF (he pins s σ H _ I h) fun u s1 ⟨x,H1,I1,rx,a,dx,fs,ex,ea,l,q⟩=>?_) ht
 subst ex
 obtain rfl:u=Value.ref a:=rx
 refine km I1 ea c hm l ?_
 refine PySem.W.callWith_K (first:=[.ref a]) (h₀:=X.base) I.ok.mod.Gy hm.kp (bF (ha pos pins s1 σ H1 _ I1 q) fun us s2 ⟨vs,H2,I2,r,q2⟩=>⟨I2.ju,?_⟩) GJ uu
 exact p6 (us:= .ref a::us) (vs:= .ref a::vs) F hr hb hd hx I2 (.cons rfl r) q2
theorem oo{pl:Sem Bool}(he:PE X o ta)(c:sR X.K C)(hm:Meth X.K C m f)(F:fO X.prog X.w X.K X.mg X.base CX k f fd ps sp)(hr:cV k X.A)(hb:Binds X.K fd ps ds)(hd:Vals jT ds)(hx:Passes CX X E)
  (ht:eval (.Call (.Attribute o m apos) [] [] pos) X.env=(do
   let ov←eval o X.env
   standAt apos.atName
   let (f,first)←holding [ov] (getMethod ov m pl)
   callWith pos f first (backTo pos (starEach [] X.env)) (backToKw pos (keywordEach [] X.env))):=by rfl):
  PE X (.Call (.Attribute o m apos) [] [] pos) (Be C m sp jT E ta CQ):=by
 intro pins s σ H Q I h
 refine PySem.W.methodCall_KW (pl:=pl) (bF (he pins s σ H _ I h) fun u s1 ⟨x,H1,I1,rx,a,dx,fs,ex,ea,l,q⟩=>?_) ht
 subst ex
 obtain rfl:u=Value.ref a:=rx
 refine km I1 ea c hm l ?_
 exact PySem.W.callWith_K0 (first:=[.ref a]) I1.ju hm.kp (p6 (us:=[.ref a]) (vs:=[.ref a]) F hr hb hd hx I1 (.cons rfl .nil) q)
structure Mk(K:PySem.W.Frag)(C f:Addr):Prop where
 makes:PySem.W.makesIn K C=true
 init:PySem.W.findIn K (.ref C) "__init__" =some (some (.ref f))
 fn:PySem.W.isFn K (.ref f)=true
 kp:PySem.W.keepIn K (.ref C)=true
theorem oq{pins:List (Addr×Obj)}{σ:St}{H:Hp}{s:Shared}{Q:VK}{us:List Value}{vs:List V}(M:Mk X.K C f)(F:fO X.prog X.w X.K X.mg X.base CX k f fd ps sp)(hr:cV (k+1) X.A)(hb:Binds X.K fd ps ds)(hd:Vals jT ds)
  (hx:Passes CX X E) (I:Inv X pins σ H s) (r:Vals vs us)
  (h:∀x dx,H x=none→H dx=none→dx≠x→sp (.ref x::(vs++jT)) (upd (upd H dx (.own x)) x (.ins C dx [])) (fun v H2=>v= .dG∧Q (.ref x) H2) E):
  wpAny (model X.prog X.w) X.A (call (.ref C) us) (EP X pins σ Q) X.xe s:=by
 have hq:=h (s.heap.objs.size+1) s.heap.objs.size (I.bV.fresh (Nat.le_succ _)) (I.bV.fresh (Nat.le_refl _)) (Nat.ne_of_lt (Nat.lt_succ_self _))
 have I2:=Inv.made (C:=C) I
 have r2:Vals (V.ref (s.heap.objs.size+1)::(vs++jT)) (Value.ref (s.heap.objs.size+1)::(us++ds)):= .cons rfl (r.append hd)
 have hl:(Value.ref (s.heap.objs.size+1)::us++ds).length=ps.length:=by
  have e:=r2.length
  rw[F.len _ _ _ _ hq] at e
  exact e.symm
 refine wpAny_call (uW (f:=f) I.ju M.makes M.init (beq_iff_eq.mp M.fn) (codeAny_mono (F.run _ X.stack _ _ ⟨Value.ref (s.heap.objs.size+1)::us,[]⟩ (Value.ref (s.heap.objs.size+1)::(us++ds)) _ _ E (hr.make C us [])
  (I2.GX.make C us []) (hb _ (Value.ref (s.heap.objs.size+1)::us) I2.ju hl) r2 hq) fun r s' GZ=>?_))
 cases r with
 |error e=>exact hx pins σ _ _ e s' I2 GZ
 |ok fl=>
  cases fl with
  |ret u=>
   obtain⟨v,H',I3,rv,ev,q3⟩:=I2.after GZ
   subst ev
   exact⟨rv,⟨V.ref (s.heap.objs.size+1),H',I3,rfl,q3⟩⟩
  |next=>exact False.elim GZ
  |brk=>exact False.elim GZ
  |cont=>exact False.elim GZ
theorem mK(M:Mk X.K C f)(F:fO X.prog X.w X.K X.mg X.base CX k f fd ps sp)(hr:cV (k+1) X.A)(hg:Gl X x)(hm:X.mg x=some (.ref C))(hb:Binds X.K fd ps ds)(hd:Vals jT ds)(hx:Passes CX X E)
  (ha:PA X (e::es) t) (yj:(x==("__debug__" :Str))=false:=by decide) (he:starEach (e::es) X.env=(false,eval e X.env)::starEach es X.env:=by rfl) (uu:(backTo pos (starEach es X.env)).any (·.1)=false:=by rfl):
  PE X (.Call (.Name x p) (e::es) [] pos) (Bf C sp jT E t):=by
 intro pins s σ H Q I h
 refine wpAny_Call_Name_kw (mI I hg hm ?_ yj)
 refine PySem.W.callWith_K (h₀:=X.base) I.ok.mod.Gy M.kp (bF (ha pos pins s σ H _ I h) fun us s1 ⟨vs,H1,I1,r,q⟩=>⟨I1.ju,?_⟩) he uu
 exact oq M F hr hb hd hx I1 r q
theorem uZ(M:Mk X.K C f)(F:fO X.prog X.w X.K X.mg X.base CX k f fd ps sp)(hr:cV (k+1) X.A)(hg:Gl X x)(hm:X.mg x=some (.ref C))(hb:Binds X.K fd ps ds)(hd:Vals jT ds)(hx:Passes CX X E)
  (yj:(x==("__debug__" :Str))=false:=by decide):PE X (.Call (.Name x p) [] [] pos) (Bf C sp jT E CQ):=by
 intro pins s σ H Q I h
 refine wpAny_Call_Name_kw (mI I hg hm ?_ yj)
 exact PySem.W.callWith_K0 I.ju M.kp (oq (us:=[]) M F hr hb hd hx I .nil h)
end
section
variable {X:Cx}{CX:uY}{k:Nat}{f C:Addr}{fd:FuncData}{ps ks:List Str}{sp:Sp}{E:XK}{x m:Str}{p pos apos UB:Pos}{e o:Expr}{es:List Expr}{Wx:List Keyword}{te ta:TE}{t tk:TA}{nm:Option Str}
variable {g:List Value→List Value→List Value}{gV:List V→List V→List V}
end
structure aI(N P:List Str)(sc:Scope):Prop where
 kind:sc.kind= .function
 co:sc.isCoroutine=false
 gen:sc.isGenerator=false
 nd:N.Nodup
 pre:N.take P.length=P
 par:∀x∈P,sc.names.lookup x=some .local∨sc.names.lookup x=some .cell
 CS:∀y∈sc.names,y.2≠ .free
theorem lO{kindOf:Str→Option NameKind}{x:Str}:∀{binds:List (Str×Value)} {m:Str→Option Value},(∀v,(x,v)∉binds)→bindL kindOf binds m x=m x
 | [],_,_=>rfl
 | (n,v)::r,m,h=>by
   unfold bindL
   rw[lO fun w hw=>h w (List.mem_cons_of_mem _ hw)]
   split
   ·have:x≠n:=by rintro rfl;exact h v List.mem_cons_self
    simp [this]
   ·rfl
theorem lP{kindOf:Str→Option NameKind}{x:Str}:∀{binds:List (Str×Value)} {m:Str→Option Value},(∀v,(x,v)∉binds)→bindC kindOf binds m x=m x
 | [],_,_=>rfl
 | (n,v)::r,m,h=>by
   unfold bindC
   rw[lP fun w hw=>h w (List.mem_cons_of_mem _ hw)]
   split
   ·rfl
   ·have:x≠n:=by rintro rfl;exact h v List.mem_cons_self
    simp [this]
theorem lQ{kindOf:Str→Option NameKind}{x:Str}{v:Value}:∀{P:List Str} {vs:List Value} {i:Nat} {m:Str→Option Value},P.Nodup→P[i]? =some x→vs[i]? =some v→kindOf x=some .local→
  bindL kindOf (P.zip vs) m x=some v
 | [],_,_,_,_,h,_,_=>by simp at h
 |_::_,[],_,_,_,_,h,_=>by simp at h
 |p::P,w::vs,0,m,nd,h1,h2,hk=>by
  simp at h1 h2;subst h1;subst h2
  show bindL kindOf ((p,w)::P.zip vs) m p=_
  unfold bindL
  rw[lO fun v hv=>(List.nodup_cons.mp nd).1 (List.of_mem_zip hv).1,if_pos hk]
  simp
 |p::P,w::vs,i+1,m,nd,h1,h2,hk=>by
  show bindL kindOf ((p,w)::P.zip vs) m x=_
  unfold bindL
  exact lQ (i:=i) (List.nodup_cons.mp nd).2 (by simpa using h1) (by simpa using h2) hk
theorem lU{kindOf:Str→Option NameKind}{x:Str}{v:Value}:∀{P:List Str} {vs:List Value} {i:Nat} {m:Str→Option Value},P.Nodup→P[i]? =some x→vs[i]? =some v→kindOf x≠some .local→
  bindC kindOf (P.zip vs) m x=some v
 | [],_,_,_,_,h,_,_=>by simp at h
 |_::_,[],_,_,_,_,h,_=>by simp at h
 |p::P,w::vs,0,m,nd,h1,h2,hk=>by
  simp at h1 h2;subst h1;subst h2
  show bindC kindOf ((p,w)::P.zip vs) m p=_
  unfold bindC
  rw[lP fun v hv=>(List.nodup_cons.mp nd).1 (List.of_mem_zip hv).1,if_neg hk]
  simp
 |p::P,w::vs,i+1,m,nd,h1,h2,hk=>by
  show bindC kindOf ((p,w)::P.zip vs) m x=_
  unfold bindC
  exact lU (i:=i) (List.nodup_cons.mp nd).2 (by simpa using h1) (by simpa using h2) hk
def start(N:List Str)(vs:List V):St:=vs.map some++List.replicate (N.length - vs.length) none
def lE(CX:uY)(P:Program)(w:World)(K:PySem.W.Frag)(mg:Str→Option Value)(base:Heap)(N:List Str)(qual:Str)(scope:Scope)(f:Addr)(cd:Value)(A:Around)(outer:List Env)(s:Shared)(H:Hp)(E:XK):Cx where
 prog:=P
 w:=w
 K:=K
 mg:=mg
 base:=base
 A:=A.deeper (envOfC qual scope s.heap.objs.size f cd)
 N:=N
 s₀:=s
 H₀:=H
 env:=envOfC qual scope s.heap.objs.size f cd
 outer:=outer
 stack:=envOfC qual scope s.heap.objs.size f cd::outer
 ex:=[]
 calm:=true
 fn:=fun _=>true
 pn:=[]
 xe:=fun e s'=>wpAny (model P w) (A.deeper (envOfC qual scope s.heap.objs.size f cd)) (leaving (envOfC qual scope s.heap.objs.size f cd) e) (fun _ p7=>CX outer H s E e p7) (fun e' p7=>CX outer H s E e' p7) s'
theorem ot{sc:Scope}{n:Nat}{x:Str}(h:sc.names.lookup x=some .cell):∃c,(cellsFrom n sc.names []).lookup x=some c:=by
 have q:=PySem.W.cellsFrom_some sc.names n [] (.inl h)
 exact Option.isSome_iff_exists.mp q
theorem sV{CX:uY}{P:Program}{w:World}{K:PySem.W.Frag}{mg:Str→Option Value}{base:Heap}{N ps:List Str}{qual:Str}{scope:Scope}{f:Addr}{cd:Value}{A:Around}{outer:List Env}{s s1:Shared}{H:Hp}{E:XK}{us:List Value}{vs:List V}
  (S:aI N ps scope) (hd:A.handled=none) (e0:pZ P w K mg base A outer s H) (hl:vs.length=ps.length) (r:Vals vs us)
  (x:InCallC s s.heap.objs.size (bindL (envOfC qual scope s.heap.objs.size f cd).kindOf (ps.zip us) fun _=>none) (cellsFrom (s.heap.objs.size+1) scope.names []) (bindC (envOfC qual scope s.heap.objs.size f cd).kindOf (ps.zip us) fun _=>none) s1):
  Inv (lE CX P w K mg base N qual scope f cd A outer s H E) [] (start N vs) H s1:=by
 have uu:ps.length≤N.length:=by have:=congrArg List.length S.pre;rw[List.length_take] at this;omega
 obtain⟨h1,tk,rfl,hk⟩:=x.done
 have G1:∀b:Addr,b∉(lE CX P w K mg base N qual scope f cd A outer s H E).ex:=fun b z=>absurd (show b∈([]:List Addr) from z) (by simp)
 refine⟨⟨e0.mod,S.kind,rfl,rfl,Nat.le_refl _,fun y z c h1 h2=>?_,fun y hy=>?_,fun y c _ h=>?_,fun _=>hd,Around.frames_deeper e0.frames, .inr ⟨rfl,rfl⟩,fun b z=>absurd z (G1 b),e0.bs,e0.sH,fun b _ _=>G1 b,fun b z=>absurd z (G1 b),e0.iq,e0.x9⟩,
  rfl,e0.bare,Un.kept hk,⟨_,x.toInCall.ns,fun i y v h1 h2 h3=>?_⟩,fun y c h=>⟨_,x.cell y c h⟩,e0.bV.fresh (Nat.le_refl _),fun y c h=>?_,fun p hp=>absurd (show p∈([]:List (Addr×Obj)) from hp) (by simp),e0.bV.kept hk,?_⟩
 ·exact name_of_addr x.apart (PySem.mem_of_lookup h1) (PySem.mem_of_lookup h2)
 ·have hy:scope.names.lookup y=some .cell∨scope.names.lookup y=some .free:=hy
  rcases hy with hy|hy
  ·exact ot hy
  ·exact absurd rfl (S.CS _ (PySem.mem_of_lookup hy))
 ·exact Nat.le_of_lt (x.above y c (PySem.mem_of_lookup h))
 ·have hi:i<vs.length:=by
   unfold start at h2
   by_cases hi:i<vs.length
   ·exact hi
   ·rw[List.getElem?_append_right (by simpa using hi)] at h2
    rw[List.getElem?_replicate] at h2
    split at h2<;>cases h2
  have ha:vs[i]? =some v:=by
   unfold start at h2
   rw[List.getElem?_append_left (by simpa using hi),List.getElem?_map] at h2
   cases e:vs[i]? with
   |none=>rw[e] at h2;cases h2
   |some a=>rw[e] at h2;cases h2;rfl
  obtain⟨u,hu,rv⟩:=r.get ha
  have hp:ps[i]? =some y:=by
   rw[←S.pre,List.getElem?_take_of_lt (by omega)];exact h1
  have Si:ps.Nodup:=by rw[←S.pre];exact S.nd.sublist (List.take_sublist _ _)
  refine⟨u,rv,?_⟩
  rcases S.par y (List.mem_of_getElem? hp) with k|k
  ·exact .inl ⟨k,lQ Si hp hu k⟩
  ·obtain⟨c,e⟩:=ot (n:=s.heap.objs.size+1) k
   refine .inr ⟨.inl k,c,e,?_⟩
   have q:=x.cell y c e
   rw[lU Si hp hu (by show scope.names.lookup y≠_;rw[k];decide)] at q
   exact q
 ·exact e0.bV.fresh (Nat.le_of_lt (x.above y c (PySem.mem_of_lookup h)))
 ·unfold start
  show _=N.length
  rw[List.length_append,List.length_map,List.length_replicate]
  omega
theorem fn_of{CX:uY}{P:Program}{w:World}{K:PySem.W.Frag}{mg:Str→Option Value}{base:Heap}{k:Nat}{f:Addr}{name qual:Str}{params:Arguments}{body:List Stmt}{scope:Scope}{dV kV doc pm b6 ct oc:Value}{an od:Option Addr}
  {qZ:Array (Option Value)} {N ps:List Str} {sp:Sp} (lk:K.lookup f=some ⟨oc,od, .func (PySem.W.fnOf name qual params body scope dV kV doc pm an b6 ct),qZ⟩) (sI:PySem.W.codeIn K b6 qual=true) (S:aI N ps scope)
  (len:∀vs H Q E,sp vs H Q E→vs.length=ps.length)
  (fW:∀(A:Around) (outer:List Env) (s:Shared) (H:Hp) (vs:List V) (Q:VK) (E:XK),cV k (A.deeper (envOfC qual scope s.heap.objs.size f b6))→sp vs H Q E→
   ∃t,nV (lE CX P w K mg base N qual scope f b6 A outer s H E) body t∧t { nx:=fun _ H'=>Q .dG H',rt:=Q } (start N vs) H):
  fO P w K mg base CX (k+1) f (PySem.W.fnOf name qual params body scope dV kV doc pm an b6 ct) ps sp:=by
 refine⟨len,fun A outer s H args us vs Q E hr e0 hb r xR=>?_⟩
 have hl:=len _ _ _ _ xR
 have KX:K.In s.heap:=e0.mod.Gy.keeps fun b o e=>(e0.bs b o e).1
 have lim:s.heap.NoLimit:=e0.mod.nolimit.keeps fun b o e=>(e0.bs b o e).1
 have G4:∀y∈ps.zip us,scope.names.lookup y.1=some .local∨(scope.names.lookup y.1=some .cell∧((cellsFrom (s.heap.objs.size+1) scope.names []).lookup y.1).isSome=true):=fun⟨n,v⟩ hy=>by
  rcases S.par n (List.of_mem_zip hy).1 with q|q
  ·exact .inl q
  ·exact .inr ⟨q,PySem.W.cellsFrom_some _ _ _ (.inl q)⟩
 refine codeAny_call_function hr.depth (KX _ _ lk) rfl S.co S.gen rfl (PySem.W.codeRec_of KX sI) (hb _ _ _ _ ?_)
 refine wpAny_newFunctionEnv_cells S.kind G4 fun env he s1 x=>?_
 subst he
 refine⟨lim.keeps x.toInCall.keep,codeAny_func ?_⟩
 obtain⟨t,ht,hq⟩:=fW A outer s H vs Q E (hr.deeper _) xR
 have I:Inv (lE CX P w K mg base N qual scope f b6 A outer s H E) [] (start N vs) H s1:=sV S hr.hd e0 hl r x
 refine wpAny_mono (ht [] s1 (start N vs) H _ I hq) (fun fl s' hs=>?_) fun e s' hs=>hs
 have fin:∀{σ':St} {H':Hp} {v:V} {u:Value},Inv (lE CX P w K mg base N qual scope f b6 A outer s H E) [] σ' H' s'→RelV v u→Q v H'→CE outer P w H s Q u s':=
  fun {σ' H' v u} J rv q=>⟨v,H',J.os,J.bare,J.base,J.bV,rv,q⟩
 cases fl with
 |ret u=>
  obtain⟨v,σ',H',J,rv,q⟩:=hs
  exact fin J rv q
 |next=>
  obtain⟨σ',H',J,q⟩:=hs
  exact fin (v:=V.dG) (u:=Value.none) J rfl q
 |brk=>
  obtain⟨_,_,_,q⟩:=hs
  exact False.elim q
 |cont=>
  obtain⟨_,_,_,q⟩:=hs
  exact False.elim q
end L2
namespace L2
open PySem PySem.Spec PyProof.Rows
section
variable {X:Cx}{x:Str}{p pos:Pos}{e:Expr}{es:List Expr}{t:TA}{id T:String}{r:List V→Hp→VK→Prop}
def Sj(r:List V→Hp→VK→Prop)(t:TA):TE:=fun σ H Q=>t σ H fun vs H1=>r vs H1 Q
theorem aL(hc:eh X (.builtin id) r)(hg:Gl X x)(hm:X.mg x=none)(hv:bootBuiltins x=some (.builtin id))(ha:PA X (e::es) t)(hn:x≠"__name__" :=by decide)(yj:(x==("__debug__" :Str))=false:=by decide)
  (he:starEach (e::es) X.env=(false,eval e X.env)::starEach es X.env:=by rfl) (uu:(backTo pos (starEach es X.env)).any (·.1)=false:=by rfl):PE X (.Call (.Name x p) (e::es) [] pos) (Sj r t):=by
 intro pins s σ H Q I h
 refine wpAny_Call_Name_kw (fk I hg hm hv ?_ hn yj)
 exact PyProof.Rows.callWith_builtin1 (bF (ha pos pins s σ H _ I h) fun us s1 ⟨vs,H1,I1,r1,q1⟩=>hc pins s1 σ H1 vs us Q I1 r1 q1) he uu
theorem cq(hc:eh X (.type T) r)(hg:Gl X x)(hm:X.mg x=none)(hv:bootBuiltins x=some (.type T))(ha:PA X (e::es) t)(hn:x≠"__name__" :=by decide)(yj:(x==("__debug__" :Str))=false:=by decide)
  (he:starEach (e::es) X.env=(false,eval e X.env)::starEach es X.env:=by rfl) (uu:(backTo pos (starEach es X.env)).any (·.1)=false:=by rfl):PE X (.Call (.Name x p) (e::es) [] pos) (Sj r t):=by
 intro pins s σ H Q I h
 refine wpAny_Call_Name_kw (fk I hg hm hv ?_ hn yj)
 exact PyProof.Rows.callWith_type1 (bF (ha pos pins s σ H _ I h) fun us s1 ⟨vs,H1,I1,r1,q1⟩=>hc pins s1 σ H1 vs us Q I1 r1 q1) he uu
end
end L2
namespace L2
open PySem PySem.Spec PyProof.Rows
section
variable {κ:Type}[DecidableEq κ]
end
section
variable {P:Program}{w:World}{H:Hp}{h:Heap}{a:Addr}
end
section
variable {X:Cx}{pins:List (Addr×Obj)}{σ:St}{H:Hp}{s:Shared}{a:Addr}{y v:V}{u r:Value}{o:Option V}{A:Around}{E:Value→Shared→Prop}
end
section
variable {X:Cx}{pins:List (Addr×Obj)}{σ:St}{H:Hp}{s:Shared}{a:Addr}{ip:List (Key×V)}{k:Key}{u:Value}{A:Around}{E:Value→Shared→Prop}
end
section
variable {X:Cx}{o i e value:Expr}{pos pos' i7:Pos}{td ty tv:TE}
end
section
variable {X:Cx}{pos:Pos}
end
section
variable {X:Cx}{pins:List (Addr×Obj)}{σ:St}{H:Hp}{s:Shared}{a:Addr}{y d:V}{u r:Value}{o:Option V}{A:Around}{E:Value→Shared→Prop}
end
section
variable {X:Cx}{o e f:Expr}{apos kn:Pos}{td ty tx:TE}
end
section
variable {X:Cx}{pins:List (Addr×Obj)}{σ:St}{H:Hp}{s:Shared}{a:Addr}{ip:List (Key×V)}{A:Around}{E:Value→Shared→Prop}
end
section
variable {X:Cx}{pins:List (Addr×Obj)}{σ:St}{H:Hp}{s:Shared}{a:Addr}{y:V}{u:Value}{A:Around}{E:Value→Shared→Prop}
end
end L2
namespace HT
open PySem PyProof.Rows
theorem ou(A:Around)(s:Shared)(a:Int)(t:Tok)(c:Int)(u:Tok)(prog:Program)(w:World)(E:Value→Shared→Prop)(Q:Value→Shared→Prop)(h:Q (.bool (decide (a<c))) s):
  wpAny (model prog w) A (richCompare .Lt (.int a t) (.int c u)) Q E s:=
 (PyProof.Rows.lt_int h:wpAny (model prog w) A (compareOp .Lt (.int a t) (.int c u)) Q E s)
section
open PySem.SeqAt
open PySem.AutoSeq1 (wpAny_loadPart')
open PySem.MeetsSeq PySem.MeetsSeq2 PySem.MeetsSeq3
end
section
variable {prog:Program}{w:World}{A:Around}{E:Value→Shared→Prop}{s:Shared}
def ow(n d:Nat):Option Int→Nat
 |none=>d
 |some v=>if v<0 then (v+(n:Int)).toNat else min v.toNat n
theorem u4(n d:Nat):ow n d none=d:=rfl
theorem yk(n d k:Nat):ow n d (some (k:Int))=min k n:=by
 show (if (k:Int) <0 then ((k:Int)+(n:Int)).toNat else min (k:Int).toNat n)=min k n
 rw[if_neg (by omega),Int.toNat_natCast]
end
end HT
namespace L2
open PySem PySem.Spec PyProof.Rows
abbrev TO:=St→Hp→(Option Int→Hp→Prop)→Prop
def PO(X:Cx)(e:Option Expr)(t:TO):Prop:=
 ∀(pins:List (Addr×Obj)) (s:Shared) (σ:St) (H:Hp) (Q:Option Int→Hp→Prop),Inv X pins σ H s→t σ H Q→
  wpAny (model X.prog X.w) X.A (evalPart e X.env) (fun u s'=>∃o H',Inv X pins σ H' s'∧IsPart u o∧Q o H') X.xe s
def ym:TO:=fun _ H Q=>Q none H
def G5(t:TE):TO:=fun σ H Q=>t σ H fun x H1=>∃i,x= .int i∧Q (some i) H1
theorem intsAre_of{ns:List Int}:∀{us:List Value},Vals (ns.map V.int) us→IntsAre us ns:=by
 induction ns with
 |nil=>intro us r;rw[List.map_nil] at r;cases r;exact .nil
 |cons n ns ih=>
  intro us r
  rw[List.map_cons] at r
  cases r with
  |cons r1 r2=>
   obtain⟨t,e⟩:=r1
   subst e
   exact .cons n t (ih r2)
section
variable {X:Cx}{e:Expr}{te:TE}{lo hi:Option Expr}{tl th:TO}{pos p2:Pos}
theorem yo:PO X none ym:=by
 intro pins s σ H Q I h
 rw[evalPart_none]
 exact wpAny_pure ⟨none,H,I, .none,h⟩
theorem mL(h:PE X e te):PO X (some e) (G5 te):=by
 intro pins s σ H Q I hw
 rw[evalPart_some]
 refine bF (h pins s σ H _ I hw) fun u s1 ⟨x,H1,I1,r1,q1⟩=>?_
 obtain⟨i,rfl,q⟩:=q1
 obtain⟨t,rfl⟩:=r1
 exact⟨some i,H1,I1, .int i t,q⟩
def Sk(X:Cx)(r:V→Option Int→Option Int→Hp→VK→Prop):Prop:=
 ∀(pins:List (Addr×Obj)) (s:Shared) (σ:St) (H:Hp) (x:V) (v vl vu:Value) (lo hi:Option Int) (sl:Addr) (Q:VK),Inv X pins σ H s→RelV x v→s.heap.IsSliceOf sl vl vu .none→IsPart vl lo→IsPart vu hi→r x lo hi H Q→
  ∃T id,typeLookup (.type T) "__getitem__" =pure (some (.builtin id))∧s.TypeIs v T∧wpAny (model X.prog X.w) X.A (getItem v (.ref sl)) (EP X pins σ Q) X.xe s
def UC(r:V→Option Int→Option Int→Hp→VK→Prop)(te:TE)(tl th:TO):TE:=fun σ H Q=>te σ H fun x H1=>tl σ H1 fun l H2=>th σ H2 fun u H3=>r x l u H3 Q
theorem oy{r:V→Option Int→Option Int→Hp→VK→Prop}(hr:Sk X r)(he:PE X e te)(hl:PO X lo tl)(hu:PO X hi th):PE X (.Subscript e (.Slice lo hi none p2) pos) (UC r te tl th):=by
 intro pins s σ H Q I h
 refine Subscript_ (bF (he pins s σ H _ I h) fun v s1 ⟨x,H1,I1,r1,q1⟩=>?_)
 refine wpAny_Slice (bF (hl pins s1 σ H1 _ I1 q1) fun vl s2 ⟨l,H2,I2,pl,q2⟩=>bF (hu pins s2 σ H2 _ I2 q2) fun vu s3 ⟨u,H3,I3,pu,q3⟩=>?_)
 rw[evalPart_none]
 refine wpAny_pure ?_
 have I4:Inv X pins σ H3 { s3 with heap:=s3.heap.push { cls:= .type "slice",data:= .fields #[vl,vu, .none] } }:=I3.kept (t':=s3.toks) fun b ob q=>Heap.get?_push_of_some _ q
 obtain⟨T,id,hT,ht,hg⟩:=hr pins { s3 with heap:=s3.heap.push { cls:= .type "slice",data:= .fields #[vl,vu, .none] } } σ H3 x v vl vu l u s3.heap.objs.size Q I4 r1 (Heap.IsSliceOf.new ..) pl pu q3
 show wpAny (model X.prog X.w) X.A (subscriptTail e (.Slice lo hi none p2) v (.ref s3.heap.objs.size)) (EP X pins σ Q) X.xe { s3 with heap:=s3.heap.push { cls:= .type "slice",data:= .fields #[vl,vu, .none] } }
 exact tail_any (ops:=[.ref s3.heap.objs.size,v]) ht hT hg (by with_unfolding_all rfl)
def jc(xs:List V)(lo hi:Option Int):List V:=(xs.drop (HT.ow xs.length 0 lo)).take (HT.ow xs.length xs.length hi - HT.ow xs.length 0 lo)
theorem jv(xs:List V)(lo hi:Option Int):(jc xs lo hi).length≤xs.length:=by
 unfold jc
 rw[List.length_take,List.length_drop]
 omega
end
end L2
namespace L2
open PySem PySem.Spec PyProof.Rows
def pL(n:Nat)(i:Int):Option Nat:=if 0≤i then (if i<n then some i.toNat else none) else if -(n:Int)≤i then some (i+n).toNat else none
def Bg{α:Type}(xs:List α)(i:Int):Option α:=(pL xs.length i).bind fun j=>xs[j]?
theorem rf{n:Nat}{i:Int}{j:Nat}(h:pL n i=some j):seqIndex? i n=some j∧j<n∧ -(n:Int)≤i∧i<n:=by
 unfold pL at h
 by_cases h0:0≤i
 ·rw[if_pos h0] at h
  by_cases h1:i<n
  ·rw[if_pos h1] at h
   have e:i.toNat=j:=Option.some.inj h
   exact⟨by rw[seqIndex_of h0 h1,e],by omega,by omega,h1⟩
  ·rw[if_neg h1] at h;cases h
 ·rw[if_neg h0] at h
  by_cases h1: -(n:Int)≤i
  ·rw[if_pos h1] at h
   have e:(i+n).toNat=j:=Option.some.inj h
   exact⟨by rw[seqIndex_neg (by omega) h1,e],by omega,h1,by omega⟩
  ·rw[if_neg h1] at h;cases h
theorem yp{α:Type}{xs:List α}{i:Int}{v:α}(h:Bg xs i=some v):∃j,seqIndex? i xs.length=some j∧xs[j]? =some v∧j<xs.length∧ -(xs.length:Int)≤i∧i<xs.length:=by
 unfold Bg at h
 cases e:pL xs.length i with
 |none=>rw[e] at h;cases h
 |some j=>
  rw[e] at h
  obtain⟨h1,h2,h3,h4⟩:=rf e
  exact⟨j,h1,h,h2,h3,h4⟩
theorem cb{α:Type}{xs:List α}{j:Nat}{v:α}(h:xs[j]? =some v):Bg xs (j:Int)=some v:=by
 have hj:j<xs.length:=(List.getElem?_eq_some_iff.mp h).1
 have e:pL xs.length (j:Int)=some j:=by
  unfold pL
  rw[if_pos (by omega),if_pos (by omega)];simp
 unfold Bg;rw[e];exact h
def yt(b:Expr):Prop:=∀o i,subscripted b false o i=operate [o,i] (getItem o i)
def Ph(X:Cx)(r:R2):Prop:=
 ∀(value slice:Expr) (pins:List (Addr×Obj)) (s:Shared) (σ:St) (H:Hp) (x y:V) (v u:Value) (Q:VK),Inv X pins σ H s→RelV x v→RelV y u→r x y H Q→
  subscripted slice false v u=operate [v,u] (getItem v u)→wpAny (model X.prog X.w) X.A (subscriptTail value slice v u) (EP X pins σ Q) X.xe s
def UD(X:Cx)(id:String)(r:V→List V→Hp→VK→Prop):Prop:=
 ∀(pins:List (Addr×Obj)) (s:Shared) (σ:St) (H:Hp) (x:V) (xs:List V) (v:Value) (us:List Value) (Q:VK),Inv X pins σ H s→RelV x v→Vals xs us→r x xs H Q→
  wpAny (model X.prog X.w) X.A (call (.builtin id) (v::us)) (EP X pins σ Q) X.xe s
section
variable {X:Cx}{a b:Expr}{ta tb:TE}{pos:Pos}
theorem dz{r:R2}(hr:Ph X r)(ha:PE X a ta)(hb:PE X b tb)(hs:yt b):PE X (.Subscript a b pos) (N3 r ta tb):=by
 intro pins s σ H Q I h
 exact Subscript_ (CM ha hb I h fun v u s2 x y H2 I2 rx ry q=>hr a b pins s2 σ H2 x y v u Q I2 rx ry q (hs _ _))
def G6(K:PySem.W.Frag):R2:=fun x y H Q=>∃p xs i v,x= .ref p∧y= .int i∧aD K H p xs∧Bg xs i=some v∧Q v H
theorem dP:Ph X (G6 X.K):=by
 intro value slice pins s σ H x y v u Q I rx ry h hs
 obtain⟨p,xs,i,z,rfl,rfl,hq,he,q⟩:=h
 cases rx
 obtain⟨t,rfl⟩:=ry
 obtain⟨its,r,pl,hz⟩:=I.list hq
 obtain⟨j,h1,h2,h3,h4,h5⟩:=yp he
 obtain⟨w,ew,uv⟩:=r.get h2
 have hl:=r.length
 have hn:=mJ
 have fin:EP X pins σ Q w s:=⟨z,H,I,uv,q⟩
 by_cases h0:0≤i
 ·have hj:i.toNat=j:=by
   rw[seqIndex_of h0 h5] at h1
   exact Option.some.inj h1
  exact item_listR pl.isList h0 (by omega) (by rw[hj];simpa using ew) fin hs
 ·have hj:(i+(its.toArray.size:Int)).toNat=j:=by
   rw[seqIndex_neg (by omega) h4] at h1
   rw[List.size_toArray,←hl]
   exact Option.some.inj h1
  exact subscriptTail_builtinR (x:=w) pl.isList.typeIs slot_list_getitem.lookup
   (wpAny_getItem_list_neg (Q:=fun r s'=>r=w∧EP X pins σ Q r s') pl.isList (by omega) (by rw[List.size_toArray]<;>omega) (by omega) (by rw[hj];simpa using ew) ⟨rfl,fin⟩) hs
theorem p8(its:List Value)(n j:Nat)(u:Value):Obj.mapSeq (·.setIfInBounds j u) { cls:= .type "list",data:= .seq its.toArray n }={ cls:= .type "list",data:= .seq (its.set j u).toArray n }:=by
 simp [Obj.mapSeq]
theorem Inv.lst{pins:List (Addr×Obj)}{σ:St}{H:Hp}{s:Shared}{p:Addr}{xs:List V}(I:Inv X pins σ H s)(h:H p=some (.lst xs)):
  ∃(its:List Value) (n:Nat),Vals xs its∧s.heap.get? p=some { cls:= .type "list",data:= .seq its.toArray n }∧xs.length≤sizeLine:=by
 obtain⟨z,its,n,r,e⟩:=I.bV p _ h
 exact⟨its,n,r,e,z⟩
theorem Inv.CT{pins:List (Addr×Obj)}{σ:St}{H:Hp}{s:Shared}{p:Addr}{xs ys:List V}{its its':List Value}{n n':Nat}{f:Obj→Obj}(I:Inv X pins σ H s)(h:H p=some (.lst xs))
  (ho:s.heap.get? p=some { cls:= .type "list",data:= .seq its.toArray n }) (hf:f { cls:= .type "list",data:= .seq its.toArray n }={ cls:= .type "list",data:= .seq its'.toArray n' }) (r:Vals ys its') (hz:ys.length≤sizeLine) (t:Nat):
  Inv X pins σ (upd H p (.lst ys)) { s with heap:=s.heap.update p f,toks:=t }:=by
 have e:(s.heap.update p f).get? p=some { cls:= .type "list",data:= .seq its'.toArray n' }:=by
  rw[Heap.get?_update_self f ho (by rw[hf]<;>rfl),hf]
 refine I.write (x:=p) (e:=p) (by rw[h];trivial) (.inl rfl) (fun b u hb q=>(Heap.get?_update_other _ _ (Ne.symm hb)).trans q) ⟨_,e⟩ ?_
 exact⟨hz,its',n',r,e⟩
def G7:V→V→V→Hp→(Hp→Prop)→Prop:=fun o i v H Q=>∃p xs k j,o= .ref p∧i= .int k∧H p=some (.lst xs)∧pL xs.length k=some j∧Q (upd H p (.lst (xs.set j v)))
theorem set_list:CJ X G7:=by
 intro pins s σ H o i v ov iv u Q I ro ri rv h
 obtain⟨p,xs,k,j,rfl,rfl,hp,hj,q⟩:=h
 cases ro
 obtain⟨t,rfl⟩:=ri
 obtain⟨its,n,r,ho,hz⟩:=I.lst hp
 obtain⟨h1,h2,h3,h4⟩:=rf hj
 have hl:=r.length
 have hn:=mJ
 have I':Inv X pins σ (upd H p (.lst (xs.set j v))) { s with heap:=s.heap.update p (Obj.mapSeq (·.setIfInBounds j u)) }:=
  I.CT hp ho (p8 its n j u) (r.set rv j) (by rw[List.length_set];exact hz) s.toks
 by_cases h0:0≤k
 ·have hk:k.toNat=j:=by
   rw[seqIndex_of h0 h4] at h1
   exact Option.some.inj h1
  exact PySem.W.ki_setAt ho h0 (by omega) (by rw[List.size_toArray,←hl];exact h4) (by rw[hk];exact⟨_,I',q⟩)
 ·have hk:(k+(its.toArray.size:Int)).toNat=j:=by
   rw[seqIndex_neg (by omega) h3] at h1
   rw[List.size_toArray,←hl]
   exact Option.some.inj h1
  exact PySem.W.ki_setBack ho (by omega) (by rw[List.size_toArray,←hl];exact h3) (by omega) (by rw[hk];exact⟨_,I',q⟩)
theorem slice_bounds(lo hi:Option Int)(n:Nat):(sliceBounds lo hi none n).1=((HT.ow n 0 lo:Nat):Int)∧(sliceBounds lo hi none n).2.1=((HT.ow n n hi:Nat):Int)∧(sliceBounds lo hi none n).2.2=1:=by
 refine⟨?_,?_,rfl⟩
 ·cases lo with
  |none=>simp [sliceBounds,HT.ow]
  |some i=>
   simp only [sliceBounds,HT.ow,Option.getD_none,show (1 :Int) >0 by decide,if_true]
   by_cases h:i<0
   ·simp only [h,if_true]<;>omega
   ·simp only [h,if_false]<;>omega
 ·cases hi with
  |none=>simp [sliceBounds,HT.ow]
  |some i=>
   simp only [sliceBounds,HT.ow,Option.getD_none,show (1 :Int) >0 by decide,if_true]
   by_cases h:i<0
   ·simp only [h,if_true]<;>omega
   ·simp only [h,if_false]<;>omega
theorem lF(its:List Value)(lo hi:Option Int):slicePick its.toArray lo hi none=((its.drop (HT.ow its.length 0 lo)).take (HT.ow its.length its.length hi - HT.ow its.length 0 lo)).toArray:=by
 obtain⟨h1,h2,h3⟩:=slice_bounds lo hi its.toArray.size
 unfold slicePick
 rw[h1,h2,h3]
 simp only [sliceRange_one,pick_run,List.size_toArray]<;>rfl
def Pj(K:PySem.W.Frag):V→Option Int→Option Int→Hp→VK→Prop:=fun x lo hi H Q=>∃a xs,x= .ref a∧aD K H a xs∧∀p,H p=none→Q (.ref p) (upd H p (.lst (jc xs lo hi)))
theorem rg:Sk X (Pj X.K):=by
 intro pins s σ H x v vl vu lo hi sl Q I rx hs pl pu h
 obtain⟨a,xs,rfl,hx,q⟩:=h
 cases rx
 obtain⟨its,r,ht,hz⟩:=I.list hx
 have hlen:=r.length
 refine⟨"list",_,slot_list_getitem.lookup,ht.isList.typeIs,?_⟩
 refine wpAny_getItem_list_slice ht.isList hs pl pu .none (by simp) ?_ (by rw[List.size_toArray]<;>omega)
 rw[lF,←hlen]
 refine⟨.ref s.heap.objs.size,_,I.laid (t':=s.toks) (o:= .lst (jc xs lo hi)) (fun b ob q=>Heap.get?_push_of_some _ q) (Nat.le_refl _) ?_,rfl,q _ (I.bV.fresh (Nat.le_refl _))⟩
 exact⟨Nat.le_trans (jv xs lo hi) hz,_,0,(r.drop (HT.ow xs.length 0 lo)).take (HT.ow xs.length xs.length hi - HT.ow xs.length 0 lo),Heap.get?_push_size _ rfl⟩
theorem aY:eh X (.builtin "len") (fun xs H Q=>∃p ys,xs=[.ref p]∧(aD X.K H p ys∨kd X.K H p ys)∧Q (.int ys.length) H):=by
 intro pins s σ H xs us Q I r h
 obtain⟨p,ys,rfl,hq,q⟩:=h
 obtain⟨u,rfl,rx⟩:=vals1 r
 cases rx
 have hn:=mJ
 rcases hq with hq|hq
 ·obtain⟨its,r',pl,hz⟩:=I.list hq
  have hlen:=r'.length
  exact Calls.call_len_list pl.isList (by simp only [List.size_toArray]<;>omega) ⟨.int ys.length,H,I.tok _,⟨s.toks+1,by rw[List.size_toArray,hlen]⟩,q⟩
 ·obtain⟨its,r',pl,hz⟩:=I.tuple hq
  have hlen:=r'.length
  exact len_tuple pl (by simp only [List.size_toArray]<;>omega) ⟨.int ys.length,H,I.tok _,⟨s.toks+1,by rw[List.size_toArray,hlen]⟩,q⟩
theorem br:eh X (.type "list") (fun xs H Q=>∃p ys,xs=[.ref p]∧(aD X.K H p ys∨kd X.K H p ys)∧∀l,H l=none→Q (.ref l) (upd H l (.lst ys))):=by
 intro pins s σ H xs us Q I r h
 obtain⟨p,ys,rfl,hq,q⟩:=h
 obtain⟨u,rfl,rx⟩:=vals1 r
 cases rx
 have fin:∀(its:List Value),Vals ys its→ys.length≤sizeLine→∀(h':Heap) (c':Nat),(∀b o',s.heap.get? b=some o'→h'.get? b=some o')→
   h'.get? s.heap.objs.size=some { cls:= .type "list",dict:=none,data:= .seq its.toArray c',slots:=#[] }→EP X pins σ Q (.ref s.heap.objs.size) { s with heap:=h' }:=fun its r' hz h' c' kp e=>
  ⟨.ref s.heap.objs.size,_,I.laid (t':=s.toks) kp (Nat.le_refl _) (show cR X.prog X.w _ h' _ (.lst ys) from ⟨hz,its,c',r',e⟩),rfl,q _ (I.bV.fresh (Nat.le_refl _))⟩
 rcases hq with hq|hq
 ·obtain⟨its,r',pl,hz⟩:=I.list hq
  have hlen:=r'.length
  obtain⟨o,ho,hc,n,hd⟩:=pl.isList
  exact call_list_seq p (.inl rfl) ho hc hd (fun h' c' kp e=>fin its r' hz h' c' kp e) (by simp only [List.size_toArray]<;>omega)
 ·obtain⟨its,r',pl,hz⟩:=I.tuple hq
  have hlen:=r'.length
  obtain⟨o,ho,hc,n,hd⟩:=pl
  exact call_list_seq p (.inr rfl) ho hc hd (fun h' c' kp e=>fin its r' hz h' c' kp e) (by simp only [List.size_toArray]<;>omega)
def Sl(K:PySem.W.Frag)(T:String)(x:V)(H:Hp):Prop:=match x with
 | .str _=>T="str"
 | .int _=>T="int"
 | .ref p=>(T="list" ∧∃xs,aD K H p xs)∨(T="tuple" ∧∃o,K.lookup p=some o∧o.cls= .type "tuple" ∧o.dict=none)∨
   (T="dict" ∧((∃ip,H p=some (.dK ip))∨∃ip,H p=some (.dT ip)))∨(T="set" ∧∃S n,H p=some (.set S n))
 |_=>False
theorem CU{pins:List (Addr×Obj)}{σ:St}{H:Hp}{s:Shared}{T:String}{x:V}{v:Value}(I:Inv X pins σ H s)(r:RelV x v)(ty:Sl X.K T x H):
  s.TypeIs v T∧∀a,v= .ref a→∃ob,s.heap.get? a=some ob∧ob.dict=none:=by
 cases x with
 |str z=>
  obtain⟨t,rfl⟩:=r
  cases (show T="str" from ty)
  exact⟨typeIs_str s z t,fun _ e=>nomatch e⟩
 |int i=>
  obtain⟨t,rfl⟩:=r
  cases (show T="int" from ty)
  exact⟨typeIs_int s i t,fun _ e=>nomatch e⟩
 |ref p=>
  cases r
  rcases ty with ⟨rfl,xs,hq⟩ | ⟨rfl,o,hk,hc,hd⟩ | ⟨rfl,hk⟩ | ⟨rfl,S,n,hk⟩
  ·obtain⟨its,_,pl,_⟩:=I.list hq
   refine⟨pl.isList.typeIs,fun a e=>?_⟩
   cases e
   obtain⟨o,n,e,c,hd,_⟩:=pl
   exact⟨o,e,hd⟩
  ·refine⟨⟨o,I.ju p o hk,hc⟩,fun a e=>?_⟩
   cases e
   exact⟨o,I.ju _ o hk,hd⟩
  ·have z:∃o,s.heap.get? p=some o∧o.ExactDict:=by
    rcases hk with ⟨ip,hk⟩ | ⟨ip,hk⟩
    ·obtain⟨_,_,_,_,o,_,_,e,ex,_⟩:=I.bV p _ hk
     exact⟨o,e,ex⟩
    ·obtain⟨_,_,_,_,o,_,_,e,ex,_⟩:=I.bV p _ hk
     exact⟨o,e,ex⟩
   obtain⟨o,e,ex⟩:=z
   refine⟨⟨o,e,ex.1⟩,fun a e2=>?_⟩
   cases e2
   exact⟨o,e,ex.2.1⟩
  ·obtain⟨o,_,_,_,e,ex,_⟩:=I.bV p _ hk
   refine⟨⟨o,e,ex.1⟩,fun a e2=>?_⟩
   cases e2
   exact⟨o,e,ex.2.1⟩
 |_=>exact False.elim ty
def UE(K:PySem.W.Frag)(T:String)(r:V→List V→Hp→VK→Prop)(to:TE)(t:TA):TE:=fun σ H Q=>to σ H fun x H1=>Sl K T x H1∧t σ H1 fun xs H2=>r x xs H2 Q
variable {o e:Expr}{es:List Expr}{to:TE}{t:TA}{name:Str}{apos kn:Pos}{T id:String}{r:V→List V→Hp→VK→Prop}
theorem fX(pa:PlainAttrs T)(slot:Slot T name id)(UG:typeOf (.builtin id)=pure (.type "method_descriptor"))(hm:UD X id r)(ho:PE X o to)(ha:PA X (e::es) t)
  (G8:attributeBase o name X.env (eval o X.env)=eval o X.env:=by rfl)
  (u9:((backTo kn (starEach (e::es) X.env)).all (fun x=>!x.1)&&(backToKw kn (keywordEach [] X.env)).all (fun x=>x.1.isSome)
   &&decide ((e::es).length+([]:List Keyword).length+(if ([]:List Keyword).isEmpty then 0 else 1) <30))=true:=by rfl)
  (G9:(apos.endLine==kn.line)=true:=by rfl) (hs:starEach (e::es) X.env=(false,eval e X.env)::starEach es X.env:=by rfl) (CV:(backTo kn (starEach es X.env)).any (·.1)=false:=by rfl):
  PE X (.Call (.Attribute o name apos) (e::es) [] kn) (UE X.K T r to t):=by
 intro pins s σ H Q I h
 refine wpAny_Call_method_late G8 u9 G9 rfl (bF (ho pins s σ H _ I h) fun v s1 ⟨x,H1,I1,r1,ty,q1⟩=>?_)
 obtain⟨h1,h2⟩:=CU I1 r1 ty
 refine⟨T,id,pa,slot,UG,h1,h2,?_⟩
 have hA:=ha kn pins s1 σ H1 _ I1 q1
 rw[hs] at hA ⊢
 refine Calls.callWith_builtin (by show (false||(backTo kn (starEach es X.env)).any (·.1))=false;rw[CV]<;>rfl) (Calls.evalArgs_plain ?_)
 exact bF hA fun us s2 ⟨vs,H2,I2,r2,q2⟩=>hm pins s2 σ H2 x vs v us Q I2 r1 r2 q2
end
end L2
namespace L2
open PySem PySem.Spec PyProof.Rows
def Sn(X:Cx)(id:String)(r:V→List V→Hp→VK→Prop):Prop:=
 ∀(pins:List (Addr×Obj)) (s:Shared) (σ:St) (H:Hp) (x:V) (xs:List V) (v:Value) (us:List Value) (Q:VK),Inv X pins σ H s→RelV x v→Vals xs us→r x xs H Q→
  wpAny (model X.prog X.w) X.A (call (.builtin id) (v::us)) (EP X pins σ Q) X.xe s
theorem Vals.one:∀{x:V} {us:List Value},Vals [x] us→∃u,us=[u]∧RelV x u
 |_,_, .cons r .nil=>⟨_,rfl,r⟩
theorem Vals.rep{xs:List V}{us:List Value}(h:Vals xs us):∀k:Nat,Vals (List.replicate k xs).flatten (List.replicate k us).flatten
 |0=> .nil
 |k+1=>by
  rw[List.replicate_succ,List.replicate_succ,List.flatten_cons,List.flatten_cons]
  exact Vals.append h (Vals.rep h k)
theorem foldl_rep(its:List Value):∀(k:Nat) (acc:List Value),
  List.foldl (fun x1 x2=>x1++x2) acc.toArray (List.replicate k its.toArray)=(acc++(List.replicate k its).flatten).toArray
 |0,acc=>by simp
 |k+1,acc=>by
  have e:acc.toArray++its.toArray=(acc++its).toArray:=by simp
  have e2:(acc++its)++(List.replicate k its).flatten=acc++(List.replicate (k+1) its).flatten:=by
   rw[List.replicate_succ,List.flatten_cons,List.append_assoc]
  rw[←e2,←foldl_rep its k (acc++its),←e,List.replicate_succ,List.foldl_cons]
section
variable {X:Cx}{pins:List (Addr×Obj)}{σ:St}{H:Hp}{s:Shared}{l b:Addr}{xs ys zs:List V}
theorem Inv.Hc{its its':List Value}{n:Nat}{f:Array Value→Array Value}{t':Nat}(I:Inv X pins σ H s)(hH:H l=some (.lst xs))
  (e:s.heap.get? l=some { cls:= .type "list",data:= .seq its.toArray n }) (hf:f its.toArray=its'.toArray) (hv:Vals ys its') (hz:ys.length≤sizeLine):
  Inv X pins σ (upd H l (.lst ys)) { s with heap:=s.heap.update l (Obj.mapSeq f),toks:=t' }:=by
 have q:=PySem.IsL.update e f
 rw[hf] at q
 refine I.write (x:=l) (e:=l) (by rw[hH];exact trivial) (.inl rfl) (fun b' u hb hu=>(Heap.get?_update_other s.heap (Obj.mapSeq f) (Ne.symm hb)).trans hu) ⟨_,q⟩ ?_
 exact⟨hz,its',_,hv,q⟩
theorem Inv.yu{its:List Value}{t':Nat}(I:Inv X pins σ H s)(hv:Vals ys its)(hz:ys.length≤sizeLine):
  Inv X pins σ (upd H s.heap.objs.size (.lst ys)) { s with heap:=s.heap.push { cls:= .type "list",data:= .seq its.toArray },toks:=t' }:=
 I.laid (fun _ _ q=>Heap.get?_push_of_some _ q) (Nat.le_refl _) ⟨hz,its,0,hv,Heap.get?_push_size _ rfl⟩
theorem Inv.fresh(I:Inv X pins σ H s):H s.heap.objs.size=none:=I.bV.fresh (Nat.le_refl _)
theorem Inv.sW(I:Inv X pins σ H s)(hH:H l=some (.lst xs)):xs.length≤sizeLine∧∃(its:List Value) (n:Nat),Vals xs its∧xs.length=its.length∧s.heap.get? l=some { cls:= .type "list",data:= .seq its.toArray n }:=by
 obtain⟨z,its,n,r,e⟩:=I.bV l _ hH
 exact⟨z,its,n,r,r.length,e⟩
theorem oz{n:Nat}(h:n≤sizeLine):Builtin.List.listTooLong n=false:=by
 unfold Builtin.List.listTooLong
 exact decide_eq_false (by omega)
end
section
variable {X:Cx}
def yv:V→List V→Hp→VK→Prop:=fun x vs H Q=>∃l xs y,x= .ref l∧vs=[y]∧H l=some (.lst xs)∧xs.length<sizeLine∧Q .dG (upd H l (.lst (xs++[y])))
theorem bI:Sn X "list.append" yv:=by
 intro pins s σ H x vs v us Q I rx rv h
 obtain⟨l,xs,y,rfl,rfl,hH,hz,q⟩:=h
 cases rx
 obtain⟨u,rfl,ru⟩:=rv.one
 obtain⟨z,its,n,r,hl,e⟩:=I.sW hH
 refine call_meets F.slot_list_append ⟨_,e,rfl⟩ F.entry_list_append (F.args_list_append_2 _ _) (PySem.list_append l its.toArray n u (by rw[List.size_toArray];omega)) ⟨e,?_⟩
 refine⟨.dG,_,I.Hc (its':=its++[u]) hH e (by simp) (r.append (.cons ru .nil)) ?_,rfl,q⟩
 rw[List.length_append,List.length_singleton]
 omega
def yw:V→List V→Hp→VK→Prop:=fun x vs H Q=>∃l b xs zs,x= .ref l∧vs=[.ref b]∧H l=some (.lst xs)∧H b=some (.lst zs)∧xs.length+zs.length≤sizeLine∧Q .dG (upd H l (.lst (xs++zs)))
theorem sX:Sn X "list.extend" yw:=by
 intro pins s σ H x vs v us Q I rx rv h
 obtain⟨l,b,xs,zs,rfl,rfl,hH,hB,hz,q⟩:=h
 cases rx
 obtain⟨u,rfl,ru⟩:=rv.one
 cases ru
 obtain⟨z,its,n,r,hl,e⟩:=I.sW hH
 obtain⟨z2,p9,n2,r2,CW,e2⟩:=I.sW hB
 have om:its.toArray.size+p9.toArray.size≤sizeLine:=by rw[List.size_toArray,List.size_toArray];omega
 have va:¬(!its.toArray.isEmpty&&Builtin.List.listTooLong (its.toArray.size+p9.toArray.size))=true:=by
  rw[oz om,Bool.and_false]
  exact Bool.false_ne_true
 refine call_meets F.slot_list_extend ⟨_,e,rfl⟩ F.entry_list_extend (F.args_list_extend_2 _ _)
  (AutoSeq1.list_extend_list_list_0 l its.toArray n b p9.toArray n2 va (by rw[List.size_toArray];omega) (by omega)) ⟨e,e2,?_⟩
 refine⟨.dG,_,I.Hc (its':=its++p9) hH e (by simp) (r.append r2) ?_,rfl,q⟩
 rw[List.length_append]
 omega
def Pk:R2:=fun x y H Q=>∃l b xs zs,x= .ref l∧y= .ref b∧H l=some (.lst xs)∧H b=some (.lst zs)∧xs.length+zs.length≤sizeLine∧∀p,H p=none→Q (.ref p) (upd H p (.lst (xs++zs)))
theorem qa:jH X (binaryOp .Add) Pk:=by
 intro pins s σ H x y v u Q I rx ry h
 obtain⟨l,b,xs,zs,rfl,rfl,hH,hB,hz,q⟩:=h
 cases rx
 cases ry
 obtain⟨z,its,n,r,hl,e⟩:=I.sW hH
 obtain⟨z2,p9,n2,r2,CW,e2⟩:=I.sW hB
 refine PySem.P.add_list e e2 ?_ (by rw[List.size_toArray,List.size_toArray];omega)
 have ea:its.toArray++p9.toArray=(its++p9).toArray:=by simp
 rw[ea]
 exact⟨.ref _,_,I.yu (t':=s.toks) (r.append r2) (by rw[List.length_append];omega),rfl,q _ I.fresh⟩
def Pl:R2:=fun x y H Q=>∃l k xs,x= .ref l∧y= .int k∧H l=some (.lst xs)∧ -(2^63)≤k∧k<2^63∧xs.length*k.toNat≤sizeLine∧
 ∀p,H p=none→Q (.ref p) (upd H p (.lst (List.replicate k.toNat xs).flatten))
theorem len_rep{α:Type}(xs:List α)(k:Nat):(List.replicate k xs).flatten.length=k*xs.length:=by
 induction k with
 |zero=>simp
 |succ k ih=>rw[List.replicate_succ,List.flatten_cons,List.length_append,ih,Nat.succ_mul,Nat.add_comm]
theorem ko:jH X (binaryOp .Mult) Pl:=by
 intro pins s σ H x y v u Q I rx ry h
 obtain⟨l,k,xs,rfl,rfl,hH,h1,h2,hz,q⟩:=h
 cases rx
 obtain⟨t,rfl⟩:=ry
 obtain⟨z,its,n,r,hl,e⟩:=I.sW hH
 have hlen:its.toArray.size*k.toNat≤sizeLine:=by rw[List.size_toArray,←hl];exact hz
 have Pn:¬its.toArray.size*k.toNat> (2^63 - 1) /8:=by
  have:(sizeLine:Nat)≤(2^63 - 1) /8:=by decide
  omega
 have Po:¬(!Builtin.List.listFitsIndex k)=true:=by
  rw[fitsIndex_both h1 h2]
  exact Bool.false_ne_true
 have va:¬Builtin.List.listTooLong (its.toArray.size*k.toNat)=true:=by
  rw[oz hlen]
  exact Bool.false_ne_true
 have vc:List.foldl (fun x1 x2=>x1++x2) #[] (List.replicate (if its.toArray.isEmpty=true then 0 else k.toNat) its.toArray)=(List.replicate k.toNat its).flatten.toArray:=by
  have f0:∀m:Nat,List.foldl (fun x1 x2=>x1++x2) #[] (List.replicate m its.toArray)=(List.replicate m its).flatten.toArray:=fun m=>by
   have:=foldl_rep its m []
   rw[List.nil_append] at this
   exact this
  rw[f0]
  cases its with
  |nil=>simp
  |cons a r'=>rw[if_neg (by simp)]
 refine wpAny_binaryOp_repeat_ref (T:="list") (U:="int") (by decide) ⟨_,e,rfl⟩ (fun s'=>typeIs_int s' k t) noFill_list_mul F.fills_int_mul F.slot_int_rmul repeat_list F.slot_int_index.lookup
  (call_meets F.slot_int_rmul (typeIs_int s k t) F.entry_int_rmul (F.args_int_rmul_2 _ _) (int___rmul___int_list k t l its.toArray n)
   ⟨e,rfl,⟨_,e,rfl⟩,call_meets F.slot_list_mul ⟨_,e,rfl⟩ F.entry_list_mul (F.args_list_mul_2 _ _) (AutoListH.list___mul___list_int_3 l its.toArray n k t Po Pn va) ⟨e,?_⟩⟩)
 rw[vc]
 exact⟨.ref _,_,I.yu (t':=s.toks) (r.rep k.toNat) (by rw[len_rep,Nat.mul_comm];exact hz),rfl,q _ I.fresh⟩
end
section
variable {prog:Program}{w:World}{A:Around}{E:Value→Shared→Prop}{s:Shared}
end
section
variable {X:Cx}
end
end L2
namespace So
open PySem PySem.W PySem.Calls PyProof.Rows
theorem jI{P:Params}{h:Heap}:∀(ns:List Int) (vs:List Value),WellAll P h vs (ns.map WData.int)→IntsAre vs ns:=by
 intro ns
 induction ns with
 |nil=>
  intro vs w
  rw[List.map_nil] at w
  cases w
  exact .nil
 |cons n ns ih=>
  intro vs w
  rw[List.map_cons] at w
  cases w with
  |cons a b=>
   cases a
   exact .cons _ _ (ih _ b)
theorem sY{l:OpenLaw}{n:Nat}(hn:l.most=some n){P:Params}{h:Heap}{args:List WData}{vals:List Value}
  (yx:l.row.toRowW.claim.pre args=true) (Pp:WellAll P h vals args):
  ∃a vs ns,vals=[Value.ref a]∧args=[WData.list (ns.map WData.int)]∧h.get? a=some { cls:= .type "list",data:= .seq vs.toArray }∧IntsAre vs ns∧ns.length≤n:=by
 have UH:WShape.hasAll [] args [.list .int]=true:=(pre_splitW yx).1
 have hc:l.pre.holds [] { args:=args }=true:=(pre_splitW yx).2
 obtain⟨d,r,rfl,h1,h2⟩:=hasAllW_cons UH
 obtain rfl:=hasAllW_nil h2
 obtain⟨xs,rfl,h3⟩:=hasW_list h1
 obtain⟨ns,rfl⟩:=items_int h3
 have hlen:ns.length≤n:=by
  unfold OpenLaw.pre at hc
  have h4:(WTm.not (.lt (.lit (.int (n:Int))) (.len (.arg 0)))).holds [] { args:=[.list (ns.map .int)] }=true:=by
   have h4:=(holds_andW hc).1
   rw[hn] at h4
   exact h4
  have h5:=condW_of h4 (w_not (w_lt w_lit (w_len_list (w_arg rfl))))
  rw[List.length_map] at h5
  refine Nat.le_of_not_lt fun q=>?_
  have q':(n:Int) < ((ns.length:Nat):Int):=by omega
  first
   | (rw[decide_eq_true q'] at h5;exact absurd h5 (by decide))
   | (simp at h5;omega)
 cases Pp with
 |cons w1 w2=>
  cases w2
  cases w1 with
  |list ho Pq=>exact⟨_,_,ns,rfl,rfl,ho,jI ns _ Pq,hlen⟩
theorem sZ(l:OpenLaw)(args:List WData):l.row.toRowW.claim.post args (.bool true) args=true:=
 postW_of (r:=l.row.toRowW) (X:=(true==true))
  (show WShape.has [] (.bool true) .bool=true by first|rfl|decide|simp [WShape.has,WShape.arms,WShape.armsAll])
  (show (WTm.eq .res (.lit (.bool true))).value [] { args:=args,res:=some (.bool true),after:=args }=some (.bool (true==true)) from w_eq_bool (w_res rfl) w_lit) rfl
theorem oA{l:OpenLaw}{n:Nat}{q:Program}{loose:List Str}{XP:(Str→Option Value)→Heap→Prop}{YP:World→Heap→Prop}{d:DefRec}
  (hn:l.most=some n) (Hd:d.params.defaults=[])
  (call:∀(w:World) (s₀ s₁:Shared) (mg mb:Str→Option Value) (fa:Addr) (o:Obj) (pm cd doc:Value) (a:Addr) (vs:List Value) (ns:List Int),
   Ground q loose [] XP w s₀ mg mb s₁.heap→YP w s₁.heap→
   s₁.heap.get? fa=some o→o.data= .func (docDef d.name d.params d.body d.scope pm cd doc)→s₁.heap.CodeRec cd d.name→mg d.name=some (.ref fa)→
   s₁.heap.get? a=some { cls:= .type "list",data:= .seq vs.toArray }→IntsAre vs ns→ns.length≤n→s₁.gens=#[]→
   codeAny (model l.prog w) callerA (.call (.ref fa) ⟨[.ref a],[]⟩) (fun r s'=>r= .ok (.ret (.bool true))∧OldK s₁.heap s'.heap∧s'.os=s₁.os∧AllBare s'.gens) s₁):
  WalkO q loose XP YP l.row.toRowW d [] (fun f vs=>PySem.call f vs):=by
 intro w s₀ s₁ mg mb G Y fa o pm cd doc dV kV ho hd sI hD He hg args vals as yx UI Wy Pp Pr
 obtain rfl:dV= .none:=Dflts.none hD Hd
 obtain rfl:kV= .none:=Dflts.noKw hD
 obtain⟨a,vs,ns,rfl,rfl,CY,hints,hlen⟩:=sY hn yx Pp
 refine enter_call (codeAny_mono (call w s₀ s₁ mg mb fa o pm cd doc a vs ns G Y ho (fd_plain hd) sI He CY hints hlen hg) fun r s' hq=>?_)
 obtain⟨rfl,h2,h3,h4⟩:=hq
 exact⟨.inl ⟨.bool true, .bool true,[],rfl,fun _=>rfl, .bool true,sZ l _,fun _=>⟨List.Pairwise.nil,fun _ hm=>(nomatch hm)⟩⟩,h2,h3,h4⟩
section
variable {prog:Program}{w:World}{A:Around}{E:Value→Shared→Prop}{s:Shared}{K:Frag}
end
end So
namespace L2
open PySem PySem.Spec PyProof.Rows
theorem lV:∀{vs:List Value} {ns:List Int},IntsAre vs ns→Vals (ns.map V.int) vs
 |_,_, .nil=> .nil
 |_,_, .cons n t h=> .cons ⟨t,rfl⟩ (lV h)
def CZ(H:Hp):Prop:=∀b,H b=none∨∃o xs,H b=some (.qR o (.lst xs))
theorem vd{P:Program}{w:World}{K:PySem.W.Frag}{mg mb:Str→Option Value}{CX:uY}{k:Nat}{fa a:Addr}{fd:FuncData}{x:Str}{sp:Sp}{s₁:Shared}{vs:List Value}{ns:List Int}
  (KX:K.In s₁.heap) (rh:s₁.heap.Ns mainGlobals mg) (hb:s₁.heap.Ns builtinsNs mb) (UJ:∀x:Str,x≠"__name__" →mb x=bootBuiltins x) (Pt:s₁.heap.NoLimit) (hg:s₁.gens=#[])
  (ha:s₁.heap.get? a=some { cls:= .type "list",data:= .seq vs.toArray }) (hi:IntsAre vs ns) (hl:ns.length≤sizeLine) (hr:cV k callerA)
  (F:∀base:Heap,K.In base→base.Ns mainGlobals mg→fO P w K mg base CX k fa fd [x] sp) (Hf:∀(s:Shared) (u:Value),BindsTo s fd ⟨[u],[]⟩ [(x,u)])
  (xR:∀H:Hp,CZ H→aD K H a (ns.map V.int)→sp [.ref a] H (fun v _=>v= .bl true) fun _ _ _=>False)
  (Pu:∀H e s',CX [] H s₁ (fun _ _ _=>False) e s'→False):
  codeAny (model P w) callerA (.call (.ref fa) ⟨[.ref a],[]⟩) (fun r s'=>r= .ok (.ret (.bool true))∧OldK s₁.heap s'.heap∧s'.os=s₁.os∧AllBare s'.gens) s₁:=by
 have rv:=lV hi
 have Pw:=hi.length
 have core:∀H:Hp,CZ H→aD K H a (ns.map V.int)→jN P w H s₁.heap→(∀b,H b≠none→b=a)→(H a≠none→K.lookup a=none)→
   codeAny (model P w) callerA (.call (.ref fa) ⟨[.ref a],[]⟩) (fun r s'=>r= .ok (.ret (.bool true))∧OldK s₁.heap s'.heap∧s'.os=s₁.os∧AllBare s'.gens) s₁:=by
  intro H hO hS bV hA hK
  have base_of:∀{b:Addr} {o:Obj},s₁.heap.get? b=some o→H b=none→(mG s₁.heap H).get? b=some o:=fun e n=>uD e n
  have G1:∀{b:Addr} {o:Obj} {es:Array DictEntry} {ep:Nat},s₁.heap.get? b=some o→o.data= .dict es ep→H b=none:=fun {b o es ep} e d=>by
   cases q:H b with
   |none=>rfl
   |some u=>
    have e':b=a:=hA b (by rw[q];simp)
    subst e'
    rw[ha] at e;cases e
    have d':Data.seq vs.toArray _=Data.dict es ep:=d
    cases d'
  have N4:∀{b:Addr} {m:Str→Option Value},s₁.heap.Ns b m→(mG s₁.heap H).Ns b m:=fun {b m} ⟨o,es,ep,e,d,r⟩=>⟨o,es,ep,base_of e (G1 e d),d,r⟩
  have Sq:K.In (mG s₁.heap H):=fun b o e=>base_of (KX b o e) (by
   cases q:H b with
   |none=>rfl
   |some u=>
    have e':b=a:=hA b (by rw[q];simp)
    subst e'
    rw[hK (by rw[q];simp)] at e;cases e)
  have hM:Mod K mg (mG s₁.heap H):=⟨Sq,N4 rh,⟨mb,N4 hb,UJ⟩,let ⟨mc,h1,h2⟩:=Pt;⟨mc,N4 h1,h2⟩⟩
  have e0:pZ P w K mg (mG s₁.heap H) callerA [] s₁ H:=⟨rfl,hM,fun b o e=>x6 e,Nat.le_of_eq (sE _ _),trivial,fun b hb=>absurd (show b∈([]:List Addr) from hb) (by simp),bV, .of_eq hg⟩
  refine codeAny_mono ((F _ Sq (N4 rh)).run callerA [] s₁ H ⟨[.ref a],[]⟩ [.ref a] [.ref a] _ _ hr e0 (Hf s₁ (.ref a)) (.cons rfl .nil) (xR H hO hS)) fun r s' h=>?_
  cases r with
  |error e=>exact(Pu H e s' h).elim
  |ok fl=>
   cases fl with
   |next=>exact False.elim h
   |brk=>exact False.elim h
   |cont=>exact False.elim h
   |ret u=>
    obtain⟨v,H',os,bare,un,Px,r',q⟩:=h
    have q':v= .bl true:=q
    subst q'
    obtain rfl:u=Value.bool true:=r'
    refine⟨rfl,OldK.of_keep fun b o e=>?_,os,bare⟩
    cases q:H b with
    |none=>exact un.keep b o e q (by intro z;exact absurd (show b∈([]:List Addr) from z) (by simp)) (by simp)
    |some u=>
     rcases hO b with z| ⟨ob,xs,z⟩
     ·rw[q] at z;cases z
     ·have z2:=un.mF b ob _ z
      obtain⟨e1,_⟩:=bV b _ z
      obtain⟨e2,_⟩:=Px b _ z2
      rw[e] at e1;cases e1
      exact e2
 cases hk:K.lookup a with
 |some o=>
  have e:=KX a o hk
  rw[ha] at e
  cases e
  refine core (fun _=>none) (fun _=> .inl rfl) (.inr ⟨_,vs.toArray,_,hk,rfl,rfl,rfl,by rw[List.size_toArray,Pw];exact hl,by simpa using rv⟩) (fun b u z=>by have z':(none:Option HO)=some u:=z;cases z') (fun b z=>absurd rfl z) fun z=>absurd rfl z
 |none=>
  refine core (fun b=>if b=a then some (.qR { cls:= .type "list",data:= .seq vs.toArray } (.lst (ns.map V.int))) else none) (fun b=>?_) (.inl (.inr ⟨{ cls:= .type "list",data:= .seq vs.toArray },if_pos rfl⟩)) (fun b u z=>?_) (fun b z=>?_) fun _=>hk
  ·by_cases hb:b=a
   ·exact .inr ⟨_,_,if_pos hb⟩
   ·exact .inl (if_neg hb)
  ·by_cases hb:b=a
   ·have z':=(if_pos hb).symm.trans z
    cases z'
    subst hb
    exact⟨ha,by rw[List.length_map];exact hl,vs,_,rv,ha⟩
   ·have z':=(if_neg hb).symm.trans z
    cases z'
  ·by_cases hb:b=a
   ·exact hb
   ·exact absurd (if_neg hb) z
end L2
namespace L2
open PySem PySem.Spec PyProof.Rows
theorem yy{l:PySem.W.OpenLaw}{n k:Nat}{q:Program}{loose:List Str}{XP:(Str→Option Value)→Heap→Prop}{YP:World→Heap→Prop}{d:DefRec}{K:Params→PySem.W.Frag}{CX:World→uY}{sp:World→Sp}{x:Str}
  (hn:l.most=some n) (CP:n≤sizeLine) (Hd:d.params.defaults=[]) (hr:cV k callerA)
  (hY:∀(w:World) (h:Heap),YP w h→(K w.params).In h)
  (F:∀(w:World) (mg:Str→Option Value) (fa:Addr) (h:Heap),(K w.params).In h→h.Ns mainGlobals mg→mg d.name=some (.ref fa)→
   ∃fd:FuncData,(∀(s:Shared) (u:Value),BindsTo s fd ⟨[u],[]⟩ [(x,u)])∧
    ∀base:Heap,(K w.params).In base→base.Ns mainGlobals mg→fO l.prog w (K w.params) mg base (CX w) k fa fd [x] (sp w))
  (xR:∀(w:World) (H:Hp) (a:Addr) (ns:List Int),ns.length≤n→CZ H→aD (K w.params) H a (ns.map V.int)→sp w [.ref a] H (fun v _=>v= .bl true) fun _ _ _=>False)
  (Pu:∀(w:World) (H:Hp) (s:Shared) (e:Value) (s':Shared),CX w [] H s (fun _ _ _=>False) e s'→False):
  PySem.W.WalkO q loose XP YP l.row.toRowW d [] (fun f vs=>PySem.call f vs):=by
 refine So.oA hn Hd fun w s₀ s₁ mg mb fa o pm cd doc a vs ns G Y ho hd sI He CY hints hlen hg=>?_
 have KX:=hY w _ Y
 obtain⟨fd,hb,hF⟩:=F w mg fa _ KX G.T.g He
 exact vd KX G.T.g G.T.b G.T.builtins G.T.nolimit hg CY hints (Nat.le_trans hlen CP) hr hF hb (fun H hO hS=>xR w H a ns hlen hO hS) fun H e s'=>Pu w H s₁ e s'
end L2
namespace L2
open PySem PySem.Spec PyProof.Rows
def inClass(s:Stmt)(j:Nat):Stmt:=match s with
 | .ClassDef _ _ _ body _ _ _ _ _ _ _=>body.getD j (.Pass ⟨0,0,0,0⟩)
 |_=> .Pass ⟨0,0,0,0⟩
def aJ(s:Stmt):Arguments:=match s with
 | .FunctionDef _ a _ _ _ _ _ _ _ _=>a
 |_=>{ posonlyargs:=[],args:=[],vararg:=none,kwonlyargs:=[],kw_defaults:=[],kwarg:=none,defaults:=[] }
def aC(s:Stmt):List Stmt:=match s with
 | .FunctionDef _ _ b _ _ _ _ _ _ _=>b
 |_=>[]
def ag(s:Stmt):Scope:=match s with
 | .FunctionDef _ _ _ _ _ _ sc _ _ _=>sc
 |_=>{ kind:= .function,names:=[],isGenerator:=false,isCoroutine:=false }
abbrev qb:uY:=fun _ _ _ _ _ _=>False
abbrev E0:XK:=fun _ _ _=>False
theorem a8{X:Cx}:Passes qb X E0:=fun _ _ _ _ _ _ _ h=>h.elim
structure Bh(K:PySem.W.Frag)(x qual:Str)(st:Stmt)(f:Addr)(fd:FuncData):Prop where
 ex:∃(oc:Value) (od:Option Addr) (kV doc pm:Value) (an:Option Addr) (b6 ct:Value) (qZ:Array (Option Value)),
  fd=PySem.W.fnOf x qual (aJ st) (aC st) (ag st) .none kV doc pm an b6 ct∧K.lookup f=some ⟨oc,od, .func fd,qZ⟩∧PySem.W.codeIn K b6 qual=true
 kp:PySem.W.keepIn K (.ref f)=true
section
variable {P:Program}{w:World}{K:PySem.W.Frag}{mg:Str→Option Value}{base:Heap}
theorem Bh.ok{x qual:Str}{st:Stmt}{f:Addr}{fd:FuncData}{N ps:List Str}{k:Nat}{sp:Sp}(F:Bh K x qual st f fd)(S:aI N ps (ag st))(len:∀vs H Q E,sp vs H Q E→vs.length=ps.length)
  (fW:∀(b6:Value) (A:Around) (outer:List Env) (s:Shared) (H:Hp) (vs:List V) (Q:VK) (E:XK),cV k (A.deeper (envOfC qual (ag st) s.heap.objs.size f b6))→sp vs H Q E→
   ∃t,nV (lE qb P w K mg base N qual (ag st) f b6 A outer s H E).ya (aC st) t∧t { nx:=fun _ H'=>Q .dG H',rt:=Q } (start N vs) H):fO P w K mg base qb (k+1) f fd ps sp:=by
 obtain⟨oc,od,kV,doc,pm,an,b6,ct,qZ,rfl,lk,sI⟩:=F.ex
 refine fn_of lk sI S len fun A outer s H vs Q E hr xR=>?_
 obtain⟨t,h,q⟩:=fW b6 A outer s H vs Q E hr xR
 exact⟨t,h.ya,q⟩
theorem Bh.binds{x qual:Str}{st:Stmt}{f:Addr}{fd:FuncData}{ps:List Str}(F:Bh K x qual st f fd)
  (h:∀(kV doc pm:Value) (an:Option Addr) (b6 ct:Value) (us:List Value),us.length=ps.length→bindArgs (PySem.W.fnOf x qual (aJ st) (aC st) (ag st) .none kV doc pm an b6 ct) ⟨us,[]⟩=pure (ps.zip us)):Binds K fd ps []:=by
 obtain⟨oc,od,kV,doc,pm,an,b6,ct,qZ,rfl,lk,sI⟩:=F.ex
 exact .all (h kV doc pm an b6 ct)
theorem aG{x qual:Str}{st:Stmt}{f:Addr}{oc:Value}{od an:Option Addr}{qZ:Array (Option Value)}{kV doc pm b6 ct:Value}(l:K.lookup f=some ⟨oc,od, .func (PySem.W.fnOf x qual (aJ st) (aC st) (ag st) .none kV doc pm an b6 ct),qZ⟩)
  (c:PySem.W.codeIn K b6 qual=true) (k:PySem.W.keepIn K (.ref f)=true):Bh K x qual st f (PySem.W.fnOf x qual (aJ st) (aC st) (ag st) .none kV doc pm an b6 ct):=⟨⟨oc,od,kV,doc,pm,an,b6,ct,qZ,rfl,l,c⟩,k⟩
end
section
variable {X:Cx}
theorem pv(i:Nat){x:Str}{pos:Pos}(hN:X.N[i]? =some x:=by rfl)(hv:OS X.env.scope x:=by first|exact Or.inl rfl|exact Or.inr (Or.inl rfl) |exact Or.inr (Or.inr rfl))(hd:(x==("__debug__" :Str))=false:=by decide)
  (sI:(x==("__classdict__" :Str))=false:=by decide):PE X (.Name x pos) (GA i):=Cz hN hv hd sI
end
theorem qc{A B:Prop}(h:B):if false=true then A else B:=by
 rw[if_neg Bool.false_ne_true]
 exact h
theorem Hg{A B:Prop}(h:A):if true=true then A else B:=by
 rw[if_pos rfl]
 exact h
theorem g5{c A B:Prop}[Decidable c](h1:c→A)(h2:¬c→B):if c then A else B:=by
 by_cases h:c
 ·rw[if_pos h]
  exact h1 h
 ·rw[if_neg h]
  exact h2 h
theorem Hh{c A B:Prop}[Decidable c](hc:c)(h:B):if (!decide c)=true then A else B:=by
 rw[decide_eq_true hc]
 exact qc h
def ak(H H':Hp):Prop:=∀b o,H b=some o→H' b=some o
theorem ak.refl(H:Hp):ak H H:=fun _ _ h=>h
theorem ak.trans{H H1 H2:Hp}(a:ak H H1)(b:ak H1 H2):ak H H2:=fun c o h=>b c o (a c o h)
theorem ak.free{H H':Hp}(e:ak H H'){l:Addr}(h:H' l=Option.none):H l=Option.none:=by
 cases q:H l with
 |none=>rfl
 |some o=>
  rw[e l o q] at h
  cases h
theorem ak.seq{K:PySem.W.Frag}{H H':Hp}{a:Addr}{xs:List V}(e:ak H H')(h:aD K H a xs):aD K H' a xs:=by
 rcases h with (h| ⟨o,h⟩) |h
 ·exact .inl (.inl (e _ _ h))
 ·exact .inl (.inr ⟨o,e _ _ h⟩)
 ·exact .inr h
section
variable {κ:Type}[DecidableEq κ]
end
end L2
namespace L2
open PySem PySem.Spec PyProof.Rows
section
variable {X:Cx}{pins:List (Addr×Obj)}{σ:St}{H:Hp}{s:Shared}{a:Addr}{u u':HO}
end
section
variable {X:Cx}{tg:Expr}
end
def Hi:V→Option Value
 | .ty n=>some (.type n)
 | .ref a=>some (.ref a)
 |_=>none
theorem eu{X:Cx}:eh X (.builtin "isinstance") (fun xs H Q=>∃x c cv t b,xs=[x,c]∧Hi c=some cv∧jb X.K H x t∧PySem.W.kitOne X.K t cv=some b∧Q (.bl b) H):=by
 intro pins s σ H xs us Q I r h
 obtain⟨x,c,cv,t,b,rfl,hc,ty,e,q⟩:=h
 obtain⟨u,v,rfl,ru,rv⟩:=vals2 r
 have hv:v=cv:=by
  cases c<;>simp only [Hi,Option.some.injEq,reduceCtorEq] at hc
  ·cases (show v=Value.ref _ from rv);exact hc
  ·cases (show v=Value.type _ from rv);exact hc
 subst hv
 exact sU I ru ty e fun tk=>⟨.bl b,H,I.tok tk,rfl,q⟩
section
variable {X:Cx}
end
end L2
namespace L2
open PySem PySem.Spec PyProof.Rows
def lX(X:Cx)(pins:List (Addr×Obj))(N:List Str)(scope:Scope)(cl:List (Str×Addr))(fp:List Addr)(s:Shared)(H:Hp):Cx where
 prog:=X.prog
 w:=X.w
 K:=X.K
 mg:=X.mg
 base:=X.base
 A:=X.A
 N:=N
 s₀:=s
 H₀:=H
 env:=compEnvC scope cl s.heap.objs.size X.env
 outer:=X.stack
 stack:=X.stack
 ex:=fp
 fn:=fun _=>false
 calm:=X.calm
 pn:=X.pn++pins
 xe:=fun _ _=>False
structure Hj(X:Cx)(N:List Str)(fr:List (Option Nat))(scope:Scope)(cl:List (Str×Addr)):Prop where
 ve:closureFor scope X.env=pure cl
 kind:scope.kind= .function
 mM:∀y∈scope.names,y.2≠ .cell
 names:∀y∈scope.names,y.2= .local→scope.names.lookup y.1=some .local
 cells:∀x c,cl.lookup x=some c→X.env.cells.lookup x=some c
 has:∀x,((relabel scope X.env).names.lookup x=some .cell∨(relabel scope X.env).names.lookup x=some .free)→∃c,cl.lookup x=some c
 len:fr.length=N.length
 out:∀(i j:Nat) (x:Str),N[i]? =some x→fr[i]? =some (some j)→X.N[j]? =some x∧X.env.kindOf x=some .cell∧((relabel scope X.env).names.lookup x=some .cell∨(relabel scope X.env).names.lookup x=some .free)
end L2
namespace L2
open PySem PySem.Spec PyProof.Rows
def jd(env:Env):List (Str×NameKind)→List (Str×Addr)→List (Str×Addr)
 | [],cs=>cs
 | (n,k)::r,cs=>jd env r (if (k== .free)=true then (n,(env.cells.lookup n).getD 0)::cs else cs)
def fY(scope:Scope)(env:Env):List (Str×Addr):=jd env scope.names []
theorem rk{env:Env}:∀{names:List (Str×NameKind)} (cs:List (Str×Addr)),(∀y∈names,y.2= .free→∃c,env.cells.lookup y.1=some c)→
  (forIn names cs fun (x:Str×NameKind) cs=>match x with
   | (name,kind)=>if (kind==NameKind.free)=true then do let c←cellOf env name;pure (ForInStep.yield ((name,c)::cs)) else pure (ForInStep.yield cs):Sem (List (Str×Addr)))=pure (jd env names cs)
 | [],cs,_=>rfl
 | (n,k)::r,cs,h=>by
   rw[List.forIn_cons]
   dsimp only
   have ih:=fun cs=>rk (env:=env) (names:=r) cs fun y hy=>h y (List.mem_cons_of_mem _ hy)
   by_cases hk:(k==NameKind.free)=true
   ·obtain⟨c,hc⟩:=h (n,k) (List.mem_cons_self ..) (by simpa using hk)
    rw[if_pos hk,show jd env ((n,k)::r) cs=jd env r ((n,c)::cs) by rw[jd,if_pos hk,hc];rfl]
    have e:cellOf env n=pure c:=by unfold cellOf;rw[hc]
    rw[e]
    exact ih _
   ·rw[if_neg hk,show jd env ((n,k)::r) cs=jd env r cs by rw[jd,if_neg hk]]
    exact ih _
theorem rl{scope:Scope}{env:Env}(h:∀y∈scope.names,y.2= .free→∃c,env.cells.lookup y.1=some c):closureFor scope env=pure (fY scope env):=by
 have t:=rk (env:=env) [] h
 have e:closureFor scope env=((forIn scope.names ([]:List (Str×Addr)) fun (x:Str×NameKind) cs=>match x with
   | (name,kind)=>if (kind==NameKind.free)=true then do let c←cellOf env name;pure (ForInStep.yield ((name,c)::cs)) else pure (ForInStep.yield cs)) >>= fun cs=>pure cs:Sem (List (Str×Addr))):=rfl
 rw[e,t]
 rfl
theorem g6{env:Env}:∀{names:List (Str×NameKind)} {cs:List (Str×Addr)},(∀y∈names,y.2= .free→∃c,env.cells.lookup y.1=some c)→(∀x c,cs.lookup x=some c→env.cells.lookup x=some c)→∀x c,(jd env names cs).lookup x=some c→env.cells.lookup x=some c
 | [],_,_,hc,x,c,h=>hc x c h
 | (n,k)::r,cs,hn,hc,x,c,h=>by
   rw[jd] at h
   refine g6 (names:=r) (fun y hy=>hn y (List.mem_cons_of_mem _ hy)) (fun x c h=>?_) x c h
   by_cases hk:(k==NameKind.free)=true
   ·rw[if_pos hk] at h
    obtain⟨c',lC⟩:=hn (n,k) (List.mem_cons_self ..) (by simpa using hk)
    rw[List.lookup_cons] at h
    cases e:x==n with
    |true=>
     rw[e] at h
     have ex:x=n:=by simpa using e
     subst ex
     rw[lC] at h ⊢
     exact h
    |false=>
     rw[e] at h
     exact hc x c h
   ·rw[if_neg hk] at h
    exact hc x c h
theorem iw{env:Env}:∀{names:List (Str×NameKind)} {cs:List (Str×Addr)} {x:Str},((x,NameKind.free)∈names∨∃c,cs.lookup x=some c)→∃c,(jd env names cs).lookup x=some c
 | [],_,_,h=>h.elim (fun z=>by cases z) fun z=>z
 | (n,k)::r,cs,x,h=>by
   rw[jd]
   refine iw (names:=r) ?_
   by_cases hk:(k==NameKind.free)=true
   ·rw[if_pos hk,List.lookup_cons]
    cases e:x==n with
    |true=>exact .inr ⟨_,rfl⟩
    |false=>
     rcases h with h|h
     ·rcases List.mem_cons.mp h with z|z
      ·cases z
       simp at e
      ·exact .inl z
     ·exact .inr h
   ·rw[if_neg hk]
    rcases h with h|h
    ·rcases List.mem_cons.mp h with z|z
     ·cases z
      exact absurd rfl hk
     ·exact .inl z
    ·exact .inr h
theorem dZ{env:Env}(x:Str):∀names:List (Str×NameKind),
  (names.map fun (y:Str×NameKind)=>match y with
   | (n,k)=>if (k==NameKind.free&&env.scope.kind== .function&&env.kindOf n==some .cell)=true then (n,NameKind.cell) else (n,k)).lookup x
   =(names.lookup x).map fun k=>if (k==NameKind.free&&env.scope.kind== .function&&env.kindOf x==some .cell)=true then NameKind.cell else k
 | []=>rfl
 | (n,k)::r=>by
   have ih:=dZ (env:=env) x r
   rw[List.map_cons,List.lookup_cons]
   by_cases e:(x==n)=true
   ·have ex:x=n:=by simpa using e
    subst ex
    dsimp only
    by_cases hc:(k==NameKind.free&&env.scope.kind== .function&&env.kindOf x==some .cell)=true
    ·rw[if_pos hc,List.lookup_cons,beq_self_eq_true]
     dsimp only [Option.map]
     rw[if_pos hc]
    ·rw[if_neg hc,List.lookup_cons,beq_self_eq_true]
     dsimp only [Option.map]
     rw[if_neg hc]
   ·have e':(x==n)=false:=by simpa using e
    dsimp only
    by_cases hc:(k==NameKind.free&&env.scope.kind== .function&&env.kindOf n==some .cell)=true
    ·rw[if_pos hc,List.lookup_cons,e']
     exact ih
    ·rw[if_neg hc,List.lookup_cons,e']
     exact ih
structure yz(sc scope:Scope)(NX N:List Str)(fr:List (Option Nat)):Prop where
 vf:sc.kind= .function
 kind:scope.kind= .function
 mM:∀y∈scope.names,y.2≠ .cell
 names:∀y∈scope.names,y.2= .local→scope.names.lookup y.1=some .local
 free:∀y∈scope.names,y.2= .free→sc.names.lookup y.1=some .cell
 len:fr.length=N.length
 out:((List.range N.length).all fun i=>match fr[i]? with
  |some (some j)=>(match N[i]? with
   |some x=>(NX[j]? ==some x)&&(scope.names.lookup x==some .free)
   |none=>false)
  |_=>true)=true
theorem cu{names:List (Str×NameKind)}{x:Str}{k:NameKind}(h:names.lookup x=some k):(x,k)∈names:=PySem.mem_of_lookup h
theorem yz.Hk{X:Cx}{sc scope:Scope}{NX N:List Str}{fr:List (Option Nat)}(B:yz sc scope NX N fr)(e1:X.env.scope=sc)(e2:X.N=NX)(ok:X.Ok):Hj X N fr scope (fY scope X.env):=by
 subst e1 e2
 have fc:∀y∈scope.names,y.2= .free→∃c,X.env.cells.lookup y.1=some c:=fun y hy hf=>ok.has y.1 (.inl (B.free y hy hf))
 have lk:∀x,(relabel scope X.env).names.lookup x=(scope.names.lookup x).map fun k=>if (k==NameKind.free&&X.env.scope.kind== .function&&X.env.kindOf x==some .cell)=true then NameKind.cell else k:=fun x=>dZ x scope.names
 have qd:∀x,scope.names.lookup x=some .free→(relabel scope X.env).names.lookup x=some .cell:=fun x hx=>by
  have hk:X.env.kindOf x=some .cell:=B.free (x, .free) (cu hx) rfl
  rw[lk,hx,Option.map_some,hk,B.vf]
  rfl
 refine⟨rl fc,B.kind,B.mM,B.names,fun x c h=>g6 fc (fun x c h=>by cases h) x c h,fun x h=>iw (.inl ?_),B.len,fun i j x h1 h2=>?_⟩
 ·rw[lk] at h
  cases e:scope.names.lookup x with
  |none=>rw[e] at h;rcases h with h|h<;>cases h
  |some k=>
   rw[e,Option.map_some] at h
   have hm:=cu e
   cases k with
   |free=>exact hm
   |cell=>exact absurd rfl (B.mM _ hm)
   |_=>rcases h with h|h<;>simp at h
 ·have hi:i<N.length:=(List.getElem?_eq_some_iff.mp h1).1
  have:=List.all_eq_true.mp B.out i (List.mem_range.mpr hi)
  rw[h2] at this
  dsimp only at this
  rw[h1] at this
  dsimp only at this
  rw[Bool.and_eq_true] at this
  have a1:X.N[j]? =some x:=by simpa using this.1
  have a2:scope.names.lookup x=some .free:=by simpa using this.2
  exact⟨a1,B.free (x, .free) (cu a2) rfl, .inl (qd x a2)⟩
end L2
namespace L2
open PySem PySem.Spec PyProof.Rows
def startB(fr:List (Option Nat))(σ:St):St:=fr.map fun o=>o.bind fun j=>(σ[j]?).join
theorem kr{fr:List (Option Nat)}{σ:St}{i:Nat}{v:V}(h:(startB fr σ)[i]? =some (some v)):∃j,fr[i]? =some (some j)∧σ[j]? =some (some v):=by
 unfold startB at h
 rw[List.getElem?_map] at h
 cases e:fr[i]? with
 |none=>rw[e] at h;cases h
 |some o=>
  rw[e] at h
  cases o with
  |none=>cases h
  |some j=>
   have h':(σ[j]?).join=some v:=Option.some.inj h
   cases q:σ[j]? with
   |none=>rw[q] at h';cases h'
   |some z=>rw[q] at h';exact⟨j,rfl,by rw[q];exact congrArg some h'⟩
section
variable {X:Cx}{pins:List (Addr×Obj)}{σ:St}{H:Hp}{s:Shared}{N:List Str}{fr:List (Option Nat)}{scope:Scope}{cl:List (Str×Addr)}{fp:List Addr}
theorem vg(B:Hj X N fr scope cl)(I:Inv X pins σ H s)(f:∀b∈fp,dN X pins H b∧b<s.heap.objs.size):(lX X pins N scope cl fp s H).Ok where
 mod:=I.mod
 kind:=B.kind
 glob:=I.ok.glob
 blt:=I.ok.blt
 above:=Nat.le_refl _
 inj:=fun x y c h1 h2=>I.ok.inj x y c (B.cells x c h1) (B.cells y c h2)
 has:=fun x h=>B.has x h
 Cu:=fun x c h=>by cases h
 hd:=I.ok.hd
 frames:=I.ok.frames
 F1:= .inl rfl
 Gz:=fun b hb=>⟨Nat.ne_of_lt (f b hb).2,fun x c h=>(f b hb).1.2.2.2.2.1 x c (B.cells x c h)⟩
 bs:=I.bs
 sH:=Nat.le_trans I.ok.sH I.sz
 og:=fun b o e hb=>by
  rcases (f b hb).1.2.2.2.1 with h|h
  ·exact I.ok.og b o e h
  ·exact absurd (Nat.lt_of_lt_of_le (Heap.lt_size e) (Nat.le_trans I.ok.sH h)) (Nat.lt_irrefl _)
 oh:=fun b hb h=>by
  rcases List.mem_cons.mp (I.iZ b h) with z|z
  ·exact(f b hb).1.2.1 z
  ·exact(f b hb).1.2.2.1 z
 iq:=I.stack
 x9:=I.mH
theorem tf{h1:Heap}{t1:Nat}(B:Hj X N fr scope cl)(I:Inv X pins σ H s)(f:∀b∈fp,dN X pins H b∧b<s.heap.objs.size)(rh:h1.Ns s.heap.objs.size fun _=>none)
  (tj:∀b o,s.heap.get? b=some o→h1.get? b=some o):Inv (lX X pins N scope cl fp s H) [] (startB fr σ) H { s with heap:=h1,toks:=t1 }:=by
 obtain⟨m,hm,hl⟩:=I.loc
 refine⟨vg B I f,rfl,I.bare,Un.kept tj,⟨_,rh,fun i x v e1 e2 _=>?_⟩,fun x c h=>?_,I.bV.fresh (Nat.le_refl _),fun x c h=>I.fR x c (B.cells x c h),fun p hp=>?_,I.bV.kept tj,?_⟩
 ·obtain⟨j,ej,es⟩:=kr e2
  obtain⟨o1,o2,o3⟩:=B.out i j x e1 ej
  obtain⟨u,ru,L⟩:=hl j x v o1 es (.inr (.inl o2))
  refine⟨u,ru, .inr ⟨o3,?_⟩⟩
  obtain⟨c,hc⟩:=B.has x o3
  rcases L with ⟨k1,_⟩ | ⟨_,c',lC,cc⟩
  ·rw[o2] at k1;cases k1
  ·rw[B.cells x c hc] at lC
   cases lC
   exact⟨c,hc,cc.keeps tj⟩
 ·obtain⟨v,hv⟩:=I.cell x c (B.cells x c h)
  exact⟨v,hv.keeps tj⟩
 ·have rm:p∈X.pn++pins:=by rw[List.append_nil] at hp;exact hp
  obtain⟨p1,p2,p3,p4,p5⟩:=I.pin p rm
  exact⟨tj _ _ p1,p2,Nat.ne_of_lt (Heap.lt_size p1),fun z=>(List.mem_cons.mp (I.iZ _ z)).elim p3 p4,p5⟩
 ·show (startB fr σ).length=N.length
  unfold startB
  rw[List.length_map,B.len]
end
def vh(X:Cx)(cs:List Expr)(t:TT):Prop:=
 ∀(pins:List (Addr×Obj)) (s:Shared) (σ:St) (H:Hp) (Q:Bool→Hp→Prop),Inv X pins σ H s→t σ H Q→
  wpAny (model X.prog X.w) X.A (forIn cs true fun c r=>if r=true then do let ok←isTrue c X.env (eval c X.env);pure (ForInStep.yield ok) else pure (ForInStep.yield r)) (TP X pins σ Q) X.xe s
def Pz:TT:=fun _ H Q=>Q true H
theorem aS{X:Cx}:vh X [] Pz:=fun pins s σ H Q I h=>by
 rw[List.forIn_nil]
 exact wpAny_pure ⟨H,I,h⟩
theorem jU{X:Cx}{c:Expr}{t:TT}(h:PT X c t):vh X [c] t:=fun pins s σ H Q I q=>by
 rw[List.forIn_cons,if_pos rfl]
 refine wpAny_bind (wpAny_bind (bF (h pins s σ H Q I q) fun b s' z=>?_))
 refine wpAny_pure ?_
 dsimp only
 rw[List.forIn_nil]
 exact wpAny_pure z
section
variable {prog:Program}{w:World}{A:Around}{R:Result→Shared→Prop}{s:Shared}
theorem comp_loop{elt tg iter:Expr}{ifs:List Expr}{scope:Scope}{pos:Pos}{it acc:Value}{env:Env}(J:Nat→Shared→Prop)
  (turn:∀n s,J n s→wpAny (model prog w) A (pyNext it) (fun r s₁=>match r with
   |none=>R (.ok .next) s₁
   |some v=>wpAny (model prog w) A (letOwnedTupleGo tg it v) (fun _ sg=>wpAny (model prog w) A (assign tg env v) (fun _ s₂=>
     wpAny (model prog w) A (forIn ifs true fun c r=>if r=true then do let ok←isTrue c env (eval c env);pure (ForInStep.yield ok) else pure (ForInStep.yield r)) (fun ok s₃=>
      if ok=true then wpAny (model prog w) A (eval elt env) (fun x s₄=>wpAny (model prog w) A (call (.builtin "list.append") [acc,x]) (fun _ s₅=>∃m,m<n∧J m s₅) (fun _ _=>False) s₄) (fun _ _=>False) s₃
      else∃m,m<n∧J m s₃) (fun _ _=>False) s₂) (fun _ _=>False) sg) (fun _ _=>False) s₁) (fun _ _=>False) s)
  (n:Nat) (h:J n s):codeAny (model prog w) A (.compLoop (.ListComp elt [⟨tg,iter,ifs,0⟩] scope pos) 0 it acc env) R s:=by
 refine codeAny_loop rfl J (fun n s hJ=>?_) n h
 show wpAny _ A ((compTurn (.ListComp elt [⟨tg,iter,ifs,0⟩] scope pos) 0 it acc env).onRaise (fun x=>do noteFrame x env;theTreesLotGoes x)) _ _ s
 refine wpAny_noted ?_
 rw[compTurn_list]
 have no:∀{P:Value→Shared→Prop} (a:Value) (s:Shared),(fun (_:Value) (_:Shared)=>False) a s→P a s:=fun _ _ z=>False.elim z
 refine wpAny_bind (wpAny_standAt (wpAny_bind (wpAny_mono (turn n s hJ) (fun r s₁ h₁=>?_) no)))
 cases r with
 |none=>exact wpAny_pure h₁
 |some v=>
  refine wpAny_bind (wpAny_mono h₁ (fun _ sg hg=>?_) no)
  refine wpAny_bind (wpAny_mono hg (fun _ s₂ h₂=>wpAny_bind (wpAny_mono h₂ (fun ok s₃ h₃=>?_) no)) no)
  cases ok with
  |false=>exact wpAny_pure ⟨rfl,h₃⟩
  |true=>exact wpAny_bind (wpAny_bind (wpAny_mono h₃ (fun x s₄ h₄=>wpAny_bind (wpAny_mono h₄ (fun _ s₅ h₅=>wpAny_pure (wpAny_pure ⟨rfl,h₅⟩)) no)) no))
end
def rn(wi:TI)(fr:List (Option Nat))(g:TG)(tt:TT)(te:TE):TE:=fun σ H Q=>wi σ H fun J H1=>∀D,H1 D=none→∃W:Nat→Nat→St→Hp→Prop,(∃m,W 0 m (startB fr σ) (upd H1 D (.lst [])))∧∀i m σ H,W i m σ H→
 (J.stop i H∧Q (.ref D) H)∨(J.go i H∧∀x H2,J.jP i H x H2→g x σ H2 fun σ3 H3=>tt σ3 H3 fun b H4=>if b=true
   then te σ3 H4 fun y H5=>∃ys,H5 D=some (.lst ys)∧ys.length<sizeLine∧∃m',m'<m∧W (i+1) m' σ3 (upd H5 D (.lst (ys++[y])))
   else∃m',m'<m∧W (i+1) m' σ3 H4)
section
variable {X:Cx}{elt tg iter:Expr}{ifs:List Expr}{scope:Scope}{pos:Pos}{N:List Str}{fr:List (Option Nat)}{cl:List (Str×Addr)}{wi:TI}{g:TG}{tt:TT}{te:TE}
theorem yA(B:Hj X N fr scope cl)(hc:X.calm=true)
  (hg:∀pins fp s H,PG (lX X pins N scope cl fp s H) tg g) (ht:∀pins fp s H,vh (lX X pins N scope cl fp s H) ifs tt) (he:∀pins fp s H,PE (lX X pins N scope cl fp s H) elt te)
  {pins:List (Addr×Obj)} {s3:Shared} {σ:St} {H3:Hp} {Q:VK} {it D:Addr} {fp:List Addr} {tn:Nat→Heap→Prop} {J:It} (I3:Inv X pins σ H3 s3) (T:Turn X.prog X.w X.K tg J fp it tn) (uN:tn 0 s3.heap) (f3:∀b∈fp,dN X pins H3 b∧b<s3.heap.objs.size)
  {W:Nat→Nat→St→Hp→Prop} {m0:Nat} (w0:W 0 m0 (startB fr σ) H3)
  (turn:∀i m σ H,W i m σ H→(J.stop i H∧Q (.ref D) H)∨(J.go i H∧∀x H2,J.jP i H x H2→g x σ H2 fun σ3 H3=>tt σ3 H3 fun b H4=>if b=true
    then te σ3 H4 fun y H5=>∃ys,H5 D=some (.lst ys)∧ys.length<sizeLine∧∃m',m'<m∧W (i+1) m' σ3 (upd H5 D (.lst (ys++[y])))
    else∃m',m'<m∧W (i+1) m' σ3 H4))
  {R:Result→Shared→Prop} (hR:∀s' H',Inv X pins σ H' s'→dN X pins H' s3.heap.objs.size→(∃m,s'.heap.Ns s3.heap.objs.size m)→Q (.ref D) H'→R (.ok .next) s')
  {h₁:Heap} {t1:Nat} (rh:h₁.Ns s3.heap.objs.size fun _=>none) (vi:∀b o,s3.heap.get? b=some o→h₁.get? b=some o):
  codeAny (model X.prog X.w) X.A (.compLoop (.ListComp elt [⟨tg,iter,ifs,0⟩] scope pos) 0 (.ref it) (.ref D) (compEnvC scope cl s3.heap.objs.size X.env)) R { s3 with heap:=h₁,toks:=t1 }:=by
 have Ib:=tf (t1:=t1) B I3 f3 rh vi
 have kj:∀{H':Hp},(∀b∈fp,H' b=none)→∀b∈fp,dN (lX X pins N scope cl fp s3 H3) [] H' b:=fun hn b hb=>
  ⟨hn b hb,Nat.ne_of_lt (f3 b hb).2,(vg B I3 f3).oh b hb, .inl hb,fun x c h=>(f3 b hb).1.2.2.2.2.1 x c (B.cells x c h),fun p hp=>(f3 b hb).1.2.2.2.2.2 p (by rw[List.append_nil] at hp;exact hp)⟩
 refine comp_loop (fun n s'=>∃i σ' H',Inv (lX X pins N scope cl fp s3 H3) [] σ' H' s'∧tn i s'.heap∧(∀b∈fp,H' b=none)∧W i n σ' H') ?_ m0
  ⟨0,_,_,Ib,T.keep _ _ _ uN fun b _ o e=>vi b o e,fun b hb=>(f3 b hb).1.1,w0⟩
 rintro n s4 ⟨i,σ4,H4,I4,Hl,Hm,w4⟩
 rcases turn i n σ4 H4 w4 with ⟨stop,qn⟩ | ⟨go,step⟩
 ·refine bF (T.done (lX X pins N scope cl fp s3 H3) rfl rfl rfl hc i [] s4 σ4 H4 _ I4 (kj Hm) Hl stop) fun r s5 ⟨hr,I5⟩=>?_
  subst hr
  have J5:Inv X pins σ H4 s5:=I3.A8 (ch:=fp) I5.os I5.base I5.bV I5.bare fun b hb=>⟨(f3 b hb).1.2.2.2.1,(f3 b hb).1.2.1,(f3 b hb).1.2.2.2.2.1,(f3 b hb).1.2.2.2.2.2⟩
  obtain⟨mm,PB,_⟩:=I5.loc
  exact hR s5 H4 J5 (I3.sJ (Nat.le_refl _) I5.free) ⟨mm,PB⟩ qn
 ·refine bF (T.item (lX X pins N scope cl fp s3 H3) rfl rfl rfl hc i [] s4 σ4 H4 _ I4 (kj Hm) Hl go) fun r s5 ⟨u,hr,h5⟩=>?_
  subst hr
  refine bF h5 fun _ s6 ⟨x,H6,I6,r6,y6,C0,PD⟩=>?_
  have PF:=I6.pinned (kj PD) (T.obj _ _ C0)
  have back:∀{s7:Shared} {σ7:St} {H7:Hp} {m':Nat},Inv (lX X pins N scope cl fp s3 H3) ([]++i8 fp s6.heap) σ7 H7 s7→m'<n→W (i+1) m' σ7 H7→
    ∃m,m<n∧∃i σ' H',Inv (lX X pins N scope cl fp s3 H3) [] σ' H' s7∧tn i s7.heap∧(∀b∈fp,H' b=none)∧W i m σ' H':=fun {s7 σ7 H7 m'} I7 hm w7=>by
   refine⟨m',hm,i+1,σ7,H7,I7.fU,T.keep _ _ _ C0 fun b hb o e=>(I7.pin (b,o) (List.mem_append_right _ (List.mem_append_right _ (dh hb e)))).1,fun b hb=>?_,w7⟩
   obtain⟨o,e,d⟩:=T.obj _ _ C0 b hb
   exact(I7.pin (b,o) (List.mem_append_right _ (List.mem_append_right _ (dh hb e)))).2.1
  refine bF (hg _ _ _ _ _ s6 σ4 H6 x u _ PF r6 (step x H6 y6)) fun _ s7 ⟨σ7,H7,I7,q7⟩=>?_
  refine bF (ht _ _ _ _ _ s7 σ7 H7 _ I7 q7) fun ok s8 ⟨H8,I8,q8⟩=>?_
  cases ok with
  |false=>
   rw[if_neg (by decide)] at q8 ⊢
   obtain⟨m',hm,w8⟩:=q8
   exact back I8 hm w8
  |true=>
   rw[if_pos rfl] at q8 ⊢
   refine bF (he _ _ _ _ _ s8 σ7 H8 _ I8 q8) fun y s9 ⟨v9,H9,I9,r9,ys,F4,PH,m',hm,w9⟩=>?_
   refine bF (bI _ s9 σ7 H9 (.ref D) [v9] _ [y] (fun _ H'=>W (i+1) m' σ7 H') I9 rfl (.cons r9 .nil) ⟨_,ys,v9,rfl,rfl,F4,PH,w9⟩) fun _ UK ⟨_,xS,PJ,_,PK⟩=>?_
   exact back PJ hm PK
theorem oB(B:Hj X N fr scope cl)(hc:X.calm=true)
  (hg:∀pins fp s H,PG (lX X pins N scope cl fp s H) tg g) (ht:∀pins fp s H,vh (lX X pins N scope cl fp s H) ifs tt) (he:∀pins fp s H,PE (lX X pins N scope cl fp s H) elt te)
  {pins:List (Addr×Obj)} {s2:Shared} {σ:St} {H2:Hp} {Q:VK} {E:Value→Shared→Prop} {it:Addr} {fp:List Addr} {tn:Nat→Heap→Prop} {J:It} (I2:Inv X pins σ H2 s2) (T:Turn X.prog X.w X.K tg J fp it tn) (fN:tn 0 s2.heap) (f2:∀b∈fp,dN X pins H2 b)
  (q:∀D,H2 D=none→∃W:Nat→Nat→St→Hp→Prop,(∃m,W 0 m (startB fr σ) (upd H2 D (.lst [])))∧∀i m σ H,W i m σ H→
   (J.stop i H∧Q (.ref D) H)∨(J.go i H∧∀x H2,J.jP i H x H2→g x σ H2 fun σ3 H3=>tt σ3 H3 fun b H4=>if b=true
     then te σ3 H4 fun y H5=>∃ys,H5 D=some (.lst ys)∧ys.length<sizeLine∧∃m',m'<m∧W (i+1) m' σ3 (upd H5 D (.lst (ys++[y])))
     else∃m',m'<m∧W (i+1) m' σ3 H4))
  {RR:Value→Addr→Result→Shared→Prop}
  (PL:∀D C s' H',Inv X pins σ H' s'→dN X pins H' C→(∃m,s'.heap.Ns C m)→Q (.ref D) H'→RR (.ref D) C (.ok .next) s'):
  wpAny (model X.prog X.w) X.A (newList []) (fun acc s₃=>wpAny (model X.prog X.w) X.A (newFunctionEnv scope X.env.globals cl [] X.env.qual none .none (some X.env)) (fun vj s₄=>
   codeAny (model X.prog X.w) X.A (.compStart (.ListComp elt [⟨tg,iter,ifs,0⟩] scope pos) 0 (.ref it) acc { vj with scope:=relabel scope X.env }) (RR acc vj.locals) s₄) E s₃) E s2:=by
 have hD:H2 s2.heap.objs.size=none:=I2.bV.fresh (Nat.le_refl _)
 obtain⟨W,⟨m0,w0⟩,turn⟩:=q s2.heap.objs.size hD
 have I3:=I2.yu (ys:=[]) (its:=[]) (t':=s2.toks) .nil (by decide)
 have Hn:∀b∈fp,b<s2.heap.objs.size:=fun b hb=>by
  obtain⟨o,e,_⟩:=T.obj _ _ fN b hb
  exact Heap.lt_size e
 refine wpAny_newObj_type (wpAny_newFunctionEnv B.mM (by intro y hy;simp at hy) (fun h₁ rh tj=>?_) B.kind)
 have N5:∀b o,s2.heap.get? b=some o→(s2.heap.push { cls:= .type "list",data:= .seq ([]:List Value).toArray }).get? b=some o:=fun b o e=>Heap.get?_push_of_some _ e
 have vi:∀b o,(s2.heap.push { cls:= .type "list",data:= .seq ([]:List Value).toArray }).get? b=some o→h₁.get? b=some o:=fun b o e=>tj.extBut b o (Nat.ne_of_lt (Heap.lt_size e)) (Heap.get?_push_of_some _ e)
 have f3:∀b∈fp,dN X pins (upd H2 s2.heap.objs.size (.lst [])) b∧b< (s2.heap.push { cls:= .type "list",data:= .seq ([]:List Value).toArray }).objs.size:=fun b hb=>by
  refine⟨⟨?_,(f2 b hb).2⟩,?_⟩
  ·rw[ao (Nat.ne_of_lt (Hn b hb))]
   exact(f2 b hb).1
  ·rw[Heap.size_push]
   exact Nat.lt_succ_of_lt (Hn b hb)
 have fin:=yA (iter:=iter) (pos:=pos) (D:=s2.heap.objs.size) (t1:=s2.toks) (R:=RR (.ref s2.heap.objs.size) (s2.heap.push { cls:= .type "list",data:= .seq ([]:List Value).toArray }).objs.size) B hc hg ht he I3 T (T.keep _ _ _ fN fun b _ o e=>N5 b o e) f3 w0 turn
  (fun s' H' J' f m q=>PL _ _ s' H' J' f m q) rh vi
 exact codeAny_compStart_list fin (T.self _ 0 _ _ _ (T.keep _ _ _ fN fun b _ o e=>vi b o (N5 b o e)) fin)
theorem ba{sc:Scope}{NX:List Str}(S:yz sc scope NX N fr)(e1:X.env.scope=sc)(e2:X.N=NX)(hc:X.calm=true)(hi:PI X tg iter wi)
  (hg:∀pins fp s H,PG (lX X pins N scope (fY scope X.env) fp s H) tg g) (ht:∀pins fp s H,vh (lX X pins N scope (fY scope X.env) fp s H) ifs tt) (he:∀pins fp s H,PE (lX X pins N scope (fY scope X.env) fp s H) elt te)
  (hs:∀x,foldedSetIterable iter X.env x=pure x:=by intro _;rfl):PE X (.ListComp elt [⟨tg,iter,ifs,0⟩] scope pos) (rn wi fr g tt te):=by
 intro pins s σ H Q I h
 have B:=S.Hk e1 e2 I.ok
 rw[eval_ListComp]
 refine wpAny_comprehension_free (use:=none) rfl hs B.ve B.kind B.names (bF (hi pins s σ H _ I h) fun v s1 h1=>bF h1 fun F3 s2 h2=>?_)
 obtain⟨it,fp,tn,J,H2,e,I2,T,fN,f2,q⟩:=h2
 subst e
 refine oB (RR:=fun acc C=>compPost (model X.prog X.w) X.A X.xe none (EP X pins σ Q) acc C) B hc hg ht he I2 T fN f2 q ?_
 intro D C s' H' J' fC ⟨m,hm⟩ qn
 refine⟨m,hm,fun h' C4=>⟨.ref D,H',?_,rfl,qn⟩⟩
 obtain⟨f0,f1,_,f3,f4,f5⟩:=fC
 exact J'.turned (t':=s'.toks) (fun b o hb e=>(C4.2 b hb).trans e) f0 f1 f3 f4 f5
end
end L2
namespace L2
open PySem PySem.Spec PyProof.Rows
structure yB(K:PySem.W.Frag)(x qual:Str)(st:Stmt)(f:Addr)(fd:FuncData)(dV:Value):Prop where
 ex:∃(oc:Value) (od:Option Addr) (kV doc pm:Value) (an:Option Addr) (b6 ct:Value) (qZ:Array (Option Value)),
  fd=PySem.W.fnOf x qual (aJ st) (aC st) (ag st) dV kV doc pm an b6 ct∧K.lookup f=some ⟨oc,od, .func fd,qZ⟩∧PySem.W.codeIn K b6 qual=true
 kp:PySem.W.keepIn K (.ref f)=true
section
variable {P:Program}{w:World}{K:PySem.W.Frag}{mg:Str→Option Value}{base:Heap}
theorem yB.ok{x qual:Str}{st:Stmt}{f:Addr}{fd:FuncData}{dV:Value}{N ps:List Str}{k:Nat}{sp:Sp}(F:yB K x qual st f fd dV)(S:aI N ps (ag st))(len:∀vs H Q E,sp vs H Q E→vs.length=ps.length)
  (fW:∀(b6:Value) (A:Around) (outer:List Env) (s:Shared) (H:Hp) (vs:List V) (Q:VK) (E:XK),cV k (A.deeper (envOfC qual (ag st) s.heap.objs.size f b6))→sp vs H Q E→
   ∃t,nV (lE qb P w K mg base N qual (ag st) f b6 A outer s H E).ya (aC st) t∧t { nx:=fun _ H'=>Q .dG H',rt:=Q } (start N vs) H):fO P w K mg base qb (k+1) f fd ps sp:=by
 obtain⟨oc,od,kV,doc,pm,an,b6,ct,qZ,rfl,lk,sI⟩:=F.ex
 refine fn_of lk sI S len fun A outer s H vs Q E hr xR=>?_
 obtain⟨t,h,q⟩:=fW b6 A outer s H vs Q E hr xR
 exact⟨t,h.ya,q⟩
theorem mN{x qual:Str}{st:Stmt}{f:Addr}{oc dV:Value}{od an:Option Addr}{qZ:Array (Option Value)}{kV doc pm b6 ct:Value}(l:K.lookup f=some ⟨oc,od, .func (PySem.W.fnOf x qual (aJ st) (aC st) (ag st) dV kV doc pm an b6 ct),qZ⟩)
  (c:PySem.W.codeIn K b6 qual=true) (k:PySem.W.keepIn K (.ref f)=true):yB K x qual st f (PySem.W.fnOf x qual (aJ st) (aC st) (ag st) dV kV doc pm an b6 ct) dV:=⟨⟨oc,od,kV,doc,pm,an,b6,ct,qZ,rfl,l,c⟩,k⟩
def Def(K:PySem.W.Frag)(mg:Str→Option Value)(x q:Str)(st:Stmt)(ps:List Str):Prop:=∃f fd,Bh K x q st f fd∧Binds K fd ps []∧mg x=some (.ref f)
structure UL(P:Program)(w:World)(K:PySem.W.Frag)(mg:Str→Option Value)(base:Heap)(k:Nat)(x:Str)(ps:List Str)(sp:Sp)(f:Addr)(fd:FuncData):Prop where
 ok:fO P w K mg base qb k f fd ps sp
 kp:PySem.W.keepIn K (.ref f)=true
 b:Binds K fd ps []
 g:mg x=some (.ref f)
def cC(P:Program)(w:World)(K:PySem.W.Frag)(mg:Str→Option Value)(base:Heap)(k:Nat)(x:Str)(ps:List Str)(sp:Sp):Prop:=∃f fd,UL P w K mg base k x ps sp f fd
theorem Def.il{x q:Str}{st:Stmt}{N ps:List Str}{k:Nat}{sp:Sp}(D:Def K mg x q st ps)(S:aI N ps (ag st))(len:∀vs H Q E,sp vs H Q E→vs.length=ps.length)
  (fW:∀(f:Addr) (b6:Value) (A:Around) (outer:List Env) (s:Shared) (H:Hp) (vs:List V) (Q:VK) (E:XK),cV k (A.deeper (envOfC q (ag st) s.heap.objs.size f b6))→sp vs H Q E→
   ∃t,nV (lE qb P w K mg base N q (ag st) f b6 A outer s H E).ya (aC st) t∧t { nx:=fun _ H'=>Q .dG H',rt:=Q } (start N vs) H):cC P w K mg base (k+1) x ps sp:=by
 obtain⟨f,fd,F,b,g⟩:=D
 exact⟨f,fd,F.ok S len (fW f),F.kp,b,g⟩
def ed(K:PySem.W.Frag)(C:Addr)(m q:Str)(st:Stmt)(ps:List Str):Prop:=∃f fd,Bh K m q st f fd∧Binds K fd ps []∧Meth K C m f
structure PM(P:Program)(w:World)(K:PySem.W.Frag)(mg:Str→Option Value)(base:Heap)(k:Nat)(C:Addr)(m:Str)(ps:List Str)(sp:Sp)(f:Addr)(fd:FuncData):Prop where
 ok:fO P w K mg base qb k f fd ps sp
 m:Meth K C m f
 b:Binds K fd ps []
def cF(P:Program)(w:World)(K:PySem.W.Frag)(mg:Str→Option Value)(base:Heap)(k:Nat)(C:Addr)(m:Str)(ps:List Str)(sp:Sp):Prop:=∃f fd,PM P w K mg base k C m ps sp f fd
theorem ed.il{C:Addr}{m q:Str}{st:Stmt}{N ps:List Str}{k:Nat}{sp:Sp}(D:ed K C m q st ps)(S:aI N ps (ag st))(len:∀vs H Q E,sp vs H Q E→vs.length=ps.length)
  (fW:∀(f:Addr) (b6:Value) (A:Around) (outer:List Env) (s:Shared) (H:Hp) (vs:List V) (Q:VK) (E:XK),cV k (A.deeper (envOfC q (ag st) s.heap.objs.size f b6))→sp vs H Q E→
   ∃t,nV (lE qb P w K mg base N q (ag st) f b6 A outer s H E).ya (aC st) t∧t { nx:=fun _ H'=>Q .dG H',rt:=Q } (start N vs) H):cF P w K mg base (k+1) C m ps sp:=by
 obtain⟨f,fd,F,b,g⟩:=D
 exact⟨f,fd,F.ok S len (fW f),g,b⟩
def oE(K:PySem.W.Frag)(C:Addr)(q:Str)(st:Stmt)(ps:List Str)(ds:List Int):Prop:=∃f fd dV,yB K "__init__" q st f fd dV∧Mk K C f∧∀j,j≤ds.length→∃us,Vals ((ds.drop j).map V.int) us∧Binds K fd ps us
structure PN(P:Program)(w:World)(K:PySem.W.Frag)(mg:Str→Option Value)(base:Heap)(k:Nat)(C:Addr)(ps:List Str)(ds:List Int)(sp:Sp)(f:Addr)(fd:FuncData):Prop where
 ok:fO P w K mg base qb k f fd ps sp
 m:Mk K C f
 b:∀j,j≤ds.length→∃us,Vals ((ds.drop j).map V.int) us∧Binds K fd ps us
def jw(P:Program)(w:World)(K:PySem.W.Frag)(mg:Str→Option Value)(base:Heap)(k:Nat)(C:Addr)(ps:List Str)(ds:List Int)(sp:Sp):Prop:=∃f fd,PN P w K mg base k C ps ds sp f fd
theorem oE.il{C:Addr}{q:Str}{st:Stmt}{N ps:List Str}{ds:List Int}{k:Nat}{sp:Sp}(D:oE K C q st ps ds)(S:aI N ps (ag st))(len:∀vs H Q E,sp vs H Q E→vs.length=ps.length)
  (fW:∀(f:Addr) (b6:Value) (A:Around) (outer:List Env) (s:Shared) (H:Hp) (vs:List V) (Q:VK) (E:XK),cV k (A.deeper (envOfC q (ag st) s.heap.objs.size f b6))→sp vs H Q E→
   ∃t,nV (lE qb P w K mg base N q (ag st) f b6 A outer s H E).ya (aC st) t∧t { nx:=fun _ H'=>Q .dG H',rt:=Q } (start N vs) H):jw P w K mg base (k+1) C ps ds sp:=by
 obtain⟨f,fd,dV,F,g,b⟩:=D
 exact⟨f,fd,F.ok S len (fW f),g,b⟩
end
theorem ak.new{H:Hp}{p:Addr}{o:HO}(h:H p=none):ak H (upd H p o):=fun b q e=>by
 rw[ao (af e h)];exact e
theorem int_at{ns:List Int}{i:Nat}{y:V}(h:(ns.map V.int)[i]? =some y):∃z,ns[i]? =some z∧y=V.int z:=by
 rw[List.getElem?_map] at h
 cases e:ns[i]? with
 |none=>rw[e] at h;cases h
 |some z=>rw[e] at h;exact⟨z,rfl,(Option.some.inj h).symm⟩
end L2
namespace L2
open PySem
theorem dI:bootBuiltins "len" =some (.builtin "len"):=PySem.boot_len
theorem dr:bootBuiltins "isinstance" =some (.builtin "isinstance"):=by decide+kernel
theorem C5:bootBuiltins "int" =some (.type "int"):=by decide+kernel
theorem yC:bootBuiltins "bool" =some (.type "bool"):=by decide+kernel
theorem cX:bootBuiltins "list" =some (.type "list"):=by decide+kernel
theorem je:bootBuiltins "sum" =some (.builtin "sum"):=by decide+kernel
theorem PQ{c A B:Prop}[Decidable c](hc:c)(h:A):if decide c=true then A else B:=by
 rw[if_pos (decide_eq_true hc)];exact h
theorem PR{c A B:Prop}[Decidable c](hc:¬c)(h:B):if decide c=true then A else B:=by
 rw[if_neg (by rw[decide_eq_false hc];decide)];exact h
theorem qe{α:Type}{xs:List α}{i:Int}(h0:0≤i)(h1:i<xs.length):∃v,v∈xs∧Bg xs i=some v:=by
 have hl:i.toNat<xs.length:=by omega
 refine⟨xs[i.toNat],List.getElem_mem hl,?_⟩
 have:=cb (List.getElem?_eq_getElem hl)
 rwa [Int.toNat_of_nonneg h0] at this
end L2
namespace L2
open PySem PySem.Spec PyProof.Rows
inductive lY:List Expr→List V→Prop where
 |nil:lY [] []
 |int {i:Int} {j} {pos:Pos} {es:List Expr} {vs:List V} (t:lY es vs):lY (.Constant (.int i) j pos::es) (.int i::vs)
 |str {x:Str} {j} {pos:Pos} {es:List Expr} {vs:List V} (t:lY es vs):lY (.Constant (.str x) j pos::es) (.str x::vs)
def Ho(vs:List V):TA:=fun _ H Q=>Q vs H
theorem rp{X:Cx}{es:List Expr}{vs:List V}(h:lY es vs):PA X es (Ho vs):=by
 induction h with
 |nil=>exact ai
 |int t ih=>exact fun pos pins s σ H Q I q=>aa ax ih rfl pos pins s σ H Q I q
 |str t ih=>exact fun pos pins s σ H Q I q=>aa CB ih rfl pos pins s σ H Q I q
section
variable {K:PySem.W.Frag}
theorem oF{T:String}:PySem.W.kitOne K (.type T) (.type T)=some true:=by
 unfold PySem.W.kitOne
 rw[if_pos (by simp)]
theorem C7{T U:String}{b:Bool}(h1:(Value.type T==Value.type U)=false)(h2:PySem.W.kitMeta U=true)(h3:(fastBuiltinMro T).map (·.contains (Value.type U))=some b):PySem.W.kitOne K (.type T) (.type U)=some b:=by
 unfold PySem.W.kitOne
 rw[if_neg (by rw[h1];decide)]
 unfold PySem.W.kitCls
 dsimp only
 rw[if_pos h2]
 exact h3
theorem mO:PySem.W.kitOne K (.type "int") (.type "bool")=some false:=C7 (by decide+kernel) (by decide+kernel) (by decide+kernel)
end
end L2
namespace L2
open PySem PySem.Spec PyProof.Rows
section
variable {X:Cx}{elt tg iter:Expr}{ifs:List Expr}{scope:Scope}{pos tm py:Pos}{N:List Str}{fr:List (Option Nat)}{wi:TI}{g:TG}{tt:TT}{te:TE}
theorem gE{i:Nat}{y:Str}{sc:Scope}{NX:List Str}(hN:X.N.Nodup)(uw:X.N[i]? =some y)(hy:Loc X.env.scope y)(S:yz sc scope NX N fr)(e1:X.env.scope=sc)(e2:X.N=NX)(hc:X.calm=true)(hi:PI X tg iter wi)
  (hg:∀pins fp s H,PG (lX X pins N scope (fY scope X.env) fp s H) tg g) (ht:∀pins fp s H,vh (lX X pins N scope (fY scope X.env) fp s H) ifs tt) (he:∀pins fp s H,PE (lX X pins N scope (fY scope X.env) fp s H) elt te)
  (PU:swapsWith (.ListComp elt [⟨tg,iter,ifs,0⟩] scope pos) (some (.Name y py)) tm.line X.env=pure true:=by rfl) (hs:∀x,foldedSetIterable iter X.env x=pure x:=by intro _;rfl)
  (hf:X.fn y=true∨X.env.scope.names.lookup y=some .local:=by first|exact .inl rfl|exact .inr rfl|assumption):
  PS X (.Assign [.Name y py] (.ListComp elt [⟨tg,iter,ifs,0⟩] scope pos) tm) (yb (rn wi fr g tt te) (aO i)):=by
 intro pins s σ H D I h
 have B:=S.Hk e1 e2 I.ok
 rw[exec_Assign_Name_used _ _ _ _ PU]
 refine wpAny_bind (wpAny_standAt (wpAny_bind ?_))
 show wpAny _ X.A (do let _←comprehension (.ListComp elt [⟨tg,iter,ifs,0⟩] scope pos) scope X.env _ (newList []) false (eval iter X.env) (some (assign (.Name y py) X.env))) _ _ s
 refine wpAny_bind (wpAny_mono (wpAny_comprehension_free (use:=some (assign (.Name y py) X.env)) (Q:=fun _ s'=>SP X pins D .next s') rfl hs B.ve B.kind B.names (bF (hi pins s σ H _ I h) fun v s1 h1=>bF h1 fun F3 s2 h2=>?_)) (fun _ s' hq=>wpAny_pure (wpAny_pure hq)) fun _ _ e=>e)
 obtain⟨it,fp,tn,J,H2,e,I2,T,fN,f2,q⟩:=h2
 subst e
 refine oB (Q:=fun v H'=>aO i v σ H' D.nx) (RR:=fun acc C=>compPost (model X.prog X.w) X.A X.xe (some (assign (.Name y py) X.env)) (fun _ s'=>SP X pins D .next s') acc C) B hc hg ht he I2 T fN f2 q ?_
 intro D' C s' H' J' fC ⟨m,hm⟩ qn
 obtain⟨f0,f1,_,f3,f4,f5⟩:=fC
 show wpAny _ X.A (assign (.Name y py) X.env (.ref D')) _ _ _
 refine wpAny_assign_Name (i0 J' hN uw hy (v:= .ref D') rfl (fun p7 PV ⟨a,sb,ha⟩=>?_) hf)
 have PX:C≠a:=by
  rcases ha with z|z
  ·rw[z];exact f1
  ·exact fun w'=>f4 _ _ z w'.symm
 refine⟨m,hm.sameBut sb PX,fun h' C4=>⟨_,H',?_,qn⟩⟩
 exact PV.turned (t':=p7.toks) (fun b o hb e=>(C4.2 b hb).trans e) f0 f1 f3 f4 f5
end
theorem cY{X:Cx}{es:List Expr}{k:Nat}{pos:Pos}{t:A'}(K:PySem.W.Frag)(n:Nat)(hK:X.K=K)(hc:X.calm=true)(h:F2 X es t)(hn:(assignEach es X.env).length=n:=by rfl)(GJ:(assignEach es X.env).findIdx? (·.1)=none:=by rfl):PG X (.Tuple es k pos) (GI K n t):=by
 subst hK
 exact ke hc h hn GJ
end L2
namespace L2
open PySem PySem.Spec PyProof.Rows
section
variable {X:Cx}
theorem fZ(hc:X.calm=true):eh X (.builtin "sum") (fun xs H Q=>∃p,∃ns:List Int,xs=[.ref p]∧aD X.K H p (ns.map V.int)∧Q (.int ns.sum) H):=by
 intro pins s σ H xs us Q I r h
 obtain⟨p,ns,rfl,hS,q⟩:=h
 obtain⟨u,rfl,ru⟩:=vals1 r
 cases ru
 obtain⟨its,rv,pl,hz⟩:=I.list hS
 have hi:IntsAre its ns:=intsAre_of rv
 obtain⟨ys,hy⟩:=hi.allInts.items
 have hl:s.heap.IsList p (intItems ys):=hy▸pl.isList
 refine sum_intListG (I.ok.hd hc) hl fun h' tk t' hk=>?_
 have e1:ns=ys.toList.map (·.1):=by
  rw[←nums_intItems,←hy]
  exact(show numsOf its.toArray.toList=ns from hi.numsOf).symm
 have e2:preSum (numAt ys) ys.size=ns.sum:=by rw[preSum_eq,List.take_of_length_le (by simp),e1]
 exact⟨.int ns.sum,H,I.kept hk,⟨_,by rw[e2]⟩,q⟩
mutual
inductive lZ(K:PySem.W.Frag)(H:Hp):V→PyData→Prop where
 |dG:lZ K H .dG .none
 |bl (b:Bool):lZ K H (.bl b) (.bool b)
 |int (i:Int):lZ K H (.int i) (.int i)
 |str (x:Str):lZ K H (.str x) (.str x)
 |lst {a:Addr} {xs:List V} {ds:List PyData} (h:aD K H a xs) (t:kv K H xs ds):lZ K H (.ref a) (.list ds)
 |tup {a:Addr} {xs:List V} {ds:List PyData} (h:kd K H a xs) (t:kv K H xs ds):lZ K H (.ref a) (.tuple ds)
inductive kv(K:PySem.W.Frag)(H:Hp):List V→List PyData→Prop where
 |nil:kv K H [] []
 |cons {x:V} {d:PyData} {xs:List V} {ds:List PyData} (h:lZ K H x d) (t:kv K H xs ds):kv K H (x::xs) (d::ds)
end
mutual
theorem f9{pins:List (Addr×Obj)}{σ:St}{H:Hp}{s:Shared}(I:Inv X pins σ H s){x:V}{d:PyData}(h:lZ X.K H x d){u:Value}(r:RelV x u):∃as,Reads s.heap u d as:=by
 cases h with
 |dG=>cases (show u=Value.none from r);exact⟨_, .none⟩
 |bl b=>cases (show u=Value.bool b from r);exact⟨_, .bool b⟩
 |int i=>obtain⟨t,rfl⟩:=(show∃t,u=Value.int i t from r);exact⟨_, .int i t⟩
 |str y=>obtain⟨t,rfl⟩:=(show∃t,u=Value.str y t from r);exact⟨_, .str y t⟩
 | @lst a xs ds hS t=>
   cases (show u=Value.ref a from r)
   obtain⟨its,rv,p,_⟩:=I.list hS
   obtain⟨o,ho,hc,n,hd⟩:=p.isList
   obtain⟨as,ra⟩:=f' I t rv
   exact⟨_, .list ho hc hd (by simpa using ra)⟩
 | @tup a xs ds hS t=>
   cases (show u=Value.ref a from r)
   obtain⟨its,rv,p,_⟩:=I.tuple hS
   obtain⟨o,ho,hc,n,hd⟩:=p
   obtain⟨as,ra⟩:=f' I t rv
   exact⟨_, .tuple ho hc hd (by simpa using ra)⟩
theorem f'{pins:List (Addr×Obj)}{σ:St}{H:Hp}{s:Shared}(I:Inv X pins σ H s){xs:List V}{ds:List PyData}(h:kv X.K H xs ds){us:List Value}(r:Vals xs us):∃as,ReadsAll s.heap us ds as:=by
 cases h with
 |nil=>cases r;exact⟨_, .nil⟩
 |cons h t=>
  cases r with
  |cons r1 r2=>
   obtain⟨as,ra⟩:=f9 I h r1
   obtain⟨bs,rb⟩:=f' I t r2
   exact⟨_, .cons ra rb⟩
end
def Hq(neg:Bool)(K:PySem.W.Frag):R2:=fun x y H Q=>∃d e,lZ K H x d∧lZ K H y e∧SeqAt.shaped d=true∧SeqAt.shaped e=true∧Q (.bl (neg^^PyData.eqv d e)) H
theorem vk(hu:X.A.units+64<cLine):jH X (compareOp .Eq) (Hq false X.K):=by
 intro pins s σ H x y v u Q I rx ry h
 obtain⟨d,e,hd,he,sd,se,q⟩:=h
 obtain⟨as,ra⟩:=f9 I hd rx
 obtain⟨bs,rb⟩:=f9 I he ry
 exact SeqAt.compareEq_shaped ra rb sd se hu ⟨.bl (PyData.eqv d e),H,I,rfl,by simpa using q⟩
theorem C8(hu:X.A.units+64<cLine):jH X (compareOp .NotEq) (Hq true X.K):=by
 intro pins s σ H x y v u Q I rx ry h
 obtain⟨d,e,hd,he,sd,se,q⟩:=h
 obtain⟨as,ra⟩:=f9 I hd rx
 obtain⟨bs,rb⟩:=f9 I he ry
 exact SeqAt.compareNe_shaped ra rb sd se hu ⟨.bl (!PyData.eqv d e),H,I,rfl,by simpa using q⟩
theorem kv.ints{K:PySem.W.Frag}{H:Hp}:∀ns:List Int,kv K H (ns.map V.int) (ns.map PyData.int)
 | []=> .nil
 |i::r=> .cons (.int i) (kv.ints r)
end
end L2
namespace L2
open PySem PySem.Spec PyProof.Rows
def cG(n:Nat)(i:Int):Prop:=i.natAbs<2^n
theorem cG.bits{n:Nat}{i:Int}(h:cG n i):Builtin.Int.intBits i≤n:=by
 unfold Builtin.Int.intBits
 by_cases e:i=0
 ·rw[if_pos (by simp [e])];exact Nat.zero_le _
 ·rw[if_neg (by simp [e])]
  have h0:i.natAbs≠0:=by omega
  have:=(Nat.log2_lt h0).mpr h
  omega
theorem cG.mono{m n:Nat}{i:Int}(h:cG m i)(hn:m≤n):cG n i:=Nat.lt_of_lt_of_le h (Nat.pow_le_pow_right (by decide) hn)
theorem cG.log{n:Nat}{i:Int}(h:cG n i)(hn:0<n):i.natAbs.log2<n:=by
 by_cases e:i.natAbs=0
 ·rw[e];simpa using hn
 ·exact(Nat.log2_lt e).mpr h
def rq(i j:Int):Prop:=yf i j∨∃m n,cG m i∧cG n j∧m+n≤134217728
theorem rq.ok{i j:Int}(h:rq i j):IntMulOk i j:=by
 rcases h with h| ⟨m,n,h1,h2,h3⟩
 ·exact h.ok
 ·have a:=h1.bits
  have b:=h2.bits
  have hc:Builtin.Int.intTooBig (Builtin.Int.intBits i+Builtin.Int.intBits j)=false:=by
   unfold Builtin.Int.intTooBig bitsLine
   exact decide_eq_false (by omega)
  unfold IntMulOk
  rw[hc]
  simp
def Hr(_ j:Int):Prop:=j≠0∧cG 9000 j
section
variable {X:Cx}
theorem gF:jH X (binaryOp .Mult) (rI rq fun i j=> .int (i*j)):=Bc fun _ _ _ _ _ _ _ hc q=>mul_int q hc.ok
theorem oG:jH X (binaryOp .FloorDiv) (rI Hr fun i j=> .int (i.fdiv j)):=Bc fun _ _ _ _ _ _ _ hc q=>floordiv_int hc.1 q (.inl (PyProof.noPylong_of_log2 (hc.2.log (by decide))))
end
theorem mP{tt:TT}{A B r:TS}{D:Ends}{σ:St}{H:Hp}(Pm:St→Hp→Prop)(h:∀N:St→Hp→Prop,(∀σ' H',Pm σ' H'→N σ' H')→CI tt A B { D with nx:=N } σ H)(hr:∀σ' H',Pm σ' H'→r D σ' H'):GF (CI tt A B) r D σ H:=h _ hr
section
variable {X:Cx}{pins:List (Addr×Obj)}{σ:St}{H:Hp}{s:Shared}{h':Heap}
theorem Inv.rz{t':Nat}{ch:List Addr}{T:Addr}{o:HO}(I:Inv X pins σ H s)(k:∀b u,b∉ch→s.heap.get? b=some u→h'.get? b=some u)(hf:∀b∈ch,dN X pins H b)
  (hT:s.heap.objs.size≤T) (new:cR X.prog X.w (upd H T o) h' T o):Inv X pins σ (upd H T o) { s with heap:=h',toks:=t' }:=by
 have hn:=I.bV.fresh hT
 have uF:∀b u,H b=some u→b∉ch:=fun b u e z=>by rw[(hf b z).1] at e;cases e
 refine I.step (g':=s.gens) (d':=s.drawn) (ch:=ch) (fun b hb=>⟨(hf b hb).2.2.2.1,(hf b hb).2.1,(hf b hb).2.2.2.2.1,(hf b hb).2.2.2.2.2⟩)
  (fun b u _ _ hc e _=>k b u hc e) (fun b u _ _ hc e _=>⟨u.slots,k b u hc e⟩) (fun b u _ e n=>?_) (fun b u hc e=>⟨u,k b u hc e⟩)
  (fun b xs e=>by rw[ao (af e hn)];exact e) (fun b u v e=>by rw[ao (af e hn)];exact e) (fun b ps e=>⟨#[],by rw[ao (af e hn),e];simp⟩) (fun m hm=>?_) (fun b u e=>?_) I.bare
 ·rw[ao (Nat.ne_of_lt (Nat.lt_of_lt_of_le (Heap.lt_size e) hT))];exact n
 ·obtain⟨u,es,ep,ho,r⟩:=hm
  exact⟨u,es,ep,k _ u (fun z=>(hf _ z).2.1 rfl) ho,r⟩
 ·by_cases hb:b=T
  ·subst hb;rw[ae] at e;cases e;exact new
  ·rw[ao hb] at e
   refine(I.bV b u e).pQ (fun c v hc q=>k c v ?_ q) (fun c q=>by rw[ao (af q hn)];exact q) fun c xs q=>by rw[ao (af q hn)];exact q
   rcases hc with z|z
   ·rw[z];exact uF b u e
   ·exact uF c _ z
theorem Inv.rA{t':Nat}{ch:List Addr}(I:Inv X pins σ H s)(k:∀b u,b∉ch→s.heap.get? b=some u→h'.get? b=some u)(hf:∀b∈ch,dN X pins H b):Inv X pins σ H { s with heap:=h',toks:=t' }:=by
 have uF:∀b u,H b=some u→b∉ch:=fun b u e z=>by rw[(hf b z).1] at e;cases e
 refine I.step (g':=s.gens) (d':=s.drawn) (ch:=ch) (fun b hb=>⟨(hf b hb).2.2.2.1,(hf b hb).2.1,(hf b hb).2.2.2.2.1,(hf b hb).2.2.2.2.2⟩)
  (fun b u _ _ hc e _=>k b u hc e) (fun b u _ _ hc e _=>⟨u.slots,k b u hc e⟩) (fun b u _ e n=>n) (fun b u hc e=>⟨u,k b u hc e⟩)
  (fun b xs e=>e) (fun b u v e=>e) (fun b ps e=>⟨#[],by rw[e];simp⟩) (fun m hm=>?_) (fun b u e=>?_) I.bare
 ·obtain⟨u,es,ep,ho,r⟩:=hm
  exact⟨u,es,ep,k _ u (fun z=>(hf _ z).2.1 rfl) ho,r⟩
 ·refine(I.bV b u e).pQ (fun c v hc q=>k c v ?_ q) (fun _ q=>q) fun _ _ q=>q
  rcases hc with z|z
  ·rw[z];exact uF b u e
  ·exact uF c _ z
end
def vm(K:PySem.W.Frag)(a b:Addr):It:=
 ⟨fun i H=>∃xs ys x y,aD K H a xs∧aD K H b ys∧xs[i]? =some x∧ys[i]? =some y,
  fun i H v H'=>∃p x y,H p=none∧H'=upd H p (.tup [x,y])∧v= .ref p∧(∀xs,aD K H a xs→xs[i]? =some x)∧∀ys,aD K H b ys→ys[i]? =some y,
  fun i H=>∃xs ys,aD K H a xs∧aD K H b ys∧(xs.length≤i∨ys.length≤i)⟩
theorem gd{h:Heap}{a b:Addr}{o u:Obj}(e:h.get? a=some o)(e':h.get? b=some u)(n:o.cls≠u.cls):a≠b:=fun z=>by
 subst z;rw[e] at e';cases e';exact n rfl
theorem neN{m n:Nat}(h:m<n∨n<m):(m:Addr)≠n:=fun z=>by
 have:m=n:=z
 omega
structure Hs(z TI TO i1 i2:Addr):Prop where
 TIz:TI≠z
 TOz:TO≠z
 i1z:i1≠z
 i2z:i2≠z
 TITO:TI≠TO
 TIi1:TI≠i1
 TIi2:TI≠i2
 TOi1:TO≠i1
 TOi2:TO≠i2
 i12:i1≠i2
theorem oH{h:Heap}{z TI TO i1 i2 l1 l2:Addr}{f0 a b:Value}{k1 k2:Nat}{xs ys:Array Value}(F:Hs z TI TO i1 i2)(hz:IsZip h z TI TO f0)(tp:IsPair h TO a b)(h1:h.IsListIter i1 l1 k1)(h2:h.IsListIter i2 l2 k2)
  (e1:h.IsList l1 xs) (e2:h.IsList l2 ys):ZipApart z TI TO i1 i2 l1 l2:=by
 obtain⟨o1,q1,c1,_⟩:=e1
 obtain⟨o2,q2,c2,_⟩:=e2
 obtain⟨u1,r1,d1,_⟩:=h1
 obtain⟨u2,r2,d2,_⟩:=h2
 have d:∀{n m:String},n≠m→Value.type n≠Value.type m:=fun h q=>by cases q;exact h rfl
 exact⟨F.TIz,F.TOz,F.i1z,F.i2z,F.TITO,F.TIi1,F.TIi2,F.TOi1,F.TOi2,F.i12,
  gd q1 hz (by rw[c1];exact d (by decide)),gd q1 tp (by rw[c1];exact d (by decide)),gd q1 r1 (by rw[c1,d1];exact d (by decide)),gd q1 r2 (by rw[c1,d2];exact d (by decide)),
  gd q2 hz (by rw[c2];exact d (by decide)),gd q2 tp (by rw[c2];exact d (by decide)),gd q2 r1 (by rw[c2,d1];exact d (by decide)),gd q2 r2 (by rw[c2,d2];exact d (by decide))⟩
theorem vn{P:Program}{w:World}{K:PySem.W.Frag}{elts:List Expr}{x1}{i7:Pos}(l1 l2 z TI TO i1 i2:Addr)(F:Hs z TI TO i1 i2):
  Turn P w K (.Tuple elts x1 i7) (vm K l1 l2) [z,TI,TO,i1,i2] z (fun i h=>IsZip h z TI TO .none∧IsPair h TI (.ref i1) (.ref i2)∧(∃a b,IsPair h TO a b)∧h.IsListIter i1 l1 i∧h.IsListIter i2 l2 i) where
 mem:=by simp
 obj:=fun i h st b hb=>by
  obtain⟨hz,yD,⟨a,c,tp⟩,⟨o1,e1,c1,d1⟩,⟨o2,e2,c2,d2⟩⟩:=st
  simp only [List.mem_cons,List.not_mem_nil,or_false] at hb
  rcases hb with e|e|e|e|e
  ·subst e;exact⟨_,hz,fun v q=>by cases q⟩
  ·subst e;exact⟨_,yD,fun v q=>by cases q⟩
  ·subst e;exact⟨_,tp,fun v q=>by cases q⟩
  ·subst e;exact⟨o1,e1,fun v q=>by rw[d1] at q;cases q⟩
  ·subst e;exact⟨o2,e2,fun v q=>by rw[d2] at q;cases q⟩
 keep:=fun i h h' st k=>by
  obtain⟨hz,yD,⟨a,c,tp⟩,h1,h2⟩:=st
  exact⟨k z (by simp) _ hz,k TI (by simp) _ yD,⟨a,c,k TO (by simp) _ tp⟩,h1.at fun o e=>k i1 (by simp) o e,h2.at fun o e=>k i2 (by simp) o e⟩
 item:=by
  intro X hP hw hK hc i pins s σ H E I hf st hg
  subst hP hw hK
  obtain⟨xs,ys,x,y,yE,Bi,hx,hy⟩:=hg
  obtain⟨hz,yD,⟨a,c,tp⟩,h1,h2⟩:=st
  obtain⟨its,rv,p,tq⟩:=I.list yE
  obtain⟨Sr,uv,p',Ss⟩:=I.list Bi
  obtain⟨u,hu,ru⟩:=rv.get hx
  obtain⟨v,hv,UM⟩:=uv.get hy
  have D:=oH F hz tp h1 h2 p.isList p'.isList
  refine wpAny_pyNext_zip_item D hz yD tp h1 h2 p.isList p'.isList (x:=u) (y:=v) (by simpa using hu) (by simpa using hv) fun h' a1 a2 a3 a4 a5 a6 hk=>⟨_,rfl,?_⟩
  refine wpAny_letOwnedTupleGo_zip (s:={ s with heap:=h' }) a1 fun vo b1 b2=>?_
  have up:∀e o,e≠z→h'.get? e=some o→vo.get? e=some o:=fun e o n q=>b2.extBut _ _ n q
  have ne:∀{e:Addr} {o},s.heap.get? e=some o→s.heap.objs.size≠e:=fun q=>Nat.ne_of_gt (Heap.lt_size q)
  have vc:IsPair vo s.heap.objs.size u v:=up _ _ (ne hz) a5
  have I1:Inv X pins σ (upd H s.heap.objs.size (.tup [x,y])) { s with heap:=vo,toks:=s.toks }:=by
   refine I.rz (ch:=[z,TI,TO,i1,i2]) (fun b o hb e=>?_) hf (Nat.le_refl _) ⟨by show 2≤sizeLine;decide,[u,v], .cons ru (.cons UM .nil),⟨_,vc,rfl,_,rfl⟩⟩
   simp only [List.mem_cons,List.not_mem_nil,or_false,not_or] at hb
   exact up _ _ hb.1 (hk b o hb.1 hb.2.2.1 hb.2.2.2.1 hb.2.2.2.2 e)
  refine⟨.ref s.heap.objs.size,_,I1,rfl,⟨_,x,y,I.bV.fresh (Nat.le_refl _),rfl,rfl,fun zs hz=>by rw[I.iu hz yE];exact hx,fun zs hz=>by rw[I.iu hz Bi];exact hy⟩,?_,fun b hb=>?_⟩
  ·exact⟨b1,up _ _ F.TIz (hk _ _ F.TIz F.TITO F.TIi1 F.TIi2 yD),⟨_,_,up _ _ F.TOz a2⟩,a3.at fun o e=>up _ _ F.i1z e,a4.at fun o e=>up _ _ F.i2z e⟩
  ·have nX:=hb
   rw[ao ?_]
   ·exact(hf b hb).1
   ·simp only [List.mem_cons,List.not_mem_nil,or_false] at hb
    obtain⟨o1,e1,_⟩:=h1
    obtain⟨o2,e2,_⟩:=h2
    rcases hb with e|e|e|e|e
    ·rw[e];exact Ne.symm (ne hz)
    ·rw[e];exact Ne.symm (ne yD)
    ·rw[e];exact Ne.symm (ne tp)
    ·rw[e];exact Ne.symm (ne e1)
    ·rw[e];exact Ne.symm (ne e2)
 done:=by
  intro X hP hw hK hc i pins s σ H E I hf st hg
  subst hP hw hK
  obtain⟨xs,ys,yE,Bi,hl⟩:=hg
  obtain⟨hz,yD,⟨a,c,tp⟩,h1,h2⟩:=st
  obtain⟨its,rv,p,tq⟩:=I.list yE
  obtain⟨Sr,uv,p',Ss⟩:=I.list Bi
  have D:=oH F hz tp h1 h2 p.isList p'.isList
  have l1:=rv.length
  have l2:=uv.length
  refine wpAny_pyNext_zip_end (I.ok.hd hc) D hz yD tp h1 h2 p.isList p'.isList ?_ fun h' hk=>⟨rfl,I.rA (t':=s.toks) (ch:=[z,TI,TO,i1,i2]) (fun b o hb e=>?_) hf⟩
  ·rcases hl with hl|hl
   ·exact .inl (by simp;omega)
   ·exact .inr (by simp;omega)
  ·simp only [List.mem_cons,List.not_mem_nil,or_false,not_or] at hb
   exact hk b o hb.1 hb.2.2.1 hb.2.2.2.1 hb.2.2.2.2 e
 self:=fun _ _ _ _ _ st h=>wpAny_pyIter_zip st.1 h
theorem C9:bootBuiltins "zip" =some (.type "zip"):=by decide+kernel
theorem mQ:bootBuiltins "enumerate" =some (.type "enumerate"):=by decide+kernel
theorem C':bootBuiltins "abs" =some (.builtin "abs"):=by decide+kernel
def Ht(K:PySem.W.Frag)(ta:TA):TI:=fun σ H R=>ta σ H fun vs H1=>∃a b,vs=[.ref a, .ref b]∧(∃xs,aD K H1 a xs)∧(∃ys,aD K H1 b ys)∧R (vm K a b) H1
theorem dJ{X:Cx}{elts:List Expr}{x1}{i7:Pos}{a b:Expr}{ta:TA}{p pos:Pos}(hg:Gl X "zip")(hm:X.mg "zip" =none)(ha:PA X [a,b] ta)(hs:starEach [a,b] X.env=[(false,eval a X.env),(false,eval b X.env)]:=by rfl)
  (ki:starEach [b] X.env=[(false,eval b X.env)]:=by rfl):PI X (.Tuple elts x1 i7) (.Call (.Name "zip" p) [a,b] [] pos) (Ht X.K ta):=by
 intro pins s σ H R I h
 refine Call_ (fk I hg hm C9 (PyProof.Rows.callWith_type1 (bF (ha pos pins s σ H _ I h) fun us s1 ⟨vs,H1,I1,r1,q1⟩=>?_) (by rw[hs,ki]) (by rw[ki];rfl)))
 obtain⟨l1,l2,e,⟨xs,yE⟩,⟨ys,Bi⟩,q⟩:=q1
 subst e
 obtain⟨u,v,rfl,r,r'⟩:=vals2 r1
 cases r
 cases r'
 obtain⟨its,rv,pl,tq⟩:=I1.list yE
 obtain⟨Sr,uv,UN,Ss⟩:=I1.list Bi
 refine call_zip_2 pl.isList UN.isList fun h' a1 a2 a3 a4 a5 a6 hk=>wpAny_pyIter_zip (s:={ s1 with heap:=h' }) a1 ?_
 refine⟨_,[s1.heap.objs.size+4,s1.heap.objs.size+2,s1.heap.objs.size+3,s1.heap.objs.size,s1.heap.objs.size+1],_,_,H1,rfl,I1.kept (t':=s1.toks) hk,
  vn l1 l2 (s1.heap.objs.size+4) (s1.heap.objs.size+2) (s1.heap.objs.size+3) s1.heap.objs.size (s1.heap.objs.size+1) ⟨neN (by omega),neN (by omega),neN (by omega),neN (by omega),neN (by omega),neN (by omega),neN (by omega),neN (by omega),neN (by omega),neN (by omega)⟩,
  ⟨a1,a2,⟨_,_,a3⟩,a4,a5⟩,fun b hb=>?_,q⟩
 have nX:s1.heap.objs.size≤b:=by
  simp only [List.mem_cons,List.not_mem_nil,or_false] at hb
  rcases hb with e|e|e|e|e<;>rw[e]<;>first|exact Nat.le_refl _|exact Nat.le_add_right _ _
 exact I1.sJ nX (I1.bV.fresh nX)
def Hu(K:PySem.W.Frag)(a:Addr):It:=
 ⟨fun i H=>∃xs x,aD K H a xs∧xs[i]? =some x,
  fun i H v H'=>∃p x,H p=none∧H'=upd H p (.tup [.int i,x])∧v= .ref p∧∀xs,aD K H a xs→xs[i]? =some x,
  fun i H=>∃xs,aD K H a xs∧xs.length≤i⟩
theorem tu{P:Program}{w:World}{K:PySem.W.Frag}{elts:List Expr}{x1}{i7:Pos}(l e it:Addr)(Su:e≠it):
  Turn P w K (.Tuple elts x1 i7) (Hu K l) [e,it] e (fun i h=>(∃old,IsEnum h e it (i:Nat) old)∧h.IsListIter it l i) where
 mem:=by simp
 obj:=fun i h st b hb=>by
  obtain⟨⟨old,he⟩,⟨o1,e1,c1,d1⟩⟩:=st
  simp only [List.mem_cons,List.not_mem_nil,or_false] at hb
  rcases hb with q|q
  ·subst q;exact⟨_,he,fun v q=>by cases q⟩
  ·subst q;exact⟨o1,e1,fun v q=>by rw[d1] at q;cases q⟩
 keep:=fun i h h' st k=>by
  obtain⟨⟨old,he⟩,h1⟩:=st
  exact⟨⟨old,k e (by simp) _ he⟩,h1.at fun o q=>k it (by simp) o q⟩
 item:=by
  intro X hP hw hK hc i pins s σ H E I hf st hg
  subst hP hw hK
  obtain⟨xs,x,hq,hx⟩:=hg
  obtain⟨⟨old,he⟩,h1⟩:=st
  obtain⟨its,rv,p,tq⟩:=I.list hq
  obtain⟨u,hu,ru⟩:=rv.get hx
  refine wpAny_pyNext_enum_item he h1 p.isList (x:=u) (by simpa using hu) Su fun h' a1 a2 a3 a4 hk=>⟨_,rfl,?_⟩
  refine wpAny_letOwnedTupleGo_enum (s:={ s with heap:=h',toks:=s.toks+1 }) a1 fun vo b1 b2=>?_
  have up:∀c o,c≠e→h'.get? c=some o→vo.get? c=some o:=fun c o n q=>b2.extBut _ _ n q
  have ne:∀{c:Addr} {o},s.heap.get? c=some o→s.heap.objs.size≠c:=fun q=>Nat.ne_of_gt (Heap.lt_size q)
  have vc:=up _ _ (ne he) a3
  have I1:Inv X pins σ (upd H s.heap.objs.size (.tup [.int i,x])) { s with heap:=vo,toks:=s.toks+1 }:=by
   refine I.rz (ch:=[e,it]) (fun b o hb q=>?_) hf (Nat.le_refl _) ⟨by show 2≤sizeLine;decide,[.int i s.toks,u], .cons ⟨_,rfl⟩ (.cons ru .nil),⟨_,vc,rfl,_,rfl⟩⟩
   simp only [List.mem_cons,List.not_mem_nil,or_false,not_or] at hb
   exact up _ _ hb.1 (hk b o hb.1 hb.2 q)
  refine⟨.ref s.heap.objs.size,_,I1,rfl,⟨_,x,I.bV.fresh (Nat.le_refl _),rfl,rfl,fun zs hz=>by rw[I.iu hz hq];exact hx⟩,⟨⟨u,?_⟩,a2.at fun o q=>up _ _ (Ne.symm Su) q⟩,fun b hb=>?_⟩
  ·have e1:((i+1 :Nat):Int)=(i:Int)+1:=by push_cast;rfl
   rw[e1];exact b1
  ·rw[ao ?_]
   ·exact(hf b hb).1
   ·simp only [List.mem_cons,List.not_mem_nil,or_false] at hb
    obtain⟨o1,e1,_⟩:=h1
    rcases hb with q|q
    ·rw[q];exact Ne.symm (ne he)
    ·rw[q];exact Ne.symm (ne e1)
 done:=by
  intro X hP hw hK hc i pins s σ H E I hf st hg
  subst hP hw hK
  obtain⟨xs,hq,hl⟩:=hg
  obtain⟨⟨old,he⟩,h1⟩:=st
  obtain⟨its,rv,p,tq⟩:=I.list hq
  have l1:=rv.length
  refine wpAny_pyNext_enum_end (I.ok.hd hc) he h1 p.isList (by simp;omega) fun h' hk=>⟨rfl,I.rA (t':=s.toks) (ch:=[e,it]) (fun b o hb q=>?_) hf⟩
  simp only [List.mem_cons,List.not_mem_nil,or_false,not_or] at hb
  exact hk b o hb.2 q
 self:=fun _ _ _ _ _ st h=>by
  obtain⟨⟨old,he⟩,_⟩:=st
  exact wpAny_pyIter_enum he h
def Hv(K:PySem.W.Frag)(ta:TA):TI:=fun σ H R=>ta σ H fun vs H1=>∃a,vs=[.ref a]∧(∃xs,aD K H1 a xs)∧R (Hu K a) H1
theorem yF{X:Cx}{elts:List Expr}{x1}{i7:Pos}{a:Expr}{ta:TA}{p pos:Pos}(hg:Gl X "enumerate")(hm:X.mg "enumerate" =none)(ha:PA X [a] ta)(hs:starEach [a] X.env=[(false,eval a X.env)]:=by rfl):
  PI X (.Tuple elts x1 i7) (.Call (.Name "enumerate" p) [a] [] pos) (Hv X.K ta):=by
 intro pins s σ H R I h
 refine Call_ (fk I hg hm mQ (PyProof.Rows.callWith_type1 (bF (ha pos pins s σ H _ I h) fun us s1 ⟨vs,H1,I1,r1,q1⟩=>?_) hs rfl))
 obtain⟨l,e,⟨xs,hq⟩,q⟩:=q1
 subst e
 obtain⟨u,rfl,r⟩:=vals1 r1
 cases r
 obtain⟨its,rv,pl,tq⟩:=I1.list hq
 refine call_enumerate_list pl.isList fun h' a1 a2 a3 hk=>wpAny_pyIter_enum (s:={ s1 with heap:=h' }) a1 ?_
 refine⟨_,[s1.heap.objs.size+1,s1.heap.objs.size],_,_,H1,rfl,I1.kept (t':=s1.toks) hk,tu l (s1.heap.objs.size+1) s1.heap.objs.size (neN (by omega)),⟨⟨_,a1⟩,a2⟩,fun b hb=>?_,q⟩
 have nX:s1.heap.objs.size≤b:=by
  simp only [List.mem_cons,List.not_mem_nil,or_false] at hb
  rcases hb with e|e<;>rw[e]<;>first|exact Nat.le_refl _|exact Nat.le_add_right _ _
 exact I1.sJ nX (I1.bV.fresh nX)
theorem vp(ns:List Int)(lo hi:Option Int):∃ms:List Int,jc (ns.map V.int) lo hi=ms.map V.int∧ms.length≤ns.length:=by
 have h:∀x∈jc (ns.map V.int) lo hi,∃i,x=V.int i:=fun x hx=>by
  have:x∈ns.map V.int:=List.mem_of_mem_drop (List.mem_of_mem_take hx)
  obtain⟨i,_,e⟩:=List.mem_map.mp this
  exact⟨i,e.symm⟩
 have hl:=jv (ns.map V.int) lo hi
 rw[List.length_map] at hl
 generalize jc (ns.map V.int) lo hi=l at h hl
 refine⟨l.map fun v=>match v with| .int i=>i|_=>0,?_,by rw[List.length_map];exact hl⟩
 rw[List.map_map]
 clear hl
 induction l with
 |nil=>rfl
 |cons x r ih=>
  obtain⟨i,rfl⟩:=h x (List.mem_cons_self ..)
  rw[List.map_cons,←ih fun y hy=>h y (List.mem_cons_of_mem _ hy)]
  rfl
theorem Dc(xs:List V)(k:Nat):jc xs (some (k:Int)) none=xs.drop k:=by
 unfold jc
 rw[HT.u4,HT.yk]
 rcases Nat.le_total k xs.length with h|h
 ·rw[Nat.min_eq_left h]
  exact List.take_of_length_le (by rw[List.length_drop];exact Nat.le_refl _)
 ·rw[Nat.min_eq_right h,List.drop_length,List.drop_of_length_le h]
  exact List.take_nil
end L2
namespace L2
open PySem PySem.Spec PyProof.Rows
section
variable {K:PySem.W.Frag}{g:TG}{tt:TT}{te:TE}{tb:TS}{D:Ends}
theorem mR{J:It}{L:Addr}{Q:Hp→Prop}{σ:St}{H:Hp}(n:Nat)(H0:Hp)(S:St→Prop)(Pv:Nat→List V→Prop)(Hw:∀i H',i<n→ak H0 H'→J.go i H')(oI:∀H',ak H0 H'→J.stop n H')
  (mS:H0 L=none) (hσ:S σ) (h0:ak H0 H) (hL:H L=some (.lst [])) (p0:Pv 0 []) (hz:n≤sizeLine) (hl:∀i ys,Pv i ys→ys.length≤i)
  (turn:∀i σ H' ys,i<n→S σ→ak H0 H'→H' L=some (.lst ys)→Pv i ys→∀(N:St→V→Hp→Prop) (M:St→Hp→Prop),(∀σ3 y H5,S σ3→ak H0 H5→H5 L=some (.lst ys)→Pv (i+1) (ys++[y])→N σ3 y H5)→
   ∀x H2,J.jP i H' x H2→g x σ H2 fun σ3 H3=>tt σ3 H3 fun b H4=>if b=true then te σ3 H4 fun y H5=>N σ3 y H5 else M σ3 H4)
  (fin:∀H' ys,ak H0 H'→H' L=some (.lst ys)→Pv n ys→Q H'):
  ∃W:Nat→Nat→St→Hp→Prop,(∃m,W 0 m σ H)∧∀i m σ H,W i m σ H→(J.stop i H∧Q H)∨(J.go i H∧∀x H2,J.jP i H x H2→g x σ H2 fun σ3 H3=>tt σ3 H3 fun b H4=>if b=true
   then te σ3 H4 fun y H5=>∃ys,H5 L=some (.lst ys)∧ys.length<sizeLine∧∃m',m'<m∧W (i+1) m' σ3 (upd H5 L (.lst (ys++[y])))
   else∃m',m'<m∧W (i+1) m' σ3 H4):=by
 refine⟨fun i m σ H=>m+i=n∧S σ∧ak H0 H∧∃ys,H L=some (.lst ys)∧Pv i ys,⟨n,rfl,hσ,h0,[],hL,p0⟩,?_⟩
 rintro i m σ H ⟨hm,hs,eC,ys,Bj,hp⟩
 by_cases hi:i<n
 ·refine .inr ⟨Hw i H hi eC,fun x H2 hy=>turn i σ H ys hi hs eC Bj hp _ _ (fun σ3 y H5 k1 k2 k3 k4=>?_) x H2 hy⟩
  refine⟨ys,k3,by have:=hl i ys hp;omega,m - 1,by omega,by omega,k1,fun b o e=>?_,ys++[y],ae,k4⟩
  rw[ao (af e mS)];exact k2 b o e
 ·have e:i=n:=by omega
  subst e
  exact .inl ⟨oI H eC,fin H ys eC Bj hp⟩
theorem cH{a L:Addr}{xs:List V}{Q:Hp→Prop}{σ:St}{H:Hp}(H0:Hp)(S:St→Prop)(Pv:Nat→List V→Prop)(ha:aD K H0 a xs)
  (mS:H0 L=none) (hσ:S σ) (h0:ak H0 H) (hL:H L=some (.lst [])) (p0:Pv 0 []) (hz:xs.length≤sizeLine) (hl:∀i ys,Pv i ys→ys.length≤i)
  (turn:∀i x σ H' ys,xs[i]? =some x→S σ→ak H0 H'→H' L=some (.lst ys)→Pv i ys→∀(N:St→V→Hp→Prop) (M:St→Hp→Prop),(∀σ3 y H5,S σ3→ak H0 H5→H5 L=some (.lst ys)→Pv (i+1) (ys++[y])→N σ3 y H5)→
   g x σ H' fun σ3 H3=>tt σ3 H3 fun b H4=>if b=true then te σ3 H4 fun y H5=>N σ3 y H5 else M σ3 H4)
  (fin:∀H' ys,ak H0 H'→H' L=some (.lst ys)→Pv xs.length ys→Q H'):
  ∃W:Nat→Nat→St→Hp→Prop,(∃m,W 0 m σ H)∧∀i m σ H,W i m σ H→((qT K a).stop i H∧Q H)∨((qT K a).go i H∧∀x H2,(qT K a).jP i H x H2→g x σ H2 fun σ3 H3=>tt σ3 H3 fun b H4=>if b=true
   then te σ3 H4 fun y H5=>∃ys,H5 L=some (.lst ys)∧ys.length<sizeLine∧∃m',m'<m∧W (i+1) m' σ3 (upd H5 L (.lst (ys++[y])))
   else∃m',m'<m∧W (i+1) m' σ3 H4):=
 mR xs.length H0 S Pv (fun i H' hi e=>⟨xs,xs[i],e.seq ha,List.getElem?_eq_getElem hi⟩) (fun H' e=>⟨xs,e.seq ha,Nat.le_refl _⟩) mS hσ h0 hL p0 hz hl
  (fun i σ H' ys _ hs e k p N M hN x H2 hy=>by
   obtain⟨rfl,hx⟩:=hy
   exact turn i x σ H2 ys (hx xs (e.seq ha)) hs e k p N M hN) fin
theorem vq{lo:Int}{n:Nat}{L:Addr}{Q:Hp→Prop}{σ:St}{H:Hp}(H0:Hp)(S:St→Prop)(Pv:Nat→List V→Prop)
  (mS:H0 L=none) (hσ:S σ) (h0:ak H0 H) (hL:H L=some (.lst [])) (p0:Pv 0 []) (hz:n≤sizeLine) (hl:∀i ys,Pv i ys→ys.length≤i)
  (turn:∀i σ H' ys,i<n→S σ→ak H0 H'→H' L=some (.lst ys)→Pv i ys→∀(N:St→V→Hp→Prop) (M:St→Hp→Prop),(∀σ3 y H5,S σ3→ak H0 H5→H5 L=some (.lst ys)→Pv (i+1) (ys++[y])→N σ3 y H5)→
   g (.int (lo+i)) σ H' fun σ3 H3=>tt σ3 H3 fun b H4=>if b=true then te σ3 H4 fun y H5=>N σ3 y H5 else M σ3 H4)
  (fin:∀H' ys,ak H0 H'→H' L=some (.lst ys)→Pv n ys→Q H'):
  ∃W:Nat→Nat→St→Hp→Prop,(∃m,W 0 m σ H)∧∀i m σ H,W i m σ H→((sL lo n).stop i H∧Q H)∨((sL lo n).go i H∧∀x H2,(sL lo n).jP i H x H2→g x σ H2 fun σ3 H3=>tt σ3 H3 fun b H4=>if b=true
   then te σ3 H4 fun y H5=>∃ys,H5 L=some (.lst ys)∧ys.length<sizeLine∧∃m',m'<m∧W (i+1) m' σ3 (upd H5 L (.lst (ys++[y])))
   else∃m',m'<m∧W (i+1) m' σ3 H4):=
 mR n H0 S Pv (fun i H' hi e=>hi) (fun H' e=>Nat.le_refl _) mS hσ h0 hL p0 hz hl
  (fun i σ H' ys hi hs e k p N M hN x H2 hy=>by
   obtain⟨rfl,rfl⟩:=hy
   exact turn i σ H2 ys hi hs e k p N M hN) fin
theorem cZ{a c L:Addr}{xs zs:List V}{Q:Hp→Prop}{σ:St}{H:Hp}(H0:Hp)(S:St→Prop)(Pv:Nat→List V→Prop)(ha:aD K H0 a xs)(hc:aD K H0 c zs)
  (mS:H0 L=none) (hσ:S σ) (h0:ak H0 H) (hL:H L=some (.lst [])) (p0:Pv 0 []) (hz:min xs.length zs.length≤sizeLine) (hl:∀i ys,Pv i ys→ys.length≤i)
  (turn:∀i x z p σ H' ys,xs[i]? =some x→zs[i]? =some z→H' p=none→S σ→ak H0 H'→H' L=some (.lst ys)→Pv i ys→∀(N:St→V→Hp→Prop) (M:St→Hp→Prop),(∀σ3 y H5,S σ3→ak H0 H5→H5 L=some (.lst ys)→Pv (i+1) (ys++[y])→N σ3 y H5)→
   g (.ref p) σ (upd H' p (.tup [x,z])) fun σ3 H3=>tt σ3 H3 fun b H4=>if b=true then te σ3 H4 fun y H5=>N σ3 y H5 else M σ3 H4)
  (fin:∀H' ys,ak H0 H'→H' L=some (.lst ys)→Pv (min xs.length zs.length) ys→Q H'):
  ∃W:Nat→Nat→St→Hp→Prop,(∃m,W 0 m σ H)∧∀i m σ H,W i m σ H→((vm K a c).stop i H∧Q H)∨((vm K a c).go i H∧∀x H2,(vm K a c).jP i H x H2→g x σ H2 fun σ3 H3=>tt σ3 H3 fun b H4=>if b=true
   then te σ3 H4 fun y H5=>∃ys,H5 L=some (.lst ys)∧ys.length<sizeLine∧∃m',m'<m∧W (i+1) m' σ3 (upd H5 L (.lst (ys++[y])))
   else∃m',m'<m∧W (i+1) m' σ3 H4):=
 mR (min xs.length zs.length) H0 S Pv
  (fun i H' hi e=>⟨xs,zs,xs[i]'(by omega),zs[i]'(by omega),e.seq ha,e.seq hc,List.getElem?_eq_getElem _,List.getElem?_eq_getElem _⟩) (fun H' e=>⟨xs,zs,e.seq ha,e.seq hc,by omega⟩) mS hσ h0 hL p0 hz hl
  (fun i σ H' ys _ hs e k p N M hN v H2 hy=>by
   obtain⟨t,x,z,ht,rfl,rfl,hx,gG⟩:=hy
   exact turn i x z t σ H' ys (hx xs (e.seq ha)) (gG zs (e.seq hc)) ht hs e k p N M hN) fin
theorem rB{a c:Addr}{xs zs:List V}{σ:St}{H:Hp}(Pv:Nat→St→Hp→Prop)(h0:Pv 0 σ H)(hl:∀i σ H,Pv i σ H→aD K H a xs∧aD K H c zs)
  (hs:∀i x z p σ H,xs[i]? =some x→zs[i]? =some z→H p=none→Pv i σ H→g (.ref p) σ (upd H p (.tup [x,z])) fun σ2 H2=>tb { D with nx:=Pv (i+1),ct:=Pv (i+1),bk:=D.nx } σ2 H2) (hd:∀σ H,Pv (min xs.length zs.length) σ H→D.nx σ H):
  ∃W:Nat→Nat→St→Hp→Prop,(∃m,W 0 m σ H)∧∀i m σ H,W i m σ H→
   ((vm K a c).stop i H∧D.nx σ H)∨((vm K a c).go i H∧∃N:St→Hp→Prop,(∀σ' H',N σ' H'→∃m',m'<m∧W (i+1) m' σ' H')∧∀x H',(vm K a c).jP i H x H'→g x σ H' fun σ2 H2=>tb { D with nx:=N,ct:=N,bk:=D.nx } σ2 H2):=by
 refine⟨fun i m σ H=>m+i=min xs.length zs.length∧Pv i σ H,⟨min xs.length zs.length,rfl,h0⟩,?_⟩
 rintro i m σ H ⟨hm,p⟩
 obtain⟨q1,q2⟩:=hl i σ H p
 by_cases jQ:i<min xs.length zs.length
 ·refine .inr ⟨⟨xs,zs,xs[i]'(by omega),zs[i]'(by omega),q1,q2,List.getElem?_eq_getElem _,List.getElem?_eq_getElem _⟩,Pv (i+1),fun σ' H' p'=>⟨m - 1,by omega,by omega,p'⟩,fun v H' hy=>?_⟩
  obtain⟨t,x,z,ht,rfl,rfl,hx,hz⟩:=hy
  exact hs i x z t σ H (hx xs q1) (hz zs q2) ht p
 ·have e:i=min xs.length zs.length:=by omega
  subst e
  exact .inl ⟨⟨xs,zs,q1,q2,by omega⟩,hd σ H p⟩
theorem vt{a:Addr}{xs:List V}{σ:St}{H:Hp}(Pv:Nat→St→Hp→Prop)(h0:Pv 0 σ H)(hl:∀i σ H,Pv i σ H→aD K H a xs)
  (hs:∀i x p σ H,xs[i]? =some x→H p=none→Pv i σ H→g (.ref p) σ (upd H p (.tup [.int i,x])) fun σ2 H2=>tb { D with nx:=Pv (i+1),ct:=Pv (i+1),bk:=D.nx } σ2 H2) (hd:∀σ H,Pv xs.length σ H→D.nx σ H):
  ∃W:Nat→Nat→St→Hp→Prop,(∃m,W 0 m σ H)∧∀i m σ H,W i m σ H→
   ((Hu K a).stop i H∧D.nx σ H)∨((Hu K a).go i H∧∃N:St→Hp→Prop,(∀σ' H',N σ' H'→∃m',m'<m∧W (i+1) m' σ' H')∧∀x H',(Hu K a).jP i H x H'→g x σ H' fun σ2 H2=>tb { D with nx:=N,ct:=N,bk:=D.nx } σ2 H2):=by
 refine⟨fun i m σ H=>m+i=xs.length∧Pv i σ H,⟨xs.length,rfl,h0⟩,?_⟩
 rintro i m σ H ⟨hm,p⟩
 have q1:=hl i σ H p
 by_cases jQ:i<xs.length
 ·refine .inr ⟨⟨xs,xs[i],q1,List.getElem?_eq_getElem _⟩,Pv (i+1),fun σ' H' p'=>⟨m - 1,by omega,by omega,p'⟩,fun v H' hy=>?_⟩
  obtain⟨t,x,ht,rfl,rfl,hx⟩:=hy
  exact hs i x t σ H (hx xs q1) ht p
 ·have e:i=xs.length:=by omega
  subst e
  exact .inl ⟨⟨xs,q1,by omega⟩,hd σ H p⟩
end
end L2
namespace L2
open PySem PySem.Spec PyProof.Rows
theorem dt:∀(names:List (Str×NameKind)) (n:Nat) (acc:List (Str×Addr)),cellsFrom n names acc=cellsFrom n names []++acc
 | [],_,acc=>rfl
 | (x,k)::r,n,acc=>by
   unfold cellsFrom
   split
   ·rw[dt r (n+1) ((x,n)::acc),dt r (n+1) [(x,n)],List.append_assoc];rfl
   ·exact dt r n acc
theorem du{x:Str}:∀(names:List (Str×NameKind)) (n:Nat) (acc:List (Str×Addr)),((x,NameKind.cell)∈names∨∃c,acc.lookup x=some c)→∃c,(cellsFrom n names acc).lookup x=some c
 | [],_,_,h=>h.elim (fun z=>by cases z) fun z=>z
 | (y,k)::r,n,acc,h=>by
   unfold cellsFrom
   by_cases hk:(k==NameKind.cell)=true
   ·rw[if_pos hk]
    refine du r (n+1) _ ?_
    by_cases e:x=y
    ·subst e;exact .inr ⟨n,by simp⟩
    ·rcases h with h| ⟨c,hc⟩
     ·rcases List.mem_cons.mp h with z|z
      ·cases z;exact absurd rfl e
      ·exact .inl z
     ·exact .inr ⟨c,by rw[List.lookup_cons,beq_eq_false_iff_ne.mpr e];exact hc⟩
   ·rw[if_neg hk]
    refine du r n acc ?_
    rcases h with h|h
    ·rcases List.mem_cons.mp h with z|z
     ·cases z;exact absurd rfl hk
     ·exact .inl z
    ·exact .inr h
theorem eN{x:Str}{c:Addr}:∀(names:List (Str×NameKind)) (n:Nat) (acc:List (Str×Addr)),(x,c)∈cellsFrom n names acc→(x,NameKind.cell)∈names∨(x,c)∈acc
 | [],_,_,h=> .inr h
 | (y,k)::r,n,acc,h=>by
   unfold cellsFrom at h
   by_cases hk:(k==NameKind.cell)=true
   ·rw[if_pos hk] at h
    rcases eN r (n+1) _ h with z|z
    ·exact .inl (List.mem_cons_of_mem _ z)
    ·rcases List.mem_cons.mp z with w|w
     ·cases w
      have:k= .cell:=by simpa using hk
      subst this
      exact .inl (List.mem_cons_self ..)
     ·exact .inr w
   ·rw[if_neg hk] at h
    rcases eN r n acc h with z|z
    ·exact .inl (List.mem_cons_of_mem _ z)
    ·exact .inr z
def ownAt(scope:Scope)(s:Shared):List (Str×Addr):=cellsFrom (s.heap.objs.size+1) scope.names []
def jJ(scope:Scope)(env:Env)(s:Shared):List (Str×Addr):=ownAt scope s++fY scope env
def lG(X:Cx)(pins:List (Addr×Obj))(N:List Str)(scope:Scope)(fp:List Addr)(s:Shared)(H:Hp):Cx where
 prog:=X.prog
 w:=X.w
 K:=X.K
 mg:=X.mg
 base:=X.base
 A:=X.A
 N:=N
 s₀:=s
 H₀:=H
 env:=compEnvC scope (jJ scope X.env s) s.heap.objs.size X.env
 outer:=X.stack
 stack:=X.stack
 ex:=fp
 fn:=fun x=>scope.names.lookup x==some .cell
 calm:=X.calm
 pn:=X.pn++pins
 xe:=fun _ _=>False
structure qf(X:Cx)(N:List Str)(fr:List (Option Nat))(scope:Scope):Prop where
 ve:closureFor scope X.env=pure (fY scope X.env)
 kind:scope.kind= .function
 owned:∀y∈scope.names,y.2= .cell→scope.names.lookup y.1=some .cell
 names:∀y∈scope.names,y.2= .local→scope.names.lookup y.1=some .local
 cells:∀x c,(fY scope X.env).lookup x=some c→X.env.cells.lookup x=some c
 has:∀x,((relabel scope X.env).names.lookup x=some .cell∨(relabel scope X.env).names.lookup x=some .free)→scope.names.lookup x=some .cell∨∃c,(fY scope X.env).lookup x=some c
 len:fr.length=N.length
 out:∀(i j:Nat) (x:Str),N[i]? =some x→fr[i]? =some (some j)→X.N[j]? =some x∧X.env.kindOf x=some .cell∧scope.names.lookup x=some .free∧((relabel scope X.env).names.lookup x=some .cell∨(relabel scope X.env).names.lookup x=some .free)∧∃c,(fY scope X.env).lookup x=some c
structure rC(sc scope:Scope)(NX N:List Str)(fr:List (Option Nat)):Prop where
 vf:sc.kind= .function
 kind:scope.kind= .function
 owned:∀y∈scope.names,y.2= .cell→scope.names.lookup y.1=some .cell
 names:∀y∈scope.names,y.2= .local→scope.names.lookup y.1=some .local
 free:∀y∈scope.names,y.2= .free→sc.names.lookup y.1=some .cell
 len:fr.length=N.length
 out:((List.range N.length).all fun i=>match fr[i]? with
  |some (some j)=>(match N[i]? with
   |some x=>(NX[j]? ==some x)&&(scope.names.lookup x==some .free)
   |none=>false)
  |_=>true)=true
theorem rC.Hk{X:Cx}{sc scope:Scope}{NX N:List Str}{fr:List (Option Nat)}(B:rC sc scope NX N fr)(e1:X.env.scope=sc)(e2:X.N=NX)(ok:X.Ok):qf X N fr scope:=by
 subst e1 e2
 have fc:∀y∈scope.names,y.2= .free→∃c,X.env.cells.lookup y.1=some c:=fun y hy hf=>ok.has y.1 (.inl (B.free y hy hf))
 have lk:∀x,(relabel scope X.env).names.lookup x=(scope.names.lookup x).map fun k=>if (k==NameKind.free&&X.env.scope.kind== .function&&X.env.kindOf x==some .cell)=true then NameKind.cell else k:=fun x=>dZ x scope.names
 have qd:∀x,scope.names.lookup x=some .free→(relabel scope X.env).names.lookup x=some .cell:=fun x hx=>by
  have hk:X.env.kindOf x=some .cell:=B.free (x, .free) (cu hx) rfl
  rw[lk,hx,Option.map_some,hk,B.vf]
  rfl
 refine⟨rl fc,B.kind,B.owned,B.names,fun x c h=>g6 fc (fun x c h=>by cases h) x c h,fun x h=>?_,B.len,fun i j x h1 h2=>?_⟩
 ·rw[lk] at h
  cases e:scope.names.lookup x with
  |none=>rw[e] at h;rcases h with h|h<;>cases h
  |some k=>
   rw[e,Option.map_some] at h
   have hm:=cu e
   cases k with
   |free=>exact .inr (iw (.inl hm))
   |cell=>exact .inl rfl
   |_=>rcases h with h|h<;>simp at h
 ·have hi:i<N.length:=(List.getElem?_eq_some_iff.mp h1).1
  have:=List.all_eq_true.mp B.out i (List.mem_range.mpr hi)
  rw[h2] at this
  dsimp only at this
  rw[h1] at this
  dsimp only at this
  rw[Bool.and_eq_true] at this
  have a1:X.N[j]? =some x:=by simpa using this.1
  have a2:scope.names.lookup x=some .free:=by simpa using this.2
  exact⟨a1,B.free (x, .free) (cu a2) rfl,a2, .inl (qd x a2),iw (.inl (cu a2))⟩
section
variable {X:Cx}{pins:List (Addr×Obj)}{σ:St}{H:Hp}{s:Shared}{N:List Str}{fr:List (Option Nat)}{scope:Scope}{fp:List Addr}
theorem kx{x:Str}{c:Addr}(h:(ownAt scope s).lookup x=some c):s.heap.objs.size<c:=by
 have ok:=cellsFrom_ok scope.names (s.heap.push { cls:= .type "dict",data:= .dict #[] }) (s.heap.objs.size+1) [] ⟨fun _ _ hm=>(nomatch hm),List.Pairwise.nil⟩ (by rw[Heap.size_push];exact Nat.le_refl _)
 rw[Heap.size_push] at ok
 exact(ok.empty x c (mem_of_lookup h)).2
theorem vv{x:Str}{c:Addr}(h:(ownAt scope s).lookup x=some c):(pushCells (s.heap.push { cls:= .type "dict",data:= .dict #[] }) scope.names).IsCell c none:=by
 have ok:=cellsFrom_ok scope.names (s.heap.push { cls:= .type "dict",data:= .dict #[] }) (s.heap.objs.size+1) [] ⟨fun _ _ hm=>(nomatch hm),List.Pairwise.nil⟩ (by rw[Heap.size_push];exact Nat.le_refl _)
 rw[Heap.size_push] at ok
 exact(ok.empty x c (mem_of_lookup h)).1
theorem yG{x y:Str}{c:Addr}(h:(ownAt scope s).lookup x=some c)(h':(ownAt scope s).lookup y=some c):x=y:=by
 have ok:=cellsFrom_ok scope.names (s.heap.push { cls:= .type "dict",data:= .dict #[] }) (s.heap.objs.size+1) [] ⟨fun _ _ hm=>(nomatch hm),List.Pairwise.nil⟩ (by rw[Heap.size_push];exact Nat.le_refl _)
 rw[Heap.size_push] at ok
 exact name_of_addr ok.apart (mem_of_lookup h) (mem_of_lookup h')
theorem d3{env:Env}{x:Str}{c:Addr}(h:(jJ scope env s).lookup x=some c):(ownAt scope s).lookup x=some c∨(ownAt scope s).lookup x=none∧(fY scope env).lookup x=some c:=by
 unfold jJ at h
 rw[List.lookup_append] at h
 cases e:(ownAt scope s).lookup x with
 |none=>rw[e] at h;exact .inr ⟨rfl,by simpa using h⟩
 |some d=>rw[e] at h;exact .inl (by simpa using h)
theorem ky{env:Env}{x:Str}{c:Addr}(h:(ownAt scope s).lookup x=some c):(jJ scope env s).lookup x=some c:=by
 unfold jJ;rw[List.lookup_append,h];rfl
theorem qf.tw(B:qf X N fr scope){x:Str}{c:Addr}(hf:scope.names.lookup x=some .free)(h:(fY scope X.env).lookup x=some c):(jJ scope X.env s).lookup x=some c:=by
 have:(ownAt scope s).lookup x=none:=by
  cases e:(ownAt scope s).lookup x with
  |none=>rfl
  |some d=>
   rcases eN _ _ _ (mem_of_lookup e) with z|z
   ·have:=B.owned _ z rfl
    rw[hf] at this;cases this
   ·cases z
 unfold jJ;rw[List.lookup_append,this];exact h
theorem mT(B:qf X N fr scope)(I:Inv X pins σ H s)(f:∀b∈fp,dN X pins H b∧b<s.heap.objs.size):(lG X pins N scope fp s H).Ok where
 mod:=I.mod
 kind:=B.kind
 glob:=I.ok.glob
 blt:=I.ok.blt
 above:=Nat.le_refl _
 inj:=fun x y c h1 h2=>by
  have old:∀{x c},(fY scope X.env).lookup x=some c→c<s.heap.objs.size:=fun h=>by
   obtain⟨v,o,ho,_⟩:=I.cell _ _ (B.cells _ _ h)
   exact Heap.lt_size ho
  rcases d3 h1 with a| ⟨_,a⟩<;>rcases d3 h2 with b| ⟨_,b⟩
  ·exact yG a b
  ·exact absurd (Nat.lt_trans (kx a) (old b)) (Nat.lt_irrefl _)
  ·exact absurd (Nat.lt_trans (kx b) (old a)) (Nat.lt_irrefl _)
  ·exact I.ok.inj x y c (B.cells x c a) (B.cells y c b)
 has:=fun x h=>by
  rcases B.has x h with z| ⟨c,hc⟩
  ·obtain⟨c,hc⟩:=du (x:=x) scope.names (s.heap.objs.size+1) [] (.inl (cu z))
   exact⟨c,ky hc⟩
  ·cases e:(ownAt scope s).lookup x with
   |none=>exact⟨c,by show (jJ scope X.env s).lookup x=some c;unfold jJ;rw[List.lookup_append,e];exact hc⟩
   |some d=>exact⟨d,ky e⟩
 Cu:=fun x c h hc=>by
  have hx:scope.names.lookup x=some .cell:=by simpa [lG] using h
  obtain⟨d,hd⟩:=du (x:=x) scope.names (s.heap.objs.size+1) [] (.inl (cu hx))
  have e:(jJ scope X.env s).lookup x=some d:=ky hd
  have e2:(jJ scope X.env s).lookup x=some c:=hc
  rw[e] at e2;cases e2
  exact Nat.le_of_lt (kx hd)
 hd:=I.ok.hd
 frames:=I.ok.frames
 F1:= .inl rfl
 Gz:=fun b hb=>⟨Nat.ne_of_lt (f b hb).2,fun x c h=>by
  rcases d3 h with a| ⟨_,a⟩
  ·exact fun z=>absurd (Nat.lt_trans (kx a) (by rw[z];exact(f b hb).2)) (Nat.lt_irrefl _)
  ·exact(f b hb).1.2.2.2.2.1 x c (B.cells x c a)⟩
 bs:=I.bs
 sH:=Nat.le_trans I.ok.sH I.sz
 og:=fun b o e hb=>by
  rcases (f b hb).1.2.2.2.1 with h|h
  ·exact I.ok.og b o e h
  ·exact absurd (Nat.lt_of_lt_of_le (Heap.lt_size e) (Nat.le_trans I.ok.sH h)) (Nat.lt_irrefl _)
 oh:=fun b hb h=>by
  rcases List.mem_cons.mp (I.iZ b h) with z|z
  ·exact(f b hb).1.2.1 z
  ·exact(f b hb).1.2.2.1 z
 iq:=I.stack
 x9:=I.mH
theorem qg{h1:Heap}{t1:Nat}(B:qf X N fr scope)(I:Inv X pins σ H s)(f:∀b∈fp,dN X pins H b∧b<s.heap.objs.size)(rh:h1.Ns s.heap.objs.size fun _=>none)
  (tj:∀b o,s.heap.get? b=some o→h1.get? b=some o) (Dd:∀x c,(ownAt scope s).lookup x=some c→h1.IsCell c none):Inv (lG X pins N scope fp s H) [] (startB fr σ) H { s with heap:=h1,toks:=t1 }:=by
 obtain⟨m,hm,hl⟩:=I.loc
 refine⟨mT B I f,rfl,I.bare,Un.kept tj,⟨_,rh,fun i x v e1 e2 _=>?_⟩,fun x c h=>?_,I.bV.fresh (Nat.le_refl _),fun x c h=>?_,fun p hp=>?_,I.bV.kept tj,?_⟩
 ·obtain⟨j,ej,es⟩:=kr e2
  obtain⟨o1,o2,of,o3,c,hc⟩:=B.out i j x e1 ej
  obtain⟨u,ru,L⟩:=hl j x v o1 es (.inr (.inl o2))
  refine⟨u,ru, .inr ⟨o3,?_⟩⟩
  rcases L with ⟨k1,_⟩ | ⟨_,c',lC,cc⟩
  ·rw[o2] at k1;cases k1
  ·rw[B.cells x c hc] at lC
   cases lC
   exact⟨c,B.tw of hc,cc.keeps tj⟩
 ·rcases d3 h with a| ⟨_,a⟩
  ·exact⟨none,Dd x c a⟩
  ·obtain⟨v,hv⟩:=I.cell x c (B.cells x c a)
   exact⟨v,hv.keeps tj⟩
 ·rcases d3 h with a| ⟨_,a⟩
  ·exact I.bV.fresh (Nat.le_of_lt (kx a))
  ·exact I.fR x c (B.cells x c a)
 ·have rm:p∈X.pn++pins:=by rw[List.append_nil] at hp;exact hp
  obtain⟨p1,p2,p3,p4,p5⟩:=I.pin p rm
  exact⟨tj _ _ p1,p2,Nat.ne_of_lt (Heap.lt_size p1),fun z=>(List.mem_cons.mp (I.iZ _ z)).elim p3 p4,p5⟩
 ·show (startB fr σ).length=N.length
  unfold startB
  rw[List.length_map,B.len]
theorem mU{M:Model}{A:Around}{E:Value→Shared→Prop}{globals:Addr}{cl:List (Str×Addr)}{qual:Str}{env:Env}{Q:Env→Shared→Prop}
  (hQ:Q { scope:=scope,locals:=s.heap.objs.size,globals:=globals,cells:=ownAt scope s++cl,qual:=qual,func:=none,code:=env.code,frame:=env.frame,builtins:=env.builtins }
   { s with heap:=pushCells (s.heap.push { cls:= .type "dict",data:= .dict #[] }) scope.names }):
  wpAny M A (newFunctionEnv scope globals cl [] qual none .none (some env)) Q E s:=by
 simp only [newFunctionEnv,Option.isSome_some,if_true]
 refine wpAny_bind (wpAny_alloc ?_)
 refine wpAny_bind (wpAny_layCells _ (fun name kind cells=>by cases UO:kind==NameKind.cell<;>simp [UO]) _ _ _ _ ?_)
 rw[show ({ s with heap:=s.heap.push { cls:= .type "dict",data:= .dict #[] } }:Shared).heap.objs.size=s.heap.objs.size+1 from Heap.size_push ..,dt]
 rw[List.forIn_nil]
 exact wpAny_bind (wpAny_pure (wpAny_pure hQ))
end
section
variable {X:Cx}{elt tg iter:Expr}{ifs:List Expr}{scope:Scope}{pos tm py:Pos}{N:List Str}{fr:List (Option Nat)}{wi:TI}{g:TG}{tt:TT}{te:TE}
theorem vw(B:qf X N fr scope)(hc:X.calm=true)
  (hg:∀pins fp s H,PG (lG X pins N scope fp s H) tg g) (ht:∀pins fp s H,vh (lG X pins N scope fp s H) ifs tt) (he:∀pins fp s H,PE (lG X pins N scope fp s H) elt te)
  {pins:List (Addr×Obj)} {s3:Shared} {σ:St} {H3:Hp} {Q:VK} {it D:Addr} {fp:List Addr} {tn:Nat→Heap→Prop} {J:It} (I3:Inv X pins σ H3 s3) (T:Turn X.prog X.w X.K tg J fp it tn) (uN:tn 0 s3.heap) (f3:∀b∈fp,dN X pins H3 b∧b<s3.heap.objs.size)
  {W:Nat→Nat→St→Hp→Prop} {m0:Nat} (w0:W 0 m0 (startB fr σ) H3)
  (turn:∀i m σ H,W i m σ H→(J.stop i H∧Q (.ref D) H)∨(J.go i H∧∀x H2,J.jP i H x H2→g x σ H2 fun σ3 H3=>tt σ3 H3 fun b H4=>if b=true
    then te σ3 H4 fun y H5=>∃ys,H5 D=some (.lst ys)∧ys.length<sizeLine∧∃m',m'<m∧W (i+1) m' σ3 (upd H5 D (.lst (ys++[y])))
    else∃m',m'<m∧W (i+1) m' σ3 H4))
  {R:Result→Shared→Prop} (hR:∀s' H',Inv X pins σ H' s'→dN X pins H' s3.heap.objs.size→(∃m,s'.heap.Ns s3.heap.objs.size m)→Q (.ref D) H'→R (.ok .next) s')
  {h₁:Heap} {t1:Nat} (rh:h₁.Ns s3.heap.objs.size fun _=>none) (vi:∀b o,s3.heap.get? b=some o→h₁.get? b=some o) (Dd:∀x c,(ownAt scope s3).lookup x=some c→h₁.IsCell c none):
  codeAny (model X.prog X.w) X.A (.compLoop (.ListComp elt [⟨tg,iter,ifs,0⟩] scope pos) 0 (.ref it) (.ref D) (compEnvC scope (jJ scope X.env s3) s3.heap.objs.size X.env)) R { s3 with heap:=h₁,toks:=t1 }:=by
 have Ib:=qg (t1:=t1) B I3 f3 rh vi Dd
 have kj:∀{H':Hp},(∀b∈fp,H' b=none)→∀b∈fp,dN (lG X pins N scope fp s3 H3) [] H' b:=fun hn b hb=>
  ⟨hn b hb,Nat.ne_of_lt (f3 b hb).2,(mT B I3 f3).oh b hb, .inl hb,((mT B I3 f3).Gz b hb).2,fun p hp=>(f3 b hb).1.2.2.2.2.2 p (by rw[List.append_nil] at hp;exact hp)⟩
 refine comp_loop (fun n s'=>∃i σ' H',Inv (lG X pins N scope fp s3 H3) [] σ' H' s'∧tn i s'.heap∧(∀b∈fp,H' b=none)∧W i n σ' H') ?_ m0
  ⟨0,_,_,Ib,T.keep _ _ _ uN fun b _ o e=>vi b o e,fun b hb=>(f3 b hb).1.1,w0⟩
 rintro n s4 ⟨i,σ4,H4,I4,Hl,Hm,w4⟩
 rcases turn i n σ4 H4 w4 with ⟨stop,qn⟩ | ⟨go,step⟩
 ·refine bF (T.done (lG X pins N scope fp s3 H3) rfl rfl rfl hc i [] s4 σ4 H4 _ I4 (kj Hm) Hl stop) fun r s5 ⟨hr,I5⟩=>?_
  subst hr
  have J5:Inv X pins σ H4 s5:=I3.A8 (ch:=fp) I5.os I5.base I5.bV I5.bare fun b hb=>⟨(f3 b hb).1.2.2.2.1,(f3 b hb).1.2.1,(f3 b hb).1.2.2.2.2.1,(f3 b hb).1.2.2.2.2.2⟩
  obtain⟨mm,PB,_⟩:=I5.loc
  exact hR s5 H4 J5 (I3.sJ (Nat.le_refl _) I5.free) ⟨mm,PB⟩ qn
 ·refine bF (T.item (lG X pins N scope fp s3 H3) rfl rfl rfl hc i [] s4 σ4 H4 _ I4 (kj Hm) Hl go) fun r s5 ⟨u,hr,h5⟩=>?_
  subst hr
  refine bF h5 fun _ s6 ⟨x,H6,I6,r6,y6,C0,PD⟩=>?_
  have PF:=I6.pinned (kj PD) (T.obj _ _ C0)
  have back:∀{s7:Shared} {σ7:St} {H7:Hp} {m':Nat},Inv (lG X pins N scope fp s3 H3) ([]++i8 fp s6.heap) σ7 H7 s7→m'<n→W (i+1) m' σ7 H7→
    ∃m,m<n∧∃i σ' H',Inv (lG X pins N scope fp s3 H3) [] σ' H' s7∧tn i s7.heap∧(∀b∈fp,H' b=none)∧W i m σ' H':=fun {s7 σ7 H7 m'} I7 hm w7=>by
   refine⟨m',hm,i+1,σ7,H7,I7.fU,T.keep _ _ _ C0 fun b hb o e=>(I7.pin (b,o) (List.mem_append_right _ (List.mem_append_right _ (dh hb e)))).1,fun b hb=>?_,w7⟩
   obtain⟨o,e,d⟩:=T.obj _ _ C0 b hb
   exact(I7.pin (b,o) (List.mem_append_right _ (List.mem_append_right _ (dh hb e)))).2.1
  refine bF (hg _ _ _ _ _ s6 σ4 H6 x u _ PF r6 (step x H6 y6)) fun _ s7 ⟨σ7,H7,I7,q7⟩=>?_
  refine bF (ht _ _ _ _ _ s7 σ7 H7 _ I7 q7) fun ok s8 ⟨H8,I8,q8⟩=>?_
  cases ok with
  |false=>
   rw[if_neg (by decide)] at q8 ⊢
   obtain⟨m',hm,w8⟩:=q8
   exact back I8 hm w8
  |true=>
   rw[if_pos rfl] at q8 ⊢
   refine bF (he _ _ _ _ _ s8 σ7 H8 _ I8 q8) fun y s9 ⟨v9,H9,I9,r9,ys,F4,PH,m',hm,w9⟩=>?_
   refine bF (bI _ s9 σ7 H9 (.ref D) [v9] _ [y] (fun _ H'=>W (i+1) m' σ7 H') I9 rfl (.cons r9 .nil) ⟨_,ys,v9,rfl,rfl,F4,PH,w9⟩) fun _ UK ⟨_,xS,PJ,_,PK⟩=>?_
   exact back PJ hm PK
theorem l5(B:qf X N fr scope)(hc:X.calm=true)
  (hg:∀pins fp s H,PG (lG X pins N scope fp s H) tg g) (ht:∀pins fp s H,vh (lG X pins N scope fp s H) ifs tt) (he:∀pins fp s H,PE (lG X pins N scope fp s H) elt te)
  {pins:List (Addr×Obj)} {s2:Shared} {σ:St} {H2:Hp} {Q:VK} {E:Value→Shared→Prop} {it:Addr} {fp:List Addr} {tn:Nat→Heap→Prop} {J:It} (I2:Inv X pins σ H2 s2) (T:Turn X.prog X.w X.K tg J fp it tn) (fN:tn 0 s2.heap) (f2:∀b∈fp,dN X pins H2 b)
  (q:∀D,H2 D=none→∃W:Nat→Nat→St→Hp→Prop,(∃m,W 0 m (startB fr σ) (upd H2 D (.lst [])))∧∀i m σ H,W i m σ H→
   (J.stop i H∧Q (.ref D) H)∨(J.go i H∧∀x H2,J.jP i H x H2→g x σ H2 fun σ3 H3=>tt σ3 H3 fun b H4=>if b=true
     then te σ3 H4 fun y H5=>∃ys,H5 D=some (.lst ys)∧ys.length<sizeLine∧∃m',m'<m∧W (i+1) m' σ3 (upd H5 D (.lst (ys++[y])))
     else∃m',m'<m∧W (i+1) m' σ3 H4))
  {RR:Value→Addr→Result→Shared→Prop}
  (PL:∀D C s' H',Inv X pins σ H' s'→dN X pins H' C→(∃m,s'.heap.Ns C m)→Q (.ref D) H'→RR (.ref D) C (.ok .next) s'):
  wpAny (model X.prog X.w) X.A (newList []) (fun acc s₃=>wpAny (model X.prog X.w) X.A (newFunctionEnv scope X.env.globals (fY scope X.env) [] X.env.qual none .none (some X.env)) (fun vj s₄=>
   codeAny (model X.prog X.w) X.A (.compStart (.ListComp elt [⟨tg,iter,ifs,0⟩] scope pos) 0 (.ref it) acc { vj with scope:=relabel scope X.env }) (RR acc vj.locals) s₄) E s₃) E s2:=by
 have hD:H2 s2.heap.objs.size=none:=I2.bV.fresh (Nat.le_refl _)
 obtain⟨W,⟨m0,w0⟩,turn⟩:=q s2.heap.objs.size hD
 have I3:=I2.yu (ys:=[]) (its:=[]) (t':=s2.toks) .nil (by decide)
 have Hn:∀b∈fp,b<s2.heap.objs.size:=fun b hb=>by
  obtain⟨o,e,_⟩:=T.obj _ _ fN b hb
  exact Heap.lt_size e
 refine wpAny_newObj_type (mU ?_)
 have N5:∀b o,s2.heap.get? b=some o→(s2.heap.push { cls:= .type "list",data:= .seq ([]:List Value).toArray }).get? b=some o:=fun b o e=>Heap.get?_push_of_some _ e
 generalize UP:({ s2 with heap:=s2.heap.push { cls:= .type "list",data:= .seq ([]:List Value).toArray } }:Shared)=s3 at*
 have Sv:s3.heap=s2.heap.push { cls:= .type "list",data:= .seq ([]:List Value).toArray }:=by rw[←UP]
 have vi:∀b o,s3.heap.get? b=some o→(pushCells (s3.heap.push { cls:= .type "dict",data:= .dict #[] }) scope.names).get? b=some o:=fun b o e=>pushCells_keeps _ _ b o (Heap.get?_push_of_some _ e)
 have rh:(pushCells (s3.heap.push { cls:= .type "dict",data:= .dict #[] }) scope.names).Ns s3.heap.objs.size fun _=>none:=(Heap.Ns.new s3.heap (.type "dict")).keeps (pushCells_keeps _ _)
 have f3:∀b∈fp,dN X pins (upd H2 s2.heap.objs.size (.lst [])) b∧b<s3.heap.objs.size:=fun b hb=>by
  refine⟨⟨?_,(f2 b hb).2⟩,?_⟩
  ·rw[ao (Nat.ne_of_lt (Hn b hb))]
   exact(f2 b hb).1
  ·rw[Sv,Heap.size_push]
   exact Nat.lt_succ_of_lt (Hn b hb)
 have uN:tn 0 s3.heap:=T.keep _ _ _ fN fun b _ o e=>by rw[Sv];exact N5 b o e
 have fin:=vw (iter:=iter) (pos:=pos) (D:=s2.heap.objs.size) (t1:=s3.toks) (R:=RR (.ref s2.heap.objs.size) s3.heap.objs.size) B hc hg ht he I3 T uN f3 w0 turn
  (fun s' H' J' f m q=>PL _ _ s' H' J' f m q) rh vi fun x c h=>vv h
 exact codeAny_compStart_list fin (T.self _ 0 _ _ _ (T.keep _ _ _ uN fun b _ o e=>vi b o e) fin)
theorem oJ{sc:Scope}{NX:List Str}(S:rC sc scope NX N fr)(e1:X.env.scope=sc)(e2:X.N=NX)(hc:X.calm=true)(hi:PI X tg iter wi)
  (hg:∀pins fp s H,PG (lG X pins N scope fp s H) tg g) (ht:∀pins fp s H,vh (lG X pins N scope fp s H) ifs tt) (he:∀pins fp s H,PE (lG X pins N scope fp s H) elt te)
  (hs:∀x,foldedSetIterable iter X.env x=pure x:=by intro _;rfl):PE X (.ListComp elt [⟨tg,iter,ifs,0⟩] scope pos) (rn wi fr g tt te):=by
 intro pins s σ H Q I h
 have B:=S.Hk e1 e2 I.ok
 rw[eval_ListComp]
 refine wpAny_comprehension_free (use:=none) rfl hs B.ve B.kind B.names (bF (hi pins s σ H _ I h) fun v s1 h1=>bF h1 fun F3 s2 h2=>?_)
 obtain⟨it,fp,tn,J,H2,e,I2,T,fN,f2,q⟩:=h2
 subst e
 refine l5 (RR:=fun acc C=>compPost (model X.prog X.w) X.A X.xe none (EP X pins σ Q) acc C) B hc hg ht he I2 T fN f2 q ?_
 intro D C s' H' J' fC ⟨m,hm⟩ qn
 refine⟨m,hm,fun h' C4=>⟨.ref D,H',?_,rfl,qn⟩⟩
 obtain⟨f0,f1,_,f3,f4,f5⟩:=fC
 exact J'.turned (t':=s'.toks) (fun b o hb e=>(C4.2 b hb).trans e) f0 f1 f3 f4 f5
theorem vx{i:Nat}{y:Str}{sc:Scope}{NX:List Str}(hN:X.N.Nodup)(uw:X.N[i]? =some y)(hy:Loc X.env.scope y)(S:rC sc scope NX N fr)(e1:X.env.scope=sc)(e2:X.N=NX)(hc:X.calm=true)(hi:PI X tg iter wi)
  (hg:∀pins fp s H,PG (lG X pins N scope fp s H) tg g) (ht:∀pins fp s H,vh (lG X pins N scope fp s H) ifs tt) (he:∀pins fp s H,PE (lG X pins N scope fp s H) elt te)
  (PU:swapsWith (.ListComp elt [⟨tg,iter,ifs,0⟩] scope pos) (some (.Name y py)) tm.line X.env=pure true:=by rfl) (hs:∀x,foldedSetIterable iter X.env x=pure x:=by intro _;rfl)
  (hf:X.fn y=true∨X.env.scope.names.lookup y=some .local:=by first|exact .inl rfl|exact .inr rfl|assumption):
  PS X (.Assign [.Name y py] (.ListComp elt [⟨tg,iter,ifs,0⟩] scope pos) tm) (yb (rn wi fr g tt te) (aO i)):=by
 intro pins s σ H D I h
 have B:=S.Hk e1 e2 I.ok
 rw[exec_Assign_Name_used _ _ _ _ PU]
 refine wpAny_bind (wpAny_standAt (wpAny_bind ?_))
 show wpAny _ X.A (do let _←comprehension (.ListComp elt [⟨tg,iter,ifs,0⟩] scope pos) scope X.env _ (newList []) false (eval iter X.env) (some (assign (.Name y py) X.env))) _ _ s
 refine wpAny_bind (wpAny_mono (wpAny_comprehension_free (use:=some (assign (.Name y py) X.env)) (Q:=fun _ s'=>SP X pins D .next s') rfl hs B.ve B.kind B.names (bF (hi pins s σ H _ I h) fun v s1 h1=>bF h1 fun F3 s2 h2=>?_)) (fun _ s' hq=>wpAny_pure (wpAny_pure hq)) fun _ _ e=>e)
 obtain⟨it,fp,tn,J,H2,e,I2,T,fN,f2,q⟩:=h2
 subst e
 refine l5 (Q:=fun v H'=>aO i v σ H' D.nx) (RR:=fun acc C=>compPost (model X.prog X.w) X.A X.xe (some (assign (.Name y py) X.env)) (fun _ s'=>SP X pins D .next s') acc C) B hc hg ht he I2 T fN f2 q ?_
 intro D' C s' H' J' fC ⟨m,hm⟩ qn
 obtain⟨f0,f1,_,f3,f4,f5⟩:=fC
 show wpAny _ X.A (assign (.Name y py) X.env (.ref D')) _ _ _
 refine wpAny_assign_Name (i0 J' hN uw hy (v:= .ref D') rfl (fun p7 PV ⟨a,sb,ha⟩=>?_) hf)
 have PX:C≠a:=by
  rcases ha with z|z
  ·rw[z];exact f1
  ·exact fun w'=>f4 _ _ z w'.symm
 refine⟨m,hm.sameBut sb PX,fun h' C4=>⟨_,H',?_,qn⟩⟩
 exact PV.turned (t':=p7.toks) (fun b o hb e=>(C4.2 b hb).trans e) f0 f1 f3 f4 f5
end
section
variable {X:Cx}{tg:Expr}(K:PySem.W.Frag)
theorem kB(hK:X.K=K){l:Expr}{tl:TE}(hl:PE X l tl):PI X tg l (Bb K tl):=by subst hK;exact a9 hl
theorem c7(hK:X.K=K):Ph X (G6 K):=by subst hK;exact dP
theorem yH(hK:X.K=K){elts:List Expr}{x1}{i7:Pos}{a b:Expr}{ta:TA}{p pos:Pos}(hg:Gl X "zip")(hm:X.mg "zip" =none)(ha:PA X [a,b] ta)(hs:starEach [a,b] X.env=[(false,eval a X.env),(false,eval b X.env)]:=by rfl)
  (ki:starEach [b] X.env=[(false,eval b X.env)]:=by rfl):PI X (.Tuple elts x1 i7) (.Call (.Name "zip" p) [a,b] [] pos) (Ht K ta):=by subst hK;exact dJ hg hm ha hs ki
theorem rD(hK:X.K=K){e:Expr}{ta:TE}{f:Str}{pos:Pos}(he:PE X e ta)(hb:attributeBase e f X.env (eval e X.env)=eval e X.env):PE X (.Attribute e f pos) (GV K ta f):=by subst hK;exact bR he hb
end
def ix(scope sc:Scope):Scope:={ scope with names:=scope.names.map fun (y:Str×NameKind)=>match y with
 | (n,k)=>if (k==NameKind.free&&sc.kind== .function&&sc.names.lookup n==some .cell)=true then (n,NameKind.cell) else (n,k) }
end L2
namespace L2
open PySem PySem.Spec PyProof.Rows
def cE(L:Addr)(H H':Hp):Prop:=∀b o,H b=some o→b≠L→H' b=some o
theorem cE.of{L:Addr}{H H':Hp}(e:ak H H'):cE L H H':=fun b o h _=>e b o h
theorem cE.trans{L:Addr}{H H1 H2:Hp}(a:cE L H H1)(b:cE L H1 H2):cE L H H2:=fun c o h n=>b c o (a c o h n) n
theorem cE.upd{L:Addr}{H:Hp}{o:HO}:cE L H (upd H L o):=fun b u h n=>by rw[ao n];exact h
section
variable {K:PySem.W.Frag}{g:TG}{tt:TT}{te:TE}
theorem kC{J:It}{L:Addr}{Q:Hp→Prop}{σ:St}{H:Hp}(n:Nat)(H0:Hp)(S:St→Prop)(Pv:Nat→List V→Hp→Prop)(Hw:∀i H',i<n→ak H0 H'→J.go i H')(oI:∀H',ak H0 H'→J.stop n H')
  (qh:∀i ys H H',cE L H H'→Pv i ys H→Pv i ys H')
  (mS:H0 L=none) (hσ:S σ) (h0:ak H0 H) (hL:H L=some (.lst [])) (p0:Pv 0 [] H) (hz:n≤sizeLine) (hl:∀i ys H,Pv i ys H→ys.length≤i)
  (turn:∀i σ H' ys,i<n→S σ→ak H0 H'→H' L=some (.lst ys)→Pv i ys H'→∀(N:St→V→Hp→Prop) (M:St→Hp→Prop),(∀σ3 y H5,S σ3→ak H0 H5→H5 L=some (.lst ys)→Pv (i+1) (ys++[y]) H5→N σ3 y H5)→
   ∀x H2,J.jP i H' x H2→g x σ H2 fun σ3 H3=>tt σ3 H3 fun b H4=>if b=true then te σ3 H4 fun y H5=>N σ3 y H5 else M σ3 H4)
  (fin:∀H' ys,ak H0 H'→H' L=some (.lst ys)→Pv n ys H'→Q H'):
  ∃W:Nat→Nat→St→Hp→Prop,(∃m,W 0 m σ H)∧∀i m σ H,W i m σ H→(J.stop i H∧Q H)∨(J.go i H∧∀x H2,J.jP i H x H2→g x σ H2 fun σ3 H3=>tt σ3 H3 fun b H4=>if b=true
   then te σ3 H4 fun y H5=>∃ys,H5 L=some (.lst ys)∧ys.length<sizeLine∧∃m',m'<m∧W (i+1) m' σ3 (upd H5 L (.lst (ys++[y])))
   else∃m',m'<m∧W (i+1) m' σ3 H4):=by
 refine⟨fun i m σ H=>m+i=n∧S σ∧ak H0 H∧∃ys,H L=some (.lst ys)∧Pv i ys H,⟨n,rfl,hσ,h0,[],hL,p0⟩,?_⟩
 rintro i m σ H ⟨hm,hs,eC,ys,Bj,hp⟩
 by_cases hi:i<n
 ·refine .inr ⟨Hw i H hi eC,fun x H2 hy=>turn i σ H ys hi hs eC Bj hp _ _ (fun σ3 y H5 k1 k2 k3 k4=>?_) x H2 hy⟩
  refine⟨ys,k3,by have:=hl i ys H hp;omega,m - 1,by omega,by omega,k1,fun b o e=>?_,ys++[y],ae,qh _ _ _ _ cE.upd k4⟩
  rw[ao (af e mS)];exact k2 b o e
 ·have e:i=n:=by omega
  subst e
  exact .inl ⟨oI H eC,fin H ys eC Bj hp⟩
theorem jf{a L:Addr}{xs:List V}{Q:Hp→Prop}{σ:St}{H:Hp}(H0:Hp)(S:St→Prop)(Pv:Nat→List V→Hp→Prop)(ha:aD K H0 a xs)(qh:∀i ys H H',cE L H H'→Pv i ys H→Pv i ys H')
  (mS:H0 L=none) (hσ:S σ) (h0:ak H0 H) (hL:H L=some (.lst [])) (p0:Pv 0 [] H) (hz:xs.length≤sizeLine) (hl:∀i ys H,Pv i ys H→ys.length≤i)
  (turn:∀i x σ H' ys,xs[i]? =some x→S σ→ak H0 H'→H' L=some (.lst ys)→Pv i ys H'→∀(N:St→V→Hp→Prop) (M:St→Hp→Prop),(∀σ3 y H5,S σ3→ak H0 H5→H5 L=some (.lst ys)→Pv (i+1) (ys++[y]) H5→N σ3 y H5)→
   g x σ H' fun σ3 H3=>tt σ3 H3 fun b H4=>if b=true then te σ3 H4 fun y H5=>N σ3 y H5 else M σ3 H4)
  (fin:∀H' ys,ak H0 H'→H' L=some (.lst ys)→Pv xs.length ys H'→Q H'):
  ∃W:Nat→Nat→St→Hp→Prop,(∃m,W 0 m σ H)∧∀i m σ H,W i m σ H→((qT K a).stop i H∧Q H)∨((qT K a).go i H∧∀x H2,(qT K a).jP i H x H2→g x σ H2 fun σ3 H3=>tt σ3 H3 fun b H4=>if b=true
   then te σ3 H4 fun y H5=>∃ys,H5 L=some (.lst ys)∧ys.length<sizeLine∧∃m',m'<m∧W (i+1) m' σ3 (upd H5 L (.lst (ys++[y])))
   else∃m',m'<m∧W (i+1) m' σ3 H4):=
 kC xs.length H0 S Pv (fun i H' hi e=>⟨xs,xs[i],e.seq ha,List.getElem?_eq_getElem hi⟩) (fun H' e=>⟨xs,e.seq ha,Nat.le_refl _⟩) qh mS hσ h0 hL p0 hz hl
  (fun i σ H' ys _ hs e k p N M hN x H2 hy=>by
   obtain⟨rfl,hx⟩:=hy
   exact turn i x σ H2 ys (hx xs (e.seq ha)) hs e k p N M hN) fin
theorem jg{lo:Int}{n:Nat}{L:Addr}{Q:Hp→Prop}{σ:St}{H:Hp}(H0:Hp)(S:St→Prop)(Pv:Nat→List V→Hp→Prop)(qh:∀i ys H H',cE L H H'→Pv i ys H→Pv i ys H')
  (mS:H0 L=none) (hσ:S σ) (h0:ak H0 H) (hL:H L=some (.lst [])) (p0:Pv 0 [] H) (hz:n≤sizeLine) (hl:∀i ys H,Pv i ys H→ys.length≤i)
  (turn:∀i σ H' ys,i<n→S σ→ak H0 H'→H' L=some (.lst ys)→Pv i ys H'→∀(N:St→V→Hp→Prop) (M:St→Hp→Prop),(∀σ3 y H5,S σ3→ak H0 H5→H5 L=some (.lst ys)→Pv (i+1) (ys++[y]) H5→N σ3 y H5)→
   g (.int (lo+i)) σ H' fun σ3 H3=>tt σ3 H3 fun b H4=>if b=true then te σ3 H4 fun y H5=>N σ3 y H5 else M σ3 H4)
  (fin:∀H' ys,ak H0 H'→H' L=some (.lst ys)→Pv n ys H'→Q H'):
  ∃W:Nat→Nat→St→Hp→Prop,(∃m,W 0 m σ H)∧∀i m σ H,W i m σ H→((sL lo n).stop i H∧Q H)∨((sL lo n).go i H∧∀x H2,(sL lo n).jP i H x H2→g x σ H2 fun σ3 H3=>tt σ3 H3 fun b H4=>if b=true
   then te σ3 H4 fun y H5=>∃ys,H5 L=some (.lst ys)∧ys.length<sizeLine∧∃m',m'<m∧W (i+1) m' σ3 (upd H5 L (.lst (ys++[y])))
   else∃m',m'<m∧W (i+1) m' σ3 H4):=
 kC n H0 S Pv (fun i H' hi e=>hi) (fun H' e=>Nat.le_refl _) qh mS hσ h0 hL p0 hz hl
  (fun i σ H' ys hi hs e k p N M hN x H2 hy=>by
   obtain⟨rfl,rfl⟩:=hy
   exact turn i σ H2 ys hi hs e k p N M hN) fin
end
mutual
theorem iy:∀d:PyData,d.canLay0=true→PyData.eqv d d=true
 | .none,_=>by simp [PyData.eqv]
 | .bool _,_=>by simp [PyData.eqv]
 | .int _,_=>by simp [PyData.eqv]
 | .str _,_=>by simp [PyData.eqv]
 | .list xs,h=>by rw[PyData.eqv];exact gf xs (by simpa [PyData.canLay0] using h)
 | .tuple xs,h=>by rw[PyData.eqv];exact gf xs (by simpa [PyData.canLay0] using h)
 | .dict _,h=>by simp [PyData.canLay0] at h
theorem gf:∀xs:List PyData,PyData.canLayAll0 xs=true→PyData.eqvAll xs xs=true
 | [],_=>by simp [PyData.eqvAll]
 |x::xs,h=>by
  have h':x.canLay0=true∧PyData.canLayAll0 xs=true:=by simpa [PyData.canLayAll0] using h
  rw[PyData.eqvAll,iy x h'.1,gf xs h'.2];rfl
end
theorem g7{α:Type}(f:α→PyData):∀l:List α,(∀x∈l,(f x).canLay0=true)→PyData.canLayAll0 (l.map f)=true
 | [],_=>by simp [PyData.canLayAll0]
 |x::l,h=>by
  rw[List.map_cons,PyData.canLayAll0,h x (List.mem_cons_self ..),g7 f l fun y hy=>h y (List.mem_cons_of_mem _ hy)];rfl
theorem jh{α:Type}(f:α→PyData)(n:Nat):∀l:List α,(∀x∈l,(f x).depth≤n)→PyData.depthAll (l.map f)≤n
 | [],_=>by simp [PyData.depthAll]
 |x::l,h=>by
  rw[List.map_cons,PyData.depthAll]
  exact Nat.max_le.mpr ⟨h x (List.mem_cons_self ..),jh f n l fun y hy=>h y (List.mem_cons_of_mem _ hy)⟩
def kD(ns:List Int):PyData:= .list (ns.map PyData.int)
def fJ(cs:List (List Int)):PyData:= .list (cs.map kD)
theorem tD(ns:List Int):(kD ns).canLay0=true:=by unfold kD;rw[PyData.canLay0];exact g7 _ ns fun _ _=>by simp [PyData.canLay0]
theorem oK(ns:List Int):(kD ns).depth≤1:=by unfold kD;rw[PyData.depth];exact Nat.succ_le_succ (jh _ 0 ns fun _ _=>by simp [PyData.depth])
theorem gH(cs:List (List Int)):(fJ cs).canLay0=true:=by unfold fJ;rw[PyData.canLay0];exact g7 _ cs fun c _=>tD c
theorem oM(cs:List (List Int)):(fJ cs).depth≤2:=by unfold fJ;rw[PyData.depth];exact Nat.succ_le_succ (jh _ 1 cs fun c _=>oK c)
theorem tE{d:PyData}(h1:d.canLay0=true)(h2:d.depth≤64):SeqAt.shaped d=true:=by
 unfold SeqAt.shaped;rw[h1,decide_eq_true h2];rfl
theorem cw(cs:List (List Int)):SeqAt.shaped (fJ cs)=true:=tE (gH cs) (by have:=oM cs;omega)
theorem lZ.ints{K:PySem.W.Frag}{H:Hp}{a:Addr}{ns:List Int}(h:aD K H a (ns.map V.int)):lZ K H (.ref a) (kD ns):= .lst h (kv.ints ns)
def dM(K:PySem.W.Frag)(H:Hp):List Addr→List (List Int)→Prop:=Paired fun a c=>aD K H a (c.map V.int)
theorem dM.get{K:PySem.W.Frag}{H:Hp}:∀{as:List Addr} {cs:List (List Int)} {i:Nat} {a:Addr},dM K H as cs→as[i]? =some a→∃c,cs[i]? =some c∧aD K H a (c.map V.int)
 |_,_,0,_, .cons h _,e=>by cases e;exact⟨_,rfl,h⟩
 |_,_,i+1,_, .cons _ t,e=>dM.get (i:=i) t e
theorem dM.length{K:PySem.W.Frag}{H:Hp}{as:List Addr}{cs:List (List Int)}(h:dM K H as cs):as.length=cs.length:=Paired.length h
theorem dM.rd{K:PySem.W.Frag}{H:Hp}:∀{as:List Addr} {cs:List (List Int)},dM K H as cs→kv K H (as.map V.ref) (cs.map kD)
 |_,_, .nil=> .nil
 |_,_, .cons h t=> .cons (.ints h) (dM.rd t)
theorem lZ.cols{K:PySem.W.Frag}{H:Hp}{a:Addr}{as:List Addr}{cs:List (List Int)}(h:aD K H a (as.map V.ref))(t:dM K H as cs):lZ K H (.ref a) (fJ cs):= .lst h t.rd
theorem bH{as:List Addr}{i:Nat}{y:V}(h:(as.map V.ref)[i]? =some y):∃z,as[i]? =some z∧y=V.ref z:=by
 rw[List.getElem?_map] at h
 cases e:as[i]? with
 |none=>rw[e] at h;cases h
 |some z=>rw[e] at h;exact⟨z,rfl,(Option.some.inj h).symm⟩
theorem ay{α:Type}{l:List α}{i:Nat}{z:α}(h:l[i]? =some z):l.take (i+1)=l.take i++[z]:=by
 rw[List.take_add_one,h];rfl
section
variable {X:Cx}(K:PySem.W.Frag)
theorem lH(hK:X.K=K):eh X (.type "list") (fun xs H Q=>∃p ys,xs=[.ref p]∧(aD K H p ys∨kd K H p ys)∧∀l,H l=none→Q (.ref l) (upd H l (.lst ys))):=by subst hK;exact br
theorem tF(hK:X.K=K)(hc:X.calm=true):eh X (.builtin "sum") (fun xs H Q=>∃p,∃ns:List Int,xs=[.ref p]∧aD K H p (ns.map V.int)∧Q (.int ns.sum) H):=by subst hK;exact fZ hc
end
end L2
namespace L2
open PySem PySem.Spec PyProof.Rows
section
variable {K:PySem.W.Frag}{g:TG}{tt:TT}{te:TE}
theorem tG{a c L:Addr}{xs zs:List V}{Q:Hp→Prop}{σ:St}{H:Hp}(H0:Hp)(S:St→Prop)(Pv:Nat→List V→Hp→Prop)(ha:aD K H0 a xs)(hc:aD K H0 c zs)(qh:∀i ys H H',cE L H H'→Pv i ys H→Pv i ys H')
  (mS:H0 L=none) (hσ:S σ) (h0:ak H0 H) (hL:H L=some (.lst [])) (p0:Pv 0 [] H) (hz:min xs.length zs.length≤sizeLine) (hl:∀i ys H,Pv i ys H→ys.length≤i)
  (turn:∀i x z p σ H' ys,xs[i]? =some x→zs[i]? =some z→H' p=none→S σ→ak H0 H'→H' L=some (.lst ys)→Pv i ys H'→∀(N:St→V→Hp→Prop) (M:St→Hp→Prop),(∀σ3 y H5,S σ3→ak H0 H5→H5 L=some (.lst ys)→Pv (i+1) (ys++[y]) H5→N σ3 y H5)→
   g (.ref p) σ (upd H' p (.tup [x,z])) fun σ3 H3=>tt σ3 H3 fun b H4=>if b=true then te σ3 H4 fun y H5=>N σ3 y H5 else M σ3 H4)
  (fin:∀H' ys,ak H0 H'→H' L=some (.lst ys)→Pv (min xs.length zs.length) ys H'→Q H'):
  ∃W:Nat→Nat→St→Hp→Prop,(∃m,W 0 m σ H)∧∀i m σ H,W i m σ H→((vm K a c).stop i H∧Q H)∨((vm K a c).go i H∧∀x H2,(vm K a c).jP i H x H2→g x σ H2 fun σ3 H3=>tt σ3 H3 fun b H4=>if b=true
   then te σ3 H4 fun y H5=>∃ys,H5 L=some (.lst ys)∧ys.length<sizeLine∧∃m',m'<m∧W (i+1) m' σ3 (upd H5 L (.lst (ys++[y])))
   else∃m',m'<m∧W (i+1) m' σ3 H4):=
 kC (min xs.length zs.length) H0 S Pv
  (fun i H' hi e=>⟨xs,zs,xs[i]'(by omega),zs[i]'(by omega),e.seq ha,e.seq hc,List.getElem?_eq_getElem _,List.getElem?_eq_getElem _⟩) (fun H' e=>⟨xs,zs,e.seq ha,e.seq hc,by omega⟩) qh mS hσ h0 hL p0 hz hl
  (fun i σ H' ys _ hs e k p N M hN v H2 hy=>by
   obtain⟨t,x,z,ht,rfl,rfl,hx,gG⟩:=hy
   exact turn i x z t σ H' ys (hx xs (e.seq ha)) (gG zs (e.seq hc)) ht hs e k p N M hN) fin
end
def bG(L:Addr)(H0 H:Hp):List Addr→List (List Int)→Prop:=Paired fun a c=>H a=some (.lst (c.map V.int))∧a≠L∧H0 a=none
theorem bG.but{L:Addr}{H0 H H':Hp}(e:cE L H H'):∀{as:List Addr} {cs:List (List Int)},bG L H0 H as cs→bG L H0 H' as cs
 |_,_, .nil=> .nil
 |_,_, .cons h t=> .cons ⟨e _ _ h.1 h.2.1,h.2⟩ (bG.but e t)
theorem bG.length{L:Addr}{H0 H:Hp}{as:List Addr}{cs:List (List Int)}(h:bG L H0 H as cs):as.length=cs.length:=Paired.length h
theorem bG.snoc{L:Addr}{H0 H:Hp}{a:Addr}{c:List Int}(h:H a=some (.lst (c.map V.int)))(n:a≠L)(n0:H0 a=none):∀{as:List Addr} {cs:List (List Int)},bG L H0 H as cs→bG L H0 H (as++[a]) (cs++[c])
 |_,_, .nil=> .cons ⟨h,n,n0⟩ .nil
 |_,_, .cons k t=> .cons k (bG.snoc h n n0 t)
theorem qi:bootBuiltins "any" =some (.builtin "any"):=by decide+kernel
theorem l6(bs:List Bool):(List.range bs.length).any (fun i=>bs.getD i false)=bs.any id:=by
 induction bs with
 |nil=>rfl
 |cons b bs ih=>
  rw[List.length_cons,List.range_succ_eq_map,List.any_cons,List.any_map,List.any_cons]
  congr 1
theorem call_any{X:Cx}(hc:X.calm=true):eh X (.builtin "any") (fun xs H Q=>∃p,∃bs:List Bool,xs=[.ref p]∧aD X.K H p (bs.map V.bl)∧Q (.bl (bs.any id)) H):=by
 intro pins s σ H xs us Q I r h
 obtain⟨p,bs,rfl,hS,q⟩:=h
 obtain⟨u,rfl,ru⟩:=vals1 r
 cases ru
 obtain⟨its,rv,pl,hz⟩:=I.list hS
 have ll:=rv.length
 rw[List.length_map] at ll
 obtain⟨o,ho,_⟩:=pl.isList
 have hI:p≠s.heap.objs.size:=Nat.ne_of_lt (Heap.lt_size ho)
 refine call_any_walk (wpAny_pyIter_list pl.isList ?_)
 refine⟨s.heap.objs.size,_,_,_,_,_,fun i=>bs.getD i false,rfl,Walks.list (A:=X.A.in1) (show X.A.in1.handled=none from I.ok.hd hc) s.heap.objs.size p hI its.toArray,⟨⟨_,Heap.get?_push_size _ rfl,rfl,rfl⟩,pl.isList.push _⟩,?_,fun h' tk hk=>?_⟩
 ·intro i v s' Q' E' hP hq
  have hP:its[i]? =some v:=by simpa using hP
  have gI:i<bs.length:=by rw[ll];exact(List.getElem?_eq_some_iff.mp hP).1
  obtain⟨u,hu,ru⟩:=rv.get (i:=i) (x:=V.bl bs[i]) (by rw[List.getElem?_map,List.getElem?_eq_getElem gI];rfl)
  rw[hP] at hu
  cases hu
  cases ru
  have e:bs.getD i false=bs[i]:=by rw[List.getD_eq_getElem?_getD,List.getElem?_eq_getElem gI];rfl
  have hq:Q' (bs.getD i false) s':=hq
  rw[e] at hq
  exact wpAny_truthy_bool hq
 ·have e:(List.range its.toArray.size).any (fun i=>bs.getD i false)=bs.any id:=by
   rw[←l6 bs,ll];simp
  rw[e]
  exact⟨.bl _,H,I.kept fun b o q=>hk b o (fun z=>by
   have z:b=s.heap.objs.size:=by simpa using z
   exact absurd (Heap.lt_size q) (by rw[z];exact Nat.lt_irrefl _)) (Heap.get?_push_of_some _ q),rfl,q⟩
end L2
namespace L2
open PySem PySem.Spec PyProof.Rows
theorem jj:bootBuiltins "sorted" =some (.builtin "sorted"):=by decide+kernel
section
variable {X:Cx}
end
end L2
namespace L2
open PySem PySem.Spec PyProof.Rows
section
variable {X:Cx}
end
end L2
namespace L2
open PySem PySem.Spec PyProof.Rows PySem.W
section
variable {O:KeyOrd}{k:Nat→O.α}{n:Nat}{I:Shared→Prop}{cmp:Nat→Nat→(Bool→Shared→Prop)→Shared→Prop}
def c8(O:KeyOrd)(k:Nat→O.α)(n:Nat)(I:Shared→Prop)(cmp:Nat→Nat→(Bool→Shared→Prop)→Shared→Prop):Prop:=∀i j C s,i<n→j<n→I s→(∀s',I s'→C (O.blt (k i) (k j)) s')→cmp i j C s
end
end L2
namespace PySem.SeqAt
open AutoSeq1 (wpAny_loadPart')
open MeetsSeq MeetsSeq2 MeetsSeq3
def qj(A:Around)(s:Shared)(y x:Value)(b:Bool):Prop:=
 ∀(prog:Program) (w:World) (E:Value→Shared→Prop) (Q:Value→Shared→Prop),Q (.bool b) s→wpAny (model prog w) A (richCompare .Lt y x) Q E s
def oN(e c:Nat→Bool):List Nat→Bool
 | []=>false
 |j::r=>if e j=true then oN e c r else c j
theorem tH(l b:Addr)(items cn:Array Value)(n n2:Nat)(dd F5:Option Addr)(sl F6:Array (Option Value))(om:items.size=cn.size)(e c:Nat→Bool)(k:Nat):
  ∀i:Nat,items.size - i=k→Meets (Builtin.«list.__eq__.loop» ⟨[.ref l, .ref b,rawInt i,rawInt 0],[]⟩)
   (fun A R s=>s.heap.get? l=some { cls:= .type "list",dict:=dd,data:= .seq items n,slots:=sl }∧s.heap.get? b=some { cls:= .type "list",dict:=F5,data:= .seq cn n2,slots:=F6 }∧
    (∀j (h1:j<items.size) (h2:j<cn.size),EqAt A.in1 s items[j] cn[j] (e j)∧qj A.in1 s items[j] cn[j] (c j))∧
    R (.ok (.ret (.bool (oN e c ((List.range items.size).drop i))))) s):=by
 induction k with
 |zero=>
  intro i hk prog w A R s h
  obtain⟨hp,g,d,tk,os⟩:=s;obtain⟨hl,hb,he,h⟩:=h
  wp_walk using wpAny_loadPart' hl,wpAny_loadPart' hb
  have oO:items[((i:Nat):Int).toNat]? =none:=by simp;omega
  have qk:cn[((i:Nat):Int).toNat]? =none:=by simp;omega
  have hd:(List.range items.size).drop i=[]:=by simp;omega
  rw[hd] at h
  rw[oO,qk]
  wp_walk using wpAny_loadPart' hl,wpAny_loadPart' hb
  show R (.ok (.ret (.bool (decide (items.size<cn.size))))) _
  rw[om]
  simpa [oN] using h
 |succ k ih=>
  intro i hk prog w A R s h
  obtain⟨hp,g,d,tk,os⟩:=s;obtain⟨hl,hb,he,h⟩:=h
  wp_walk using wpAny_loadPart' hl,wpAny_loadPart' hb
  have jQ:i<items.size:=by omega
  have De:i<cn.size:=by omega
  have oO:items[((i:Nat):Int).toNat]? =some items[i]:=by simp [jQ]
  have qk:cn[((i:Nat):Int).toNat]? =some cn[i]:=by simp [De]
  have hd:(List.range items.size).drop i=i::(List.range items.size).drop (i+1):=by simp [List.drop_eq_getElem_cons,jQ]
  have hc:((i:Int)+1)=((i+1 :Nat):Int):=by push_cast;rfl
  rw[hd,oN] at h
  rw[oO,qk]
  refine wpAny_bind ((he i jQ De).1 prog w _ _ ?_)
  cases nX:e i with
  |true=>
   rw[nX,if_pos rfl] at h
   wp_walk
   rw[hc]
   exact⟨plainId_quiet plain_eq_loop _,codeAny_builtin entry_eq_loop (by
    rw[Around.under_plainId plain_eq_loop _]
    exact ih (i+1) (by omega) prog w A R _ ⟨hl,hb,he,h⟩)⟩
  |false=>
   rw[nX,if_neg (by simp)] at h
   wp_walk using wpAny_loadPart' hl,wpAny_loadPart' hb
   rw[oO,qk]
   refine wpAny_bind ((he i jQ De).2 prog w _ _ ?_)
   wp_walk
   exact h
theorem tI(l b:Addr)(items cn:Array Value)(n n2:Nat)(dd F5:Option Addr)(sl F6:Array (Option Value))(om:items.size=cn.size)(e c:Nat→Bool):
  Meets (Builtin.«list.__lt__» ⟨[.ref l, .ref b],[]⟩)
   (fun A R s=>s.heap.get? l=some { cls:= .type "list",dict:=dd,data:= .seq items n,slots:=sl }∧s.heap.get? b=some { cls:= .type "list",dict:=F5,data:= .seq cn n2,slots:=F6 }∧
    (∀j (h1:j<items.size) (h2:j<cn.size),EqAt A.in1 s items[j] cn[j] (e j)∧qj A.in1 s items[j] cn[j] (c j))∧
    R (.ok (.ret (.bool (oN e c (List.range items.size))))) s):=by
 intro prog w A R s h
 obtain⟨hp,g,d,tk,os⟩:=s;obtain⟨hl,hb,he,h⟩:=h
 have f3:=AutoSeq1.sub_list_list
 wp_walk using wpAny_loadPart' hl,wpAny_loadPart' hb
 exact⟨plainId_quiet plain_eq_loop _,codeAny_builtin entry_eq_loop (by
  rw[Around.under_plainId plain_eq_loop _]
  exact tH l b items cn n n2 dd F5 sl F6 om e c _ 0 rfl prog w A R _ ⟨hl,hb,he,by simpa using h⟩)⟩
end PySem.SeqAt
namespace L2
open PySem PySem.Spec PyProof.Rows PySem.SeqAt PySem.W
@[reducible] def ql:KeyOrd where
  α:=List Int
  blt a b:=decide (a<b)
  irrefl a:=by simp
  trans a b c h1 h2:=by simp only [decide_eq_true_eq] at*;exact List.lt_trans h1 h2
  negTrans a b c h:=by
   simp only [decide_eq_true_eq] at*
   by_cases l7:a<b
   ·exact .inl l7
   ·exact .inr (List.lt_of_le_of_lt (List.not_lt.mp l7) h)
  total a b h1 h2:=by simp only [decide_eq_false_iff_not] at*;exact List.le_antisymm (List.not_lt.mp h2) (List.not_lt.mp h1)
theorem rE:∀(xs ys:List Int) (d:Nat) (f g:Nat→Int),xs.length=ys.length→(∀j,j<xs.length→f (d+j)=xs.getD j 0)→(∀j,j<xs.length→g (d+j)=ys.getD j 0)→
  oN (fun j=>f j==g j) (fun j=>decide (f j<g j)) (List.range' d xs.length)=decide (xs<ys)
 | [],[],d,f,g,_,_,_=>by simp [oN]
 |x::xs,y::ys,d,f,g,hl,hf,hg=>by
  have h0:=hf 0 (by simp)
  have g0:=hg 0 (by simp)
  simp at h0 g0
  have ih:=rE xs ys (d+1) f g (by simpa using hl) (fun j hj=>by
   have:=hf (j+1) (by simp;omega)
   rw[show d+1+j=d+(j+1) by omega,this];simp) (fun j hj=>by
   have:=hg (j+1) (by simp;omega)
   rw[show d+1+j=d+(j+1) by omega,this];simp)
  rw[List.length_cons,List.range'_succ,oN,ih,h0,g0]
  by_cases e:x=y
  ·subst e
   rw[if_pos (by simp)]
   simp [List.cons_lt_cons_iff]
  ·rw[if_neg (by simpa using e)]
   simp [List.cons_lt_cons_iff,e]
section
variable {prog:Program}{w:World}{A:Around}{E:Value→Shared→Prop}{s:Shared}
theorem ou(a:Int)(t:Tok)(b:Int)(u:Tok):qj A s (.int a t) (.int b u) (decide (a<b)):=fun prog w E Q h=>wpAny_lt_int h
theorem oP{a b:Addr}{us vs:List Value}{xs ys:List Int}{Q:Bool→Shared→Prop}(ha:s.heap.IsList a us.toArray)(hb:s.heap.IsList b vs.toArray)(hx:IntsAre us xs)(hy:IntsAre vs ys)(hl:xs.length=ys.length)(hu:A.units<cLine)
  (h:Q (decide (xs<ys)) s):wpAny (model prog w) A (oneLt' true (.ref a) (.ref b)) Q E s:=by
 rw[oneLt'_eq]
 simp only [if_true]
 refine wpAny_bind (wpAny_cRoomFor hu ?_)
 obtain⟨⟨cls,dd,data,sl⟩,ho,hc,n,hd⟩:=id ha
 obtain⟨⟨UQ,F5,data2,F6⟩,UR,Hy,n2,hd2⟩:=id hb
 simp only at hc hd Hy hd2
 subst hc hd Hy hd2
 have lu:=hx.length
 have lv:=hy.length
 have om:us.toArray.size=vs.toArray.size:=by simp;omega
 refine wpAny_bind (wpAny_callSpecialIfBound?_slot (T:="list") (id:="list.__lt__") ⟨_,ho,rfl⟩ F.slot_list_lt (call_meets F.slot_list_lt ⟨_,ho,rfl⟩ F.entry_list_lt (F.args_list_lt_2 _ _) (tI a b us.toArray vs.toArray n n2 dd F5 sl F6 om (fun j=>xs.getD j 0==ys.getD j 0) (fun j=>decide (xs.getD j 0<ys.getD j 0))) ⟨ho,UR,fun j h1 h2=>?_,?_⟩))
 ·have PY:j<us.length:=by simpa using h1
  have Hz:j<vs.length:=by simpa using h2
  obtain⟨t,e1⟩:=PyProof.Rows.IntsAre.int_at hx j us[j] (List.getElem?_eq_getElem PY)
  obtain⟨u,e2⟩:=PyProof.Rows.IntsAre.int_at hy j vs[j] (List.getElem?_eq_getElem Hz)
  have e1:us.toArray[j]=Value.int (xs.getD j 0) t:=by simpa using e1
  have e2:vs.toArray[j]=Value.int (ys.getD j 0) u:=by simpa using e2
  rw[e1,e2]
  exact⟨EqAt.int_int _ t _ u,ou _ t _ u⟩
 ·have key:=rE xs ys 0 (fun j=>xs.getD j 0) (fun j=>ys.getD j 0) hl (fun j _=>by simp) (fun j _=>by simp)
  rw[show us.toArray.size=xs.length by simpa using lu,List.range_eq_range',key]
  exact wpAny_truthy_bool h
structure fm(h:Heap)(m:Nat)(vs:List Value)(cs:List (List Int)):Prop where
 len:vs.length=cs.length
 at':∀i,i<vs.length→∃(b:Addr) (us:List Value),vs.getD i Value.none= .ref b∧h.IsList b us.toArray∧IntsAre us (cs.getD i [])∧(cs.getD i []).length=m
theorem fm.keep{h h':Heap}{m:Nat}{vs:List Value}{cs:List (List Int)}(c:fm h m vs cs)(k:∀b o,h.get? b=some o→h'.get? b=some o):fm h' m vs cs:=
 ⟨c.len,fun i hi=>by
   obtain⟨b,us,h1,⟨o,ho,hc,n,hd⟩,h3,h4⟩:=c.at' i hi
   exact⟨b,us,h1,⟨o,k _ _ ho,hc,n,hd⟩,h3,h4⟩⟩
end
section
variable {X:Cx}
theorem map_range{α:Type}(d:α)(l:List α):(List.range l.length).map (fun i=>l.getD i d)=l:=by
 apply List.ext_getElem
 ·simp
 ·intro i h1 h2
  simp [List.getElem?_eq_getElem h2]
theorem g8:∀{as:List Addr} {us:List Value},Vals (as.map V.ref) us→us=as.map Value.ref
 | [],_,r=>by cases r;rfl
 |a::as,_,r=>by
  cases r with
  |cons h t=>rw[g8 t,show _=Value.ref a from h];rfl
theorem fo:∀(as:List Addr),Vals (as.map V.ref) (as.map Value.ref)
 | []=> .nil
 |a::as=> .cons rfl (fo as)
end
end L2
namespace L2
open PySem PySem.Spec PyProof.Rows
section
variable {X:Cx}
end
theorem vy:bootBuiltins "all" =some (.builtin "all"):=by decide+kernel
theorem tJ(bs:List Bool):(List.range bs.length).all (fun i=>bs.getD i false)=bs.all id:=by
 induction bs with
 |nil=>rfl
 |cons b bs ih=>
  rw[List.length_cons,List.range_succ_eq_map,List.all_cons,List.all_map,List.all_cons]
  congr 1
theorem oQ{X:Cx}(hc:X.calm=true):eh X (.builtin "all") (fun xs H Q=>∃p,∃bs:List Bool,xs=[.ref p]∧aD X.K H p (bs.map V.bl)∧Q (.bl (bs.all id)) H):=by
 intro pins s σ H xs us Q I r h
 obtain⟨p,bs,rfl,hS,q⟩:=h
 obtain⟨u,rfl,ru⟩:=vals1 r
 cases ru
 obtain⟨its,rv,pl,hz⟩:=I.list hS
 have ll:=rv.length
 rw[List.length_map] at ll
 obtain⟨o,ho,_⟩:=pl.isList
 have hI:p≠s.heap.objs.size:=Nat.ne_of_lt (Heap.lt_size ho)
 refine call_all_walk (wpAny_pyIter_list pl.isList ?_)
 refine⟨s.heap.objs.size,_,_,_,_,_,fun i=>bs.getD i false,rfl,Walks.list (A:=X.A.in1) (show X.A.in1.handled=none from I.ok.hd hc) s.heap.objs.size p hI its.toArray,⟨⟨_,Heap.get?_push_size _ rfl,rfl,rfl⟩,pl.isList.push _⟩,?_,fun h' tk hk=>?_⟩
 ·intro i v s' Q' E' hP hq
  have hP:its[i]? =some v:=by simpa using hP
  have gI:i<bs.length:=by rw[ll];exact(List.getElem?_eq_some_iff.mp hP).1
  obtain⟨u,hu,ru⟩:=rv.get (i:=i) (x:=V.bl bs[i]) (by rw[List.getElem?_map,List.getElem?_eq_getElem gI];rfl)
  rw[hP] at hu
  cases hu
  cases ru
  have e:bs.getD i false=bs[i]:=by rw[List.getD_eq_getElem?_getD,List.getElem?_eq_getElem gI];rfl
  have hq:Q' (bs.getD i false) s':=hq
  rw[e] at hq
  exact wpAny_truthy_bool hq
 ·have e:(List.range its.toArray.size).all (fun i=>bs.getD i false)=bs.all id:=by
   rw[←tJ bs,ll];simp
  rw[e]
  exact⟨.bl _,H,I.kept fun b o q=>hk b o (fun z=>by
   have z:b=s.heap.objs.size:=by simpa using z
   exact absurd (Heap.lt_size q) (by rw[z];exact Nat.lt_irrefl _)) (Heap.get?_push_of_some _ q),rfl,q⟩
end L2
namespace L2
open PySem PySem.Spec PyProof.Rows
section
variable {K:PySem.W.Frag}{g:TG}{tt:TT}{te:TE}
theorem vz{J:It}{L:Addr}{Q:Hp→Prop}{σ:St}{H:Hp}(n:Nat)(H0:Hp)(S:St→Prop)(Pv:Nat→List V→Prop)(Hw:∀i H',i<n→ak H0 H'→J.go i H')(oI:∀H',ak H0 H'→J.stop n H')
  (mS:H0 L=none) (hσ:S σ) (h0:ak H0 H) (hL:H L=some (.lst [])) (p0:Pv 0 []) (hz:n≤sizeLine) (hl:∀i ys,Pv i ys→ys.length≤i)
  (turn:∀i σ H' ys,i<n→S σ→ak H0 H'→H' L=some (.lst ys)→Pv i ys→∀(N:St→V→Hp→Prop) (M:St→Hp→Prop),(∀σ3 y H5,S σ3→ak H0 H5→H5 L=some (.lst ys)→Pv (i+1) (ys++[y])→N σ3 y H5)→(∀σ3 H4,S σ3→ak H0 H4→H4 L=some (.lst ys)→Pv (i+1) ys→M σ3 H4)→
   ∀x H2,J.jP i H' x H2→g x σ H2 fun σ3 H3=>tt σ3 H3 fun b H4=>if b=true then te σ3 H4 fun y H5=>N σ3 y H5 else M σ3 H4)
  (fin:∀H' ys,ak H0 H'→H' L=some (.lst ys)→Pv n ys→Q H'):
  ∃W:Nat→Nat→St→Hp→Prop,(∃m,W 0 m σ H)∧∀i m σ H,W i m σ H→(J.stop i H∧Q H)∨(J.go i H∧∀x H2,J.jP i H x H2→g x σ H2 fun σ3 H3=>tt σ3 H3 fun b H4=>if b=true
   then te σ3 H4 fun y H5=>∃ys,H5 L=some (.lst ys)∧ys.length<sizeLine∧∃m',m'<m∧W (i+1) m' σ3 (upd H5 L (.lst (ys++[y])))
   else∃m',m'<m∧W (i+1) m' σ3 H4):=by
 refine⟨fun i m σ H=>m+i=n∧S σ∧ak H0 H∧∃ys,H L=some (.lst ys)∧Pv i ys,⟨n,rfl,hσ,h0,[],hL,p0⟩,?_⟩
 rintro i m σ H ⟨hm,hs,eC,ys,Bj,hp⟩
 by_cases hi:i<n
 ·refine .inr ⟨Hw i H hi eC,fun x H2 hy=>turn i σ H ys hi hs eC Bj hp _ _ (fun σ3 y H5 k1 k2 k3 k4=>?_) (fun σ3 H4 k1 k2 k3 k4=>?_) x H2 hy⟩
  ·refine⟨ys,k3,by have:=hl i ys hp;omega,m - 1,by omega,by omega,k1,fun b o e=>?_,ys++[y],ae,k4⟩
   rw[ao (af e mS)];exact k2 b o e
  ·exact⟨m - 1,by omega,by omega,k1,k2,ys,k3,k4⟩
 ·have e:i=n:=by omega
  subst e
  exact .inl ⟨oI H eC,fin H ys eC Bj hp⟩
theorem gJ{a L:Addr}{xs:List V}{Q:Hp→Prop}{σ:St}{H:Hp}(H0:Hp)(S:St→Prop)(Pv:Nat→List V→Prop)(ha:aD K H0 a xs)
  (mS:H0 L=none) (hσ:S σ) (h0:ak H0 H) (hL:H L=some (.lst [])) (p0:Pv 0 []) (hz:xs.length≤sizeLine) (hl:∀i ys,Pv i ys→ys.length≤i)
  (turn:∀i x σ H' ys,xs[i]? =some x→S σ→ak H0 H'→H' L=some (.lst ys)→Pv i ys→∀(N:St→V→Hp→Prop) (M:St→Hp→Prop),(∀σ3 y H5,S σ3→ak H0 H5→H5 L=some (.lst ys)→Pv (i+1) (ys++[y])→N σ3 y H5)→(∀σ3 H4,S σ3→ak H0 H4→H4 L=some (.lst ys)→Pv (i+1) ys→M σ3 H4)→
   g x σ H' fun σ3 H3=>tt σ3 H3 fun b H4=>if b=true then te σ3 H4 fun y H5=>N σ3 y H5 else M σ3 H4)
  (fin:∀H' ys,ak H0 H'→H' L=some (.lst ys)→Pv xs.length ys→Q H'):
  ∃W:Nat→Nat→St→Hp→Prop,(∃m,W 0 m σ H)∧∀i m σ H,W i m σ H→((qT K a).stop i H∧Q H)∨((qT K a).go i H∧∀x H2,(qT K a).jP i H x H2→g x σ H2 fun σ3 H3=>tt σ3 H3 fun b H4=>if b=true
   then te σ3 H4 fun y H5=>∃ys,H5 L=some (.lst ys)∧ys.length<sizeLine∧∃m',m'<m∧W (i+1) m' σ3 (upd H5 L (.lst (ys++[y])))
   else∃m',m'<m∧W (i+1) m' σ3 H4):=
 vz xs.length H0 S Pv (fun i H' hi e=>⟨xs,xs[i],e.seq ha,List.getElem?_eq_getElem hi⟩) (fun H' e=>⟨xs,e.seq ha,Nat.le_refl _⟩) mS hσ h0 hL p0 hz hl
  (fun i σ H' ys _ hs e k p N M hN hM x H2 hy=>by
   obtain⟨rfl,hx⟩:=hy
   exact turn i x σ H2 ys (hx xs (e.seq ha)) hs e k p N M hN hM) fin
end
section
variable {X:Cx}
end
end L2
namespace L2
open PySem PySem.Spec PyProof.Rows
section
variable {K:PySem.W.Frag}{g:TG}{tt:TT}{te:TE}
end
section
variable {X:Cx}
theorem tK(K:PySem.W.Frag)(hK:X.K=K)(hc:X.calm=true):eh X (.builtin "any") (fun xs H Q=>∃p,∃bs:List Bool,xs=[.ref p]∧aD K H p (bs.map V.bl)∧Q (.bl (bs.any id)) H):=by subst hK;exact call_any hc
end
end L2
namespace PySem.W
open PySem PySem.Calls PyProof.Rows PyProof.V PySem.Spec
section
variable {prog:Program}{w:World}{A:Around}{E:Value→Shared→Prop}{s:Shared}{T:String}{r d:Addr}{n:Nat}{P:Nat→Value→Prop}{OK:Heap→Prop}
end
end PySem.W
namespace L2
open PySem PySem.Spec PyProof.Rows PySem.W
section
variable {X:Cx}
end
end L2
namespace L2
open PySem PySem.Spec PyProof.Rows
section
variable {X:Cx}
end
end L2
namespace L2
open PySem PySem.Spec PyProof.Rows
section
variable {X:Cx}
end
section
variable {X:Cx}{tg:Expr}
end
end L2
namespace L2
open PySem PySem.Spec PyProof.Rows
section
variable {X:Cx}
end
end L2
namespace PySem.W
open PySem PySem.Calls PyProof.Rows PyProof.V PySem.Spec
section
variable {prog:Program}{w:World}{A:Around}{E:Value→Shared→Prop}{s:Shared}{T:String}{r d:Addr}{n:Nat}{P:Nat→Value→Prop}{OK:Heap→Prop}
end
end PySem.W
namespace L2
open PySem PySem.Spec PyProof.Rows PySem.W
section
variable {X:Cx}
end
section
variable {X:Cx}{pins:List (Addr×Obj)}{σ:St}{H:Hp}{s:Shared}{a b:Addr}{ip more:List (Key×V)}{A:Around}{E:Value→Shared→Prop}
end
section
variable {X:Cx}{o e:Expr}{apos kn:Pos}{td ty:TE}
end
end L2
namespace L2
open PySem PySem.Spec PyProof.Rows
end L2
namespace L2
open PySem PySem.Spec PyProof.Rows
end L2
namespace L2
open PySem PySem.Spec PyProof.Rows PySem.W
section
variable {X:Cx}
end
end L2
namespace L2
open PySem PySem.Spec PyProof.Rows
end L2
namespace L2
open PySem PySem.Spec PyProof.Rows
section
variable {X:Cx}
theorem kE:jH X (binaryOp .FloorDiv) (rI (fun _ j=>0<j∧j<18446744073709551616) fun i j=> .int (i/j)):=Bc fun i j _ _ _ _ _ hc q=>by
 have h1:(0 :Int) <j:=hc.1
 have h2:j<18446744073709551616:=hc.2
 refine floordiv_int (by omega) (by rw[Int.fdiv_eq_ediv_of_nonneg i (by omega)];exact q) (.inl (PyProof.noPylong_of_log2 ?_))
 have:=(Nat.log2_lt (n:=j.natAbs) (by omega) (k:=64)).mpr (by omega)
 omega
end
end L2
namespace L2
open PySem PySem.Spec PyProof.Rows
section
variable {X:Cx}
theorem tL(hc:X.calm=true):eh X (.builtin "any") (fun xs H Q=>∃p,∃ns:List Int,xs=[.ref p]∧aD X.K H p (ns.map V.int)∧Q (.bl (ns.any fun n=>decide (n≠0))) H):=by
 intro pins s σ H xs us Q I r h
 obtain⟨p,ns,rfl,hS,q⟩:=h
 obtain⟨u,rfl,ru⟩:=vals1 r
 cases ru
 obtain⟨its,rv,pl,hz⟩:=I.list hS
 have ll:=rv.length
 rw[List.length_map] at ll
 obtain⟨o,ho,_⟩:=pl.isList
 have hI:p≠s.heap.objs.size:=Nat.ne_of_lt (Heap.lt_size ho)
 refine call_any_walk (wpAny_pyIter_list pl.isList ?_)
 refine⟨s.heap.objs.size,_,_,_,_,_,fun i=>(ns.map fun n=>decide (n≠0)).getD i false,rfl,Walks.list (A:=X.A.in1) (show X.A.in1.handled=none from I.ok.hd hc) s.heap.objs.size p hI its.toArray,⟨⟨_,Heap.get?_push_size _ rfl,rfl,rfl⟩,pl.isList.push _⟩,?_,fun h' tk hk=>?_⟩
 ·intro i v s' Q' E' hP hq
  have hP:its[i]? =some v:=by simpa using hP
  have gI:i<ns.length:=by rw[ll];exact(List.getElem?_eq_some_iff.mp hP).1
  obtain⟨u,hu,ru⟩:=rv.get (i:=i) (x:=V.int ns[i]) (by rw[List.getElem?_map,List.getElem?_eq_getElem gI];rfl)
  rw[hP] at hu
  cases hu
  obtain⟨t,rfl⟩:=ru
  have e:(ns.map fun n=>decide (n≠0)).getD i false=decide (ns[i]≠0):=by rw[List.getD_eq_getElem?_getD,List.getElem?_map,List.getElem?_eq_getElem gI];rfl
  have hq:Q' ((ns.map fun n=>decide (n≠0)).getD i false) s':=hq
  rw[e] at hq
  have e2:(ns[i] != 0)=decide (ns[i]≠0):=by by_cases z:ns[i]=0<;>simp [z]
  exact P.truthy_int (by rw[e2];exact hq)
 ·have e:(List.range its.toArray.size).any (fun i=>(ns.map fun n=>decide (n≠0)).getD i false)=ns.any fun n=>decide (n≠0):=by
   have e1:=l6 (ns.map fun n=>decide (n≠0))
   rw[List.length_map,List.any_map] at e1
   rw[show its.toArray.size=ns.length by simpa using ll.symm,e1]
   rfl
  rw[e]
  exact⟨.bl _,H,I.kept fun b o q=>hk b o (fun z=>by
   have z:b=s.heap.objs.size:=by simpa using z
   exact absurd (Heap.lt_size q) (by rw[z];exact Nat.lt_irrefl _)) (Heap.get?_push_of_some _ q),rfl,q⟩
def HA(K:PySem.W.Frag):V→V→Hp→VK→Prop:=fun o i H Q=>∃(p:Addr) (xs:List V) (j:Nat) (v:V),o= .ref p∧i= .int j∧aD K H p xs∧xs[j]? =some v∧Q v H
theorem vA:GL X (HA X.K):=by
 intro pins s σ H o i ov iv Q I ro ri h
 obtain⟨p,xs,j,v,rfl,rfl,hq,he,q⟩:=h
 cases ro
 obtain⟨t,rfl⟩:=ri
 obtain⟨its,r,pl,hz⟩:=I.list hq
 obtain⟨w,ew,uv⟩:=r.get he
 have hn:=mJ
 have hl:=r.length
 have hj:=(List.getElem?_eq_some_iff.mp he).1
 exact wpAny_getItem_list pl.isList (by omega) (by omega) (by simpa using ew) ⟨v,H,I,uv,q⟩
end
end L2
namespace L2
open PySem PySem.Spec PyProof.Rows
section
variable {X:Cx}
end
end L2
namespace PySem
section
variable {M:Model}{A:Around}{E:Value→Shared→Prop}{s:Shared}
end
end PySem
namespace PySem.W
open PySem PySem.Calls PyProof.Rows PySem.Builtin PySem.Builtin.ObjectAttr
section
variable {prog:Program}{w:World}{A:Around}{E:Value→Shared→Prop}{R:Result→Shared→Prop}{h:Heap}{g:Array GenState}{d:Drawn}{t:Nat}{os:OsState}
variable {nm q:Str}{C N HE:Addr}{bs:List Value}{sn:List Str}{sub:List Value}{ab:Bool}{col:Option Bool}{dd:Option Addr}{k0 k1 k2 k3 k5:Option Value}
end
section
variable {prog:Program}{w:World}{A:Around}{E:Value→Shared→Prop}{R:Result→Shared→Prop}{s:Shared}{K:Frag}{C HE f:Addr}
end
section
variable {prog:Program}{w:World}{A:Around}{E:Value→Shared→Prop}{R:Result→Shared→Prop}{s:Shared}{K:Frag}{C HE f e:Addr}{ox:Obj}{od:Option Obj}{vs:Array Value}{name:Str}{v:Value}{tk:Tok}
end
section
variable {M:Model}{A:Around}{E:Value→Shared→Prop}{s:Shared}{K:Frag}{env:Env}
end
section
variable {prog:Program}{w:World}{A:Around}{E:Value→Shared→Prop}{s:Shared}{K:Frag}{C HE f e:Addr}{ox:Obj}{vs:Array Value}
end
end PySem.W
namespace L2
open PySem PySem.Spec PyProof.Rows
class jK where
 US:Addr→Prop
variable [jK]
section
variable {P:Program}{w:World}{H:Hp}{h:Heap}{e C dx:Addr}{od:Option Addr}{o:Obj}{vs:Array Value}
end
section
variable {X:Cx}{pins:List (Addr×Obj)}{σ:St}{H:Hp}{s:Shared}{e C:Addr}{od tb:Option Addr}{h':Heap}{ER:St→XK}{v:Value}
end
section
variable {P:Program}{w:World}{K:PySem.W.Frag}{mg:Str→Option Value}{base:Heap}{N ps:List Str}{qual:Str}{scope:Scope}{f:Addr}{cd:Value}{A:Around}{outer:List Env}{s s':Shared}{H:Hp}{E:XK}{v:Value}
end
section
variable {X:Cx}{pins:List (Addr×Obj)}{σ:St}{H:Hp}{s s':Shared}{ER:St→XK}{v:Value}
end
section
variable {X:Cx}{k:Nat}{f C:Addr}{fd:FuncData}{ps:List Str}{sp:Sp}{jT:List V}{ds:List Value}{ER:St→XK}{x m:Str}{p pos apos:Pos}{e o:Expr}{es:List Expr}{ta:TE}{t:TA}
end
end L2
namespace L2
open PySem PySem.Spec PyProof.Rows
variable [jK]
section
variable {X:Cx}{x f:Str}{a b o value ex:Expr}{ta tb tv:TE}{p pos apos pos':Pos}
end
end L2
namespace PySem.W
open PySem PySem.Calls PyProof.Rows
end PySem.W
namespace L2
open PySem PySem.Spec PyProof.Rows
variable [jK]
section
variable {X:Cx}{pins pn:List (Addr×Obj)}{σ:St}{H:Hp}{s:Shared}{ER:St→XK}{v:Value}{D:Ends}{fl:Flow}
end
end L2
namespace L2
open PySem PySem.Spec PyProof.Rows
section
variable {X:Cx}{tg:Expr}
end
section
variable {K:PySem.W.Frag}{g:TG}{tt:TT}{te:TE}
end
end L2
namespace L2
open PySem PySem.Spec PyProof.Rows PySem.W
section
variable {X:Cx}
end
end L2
namespace L2
open PySem PySem.Spec PyProof.Rows
section
variable {P:Program}{w:World}{K:PySem.W.Frag}{mg:Str→Option Value}{base:Heap}
end
end L2
namespace PySem.W
open PySem PySem.Spec PySem.Calls PyProof.Rows
section
variable {prog:Program}{w:World}{A:Around}{E:Value→Shared→Prop}{s:Shared}{K:Frag}{e C HE f:Addr}{ox:Obj}{od:Option Obj}
end
end PySem.W
namespace L2
open PySem PySem.Spec PyProof.Rows
variable [jK]
end L2
namespace yI
open PySem PySem.Spec PySem.Builtin PySem.Builtin.Str
end yI
namespace L2
open PySem PySem.Spec PyProof.Rows
section
variable {X:Cx}
end
variable [jK]
section
variable {X:Cx}
end
section
variable {P:Program}{w:World}{K:PySem.W.Frag}{mg:Str→Option Value}{base:Heap}
end
end L2
namespace yI
open PySem PySem.Spec PySem.Calls PyProof.Rows
section
variable {prog:Program}{w:World}{A:Around}{I:Addr}{fp wr:List Addr}{n:Nat}{P:Nat→Value→Prop}{St:Nat→Heap→Prop}
end
section
variable {prog:Program}{w:World}{A:Around}{E:Value→Shared→Prop}{s:Shared}{l:Addr}{xs:Array (Int×Tok)}{d:Value}
end
end yI
namespace L2
open PySem PySem.Spec PyProof.Rows
section
variable {X:Cx}
end
end L2
namespace L2
open PySem PySem.Spec
section
variable {X:Cx}
end
end L2
namespace L2
open PySem PySem.Spec
end L2
namespace L2
open PySem PySem.Spec PyProof.Rows
section
variable {K:PySem.W.Frag}{h:Heap}{mg:Str→Option Value}{x m q:Str}{st:Stmt}{ps:List Str}{f C HE:Addr}
theorem iz{N P:List Str}{sc:Scope}(a:sc.kind= .function:=by rfl)(b:sc.isCoroutine=false:=by rfl)(c:sc.isGenerator=false:=by rfl)(d:N.Nodup:=by decide+kernel)(e:N.take P.length=P:=by rfl)(f:∀x∈P,sc.names.lookup x=some .local∨sc.names.lookup x=some .cell:=by decide+kernel)(g:∀y∈sc.names,y.2≠ .free:=by decide+kernel):aI N P sc:=⟨a,b,c,d,e,f,g⟩
end
end L2
namespace L2
open PySem PySem.Spec PyProof.Rows PySem.W PySem.Calls
section
variable {prog:Program}{w:World}{κ:Type}[DecidableEq κ]{knd:KeyKind prog w κ}{A:Around}{E:Value→Shared→Prop}{s:Shared}{d it:Addr}{i ep:Nat}{ip:List (κ×Value)}
end
section
variable {X:Cx}
end
end L2
namespace L2
open PySem PySem.Spec PyProof.Rows
end L2
namespace L2
open PySem PySem.Spec
variable [jK]
end L2
namespace L2
open PySem PySem.Spec PyProof.Rows PySem.W
section
variable {X:Cx}
end
end L2
namespace L2
open PySem PySem.Spec PyProof.Rows
variable [jK]
section
variable {prog:Program}{w:World}{A:Around}{R:Result→Shared→Prop}{s:Shared}
end
section
variable {X:Cx}{elt tg iter:Expr}{ifs:List Expr}{scope:Scope}{pos:Pos}{N:List Str}{fr:List (Option Nat)}{cl:List (Str×Addr)}{wi:TI}{g:TG}{tt:TT}{te:TE}
variable {Wz:(St→XK)→TE}{ER:St→XK}
variable {tm py:Pos}
end
end L2
namespace L2
open PySem PySem.Spec PyProof.Rows
section
variable {X:Cx}{e o:Expr}{es:List Expr}{t:TA}{ta:TE}{x m:Str}{ps:List Str}{sp:Sp}{f C:Addr}{fd:FuncData}{k n:Nat}{p apos pos:Pos}
end
end L2
namespace L2
open PySem
end L2
namespace L2
open PySem PySem.Spec PyProof.Rows
section
variable {X:Cx}{o:Expr}{to:TE}{apos kn:Pos}
end
end L2
namespace L2
open PySem PySem.Spec PyProof.Rows
section
variable {X:Cx}
end
end L2
namespace PySem
section
variable {prog:Program}{w:World}{A:Around}{E:Value→Shared→Prop}{s:Shared}
end
namespace F
end F
section
variable {prog:Program}{w:World}{K:Type}[DecidableEq K]{knd:KeyKind prog w K}{A:Around}{E:Value→Shared→Prop}{s:Shared}
end
end PySem
namespace L2
open PySem PySem.Spec PyProof.Rows
end L2
namespace PySem.W
open PySem PySem.Calls PyProof.Rows
section
variable {prog:Program}{w:World}{A:Around}{E:Value→Shared→Prop}{s:Shared}{K:Frag}{env:Env}
end
end PySem.W
namespace L2
open PySem PySem.Spec PyProof.Rows
variable [jK]
section
variable {P:Program}{w:World}{K:PySem.W.Frag}{mg:Str→Option Value}{base:Heap}
end
end L2
namespace L2
open PySem PySem.Spec PyProof.Rows
variable [jK]
section
variable {X Y:Cx}{k:Nat}{f C:Addr}{fd:FuncData}{ps:List Str}{sp:Sp}{ER:St→XK}{x:Str}{p pos:Pos}{e:Expr}{es:List Expr}{t:TA}{A0:Around}{e':Addr}
end
section
variable {X:Cx}{pins:List (Addr×Obj)}{σ:St}{H:Hp}{s:Shared}{ER:St→XK}
end
instance (priority:=low) N6:jK:=⟨fun _=>True⟩
end L2
namespace L2
open PySem PySem.Spec PyProof.Rows
section
variable {X:Cx}{o:Expr}{to:TE}{apos kn:Pos}
end
end L2
namespace L2
open PySem PySem.Spec PyProof.Rows
section
variable {X:Cx}{o i:Expr}{pos:Pos}{td ty:TE}
end
section
variable {X:Cx}{o e:Expr}{es:List Expr}{pos:Pos}{te:TE}{t:TA}{E:XK}
end
section
variable [jK]{X:Cx}{o e:Expr}{es:List Expr}{pos:Pos}{te:TE}{t:TA}{ER:St→XK}
end
end L2
namespace yI
open PySem PySem.Spec PySem.Builtin PySem.Builtin.Str
end yI
namespace L2
open PySem PySem.Spec PyProof.Rows
end L2
namespace yI
open PySem PySem.Spec
section
variable {prog:Program}{w:World}{A:Around}{E:Value→Shared→Prop}{s:Shared}{it t l:Addr}{i k:Nat}{xs ys:Array Value}{x y a b:Value}
end
end yI
namespace yI
open PySem PySem.Spec
section
variable {prog:Program}{w:World}{A:Around}{E:Value→Shared→Prop}{s:Shared}{z TI TO i1 i2 t l:Addr}{k:Nat}{xs ys:Array Value}{x y a b:Value}
end
end yI
namespace L2
open PySem PySem.Spec PyProof.Rows
end L2
namespace L2
open PySem PySem.Spec PyProof.Rows
section
variable {X:Cx}{o e:Expr}{es:List Expr}{pos:Pos}{te:TE}{t:TA}{E:XK}{k:Nat}
end
section
variable [jK]{X:Cx}{o e:Expr}{es:List Expr}{pos:Pos}{te:TE}{t:TA}{ER:St→XK}{k:Nat}
end
section
variable {P:Program}{w:World}{K:PySem.W.Frag}{mg:Str→Option Value}{base:Heap}{k:Nat}{x:Str}{ps:List Str}{sp:Sp}{f:Addr}
end
section
variable {K:PySem.W.Frag}{g:TG}{tt:TT}{te:TE}
end
end L2
namespace L2
open PySem PySem.Spec PyProof.Rows
end L2
namespace L2
open PySem PySem.Spec PyProof.Rows
end L2
namespace L2
open PySem PySem.Spec PyProof.Rows PySem.W
def bO:Bool→Keyed→Array Keyed→Nat→Nat→Nat→StateT SortSt Sem (Option Nat):=sortPriv%PySem.Builtin.gallop
section
variable {prog:Program}{w:World}{A:Around}{E:Value→Shared→Prop}{κ:SortKind}{it:Array Keyed}{O:KeyOrd}{k:Nat→O.α}{n:Nat}{I:Shared→Prop}{s:Shared}{st:SortSt}
theorem qo{Q:Option Bool→SortSt→Shared→Prop}(hc:c8 O k n I (kas_cmp prog w A κ it)){i j:Nat}(hi:i<n)(hj:j<n)(hk:kindOf st=κ)(hI:I s)(q:∀s',I s'→Q (some (O.blt (k i) (k j))) st s'):
  kasC (model prog w) A E (lt' (kas_item it i) (kas_item it j)) Q st s:=by
 rw[lt'_eq]
 refine kasC_bind (kasC_get (kasC_bind (kasC_lift (wpAny_attempt (wpAny_mono (?_:kas_cmp prog w A (kindOf st) it i j (fun c s'=>Q (some c) st s') s) (fun c s' h=>kasC_pure h) fun _ _ z=>z.elim)))))
 rw[hk]
 exact hc i j _ s hi hj hI fun s' eO=>q s' eO
theorem Df(l:Bool)(y:Keyed)(t:Array Keyed)(b m h:Nat):bO l y t b m h=(do
  let N7 (i:Nat):StateT SortSt Sem (Option Bool):=do { let x←elem' t (b+i);if l then lt' x y else return (←lt' y x).map (!·) }
  let mut u:=0
  let mut o:=1
  let mut p:=0
  let mut r:=0
  let some c←N7 h|return none
  if c then
   let z:=m - h
   for _ in [0:m] do
    if o≥z then break
    let some d←N7 (h+o) |return none
    if !d then break
    u:=o
    o:=2*o+1
   p:=h+u+1
   r:=h+min o z
  else
   let z:=h+1
   for _ in [0:m] do
    if o≥z then break
    let some d←N7 (h - o) |return none
    if d then break
    u:=o
    o:=2*o+1
   p:=h+1 - min o z
   r:=h - u
  for _ in [0:m] do
   if p≥r then break
   let q:=p+(r - p) /2
   let some d←N7 q|return none
   if d then p:=q+1 else r:=q
  return some r):=rfl
theorem bb{σ β:Type}{M:Model}{f:Nat→β→StateT σ Sem (ForInStep β)}{a m:Nat}(Inv:Nat→β→σ→Shared→Prop){Q:β→σ→Shared→Prop}{b:β}{st:σ}{s:Shared}(h0:Inv (m - a) b st s)(hz:∀b st s,Inv 0 b st s→Q b st s)
  (hs:∀x j b st s,Inv (j+1) b st s→kasC M A E (f x b) (fun r aZ s'=>match r with| .done b'=>Q b' aZ s'| .yield b'=>Inv j b' aZ s') st s):kasC M A E (forIn [a:m] b f) Q st s:=by
 refine kasC_range ?_
 have go:∀(ls:List Nat) (b:β) (st:σ) (s:Shared),Inv ls.length b st s→kasC M A E (forIn ls b f) Q st s:=by
  intro ls
  induction ls with
  |nil=>intro b st s h;exact kasC_nil (hz b st s h)
  |cons x ls ih=>
   intro b st s h
   refine kasC_cons (wpAny_mono (hs x ls.length b st s h) (fun r s' h'=>?_) fun _ _ e=>e)
   obtain⟨r,aZ⟩:=r
   cases r with
   |done b'=>exact h'
   |yield b'=>exact ih b' aZ s' h'
 exact go _ b st s (by rw[List.length_range'];exact h0)
theorem bC{σ α:Type}{M:Model}{m:StateT σ Sem α}{Q Q':α→σ→Shared→Prop}{st:σ}{s:Shared}(h:kasC M A E m Q st s)(hq:∀a aZ s',Q a aZ s'→Q' a aZ s'):kasC M A E m Q' st s:=wpAny_mono h (fun r s' z=>hq r.1 r.2 s' z) fun _ _ e=>e
theorem mV{l:Bool}{x:Nat}{P:Array Nat}{b m h:Nat}{Q:Option Nat→SortSt→Shared→Prop}(B:Nat→Bool)(hh:h<m)
  (hB:∀i,i<m→∀s (Q':Option Bool→SortSt→Shared→Prop),I s→(∀s',I s'→Q' (some (B i)) st s')→kasC (model prog w) A E (do { let y←elem' (P.map (kas_item it)) (b+i);if l then lt' y (kas_item it x) else return (←lt' (kas_item it x) y).map (!·) }) Q' st s)
  (mono:∀i j,i≤j→j<m→B j=true→B i=true) (hI:I s) (q:∀r s',I s'→r≤m→(∀i,i<r→B i=true)→(∀i,r≤i→i<m→B i=false)→Q (some r) st s'):
  kasC (model prog w) A E (bO l (kas_item it x) (P.map (kas_item it)) b m h) Q st s:=by
 rw[Df]
 dsimp only
 have bin:∀(p r:Nat) (s:Shared) {R:Option (Option Nat)×Nat×Nat→SortSt→Shared→Prop} {body:Nat→Option (Option Nat)×Nat×Nat→StateT SortSt Sem (ForInStep (Option (Option Nat)×Nat×Nat))},I s→p≤r→r≤m→(p=0∨B (p - 1)=true)→(r=m∨B r=false)→
   (∀r s',I s'→r≤m→(r=0∨B (r - 1)=true)→(r=m∨B r=false)→R (none,r,r) st s')→
   (∀y p r (s:Shared) (R':ForInStep (Option (Option Nat)×Nat×Nat)→SortSt→Shared→Prop),p≥r→R' (.done (none,p,r)) st s→kasC (model prog w) A E (body y (none,p,r)) R' st s)→
   (∀y p r (s:Shared) (R':ForInStep (Option (Option Nat)×Nat×Nat)→SortSt→Shared→Prop),p<r→r≤m→I s→(∀s',I s'→R' (.yield (if B (p+(r - p) /2)=true then (none,p+(r - p) /2+1,r) else (none,p,p+(r - p) /2))) st s')→kasC (model prog w) A E (body y (none,p,r)) R' st s)→
   kasC (model prog w) A E (forIn [0:m] (none,p,r) body) R st s:=by
  intro p r s R body hI h1 h2 h3 h4 fin b1 b2
  refine bb (fun j c aZ s'=>∃p r,c=(none,p,r)∧aZ=st∧I s'∧p≤r∧r≤m∧r - p≤j∧(p=0∨B (p - 1)=true)∧(r=m∨B r=false)) ⟨p,r,rfl,rfl,hI,h1,h2,by omega,h3,h4⟩ ?_ ?_
  ·rintro c aZ s' ⟨p,r,rfl,rfl,i1,i2,i3,i4,i5,i6⟩
   have e:p=r:=by omega
   subst e
   exact fin p s' i1 i3 i5 i6
  ·rintro y j c aZ s' ⟨p,r,rfl,rfl,i1,i2,i3,i4,i5,i6⟩
   by_cases N8:p≥r
   ·refine b1 y p r s' _ N8 ?_
    have e:p=r:=by omega
    subst e
    exact fin p s' i1 i3 i5 i6
   ·refine b2 y p r s' _ (by omega) i3 i1 fun p7 HB=>?_
    cases e:B (p+(r - p) /2) with
    |true=>exact⟨_,_,rfl,rfl,HB,by omega,i3,by omega, .inr (by rw[Nat.add_sub_cancel];exact e),i6⟩
    |false=>exact⟨_,_,rfl,rfl,HB,by omega,by omega,by omega,i5, .inr e⟩
 have done:∀r s',I s'→r≤m→(r=0∨B (r - 1)=true)→(r=m∨B r=false)→Q (some r) st s':=fun r s' i1 i2 i3 i4=>q r s' i1 i2 (fun i hi=>i3.elim (fun z=>by omega) fun z=>mono i (r - 1) (by omega) (by omega) z) fun i hi hm=>i4.elim (fun z=>by omega) fun z=>by
  cases e:B i with
  |false=>rfl
  |true=>rw[mono r i hi hm e] at z;cases z
 refine kasC_bind (hB h hh s _ hI fun s1 oR=>?_)
 dsimp only
 have b1:∀(y p r:Nat) (s:Shared) (R':ForInStep (Option (Option Nat)×Nat×Nat)→SortSt→Shared→Prop),p≥r→R' (.done (none,p,r)) st s→kasC (model prog w) A E (if p≥r then pure (ForInStep.done (none,p,r)) else do
   let d←(do { let y←elem' (P.map (kas_item it)) (b+(p+(r - p) /2));if l then lt' y (kas_item it x) else return (←lt' (kas_item it x) y).map (!·) })
   match d with
   |some d=>if d=true then pure (ForInStep.yield (none,p+(r - p) /2+1,r)) else pure (ForInStep.yield (none,p,p+(r - p) /2))
   |_=>pure (ForInStep.done (some none,p,r))) R' st s:=fun y p r s R' N8 hR=>by
  rw[if_pos N8]
  exact kasC_pure hR
 have b2:∀(y p r:Nat) (s:Shared) (R':ForInStep (Option (Option Nat)×Nat×Nat)→SortSt→Shared→Prop),p<r→r≤m→I s→(∀s',I s'→R' (.yield (if B (p+(r - p) /2)=true then (none,p+(r - p) /2+1,r) else (none,p,p+(r - p) /2))) st s')→kasC (model prog w) A E (if p≥r then pure (ForInStep.done (none,p,r)) else do
   let d←(do { let y←elem' (P.map (kas_item it)) (b+(p+(r - p) /2));if l then lt' y (kas_item it x) else return (←lt' (kas_item it x) y).map (!·) })
   match d with
   |some d=>if d=true then pure (ForInStep.yield (none,p+(r - p) /2+1,r)) else pure (ForInStep.yield (none,p,p+(r - p) /2))
   |_=>pure (ForInStep.done (some none,p,r))) R' st s:=fun y p r s R' N8 hr eO hR=>by
  rw[if_neg (by omega)]
  refine kasC_bind (hB _ (by omega) s _ eO fun s2 d9=>?_)
  dsimp only
  have:=hR s2 d9
  cases e:B (p+(r - p) /2) with
  |true=>rw[e,if_pos rfl] at this;rw[if_pos rfl];exact kasC_pure this
  |false=>rw[e,if_neg (by simp)] at this;rw[if_neg (by simp)];exact kasC_pure this
 cases hb:B h with
 |true=>
  rw[if_pos rfl]
  refine kasC_bind (bC (Q:=fun c aZ s'=>∃u o,c=(none,u,o)∧aZ=st∧I s'∧u<o∧h+u<m∧B (h+u)=true∧(m - h≤o∨B (h+o)=false)) (bb (fun j c aZ s'=>∃u o,c=(none,u,o)∧aZ=st∧I s'∧u<o∧h+u<m∧B (h+u)=true∧m+1≤o+j) ⟨0,1,rfl,rfl,oR,by decide,hh,hb,by omega⟩ ?_ ?_) ?_)
  ·rintro c aZ s' ⟨u,o,rfl,rfl,i1,i2,i3,i4,i5⟩
   exact⟨u,o,rfl,rfl,i1,i2,i3,i4, .inl (by omega)⟩
  ·rintro y j c aZ s' ⟨u,o,rfl,rfl,i1,i2,i3,i4,i5⟩
   dsimp only
   by_cases ho:o≥m - h
   ·rw[if_pos ho]
    exact kasC_pure ⟨u,o,rfl,rfl,i1,i2,i3,i4, .inl ho⟩
   ·rw[if_neg ho]
    refine kasC_bind (hB _ (by omega) s' _ i1 fun s2 d9=>?_)
    dsimp only
    cases e:B (h+o) with
    |true=>rw[if_neg (by simp)];exact kasC_pure ⟨_,_,rfl,rfl,d9,by omega,by omega,e,by omega⟩
    |false=>rw[if_pos (show (!false)=true from rfl)];exact kasC_pure ⟨u,o,rfl,rfl,d9,i2,i3,i4, .inr e⟩
  ·rintro c aZ s' ⟨u,o,rfl,rfl,i1,i2,i3,i4,i5⟩
   dsimp only
   refine kasC_bind (bin _ _ s' i1 (by omega) (by omega) (.inr (by rw[Nat.add_sub_cancel];exact i4)) ?_ (fun r p7 a1 a2 a3 a4=>kasC_pure (done r p7 a1 a2 a3 a4)) b1 b2)
   rcases i5 with z|z
   ·exact .inl (by omega)
   ·by_cases hm:o≥m - h
    ·exact .inl (by omega)
    ·rw[Nat.min_eq_left (by omega)]
     exact .inr z
 |false=>
  rw[if_neg (by simp)]
  refine kasC_bind (bC (Q:=fun c aZ s'=>∃u o,c=(none,u,o)∧aZ=st∧I s'∧u<o∧u≤h∧B (h - u)=false∧(h+1≤o∨o≤h∧B (h - o)=true)) (bb (fun j c aZ s'=>∃u o,c=(none,u,o)∧aZ=st∧I s'∧u<o∧u≤h∧B (h - u)=false∧m+1≤o+j) ⟨0,1,rfl,rfl,oR,by decide,Nat.zero_le _,hb,by omega⟩ ?_ ?_) ?_)
  ·rintro c aZ s' ⟨u,o,rfl,rfl,i1,i2,i3,i4,i5⟩
   exact⟨u,o,rfl,rfl,i1,i2,i3,i4, .inl (by omega)⟩
  ·rintro y j c aZ s' ⟨u,o,rfl,rfl,i1,i2,i3,i4,i5⟩
   dsimp only
   by_cases ho:o≥h+1
   ·rw[if_pos ho]
    exact kasC_pure ⟨u,o,rfl,rfl,i1,i2,i3,i4, .inl ho⟩
   ·rw[if_neg ho]
    refine kasC_bind (hB _ (by omega) s' _ i1 fun s2 d9=>?_)
    dsimp only
    cases e:B (h - o) with
    |true=>rw[if_pos rfl];exact kasC_pure ⟨u,o,rfl,rfl,d9,i2,i3,i4, .inr ⟨by omega,e⟩⟩
    |false=>rw[if_neg (by simp)];exact kasC_pure ⟨_,_,rfl,rfl,d9,by omega,by omega,e,by omega⟩
  ·rintro c aZ s' ⟨u,o,rfl,rfl,i1,i2,i3,i4,i5⟩
   dsimp only
   refine kasC_bind (bin _ _ s' i1 (by omega) (by omega) ?_ (.inr i4) (fun r p7 a1 a2 a3 a4=>kasC_pure (done r p7 a1 a2 a3 a4)) b1 b2)
   rcases i5 with z| ⟨z1,z2⟩
   ·exact .inl (by omega)
   ·refine .inr ?_
    rw[Nat.min_eq_left (by omega),show h+1 - o - 1=h - o by omega]
    exact z2
end
end L2
namespace L2
open PySem PySem.Spec PyProof.Rows PySem.W
def iA:Array Keyed→Array Keyed→StateT SortSt Sem (Array Keyed):=sortPriv%PySem.Builtin.mergeLo
def iB:Array Keyed→Array Keyed→StateT SortSt Sem (Array Keyed):=sortPriv%PySem.Builtin.mergeHi
def eP(g:Nat):StateT SortSt Sem Unit:=modify fun s=>SortSt.mk' (kindOf s) (arrOf s) (pendingOf s) g (failedOf s)
section
variable {prog:Program}{w:World}{A:Around}{E:Value→Shared→Prop}{κ:SortKind}{it:Array Keyed}{O:KeyOrd}{k:Nat→O.α}{n:Nat}{I:Shared→Prop}{s:Shared}{st:SortSt}
abbrev Ar:=Array Keyed
abbrev SM:=StateT SortSt Sem
def xT(a b o:Ar)(i j:Nat):Ar:=o++a.extract i a.size++b.extract j b.size
def F7(a b o:Ar)(i j:Nat):Ar:=o++b.extract j b.size++a.extract i a.size
abbrev C1:=Option Ar×Ar×Nat×Nat×Nat×Nat
abbrev C2:=Option Ar×Ar×Nat×Nat×Nat×Nat×Nat
abbrev C3:=Option Ar×Ar×Nat×Nat×Nat
def lo1(a b:Ar)(g:Nat)(c:C1):SM (ForInStep C1):=do
 let x←elem' b c.2.2.2.1
 let y←elem' a c.2.2.1
 match←lt' x y with
 |some d=>
  if d=true then do
   let e←elem' b c.2.2.2.1
   if (c.2.2.2.1+1==b.size)=true then pure (.done (some (xT a b (c.2.1.push e) c.2.2.1 (c.2.2.2.1+1)),c.2.1.push e,c.2.2.1,c.2.2.2.1+1,0,c.2.2.2.2.2+1))
   else if c.2.2.2.2.2+1≥g then pure (.done (none,c.2.1.push e,c.2.2.1,c.2.2.2.1+1,0,c.2.2.2.2.2+1))
   else pure (.yield (none,c.2.1.push e,c.2.2.1,c.2.2.2.1+1,0,c.2.2.2.2.2+1))
  else do
   let e←elem' a c.2.2.1
   if (c.2.2.1+1+1==a.size)=true then pure (.done (some (F7 a b (c.2.1.push e) (c.2.2.1+1) c.2.2.2.1),c.2.1.push e,c.2.2.1+1,c.2.2.2.1,c.2.2.2.2.1+1,0))
   else if c.2.2.2.2.1+1≥g then pure (.done (none,c.2.1.push e,c.2.2.1+1,c.2.2.2.1,c.2.2.2.2.1+1,0))
   else pure (.yield (none,c.2.1.push e,c.2.2.1+1,c.2.2.2.1,c.2.2.2.2.1+1,0))
 |_=>pure (.done (some (xT a b c.2.1 c.2.2.1 c.2.2.2.1),c.2.1,c.2.2.1,c.2.2.2.1,c.2.2.2.2.1,c.2.2.2.2.2))
def N9(a b o:Ar)(i j g u v:Nat):SM (ForInStep C2):=do
 let e←elem' a i
 if (i+1+1==a.size)=true then pure (.done (some (F7 a b (o.push e) (i+1) j),o.push e,i+1,j,g,u,v))
 else if (decide (u<7)&&decide (v<7))=true then pure (.done (none,o.push e,i+1,j,g,u,v))
 else pure (.yield (none,o.push e,i+1,j,g,u,v))
def N'(a b o:Ar)(i j g u v:Nat):SM (ForInStep C2):=do
 let e←elem' b j
 if (j+1==b.size)=true then pure (.done (some (xT a b (o.push e) i (j+1)),o.push e,i,j+1,g,u,v))
 else do
  let y←elem' a i
  match←bO true y b (j+1) (b.size - (j+1)) 0 with
  |some c=>
   if c>0 then
    if (j+1+c==b.size)=true then pure (.done (some (xT a b (o.push e++b.extract (j+1) (j+1+c)) i (j+1+c)),o.push e++b.extract (j+1) (j+1+c),i,j+1+c,g,u,c))
    else N9 a b (o.push e++b.extract (j+1) (j+1+c)) i (j+1+c) g u c
   else N9 a b (o.push e) i (j+1) g u c
  |_=>pure (.done (some (xT a b (o.push e) i (j+1)),o.push e,i,j+1,g,u,v))
def HC(a b o:Ar)(i j g u v:Nat):SM (ForInStep C2):=do
 eP g
 let x←elem' b j
 match←bO false x a i (a.size - i) 0 with
 |some c=>
  if c>0 then
   if (i+c+1==a.size)=true then pure (.done (some (F7 a b (o++a.extract i (i+c)) (i+c) j),o++a.extract i (i+c),i+c,j,g,c,v))
   else if (i+c==a.size)=true then pure (.done (some (xT a b (o++a.extract i (i+c)) (i+c) j),o++a.extract i (i+c),i+c,j,g,c,v))
   else N' a b (o++a.extract i (i+c)) (i+c) j g c v
  else N' a b o i j g c v
 |_=>pure (.done (some (xT a b o i j),o,i,j,g,u,v))
def PZ(a b:Ar)(c:C2):SM (ForInStep C2):=if c.2.2.2.2.1>1 then HC a b c.2.1 c.2.2.1 c.2.2.2.1 (c.2.2.2.2.1 - 1) c.2.2.2.2.2.1 c.2.2.2.2.2.2 else HC a b c.2.1 c.2.2.1 c.2.2.2.1 c.2.2.2.2.1 c.2.2.2.2.2.1 c.2.2.2.2.2.2
def oC{α β:Type}(x:Option α)(f:α→β)(g:β):β:=Option.casesOn x g f
def P0(a b:Ar)(c:C3):SM (ForInStep C3):=do
 let d←forIn [0:a.size+b.size] ((none,c.2.1,c.2.2.1,c.2.2.2.1,0,0):C1) fun _=>lo1 a b c.2.2.2.2
 oC d.1 (fun r=>pure (.done (some r,d.2.1,d.2.2.1,d.2.2.2.1,c.2.2.2.2))) do
  rule "list.sort.gallop"
  let f←forIn [0:a.size+b.size] ((none,d.2.1,d.2.2.1,d.2.2.2.1,c.2.2.2.2+1,d.2.2.2.2.1,d.2.2.2.2.2):C2) fun _=>PZ a b
  oC f.1 (fun r=>pure (.done (some r,f.2.1,f.2.2.1,f.2.2.2.1,f.2.2.2.2.1))) do
   eP (f.2.2.2.2.1+1)
   pure (.yield (none,f.2.1,f.2.2.1,f.2.2.2.1,f.2.2.2.2.1+1))
theorem yJ(a b:Array Keyed):iA a b=(do
  rule "list.sort.merge-lo"
  let tt:=a.size+b.size
  let dn (o:Array Keyed) (i j:Nat):=o++a.extract i a.size++b.extract j b.size
  let la (o:Array Keyed) (i j:Nat):=o++b.extract j b.size++a.extract i a.size
  let mut o:Array Keyed:=#[←elem' b 0]
  let mut i:=0
  let mut j:=1
  if j==b.size then return dn o i j
  if i+1==a.size then return la o i j
  let mut g:=gallopOf (←get)
  for _ in [0:tt] do
   let mut u:=0
   let mut v:=0
   for _ in [0:tt] do
    let some c←lt' (←elem' b j) (←elem' a i) |return dn o i j
    if c then
     o:=o.push (←elem' b j)
     j:=j+1
     v:=v+1
     u:=0
     if j==b.size then return dn o i j
     if v≥g then break
    else
     o:=o.push (←elem' a i)
     i:=i+1
     u:=u+1
     v:=0
     if i+1==a.size then return la o i j
     if u≥g then break
   rule "list.sort.gallop"
   g:=g+1
   for _ in [0:tt] do
    if g>1 then g:=g - 1
    eP g
    let some c←bO false (←elem' b j) a i (a.size - i) 0|return dn o i j
    u:=c
    if c>0 then
     o:=o++a.extract i (i+c)
     i:=i+c
     if i+1==a.size then return la o i j
     if i==a.size then return dn o i j
    o:=o.push (←elem' b j)
    j:=j+1
    if j==b.size then return dn o i j
    let some c←bO true (←elem' a i) b j (b.size - j) 0|return dn o i j
    v:=c
    if c>0 then
     o:=o++b.extract j (j+c)
     j:=j+c
     if j==b.size then return dn o i j
    o:=o.push (←elem' a i)
    i:=i+1
    if i+1==a.size then return la o i j
    if u<7&&v<7 then break
   g:=g+1
   eP g
  unsupported "internal:list.sort.merge-bound"):=rfl
theorem Dg(a b:Array Keyed):iA a b=(do
  rule "list.sort.merge-lo"
  let e←elem' b 0
  if (1==b.size)=true then pure (xT a b #[e] 0 1)
  else if (0+1==a.size)=true then pure (F7 a b #[e] 0 1)
  else do
   let s←get
   let c←forIn [0:a.size+b.size] ((none,#[e],0,1,gallopOf s):C3) fun _=>P0 a b
   oC c.1 (fun r=>pure r) (unsupported "internal:list.sort.merge-bound")):=by
 rw[yJ]
 dsimp only
 congr 1
 funext _
 congr 1
 funext e
 congr 1
 congr 1
 congr 1
 funext s
 congr 1
 ·congr 1
  funext x c
  unfold P0
  congr 1
  funext d
  obtain⟨r,o,i,j,u,v⟩:=d
  cases r with
  |some r=>rfl
  |none=>
   dsimp only [oC]
   congr 1
   funext _
   congr 1
   funext f
   obtain⟨r,o,i,j,g,u,v⟩:=f
   cases r<;>rfl
 ·funext c
  obtain⟨r,o⟩:=c
  cases r<;>rfl
end
end L2
namespace L2
open PySem PySem.Spec PyProof.Rows PySem.W
section
variable {O:KeyOrd}{k:Nat→O.α}
def le(k:Nat→O.α)(x y:Nat):Prop:=O.kle (k x) (k y)
abbrev eQ(k:Nat→O.α)(l:List Nat):Prop:=l.Pairwise (le k)
theorem le.trans{x y z:Nat}(h:le k x y)(h':le k y z):le k x z:=KeyOrd.kle_trans h h'
theorem le_of_lt{x y:Nat}(h:O.blt (k x) (k y)=true):le k x y:=KeyOrd.kle_of_klt h
theorem bJ{x y:Nat}(h:O.blt (k y) (k x)=false):le k x y:=h
theorem jV{l:List Nat}{i:Nat}(h:i<l.length):l.drop i=l.getD i 0::l.drop (i+1):=by
 rw[List.drop_eq_getElem_cons h]
 congr 1
 simp [List.getD,h]
theorem d4{l:List Nat}(hs:eQ k l){i:Nat}(h:i<l.length):∀y∈l.drop i,le k (l.getD i 0) y:=by
 have:eQ k (l.drop i):=hs.drop
 rw[jV h] at this ⊢
 intro y hy
 rcases List.mem_cons.mp hy with rfl|hy
 ·exact KeyOrd.kle_refl _
 ·exact(List.pairwise_cons.mp this).1 y hy
structure MI(k:Nat→O.α)(la lb ro:List Nat)(i j:Nat):Prop where
 perm:(ro++(la.drop i++lb.drop j)).Perm (la++lb)
 yK:eQ k ro
 ra:∀x∈ro,∀y∈la.drop i,le k x y
 rb:∀x∈ro,∀y∈lb.drop j,le k x y
theorem MI.vB{la lb ro:List Nat}{i j:Nat}(h:MI k la lb ro i j)(sa:eQ k la)(hi:i<la.length)(hb:∀y∈lb.drop j,le k (la.getD i 0) y):MI k la lb (ro++[la.getD i 0]) (i+1) j:=by
 have hd:=jV hi
 have ia:=d4 sa hi
 refine⟨?_,List.pairwise_append.mpr ⟨h.yK,List.pairwise_singleton _ _,fun x hx y hy=>?_⟩,fun x hx y hy=>?_,fun x hx y hy=>?_⟩
 ·have:=h.perm
  rw[hd] at this
  rw[List.append_assoc]
  exact this
 ·rw[List.mem_singleton.mp hy]
  exact h.ra x hx _ (by rw[hd];exact List.mem_cons_self ..)
 ·have qp:y∈la.drop i:=by rw[hd];exact List.mem_cons_of_mem _ hy
  rcases List.mem_append.mp hx with z|z
  ·exact h.ra x z y qp
  ·rw[List.mem_singleton.mp z];exact ia y qp
 ·rcases List.mem_append.mp hx with z|z
  ·exact h.rb x z y hy
  ·rw[List.mem_singleton.mp z];exact hb y hy
theorem MI.rF{la lb ro:List Nat}{i j:Nat}(h:MI k la lb ro i j)(sb:eQ k lb)(hj:j<lb.length)(ha:∀y∈la.drop i,le k (lb.getD j 0) y):MI k la lb (ro++[lb.getD j 0]) i (j+1):=by
 have hd:=jV hj
 have ib:=d4 sb hj
 refine⟨?_,List.pairwise_append.mpr ⟨h.yK,List.pairwise_singleton _ _,fun x hx y hy=>?_⟩,fun x hx y hy=>?_,fun x hx y hy=>?_⟩
 ·have:=h.perm
  rw[hd] at this
  refine List.Perm.trans ?_ this
  rw[List.append_assoc]
  exact List.Perm.append_left _ (show (lb.getD j 0::(la.drop i++lb.drop (j+1))).Perm _ from List.perm_middle.symm)
 ·rw[List.mem_singleton.mp hy]
  exact h.rb x hx _ (by rw[hd];exact List.mem_cons_self ..)
 ·rcases List.mem_append.mp hx with z|z
  ·exact h.ra x z y hy
  ·rw[List.mem_singleton.mp z];exact ha y hy
 ·have qp:y∈lb.drop j:=by rw[hd];exact List.mem_cons_of_mem _ hy
  rcases List.mem_append.mp hx with z|z
  ·exact h.rb x z y qp
  ·rw[List.mem_singleton.mp z];exact ib y qp
theorem iC{l:List Nat}{i c:Nat}(h:i+c<l.length):(l.drop i).take (c+1)=(l.drop i).take c++[l.getD (i+c) 0]:=by
 rw[List.take_succ,List.getElem?_drop,List.getElem?_eq_getElem h]
 simp [List.getD,h]
theorem MI.vC{la lb ro:List Nat}{i j:Nat}(h:MI k la lb ro i j)(sa:eQ k la):∀c,i+c≤la.length→(∀t,t<c→∀y∈lb.drop j,le k (la.getD (i+t) 0) y)→MI k la lb (ro++(la.drop i).take c) (i+c) j
 |0,_,_=>by rw[List.take_zero,List.append_nil];exact h
 |c+1,hc,hb=>by
  have ih:=MI.vC h sa c (by omega) fun t ht=>hb t (by omega)
  rw[iC (by omega),←List.append_assoc]
  exact ih.vB sa (by omega) (hb c (by omega))
theorem MI.vD{la lb ro:List Nat}{i j:Nat}(h:MI k la lb ro i j)(sb:eQ k lb):∀c,j+c≤lb.length→(∀t,t<c→∀y∈la.drop i,le k (lb.getD (j+t) 0) y)→MI k la lb (ro++(lb.drop j).take c) i (j+c)
 |0,_,_=>by rw[List.take_zero,List.append_nil];exact h
 |c+1,hc,ha=>by
  have ih:=MI.vD h sb c (by omega) fun t ht=>ha t (by omega)
  rw[iC (by omega),←List.append_assoc]
  exact ih.rF sb (by omega) (ha c (by omega))
def pM(k:Nat→O.α)(la lb r:List Nat):Prop:=r.Perm (la++lb)∧eQ k r
theorem MI.dn{la lb ro:List Nat}{i j:Nat}(h:MI k la lb ro i j)(sa:eQ k la)(sb:eQ k lb)(e:lb.length≤j∨la.length≤i):pM k la lb (ro++la.drop i++lb.drop j):=by
 refine⟨by rw[List.append_assoc];exact h.perm,?_⟩
 rw[List.append_assoc]
 refine List.pairwise_append.mpr ⟨h.yK,List.pairwise_append.mpr ⟨sa.drop,sb.drop,fun x hx y hy=>?_⟩,fun x hx y hy=>?_⟩
 ·rcases e with e|e
  ·rw[List.drop_eq_nil_of_le e] at hy;cases hy
  ·rw[List.drop_eq_nil_of_le e] at hx;cases hx
 ·rcases List.mem_append.mp hy with z|z
  ·exact h.ra x hx y z
  ·exact h.rb x hx y z
theorem MI.la{la lb ro:List Nat}{i j:Nat}(h:MI k la lb ro i j)(sa:eQ k la)(sb:eQ k lb)(e:∀y∈lb.drop j,∀x∈la.drop i,le k y x):pM k la lb (ro++lb.drop j++la.drop i):=by
 refine⟨by rw[List.append_assoc];exact(List.Perm.append_left _ List.perm_append_comm).trans h.perm,?_⟩
 rw[List.append_assoc]
 refine List.pairwise_append.mpr ⟨h.yK,List.pairwise_append.mpr ⟨sb.drop,sa.drop,e⟩,fun x hx y hy=>?_⟩
 rcases List.mem_append.mp hy with z|z
 ·exact h.rb x hx y z
 ·exact h.ra x hx y z
end
section
variable {it:Array Keyed}
def ar(it:Array Keyed)(l:List Nat):Ar:=(l.map (kas_item it)).toArray
theorem aT(l:List Nat):(ar it l).size=l.length:=by simp [ar]
theorem d5(l m:List Nat):ar it l++ar it m=ar it (l++m):=by simp [ar]
theorem iD(l:List Nat)(x:Nat):(ar it l).push (kas_item it x)=ar it (l++[x]):=by simp [ar]
theorem gg(l:List Nat)(i j:Nat):(ar it l).extract i j=ar it ((l.drop i).take (j - i)):=by
 apply Array.toList_inj.mp
 simp [ar,List.extract_eq_drop_take,List.map_take,List.map_drop]
theorem jW(l:List Nat)(i:Nat):(ar it l).extract i (ar it l).size=ar it (l.drop i):=by
 rw[gg,aT,List.take_of_length_le (by rw[List.length_drop];exact Nat.le_refl _)]
theorem kF(la lb ro:List Nat)(i j:Nat):xT (ar it la) (ar it lb) (ar it ro) i j=ar it (ro++la.drop i++lb.drop j):=by
 unfold xT
 rw[jW,jW,d5,d5]
theorem mW(la lb ro:List Nat)(i j:Nat):F7 (ar it la) (ar it lb) (ar it ro) i j=ar it (ro++lb.drop j++la.drop i):=by
 unfold F7
 rw[jW,jW,d5,d5]
end
section
variable {prog:Program}{w:World}{A:Around}{E:Value→Shared→Prop}{κ:SortKind}{it:Array Keyed}{O:KeyOrd}{k:Nat→O.α}{n:Nat}{I:Shared→Prop}{s:Shared}{st:SortSt}
theorem el{l:List Nat}{i:Nat}{Q:Keyed→SortSt→Shared→Prop}(hi:i<l.length)(q:Q (kas_item it (l.getD i 0)) st s):kasC (model prog w) A E (elem' (ar it l) i) Q st s:=by
 rw[elem'_eq]
 have e:(ar it l)[i]? =some (kas_item it (l.getD i 0)):=by
  simp [ar,List.getD,hi]
 rw[e]
 exact kasC_pure q
theorem cD{l:List Nat}(hl:∀x∈l,x<n){i:Nat}(hi:i<l.length):l.getD i 0<n:=hl _ (by simp [List.getD,hi])
theorem cM(l:List Nat):ar it l=l.toArray.map (kas_item it):=by simp [ar]
theorem HD(hc:c8 O k n I (kas_cmp prog w A κ it)){l:List Nat}{x b m h:Nat}{Q:Option Nat→SortSt→Shared→Prop}(hk:kindOf st=κ)(hl:∀y∈l,y<n)(hx:x<n)(sl:eQ k l)(hb:b+m≤l.length)(hh:h<m)(hI:I s)
  (q:∀c s',I s'→c≤m→(∀t,t<c→le k (l.getD (b+t) 0) x)→(∀t,c≤t→t<m→O.blt (k x) (k (l.getD (b+t) 0))=true)→Q (some c) st s'):kasC (model prog w) A E (bO false (kas_item it x) (ar it l) b m h) Q st s:=by
 rw[cM]
 refine mV (I:=I) (fun t=>!O.blt (k x) (k (l.getD (b+t) 0))) hh (fun i hi s1 Q' oR q'=>?_) (fun i j gQ hj e=>?_) hI fun c s' eO lC h1 h2=>q c s' eO lC (fun t ht=>?_) fun t ht hm=>?_
 ·rw[←cM]
  refine kasC_bind (el (by omega) ?_)
  rw[if_neg (by simp)]
  exact kasC_bind (qo hc hx (cD hl (by omega)) hk oR fun s2 d9=>kasC_pure (q' s2 d9))
 ·simp only [Bool.not_eq_true'] at e ⊢
  have hle:le k (l.getD (b+i) 0) (l.getD (b+j) 0):=d4 sl (by omega) _ (by
   rw[List.mem_iff_getElem?]
   exact⟨j - i,by rw[List.getElem?_drop,show b+i+(j - i)=b+j by omega];simp [List.getD,show b+j<l.length by omega]⟩)
  exact le.trans hle (bJ e)
 ·have:=h1 t ht
  simp only [Bool.not_eq_true'] at this
  exact this
 ·have:=h2 t ht hm
  simpa using this
theorem HF(hc:c8 O k n I (kas_cmp prog w A κ it)){l:List Nat}{x b m h:Nat}{Q:Option Nat→SortSt→Shared→Prop}(hk:kindOf st=κ)(hl:∀y∈l,y<n)(hx:x<n)(sl:eQ k l)(hb:b+m≤l.length)(hh:h<m)(hI:I s)
  (q:∀c s',I s'→c≤m→(∀t,t<c→O.blt (k (l.getD (b+t) 0)) (k x)=true)→(∀t,c≤t→t<m→le k x (l.getD (b+t) 0))→Q (some c) st s'):kasC (model prog w) A E (bO true (kas_item it x) (ar it l) b m h) Q st s:=by
 rw[cM]
 refine mV (I:=I) (fun t=>O.blt (k (l.getD (b+t) 0)) (k x)) hh (fun i hi s1 Q' oR q'=>?_) (fun i j gQ hj e=>?_) hI fun c s' eO lC h1 h2=>q c s' eO lC h1 h2
 ·rw[←cM]
  refine kasC_bind (el (by omega) ?_)
  rw[if_pos rfl]
  exact qo hc (cD hl (by omega)) hx hk oR q'
 ·have hle:le k (l.getD (b+i) 0) (l.getD (b+j) 0):=d4 sl (by omega) _ (by
   rw[List.mem_iff_getElem?]
   exact⟨j - i,by rw[List.getElem?_drop,show b+i+(j - i)=b+j by omega];simp [List.getD,show b+j<l.length by omega]⟩)
  cases e2:O.blt (k (l.getD (b+i) 0)) (k x) with
  |true=>rfl
  |false=>
   have:le k x (l.getD (b+j) 0):=le.trans (bJ e2) hle
   have this:O.blt (k (l.getD (b+j) 0)) (k x)=false:=this
   rw[this] at e
   cases e
end
end L2
namespace L2
open PySem PySem.Spec PyProof.Rows PySem.W
structure MH{O:KeyOrd}(k:Nat→O.α)(n:Nat)(la lb:List Nat):Prop where
 sa:eQ k la
 sb:eQ k lb
 na:∀x∈la,x<n
 nb:∀x∈lb,x<n
section
variable {prog:Program}{w:World}{A:Around}{E:Value→Shared→Prop}{κ:SortKind}{it:Array Keyed}{O:KeyOrd}{k:Nat→O.α}{n:Nat}{I:Shared→Prop}{s:Shared}{st:SortSt}{la lb:List Nat}
theorem eT{a b:Nat}(h:a=b):(a==b)=true:=by simp [h]
theorem eU{a b:Nat}(h:a≠b):¬(a==b)=true:=by simp [h]
theorem Dh(hc:c8 O k n I (kas_cmp prog w A κ it))(hk:kindOf st=κ)(M:MH k n la lb)(cI:∀y∈lb,∀x∈la.drop (la.length - 1),le k y x){ro:List Nat}{i j g:Nat}(hI:I s)(h:MI k la lb ro i j)(hi:i+1<la.length)(hj:j<lb.length):
  kasC (model prog w) A E (forIn [0:(ar it la).size+(ar it lb).size] ((none,ar it ro,i,j,0,0):C1) fun _=>lo1 (ar it la) (ar it lb) g)
   (fun c aZ s'=>aZ=st∧I s'∧((∃r c',c=(some (ar it r),c')∧pM k la lb r)∨∃ro i' j' u v,c=(none,ar it ro,i',j',u,v)∧MI k la lb ro i' j'∧i'+1<la.length∧j'<lb.length∧(la.length - i')+(lb.length - j') < (la.length - i)+(lb.length - j))) st s:=by
 refine bb (fun m c aZ s'=>aZ=st∧I s'∧∃ro i' j' u v,c=(none,ar it ro,i',j',u,v)∧MI k la lb ro i' j'∧i'+1<la.length∧j'<lb.length∧(la.length - i')+(lb.length - j')≤m∧(la.length - i')+(lb.length - j')≤(la.length - i)+(lb.length - j)) ⟨rfl,hI,ro,i,j,0,0,rfl,h,hi,hj,by rw[aT,aT];omega,by omega⟩ ?_ ?_
 ·rintro c aZ s' ⟨_,_,ro,i,j,u,v,_,_,_,_,_,_⟩
  omega
 ·rintro x m c aZ s' ⟨rfl,i1,ro,i',j',u,v,rfl,i2,i3,i4,i5,i6⟩
  unfold lo1
  dsimp only
  refine kasC_bind (el (by omega) (kasC_bind (el (by omega) (kasC_bind (qo hc (cD M.nb (by omega)) (cD M.na (by omega)) hk i1 fun s2 d9=>?_)))))
  dsimp only
  cases e:O.blt (k (lb.getD j' 0)) (k (la.getD i' 0)) with
  |true=>
   rw[if_pos rfl]
   refine kasC_bind (el (by omega) ?_)
   rw[iD]
   have h':=i2.rF M.sb i4 fun y hy=>le.trans (le_of_lt e) (d4 M.sa (by omega) y hy)
   by_cases HG:j'+1=lb.length
   ·rw[if_pos (eT (by rw[aT];exact HG)),kF]
    exact kasC_pure ⟨rfl,d9, .inl ⟨_,_,rfl,h'.dn M.sa M.sb (.inl (by omega))⟩⟩
   ·rw[if_neg (eU (by rw[aT];exact HG))]
    by_cases hg:v+1≥g
    ·rw[if_pos hg]
     exact kasC_pure ⟨rfl,d9, .inr ⟨_,_,_,_,_,rfl,h',i3,by omega,by omega⟩⟩
    ·rw[if_neg hg]
     exact kasC_pure ⟨rfl,d9,_,_,_,_,_,rfl,h',i3,by omega,by omega,by omega⟩
  |false=>
   rw[if_neg (by simp)]
   refine kasC_bind (el (by omega) ?_)
   rw[iD]
   have h':=i2.vB M.sa (by omega) fun y hy=>le.trans (bJ e) (d4 M.sb i4 y hy)
   by_cases oO:i'+1+1=la.length
   ·rw[if_pos (eT (by rw[aT];exact oO)),mW]
    exact kasC_pure ⟨rfl,d9, .inl ⟨_,_,rfl,h'.la M.sa M.sb fun y hy x hx=>cI y (List.mem_of_mem_drop hy) x (by rw[show la.length - 1=i'+1 by omega];exact hx)⟩⟩
   ·rw[if_neg (eU (by rw[aT];exact oO))]
    by_cases hg:u+1≥g
    ·rw[if_pos hg]
     exact kasC_pure ⟨rfl,d9, .inr ⟨_,_,_,_,_,rfl,h',by omega,i4,by omega⟩⟩
    ·rw[if_neg hg]
     exact kasC_pure ⟨rfl,d9,_,_,_,_,_,rfl,h',by omega,i4,by omega,by omega⟩
def G2(it:Array Keyed)(k:Nat→O.α)(la lb:List Nat)(rem:Nat)(r:ForInStep C2):Prop:=(∃r' c',r= .done (some (ar it r'),c')∧pM k la lb r')∨∃ro i j g u v,(r= .done (none,ar it ro,i,j,g,u,v)∨r= .yield (none,ar it ro,i,j,g,u,v))∧MI k la lb ro i j∧i+1<la.length∧j<lb.length∧(la.length - i)+(lb.length - j) <rem
theorem vE(M:MH k n la lb)(cI:∀y∈lb,∀x∈la.drop (la.length - 1),le k y x){ro:List Nat}{i j g u v rem:Nat}(hI:I s)(h:MI k la lb ro i j)(hi:i+1<la.length)(hj:j<lb.length)(hb:∀y∈lb.drop j,le k (la.getD i 0) y)(hr:(la.length - i)+(lb.length - j)≤rem):
  kasC (model prog w) A E (N9 (ar it la) (ar it lb) (ar it ro) i j g u v) (fun r aZ s'=>aZ=st∧I s'∧G2 it k la lb rem r) st s:=by
 unfold N9
 refine kasC_bind (el (by omega) ?_)
 rw[iD]
 have h':=h.vB M.sa (by omega) hb
 by_cases oO:i+1+1=la.length
 ·rw[if_pos (eT (by rw[aT];exact oO)),mW]
  exact kasC_pure ⟨rfl,hI, .inl ⟨_,_,rfl,h'.la M.sa M.sb fun y hy x hx=>cI y (List.mem_of_mem_drop hy) x (by rw[show la.length - 1=i+1 by omega];exact hx)⟩⟩
 ·rw[if_neg (eU (by rw[aT];exact oO))]
  split
  ·exact kasC_pure ⟨rfl,hI, .inr ⟨_,_,_,_,_,_, .inl rfl,h',by omega,hj,by omega⟩⟩
  ·exact kasC_pure ⟨rfl,hI, .inr ⟨_,_,_,_,_,_, .inr rfl,h',by omega,hj,by omega⟩⟩
theorem jX{l:List Nat}{i t:Nat}(h:i+t<l.length)(sl:eQ k l):∀y∈l.drop (i+t),le k (l.getD (i+t) 0) y:=d4 sl h
theorem vF(hc:c8 O k n I (kas_cmp prog w A κ it))(hk:kindOf st=κ)(M:MH k n la lb)(cI:∀y∈lb,∀x∈la.drop (la.length - 1),le k y x){ro:List Nat}{i j g u v rem:Nat}(hI:I s)(h:MI k la lb ro i j)(hi:i+1<la.length)(hj:j<lb.length)(ha:∀y∈la.drop i,le k (lb.getD j 0) y)(hr:(la.length - i)+(lb.length - j)≤rem):
  kasC (model prog w) A E (N' (ar it la) (ar it lb) (ar it ro) i j g u v) (fun r aZ s'=>aZ=st∧I s'∧G2 it k la lb rem r) st s:=by
 unfold N'
 refine kasC_bind (el (by omega) ?_)
 rw[iD]
 have h':=h.rF M.sb hj ha
 by_cases HG:j+1=lb.length
 ·rw[if_pos (eT (by rw[aT];exact HG)),kF]
  exact kasC_pure ⟨rfl,hI, .inl ⟨_,_,rfl,h'.dn M.sa M.sb (.inl (by omega))⟩⟩
 rw[if_neg (eU (by rw[aT];exact HG))]
 refine kasC_bind (el (by omega) (kasC_bind ?_))
 rw[aT]
 refine HF hc hk M.nb (cD M.na (by omega)) M.sb (by omega) (by omega) hI fun c s' eO rG g1 g2=>?_
 dsimp only
 by_cases vG:c>0
 ·rw[if_pos vG,gg,show j+1+c - (j+1)=c by omega,d5]
  have h2:=h'.vD M.sb c (by omega) fun t ht y hy=>le.trans (le_of_lt (g1 t ht)) (d4 M.sa (by omega) y hy)
  by_cases Oa:j+1+c=lb.length
  ·rw[if_pos (eT Oa),kF]
   exact kasC_pure ⟨rfl,eO, .inl ⟨_,_,rfl,h2.dn M.sa M.sb (.inl (by omega))⟩⟩
  ·rw[if_neg (eU Oa)]
   exact vE M cI eO h2 hi (by omega) (fun y hy=>le.trans (g2 c (Nat.le_refl _) (by omega)) (jX (by omega) M.sb y hy)) (by omega)
 ·rw[if_neg vG]
  exact vE M cI eO h' hi (by omega) (fun y hy=>le.trans (g2 0 (by omega) (by omega)) (jX (t:=0) (by omega) M.sb y hy)) (by omega)
def jk(st:SortSt)(g:Nat):SortSt:=SortSt.mk' (kindOf st) (arrOf st) (pendingOf st) g (failedOf st)
theorem Di(hc:c8 O k n I (kas_cmp prog w A κ it))(hk:kindOf st=κ)(M:MH k n la lb)(cI:∀y∈lb,∀x∈la.drop (la.length - 1),le k y x){ro:List Nat}{i j g u v rem:Nat}(hI:I s)(h:MI k la lb ro i j)(hi:i+1<la.length)(hj:j<lb.length)(hr:(la.length - i)+(lb.length - j)≤rem):
  kasC (model prog w) A E (HC (ar it la) (ar it lb) (ar it ro) i j g u v) (fun r aZ s'=>aZ=jk st g∧I s'∧G2 it k la lb rem r) st s:=by
 unfold HC eP
 refine kasC_bind (kasC_modify (kasC_bind (el (by omega) (kasC_bind ?_))))
 rw[aT]
 refine HD hc hk M.na (cD M.nb (by omega)) M.sa (by omega) (by omega) hI fun c s' eO rG g1 g2=>?_
 dsimp only
 by_cases vG:c>0
 ·rw[if_pos vG,gg,show i+c - i=c by omega,d5]
  have h2:=h.vC M.sa c (by omega) fun t ht y hy=>le.trans (g1 t ht) (d4 M.sb (by omega) y hy)
  by_cases oO:i+c+1=la.length
  ·rw[if_pos (eT oO),mW]
   exact kasC_pure ⟨rfl,eO, .inl ⟨_,_,rfl,h2.la M.sa M.sb fun y hy x hx=>cI y (List.mem_of_mem_drop hy) x (by rw[show la.length - 1=i+c by omega];exact hx)⟩⟩
  ·rw[if_neg (eU oO)]
   by_cases qk:i+c=la.length
   ·rw[if_pos (eT qk),kF]
    exact kasC_pure ⟨rfl,eO, .inl ⟨_,_,rfl,h2.dn M.sa M.sb (.inr (by omega))⟩⟩
   ·rw[if_neg (eU qk)]
    exact vF (st:=jk st g) (rem:=rem) hc hk M cI eO h2 (by omega) hj (fun y hy=>le.trans (le_of_lt (g2 c (Nat.le_refl _) (by omega))) (jX (by omega) M.sa y hy)) (by omega)
 ·rw[if_neg vG]
  exact vF (st:=jk st g) (rem:=rem) hc hk M cI eO h hi hj (fun y hy=>le.trans (le_of_lt (g2 0 (by omega) (by omega))) (jX (t:=0) (by omega) M.sa y hy)) hr
theorem Dj(hc:c8 O k n I (kas_cmp prog w A κ it))(hk:kindOf st=κ)(M:MH k n la lb)(cI:∀y∈lb,∀x∈la.drop (la.length - 1),le k y x){ro:List Nat}{i j g u v:Nat}(hI:I s)(h:MI k la lb ro i j)(hi:i+1<la.length)(hj:j<lb.length):
  kasC (model prog w) A E (forIn [0:(ar it la).size+(ar it lb).size] ((none,ar it ro,i,j,g,u,v):C2) fun _=>PZ (ar it la) (ar it lb))
   (fun c aZ s'=>(∃g',aZ=jk st g')∧I s'∧((∃r c',c=(some (ar it r),c')∧pM k la lb r)∨∃ro i' j' g u v,c=(none,ar it ro,i',j',g,u,v)∧MI k la lb ro i' j'∧i'+1<la.length∧j'<lb.length∧(la.length - i')+(lb.length - j') < (la.length - i)+(lb.length - j))) st s:=by
 refine bb (fun m c aZ s'=>(∃g',aZ=jk st g')∧I s'∧∃ro i' j' g u v,c=(none,ar it ro,i',j',g,u,v)∧MI k la lb ro i' j'∧i'+1<la.length∧j'<lb.length∧(la.length - i')+(lb.length - j')≤m∧(la.length - i')+(lb.length - j')≤(la.length - i)+(lb.length - j)) ⟨⟨gallopOf st,rfl⟩,hI,ro,i,j,g,u,v,rfl,h,hi,hj,by rw[aT,aT];omega,by omega⟩ ?_ ?_
 ·rintro c aZ s' ⟨_,_,ro,i,j,g,u,v,_,_,_,_,_,_⟩
  omega
 ·rintro x m c aZ s' ⟨⟨g0,rfl⟩,i1,ro,i',j',g,u,v,rfl,i2,i3,i4,i5,i6⟩
  unfold PZ
  dsimp only
  have one:∀g' {R:ForInStep C2→SortSt→Shared→Prop},(∀r fN s2,fN=jk st g'→I s2→G2 it k la lb ((la.length - i')+(lb.length - j')) r→R r fN s2)→kasC (model prog w) A E (HC (ar it la) (ar it lb) (ar it ro) i' j' g' u v) R (jk st g0) s':=fun g' R hR=>
   bC (Di hc (st:=jk st g0) hk M cI i1 i2 i3 i4 (Nat.le_refl _)) fun r fN s2 ⟨e1,e2,e3⟩=>hR r fN s2 e1 e2 e3
  split
  all_goals
   refine one _ fun r fN s2 e1 e2 e3=>?_
   subst e1
   rcases e3 with ⟨r',c',rfl,hm⟩ | ⟨ro,a,b,g,u,v,e4,e5,e6,e7,e8⟩
   ·exact⟨⟨_,rfl⟩,e2, .inl ⟨r',c',rfl,hm⟩⟩
   ·rcases e4 with rfl|rfl
    ·exact⟨⟨_,rfl⟩,e2, .inr ⟨ro,a,b,g,u,v,rfl,e5,e6,e7,by omega⟩⟩
    ·exact⟨⟨_,rfl⟩,e2,ro,a,b,g,u,v,rfl,e5,e6,e7,by omega,by omega⟩
theorem Dk(hc:c8 O k n I (kas_cmp prog w A κ it))(hk:kindOf st=κ)(M:MH k n la lb)(cI:∀y∈lb,∀x∈la.drop (la.length - 1),le k y x)(ha:0<la.length)(hb:0<lb.length)(h0:le k (lb.getD 0 0) (la.getD 0 0)){Q:Ar→SortSt→Shared→Prop}(hI:I s)
  (q:∀r g s',I s'→pM k la lb r→Q (ar it r) (jk st g) s'):kasC (model prog w) A E (iA (ar it la) (ar it lb)) Q st s:=by
 rw[Dg]
 refine kasC_bind (kasC_lift (wpAny_rule (kasC_bind (el hb ?_))))
 have e1:(#[kas_item it (lb.getD 0 0)]:Ar)=ar it [lb.getD 0 0]:=by simp [ar]
 rw[e1]
 have m0:MI k la lb [] 0 0:=⟨by simp,List.Pairwise.nil,fun x hx=>(by cases hx),fun x hx=>(by cases hx)⟩
 have m1:MI k la lb [lb.getD 0 0] 0 1:=m0.rF M.sb hb fun y hy=>le.trans h0 (d4 M.sa ha y hy)
 by_cases jy:1=lb.length
 ·rw[if_pos (eT (by rw[aT];exact jy)),kF]
  exact kasC_pure (q _ (gallopOf st) s hI (m1.dn M.sa M.sb (.inl (by omega))))
 rw[if_neg (eU (by rw[aT];exact jy))]
 by_cases Sw:0+1=la.length
 ·rw[if_pos (eT (by rw[aT];exact Sw)),mW]
  exact kasC_pure (q _ (gallopOf st) s hI (m1.la M.sa M.sb fun y hy x hx=>cI y (List.mem_of_mem_drop hy) x (by rw[show la.length - 1=0 by omega];exact hx)))
 rw[if_neg (eU (by rw[aT];exact Sw))]
 refine kasC_bind (kasC_get (kasC_bind (bC (Q:=fun c aZ s'=>(∃g',aZ=jk st g')∧I s'∧∃r c',c=(some (ar it r),c')∧pM k la lb r) (bb (fun m c aZ s'=>(∃g',aZ=jk st g')∧I s'∧∃ro i j g,c=(none,ar it ro,i,j,g)∧MI k la lb ro i j∧i+1<la.length∧j<lb.length∧(la.length - i)+(lb.length - j)≤m) ⟨⟨gallopOf st,rfl⟩,hI,_,_,_,_,rfl,m1,by omega,by omega,by rw[aT,aT];omega⟩ ?_ ?_) ?_)))
 ·rintro c aZ s' ⟨_,_,ro,i,j,g,_,_,_,_,_⟩
  omega
 ·rintro x m c aZ s' ⟨⟨g0,rfl⟩,i1,ro,i,j,g,rfl,i2,i3,i4,i5⟩
  unfold P0
  refine kasC_bind (bC (Dh hc (st:=jk st g0) hk M cI i1 i2 i3 i4) fun d fN s2 ⟨e1,e2,e3⟩=>?_)
  subst e1
  rcases e3 with ⟨r,c',rfl,hm⟩ | ⟨ro,i',j',u,v,rfl,e5,e6,e7,e8⟩
  ·exact kasC_pure ⟨⟨g0,rfl⟩,e2,r,_,rfl,hm⟩
  ·refine kasC_bind (kasC_lift (wpAny_rule (kasC_bind (bC (Dj hc (st:=jk st g0) hk M cI e2 e5 e6 e7) fun f uN s3 ⟨⟨g1,f1⟩,f2,f3⟩=>?_))))
   subst f1
   rcases f3 with ⟨r,c',rfl,hm⟩ | ⟨ro,Bk,P1,g2,u2,v2,rfl,f5,f6,f7,f8⟩
   ·exact kasC_pure ⟨⟨g1,rfl⟩,f2,r,_,rfl,hm⟩
   ·dsimp only at e8 f8
    exact kasC_bind (kasC_modify (kasC_pure ⟨⟨g2+1,rfl⟩,f2,ro,Bk,P1,_,rfl,f5,f6,f7,by omega⟩))
 ·rintro c aZ s' ⟨⟨g',rfl⟩,i1,r,c',rfl,hm⟩
  exact kasC_pure (q r g' s' i1 hm)
end
end L2
namespace L2
open PySem PySem.Spec PyProof.Rows PySem.W
def xU(a b o:Ar)(i j:Nat):Ar:=a.extract 0 i++b.extract 0 j++o.reverse
def F8(a b o:Ar)(i j:Nat):Ar:=b.extract 0 j++a.extract 0 i++o.reverse
abbrev D1:=Option Ar×Nat×Nat×Ar×Nat×Nat
abbrev D2:=Option Ar×Nat×Nat×Ar×Nat×Nat×Nat
abbrev D3:=Option Ar×Nat×Nat×Ar×Nat
def oO(a b:Ar)(g:Nat)(c:D1):SM (ForInStep D1):=do
 let x←elem' b (c.2.2.1 - 1)
 let y←elem' a (c.2.1 - 1)
 match←lt' x y with
 |some d=>
  if d=true then do
   let e←elem' a (c.2.1 - 1)
   if (c.2.1 - 1==0)=true then pure (.done (some (xU a b (c.2.2.2.1.push e) (c.2.1 - 1) c.2.2.1),c.2.1 - 1,c.2.2.1,c.2.2.2.1.push e,c.2.2.2.2.1+1,0))
   else if c.2.2.2.2.1+1≥g then pure (.done (none,c.2.1 - 1,c.2.2.1,c.2.2.2.1.push e,c.2.2.2.2.1+1,0))
   else pure (.yield (none,c.2.1 - 1,c.2.2.1,c.2.2.2.1.push e,c.2.2.2.2.1+1,0))
  else do
   let e←elem' b (c.2.2.1 - 1)
   if (c.2.2.1 - 1==1)=true then pure (.done (some (F8 a b (c.2.2.2.1.push e) c.2.1 (c.2.2.1 - 1)),c.2.1,c.2.2.1 - 1,c.2.2.2.1.push e,0,c.2.2.2.2.2+1))
   else if c.2.2.2.2.2+1≥g then pure (.done (none,c.2.1,c.2.2.1 - 1,c.2.2.2.1.push e,0,c.2.2.2.2.2+1))
   else pure (.yield (none,c.2.1,c.2.2.1 - 1,c.2.2.2.1.push e,0,c.2.2.2.2.2+1))
 |_=>pure (.done (some (xU a b c.2.2.2.1 c.2.1 c.2.2.1),c.2.1,c.2.2.1,c.2.2.2.1,c.2.2.2.2.1,c.2.2.2.2.2))
def HH(a b:Ar)(i j:Nat)(o:Ar)(g u v:Nat):SM (ForInStep D2):=do
 let e←elem' a (i - 1)
 if (i - 1==0)=true then pure (.done (some (xU a b (o.push e) (i - 1) j),i - 1,j,o.push e,g,u,v))
 else if (decide (u<7)&&decide (v<7))=true then pure (.done (none,i - 1,j,o.push e,g,u,v))
 else pure (.yield (none,i - 1,j,o.push e,g,u,v))
def Ob(a b:Ar)(i j:Nat)(o:Ar)(g u v:Nat):SM (ForInStep D2):=do
 let e←elem' b (j - 1)
 if (j - 1==1)=true then pure (.done (some (F8 a b (o.push e) i (j - 1)),i,j - 1,o.push e,g,u,v))
 else do
  let y←elem' a (i - 1)
  match←bO true y b 0 (j - 1) (j - 1 - 1) with
  |some p=>
   if j - 1 - p>0 then
    if (p==1)=true then pure (.done (some (F8 a b (o.push e++(b.extract p (j - 1)).reverse) i p),i,p,o.push e++(b.extract p (j - 1)).reverse,g,u,j - 1 - p))
    else if (p==0)=true then pure (.done (some (xU a b (o.push e++(b.extract p (j - 1)).reverse) i p),i,p,o.push e++(b.extract p (j - 1)).reverse,g,u,j - 1 - p))
    else HH a b i p (o.push e++(b.extract p (j - 1)).reverse) g u (j - 1 - p)
   else HH a b i (j - 1) (o.push e) g u (j - 1 - p)
  |_=>pure (.done (some (xU a b (o.push e) i (j - 1)),i,j - 1,o.push e,g,u,v))
def qk(a b:Ar)(i j:Nat)(o:Ar)(g u v:Nat):SM (ForInStep D2):=do
 eP g
 let x←elem' b (j - 1)
 match←bO false x a 0 i (i - 1) with
 |some p=>
  if i - p>0 then
   if (p==0)=true then pure (.done (some (xU a b (o++(a.extract p i).reverse) p j),p,j,o++(a.extract p i).reverse,g,i - p,v))
   else Ob a b p j (o++(a.extract p i).reverse) g (i - p) v
  else Ob a b i j o g (i - p) v
 |_=>pure (.done (some (xU a b o i j),i,j,o,g,u,v))
def Oc(a b:Ar)(c:D2):SM (ForInStep D2):=if c.2.2.2.2.1>1 then qk a b c.2.1 c.2.2.1 c.2.2.2.1 (c.2.2.2.2.1 - 1) c.2.2.2.2.2.1 c.2.2.2.2.2.2 else qk a b c.2.1 c.2.2.1 c.2.2.2.1 c.2.2.2.2.1 c.2.2.2.2.2.1 c.2.2.2.2.2.2
def P2(a b:Ar)(c:D3):SM (ForInStep D3):=do
 let d←forIn [0:a.size+b.size] ((none,c.2.1,c.2.2.1,c.2.2.2.1,0,0):D1) fun _=>oO a b c.2.2.2.2
 oC d.1 (fun r=>pure (.done (some r,d.2.1,d.2.2.1,d.2.2.2.1,c.2.2.2.2))) do
  rule "list.sort.gallop"
  let f←forIn [0:a.size+b.size] ((none,d.2.1,d.2.2.1,d.2.2.2.1,c.2.2.2.2+1,d.2.2.2.2.1,d.2.2.2.2.2):D2) fun _=>Oc a b
  oC f.1 (fun r=>pure (.done (some r,f.2.1,f.2.2.1,f.2.2.2.1,f.2.2.2.2.1))) do
   eP (f.2.2.2.2.1+1)
   pure (.yield (none,f.2.1,f.2.2.1,f.2.2.2.1,f.2.2.2.2.1+1))
theorem yL(a b:Array Keyed):iB a b=(do
  rule "list.sort.merge-hi"
  let tt:=a.size+b.size
  let dn (o:Array Keyed) (i j:Nat):=a.extract 0 i++b.extract 0 j++o.reverse
  let fb (o:Array Keyed) (i j:Nat):=b.extract 0 j++a.extract 0 i++o.reverse
  let mut i:=a.size - 1
  let mut j:=b.size
  let mut o:Array Keyed:=#[←elem' a i]
  if i==0 then return dn o i j
  if j==1 then return fb o i j
  let mut g:=gallopOf (←get)
  for _ in [0:tt] do
   let mut u:=0
   let mut v:=0
   for _ in [0:tt] do
    let some c←lt' (←elem' b (j - 1)) (←elem' a (i - 1)) |return dn o i j
    if c then
     i:=i - 1
     o:=o.push (←elem' a i)
     u:=u+1
     v:=0
     if i==0 then return dn o i j
     if u≥g then break
    else
     j:=j - 1
     o:=o.push (←elem' b j)
     v:=v+1
     u:=0
     if j==1 then return fb o i j
     if v≥g then break
   rule "list.sort.gallop"
   g:=g+1
   for _ in [0:tt] do
    if g>1 then g:=g - 1
    eP g
    let some p←bO false (←elem' b (j - 1)) a 0 i (i - 1) |return dn o i j
    let c:=i - p
    u:=c
    if c>0 then
     o:=o++(a.extract p i).reverse
     i:=p
     if i==0 then return dn o i j
    j:=j - 1
    o:=o.push (←elem' b j)
    if j==1 then return fb o i j
    let some p←bO true (←elem' a (i - 1)) b 0 j (j - 1) |return dn o i j
    let c:=j - p
    v:=c
    if c>0 then
     o:=o++(b.extract p j).reverse
     j:=p
     if j==1 then return fb o i j
     if j==0 then return dn o i j
    i:=i - 1
    o:=o.push (←elem' a i)
    if i==0 then return dn o i j
    if u<7&&v<7 then break
   g:=g+1
   eP g
  unsupported "internal:list.sort.merge-bound"):=rfl
theorem Dl(a b:Array Keyed):iB a b=(do
  rule "list.sort.merge-hi"
  let e←elem' a (a.size - 1)
  if (a.size - 1==0)=true then pure (xU a b #[e] (a.size - 1) b.size)
  else if (b.size==1)=true then pure (F8 a b #[e] (a.size - 1) b.size)
  else do
   let s←get
   let c←forIn [0:a.size+b.size] ((none,a.size - 1,b.size,#[e],gallopOf s):D3) fun _=>P2 a b
   oC c.1 (fun r=>pure r) (unsupported "internal:list.sort.merge-bound")):=by
 rw[yL]
 dsimp only
 congr 1
 funext _
 congr 1
 funext e
 congr 1
 congr 1
 congr 1
 funext s
 congr 1
 ·congr 1
  funext x c
  unfold P2
  congr 1
  funext d
  obtain⟨r,o,i,j,u,v⟩:=d
  cases r with
  |some r=>rfl
  |none=>
   dsimp only [oC]
   congr 1
   funext _
   congr 1
   funext f
   obtain⟨r,o,i,j,g,u,v⟩:=f
   cases r<;>rfl
 ·funext c
  obtain⟨r,o⟩:=c
  cases r<;>rfl
end L2
namespace L2
open PySem PySem.Spec PyProof.Rows PySem.W
section
variable {O:KeyOrd}{k:Nat→O.α}
theorem fq{l:List Nat}{i:Nat}(h:i<l.length):l.take (i+1)=l.take i++[l.getD i 0]:=by
 have:=iC (l:=l) (i:=0) (c:=i) (by omega)
 rwa [List.drop_zero,Nat.zero_add] at this
theorem gh{l:List Nat}(hs:eQ k l){i:Nat}(h:i<l.length):∀y∈l.take i,le k y (l.getD i 0):=by
 have:eQ k (l.take (i+1)):=hs.take
 rw[fq h] at this
 exact fun y hy=>(List.pairwise_append.mp this).2.2 y hy _ (List.mem_singleton.mpr rfl)
structure MJ(k:Nat→O.α)(la lb ro:List Nat)(i j:Nat):Prop where
 perm:(la.take i++lb.take j++ro).Perm (la++lb)
 yK:eQ k ro
 ra:∀x∈la.take i,∀y∈ro,le k x y
 rb:∀x∈lb.take j,∀y∈ro,le k x y
theorem MJ.rH{la lb ro:List Nat}{i j:Nat}(h:MJ k la lb ro (i+1) j)(sa:eQ k la)(hi:i<la.length)(hb:∀y∈lb.take j,le k y (la.getD i 0)):MJ k la lb (la.getD i 0::ro) i j:=by
 have ht:=fq hi
 have HI:la.getD i 0∈la.take (i+1):=by rw[ht];simp
 refine⟨?_,List.pairwise_cons.mpr ⟨h.ra _ HI,h.yK⟩,fun x hx y hy=>?_,fun x hx y hy=>?_⟩
 ·refine List.Perm.trans ?_ h.perm
  rw[ht]
  have e1:(la.take i++lb.take j++la.getD i 0::ro).Perm (la.getD i 0::(la.take i++lb.take j++ro)):=List.perm_middle
  have e2:(la.take i++la.getD i 0::(lb.take j++ro)).Perm (la.getD i 0::(la.take i++(lb.take j++ro))):=List.perm_middle
  refine e1.trans ?_
  rw[List.append_assoc]
  refine e2.symm.trans ?_
  simp
 ·rcases List.mem_cons.mp hy with rfl|hy
  ·exact gh sa hi x hx
  ·exact h.ra x (by rw[ht];exact List.mem_append_left _ hx) y hy
 ·rcases List.mem_cons.mp hy with rfl|hy
  ·exact hb x hx
  ·exact h.rb x hx y hy
theorem MJ.vH{la lb ro:List Nat}{i j:Nat}(h:MJ k la lb ro i (j+1))(sb:eQ k lb)(hj:j<lb.length)(ha:∀y∈la.take i,le k y (lb.getD j 0)):MJ k la lb (lb.getD j 0::ro) i j:=by
 have ht:=fq hj
 have HI:lb.getD j 0∈lb.take (j+1):=by rw[ht];simp
 refine⟨?_,List.pairwise_cons.mpr ⟨h.rb _ HI,h.yK⟩,fun x hx y hy=>?_,fun x hx y hy=>?_⟩
 ·have:=h.perm
  rw[ht] at this
  simpa using this
 ·rcases List.mem_cons.mp hy with rfl|hy
  ·exact ha x hx
  ·exact h.ra x hx y hy
 ·rcases List.mem_cons.mp hy with rfl|hy
  ·exact gh sb hj x hx
  ·exact h.rb x (by rw[ht];exact List.mem_append_left _ hx) y hy
theorem MJ.vI{la lb:List Nat}{j p:Nat}(sa:eQ k la):∀c {ro:List Nat},MJ k la lb ro (p+c) j→p+c≤la.length→(∀t,t<c→∀y∈lb.take j,le k y (la.getD (p+t) 0))→MJ k la lb ((la.drop p).take c++ro) p j
 |0,ro,h,_,_=>by rw[List.take_zero,List.nil_append];exact h
 |c+1,ro,h,hc,hb=>by
  rw[iC (by omega),List.append_assoc]
  exact MJ.vI sa c (MJ.rH (i:=p+c) h sa (by omega) (hb c (by omega))) (by omega) fun t ht=>hb t (by omega)
theorem MJ.vJ{la lb:List Nat}{i p:Nat}(sb:eQ k lb):∀c {ro:List Nat},MJ k la lb ro i (p+c)→p+c≤lb.length→(∀t,t<c→∀y∈la.take i,le k y (lb.getD (p+t) 0))→MJ k la lb ((lb.drop p).take c++ro) i p
 |0,ro,h,_,_=>by rw[List.take_zero,List.nil_append];exact h
 |c+1,ro,h,hc,ha=>by
  rw[iC (by omega),List.append_assoc]
  exact MJ.vJ sb c (MJ.vH (j:=p+c) h sb (by omega) (ha c (by omega))) (by omega) fun t ht=>ha t (by omega)
theorem MJ.dn{la lb ro:List Nat}{i j:Nat}(h:MJ k la lb ro i j)(sa:eQ k la)(sb:eQ k lb)(e:i=0∨j=0):pM k la lb (la.take i++lb.take j++ro):=by
 refine⟨h.perm,List.pairwise_append.mpr ⟨List.pairwise_append.mpr ⟨sa.take,sb.take,fun x hx y hy=>?_⟩,h.yK,fun x hx y hy=>?_⟩⟩
 ·rcases e with rfl|rfl
  ·cases hx
  ·cases hy
 ·rcases List.mem_append.mp hx with z|z
  ·exact h.ra x z y hy
  ·exact h.rb x z y hy
theorem MJ.fb{la lb ro:List Nat}{i j:Nat}(h:MJ k la lb ro i j)(sa:eQ k la)(sb:eQ k lb)(e:∀y∈lb.take j,∀x∈la.take i,le k y x):pM k la lb (lb.take j++la.take i++ro):=by
 refine⟨(List.Perm.append_right _ List.perm_append_comm).trans h.perm,List.pairwise_append.mpr ⟨List.pairwise_append.mpr ⟨sb.take,sa.take,e⟩,h.yK,fun x hx y hy=>?_⟩⟩
 rcases List.mem_append.mp hx with z|z
 ·exact h.rb x z y hy
 ·exact h.ra x z y hy
end
section
variable {it:Array Keyed}
theorem jY(l:List Nat)(i:Nat):(ar it l).extract 0 i=ar it (l.take i):=by rw[gg,List.drop_zero,Nat.sub_zero]
theorem qq(l:List Nat):(ar it l).reverse=ar it l.reverse:=by simp [ar]
theorem jZ(ro:List Nat)(x:Nat):(ar it ro.reverse).push (kas_item it x)=ar it (x::ro).reverse:=by rw[iD,List.reverse_cons]
theorem vK(ro l:List Nat):ar it ro.reverse++(ar it l).reverse=ar it (l++ro).reverse:=by rw[qq,d5,List.reverse_append]
theorem kG(la lb ro:List Nat)(i j:Nat):xU (ar it la) (ar it lb) (ar it ro.reverse) i j=ar it (la.take i++lb.take j++ro):=by
 unfold xU
 rw[jY,jY,qq,List.reverse_reverse,d5,d5]
theorem mX(la lb ro:List Nat)(i j:Nat):F8 (ar it la) (ar it lb) (ar it ro.reverse) i j=ar it (lb.take j++la.take i++ro):=by
 unfold F8
 rw[jY,jY,qq,List.reverse_reverse,d5,d5]
end
section
variable {prog:Program}{w:World}{A:Around}{E:Value→Shared→Prop}{κ:SortKind}{it:Array Keyed}{O:KeyOrd}{k:Nat→O.α}{n:Nat}{I:Shared→Prop}{s:Shared}{st:SortSt}{la lb:List Nat}
theorem rJ{ro:List Nat}{i j:Nat}(h:MJ k la lb ro i j)(M:MH k n la lb)(hf:∀x∈la,le k (lb.getD 0 0) x)(hj:j=1)(hl:0<lb.length):pM k la lb (lb.take j++la.take i++ro):=by
 subst hj
 refine h.fb M.sa M.sb fun y hy x hx=>?_
 have e:=fq (l:=lb) (i:=0) hl
 rw[List.take_zero,List.nil_append] at e
 rw[e] at hy
 rw[List.mem_singleton.mp hy]
 exact hf x (List.mem_of_mem_take hx)
theorem Dm(hc:c8 O k n I (kas_cmp prog w A κ it))(hk:kindOf st=κ)(M:MH k n la lb)(hf:∀x∈la,le k (lb.getD 0 0) x){ro:List Nat}{i j g:Nat}(hI:I s)(h:MJ k la lb ro i j)(hi:0<i)(uw:i≤la.length)(hj:1<j)(tM:j≤lb.length):
  kasC (model prog w) A E (forIn [0:(ar it la).size+(ar it lb).size] ((none,i,j,ar it ro.reverse,0,0):D1) fun _=>oO (ar it la) (ar it lb) g)
   (fun c aZ s'=>aZ=st∧I s'∧((∃r c',c=(some (ar it r),c')∧pM k la lb r)∨∃ro i' j' u v,c=(none,i',j',ar it ro.reverse,u,v)∧MJ k la lb ro i' j'∧0<i'∧i'≤la.length∧1<j'∧j'≤lb.length∧i'+j'<i+j)) st s:=by
 refine bb (fun m c aZ s'=>aZ=st∧I s'∧∃ro i' j' u v,c=(none,i',j',ar it ro.reverse,u,v)∧MJ k la lb ro i' j'∧0<i'∧i'≤la.length∧1<j'∧j'≤lb.length∧i'+j'≤m∧i'+j'≤i+j) ⟨rfl,hI,ro,i,j,0,0,rfl,h,hi,uw,hj,tM,by rw[aT,aT];omega,by omega⟩ ?_ ?_
 ·rintro c aZ s' ⟨_,_,ro,i,j,u,v,_,_,_,_,_,_,_⟩
  omega
 ·rintro x m c aZ s' ⟨rfl,i1,ro,i',j',u,v,rfl,i2,i3,F9,i4,HJ,i5,i6⟩
  obtain⟨a,rfl⟩:∃a,i'=a+1:=⟨i' - 1,by omega⟩
  obtain⟨b,rfl⟩:∃b,j'=b+1:=⟨j' - 1,by omega⟩
  unfold oO
  dsimp only
  simp only [Nat.add_sub_cancel]
  refine kasC_bind (el (by omega) (kasC_bind (el (by omega) (kasC_bind (qo hc (cD M.nb (by omega)) (cD M.na (by omega)) hk i1 fun s2 d9=>?_)))))
  dsimp only
  cases e:O.blt (k (lb.getD b 0)) (k (la.getD a 0)) with
  |true=>
   rw[if_pos rfl]
   refine kasC_bind (el (by omega) ?_)
   rw[jZ]
   have h':=i2.rH M.sa (by omega) fun y hy=>by
    rw[fq (by omega)] at hy
    rcases List.mem_append.mp hy with z|z
    ·exact le.trans (gh M.sb (by omega) y z) (le_of_lt e)
    ·rw[List.mem_singleton.mp z];exact le_of_lt e
   by_cases tN:a=0
   ·rw[if_pos (eT tN),kG]
    exact kasC_pure ⟨rfl,d9, .inl ⟨_,_,rfl,h'.dn M.sa M.sb (.inl tN)⟩⟩
   ·rw[if_neg (eU tN)]
    by_cases hg:u+1≥g
    ·rw[if_pos hg]
     exact kasC_pure ⟨rfl,d9, .inr ⟨_,_,_,_,_,rfl,h',by omega,by omega,i4,HJ,by omega⟩⟩
    ·rw[if_neg hg]
     exact kasC_pure ⟨rfl,d9,_,_,_,_,_,rfl,h',by omega,by omega,i4,HJ,by omega,by omega⟩
  |false=>
   rw[if_neg (by simp)]
   refine kasC_bind (el (by omega) ?_)
   rw[jZ]
   have h':=i2.vH M.sb (by omega) fun y hy=>by
    rw[fq (by omega)] at hy
    rcases List.mem_append.mp hy with z|z
    ·exact le.trans (gh M.sa (by omega) y z) (bJ e)
    ·rw[List.mem_singleton.mp z];exact bJ e
   by_cases jy:b=1
   ·rw[if_pos (eT jy),mX]
    exact kasC_pure ⟨rfl,d9, .inl ⟨_,_,rfl,rJ h' M hf jy (by omega)⟩⟩
   ·rw[if_neg (eU jy)]
    by_cases hg:v+1≥g
    ·rw[if_pos hg]
     exact kasC_pure ⟨rfl,d9, .inr ⟨_,_,_,_,_,rfl,h',i3,F9,by omega,by omega,by omega⟩⟩
    ·rw[if_neg hg]
     exact kasC_pure ⟨rfl,d9,_,_,_,_,_,rfl,h',i3,F9,by omega,by omega,by omega,by omega⟩
end
end L2
namespace L2
open PySem PySem.Spec PyProof.Rows PySem.W
section
variable {prog:Program}{w:World}{A:Around}{E:Value→Shared→Prop}{κ:SortKind}{it:Array Keyed}{O:KeyOrd}{k:Nat→O.α}{n:Nat}{I:Shared→Prop}{s:Shared}{st:SortSt}{la lb:List Nat}
theorem iE{l:List Nat}{p y:Nat}(h:y∈l.take p):∃t,t<p∧t<l.length∧y=l.getD t 0:=by
 obtain⟨t,ht⟩:=List.mem_iff_getElem?.mp h
 rw[List.getElem?_take] at ht
 split at ht
 ·rename_i hp
  obtain⟨hl,e⟩:=List.getElem?_eq_some_iff.mp ht
  exact⟨t,hp,hl,by simp [List.getD,hl,e]⟩
 ·cases ht
theorem rK{l:List Nat}(hs:eQ k l){a:Nat}(ha:a<l.length){y:Nat}(hy:y∈l.take (a+1)):le k y (l.getD a 0):=by
 rw[fq ha] at hy
 rcases List.mem_append.mp hy with z|z
 ·exact gh hs ha y z
 ·rw[List.mem_singleton.mp z];exact KeyOrd.kle_refl _
def G3(it:Array Keyed)(k:Nat→O.α)(la lb:List Nat)(rem:Nat)(r:ForInStep D2):Prop:=(∃r' c',r= .done (some (ar it r'),c')∧pM k la lb r')∨∃ro i j g u v,(r= .done (none,i,j,ar it ro.reverse,g,u,v)∨r= .yield (none,i,j,ar it ro.reverse,g,u,v))∧MJ k la lb ro i j∧0<i∧i≤la.length∧1<j∧j≤lb.length∧i+j<rem
theorem vL(M:MH k n la lb){ro:List Nat}{a j g u v rem:Nat}(hI:I s)(h:MJ k la lb ro (a+1) j)(ha:a<la.length)(hj:1<j)(tM:j≤lb.length)(hb:∀y∈lb.take j,le k y (la.getD a 0))(hr:a+1+j≤rem):
  kasC (model prog w) A E (HH (ar it la) (ar it lb) (a+1) j (ar it ro.reverse) g u v) (fun r aZ s'=>aZ=st∧I s'∧G3 it k la lb rem r) st s:=by
 unfold HH
 simp only [Nat.add_sub_cancel]
 refine kasC_bind (el (by omega) ?_)
 rw[jZ]
 have h':=h.rH M.sa ha hb
 by_cases tN:a=0
 ·rw[if_pos (eT tN),kG]
  exact kasC_pure ⟨rfl,hI, .inl ⟨_,_,rfl,h'.dn M.sa M.sb (.inl tN)⟩⟩
 ·rw[if_neg (eU tN)]
  split
  ·exact kasC_pure ⟨rfl,hI, .inr ⟨_,_,_,_,_,_, .inl rfl,h',by omega,by omega,hj,tM,by omega⟩⟩
  ·exact kasC_pure ⟨rfl,hI, .inr ⟨_,_,_,_,_,_, .inr rfl,h',by omega,by omega,hj,tM,by omega⟩⟩
theorem vM(hc:c8 O k n I (kas_cmp prog w A κ it))(hk:kindOf st=κ)(M:MH k n la lb)(hf:∀x∈la,le k (lb.getD 0 0) x){ro:List Nat}{a b g u v rem:Nat}(hI:I s)(h:MJ k la lb ro (a+1) (b+1))(ha:a<la.length)(jy:0<b)(hb:b<lb.length)(hle:∀y∈la.take (a+1),le k y (lb.getD b 0))(hr:a+1+(b+1)≤rem):
  kasC (model prog w) A E (Ob (ar it la) (ar it lb) (a+1) (b+1) (ar it ro.reverse) g u v) (fun r aZ s'=>aZ=st∧I s'∧G3 it k la lb rem r) st s:=by
 unfold Ob
 simp only [Nat.add_sub_cancel]
 refine kasC_bind (el (by omega) ?_)
 rw[jZ]
 have h':=h.vH M.sb hb hle
 by_cases e1:b=1
 ·rw[if_pos (eT e1),mX]
  exact kasC_pure ⟨rfl,hI, .inl ⟨_,_,rfl,rJ h' M hf e1 (by omega)⟩⟩
 rw[if_neg (eU e1)]
 refine kasC_bind (el (by omega) (kasC_bind (HF hc hk M.nb (cD M.na (by omega)) M.sb (by omega) (by omega) hI fun p s' eO UT g1 g2=>?_)))
 dsimp only
 simp only [Nat.zero_add] at g1 g2
 by_cases HK:b - p>0
 ·rw[if_pos HK,gg,vK]
  have h2:=MJ.vJ (p:=p) M.sb (b - p) (by rw[show p+(b - p)=b by omega];exact h') (by omega) fun t ht y hy=>le.trans (rK M.sa ha hy) (g2 (p+t) (by omega) (by omega))
  by_cases p1:p=1
  ·rw[if_pos (eT p1),mX]
   exact kasC_pure ⟨rfl,eO, .inl ⟨_,_,rfl,rJ h2 M hf p1 (by omega)⟩⟩
  rw[if_neg (eU p1)]
  by_cases p0:p=0
  ·rw[if_pos (eT p0),kG]
   exact kasC_pure ⟨rfl,eO, .inl ⟨_,_,rfl,h2.dn M.sa M.sb (.inr p0)⟩⟩
  rw[if_neg (eU p0)]
  refine vL (rem:=rem) M eO h2 ha (by omega) (by omega) (fun y hy=>?_) (by omega)
  obtain⟨t,t1,_,rfl⟩:=iE hy
  exact le_of_lt (g1 t t1)
 ·rw[if_neg HK]
  refine vL (rem:=rem) M eO h' ha (by omega) (by omega) (fun y hy=>?_) (by omega)
  obtain⟨t,t1,_,rfl⟩:=iE hy
  exact le_of_lt (g1 t (by omega))
theorem Dn(hc:c8 O k n I (kas_cmp prog w A κ it))(hk:kindOf st=κ)(M:MH k n la lb)(hf:∀x∈la,le k (lb.getD 0 0) x){ro:List Nat}{i b g u v rem:Nat}(hI:I s)(h:MJ k la lb ro i (b+1))(hi:0<i)(uw:i≤la.length)(jy:0<b)(hb:b<lb.length)(hr:i+(b+1)≤rem):
  kasC (model prog w) A E (qk (ar it la) (ar it lb) i (b+1) (ar it ro.reverse) g u v) (fun r aZ s'=>aZ=jk st g∧I s'∧G3 it k la lb rem r) st s:=by
 unfold qk eP
 simp only [Nat.add_sub_cancel]
 refine kasC_bind (kasC_modify (kasC_bind (el (by omega) (kasC_bind (HD hc hk M.na (cD M.nb (by omega)) M.sa (by omega) (by omega) hI fun p s' eO UT g1 g2=>?_)))))
 dsimp only
 simp only [Nat.zero_add] at g1 g2
 have below:∀y∈la.take p,le k y (lb.getD b 0):=fun y hy=>by
  obtain⟨t,t1,_,rfl⟩:=iE hy
  exact g1 t t1
 by_cases HK:i - p>0
 ·rw[if_pos HK,gg,vK]
  have h2:=MJ.vI (p:=p) M.sa (i - p) (by rw[show p+(i - p)=i by omega];exact h) (by omega) fun t ht y hy=>le.trans (rK M.sb hb hy) (le_of_lt (g2 (p+t) (by omega) (by omega)))
  by_cases p0:p=0
  ·rw[if_pos (eT p0),kG]
   exact kasC_pure ⟨rfl,eO, .inl ⟨_,_,rfl,h2.dn M.sa M.sb (.inl p0)⟩⟩
  rw[if_neg (eU p0)]
  obtain⟨a,rfl⟩:∃a,p=a+1:=⟨p - 1,by omega⟩
  exact vM (st:=jk st g) (rem:=rem) hc hk M hf eO h2 (by omega) jy hb below (by omega)
 ·rw[if_neg HK]
  have e:p=i:=by omega
  subst e
  obtain⟨a,rfl⟩:∃a,p=a+1:=⟨p - 1,by omega⟩
  exact vM (st:=jk st g) (rem:=rem) hc hk M hf eO h (by omega) jy hb below hr
theorem Dp(hc:c8 O k n I (kas_cmp prog w A κ it))(hk:kindOf st=κ)(M:MH k n la lb)(hf:∀x∈la,le k (lb.getD 0 0) x){ro:List Nat}{i j g u v:Nat}(hI:I s)(h:MJ k la lb ro i j)(hi:0<i)(uw:i≤la.length)(hj:1<j)(tM:j≤lb.length):
  kasC (model prog w) A E (forIn [0:(ar it la).size+(ar it lb).size] ((none,i,j,ar it ro.reverse,g,u,v):D2) fun _=>Oc (ar it la) (ar it lb))
   (fun c aZ s'=>(∃g',aZ=jk st g')∧I s'∧((∃r c',c=(some (ar it r),c')∧pM k la lb r)∨∃ro i' j' g u v,c=(none,i',j',ar it ro.reverse,g,u,v)∧MJ k la lb ro i' j'∧0<i'∧i'≤la.length∧1<j'∧j'≤lb.length∧i'+j'<i+j)) st s:=by
 refine bb (fun m c aZ s'=>(∃g',aZ=jk st g')∧I s'∧∃ro i' j' g u v,c=(none,i',j',ar it ro.reverse,g,u,v)∧MJ k la lb ro i' j'∧0<i'∧i'≤la.length∧1<j'∧j'≤lb.length∧i'+j'≤m∧i'+j'≤i+j) ⟨⟨gallopOf st,rfl⟩,hI,ro,i,j,g,u,v,rfl,h,hi,uw,hj,tM,by rw[aT,aT];omega,by omega⟩ ?_ ?_
 ·rintro c aZ s' ⟨_,_,ro,i,j,g,u,v,_,_,_,_,_,_,_⟩
  omega
 ·rintro x m c aZ s' ⟨⟨g0,rfl⟩,i1,ro,i',j',g,u,v,rfl,i2,i3,F9,i4,HJ,i5,i6⟩
  obtain⟨b,rfl⟩:∃b,j'=b+1:=⟨j' - 1,by omega⟩
  unfold Oc
  dsimp only
  have one:∀g' {R:ForInStep D2→SortSt→Shared→Prop},(∀r fN s2,fN=jk st g'→I s2→G3 it k la lb (i'+(b+1)) r→R r fN s2)→kasC (model prog w) A E (qk (ar it la) (ar it lb) i' (b+1) (ar it ro.reverse) g' u v) R (jk st g0) s':=fun g' R hR=>
   bC (Dn hc (st:=jk st g0) hk M hf i1 i2 i3 F9 (by omega) (by omega) (Nat.le_refl _)) fun r fN s2 ⟨e1,e2,e3⟩=>hR r fN s2 e1 e2 e3
  split
  all_goals
   refine one _ fun r fN s2 e1 e2 e3=>?_
   subst e1
   rcases e3 with ⟨r',c',rfl,hm⟩ | ⟨ro,a,b,g,u,v,e4,e5,e6,Od,e7,Oe,e8⟩
   ·exact⟨⟨_,rfl⟩,e2, .inl ⟨r',c',rfl,hm⟩⟩
   ·rcases e4 with rfl|rfl
    ·exact⟨⟨_,rfl⟩,e2, .inr ⟨ro,a,b,g,u,v,rfl,e5,e6,Od,e7,Oe,by omega⟩⟩
    ·exact⟨⟨_,rfl⟩,e2,ro,a,b,g,u,v,rfl,e5,e6,Od,e7,Oe,by omega,by omega⟩
theorem Dq(hc:c8 O k n I (kas_cmp prog w A κ it))(hk:kindOf st=κ)(M:MH k n la lb)(hf:∀x∈la,le k (lb.getD 0 0) x)(cI:∀y∈lb,∀x∈la.drop (la.length - 1),le k y x)(ha:0<la.length)(hb:0<lb.length){Q:Ar→SortSt→Shared→Prop}(hI:I s)
  (q:∀r g s',I s'→pM k la lb r→Q (ar it r) (jk st g) s'):kasC (model prog w) A E (iB (ar it la) (ar it lb)) Q st s:=by
 rw[Dl]
 obtain⟨a,ea⟩:∃a,la.length=a+1:=⟨la.length - 1,by omega⟩
 simp only [aT,ea,Nat.add_sub_cancel]
 refine kasC_bind (kasC_lift (wpAny_rule (kasC_bind (el (by omega) ?_))))
 have e1:(#[kas_item it (la.getD a 0)]:Ar)=ar it [la.getD a 0].reverse:=by simp [ar]
 rw[e1]
 have m0:MJ k la lb [] (a+1) lb.length:=⟨by rw[←ea,List.take_length,List.take_length,List.append_nil],List.Pairwise.nil,fun x _ y hy=>(by cases hy),fun x _ y hy=>(by cases hy)⟩
 have m1:MJ k la lb [la.getD a 0] a lb.length:=m0.rH M.sa (by omega) fun y hy=>cI y (List.mem_of_mem_take hy) _ (by rw[ea,Nat.add_sub_cancel,jV (by omega)];exact List.mem_cons_self ..)
 by_cases tN:a=0
 ·rw[if_pos (eT tN),kG]
  exact kasC_pure (q _ (gallopOf st) s hI (m1.dn M.sa M.sb (.inl tN)))
 rw[if_neg (eU tN)]
 by_cases jy:lb.length=1
 ·rw[if_pos (eT jy),mX]
  exact kasC_pure (q _ (gallopOf st) s hI (rJ m1 M hf jy hb))
 rw[if_neg (eU jy)]
 refine kasC_bind (kasC_get (kasC_bind (bC (Q:=fun c aZ s'=>(∃g',aZ=jk st g')∧I s'∧∃r c',c=(some (ar it r),c')∧pM k la lb r) (bb (fun m c aZ s'=>(∃g',aZ=jk st g')∧I s'∧∃ro i j g,c=(none,i,j,ar it ro.reverse,g)∧MJ k la lb ro i j∧0<i∧i≤la.length∧1<j∧j≤lb.length∧i+j≤m) ⟨⟨gallopOf st,rfl⟩,hI,_,_,_,_,rfl,m1,by omega,by omega,by omega,Nat.le_refl _,by omega⟩ ?_ ?_) ?_)))
 ·rintro c aZ s' ⟨_,_,ro,i,j,g,_,_,_,_,_,_,_⟩
  omega
 ·rintro x m c aZ s' ⟨⟨g0,rfl⟩,i1,ro,i,j,g,rfl,i2,i3,F9,i4,HJ,i5⟩
  unfold P2
  refine kasC_bind (bC (Dm hc (st:=jk st g0) hk M hf i1 i2 i3 F9 i4 HJ) fun d fN s2 ⟨e1,e2,e3⟩=>?_)
  subst e1
  rcases e3 with ⟨r,c',rfl,hm⟩ | ⟨ro,i',j',u,v,rfl,e5,e6,Od,e7,Oe,e8⟩
  ·exact kasC_pure ⟨⟨g0,rfl⟩,e2,r,_,rfl,hm⟩
  ·refine kasC_bind (kasC_lift (wpAny_rule (kasC_bind (bC (Dp hc (st:=jk st g0) hk M hf e2 e5 e6 Od e7 Oe) fun f uN s3 ⟨⟨g1,f1⟩,f2,f3⟩=>?_))))
   subst f1
   rcases f3 with ⟨r,c',rfl,hm⟩ | ⟨ro,Bk,P1,g2,u2,v2,rfl,f5,f6,UU,f7,UW,f8⟩
   ·exact kasC_pure ⟨⟨g1,rfl⟩,f2,r,_,rfl,hm⟩
   ·dsimp only at e8 f8
    exact kasC_bind (kasC_modify (kasC_pure ⟨⟨g2+1,rfl⟩,f2,ro,Bk,P1,_,rfl,f5,f6,UU,f7,UW,by omega⟩))
 ·rintro c aZ s' ⟨⟨g',rfl⟩,i1,r,c',rfl,hm⟩
  exact kasC_pure (q r g' s' i1 hm)
end
end L2
namespace L2
open PySem PySem.Spec PyProof.Rows PySem.W
section
variable {prog:Program}{w:World}{A:Around}{E:Value→Shared→Prop}{κ:SortKind}{it:Array Keyed}{O:KeyOrd}{k:Nat→O.α}{n:Nat}{I:Shared→Prop}{s:Shared}{st:SortSt}
theorem Dr(i:Nat):mergeAt' i=(do
  let s←get
  let (some (x,m,pw),some (y,l,_)):=((pendingOf s)[i]?,(pendingOf s)[i+1]?) |unsupported "internal:list.sort.pending"
  set (SortSt.mk' (kindOf s) (arrOf s) (((pendingOf s).setIfInBounds i (x,m+l,pw)).eraseIdxIfInBounds (i+1)) (gallopOf s) (failedOf s))
  let some c←bO false (←elem' (arrOf s) y) (arrOf s) x m 0|return false
  let (x,m):=(x+c,m - c)
  if m==0 then return true
  let some l←bO true (←elem' (arrOf s) (x+m - 1)) (arrOf s) y l (l - 1) |return false
  if l==0 then return true
  let u:=(arrOf s).extract x y
  let v:=(arrOf s).extract y (y+l)
  let r←if m≤l then iA u v else iB u v
  modify fun s=>SortSt.mk' (kindOf s) (r.toList.zipIdx.foldl (fun a (p,j)=>a.setIfInBounds (x+j) p) (arrOf s)) (pendingOf s) (gallopOf s) (failedOf s)
  return (failedOf (←get)).isNone):=rfl
theorem HL(hc:c8 O k n I (kas_cmp prog w A κ it)){l:List Nat}{x b m h:Nat}{Q:Option Nat→SortSt→Shared→Prop}(hk:kindOf st=κ)(hl:∀y∈l,y<n)(hx:x<n)(sl:∀i j,i≤j→j<m→le k (l.getD (b+i) 0) (l.getD (b+j) 0))(hb:b+m≤l.length)(hh:h<m)(hI:I s)
  (q:∀c s',I s'→c≤m→(∀t,t<c→le k (l.getD (b+t) 0) x)→(∀t,c≤t→t<m→O.blt (k x) (k (l.getD (b+t) 0))=true)→Q (some c) st s'):kasC (model prog w) A E (bO false (kas_item it x) (ar it l) b m h) Q st s:=by
 rw[cM]
 refine mV (I:=I) (fun t=>!O.blt (k x) (k (l.getD (b+t) 0))) hh (fun i hi s1 Q' oR q'=>?_) (fun i j gQ hj e=>?_) hI fun c s' eO lC h1 h2=>q c s' eO lC (fun t ht=>?_) fun t ht hm=>?_
 ·rw[←cM]
  refine kasC_bind (el (by omega) ?_)
  rw[if_neg (by simp)]
  exact kasC_bind (qo hc hx (cD hl (by omega)) hk oR fun s2 d9=>kasC_pure (q' s2 d9))
 ·simp only [Bool.not_eq_true'] at e ⊢
  exact le.trans (sl i j gQ hj) (bJ e)
 ·have:=h1 t ht
  simp only [Bool.not_eq_true'] at this
  exact this
 ·have:=h2 t ht hm
  simpa using this
theorem HM(hc:c8 O k n I (kas_cmp prog w A κ it)){l:List Nat}{x b m h:Nat}{Q:Option Nat→SortSt→Shared→Prop}(hk:kindOf st=κ)(hl:∀y∈l,y<n)(hx:x<n)(sl:∀i j,i≤j→j<m→le k (l.getD (b+i) 0) (l.getD (b+j) 0))(hb:b+m≤l.length)(hh:h<m)(hI:I s)
  (q:∀c s',I s'→c≤m→(∀t,t<c→O.blt (k (l.getD (b+t) 0)) (k x)=true)→(∀t,c≤t→t<m→le k x (l.getD (b+t) 0))→Q (some c) st s'):kasC (model prog w) A E (bO true (kas_item it x) (ar it l) b m h) Q st s:=by
 rw[cM]
 refine mV (I:=I) (fun t=>O.blt (k (l.getD (b+t) 0)) (k x)) hh (fun i hi s1 Q' oR q'=>?_) (fun i j gQ hj e=>?_) hI fun c s' eO lC h1 h2=>q c s' eO lC h1 h2
 ·rw[←cM]
  refine kasC_bind (el (by omega) ?_)
  rw[if_pos rfl]
  exact qo hc (cD hl (by omega)) hx hk oR q'
 ·cases e2:O.blt (k (l.getD (b+i) 0)) (k x) with
  |true=>rfl
  |false=>
   have:O.blt (k (l.getD (b+j) 0)) (k x)=false:=le.trans (bJ e2) (sl i j gQ hj)
   rw[this] at e
   cases e
theorem Ds(l:List Nat)(j x:Nat):(ar it l).setIfInBounds j (kas_item it x)=ar it (l.set j x):=by
 apply Array.toList_inj.mp
 simp [ar,List.map_set]
theorem yM(p:List Nat)(a x:Nat)(h:a<p.length):(p.set a x).take (a+1)=p.take a++[x]∧(p.set a x).drop (a+1)=p.drop (a+1):=by
 constructor
 ·rw[fq (by rw[List.length_set];exact h),List.take_set_of_le (Nat.le_refl _)]
  simp [List.getD,h]
 ·rw[List.drop_set_of_lt (by omega)]
theorem rL(a:Nat):∀(r:List Nat) (c:Nat) (p:List Nat),a+c+r.length≤p.length→((r.map (kas_item it)).zipIdx c).foldl (fun t (q:Keyed×Nat)=>t.setIfInBounds (a+q.2) q.1) (ar it p)=ar it (p.take (a+c)++r++p.drop (a+c+r.length))
 | [],c,p,_=>by simp
 |x::r,c,p,h=>by
  rw[List.length_cons] at h
  rw[List.map_cons,List.zipIdx_cons,List.foldl_cons,Ds,rL a r (c+1) _ (by rw[List.length_set];omega)]
  obtain⟨e1,e2⟩:=yM p (a+c) x (by omega)
  rw[show a+(c+1)=a+c+1 by omega,e1,List.length_cons]
  have e3:(p.set (a+c) x).drop (a+c+1+r.length)=p.drop (a+c+(r.length+1)):=by
   rw[List.drop_set_of_lt (by omega)]
   congr 1
   omega
  rw[e3]
  simp
end
end L2
namespace L2
open PySem PySem.Spec PyProof.Rows PySem.W
section
variable {prog:Program}{w:World}{A:Around}{E:Value→Shared→Prop}{κ:SortKind}{it:Array Keyed}{O:KeyOrd}{k:Nat→O.α}{n:Nat}{I:Shared→Prop}{s:Shared}
def seg(p:List Nat)(a m:Nat):List Nat:=(p.drop a).take m
theorem dv{p:List Nat}{a m:Nat}(h:a+m≤p.length):(seg p a m).length=m:=by unfold seg;rw[List.length_take,List.length_drop];omega
theorem seg_at{p:List Nat}{a m t:Nat}(h:t<m):(seg p a m).getD t 0=p.getD (a+t) 0:=by
 unfold seg
 simp [List.getD,List.getElem?_take,h,List.getElem?_drop]
theorem kH(p:List Nat)(a m c:Nat):(seg p a m).drop c=seg p (a+c) (m - c):=by
 unfold seg
 rw[List.drop_take,List.drop_drop]
theorem oS(p:List Nat)(a m c:Nat)(h:c≤m):(seg p a m).take c=seg p a c:=by
 unfold seg
 rw[List.take_take,Nat.min_eq_left h]
theorem j0(p:List Nat)(a m l:Nat):seg p a m++seg p (a+m) l=seg p a (m+l):=by
 unfold seg
 rw[←List.drop_drop,List.take_add]
theorem oT(p:List Nat)(a m:Nat):p.take a++seg p a m=p.take (a+m):=by
 unfold seg
 rw[List.take_add]
theorem vN(p:List Nat)(a m:Nat):p.take a++seg p a m++p.drop (a+m)=p:=by
 rw[oT,List.take_append_drop]
theorem mY{l:List Nat}(hs:eQ k l){i j:Nat}(gQ:i≤j)(hj:j<l.length):le k (l.getD i 0) (l.getD j 0):=d4 hs (by omega) _ (by
 rw[List.mem_iff_getElem?]
 exact⟨j - i,by rw[List.getElem?_drop,show i+(j - i)=j by omega];simp [List.getD,hj]⟩)
theorem ft{l:List Nat}{y:Nat}(h:y∈l):∃t,t<l.length∧y=l.getD t 0:=by
 obtain⟨t,_,h2,e⟩:=iE (p:=l.length) (by rw[List.take_length];exact h)
 exact⟨t,h2,e⟩
theorem rM{p:List Nat}{a m y:Nat}(h:y∈seg p a m):y∈p:=List.mem_of_mem_drop (List.mem_of_mem_take h)
abbrev cU(κ:SortKind)(it:Array Keyed)(p:List Nat)(pd:Array (Nat×Nat×Nat))(g:Nat):SortSt:=SortSt.mk' κ (ar it p) pd g none
theorem vO{σ:Type}{M:Model}{aZ st:σ}{Q:PUnit→σ→Shared→Prop}(h:Q ⟨⟩ aZ s):kasC M A E (set aZ:StateT σ Sem PUnit) Q st s:=by
 unfold kasC
 rw[StateT.run_set]
 exact wpAny_pure h
theorem Dt(hc:c8 O k n I (kas_cmp prog w A κ it)){p:List Nat}{pd:Array (Nat×Nat×Nat)}{g i x m l pw P4:Nat}(e1:pd[i]? =some (x,m,pw))(e2:pd[i+1]? =some (x+m,l,P4))(hm:0<m)(hl:0<l)(hp:x+m+l≤p.length)(hn:∀y∈p,y<n)(sa:eQ k (seg p x m))(sb:eQ k (seg p (x+m) l))
  {Q:Bool→SortSt→Shared→Prop} (hI:I s) (q:∀S g' s',I s'→S.Perm (seg p x m++seg p (x+m) l)→eQ k S→Q true (cU κ it (p.take x++S++p.drop (x+m+l)) ((pd.setIfInBounds i (x,m+l,pw)).eraseIdxIfInBounds (i+1)) g') s'):
  kasC (model prog w) A E (mergeAt' i) Q (cU κ it p pd g) s:=by
 rw[Dr]
 refine kasC_bind (kasC_get ?_)
 show kasC (model prog w) A E (match (pd[i]?,pd[i+1]?) with| (some (x,m,pw),some (y,l,_))=>_|_=>_) _ _ _
 rw[e1,e2]
 dsimp only
 have lA:=dv (p:=p) (a:=x) (m:=m) (by omega)
 have lB:=dv (p:=p) (a:=x+m) (m:=l) (by omega)
 have fl:p.take x++(seg p x m++seg p (x+m) l)++p.drop (x+m+l)=p:=by
  rw[j0,show x+m+l=x+(m+l) by omega]
  exact vN p x (m+l)
 have UX:p.getD (x+m) 0<n:=cD hn (by omega)
 have gA:∀i j,i≤j→j<m→le k (p.getD (x+i) 0) (p.getD (x+j) 0):=fun i j gQ hj=>by
  have:=mY sa gQ (by omega)
  rwa [seg_at (by omega),seg_at hj] at this
 have gB:∀i j,i≤j→j<l→le k (p.getD (x+m+i) 0) (p.getD (x+m+j) 0):=fun i j gQ hj=>by
  have:=mY sb gQ (by omega)
  rwa [seg_at (by omega),seg_at hj] at this
 have Sx:∀y∈seg p x m,∃t,t<m∧y=p.getD (x+t) 0:=fun y hy=>by
  obtain⟨t,h1,e⟩:=ft hy
  rw[lA] at h1
  exact⟨t,h1,by rw[e,seg_at h1]⟩
 have Sy:∀y∈seg p (x+m) l,∃t,t<l∧y=p.getD (x+m+t) 0:=fun y hy=>by
  obtain⟨t,h1,e⟩:=ft hy
  rw[lB] at h1
  exact⟨t,h1,by rw[e,seg_at h1]⟩
 refine kasC_bind (vO (kasC_bind (el (l:=p) (by omega) (kasC_bind (HL hc rfl hn UX gA (by omega) hm hI fun c s1 oR rG g1 g2=>?_)))))
 dsimp only
 by_cases c0:m - c=0
 ·rw[if_pos (eT c0)]
  refine kasC_pure ?_
  have:=q (seg p x m++seg p (x+m) l) g s1 oR (List.Perm.refl _) (List.pairwise_append.mpr ⟨sa,sb,fun a ha b hb=>?_⟩)
  ·rw[fl] at this
   exact this
  ·obtain⟨t,h1,rfl⟩:=Sx a ha
   obtain⟨t2,h2,rfl⟩:=Sy b hb
   exact le.trans (g1 t (by omega)) (gB 0 t2 (by omega) h2)
 rw[if_neg (eU c0),show x+c+(m - c) - 1=x+(m - 1) by omega]
 refine kasC_bind (el (l:=p) (by omega) (kasC_bind (HM hc rfl hn (cD hn (by omega)) gB (by omega) (by omega) oR fun d s2 d9 UY f1 f2=>?_)))
 dsimp only
 by_cases d0:d=0
 ·rw[if_pos (eT d0)]
  refine kasC_pure ?_
  have:=q (seg p x m++seg p (x+m) l) g s2 d9 (List.Perm.refl _) (List.pairwise_append.mpr ⟨sa,sb,fun a ha b hb=>?_⟩)
  ·rw[fl] at this
   exact this
  ·obtain⟨t,h1,rfl⟩:=Sx a ha
   obtain⟨t2,h2,rfl⟩:=Sy b hb
   exact le.trans (gA t (m - 1) (by omega) (by omega)) (f2 t2 (by omega) h2)
 rw[if_neg (eU d0)]
 have UZ:(arrOf (cU κ it p pd g)).extract (x+c) (x+m)=ar it (seg p (x+c) (m - c)):=by
  show (ar it p).extract _ _=_
  rw[gg]
  unfold seg
  rw[show x+m - (x+c)=m - c by omega]
 have HN:(arrOf (cU κ it p pd g)).extract (x+m) (x+m+d)=ar it (seg p (x+m) d):=by
  show (ar it p).extract _ _=_
  rw[gg]
  unfold seg
  rw[show x+m+d - (x+m)=d by omega]
 rw[UZ,HN]
 have Bl:=dv (p:=p) (a:=x+c) (m:=m - c) (by omega)
 have vP:=dv (p:=p) (a:=x+m) (m:=d) (by omega)
 have M:MH k n (seg p (x+c) (m - c)) (seg p (x+m) d):=⟨by rw[←kH];exact sa.drop,by rw[←oS p (x+m) l d UY];exact sb.take,fun y hy=>hn y (rM hy),fun y hy=>hn y (rM hy)⟩
 have P':∀y∈seg p (x+c) (m - c),∃t,c≤t∧t<m∧y=p.getD (x+t) 0:=fun y hy=>by
  obtain⟨t,h1,e⟩:=ft hy
  rw[Bl] at h1
  exact⟨c+t,by omega,by omega,by rw[e,seg_at h1,Nat.add_assoc]⟩
 have Qa:∀y∈seg p (x+m) d,∃t,t<d∧y=p.getD (x+m+t) 0:=fun y hy=>by
  obtain⟨t,h1,e⟩:=ft hy
  rw[vP] at h1
  exact⟨t,h1,by rw[e,seg_at h1]⟩
 have cI:∀y∈seg p (x+m) d,∀z∈(seg p (x+c) (m - c)).drop ((seg p (x+c) (m - c)).length - 1),le k y z:=fun y hy z hz=>by
  rw[Bl,kH] at hz
  obtain⟨t,h1,e⟩:=ft hz
  rw[dv (by omega)] at h1
  rw[seg_at h1] at e
  obtain⟨t2,h2,rfl⟩:=Qa y hy
  rw[e,show x+c+(m - c - 1)+t=x+(m - 1) by omega]
  exact le_of_lt (f1 t2 h2)
 have hf:∀z∈seg p (x+c) (m - c),le k ((seg p (x+m) d).getD 0 0) z:=fun z hz=>by
  rw[seg_at (by omega)]
  obtain⟨t,h1,h2,rfl⟩:=P' z hz
  exact le_of_lt (g2 t h1 h2)
 have h0:le k ((seg p (x+m) d).getD 0 0) ((seg p (x+c) (m - c)).getD 0 0):=hf _ (by
  rw[←List.take_length (l:=seg p (x+c) (m - c)),show (seg p (x+c) (m - c)).length=(m - c - 1)+1 by omega]
  have:=fq (l:=seg p (x+c) (m - c)) (i:=0) (by omega)
  exact List.mem_of_mem_take (i:=1) (by rw[List.take_take,Nat.min_eq_left (by omega),this];simp))
 have fin:∀r g' s',I s'→pM k (seg p (x+c) (m - c)) (seg p (x+m) d) r→kasC (model prog w) A E (do
   modify fun s=>SortSt.mk' (kindOf s) ((ar it r).toList.zipIdx.foldl (fun a (p,j)=>a.setIfInBounds (x+c+j) p) (arrOf s)) (pendingOf s) (gallopOf s) (failedOf s)
   return (failedOf (←get)).isNone) Q (jk (cU κ it p ((pd.setIfInBounds i (x,m+l,pw)).eraseIdxIfInBounds (i+1)) g) g') s':=fun r g' s' eO hM=>by
  obtain⟨pr,ir⟩:=hM
  have lr:r.length=(m - c)+d:=by rw[pr.length_eq,List.length_append,Bl,vP]
  refine kasC_bind (kasC_modify (kasC_bind (kasC_get (kasC_pure ?_))))
  have hb:=rL (it:=it) (x+c) r 0 p (by omega)
  rw[Nat.add_zero] at hb
  have tl:(ar it r).toList=r.map (kas_item it):=by simp [ar]
  have inr:∀y∈r,y∈seg p (x+c) (m - c)∨y∈seg p (x+m) d:=fun y hy=>List.mem_append.mp (pr.mem_iff.mp hy)
  have eS:p.take (x+c)++r++p.drop (x+c+r.length)=p.take x++(seg p x c++r++seg p (x+m+d) (l - d))++p.drop (x+m+l):=by
   have e3:p.drop (x+c+r.length)=seg p (x+m+d) (l - d)++p.drop (x+m+l):=by
    rw[lr,show x+c+(m - c+d)=x+m+d by omega]
    unfold seg
    have:=List.take_append_drop (l - d) (p.drop (x+m+d))
    rw[List.drop_drop,show x+m+d+(l - d)=x+m+l by omega] at this
    exact this.symm
   rw[e3,←oT p x c]
   simp
  have:=q (seg p x c++r++seg p (x+m+d) (l - d)) g' s' eO ?_ ?_
  ·rw[←eS] at this
   have this:Q true (SortSt.mk' κ (ar it (p.take (x+c)++r++p.drop (x+c+r.length))) ((pd.setIfInBounds i (x,m+l,pw)).eraseIdxIfInBounds (i+1)) g' none) s':=this
   rw[←hb,←tl] at this
   exact this
  ·have eA:seg p x m=seg p x c++seg p (x+c) (m - c):=by rw[j0,show c+(m - c)=m by omega]
   have eB:seg p (x+m) l=seg p (x+m) d++seg p (x+m+d) (l - d):=by rw[j0,show d+(l - d)=l by omega]
   rw[eA,eB]
   have:=(pr.append_left (seg p x c)).append_right (seg p (x+m+d) (l - d))
   simpa using this
  ·have low:∀a∈seg p x c,∃t,t<c∧a=p.getD (x+t) 0:=fun a ha=>by
    obtain⟨t,h1,e⟩:=ft ha
    rw[dv (by omega)] at h1
    exact⟨t,h1,by rw[e,seg_at h1]⟩
   have top:∀a∈seg p (x+m+d) (l - d),∃t,d≤t∧t<l∧a=p.getD (x+m+t) 0:=fun a ha=>by
    obtain⟨t,h1,e⟩:=ft ha
    rw[dv (by omega)] at h1
    exact⟨d+t,by omega,by omega,by rw[e,seg_at h1,Nat.add_assoc]⟩
   have iL:eQ k (seg p x c):=by rw[←oS p x m c (by omega)];exact sa.take
   have iT:eQ k (seg p (x+m+d) (l - d)):=by rw[←kH];exact sb.drop
   refine List.pairwise_append.mpr ⟨List.pairwise_append.mpr ⟨iL,ir,fun a ha b hb=>?_⟩,iT,fun a ha b hb=>?_⟩
   ·obtain⟨t,h1,rfl⟩:=low a ha
    rcases inr b hb with z|z
    ·obtain⟨t2,h2,h3,rfl⟩:=P' b z
     exact gA t t2 (by omega) h3
    ·obtain⟨t2,h2,rfl⟩:=Qa b z
     exact le.trans (g1 t h1) (gB 0 t2 (by omega) (by omega))
   ·obtain⟨t2,h2,h3,rfl⟩:=top b hb
    rcases List.mem_append.mp ha with z|z
    ·obtain⟨t,h1,rfl⟩:=low a z
     exact le.trans (g1 t h1) (gB 0 t2 (by omega) h3)
    ·rcases inr a z with z|z
     ·obtain⟨t,h1,h4,rfl⟩:=P' a z
      exact le.trans (gA t (m - 1) (by omega) (by omega)) (f2 t2 h2 h3)
     ·obtain⟨t,h1,rfl⟩:=Qa a z
      exact gB t t2 (by omega) h3
 split
 ·exact kasC_bind (Dk hc (st:=cU κ it p _ g) rfl M cI (by omega) (by omega) h0 d9 fun r g' s' eO hM=>fin r g' s' eO hM)
 ·exact kasC_bind (Dq hc (st:=cU κ it p _ g) rfl M hf cI (by omega) (by omega) d9 fun r g' s' eO hM=>fin r g' s' eO hM)
end
end L2
namespace L2
open PySem PySem.Spec PyProof.Rows PySem.W
abbrev R1:=Option (Option Nat)×Nat
abbrev Ga:=Option (Option Nat)×Nat×Nat
def Du(lo a bt:Nat):SM R1:=forIn [a:bt] ((none,a):R1) fun _ c=>do
 match←ltAt' (lo+c.2) (lo+c.2 - 1) with
 |some d=>if d=true then pure (.done (none,c.2)) else pure (.yield (none,c.2+1))
 |_=>pure (.done (some none,c.2))
def yN(lo m bt:Nat):SM (Option Nat):=do
 reverseSlice' lo (lo+m)
 let c←Du lo m bt
 oC c.1 (fun r=>pure r) (pure (some c.2))
def Qb(lo:Nat)(c:Ga):SM (ForInStep Ga):=do
 match←ltAt' (lo+c.2.1) (lo+c.2.1 - 1) with
 |some d=>
  if d=true then
   if c.2.2>0 then do
    reverseSlice' (lo+c.2.1 - (c.2.2+1)) (lo+c.2.1)
    pure (.yield (none,c.2.1+1,0))
   else pure (.yield (none,c.2.1+1,0))
  else do
   match←ltAt' (lo+c.2.1 - 1) (lo+c.2.1) with
   |some e=>if e=true then pure (.done (none,c.2.1,c.2.2)) else pure (.yield (none,c.2.1+1,c.2.2+1))
   |_=>pure (.done (some none,c.2.1,c.2.2))
 |_=>pure (.done (some none,c.2.1,c.2.2))
def Gb(lo m bt:Nat):SM (Option Nat):=do
 rule "list.sort.descending-run"
 let c←forIn [m+1:bt] ((none,m+1,0):Ga) fun _=>Qb lo
 oC c.1 (fun r=>pure r) (if c.2.2>0 then do
     reverseSlice' (lo+c.2.1 - (c.2.2+1)) (lo+c.2.1)
     yN lo c.2.1 bt
  else yN lo c.2.1 bt)
theorem vQ(lo m bt:Nat){f:R1→SM (Option Nat)}(hf:∀c:R1,f c=oC c.1 (fun r=>pure r) (pure (some c.2))):(do reverseSlice' lo (lo+m);let c←Du lo m bt;f c)=yN lo m bt:=by
 unfold yN
 congr 1
 funext _
 congr 1
 funext c
 exact hf c
theorem HP(lo bt:Nat):countRun' lo bt=(do
  let c←Du lo 1 bt
  oC c.1 (fun r=>pure r) (if (c.2==bt)=true then pure (some c.2) else if c.2>1 then do
      match←ltAt' lo (lo+c.2 - 1) with
      |some d=>if d=true then pure (some c.2) else do
        reverseSlice' lo (lo+c.2)
        Gb lo c.2 bt
      |_=>pure none
   else Gb lo c.2 bt)):=by
 rw[countRun'_eq]
 dsimp only
 have tl:∀(m:Nat) {f:R1→SM (Option Nat)},(∀c:R1,f c=oC c.1 (fun r=>pure r) (pure (some c.2)))→(do reverseSlice' lo (lo+m);let c←Du lo m bt;f c)=yN lo m bt:=fun m f hf=>vQ lo m bt hf
 unfold Du
 congr 1
 funext c
 obtain⟨r,m⟩:=c
 cases r with
 |some r=>rfl
 |none=>
  dsimp only [oC]
  split
  ·rfl
  ·have e:∀{g:Ga→SM (Option Nat)},(∀c:Ga,g c=oC c.1 (fun r=>pure r) (if c.2.2>0 then do
     reverseSlice' (lo+c.2.1 - (c.2.2+1)) (lo+c.2.1)
     yN lo c.2.1 bt
    else yN lo c.2.1 bt))→(do rule "list.sort.descending-run";let c←forIn [m+1:bt] ((none,m+1,0):Ga) fun _=>Qb lo;g c)=Gb lo m bt:=fun {g} hg=>by
    unfold Gb
    congr 1
    funext _
    congr 1
    funext c
    exact hg c
   split
   ·congr 1
    funext x
    cases x with
    |none=>rfl
    |some d=>
     dsimp only
     split
     ·rfl
     ·congr 1
      funext _
      refine e (g:=_) fun c=>?_
      obtain⟨r,a,b⟩:=c
      cases r with
      |some r=>rfl
      |none=>
       dsimp only [oC]
       split
       ·congr 1
        funext _
        exact tl a fun d=>by obtain⟨r,x⟩:=d;cases r<;>rfl
       ·exact tl a fun d=>by obtain⟨r,x⟩:=d;cases r<;>rfl
   ·refine e (g:=_) fun c=>?_
    obtain⟨r,a,b⟩:=c
    cases r with
    |some r=>rfl
    |none=>
     dsimp only [oC]
     split
     ·congr 1
      funext _
      exact tl a fun d=>by obtain⟨r,x⟩:=d;cases r<;>rfl
     ·exact tl a fun d=>by obtain⟨r,x⟩:=d;cases r<;>rfl
end L2
namespace L2
open PySem PySem.Spec PyProof.Rows PySem.W
section
variable {it:Array Keyed}
def tO(p:List Nat)(i j:Nat):List Nat:=(mirror p.toArray i j ((j - i) /2)).toList
theorem Dv(p:List Nat)(i j:Nat):mirror (ar it p) i j ((j - i) /2)=ar it (tO p i j):=by
 rw[cM,cM]
 have:mirror (p.toArray.map (kas_item it)) i j ((j - i) /2)=(mirror p.toArray i j ((j - i) /2)).map (kas_item it):=kas_swaps_map (kas_item it) (fun k=>i+k) (fun k=>j - 1 - k) _ p.toArray
 rw[this]
 unfold tO
 rw[Array.toArray_toList]
theorem vR(p:List Nat)(i j:Nat):(tO p i j).Perm p:=by
 have:=Array.perm_iff_toList_perm.mp (mirror_perm p.toArray i j ((j - i) /2))
 simpa [tO] using this
theorem rvs_at?{p:List Nat}{i j:Nat}(hj:j≤p.length)(m:Nat):(tO p i j)[m]? =if i≤m∧m<j then p[i+j - 1 - m]? else p[m]? :=by
 have:=getElem?_mirror_all (xs:=p.toArray) (i:=i) (j:=j) (by simpa using hj) m
 unfold tO
 rw[Array.getElem?_toList,this]
 split<;>simp
theorem qr{p:List Nat}{i j:Nat}(hj:j≤p.length)(m:Nat):(tO p i j).getD m 0=if i≤m∧m<j then p.getD (i+j - 1 - m) 0 else p.getD m 0:=by
 rw[List.getD_eq_getElem?_getD,rvs_at? hj]
 split<;>rw[List.getD_eq_getElem?_getD]
theorem vS{p:List Nat}{i j lo:Nat}(hj:j≤p.length)(h:lo≤i):(tO p i j).take lo=p.take lo:=by
 apply List.ext_getElem?
 intro m
 rw[List.getElem?_take,List.getElem?_take]
 split
 ·rw[rvs_at? hj,if_neg (by omega)]
 ·rfl
end
section
variable {prog:Program}{w:World}{A:Around}{E:Value→Shared→Prop}{κ:SortKind}{it:Array Keyed}{O:KeyOrd}{k:Nat→O.α}{n:Nat}{I:Shared→Prop}{s:Shared}{pd:Array (Nat×Nat×Nat)}{g:Nat}
theorem rN{p:List Nat}{i j:Nat}{Q:Unit→SortSt→Shared→Prop}(q:Q () (cU κ it (tO p i j) pd g) s):kasC (model prog w) A E (reverseSlice' i j) Q (cU κ it p pd g) s:=by
 rw[reverseSlice'_eq]
 refine kasC_modify ?_
 have:setArr (cU κ it p pd g) (mirror (arrOf (cU κ it p pd g)) i j ((j - i) /2))=cU κ it (tO p i j) pd g:=by
  show SortSt.mk' κ (mirror (ar it p) i j ((j - i) /2)) pd g none=_
  rw[Dv]
 rw[this]
 exact q
theorem kI(hc:c8 O k n I (kas_cmp prog w A κ it)){p:List Nat}(hn:∀y∈p,y<n){i j:Nat}(hi:i<p.length)(hj:j<p.length){Q:Option Bool→SortSt→Shared→Prop}(hI:I s)(q:∀s',I s'→Q (some (O.blt (k (p.getD i 0)) (k (p.getD j 0)))) (cU κ it p pd g) s'):
  kasC (model prog w) A E (ltAt' i j) Q (cU κ it p pd g) s:=by
 rw[ltAt'_eq]
 exact kasC_bind (kasC_get (kasC_bind (el (l:=p) hi (kasC_bind (el (l:=p) hj (qo hc (cD hn hi) (cD hn hj) rfl hI q))))))
def cT(k:Nat→O.α)(p:List Nat)(lo m:Nat):Prop:=∀i j,i≤j→j<m→le k (p.getD (lo+i) 0) (p.getD (lo+j) 0)
def jz(k:Nat→O.α)(p:List Nat)(lo m:Nat):Prop:=∀i j,i≤j→j<m→le k (p.getD (lo+j) 0) (p.getD (lo+i) 0)
theorem cT.snoc{p:List Nat}{lo m:Nat}(h:cT k p lo m)(h1:1≤m)(e:le k (p.getD (lo+m - 1) 0) (p.getD (lo+m) 0)):cT k p lo (m+1):=fun i j gQ hj=>by
 by_cases Qc:j<m
 ·exact h i j gQ Qc
 ·have:j=m:=by omega
  subst this
  by_cases hi:i=j
  ·subst hi;exact KeyOrd.kle_refl _
  ·refine le.trans (h i (j - 1) (by omega) (by omega)) ?_
   rw[show lo+(j - 1)=lo+j - 1 by omega]
   exact e
theorem jz.snoc{p:List Nat}{lo m:Nat}(h:jz k p lo m)(h1:1≤m)(e:le k (p.getD (lo+m) 0) (p.getD (lo+m - 1) 0)):jz k p lo (m+1):=fun i j gQ hj=>by
 by_cases Qc:j<m
 ·exact h i j gQ Qc
 ·have:j=m:=by omega
  subst this
  by_cases hi:i=j
  ·subst hi;exact KeyOrd.kle_refl _
  ·have:=h i (j - 1) (by omega) (by omega)
   rw[show lo+(j - 1)=lo+j - 1 by omega] at this
   exact le.trans e this
structure Mv(lo:Nat)(p p':List Nat):Prop where
 perm:p'.Perm p
 tk:p'.take lo=p.take lo
theorem Mv.refl{lo:Nat}{p:List Nat}:Mv lo p p:=⟨List.Perm.refl _,rfl⟩
theorem Mv.len{lo:Nat}{p p':List Nat}(h:Mv lo p p'):p'.length=p.length:=h.perm.length_eq
theorem Mv.rev{lo:Nat}{p p':List Nat}(h:Mv lo p p'){i j:Nat}(hi:lo≤i)(hj:j≤p'.length):Mv lo p (tO p' i j):=⟨(vR p' i j).trans h.perm,(vS hj hi).trans h.tk⟩
theorem vT(hc:c8 O k n I (kas_cmp prog w A κ it)){p:List Nat}(hn:∀y∈p,y<n){lo a bt:Nat}(h1:1≤a)(ha:a≤bt)(hp:lo+bt≤p.length)(hs:cT k p lo a)(hI:I s){Q:R1→SortSt→Shared→Prop}
  (q:∀m s',I s'→a≤m→m≤bt→cT k p lo m→(m=bt∨O.blt (k (p.getD (lo+m) 0)) (k (p.getD (lo+m - 1) 0))=true)→Q (none,m) (cU κ it p pd g) s'):kasC (model prog w) A E (Du lo a bt) Q (cU κ it p pd g) s:=by
 unfold Du
 refine bb (fun j c aZ s'=>∃m,c=(none,m)∧aZ=cU κ it p pd g∧I s'∧a≤m∧m+j=bt∧cT k p lo m) ⟨a,rfl,rfl,hI,Nat.le_refl _,by omega,hs⟩ ?_ ?_
 ·rintro c aZ s' ⟨m,rfl,rfl,i1,i2,i3,i4⟩
  exact q m s' i1 i2 (by omega) i4 (.inl (by omega))
 ·rintro x j c aZ s' ⟨m,rfl,rfl,i1,i2,i3,i4⟩
  refine kasC_bind (kI hc hn (by omega) (by omega) i1 fun s2 d9=>?_)
  dsimp only
  cases e:O.blt (k (p.getD (lo+m) 0)) (k (p.getD (lo+m - 1) 0)) with
  |true=>
   rw[if_pos rfl]
   exact kasC_pure (q m s2 d9 i2 (by omega) i4 (.inr e))
  |false=>
   rw[if_neg (by simp)]
   exact kasC_pure ⟨m+1,rfl,rfl,d9,by omega,by omega,i4.snoc (by omega) (bJ e)⟩
theorem vU(hc:c8 O k n I (kas_cmp prog w A κ it)){p0 p:List Nat}(hn:∀y∈p0,y<n){lo m bt:Nat}(hv:Mv lo p0 p)(h1:1≤m)(hm:m≤bt)(hp:lo+bt≤p0.length)(hd:jz k p lo m)(hI:I s){Q:Option Nat→SortSt→Shared→Prop}
  (q:∀a p' s',I s'→1≤a→a≤bt→Mv lo p0 p'→cT k p' lo a→Q (some a) (cU κ it p' pd g) s'):kasC (model prog w) A E (yN lo m bt) Q (cU κ it p pd g) s:=by
 unfold yN
 have hl:=hv.len
 have CO:=hv.rev (i:=lo) (j:=lo+m) (Nat.le_refl _) (by omega)
 refine kasC_bind (rN (kasC_bind (vT hc (fun y hy=>hn y (CO.perm.mem_iff.mp hy)) h1 hm (by rw[CO.len];exact hp) (fun i j gQ hj=>?_) hI fun a s' eO ha U0 hs _=>kasC_pure (q a _ s' eO (by omega) U0 CO hs))))
 rw[qr (by omega),qr (by omega),if_pos (by omega),if_pos (by omega)]
 have:=hd (m - 1 - j) (m - 1 - i) (by omega) (by omega)
 rwa [show lo+(m - 1 - j)=lo+(lo+m) - 1 - (lo+j) by omega,show lo+(m - 1 - i)=lo+(lo+m) - 1 - (lo+i) by omega] at this
theorem oU{p:List Nat}{i j:Nat}(hj:j≤p.length)(he:∀m,i≤m→m<j→k (p.getD m 0)=k (p.getD (j - 1) 0))(m:Nat):k ((tO p i j).getD m 0)=k (p.getD m 0):=by
 rw[qr hj]
 split
 ·rw[he _ (by omega) (by omega),he m (by omega) (by omega)]
 ·rfl
theorem vV(hc:c8 O k n I (kas_cmp prog w A κ it)){p0 p:List Nat}(hn:∀y∈p0,y<n){lo m bt:Nat}(hv:Mv lo p0 p)(hm:m+1≤bt)(hp:lo+bt≤p0.length)(hd:jz k p lo (m+1))(hI:I s){Q:Option Nat→SortSt→Shared→Prop}
  (q:∀a p' s',I s'→1≤a→a≤bt→Mv lo p0 p'→cT k p' lo a→Q (some a) (cU κ it p' pd g) s'):kasC (model prog w) A E (Gb lo m bt) Q (cU κ it p pd g) s:=by
 unfold Gb
 have eqv:∀{p:List Nat} {a b:Nat},Mv lo p0 p→b+1≤a→a≤bt→(∀t,a - (b+1)≤t→t<a→k (p.getD (lo+t) 0)=k (p.getD (lo+a - 1) 0))→∀t,k ((tO p (lo+a - (b+1)) (lo+a)).getD t 0)=k (p.getD t 0):=fun {p a b} h1 h2 h3 h4 t=>by
  refine oU (by rw[h1.len];omega) (fun t' WA Of=>?_) t
  have:=h4 (t' - lo) (by omega) (by omega)
  rwa [show lo+(t' - lo)=t' by omega] at this
 refine kasC_bind (kasC_lift (wpAny_rule (kasC_bind (bC (Q:=fun c aZ s'=>∃a b p',c=(none,a,b)∧aZ=cU κ it p' pd g∧I s'∧Mv lo p0 p'∧b+1≤a∧a≤bt∧jz k p' lo a∧∀t,a - (b+1)≤t→t<a→k (p'.getD (lo+t) 0)=k (p'.getD (lo+a - 1) 0)) (bb (fun j c aZ s'=>∃a b p',c=(none,a,b)∧aZ=cU κ it p' pd g∧I s'∧Mv lo p0 p'∧b+1≤a∧a+j=bt∧jz k p' lo a∧∀t,a - (b+1)≤t→t<a→k (p'.getD (lo+t) 0)=k (p'.getD (lo+a - 1) 0)) ⟨m+1,0,p,rfl,rfl,hI,hv,by omega,by omega,hd,fun t h1 h2=>by rw[show lo+t=lo+(m+1) - 1 by omega]⟩ ?_ ?_) ?_))))
 ·rintro c aZ s' ⟨a,b,p',rfl,rfl,i1,i2,i3,i4,i5,i6⟩
  exact⟨a,b,p',rfl,rfl,i1,i2,i3,by omega,i5,i6⟩
 ·rintro x j c aZ s' ⟨a,b,p',rfl,rfl,i1,i2,i3,i4,i5,i6⟩
  have hl:=i2.len
  have A7:∀y∈p',y<n:=fun y hy=>hn y (i2.perm.mem_iff.mp hy)
  unfold Qb
  dsimp only
  refine kasC_bind (kI hc A7 (by omega) (by omega) i1 fun s2 d9=>?_)
  dsimp only
  cases e:O.blt (k (p'.getD (lo+a) 0)) (k (p'.getD (lo+a - 1) 0)) with
  |true=>
   rw[if_pos rfl]
   have Sz:jz k p' lo (a+1):=i5.snoc (by omega) (le_of_lt e)
   by_cases hb:b>0
   ·rw[if_pos hb]
    have ev:=eqv i2 i3 (by omega) i6
    refine kasC_bind (rN (kasC_pure ⟨a+1,0,_,rfl,rfl,d9,i2.rev (by omega) (by omega),by omega,by omega,fun i j' gQ hj=>?_,fun t h1 h2=>by rw[show lo+t=lo+(a+1) - 1 by omega]⟩))
    unfold le
    rw[ev,ev]
    exact Sz i j' gQ hj
   ·rw[if_neg hb]
    exact kasC_pure ⟨a+1,0,p',rfl,rfl,d9,i2,by omega,by omega,Sz,fun t h1 h2=>by rw[show lo+t=lo+(a+1) - 1 by omega]⟩
  |false=>
   rw[if_neg (by simp)]
   refine kasC_bind (kI hc A7 (by omega) (by omega) d9 fun s3 Dw=>?_)
   dsimp only
   cases e2:O.blt (k (p'.getD (lo+a - 1) 0)) (k (p'.getD (lo+a) 0)) with
   |true=>
    rw[if_pos rfl]
    exact kasC_pure ⟨a,b,p',rfl,rfl,Dw,i2,i3,by omega,i5,i6⟩
   |false=>
    rw[if_neg (by simp)]
    have eq:k (p'.getD (lo+a) 0)=k (p'.getD (lo+a - 1) 0):=O.total _ _ e e2
    refine kasC_pure ⟨a+1,b+1,p',rfl,rfl,Dw,i2,by omega,by omega,i5.snoc (by omega) (bJ e2),fun t h1 h2=>?_⟩
    rw[show lo+(a+1) - 1=lo+a by omega]
    by_cases ht:t<a
    ·rw[i6 t (by omega) ht,eq]
    ·rw[show t=a by omega]
 ·rintro c aZ s' ⟨a,b,p',rfl,rfl,i1,i2,i3,i4,i5,i6⟩
  have hl:=i2.len
  dsimp only [oC]
  by_cases hb:b>0
  ·rw[if_pos hb]
   have ev:=eqv i2 i3 i4 i6
   refine kasC_bind (rN (vU hc hn (i2.rev (by omega) (by omega)) (by omega) i4 hp (fun i j gQ hj=>?_) i1 q))
   unfold le
   rw[ev,ev]
   exact i5 i j gQ hj
  ·rw[if_neg hb]
   exact vU hc hn i2 (by omega) i4 hp i5 i1 q
theorem tP(hc:c8 O k n I (kas_cmp prog w A κ it)){p:List Nat}(hn:∀y∈p,y<n){lo bt:Nat}(h1:1≤bt)(hp:lo+bt≤p.length)(hI:I s){Q:Option Nat→SortSt→Shared→Prop}
  (q:∀a p' s',I s'→1≤a→a≤bt→Mv lo p p'→cT k p' lo a→Q (some a) (cU κ it p' pd g) s'):kasC (model prog w) A E (countRun' lo bt) Q (cU κ it p pd g) s:=by
 rw[HP]
 refine kasC_bind (vT hc hn (Nat.le_refl 1) h1 hp (fun i j gQ hj=>by rw[show i=j by omega];exact KeyOrd.kle_refl _) hI fun m s1 oR hm Og hs U3=>?_)
 dsimp only [oC]
 by_cases e:m=bt
 ·rw[if_pos (eT e)]
  exact kasC_pure (q m p s1 oR hm Og Mv.refl hs)
 rw[if_neg (eU e)]
 have jQ:O.blt (k (p.getD (lo+m) 0)) (k (p.getD (lo+m - 1) 0))=true:=U3.resolve_left e
 by_cases SA:m>1
 ·rw[if_pos SA]
  refine kasC_bind (kI hc hn (by omega) (by omega) oR fun s2 d9=>?_)
  dsimp only
  cases e2:O.blt (k (p.getD lo 0)) (k (p.getD (lo+m - 1) 0)) with
  |true=>
   rw[if_pos rfl]
   exact kasC_pure (q m p s2 d9 hm Og Mv.refl hs)
  |false=>
   rw[if_neg (by simp)]
   have same:∀t,t<m→k (p.getD (lo+t) 0)=k (p.getD (lo+m - 1) 0):=fun t ht=>by
    have a1:=hs t (m - 1) (by omega) (by omega)
    have a2:=hs 0 t (by omega) ht
    rw[show lo+(m - 1)=lo+m - 1 by omega] at a1
    have a3:le k (p.getD (lo+m - 1) 0) (p.getD (lo+t) 0):=le.trans (bJ e2) (by rw[Nat.add_zero] at a2;exact a2)
    exact O.total _ _ a3 a1
   have ev:=oU (k:=k) (p:=p) (i:=lo) (j:=lo+m) (by omega) fun t h1 h2=>by
    have:=same (t - lo) (by omega)
    rwa [show lo+(t - lo)=t by omega] at this
   refine kasC_bind (rN (vV hc hn (Mv.refl.rev (Nat.le_refl _) (by omega)) (by omega) hp (fun i j gQ hj=>?_) d9 q))
   unfold le
   rw[ev,ev]
   by_cases tM:j<m
   ·show le k _ _
    have:k (p.getD (lo+j) 0)=k (p.getD (lo+i) 0):=by rw[same j tM,same i (by omega)]
    unfold le
    rw[this]
    exact KeyOrd.kle_refl _
   ·have ej:j=m:=by omega
    subst ej
    by_cases hi:i=j
    ·subst hi;exact KeyOrd.kle_refl _
    ·have:=same i (by omega)
     rw[this]
     exact le_of_lt jQ
 ·rw[if_neg SA]
  have em:m=1:=by omega
  subst em
  refine vV hc hn Mv.refl (by omega) hp (fun i j gQ hj=>?_) oR q
  by_cases hi:i=j
  ·subst hi;exact KeyOrd.kle_refl _
  ·have ei:i=0:=by omega
   have ej:j=1:=by omega
   subst ei ej
   exact le_of_lt jQ
end
end L2
namespace L2
open PySem PySem.Spec PyProof.Rows PySem.W
section
variable {it:Array Keyed}
def uy(p:List Nat)(src d:Nat):List Nat:=(bubble p.toArray src d).toList
theorem Dx(p:List Nat)(src d:Nat):bubble (ar it p) src d=ar it (uy p src d):=by
 rw[cM,cM]
 have:bubble (p.toArray.map (kas_item it)) src d=(bubble p.toArray src d).map (kas_item it):=kas_swaps_map (kas_item it) (fun i=>src - i) (fun i=>src - i - 1) _ p.toArray
 rw[this]
 unfold uy
 rw[Array.toArray_toList]
theorem vW(p:List Nat)(src d:Nat):(uy p src d).Perm p:=by
 have:=Array.perm_iff_toList_perm.mp (bubble_perm p.toArray src d)
 simpa [uy] using this
theorem bub_at?{p:List Nat}{src d:Nat}(hs:src<p.length)(hd:d≤src)(m:Nat):(uy p src d)[m]? =if m=src - d then p[src]? else if src - d<m∧m≤src then p[m - 1]? else p[m]? :=by
 have:=getElem?_bubble (xs:=p.toArray) (src:=src) (by simpa using hs) d hd m
 unfold uy
 rw[Array.getElem?_toList,this]
 simp
theorem Dy{p:List Nat}{src d:Nat}(hs:src<p.length)(hd:d≤src)(m:Nat):(uy p src d).getD m 0=if m=src - d then p.getD src 0 else if src - d<m∧m≤src then p.getD (m - 1) 0 else p.getD m 0:=by
 rw[List.getD_eq_getElem?_getD,bub_at? hs hd]
 by_cases h1:m=src - d
 ·rw[if_pos h1,if_pos h1,List.getD_eq_getElem?_getD]
 ·rw[if_neg h1,if_neg h1]
  by_cases h2:src - d<m∧m≤src
  ·rw[if_pos h2,if_pos h2,List.getD_eq_getElem?_getD]
  ·rw[if_neg h2,if_neg h2,List.getD_eq_getElem?_getD]
theorem vX{p:List Nat}{src d lo:Nat}(hs:src<p.length)(hd:d≤src)(h:lo≤src - d):(uy p src d).take lo=p.take lo:=by
 apply List.ext_getElem?
 intro m
 rw[List.getElem?_take,List.getElem?_take]
 split
 ·rw[bub_at? hs hd,if_neg (by omega),if_neg (by omega)]
 ·rfl
end
section
variable {prog:Program}{w:World}{A:Around}{E:Value→Shared→Prop}{κ:SortKind}{it:Array Keyed}{O:KeyOrd}{k:Nat→O.α}{n:Nat}{I:Shared→Prop}{s:Shared}{pd:Array (Nat×Nat×Nat)}{g:Nat}
theorem qs{σ β:Type}{M:Model}{f:Nat→β→StateT σ Sem (ForInStep β)}{a m:Nat}(Inv:Nat→β→σ→Shared→Prop){Q:β→σ→Shared→Prop}{b:β}{st:σ}{s:Shared}(WB:a≤m)(h0:Inv a b st s)(hz:∀b st s,Inv m b st s→Q b st s)
  (hs:∀i b st s,a≤i→i<m→Inv i b st s→kasC M A E (f i b) (fun r aZ s'=>match r with| .done b'=>Q b' aZ s'| .yield b'=>Inv (i+1) b' aZ s') st s):kasC M A E (forIn [a:m] b f) Q st s:=by
 refine kasC_range ?_
 have go:∀(c i:Nat) (b:β) (st:σ) (s:Shared),a≤i→i+c=m→Inv i b st s→kasC M A E (forIn (List.range' i c) b f) Q st s:=by
  intro c
  induction c with
  |zero=>intro i b st s h1 h2 h;exact kasC_nil (hz b st s (by rw[show m=i by omega];exact h))
  |succ c ih=>
   intro i b st s h1 h2 h
   rw[List.range'_succ]
   refine kasC_cons (wpAny_mono (hs i b st s h1 (by omega) h) (fun r s' h'=>?_) fun _ _ e=>e)
   obtain⟨r,aZ⟩:=r
   cases r with
   |done b'=>exact h'
   |yield b'=>exact ih (i+1) b' aZ s' (by omega) (by omega) h'
 exact go (m - a) a b st s (Nat.le_refl _) (by omega) h0
theorem Dz{p:List Nat}{i j:Nat}{Q:Unit→SortSt→Shared→Prop}(q:Q () (cU κ it (uy p i (i - j)) pd g) s):kasC (model prog w) A E (moveDown' i j) Q (cU κ it p pd g) s:=by
 rw[moveDown'_eq]
 refine kasC_modify ?_
 have:setArr (cU κ it p pd g) (bubble (arrOf (cU κ it p pd g)) i (i - j))=cU κ it (uy p i (i - j)) pd g:=by
  show SortSt.mk' κ (bubble (ar it p) i (i - j)) pd g none=_
  rw[Dx]
 rw[this]
 exact q
theorem DA{p:List Nat}{lo c l:Nat}(hp:lo+c<p.length)(hl:l≤c)(hs:cT k p lo c)(h1:∀t,t<l→le k (p.getD (lo+t) 0) (p.getD (lo+c) 0))(h2:∀t,l≤t→t<c→O.blt (k (p.getD (lo+c) 0)) (k (p.getD (lo+t) 0))=true):cT k (uy p (lo+c) (lo+c - (lo+l))) lo (c+1):=fun i j gQ hj=>by
 have hb:∀t,t≤c→(uy p (lo+c) (lo+c - (lo+l))).getD (lo+t) 0=if t=l then p.getD (lo+c) 0 else if l<t then p.getD (lo+(t - 1)) 0 else p.getD (lo+t) 0:=fun t ht=>by
  rw[Dy hp (by omega)]
  by_cases e:t=l
  ·rw[if_pos (by omega),if_pos e]
  ·rw[if_neg (by omega),if_neg e]
   by_cases e2:l<t
   ·rw[if_pos (by omega),if_pos e2,show lo+t - 1=lo+(t - 1) by omega]
   ·rw[if_neg (by omega),if_neg e2]
 rw[hb i (by omega),hb j (by omega)]
 by_cases ei:i=l
 ·rw[if_pos ei]
  by_cases ej:j=l
  ·rw[if_pos ej];exact KeyOrd.kle_refl _
  ·rw[if_neg ej,if_pos (by omega)]
   exact le_of_lt (h2 (j - 1) (by omega) (by omega))
 ·rw[if_neg ei]
  by_cases e2:l<i
  ·rw[if_pos e2,if_neg (by omega),if_pos (by omega)]
   exact hs (i - 1) (j - 1) (by omega) (by omega)
  ·rw[if_neg e2]
   by_cases ej:j=l
   ·rw[if_pos ej];exact h1 i (by omega)
   ·rw[if_neg ej]
    by_cases e3:l<j
    ·rw[if_pos e3];exact hs i (j - 1) (by omega) (by omega)
    ·rw[if_neg e3];exact hs i j gQ (by omega)
theorem yO(hc:c8 O k n I (kas_cmp prog w A κ it)){p:List Nat}(hn:∀y∈p,y<n){lo m ok:Nat}(bV:1≤ok)(hm:ok≤m)(hp:lo+m≤p.length)(hs:cT k p lo ok)(hI:I s){Q:Bool→SortSt→Shared→Prop}
  (q:∀p' s',I s'→Mv lo p p'→cT k p' lo m→Q true (cU κ it p' pd g) s'):kasC (model prog w) A E (binarySort' lo m ok) Q (cU κ it p pd g) s:=by
 rw[binarySort'_eq]
 dsimp only
 refine kasC_bind (bC (Q:=fun c aZ s'=>∃p',c=(none,())∧aZ=cU κ it p' pd g∧I s'∧Mv lo p p'∧cT k p' lo m) (qs (fun i c aZ s'=>∃p',c=(none,())∧aZ=cU κ it p' pd g∧I s'∧Mv lo p p'∧cT k p' lo i) (by omega) ⟨p,rfl,rfl,hI,Mv.refl,by rw[Nat.max_eq_left bV];exact hs⟩ (fun c aZ s' h=>h) ?_) ?_)
 ·rintro c b aZ s' HQ Hy ⟨p',rfl,rfl,i1,i2,i3⟩
  have hl:=i2.len
  have A7:∀y∈p',y<n:=fun y hy=>hn y (i2.perm.mem_iff.mp hy)
  refine kasC_bind (bC (Q:=fun d fN s2=>∃l,d=(none,l,l)∧fN=cU κ it p' pd g∧I s2∧l≤c∧(∀t,t<l→le k (p'.getD (lo+t) 0) (p'.getD (lo+c) 0))∧∀t,l≤t→t<c→O.blt (k (p'.getD (lo+c) 0)) (k (p'.getD (lo+t) 0))=true) (bb (fun j d fN s2=>∃l r,d=(none,l,r)∧fN=cU κ it p' pd g∧I s2∧l≤r∧r≤c∧r - l≤j∧(∀t,t<l→le k (p'.getD (lo+t) 0) (p'.getD (lo+c) 0))∧∀t,r≤t→t<c→O.blt (k (p'.getD (lo+c) 0)) (k (p'.getD (lo+t) 0))=true) ⟨0,c,rfl,rfl,i1,Nat.zero_le _,Nat.le_refl _,by omega,fun t ht=>by omega,fun t h1 h2=>by omega⟩ ?_ ?_) ?_)
  ·rintro d fN s2 ⟨l,r,rfl,rfl,j1,j2,j3,j4,j5,j6⟩
   have e:l=r:=by omega
   subst e
   exact⟨l,rfl,rfl,j1,j3,j5,j6⟩
  ·rintro x j d fN s2 ⟨l,r,rfl,rfl,j1,j2,j3,j4,j5,j6⟩
   dsimp only
   by_cases SD:l≥r
   ·rw[if_pos SD]
    have e:l=r:=by omega
    subst e
    exact kasC_pure ⟨l,rfl,rfl,j1,j3,j5,j6⟩
   ·rw[if_neg SD]
    refine kasC_bind (kI hc A7 (by omega) (by omega) j1 fun s3 Dw=>?_)
    dsimp only
    cases e:O.blt (k (p'.getD (lo+c) 0)) (k (p'.getD (lo+(l+r) /2) 0)) with
    |true=>
     rw[if_pos rfl]
     refine kasC_pure ⟨l,(l+r) /2,rfl,rfl,Dw,by omega,by omega,by omega,j5,fun t h1 h2=>?_⟩
     by_cases ht:t<r
     ·have hle:=i3 ((l+r) /2) t h1 h2
      cases e5:O.blt (k (p'.getD (lo+c) 0)) (k (p'.getD (lo+t) 0)) with
      |true=>rfl
      |false=>
       have:le k (p'.getD (lo+(l+r) /2) 0) (p'.getD (lo+c) 0):=le.trans hle (bJ e5)
       have this:O.blt (k (p'.getD (lo+c) 0)) (k (p'.getD (lo+(l+r) /2) 0))=false:=this
       rw[this] at e
       cases e
     ·exact j6 t (by omega) h2
    |false=>
     rw[if_neg (by simp)]
     refine kasC_pure ⟨(l+r) /2+1,r,rfl,rfl,Dw,by omega,by omega,by omega,fun t ht=>?_,j6⟩
     exact le.trans (i3 t ((l+r) /2) (by omega) (by omega)) (bJ e)
  ·rintro d fN s2 ⟨l,rfl,rfl,j1,j3,j5,j6⟩
   dsimp only
   refine kasC_bind (Dz (kasC_pure ⟨_,rfl,rfl,j1,⟨(vW ..).trans i2.perm,(vX (by omega) (by omega) (by omega)).trans i2.tk⟩,DA (by omega) j3 i3 j5 j6⟩))
 ·rintro c aZ s' ⟨p',rfl,rfl,i1,i2,i3⟩
  exact kasC_pure (q p' s' i1 i2 i3)
end
end L2
namespace L2
open PySem PySem.Spec PyProof.Rows PySem.W
abbrev U1:=Option Unit×Unit
abbrev U2:=Option Unit×Nat
def Oh(pw:Nat):SM (ForInStep U1):=do
 let s←get
 match if (pendingOf s).size>1 then (pendingOf s)[(pendingOf s).size - 2]? else none with
 |some (_,_,o)=>
  if o≤pw then pure (.done (none,()))
  else do
   let b←mergeAt' ((pendingOf s).size - 2)
   if (!b)=true then pure (.done (some (),())) else pure (.yield (none,()))
 |_=>pure (.done (none,()))
def Gd(lo m:Nat):SM (ForInStep U2):=do
 modify fun s=>setPending s ((pendingOf s).push (lo,m,0))
 pure (.yield (none,lo+m))
def DB(size lo m:Nat):SM (ForInStep U2):=do
 let s←get
 match (pendingOf s).back? with
 |some (x,l,_)=>do
  let c←forIn [0:size] ((none,()):U1) fun _ _=>Oh (power' size (2*x+l) (2*x+l+l+m) size)
  oC c.1 (fun r=>pure (.done (some r,lo))) (do
   modify fun s=>setPending s ((pendingOf s).modify ((pendingOf s).size - 1) fun (a,b,_)=>(a,b,power' size (2*x+l) (2*x+l+l+m) size))
   Gd lo m)
 |_=>Gd lo m
def Qd(size mr lo:Nat):SM (ForInStep U2):=if lo≥size then pure (.done (none,lo)) else do
 match←countRun' lo (size - lo) with
 |some f=>
  if f<mr then do
   rule "list.sort.binary-insertion"
   let b←binarySort' lo (min (size - lo) mr) f
   if (!b)=true then pure (.done (some (),lo)) else DB size lo (min (size - lo) mr)
  else DB size lo f
 |_=>pure (.done (some (),lo))
def SE(p:Array (Nat×Nat×Nat)):Nat:=if (if p.size - 2>0 then p[p.size - 2 - 1]?.map (·.2.1) else none).any (· < (p[p.size - 2+1]?.elim 0 (·.2.1))) then p.size - 2 - 1 else p.size - 2
def SF:SM (ForInStep U1):=do
 let s←get
 if (pendingOf s).size≤1 then pure (.done (none,()))
 else do
  let b←mergeAt' (SE (pendingOf s))
  if (!b)=true then pure (.done (some (),())) else pure (.yield (none,()))
theorem vY{size lo m:Nat}{f:SM (ForInStep U2)}{g:Nat→Nat→SM (ForInStep U2)}(h:f=(do
  let s←get
  match (pendingOf s).back? with
  |some (x,l,_)=>g x l
  |_=>Gd lo m)) (hg:∀x l,g x l=(do
  let c←forIn [0:size] ((none,()):U1) fun _ _=>Oh (power' size (2*x+l) (2*x+l+l+m) size)
  oC c.1 (fun r=>pure (.done (some r,lo))) (do
   modify fun s=>setPending s ((pendingOf s).modify ((pendingOf s).size - 1) fun (a,b,_)=>(a,b,power' size (2*x+l) (2*x+l+l+m) size))
   Gd lo m))):f=DB size lo m:=by
 rw[h]
 unfold DB
 congr 1
 funext s
 rcases (pendingOf s).back? with _| ⟨x,l,z⟩
 ·rfl
 ·exact hg x l
theorem HR:sortRuns'=(do
  let s←get
  let c←forIn [0:(arrOf s).size] ((none,0):U2) fun _ c=>Qd (arrOf s).size (minRun' (arrOf s).size (arrOf s).size 0) c.2
  oC c.1 (fun r=>pure r) (do
   let d←forIn [0:(arrOf s).size] ((none,()):U1) fun _ _=>SF
   oC d.1 (fun r=>pure r) (pure ()))):=by
 rw[sortRuns'_eq]
 congr 1
 funext s
 dsimp only
 congr 1
 ·congr 1
  funext x c
  obtain⟨r,lo⟩:=c
  unfold Qd
  dsimp only
  split
  ·rfl
  ·congr 1
   funext y
   cases y with
   |none=>rfl
   |some f=>
    dsimp only
    split
    ·congr 1
     funext _
     congr 1
     funext b
     split
     ·rfl
     ·refine vY rfl fun x l=>?_
      congr 1
      funext c
      obtain⟨r,z⟩:=c
      cases r<;>rfl
    ·refine vY rfl fun x l=>?_
     congr 1
     funext c
     obtain⟨r,z⟩:=c
     cases r<;>rfl
 ·funext c
  obtain⟨r,lo⟩:=c
  cases r with
  |some r=>rfl
  |none=>
   dsimp only [oC]
   congr 1
   funext d
   obtain⟨r,z⟩:=d
   cases r<;>rfl
end L2
namespace L2
open PySem PySem.Spec PyProof.Rows PySem.W
section
variable {O:KeyOrd}{k:Nat→O.α}
def iF(k:Nat→O.α)(p:List Nat):List (Nat×Nat×Nat)→Nat→Nat→Prop
 | [],a,b=>a=b
 | (x,m,_)::r,a,b=>x=a∧0<m∧cT k p a m∧iF k p r (a+m) b
theorem iF.app{p:List Nat}:∀{r1 r2:List (Nat×Nat×Nat)} {a c:Nat},iF k p (r1++r2) a c↔∃b,iF k p r1 a b∧iF k p r2 b c
 | [],r2,a,c=>⟨fun h=>⟨a,rfl,h⟩,fun⟨b,h1,h2⟩=>by cases h1;exact h2⟩
 | (x,m,w)::r1,r2,a,c=>by
   constructor
   ·rintro ⟨h1,h2,h3,h4⟩
    obtain⟨b,h5,h6⟩:=iF.app.mp h4
    exact⟨b,⟨h1,h2,h3,h5⟩,h6⟩
   ·rintro ⟨b,⟨h1,h2,h3,h5⟩,h6⟩
    exact⟨h1,h2,h3,iF.app.mpr ⟨b,h5,h6⟩⟩
theorem iF.le{p:List Nat}:∀{r:List (Nat×Nat×Nat)} {a b:Nat},iF k p r a b→a+r.length≤b
 | [],a,b,h=>by cases h;exact Nat.le_refl _
 | (x,m,w)::r,a,b,⟨h1,h2,h3,h4⟩=>by
   have:=iF.le h4
   rw[List.length_cons]
   omega
theorem iF.keep{p p':List Nat}:∀{r:List (Nat×Nat×Nat)} {a b:Nat},iF k p r a b→(∀t,a≤t→t<b→p'.getD t 0=p.getD t 0)→iF k p' r a b
 | [],a,b,h,_=>h
 | (x,m,w)::r,a,b,⟨h1,h2,h3,h4⟩,hk=>by
   have hl:=iF.le h4
   refine⟨h1,h2,fun i j gQ hj=>?_,iF.keep h4 fun t h5 h6=>hk t (by omega) h6⟩
   rw[hk (a+i) (by omega) (by omega),hk (a+j) (by omega) (by omega)]
   exact h3 i j gQ hj
theorem iF.mod{p:List Nat}{f:Nat×Nat×Nat→Nat×Nat×Nat}(hf:∀x,(f x).1=x.1∧(f x).2.1=x.2.1):∀{r:List (Nat×Nat×Nat)} {i a b:Nat},iF k p r a b→iF k p (r.modify i f) a b
 | [],i,a,b,h=>by cases i<;>exact h
 |x::r,0,a,b,h=>by
  obtain⟨x1,x2,x3⟩:=x
  obtain⟨h1,h2,h3,h4⟩:=h
  have e:=hf (x1,x2,x3)
  show iF k p (f (x1,x2,x3)::r) a b
  generalize f (x1,x2,x3)=z at e
  obtain⟨z1,z2,z3⟩:=z
  obtain⟨e1,e2⟩:=e
  dsimp only at e1 e2
  subst e1 e2
  exact⟨h1,h2,h3,h4⟩
 | (x1,x2,x3)::r,i+1,a,b,⟨h1,h2,h3,h4⟩=>by
   show iF k p ((x1,x2,x3)::r.modify i f) a b
   exact⟨h1,h2,h3,iF.mod hf h4⟩
theorem DC{r:List (Nat×Nat×Nat)}{i:Nat}(h:i+1<r.length):∃r1 u v r2,r=r1++u::v::r2∧r1.length=i:=by
 refine⟨r.take i,r[i],r[i+1],r.drop (i+2),?_,by rw[List.length_take];omega⟩
 rw[←List.drop_eq_getElem_cons (by omega),←List.drop_eq_getElem_cons (by omega),List.take_append_drop]
theorem DD{r1 r2:List (Nat×Nat×Nat)}{u v z:Nat×Nat×Nat}:((r1++u::v::r2).set r1.length z).eraseIdx (r1.length+1)=r1++z::r2:=by
 induction r1 with
 |nil=>rfl
 |cons x r ih=>simp only [List.cons_append,List.length_cons,List.set_cons_succ,List.eraseIdx_cons_succ,ih]
theorem DE{p S:List Nat}{x m:Nat}(hp:x+m≤p.length)(hS:S.length=m)(t:Nat):(p.take x++S++p.drop (x+m)).getD t 0=if t<x then p.getD t 0 else if t<x+m then S.getD (t - x) 0 else p.getD t 0:=by
 have l1:(p.take x).length=x:=by rw[List.length_take];omega
 simp only [List.getD_eq_getElem?_getD]
 by_cases h1:t<x
 ·rw[if_pos h1,List.append_assoc,List.getElem?_append_left (by omega),List.getElem?_take,if_pos h1]
 ·rw[if_neg h1]
  by_cases h2:t<x+m
  ·rw[if_pos h2,List.getElem?_append_left (by rw[List.length_append];omega),List.getElem?_append_right (by omega),l1]
  ·rw[if_neg h2,List.getElem?_append_right (by rw[List.length_append];omega),List.length_append,l1,hS,List.getElem?_drop]
   congr 2
   omega
end
section
variable {prog:Program}{w:World}{A:Around}{E:Value→Shared→Prop}{κ:SortKind}{it:Array Keyed}{O:KeyOrd}{k:Nat→O.α}{n:Nat}{I:Shared→Prop}{s:Shared}{pd:Array (Nat×Nat×Nat)}{g:Nat}
theorem mZ{p:List Nat}{x m:Nat}(hp:x+m≤p.length)(h:cT k p x m):eQ k (seg p x m):=by
 refine List.pairwise_iff_getElem.mpr fun i j hi hj gQ=>?_
 have lA:=dv (p:=p) (a:=x) (m:=m) hp
 have e:∀t (ht:t< (seg p x m).length),(seg p x m)[t]=p.getD (x+t) 0:=fun t ht=>by
  rw[←seg_at (p:=p) (a:=x) (m:=m) (by omega)]
  simp [List.getD,ht]
 rw[e i hi,e j hj]
 exact h i j (by omega) (by omega)
theorem rO(hc:c8 O k n I (kas_cmp prog w A κ it)){p:List Nat}(hn:∀y∈p,y<n){hi i:Nat}(hv:iF k p pd.toList 0 hi)(hh:hi≤p.length)(hs:i+1<pd.size)(hI:I s){Q:Bool→SortSt→Shared→Prop}
  (q:∀p' cg g' s',I s'→p'.Perm p→(∀t,hi≤t→p'.getD t 0=p.getD t 0)→iF k p' cg.toList 0 hi→cg.size+1=pd.size→Q true (cU κ it p' cg g') s'):kasC (model prog w) A E (mergeAt' i) Q (cU κ it p pd g) s:=by
 obtain⟨r1,⟨x,m,pw⟩,⟨y,l,P4⟩,r2,er,Qe⟩:=DC (r:=pd.toList) (i:=i) (by simpa using hs)
 rw[er] at hv
 obtain⟨b,v1,hx,hm,sA,hy,hl,sB,v2⟩:=iF.app.mp hv
 subst hx hy
 have hle:=iF.le v2
 have g1:pd[i]? =some (x,m,pw):=by rw[←Array.getElem?_toList,er,←Qe];simp
 have g2:pd[i+1]? =some (x+m,l,P4):=by rw[←Array.getElem?_toList,er,←Qe];simp
 refine Dt hc g1 g2 hm hl (by omega) hn (mZ (by omega) sA) (mZ (by omega) sB) hI fun S g' s' eO hP hS=>?_
 have lS:S.length=m+l:=by rw[hP.length_eq,List.length_append,dv (by omega),dv (by omega)]
 have at':=DE (p:=p) (S:=S) (x:=x) (m:=m+l) (by omega) lS
 rw[show x+(m+l)=x+m+l by omega] at at'
 have tl:((pd.setIfInBounds i (x,m+l,pw)).eraseIdxIfInBounds (i+1)).toList=r1++(x,m+l,pw)::r2:=by
  simp only [Array.toList_eraseIdxIfInBounds,Array.toList_setIfInBounds,er,←Qe]
  exact DD
 refine q _ _ g' s' eO ?_ (fun t ht=>by rw[at' t,if_neg (by omega),if_neg (by omega)]) ?_ ?_
 ·have e:=vN p x (m+l)
  rw[show x+(m+l)=x+m+l by omega,←j0] at e
  exact((hP.append_left (p.take x)).append_right (p.drop (x+m+l))).trans (List.Perm.of_eq e)
 ·rw[tl]
  refine iF.app.mpr ⟨x,v1.keep fun t _ h2=>by rw[at' t,if_pos h2],rfl,by omega,fun i j gQ hj=>?_,by rw[show x+(m+l)=x+m+l by omega];exact v2.keep fun t h1 _=>by rw[at' t,if_neg (by omega),if_neg (by omega)]⟩
  rw[at' (x+i),at' (x+j),if_neg (by omega),if_pos (by omega),if_neg (by omega),if_pos (by omega),Nat.add_sub_cancel_left,Nat.add_sub_cancel_left]
  exact mY hS gQ (by omega)
 ·have e1:pd.size=r1.length+(r2.length+2):=by
   have:=congrArg List.length er
   simpa using this
  have e2:((pd.setIfInBounds i (x,m+l,pw)).eraseIdxIfInBounds (i+1)).size=r1.length+(r2.length+1):=by
   rw[←Array.length_toList,tl]
   simp
  omega
structure Std(k:Nat→O.α)(p0 p:List Nat)(pd:Array (Nat×Nat×Nat))(hi:Nat):Prop where
 perm:p.Perm p0
 DF:iF k p pd.toList 0 hi
theorem DG(hc:c8 O k n I (kas_cmp prog w A κ it)){p0 p:List Nat}(hn:∀y∈p0,y<n){hi size pw:Nat}(hS:Std k p0 p pd hi)(hh:hi≤p0.length)(hI:I s){Q:U1→SortSt→Shared→Prop}
  (q:∀p' cg g' s',I s'→Std k p0 p' cg hi→(∀t,hi≤t→p'.getD t 0=p.getD t 0)→Q (none,()) (cU κ it p' cg g') s'):kasC (model prog w) A E (forIn [0:size] ((none,()):U1) fun _ _=>Oh pw) Q (cU κ it p pd g) s:=by
 refine bb (fun _ c aZ s'=>∃p' cg g',c=(none,())∧aZ=cU κ it p' cg g'∧I s'∧Std k p0 p' cg hi∧∀t,hi≤t→p'.getD t 0=p.getD t 0) ⟨p,pd,g,rfl,rfl,hI,hS,fun _ _=>rfl⟩ ?_ ?_
 ·rintro c aZ s' ⟨p',cg,g',rfl,rfl,i1,i2,i3⟩
  exact q p' cg g' s' i1 i2 i3
 ·rintro x j c aZ s' ⟨p',cg,g',rfl,rfl,i1,i2,i3⟩
  unfold Oh
  refine kasC_bind (kasC_get ?_)
  have hl:p'.length=p0.length:=i2.perm.length_eq
  show kasC (model prog w) A E (match (if cg.size>1 then cg[cg.size - 2]? else none) with|some (_,_,o)=>_|_=>_) _ _ _
  by_cases h2:cg.size>1
  ·rw[if_pos h2,Array.getElem?_eq_getElem (show cg.size - 2<cg.size by omega)]
   obtain⟨a,b,o⟩:=cg[cg.size - 2]
   dsimp only
   by_cases ho:o≤pw
   ·rw[if_pos ho]
    exact kasC_pure (q p' cg g' s' i1 i2 i3)
   ·rw[if_neg ho]
    refine kasC_bind (rO hc (fun y hy=>hn y (i2.perm.mem_iff.mp hy)) i2.DF (by omega) (by show cg.size - 2+1<cg.size;omega) i1 fun p2 Qf g2 s2 d9 hP hk hC _=>?_)
    rw[if_neg (by simp)]
    exact kasC_pure ⟨p2,Qf,g2,rfl,rfl,d9,⟨hP.trans i2.perm,hC⟩,fun t ht=>(hk t ht).trans (i3 t ht)⟩
  ·rw[if_neg h2]
   exact kasC_pure (q p' cg g' s' i1 i2 i3)
theorem vZ{p0 p:List Nat}{lo m:Nat}(hS:Std k p0 p pd lo)(hm:0<m)(hi:cT k p lo m)(hI:I s){Q:ForInStep U2→SortSt→Shared→Prop}
  (q:∀p' cg g' s',I s'→Std k p0 p' cg (lo+m)→Q (.yield (none,lo+m)) (cU κ it p' cg g') s'):kasC (model prog w) A E (Gd lo m) Q (cU κ it p pd g) s:=by
 unfold Gd
 refine kasC_bind (kasC_modify (kasC_pure (q p (pd.push (lo,m,0)) g s hI ⟨hS.perm,?_⟩)))
 rw[Array.toList_push]
 exact iF.app.mpr ⟨lo,hS.DF,rfl,hm,hi,rfl⟩
theorem DH(hc:c8 O k n I (kas_cmp prog w A κ it)){p0 p:List Nat}(hn:∀y∈p0,y<n){size lo m:Nat}(hS:Std k p0 p pd lo)(hm:0<m)(hi:cT k p lo m)(hh:lo+m≤p0.length)(hI:I s){Q:ForInStep U2→SortSt→Shared→Prop}
  (q:∀p' cg g' s',I s'→Std k p0 p' cg (lo+m)→Q (.yield (none,lo+m)) (cU κ it p' cg g') s'):kasC (model prog w) A E (DB size lo m) Q (cU κ it p pd g) s:=by
 unfold DB
 refine kasC_bind (kasC_get ?_)
 show kasC (model prog w) A E (match pd.back? with|some (x,l,_)=>_|_=>_) _ _ _
 rcases pd.back? with _| ⟨x,l,z⟩
 ·exact vZ hS hm hi hI q
 ·dsimp only
  refine kasC_bind (DG hc hn hS (by omega) hI fun p' cg g' s' eO SG hk=>?_)
  dsimp only [oC]
  refine kasC_bind (kasC_modify ?_)
  refine vZ (pd:=cg.modify (cg.size - 1) _) (p0:=p0) (p:=p') ⟨SG.perm,?_⟩ hm (fun i j gQ hj=>?_) eO q
  ·rw[Array.toList_modify]
   exact iF.mod (f:=fun z=>(z.1,z.2.1,power' size (2*x+l) (2*x+l+l+m) size)) (fun x=>⟨rfl,rfl⟩) SG.DF
  ·rw[hk _ (by omega),hk _ (by omega)]
   exact hi i j gQ hj
theorem wa{p p':List Nat}{lo t:Nat}(h:p'.take lo=p.take lo)(ht:t<lo):p'.getD t 0=p.getD t 0:=by
 have:=congrArg (fun l:List Nat=>l[t]?) h
 simp only [List.getElem?_take,if_pos ht] at this
 rw[List.getD_eq_getElem?_getD,List.getD_eq_getElem?_getD,this]
theorem Std.mv{p0 p p':List Nat}{lo:Nat}(h:Std k p0 p pd lo)(m:Mv lo p p'):Std k p0 p' pd lo:=⟨m.perm.trans h.perm,h.DF.keep fun t _ h2=>wa m.tk h2⟩
theorem wb(hc:c8 O k n I (kas_cmp prog w A κ it)){p:List Nat}(hn:∀y∈p,y<n)(h1:1≤p.length)(hI:I s){Q:Unit→SortSt→Shared→Prop}
  (q:∀p' cg g' s',I s'→p'.Perm p→eQ k p'→Q () (cU κ it p' cg g') s'):kasC (model prog w) A E sortRuns' Q (cU κ it p #[] g) s:=by
 rw[HR]
 refine kasC_bind (kasC_get ?_)
 have es:(arrOf (cU κ it p #[] g)).size=p.length:=aT p
 rw[es]
 refine kasC_bind (bC (Q:=fun c aZ s'=>∃p' cg g',c=(none,p.length)∧aZ=cU κ it p' cg g'∧I s'∧Std k p p' cg p.length) (bb (fun j c aZ s'=>∃lo p' cg g',c=(none,lo)∧aZ=cU κ it p' cg g'∧I s'∧Std k p p' cg lo∧lo≤p.length∧p.length≤lo+j) ⟨0,p,#[],g,rfl,rfl,hI,⟨List.Perm.refl _,rfl⟩,Nat.zero_le _,by omega⟩ ?_ ?_) ?_)
 ·rintro c aZ s' ⟨lo,p',cg,g',rfl,rfl,i1,i2,i3,i4⟩
  have e:lo=p.length:=by omega
  subst e
  exact⟨p',cg,g',rfl,rfl,i1,i2⟩
 ·rintro x j c aZ s' ⟨lo,p',cg,g',rfl,rfl,i1,i2,i3,i4⟩
  have hl:p'.length=p.length:=i2.perm.length_eq
  have A7:∀y∈p',y<n:=fun y hy=>hn y (i2.perm.mem_iff.mp hy)
  unfold Qd
  dsimp only
  by_cases Pr:lo≥p.length
  ·rw[if_pos Pr]
   have e:lo=p.length:=by omega
   subst e
   exact kasC_pure ⟨p',cg,g',rfl,rfl,i1,i2⟩
  rw[if_neg Pr]
  refine kasC_bind (tP hc A7 (by omega) (by omega) i1 fun f p2 s2 d9 f1 f2 hv hs=>?_)
  dsimp only
  have Bk:=i2.mv hv
  have go:∀m p3 s3,I s3→Std k p p3 cg lo→0<m→lo+m≤p.length→cT k p3 lo m→∀{R:ForInStep U2→SortSt→Shared→Prop},(∀p4 Ge g4 s4,I s4→Std k p p4 Ge (lo+m)→R (.yield (none,lo+m)) (cU κ it p4 Ge g4) s4)→kasC (model prog w) A E (DB p.length lo m) R (cU κ it p3 cg g') s3:=fun m p3 s3 a1 a2 a3 a4 a5 R hR=>DH hc hn a2 a3 a5 a4 a1 hR
  split
  ·refine kasC_bind (kasC_lift (wpAny_rule (kasC_bind (yO hc (fun y hy=>hn y (Bk.perm.mem_iff.mp hy)) f1 (by omega) (by rw[Bk.perm.length_eq];omega) hs d9 fun p3 s3 Dw U4 l9=>?_))))
   rw[if_neg (by simp)]
   exact go _ p3 s3 Dw (Bk.mv U4) (by omega) (by omega) l9 fun p4 Ge g4 s4 b1 b2=>⟨_,p4,Ge,g4,rfl,rfl,b1,b2,by omega,by omega⟩
  ·exact go f p2 s2 d9 Bk (by omega) (by omega) hs fun p4 Ge g4 s4 b1 b2=>⟨_,p4,Ge,g4,rfl,rfl,b1,b2,by omega,by omega⟩
 ·rintro c aZ s' ⟨p',cg,g',rfl,rfl,i1,i2⟩
  dsimp only [oC]
  refine kasC_bind (bC (Q:=fun c aZ s'=>∃p' cg g',c=(none,())∧aZ=cU κ it p' cg g'∧I s'∧Std k p p' cg p.length∧cg.size≤1) (bb (fun j c aZ s'=>∃p' cg g',c=(none,())∧aZ=cU κ it p' cg g'∧I s'∧Std k p p' cg p.length∧cg.size≤j+1) ⟨p',cg,g',rfl,rfl,i1,i2,by have:=i2.DF.le;rw[Array.length_toList] at this;omega⟩ ?_ ?_) ?_)
  ·rintro c aZ s' ⟨p',cg,g',rfl,rfl,i1,i2,i3⟩
   exact⟨p',cg,g',rfl,rfl,i1,i2,by omega⟩
  ·rintro x j c aZ s' ⟨p',cg,g',rfl,rfl,i1,i2,i3⟩
   unfold SF
   refine kasC_bind (kasC_get ?_)
   show kasC (model prog w) A E (if cg.size≤1 then _ else _) _ _ _
   by_cases Bm:cg.size≤1
   ·rw[if_pos Bm]
    exact kasC_pure ⟨p',cg,g',rfl,rfl,i1,i2,Bm⟩
   rw[if_neg Bm]
   have eO:SE cg+1<cg.size:=by
    have:∀c:Bool,(if c=true then cg.size - 2 - 1 else cg.size - 2)+1<cg.size:=fun c=>by cases c<;>simp<;>omega
    exact this _
   refine kasC_bind (rO hc (fun y hy=>hn y (i2.perm.mem_iff.mp hy)) i2.DF (by rw[i2.perm.length_eq];exact Nat.le_refl _) eO i1 fun p2 Qf g2 s2 d9 hP hk hC hz=>?_)
   rw[if_neg (by simp)]
   exact kasC_pure ⟨p2,Qf,g2,rfl,rfl,d9,⟨hP.trans i2.perm,hC⟩,by omega⟩
  ·rintro c aZ s' ⟨p',cg,g',rfl,rfl,i1,i2,i3⟩
   dsimp only [oC]
   refine kasC_pure (q p' cg g' s' i1 i2.perm ?_)
   have hv:=i2.DF
   have hl:p'.length=p.length:=i2.perm.length_eq
   have lz:cg.toList.length≤1:=by rw[Array.length_toList];exact i3
   generalize cg.toList=r at hv lz
   match r,hv,lz with
   | [],hv,_=>
     have hv:0=p.length:=hv
     omega
   | [(x,m,z)],⟨_,h2,h3,h4⟩,_=>
     have h4:0+m=p.length:=h4
     have e:=mZ (p:=p') (x:=0) (m:=m) (by omega) h3
     unfold seg at e
     rw[List.drop_zero,List.take_of_length_le (by omega)] at e
     exact e
end
end L2
namespace L2
open PySem PySem.Spec PyProof.Rows PySem.SeqAt PySem.W
section
variable {prog:Program}{w:World}{A:Around}{E:Value→Shared→Prop}{s:Shared}
theorem HS{O:KeyOrd}{k:Nat→O.α}{κ:SortKind}{it:Array Keyed}(hc:c8 O k it.size (fun s'=>s'=s) (kas_cmp prog w A κ it))(h1:1≤it.size){Q:Unit×SortSt→Shared→Prop}
  (q:∀p pd g,p.Perm (List.range it.size)→eQ k p→Q ((),cU κ it p pd g) s):wpAny (model prog w) A (sortRuns'.run (SortSt.mk' κ it #[] 7 none)) Q E s:=by
 have e:SortSt.mk' κ it #[] 7 none=cU κ it (List.range it.size) #[] 7:=by
  show _=SortSt.mk' κ (ar it (List.range it.size)) #[] 7 none
  rw[cM,kas_range]
 rw[e]
 exact wb (Q:=fun _ st s'=>Q ((),st) s') hc (p:=List.range it.size) (fun y hy=>List.mem_range.mp hy) (by rw[List.length_range];exact h1) rfl fun p' cg g' s' hs hp hi=>by subst hs;exact q p' cg g' hp hi
theorem oV{a:Addr}{vs:List Value}{cs:List (List Int)}{m n:Nat}{P:PySem.Fin→Shared→Prop}(hu:A.units<cLine)(ho:s.heap.get? a=some (seqObj "list" vs.toArray n))(hz:vs.length≤sizeLine)
  (cv:∀h',(∀b o,s.heap.get? b=some o→b≠a→h'.get? b=some o)→fm h' m vs cs)
  (h:∀p:List Nat,p.Perm (List.range vs.length)→eQ (O:=ql) (fun i=>cs.getD i []) p→P (.done (.ret .none)) { s with heap:=sortedHeap s.heap a vs (List.toArray (p.map fun i=>vs.getD i Value.none)) }):
  wpAny (model prog w) A (Builtin.«list.sort» ⟨[.ref a],[]⟩) P E s:=by
 rw[list_sort_plain]
 have ha:a<s.heap.objs.size:=Heap.lt_size ho
 refine wpAny_bind (listItems_at ho rfl ?_)
 refine wpAny_bind (listUpdate_at ho rfl ?_ (by rw[List.size_toArray];exact hz) (Nat.zero_le _))
 obtain⟨e1,HU⟩:∃e1,(s.heap.update a (Obj.mapSeq fun _=>#[])).get? a=some (seqObj "list" #[] e1):=⟨_,get?_update_seq ho (fun _=>#[])⟩
 refine wpAny_bind (seqEpoch_at HU rfl ?_)
 refine wpAny_bind (wpAny_newTuple ?_ hz)
 refine wpAny_bind (wpAny_newList ?_ (Nat.zero_le _))
 refine wpAny_holding ?_
 have Oi:(((s.heap.update a (Obj.mapSeq fun _=>#[])).push (seqObj "tuple" vs.toArray 0)).push (seqObj "list" #[] 0)).get? a=some (seqObj "list" #[] e1):=by
  rw[Heap.get?_push_ne _ _ _ (by rw[size_push',Heap.size_update];exact Nat.ne_of_lt (Nat.lt_succ_of_lt ha)),Heap.get?_push_ne _ _ _ (by rw[Heap.size_update];exact Nat.ne_of_lt ha)]
  exact HU
 have keep:∀b o,s.heap.get? b=some o→b≠a→(((s.heap.update a (Obj.mapSeq fun _=>#[])).push (seqObj "tuple" vs.toArray 0)).push (seqObj "list" #[] 0)).get? b=some o:=fun b o hb Bn=>
  Heap.get?_push_of_some _ (Heap.get?_push_of_some _ (by rw[Heap.get?_update_ne _ _ _ _ Bn];exact hb))
 have C:=cv _ keep
 show wpAny (model prog w) A _ P E { s with heap:=((s.heap.update a (Obj.mapSeq fun _=>#[])).push (seqObj "tuple" vs.toArray 0)).push (seqObj "list" #[] 0) }
 dsimp only
 have om:vs.toArray.size=vs.length:=by simp
 have eo:∀p:List Nat,(ar (pairsOf vs) p).map (·.2)=List.toArray (p.map fun i=>vs.getD i Value.none):=fun p=>by
  apply Array.toList_inj.mp
  unfold ar
  rw[Array.toList_map,List.toList_toArray,List.map_map]
  exact List.map_congr_left fun i _=>by show (kas_item (pairsOf vs) i).2=_;rw[kas_item_eq]
 have er:pairsOf vs=ar (pairsOf vs) (List.range vs.length):=by
  rw[cM,←pairsOf_size vs,kas_range]
 have SH:∀p:List Nat,p.Perm (List.range vs.length)→(List.toArray (p.map fun i=>vs.getD i Value.none)).size≤sizeLine+1:=fun p hp=>by
  rw[List.size_toArray,List.length_map,hp.length_eq,List.length_range];omega
 by_cases h2:vs.toArray.size<2
 ·rw[if_pos h2,if_pos h2]
  refine wpAny_bind (wpAny_pure ?_)
  rw[StateT.run_pure]
  refine wpAny_bind (wpAny_pure ?_)
  dsimp only
  have eo:(arrOf (SortSt.mk' general' (vs.toArray.zip vs.toArray) #[] 7 none)).map (·.2)=List.toArray ((List.range vs.length).map fun i=>vs.getD i Value.none):=by
   show (pairsOf vs).map (·.2)=_
   rw[er]
   exact eo _
  rw[eo]
  refine wpAny_bind (seqEpoch_at Oi rfl ?_)
  refine wpAny_bind (listUpdate_at Oi rfl ?_ (Nat.zero_le _) (SH _ (List.Perm.refl _)))
  simp only [bne_self_eq_false,Bool.false_eq_true,if_false]
  refine wpAny_pure (h (List.range vs.length) (List.Perm.refl _) ?_)
  refine List.pairwise_iff_getElem.mpr fun i j hi hj gQ=>?_
  rw[List.length_range] at hi hj
  omega
 ·rw[if_neg h2,if_neg h2]
  have Hz:2≤vs.length:=by omega
  refine wpAny_bind (kas_kind (T:=Value.type "list") Hz (fun v hv=>?_) (by decide) (by decide) ?_)
  ·obtain⟨i,hi⟩:=List.getElem?_of_mem hv
   have gI:=(List.getElem?_eq_some_iff.mp hi).1
   obtain⟨b,us,e1,⟨o,e2,e3,_⟩,_⟩:=C.at' i gI
   have:v= .ref b:=by rw[←e1,List.getD_eq_getElem?_getD,hi];rfl
   rw[this]
   exact kitAt_ty _ _ ⟨o,e2,e3⟩
  generalize jL:({ s with heap:=((s.heap.update a (Obj.mapSeq fun _=>#[])).push (seqObj "tuple" vs.toArray 0)).push (seqObj "list" #[] 0) }:Shared)=s6
  have C6:fm s6.heap m vs cs:=by rw[←jL];exact C
  have asks:c8 ql (fun i=>cs.getD i []) (pairsOf vs).size (fun s'=>s'=s6) (kas_cmp prog w A oneType' (pairsOf vs)):=by
   intro i j K s' hi hj e hK
   rw[pairsOf_size] at hi hj
   subst e
   unfold kas_cmp
   rw[kas_item_eq,kas_item_eq,keyLt'_oneType]
   obtain⟨b,us,e1,e2,e3,e4⟩:=C6.at' i hi
   obtain⟨b',WC,U5,U6,U7,U8⟩:=C6.at' j hj
   show wpAny _ _ (oneLt' true (vs.getD i Value.none) (vs.getD j Value.none)) _ _ _
   rw[e1,U5]
   exact oP e2 U6 e3 U7 (by rw[e4,U8]) hu (hK _ rfl)
  refine wpAny_bind (HS (it:=pairsOf vs) asks (by rw[pairsOf_size];omega) fun p pd g hp hi=>?_)
  subst jL
  rw[pairsOf_size] at hp
  dsimp only
  have DI:(arrOf (cU oneType' (pairsOf vs) p pd g)).map (·.2)=List.toArray (p.map fun i=>vs.getD i Value.none):=eo p
  rw[DI]
  refine wpAny_bind (seqEpoch_at Oi rfl ?_)
  refine wpAny_bind (listUpdate_at Oi rfl ?_ (Nat.zero_le _) (SH _ hp))
  simp only [bne_self_eq_false,Bool.false_eq_true,if_false]
  exact wpAny_pure (h p hp hi)
theorem lI{l:Addr}{vs:List Value}{cs:List (List Int)}{m:Nat}{Q:Value→Shared→Prop}(hu:A.in1.in1.units<cLine)(hl:s.heap.IsList l vs.toArray)(hz:vs.length≤sizeLine)(cv:fm s.heap m vs cs)
  (h:∀p:List Nat,p.Perm (List.range vs.length)→eQ (O:=ql) (fun i=>cs.getD i []) p→Q (.ref (s.heap.objs.size+1)) { s with heap:=sortedAll s.heap vs (List.toArray (p.map fun i=>vs.getD i Value.none)) }):
  wpAny (model prog w) A (call (.builtin "sorted") [.ref l]) Q E s:=by
 refine Calls.call_function_entry kind_sorted plain_sorted entry_sorted (args_sorted1 _) ?_
 unfold Builtin.«sorted»
 refine wpAny_bind (m:=checkCount "sorted" 1 1 _) (wpAny_pure ?_)
 refine wpAny_bind (collect_list hl ?_ hz)
 refine wpAny_bind (wpAny_newList ?_ hz)
 have om:((s.heap.push (seqObj "list" #[] 0)).update s.heap.objs.size (Obj.mapSeq (·++vs.toArray))).objs.size=s.heap.objs.size+1:=by
  rw[Heap.size_update,size_push']
 have Cy:(((s.heap.push (seqObj "list" #[] 0)).update s.heap.objs.size (Obj.mapSeq (·++vs.toArray))).push (seqObj "list" vs.toArray 0)).get? (s.heap.objs.size+1)=some (seqObj "list" vs.toArray 0):=by
  rw[←om];exact Heap.get?_push_size _ rfl
 have keep:∀b o,s.heap.get? b=some o→(((s.heap.push (seqObj "list" #[] 0)).update s.heap.objs.size (Obj.mapSeq (·++vs.toArray))).push (seqObj "list" vs.toArray 0)).get? b=some o:=fun b o q=>by
  have jQ:b<s.heap.objs.size:=Heap.lt_size q
  rw[Heap.get?_push_ne _ _ _ (by rw[om];exact Nat.ne_of_lt (Nat.lt_succ_of_lt jQ)),Heap.get?_update_ne _ _ _ _ (Nat.ne_of_lt jQ),Heap.get?_push_ne _ _ _ (Nat.ne_of_lt jQ)]
  exact q
 show wpAny _ _ _ _ _ { s with heap:=((s.heap.push (seqObj "list" #[] 0)).update s.heap.objs.size (Obj.mapSeq (·++vs.toArray))).push (seqObj "list" vs.toArray 0) }
 rw[om]
 refine wpAny_bind (wpAny_holding (wpAny_call_entry slot_list_sort ⟨_,Cy,rfl⟩ entry_list_sort (oV hu Cy hz (fun h' k=>cv.keep fun b o hb=>k b o (keep b o hb) (Nat.ne_of_lt (Nat.lt_succ_of_lt (Heap.lt_size hb)))) fun p a1 a2=>⟨_,rfl,?_⟩) (args_list_sort _)))
 exact wpAny_pure ⟨_,rfl,h p a1 a2⟩
end
section
variable {X:Cx}
theorem picked{as:List Addr}{ps:List Nat}(hp:ps.Perm (List.range as.length)):(ps.map fun i=>(as.map Value.ref).getD i Value.none)=(ps.map fun i=>as.getD i 0).map Value.ref:=by
 rw[List.map_map]
 refine List.map_congr_left fun i hi=>?_
 have hi:=List.mem_range.mp (hp.mem_iff.mp hi)
 rw[List.getD_eq_getElem?_getD,List.getElem?_map,List.getElem?_eq_getElem hi]
 show _=Value.ref (as.getD i 0)
 rw[List.getD_eq_getElem?_getD,List.getElem?_eq_getElem hi]
 rfl
theorem iG(hu:X.A.units+64<cLine):eh X (.builtin "sorted") (fun xs H Q=>∃(p:Addr) (as:List Addr) (cs:List (List Int)) (m:Nat),xs=[.ref p]∧aD X.K H p (as.map V.ref)∧dM X.K H as cs∧(∀c∈cs,c.length=m)∧
  ∀(l:Addr) (ps:List Nat),ps.Perm (List.range as.length)→(ps.map fun i=>cs.getD i []).Pairwise (fun a b=>¬b<a)→H l=none→Q (.ref l) (upd H l (.lst ((ps.map fun i=>as.getD i 0).map V.ref)))):=by
 intro pins s σ H xs us Q I r h
 obtain⟨p,as,cs,m,rfl,hS,fj,hm,q⟩:=h
 obtain⟨u,rfl,ru⟩:=vals1 r
 cases ru
 obtain⟨its,rv,pl,hz⟩:=I.list hS
 have ei:=g8 rv
 subst ei
 have Qg:=fj.length
 have cv:fm s.heap m (as.map Value.ref) cs:=⟨by rw[List.length_map,Qg],fun i hi=>by
  rw[List.length_map] at hi
  obtain⟨c,hc,hs⟩:=fj.get (List.getElem?_eq_getElem hi)
  obtain⟨ws,uv,pw,_⟩:=I.list hs
  have ec:cs.getD i []=c:=by rw[List.getD_eq_getElem?_getD,hc];rfl
  exact⟨as[i],ws,by rw[List.getD_eq_getElem?_getD,List.getElem?_map,List.getElem?_eq_getElem hi];rfl,pw.isList,by rw[ec];exact intsAre_of uv,by rw[ec];exact hm c (List.mem_of_getElem? hc)⟩⟩
 rw[List.length_map] at hz
 refine lI (by show X.A.units+1+1<cLine;omega) pl.isList (by rw[List.length_map];exact hz) cv fun pp hp hi=>?_
 rw[List.length_map] at hp
 rw[picked hp]
 have Qh:(pp.map fun i=>as.getD i 0).length=as.length:=by rw[List.length_map,hp.length_eq,List.length_range]
 have hq:=q (s.heap.objs.size+1) pp hp (by
  rw[List.pairwise_map]
  refine List.Pairwise.imp (fun {a b} l7=>?_) hi
  have l7:decide (cs.getD b [] <cs.getD a [])=false:=l7
  simpa using l7) (I.bV.fresh (Nat.le_succ _))
 generalize (pp.map fun i=>as.getD i 0)=bs at*
 obtain⟨e,he⟩:=sortedAll_at s.heap (as.map Value.ref) (bs.map Value.ref).toArray
 have le:s.heap.objs.size≤s.heap.objs.size+1:=Nat.le_succ _
 refine⟨.ref (s.heap.objs.size+1),_,I.laid (t':=s.toks) (o:= .lst (bs.map V.ref)) (fun b ob q=>sortedAll_old q) le ⟨?_,bs.map Value.ref,e,fo bs,?_⟩,rfl,hq⟩
 ·rw[List.length_map,Qh]
  exact hz
 ·rw[he]
end
end L2
namespace L2
open PySem PySem.Spec PyProof.Rows PySem.SeqAt PySem.W
@[reducible] def m5:KeyOrd where
  α:=Int
  blt a b:=decide (a<b)
  irrefl a:=by simp
  trans a b c h1 h2:=by simp only [decide_eq_true_eq] at*;omega
  negTrans a b c h:=by simp only [decide_eq_true_eq] at*;omega
  total a b h1 h2:=by simp only [decide_eq_false_iff_not] at*;omega
section
variable {prog:Program}{w:World}{A:Around}{E:Value→Shared→Prop}{s:Shared}
theorem Qi{keys:Array Value}{vs:List Value}{i:Nat}(hk:keys.size=vs.length)(hi:i<vs.length):kas_item (keys.zip vs.toArray) i=(keys.toList.getD i Value.none,vs.getD i Value.none):=by
 have h1:i<keys.size:=by omega
 have h2:i< (keys.zip vs.toArray).size:=by rw[Array.size_zip,hk,List.size_toArray,Nat.min_self];exact hi
 unfold kas_item Array.getD
 rw[dif_pos h2]
 show (keys.zip vs.toArray)[i]=_
 rw[Array.getElem_zip]
 simp [hi,h1]
def wc(k:Int)(s':Shared)(u:Value)(p7:Shared):Prop:=∃h' tk t,p7={ s' with heap:=h',toks:=tk }∧u= .int k t∧∀b o,s'.heap.get? b=some o→h'.get? b=some o
theorem tQ{a:Addr}{vs:List Value}{kz:List Int}{f:Value}{n:Nat}{P:PySem.Fin→Shared→Prop}(ho:s.heap.get? a=some (seqObj "list" vs.toArray n))(hz:vs.length≤sizeLine)(hlen:kz.length=vs.length)
  (turn:∀(i:Nat) (v:Value),vs[i]? =some v→∀h' tk,(∀b o,s.heap.get? b=some o→b≠a→h'.get? b=some o)→wpAny (model prog w) A (call f [v]) (wc (kz.getD i 0) { s with heap:=h',toks:=tk }) (fun _ _=>False) { s with heap:=h',toks:=tk })
  (h:∀p h' tk c,p.Perm (List.range vs.length)→eQ (O:=m5) (fun i=>kz.getD i 0) p→(∀b o,s.heap.get? b=some o→b≠a→h'.get? b=some o)→h'.get? a=some (seqObj "list" (p.map fun i=>vs.getD i Value.none).toArray c)→P (.done (.ret .none)) { s with heap:=h',toks:=tk }):
  wpAny (model prog w) A (ksk_tree a f false) P E s:=by
 have ha:a<s.heap.objs.size:=Heap.lt_size ho
 obtain⟨e1,HU⟩:∃e1,(s.heap.update a (Obj.mapSeq fun _=>(#[]:Array Value))).get? a=some (seqObj "list" #[] e1):=⟨_,get?_update_seq ho fun _=>#[]⟩
 have SI:((s.heap.update a (Obj.mapSeq fun _=>(#[]:Array Value))).push (seqObj "tuple" vs.toArray 0)).objs.size=s.heap.objs.size+1:=by rw[size_push',Heap.size_update]
 unfold ksk_tree
 refine wpAny_bind (listItems_at ho rfl ?_)
 refine wpAny_bind (listUpdate_at ho rfl ?_ (by rw[List.size_toArray];exact hz) (Nat.zero_le _))
 refine wpAny_bind (seqEpoch_at HU rfl ?_)
 refine wpAny_bind (wpAny_newTuple ?_ hz)
 refine wpAny_bind (wpAny_newList ?_ (Nat.zero_le _))
 refine wpAny_holding ?_
 have k0:(((s.heap.update a (Obj.mapSeq fun _=>(#[]:Array Value))).push (seqObj "tuple" vs.toArray 0)).push (seqObj "list" #[] 0)).get? (s.heap.objs.size+1)=some (seqObj "list" #[] 0):=by
  rw[←SI];exact Heap.get?_push_size _ rfl
 have a0:(((s.heap.update a (Obj.mapSeq fun _=>(#[]:Array Value))).push (seqObj "tuple" vs.toArray 0)).push (seqObj "list" #[] 0)).get? a=some (seqObj "list" #[] e1):=Heap.get?_push_of_some _ (Heap.get?_push_of_some _ HU)
 have o0:∀b o,s.heap.get? b=some o→b≠a→(((s.heap.update a (Obj.mapSeq fun _=>(#[]:Array Value))).push (seqObj "tuple" vs.toArray 0)).push (seqObj "list" #[] 0)).get? b=some o:=fun b o hb Bn=>
  Heap.get?_push_of_some _ (Heap.get?_push_of_some _ (by rw[Heap.get?_update_ne _ _ _ _ Bn];exact hb))
 show wpAny (model prog w) A (ksk_rest a f false vs.toArray e1 (.ref ((s.heap.update a (Obj.mapSeq fun _=>(#[]:Array Value))).push (seqObj "tuple" vs.toArray 0)).objs.size)) P E { s with heap:=((s.heap.update a (Obj.mapSeq fun _=>(#[]:Array Value))).push (seqObj "tuple" vs.toArray 0)).push (seqObj "list" #[] 0) }
 rw[SI]
 generalize ((s.heap.update a (Obj.mapSeq fun _=>(#[]:Array Value))).push (seqObj "tuple" vs.toArray 0)).push (seqObj "list" #[] 0)=g0 at k0 a0 o0
 generalize SJ:s.heap.objs.size+1=kS at k0
 have SK:kS≠a:=by rw[←SJ];exact Nat.ne_of_gt (Nat.lt_succ_of_lt ha)
 have hold:∀{b o},s.heap.get? b=some o→b≠kS:=fun hb=>by rw[←SJ];exact Nat.ne_of_lt (Nat.lt_succ_of_lt (Heap.lt_size hb))
 unfold ksk_rest
 refine wpAny_bind (wpAny_rule ?_)
 first
  |rw[List.forIn_toArray]
  | (rw[←Array.forIn_toList];simp only [List.toList_toArray])
  |rw[←Array.forIn_toList]
 refine wpAny_bind (ksk_fold (fun i s'=>∃h' tk kA e,s'={ s with heap:=h',toks:=tk }∧(∀b o,s.heap.get? b=some o→b≠a→h'.get? b=some o)∧h'.get? a=some (seqObj "list" #[] e1)∧h'.get? kS=some (seqObj "list" kA e)∧IntsAre kA.toList (kz.take i)) vs 0 _
  ⟨g0,s.toks,#[],0,rfl,o0,a0,k0,by simpa using IntsAre.nil⟩ ?step ?done)
 case step=>
  rintro j x s' hx ⟨h',tk,kA,e,rfl,i1,i2,i3,hk⟩
  simp only [Nat.zero_add] at hk ⊢
  have hj:j<vs.length:=(List.getElem?_eq_some_iff.mp hx).1
  have U9:kz[j]? =some (kz.getD j 0):=by rw[List.getD_eq_getElem?_getD,List.getElem?_eq_getElem (by omega)];rfl
  have WD:kA.size≤vs.length:=by
   have h1:=hk.length
   rw[Array.length_toList,List.length_take] at h1
   omega
  refine wpAny_bind (wpAny_attempt (wpAny_mono (turn j x hx h' tk i1) (fun v p7 he=>?_) fun _ _ hF=>hF.elim))
  obtain⟨g,HV,t2,rfl,rfl,kp⟩:=he
  try dsimp only
  obtain⟨c2,Hy⟩:∃c2,(g.update kS (Obj.mapSeq (·.push (.int (kz.getD j 0) t2)))).get? kS=some (seqObj "list" (kA.push (.int (kz.getD j 0) t2)) c2):=⟨_,get?_update_seq (kp _ _ i3) (·.push (.int (kz.getD j 0) t2))⟩
  have ek:kz.take (j+1)=kz.take j++[kz.getD j 0]:=by rw[List.take_add_one,U9];simp
  have ea:(kA.push (Value.int (kz.getD j 0) t2)).toList=kA.toList++[Value.int (kz.getD j 0) t2]:=by simp
  refine wpAny_bind (listUpdate_at (kp _ _ i3) rfl ?_ (by omega) (Nat.le_trans (Nat.le_of_eq (Array.size_push ..)) (by omega)))
  refine wpAny_pure ⟨rfl,_,_,kA.push (.int (kz.getD j 0) t2),c2,rfl,fun b o hb Bn=>?_,?_,Hy,by rw[ea,ek];exact ksk_snoc hk⟩
  ·rw[Heap.get?_update_ne _ _ _ _ (hold hb)]
   exact kp _ _ (i1 b o hb Bn)
  ·rw[Heap.get?_update_ne _ _ _ _ SK.symm]
   exact kp _ _ i2
 case done=>
  rintro s' ⟨h',tk,keys,e,rfl,i1,i2,i3,hk⟩
  have hk:IntsAre keys.toList kz:=by
   rw[List.take_of_length_le (by omega)] at hk
   exact hk
  have HW:keys.size=vs.length:=by
   have h1:=hk.length
   rw[Array.length_toList] at h1
   omega
  have DJ:(keys.zip vs.toArray).size=vs.length:=by rw[Array.size_zip,HW,List.size_toArray,Nat.min_self]
  try dsimp only
  refine wpAny_bind (listItems_at i3 rfl ?_)
  have HX:∀(κ:SortKind) (p:List Nat) (pd:Array (Nat×Nat×Nat)) (g:Nat),p.Perm (List.range vs.length)→eQ (O:=m5) (fun i=>kz.getD i 0) p→wpAny (model prog w) A (ksk_tail a false e1 (.ref kS) (cU κ (keys.zip vs.toArray) p pd g)) P E { s with heap:=h',toks:=tk }:=fun κ p pd g hp hi=>by
   have DI:(arrOf (cU κ (keys.zip vs.toArray) p pd g)).map (·.2)=List.toArray (p.map fun i=>vs.getD i Value.none):=by
    show (ar (keys.zip vs.toArray) p).map (·.2)=_
    apply Array.toList_inj.mp
    unfold ar
    rw[Array.toList_map,List.toList_toArray,List.map_map]
    refine List.map_congr_left fun i hi=>?_
    show (kas_item _ i).2=_
    rw[Qi HW (List.mem_range.mp (hp.mem_iff.mp hi))]
   have a1:(h'.update kS (Obj.mapSeq fun _=>(#[]:Array Value))).get? a=some (seqObj "list" #[] e1):=by
    rw[Heap.get?_update_ne _ _ _ _ SK.symm];exact i2
   unfold ksk_tail
   try dsimp only
   rw[DI]
   refine wpAny_bind (listUpdate_at i3 rfl ?_ (by omega) (Nat.zero_le _))
   refine wpAny_bind (wpAny_letGo ?_)
   refine wpAny_bind (seqEpoch_at a1 rfl ?_)
   refine wpAny_bind (listUpdate_at a1 rfl ?_ (Nat.zero_le _) ?_)
   ·simp only [bne_self_eq_false,Bool.false_eq_true,if_false]
    refine wpAny_pure (h p _ _ _ hp hi (fun b o hb Bn=>?_) (get?_update_seq a1 fun _=>List.toArray (p.map fun i=>vs.getD i Value.none)))
    show ((h'.update kS (Obj.mapSeq fun _=>(#[]:Array Value))).update a _).get? b=_
    rw[Heap.get?_update_ne _ _ _ _ Bn,Heap.get?_update_ne _ _ _ _ (hold hb)]
    exact i1 b o hb Bn
   ·show (if false=true then _ else List.toArray (p.map fun i=>vs.getD i Value.none)).size≤_
    rw[if_neg (by simp),List.size_toArray,List.length_map,hp.length_eq,List.length_range]
    omega
  have step:∀t:Sem PySem.Fin,wpAny (model prog w) A t P E { s with heap:=h',toks:=tk }→wpAny (model prog w) A (if false=true then (do let _←rule "list.sort.reverse";t) else t) P E { s with heap:=h',toks:=tk }:=fun t ht=>by
   rw[if_neg (by simp)];exact ht
  unfold ksk_end
  try dsimp only
  refine step _ ?_
  rw[if_neg (show¬false=true by simp)]
  by_cases h2:vs.toArray.size<2
  ·rw[if_pos h2,if_pos h2]
   refine wpAny_bind (wpAny_pure ?_)
   rw[StateT.run_pure]
   refine wpAny_bind (wpAny_pure ?_)
   try dsimp only
   have er:SortSt.mk' general' (keys.zip vs.toArray) #[] 7 none=cU general' (keys.zip vs.toArray) (List.range vs.length) #[] 7:=by
    show _=SortSt.mk' general' (ar (keys.zip vs.toArray) (List.range vs.length)) #[] 7 none
    rw[cM,←DJ,kas_range]
   rw[er]
   refine HX _ _ _ _ (List.Perm.refl _) (List.pairwise_iff_getElem.mpr fun i j hi hj gQ=>?_)
   rw[List.length_range] at hi hj
   rw[List.size_toArray] at h2
   omega
  ·rw[if_neg h2,if_neg h2]
   rw[List.size_toArray] at h2
   rw[ksk_kind hk (by rw[HW];omega)]
   refine wpAny_bind (wpAny_pure ?_)
   have asks:c8 m5 (fun i=>kz.getD i 0) (keys.zip vs.toArray).size (fun s'=>s'={ s with heap:=h',toks:=tk }) (kas_cmp prog w A oneType' (keys.zip vs.toArray)):=by
    intro i j K s' hi hj e hK
    rw[DJ] at hi hj
    subst e
    unfold kas_cmp
    rw[Qi HW hi,Qi HW hj]
    have at':∀t,t<vs.length→∃u,keys.toList.getD t Value.none=Value.int (kz.getD t 0) u:=fun t ht=>by
     have HY:t<keys.toList.length:=by rw[Array.length_toList];omega
     obtain⟨u,e⟩:=PyProof.Rows.IntsAre.int_at hk t keys.toList[t] (List.getElem?_eq_getElem HY)
     exact⟨u,by rw[List.getD_eq_getElem?_getD,List.getElem?_eq_getElem HY];exact e⟩
    obtain⟨u,e1⟩:=at' i hi
    obtain⟨u',e2⟩:=at' j hj
    rw[e1,e2]
    exact kat_lt_int (hK _ rfl)
   refine wpAny_bind (HS (it:=keys.zip vs.toArray) asks (by rw[DJ];omega) fun p pd g hp hi=>?_)
   rw[DJ] at hp
   exact HX _ p pd g hp hi
theorem oW{l:Addr}{vs:List Value}{kz:List Int}{f:Value}{i:String}{Q:Value→Shared→Prop}(ef:f= .builtin i)(hl:s.heap.IsList l vs.toArray)(hz:vs.length≤sizeLine)(hlen:kz.length=vs.length)
  (turn:∀(i:Nat) (v:Value),vs[i]? =some v→∀h' tk,(∀b o,s.heap.get? b=some o→h'.get? b=some o)→wpAny (model prog w) A.in1.in1 (call f [v]) (wc (kz.getD i 0) { s with heap:=h',toks:=tk }) (fun _ _=>False) { s with heap:=h',toks:=tk })
  (h:∀p h' tk c,p.Perm (List.range vs.length)→eQ (O:=m5) (fun i=>kz.getD i 0) p→(∀b o,s.heap.get? b=some o→h'.get? b=some o)→h'.get? (s.heap.objs.size+1)=some (seqObj "list" (p.map fun i=>vs.getD i Value.none).toArray c)→Q (.ref (s.heap.objs.size+1)) { s with heap:=h',toks:=tk }):
  wpAny (model prog w) A (call (.builtin "sorted") [.ref l] [(Str.ofString "key",f)]) Q E s:=by
 refine call_function_entry_kw kind_sorted plain_sorted entry_sorted (ksk_s1 _ _) ?_
 unfold Builtin.«sorted»
 refine wpAny_bind (m:=checkCount "sorted" 1 1 _) (wpAny_pure ?_)
 refine wpAny_bind (collect_list hl ?_ hz)
 refine wpAny_bind (wpAny_newList ?_ hz)
 have om:((s.heap.push (seqObj "list" #[] 0)).update s.heap.objs.size (Obj.mapSeq (·++vs.toArray))).objs.size=s.heap.objs.size+1:=by
  rw[Heap.size_update,size_push']
 have Cy:(((s.heap.push (seqObj "list" #[] 0)).update s.heap.objs.size (Obj.mapSeq (·++vs.toArray))).push (seqObj "list" vs.toArray 0)).get? (s.heap.objs.size+1)=some (seqObj "list" vs.toArray 0):=by
  rw[←om];exact Heap.get?_push_size _ rfl
 have keep:∀b o,s.heap.get? b=some o→(((s.heap.push (seqObj "list" #[] 0)).update s.heap.objs.size (Obj.mapSeq (·++vs.toArray))).push (seqObj "list" vs.toArray 0)).get? b=some o:=fun b o q=>by
  have jQ:b<s.heap.objs.size:=Heap.lt_size q
  rw[Heap.get?_push_ne _ _ _ (by rw[om];exact Nat.ne_of_lt (Nat.lt_succ_of_lt jQ)),Heap.get?_update_ne _ _ _ _ (Nat.ne_of_lt jQ),Heap.get?_push_ne _ _ _ (Nat.ne_of_lt jQ)]
  exact q
 have ne:∀b o,s.heap.get? b=some o→b≠s.heap.objs.size+1:=fun b o q=>Nat.ne_of_lt (Nat.lt_succ_of_lt (Heap.lt_size q))
 show wpAny _ _ _ _ _ { s with heap:=((s.heap.push (seqObj "list" #[] 0)).update s.heap.objs.size (Obj.mapSeq (·++vs.toArray))).push (seqObj "list" vs.toArray 0) }
 rw[om]
 refine wpAny_bind (wpAny_holding (wpAny_call_entry_kw slot_list_sort ⟨_,Cy,rfl⟩ entry_list_sort ?body (ksk_l1 _ _)))
 case body=>
  show wpAny (model prog w) A.in1.in1 (Builtin.«list.sort» ⟨[.ref (s.heap.objs.size+1)],[(Str.ofString "key",f)]⟩) _ _ _
  rw[ef,ksk_t4,←ef]
  refine tQ (s:={ s with heap:=((s.heap.push (seqObj "list" #[] 0)).update s.heap.objs.size (Obj.mapSeq (·++vs.toArray))).push (seqObj "list" vs.toArray 0) }) Cy hz hlen (fun i v hv h' tk hk=>turn i v hv h' tk fun b o hb=>hk b o (keep b o hb) (ne b o hb)) fun p h' tk c hp hi hk hL=>⟨_,rfl,?_⟩
  exact wpAny_pure ⟨_,rfl,h p h' tk c hp hi (fun b o hb=>hk b o (keep b o hb) (ne b o hb)) hL⟩
end
section
variable {X:Cx}
def DK(K:PySem.W.Frag)(t:TA):TE:=fun σ H Q=>t σ H fun vs H1=>∃(p:Addr) (as:List Addr) (cs:List (List Int)),vs=[.ref p]∧aD K H1 p (as.map V.ref)∧dM K H1 as cs∧
    ∀(l:Addr) (ps:List Nat),ps.Perm (List.range as.length)→(ps.map fun i=>(cs.getD i []).sum).Pairwise (·≤·)→H1 l=none→Q (.ref l) (upd H1 l (.lst ((ps.map fun i=>as.getD i 0).map V.ref)))
theorem qt{e:Expr}{t:TA}{p pos kp np:Pos}(hc:X.calm=true)(hg:Gl X "sorted")(hm:X.mg "sorted" =none)(U':Gl X "sum")(Og:X.mg "sum" =none)(ha:PA X [e] t)
  (he:backTo pos (starEach [e] X.env)=[(false,eval e X.env)]:=by rfl):PE X (.Call (.Name "sorted" p) [e] [⟨some "key", .Name "sum" np,kp⟩] pos) (DK X.K t):=by
 intro pins s σ H Q I h
 refine wpAny_Call_Name_kw (fk I hg hm jj ?_)
 refine callWith_kw (bF (ha pos pins s σ H _ I h) fun us s1 ⟨vs,H1,I1,r1,q,as,cs,ev,hS,fj,k⟩=>kws_cons (fk I1 U' Og je (kws_nil ?_))) (by rw[he];rfl) (by rw[he];rfl)
 subst ev
 obtain⟨u,rfl,ru⟩:=vals1 r1
 cases ru
 obtain⟨its,rv,pl,hz⟩:=I1.list hS
 have ei:=g8 rv
 subst ei
 rw[List.length_map] at hz
 have Qg:=fj.length
 refine oW (kz:=cs.map List.sum) rfl pl.isList (by rw[List.length_map];exact hz) (by rw[List.length_map,List.length_map,Qg]) (fun i v hv h' tk hk=>?_) fun ps h' tk c hp hi hk hL=>?_
 ·rw[List.getElem?_map] at hv
  obtain⟨a,ea,rfl⟩:=Option.map_eq_some_iff.mp hv
  obtain⟨c,ec,hs⟩:=fj.get ea
  obtain⟨ws,uv,pw,_⟩:=I1.list hs
  have SO:IntsAre ws c:=intsAre_of uv
  obtain⟨ys,hy⟩:=SO.allInts.items
  obtain⟨o,ho,h1,h2⟩:=pw.isList
  have hl:h'.IsList a (intItems ys):=hy▸⟨o,hk _ _ ho,h1,h2⟩
  refine sum_intListG (s:={ s1 with heap:=h',toks:=tk }) (I1.ok.hd hc) hl fun h2 HV t2 Va=>⟨h2,HV,t2,rfl,?_,Va⟩
  have e1:c=ys.toList.map (·.1):=by
   rw[←nums_intItems,←hy]
   exact(show numsOf ws.toArray.toList=c from SO.numsOf).symm
  have e2:preSum (numAt ys) ys.size=c.sum:=by rw[preSum_eq,List.take_of_length_le (by simp),e1]
  rw[e2,List.getD_eq_getElem?_getD,List.getElem?_map,ec]
  rfl
 ·rw[List.length_map] at hp
  rw[picked hp] at hL
  have Qh:(ps.map fun i=>as.getD i 0).length=as.length:=by rw[List.length_map,hp.length_eq,List.length_range]
  have hq:=k (s1.heap.objs.size+1) ps hp (by
   rw[List.pairwise_map]
   refine List.Pairwise.imp (fun {a b} l7=>?_) hi
   have e:∀j,(cs.map List.sum).getD j 0=(cs.getD j []).sum:=fun j=>by
    rw[List.getD_eq_getElem?_getD,List.getElem?_map,List.getD_eq_getElem?_getD]
    cases cs[j]? <;>rfl
   have l7:decide ((cs.map List.sum).getD b 0< (cs.map List.sum).getD a 0)=false:=l7
   rw[e,e] at l7
   simpa using l7) (I1.bV.fresh (Nat.le_succ _))
  generalize (ps.map fun i=>as.getD i 0)=bs at*
  exact⟨.ref (s1.heap.objs.size+1),_,I1.laid (t':=tk) (o:= .lst (bs.map V.ref)) hk (Nat.le_succ _) ⟨by rw[List.length_map,Qh];exact hz,bs.map Value.ref,c,fo bs,hL⟩,rfl,hq⟩
end
end L2
set_option maxHeartbeats 4000000
namespace Qj
open PySem L2
def top(i:Nat):Stmt:=PySem.Challenge.pw_balancehall_k30_least_told.main.body.getD i (.Pass ⟨0,0,0,0⟩)
abbrev dA:Stmt:=top 1
abbrev dQ:Stmt:=top 2
abbrev fu:Stmt:=top 3
abbrev g9:Stmt:=inClass (top 5) 0
abbrev hE:Stmt:=inClass (top 6) 0
abbrev dR:Stmt:=inClass (top 6) 1
abbrev iH:Stmt:=inClass (top 6) 2
abbrev oX:Stmt:=inClass (top 6) 3
abbrev oY:Stmt:=inClass (top 6) 4
abbrev fx:Stmt:=inClass (top 6) 5
abbrev gS:Stmt:=inClass (top 6) 6
abbrev fy:Stmt:=inClass (top 6) 7
abbrev eD:Stmt:=top 7
abbrev hU:Stmt:=inClass (top 9) 0
abbrev dS:Stmt:=inClass (top 9) 1
abbrev bY:Stmt:=inClass (top 9) 2
abbrev dB:Stmt:=inClass (top 9) 3
abbrev aQ:Stmt:=top 10
abbrev iI:Stmt:=top 11
abbrev cN:Stmt:=top 12
abbrev jA:Stmt:=top 14
abbrev eE:Stmt:=top 15
abbrev bD:Stmt:=top 16
abbrev eV:Stmt:=top 17
abbrev dU:Stmt:=top 18
abbrev c9:Stmt:=top 19
abbrev lJ:Stmt:=top 20
abbrev dC:Stmt:=top 21
abbrev lK:Stmt:=top 22
abbrev b7:=Nat→Int
structure Form(k:Nat)(R:List Nat)(φ:List b7→Int):Prop where
 we:∀(xs ys:List b7) (u v:b7) (a b:Int),xs.length+ys.length+1=k→φ (xs++(fun t=>a*u t+b*v t)::ys)=a*φ (xs++u::ys)+b*φ (xs++v::ys)
 alt:∀(xs ys:List b7) (v:b7),xs.length+ys.length+2=k→φ (xs++v::v::ys)=0
 loc:∀(xs ys:List b7) (u v:b7),xs.length+ys.length+1=k→(∀t∈R,u t=v t)→φ (xs++u::ys)=φ (xs++v::ys)
 Oj:∀(vs:List b7) (M:Nat),vs.length=k→(∀v∈vs,∀t∈R,(v t).natAbs≤M)→(φ vs).natAbs≤k^k*M^k
def eF(r:Nat)(φ:List b7→Int):List b7→List b7→Int
 |_,[]=>0
 |pre,v::rest=>v r*φ (pre++rest) - eF r φ (pre++[v]) rest
section
variable {k r:Nat}{R:List Nat}{φ:List b7→Int}
theorem gT(F:Form k R φ)(u v:b7)(a b:Int):∀(ys p q:List b7),p.length+q.length+1+ys.length=k+1→
  eF r φ (p++(fun t=>a*u t+b*v t)::q) ys=a*eF r φ (p++u::q) ys+b*eF r φ (p++v::q) ys
 | [],p,q,_=>by simp [eF]
 |y::rest,p,q,h=>by
  have h':p.length+q.length+1+(rest.length+1)=k+1:=h
  have ih:=gT F u v a b rest p (q++[y]) (by rw[List.length_append];simp;omega)
  have l:=F.we p (q++rest) u v a b (by rw[List.length_append];omega)
  simp only [eF,List.append_assoc,List.cons_append] at ih ⊢
  rw[ih,l]
  simp only [Int.mul_add,Int.mul_sub,Int.mul_left_comm]
  omega
theorem ma(F:Form k R φ)(u v:b7)(a b:Int):∀(xs ys pre:List b7),pre.length+xs.length+1+ys.length=k+1→
  eF r φ pre (xs++(fun t=>a*u t+b*v t)::ys)=a*eF r φ pre (xs++u::ys)+b*eF r φ pre (xs++v::ys)
 | [],ys,pre,h=>by
   have l:=gT (r:=r) F u v a b ys pre [] (by simpa using h)
   simp only [List.nil_append,eF]
   rw[l]
   simp only [Int.mul_sub,Int.add_mul,Int.mul_assoc]
   omega
 |x::xs,ys,pre,h=>by
  have h':pre.length+(xs.length+1)+1+ys.length=k+1:=h
  have ih:=ma F u v a b xs ys (pre++[x]) (by rw[List.length_append];simp;omega)
  have l:=F.we (pre++xs) ys u v a b (by rw[List.length_append];omega)
  simp only [List.cons_append,eF,List.append_assoc] at ih l ⊢
  rw[ih,l]
  simp only [Int.mul_add,Int.mul_sub,Int.mul_left_comm]
  omega
theorem gU(F:Form k R φ)(v:b7):∀(ys p q:List b7),p.length+q.length+2+ys.length=k+1→eF r φ (p++v::v::q) ys=0
 | [],_,_,_=>rfl
 |y::rest,p,q,h=>by
  have h':p.length+q.length+2+(rest.length+1)=k+1:=h
  have ih:=gU F v rest p (q++[y]) (by rw[List.length_append];simp;omega)
  have l:=F.alt p (q++rest) v (by rw[List.length_append];omega)
  simp only [eF,List.append_assoc,List.cons_append] at ih ⊢
  rw[ih,l];simp
theorem md(F:Form k R φ)(v:b7):∀(xs ys pre:List b7),pre.length+xs.length+2+ys.length=k+1→eF r φ pre (xs++v::v::ys)=0
 | [],ys,pre,h=>by
   have l:=gU (r:=r) F v ys pre [] (by simpa using h)
   simp only [List.nil_append,eF,List.append_assoc,List.cons_append] at l ⊢
   rw[l];omega
 |x::xs,ys,pre,h=>by
  have h':pre.length+(xs.length+1)+2+ys.length=k+1:=h
  have ih:=md F v xs ys (pre++[x]) (by rw[List.length_append];simp;omega)
  have l:=F.alt (pre++xs) ys v (by rw[List.length_append];omega)
  simp only [List.cons_append,eF,List.append_assoc] at ih l ⊢
  rw[ih,l];simp
theorem gW(F:Form k R φ)(u v:b7)(e:∀t∈R,u t=v t):∀(ys p q:List b7),p.length+q.length+1+ys.length=k+1→eF r φ (p++u::q) ys=eF r φ (p++v::q) ys
 | [],_,_,_=>rfl
 |y::rest,p,q,h=>by
  have h':p.length+q.length+1+(rest.length+1)=k+1:=h
  have ih:=gW F u v e rest p (q++[y]) (by rw[List.length_append];simp;omega)
  have l:=F.loc p (q++rest) u v (by rw[List.length_append];omega) e
  simp only [eF,List.append_assoc,List.cons_append] at ih ⊢
  rw[ih,l]
theorem me(F:Form k R φ)(u v:b7)(e:∀t∈R,u t=v t)(er:u r=v r):∀(xs ys pre:List b7),pre.length+xs.length+1+ys.length=k+1→eF r φ pre (xs++u::ys)=eF r φ pre (xs++v::ys)
 | [],ys,pre,h=>by
   have l:=gW (r:=r) F u v e ys pre [] (by simpa using h)
   simp only [List.nil_append,eF]
   rw[l,er]
 |x::xs,ys,pre,h=>by
  have h':pre.length+(xs.length+1)+1+ys.length=k+1:=h
  have ih:=me F u v e er xs ys (pre++[x]) (by rw[List.length_append];simp;omega)
  have l:=F.loc (pre++xs) ys u v (by rw[List.length_append];omega) e
  simp only [List.cons_append,eF,List.append_assoc] at ih l ⊢
  rw[ih,l]
theorem mf(F:Form k R φ)(M:Nat):∀(vs pre:List b7),pre.length+vs.length=k+1→(∀v∈pre++vs,∀t∈r::R,(v t).natAbs≤M)→(eF r φ pre vs).natAbs≤vs.length*(M*(k^k*M^k))
 | [],_,_,_=>by simp [eF]
 |v::rest,pre,h,hb=>by
  have h':pre.length+(rest.length+1)=k+1:=h
  have ih:=mf F M rest (pre++[v]) (by rw[List.length_append];simp;omega) (by simpa [List.append_assoc] using hb)
  have b1:=F.Oj (pre++rest) M (by rw[List.length_append];omega) fun w hw t ht=>hb w (by
   rcases List.mem_append.mp hw with z|z
   ·exact List.mem_append_left _ z
   ·exact List.mem_append_right _ (List.mem_cons_of_mem _ z)) t (List.mem_cons_of_mem _ ht)
  have b2:(v r).natAbs≤M:=hb v (List.mem_append_right _ (List.mem_cons_self ..)) r (List.mem_cons_self ..)
  have b3:(v r*φ (pre++rest)).natAbs≤M*(k^k*M^k):=by rw[Int.natAbs_mul];exact Nat.mul_le_mul b2 b1
  have e:(v::rest).length*(M*(k^k*M^k))=rest.length*(M*(k^k*M^k))+M*(k^k*M^k):=by rw[List.length_cons,Nat.succ_mul]
  rw[e]
  simp only [eF]
  omega
theorem Form.HZ(F:Form k R φ)(r:Nat):Form (k+1) (r::R) (eF r φ []) where
 we:=fun xs ys u v a b h=>ma F u v a b xs ys [] (by simp;omega)
 alt:=fun xs ys v h=>md F v xs ys [] (by simp;omega)
 loc:=fun xs ys u v h e=>me F u v (fun t ht=>e t (List.mem_cons_of_mem _ ht)) (e r (List.mem_cons_self ..)) xs ys [] (by simp;omega)
 Oj:=fun vs M h hb=>by
  have:=mf (r:=r) F M vs [] (by simpa using h) (by simpa using hb)
  rw[h] at this
  refine Nat.le_trans this ?_
  have e:(k+1)*(M*(k^k*M^k))=((k+1)*k^k)*M^(k+1):=by
   rw[Nat.pow_succ]
   simp only [Nat.mul_assoc,Nat.mul_left_comm,Nat.mul_comm]
  rw[e,Nat.pow_succ (k+1) k,Nat.mul_comm ((k+1) ^k)]
  exact Nat.mul_le_mul_right _ (Nat.mul_le_mul_left _ (Nat.pow_le_pow_left (Nat.le_succ k) k))
theorem Form.swap(F:Form k R φ)(xs ys:List b7)(u v:b7)(h:xs.length+ys.length+2=k):φ (xs++u::v::ys)= - φ (xs++v::u::ys):=by
 have key:=F.alt xs ys (fun t=>1*u t+1*v t) h
 have l1:=F.we xs ((fun t=>1*u t+1*v t)::ys) u v 1 1 (by simp;omega)
 have l2:=F.we (xs++[u]) ys u v 1 1 (by simp;omega)
 have l3:=F.we (xs++[v]) ys u v 1 1 (by simp;omega)
 simp only [List.append_assoc,List.cons_append,List.nil_append] at l2 l3
 have a1:=F.alt xs ys u h
 have a2:=F.alt xs ys v h
 rw[l1,l2,l3,a1,a2] at key
 omega
theorem Form.rep(F:Form k R φ)(v:b7):∀(ys xs zs:List b7),xs.length+ys.length+zs.length+2=k→φ (xs++v::(ys++v::zs))=0
 | [],xs,zs,h=>F.alt xs zs v (by simpa using h)
 |y::ys,xs,zs,h=>by
  have h':xs.length+(ys.length+1)+zs.length+2=k:=h
  have ih:=Form.rep F v ys (xs++[y]) zs (by rw[List.length_append];simp;omega)
  have s:=F.swap xs (ys++v::zs) v y (by rw[List.length_append];simp;omega)
  simp only [List.append_assoc,List.cons_append,List.nil_append] at ih s ⊢
  rw[s,ih];rfl
end
def sm:Nat→(Nat→Int)→Int
 |0,_=>0
 |n+1,f=>sm n f+f n
theorem gi{n:Nat}{f g:Nat→Int}(h:∀t,t<n→f t=g t):sm n f=sm n g:=by
 induction n with
 |zero=>rfl
 |succ n ih=>rw[sm,sm,ih fun t ht=>h t (Nat.lt_succ_of_lt ht),h n (Nat.lt_succ_self n)]
theorem qu(n:Nat)(a b:Int)(f g:Nat→Int):sm n (fun t=>a*f t+b*g t)=a*sm n f+b*sm n g:=by
 induction n with
 |zero=>simp [sm]
 |succ n ih=>simp only [sm,ih,Int.mul_add];omega
theorem iJ{n:Nat}{f:Nat→Int}(h:∀t,t<n→f t=0):sm n f=0:=by
 rw[gi h]
 induction n with
 |zero=>rfl
 |succ n ih=>rw[sm,ih fun t ht=>h t (Nat.lt_succ_of_lt ht)];rfl
def bT(n:Nat)(y b:b7):Int:=sm n fun t=>y t*b t
theorem bM(n:Nat)(a c:Int)(x y b:b7):bT n (fun t=>a*x t+c*y t) b=a*bT n x b+c*bT n y b:=by
 unfold bT
 rw[←qu]
 exact gi fun t _=>by rw[Int.add_mul,Int.mul_assoc,Int.mul_assoc]
def ev(t:Nat):b7:=fun s=>if s=t then 1 else 0
theorem rP{n t:Nat}(b:b7)(h:t<n):bT n (ev t) b=b t:=by
 unfold bT
 induction n with
 |zero=>omega
 |succ n ih=>
  rw[sm]
  by_cases e:t=n
  ·subst e
   rw[iJ fun s hs=>by unfold ev;rw[if_neg (Nat.ne_of_lt hs)];simp]
   simp [ev]
  ·rw[ih (by omega)]
   unfold ev;rw[if_neg (fun z=>e z.symm)];simp
def jB:List Int→List b7→b7
 |a::as,w::ws=>fun t=>1*(a*w t)+1*jB as ws t
 |_,_=>fun _=>0
def eW:List Int→List Int→Int
 |a::as,b::bs=>a*b+eW as bs
 |_,_=>0
theorem m6:∀(as:List Int) (ws:List b7) (t:Nat),jB as ws t=eW as (ws.map fun w=>w t)
 | [],_,_=>by simp [jB,eW]
 |_::_,[],_=>by simp [jB,eW]
 |a::as,w::ws,t=>by simp only [jB,eW,List.map_cons,m6 as ws t];omega
theorem jl(n:Nat)(b:b7):∀(as:List Int) (ws:List b7),bT n (jB as ws) b=eW as (ws.map fun w=>bT n w b)
 | [],_=>by simp only [jB,eW];exact iJ fun t _=>by simp
 |_::_,[]=>by simp only [jB,eW,List.map_nil];exact iJ fun t _=>by simp
 |a::as,w::ws=>by
  have h:=bM n 1 1 (fun t=>a*w t) (jB as ws) b
  have h2:bT n (fun t=>a*w t) b=a*bT n w b:=by
   have:=bM n a 0 w w b
   simpa using this
  simp only [jB,eW,List.map_cons]
  rw[h,h2,jl n b as ws]
  omega
theorem gK{t:Nat}:∀(as:List Int) (ws:List b7),(∀w∈ws,w t=0)→jB as ws t=0
 | [],_,_=>rfl
 |_::_,[],_=>rfl
 |a::as,w::ws,h=>by
  simp only [jB]
  rw[h w (List.mem_cons_self ..),gK as ws fun v hv=>h v (List.mem_cons_of_mem _ hv)];simp
theorem kJ{S:Int}:∀(as ls:List Int) (j:Nat) (x:Int),as[j]? =some x→as.length=ls.length→(∀i l,ls[i]? =some l→l=if i=j then S else 0)→eW as ls=x*S
 |a::as,l::ls,0,x,hx,hl,h=>by
  cases hx
  have h0:=h 0 l rfl
  have hz:∀(as ls:List Int),(∀z∈ls,z=0)→eW as ls=0:=by
   intro as
   induction as with
   |nil=>intro ls _;rfl
   |cons a as ih=>
    intro ls hh
    cases ls with
    |nil=>rfl
    |cons l ls=>simp only [eW,hh l (List.mem_cons_self ..),ih ls fun z hz=>hh z (List.mem_cons_of_mem _ hz)];simp
  simp only [eW]
  rw[hz as ls fun z hz=>?_,h0]
  ·simp
  ·obtain⟨i,hi⟩:=List.getElem?_of_mem hz
   have:=h (i+1) z hi
   simpa using this
 |a::as,l::ls,j+1,x,hx,hl,h=>by
  have h0:=h 0 l rfl
  have ih:=kJ as ls j x hx (by simpa using hl) fun i z hz=>by
   have:=h (i+1) z hz
   simpa using this
  simp only [eW,ih,h0];simp
 | [],_,_,_,hx,_,_=>by simp at hx
 |_::_,[],_,_,_,hl,_=>by simp at hl
section
variable {k:Nat}{R:List Nat}{φ:List b7→Int}
theorem Form.zero(F:Form k R φ)(xs ys:List b7)(d:b7)(h:xs.length+ys.length+1=k)(hd:∀t∈R,d t=0):φ (xs++d::ys)=0:=by
 have l:=F.we xs ys d d 0 0 h
 rw[F.loc xs ys d (fun t=>0*d t+0*d t) h fun t ht=>by rw[hd t ht];rfl,l];simp
theorem Form.expand(F:Form k R φ){n:Nat}(hR:∀t∈R,t<n)(xs ys:List b7)(b:b7)(h:xs.length+ys.length+1=k):φ (xs++b::ys)=sm n fun t=>b t*φ (xs++ev t::ys):=by
 have key:∀m,φ (xs++(fun s=>if s<m then b s else 0)::ys)=sm m fun t=>b t*φ (xs++ev t::ys):=by
  intro m
  induction m with
  |zero=>exact F.zero xs ys _ h fun t _=>by simp
  |succ m ih=>
   have l:=F.we xs ys (fun s=>if s<m then b s else 0) (ev m) 1 (b m) h
   have e:(fun s=>if s<m+1 then b s else 0)=fun t=>1*(if t<m then b t else 0)+b m*ev m t:=by
    funext s
    unfold ev
    by_cases h1:s<m
    ·rw[if_pos (by omega),if_pos h1,if_neg (by omega)];omega
    ·by_cases h2:s=m
     ·subst h2;rw[if_pos (by omega),if_neg (by omega),if_pos rfl];omega
     ·rw[if_neg (by omega),if_neg h1,if_neg h2];omega
   rw[e,l,ih,sm];omega
 rw[←key n]
 exact F.loc xs ys b _ h fun t ht=>by rw[if_pos (hR t ht)]
theorem Form.comb(F:Form k R φ)(xs ys:List b7)(h:xs.length+ys.length+1=k):∀(as:List Int) (bs:List b7),(∀b∈bs,φ (xs++b::ys)=0)→φ (xs++jB as bs::ys)=0
 | [],_,_=>F.zero xs ys _ h fun _ _=>rfl
 |_::_,[],_=>F.zero xs ys _ h fun _ _=>rfl
 |a::as,b::bs,hb=>by
  have l:=F.we xs ys (fun t=>a*b t) (jB as bs) 1 1 h
  have l2:=F.we xs ys b b a 0 h
  have e:(fun t=>a*b t)=fun t=>a*b t+0*b t:=by funext t;omega
  simp only [jB]
  rw[l,e,l2,hb b (List.mem_cons_self ..),Form.comb F xs ys h as bs fun v hv=>hb v (List.mem_cons_of_mem _ hv)]
  simp
end
theorem kK{k r:Nat}{R:List Nat}{φ:List b7→Int}(F:Form k R φ)(d:b7)(hd:∀t∈R,d t=0):∀(bs pre:List b7),pre.length+bs.length=k→
  eF r φ pre (bs++[d])=d r*φ (pre++bs)∨eF r φ pre (bs++[d])= - (d r*φ (pre++bs))
 | [],pre,h=> .inl (by simp [eF])
 |b::bs,pre,h=>by
  have h':pre.length+(bs.length+1)=k:=h
  have ih:=kK (r:=r) F d hd bs (pre++[b]) (by rw[List.length_append];simp;omega)
  have z:=F.zero (pre++bs) [] d (by rw[List.length_append];simp;omega) hd
  simp only [List.cons_append,eF,List.append_assoc,List.nil_append] at ih z ⊢
  rw[z]
  rcases ih with e|e
  ·right;rw[e];omega
  ·left;rw[e];omega
structure Fr(n:Nat)(bs ws:List b7)(S:Int)(R:List Nat):Prop where
 pos:0<S
 DL:∃φ,Form bs.length R φ∧(φ bs=S∨φ bs= -S)
 len:ws.length=bs.length
 yP:∀(i j:Nat) (w b:b7),ws[i]? =some w→bs[j]? =some b→bT n w b=if i=j then S else 0
 sup:∀w∈ws,∀t,t∉R→w t=0
 lt:∀t∈R,t<n
 uniq:∀y:b7,(∀t,t∉R→y t=0)→(∀b∈bs,bT n y b=0)→∀t,y t=0
theorem Fr.start(n:Nat):Fr n [] [] 1 [] where
 pos:=by decide
 DL:=⟨fun _=>1,⟨fun _ _ _ _ _ _ h=>absurd h (by simp),fun _ _ _ h=>absurd h (by simp),fun _ _ _ _ h _=>absurd h (by simp),fun vs M h _=>by simp⟩, .inl rfl⟩
 len:=rfl
 yP:=fun i j w b h _=>by simp at h
 sup:=fun w h=>by cases h
 lt:=fun t h=>by cases h
 uniq:=fun y h _ t=>h t (by simp)
section
variable {n:Nat}{bs ws:List b7}{S:Int}{R:List Nat}
def hV(n:Nat)(ws:List b7)(c:b7):List Int:=ws.map fun w=>bT n w c
def left(n:Nat)(bs ws:List b7)(S:Int)(c:b7):b7:=fun t=>S*c t+(-1)*jB (hV n ws c) bs t
theorem Fr.tR(F:Fr n bs ws S R){j:Nat}{b:b7}(hb:bs[j]? =some b):∀i l,(ws.map fun w=>bT n w b)[i]? =some l→l=if i=j then S else 0:=by
 intro i l h
 rw[List.getElem?_map] at h
 cases e:ws[i]? with
 |none=>rw[e] at h;cases h
 |some w=>rw[e] at h;cases h;exact F.yP i j w b e hb
theorem Fr.tS(F:Fr n bs ws S R){j:Nat}{b:b7}(hb:bs[j]? =some b)(as:List Int)(hl:as.length=bs.length){x:Int}(hx:as[j]? =some x):bT n (jB as ws) b=x*S:=by
 rw[jl]
 exact kJ as _ j x hx (by rw[List.length_map,F.len,hl]) (F.tR hb)
def fresh(r:Nat)(bs ws:List b7)(S:Int):b7:=fun t=>S*ev r t+(-1)*jB (bs.map fun b=>b r) ws t
theorem Fr.hX(F:Fr n bs ws S R){r:Nat}(hr:r<n){b:b7}(hb:b∈bs):bT n (fresh r bs ws S) b=0:=by
 obtain⟨j,hj⟩:=List.getElem?_of_mem hb
 unfold fresh
 rw[bM,rP b hr,F.tS hj (bs.map fun b=>b r) (by rw[List.length_map]) (x:=b r) (by rw[List.getElem?_map,hj];rfl),Int.mul_comm S]
 omega
theorem mh:∀as bs:List Int,eW as bs=eW bs as
 | [],[]=>rfl
 | [],_::_=>rfl
 |_::_,[]=>rfl
 |a::as,b::bs=>by simp only [eW,mh as bs,Int.mul_comm a b]
theorem eZ{r:Nat}(hr:r<n)(c:b7):bT n (fresh r bs ws S) c=left n bs ws S c r:=by
 unfold fresh left hV
 rw[bM,rP c hr,jl,m6,mh]
theorem Fr.wg(F:Fr n bs ws S R)(c:b7){t:Nat}(ht:t∈R):left n bs ws S c t=0:=by
 have key:=F.uniq (fun s=>S*ev t s+(-1)*jB (bs.map fun b=>b t) ws s) (fun s hs=>by
  rw[gK _ ws fun w hw=>F.sup w hw s hs]
  unfold ev;rw[if_neg (fun z:s=t=>hs (by rw[z];exact ht))];simp) (fun b hb=>F.hX (F.lt t ht) hb)
 rw[←eZ (F.lt t ht)]
 exact iJ fun s _=>by show fresh t bs ws S s*c s=0;rw[show fresh t bs ws S s=0 from key s];simp
theorem Fr.jm(F:Fr n bs ws S R){r:Nat}(t:Nat)(h:t∉r::R):fresh r bs ws S t=0:=by
 unfold fresh
 rw[gK _ ws fun w hw=>F.sup w hw t fun z=>h (List.mem_cons_of_mem _ z)]
 unfold ev;rw[if_neg fun z=>h (by rw[z];exact List.mem_cons_self ..)];simp
theorem Fr.Bo(F:Fr n bs ws S R){c:b7}{r:Nat}(hr:r<n)(hl:left n bs ws S c r≠0)(y:b7)(hy:∀t,t∉r::R→y t=0)(hb:∀b∈bs,bT n y b=0)(hc:bT n y c=0):∀t,y t=0:=by
 have Vb:r∉R:=fun z=>hl (F.wg c z)
 have fr:fresh r bs ws S r=S:=by
  unfold fresh
  rw[gK _ ws fun w hw=>F.sup w hw r Vb]
  unfold ev;simp
 have z:=F.uniq (fun t=>S*y t+(- y r)*fresh r bs ws S t) (fun t ht=>by
  by_cases e:t=r
  ·subst e;rw[fr,Int.mul_comm S,Int.neg_mul];omega
  ·have:t∉r::R:=fun q=>(List.mem_cons.mp q).elim e ht
   rw[hy t this,F.jm t this];simp) (fun b nX=>by
  rw[bM,hb b nX,F.hX hr nX];simp)
 have z2:S*bT n y c+(- y r)*bT n (fresh r bs ws S) c=0:=by
  rw[←bM]
  exact iJ fun t _=>by show (S*y t+(- y r)*fresh r bs ws S t)*c t=0;rw[z t];simp
 rw[hc,eZ hr,Int.mul_zero,Int.zero_add] at z2
 have yr:y r=0:=by
  rcases Int.mul_eq_zero.mp z2 with q|q
  ·omega
  ·exact absurd q hl
 intro t
 have zt:=z t
 rw[yr] at zt
 have hS:=F.pos
 have:S*y t=0:=by simpa using zt
 rcases Int.mul_eq_zero.mp this with q|q
 ·omega
 ·exact q
theorem dm{α:Type}{l:List α}{i:Nat}(h:i<l.length)(v:α):l.set i v=l.take i++v::l.drop (i+1):=by
 rw[List.set_eq_take_append_cons_drop,if_pos h]
theorem Form.at{k:Nat}{R:List Nat}{φ:List b7→Int}(F:Form k R φ){bs:List b7}(hk:bs.length=k){i j:Nat}{b:b7}(hi:i<bs.length)(hj:bs[j]? =some b):φ (bs.set i b)=if i=j then φ bs else 0:=by
 have Qk:j<bs.length:=(List.getElem?_eq_some_iff.mp hj).1
 have hb:bs[j]=b:=(List.getElem?_eq_some_iff.mp hj).2
 by_cases e:i=j
 ·subst e
  rw[if_pos rfl]
  congr 1
  subst hb
  exact List.set_getElem_self hi
 ·rw[if_neg e,dm hi]
  rcases Nat.lt_or_gt_of_ne e with h|h
  ·
   have hd:(bs.drop (i+1))=(bs.drop (i+1)).take (j - (i+1))++b::bs.drop (j+1):=by
    conv=>lhs;rw[←List.take_append_drop (j - (i+1)) (bs.drop (i+1))]
    rw[List.drop_drop,show i+1+(j - (i+1))=j by omega,List.drop_eq_getElem_cons Qk,hb]
   rw[hd]
   refine F.rep b _ _ _ ?_
   rw[List.length_take,List.length_take,List.length_drop,List.length_drop]
   omega
  ·have hd:bs.take i=bs.take j++b::(bs.take i).drop (j+1):=by
    conv=>lhs;rw[←List.take_append_drop j (bs.take i)]
    rw[List.take_take,Nat.min_eq_left (by omega),List.drop_eq_getElem_cons (by rw[List.length_take];omega)]
    congr 2
    rw[List.getElem_take,hb]
   rw[hd,List.append_assoc,List.cons_append]
   refine F.rep b _ _ _ ?_
   rw[List.length_take,List.length_drop,List.length_drop,List.length_take]
   omega
theorem Fr.step(F:Fr n bs ws S R){c:b7}{r:Nat}(hr:r<n)(hl:left n bs ws S c r≠0){g:Int}(hg:g=1∨g= -1)(hp:0<g*left n bs ws S c r):
  Fr n (bs++[c]) ((ws.map fun w=>fun t=>(g*left n bs ws S c r*w t - bT n w c*(g*fresh r bs ws S t)).fdiv S)++[fun t=>g*fresh r bs ws S t]) (g*left n bs ws S c r) (r::R)∧
   ∀w∈ws,∀t,S*(g*left n bs ws S c r*w t - bT n w c*(g*fresh r bs ws S t)).fdiv S=g*left n bs ws S c r*w t - bT n w c*(g*fresh r bs ws S t):=by
 obtain⟨φ,Fo,hv⟩:=F.DL
 have hS:=F.pos
 generalize hD:g*left n bs ws S c r=S' at hp
 have F':=Fo.HZ r
 have hlen:(bs++[c]).length=bs.length+1:=by simp
 have SQ:∀t∈r::R,t<n:=fun t ht=>(List.mem_cons.mp ht).elim (fun e=>by rw[e];exact hr) (F.lt t)
 have e1:S*eF r φ [] (bs++[c])=eF r φ [] (bs++[left n bs ws S c]):=by
  have l:=F'.we bs [] c (jB (hV n ws c) bs) S (-1) (by simp)
  have z:eF r φ [] (bs++jB (hV n ws c) bs::[])=0:=F'.comb bs [] (by simp) _ bs fun b hb=>by
   obtain⟨j,hj⟩:=List.getElem?_of_mem hb
   obtain⟨h1,h2⟩:=List.getElem?_eq_some_iff.mp hj
   have hd:bs=bs.take j++b::bs.drop (j+1):=by
    conv=>lhs;rw[←List.take_append_drop j bs]
    rw[List.drop_eq_getElem_cons h1,h2]
   have:=F'.rep b (bs.drop (j+1)) (bs.take j) [] (by rw[List.length_take,List.length_drop];simp;omega)
   rw[hd,List.append_assoc,List.cons_append]
   exact this
  show _=eF r φ [] (bs++(fun t=>S*c t+(-1)*jB (hV n ws c) bs t)::[])
  rw[l,z];simp
 have e2:=kK (r:=r) Fo (left n bs ws S c) (fun t ht=>F.wg c ht) bs [] (by simp)
 have hΔ:eF r φ [] (bs++[c])=S'∨eF r φ [] (bs++[c])= -S':=by
  have cancel:∀{x y:Int},S*x=S*y→x=y:=fun h=>Int.eq_of_mul_eq_mul_left (by omega) h
  have q:∀u:Int,(u=left n bs ws S c r∨u= - left n bs ws S c r)→u=S'∨u= -S':=by
   intro u hu
   rcases hg with hg|hg<;>rw[hg] at hD<;>rcases hu with hu|hu<;>omega
  apply q
  simp only [List.nil_append] at e2
  rcases hv with hv|hv<;>rcases e2 with e2|e2<;>rw[hv] at e2
  ·left;apply cancel;rw[e1,e2,Int.mul_comm]
  ·right;apply cancel;rw[e1,e2,Int.mul_neg,Int.mul_comm]
  ·right;apply cancel;rw[e1,e2,Int.mul_neg,Int.mul_neg,Int.mul_comm]
  ·left;apply cancel;rw[e1,e2,Int.mul_neg,Int.neg_neg,Int.mul_comm]
 have Vc:=hΔ
 obtain⟨σ,hσ,hΔ⟩:∃σ:Int,(σ*σ=1)∧σ*eF r φ [] (bs++[c])=S':=by
  rcases hΔ with h|h
  ·exact⟨1,by decide,by omega⟩
  ·exact⟨-1,by decide,by omega⟩
 let u:Nat→b7:=fun i t=>σ*eF r φ [] ((bs++[c]).set i (ev t))
 have wj:∀i j b,i<bs.length→(bs++[c])[j]? =some b→bT n (u i) b=if i=j then S' else 0:=by
  intro i j b hi hb
  have uw:i< (bs++[c]).length:=by omega
  have ex:=F'.expand SQ ((bs++[c]).take i) ((bs++[c]).drop (i+1)) b (by rw[List.length_take,List.length_drop];omega)
  have a:=F'.at hlen uw hb
  rw[dm uw] at a
  have:bT n (u i) b=σ*(sm n fun t=>b t*eF r φ [] ((bs++[c]).take i++ev t::(bs++[c]).drop (i+1))):=by
   have l:=qu n σ 0 (fun t=>b t*eF r φ [] ((bs++[c]).take i++ev t::(bs++[c]).drop (i+1))) (fun _=>0)
   simp only [Int.zero_mul,Int.add_zero] at l
   rw[←l]
   refine gi fun t _=>?_
   show σ*eF r φ [] ((bs++[c]).set i (ev t))*b t=_
   rw[dm uw,Int.mul_assoc,Int.mul_comm (eF _ _ _ _)]
  rw[this,←ex,a]
  by_cases e:i=j
  ·rw[if_pos e,if_pos e,hΔ]
  ·rw[if_neg e,if_neg e];simp
 have Ia:∀i t,i<bs.length→t∉r::R→u i t=0:=by
  intro i t hi ht
  show σ*eF r φ [] ((bs++[c]).set i (ev t))=0
  rw[dm (by omega),F'.zero _ _ (ev t) (by rw[List.length_take,List.length_drop];omega) fun s hs=>?_]
  ·simp
  ·unfold ev;rw[if_neg fun z=>ht (by rw[←z];exact hs)]
 have fb:∀b∈bs,bT n (fun t=>g*fresh r bs ws S t) b=0:=fun b hb=>by
  have l:=bM n g 0 (fresh r bs ws S) (fresh r bs ws S) b
  simp only [Int.zero_mul,Int.add_zero] at l
  rw[l,F.hX hr hb];simp
 have fc:bT n (fun t=>g*fresh r bs ws S t) c=S':=by
  have l:=bM n g 0 (fresh r bs ws S) (fresh r bs ws S) c
  simp only [Int.zero_mul,Int.add_zero] at l
  rw[l,eZ hr,hD]
 have Vd:∀{j:Nat} {b:b7},bs[j]? =some b→(bs++[c])[j]? =some b:=fun {j b} h=>by
  rw[List.getElem?_append_left (List.getElem?_eq_some_iff.mp h).1];exact h
 have cat:(bs++[c])[bs.length]? =some c:=by simp
 have SR:∀i w,ws[i]? =some w→∀t,S'*w t - bT n w c*(g*fresh r bs ws S t)=S*u i t:=by
  intro i w hw
  have hi:i<bs.length:=by rw[←F.len];exact(List.getElem?_eq_some_iff.mp hw).1
  have DM:=List.mem_of_getElem? hw
  have key:=F.Bo hr hl (fun t=>1*(S'*w t+(- bT n w c)*(g*fresh r bs ws S t))+(-S)*u i t) (fun t ht=>by
    show 1*(S'*w t+(- bT n w c)*(g*fresh r bs ws S t))+(-S)*u i t=0
    rw[F.sup w DM t fun z=>ht (List.mem_cons_of_mem _ z),F.jm t ht,Ia i t hi ht];simp) (fun b hb=>by
    obtain⟨j,hj⟩:=List.getElem?_of_mem hb
    rw[bM,bM,fb b hb,F.yP i j w b hw hj,wj i j b hi (Vd hj)]
    by_cases e:i=j
    ·rw[if_pos e,if_pos e,Int.mul_comm S' S,Int.neg_mul S S',Int.mul_zero];omega
    ·rw[if_neg e,if_neg e];simp) (by
    rw[bM,bM,fc,wj i bs.length c hi cat,if_neg (by omega),Int.neg_mul,Int.mul_comm S'];simp;omega)
  intro t
  have:=key t
  rw[Int.neg_mul,Int.neg_mul] at this
  omega
 have HN:∀i w,ws[i]? =some w→(fun t=>(S'*w t - bT n w c*(g*fresh r bs ws S t)).fdiv S)=u i:=by
  intro i w hw
  funext t
  rw[SR i w hw t,Int.fdiv_eq_ediv_of_nonneg _ (by omega),Int.mul_ediv_cancel_left _ (by omega)]
 refine⟨⟨hp,⟨_,by rw[hlen];exact F',?_⟩,by simp [F.len],?_,?_,SQ,?_⟩,?_⟩
 ·exact Vc
 ·intro i j w b hw hb
  by_cases hi:i<ws.length
  ·rw[List.getElem?_append_left (by rw[List.length_map];exact hi),List.getElem?_map] at hw
   have SS:=List.getElem?_eq_getElem hi
   rw[SS] at hw
   have Gf:=Option.some.inj hw
   rw[←Gf]
   show bT n (fun t=>(S'*ws[i] t - bT n ws[i] c*(g*fresh r bs ws S t)).fdiv S) b=_
   rw[HN i _ SS]
   exact wj i j b (by rw[←F.len];exact hi) hb
  ·have qk:i=ws.length:=by
    have:=(List.getElem?_eq_some_iff.mp hw).1
    simp at this
    omega
   subst qk
   have Gf:(fun t=>g*fresh r bs ws S t)=w:=by
    rw[List.getElem?_append_right (by simp)] at hw
    simpa using hw
   rw[←Gf]
   by_cases hj:j<bs.length
   ·rw[List.getElem?_append_left hj] at hb
    rw[fb b (List.mem_of_getElem? hb),if_neg (by rw[F.len];omega)]
   ·have Oa:j=bs.length:=by
     have:=(List.getElem?_eq_some_iff.mp hb).1
     simp at this
     omega
    subst Oa
    rw[cat] at hb
    cases hb
    rw[fc,if_pos F.len]
 ·intro w hw t ht
  rcases List.mem_append.mp hw with h|h
  ·obtain⟨w0,h0,rfl⟩:=List.mem_map.mp h
   obtain⟨i,hi⟩:=List.getElem?_of_mem h0
   rw[HN i w0 hi]
   exact Ia i t (by rw[←F.len];exact(List.getElem?_eq_some_iff.mp hi).1) ht
  ·have:w=fun t=>g*fresh r bs ws S t:=by simpa using h
   rw[this]
   show g*fresh r bs ws S t=0
   rw[F.jm t ht];simp
 ·intro y hy hb
  exact F.Bo hr hl y hy (fun b h=>hb b (List.mem_append_left _ h)) (hb c (by simp))
 ·intro w hw t
  obtain⟨i,hi⟩:=List.getElem?_of_mem hw
  have this:(S'*w t - bT n w c*(g*fresh r bs ws S t)).fdiv S=u i t:=congrFun (HN i w hi) t
  rw[this,SR i w hi t]
theorem Fr.bound(F:Fr n bs ws S R){M:Nat}(hM:1≤M)(hb:∀b∈bs,∀t,(b t).natAbs≤M):S.natAbs≤bs.length^bs.length*M^bs.length∧∀w∈ws,∀t,(w t).natAbs≤bs.length^bs.length*M^bs.length:=by
 obtain⟨φ,Fo,hv⟩:=F.DL
 have hS:=F.pos
 refine⟨?_,fun w hw t=>?_⟩
 ·have:=Fo.Oj bs M rfl fun b nX t _=>hb b nX t
  rcases hv with h|h<;>rw[h] at this<;>omega
 obtain⟨σ,hσ,hΔ⟩:∃σ:Int,(σ=1∨σ= -1)∧σ*φ bs=S:=by
  rcases hv with h|h
  ·exact⟨1, .inl rfl,by omega⟩
  ·exact⟨-1, .inr rfl,by omega⟩
 obtain⟨i,hi⟩:=List.getElem?_of_mem hw
 have gI:i<bs.length:=by rw[←F.len];exact(List.getElem?_eq_some_iff.mp hi).1
 let u:b7:=fun t=>σ*φ (bs.set i (ev t))
 have wj:∀j b,bs[j]? =some b→bT n u b=if i=j then S else 0:=by
  intro j b hb
  have ex:=Fo.expand F.lt (bs.take i) (bs.drop (i+1)) b (by rw[List.length_take,List.length_drop];omega)
  have a:=Fo.at rfl gI hb
  rw[dm gI] at a
  have:bT n u b=σ*(sm n fun t=>b t*φ (bs.take i++ev t::bs.drop (i+1))):=by
   have l:=qu n σ 0 (fun t=>b t*φ (bs.take i++ev t::bs.drop (i+1))) (fun _=>0)
   simp only [Int.zero_mul,Int.add_zero] at l
   rw[←l]
   refine gi fun t _=>?_
   show σ*φ (bs.set i (ev t))*b t=_
   rw[dm gI,Int.mul_assoc,Int.mul_comm (φ _)]
  rw[this,←ex,a]
  by_cases e:i=j
  ·rw[if_pos e,if_pos e,hΔ]
  ·rw[if_neg e,if_neg e];simp
 have key:=F.uniq (fun t=>1*w t+(-1)*u t) (fun t ht=>by
   have z:u t=0:=by
    show σ*φ (bs.set i (ev t))=0
    rw[dm gI,Fo.zero _ _ (ev t) (by rw[List.length_take,List.length_drop];omega) fun s hs=>?_]
    ·simp
    ·unfold ev;rw[if_neg fun z=>ht (by rw[←z];exact hs)]
   rw[F.sup w hw t ht,z];rfl) (fun b nX=>by
   obtain⟨j,hj⟩:=List.getElem?_of_mem nX
   rw[bM,F.yP i j w b hi hj,wj j b hj];omega)
 have e:w t=σ*φ (bs.set i (ev t)):=by
  have:=key t
  show w t=u t
  omega
 have bd:=Fo.Oj (bs.set i (ev t)) M (by simp) fun v CO s _=>by
  rcases List.mem_or_eq_of_mem_set CO with z|z
  ·exact hb v z s
  ·rw[z];unfold ev;split<;>simp<;>omega
 rw[e,Int.natAbs_mul]
 have:σ.natAbs=1:=by rcases hσ with h|h<;>rw[h]<;>rfl
 rw[this,Nat.one_mul]
 exact bd
end
theorem fmod_eq(a b:Int):a.fmod b=a - b*a.fdiv b:=by
 have:=Int.fmod_add_mul_fdiv a b
 omega
theorem oZ{a b:Int}(hb:b≠0):(a.fmod b).natAbs<b.natAbs:=by
 rcases Int.lt_or_lt_of_ne hb with h|h
 ·have h1:(-a).fmod (-b)= -(a.fmod b):=by
   rw[fmod_eq,fmod_eq,Int.neg_fdiv_neg]
   rw[Int.neg_mul];omega
  have h2:=Int.fmod_nonneg_of_pos (-a) (show (0:Int) < -b by omega)
  have h3:=Int.fmod_lt_of_pos (-a) (show (0:Int) < -b by omega)
  omega
 ·have h2:=Int.fmod_nonneg_of_pos a h
  have h3:=Int.fmod_lt_of_pos a h
  omega
theorem wk(a b:Int):Int.gcd b (a.fmod b)=Int.gcd a b:=by
 rw[fmod_eq,Int.gcd_sub_mul_left_right,Int.gcd_comm]
def bW(ns:List Int):Int:=ns.foldl (fun c n=>((Int.gcd c n:Nat):Int)) 0
theorem tT(ns:List Int)(z:Int):bW (ns++[z])=((Int.gcd (bW ns) z:Nat):Int):=by
 unfold bW;rw[List.foldl_append];rfl
theorem mi:∀(ns:List Int) (c:Int),ns.foldl (fun c n=>((Int.gcd c n:Nat):Int)) c ∣ c∧∀n∈ns,ns.foldl (fun c n=>((Int.gcd c n:Nat):Int)) c ∣ n
 | [],c=>⟨Int.dvd_refl c,fun n h=>by cases h⟩
 |z::r,c=>by
  obtain⟨h1,h2⟩:=mi r ((Int.gcd c z:Nat):Int)
  refine⟨Int.dvd_trans h1 (Int.gcd_dvd_left c z),fun n hn=>?_⟩
  rcases List.mem_cons.mp hn with e|e
  ·rw[e];exact Int.dvd_trans h1 (Int.gcd_dvd_right c z)
  ·exact h2 n e
theorem gj{ns:List Int}{n:Int}(h:n∈ns):bW ns ∣ n:=(mi ns 0).2 n h
theorem iK:∀(ns:List Int) (c:Int),0≤c→0≤ns.foldl (fun c n=>((Int.gcd c n:Nat):Int)) c
 | [],c,h=>h
 |z::r,c,_=>iK r _ (Int.natCast_nonneg _)
theorem gm(ns:List Int):0≤bW ns:=iK ns 0 (Int.le_refl 0)
theorem yQ{ns:List Int}{B:Nat}(h:∀n∈ns,n.natAbs≤B):(bW ns).natAbs≤B:=by
 by_cases e:∃n∈ns,n≠0
 ·obtain⟨n,hn,n0⟩:=e
  have:=Nat.le_of_dvd (by omega) (Int.natAbs_dvd_natAbs.mpr (gj hn))
  exact Nat.le_trans this (h n hn)
 ·have z:∀(l:List Int),(∀n∈l,n=0)→l.foldl (fun c n=>((Int.gcd c n:Nat):Int)) 0=0:=by
   intro l
   induction l with
   |nil=>intro _;rfl
   |cons x r ih=>
    intro hh
    rw[List.foldl_cons,hh x (List.mem_cons_self ..)]
    exact ih fun n hn=>hh n (List.mem_cons_of_mem _ hn)
  have:bW ns=0:=z ns fun n hn=>Classical.byContradiction fun q=>e ⟨n,hn,q⟩
  rw[this];exact Nat.zero_le _
def low(ns:List Int):List Int:=if bW ns=0 then ns else ns.map fun n=>n.fdiv (bW ns)
theorem low_length(ns:List Int):(low ns).length=ns.length:=by
 unfold low;split
 ·rfl
 ·rw[List.length_map]
theorem qv{ns:List Int}{k:Nat}{n:Int}(h:ns[k]? =some n):∃m,(low ns)[k]? =some m∧m*(if bW ns=0 then 1 else bW ns)=n∧m.natAbs≤n.natAbs:=by
 unfold low
 by_cases e:bW ns=0
 ·rw[if_pos e,if_pos e]
  exact⟨n,h,Int.mul_one n,Nat.le_refl _⟩
 ·rw[if_neg e,if_neg e]
  have hd:=gj (List.mem_of_getElem? h)
  have h0:=gm ns
  have key:n.fdiv (bW ns)*bW ns=n:=by
   rw[Int.fdiv_eq_ediv_of_nonneg n h0];exact Int.ediv_mul_cancel hd
  refine⟨n.fdiv (bW ns),by rw[List.getElem?_map,h];rfl,key,?_⟩
  have:n.natAbs=(n.fdiv (bW ns)).natAbs*(bW ns).natAbs:=by rw[←Int.natAbs_mul,key]
  rw[this]
  exact Nat.le_mul_of_pos_right _ (by omega)
def dot:List Int→List Int→Int
 |a::r,b::t=>a*b+dot r t
 |_,_=>0
theorem yR(xs:List Int):dot xs []=0:=by cases xs<;>rfl
theorem m7:∀(xs ys:List Int),(List.zipWith (·*·) xs ys).sum=dot xs ys
 | [],_=>rfl
 |_::_,[]=>rfl
 |a::r,b::t=>by rw[List.zipWith_cons_cons,List.sum_cons,m7 r t];rfl
theorem jn:∀(n:Nat) (xs ys:List Int),xs.length=n→ys.length=n→((List.range n).map fun k=>xs.getD k 0*ys.getD k 0).sum=dot xs ys
 |0,xs,ys,hx,hy=>by
  cases xs with
  |nil=>rfl
  |cons _ _=>cases hx
 |n+1,xs,ys,hx,hy=>by
  match xs,ys,hx,hy with
  |a::r,b::t,hx,hy=>
   rw[List.range_succ_eq_map,List.map_cons,List.map_map,List.sum_cons]
   have:=jn n r t (by simpa using hx) (by simpa using hy)
   show a*b+_=a*b+dot r t
   rw[←this]
   rfl
def row(cols:List (List Int))(r:Nat):List Int:=cols.map fun c=>c.getD r 0
def d6(ns:List Int)(cols:List (List Int))(w:Nat):List Int:=(List.range w).map fun r=>dot ns (row cols r)
def vec(l:List Int):b7:=fun t=>l.getD t 0
theorem m9{l:List Int}{t:Nat}{x:Int}(h:l[t]? =some x):vec l t=x:=by unfold vec;rw[List.getD_eq_getElem?_getD,h];rfl
theorem dW{l:List Int}{t:Nat}(h:l.length≤t):vec l t=0:=by unfold vec;rw[List.getD_eq_getElem?_getD,List.getElem?_eq_none h];rfl
theorem gn{l:List Int}{t:Nat}(h:t<l.length):l[t]? =some (vec l t):=by unfold vec;rw[List.getD_eq_getElem?_getD,List.getElem?_eq_getElem h];rfl
theorem iM:∀(n:Nat) (w c:List Int),w.length=n→c.length=n→dot w c=bT n (vec w) (vec c):=by
 intro n w c hw hc
 rw[←jn n w c hw hc]
 unfold bT
 clear hw hc
 induction n with
 |zero=>rfl
 |succ n ih=>rw[List.range_succ,List.map_append,List.sum_append,ih];simp [sm,vec]
theorem rQ:∀as bs:List Int,eW as bs=dot as bs
 | [],_=>by simp [eW,dot]
 |_::_,[]=>by simp [eW,dot]
 |a::as,b::bs=>by simp only [eW,dot,rQ as bs]
structure KS where
 scale:Int
 places:List Nat
 bases:List (List Int)
 aA:List (List Int)
def au(st:KS)(c:List Int):List Int:=st.aA.map fun w=>dot w c
def gX(st:KS)(c sh:List Int)(r:Nat):Int:=st.scale*c.getD r 0 - dot sh (st.bases.map fun b=>b.getD r 0)
def jM(st:KS)(c sh:List Int):Option Nat:=(List.range c.length).find? fun r=>!decide (gX st c sh r=0)
def cO(told:List Int)(x:Int)(w:List Int):List Int:=List.zipWith (fun one other=>one - x*other) told w
def aR(st:KS)(r n:Nat):List Int:=(st.bases.zip st.aA).foldl (fun told bw=>cO told (bw.1.getD r 0) bw.2) ((List.replicate n (0 :Int)).set r st.scale)
def bu(f c:List Int):List Int:=if dot f c<0 then f.map fun x=> -x else f
def b8(S S':Int)(w:List Int)(s:Int)(f:List Int):List Int:=List.zipWith (fun one other=>(S'*one - s*other).fdiv S) w f
def bindL(st:KS)(place:Nat)(c sh:List Int)(r:Nat):KS:=
 let f:=bu (aR st r c.length) c
 { scale:=dot f c,places:=st.places++[place],bases:=st.bases++[c],aA:=List.zipWith (fun w s=>b8 st.scale (dot f c) w s f) st.aA sh++[f] }
def cx(st:KS)(place:Nat)(sh:List Int)(many:Nat):List Int:=(st.places.zip sh).foldl (fun l ps=>l.set ps.1 (-ps.2)) ((List.replicate many (0 :Int)).set place st.scale)
structure KR where
 st:KS
 free:List Nat
 bP:List (List Int)
def iN(many:Nat)(x:KR)(place:Nat)(c:List Int):KR:=
 match jM x.st c (au x.st c) with
 |none=>{ x with free:=x.free++[place],bP:=x.bP++[low (cx x.st place (au x.st c) many)] }
 |some r=>{ x with st:=bindL x.st place c (au x.st c) r }
def cJ(many:Nat)(cs:List (List Int)):KR:=(cs.zipIdx).foldl (fun x ci=>iN many x ci.2 ci.1) ⟨⟨1,[],[],[]⟩,[],[]⟩
theorem fe(many:Nat)(cs:List (List Int))(c:List Int):cJ many (cs++[c])=iN many (cJ many cs) cs.length c:=by
 unfold cJ
 rw[List.zipIdx_append,List.foldl_append]
 simp
structure nc(n:Nat)(st:KS):Prop where
 fr:∃R,Fr n (st.bases.map vec) (st.aA.map vec) st.scale R
 lb:∀b∈st.bases,b.length=n
 lw:∀w∈st.aA,w.length=n
theorem nc.start(n:Nat):nc n ⟨1,[],[],[]⟩:=⟨⟨[],Fr.start n⟩,(fun _ h=>by cases h),(fun _ h=>by cases h)⟩
theorem tU{n:Nat}{st:KS}(F:nc n st){c:List Int}(hc:c.length=n):au st c=hV n (st.aA.map vec) (vec c):=by
 unfold au hV
 rw[List.map_map]
 exact List.map_congr_left fun w hw=>iM n w c (F.lw w hw) hc
theorem rest_eq{n:Nat}{st:KS}(F:nc n st){c:List Int}(hc:c.length=n)(r:Nat):gX st c (au st c) r=left n (st.bases.map vec) (st.aA.map vec) st.scale (vec c) r:=by
 unfold gX left
 rw[m6,rQ,List.map_map,tU F hc]
 show _=st.scale*vec c r+ -1*dot _ (st.bases.map fun b=>b.getD r 0)
 unfold vec
 omega
theorem jo{told w:List Int}{n:Nat}(h:told.length=n)(hw:w.length=n)(x:Int):(cO told x w).length=n:=by unfold cO;rw[List.length_zipWith];omega
theorem tV{told w:List Int}{n:Nat}(h:told.length=n)(hw:w.length=n)(x:Int)(t:Nat):vec (cO told x w) t=vec told t+(-1)*(x*vec w t):=by
 by_cases ht:t<n
 ·have a:=gn (l:=told) (t:=t) (by omega)
  have b:=gn (l:=w) (t:=t) (by omega)
  rw[m9 (x:=vec told t - x*vec w t) (by unfold cO;rw[List.getElem?_zipWith,a,b])]
  omega
 ·rw[dW (by rw[jo h hw];omega),dW (l:=told) (by omega),dW (l:=w) (by omega)];simp
theorem kL{n:Nat}(r:Nat):∀(bs ws:List (List Int)) (told:List Int),told.length=n→(∀w∈ws,w.length=n)→
  ((bs.zip ws).foldl (fun told bw=>cO told (bw.1.getD r 0) bw.2) told).length=n∧∀t,vec ((bs.zip ws).foldl (fun told bw=>cO told (bw.1.getD r 0) bw.2) told) t=vec told t+(-1)*jB ((bs.map vec).map fun b=>b r) (ws.map vec) t
 | [],_,told,h,_=>⟨h,fun t=>by simp [jB]⟩
 |_::_,[],told,h,_=>⟨h,fun t=>by simp [jB]⟩
 |b::bs,w::ws,told,h,hw=>by
  have SU:=hw w (List.mem_cons_self ..)
  obtain⟨h1,h2⟩:=kL r bs ws (cO told (b.getD r 0) w) (jo h SU _) fun v hv=>hw v (List.mem_cons_of_mem _ hv)
  refine⟨h1,fun t=>?_⟩
  rw[List.zip_cons_cons,List.foldl_cons,h2 t,tV h SU]
  simp only [List.map_cons,jB]
  show _+ -1*(vec b r*vec w t)+_=_
  omega
theorem wm{n r:Nat}{S:Int}(hr:r<n)(t:Nat):vec ((List.replicate n (0 :Int)).set r S) t=S*ev r t:=by
 unfold vec ev
 rw[List.getD_eq_getElem?_getD,List.getElem?_set]
 by_cases e:r=t
 ·subst e
  rw[if_pos rfl,if_pos (by simpa using hr),if_pos rfl];simp
 ·rw[if_neg e,if_neg (fun z=>e z.symm)]
  by_cases h:t<n
  ·rw[List.getElem?_replicate,if_pos h];simp
  ·rw[List.getElem?_replicate,if_neg h];simp
theorem o4{n:Nat}{st:KS}(F:nc n st){r:Nat}(hr:r<n):(aR st r n).length=n∧vec (aR st r n)=fresh r (st.bases.map vec) (st.aA.map vec) st.scale:=by
 obtain⟨h1,h2⟩:=kL (n:=n) r st.bases st.aA ((List.replicate n (0 :Int)).set r st.scale) (by simp) F.lw
 refine⟨h1,?_⟩
 funext t
 unfold aR fresh
 rw[h2 t,wm hr]
theorem o5{st:KS}{c sh:List Int}{r:Nat}(h:jM st c sh=some r):r<c.length∧gX st c sh r≠0:=by
 unfold jM at h
 have h1:=List.mem_of_find?_eq_some h
 have h2:=List.find?_some h
 exact⟨List.mem_range.mp h1,by simpa using h2⟩
theorem wo{st:KS}{c sh:List Int}(h:jM st c sh=none){r:Nat}(hr:r<c.length):gX st c sh r=0:=by
 unfold jM at h
 have:=List.find?_eq_none.mp h r (List.mem_range.mpr hr)
 simpa using this
theorem yS(f:List Int)(t:Nat):vec (f.map fun x=> -x) t= - vec f t:=by
 by_cases h:t<f.length
 ·rw[m9 (x:= - vec f t) (by rw[List.getElem?_map,gn h];rfl)]
 ·rw[dW (by rw[List.length_map];omega),dW (by omega)];rfl
theorem zip_map{α β γ:Type}(g:α→β→γ)(h:α→β):∀l:List α,List.zipWith g l (l.map h)=l.map fun x=>g x (h x)
 | []=>rfl
 |x::l=>by rw[List.map_cons,List.zipWith_cons_cons,List.map_cons,zip_map g h l]
theorem tW{n:Nat}{S S' s:Int}{w f:List Int}(hw:w.length=n)(hf:f.length=n)(t:Nat):vec (b8 S S' w s f) t=(S'*vec w t - s*vec f t).fdiv S:=by
 by_cases h:t<n
 ·rw[m9 (x:=(S'*vec w t - s*vec f t).fdiv S) (by unfold b8;rw[List.getElem?_zipWith,gn (l:=w) (by omega),gn (l:=f) (by omega)])]
 ·rw[dW (by unfold b8;rw[List.length_zipWith];omega),dW (l:=w) (by omega),dW (l:=f) (by omega)];simp
theorem nc.bind{n:Nat}{st:KS}(F:nc n st){c:List Int}(hc:c.length=n){r:Nat}(hr:jM st c (au st c)=some r)(place:Nat):
  nc n (bindL st place c (au st c) r)∧(bu (aR st r n) c).length=n∧(∀w∈st.aA,∀t,st.scale*vec (b8 st.scale (dot (bu (aR st r n) c) c) w (dot w c) (bu (aR st r n) c)) t=dot (bu (aR st r n) c) c*vec w t - dot w c*vec (bu (aR st r n) c) t):=by
 obtain⟨h1,h2⟩:=o5 hr
 obtain⟨R,G⟩:=F.fr
 have DN:r<n:=by omega
 obtain⟨fl,fv⟩:=o4 F DN
 have hl:left n (st.bases.map vec) (st.aA.map vec) st.scale (vec c) r≠0:=by rw[←rest_eq F hc];exact h2
 have d0:dot (aR st r n) c=left n (st.bases.map vec) (st.aA.map vec) st.scale (vec c) r:=by rw[iM n _ c fl hc,fv,eZ DN]
 obtain⟨g,hg,sl,sv,hp⟩:∃g:Int,(g=1∨g= -1)∧(bu (aR st r n) c).length=n∧(∀t,vec (bu (aR st r n) c) t=g*fresh r (st.bases.map vec) (st.aA.map vec) st.scale t)∧0<g*left n (st.bases.map vec) (st.aA.map vec) st.scale (vec c) r:=by
  unfold bu
  rw[d0]
  by_cases h:left n (st.bases.map vec) (st.aA.map vec) st.scale (vec c) r<0
  ·rw[if_pos h]
   exact⟨-1, .inr rfl,by rw[List.length_map];exact fl,fun t=>by rw[yS,fv];omega,by omega⟩
  ·rw[if_neg h]
   exact⟨1, .inl rfl,fl,fun t=>by rw[fv];omega,by omega⟩
 have sc:dot (bu (aR st r n) c) c=g*left n (st.bases.map vec) (st.aA.map vec) st.scale (vec c) r:=by
  rw[iM n _ c sl hc,←eZ DN]
  have l:=bM n g 0 (fresh r (st.bases.map vec) (st.aA.map vec) st.scale) (fresh r (st.bases.map vec) (st.aA.map vec) st.scale) (vec c)
  simp only [Int.zero_mul,Int.add_zero] at l
  rw[←l]
  exact gi fun t _=>by rw[sv t]
 obtain⟨G',ex⟩:=G.step DN hl hg hp
 have key:∀w∈st.aA,vec (b8 st.scale (dot (bu (aR st r n) c) c) w (dot w c) (bu (aR st r n) c))=
   fun t=>(g*left n (st.bases.map vec) (st.aA.map vec) st.scale (vec c) r*vec w t - bT n (vec w) (vec c)*(g*fresh r (st.bases.map vec) (st.aA.map vec) st.scale t)).fdiv st.scale:=by
  intro w hw
  funext t
  rw[tW (F.lw w hw) sl,sc,sv t,iM n w c (F.lw w hw) hc]
 refine⟨⟨⟨r::R,?_⟩,?_,?_⟩,sl,fun w hw t=>?_⟩
 ·have e1:(bindL st place c (au st c) r).bases.map vec=st.bases.map vec++[vec c]:=by simp [bindL]
  have e2:(bindL st place c (au st c) r).scale=g*left n (st.bases.map vec) (st.aA.map vec) st.scale (vec c) r:=by
   show dot (bu (aR st r c.length) c) c=_
   rw[hc];exact sc
  have e3:(bindL st place c (au st c) r).aA.map vec=((st.aA.map vec).map fun w=>fun t=>(g*left n (st.bases.map vec) (st.aA.map vec) st.scale (vec c) r*w t - bT n w (vec c)*(g*fresh r (st.bases.map vec) (st.aA.map vec) st.scale t)).fdiv st.scale)++[fun t=>g*fresh r (st.bases.map vec) (st.aA.map vec) st.scale t]:=by
   show (List.zipWith (fun w s=>b8 st.scale (dot (bu (aR st r c.length) c) c) w s (bu (aR st r c.length) c)) st.aA (st.aA.map fun w=>dot w c)++[bu (aR st r c.length) c]).map vec=_
   rw[hc,List.map_append,zip_map,List.map_map,List.map_map]
   congr 1
   ·exact List.map_congr_left fun w hw=>key w hw
   ·simp only [List.map_cons,List.map_nil]
    congr 1
    funext t;exact sv t
  rw[e1,e2,e3]
  exact G'
 ·intro b hb
  rcases List.mem_append.mp (show b∈st.bases++[c] from hb) with h|h
  ·exact F.lb b h
  ·have:b=c:=by simpa using h
   rw[this];exact hc
 ·intro w hw
  have Gf:w∈List.zipWith (fun w s=>b8 st.scale (dot (bu (aR st r c.length) c) c) w s (bu (aR st r c.length) c)) st.aA (st.aA.map fun w=>dot w c)++[bu (aR st r c.length) c]:=hw
  rw[hc,zip_map] at Gf
  rcases List.mem_append.mp Gf with h|h
  ·obtain⟨w0,h0,rfl⟩:=List.mem_map.mp h
   unfold b8
   rw[List.length_zipWith,F.lw w0 h0,sl,Nat.min_self]
  ·have:w=bu (aR st r n) c:=by simpa using h
   rw[this];exact sl
 ·rw[congrFun (key w hw) t,ex (vec w) (List.mem_map.mpr ⟨w,hw,rfl⟩) t,sc,sv t,iM n w c (F.lw w hw) hc]
theorem nc.small{n:Nat}{st:KS}(F:nc n st){M:Nat}(hM:1≤M)(hb:∀b∈st.bases,∀x∈b,x.natAbs≤M):
  0<st.scale∧st.scale.natAbs≤st.bases.length^st.bases.length*M^st.bases.length∧∀w∈st.aA,∀x∈w,x.natAbs≤st.bases.length^st.bases.length*M^st.bases.length:=by
 obtain⟨R,G⟩:=F.fr
 have:=G.bound hM fun b nX t=>by
  obtain⟨b0,h0,rfl⟩:=List.mem_map.mp nX
  by_cases h:t<b0.length
  ·exact hb b0 h0 _ (List.mem_of_getElem? (gn h))
  ·rw[dW (by omega)];exact Nat.zero_le _
 rw[List.length_map] at this
 refine⟨G.pos,this.1,fun w hw x hx=>?_⟩
 obtain⟨t,ht⟩:=List.getElem?_of_mem hx
 have:=this.2 (vec w) (List.mem_map.mpr ⟨w,hw,rfl⟩) t
 rwa [m9 ht] at this
theorem ng:∀(l h:List Int) (i:Nat) (v:Int),l.length=h.length→i<l.length→dot (l.set i v) h=dot l h+(v - l.getD i 0)*h.getD i 0
 | [],_,i,_,_,hi=>by simp at hi
 |a::l,b::h,0,v,hl,_=>by
  simp only [List.set_cons_zero,dot]
  show _=a*b+dot l h+(v - a)*b
  rw[Int.sub_mul];omega
 |a::l,b::h,i+1,v,hl,hi=>by
  have ih:=ng l h i v (by simpa using hl) (by simpa using hi)
  simp only [List.set_cons_succ,dot,ih]
  show _=a*b+dot l h+(v - l.getD i 0)*h.getD i 0
  omega
 |_::_,[],_,_,hl,_=>by simp at hl
theorem eG{l:List Int}{i j:Nat}{v:Int}(h:i≠j):(l.set i v).getD j 0=l.getD j 0:=by
 rw[List.getD_eq_getElem?_getD,List.getD_eq_getElem?_getD,List.getElem?_set_ne h]
theorem jC{l:List Int}{i:Nat}{v:Int}(h:i<l.length):(l.set i v).getD i 0=v:=by
 rw[List.getD_eq_getElem?_getD,List.getElem?_set_self h];rfl
theorem kM:∀(ps:List (Nat×Int)) (l:List Int),(ps.foldl (fun l ps=>l.set ps.1 (-ps.2)) l).length=l.length
 | [],_=>rfl
 |p::ps,l=>by rw[List.foldl_cons,kM ps,List.length_set]
theorem fz{j:Nat}:∀(ps:List Nat) (sh:List Int) (l:List Int),j∉ps→((ps.zip sh).foldl (fun l ps=>l.set ps.1 (-ps.2)) l).getD j 0=l.getD j 0
 | [],_,_,_=>rfl
 |_::_,[],_,_=>rfl
 |p::ps,s::sh,l,h=>by
  rw[List.zip_cons_cons,List.foldl_cons,fz ps sh _ fun z=>h (List.mem_cons_of_mem _ z),eG fun z=>h (by rw[←z];exact List.mem_cons_self ..)]
theorem o6{h:List Int}:∀(ps:List Nat) (sh l:List Int),l.length=h.length→ps.Nodup→(∀p∈ps,p<l.length∧l.getD p 0=0)→ps.length=sh.length→
  dot ((ps.zip sh).foldl (fun l ps=>l.set ps.1 (-ps.2)) l) h=dot l h - dot sh (ps.map fun p=>h.getD p 0)
 | [],sh,l,_,_,_,hs=>by
   cases sh with
   |nil=>simp [dot]
   |cons _ _=>cases hs
 |p::ps,s::sh,l,hl,nd,hp,hs=>by
  obtain⟨p1,p2⟩:=hp p (List.mem_cons_self ..)
  obtain⟨n1,n2⟩:=List.nodup_cons.mp nd
  rw[List.zip_cons_cons,List.foldl_cons,o6 ps sh (l.set p (-s)) (by rw[List.length_set];exact hl) n2 (fun p' rm=>⟨by rw[List.length_set];exact(hp p' (List.mem_cons_of_mem _ rm)).1,by
   rw[eG fun z=>n1 (by rw[z];exact rm)];exact(hp p' (List.mem_cons_of_mem _ rm)).2⟩) (by simpa using hs),ng l h p (-s) hl p1,p2]
  simp only [List.map_cons,dot,Int.sub_zero,Int.neg_mul]
  omega
 |_::_,[],_,_,_,_,hs=>by cases hs
theorem tX(n:Nat)(h:List Int):dot (List.replicate n (0 :Int)) h=0:=by
 induction n generalizing h with
 |zero=>rfl
 |succ n ih=>
  cases h with
  |nil=>rfl
  |cons b h=>rw[List.replicate_succ];simp only [dot,ih];simp
theorem hZ(n j:Nat):(List.replicate n (0 :Int)).getD j 0=0:=by
 rw[List.getD_eq_getElem?_getD,List.getElem?_replicate];split<;>rfl
theorem mj(g:Int):∀(l h:List Int),dot (l.map fun x=>x*g) h=g*dot l h
 | [],_=>by simp [dot]
 |_::_,[]=>by simp [dot]
 |a::l,b::h=>by
  have:=mj g l h
  simp only [List.map_cons,dot,this,Int.mul_add,Int.mul_assoc,Int.mul_left_comm]
theorem mn(ns:List Int)(h:bW ns≠0):(low ns).map (fun x=>x*bW ns)=ns:=by
 apply List.ext_getElem?
 intro k
 rw[List.getElem?_map]
 cases e:ns[k]? with
 |none=>
  rw[List.getElem?_eq_none (by rw[low_length];exact List.getElem?_eq_none_iff.mp e)];rfl
 |some n=>
  obtain⟨m,h1,h2,_⟩:=qv e
  rw[if_neg h] at h2
  rw[h1,←h2];rfl
structure wq(cs:List (List Int))(n:Nat)(pl:List Nat)(f:Nat)(T:List Int):Prop where
 len:T.length=cs.length
 pos:0<T.getD f 0
 zero:∀j,j≠f→(j∉pl∨f<j)→T.getD j 0=0
 lev:∀r,r<n→dot T (row cs r)=0
structure Told(n:Nat)(cs:List (List Int))(i:Nat)(x:KR):Prop where
 bases:x.st.bases=x.st.places.map fun p=>cs.getD p []
 nd:x.st.places.Nodup
 nY:∀p∈x.st.places,p<i
 all:∀j,j<i→j∈x.st.places∨j∈x.free
 pK:∀j∈x.free,j<i∧j∉x.st.places
 SV:x.free.Nodup
 nn:x.bP.length=x.free.length
 lev:∀(a f:Nat) (T:List Int),x.free[a]? =some f→x.bP[a]? =some T→wq cs n x.st.places f T
theorem fB(cs:List (List Int))(r:Nat):(row cs r).length=cs.length:=by unfold row;rw[List.length_map]
theorem gq{cs:List (List Int)}{j r:Nat}(h:j<cs.length):(row cs r).getD j 0=(cs.getD j []).getD r 0:=by
 unfold row
 rw[List.getD_eq_getElem?_getD,List.getElem?_map,List.getElem?_eq_getElem h,List.getD_eq_getElem?_getD (l:=cs),List.getElem?_eq_getElem h];rfl
theorem Ic{n:Nat}{st:KS}(F:nc n st):st.aA.length=st.bases.length:=by
 obtain⟨R,G⟩:=F.fr
 have:=G.len
 simpa using this
theorem tY{n:Nat}{cs:List (List Int)}{i:Nat}{x:KR}{c:List Int}(F:nc n x.st)(pl:x.st.places.length=x.st.bases.length)(t:Told n cs i x)(hi:cs[i]? =some c)(hc:∀c∈cs,c.length=n)(hr:jM x.st c (au x.st c)=none):
  wq cs n x.st.places i (low (cx x.st i (au x.st c) cs.length)):=by
 have gI:i<cs.length:=(List.getElem?_eq_some_iff.mp hi).1
 have hS:0<x.st.scale:=by obtain⟨R,G⟩:=F.fr;exact G.pos
 have Gg:i∉x.st.places:=fun z=>Nat.lt_irrefl _ (t.nY i z)
 have Ie:(cx x.st i (au x.st c) cs.length).length=cs.length:=by unfold cx;rw[kM];simp
 have ri:(cx x.st i (au x.st c) cs.length).getD i 0=x.st.scale:=by
  unfold cx;rw[fz _ _ _ Gg,jC (by simp;exact gI)]
 have rj:∀j,j≠i→j∉x.st.places→(cx x.st i (au x.st c) cs.length).getD j 0=0:=fun j h1 h2=>by
  unfold cx;rw[fz _ _ _ h2,eG (Ne.symm h1),hZ]
 have rd:∀r,r<n→dot (cx x.st i (au x.st c) cs.length) (row cs r)=0:=fun r DN=>by
  have WE:c.length=n:=hc c (List.mem_of_getElem? hi)
  have z:=wo hr (r:=r) (by omega)
  unfold gX at z
  unfold cx
  rw[o6 (h:=row cs r) _ _ _ (by simp [fB]) t.nd (fun p hp=>⟨by simp;exact Nat.lt_trans (t.nY p hp) gI,by rw[eG fun z=>Gg (by rw[z];exact hp),hZ]⟩) (by rw[pl];unfold au;rw[List.length_map,Ic F]),
   ng _ _ _ _ (by simp [fB]) (by simp;exact gI),tX,hZ,gq gI]
  have e1:cs.getD i []=c:=by rw[List.getD_eq_getElem?_getD,hi];rfl
  have e2:(x.st.places.map fun p=>(row cs r).getD p 0)=x.st.bases.map fun b=>b.getD r 0:=by
   rw[t.bases,List.map_map]
   exact List.map_congr_left fun p hp=>gq (Nat.lt_trans (t.nY p hp) gI)
  rw[e1,e2]
  simp only [Int.sub_zero,Int.zero_add]
  exact z
 have g0:bW (cx x.st i (au x.st c) cs.length)≠0:=fun z=>by
  have hm:x.st.scale∈cx x.st i (au x.st c) cs.length:=by
   rw[←ri]
   exact List.mem_of_getElem? (gn (l:=cx x.st i (au x.st c) cs.length) (t:=i) (by omega))
  have:=gj hm
  rw[z] at this
  have:=Int.zero_dvd.mp this
  omega
 have gp:0<bW (cx x.st i (au x.st c) cs.length):=by have:=gm (cx x.st i (au x.st c) cs.length);omega
 have key:∀j,j<cs.length→(low (cx x.st i (au x.st c) cs.length)).getD j 0*bW (cx x.st i (au x.st c) cs.length)=(cx x.st i (au x.st c) cs.length).getD j 0:=fun j hj=>by
  obtain⟨m,h1,h2,_⟩:=qv (gn (l:=cx x.st i (au x.st c) cs.length) (t:=j) (by omega))
  rw[if_neg g0] at h2
  rw[List.getD_eq_getElem?_getD,h1]
  exact h2
 have ll:(low (cx x.st i (au x.st c) cs.length)).length=cs.length:=by rw[low_length,Ie]
 refine⟨ll,?_,fun j hj h=>?_,fun r DN=>?_⟩
 ·have h:=key i gI
  rw[ri] at h
  exact Int.pos_of_mul_pos_left (by rw[h];exact hS) (by omega)
 ·by_cases Qk:j<cs.length
  ·have Ve:j∉x.st.places:=h.elim (fun z=>z) fun z w=>Nat.lt_asymm (t.nY j w) z
   have h2:=key j Qk
   rw[rj j hj Ve] at h2
   rcases Int.mul_eq_zero.mp h2 with q|q
   ·exact q
   ·exact absurd q g0
  ·rw[List.getD_eq_getElem?_getD,List.getElem?_eq_none (by omega)];rfl
 ·have h:=rd r DN
  rw[←mn _ g0,mj] at h
  rcases Int.mul_eq_zero.mp h with q|q
  ·exact absurd q g0
  ·exact q
theorem wq.more{cs:List (List Int)}{n:Nat}{pl:List Nat}{f:Nat}{T:List Int}(h:wq cs n pl f T)(p:Nat):wq cs n (pl++[p]) f T:=
 ⟨h.len,h.pos,fun j hj k=>h.zero j hj (k.elim (fun z=> .inl fun w=>z (List.mem_append_left _ w)) .inr),h.lev⟩
theorem nh{n:Nat}{cs:List (List Int)}(hc:∀c∈cs,c.length=n):∀i,i≤cs.length→nc n (cJ cs.length (cs.take i)).st∧(cJ cs.length (cs.take i)).st.places.length=(cJ cs.length (cs.take i)).st.bases.length∧Told n cs i (cJ cs.length (cs.take i))
 |0,_=>⟨nc.start n,rfl,⟨rfl, .nil,(fun p h=>by cases h),(fun j h=>by omega),(fun j h=>by cases h), .nil,rfl,fun a f T h=>by simp [cJ] at h⟩⟩
 |i+1,hi=>by
  obtain⟨F,pl,t⟩:=nh hc i (by omega)
  have ni:=List.getElem?_eq_getElem (l:=cs) (i:=i) (by omega)
  have rG:=List.mem_of_getElem? ni
  have ts:cs.take (i+1)=cs.take i++[cs[i]]:=by rw[List.take_add_one,ni];rfl
  rw[ts,fe,List.length_take,Nat.min_eq_left (by omega)]
  generalize cJ cs.length (cs.take i)=x at F pl t
  generalize cs[i]=c at ni rG
  have Gg:i∉x.st.places:=fun z=>Nat.lt_irrefl _ (t.nY i z)
  unfold iN
  split
  ·rename_i hr
   refine⟨F,pl,⟨t.bases,t.nd,fun p hp=>Nat.lt_succ_of_lt (t.nY p hp),fun j hj=>?_,fun j hj=>?_,?_,by simp;exact t.nn,fun a f T h1 h2=>?_⟩⟩
   ·rcases Nat.lt_succ_iff_lt_or_eq.mp hj with q|q
    ·exact(t.all j q).imp id fun z=>List.mem_append_left _ z
    ·exact .inr (by rw[q];simp)
   ·rcases List.mem_append.mp hj with q|q
    ·exact⟨Nat.lt_succ_of_lt (t.pK j q).1,(t.pK j q).2⟩
    ·have q:j=i:=by simpa using q
     rw[q];exact⟨Nat.lt_succ_self i,Gg⟩
   ·rw[List.nodup_append]
    refine⟨t.SV,by simp,fun a ha b hb=>?_⟩
    have hb:b=i:=by simpa using hb
    rw[hb]
    exact Nat.ne_of_lt (t.pK a ha).1
   ·by_cases ha:a<x.free.length
    ·rw[List.getElem?_append_left ha] at h1
     rw[List.getElem?_append_left (by rw[t.nn];exact ha)] at h2
     exact t.lev a f T h1 h2
    ·have Ql:a=x.free.length:=by
      have:=(List.getElem?_eq_some_iff.mp h1).1
      simp at this
      omega
     subst Ql
     rw[List.getElem?_append_right (Nat.le_refl _)] at h1
     rw[List.getElem?_append_right (by rw[t.nn];exact Nat.le_refl _),t.nn] at h2
     simp at h1 h2
     subst h1 h2
     exact tY (x:=x) F pl t ni hc hr
  ·rename_i r hr
   obtain⟨B1,_,_⟩:=F.bind (hc c rG) hr i
   refine⟨B1,by simp [bindL];exact pl,⟨?_,?_,fun p hp=>?_,fun j hj=>?_,fun j hj=>?_,t.SV,t.nn,fun a f T h1 h2=>(t.lev a f T h1 h2).more i⟩⟩
   ·show x.st.bases++[c]=(x.st.places++[i]).map fun p=>cs.getD p []
    rw[List.map_append,←t.bases]
    simp only [List.map_cons,List.map_nil]
    rw[List.getD_eq_getElem?_getD,ni];rfl
   ·show (x.st.places++[i]).Nodup
    rw[List.nodup_append]
    refine⟨t.nd,by simp,fun a ha b hb=>?_⟩
    have hb:b=i:=by simpa using hb
    rw[hb]
    exact Nat.ne_of_lt (t.nY a ha)
   ·rcases List.mem_append.mp (show p∈x.st.places++[i] from hp) with q|q
    ·exact Nat.lt_succ_of_lt (t.nY p q)
    ·have q:p=i:=by simpa using q
     rw[q];exact Nat.lt_succ_self i
   ·rcases Nat.lt_succ_iff_lt_or_eq.mp hj with q|q
    ·exact(t.all j q).imp (fun z=>List.mem_append_left _ z) id
    ·exact .inl (List.mem_append_right _ (by rw[q];simp))
   ·refine⟨Nat.lt_succ_of_lt (t.pK j hj).1,fun z=>?_⟩
    rcases List.mem_append.mp z with q|q
    ·exact(t.pK j hj).2 q
    ·have q:j=i:=by simpa using q
     have:=(t.pK j hj).1
     omega
def Qm(ns:List Int):Prop:=∀n∈ns,cG 60000000 n
def mq:Sp:=fun vs H Q _=>∃a b:Int,vs=[.int a, .int b]∧Q (.int (Int.gcd a b:Nat)) H
def o7(K:PySem.W.Frag):Sp:=fun vs H Q _=>∃(p:Addr) (ns:List Int),vs=[.ref p]∧aD K H p (ns.map V.int)∧ns.length≤sizeLine∧(∀n∈ns,n.natAbs<2^8000)∧
 ∀l H',H l=none→ak H H'→H' l=some (.lst ((low ns).map V.int))→Q (.ref l) H'
def nr(K:PySem.W.Frag):Sp:=fun vs H Q _=>∃(p r:Addr) (ws cs:List Int),vs=[.ref p, .ref r]∧aD K H p (ws.map V.int)∧aD K H r (cs.map V.int)∧ws.length≤sizeLine∧Qm ws∧Qm cs∧∀H',ak H H'→Q (.int (dot ws cs)) H'
structure FF(fs:List (Str×V))(S:Int)(aP aB aW:Addr):Prop where
 s:fs.lookup ("scale" :Str)=some (.int S)
 p:fs.lookup ("places" :Str)=some (.ref aP)
 b:fs.lookup ("bases" :Str)=some (.ref aB)
 w:fs.lookup ("weights" :Str)=some (.ref aW)
 no:∀m:Str,m≠"scale" →m≠"places" →m≠"bases" →m≠"weights" →fs.lookup m=none
 len:fs.length≤4
theorem ny{f:Str}{v:V}:∀{fs:List (Str×V)},(fs.lookup f).isSome=true→(az f v fs).length=fs.length
 | [],h=>by cases h
 | (g,u)::r,h=>by
   unfold az
   by_cases e:g=f
   ·rw[if_pos e];rfl
   ·rw[if_neg e]
    rw[List.lookup_cons,beq_eq_false_iff_ne.mpr (Ne.symm e)] at h
    rw[List.length_cons,ny h,List.length_cons]
theorem FF.Qn(S:Int)(aP aB aW:Addr):FF (az "weights" (.ref aW) (az "bases" (.ref aB) (az "places" (.ref aP) (az "scale" (.int S) [])))) S aP aB aW where
 s:=by rw[aq,if_neg (by decide+kernel),aq,if_neg (by decide+kernel),aq,if_neg (by decide+kernel),aq,if_pos rfl]
 p:=by rw[aq,if_neg (by decide+kernel),aq,if_neg (by decide+kernel),aq,if_pos rfl]
 b:=by rw[aq,if_neg (by decide+kernel),aq,if_pos rfl]
 w:=by rw[aq,if_pos rfl]
 no:=fun m h1 h2 h3 h4=>by rw[aq,if_neg h4,aq,if_neg h3,aq,if_neg h2,aq,if_neg h1];rfl
 len:=by
  have a1:=bL "scale" (.int S) []
  have a2:=bL "places" (.ref aP) (az "scale" (.int S) [])
  have a3:=bL "bases" (.ref aB) (az "places" (.ref aP) (az "scale" (.int S) []))
  have a4:=bL "weights" (.ref aW) (az "bases" (.ref aB) (az "places" (.ref aP) (az "scale" (.int S) [])))
  simp at a1
  omega
theorem FF.Qo{fs:List (Str×V)}{S:Int}{aP aB aW:Addr}(h:FF fs S aP aB aW)(Gh:Addr):FF (az "weights" (.ref Gh) fs) S aP aB Gh where
 s:=by rw[aq,if_neg (by decide+kernel)];exact h.s
 p:=by rw[aq,if_neg (by decide+kernel)];exact h.p
 b:=by rw[aq,if_neg (by decide+kernel)];exact h.b
 w:=by rw[aq,if_pos rfl]
 no:=fun m h1 h2 h3 h4=>by rw[aq,if_neg h4];exact h.no m h1 h2 h3 h4
 len:=by rw[ny (by rw[h.w];rfl)];exact h.len
theorem FF.Qq{fs:List (Str×V)}{S:Int}{aP aB aW:Addr}(h:FF fs S aP aB aW)(S':Int):FF (az "scale" (.int S') fs) S' aP aB aW where
 s:=by rw[aq,if_pos rfl]
 p:=by rw[aq,if_neg (by decide+kernel)];exact h.p
 b:=by rw[aq,if_neg (by decide+kernel)];exact h.b
 w:=by rw[aq,if_neg (by decide+kernel)];exact h.w
 no:=fun m h1 h2 h3 h4=>by rw[aq,if_neg h1];exact h.no m h1 h2 h3 h4
 len:=by rw[ny (by rw[h.s];rfl)];exact h.len
def aE(W:List Addr)(H:Hp):List Addr→List (List Int)→Prop:=Paired fun a c=>H a=some (.lst (c.map V.int))∧a∉W
theorem aE.keep{W:List Addr}{H H':Hp}(e:∀b o,H b=some o→b∉W→H' b=some o):∀{as:List Addr} {cs:List (List Int)},aE W H as cs→aE W H' as cs
 |_,_, .nil=> .nil
 |_,_, .cons h t=> .cons ⟨e _ _ h.1 h.2,h.2⟩ (aE.keep e t)
theorem aE.Bp{W:List Addr}{H H':Hp}(e:∀b xs,H b=some (.lst xs)→b∉W→H' b=some (.lst xs)):∀{as:List Addr} {cs:List (List Int)},aE W H as cs→aE W H' as cs
 |_,_, .nil=> .nil
 |_,_, .cons h t=> .cons ⟨e _ _ h.1 h.2,h.2⟩ (aE.Bp e t)
theorem aE.same{W:List Addr}{H H':Hp}(e:ak H H'){as:List Addr}{cs:List (List Int)}(h:aE W H as cs):aE W H' as cs:=h.keep fun b o q _=>e b o q
theorem aE.at{K:PySem.W.Frag}{W:List Addr}{H:Hp}:∀{as:List Addr} {cs:List (List Int)},aE W H as cs→dM K H as cs
 |_,_, .nil=> .nil
 |_,_, .cons h t=> .cons (aD.of h.1) (aE.at t)
theorem aE.get{W:List Addr}{H:Hp}:∀{as:List Addr} {cs:List (List Int)} {i:Nat} {a:Addr},aE W H as cs→as[i]? =some a→∃c,cs[i]? =some c∧H a=some (.lst (c.map V.int))∧a∉W
 |_,_,0,_, .cons h _,e=>by cases e;exact⟨_,rfl,h.1,h.2⟩
 |_,_,i+1,_, .cons _ t,e=>aE.get (i:=i) t e
theorem aE.length{W:List Addr}{H:Hp}{as:List Addr}{cs:List (List Int)}(h:aE W H as cs):as.length=cs.length:=Paired.length h
theorem aE.snoc{W:List Addr}{H:Hp}{a:Addr}{c:List Int}(h:H a=some (.lst (c.map V.int)))(n:a∉W):∀{as:List Addr} {cs:List (List Int)},aE W H as cs→aE W H (as++[a]) (cs++[c])
 |_,_, .nil=> .cons ⟨h,n⟩ .nil
 |_,_, .cons k t=> .cons k (aE.snoc h n t)
structure bc(FC:Addr)(X:List Addr)(H:Hp)(q dx aP aB aW:Addr)(st:KS):Prop where
 obj:∃fs,H q=some (.ins FC dx fs)∧FF fs st.scale aP aB aW
 hP:H aP=some (.lst (st.places.map fun p=>V.int (p:Nat)))
 hB:∃bA:List Addr,H aB=some (.lst (bA.map V.ref))∧aE (aP::aB::X) H bA st.bases
 hW:∃wA:List Addr,H aW=some (.lst (wA.map V.ref))∧aE (aP::aB::X) H wA st.aA
 ne:aP≠aB∧aW≠aP∧aW≠aB∧aP∉X∧aB∉X∧aW∉X∧q∉X
 has:∀b∈X,∃o,H b=some o
theorem bc.same{FC:Addr}{X:List Addr}{H H':Hp}{q dx aP aB aW:Addr}{st:KS}(F:bc FC X H q dx aP aB aW st)(e:ak H H'):bc FC X H' q dx aP aB aW st:=
 ⟨let ⟨fs,h,k⟩:=F.obj;⟨fs,e _ _ h,k⟩,e _ _ F.hP,let ⟨bA,h,k⟩:=F.hB;⟨bA,e _ _ h,k.same e⟩,let ⟨wA,h,k⟩:=F.hW;⟨wA,e _ _ h,k.same e⟩,F.ne,fun b hb=>let ⟨o,h⟩:=F.has b hb;⟨o,e _ _ h⟩⟩
theorem aE.more{W:List Addr}{H H':Hp}{b:Addr}(n:H b=none)(e:ak H H'):∀{as:List Addr} {cs:List (List Int)},aE W H as cs→aE (b::W) H' as cs
 |_,_, .nil=> .nil
 |_,_, .cons h t=> .cons ⟨e _ _ h.1,fun z=>(List.mem_cons.mp z).elim (af h.1 n) h.2⟩ (aE.more n e t)
theorem aE.perm{W W':List Addr}{H:Hp}(w:∀b∈W',b∈W):∀{as:List Addr} {cs:List (List Int)},aE W H as cs→aE W' H as cs
 |_,_, .nil=> .nil
 |_,_, .cons h t=> .cons ⟨h.1,fun z=>h.2 (w _ z)⟩ (aE.perm w t)
theorem bc.more{FC:Addr}{X:List Addr}{H H':Hp}{q dx aP aB aW b:Addr}{o:HO}{st:KS}(F:bc FC X H q dx aP aB aW st)(n:H b=none)(e:ak H H')(hb:H' b=some o):bc FC (b::X) H' q dx aP aB aW st:=by
 obtain⟨fs,hq,ff⟩:=F.obj
 obtain⟨bA,hB,cB⟩:=F.hB
 obtain⟨wA,hW,cW⟩:=F.hW
 obtain⟨n1,n2,n3,n4,n5,n6,n7⟩:=F.ne
 have pr:∀c∈aP::aB::b::X,c∈b::aP::aB::X:=fun c hc=>by simp only [List.mem_cons] at hc ⊢;rcases hc with h|h|h|h<;>simp [h]
 have nm:∀{c:Addr} {u:HO},H c=some u→c∉X→c∉b::X:=fun h k z=>(List.mem_cons.mp z).elim (af h n) k
 exact⟨⟨fs,e _ _ hq,ff⟩,e _ _ F.hP,⟨bA,e _ _ hB,(cB.more n e).perm pr⟩,⟨wA,e _ _ hW,(cW.more n e).perm pr⟩,⟨n1,n2,n3,nm F.hP n4,nm hB n5,nm hW n6,nm hq n7⟩,fun c hc=>(List.mem_cons.mp hc).elim (fun z=>⟨o,by rw[z];exact hb⟩) fun z=>let ⟨u,hu⟩:=F.has c z;⟨u,e _ _ hu⟩⟩
theorem bc.but{FC:Addr}{X:List Addr}{H H':Hp}{q dx aP aB aW b:Addr}{o:HO}{st:KS}(F:bc FC X H q dx aP aB aW st)(hb:b∈X)(e:cE b H H')(h':H' b=some o):bc FC X H' q dx aP aB aW st:=by
 obtain⟨fs,hq,ff⟩:=F.obj
 obtain⟨bA,hB,cB⟩:=F.hB
 obtain⟨wA,hW,cW⟩:=F.hW
 obtain⟨n1,n2,n3,n4,n5,n6,n7⟩:=F.ne
 have nm:∀{c:Addr},c∉X→c≠b:=fun k z=>k (by rw[z];exact hb)
 have kp:∀c u,H c=some u→c∉aP::aB::X→H' c=some u:=fun c u h k=>e _ _ h fun z=>k (by rw[z];simp [hb])
 refine⟨⟨fs,e _ _ hq (nm n7),ff⟩,e _ _ F.hP (nm n4),⟨bA,e _ _ hB (nm n5),cB.keep kp⟩,⟨wA,e _ _ hW (nm n6),cW.keep kp⟩,F.ne,fun c hc=>?_⟩
 by_cases z:c=b
 ·exact⟨o,by rw[z];exact h'⟩
 ·obtain⟨u,hu⟩:=F.has c hc
  exact⟨u,e _ _ hu z⟩
structure Sm(n:Nat)(st:KS):Prop where
 F:nc n st
 n:n≤1000
 many:st.bases.length≤60
 pl:st.places.length=st.bases.length
 pos:0<st.scale
 s:cG 4600 st.scale
 w:∀w∈st.aA,∀x∈w,cG 4600 x
 b:∀b∈st.bases,∀x∈b,cG 70 x
theorem Sm.of{n:Nat}{st:KS}(F:nc n st)(hn:n≤1000)(hk:st.bases.length≤60)(pl:st.places.length=st.bases.length)(hb:∀b∈st.bases,∀x∈b,cG 70 x):Sm n st:=by
 obtain⟨p,s,w⟩:=F.small (M:=2^70) Nat.one_le_two_pow fun b h x hx=>Nat.le_of_lt (hb b h x hx)
 have key:st.bases.length^st.bases.length*(2^70) ^st.bases.length<2^4600:=by
  generalize st.bases.length=k at hk
  have h1:k^k≤(2^6) ^k:=Nat.pow_le_pow_left (by omega) k
  have h2:k^k*(2^70) ^k≤(2^6) ^k*(2^70) ^k:=Nat.mul_le_mul_right _ h1
  have h3:(2^6) ^k*(2^70) ^k=2^(76*k):=by rw[←Nat.mul_pow,←Nat.pow_add,←Nat.pow_mul]
  rw[h3] at h2
  exact Nat.lt_of_le_of_lt h2 (Nat.pow_lt_pow_right (by decide) (by omega))
 exact⟨F,hn,hk,pl,p,Nat.lt_of_le_of_lt s key,fun v hv x hx=>Nat.lt_of_le_of_lt (w v hv x hx) key,hb⟩
theorem cG.bx{m:Nat}(hm:m≤60000000){ns:List Int}(h:∀x∈ns,cG m x):Qm ns:=fun x hx=>(h x hx).mono hm
theorem rR{A B:Nat}:∀(xs ys:List Int),(∀x∈xs,x.natAbs≤A)→(∀y∈ys,y.natAbs≤B)→(dot xs ys).natAbs≤xs.length*(A*B)
 | [],_,_,_=>by simp [dot]
 |_::_,[],_,_=>by simp [dot]
 |x::xs,y::ys,hx,hy=>by
  have ih:=rR xs ys (fun z hz=>hx z (List.mem_cons_of_mem _ hz)) (fun z hz=>hy z (List.mem_cons_of_mem _ hz))
  have h1:(x*y).natAbs≤A*B:=by rw[Int.natAbs_mul];exact Nat.mul_le_mul (hx x (List.mem_cons_self ..)) (hy y (List.mem_cons_self ..))
  rw[List.length_cons,Nat.succ_mul]
  show (x*y+dot xs ys).natAbs≤_
  omega
theorem yT{a b:Nat}{xs ys:List Int}(hx:∀x∈xs,cG a x)(hy:∀y∈ys,cG b y)(hl:xs.length≤1000):cG (10+(a+b)) (dot xs ys):=by
 have h:=rR xs ys (fun x h=>Nat.le_of_lt (hx x h)) (fun y h=>Nat.le_of_lt (hy y h))
 unfold cG
 refine Nat.lt_of_le_of_lt h ?_
 rw[Nat.pow_add,Nat.pow_add]
 exact Nat.mul_lt_mul_of_pos_right (by omega) (Nat.mul_pos (Nat.pow_pos (by decide)) (Nat.pow_pos (by decide)))
theorem wx{a b:Nat}{i j:Int}(h:cG a i)(h':cG b j)(hs:a+b≤134217728:=by decide):rq i j:= .inr ⟨a,b,h,h',hs⟩
theorem getD_at{l:List Int}{i:Nat}(h:i<l.length):l[i]? =some (l.getD i 0):=by rw[List.getD_eq_getElem?_getD,List.getElem?_eq_getElem h];rfl
theorem h8{n:Nat}{st:KS}(S:Sm n st){c:List Int}(hf:∀x∈c,cG 70 x):∀x∈au st c,cG 4680 x:=fun x hx=>by
 unfold au at hx
 obtain⟨w,hw,rfl⟩:=List.mem_map.mp hx
 exact yT (S.w w hw) hf (by rw[S.F.lw w hw];exact S.n)
theorem yU{n:Nat}{st:KS}(S:Sm n st):st.aA.length=st.bases.length:=by
 obtain⟨R,G⟩:=S.F.fr
 have:=G.len
 simpa using this
structure Ol(n:Nat)(H:Hp)(cA:Addr)(c:List Int):Prop where
 at':H cA=some (.lst (c.map V.int))
 len:c.length=n
 fit:∀x∈c,cG 70 x
def rS(FC:Addr):Sp:=fun vs H Q _=>∃q dx:Addr,vs=[.ref q]∧H q=some (.ins FC dx [])∧∀aP aB aW H',H aP=none→H aB=none→bc FC [] H' q dx aP aB aW ⟨1,[],[],[]⟩→(∀b o,H b=some o→b≠q→H' b=some o)→Q .dG H'
def o8(FC:Addr):Sp:=fun vs H Q _=>∃(X:List Addr) (q dx aP aB aW cA:Addr) (st:KS) (n:Nat) (c:List Int),vs=[.ref q, .ref cA]∧bc FC X H q dx aP aB aW st∧Sm n st∧Ol n H cA c∧∀l H',H l=none→ak H H'→H' l=some (.lst ((au st c).map V.int))→Q (.ref l) H'
def wy(FC:Addr):Sp:=fun vs H Q _=>∃(X:List Addr) (q dx aP aB aW cA sA:Addr) (st:KS) (n:Nat) (c:List Int) (r:Nat),vs=[.ref q, .ref cA, .ref sA, .int r]∧bc FC X H q dx aP aB aW st∧Sm n st∧Ol n H cA c∧H sA=some (.lst ((au st c).map V.int))∧r<n∧∀H',ak H H'→Q (.int (gX st c (au st c) r)) H'
def Bq(FC:Addr):Sp:=fun vs H Q _=>∃(X:List Addr) (q dx aP aB aW cA sA:Addr) (st:KS) (n:Nat) (c:List Int),vs=[.ref q, .ref cA, .ref sA]∧bc FC X H q dx aP aB aW st∧Sm n st∧Ol n H cA c∧H sA=some (.lst ((au st c).map V.int))∧
 ∀H',ak H H'→(∀r,jM st c (au st c)=some r→Q (.int (r:Nat)) H')∧(jM st c (au st c)=none→Q .dG H')
def Br(FC:Addr):Sp:=fun vs H Q _=>∃(X:List Addr) (q dx aP aB aW sA:Addr) (st:KS) (n:Nat) (c:List Int) (place many:Nat),vs=[.ref q, .int place, .ref sA, .int many]∧bc FC X H q dx aP aB aW st∧Sm n st∧(∀x∈c,cG 70 x)∧H sA=some (.lst ((au st c).map V.int))∧place<many∧many≤1000∧(∀p∈st.places,p<many)∧
 ∀l H',H l=none→ak H H'→H' l=some (.lst ((low (cx st place (au st c) many)).map V.int))→Q (.ref l) H'
def rT(FC:Addr):Sp:=fun vs H Q _=>∃(X:List Addr) (q dx aP aB aW:Addr) (st:KS) (n r:Nat),vs=[.ref q, .int r, .int n]∧bc FC X H q dx aP aB aW st∧Sm n st∧r<n∧∀l H',H l=none→ak H H'→H' l=some (.lst ((aR st r n).map V.int))→Q (.ref l) H'
def rV(FC:Addr):Sp:=fun vs H Q _=>∃(X:List Addr) (q dx aP aB aW wA fA:Addr) (st:KS) (n:Nat) (w f:List Int) (s S':Int),vs=[.ref q, .ref wA, .int s, .ref fA, .int S']∧bc FC X H q dx aP aB aW st∧Sm n st∧H wA=some (.lst (w.map V.int))∧H fA=some (.lst (f.map V.int))∧w.length=n∧f.length=n∧(∀x∈w,cG 20000 x)∧(∀x∈f,cG 20000 x)∧cG 20000 s∧cG 20000 S'∧
 ∀l H',H l=none→ak H H'→H' l=some (.lst ((b8 st.scale S' w s f).map V.int))→Q (.ref l) H'
def wz(FC:Addr):Sp:=fun vs H Q _=>∃(X:List Addr) (q dx aP aB aW cA sA:Addr) (st:KS) (n:Nat) (c:List Int) (place r:Nat),vs=[.ref q, .int place, .ref cA, .ref sA, .int r]∧bc FC X H q dx aP aB aW st∧Sm n st∧st.bases.length<60∧Ol n H cA c∧cA∉aP::aB::X∧H sA=some (.lst ((au st c).map V.int))∧jM st c (au st c)=some r∧
 ∀Gh H',(∀b o,H b=some o→b∉[q,aP,aB]→H' b=some o)→bc FC X H' q dx aP aB Gh (bindL st place c (au st c) r)→Q .dG H'
theorem nz{n j:Nat}(h:j<n):pL n (j:Int)=some j:=by
 unfold pL
 rw[if_pos (by omega),if_pos (by omega)];simp
theorem kN:∀(ps:List (Nat×Int)) (l:List Int),(ps.foldl (fun l ps=>l.set ps.1 (-ps.2)) l).length=l.length
 | [],_=>rfl
 |p::ps,l=>by rw[List.foldl_cons,kN ps,List.length_set]
theorem o9{m:Nat}:∀(ps:List (Nat×Int)) (l:List Int),(∀x∈l,cG m x)→(∀p∈ps,cG m p.2)→∀x∈ps.foldl (fun l ps=>l.set ps.1 (-ps.2)) l,cG m x
 | [],_,h,_=>h
 |p::ps,l,h,hp=>by
  rw[List.foldl_cons]
  refine o9 ps _ (fun x hx=>?_) fun p' rm=>hp p' (List.mem_cons_of_mem _ rm)
  rcases List.mem_or_eq_of_mem_set hx with z|z
  ·exact h x z
  ·rw[z]
   have:=hp p (List.mem_cons_self ..)
   unfold cG at this ⊢
   rw[Int.natAbs_neg];exact this
theorem rW{n:Nat}{st:KS}(S:Sm n st){c:List Int}(hf:∀x∈c,cG 70 x){place many:Nat}:∀x∈cx st place (au st c) many,cG 4680 x:=by
 unfold cx
 refine o9 _ _ (fun x hx=>?_) fun p hp=>h8 S hf _ (List.of_mem_zip hp).2
 rcases List.mem_or_eq_of_mem_set hx with z|z
 ·rw[(List.mem_replicate.mp z).2]
  exact Nat.pow_pos (by decide)
 ·rw[z];exact S.s.mono (by decide)
theorem gu{n:Nat}(r:Nat):∀(ps:List (List Int×List Int)) (told:List Int),told.length=n→(∀p∈ps,p.2.length=n)→(ps.foldl (fun told bw=>cO told (bw.1.getD r 0) bw.2) told).length=n
 | [],_,h,_=>h
 |p::ps,told,h,hp=>by
  rw[List.foldl_cons]
  exact gu r ps _ (jo h (hp p (List.mem_cons_self ..)) _) fun p' rm=>hp p' (List.mem_cons_of_mem _ rm)
theorem bG.toS{L:Addr}{H0 H H':Hp}{W:List Addr}(hW:∀b∈W,∃o,H0 b=some o)(e:∀b xs,H b=some (.lst xs)→b≠L→b∉W→H' b=some (.lst xs)):∀{as:List Addr} {cs:List (List Int)},bG L H0 H as cs→aE W H' as cs
 |_,_, .nil=> .nil
 |_,_, .cons h t=> .cons (by
   have nm:∀z,z∈W→¬H0 z=none:=fun z hz=>by obtain⟨o,ho⟩:=hW z hz;rw[ho];simp
   exact⟨e _ _ h.1 h.2.1 fun z=>nm _ z h.2.2,fun z=>nm _ z h.2.2⟩) (bG.toS hW e t)
theorem wB{m:Nat}{f c:List Int}(h:∀x∈bu f c,cG m x):∀x∈f,cG m x:=fun x hx=>by
 unfold bu at h
 split at h
 ·have:=h (-x) (List.mem_map.mpr ⟨x,hx,rfl⟩)
  unfold cG at this ⊢
  rwa [Int.natAbs_neg] at this
 ·exact h x hx
structure Ig(fs:List (Str×V))(b1 b2 b3 b4:Addr):Prop where
 f:fs.lookup ("free" :Str)=some (.ref b1)
 b:fs.lookup ("bound" :Str)=some (.ref b2)
 n:fs.lookup ("numbers" :Str)=some (.ref b3)
 w:fs.lookup ("weights" :Str)=some (.ref b4)
theorem Ig.Qn(b1 b2 b3 b4:Addr):Ig (az "weights" (.ref b4) (az "numbers" (.ref b3) (az "bound" (.ref b2) (az "free" (.ref b1) [])))) b1 b2 b3 b4 where
 f:=by rw[aq,if_neg (by decide+kernel),aq,if_neg (by decide+kernel),aq,if_neg (by decide+kernel),aq,if_pos rfl]
 b:=by rw[aq,if_neg (by decide+kernel),aq,if_neg (by decide+kernel),aq,if_pos rfl]
 n:=by rw[aq,if_neg (by decide+kernel),aq,if_pos rfl]
 w:=by rw[aq,if_pos rfl]
def rX(KC:Addr):Sp:=fun vs H Q _=>∃(q dx a1 a2 a3 a4:Addr) (x1 x2 x3 x4:List V),vs=[.ref q, .ref a1, .ref a2, .ref a3, .ref a4]∧H q=some (.ins KC dx [])∧H a1=some (.lst x1)∧H a2=some (.lst x2)∧H a3=some (.lst x3)∧H a4=some (.lst x4)∧
 ∀b1 b2 b3 b4 fs H',(H b1=none∧H b2=none∧H b3=none∧H b4=none)→(H' q=some (.ins KC dx fs)∧Ig fs b1 b2 b3 b4)→H' b1=some (.lst x1)→H' b2=some (.lst x2)→H' b3=some (.lst x3)→H' b4=some (.lst x4)→(∀b o,H b=some o→b≠q→H' b=some o)→Q .dG H'
structure wC(KC:Addr)(H0 H:Hp)(kq:Addr)(x:KR):Prop where
 obj:∃dx fs b1 b2 b3 b4,H kq=some (.ins KC dx fs)∧Ig fs b1 b2 b3 b4∧(H0 kq=none∧H0 b1=none∧H0 b2=none∧H0 b3=none∧H0 b4=none)∧H b1=some (.lst (x.free.map fun p=>V.int (p:Nat)))∧H b2=some (.lst (x.st.places.map fun p=>V.int (p:Nat)))∧
  (∃nA:List Addr,H b3=some (.lst (nA.map V.ref))∧bG kq H0 H nA x.bP)∧∃wA:List Addr,H b4=some (.lst (wA.map V.ref))∧aE [] H wA x.st.aA
def pb(KC:Addr):Sp:=fun vs H Q _=>∃(p:Addr) (as:List Addr) (cs:List (List Int)) (n:Nat),vs=[.ref p]∧H p=some (.lst (as.map V.ref))∧aE [] H as cs∧(∀c∈cs,c.length=n∧∀x∈c,cG 70 x)∧n≤1000∧cs.length≤60∧
 ∀kq H',ak H H'→wC KC H H' kq (cJ cs.length cs)→Q (.ref kq) H'
structure DO(n:Nat)(cs:List (List Int))(i:Nat)(x:KR):Prop where
 F:nc n x.st
 pl:x.st.places.length=x.st.bases.length
 bx:x.st.bases.length≤i
 sub:∀b∈x.st.bases,b∈cs
 nY:∀p∈x.st.places,p<i
 nf:x.free.length≤i
 nn:x.bP.length=x.free.length
theorem wD{n many:Nat}{cs:List (List Int)}(hc:∀c∈cs,c.length=n):∀i,i≤cs.length→DO n cs i (cJ many (cs.take i))
 |0,_=>⟨nc.start n,rfl,Nat.le_refl _,(fun b h=>by cases h),(fun p h=>by cases h),Nat.le_refl _,rfl⟩
 |i+1,hi=>by
  have I:=wD (many:=many) hc i (by omega)
  have ni:=List.getElem?_eq_getElem (l:=cs) (i:=i) (by omega)
  rw[ay ni,fe,List.length_take,Nat.min_eq_left (by omega)]
  have rG:=List.mem_of_getElem? ni
  generalize cs[i]=c at rG
  unfold iN
  split
  ·exact⟨I.F,I.pl,Nat.le_trans I.bx (Nat.le_succ i),I.sub,fun p hp=>Nat.lt_succ_of_lt (I.nY p hp),by simp;exact I.nf,by simp;exact I.nn⟩
  ·rename_i r hr
   obtain⟨B1,_,_⟩:=I.F.bind (hc c rG) hr i
   refine⟨B1,by simp [bindL];exact I.pl,by simp [bindL];exact I.bx,fun b hb=>?_,fun p hp=>?_,Nat.le_trans I.nf (Nat.le_succ i),I.nn⟩
   ·rcases List.mem_append.mp (show b∈_++[c] from hb) with h|h
    ·exact I.sub b h
    ·have h:b=c:=by simpa using h
     rw[h];exact rG
   ·rcases List.mem_append.mp (show p∈_++[i] from hp) with h|h
    ·exact Nat.lt_succ_of_lt (I.nY p h)
    ·have h:p=i:=by simpa using h
     rw[h];exact Nat.lt_succ_self i
theorem DO.sm{n:Nat}{cs:List (List Int)}{i:Nat}{x:KR}(I:DO n cs i x)(hn:n≤1000)(hi:i≤60)(hf:∀c∈cs,∀x∈c,cG 70 x):Sm n x.st:=
 Sm.of I.F hn (Nat.le_trans I.bx hi) I.pl fun b hb x hx=>hf b (I.sub b hb) x hx
structure Good(cs:List (List Int))(n:Nat)(x:KR):Prop where
 F:nc n x.st
 pl:x.st.places.length=x.st.bases.length
 T:Told n cs cs.length x
 ps:x.st.places.Pairwise (· < ·)
 fs:x.free.Pairwise (· < ·)
 one:∀t∈x.bP,bW t=1
 fit:∀t∈x.bP,∀y∈t,cG 4680 y
 wf:∀v∈x.st.aA,∀y∈v,cG 4600 y
 fl:x.free.length≤cs.length
theorem jD{n many:Nat}{cs:List (List Int)}(hn:n≤1000)(hl:cs.length≤60)(hc:∀c∈cs,c.length=n∧∀x∈c,cG 70 x):∀i,i≤cs.length→∀T∈(cJ many (cs.take i)).bP,∀x∈T,cG 4680 x
 |0,_,T,h=>by simp [cJ] at h
 |i+1,hi,T,h=>by
  have ih:=jD (many:=many) hn hl hc i (by omega)
  have S:=(wD (many:=many) (fun c h=>(hc c h).1) i (by omega)).sm hn (by omega) fun c h=>(hc c h).2
  have ni:=List.getElem?_eq_getElem (l:=cs) (i:=i) (by omega)
  rw[ay ni,fe,List.length_take,Nat.min_eq_left (by omega)] at h
  have rG:=List.mem_of_getElem? ni
  generalize cs[i]=c at rG h
  generalize cJ many (cs.take i)=x at*
  unfold iN at h
  split at h
  ·rcases List.mem_append.mp h with q|q
   ·exact ih T q
   ·have q:T=low (cx x.st i (au x.st c) many):=by simpa using q
    intro y hy
    rw[q] at hy
    obtain⟨k,hk⟩:=List.getElem?_of_mem hy
    have SW:k< (cx x.st i (au x.st c) many).length:=by rw[←low_length];exact(List.getElem?_eq_some_iff.mp hk).1
    obtain⟨m,h1,_,h3⟩:=qv (List.getElem?_eq_getElem SW)
    rw[hk] at h1
    cases h1
    exact Nat.lt_of_le_of_lt h3 (rW S (hc c rG).2 _ (List.getElem_mem SW))
  ·exact ih T h
def nC(cs:List (List Int))(ch:List Nat):List (List Int):=ch.map fun p=>cs.getD p []
def h9(v:List Int)(p:Nat):List Int:=v.set p (v.getD p 0+1)
abbrev dD:=List Int×Nat
def bg(m:Nat)(ts:List dD):List dD:=ts.flatMap fun t=>(List.range' t.2 (m - t.2)).map fun p=>(h9 t.1 p,p)
def gw(a b:List Int):Bool:=(a.zip b).all fun p=>decide (p.1≤p.2)
def kO(lev:List Int→Bool)(m:Nat)(told:List (List Int))(ts:List dD):List (List Int):=told++(((bg m ts).filter fun t=>lev t.1).map (·.1)).filter fun v=>!(told.any fun u=>gw u v)
def wF(lev:List Int→Bool)(m:Nat)(ts:List dD):List dD:=(bg m ts).filter fun t=>!lev t.1
def bz(lev:List Int→Bool)(m:Nat):Nat→List (List Int)×List dD
 |0=>([],[(List.replicate m 0,0)])
 |k+1=>(kO lev m (bz lev m k).1 (bz lev m k).2,wF lev m (bz lev m k).2)
def Nn(m:Nat)(v:List Int):Prop:=v.length=m∧∀x∈v,0≤x
def Le(u v:List Int):Prop:=∀t,u.getD t 0≤v.getD t 0
def SX(lev:List Int→Bool)(m:Nat)(v:List Int):Prop:=Nn m v∧0<v.sum∧lev v=true∧∀u,Nn m u→0<u.sum→lev u=true→Le u v→u=v
theorem mw{m:Nat}{v:List Int}(h:Nn m v)(t:Nat):0≤v.getD t 0:=by
 by_cases ht:t<v.length
 ·rw[List.getD_eq_getElem?_getD,List.getElem?_eq_getElem ht]
  exact h.2 _ (List.getElem_mem ht)
 ·rw[List.getD_eq_getElem?_getD,List.getElem?_eq_none (by omega)]
  exact Int.le_refl _
theorem wG{a b:List Int}(hl:a.length=b.length)(h:∀t,a.getD t 0=b.getD t 0):a=b:=by
 apply List.ext_getElem hl
 intro t h1 h2
 have:=h t
 rwa [List.getD_eq_getElem?_getD,List.getD_eq_getElem?_getD,List.getElem?_eq_getElem h1,List.getElem?_eq_getElem h2] at this
theorem kP{v:List Int}{p:Nat}(hp:p<v.length)(t:Nat):(h9 v p).getD t 0=v.getD t 0+if t=p then 1 else 0:=by
 unfold h9
 rw[List.getD_eq_getElem?_getD,List.getElem?_set]
 by_cases h:p=t
 ·subst h
  rw[if_pos rfl,if_pos hp,if_pos rfl]
  rfl
 ·rw[if_neg h,if_neg (fun z=>h z.symm),List.getD_eq_getElem?_getD,Int.add_zero]
theorem qw(v:List Int)(p:Nat):(h9 v p).length=v.length:=by unfold h9;rw[List.length_set]
theorem sum_set:∀(v:List Int) (p:Nat) (x:Int),p<v.length→(v.set p x).sum=v.sum - v.getD p 0+x
 | [],p,_,h=>by simp at h
 |a::v,0,x,_=>by simp;omega
 |a::v,p+1,x,h=>by
  have:=sum_set v p x (by simpa using h)
  simp only [List.set_cons_succ,List.sum_cons,List.getD_cons_succ]
  omega
theorem wH{v:List Int}{p:Nat}(hp:p<v.length):(h9 v p).sum=v.sum+1:=by
 unfold h9
 rw[sum_set v p _ hp]
 omega
theorem Ih{m:Nat}{v:List Int}(h:Nn m v){p:Nat}(hp:p<m):Nn m (h9 v p):=by
 refine⟨by rw[qw];exact h.1,fun x hx=>?_⟩
 obtain⟨t,ht,rfl⟩:=List.getElem_of_mem hx
 have e:=kP (v:=v) (p:=p) (by rw[h.1];exact hp) t
 rw[List.getD_eq_getElem?_getD,List.getElem?_eq_getElem ht] at e
 have:=mw h t
 have e:(h9 v p)[t]=v.getD t 0+if t=p then 1 else 0:=e
 rw[e]
 split<;>omega
theorem ic:∀{v:List Int},(∀x∈v,0≤x)→0≤v.sum
 | [],_=>Int.le_refl _
 |a::v,h=>by
  have h1:=h a (List.mem_cons_self ..)
  have h2:=ic (v:=v) fun x hx=>h x (List.mem_cons_of_mem _ hx)
  rw[List.sum_cons]
  omega
theorem ie:∀{u v:List Int},u.length=v.length→Le u v→u.sum≤v.sum∧(u.sum=v.sum→u=v)
 | [],[],_,_=>⟨Int.le_refl _,fun _=>rfl⟩
 |a::u,b::v,hl,h=>by
  have h0:a≤b:=h 0
  have ih:=ie (u:=u) (v:=v) (by simpa using hl) fun t=>h (t+1)
  rw[List.sum_cons,List.sum_cons]
  refine⟨by omega,fun e=>?_⟩
  have e1:a=b:=by omega
  rw[e1,ih.2 (by omega)]
 | [],_::_,hl,_=>by simp at hl
 |_::_,[],hl,_=>by simp at hl
theorem zero_of:∀{v:List Int},(∀x∈v,0≤x)→v.sum=0→v=List.replicate v.length 0
 | [],_,_=>rfl
 |a::v,h,e=>by
  have h1:=h a (List.mem_cons_self ..)
  have h2:=ic (v:=v) fun x hx=>h x (List.mem_cons_of_mem _ hx)
  rw[List.sum_cons] at e
  have e1:a=0:=by omega
  have e2:=zero_of (v:=v) (fun x hx=>h x (List.mem_cons_of_mem _ hx)) (by omega)
  rw[e1,List.length_cons,List.replicate_succ,←e2]
theorem nD:∀(v:List Int),(∀x∈v,0≤x)→0<v.sum→∃p,p<v.length∧0<v.getD p 0∧∀t,p<t→v.getD t 0=0
 | [],_,h=>by simp at h
 |a::v,h,hs=>by
  have h1:=h a (List.mem_cons_self ..)
  have hv:∀x∈v,0≤x:=fun x hx=>h x (List.mem_cons_of_mem _ hx)
  by_cases z:0<v.sum
  ·obtain⟨p,p1,p2,p3⟩:=nD v hv z
   refine⟨p+1,by simpa using p1,by simpa using p2,fun t ht=>?_⟩
   cases t with
   |zero=>omega
   |succ t=>simpa using p3 t (by omega)
  ·have:=ic hv
   have e:=zero_of hv (by omega)
   rw[List.sum_cons] at hs
   refine⟨0,by simp,by show 0<a;omega,fun t ht=>?_⟩
   cases t with
   |zero=>omega
   |succ t=>
    rw[List.getD_cons_succ,e,List.getD_eq_getElem?_getD]
    by_cases z:t<v.length
    ·rw[List.getElem?_replicate,if_pos z]
     rfl
    ·rw[List.getElem?_replicate,if_neg z]
     rfl
theorem kQ:∀{u v:List Int},u.length=v.length→(gw u v=true↔Le u v)
 | [],[],_=>⟨fun _ _=>Int.le_refl _,fun _=>rfl⟩
 |a::u,b::v,hl=>by
  have ih:=kQ (u:=u) (v:=v) (by simpa using hl)
  unfold gw at ih ⊢
  rw[List.zip_cons_cons,List.all_cons,Bool.and_eq_true,decide_eq_true_eq,ih]
  constructor
  ·rintro ⟨h1,h2⟩ t
   cases t with
   |zero=>exact h1
   |succ t=>exact h2 t
  ·exact fun h=>⟨h 0,fun t=>h (t+1)⟩
 | [],_::_,hl=>by simp at hl
 |_::_,[],hl=>by simp at hl
theorem gy{m:Nat}{ts:List dD}{v:List Int}{p:Nat}:(v,p)∈bg m ts↔∃t∈ts,t.2≤p∧p<m∧v=h9 t.1 p:=by
 unfold bg
 rw[List.mem_flatMap]
 constructor
 ·rintro ⟨t,ht,h⟩
  obtain⟨q,hq,e⟩:=List.mem_map.mp h
  rw[List.mem_range'_1] at hq
  have e1:h9 t.1 q=v:=congrArg Prod.fst e
  have e2:q=p:=congrArg Prod.snd e
  subst e2
  exact⟨t,ht,hq.1,by omega,e1.symm⟩
 ·rintro ⟨t,ht,h1,h2,rfl⟩
  exact⟨t,ht,List.mem_map.mpr ⟨p,by rw[List.mem_range'_1];omega,rfl⟩⟩
structure jq(m k:Nat)(ts:List dD):Prop where
 nn:∀t∈ts,Nn m t.1∧t.1.sum=k
 up:∀t∈ts,∀q,t.2<q→t.1.getD q 0=0
 at_:∀t∈ts,0<k→0<t.1.getD t.2 0
 nd:(ts.map (·.1)).Nodup
theorem nE:∀m:Nat,(List.replicate m (0 :Int)).sum=0
 |0=>rfl
 |m+1=>by rw[List.replicate_succ,List.sum_cons,Int.zero_add];exact nE m
theorem wI(m:Nat):jq m 0 [(List.replicate m 0,0)]:=by
 have e:∀t∈[((List.replicate m 0,0):dD)],t=(List.replicate m 0,0):=fun t h=>by simpa using h
 refine⟨fun t h=>?_,fun t h q _=>?_,fun t h z=>absurd z (by decide),by simp⟩
 ·rw[e t h]
  refine⟨⟨List.length_replicate,fun x hx=>?_⟩,?_⟩
  ·rw[(List.mem_replicate.mp hx).2]
   exact Int.le_refl _
  ·exact nE m
 ·rw[e t h]
  show (List.replicate m (0 :Int)).getD q 0=0
  rw[List.getD_eq_getElem?_getD,List.getElem?_replicate]
  split<;>rfl
theorem j7{m k:Nat}{ts:List dD}(h:jq m k ts)(hm:∀t∈ts,t.2≤m):jq m (k+1) (bg m ts):=by
 have get:∀t∈bg m ts,∃u∈ts,u.2≤t.2∧t.2<m∧t.1=h9 u.1 t.2:=fun t ht=>gy.mp ht
 refine⟨fun t ht=>?_,fun t ht q hq=>?_,fun t ht _=>?_,?_⟩
 ·obtain⟨u,hu,h1,h2,e⟩:=get t ht
  obtain⟨n1,n2⟩:=h.nn u hu
  rw[e]
  refine⟨Ih n1 h2,?_⟩
  rw[wH (by rw[n1.1];exact h2),n2]
  rfl
 ·obtain⟨u,hu,h1,h2,e⟩:=get t ht
  rw[e,kP (by rw[(h.nn u hu).1.1];exact h2),h.up u hu q (by omega),if_neg (by omega)]
  rfl
 ·obtain⟨u,hu,h1,h2,e⟩:=get t ht
  rw[e,kP (by rw[(h.nn u hu).1.1];exact h2),if_pos rfl]
  have:=mw (h.nn u hu).1 t.2
  omega
 ·have key:∀(us:List dD),(∀u∈us,u∈ts)→(us.map (·.1)).Nodup→((bg m us).map (·.1)).Nodup:=by
   intro us
   induction us with
   |nil=>intro _ _;exact .nil
   |cons u r ih=>
    intro hs hn
    rw[List.map_cons,List.nodup_cons] at hn
    have hu:=hs u (List.mem_cons_self ..)
    have hr:∀x∈r,x∈ts:=fun x hx=>hs x (List.mem_cons_of_mem _ hx)
    have e:bg m (u::r)=(List.range' u.2 (m - u.2)).map (fun p=>(h9 u.1 p,p))++bg m r:=by
     unfold bg
     rw[List.flatMap_cons]
    rw[e,List.map_append,List.nodup_append]
    have lu:=(h.nn u hu).1.1
    have same:∀{x y:dD} {p q:Nat},x∈ts→y∈ts→x.2≤p→p<m→y.2≤q→q<m→h9 x.1 p=h9 y.1 q→p=q∧x.1=y.1:=by
     intro x y p q hx hy xp pm yq qm eq
     have lx:=(h.nn x hx).1.1
     have ly:=(h.nn y hy).1.1
     have ex:=fun t=>kP (v:=x.1) (p:=p) (by omega) t
     have ey:=fun t=>kP (v:=y.1) (p:=q) (by omega) t
     have pq:p=q:=by
      rcases Nat.lt_trichotomy p q with z|z|z
      ·have a1:=ex q
       rw[eq,ey q,if_pos rfl,if_neg (by omega),h.up x hx q (by omega)] at a1
       have:=mw (h.nn y hy).1 q
       omega
      ·exact z
      ·have a1:=ey p
       rw[←eq,ex p,if_pos rfl,if_neg (by omega),h.up y hy p (by omega)] at a1
       have:=mw (h.nn x hx).1 p
       omega
     refine⟨pq,wG (by omega) fun t=>?_⟩
     have a1:=ex t
     rw[eq,ey t,pq] at a1
     omega
    refine⟨?_,ih hr hn.2,?_⟩
    ·rw[List.map_map]
     rw[List.nodup_iff_pairwise_ne,List.pairwise_map]
     have hp:=List.pairwise_lt_range' (s:=u.2) (n:=m - u.2)
     refine(List.Pairwise.and_mem.mp hp).imp ?_
     rintro a b ⟨ha,hb,l7⟩ z
     rw[List.mem_range'_1] at ha hb
     have:=(same hu hu ha.1 (by omega) hb.1 (by omega) z).1
     omega
    ·rintro a ha b hb rfl
     obtain⟨⟨_,p⟩,hp,rfl⟩:=List.mem_map.mp ha
     obtain⟨p',rm,ep⟩:=List.mem_map.mp hp
     obtain⟨⟨v,q⟩,hq,ev⟩:=List.mem_map.mp hb
     rw[List.mem_range'_1] at rm
     obtain⟨y,hy,y1,y2,y3⟩:=gy.mp hq
     have e1:=congrArg Prod.fst ep
     have ev:v=_:=ev
     have y3:v=h9 y.1 q:=y3
     have:=(same hu (hr y hy) rm.1 (by omega) y1 y2 (e1.trans (ev.symm.trans y3))).2
     exact hn.1 (List.mem_map.mpr ⟨y,hy,this.symm⟩)
  exact key ts (fun u h=>h) h.nd
theorem rest_ok{lev:List Int→Bool}{m k:Nat}{ts:List dD}(h:jq m k (bg m ts)):jq m k (wF lev m ts):=by
 have sub:∀t∈wF lev m ts,t∈bg m ts:=fun t ht=>(List.mem_filter.mp ht).1
 exact⟨fun t ht=>h.nn t (sub t ht),fun t ht=>h.up t (sub t ht),fun t ht=>h.at_ t (sub t ht),((List.filter_sublist (l:=bg m ts)).map _).nodup h.nd⟩
theorem nG(lev:List Int→Bool)(m:Nat):∀k,jq m k (bz lev m k).2∧∀t∈(bz lev m k).2,t.2≤m
 |0=>⟨wI m,fun t h=>by
   have e:t=(List.replicate m 0,0):=by simpa [bz] using h
   rw[e]
   exact Nat.zero_le _⟩
 |k+1=>by
  obtain⟨h1,h2⟩:=nG lev m k
  refine⟨rest_ok (j7 h1 h2),fun t ht=>?_⟩
  obtain⟨u,_,_,h3,_⟩:=gy.mp (List.mem_filter.mp ht).1
  exact Nat.le_of_lt h3
theorem DP{lev:List Int→Bool}{m:Nat}:∀(k:Nat) (v:List Int),Nn m v→v.sum=((k+1 :Nat):Int)→(∀u,Nn m u→0<u.sum→lev u=true→Le u v→u=v)→∃p,(v,p)∈bg m (bz lev m k).2∧∀t,p<t→v.getD t 0=0:=by
 intro k
 induction k with
 |zero=>
  intro v hv hs _
  obtain⟨p,p1,p2,p3⟩:=nD v hv.2 (by omega)
  refine⟨p,gy.mpr ⟨(List.replicate m 0,0),by simp [bz],Nat.zero_le _,by rw[←hv.1];exact p1,?_⟩,p3⟩
  have l0:(List.replicate m (0 :Int)).length=m:=List.length_replicate
  refine(ie (u:=h9 (List.replicate m 0) p) (v:=v) (by rw[qw,l0,hv.1]) fun t=>?_).2 ?_ |>.symm
  ·rw[kP (by rw[l0,←hv.1];exact p1)]
   have e0:(List.replicate m (0 :Int)).getD t 0=0:=by
    rw[List.getD_eq_getElem?_getD,List.getElem?_replicate]
    split<;>rfl
   rw[e0]
   by_cases z:t=p
   ·rw[if_pos z,z]
    omega
   ·rw[if_neg z]
    exact mw hv t
  ·rw[wH (by rw[l0,←hv.1];exact p1),nE,hs]
   rfl
 |succ k ih=>
  intro v hv hs hP
  obtain⟨p,p1,p2,p3⟩:=nD v hv.2 (by omega)
  have lp:p<m:=by rw[←hv.1];exact p1
  let u:=v.set p (v.getD p 0 - 1)
  have lu:u.length=m:=by show (v.set p _).length=m;rw[List.length_set,hv.1]
  have ua:∀t,u.getD t 0=v.getD t 0 - if t=p then 1 else 0:=by
   intro t
   show (v.set p (v.getD p 0 - 1)).getD t 0=_
   rw[List.getD_eq_getElem?_getD,List.getElem?_set]
   by_cases z:p=t
   ·subst z
    rw[if_pos rfl,if_pos p1,if_pos rfl]
    rfl
   ·rw[if_neg z,if_neg (fun w=>z w.symm),List.getD_eq_getElem?_getD,Int.sub_zero]
  have un:Nn m u:=by
   refine⟨lu,fun x hx=>?_⟩
   obtain⟨t,ht,rfl⟩:=List.getElem_of_mem hx
   have e:=ua t
   rw[List.getD_eq_getElem?_getD,List.getElem?_eq_getElem ht] at e
   have:=mw hv t
   have e:u[t]=v.getD t 0 - if t=p then 1 else 0:=e
   rw[e]
   split
   ·rename_i z
    rw[z]
    omega
   ·omega
  have us:u.sum=((k+1 :Nat):Int):=by
   show (v.set p (v.getD p 0 - 1)).sum=_
   rw[sum_set v p _ p1]
   omega
  have ule:Le u v:=fun t=>by
   rw[ua t]
   split<;>omega
  have Qr:u≠v:=fun z=>by rw[z] at us;omega
  have ul:¬lev u=true:=fun z=>Qr (hP u un (by omega) z ule)
  obtain⟨q,hq,q3⟩:=ih u un us fun w wn ws wl wu=>by
   exfalso
   have:=hP w wn ws wl fun t=>Int.le_trans (wu t) (ule t)
   have h1:=(ie (by rw[wn.1,lu]) wu).1
   rw[this] at h1
   omega
  have ek:v=h9 u p:=wG (by rw[qw,lu,hv.1]) fun t=>by
   rw[kP (by rw[lu];exact lp),ua t]
   omega
  refine⟨p,gy.mpr ⟨(u,q),List.mem_filter.mpr ⟨hq,by simpa using ul⟩,?_,lp,ek⟩,p3⟩
  show q≤p
  obtain⟨h1,h2⟩:=nG lev m k
  have SY:=(j7 h1 h2).at_ (u,q) hq (by omega)
  have SY:0<u.getD q 0:=SY
  rcases Nat.lt_or_ge p q with z|z
  ·have:=ua q
   rw[p3 q z,if_neg (by omega)] at this
   omega
  ·exact z
theorem gY{lev:List Int→Bool}{m:Nat}:∀(k:Nat) (v:List Int),Nn m v→0<v.sum→v.sum≤k→lev v=true→∃u,SX lev m u∧Le u v:=by
 intro k
 induction k with
 |zero=>intro v _ h1 h2 _;omega
 |succ k ih=>
  intro v hv h1 h2 hl
  by_cases z:∀u,Nn m u→0<u.sum→lev u=true→Le u v→u=v
  ·exact⟨v,⟨hv,h1,hl,z⟩,fun t=>Int.le_refl _⟩
  ·simp only [Classical.not_forall] at z
   obtain⟨u,un,us,ul,ule,Qr⟩:=z
   have h3:=ie (by rw[un.1,hv.1]) ule
   have:u.sum≠v.sum:=fun e=>Qr (h3.2 e)
   obtain⟨w,hw,Om⟩:=ih u un us (by omega) ul
   exact⟨w,hw,fun t=>Int.le_trans (Om t) (ule t)⟩
theorem fg(lev:List Int→Bool)(m:Nat):∀k,(∀v,v∈(bz lev m k).1↔SX lev m v∧v.sum≤k)∧(bz lev m k).1.Nodup
 |0=>⟨fun v=>⟨fun h=>by simp [bz] at h,fun⟨h,h2⟩=>by have:=h.2.1;omega⟩,by simp [bz]⟩
 |k+1=>by
  obtain⟨ih,nd⟩:=fg lev m k
  obtain⟨t1,t2⟩:=nG lev m k
  have gk:=j7 t1 t2
  have mem:∀v,v∈(bz lev m (k+1)).1↔v∈(bz lev m k).1∨((∃p,(v,p)∈bg m (bz lev m k).2)∧lev v=true∧∀u∈(bz lev m k).1,¬gw u v=true):=by
   intro v
   show v∈kO lev m _ _↔_
   unfold kO
   rw[List.mem_append,List.mem_filter,List.mem_map]
   constructor
   ·rintro (h| ⟨⟨t,ht,rfl⟩,h2⟩)
    ·exact .inl h
    ·obtain⟨h3,h4⟩:=List.mem_filter.mp ht
     refine .inr ⟨⟨t.2,h3⟩,h4,fun u hu z=>?_⟩
     have:((bz lev m k).1.any fun u=>gw u t.1)=true:=List.any_eq_true.mpr ⟨u,hu,z⟩
     rw[this] at h2
     cases h2
   ·rintro (h| ⟨⟨p,hp⟩,hl,hn⟩)
    ·exact .inl h
    ·refine .inr ⟨⟨(v,p),List.mem_filter.mpr ⟨hp,hl⟩,rfl⟩,?_⟩
     have:((bz lev m k).1.any fun u=>gw u v)=false:=by
      rw[List.any_eq_false]
      exact fun u hu=>hn u hu
     rw[this]
     rfl
  refine⟨fun v=>?_,?_⟩
  ·rw[mem v,ih v]
   constructor
   ·rintro (⟨h1,h2⟩ | ⟨⟨p,hp⟩,hl,hn⟩)
    ·exact⟨h1,by omega⟩
    ·obtain⟨n1,n2⟩:=gk.nn (v,p) hp
     have n1:Nn m v:=n1
     have n2:v.sum=((k+1 :Nat):Int):=n2
     refine⟨⟨n1,by omega,hl,fun u un us ul ule=>?_⟩,by omega⟩
     have h3:=ie (by rw[un.1,n1.1]) ule
     by_cases e:u.sum=v.sum
     ·exact h3.2 e
     ·exfalso
      obtain⟨w,hw,Om⟩:=gY (lev:=lev) (m:=m) (k+1) u un us (by omega) ul
      have h4:=(ie (by rw[hw.1.1,un.1]) Om).1
      exact hn w ((ih w).mpr ⟨hw,by omega⟩) ((kQ (by rw[hw.1.1,n1.1])).mpr fun t=>Int.le_trans (Om t) (ule t))
   ·rintro ⟨h1,h2⟩
    by_cases e:v.sum≤k
    ·exact .inl ⟨h1,e⟩
    ·obtain⟨p,hp,_⟩:=DP (lev:=lev) k v h1.1 (by omega) h1.2.2.2
     refine .inr ⟨⟨p,hp⟩,h1.2.2.1,fun u hu z=>?_⟩
     obtain⟨hu,us⟩:=(ih u).mp hu
     have:=h1.2.2.2 u hu.1 hu.2.1 hu.2.2.1 ((kQ (by rw[hu.1.1,h1.1.1])).mp z)
     rw[this] at us
     exact e us
  ·show (kO lev m _ _).Nodup
   unfold kO
   rw[List.nodup_append]
   refine⟨nd,?_,?_⟩
   ·exact(List.filter_sublist.trans (List.filter_sublist.map _)).nodup gk.nd
   ·rintro a ha b hb rfl
    have h1:=(ih a).mp ha
    obtain⟨t,ht,rfl⟩:=List.mem_map.mp (List.mem_filter.mp hb).1
    have:=(gk.nn t (List.mem_filter.mp ht).1).2
    omega
def nH:Scope:=match (aC aQ).getD 0 (.Pass ⟨0,0,0,0⟩) with
 | .Assign _ (.ListComp _ _ sc _) _=>sc
 |_=>ag aQ
def lL:Scope:=match (aC aQ).getD 2 (.Pass ⟨0,0,0,0⟩) with
 | .Return (some (.ListComp _ _ sc _)) _=>sc
 |_=>ag aQ
def yV:Scope:=match (aC cN).getD 3 (.Pass ⟨0,0,0,0⟩) with
 | .For _ _ b _ _=>match b.getD 3 (.Pass ⟨0,0,0,0⟩) with
   | .Assign _ (.BinOp _ _ (.ListComp _ _ sc _) _) _=>sc
   |_=>ag cN
 |_=>ag cN
def cj(cs:List (List Int))(n:Nat):List (List Int):=(List.range n).map (row cs)
def aM(cs:List (List Int))(n:Nat):List Nat:=(cJ (cj cs n).length (cj cs n)).st.places
def dE(cs:List (List Int))(n:Nat):List (List Int):=cs.map fun c=>(aM cs n).map fun r=>c.getD r 0
def wJ:Sp:=fun vs H Q _=>∃(p:Addr) (as:List Addr) (cs:List (List Int)) (n:Nat),vs=[.ref p]∧H p=some (.lst (as.map V.ref))∧aE [] H as cs∧(∀c∈cs,c.length=n∧∀x∈c,cG 70 x)∧n≤60∧1≤cs.length∧cs.length≤60∧
 ∀l qx H',ak H H'→H' l=some (.lst (qx.map V.ref))→aE [] H' qx (dE cs n)→Q (.ref l) H'
structure Ii(fs:List (Str×V))(a b:Addr)(i:Int):Prop where
 n:fs.lookup ("numbers" :Str)=some (.ref a)
 g:fs.lookup ("gathered" :Str)=some (.ref b)
 f:fs.lookup ("first" :Str)=some (.int i)
 no:∀s:Str,s≠"numbers" →s≠"gathered" →s≠"first" →fs.lookup s=none
theorem Ii.Vf(a b:Addr)(i:Int):Ii (az "first" (.int i) (az "gathered" (.ref b) (az "numbers" (.ref a) []))) a b i where
 n:=by rw[aq,if_neg (by decide+kernel),aq,if_neg (by decide+kernel),aq,if_pos rfl]
 g:=by rw[aq,if_neg (by decide+kernel),aq,if_pos rfl]
 f:=by rw[aq,if_pos rfl]
 no:=fun s h1 h2 h3=>by rw[aq,if_neg h3,aq,if_neg h2,aq,if_neg h1];rfl
def eX(TC:Addr)(bx:List (List Int))(wd:Nat)(W:List Addr)(H0 H:Hp)(t:Addr)(x:dD):Prop:=∃dx fs a b,H t=some (.ins TC dx fs)∧Ii fs a b ((x.2 :Nat):Int)∧H a=some (.lst (x.1.map V.int))∧H b=some (.lst ((d6 x.1 bx wd).map V.int))∧(t∉W∧a∉W∧b∉W)∧(H0 t=none∧H0 a=none∧H0 b=none)
def Oo:Hp:=fun _=>none
theorem eX.keep{TC:Addr}{bx:List (List Int)}{wd:Nat}{W:List Addr}{H0 H H':Hp}{t:Addr}{x:dD}(h:eX TC bx wd W H0 H t x)(e:∀b o,H b=some o→b∉W→H' b=some o):eX TC bx wd W H0 H' t x:=by
 obtain⟨dx,fs,a,b,h1,h2,h3,h4,⟨w1,w2,w3⟩,n⟩:=h
 exact⟨dx,fs,a,b,e _ _ h1 w1,h2,e _ _ h3 w2,e _ _ h4 w3,⟨w1,w2,w3⟩,n⟩
theorem eX.same{TC:Addr}{bx:List (List Int)}{wd:Nat}{W:List Addr}{H0 H H':Hp}{t:Addr}{x:dD}(h:eX TC bx wd W H0 H t x)(e:ak H H'):eX TC bx wd W H0 H' t x:=h.keep fun b o z _=>e b o z
theorem eX.cast{TC:Addr}{bx:List (List Int)}{wd:Nat}{W W':List Addr}{H0 S1 H:Hp}{t:Addr}{x:dD}(h:eX TC bx wd W H0 H t x)(e:∀b,b∉W→H0 b=none→(∃o,H b=some o)→b∉W'∧S1 b=none):eX TC bx wd W' S1 H t x:=by
 obtain⟨dx,fs,a,b,h1,h2,h3,h4,⟨w1,w2,w3⟩,n1,n2,n3⟩:=h
 have e1:=e t w1 n1 ⟨_,h1⟩
 have e2:=e a w2 n2 ⟨_,h3⟩
 have e3:=e b w3 n3 ⟨_,h4⟩
 exact⟨dx,fs,a,b,h1,h2,h3,h4,⟨e1.1,e2.1,e3.1⟩,e1.2,e2.2,e3.2⟩
def mx(TC:Addr)(bx:List (List Int))(wd:Nat)(W:List Addr)(H0 H:Hp):List Addr→List dD→Prop:=Paired (eX TC bx wd W H0 H)
theorem bE{α β:Type}{p q:α→β→Prop}(h:∀a b,p a b→q a b):∀{as:List α} {bs:List β},Paired p as bs→Paired q as bs
 |_,_, .nil=> .nil
 |_,_, .cons x t=> .cons (h _ _ x) (bE h t)
theorem gL{α β:Type}{p:α→β→Prop}{a:α}{b:β}(x:p a b):∀{as:List α} {bs:List β},Paired p as bs→Paired p (as++[a]) (bs++[b])
 |_,_, .nil=> .cons x .nil
 |_,_, .cons y t=> .cons y (gL x t)
theorem iO{α β:Type}{p:α→β→Prop}:∀{as:List α} {bs:List β} {qx:List α} {xV:List β},Paired p as bs→Paired p qx xV→Paired p (as++qx) (bs++xV)
 |_,_,_,_, .nil,h=>h
 |_,_,_,_, .cons y t,h=> .cons y (iO t h)
theorem fh{α β:Type}{p:α→β→Prop}:∀{as:List α} {bs:List β} {i:Nat} {a:α},Paired p as bs→as[i]? =some a→∃b,bs[i]? =some b∧p a b
 |_,_,0,_, .cons h _,e=>⟨_,rfl,(Option.some.inj e)▸h⟩
 |_,_,i+1,_, .cons _ t,e=>fh (i:=i) t e
def nI(TC:Addr):Sp:=fun vs H Q _=>∃(q dx a1 a2:Addr) (x1 x2:List V) (i:Int),vs=[.ref q, .ref a1, .ref a2, .int i]∧H q=some (.ins TC dx [])∧H a1=some (.lst x1)∧H a2=some (.lst x2)∧
 ∀b1 b2 fs H',H b1=none→H b2=none→H' q=some (.ins TC dx fs)→Ii fs b1 b2 i→H' b1=some (.lst x1)→H' b2=some (.lst x2)→(∀b o,H b=some o→b≠q→H' b=some o)→Q .dG H'
def pe(TC:Addr):Sp:=fun vs H Q _=>∃(t c:Addr) (p:Nat) (col:List Int) (bx:List (List Int)) (wd:Nat) (x:dD),vs=[.ref t, .int p, .ref c]∧eX TC bx wd [] Oo H t x∧H c=some (.lst (col.map V.int))∧bx[p]? =some col∧col.length=wd∧x.1.length=bx.length∧bx.length≤60∧wd≤60∧
 ∀t' H',eX TC bx wd [] H H' t' (h9 x.1 p,p)→ak H H'→Q (.ref t') H'
def jE(TC:Addr):Sp:=fun vs H Q _=>∃(t l:Addr) (cA:List Addr) (bx:List (List Int)) (wd:Nat) (x:dD),vs=[.ref t, .ref l]∧eX TC bx wd [] Oo H t x∧H l=some (.lst (cA.map V.ref))∧aE [] H cA bx∧(∀c∈bx,c.length=wd)∧x.1.length=bx.length∧x.2≤bx.length∧bx.length≤60∧wd≤60∧
 ∀L ts H',H L=none→H' L=some (.lst (ts.map V.ref))→mx TC bx wd [] H H' ts ((List.range' x.2 (bx.length - x.2)).map fun p=>(h9 x.1 p,p))→ak H H'→Q (.ref L) H'
def gz(bx:List (List Int))(wd:Nat)(v:List Int):Bool:=!((d6 v bx wd).any fun n=>decide (n≠0))
def my(TC:Addr):Sp:=fun vs H Q _=>∃(t:Addr) (bx:List (List Int)) (wd:Nat) (x:dD),vs=[.ref t]∧eX TC bx wd [] Oo H t x∧Q (.bl (gz bx wd x.1)) H
def nJ:Sp:=fun vs H Q _=>∃(p r:Addr) (xs ys:List Int),vs=[.ref p, .ref r]∧H p=some (.lst (xs.map V.int))∧H r=some (.lst (ys.map V.int))∧xs.length≤1000∧∀H',ak H H'→Q (.bl (gw xs ys)) H'
def rY:Sp:=fun vs H Q _=>∃(p:Addr) (as:List Addr) (cs:List (List Int)) (n most:Nat),vs=[.ref p, .int most]∧H p=some (.lst (as.map V.ref))∧aE [] H as cs∧(∀c∈cs,c.length=n∧∀x∈c,cG 70 x)∧n≤60∧1≤cs.length∧cs.length≤60∧most≤60∧
 (∀k,k<most→(bg cs.length (bz (gz (dE cs n) (aM cs n).length) cs.length k).2).length≤7000)∧(∀k,k≤most→(bz (gz (dE cs n) (aM cs n).length) cs.length k).1.length≤70000)∧
 ∀l qx xV H',H l=none→ak H H'→xV.Perm (bz (gz (dE cs n) (aM cs n).length) cs.length most).1→xV.Pairwise (fun a b=>¬b<a)→H' l=some (.lst (qx.map V.ref))→aE [] H' qx xV→(∀b∈qx,H b=none)→Q (.ref l) H'
structure Txt(K:PySem.W.Frag)(mg:Str→Option Value)(KC FC:Addr):Prop where
 dc:sR K KC
 aN:sR K FC
 yW:cm K KC "free"
 pf:cm K KC "bound"
 qy:cm K KC "numbers"
 ph:cm K KC "weights"
 fi:cm K FC "scale"
 gM:cm K FC "places"
 iP:cm K FC "bases"
 cP:cm K FC "weights"
 wK:mg "Kernel" =some (.ref KC)
 yX:mg "Frame" =some (.ref FC)
 Ij:mg "abs" =none
 n_list:mg "list" =none
 fK:mg "len" =none
 ck:mg "range" =none
 jF:mg "sum" =none
 fM:mg "zip" =none
 pj:mg "enumerate" =none
 S2:mg "min" =none
 kR:mg "sorted" =none
 Ik:mg "int" =none
 DQ:mg "bool" =none
 dX:mg "isinstance" =none
 Bs:mg "all" =none
 k1:PySem.W.kitOne K (.type "int") (.type "int")=some true
 k2:PySem.W.kitOne K (.type "int") (.type "bool")=some false
 k3:PySem.W.kitOne K (.type "list") (.type "list")=some true
structure ig(K:PySem.W.Frag)(mg:Str→Option Value)(KC FC TC:Addr):Prop extends Txt K mg KC FC where
 bh:sR K TC
 wL:cm K TC "numbers"
 wM:cm K TC "gathered"
 Bt:cm K TC "first"
 rZ:mg "Trial" =some (.ref TC)
 wN:mg "any" =none
def mu(i:Nat):St→Hp→Nat:=fun σ _=>match σ[i]? with
 |some (some (.int y))=>y.natAbs
 |_=>0
theorem S3{y:Int}(e:(!decide (V.int y=V.int 0))=true):y≠0:=by
 intro z;subst z;simp at e
theorem S4{y:Int}(e:¬(!decide (V.int y=V.int 0))=true):y=0:=by
 simpa using e
theorem yY(a:Int):(if a<0 then -a else a)=((Int.gcd a 0 :Nat):Int):=by
 rw[Int.gcd_zero];split<;>omega
section
seal nV PS PE PT PW PA PG F2 PI PC vh
variable {P:Program}{w:World}{K:PySem.W.Frag}{mg:Str→Option Value}{base:Heap}{KC FC TC C:Addr}
theorem gN:aI ["one","other","rest"] ["one","other"] (ag dA):=iz
theorem qz(D:Def K mg "divisor" "divisor" dA ["one","other"])(T:Txt K mg KC FC):cC P w K mg base 1 "divisor" ["one","other"] mq:=by
 refine D.il gN (fun vs H Q E h=>?_) (fun f b6 A outer s H vs Q E hr h=>?_)
 ·obtain⟨a,b,rfl,_⟩:=h
  rfl
 ·obtain⟨a,b,rfl,q⟩:=h
  refine⟨_,(ah
     (uM PassesOwn.never (cL qY (pv 1) ax (cz _))
      (ah
       (aF (i:=2) gN.nd rfl (Or.inl rfl) (aH yg (pv 0) (pv 1)))
      (ah
       (aF (i:=0) gN.nd rfl (Or.inl rfl) (pv 1))
      (aw
       (aF (i:=1) gN.nd rfl (Or.inl rfl) (pv 2))))))
    (aw
     (aU (aL uU rfl T.Ij C' (aa (pv 0) ai))))),?_⟩
  refine uO (fun σ H'=>∃(x y:Int) (v:Option V),σ=[some (.int x),some (.int y),v]∧H'=H∧Int.gcd x y=Int.gcd a b) (mu 1) ⟨a,b,none,rfl,rfl,rfl⟩ ?_
   (fun σ H Q Q' m ⟨v,e,s,k,e2,q⟩=>⟨v,e,s,k,e2,m _ _ q⟩)
  rintro σ H' ⟨x,y,v,rfl,rfl,hg⟩
  refine⟨_,rfl,rfl,_,rfl,g5 (fun e=>?_) fun e=>?_⟩
  ·have hy:=S3 e
   exact⟨_,rfl,_,rfl,_,_,rfl,rfl,hy,_,rfl,_,rfl,⟨y,x.fmod y,_,rfl,rfl,by rw[wk];exact hg⟩,oZ hy⟩
  ·have hy:=S4 e
   subst hy
   refine⟨_,rfl,_,rfl,?_⟩
   rw[yY,hg]
   exact q
theorem iQ:aI ["numbers","common","number"] ["numbers"] (ag dQ):=iz
theorem tZ(D:Def K mg "lowest" "lowest" dQ ["numbers"])(T:Txt K mg KC FC)(c1:cC P w K mg base 1 "divisor" ["one","other"] mq):cC P w K mg base 2 "lowest" ["numbers"] (o7 K):=by
 obtain⟨_,_,gO⟩:=c1
 refine D.il iQ (fun vs H Q E h=>?_) (fun f b6 A outer s H vs Q E hr h=>?_)
 ·obtain⟨p,ns,rfl,_⟩:=h
  rfl
 ·obtain⟨p,ns,rfl,hS,hz,hb,q⟩:=h
  refine⟨_,(ah
     (aF (i:=1) iQ.nd rfl (Or.inr rfl) ax)
    (ah
     (b5 PassesOwn.never rfl (a9 (pv 0)) (av (i:=2) iQ.nd rfl (Or.inl rfl))
      (aw
       (aF (i:=1) iQ.nd rfl (Or.inr rfl) (aX gO.ok (hr.mono (by decide)) rfl gO.g gO.kp gO.b .nil a8 (aa (pv 1) (aa (pv 2) ai))))))
    (ah
     (eg (cL uS (pv 1) ax (cz _))
      (aw
       (aU (cq br rfl T.n_list cX (aa (pv 0) ai))))
      cp)
    (aw
     (aU (ba (sc:=(ag dQ)) (NX:=["numbers","common","number"]) (N:=["number","common"]) (fr:=[none,some 1]) ⟨by rfl,by rfl,by decide+kernel,by decide+kernel,by decide+kernel,by rfl,by decide+kernel⟩ rfl rfl rfl (a9 (pv 0)) (fun _ _ _ _=>(av (i:=0) (show (["number","common"]:List Str).Nodup by decide+kernel) rfl (Or.inl rfl) (Or.inr rfl))) (fun _ _ _ _=>aS) (fun _ _ _ _=>(aH oG (pv 0) (pv 1))))))))),?_⟩
  refine⟨_,rfl,p,rfl,⟨_,hS⟩,dY (xs:=ns.map V.int) (fun i σ H'=>∃v:Option V,σ=[some (.ref p),some (.int (bW (ns.take i))),v]∧H'=H) ⟨none,rfl,rfl⟩ ?_ ?_ ?_⟩
  ·rintro i σ H' _ ⟨v,rfl,rfl⟩
   exact hS
  ·rintro i x σ H' hx ⟨v,rfl,rfl⟩
   obtain⟨z,gG,rfl⟩:=int_at hx
   refine⟨_,rfl,_,rfl,_,z,rfl,some (.int z),?_,rfl⟩
   rw[ay gG,tT]
   rfl
  ·rintro σ H' ⟨v,rfl,rfl⟩
   rw[List.length_map,List.take_length]
   refine⟨_,rfl,rfl,_,rfl,g5 (fun e=>?_) fun e=>?_⟩
   ·have e:bW ns=0:=by simpa using e
    refine⟨_,rfl,p,_,rfl, .inl hS,fun l hl=>q l _ hl (ak.new hl) ?_⟩
    unfold low
    rw[if_pos e]
    exact ae
   ·have e:¬bW ns=0:=by simpa using e
    have hg:cG 9000 (bW ns):=by
     have:=yQ (B:=2^8000) (fun n hn=>Nat.le_of_lt (hb n hn))
     exact Nat.lt_of_le_of_lt this (Nat.pow_lt_pow_right (by decide) (by decide))
    refine⟨_,rfl,p,rfl,⟨_,hS⟩,fun L hL=>cH (K:=K) (a:=p) (L:=L) (xs:=ns.map V.int) H' (fun σ=>∃v:Option V,σ=[v,some (.int (bW ns))]) (fun i ys=>ys=(ns.take i).map fun n=>V.int (n.fdiv (bW ns)))
     hS hL ⟨none,rfl⟩ (ak.new hL) ae rfl (by rw[List.length_map];exact hz) ?_ ?_ ?_⟩
    ·rintro i ys rfl
     rw[List.length_map,List.length_take];omega
    ·rintro i x σ H2 ys hx ⟨v,rfl⟩ hs de rfl N M hN
     obtain⟨z,gG,rfl⟩:=int_at hx
     refine⟨_,rfl,_,rfl,_,_,rfl,rfl,⟨e,hg⟩,hN _ _ _ ⟨_,rfl⟩ hs de ?_⟩
     rw[ay gG,List.map_append]
     rfl
    ·rintro H2 ys hs de rfl
     refine q L H2 hL hs ?_
     rw[de,List.length_map,List.take_length]
     unfold low
     rw[if_neg e,List.map_map]
     rfl
theorem yZ:aI ["weights","column"] ["weights","column"] (ag fu):=iz
theorem wO(D:Def K mg "weigh" "weigh" fu ["weights","column"])(T:Txt K mg KC FC):cC P w K mg base 1 "weigh" ["weights","column"] (nr K):=by
 refine D.il yZ (fun vs H Q E h=>?_) (fun f b6 A outer s H vs Q E hr h=>?_)
 ·obtain⟨p,r,ws,cs,rfl,_⟩:=h
  rfl
 ·obtain⟨p,r,ws,cs,rfl,hp,pN,hz,fw,fc,q⟩:=h
  refine⟨_,(aw
     (aU (aL (fZ rfl) rfl T.jF je (aa (ba (sc:=(ag fu)) (NX:=["weights","column"]) (N:=["weight","number"]) (fr:=[none,none]) ⟨by rfl,by rfl,by decide+kernel,by decide+kernel,by decide+kernel,by rfl,by decide+kernel⟩ rfl rfl rfl (dJ rfl T.fM (aa (pv 0) (aa (pv 1) ai))) (fun _ _ _ _=>(cY K 2 rfl rfl (aK (av (i:=0) (show (["weight","number"]:List Str).Nodup by decide+kernel) rfl (Or.inl rfl) (Or.inr rfl)) (aK (av (i:=1) (show (["weight","number"]:List Str).Nodup by decide+kernel) rfl (Or.inl rfl) (Or.inr rfl)) bX)))) (fun _ _ _ _=>aS) (fun _ _ _ _=>(aH gF (pv 0) (pv 1)))) ai)))),?_⟩
  refine⟨_,rfl,_,rfl,p,r,rfl,⟨_,hp⟩,⟨_,pN⟩,fun L hL=>cZ (K:=K) (a:=p) (c:=r) (L:=L) (xs:=ws.map V.int) (zs:=cs.map V.int) H (fun σ=>∃v u:Option V,σ=[v,u]) (fun i ys=>ys=(List.zipWith (·*·) ws cs |>.take i).map V.int)
   hp pN hL ⟨none,none,rfl⟩ (ak.new hL) ae rfl (by rw[List.length_map];omega) ?_ ?_ ?_⟩
  ·rintro i ys rfl
   rw[List.length_map,List.length_take];omega
  ·rintro i x z t σ H2 ys hx gG ht ⟨v,u,rfl⟩ hs de rfl N M hN
   obtain⟨x,jG,rfl⟩:=int_at hx
   obtain⟨z,Il,rfl⟩:=int_at gG
   have j8:(List.zipWith (·*·) ws cs)[i]? =some (x*z):=by rw[List.getElem?_zipWith,jG,Il]
   refine⟨t,_,rfl,kd.of ae,rfl,_,_,rfl,_,_,rfl,rfl,_,rfl,_,rfl,_,_,rfl,rfl, .inr ⟨60000000,60000000,fw x (List.mem_of_getElem? jG),fc z (List.mem_of_getElem? Il),by decide⟩,hN _ _ _ ⟨_,_,rfl⟩ (hs.trans (ak.new ht)) ?_ ?_⟩
   ·rw[ao (af de ht)];exact de
   ·rw[ay j8,List.map_append];rfl
  ·rintro H2 ys hs de rfl
   refine⟨L,List.zipWith (·*·) ws cs,rfl,aD.of ?_,?_⟩
   ·rw[de,List.take_of_length_le (by rw[List.length_zipWith,List.length_map,List.length_map];exact Nat.le_refl _)]
   ·rw[m7]
    exact q _ hs
theorem y4:aI ["self"] ["self"] (ag hE):=iz
theorem wQ(D:oE K FC "Frame.__init__" hE ["self"] [])(T:Txt K mg KC FC):jw P w K mg base 1 FC ["self"] [] (rS FC):=by
 refine D.il y4 (fun vs H Q E h=>?_) (fun f b6 A outer s H vs Q E hr h=>?_)
 ·obtain⟨q,dx,rfl,_⟩:=h
  rfl
 ·obtain⟨q,dx,rfl,hq,k⟩:=h
  refine⟨_,(ah
     (dj (pv 0) ax rfl)
    (ah
     (dj (pv 0) (bq ai) rfl)
    (ah
     (dj (pv 0) (bq ai) rfl)
    (aw
     (dj (pv 0) (bq ai) rfl))))),?_⟩
  refine⟨_,rfl,q,FC,dx,[],rfl,hq,T.aN,T.fi,(by show 0<1000;decide),?_⟩
  have h1:(upd H q (.ins FC dx (az "scale" (.int 1) []))) q=some (.ins FC dx (az "scale" (.int 1) [])):=ae
  have e1:cE q H (upd H q (.ins FC dx (az "scale" (.int 1) []))):=cE.upd
  generalize upd H q (.ins FC dx (az "scale" (.int 1) []))=H1 at*
  have len:∀(f:Str) (v:V) (fs:List (Str×V)) (n:Nat),fs.length≤n→(az f v fs).length≤n+1:=fun f v fs n h=>Nat.le_trans (bL f v fs) (by omega)
  refine⟨(by show 0≤sizeLine;omega),fun aP Oq=>⟨_,rfl,q,FC,dx,_,rfl,by rw[ao (af h1 Oq)];exact h1,T.aN,T.gM,by have:=len "scale" (.int 1) [] 0 (by simp);omega,?_⟩⟩
  have nP:aP≠q:=Ne.symm (af h1 Oq)
  have h2:(upd (upd H1 aP (.lst [])) q (.ins FC dx (az "places" (.ref aP) (az "scale" (.int 1) [])))) q=some (.ins FC dx (az "places" (.ref aP) (az "scale" (.int 1) []))):=ae
  have p2:(upd (upd H1 aP (.lst [])) q (.ins FC dx (az "places" (.ref aP) (az "scale" (.int 1) [])))) aP=some (.lst []):=by rw[ao nP];exact ae
  have e2:cE q H1 (upd (upd H1 aP (.lst [])) q (.ins FC dx (az "places" (.ref aP) (az "scale" (.int 1) [])))):=(cE.of (ak.new Oq)).trans cE.upd
  generalize upd (upd H1 aP (.lst [])) q (.ins FC dx (az "places" (.ref aP) (az "scale" (.int 1) [])))=H2 at*
  refine⟨(by show 0≤sizeLine;omega),fun aB Im=>⟨_,rfl,q,FC,dx,_,rfl,by rw[ao (af h2 Im)];exact h2,T.aN,T.iP,by have:=len "places" (.ref aP) _ 1 (len "scale" (.int 1) [] 0 (by simp));omega,?_⟩⟩
  have nB:aB≠q:=Ne.symm (af h2 Im)
  have Gi:aP≠aB:=af p2 Im
  have h3:(upd (upd H2 aB (.lst [])) q (.ins FC dx (az "bases" (.ref aB) (az "places" (.ref aP) (az "scale" (.int 1) []))))) q=some (.ins FC dx (az "bases" (.ref aB) (az "places" (.ref aP) (az "scale" (.int 1) [])))):=ae
  have p3:(upd (upd H2 aB (.lst [])) q (.ins FC dx (az "bases" (.ref aB) (az "places" (.ref aP) (az "scale" (.int 1) []))))) aP=some (.lst []):=by rw[ao nP,ao Gi];exact p2
  have b3:(upd (upd H2 aB (.lst [])) q (.ins FC dx (az "bases" (.ref aB) (az "places" (.ref aP) (az "scale" (.int 1) []))))) aB=some (.lst []):=by rw[ao nB];exact ae
  have e3:cE q H2 (upd (upd H2 aB (.lst [])) q (.ins FC dx (az "bases" (.ref aB) (az "places" (.ref aP) (az "scale" (.int 1) []))))):=(cE.of (ak.new Im)).trans cE.upd
  generalize upd (upd H2 aB (.lst [])) q (.ins FC dx (az "bases" (.ref aB) (az "places" (.ref aP) (az "scale" (.int 1) []))))=H3 at*
  refine⟨(by show 0≤sizeLine;omega),fun aW Io=>⟨_,rfl,q,FC,dx,_,rfl,by rw[ao (af h3 Io)];exact h3,T.aN,T.cP,by have:=len "bases" (.ref aB) _ 2 (len "places" (.ref aP) _ 1 (len "scale" (.int 1) [] 0 (by simp)));omega,?_⟩⟩
  have nW:aW≠q:=Ne.symm (af h3 Io)
  have S5:aP≠aW:=af p3 Io
  have S6:aB≠aW:=af b3 Io
  have eA:cE q H H2:=e1.trans e2
  have back:∀{b:Addr},b≠q→H1 b=none→H b=none:=fun {b} n h=>by
   cases e:H b with
   |none=>rfl
   |some o=>rw[e1 b o e n] at h;cases h
  have Ip:∀{b:Addr},b≠q→H2 b=none→H b=none:=fun {b} n h=>by
   cases e:H b with
   |none=>rfl
   |some o=>rw[eA b o e n] at h;cases h
  refine k aP aB aW _ (back nP Oq) (Ip nB Im) ⟨⟨_,ae,FF.Qn 1 aP aB aW⟩,?_,⟨[],?_, .nil⟩,⟨[],?_, .nil⟩,⟨Gi,Ne.symm S5,Ne.symm S6,by simp,by simp,by simp,by simp⟩,fun b hb=>by cases hb⟩ fun b o h n=>?_
  ·rw[ao nP,ao S5];exact p3
  ·rw[ao nB,ao S6];exact b3
  ·rw[ao nW];exact ae
  ·rw[ao n,ao (af (e3 b o (eA b o h n) n) Io)];exact e3 b o (eA b o h n) n
theorem wR:aI ["self","column"] ["self","column"] (ag dR):=iz
theorem t4(D:ed K FC "shares" "Frame.shares" dR ["self","column"])(T:Txt K mg KC FC)(c1:cC P w K mg base 1 "weigh" ["weights","column"] (nr K)):cF P w K mg base 2 FC "shares" ["self","column"] (o8 FC):=by
 obtain⟨_,_,cy⟩:=c1
 refine D.il wR (fun vs H Q E h=>?_) (fun f b6 A outer s H vs Q E hr h=>?_)
 ·obtain⟨X,q,dx,aP,aB,aW,cA,st,n,c,rfl,_⟩:=h
  rfl
 ·obtain⟨X,q,dx,aP,aB,aW,cA,st,n,c,rfl,FA,S,hc,k⟩:=h
  obtain⟨fs,hq,ff⟩:=FA.obj
  obtain⟨wA,hW,cW⟩:=FA.hW
  have big:(1001 :Nat)≤sizeLine:=by decide
  have lw:=cW.length
  have l1:=yU S
  have l2:=S.many
  refine⟨_,(aw
     (aU (ba (sc:=(ag dR)) (NX:=["self","column"]) (N:=["weights","column"]) (fr:=[none,some 1]) ⟨by rfl,by rfl,by decide+kernel,by decide+kernel,by decide+kernel,by rfl,by decide+kernel⟩ rfl rfl rfl (a9 (bR (pv 0) rfl)) (fun _ _ _ _=>(av (i:=0) (show (["weights","column"]:List Str).Nodup by decide+kernel) rfl (Or.inl rfl) (Or.inr rfl))) (fun _ _ _ _=>aS) (fun _ _ _ _=>(aX cy.ok (hr.mono (by decide)) rfl cy.g cy.kp cy.b .nil a8 (aa (pv 0) (aa (pv 1) ai))))))),?_⟩
  refine⟨_,rfl,q,FC,dx,fs,_,rfl,hq,T.aN,T.cP,ff.w,aW,rfl,⟨_,aD.of hW⟩,fun L hL=>cH (K:=K) (a:=aW) (L:=L) (xs:=wA.map V.ref) H (fun σ=>∃v:Option V,σ=[v,some (.ref cA)]) (fun i ys=>ys=(st.aA.take i).map fun w=>V.int (dot w c))
   (aD.of hW) hL ⟨none,rfl⟩ (ak.new hL) ae rfl (by rw[List.length_map];omega) ?_ ?_ ?_⟩
  ·rintro i ys rfl
   rw[List.length_map,List.length_take];omega
  ·rintro i x σ H2 ys hx ⟨v,rfl⟩ hs de rfl N M hN
   obtain⟨a,ha,rfl⟩:=bH hx
   obtain⟨v,hv,Vg,_⟩:=cW.get ha
   have S7:=List.mem_of_getElem? hv
   refine⟨_,rfl,_,rfl,a,cA,v,c,rfl,aD.of (hs _ _ Vg),aD.of (hs _ _ hc.at'),by rw[S.F.lw v S7];have:=S.n;omega,cG.bx (by decide) (S.w v S7),cG.bx (by decide) hc.fit,fun H3 e3=>hN _ _ _ ⟨_,rfl⟩ (hs.trans e3) (e3 _ _ de) ?_⟩
   rw[ay hv,List.map_append]
   rfl
  ·rintro H2 ys hs de rfl
   refine k L H2 hL hs ?_
   rw[de,List.length_map,lw,List.take_length]
   unfold au
   rw[List.map_map]
   rfl
theorem DR:aI ["self","column","shares","row"] ["self","column","shares","row"] (ag iH):=iz
theorem y7(D:ed K FC "rest" "Frame.rest" iH ["self","column","shares","row"])(T:Txt K mg KC FC):cF P w K mg base 1 FC "rest" ["self","column","shares","row"] (wy FC):=by
 refine D.il DR (fun vs H Q E h=>?_) (fun f b6 A outer s H vs Q E hr h=>?_)
 ·obtain⟨X,q,dx,aP,aB,aW,cA,sA,st,n,c,r,rfl,_⟩:=h
  rfl
 ·obtain⟨X,q,dx,aP,aB,aW,cA,sA,st,n,c,r,rfl,FA,S,hc,hs,pN,k⟩:=h
  obtain⟨fs,hq,ff⟩:=FA.obj
  obtain⟨bA,hB,cB⟩:=FA.hB
  have big:(1001 :Nat)≤sizeLine:=by decide
  have lb:=cB.length
  have l2:=S.many
  have l1:=yU S
  have ls:(au st c).length=st.bases.length:=by unfold au;rw[List.length_map];exact l1
  have gc:=getD_at (l:=c) (i:=r) (by rw[hc.len];exact pN)
  refine⟨_,(aw
     (aU (aH fV (aH gF (bR (pv 0) rfl) (dz dP (pv 1) (pv 3) (fun _ _=>rfl))) (aL (fZ rfl) rfl T.jF je (aa (ba (sc:=(ag iH)) (NX:=["self","column","shares","row"]) (N:=["share","base","row"]) (fr:=[none,none,some 3]) ⟨by rfl,by rfl,by decide+kernel,by decide+kernel,by decide+kernel,by rfl,by decide+kernel⟩ rfl rfl rfl (dJ rfl T.fM (aa (pv 2) (aa (bR (pv 0) rfl) ai))) (fun _ _ _ _=>(cY K 2 rfl rfl (aK (av (i:=0) (show (["share","base","row"]:List Str).Nodup by decide+kernel) rfl (Or.inl rfl) (Or.inr rfl)) (aK (av (i:=1) (show (["share","base","row"]:List Str).Nodup by decide+kernel) rfl (Or.inl rfl) (Or.inr rfl)) bX)))) (fun _ _ _ _=>aS) (fun _ _ _ _=>(aH gF (pv 0) (dz (c7 K rfl) (pv 1) (pv 2) (fun _ _=>rfl))))) ai))))),?_⟩
  refine⟨_,rfl,q,FC,dx,fs,_,rfl,hq,T.aN,T.fi,ff.s,_,rfl,_,rfl,cA,_,_, .int (c.getD r 0),rfl,rfl,aD.of hc.at',cb (by rw[List.getElem?_map,gc];rfl),_,_,rfl,rfl,wx S.s (hc.fit _ (List.mem_of_getElem? gc)),?_⟩
  refine⟨_,rfl,_,rfl,q,FC,dx,fs,_,rfl,hq,T.aN,T.iP,ff.b,sA,aB,rfl,⟨_,aD.of hs⟩,⟨_,aD.of hB⟩,fun L hL=>cZ (K:=K) (a:=sA) (c:=aB) (L:=L) (xs:=(au st c).map V.int) (zs:=bA.map V.ref) H (fun σ=>∃v u:Option V,σ=[v,u,some (.int r)])
   (fun i ys=>ys=(List.zipWith (·*·) (au st c) (st.bases.map fun b=>b.getD r 0) |>.take i).map V.int)
   (aD.of hs) (aD.of hB) hL ⟨none,none,rfl⟩ (ak.new hL) ae rfl (by rw[List.length_map,List.length_map];omega) ?_ ?_ ?_⟩
  ·rintro i ys rfl
   rw[List.length_map,List.length_take];omega
  ·rintro i x z t σ H2 ys hx hz ht ⟨v,u,rfl⟩ ki de rfl N M hN
   obtain⟨x,jG,rfl⟩:=int_at hx
   obtain⟨a,ha,rfl⟩:=bH hz
   obtain⟨b,hb,xW,_⟩:=cB.get ha
   have Bu:=List.mem_of_getElem? hb
   have gb:=getD_at (l:=b) (i:=r) (by rw[S.F.lb b Bu];exact pN)
   have j8:(List.zipWith (·*·) (au st c) (st.bases.map fun b=>b.getD r 0))[i]? =some (x*b.getD r 0):=by rw[List.getElem?_zipWith,jG,List.getElem?_map,hb];rfl
   refine⟨t,_,rfl,kd.of ae,rfl,_,_,rfl,_,_,rfl,rfl,_,rfl,_,rfl,_,rfl,a,_,_, .int (b.getD r 0),rfl,rfl,aD.of (ak.new ht _ _ (ki _ _ xW)),cb (by rw[List.getElem?_map,gb];rfl),_,_,rfl,rfl,wx (h8 S hc.fit x (List.mem_of_getElem? jG)) (S.b b Bu _ (List.mem_of_getElem? gb)),hN _ _ _ ⟨_,_,rfl⟩ (ki.trans (ak.new ht)) ?_ ?_⟩
   ·rw[ao (af de ht)];exact de
   ·rw[ay j8,List.map_append];rfl
  ·rintro H2 ys ki de rfl
   refine⟨L,List.zipWith (·*·) (au st c) (st.bases.map fun b=>b.getD r 0),rfl,aD.of ?_,?_⟩
   ·rw[de,List.take_of_length_le (by rw[List.length_zipWith,List.length_map,List.length_map,List.length_map,lb];exact Nat.le_refl _)]
   ·rw[m7]
    exact⟨_,_,rfl,rfl,k _ ki⟩
theorem Bv:aI ["self","column","shares","row"] ["self","column","shares"] (ag oX):=iz
theorem qA{p:Nat→Bool}:∀{n i:Nat},i<n→(∀j,j<i→p j=false)→p i=true→(List.range n).find? p=some i:=by
 intro n i hi h0 h1
 rw[List.find?_range_eq_some]
 exact⟨h1,List.mem_range.mpr hi,fun j hj=>by simpa using h0 j hj⟩
theorem DS(D:ed K FC "row_with_rest" "Frame.row_with_rest" oX ["self","column","shares"])(T:Txt K mg KC FC)(c1:cF P w K mg base 1 FC "rest" ["self","column","shares","row"] (wy FC)):cF P w K mg base 2 FC "row_with_rest" ["self","column","shares"] (Bq FC):=by
 obtain⟨_,_,fD⟩:=c1
 refine D.il Bv (fun vs H Q E h=>?_) (fun f b6 A outer s H vs Q E hr h=>?_)
 ·obtain⟨X,q,dx,aP,aB,aW,cA,sA,st,n,c,rfl,_⟩:=h
  rfl
 ·obtain⟨X,q,dx,aP,aB,aW,cA,sA,st,n,c,rfl,FA,S,hc,hs,k⟩:=h
  have n2:=S.n
  have n3:=hc.len
  refine⟨_,(ah
     (b5 PassesOwn.never rfl (bQ rfl T.ck (aa (aL aY rfl T.fK dI (aa (pv 1) ai)) ai)) (av (i:=3) Bv.nd rfl (Or.inl rfl))
      (aw
       (eg (cL qY (dO (pv 0) T.aN fD.m fD.ok (hr.mono (by decide)) fD.b .nil a8 (aa (pv 1) (aa (pv 2) (aa (pv 3) ai)))) ax (cz _))
        (aw
         (aU (pv 3)))
        cp)))
    (aw
     (aU CA))),?_⟩
  refine⟨_,rfl,cA,_,rfl, .inl (aD.of hc.at'),_,rfl,by omega,by rw[List.length_map];omega,cS (fun i σ H'=>∃v:Option V,σ=[some (.ref q),some (.ref cA),some (.ref sA),v]∧ak H H'∧∀j,j<i→gX st c (au st c) j=0) ⟨none,rfl,ak.refl _,fun j hj=>by omega⟩ ?_ ?_⟩
  ·rintro i σ H' hi ⟨v,rfl,e,h0⟩
   have hi:i<n:=by
    have:i< (List.map V.int c).length:=hi
    rw[List.length_map] at this;omega
   dsimp only [aO]
   rw[Int.zero_add]
   obtain⟨fs,hq,ff⟩:=FA.obj
   refine⟨_,rfl,q,dx,fs,rfl,e _ _ hq,ff.no _ (by decide+kernel) (by decide+kernel) (by decide+kernel) (by decide+kernel),_,rfl,_,rfl,_,rfl,X,q,dx,aP,aB,aW,cA,sA,st,n,c,i,rfl,FA.same e,S,⟨e _ _ hc.at',hc.len,hc.fit⟩,e _ _ hs,hi,fun H2 e2=>⟨rfl,_,rfl,g5 (fun z=>?_) fun z=>?_⟩⟩
   ·have z:gX st c (au st c) i≠0:=S3 z
    refine⟨_,rfl,((k _ (e.trans e2)).1 i ?_)⟩
    unfold jM
    exact qA (by omega) (fun j hj=>by simp [h0 j hj]) (by simpa using z)
   ·have z:gX st c (au st c) i=0:=S4 z
    refine⟨_,rfl,e.trans e2,fun j hj=>?_⟩
    rcases Nat.lt_succ_iff_lt_or_eq.mp hj with q1|q1
    ·exact h0 j q1
    ·rw[q1];exact z
  ·rintro σ H' ⟨v,rfl,e,h0⟩
   refine(k _ e).2 ?_
   unfold jM
   rw[List.find?_eq_none]
   intro j hj
   have hj:j<c.length:=List.mem_range.mp hj
   have:=h0 j (by show j< (List.map V.int c).length;rw[List.length_map];exact hj)
   simp [this]
theorem y8:aI ["self","weights","share","fresh","scale"] ["self","weights","share","fresh","scale"] (ag fy):=iz
theorem wU(D:ed K FC "freed" "Frame.freed" fy ["self","weights","share","fresh","scale"])(T:Txt K mg KC FC):cF P w K mg base 1 FC "freed" ["self","weights","share","fresh","scale"] (rV FC):=by
 refine D.il y8 (fun vs H Q E h=>?_) (fun f b6 A outer s H vs Q E hr h=>?_)
 ·obtain⟨X,q,dx,aP,aB,aW,wA,fA,st,n,wt,fr,sh,S',rfl,_⟩:=h
  rfl
 ·obtain⟨X,q,dx,aP,aB,aW,wA,fA,st,n,wt,fr,sh,S',rfl,FA,S,hw,hf,lw,lf,bw,bf,bs,bS,k⟩:=h
  obtain⟨fs,hq,ff⟩:=FA.obj
  have n2:=S.n
  have big:(1001 :Nat)≤sizeLine:=by decide
  refine⟨_,(aw
     (aU (ba (sc:=(ag fy)) (NX:=["self","weights","share","fresh","scale"]) (N:=["one","other","self","scale","share"]) (fr:=[none,none,some 0,some 4,some 2]) ⟨by rfl,by rfl,by decide+kernel,by decide+kernel,by decide+kernel,by rfl,by decide+kernel⟩ rfl rfl rfl (dJ rfl T.fM (aa (pv 1) (aa (pv 3) ai))) (fun _ _ _ _=>(cY K 2 rfl rfl (aK (av (i:=0) (show (["one","other","self","scale","share"]:List Str).Nodup by decide+kernel) rfl (Or.inl rfl) (Or.inr rfl)) (aK (av (i:=1) (show (["one","other","self","scale","share"]:List Str).Nodup by decide+kernel) rfl (Or.inl rfl) (Or.inr rfl)) bX)))) (fun _ _ _ _=>aS) (fun _ _ _ _=>(aH oG (aH fV (aH gF (pv 3) (pv 0)) (aH gF (pv 4) (pv 1))) (rD K rfl (pv 2) rfl)))))),?_⟩
  refine⟨_,rfl,_,rfl,wA,fA,rfl,⟨_,aD.of hw⟩,⟨_,aD.of hf⟩,fun L hL=>cZ (K:=K) (a:=wA) (c:=fA) (L:=L) (xs:=wt.map V.int) (zs:=fr.map V.int) H (fun σ=>∃v u:Option V,σ=[v,u,some (.ref q),some (.int S'),some (.int sh)])
   (fun i ys=>ys=((b8 st.scale S' wt sh fr).take i).map V.int)
   (aD.of hw) (aD.of hf) hL ⟨none,none,rfl⟩ (ak.new hL) ae rfl (by rw[List.length_map];omega) ?_ ?_ ?_⟩
  ·rintro i ys rfl
   rw[List.length_map,List.length_take];omega
  ·rintro i x z t σ H2 ys hx hz ht ⟨v,u,rfl⟩ ki de rfl N M hN
   obtain⟨x,jG,rfl⟩:=int_at hx
   obtain⟨z,gG,rfl⟩:=int_at hz
   have j8:(b8 st.scale S' wt sh fr)[i]? =some ((S'*x - sh*z).fdiv st.scale):=by unfold b8;rw[List.getElem?_zipWith,jG,gG]
   have S0:=S.pos
   refine⟨t,_,rfl,kd.of ae,rfl,_,_,rfl,_,_,rfl,rfl,_,rfl,_,rfl,_,_,rfl,rfl,wx bS (bw x (List.mem_of_getElem? jG)),_,rfl,_,rfl,_,_,rfl,rfl,wx bs (bf z (List.mem_of_getElem? gG)),_,_,rfl,rfl,_,rfl,q,FC,dx,fs,_,rfl,ak.new ht _ _ (ki _ _ hq),T.aN,T.fi,ff.s,_,_,rfl,rfl,⟨by omega,S.s.mono (by decide)⟩,hN _ _ _ ⟨_,_,rfl⟩ (ki.trans (ak.new ht)) ?_ ?_⟩
   ·rw[ao (af de ht)];exact de
   ·rw[ay j8,List.map_append];rfl
  ·rintro H2 ys ki de rfl
   refine k L H2 hL ki ?_
   rw[de,List.take_of_length_le (by unfold b8;rw[List.length_zipWith,List.length_map,List.length_map];exact Nat.le_refl _)]
theorem t5(n:Nat):(List.replicate n [V.int 0]).flatten=(List.replicate n (0 :Int)).map V.int:=by
 induction n with
 |zero=>rfl
 |succ n ih=>rw[List.replicate_succ,List.flatten_cons,ih,List.replicate_succ];rfl
theorem r8:aI ["self","place","shares","many","numbers","base_place","share"] ["self","place","shares","many"] (ag oY):=iz
theorem DT(D:ed K FC "levelling" "Frame.levelling" oY ["self","place","shares","many"])(T:Txt K mg KC FC)(c1:cC P w K mg base 2 "lowest" ["numbers"] (o7 K)):cF P w K mg base 3 FC "levelling" ["self","place","shares","many"] (Br FC):=by
 obtain⟨_,_,iR⟩:=c1
 refine D.il r8 (fun vs H Q E h=>?_) (fun f b6 A outer s H vs Q E hr h=>?_)
 ·obtain⟨X,q,dx,aP,aB,aW,sA,st,n,c,place,many,rfl,_⟩:=h
  rfl
 ·obtain⟨X,q,dx,aP,aB,aW,sA,st,n,c,place,many,rfl,FA,S,hc,hs,hp,hm,uu,k⟩:=h
  obtain⟨fs,hq,ff⟩:=FA.obj
  have big:(1001 :Nat)≤sizeLine:=by decide
  refine⟨_,(ah
     (aF (i:=4) r8.nd rfl (Or.inl rfl) (aH ko (bq (aa ax ai)) (pv 3)))
    (ah
     (kh (bR (pv 0) rfl) (kg (pv 4) (pv 1) set_list))
    (ah
     (b5 PassesOwn.never rfl (dJ rfl T.fM (aa (bR (pv 0) rfl) (aa (pv 2) ai))) (ke rfl (aK (av (i:=5) r8.nd rfl (Or.inl rfl)) (aK (av (i:=6) r8.nd rfl (Or.inl rfl)) bX)))
      (aw
       (kh (uP pT (pv 6)) (kg (pv 4) (pv 5) set_list))))
    (aw
     (aU (aX iR.ok (hr.mono (by decide)) rfl iR.g iR.kp iR.b .nil a8 (aa (pv 4) ai))))))),?_⟩
  refine⟨(by show 1≤sizeLine;omega),fun l0 uz=>⟨_,rfl,l0,_,_,rfl,rfl,ae,by omega,by omega,by show 1*_≤sizeLine;rw[Int.toNat_natCast];omega,fun l hl=>?_⟩⟩
  rw[Int.toNat_natCast,t5]
  have e1:ak H (upd (upd H l0 (.lst [.int 0])) l (.lst ((List.replicate many (0 :Int)).map V.int))):=(ak.new uz).trans (ak.new hl)
  have h1:(upd (upd H l0 (.lst [.int 0])) l (.lst ((List.replicate many (0 :Int)).map V.int))) l=some (.lst ((List.replicate many (0 :Int)).map V.int)):=ae
  have nl:H l=none:=(ak.new uz).free hl
  generalize upd (upd H l0 (.lst [.int 0])) l (.lst ((List.replicate many (0 :Int)).map V.int))=H1 at*
  dsimp only [aO]
  refine⟨_,rfl,q,FC,dx,fs,_,rfl,e1 _ _ hq,T.aN,T.fi,ff.s,_,rfl,_,rfl,l,_,_,place,rfl,rfl,h1,nz (by rw[List.length_map,List.length_replicate];exact hp),?_⟩
  rw[←List.map_set]
  have h2:(upd H1 l (.lst (((List.replicate many (0 :Int)).set place st.scale).map V.int))) l=some (.lst (((List.replicate many (0 :Int)).set place st.scale).map V.int)):=ae
  have e2:cE l H (upd H1 l (.lst (((List.replicate many (0 :Int)).set place st.scale).map V.int))):=(cE.of e1).trans cE.upd
  generalize upd H1 l (.lst (((List.replicate many (0 :Int)).set place st.scale).map V.int))=H2 at*
  have ne:∀{b:Addr} {o:HO},H b=some o→b≠l:=fun h=>af h nl
  refine⟨_,rfl,q,FC,dx,fs,_,rfl,e2 _ _ hq (ne hq),T.aN,T.gM,ff.p,_,rfl,aP,sA,rfl,⟨_,aD.of (e2 _ _ FA.hP (ne FA.hP))⟩,⟨_,aD.of (e2 _ _ hs (ne hs))⟩,rB (K:=K) (a:=aP) (c:=sA) (xs:=st.places.map fun p=>V.int (p:Nat)) (zs:=(au st c).map V.int)
   (fun i σ H'=>∃v5 v6:Option V,σ=[some (.ref q),some (.int place),some (.ref sA),some (.int many),some (.ref l),v5,v6]∧cE l H H'∧H' l=some (.lst ((((st.places.zip (au st c)).take i).foldl (fun l ps=>l.set ps.1 (-ps.2)) ((List.replicate many (0 :Int)).set place st.scale)).map V.int)))
   ⟨none,none,rfl,e2,h2⟩ ?_ ?_ ?_⟩
  ·rintro i σ H' ⟨v5,v6,rfl,e,_⟩
   exact⟨aD.of (e _ _ FA.hP (ne FA.hP)),aD.of (e _ _ hs (ne hs))⟩
  ·rintro i x z t σ H' hx hz ht ⟨v5,v6,rfl,e,h'⟩
   rw[List.getElem?_map] at hx
   cases ep:st.places[i]? with
   |none=>rw[ep] at hx;cases hx
   |some p=>
    rw[ep] at hx
    cases hx
    obtain⟨z,gG,rfl⟩:=int_at hz
    have DU:(st.places.zip (au st c))[i]? =some (p,z):=by rw[List.getElem?_zip_eq_some];exact⟨ep,gG⟩
    have vo:(upd H' t (.tup [V.int (p:Nat),V.int z])) l=_:=ak.new ht _ _ h'
    refine⟨t,_,rfl,kd.of ae,rfl,_,_,rfl,_,_,rfl,rfl,_,rfl,_,rfl,_,rfl,_,rfl,l,_,_,p,rfl,rfl,vo,nz (by rw[List.length_map,kN];simp;exact uu p (List.mem_of_getElem? ep)),_,_,rfl,?_,?_⟩
    ·exact(e.trans (cE.of (ak.new ht))).trans cE.upd
    ·rw[ae,ay DU,List.foldl_append,←List.map_set]
     rfl
  ·rintro σ H3 ⟨v5,v6,rfl,e3,h3⟩
   rw[List.take_of_length_le (by rw[List.length_zip,List.length_map,List.length_map];exact Nat.le_refl _)] at h3
   have s3:ak H H3:=fun b o h=>e3 b o h (ne h)
   refine⟨_,rfl,l,cx st place (au st c) many,rfl,aD.of h3,by unfold cx;rw[kN];simp;omega,fun x hx=>?_,fun l2 H4 CW e4 h4=>k l2 H4 (s3.free CW) (s3.trans e4) h4⟩
   exact Nat.lt_of_lt_of_le (rW S hc x hx) (Nat.pow_le_pow_right (by decide) (by decide))
theorem iS:aI ["self","row","many","told","base","weights"] ["self","row","many"] (ag fx):=iz
theorem qB(n:Nat):(List.replicate n [V.int 0]).flatten=(List.replicate n (0 :Int)).map V.int:=by
 induction n with
 |zero=>rfl
 |succ n ih=>rw[List.replicate_succ,List.flatten_cons,ih,List.replicate_succ];rfl
theorem wV(D:ed K FC "weights_of_rest" "Frame.weights_of_rest" fx ["self","row","many"])(T:Txt K mg KC FC):cF P w K mg base 1 FC "weights_of_rest" ["self","row","many"] (rT FC):=by
 refine D.il iS (fun vs H Q E h=>?_) (fun f b6 A outer s H vs Q E hr h=>?_)
 ·obtain⟨X,q,dx,aP,aB,aW,st,n,r,rfl,_⟩:=h
  rfl
 ·obtain⟨X,q,dx,aP,aB,aW,st,n,r,rfl,FA,S,pN,k⟩:=h
  obtain⟨fs,hq,ff⟩:=FA.obj
  obtain⟨bA,hB,cB⟩:=FA.hB
  obtain⟨wA,hW,cW⟩:=FA.hW
  have n2:=S.n
  have lb:=cB.length
  have lw:=cW.length
  have l1:=yU S
  have big:(1001 :Nat)≤sizeLine:=by decide
  refine⟨_,(ah
     (aF (i:=3) iS.nd rfl (Or.inl rfl) (aH ko (bq (aa ax ai)) (pv 2)))
    (ah
     (kh (bR (pv 0) rfl) (kg (pv 3) (pv 1) set_list))
    (ah
     (b5 PassesOwn.never rfl (dJ rfl T.fM (aa (bR (pv 0) rfl) (aa (bR (pv 0) rfl) ai))) (ke rfl (aK (av (i:=4) iS.nd rfl (Or.inr rfl)) (aK (av (i:=5) iS.nd rfl (Or.inl rfl)) bX)))
      (aw
       (gE (i:=3) iS.nd rfl (Or.inl rfl) (sc:=(ag fx)) (NX:=["self","row","many","told","base","weights"]) (N:=["one","other","base","row"]) (fr:=[none,none,some 4,some 1]) ⟨by rfl,by rfl,by decide+kernel,by decide+kernel,by decide+kernel,by rfl,by decide+kernel⟩ rfl rfl rfl (dJ rfl T.fM (aa (pv 3) (aa (pv 5) ai))) (fun _ _ _ _=>(cY K 2 rfl rfl (aK (av (i:=0) (show (["one","other","base","row"]:List Str).Nodup by decide+kernel) rfl (Or.inl rfl) (Or.inr rfl)) (aK (av (i:=1) (show (["one","other","base","row"]:List Str).Nodup by decide+kernel) rfl (Or.inl rfl) (Or.inr rfl)) bX)))) (fun _ _ _ _=>aS) (fun _ _ _ _=>(aH fV (pv 0) (aH gF (dz (c7 K rfl) (pv 2) (pv 3) (fun _ _=>rfl)) (pv 1)))))))
    (aw
     (aU (pv 3)))))),?_⟩
  refine⟨(by show 1≤sizeLine;omega),fun l0 uz=>⟨_,rfl,l0,_,_,rfl,rfl,ae,by omega,by omega,by show 1*_≤sizeLine;rw[Int.toNat_natCast];omega,fun l hl=>?_⟩⟩
  rw[Int.toNat_natCast,qB]
  have e1:ak H (upd (upd H l0 (.lst [.int 0])) l (.lst ((List.replicate n (0 :Int)).map V.int))):=(ak.new uz).trans (ak.new hl)
  have h1:(upd (upd H l0 (.lst [.int 0])) l (.lst ((List.replicate n (0 :Int)).map V.int))) l=some (.lst ((List.replicate n (0 :Int)).map V.int)):=ae
  have nl:H l=none:=(ak.new uz).free hl
  generalize upd (upd H l0 (.lst [.int 0])) l (.lst ((List.replicate n (0 :Int)).map V.int))=H1 at*
  dsimp only [aO]
  refine⟨_,rfl,q,FC,dx,fs,_,rfl,e1 _ _ hq,T.aN,T.fi,ff.s,_,rfl,_,rfl,l,_,_,r,rfl,rfl,h1,nz (by rw[List.length_map,List.length_replicate];exact pN),?_⟩
  rw[←List.map_set]
  have h2:(upd H1 l (.lst (((List.replicate n (0 :Int)).set r st.scale).map V.int))) l=some (.lst (((List.replicate n (0 :Int)).set r st.scale).map V.int)):=ae
  have s2:ak H (upd H1 l (.lst (((List.replicate n (0 :Int)).set r st.scale).map V.int))):=fun b o h=>((cE.of e1).trans cE.upd) b o h (af h nl)
  generalize upd H1 l (.lst (((List.replicate n (0 :Int)).set r st.scale).map V.int))=H2 at*
  refine⟨_,rfl,q,FC,dx,fs,_,rfl,s2 _ _ hq,T.aN,T.iP,ff.b,_,rfl,q,FC,dx,fs,_,rfl,s2 _ _ hq,T.aN,T.cP,ff.w,aB,aW,rfl,⟨_,aD.of (s2 _ _ hB)⟩,⟨_,aD.of (s2 _ _ hW)⟩,rB (K:=K) (a:=aB) (c:=aW) (xs:=bA.map V.ref) (zs:=wA.map V.ref)
   (fun i σ H'=>∃(l':Addr) (v4 v5:Option V),σ=[some (.ref q),some (.int r),some (.int n),some (.ref l'),v4,v5]∧ak H H'∧H l'=none∧H' l'=some (.lst ((((st.bases.zip st.aA).take i).foldl (fun told bw=>cO told (bw.1.getD r 0) bw.2) ((List.replicate n (0 :Int)).set r st.scale)).map V.int)))
   ⟨l,none,none,rfl,s2,nl,h2⟩ ?_ ?_ ?_⟩
  ·rintro i σ H' ⟨l',v4,v5,rfl,e,_,_⟩
   exact⟨aD.of (e _ _ hB),aD.of (e _ _ hW)⟩
  ·rintro i x z t σ H' hx hz ht ⟨l',v4,v5,rfl,e,S8,h'⟩
   obtain⟨a,ha,rfl⟩:=bH hx
   obtain⟨b,hb,xW,_⟩:=cB.get ha
   obtain⟨a2,Ql,rfl⟩:=bH hz
   obtain⟨wt,Iq,Ot,_⟩:=cW.get Ql
   have Bu:=List.mem_of_getElem? hb
   have DM:=List.mem_of_getElem? Iq
   have gb:=getD_at (l:=b) (i:=r) (by rw[S.F.lb b Bu];exact pN)
   have DU:(st.bases.zip st.aA)[i]? =some (b,wt):=by rw[List.getElem?_zip_eq_some];exact⟨hb,Iq⟩
   have lt:=gu (n:=n) r ((st.bases.zip st.aA).take i) ((List.replicate n (0 :Int)).set r st.scale) (by simp) fun p hp=>S.F.lw _ (List.of_mem_zip (List.mem_of_mem_take hp)).2
   generalize Ou:((st.bases.zip st.aA).take i).foldl (fun told bw=>cO told (bw.1.getD r 0) bw.2) ((List.replicate n (0 :Int)).set r st.scale)=told at*
   have WG:wt.length=n:=S.F.lw wt DM
   refine⟨t,_,rfl,kd.of ae,rfl,_,_,rfl,_,_,rfl,rfl,?_⟩
   have et:ak H' (upd H' t (.tup [.ref a, .ref a2])):=ak.new ht
   have vo:=et _ _ h'
   have e':=e.trans et
   generalize upd H' t (.tup [.ref a, .ref a2])=H3 at*
   dsimp only [aO]
   refine⟨_,rfl,_,rfl,l',a2,rfl,⟨_,aD.of vo⟩,⟨_,aD.of (e' _ _ Ot)⟩,fun L hL=>cZ (K:=K) (a:=l') (c:=a2) (L:=L) (xs:=told.map V.int) (zs:=wt.map V.int) H3 (fun σ=>∃v u:Option V,σ=[v,u,some (.ref a),some (.int r)])
    (fun i ys=>ys=((cO told (b.getD r 0) wt).take i).map V.int) (aD.of vo) (aD.of (e' _ _ Ot)) hL ⟨none,none,rfl⟩ (ak.new hL) ae rfl (by rw[List.length_map];omega) ?_ ?_ ?_⟩
   ·rintro j ys rfl
    rw[List.length_map,List.length_take];omega
   ·rintro j x z t2 σ H4 ys hx hz Of ⟨v,u,rfl⟩ pO sf rfl N M hN
    obtain⟨x,jG,rfl⟩:=int_at hx
    obtain⟨z,gG,rfl⟩:=int_at hz
    have j8:(cO told (b.getD r 0) wt)[j]? =some (x - b.getD r 0*z):=by unfold cO;rw[List.getElem?_zipWith,jG,gG]
    refine⟨t2,_,rfl,kd.of ae,rfl,_,_,rfl,_,_,rfl,rfl,_,rfl,_,rfl,_,rfl,a,_,_, .int (b.getD r 0),rfl,rfl,aD.of (ak.new Of _ _ (pO _ _ (e' _ _ xW))),cb (by rw[List.getElem?_map,gb];rfl),_,rfl,_,_,rfl,rfl,wx (S.b b Bu _ (List.mem_of_getElem? gb)) (S.w wt DM z (List.mem_of_getElem? gG)),_,_,rfl,rfl,hN _ _ _ ⟨_,_,rfl⟩ (pO.trans (ak.new Of)) ?_ ?_⟩
    ·rw[ao (af sf Of)];exact sf
    ·rw[ay j8,List.map_append];rfl
   ·rintro H4 ys pO sf rfl
    refine⟨L,some (.ref a),some (.ref a2),rfl,e'.trans pO,e'.free hL,?_⟩
    rw[sf,List.take_of_length_le (by unfold cO;rw[List.length_zipWith,List.length_map,List.length_map];exact Nat.le_refl _),ay DU,List.foldl_append,Ou]
    rfl
  ·rintro σ H3 ⟨l',v4,v5,rfl,e3,S8,h3⟩
   rw[List.take_of_length_le (by rw[List.length_zip,List.length_map,List.length_map];omega)] at h3
   exact⟨_,rfl,k l' H3 S8 e3 h3⟩
theorem nK:aI ["self","place","column","shares","row","fresh","scale"] ["self","place","column","shares","row"] (ag gS):=iz
theorem y9(D:ed K FC "bind" "Frame.bind" gS ["self","place","column","shares","row"])(T:Txt K mg KC FC)(c1:cC P w K mg base 1 "weigh" ["weights","column"] (nr K))(c2:cF P w K mg base 1 FC "weights_of_rest" ["self","row","many"] (rT FC))
  (c3:cF P w K mg base 1 FC "freed" ["self","weights","share","fresh","scale"] (rV FC)):cF P w K mg base 2 FC "bind" ["self","place","column","shares","row"] (wz FC):=by
 obtain⟨_,_,cy⟩:=c1
 obtain⟨_,_,bU⟩:=c2
 obtain⟨_,_,eY⟩:=c3
 refine D.il nK (fun vs H Q E h=>?_) (fun f b6 A outer s H vs Q E hr h=>?_)
 ·obtain⟨X,q,dx,aP,aB,aW,cA,sA,st,n,c,place,r,rfl,_⟩:=h
  rfl
 ·obtain⟨X,q,dx,aP,aB,aW,cA,sA,st,n,c,place,r,rfl,FA,S,Vh,hc,Ov,hs,qC,k⟩:=h
  obtain⟨fs,hq,ff⟩:=FA.obj
  obtain⟨r1,_⟩:=o5 qC
  have n2:=S.n
  have n3:=hc.len
  subst n3
  have big:(1001 :Nat)≤sizeLine:=by decide
  obtain⟨B1,B2,_⟩:=S.F.bind hc.len qC place
  have S9:Sm c.length (bindL st place c (au st c) r):=Sm.of B1 S.n (by show (st.bases++[c]).length≤60;simp;omega) (by show (st.places++[place]).length=(st.bases++[c]).length;simp;exact S.pl) fun b hb x hx=>by
   rcases List.mem_append.mp (show b∈st.bases++[c] from hb) with h|h
   ·exact S.b b h x hx
   ·have h:b=c:=by simpa using h
    rw[h] at hx;exact hc.fit x hx
  refine⟨_,(ah
     (aF (i:=5) nK.nd rfl (Or.inr rfl) (dO (pv 0) T.aN bU.m bU.ok (hr.mono (by decide)) bU.b .nil a8 (aa (pv 4) (aa (aL aY rfl T.fK dI (aa (pv 2) ai)) ai))))
    (ah
     (eg (cL GR (aX cy.ok (hr.mono (by decide)) rfl cy.g cy.kp cy.b .nil a8 (aa (pv 5) (aa (pv 2) ai))) ax (cz _))
      (aw
       (aF (i:=5) nK.nd rfl (Or.inr rfl) (ba (sc:=(ag gS)) (NX:=["self","place","column","shares","row","fresh","scale"]) (N:=["weight"]) (fr:=[none]) ⟨by rfl,by rfl,by decide+kernel,by decide+kernel,by decide+kernel,by rfl,by decide+kernel⟩ rfl rfl rfl (a9 (pv 5)) (fun _ _ _ _=>(av (i:=0) (show (["weight"]:List Str).Nodup by decide+kernel) rfl (Or.inl rfl) (Or.inr rfl))) (fun _ _ _ _=>aS) (fun _ _ _ _=>(uP pT (pv 0))))))
      cp)
    (ah
     (aF (i:=6) nK.nd rfl (Or.inr rfl) (aX cy.ok (hr.mono (by decide)) rfl cy.g cy.kp cy.b .nil a8 (aa (pv 5) (aa (pv 2) ai))))
    (ah
     (dj (pv 0) (ba (sc:=(ag gS)) (NX:=["self","place","column","shares","row","fresh","scale"]) (N:=["weights","share","fresh","scale","self"]) (fr:=[none,none,some 5,some 6,some 0]) ⟨by rfl,by rfl,by decide+kernel,by decide+kernel,by decide+kernel,by rfl,by decide+kernel⟩ rfl rfl rfl (dJ rfl T.fM (aa (bR (pv 0) rfl) (aa (pv 3) ai))) (fun _ _ _ _=>(cY K 2 rfl rfl (aK (av (i:=0) (show (["weights","share","fresh","scale","self"]:List Str).Nodup by decide+kernel) rfl (Or.inl rfl) (Or.inr rfl)) (aK (av (i:=1) (show (["weights","share","fresh","scale","self"]:List Str).Nodup by decide+kernel) rfl (Or.inl rfl) (Or.inr rfl)) bX)))) (fun _ _ _ _=>aS) (fun _ _ _ _=>(dO (pv 4) T.aN eY.m eY.ok (hr.mono (by decide)) eY.b .nil a8 (aa (pv 0) (aa (pv 1) (aa (pv 2) (aa (pv 3) ai))))))) rfl)
    (ah
     (cK (fX PySem.F.plainAttrs_list PySem.F.slot_list_append PySem.F.type_list_append bI (bR (pv 0) rfl) (aa (pv 5) ai)))
    (ah
     (cK (fX PySem.F.plainAttrs_list PySem.F.slot_list_append PySem.F.type_list_append bI (bR (pv 0) rfl) (aa (pv 1) ai)))
    (ah
     (cK (fX PySem.F.plainAttrs_list PySem.F.slot_list_append PySem.F.type_list_append bI (bR (pv 0) rfl) (aa (pv 2) ai)))
    (aw
     (dj (pv 0) (pv 6) rfl))))))))),?_⟩
  refine⟨_,rfl,q,dx,fs,rfl,hq,ff.no _ (by decide+kernel) (by decide+kernel) (by decide+kernel) (by decide+kernel),_,rfl,_,rfl,cA,_,rfl, .inl (aD.of hc.at'),X,q,dx,aP,aB,aW,st,c.length,r,(by rw[List.length_map];rfl),FA,S,r1,fun fA H1 Ta e1 h1=>?_⟩
  have A4:∀x∈bu (aR st r c.length) c,cG 4600 x:=S9.w _ (List.mem_append_right _ (List.mem_singleton.mpr rfl))
  have Vi:=wB A4
  obtain⟨WH,_⟩:=o4 S.F r1
  have fS:cG 4600 (dot (bu (aR st r c.length) c) c):=S9.s
  have Qs:=cG.bx (by decide) Vi
  have Ir:=cG.bx (by decide) hc.fit
  dsimp only [aO]
  refine mP (fun σ' H'=>∃lM:Addr,σ'=[some (.ref q),some (.int place),some (.ref cA),some (.ref sA),some (.int r),some (.ref lM),none]∧ak H H'∧H lM=none∧H' lM=some (.lst ((bu (aR st r c.length) c).map V.int)))
   (fun N hN=>⟨_,rfl,_,rfl,fA,cA,aR st r c.length,c,rfl,aD.of h1,aD.of (e1 _ _ hc.at'),by omega,Qs,Ir,fun H2 e2=>⟨_,_,rfl,rfl,_,rfl,g5 (fun z=>?_) fun z=>?_⟩⟩) ?_
  ·have z:dot (aR st r c.length) c<0:=by simpa using z
   have h2:=e2 _ _ h1
   refine⟨_,rfl,fA,rfl,⟨_,aD.of h2⟩,fun L hL=>cH (K:=K) (a:=fA) (L:=L) (xs:=(aR st r c.length).map V.int) H2 (fun σ=>∃v:Option V,σ=[v]) (fun i ys=>ys=((aR st r c.length).take i).map fun x=>V.int (-x))
    (aD.of h2) hL ⟨none,rfl⟩ (ak.new hL) ae rfl (by rw[List.length_map];omega) ?_ ?_ ?_⟩
   ·rintro i ys rfl
    rw[List.length_map,List.length_take];omega
   ·rintro i x σ H3 ys hx ⟨v,rfl⟩ l9 fP rfl N2 M2 wW
    obtain⟨x,jG,rfl⟩:=int_at hx
    refine⟨_,rfl,_,rfl,wW _ _ _ ⟨_,rfl⟩ l9 fP ?_⟩
    rw[ay jG,List.map_append]
    rfl
   ·rintro H3 ys l9 fP rfl
    refine hN _ _ ⟨L,rfl,(e1.trans e2).trans l9,(e1.trans e2).free hL,?_⟩
    rw[fP,List.length_map,List.take_length]
    unfold bu
    rw[if_pos z,List.map_map]
    rfl
  ·have z:¬dot (aR st r c.length) c<0:=by simpa using z
   refine hN _ _ ⟨fA,rfl,e1.trans e2,Ta,?_⟩
   unfold bu
   rw[if_neg z]
   exact e2 _ _ h1
  rintro σ' H3 ⟨lM,rfl,e3,nf,h3⟩
  clear Ta e1 h1 fA
  generalize xX:bu (aR st r c.length) c=fr at*
  refine⟨_,rfl,_,rfl,lM,cA,fr,c,rfl,aD.of h3,aD.of (e3 _ _ hc.at'),by omega,cG.bx (by decide) A4,Ir,fun H4 e4=>?_⟩
  have Bw:=e3.trans e4
  have h4:=e4 _ _ h3
  obtain⟨wA,hW,cW⟩:=FA.hW
  obtain⟨bA,hB,cB⟩:=FA.hB
  have lw:=cW.length
  have l1:=yU S
  have WI:(au st c).length=st.aA.length:=by unfold au;rw[List.length_map]
  have q4:=Bw _ _ hq
  dsimp only [aO]
  refine⟨_,rfl,q,FC,dx,fs,_,rfl,q4,T.aN,T.cP,ff.w,_,rfl,aW,sA,rfl,⟨_,aD.of (Bw _ _ hW)⟩,⟨_,aD.of (Bw _ _ hs)⟩,fun L hL=>tG (K:=K) (a:=aW) (c:=sA) (L:=L) (xs:=wA.map V.ref) (zs:=(au st c).map V.int) H4
   (fun σ=>∃v u:Option V,σ=[v,u,some (.ref lM),some (.int (dot fr c)),some (.ref q)]) (fun i ys H'=>∃nA:List Addr,ys=nA.map V.ref∧bG L H H' nA ((List.zipWith (fun w s=>b8 st.scale (dot fr c) w s fr) st.aA (au st c)).take i))
   (aD.of (Bw _ _ hW)) (aD.of (Bw _ _ hs)) ?_ hL ⟨none,none,rfl⟩ (ak.new hL) ae ⟨[],rfl, .nil⟩ (by rw[List.length_map,List.length_map];have:=S.many;omega) ?_ ?_ ?_⟩
  ·rintro i ys Ha Hb e ⟨nA,rfl,h⟩
   exact⟨nA,rfl,h.but e⟩
  ·rintro i ys Ha ⟨nA,rfl,h⟩
   have:=h.length
   rw[List.length_take] at this
   rw[List.length_map];omega
  ·rintro i x z t σ H5 ys hx hz ht ⟨v,u,rfl⟩ iY lN ⟨nA,rfl,hn⟩ N M hN
   obtain⟨a,ha,rfl⟩:=bH hx
   obtain⟨wt,Iq,Ot,_⟩:=cW.get ha
   obtain⟨z,gG,rfl⟩:=int_at hz
   have DM:=List.mem_of_getElem? Iq
   have j8:(List.zipWith (fun w s=>b8 st.scale (dot fr c) w s fr) st.aA (au st c))[i]? =some (b8 st.scale (dot fr c) wt z fr):=by rw[List.getElem?_zipWith,Iq,gG]
   have e5:ak H (upd H5 t (.tup [.ref a, .int z])):=(Bw.trans iY).trans (ak.new ht)
   have h5:(upd H5 t (.tup [.ref a, .int z])) lM=some (.lst (fr.map V.int)):=ak.new ht _ _ (iY _ _ h4)
   refine⟨t,_,rfl,kd.of ae,rfl,_,_,rfl,_,_,rfl,rfl,_,rfl,q,dx,fs,rfl,e5 _ _ hq,ff.no _ (by decide+kernel) (by decide+kernel) (by decide+kernel) (by decide+kernel),_,rfl,_,rfl,_,rfl,_,rfl,X,q,dx,aP,aB,aW,a,lM,st,c.length,wt,fr,z,dot fr c,rfl,FA.same e5,S,e5 _ _ Ot,h5,S.F.lw wt DM,B2,fun x hx=>(S.w wt DM x hx).mono (by decide),fun x hx=>(A4 x hx).mono (by decide),(h8 S hc.fit z (List.mem_of_getElem? gG)).mono (by decide),fS.mono (by decide),fun l H6 hl e6 h6=>?_⟩
   have pk:H6 L=_:=e6 _ _ (ak.new ht _ _ lN)
   refine hN _ _ _ ⟨_,_,rfl⟩ ((iY.trans (ak.new ht)).trans e6) pk ⟨nA++[l],by simp,?_⟩
   rw[ay j8]
   exact(hn.but (cE.of ((ak.new ht).trans e6))).snoc h6 (Ne.symm (af (ak.new ht _ _ lN) hl)) (e5.free hl)
  rintro H5 ys iY lN ⟨nA,rfl,hn⟩
  rw[List.take_of_length_le (by rw[List.length_zipWith,List.length_map,List.length_map];omega)] at hn
  have e5:=Bw.trans iY
  have nL:H L=none:=Bw.free hL
  have q5:=e5 _ _ hq
  have Tb:=hn.length
  rw[List.length_zipWith] at Tb
  have Qt:q≠L:=fQ q5 lN (by intro z;cases z)
  have Qu:q≠aP:=fQ hq FA.hP (by intro z;cases z)
  have Qv:q≠aB:=fQ hq hB (by intro z;cases z)
  have Qw:aP≠L:=af FA.hP nL
  have Qx:aB≠L:=af hB nL
  obtain⟨Gi,_,_,Bx,By,_,Bz⟩:=FA.ne
  have P5:=e5 _ _ FA.hP
  have B5:=e5 _ _ hB
  have fL:=ff.len
  refine⟨_,rfl,q,FC,dx,_,rfl,q5,T.aN,T.cP,by omega,?_⟩
  have fw:=ff.Qo L
  generalize az "weights" (.ref L) fs=wX at*
  have q6:(upd H5 q (.ins FC dx wX)) q=some (.ins FC dx wX):=ae
  have L6:(upd H5 q (.ins FC dx wX)) L=some (.lst (nA.map V.ref)):=by rw[ao (Ne.symm Qt)];exact lN
  have P6:(upd H5 q (.ins FC dx wX)) aP=_:=(ao (Ne.symm Qu)).trans P5
  have B6:(upd H5 q (.ins FC dx wX)) aB=_:=(ao (Ne.symm Qv)).trans B5
  have k6:cE q H5 (upd H5 q (.ins FC dx wX)):=cE.upd
  generalize upd H5 q (.ins FC dx wX)=H6 at*
  refine⟨_,rfl,q,FC,dx,_,_,rfl,q6,T.aN,T.cP,fw.w, .inl ⟨rfl,_,aD.of L6⟩,_,rfl,L,_,_,rfl,rfl,L6,by rw[List.length_map];omega,?_⟩
  have q7:(upd H6 L (.lst (nA.map V.ref++[.ref lM]))) q=_:=(ao Qt).trans q6
  have L7:(upd H6 L (.lst (nA.map V.ref++[.ref lM]))) L=some (.lst ((nA++[lM]).map V.ref)):=by rw[ae];simp
  have P7:(upd H6 L (.lst (nA.map V.ref++[.ref lM]))) aP=_:=(ao Qw).trans P6
  have B7:(upd H6 L (.lst (nA.map V.ref++[.ref lM]))) aB=_:=(ao Qx).trans B6
  have k7:cE L H6 (upd H6 L (.lst (nA.map V.ref++[.ref lM]))):=cE.upd
  generalize upd H6 L (.lst (nA.map V.ref++[.ref lM]))=H7 at*
  refine⟨_,rfl,q,FC,dx,_,_,rfl,q7,T.aN,T.gM,fw.p, .inl ⟨rfl,_,aD.of P7⟩,_,rfl,aP,_,_,rfl,rfl,P7,by rw[List.length_map];have:=S.pl;omega,?_⟩
  have q8:(upd H7 aP (.lst (st.places.map (fun p=>V.int (p:Nat))++[.int place]))) q=_:=(ao Qu).trans q7
  have L8:(upd H7 aP (.lst (st.places.map (fun p=>V.int (p:Nat))++[.int place]))) L=_:=(ao (Ne.symm Qw)).trans L7
  have P8:(upd H7 aP (.lst (st.places.map (fun p=>V.int (p:Nat))++[.int place]))) aP=some (.lst ((st.places++[place]).map fun p=>V.int (p:Nat))):=by rw[ae];simp
  have B8:(upd H7 aP (.lst (st.places.map (fun p=>V.int (p:Nat))++[.int place]))) aB=_:=(ao (Ne.symm Gi)).trans B7
  have k8:cE aP H7 (upd H7 aP (.lst (st.places.map (fun p=>V.int (p:Nat))++[.int place]))):=cE.upd
  generalize upd H7 aP (.lst (st.places.map (fun p=>V.int (p:Nat))++[.int place]))=H8 at*
  refine⟨_,rfl,q,FC,dx,_,_,rfl,q8,T.aN,T.iP,fw.b, .inl ⟨rfl,_,aD.of B8⟩,_,rfl,aB,_,_,rfl,rfl,B8,by rw[List.length_map,cB.length];omega,?_⟩
  have q9:(upd H8 aB (.lst (bA.map V.ref++[.ref cA]))) q=_:=(ao Qv).trans q8
  have L9:(upd H8 aB (.lst (bA.map V.ref++[.ref cA]))) L=_:=(ao (Ne.symm Qx)).trans L8
  have P9:(upd H8 aB (.lst (bA.map V.ref++[.ref cA]))) aP=_:=(ao Gi).trans P8
  have B9:(upd H8 aB (.lst (bA.map V.ref++[.ref cA]))) aB=some (.lst ((bA++[cA]).map V.ref)):=by rw[ae];simp
  have k9:cE aB H8 (upd H8 aB (.lst (bA.map V.ref++[.ref cA]))):=cE.upd
  generalize upd H8 aB (.lst (bA.map V.ref++[.ref cA]))=H9 at*
  have WJ:=fw.len
  refine⟨_,rfl,_,rfl,q,FC,dx,_,rfl,q9,T.aN,T.fi,by omega,?_⟩
  have Iu:∀b o,H5 b=some o→b≠q→b≠L→b≠aP→b≠aB→(upd H9 q (.ins FC dx (az "scale" (.int (dot fr c)) wX))) b=some o:=fun b o h n1 n2 n3 n4=>by
   rw[ao n1];exact k9 _ _ (k8 _ _ (k7 _ _ (k6 _ _ h n1) n2) n3) n4
  have y':∀{b:Addr},b∉aP::aB::X→b≠aP∧b≠aB:=fun h=>⟨fun z=>h (by simp [z]),fun z=>h (by simp [z])⟩
  have kl:∀b xs,H b=some (.lst xs)→b∉aP::aB::X→(upd H9 q (.ins FC dx (az "scale" (.int (dot fr c)) wX))) b=some (.lst xs):=fun b xs h hn=>
   Iu b _ (e5 _ _ h) (Ne.symm (fQ hq h (by intro z;cases z))) (af h nL) (y' hn).1 (y' hn).2
  refine k L _ (fun b o h hn=>?_) ⟨⟨_,ae,?_⟩,?_,⟨bA++[cA],?_,?_⟩,⟨nA++[lM],?_,?_⟩,⟨Gi,Ne.symm Qw,Ne.symm Qx,Bx,By,(fun z=>by obtain⟨o,ho⟩:=FA.has _ z;rw[nL] at ho;cases ho),Bz⟩,fun b hb=>?_⟩
  ·simp only [List.mem_cons,List.not_mem_nil,or_false,not_or] at hn
   exact Iu b o (e5 _ _ h) hn.1 (af h nL) hn.2.1 hn.2.2
  ·show FF _ (dot (bu (aR st r c.length) c) c) aP aB L
   rw[xX]
   exact fw.Qq _
  ·rw[ao (Ne.symm Qu)];exact P9
  ·rw[ao (Ne.symm Qv)];exact B9
  ·exact(cB.Bp kl).snoc (kl _ _ hc.at' Ov) Ov
  ·rw[ao (Ne.symm Qt)];exact L9
  ·show aE (aP::aB::X) _ _ (List.zipWith (fun w s=>b8 st.scale (dot (bu (aR st r c.length) c) c) w s (bu (aR st r c.length) c)) st.aA (au st c)++[bu (aR st r c.length) c])
   rw[xX]
   have Iv:=iY _ _ h4
   have Vj:lM≠L:=af h4 hL
   have Vk:lM≠q:=Ne.symm (fQ q5 Iv (by intro z;cases z))
   have Tc:lM≠aP:=fun z=>by rw[z,FA.hP] at nf;cases nf
   have Td:lM≠aB:=fun z=>by rw[z,hB] at nf;cases nf
   have Vl:lM∉X:=fun z=>by obtain⟨o,ho⟩:=FA.has _ z;rw[nf] at ho;cases ho
   refine(bG.toS (W:=aP::aB::X) (fun b hb=>?_) (fun b xs h n1 n2=>?_) hn).snoc (Iu _ _ Iv Vk Vj Tc Td) (by simp [Tc,Td,Vl])
   ·simp only [List.mem_cons] at hb
    rcases hb with z|z|z
    ·rw[z];exact⟨_,FA.hP⟩
    ·rw[z];exact⟨_,hB⟩
    ·exact FA.has b z
   ·exact Iu b _ h (Ne.symm (fQ q5 h (by intro z;cases z))) n1 (y' n2).1 (y' n2).2
  ·obtain⟨o,ho⟩:=FA.has b hb
   exact⟨o,Iu b o (e5 _ _ ho) (fun z=>Bz (z▸hb)) (af ho nL) (fun z=>Bx (z▸hb)) (fun z=>By (z▸hb))⟩
theorem za:aI ["self","free","bound","numbers","weights"] ["self","free","bound","numbers","weights"] (ag g9):=iz
theorem wY(D:oE K KC "Kernel.__init__" g9 ["self","free","bound","numbers","weights"] [])(T:Txt K mg KC FC):jw P w K mg base 1 KC ["self","free","bound","numbers","weights"] [] (rX KC):=by
 refine D.il za (fun vs H Q E h=>?_) (fun f b6 A outer s H vs Q E hr h=>?_)
 ·obtain⟨q,dx,a1,a2,a3,a4,x1,x2,x3,x4,rfl,_⟩:=h
  rfl
 ·obtain⟨q,dx,a1,a2,a3,a4,x1,x2,x3,x4,rfl,hq,h1,h2,h3,h4,k⟩:=h
  refine⟨_,(ah
     (dj (pv 0) (cq br rfl T.n_list cX (aa (pv 1) ai)) rfl)
    (ah
     (dj (pv 0) (cq br rfl T.n_list cX (aa (pv 2) ai)) rfl)
    (ah
     (dj (pv 0) (cq br rfl T.n_list cX (aa (pv 3) ai)) rfl)
    (aw
     (dj (pv 0) (cq br rfl T.n_list cX (aa (pv 4) ai)) rfl))))),?_⟩
  have n1:a1≠q:=fQ h1 hq (by intro z;cases z)
  have n2:a2≠q:=fQ h2 hq (by intro z;cases z)
  have n3:a3≠q:=fQ h3 hq (by intro z;cases z)
  have n4:a4≠q:=fQ h4 hq (by intro z;cases z)
  have len:∀(f:Str) (v:V) (fs:List (Str×V)) (n:Nat),fs.length≤n→(az f v fs).length≤n+1:=fun f v fs n h=>Nat.le_trans (bL f v fs) (by omega)
  refine⟨_,rfl,a1,_,rfl, .inl (aD.of h1),fun b1 jy=>⟨_,rfl,q,KC,dx,_,rfl,by rw[ao (af hq jy)];exact hq,T.dc,T.yW,(by show 0<1000;decide),?_⟩⟩
  have m1:b1≠q:=Ne.symm (af hq jy)
  have q1:(upd (upd H b1 (.lst x1)) q (.ins KC dx (az "free" (.ref b1) []))) q=some (.ins KC dx (az "free" (.ref b1) [])):=ae
  have l1:(upd (upd H b1 (.lst x1)) q (.ins KC dx (az "free" (.ref b1) []))) b1=some (.lst x1):=by rw[ao m1];exact ae
  have e1:cE q H (upd (upd H b1 (.lst x1)) q (.ins KC dx (az "free" (.ref b1) []))):=(cE.of (ak.new jy)).trans cE.upd
  generalize upd (upd H b1 (.lst x1)) q (.ins KC dx (az "free" (.ref b1) []))=H1 at*
  refine⟨_,rfl,a2,_,rfl, .inl (aD.of (e1 _ _ h2 n2)),fun b2 nZ=>⟨_,rfl,q,KC,dx,_,rfl,by rw[ao (af q1 nZ)];exact q1,T.dc,T.pf,by have:=len "free" (.ref b1) [] 0 (by simp);omega,?_⟩⟩
  have m2:b2≠q:=Ne.symm (af q1 nZ)
  have q2:(upd (upd H1 b2 (.lst x2)) q (.ins KC dx (az "bound" (.ref b2) (az "free" (.ref b1) [])))) q=some (.ins KC dx (az "bound" (.ref b2) (az "free" (.ref b1) []))):=ae
  have l2:(upd (upd H1 b2 (.lst x2)) q (.ins KC dx (az "bound" (.ref b2) (az "free" (.ref b1) [])))) b2=some (.lst x2):=by rw[ao m2];exact ae
  have e2:cE q H1 (upd (upd H1 b2 (.lst x2)) q (.ins KC dx (az "bound" (.ref b2) (az "free" (.ref b1) [])))):=(cE.of (ak.new nZ)).trans cE.upd
  generalize upd (upd H1 b2 (.lst x2)) q (.ins KC dx (az "bound" (.ref b2) (az "free" (.ref b1) [])))=H2 at*
  have Gj:=e1.trans e2
  refine⟨_,rfl,a3,_,rfl, .inl (aD.of (Gj _ _ h3 n3)),fun b3 Ow=>⟨_,rfl,q,KC,dx,_,rfl,by rw[ao (af q2 Ow)];exact q2,T.dc,T.qy,by have:=len "bound" (.ref b2) _ 1 (len "free" (.ref b1) [] 0 (by simp));omega,?_⟩⟩
  have m3:b3≠q:=Ne.symm (af q2 Ow)
  have q3:(upd (upd H2 b3 (.lst x3)) q (.ins KC dx (az "numbers" (.ref b3) (az "bound" (.ref b2) (az "free" (.ref b1) []))))) q=some (.ins KC dx (az "numbers" (.ref b3) (az "bound" (.ref b2) (az "free" (.ref b1) [])))):=ae
  have l3:(upd (upd H2 b3 (.lst x3)) q (.ins KC dx (az "numbers" (.ref b3) (az "bound" (.ref b2) (az "free" (.ref b1) []))))) b3=some (.lst x3):=by rw[ao m3];exact ae
  have e3:cE q H2 (upd (upd H2 b3 (.lst x3)) q (.ins KC dx (az "numbers" (.ref b3) (az "bound" (.ref b2) (az "free" (.ref b1) []))))):=(cE.of (ak.new Ow)).trans cE.upd
  generalize upd (upd H2 b3 (.lst x3)) q (.ins KC dx (az "numbers" (.ref b3) (az "bound" (.ref b2) (az "free" (.ref b1) []))))=H3 at*
  have BA:=Gj.trans e3
  refine⟨_,rfl,a4,_,rfl, .inl (aD.of (BA _ _ h4 n4)),fun b4 Ox=>⟨_,rfl,q,KC,dx,_,rfl,by rw[ao (af q3 Ox)];exact q3,T.dc,T.ph,by have:=len "numbers" (.ref b3) _ 2 (len "bound" (.ref b2) _ 1 (len "free" (.ref b1) [] 0 (by simp)));omega,?_⟩⟩
  have m4:b4≠q:=Ne.symm (af q3 Ox)
  have e4:cE q H3 (upd (upd H3 b4 (.lst x4)) q (.ins KC dx (az "weights" (.ref b4) (az "numbers" (.ref b3) (az "bound" (.ref b2) (az "free" (.ref b1) [])))))):=(cE.of (ak.new Ox)).trans cE.upd
  have back:∀{Hx:Hp} {b:Addr},cE q H Hx→b≠q→Hx b=none→H b=none:=fun {Hx b} e n h=>by
   cases z:H b with
   |none=>rfl
   |some o=>rw[e b o z n] at h;cases h
  refine k b1 b2 b3 b4 _ _ ⟨jy,back e1 m2 nZ,back Gj m3 Ow,back BA m4 Ox⟩ ⟨ae,Ig.Qn b1 b2 b3 b4⟩ (e4 _ _ (e3 _ _ (e2 _ _ l1 m1) m1) m1) (e4 _ _ (e3 _ _ l2 m2) m2) (e4 _ _ l3 m3) (by rw[ao m4];exact ae) fun b o h n=>(BA.trans e4) b o h n
theorem dF:aI ["columns","frame","free","numbers","place","column","shares","row"] ["columns"] (ag eD):=iz
theorem t6(D:Def K mg "kernel" "kernel" eD ["columns"])(T:Txt K mg KC FC)(c1:jw P w K mg base 1 FC ["self"] [] (rS FC))(c2:jw P w K mg base 1 KC ["self","free","bound","numbers","weights"] [] (rX KC))(c3:cF P w K mg base 2 FC "shares" ["self","column"] (o8 FC))
  (c4:cF P w K mg base 2 FC "row_with_rest" ["self","column","shares"] (Bq FC)) (c5:cF P w K mg base 3 FC "levelling" ["self","place","shares","many"] (Br FC)) (c6:cF P w K mg base 2 FC "bind" ["self","place","column","shares","row"] (wz FC)):
  cC P w K mg base 4 "kernel" ["columns"] (pb KC):=by
 obtain⟨_,_,aN⟩:=c1
 obtain⟨_,_,dc⟩:=c2
 obtain⟨_,_,d7⟩:=c3
 obtain⟨_,_,b9⟩:=c4
 obtain⟨_,_,df⟩:=c5
 obtain⟨_,_,fE⟩:=c6
 obtain⟨_,t7,t8⟩:=aN.b 0 (by decide)
 obtain⟨_,qD,qE⟩:=dc.b 0 (by decide)
 refine D.il dF (fun vs H Q E h=>?_) (fun f b6 A outer s H vs Q E hr h=>?_)
 ·obtain⟨p,as,cs,n,rfl,_⟩:=h
  rfl
 ·obtain⟨p,as,cs,n,rfl,hp,fj,Qy,hn,hl,k⟩:=h
  have big:(1001 :Nat)≤sizeLine:=by decide
  have pP:=fj.length
  refine⟨_,(ah
     (aF (i:=1) dF.nd rfl (Or.inl rfl) (uZ aN.m aN.ok (hr.mono (by decide)) rfl T.yX t8 t7 a8))
    (ah
     (aF (i:=2) dF.nd rfl (Or.inl rfl) (bq ai))
    (ah
     (aF (i:=3) dF.nd rfl (Or.inl rfl) (bq ai))
    (ah
     (b5 PassesOwn.never rfl (yF rfl T.pj (aa (pv 0) ai)) (ke rfl (aK (av (i:=4) dF.nd rfl (Or.inl rfl)) (aK (av (i:=5) dF.nd rfl (Or.inl rfl)) bX)))
      (ah
       (aF (i:=6) dF.nd rfl (Or.inl rfl) (dO (pv 1) T.aN d7.m d7.ok (hr.mono (by decide)) d7.b .nil a8 (aa (pv 5) ai)))
      (ah
       (aF (i:=7) dF.nd rfl (Or.inl rfl) (dO (pv 1) T.aN b9.m b9.ok (hr.mono (by decide)) b9.b .nil a8 (aa (pv 5) (aa (pv 6) ai))))
      (aw
       (eg (CD (CC (pv 7)))
        (ah
         (cK (fX PySem.F.plainAttrs_list PySem.F.slot_list_append PySem.F.type_list_append bI (pv 2) (aa (pv 4) ai)))
        (aw
         (cK (fX PySem.F.plainAttrs_list PySem.F.slot_list_append PySem.F.type_list_append bI (pv 3) (aa (dO (pv 1) T.aN df.m df.ok (hr.mono (by decide)) df.b .nil a8 (aa (pv 4) (aa (pv 6) (aa (aL aY rfl T.fK dI (aa (pv 0) ai)) ai)))) ai)))))
        (aw
         (cK (dO (pv 1) T.aN fE.m fE.ok (hr.mono (by decide)) fE.b .nil a8 (aa (pv 4) (aa (pv 5) (aa (pv 6) (aa (pv 7) ai))))))))))))
    (aw
     (aU (mK dc.m dc.ok (hr.mono (by decide)) rfl T.wK qE qD a8 (aa (pv 2) (aa (bR (pv 1) rfl) (aa (pv 3) (aa (bR (pv 1) rfl) ai))))))))))),?_⟩
  refine fun q dx nq Qz Oy=>⟨q,dx,rfl,ae,fun aP aB aW H1 Te Tf Vm Vn=>⟨rfl,?_⟩⟩
  have s1:ak H H1:=fun b o h=>Vn b o (by rw[ao (af h nq),ao (af h Qz)];exact h) (af h nq)
  refine⟨(by show 0≤sizeLine;omega),fun fr xX=>⟨(by show 0≤sizeLine;omega),fun nu Gk=>?_⟩⟩
  have Vo:bc FC [nu,fr] (upd (upd H1 fr (.lst [])) nu (.lst [])) q dx aP aB aW ⟨1,[],[],[]⟩:=(Vm.more (o:= .lst []) xX (ak.new xX) ae).more (o:= .lst []) Gk (ak.new Gk) ae
  have f2:(upd (upd H1 fr (.lst [])) nu (.lst [])) fr=some (.lst []):=by rw[ao (af ae Gk)];exact ae
  have u2:(upd (upd H1 fr (.lst [])) nu (.lst [])) nu=some (.lst []):=ae
  have Tg:fr≠nu:=af ae Gk
  have s2:ak H (upd (upd H1 fr (.lst [])) nu (.lst [])):=(s1.trans (ak.new xX)).trans (ak.new Gk)
  have Vp:H q=none:=nq
  have Vq:H aP=none:=by
   cases z:H aP with
   |none=>rfl
   |some o=>rw[ao (af z nq),ao (af z Qz),z] at Te;cases Te
  have Vr:H aB=none:=by
   cases z:H aB with
   |none=>rfl
   |some o=>rw[ao (af z nq),ao (af z Qz),z] at Tf;cases Tf
  have Th:H fr=none:=s1.free xX
  have Ti:H nu=none:=(s1.trans (ak.new xX)).free Gk
  generalize upd (upd H1 fr (.lst [])) nu (.lst [])=H2 at*
  have base:∀{b:Addr} {o:HO},H b=some o→b∉[q,aP,aB]∧b∉[fr,nu]:=fun {b o} h=>by
   have a1:=af h Vp
   have a2:=af h Vq
   have a3:=af h Vr
   have a4:=af h Th
   have a5:=af h Ti
   simp [a1,a2,a3,a4,a5]
  dsimp only [aO]
  refine⟨_,rfl,p,rfl,⟨_,aD.of (s2 _ _ hp)⟩,vt (K:=K) (a:=p) (xs:=as.map V.ref) (fun i σ H'=>∃(aW:Addr) (nA:List Addr) (v4 v5 v6 v7:Option V),σ=[some (.ref p),some (.ref q),some (.ref fr),some (.ref nu),v4,v5,v6,v7]∧ak H H'∧bc FC [nu,fr] H' q dx aP aB aW (cJ cs.length (cs.take i)).st∧
    H' fr=some (.lst ((cJ cs.length (cs.take i)).free.map fun p=>V.int (p:Nat)))∧H' nu=some (.lst (nA.map V.ref))∧aE [q,aP,aB,fr,nu] H' nA (cJ cs.length (cs.take i)).bP∧∀a∈nA,H a=none)
   ⟨aW,[],none,none,none,none,rfl,s2,Vo,f2,u2, .nil,fun a h=>by cases h⟩ ?_ ?_ ?_⟩
  ·rintro i σ H' ⟨aW,nA,v4,v5,v6,v7,rfl,e,_⟩
   exact aD.of (e _ _ hp)
  ·rintro i x t σ H' hx ht ⟨aW,nA,v4,v5,v6,v7,rfl,e,FA,BB,uA,BC,nn⟩
   obtain⟨cA,Vs,rfl⟩:=bH hx
   obtain⟨c,ni,mz,_⟩:=fj.get Vs
   have rG:=List.mem_of_getElem? ni
   obtain⟨lc,fc⟩:=Qy c rG
   have hi:i<cs.length:=(List.getElem?_eq_some_iff.mp ni).1
   have I:=wD (n:=n) (many:=cs.length) (fun c h=>(Qy c h).1) i (by omega)
   have S:=I.sm hn (by omega) fun c h=>(Qy c h).2
   have Tj:cJ cs.length (cs.take (i+1))=iN cs.length (cJ cs.length (cs.take i)) i c:=by rw[ay ni,fe,List.length_take,Nat.min_eq_left (by omega)]
   generalize cJ cs.length (cs.take i)=x at*
   have et:ak H' (upd H' t (.tup [.int i, .ref cA])):=ak.new ht
   refine⟨t,_,rfl,kd.of ae,rfl,_,_,rfl,_,_,rfl,rfl,?_⟩
   replace BB:=et _ _ BB
   replace uA:=et _ _ uA
   replace FA:=FA.same et
   replace BC:=BC.same et
   replace e:=e.trans et
   generalize upd H' t (.tup [.int i, .ref cA])=H3 at*
   obtain⟨fs,hq,ff⟩:=FA.obj
   dsimp only [aO]
   refine⟨_,rfl,q,dx,fs,rfl,hq,ff.no _ (by decide+kernel) (by decide+kernel) (by decide+kernel) (by decide+kernel),_,rfl,[nu,fr],q,dx,aP,aB,aW,cA,x.st,n,c,rfl,FA,S,⟨e _ _ mz,lc,fc⟩,fun sA H4 pO e4 h4=>?_⟩
   have QA:=FA.same e4
   refine⟨_,rfl,q,dx,fs,rfl,e4 _ _ hq,ff.no _ (by decide+kernel) (by decide+kernel) (by decide+kernel) (by decide+kernel),_,rfl,_,rfl,[nu,fr],q,dx,aP,aB,aW,cA,sA,x.st,n,c,rfl,QA,S,⟨(e.trans e4) _ _ mz,lc,fc⟩,h4,fun H5 e5=>⟨fun r qC=>?_,fun qC=>?_⟩⟩
   ·
    have QB:=QA.same e5
    have s5:=e5 _ _ h4
    have uB:=e4.trans e5
    have Ov:cA∉aP::aB::[nu,fr]:=fun z=>by
     have b:=base mz
     simp only [List.mem_cons,List.not_mem_nil,or_false,not_or] at b z
     rcases z with z|z|z|z
     ·exact b.1.2.1 z
     ·exact b.1.2.2 z
     ·exact b.2.2 z
     ·exact b.2.1 z
    refine⟨_,rfl,_,rfl,PR (by intro z;cases z) ⟨_,rfl,q,dx,fs,rfl,uB _ _ hq,ff.no _ (by decide+kernel) (by decide+kernel) (by decide+kernel) (by decide+kernel),_,rfl,_,rfl,_,rfl,_,rfl,[nu,fr],q,dx,aP,aB,aW,cA,sA,x.st,n,c,i,r,rfl,QB,S,by have:=I.bx;omega,⟨(e.trans uB) _ _ mz,lc,fc⟩,Ov,s5,qC,fun Gh H6 k6 DV=>?_⟩⟩
    obtain⟨_,_,_,Bx,By,_,Bz⟩:=FA.ne
    simp only [List.mem_cons,List.not_mem_nil,or_false,not_or] at Bx By Bz
    have sx:cJ cs.length (cs.take (i+1))={ x with st:=bindL x.st i c (au x.st c) r }:=by
     rw[Tj];unfold iN;rw[qC]
    have kf:H6 fr=_:=k6 _ _ (uB _ _ BB) (by simp [Ne.symm Bz.2,Ne.symm Bx.2,Ne.symm By.2])
    have ku:H6 nu=_:=k6 _ _ (uB _ _ uA) (by simp [Ne.symm Bz.1,Ne.symm Bx.1,Ne.symm By.1])
    refine⟨Gh,nA,_,_,_,_,rfl,fun b o h=>k6 _ _ (uB _ _ (e _ _ h)) (base h).1,by rw[sx];exact DV,by rw[sx];exact kf,ku,by rw[sx];exact(BC.same uB).keep fun b o h hb=>k6 _ _ h fun z=>hb (by simp only [List.mem_cons,List.not_mem_nil,or_false] at z ⊢;rcases z with z|z|z<;>simp [z]),nn⟩
   ·
    have QB:=QA.same e5
    have s5:=e5 _ _ h4
    have uB:=e4.trans e5
    have f5:=uB _ _ BB
    have u5:=uB _ _ uA
    have n5:=BC.same uB
    have q5:=uB _ _ hq
    have Vt:=e.trans uB
    have lf:=I.nf
    have WK:=I.nn
    have Tb:=BC.length
    refine⟨_,rfl,_,rfl,PQ rfl ⟨_,rfl, .inl ⟨rfl,_,aD.of f5⟩,_,rfl,fr,_,_,rfl,rfl,f5,by rw[List.length_map];omega,?_⟩⟩
    have Vu:sA≠fr:=fun z=>by rw[z] at pO;rw[BB] at pO;cases pO
    obtain⟨_,_,_,Bx,By,_,Bz⟩:=FA.ne
    simp only [List.mem_cons,List.not_mem_nil,or_false,not_or] at Bx By Bz
    have DV:bc FC [nu,fr] (upd H5 fr (.lst (x.free.map (fun p=>V.int (p:Nat))++[.int i]))) q dx aP aB aW x.st:=QB.but (b:=fr) (by simp) cE.upd ae
    have f6:(upd H5 fr (.lst (x.free.map (fun p=>V.int (p:Nat))++[.int i]))) fr=some (.lst ((x.free++[i]).map fun p=>V.int (p:Nat))):=by rw[ae];simp
    have u6:(upd H5 fr (.lst (x.free.map (fun p=>V.int (p:Nat))++[.int i]))) nu=_:=(ao (Ne.symm Tg)).trans u5
    have n6:aE [q,aP,aB,fr,nu] (upd H5 fr (.lst (x.free.map (fun p=>V.int (p:Nat))++[.int i]))) nA x.bP:=n5.keep fun b o h hb=>by rw[ao (fun z=>hb (by simp [z]))];exact h
    have s6:(upd H5 fr (.lst (x.free.map (fun p=>V.int (p:Nat))++[.int i]))) sA=_:=(ao Vu).trans s5
    have QC:ak H (upd H5 fr (.lst (x.free.map (fun p=>V.int (p:Nat))++[.int i]))):=fun b o h=>by rw[ao (af h Th)];exact Vt _ _ h
    generalize upd H5 fr (.lst (x.free.map (fun p=>V.int (p:Nat))++[.int i]))=H6 at*
    obtain⟨Vv,q6,Vw⟩:=DV.obj
    refine⟨_,rfl, .inl ⟨rfl,_,aD.of u6⟩,_,rfl,q,dx,Vv,rfl,q6,Vw.no _ (by decide+kernel) (by decide+kernel) (by decide+kernel) (by decide+kernel),_,rfl,_,rfl,_,rfl,p,_,rfl, .inl (aD.of (QC _ _ hp)),[nu,fr],q,dx,aP,aB,aW,sA,x.st,n,c,i,cs.length,(by rw[List.length_map,pP];rfl),DV,S,fc,s6,hi,by omega,fun p hp=>Nat.lt_trans (I.nY p hp) hi,fun l H7 hl e7 h7=>?_⟩
    have u7:=e7 _ _ u6
    refine⟨nu,_,_,rfl,rfl,u7,by rw[List.length_map];omega,?_⟩
    have sx:cJ cs.length (cs.take (i+1))={ x with free:=x.free++[i],bP:=x.bP++[low (cx x.st i (au x.st c) cs.length)] }:=by
     rw[Tj];unfold iN;rw[qC]
    have Tn:l≠nu:=fun z=>by rw[z,u6] at hl;cases hl
    have lW:l∉[q,aP,aB,fr,nu]:=fun z=>by
     obtain⟨WL,Vx,_⟩:=DV.hB
     simp only [List.mem_cons,List.not_mem_nil,or_false] at z
     rcases z with z|z|z|z|z
     ·rw[z,q6] at hl;cases hl
     ·rw[z,DV.hP] at hl;cases hl
     ·rw[z,Vx] at hl;cases hl
     ·rw[z,f6] at hl;cases hl
     ·exact Tn z
    have up:∀b o,H7 b=some o→b≠nu→(upd H7 nu (.lst (nA.map V.ref++[.ref l]))) b=some o:=fun b o h n=>by rw[ao n];exact h
    refine⟨aW,nA++[l],_,_,_,_,rfl,fun b o h=>up _ _ (e7 _ _ (QC _ _ h)) (af h Ti),by rw[sx];exact(DV.same e7).but (b:=nu) (by simp) cE.upd ae,by rw[sx];exact up _ _ (e7 _ _ f6) Tg,by rw[ae];simp,?_,fun a ha=>?_⟩
    ·rw[sx]
     exact((n6.same e7).keep fun b o h hb=>up _ _ h fun z=>hb (by simp [z])).snoc (up _ _ h7 Tn) lW
    ·rcases List.mem_append.mp ha with z|z
     ·exact nn a z
     ·have z:a=l:=by simpa using z
      rw[z];exact QC.free hl
  ·rintro σ H' ⟨aW,nA,v4,v5,v6,v7,rfl,e,FA,BB,uA,BC,nn⟩
   rw[List.length_map,pP,List.take_length] at FA BB BC
   obtain⟨fs,hq,ff⟩:=FA.obj
   obtain⟨wA,hW,cW⟩:=FA.hW
   refine⟨_,rfl,_,rfl,q,FC,dx,fs,_,rfl,hq,T.aN,T.gM,ff.p,_,rfl,_,rfl,q,FC,dx,fs,_,rfl,hq,T.aN,T.cP,ff.w,fun kq dk nk Vy WM=>?_⟩
   have sk:ak H' (upd (upd H' dk (.own kq)) kq (.ins KC dk [])):=fun b o h=>by rw[ao (af h nk),ao (af h Vy)];exact h
   refine⟨kq,dk,fr,aP,nu,aW,_,_,_,_,rfl,ae,sk _ _ BB,sk _ _ FA.hP,sk _ _ uA,sk _ _ hW,fun b1 b2 b3 b4 wX H2 ⟨m1,m2,m3,m4⟩ ⟨hk,Vz⟩ l1 l2 l3 l4 kp=>⟨rfl,?_⟩⟩
   have QD:ak H' H2:=fun b o h=>kp _ _ (sk _ _ h) (af h nk)
   have bk:∀{b:Addr},(upd (upd H' dk (.own kq)) kq (.ins KC dk [])) b=none→H b=none:=fun h=>(e.trans sk).free h
   have toN:∀{as:List Addr} {ds:List (List Int)},(∀a∈as,H a=none)→aE [q,aP,aB,fr,nu] H' as ds→bG kq H H2 as ds:=fun {as ds} hn h=>by
    induction h with
    |nil=>exact .nil
    |cons hd _ ih=>exact .cons ⟨QD _ _ hd.1,af hd.1 nk,hn _ (List.mem_cons_self ..)⟩ (ih fun a ha=>hn a (List.mem_cons_of_mem _ ha))
   exact k kq H2 (e.trans QD) ⟨dk,wX,b1,b2,b3,b4,hk,Vz,⟨e.free nk,bk m1,bk m2,bk m3,bk m4⟩,l1,l2,⟨nA,l3,toN nn BC⟩,wA,l4,(cW.perm (by simp)).same QD⟩
theorem px{k:Int}:∀(ns:List Int) (c:Int),k ∣ c→(∀n∈ns,k ∣ n)→k ∣ ns.foldl (fun c n=>((Int.gcd c n:Nat):Int)) c
 | [],c,hc,_=>hc
 |z::r,c,hc,h=>px r _ (Int.dvd_coe_gcd hc (h z (List.mem_cons_self ..))) fun n hn=>h n (List.mem_cons_of_mem _ hn)
theorem zc{ns:List Int}(h:bW ns≠0):bW (low ns)=1:=by
 have h0:=gm (low ns)
 have hd:bW (low ns)*bW ns ∣ bW ns:=by
  refine px ns 0 (Int.dvd_zero _) fun n hn=>?_
  rw[←mn ns h] at hn
  obtain⟨m,hm,rfl⟩:=List.mem_map.mp hn
  exact Int.mul_dvd_mul_right _ (gj hm)
 obtain⟨k,hk⟩:=hd
 have:bW (low ns)*k=1:=by
  have e:bW ns*(bW (low ns)*k)=bW ns*1:=by rw[Int.mul_one,←Int.mul_assoc,Int.mul_comm (bW ns)];exact hk.symm
  exact Int.eq_of_mul_eq_mul_left h e
 exact Int.eq_one_of_mul_eq_one_right h0 this
theorem nM{n:Nat}{cs:List (List Int)}(hn:n≤1000)(hl:cs.length≤60)(hc:∀c∈cs,c.length=n∧∀x∈c,cG 70 x):Good cs n (cJ cs.length cs):=by
 have HQ:∀c∈cs,c.length=n:=fun c h=>(hc c h).1
 have key:∀i,i≤cs.length→(cJ cs.length (cs.take i)).st.places.Pairwise (· < ·)∧(cJ cs.length (cs.take i)).free.Pairwise (· < ·)∧∀t∈(cJ cs.length (cs.take i)).bP,bW t=1:=by
  intro i
  induction i with
  |zero=>intro _;exact⟨.nil, .nil,fun t h=>by simp [cJ] at h⟩
  |succ i ih=>
   intro hi
   obtain⟨h1,h2,h3⟩:=ih (by omega)
   obtain⟨F,pl,t⟩:=nh HQ i (by omega)
   have ni:=List.getElem?_eq_getElem (l:=cs) (i:=i) (by omega)
   rw[ay ni,fe,List.length_take,Nat.min_eq_left (by omega)]
   generalize cJ cs.length (cs.take i)=x at*
   generalize cs[i]=c at*
   unfold iN
   split
   ·refine⟨h1,?_,fun u hu=>?_⟩
    ·rw[List.pairwise_append]
     refine⟨h2,by simp,fun a ha b hb=>?_⟩
     have hb:b=i:=by simpa using hb
     rw[hb];exact(t.pK a ha).1
    ·rcases List.mem_append.mp hu with z|z
     ·exact h3 u z
     ·have z:u=low (cx x.st i (au x.st c) cs.length):=by simpa using z
      rw[z]
      refine zc fun g=>?_
      have Gg:i∉x.st.places:=fun z=>Nat.lt_irrefl _ (t.nY i z)
      have ri:(cx x.st i (au x.st c) cs.length).getD i 0=x.st.scale:=by
       unfold cx;rw[fz _ _ _ Gg,jC (by simp;omega)]
      have Ie:(cx x.st i (au x.st c) cs.length).length=cs.length:=by unfold cx;rw[kM];simp
      have hm:x.st.scale∈cx x.st i (au x.st c) cs.length:=by
       rw[←ri];exact List.mem_of_getElem? (getD_at (by omega))
      have:=gj hm
      rw[g] at this
      have:=Int.zero_dvd.mp this
      obtain⟨R,G⟩:=F.fr
      have:=G.pos
      omega
   ·rename_i r hr
    refine⟨?_,h2,h3⟩
    show (x.st.places++[i]).Pairwise (· < ·)
    rw[List.pairwise_append]
    refine⟨h1,by simp,fun a ha b hb=>?_⟩
    have hb:b=i:=by simpa using hb
    rw[hb];exact t.nY a ha
 have k:=key cs.length (Nat.le_refl _)
 have tk:=nh HQ cs.length (Nat.le_refl _)
 have nf:=jD (many:=cs.length) hn hl hc cs.length (Nat.le_refl _)
 have sm:=(wD (n:=n) (many:=cs.length) HQ cs.length (Nat.le_refl _)).sm hn hl fun c h=>(hc c h).2
 have cf:=(wD (n:=n) (many:=cs.length) HQ cs.length (Nat.le_refl _)).nf
 rw[List.take_length] at k tk nf sm cf
 exact⟨tk.1,tk.2.1,tk.2.2,k.1,k.2.1,k.2.2,nf,sm.w,cf⟩
theorem rep0(n:Nat):(List.replicate n [V.int 0]).flatten=(List.replicate n (0 :Int)).map V.int:=by
 induction n with
 |zero=>rfl
 |succ n ih=>rw[List.replicate_succ,List.flatten_cons,ih,List.replicate_succ];rfl
theorem fF{W:List Addr}{H:Hp}{as:List Addr}{cs:List (List Int)}(h:aE W H as cs):∀(ps:List Nat),(∀i∈ps,i<as.length)→aE W H (ps.map fun i=>as.getD i 0) (nC cs ps)
 | [],_=> .nil
 |i::ps,hp=>by
  have hi:=hp i (List.mem_cons_self ..)
  obtain⟨c,hc,hs⟩:=h.get (List.getElem?_eq_getElem hi)
  refine .cons ?_ (fF h ps fun j hj=>hp j (List.mem_cons_of_mem _ hj))
  show H (as.getD i 0)=some (.lst ((cs.getD i []).map V.int))∧as.getD i 0∉W
  rw[List.getD_eq_getElem?_getD,List.getD_eq_getElem?_getD,hc,List.getElem?_eq_getElem hi]
  exact hs
theorem zd:aI ["self","numbers","gathered","first"] ["self","numbers","gathered","first"] (ag hU):=iz
theorem wZ(D:oE K TC "Trial.__init__" hU ["self","numbers","gathered","first"] [])(T:ig K mg KC FC TC):jw P w K mg base 1 TC ["self","numbers","gathered","first"] [] (nI TC):=by
 refine D.il zd (fun vs H Q E h=>?_) (fun f b6 A outer s H vs Q E hr h=>?_)
 ·obtain⟨q,dx,a1,a2,x1,x2,i,rfl,_⟩:=h
  rfl
 ·obtain⟨q,dx,a1,a2,x1,x2,i,rfl,hq,h1,h2,k⟩:=h
  refine⟨_,(ah
     (dj (pv 0) (cq br rfl T.n_list cX (aa (pv 1) ai)) rfl)
    (ah
     (dj (pv 0) (cq br rfl T.n_list cX (aa (pv 2) ai)) rfl)
    (aw
     (dj (pv 0) (pv 3) rfl)))),?_⟩
  have n2:a2≠q:=fQ h2 hq (by intro z;cases z)
  have len:∀(f:Str) (v:V) (fs:List (Str×V)) (n:Nat),fs.length≤n→(az f v fs).length≤n+1:=fun f v fs n h=>Nat.le_trans (bL f v fs) (by omega)
  refine⟨_,rfl,a1,_,rfl, .inl (aD.of h1),fun b1 jy=>⟨_,rfl,q,TC,dx,_,rfl,by rw[ao (af hq jy)];exact hq,T.bh,T.wL,(by show 0<1000;decide),?_⟩⟩
  have m1:b1≠q:=Ne.symm (af hq jy)
  have q1:(upd (upd H b1 (.lst x1)) q (.ins TC dx (az "numbers" (.ref b1) []))) q=some (.ins TC dx (az "numbers" (.ref b1) [])):=ae
  have l1:(upd (upd H b1 (.lst x1)) q (.ins TC dx (az "numbers" (.ref b1) []))) b1=some (.lst x1):=by rw[ao m1];exact ae
  have e1:cE q H (upd (upd H b1 (.lst x1)) q (.ins TC dx (az "numbers" (.ref b1) []))):=(cE.of (ak.new jy)).trans cE.upd
  generalize upd (upd H b1 (.lst x1)) q (.ins TC dx (az "numbers" (.ref b1) []))=H1 at*
  refine⟨_,rfl,a2,_,rfl, .inl (aD.of (e1 _ _ h2 n2)),fun b2 nZ=>⟨_,rfl,q,TC,dx,_,rfl,by rw[ao (af q1 nZ)];exact q1,T.bh,T.wM,by have:=len "numbers" (.ref b1) [] 0 (by simp);omega,?_⟩⟩
  have m2:b2≠q:=Ne.symm (af q1 nZ)
  have VA:b1≠b2:=af l1 nZ
  have ze:H b2=none:=by
   cases z:H b2 with
   |none=>rfl
   |some o=>rw[e1 _ _ z m2] at nZ;cases nZ
  have q2:(upd (upd H1 b2 (.lst x2)) q (.ins TC dx (az "gathered" (.ref b2) (az "numbers" (.ref b1) [])))) q=some (.ins TC dx (az "gathered" (.ref b2) (az "numbers" (.ref b1) []))):=ae
  have l2:(upd (upd H1 b2 (.lst x2)) q (.ins TC dx (az "gathered" (.ref b2) (az "numbers" (.ref b1) [])))) b2=some (.lst x2):=by rw[ao m2];exact ae
  have VB:(upd (upd H1 b2 (.lst x2)) q (.ins TC dx (az "gathered" (.ref b2) (az "numbers" (.ref b1) [])))) b1=some (.lst x1):=by rw[ao m1,ao VA];exact l1
  have e2:cE q H (upd (upd H1 b2 (.lst x2)) q (.ins TC dx (az "gathered" (.ref b2) (az "numbers" (.ref b1) [])))):=(e1.trans (cE.of (ak.new nZ))).trans cE.upd
  generalize upd (upd H1 b2 (.lst x2)) q (.ins TC dx (az "gathered" (.ref b2) (az "numbers" (.ref b1) [])))=H2 at*
  refine⟨_,rfl,_,rfl,q,TC,dx,_,rfl,q2,T.bh,T.Bt,?_,?_⟩
  ·have:=len "gathered" (.ref b2) (az "numbers" (.ref b1) []) 1 (len "numbers" (.ref b1) [] 0 (by simp))
   omega
  ·exact k b1 b2 _ _ jy ze ae (Ii.Vf b1 b2 i) (by rw[ao m1];exact VB) (by rw[ao m2];exact l2) fun b o z w=>by rw[ao w];exact e2 b o z w
theorem t9:aI ["self"] ["self"] (ag dB):=iz
theorem qF(D:ed K TC "is_level" "Trial.is_level" dB ["self"])(T:ig K mg KC FC TC):cF P w K mg base 1 TC "is_level" ["self"] (my TC):=by
 refine D.il t9 (fun vs H Q E h=>?_) (fun f b6 A outer s H vs Q E hr h=>?_)
 ·obtain⟨t,bx,wd,x,rfl,_⟩:=h
  rfl
 ·obtain⟨t,bx,wd,x,rfl,⟨dx,fs,a,b,h1,h2,h3,h4,_⟩,q⟩:=h
  refine⟨_,(aw
     (aU (CH (aL (tL rfl) rfl T.wN qi (aa (bR (pv 0) rfl) ai))))),?_⟩
  exact⟨_,rfl,t,TC,dx,fs,_,rfl,h1,T.bh,T.wM,h2.g,b,_,rfl,aD.of h4,_,rfl,q⟩
theorem DW:aI ["small","great"] ["small","great"] (ag iI):=iz
theorem zf(D:Def K mg "fits" "fits" iI ["small","great"])(T:ig K mg KC FC TC):cC P w K mg base 1 "fits" ["small","great"] nJ:=by
 refine D.il DW (fun vs H Q E h=>?_) (fun f b6 A outer s H vs Q E hr h=>?_)
 ·obtain⟨p,r,xs,ys,rfl,_⟩:=h
  rfl
 ·obtain⟨p,r,xs,ys,rfl,hp,pN,lx,q⟩:=h
  have big:(1001 :Nat)≤sizeLine:=by decide
  refine⟨_,(aw
     (aU (aL (oQ rfl) rfl T.Bs vy (aa (ba (sc:=(ag iI)) (NX:=["small","great"]) (N:=["one","other"]) (fr:=[none,none]) ⟨by rfl,by rfl,by decide+kernel,by decide+kernel,by decide+kernel,by rfl,by decide+kernel⟩ rfl rfl rfl (dJ rfl T.fM (aa (pv 0) (aa (pv 1) ai))) (fun _ _ _ _=>(cY K 2 rfl rfl (aK (av (i:=0) (show (["one","other"]:List Str).Nodup by decide+kernel) rfl (Or.inl rfl) (Or.inr rfl)) (aK (av (i:=1) (show (["one","other"]:List Str).Nodup by decide+kernel) rfl (Or.inl rfl) (Or.inr rfl)) bX)))) (fun _ _ _ _=>aS) (fun _ _ _ _=>(jR Bd (pv 0) (pv 1) (cz _)))) ai)))),?_⟩
  refine⟨_,rfl,_,rfl,p,r,rfl,⟨_,aD.of hp⟩,⟨_,aD.of pN⟩,fun L hL=>cZ (K:=K) (a:=p) (c:=r) (L:=L) (xs:=xs.map V.int) (zs:=ys.map V.int) H (fun σ=>∃v u:Option V,σ=[v,u]) (fun i us=>us=(((xs.zip ys).take i).map fun ab=>decide (ab.1≤ab.2)).map V.bl∧i≤(xs.zip ys).length)
   (aD.of hp) (aD.of pN) hL ⟨none,none,rfl⟩ (ak.new hL) ae ⟨rfl,Nat.zero_le _⟩ (by rw[List.length_map];omega) ?_ ?_ ?_⟩
  ·rintro i us ⟨rfl,_⟩
   rw[List.length_map,List.length_map,List.length_take]
   omega
  ·rintro i x z t σ H2 us hx hz ht ⟨v,u,rfl⟩ hs de ⟨rfl,hi⟩ N M hN
   obtain⟨x,jG,rfl⟩:=int_at hx
   obtain⟨z,gG,rfl⟩:=int_at hz
   have j8:(xs.zip ys)[i]? =some (x,z):=by rw[List.getElem?_zip_eq_some];exact⟨jG,gG⟩
   have gI:i+1≤(xs.zip ys).length:=(List.getElem?_eq_some_iff.mp j8).1
   have fP:(upd H2 t (.tup [V.int x,V.int z])) L=_:=ak.new ht _ _ de
   refine⟨t,_,rfl,kd.of ae,rfl,_,_,rfl,_,_,rfl,rfl,_,rfl,_,rfl,_,_,rfl,rfl,hN _ _ _ ⟨_,_,rfl⟩ (hs.trans (ak.new ht)) fP ⟨?_,gI⟩⟩
   rw[ay j8,List.map_append,List.map_append]
   rfl
  ·rintro H2 us hs de ⟨rfl,_⟩
   have e:(xs.zip ys).take (min (xs.map V.int).length (ys.map V.int).length)=xs.zip ys:=List.take_of_length_le (by rw[List.length_zip,List.length_map,List.length_map];exact Nat.le_refl _)
   rw[e] at de
   refine⟨L,_,rfl,aD.of de,?_⟩
   have:=q _ hs
   rw[List.all_map]
   exact this
theorem w5:∀(v y:List Int) (p:Nat),p<v.length→v.length=y.length→dot (h9 v p) y=dot v y+y.getD p 0
 |a::v,b::y,0,_,_=>by
  show (a+1)*b+dot v y=a*b+dot v y+b
  rw[Int.add_mul,Int.one_mul]
  omega
 |a::v,b::y,p+1,h,hl=>by
  have ih:=w5 v y p (by simpa using h) (by simpa using hl)
  show a*b+dot (h9 v p) y=a*b+dot v y+y.getD p 0
  rw[ih]
  omega
 | [],_,_,h,_=>by simp at h
 |_::_,[],_,_,h=>by simp at h
theorem zg{bx:List (List Int)}{wd p:Nat}{v col:List Int}(hv:v.length=bx.length)(hc:bx[p]? =some col)(hl:col.length=wd):d6 (h9 v p) bx wd=((d6 v bx wd).zip col).map fun ab=>ab.1+ab.2:=by
 have hp:p<bx.length:=(List.getElem?_eq_some_iff.mp hc).1
 apply List.ext_getElem?
 intro r
 by_cases hr:r<wd
 ·have e1:(d6 (h9 v p) bx wd)[r]? =some (dot (h9 v p) (row bx r)):=by unfold d6;rw[List.getElem?_map,List.getElem?_range hr];rfl
  have e2:(d6 v bx wd)[r]? =some (dot v (row bx r)):=by unfold d6;rw[List.getElem?_map,List.getElem?_range hr];rfl
  have e3:col[r]? =some (col.getD r 0):=by rw[List.getD_eq_getElem?_getD,List.getElem?_eq_getElem (by omega)];rfl
  have e4:(((d6 v bx wd).zip col)[r]?)=some (dot v (row bx r),col.getD r 0):=by rw[List.getElem?_zip_eq_some];exact⟨e2,e3⟩
  have e5:bx.getD p []=col:=by rw[List.getD_eq_getElem?_getD,hc];rfl
  rw[e1,List.getElem?_map,e4,w5 v (row bx r) p (by omega) (by rw[fB];exact hv),gq hp,e5]
  rfl
 ·rw[List.getElem?_eq_none (by unfold d6;simp;omega),List.getElem?_eq_none (by rw[List.length_map,List.length_zip];omega)]
theorem pz:aI ["self","place","column","numbers"] ["self","place","column"] (ag dS):=iz
theorem ub(D:ed K TC "raised" "Trial.raised" dS ["self","place","column"])(T:ig K mg KC FC TC)(c1:jw P w K mg base 1 TC ["self","numbers","gathered","first"] [] (nI TC)):cF P w K mg base 3 TC "raised" ["self","place","column"] (pe TC):=by
 obtain⟨_,_,bh⟩:=c1
 obtain⟨_,jr,js⟩:=bh.b 0 (by decide)
 refine D.il pz (fun vs H Q E h=>?_) (fun f b6 A outer s H vs Q E hr h=>?_)
 ·obtain⟨t,c,p,col,bx,wd,x,rfl,_⟩:=h
  rfl
 ·obtain⟨t,c,p,col,bx,wd,x,rfl,⟨dx,fs,a,b,h1,h2,h3,h4,_⟩,hc,To,lc,lx,lf,lw,q⟩:=h
  have big:(1001 :Nat)≤sizeLine:=by decide
  have hp:p<bx.length:=(List.getElem?_eq_some_iff.mp To).1
  have VC:p<x.1.length:=by omega
  have lg:(d6 x.1 bx wd).length=wd:=by unfold d6;simp
  have gx:(x.1.map V.int)[p]? =some (V.int (x.1.getD p 0)):=by
   rw[List.getElem?_map,List.getD_eq_getElem?_getD,List.getElem?_eq_getElem VC]
   rfl
  have QE:pL (x.1.map V.int).length (p:Int)=some p:=by
   rw[List.length_map]
   unfold pL
   rw[if_pos (by omega),if_pos (by omega)]
   rfl
  refine⟨_,(ah
     (aF (i:=3) pz.nd rfl (Or.inl rfl) (cq br rfl T.n_list cX (aa (bR (pv 0) rfl) ai)))
    (ah
     (ye (pv 3) (pv 1) vA ax CK set_list)
    (aw
     (aU (mK bh.m bh.ok (hr.mono (by decide)) rfl T.rZ js jr a8 (aa (pv 3) (aa (ba (sc:=(ag dS)) (NX:=["self","place","column","numbers"]) (N:=["one","other"]) (fr:=[none,none]) ⟨by rfl,by rfl,by decide+kernel,by decide+kernel,by decide+kernel,by rfl,by decide+kernel⟩ rfl rfl rfl (dJ rfl T.fM (aa (bR (pv 0) rfl) (aa (pv 2) ai))) (fun _ _ _ _=>(cY K 2 rfl rfl (aK (av (i:=0) (show (["one","other"]:List Str).Nodup by decide+kernel) rfl (Or.inl rfl) (Or.inr rfl)) (aK (av (i:=1) (show (["one","other"]:List Str).Nodup by decide+kernel) rfl (Or.inl rfl) (Or.inr rfl)) bX)))) (fun _ _ _ _=>aS) (fun _ _ _ _=>(aH dH (pv 0) (pv 1)))) (aa (pv 1) ai)))))))),?_⟩
  refine⟨_,rfl,t,TC,dx,fs,_,rfl,h1,T.bh,T.wL,h2.n,a,_,rfl, .inl (aD.of h3),fun n hn=>?_⟩
  refine⟨_,rfl,_,rfl,n,_,p,_,rfl,rfl,aD.of ae,gx,_,_,rfl,rfl,n,_,_,p,rfl,rfl,ae,QE,?_⟩
  rw[xZ]
  have sn:=ak.new (o:= .lst ((x.1.map V.int).set p (V.int (x.1.getD p 0+1)))) hn
  have CP:(upd H n (.lst ((x.1.map V.int).set p (V.int (x.1.getD p 0+1))))) n=some (.lst ((h9 x.1 p).map V.int)):=by
   rw[ae]
   unfold h9
   rw[List.map_set]
  generalize upd H n (.lst ((x.1.map V.int).set p (V.int (x.1.getD p 0+1))))=H2 at sn CP ⊢
  have Tp:=sn _ _ h4
  have lC:=sn _ _ hc
  refine⟨_,rfl,_,rfl,t,TC,dx,fs,_,rfl,sn _ _ h1,T.bh,T.wM,h2.g,_,rfl,b,c,rfl,⟨_,aD.of Tp⟩,⟨_,aD.of lC⟩,fun L hL=>cZ (K:=K) (a:=b) (c:=c) (L:=L) (xs:=(d6 x.1 bx wd).map V.int) (zs:=col.map V.int) H2 (fun σ=>∃v u:Option V,σ=[v,u]) (fun i us=>us=((((d6 x.1 bx wd).zip col).take i).map fun ab=>ab.1+ab.2).map V.int∧i≤((d6 x.1 bx wd).zip col).length)
   (aD.of Tp) (aD.of lC) hL ⟨none,none,rfl⟩ (ak.new hL) ae ⟨rfl,Nat.zero_le _⟩ (by rw[List.length_map];omega) ?_ ?_ ?_⟩
  ·rintro i us ⟨rfl,_⟩
   rw[List.length_map,List.length_map,List.length_take]
   omega
  ·rintro i y z u σ H3 us hy hz hu ⟨v1,v2,rfl⟩ hs de ⟨rfl,hi⟩ N M hN
   obtain⟨y,qp,rfl⟩:=int_at hy
   obtain⟨z,gG,rfl⟩:=int_at hz
   have j8:((d6 x.1 bx wd).zip col)[i]? =some (y,z):=by rw[List.getElem?_zip_eq_some];exact⟨qp,gG⟩
   have gI:i+1≤((d6 x.1 bx wd).zip col).length:=(List.getElem?_eq_some_iff.mp j8).1
   have fP:(upd H3 u (.tup [V.int y,V.int z])) L=_:=ak.new hu _ _ de
   refine⟨u,_,rfl,kd.of ae,rfl,_,_,rfl,_,_,rfl,rfl,_,rfl,_,rfl,_,_,rfl,rfl,hN _ _ _ ⟨_,_,rfl⟩ (hs.trans (ak.new hu)) fP ⟨?_,gI⟩⟩
   rw[ay j8,List.map_append,List.map_append]
   rfl
  ·rintro H3 us hs de ⟨rfl,_⟩
   have e:((d6 x.1 bx wd).zip col).take (min ((d6 x.1 bx wd).map V.int).length (col.map V.int).length)=(d6 x.1 bx wd).zip col:=List.take_of_length_le (by rw[List.length_zip,List.length_map,List.length_map];exact Nat.le_refl _)
   rw[e,←zg lx To lc] at de
   have s3:=sn.trans hs
   have VD:=hs _ _ CP
   refine⟨_,rfl,fun q' dq nq QF Oy=>?_⟩
   have s4:ak H3 (upd (upd H3 dq (.own q')) q' (.ins TC dq [])):=(ak.new QF).trans (ak.new (by rw[ao (Ne.symm Oy)];exact nq))
   refine⟨q',dq,n,L,_,_,((p:Nat):Int),rfl,ae,s4 _ _ VD,s4 _ _ de,fun b1 b2 A4 H5 DX ze QG QH l1 l2 kp=>⟨rfl,q q' H5 ⟨dq,A4,b1,b2,QG,QH,l1,l2,⟨by simp,by simp,by simp⟩,s3.free nq,(s3.trans s4).free DX,(s3.trans s4).free ze⟩ fun b' o z=>?_⟩⟩
   have zb:b'≠q':=af (s3 _ _ z) nq
   exact kp b' o (s4 _ _ (s3 _ _ z)) zb
theorem eX.has{TC:Addr}{bx:List (List Int)}{wd:Nat}{W:List Addr}{H0 H:Hp}{t:Addr}{x:dD}(h:eX TC bx wd W H0 H t x):eX TC bx wd [] Oo H t x:=h.cast fun b _ _ _=>⟨by simp,rfl⟩
theorem pA:aI ["self","columns"] ["self","columns"] (ag bY):=iz
theorem nN(D:ed K TC "all_raised" "Trial.all_raised" bY ["self","columns"])(T:ig K mg KC FC TC)(c1:cF P w K mg base 3 TC "raised" ["self","place","column"] (pe TC)):cF P w K mg base 4 TC "all_raised" ["self","columns"] (jE TC):=by
 obtain⟨_,_,d8⟩:=c1
 refine D.il pA (fun vs H Q E h=>?_) (fun f b6 A outer s H vs Q E hr h=>?_)
 ·obtain⟨t,l,cA,bx,wd,x,rfl,_⟩:=h
  rfl
 ·obtain⟨t,l,cA,bx,wd,x,rfl,hT,hl,fj,Oz,lx,lp,lf,lw,q⟩:=h
  have big:(1001 :Nat)≤sizeLine:=by decide
  obtain⟨dx,fs,a,b,h1,h2,_⟩:=id hT
  have lc:=fj.length
  refine⟨_,(aw
     (aU (ba (sc:=(ag bY)) (NX:=["self","columns"]) (N:=["place","self","columns"]) (fr:=[none,some 0,some 1]) ⟨by rfl,by rfl,by decide+kernel,by decide+kernel,by decide+kernel,by rfl,by decide+kernel⟩ rfl rfl rfl (sN rfl T.ck (aa (bR (pv 0) rfl) (aa (aL aY rfl T.fK dI (aa (pv 1) ai)) ai))) (fun _ _ _ _=>(av (i:=0) (show (["place","self","columns"]:List Str).Nodup by decide+kernel) rfl (Or.inl rfl) (Or.inr rfl))) (fun _ _ _ _=>aS) (fun _ _ _ _=>(dO (pv 1) T.bh d8.m d8.ok (hr.mono (by decide)) d8.b .nil a8 (aa (pv 0) (aa (dz (c7 K rfl) (pv 2) (pv 0) (fun _ _=>rfl)) ai))))))),?_⟩
  refine⟨_,rfl,t,TC,dx,fs,_,rfl,h1,T.bh,T.Bt,h2.f,_,rfl,l,_,rfl, .inl (aD.of hl),_,_,rfl,⟨by omega,by omega,by omega,by rw[List.length_map];omega⟩,fun L hL=>jg (L:=L) H (fun σ=>∃v:Option V,σ=[v,some (.ref t),some (.ref l)]) (fun i ys H'=>∃ts:List Addr,ys=ts.map V.ref∧mx TC bx wd [L] H H' ts ((List.range' x.2 i).map fun p=>(h9 x.1 p,p)))
   ?_ hL ⟨none,rfl⟩ (ak.new hL) ae ⟨[],rfl, .nil⟩ (by rw[List.length_map];omega) ?_ ?_ ?_⟩
  ·rintro i ys Ha Hb e ⟨ts,rfl,uC⟩
   exact⟨ts,rfl,bE (fun _ _ z=>z.keep fun b o z1 z2=>e _ _ z1 (by simpa using z2)) uC⟩
  ·rintro i ys Ha ⟨ts,rfl,uC⟩
   have:=Paired.length uC
   rw[List.length_map,List.length_range'] at this
   rw[List.length_map]
   omega
  ·rintro i σ H2 ys hi ⟨v,rfl⟩ hs de ⟨ts,rfl,uC⟩ N M hN
   rw[List.length_map] at hi
   have hp:x.2+i<bx.length:=by omega
   have ep:((x.2 :Nat):Int)+(i:Int)=((x.2+i:Nat):Int):=by omega
   have ga:cA[x.2+i]? =some (cA.getD (x.2+i) 0):=by rw[List.getD_eq_getElem?_getD,List.getElem?_eq_getElem (by omega)];rfl
   obtain⟨col,Iw,mz,_⟩:=(fj.same hs).get ga
   dsimp only [aO]
   rw[ep]
   refine⟨_,rfl,t,dx,fs,rfl,hs _ _ h1,h2.no _ (by decide+kernel) (by decide+kernel) (by decide+kernel),_,rfl,_,rfl,_,rfl,l,_,_, .ref (cA.getD (x.2+i) 0),rfl,rfl,aD.of (hs _ _ hl),cb (by rw[List.getElem?_map,ga];rfl),?_⟩
   refine⟨t,cA.getD (x.2+i) 0,x.2+i,col,bx,wd,x,rfl,hT.same hs,mz,Iw,Oz col (List.mem_of_getElem? Iw),lx,lf,lw,fun t' H3 Iy e3=>hN _ _ _ ⟨_,rfl⟩ (hs.trans e3) (e3 _ _ de) ⟨ts++[t'],by rw[List.map_append];rfl,?_⟩⟩
   rw[List.range'_concat,List.map_append]
   refine gL (p:=eX TC bx wd [L] H H3) ?_ (bE (fun _ _ z=>z.same e3) uC)
   have Iy:eX TC bx wd [] H2 H3 t' (h9 x.1 (x.2+1*i),x.2+1*i):=by rw[Nat.one_mul];exact Iy
   exact Iy.cast fun b _ z _=>⟨by simp only [List.mem_cons,List.not_mem_nil,or_false];exact Ne.symm (af de z),hs.free z⟩
  ·rintro H2 ys hs de ⟨ts,rfl,uC⟩
   have e:(((cA.map V.ref).length:Int) - ((x.2 :Nat):Int)).toNat=bx.length - x.2:=by rw[List.length_map];omega
   rw[e] at uC
   exact q L ts H2 hL de (bE (fun _ _ z=>z.cast fun b _ z _=>⟨by simp,z⟩) uC) hs
theorem kT{n:Nat}:∀(l:List Nat) (a:Nat),l.Pairwise (· < ·)→(∀x∈l,a≤x∧x<n)→l.length≤n - a
 | [],_,_,_=>Nat.zero_le _
 |x::r,a,hp,h=>by
  rw[List.pairwise_cons] at hp
  have hx:=h x (List.mem_cons_self ..)
  have ih:=kT r (x+1) hp.2 fun y hy=>⟨hp.1 y hy,(h y (List.mem_cons_of_mem _ hy)).2⟩
  rw[List.length_cons]
  omega
theorem fG:aI ["columns","rows","chosen"] ["columns"] (ag aQ):=iz
theorem zh(D:Def K mg "rows_enough" "rows_enough" aQ ["columns"])(T:ig K mg KC FC TC)(c1:cC P w K mg base 4 "kernel" ["columns"] (pb KC)):cC P w K mg base 5 "rows_enough" ["columns"] wJ:=by
 obtain⟨_,_,iU⟩:=c1
 refine D.il fG (fun vs H Q E h=>?_) (fun f b6 A outer s H vs Q E hr h=>?_)
 ·obtain⟨p,as,cs,n,rfl,_⟩:=h
  rfl
 ·obtain⟨p,as,cs,n,rfl,hp,fj,fit,hn,l1,Tq,q⟩:=h
  have big:(1001 :Nat)≤sizeLine:=by decide
  have pP:=fj.length
  have BD:as[0]? =some (as.getD 0 0):=by rw[List.getD_eq_getElem?_getD,List.getElem?_eq_getElem (by omega)];rfl
  obtain⟨c0,vG,w6,_⟩:=fj.get BD
  have Tr:=(fit c0 (List.mem_of_getElem? vG)).1
  refine⟨_,(ah
     (vx (i:=1) fG.nd rfl (Or.inl rfl) (sc:=(ag aQ)) (NX:=["columns","rows","chosen"]) (N:=["row","columns"]) (fr:=[none,some 0]) ⟨by rfl,by rfl,by decide+kernel,by decide+kernel,by decide+kernel,by rfl,by decide+kernel⟩ rfl rfl rfl (bQ rfl T.ck (aa (aL aY rfl T.fK dI (aa (dz dP (pv 0) ax (fun _ _=>rfl)) ai)) ai)) (fun _ _ _ _=>(av (i:=0) (show (["row","columns"]:List Str).Nodup by decide+kernel) rfl (Or.inr rfl) (Or.inl rfl))) (fun _ _ _ _=>aS) (fun _ _ _ _=>(ba (sc:=(ix nH (ag aQ))) (NX:=["row","columns"]) (N:=["column","row"]) (fr:=[none,some 0]) ⟨by rfl,by rfl,by decide+kernel,by decide+kernel,by decide+kernel,by rfl,by decide+kernel⟩ rfl rfl rfl (kB K rfl (pv 1)) (fun _ _ _ _=>(av (i:=0) (show (["column","row"]:List Str).Nodup by decide+kernel) rfl (Or.inl rfl) (Or.inr rfl))) (fun _ _ _ _=>aS) (fun _ _ _ _=>(dz (c7 K rfl) (pv 0) (pv 1) (fun _ _=>rfl))))))
    (ah
     (aF (i:=2) fG.nd rfl (Or.inr rfl) (bR (aX iU.ok (hr.mono (by decide)) rfl iU.g iU.kp iU.b .nil a8 (aa (pv 1) ai)) rfl))
    (aw
     (aU (oJ (sc:=(ag aQ)) (NX:=["columns","rows","chosen"]) (N:=["column","chosen"]) (fr:=[none,some 2]) ⟨by rfl,by rfl,by decide+kernel,by decide+kernel,by decide+kernel,by rfl,by decide+kernel⟩ rfl rfl rfl (a9 (pv 0)) (fun _ _ _ _=>(av (i:=0) (show (["column","chosen"]:List Str).Nodup by decide+kernel) rfl (Or.inr rfl) (Or.inl rfl))) (fun _ _ _ _=>aS) (fun _ _ _ _=>(ba (sc:=(ix lL (ag aQ))) (NX:=["column","chosen"]) (N:=["row","column"]) (fr:=[none,some 0]) ⟨by rfl,by rfl,by decide+kernel,by decide+kernel,by decide+kernel,by rfl,by decide+kernel⟩ rfl rfl rfl (kB K rfl (pv 1)) (fun _ _ _ _=>(av (i:=0) (show (["row","column"]:List Str).Nodup by decide+kernel) rfl (Or.inl rfl) (Or.inr rfl))) (fun _ _ _ _=>aS) (fun _ _ _ _=>(dz (c7 K rfl) (pv 1) (pv 0) (fun _ _=>rfl)))))))))),?_⟩
  refine⟨_,rfl,p,_,_, .ref (as.getD 0 0),rfl,rfl,aD.of hp,cb (j:=0) (by rw[List.getElem?_map,BD];rfl),as.getD 0 0,_,rfl, .inl (aD.of w6),_,rfl,by omega,by rw[List.length_map];omega,fun L hL=>jg (L:=L) H (fun σ=>∃v:Option V,σ=[v,some (.ref p)]) (fun i ys H'=>∃rs:List Addr,ys=rs.map V.ref∧bG L H H' rs ((List.range i).map (row cs)))
   ?_ hL ⟨none,rfl⟩ (ak.new hL) ae ⟨[],rfl, .nil⟩ (by rw[List.length_map];omega) ?_ ?_ ?_⟩
  ·rintro i ys Ha Hb e ⟨rs,rfl,xc⟩
   exact⟨rs,rfl,bG.but e xc⟩
  ·rintro i ys Ha ⟨rs,rfl,xc⟩
   have:=xc.length
   rw[List.length_map,List.length_range] at this
   rw[List.length_map]
   omega
  ·rintro i σ H2 ys hi ⟨v,rfl⟩ hs de ⟨rs,rfl,xc⟩ N M hN
   have hi:i<n:=by
    have:i< (c0.map V.int).length:=by simpa using hi
    rw[List.length_map] at this;omega
   dsimp only [aO]
   rw[Int.zero_add]
   refine⟨_,rfl,p,rfl,⟨_,aD.of (hs _ _ hp)⟩,fun L2 zi=>cH (K:=K) (a:=p) (L:=L2) (xs:=as.map V.ref) H2 (fun σ=>∃v:Option V,σ=[v,some (.int i)]) (fun j ys=>ys=((cs.take j).map fun c=>c.getD i 0).map V.int)
    (aD.of (hs _ _ hp)) zi ⟨none,rfl⟩ (ak.new zi) ae rfl (by rw[List.length_map];omega) ?_ ?_ ?_⟩
   ·rintro j ys rfl
    rw[List.length_map,List.length_map,List.length_take];omega
   ·rintro j y σ H3 ys hy ⟨v,rfl⟩ l9 fP rfl N2 M2 wW
    obtain⟨aj,DY,rfl⟩:=bH hy
    obtain⟨b,DZ,xW,_⟩:=(fj.same (hs.trans l9)).get DY
    have gb:=getD_at (l:=b) (i:=i) (by rw[(fit b (List.mem_of_getElem? DZ)).1];exact hi)
    refine⟨_,rfl,_,rfl,aj,_,_, .int (b.getD i 0),rfl,rfl,aD.of xW,cb (by rw[List.getElem?_map,gb];rfl),wW _ _ _ ⟨_,rfl⟩ l9 fP ?_⟩
    rw[ay DZ,List.map_append,List.map_append]
    rfl
   ·rintro H3 ys l9 fP rfl
    rw[List.length_map,pP,List.take_length] at fP
    refine hN _ _ _ ⟨_,rfl⟩ (hs.trans l9) (l9 _ _ de) ⟨rs++[L2],by rw[List.map_append];rfl,?_⟩
    rw[List.range_succ,List.map_append]
    exact(xc.but (cE.of l9)).snoc fP (Ne.symm (af de zi)) (hs.free zi)
  rintro H2 ys hs de ⟨rs,rfl,xc⟩
  have e0:(((c0.map V.int).length:Nat):Int).toNat=n:=by rw[List.length_map];omega
  rw[e0] at xc
  have xc:bG L H H2 rs (cj cs n):=xc
  have WN:=xc.length
  have QI:(cj cs n).length=n:=by unfold cj;simp
  have zj:∀c∈cj cs n,c.length=cs.length∧∀x∈c,cG 70 x:=by
   intro c hc
   obtain⟨r,hr,rfl⟩:=List.mem_map.mp hc
   refine⟨fB cs r,fun x hx=>?_⟩
   obtain⟨d,hd,rfl⟩:=List.mem_map.mp hx
   have hr:r<n:=by simpa using hr
   exact(fit d hd).2 _ (List.mem_of_getElem? (getD_at (by rw[(fit d hd).1];exact hr)))
  dsimp only [aO]
  refine⟨_,rfl,L,rs,cj cs n,cs.length,rfl,de,bG.toS (by simp) (fun b xs z _ _=>z) xc,zj,by omega,by omega,fun kq H3 e3 KA=>?_⟩
  obtain⟨dk,fs,b1,b2,b3,b4,hk,kf,_,_,nZ,_⟩:=KA.obj
  have nZ:H3 b2=some (.lst ((aM cs n).map fun p=>V.int (p:Nat))):=nZ
  have g:=nM (n:=cs.length) (cs:=cj cs n) (by omega) (by omega) zj
  have pin:∀r∈aM cs n,r<n:=fun r hr=>by
   have:=g.T.nY r hr
   omega
  have WO:(aM cs n).length≤60:=by
   have h1:=kT (n:=n) (aM cs n) 0 g.ps fun x hx=>⟨Nat.zero_le _,pin x hx⟩
   omega
  have BA:=hs.trans e3
  refine⟨kq,KC,dk,fs,_,rfl,hk,T.dc,T.pf,kf.b,?_⟩
  refine⟨_,rfl,p,rfl,⟨_,aD.of (BA _ _ hp)⟩,fun L3 fP=>jf (K:=K) (a:=p) (L:=L3) (xs:=as.map V.ref) H3 (fun σ=>∃v:Option V,σ=[v,some (.ref b2)]) (fun i ys H'=>∃ds:List Addr,ys=ds.map V.ref∧bG L3 H3 H' ds ((dE cs n).take i))
   (aD.of (BA _ _ hp)) ?_ fP ⟨none,rfl⟩ (ak.new fP) ae ⟨[],rfl, .nil⟩ (by rw[List.length_map];omega) ?_ ?_ ?_⟩
  ·rintro i ys Ha Hb e ⟨ds,rfl,gR⟩
   exact⟨ds,rfl,bG.but e gR⟩
  ·rintro i ys Ha ⟨ds,rfl,gR⟩
   have:=gR.length
   rw[List.length_take] at this
   rw[List.length_map]
   omega
  ·rintro i y σ H4 ys hy ⟨v,rfl⟩ pO sf ⟨ds,rfl,gR⟩ N M hN
   obtain⟨aj,DY,rfl⟩:=bH hy
   obtain⟨c,zk,mz,_⟩:=(fj.same (BA.trans pO)).get DY
   have VE:=(fit c (List.mem_of_getElem? zk)).1
   have VF:(dE cs n)[i]? =some ((aM cs n).map fun r=>c.getD r 0):=by unfold dE;rw[List.getElem?_map,zk];rfl
   refine⟨_,rfl,b2,rfl,⟨_,aD.of (pO _ _ nZ)⟩,fun L4 zl=>cH (K:=K) (a:=b2) (L:=L4) (xs:=(aM cs n).map fun p=>V.int (p:Nat)) H4 (fun σ=>∃v:Option V,σ=[v,some (.ref aj)]) (fun j ys=>ys=(((aM cs n).take j).map fun r=>c.getD r 0).map V.int)
    (aD.of (pO _ _ nZ)) zl ⟨none,rfl⟩ (ak.new zl) ae rfl (by rw[List.length_map];omega) ?_ ?_ ?_⟩
   ·rintro j ys rfl
    rw[List.length_map,List.length_map,List.length_take];omega
   ·rintro j y σ H5 ys hy ⟨v,rfl⟩ iY lN rfl N2 M2 wW
    rw[List.getElem?_map] at hy
    cases ez:(aM cs n)[j]? with
    |none=>rw[ez] at hy;cases hy
    |some r=>
     rw[ez] at hy
     have hy:V.int ((r:Nat):Int)=y:=Option.some.inj hy
     subst hy
     have gb:=getD_at (l:=c) (i:=r) (by rw[VE];exact pin r (List.mem_of_getElem? ez))
     refine⟨_,rfl,_,rfl,aj,_,_, .int (c.getD r 0),rfl,rfl,aD.of (iY _ _ mz),cb (by rw[List.getElem?_map,gb];rfl),wW _ _ _ ⟨_,rfl⟩ iY lN ?_⟩
     rw[ay ez,List.map_append,List.map_append]
     rfl
   ·rintro H5 ys iY lN rfl
    rw[List.length_map,List.take_length] at lN
    refine hN _ _ _ ⟨_,rfl⟩ (pO.trans iY) (iY _ _ sf) ⟨ds++[L4],by rw[List.map_append];rfl,?_⟩
    rw[ay VF]
    exact(gR.but (cE.of iY)).snoc lN (Ne.symm (af sf zl)) (pO.free zl)
  ·rintro H4 ys pO sf ⟨ds,rfl,gR⟩
   have lf:(dE cs n).length=as.length:=by unfold dE;rw[List.length_map,pP]
   rw[List.length_map,←lf,List.take_length] at gR
   exact q L3 ds H4 (BA.trans pO) sf (bG.toS (by simp) (fun b xs z _ _=>z) gR)
theorem pB:∀(m:Nat) (y:List Int),dot (List.replicate m 0) y=0
 |0,_=>by cases ‹List Int›<;>rfl
 |m+1,[]=>yR _
 |m+1,b::y=>by
  show 0*b+dot (List.replicate m 0) y=0
  rw[Int.zero_mul,pB m y]
  rfl
theorem uc(m:Nat)(bx:List (List Int))(wd:Nat):d6 (List.replicate m 0) bx wd=List.replicate wd 0:=by
 unfold d6
 rw[List.eq_replicate_iff]
 refine⟨by simp,fun b hb=>?_⟩
 obtain⟨r,_,rfl⟩:=List.mem_map.mp hb
 exact pB m _
theorem ud{m i:Nat}{ts:List dD}{x:dD}(h:ts[i]? =some x):bg m (ts.take (i+1))=bg m (ts.take i)++(List.range' x.2 (m - x.2)).map fun p=>(h9 x.1 p,p):=by
 unfold bg
 rw[ay h,List.flatMap_append,List.flatMap_cons,List.flatMap_nil,List.append_nil]
theorem ue(m i:Nat)(ts:List dD):(bg m (ts.take i)).length≤(bg m ts).length:=by
 have e:bg m ts=bg m (ts.take i)++bg m (ts.drop i):=by
  unfold bg
  rw[←List.flatMap_append,List.take_append_drop]
 rw[e,List.length_append]
 omega
theorem uf{W:List Addr}{H:Hp}{as qx:List Addr}{cs Ts:List (List Int)}(h:aE W H as cs)(h':aE W H qx Ts):aE W H (as++qx) (cs++Ts):=iO h h'
theorem dw:aI ["columns","most","few","told","trials","size","grown","trial","level"] ["columns","most"] (ag cN):=iz
theorem xf(D:Def K mg "least" "least" cN ["columns","most"])(T:ig K mg KC FC TC)(c1:cC P w K mg base 5 "rows_enough" ["columns"] wJ)(c2:jw P w K mg base 1 TC ["self","numbers","gathered","first"] [] (nI TC))(c3:cF P w K mg base 4 TC "all_raised" ["self","columns"] (jE TC))(c4:cF P w K mg base 1 TC "is_level" ["self"] (my TC))(c5:cC P w K mg base 1 "fits" ["small","great"] nJ):cC P w K mg base 6 "least" ["columns","most"] rY:=by
 obtain⟨_,_,dy⟩:=c1
 obtain⟨_,_,bh⟩:=c2
 obtain⟨_,_,cQ⟩:=c3
 obtain⟨_,_,bB⟩:=c4
 obtain⟨_,_,nO⟩:=c5
 obtain⟨_,jr,js⟩:=bh.b 0 (by decide)
 refine D.il dw (fun vs H Q E h=>?_) (fun f b6 A outer s H vs Q E hr h=>?_)
 ·obtain⟨p,as,cs,n,most,rfl,_⟩:=h
  rfl
 ·obtain⟨p,as,cs,n,most,rfl,hp,fj,fit,hn,l1,Tq,lm,VG,Ou,q⟩:=h
  have qG:=hr.units
  have big:(1000000 :Nat)≤sizeLine:=by decide
  have lw:(aM cs n).length≤60:=by
   have zj:∀c∈cj cs n,c.length=cs.length∧∀x∈c,cG 70 x:=by
    intro c hc
    obtain⟨r,hr,rfl⟩:=List.mem_map.mp hc
    refine⟨fB cs r,fun x hx=>?_⟩
    obtain⟨d,hd,rfl⟩:=List.mem_map.mp hx
    have hr:r<n:=by simpa using hr
    exact(fit d hd).2 _ (List.mem_of_getElem? (getD_at (by rw[(fit d hd).1];exact hr)))
   have QI:(cj cs n).length=n:=by unfold cj;simp
   have g:=nM (n:=cs.length) (cs:=cj cs n) (by omega) (by omega) zj
   have:=kT (n:=n) (aM cs n) 0 g.ps fun x hx=>⟨Nat.zero_le _,by have:=g.T.nY x hx;omega⟩
   omega
  have Tt:(dE cs n).length=cs.length:=by unfold dE;rw[List.length_map]
  have Oz:∀c∈dE cs n,c.length=(aM cs n).length:=fun c hc=>by
   obtain⟨d,_,rfl⟩:=List.mem_map.mp hc
   rw[List.length_map]
  have VH:=fun k=>nG (gz (dE cs n) (aM cs n).length) cs.length k
  have Tu:=fun k=>(fg (gz (dE cs n) (aM cs n).length) cs.length k).1
  refine⟨_,(ah
     (aF (i:=2) dw.nd rfl (Or.inl rfl) (aX dy.ok (hr.mono (by decide)) rfl dy.g dy.kp dy.b .nil a8 (aa (pv 0) ai)))
    (ah
     (aF (i:=3) dw.nd rfl (Or.inr rfl) (bq ai))
    (ah
     (aF (i:=4) dw.nd rfl (Or.inl rfl) (bq (aa (mK bh.m bh.ok (hr.mono (by decide)) rfl T.rZ js jr a8 (aa (aH ko (bq (aa ax ai)) (aL aY rfl T.fK dI (aa (pv 2) ai))) (aa (aH ko (bq (aa ax ai)) (aL aY rfl T.fK dI (aa (dz dP (pv 2) ax (fun _ _=>rfl)) ai))) (aa ax ai)))) ai)))
    (ah
     (b5 PassesOwn.never rfl (bQ rfl T.ck (aa (pv 1) ai)) (av (i:=5) dw.nd rfl (Or.inl rfl))
      (ah
       (aF (i:=6) dw.nd rfl (Or.inl rfl) (bq ai))
      (ah
       (b5 PassesOwn.never rfl (a9 (pv 4)) (av (i:=7) dw.nd rfl (Or.inl rfl))
        (aw
         (cK (fX PySem.F.plainAttrs_list PySem.F.slot_list_extend PySem.F.type_list_extend sX (pv 6) (aa (dO (pv 7) T.bh cQ.m cQ.ok (hr.mono (by decide)) cQ.b .nil a8 (aa (pv 2) ai)) ai)))))
      (ah
       (gE (i:=8) dw.nd rfl (Or.inl rfl) (sc:=(ag cN)) (NX:=["columns","most","few","told","trials","size","grown","trial","level"]) (N:=["trial"]) (fr:=[none]) ⟨by rfl,by rfl,by decide+kernel,by decide+kernel,by decide+kernel,by rfl,by decide+kernel⟩ rfl rfl rfl (a9 (pv 6)) (fun _ _ _ _=>(av (i:=0) (show (["trial"]:List Str).Nodup by decide+kernel) rfl (Or.inl rfl) (Or.inr rfl))) (fun _ _ _ _=>(jU (eL (oo (pv 0) T.bh bB.m bB.ok (hr.mono (by decide)) bB.b .nil a8)))) (fun _ _ _ _=>(rD K rfl (pv 0) rfl)))
      (ah
       (aF (i:=3) dw.nd rfl (Or.inr rfl) (aH qa (pv 3) (oJ (sc:=(ag cN)) (NX:=["columns","most","few","told","trials","size","grown","trial","level"]) (N:=["numbers","told"]) (fr:=[none,some 3]) ⟨by rfl,by rfl,by decide+kernel,by decide+kernel,by decide+kernel,by rfl,by decide+kernel⟩ rfl rfl rfl (a9 (pv 8)) (fun _ _ _ _=>(av (i:=0) (show (["numbers","told"]:List Str).Nodup by decide+kernel) rfl (Or.inr rfl) (Or.inl rfl))) (fun _ _ _ _=>(jU (gZ (eL (aL (tK K rfl rfl) rfl T.wN qi (aa (ba (sc:=(ix yV (ag cN))) (NX:=["numbers","told"]) (N:=["other","numbers"]) (fr:=[none,some 0]) ⟨by rfl,by rfl,by decide+kernel,by decide+kernel,by decide+kernel,by rfl,by decide+kernel⟩ rfl rfl rfl (kB K rfl (pv 1)) (fun _ _ _ _=>(av (i:=0) (show (["other","numbers"]:List Str).Nodup by decide+kernel) rfl (Or.inl rfl) (Or.inr rfl))) (fun _ _ _ _=>aS) (fun _ _ _ _=>(aX nO.ok (hr.mono (by decide)) rfl nO.g nO.kp nO.b .nil a8 (aa (pv 0) (aa (pv 1) ai))))) ai)))))) (fun _ _ _ _=>(pv 0)))))
      (aw
       (gE (i:=4) dw.nd rfl (Or.inl rfl) (sc:=(ag cN)) (NX:=["columns","most","few","told","trials","size","grown","trial","level"]) (N:=["trial"]) (fr:=[none]) ⟨by rfl,by rfl,by decide+kernel,by decide+kernel,by decide+kernel,by rfl,by decide+kernel⟩ rfl rfl rfl (a9 (pv 6)) (fun _ _ _ _=>(av (i:=0) (show (["trial"]:List Str).Nodup by decide+kernel) rfl (Or.inl rfl) (Or.inr rfl))) (fun _ _ _ _=>(jU (gZ (eL (oo (pv 0) T.bh bB.m bB.ok (hr.mono (by decide)) bB.b .nil a8))))) (fun _ _ _ _=>(pv 0)))))))))
    (aw
     (aU (aL (iG qG) rfl T.kR jj (aa (pv 3) ai)))))))),?_⟩
  refine⟨_,rfl,p,as,cs,n,rfl,hp,fj,fit,hn,l1,Tq,fun lf fA H1 e1 QJ u9=>?_⟩
  generalize zm:gz (dE cs n) (aM cs n).length=lev at*
  generalize WQ:dE cs n=bx at*
  generalize (aM cs n).length=wd at*
  generalize hm:cs.length=m at*
  have WR:=u9.length
  refine⟨(by show 0≤sizeLine;decide),fun TL Iz=>?_⟩
  have s2:=ak.new (o:= .lst []) Iz
  have IA:(upd H1 TL (.lst [])) TL=some (.lst []):=ae
  generalize upd H1 TL (.lst [])=H2 at s2 IA ⊢
  have e2:=e1.trans s2
  dsimp only [aO]
  have BD:fA[0]? =some (fA.getD 0 0):=by rw[List.getD_eq_getElem?_getD,List.getElem?_eq_getElem (by omega)];rfl
  obtain⟨c0,vG,w6,_⟩:=(u9.same s2).get BD
  have Tr:=Oz c0 (List.mem_of_getElem? vG)
  refine⟨(by show 1≤sizeLine;decide),fun z0 OA=>⟨_,rfl,lf,_,rfl, .inl (aD.of (ak.new OA _ _ (s2 _ _ QJ))),z0,_,_,rfl,rfl,ae,by omega,by rw[List.length_map];omega,(by show 1*_≤_;rw[List.length_map];omega),fun r0 VI=>?_⟩⟩
  have s3:=(ak.new (o:= .lst [V.int 0]) OA).trans (ak.new (o:= .lst (List.replicate ((((fA.map V.ref).length:Nat):Int)).toNat [V.int 0]).flatten) VI)
  have Tv:(upd (upd H2 z0 (.lst [V.int 0])) r0 (.lst (List.replicate ((((fA.map V.ref).length:Nat):Int)).toNat [V.int 0]).flatten)) r0=some (.lst ((List.replicate m (0 :Int)).map V.int)):=by
   rw[ae,rep0,show (((fA.map V.ref).length:Nat):Int).toNat=m by rw[List.length_map];omega]
  generalize upd (upd H2 z0 (.lst [V.int 0])) r0 (.lst (List.replicate ((((fA.map V.ref).length:Nat):Int)).toNat [V.int 0]).flatten)=H3 at s3 Tv ⊢
  refine⟨(by show 1≤sizeLine;decide),fun z1 tq=>⟨_,rfl,lf,_,_, .ref (fA.getD 0 0),rfl,rfl,aD.of (ak.new tq _ _ (s3 _ _ (s2 _ _ QJ))),cb (j:=0) (by rw[List.getElem?_map,BD];rfl),fA.getD 0 0,_,rfl, .inl (aD.of (ak.new tq _ _ (s3 _ _ w6))),z1,_,_,rfl,rfl,ae,by omega,by rw[List.length_map];omega,(by show 1*_≤_;rw[List.length_map];omega),fun r1 VJ=>?_⟩⟩
  have s4:=(ak.new (o:= .lst [V.int 0]) tq).trans (ak.new (o:= .lst (List.replicate ((((c0.map V.int).length:Nat):Int)).toNat [V.int 0]).flatten) VJ)
  have Tw:(upd (upd H3 z1 (.lst [V.int 0])) r1 (.lst (List.replicate ((((c0.map V.int).length:Nat):Int)).toNat [V.int 0]).flatten)) r1=some (.lst ((List.replicate wd (0 :Int)).map V.int)):=by
   rw[ae,rep0,show (((c0.map V.int).length:Nat):Int).toNat=wd by rw[List.length_map];omega]
  generalize upd (upd H3 z1 (.lst [V.int 0])) r1 (.lst (List.replicate ((((c0.map V.int).length:Nat):Int)).toNat [V.int 0]).flatten)=H4 at s4 Tw ⊢
  refine fun q0 dq nq QF Oy=>?_
  have s5:ak H4 (upd (upd H4 dq (.own q0)) q0 (.ins TC dq [])):=(ak.new QF).trans (ak.new (by rw[ao (Ne.symm Oy)];exact nq))
  refine⟨q0,dq,r0,r1,_,_,0,rfl,ae,s5 _ _ (s4 _ _ Tv),s5 _ _ Tw,fun b1 b2 fs H5 DX ze QG QH jy nZ kp=>⟨rfl,?_⟩⟩
  have IB:=s3.trans s4
  have VL:ak H2 H5:=fun b o z=>kp b o (s5 _ _ (IB _ _ z)) (af (IB _ _ z) nq)
  have VM:eX TC bx wd [] H H5 q0 (List.replicate m 0,0):=⟨dq,fs,b1,b2,QG,QH,jy,by rw[uc];exact nZ,⟨by simp,by simp,by simp⟩,(e2.trans IB).free nq,((e2.trans IB).trans s5).free DX,((e2.trans IB).trans s5).free ze⟩
  refine⟨(by show 1≤sizeLine;decide),fun TR Gm=>?_⟩
  have s6:=VL.trans (ak.new (o:= .lst [V.ref q0]) Gm)
  have IC:(upd H5 TR (.lst [V.ref q0])) TR=some (.lst ([q0].map V.ref)):=ae
  have Tx:=VM.same (ak.new (o:= .lst [V.ref q0]) Gm)
  generalize upd H5 TR (.lst [V.ref q0])=H6 at s6 IC Tx ⊢
  have e6:=e2.trans s6
  have QK:=s6 _ _ (s2 _ _ QJ)
  have ID:=(u9.same s2).same s6
  dsimp only [aO]
  refine⟨_,rfl,_,rfl,by omega,by omega,cS (fun k σ H'=>∃(TL TR:Addr) (ta tA:List Addr) (v5 v6 v7 v8:Option V),σ=[some (.ref p),some (.int most),some (.ref lf),some (.ref TL),some (.ref TR),v5,v6,v7,v8]∧H' TL=some (.lst (ta.map V.ref))∧aE [] H' ta (bz lev m k).1∧(∀b∈ta,H b=none)∧H' TR=some (.lst (tA.map V.ref))∧mx TC bx wd [] H H' tA (bz lev m k).2∧ak H6 H') ?_ ?_ ?_⟩
  ·exact⟨TL,TR,[],[q0],none,none,none,none,rfl,s6 _ _ IA, .nil,(fun b hb=>by cases hb),IC, .cons Tx .nil,ak.refl _⟩
  ·rintro k σ H7 hk ⟨TL,TR,ta,tA,v5,v6,v7,v8,rfl,Iz,D0,qH,Gm,QL,e7⟩
   have hk:k<most:=by omega
   have gl:=VG k (by omega)
   have VN:=Ou k (by omega)
   have QM:∀v∈(bz lev m k).1,v.length=m:=fun v hv=>((Tu k v).mp hv).1.1.1
   obtain⟨Tz,HV⟩:=VH k
   have VO:(bz lev m (k+1)).1=kO lev m (bz lev m k).1 (bz lev m k).2:=rfl
   have VP:(bz lev m (k+1)).2=wF lev m (bz lev m k).2:=rfl
   have gk:=j7 Tz HV
   rw[VO,VP]
   generalize (bz lev m k).1=told at*
   generalize (bz lev m k).2=ts at*
   have QN:=D0.length
   have VQ:=Paired.length QL
   refine⟨(by show 0≤sizeLine;decide),fun G hG=>?_⟩
   have sG:=ak.new (o:= .lst []) hG
   dsimp only [aO]
   refine⟨_,rfl,TR,rfl,⟨_,aD.of (sG _ _ Gm)⟩,dY (K:=K) (a:=TR) (xs:=tA.map V.ref) (fun i σ H'=>∃(v7:Option V) (gA:List Addr),σ=[some (.ref p),some (.int most),some (.ref lf),some (.ref TL),some (.ref TR),some (.int (0+(k:Int))),some (.ref G),v7,v8]∧H' G=some (.lst (gA.map V.ref))∧mx TC bx wd [G] H H' gA (bg m (ts.take i))∧ak H7 H') ?_ (fun i σ H' _ ⟨_,_,_,_,_,e⟩=>aD.of (e _ _ Gm)) ?_ ?_⟩
   ·exact⟨v7,[],rfl,ae, .nil,sG⟩
   ·rintro i y σ H8 hi ⟨v7,gA,rfl,D4,zo,e8⟩
    obtain⟨t,ht,rfl⟩:=bH hi
    obtain⟨x,hx,hT⟩:=fh QL ht
    have TB:=hT.same e8
    obtain⟨dx,fs,a,b,h1,h2,_⟩:=id TB
    have lx:=(Tz.nn x (List.mem_of_getElem? hx)).1.1
    have QO:=Paired.length zo
    refine⟨_,rfl, .inl ⟨rfl,_,aD.of D4⟩,_,rfl,t,dx,fs,rfl,h1,h2.no _ (by decide+kernel) (by decide+kernel) (by decide+kernel),_,rfl,t,lf,fA,bx,wd,x,rfl,TB.has,e8 _ _ (e7 _ _ QK),(ID.same e7).same e8,Oz,by omega,by rw[Tt];exact HV x (List.mem_of_getElem? hx),by omega,lw,fun Lr TF H9 WS VR uC e9=>?_⟩
    have VS:=Paired.length uC
    have g1:=ud (m:=m) hx
    have g2:=ue m (i+1) ts
    rw[Tt] at uC VS
    rw[g1,List.length_append] at g2
    have VT:=e9 _ _ D4
    have kb:∀b o,H9 b=some o→b∉[G]→(upd H9 G (.lst (gA.map V.ref++TF.map V.ref))) b=some o:=fun b o z w=>by rw[ao (by simpa using w)];exact z
    refine⟨G,Lr,_,_,rfl,rfl,VT,VR,by rw[List.length_map,List.length_map];omega,_,gA++TF,rfl,?_,?_,fun b o z=>?_⟩
    ·rw[ae,List.map_append]
    ·rw[g1]
     refine iO (bE (fun _ _ z=>(z.same e9).keep kb) zo) (bE (fun _ _ z=>?_) uC)
     have z':eX TC bx wd [G] H H9 _ _:=z.cast fun b _ zb _=>⟨by simp only [List.mem_cons,List.not_mem_nil,or_false];exact Ne.symm (af D4 zb),((e6.trans e7).trans e8).free zb⟩
     exact z'.keep kb
    ·rw[ao (af z hG)]
     exact e9 _ _ (e8 _ _ z)
   ·rintro σ H8 ⟨v7,gA,rfl,D4,zo,e8⟩
    rw[List.length_map,VQ,List.take_length] at zo
    have zo:mx TC bx wd [] H H8 gA (bg m ts):=bE (fun _ _ z=>z.cast fun b _ zb _=>⟨by simp,zb⟩) zo
    have QO:=Paired.length zo
    generalize TH:bg m ts=gr at*
    have IE:=e8 _ _ Iz
    have IF:=D0.same e8
    refine⟨_,rfl,G,rfl,⟨_,aD.of D4⟩,fun L hL=>gJ (K:=K) (a:=G) (L:=L) (xs:=gA.map V.ref) H8 (fun σ=>∃v:Option V,σ=[v]) (fun i ys=>∃la:List Addr,ys=la.map V.ref∧la.length≤i∧aE [] H8 la (((gr.take i).filter fun t=>lev t.1).map (·.1))∧∀b∈la,H b=none)
     (aD.of D4) hL ⟨none,rfl⟩ (ak.new hL) ae ⟨[],rfl,Nat.le_refl _, .nil,fun b hb=>by cases hb⟩ (by rw[List.length_map];omega) ?_ ?_ ?_⟩
    ·rintro i ys ⟨la,rfl,h,_⟩
     rw[List.length_map]
     exact h
    ·rintro i y σ H9 ys hy ⟨v,rfl⟩ hs si ⟨la,rfl,Bl,xg,uz⟩ N M hN hM
     obtain⟨t,ht,rfl⟩:=bH hy
     obtain⟨x,hx,hT⟩:=fh zo ht
     have TJ:=hT.same hs
     obtain⟨dx,fs,a,b,h1,h2,h3,_⟩:=id TJ
     obtain⟨WT,A4,a',b',PY,Hz,VU,_,_,_,tN,_⟩:=id hT
     have ea:a=a':=by
      have z:=hs _ _ PY
      rw[h1] at z
      cases z
      have z2:=h2.n
      rw[Hz.n] at z2
      cases z2
      rfl
     subst ea
     refine⟨_,rfl,t,dx,fs,rfl,h1,h2.no _ (by decide+kernel) (by decide+kernel) (by decide+kernel),t,bx,wd,x,rfl,TJ.has,_,rfl,g5 (fun c=>?_) fun c=>?_⟩
     ·rw[zm] at c
      refine⟨_,rfl,t,TC,dx,fs,_,rfl,h1,T.bh,T.wL,h2.n,hN _ _ _ ⟨_,rfl⟩ hs si ⟨la++[a],by rw[List.map_append];rfl,by simp;omega,?_,fun b hb=>(List.mem_append.mp hb).elim (uz b) fun hb=>by rw[List.mem_singleton.mp hb];exact tN⟩⟩
      rw[ay hx,List.filter_append,List.map_append,show [x].filter (fun t=>lev t.1)=[x] by simp [c]]
      exact xg.snoc VU (by simp)
     ·rw[zm] at c
      refine hM _ _ ⟨_,rfl⟩ hs si ⟨la,rfl,by omega,?_,uz⟩
      rw[ay hx,List.filter_append,show [x].filter (fun t=>lev t.1)=[] by simp [c],List.append_nil]
      exact xg
    rintro H9 ys xh si ⟨la,rfl,_,xg,uz⟩
    rw[List.length_map,QO,List.take_length] at xg
    have QP:=xg.same xh
    generalize QQ:(gr.filter fun t=>lev t.1).map (·.1)=OB at*
    have Bl:=xg.length
    have WU:OB.length≤gr.length:=by rw[←QQ,List.length_map];exact List.length_filter_le _ _
    have WV:∀v∈OB,v.length=m:=fun v hv=>by
     rw[←QQ] at hv
     obtain⟨t,ht,rfl⟩:=List.mem_map.mp hv
     exact(gk.nn t (List.mem_filter.mp ht).1).1.1
    dsimp only [aO]
    refine⟨_,rfl,_,rfl,L,rfl,⟨_,aD.of si⟩,fun L2 de=>gJ (K:=K) (a:=L) (L:=L2) (xs:=la.map V.ref) H9 (fun σ=>∃v:Option V,σ=[v,some (.ref TL)]) (fun i ys=>∃lb:List Addr,ys=lb.map V.ref∧lb.length≤i∧aE [] H9 lb ((OB.take i).filter fun v=>!(told.any fun u=>gw u v))∧∀b∈lb,b∈la)
     (aD.of si) de ⟨none,rfl⟩ (ak.new de) ae ⟨[],rfl,Nat.le_refl _, .nil,fun b hb=>by cases hb⟩ (by rw[List.length_map];omega) ?_ ?_ ?_⟩
    ·rintro i ys ⟨lb,rfl,h,_⟩
     rw[List.length_map]
     exact h
    ·rintro i y σ xS ys hy ⟨v,rfl⟩ hs nQ ⟨lb,rfl,vP,n8,OC⟩ N M hN hM
     obtain⟨nj,TK,rfl⟩:=bH hy
     obtain⟨nv,TM,TN,_⟩:=QP.get TK
     have IG:=hs _ _ TN
     have sj:=hs _ _ (xh _ _ IE)
     have xi:=(IF.same xh).same hs
     dsimp only [aO]
     refine⟨_,rfl,TL,rfl,⟨_,aD.of sj⟩,fun L3 fP=>cH (K:=K) (a:=TL) (L:=L3) (xs:=ta.map V.ref) xS (fun σ=>∃v:Option V,σ=[v,some (.ref nj)]) (fun j ys=>ys=((told.take j).map fun u=>gw u nv).map V.bl)
      (aD.of sj) fP ⟨none,rfl⟩ (ak.new fP) ae rfl (by rw[List.length_map];omega) ?_ ?_ ?_⟩
     ·rintro j ys rfl
      rw[List.length_map,List.length_map,List.length_take];omega
     ·rintro j y σ D5 ys hy ⟨v,rfl⟩ pD nR rfl N2 M2 wW
      obtain⟨uj,QR,rfl⟩:=bH hy
      obtain⟨u,hu,QS,_⟩:=(xi.same pD).get QR
      refine⟨_,rfl,_,rfl,uj,nj,u,nv,rfl,QS,pD _ _ IG,by rw[QM u (List.mem_of_getElem? hu)];omega,fun TQ Gj=>wW _ _ _ ⟨_,rfl⟩ (pD.trans Gj) (Gj _ _ nR) ?_⟩
      rw[ay hu,List.map_append,List.map_append]
      rfl
     ·rintro D5 ys pD nR rfl
      rw[List.length_map,QN,List.take_length] at nR
      have IH:(told.map fun u=>gw u nv).any id=told.any fun u=>gw u nv:=by rw[List.any_map];rfl
      refine⟨L3,_,rfl,aD.of nR,_,rfl,g5 (fun c=>?_) fun c=>?_⟩
      ·rw[IH] at c
       refine⟨_,rfl,hN _ _ _ ⟨_,rfl⟩ (hs.trans pD) (pD _ _ nQ) ⟨lb++[nj],by rw[List.map_append];rfl,by simp;omega,?_,fun b hb=>(List.mem_append.mp hb).elim (OC b) fun hb=>by rw[List.mem_singleton.mp hb];exact List.mem_of_getElem? TK⟩⟩
       rw[ay TM,List.filter_append,show [nv].filter (fun v=>!(told.any fun u=>gw u v))=[nv] by simp only [List.filter_cons,c,if_true,List.filter_nil]]
       exact n8.snoc TN (by simp)
      ·rw[IH] at c
       refine hM _ _ ⟨_,rfl⟩ (hs.trans pD) (pD _ _ nQ) ⟨lb,rfl,by omega,?_,OC⟩
       rw[ay TM,List.filter_append,show [nv].filter (fun v=>!(told.any fun u=>gw u v))=[] by simp only [List.filter_cons,c,List.filter_nil];rfl,List.append_nil]
       exact n8
    rintro xS ys kU nQ ⟨lb,rfl,vP,n8,OC⟩
    rw[List.length_map,Bl,List.take_length] at n8
    rw[List.length_map] at vP
    have sj:=kU _ _ (xh _ _ IE)
    have xi:=(IF.same xh).same kU
    refine⟨TL,L2,_,_,rfl,rfl,sj,nQ,by rw[List.length_map,List.length_map];omega,fun OD QT=>?_⟩
    have sT:=ak.new (o:= .lst (ta.map V.ref++lb.map V.ref)) QT
    have II:(upd xS OD (.lst (ta.map V.ref++lb.map V.ref))) OD=some (.lst ((ta++lb).map V.ref)):=by rw[ae,List.map_append]
    generalize upd xS OD (.lst (ta.map V.ref++lb.map V.ref))=D5 at sT II ⊢
    have D6:=(xh.trans kU).trans sT
    have IJ:=D6 _ _ D4
    dsimp only [aO]
    refine⟨_,rfl,G,rfl,⟨_,aD.of IJ⟩,fun L4 sf=>gJ (K:=K) (a:=G) (L:=L4) (xs:=gA.map V.ref) D5 (fun σ=>∃v:Option V,σ=[v]) (fun i ys=>∃la:List Addr,ys=la.map V.ref∧la.length≤i∧mx TC bx wd [] H D5 la ((gr.take i).filter fun t=>!lev t.1))
     (aD.of IJ) sf ⟨none,rfl⟩ (ak.new sf) ae ⟨[],rfl,Nat.le_refl _, .nil⟩ (by rw[List.length_map];omega) ?_ ?_ ?_⟩
    ·rintro i ys ⟨la,rfl,h,_⟩
     rw[List.length_map]
     exact h
    ·rintro i y σ TQ ys hy ⟨v,rfl⟩ hs zp ⟨lc,rfl,VV,sq⟩ N M hN hM
     obtain⟨t,ht,rfl⟩:=bH hy
     obtain⟨x,hx,hT⟩:=fh zo ht
     have IK:=hT.same D6
     have IL:=IK.same hs
     obtain⟨dx,fs,a,b,h1,h2,h3,_⟩:=id IL
     refine⟨_,rfl,t,dx,fs,rfl,h1,h2.no _ (by decide+kernel) (by decide+kernel) (by decide+kernel),t,bx,wd,x,rfl,IL.has,_,rfl,g5 (fun c=>?_) fun c=>?_⟩
     ·rw[zm] at c
      refine⟨_,rfl,hN _ _ _ ⟨_,rfl⟩ hs zp ⟨lc++[t],by rw[List.map_append];rfl,by simp;omega,?_⟩⟩
      rw[ay hx,List.filter_append,show [x].filter (fun t=>!lev t.1)=[x] by simp only [List.filter_cons,c,if_true,List.filter_nil]]
      exact gL IK sq
     ·rw[zm] at c
      refine hM _ _ ⟨_,rfl⟩ hs zp ⟨lc,rfl,by omega,?_⟩
      rw[ay hx,List.filter_append,show [x].filter (fun t=>!lev t.1)=[] by simp only [List.filter_cons,c,List.filter_nil];rfl,List.append_nil]
      exact sq
    rintro TQ ys zq zp ⟨lc,rfl,VV,sq⟩
    rw[List.length_map,QO,List.take_length] at sq
    refine⟨OD,L4,ta++lb,lc,_,_,_,_,rfl,zq _ _ II,?_,(fun b hb=>(List.mem_append.mp hb).elim (qH b) fun hb=>uz b (OC b hb)),zp,?_,(e7.trans e8).trans (D6.trans zq)⟩
    ·unfold kO
     rw[TH,QQ]
     exact((uf xi (n8.same kU)).same sT).same zq
    ·unfold wF
     rw[TH]
     exact bE (fun _ _ z=>z.same zq) sq
  ·rintro σ H7 ⟨TL,TR,ta,tA,v5,v6,v7,v8,rfl,Iz,D0,qH,Gm,QL,e7⟩
   have WW:=Ou most (Nat.le_refl _)
   have QM:∀v∈(bz lev m most).1,v.length=m:=fun v hv=>((Tu most v).mp hv).1.1.1
   have em:((most:Nat):Int).toNat=most:=by omega
   rw[em] at D0
   generalize (bz lev m most).1=told at*
   have QN:=D0.length
   refine⟨_,rfl,TL,ta,told,m,rfl,aD.of Iz,D0.at,QM,fun l ps Bm QU Gn=>?_⟩
   have pm:∀i∈ps,i<ta.length:=fun i hi=>by simpa using Bm.mem_iff.mp hi
   refine q l _ (nC told ps) _ ((e6.trans e7).free Gn) ((e6.trans e7).trans (ak.new Gn)) ?_ QU ae ((fF D0 ps pm).same (ak.new Gn)) fun b hb=>?_
   ·have h1:=Bm.map fun i=>told.getD i []
    rw[QN,map_range] at h1
    exact h1
   ·obtain⟨i,hi,rfl⟩:=List.mem_map.mp hb
    have:=pm i hi
    exact qH _ (by rw[List.getD_eq_getElem?_getD,List.getElem?_eq_getElem this];exact List.getElem_mem _)
theorem pE{α:Type}(x:Int)(f g:α→Int):∀(z:List Int) (l:List α),dot z (l.map fun a=>x*f a+g a)=x*dot z (l.map f)+dot z (l.map g)
 | [],l=>by
   have e:∀y:List Int,dot [] y=0:=fun y=>by cases y<;>rfl
   rw[e,e,e]
   simp
 |a::z,[]=>by
  show (0 :Int)=x*0+0
  simp
 |a::z,b::l=>by
  have ih:=pE x f g z l
  show a*(x*f b+g b)+dot z (l.map fun a=>x*f a+g a)=x*(a*f b+dot z (l.map f))+(a*g b+dot z (l.map g))
  rw[ih,Int.mul_add,Int.mul_add,Int.mul_left_comm]
  omega
theorem nil_dot(y:List Int):dot [] y=0:=by cases y<;>rfl
theorem ij{α:Type}:∀(z:List Int) (l:List α),dot z (l.map fun _=>0)=0
 | [],_=>nil_dot _
 |_::_,[]=>rfl
 |a::z,_::l=>by
  show a*0+dot z (l.map fun _=>0)=0
  rw[ij z l]
  simp
theorem pF{n:Nat}{T:List Int}:∀(cs:List (List Int)) (v:List Int),(∀c∈cs,c.length=n)→v.length=cs.length→dot v (cs.map fun c=>dot T c)=dot T ((List.range n).map fun r=>dot v (row cs r))
 | [],v,_,hv=>by
   have e:v=[]:=List.length_eq_zero_iff.mp hv
   subst e
   have e2:((List.range n).map fun r=>dot [] (row [] r))=(List.range n).map fun _=>(0 :Int):=List.map_congr_left fun r _=>nil_dot _
   rw[e2,ij]
   rfl
 |c::cs,[],_,hv=>by simp at hv
 |c::cs,x::v,hc,hv=>by
  have ih:=pF (T:=T) cs v (fun d hd=>hc d (List.mem_cons_of_mem _ hd)) (by simpa using hv)
  have lc:=hc c (List.mem_cons_self ..)
  have e1:((List.range n).map fun r=>dot (x::v) (row (c::cs) r))=(List.range n).map fun r=>x*c.getD r 0+dot v (row cs r):=rfl
  have e2:((List.range n).map fun r=>c.getD r 0)=c:=by rw[←lc];exact map_range 0 c
  rw[e1,pE,e2,←ih]
  rfl
theorem pG:∀(T D:List Int) (f:Nat),T.length=D.length→f<T.length→(∀r,r≠f→T.getD r 0=0∨D.getD r 0=0)→dot T D=T.getD f 0*D.getD f 0
 |a::T,b::D,0,hl,_,h=>by
  have z:∀(T D:List Int),(∀r,T.getD r 0=0∨D.getD r 0=0)→dot T D=0:=by
   intro T
   induction T with
   |nil=>intro D _;exact nil_dot D
   |cons a T ih=>
    intro D h
    cases D with
    |nil=>rfl
    |cons b D=>
     have h0:a=0∨b=0:=h 0
     show a*b+dot T D=0
     rw[ih D fun r=>h (r+1)]
     rcases h0 with h0|h0<;>rw[h0]<;>simp
  show a*b+dot T D=a*b
  rw[z T D fun r=>h (r+1) (by omega),Int.add_zero]
 |a::T,b::D,f+1,hl,hf,h=>by
  have h0:a=0∨b=0:=h 0 (by omega)
  have ih:=pG T D f (by simpa using hl) (by simpa using hf) fun r hr=>h (r+1) (by omega)
  show a*b+dot T D=T.getD f 0*D.getD f 0
  rw[ih]
  rcases h0 with h0|h0<;>rw[h0]<;>simp
 | [],_,_,_,hf,_=>by simp at hf
 |_::_,[],_,hl,_,_=>by simp at hl
theorem gC(cs:List (List Int))(n:Nat):(cj cs n).length=n:=by unfold cj;simp
theorem xk{cs:List (List Int)}{n:Nat}(fit:∀c∈cs,c.length=n∧∀x∈c,cG 70 x):∀c∈cj cs n,c.length=cs.length∧∀x∈c,cG 70 x:=by
 intro c hc
 obtain⟨r,hr,rfl⟩:=List.mem_map.mp hc
 refine⟨fB cs r,fun x hx=>?_⟩
 obtain⟨d,hd,rfl⟩:=List.mem_map.mp hx
 have hr:r<n:=by simpa using hr
 exact(fit d hd).2 _ (List.mem_of_getElem? (getD_at (by rw[(fit d hd).1];exact hr)))
theorem sr{cs:List (List Int)}{n j r:Nat}(hj:(aM cs n)[j]? =some r):row (dE cs n) j=row cs r:=by
 unfold row dE
 rw[List.map_map]
 apply List.map_congr_left
 intro c _
 show ((aM cs n).map fun r=>c.getD r 0).getD j 0=_
 rw[List.getD_eq_getElem?_getD,List.getElem?_map,hj]
 rfl
theorem zr(bx:List (List Int))(wd:Nat)(v:List Int):gz bx wd v=true↔∀r,r<wd→dot v (row bx r)=0:=by
 unfold gz d6
 rw[Bool.not_eq_true',List.any_eq_false]
 constructor
 ·intro h r hr
  have:=h (dot v (row bx r)) (List.mem_map.mpr ⟨r,by simpa using hr,rfl⟩)
  simpa using this
 ·intro h x hx
  obtain⟨r,hr,rfl⟩:=List.mem_map.mp hx
  have:=h r (by simpa using hr)
  simpa using this
theorem ug{cs:List (List Int)}{n:Nat}(hn:n≤60)(hl:cs.length≤60)(fit:∀c∈cs,c.length=n∧∀x∈c,cG 70 x){v:List Int}(hv:v.length=cs.length):gz (dE cs n) (aM cs n).length v=true↔∀r,r<n→dot v (row cs r)=0:=by
 have g:=nM (n:=cs.length) (cs:=cj cs n) (by omega) (by rw[gC];omega) (xk fit)
 have ge:(cJ (cj cs n).length (cj cs n)).st.places=aM cs n:=rfl
 rw[zr]
 constructor
 ·intro h r hr
  have hp:∀q∈aM cs n,dot v (row cs q)=0:=fun q hq=>by
   obtain⟨j,hj⟩:=List.getElem?_of_mem hq
   rw[←sr hj]
   exact h j (List.getElem?_eq_some_iff.mp hj).1
  rcases g.T.all r (by rw[gC];exact hr) with z|z
  ·exact hp r z
  ·obtain⟨a,ha⟩:=List.getElem?_of_mem z
   have la:a< (cJ (cj cs n).length (cj cs n)).bP.length:=by rw[g.T.nn];exact(List.getElem?_eq_some_iff.mp ha).1
   have hT:=List.getElem?_eq_getElem la
   generalize (cJ (cj cs n).length (cj cs n)).bP[a]=T at hT
   have LT:=g.T.lev a r T ha hT
   have lT:T.length=n:=by rw[LT.len,gC]
   have h0:∀c∈cs,dot T c=0:=fun c hc=>by
    obtain⟨t,ht⟩:=List.getElem?_of_mem hc
    have OE:=(List.getElem?_eq_some_iff.mp ht).1
    have:=LT.lev t OE
    have e:row (cj cs n) t=c:=by
     have lc:=(fit c hc).1
     unfold row cj
     rw[List.map_map,←map_range 0 c,lc]
     apply List.map_congr_left
     intro q _
     show (row cs q).getD t 0=_
     rw[gq OE,List.getD_eq_getElem?_getD (l:=cs),ht]
     rfl
    rwa [e] at this
   have e1:=pF (n:=n) (T:=T) cs v (fun c hc=>(fit c hc).1) hv
   have e2:(cs.map fun c=>dot T c)=cs.map fun _=>(0 :Int):=List.map_congr_left h0
   rw[e2,ij] at e1
   have dg:∀q,q<n→((List.range n).map fun r=>dot v (row cs r)).getD q 0=dot v (row cs q):=fun q hq=>by
    rw[List.getD_eq_getElem?_getD,List.getElem?_map,List.getElem?_range hq]
    rfl
   rw[pG T _ r (by simp [lT]) (by omega) fun q hq=>?_,dg r hr] at e1
   ·have:=LT.pos
    rcases Int.mul_eq_zero.mp e1.symm with y|y
    ·omega
    ·exact y
   ·by_cases QV:q∈aM cs n
    ·have:=g.T.nY q QV
     rw[gC] at this
     exact .inr (by rw[dg q this];exact hp q QV)
    ·exact .inl (LT.zero q hq (.inl QV))
 ·intro h j hj
  have hm:=List.getElem?_eq_getElem hj
  generalize (aM cs n)[j]=r at hm
  rw[sr hm]
  refine h r ?_
  have:=g.T.nY r (List.mem_of_getElem? hm)
  rwa [gC] at this
theorem xm{α:Type}[DecidableEq α]:∀{l m:List α},l.Nodup→(∀x∈l,x∈m)→l.length≤m.length
 | [],_,_,_=>Nat.zero_le _
 |a::l,m,hn,hs=>by
  rw[List.nodup_cons] at hn
  have ha:=hs a (List.mem_cons_self ..)
  have ih:=xm (l:=l) (m:=m.erase a) hn.2 fun x hx=>by
   have jG:=hs x (List.mem_cons_of_mem _ hx)
   have ne:x≠a:=fun z=>hn.1 (z▸hx)
   exact(List.mem_erase_of_ne ne).mpr jG
  have h1:=List.length_erase_of_mem ha
  have h2:=List.length_pos_of_mem ha
  rw[List.length_cons]
  omega
theorem uh(lev:List Int→Bool)(m:Nat):∀k,(bz lev m k).2.length≤m^k∧(bg m (bz lev m k).2).length≤m^(k+1):=by
 have gr:∀ts:List dD,(bg m ts).length≤m*ts.length:=by
  intro ts
  induction ts with
  |nil=>exact Nat.le_refl _
  |cons t r ih=>
   have e:bg m (t::r)=(List.range' t.2 (m - t.2)).map (fun p=>(h9 t.1 p,p))++bg m r:=by unfold bg;rw[List.flatMap_cons]
   rw[e,List.length_append,List.length_map,List.length_range',List.length_cons,Nat.mul_succ]
   omega
 intro k
 induction k with
 |zero=>exact⟨Nat.le_refl _,by have:=gr (bz lev m 0).2;simpa [bz] using this⟩
 |succ k ih=>
  have h1:(bz lev m (k+1)).2.length≤m^(k+1):=Nat.le_trans (List.length_filter_le _ _) ih.2
  refine⟨h1,Nat.le_trans (gr _) ?_⟩
  rw[Nat.pow_succ m (k+1),Nat.mul_comm]
  exact Nat.mul_le_mul_right m h1
theorem IM{b:Bool}{A B:Prop}(hb:b=false)(h:B):if b=true then A else B:=by
 subst hb
 exact qc h
structure D7(K:PySem.W.Frag)(mg:Str→Option Value)(C:Addr):Prop where
 jF:mg "sum" =none
 ck:mg "range" =none
theorem none_back{H H':Hp}{D:Addr}(e:ak H H')(h:H' D=none):H D=none:=e.free h
theorem D8{n i:Nat}(h:i<n):pL n (i:Int)=some i:=by
 unfold pL
 rw[if_pos (by omega),if_pos (by omega)]
 rfl
def qI(K:PySem.W.Frag):Sp:=fun vs H Q _=>∃(a:Addr) (ns:List Int) (p:Int),vs=[.ref a, .int p]∧aD K H a (ns.map V.int)∧∀n H',ak H H'→Q (.int n) H'
theorem D9:aI ["_law_script","_law_place"] ["_law_script","_law_place"] (ag jA):=iz
theorem zu(D:Def K mg "_law_here" "_law_here" jA ["_law_script","_law_place"])(T:D7 K mg C):cC P w K mg base 1 "_law_here" ["_law_script","_law_place"] (qI K):=by
 refine D.il D9 (fun vs H Q E h=>?_) (fun f b6 A outer s H vs Q E hr h=>?_)
 ·obtain⟨a,ns,p,rfl,_⟩:=h
  rfl
 ·obtain⟨a,ns,p,rfl,hS,q⟩:=h
  obtain⟨ms,hm,_⟩:=vp ns (some p) (some (p+1))
  refine⟨_,(aw
     (aU (aL (fZ rfl) rfl T.jF je (aa (oy rg (pv 0) (mL (pv 1)) (mL (aH dH (pv 1) ax))) ai)))),?_⟩
  exact⟨_,rfl,_,rfl,_,rfl,_,rfl,_,_,rfl,rfl,_,rfl,a,_,rfl,hS,fun t ht=>⟨t,ms,rfl,aD.of (by rw[ae,hm]),q _ _ (ak.new ht)⟩⟩
def Ea(x:Int):Prop:=0≤x∧x<1999999973
theorem qJ(n:Int):Ea (n%1999999973):=⟨Int.emod_nonneg _ (by decide),Int.emod_lt_of_pos _ (by decide)⟩
def pH:Sp:=fun vs H Q _=>∃c m:Int,vs=[.int c, .int m]∧0≤m∧m≤63∧∀(l:Addr) (xs:List Int) H',(xs.length:Int)=m→(∀x∈xs,Ea x)→H l=none→H' l=some (.lst (xs.map V.int))→ak H H'→Q (.ref l) H'
theorem bZ:aI ["_law_cell","_law_many","_law_rest","_law_one","_law_two","_law_found","_law_turn","_law_more","_law_k"] ["_law_cell","_law_many"] (ag eE):=iz
theorem ui(D:Def K mg "_law_shaken" "_law_shaken" eE ["_law_cell","_law_many"])(T:D7 K mg C):cC P w K mg base 1 "_law_shaken" ["_law_cell","_law_many"] pH:=by
 refine D.il bZ (fun vs H Q E h=>?_) (fun f b6 A outer s H vs Q E hr h=>?_)
 ·obtain⟨c,m,rfl,_⟩:=h
  rfl
 ·obtain⟨c,m,rfl,m0,m1,q⟩:=h
  have big:(2000 :Nat) <sizeLine:=by decide
  refine⟨_,(ah
     (aF (i:=2) bZ.nd rfl (Or.inl rfl) (aH kE (pv 0) ax))
    (ah
     (aF (i:=3) bZ.nd rfl (Or.inl rfl) (aH di (pv 2) ax))
    (ah
     (aF (i:=4) bZ.nd rfl (Or.inl rfl) (aH di (aH kE (pv 2) ax) ax))
    (ah
     (aF (i:=5) bZ.nd rfl (Or.inl rfl) (bq ai))
    (ah
     (b5 PassesOwn.never rfl (bQ rfl T.ck (aa (aH dH (pv 1) ax) ai)) (av (i:=6) bZ.nd rfl (Or.inl rfl))
      (ah
       (aF (i:=7) bZ.nd rfl (Or.inl rfl) (aH dH (aH dH (aH dH (aH i9 (pv 3) ax) (aH i9 (pv 4) (pv 4))) (aH i9 ax (pv 6))) ax))
      (ah
       (aF (i:=3) bZ.nd rfl (Or.inl rfl) (pv 4))
      (ah
       (aF (i:=4) bZ.nd rfl (Or.inl rfl) (aH di (pv 7) ax))
      (aw
       (cK (fX PySem.F.plainAttrs_list PySem.F.slot_list_append PySem.F.type_list_append bI (pv 5) (aa (pv 4) ai))))))))
    (ah
     (aF (i:=5) bZ.nd rfl (Or.inl rfl) (oy rg (pv 5) (mL ax) yo))
    (ah
     (eg (cL uS (aH di (pv 0) ax) ax (cz _))
      (aw
       (aU (pv 5)))
      cp)
    (ah
     (b5 PassesOwn.never rfl (bQ rfl T.ck (aa (pv 1) ai)) (av (i:=8) bZ.nd rfl (Or.inl rfl))
      (aw
       (eg (cL uT (pv 2) ax (cz _))
        (ah
         (kh (aH di (pv 2) ax) (kg (pv 5) (pv 8) set_list))
        (aw
         (aF (i:=2) bZ.nd rfl (Or.inl rfl) (aH kE (pv 2) ax))))
        cp)))
    (aw
     (aU (pv 5))))))))))),?_⟩
  have o1:=qJ (c/2)
  have t0:0≤c/2/1999999973%1999999943:=Int.emod_nonneg _ (by decide)
  have t1:c/2/1999999973%1999999943<1999999943:=Int.emod_lt_of_pos _ (by decide)
  refine⟨_,rfl,_,_,rfl,rfl,⟨by decide,by decide⟩,_,rfl,_,_,rfl,rfl,(by show (0 :Int) <1999999973;decide),_,rfl,_,_,rfl,rfl,⟨by decide,by decide⟩,_,_,rfl,rfl,(by show (0 :Int) <1999999943;decide),(by show 0≤sizeLine;decide),fun D1 IP=>?_⟩
  refine⟨_,rfl,_,_,rfl,rfl,_,rfl,by omega,by omega,cS (fun i σ H'=>∃(one two:Int) (xs:List Int) (v6 v7:Option V),σ=[some (.int c),some (.int m),some (.int (c/2)),some (.int one),some (.int two),some (.ref D1),v6,v7,none]∧Ea one∧Ea two∧H' D1=some (.lst (xs.map V.int))∧xs.length=i∧(∀x∈xs,Ea x)∧ak H H') ?_ ?_ ?_⟩
  ·exact⟨_,_,[],none,none,rfl,o1,⟨t0,by omega⟩,ae,rfl,(fun x hx=>by cases hx),ak.new IP⟩
  ·rintro i σ H' hi ⟨one,two,xs,v6,v7,rfl,h1,h2,BE,hl,hx,e⟩
   obtain⟨a0,a1⟩:=h1
   obtain⟨b0,b1⟩:=id h2
   refine⟨_,rfl,_,_,rfl,rfl, .inr ⟨by decide,by decide⟩,_,rfl,_,rfl,_,_,rfl,rfl, .inl ⟨by omega,by omega⟩,_,_,rfl,rfl,_,rfl,_,_,rfl,rfl, .inl ⟨by decide,by decide⟩,_,_,rfl,rfl,_,_,rfl,rfl,?_⟩
   refine⟨_,rfl,_,rfl,_,_,rfl,rfl,(by show (0 :Int) <1999999973;decide),_,rfl, .inl ⟨rfl,_,aD.of BE⟩,_,rfl,D1,_,_,rfl,rfl,BE,by rw[List.length_map];omega,?_⟩
   have hn:=qJ (one*1664525+two*two+97*(0+(i:Int))+40503)
   refine⟨two,_,xs++[(one*1664525+two*two+97*(0+(i:Int))+40503) %1999999973],_,_,rfl,h2,hn,?_,?_,?_,fun b o z=>by rw[ao (af z IP)];exact e _ _ z⟩
   ·rw[ae,List.map_append]
    rfl
   ·rw[List.length_append,hl]
    rfl
   ·intro x jG
    rcases List.mem_append.mp jG with z|z
    ·exact hx x z
    ·have ez:x=(one*1664525+two*two+97*(0+(i:Int))+40503) %1999999973:=by simpa using z
     rw[ez]
     exact hn
  ·rintro σ H' ⟨one,two,xs,v6,v7,rfl,_,_,BE,hl,hx,e⟩
   refine⟨_,rfl,_,rfl,D1,_,rfl,aD.of BE,fun p hp=>?_⟩
   have ec:jc (xs.map V.int) (some (2 :Int)) none=(xs.drop 2).map V.int:=by
    rw[show (2 :Int)=((2 :Nat):Int) from rfl,Dc,List.map_drop]
   have np:H p=none:=none_back e hp
   have sp:=e.trans (ak.new (o:= .lst (jc (xs.map V.int) (some (2 :Int)) none)) hp)
   have OF:(upd H' p (.lst (jc (xs.map V.int) (some (2 :Int)) none))) p=some (.lst ((xs.drop 2).map V.int)):=by rw[ae,ec]
   have lx:((xs.drop 2).length:Int)=m:=by rw[List.length_drop];omega
   have QW:∀x∈xs.drop 2,Ea x:=fun x z=>hx x (List.mem_of_mem_drop z)
   generalize upd H' p (.lst (jc (xs.map V.int) (some (2 :Int)) none))=H2 at sp OF ⊢
   generalize xs.drop 2=zs at OF lx QW
   dsimp only [aO]
   refine⟨_,rfl,_,_,rfl,rfl,(by show (0 :Int) <2;decide),rfl,_,rfl,g5 (fun _=>?_) fun _=>?_⟩
   ·exact⟨_,rfl,q p zs H2 lx QW np OF sp⟩
   ·refine⟨_,rfl,_,rfl,by omega,by omega,cS (fun i σ H'=>∃(rest:Int) (ys:List Int) (v8:Option V),σ=[some (.int c),some (.int m),some (.int rest),some (.int one),some (.int two),some (.ref p),v6,v7,v8]∧H' p=some (.lst (ys.map V.int))∧(ys.length:Int)=m∧(∀x∈ys,Ea x)∧ak H H') ?_ ?_ ?_⟩
    ·exact⟨_,zs,none,rfl,OF,lx,QW,sp⟩
    ·rintro i σ H3 hi ⟨rest,ys,v8,rfl,OG,ly,hy,e3⟩
     refine⟨_,rfl,_,_,rfl,rfl,_,rfl,g5 (fun _=>?_) fun _=>?_⟩
     ·have gI:i<ys.length:=by omega
      have QE:pL (ys.map V.int).length (0+(i:Int))=some i:=by rw[List.length_map,Int.zero_add];exact D8 gI
      refine⟨_,rfl,_,_,rfl,rfl,(by show (0 :Int) <1999999973;decide),_,rfl,_,rfl,p,_,_,i,rfl,rfl,OG,QE,?_⟩
      refine⟨_,rfl,_,_,rfl,rfl,⟨by decide,by decide⟩,_,ys.set i (rest%1999999973),_,rfl,?_,?_,?_,fun b o z=>by rw[ao (af z np)];exact e3 _ _ z⟩
      ·rw[ae,List.map_set]
      ·rw[List.length_set]
       exact ly
      ·intro x jG
       rcases List.mem_or_eq_of_mem_set jG with z|z
       ·exact hy x z
       ·rw[z]
        exact qJ rest
     ·exact⟨rest,ys,_,rfl,OG,ly,hy,e3⟩
    ·rintro σ H3 ⟨rest,ys,v8,rfl,OG,ly,hy,e3⟩
     exact⟨_,rfl,q p ys H3 ly hy np OG e3⟩
def TU(B R:Nat)(c:List Int):Prop:=c.length=R∧∀x∈c,x.natAbs≤B
def mB(K:PySem.W.Frag):Sp:=fun vs H Q _=>∃(a:Addr) (ns:List Int),vs=[.ref a]∧aD K H a (ns.map V.int)∧
 ∀l as cs n H',ak H H'→H' l=some (.lst (as.map V.ref))→aE [] H' as cs→(∀c∈cs,c.length=n∧∀x∈c,cG 70 x)→n≤4→1≤cs.length→cs.length≤8→Q (.ref l) H'
theorem bo:aI ["_law_script","_law_first","_law_many","_law_rows","_law_columns_here","_law_j","_law_times","_law_last","_law_share","_law_shares","_law_factors"] ["_law_script"] (ag bD):=iz
def uk:Scope:=match (aC bD).getD 9 (.Pass ⟨0,0,0,0⟩) with
 | .Return (some (.ListComp _ _ sc _)) _=>sc
 |_=>ag bD
theorem mC{W:List Addr}{H:Hp}{a:Addr}{c:List Int}(h:H a=some (.lst (c.map V.int)))(n:a∉W):∀{as:List Addr} {cs:List (List Int)} (j:Nat),aE W H as cs→aE W H (as.set j a) (cs.set j c)
 |_,_,_, .nil=> .nil
 |_,_,0, .cons _ t=> .cons ⟨h,n⟩ t
 |_,_,j+1, .cons k t=> .cons k (mC h n j t)
theorem xo{n:Nat}(h:0<n):pL n (-1)=some (n - 1):=by
 unfold pL
 rw[if_neg (by decide),if_pos (by omega)]
 congr 1
 omega
theorem qK(D:Def K mg "_law_columns" "_law_columns" bD ["_law_script"])(T:ig K mg KC FC TC)(c1:cC P w K mg base 1 "_law_here" ["_law_script","_law_place"] (qI K))(c2:cC P w K mg base 1 "_law_shaken" ["_law_cell","_law_many"] pH):cC P w K mg base 2 "_law_columns" ["_law_script"] (mB K):=by
 obtain⟨_,_,aV⟩:=c1
 obtain⟨_,_,bp⟩:=c2
 refine D.il bo (fun vs H Q E h=>?_) (fun f b6 A outer s H vs Q E hr h=>?_)
 ·obtain⟨a,ns,rfl,_⟩:=h
  rfl
 ·obtain⟨a,ns,rfl,hS,q⟩:=h
  have big:(5000 :Nat)≤sizeLine:=by decide
  refine⟨_,(ah
     (aF (i:=1) bo.nd rfl (Or.inl rfl) (aX aV.ok (hr.mono (by decide)) rfl aV.g aV.kp aV.b .nil a8 (aa (pv 0) (aa ax ai))))
    (ah
     (aF (i:=2) bo.nd rfl (Or.inl rfl) (aH dH ax (aH di (pv 1) ax)))
    (ah
     (aF (i:=3) bo.nd rfl (Or.inl rfl) (dz dP (bq (rp (.int (.int (.int (.int (.int (.int (.int (.int .nil)))))))))) (aH di (aH qU (pv 1) ax) ax) (fun _ _=>rfl)))
    (ah
     (eg (cL uT (pv 2) ax (cz _))
      (aw
       (aF (i:=3) bo.nd rfl (Or.inl rfl) (aH di (pv 3) ax)))
      cp)
    (ah
     (aF (i:=4) bo.nd rfl (Or.inl rfl) (bq ai))
    (ah
     (b5 PassesOwn.never rfl (bQ rfl T.ck (aa (pv 2) ai)) (av (i:=5) bo.nd rfl (Or.inl rfl))
      (aw
       (cK (fX PySem.F.plainAttrs_list PySem.F.slot_list_append PySem.F.type_list_append bI (pv 4) (aa (ba (sc:=(ag bD)) (NX:=["_law_script","_law_first","_law_many","_law_rows","_law_columns_here","_law_j","_law_times","_law_last","_law_share","_law_shares","_law_factors"]) (N:=["_law_x"]) (fr:=[none]) ⟨by rfl,by rfl,by decide+kernel,by decide+kernel,by decide+kernel,by rfl,by decide+kernel⟩ rfl rfl rfl (a9 (aX bp.ok (hr.mono (by decide)) rfl bp.g bp.kp bp.b .nil a8 (aa (aX aV.ok (hr.mono (by decide)) rfl aV.g aV.kp aV.b .nil a8 (aa (pv 0) (aa (aH dH ax (pv 5)) ai))) (aa (pv 3) ai)))) (fun _ _ _ _=>(av (i:=0) (show (["_law_x"]:List Str).Nodup by decide+kernel) rfl (Or.inl rfl) (Or.inr rfl))) (fun _ _ _ _=>aS) (fun _ _ _ _=>(aH fV (aH di (pv 0) ax) ax))) ai)))))
    (ah
     (eg (cL uS (aH di (aH qU (pv 1) ax) ax) ax (cz _))
      (ah
       (aF (i:=6) bo.nd rfl (Or.inl rfl) (aX bp.ok (hr.mono (by decide)) rfl bp.g bp.kp bp.b .nil a8 (aa (aX aV.ok (hr.mono (by decide)) rfl aV.g aV.kp aV.b .nil a8 (aa (pv 0) (aa ax ai))) (aa (pv 2) ai))))
      (ah
       (aF (i:=7) bo.nd rfl (Or.inl rfl) (aH ko (bq (aa ax ai)) (pv 3)))
      (ah
       (b5 PassesOwn.never rfl (bQ rfl T.ck (aa (aH fV (pv 2) ax) ai)) (av (i:=5) bo.nd rfl (Or.inl rfl))
        (ah
         (aF (i:=8) bo.nd rfl (Or.inr rfl) (aH di (dz dP (pv 6) (pv 5) (fun _ _=>rfl)) ax))
        (aw
         (gE (i:=7) bo.nd rfl (Or.inl rfl) (sc:=(ag bD)) (NX:=["_law_script","_law_first","_law_many","_law_rows","_law_columns_here","_law_j","_law_times","_law_last","_law_share","_law_shares","_law_factors"]) (N:=["_law_a","_law_b","_law_share"]) (fr:=[none,none,some 8]) ⟨by rfl,by rfl,by decide+kernel,by decide+kernel,by decide+kernel,by rfl,by decide+kernel⟩ rfl rfl rfl (dJ rfl T.fM (aa (pv 7) (aa (dz dP (pv 4) (pv 5) (fun _ _=>rfl)) ai))) (fun _ _ _ _=>(cY K 2 rfl rfl (aK (av (i:=0) (show (["_law_a","_law_b","_law_share"]:List Str).Nodup by decide+kernel) rfl (Or.inl rfl) (Or.inr rfl)) (aK (av (i:=1) (show (["_law_a","_law_b","_law_share"]:List Str).Nodup by decide+kernel) rfl (Or.inl rfl) (Or.inr rfl)) bX)))) (fun _ _ _ _=>aS) (fun _ _ _ _=>(aH fV (pv 0) (aH i9 (pv 2) (pv 1))))))))
      (aw
       (kh (pv 7) (kg (pv 4) (uP pT ax) set_list))))))
      cp)
    (ah
     (aF (i:=9) bo.nd rfl (Or.inr rfl) (bq (aa ax (aa ax (aa ax (aa (aH dH (aH uQ ax ax) ax) (aa (aH dH (aH uQ ax ax) ax) ai)))))))
    (ah
     (aF (i:=10) bo.nd rfl (Or.inr rfl) (ba (sc:=(ag bD)) (NX:=["_law_script","_law_first","_law_many","_law_rows","_law_columns_here","_law_j","_law_times","_law_last","_law_share","_law_shares","_law_factors"]) (N:=["_law_x","_law_shares"]) (fr:=[none,some 9]) ⟨by rfl,by rfl,by decide+kernel,by decide+kernel,by decide+kernel,by rfl,by decide+kernel⟩ rfl rfl rfl (a9 (aX bp.ok (hr.mono (by decide)) rfl bp.g bp.kp bp.b .nil a8 (aa (aX aV.ok (hr.mono (by decide)) rfl aV.g aV.kp aV.b .nil a8 (aa (pv 0) (aa ax ai))) (aa (pv 3) ai)))) (fun _ _ _ _=>(av (i:=0) (show (["_law_x","_law_shares"]:List Str).Nodup by decide+kernel) rfl (Or.inl rfl) (Or.inr rfl))) (fun _ _ _ _=>aS) (fun _ _ _ _=>(dz (c7 K rfl) (pv 1) (aH di (pv 0) ax) (fun _ _=>rfl)))))
    (aw
     (aU (ba (sc:=(ag bD)) (NX:=["_law_script","_law_first","_law_many","_law_rows","_law_columns_here","_law_j","_law_times","_law_last","_law_share","_law_shares","_law_factors"]) (N:=["_law_column","_law_factors"]) (fr:=[none,some 10]) ⟨by rfl,by rfl,by decide+kernel,by decide+kernel,by decide+kernel,by rfl,by decide+kernel⟩ rfl rfl rfl (a9 (pv 4)) (fun _ _ _ _=>(av (i:=0) (show (["_law_column","_law_factors"]:List Str).Nodup by decide+kernel) rfl (Or.inl rfl) (Or.inr rfl))) (fun _ _ _ _=>aS) (fun _ _ _ _=>(ba (sc:=(ix uk (ag bD))) (NX:=["_law_column","_law_factors"]) (N:=["_law_a","_law_b"]) (fr:=[none,none]) ⟨by rfl,by rfl,by decide+kernel,by decide+kernel,by decide+kernel,by rfl,by decide+kernel⟩ rfl rfl rfl (yH K rfl rfl T.fM (aa (pv 0) (aa (pv 1) ai))) (fun _ _ _ _=>(cY K 2 rfl rfl (aK (av (i:=0) (show (["_law_a","_law_b"]:List Str).Nodup by decide+kernel) rfl (Or.inl rfl) (Or.inr rfl)) (aK (av (i:=1) (show (["_law_a","_law_b"]:List Str).Nodup by decide+kernel) rfl (Or.inl rfl) (Or.inr rfl)) bX)))) (fun _ _ _ _=>aS) (fun _ _ _ _=>(aH i9 (pv 0) (pv 1))))))))))))))))),?_⟩
  refine⟨_,rfl,a,ns,0,rfl,hS,fun n0 H1 e1=>?_⟩
  have b0:0≤n0%8:=Int.emod_nonneg _ (by decide)
  have b1:n0%8<8:=Int.emod_lt_of_pos _ (by decide)
  have d0:0≤n0/8%8:=Int.emod_nonneg _ (by decide)
  have d1:n0/8%8<8:=Int.emod_lt_of_pos _ (by decide)
  obtain⟨v0,TV,TX⟩:=qe (xs:=([1,2,3,2,1,4,3,0]:List Int).map V.int) d0 d1
  obtain⟨R0,TY,rfl⟩:=List.mem_map.mp TV
  obtain⟨R,eR,lR⟩:∃R:Nat,R0=(R:Int)∧R≤4:=by
   simp only [List.mem_cons,List.not_mem_nil,or_false] at TY
   exact⟨R0.toNat,by omega,by omega⟩
  subst eR
  obtain⟨M,eM,M1,M5⟩:∃M:Nat,1+n0%8=(M:Int)∧1≤M∧M≤8:=⟨(1+n0%8).toNat,by omega,by omega,by omega⟩
  refine⟨_,rfl,_,_,rfl,rfl,(by show (0 :Int) <8;decide),_,_,rfl,rfl,?_⟩
  dsimp only [aO]
  rw[eM]
  refine⟨(by show 8≤sizeLine;decide),fun z0 OA=>⟨_,rfl,_,_,rfl,rfl,⟨by decide,by decide⟩,_,_,rfl,rfl,(by show (0 :Int) <8;decide),z0,_,_,V.int R,rfl,rfl,aD.of ae,TX,?_⟩⟩
  have s2:=e1.trans (ak.new (o:= .lst (([1,2,3,2,1,4,3,0]:List Int).map V.int)) OA)
  have s2:ak H (upd H1 z0 (.lst [V.int 1,V.int 2,V.int 3,V.int 2,V.int 1,V.int 4,V.int 3,V.int 0])):=s2
  generalize upd H1 z0 (.lst [V.int 1,V.int 2,V.int 3,V.int 2,V.int 1,V.int 4,V.int 3,V.int 0])=H2 at s2 ⊢
  dsimp only [aO]
  refine mP (fun σ' H'=>∃R:Nat,R≤4∧σ'=[some (.ref a),some (.int n0),some (.int M),some (.int R),none,none,none,none,none,none,none]∧H'=H2) (fun N hN=>?_) ?_
  ·refine⟨_,rfl,_,_,rfl,rfl,_,rfl,g5 (fun _=>?_) fun _=>?_⟩
   ·refine⟨_,rfl,_,_,rfl,rfl,(by show (0 :Int) <3;decide),hN _ _ ⟨R%3,by omega,?_,rfl⟩⟩
    rfl
   ·exact hN _ _ ⟨R,lR,rfl,rfl⟩
  clear TX TV TY lR
  clear R
  rintro σ' _ ⟨R,lR,rfl,rfl⟩
  refine⟨(by show 0≤sizeLine;decide),fun D1 IP=>?_⟩
  have s3:=s2.trans (ak.new (o:= .lst []) IP)
  have TZ:=s2.free IP
  refine⟨_,rfl,_,rfl,by omega,by omega,cS (fun i σ H'=>∃(as:List Addr) (cs:List (List Int)) (v5:Option V),σ=[some (.ref a),some (.int n0),some (.int M),some (.int R),some (.ref D1),v5,none,none,none,none,none]∧H' D1=some (.lst (as.map V.ref))∧aE [D1] H' as cs∧(∀c∈cs,TU 64 R c∧∀x∈c,x.natAbs≤4)∧cs.length=i∧ak H H') ?_ ?_ ?_⟩
  ·exact⟨[],[],none,rfl,ae, .nil,(fun c hc=>by cases hc),rfl,s3⟩
  ·rintro i σ H' hi ⟨as,cs,v5,rfl,BE,fj,hb,sq,e⟩
   have pP:=fj.length
   have Oc:i<8:=by omega
   refine⟨_,rfl, .inl ⟨rfl,_,aD.of BE⟩,_,rfl,_,rfl,_,_,rfl,rfl,a,ns,_,rfl,e.seq hS,fun c H4 e4=>⟨_,rfl,c,_,rfl,by omega,by omega,fun l zs H5 lz hz nl hl e5=>?_⟩⟩
   have OH:=e4.trans e5
   refine⟨l,rfl,⟨_,aD.of hl⟩,fun L hL=>cH (K:=K) (a:=l) (L:=L) (xs:=zs.map V.int) H5 (fun σ=>∃v:Option V,σ=[v]) (fun j ys=>ys=((zs.take j).map fun x=>x%9 - 4).map V.int)
    (aD.of hl) hL ⟨none,rfl⟩ (ak.new hL) ae rfl (by rw[List.length_map];omega) ?_ ?_ ?_⟩
   ·rintro j ys rfl
    rw[List.length_map,List.length_map,List.length_take];omega
   ·rintro j y σ H6 ys hy ⟨v,rfl⟩ jL pk rfl N M hN
    obtain⟨y,qp,rfl⟩:=int_at hy
    refine⟨_,rfl,_,_,rfl,rfl,(by show (0 :Int) <9;decide),_,_,rfl,rfl,hN _ _ _ ⟨_,rfl⟩ jL pk ?_⟩
    rw[ay qp,List.map_append,List.map_append]
    rfl
   ·rintro H6 ys jL pk rfl
    rw[List.length_map,List.take_length] at pk
    have VW:=jL _ _ (OH _ _ BE)
    have nL:L≠D1:=Ne.symm (af (OH _ _ BE) hL)
    have kb:∀b o,H6 b=some o→b∉[D1]→(upd H6 D1 (.lst (as.map V.ref++[V.ref L]))) b=some o:=fun b o z w=>by rw[ao (by simpa using w)];exact z
    refine⟨D1,_,_,rfl,rfl,VW,by rw[List.length_map];omega,as++[L],cs++[zs.map fun x=>x%9 - 4],_,rfl,?_,?_,?_,?_,fun b o z=>?_⟩
    ·rw[ae,List.map_append]
     rfl
    ·exact(((fj.same (OH.trans jL)).snoc pk (by simpa using nL))).keep kb
    ·intro c hc
     rcases List.mem_append.mp hc with hc|hc
     ·exact hb c hc
     ·have ec:c=zs.map fun x=>x%9 - 4:=by simpa using hc
      subst ec
      have h3:∀x∈zs.map fun x=>x%9 - 4,x.natAbs≤4:=fun x hx=>by
       obtain⟨y,_,rfl⟩:=List.mem_map.mp hx
       have:=Int.emod_nonneg y (show (9 :Int)≠0 by decide)
       have:=Int.emod_lt_of_pos y (show (0 :Int) <9 by decide)
       omega
      exact⟨⟨by rw[List.length_map];omega,fun x hx=>by have:=h3 x hx;omega⟩,h3⟩
    ·rw[List.length_append,sq]
     rfl
    ·rw[ao (af z TZ)]
     exact jL _ _ (OH _ _ (e _ _ z))
  ·rintro σ H4 ⟨as,cs,v5,rfl,Gp,fj,hb,sq,e4⟩
   have sq:cs.length=M:=by omega
   have pP:=fj.length
   dsimp only [aO]
   refine mP (fun σ' H'=>∃(as:List Addr) (cs:List (List Int)) (v5 v6 v7 v8:Option V),σ'=[some (.ref a),some (.int n0),some (.int M),some (.int R),some (.ref D1),v5,v6,v7,v8,none,none]∧H' D1=some (.lst (as.map V.ref))∧aE [D1] H' as cs∧(∀c∈cs,TU 64 R c)∧cs.length=M∧ak H H') (fun N hN=>?_) ?_
   ·refine⟨_,rfl,_,_,rfl,rfl,⟨by decide,by decide⟩,_,_,rfl,rfl,(by show (0 :Int) <2;decide),rfl,_,rfl,g5 (fun _=>?_) fun _=>?_⟩
    ·refine⟨_,rfl,a,ns,10,rfl,e4.seq hS,fun c H5 e5=>⟨_,rfl,c,_,rfl,by omega,by omega,fun tl zs H6 lz hz nl OE e6=>?_⟩⟩
     have T1:=e5.trans e6
     refine⟨(by show 1≤sizeLine;decide),fun z1 tq=>⟨_,rfl,z1,_,_,rfl,rfl,ae,by omega,by omega,(by show 1*_≤_;omega),fun la xg=>?_⟩⟩
     have s7:=(ak.new (o:= .lst [V.int 0]) tq).trans (ak.new (o:= .lst (List.replicate ((R:Nat):Int).toNat [V.int 0]).flatten) xg)
     have IQ:(upd (upd H6 z1 (.lst [V.int 0])) la (.lst (List.replicate ((R:Nat):Int).toNat [V.int 0]).flatten)) la=some (.lst ((List.replicate R (0 :Int)).map V.int)):=by
      rw[ae,rep0]
      rfl
     have OI:la≠D1:=fun z=>by
      rw[z] at xg
      rw[ak.new tq _ _ (T1 _ _ Gp)] at xg
      cases xg
     generalize upd (upd H6 z1 (.lst [V.int 0])) la (.lst (List.replicate ((R:Nat):Int).toNat [V.int 0]).flatten)=H7 at s7 IQ ⊢
     have T2:=T1.trans s7
     dsimp only [aO]
     refine⟨_,rfl,_,_,rfl,rfl,_,rfl,by omega,by omega,cS (fun i σ H'=>∃(la:Addr) (xs:List Int) (v5 v8:Option V),σ=[some (.ref a),some (.int n0),some (.int M),some (.int R),some (.ref D1),v5,some (.ref tl),some (.ref la),v8,none,none]∧la≠D1∧H' la=some (.lst (xs.map V.int))∧xs.length=R∧(∀x∈xs,x.natAbs≤8*i)∧ak H7 H') ?_ ?_ ?_⟩
     ·exact⟨la,List.replicate R 0,v5,none,rfl,OI,IQ,List.length_replicate,(fun x hx=>by rw[(List.mem_replicate.mp hx).2];exact Nat.zero_le _),ak.refl _⟩
     ·rintro i σ H8 hi ⟨la,xs,v5,v8,rfl,OI,zv,lx,hx,e8⟩
      have HH:i<7:=by omega
      have Eb:=T2.trans e8
      obtain⟨z,tq,QX⟩:∃z∈zs,Bg (zs.map V.int) (0+(i:Int))=some (V.int z):=by
       obtain⟨v,hv,h⟩:=qe (xs:=zs.map V.int) (i:=0+(i:Int)) (by omega) (by rw[List.length_map];omega)
       obtain⟨z,hz,rfl⟩:=List.mem_map.mp hv
       exact⟨z,hz,h⟩
      have g0:0≤z%3:=Int.emod_nonneg _ (by decide)
      have g1:z%3<3:=Int.emod_lt_of_pos _ (by decide)
      have ga:as[i]? =some (as.getD i 0):=by rw[List.getD_eq_getElem?_getD,List.getElem?_eq_getElem (by omega)];rfl
      obtain⟨c,ni,mz,_⟩:=(fj.same Eb).get ga
      have Ec:=hb c (List.mem_of_getElem? ni)
      refine⟨_,rfl,_,rfl,tl,_,_,V.int z,rfl,rfl,aD.of (e8 _ _ (s7 _ _ OE)),QX,_,_,rfl,rfl,(by show (0 :Int) <3;decide),?_⟩
      dsimp only [aO]
      generalize z%3=sh at g0 g1 ⊢
      refine⟨_,rfl,_,rfl,_,rfl,D1,_,_, .ref (as.getD i 0),rfl,rfl,aD.of (Eb _ _ Gp),(by rw[Int.zero_add];exact cb (by rw[List.getElem?_map,ga];rfl)),la,as.getD i 0,rfl,⟨_,aD.of zv⟩,⟨_,aD.of mz⟩,fun L hL=>cZ (K:=K) (a:=la) (c:=as.getD i 0) (L:=L) (xs:=xs.map V.int) (zs:=c.map V.int) H8 (fun σ=>∃v u:Option V,σ=[v,u,some (.int sh)]) (fun j us=>us=(((xs.zip c).take j).map fun ab=>ab.1 - sh*ab.2).map V.int∧j≤(xs.zip c).length)
       (aD.of zv) (aD.of mz) hL ⟨none,none,rfl⟩ (ak.new hL) ae ⟨rfl,Nat.zero_le _⟩ (by rw[List.length_map];omega) ?_ ?_ ?_⟩
      ·rintro j us ⟨rfl,_⟩
       rw[List.length_map,List.length_map,List.length_take]
       omega
      ·rintro j y z t σ H9 us hy hz ht ⟨v,u,rfl⟩ hs si ⟨rfl,hj⟩ N M hN
       obtain⟨y,qp,rfl⟩:=int_at hy
       obtain⟨z,gG,rfl⟩:=int_at hz
       have j8:(xs.zip c)[j]? =some (y,z):=by rw[List.getElem?_zip_eq_some];exact⟨qp,gG⟩
       have gI:j+1≤(xs.zip c).length:=(List.getElem?_eq_some_iff.mp j8).1
       have fP:(upd H9 t (.tup [V.int y,V.int z])) L=_:=ak.new ht _ _ si
       refine⟨t,_,rfl,kd.of ae,rfl,_,_,rfl,_,_,rfl,rfl,_,rfl,_,rfl,_,rfl,_,_,rfl,rfl, .inl ⟨by omega,by omega⟩,_,_,rfl,rfl,hN _ _ _ ⟨_,_,rfl⟩ (hs.trans (ak.new ht)) fP ⟨?_,gI⟩⟩
       rw[ay j8,List.map_append,List.map_append]
       rfl
      ·rintro H9 us hs si ⟨rfl,_⟩
       have e:(xs.zip c).take (min (xs.map V.int).length (c.map V.int).length)=xs.zip c:=List.take_of_length_le (by rw[List.length_zip,List.length_map,List.length_map];exact Nat.le_refl _)
       rw[e] at si
       refine⟨L,(xs.zip c).map fun ab=>ab.1 - sh*ab.2,_,_,rfl,Ne.symm (af (Eb _ _ Gp) hL),si,?_,?_,e8.trans hs⟩
       ·rw[List.length_map,List.length_zip,lx,Ec.1.1]
        omega
       ·intro x jG
        obtain⟨ab,l7,rfl⟩:=List.mem_map.mp jG
        obtain⟨h1,h2⟩:=List.of_mem_zip (a:=ab.1) (b:=ab.2) l7
        have hA:=hx _ h1
        have hB:=Ec.2 _ h2
        have hm:(sh*ab.2).natAbs≤2*4:=by
         rw[Int.natAbs_mul]
         exact Nat.mul_le_mul (by omega) hB
        omega
     ·rintro σ H8 ⟨la,xs,v5,v8,rfl,OI,zv,lx,hx,e8⟩
      have Eb:=T2.trans e8
      have VX:=Eb _ _ Gp
      have kb:∀b o,H8 b=some o→b∉[D1]→(upd H8 D1 (.lst ((as.map V.ref).set (M - 1) (V.ref la)))) b=some o:=fun b o z w=>by rw[ao (by simpa using w)];exact z
      refine⟨_,rfl,_,rfl,1,rfl,D1,_,_,M - 1,rfl,rfl,VX,(by rw[List.length_map,pP,sq];exact xo (by omega)),hN _ _ ⟨as.set (M - 1) la,cs.set (M - 1) xs,_,_,_,_,rfl,?_,?_,?_,?_,fun b o z=>?_⟩⟩
      ·rw[ae,List.map_set]
      ·exact(mC zv (by simpa using OI) (M - 1) (fj.same Eb)).keep kb
      ·intro c hc
       rcases List.mem_or_eq_of_mem_set hc with hc|hc
       ·exact(hb c hc).1
       ·rw[hc]
        exact⟨lx,fun x jG=>by have:=hx x jG;omega⟩
      ·rw[List.length_set]
       exact sq
      ·rw[ao (af z TZ)]
       exact Eb _ _ (e4 _ _ z)
    ·exact hN _ _ ⟨as,cs,_,_,_,_,rfl,Gp,fj,fun c hc=>(hb c hc).1,sq,e4⟩
   clear hb fj Gp pP sq
   rintro σ' H5 ⟨as,cs,v5,v6,v7,v8,rfl,VY,fj,hb,sq,e5⟩
   have pP:=fj.length
   refine⟨_,_,rfl,rfl,⟨by decide,by decide,by decide⟩,_,_,rfl,rfl,_,_,rfl,rfl,⟨by decide,by decide,by decide⟩,_,_,rfl,rfl,(by show 5≤sizeLine;decide),fun S VZ=>?_⟩
   have s6:=ak.new (o:= .lst (([1,1,7,10^(9 :Int).toNat+7,10^(18 :Int).toNat+9]:List Int).map V.int)) VZ
   have V0:(upd H5 S (.lst (([1,1,7,10^(9 :Int).toNat+7,10^(18 :Int).toNat+9]:List Int).map V.int))) S=some (.lst (([1,1,7,10^(9 :Int).toNat+7,10^(18 :Int).toNat+9]:List Int).map V.int)):=ae
   dsimp only [aO]
   refine⟨_,rfl,a,ns,11,rfl,(e5.trans s6).seq hS,fun c H7 e7=>⟨_,rfl,c,_,rfl,by omega,by omega,fun fl zs H8 lz hz T3 um e8=>?_⟩⟩
   have V1:=e8 _ _ (e7 _ _ V0)
   have Gq:=(s6.trans e7).trans e8
   refine⟨fl,rfl,⟨_,aD.of um⟩,fun L hL=>cH (K:=K) (a:=fl) (L:=L) (xs:=zs.map V.int) H8 (fun σ=>∃v:Option V,σ=[v,some (.ref S)]) (fun j ys=>∃us:List Int,ys=us.map V.int∧us.length=j∧∀x∈us,x.natAbs≤10^18+9)
    (aD.of um) hL ⟨none,rfl⟩ (ak.new hL) ae ⟨[],rfl,rfl,fun x hx=>by cases hx⟩ (by rw[List.length_map];omega) ?_ ?_ ?_⟩
   ·rintro j ys ⟨us,rfl,h,_⟩
    rw[List.length_map]
    omega
   ·rintro j y σ H9 ys hy ⟨v,rfl⟩ xh si ⟨us,rfl,OJ,QY⟩ N M hN
    obtain⟨y,qp,rfl⟩:=int_at hy
    have g0:0≤y%5:=Int.emod_nonneg _ (by decide)
    have g1:y%5<5:=Int.emod_lt_of_pos _ (by decide)
    obtain⟨v,hv,QZ⟩:=qe (xs:=([1,1,7,10^(9 :Int).toNat+7,10^(18 :Int).toNat+9]:List Int).map V.int) g0 g1
    obtain⟨z,gG,rfl⟩:=List.mem_map.mp hv
    have V2:z.natAbs≤10^18+9:=by
     simp only [List.mem_cons,List.not_mem_nil,or_false] at gG
     rcases gG with rfl|rfl|rfl|rfl|rfl<;>decide
    refine⟨_,rfl,_,rfl,_,_,rfl,rfl,(by show (0 :Int) <5;decide),S,_,_,V.int z,rfl,rfl,aD.of (xh _ _ V1),QZ,hN _ _ _ ⟨_,rfl⟩ xh si ⟨us++[z],by rw[List.map_append];rfl,by simp [OJ],fun x hx=>?_⟩⟩
    rcases List.mem_append.mp hx with hx|hx
    ·exact QY x hx
    ·have ex:x=z:=by simpa using hx
     rw[ex]
     exact V2
   rintro H9 ys xh si ⟨us,rfl,OJ,QY⟩
   rw[List.length_map] at OJ
   have xY:=Gq.trans xh
   have F4:=xY _ _ VY
   have Q0:=fj.same xY
   dsimp only [aO]
   refine⟨_,rfl,D1,rfl,⟨_,aD.of F4⟩,fun L2 de=>jf (K:=K) (a:=D1) (L:=L2) (xs:=as.map V.ref) H9 (fun σ=>∃v:Option V,σ=[v,some (.ref L)]) (fun i ys H'=>∃(ds:List Addr) (es:List (List Int)),ys=ds.map V.ref∧bG L2 H9 H' ds es∧es.length=i∧∀e∈es,e.length=R∧∀x∈e,cG 70 x)
    (aD.of F4) ?_ de ⟨none,rfl⟩ (ak.new de) ae ⟨[],[],rfl, .nil,rfl,fun e he=>by cases he⟩ (by rw[List.length_map];omega) ?_ ?_ ?_⟩
   ·rintro i ys Ha Hb e ⟨ds,es,rfl,gR,h1,h2⟩
    exact⟨ds,es,rfl,bG.but e gR,h1,h2⟩
   ·rintro i ys Ha ⟨ds,es,rfl,gR,h1,h2⟩
    have:=gR.length
    rw[List.length_map]
    omega
   ·rintro i y σ xS ys hy ⟨v,rfl⟩ kU nQ ⟨ds,es,rfl,gR,Q1,Q2⟩ N M hN
    obtain⟨aj,DY,rfl⟩:=bH hy
    obtain⟨c,zk,mz,_⟩:=(Q0.same kU).get DY
    have Ec:=hb c (List.mem_of_getElem? zk)
    have BF:=kU _ _ si
    refine⟨_,rfl,_,rfl,aj,L,rfl,⟨_,aD.of mz⟩,⟨_,aD.of BF⟩,fun L3 fP=>cZ (K:=K) (a:=aj) (c:=L) (L:=L3) (xs:=c.map V.int) (zs:=us.map V.int) xS (fun σ=>∃v u:Option V,σ=[v,u]) (fun j ws=>ws=(((c.zip us).take j).map fun ab=>ab.1*ab.2).map V.int∧j≤(c.zip us).length)
     (aD.of mz) (aD.of BF) fP ⟨none,none,rfl⟩ (ak.new fP) ae ⟨rfl,Nat.zero_le _⟩ (by rw[List.length_map,Ec.1];omega) ?_ ?_ ?_⟩
    ·rintro j ws ⟨rfl,_⟩
     rw[List.length_map,List.length_map,List.length_take]
     omega
    ·rintro j y z t σ D5 ws hy hz ht ⟨v,u,rfl⟩ hs nR ⟨rfl,hj⟩ N2 M2 wW
     obtain⟨y,qp,rfl⟩:=int_at hy
     obtain⟨z,gG,rfl⟩:=int_at hz
     have j8:(c.zip us)[j]? =some (y,z):=by rw[List.getElem?_zip_eq_some];exact⟨qp,gG⟩
     have gI:j+1≤(c.zip us).length:=(List.getElem?_eq_some_iff.mp j8).1
     have sf:(upd D5 t (.tup [V.int y,V.int z])) L3=_:=ak.new ht _ _ nR
     have WX:=Ec.2 y (List.mem_of_getElem? qp)
     refine⟨t,_,rfl,kd.of ae,rfl,_,_,rfl,_,_,rfl,rfl,_,rfl,_,rfl,_,_,rfl,rfl, .inl ⟨by omega,by omega⟩,wW _ _ _ ⟨_,_,rfl⟩ (hs.trans (ak.new ht)) sf ⟨?_,gI⟩⟩
     rw[ay j8,List.map_append,List.map_append]
     rfl
    ·rintro D5 ws hs nR ⟨rfl,_⟩
     have e:(c.zip us).take (min (c.map V.int).length (us.map V.int).length)=c.zip us:=List.take_of_length_le (by rw[List.length_zip,List.length_map,List.length_map];exact Nat.le_refl _)
     rw[e] at nR
     refine hN _ _ _ ⟨_,rfl⟩ (kU.trans hs) (hs _ _ nQ) ⟨ds++[L3],es++[(c.zip us).map fun ab=>ab.1*ab.2],by rw[List.map_append];rfl,(gR.but (cE.of hs)).snoc nR (Ne.symm (af nQ fP)) (kU.free fP),by simp [Q1],fun e he=>?_⟩
     rcases List.mem_append.mp he with he|he
     ·exact Q2 e he
     ·have ee:e=(c.zip us).map fun ab=>ab.1*ab.2:=by simpa using he
      subst ee
      refine⟨by rw[List.length_map,List.length_zip,Ec.1,OJ];omega,fun x hx=>?_⟩
      obtain⟨ab,l7,rfl⟩:=List.mem_map.mp hx
      obtain⟨h1,h2⟩:=List.of_mem_zip (a:=ab.1) (b:=ab.2) l7
      have hA:=Ec.2 _ h1
      have hB:=QY _ h2
      have hm:(ab.1*ab.2).natAbs≤64*(10^18+9):=by
       rw[Int.natAbs_mul]
       exact Nat.mul_le_mul hA hB
      exact Nat.lt_of_le_of_lt hm (by decide)
   ·rintro xS ys kU nQ ⟨ds,es,rfl,gR,Q1,Q2⟩
    rw[List.length_map] at Q1
    exact q L2 ds es R xS (e5.trans (xY.trans kU)) nQ (bG.toS (by simp) (fun b xs z _ _=>z) gR) Q2 lR (by omega) (by omega)
def iV(W:List Addr)(H:Hp)(t:Addr)(x:List Int×Int):Prop:=∃la,H t=some (.tup [.ref la, .int x.2])∧H la=some (.lst (x.1.map V.int))∧t∉W∧la∉W
theorem iV.keep{W:List Addr}{H H':Hp}{t:Addr}{x:List Int×Int}(h:iV W H t x)(e:∀b o,H b=some o→b∉W→H' b=some o):iV W H' t x:=let ⟨la,h1,h2,w1,w2⟩:=h;⟨la,e _ _ h1 w1,e _ _ h2 w2,w1,w2⟩
theorem iV.same{W:List Addr}{H H':Hp}{t:Addr}{x:List Int×Int}(h:iV W H t x)(e:ak H H'):iV W H' t x:=h.keep fun b o z _=>e b o z
theorem iV.has{W:List Addr}{H:Hp}{t:Addr}{x:List Int×Int}(h:iV W H t x):iV [] H t x:=let ⟨la,h1,h2,_,_⟩:=h;⟨la,h1,h2,by simp,by simp⟩
structure OL(i mo:Nat)(x:List Int×Int):Prop where
 len:x.1.length=i
 nn:∀y∈x.1,0≤y
 sm:x.1.sum+x.2=mo
 lf:0≤x.2
def iW(x:List Int×Int):List (List Int×Int):=(List.range (x.2+1).toNat).map fun k:Nat=>(x.1++[0+(k:Int)],x.2 - (0+(k:Int)))
def lstP(mo:Nat):Nat→List (List Int×Int)
 |0=>[([],(mo:Int))]
 |i+1=>(lstP mo i).flatMap iW
theorem xq{i mo:Nat}{x y:List Int×Int}(o:OL i mo x)(h:y∈iW x):OL (i+1) mo y:=by
 obtain⟨k,hk,rfl⟩:=List.mem_map.mp h
 have hk:=List.mem_range.mp hk
 have x0:=o.lf
 refine⟨by rw[List.length_append,o.len];rfl,fun y hy=>?_,?_,?_⟩
 ·rcases List.mem_append.mp hy with hy|hy
  ·exact o.nn y hy
  ·have ey:y=0+(k:Int):=by simpa using hy
   omega
 ·show (x.1++[0+(k:Int)]).sum+(x.2 - (0+(k:Int)))=mo
  have:=o.sm
  rw[List.sum_append,List.sum_cons,List.sum_nil]
  omega
 ·show 0≤x.2 - (0+(k:Int))
  omega
theorem nT(mo:Nat):∀i,∀x∈lstP mo i,OL i mo x
 |0,x,hx=>by
  have e:x=([],(mo:Int)):=by simpa [lstP] using hx
  subst e
  exact⟨rfl,(fun y hy=>by cases hy),(by show (0 :Int)+mo=mo;omega),(by show (0 :Int)≤mo;omega)⟩
 |i+1,x,hx=>by
  obtain⟨y,hy,h⟩:=List.mem_flatMap.mp hx
  exact xq (nT mo i y hy) h
theorem mD{i mo:Nat}{x:List Int×Int}(o:OL i mo x):(iW x).length≤mo+1:=by
 have:=ic o.nn
 have:=o.sm
 unfold iW
 rw[List.length_map,List.length_range]
 omega
theorem kW{α β:Type}{f:α→List β}{c:Nat}:∀{l:List α},(∀x∈l,(f x).length≤c)→(l.flatMap f).length≤l.length*c
 | [],_=>by simp
 |x::l,h=>by
  have h1:=h x (List.mem_cons_self ..)
  have h2:=kW (l:=l) fun y hy=>h y (List.mem_cons_of_mem _ hy)
  rw[List.flatMap_cons,List.length_append,List.length_cons,Nat.add_mul,Nat.one_mul]
  omega
theorem j9(mo:Nat):∀i,(lstP mo i).length≤(mo+1) ^i
 |0=>by simp [lstP]
 |i+1=>by
  rw[Nat.pow_succ]
  exact Nat.le_trans (kW fun x hx=>mD (nT mo i x hx)) (Nat.mul_le_mul_right _ (j9 mo i))
theorem qL(mo:Nat):∀(i:Nat) (v:List Int),v.length=i→(∀y∈v,0≤y)→v.sum≤mo→(v,(mo:Int) - v.sum)∈lstP mo i
 |0,v,hl,_,_=>by
  have e:v=[]:=List.eq_nil_of_length_eq_zero hl
  subst e
  simp [lstP]
 |i+1,v,hl,h0,hs=>by
  rcases List.eq_nil_or_concat v with rfl| ⟨u,y,rfl⟩
  ·simp at hl
  ·have y0:=h0 y (by simp)
   have u0:∀z∈u,0≤z:=fun z hz=>h0 z (by simp [hz])
   have us:=ic u0
   have hl:u.length=i:=by simpa using hl
   have es:(u.concat y).sum=u.sum+y:=by rw[List.concat_eq_append,List.sum_append,List.sum_cons,List.sum_nil];omega
   rw[es] at hs ⊢
   refine List.mem_flatMap.mpr ⟨(u,(mo:Int) - u.sum),qL mo i u hl u0 (by omega),List.mem_map.mpr ⟨y.toNat,List.mem_range.mpr (by show _< ((mo:Int) - u.sum+1).toNat;omega),?_⟩⟩
   have ey:(0+(y.toNat:Int))=y:=by omega
   dsimp only
   rw[ey,List.concat_eq_append]
   congr 1
   omega
theorem xr(mo:Nat):∀i,(lstP mo i).Pairwise fun a b=>a.1≠b.1
 |0=>by simp [lstP]
 |i+1=>by
  show ((lstP mo i).flatMap iW).Pairwise _
  rw[List.pairwise_flatMap]
  refine⟨fun x _=>?_,(xr mo i).imp fun {a b} l7 x hx y hy=>?_⟩
  ·unfold iW
   rw[List.pairwise_map]
   refine List.Pairwise.imp (fun {a b} l7=>?_) (List.nodup_iff_pairwise_ne.mp List.nodup_range)
   intro z
   have z:=List.append_cancel_left z
   simp at z
   exact l7 (by omega)
  ·obtain⟨k,_,rfl⟩:=List.mem_map.mp hx
   obtain⟨k',_,rfl⟩:=List.mem_map.mp hy
   intro z
   exact l7 (List.append_inj_left' z rfl)
def su:Sp:=fun vs H Q _=>∃m mo:Nat,vs=[.int m, .int mo]∧m≤8∧mo≤8∧(mo+1) ^m≤70000∧∀(l:Addr) (as:List Addr) (vs:List (List Int)) H',ak H H'→H' l=some (.lst (as.map V.ref))→aE [] H' as vs→vs.length≤70000→(∀v,v∈vs↔Nn m v∧v.sum≤mo)→vs.Nodup→Q (.ref l) H'
theorem eH:aI ["_law_size","_law_most","_law_found","_law_place","_law_longer","_law_some","_law_left"] ["_law_size","_law_most"] (ag eV):=iz
theorem xt(D:Def K mg "_law_lists" "_law_lists" eV ["_law_size","_law_most"])(T:ig K mg KC FC TC):cC P w K mg base 1 "_law_lists" ["_law_size","_law_most"] su:=by
 refine D.il eH (fun vs H Q E h=>?_) (fun f b6 A outer s H vs Q E hr h=>?_)
 ·obtain⟨m,mo,rfl,_⟩:=h
  rfl
 ·obtain⟨m,mo,rfl,m8,T4,pw,q⟩:=h
  have big:(1000000 :Nat)≤sizeLine:=by decide
  have Q3:∀i,i≤m→(mo+1) ^i≤70000:=fun i hi=>Nat.le_trans (Nat.pow_le_pow_right (by omega) hi) pw
  refine⟨_,(ah
     (aF (i:=2) eH.nd rfl (Or.inl rfl) (bq (aa (uX (aa (bq ai) (aa (pv 1) ai))) ai)))
    (ah
     (b5 PassesOwn.never rfl (bQ rfl T.ck (aa (pv 0) ai)) (av (i:=3) eH.nd rfl (Or.inl rfl))
      (ah
       (aF (i:=4) eH.nd rfl (Or.inl rfl) (bq ai))
      (ah
       (b5 PassesOwn.never rfl (a9 (pv 2)) (ke rfl (aK (av (i:=5) eH.nd rfl (Or.inr rfl)) (aK (av (i:=6) eH.nd rfl (Or.inr rfl)) bX)))
        (aw
         (aF (i:=4) eH.nd rfl (Or.inl rfl) (aH qa (pv 4) (ba (sc:=(ag eV)) (NX:=["_law_size","_law_most","_law_found","_law_place","_law_longer","_law_some","_law_left"]) (N:=["_law_k","_law_some","_law_left"]) (fr:=[none,some 5,some 6]) ⟨by rfl,by rfl,by decide+kernel,by decide+kernel,by decide+kernel,by rfl,by decide+kernel⟩ rfl rfl rfl (bQ rfl T.ck (aa (aH dH (pv 6) ax) ai)) (fun _ _ _ _=>(av (i:=0) (show (["_law_k","_law_some","_law_left"]:List Str).Nodup by decide+kernel) rfl (Or.inl rfl) (Or.inr rfl))) (fun _ _ _ _=>aS) (fun _ _ _ _=>(uX (aa (aH qa (pv 1) (bq (aa (pv 0) ai))) (aa (aH fV (pv 2) (pv 0)) ai)))))))))
      (aw
       (aF (i:=2) eH.nd rfl (Or.inl rfl) (pv 4))))))
    (aw
     (aU (ba (sc:=(ag eV)) (NX:=["_law_size","_law_most","_law_found","_law_place","_law_longer","_law_some","_law_left"]) (N:=["_law_some","_law_left"]) (fr:=[none,none]) ⟨by rfl,by rfl,by decide+kernel,by decide+kernel,by decide+kernel,by rfl,by decide+kernel⟩ rfl rfl rfl (a9 (pv 2)) (fun _ _ _ _=>(cY K 2 rfl rfl (aK (av (i:=0) (show (["_law_some","_law_left"]:List Str).Nodup by decide+kernel) rfl (Or.inl rfl) (Or.inr rfl)) (aK (av (i:=1) (show (["_law_some","_law_left"]:List Str).Nodup by decide+kernel) rfl (Or.inl rfl) (Or.inr rfl)) bX)))) (fun _ _ _ _=>aS) (fun _ _ _ _=>(pv 0))))))),?_⟩
  refine⟨(by show 0≤sizeLine;decide),fun l0 uz=>⟨_,rfl,(by show 2≤sizeLine;decide),fun t0 V3=>⟨(by show 1≤sizeLine;decide),fun F0 V4=>?_⟩⟩⟩
  have s1:=ak.new (o:= .lst []) uz
  have s2:=ak.new (o:= .tup [V.ref l0,V.int mo]) V3
  have s3:=ak.new (o:= .lst [V.ref t0]) V4
  have e3:=(s1.trans s2).trans s3
  have T5:iV [] (upd (upd (upd H l0 (.lst [])) t0 (.tup [V.ref l0,V.int mo])) F0 (.lst [V.ref t0])) t0 ([],(mo:Int)):=⟨l0,s3 _ _ ae,s3 _ _ (s2 _ _ ae),by simp,by simp⟩
  have Gr:(upd (upd (upd H l0 (.lst [])) t0 (.tup [V.ref l0,V.int mo])) F0 (.lst [V.ref t0])) F0=some (.lst ([t0].map V.ref)):=ae
  generalize upd (upd (upd H l0 (.lst [])) t0 (.tup [V.ref l0,V.int mo])) F0 (.lst [V.ref t0])=H3 at e3 T5 Gr ⊢
  dsimp only [aO]
  refine⟨_,rfl,_,rfl,by omega,by omega,cS (fun i σ H'=>∃(F:Addr) (fa:List Addr) (v3 v4 v5 v6:Option V),σ=[some (.int m),some (.int mo),some (.ref F),v3,v4,v5,v6]∧H' F=some (.lst (fa.map V.ref))∧Paired (iV [] H') fa (lstP mo i)∧ak H H') ?_ ?_ ?_⟩
  ·exact⟨F0,[t0],none,none,none,none,rfl,Gr, .cons T5 .nil,e3⟩
  ·rintro i σ H4 hi ⟨F,fa,v3,v4,v5,v6,rfl,BG,hP,e4⟩
   have bV:=nT mo i
   have lx:=j9 mo i
   have eS:lstP mo (i+1)=(lstP mo i).flatMap iW:=rfl
   rw[eS]
   generalize lstP mo i=xs at*
   have WY:i<m:=by omega
   have Ed:=Paired.length hP
   have p1:=Q3 (i+1) (by omega)
   have p0:=Q3 i (by omega)
   rw[Nat.pow_succ] at p1
   have WZ:xs.length*(mo+1)≤(mo+1) ^i*(mo+1):=Nat.mul_le_mul_right _ lx
   refine⟨(by show 0≤sizeLine;decide),fun G0 V5=>?_⟩
   have sG:=ak.new (o:= .lst []) V5
   dsimp only [aO]
   refine⟨_,rfl,F,rfl,⟨_,aD.of (sG _ _ BG)⟩,dY (K:=K) (a:=F) (xs:=fa.map V.ref) (fun j σ H'=>∃(G:Addr) (ga:List Addr) (v5 v6:Option V),σ=[some (.int m),some (.int mo),some (.ref F),some (.int (0+(i:Int))),some (.ref G),v5,v6]∧H' G=some (.lst (ga.map V.ref))∧Paired (iV [] H') ga ((xs.take j).flatMap iW)∧ak H4 H') ?_ (fun j σ H' _ ⟨_,_,_,_,_,_,_,e⟩=>aD.of (e _ _ BG)) ?_ ?_⟩
   ·exact⟨G0,[],v5,v6,rfl,ae, .nil,sG⟩
   ·rintro j y σ H5 hj ⟨G,ga,v5,v6,rfl,Q4,hQ,e5⟩
    obtain⟨t,ht,rfl⟩:=bH hj
    obtain⟨x,hx,la,h1,h2,_,_⟩:=fh hP ht
    have OM:=bV x (List.mem_of_getElem? hx)
    have jx:j<xs.length:=(List.getElem?_eq_some_iff.mp hx).1
    have V6:=e5 _ _ h1
    have V7:=e5 _ _ h2
    have s0:=ic OM.nn
    have sx:=OM.sm
    have xl:x.2≤mo:=by omega
    have x0:=OM.lf
    have W0:=Paired.length hQ
    have ly:((xs.take j).flatMap iW).length≤j*(mo+1):=by
     refine Nat.le_trans (kW fun y hy=>mD (bV y (List.mem_of_mem_take hy))) ?_
     rw[List.length_take]
     exact Nat.mul_le_mul_right _ (Nat.min_le_left _ _)
    have lj:j*(mo+1)+(mo+1)≤xs.length*(mo+1):=by
     have:=Nat.mul_le_mul_right (mo+1) (show j+1≤xs.length from jx)
     rw[Nat.add_mul,Nat.one_mul] at this
     exact this
    have W2:=OM.len
    refine⟨t,_,rfl,kd.of V6,rfl,_,_,rfl,_,_,rfl,rfl,?_⟩
    dsimp only [aO]
    refine⟨_,rfl,_,rfl,_,_,rfl,rfl,_,rfl,by omega,by omega,fun L hL=>jg (L:=L) H5 (fun σ=>∃v:Option V,σ=[v,some (.ref la),some (.int x.2)]) (fun k zs H'=>∃ds:List Addr,zs=ds.map V.ref∧Paired (iV [L] H') ds ((List.range k).map fun k:Nat=>(x.1++[0+(k:Int)],x.2 - (0+(k:Int)))))
     ?_ hL ⟨none,rfl⟩ (ak.new hL) ae ⟨[],rfl, .nil⟩ (by omega) ?_ ?_ ?_⟩
    ·rintro k zs Ha Hb e ⟨ds,rfl,gR⟩
     exact⟨ds,rfl,bE (fun _ _ z=>z.keep fun b o z1 z2=>e _ _ z1 (by simpa using z2)) gR⟩
    ·rintro k zs Ha ⟨ds,rfl,gR⟩
     have:=Paired.length gR
     rw[List.length_map,List.length_range] at this
     rw[List.length_map]
     omega
    ·rintro k σ H6 zs hk ⟨v,rfl⟩ jL pk ⟨ds,rfl,gR⟩ N M hN
     have hk:(k:Int)≤x.2:=by omega
     have V8:=jL _ _ V7
     dsimp only [aO]
     refine⟨_,rfl,_,rfl,(by show 1≤sizeLine;decide),fun k0 T6=>⟨la,k0,_,_,rfl,rfl,ak.new T6 _ _ V8,ae,(by rw[List.length_map];show _+1≤sizeLine;omega),fun c hc=>⟨_,rfl,_,rfl,_,_,rfl,rfl,(by show 2≤sizeLine;decide),fun t' HY=>?_⟩⟩⟩
     have u1:=ak.new (o:= .lst [V.int (0+(k:Int))]) T6
     have u2:=ak.new (o:= .lst (x.1.map V.int++[V.int (0+(k:Int))])) hc
     have u3:=ak.new (o:= .tup [V.ref c,V.int (x.2 - (0+(k:Int)))]) HY
     have u:=(u1.trans u2).trans u3
     have V9:c≠L:=Ne.symm (af (u1 _ _ pk) hc)
     have V':t'≠L:=Ne.symm (af (u2 _ _ (u1 _ _ pk)) HY)
     have Iy:iV [L] (upd (upd (upd H6 k0 (.lst [V.int (0+(k:Int))])) c (.lst (x.1.map V.int++[V.int (0+(k:Int))]))) t' (.tup [V.ref c,V.int (x.2 - (0+(k:Int)))])) t' (x.1++[0+(k:Int)],x.2 - (0+(k:Int))):=⟨c,ae,by rw[List.map_append];exact u3 _ _ ae,by simpa using V',by simpa using V9⟩
     refine hN _ _ _ ⟨_,rfl⟩ (jL.trans u) (u _ _ pk) ⟨ds++[t'],by rw[List.map_append];rfl,?_⟩
     rw[List.range_succ,List.map_append]
     exact gL Iy (bE (fun _ _ z=>z.same u) gR)
    ·rintro H6 zs jL pk ⟨ds,rfl,gR⟩
     have Wa:=Paired.length gR
     rw[List.length_map,List.length_range] at Wa
     have en:(x.2+1).toNat≤mo+1:=by omega
     refine⟨G,L,_,_,rfl,rfl,jL _ _ Q4,pk,by rw[List.length_map,List.length_map];omega,fun G' Wb=>?_⟩
     have Q5:=ak.new (o:= .lst (ga.map V.ref++ds.map V.ref)) Wb
     refine⟨G',ga++ds,_,_,rfl,by rw[ae,List.map_append],?_,(e5.trans jL).trans Q5⟩
     rw[ay hx,List.flatMap_append,List.flatMap_cons,List.flatMap_nil,List.append_nil]
     exact iO (bE (fun _ _ z=>(z.same jL).same Q5) hQ) (bE (fun _ _ z=>z.has.same Q5) gR)
   ·rintro σ H5 ⟨G,ga,v5,v6,rfl,Q4,hQ,e5⟩
    rw[List.length_map,Ed,List.take_length] at hQ
    exact⟨_,rfl,G,ga,_,_,_,_,rfl,Q4,hQ,e4.trans e5⟩
  ·rintro σ H4 ⟨F,fa,v3,v4,v5,v6,rfl,BG,hP,e4⟩
   have em:((m:Nat):Int).toNat=m:=by omega
   rw[em] at hP
   have bV:=nT mo m
   have lx:=j9 mo m
   have HI:=qL mo m
   have Wc:=xr mo m
   have pm:=Q3 m (Nat.le_refl _)
   generalize lstP mo m=xs at*
   have Ed:=Paired.length hP
   refine⟨_,rfl,F,rfl,⟨_,aD.of BG⟩,fun L hL=>cH (K:=K) (a:=F) (L:=L) (xs:=fa.map V.ref) H4 (fun σ=>∃v u:Option V,σ=[v,u]) (fun j ys=>∃la:List Addr,ys=la.map V.ref∧la.length=j∧aE [] H4 la ((xs.take j).map (·.1)))
    (aD.of BG) hL ⟨none,none,rfl⟩ (ak.new hL) ae ⟨[],rfl,rfl, .nil⟩ (by rw[List.length_map];omega) ?_ ?_ ?_⟩
   ·rintro j ys ⟨la,rfl,h,_⟩
    rw[List.length_map]
    omega
   ·rintro j y σ H5 ys hy ⟨v,u,rfl⟩ iY lN ⟨lb,rfl,vP,n8⟩ N M hN
    obtain⟨t,ht,rfl⟩:=bH hy
    obtain⟨x,hx,la,h1,h2,_,_⟩:=fh hP ht
    refine⟨t,_,rfl,kd.of (iY _ _ h1),rfl,_,_,rfl,_,_,rfl,rfl,_,rfl,hN _ _ _ ⟨_,_,rfl⟩ iY lN ⟨lb++[la],by rw[List.map_append];rfl,by simp [vP],?_⟩⟩
    rw[ay hx,List.map_append]
    exact n8.snoc h2 (by simp)
   ·rintro H5 ys iY lN ⟨lb,rfl,vP,n8⟩
    rw[List.length_map,Ed,List.take_length] at n8
    refine q L lb (xs.map (·.1)) H5 (e4.trans iY) lN (n8.same iY) (by rw[List.length_map];omega) (fun v=>⟨fun hv=>?_,fun⟨hv,hs⟩=>List.mem_map.mpr ⟨_,HI v hv.1 hv.2 hs,rfl⟩⟩) (List.nodup_iff_pairwise_ne.mpr (List.pairwise_map.mpr Wc))
    obtain⟨x,hx,rfl⟩:=List.mem_map.mp hv
    have o:=bV x hx
    exact⟨⟨o.len,o.nn⟩,by have:=o.sm;have:=o.lf;omega⟩
def ik(cs:List (List Int))(n:Nat)(v:List Int):Bool:=(List.range n).all fun r=>decide (dot v (row cs r)=0)
theorem kX(cs:List (List Int))(n:Nat)(v:List Int):ik cs n v=true↔∀r,r<n→dot v (row cs r)=0:=by
 unfold ik
 rw[List.all_eq_true]
 exact⟨fun h r hr=>by simpa using h r (by simpa using hr),fun h r hr=>by simpa using h r (by simpa using hr)⟩
def pI:Sp:=fun vs H Q _=>∃(r p:Addr) (v:List Int) (as:List Addr) (cs:List (List Int)) (n:Nat),vs=[.ref r, .ref p]∧H r=some (.lst (v.map V.int))∧H p=some (.lst (as.map V.ref))∧aE [] H as cs∧(∀c∈cs,c.length=n)∧n≤1000∧1≤cs.length∧cs.length≤1000∧v.length=cs.length∧(∀x∈v,0≤x∧x≤1000)∧∀H',ak H H'→Q (.bl (ik cs n v)) H'
theorem pJ:aI ["_law_some","_law_columns_here","_law_i"] ["_law_some","_law_columns_here"] (ag dU):=iz
theorem uo(D:Def K mg "_law_levels" "_law_levels" dU ["_law_some","_law_columns_here"])(T:ig K mg KC FC TC):cC P w K mg base 1 "_law_levels" ["_law_some","_law_columns_here"] pI:=by
 refine D.il pJ (fun vs H Q E h=>?_) (fun f b6 A outer s H vs Q E hr h=>?_)
 ·obtain⟨r,p,v,as,cs,n,rfl,_⟩:=h
  rfl
 ·obtain⟨r,p,v,as,cs,n,rfl,pN,hp,fj,hw,hn,l1,T7,lv,hv,q⟩:=h
  have big:(5000 :Nat)≤sizeLine:=by decide
  have pP:=fj.length
  have BD:as[0]? =some (as.getD 0 0):=by rw[List.getD_eq_getElem?_getD,List.getElem?_eq_getElem (by omega)];rfl
  obtain⟨c0,vG,w6,_⟩:=fj.get BD
  have Tr:=hw c0 (List.mem_of_getElem? vG)
  refine⟨_,(ah
     (b5 PassesOwn.never rfl (bQ rfl T.ck (aa (aL aY rfl T.fK dI (aa (dz dP (pv 1) ax (fun _ _=>rfl)) ai)) ai)) (av (i:=2) pJ.nd rfl (Or.inr rfl))
      (aw
       (eg (cL qY (aL (fZ rfl) rfl T.jF je (aa (ba (sc:=(ag dU)) (NX:=["_law_some","_law_columns_here","_law_i"]) (N:=["_law_j","_law_some","_law_i","_law_columns_here"]) (fr:=[none,some 0,some 2,some 1]) ⟨by rfl,by rfl,by decide+kernel,by decide+kernel,by decide+kernel,by rfl,by decide+kernel⟩ rfl rfl rfl (bQ rfl T.ck (aa (aL aY rfl T.fK dI (aa (pv 0) ai)) ai)) (fun _ _ _ _=>(av (i:=0) (show (["_law_j","_law_some","_law_i","_law_columns_here"]:List Str).Nodup by decide+kernel) rfl (Or.inl rfl) (Or.inr rfl))) (fun _ _ _ _=>aS) (fun _ _ _ _=>(aH i9 (dz (c7 K rfl) (pv 1) (pv 0) (fun _ _=>rfl)) (dz (c7 K rfl) (dz (c7 K rfl) (pv 3) (pv 0) (fun _ _=>rfl)) (pv 2) (fun _ _=>rfl))))) ai)) ax (cz _))
        (aw
         (aU kc))
        cp)))
    (aw
     (aU kc))),?_⟩
  refine⟨_,rfl,p,_,_, .ref (as.getD 0 0),rfl,rfl,aD.of hp,cb (j:=0) (by rw[List.getElem?_map,BD];rfl),as.getD 0 0,_,rfl, .inl (aD.of w6),_,rfl,by omega,by rw[List.length_map];omega,cS (fun i σ H'=>∃v2:Option V,σ=[some (.ref r),some (.ref p),v2]∧(∀q,q<i→dot v (row cs q)=0)∧ak H H') ?_ ?_ ?_⟩
  ·exact⟨none,rfl,(fun q hq=>by omega),ak.refl _⟩
  ·rintro i σ H2 hi ⟨v2,rfl,hd,e2⟩
   have hi:i<n:=by
    rw[List.length_map] at hi
    omega
   have T8:=e2 _ _ pN
   have QU:=e2 _ _ hp
   have xu:=fj.same e2
   dsimp only [aO]
   rw[Int.zero_add]
   refine⟨_,rfl,r,_,rfl, .inl (aD.of T8),_,rfl,by omega,by rw[List.length_map];omega,fun L hL=>vq (L:=L) H2 (fun σ=>∃w:Option V,σ=[w,some (.ref r),some (.int (i:Int)),some (.ref p)]) (fun j ys=>ys=((List.range j).map fun k=>v.getD k 0*(row cs i).getD k 0).map V.int)
    hL ⟨none,rfl⟩ (ak.new hL) ae rfl (by show (v.map V.int).length≤sizeLine;rw[List.length_map];omega) ?_ ?_ ?_⟩
   ·rintro j ys rfl
    rw[List.length_map,List.length_map,List.length_range];exact Nat.le_refl _
   ·rintro j σ H3 ys hj ⟨w,rfl⟩ l9 fP rfl N M hN
    have hj:j<cs.length:=by
     have:j< (v.map V.int).length:=hj
     rw[List.length_map] at this
     omega
    have gv:=getD_at (l:=v) (i:=j) (by omega)
    have ga:as[j]? =some (as.getD j 0):=by rw[List.getD_eq_getElem?_getD,List.getElem?_eq_getElem (by omega)];rfl
    obtain⟨c,zk,mz,_⟩:=(xu.same l9).get ga
    have gc:=getD_at (l:=c) (i:=i) (by rw[hw c (List.mem_of_getElem? zk)];exact hi)
    have ec:cs.getD j []=c:=by rw[List.getD_eq_getElem?_getD,zk];rfl
    have vb:=hv _ (List.mem_of_getElem? gv)
    dsimp only [aO]
    rw[Int.zero_add]
    refine⟨_,rfl,_,rfl,r,_,_, .int (v.getD j 0),rfl,rfl,aD.of (l9 _ _ T8),cb (by rw[List.getElem?_map,gv];rfl),_,rfl,_,rfl,p,_,_, .ref (as.getD j 0),rfl,rfl,aD.of (l9 _ _ QU),cb (by rw[List.getElem?_map,ga];rfl),_,rfl,as.getD j 0,_,_, .int (c.getD i 0),rfl,rfl,aD.of mz,cb (by rw[List.getElem?_map,gc];rfl),_,_,rfl,rfl, .inl ⟨by omega,by omega⟩,hN _ _ _ ⟨_,rfl⟩ l9 fP ?_⟩
    rw[List.range_succ,List.map_append,List.map_append,List.map_cons,List.map_nil,gq hj,ec]
    rfl
   ·rintro H3 ys l9 fP rfl
    have er:((List.range (v.map V.int).length).map fun k=>v.getD k 0*(row cs i).getD k 0).sum=dot v (row cs i):=jn _ v (row cs i) (by rw[List.length_map]) (by rw[fB,List.length_map,lv])
    refine⟨L,_,rfl,aD.of fP,rfl,_,rfl,g5 (fun c=>?_) fun c=>?_⟩
    ·have c:¬dot v (row cs i)=0:=by
      intro z
      have c':¬((List.range (v.map V.int).length).map fun k=>v.getD k 0*(row cs i).getD k 0).sum=0:=by simpa using c
      rw[er] at c'
      exact c' z
     have e:ik cs n v=false:=by
      rw[←Bool.not_eq_true,kX]
      exact fun z=>c (z i hi)
     have:=q H3 (e2.trans l9)
     rw[e] at this
     exact this
    ·have c:dot v (row cs i)=0:=by
      have c':((List.range (v.map V.int).length).map fun k=>v.getD k 0*(row cs i).getD k 0).sum=0:=by simpa using c
      rw[er] at c'
      exact c'
     refine⟨_,rfl,fun q hq=>?_,e2.trans l9⟩
     by_cases z:q=i
     ·rw[z]
      exact c
     ·exact hd q (by omega)
  ·rintro σ H2 ⟨v2,rfl,hd,e2⟩
   have e:ik cs n v=true:=by
    rw[kX]
    intro r hr
    refine hd r ?_
    rw[List.length_map]
    omega
   have:=q H2 e2
   rw[e] at this
   exact this
theorem uq:aI ["_law_one","_law_other"] ["_law_one","_law_other"] (ag c9):=iz
theorem qM(D:Def K mg "_law_beneath" "_law_beneath" c9 ["_law_one","_law_other"])(T:ig K mg KC FC TC):cC P w K mg base 1 "_law_beneath" ["_law_one","_law_other"] nJ:=by
 refine D.il uq (fun vs H Q E h=>?_) (fun f b6 A outer s H vs Q E hr h=>?_)
 ·obtain⟨p,r,xs,ys,rfl,_⟩:=h
  rfl
 ·obtain⟨p,r,xs,ys,rfl,hp,pN,lx,q⟩:=h
  have big:(1001 :Nat)≤sizeLine:=by decide
  refine⟨_,(aw
     (aU (aL (oQ rfl) rfl T.Bs vy (aa (ba (sc:=(ag c9)) (NX:=["_law_one","_law_other"]) (N:=["_law_a","_law_b"]) (fr:=[none,none]) ⟨by rfl,by rfl,by decide+kernel,by decide+kernel,by decide+kernel,by rfl,by decide+kernel⟩ rfl rfl rfl (dJ rfl T.fM (aa (pv 0) (aa (pv 1) ai))) (fun _ _ _ _=>(cY K 2 rfl rfl (aK (av (i:=0) (show (["_law_a","_law_b"]:List Str).Nodup by decide+kernel) rfl (Or.inl rfl) (Or.inr rfl)) (aK (av (i:=1) (show (["_law_a","_law_b"]:List Str).Nodup by decide+kernel) rfl (Or.inl rfl) (Or.inr rfl)) bX)))) (fun _ _ _ _=>aS) (fun _ _ _ _=>(jR Bd (pv 0) (pv 1) (cz _)))) ai)))),?_⟩
  refine⟨_,rfl,_,rfl,p,r,rfl,⟨_,aD.of hp⟩,⟨_,aD.of pN⟩,fun L hL=>cZ (K:=K) (a:=p) (c:=r) (L:=L) (xs:=xs.map V.int) (zs:=ys.map V.int) H (fun σ=>∃v u:Option V,σ=[v,u]) (fun i us=>us=(((xs.zip ys).take i).map fun ab=>decide (ab.1≤ab.2)).map V.bl∧i≤(xs.zip ys).length)
   (aD.of hp) (aD.of pN) hL ⟨none,none,rfl⟩ (ak.new hL) ae ⟨rfl,Nat.zero_le _⟩ (by rw[List.length_map];omega) ?_ ?_ ?_⟩
  ·rintro i us ⟨rfl,_⟩
   rw[List.length_map,List.length_map,List.length_take]
   omega
  ·rintro i x z t σ H2 us hx hz ht ⟨v,u,rfl⟩ hs de ⟨rfl,hi⟩ N M hN
   obtain⟨x,jG,rfl⟩:=int_at hx
   obtain⟨z,gG,rfl⟩:=int_at hz
   have j8:(xs.zip ys)[i]? =some (x,z):=by rw[List.getElem?_zip_eq_some];exact⟨jG,gG⟩
   have gI:i+1≤(xs.zip ys).length:=(List.getElem?_eq_some_iff.mp j8).1
   have fP:(upd H2 t (.tup [V.int x,V.int z])) L=_:=ak.new ht _ _ de
   refine⟨t,_,rfl,kd.of ae,rfl,_,_,rfl,_,_,rfl,rfl,_,rfl,_,rfl,_,_,rfl,rfl,hN _ _ _ ⟨_,_,rfl⟩ (hs.trans (ak.new ht)) fP ⟨?_,gI⟩⟩
   rw[ay j8,List.map_append,List.map_append]
   rfl
  ·rintro H2 us hs de ⟨rfl,_⟩
   have e:(xs.zip ys).take (min (xs.map V.int).length (ys.map V.int).length)=xs.zip ys:=List.take_of_length_le (by rw[List.length_zip,List.length_map,List.length_map];exact Nat.le_refl _)
   rw[e] at de
   refine⟨L,_,rfl,aD.of de,?_⟩
   have:=q _ hs
   rw[List.all_map]
   exact this
theorem IS{b:Bool}{A B:Prop}(hb:b=true)(h:A):if b=true then A else B:=by
 subst hb
 exact Hg h
theorem kY:∀{v:List Int},(∀x∈v,0≤x)→∀x∈v,x≤v.sum
 | [],_,x,hx=>by cases hx
 |a::v,h,x,hx=>by
  have h0:=h a (List.mem_cons_self ..)
  have hv:∀y∈v,0≤y:=fun y hy=>h y (List.mem_cons_of_mem _ hy)
  have hs:=ic hv
  rw[List.sum_cons]
  rcases List.mem_cons.mp hx with rfl|hx
  ·omega
  ·have:=kY hv x hx
   omega
theorem kZ{a b:List (List Int)}(h:a.Perm b)(oa:a.Pairwise (fun a b=>¬b<a))(ob:b.Pairwise (fun a b=>¬b<a)):a=b:=List.Perm.eq_of_pairwise (fun a b _ _ h h'=>List.le_antisymm (List.not_lt.mp h) (List.not_lt.mp h')) oa ob h
section
variable {lev:List Int→Bool}{m mo:Nat}{L:List (List Int)}
structure Ee(lev:List Int→Bool)(m mo:Nat)(L:List (List Int)):Prop where
 mem:∀v,v∈L↔Nn m v∧0<v.sum∧v.sum≤mo∧lev v=true
 nd:L.Nodup
 so:L.Pairwise fun a b=>a.sum≤b.sum
theorem zw(g:Ee lev m mo L){i:Nat}{x:List Int}(hx:L[i]? =some x):(((L.take i).filter fun v=>decide (v∈(bz lev m mo).1)).any fun y=>gw y x)=!decide (x∈(bz lev m mo).1):=by
 obtain⟨ht,_⟩:=fg lev m mo
 have Wd:=List.mem_of_getElem? hx
 obtain⟨xn,x0,x1,xl⟩:=(g.mem x).mp Wd
 have hi:=List.getElem?_eq_some_iff.mp hx
 by_cases c:x∈(bz lev m mo).1
 ·rw[decide_eq_true c,Bool.not_true,←Bool.not_eq_true,List.any_eq_true]
  rintro ⟨y,hy,hf⟩
  obtain⟨T9,W3⟩:=List.mem_filter.mp hy
  obtain⟨yn,y0,y1,yl⟩:=(g.mem y).mp (List.mem_of_mem_take T9)
  have e:=((ht x).mp c).1.2.2.2 y yn y0 yl ((kQ (by rw[yn.1,xn.1])).mp hf)
  subst e
  obtain⟨j,hj⟩:=List.getElem?_of_mem T9
  have tM:j<i:=by
   have:=(List.getElem?_eq_some_iff.mp hj).1
   rw[List.length_take] at this
   omega
  rw[List.getElem?_take,if_pos tM] at hj
  have:=(List.getElem?_inj (List.getElem?_eq_some_iff.mp hj).1 g.nd).mp (hj.trans hx.symm)
  omega
 ·rw[decide_eq_false c,Bool.not_false,List.any_eq_true]
  obtain⟨u,hu,ule⟩:=gY mo x xn x0 x1 xl
  have us:=ie (by rw[hu.1.1,xn.1]) ule
  have ux:u≠x:=fun z=>c ((ht x).mpr ⟨z▸hu,x1⟩)
  have ul:u.sum<x.sum:=by
   rcases Int.lt_or_eq_of_le us.1 with h|h
   ·exact h
   ·exact absurd (us.2 h) ux
  have We:=(g.mem u).mpr ⟨hu.1,hu.2.1,by omega,hu.2.2.1⟩
  obtain⟨j,hj⟩:=List.getElem?_of_mem We
  have tM:=List.getElem?_eq_some_iff.mp hj
  have ji:j<i:=by
   rcases Nat.lt_or_ge j i with h|h
   ·exact h
   ·rcases Nat.eq_or_lt_of_le h with h|h
    ·subst h
     rw[hx] at hj
     exact absurd (Option.some.inj hj).symm ux
    ·have:=List.pairwise_iff_getElem.mp g.so i j hi.1 tM.1 h
     rw[hi.2,tM.2] at this
     omega
  refine⟨u,List.mem_filter.mpr ⟨?_,decide_eq_true ((ht u).mpr ⟨hu,by omega⟩)⟩,(kQ (by rw[hu.1.1,xn.1])).mpr ule⟩
  exact List.mem_of_getElem? (i:=j) (by rw[List.getElem?_take,if_pos ji];exact hj)
theorem zx(g:Ee lev m mo L):(L.filter fun v=>decide (v∈(bz lev m mo).1)).Perm (bz lev m mo).1:=by
 obtain⟨ht,nt⟩:=fg lev m mo
 refine(List.perm_ext_iff_of_nodup (g.nd.filter _) nt).mpr fun v=>?_
 rw[List.mem_filter,decide_eq_true_eq]
 refine⟨fun h=>h.2,fun h=>⟨?_,h⟩⟩
 obtain⟨hl,hs⟩:=(ht v).mp h
 exact(g.mem v).mpr ⟨hl.1,hl.2.1,hs,hl.2.2.1⟩
end
theorem ur(lev:List Int→Bool)(m s:Nat):(bz lev m s).1.length≤(s+1) ^m:=by
 obtain⟨ht,nt⟩:=fg lev m s
 refine Nat.le_trans (xm nt (m:=(lstP s m).map (·.1)) fun v hv=>?_) (by rw[List.length_map];exact j9 s m)
 obtain⟨hl,hs⟩:=(ht v).mp hv
 exact List.mem_map.mpr ⟨_,qL s m v hl.1.1 hl.1.2 hs,rfl⟩
def BH:Sp:=fun vs H Q _=>∃(p:Addr) (as:List Addr) (cs:List (List Int)) (n mo:Nat),vs=[.ref p, .int mo]∧H p=some (.lst (as.map V.ref))∧aE [] H as cs∧(∀c∈cs,c.length=n∧∀x∈c,cG 70 x)∧n≤60∧1≤cs.length∧cs.length≤8∧mo≤8∧(mo+1) ^cs.length≤70000∧
 ∀l qx xV H',ak H H'→xV.Perm (bz (gz (dE cs n) (aM cs n).length) cs.length mo).1→xV.Pairwise (fun a b=>¬b<a)→H' l=some (.lst (qx.map V.ref))→aE [] H' qx xV→Q (.ref l) H'
theorem sy:aI ["_law_columns_here","_law_most","_law_balances","_law_found","_law_x"] ["_law_columns_here","_law_most"] (ag lJ):=iz
theorem Ef(D:Def K mg "_law_due" "_law_due" lJ ["_law_columns_here","_law_most"])(T:ig K mg KC FC TC)(c1:cC P w K mg base 1 "_law_lists" ["_law_size","_law_most"] su)(c2:cC P w K mg base 1 "_law_levels" ["_law_some","_law_columns_here"] pI)(c3:cC P w K mg base 1 "_law_beneath" ["_law_one","_law_other"] nJ):cC P w K mg base 2 "_law_due" ["_law_columns_here","_law_most"] BH:=by
 obtain⟨_,_,gP⟩:=c1
 obtain⟨_,_,fH⟩:=c2
 obtain⟨_,_,eI⟩:=c3
 refine D.il sy (fun vs H Q E h=>?_) (fun f b6 A outer s H vs Q E hr h=>?_)
 ·obtain⟨p,as,cs,n,mo,rfl,_⟩:=h
  rfl
 ·obtain⟨p,as,cs,n,mo,rfl,hp,fj,fit,hn,l1,l8,lm,pw,q⟩:=h
  have qG:=hr.units
  have big:(1000000 :Nat)≤sizeLine:=by decide
  have pP:=fj.length
  have T':∀c∈cs,c.length=n:=fun c hc=>(fit c hc).1
  have IT:∀u:List Int,u.length=cs.length→(gz (dE cs n) (aM cs n).length u=true↔ik cs n u=true):=fun u hu=>by rw[ug (by omega) (by omega) fit hu,kX]
  refine⟨_,(ah
     (gE (i:=2) sy.nd rfl (Or.inl rfl) (sc:=(ag lJ)) (NX:=["_law_columns_here","_law_most","_law_balances","_law_found","_law_x"]) (N:=["_law_x","_law_columns_here"]) (fr:=[none,some 0]) ⟨by rfl,by rfl,by decide+kernel,by decide+kernel,by decide+kernel,by rfl,by decide+kernel⟩ rfl rfl rfl (a9 (aX gP.ok (hr.mono (by decide)) rfl gP.g gP.kp gP.b .nil a8 (aa (aL aY rfl T.fK dI (aa (pv 0) ai)) (aa (pv 1) ai)))) (fun _ _ _ _=>(av (i:=0) (show (["_law_x","_law_columns_here"]:List Str).Nodup by decide+kernel) rfl (Or.inl rfl) (Or.inr rfl))) (fun _ _ _ _=>(jU (PW.pt (CF (cL uT (aL (tF K rfl rfl) rfl T.jF je (aa (pv 0) ai)) ax (cz _)) (x' (eL (aX fH.ok (hr.mono (by decide)) rfl fH.g fH.kp fH.b .nil a8 (aa (pv 0) (aa (pv 1) ai))))))))) (fun _ _ _ _=>(pv 0)))
    (ah
     (aF (i:=3) sy.nd rfl (Or.inl rfl) (bq ai))
    (ah
     (b5 PassesOwn.never rfl (a9 (qt rfl rfl T.kR rfl T.jF (aa (pv 2) ai))) (av (i:=4) sy.nd rfl (Or.inr rfl))
      (aw
       (eg (gZ (eL (aL (call_any rfl) rfl T.wN qi (aa (ba (sc:=(ag lJ)) (NX:=["_law_columns_here","_law_most","_law_balances","_law_found","_law_x"]) (N:=["_law_y","_law_x"]) (fr:=[none,some 4]) ⟨by rfl,by rfl,by decide+kernel,by decide+kernel,by decide+kernel,by rfl,by decide+kernel⟩ rfl rfl rfl (a9 (pv 3)) (fun _ _ _ _=>(av (i:=0) (show (["_law_y","_law_x"]:List Str).Nodup by decide+kernel) rfl (Or.inl rfl) (Or.inr rfl))) (fun _ _ _ _=>aS) (fun _ _ _ _=>(aX eI.ok (hr.mono (by decide)) rfl eI.g eI.kp eI.b .nil a8 (aa (pv 0) (aa (pv 1) ai))))) ai))))
        (aw
         (cK (fX PySem.F.plainAttrs_list PySem.F.slot_list_append PySem.F.type_list_append bI (pv 3) (aa (pv 4) ai))))
        cp)))
    (aw
     (aU (aL (iG qG) rfl T.kR jj (aa (pv 3) ai))))))),?_⟩
  refine⟨_,rfl,p,_,rfl, .inl (aD.of hp),_,rfl,cs.length,mo,(by rw[List.length_map,pP];rfl),by omega,by omega,pw,fun ll la vs H1 e1 Ua Ub OB IU nd=>?_⟩
  have Bl:=Ub.length
  have Bm:=e1 _ _ hp
  have Q6:=fj.same e1
  refine⟨ll,rfl,⟨_,aD.of Ua⟩,fun L hL=>gJ (K:=K) (a:=ll) (L:=L) (xs:=la.map V.ref) H1 (fun σ=>∃v:Option V,σ=[v,some (.ref p)]) (fun i ys=>∃lb:List Addr,ys=lb.map V.ref∧lb.length≤i∧aE [] H1 lb ((vs.take i).filter fun v=>decide (0<v.sum)&&ik cs n v))
   (aD.of Ua) hL ⟨none,rfl⟩ (ak.new hL) ae ⟨[],rfl,Nat.le_refl _, .nil⟩ (by rw[List.length_map];omega) ?_ ?_ ?_⟩
  ·rintro i ys ⟨lb,rfl,h,_⟩
   rw[List.length_map]
   exact h
  ·rintro i y σ H2 ys hy ⟨v,rfl⟩ hs de ⟨lb,rfl,vP,n8⟩ N M hN hM
   obtain⟨xj,Q7,rfl⟩:=bH hy
   obtain⟨x,hx,Gs,_⟩:=Ub.get Q7
   obtain⟨xn,xs⟩:=(IU x).mp (List.mem_of_getElem? hx)
   have xb:∀z∈x,0≤z∧z≤1000:=fun z hz=>⟨xn.2 z hz,by have:=kY xn.2 z hz;omega⟩
   have IV:(decide (0<x.sum)&&ik cs n x)=false→aE [] H1 lb ((vs.take (i+1)).filter fun v=>decide (0<v.sum)&&ik cs n v):=fun z=>by
    rw[ay hx,List.filter_append,show [x].filter (fun v=>decide (0<v.sum)&&ik cs n v)=[] by simp only [List.filter_cons,z,List.filter_nil];rfl,List.append_nil]
    exact n8
   dsimp only [aO]
   refine⟨_,rfl,xj,x,rfl,aD.of (hs _ _ Gs),_,_,rfl,rfl,_,rfl,g5 (fun c=>?_) fun c=>?_⟩
   ·have c:0<x.sum:=by simpa using c
    refine⟨_,rfl,_,rfl,xj,p,x,as,cs,n,rfl,hs _ _ Gs,hs _ _ Bm,Q6.same hs,T',by omega,l1,by omega,xn.1,xb,fun H3 e3=>⟨_,rfl,g5 (fun c2=>?_) fun c2=>?_⟩⟩
    ·refine⟨_,rfl,hN _ _ _ ⟨_,rfl⟩ (hs.trans e3) (e3 _ _ de) ⟨lb++[xj],by rw[List.map_append];rfl,by simp;omega,?_⟩⟩
     rw[ay hx,List.filter_append,show [x].filter (fun v=>decide (0<v.sum)&&ik cs n v)=[x] by simp only [List.filter_cons,decide_eq_true c,c2,Bool.and_self,if_true,List.filter_nil]]
     exact n8.snoc Gs (by simp)
    ·exact hM _ _ ⟨_,rfl⟩ (hs.trans e3) (e3 _ _ de) ⟨lb,rfl,by omega,IV (by rw[show ik cs n x=false by simpa using c2,Bool.and_false])⟩
   ·have c:¬0<x.sum:=by simpa using c
    exact hM _ _ ⟨_,rfl⟩ hs de ⟨lb,rfl,by omega,IV (by rw[decide_eq_false c,Bool.false_and])⟩
  rintro H2 ys ki de ⟨lb,rfl,vP,n8⟩
  rw[List.length_map] at vP
  rw[List.length_map,Bl,List.take_length] at n8
  have Bu:∀v,v∈(vs.filter fun v=>decide (0<v.sum)&&ik cs n v)↔Nn cs.length v∧0<v.sum∧v.sum≤mo∧gz (dE cs n) (aM cs n).length v=true:=fun v=>by
   rw[List.mem_filter,IU,Bool.and_eq_true,decide_eq_true_eq]
   constructor
   ·rintro ⟨⟨a1,a2⟩,a3,a4⟩
    exact⟨a1,a3,a2,(IT v a1.1).mpr a4⟩
   ·rintro ⟨a1,a3,a2,a4⟩
    exact⟨⟨a1,a2⟩,a3,(IT v a1.1).mp a4⟩
  have Uc:=nd.filter fun v=>decide (0<v.sum)&&ik cs n v
  generalize (vs.filter fun v=>decide (0<v.sum)&&ik cs n v)=zy at n8 Bu Uc
  have Q8:=n8.length
  have Q9:=n8.same ki
  have e2:=e1.trans ki
  dsimp only [aO]
  refine⟨(by show 0≤sizeLine;decide),fun F hF=>?_⟩
  have sF:=ak.new (o:= .lst []) hF
  have Gr:(upd H2 F (.lst [])) F=some (.lst []):=ae
  have nF:=e2.free hF
  have Eg:aE [F] (upd H2 F (.lst [])) lb zy:=bE (fun a c z=>⟨sF _ _ z.1,by simpa using af z.1 hF⟩) Q9
  have fP:=sF _ _ de
  have e3:=e2.trans sF
  generalize upd H2 F (.lst [])=H3 at sF Gr Eg fP e3 ⊢
  dsimp only [aO]
  refine⟨_,rfl,L,lb,zy,rfl,aD.of fP,Eg.at,fun S ps IW Ra hS=>?_⟩
  have pm:∀i∈ps,i<lb.length:=fun i hi=>by simpa using IW.mem_iff.mp hi
  have sS:=ak.new (o:= .lst ((ps.map fun i=>lb.getD i 0).map V.ref)) hS
  have ON:(upd H3 S (.lst ((ps.map fun i=>lb.getD i 0).map V.ref))) S=some (.lst ((ps.map fun i=>lb.getD i 0).map V.ref)):=ae
  have OO:aE [F] (upd H3 S (.lst ((ps.map fun i=>lb.getD i 0).map V.ref))) (ps.map fun i=>lb.getD i 0) (nC zy ps):=bE (fun a c z=>⟨sS _ _ z.1,z.2⟩) (fF Eg ps pm)
  have perm:(nC zy ps).Perm zy:=by
   have h1:=IW.map fun i=>zy.getD i []
   rw[Q8,map_range] at h1
   exact h1
  have g:Ee (gz (dE cs n) (aM cs n).length) cs.length mo (nC zy ps):=⟨fun v=>by rw[perm.mem_iff];exact Bu v,perm.symm.nodup Uc,by
   have h2:=Ra
   rw[List.pairwise_map] at h2
   unfold nC
   rw[List.pairwise_map]
   exact h2⟩
  have BG:=sS _ _ Gr
  have e4:=e3.trans sS
  have nS:S≠F:=Ne.symm (af Gr hS)
  have W4:(nC zy ps).length≤70000:=by rw[perm.length_eq];omega
  generalize upd H3 S (.lst ((ps.map fun i=>lb.getD i 0).map V.ref))=H4 at sS ON OO BG e4 ⊢
  generalize (ps.map fun i=>lb.getD i 0)=xa at ON OO ⊢
  have Wf:=OO.length
  have Wg:=zx g
  have Rb:=fun i x hx=>zw g (i:=i) (x:=x) hx
  have Rc:=g.mem
  generalize (bz (gz (dE cs n) (aM cs n).length) cs.length mo).1=told at*
  generalize nC zy ps=Lx at*
  refine⟨S,rfl,⟨_,aD.of ON⟩,dY (K:=K) (a:=S) (xs:=xa.map V.ref) (fun i σ H'=>∃(fa:List Addr) (v4:Option V),σ=[some (.ref p),some (.int mo),some (.ref L),some (.ref F),v4]∧H' F=some (.lst (fa.map V.ref))∧aE [F] H' fa ((Lx.take i).filter fun v=>decide (v∈told))∧∀b o,H4 b=some o→b≠F→H' b=some o) ?_ (fun i σ H' _ ⟨_,_,_,_,_,e⟩=>aD.of (e _ _ ON nS)) ?_ ?_⟩
  ·exact⟨[],none,rfl,BG, .nil,fun b o z _=>z⟩
  ·rintro i y σ H5 hi ⟨fa,v4,rfl,Gu,qH,e5⟩
   obtain⟨xj,Q7,rfl⟩:=bH hi
   obtain⟨x,hx,Gs,Rf⟩:=OO.get Q7
   have Rg:=e5 _ _ Gs (by simpa using Rf)
   have xl:=((Rc x).mp (List.mem_of_getElem? hx)).1.1
   have Ud:=Rb i x hx
   have Ed:=qH.length
   have W5:((Lx.take i).filter fun v=>decide (v∈told)).length≤70000:=Nat.le_trans (List.length_filter_le _ _) (by rw[List.length_take];omega)
   have um:∀u∈((Lx.take i).filter fun v=>decide (v∈told)),u.length=cs.length:=fun u hu=>((Rc u).mp (List.mem_of_mem_take (List.mem_filter.mp hu).1)).1.1
   have Wh:(Lx.take (i+1)).filter (fun v=>decide (v∈told))=(Lx.take i).filter (fun v=>decide (v∈told))++[x].filter fun v=>decide (v∈told):=by rw[ay hx,List.filter_append]
   rw[Wh]
   generalize ((Lx.take i).filter fun v=>decide (v∈told))=fl at*
   dsimp only [aO]
   refine⟨_,rfl,F,rfl,⟨_,aD.of Gu⟩,fun L3 fP=>cH (K:=K) (a:=F) (L:=L3) (xs:=fa.map V.ref) H5 (fun σ=>∃v:Option V,σ=[v,some (.ref xj)]) (fun j ys=>ys=((fl.take j).map fun u=>gw u x).map V.bl)
    (aD.of Gu) fP ⟨none,rfl⟩ (ak.new fP) ae rfl (by rw[List.length_map];omega) ?_ ?_ ?_⟩
   ·rintro j ys rfl
    rw[List.length_map,List.length_map,List.length_take];omega
   ·rintro j y σ H6 ys hy ⟨v,rfl⟩ jL pk rfl N2 M2 wW
    obtain⟨uj,QR,rfl⟩:=bH hy
    obtain⟨u,hu,QS,_⟩:=(qH.same jL).get QR
    refine⟨_,rfl,_,rfl,uj,xj,u,x,rfl,QS,jL _ _ Rg,by rw[um u (List.mem_of_getElem? hu)];omega,fun H7 e7=>wW _ _ _ ⟨_,rfl⟩ (jL.trans e7) (e7 _ _ pk) ?_⟩
    rw[ay hu,List.map_append,List.map_append]
    rfl
   ·rintro H6 ys jL pk rfl
    rw[List.length_map,Ed,List.take_length] at pk
    have IH:(fl.map fun u=>gw u x).any id=fl.any fun u=>gw u x:=by rw[List.any_map];rfl
    have e6:∀b o,H4 b=some o→b≠F→H6 b=some o:=fun b o z w=>jL _ _ (e5 b o z w)
    refine⟨L3,_,rfl,aD.of pk,_,rfl,g5 (fun c=>?_) fun c=>?_⟩
    ·rw[IH,Ud,Bool.not_not] at c
     have Ue:=jL _ _ Gu
     refine⟨_,rfl, .inl ⟨rfl,_,aD.of Ue⟩,_,rfl,F,_,_,rfl,rfl,Ue,by rw[List.length_map];omega,fa++[xj],_,rfl,?_,?_,fun b o z w=>?_⟩
     ·rw[ae,List.map_append]
      rfl
     ·rw[show [x].filter (fun v=>decide (v∈told))=[x] by simp only [List.filter_cons,c,if_true,List.filter_nil]]
      refine((qH.same jL).snoc (e6 _ _ Gs (by simpa using Rf)) Rf).keep fun b o z w=>?_
      rw[ao (by simpa using w)]
      exact z
     ·rw[ao w]
      exact e6 b o z w
    ·rw[IH,Ud,Bool.not_not] at c
     have c:decide (x∈told)=false:=by simpa using c
     rw[show [x].filter (fun v=>decide (v∈told))=[] by simp only [List.filter_cons,c,List.filter_nil];rfl,List.append_nil]
     exact⟨fa,_,rfl,jL _ _ Gu,qH.same jL,e6⟩
  ·rintro σ H5 ⟨fa,v4,rfl,Gu,qH,e5⟩
   rw[List.length_map,Wf,List.take_length] at qH
   have um:∀u∈(Lx.filter fun v=>decide (v∈told)),u.length=cs.length:=fun u hu=>((Rc u).mp (List.mem_filter.mp hu).1).1.1
   generalize (Lx.filter fun v=>decide (v∈told))=fl at*
   have Ed:=qH.length
   have Wi:ak H H5:=fun b o z=>e5 _ _ (e4 _ _ z) (af z nF)
   refine⟨_,rfl,F,fa,fl,cs.length,rfl,aD.of Gu,qH.at,um,fun l Rh yE Bi Gn=>?_⟩
   have Wj:∀i∈Rh,i<fa.length:=fun i hi=>by simpa using yE.mem_iff.mp hi
   have h0:aE [] H5 fa fl:=bE (fun _ _ z=>⟨z.1,by simp⟩) qH
   refine q l _ (nC fl Rh) _ (Wi.trans (ak.new Gn)) ?_ Bi ae ((fF h0 Rh Wj).same (ak.new Gn))
   have h1:=yE.map fun i=>fl.getD i []
   rw[Ed,map_range] at h1
   exact h1.trans Wg
def mE:Sp:=fun vs H Q _=>∃(l:Addr) (m:Nat) (fs:List Addr) (bs:List (List Int)),vs=[.ref l, .int m]∧H l=some (.lst (fs.map V.ref))∧aE [] H fs bs∧(∀b∈bs,b.length=m)∧Q (.bl true) H
theorem jt:aI ["_law_found","_law_size","_law_one","_law_number"] ["_law_found","_law_size"] (ag dC):=iz
theorem qN(D:Def K mg "_law_is_lists" "_law_is_lists" dC ["_law_found","_law_size"])(T:ig K mg KC FC TC):cC P w K mg base 1 "_law_is_lists" ["_law_found","_law_size"] mE:=by
 refine D.il jt (fun vs H Q E h=>?_) (fun f b6 A outer s H vs Q E hr h=>?_)
 ·obtain⟨l,m,fs,bs,rfl,_⟩:=h
  rfl
 ·obtain⟨l,m,fs,bs,rfl,hl,Wk,hb,q⟩:=h
  refine⟨_,(ah
     (eg (gZ (eL (aL eu rfl T.dX dr (aa (pv 0) (aa (jO (v:= .ty "list") rfl T.n_list cX rfl) ai)))))
      (aw
       (aU kc))
      cp)
    (ah
     (b5 PassesOwn.never rfl (a9 (pv 0)) (av (i:=2) jt.nd rfl (Or.inl rfl))
      (ah
       (eg (PW.pt (uI (gZ (eL (aL eu rfl T.dX dr (aa (pv 2) (aa (jO (v:= .ty "list") rfl T.n_list cX rfl) ai))))) (pR (cL qY (aL aY rfl T.fK dI (aa (pv 2) ai)) (pv 1) (cz _)))))
        (aw
         (aU kc))
        cp)
      (aw
       (b5 PassesOwn.never rfl (a9 (pv 2)) (av (i:=3) jt.nd rfl (Or.inl rfl))
        (aw
         (eg (PW.pt (uI (gZ (eL (aL eu rfl T.dX dr (aa (pv 3) (aa (jO (v:= .ty "int") rfl T.Ik C5 rfl) ai))))) (pR (eL (aL eu rfl T.dX dr (aa (pv 3) (aa (jO (v:= .ty "bool") rfl T.DQ yC rfl) ai)))))))
          (aw
           (aU kc))
          cp))))))
    (aw
     (aU kc)))),?_⟩
  refine⟨_,rfl,_,_,_,_,_,rfl,rfl, .lst hl,T.k3,_,rfl,qc ?_⟩
  refine⟨_,rfl,l,rfl,⟨_,aD.of hl⟩,dY (K:=K) (a:=l) (xs:=fs.map V.ref) (fun i σ H'=>∃v2 v3:Option V,σ=[some (.ref l),some (.int m),v2,v3]∧H'=H) ⟨none,none,rfl,rfl⟩ (fun i σ H' _ ⟨_,_,_,e⟩=>by rw[e];exact aD.of hl) ?_ ?_⟩
  ·rintro i y σ H' hi ⟨v2,v3,rfl,rfl⟩
   obtain⟨bj,DZ,rfl⟩:=bH hi
   obtain⟨b,Wl,xW,_⟩:=Wk.get DZ
   have bl:=hb b (List.mem_of_getElem? Wl)
   dsimp only [aO]
   refine⟨_,rfl,_,_,_,_,_,rfl,rfl, .lst xW,T.k3,_,rfl,qc ⟨_,rfl,bj,_,rfl, .inl (aD.of xW),_,rfl,rfl,_,rfl,Hh (by rw[List.length_map,bl]) ?_⟩⟩
   refine⟨_,rfl,bj,rfl,⟨_,aD.of xW⟩,dY (K:=K) (a:=bj) (xs:=b.map V.int) (fun i σ H2=>∃v3:Option V,σ=[some (.ref l),some (.int m),some (.ref bj),v3]∧H2=H') ⟨v3,rfl,rfl⟩ (fun i σ H2 _ ⟨_,_,e⟩=>by rw[e];exact aD.of xW) ?_ ?_⟩
   ·rintro j x σ H2 hx ⟨v3,rfl,rfl⟩
    obtain⟨z,gG,rfl⟩:=int_at hx
    exact⟨_,rfl,_,_,_,_,_,rfl,rfl, .int z,T.k1,_,rfl,qc ⟨_,rfl,_,_,_,_,_,rfl,rfl, .int z,T.k2,_,rfl,qc ⟨_,rfl,rfl⟩⟩⟩
   ·rintro σ H2 ⟨v3,rfl,rfl⟩
    exact⟨_,_,rfl,rfl⟩
  ·rintro σ H' ⟨v2,v3,rfl,rfl⟩
   exact q
theorem zA:∀m:Nat,1≤m→m≤8→Bg [V.int 8,V.int 8,V.int 8,V.int 6,V.int 5,V.int 4,V.int 3,V.int 3] ((m:Int) - 1)=some (V.int (([8,8,8,6,5,4,3,3]:List Nat).getD (m - 1) 0 :Nat))
 |1,_,_=>rfl
 |2,_,_=>rfl
 |3,_,_=>rfl
 |4,_,_=>rfl
 |5,_,_=>rfl
 |6,_,_=>rfl
 |7,_,_=>rfl
 |8,_,_=>rfl
 |0,h,_=>absurd h (by decide)
 |_+9,_,h=>absurd h (by omega)
theorem zB:∀m,m≤8→∀s,s≤([8,8,8,6,5,4,3,3]:List Nat).getD (m - 1) 0→s≤8∧(s+1) ^m≤70000∧∀k,k<s→m^(k+1)≤7000:=by decide+kernel
def sC(K:PySem.W.Frag):Sp:=fun vs H Q _=>∃(a:Addr) (ns:List Int),vs=[.ref a]∧aD K H a (ns.map V.int)∧ns.length≤63∧∀H',Q (.bl true) H'
theorem iX:aI ["_law_script","_law_columns_here","_law_size","_law_most","_law_due_here","_law_handed","_law_found","_law_one","_law_again"] ["_law_script"] (ag lK):=iz
theorem Eh{f:Addr}{fd:FuncData}(F:Bh K "law" "law" lK f fd)(T:ig K mg KC FC TC)(c1:cC P w K mg base 1 "_law_here" ["_law_script","_law_place"] (qI K))(c2:cC P w K mg base 2 "_law_columns" ["_law_script"] (mB K))(c3:cC P w K mg base 2 "_law_due" ["_law_columns_here","_law_most"] BH)(c4:cC P w K mg base 6 "least" ["columns","most"] rY)(c5:cC P w K mg base 1 "_law_is_lists" ["_law_found","_law_size"] mE):fO P w K mg base qb 7 f fd ["_law_script"] (sC K):=by
 obtain⟨_,_,aV⟩:=c1
 obtain⟨_,_,eJ⟩:=c2
 obtain⟨_,_,ka⟩:=c3
 obtain⟨_,_,eK⟩:=c4
 obtain⟨_,_,bN⟩:=c5
 refine F.ok iX (fun vs H Q E h=>?_) (fun b6 A outer s H vs Q E hr h=>?_)
 ·obtain⟨a,ns,rfl,_⟩:=h
  rfl
 ·obtain⟨a,ns,rfl,hS,hlen,q⟩:=h
  have qG:=hr.units
  have big:(1000000 :Nat)≤sizeLine:=by decide
  refine⟨_,(ah
     (aF (i:=1) iX.nd rfl (Or.inl rfl) (aX eJ.ok (hr.mono (by decide)) rfl eJ.g eJ.kp eJ.b .nil a8 (aa (pv 0) ai)))
    (ah
     (aF (i:=2) iX.nd rfl (Or.inl rfl) (aL aY rfl T.fK dI (aa (pv 1) ai)))
    (ah
     (aF (i:=3) iX.nd rfl (Or.inl rfl) (aH di (aX aV.ok (hr.mono (by decide)) rfl aV.g aV.kp aV.b .nil a8 (aa (pv 0) (aa ax ai))) (aH dH (dz dP (bq (rp (.int (.int (.int (.int (.int (.int (.int (.int .nil)))))))))) (aH fV (pv 2) ax) (fun _ _=>rfl)) ax)))
    (ah
     (aF (i:=4) iX.nd rfl (Or.inl rfl) (aX ka.ok (hr.mono (by decide)) rfl ka.g ka.kp ka.b .nil a8 (aa (pv 1) (aa (pv 3) ai))))
    (ah
     (gE (i:=5) iX.nd rfl (Or.inl rfl) (sc:=(ag lK)) (NX:=["_law_script","_law_columns_here","_law_size","_law_most","_law_due_here","_law_handed","_law_found","_law_one","_law_again"]) (N:=["_law_column"]) (fr:=[none]) ⟨by rfl,by rfl,by decide+kernel,by decide+kernel,by decide+kernel,by rfl,by decide+kernel⟩ rfl rfl rfl (a9 (pv 1)) (fun _ _ _ _=>(av (i:=0) (show (["_law_column"]:List Str).Nodup by decide+kernel) rfl (Or.inl rfl) (Or.inr rfl))) (fun _ _ _ _=>aS) (fun _ _ _ _=>(cq (lH K rfl) rfl T.n_list cX (aa (pv 0) ai))))
    (ah
     (aF (i:=6) iX.nd rfl (Or.inl rfl) (aX eK.ok (hr.mono (by decide)) rfl eK.g eK.kp eK.b .nil a8 (aa (pv 5) (aa (pv 3) ai))))
    (ah
     (eg (PW.pt (uI (gZ (eL (aX bN.ok (hr.mono (by decide)) rfl bN.g bN.kp bN.b .nil a8 (aa (pv 6) (aa (pv 2) ai))))) (pR (cL (C8 qG) (pv 6) (pv 4) (cz _)))))
      (aw
       (aU kc))
      cp)
    (ah
     (b5 PassesOwn.never rfl (a9 (pv 6)) (av (i:=7) iX.nd rfl (Or.inl rfl))
      (aw
       (cK (fX PySem.F.plainAttrs_list PySem.F.slot_list_append PySem.F.type_list_append bI (pv 7) (aa ax ai)))))
    (ah
     (cK (fX PySem.F.plainAttrs_list PySem.F.slot_list_append PySem.F.type_list_append bI (pv 6) (aa (bq (aa ax ai)) ai)))
    (ah
     (aF (i:=8) iX.nd rfl (Or.inl rfl) (aX eK.ok (hr.mono (by decide)) rfl eK.g eK.kp eK.b .nil a8 (aa (pv 5) (aa (pv 3) ai))))
    (aw
     (aU (uJ (aX bN.ok (hr.mono (by decide)) rfl bN.g bN.kp bN.b .nil a8 (aa (pv 8) (aa (pv 2) ai))) (uJ (jR (vk qG) (pv 8) (pv 4) (cz _)) (CG (jR (vk qG) (pv 5) (pv 1) (cz _))))))))))))))))),?_⟩
  refine⟨_,rfl,a,ns,rfl,hS,fun l as cs n H1 e1 hl fj fit n3 m1 m8=>?_⟩
  have pP:=fj.length
  have ml:(((as.map V.ref).length:Nat):Int)=((cs.length:Nat):Int):=by rw[List.length_map,pP]
  refine⟨_,rfl,l,_,rfl, .inl (aD.of hl),?_⟩
  dsimp only [aO]
  rw[ml]
  refine⟨_,rfl,a,ns,1,rfl,e1.seq hS,fun h H2 e2=>⟨(by show 8≤sizeLine;decide),fun z hz=>⟨_,rfl,_,_,rfl,rfl,z,_,_,V.int (([8,8,8,6,5,4,3,3]:List Nat).getD (cs.length - 1) 0 :Nat),rfl,rfl,aD.of ae,zA cs.length m1 m8,_,_,rfl,rfl,_,_,rfl,rfl,?_,?_⟩⟩⟩
  ·show (0 :Int) <_
   omega
  have Ri:=e2.trans (ak.new (o:= .lst [V.int 8,V.int 8,V.int 8,V.int 6,V.int 5,V.int 4,V.int 3,V.int 3]) hz)
  obtain⟨mo,Wm,Wn⟩:∃mo:Nat,h%(((([8,8,8,6,5,4,3,3]:List Nat).getD (cs.length - 1) 0 :Nat):Int)+1)=(mo:Int)∧mo≤([8,8,8,6,5,4,3,3]:List Nat).getD (cs.length - 1) 0:=by
   have g0:=Int.emod_nonneg h (b:=((([8,8,8,6,5,4,3,3]:List Nat).getD (cs.length - 1) 0 :Nat):Int)+1) (by omega)
   have g1:=Int.emod_lt_of_pos h (b:=((([8,8,8,6,5,4,3,3]:List Nat).getD (cs.length - 1) 0 :Nat):Int)+1) (by omega)
   exact⟨(h%(((([8,8,8,6,5,4,3,3]:List Nat).getD (cs.length - 1) 0 :Nat):Int)+1)).toNat,by omega,by omega⟩
  dsimp only [aO]
  rw[Wm]
  have CW:=Ri _ _ hl
  have xu:=fj.same Ri
  generalize upd H2 z (.lst [V.int 8,V.int 8,V.int 8,V.int 6,V.int 5,V.int 4,V.int 3,V.int 3])=H3 at Ri CW xu ⊢
  obtain⟨T4,Ug,Wo⟩:=zB cs.length m8 mo Wn
  have T':∀c∈cs,c.length=n:=fun c hc=>(fit c hc).1
  have Uh:∀k,k<mo→(bg cs.length (bz (gz (dE cs n) (aM cs n).length) cs.length k).2).length≤7000:=fun k hk=>Nat.le_trans (uh _ _ k).2 (Wo k hk)
  have Rj:∀k,k≤mo→(bz (gz (dE cs n) (aM cs n).length) cs.length k).1.length≤70000:=fun k hk=>Nat.le_trans (ur _ _ k) (Nat.le_trans (Nat.pow_le_pow_left (by omega) _) Ug)
  refine⟨_,rfl,_,rfl,l,as,cs,n,mo,rfl,CW,xu,fit,by omega,m1,m8,T4,Ug,fun dl da ds H4 e4 p1 o1 Wq gR=>?_⟩
  have Rk:=e4 _ _ CW
  have IX:=xu.same e4
  dsimp only [aO]
  refine⟨_,rfl,l,rfl,⟨_,aD.of Rk⟩,fun L hL=>jf (K:=K) (a:=l) (L:=L) (xs:=as.map V.ref) H4 (fun σ=>∃v:Option V,σ=[v]) (fun i ys H'=>∃ds:List Addr,ys=ds.map V.ref∧bG L H4 H' ds (cs.take i))
   (aD.of Rk) ?_ hL ⟨none,rfl⟩ (ak.new hL) ae ⟨[],rfl, .nil⟩ (by rw[List.length_map];omega) ?_ ?_ ?_⟩
  ·rintro i ys Ha Hb e ⟨ds,rfl,gR⟩
   exact⟨ds,rfl,bG.but e gR⟩
  ·rintro i ys Ha ⟨ds,rfl,gR⟩
   have:=gR.length
   rw[List.length_take] at this
   rw[List.length_map]
   omega
  ·rintro i y σ H5 ys hy ⟨v,rfl⟩ iY lN ⟨ds,rfl,gR⟩ N M hN
   obtain⟨aj,DY,rfl⟩:=bH hy
   obtain⟨c,zk,mz,_⟩:=(IX.same iY).get DY
   refine⟨_,rfl,aj,_,rfl, .inl (aD.of mz),fun u uA=>hN _ _ _ ⟨_,rfl⟩ (iY.trans (ak.new uA)) (ak.new uA _ _ lN) ⟨ds++[u],by rw[List.map_append];rfl,?_⟩⟩
   rw[ay zk]
   exact(gR.but (cE.of (ak.new uA))).snoc ae (Ne.symm (af lN uA)) (iY.free uA)
  rintro H5 ys iY lN ⟨hd,rfl,Gv⟩
  rw[List.length_map,pP,List.take_length] at Gv
  have Gv:aE [] H5 hd cs:=bG.toS (by simp) (fun b xs z _ _=>z) Gv
  have IY:=iY _ _ Wq
  have IZ:=gR.same iY
  have Wr:=iY _ _ Rk
  have Rl:=IX.same iY
  dsimp only [aO]
  refine⟨_,rfl,_,rfl,L,hd,cs,n,mo,rfl,lN,Gv,fit,by omega,m1,by omega,by omega,Uh,Rj,fun fl fs bs H6 T3 e6 p2 o2 um I0 xX=>?_⟩
  have Ws:bs=ds:=kZ (p2.trans p1.symm) o2 o1
  subst Ws
  have Rm:∀b∈bs,b.length=cs.length:=fun b hb=>(((fg _ _ mo).1 b).mp (p2.mem_iff.mp hb)).1.1.1
  have W6:bs.length≤70000:=by rw[p2.length_eq];exact Rj mo (Nat.le_refl _)
  have W7:=I0.length
  dsimp only [aO]
  refine⟨_,rfl,_,rfl,fl,cs.length,fs,bs,rfl,um,I0,Rm,_,rfl,qc ?_⟩
  refine⟨_,rfl,_,rfl,fJ bs,fJ bs,lZ.cols (aD.of um) I0.at,lZ.cols (aD.of (e6 _ _ IY)) (IZ.same e6).at,cw bs,cw bs,_,rfl,IM (by rw[iy _ (gH bs)];rfl) ?_⟩
  have Ui:fl∉fs:=fun z=>by
   obtain⟨i,hi⟩:=List.getElem?_of_mem z
   obtain⟨c,_,hc,_⟩:=I0.get hi
   rw[um] at hc
   have hc:fs.map V.ref=c.map V.int:=by injection hc with hc;injection hc
   cases fs with
   |nil=>cases z
   |cons b r=>
    cases c with
    |nil=>cases hc
    |cons x c=>injection hc with h1 _;cases h1
  refine⟨_,rfl,fl,rfl,⟨_,aD.of um⟩,dY (K:=K) (a:=fl) (xs:=fs.map V.ref) (fun i σ H'=>∃v7:Option V,σ=[some (.ref a),some (.ref l),some (.int (cs.length:Nat)),some (.int mo),some (.ref dl),some (.ref L),some (.ref fl),v7,none]∧i≤fs.length∧(∀b∈fs,∃zs:List V,H' b=some (.lst zs)∧zs.length≤8+i)∧∀b o,H6 b=some o→b∉fs→H' b=some o) ?_ (fun i σ H' _ ⟨_,_,_,_,e⟩=>aD.of (e _ _ um Ui)) ?_ ?_⟩
  ·refine⟨none,rfl,Nat.zero_le _,fun b hb=>?_,fun b o z _=>z⟩
   obtain⟨i,hi⟩:=List.getElem?_of_mem hb
   obtain⟨c,hc,mz,_⟩:=I0.get hi
   exact⟨_,mz,by rw[List.length_map,Rm c (List.mem_of_getElem? hc)];omega⟩
  ·rintro i y σ H7 hi ⟨v7,rfl,li,Rn,e7⟩
   obtain⟨bj,DZ,rfl⟩:=bH hi
   have ii:i<fs.length:=(List.getElem?_eq_some_iff.mp DZ).1
   have Uj:=List.mem_of_getElem? DZ
   obtain⟨zs,DJ,W8⟩:=Rn bj Uj
   dsimp only [aO]
   refine⟨_,rfl, .inl ⟨rfl,_,aD.of DJ⟩,bj,_,_,rfl,rfl,DJ,by omega,_,rfl,by omega,fun b hb=>?_,fun b o z w=>?_⟩
   ·by_cases eb:b=bj
    ·subst eb
     exact⟨_,ae,by rw[List.length_append];show _+1≤_;omega⟩
    ·obtain⟨ys,h1,h2⟩:=Rn b hb
     exact⟨ys,by rw[ao eb];exact h1,by omega⟩
   ·rw[ao (show b≠bj from fun zz=>w (by rw[zz];exact Uj))]
    exact e7 b o z w
  ·rintro σ H7 ⟨v7,rfl,_,Rn,e7⟩
   have Ja:=e7 _ _ um Ui
   dsimp only [aO]
   refine⟨_,rfl, .inl ⟨rfl,_,aD.of Ja⟩,(by show 1≤sizeLine;decide),fun z7 hz=>⟨fl,_,_,rfl,rfl,ak.new hz _ _ Ja,by rw[List.length_map];omega,?_⟩⟩
   have Gq:ak H5 (upd (upd H7 z7 (.lst [V.int 7])) fl (.lst (fs.map V.ref++[V.ref z7]))):=fun b o zb=>by
    have h7:=e7 _ _ (e6 _ _ zb) (fun w=>af zb (xX b w) rfl)
    rw[ao (af zb T3)]
    exact ak.new hz _ _ h7
   generalize upd (upd H7 z7 (.lst [V.int 7])) fl (.lst (fs.map V.ref++[V.ref z7]))=H8 at Gq ⊢
   dsimp only [aO]
   refine⟨_,rfl,_,rfl,L,hd,cs,n,mo,rfl,Gq _ _ lN,Gv.same Gq,fit,by omega,m1,by omega,by omega,Uh,Rj,fun gl gs Ei H9 _ e9 p3 o3 Uk Ul _=>?_⟩
   have Wt:Ei=bs:=kZ (p3.trans p2.symm) o3 o2
   subst Wt
   have xY:=Gq.trans e9
   refine⟨_,rfl,_,rfl,gl,cs.length,gs,Ei,rfl,Uk,Ul,Rm,_,rfl,Hg ?_⟩
   refine⟨_,rfl,_,rfl,fJ Ei,fJ Ei,lZ.cols (aD.of Uk) Ul.at,lZ.cols (aD.of (xY _ _ IY)) (IZ.same xY).at,cw Ei,cw Ei,_,rfl,IS (by rw[iy _ (gH Ei)];rfl) ?_⟩
   refine⟨_,rfl,_,rfl,fJ cs,fJ cs,lZ.cols (aD.of (xY _ _ lN)) (Gv.same xY).at,lZ.cols (aD.of (xY _ _ Wr)) (Rl.same xY).at,cw cs,cw cs,?_⟩
   rw[iy _ (gH cs)]
   exact q H9
end
theorem all_mk{l:PySem.W.OpenLaw}{w:World}{K:PySem.W.Frag}{h:Heap}{mg:Str→Option Value}{fa KC FC TC Ej Ek El zC zD zE zF zG zH zI zJ zK Em zL zM zN zO En Eo Ep Er Es Et Eu Ew Ex Ey Ez EA:Addr}(X:K.In h)(G:h.Ns mainGlobals mg)(qH:mg "law" =some (.ref fa))
  {Jb Jc Jd Je Jf Jg Jh Ji Jj Jk Jl Jm Jn Jo Jp Jq Jr Js Jt Ju Jv Jw Jx Jy Jz JA JB JC JD JE JF JG JH JI JJ JK JL JM JN JO JP JQ JR JS JT JU JV JW JX JY JZ J0 J1 J2 J3 J4 J6 BI:Option Addr} {J7 J8 J9 Ka Kb Kc Kd Ke Kf Kg Kh Ki Kj Kk Kl Km Kn Ko Kp Kq Kr Ks Kt Ku Kv Kw Kx Ky Kz:Array (Option Value)} {KD KG KH KI BJ KJ KL KN KO KP BK KQ KU KW KY KZ BL K0 K1 K2 K3 K4 BM K5 K6 K7 K8 K9 BN K' La Lb Lc Ld BO Lf Lg Lh Li Lj BP Lk Ll Lm Ln Lo BQ Lp Lq Ls Lu Lv BR Lw Ly Lz LA LB BS LC LD LF LG LH BU LI LJ LK LL LM BV LN LO LP LQ LR BW LS LU LV LW LX BX LY LZ L0 L1 L5 BY L' Ma Mb Mc Md BZ Me Mf Mg Mh Mi B0 Mj Ml Mm Mn Mo B3 Mp Mq Mr Ms Mt B4 Mu Mw Mx My Mz B' MA MB MC MD ME Ca MF MG MK ML MM Cb MN MO MP MQ MR Cc MS MT MU MV MW Cd MX MY MZ M0 M3 Ce M4 M6 M7 M8 M9 Cf M' Na Nb Nc Nd Cg Nf Ng Nh Ni Nj Ci Nk Nl Cj Ck Cm xv Cn:Value}
  (Ro:PySem.W.nsIn K mainGlobals "Kernel" =some (some (.ref KC)))
  (Rp:PySem.W.nsIn K mainGlobals "Frame" =some (some (.ref FC)))
  (Rq:PySem.W.nsIn K mainGlobals "Trial" =some (some (.ref TC)))
  (EB:PySem.W.nsIn K mainGlobals "divisor" =some (some (.ref Ej)))
  (zP:K.lookup Ej=some ⟨KD,Jb, .func (PySem.W.fnOf "divisor" "divisor" (aJ dA) (aC dA) (ag dA) .none KG KH KI Jc BJ KJ),J7⟩)
  (zQ:PySem.W.codeIn K BJ "divisor" =true)
  (zR:PySem.W.keepIn K (.ref Ej)=true)
  (EC:PySem.W.nsIn K mainGlobals "lowest" =some (some (.ref Ek)))
  (zS:K.lookup Ek=some ⟨KL,Jd, .func (PySem.W.fnOf "lowest" "lowest" (aJ dQ) (aC dQ) (ag dQ) .none KN KO KP Je BK KQ),J8⟩)
  (zT:PySem.W.codeIn K BK "lowest" =true)
  (zU:PySem.W.keepIn K (.ref Ek)=true)
  (ED:PySem.W.nsIn K mainGlobals "weigh" =some (some (.ref El)))
  (zV:K.lookup El=some ⟨KU,Jf, .func (PySem.W.fnOf "weigh" "weigh" (aJ fu) (aC fu) (ag fu) .none KW KY KZ Jg BL K0),J9⟩)
  (zW:PySem.W.codeIn K BL "weigh" =true)
  (zX:PySem.W.keepIn K (.ref El)=true)
  (EE:PySem.W.findIn K (.ref KC) "__init__" =some (some (.ref zC)))
  (EF:PySem.W.isFn K (.ref zC)=true)
  (EG:K.lookup zC=some ⟨K1,Jh, .func (PySem.W.fnOf "__init__" "Kernel.__init__" (aJ g9) (aC g9) (ag g9) .none K2 K3 K4 Ji BM K5),Ka⟩)
  (EH:PySem.W.codeIn K BM "Kernel.__init__" =true)
  (EI:PySem.W.keepIn K (.ref zC)=true)
  (EJ:PySem.W.findIn K (.ref FC) "__init__" =some (some (.ref zD)))
  (EK:PySem.W.isFn K (.ref zD)=true)
  (EL:K.lookup zD=some ⟨K6,Jj, .func (PySem.W.fnOf "__init__" "Frame.__init__" (aJ hE) (aC hE) (ag hE) .none K7 K8 K9 Jk BN K'),Kb⟩)
  (EM:PySem.W.codeIn K BN "Frame.__init__" =true)
  (EN:PySem.W.keepIn K (.ref zD)=true)
  (EO:PySem.W.findIn K (.ref FC) "shares" =some (some (.ref zE)))
  (ES:PySem.W.isFn K (.ref zE)=true)
  (zY:K.lookup zE=some ⟨La,Jl, .func (PySem.W.fnOf "shares" "Frame.shares" (aJ dR) (aC dR) (ag dR) .none Lb Lc Ld Jm BO Lf),Kc⟩)
  (zZ:PySem.W.codeIn K BO "Frame.shares" =true)
  (xw:PySem.W.keepIn K (.ref zE)=true)
  (ET:PySem.W.findIn K (.ref FC) "rest" =some (some (.ref zF)))
  (EU:PySem.W.isFn K (.ref zF)=true)
  (z4:K.lookup zF=some ⟨Lg,Jn, .func (PySem.W.fnOf "rest" "Frame.rest" (aJ iH) (aC iH) (ag iH) .none Lh Li Lj Jo BP Lk),Kd⟩)
  (z5:PySem.W.codeIn K BP "Frame.rest" =true)
  (xx:PySem.W.keepIn K (.ref zF)=true)
  (EV:PySem.W.findIn K (.ref FC) "row_with_rest" =some (some (.ref zG)))
  (EW:PySem.W.isFn K (.ref zG)=true)
  (z6:K.lookup zG=some ⟨Ll,Jp, .func (PySem.W.fnOf "row_with_rest" "Frame.row_with_rest" (aJ oX) (aC oX) (ag oX) .none Lm Ln Lo Jq BQ Lp),Ke⟩)
  (z8:PySem.W.codeIn K BQ "Frame.row_with_rest" =true)
  (xy:PySem.W.keepIn K (.ref zG)=true)
  (EX:PySem.W.findIn K (.ref FC) "levelling" =some (some (.ref zH)))
  (EY:PySem.W.isFn K (.ref zH)=true)
  (z9:K.lookup zH=some ⟨Lq,Jr, .func (PySem.W.fnOf "levelling" "Frame.levelling" (aJ oY) (aC oY) (ag oY) .none Ls Lu Lv Js BR Lw),Kf⟩)
  (Aa:PySem.W.codeIn K BR "Frame.levelling" =true)
  (xA:PySem.W.keepIn K (.ref zH)=true)
  (EZ:PySem.W.findIn K (.ref FC) "weights_of_rest" =some (some (.ref zI)))
  (E1:PySem.W.isFn K (.ref zI)=true)
  (Ab:K.lookup zI=some ⟨Ly,Jt, .func (PySem.W.fnOf "weights_of_rest" "Frame.weights_of_rest" (aJ fx) (aC fx) (ag fx) .none Lz LA LB Ju BS LC),Kg⟩)
  (Ac:PySem.W.codeIn K BS "Frame.weights_of_rest" =true)
  (xB:PySem.W.keepIn K (.ref zI)=true)
  (E2:PySem.W.findIn K (.ref FC) "bind" =some (some (.ref zJ)))
  (E3:PySem.W.isFn K (.ref zJ)=true)
  (Ad:K.lookup zJ=some ⟨LD,Jv, .func (PySem.W.fnOf "bind" "Frame.bind" (aJ gS) (aC gS) (ag gS) .none LF LG LH Jw BU LI),Kh⟩)
  (Ae:PySem.W.codeIn K BU "Frame.bind" =true)
  (xC:PySem.W.keepIn K (.ref zJ)=true)
  (E4:PySem.W.findIn K (.ref FC) "freed" =some (some (.ref zK)))
  (E5:PySem.W.isFn K (.ref zK)=true)
  (Af:K.lookup zK=some ⟨LJ,Jx, .func (PySem.W.fnOf "freed" "Frame.freed" (aJ fy) (aC fy) (ag fy) .none LK LL LM Jy BV LN),Ki⟩)
  (Ag:PySem.W.codeIn K BV "Frame.freed" =true)
  (xD:PySem.W.keepIn K (.ref zK)=true)
  (E6:PySem.W.nsIn K mainGlobals "kernel" =some (some (.ref Em)))
  (Ah:K.lookup Em=some ⟨LO,Jz, .func (PySem.W.fnOf "kernel" "kernel" (aJ eD) (aC eD) (ag eD) .none LP LQ LR JA BW LS),Kj⟩)
  (Ai:PySem.W.codeIn K BW "kernel" =true)
  (Aj:PySem.W.keepIn K (.ref Em)=true)
  (E7:PySem.W.findIn K (.ref TC) "__init__" =some (some (.ref zL)))
  (E8:PySem.W.isFn K (.ref zL)=true)
  (E9:K.lookup zL=some ⟨LU,JB, .func (PySem.W.fnOf "__init__" "Trial.__init__" (aJ hU) (aC hU) (ag hU) .none LV LW LX JC BX LY),Kk⟩)
  (Fb:PySem.W.codeIn K BX "Trial.__init__" =true)
  (Fc:PySem.W.keepIn K (.ref zL)=true)
  (Fd:PySem.W.findIn K (.ref TC) "raised" =some (some (.ref zM)))
  (Fe:PySem.W.isFn K (.ref zM)=true)
  (Ak:K.lookup zM=some ⟨LZ,JD, .func (PySem.W.fnOf "raised" "Trial.raised" (aJ dS) (aC dS) (ag dS) .none L0 L1 L5 JE BY L'),Kl⟩)
  (Al:PySem.W.codeIn K BY "Trial.raised" =true)
  (xE:PySem.W.keepIn K (.ref zM)=true)
  (Ff:PySem.W.findIn K (.ref TC) "all_raised" =some (some (.ref zN)))
  (Fg:PySem.W.isFn K (.ref zN)=true)
  (Am:K.lookup zN=some ⟨Ma,JF, .func (PySem.W.fnOf "all_raised" "Trial.all_raised" (aJ bY) (aC bY) (ag bY) .none Mb Mc Md JG BZ Me),Km⟩)
  (An:PySem.W.codeIn K BZ "Trial.all_raised" =true)
  (xF:PySem.W.keepIn K (.ref zN)=true)
  (Fh:PySem.W.findIn K (.ref TC) "is_level" =some (some (.ref zO)))
  (Fi:PySem.W.isFn K (.ref zO)=true)
  (Ao:K.lookup zO=some ⟨Mf,JH, .func (PySem.W.fnOf "is_level" "Trial.is_level" (aJ dB) (aC dB) (ag dB) .none Mg Mh Mi JI B0 Mj),Kn⟩)
  (Ap:PySem.W.codeIn K B0 "Trial.is_level" =true)
  (xG:PySem.W.keepIn K (.ref zO)=true)
  (Fj:PySem.W.nsIn K mainGlobals "rows_enough" =some (some (.ref En)))
  (Aq:K.lookup En=some ⟨Ml,JJ, .func (PySem.W.fnOf "rows_enough" "rows_enough" (aJ aQ) (aC aQ) (ag aQ) .none Mm Mn Mo JK B3 Mp),Ko⟩)
  (As:PySem.W.codeIn K B3 "rows_enough" =true)
  (Au:PySem.W.keepIn K (.ref En)=true)
  (Fl:PySem.W.nsIn K mainGlobals "fits" =some (some (.ref Eo)))
  (Av:K.lookup Eo=some ⟨Mq,JL, .func (PySem.W.fnOf "fits" "fits" (aJ iI) (aC iI) (ag iI) .none Mr Ms Mt JM B4 Mu),Kp⟩)
  (Aw:PySem.W.codeIn K B4 "fits" =true)
  (Ax:PySem.W.keepIn K (.ref Eo)=true)
  (Fm:PySem.W.nsIn K mainGlobals "least" =some (some (.ref Ep)))
  (Ay:K.lookup Ep=some ⟨Mw,JN, .func (PySem.W.fnOf "least" "least" (aJ cN) (aC cN) (ag cN) .none Mx My Mz JO B' MA),Kq⟩)
  (Az:PySem.W.codeIn K B' "least" =true)
  (AA:PySem.W.keepIn K (.ref Ep)=true)
  (Fn:PySem.W.nsIn K mainGlobals "_law_here" =some (some (.ref Er)))
  (AB:K.lookup Er=some ⟨MB,JP, .func (PySem.W.fnOf "_law_here" "_law_here" (aJ jA) (aC jA) (ag jA) .none MC MD ME JQ Ca MF),Kr⟩)
  (AD:PySem.W.codeIn K Ca "_law_here" =true)
  (AE:PySem.W.keepIn K (.ref Er)=true)
  (Fp:PySem.W.nsIn K mainGlobals "_law_shaken" =some (some (.ref Es)))
  (AF:K.lookup Es=some ⟨MG,JR, .func (PySem.W.fnOf "_law_shaken" "_law_shaken" (aJ eE) (aC eE) (ag eE) .none MK ML MM JS Cb MN),Ks⟩)
  (AG:PySem.W.codeIn K Cb "_law_shaken" =true)
  (AH:PySem.W.keepIn K (.ref Es)=true)
  (Fq:PySem.W.nsIn K mainGlobals "_law_columns" =some (some (.ref Et)))
  (AI:K.lookup Et=some ⟨MO,JT, .func (PySem.W.fnOf "_law_columns" "_law_columns" (aJ bD) (aC bD) (ag bD) .none MP MQ MR JU Cc MS),Kt⟩)
  (AJ:PySem.W.codeIn K Cc "_law_columns" =true)
  (AK:PySem.W.keepIn K (.ref Et)=true)
  (Fs:PySem.W.nsIn K mainGlobals "_law_lists" =some (some (.ref Eu)))
  (AL:K.lookup Eu=some ⟨MT,JV, .func (PySem.W.fnOf "_law_lists" "_law_lists" (aJ eV) (aC eV) (ag eV) .none MU MV MW JW Cd MX),Ku⟩)
  (AM:PySem.W.codeIn K Cd "_law_lists" =true)
  (AN:PySem.W.keepIn K (.ref Eu)=true)
  (Ft:PySem.W.nsIn K mainGlobals "_law_levels" =some (some (.ref Ew)))
  (AO:K.lookup Ew=some ⟨MY,JX, .func (PySem.W.fnOf "_law_levels" "_law_levels" (aJ dU) (aC dU) (ag dU) .none MZ M0 M3 JY Ce M4),Kv⟩)
  (AQ:PySem.W.codeIn K Ce "_law_levels" =true)
  (AR:PySem.W.keepIn K (.ref Ew)=true)
  (Fu:PySem.W.nsIn K mainGlobals "_law_beneath" =some (some (.ref Ex)))
  (AS:K.lookup Ex=some ⟨M6,JZ, .func (PySem.W.fnOf "_law_beneath" "_law_beneath" (aJ c9) (aC c9) (ag c9) .none M7 M8 M9 J0 Cf M'),Kw⟩)
  (AU:PySem.W.codeIn K Cf "_law_beneath" =true)
  (AV:PySem.W.keepIn K (.ref Ex)=true)
  (Fv:PySem.W.nsIn K mainGlobals "_law_due" =some (some (.ref Ey)))
  (AW:K.lookup Ey=some ⟨Na,J1, .func (PySem.W.fnOf "_law_due" "_law_due" (aJ lJ) (aC lJ) (ag lJ) .none Nb Nc Nd J2 Cg Nf),Kx⟩)
  (AX:PySem.W.codeIn K Cg "_law_due" =true)
  (AY:PySem.W.keepIn K (.ref Ey)=true)
  (Fw:PySem.W.nsIn K mainGlobals "_law_is_lists" =some (some (.ref Ez)))
  (AZ:K.lookup Ez=some ⟨Ng,J3, .func (PySem.W.fnOf "_law_is_lists" "_law_is_lists" (aJ dC) (aC dC) (ag dC) .none Nh Ni Nj J4 Ci Nk),Ky⟩)
  (A1:PySem.W.codeIn K Ci "_law_is_lists" =true)
  (A2:PySem.W.keepIn K (.ref Ez)=true)
  (Fx:PySem.W.nsIn K mainGlobals "law" =some (some (.ref EA)))
  (Fy:K.lookup EA=some ⟨Nl,J6, .func (PySem.W.fnOf "law" "law" (aJ lK) (aC lK) (ag lK) .none Cj Ck Cm BI xv Cn),Kz⟩)
  (Fz:PySem.W.codeIn K xv "law" =true)
  (FD:PySem.W.keepIn K (.ref EA)=true)
  (FE:PySem.W.plainGet K KC Str.empty=true)
  (FG:PySem.W.hasDictIn K KC=true)
  (FH:PySem.W.plainOver K KC=true)
  (FI:PySem.W.findIn K (.ref KC) "__setattr__" =some (some (.builtin "object.__setattr__")))
  (FJ:PySem.W.makesIn K KC=true)
  (FK:PySem.W.keepIn K (.ref KC)=true)
  (FL:PySem.W.plainGet K FC Str.empty=true)
  (FN:PySem.W.hasDictIn K FC=true)
  (FO:PySem.W.plainOver K FC=true)
  (FP:PySem.W.findIn K (.ref FC) "__setattr__" =some (some (.builtin "object.__setattr__")))
  (FQ:PySem.W.makesIn K FC=true)
  (FR:PySem.W.keepIn K (.ref FC)=true)
  (FT:PySem.W.plainGet K TC Str.empty=true)
  (FU:PySem.W.hasDictIn K TC=true)
  (FV:PySem.W.plainOver K TC=true)
  (FW:PySem.W.findIn K (.ref TC) "__setattr__" =some (some (.builtin "object.__setattr__")))
  (FX:PySem.W.makesIn K TC=true)
  (FY:PySem.W.keepIn K (.ref TC)=true)
  (Rr:PySem.W.findIn K (.ref KC) "free" =some none)
  (Rt:PySem.W.findIn K (.ref KC) "bound" =some none)
  (Ru:PySem.W.findIn K (.ref KC) "numbers" =some none)
  (Rv:PySem.W.findIn K (.ref KC) "weights" =some none)
  (Rw:PySem.W.findIn K (.ref FC) "scale" =some none)
  (Rx:PySem.W.findIn K (.ref FC) "places" =some none)
  (Ry:PySem.W.findIn K (.ref FC) "bases" =some none)
  (Rz:PySem.W.findIn K (.ref FC) "weights" =some none)
  (DX:PySem.W.findIn K (.ref TC) "numbers" =some none)
  (ze:PySem.W.findIn K (.ref TC) "gathered" =some none)
  (RA:PySem.W.findIn K (.ref TC) "first" =some none)
  (xH:PySem.W.nsIn K mainGlobals "abs" =some none)
  (qO:PySem.W.nsIn K mainGlobals "list" =some none)
  (xI:PySem.W.nsIn K mainGlobals "len" =some none)
  (nU:PySem.W.nsIn K mainGlobals "range" =some none)
  (xJ:PySem.W.nsIn K mainGlobals "sum" =some none)
  (xK:PySem.W.nsIn K mainGlobals "zip" =some none)
  (gD:PySem.W.nsIn K mainGlobals "enumerate" =some none)
  (xM:PySem.W.nsIn K mainGlobals "min" =some none)
  (lh:PySem.W.nsIn K mainGlobals "sorted" =some none)
  (xN:PySem.W.nsIn K mainGlobals "int" =some none)
  (qP:PySem.W.nsIn K mainGlobals "bool" =some none)
  (fI:PySem.W.nsIn K mainGlobals "isinstance" =some none)
  (xO:PySem.W.nsIn K mainGlobals "all" =some none)
  (xP:PySem.W.nsIn K mainGlobals "any" =some none)
  :∃fd:FuncData,(∀(s:Shared) (v:Value),BindsTo s fd ⟨[v],[]⟩ [("_law_script",v)])∧∀base:Heap,K.In base→base.Ns mainGlobals mg→fO l.prog w K mg base qb 7 fa fd ["_law_script"] (sC K):=by
 have e:=qH.symm.trans (PySem.W.mg_of X G Fx)
 cases e
 have T:ig K mg KC FC TC:=⟨⟨⟨FE,FG,FH,FI⟩,⟨FL,FN,FO,FP⟩,Rr,Rt,Ru,Rv,Rw,Rx,Ry,Rz,PySem.W.mg_of X G Ro,PySem.W.mg_of X G Rp,PySem.W.mg_none_of X G xH,PySem.W.mg_none_of X G qO,PySem.W.mg_none_of X G xI,PySem.W.mg_none_of X G nU,PySem.W.mg_none_of X G xJ,PySem.W.mg_none_of X G xK,PySem.W.mg_none_of X G gD,PySem.W.mg_none_of X G xM,PySem.W.mg_none_of X G lh,PySem.W.mg_none_of X G xN,PySem.W.mg_none_of X G qP,PySem.W.mg_none_of X G fI,PySem.W.mg_none_of X G xO,oF,mO,oF⟩,⟨FT,FU,FV,FW⟩,DX,ze,RA,PySem.W.mg_of X G Rq,PySem.W.mg_none_of X G xP⟩
 have Nm:Def K mg "divisor" "divisor" dA ["one","other"]:=⟨_,_,aG (st:=dA) zP zQ zR,(aG (st:=dA) zP zQ zR).binds (ps:=["one","other"]) fun _ _ _ _ _ _ us hl=>match us,hl with| [_,_],_=>rfl,PySem.W.mg_of X G EB⟩
 have Np:Def K mg "lowest" "lowest" dQ ["numbers"]:=⟨_,_,aG (st:=dQ) zS zT zU,(aG (st:=dQ) zS zT zU).binds (ps:=["numbers"]) fun _ _ _ _ _ _ us hl=>match us,hl with| [_],_=>rfl,PySem.W.mg_of X G EC⟩
 have Nq:Def K mg "weigh" "weigh" fu ["weights","column"]:=⟨_,_,aG (st:=fu) zV zW zX,(aG (st:=fu) zV zW zX).binds (ps:=["weights","column"]) fun _ _ _ _ _ _ us hl=>match us,hl with| [_,_],_=>rfl,PySem.W.mg_of X G ED⟩
 have Nr:oE K KC "Kernel.__init__" g9 ["self","free","bound","numbers","weights"] []:=⟨_,_,_,mN (st:=g9) EG EH EI,⟨FJ,EE,EF,FK⟩,fun j hj=>match j,hj with|0,_=>⟨[], .nil, .all fun us hl=>match us,hl with| [_,_,_,_,_],_=>rfl⟩⟩
 have Nt:oE K FC "Frame.__init__" hE ["self"] []:=⟨_,_,_,mN (st:=hE) EL EM EN,⟨FQ,EJ,EK,FR⟩,fun j hj=>match j,hj with|0,_=>⟨[], .nil, .all fun us hl=>match us,hl with| [_],_=>rfl⟩⟩
 have Nu:ed K FC "shares" "Frame.shares" dR ["self","column"]:=⟨_,_,aG (st:=dR) zY zZ xw,(aG (st:=dR) zY zZ xw).binds (ps:=["self","column"]) fun _ _ _ _ _ _ us hl=>match us,hl with| [_,_],_=>rfl,⟨EO,ES,xw⟩⟩
 have Nv:ed K FC "rest" "Frame.rest" iH ["self","column","shares","row"]:=⟨_,_,aG (st:=iH) z4 z5 xx,(aG (st:=iH) z4 z5 xx).binds (ps:=["self","column","shares","row"]) fun _ _ _ _ _ _ us hl=>match us,hl with| [_,_,_,_],_=>rfl,⟨ET,EU,xx⟩⟩
 have Nw:ed K FC "row_with_rest" "Frame.row_with_rest" oX ["self","column","shares"]:=⟨_,_,aG (st:=oX) z6 z8 xy,(aG (st:=oX) z6 z8 xy).binds (ps:=["self","column","shares"]) fun _ _ _ _ _ _ us hl=>match us,hl with| [_,_,_],_=>rfl,⟨EV,EW,xy⟩⟩
 have Nx:ed K FC "levelling" "Frame.levelling" oY ["self","place","shares","many"]:=⟨_,_,aG (st:=oY) z9 Aa xA,(aG (st:=oY) z9 Aa xA).binds (ps:=["self","place","shares","many"]) fun _ _ _ _ _ _ us hl=>match us,hl with| [_,_,_,_],_=>rfl,⟨EX,EY,xA⟩⟩
 have Ny:ed K FC "weights_of_rest" "Frame.weights_of_rest" fx ["self","row","many"]:=⟨_,_,aG (st:=fx) Ab Ac xB,(aG (st:=fx) Ab Ac xB).binds (ps:=["self","row","many"]) fun _ _ _ _ _ _ us hl=>match us,hl with| [_,_,_],_=>rfl,⟨EZ,E1,xB⟩⟩
 have Nz:ed K FC "bind" "Frame.bind" gS ["self","place","column","shares","row"]:=⟨_,_,aG (st:=gS) Ad Ae xC,(aG (st:=gS) Ad Ae xC).binds (ps:=["self","place","column","shares","row"]) fun _ _ _ _ _ _ us hl=>match us,hl with| [_,_,_,_,_],_=>rfl,⟨E2,E3,xC⟩⟩
 have NA:ed K FC "freed" "Frame.freed" fy ["self","weights","share","fresh","scale"]:=⟨_,_,aG (st:=fy) Af Ag xD,(aG (st:=fy) Af Ag xD).binds (ps:=["self","weights","share","fresh","scale"]) fun _ _ _ _ _ _ us hl=>match us,hl with| [_,_,_,_,_],_=>rfl,⟨E4,E5,xD⟩⟩
 have NB:Def K mg "kernel" "kernel" eD ["columns"]:=⟨_,_,aG (st:=eD) Ah Ai Aj,(aG (st:=eD) Ah Ai Aj).binds (ps:=["columns"]) fun _ _ _ _ _ _ us hl=>match us,hl with| [_],_=>rfl,PySem.W.mg_of X G E6⟩
 have NC:oE K TC "Trial.__init__" hU ["self","numbers","gathered","first"] []:=⟨_,_,_,mN (st:=hU) E9 Fb Fc,⟨FX,E7,E8,FY⟩,fun j hj=>match j,hj with|0,_=>⟨[], .nil, .all fun us hl=>match us,hl with| [_,_,_,_],_=>rfl⟩⟩
 have ND:ed K TC "raised" "Trial.raised" dS ["self","place","column"]:=⟨_,_,aG (st:=dS) Ak Al xE,(aG (st:=dS) Ak Al xE).binds (ps:=["self","place","column"]) fun _ _ _ _ _ _ us hl=>match us,hl with| [_,_,_],_=>rfl,⟨Fd,Fe,xE⟩⟩
 have NF:ed K TC "all_raised" "Trial.all_raised" bY ["self","columns"]:=⟨_,_,aG (st:=bY) Am An xF,(aG (st:=bY) Am An xF).binds (ps:=["self","columns"]) fun _ _ _ _ _ _ us hl=>match us,hl with| [_,_],_=>rfl,⟨Ff,Fg,xF⟩⟩
 have NG:ed K TC "is_level" "Trial.is_level" dB ["self"]:=⟨_,_,aG (st:=dB) Ao Ap xG,(aG (st:=dB) Ao Ap xG).binds (ps:=["self"]) fun _ _ _ _ _ _ us hl=>match us,hl with| [_],_=>rfl,⟨Fh,Fi,xG⟩⟩
 have NH:Def K mg "rows_enough" "rows_enough" aQ ["columns"]:=⟨_,_,aG (st:=aQ) Aq As Au,(aG (st:=aQ) Aq As Au).binds (ps:=["columns"]) fun _ _ _ _ _ _ us hl=>match us,hl with| [_],_=>rfl,PySem.W.mg_of X G Fj⟩
 have NI:Def K mg "fits" "fits" iI ["small","great"]:=⟨_,_,aG (st:=iI) Av Aw Ax,(aG (st:=iI) Av Aw Ax).binds (ps:=["small","great"]) fun _ _ _ _ _ _ us hl=>match us,hl with| [_,_],_=>rfl,PySem.W.mg_of X G Fl⟩
 have NJ:Def K mg "least" "least" cN ["columns","most"]:=⟨_,_,aG (st:=cN) Ay Az AA,(aG (st:=cN) Ay Az AA).binds (ps:=["columns","most"]) fun _ _ _ _ _ _ us hl=>match us,hl with| [_,_],_=>rfl,PySem.W.mg_of X G Fm⟩
 have NK:Def K mg "_law_here" "_law_here" jA ["_law_script","_law_place"]:=⟨_,_,aG (st:=jA) AB AD AE,(aG (st:=jA) AB AD AE).binds (ps:=["_law_script","_law_place"]) fun _ _ _ _ _ _ us hl=>match us,hl with| [_,_],_=>rfl,PySem.W.mg_of X G Fn⟩
 have NL:Def K mg "_law_shaken" "_law_shaken" eE ["_law_cell","_law_many"]:=⟨_,_,aG (st:=eE) AF AG AH,(aG (st:=eE) AF AG AH).binds (ps:=["_law_cell","_law_many"]) fun _ _ _ _ _ _ us hl=>match us,hl with| [_,_],_=>rfl,PySem.W.mg_of X G Fp⟩
 have NM:Def K mg "_law_columns" "_law_columns" bD ["_law_script"]:=⟨_,_,aG (st:=bD) AI AJ AK,(aG (st:=bD) AI AJ AK).binds (ps:=["_law_script"]) fun _ _ _ _ _ _ us hl=>match us,hl with| [_],_=>rfl,PySem.W.mg_of X G Fq⟩
 have NN:Def K mg "_law_lists" "_law_lists" eV ["_law_size","_law_most"]:=⟨_,_,aG (st:=eV) AL AM AN,(aG (st:=eV) AL AM AN).binds (ps:=["_law_size","_law_most"]) fun _ _ _ _ _ _ us hl=>match us,hl with| [_,_],_=>rfl,PySem.W.mg_of X G Fs⟩
 have NO:Def K mg "_law_levels" "_law_levels" dU ["_law_some","_law_columns_here"]:=⟨_,_,aG (st:=dU) AO AQ AR,(aG (st:=dU) AO AQ AR).binds (ps:=["_law_some","_law_columns_here"]) fun _ _ _ _ _ _ us hl=>match us,hl with| [_,_],_=>rfl,PySem.W.mg_of X G Ft⟩
 have NP:Def K mg "_law_beneath" "_law_beneath" c9 ["_law_one","_law_other"]:=⟨_,_,aG (st:=c9) AS AU AV,(aG (st:=c9) AS AU AV).binds (ps:=["_law_one","_law_other"]) fun _ _ _ _ _ _ us hl=>match us,hl with| [_,_],_=>rfl,PySem.W.mg_of X G Fu⟩
 have NQ:Def K mg "_law_due" "_law_due" lJ ["_law_columns_here","_law_most"]:=⟨_,_,aG (st:=lJ) AW AX AY,(aG (st:=lJ) AW AX AY).binds (ps:=["_law_columns_here","_law_most"]) fun _ _ _ _ _ _ us hl=>match us,hl with| [_,_],_=>rfl,PySem.W.mg_of X G Fv⟩
 have NR:Def K mg "_law_is_lists" "_law_is_lists" dC ["_law_found","_law_size"]:=⟨_,_,aG (st:=dC) AZ A1 A2,(aG (st:=dC) AZ A1 A2).binds (ps:=["_law_found","_law_size"]) fun _ _ _ _ _ _ us hl=>match us,hl with| [_,_],_=>rfl,PySem.W.mg_of X G Fw⟩
 have RB:=aG (st:=lK) Fy Fz FD
 refine⟨PySem.W.fnOf "law" "law" (aJ lK) (aC lK) (ag lK) .none Cj Ck Cm BI xv Cn,fun s v=> .of_eq rfl,fun base _ _=>?_⟩
 have RC:=qz (P:=l.prog) (w:=w) (base:=base) Nm T.toTxt
 have RD:=tZ Np T.toTxt RC
 have NS:=wO (P:=l.prog) (w:=w) (base:=base) Nq T.toTxt
 have RE:=wY (P:=l.prog) (w:=w) (base:=base) Nr T.toTxt
 have RF:=wQ (P:=l.prog) (w:=w) (base:=base) Nt T.toTxt
 have RG:=t4 Nu T.toTxt NS
 have RH:=y7 (P:=l.prog) (w:=w) (base:=base) Nv T.toTxt
 have RK:=DS Nw T.toTxt RH
 have RL:=DT Nx T.toTxt RD
 have RM:=wV (P:=l.prog) (w:=w) (base:=base) Ny T.toTxt
 have RN:=wU (P:=l.prog) (w:=w) (base:=base) NA T.toTxt
 have RO:=y9 Nz T.toTxt NS RM RN
 have RP:=t6 NB T.toTxt RF RE RG RK RL RO
 have TG:D7 K mg KC:=⟨T.jF,T.ck⟩
 have NT:=wZ (P:=l.prog) (w:=w) (base:=base) NC T
 have RQ:=ub ND T NT
 have RS:=nN NF T RQ
 have RT:=qF (P:=l.prog) (w:=w) (base:=base) NG T
 have RU:=zh NH T RP
 have RW:=zf (P:=l.prog) (w:=w) (base:=base) NI T
 have RX:=xf NJ T RU NT RS RT RW
 have NU:=zu (P:=l.prog) (w:=w) (base:=base) NK TG
 have RY:=ui (P:=l.prog) (w:=w) (base:=base) NL TG
 have RZ:=qK NM T NU RY
 have R3:=xt (P:=l.prog) (w:=w) (base:=base) NN T
 have R4:=uo (P:=l.prog) (w:=w) (base:=base) NO T
 have R5:=qM (P:=l.prog) (w:=w) (base:=base) NP T
 have R6:=Ef NQ T R3 R4 R5
 have R7:=qN (P:=l.prog) (w:=w) (base:=base) NR T
 exact Eh RB T NU RZ R6 RX R7
theorem walk{l:PySem.W.OpenLaw}{q:Program}{loose:List Str}{XP:(Str→Option Value)→Heap→Prop}{YP:World→Heap→Prop}{d:DefRec}{K:Params→PySem.W.Frag}(hn:l.most=some 63)(Hd:d.params.defaults=[])
  (hY:∀(w:World) (h:Heap),YP w h→(K w.params).In h)
  (F:∀(w:World) (mg:Str→Option Value) (fa:Addr) (h:Heap),(K w.params).In h→h.Ns mainGlobals mg→mg d.name=some (.ref fa)→
   ∃fd:FuncData,(∀(s:Shared) (u:Value),BindsTo s fd ⟨[u],[]⟩ [("_law_script",u)])∧∀base:Heap,(K w.params).In base→base.Ns mainGlobals mg→fO l.prog w (K w.params) mg base qb 7 fa fd ["_law_script"] (sC (K w.params))):
  PySem.W.WalkO q loose XP YP l.row.toRowW d [] (fun f vs=>PySem.call f vs):=
 L2.yy (n:=63) (k:=7) (x:="_law_script") (CX:=fun _=>qb) (sp:=fun w=>sC (K w.params)) hn (by decide) Hd ⟨rfl,by decide,by decide⟩ hY F (fun _ _ a ns hl _ hS=>⟨a,ns,rfl,hS,hl,fun _=>rfl⟩) fun _ _ _ _ _ z=>z
end Qj
open PySem PySem.W PyProof.Rows
namespace PySem.W.Fast
def tw10780556961950084882:=True
def tw2828834390809657920:=True
def tw15399150109634374396:=True
def tw16031653424728818583:=True
def tw4367218512775299353:=True
def tw15460762193945796678:=True
def tw6572216360789832068:=True
def tw6233545638136923518:=True
def tw16673146656070531858:=True
def tw9114686179193936876:=True
def tw6944828088412661005:=True
def tw4018490500078699676:=True
def tw12554107711680721713:=True
def tw11104830537483112995:=True
def tw1249632468959989755:=True
def tw8577350741987146535:=True
def tw12379564586674694320:=True
def tw14886774253298488840:=True
def tw8568206843340671239:=True
def tw655716674087042607:=True
def tw14033344563084833757:=True
def tw16930430759060619644:=True
def tw12782793143045832531:=True
def tw14186874052944849710:=True
def tw18160374404582082021:=True
def tw6407004014821494567:=True
def tw3268106742003772564:=True
def tw1725251829629870267:=True
def tw14116168292030996540:=True
def tw6127615170446608693:=True
def tw15496072602160478222:=True
def tw11591483780809451417:=True
def tw3250616963987080022:=True
def tw16535155405617918171:=True
def tw10802275396004767243:=True
def tw16517093009911440124:=True
def tw2013519431426701397:=True
def tw8213177965441267561:=True
def tw8244711514397228717:=True
def tw15498273343640404955:=True
def tw11811448054566626720:=True
def tw18020040433965393710:=True
def tw15770173238211816909:=True
def tw16482029449836975783:=True
def tw10656308942926102423:=True
def tw9626545255474211809:=True
def tw7040843559316045035:=True
def tw12220950448600553895:=True
def tw11607876332159726497:=True
def tw8725065254509894996:=True
def tw12804523852272951623:=True
def tw15465510178500260422:=True
def tw15980810666960002208:=True
def tw1962569664199286582:=True
def tw13495298739033854307:=True
def tw12601667771896902198:=True
def tw4805503975150832002:=True
def tw6049809874270912926:=True
def tw2886150142863263121:=True
def tw10424488278996761827:=True
def tw13487302525183602591:=True
def tw15890000412897793116:=True
def tw7057446268852887750:=True
def tw3101192355125878241:=True
def tw18229223343438278949:=True
def tw18407307681929966713:=True
def tw8188378162625316142:=True
def tw13697908380164223569:=True
def tw12876889214426171772:=True
def tw7129054850105727536:=True
def tw5397325765552276111:=True
def tw14704022583255238001:=True
def tw7612951137787758046:=True
def tw16203213922445799768:=True
def tw13769525396205427242:=True
def tw17647034426043227517:=True
def tw3201964454752726636:=True
def tw290582376453143366:=True
def tw12341539380809720206:=True
def tw15261215591933454673:=True
def tw14421048511869152606:=True
def tw477269255882406332:=True
def tw18270770962469231695:=True
def tw665960438933313900:=True
def tw11650257809132380670:=True
def tw10152688737654221666:=True
def tw5887298182179612607:=True
def tw10911108391647941873:=True
def tw12572889065693321470:=True
def tw8856353773958307449:=True
def tw14822884939604176208:=True
def tw5154707024622823060:=True
def tw7356353567102618567:=True
def tw7181897867653433596:=True
def tw18228567807199014657:=True
def tw1446131231188929898:=True
def tw1087318844769420162:=True
def tw4347421816007599974:=True
def tw375587489501218573:=True
def tw18258720303774642511:=True
def tw859593397944620517:=True
def tw18335734016110919712:=True
def tw11247326946450597541:=True
def tw18123247112418113648:=True
def tw13654745064912970097:=True
def tw685552225310633014:=True
def tw5113697884468288357:=True
def tw2266069190436048709:=True
def tw12742350600328777996:=True
def tw10630756187779917540:=True
def tw10249295272438723147:=True
def tw2472336446088792692:=True
def tw4994400041273404805:=True
def tw8386259592752434514:=True
def tw12907354602129359351:=True
def tw462955741184385653:=True
def tw2302063063053492745:=True
def tw13961215132690041669:=True
def tw2153383357092583928:=True
def tw17299847641100175104:=True
def tw9257734580125571283:=True
def tw14574108024599054808:=True
def tw5074917456153470122:=True
def tw1741604099718939625:=True
def tw3352364366592323850:=True
def tw10878663849664699900:=True
end PySem.W.Fast
set_option maxRecDepth 100000 in
set_option maxHeartbeats 0 in
theorem PySem.Challenge.cw_balancehall_k30_least_told_holds : PySem.Challenge.rw_balancehall_k30_least_told.Holds := by
 w_on;o_law;k_head;(case hw=>w_witness2)
 k_fill
 refine Qj.walk (l:=PySem.Challenge.rw_balancehall_k30_least_told) rfl rfl (fun w h Y=>PySem.W.kIn_of Y) ?F
 case F=>
  intro w mg fa h KX G He
  refine' Qj.all_mk KX G He ?Ro ?Rp ?Rq ?EB ?zP ?zQ ?zR ?EC ?zS ?zT ?zU ?ED ?zV ?zW ?zX ?EE ?EF ?EG ?EH ?EI ?EJ ?EK ?EL ?EM ?EN ?EO ?ES ?zY ?zZ ?xw ?ET ?EU ?z4 ?z5 ?xx ?EV ?EW ?z6 ?z8 ?xy ?EX ?EY ?z9 ?Aa ?xA ?EZ ?E1 ?Ab ?Ac ?xB ?E2 ?E3 ?Ad ?Ae ?xC ?E4 ?E5 ?Af ?Ag ?xD ?E6 ?Ah ?Ai ?Aj ?E7 ?E8 ?E9 ?Fb ?Fc ?Fd ?Fe ?Ak ?Al ?xE ?Ff ?Fg ?Am ?An ?xF ?Fh ?Fi ?Ao ?Ap ?xG ?Fj ?Aq ?As ?Au ?Fl ?Av ?Aw ?Ax ?Fm ?Ay ?Az ?AA ?Fn ?AB ?AD ?AE ?Fp ?AF ?AG ?AH ?Fq ?AI ?AJ ?AK ?Fs ?AL ?AM ?AN ?Ft ?AO ?AQ ?AR ?Fu ?AS ?AU ?AV ?Fv ?AW ?AX ?AY ?Fw ?AZ ?A1 ?A2 ?Fx ?Fy ?Fz ?FD ?FE ?FG ?FH ?FI ?FJ ?FK ?FL ?FN ?FO ?FP ?FQ ?FR ?FT ?FU ?FV ?FW ?FX ?FY ?Rr ?Rt ?Ru ?Rv ?Rw ?Rx ?Ry ?Rz ?DX ?ze ?RA ?xH ?qO ?xI ?nU ?xJ ?xK ?gD ?xM ?lh ?xN ?qP ?fI ?xO ?xP
  (case Ro=>k_is)
  (case Rp=>k_is)
  (case Rq=>k_is)
  (case EB=>k_is)
  (case zP=>k_is)
  (case zQ=>k_is)
  (case zR=>k_is)
  (case EC=>k_is)
  (case zS=>k_is)
  (case zT=>k_is)
  (case zU=>k_is)
  (case ED=>k_is)
  (case zV=>k_is)
  (case zW=>k_is)
  (case zX=>k_is)
  (case EE=>k_is)
  (case EF=>k_is)
  (case EG=>k_is)
  (case EH=>k_is)
  (case EI=>k_is)
  (case EJ=>k_is)
  (case EK=>k_is)
  (case EL=>k_is)
  (case EM=>k_is)
  (case EN=>k_is)
  (case EO=>k_is)
  (case ES=>k_is)
  (case zY=>k_is)
  (case zZ=>k_is)
  (case xw=>k_is)
  (case ET=>k_is)
  (case EU=>k_is)
  (case z4=>k_is)
  (case z5=>k_is)
  (case xx=>k_is)
  (case EV=>k_is)
  (case EW=>k_is)
  (case z6=>k_is)
  (case z8=>k_is)
  (case xy=>k_is)
  (case EX=>k_is)
  (case EY=>k_is)
  (case z9=>k_is)
  (case Aa=>k_is)
  (case xA=>k_is)
  (case EZ=>k_is)
  (case E1=>k_is)
  (case Ab=>k_is)
  (case Ac=>k_is)
  (case xB=>k_is)
  (case E2=>k_is)
  (case E3=>k_is)
  (case Ad=>k_is)
  (case Ae=>k_is)
  (case xC=>k_is)
  (case E4=>k_is)
  (case E5=>k_is)
  (case Af=>k_is)
  (case Ag=>k_is)
  (case xD=>k_is)
  (case E6=>k_is)
  (case Ah=>k_is)
  (case Ai=>k_is)
  (case Aj=>k_is)
  (case E7=>k_is)
  (case E8=>k_is)
  (case E9=>k_is)
  (case Fb=>k_is)
  (case Fc=>k_is)
  (case Fd=>k_is)
  (case Fe=>k_is)
  (case Ak=>k_is)
  (case Al=>k_is)
  (case xE=>k_is)
  (case Ff=>k_is)
  (case Fg=>k_is)
  (case Am=>k_is)
  (case An=>k_is)
  (case xF=>k_is)
  (case Fh=>k_is)
  (case Fi=>k_is)
  (case Ao=>k_is)
  (case Ap=>k_is)
  (case xG=>k_is)
  (case Fj=>k_is)
  (case Aq=>k_is)
  (case As=>k_is)
  (case Au=>k_is)
  (case Fl=>k_is)
  (case Av=>k_is)
  (case Aw=>k_is)
  (case Ax=>k_is)
  (case Fm=>k_is)
  (case Ay=>k_is)
  (case Az=>k_is)
  (case AA=>k_is)
  (case Fn=>k_is)
  (case AB=>k_is)
  (case AD=>k_is)
  (case AE=>k_is)
  (case Fp=>k_is)
  (case AF=>k_is)
  (case AG=>k_is)
  (case AH=>k_is)
  (case Fq=>k_is)
  (case AI=>k_is)
  (case AJ=>k_is)
  (case AK=>k_is)
  (case Fs=>k_is)
  (case AL=>k_is)
  (case AM=>k_is)
  (case AN=>k_is)
  (case Ft=>k_is)
  (case AO=>k_is)
  (case AQ=>k_is)
  (case AR=>k_is)
  (case Fu=>k_is)
  (case AS=>k_is)
  (case AU=>k_is)
  (case AV=>k_is)
  (case Fv=>k_is)
  (case AW=>k_is)
  (case AX=>k_is)
  (case AY=>k_is)
  (case Fw=>k_is)
  (case AZ=>k_is)
  (case A1=>k_is)
  (case A2=>k_is)
  (case Fx=>k_is)
  (case Fy=>k_is)
  (case Fz=>k_is)
  (case FD=>k_is)
  (case FE=>k_is)
  (case FG=>k_is)
  (case FH=>k_is)
  (case FI=>k_is)
  (case FJ=>k_is)
  (case FK=>k_is)
  (case FL=>k_is)
  (case FN=>k_is)
  (case FO=>k_is)
  (case FP=>k_is)
  (case FQ=>k_is)
  (case FR=>k_is)
  (case FT=>k_is)
  (case FU=>k_is)
  (case FV=>k_is)
  (case FW=>k_is)
  (case FX=>k_is)
  (case FY=>k_is)
  (case Rr=>k_is)
  (case Rt=>k_is)
  (case Ru=>k_is)
  (case Rv=>k_is)
  (case Rw=>k_is)
  (case Rx=>k_is)
  (case Ry=>k_is)
  (case Rz=>k_is)
  (case DX=>k_is)
  (case ze=>k_is)
  (case RA=>k_is)
  (case xH=>k_is)
  (case qO=>k_is)
  (case xI=>k_is)
  (case nU=>k_is)
  (case xJ=>k_is)
  (case xK=>k_is)
  (case gD=>k_is)
  (case xM=>k_is)
  (case lh=>k_is)
  (case xN=>k_is)
  (case qP=>k_is)
  (case fI=>k_is)
  (case xO=>k_is)
  (case xP=>k_is)
