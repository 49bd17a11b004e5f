import PyProof.Rows.All
import Wide.All
import OpenK.AllK
import Wide.FinOn
import Lean
import PyProof.EqAt
import PyProof.EqKinds
import PyProof.TupleCall
import PySem.Challenge.RW_balancehall_k45_whole_change_texts_by_si
set_option Elab.async false
set_option linter.all false
set_option maxRecDepth 100000
namespace L2
open PySem PySem.Spec PyProof.Rows
abbrev Key:=Sum Int Str
def mY:Key→Value→Bool
 | .inl k,v=>Value.isInt k v
 | .inr x,v=>Value.isStrOf x v
def O2(w:World):Key→Int
 | .inl k=>hashInt k
 | .inr x=>hashStr w x
theorem b4:∀{k:Key} {v:Value},mY k v=true→(∃i t,k=Sum.inl i∧v=Value.int i t)∨(∃x t,k=Sum.inr x∧v=Value.str x t)
 | .inl i,v,h=>by
   obtain⟨t,e⟩:=Value.isInt_shape (k:=i) (v:=v) h
   exact .inl ⟨i,t,rfl,e⟩
 | .inr x,v,h=>by
   obtain⟨t,e⟩:=Value.isStrOf_shape (x:=x) (v:=v) h
   exact .inr ⟨x,t,rfl,e⟩
theorem x8(i:Int)(t:Tok):mY (.inl i) (.int i t)=true:=by simp [mY,Value.isInt]
theorem x9(x:Str)(t:Tok):mY (.inr x) (.str x t)=true:=by simp [mY,Value.isStrOf]
theorem FV(a b:Int):decide ((Sum.inl a:Key)=Sum.inl b)=(a==b):=by
 by_cases e:a=b
 ·subst e;simp
 ·have h:¬(Sum.inl a:Key)=Sum.inl b:=fun q=>e (Sum.inl.inj q)
  rw[decide_eq_false h]
  exact(beq_eq_false_iff_ne.mpr e).symm
theorem FW(a b:Str):decide ((Sum.inr a:Key)=Sum.inr b)=decide (a=b):=by
 by_cases e:a=b
 ·subst e;simp
 ·have h:¬(Sum.inr a:Key)=Sum.inr b:=fun q=>e (Sum.inr.inj q)
  rw[decide_eq_false h,decide_eq_false e]
theorem FX(a:Int)(b:Str):decide ((Sum.inl a:Key)=Sum.inr b)=false:=decide_eq_false (fun q=>nomatch q)
theorem FY(a:Str)(b:Int):decide ((Sum.inr a:Key)=Sum.inl b)=false:=decide_eq_false (fun q=>nomatch q)
def bG(prog:Program)(w:World):PySem.KeyKind prog w Key where
 is:=mY
 hash:=O2 w
 inj:=fun v a b ha hb=>by
  rcases b4 ha with ⟨i,t,rfl,rfl⟩ | ⟨x,t,rfl,rfl⟩
  ·rcases b4 hb with ⟨j,u,rfl,e⟩ | ⟨y,u,rfl,e⟩
   ·injection e with e1 _;rw[e1]
   ·exact nomatch e
  ·rcases b4 hb with ⟨j,u,rfl,e⟩ | ⟨y,u,rfl,e⟩
   ·exact nomatch e
   ·injection e with e1 _;rw[e1]
 byValue:=fun k v h=>by
  rcases b4 h with ⟨i,t,rfl,rfl⟩ | ⟨x,t,rfl,rfl⟩<;>rfl
 pyHash:=fun hv h=>by
  rcases b4 hv with ⟨i,t,rfl,rfl⟩ | ⟨x,t,rfl,rfl⟩
  ·exact wpAny_pyHash_int h
  ·exact wpAny_pyHash_str h
 eqBool:=fun hu hv h=>by
  rcases b4 hu with ⟨i,t,rfl,rfl⟩ | ⟨x,t,rfl,rfl⟩
  ·rcases b4 hv with ⟨j,u,rfl,rfl⟩ | ⟨y,u,rfl,rfl⟩
   ·rw[FV] at h;exact wpAny_eqBool_int h
   ·rw[FX] at h;exact SeqAt.EqAt.int_str i t y u _ _ _ _ h
  ·rcases b4 hv with ⟨j,u,rfl,rfl⟩ | ⟨y,u,rfl,rfl⟩
   ·rw[FY] at h;exact SeqAt.EqAt.str_int x t j u _ _ _ _ h
   ·rw[FW] at h;exact wpAny_eqBool_str h
 «strs» :=fun k x t v h=>by
  rcases b4 h with ⟨i,u,rfl,e⟩ | ⟨y,u,rfl,e⟩
  ·exact nomatch e
  ·injection e with e1 _
   subst e1
   cases v<;>rfl
theorem u6(prog:Program)(w:World)(k:Key)(v:Value):(bG prog w).is k v=mY k v:=rfl
theorem sk(prog:Program)(w:World)(i:Int)(t:Tok):(bG prog w).is (.inl i) (.int i t)=true:=x8 i t
theorem sr(prog:Program)(w:World)(x:Str)(t:Tok):(bG prog w).is (.inr x) (.str x t)=true:=x9 x t
end L2
namespace L2
open PySem PySem.Spec PyProof.Rows
inductive V where
 |cn|bl (b:Bool) |int (i:Int) |str (x:Str) |u7 (b:Array UInt8) |EG (b:UInt64) |ref (a:Addr) |ty (n:String)
 deriving DecidableEq
def RelV:V→Value→Prop
 | .cn,u=>u=Value.none
 | .bl b,u=>u=Value.bool b
 | .int i,u=>∃t,u=Value.int i t
 | .str x,u=>∃t,u=Value.str x t
 | .u7 b,u=>∃t,u=Value.bytes b t
 | .EG b,u=>∃t,u=Value.float b t
 | .ref a,u=>u=Value.ref a
 | .ty n,u=>u=Value.type n
abbrev Vals:List V→List Value→Prop:=Paired RelV
theorem Vals.length{xs:List V}{us:List Value}(r:Vals xs us):xs.length=us.length:=Paired.length r
theorem Vals.get:∀{xs:List V} {us:List Value} {i:Nat} {x:V},Vals xs us→xs[i]? =some x→∃u,us[i]? =some u∧RelV x u
 |_,_,_,_, .nil,e=>by simp at e
 |_,_,0,_, .cons r _,e=>by simp at e;subst e;exact⟨_,rfl,r⟩
 |_,_,i+1,x, .cons _ t,e=>by
  obtain⟨u,h1,h2⟩:=Vals.get (i:=i) (x:=x) t (by simpa using e)
  exact⟨u,by simpa using h1,h2⟩
theorem Vals.append:∀{xs ys:List V} {us ws:List Value},Vals xs us→Vals ys ws→Vals (xs++ys) (us++ws)
 |_,_,_,_, .nil,s=>s
 |_,_,_,_, .cons r t,s=> .cons r (Vals.append t s)
theorem Vals.take:∀{xs:List V} {us:List Value} (n:Nat),Vals xs us→Vals (xs.take n) (us.take n)
 |_,_,0,_=> .nil
 |_,_,_+1, .nil=> .nil
 |_,_,n+1, .cons r t=> .cons r (Vals.take n t)
theorem Vals.drop:∀{xs:List V} {us:List Value} (n:Nat),Vals xs us→Vals (xs.drop n) (us.drop n)
 |_,_,0,r=>r
 |_,_,_+1, .nil=> .nil
 |_,_,n+1, .cons _ t=>Vals.drop n t
def fK:Option V→Option Value→Prop
 |some v,some u=>RelV v u
 |none,none=>True
 |_,_=>False
def KV{κ:Type}:List (κ×V)→List (κ×Value)→Prop:=Paired fun (p:κ×V) (q:κ×Value)=>p.1=q.1∧RelV p.2 q.2
def kV:Key→V
 | .inl i=> .int i
 | .inr x=> .str x
inductive HO where
 |lst (xs:List V)
 |tup (xs:List V)
 |dK (kvs:List (Key×V)) |dT (kvs:List (List Key×V))
 |set (S:Int→Bool) (n:Nat)
 |ins (C dx:Addr) (fs:List (Str×V))
 |own (x:Addr)
 |xd (fs:List (Str×V))
 |met (f x:Addr)
 |O3 (lo hi:Int)
 |kR (o:Obj) (u:HO)
 |EH (ps:Array Value)
 |ext (φ:Heap→Prop)
abbrev Hp:=Addr→Option HO
def upd(H:Hp)(a:Addr)(o:HO):Hp:=fun b=>if b=a then some o else H b
theorem ag{H:Hp}{a:Addr}{o:HO}:upd H a o a=some o:=by unfold upd;rw[if_pos rfl]
theorem aj{H:Hp}{a b:Addr}{o:HO}(h:b≠a):upd H a o b=H b:=by unfold upd;rw[if_neg h]
theorem Cy{H:Hp}{a:Addr}{o u:HO}:upd (upd H a o) a u=upd H a u:=by
 funext b;unfold upd;split<;>rfl
theorem mZ{H:Hp}{a b:Addr}{o u:HO}(h:H a=some o)(h':H b=some u)(d:o≠u):a≠b:=by
 intro e;subst e;rw[h] at h';exact d (Option.some.inj h')
theorem ai{H:Hp}{a b:Addr}{o:HO}(h:H a=some o)(h':H b=none):a≠b:=by
 intro e;subst e;rw[h] at h';cases h'
section
variable (P:Program)(w:World)
def bT(H:Hp)(h:Heap)(a:Addr):HO→Prop
 | .lst xs=>xs.length≤sizeLine∧∃(its:List Value) (n:Nat),Vals xs its∧h.get? a=some { cls:= .type "list",data:= .seq its.toArray n }
 | .tup xs=>xs.length≤sizeLine∧∃its:List Value,Vals xs its∧IsTup h a its.toArray
 | .dK kvs=>kvs.length≤sizeLine∧(a==sysModules)=false∧∃vs,KV kvs vs∧h.DictOf (bG P w) a vs
 | .dT kvs=>kvs.length≤sizeLine∧(a==sysModules)=false∧∃xs:List (List Key×Addr×Value),
   Paired (fun (p:List Key×V) (q:List Key×Addr×Value)=>p.1=q.1∧H q.2.1=some (.tup (p.1.map kV))∧RelV p.2 q.2.2) kvs xs∧
   ∃o es ep,h.get? a=some o∧o.ExactDict∧o.data= .dict es ep∧es.toList=xs.map (entryOfKey (tupleKind (bG P w)))∧(xs.map (·.1)).Nodup
 | .set S n=>h.SetOf (intKind P w) a S n
 | .ins C dx fs=>H dx=some (.own a)∧fs.length≤1000∧dx≠a∧h.get? a=some (PySem.W.instObj C dx)∧
   ∃mA,h.Ns1 dx mA∧(∀f,fK (fs.lookup f) (mA f))∧PySem.Within mA (fs.map (·.1))
 | .own _=>∃o,h.get? a=some o
 | .xd fs=>∃mA,h.Ns1 a mA∧∀f,fK (fs.lookup f) (mA f)
 | .O3 lo hi=>∃t u v,h.get? a=some { cls:= .type "range",data:= .fields #[.int lo t, .int hi u, .int 1 v] }
 | .kR o u=>h.get? a=some o∧bT H h a u
 | .EH ps=>h.get? a=some { cls:= .none,data:= .fields ps }
 | .met f x=>h.get? a=some (PySem.W.methodObj (.ref f) (.ref x))
 | .ext φ=>φ h∧(∃o,h.get? a=some o)∧∀h1 h2:Heap,φ h1→(∀o,h1.get? a=some o→h2.get? a=some o)→φ h2
def iq(H:Hp)(h:Heap):Prop:=∀a o,H a=some o→bT P w H h a o
end
section
variable {P:Program}{w:World}{H H':Hp}{h h':Heap}{a:Addr}{o:HO}
theorem bT.lt(x:bT P w H h a o):a<h.objs.size:=by
 cases o with
 |lst xs=>obtain⟨_,_,_,_,e⟩:=x;exact Heap.lt_size e
 |tup xs=>obtain⟨_,_,_,p⟩:=x;exact p.lt
 |dK kvs=>obtain⟨_,_,_,_,o,_,_,e,_⟩:=x;exact Heap.lt_size e
 |dT kvs=>obtain⟨_,_,_,_,o,_,_,e,_⟩:=x;exact Heap.lt_size e
 |set S n=>obtain⟨o,_,_,_,e,_⟩:=x;exact Heap.lt_size e
 |ins C dx fs=>obtain⟨_,_,_,e,_⟩:=x;exact Heap.lt_size e
 |own y=>obtain⟨_,e⟩:=x;exact Heap.lt_size e
 |xd fs=>obtain⟨_,⟨_,_,_,e,_⟩,_⟩:=x;exact Heap.lt_size e
 |O3 lo hi=>obtain⟨_,_,_,e⟩:=x;exact Heap.lt_size e
 |kR ob u=>obtain⟨e,_⟩:=x;exact Heap.lt_size e
 |EH ps=>exact Heap.lt_size (show h.get? a=some _ from x)
 |met f y=>exact Heap.lt_size (show h.get? a=some _ from x)
 |ext φ=>obtain⟨_,⟨_,e⟩,_⟩:=x;exact Heap.lt_size e
theorem Paired.FZ{α β:Type}{F G:α→β→Prop}:∀{l₁:List α} {l₂:List β},Paired F l₁ l₂→(∀a b,F a b→G a b)→Paired G l₁ l₂
 |_,_, .nil,_=> .nil
 |_,_, .cons r t,f=> .cons (f _ _ r) (Paired.FZ t f)
theorem bT.qh(x:bT P w H h a o)(k:∀b u,(b=a∨H b=some (.own a))→h.get? b=some u→h'.get? b=some u)
  (ho:∀b,H b=some (.own a)→H' b=some (.own a)) (ht:∀b xs,H b=some (.tup xs)→H' b=some (.tup xs)):bT P w H' h' a o:=by
 induction o with
 |lst xs=>obtain⟨z,its,n,r,e⟩:=x;exact⟨z,its,n,r,k _ _ (.inl rfl) e⟩
 |tup xs=>obtain⟨z,its,r,ob,e,c⟩:=x;exact⟨z,its,r,ob,k _ _ (.inl rfl) e,c⟩
 |dK kvs=>obtain⟨z,y,vs,r,ob,es,ep,e,c⟩:=x;exact⟨z,y,vs,r,ob,es,ep,k _ _ (.inl rfl) e,c⟩
 |dT kvs=>
  obtain⟨z,y,xs,r,ob,es,ep,e,c⟩:=x
  exact⟨z,y,xs,Paired.FZ r fun p q z=>⟨z.1,ht _ _ z.2.1,z.2.2⟩,ob,es,ep,k _ _ (.inl rfl) e,c⟩
 |set S n=>obtain⟨ob,es,ep,t,e,c⟩:=x;exact⟨ob,es,ep,t,k _ _ (.inl rfl) e,c⟩
 |ins C dx fs=>
  obtain⟨d,z,ne,e,mA,⟨od,es,ep,e2,c⟩,r⟩:=x
  exact⟨ho _ d,z,ne,k _ _ (.inl rfl) e,mA,⟨od,es,ep,k _ _ (.inr d) e2,c⟩,r⟩
 |own y=>obtain⟨ob,e⟩:=x;exact⟨ob,k _ _ (.inl rfl) e⟩
 |xd fs=>obtain⟨mA,⟨od,es,ep,e,c⟩,r⟩:=x;exact⟨mA,⟨od,es,ep,k _ _ (.inl rfl) e,c⟩,r⟩
 |O3 lo hi=>obtain⟨t,u,v,e⟩:=x;exact⟨t,u,v,k _ _ (.inl rfl) e⟩
 |kR ob u ih=>obtain⟨e,q⟩:=x;exact⟨k _ _ (.inl rfl) e,ih q⟩
 |EH ps=>
  have e:h.get? a=some { cls:= .none,data:= .fields ps }:=x
  show h'.get? a=some { cls:= .none,data:= .fields ps }
  exact k a _ (.inl rfl) e
 |met f y=>
  have e:h.get? a=some (PySem.W.methodObj (.ref f) (.ref y)):=x
  show h'.get? a=some (PySem.W.methodObj (.ref f) (.ref y))
  exact k a _ (.inl rfl) e
 |ext φ=>obtain⟨p,⟨o,e⟩,st⟩:=x;exact⟨st _ _ p fun o q=>k _ _ (.inl rfl) q,⟨o,k _ _ (.inl rfl) e⟩,st⟩
theorem iq.lt(x:iq P w H h)(e:H a=some o):a<h.objs.size:=(x a o e).lt
theorem iq.fresh(x:iq P w H h)(e:h.objs.size≤a):H a=none:=by
 cases q:H a with
 |none=>rfl
 |some u=>exact absurd (Nat.lt_of_lt_of_le (x.lt q) e) (Nat.lt_irrefl _)
theorem iq.kept(x:iq P w H h)(k:∀b u,h.get? b=some u→h'.get? b=some u):iq P w H h':=fun a o e=>
 (x a o e).qh (fun b u _ q=>k b u q) (fun _ q=>q) fun _ _ q=>q
theorem iq.laid(x:iq P w H h)(k:∀b u,h.get? b=some u→h'.get? b=some u)(hp:h.objs.size≤a)(new:bT P w (upd H a o) h' a o):iq P w (upd H a o) h':=fun b u e=>by
 have hn:=x.fresh hp
 by_cases hb:b=a
 ·subst hb;rw[ag] at e;cases e;exact new
 ·rw[aj hb] at e
  exact(x b u e).qh (fun c v _ q=>k c v q) (fun c q=>by rw[aj (ai q hn)];exact q) fun c xs q=>by rw[aj (ai q hn)];exact q
end
def Rd(H:Hp)(a:Addr)(u:HO):Prop:=H a=some u∨∃o,H a=some (.kR o u)
theorem Rd.ok{P:Program}{w:World}{H:Hp}{h:Heap}{a:Addr}{u:HO}(r:Rd H a u)(x:iq P w H h):bT P w H h a u:=by
 rcases r with r| ⟨o,r⟩
 ·exact x a u r
 ·obtain⟨_,q⟩:=x a _ r
  exact q
def Ji:Option HO→Prop
 |some (.lst _)=>True
 |some (.dK _)=>True
 |some (.dT _)=>True
 |some (.set _ _)=>True
 |some (.ins _ _ _)=>True
 |some (.ext _)=>True
 |_=>False
section
variable {P:Program}{w:World}{H:Hp}{h h':Heap}{x e:Addr}{o':HO}
theorem iq.write(ok:iq P w H h)(mu:Ji (H x))(he:e=x∨H e=some (.own x))(k:∀b u,b≠e→h.get? b=some u→h'.get? b=some u)(IP:∃u,h'.get? e=some u)
  (new:bT P w (upd H x o') h' x o'):iq P w (upd H x o') h':=fun b u q=>by
 have Jj:∀c y,H c=some (.own y)→c≠x:=fun c y r z=>by subst z;rw[r] at mu;exact mu
 have O4:∀c xs,H c=some (.tup xs)→c≠x:=fun c xs r z=>by subst z;rw[r] at mu;exact mu
 by_cases hb:b=x
 ·subst hb;rw[ag] at q;cases q;exact new
 ·rw[aj hb] at q
  by_cases F0:b=e
  ·have q':H b=some (.own x):=by
    rcases he with z|z
    ·exact absurd (F0.trans z) hb
    ·rw[F0];exact z
   rw[q] at q';cases q'
   obtain⟨v,hv⟩:=IP
   exact⟨v,by rw[F0];exact hv⟩
  ·refine(ok b u q).qh (fun c v hc r=>k c v ?_ r) (fun c r=>by rw[aj (Jj c b r)];exact r) fun c xs r=>by rw[aj (O4 c xs r)];exact r
   rcases hc with rfl|hc
   ·exact F0
   ·rintro rfl
    rcases he with z|z
    ·exact Jj c b hc z
    ·rw[hc] at z;cases z;exact hb rfl
end
structure Un(fs ex:List Addr)(H H':Hp)(h h':Heap):Prop where
 keep:∀b o,h.get? b=some o→H b=none→b∉fs→b∉ex→h'.get? b=some o
 slot:∀b o,h.get? b=some o→H b=none→b∈fs→b∉ex→∃sl,h'.get? b=some { o with slots:=sl }
 free:∀b o,h.get? b=some o→H b=none→b∉ex→H' b=none
 there:∀b o,h.get? b=some o→b∉ex→∃o',h'.get? b=some o'
 kS:∀b xs,H b=some (.tup xs)→H' b=some (.tup xs)
 kT:∀b o u,H b=some (.kR o u)→H' b=some (.kR o u)
 kU:∀b ps,H b=some (.EH ps)→∃more,H' b=some (.EH (ps++more))
section
variable {fs Cz ex Za:List Addr}{H H1 H2:Hp}{h h1 h2 h':Heap}{a x e:Addr}{o:HO}
theorem Un.any(u:Un fs ex H H1 h h1){b:Addr}{ob:Obj}(q:h.get? b=some ob)(n:H b=none)(hx:b∉ex):∃sl,h1.get? b=some { ob with slots:=sl }:=by
 by_cases hb:b∈fs
 ·exact u.slot b ob q n hb hx
 ·exact⟨ob.slots,u.keep b ob q n hb hx⟩
theorem Un.kept(k:∀b u,h.get? b=some u→h'.get? b=some u):Un fs ex H H h h':=
 ⟨fun b ob q _ _ _=>k b ob q,fun b ob q _ _ _=>⟨ob.slots,k b ob q⟩,fun _ _ _ n _=>n,fun b ob q _=>⟨ob,k b ob q⟩,fun _ _ q=>q,fun _ _ _ q=>q,fun _ ps q=>⟨#[],by rw[q];simp⟩⟩
theorem Un.refl:Un fs ex H H h h:=Un.kept fun _ _ q=>q
theorem Un.laid(k:∀b u,h.get? b=some u→h'.get? b=some u)(hp:h.objs.size≤a)(hn:H a=none):Un fs ex H (upd H a o) h h' where
 keep:=fun b u q _ _ _=>k b u q
 slot:=fun b u q _ _ _=>⟨u.slots,k b u q⟩
 free:=fun b u q n _=>by rw[aj (Nat.ne_of_lt (Nat.lt_of_lt_of_le (Heap.lt_size q) hp))];exact n
 there:=fun b u q _=>⟨u,k b u q⟩
 kS:=fun b xs q=>by rw[aj (ai q hn)];exact q
 kT:=fun b u xs q=>by rw[aj (ai q hn)];exact q
 kU:=fun b ps q=>⟨#[],by rw[aj (ai q hn),q];simp⟩
theorem Un.write(mu:Ji (H x))(he:e=x∨H e=some (.own x))(k:∀b u,b≠e→h.get? b=some u→h'.get? b=some u)(IP:∃u,h'.get? e=some u):Un fs ex H (upd H x o) h h':=by
 have hx:∀b,H b=none→b≠x:=fun b n z=>by subst z;rw[n] at mu;exact mu
 have hb:∀b,H b=none→b≠e:=fun b n z=>by
  subst z
  rcases he with r|r
  ·exact hx b n r
  ·rw[n] at r;cases r
 have hm:∀b u,H b=some u→¬Ji (some u)→b≠x:=fun b u q nm z=>by subst z;rw[q] at mu;exact nm mu
 refine⟨fun b u q n _ _=>k b u (hb b n) q,fun b u q n _ _=>⟨u.slots,k b u (hb b n) q⟩,fun b u q n _=>by rw[aj (hx b n)];exact n,fun b u q _=>?_,
  fun b xs q=>by rw[aj (hm b _ q fun z=>z)];exact q,fun b u xs q=>by rw[aj (hm b _ q fun z=>z)];exact q,fun b ps q=>⟨#[],by rw[aj (hm b _ q fun z=>z),q];simp⟩⟩
 by_cases F0:b=e
 ·subst F0;exact IP
 ·exact⟨u,k b u F0 q⟩
end
def Od(h:Heap)(H:Hp):List Addr:=(List.range h.objs.size).filter fun a=>(H a).isSome
def qi(h:Heap)(H:Hp):Heap:=PySem.W.hideAll h (Od h H)
theorem x'(h:Heap)(H:Hp):(qi h H).objs.size=h.objs.size:=PySem.W.hideAll_size _ _
theorem zJ{h:Heap}{H:Hp}{b:Addr}{o:Obj}(e:h.get? b=some o)(n:H b=none):(qi h H).get? b=some o:=
 PySem.W.hideAll_get _ e fun hm=>by
  have q:(H b).isSome=true:=(List.mem_filter.mp hm).2
  rw[n] at q;simp at q
theorem CA{h:Heap}{H:Hp}{b:Addr}{o:Obj}(e:(qi h H).get? b=some o):h.get? b=some o∧H b=none:=by
 have e':h.get? b=some o:=PySem.W.of_hideAll (Od h H) e
 refine⟨e',?_⟩
 cases q:H b with
 |none=>rfl
 |some x=>
  have hm:b∈Od h H:=List.mem_filter.mpr ⟨List.mem_range.mpr (Heap.lt_size e'),by simp [q]⟩
  have z:(qi h H).get? b=none:=PySem.W.hideAll_none (Od h H) hm
  rw[z] at e;cases e
def CB(g h:Heap)(L:Addr):List (Addr×Obj):=(List.range h.objs.size).filterMap fun a=>if a=L∨(g.get? a).isSome=true then none else (h.get? a).map fun o=>(a,o)
def rest(g h:Heap)(L d:Addr):List (Addr×Obj):=(CB g h L).filter fun p=>decide (p.1≠d)
end L2
namespace L2
open PySem PySem.Spec PyProof.Rows
structure Mod(K:PySem.W.Frag)(mg:Str→Option Value)(base:Heap):Prop where
 CC:K.In base
 glob:base.Ns mainGlobals mg
 blt:∃mb,base.Ns builtinsNs mb∧∀x:Str,x≠"__name__" →mb x=bootBuiltins x
 nolimit:base.NoLimit
structure Cx where
 prog:Program
 w:World
 K:PySem.W.Frag
 mg:Str→Option Value
 base:Heap
 A:Around
 N:List Str
 s₀:Shared
 H₀:Hp
 env:Env
 outer:List Env
 stack:List Env
 ex:List Addr
 fn:Str→Bool
 calm:Bool
 pn:List (Addr×Obj)
 xe:Value→Shared→Prop
def oC(l:List Env):List Addr:=l.filterMap (·.frame)
abbrev Cx.fs(X:Cx):List Addr:=oC X.outer
def O5(sc:Scope)(x:Str):Prop:=sc.names.lookup x=some .local∨sc.names.lookup x=some .cell∨sc.names.lookup x=some .free
def Loc(sc:Scope)(x:Str):Prop:=sc.names.lookup x=some .local∨sc.names.lookup x=some .cell
def Look(env:Env)(h:Heap)(m:Str→Option Value)(x:Str)(u:Value):Prop:=
 (env.kindOf x=some .local∧m x=some u)∨((env.kindOf x=some .cell∨env.kindOf x=some .free)∧∃c,env.cells.lookup x=some c∧h.IsCell c (some u))
structure Cx.Ok(X:Cx):Prop where
 mod:Mod X.K X.mg X.base
 kind:X.env.scope.kind= .function
 glob:X.env.globals=mainGlobals
 blt:X.env.builtins=builtinsNs
 above:X.s₀.heap.objs.size≤X.env.locals
 inj:∀x y c,X.env.cells.lookup x=some c→X.env.cells.lookup y=some c→x=y
 has:∀x,(X.env.kindOf x=some .cell∨X.env.kindOf x=some .free)→∃c,X.env.cells.lookup x=some c
 CD:∀x c,X.fn x=true→X.env.cells.lookup x=some c→X.s₀.heap.objs.size≤c
 hd:X.calm=true→X.A.handled=none
 frames:X.A.frames=some X.stack
 EI:X.stack=X.outer∨(X.stack=X.env::X.outer∧X.env.frame=some X.env.locals)
 IQ:∀b∈X.ex,b≠X.env.locals∧∀x c,X.env.cells.lookup x=some c→c≠b
 bs:∀b o,X.base.get? b=some o→X.s₀.heap.get? b=some o∧X.H₀ b=none
 wJ:X.base.objs.size≤X.s₀.heap.objs.size
 qj:∀b o,X.base.get? b=some o→b∉X.ex
 qk:∀b∈X.ex,b∉X.fs
 ir:X.s₀.heap.FunFrames X.base X.outer
 zv:∀b∈X.fs,X.H₀ b=none
structure Inv(X:Cx)(pins:List (Addr×Obj))(σ:List (Option V))(H:Hp)(s:Shared):Prop where
 ok:X.Ok
 os:s.os=X.s₀.os
 bare:AllBare s.gens
 base:Un X.fs X.ex X.H₀ H X.s₀.heap s.heap
 loc:∃m,s.heap.Ns X.env.locals m∧∀(i:Nat) (x:Str) (v:V),X.N[i]? =some x→σ[i]? =some (some v)→O5 X.env.scope x→∃u,RelV v u∧Look X.env s.heap m x u
 cell:∀x c,X.env.cells.lookup x=some c→∃v,s.heap.IsCell c v
 free:H X.env.locals=none
 eS:∀x c,X.env.cells.lookup x=some c→H c=none
 pin:∀p∈X.pn++pins,s.heap.get? p.1=some p.2∧H p.1=none∧p.1≠X.env.locals∧p.1∉X.fs∧∀v,p.2.data≠ .cell v
 bb:iq X.prog X.w H s.heap
 len:σ.length=X.N.length
section
variable {X:Cx}{pins:List (Addr×Obj)}{σ:List (Option V)}{H H':Hp}{s:Shared}{h':Heap}
theorem Cx.Ok.O6(ok:X.Ok){b:Addr}{o:Obj}(e:X.base.get? b=some o):b∉X.fs:=fun hb=>by
 have:=(ok.ir.mem hb).1
 rw[e] at this;cases this
theorem Inv.bs(I:Inv X pins σ H s):∀b o,X.base.get? b=some o→s.heap.get? b=some o∧H b=none:=fun b o e=>
 ⟨I.base.keep b o (I.ok.bs b o e).1 (I.ok.bs b o e).2 (I.ok.O6 e) (I.ok.qj b o e),I.base.free b o (I.ok.bs b o e).1 (I.ok.bs b o e).2 (I.ok.qj b o e)⟩
theorem Inv.bk(I:Inv X pins σ H s):∀b o,X.base.get? b=some o→s.heap.get? b=some o:=fun b o e=>(I.bs b o e).1
theorem Inv.mod(I:Inv X pins σ H s):Mod X.K X.mg X.base:=I.ok.mod
theorem Inv.fN(I:Inv X pins σ H s):X.K.In s.heap:=I.ok.mod.CC.keeps I.bk
theorem Inv.lt(I:Inv X pins σ H s):X.env.locals<s.heap.objs.size:=let ⟨_,hn,_⟩:=I.loc;hn.lt
theorem Inv.sz(I:Inv X pins σ H s):X.s₀.heap.objs.size≤s.heap.objs.size:=Nat.le_trans I.ok.above (Nat.le_of_lt I.lt)
theorem Inv.O7(I:Inv X pins σ H s){a:Addr}(h:s.heap.objs.size≤a):a∉X.fs:=fun hb=>by
 obtain⟨_,o,ho,_⟩:=I.ok.ir.mem hb
 exact absurd (Nat.lt_of_lt_of_le (Heap.lt_size ho) (Nat.le_trans I.sz h)) (Nat.lt_irrefl _)
theorem Inv.CF(I:Inv X pins σ H s):∀x c,X.env.cells.lookup x=some c→c≠X.env.locals:=fun x c e z=>by
 obtain⟨v,o,ho,hd⟩:=I.cell x c e
 obtain⟨m,⟨o',es,ep,u9,ql,_⟩,_⟩:=I.loc
 rw[z,u9] at ho;cases ho;rw[ql] at hd;cases hd
theorem Inv.ir(I:Inv X pins σ H s):s.heap.FunFrames X.base X.outer:=by
 have all:∀(l:List Env),(∀b∈oC l,b∈X.fs)→X.s₀.heap.FunFrames X.base l→s.heap.FunFrames X.base l:=by
  intro l
  induction l with
  |nil=>intro _ _;trivial
  |cons env r ih=>
   intro hs hl
   obtain⟨hk,⟨L,o,hf,hn,ho,hd⟩,hr⟩:=hl
   have hL:L∈X.fs:=hs L (by unfold oC;rw[List.filterMap_cons,hf];exact List.mem_cons_self)
   obtain⟨sl,e⟩:=I.base.slot L o ho (I.ok.zv L hL) hL fun z=>I.ok.qk L z hL
   exact⟨hk,⟨L,_,hf,hn,e,hd⟩,ih (fun b hb=>hs b (by unfold oC;rw[List.filterMap_cons,hf];exact List.mem_cons_of_mem _ hb)) hr⟩
 exact all X.outer (fun _ hb=>hb) I.ok.ir
theorem Inv.stack(I:Inv X pins σ H s):s.heap.FunFrames X.base X.stack:=by
 rcases I.ok.EI with e| ⟨e,hf⟩
 ·rw[e];exact I.ir
 ·rw[e]
  obtain⟨m,hn,_⟩:=I.loc
  refine .cons (by rw[I.ok.kind];decide) hf hn ?_ I.ir
  exact Heap.get?_none_of_le (Nat.le_trans I.ok.wJ I.ok.above)
theorem Inv.qm(I:Inv X pins σ H s):∀b∈oC X.stack,b∈X.env.locals::X.fs:=fun b hb=>by
 rcases I.ok.EI with e| ⟨e,hf⟩
 ·rw[e] at hb;exact List.mem_cons_of_mem _ hb
 ·rw[e] at hb
  unfold oC at hb
  rw[List.filterMap_cons,hf] at hb
  exact hb
theorem Inv.qo(I:Inv X pins σ H s):∀b∈oC X.stack,H b=none:=fun b hb=>by
 rcases List.mem_cons.mp (I.qm b hb) with e|hb
 ·rw[e];exact I.free
 ·obtain⟨_,o,ho,_⟩:=I.ok.ir.mem hb
  exact I.base.free b o ho (I.ok.zv b hb) fun z=>I.ok.qk b z hb
theorem Inv.step{g':Array GenState}{t':Nat}{d':Drawn}{ch:List Addr}(I:Inv X pins σ H s)
  (zw:∀b∈ch,(b∈X.ex∨X.s₀.heap.objs.size≤b)∧b≠X.env.locals∧(∀x c,X.env.cells.lookup x=some c→c≠b)∧∀p∈X.pn++pins,p.1≠b)
  (keep:∀b o,b≠X.env.locals→b∉X.fs→b∉ch→s.heap.get? b=some o→H b=none→h'.get? b=some o)
  (slot:∀b o,b≠X.env.locals→b∈X.fs→b∉ch→s.heap.get? b=some o→H b=none→∃sl,h'.get? b=some { o with slots:=sl }) (free:∀b o,b∉ch→s.heap.get? b=some o→H b=none→H' b=none)
  (there:∀b o,b∉ch→s.heap.get? b=some o→∃o',h'.get? b=some o')
  (kS:∀b xs,H b=some (.tup xs)→H' b=some (.tup xs)) (kT:∀b o u,H b=some (.kR o u)→H' b=some (.kR o u)) (kU:∀b ps,H b=some (.EH ps)→∃more,H' b=some (.EH (ps++more)))
  (ns:∀m,s.heap.Ns X.env.locals m→h'.Ns X.env.locals m) (bb:iq X.prog X.w H' h') (hg:AllBare g'):
  Inv X pins σ H' { s with heap:=h',gens:=g',drawn:=d',toks:=t' }:=by
 have Vm:∀b o,X.s₀.heap.get? b=some o→b≠X.env.locals:=fun b o e=>Nat.ne_of_lt (Nat.lt_of_lt_of_le (Heap.lt_size e) I.ok.above)
 have Oe:∀b o,X.s₀.heap.get? b=some o→b∉X.ex→b∉ch:=fun b o e hx hb=>by
  rcases (zw b hb).1 with z|z
  ·exact hx z
  ·exact absurd (Nat.lt_of_lt_of_le (Heap.lt_size e) z) (Nat.lt_irrefl _)
 have cellK:∀x c,X.env.cells.lookup x=some c→∀v,s.heap.IsCell c v→h'.IsCell c v:=fun x c e v ⟨o,ho,hd⟩=>by
  have Jk:c∉ch:=fun z=>(zw c z).2.2.1 x c e rfl
  by_cases hc:c∈X.fs
  ·obtain⟨sl,q⟩:=slot c o (I.CF x c e) hc Jk ho (I.eS x c e)
   exact⟨_,q,hd⟩
  ·exact⟨o,keep c o (I.CF x c e) hc Jk ho (I.eS x c e),hd⟩
 refine⟨I.ok,I.os,hg,⟨fun b o e n hb hx=>?_,fun b o e n hb hx=>?_,fun b o e n hx=>?_,fun b o e hx=>?_,fun b xs e=>kS b xs (I.base.kS b xs e),fun b o xs e=>kT b o xs (I.base.kT b o xs e),fun b ps e=>?_⟩,?_,fun x c e=>?_,?_,fun x c e=>?_,fun p hp=>?_,bb,I.len⟩
 ·exact keep b o (Vm b o e) hb (Oe b o e hx) (I.base.keep b o e n hb hx) (I.base.free b o e n hx)
 ·obtain⟨sl,e1⟩:=I.base.slot b o e n hb hx
  obtain⟨Jl,e2⟩:=slot b _ (Vm b o e) hb (Oe b o e hx) e1 (I.base.free b o e n hx)
  exact⟨Jl,e2⟩
 ·obtain⟨o',e1⟩:=I.base.there b o e hx
  exact free b o' (Oe b o e hx) e1 (I.base.free b o e n hx)
 ·obtain⟨o',e1⟩:=I.base.there b o e hx
  exact there b o' (Oe b o e hx) e1
 ·obtain⟨m1,e1⟩:=I.base.kU b ps e
  obtain⟨m2,e2⟩:=kU b _ e1
  exact⟨m1++m2,by rw[e2,Array.append_assoc]⟩
 ·obtain⟨m,hn,hl⟩:=I.loc
  refine⟨m,ns m hn,fun i x v e1 e2 e3=>?_⟩
  obtain⟨u,r,l⟩:=hl i x v e1 e2 e3
  refine⟨u,r,?_⟩
  rcases l with l| ⟨k,c,e,z⟩
  ·exact .inl l
  ·exact .inr ⟨k,c,e,cellK x c e _ z⟩
 ·obtain⟨v,z⟩:=I.cell x c e
  exact⟨v,cellK x c e v z⟩
 ·obtain⟨m,⟨o,_,_,ho,_⟩,_⟩:=I.loc
  exact free _ o (fun z=>(zw _ z).2.1 rfl) ho I.free
 ·obtain⟨v,o,ho,hd⟩:=I.cell x c e
  exact free c o (fun z=>(zw c z).2.2.1 x c e rfl) ho (I.eS x c e)
 ·obtain⟨e,n,ne,nf,d⟩:=I.pin p hp
  have Jk:p.1∉ch:=fun z=>(zw p.1 z).2.2.2 p hp rfl
  exact⟨keep p.1 p.2 ne nf Jk e n,free p.1 p.2 Jk e n,ne,nf,d⟩
theorem Inv.un{t':Nat}(I:Inv X pins σ H s)(u:Un X.fs [] H H' s.heap h')(bb:iq X.prog X.w H' h'):Inv X pins σ H' { s with heap:=h',toks:=t' }:=by
 obtain⟨m,⟨o,es,ep,ho,r⟩,_⟩:=id I.loc
 obtain⟨sl,hL⟩:=u.any ho I.free (by simp)
 exact I.step (g':=s.gens) (d':=s.drawn) (ch:=[]) (fun _ z=>nomatch z) (fun b o _ hb _ e n=>u.keep b o e n hb (by simp)) (fun b o _ hb _ e n=>u.slot b o e n hb (by simp)) (fun b o _ e n=>u.free b o e n (by simp)) (fun b o _ e=>u.there b o e (by simp)) u.kS u.kT u.kU (fun m' hm=>by
  obtain⟨o',Of,Og,u9,r'⟩:=hm
  rw[ho] at u9;cases u9
  exact⟨_,Of,Og,hL,r'⟩) bb I.bare
theorem Inv.call{g':Array GenState}{t':Nat}{d':Drawn}{ch:List Addr}(I:Inv X pins σ H s)(u:Un (oC X.stack) ch H H' s.heap h')(bb:iq X.prog X.w H' h')(hg:AllBare g')
  (zw:∀b∈ch,(b∈X.ex∨X.s₀.heap.objs.size≤b)∧b≠X.env.locals∧(∀x c,X.env.cells.lookup x=some c→c≠b)∧∀p∈X.pn++pins,p.1≠b):
  Inv X pins σ H' { s with heap:=h',gens:=g',drawn:=d',toks:=t' }:=by
 obtain⟨m,⟨o,es,ep,ho,r⟩,_⟩:=id I.loc
 obtain⟨sl,hL⟩:=u.any ho I.free fun z=>(zw _ z).2.1 rfl
 exact I.step (ch:=ch) zw (fun b o hL hb hc e n=>u.keep b o e n (fun z=>(List.mem_cons.mp (I.qm b z)).elim hL hb) hc) (fun b o _ _ hc e n=>u.any e n hc) (fun b o hc e n=>u.free b o e n hc) (fun b o hc e=>u.there b o e hc) u.kS u.kT u.kU (fun m' hm=>by
  obtain⟨o',Of,Og,u9,r'⟩:=hm
  rw[ho] at u9;cases u9
  exact⟨_,Of,Og,hL,r'⟩) bb hg
theorem Inv.turned{t':Nat}{it:Addr}(I:Inv X pins σ H s)(k:∀b o,b≠it→s.heap.get? b=some o→h'.get? b=some o)(hn:H it=none)(hL:it≠X.env.locals)
  (h1:it∈X.ex∨X.s₀.heap.objs.size≤it) (h2:∀x c,X.env.cells.lookup x=some c→c≠it) (h3:∀p∈X.pn++pins,p.1≠it):Inv X pins σ H { s with heap:=h',toks:=t' }:=by
 have Vn:∀b u,H b=some u→b≠it:=fun b u e z=>by rw[z,hn] at e;cases e
 refine I.step (g':=s.gens) (d':=s.drawn) (ch:=[it]) (fun b hb=>?_) (fun b o _ _ hc e _=>k b o (fun z=>hc (by simp [z])) e) (fun b o _ _ hc e _=>⟨o.slots,k b o (fun z=>hc (by simp [z])) e⟩) (fun _ _ _ _ n=>n)
  (fun b o hc e=>⟨o,k b o (fun z=>hc (by simp [z])) e⟩) (fun _ _ e=>e) (fun _ _ _ e=>e) (fun b ps e=>⟨#[],by rw[e];simp⟩) (fun m hm=>?_) (fun b u e=>?_) I.bare
 ·have e:b=it:=by simpa using hb
  subst e
  exact⟨h1,hL,h2,h3⟩
 ·obtain⟨o,es,ep,ho,r⟩:=hm
  exact⟨o,es,ep,k _ o (Ne.symm hL) ho,r⟩
 ·refine(I.bb b u e).qh (fun c v hc q=>k c v ?_ q) (fun _ q=>q) fun _ _ q=>q
  rcases hc with z|z
  ·rw[z];exact Vn b u e
  ·exact Vn c _ z
theorem Inv.tok(I:Inv X pins σ H s)(t:Nat):Inv X pins σ H { s with toks:=t }:=I.un (h':=s.heap) (t':=t) Un.refl I.bb
theorem Inv.kept{t':Nat}(I:Inv X pins σ H s)(k:∀b u,s.heap.get? b=some u→h'.get? b=some u):Inv X pins σ H { s with heap:=h',toks:=t' }:=I.un (Un.kept k) (I.bb.kept k)
theorem Inv.laid{a:Addr}{o:HO}{t':Nat}(I:Inv X pins σ H s)(k:∀b u,s.heap.get? b=some u→h'.get? b=some u)(hp:s.heap.objs.size≤a)(new:bT X.prog X.w (upd H a o) h' a o):
  Inv X pins σ (upd H a o) { s with heap:=h',toks:=t' }:=I.un (Un.laid k hp (I.bb.fresh hp)) (I.bb.laid k hp new)
theorem Inv.write{x e:Addr}{o:HO}{t':Nat}(I:Inv X pins σ H s)(mu:Ji (H x))(he:e=x∨H e=some (.own x))(k:∀b u,b≠e→s.heap.get? b=some u→h'.get? b=some u)(IP:∃u,h'.get? e=some u)
  (new:bT X.prog X.w (upd H x o) h' x o):Inv X pins σ (upd H x o) { s with heap:=h',toks:=t' }:=I.un (Un.write mu he k IP) (I.bb.write mu he k IP new)
theorem Inv.mr{pins':List (Addr×Obj)}(I:Inv X pins σ H s)(h:∀p∈pins',s.heap.get? p.1=some p.2∧H p.1=none∧p.1≠X.env.locals∧p.1∉X.fs∧∀v,p.2.data≠ .cell v):Inv X pins' σ H s:=
 ⟨I.ok,I.os,I.bare,I.base,I.loc,I.cell,I.free,I.eS,fun p hp=>(List.mem_append.mp hp).elim (fun z=>I.pin p (List.mem_append_left _ z)) (h p),I.bb,I.len⟩
theorem m4{N:List Str}(hN:N.Nodup){i j:Nat}{x:Str}(a:N[i]? =some x)(b:N[j]? =some x):i=j:=by
 obtain⟨h1,e1⟩:=List.getElem?_eq_some_iff.mp a
 obtain⟨h2,e2⟩:=List.getElem?_eq_some_iff.mp b
 exact(List.getElem_inj hN).mp (e1.trans e2.symm)
theorem o5{M:Model}{A:Around}{E:Value→Shared→Prop}{i:Nat}{x:Str}{v:V}{u:Value}{Q:Unit→Shared→Prop}(I:Inv X pins σ H s)(hN:X.N.Nodup)(hi:X.N[i]? =some x)(hx:Loc X.env.scope x)(r:RelV v u)
  (h:∀s',Inv X pins (σ.set i (some v)) H s'→(∃a,Heap.SameBut a s.heap s'.heap∧(a=X.env.locals∨X.env.cells.lookup x=some a))→Q () s') (hf:X.fn x=true∨X.env.scope.names.lookup x=some .local:=by first|exact .inl rfl|exact .inr rfl|assumption):wpAny M A (storeName X.env x u) Q E s:=by
 obtain⟨m,hn,hl⟩:=id I.loc
 have F1:(X.env.scope.kind== .class||(X.env.scope.kind== .module&&X.env.locals != X.env.globals))=false:=by rw[I.ok.kind];rfl
 have Vo:i<σ.length:=by rw[I.len];exact(List.getElem?_eq_some_iff.mp hi).1
 have CF:=I.CF
 have tracked:∀{a:Addr} {h':Heap},(∃o,s.heap.get? a=some o∧H a=none)→Heap.SameBut a s.heap h'→iq X.prog X.w H h':=fun {a h'} ha hs b ob e=>by
  obtain⟨_,_,EJ⟩:=ha
  refine(I.bb b ob e).qh (fun c w' hc q=>(hs.2 c ?_).trans q) (fun _ q=>q) fun _ _ q=>q
  rintro rfl
  rcases hc with rfl|hc
  ·rw[EJ] at e;cases e
  ·rw[EJ] at hc;cases hc
 rcases hx with hk|hk
 ·refine wpAny_storeName_local hk hn (fun h' WD hs=>?_) F1
  obtain⟨oL,_,_,Vp,_⟩:=id hn
  refine h _ ⟨I.ok,I.os,I.bare,⟨fun b o e n hb hx=>?_,fun b o e n hb hx=>?_,I.base.free,fun b o e hx=>?_,I.base.kS,I.base.kT,I.base.kU⟩,⟨_,WD,fun j y v' e1 e2 e3=>?_⟩,fun y c e=>?_,I.free,I.eS,fun p hp=>?_,tracked ⟨oL,Vp,I.free⟩ hs,by simpa using I.len⟩ ⟨_,hs, .inl rfl⟩
  ·exact(hs.2 b (Nat.ne_of_lt (Nat.lt_of_lt_of_le (Heap.lt_size e) I.ok.above))).trans (I.base.keep b o e n hb hx)
  ·obtain⟨sl,e1⟩:=I.base.slot b o e n hb hx
   exact⟨sl,(hs.2 b (Nat.ne_of_lt (Nat.lt_of_lt_of_le (Heap.lt_size e) I.ok.above))).trans e1⟩
  ·obtain⟨o',e1⟩:=I.base.there b o e hx
   exact⟨o',(hs.2 b (Nat.ne_of_lt (Nat.lt_of_lt_of_le (Heap.lt_size e) I.ok.above))).trans e1⟩
  ·by_cases hj:j=i
   ·subst hj
    rw[hi] at e1;cases e1
    rw[List.getElem?_set_self Vo] at e2
    cases e2
    exact⟨u,r, .inl ⟨hk,by simp⟩⟩
   ·rw[List.getElem?_set_ne (Ne.symm hj)] at e2
    obtain⟨u',r',q⟩:=hl j y v' e1 e2 e3
    refine⟨u',r',?_⟩
    rcases q with ⟨k,e⟩ | ⟨k,c,e,z⟩
    ·refine .inl ⟨k,?_⟩
     have:y≠x:=fun e=>hj (m4 hN e1 (e▸hi))
     simp [this,e]
    ·exact .inr ⟨k,c,e,z.sameBut hs (CF y c e)⟩
  ·obtain⟨w',z⟩:=I.cell y c e
   exact⟨w',z.sameBut hs (CF y c e)⟩
  ·obtain⟨e,n,ne,nf,d⟩:=I.pin p hp
   exact⟨(hs.2 p.1 ne).trans e,n,ne,nf,d⟩
 ·have O8:X.fn x=true:=by
   rcases hf with z|z
   ·exact z
   ·rw[z] at hk;cases hk
  obtain⟨c,hc⟩:=I.ok.has x (.inl hk)
  obtain⟨w',z⟩:=I.cell x c hc
  refine wpAny_storeName_cell I.ok.kind hk hc z (fun h' Cm hs=>?_)
  obtain⟨oc,Vq,O9⟩:=id z
  refine h { s with heap:=h' } ⟨I.ok,I.os,I.bare,⟨fun b o e n hb hx=>?_,fun b o e n hb hx=>?_,I.base.free,fun b o e hx=>?_,I.base.kS,I.base.kT,I.base.kU⟩,⟨m,hn.sameBut hs (Ne.symm (CF x c hc)),fun j y v' e1 e2 e3=>?_⟩,fun y c' e=>?_,I.free,I.eS,fun p hp=>?_,tracked ⟨oc,Vq,I.eS x c hc⟩ hs,by simpa using I.len⟩ ⟨c,hs, .inr hc⟩
  ·exact(hs.2 b (Nat.ne_of_lt (Nat.lt_of_lt_of_le (Heap.lt_size e) (I.ok.CD x c O8 hc)))).trans (I.base.keep b o e n hb hx)
  ·obtain⟨sl,e1⟩:=I.base.slot b o e n hb hx
   exact⟨sl,(hs.2 b (Nat.ne_of_lt (Nat.lt_of_lt_of_le (Heap.lt_size e) (I.ok.CD x c O8 hc)))).trans e1⟩
  ·obtain⟨o',e1⟩:=I.base.there b o e hx
   exact⟨o',(hs.2 b (Nat.ne_of_lt (Nat.lt_of_lt_of_le (Heap.lt_size e) (I.ok.CD x c O8 hc)))).trans e1⟩
  ·by_cases hj:j=i
   ·subst hj
    rw[hi] at e1;cases e1
    rw[List.getElem?_set_self Vo] at e2
    cases e2
    exact⟨u,r, .inr ⟨.inl hk,c,hc,Cm⟩⟩
   ·rw[List.getElem?_set_ne (Ne.symm hj)] at e2
    obtain⟨u',r',q⟩:=hl j y v' e1 e2 e3
    refine⟨u',r',?_⟩
    rcases q with q| ⟨k,c',e,z'⟩
    ·exact .inl q
    ·refine .inr ⟨k,c',e,z'.sameBut hs ?_⟩
     rintro rfl
     exact hj (m4 hN e1 (I.ok.inj _ _ _ e hc▸hi))
  ·by_cases Oh:c'=c
   ·subst Oh;exact⟨_,Cm⟩
   ·obtain⟨w2,z2⟩:=I.cell y c' e
    exact⟨w2,z2.sameBut hs Oh⟩
  ·obtain⟨e,n,ne,nf,d⟩:=I.pin p hp
   refine⟨(hs.2 p.1 ?_).trans e,n,ne,nf,d⟩
   intro q
   rw[q,Vq] at e
   have q':oc=p.2:=Option.some.inj e
   exact d w' (by rw[←q'];exact O9)
theorem store_ok{M:Model}{A:Around}{E:Value→Shared→Prop}{i:Nat}{x:Str}{v:V}{u:Value}{Q:Unit→Shared→Prop}(I:Inv X pins σ H s)(hN:X.N.Nodup)(hi:X.N[i]? =some x)(hx:Loc X.env.scope x)(r:RelV v u)
  (h:∀s',Inv X pins (σ.set i (some v)) H s'→Q () s') (hf:X.fn x=true∨X.env.scope.names.lookup x=some .local:=by first|exact .inl rfl|exact .inr rfl|assumption):wpAny M A (storeName X.env x u) Q E s:=
 o5 I hN hi hx r (fun s' I' _=>h s' I') hf
theorem Inv.zK{s':Shared}{ch:List Addr}(I:Inv X pins σ H s)(ho:s'.os=s.os)(u:Un (oC X.stack) ch H H' s.heap s'.heap)(bb:iq X.prog X.w H' s'.heap)(hg:AllBare s'.gens)
  (zw:∀b∈ch,(b∈X.ex∨X.s₀.heap.objs.size≤b)∧b≠X.env.locals∧(∀x c,X.env.cells.lookup x=some c→c≠b)∧∀p∈X.pn++pins,p.1≠b):Inv X pins σ H' s':=by
 obtain⟨h',g',d',t',o'⟩:=s'
 have e:o'=s.os:=ho
 subst e
 exact I.call (g':=g') (t':=t') (d':=d') u bb hg zw
end
abbrev XK:=Value→Option Addr→Hp→Prop
abbrev St:=List (Option V)
abbrev VK:=V→Hp→Prop
abbrev TE:=St→Hp→VK→Prop
abbrev TT:=St→Hp→(Bool→Hp→Prop)→Prop
abbrev TA:=St→Hp→(List V→Hp→Prop)→Prop
structure Ends where
 nx:St→Hp→Prop
 rt:VK
 bk:St→Hp→Prop:=fun _ _=>False
 ct:St→Hp→Prop:=fun _ _=>False
abbrev TS:=Ends→St→Hp→Prop
def EP(X:Cx)(pins:List (Addr×Obj))(σ:St)(Q:VK)(u:Value)(s':Shared):Prop:=∃v H',Inv X pins σ H' s'∧RelV v u∧Q v H'
def TP(X:Cx)(pins:List (Addr×Obj))(σ:St)(Q:Bool→Hp→Prop)(b:Bool)(s':Shared):Prop:=∃H',Inv X pins σ H' s'∧Q b H'
def AP(X:Cx)(pins:List (Addr×Obj))(σ:St)(Q:List V→Hp→Prop)(us:List Value)(s':Shared):Prop:=∃vs H',Inv X pins σ H' s'∧Vals vs us∧Q vs H'
def SP(X:Cx)(pins:List (Addr×Obj))(D:Ends)(f:Flow)(s':Shared):Prop:=
 match f with
 | .next=>∃σ' H',Inv X pins σ' H' s'∧D.nx σ' H'
 | .brk=>∃σ' H',Inv X pins σ' H' s'∧D.bk σ' H'
 | .cont=>∃σ' H',Inv X pins σ' H' s'∧D.ct σ' H'
 | .ret u=>∃v σ' H',Inv X pins σ' H' s'∧RelV v u∧D.rt v H'
def PE(X:Cx)(e:Expr)(t:TE):Prop:=
 ∀(pins:List (Addr×Obj)) (s:Shared) (σ:St) (H:Hp) (Q:VK),Inv X pins σ H s→t σ H Q→wpAny (model X.prog X.w) X.A (eval e X.env) (EP X pins σ Q) X.xe s
def PT(X:Cx)(e:Expr)(t:TT):Prop:=
 ∀(pins:List (Addr×Obj)) (s:Shared) (σ:St) (H:Hp) (Q:Bool→Hp→Prop),Inv X pins σ H s→t σ H Q→wpAny (model X.prog X.w) X.A (isTrue e X.env (eval e X.env)) (TP X pins σ Q) X.xe s
def PW(X:Cx)(e:Expr)(t:TT):Prop:=
 ∀(whole:Sem Value) (pins:List (Addr×Obj)) (s:Shared) (σ:St) (H:Hp) (Q:Bool→Hp→Prop),Inv X pins σ H s→t σ H Q→wpAny (model X.prog X.w) X.A (isTrue e X.env whole) (TP X pins σ Q) X.xe s
theorem PW.pt{X:Cx}{e:Expr}{t:TT}(h:PW X e t):PT X e t:=h _
def PA(X:Cx)(es:List Expr)(t:TA):Prop:=
 ∀(pos:Pos) (pins:List (Addr×Obj)) (s:Shared) (σ:St) (H:Hp) (Q:List V→Hp→Prop),Inv X pins σ H s→t σ H Q→wpAny (model X.prog X.w) X.A (spliced (backTo pos (starEach es X.env))) (AP X pins σ Q) X.xe s
def PS(X:Cx)(st:Stmt)(t:TS):Prop:=
 ∀(pins:List (Addr×Obj)) (s:Shared) (σ:St) (H:Hp) (D:Ends),Inv X pins σ H s→t D σ H→wpAny (model X.prog X.w) X.A (exec st X.env) (SP X pins D) X.xe s
def jA(X:Cx)(st:List Stmt)(t:TS):Prop:=
 ∀(pins:List (Addr×Obj)) (s:Shared) (σ:St) (H:Hp) (D:Ends),Inv X pins σ H s→t D σ H→wpAny (model X.prog X.w) X.A (execs st X.env) (SP X pins D) X.xe s
theorem bL{α:Type}{t:Sem α}{Q Q':α→Shared→Prop}{M:Model}{A:Around}{E:Value→Shared→Prop}{s:Shared}(h:wpAny M A t Q E s)(hQ:∀a s,Q a s→Q' a s):wpAny M A t Q' E s:=wpAny_mono h hQ fun _ _ x=>x
end L2
namespace L2
open PySem PySem.Spec PyProof.Rows
section
variable {X:Cx}
inductive RV(i:Nat)(σ:St)(H:Hp)(Q:VK):Prop
 |mk (v:V) (e:σ[i]? =some (some v)) (q:Q v H)
def va(i:Nat):TE:=fun σ H Q=>RV i σ H Q
def tC(v:V):TE:=fun _ H Q=>Q v H
theorem F2{i:Nat}{x:Str}{pos:Pos}(hN:X.N[i]? =some x)(hv:O5 X.env.scope x)(hd:(x==("__debug__" :Str))=false:=by decide)(me:(x==("__classdict__" :Str))=false:=by decide):PE X (.Name x pos) (va i):=by
 intro pins s σ H Q I h
 obtain⟨v,e,h⟩:=h
 obtain⟨m,hn,hl⟩:=I.loc
 obtain⟨u,r,l⟩:=hl i x v hN e hv
 have fin:EP X pins σ Q u s:=⟨v,H,I,r,h⟩
 rcases l with ⟨hk,hm⟩ | ⟨hk,c,hc,EK⟩
 ·exact wpAny_Name (wpAny_loadName_local I.ok.kind hk hn hm fin) hd
 ·rcases hk with hk|hk
  ·exact wpAny_Name (wpAny_loadName_cell I.ok.kind hk hc EK fin) hd
  ·exact wpAny_Name (wpAny_loadName_free I.ok.kind hk hc EK fin me) hd
theorem ah{i j pos}:PE X (.Constant (.int i) j pos) (tC (.int i)):=fun _ _ _ H _ I h=>wpAny_Constant_int ⟨.int i,H,I.tok _,⟨_,rfl⟩,h⟩
theorem gm{b j pos}:PE X (.Constant (.bool b) j pos) (tC (.bl b)):=fun _ _ _ H _ I h=>Constant_bool ⟨.bl b,H,I,rfl,h⟩
theorem gQ{j pos}:PE X (.Constant .none j pos) (tC .cn):=fun _ _ _ H _ I h=>Constant_none ⟨.cn,H,I,rfl,h⟩
theorem aw{x j pos}:PE X (.Constant (.str x) j pos) (tC (.str x)):=fun _ _ _ H _ I h=>Calls.Constant_str ⟨.str x,H,I.tok _,⟨_,rfl⟩,h⟩
def Gl(X:Cx)(x:Str):Prop:=X.env.kindOf x=some .globalImplicit
theorem eU{E:Value→Shared→Prop}{pins:List (Addr×Obj)}{s:Shared}{σ:St}{H:Hp}{x:Str}{u:Value}{pos:Pos}{Q:Value→Shared→Prop}(I:Inv X pins σ H s)(hg:Gl X x)(hm:X.mg x=some u)(h:Q u s)
  (hd:(x==("__debug__" :Str))=false:=by decide):wpAny (model X.prog X.w) X.A (eval (.Name x pos) X.env) Q E s:=
 Calls.Name_function_global I.ok.kind hg (Calls.loadGlobal_global (by rw[I.ok.glob];exact I.mod.glob.keeps I.bk) hm h) hd
theorem qp{E:Value→Shared→Prop}{pins:List (Addr×Obj)}{s:Shared}{σ:St}{H:Hp}{x:Str}{u:Value}{pos:Pos}{Q:Value→Shared→Prop}(I:Inv X pins σ H s)(hg:Gl X x)(hm:X.mg x=none)(hv:bootBuiltins x=some u)(h:Q u s)
  (hn:x≠"__name__" :=by decide) (hd:(x==("__debug__" :Str))=false:=by decide):wpAny (model X.prog X.w) X.A (eval (.Name x pos) X.env) Q E s:=by
 obtain⟨mb,h1,h2⟩:=I.mod.blt
 exact Calls.Name_function_global I.ok.kind hg (Calls.loadGlobal_builtin (by rw[I.ok.glob];exact I.mod.glob.keeps I.bk) hm (by rw[I.ok.blt];exact h1.keeps I.bk) ((h2 x hn).trans hv) h) hd
theorem a8{x:Str}{v:V}{u:Value}{pos:Pos}(hg:Gl X x)(hm:X.mg x=some u)(r:RelV v u)(hd:(x==("__debug__" :Str))=false:=by decide):PE X (.Name x pos) (tC v):=
 fun _ _ _ H _ I h=>eU I hg hm ⟨v,H,I,r,h⟩ hd
theorem qq{x:Str}{v:V}{u:Value}{pos:Pos}(hg:Gl X x)(hm:X.mg x=none)(hv:bootBuiltins x=some u)(r:RelV v u)(hn:x≠"__name__" :=by decide)(hd:(x==("__debug__" :Str))=false:=by decide):PE X (.Name x pos) (tC v):=
 fun _ _ _ H _ I h=>qp I hg hm hv ⟨v,H,I,r,h⟩ hn hd
variable {a b:Expr}{ta tb:TE}{pos:Pos}
def PC(X:Cx)(op:CmpOp)(a b:Expr)(t:TE):Prop:=
 ∀(pins:List (Addr×Obj)) (s:Shared) (σ:St) (H:Hp) (Q:VK),Inv X pins σ H s→t σ H Q→
  wpAny (model X.prog X.w) X.A (eval a X.env) (fun v s₁=>wpAny (model X.prog X.w) X.A (eval b X.env) (fun u s₂=>wpAny (model X.prog X.w) X.A (compareOp op v u) (EP X pins σ Q) X.xe s₂) X.xe s₁) X.xe s
theorem zL(b:Expr){op:CmpOp}(h:op≠ .In)(h2:op≠ .NotIn):behindInMarks op b=false:=by
 have e1:(op==CmpOp.In)=false:=by cases op<;>first|rfl|exact absurd rfl h
 have e2:(op==CmpOp.NotIn)=false:=by cases op<;>first|rfl|exact absurd rfl h2
 cases b<;>simp [behindInMarks,e1,e2]
def Pa(ta:TE):TE:=fun σ H Q=>ta σ H fun x H1=>Q (.bl (decide (x= .cn))) H1
theorem RelV.zM{x:V}{v:Value}(r:RelV x v):(v==Value.none)=decide (x= .cn):=by
 cases x with
 |cn=>cases r;rfl
 |bl _=>cases r;rfl
 |int _=>obtain⟨t,rfl⟩:=r;rfl
 |str _=>obtain⟨t,rfl⟩:=r;rfl
 |u7 _=>obtain⟨t,rfl⟩:=r;rfl
 |EG _=>obtain⟨t,rfl⟩:=r;rfl
 |ref _=>cases r;rfl
 |ty _=>cases r;rfl
theorem zN{j pos'}(ha:PE X a ta):PC X .Is a (.Constant .none j pos') (Pa ta):=by
 intro pins s σ H Q I h
 refine bL (ha pins s σ H _ I h) fun v s1 ⟨x,H1,I1,r1,q1⟩=>?_
 exact Constant_none (is_none_gen ⟨.bl _,H1,I1,by rw[r1.zM];rfl,q1⟩)
def tB(t:TE):TT:=fun σ H Q=>t σ H fun x H1=>∃c,x= .bl c∧Q c H1
theorem vb{op:CmpOp}{t:TE}(h:PC X op a b t)(h1:behindInMarks op b=false:=by first|exact zL _ (by decide) (by decide) |rfl):PT X (.Compare a [op] [b] pos) (tB t):=by
 intro pins s σ H Q I hw
 refine wpAny_isTrue_Compare1 (bL (h pins s σ H _ I hw) fun v s1 h1=>bL h1 fun u s2 h2=>bL h2 fun c s3 ⟨x,H1,I1,r1,q1⟩=>?_) h1
 obtain⟨d,rfl,q⟩:=q1
 cases r1
 exact wpAny_truthy_bool ⟨H1,I1,q⟩
theorem eP{e:Expr}{t:TE}(h:PE X e t)(he:∀whole,isTrue e X.env whole=(do let v←whole;standAt e.pos;holding [v] (truthy v)):=by intro _;rfl):PT X e (tB t):=by
 intro pins s σ H Q I hw
 refine isTrue_plain (bL (h pins s σ H _ I hw) fun v s1 ⟨x,H1,I1,r1,q1⟩=>?_) (he _)
 obtain⟨d,rfl,q⟩:=q1
 cases r1
 exact wpAny_truthy_bool ⟨H1,I1,q⟩
variable {tA Oi:TT}{rest:List Expr}
def Pb(t u:TT):TT:=fun σ H Q=>t σ H fun c H1=>if c=true then u σ H1 Q else Q false H1
def WE(t u:TT):TT:=fun σ H Q=>t σ H fun c H1=>if c=true then Q true H1 else u σ H1 Q
def Pd(t:TT):TT:=fun σ H Q=>t σ H fun c H1=>Q (!c) H1
theorem cw(ha:PT X a tA):PW X (.BoolOp .And [a] pos) tA:=by
 intro wh pins s σ H Q I h
 refine isTrue_and (bL (ha pins s σ H Q I h) fun c s1 e=>?_)
 cases c with
 |true=>exact isTrue_and_nil e
 |false=>exact e
theorem vc(ha:PT X a tA):PW X (.BoolOp .Or [a] pos) tA:=by
 intro wh pins s σ H Q I h
 refine isTrue_or (bL (ha pins s σ H Q I h) fun c s1 e=>?_)
 cases c with
 |false=>exact isTrue_or_nil e
 |true=>exact e
theorem cy(ha:PT X a tA)(hb:PW X (.BoolOp .And (b::rest) pos) Oi):PW X (.BoolOp .And (a::b::rest) pos) (Pb tA Oi):=by
 intro wh pins s σ H Q I h
 refine isTrue_and (bL (ha pins s σ H _ I h) fun c s1 ⟨H1,I1,q1⟩=>?_)
 cases c with
 |true=>exact hb wh pins s1 σ H1 Q I1 q1
 |false=>exact⟨H1,I1,q1⟩
theorem zO(ha:PT X a tA)(hb:PW X (.BoolOp .Or (b::rest) pos) Oi):PW X (.BoolOp .Or (a::b::rest) pos) (WE tA Oi):=by
 intro wh pins s σ H Q I h
 refine isTrue_or (bL (ha pins s σ H _ I h) fun c s1 ⟨H1,I1,q1⟩=>?_)
 cases c with
 |true=>exact⟨H1,I1,q1⟩
 |false=>exact hb wh pins s1 σ H1 Q I1 q1
theorem ve(ha:PT X a tA):PT X (.UnaryOp .Not a pos) (Pd tA):=by
 intro pins s σ H Q I h
 exact isTrue_not (ha pins s σ H (fun c H1=>Q (!c) H1) I h)
def Jm(ta tb:TE):TE:=fun σ H Q=>ta σ H fun x H1=>∃c,x= .bl c∧if c=true then tb σ H1 Q else Q (.bl false) H1
def Pe(ta tb:TE):TE:=fun σ H Q=>ta σ H fun x H1=>∃c,x= .bl c∧if c=true then Q (.bl true) H1 else tb σ H1 Q
def Jn(ta:TE):TE:=fun σ H Q=>ta σ H fun x H1=>∃c,x= .bl c∧Q (.bl (!c)) H1
theorem jB{op}{t:TE}(h:PE X a t):PE X (.BoolOp op [a] pos) t:=fun pins s σ H Q I hw=>BoolOp_one (h pins s σ H Q I hw)
theorem jC(ha:PE X a ta)(hb:PE X (.BoolOp .And (b::rest) pos) tb):PE X (.BoolOp .And (a::b::rest) pos) (Jm ta tb):=by
 intro pins s σ H Q I h
 refine BoolOp_and (bL (ha pins s σ H _ I h) fun v s1 ⟨x,H1,I1,r1,q1⟩=>?_)
 obtain⟨c,rfl,q1⟩:=q1
 cases r1
 refine wpAny_truthy_bool ?_
 cases c with
 |true=>exact hb pins s1 σ H1 Q I1 q1
 |false=>exact⟨.bl false,H1,I1,rfl,q1⟩
theorem EL(ha:PE X a ta)(hb:PE X (.BoolOp .Or (b::rest) pos) tb):PE X (.BoolOp .Or (a::b::rest) pos) (Pe ta tb):=by
 intro pins s σ H Q I h
 refine BoolOp_or (bL (ha pins s σ H _ I h) fun v s1 ⟨x,H1,I1,r1,q1⟩=>?_)
 obtain⟨c,rfl,q1⟩:=q1
 cases r1
 refine wpAny_truthy_bool ?_
 cases c with
 |false=>exact hb pins s1 σ H1 Q I1 q1
 |true=>exact⟨.bl true,H1,I1,rfl,q1⟩
theorem zP(ha:PE X a ta):PE X (.UnaryOp .Not a pos) (Jn ta):=by
 intro pins s σ H Q I h
 refine UnaryOp_ (bL (ha pins s σ H _ I h) fun v s1 ⟨x,H1,I1,r1,q1⟩=>?_)
 obtain⟨c,rfl,q1⟩:=q1
 cases r1
 exact not_of (wpAny_truthy_bool ⟨.bl (!c),H1,I1,rfl,q1⟩)
def WG(t:TT)(ta tb:TE):TE:=fun σ H Q=>t σ H fun c H1=>if c=true then ta σ H1 Q else tb σ H1 Q
theorem su{c:Expr}(hc:PT X c tA)(ha:PE X a ta)(hb:PE X b tb):PE X (.IfExp c a b pos) (WG tA ta tb):=by
 intro pins s σ H Q I h
 refine wpAny_IfExp (bL (hc pins s σ H _ I h) fun d s1 ⟨H1,I1,q1⟩=>?_)
 cases d with
 |true=>exact ha pins s1 σ H1 Q I1 q1
 |false=>exact hb pins s1 σ H1 Q I1 q1
end
end L2
namespace L2
open PySem PySem.Spec PyProof.Rows
def cz(K:PySem.W.Frag)(H:Hp)(a:Addr)(xs:List V):Prop:=
 Rd H a (.lst xs)∨
  ∃(o:Obj) (its:Array Value) (n:Nat),K.lookup a=some o∧o.cls= .type "list" ∧o.dict=none∧o.data= .seq its n∧its.size≤sizeLine∧Vals xs its.toList
def jD(K:PySem.W.Frag)(H:Hp)(a:Addr)(xs:List V):Prop:=
 Rd H a (.tup xs)∨
  ∃(o:Obj) (its:Array Value) (n:Nat),K.lookup a=some o∧o.cls= .type "tuple" ∧o.data= .seq its n∧its.size≤sizeLine∧Vals xs its.toList
def Pf:Value→Option V
 | .none=>some .cn
 | .bool b=>some (.bl b)
 | .int i _=>some (.int i)
 | .str x _=>some (.str x)
 | .bytes b _=>some (.u7 b)
 | .float b _=>some (.EG b)
 | .ref a=>some (.ref a)
 | .type n=>some (.ty n)
 |_=>none
theorem RelV.abs{x:V}{u:Value}(r:RelV x u):Pf u=some x:=by
 cases x with
 |cn=>cases r;rfl
 |bl _=>cases r;rfl
 |int _=>obtain⟨t,rfl⟩:=r;rfl
 |str _=>obtain⟨t,rfl⟩:=r;rfl
 |u7 _=>obtain⟨t,rfl⟩:=r;rfl
 |EG _=>obtain⟨t,rfl⟩:=r;rfl
 |ref _=>cases r;rfl
 |ty _=>cases r;rfl
theorem RelV.inj{x y:V}{u:Value}(r:RelV x u)(q:RelV y u):x=y:=Option.some.inj (r.abs.symm.trans q.abs)
theorem Vals.inj:∀{xs ys:List V} {us:List Value},Vals xs us→Vals ys us→xs=ys
 |_,_,_, .nil, .nil=>rfl
 |_,_,_, .cons r t, .cons r' t'=>by rw[r.inj r',Vals.inj t t']
section
variable {X:Cx}{pins:List (Addr×Obj)}{σ:St}{H:Hp}{s:Shared}{a:Addr}{xs ys:List V}
theorem cz.of{K:PySem.W.Frag}(h:H a=some (.lst xs)):cz K H a xs:= .inl (.inl h)
theorem jD.of{K:PySem.W.Frag}(h:H a=some (.tup xs)):jD K H a xs:= .inl (.inl h)
theorem Inv.list(I:Inv X pins σ H s)(h:cz X.K H a xs):∃its:List Value,Vals xs its∧PlainL s.heap a its.toArray∧xs.length≤sizeLine:=by
 rcases h with h| ⟨o,its,n,hk,hc,hd,hs,hz,r⟩
 ·obtain⟨z,its,n,r,e⟩:=h.ok I.bb
  exact⟨its,r,⟨_,n,e,rfl,rfl,rfl⟩,z⟩
 ·refine⟨its.toList,r,⟨o,n,I.fN a o hk,hc,hd,by simpa using hs⟩,?_⟩
  have e:=r.length
  simp only [Array.length_toList] at e
  omega
theorem Inv.tuple(I:Inv X pins σ H s)(h:jD X.K H a xs):∃its:List Value,Vals xs its∧IsTup s.heap a its.toArray∧xs.length≤sizeLine:=by
 rcases h with h| ⟨o,its,n,hk,hc,hs,hz,r⟩
 ·obtain⟨z,its,r,p⟩:=h.ok I.bb
  exact⟨its,r,p,z⟩
 ·refine⟨its.toList,r,⟨o,I.fN a o hk,hc,n,by simpa using hs⟩,?_⟩
  have e:=r.length
  simp only [Array.length_toList] at e
  omega
theorem Inv.zQ(I:Inv X pins σ H s)(h:cz X.K H a xs)(h':cz X.K H a ys):xs=ys:=by
 obtain⟨its,r,⟨o,n,e,_,_,d⟩,_⟩:=I.list h
 obtain⟨its',r',⟨o',n',e',_,_,d'⟩,_⟩:=I.list h'
 rw[e] at e';cases e'
 rw[d] at d'
 injection d' with d1 _
 have:its=its':=by simpa using congrArg Array.toList d1
 subst this
 exact r.inj r'
end
abbrev Cx.gp(X:Cx)(E:Value→Shared→Prop):Cx:={ X with xe:=E }
abbrev Cx.Cn(X:Cx):Cx:=X.gp fun _ _=>False
theorem Cx.Ok.gp{X:Cx}(ok:X.Ok)(E:Value→Shared→Prop):(X.gp E).Ok:=
 ⟨ok.mod,ok.kind,ok.glob,ok.blt,ok.above,ok.inj,ok.has,ok.CD,ok.hd,ok.frames,ok.EI,ok.IQ,ok.bs,ok.wJ,ok.qj,ok.qk,ok.ir,ok.zv⟩
theorem Cx.Ok.cP{X:Cx}{E:Value→Shared→Prop}(ok:(X.gp E).Ok):X.Ok:=
 ⟨ok.mod,ok.kind,ok.glob,ok.blt,ok.above,ok.inj,ok.has,ok.CD,ok.hd,ok.frames,ok.EI,ok.IQ,ok.bs,ok.wJ,ok.qj,ok.qk,ok.ir,ok.zv⟩
section
variable {X:Cx}{pins:List (Addr×Obj)}{σ:St}{H:Hp}{s:Shared}{E:Value→Shared→Prop}
theorem Inv.gp(I:Inv X pins σ H s)(E:Value→Shared→Prop):Inv (X.gp E) pins σ H s:=⟨I.ok.gp E,I.os,I.bare,I.base,I.loc,I.cell,I.free,I.eS,I.pin,I.bb,I.len⟩
theorem Inv.cP(I:Inv (X.gp E) pins σ H s):Inv X pins σ H s:=⟨I.ok.cP,I.os,I.bare,I.base,I.loc,I.cell,I.free,I.eS,I.pin,I.bb,I.len⟩
theorem SP.cP{D:Ends}{f:Flow}{s':Shared}(h:SP (X.gp E) pins D f s'):SP X pins D f s':=by
 cases f with
 |next=>obtain⟨σ',H',I,q⟩:=h;exact⟨σ',H',I.cP,q⟩
 |brk=>obtain⟨σ',H',I,q⟩:=h;exact⟨σ',H',I.cP,q⟩
 |cont=>obtain⟨σ',H',I,q⟩:=h;exact⟨σ',H',I.cP,q⟩
 |ret u=>obtain⟨v,σ',H',I,r,q⟩:=h;exact⟨v,σ',H',I.cP,r,q⟩
theorem jA.Cn{st:List Stmt}{t:TS}(h:jA X.Cn st t):jA X st t:=fun pins s σ H D I hw=>
 wpAny_mono (h pins s σ H D (I.gp _) hw) (fun _ _ q=>q.cP) fun _ _ z=>False.elim z
end
section
variable {X:Cx}{st:Stmt}{rest:List Stmt}{t u:TS}{e:Expr}{te:TE}{pos:Pos}
def zR:TS:=fun D σ H=>D.nx σ H
def zS(t u:TS):TS:=fun D σ H=>t { D with nx:=u D } σ H
theorem aK:jA X [] zR:=fun _ _ σ H _ I h=>wpAny_execs_nil ⟨σ,H,I,h⟩
theorem af(h1:PS X st t)(h2:jA X rest u):jA X (st::rest) (zS t u):=by
 intro pins s σ H D I h
 refine wpAny_execs_cons (bL (h1 pins s σ H { D with nx:=u D } I h) fun f s1 q=>?_)
 cases f with
 |next=>
  obtain⟨σ',H',I',q⟩:=q
  exact h2 pins s1 σ' H' D I' q
 |ret v=>exact q
 |brk=>exact q
 |cont=>exact q
theorem aq(h1:PS X st t):jA X [st] t:=by
 intro pins s σ H D I h
 refine wpAny_execs_cons (bL (h1 pins s σ H D I h) fun f s1 q=>?_)
 cases f with
 |next=>exact wpAny_execs_nil q
 |ret v=>exact q
 |brk=>exact q
 |cont=>exact q
theorem Inv.quiet{pins:List (Addr×Obj)}{σ:St}{H:Hp}{s:Shared}(I:Inv X pins σ H s):interactive X.env=false:=by simp [interactive,I.ok.kind]
def Jo(te:TE):TS:=fun D σ H=>te σ H fun _ H1=>D.nx σ H1
theorem bE(he:PE X e te)(hs:swapsWith e none pos.line X.env=pure false:=by rfl):PS X (.Expr e pos) (Jo te):=by
 intro pins s σ H D I h
 exact wpAny_Expr_any (bL (he pins s σ H _ I h) fun v s1 ⟨x,H1,I1,r1,q1⟩=>⟨σ,H1,I1,q1⟩) I.quiet hs
def Jp(te:TE):TS:=fun D σ H=>te σ H D.rt
theorem az(he:PE X e te):PS X (.Return (some e) pos) (Jp te):=by
 intro pins s σ H D I h
 exact wpAny_Return_some (bL (he pins s σ H _ I h) fun v s1 ⟨x,H1,I1,r1,q1⟩=>⟨x,σ,H1,I1,r1,q1⟩)
def F3(c:TT)(t u:TS):TS:=fun D σ H=>c σ H fun b H1=>if b=true then t D σ H1 else u D σ H1
theorem bc{c:Expr}{a b:List Stmt}{tc:TT}(hc:PT X c tc)(ha:jA X a t)(hb:jA X b u):PS X (.If c a b pos) (F3 tc t u):=by
 intro pins s σ H D I h
 refine wpAny_If (bL (hc pins s σ H _ I h) fun d s1 ⟨H1,I1,q1⟩=>?_)
 cases d with
 |true=>exact ha pins s1 σ H1 D I1 q1
 |false=>exact hb pins s1 σ H1 D I1 q1
end
abbrev TG:=V→St→Hp→(St→Hp→Prop)→Prop
abbrev EM:=List V→St→Hp→(St→Hp→Prop)→Prop
def PG(X:Cx)(target:Expr)(t:TG):Prop:=
 ∀(pins:List (Addr×Obj)) (s:Shared) (σ:St) (H:Hp) (v:V) (u:Value) (Q:St→Hp→Prop),Inv X pins σ H s→RelV v u→t v σ H Q→
  wpAny (model X.prog X.w) X.A (assign target X.env u) (fun _ s'=>∃σ' H',Inv X pins σ' H' s'∧Q σ' H') X.xe s
def IS(X:Cx)(ts:List Expr)(t:EM):Prop:=
 ∀(pins:List (Addr×Obj)) (s:Shared) (σ:St) (H:Hp) (vs:List V) (us:List Value) (Q:St→Hp→Prop),Inv X pins σ H s→Vals vs us→t vs σ H Q→
  wpAny (model X.prog X.w) X.A (assignInOrder ((assignEach ts X.env).map (·.2)) us) (fun _ s'=>∃σ' H',Inv X pins σ' H' s'∧Q σ' H') X.xe s
section
variable {X:Cx}{pos:Pos}
def dM(i:Nat):TG:=fun v σ H Q=>Q (σ.set i (some v)) H
theorem bq{i:Nat}{x:Str}(hN:X.N.Nodup)(hi:X.N[i]? =some x)(hx:Loc X.env.scope x)(hf:X.fn x=true∨X.env.scope.names.lookup x=some .local:=by first|exact .inl rfl|exact .inr rfl|assumption):PG X (.Name x pos) (dM i):=by
 intro pins s σ H v u Q I r h
 exact wpAny_assign_Name (store_ok I hN hi hx r (fun s' I'=>⟨_,H,I',h⟩) hf)
def Pg:EM:=fun vs σ H Q=>vs=[]∧Q σ H
def Jq(t:TG)(u:EM):EM:=fun vs σ H Q=>∃v r,vs=v::r∧t v σ H fun σ' H'=>u r σ' H' Q
theorem iT:IS X [] Pg:=by
 intro pins s σ H vs us Q I r h
 obtain⟨e,h⟩:=h
 subst e
 cases r
 exact assignInOrder_nil ⟨σ,H,I,h⟩
theorem bX{e:Expr}{es:List Expr}{t:TG}{u:EM}(h1:PG X e t)(h2:IS X es u)
  (hs:(assignEach (e::es) X.env).map (·.2)=assign e X.env::(assignEach es X.env).map (·.2):=by rfl):IS X (e::es) (Jq t u):=by
 intro pins s σ H vs us Q I r h
 obtain⟨v,vr,e1,h⟩:=h
 subst e1
 cases r with
 |cons r rr=>
  rw[hs]
  refine assignInOrder_cons (bL (h1 pins s σ H _ _ _ I r h) fun _ s1 ⟨σ1,H1,I1,q1⟩=>?_)
  exact h2 pins s1 σ1 H1 _ _ Q I1 rr q1
def Jr(K:PySem.W.Frag)(n:Nat)(t:EM):TG:=fun v σ H Q=>∃a xs,v= .ref a∧jD K H a xs∧xs.length=n∧t xs σ H Q
theorem kW{es:List Expr}{k:Nat}{t:EM}{n:Nat}(hc:X.calm=true)(h:IS X es t)
  (hn:(assignEach es X.env).length=n:=by rfl) (yb:(assignEach es X.env).findIdx? (·.1)=none:=by rfl):PG X (.Tuple es k pos) (Jr X.K n t):=by
 intro pins s σ H v u Q I r hw
 obtain⟨a,xs,e1,hq,hl,hw⟩:=hw
 subst e1
 cases r
 obtain⟨its,rv,ht,hz⟩:=I.tuple hq
 refine assign_Tuple_tuple (I.ok.hd hc) ht (by simp [hn,←hl,rv.length]) yb fun h' hx=>?_
 have I1:Inv X pins σ H { s with heap:=h' }:=I.kept (t':=s.toks) fun b o e=>hx b o (Nat.ne_of_lt (Heap.lt_size e)) e
 exact h pins _ σ H xs _ Q I1 (by simpa using rv) hw
def CG(te:TE)(g:TG):TS:=fun D σ H=>te σ H fun x H1=>g x σ H1 D.nx
theorem qr{tg e:Expr}{te:TE}{g:TG}(he:PE X e te)(hg:PG X tg g)(hs:swapsWithSole [tg] e pos.line X.env=pure false:=by rfl)(hw:swappedStores [tg] e X.env=pure none:=by rfl)
  (h1:(assignEach [tg] X.env).map (·.2)=[assign tg X.env]:=by rfl):PS X (.Assign [tg] e pos) (CG te g):=by
 intro pins s σ H D I h
 refine wpAny_Assign_stores (bL (he pins s σ H _ I h) fun v s1 ⟨x,H1,I1,r1,q1⟩=>?_) hs hw
 rw[h1]
 exact bL (hg pins s1 σ H1 x v _ I1 r1 q1) fun _ s2 q=>q
theorem aH{i:Nat}{x:Str}{e:Expr}{te:TE}{pos':Pos}(hN:X.N.Nodup)(hi:X.N[i]? =some x)(hx:Loc X.env.scope x)(he:PE X e te)(hs:swapsWith e (some (.Name x pos')) pos.line X.env=pure false:=by rfl)(hf:X.fn x=true∨X.env.scope.names.lookup x=some .local:=by first|exact .inl rfl|exact .inr rfl|assumption):
  PS X (.Assign [.Name x pos'] e pos) (CG te (dM i)):=by
 intro pins s σ H D I h
 refine wpAny_Assign_Name (bL (he pins s σ H _ I h) fun v s1 ⟨y,H1,I1,r1,q1⟩=>?_) hs
 exact store_ok I1 hN hi hx r1 (fun s2 I2=>⟨_,H1,I2,q1⟩) hf
end
section
variable {X:Cx}{pos:Pos}
def F4(c:TT)(tb:TS):TS:=fun D σ H=>∃W:Nat→St→Hp→Prop,(∃m,W m σ H)∧∀m σ H,W m σ H→
 c σ H fun b H1=>if b=true then∃N:St→Hp→Prop,(∀σ' H',N σ' H'→∃m',m'<m∧W m' σ' H')∧tb { D with nx:=N,ct:=N,bk:=D.nx } σ H1 else D.nx σ H1
theorem gq{c:Expr}{body:List Stmt}{tc:TT}{tb:TS}(hp:PassesOwn (model X.prog X.w) X.A X.env X.xe)(hc:PT X c tc)(hb:jA X body tb):PS X (.While c body [] pos) (F4 tc tb):=by
 intro pins s σ H D I h
 obtain⟨W,⟨m0,w0⟩,turn⟩:=h
 refine wpAny_While (codeAny_whileLoop (fun n s'=>∃σ' H',Inv X pins σ' H' s'∧W n σ' H') ?_ m0 ⟨σ,H,I,w0⟩)
 rintro n s1 ⟨σ1,H1,I1,w1⟩
 refine wpAny_passesOwn hp (bL (hc pins s1 σ1 H1 _ I1 (turn n σ1 H1 w1)) fun b s2 ⟨H2,I2,q2⟩=>?_)
 cases b with
 |true=>
  obtain⟨N,hN,q2⟩:=q2
  rw[if_pos rfl]
  refine wpAny_passesOwn hp (bL (hb pins s2 σ1 H2 _ I2 q2) fun f s3 q3=>?_)
  cases f with
  |next=>
   obtain⟨σ3,H3,I3,n3⟩:=q3
   obtain⟨m',hm,w3⟩:=hN σ3 H3 n3
   exact⟨m',hm,σ3,H3,I3,w3⟩
  |cont=>
   obtain⟨σ3,H3,I3,n3⟩:=q3
   obtain⟨m',hm,w3⟩:=hN σ3 H3 n3
   exact⟨m',hm,σ3,H3,I3,w3⟩
  |brk=>exact q3
  |ret v=>exact q3
 |false=>
  rw[if_neg Bool.false_ne_true]
  exact wpAny_execs_nil ⟨σ1,H2,I2,q2⟩
end
structure It where
 go:Nat→Hp→Prop
 uX:Nat→Hp→V→Hp→Prop
 stop:Nat→Hp→Prop
def jX(X:Cx)(pins:List (Addr×Obj))(H:Hp)(b:Addr):Prop:=
 H b=none∧b≠X.env.locals∧b∉X.fs∧(b∈X.ex∨X.s₀.heap.objs.size≤b)∧(∀x c,X.env.cells.lookup x=some c→c≠b)∧∀p∈X.pn++pins,p.1≠b
theorem Inv.zT{X:Cx}{pins:List (Addr×Obj)}{σ:St}{H H':Hp}{s:Shared}{b:Addr}(I:Inv X pins σ H s)(hb:s.heap.objs.size≤b)(hn:H' b=none):jX X pins H' b:=by
 refine⟨hn,Nat.ne_of_gt (Nat.lt_of_lt_of_le I.lt hb),I.O7 hb, .inr (Nat.le_trans I.sz hb),fun x c e z=>?_,fun p hp z=>?_⟩
 ·obtain⟨v,q⟩:=I.cell x c e
  exact absurd (Nat.lt_of_lt_of_le q.lt (by rw[z];exact hb)) (Nat.lt_irrefl _)
 ·exact absurd (Nat.lt_of_lt_of_le (Heap.lt_size (I.pin p hp).1) (by rw[z];exact hb)) (Nat.lt_irrefl _)
structure Turn(P:Program)(w:World)(K:PySem.W.Frag)(tg:Expr)(J:It)(fp:List Addr)(it:Addr)(tn:Nat→Heap→Prop):Prop where
 mem:it∈fp
 obj:∀i h,tn i h→∀b∈fp,∃o,h.get? b=some o∧∀v,o.data≠ .cell v
 keep:∀i h h',tn i h→(∀b∈fp,∀o,h.get? b=some o→h'.get? b=some o)→tn i h'
 item:∀(X:Cx),X.prog=P→X.w=w→X.K=K→X.calm=true→∀(i:Nat) (pins:List (Addr×Obj)) (s:Shared) (σ:St) (H:Hp) (E:Value→Shared→Prop),Inv X pins σ H s→(∀b∈fp,jX X pins H b)→tn i s.heap→J.go i H→
  wpAny (model P w) X.A (pyNext (.ref it)) (fun r s1=>∃u,r=some u∧
   wpAny (model P w) X.A (letOwnedTupleGo tg (.ref it) u) (fun _ s2=>∃x H',Inv X pins σ H' s2∧RelV x u∧J.uX i H x H'∧tn (i+1) s2.heap∧∀b∈fp,H' b=none) E s1) E s
 done:∀(X:Cx),X.prog=P→X.w=w→X.K=K→X.calm=true→∀(i:Nat) (pins:List (Addr×Obj)) (s:Shared) (σ:St) (H:Hp) (E:Value→Shared→Prop),Inv X pins σ H s→(∀b∈fp,jX X pins H b)→tn i s.heap→J.stop i H→
  wpAny (model P w) X.A (pyNext (.ref it)) (fun r s1=>r=none∧Inv X pins σ H s1) E s
 self:∀(A:Around) (i:Nat) (s:Shared) (Q:Value→Shared→Prop) (E:Value→Shared→Prop),tn i s.heap→Q (.ref it) s→wpAny (model P w) A (pyIter (.ref it)) Q E s
abbrev TI:=St→Hp→(It→Hp→Prop)→Prop
def Vr(X:Cx)(pins:List (Addr×Obj))(σ:St)(tg:Expr)(R:It→Hp→Prop)(Oj:Value)(s2:Shared):Prop:=
 ∃(it:Addr) (fp:List Addr) (tn:Nat→Heap→Prop) (J:It) (H':Hp),Oj= .ref it∧Inv X pins σ H' s2∧Turn X.prog X.w X.K tg J fp it tn∧tn 0 s2.heap∧(∀b∈fp,jX X pins H' b)∧R J H'
def PI(X:Cx)(tg iter:Expr)(wi:TI):Prop:=
 ∀(pins:List (Addr×Obj)) (s:Shared) (σ:St) (H:Hp) (R:It→Hp→Prop),Inv X pins σ H s→wi σ H R→
  wpAny (model X.prog X.w) X.A (eval iter X.env) (fun v s1=>wpAny (model X.prog X.w) X.A (pyIter v) (Vr X pins σ tg R) X.xe s1) X.xe s
theorem wK{M:Model}{A:Around}{E:Value→Shared→Prop}{s:Shared}{tg:Expr}{it:Addr}{u:Value}{o:Obj}{n:String}{vs:Array Value}{Q:Unit→Shared→Prop}(ho:s.heap.get? it=some o)(hc:o.cls= .type n)(hd:o.data= .fields vs)
  (hn:["enumerate","zip","dict_itemiterator","dict_reverseitemiterator","odict_iterator","itertools.zip_longest","itertools.pairwise"].contains n=false) (hQ:Q () s):wpAny M A (letOwnedTupleGo tg (.ref it) u) Q E s:=by
 unfold letOwnedTupleGo
 cases tg<;>first
  |exact wpAny_pure hQ
  | (cases u<;>first
    |exact wpAny_pure hQ
    | (refine wpAny_bind (wpAny_load ho ?_)
       rw[hc,hd]
       show wpAny M A (if (["enumerate","zip","dict_itemiterator","dict_reverseitemiterator","odict_iterator","itertools.zip_longest","itertools.pairwise"].contains n&&vs[0]? ==some (rawInt _))=true then _ else _) Q E s
       rw[if_neg (by intro h;rw[hn,Bool.false_and] at h;cases h)]
       exact wpAny_pure hQ))
def zU(K:PySem.W.Frag)(a:Addr):It:=
 ⟨fun i H=>∃xs x,cz K H a xs∧xs[i]? =some x,fun i H x H'=>H'=H∧∀xs,cz K H a xs→xs[i]? =some x,fun i H=>∃xs,cz K H a xs∧xs.length≤i⟩
def CH(lo:Int)(n:Nat):It:=⟨fun i _=>i<n,fun i H x H'=>H'=H∧x= .int (lo+i),fun i _=>n≤i⟩
theorem yc{P:Program}{w:World}{K:PySem.W.Frag}{tg:Expr}(a it:Addr):Turn P w K tg (zU K a) [it] it (fun i h=>h.IsListIter it a i) where
 mem:=by simp
 obj:=fun i h st b hb=>by
  have e:b=it:=by simpa using hb
  subst e
  obtain⟨o,e,c,d⟩:=st
  exact⟨o,e,fun v z=>by rw[d] at z;cases z⟩
 keep:=fun i h h' st k=>st.at fun o e=>k it (by simp) o e
 item:=by
  intro X hP hw hK hc i pins s σ H E I hf st hg
  subst hP hw hK
  obtain⟨xs,x,hq,hx⟩:=hg
  obtain⟨its,rv,p,hz⟩:=I.list hq
  obtain⟨u,hu,ru⟩:=rv.get hx
  obtain⟨f0,f1,f2,f3,f4,f5⟩:=hf it (by simp)
  refine wpAny_pyNext_list_item st p.isList (x:=u) (by simpa using hu) fun h' zx sb=>?_
  have I1:Inv X pins σ H { s with heap:=h' }:=I.turned (t':=s.toks) (fun b o hb e=>(sb.2 b hb).trans e) f0 f1 f3 f4 f5
  obtain⟨o,e,c,d⟩:=id zx
  exact⟨u,rfl,wK (s:={ s with heap:=h' }) e c d (by decide) ⟨x,H,I1,ru,⟨rfl,fun ys hy=>by rw[I.zQ hy hq];exact hx⟩,zx,fun b hb=>(hf b hb).1⟩⟩
 done:=by
  intro X hP hw hK hc i pins s σ H E I hf st hg
  subst hP hw hK
  obtain⟨xs,hq,hx⟩:=hg
  obtain⟨its,rv,p,hz⟩:=I.list hq
  obtain⟨f0,f1,f2,f3,f4,f5⟩:=hf it (by simp)
  have hl:=rv.length
  exact wpAny_pyNext_list_end (I.ok.hd hc) st p.isList (by simp;omega) fun h' eb=>⟨rfl,I.turned (t':=s.toks) (fun b o hb e=>eb b o hb e) f0 f1 f3 f4 f5⟩
 self:=fun _ _ _ _ _ st h=>wpAny_pyIter_listiter st h
theorem vf{P:Program}{w:World}{K:PySem.W.Frag}{tg:Expr}(it:Addr)(lo:Int)(n:Nat):Turn P w K tg (CH lo n) [it] it (fun i h=>IsRangeIter h it (lo+(i:Nat)*1) ((n:Int) - (i:Nat)) 1) where
 mem:=by simp
 obj:=fun i h st b hb=>by
  have e:b=it:=by simpa using hb
  subst e
  exact⟨_,st,fun v z=>by
   have z':Data.fields _=Data.cell v:=z
   cases z'⟩
 keep:=fun i h h' st k=>k it (by simp) _ st
 item:=by
  intro X hP hw hK hc i pins s σ H E I hf st hg
  subst hP hw hK
  obtain⟨f0,f1,f2,f3,f4,f5⟩:=hf it (by simp)
  have W:=Walks.range (prog:=X.prog) (w:=X.w) (I.ok.hd hc) it lo 1 n
  refine W.item i s _ _ hg st fun v h' tk hv zx kk=>?_
  obtain⟨t,rfl⟩:=hv
  have I1:Inv X pins σ H { s with heap:=h',toks:=tk }:=I.turned (fun b o hb e=>kk b o (by simpa using hb) e) f0 f1 f3 f4 f5
  refine⟨_,rfl,wK (s:={ s with heap:=h',toks:=tk }) (n:="range_iterator") zx rfl rfl (by decide) ⟨.int (lo+i),H,I1,⟨t,?_⟩,⟨rfl,rfl⟩,zx,fun b hb=>(hf b hb).1⟩⟩
  rw[Int.mul_one]
 done:=by
  intro X hP hw hK hc i pins s σ H E I hf st hg
  subst hP hw hK
  obtain⟨f0,f1,f2,f3,f4,f5⟩:=hf it (by simp)
  exact wpAny_pyNext_range_end (I.ok.hd hc) st (by have:n≤i:=hg;omega) fun h' eb=>⟨rfl,I.turned (t':=s.toks) (fun b o hb e=>eb b o hb e) f0 f1 f3 f4 f5⟩
 self:=fun _ _ _ _ _ st h=>wpAny_pyIter_rangeiter st h
end L2
namespace L2
open PySem PySem.Spec PyProof.Rows
section
variable {X:Cx}{tg:Expr}
def Js(K:PySem.W.Frag)(tl:TE):TI:=fun σ H R=>tl σ H fun x H1=>∃a,x= .ref a∧(∃xs,cz K H1 a xs)∧R (zU K a) H1
theorem jY{l:Expr}{tl:TE}(hl:PE X l tl):PI X tg l (Js X.K tl):=by
 intro pins s σ H R I h
 refine bL (hl pins s σ H _ I h) fun v s1 ⟨x,H1,I1,r1,q1⟩=>?_
 obtain⟨a,e,⟨xs,hq⟩,q⟩:=q1
 subst e
 cases r1
 obtain⟨its,rv,p,hz⟩:=I1.list hq
 refine wpAny_pyIter_list p.isList ?_
 refine⟨s1.heap.objs.size,[s1.heap.objs.size],_,_,H1,rfl,I1.kept (t':=s1.toks) fun b o e=>Heap.get?_push_of_some _ e,yc a _,⟨_,Heap.get?_push_size _ rfl,rfl,rfl⟩,fun b hb=>?_,q⟩
 have e:b=s1.heap.objs.size:=by simpa using hb
 subst e
 exact I1.zT (Nat.le_refl _) (I1.bb.fresh (Nat.le_refl _))
theorem zV{pins:List (Addr×Obj)}{σ:St}{H:Hp}{s:Shared}{R:It→Hp→Prop}{E:Value→Shared→Prop}{lo hi:Int}{t u v:Tok}{tk:Nat}(I:Inv X pins σ H s)(h1: -(2^62)≤lo)(h2:lo<2^62)(h3: -(2^62)≤hi)(h4:hi<2^62)
  (q:R (CH lo (hi - lo).toNat) H):wpAny (model X.prog X.w) X.A (pyIter (.ref s.heap.objs.size)) (Vr X pins σ tg R) E { s with heap:=s.heap.push { cls:= .type "range",data:= .fields #[.int lo t, .int hi u, .int 1 v] },toks:=tk }:=by
 refine wpAny_pyIter_range (IsRange.new ..) (small_one h1 h2 h3 h4) ?_
 have I1:Inv X pins σ H { s with heap:=s.heap.push { cls:= .type "range",data:= .fields #[.int lo t, .int hi u, .int 1 v] },toks:=tk }:=I.kept fun b o e=>Heap.get?_push_of_some _ e
 refine⟨(s.heap.push { cls:= .type "range",data:= .fields #[.int lo t, .int hi u, .int 1 v] }).objs.size,[(s.heap.push { cls:= .type "range",data:= .fields #[.int lo t, .int hi u, .int 1 v] }).objs.size],_,_,H,rfl,
  I1.kept (t':=tk) fun b o e=>Heap.get?_push_of_some _ e,vf _ lo (hi - lo).toNat,?_,fun b hb=>?_,q⟩
 ·have e1:lo+((0 :Nat):Int)*1=lo:=by simp
  have e2:(((hi - lo).toNat:Nat):Int) - ((0 :Nat):Int)=Builtin.Range.rangeSize lo hi 1:=by rw[rangeSize_one];split<;>omega
  show IsRangeIter _ _ (lo+((0 :Nat):Int)*1) ((((hi - lo).toNat:Nat):Int) - ((0 :Nat):Int)) 1
  rw[e1,e2]
  exact Heap.get?_push_size _ rfl
 ·have e:b=(s.heap.push { cls:= .type "range",data:= .fields #[.int lo t, .int hi u, .int 1 v] }).objs.size:=by simpa using hb
  subst e
  exact I1.zT (Nat.le_refl _) (I1.bb.fresh (Nat.le_refl _))
def Jt(ta:TA):TI:=fun σ H R=>ta σ H fun vs H1=>∃j:Int,vs=[.int j]∧ -(2^62)≤j∧j<2^62∧R (CH 0 j.toNat) H1
theorem dC{a:Expr}{ta:TA}{p pos:Pos}(hg:Gl X "range")(hm:X.mg "range" =none)(ha:PA X [a] ta)(hs:starEach [a] X.env=[(false,eval a X.env)]:=by rfl):PI X tg (.Call (.Name "range" p) [a] [] pos) (Jt ta):=by
 intro pins s σ H R I h
 refine Call_ (qp I hg hm boot_range (PyProof.Rows.callWith_type1 (bL (ha pos pins s σ H _ I h) fun us s1 ⟨vs,H1,I1,r1,q1⟩=>?_) hs rfl))
 obtain⟨j,e,q1,q2,q⟩:=q1
 subst e
 cases r1 with
 |cons r rr=>
  cases rr
  obtain⟨t,rfl⟩:=r
  exact call_range_1 (zV I1 (by omega) (by omega) q1 q2 (by simpa using q))
def Ph(wi:TI)(g:TG)(tb:TS):TS:=fun D σ H=>wi σ H fun J H1=>∃W:Nat→Nat→St→Hp→Prop,(∃m,W 0 m σ H1)∧∀i m σ H,W i m σ H→
 (J.stop i H∧D.nx σ H)∨(J.go i H∧∃N:St→Hp→Prop,(∀σ' H',N σ' H'→∃m',m'<m∧W (i+1) m' σ' H')∧∀x H',J.uX i H x H'→g x σ H' fun σ2 H2=>tb { D with nx:=N,ct:=N,bk:=D.nx } σ2 H2)
def m8(fp:List Addr)(h:Heap):List (Addr×Obj):=fp.filterMap fun b=>(h.get? b).map fun o=>(b,o)
theorem gR{fp:List Addr}{h:Heap}{b:Addr}{o:Obj}(hb:b∈fp)(e:h.get? b=some o):(b,o)∈m8 fp h:=List.mem_filterMap.mpr ⟨b,hb,by rw[e];rfl⟩
theorem yd{fp:List Addr}{h:Heap}{p:Addr×Obj}(hp:p∈m8 fp h):p.1∈fp∧h.get? p.1=some p.2:=by
 obtain⟨b,hb,e⟩:=List.mem_filterMap.mp hp
 cases q:h.get? b with
 |none=>rw[q] at e;cases e
 |some o=>
  rw[q] at e
  have e':(b,o)=p:=Option.some.inj e
  subst e'
  exact⟨hb,q⟩
theorem Inv.pinned{pins:List (Addr×Obj)}{σ:St}{H:Hp}{s:Shared}{fp:List Addr}(I:Inv X pins σ H s)(hf:∀b∈fp,jX X pins H b)(ho:∀b∈fp,∃o,s.heap.get? b=some o∧∀v,o.data≠ .cell v):Inv X (pins++m8 fp s.heap) σ H s:=
 I.mr fun p hp=>(List.mem_append.mp hp).elim (fun z=>I.pin p (List.mem_append_right _ z)) fun z=>by
   obtain⟨hb,e⟩:=yd z
   obtain⟨f0,f1,f2,_⟩:=hf p.1 hb
   obtain⟨o,e',d⟩:=ho p.1 hb
   rw[e] at e';cases e'
   exact⟨e,f0,f1,f2,d⟩
theorem Inv.dm{pins pl:List (Addr×Obj)}{σ:St}{H:Hp}{s:Shared}(I:Inv X (pins++pl) σ H s):Inv X pins σ H s:=I.mr fun p hp=>I.pin p (List.mem_append_right _ (List.mem_append_left _ hp))
theorem gS{iter:Expr}{body:List Stmt}{wi:TI}{g:TG}{tb:TS}{pos:Pos}(hp:PassesOwn (model X.prog X.w) X.A X.env X.xe)(hc:X.calm=true)(hi:PI X tg iter wi)(hg:PG X tg g)(hb:jA X body tb)
  (hs:∀x,foldedSetIterable iter X.env x=pure x:=by intro _;rfl):PS X (.For tg iter body [] pos) (Ph wi g tb):=by
 intro pins s σ H D I h
 refine wpAny_For (bL (hi pins s σ H _ I h) fun v s1 h1=>bL h1 fun Oj s2 h2=>?_) hs
 obtain⟨it,fp,tn,J,H2,e,I2,T,CI,f2,W,⟨m0,w0⟩,turn⟩:=h2
 subst e
 have vg:∀{H':Hp},(∀b∈fp,H' b=none)→∀b∈fp,jX X pins H' b:=fun hn b hb=>⟨hn b hb,(f2 b hb).2⟩
 refine codeAny_forLoop_any (fun n s'=>∃i σ' H',Inv X pins σ' H' s'∧tn i s'.heap∧(∀b∈fp,H' b=none)∧W i n σ' H') ?_ m0 ⟨0,σ,H2,I2,CI,fun b hb=>(f2 b hb).1,w0⟩
 rintro n s3 ⟨i,σ3,H3,I3,Ol,Vs,w3⟩
 rcases turn i n σ3 H3 w3 with ⟨stop,qn⟩ | ⟨go,N,hN,step⟩
 ·refine wpAny_passesOwn hp (bL (T.done X rfl rfl rfl hc i pins s3 σ3 H3 X.xe I3 (vg Vs) Ol stop) fun r s4 ⟨hr,I4⟩=>?_)
  subst hr
  exact wpAny_execs_nil ⟨σ3,H3,I4,qn⟩
 ·refine wpAny_passesOwn hp (bL (T.item X rfl rfl rfl hc i pins s3 σ3 H3 X.xe I3 (vg Vs) Ol go) fun r s4 ⟨u,hr,h4⟩=>?_)
  subst hr
  refine wpAny_passesOwn hp (bL h4 fun _ s5 ⟨x,H5,I5,r5,y5,Pj,Pk⟩=>?_)
  have WH:=I5.pinned (vg Pk) (T.obj _ _ Pj)
  refine wpAny_passesOwn hp (bL (hg _ s5 σ3 H5 x u _ WH r5 (step x H5 y5)) fun _ s6 ⟨σ6,H6,I6,q6⟩=>?_)
  refine wpAny_passesOwn hp (bL (hb _ s6 σ6 H6 _ I6 q6) fun f s7 q7=>?_)
  have again:∀{σ7:St} {H7:Hp},Inv X (pins++m8 fp s5.heap) σ7 H7 s7→N σ7 H7→∃m,m<n∧∃i σ' H',Inv X pins σ' H' s7∧tn i s7.heap∧(∀b∈fp,H' b=none)∧W i m σ' H':=fun {σ7 H7} I7 n7=>by
   obtain⟨m',hm,w7⟩:=hN σ7 H7 n7
   refine⟨m',hm,i+1,σ7,H7,I7.dm,T.keep _ _ _ Pj fun b hb o e=>(I7.pin (b,o) (List.mem_append_right _ (List.mem_append_right _ (gR hb e)))).1,fun b hb=>?_,w7⟩
   obtain⟨o,e,d⟩:=T.obj _ _ Pj b hb
   exact(I7.pin (b,o) (List.mem_append_right _ (List.mem_append_right _ (gR hb e)))).2.1
  cases f with
  |next=>obtain⟨σ7,H7,I7,n7⟩:=q7;exact again I7 n7
  |cont=>obtain⟨σ7,H7,I7,n7⟩:=q7;exact again I7 n7
  |brk=>obtain⟨σ7,H7,I7,q7⟩:=q7;exact⟨σ7,H7,I7.dm,q7⟩
  |ret v=>obtain⟨x7,σ7,H7,I7,r7,q7⟩:=q7;exact⟨x7,σ7,H7,I7.dm,r7,q7⟩
end
theorem zW{K:PySem.W.Frag}{a:Addr}{xs:List V}{g:TG}{tb:TS}{D:Ends}{σ:St}{H:Hp}(Pv:Nat→St→Hp→Prop)(h0:Pv 0 σ H)(hl:∀i σ H,i≤xs.length→Pv i σ H→cz K H a xs)
  (hs:∀i x σ H,xs[i]? =some x→Pv i σ H→g x σ H fun σ2 H2=>tb { D with nx:=Pv (i+1),ct:=Pv (i+1),bk:=D.nx } σ2 H2) (hd:∀σ H,Pv xs.length σ H→D.nx σ H):
  ∃W:Nat→Nat→St→Hp→Prop,(∃m,W 0 m σ H)∧∀i m σ H,W i m σ H→
   ((zU K a).stop i H∧D.nx σ H)∨((zU K a).go i H∧∃N:St→Hp→Prop,(∀σ' H',N σ' H'→∃m',m'<m∧W (i+1) m' σ' H')∧∀x H',(zU K a).uX i H x H'→g x σ H' fun σ2 H2=>tb { D with nx:=N,ct:=N,bk:=D.nx } σ2 H2):=by
 refine⟨fun i m σ H=>m=xs.length - i∧i≤xs.length∧Pv i σ H,⟨xs.length,by simp,Nat.zero_le _,h0⟩,?_⟩
 rintro i m σ H ⟨rfl,hi,p⟩
 have q:=hl i σ H hi p
 by_cases vh:i<xs.length
 ·refine .inr ⟨⟨xs,xs[i],q,by simp [vh]⟩,Pv (i+1),fun σ' H' p'=>⟨xs.length - (i+1),by omega,rfl,vh,p'⟩,fun x H' y=>?_⟩
  obtain⟨e,y⟩:=y
  subst e
  exact hs i x σ _ (y xs q) p
 ·have e:i=xs.length:=by omega
  subst e
  exact .inl ⟨⟨xs,q,Nat.le_refl _⟩,hd σ H p⟩
theorem dX{lo:Int}{n:Nat}{g:TG}{tb:TS}{D:Ends}{σ:St}{H:Hp}(Pv:Nat→St→Hp→Prop)(h0:Pv 0 σ H)
  (hs:∀i σ H,i<n→Pv i σ H→g (.int (lo+i)) σ H fun σ2 H2=>tb { D with nx:=Pv (i+1),ct:=Pv (i+1),bk:=D.nx } σ2 H2) (hd:∀σ H,Pv n σ H→D.nx σ H):
  ∃W:Nat→Nat→St→Hp→Prop,(∃m,W 0 m σ H)∧∀i m σ H,W i m σ H→
   ((CH lo n).stop i H∧D.nx σ H)∨((CH lo n).go i H∧∃N:St→Hp→Prop,(∀σ' H',N σ' H'→∃m',m'<m∧W (i+1) m' σ' H')∧∀x H',(CH lo n).uX i H x H'→g x σ H' fun σ2 H2=>tb { D with nx:=N,ct:=N,bk:=D.nx } σ2 H2):=by
 refine⟨fun i m σ H=>m=n - i∧i≤n∧Pv i σ H,⟨n,by simp,Nat.zero_le _,h0⟩,?_⟩
 rintro i m σ H ⟨rfl,hi,p⟩
 by_cases vh:i<n
 ·refine .inr ⟨vh,Pv (i+1),fun σ' H' p'=>⟨n - (i+1),by omega,rfl,vh,p'⟩,fun x H' y=>?_⟩
  obtain⟨e,y⟩:=y
  subst e y
  exact hs i σ _ vh p
 ·have e:i=n:=by omega
  subst e
  exact .inl ⟨Nat.le_refl _,hd σ H p⟩
end L2
namespace L2
open PySem PySem.Spec PyProof.Rows
abbrev R2:=V→V→Hp→VK→Prop
def mf(X:Cx)(f:Value→Value→Sem Value)(r:R2):Prop:=
 ∀(pins:List (Addr×Obj)) (s:Shared) (σ:St) (H:Hp) (x y:V) (v u:Value) (Q:VK),Inv X pins σ H s→RelV x v→RelV y u→r x y H Q→
  wpAny (model X.prog X.w) X.A (f v u) (EP X pins σ Q) X.xe s
def Pl(X:Cx)(f:Value→Sem Value)(r:V→Hp→VK→Prop):Prop:=
 ∀(pins:List (Addr×Obj)) (s:Shared) (σ:St) (H:Hp) (x:V) (v:Value) (Q:VK),Inv X pins σ H s→RelV x v→r x H Q→
  wpAny (model X.prog X.w) X.A (f v) (EP X pins σ Q) X.xe s
def iz(X:Cx)(f:Value)(r:List V→Hp→VK→Prop):Prop:=
 ∀(pins:List (Addr×Obj)) (s:Shared) (σ:St) (H:Hp) (xs:List V) (us:List Value) (Q:VK),Inv X pins σ H s→Vals xs us→r xs H Q→
  wpAny (model X.prog X.w) X.A (call f us) (EP X pins σ Q) X.xe s
def Po(X:Cx)(r:V→Hp→(Bool→Hp→Prop)→Prop):Prop:=
 ∀(pins:List (Addr×Obj)) (s:Shared) (σ:St) (H:Hp) (x:V) (v:Value) (Q:Bool→Hp→Prop),Inv X pins σ H s→RelV x v→r x H Q→
  wpAny (model X.prog X.w) X.A (truthy v) (TP X pins σ Q) X.xe s
def Co(r:R2)(ta tb:TE):TE:=fun σ H Q=>ta σ H fun x H1=>tb σ H1 fun y H2=>r x y H2 Q
def WI(r:V→Hp→VK→Prop)(ta:TE):TE:=fun σ H Q=>ta σ H fun x H1=>r x H1 Q
inductive RI(C:Int→Int→Prop)(g:Int→Int→V)(x y:V)(H:Hp)(Q:VK):Prop
 |mk (i j:Int) (e:x= .int i) (f:y= .int j) (c:C i j) (q:Q (g i j) H)
def rI(C:Int→Int→Prop)(g:Int→Int→V):R2:=RI C g
inductive RJ(g:Int→Int→V)(x y:V)(H:Hp)(Q:VK):Prop
 |mk (i j:Int) (e:x= .int i) (f:y= .int j) (q:Q (g i j) H)
def CJ(g:Int→Int→V):R2:=RJ g
def rU(g:Int→V):V→Hp→VK→Prop:=fun x H Q=>∃i,x= .int i∧Q (g i) H
section
variable {X:Cx}{a b c:Expr}{ta tb tc:TE}{pos:Pos}
theorem F5(ha:PE X a ta)(hb:PE X b tb){pins:List (Addr×Obj)}{s:Shared}{σ:St}{H:Hp}{R:V→V→Hp→Prop}(I:Inv X pins σ H s)
  (h:ta σ H fun x H1=>tb σ H1 fun y H2=>R x y H2) {Q:Value→Shared→Prop} {f:Value→Value→Sem Value}
  (hf:∀v u s2 x y H2,Inv X pins σ H2 s2→RelV x v→RelV y u→R x y H2→wpAny (model X.prog X.w) X.A (f v u) Q X.xe s2):
  wpAny (model X.prog X.w) X.A (eval a X.env) (fun v s₁=>wpAny (model X.prog X.w) X.A (eval b X.env) (fun u s₂=>wpAny (model X.prog X.w) X.A (f v u) Q X.xe s₂) X.xe s₁) X.xe s:=by
 refine bL (ha pins s σ H _ I h) fun v s1 ⟨x,H1,I1,r1,q1⟩=>?_
 refine bL (hb pins s1 σ H1 _ I1 q1) fun u s2 ⟨y,H2,I2,r2,q2⟩=>?_
 exact hf v u s2 x y H2 I2 r1 r2 q2
theorem au{op:Operator}{r:R2}(ho:mf X (binaryOp op) r)(ha:PE X a ta)(hb:PE X b tb):PE X (.BinOp a op b pos) (Co r ta tb):=by
 intro pins s σ H Q I h
 exact wpAny_BinOp (F5 ha hb I h fun v u s2 x y H2 I2 rx ry q=>ho pins s2 σ H2 x y v u Q I2 rx ry q)
theorem lQ{op:UnaryOp}{r:V→Hp→VK→Prop}(ho:Pl X (unaryOp op) r)(ha:PE X a ta):PE X (.UnaryOp op a pos) (WI r ta):=by
 intro pins s σ H Q I h
 exact UnaryOp_ (bL (ha pins s σ H _ I h) fun v s1 ⟨x,H1,I1,r1,q1⟩=>ho pins s1 σ H1 x v Q I1 r1 q1)
theorem Om{f:Value→Value→Sem Value}{C:Int→Int→Prop}{g:Int→Int→Int}
  (rule:∀(i j:Int) (t u:Tok) (s:Shared) (Q:Value→Shared→Prop) (E:Value→Shared→Prop),C i j→Q (.int (g i j) s.toks) { s with toks:=s.toks+1 }→wpAny (model X.prog X.w) X.A (f (.int i t) (.int j u)) Q E s):
  mf X f (rI C fun i j=> .int (g i j)):=by
 intro pins s σ H x y v u Q I rx ry h
 obtain⟨i,j,rfl,rfl,hc,q⟩:=h
 obtain⟨t,rfl⟩:=rx
 obtain⟨t',rfl⟩:=ry
 exact rule i j t t' s _ _ hc ⟨.int (g i j),H,I.tok _,⟨_,rfl⟩,q⟩
theorem Ju{f:Value→Value→Sem Value}{g:Int→Int→Int}
  (rule:∀(i j:Int) (t u:Tok) (s:Shared) (Q:Value→Shared→Prop) (E:Value→Shared→Prop),Q (.int (g i j) s.toks) { s with toks:=s.toks+1 }→wpAny (model X.prog X.w) X.A (f (.int i t) (.int j u)) Q E s):
  mf X f (CJ fun i j=> .int (g i j)):=by
 intro pins s σ H x y v u Q I rx ry h
 obtain⟨i,j,rfl,rfl,q⟩:=h
 obtain⟨t,rfl⟩:=rx
 obtain⟨t',rfl⟩:=ry
 exact rule i j t t' s _ _ ⟨.int (g i j),H,I.tok _,⟨_,rfl⟩,q⟩
theorem F6{f:Value→Value→Sem Value}{g:Int→Int→Bool}
  (rule:∀(i j:Int) (t u:Tok) (s:Shared) (Q:Value→Shared→Prop) (E:Value→Shared→Prop),Q (.bool (g i j)) s→wpAny (model X.prog X.w) X.A (f (.int i t) (.int j u)) Q E s):
  mf X f (CJ fun i j=> .bl (g i j)):=by
 intro pins s σ H x y v u Q I rx ry h
 obtain⟨i,j,rfl,rfl,q⟩:=h
 obtain⟨t,rfl⟩:=rx
 obtain⟨t',rfl⟩:=ry
 exact rule i j t t' s _ _ ⟨.bl (g i j),H,I,rfl,q⟩
def Pp(i j:Int):Prop:=0<j∧j<1073741824
def Pq(i j:Int):Prop:=0≤j∧j≤1000000∧i.natAbs<2^64
def zX(i j:Int):Prop:=(-(2^64) <i∧i<2^64)∨(-(2^64) <j∧j<2^64)
theorem zX.ok{i j:Int}(h:zX i j):IntMulOk i j:=by
 rcases h with ⟨h1,h2⟩ | ⟨h1,h2⟩
 ·exact .of_left (intBits_le_64 h1 h2)
 ·exact .of_right (intBits_le_64 h1 h2)
theorem bo:mf X (binaryOp .Add) (CJ fun i j=> .int (i+j)):=Ju fun _ _ _ _ _ _ _ q=>add_int q
theorem kX:mf X (binaryOp .Sub) (CJ fun i j=> .int (i - j)):=Ju fun _ _ _ _ _ _ _ q=>sub_int q
theorem fZ:mf X (binaryOp .Mult) (rI zX fun i j=> .int (i*j)):=Om fun _ _ _ _ _ _ _ hc q=>mul_int q hc.ok
theorem bW:mf X (binaryOp .FloorDiv) (rI Pp fun i j=> .int (i/j)):=Om fun i j _ _ _ _ _ hc q=>by
 have h1:(0 :Int) <j:=hc.1
 have h2:j<1073741824:=hc.2
 exact floordiv_int (by omega) (by rw[Int.fdiv_eq_ediv_of_nonneg i (by omega)];exact q) (.inl (PyProof.noPylong_small (by omega)))
theorem bp:mf X (binaryOp .Mod) (rI (fun _ j=>0<j) fun i j=> .int (i%j)):=Om fun i j _ _ _ _ _ hc q=>by
 have h1:(0 :Int) <j:=hc
 exact mod_int' (by omega) (by rw[Int.fmod_eq_emod_of_nonneg i (by omega)];exact q)
theorem qt:mf X (binaryOp .Pow) (rI Pq fun i j=> .int (i^j.toNat)):=Om fun _ _ _ _ _ _ _ hc q=>pow_int_small hc.1 hc.2.1 hc.2.2 q
theorem WJ{f:Value→Sem Value}{g:Int→Int}
  (rule:∀(i:Int) (t:Tok) (s:Shared) (Q:Value→Shared→Prop) (E:Value→Shared→Prop),Q (.int (g i) s.toks) { s with toks:=s.toks+1 }→wpAny (model X.prog X.w) X.A (f (.int i t)) Q E s):
  Pl X f (rU fun i=> .int (g i)):=by
 intro pins s σ H x v Q I rx h
 obtain⟨i,rfl,q⟩:=h
 obtain⟨t,rfl⟩:=rx
 exact rule i t s _ _ ⟨.int (g i),H,I.tok _,⟨_,rfl⟩,q⟩
theorem iA:Pl X (unaryOp .USub) (rU fun i=> .int (-i)):=WJ fun _ _ _ _ _ q=>neg_int q
end
def Jv:V→V→Bool
 | .cn, .cn=>true| .cn, .int _=>true| .int _, .cn=>true| .cn, .bl _=>true| .bl _, .cn=>true| .cn, .str _=>true| .str _, .cn=>true
 | .int _, .int _=>true| .bl _, .bl _=>true| .str _, .str _=>true| .u7 _, .u7 _=>true
 | .int _, .str _=>true| .str _, .int _=>true| .bl _, .str _=>true| .str _, .bl _=>true
 |_,_=>false
def WK:R2:=fun x y H Q=>Jv x y=true∧Q (.bl (decide (x=y))) H
def WL:R2:=fun x y H Q=>Jv x y=true∧Q (.bl (!decide (x=y))) H
theorem wM{i j:Int}:decide (V.int i=V.int j)=(i==j):=by
 rw[Bool.eq_iff_iff]
 simp
theorem zY{i j:Bool}:decide (V.bl i=V.bl j)=(i==j):=by
 rw[Bool.eq_iff_iff]
 simp
theorem wN{i j:Str}:decide (V.str i=V.str j)=(i==j):=by
 rw[Bool.eq_iff_iff]
 simp
theorem wO{i j:Array UInt8}:decide (V.u7 i=V.u7 j)=(i.toList==j.toList):=by
 rw[Bool.eq_iff_iff]
 cases i
 cases j
 simp
section
variable {X:Cx}{a b c:Expr}{ta tb tc:TE}{pos:Pos}
theorem bC{pins:List (Addr×Obj)}{σ:St}{H:Hp}{s:Shared}{Q:VK}{k k':Bool}(I:Inv X pins σ H s)(q:Q (.bl k) H)(e:k=k'):EP X pins σ Q (.bool k') s:=by
 subst e
 exact⟨.bl k,H,I,rfl,q⟩
theorem bh:mf X (compareOp .Eq) WK:=by
 intro pins s σ H x y v u Q I rx ry h
 obtain⟨hs,q⟩:=h
 cases x with
 |cn=>
  cases rx
  cases y with
  |cn=>cases ry;exact PySem.EqNone.eq_none_none (bC I q (by simp))
  |bl j=>cases ry;exact PySem.EqNone.eq_none_bool (bC I q (by simp))
  |int j=>obtain⟨t',rfl⟩:=ry;exact PySem.EqNone.eq_none_int (bC I q (by simp))
  |str j=>obtain⟨t',rfl⟩:=ry;exact PySem.EqNone.eq_none_str (bC I q (by simp))
  |_=>exact absurd (show false=true from hs) Bool.false_ne_true
 |bl i=>
  cases rx
  cases y with
  |cn=>cases ry;exact PySem.EqNone.eq_bool_none (bC I q (by simp))
  |bl j=>cases ry;exact eq_bool (bC I q zY)
  |str j=>obtain⟨t',rfl⟩:=ry;exact PySem.EqMixed.eq_bool_str (bC I q (by simp))
  |_=>exact absurd (show false=true from hs) Bool.false_ne_true
 |int i=>
  obtain⟨t,rfl⟩:=rx
  cases y with
  |cn=>cases ry;exact PySem.EqNone.eq_int_none (bC I q (by simp))
  |int j=>obtain⟨t',rfl⟩:=ry;exact eq_int (bC I q wM)
  |str j=>obtain⟨t',rfl⟩:=ry;exact PySem.EqMixed.eq_int_str (bC I q (by simp))
  |_=>exact absurd (show false=true from hs) Bool.false_ne_true
 |str i=>
  obtain⟨t,rfl⟩:=rx
  cases y with
  |cn=>cases ry;exact PySem.EqNone.eq_str_none (bC I q (by simp))
  |bl j=>cases ry;exact PySem.EqMixed.eq_str_bool (bC I q (by simp))
  |int j=>obtain⟨t',rfl⟩:=ry;exact PySem.EqMixed.eq_str_int (bC I q (by simp))
  |str j=>obtain⟨t',rfl⟩:=ry;exact eq_str (bC I q wN)
  |_=>exact absurd (show false=true from hs) Bool.false_ne_true
 |u7 i=>
  obtain⟨t,rfl⟩:=rx
  cases y with
  |u7 j=>obtain⟨t',rfl⟩:=ry;exact PySem.W.eq_bytes (bC I q wO)
  |_=>exact absurd (show false=true from hs) Bool.false_ne_true
 |_=>cases y<;>exact absurd (show false=true from hs) Bool.false_ne_true
theorem wQ:mf X (compareOp .NotEq) WL:=by
 intro pins s σ H x y v u Q I rx ry h
 obtain⟨hs,q⟩:=h
 cases x with
 |cn=>
  cases rx
  cases y with
  |cn=>cases ry;exact PySem.EqNone.ne_none_none (bC I q (by simp))
  |bl j=>cases ry;exact PySem.EqNone.ne_none_bool (bC I q (by simp))
  |int j=>obtain⟨t',rfl⟩:=ry;exact PySem.EqNone.ne_none_int (bC I q (by simp))
  |str j=>obtain⟨t',rfl⟩:=ry;exact PySem.EqNone.ne_none_str (bC I q (by simp))
  |_=>exact absurd (show false=true from hs) Bool.false_ne_true
 |bl i=>
  cases rx
  cases y with
  |cn=>cases ry;exact PySem.EqNone.ne_bool_none (bC I q (by simp))
  |bl j=>cases ry;exact ne_bool (bC I q (congrArg not zY))
  |str j=>obtain⟨t',rfl⟩:=ry;exact PySem.EqMixed.ne_bool_str (bC I q (by simp))
  |_=>exact absurd (show false=true from hs) Bool.false_ne_true
 |int i=>
  obtain⟨t,rfl⟩:=rx
  cases y with
  |cn=>cases ry;exact PySem.EqNone.ne_int_none (bC I q (by simp))
  |int j=>obtain⟨t',rfl⟩:=ry;exact ne_int (bC I q (congrArg not wM))
  |str j=>obtain⟨t',rfl⟩:=ry;exact PySem.EqMixed.ne_int_str (bC I q (by simp))
  |_=>exact absurd (show false=true from hs) Bool.false_ne_true
 |str i=>
  obtain⟨t,rfl⟩:=rx
  cases y with
  |cn=>cases ry;exact PySem.EqNone.ne_str_none (bC I q (by simp))
  |bl j=>cases ry;exact PySem.EqMixed.ne_str_bool (bC I q (by simp))
  |int j=>obtain⟨t',rfl⟩:=ry;exact PySem.EqMixed.ne_str_int (bC I q (by simp))
  |str j=>obtain⟨t',rfl⟩:=ry;exact ne_str (bC I q (congrArg not wN))
  |_=>exact absurd (show false=true from hs) Bool.false_ne_true
 |u7 i=>
  obtain⟨t,rfl⟩:=rx
  cases y with
  |u7 j=>obtain⟨t',rfl⟩:=ry;exact PySem.W.ne_bytes (bC I q (congrArg not wO))
  |_=>exact absurd (show false=true from hs) Bool.false_ne_true
 |_=>cases y<;>exact absurd (show false=true from hs) Bool.false_ne_true
theorem sv:mf X (compareOp .Lt) (CJ fun i j=> .bl (decide (i<j))):=F6 fun _ _ _ _ _ _ _ q=>lt_int q
theorem Jw:mf X (compareOp .LtE) (CJ fun i j=> .bl (decide (i≤j))):=F6 fun _ _ _ _ _ _ _ q=>le_int q
theorem iB:mf X (compareOp .Gt) (CJ fun i j=> .bl (decide (j<i))):=F6 fun _ _ _ _ _ _ _ q=>gt_int q
theorem kY:mf X (compareOp .In) (fun x y H Q=>∃i j,x= .str i∧y= .str j∧Q (.bl (!(Builtin.Str.occurrences j i 0 j.length 1).isEmpty)) H):=by
 intro pins s σ H x y v u Q I rx ry h
 obtain⟨i,j,rfl,rfl,q⟩:=h
 obtain⟨t,rfl⟩:=rx
 obtain⟨t',rfl⟩:=ry
 exact in_str (bC I q rfl)
theorem aE(b:Expr){op:CmpOp}(h:op≠ .In:=by decide)(h2:op≠ .NotIn:=by decide):behindInMarks op b=false:=by
 have e1:(op==CmpOp.In)=false:=by cases op<;>first|rfl|exact absurd rfl h
 have e2:(op==CmpOp.NotIn)=false:=by cases op<;>first|rfl|exact absurd rfl h2
 cases b<;>simp [behindInMarks,e1,e2]
theorem cV{op:CmpOp}{r:R2}(ho:mf X (compareOp op) r)(ha:PE X a ta)(hb:PE X b tb)(hm:behindInMarks op b=false):PE X (.Compare a [op] [b] pos) (Co r ta tb):=by
 intro pins s σ H Q I h
 exact wpAny_Compare1 (F5 ha hb I h fun v u s2 x y H2 I2 rx ry q=>ho pins s2 σ H2 x y v u Q I2 rx ry q) hm
def Jx(t:TE):TT:=fun σ H Q=>t σ H fun x H'=>∃k,x= .bl k∧Q k H'
theorem aA{op:CmpOp}{r:R2}(ho:mf X (compareOp op) r)(ha:PE X a ta)(hb:PE X b tb)(hm:behindInMarks op b=false):PT X (.Compare a [op] [b] pos) (Jx (Co r ta tb)):=by
 intro pins s σ H Q I h
 refine wpAny_isTrue_Compare1 (bL (ha pins s σ H _ I h) fun v s1 ⟨x,H1,I1,r1,q1⟩=>bL (hb pins s1 σ H1 _ I1 q1) fun u s2 ⟨y,H2,I2,r2,q2⟩=>
  bL (ho pins s2 σ H2 x y v u _ I2 r1 r2 q2) fun c s3 ⟨z,H3,I3,r3,k,e,q3⟩=>?_) hm
 subst e
 cases r3
 exact wpAny_truthy_bool ⟨H3,I3,q3⟩
def F7(r r':R2)(ta tb tc:TE):TE:=fun σ H Q=>ta σ H fun x H1=>tb σ H1 fun y H2=>r x y H2 fun z H3=>∃k,z= .bl k∧
 (if k=true then tc σ H3 fun w' H4=>r' y w' H4 Q else Q (.bl false) H3)
theorem m9{op Pr:CmpOp}{r r':R2}(ho:mf X (compareOp op) r)(u9:mf X (compareOp Pr) r')(ha:PE X a ta)(hb:PE X b tb)(hc:PE X c tc)
  (hm:lastMarks [op,Pr] [b,c]=false:=by with_unfolding_all rfl):PE X (.Compare a [op,Pr] [b,c] pos) (F7 r r' ta tb tc):=by
 intro pins s σ H Q I h
 refine Compare_chain (bL (ha pins s σ H _ I h) fun v s1 ⟨x,H1,I1,r1,q1⟩=>chain_link (bL (hb pins s1 σ H1 _ I1 q1) fun u s2 ⟨y,H2,I2,r2,q2⟩=>
  bL (ho pins s2 σ H2 x y v u _ I2 r1 r2 q2) fun d s3 ⟨z,H3,I3,r3,k,e,q3⟩=>?_)) hm
 subst e
 cases r3
 refine wpAny_truthy_bool ?_
 cases k with
 |false=>exact ite_ff ⟨.bl false,H3,I3,rfl,q3⟩
 |true=>exact ite_tt (chain_last (bL (hc pins s3 σ H3 _ I3 q3) fun w' s4 ⟨z',H4,I4,r4,q4⟩=>u9 pins s4 σ H4 y z' u w' Q I4 r2 r4 q4))
def Jy(K:PySem.W.Frag)(x:V)(H:Hp)(k:Bool):Prop:=
 match x with
 | .cn=>k=false
 | .bl b=>k=b
 | .int i=>k=(i != 0)
 | .str y=>y.length≤sizeLine∧k=((y.length:Int) != 0)
 | .u7 y=>y.size≤sizeLine∧k=((y.size:Int) != 0)
 | .ref p=>(∃xs,cz K H p xs∧k=!xs.isEmpty)∨(∃xs,jD K H p xs∧k=!xs.isEmpty)∨∃kvs,H p=some (.dK kvs)∧k=!kvs.isEmpty
 |_=>False
theorem vi{κ:Type}{kvs:List (κ×V)}{vs:List (κ×Value)}(r:KV kvs vs):(!vs.isEmpty)=!kvs.isEmpty:=by
 cases r<;>rfl
theorem nh{xs:List V}{its:List Value}(r:Vals xs its):(!its.toArray.isEmpty)=!xs.isEmpty:=by
 cases r<;>simp
theorem jE:(sizeLine:Nat) <2^63:=by rw[sizeLine_eq];decide
theorem F8:Po X (fun x H Q=>∃k,Jy X.K x H k∧Q k H):=by
 intro pins s σ H x v Q I rx h
 obtain⟨k,e,q⟩:=h
 have hl:=jE
 have hs:sizeLine=16777216:=sizeLine_eq
 cases x with
 |cn=>
  cases rx
  have e':k=false:=e
  subst e'
  exact truthy_none ⟨H,I,q⟩
 |bl b=>
  cases rx
  have e':k=b:=e
  subst e'
  exact wpAny_truthy_bool ⟨H,I,q⟩
 |int i=>
  obtain⟨t,rfl⟩:=rx
  have e':k=(i != 0):=e
  subst e'
  exact PySem.P.truthy_int ⟨H,I,q⟩
 |str y=>
  obtain⟨t,rfl⟩:=rx
  obtain⟨hy,e'⟩:y.length≤sizeLine∧k=((y.length:Int) != 0):=e
  subst e'
  exact PySem.P.truthy_str (by omega) ⟨H,I.tok _,q⟩
 |u7 y=>
  obtain⟨t,rfl⟩:=rx
  obtain⟨hy,e'⟩:y.size≤sizeLine∧k=((y.size:Int) != 0):=e
  subst e'
  exact PySem.W.truthy_bytes (by omega) ⟨H,I.tok _,q⟩
 |ref p=>
  cases rx
  have e':(∃xs,cz X.K H p xs∧k=!xs.isEmpty)∨(∃xs,jD X.K H p xs∧k=!xs.isEmpty)∨∃kvs,H p=some (.dK kvs)∧k=!kvs.isEmpty:=e
  rcases e' with ⟨xs,hx,e'⟩ | ⟨xs,hx,e'⟩ | ⟨kvs,hx,e'⟩
  ·subst e'
   obtain⟨its,r,pl,hz⟩:=I.list hx
   have hlen:=r.length
   exact wpAny_truthy_list pl.isList (by simp only [List.size_toArray];omega) ⟨H,I.tok _,by rw[nh r];exact q⟩
  ·subst e'
   obtain⟨its,r,pl,hz⟩:=I.tuple hx
   have hlen:=r.length
   exact truthy_tuple pl (by simp only [List.size_toArray];omega) ⟨H,I.tok _,by rw[nh r];exact q⟩
  ·subst e'
   obtain⟨hz,hS,vs,r,m⟩:kvs.length≤sizeLine∧(p==sysModules)=false∧∃vs,KV kvs vs∧s.heap.DictOf (bG X.prog X.w) p vs:=I.bb p _ hx
   have hlen:kvs.length=vs.length:=Paired.length r
   exact wpAny_truthy_dict hS m (by omega) ⟨H,I.tok _,by rw[vi r];exact q⟩
 |_=>exact(show False from e).elim
theorem sx(ha:PE X a ta)(he:∀whole,isTrue a X.env whole=(do let v←whole;standAt a.pos;holding [v] (truthy v))):
  PT X a (fun σ H Q=>ta σ H fun x H'=>∃k,Jy X.K x H' k∧Q k H'):=by
 intro pins s σ H Q I h
 exact isTrue_plain (bL (ha pins s σ H _ I h) fun v s1 ⟨x,H1,I1,r1,q1⟩=>F8 pins s1 σ H1 x v Q I1 r1 q1) (he _)
theorem aG:mf X (binaryOp .Add) (fun x y H Q=>∃i j,x= .str i∧y= .str j∧i.length+j.length≤sizeLine∧Q (.str (i++j)) H):=by
 intro pins s σ H x y v u Q I rx ry h
 obtain⟨i,j,rfl,rfl,hz,q⟩:=h
 obtain⟨t,rfl⟩:=rx
 obtain⟨t',rfl⟩:=ry
 exact add_str (fun t' tk=>⟨.str (i++j),H,I.tok _,⟨_,rfl⟩,q⟩) hz
theorem vals1{x:V}{us:List Value}(r:Vals [x] us):∃u,us=[u]∧RelV x u:=by
 cases r with
 |cons r1 r2=>cases r2;exact⟨_,rfl,r1⟩
theorem vals2{x y:V}{us:List Value}(r:Vals [x,y] us):∃u w',us=[u,w']∧RelV x u∧RelV y w':=by
 cases r with
 |cons r1 r2=>
  cases r2 with
  |cons r3 r4=>cases r4;exact⟨_,_,rfl,r1,r3⟩
theorem sy:iz X (.builtin "abs") (fun xs H Q=>∃i,xs=[.int i]∧Q (.int (if i<0 then -i else i)) H):=by
 intro pins s σ H xs us Q I r h
 obtain⟨i,rfl,q⟩:=h
 obtain⟨u,rfl,t,rfl⟩:=vals1 r
 exact call_abs_int fun u tk=>⟨.int (if i<0 then -i else i),H,I.tok _,⟨_,rfl⟩,q⟩
theorem iU:iz X (.type "int") (fun xs H Q=>(∃i,xs=[.int i]∧Q (.int i) H)∨∃k,xs=[.bl k]∧Q (.int (if k then 1 else 0)) H):=by
 intro pins s σ H xs us Q I r h
 rcases h with ⟨i,rfl,q⟩ | ⟨k,rfl,q⟩
 ·obtain⟨u,rfl,t,rfl⟩:=vals1 r
  exact call_int_int ⟨.int i,H,I,⟨_,rfl⟩,q⟩
 ·obtain⟨u,rfl,r1⟩:=vals1 r
  cases r1
  exact call_int_bool ⟨.int (if k then 1 else 0),H,I.tok _,⟨_,rfl⟩,q⟩
theorem eV:iz X (.type "str") (fun xs H Q=>∃i,xs=[.int i]∧i.natAbs.log2<1920∧Q (.str (toString i)) H):=by
 intro pins s σ H xs us Q I r h
 obtain⟨i,rfl,hz,q⟩:=h
 obtain⟨u,rfl,t,rfl⟩:=vals1 r
 exact PySem.P.str_of_int hz ⟨.str _,H,I.tok _,⟨_,rfl⟩,q⟩
end
end L2
namespace L2
open PySem PySem.Spec PyProof.Rows
structure vj(h:Heap)(x dx C:Addr)(mA:Str→Option Value):Prop where
 obj:h.get? x=some (PySem.W.instObj C dx)
 ns:h.Ns1 dx mA
 ne:dx≠x
theorem o6{h:Heap}{dx:Addr}{mA:Str→Option Value}(n:h.Ns1 dx mA):∃od,h.get? dx=some od∧∀name,PySem.W.lookIn name od=some (mA name):=by
 obtain⟨o,es,ep,ho,hd,hk,_,hm⟩:=n
 refine⟨o,ho,fun name=>?_⟩
 have e:=hm name
 unfold nsFind findBy at e
 rw[←Array.find?_toList] at e
 unfold PySem.W.lookIn
 rw[hd]
 dsimp only
 split
 ·rename_i y q
  rw[q] at e
  exact congrArg some e
 ·rename_i q
  rw[q] at e
  have a:es.toList.any (·.refKey)=false:=by
   rw[List.any_eq_false]
   intro y hy
   obtain⟨z,t,Pt⟩:=hk y (Array.mem_toList_iff.mp hy)
   simp [DictEntry.refKey,Pt]
  have a':¬es.toList.any (·.refKey)=true:=by rw[a];exact Bool.false_ne_true
  rw[if_neg a']
  exact congrArg some e
theorem vj.look{h:Heap}{x dx C:Addr}{mA:Str→Option Value}(I:vj h x dx C mA):∃od,PySem.W.InstAt h x (PySem.W.instObj C dx) C (some od)∧∀name,PySem.W.lookIn name od=some (mA name):=
 let ⟨od,ho,hl⟩:=o6 I.ns
 ⟨od,⟨I.obj,rfl,rfl,ho⟩,hl⟩
section
variable {prog:Program}{w:World}{A:Around}{E:Value→Shared→Prop}{s:Shared}{K:PySem.W.Frag}{x dx C f:Addr}{mA:Str→Option Value}{name:Str}{v:Value}
theorem get_map{expr:Bool}{Q:Value→Shared→Prop}(X:K.In s.heap)(I:vj s.heap x dx C mA)(hg:PySem.W.plainGet K C name=true)(hh:PySem.W.hasDictIn K C=true)
  (ha:PySem.W.findIn K (.ref C) name=some none) (hv:mA name=some v) (WM:PySem.W.handedIn v=true) (h:Q v { s with toks:=s.toks+1 }):
  wpAny (model prog w) A (getAttr (.ref x) name expr) Q E s:=by
 obtain⟨od,J,hl⟩:=I.look
 exact PySem.W.get_value X J (PySem.W.plainGet_of hg).1 (PySem.W.findObj_own hh ha rfl (by rw[hl,hv])) WM h
theorem zZ{pl:Sem Bool}{Q:Value×List Value→Shared→Prop}(X:K.In s.heap)(I:vj s.heap x dx C mA)(hg:PySem.W.plainGet K C name=true)
  (hf:PySem.W.findIn K (.ref C) name=some (some (.ref f))) (ht:PySem.W.isFn K (.ref f)=true) (hv:mA name=none) (h:Q (.ref f,[.ref x]) s):
  wpAny (model prog w) A (getMethod (.ref x) name pl) Q E s:=by
 obtain⟨od,J,hl⟩:=I.look
 exact PySem.W.method_fn X J (PySem.W.plainGet_of hg).1 (PySem.W.plainGet_of hg).2 hf (beq_iff_eq.mp ht) (by show (PySem.W.lookIn name od).map (·.isSome)=some false;rw[hl,hv];rfl) h
theorem CK{ns:List Str}{Q:Unit→Shared→Prop}(X:K.In s.heap)(I:vj s.heap x dx C mA)
  (hs:PySem.W.findIn K (.ref C) "__setattr__" =some (some (.builtin "object.__setattr__"))) (hp:PySem.W.plainOver K C=true) (ht:PySem.W.takerIn K C name=some none) (hh:PySem.W.hasDictIn K C=true)
  (hw:PySem.Within mA ns) (hsz:ns.length≤sizeLine)
  (h:∀h',vj h' x dx C (fun y=>if y=name then some v else mA y)→Heap.SameBut dx s.heap h'→Q () { s with heap:=h',toks:=s.toks+2 }):
  wpAny (model prog w) A (setAttr (.ref x) name v) Q E s:=by
 obtain⟨od,J,hl⟩:=I.look
 refine PySem.W.set_plain X J hs (PySem.W.osa_open (s:={ s with toks:=s.toks+1 }) (r:=none) X J hp ht fun b=>?_)
 obtain⟨cd,hc,ql⟩:=PySem.W.any_some hh
 have hx:s.heap.get? x=some ⟨.ref C,some dx, .plain,#[]⟩:=I.obj
 refine wpAny_bind (wpAny_pure (wpAny_bind (wpAny_bind (wpAny_loadPart hx (wpAny_bind (PySem.W.Looks.here (s:={ s with toks:=s.toks+1 }) (PySem.W.looks_clsIn X hc) ?_))))))
 rw[ql]
 refine wpAny_pure (a:=some dx) (wpAny_bind (wpAny_pure (wpAny_bind ?_)))
 refine wpAny_nsSet1 (s:={ s with toks:=s.toks+1 }) I.ns fun h' EN Vt=>?_
 obtain⟨oD,Zb,Zc,WN,WO,WQ⟩:=EN.count (PySem.Within.cons name v hw)
 refine wpAny_bind (wpAny_lookBehind WN (by rw[WO];exact pastItsLine_dict (Nat.le_trans WQ (by rw[List.length_cons];omega))) ?_)
 exact wpAny_pure (h _ ⟨(Vt.2 _ (Ne.symm I.ne)).trans I.obj,EN,I.ne⟩ Vt)
theorem z4{R:Result→Shared→Prop}{vs:List Value}{kw:List (Str×Value)}(X:K.In s.heap)(hm:PySem.W.makesIn K C=true)
  (hi:PySem.W.findIn K (.ref C) "__init__" =some (some (.ref f))) (hf:PySem.W.typeIn K (.ref f)=some (.type "function"))
  (h:codeAny (model prog w) (A.under (.builtin "type.__call__" ⟨.ref C::vs,kw⟩)) (.call (.ref f) ⟨.ref (s.heap.objs.size+1)::vs,kw⟩) (PySem.W.InitBack (s.heap.objs.size+1) R)
   { s with heap:=(s.heap.push PySem.W.emptyDict).push (PySem.W.instObj C s.heap.objs.size) }):
  codeAny (model prog w) A (.call (.ref C) ⟨vs,kw⟩) R s:=by
 obtain⟨hh,g,d,t,os⟩:=s
 exact PySem.W.make_core (PySem.W.makes_of X hm) (PySem.W.looks_findIn X hi) (fun self=>PySem.W.bind_fn X self hf) (.inl rfl) h
end
def df(f:Str)(v:V):List (Str×V)→List (Str×V)
 | []=>[(f,v)]
 | (g,x)::r=>if g=f then (g,v)::r else (g,x)::df f v r
theorem aL(f g:Str)(v:V):∀fs:List (Str×V),(df f v fs).lookup g=if g=f then some v else fs.lookup g
 | []=>by
   show List.lookup g [(f,v)]=_
   by_cases h:g=f
   ·have hb:(g==f)=true:=beq_iff_eq.mpr h
    simp only [List.lookup,hb,if_pos h]
   ·have hb:(g==f)=false:=beq_eq_false_iff_ne.mpr h
    simp only [List.lookup,hb,if_neg h]
 | (k,x)::r=>by
   have ih:=aL f g v r
   rw[show df f v ((k,x)::r)=(if k=f then (k,v)::r else (k,x)::df f v r) from rfl]
   by_cases hk:k=f
   ·rw[if_pos hk]
    by_cases h:g=k
    ·have hb:(g==k)=true:=beq_iff_eq.mpr h
     simp only [List.lookup,hb,if_pos (h.trans hk)]
    ·have hb:(g==k)=false:=beq_eq_false_iff_ne.mpr h
     simp only [List.lookup,hb,if_neg (fun e:g=f=>h (e.trans hk.symm))]
   ·rw[if_neg hk]
    by_cases h:g=k
    ·have hb:(g==k)=true:=beq_iff_eq.mpr h
     simp only [List.lookup,hb,if_neg (fun e:g=f=>hk (h.symm.trans e))]
    ·have hb:(g==k)=false:=beq_eq_false_iff_ne.mpr h
     simp only [List.lookup,hb]
     exact ih
theorem gs(f:Str)(v:V):∀fs:List (Str×V),f∈(df f v fs).map (·.1)∧∀g,g∈fs.map (·.1)→g∈(df f v fs).map (·.1)
 | []=>⟨by simp [df],fun g h=>by simp at h⟩
 | (k,x)::r=>by
   obtain⟨i1,i2⟩:=gs f v r
   rw[show df f v ((k,x)::r)=(if k=f then (k,v)::r else (k,x)::df f v r) from rfl]
   by_cases hk:k=f
   ·rw[if_pos hk]
    subst hk
    exact⟨by simp,fun g h=>by simpa using h⟩
   ·rw[if_neg hk]
    refine⟨?_,fun g h=>?_⟩
    ·rw[List.map_cons]
     exact List.mem_cons_of_mem _ i1
    ·rw[List.map_cons] at h ⊢
     rcases List.mem_cons.mp h with e|e
     ·exact List.mem_cons.mpr (.inl e)
     ·exact List.mem_cons_of_mem _ (i2 g e)
theorem lR(f:Str)(v:V):∀fs:List (Str×V),(df f v fs).length≤fs.length+1
 | []=>by simp [df]
 | (k,x)::r=>by
   have ih:=lR f v r
   rw[show df f v ((k,x)::r)=(if k=f then (k,v)::r else (k,x)::df f v r) from rfl]
   by_cases hk:k=f
   ·rw[if_pos hk,List.length_cons,List.length_cons];omega
   ·rw[if_neg hk,List.length_cons,List.length_cons];omega
theorem fK.some_of{v:V}{o:Option Value}(r:fK (some v) o):∃u,o=some u∧RelV v u:=by
 cases o with
 |none=>exact(show False from r).elim
 |some u=>exact⟨u,rfl,r⟩
theorem fK.none_of{o:Option Value}(r:fK none o):o=none:=by
 cases o with
 |none=>rfl
 |some u=>exact(show False from r).elim
theorem o7{v:V}{u:Value}(r:RelV v u):PySem.W.handedIn u=true:=by
 cases v with
 |cn=>cases (show u=Value.none from r);rfl
 |bl b=>cases (show u=Value.bool b from r);rfl
 |int i=>obtain⟨t,e⟩:=(show∃t,u=Value.int i t from r);cases e;rfl
 |str x=>obtain⟨t,e⟩:=(show∃t,u=Value.str x t from r);cases e;rfl
 |u7 b=>obtain⟨t,e⟩:=(show∃t,u=Value.bytes b t from r);cases e;rfl
 |EG b=>obtain⟨t,e⟩:=(show∃t,u=Value.float b t from r);cases e;rfl
 |ref a=>cases (show u=Value.ref a from r);rfl
 |ty n=>cases (show u=Value.type n from r);rfl
section
variable {P:Program}{w:World}{H H':Hp}{h h':Heap}{a C dx:Addr}{fs Cz:List (Str×V)}
theorem mv(bb:iq P w H h)(e:H a=some (.ins C dx fs)):∃mA,vj h a dx C mA∧(∀f,fK (fs.lookup f) (mA f))∧PySem.Within mA (fs.map (·.1))∧fs.length≤1000∧H dx=some (.own a):=by
 obtain⟨d,z,ne,ob,mA,n,r,q⟩:=(show bT P w H h a (.ins C dx fs) from bb a _ e)
 exact⟨mA,⟨ob,n,ne⟩,r,q,z,d⟩
end
structure r8(K:PySem.W.Frag)(C:Addr):Prop where
 pg:PySem.W.plainGet K C Str.empty=true
 hd:PySem.W.hasDictIn K C=true
 po:PySem.W.plainOver K C=true
 sa:PySem.W.findIn K (.ref C) "__setattr__" =some (some (.builtin "object.__setattr__"))
theorem r8.get{K:PySem.W.Frag}{C:Addr}(c:r8 K C)(f:Str):PySem.W.plainGet K C f=true:=c.pg
def cD(K:PySem.W.Frag)(C:Addr)(f:Str):Prop:=PySem.W.findIn K (.ref C) f=some none
theorem cD.Jz{K:PySem.W.Frag}{C:Addr}{f:Str}(n:cD K C f):PySem.W.takerIn K C f=some none:=by
 unfold PySem.W.takerIn
 rw[show PySem.W.findIn K (.ref C) f=some none from n]
 rfl
structure Meth(K:PySem.W.Frag)(C:Addr)(m:Str)(f:Addr):Prop where
 at_:PySem.W.findIn K (.ref C) m=some (some (.ref f))
 fn:PySem.W.isFn K (.ref f)=true
 kp:PySem.W.keepIn K (.ref f)=true
section
variable {X:Cx}{pins:List (Addr×Obj)}{σ:St}{H:Hp}{s:Shared}{a C dx:Addr}{fs:List (Str×V)}{f:Str}{v:V}{A:Around}{E:Value→Shared→Prop}
theorem ni{b:Bool}{Q:Value→Shared→Prop}(I:Inv X pins σ H s)(e:H a=some (.ins C dx fs))(c:r8 X.K C)(n:cD X.K C f)(l:fs.lookup f=some v)
  (h:∀u s',Inv X pins σ H s'→RelV v u→Q u s'):wpAny (model X.prog X.w) A (getAttr (.ref a) f b) Q E s:=by
 obtain⟨mA,O,r,_,_,_⟩:=mv I.bb e
 obtain⟨u,hu,ru⟩:=fK.some_of (v:=v) (o:=mA f) (by rw[←l];exact r f)
 exact get_map I.fN O (c.get f) c.hd n hu (o7 ru) (h u _ (I.tok _) ru)
theorem jF{m:Str}{g:Addr}{pl:Sem Bool}{Q:Value×List Value→Shared→Prop}(I:Inv X pins σ H s)(e:H a=some (.ins C dx fs))(c:r8 X.K C)(k:Meth X.K C m g)(l:fs.lookup m=none)
  (h:Q (.ref g,[.ref a]) s):wpAny (model X.prog X.w) A (getMethod (.ref a) m pl) Q E s:=by
 obtain⟨mA,O,r,_,_,_⟩:=mv I.bb e
 have hn:mA m=none:=fK.none_of (by rw[←l];exact r m)
 exact zZ I.fN O (c.get m) k.at_ k.fn hn h
theorem nj{y:V}{u:Value}{Q:Unit→Shared→Prop}(I:Inv X pins σ H s)(e:H a=some (.ins C dx fs))(c:r8 X.K C)(n:cD X.K C f)(hl:fs.length<1000)(ry:RelV y u)
  (h:∀s',Inv X pins σ (upd H a (.ins C dx (df f y fs))) s'→Q () s'):wpAny (model X.prog X.w) A (setAttr (.ref a) f u) Q E s:=by
 obtain⟨mA,O,r,wi,_,ho⟩:=mv I.bb e
 have hz:(fs.map (·.1)).length≤sizeLine:=by rw[List.length_map,sizeLine_eq];omega
 refine CK I.fN O c.sa c.po n.Jz c.hd wi hz fun h' O' sb=>h _ ?_
 have hd:∃o,h'.get? dx=some o:=let ⟨o,_,_,e',_⟩:=O'.ns;⟨o,e'⟩
 refine I.write (x:=a) (e:=dx) (by rw[e];exact True.intro) (.inr ho) (fun b q hb z=>(sb.2 b hb).trans z) hd ?_
 refine⟨by rw[aj O.ne];exact ho,?_,O.ne,O'.obj,_,O'.ns,fun g=>?_,fun g hg=>?_⟩
 ·have:=lR f y fs;omega
 ·show fK ((df f y fs).lookup g) (if g=f then some u else mA g)
  rw[aL]
  by_cases q:g=f
  ·rw[if_pos q,if_pos q];exact ry
  ·rw[if_neg q,if_neg q];exact r g
 ·by_cases q:g=f
  ·rw[q];exact(gs f y fs).1
  ·refine(gs f y fs).2 g (wi g fun z=>hg ?_)
   show (if g=f then some u else mA g)=none
   rw[if_neg q];exact z
theorem Inv.made(I:Inv X pins σ H s):Inv X pins σ (upd (upd H s.heap.objs.size (.own (s.heap.objs.size+1))) (s.heap.objs.size+1) (.ins C s.heap.objs.size []))
  { s with heap:=(s.heap.push PySem.W.emptyDict).push (PySem.W.instObj C s.heap.objs.size) }:=by
 have e1:(s.heap.push PySem.W.emptyDict).get? s.heap.objs.size=some PySem.W.emptyDict:=Heap.get?_push_size s.heap rfl
 have e2:((s.heap.push PySem.W.emptyDict).push (PySem.W.instObj C s.heap.objs.size)).get? (s.heap.objs.size+1)=some (PySem.W.instObj C s.heap.objs.size):=by
  have:=Heap.get?_push_size (s.heap.push PySem.W.emptyDict) (o:=PySem.W.instObj C s.heap.objs.size) rfl
  rwa [Heap.size_push] at this
 have e3:(s.heap.push PySem.W.emptyDict).Ns s.heap.objs.size (fun _=>none):=⟨PySem.W.emptyDict,#[],_,e1,rfl,(fun e he=>absurd he (by simp)),fun _=>rfl⟩
 have I1:=I.laid (a:=s.heap.objs.size) (o:= .own (s.heap.objs.size+1)) (h':=s.heap.push PySem.W.emptyDict) (t':=s.toks) (fun b u q=>Heap.get?_push_of_some _ q) (Nat.le_refl _) ⟨_,e1⟩
 refine I1.laid (a:=s.heap.objs.size+1) (o:= .ins C s.heap.objs.size []) (t':=s.toks) (fun b u q=>Heap.get?_push_of_some _ q) (Nat.le_of_eq (Heap.size_push _ _)) ?_
 have ne:s.heap.objs.size≠s.heap.objs.size+1:=Nat.ne_of_lt (Nat.lt_succ_self _)
 refine⟨by rw[aj ne,ag],Nat.zero_le _,ne,e2,fun _=>none,(Heap.Ns1.of_empty e3).at fun o q=>Heap.get?_push_of_some _ q,fun _=>True.intro,fun y hy=>absurd rfl hy⟩
theorem wR{prog:Program}{w:World}{env:Env}{e:Expr}{f:Str}{pos:Pos}{s:Shared}{Q:Value→Shared→Prop}(hb:attributeBase e f env (eval e env)=eval e env)
  (h:wpAny (model prog w) A (eval e env) (fun o s₁=>wpAny (model prog w) A (getAttr o f true) Q E s₁) E s):wpAny (model prog w) A (eval (.Attribute e f pos) env) Q E s:=
 Attribute_any_ h (by rw[arm_eval_Attribute,hb])
end
def Pu(K:PySem.W.Frag)(ta:TE)(f:Str):TE:=fun σ H Q=>ta σ H fun x H1=>∃a C dx fs v,x= .ref a∧H1 a=some (.ins C dx fs)∧r8 K C∧cD K C f∧fs.lookup f=some v∧Q v H1
def Pw(K:PySem.W.Frag)(ta tv:TE)(f:Str):TS:=fun D σ H=>tv σ H fun y H1=>ta σ H1 fun x H2=>∃a C dx fs,x= .ref a∧H2 a=some (.ins C dx fs)∧r8 K C∧cD K C f∧fs.length<1000∧
 D.nx σ (upd H2 a (.ins C dx (df f y fs)))
def JA(X:Cx)(op:Operator)(rd:V→V→Hp→VK→Prop):Prop:=
 ∀(pins:List (Addr×Obj)) (s:Shared) (σ:St) (H:Hp) (x y:V) (u v:Value) (Q:VK),Inv X pins σ H s→RelV x u→RelV y v→rd x y H Q→wpAny (model X.prog X.w) X.A (inplaceOp op u v) (EP X pins σ Q) X.xe s
def CL(K:PySem.W.Frag)(ta tv:TE)(rd:V→V→Hp→VK→Prop)(f:Str):TS:=fun D σ H=>ta σ H fun x H1=>∃a C dx fs v,x= .ref a∧H1 a=some (.ins C dx fs)∧r8 K C∧cD K C f∧fs.lookup f=some v∧
 tv σ H1 fun y H2=>rd v y H2 fun z H3=>∃cZ Cz,H3 a=some (.ins C cZ Cz)∧Cz.length<1000∧D.nx σ (upd H3 a (.ins C cZ (df f z Cz)))
section
variable {X:Cx}{o e value:Expr}{f:Str}{pos pos' JB:Pos}{ta tv:TE}
theorem br(he:PE X e ta)(hb:attributeBase e f X.env (eval e X.env)=eval e X.env):PE X (.Attribute e f pos) (Pu X.K ta f):=by
 intro pins s σ H Q I h
 refine wR hb (bL (he pins s σ H _ I h) fun u s1 ⟨x,H1,I1,rx,a,C,dx,fs,v,ex,ea,c,n,l,q⟩=>?_)
 subst ex
 obtain rfl:u=Value.ref a:=rx
 exact ni I1 ea c n l fun u' s2 I2 ru=>⟨v,H1,I2,ru,q⟩
theorem eQ(ha:PE X o ta)(hv:PE X value tv)(hs:swapsWith value (some (.Attribute o f pos')) pos.line X.env=pure false):PS X (.Assign [.Attribute o f pos'] value pos) (Pw X.K ta tv f):=by
 intro pins s σ H D I h
 refine plainObj_wpAny_Assign_Attribute (bL (hv pins s σ H _ I h) fun u s1 ⟨y,H1,I1,ry,q⟩=>bL (ha pins s1 σ H1 _ I1 q) fun ov s2 ⟨x,H2,I2,rx,a,C,dx,fs,ex,ea,c,n,l,q2⟩=>?_) hs
 subst ex
 obtain rfl:ov=Value.ref a:=rx
 exact nj I2 ea c n l ry fun s3 I3=>⟨σ,_,I3,q2⟩
theorem iV{op:Operator}{rd:V→V→Hp→VK→Prop}(ha:PE X o ta)(hv:PE X value tv)(WR:JA X op rd):PS X (.AugAssign (.Attribute o f JB) op value pos) (CL X.K ta tv rd f):=by
 intro pins s σ H D I h
 refine wpAny_AugAssign_AttributeAny (bL (ha pins s σ H _ I h) fun ov s1 ⟨x,H1,I1,rx,a,C,dx,fs,v,ex,ea,c,n,l,q⟩=>?_)
 subst ex
 obtain rfl:ov=Value.ref a:=rx
 refine ni I1 ea c n l fun u s2 I2 ru=>bL (hv pins s2 σ H1 _ I2 q) fun w3 s3 ⟨y,H2,I3,ry,q3⟩=>bL (WR pins s3 σ H2 v y u w3 _ I3 ru ry q3) fun w4 s4 ⟨z,H3,I4,rz,cZ,Cz,WS,l',q4⟩=>?_
 exact nj I4 WS c n l' rz fun s5 I5=>⟨σ,_,I5,q4⟩
def Px:V→V→Hp→VK→Prop:=fun x y H Q=>∃i j,x= .int i∧y= .int j∧Q (.int (i+j)) H
theorem qu:JA X .Add Px:=by
 rintro pins s σ H x y u v Q I rx ry ⟨i,j,rfl,rfl,q⟩
 obtain⟨t,rfl⟩:=(show∃t,u=Value.int i t from rx)
 obtain⟨t',rfl⟩:=(show∃t',v=Value.int j t' from ry)
 exact PyProof.Rows.iadd_int ⟨.int (i+j),H,I.tok _,⟨_,rfl⟩,q⟩
end
section
variable {X:Cx}{pins:List (Addr×Obj)}{σ:St}{H:Hp}{s:Shared}{A:Around}{E:Value→Shared→Prop}{Q:Value→Shared→Prop}{c:Value}{b:Bool}
inductive kZ(K:PySem.W.Frag)(H:Hp):V→Value→Prop where
 |cn:kZ K H .cn (.type "NoneType")
 |bl (x:Bool):kZ K H (.bl x) (.type "bool")
 |int (i:Int):kZ K H (.int i) (.type "int")
 |str (x:Str):kZ K H (.str x) (.type "str")
 |EG (x:UInt64):kZ K H (.EG x) (.type "float")
 |lst {a:Addr} {xs:List V} (e:H a=some (.lst xs)):kZ K H (.ref a) (.type "list")
 |kR {a:Addr} {o:Obj} {xs:List V} (e:H a=some (.kR o (.lst xs))):kZ K H (.ref a) (.type "list")
 |tup {a:Addr} {xs:List V} (e:H a=some (.tup xs)):kZ K H (.ref a) (.type "tuple")
 |dK {a:Addr} {kvs:List (Key×V)} (e:H a=some (.dK kvs)):kZ K H (.ref a) (.type "dict")
 |dT {a:Addr} {kvs:List (List Key×V)} (e:H a=some (.dT kvs)):kZ K H (.ref a) (.type "dict")
 |ins {a C dx:Addr} {fs:List (Str×V)} (e:H a=some (.ins C dx fs)) (cl:r8 K C) (ha:PySem.W.findIn K (.ref C) "__class__" =some (some (.builtin "object.__class__")))
   (hn:PySem.W.specialIn K (.builtin "object.__class__") "__get__" =some (some (.builtin "getset_descriptor.__get__"))) (Vu:PySem.W.takesIn K (.builtin "object.__class__")=some true)
   (hm:PySem.W.mroIn K C (.type "object")=some true):kZ K H (.ref a) (.ref C)
theorem ye{x:V}{u t:Value}(I:Inv X pins σ H s)(rx:RelV x u)(ty:kZ X.K H x t)(e:PySem.W.kitOne X.K t c=some b)(h:∀tk,Q (.bool b) { s with toks:=tk }):
  wpAny (model X.prog X.w) A (call (.builtin "isinstance") [u,c]) Q E s:=by
 cases ty with
 |cn=>cases (show u=Value.none from rx);exact PySem.W.kia_one PySem.W.kitx_none I.fN True.intro e (fun z=>nomatch z) h
 |bl y=>cases (show u=Value.bool y from rx);exact PySem.W.kia_one PySem.W.kitx_bool I.fN True.intro e (fun z=>nomatch z) h
 |int i=>obtain⟨t,q⟩:=(show∃t,u=Value.int i t from rx);cases q;exact PySem.W.kia_one PySem.W.kitx_int I.fN True.intro e (fun z=>nomatch z) h
 |str y=>obtain⟨t,q⟩:=(show∃t,u=Value.str y t from rx);cases q;exact PySem.W.kia_one PySem.W.kitx_str I.fN True.intro e (fun z=>nomatch z) h
 |EG y=>obtain⟨t,q⟩:=(show∃t,u=Value.float y t from rx);cases q;exact PySem.W.kia_one PySem.W.kitx_float I.fN True.intro e (fun z=>nomatch z) h
 | @lst a xs ea=>
   cases (show u=Value.ref a from rx)
   obtain⟨_,_,n,_,h1⟩:=(show bT X.prog X.w H s.heap a (.lst xs) from I.bb a _ ea)
   exact PySem.W.kia_one PySem.W.kitx_list I.fN ⟨_,h1,rfl⟩ e (fun z=>nomatch z) h
 | @kR a ob xs ea=>
   cases (show u=Value.ref a from rx)
   obtain⟨_,_,_,n,_,h1⟩:=(show bT X.prog X.w H s.heap a (.kR ob (.lst xs)) from I.bb a _ ea)
   exact PySem.W.kia_one PySem.W.kitx_list I.fN ⟨_,h1,rfl⟩ e (fun z=>nomatch z) h
 | @tup a xs ea=>
   cases (show u=Value.ref a from rx)
   obtain⟨_,_,_,p⟩:=(show bT X.prog X.w H s.heap a (.tup xs) from I.bb a _ ea)
   obtain⟨o,h1,h2,_⟩:=p
   exact PySem.W.kia_one PySem.W.kitx_tuple I.fN ⟨o,h1,h2⟩ e (fun z=>nomatch z) h
 | @dK a kvs ea=>
   cases (show u=Value.ref a from rx)
   obtain⟨_,_,vs,_,p⟩:=(show bT X.prog X.w H s.heap a (.dK kvs) from I.bb a _ ea)
   obtain⟨o,es,ep,h1,h2,_⟩:=p
   exact PySem.W.kia_one PySem.W.kitx_dict I.fN ⟨o,h1,h2.1⟩ e (fun z=>nomatch z) h
 | @dT a kvs ea=>
   cases (show u=Value.ref a from rx)
   obtain⟨_,_,xs,_,o,es,ep,h1,h2,_⟩:=(show bT X.prog X.w H s.heap a (.dT kvs) from I.bb a _ ea)
   exact PySem.W.kia_one PySem.W.kitx_dict I.fN ⟨o,h1,h2.1⟩ e (fun z=>nomatch z) h
 | @ins a C dx fs ea cl ha hn Vu hm=>
   cases (show u=Value.ref a from rx)
   obtain⟨mA,O,_⟩:=mv I.bb ea
   obtain⟨od,J,_⟩:=O.look
   exact PySem.W.kia_one (PySem.W.kitx_own (cl.get _) cl.hd ha hn Vu hm) I.fN J e (fun z=>nomatch z) h
end
end L2
namespace L2
open PySem PySem.Spec PyProof.Rows
structure b9(k:Nat)(A:Around):Prop where
 hd:A.handled=none
 dp:A.depth+3*k+5<recursionLimit
 un:A.units+16*k+200<cLine
theorem b9.mono{j k:Nat}{A:Around}(r:b9 k A)(h:j≤k):b9 j A:=⟨r.hd,by have:=r.dp;omega,by have:=r.un;omega⟩
theorem b9.deeper{k:Nat}{A:Around}(r:b9 (k+1) A)(env:Env):b9 k (A.deeper env):=
 ⟨r.hd,by have:=r.dp;show A.depth+1+3*k+5<_;omega,by have:=r.un;show A.units+3+16*k+200<_;omega⟩
theorem vk{A:Around}{C:Addr}{us:List Value}{kw:List (Str×Value)}:(A.under (.builtin "type.__call__" ⟨.ref C::us,kw⟩)).depth=A.depth+1:=by
 first|rfl|simp [Around.under,Code.weight,Code.isCreation,Code.isGuard,Code.isCaller,Code.frames,Code.isFrame,guardIds]
theorem vm{A:Around}{C:Addr}{us:List Value}{kw:List (Str×Value)}:(A.under (.builtin "type.__call__" ⟨.ref C::us,kw⟩)).units=A.units+1:=by
 first|rfl|simp [Around.under,Code.cUnits,Code.frames,Code.isFrame]
theorem b9.make{k:Nat}{A:Around}(r:b9 (k+1) A)(C:Addr)(us:List Value)(kw:List (Str×Value)):b9 k (A.under (.builtin "type.__call__" ⟨.ref C::us,kw⟩)):=
 ⟨r.hd,by have:=r.dp;rw[vk];omega,by have:=r.un;rw[vm];omega⟩
theorem b9.depth{k:Nat}{A:Around}(r:b9 k A):A.depth<recursionLimit:=by have:=r.dp;omega
theorem b9.units{k:Nat}{A:Around}(r:b9 k A):A.units+64<cLine:=by have:=r.un;omega
theorem b9.qv{k:Nat}{A:Around}(r:b9 k A):A.units<cLine:=by have:=r.un;omega
def F9:TA:=fun _ H Q=>Q [] H
def JC(ta:TE)(tr:TA):TA:=fun σ H Q=>ta σ H fun x H1=>tr σ H1 fun xs H2=>Q (x::xs) H2
section
variable {X:Cx}{e:Expr}{es:List Expr}{te:TE}{t:TA}{pos:Pos}
theorem ao:PA X [] F9:=fun _ _ _ _ H Q I h=>Calls.spliced_nil ⟨[],H,I, .nil,h⟩
theorem aa(ha:PE X e te)(hr:PA X es t)(hs:starEach (e::es) X.env=(false,eval e X.env)::starEach es X.env:=by rfl):PA X (e::es) (JC te t):=by
 intro pos pins s σ H Q I h
 rw[hs]
 show wpAny _ _ (spliced ((false,eval e X.env)::backTo pos (starEach es X.env))) _ _ s
 refine Calls.spliced_cons (bL (ha pins s σ H _ I h) fun u s1 ⟨x,H1,I1,r1,q1⟩=>?_)
 exact bL (hr pos pins s1 σ H1 _ I1 q1) fun us s2 ⟨xs,H2,I2,r2,q2⟩=>⟨x::xs,H2,I2, .cons r1 r2,q2⟩
def Pz(t:TA):TE:=fun σ H Q=>t σ H fun xs H1=>xs.length≤sizeLine∧∀p,H1 p=none→Q (.ref p) (upd H1 p (.tup xs))
def PB(t:TA):TE:=fun σ H Q=>t σ H fun xs H1=>xs.length≤sizeLine∧∀p,H1 p=none→Q (.ref p) (upd H1 p (.lst xs))
theorem bM{x1}(h:PA X es t):PE X (.Tuple es x1 pos) (Pz t):=by
 intro pins s σ H Q I hq
 refine wpAny_Tuple_spliced (bL (h pos pins s σ H _ I hq) fun us s1 ⟨xs,H1,I1,r,z,q⟩=>⟨by rw[←r.length];exact z,?_⟩)
 have hf:H1 s1.heap.objs.size=none:=I1.bb.fresh (Nat.le_refl _)
 refine⟨.ref s1.heap.objs.size,upd H1 s1.heap.objs.size (.tup xs),I1.laid (t':=s1.toks) (fun b u e=>Heap.get?_push_of_some _ e) (Nat.le_refl _) ?_,rfl,q _ hf⟩
 exact⟨z,us,r,⟨_,Heap.get?_push_size _ rfl,rfl,_,rfl⟩⟩
theorem cm(h:PA X es t):PE X (.List es pos) (PB t):=by
 intro pins s σ H Q I hq
 refine wpAny_List_spliced (bL (h pos pins s σ H _ I hq) fun us s1 ⟨xs,H1,I1,r,z,q⟩=>⟨by rw[←r.length];exact z,?_⟩)
 have hf:H1 s1.heap.objs.size=none:=I1.bb.fresh (Nat.le_refl _)
 refine⟨.ref s1.heap.objs.size,upd H1 s1.heap.objs.size (.lst xs),I1.laid (t':=s1.toks) (fun b u e=>Heap.get?_push_of_some _ e) (Nat.le_refl _) ?_,rfl,q _ hf⟩
 exact⟨z,us,0,r,Heap.get?_push_size _ rfl⟩
end
abbrev Sp:=List V→Hp→VK→XK→Prop
abbrev zy:=List Env→Hp→Shared→XK→Value→Shared→Prop
structure qw(P:Program)(w:World)(K:PySem.W.Frag)(mg:Str→Option Value)(base:Heap)(A:Around)(outer:List Env)(s:Shared)(H:Hp):Prop where
 frames:A.frames=some outer
 mod:Mod K mg base
 bs:∀b o,base.get? b=some o→s.heap.get? b=some o∧H b=none
 wJ:base.objs.size≤s.heap.objs.size
 ir:s.heap.FunFrames base outer
 zv:∀b∈oC outer,H b=none
 bb:iq P w H s.heap
 bare:AllBare s.gens
def CE(outer:List Env)(P:Program)(w:World)(H:Hp)(s:Shared)(Q:VK)(u:Value)(s':Shared):Prop:=
 ∃v H',s'.os=s.os∧AllBare s'.gens∧Un (oC outer) [] H H' s.heap s'.heap∧iq P w H' s'.heap∧RelV v u∧Q v H'
def CR(CX:zy)(outer:List Env)(P:Program)(w:World)(H:Hp)(s:Shared)(Q:VK)(E:XK)(r:Result)(s':Shared):Prop:=
 match r with
 | .ok (.ret u)=>CE outer P w H s Q u s'
 | .ok _=>False
 | .error e=>CX outer H s E e s'
structure eD(P:Program)(w:World)(K:PySem.W.Frag)(mg:Str→Option Value)(base:Heap)(CX:zy)(k:Nat)(f:Addr)(fd:FuncData)(ps:List Str)(sp:Sp):Prop where
 len:∀vs H Q E,sp vs H Q E→vs.length=ps.length
 run:∀(A:Around) (outer:List Env) (s:Shared) (H:Hp) (args:Args) (us:List Value) (vs:List V) (Q:VK) (E:XK),b9 k A→qw P w K mg base A outer s H→BindsTo s fd args (ps.zip us)→Vals vs us→sp vs H Q E→
  codeAny (model P w) A (.call (.ref f) args) (CR CX outer P w H s Q E) s
theorem qw.make{P:Program}{w:World}{K:PySem.W.Frag}{mg:Str→Option Value}{base:Heap}{A:Around}{outer:List Env}{s:Shared}{H:Hp}(e:qw P w K mg base A outer s H)(C:Addr)(us:List Value)(kw:List (Str×Value)):
  qw P w K mg base (A.under (.builtin "type.__call__" ⟨.ref C::us,kw⟩)) outer s H:=⟨by first|exact e.frames| (simpa [Around.under,Code.envs,Code.isFrame,pushEnvs] using e.frames),e.mod,e.bs,e.wJ,e.ir,e.zv,e.bb,e.bare⟩
section
variable {X:Cx}{pins:List (Addr×Obj)}{σ:St}{H:Hp}{s s':Shared}
theorem Inv.z5(I:Inv X pins σ H s):qw X.prog X.w X.K X.mg X.base X.A X.stack s H:=
 ⟨I.ok.frames,I.ok.mod,I.bs,Nat.le_trans I.ok.wJ I.sz,I.stack,I.qo,I.bb,I.bare⟩
theorem Inv.after{Q:VK}{u:Value}(I:Inv X pins σ H s)(h:CE X.stack X.prog X.w H s Q u s'):EP X pins σ Q u s':=by
 obtain⟨v,H',os,bare,un,bb,r,q⟩:=h
 obtain⟨hh,g,d,t,WT⟩:=s'
 obtain rfl:WT=s.os:=os
 exact⟨v,H',I.call (h':=hh) (g':=g) (d':=d) (t':=t) (ch:=[]) un bb bare (fun b z=>absurd z (by simp)),r,q⟩
end
def JD(sp:Sp)(iW:List V)(E:XK)(t:TA):TE:=fun σ H Q=>t σ H fun vs H1=>sp (vs++iW) H1 Q E
def JE(C:Addr)(m:Str)(sp:Sp)(iW:List V)(E:XK)(ta:TE)(t:TA):TE:=fun σ H Q=>ta σ H fun x H1=>∃a dx fs,x= .ref a∧H1 a=some (.ins C dx fs)∧fs.lookup m=none∧
 t σ H1 fun vs H2=>sp (x::(vs++iW)) H2 Q E
def JF(C:Addr)(sp:Sp)(iW:List V)(E:XK)(t:TA):TE:=fun σ H Q=>t σ H fun vs H1=>∀x dx,H1 x=none→H1 dx=none→dx≠x→
 sp (.ref x::(vs++iW)) (upd (upd H1 dx (.own x)) x (.ins C dx [])) (fun v H2=>v= .cn∧Q (.ref x) H2) E
def Binds(K:PySem.W.Frag)(fd:FuncData)(ps:List Str)(ds:List Value):Prop:=
 ∀(s:Shared) (us:List Value),K.In s.heap→(us++ds).length=ps.length→BindsTo s fd ⟨us,[]⟩ (ps.zip (us++ds))
theorem Binds.all{K:PySem.W.Frag}{fd:FuncData}{ps:List Str}(h:∀us:List Value,us.length=ps.length→bindArgs fd ⟨us,[]⟩=pure (ps.zip us)):Binds K fd ps []:=fun s us _ hl=>by
 rw[List.append_nil] at hl ⊢
 exact .of_eq (h us hl)
def Passes(CX:zy)(X:Cx)(E:XK):Prop:=∀(pins:List (Addr×Obj)) (σ:St) (H:Hp) (s:Shared) (e:Value) (s':Shared),Inv X pins σ H s→CX X.stack H s E e s'→X.xe e s'
section
variable {X:Cx}{CX:zy}{k:Nat}{f C:Addr}{fd:FuncData}{ps:List Str}{sp:Sp}{iW:List V}{ds:List Value}{E:XK}{x m:Str}{p pos apos:Pos}{e o:Expr}{es:List Expr}{ta:TE}{t:TA}
theorem z6{pins:List (Addr×Obj)}{σ:St}{H:Hp}{s:Shared}{Q:VK}{us:List Value}{vs:List V}(F:eD X.prog X.w X.K X.mg X.base CX k f fd ps sp)(hr:b9 k X.A)(hb:Binds X.K fd ps ds)(hd:Vals iW ds)(hx:Passes CX X E)
  (I:Inv X pins σ H s) (r:Vals vs us) (h:sp (vs++iW) H Q E):wpAny (model X.prog X.w) X.A (call (.ref f) us) (EP X pins σ Q) X.xe s:=by
 have r2:Vals (vs++iW) (us++ds):=r.append hd
 have hl:(us++ds).length=ps.length:=by rw[←r2.length];exact F.len _ _ _ _ h
 refine wpAny_call (codeAny_mono (F.run X.A X.stack s H ⟨us,[]⟩ (us++ds) (vs++iW) Q E hr I.z5 (hb s us I.fN hl) r2 h) fun r s' hq=>?_)
 cases r with
 |error e=>exact hx pins σ H s e s' I hq
 |ok fl=>
  cases fl with
  |ret u=>exact I.after hq
  |next=>exact False.elim hq
  |brk=>exact False.elim hq
  |cont=>exact False.elim hq
theorem aN(F:eD X.prog X.w X.K X.mg X.base CX k f fd ps sp)(hr:b9 k X.A)(hg:Gl X x)(hm:X.mg x=some (.ref f))(hk:PySem.W.keepIn X.K (.ref f)=true)(hb:Binds X.K fd ps ds)(hd:Vals iW ds)(hx:Passes CX X E)
  (ha:PA X (e::es) t) (yf:(x==("__debug__" :Str))=false:=by decide) (he:starEach (e::es) X.env=(false,eval e X.env)::starEach es X.env:=by rfl) (k7:(backTo pos (starEach es X.env)).any (·.1)=false:=by rfl):
  PE X (.Call (.Name x p) (e::es) [] pos) (JD sp iW E t):=by
 intro pins s σ H Q I h
 refine wpAny_Call_Name_kw (eU I hg hm ?_ yf)
 refine PySem.W.callWith_K (h₀:=X.base) I.ok.mod.CC hk (bL (ha pos pins s σ H _ I h) fun us s1 ⟨vs,H1,I1,r,q⟩=>⟨I1.fN,?_⟩) he k7
 exact z6 F hr hb hd hx I1 r q
theorem bI{pl:Sem Bool}(he:PE X o ta)(c:r8 X.K C)(hm:Meth X.K C m f)(F:eD X.prog X.w X.K X.mg X.base CX k f fd ps sp)(hr:b9 k X.A)(hb:Binds X.K fd ps ds)(hd:Vals iW ds)(hx:Passes CX X E)
  (ht:eval (.Call (.Attribute o m apos) [] [] pos) X.env=(do
   let ov←eval o X.env
   standAt apos.atName
   let (f,first)←holding [ov] (getMethod ov m pl)
   callWith pos f first (backTo pos (starEach [] X.env)) (backToKw pos (keywordEach [] X.env))):=by rfl):
  PE X (.Call (.Attribute o m apos) [] [] pos) (JE C m sp iW E ta F9):=by
 intro pins s σ H Q I h
 refine PySem.W.methodCall_KW (pl:=pl) (bL (he pins s σ H _ I h) fun u s1 ⟨x,H1,I1,rx,a,dx,fs,ex,ea,l,q⟩=>?_) ht
 subst ex
 obtain rfl:u=Value.ref a:=rx
 refine jF I1 ea c hm l ?_
 exact PySem.W.callWith_K0 (first:=[.ref a]) I1.fN hm.kp (z6 (us:=[.ref a]) (vs:=[.ref a]) F hr hb hd hx I1 (.cons rfl .nil) q)
structure Mk(K:PySem.W.Frag)(C f:Addr):Prop where
 makes:PySem.W.makesIn K C=true
 init:PySem.W.findIn K (.ref C) "__init__" =some (some (.ref f))
 fn:PySem.W.isFn K (.ref f)=true
 kp:PySem.W.keepIn K (.ref C)=true
theorem z7{pins:List (Addr×Obj)}{σ:St}{H:Hp}{s:Shared}{Q:VK}{us:List Value}{vs:List V}(M:Mk X.K C f)(F:eD X.prog X.w X.K X.mg X.base CX k f fd ps sp)(hr:b9 (k+1) X.A)(hb:Binds X.K fd ps ds)(hd:Vals iW ds)
  (hx:Passes CX X E) (I:Inv X pins σ H s) (r:Vals vs us)
  (h:∀x dx,H x=none→H dx=none→dx≠x→sp (.ref x::(vs++iW)) (upd (upd H dx (.own x)) x (.ins C dx [])) (fun v H2=>v= .cn∧Q (.ref x) H2) E):
  wpAny (model X.prog X.w) X.A (call (.ref C) us) (EP X pins σ Q) X.xe s:=by
 have hq:=h (s.heap.objs.size+1) s.heap.objs.size (I.bb.fresh (Nat.le_succ _)) (I.bb.fresh (Nat.le_refl _)) (Nat.ne_of_lt (Nat.lt_succ_self _))
 have I2:=Inv.made (C:=C) I
 have r2:Vals (V.ref (s.heap.objs.size+1)::(vs++iW)) (Value.ref (s.heap.objs.size+1)::(us++ds)):= .cons rfl (r.append hd)
 have hl:(Value.ref (s.heap.objs.size+1)::us++ds).length=ps.length:=by
  have e:=r2.length
  rw[F.len _ _ _ _ hq] at e
  exact e.symm
 refine wpAny_call (z4 (f:=f) I.fN M.makes M.init (beq_iff_eq.mp M.fn) (codeAny_mono (F.run _ X.stack _ _ ⟨Value.ref (s.heap.objs.size+1)::us,[]⟩ (Value.ref (s.heap.objs.size+1)::(us++ds)) _ _ E (hr.make C us [])
  (I2.z5.make C us []) (hb _ (Value.ref (s.heap.objs.size+1)::us) I2.fN hl) r2 hq) fun r s' iC=>?_))
 cases r with
 |error e=>exact hx pins σ _ _ e s' I2 iC
 |ok fl=>
  cases fl with
  |ret u=>
   obtain⟨v,H',I3,rv,ev,q3⟩:=I2.after iC
   subst ev
   exact⟨rv,⟨V.ref (s.heap.objs.size+1),H',I3,rfl,q3⟩⟩
  |next=>exact False.elim iC
  |brk=>exact False.elim iC
  |cont=>exact False.elim iC
theorem fO(M:Mk X.K C f)(F:eD X.prog X.w X.K X.mg X.base CX k f fd ps sp)(hr:b9 (k+1) X.A)(hg:Gl X x)(hm:X.mg x=some (.ref C))(hb:Binds X.K fd ps ds)(hd:Vals iW ds)(hx:Passes CX X E)
  (ha:PA X (e::es) t) (yf:(x==("__debug__" :Str))=false:=by decide) (he:starEach (e::es) X.env=(false,eval e X.env)::starEach es X.env:=by rfl) (k7:(backTo pos (starEach es X.env)).any (·.1)=false:=by rfl):
  PE X (.Call (.Name x p) (e::es) [] pos) (JF C sp iW E t):=by
 intro pins s σ H Q I h
 refine wpAny_Call_Name_kw (eU I hg hm ?_ yf)
 refine PySem.W.callWith_K (h₀:=X.base) I.ok.mod.CC M.kp (bL (ha pos pins s σ H _ I h) fun us s1 ⟨vs,H1,I1,r,q⟩=>⟨I1.fN,?_⟩) he k7
 exact z7 M F hr hb hd hx I1 r q
end
section
variable {X:Cx}{CX:zy}{k:Nat}{f C:Addr}{fd:FuncData}{ps ks:List Str}{sp:Sp}{E:XK}{x m:Str}{p pos apos WU:Pos}{e o:Expr}{es:List Expr}{Zd:List Keyword}{te ta:TE}{t tk:TA}{nm:Option Str}
variable {g:List Value→List Value→List Value}{gV:List V→List V→List V}
end
structure ax(N P:List Str)(sc:Scope):Prop where
 kind:sc.kind= .function
 co:sc.isCoroutine=false
 gen:sc.isGenerator=false
 nd:N.Nodup
 pre:N.take P.length=P
 par:∀x∈P,sc.names.lookup x=some .local∨sc.names.lookup x=some .cell
 F':∀y∈sc.names,y.2≠ .free
theorem o8{kindOf:Str→Option NameKind}{x:Str}:∀{binds:List (Str×Value)} {m:Str→Option Value},(∀v,(x,v)∉binds)→bindL kindOf binds m x=m x
 | [],_,_=>rfl
 | (n,v)::r,m,h=>by
   unfold bindL
   rw[o8 fun w hw=>h w (List.mem_cons_of_mem _ hw)]
   split
   ·have:x≠n:=by rintro rfl;exact h v List.mem_cons_self
    simp [this]
   ·rfl
theorem o9{kindOf:Str→Option NameKind}{x:Str}:∀{binds:List (Str×Value)} {m:Str→Option Value},(∀v,(x,v)∉binds)→bindC kindOf binds m x=m x
 | [],_,_=>rfl
 | (n,v)::r,m,h=>by
   unfold bindC
   rw[o9 fun w hw=>h w (List.mem_cons_of_mem _ hw)]
   split
   ·rfl
   ·have:x≠n:=by rintro rfl;exact h v List.mem_cons_self
    simp [this]
theorem pb{kindOf:Str→Option NameKind}{x:Str}{v:Value}:∀{P:List Str} {vs:List Value} {i:Nat} {m:Str→Option Value},P.Nodup→P[i]? =some x→vs[i]? =some v→kindOf x=some .local→
  bindL kindOf (P.zip vs) m x=some v
 | [],_,_,_,_,h,_,_=>by simp at h
 |_::_,[],_,_,_,_,h,_=>by simp at h
 |p::P,w::vs,0,m,nd,h1,h2,hk=>by
  simp at h1 h2;subst h1;subst h2
  show bindL kindOf ((p,w)::P.zip vs) m p=_
  unfold bindL
  rw[o8 fun v hv=>(List.nodup_cons.mp nd).1 (List.of_mem_zip hv).1,if_pos hk]
  simp
 |p::P,w::vs,i+1,m,nd,h1,h2,hk=>by
  show bindL kindOf ((p,w)::P.zip vs) m x=_
  unfold bindL
  exact pb (i:=i) (List.nodup_cons.mp nd).2 (by simpa using h1) (by simpa using h2) hk
theorem pe{kindOf:Str→Option NameKind}{x:Str}{v:Value}:∀{P:List Str} {vs:List Value} {i:Nat} {m:Str→Option Value},P.Nodup→P[i]? =some x→vs[i]? =some v→kindOf x≠some .local→
  bindC kindOf (P.zip vs) m x=some v
 | [],_,_,_,_,h,_,_=>by simp at h
 |_::_,[],_,_,_,_,h,_=>by simp at h
 |p::P,w::vs,0,m,nd,h1,h2,hk=>by
  simp at h1 h2;subst h1;subst h2
  show bindC kindOf ((p,w)::P.zip vs) m p=_
  unfold bindC
  rw[o9 fun v hv=>(List.nodup_cons.mp nd).1 (List.of_mem_zip hv).1,if_neg hk]
  simp
 |p::P,w::vs,i+1,m,nd,h1,h2,hk=>by
  show bindC kindOf ((p,w)::P.zip vs) m x=_
  unfold bindC
  exact pe (i:=i) (List.nodup_cons.mp nd).2 (by simpa using h1) (by simpa using h2) hk
def start(N:List Str)(vs:List V):St:=vs.map some++List.replicate (N.length - vs.length) none
def fM(CX:zy)(P:Program)(w:World)(K:PySem.W.Frag)(mg:Str→Option Value)(base:Heap)(N:List Str)(qual:Str)(scope:Scope)(f:Addr)(cd:Value)(A:Around)(outer:List Env)(s:Shared)(H:Hp)(E:XK):Cx where
 prog:=P
 w:=w
 K:=K
 mg:=mg
 base:=base
 A:=A.deeper (envOfC qual scope s.heap.objs.size f cd)
 N:=N
 s₀:=s
 H₀:=H
 env:=envOfC qual scope s.heap.objs.size f cd
 outer:=outer
 stack:=envOfC qual scope s.heap.objs.size f cd::outer
 ex:=[]
 calm:=true
 fn:=fun _=>true
 pn:=[]
 xe:=fun e s'=>wpAny (model P w) (A.deeper (envOfC qual scope s.heap.objs.size f cd)) (leaving (envOfC qual scope s.heap.objs.size f cd) e) (fun _ JG=>CX outer H s E e JG) (fun e' JG=>CX outer H s E e' JG) s'
theorem sA{sc:Scope}{n:Nat}{x:Str}(h:sc.names.lookup x=some .cell):∃c,(cellsFrom n sc.names []).lookup x=some c:=by
 have q:=PySem.W.cellsFrom_some sc.names n [] (.inl h)
 exact Option.isSome_iff_exists.mp q
theorem pf{CX:zy}{P:Program}{w:World}{K:PySem.W.Frag}{mg:Str→Option Value}{base:Heap}{N ps:List Str}{qual:Str}{scope:Scope}{f:Addr}{cd:Value}{A:Around}{outer:List Env}{s s1:Shared}{H:Hp}{E:XK}{us:List Value}{vs:List V}
  (S:ax N ps scope) (hd:A.handled=none) (e0:qw P w K mg base A outer s H) (hl:vs.length=ps.length) (r:Vals vs us)
  (x:InCallC s s.heap.objs.size (bindL (envOfC qual scope s.heap.objs.size f cd).kindOf (ps.zip us) fun _=>none) (cellsFrom (s.heap.objs.size+1) scope.names []) (bindC (envOfC qual scope s.heap.objs.size f cd).kindOf (ps.zip us) fun _=>none) s1):
  Inv (fM CX P w K mg base N qual scope f cd A outer s H E) [] (start N vs) H s1:=by
 have k7:ps.length≤N.length:=by have:=congrArg List.length S.pre;rw[List.length_take] at this;omega
 obtain⟨h1,tk,rfl,hk⟩:=x.done
 have JH:∀b:Addr,b∉(fM CX P w K mg base N qual scope f cd A outer s H E).ex:=fun b z=>absurd (show b∈([]:List Addr) from z) (by simp)
 refine⟨⟨e0.mod,S.kind,rfl,rfl,Nat.le_refl _,fun y z c h1 h2=>?_,fun y hy=>?_,fun y c _ h=>?_,fun _=>hd,Around.frames_deeper e0.frames, .inr ⟨rfl,rfl⟩,fun b z=>absurd z (JH b),e0.bs,e0.wJ,fun b _ _=>JH b,fun b z=>absurd z (JH b),e0.ir,e0.zv⟩,
  rfl,e0.bare,Un.kept hk,⟨_,x.toInCall.ns,fun i y v h1 h2 h3=>?_⟩,fun y c h=>⟨_,x.cell y c h⟩,e0.bb.fresh (Nat.le_refl _),fun y c h=>?_,fun p hp=>absurd (show p∈([]:List (Addr×Obj)) from hp) (by simp),e0.bb.kept hk,?_⟩
 ·exact name_of_addr x.apart (PySem.mem_of_lookup h1) (PySem.mem_of_lookup h2)
 ·have hy:scope.names.lookup y=some .cell∨scope.names.lookup y=some .free:=hy
  rcases hy with hy|hy
  ·exact sA hy
  ·exact absurd rfl (S.F' _ (PySem.mem_of_lookup hy))
 ·exact Nat.le_of_lt (x.above y c (PySem.mem_of_lookup h))
 ·have hi:i<vs.length:=by
   unfold start at h2
   by_cases hi:i<vs.length
   ·exact hi
   ·rw[List.getElem?_append_right (by simpa using hi)] at h2
    rw[List.getElem?_replicate] at h2
    split at h2<;>cases h2
  have ha:vs[i]? =some v:=by
   unfold start at h2
   rw[List.getElem?_append_left (by simpa using hi),List.getElem?_map] at h2
   cases e:vs[i]? with
   |none=>rw[e] at h2;cases h2
   |some a=>rw[e] at h2;cases h2;rfl
  obtain⟨u,hu,rv⟩:=r.get ha
  have hp:ps[i]? =some y:=by
   rw[←S.pre,List.getElem?_take_of_lt (by omega)];exact h1
  have Vv:ps.Nodup:=by rw[←S.pre];exact S.nd.sublist (List.take_sublist _ _)
  refine⟨u,rv,?_⟩
  rcases S.par y (List.mem_of_getElem? hp) with k|k
  ·exact .inl ⟨k,pb Vv hp hu k⟩
  ·obtain⟨c,e⟩:=sA (n:=s.heap.objs.size+1) k
   refine .inr ⟨.inl k,c,e,?_⟩
   have q:=x.cell y c e
   rw[pe Vv hp hu (by show scope.names.lookup y≠_;rw[k];decide)] at q
   exact q
 ·exact e0.bb.fresh (Nat.le_of_lt (x.above y c (PySem.mem_of_lookup h)))
 ·unfold start
  show _=N.length
  rw[List.length_append,List.length_map,List.length_replicate]
  omega
theorem fn_of{CX:zy}{P:Program}{w:World}{K:PySem.W.Frag}{mg:Str→Option Value}{base:Heap}{k:Nat}{f:Addr}{name qual:Str}{params:Arguments}{body:List Stmt}{scope:Scope}{dV kV doc pm bj ct oc:Value}{an od:Option Addr}
  {mw:Array (Option Value)} {N ps:List Str} {sp:Sp} (lk:K.lookup f=some ⟨oc,od, .func (PySem.W.fnOf name qual params body scope dV kV doc pm an bj ct),mw⟩) (me:PySem.W.codeIn K bj qual=true) (S:ax N ps scope)
  (len:∀vs H Q E,sp vs H Q E→vs.length=ps.length)
  (cQ:∀(A:Around) (outer:List Env) (s:Shared) (H:Hp) (vs:List V) (Q:VK) (E:XK),b9 k (A.deeper (envOfC qual scope s.heap.objs.size f bj))→sp vs H Q E→
   ∃t,jA (fM CX P w K mg base N qual scope f bj A outer s H E) body t∧t { nx:=fun _ H'=>Q .cn H',rt:=Q } (start N vs) H):
  eD P w K mg base CX (k+1) f (PySem.W.fnOf name qual params body scope dV kV doc pm an bj ct) ps sp:=by
 refine⟨len,fun A outer s H args us vs Q E hr e0 hb r vn=>?_⟩
 have hl:=len _ _ _ _ vn
 have KX:K.In s.heap:=e0.mod.CC.keeps fun b o e=>(e0.bs b o e).1
 have lim:s.heap.NoLimit:=e0.mod.nolimit.keeps fun b o e=>(e0.bs b o e).1
 have z8:∀y∈ps.zip us,scope.names.lookup y.1=some .local∨(scope.names.lookup y.1=some .cell∧((cellsFrom (s.heap.objs.size+1) scope.names []).lookup y.1).isSome=true):=fun⟨n,v⟩ hy=>by
  rcases S.par n (List.of_mem_zip hy).1 with q|q
  ·exact .inl q
  ·exact .inr ⟨q,PySem.W.cellsFrom_some _ _ _ (.inl q)⟩
 refine codeAny_call_function hr.depth (KX _ _ lk) rfl S.co S.gen rfl (PySem.W.codeRec_of KX me) (hb _ _ _ _ ?_)
 refine wpAny_newFunctionEnv_cells S.kind z8 fun env he s1 x=>?_
 subst he
 refine⟨lim.keeps x.toInCall.keep,codeAny_func ?_⟩
 obtain⟨t,ht,hq⟩:=cQ A outer s H vs Q E (hr.deeper _) vn
 have I:Inv (fM CX P w K mg base N qual scope f bj A outer s H E) [] (start N vs) H s1:=pf S hr.hd e0 hl r x
 refine wpAny_mono (ht [] s1 (start N vs) H _ I hq) (fun fl s' hs=>?_) fun e s' hs=>hs
 have fin:∀{σ':St} {H':Hp} {v:V} {u:Value},Inv (fM CX P w K mg base N qual scope f bj A outer s H E) [] σ' H' s'→RelV v u→Q v H'→CE outer P w H s Q u s':=
  fun {σ' H' v u} J rv q=>⟨v,H',J.os,J.bare,J.base,J.bb,rv,q⟩
 cases fl with
 |ret u=>
  obtain⟨v,σ',H',J,rv,q⟩:=hs
  exact fin J rv q
 |next=>
  obtain⟨σ',H',J,q⟩:=hs
  exact fin (v:=V.cn) (u:=Value.none) J rfl q
 |brk=>
  obtain⟨_,_,_,q⟩:=hs
  exact False.elim q
 |cont=>
  obtain⟨_,_,_,q⟩:=hs
  exact False.elim q
end L2
namespace L2
open PySem PySem.Spec PyProof.Rows
section
variable {X:Cx}{x:Str}{p pos:Pos}{e:Expr}{es:List Expr}{t:TA}{id T:String}{r:List V→Hp→VK→Prop}
def Vw(r:List V→Hp→VK→Prop)(t:TA):TE:=fun σ H Q=>t σ H fun vs H1=>r vs H1 Q
theorem bJ(hc:iz X (.builtin id) r)(hg:Gl X x)(hm:X.mg x=none)(hv:bootBuiltins x=some (.builtin id))(ha:PA X (e::es) t)(hn:x≠"__name__" :=by decide)(yf:(x==("__debug__" :Str))=false:=by decide)
  (he:starEach (e::es) X.env=(false,eval e X.env)::starEach es X.env:=by rfl) (k7:(backTo pos (starEach es X.env)).any (·.1)=false:=by rfl):PE X (.Call (.Name x p) (e::es) [] pos) (Vw r t):=by
 intro pins s σ H Q I h
 refine wpAny_Call_Name_kw (qp I hg hm hv ?_ hn yf)
 exact PyProof.Rows.callWith_builtin1 (bL (ha pos pins s σ H _ I h) fun us s1 ⟨vs,H1,I1,r1,q1⟩=>hc pins s1 σ H1 vs us Q I1 r1 q1) he k7
theorem bN(hc:iz X (.type T) r)(hg:Gl X x)(hm:X.mg x=none)(hv:bootBuiltins x=some (.type T))(ha:PA X (e::es) t)(hn:x≠"__name__" :=by decide)(yf:(x==("__debug__" :Str))=false:=by decide)
  (he:starEach (e::es) X.env=(false,eval e X.env)::starEach es X.env:=by rfl) (k7:(backTo pos (starEach es X.env)).any (·.1)=false:=by rfl):PE X (.Call (.Name x p) (e::es) [] pos) (Vw r t):=by
 intro pins s σ H Q I h
 refine wpAny_Call_Name_kw (qp I hg hm hv ?_ hn yf)
 exact PyProof.Rows.callWith_type1 (bL (ha pos pins s σ H _ I h) fun us s1 ⟨vs,H1,I1,r1,q1⟩=>hc pins s1 σ H1 vs us Q I1 r1 q1) he k7
end
end L2
namespace L2
open PySem PySem.Spec PyProof.Rows
section
variable {κ:Type}[DecidableEq κ]
def cN(kvs:List (κ×V))(k:κ):Option V:=(kvs.find? fun kv=>decide (kv.1=k)).map (·.2)
def putK(kvs:List (κ×V))(k:κ)(v:V):List (κ×V):=
 if (kvs.any fun kv=>decide (kv.1=k))=true then kvs.map (fun kv=>if kv.1=k then (kv.1,v) else kv) else kvs++[(k,v)]
theorem gu{p:κ×V}{r:List (κ×V)}{k:κ}(e:p.1=k):cN (p::r) k=some p.2:=by simp [cN,List.find?_cons,e]
theorem gv{p:κ×V}{r:List (κ×V)}{k:κ}(e:¬p.1=k):cN (p::r) k=cN r k:=by simp [cN,List.find?_cons,e]
theorem gw(k:κ):∀kvs:List (κ×V),(kvs.any fun kv=>decide (kv.1=k))=(cN kvs k).isSome
 | []=>rfl
 |p::r=>by
  rw[List.any_cons]
  by_cases e:p.1=k
  ·simp only [gu e,decide_eq_true e,Bool.true_or,Option.isSome_some]
  ·rw[gv e,decide_eq_false e,Bool.false_or];exact gw k r
theorem eF(kvs:List (κ×V))(k:κ)(v:V):(putK kvs k v).length≤kvs.length+1:=by
 unfold putK
 split
 ·rw[List.length_map];omega
 ·rw[List.length_append,List.length_cons,List.length_nil];omega
theorem sC{kvs:List (κ×V)}{k:κ}(v:V)(h:cN kvs k=none):putK kvs k v=kvs++[(k,v)]:=by
 unfold putK
 rw[gw,h]
 exact if_neg (by decide)
theorem fK.k8{o:Option V}{u:Option Value}(r:fK o u):o.isSome=u.isSome:=by
 cases o with
 |none=>cases u with
  |none=>rfl
  |some _=>exact(show False from r).elim
 |some _=>cases u with
  |none=>exact(show False from r).elim
  |some _=>rfl
theorem fK.getD{o:Option V}{u:Option Value}{d:V}{d':Value}(r:fK o u)(rd:RelV d d'):RelV (o.getD d) (u.getD d'):=by
 cases o with
 |none=>cases u with
  |none=>exact rd
  |some _=>exact(show False from r).elim
 |some _=>cases u with
  |none=>exact(show False from r).elim
  |some _=>exact r
theorem KV.val{kvs:List (κ×V)}{vs:List (κ×Value)}(r:KV kvs vs)(k:κ):fK (cN kvs k) (valueAt vs k):=by
 unfold KV at r
 induction r with
 |nil=>exact True.intro
 | @cons p q ps qs h t ih=>
   obtain⟨h1,h2⟩:=h
   by_cases e:p.1=k
   ·have e':q.1=k:=h1.symm.trans e
    have b:valueAt (q::qs) k=some q.2:=by simp [valueAt,List.find?_cons,e']
    rw[gu e,b];exact h2
   ·have e':¬q.1=k:=fun z=>e (h1.trans z)
    have b:valueAt (q::qs) k=valueAt qs k:=by simp [valueAt,List.find?_cons,e']
    rw[gv e,b];exact ih
theorem KV.any{kvs:List (κ×V)}{vs:List (κ×Value)}(r:KV kvs vs)(k:κ):(kvs.any fun kv=>decide (kv.1=k))=vs.any fun kv=>decide (kv.1=k):=by
 unfold KV at r
 induction r with
 |nil=>rfl
 |cons h t ih=>rw[List.any_cons,List.any_cons,ih,h.1]
theorem KV.Ga{kvs:List (κ×V)}{vs:List (κ×Value)}(r:KV kvs vs)(k:κ){y:V}{u:Value}(ry:RelV y u):
  KV (kvs.map fun kv=>if kv.1=k then (kv.1,y) else kv) (vs.map fun kv=>if kv.1=k then (kv.1,u) else kv):=by
 unfold KV at r ⊢
 induction r with
 |nil=>exact .nil
 | @cons p q ps qs h t ih=>
   rw[List.map_cons,List.map_cons]
   refine .cons ?_ ih
   obtain⟨h1,h2⟩:=h
   by_cases e:p.1=k
   ·rw[if_pos e,if_pos (h1.symm.trans e)];exact⟨h1,ry⟩
   ·rw[if_neg e,if_neg (fun z=>e (h1.trans z))];exact⟨h1,h2⟩
theorem KV.put{kvs:List (κ×V)}{vs:List (κ×Value)}(r:KV kvs vs)(k:κ){y:V}{u:Value}(ry:RelV y u):KV (putK kvs k y) (stored vs k u):=by
 unfold putK stored
 rw[r.any k]
 by_cases e:(vs.any fun kv=>decide (kv.1=k))=true
 ·rw[if_pos e,if_pos e];exact r.Ga k ry
 ·rw[if_neg e,if_neg e];exact Paired.snoc r ⟨rfl,ry⟩
theorem KV.length{kvs:List (κ×V)}{vs:List (κ×Value)}(r:KV kvs vs):kvs.length=vs.length:=Paired.length r
end
theorem nk{P:Program}{w:World}{k:Key}{u:Value}(r:RelV (kV k) u):(bG P w).is k u=true:=by
 cases k with
 |inl i=>obtain⟨t,e⟩:=(show∃t,u=Value.int i t from r);subst e;exact sk P w i t
 |inr x=>obtain⟨t,e⟩:=(show∃t,u=Value.str x t from r);subst e;exact sr P w x t
theorem items_are{P:Program}{w:World}:∀{ks:List Key} {us:List Value},Vals (ks.map kV) us→ItemsAre (bG P w) ks us
 | [],_,r=>by rw[List.map_nil] at r;cases r;exact .nil
 |k::ks,_,r=>by
  rw[List.map_cons] at r
  cases r with
  |cons h t=>exact .cons (nk h) (items_are t)
abbrev KT(H:Hp):List (List Key×V)→List (List Key×Addr×Value)→Prop:=Paired fun p q=>p.1=q.1∧H q.2.1=some (.tup (p.1.map kV))∧RelV p.2 q.2.2
theorem KT.val{H:Hp}{kvs:List (List Key×V)}{xs:List (List Key×Addr×Value)}(r:KT H kvs xs)(k:List Key):fK (cN kvs k) ((atKey xs k).map (·.2)):=by
 induction r with
 |nil=>exact True.intro
 | @cons p q ps qs h t ih=>
   obtain⟨h1,_,h2⟩:=h
   by_cases e:p.1=k
   ·have e':q.1=k:=h1.symm.trans e
    have b:atKey (q::qs) k=some q.2:=by simp [atKey,List.find?_cons,e']
    rw[gu e,b];exact h2
   ·have e':¬q.1=k:=fun z=>e (h1.trans z)
    have b:atKey (q::qs) k=atKey qs k:=by simp [atKey,List.find?_cons,e']
    rw[gv e,b];exact ih
theorem KT.Ga{H:Hp}{kvs:List (List Key×V)}{xs:List (List Key×Addr×Value)}(r:KT H kvs xs)(k:List Key){y:V}{u:Value}(ry:RelV y u):
  KT H (kvs.map fun kv=>if kv.1=k then (kv.1,y) else kv) (xs.map (putAt k u)):=by
 induction r with
 |nil=>exact .nil
 | @cons p q ps qs h t ih=>
   rw[List.map_cons,List.map_cons]
   refine .cons ?_ ih
   obtain⟨h1,h2,h3⟩:=h
   unfold putAt
   by_cases e:p.1=k
   ·rw[if_pos e,if_pos (h1.symm.trans e)];exact⟨h1,h2,ry⟩
   ·rw[if_neg e,if_neg (fun z=>e (h1.trans z))];exact⟨h1,h2,h3⟩
theorem KT.put{H:Hp}{kvs:List (List Key×V)}{xs:List (List Key×Addr×Value)}(r:KT H kvs xs)(k:List Key){b:Addr}{y:V}{u:Value}(hb:H b=some (.tup (k.map kV)))(ry:RelV y u):
  KT H (putK kvs k y) (storedH xs k b u):=by
 have e:(kvs.any fun kv=>decide (kv.1=k))=(atKey xs k).isSome:=by
  rw[gw,(r.val k).k8,Option.isSome_map]
 unfold putK storedH
 rw[e]
 by_cases q:(atKey xs k).isSome=true
 ·rw[if_pos q,if_pos q];exact r.Ga k ry
 ·rw[if_neg q,if_neg q];exact Paired.snoc r ⟨rfl,hb,ry⟩
theorem KT.keeps{H H':Hp}{kvs:List (List Key×V)}{xs:List (List Key×Addr×Value)}(r:KT H kvs xs)(ht:∀b ys,H b=some (.tup ys)→H' b=some (.tup ys)):KT H' kvs xs:=
 Paired.FZ r fun _ _ z=>⟨z.1,ht _ _ z.2.1,z.2.2⟩
section
variable {P:Program}{w:World}{H:Hp}{h:Heap}{a:Addr}
theorem EO{u:HO}(ok:iq P w H h)(e:Rd H a u):bT P w H h a u:=e.ok ok
theorem ph{kvs:List (Key×V)}(ok:iq P w H h)(e:Rd H a (.dK kvs)):kvs.length≤sizeLine∧(a==sysModules)=false∧∃vs,KV kvs vs∧h.DictOf (bG P w) a vs:=
 show bT P w H h a (.dK kvs) from EO ok e
theorem wU{kvs:List (Key×V)}(ok:iq P w H h)(e:H a=some (.dK kvs)):kvs.length≤sizeLine∧(a==sysModules)=false∧∃vs,KV kvs vs∧h.DictOf (bG P w) a vs:=ph ok (.inl e)
theorem key_of{ks:List Key}(ok:iq P w H h)(e:H a=some (.tup (ks.map kV))):(tupleKind (bG P w)).is h ks a:=by
 obtain⟨_,its,r,o,h1,h2,n,h3⟩:=(show bT P w H h a (.tup (ks.map kV)) from ok a _ e)
 exact⟨o,its.toArray,n,h1,h2,h3,by simpa using items_are r⟩
theorem pj{kvs:List (List Key×V)}(ok:iq P w H h)(e:Rd H a (.dT kvs)):kvs.length≤sizeLine∧(a==sysModules)=false∧
  ∃xs,KT H kvs xs∧h.DictOfH (tupleKind (bG P w)) a xs:=by
 obtain⟨z,y,xs,r,o,es,ep,h1,h2,h3,h4,h5⟩:=(show bT P w H h a (.dT kvs) from EO ok e)
 refine⟨z,y,xs,r,o,es,ep,h1,h2,h3,h4,fun x hx=>?_,h5⟩
 have all:∀{l:List (List Key×V)} {m:List (List Key×Addr×Value)},KT H l m→∀x∈m,(tupleKind (bG P w)).is h x.1 x.2.1:=by
  intro l m q
  induction q with
  |nil=>intro x hx;exact nomatch hx
  | @cons p q ps qs hq t ih=>
    intro x hx
    rcases List.mem_cons.mp hx with e|hx
    ·subst e
     exact key_of ok (by rw[←hq.1];exact hq.2.1)
    ·exact ih x hx
 exact all r x hx
theorem JI{kvs:List (List Key×V)}(ok:iq P w H h)(e:H a=some (.dT kvs)):kvs.length≤sizeLine∧(a==sysModules)=false∧
  ∃xs,KT H kvs xs∧h.DictOfH (tupleKind (bG P w)) a xs:=pj ok (.inl e)
end
def mh(H:Hp)(a:Addr)(y:V)(r:Option V):Prop:=
 (∃kvs k,Rd H a (.dK kvs)∧y=kV k∧r=cN kvs k)∨∃kvs k b,Rd H a (.dT kvs)∧y= .ref b∧H b=some (.tup (k.map kV))∧r=cN kvs k
def vo(H:Hp)(a:Addr)(y v:V)(H':Hp):Prop:=
 (∃kvs k,H a=some (.dK kvs)∧y=kV k∧kvs.length<sizeLine∧H'=upd H a (.dK (putK kvs k v)))∨
 ∃kvs k b,H a=some (.dT kvs)∧y= .ref b∧H b=some (.tup (k.map kV))∧kvs.length<sizeLine∧H'=upd H a (.dT (putK kvs k v))
theorem mh.k{H:Hp}{a:Addr}{kvs:List (Key×V)}{k:Key}(e:H a=some (.dK kvs)):mh H a (kV k) (cN kvs k):= .inl ⟨kvs,k, .inl e,rfl,rfl⟩
theorem vo.k{H:Hp}{a:Addr}{kvs:List (Key×V)}{k:Key}{v:V}(e:H a=some (.dK kvs))(hl:kvs.length<sizeLine):vo H a (kV k) v (upd H a (.dK (putK kvs k v))):= .inl ⟨kvs,k,e,rfl,hl,rfl⟩
section
variable {X:Cx}{pins:List (Addr×Obj)}{σ:St}{H:Hp}{s:Shared}{a:Addr}{y v:V}{u r:Value}{o:Option V}{A:Around}{E:Value→Shared→Prop}
theorem Inv.big(I:Inv X pins σ H s):sysModules<s.heap.objs.size:=by
 have h:mainGlobals<s.heap.objs.size:=(I.mod.glob.keeps I.bk).lt
 exact Nat.lt_trans (by decide) h
theorem yg{Q:Value→Shared→Prop}(hu:A.units+1<cLine)(I:Inv X pins σ H s)(g:mh H a y (some v))(ry:RelV y u)(h:∀w' s',Inv X pins σ H s'→RelV v w'→Q w' s'):
  wpAny (model X.prog X.w) A (getItem (.ref a) u) Q E s:=by
 rcases g with ⟨kvs,k,e,ey,l⟩ | ⟨kvs,k,b,e,ey,eb,l⟩
 ·subst ey
  obtain⟨z,hd,vs,rel,dd⟩:=ph I.bb e
  obtain⟨w',hw,yh⟩:=fK.some_of (v:=v) (o:=valueAt vs k) (by rw[l];exact rel.val k)
  exact wpAny_getItem_of (nk ry) dd.mapOf hw (h w' _ (I.tok _) yh)
 ·subst ey
  cases (show u=Value.ref b from ry)
  obtain⟨z,hd,xs,rel,dd⟩:=pj I.bb e
  obtain⟨w',hw,yh⟩:=fK.some_of (v:=v) (o:=(atKey xs k).map (·.2)) (by rw[l];exact rel.val k)
  obtain⟨p,hp,Gb⟩:=Option.map_eq_some_iff.mp hw
  refine wpAny_getItem_heap (tupleKind_room_in1 hu) (key_of I.bb eb) dd hp ?_
  rw[Gb]
  exact h w' _ (I.tok _) yh
theorem PD{Q:Value→Shared→Prop}(hu:A.units+1<cLine)(I:Inv X pins σ H s)(g:mh H a y o)(ry:RelV y u)(h:∀s',Inv X pins σ H s'→Q (.bool o.isSome) s'):
  wpAny (model X.prog X.w) A (compareOp .In u (.ref a)) Q E s:=by
 rcases g with ⟨kvs,k,e,ey,l⟩ | ⟨kvs,k,b,e,ey,eb,l⟩
 ·subst ey
  obtain⟨z,hd,vs,rel,dd⟩:=ph I.bb e
  refine wpAny_in_of (nk ry) hd dd.mapOf ?_
  rw[←(rel.val k).k8,←l]
  exact h _ (I.tok _)
 ·subst ey
  cases (show u=Value.ref b from ry)
  obtain⟨z,hd,xs,rel,dd⟩:=pj I.bb e
  refine wpAny_in_heap (tupleKind_room_in1 hu) (key_of I.bb eb) hd dd ?_
  have q:=(rel.val k).k8
  rw[Option.isSome_map] at q
  rw[←q,←l]
  exact h _ (I.tok _)
theorem qx{h':Heap}{t':Nat}{ob:HO}(I:Inv X pins σ H s)(mu:Ji (H a))(hs:Heap.SameBut a s.heap h')(he:∃q,h'.get? a=some q)(new:bT X.prog X.w (upd H a ob) h' a ob):
  Inv X pins σ (upd H a ob) { s with heap:=h',toks:=t' }:=
 I.write (x:=a) (e:=a) mu (.inl rfl) (fun b q hb z=>(hs.2 b hb).trans z) he new
theorem vp{P:Program}{w:World}{H':Hp}{h':Heap}{kvs:List (Key×V)}{vs:List (Key×Value)}(z:kvs.length≤sizeLine)(hd:(a==sysModules)=false)(rel:KV kvs vs)(dd:h'.DictOf (bG P w) a vs):
  bT P w H' h' a (.dK kvs):=⟨z,hd,vs,rel,dd⟩
theorem yi{H':Hp}{Q:Unit→Shared→Prop}(hu:A.units+1<cLine)(I:Inv X pins σ H s)(g:vo H a y v H')(ry:RelV y u)(rv:RelV v r)(h:∀s',Inv X pins σ H' s'→Q () s'):
  wpAny (model X.prog X.w) A (setItem (.ref a) u r) Q E s:=by
 rcases g with ⟨kvs,k,e,ey,l,eH⟩ | ⟨kvs,k,b,e,ey,eb,l,eH⟩
 ·subst ey eH
  obtain⟨z,hd,vs,rel,dd⟩:=wU I.bb e
  have hz:vs.length≤sizeLine:=by rw[←rel.length];exact z
  have hl:(putK kvs k v).length≤sizeLine:=by have:=eF kvs k v;omega
  refine wpAny_setItem_pairs (hsz:=hz) (nk ry) dd fun h' ES hs=>h _ ?_
  have he:∃q,h'.get? a=some q:=let ⟨q,_,_,hq,_⟩:=ES;⟨q,hq⟩
  exact qx I (by rw[e];exact True.intro) hs he (vp hl hd (rel.put k rv) ES)
 ·subst ey eH
  cases (show u=Value.ref b from ry)
  obtain⟨z,hd,xs,rel,dd⟩:=JI I.bb e
  have hz:xs.length≤sizeLine:=by rw[←Paired.length rel];exact z
  have hl:(putK kvs k v).length≤sizeLine:=by have:=eF kvs k v;omega
  refine wpAny_setItem_heap (hsz:=hz) (tupleKind_room_in1 hu) (key_of I.bb eb) dd fun h' ES hs=>h _ ?_
  obtain⟨q,es,ep,hq,h2,h3,h4,_,h5⟩:=ES
  refine qx I (by rw[e];exact True.intro) hs ⟨q,hq⟩ ⟨hl,hd,_,(rel.put k eb rv).keeps fun c ys ec=>?_,q,es,ep,hq,h2,h3,h4,h5⟩
  rw[aj (mZ ec e (fun z=>nomatch z))]
  exact ec
end
section
variable {X:Cx}{pins:List (Addr×Obj)}{σ:St}{H:Hp}{s:Shared}{a:Addr}{kvs:List (Key×V)}{k:Key}{u:Value}{A:Around}{E:Value→Shared→Prop}
end
def JJ(i:Expr):Prop:=∀ov iv,subscripted i false ov iv=operate [ov,iv] (getItem ov iv)
theorem CM{prog:Program}{w:World}{A:Around}{E:Value→Shared→Prop}{s:Shared}{env:Env}{value slice:Expr}{pos:Pos}{T id:String}{Q:Value→Shared→Prop}
  (hl:typeLookup (.type T) "__getitem__" =pure (some (.builtin id))) (hs:JJ slice)
  (h:wpAny (model prog w) A (eval value env) (fun o s₁=>wpAny (model prog w) A (eval slice env) (fun i s₂=>s₂.TypeIs o T∧wpAny (model prog w) A (getItem o i) Q E s₂) E s₁) E s):
  wpAny (model prog w) A (eval (.Subscript value slice pos) env) Q E s:=by
 refine Subscript_ (wpAny_mono h (fun o s₁ h₁=>wpAny_mono h₁ (fun i s₂ h₂=>?_) fun _ _ x=>x) fun _ _ x=>x)
 obtain⟨hT,h₂⟩:=h₂
 unfold subscriptTail
 refine wpAny_bind ?_
 rw[getitemInPython_of_ne hT.not_modules]
 refine wpAny_bind (wpAny_specialOf hT hl ?_)
 have fin:wpAny (model prog w) A (subscripted slice false o i) (fun r s₃=>wpAny (model prog w) A (letTemporaryGo value o r >>= fun _=>pure r) Q E s₃) E s₂:=by
  rw[hs o i]
  exact wpAny_operating (wpAny_mono h₂ (fun r s₃ h₃=>wpAny_bind (wpAny_letTemporaryGo (wpAny_pure h₃))) fun _ _ x=>x)
 first
  |exact wpAny_pure (wpAny_bind fin)
  |exact wpAny_bind (wpAny_pure (wpAny_bind fin))
  |exact wpAny_bind fin
theorem sE{X:Cx}{pins:List (Addr×Obj)}{σ:St}{H:Hp}{s:Shared}{a:Addr}{y:V}{o:Option V}(I:Inv X pins σ H s)(g:mh H a y o):s.TypeIs (.ref a) "dict" :=by
 rcases g with ⟨kvs,k,e,_,_⟩ | ⟨kvs,k,b,e,_,_,_⟩
 ·obtain⟨_,_,vs,_,dd⟩:=ph I.bb e
  exact dd.typeIs
 ·obtain⟨_,_,xs,_,dd⟩:=pj I.bb e
  exact dd.typeIs
def JK(td ty:TE):TE:=fun σ H Q=>td σ H fun x H1=>ty σ H1 fun y H2=>∃a v,x= .ref a∧mh H2 a y (some v)∧Q v H2
def PJ(ty td:TE):TE:=fun σ H Q=>ty σ H fun y H1=>td σ H1 fun x H2=>∃a o,x= .ref a∧mh H2 a y o∧Q (.bl o.isSome) H2
def JL(td ty tv:TE):TS:=fun D σ H=>tv σ H fun v H1=>td σ H1 fun x H2=>ty σ H2 fun y H3=>∃a H4,x= .ref a∧vo H3 a y v H4∧D.nx σ H4
section
variable {X:Cx}{o i e value:Expr}{pos pos' JB:Pos}{td ty tv:TE}
theorem qy(hu:X.A.units+1<cLine)(ho:PE X o td)(hi:PE X i ty)(hs:JJ i):PE X (.Subscript o i pos) (JK td ty):=by
 intro pins s σ H Q I h
 refine CM PySem.F.slot_dict_getitem.lookup hs (bL (ho pins s σ H _ I h) fun u s1 ⟨x,H1,I1,rx,q1⟩=>bL (hi pins s1 σ H1 _ I1 q1) fun iv s2 ⟨y,H2,I2,ry,a,v,ex,g,q2⟩=>?_)
 subst ex
 obtain rfl:u=Value.ref a:=rx
 exact⟨sE I2 g,yg hu I2 g ry fun w' s3 I3 yh=>⟨v,H2,I3,yh,q2⟩⟩
theorem Gd(hu:X.A.units+1<cLine)(hi:PE X i ty)(ho:PE X o td):PC X .In i o (PJ ty td):=by
 intro pins s σ H Q I h
 refine bL (hi pins s σ H _ I h) fun iv s1 ⟨y,H1,I1,ry,q1⟩=>bL (ho pins s1 σ H1 _ I1 q1) fun u s2 ⟨x,H2,I2,rx,a,ov,ex,g,q2⟩=>?_
 subst ex
 obtain rfl:u=Value.ref a:=rx
 exact PD hu I2 g ry fun s3 I3=>⟨.bl ov.isSome,H2,I3,rfl,q2⟩
theorem qz(hu:X.A.units+1<cLine)(ho:PE X o td)(hi:PE X i ty)(hv:PE X value tv)(hs:swapsWith value (some (.Subscript o i pos')) pos.line X.env=pure false):
  PS X (.Assign [.Subscript o i pos'] value pos) (JL td ty tv):=by
 intro pins s σ H D I h
 refine wpAny_Assign_Subscript (bL (hv pins s σ H _ I h) fun r s1 ⟨v,H1,I1,rv,q1⟩=>bL (ho pins s1 σ H1 _ I1 q1) fun u s2 ⟨x,H2,I2,rx,q2⟩=>bL (hi pins s2 σ H2 _ I2 q2) fun iv s3 ⟨y,H3,I3,ry,a,H4,ex,g,q3⟩=>?_) hs
 subst ex
 obtain rfl:u=Value.ref a:=rx
 exact yi hu I3 g ry rv fun s4 I4=>⟨σ,H4,I4,q3⟩
end
theorem sF{P:Program}{w:World}{H:Hp}(h:Heap)(hb:sysModules<h.objs.size):bT P w H (h.push { cls:= .type "dict",data:= .dict #[] }) h.objs.size (.dK []):=
 ⟨Nat.zero_le _,beq_eq_false_iff_ne.mpr (Ne.symm (Nat.ne_of_lt hb)),[], .nil,Heap.DictOf.new h⟩
def Ge:TE:=fun _ H Q=>∀p,H p=none→Q (.ref p) (upd H p (.dK []))
section
variable {X:Cx}{pos:Pos}
theorem sG:PE X (.Dict [] [] pos) Ge:=fun pins s σ H Q I h=>
 wpAny_Dict_empty ⟨.ref s.heap.objs.size,_,I.laid (a:=s.heap.objs.size) (o:= .dK []) (t':=s.toks) (fun _ _ q=>Heap.get?_push_of_some _ q) (Nat.le_refl _) (sF s.heap I.big),rfl,h _ (I.bb.fresh (Nat.le_refl _))⟩
end
def vq:List (TE×TE)→St→Hp→(List (V×V)→Hp→Prop)→Prop
 | [],_,H,Q=>Q [] H
 | (tk,tv)::r,σ,H,Q=>tk σ H fun x H1=>tv σ H1 fun y H2=>vq r σ H2 fun ps H3=>Q ((x,y)::ps) H3
abbrev VV:List (V×V)→List (Value×Value)→Prop:=Paired fun p q=>RelV p.1 q.1∧RelV p.2 q.2
def Oo(X:Cx)(pos:Pos)(keys:List (Option Expr))(values:List Expr)(CN:List (TE×TE)):Prop:=
 ∀(pins:List (Addr×Obj)) (s:Shared) (σ:St) (H:Hp) (Q:List (V×V)→Hp→Prop),Inv X pins σ H s→vq CN σ H Q→
  wpAny (model X.prog X.w) X.A (evalPairs (pairTrees keys values X.env pos)) (fun vs s'=>∃ps H',Inv X pins σ H' s'∧VV ps vs∧Q ps H') X.xe s
theorem qA{X:Cx}{pos:Pos}:Oo X pos [] [] []:=fun pins s σ H Q I h=>pairTrees_nil_walk ⟨[],H,I, .nil,h⟩
theorem b5{X:Cx}{pos:Pos}{k v:Expr}{ks:List (Option Expr)}{vs:List Expr}{tk tv:TE}{CN:List (TE×TE)}(hk:PE X k tk)(hv:PE X v tv)(hr:Oo X pos ks vs CN):
  Oo X pos (some k::ks) (v::vs) ((tk,tv)::CN):=fun pins s σ H Q I h=>
 pairTrees_cons_walk (bL (hk pins s σ H _ I h) fun u s1 ⟨x,H1,I1,rx,q1⟩=>bL (hv pins s1 σ H1 _ I1 q1) fun w2 s2 ⟨y,H2,I2,ry,q2⟩=>
  bL (hr pins s2 σ H2 _ I2 q2) fun ws s3 ⟨ps,H3,I3,rel,q3⟩=>⟨(x,y)::ps,H3,I3, .cons ⟨rx,ry⟩ rel,q3⟩)
def b7(kvs more:List (Key×V)):List (Key×V):=more.foldl (fun acc kv=>putK acc kv.1 kv.2) kvs
theorem KV.merge:∀{more:List (Key×V)} {rs:List (Key×Value)} {kvs:List (Key×V)} {vs:List (Key×Value)},KV more rs→KV kvs vs→KV (b7 kvs more) (merged vs rs):=by
 intro more rs kvs vs r
 unfold KV at r
 induction r generalizing kvs vs with
 |nil=>intro q;exact q
 | @cons p q ps qs h t ih=>
   intro r0
   have e:KV (putK kvs p.1 p.2) (stored vs q.1 q.2):=by
    have:=r0.put p.1 h.2
    rw[←h.1];exact this
   exact ih e
theorem f6:∀(more kvs:List (Key×V)),(b7 kvs more).length≤kvs.length+more.length
 | [],kvs=>by show kvs.length≤kvs.length+0;omega
 |p::r,kvs=>by
  have h1:=f6 r (putK kvs p.1 p.2)
  have h2:=eF kvs p.1 p.2
  show (b7 (putK kvs p.1 p.2) r).length≤_
  rw[List.length_cons];omega
theorem nq{P:Program}{w:World}:∀{kvs:List (Key×V)} {ws:List (Value×Value)},VV (kvs.map fun kv=>(kV kv.1,kv.2)) ws→∃rs,Carries (bG P w) ws rs∧KV kvs rs
 | [],_,r=>by rw[List.map_nil] at r;cases r;exact⟨[],True.intro, .nil⟩
 |p::kvs,_,r=>by
  rw[List.map_cons] at r
  cases r with
  | @cons a b as bs h t=>
    obtain⟨rs,c,q⟩:=nq (P:=P) (w:=w) t
    obtain⟨b1,b2⟩:=b
    exact⟨(p.1,b2)::rs,⟨nk h.1,rfl,c⟩, .cons ⟨rfl,h.2⟩ q⟩
def JM(CN:List (TE×TE)):TE:=fun σ H Q=>∀p,H p=none→vq CN σ (upd H p (.dK [])) fun ps H2=>H2 p=some (.dK [])∧∃kvs:List (Key×V),ps=kvs.map (fun kv=>(kV kv.1,kv.2))∧kvs.length≤15∧Q (.ref p) (upd H2 p (.dK (b7 [] kvs)))
theorem qB{X:Cx}{pos:Pos}{keys:List (Option Expr)}{values:List Expr}{CN:List (TE×TE)}(h:Oo X pos keys values CN)(Gf:keys.all (·.isSome)=true)(hl:keys.length=values.length)(h0:keys≠[])
  (WV:keys.length≤15):PE X (.Dict keys values pos) (JM CN):=by
 intro pins s σ H Q I q
 have hn:=I.bb.fresh (Nat.le_refl s.heap.objs.size)
 have I1:=I.laid (a:=s.heap.objs.size) (o:= .dK []) (h':=s.heap.push { cls:= .type "dict",data:= .dict #[] }) (t':=s.toks) (fun _ _ q=>Heap.get?_push_of_some _ q) (Nat.le_refl _) (sF s.heap I.big)
 refine wpAny_Dict_walk (knd:=bG X.prog X.w) Gf hl h0 WV (bL (h pins _ σ _ _ I1 (q _ hn)) fun ws s2 ⟨ps,H2,I2,rel,e,kvs,ep,lk,q2⟩=>?_)
 subst ep
 obtain⟨rs,c,rk⟩:=nq (P:=X.prog) (w:=X.w) rel
 obtain⟨z,hd,Ze,r0,dd⟩:=wU I2.bb e
 cases r0
 refine⟨rs,c,dd,fun h' ES hs=>⟨.ref s.heap.objs.size,_,?_,rfl,q2⟩⟩
 have hz:(b7 [] kvs).length≤sizeLine:=by
  have h1:=f6 kvs []
  rw[List.length_nil] at h1
  rw[sizeLine_eq];omega
 have he:∃q,h'.get? s.heap.objs.size=some q:=let ⟨q,_,_,hq,_⟩:=ES;⟨q,hq⟩
 exact qx I2 (by rw[e];exact True.intro) hs he (vp hz hd (rk.merge .nil) ES)
structure M2(X:Cx)(o:Expr)(m:Str)(apos:Pos)(e f:Expr)(f7:Pos):Prop where
 base:attributeBase o m X.env (eval o X.env)=eval o X.env
 WW:((backTo f7 (starEach [e,f] X.env)).all (fun x=>!x.1)&&(backToKw f7 (keywordEach [] X.env)).all (fun x=>x.1.isSome)
  &&decide (([e,f]:List Expr).length+([]:List Keyword).length+(if ([]:List Keyword).isEmpty then 0 else 1) <30))=true
 line:(apos.endLine==f7.line)=true
 trees:backTo f7 (starEach [e,f] X.env)=[(false,eval e X.env),(false,eval f X.env)]
def Vx(H:Hp)(a:Addr):Prop:=(∃kvs,Rd H a (.dK kvs))∨∃kvs,Rd H a (.dT kvs)
theorem Gg{X:Cx}{pins:List (Addr×Obj)}{σ:St}{H:Hp}{s:Shared}{a:Addr}(I:Inv X pins σ H s)(d:Vx H a):
  s.TypeIs (.ref a) "dict" ∧(∀b,Value.ref a= .ref b→∃ob,s.heap.get? b=some ob∧ob.dict=none)∧(a==sysModules)=false:=by
 rcases d with ⟨kvs,e⟩ | ⟨kvs,e⟩
 ·obtain⟨_,hd,vs,_,dd⟩:=ph I.bb e
  refine⟨dd.typeIs,fun b q=>?_,hd⟩
  cases q
  obtain⟨ob,_,_,h1,h2,_⟩:=dd
  exact⟨ob,h1,h2.2.1⟩
 ·obtain⟨_,hd,xs,_,dd⟩:=pj I.bb e
  refine⟨dd.typeIs,fun b q=>?_,hd⟩
  cases q
  obtain⟨ob,_,_,h1,h2,_⟩:=dd
  exact⟨ob,h1,h2.2.1⟩
section
variable {X:Cx}{pins:List (Addr×Obj)}{σ:St}{H:Hp}{s:Shared}{a:Addr}{y d:V}{u r:Value}{o:Option V}{A:Around}{E:Value→Shared→Prop}
theorem Gh{Q:Value→Shared→Prop}(hu:A.units+1<cLine)(I:Inv X pins σ H s)(g:mh H a y o)(ry:RelV y u)(rd:RelV d r)(h:∀w' s',Inv X pins σ H s'→RelV (o.getD d) w'→Q w' s'):
  wpAny (model X.prog X.w) A (call (.builtin "dict.get") [.ref a,u,r]) Q E s:=by
 rcases g with ⟨kvs,k,e,ey,l⟩ | ⟨kvs,k,b,e,ey,eb,l⟩
 ·subst ey
  obtain⟨z,hd,vs,rel,dd⟩:=ph I.bb e
  refine call_meetsIn PySem.F.slot_dict_get dd.typeIs PySem.F.entry_dict_get (PySem.F.args_dict_get_3 _ _ _) (meets_dict_get_default (bG X.prog X.w) a (nk ry) hd r) ⟨_,dd.mapOf,h _ _ (I.tok _) ?_⟩
  rw[l]
  exact(rel.val k).getD rd
 ·subst ey
  cases (show u=Value.ref b from ry)
  obtain⟨z,hd,xs,rel,dd⟩:=pj I.bb e
  refine call_meetsIn PySem.F.slot_dict_get dd.typeIs PySem.F.entry_dict_get (PySem.F.args_dict_get_3 _ _ _) (meetsH_dict_get_default (tupleKind (bG X.prog X.w)) a b hd r) ⟨tupleKind_room_in1 hu,k,xs,key_of I.bb eb,dd,h _ _ (I.tok _) ?_⟩
  rw[l]
  exact(rel.val k).getD rd
end
def Gi(td ty tx:TE):TE:=fun σ H Q=>td σ H fun x H1=>∃a,x= .ref a∧Vx H1 a∧ty σ H1 fun y H2=>tx σ H2 fun z H3=>∃o,mh H3 a y o∧Q (o.getD z) H3
section
variable {X:Cx}{o e f:Expr}{apos f7:Pos}{td ty tx:TE}
theorem jZ(hu:X.A.units+1<cLine)(ho:PE X o td)(he:PE X e ty)(hf:PE X f tx)(m:M2 X o "get" apos e f f7):PE X (.Call (.Attribute o "get" apos) [e,f] [] f7) (Gi td ty tx):=by
 intro pins s σ H Q I h
 refine wpAny_Call_method m.base m.WW m.line PySem.F.plainAttrs_dict PySem.F.slot_dict_get PySem.F.type_dict_get (bL (ho pins s σ H _ I h) fun u s1 ⟨x,H1,I1,rx,a,ex,d,q1⟩=>?_)
 subst ex
 obtain rfl:u=Value.ref a:=rx
 obtain⟨t1,t2,_⟩:=Gg I1 d
 refine⟨t1,t2,?_⟩
 rw[m.trees]
 refine Calls.callWith_builtin rfl (Calls.evalArgs_plain (Calls.spliced_cons (bL (he pins s1 σ H1 _ I1 q1) fun iv s2 ⟨y,H2,I2,ry,q2⟩=>
  Calls.spliced_cons (bL (hf pins s2 σ H2 _ I2 q2) fun fv s3 ⟨z,H3,I3,rz,ov,g,q3⟩=>Calls.spliced_nil ?_))))
 exact Gh hu I3 g ry rz fun w' s4 I4 yh=>⟨_,H3,I4,yh,q3⟩
end
section
variable {X:Cx}{pins:List (Addr×Obj)}{σ:St}{H:Hp}{s:Shared}{a:Addr}{kvs:List (Key×V)}{A:Around}{E:Value→Shared→Prop}
end
section
variable {X:Cx}{pins:List (Addr×Obj)}{σ:St}{H:Hp}{s:Shared}{a:Addr}{y:V}{u:Value}{A:Around}{E:Value→Shared→Prop}
end
end L2
namespace HT
open PySem PyProof.Rows
section
open PySem.SeqAt
open PySem.AutoSeq1 (wpAny_loadPart')
open PySem.MeetsSeq PySem.MeetsSeq2 PySem.MeetsSeq3
end
section
variable {prog:Program}{w:World}{A:Around}{E:Value→Shared→Prop}{s:Shared}
def sH(n d:Nat):Option Int→Nat
 |none=>d
 |some v=>if v<0 then (v+(n:Int)).toNat else min v.toNat n
theorem sI(n d:Nat):sH n d none=d:=rfl
theorem mx(n d k:Nat):sH n d (some (k:Int))=min k n:=by
 show (if (k:Int) <0 then ((k:Int)+(n:Int)).toNat else min (k:Int).toNat n)=min k n
 rw[if_neg (by omega),Int.toNat_natCast]
end
end HT
namespace L2
open PySem PySem.Spec PyProof.Rows
abbrev TO:=St→Hp→(Option Int→Hp→Prop)→Prop
def PO(X:Cx)(e:Option Expr)(t:TO):Prop:=
 ∀(pins:List (Addr×Obj)) (s:Shared) (σ:St) (H:Hp) (Q:Option Int→Hp→Prop),Inv X pins σ H s→t σ H Q→
  wpAny (model X.prog X.w) X.A (evalPart e X.env) (fun u s'=>∃o H',Inv X pins σ H' s'∧IsPart u o∧Q o H') X.xe s
def CO:TO:=fun _ H Q=>Q none H
def JN(t:TE):TO:=fun σ H Q=>t σ H fun x H1=>∃i,x= .int i∧Q (some i) H1
section
variable {X:Cx}{e:Expr}{te:TE}{lo hi:Option Expr}{tl th:TO}{pos p2:Pos}
theorem dv:PO X none CO:=by
 intro pins s σ H Q I h
 rw[evalPart_none]
 exact wpAny_pure ⟨none,H,I, .none,h⟩
theorem bF(h:PE X e te):PO X (some e) (JN te):=by
 intro pins s σ H Q I hw
 rw[evalPart_some]
 refine bL (h pins s σ H _ I hw) fun u s1 ⟨x,H1,I1,r1,q1⟩=>?_
 obtain⟨i,rfl,q⟩:=q1
 obtain⟨t,rfl⟩:=r1
 exact⟨some i,H1,I1, .int i t,q⟩
def PK(X:Cx)(r:V→Option Int→Option Int→Hp→VK→Prop):Prop:=
 ∀(pins:List (Addr×Obj)) (s:Shared) (σ:St) (H:Hp) (x:V) (v vl vu:Value) (lo hi:Option Int) (sl:Addr) (Q:VK),Inv X pins σ H s→RelV x v→s.heap.IsSliceOf sl vl vu .none→IsPart vl lo→IsPart vu hi→r x lo hi H Q→
  ∃T id,typeLookup (.type T) "__getitem__" =pure (some (.builtin id))∧s.TypeIs v T∧wpAny (model X.prog X.w) X.A (getItem v (.ref sl)) (EP X pins σ Q) X.xe s
def WX(r:V→Option Int→Option Int→Hp→VK→Prop)(te:TE)(tl th:TO):TE:=fun σ H Q=>te σ H fun x H1=>tl σ H1 fun l H2=>th σ H2 fun u H3=>r x l u H3 Q
theorem bK{r:V→Option Int→Option Int→Hp→VK→Prop}(hr:PK X r)(he:PE X e te)(hl:PO X lo tl)(hu:PO X hi th):PE X (.Subscript e (.Slice lo hi none p2) pos) (WX r te tl th):=by
 intro pins s σ H Q I h
 refine Subscript_ (bL (he pins s σ H _ I h) fun v s1 ⟨x,H1,I1,r1,q1⟩=>?_)
 refine wpAny_Slice (bL (hl pins s1 σ H1 _ I1 q1) fun vl s2 ⟨l,H2,I2,pl,q2⟩=>bL (hu pins s2 σ H2 _ I2 q2) fun vu s3 ⟨u,H3,I3,pu,q3⟩=>?_)
 rw[evalPart_none]
 refine wpAny_pure ?_
 have I4:Inv X pins σ H3 { s3 with heap:=s3.heap.push { cls:= .type "slice",data:= .fields #[vl,vu, .none] } }:=I3.kept (t':=s3.toks) fun b ob q=>Heap.get?_push_of_some _ q
 obtain⟨T,id,hT,ht,hg⟩:=hr pins { s3 with heap:=s3.heap.push { cls:= .type "slice",data:= .fields #[vl,vu, .none] } } σ H3 x v vl vu l u s3.heap.objs.size Q I4 r1 (Heap.IsSliceOf.new ..) pl pu q3
 show wpAny (model X.prog X.w) X.A (subscriptTail e (.Slice lo hi none p2) v (.ref s3.heap.objs.size)) (EP X pins σ Q) X.xe { s3 with heap:=s3.heap.push { cls:= .type "slice",data:= .fields #[vl,vu, .none] } }
 exact tail_any (ops:=[.ref s3.heap.objs.size,v]) ht hT hg (by with_unfolding_all rfl)
def k9(xs:List V)(lo hi:Option Int):List V:=(xs.drop (HT.sH xs.length 0 lo)).take (HT.sH xs.length xs.length hi - HT.sH xs.length 0 lo)
theorem sJ(xs:List V)(lo hi:Option Int):(k9 xs lo hi).length≤xs.length:=by
 unfold k9
 rw[List.length_take,List.length_drop]
 omega
end
end L2
namespace L2
open PySem PySem.Spec PyProof.Rows
def IT(n:Nat)(i:Int):Option Nat:=if 0≤i then (if i<n then some i.toNat else none) else if -(n:Int)≤i then some (i+n).toNat else none
def wV{α:Type}(xs:List α)(i:Int):Option α:=(IT xs.length i).bind fun j=>xs[j]?
theorem CP{n:Nat}{i:Int}{j:Nat}(h:IT n i=some j):seqIndex? i n=some j∧j<n∧ -(n:Int)≤i∧i<n:=by
 unfold IT at h
 by_cases h0:0≤i
 ·rw[if_pos h0] at h
  by_cases h1:i<n
  ·rw[if_pos h1] at h
   have e:i.toNat=j:=Option.some.inj h
   exact⟨by rw[seqIndex_of h0 h1,e],by omega,by omega,h1⟩
  ·rw[if_neg h1] at h;cases h
 ·rw[if_neg h0] at h
  by_cases h1: -(n:Int)≤i
  ·rw[if_pos h1] at h
   have e:(i+n).toNat=j:=Option.some.inj h
   exact⟨by rw[seqIndex_neg (by omega) h1,e],by omega,h1,by omega⟩
  ·rw[if_neg h1] at h;cases h
theorem qC{α:Type}{xs:List α}{i:Int}{v:α}(h:wV xs i=some v):∃j,seqIndex? i xs.length=some j∧xs[j]? =some v∧j<xs.length∧ -(xs.length:Int)≤i∧i<xs.length:=by
 unfold wV at h
 cases e:IT xs.length i with
 |none=>rw[e] at h;cases h
 |some j=>
  rw[e] at h
  obtain⟨h1,h2,h3,h4⟩:=CP e
  exact⟨j,h1,h,h2,h3,h4⟩
theorem gT{α:Type}{xs:List α}{j:Nat}{v:α}(h:xs[j]? =some v):wV xs (j:Int)=some v:=by
 have hj:j<xs.length:=(List.getElem?_eq_some_iff.mp h).1
 have e:IT xs.length (j:Int)=some j:=by
  unfold IT
  rw[if_pos (by omega),if_pos (by omega)];simp
 unfold wV;rw[e];exact h
def CQ(b:Expr):Prop:=∀o i,subscripted b false o i=operate [o,i] (getItem o i)
def JO(X:Cx)(r:R2):Prop:=
 ∀(value slice:Expr) (pins:List (Addr×Obj)) (s:Shared) (σ:St) (H:Hp) (x y:V) (v u:Value) (Q:VK),Inv X pins σ H s→RelV x v→RelV y u→r x y H Q→
  subscripted slice false v u=operate [v,u] (getItem v u)→wpAny (model X.prog X.w) X.A (subscriptTail value slice v u) (EP X pins σ Q) X.xe s
def Oq(X:Cx)(id:String)(r:V→List V→Hp→VK→Prop):Prop:=
 ∀(pins:List (Addr×Obj)) (s:Shared) (σ:St) (H:Hp) (x:V) (xs:List V) (v:Value) (us:List Value) (Q:VK),Inv X pins σ H s→RelV x v→Vals xs us→r x xs H Q→
  wpAny (model X.prog X.w) X.A (call (.builtin id) (v::us)) (EP X pins σ Q) X.xe s
section
variable {X:Cx}{a b:Expr}{ta tb:TE}{pos:Pos}
theorem b8{r:R2}(hr:JO X r)(ha:PE X a ta)(hb:PE X b tb)(hs:CQ b):PE X (.Subscript a b pos) (Co r ta tb):=by
 intro pins s σ H Q I h
 exact Subscript_ (F5 ha hb I h fun v u s2 x y H2 I2 rx ry q=>hr a b pins s2 σ H2 x y v u Q I2 rx ry q (hs _ _))
def JP(K:PySem.W.Frag):R2:=fun x y H Q=>∃p xs i v,x= .ref p∧y= .int i∧cz K H p xs∧wV xs i=some v∧Q v H
def PL(K:PySem.W.Frag):R2:=fun x y H Q=>∃p xs i v,x= .ref p∧y= .int i∧jD K H p xs∧wV xs i=some v∧Q v H
def PM:R2:=fun x y H Q=>∃z i c,x= .str z∧y= .int i∧z.length≤sizeLine∧wV z.cps.toList i=some c∧Q (.str ⟨#[c]⟩) H
theorem dN:JO X (JP X.K):=by
 intro value slice pins s σ H x y v u Q I rx ry h hs
 obtain⟨p,xs,i,z,rfl,rfl,hq,he,q⟩:=h
 cases rx
 obtain⟨t,rfl⟩:=ry
 obtain⟨its,r,pl,hz⟩:=I.list hq
 obtain⟨j,h1,h2,h3,h4,h5⟩:=qC he
 obtain⟨w,ew,yh⟩:=r.get h2
 have hl:=r.length
 have hn:=jE
 have fin:EP X pins σ Q w s:=⟨z,H,I,yh,q⟩
 by_cases h0:0≤i
 ·have hj:i.toNat=j:=by
   rw[seqIndex_of h0 h5] at h1
   exact Option.some.inj h1
  exact item_listR pl.isList h0 (by omega) (by rw[hj];simpa using ew) fin hs
 ·have hj:(i+(its.toArray.size:Int)).toNat=j:=by
   rw[seqIndex_neg (by omega) h4] at h1
   rw[List.size_toArray,←hl]
   exact Option.some.inj h1
  exact subscriptTail_builtinR (x:=w) pl.isList.typeIs slot_list_getitem.lookup
   (wpAny_getItem_list_neg (Q:=fun r s'=>r=w∧EP X pins σ Q r s') pl.isList (by omega) (by rw[List.size_toArray]<;>omega) (by omega) (by rw[hj];simpa using ew) ⟨rfl,fin⟩) hs
theorem f9:JO X (PL X.K):=by
 intro value slice pins s σ H x y v u Q I rx ry h hs
 obtain⟨p,xs,i,z,rfl,rfl,hq,he,q⟩:=h
 cases rx
 obtain⟨t,rfl⟩:=ry
 obtain⟨its,r,pl,hz⟩:=I.tuple hq
 obtain⟨j,h1,h2,h3,h4,h5⟩:=qC he
 obtain⟨w,ew,yh⟩:=r.get h2
 have hl:=r.length
 have hn:=jE
 have fin:EP X pins σ Q w s:=⟨z,H,I,yh,q⟩
 exact subscriptTail_builtinR (x:=w) pl.typeIs slot_tuple_getitem.lookup
  (getItem_tuple (j:=j) (Q:=fun r s'=>r=w∧EP X pins σ Q r s') pl (by omega) (by omega) (by rw[List.size_toArray,←hl];exact h1) (by simpa using ew) ⟨rfl,fin⟩) hs
theorem gU:JO X PM:=by
 intro value slice pins s σ H x y v u Q I rx ry h hs
 obtain⟨z,i,c,rfl,rfl,hz,he,q⟩:=h
 obtain⟨t,rfl⟩:=rx
 obtain⟨t',rfl⟩:=ry
 obtain⟨j,h1,h2,h3,h4,h5⟩:=qC he
 have hl:z.cps.toList.length=z.length:=by simp [Str.length]
 rw[hl] at h1 h4 h5
 have hn:=jE
 exact tail_any (typeIs_str s z t) slot_str_getitem.lookup (getItem_str (c:=c) (by
  have e1:decide (i< -(2^63 :Int))=false:=decide_eq_false (by omega)
  have e2:decide (i≥2^63)=false:=decide_eq_false (by omega)
  rw[e1,e2,Bool.or_false]) (by rw[h1];simpa using h2) ⟨.str ⟨#[c]⟩,H,I.tok _,⟨_,rfl⟩,q⟩) hs
theorem slice_bounds(lo hi:Option Int)(n:Nat):(sliceBounds lo hi none n).1=((HT.sH n 0 lo:Nat):Int)∧(sliceBounds lo hi none n).2.1=((HT.sH n n hi:Nat):Int)∧(sliceBounds lo hi none n).2.2=1:=by
 refine⟨?_,?_,rfl⟩
 ·cases lo with
  |none=>simp [sliceBounds,HT.sH]
  |some i=>
   simp only [sliceBounds,HT.sH,Option.getD_none,show (1 :Int) >0 by decide,if_true]
   by_cases h:i<0
   ·simp only [h,if_true]<;>omega
   ·simp only [h,if_false]<;>omega
 ·cases hi with
  |none=>simp [sliceBounds,HT.sH]
  |some i=>
   simp only [sliceBounds,HT.sH,Option.getD_none,show (1 :Int) >0 by decide,if_true]
   by_cases h:i<0
   ·simp only [h,if_true]<;>omega
   ·simp only [h,if_false]<;>omega
theorem oF(its:List Value)(lo hi:Option Int):slicePick its.toArray lo hi none=((its.drop (HT.sH its.length 0 lo)).take (HT.sH its.length its.length hi - HT.sH its.length 0 lo)).toArray:=by
 obtain⟨h1,h2,h3⟩:=slice_bounds lo hi its.toArray.size
 unfold slicePick
 rw[h1,h2,h3]
 simp only [sliceRange_one,pick_run,List.size_toArray]<;>rfl
def PN(K:PySem.W.Frag):V→Option Int→Option Int→Hp→VK→Prop:=fun x lo hi H Q=>∃a xs,x= .ref a∧cz K H a xs∧∀p,H p=none→Q (.ref p) (upd H p (.lst (k9 xs lo hi)))
theorem qD:PK X (PN X.K):=by
 intro pins s σ H x v vl vu lo hi sl Q I rx hs pl pu h
 obtain⟨a,xs,rfl,hx,q⟩:=h
 cases rx
 obtain⟨its,r,ht,hz⟩:=I.list hx
 have hlen:=r.length
 refine⟨"list",_,slot_list_getitem.lookup,ht.isList.typeIs,?_⟩
 refine wpAny_getItem_list_slice ht.isList hs pl pu .none (by simp) ?_ (by rw[List.size_toArray]<;>omega)
 rw[oF,←hlen]
 refine⟨.ref s.heap.objs.size,_,I.laid (t':=s.toks) (o:= .lst (k9 xs lo hi)) (fun b ob q=>Heap.get?_push_of_some _ q) (Nat.le_refl _) ?_,rfl,q _ (I.bb.fresh (Nat.le_refl _))⟩
 exact⟨Nat.le_trans (sJ xs lo hi) hz,_,0,(r.drop (HT.sH xs.length 0 lo)).take (HT.sH xs.length xs.length hi - HT.sH xs.length 0 lo),Heap.get?_push_size _ rfl⟩
def ju:V→Bool
 | .cn=>true
 | .bl _=>true
 | .int _=>true
 | .str _=>true
 |_=>false
def z9:V→V→Bool
 | .cn, .cn=>true
 | .bl a, .bl b=>a==b
 | .bl a, .int b=>(if a then 1 else 0)==b
 | .int a, .bl b=>a==(if b then 1 else 0)
 | .int a, .int b=>a==b
 | .str a, .str b=>a==b
 |_,_=>false
theorem Gj{A:Around}{s:Shared}{y x:V}{u v:Value}(ry:RelV y u)(rx:RelV x v)(fy:ju y=true)(fx:ju x=true):SeqAt.EqAt A s u v (z9 y x):=by
 cases y with
 |cn=>
  cases ry
  cases x with
  |cn=>cases rx;exact SeqAt.EqAt.same _
  |bl b=>cases rx;exact SeqAt.EqAt.none_bool b
  |int b=>obtain⟨t,rfl⟩:=rx;exact SeqAt.EqAt.none_int b t
  |str b=>obtain⟨t,rfl⟩:=rx;exact SeqAt.EqAt.none_str b t
  |_=>exact absurd (show false=true from fx) Bool.false_ne_true
 |bl a=>
  cases ry
  cases x with
  |cn=>cases rx;exact SeqAt.EqAt.bool_none a
  |bl b=>cases rx;exact SeqAt.EqAt.bool_bool a b
  |int b=>obtain⟨t,rfl⟩:=rx;exact SeqAt.EqAt.bool_int a b t
  |str b=>obtain⟨t,rfl⟩:=rx;exact SeqAt.EqAt.bool_str a b t
  |_=>exact absurd (show false=true from fx) Bool.false_ne_true
 |int a=>
  obtain⟨t',rfl⟩:=ry
  cases x with
  |cn=>cases rx;exact SeqAt.EqAt.int_none a t'
  |bl b=>cases rx;exact SeqAt.EqAt.int_bool a t' b
  |int b=>obtain⟨t,rfl⟩:=rx;exact SeqAt.EqAt.int_int a t' b t
  |str b=>obtain⟨t,rfl⟩:=rx;exact SeqAt.EqAt.int_str a t' b t
  |_=>exact absurd (show false=true from fx) Bool.false_ne_true
 |str a=>
  obtain⟨t',rfl⟩:=ry
  cases x with
  |cn=>cases rx;exact SeqAt.EqAt.str_none a t'
  |bl b=>cases rx;exact SeqAt.EqAt.str_bool a t' b
  |int b=>obtain⟨t,rfl⟩:=rx;exact SeqAt.EqAt.str_int a t' b t
  |str b=>obtain⟨t,rfl⟩:=rx;exact SeqAt.EqAt.str_str a t' b t
  |_=>exact absurd (show false=true from fx) Bool.false_ne_true
 |_=>exact absurd (show false=true from fy) Bool.false_ne_true
def Aa(x:V)(u:Value):Bool:=match u with
 | .none=>z9 .cn x
 | .bool b=>z9 (.bl b) x
 | .int i _=>z9 (.int i) x
 | .str z _=>z9 (.str z) x
 |_=>false
theorem vt{x y:V}{u:Value}(r:RelV y u)(f:ju y=true):Aa x u=z9 y x:=by
 cases y with
 |cn=>cases r;rfl
 |bl b=>cases r;rfl
 |int i=>obtain⟨t,rfl⟩:=r;rfl
 |str z=>obtain⟨t,rfl⟩:=r;rfl
 |_=>exact absurd (show false=true from f) Bool.false_ne_true
theorem qF{x:V}:∀{xs:List V} {us:List Value},Vals xs us→xs.all ju=true→us.any (Aa x)=xs.any fun y=>z9 y x
 |_,_, .nil,_=>rfl
 |y::xs,u::us, .cons r t,f=>by
  rw[List.all_cons,Bool.and_eq_true] at f
  rw[List.any_cons,List.any_cons,vt r f.1,qF t f.2]
theorem j0{A:Around}{s:Shared}{x:V}{v:Value}(rx:RelV x v)(fx:ju x=true):∀{xs:List V} {us:List Value},Vals xs us→xs.all ju=true→∀u∈us,SeqAt.EqAt A s u v (Aa x u)
 |_,_, .nil,_=>fun u hu=>by cases hu
 |y::xs,u::us, .cons r t,f=>fun u' hu=>by
  rw[List.all_cons,Bool.and_eq_true] at f
  rcases List.mem_cons.mp hu with rfl|hu
  ·rw[vt r f.1];exact Gj r rx f.1 fx
  ·exact j0 rx fx t f.2 u' hu
def ET(x:V)(xs:List V):Bool:=xs.any fun y=>z9 y x
def WY(K:PySem.W.Frag)(neg:Bool):R2:=fun x y H Q=>∃p xs,y= .ref p∧(cz K H p xs∨jD K H p xs)∧ju x=true∧xs.all ju=true∧Q (.bl (if neg then !ET x xs else ET x xs)) H
theorem lb:mf X (compareOp .In) (WY X.K false):=by
 intro pins s σ H x y v u Q I rx ry h
 obtain⟨p,xs,rfl,hq,fx,fs,q⟩:=h
 cases ry
 rcases hq with hq|hq
 ·obtain⟨its,r,pl,hz⟩:=I.list hq
  refine SeqAt.in_listAt (Aa x) pl.isList (fun w hw=>j0 rx fx r fs w (by simpa using hw)) ⟨.bl _,H,I,rfl,?_⟩
  rw[show its.toArray.any (Aa x)=its.any (Aa x) by simp,qF r fs]
  exact q
 ·obtain⟨its,r,pl,hz⟩:=I.tuple hq
  refine SeqAt.in_tupleAt (Aa x) pl (fun w hw=>j0 rx fx r fs w (by simpa using hw)) ⟨.bl _,H,I,rfl,?_⟩
  rw[show its.toArray.any (Aa x)=its.any (Aa x) by simp,qF r fs]
  exact q
theorem cX:iz X (.builtin "len") (fun xs H Q=>∃p ys,xs=[.ref p]∧(cz X.K H p ys∨jD X.K H p ys)∧Q (.int ys.length) H):=by
 intro pins s σ H xs us Q I r h
 obtain⟨p,ys,rfl,hq,q⟩:=h
 obtain⟨u,rfl,rx⟩:=vals1 r
 cases rx
 have hn:=jE
 rcases hq with hq|hq
 ·obtain⟨its,r',pl,hz⟩:=I.list hq
  have hlen:=r'.length
  exact Calls.call_len_list pl.isList (by simp only [List.size_toArray]<;>omega) ⟨.int ys.length,H,I.tok _,⟨s.toks+1,by rw[List.size_toArray,hlen]⟩,q⟩
 ·obtain⟨its,r',pl,hz⟩:=I.tuple hq
  have hlen:=r'.length
  exact len_tuple pl (by simp only [List.size_toArray]<;>omega) ⟨.int ys.length,H,I.tok _,⟨s.toks+1,by rw[List.size_toArray,hlen]⟩,q⟩
theorem cE:iz X (.builtin "len") (fun xs H Q=>∃z,xs=[.str z]∧z.length≤sizeLine∧Q (.int z.length) H):=by
 intro pins s σ H xs us Q I r h
 obtain⟨z,rfl,hz,q⟩:=h
 obtain⟨u,rfl,t,rfl⟩:=vals1 r
 have hn:=jE
 exact len_str (by omega) ⟨.int z.length,H,I.tok _,⟨_,rfl⟩,q⟩
theorem dO:iz X (.type "list") (fun xs H Q=>∃p ys,xs=[.ref p]∧(cz X.K H p ys∨jD X.K H p ys)∧∀l,H l=none→Q (.ref l) (upd H l (.lst ys))):=by
 intro pins s σ H xs us Q I r h
 obtain⟨p,ys,rfl,hq,q⟩:=h
 obtain⟨u,rfl,rx⟩:=vals1 r
 cases rx
 have fin:∀(its:List Value),Vals ys its→ys.length≤sizeLine→∀(h':Heap) (c':Nat),(∀b o',s.heap.get? b=some o'→h'.get? b=some o')→
   h'.get? s.heap.objs.size=some { cls:= .type "list",dict:=none,data:= .seq its.toArray c',slots:=#[] }→EP X pins σ Q (.ref s.heap.objs.size) { s with heap:=h' }:=fun its r' hz h' c' kp e=>
  ⟨.ref s.heap.objs.size,_,I.laid (t':=s.toks) kp (Nat.le_refl _) (show bT X.prog X.w _ h' _ (.lst ys) from ⟨hz,its,c',r',e⟩),rfl,q _ (I.bb.fresh (Nat.le_refl _))⟩
 rcases hq with hq|hq
 ·obtain⟨its,r',pl,hz⟩:=I.list hq
  have hlen:=r'.length
  obtain⟨o,ho,hc,n,hd⟩:=pl.isList
  exact call_list_seq p (.inl rfl) ho hc hd (fun h' c' kp e=>fin its r' hz h' c' kp e) (by simp only [List.size_toArray]<;>omega)
 ·obtain⟨its,r',pl,hz⟩:=I.tuple hq
  have hlen:=r'.length
  obtain⟨o,ho,hc,n,hd⟩:=pl
  exact call_list_seq p (.inr rfl) ho hc hd (fun h' c' kp e=>fin its r' hz h' c' kp e) (by simp only [List.size_toArray]<;>omega)
def Vy(K:PySem.W.Frag)(T:String)(x:V)(H:Hp):Prop:=match x with
 | .str _=>T="str"
 | .int _=>T="int"
 | .ref p=>(T="list" ∧∃xs,cz K H p xs)∨(T="tuple" ∧∃o,K.lookup p=some o∧o.cls= .type "tuple" ∧o.dict=none)∨
   (T="dict" ∧((∃kvs,H p=some (.dK kvs))∨∃kvs,H p=some (.dT kvs)))∨(T="set" ∧∃S n,H p=some (.set S n))
 |_=>False
theorem Gk{pins:List (Addr×Obj)}{σ:St}{H:Hp}{s:Shared}{T:String}{x:V}{v:Value}(I:Inv X pins σ H s)(r:RelV x v)(ty:Vy X.K T x H):
  s.TypeIs v T∧∀a,v= .ref a→∃ob,s.heap.get? a=some ob∧ob.dict=none:=by
 cases x with
 |str z=>
  obtain⟨t,rfl⟩:=r
  cases (show T="str" from ty)
  exact⟨typeIs_str s z t,fun _ e=>nomatch e⟩
 |int i=>
  obtain⟨t,rfl⟩:=r
  cases (show T="int" from ty)
  exact⟨typeIs_int s i t,fun _ e=>nomatch e⟩
 |ref p=>
  cases r
  rcases ty with ⟨rfl,xs,hq⟩ | ⟨rfl,o,hk,hc,hd⟩ | ⟨rfl,hk⟩ | ⟨rfl,S,n,hk⟩
  ·obtain⟨its,_,pl,_⟩:=I.list hq
   refine⟨pl.isList.typeIs,fun a e=>?_⟩
   cases e
   obtain⟨o,n,e,c,hd,_⟩:=pl
   exact⟨o,e,hd⟩
  ·refine⟨⟨o,I.fN p o hk,hc⟩,fun a e=>?_⟩
   cases e
   exact⟨o,I.fN _ o hk,hd⟩
  ·have z:∃o,s.heap.get? p=some o∧o.ExactDict:=by
    rcases hk with ⟨kvs,hk⟩ | ⟨kvs,hk⟩
    ·obtain⟨_,_,_,_,o,_,_,e,ex,_⟩:=I.bb p _ hk
     exact⟨o,e,ex⟩
    ·obtain⟨_,_,_,_,o,_,_,e,ex,_⟩:=I.bb p _ hk
     exact⟨o,e,ex⟩
   obtain⟨o,e,ex⟩:=z
   refine⟨⟨o,e,ex.1⟩,fun a e2=>?_⟩
   cases e2
   exact⟨o,e,ex.2.1⟩
  ·obtain⟨o,_,_,_,e,ex,_⟩:=I.bb p _ hk
   refine⟨⟨o,e,ex.1⟩,fun a e2=>?_⟩
   cases e2
   exact⟨o,e,ex.2.1⟩
 |_=>exact False.elim ty
def WZ(K:PySem.W.Frag)(T:String)(r:V→List V→Hp→VK→Prop)(to:TE)(t:TA):TE:=fun σ H Q=>to σ H fun x H1=>Vy K T x H1∧t σ H1 fun xs H2=>r x xs H2 Q
variable {o e:Expr}{es:List Expr}{to:TE}{t:TA}{name:Str}{apos f7:Pos}{T id:String}{r:V→List V→Hp→VK→Prop}
theorem fw(pa:PlainAttrs T)(slot:Slot T name id)(W0:typeOf (.builtin id)=pure (.type "method_descriptor"))(hm:Oq X id r)(ho:PE X o to)(ha:PA X (e::es) t)
  (sM:attributeBase o name X.env (eval o X.env)=eval o X.env:=by rfl)
  (PQ:((backTo f7 (starEach (e::es) X.env)).all (fun x=>!x.1)&&(backToKw f7 (keywordEach [] X.env)).all (fun x=>x.1.isSome)
   &&decide ((e::es).length+([]:List Keyword).length+(if ([]:List Keyword).isEmpty then 0 else 1) <30))=true:=by rfl)
  (sN:(apos.endLine==f7.line)=true:=by rfl) (hs:starEach (e::es) X.env=(false,eval e X.env)::starEach es X.env:=by rfl) (Gm:(backTo f7 (starEach es X.env)).any (·.1)=false:=by rfl):
  PE X (.Call (.Attribute o name apos) (e::es) [] f7) (WZ X.K T r to t):=by
 intro pins s σ H Q I h
 refine wpAny_Call_method_late sM PQ sN rfl (bL (ho pins s σ H _ I h) fun v s1 ⟨x,H1,I1,r1,ty,q1⟩=>?_)
 obtain⟨h1,h2⟩:=Gk I1 r1 ty
 refine⟨T,id,pa,slot,W0,h1,h2,?_⟩
 have hA:=ha f7 pins s1 σ H1 _ I1 q1
 rw[hs] at hA ⊢
 refine Calls.callWith_builtin (by show (false||(backTo f7 (starEach es X.env)).any (·.1))=false;rw[Gm]<;>rfl) (Calls.evalArgs_plain ?_)
 exact bL hA fun us s2 ⟨vs,H2,I2,r2,q2⟩=>hm pins s2 σ H2 x vs v us Q I2 r1 r2 q2
end
end L2
namespace L2
open PySem PySem.Spec PyProof.Rows
def W2(X:Cx)(id:String)(r:V→List V→Hp→VK→Prop):Prop:=
 ∀(pins:List (Addr×Obj)) (s:Shared) (σ:St) (H:Hp) (x:V) (xs:List V) (v:Value) (us:List Value) (Q:VK),Inv X pins σ H s→RelV x v→Vals xs us→r x xs H Q→
  wpAny (model X.prog X.w) X.A (call (.builtin id) (v::us)) (EP X pins σ Q) X.xe s
theorem Vals.one:∀{x:V} {us:List Value},Vals [x] us→∃u,us=[u]∧RelV x u
 |_,_, .cons r .nil=>⟨_,rfl,r⟩
section
variable {X:Cx}{pins:List (Addr×Obj)}{σ:St}{H:Hp}{s:Shared}{l b:Addr}{xs ys zs:List V}
theorem Inv.PR{its its':List Value}{n:Nat}{f:Array Value→Array Value}{t':Nat}(I:Inv X pins σ H s)(hH:H l=some (.lst xs))
  (e:s.heap.get? l=some { cls:= .type "list",data:= .seq its.toArray n }) (hf:f its.toArray=its'.toArray) (hv:Vals ys its') (hz:ys.length≤sizeLine):
  Inv X pins σ (upd H l (.lst ys)) { s with heap:=s.heap.update l (Obj.mapSeq f),toks:=t' }:=by
 have q:=PySem.IsL.update e f
 rw[hf] at q
 refine I.write (x:=l) (e:=l) (by rw[hH];exact trivial) (.inl rfl) (fun b' u hb hu=>(Heap.get?_update_other s.heap (Obj.mapSeq f) (Ne.symm hb)).trans hu) ⟨_,q⟩ ?_
 exact⟨hz,its',_,hv,q⟩
theorem Inv.JQ{its:List Value}{t':Nat}(I:Inv X pins σ H s)(hv:Vals ys its)(hz:ys.length≤sizeLine):
  Inv X pins σ (upd H s.heap.objs.size (.lst ys)) { s with heap:=s.heap.push { cls:= .type "list",data:= .seq its.toArray },toks:=t' }:=
 I.laid (fun _ _ q=>Heap.get?_push_of_some _ q) (Nat.le_refl _) ⟨hz,its,0,hv,Heap.get?_push_size _ rfl⟩
theorem Inv.fresh(I:Inv X pins σ H s):H s.heap.objs.size=none:=I.bb.fresh (Nat.le_refl _)
theorem Inv.CS(I:Inv X pins σ H s)(hH:H l=some (.lst xs)):xs.length≤sizeLine∧∃(its:List Value) (n:Nat),Vals xs its∧xs.length=its.length∧s.heap.get? l=some { cls:= .type "list",data:= .seq its.toArray n }:=by
 obtain⟨z,its,n,r,e⟩:=I.bb l _ hH
 exact⟨z,its,n,r,r.length,e⟩
end
section
variable {X:Cx}
def CT:V→List V→Hp→VK→Prop:=fun x vs H Q=>∃l xs y,x= .ref l∧vs=[y]∧H l=some (.lst xs)∧xs.length<sizeLine∧Q .cn (upd H l (.lst (xs++[y])))
theorem dE:W2 X "list.append" CT:=by
 intro pins s σ H x vs v us Q I rx rv h
 obtain⟨l,xs,y,rfl,rfl,hH,hz,q⟩:=h
 cases rx
 obtain⟨u,rfl,ru⟩:=rv.one
 obtain⟨z,its,n,r,hl,e⟩:=I.CS hH
 refine call_meets F.slot_list_append ⟨_,e,rfl⟩ F.entry_list_append (F.args_list_append_2 _ _) (PySem.list_append l its.toArray n u (by rw[List.size_toArray];omega)) ⟨e,?_⟩
 refine⟨.cn,_,I.PR (its':=its++[u]) hH e (by simp) (r.append (.cons ru .nil)) ?_,rfl,q⟩
 rw[List.length_append,List.length_singleton]
 omega
def PU:R2:=fun x y H Q=>∃l b xs zs,x= .ref l∧y= .ref b∧H l=some (.lst xs)∧H b=some (.lst zs)∧xs.length+zs.length≤sizeLine∧∀p,H p=none→Q (.ref p) (upd H p (.lst (xs++zs)))
theorem Gn:mf X (binaryOp .Add) PU:=by
 intro pins s σ H x y v u Q I rx ry h
 obtain⟨l,b,xs,zs,rfl,rfl,hH,hB,hz,q⟩:=h
 cases rx
 cases ry
 obtain⟨z,its,n,r,hl,e⟩:=I.CS hH
 obtain⟨z2,JR,n2,r2,wW,e2⟩:=I.CS hB
 refine PySem.P.add_list e e2 ?_ (by rw[List.size_toArray,List.size_toArray];omega)
 have ea:its.toArray++JR.toArray=(its++JR).toArray:=by simp
 rw[ea]
 exact⟨.ref _,_,I.JQ (t':=s.toks) (r.append r2) (by rw[List.length_append];omega),rfl,q _ I.fresh⟩
end
section
variable {prog:Program}{w:World}{A:Around}{E:Value→Shared→Prop}{s:Shared}
end
section
variable {X:Cx}
end
end L2
namespace Vz
open PySem PySem.W PySem.Calls PyProof.Rows
theorem mi{P:Params}{h:Heap}:∀(ns:List Int) (vs:List Value),WellAll P h vs (ns.map WData.int)→IntsAre vs ns:=by
 intro ns
 induction ns with
 |nil=>
  intro vs w
  rw[List.map_nil] at w
  cases w
  exact .nil
 |cons n ns ih=>
  intro vs w
  rw[List.map_cons] at w
  cases w with
  |cons a b=>
   cases a
   exact .cons _ _ (ih _ b)
theorem yj{l:OpenLaw}{n:Nat}(hn:l.most=some n){P:Params}{h:Heap}{args:List WData}{vals:List Value}
  (oG:l.row.toRowW.claim.pre args=true) (PV:WellAll P h vals args):
  ∃a vs ns,vals=[Value.ref a]∧args=[WData.list (ns.map WData.int)]∧h.get? a=some { cls:= .type "list",data:= .seq vs.toArray }∧IntsAre vs ns∧ns.length≤n:=by
 have Gp:WShape.hasAll [] args [.list .int]=true:=(pre_splitW oG).1
 have hc:l.pre.holds [] { args:=args }=true:=(pre_splitW oG).2
 obtain⟨d,r,rfl,h1,h2⟩:=hasAllW_cons Gp
 obtain rfl:=hasAllW_nil h2
 obtain⟨xs,rfl,h3⟩:=hasW_list h1
 obtain⟨ns,rfl⟩:=items_int h3
 have hlen:ns.length≤n:=by
  unfold OpenLaw.pre at hc
  have h4:(WTm.not (.lt (.lit (.int (n:Int))) (.len (.arg 0)))).holds [] { args:=[.list (ns.map .int)] }=true:=by
   have h4:=(holds_andW hc).1
   rw[hn] at h4
   exact h4
  have h5:=condW_of h4 (w_not (w_lt w_lit (w_len_list (w_arg rfl))))
  rw[List.length_map] at h5
  refine Nat.le_of_not_lt fun q=>?_
  have q':(n:Int) < ((ns.length:Nat):Int):=by omega
  first
   | (rw[decide_eq_true q'] at h5;exact absurd h5 (by decide))
   | (simp at h5;omega)
 cases PV with
 |cons w1 w2=>
  cases w2
  cases w1 with
  |list ho Gf=>exact⟨_,_,ns,rfl,rfl,ho,mi ns _ Gf,hlen⟩
theorem yk(l:OpenLaw)(args:List WData):l.row.toRowW.claim.post args (.bool true) args=true:=
 postW_of (r:=l.row.toRowW) (X:=(true==true))
  (show WShape.has [] (.bool true) .bool=true by first|rfl|decide|simp [WShape.has,WShape.arms,WShape.armsAll])
  (show (WTm.eq .res (.lit (.bool true))).value [] { args:=args,res:=some (.bool true),after:=args }=some (.bool (true==true)) from w_eq_bool (w_res rfl) w_lit) rfl
theorem sO{l:OpenLaw}{n:Nat}{q:Program}{loose:List Str}{XP:(Str→Option Value)→Heap→Prop}{YP:World→Heap→Prop}{d:DefRec}
  (hn:l.most=some n) (JS:d.params.defaults=[])
  (call:∀(w:World) (s₀ s₁:Shared) (mg mb:Str→Option Value) (fa:Addr) (o:Obj) (pm cd doc:Value) (a:Addr) (vs:List Value) (ns:List Int),
   Ground q loose [] XP w s₀ mg mb s₁.heap→YP w s₁.heap→
   s₁.heap.get? fa=some o→o.data= .func (docDef d.name d.params d.body d.scope pm cd doc)→s₁.heap.CodeRec cd d.name→mg d.name=some (.ref fa)→
   s₁.heap.get? a=some { cls:= .type "list",data:= .seq vs.toArray }→IntsAre vs ns→ns.length≤n→s₁.gens=#[]→
   codeAny (model l.prog w) callerA (.call (.ref fa) ⟨[.ref a],[]⟩) (fun r s'=>r= .ok (.ret (.bool true))∧OldK s₁.heap s'.heap∧s'.os=s₁.os∧AllBare s'.gens) s₁):
  WalkO q loose XP YP l.row.toRowW d [] (fun f vs=>PySem.call f vs):=by
 intro w s₀ s₁ mg mb G Y fa o pm cd doc dV kV ho hd me hD JT hg args vals as oG W3 Zf PV EU
 obtain rfl:dV= .none:=Dflts.none hD JS
 obtain rfl:kV= .none:=Dflts.noKw hD
 obtain⟨a,vs,ns,rfl,rfl,Gq,hints,hlen⟩:=yj hn oG PV
 refine enter_call (codeAny_mono (call w s₀ s₁ mg mb fa o pm cd doc a vs ns G Y ho (fd_plain hd) me JT Gq hints hlen hg) fun r s' hq=>?_)
 obtain⟨rfl,h2,h3,h4⟩:=hq
 exact⟨.inl ⟨.bool true, .bool true,[],rfl,fun _=>rfl, .bool true,yk l _,fun _=>⟨List.Pairwise.nil,fun _ hm=>(nomatch hm)⟩⟩,h2,h3,h4⟩
section
variable {prog:Program}{w:World}{A:Around}{E:Value→Shared→Prop}{s:Shared}{K:Frag}
end
end Vz
namespace L2
open PySem PySem.Spec PyProof.Rows
theorem pk:∀{vs:List Value} {ns:List Int},IntsAre vs ns→Vals (ns.map V.int) vs
 |_,_, .nil=> .nil
 |_,_, .cons n t h=> .cons ⟨t,rfl⟩ (pk h)
def Gs(H:Hp):Prop:=∀b,H b=none∨∃o xs,H b=some (.kR o (.lst xs))
theorem Ab{P:Program}{w:World}{K:PySem.W.Frag}{mg mb:Str→Option Value}{CX:zy}{k:Nat}{fa a:Addr}{fd:FuncData}{x:Str}{sp:Sp}{s₁:Shared}{vs:List Value}{ns:List Int}
  (KX:K.In s₁.heap) (EV:s₁.heap.Ns mainGlobals mg) (hb:s₁.heap.Ns builtinsNs mb) (W4:∀x:Str,x≠"__name__" →mb x=bootBuiltins x) (PX:s₁.heap.NoLimit) (hg:s₁.gens=#[])
  (ha:s₁.heap.get? a=some { cls:= .type "list",data:= .seq vs.toArray }) (hi:IntsAre vs ns) (hl:ns.length≤sizeLine) (hr:b9 k callerA)
  (F:∀base:Heap,K.In base→base.Ns mainGlobals mg→eD P w K mg base CX k fa fd [x] sp) (JU:∀(s:Shared) (u:Value),BindsTo s fd ⟨[u],[]⟩ [(x,u)])
  (vn:∀H:Hp,Gs H→cz K H a (ns.map V.int)→sp [.ref a] H (fun v _=>v= .bl true) fun _ _ _=>False)
  (PY:∀H e s',CX [] H s₁ (fun _ _ _=>False) e s'→False):
  codeAny (model P w) callerA (.call (.ref fa) ⟨[.ref a],[]⟩) (fun r s'=>r= .ok (.ret (.bool true))∧OldK s₁.heap s'.heap∧s'.os=s₁.os∧AllBare s'.gens) s₁:=by
 have rv:=pk hi
 have PZ:=hi.length
 have core:∀H:Hp,Gs H→cz K H a (ns.map V.int)→iq P w H s₁.heap→(∀b,H b≠none→b=a)→(H a≠none→K.lookup a=none)→
   codeAny (model P w) callerA (.call (.ref fa) ⟨[.ref a],[]⟩) (fun r s'=>r= .ok (.ret (.bool true))∧OldK s₁.heap s'.heap∧s'.os=s₁.os∧AllBare s'.gens) s₁:=by
  intro H hO hS bb hA hK
  have base_of:∀{b:Addr} {o:Obj},s₁.heap.get? b=some o→H b=none→(qi s₁.heap H).get? b=some o:=fun e n=>zJ e n
  have JH:∀{b:Addr} {o:Obj} {es:Array DictEntry} {ep:Nat},s₁.heap.get? b=some o→o.data= .dict es ep→H b=none:=fun {b o es ep} e d=>by
   cases q:H b with
   |none=>rfl
   |some u=>
    have e':b=a:=hA b (by rw[q];simp)
    subst e'
    rw[ha] at e;cases e
    have d':Data.seq vs.toArray _=Data.dict es ep:=d
    cases d'
  have Ot:∀{b:Addr} {m:Str→Option Value},s₁.heap.Ns b m→(qi s₁.heap H).Ns b m:=fun {b m} ⟨o,es,ep,e,d,r⟩=>⟨o,es,ep,base_of e (JH e d),d,r⟩
  have VA:K.In (qi s₁.heap H):=fun b o e=>base_of (KX b o e) (by
   cases q:H b with
   |none=>rfl
   |some u=>
    have e':b=a:=hA b (by rw[q];simp)
    subst e'
    rw[hK (by rw[q];simp)] at e;cases e)
  have hM:Mod K mg (qi s₁.heap H):=⟨VA,Ot EV,⟨mb,Ot hb,W4⟩,let ⟨mc,h1,h2⟩:=PX;⟨mc,Ot h1,h2⟩⟩
  have e0:qw P w K mg (qi s₁.heap H) callerA [] s₁ H:=⟨rfl,hM,fun b o e=>CA e,Nat.le_of_eq (x' _ _),trivial,fun b hb=>absurd (show b∈([]:List Addr) from hb) (by simp),bb, .of_eq hg⟩
  refine codeAny_mono ((F _ VA (Ot EV)).run callerA [] s₁ H ⟨[.ref a],[]⟩ [.ref a] [.ref a] _ _ hr e0 (JU s₁ (.ref a)) (.cons rfl .nil) (vn H hO hS)) fun r s' h=>?_
  cases r with
  |error e=>exact(PY H e s' h).elim
  |ok fl=>
   cases fl with
   |next=>exact False.elim h
   |brk=>exact False.elim h
   |cont=>exact False.elim h
   |ret u=>
    obtain⟨v,H',os,bare,un,P0,r',q⟩:=h
    have q':v= .bl true:=q
    subst q'
    obtain rfl:u=Value.bool true:=r'
    refine⟨rfl,OldK.of_keep fun b o e=>?_,os,bare⟩
    cases q:H b with
    |none=>exact un.keep b o e q (by intro z;exact absurd (show b∈([]:List Addr) from z) (by simp)) (by simp)
    |some u=>
     rcases hO b with z| ⟨ob,xs,z⟩
     ·rw[q] at z;cases z
     ·have z2:=un.kT b ob _ z
      obtain⟨e1,_⟩:=bb b _ z
      obtain⟨e2,_⟩:=P0 b _ z2
      rw[e] at e1;cases e1
      exact e2
 cases hk:K.lookup a with
 |some o=>
  have e:=KX a o hk
  rw[ha] at e
  cases e
  refine core (fun _=>none) (fun _=> .inl rfl) (.inr ⟨_,vs.toArray,_,hk,rfl,rfl,rfl,by rw[List.size_toArray,PZ];exact hl,by simpa using rv⟩) (fun b u z=>by have z':(none:Option HO)=some u:=z;cases z') (fun b z=>absurd rfl z) fun z=>absurd rfl z
 |none=>
  refine core (fun b=>if b=a then some (.kR { cls:= .type "list",data:= .seq vs.toArray } (.lst (ns.map V.int))) else none) (fun b=>?_) (.inl (.inr ⟨{ cls:= .type "list",data:= .seq vs.toArray },if_pos rfl⟩)) (fun b u z=>?_) (fun b z=>?_) fun _=>hk
  ·by_cases hb:b=a
   ·exact .inr ⟨_,_,if_pos hb⟩
   ·exact .inl (if_neg hb)
  ·by_cases hb:b=a
   ·have z':=(if_pos hb).symm.trans z
    cases z'
    subst hb
    exact⟨ha,by rw[List.length_map];exact hl,vs,_,rv,ha⟩
   ·have z':=(if_neg hb).symm.trans z
    cases z'
  ·by_cases hb:b=a
   ·exact hb
   ·exact absurd (if_neg hb) z
end L2
namespace L2
open PySem PySem.Spec PyProof.Rows
theorem CU{l:PySem.W.OpenLaw}{n k:Nat}{q:Program}{loose:List Str}{XP:(Str→Option Value)→Heap→Prop}{YP:World→Heap→Prop}{d:DefRec}{K:Params→PySem.W.Frag}{CX:World→zy}{sp:World→Sp}{x:Str}
  (hn:l.most=some n) (EN:n≤sizeLine) (JS:d.params.defaults=[]) (hr:b9 k callerA)
  (hY:∀(w:World) (h:Heap),YP w h→(K w.params).In h)
  (F:∀(w:World) (mg:Str→Option Value) (fa:Addr) (h:Heap),(K w.params).In h→h.Ns mainGlobals mg→mg d.name=some (.ref fa)→
   ∃fd:FuncData,(∀(s:Shared) (u:Value),BindsTo s fd ⟨[u],[]⟩ [(x,u)])∧
    ∀base:Heap,(K w.params).In base→base.Ns mainGlobals mg→eD l.prog w (K w.params) mg base (CX w) k fa fd [x] (sp w))
  (vn:∀(w:World) (H:Hp) (a:Addr) (ns:List Int),ns.length≤n→Gs H→cz (K w.params) H a (ns.map V.int)→sp w [.ref a] H (fun v _=>v= .bl true) fun _ _ _=>False)
  (PY:∀(w:World) (H:Hp) (s:Shared) (e:Value) (s':Shared),CX w [] H s (fun _ _ _=>False) e s'→False):
  PySem.W.WalkO q loose XP YP l.row.toRowW d [] (fun f vs=>PySem.call f vs):=by
 refine Vz.sO hn JS fun w s₀ s₁ mg mb fa o pm cd doc a vs ns G Y ho hd me JT Gq hints hlen hg=>?_
 have KX:=hY w _ Y
 obtain⟨fd,hb,hF⟩:=F w mg fa _ KX G.T.g JT
 exact Ab KX G.T.g G.T.b G.T.builtins G.T.nolimit hg Gq hints (Nat.le_trans hlen EN) hr hF hb (fun H hO hS=>vn w H a ns hlen hO hS) fun H e s'=>PY w H s₁ e s'
end L2
namespace L2
open PySem PySem.Spec PyProof.Rows
def inClass(s:Stmt)(j:Nat):Stmt:=match s with
 | .ClassDef _ _ _ body _ _ _ _ _ _ _=>body.getD j (.Pass ⟨0,0,0,0⟩)
 |_=> .Pass ⟨0,0,0,0⟩
def bH(s:Stmt):Arguments:=match s with
 | .FunctionDef _ a _ _ _ _ _ _ _ _=>a
 |_=>{ posonlyargs:=[],args:=[],vararg:=none,kwonlyargs:=[],kw_defaults:=[],kwarg:=none,defaults:=[] }
def a9(s:Stmt):List Stmt:=match s with
 | .FunctionDef _ _ b _ _ _ _ _ _ _=>b
 |_=>[]
def ak(s:Stmt):Scope:=match s with
 | .FunctionDef _ _ _ _ _ _ sc _ _ _=>sc
 |_=>{ kind:= .function,names:=[],isGenerator:=false,isCoroutine:=false }
abbrev mz:zy:=fun _ _ _ _ _ _=>False
abbrev E0:XK:=fun _ _ _=>False
theorem aP{X:Cx}:Passes mz X E0:=fun _ _ _ _ _ _ _ h=>h.elim
structure wX(K:PySem.W.Frag)(x qual:Str)(st:Stmt)(f:Addr)(fd:FuncData):Prop where
 ex:∃(oc:Value) (od:Option Addr) (kV doc pm:Value) (an:Option Addr) (bj ct:Value) (mw:Array (Option Value)),
  fd=PySem.W.fnOf x qual (bH st) (a9 st) (ak st) .none kV doc pm an bj ct∧K.lookup f=some ⟨oc,od, .func fd,mw⟩∧PySem.W.codeIn K bj qual=true
 kp:PySem.W.keepIn K (.ref f)=true
section
variable {P:Program}{w:World}{K:PySem.W.Frag}{mg:Str→Option Value}{base:Heap}
theorem wX.ok{x qual:Str}{st:Stmt}{f:Addr}{fd:FuncData}{N ps:List Str}{k:Nat}{sp:Sp}(F:wX K x qual st f fd)(S:ax N ps (ak st))(len:∀vs H Q E,sp vs H Q E→vs.length=ps.length)
  (cQ:∀(bj:Value) (A:Around) (outer:List Env) (s:Shared) (H:Hp) (vs:List V) (Q:VK) (E:XK),b9 k (A.deeper (envOfC qual (ak st) s.heap.objs.size f bj))→sp vs H Q E→
   ∃t,jA (fM mz P w K mg base N qual (ak st) f bj A outer s H E).Cn (a9 st) t∧t { nx:=fun _ H'=>Q .cn H',rt:=Q } (start N vs) H):eD P w K mg base mz (k+1) f fd ps sp:=by
 obtain⟨oc,od,kV,doc,pm,an,bj,ct,mw,rfl,lk,me⟩:=F.ex
 refine fn_of lk me S len fun A outer s H vs Q E hr vn=>?_
 obtain⟨t,h,q⟩:=cQ bj A outer s H vs Q E hr vn
 exact⟨t,h.Cn,q⟩
theorem wX.binds{x qual:Str}{st:Stmt}{f:Addr}{fd:FuncData}{ps:List Str}(F:wX K x qual st f fd)
  (h:∀(kV doc pm:Value) (an:Option Addr) (bj ct:Value) (us:List Value),us.length=ps.length→bindArgs (PySem.W.fnOf x qual (bH st) (a9 st) (ak st) .none kV doc pm an bj ct) ⟨us,[]⟩=pure (ps.zip us)):Binds K fd ps []:=by
 obtain⟨oc,od,kV,doc,pm,an,bj,ct,mw,rfl,lk,me⟩:=F.ex
 exact .all (h kV doc pm an bj ct)
theorem Gu{x qual:Str}{st:Stmt}{f:Addr}{oc:Value}{od an:Option Addr}{mw:Array (Option Value)}{kV doc pm bj ct:Value}(l:K.lookup f=some ⟨oc,od, .func (PySem.W.fnOf x qual (bH st) (a9 st) (ak st) .none kV doc pm an bj ct),mw⟩)
  (c:PySem.W.codeIn K bj qual=true) (k:PySem.W.keepIn K (.ref f)=true):wX K x qual st f (PySem.W.fnOf x qual (bH st) (a9 st) (ak st) .none kV doc pm an bj ct):=⟨⟨oc,od,kV,doc,pm,an,bj,ct,mw,rfl,l,c⟩,k⟩
end
theorem pq{A:Around}{k:Nat}(hr:b9 k A):A.units+1<cLine:=Nat.lt_of_le_of_lt (Nat.add_le_add_left (by decide:1≤64) _) hr.units
section
variable {X:Cx}
theorem pv(i:Nat){x:Str}{pos:Pos}(hN:X.N[i]? =some x:=by rfl)(hv:O5 X.env.scope x:=by first|exact Or.inl rfl|exact Or.inr (Or.inl rfl) |exact Or.inr (Or.inr rfl))(hd:(x==("__debug__" :Str))=false:=by decide)
  (me:(x==("__classdict__" :Str))=false:=by decide):PE X (.Name x pos) (va i):=F2 hN hv hd me
end
theorem dG{A B:Prop}(h:B):if false=true then A else B:=by
 rw[if_neg Bool.false_ne_true]
 exact h
theorem cq{A B:Prop}(h:A):if true=true then A else B:=by
 rw[if_pos rfl]
 exact h
theorem dY{c A B:Prop}[Decidable c](h1:c→A)(h2:¬c→B):if c then A else B:=by
 by_cases h:c
 ·rw[if_pos h]
  exact h1 h
 ·rw[if_neg h]
  exact h2 h
theorem JV{c A B:Prop}[Decidable c](hc:c)(h:B):if (!decide c)=true then A else B:=by
 rw[decide_eq_true hc]
 exact dG h
def ay(H H':Hp):Prop:=∀b o,H b=some o→H' b=some o
theorem ay.refl(H:Hp):ay H H:=fun _ _ h=>h
theorem ay.trans{H H1 H2:Hp}(a:ay H H1)(b:ay H1 H2):ay H H2:=fun c o h=>b c o (a c o h)
theorem ay.free{H H':Hp}(e:ay H H'){l:Addr}(h:H' l=Option.none):H l=Option.none:=by
 cases q:H l with
 |none=>rfl
 |some o=>
  rw[e l o q] at h
  cases h
theorem ay.seq{K:PySem.W.Frag}{H H':Hp}{a:Addr}{xs:List V}(e:ay H H')(h:cz K H a xs):cz K H' a xs:=by
 rcases h with (h| ⟨o,h⟩) |h
 ·exact .inl (.inl (e _ _ h))
 ·exact .inl (.inr ⟨o,e _ _ h⟩)
 ·exact .inr h
section
variable {κ:Type}[DecidableEq κ]
theorem sP{kvs:List (κ×V)}{k:κ}(h:cN kvs k=none):¬k∈kvs.map (·.1):=by
 intro m
 obtain⟨p,hp,e⟩:=List.mem_map.mp m
 have q:(kvs.any fun kv=>decide (kv.1=k))=true:=List.any_eq_true.mpr ⟨p,hp,decide_eq_true e⟩
 rw[gw,h] at q
 exact absurd q (by simp)
theorem CV{kvs:List (κ×V)}{k:κ}{v:V}(h:cN kvs k=some v):k∈kvs.map (·.1):=by
 have q:(kvs.any fun kv=>decide (kv.1=k))=true:=by
  rw[gw,h]
  all_goals rfl
 obtain⟨p,hp,e⟩:=List.any_eq_true.mp q
 exact List.mem_map.mpr ⟨p,hp,of_decide_eq_true e⟩
theorem wY:∀{l:List κ} {k:κ},l.Nodup→¬k∈l→(l++[k]).Nodup
 | [],k,_,_=>by simp
 |a::r,k,h,hk=>by
  obtain⟨h1,h2⟩:=List.nodup_cons.mp h
  show (a::(r++[k])).Nodup
  refine List.nodup_cons.mpr ⟨fun m=>?_,wY h2 fun m=>hk (List.mem_cons.mpr (Or.inr m))⟩
  rcases List.mem_append.mp m with q|q
  ·exact h1 q
  ·exact hk (List.mem_cons.mpr (Or.inl (List.mem_singleton.mp q).symm))
theorem CW{kvs:List (κ×V)}{k:κ}(v:V)(hn:(kvs.map (·.1)).Nodup)(h:cN kvs k=none):((putK kvs k v).map (·.1)).Nodup:=by
 rw[sC v h,List.map_append]
 exact wY hn (sP h)
end
end L2
namespace L2
open PySem PySem.Spec PyProof.Rows
section
variable {X:Cx}{pins:List (Addr×Obj)}{σ:St}{H:Hp}{s:Shared}{a:Addr}{u u':HO}
theorem Inv.EW(I:Inv X pins σ H s)(e:H a=some u)(nw:bT X.prog X.w (upd H a u') s.heap a u')
  (h1:∀xs,X.H₀ a≠some (.tup xs)) (h2:∀o z,X.H₀ a≠some (.kR o z)) (h3:∀ps,X.H₀ a≠some (.EH ps))
  (n1:∀x,u≠ .own x) (n2:∀xs,u≠ .tup xs):Inv X pins σ (upd H a u') s:=by
 have na:∀b,H b=none→(upd H a u') b=none:=fun b q=>by
  rw[aj (fun z=>by rw[z,e] at q;cases q)];exact q
 have B:=I.base
 refine⟨I.ok,I.os,I.bare,⟨B.keep,B.slot,fun b o q n x=>na b (B.free b o q n x),B.there,fun b xs q=>?_,fun b o z q=>?_,fun b ps q=>?_⟩,
  I.loc,I.cell,na _ I.free,fun x c q=>na _ (I.eS x c q),fun p hp=>?_,fun b o q=>?_,I.len⟩
 ·rw[aj (show b≠a from fun z=>h1 xs (by rw[←z];exact q))];exact B.kS b xs q
 ·rw[aj (show b≠a from fun z'=>h2 o z (by rw[←z'];exact q))];exact B.kT b o z q
 ·rw[aj (show b≠a from fun z'=>h3 ps (by rw[←z'];exact q))];exact B.kU b ps q
 ·obtain⟨p1,p2,p3⟩:=I.pin p hp
  exact⟨p1,na _ p2,p3⟩
 ·by_cases hb:b=a
  ·subst hb
   rw[ag] at q
   cases q
   exact nw
  ·rw[aj hb] at q
   refine(I.bb b o q).qh (fun _ _ _ z=>z) (fun c z=>?_) fun c xs z=>?_
   ·rw[aj (fun z'=>by rw[z',e] at z;exact n1 b (Option.some.inj z))];exact z
   ·rw[aj (fun z'=>by rw[z',e] at z;exact n2 xs (Option.some.inj z))];exact z
def NF(X:Cx)(a:Addr):Prop:=∀o z,X.H₀ a≠some (.kR o z)
theorem Inv.nf{kvs:List (Key×V)}(I:Inv X pins σ H s)(e:H a=some (.dK kvs)):NF X a:=fun o z q=>by
 have:=I.base.kT a o z q
 rw[e] at this;cases this
theorem Inv.freeze{kvs:List (Key×V)}(I:Inv X pins σ H s)(e:H a=some (.dK kvs)):∃o,s.heap.get? a=some o∧Inv X pins σ (upd H a (.kR o (.dK kvs))) s:=by
 have ok:=I.bb a _ e
 obtain⟨z,hd,vs,rel,dd⟩:=wU I.bb e
 obtain⟨o,es,ep,ho,r⟩:=id dd
 refine⟨o,ho,I.EW e ⟨ho,z,hd,vs,rel,dd⟩ (fun xs q=>?_) (I.nf e) (fun ps q=>?_) (fun x q=>by cases q) fun xs q=>by cases q⟩
 ·have:=I.base.kS a xs q
  rw[e] at this;cases this
 ·obtain⟨m,q'⟩:=I.base.kU a ps q
  rw[e] at q';cases q'
theorem Inv.P1{kvs:List (Key×V)}{o:Obj}(I:Inv X pins σ H s)(e:H a=some (.kR o (.dK kvs)))(nf:NF X a):Inv X pins σ (upd H a (.dK kvs)) s:=by
 obtain⟨ho,z,hd,vs,rel,dd⟩:=(show bT X.prog X.w H s.heap a (.kR o (.dK kvs)) from I.bb a _ e)
 refine I.EW e (show bT X.prog X.w _ s.heap a (.dK kvs) from ⟨z,hd,vs,rel,dd⟩) (fun xs q=>?_) nf (fun ps q=>?_) (fun x q=>by cases q) fun xs q=>by cases q
 ·have:=I.base.kS a xs q
  rw[e] at this;cases this
 ·obtain⟨m,q'⟩:=I.base.kU a ps q
  rw[e] at q';cases q'
end
def JW(a:Addr)(o:Obj)(kvs:List (Key×V)):It:=
 ⟨fun i H=>H a=some (.kR o (.dK kvs))∧i<kvs.length,fun i H x H'=>H'=H∧∃k v,kvs[i]? =some (k,v)∧x=kV k,fun i H=>H a=some (.kR o (.dK kvs))∧kvs.length≤i⟩
theorem KV.get{κ:Type}:∀{kvs:List (κ×V)} {vs:List (κ×Value)} {i:Nat} {k:κ} {v:V},KV kvs vs→kvs[i]? =some (k,v)→∃u,vs[i]? =some (k,u)∧RelV v u
 |_,_,_,_,_, .nil,h=>by simp at h
 |_,_,0,k,v, .cons (a:=p) (b:=q) r _,h=>by
  have hp:p=(k,v):=by simpa using h
  subst hp
  have e:k=q.1:=r.1
  exact⟨q.2,by rw[List.getElem?_cons_zero,e],r.2⟩
 |_,_,i+1,_,_, .cons _ t,h=>by
  simp only [List.getElem?_cons_succ] at h ⊢
  exact KV.get (kvs:=_) t h
theorem CY{P:Program}{w:World}{k:Key}{u:Value}(h:(bG P w).is k u=true):RelV (kV k) u:=by
 rw[u6] at h
 rcases b4 h with ⟨i,t,rfl,rfl⟩ | ⟨x,t,rfl,rfl⟩
 ·exact⟨t,rfl⟩
 ·exact⟨t,rfl⟩
theorem Ac{P:Program}{w:World}{H:Hp}{h:Heap}{a:Addr}{o:Obj}{kvs:List (Key×V)}{es:Array DictEntry}{ep:Nat}(ok:iq P w H h)(e:H a=some (.kR o (.dK kvs)))(hd:o.data= .dict es ep):
  ∃vs,KV kvs vs∧h.DictAt (bG P w) a vs ep∧(a==sysModules)=false:=by
 obtain⟨ho,z,hs,vs,rel,dd⟩:=(show bT P w H h a (.kR o (.dK kvs)) from ok a _ e)
 obtain⟨o',Of,Og,u9,ex,ql,r⟩:=dd
 rw[ho] at u9;cases u9
 rw[hd] at ql;cases ql
 exact⟨vs,rel,⟨o,es,ho,ex,hd,r⟩,hs⟩
theorem ym{P:Program}{w:World}{K:PySem.W.Frag}{tg:Expr}(a it:Addr)(o:Obj)(kvs:List (Key×V)){es:Array DictEntry}{ep:Nat}(hd:o.data= .dict es ep):
  Turn P w K tg (JW a o kvs) [it] it (fun i h=>h.IsKeyIter it a i kvs.length ep) where
 mem:=by simp
 obj:=fun i h st b hb=>by
  have e:b=it:=by simpa using hb
  subst e
  obtain⟨o,e,c,d⟩:=st
  exact⟨o,e,fun v z=>by rw[d] at z;cases z⟩
 keep:=fun i h h' st k=>let ⟨o,ho,r⟩:=st;⟨o,k it (by simp) o ho,r⟩
 item:=by
  intro X hP hw hK hc i pins s σ H E I hf st hg
  subst hP hw hK
  obtain⟨hz,hi⟩:=hg
  obtain⟨vs,rel,dd,hs⟩:=Ac I.bb hz hd
  obtain⟨k,v,Ou⟩:∃k v,kvs[i]? =some (k,v):=⟨kvs[i].1,kvs[i].2,by simp [hi]⟩
  obtain⟨u,hu,ru⟩:=rel.get Ou
  obtain⟨f0,f1,f2,f3,f4,f5⟩:=hf it (by simp)
  rw[rel.length] at st
  refine wpAny_pyNext_dict_item st dd hu fun key h' hk zx sb=>?_
  rw[←rel.length] at zx
  have I1:Inv X pins σ H { s with heap:=h' }:=I.turned (t':=s.toks) (fun b o hb e=>(sb.2 b hb).trans e) f0 f1 f3 f4 f5
  obtain⟨oi,e,c,d⟩:=id zx
  exact⟨key,rfl,wK (s:={ s with heap:=h' }) e c d (by decide) ⟨kV k,H,I1,CY hk,⟨rfl,k,v,Ou,rfl⟩,zx,fun b hb=>(hf b hb).1⟩⟩
 done:=by
  intro X hP hw hK hc i pins s σ H E I hf st hg
  subst hP hw hK
  obtain⟨hz,hi⟩:=hg
  obtain⟨vs,rel,dd,hs⟩:=Ac I.bb hz hd
  obtain⟨f0,f1,f2,f3,f4,f5⟩:=hf it (by simp)
  rw[rel.length] at st hi
  exact wpAny_pyNext_dict_end (I.ok.hd hc) st dd (List.getElem?_eq_none hi) fun h' eb=>⟨rfl,I.turned (t':=s.toks) (fun b o hb e=>eb b o hb e) f0 f1 f3 f4 f5⟩
 self:=fun _ _ _ _ _ st h=>wpAny_pyIter_keyiter st h
section
variable {X:Cx}{tg:Expr}
def JX(X:Cx)(td:TE):TI:=fun σ H R=>td σ H fun x H1=>∃a kvs,x= .ref a∧H1 a=some (.dK kvs)∧∀o,NF X a→R (JW a o kvs) (upd H1 a (.kR o (.dK kvs)))
theorem CZ{l:Expr}{tl:TE}(hl:PE X l tl):PI X tg l (JX X tl):=by
 intro pins s σ H R I h
 refine bL (hl pins s σ H _ I h) fun v s1 ⟨x,H1,I1,r1,q1⟩=>?_
 obtain⟨a,kvs,e,hk,q⟩:=q1
 subst e
 cases r1
 obtain⟨o,ho,I2⟩:=I1.freeze hk
 obtain⟨z,hs,vs,rel,dd⟩:=wU I1.bb hk
 obtain⟨ep,da⟩:=dd.dictAt
 obtain⟨o',es,u9,ex,hd,_⟩:=id da
 rw[ho] at u9;cases u9
 refine wpAny_pyIter_dict hs da ?_
 refine⟨s1.heap.objs.size,[s1.heap.objs.size],_,_,_,rfl,I2.kept (t':=s1.toks) fun b o e=>Heap.get?_push_of_some _ e,ym a _ o kvs hd,?_,fun b hb=>?_,q o (I1.nf hk)⟩
 ·rw[rel.length]
  exact⟨_,Heap.get?_push_size _ rfl,rfl,rfl⟩
 ·have e:b=s1.heap.objs.size:=by simpa using hb
  subst e
  exact I2.zT (Nat.le_refl _) (I2.bb.fresh (Nat.le_refl _))
def Th(X:Cx)(Q:Hp→Prop)(H:Hp):Prop:=∃a o kvs,H a=some (.kR o (.dK kvs))∧NF X a∧Q (upd H a (.dK kvs))
theorem C0{e:Expr}{t:TE}(h:PE X e t):PE X e (fun σ H Q=>t σ H fun v=>Th X (Q v)):=by
 intro pins s σ H Q I q
 refine bL (h pins s σ H _ I q) fun u s' z=>?_
 obtain⟨v,H',J,r,a,o,kvs,e,nf,q⟩:=z
 exact⟨v,_,J.P1 e nf,r,q⟩
end
def JY:V→Option Value
 | .ty n=>some (.type n)
 | .ref a=>some (.ref a)
 |_=>none
theorem iD{X:Cx}:iz X (.builtin "isinstance") (fun xs H Q=>∃x c cv t b,xs=[x,c]∧JY c=some cv∧kZ X.K H x t∧PySem.W.kitOne X.K t cv=some b∧Q (.bl b) H):=by
 intro pins s σ H xs us Q I r h
 obtain⟨x,c,cv,t,b,rfl,hc,ty,e,q⟩:=h
 obtain⟨u,v,rfl,ru,rv⟩:=vals2 r
 have hv:v=cv:=by
  cases c<;>simp only [JY,Option.some.injEq,reduceCtorEq] at hc
  ·cases (show v=Value.ref _ from rv);exact hc
  ·cases (show v=Value.type _ from rv);exact hc
 subst hv
 exact ye I ru ty e fun tk=>⟨.bl b,H,I.tok tk,rfl,q⟩
section
variable {X:Cx}
end
theorem sQ:∀{kvs:List (Key×V)} {p:Key×V},(kvs.map (·.1)).Nodup→p∈kvs→cN kvs p.1=some p.2
 |q::r,p,nd,hp=>by
  rw[List.map_cons,List.nodup_cons] at nd
  rcases List.mem_cons.mp hp with rfl|hr
  ·exact gu rfl
  ·rw[gv (fun e=>nd.1 (e▸List.mem_map_of_mem (f:=(·.1)) hr))]
   exact sQ nd.2 hr
end L2
namespace L2
open PySem PySem.Spec PyProof.Rows
def pw(X:Cx)(pins:List (Addr×Obj))(N:List Str)(scope:Scope)(cl:List (Str×Addr))(fp:List Addr)(s:Shared)(H:Hp):Cx where
 prog:=X.prog
 w:=X.w
 K:=X.K
 mg:=X.mg
 base:=X.base
 A:=X.A
 N:=N
 s₀:=s
 H₀:=H
 env:=compEnvC scope cl s.heap.objs.size X.env
 outer:=X.stack
 stack:=X.stack
 ex:=fp
 fn:=fun _=>false
 calm:=X.calm
 pn:=X.pn++pins
 xe:=fun _ _=>False
structure JZ(X:Cx)(N:List Str)(fr:List (Option Nat))(scope:Scope)(cl:List (Str×Addr)):Prop where
 J0:closureFor scope X.env=pure cl
 kind:scope.kind= .function
 qG:∀y∈scope.names,y.2≠ .cell
 names:∀y∈scope.names,y.2= .local→scope.names.lookup y.1=some .local
 cells:∀x c,cl.lookup x=some c→X.env.cells.lookup x=some c
 has:∀x,((relabel scope X.env).names.lookup x=some .cell∨(relabel scope X.env).names.lookup x=some .free)→∃c,cl.lookup x=some c
 len:fr.length=N.length
 out:∀(i j:Nat) (x:Str),N[i]? =some x→fr[i]? =some (some j)→X.N[j]? =some x∧X.env.kindOf x=some .cell∧((relabel scope X.env).names.lookup x=some .cell∨(relabel scope X.env).names.lookup x=some .free)
end L2
namespace L2
open PySem PySem.Spec PyProof.Rows
def lh(env:Env):List (Str×NameKind)→List (Str×Addr)→List (Str×Addr)
 | [],cs=>cs
 | (n,k)::r,cs=>lh env r (if (k== .free)=true then (n,(env.cells.lookup n).getD 0)::cs else cs)
def sR(scope:Scope)(env:Env):List (Str×Addr):=lh env scope.names []
theorem wZ{env:Env}:∀{names:List (Str×NameKind)} (cs:List (Str×Addr)),(∀y∈names,y.2= .free→∃c,env.cells.lookup y.1=some c)→
  (forIn names cs fun (x:Str×NameKind) cs=>match x with
   | (name,kind)=>if (kind==NameKind.free)=true then do let c←cellOf env name;pure (ForInStep.yield ((name,c)::cs)) else pure (ForInStep.yield cs):Sem (List (Str×Addr)))=pure (lh env names cs)
 | [],cs,_=>rfl
 | (n,k)::r,cs,h=>by
   rw[List.forIn_cons]
   dsimp only
   have ih:=fun cs=>wZ (env:=env) (names:=r) cs fun y hy=>h y (List.mem_cons_of_mem _ hy)
   by_cases hk:(k==NameKind.free)=true
   ·obtain⟨c,hc⟩:=h (n,k) (List.mem_cons_self ..) (by simpa using hk)
    rw[if_pos hk,show lh env ((n,k)::r) cs=lh env r ((n,c)::cs) by rw[lh,if_pos hk,hc];rfl]
    have e:cellOf env n=pure c:=by unfold cellOf;rw[hc]
    rw[e]
    exact ih _
   ·rw[if_neg hk,show lh env ((n,k)::r) cs=lh env r cs by rw[lh,if_neg hk]]
    exact ih _
theorem C1{scope:Scope}{env:Env}(h:∀y∈scope.names,y.2= .free→∃c,env.cells.lookup y.1=some c):closureFor scope env=pure (sR scope env):=by
 have t:=wZ (env:=env) [] h
 have e:closureFor scope env=((forIn scope.names ([]:List (Str×Addr)) fun (x:Str×NameKind) cs=>match x with
   | (name,kind)=>if (kind==NameKind.free)=true then do let c←cellOf env name;pure (ForInStep.yield ((name,c)::cs)) else pure (ForInStep.yield cs)) >>= fun cs=>pure cs:Sem (List (Str×Addr))):=rfl
 rw[e,t]
 rfl
theorem nu{env:Env}:∀{names:List (Str×NameKind)} {cs:List (Str×Addr)},(∀y∈names,y.2= .free→∃c,env.cells.lookup y.1=some c)→(∀x c,cs.lookup x=some c→env.cells.lookup x=some c)→∀x c,(lh env names cs).lookup x=some c→env.cells.lookup x=some c
 | [],_,_,hc,x,c,h=>hc x c h
 | (n,k)::r,cs,hn,hc,x,c,h=>by
   rw[lh] at h
   refine nu (names:=r) (fun y hy=>hn y (List.mem_cons_of_mem _ hy)) (fun x c h=>?_) x c h
   by_cases hk:(k==NameKind.free)=true
   ·rw[if_pos hk] at h
    obtain⟨c',Cm⟩:=hn (n,k) (List.mem_cons_self ..) (by simpa using hk)
    rw[List.lookup_cons] at h
    cases e:x==n with
    |true=>
     rw[e] at h
     have ex:x=n:=by simpa using e
     subst ex
     rw[Cm] at h ⊢
     exact h
    |false=>
     rw[e] at h
     exact hc x c h
   ·rw[if_neg hk] at h
    exact hc x c h
theorem sS{env:Env}:∀{names:List (Str×NameKind)} {cs:List (Str×Addr)} {x:Str},((x,NameKind.free)∈names∨∃c,cs.lookup x=some c)→∃c,(lh env names cs).lookup x=some c
 | [],_,_,h=>h.elim (fun z=>by cases z) fun z=>z
 | (n,k)::r,cs,x,h=>by
   rw[lh]
   refine sS (names:=r) ?_
   by_cases hk:(k==NameKind.free)=true
   ·rw[if_pos hk,List.lookup_cons]
    cases e:x==n with
    |true=>exact .inr ⟨_,rfl⟩
    |false=>
     rcases h with h|h
     ·rcases List.mem_cons.mp h with z|z
      ·cases z
       simp at e
      ·exact .inl z
     ·exact .inr h
   ·rw[if_neg hk]
    rcases h with h|h
    ·rcases List.mem_cons.mp h with z|z
     ·cases z
      exact absurd rfl hk
     ·exact .inl z
    ·exact .inr h
theorem iE{env:Env}(x:Str):∀names:List (Str×NameKind),
  (names.map fun (y:Str×NameKind)=>match y with
   | (n,k)=>if (k==NameKind.free&&env.scope.kind== .function&&env.kindOf n==some .cell)=true then (n,NameKind.cell) else (n,k)).lookup x
   =(names.lookup x).map fun k=>if (k==NameKind.free&&env.scope.kind== .function&&env.kindOf x==some .cell)=true then NameKind.cell else k
 | []=>rfl
 | (n,k)::r=>by
   have ih:=iE (env:=env) x r
   rw[List.map_cons,List.lookup_cons]
   by_cases e:(x==n)=true
   ·have ex:x=n:=by simpa using e
    subst ex
    dsimp only
    by_cases hc:(k==NameKind.free&&env.scope.kind== .function&&env.kindOf x==some .cell)=true
    ·rw[if_pos hc,List.lookup_cons,beq_self_eq_true]
     dsimp only [Option.map]
     rw[if_pos hc]
    ·rw[if_neg hc,List.lookup_cons,beq_self_eq_true]
     dsimp only [Option.map]
     rw[if_neg hc]
   ·have e':(x==n)=false:=by simpa using e
    dsimp only
    by_cases hc:(k==NameKind.free&&env.scope.kind== .function&&env.kindOf n==some .cell)=true
    ·rw[if_pos hc,List.lookup_cons,e']
     exact ih
    ·rw[if_neg hc,List.lookup_cons,e']
     exact ih
structure C3(sc scope:Scope)(NX N:List Str)(fr:List (Option Nat)):Prop where
 J1:sc.kind= .function
 kind:scope.kind= .function
 qG:∀y∈scope.names,y.2≠ .cell
 names:∀y∈scope.names,y.2= .local→scope.names.lookup y.1=some .local
 free:∀y∈scope.names,y.2= .free→sc.names.lookup y.1=some .cell
 len:fr.length=N.length
 out:((List.range N.length).all fun i=>match fr[i]? with
  |some (some j)=>(match N[i]? with
   |some x=>(NX[j]? ==some x)&&(scope.names.lookup x==some .free)
   |none=>false)
  |_=>true)=true
theorem lj{names:List (Str×NameKind)}{x:Str}{k:NameKind}(h:names.lookup x=some k):(x,k)∈names:=PySem.mem_of_lookup h
theorem C3.VB{X:Cx}{sc scope:Scope}{NX N:List Str}{fr:List (Option Nat)}(B:C3 sc scope NX N fr)(e1:X.env.scope=sc)(e2:X.N=NX)(ok:X.Ok):JZ X N fr scope (sR scope X.env):=by
 subst e1 e2
 have fc:∀y∈scope.names,y.2= .free→∃c,X.env.cells.lookup y.1=some c:=fun y hy hf=>ok.has y.1 (.inl (B.free y hy hf))
 have lk:∀x,(relabel scope X.env).names.lookup x=(scope.names.lookup x).map fun k=>if (k==NameKind.free&&X.env.scope.kind== .function&&X.env.kindOf x==some .cell)=true then NameKind.cell else k:=fun x=>iE x scope.names
 have Gv:∀x,scope.names.lookup x=some .free→(relabel scope X.env).names.lookup x=some .cell:=fun x hx=>by
  have hk:X.env.kindOf x=some .cell:=B.free (x, .free) (lj hx) rfl
  rw[lk,hx,Option.map_some,hk,B.J1]
  rfl
 refine⟨C1 fc,B.kind,B.qG,B.names,fun x c h=>nu fc (fun x c h=>by cases h) x c h,fun x h=>sS (.inl ?_),B.len,fun i j x h1 h2=>?_⟩
 ·rw[lk] at h
  cases e:scope.names.lookup x with
  |none=>rw[e] at h;rcases h with h|h<;>cases h
  |some k=>
   rw[e,Option.map_some] at h
   have hm:=lj e
   cases k with
   |free=>exact hm
   |cell=>exact absurd rfl (B.qG _ hm)
   |_=>rcases h with h|h<;>simp at h
 ·have hi:i<N.length:=(List.getElem?_eq_some_iff.mp h1).1
  have:=List.all_eq_true.mp B.out i (List.mem_range.mpr hi)
  rw[h2] at this
  dsimp only at this
  rw[h1] at this
  dsimp only at this
  rw[Bool.and_eq_true] at this
  have a1:X.N[j]? =some x:=by simpa using this.1
  have a2:scope.names.lookup x=some .free:=by simpa using this.2
  exact⟨a1,B.free (x, .free) (lj a2) rfl, .inl (Gv x a2)⟩
end L2
namespace L2
open PySem PySem.Spec PyProof.Rows
def startB(fr:List (Option Nat))(σ:St):St:=fr.map fun o=>o.bind fun j=>(σ[j]?).join
theorem vv{fr:List (Option Nat)}{σ:St}{i:Nat}{v:V}(h:(startB fr σ)[i]? =some (some v)):∃j,fr[i]? =some (some j)∧σ[j]? =some (some v):=by
 unfold startB at h
 rw[List.getElem?_map] at h
 cases e:fr[i]? with
 |none=>rw[e] at h;cases h
 |some o=>
  rw[e] at h
  cases o with
  |none=>cases h
  |some j=>
   have h':(σ[j]?).join=some v:=Option.some.inj h
   cases q:σ[j]? with
   |none=>rw[q] at h';cases h'
   |some z=>rw[q] at h';exact⟨j,rfl,by rw[q];exact congrArg some h'⟩
section
variable {X:Cx}{pins:List (Addr×Obj)}{σ:St}{H:Hp}{s:Shared}{N:List Str}{fr:List (Option Nat)}{scope:Scope}{cl:List (Str×Addr)}{fp:List Addr}
theorem Ad(B:JZ X N fr scope cl)(I:Inv X pins σ H s)(f:∀b∈fp,jX X pins H b∧b<s.heap.objs.size):(pw X pins N scope cl fp s H).Ok where
 mod:=I.mod
 kind:=B.kind
 glob:=I.ok.glob
 blt:=I.ok.blt
 above:=Nat.le_refl _
 inj:=fun x y c h1 h2=>I.ok.inj x y c (B.cells x c h1) (B.cells y c h2)
 has:=fun x h=>B.has x h
 CD:=fun x c h=>by cases h
 hd:=I.ok.hd
 frames:=I.ok.frames
 EI:= .inl rfl
 IQ:=fun b hb=>⟨Nat.ne_of_lt (f b hb).2,fun x c h=>(f b hb).1.2.2.2.2.1 x c (B.cells x c h)⟩
 bs:=I.bs
 wJ:=Nat.le_trans I.ok.wJ I.sz
 qj:=fun b o e hb=>by
  rcases (f b hb).1.2.2.2.1 with h|h
  ·exact I.ok.qj b o e h
  ·exact absurd (Nat.lt_of_lt_of_le (Heap.lt_size e) (Nat.le_trans I.ok.wJ h)) (Nat.lt_irrefl _)
 qk:=fun b hb h=>by
  rcases List.mem_cons.mp (I.qm b h) with z|z
  ·exact(f b hb).1.2.1 z
  ·exact(f b hb).1.2.2.1 z
 ir:=I.stack
 zv:=I.qo
theorem yn{h1:Heap}{t1:Nat}(B:JZ X N fr scope cl)(I:Inv X pins σ H s)(f:∀b∈fp,jX X pins H b∧b<s.heap.objs.size)(EV:h1.Ns s.heap.objs.size fun _=>none)
  (Gw:∀b o,s.heap.get? b=some o→h1.get? b=some o):Inv (pw X pins N scope cl fp s H) [] (startB fr σ) H { s with heap:=h1,toks:=t1 }:=by
 obtain⟨m,hm,hl⟩:=I.loc
 refine⟨Ad B I f,rfl,I.bare,Un.kept Gw,⟨_,EV,fun i x v e1 e2 _=>?_⟩,fun x c h=>?_,I.bb.fresh (Nat.le_refl _),fun x c h=>I.eS x c (B.cells x c h),fun p hp=>?_,I.bb.kept Gw,?_⟩
 ·obtain⟨j,ej,es⟩:=vv e2
  obtain⟨o1,o2,o3⟩:=B.out i j x e1 ej
  obtain⟨u,ru,L⟩:=hl j x v o1 es (.inr (.inl o2))
  refine⟨u,ru, .inr ⟨o3,?_⟩⟩
  obtain⟨c,hc⟩:=B.has x o3
  rcases L with ⟨k1,_⟩ | ⟨_,c',Cm,cc⟩
  ·rw[o2] at k1;cases k1
  ·rw[B.cells x c hc] at Cm
   cases Cm
   exact⟨c,hc,cc.keeps Gw⟩
 ·obtain⟨v,hv⟩:=I.cell x c (B.cells x c h)
  exact⟨v,hv.keeps Gw⟩
 ·have Gx:p∈X.pn++pins:=by rw[List.append_nil] at hp;exact hp
  obtain⟨p1,p2,p3,p4,p5⟩:=I.pin p Gx
  exact⟨Gw _ _ p1,p2,Nat.ne_of_lt (Heap.lt_size p1),fun z=>(List.mem_cons.mp (I.qm _ z)).elim p3 p4,p5⟩
 ·show (startB fr σ).length=N.length
  unfold startB
  rw[List.length_map,B.len]
end
def Gy(X:Cx)(cs:List Expr)(t:TT):Prop:=
 ∀(pins:List (Addr×Obj)) (s:Shared) (σ:St) (H:Hp) (Q:Bool→Hp→Prop),Inv X pins σ H s→t σ H Q→
  wpAny (model X.prog X.w) X.A (forIn cs true fun c r=>if r=true then do let ok←isTrue c X.env (eval c X.env);pure (ForInStep.yield ok) else pure (ForInStep.yield r)) (TP X pins σ Q) X.xe s
def P2:TT:=fun _ H Q=>Q true H
theorem j3{X:Cx}:Gy X [] P2:=fun pins s σ H Q I h=>by
 rw[List.forIn_nil]
 exact wpAny_pure ⟨H,I,h⟩
theorem C4{X:Cx}{c:Expr}{t:TT}(h:PT X c t):Gy X [c] t:=fun pins s σ H Q I q=>by
 rw[List.forIn_cons,if_pos rfl]
 refine wpAny_bind (wpAny_bind (bL (h pins s σ H Q I q) fun b s' z=>?_))
 refine wpAny_pure ?_
 dsimp only
 rw[List.forIn_nil]
 exact wpAny_pure z
section
variable {prog:Program}{w:World}{A:Around}{R:Result→Shared→Prop}{s:Shared}
theorem comp_loop{elt tg iter:Expr}{ifs:List Expr}{scope:Scope}{pos:Pos}{it acc:Value}{env:Env}(J:Nat→Shared→Prop)
  (turn:∀n s,J n s→wpAny (model prog w) A (pyNext it) (fun r s₁=>match r with
   |none=>R (.ok .next) s₁
   |some v=>wpAny (model prog w) A (letOwnedTupleGo tg it v) (fun _ sg=>wpAny (model prog w) A (assign tg env v) (fun _ s₂=>
     wpAny (model prog w) A (forIn ifs true fun c r=>if r=true then do let ok←isTrue c env (eval c env);pure (ForInStep.yield ok) else pure (ForInStep.yield r)) (fun ok s₃=>
      if ok=true then wpAny (model prog w) A (eval elt env) (fun x s₄=>wpAny (model prog w) A (call (.builtin "list.append") [acc,x]) (fun _ s₅=>∃m,m<n∧J m s₅) (fun _ _=>False) s₄) (fun _ _=>False) s₃
      else∃m,m<n∧J m s₃) (fun _ _=>False) s₂) (fun _ _=>False) sg) (fun _ _=>False) s₁) (fun _ _=>False) s)
  (n:Nat) (h:J n s):codeAny (model prog w) A (.compLoop (.ListComp elt [⟨tg,iter,ifs,0⟩] scope pos) 0 it acc env) R s:=by
 refine codeAny_loop rfl J (fun n s hJ=>?_) n h
 show wpAny _ A ((compTurn (.ListComp elt [⟨tg,iter,ifs,0⟩] scope pos) 0 it acc env).onRaise (fun x=>do noteFrame x env;theTreesLotGoes x)) _ _ s
 refine wpAny_noted ?_
 rw[compTurn_list]
 have no:∀{P:Value→Shared→Prop} (a:Value) (s:Shared),(fun (_:Value) (_:Shared)=>False) a s→P a s:=fun _ _ z=>False.elim z
 refine wpAny_bind (wpAny_standAt (wpAny_bind (wpAny_mono (turn n s hJ) (fun r s₁ h₁=>?_) no)))
 cases r with
 |none=>exact wpAny_pure h₁
 |some v=>
  refine wpAny_bind (wpAny_mono h₁ (fun _ sg hg=>?_) no)
  refine wpAny_bind (wpAny_mono hg (fun _ s₂ h₂=>wpAny_bind (wpAny_mono h₂ (fun ok s₃ h₃=>?_) no)) no)
  cases ok with
  |false=>exact wpAny_pure ⟨rfl,h₃⟩
  |true=>exact wpAny_bind (wpAny_bind (wpAny_mono h₃ (fun x s₄ h₄=>wpAny_bind (wpAny_mono h₄ (fun _ s₅ h₅=>wpAny_pure (wpAny_pure ⟨rfl,h₅⟩)) no)) no))
end
def EX(wi:TI)(fr:List (Option Nat))(g:TG)(tt:TT)(te:TE):TE:=fun σ H Q=>wi σ H fun J H1=>∀D,H1 D=none→∃W:Nat→Nat→St→Hp→Prop,(∃m,W 0 m (startB fr σ) (upd H1 D (.lst [])))∧∀i m σ H,W i m σ H→
 (J.stop i H∧Q (.ref D) H)∨(J.go i H∧∀x H2,J.uX i H x H2→g x σ H2 fun σ3 H3=>tt σ3 H3 fun b H4=>if b=true
   then te σ3 H4 fun y H5=>∃ys,H5 D=some (.lst ys)∧ys.length<sizeLine∧∃m',m'<m∧W (i+1) m' σ3 (upd H5 D (.lst (ys++[y])))
   else∃m',m'<m∧W (i+1) m' σ3 H4)
section
variable {X:Cx}{elt tg iter:Expr}{ifs:List Expr}{scope:Scope}{pos:Pos}{N:List Str}{fr:List (Option Nat)}{cl:List (Str×Addr)}{wi:TI}{g:TG}{tt:TT}{te:TE}
theorem C5(B:JZ X N fr scope cl)(hc:X.calm=true)
  (hg:∀pins fp s H,PG (pw X pins N scope cl fp s H) tg g) (ht:∀pins fp s H,Gy (pw X pins N scope cl fp s H) ifs tt) (he:∀pins fp s H,PE (pw X pins N scope cl fp s H) elt te)
  {pins:List (Addr×Obj)} {s3:Shared} {σ:St} {H3:Hp} {Q:VK} {it D:Addr} {fp:List Addr} {tn:Nat→Heap→Prop} {J:It} (I3:Inv X pins σ H3 s3) (T:Turn X.prog X.w X.K tg J fp it tn) (Ol:tn 0 s3.heap) (f3:∀b∈fp,jX X pins H3 b∧b<s3.heap.objs.size)
  {W:Nat→Nat→St→Hp→Prop} {m0:Nat} (w0:W 0 m0 (startB fr σ) H3)
  (turn:∀i m σ H,W i m σ H→(J.stop i H∧Q (.ref D) H)∨(J.go i H∧∀x H2,J.uX i H x H2→g x σ H2 fun σ3 H3=>tt σ3 H3 fun b H4=>if b=true
    then te σ3 H4 fun y H5=>∃ys,H5 D=some (.lst ys)∧ys.length<sizeLine∧∃m',m'<m∧W (i+1) m' σ3 (upd H5 D (.lst (ys++[y])))
    else∃m',m'<m∧W (i+1) m' σ3 H4))
  {R:Result→Shared→Prop} (hR:∀s' H',Inv X pins σ H' s'→jX X pins H' s3.heap.objs.size→(∃m,s'.heap.Ns s3.heap.objs.size m)→Q (.ref D) H'→R (.ok .next) s')
  {h₁:Heap} {t1:Nat} (EV:h₁.Ns s3.heap.objs.size fun _=>none) (EY:∀b o,s3.heap.get? b=some o→h₁.get? b=some o):
  codeAny (model X.prog X.w) X.A (.compLoop (.ListComp elt [⟨tg,iter,ifs,0⟩] scope pos) 0 (.ref it) (.ref D) (compEnvC scope cl s3.heap.objs.size X.env)) R { s3 with heap:=h₁,toks:=t1 }:=by
 have Ib:=yn (t1:=t1) B I3 f3 EV EY
 have vg:∀{H':Hp},(∀b∈fp,H' b=none)→∀b∈fp,jX (pw X pins N scope cl fp s3 H3) [] H' b:=fun hn b hb=>
  ⟨hn b hb,Nat.ne_of_lt (f3 b hb).2,(Ad B I3 f3).qk b hb, .inl hb,fun x c h=>(f3 b hb).1.2.2.2.2.1 x c (B.cells x c h),fun p hp=>(f3 b hb).1.2.2.2.2.2 p (by rw[List.append_nil] at hp;exact hp)⟩
 refine comp_loop (fun n s'=>∃i σ' H',Inv (pw X pins N scope cl fp s3 H3) [] σ' H' s'∧tn i s'.heap∧(∀b∈fp,H' b=none)∧W i n σ' H') ?_ m0
  ⟨0,_,_,Ib,T.keep _ _ _ Ol fun b _ o e=>EY b o e,fun b hb=>(f3 b hb).1.1,w0⟩
 rintro n s4 ⟨i,σ4,H4,I4,VC,VD,w4⟩
 rcases turn i n σ4 H4 w4 with ⟨stop,qn⟩ | ⟨go,step⟩
 ·refine bL (T.done (pw X pins N scope cl fp s3 H3) rfl rfl rfl hc i [] s4 σ4 H4 _ I4 (vg VD) VC stop) fun r s5 ⟨hr,I5⟩=>?_
  subst hr
  have J5:Inv X pins σ H4 s5:=I3.zK (ch:=fp) I5.os I5.base I5.bb I5.bare fun b hb=>⟨(f3 b hb).1.2.2.2.1,(f3 b hb).1.2.1,(f3 b hb).1.2.2.2.2.1,(f3 b hb).1.2.2.2.2.2⟩
  obtain⟨mm,P4,_⟩:=I5.loc
  exact hR s5 H4 J5 (I3.zT (Nat.le_refl _) I5.free) ⟨mm,P4⟩ qn
 ·refine bL (T.item (pw X pins N scope cl fp s3 H3) rfl rfl rfl hc i [] s4 σ4 H4 _ I4 (vg VD) VC go) fun r s5 ⟨u,hr,h5⟩=>?_
  subst hr
  refine bL h5 fun _ s6 ⟨x,H6,I6,r6,y6,P5,W5⟩=>?_
  have W6:=I6.pinned (vg W5) (T.obj _ _ P5)
  have back:∀{s7:Shared} {σ7:St} {H7:Hp} {m':Nat},Inv (pw X pins N scope cl fp s3 H3) ([]++m8 fp s6.heap) σ7 H7 s7→m'<n→W (i+1) m' σ7 H7→
    ∃m,m<n∧∃i σ' H',Inv (pw X pins N scope cl fp s3 H3) [] σ' H' s7∧tn i s7.heap∧(∀b∈fp,H' b=none)∧W i m σ' H':=fun {s7 σ7 H7 m'} I7 hm w7=>by
   refine⟨m',hm,i+1,σ7,H7,I7.dm,T.keep _ _ _ P5 fun b hb o e=>(I7.pin (b,o) (List.mem_append_right _ (List.mem_append_right _ (gR hb e)))).1,fun b hb=>?_,w7⟩
   obtain⟨o,e,d⟩:=T.obj _ _ P5 b hb
   exact(I7.pin (b,o) (List.mem_append_right _ (List.mem_append_right _ (gR hb e)))).2.1
  refine bL (hg _ _ _ _ _ s6 σ4 H6 x u _ W6 r6 (step x H6 y6)) fun _ s7 ⟨σ7,H7,I7,q7⟩=>?_
  refine bL (ht _ _ _ _ _ s7 σ7 H7 _ I7 q7) fun ok s8 ⟨H8,I8,q8⟩=>?_
  cases ok with
  |false=>
   rw[if_neg (by decide)] at q8 ⊢
   obtain⟨m',hm,w8⟩:=q8
   exact back I8 hm w8
  |true=>
   rw[if_pos rfl] at q8 ⊢
   refine bL (he _ _ _ _ _ s8 σ7 H8 _ I8 q8) fun y s9 ⟨v9,H9,I9,r9,ys,W7,W8,m',hm,w9⟩=>?_
   refine bL (dE _ s9 σ7 H9 (.ref D) [v9] _ [y] (fun _ H'=>W (i+1) m' σ7 H') I9 rfl (.cons r9 .nil) ⟨_,ys,v9,rfl,rfl,W7,W8,w9⟩) fun _ Zg ⟨_,Zh,W9,_,W'⟩=>?_
   exact back W9 hm W'
theorem sT(B:JZ X N fr scope cl)(hc:X.calm=true)
  (hg:∀pins fp s H,PG (pw X pins N scope cl fp s H) tg g) (ht:∀pins fp s H,Gy (pw X pins N scope cl fp s H) ifs tt) (he:∀pins fp s H,PE (pw X pins N scope cl fp s H) elt te)
  {pins:List (Addr×Obj)} {s2:Shared} {σ:St} {H2:Hp} {Q:VK} {E:Value→Shared→Prop} {it:Addr} {fp:List Addr} {tn:Nat→Heap→Prop} {J:It} (I2:Inv X pins σ H2 s2) (T:Turn X.prog X.w X.K tg J fp it tn) (CI:tn 0 s2.heap) (f2:∀b∈fp,jX X pins H2 b)
  (q:∀D,H2 D=none→∃W:Nat→Nat→St→Hp→Prop,(∃m,W 0 m (startB fr σ) (upd H2 D (.lst [])))∧∀i m σ H,W i m σ H→
   (J.stop i H∧Q (.ref D) H)∨(J.go i H∧∀x H2,J.uX i H x H2→g x σ H2 fun σ3 H3=>tt σ3 H3 fun b H4=>if b=true
     then te σ3 H4 fun y H5=>∃ys,H5 D=some (.lst ys)∧ys.length<sizeLine∧∃m',m'<m∧W (i+1) m' σ3 (upd H5 D (.lst (ys++[y])))
     else∃m',m'<m∧W (i+1) m' σ3 H4))
  {RR:Value→Addr→Result→Shared→Prop}
  (Xa:∀D C s' H',Inv X pins σ H' s'→jX X pins H' C→(∃m,s'.heap.Ns C m)→Q (.ref D) H'→RR (.ref D) C (.ok .next) s'):
  wpAny (model X.prog X.w) X.A (newList []) (fun acc s₃=>wpAny (model X.prog X.w) X.A (newFunctionEnv scope X.env.globals cl [] X.env.qual none .none (some X.env)) (fun J9 s₄=>
   codeAny (model X.prog X.w) X.A (.compStart (.ListComp elt [⟨tg,iter,ifs,0⟩] scope pos) 0 (.ref it) acc { J9 with scope:=relabel scope X.env }) (RR acc J9.locals) s₄) E s₃) E s2:=by
 have hD:H2 s2.heap.objs.size=none:=I2.bb.fresh (Nat.le_refl _)
 obtain⟨W,⟨m0,w0⟩,turn⟩:=q s2.heap.objs.size hD
 have I3:=I2.JQ (ys:=[]) (its:=[]) (t':=s2.toks) .nil (by decide)
 have VE:∀b∈fp,b<s2.heap.objs.size:=fun b hb=>by
  obtain⟨o,e,_⟩:=T.obj _ _ CI b hb
  exact Heap.lt_size e
 refine wpAny_newObj_type (wpAny_newFunctionEnv B.qG (by intro y hy;simp at hy) (fun h₁ EV Gw=>?_) B.kind)
 have VF:∀b o,s2.heap.get? b=some o→(s2.heap.push { cls:= .type "list",data:= .seq ([]:List Value).toArray }).get? b=some o:=fun b o e=>Heap.get?_push_of_some _ e
 have EY:∀b o,(s2.heap.push { cls:= .type "list",data:= .seq ([]:List Value).toArray }).get? b=some o→h₁.get? b=some o:=fun b o e=>Gw.extBut b o (Nat.ne_of_lt (Heap.lt_size e)) (Heap.get?_push_of_some _ e)
 have f3:∀b∈fp,jX X pins (upd H2 s2.heap.objs.size (.lst [])) b∧b< (s2.heap.push { cls:= .type "list",data:= .seq ([]:List Value).toArray }).objs.size:=fun b hb=>by
  refine⟨⟨?_,(f2 b hb).2⟩,?_⟩
  ·rw[aj (Nat.ne_of_lt (VE b hb))]
   exact(f2 b hb).1
  ·rw[Heap.size_push]
   exact Nat.lt_succ_of_lt (VE b hb)
 have fin:=C5 (iter:=iter) (pos:=pos) (D:=s2.heap.objs.size) (t1:=s2.toks) (R:=RR (.ref s2.heap.objs.size) (s2.heap.push { cls:= .type "list",data:= .seq ([]:List Value).toArray }).objs.size) B hc hg ht he I3 T (T.keep _ _ _ CI fun b _ o e=>VF b o e) f3 w0 turn
  (fun s' H' J' f m q=>Xa _ _ s' H' J' f m q) EV EY
 exact codeAny_compStart_list fin (T.self _ 0 _ _ _ (T.keep _ _ _ CI fun b _ o e=>EY b o (VF b o e)) fin)
theorem j4{sc:Scope}{NX:List Str}(S:C3 sc scope NX N fr)(e1:X.env.scope=sc)(e2:X.N=NX)(hc:X.calm=true)(hi:PI X tg iter wi)
  (hg:∀pins fp s H,PG (pw X pins N scope (sR scope X.env) fp s H) tg g) (ht:∀pins fp s H,Gy (pw X pins N scope (sR scope X.env) fp s H) ifs tt) (he:∀pins fp s H,PE (pw X pins N scope (sR scope X.env) fp s H) elt te)
  (hs:∀x,foldedSetIterable iter X.env x=pure x:=by intro _;rfl):PE X (.ListComp elt [⟨tg,iter,ifs,0⟩] scope pos) (EX wi fr g tt te):=by
 intro pins s σ H Q I h
 have B:=S.VB e1 e2 I.ok
 rw[eval_ListComp]
 refine wpAny_comprehension_free (use:=none) rfl hs B.J0 B.kind B.names (bL (hi pins s σ H _ I h) fun v s1 h1=>bL h1 fun Oj s2 h2=>?_)
 obtain⟨it,fp,tn,J,H2,e,I2,T,CI,f2,q⟩:=h2
 subst e
 refine sT (RR:=fun acc C=>compPost (model X.prog X.w) X.A X.xe none (EP X pins σ Q) acc C) B hc hg ht he I2 T CI f2 q ?_
 intro D C s' H' J' fC ⟨m,hm⟩ qn
 refine⟨m,hm,fun h' C6=>⟨.ref D,H',?_,rfl,qn⟩⟩
 obtain⟨f0,f1,_,f3,f4,f5⟩:=fC
 exact J'.turned (t':=s'.toks) (fun b o hb e=>(C6.2 b hb).trans e) f0 f1 f3 f4 f5
end
end L2
namespace PySem
namespace F
theorem j5:entryFor table "dict.update.loop" =some Builtin.«dict.update.loop» :=entryFor_of_tree (by kernel_rfl)
theorem eW:plainId "dict.update.loop" =true:=by decide+kernel
theorem qH:typeLookup (.type "list") "keys" =pure none:=by rw[typeLookup_type,builtinLookup_eq_fast];kernel_rfl
end F
section
variable {prog:Program}{w:World}{K:Type}[DecidableEq K]{knd:KeyKind prog w K}{A:Around}{E:Value→Shared→Prop}{s:Shared}
theorem vw{a:Addr}{xs:Array Value}{k:Nat}{sl:Array (Option Value)}{Q:Option Value→Shared→Prop}
  (hx:s.heap.get? a=some { cls:= .type "list",dict:=none,data:= .seq xs k,slots:=sl }) (hA:A.handled=none)
  (h:∀h' tk,(∀b o,s.heap.get? b=some o→h'.get? b=some o)→Q none { s with heap:=h',toks:=tk }):wpAny (model prog w) A (getAttr? (.ref a) "keys") Q E s:=by
 obtain⟨hp,g,d,tk,os⟩:=s
 have hT:∀Gz,(⟨hp,g,d,Gz,os⟩:Shared).TypeIs (.ref a) "list" :=fun _=>⟨_,hx,rfl⟩
 have f1:=sub_AttributeError
 have f3:=F.slot_list_getattribute.lookup
 have f4:=F.slot_list_getattribute.bind (.ref a)
 have f5:=am_list_getattr_none
 unfold getAttr? getAttrBy? getAttrBy
 repeat (any_goals (first|assumption|exact hT _| ((with_reducible show wpAny _ _ (call (Value.builtin "list.__getattribute__") _ _) _ _ _);refine call_meets F.slot_list_getattribute (hT _) am_entry_list_getattribute (F.args_list_getattribute_2 _ _) (meets_getattribute_miss_list a xs k sl "keys" _ F.qH (by decide+kernel) (by decide+kernel)) ⟨hx,hA,fun h' Gz e Ov=>?_⟩) |wp_step))
 obtain⟨t',u',he⟩:=Ov.there
 show wpAny _ _ (getattributeRaised _ _ _ _ _ _ _) _ _ _
 unfold getattributeRaised
 repeat (any_goals (first|assumption|wp_step))
 all_goals exact h h' Gz Ov.keeps
theorem GA{d it l:Addr}{res:Value}{R:Result→Shared→Prop}{ps:List (Addr×K×Value×Value)}(hh:A.handled=none)(Xb:d≠l)(P6:d≠it)(P7:it≠l)
  (C7:∀p∈ps,p.1≠d∧p.1≠it∧knd.is p.2.1 p.2.2.1=true):
  ∀(n i:Nat) (s:Shared) (kvs:List (K×Value)),ps.length - i=n→i≤ps.length→s.heap.IsListIter it l i→s.heap.IsList l (ps.map fun p=>Value.ref p.1).toArray→
   (∀p∈ps,s.heap.IsTuple p.1 #[p.2.2.1,p.2.2.2])→s.heap.DictOf knd d kvs→kvs.length+(ps.length - i)≤sizeLine→
   (∀h' tk,h'.DictOf knd d ((ps.drop i).foldl (fun acc p=>stored acc p.2.1 p.2.2.2) kvs)→(∀b o,b≠d→b≠it→s.heap.get? b=some o→h'.get? b=some o)→R (.ok (.ret res)) { s with heap:=h',toks:=tk })→
   codeAny (model prog w) A (.builtin "dict.update.loop" ⟨[.ref d, .ref it,rawInt i,res],[]⟩) R s:=by
 intro n
 induction n with
 |zero=>
  intro i s kvs hn hi hit hl ht hd hsz hR
  refine codeAny_builtin F.j5 ?_
  rw[Around.under_plainId F.eW _]
  show wpAny _ A.in1 (pyNext (.ref it) >>= _) _ _ s
  refine wpAny_bind (wpAny_pyNext_list_end hh hit hl (by simp;omega) fun h' eb=>?_)
  show wpAny _ A.in1 (Builtin.Dict.addKeywords d [] >>= fun _=>ret res) _ _ _
  have e:ps.drop i=[]:=List.drop_eq_nil_of_le (by omega)
  rw[e] at hR
  exact wpAny_bind (wpAny_pure (wpAny_pure (hR h' s.toks (hd.extBut eb P6) fun b o _ hb q=>eb b o hb q)))
 |succ n ih=>
  intro i s kvs hn hi hit hl ht hd hsz hR
  have vh:i<ps.length:=by omega
  have hp:=ps.get_mem ⟨i,vh⟩
  have Xc:ps.drop i=ps[i]::ps.drop (i+1):=List.drop_eq_getElem_cons vh
  obtain⟨n1,n2,hk⟩:=C7 _ (List.getElem_mem vh)
  refine codeAny_builtin F.j5 ?_
  rw[Around.under_plainId F.eW _]
  show wpAny _ A.in1 (pyNext (.ref it) >>= _) _ _ s
  refine wpAny_bind (wpAny_pyNext_list_item hit hl (x:= .ref ps[i].1) (by simp [vh]) fun h1 P8 Ow=>?_)
  have VG:∀p∈ps,h1.IsTuple p.1 #[p.2.2.1,p.2.2.2]:=fun p hp=>by
   obtain⟨o,q,r⟩:=ht p hp
   exact⟨o,(Ow.2 _ (C7 p hp).2.1).trans q,r⟩
  obtain⟨o,ho,hc,m,P9⟩:=VG _ (List.getElem_mem vh)
  have P':h1.DictOf knd d kvs:=hd.sameBut Ow P6
  have sU:h1.IsList l (ps.map fun p=>Value.ref p.1).toArray:=hl.extBut Ow.extBut (Ne.symm P7)
  show wpAny _ A.in1 (holding [Value.ref ps[i].1] _ >>= _) _ _ _
  refine wpAny_bind (wpAny_holding (wpAny_bind ?_))
  refine wpAny_tryCatch ?_
  unfold Builtin.Dict.pairItems
  refine wpAny_bind (wpAny_typeOf (T:="tuple") ⟨o,ho,hc⟩ ?_)
  rw[if_pos (by decide)]
  refine wpAny_bind (wpAny_seqItems ho P9 (wpAny_pure ?_))
  show wpAny _ A.in1 (holding [ps[i].2.2.1,ps[i].2.2.2] (dictSet d ps[i].2.2.1 ps[i].2.2.2)) _ _ _
  refine wpAny_holding (wpAny_dictSet_pairs hk P' (fun h2 hd2 Ox=>?_) (by omega))
  have Xd:((i:Int)+1)=((i+1 :Nat):Int):=by push_cast;rfl
  have up:∀b o,b≠d→b≠it→s.heap.get? b=some o→h2.get? b=some o:=fun b o q1 q2 q=>(Ox.2 b q1).trans ((Ow.2 b q2).trans q)
  refine wpAny_pure ⟨plainId_quiet F.eW _,?_⟩
  show codeAny _ _ (.builtin "dict.update.loop" ⟨[.ref d, .ref it,rawInt ((i:Int)+1),res],[]⟩) _ _
  rw[Xd]
  refine ih (i+1) _ _ (by omega) vh ?_ ?_ ?_ hd2 ?_ ?_
  ·obtain⟨oi,q,r⟩:=P8
   exact⟨oi,(Ox.2 _ (Ne.symm P6)).trans q,r⟩
  ·exact sU.extBut Ox.extBut (Ne.symm Xb)
  ·intro p hp
   obtain⟨o',q,r⟩:=VG p hp
   exact⟨o',(Ox.2 _ (C7 p hp).1).trans q,r⟩
  ·have:=stored_length_le kvs ps[i].2.1 ps[i].2.2.2
   omega
  ·intro h' tk ql keep
   refine hR h' tk ?_ fun b o q1 q2 q=>keep b o q1 q2 (up b o q1 q2 q)
   rw[Xc]
   exact ql
end
end PySem
namespace PySem
section
variable {prog:Program}{w:World}{K:Type}[DecidableEq K]{knd:KeyKind prog w K}{A:Around}{E:Value→Shared→Prop}{s:Shared}
theorem jG{l:Addr}{n:Nat}{sl:Array (Option Value)}{ps:List (Addr×K×Value×Value)}{Q:Value→Shared→Prop}(hh:A.handled=none)
  (hl:s.heap.get? l=some { cls:= .type "list",dict:=none,data:= .seq (ps.map fun p=>Value.ref p.1).toArray n,slots:=sl })
  (ht:∀p∈ps,s.heap.IsTuple p.1 #[p.2.2.1,p.2.2.2]∧knd.is p.2.1 p.2.2.1=true) (hsz:ps.length≤sizeLine)
  (h:∀h' tk,h'.DictOf knd s.heap.objs.size (ps.foldl (fun acc p=>stored acc p.2.1 p.2.2.2) [])→(∀b o,s.heap.get? b=some o→h'.get? b=some o)→Q (.ref s.heap.objs.size) { s with heap:=h',toks:=tk }):
  wpAny (model prog w) A (call (.type "dict") [.ref l]) Q E s:=by
 refine callType_codes (Q₁:=fun obj s₁=>obj= .ref s.heap.objs.size∧s₁={ s with heap:=s.heap.push { cls:= .type "dict",data:= .dict #[] } }) F.kt_called_dict (F.kt_typeCall_dict_1 _) F.entry_dict_init (kt_code_dict_new _ ⟨rfl,rfl⟩) ?_
 rintro obj s₁ ⟨rfl,rfl⟩
 have C8:(s.heap.push { cls:= .type "dict",data:= .dict #[] }).DictOf knd s.heap.objs.size []:=Heap.DictOf.new s.heap
 have up:∀b o,s.heap.get? b=some o→(s.heap.push { cls:= .type "dict",data:= .dict #[] }).get? b=some o:=fun b o q=>Heap.get?_push_of_some _ q
 have sU:=up _ _ hl
 refine⟨C8.typeIs,F.args_dict_init_2 _ _,?_⟩
 unfold Builtin.«dict.__init__»
 refine wpAny_bind ?_
 unfold Builtin.Dict.selfAndRest
 refine wpAny_bind (wpAny_notOrdered_dict C8.typeIs ?_)
 show wpAny _ _ (pure (s.heap.objs.size,[Value.ref l])) _ _ _
 refine wpAny_pure ?_
 show wpAny _ _ (Builtin.Dict.updateFrom "dict.__init__" s.heap.objs.size (.ref l) [] .none) _ _ _
 unfold Builtin.Dict.updateFrom
 refine wpAny_bind (wpAny_typeOf (T:="list") ⟨_,sU,rfl⟩ ?_)
 rw[if_pos (by decide)]
 refine wpAny_bind (vw sU hh fun h2 Zi k2=>?_)
 rw[if_pos (show (none:Option Value).isNone=true from rfl)]
 refine wpAny_bind (wpAny_rule ?_)
 have wW:=k2 _ _ sU
 have Xe:h2.IsList l (ps.map fun p=>Value.ref p.1).toArray:=⟨_,wW,rfl,n,rfl⟩
 have EU:l<s.heap.objs.size:=Heap.lt_size hl
 have sz:s.heap.objs.size+1≤h2.objs.size:=by
  obtain⟨o,es,ep,q,r⟩:=id C8
  exact Heap.lt_size (k2 _ _ q)
 refine wpAny_bind (wpAny_pyIter_list Xe ?_)
 refine wpAny_pure ⟨plainId_quiet F.eW _,?_⟩
 have EY:∀b o,s.heap.get? b=some o→(h2.push { cls:= .type "list_iterator",data:= .fields #[.ref l, .int 0 0] }).get? b=some o:=fun b o q=>Heap.get?_push_of_some _ (k2 _ _ (up b o q))
 refine GA (A:=A.in1) (knd:=knd) (l:=l) (ps:=ps) hh (Nat.ne_of_gt EU) (Nat.ne_of_lt sz) (Nat.ne_of_gt (Nat.lt_of_lt_of_le EU (Nat.le_of_lt sz))) (fun p hp=>?_) ps.length 0 _ [] (by omega) (Nat.zero_le _) ?_ ?_ ?_ ?_ ?_ ?_
 ·obtain⟨⟨o,q,_⟩,hk⟩:=ht p hp
  have:=Heap.lt_size q
  exact⟨Nat.ne_of_lt this,Nat.ne_of_lt (Nat.lt_trans this sz),hk⟩
 ·exact⟨_,Heap.get?_push_size _ rfl,rfl,rfl⟩
 ·exact⟨_,Heap.get?_push_of_some _ wW,rfl,n,rfl⟩
 ·intro p hp
  obtain⟨⟨o,q,r⟩,hk⟩:=ht p hp
  exact⟨o,EY _ _ q,r⟩
 ·obtain⟨o,es,ep,q,r⟩:=C8
  exact⟨o,es,ep,Heap.get?_push_of_some _ (k2 _ _ q),r⟩
 ·simpa using hsz
 ·intro h' tk ql keep
  refine⟨rfl,h h' tk ql fun b o q=>?_⟩
  have:=Heap.lt_size q
  exact keep b o (Nat.ne_of_lt this) (Nat.ne_of_lt (Nat.lt_trans this sz)) (EY b o q)
end
end PySem
namespace L2
open PySem PySem.Spec PyProof.Rows
theorem px:∀{as:List Addr} {us:List Value},Vals (as.map V.ref) us→us=as.map Value.ref
 | [],_, .nil=>rfl
 |a::r,_, .cons h t=>by
  rw[px t]
  exact congrArg (·::r.map Value.ref) (show _=Value.ref a from h)
theorem pairs_of{P:Program}{w:World}{H:Hp}{h:Heap}(ok:iq P w H h):∀{ps:List (Addr×Key×V)},(∀p∈ps,H p.1=some (.tup [kV p.2.1,p.2.2]))→
  ∃qs:List (Addr×Key×Value×Value),Paired (fun (p:Addr×Key×V) (q:Addr×Key×Value×Value)=>p.1=q.1∧p.2.1=q.2.1∧RelV p.2.2 q.2.2.2) ps qs∧∀q∈qs,h.IsTuple q.1 #[q.2.2.1,q.2.2.2]∧(bG P w).is q.2.1 q.2.2.1=true
 | [],_=>⟨[], .nil,fun q hq=>by cases hq⟩
 | (a,k,v)::r,hp=>by
   obtain⟨qs,pr,hq⟩:=pairs_of ok (ps:=r) fun p Gx=>hp p (List.mem_cons_of_mem _ Gx)
   obtain⟨_,its,vs,tu⟩:=(show bT P w H h a (.tup [kV k,v]) from ok a _ (hp (a,k,v) (List.mem_cons_self ..)))
   obtain⟨u1,u2,rfl,r1,r2⟩:=vals2 vs
   refine⟨(a,k,u1,u2)::qs, .cons ⟨rfl,rfl,r2⟩ pr,fun q iC=>?_⟩
   rcases List.mem_cons.mp iC with rfl|z
   ·exact⟨tu,nk r1⟩
   ·exact hq q z
theorem nv:∀{ps:List (Addr×Key×V)} {qs:List (Addr×Key×Value×Value)},Paired (fun (p:Addr×Key×V) (q:Addr×Key×Value×Value)=>p.1=q.1∧p.2.1=q.2.1∧RelV p.2.2 q.2.2.2) ps qs→(ps.map fun p=>Value.ref p.1)=qs.map fun q=>Value.ref q.1
 |_,_, .nil=>rfl
 |_,_, .cons h t=>by
  rw[List.map_cons,List.map_cons,nv t,h.1]
theorem nz:∀{ps:List (Addr×Key×V)} {qs:List (Addr×Key×Value×Value)} {kvs:List (Key×V)} {vs:List (Key×Value)},Paired (fun (p:Addr×Key×V) (q:Addr×Key×Value×Value)=>p.1=q.1∧p.2.1=q.2.1∧RelV p.2.2 q.2.2.2) ps qs→KV kvs vs→
  KV (b7 kvs (ps.map (·.2))) (qs.foldl (fun acc q=>stored acc q.2.1 q.2.2.2) vs)
 |_,_,_,_, .nil,h=>h
 |_,_,kvs,vs, .cons (b:=q) (a:=p) h t,r=>by
  obtain⟨h1,h2,h3⟩:=h
  have u:KV (putK kvs p.2.1 p.2.2) (stored vs q.2.1 q.2.2.2):=by
   rw[←h2]
   exact r.put p.2.1 h3
  have z:=nz t u
  exact z
theorem vx{X:Cx}(hc:X.calm=true):iz X (.type "dict") (fun xs H Q=>∃l,∃ps:List (Addr×Key×V),xs=[.ref l]∧H l=some (.lst (ps.map fun p=> .ref p.1))∧(∀p∈ps,H p.1=some (.tup [kV p.2.1,p.2.2]))∧
  ∀q,H q=none→Q (.ref q) (upd H q (.dK (b7 [] (ps.map (·.2)))))):=by
 intro pins s σ H xs us Q I r h
 obtain⟨l,ps,rfl,hl,hp,q⟩:=h
 obtain⟨u,rfl,ru⟩:=vals1 r
 cases ru
 obtain⟨z,its,n,vs,_,e⟩:=I.CS hl
 obtain⟨qs,pr,hq⟩:=pairs_of I.bb hp
 have e1:its=qs.map fun q=>Value.ref q.1:=by
  rw[←nv pr]
  have:=px (as:=ps.map (·.1)) (us:=its) (by rw[List.map_map];exact vs)
  rw[this,List.map_map];rfl
 subst e1
 have zl:qs.length≤sizeLine:=by
  rw[←pr.length]
  rwa [List.length_map] at z
 refine jG (ps:=qs) (I.ok.hd hc) e hq zl fun h' tk dd keep=>?_
 have kv:=nz (kvs:=[]) (vs:=[]) pr .nil
 have zz:(b7 [] (ps.map (·.2))).length≤sizeLine:=by
  have:=f6 (ps.map (·.2)) []
  rw[List.length_map] at this
  have:=pr.length
  simp only [List.length_nil] at*
  omega
 exact⟨.ref s.heap.objs.size,_,I.laid (a:=s.heap.objs.size) (o:= .dK (b7 [] (ps.map (·.2)))) (t':=tk) keep (Nat.le_refl _) (vp zz (beq_eq_false_iff_ne.mpr (Ne.symm (Nat.ne_of_lt I.big))) kv dd),rfl,q _ (I.bb.fresh (Nat.le_refl _))⟩
def GB(K:PySem.W.Frag):V→List V→Hp→VK→Prop:=fun x vs H Q=>∃l xs y,∃j:Nat,x= .ref l∧vs=[y]∧cz K H l xs∧xs.all ju=true∧ju y=true∧xs.findIdx? (fun z=>z9 z y)=some j∧Q (.int j) H
theorem Ae{X:Cx}:Oq X "list.index" (GB X.K):=by
 intro pins s σ H x vs v us Q I rx rv h
 obtain⟨l,xs,y,j,rfl,rfl,hS,fl,fy,hj,q⟩:=h
 cases rx
 obtain⟨u,rfl,ru⟩:=rv.one
 obtain⟨its,r,p,z⟩:=I.list hS
 obtain⟨o,ho,GC,n,hd⟩:=p.isList
 obtain⟨c,dd,dt,sl⟩:=o
 simp only at GC hd
 subst GC hd
 obtain⟨VH,Xf,Xg⟩:=List.findIdx?_eq_some_iff_getElem.mp hj
 have hlen:=r.length
 have all:∀i (h1:i<xs.length) (h2:i<its.length),Aa y its[i]=z9 xs[i] y:=fun i h1 h2=>by
  obtain⟨w',hw,yh⟩:=r.get (List.getElem?_eq_getElem h1)
  rw[List.getElem?_eq_getElem h2] at hw
  have e:its[i]=w':=Option.some.inj hw
  rw[e]
  exact vt yh (List.all_eq_true.mp fl _ (List.getElem_mem h1))
 refine call_meets F.slot_list_index ⟨_,ho,rfl⟩ F.entry_list_index (F.args_list_index_2 _ _) (SeqAt.list_indexAt l its.toArray n dd sl u (Aa y) j (by rw[List.size_toArray];omega) ?_ ?_ ?_) ⟨ho,?_,?_⟩
 ·have:(sizeLine:Nat) <2^63:=jE
  omega
 ·rw[List.getElem_toArray,all j VH (by omega)]
  exact Xf
 ·intro m hm Xh
  rw[List.size_toArray] at hm
  rw[List.getElem_toArray,all m (by omega) hm]
  have:=Xg m Xh
  simpa using this
 ·intro y' VI
  exact j0 ru fy r fl y' (by simpa using VI)
 ·exact⟨.int j,H,I.tok _,⟨_,rfl⟩,q⟩
end L2
namespace L2
open PySem PySem.Spec PyProof.Rows
structure C9(K:PySem.W.Frag)(x qual:Str)(st:Stmt)(f:Addr)(fd:FuncData)(dV:Value):Prop where
 ex:∃(oc:Value) (od:Option Addr) (kV doc pm:Value) (an:Option Addr) (bj ct:Value) (mw:Array (Option Value)),
  fd=PySem.W.fnOf x qual (bH st) (a9 st) (ak st) dV kV doc pm an bj ct∧K.lookup f=some ⟨oc,od, .func fd,mw⟩∧PySem.W.codeIn K bj qual=true
 kp:PySem.W.keepIn K (.ref f)=true
section
variable {P:Program}{w:World}{K:PySem.W.Frag}{mg:Str→Option Value}{base:Heap}
theorem C9.ok{x qual:Str}{st:Stmt}{f:Addr}{fd:FuncData}{dV:Value}{N ps:List Str}{k:Nat}{sp:Sp}(F:C9 K x qual st f fd dV)(S:ax N ps (ak st))(len:∀vs H Q E,sp vs H Q E→vs.length=ps.length)
  (cQ:∀(bj:Value) (A:Around) (outer:List Env) (s:Shared) (H:Hp) (vs:List V) (Q:VK) (E:XK),b9 k (A.deeper (envOfC qual (ak st) s.heap.objs.size f bj))→sp vs H Q E→
   ∃t,jA (fM mz P w K mg base N qual (ak st) f bj A outer s H E).Cn (a9 st) t∧t { nx:=fun _ H'=>Q .cn H',rt:=Q } (start N vs) H):eD P w K mg base mz (k+1) f fd ps sp:=by
 obtain⟨oc,od,kV,doc,pm,an,bj,ct,mw,rfl,lk,me⟩:=F.ex
 refine fn_of lk me S len fun A outer s H vs Q E hr vn=>?_
 obtain⟨t,h,q⟩:=cQ bj A outer s H vs Q E hr vn
 exact⟨t,h.Cn,q⟩
theorem mB{x qual:Str}{st:Stmt}{f:Addr}{oc dV:Value}{od an:Option Addr}{mw:Array (Option Value)}{kV doc pm bj ct:Value}(l:K.lookup f=some ⟨oc,od, .func (PySem.W.fnOf x qual (bH st) (a9 st) (ak st) dV kV doc pm an bj ct),mw⟩)
  (c:PySem.W.codeIn K bj qual=true) (k:PySem.W.keepIn K (.ref f)=true):C9 K x qual st f (PySem.W.fnOf x qual (bH st) (a9 st) (ak st) dV kV doc pm an bj ct) dV:=⟨⟨oc,od,kV,doc,pm,an,bj,ct,mw,rfl,l,c⟩,k⟩
def Def(K:PySem.W.Frag)(mg:Str→Option Value)(x q:Str)(st:Stmt)(ps:List Str):Prop:=∃f fd,wX K x q st f fd∧Binds K fd ps []∧mg x=some (.ref f)
structure Xi(P:Program)(w:World)(K:PySem.W.Frag)(mg:Str→Option Value)(base:Heap)(k:Nat)(x:Str)(ps:List Str)(sp:Sp)(f:Addr)(fd:FuncData):Prop where
 ok:eD P w K mg base mz k f fd ps sp
 kp:PySem.W.keepIn K (.ref f)=true
 b:Binds K fd ps []
 g:mg x=some (.ref f)
def bx(P:Program)(w:World)(K:PySem.W.Frag)(mg:Str→Option Value)(base:Heap)(k:Nat)(x:Str)(ps:List Str)(sp:Sp):Prop:=∃f fd,Xi P w K mg base k x ps sp f fd
theorem Def.fJ{x q:Str}{st:Stmt}{N ps:List Str}{k:Nat}{sp:Sp}(D:Def K mg x q st ps)(S:ax N ps (ak st))(len:∀vs H Q E,sp vs H Q E→vs.length=ps.length)
  (cQ:∀(f:Addr) (bj:Value) (A:Around) (outer:List Env) (s:Shared) (H:Hp) (vs:List V) (Q:VK) (E:XK),b9 k (A.deeper (envOfC q (ak st) s.heap.objs.size f bj))→sp vs H Q E→
   ∃t,jA (fM mz P w K mg base N q (ak st) f bj A outer s H E).Cn (a9 st) t∧t { nx:=fun _ H'=>Q .cn H',rt:=Q } (start N vs) H):bx P w K mg base (k+1) x ps sp:=by
 obtain⟨f,fd,F,b,g⟩:=D
 exact⟨f,fd,F.ok S len (cQ f),F.kp,b,g⟩
def bU(K:PySem.W.Frag)(C:Addr)(m q:Str)(st:Stmt)(ps:List Str):Prop:=∃f fd,wX K m q st f fd∧Binds K fd ps []∧Meth K C m f
structure Qa(P:Program)(w:World)(K:PySem.W.Frag)(mg:Str→Option Value)(base:Heap)(k:Nat)(C:Addr)(m:Str)(ps:List Str)(sp:Sp)(f:Addr)(fd:FuncData):Prop where
 ok:eD P w K mg base mz k f fd ps sp
 m:Meth K C m f
 b:Binds K fd ps []
def c9(P:Program)(w:World)(K:PySem.W.Frag)(mg:Str→Option Value)(base:Heap)(k:Nat)(C:Addr)(m:Str)(ps:List Str)(sp:Sp):Prop:=∃f fd,Qa P w K mg base k C m ps sp f fd
theorem bU.fJ{C:Addr}{m q:Str}{st:Stmt}{N ps:List Str}{k:Nat}{sp:Sp}(D:bU K C m q st ps)(S:ax N ps (ak st))(len:∀vs H Q E,sp vs H Q E→vs.length=ps.length)
  (cQ:∀(f:Addr) (bj:Value) (A:Around) (outer:List Env) (s:Shared) (H:Hp) (vs:List V) (Q:VK) (E:XK),b9 k (A.deeper (envOfC q (ak st) s.heap.objs.size f bj))→sp vs H Q E→
   ∃t,jA (fM mz P w K mg base N q (ak st) f bj A outer s H E).Cn (a9 st) t∧t { nx:=fun _ H'=>Q .cn H',rt:=Q } (start N vs) H):c9 P w K mg base (k+1) C m ps sp:=by
 obtain⟨f,fd,F,b,g⟩:=D
 exact⟨f,fd,F.ok S len (cQ f),g,b⟩
def jH(K:PySem.W.Frag)(C:Addr)(q:Str)(st:Stmt)(ps:List Str)(ds:List Int):Prop:=∃f fd dV,C9 K "__init__" q st f fd dV∧Mk K C f∧∀j,j≤ds.length→∃us,Vals ((ds.drop j).map V.int) us∧Binds K fd ps us
structure Qb(P:Program)(w:World)(K:PySem.W.Frag)(mg:Str→Option Value)(base:Heap)(k:Nat)(C:Addr)(ps:List Str)(ds:List Int)(sp:Sp)(f:Addr)(fd:FuncData):Prop where
 ok:eD P w K mg base mz k f fd ps sp
 m:Mk K C f
 b:∀j,j≤ds.length→∃us,Vals ((ds.drop j).map V.int) us∧Binds K fd ps us
def fz(P:Program)(w:World)(K:PySem.W.Frag)(mg:Str→Option Value)(base:Heap)(k:Nat)(C:Addr)(ps:List Str)(ds:List Int)(sp:Sp):Prop:=∃f fd,Qb P w K mg base k C ps ds sp f fd
theorem jH.fJ{C:Addr}{q:Str}{st:Stmt}{N ps:List Str}{ds:List Int}{k:Nat}{sp:Sp}(D:jH K C q st ps ds)(S:ax N ps (ak st))(len:∀vs H Q E,sp vs H Q E→vs.length=ps.length)
  (cQ:∀(f:Addr) (bj:Value) (A:Around) (outer:List Env) (s:Shared) (H:Hp) (vs:List V) (Q:VK) (E:XK),b9 k (A.deeper (envOfC q (ak st) s.heap.objs.size f bj))→sp vs H Q E→
   ∃t,jA (fM mz P w K mg base N q (ak st) f bj A outer s H E).Cn (a9 st) t∧t { nx:=fun _ H'=>Q .cn H',rt:=Q } (start N vs) H):fz P w K mg base (k+1) C ps ds sp:=by
 obtain⟨f,fd,dV,F,g,b⟩:=D
 exact⟨f,fd,F.ok S len (cQ f),g,b⟩
end
theorem ay.new{H:Hp}{p:Addr}{o:HO}(h:H p=none):ay H (upd H p o):=fun b q e=>by
 rw[aj (ai e h)];exact e
theorem int_at{ns:List Int}{i:Nat}{y:V}(h:(ns.map V.int)[i]? =some y):∃z,ns[i]? =some z∧y=V.int z:=by
 rw[List.getElem?_map] at h
 cases e:ns[i]? with
 |none=>rw[e] at h;cases h
 |some z=>rw[e] at h;exact⟨z,rfl,(Option.some.inj h).symm⟩
end L2
namespace L2
open PySem
theorem dZ:bootBuiltins "len" =some (.builtin "len"):=PySem.boot_len
theorem gb:bootBuiltins "isinstance" =some (.builtin "isinstance"):=by decide+kernel
theorem lq:bootBuiltins "int" =some (.type "int"):=by decide+kernel
theorem nA:bootBuiltins "str" =some (.type "str"):=by decide+kernel
theorem Dc:bootBuiltins "bool" =some (.type "bool"):=by decide+kernel
theorem j6:bootBuiltins "list" =some (.type "list"):=by decide+kernel
theorem Dd:bootBuiltins "dict" =some (.type "dict"):=by decide+kernel
theorem cA{c A B:Prop}[Decidable c](hc:c)(h:A):if decide c=true then A else B:=by
 rw[if_pos (decide_eq_true hc)];exact h
theorem cu{c A B:Prop}[Decidable c](hc:¬c)(h:B):if decide c=true then A else B:=by
 rw[if_neg (by rw[decide_eq_false hc];decide)];exact h
theorem jI{α:Type}{xs:List α}{i:Int}(h0:0≤i)(h1:i<xs.length):∃v,v∈xs∧wV xs i=some v:=by
 have hl:i.toNat<xs.length:=by omega
 refine⟨xs[i.toNat],List.getElem_mem hl,?_⟩
 have:=gT (List.getElem?_eq_getElem hl)
 rwa [Int.toNat_of_nonneg h0] at this
theorem aM(x y:Str):(x++y).length=x.length+y.length:=by
 show (x.cps++y.cps).size=_
 rw[Array.size_append];rfl
theorem pz{n:Int}(h1:0≤n)(h2:n<2^64):n.natAbs.log2<1920:=by
 by_cases h:n.natAbs=0
 ·rw[h];decide
 ·have:=(Nat.log2_lt h (k:=64)).mpr (by omega)
  omega
end L2
namespace L2
open PySem PySem.Spec PyProof.Rows
inductive pB:List Expr→List V→Prop where
 |nil:pB [] []
 |int {i:Int} {j} {pos:Pos} {es:List Expr} {vs:List V} (t:pB es vs):pB (.Constant (.int i) j pos::es) (.int i::vs)
 |str {x:Str} {j} {pos:Pos} {es:List Expr} {vs:List V} (t:pB es vs):pB (.Constant (.str x) j pos::es) (.str x::vs)
def Ka(vs:List V):TA:=fun _ H Q=>Q vs H
theorem iX{X:Cx}{es:List Expr}{vs:List V}(h:pB es vs):PA X es (Ka vs):=by
 induction h with
 |nil=>exact ao
 |int t ih=>exact fun pos pins s σ H Q I q=>aa ah ih rfl pos pins s σ H Q I q
 |str t ih=>exact fun pos pins s σ H Q I q=>aa aw ih rfl pos pins s σ H Q I q
section
variable {K:PySem.W.Frag}
theorem j7{T:String}:PySem.W.kitOne K (.type T) (.type T)=some true:=by
 unfold PySem.W.kitOne
 rw[if_pos (by simp)]
theorem GD{T U:String}{b:Bool}(h1:(Value.type T==Value.type U)=false)(h2:PySem.W.kitMeta U=true)(h3:(fastBuiltinMro T).map (·.contains (Value.type U))=some b):PySem.W.kitOne K (.type T) (.type U)=some b:=by
 unfold PySem.W.kitOne
 rw[if_neg (by rw[h1];decide)]
 unfold PySem.W.kitCls
 dsimp only
 rw[if_pos h2]
 exact h3
theorem qI:PySem.W.kitOne K (.type "int") (.type "bool")=some false:=GD (by decide+kernel) (by decide+kernel) (by decide+kernel)
end
end L2
namespace L2
open PySem PySem.Spec PyProof.Rows
section
variable {X:Cx}{elt tg iter:Expr}{ifs:List Expr}{scope:Scope}{pos De py:Pos}{N:List Str}{fr:List (Option Nat)}{wi:TI}{g:TG}{tt:TT}{te:TE}
theorem Df{i:Nat}{y:Str}{sc:Scope}{NX:List Str}(hN:X.N.Nodup)(Xj:X.N[i]? =some y)(hy:Loc X.env.scope y)(S:C3 sc scope NX N fr)(e1:X.env.scope=sc)(e2:X.N=NX)(hc:X.calm=true)(hi:PI X tg iter wi)
  (hg:∀pins fp s H,PG (pw X pins N scope (sR scope X.env) fp s H) tg g) (ht:∀pins fp s H,Gy (pw X pins N scope (sR scope X.env) fp s H) ifs tt) (he:∀pins fp s H,PE (pw X pins N scope (sR scope X.env) fp s H) elt te)
  (Xk:swapsWith (.ListComp elt [⟨tg,iter,ifs,0⟩] scope pos) (some (.Name y py)) De.line X.env=pure true:=by rfl) (hs:∀x,foldedSetIterable iter X.env x=pure x:=by intro _;rfl)
  (hf:X.fn y=true∨X.env.scope.names.lookup y=some .local:=by first|exact .inl rfl|exact .inr rfl|assumption):
  PS X (.Assign [.Name y py] (.ListComp elt [⟨tg,iter,ifs,0⟩] scope pos) De) (CG (EX wi fr g tt te) (dM i)):=by
 intro pins s σ H D I h
 have B:=S.VB e1 e2 I.ok
 rw[exec_Assign_Name_used _ _ _ _ Xk]
 refine wpAny_bind (wpAny_standAt (wpAny_bind ?_))
 show wpAny _ X.A (do let _←comprehension (.ListComp elt [⟨tg,iter,ifs,0⟩] scope pos) scope X.env _ (newList []) false (eval iter X.env) (some (assign (.Name y py) X.env))) _ _ s
 refine wpAny_bind (wpAny_mono (wpAny_comprehension_free (use:=some (assign (.Name y py) X.env)) (Q:=fun _ s'=>SP X pins D .next s') rfl hs B.J0 B.kind B.names (bL (hi pins s σ H _ I h) fun v s1 h1=>bL h1 fun Oj s2 h2=>?_)) (fun _ s' hq=>wpAny_pure (wpAny_pure hq)) fun _ _ e=>e)
 obtain⟨it,fp,tn,J,H2,e,I2,T,CI,f2,q⟩:=h2
 subst e
 refine sT (Q:=fun v H'=>dM i v σ H' D.nx) (RR:=fun acc C=>compPost (model X.prog X.w) X.A X.xe (some (assign (.Name y py) X.env)) (fun _ s'=>SP X pins D .next s') acc C) B hc hg ht he I2 T CI f2 q ?_
 intro D' C s' H' J' fC ⟨m,hm⟩ qn
 obtain⟨f0,f1,_,f3,f4,f5⟩:=fC
 show wpAny _ X.A (assign (.Name y py) X.env (.ref D')) _ _ _
 refine wpAny_assign_Name (o5 J' hN Xj hy (v:= .ref D') rfl (fun JG Xl ⟨a,sb,ha⟩=>?_) hf)
 have Xm:C≠a:=by
  rcases ha with z|z
  ·rw[z];exact f1
  ·exact fun w'=>f4 _ _ z w'.symm
 refine⟨m,hm.sameBut sb Xm,fun h' C6=>⟨_,H',?_,qn⟩⟩
 exact Xl.turned (t':=JG.toks) (fun b o hb e=>(C6.2 b hb).trans e) f0 f1 f3 f4 f5
end
theorem lu{K:PySem.W.Frag}{a D:Addr}{xs:List V}{g:TG}{tt:TT}{te:TE}{Q:Hp→Prop}{σ:St}{H:Hp}(Pv:Nat→St→Hp→Prop)(h0:Pv 0 σ H)(hl:∀i σ H,i≤xs.length→Pv i σ H→cz K H a xs)
  (hs:∀i x σ H,xs[i]? =some x→Pv i σ H→∀N:St→Hp→Prop,(∀σ' H',Pv (i+1) σ' H'→N σ' H')→g x σ H fun σ3 H3=>tt σ3 H3 fun b H4=>if b=true then te σ3 H4 fun y H5=>∃ys,H5 D=some (.lst ys)∧ys.length<sizeLine∧N σ3 (upd H5 D (.lst (ys++[y]))) else N σ3 H4)
  (hd:∀σ H,Pv xs.length σ H→Q H):
  ∃W:Nat→Nat→St→Hp→Prop,(∃m,W 0 m σ H)∧∀i m σ H,W i m σ H→((zU K a).stop i H∧Q H)∨((zU K a).go i H∧∀x H2,(zU K a).uX i H x H2→g x σ H2 fun σ3 H3=>tt σ3 H3 fun b H4=>if b=true
   then te σ3 H4 fun y H5=>∃ys,H5 D=some (.lst ys)∧ys.length<sizeLine∧∃m',m'<m∧W (i+1) m' σ3 (upd H5 D (.lst (ys++[y])))
   else∃m',m'<m∧W (i+1) m' σ3 H4):=by
 refine⟨fun i m σ H=>m+i=xs.length∧Pv i σ H,⟨xs.length,rfl,h0⟩,?_⟩
 rintro i m σ H ⟨hm,hp⟩
 have sq:=hl i σ H (by omega) hp
 by_cases hi:i<xs.length
 ·refine .inr ⟨⟨xs,xs[i],sq,List.getElem?_eq_getElem hi⟩,?_⟩
  rintro x H2 ⟨rfl,hx⟩
  exact hs i x σ H2 (hx xs sq) hp _ fun σ' H' q=>⟨m - 1,by omega,by omega,q⟩
 ·have e:i=xs.length:=by omega
  subst e
  exact .inl ⟨⟨xs,sq,Nat.le_refl _⟩,hd σ H hp⟩
theorem Dg{X:Cx}{es:List Expr}{k:Nat}{pos:Pos}{t:EM}(K:PySem.W.Frag)(n:Nat)(hK:X.K=K)(hc:X.calm=true)(h:IS X es t)(hn:(assignEach es X.env).length=n:=by rfl)(yb:(assignEach es X.env).findIdx? (·.1)=none:=by rfl):PG X (.Tuple es k pos) (Jr K n t):=by
 subst hK
 exact kW hc h hn yb
theorem yo{a D:Addr}{o:Obj}{kvs:List (Key×V)}{g:TG}{tt:TT}{te:TE}{Q:Hp→Prop}{σ:St}{H:Hp}(Pv:Nat→St→Hp→Prop)(h0:Pv 0 σ H)(hl:∀i σ H,Pv i σ H→H a=some (.kR o (.dK kvs)))
  (hs:∀i k v σ H,kvs[i]? =some (k,v)→Pv i σ H→∀N:St→Hp→Prop,(∀σ' H',Pv (i+1) σ' H'→N σ' H')→g (kV k) σ H fun σ3 H3=>tt σ3 H3 fun b H4=>if b=true then te σ3 H4 fun y H5=>∃ys,H5 D=some (.lst ys)∧ys.length<sizeLine∧N σ3 (upd H5 D (.lst (ys++[y]))) else N σ3 H4)
  (hd:∀σ H,Pv kvs.length σ H→Q H):
  ∃W:Nat→Nat→St→Hp→Prop,(∃m,W 0 m σ H)∧∀i m σ H,W i m σ H→((JW a o kvs).stop i H∧Q H)∨((JW a o kvs).go i H∧∀x H2,(JW a o kvs).uX i H x H2→g x σ H2 fun σ3 H3=>tt σ3 H3 fun b H4=>if b=true
   then te σ3 H4 fun y H5=>∃ys,H5 D=some (.lst ys)∧ys.length<sizeLine∧∃m',m'<m∧W (i+1) m' σ3 (upd H5 D (.lst (ys++[y])))
   else∃m',m'<m∧W (i+1) m' σ3 H4):=by
 refine⟨fun i m σ H=>m+i=kvs.length∧Pv i σ H,⟨kvs.length,rfl,h0⟩,?_⟩
 rintro i m σ H ⟨hm,hp⟩
 have hz:=hl i σ H hp
 by_cases hi:i<kvs.length
 ·refine .inr ⟨⟨hz,hi⟩,?_⟩
  rintro x H2 ⟨rfl,k,v,Ou,rfl⟩
  exact hs i k v σ H2 Ou hp _ fun σ' H' q=>⟨m - 1,by omega,by omega,q⟩
 ·have e:i=kvs.length:=by omega
  subst e
  exact .inl ⟨⟨hz,Nat.le_refl _⟩,hd σ H hp⟩
end L2
namespace L2
open PySem PySem.Spec PyProof.Rows
section
variable {X:Cx}
def Qc(t u:TE):TE:=fun σ H Q=>t σ H Q∨u σ H Q
theorem GF{e:Expr}{t u:TE}(h:PE X e t)(h':PE X e u):PE X e (Qc t u):=fun pins s σ H Q I q=>
 q.elim (fun z=>h pins s σ H Q I z) fun z=>h' pins s σ H Q I z
theorem nB:∀{xs:List Str} {us:List Value},Vals (xs.map V.str) us→StrsAre us xs
 | [],_, .nil=> .nil
 |x::r,_, .cons h t=>by
  obtain⟨tk,e⟩:=(show∃t,_=Value.str x t from h)
  subst e
  exact .cons x tk (nB t)
def rJoin(K:PySem.W.Frag):V→List V→Hp→VK→Prop:=fun x vs H Q=>∃z l,∃ys:List Str,x= .str z∧vs=[.ref l]∧cz K H l (ys.map V.str)∧(ys.map (·.length)).sum+ys.length*z.length≤16777216∧Q (.str (Txt.join z ys)) H
theorem j8:Oq X "str.join" (rJoin X.K):=by
 intro pins s σ H x vs v us Q I rx rv h
 obtain⟨z,l,ys,rfl,rfl,hS,hz,q⟩:=h
 obtain⟨t,e⟩:=(show∃t,v=Value.str z t from rx)
 subst e
 obtain⟨u,rfl,ru⟩:=rv.one
 cases ru
 obtain⟨its,r,p,_⟩:=I.list hS
 exact join_list p.isList (by simpa using nB r) hz fun t' k=>⟨.str (Txt.join z ys),H,I.tok k,⟨t',rfl⟩,q⟩
mutual
inductive zA(K:PySem.W.Frag)(H:Hp):V→PyData→Prop where
 |cn:zA K H .cn .none
 |bl (b:Bool):zA K H (.bl b) (.bool b)
 |int (i:Int):zA K H (.int i) (.int i)
 |str (x:Str):zA K H (.str x) (.str x)
 |lst {a:Addr} {xs:List V} {ds:List PyData} (h:cz K H a xs) (t:yp K H xs ds):zA K H (.ref a) (.list ds)
 |tup {a:Addr} {xs:List V} {ds:List PyData} (h:jD K H a xs) (t:yp K H xs ds):zA K H (.ref a) (.tuple ds)
inductive yp(K:PySem.W.Frag)(H:Hp):List V→List PyData→Prop where
 |nil:yp K H [] []
 |cons {x:V} {d:PyData} {xs:List V} {ds:List PyData} (h:zA K H x d) (t:yp K H xs ds):yp K H (x::xs) (d::ds)
end
mutual
theorem nD{pins:List (Addr×Obj)}{σ:St}{H:Hp}{s:Shared}(I:Inv X pins σ H s){x:V}{d:PyData}(h:zA X.K H x d){u:Value}(r:RelV x u):∃as,Reads s.heap u d as:=by
 cases h with
 |cn=>cases (show u=Value.none from r);exact⟨_, .none⟩
 |bl b=>cases (show u=Value.bool b from r);exact⟨_, .bool b⟩
 |int i=>obtain⟨t,rfl⟩:=(show∃t,u=Value.int i t from r);exact⟨_, .int i t⟩
 |str y=>obtain⟨t,rfl⟩:=(show∃t,u=Value.str y t from r);exact⟨_, .str y t⟩
 | @lst a xs ds hS t=>
   cases (show u=Value.ref a from r)
   obtain⟨its,rv,p,_⟩:=I.list hS
   obtain⟨o,ho,hc,n,hd⟩:=p.isList
   obtain⟨as,ra⟩:=iF I t rv
   exact⟨_, .list ho hc hd (by simpa using ra)⟩
 | @tup a xs ds hS t=>
   cases (show u=Value.ref a from r)
   obtain⟨its,rv,p,_⟩:=I.tuple hS
   obtain⟨o,ho,hc,n,hd⟩:=p
   obtain⟨as,ra⟩:=iF I t rv
   exact⟨_, .tuple ho hc hd (by simpa using ra)⟩
theorem iF{pins:List (Addr×Obj)}{σ:St}{H:Hp}{s:Shared}(I:Inv X pins σ H s){xs:List V}{ds:List PyData}(h:yp X.K H xs ds){us:List Value}(r:Vals xs us):∃as,ReadsAll s.heap us ds as:=by
 cases h with
 |nil=>cases r;exact⟨_, .nil⟩
 |cons h t=>
  cases r with
  |cons r1 r2=>
   obtain⟨as,ra⟩:=nD I h r1
   obtain⟨bs,rb⟩:=iF I t r2
   exact⟨_, .cons ra rb⟩
end
def Qd(neg:Bool)(K:PySem.W.Frag):R2:=fun x y H Q=>∃d e,zA K H x d∧zA K H y e∧SeqAt.shaped d=true∧SeqAt.shaped e=true∧Q (.bl (neg^^PyData.eqv d e)) H
theorem Af(hu:X.A.units+64<cLine):mf X (compareOp .Eq) (Qd false X.K):=by
 intro pins s σ H x y v u Q I rx ry h
 obtain⟨d,e,hd,he,sd,se,q⟩:=h
 obtain⟨as,ra⟩:=nD I hd rx
 obtain⟨bs,rb⟩:=nD I he ry
 exact SeqAt.compareEq_shaped ra rb sd se hu ⟨.bl (PyData.eqv d e),H,I,rfl,by simpa using q⟩
end
end L2
namespace L2
open PySem PySem.Spec PyProof.Rows
section
variable {X:Cx}
end
theorem dP{tt:TT}{A B r:TS}{D:Ends}{σ:St}{H:Hp}(Pm:St→Hp→Prop)(h:∀N:St→Hp→Prop,(∀σ' H',Pm σ' H'→N σ' H')→F3 tt A B { D with nx:=N } σ H)(hr:∀σ' H',Pm σ' H'→r D σ' H'):zS (F3 tt A B) r D σ H:=h _ hr
section
variable {X:Cx}{pins:List (Addr×Obj)}{σ:St}{H:Hp}{s:Shared}{h':Heap}
end
theorem Ag:bootBuiltins "abs" =some (.builtin "abs"):=by decide+kernel
theorem GG(xs:List V)(k:Nat):k9 xs none (some (k:Int))=xs.take k:=by
 unfold k9
 rw[HT.sI,HT.mx,List.drop_zero,Nat.sub_zero]
 rcases Nat.le_total k xs.length with h|h
 ·rw[Nat.min_eq_left h]
 ·rw[Nat.min_eq_right h,List.take_length,List.take_of_length_le h]
theorem GH(xs:List V)(k:Nat):k9 xs (some (k:Int)) none=xs.drop k:=by
 unfold k9
 rw[HT.sI,HT.mx]
 rcases Nat.le_total k xs.length with h|h
 ·rw[Nat.min_eq_left h]
  exact List.take_of_length_le (by rw[List.length_drop];exact Nat.le_refl _)
 ·rw[Nat.min_eq_right h,List.drop_length,List.drop_of_length_le h]
  exact List.take_nil
theorem Ah(xs:List V)(j k:Nat):k9 xs (some (j:Int)) (some (k:Int))=(xs.drop j).take (k - j):=by
 unfold k9
 rw[HT.mx,HT.mx]
 rcases Nat.le_total j xs.length with h|h
 ·rw[Nat.min_eq_left h]
  rcases Nat.le_total k xs.length with h'|h'
  ·rw[Nat.min_eq_left h']
  ·rw[Nat.min_eq_right h',List.take_of_length_le (by rw[List.length_drop];exact Nat.le_refl _),List.take_of_length_le (by rw[List.length_drop];omega)]
 ·rw[Nat.min_eq_right h,List.drop_length,List.drop_of_length_le h,List.take_nil,List.take_nil]
end L2
namespace L2
open PySem PySem.Spec PyProof.Rows
section
variable {K:PySem.W.Frag}{g:TG}{tt:TT}{te:TE}{tb:TS}{D:Ends}
theorem Dh{J:It}{L:Addr}{Q:Hp→Prop}{σ:St}{H:Hp}(n:Nat)(H0:Hp)(S:St→Prop)(Pv:Nat→List V→Prop)(Qe:∀i H',i<n→ay H0 H'→J.go i H')(Ai:∀H',ay H0 H'→J.stop n H')
  (GI:H0 L=none) (hσ:S σ) (h0:ay H0 H) (hL:H L=some (.lst [])) (p0:Pv 0 []) (hz:n≤sizeLine) (hl:∀i ys,Pv i ys→ys.length≤i)
  (turn:∀i σ H' ys,i<n→S σ→ay H0 H'→H' L=some (.lst ys)→Pv i ys→∀(N:St→V→Hp→Prop) (M:St→Hp→Prop),(∀σ3 y H5,S σ3→ay H0 H5→H5 L=some (.lst ys)→Pv (i+1) (ys++[y])→N σ3 y H5)→
   ∀x H2,J.uX i H' x H2→g x σ H2 fun σ3 H3=>tt σ3 H3 fun b H4=>if b=true then te σ3 H4 fun y H5=>N σ3 y H5 else M σ3 H4)
  (fin:∀H' ys,ay H0 H'→H' L=some (.lst ys)→Pv n ys→Q H'):
  ∃W:Nat→Nat→St→Hp→Prop,(∃m,W 0 m σ H)∧∀i m σ H,W i m σ H→(J.stop i H∧Q H)∨(J.go i H∧∀x H2,J.uX i H x H2→g x σ H2 fun σ3 H3=>tt σ3 H3 fun b H4=>if b=true
   then te σ3 H4 fun y H5=>∃ys,H5 L=some (.lst ys)∧ys.length<sizeLine∧∃m',m'<m∧W (i+1) m' σ3 (upd H5 L (.lst (ys++[y])))
   else∃m',m'<m∧W (i+1) m' σ3 H4):=by
 refine⟨fun i m σ H=>m+i=n∧S σ∧ay H0 H∧∃ys,H L=some (.lst ys)∧Pv i ys,⟨n,rfl,hσ,h0,[],hL,p0⟩,?_⟩
 rintro i m σ H ⟨hm,hs,j9,ys,Kb,hp⟩
 by_cases hi:i<n
 ·refine .inr ⟨Qe i H hi j9,fun x H2 hy=>turn i σ H ys hi hs j9 Kb hp _ _ (fun σ3 y H5 k1 k2 k3 k4=>?_) x H2 hy⟩
  refine⟨ys,k3,by have:=hl i ys hp;omega,m - 1,by omega,by omega,k1,fun b o e=>?_,ys++[y],ag,k4⟩
  rw[aj (ai e GI)];exact k2 b o e
 ·have e:i=n:=by omega
  subst e
  exact .inl ⟨Ai H j9,fin H ys j9 Kb hp⟩
theorem Aj{a L:Addr}{xs:List V}{Q:Hp→Prop}{σ:St}{H:Hp}(H0:Hp)(S:St→Prop)(Pv:Nat→List V→Prop)(ha:cz K H0 a xs)
  (GI:H0 L=none) (hσ:S σ) (h0:ay H0 H) (hL:H L=some (.lst [])) (p0:Pv 0 []) (hz:xs.length≤sizeLine) (hl:∀i ys,Pv i ys→ys.length≤i)
  (turn:∀i x σ H' ys,xs[i]? =some x→S σ→ay H0 H'→H' L=some (.lst ys)→Pv i ys→∀(N:St→V→Hp→Prop) (M:St→Hp→Prop),(∀σ3 y H5,S σ3→ay H0 H5→H5 L=some (.lst ys)→Pv (i+1) (ys++[y])→N σ3 y H5)→
   g x σ H' fun σ3 H3=>tt σ3 H3 fun b H4=>if b=true then te σ3 H4 fun y H5=>N σ3 y H5 else M σ3 H4)
  (fin:∀H' ys,ay H0 H'→H' L=some (.lst ys)→Pv xs.length ys→Q H'):
  ∃W:Nat→Nat→St→Hp→Prop,(∃m,W 0 m σ H)∧∀i m σ H,W i m σ H→((zU K a).stop i H∧Q H)∨((zU K a).go i H∧∀x H2,(zU K a).uX i H x H2→g x σ H2 fun σ3 H3=>tt σ3 H3 fun b H4=>if b=true
   then te σ3 H4 fun y H5=>∃ys,H5 L=some (.lst ys)∧ys.length<sizeLine∧∃m',m'<m∧W (i+1) m' σ3 (upd H5 L (.lst (ys++[y])))
   else∃m',m'<m∧W (i+1) m' σ3 H4):=
 Dh xs.length H0 S Pv (fun i H' hi e=>⟨xs,xs[i],e.seq ha,List.getElem?_eq_getElem hi⟩) (fun H' e=>⟨xs,e.seq ha,Nat.le_refl _⟩) GI hσ h0 hL p0 hz hl
  (fun i σ H' ys _ hs e k p N M hN x H2 hy=>by
   obtain⟨rfl,hx⟩:=hy
   exact turn i x σ H2 ys (hx xs (e.seq ha)) hs e k p N M hN) fin
end
end L2
namespace L2
open PySem PySem.Spec PyProof.Rows
section
variable {X:Cx}{pins:List (Addr×Obj)}{σ:St}{H:Hp}{s:Shared}{N:List Str}{fr:List (Option Nat)}{scope:Scope}{fp:List Addr}
end
section
variable {X:Cx}{elt tg iter:Expr}{ifs:List Expr}{scope:Scope}{pos De py:Pos}{N:List Str}{fr:List (Option Nat)}{wi:TI}{g:TG}{tt:TT}{te:TE}
end
section
variable {X:Cx}{tg:Expr}(K:PySem.W.Frag)
theorem Ak(hK:X.K=K):JO X (JP K):=by subst hK;exact dN
end
end L2
namespace L2
open PySem PySem.Spec PyProof.Rows
section
variable {K:PySem.W.Frag}{g:TG}{tt:TT}{te:TE}
end
mutual
theorem nE:∀d:PyData,d.canLay0=true→PyData.eqv d d=true
 | .none,_=>by simp [PyData.eqv]
 | .bool _,_=>by simp [PyData.eqv]
 | .int _,_=>by simp [PyData.eqv]
 | .str _,_=>by simp [PyData.eqv]
 | .list xs,h=>by rw[PyData.eqv];exact iG xs (by simpa [PyData.canLay0] using h)
 | .tuple xs,h=>by rw[PyData.eqv];exact iG xs (by simpa [PyData.canLay0] using h)
 | .dict _,h=>by simp [PyData.canLay0] at h
theorem iG:∀xs:List PyData,PyData.canLayAll0 xs=true→PyData.eqvAll xs xs=true
 | [],_=>by simp [PyData.eqvAll]
 |x::xs,h=>by
  have h':x.canLay0=true∧PyData.canLayAll0 xs=true:=by simpa [PyData.canLayAll0] using h
  rw[PyData.eqvAll,nE x h'.1,iG xs h'.2];rfl
end
theorem yq{d:PyData}(h1:d.canLay0=true)(h2:d.depth≤64):SeqAt.shaped d=true:=by
 unfold SeqAt.shaped;rw[h1,decide_eq_true h2];rfl
section
variable {X:Cx}(K:PySem.W.Frag)
end
end L2
namespace L2
open PySem PySem.Spec PyProof.Rows
section
variable {K:PySem.W.Frag}{g:TG}{tt:TT}{te:TE}
end
end L2
namespace L2
open PySem PySem.Spec PyProof.Rows
section
variable {X:Cx}
end
end L2
namespace L2
open PySem PySem.Spec PyProof.Rows
section
variable {X:Cx}
end
end L2
namespace L2
open PySem PySem.Spec PyProof.Rows PySem.W
section
variable {O:KeyOrd}{k:Nat→O.α}{n:Nat}{I:Shared→Prop}{cmp:Nat→Nat→(Bool→Shared→Prop)→Shared→Prop}
end
end L2
namespace PySem.SeqAt
open AutoSeq1 (wpAny_loadPart')
open MeetsSeq MeetsSeq2 MeetsSeq3
def Di(e c:Nat→Bool):List Nat→Bool
 | []=>false
 |j::r=>if e j=true then Di e c r else c j
end PySem.SeqAt
namespace L2
open PySem PySem.Spec PyProof.Rows PySem.SeqAt PySem.W
@[reducible] def Qf:KeyOrd where
  α:=List Int
  blt a b:=decide (a<b)
  irrefl a:=by simp
  trans a b c h1 h2:=by simp only [decide_eq_true_eq] at*;exact List.lt_trans h1 h2
  negTrans a b c h:=by
   simp only [decide_eq_true_eq] at*
   by_cases Kc:a<b
   ·exact .inl Kc
   ·exact .inr (List.lt_of_le_of_lt (List.not_lt.mp Kc) h)
  total a b h1 h2:=by simp only [decide_eq_false_iff_not] at*;exact List.le_antisymm (List.not_lt.mp h2) (List.not_lt.mp h1)
theorem Dj:∀(xs ys:List Int) (d:Nat) (f g:Nat→Int),xs.length=ys.length→(∀j,j<xs.length→f (d+j)=xs.getD j 0)→(∀j,j<xs.length→g (d+j)=ys.getD j 0)→
  Di (fun j=>f j==g j) (fun j=>decide (f j<g j)) (List.range' d xs.length)=decide (xs<ys)
 | [],[],d,f,g,_,_,_=>by simp [Di]
 |x::xs,y::ys,d,f,g,hl,hf,hg=>by
  have h0:=hf 0 (by simp)
  have g0:=hg 0 (by simp)
  simp at h0 g0
  have ih:=Dj xs ys (d+1) f g (by simpa using hl) (fun j hj=>by
   have:=hf (j+1) (by simp;omega)
   rw[show d+1+j=d+(j+1) by omega,this];simp) (fun j hj=>by
   have:=hg (j+1) (by simp;omega)
   rw[show d+1+j=d+(j+1) by omega,this];simp)
  rw[List.length_cons,List.range'_succ,Di,ih,h0,g0]
  by_cases e:x=y
  ·subst e
   rw[if_pos (by simp)]
   simp [List.cons_lt_cons_iff]
  ·rw[if_neg (by simpa using e)]
   simp [List.cons_lt_cons_iff,e]
section
variable {prog:Program}{w:World}{A:Around}{E:Value→Shared→Prop}{s:Shared}
end
section
variable {X:Cx}
end
end L2
namespace L2
open PySem PySem.Spec PyProof.Rows
section
variable {X:Cx}
end
end L2
namespace L2
open PySem PySem.Spec PyProof.Rows
section
variable {K:PySem.W.Frag}{g:TG}{tt:TT}{te:TE}
theorem Al{J:It}{L:Addr}{Q:Hp→Prop}{σ:St}{H:Hp}(n:Nat)(H0:Hp)(S:St→Prop)(Pv:Nat→List V→Prop)(Qe:∀i H',i<n→ay H0 H'→J.go i H')(Ai:∀H',ay H0 H'→J.stop n H')
  (GI:H0 L=none) (hσ:S σ) (h0:ay H0 H) (hL:H L=some (.lst [])) (p0:Pv 0 []) (hz:n≤sizeLine) (hl:∀i ys,Pv i ys→ys.length≤i)
  (turn:∀i σ H' ys,i<n→S σ→ay H0 H'→H' L=some (.lst ys)→Pv i ys→∀(N:St→V→Hp→Prop) (M:St→Hp→Prop),(∀σ3 y H5,S σ3→ay H0 H5→H5 L=some (.lst ys)→Pv (i+1) (ys++[y])→N σ3 y H5)→(∀σ3 H4,S σ3→ay H0 H4→H4 L=some (.lst ys)→Pv (i+1) ys→M σ3 H4)→
   ∀x H2,J.uX i H' x H2→g x σ H2 fun σ3 H3=>tt σ3 H3 fun b H4=>if b=true then te σ3 H4 fun y H5=>N σ3 y H5 else M σ3 H4)
  (fin:∀H' ys,ay H0 H'→H' L=some (.lst ys)→Pv n ys→Q H'):
  ∃W:Nat→Nat→St→Hp→Prop,(∃m,W 0 m σ H)∧∀i m σ H,W i m σ H→(J.stop i H∧Q H)∨(J.go i H∧∀x H2,J.uX i H x H2→g x σ H2 fun σ3 H3=>tt σ3 H3 fun b H4=>if b=true
   then te σ3 H4 fun y H5=>∃ys,H5 L=some (.lst ys)∧ys.length<sizeLine∧∃m',m'<m∧W (i+1) m' σ3 (upd H5 L (.lst (ys++[y])))
   else∃m',m'<m∧W (i+1) m' σ3 H4):=by
 refine⟨fun i m σ H=>m+i=n∧S σ∧ay H0 H∧∃ys,H L=some (.lst ys)∧Pv i ys,⟨n,rfl,hσ,h0,[],hL,p0⟩,?_⟩
 rintro i m σ H ⟨hm,hs,j9,ys,Kb,hp⟩
 by_cases hi:i<n
 ·refine .inr ⟨Qe i H hi j9,fun x H2 hy=>turn i σ H ys hi hs j9 Kb hp _ _ (fun σ3 y H5 k1 k2 k3 k4=>?_) (fun σ3 H4 k1 k2 k3 k4=>?_) x H2 hy⟩
  ·refine⟨ys,k3,by have:=hl i ys hp;omega,m - 1,by omega,by omega,k1,fun b o e=>?_,ys++[y],ag,k4⟩
   rw[aj (ai e GI)];exact k2 b o e
  ·exact⟨m - 1,by omega,by omega,k1,k2,ys,k3,k4⟩
 ·have e:i=n:=by omega
  subst e
  exact .inl ⟨Ai H j9,fin H ys j9 Kb hp⟩
end
section
variable {X:Cx}
end
end L2
namespace L2
open PySem PySem.Spec PyProof.Rows
section
variable {K:PySem.W.Frag}{g:TG}{tt:TT}{te:TE}
theorem yr{lo:Int}{n:Nat}{L:Addr}{Q:Hp→Prop}{σ:St}{H:Hp}(H0:Hp)(S:St→Prop)(Pv:Nat→List V→Prop)
  (GI:H0 L=none) (hσ:S σ) (h0:ay H0 H) (hL:H L=some (.lst [])) (p0:Pv 0 []) (hz:n≤sizeLine) (hl:∀i ys,Pv i ys→ys.length≤i)
  (turn:∀i σ H' ys,i<n→S σ→ay H0 H'→H' L=some (.lst ys)→Pv i ys→∀(N:St→V→Hp→Prop) (M:St→Hp→Prop),(∀σ3 y H5,S σ3→ay H0 H5→H5 L=some (.lst ys)→Pv (i+1) (ys++[y])→N σ3 y H5)→(∀σ3 H4,S σ3→ay H0 H4→H4 L=some (.lst ys)→Pv (i+1) ys→M σ3 H4)→
   g (.int (lo+i)) σ H' fun σ3 H3=>tt σ3 H3 fun b H4=>if b=true then te σ3 H4 fun y H5=>N σ3 y H5 else M σ3 H4)
  (fin:∀H' ys,ay H0 H'→H' L=some (.lst ys)→Pv n ys→Q H'):
  ∃W:Nat→Nat→St→Hp→Prop,(∃m,W 0 m σ H)∧∀i m σ H,W i m σ H→((CH lo n).stop i H∧Q H)∨((CH lo n).go i H∧∀x H2,(CH lo n).uX i H x H2→g x σ H2 fun σ3 H3=>tt σ3 H3 fun b H4=>if b=true
   then te σ3 H4 fun y H5=>∃ys,H5 L=some (.lst ys)∧ys.length<sizeLine∧∃m',m'<m∧W (i+1) m' σ3 (upd H5 L (.lst (ys++[y])))
   else∃m',m'<m∧W (i+1) m' σ3 H4):=
 Al n H0 S Pv (fun i H' hi e=>hi) (fun H' e=>Nat.le_refl _) GI hσ h0 hL p0 hz hl
  (fun i σ H' ys hi hs e k p N M hN hM x H2 hy=>by
   obtain⟨rfl,rfl⟩:=hy
   exact turn i σ H2 ys hi hs e k p N M hN hM) fin
end
section
variable {X:Cx}
end
end L2
namespace PySem.W
open PySem PySem.Calls PyProof.Rows PyProof.V PySem.Spec
section
variable {prog:Program}{w:World}{A:Around}{E:Value→Shared→Prop}{s:Shared}{T:String}{r d:Addr}{n:Nat}{P:Nat→Value→Prop}{OK:Heap→Prop}
end
end PySem.W
namespace L2
open PySem PySem.Spec PyProof.Rows PySem.W
section
variable {X:Cx}
end
end L2
namespace L2
open PySem PySem.Spec PyProof.Rows
section
variable {X:Cx}
end
end L2
namespace L2
open PySem PySem.Spec PyProof.Rows
section
variable {X:Cx}
theorem fh:mf X (compareOp .LtE) (fun x y H Q=>∃i j,x= .str i∧y= .str j∧Q (.bl (!decide (j.cps.toList<i.cps.toList))) H):=by
 intro pins s σ H x y v u Q I rx ry h
 obtain⟨i,j,rfl,rfl,q⟩:=h
 obtain⟨t,rfl⟩:=(show∃t,v=Value.str i t from rx)
 obtain⟨t',rfl⟩:=(show∃t,u=Value.str j t from ry)
 exact PySem.P.le_str ⟨.bl _,H,I,rfl,q⟩
theorem yt:iz X (.type "int") (fun xs H Q=>∃x n,xs=[.str x]∧PySem.intText? x=some n∧x.length≤640∧Q (.int n) H):=by
 intro pins s σ H xs us Q I r h
 obtain⟨x,n,rfl,hn,hl,q⟩:=h
 obtain⟨u,rfl,ru⟩:=vals1 r
 obtain⟨t,rfl⟩:=(show∃t,u=Value.str x t from ru)
 exact PySem.W.KIN.call_text hn hl ⟨.int n,H,I.tok _,⟨_,rfl⟩,q⟩
def Qg:V→Option Int→Option Int→Hp→VK→Prop:=fun x lo hi H Q=>∃y,x= .str y∧y.length≤sizeLine∧Q (.str (Txt.slice y lo hi)) H
theorem dA:PK X Qg:=by
 intro pins s σ H x v vl vu lo hi sl Q I rx hs pl pu h
 obtain⟨y,rfl,hz,q⟩:=h
 obtain⟨t,rfl⟩:=(show∃t,v=Value.str y t from rx)
 refine⟨"str",_,F.slot_str_getitem.lookup,typeIs_str _ _ _,?_⟩
 cases pl with
 |none=>cases pu with
  |none=>exact wpAny_getItem_str_slice (l:=none) (u:=none) (st:=none) hs rfl (post_val_or_str ⟨Nat.le_trans (Txt.slice_le y _ _) hz,fun t' k=>⟨.str _,H,I.tok k,⟨t',rfl⟩,q⟩⟩)
  |int j uj=>exact wpAny_getItem_str_slice (l:=none) (u:=some (j,uj)) (st:=none) hs rfl (post_val_or_str ⟨Nat.le_trans (Txt.slice_le y _ _) hz,fun t' k=>⟨.str _,H,I.tok k,⟨t',rfl⟩,q⟩⟩)
 |int i ui=>cases pu with
  |none=>exact wpAny_getItem_str_slice (l:=some (i,ui)) (u:=none) (st:=none) hs rfl (post_val_or_str ⟨Nat.le_trans (Txt.slice_le y _ _) hz,fun t' k=>⟨.str _,H,I.tok k,⟨t',rfl⟩,q⟩⟩)
  |int j uj=>exact wpAny_getItem_str_slice (l:=some (i,ui)) (u:=some (j,uj)) (st:=none) hs rfl (post_val_or_str ⟨Nat.le_trans (Txt.slice_le y _ _) hz,fun t' k=>⟨.str _,H,I.tok k,⟨t',rfl⟩,q⟩⟩)
end
def Kd(x:Str):It:=⟨fun i _=>i<x.length,fun i H v H'=>H'=H∧∃c,x.cps[i]? =some c∧v= .str ⟨#[c]⟩,fun i _=>x.length≤i⟩
theorem Am{P:Program}{w:World}{K:PySem.W.Frag}{tg:Expr}(it:Addr)(x:Str)(t:Tok):
  Turn P w K tg (Kd x) [it] it (fun i h=>h.IsStrIter it "str_ascii_iterator" x t i) where
 mem:=by simp
 obj:=fun i h st b hb=>by
  have e:b=it:=by simpa using hb
  subst e
  obtain⟨o,e,c,d⟩:=st
  exact⟨o,e,fun v z=>by rw[d] at z;cases z⟩
 keep:=fun i h h' st k=>let ⟨o,ho,r⟩:=st;⟨o,k it (by simp) o ho,r⟩
 item:=by
  intro X hP hw hK hc i pins s σ H E I hf st hg
  subst hP hw hK
  have hg:i<x.cps.size:=hg
  obtain⟨f0,f1,f2,f3,f4,f5⟩:=hf it (by simp)
  refine wpAny_pyNext_ascii_item st (Array.getElem?_eq_getElem hg) fun h' zx sb=>?_
  have I1:Inv X pins σ H { s with heap:=h',toks:=s.toks+1 }:=I.turned (t':=s.toks+1) (fun b o hb e=>(sb.2 b hb).trans e) f0 f1 f3 f4 f5
  obtain⟨oi,e,c,d⟩:=id zx
  exact⟨_,rfl,wK (s:={ s with heap:=h',toks:=s.toks+1 }) e c d (by decide) ⟨.str ⟨#[x.cps[i]]⟩,H,I1,⟨_,rfl⟩,⟨rfl,_,Array.getElem?_eq_getElem hg,rfl⟩,zx,fun b hb=>(hf b hb).1⟩⟩
 done:=by
  intro X hP hw hK hc i pins s σ H E I hf st hg
  subst hP hw hK
  have hg:x.cps.size≤i:=hg
  obtain⟨f0,f1,f2,f3,f4,f5⟩:=hf it (by simp)
  exact wpAny_pyNext_ascii_end (I.ok.hd hc) st (Array.getElem?_eq_none hg) fun h' eb=>⟨rfl,I.turned (t':=s.toks) (fun b o hb e=>eb b o hb e) f0 f1 f3 f4 f5⟩
 self:=fun _ _ _ _ _ st h=>wpAny_pyIter_striter_ascii st h
section
variable {X:Cx}{tg:Expr}
def Qh(tl:TE):TI:=fun σ H R=>tl σ H fun v H1=>∃x,v= .str x∧x.cps.all (· <128)=true∧R (Kd x) H1
theorem GJ{l:Expr}{tl:TE}(hl:PE X l tl):PI X tg l (Qh tl):=by
 intro pins s σ H R I h
 refine bL (hl pins s σ H _ I h) fun v s1 ⟨y,H1,I1,r1,x,e,ha,q⟩=>?_
 subst e
 obtain⟨t,rfl⟩:=(show∃t,v=Value.str x t from r1)
 refine wpAny_pyIter_ascii ha ?_
 refine⟨s1.heap.objs.size,[s1.heap.objs.size],_,_,_,rfl,I1.kept (t':=s1.toks) fun b o e=>Heap.get?_push_of_some _ e,Am _ x t,?_,fun b hb=>?_,q⟩
 ·exact⟨_,Heap.get?_push_size _ rfl,rfl,rfl⟩
 ·have e:b=s1.heap.objs.size:=by simpa using hb
  subst e
  exact I1.zT (Nat.le_refl _) (I1.bb.fresh (Nat.le_refl _))
end
theorem Dk{x:Str}{g:TG}{tb:TS}{D:Ends}{σ:St}{H:Hp}(Pv:Nat→St→Hp→Prop)(h0:Pv 0 σ H)
  (hs:∀i c σ H,x.cps[i]? =some c→Pv i σ H→g (.str ⟨#[c]⟩) σ H fun σ2 H2=>tb { D with nx:=Pv (i+1),ct:=Pv (i+1),bk:=D.nx } σ2 H2) (hd:∀σ H,Pv x.length σ H→D.nx σ H):
  ∃W:Nat→Nat→St→Hp→Prop,(∃m,W 0 m σ H)∧∀i m σ H,W i m σ H→
   ((Kd x).stop i H∧D.nx σ H)∨((Kd x).go i H∧∃N:St→Hp→Prop,(∀σ' H',N σ' H'→∃m',m'<m∧W (i+1) m' σ' H')∧∀v H',(Kd x).uX i H v H'→g v σ H' fun σ2 H2=>tb { D with nx:=N,ct:=N,bk:=D.nx } σ2 H2):=by
 refine⟨fun i m σ H=>m+i=x.length∧Pv i σ H,⟨x.length,rfl,h0⟩,?_⟩
 rintro i m σ H ⟨hm,p⟩
 by_cases hi:i<x.length
 ·refine .inr ⟨hi,Pv (i+1),fun σ' H' q=>⟨m - 1,by omega,by omega,q⟩,?_⟩
  rintro v H' ⟨rfl,c,hc,rfl⟩
  exact hs i c σ _ hc p
 ·have e:i=x.length:=by omega
  subst e
  exact .inl ⟨Nat.le_refl _,hd σ H p⟩
end L2
namespace L2
open PySem PySem.Spec PyProof.Rows
section
variable {X:Cx}
end
end L2
namespace PySem.W
open PySem PySem.Calls PyProof.Rows PyProof.V PySem.Spec
section
variable {prog:Program}{w:World}{A:Around}{E:Value→Shared→Prop}{s:Shared}{T:String}{r d:Addr}{n:Nat}{P:Nat→Value→Prop}{OK:Heap→Prop}
end
end PySem.W
namespace L2
open PySem PySem.Spec PyProof.Rows PySem.W
section
variable {X:Cx}
end
section
variable {X:Cx}{pins:List (Addr×Obj)}{σ:St}{H:Hp}{s:Shared}{a b:Addr}{kvs more:List (Key×V)}{A:Around}{E:Value→Shared→Prop}
end
section
variable {X:Cx}{o e:Expr}{apos f7:Pos}{td ty:TE}
end
end L2
namespace L2
open PySem PySem.Spec PyProof.Rows
end L2
namespace L2
open PySem PySem.Spec PyProof.Rows
end L2
namespace L2
open PySem PySem.Spec PyProof.Rows PySem.W
section
variable {X:Cx}
end
end L2
namespace L2
open PySem PySem.Spec PyProof.Rows
end L2
namespace L2
open PySem PySem.Spec PyProof.Rows
section
variable {X:Cx}
end
end L2
namespace L2
open PySem PySem.Spec PyProof.Rows
section
variable {X:Cx}
end
end L2
namespace L2
open PySem PySem.Spec PyProof.Rows
section
variable {X:Cx}
end
end L2
namespace PySem
structure Heap.jJ(h:Heap)(e:Addr)(tb:Option Addr):Prop where
 ex:∃oe vs,h.get? e=some oe∧oe.data= .fields vs∧vs[1]? =some (tb.elim Value.none Value.ref)
 tr:∀T,tb=some T→T≠e∧∃oT ts,h.get? T=some oT∧oT.data= .fields ts∧3<ts.size
structure Heap.Moved(fs:List Addr)(e:Addr)(tb:Option Addr)(h h':Heap):Prop where
 keep:∀b o,h.get? b=some o→b≠e→tb≠some b→b∉fs→h'.get? b=some o
 slot:∀b o,h.get? b=some o→b≠e→tb≠some b→∃sl,h'.get? b=some { o with slots:=sl }
 self:∀o,h.get? e=some o→∃vs,h'.get? e=some { o with data:= .fields vs }
 ent:∀b o,tb=some b→b≠e→h.get? b=some o→∃o',h'.get? b=some o'
 size:h.objs.size≤h'.objs.size
 ctx:∀o vs,h.get? e=some o→o.data= .fields vs→∃yu,h'.get? e=some { o with data:= .fields yu }∧yu[2]? =vs[2]?
theorem Heap.Moved.there{fs:List Addr}{e:Addr}{tb:Option Addr}{h h':Heap}(m:Heap.Moved fs e tb h h')(b:Addr)(o:Obj)(q:h.get? b=some o):∃o',h'.get? b=some o':=by
 by_cases be:b=e
 ·subst be
  obtain⟨vs,z⟩:=m.self o q
  exact⟨_,z⟩
 ·by_cases bt:tb=some b
  ·exact m.ent b o bt be q
  ·obtain⟨sl,z⟩:=m.slot b o q be bt
   exact⟨_,z⟩
theorem Heap.Moved.refl{fs:List Addr}{e:Addr}{tb:Option Addr}{h:Heap}(x:h.jJ e tb):Heap.Moved fs e tb h h:=
 ⟨fun _ _ q _ _ _=>q,fun _ o q _ _=>⟨o.slots,q⟩,fun o q=>by
  obtain⟨oe,vs,he,hd,_⟩:=x.ex
  rw[q] at he
  cases he
  exact⟨vs,by rw[q,←hd]⟩,fun _ o _ _ q=>⟨o,q⟩,Nat.le_refl _,fun o vs q d=>⟨vs,by rw[q,←d],rfl⟩⟩
theorem Heap.Moved.trans{fs:List Addr}{e:Addr}{tb VJ:Option Addr}{h h1 h2:Heap}(x:Heap.Moved fs e tb h h1)(y:Heap.Moved fs e VJ h1 h2)(n:∀T,VJ=some T→tb=some T∨h.objs.size≤T):Heap.Moved fs e tb h h2 where
 keep:=fun b o q be bt bf=>y.keep b o (x.keep b o q be bt bf) be (fun z=>(n b z).elim bt fun w=>absurd (Heap.lt_size q) (Nat.not_lt.mpr w)) bf
 slot:=fun b o q be bt=>by
  obtain⟨sl,z⟩:=x.slot b o q be bt
  obtain⟨Jl,z'⟩:=y.slot b _ z be (fun z=>(n b z).elim bt fun w=>absurd (Heap.lt_size q) (Nat.not_lt.mpr w))
  exact⟨Jl,z'⟩
 self:=fun o q=>by
  obtain⟨vs,z⟩:=x.self o q
  obtain⟨yu,z'⟩:=y.self _ z
  exact⟨yu,z'⟩
 ent:=fun b o _ be q=>by
  obtain⟨o1,z⟩:=x.there b o q
  exact y.there b o1 z
 size:=Nat.le_trans x.size y.size
 ctx:=fun o vs q d=>by
  obtain⟨v1,z1,c1⟩:=x.ctx o vs q d
  obtain⟨v2,z2,c2⟩:=y.ctx _ v1 z1 rfl
  exact⟨v2,z2,c2.trans c1⟩
theorem Heap.Moved.mono{fs Cz:List Addr}{e:Addr}{tb:Option Addr}{h h':Heap}(x:Heap.Moved fs e tb h h')(k:∀b∈fs,b∈Cz):Heap.Moved Cz e tb h h':=
 ⟨fun b o q be bt bf=>x.keep b o q be bt fun z=>bf (k b z),x.slot,x.self,x.ent,x.size,x.ctx⟩
theorem j'{o:Obj}{vs:Array Value}(hd:o.data= .fields vs)(f:Array Value→Array Value):o.mapFields f={ o with data:= .fields (f vs) }:=by
 obtain⟨a,b,c,d⟩:=o
 cases hd
 rfl
section
variable {M:Model}{A:Around}{E:Value→Shared→Prop}{s:Shared}
theorem sV{base:Heap}{env:Env}{outer:List Env}{L e:Addr}{oe:Obj}{vs:Array Value}{Qi:Value}{nx:Bool}{Q:Unit→Shared→Prop}(fr:A.frames=some (env::outer))(fl:s.heap.FunFrames base (env::outer))(hL:env.frame=some L)
  (xe:s.heap.get? e=some oe) (xd:oe.data= .fields vs) (xs:1<vs.size)
  (k:∀h' T,h'.jJ e (some T)→s.heap.objs.size≤T→Heap.Moved ((env::outer).filterMap (·.frame)) e none s.heap h'→Q () { s with heap:=h' }):
  wpAny M A (do let a←frameOf env;let pl←entryPlaceOf L nx;let b←EntryCells.newEntry Qi a .none (rawInt L) .none pl;setField (.ref e) 1 b) Q E s:=by
 have Xn:e∉(env::outer).filterMap (·.frame):=fun z=>by
  obtain⟨_,o,q,nf⟩:=fl.mem z
  rw[xe] at q
  cases q
  exact nf vs xd
 refine wpAny_bind (wpAny_frameOf_fun fr fl hL fun g1 so=>?_)
 refine wpAny_bind (wpAny_entryPlaceOf fun pl ok=>?_)
 unfold EntryCells.newEntry newFields
 refine wpAny_bind (wpAny_newObj_type ?_ (ok.sizeOk5 _ _ _ _ _))
 have e1:g1.get? e=some oe:=(so.2.1 e Xn).trans xe
 generalize hO:({ cls:= .type "traceback",dict:=none,data:= .fields ([Qi, .ref L, .none,rawInt L, .none]++(if pl.isEmpty then List.replicate 6 Value.none else pl)).toArray }:Obj)=ob
 have e2:=Heap.get?_push_of_some (h:=g1) ob e1
 refine wpAny_setField e2 xd xs ?_
 have Te:g1.objs.size≠e:=Nat.ne_of_gt (Heap.lt_size e1)
 have nf:ob.isFreed=false:=by rw[←hO];rfl
 have eT:(g1.push ob).get? g1.objs.size=some ob:=Heap.get?_push_size g1 nf
 have e3:=Heap.get?_update_self (Obj.mapFields (·.setIfInBounds 1 (Value.ref g1.objs.size))) e2 (Obj.isFreed_of_fields (Obj.data_mapFields xd _))
 refine k _ g1.objs.size ⟨⟨_,_,e3,Obj.data_mapFields xd _,by simp [xs]⟩,fun T z=>?_⟩ (Nat.le_of_eq so.1.symm) ⟨fun b o q be _ bf=>?_,fun b o q be _=>?_,fun o q=>?_,fun b o z=>(by cases z),?_,fun o us q d=>?_⟩
 ·cases z
  refine⟨Te,ob,([Qi, .ref L, .none,rawInt L, .none]++(if pl.isEmpty then List.replicate 6 Value.none else pl)).toArray,?_,by rw[←hO],by simp only [List.size_toArray,List.length_append,List.length_cons,List.length_nil];omega⟩
  rw[Heap.get?_update_other _ _ (Ne.symm Te)]
  exact eT
 ·rw[Heap.get?_update_other _ _ (Ne.symm be)]
  exact Heap.get?_push_of_some _ ((so.2.1 b bf).trans q)
 ·obtain⟨sl,z⟩:=so.2.2 b o q
  refine⟨sl,?_⟩
  rw[Heap.get?_update_other _ _ (Ne.symm be)]
  exact Heap.get?_push_of_some _ z
 ·rw[xe] at q
  cases q
  exact⟨_,e3.trans (by rw[j' xd])⟩
 ·show s.heap.objs.size≤((g1.push ob).update e _).objs.size
  rw[Heap.size_after_update,Heap.size_push,←so.1]
  exact Nat.le_succ _
 ·rw[xe] at q
  cases q
  rw[xd] at d
  cases d
  exact⟨_,e3.trans (by rw[j' xd]),by simp⟩
theorem d5{e:Addr}{tb fr:Option Addr}{Q:Unit→Shared→Prop}(x:s.heap.jJ e tb)(k:∀h',h'.jJ e tb→Heap.Moved [] e tb s.heap h'→Q () { s with heap:=h' }):wpAny M A (setFlight (.ref e) fr) Q E s:=by
 obtain⟨oe,vs,he,hd,h1⟩:=x.ex
 unfold setFlight
 refine wpAny_bind (wpAny_field he hd h1 ?_)
 cases tb with
 |none=>
  rw[if_neg (by decide)]
  exact wpAny_pure (k _ x (.refl x))
 |some T=>
  obtain⟨ne,oT,ts,hT,dT,sz⟩:=x.tr T rfl
  rw[if_pos (show ((some T).elim Value.none Value.ref != Value.none)=true from by simp)]
  generalize (fr.elim Value.none fun f=>rawInt f)=v3
  refine wpAny_setField hT dT sz ?_
  have vy:(s.heap.update T (Obj.mapFields (·.setIfInBounds 3 v3))).get? e=some oe:=(Heap.get?_update_other _ _ ne).trans he
  have Oy:=Heap.get?_update_self (Obj.mapFields (·.setIfInBounds 3 v3)) hT (Obj.isFreed_of_fields (Obj.data_mapFields dT _))
  refine k _ ⟨⟨oe,vs,vy,hd,h1⟩,fun T' z=>?_⟩ ⟨fun b o q _ bt _=>?_,fun b o q _ bt=>⟨o.slots,?_⟩,fun o q=>?_,fun b o z _ _=>?_,?_,fun o us q d=>?_⟩
  ·cases z
   exact⟨ne,_,_,Oy,Obj.data_mapFields dT _,by simp [sz]⟩
  ·exact(Heap.get?_update_other _ _ fun z=>bt (by rw[z])).trans q
  ·exact(Heap.get?_update_other _ _ fun z=>bt (by rw[z])).trans q
  ·rw[he] at q
   cases q
   exact⟨vs,by rw[vy,←hd]⟩
  ·cases z
   exact⟨_,Oy⟩
  ·show s.heap.objs.size≤(s.heap.update T _).objs.size
   rw[Heap.size_after_update]
   exact Nat.le_refl _
  ·rw[he] at q
   cases q
   exact⟨us,by rw[vy,←d],rfl⟩
theorem ka{base:Heap}{env:Env}{outer:List Env}{L e:Addr}{tb:Option Addr}{Q:Unit→Shared→Prop}(fr:A.frames=some (env::outer))(fl:s.heap.FunFrames base (env::outer))(hL:env.frame=some L)(x:s.heap.jJ e tb)
  (k:∀h' T,h'.jJ e (some T)→tb=some T∨s.heap.objs.size≤T→Heap.Moved ((env::outer).filterMap (·.frame)) e tb s.heap h'→Q () { s with heap:=h' }):wpAny M A (noteFrame (.ref e) env) Q E s:=by
 obtain⟨oe,vs,he,hd,h1⟩:=id x.ex
 have VL:1<vs.size:=(Array.getElem?_eq_some_iff.mp h1).1
 unfold noteFrame
 simp only [hL]
 refine wpAny_bind (wpAny_field he hd h1 ?_)
 cases tb with
 |none=>
  rw[if_neg (by decide)]
  exact sV fr fl hL he hd VL fun h' T a b c=>k h' T a (.inr b) c
 |some T=>
  obtain⟨ne,oT,ts,hT,dT,sz⟩:=x.tr T rfl
  rw[if_pos (show ((some T).elim Value.none Value.ref != Value.none)=true from by simp)]
  have h3:ts[3]? =some ts[3]:=Array.getElem?_eq_getElem sz
  refine wpAny_bind (wpAny_field hT dT h3 ?_)
  by_cases c:(ts[3]==rawInt L)=true
  ·rw[if_pos c]
   exact wpAny_pure (k _ T x (.inl rfl) (.refl x))
  ·rw[if_neg c]
   refine wpAny_bind (wpAny_setField hT dT sz ?_)
   have ot:∀b,b≠T→(s.heap.update T (Obj.mapFields (·.setIfInBounds 3 Value.none))).get? b=s.heap.get? b:=fun b z=>Heap.get?_update_other _ _ (Ne.symm z)
   have Oy:=Heap.get?_update_self (Obj.mapFields (·.setIfInBounds 3 Value.none)) hT (Obj.isFreed_of_fields (Obj.data_mapFields dT _))
   have zs:(s.heap.update T (Obj.mapFields (·.setIfInBounds 3 Value.none))).objs.size=s.heap.objs.size:=Heap.size_after_update ..
   refine sV (s:={ s with heap:=s.heap.update T (Obj.mapFields (·.setIfInBounds 3 Value.none)) }) fr (fl.of_keeps fun b o q nf=>⟨o,(ot b fun z=>?_).trans q,rfl⟩) hL ((ot e (Ne.symm ne)).trans he) hd VL fun h' T' a b c=>k h' T' a (.inr (by rw[←zs];exact b)) ?_
   ·rw[z,hT] at q
    cases q
    exact nf ts dT
   ·refine⟨fun b o q be bt bf=>c.keep b o ((ot b fun z=>bt (by rw[z])).trans q) be (fun z=>by cases z) bf,fun b o q be bt=>c.slot b o ((ot b fun z=>bt (by rw[z])).trans q) be fun z=>(by cases z),fun o q=>c.self o ((ot e (Ne.symm ne)).trans q),fun b o z be q=>?_,?_,fun o us q d=>c.ctx o us ((ot e (Ne.symm ne)).trans q) d⟩
    ·cases z
     exact c.there _ _ Oy
    ·rw[←zs]
     exact c.size
theorem An{base:Heap}{env:Env}{outer:List Env}{L e:Addr}{tb:Option Addr}{Q:Unit→Shared→Prop}(fr:A.frames=some (env::outer))(fl:s.heap.FunFrames base (env::outer))(hL:env.frame=some L)(x:s.heap.jJ e tb)
  (k:∀h' T,h'.jJ e (some T)→tb=some T∨s.heap.objs.size≤T→Heap.Moved ((env::outer).filterMap (·.frame)) e tb s.heap h'→Q () { s with heap:=h' }):wpAny M A (leaving env (.ref e)) Q E s:=by
 unfold leaving
 refine wpAny_bind (ka fr fl hL x fun h1 T a b c=>d5 (s:={ s with heap:=h1 }) a fun h2 a' c'=>k h2 T a' b (c.trans (c'.mono fun _ z=>absurd z (by simp)) fun T' z=>?_))
 cases z
 exact b
theorem w5{env:Env}{e T:Addr}{Q:Unit→Shared→Prop}(x:s.heap.jJ e (some T))(k:∀h',h'.jJ e (some T)→Heap.Moved [] e (some T) s.heap h'→Q () { s with heap:=h' }):
  wpAny M A (do
   if (←field (.ref e) 1)== .none then unsupported "frame.own-activation:exception-without-traceback"
   setFlight (.ref e) env.frame) Q E s:=by
 obtain⟨oe,vs,he,hd,h1⟩:=id x.ex
 refine wpAny_bind (wpAny_field he hd h1 ?_)
 rw[if_neg (by simp)]
 exact d5 x k
end
end PySem
namespace PySem.W
open PySem PySem.Calls PyProof.Rows PySem.Builtin PySem.Builtin.ObjectAttr
abbrev oH:List Value:=[.type "ValueError", .type "Exception", .type "BaseException", .type "object"]
structure cK(K:Frag)(C HE f:Addr):Prop where
 obj:∃(nm q:Str) (N:Addr) (bs:List Value) (sn:List Str) (sub:List Value) (ab:Bool) (col:Option Bool) (dd:Option Addr) (k0 k1 k2 k3 k5:Option Value),
  K.lookup C=some (excClassObj nm q C N bs (.ref HE::oH) true sn sub ab col dd k0 k1 k2 k3 k5 "ValueError.__new__")
 init:findIn K (.ref C) "__init__" =some (some (.ref f))
 fn:typeIn K (.ref f)=some (.type "function")
 sa:findIn K (.ref C) "__setattr__" =some (some (.builtin "object.__setattr__"))
 ga:findIn K (.ref C) "__getattribute__" =some (some (.builtin "BaseException.__getattribute__"))
 gh:findIn K (.ref C) "__getattr__" =some none
theorem fP{C HE:Addr}{T:String}{b:Bool}(h:oH.contains (.type T)=b):(Value.ref C:: .ref HE::oH).contains (.type T)=b:=by
 rw[List.contains_cons,List.contains_cons,h]
 rfl
section
variable {prog:Program}{w:World}{A:Around}{E:Value→Shared→Prop}{R:Result→Shared→Prop}{h:Heap}{g:Array GenState}{d:Drawn}{t:Nat}{os:OsState}
variable {nm q:Str}{C N HE:Addr}{bs:List Value}{sn:List Str}{sub:List Value}{ab:Bool}{col:Option Bool}{dd:Option Addr}{k0 k1 k2 k3 k5:Option Value}
abbrev jm(vs:List Value):Obj:={ cls:= .type "tuple",data:= .seq vs.toArray }
abbrev iH(C t:Addr):Obj:={ cls:= .ref C,data:= .fields #[.ref t, .none, .none, .none, .bool false, .none] }
theorem qJ{M:Model}{rest:List Value}{Q:Unit→Shared→Prop}(kC:h.get? C=some (excClassObj nm q C N bs (.ref HE::oH) true sn sub ab col dd k0 k1 k2 k3 k5 "ValueError.__new__"))
  (z:Q () ⟨h,g,d,t,os⟩):wpAny M A (checkBuiltinCall "ValueError.__new__" ⟨.ref C::rest,[]⟩) Q E ⟨h,g,d,t,os⟩:=by
 have F:=PySem.F.excBase_ValueError
 have c1:(Value.ref C:: .ref HE::oH).contains (.type "ValueError")=true:=fP (by decide+kernel)
 have f0:=F.noStar
 simp only [checkBuiltinCall,F.newKind,F.newSplit,F.newRow]
 repeat (first|refine wpAny_loadPart_at kC ?_| (refine wpAny_isSubtype_exc kC ?_;rw[c1]) |refine wpAny_staticBase_exc kC ?_|refine wpAny_madeBy_exc kC ?_|simp only [bne_self_eq_false,Bool.false_eq_true,if_false] |wp_step)
 exact z
theorem GK{rest:List Value}(kC:h.get? C=some (excClassObj nm q C N bs (.ref HE::oH) true sn sub ab col dd k0 k1 k2 k3 k5 "ValueError.__new__"))
  (z:R (.ok (.ret (.ref (h.objs.size+1)))) ⟨(h.push (jm rest)).push (iH C h.objs.size),g,d,t,os⟩) (hz:rest.length≤sizeLine):
  codeAny (model prog w) A (.builtin "ValueError.__new__" ⟨.ref C::rest,[]⟩) R ⟨h,g,d,t,os⟩:=by
 have F:=PySem.F.excBase_ValueError
 have f0:=F.ends
 have c1:(Value.ref C:: .ref HE::oH).contains (.type "ValueError")=true:=fP (by decide+kernel)
 have c2:(Value.ref C:: .ref HE::oH).contains (.type "AttributeError")=false:=fP (by decide+kernel)
 have c3:(Value.ref C:: .ref HE::oH).contains (.type "NameError")=false:=fP (by decide+kernel)
 refine codeAny_builtinAt F.entry ?_
 unfold Builtin.«BaseException.__new__»
 refine wpAt_bind ?_
 show wpAt _ _ _ (stack >>= _) _ _ _
 refine wpAt_bind (wpAt_stack fun p below=>wpAt_of_wpAny ?_)
 wp_walk
 refine wpAt_of_wpAny ?_
 rw[F.owner]
 repeat (first|with_reducible refine wpAny_madeHere_exc F.canon kC ?_|with_reducible refine wpAny_loadPart_at kC ?_| (with_reducible refine wpAny_isSubtype_exc kC ?_;first|rw[c1] |rw[c2] |rw[c3]) |wp_step)
 show R _ _
 rw[Heap.size_push]
 exact z
end
section
variable {prog:Program}{w:World}{A:Around}{E:Value→Shared→Prop}{R:Result→Shared→Prop}{s:Shared}{K:Frag}{C HE f:Addr}
theorem w6{vs:List Value}(X:K.In s.heap)(Z:cK K C HE f)(hz:vs.length≤sizeLine)
  (k:codeAny (model prog w) (A.under (.builtin "type.__call__" ⟨.ref C::vs,[]⟩)) (.call (.ref f) ⟨.ref (s.heap.objs.size+1)::vs,[]⟩) (InitBack (s.heap.objs.size+1) R) { s with heap:=(s.heap.push (jm vs)).push (iH C s.heap.objs.size) }):
  codeAny (model prog w) A (.call (.ref C) ⟨vs,[]⟩) R s:=by
 obtain⟨hp,g,d,t,os⟩:=s
 obtain⟨nm,q,N,bs,sn,sub,ab,col,dd,k0,k1,k2,k3,k5,hK⟩:=Z.obj
 have kC:=X _ _ hK
 have F:=PySem.F.excBase_ValueError
 have f1:=tc_lookup
 have f2:=tc_bind (.ref C)
 have hT:(⟨hp,g,d,t,os⟩:Shared).TypeIs (.ref C) "type" :=⟨_,kC,rfl⟩
 refine codeAny_of_tree ?_
 show wpAny _ _ (callAny (.ref C) _) _ _ _
 repeat (any_goals (first|assumption|with_reducible refine wpAny_loadPart_at kC ?_|wp_step))
 refine⟨rfl,?_⟩
 refine codeAny_call_builtin_at (Code.quiet_builtin _ (by decide+kernel)) entry_typeCall (wpAny_check_type_call_sub kC ?_)
 repeat (first|with_reducible refine wpAny_loadPart_at kC ?_|with_reducible refine wpAny_madeBy_exc kC ?_|wp_step)
 refine codeAny_call_builtin_code (Code.quiet_builtin _ F.quiet) (qJ kC ?_)
 refine GK kC ?_ hz
 show wpAny _ _ _ _ _ _
 have keeps:∀b o,hp.get? b=some o→((hp.push (jm vs)).push (iH C hp.objs.size)).get? b=some o:=fun b o e=>Heap.get?_push_of_some _ (Heap.get?_push_of_some _ e)
 have Xo:=keeps _ _ kC
 have X1:K.In ((hp.push (jm vs)).push (iH C hp.objs.size)):=fun b o e=>keeps b o (X b o e)
 have eg:((hp.push (jm vs)).push (iH C hp.objs.size)).get? (hp.objs.size+1)=some (iH C hp.objs.size):=by heap_get
 have c0:(Value.ref C:: .ref HE::oH).contains (.ref C)=true:=by simp
 unfold isInstance
 repeat (first|with_reducible refine wpAny_loadPart_at eg ?_|wp_step)
 show wpAny _ _ (isSubtype (.ref C) (.ref C)) _ _ _
 refine wpAny_isSubtype_exc Xo ?_
 rw[c0]
 repeat (first|with_reducible refine wpAny_loadPart_at eg ?_|wp_step)
 show wpAny _ _ (typeLookup (.ref C) _) _ _ _
 refine looks_findIn X1 Z.init _ _ _ _ (fun _ _ e=>e) ?_
 refine wpAny_holding (wpAny_bind (bind_fn X1 _ Z.fn _ _ _ _ (fun _ _ e=>e) ?_))
 refine wpAny_bind (wpAny_call (codeAny_mono k fun r s' y=>?_))
 cases r with
 |error z=>exact y
 |ok fl=>
  cases fl with
  |ret u=>
   obtain⟨eu,y⟩:=y
   subst eu
   exact wpAny_pure (wpAny_pure y)
  |next=>exact y.elim
  |brk=>exact y.elim
  |cont=>exact y.elim
end
section
variable {prog:Program}{w:World}{A:Around}{E:Value→Shared→Prop}{R:Result→Shared→Prop}{s:Shared}{K:Frag}{C HE f e:Addr}{ox:Obj}{od:Option Obj}{vs:Array Value}{name:Str}{v:Value}{tk:Tok}
theorem cK.cd(Z:cK K C HE f):∃cd,clsIn K C=some cd∧cd.mro= .ref C:: .ref HE::oH∧cd.hasDict=true:=by
 obtain⟨nm,q,N,bs,sn,sub,ab,col,dd,k0,k1,k2,k3,k5,hK⟩:=Z.obj
 exact⟨_,by unfold clsIn;rw[hK],rfl,rfl⟩
theorem cK.mro(Z:cK K C HE f){T:String}{b:Bool}(h:oH.contains (.type T)=b):mroIn K C (.type T)=some b:=by
 obtain⟨cd,a,m,_⟩:=Z.cd
 unfold mroIn
 rw[a,Option.bind_some,m,fP h]
 rfl
theorem Ao(X:K.In s.heap)(Z:cK K C HE f)(I:InstAt s.heap e ox C od)(ht:takerIn K C name=some none)
  (k:∀b,wpAny (model prog w) A.in1 (storeInOwnDict (.ref e) (.ref C) (.str name tk) name v b)
   (fun fin s'=>match fin with| .done f=>R (.ok f) s'| .again c'=>c'.quiet=true∧codeAny (model prog w) A c' R s') (fun e s'=>R (.error e) s') s):
  codeAny (model prog w) A (.call (.builtin "object.__setattr__") ⟨[.ref e, .str name tk,v],[]⟩) R s:=by
 have SO:=PySem.F.store_object
 obtain⟨cd,hc,hm,_⟩:=Z.cd
 have sub:Looks (model prog w) s.heap (isInstance (.ref e) (.type "object")) true:=I.type.andThen (looks_mroIn X (Z.mro (by decide+kernel)))
 refine codeAny_call_builtin SO.slot.plain SO.entry (@check_slot (model prog w) _ _ s "object.__setattr__" "object" "__setattr__" (.ref e) [.str name tk,v] [] _ SO.kind SO.split sub (SO.args (.ref e) (.str name tk) v) ?_)
 obtain⟨attr,ha,hr⟩:=Option.bind_eq_some_iff.mp ht
 have lm:Looks (model prog w) s.heap (mroOf (.ref C)) cd.mro:=(looks_clsIn X hc).andThen .now
 have l3:Looks (model prog w) s.heap (storeTaker? attr) none:=by
  cases attr with
  |none=>exact .now
  |some a=>
   obtain⟨b,hb,eb⟩:=Option.map_eq_some_iff.mp hr
   refine(looks_takesIn X hb).andThen ?_
   cases b with
   |true=>cases eb
   |false=>exact .now
 rw[osa_eq,refuse_eq]
 refine wpAny_bind (wpAny_bind (I.type.here (wpAny_bind (lm.here ?_))))
 rw[hm,refuseLoop_ref,refuseLoop_ref,PySem.F.store_ValueError.passes]
 exact wpAny_pure (wpAny_bind (I.type.here (wpAny_bind ((looks_findIn X ha).here (wpAny_bind (l3.here (k _)))))))
theorem Dl{Q:Unit→Shared→Prop}(X:K.In s.heap)(Z:cK K C HE f)(ht:takerIn K C name=some none)(hx:s.heap.get? e=some ox)(hc:ox.cls= .ref C)(hd:ox.data= .fields vs)(hn:ox.dict=none)
  (k:∀h' Gz,h'.get? e=some { ox with dict:=some s.heap.objs.size }→h'.Ns1 s.heap.objs.size (fun y=>if y=name then some v else none)→(∀b o,b≠e→s.heap.get? b=some o→h'.get? b=some o)→Q () { s with heap:=h',toks:=Gz }):
  wpAny (model prog w) A (setAttr (.ref e) name v) Q E s:=by
 have I:InstAt s.heap e ox C none:=⟨hx,hc,by unfold notCls;rw[hd],by rw[hn];trivial⟩
 obtain⟨cd,me,_,hh⟩:=Z.cd
 refine set_plain X I Z.sa (Ao (s:={ s with toks:=s.toks+1 }) X Z I ht fun b=>?_)
 obtain⟨oc,IU,Oz,mw⟩:=ox
 dsimp only at hc hd hn
 subst hc hd hn
 refine wpAny_bind (wpAny_pure (wpAny_bind (wpAny_bind (wpAny_loadPart hx (wpAny_bind (Looks.here (s:={ s with toks:=s.toks+1 }) (looks_clsIn X me) ?_))))))
 rw[hh]
 have xs:e≠s.heap.objs.size:=Nat.ne_of_lt (Heap.lt_size hx)
 rw[if_neg (by decide)]
 have VM:=Heap.get?_push_of_some (h:=s.heap) { cls:= .type "dict",data:= .dict #[] } hx
 refine wpAny_bind (wpAny_alloc' (wpAny_bind (wpAny_update' VM (wpAny_pure ?_))))
 generalize hG:(s.heap.push { cls:= .type "dict",data:= .dict #[] }).update e (fun o=>{ cls:=o.cls,dict:=some s.heap.objs.size,data:=o.data,slots:=o.slots })=G
 have gd:G.get? s.heap.objs.size=some { cls:= .type "dict",data:= .dict #[] }:=by
  rw[←hG]
  exact(Heap.get?_update_ne _ _ _ _ (Ne.symm xs)).trans (Heap.get?_push_at rfl rfl)
 have gx:G.get? e=some { cls:= .ref C,dict:=some s.heap.objs.size,data:= .fields vs,slots:=mw }:=by
  rw[←hG]
  exact Heap.get?_update_self _ VM rfl
 have go:∀b o,b≠e→s.heap.get? b=some o→G.get? b=some o:=fun b o be q=>by
  rw[←hG]
  exact(Heap.get?_update_ne _ _ _ _ be).trans (Heap.get?_push_of_some _ q)
 have gn:G.Ns s.heap.objs.size (fun _=>none):=⟨_,#[],_,gd,rfl,fun y hy=>absurd hy (by simp),fun _=>rfl⟩
 show wpAny _ _ (storeInDict s.heap.objs.size (.str name s.toks) name v) _ _ { s with heap:=G,toks:=s.toks+1 }
 unfold storeInDict newKeyGuard
 refine wpAny_bind (wpAny_pure (wpAny_bind (wpAny_nsSet1 (s:={ s with heap:=G,toks:=s.toks+1 }) (Heap.Ns1.of_empty gn) fun h' n2 s2=>?_)))
 obtain⟨o2,e2,p2,q2,d2,c2⟩:=n2.count (PySem.Within.cons name v PySem.Within.nil)
 refine wpAny_bind (wpAny_lookBehind q2 (by rw[d2];exact pastItsLine_dict (Nat.le_trans c2 (by rw[List.length_cons,List.length_nil,sizeLine_eq];omega))) ?_)
 exact wpAny_pure (k _ _ ((s2.2 e xs).trans gx) n2 fun b o be q=>(s2.2 b (Nat.ne_of_lt (Heap.lt_size q))).trans (go b o be q))
theorem Dm{Q:Unit→Shared→Prop}{dx:Addr}{mA:Str→Option Value}{ns:List Str}(X:K.In s.heap)(Z:cK K C HE f)(ht:takerIn K C name=some none)(hx:s.heap.get? e=some ox)(hc:ox.cls= .ref C)(hd:ox.data= .fields vs)(hn:ox.dict=some dx)
  (N1:s.heap.Ns1 dx mA) (hw:PySem.Within mA ns) (hsz:ns.length≤1000)
  (k:∀h',h'.Ns1 dx (fun y=>if y=name then some v else mA y)→Heap.SameBut dx s.heap h'→Q () { s with heap:=h',toks:=s.toks+2 }):
  wpAny (model prog w) A (setAttr (.ref e) name v) Q E s:=by
 obtain⟨oD,ed,pd,Xp,dD,_⟩:=id N1
 have I:InstAt s.heap e ox C (some oD):=⟨hx,hc,by unfold notCls;rw[hd],by rw[hn];exact Xp⟩
 obtain⟨cd,me,_,hh⟩:=Z.cd
 refine set_plain X I Z.sa (Ao (s:={ s with toks:=s.toks+1 }) X Z I ht fun b=>?_)
 obtain⟨oc,IU,Oz,mw⟩:=ox
 dsimp only at hc hd hn
 subst hc hd hn
 refine wpAny_bind (wpAny_pure (wpAny_bind (wpAny_bind (wpAny_loadPart hx (wpAny_bind (Looks.here (s:={ s with toks:=s.toks+1 }) (looks_clsIn X me) ?_))))))
 rw[hh]
 refine wpAny_pure (a:=some dx) (wpAny_bind (wpAny_pure (wpAny_bind ?_)))
 refine wpAny_nsSet1 (s:={ s with toks:=s.toks+1 }) N1 fun h' n2 s2=>?_
 obtain⟨o2,e2,p2,q2,d2,c2⟩:=n2.count (PySem.Within.cons name v hw)
 refine wpAny_bind (wpAny_lookBehind q2 (by rw[d2];exact pastItsLine_dict (Nat.le_trans c2 (by rw[List.length_cons,sizeLine_eq];omega))) ?_)
 exact wpAny_pure (k _ n2 s2)
theorem GL{Q:Value→Shared→Prop}{expr:Bool}(X:K.In s.heap)(Z:cK K C HE f)(I:InstAt s.heap e ox C od)(hf:findObj K C od name=some (.value v))(hh:handedIn v=true)(k:Q v { s with toks:=s.toks+1 }):
  wpAny (model prog w) A (getAttr (.ref e) name expr) Q E s:=by
 have T0:=I.type (M:=model prog w)
 have SG:=PySem.F.attr_ValueError.ga
 refine wpAny_bind (wpAny_mkText (wpAny_holding (wpAny_bind (T0 _ _ _ _ (fun _ _ y=>y) (wpAny_bind (looks_findIn X Z.ga _ _ _ _ (fun _ _ y=>y) ?_))))))
 dsimp only
 rw[show (onTheHeap (Value.ref C)&&Value.builtin "BaseException.__getattribute__" ==Value.builtin "object.__getattribute__")=false from by rw[show (Value.builtin "BaseException.__getattribute__" ==Value.builtin "object.__getattribute__")=false from by decide+kernel,Bool.and_false],if_neg (by decide)]
 refine wpAny_bind (looks_hook X (show (if onTheHeap (Value.ref C) then findIn K (.ref C) "__getattr__" else some none)=some none from Z.gh) _ _ _ _ (fun _ _ y=>y) (wpAny_bind (wpAny_attempt (wpAny_holding ?_))))
 unfold callGetattribute
 rw[show (expr&&onTheHeap (Value.builtin "BaseException.__getattribute__"))=false from Bool.and_false _,if_neg (by decide)]
 unfold boundAndCalled
 rw[SG.bind]
 refine wpAny_bind (wpAny_pure ?_)
 show wpAny _ _ (call (.builtin "BaseException.__getattribute__") [.ref e, .str name s.toks]) _ _ _
 refine wpAny_call (codeAny_call_builtin SG.plain PySem.F.entry_bexc_ga ?_)
 refine @check_slot (model prog w) _ _ { s with toks:=s.toks+1 } "BaseException.__getattribute__" "BaseException" "__getattribute__" (.ref e) [.str name s.toks] [] _ (by decide+kernel) (by decide+kernel) (T0.andThen (looks_mroIn X (Z.mro (by decide+kernel)))) (PySem.F.args_bexc_ga _ _) ?_
 have l1:=looks_find (M:=model prog w) X I hf
 unfold Builtin.«object.__getattribute__»
 refine wpAny_bind (wpAny_of_eq (a:=(Value.ref e,[Value.str name s.toks])) rfl ?_)
 refine wpAny_bind (wpAny_pure (a:=name) (wpAny_bind (T0 _ _ _ _ (fun _ _ y=>y) (wpAny_bind (l1 _ _ _ _ (fun _ _ y=>y) (wpAny_pure ?_))))))
 show wpAny _ _ (handedOut v) _ _ _
 rw[handedOut_of hh]
 exact wpAny_pure k
end
section
variable {M:Model}{A:Around}{E:Value→Shared→Prop}{s:Shared}{K:Frag}{env:Env}
theorem Ap{x:Sem Value}{Q:Flow→Shared→Prop}(ha:A.handled=none)
  (k:wpAny M A x (fun v s1=>∃e oe vs C HE f,v= .ref e∧K.In s1.heap∧cK K C HE f∧s1.heap.get? e=some oe∧oe.cls= .ref C∧oe.data= .fields vs∧vs[1]? =some .none∧E (.ref e) s1) E s):wpAny M A (raiseStmt env (some x) none) Q E s:=by
 unfold raiseStmt
 refine wpAny_bind (wpAny_mono k (fun v s1 y=>?_) fun _ _ y=>y)
 obtain⟨e,oe,vs,C,HE,f,rfl,X,Z,he,hc,hd,h1,hE⟩:=y
 have cB:(Value.ref C:: .ref HE::oH).contains (.type "BaseException")=true:=fP (by decide+kernel)
 obtain⟨nm,q,N,bs,sn,sub,ab,col,dd,k0,k1,k2,k3,k5,hK⟩:=Z.obj
 have kC:=X _ _ hK
 obtain⟨hp,g,d,tk,os⟩:=s1
 obtain⟨oc,IU,Oz,mw⟩:=oe
 dsimp only at hc hd
 subst hc hd
 repeat (first|with_reducible refine wpAny_loadPart_at he ?_|with_reducible refine wpAny_loadPart_at kC ?_| (with_reducible refine wpAny_isSubtype_exc kC ?_;rw[cB]) |wp_step)
 rw[h1]
 refine wpAny_pure ?_
 rw[if_neg (by decide)]
 exact wpAny_pure (wpAny_raiseNew_none ha hE)
end
section
variable {prog:Program}{w:World}{A:Around}{E:Value→Shared→Prop}{s:Shared}{K:Frag}{C HE f e:Addr}{ox:Obj}{vs:Array Value}
theorem Aq{us:List Value}{Q:Value→Shared→Prop}(X:K.In s.heap)(Z:cK K C HE f)(hx:s.heap.get? e=some ox)(hc:ox.cls= .ref C)(hd:ox.data= .fields vs)(h0:0<vs.size)(hz:us.length≤sizeLine)
  (k:∀h',h'.get? e=some { ox with data:= .fields (vs.setIfInBounds 0 (.ref s.heap.objs.size)) }→(∀b o,b≠e→s.heap.get? b=some o→h'.get? b=some o)→Q .none { s with heap:=h' }):
  wpAny (model prog w) A (call (.builtin "ValueError.__init__") (.ref e::us)) Q E s:=by
 have F:=PySem.F.excBase_ValueError
 obtain⟨nm,q,N,bs,sn,sub,ab,col,dd,k0,k1,k2,k3,k5,hK⟩:=Z.obj
 have kC:=X _ _ hK
 have c1:(Value.ref C:: .ref HE::oH).contains (.type "ValueError")=true:=fP (by decide+kernel)
 obtain⟨hp,g,d,t,os⟩:=s
 obtain⟨oc,IU,Oz,mw⟩:=ox
 dsimp only at hc hd
 subst hc hd
 refine wpAny_call (codeAny_call_builtin F.init.plain F.initEntry ?_)
 have f0:=F.noStar
 simp only [checkBuiltinCall,F.initKind,F.initSplit,F.initRow]
 repeat (first|with_reducible refine wpAny_loadPart_at hx ?_|with_reducible refine wpAny_loadPart_at kC ?_| (with_reducible refine wpAny_isSubtype_exc kC ?_;rw[c1]) |wp_step)
 refine wpAny_onRaise ?_
 rw[show∀(a b:String) (n:Nat),Bind.check ⟨.positional,"*","ValueError", .self,[⟨"args", .varPos,false⟩]⟩ a b n (List.map (fun x=>x.fst) ({ pos:=Value.ref e::us }:Args).kw)=pure () from fun a b n=>check_star_args _ _ _ _ _ _]
 refine wpAny_pure ?_
 wp_walk
 rw[show vs[0]? =some vs[0] from Array.getElem?_eq_getElem h0]
 refine wpAny_pure (wpAny_bind (wpAny_setField (Heap.get?_push_of_some _ hx) rfl h0 ?_))
 generalize hG:((hp.push (jm us)).update e (Obj.mapFields (·.setIfInBounds 0 (Value.ref hp.objs.size))))=G
 have gx:G.get? e=some { cls:= .ref C,dict:=IU,data:= .fields (vs.setIfInBounds 0 (.ref hp.objs.size)),slots:=mw }:=by
  rw[←hG]
  exact Heap.get?_update_self (Obj.mapFields (·.setIfInBounds 0 (Value.ref hp.objs.size))) (Heap.get?_push_of_some (jm us) hx) rfl
 have go:∀b o,b≠e→hp.get? b=some o→G.get? b=some o:=fun b o be q=>by
  rw[←hG]
  exact(Heap.get?_update_other _ _ (Ne.symm be)).trans (Heap.get?_push_of_some _ q)
 have fin:=k G gx go
 generalize vs[0]=v0
 cases v0 with
 |ref a=>
  dsimp only
  repeat wp_step
  exact fin
 |_=>exact wpAny_pure (wpAny_pure fin)
end
end PySem.W
namespace L2
open PySem PySem.Spec PyProof.Rows
class gy where
 sW:Addr→Prop
variable [gy]
def zB(dx:Addr)(fs:List (Str×V)):HO:= .ext fun h=>∃mA,h.Ns1 dx mA∧(∀f,fK (fs.lookup f) (mA f))∧PySem.Within mA (fs.map (·.1))
def oI(e C:Addr)(dx:Option Addr):HO:= .ext fun h=>∃o vs,h.get? e=some o∧o.cls= .ref C∧o.dict=dx∧o.data= .fields vs∧vs[1]? =some .none∧vs[2]? =some .none∧vs.size=6
def pD(e C:Addr)(dx:Option Addr):HO:= .ext fun h=>∃o vs,h.get? e=some o∧o.cls= .ref C∧o.dict=dx∧o.data= .fields vs∧(vs[2]? =some .none∨gy.sW C)
section
variable {P:Program}{w:World}{H:Hp}{h:Heap}{e C dx:Addr}{od:Option Addr}{o:Obj}{vs:Array Value}
theorem xb(he:h.get? e=some o)(hc:o.cls= .ref C)(hd:o.dict=od)(hf:o.data= .fields vs)(h2:vs[2]? =some .none∨gy.sW C):bT P w H h e (pD e C od):=
 ⟨⟨o,vs,he,hc,hd,hf,h2⟩,⟨o,he⟩,fun _ _ ⟨o,vs,a,b⟩ k=>⟨o,vs,k _ a,b⟩⟩
theorem xc(he:h.get? e=some o)(hc:o.cls= .ref C)(hd:o.dict=od)(hf:o.data= .fields vs)(h1:vs[1]? =some .none)(h2:vs[2]? =some .none∧vs.size=6):bT P w H h e (oI e C od):=
 ⟨⟨o,vs,he,hc,hd,hf,h1,h2⟩,⟨o,he⟩,fun _ _ ⟨o,vs,a,b⟩ k=>⟨o,vs,k _ a,b⟩⟩
theorem EZ{fs:List (Str×V)}{mA:Str→Option Value}(n:h.Ns1 dx mA)(r:∀f,fK (fs.lookup f) (mA f))(wi:PySem.Within mA (fs.map (·.1))):bT P w H h dx (zB dx fs):=by
 obtain⟨o,es,ep,ho,z⟩:=id n
 exact⟨⟨mA,n,r,wi⟩,⟨o,ho⟩,fun _ _ ⟨m,⟨o,es,ep,ho,z⟩,r⟩ k=>⟨m,⟨o,es,ep,k _ ho,z⟩,r⟩⟩
theorem vz(ok:iq P w H h)(q:H e=some (pD e C od)):∃o vs,h.get? e=some o∧o.cls= .ref C∧o.dict=od∧o.data= .fields vs:=let ⟨o,vs,a,b,c,d,_⟩:=(ok e _ q).1;⟨o,vs,a,b,c,d⟩
theorem vA(ok:iq P w H h)(q:H e=some (pD e C od)):∃o vs,h.get? e=some o∧o.cls= .ref C∧o.dict=od∧o.data= .fields vs∧(vs[2]? =some .none∨gy.sW C):=(ok e _ q).1
theorem nF(ok:iq P w H h)(q:H e=some (oI e C od)):∃o vs,h.get? e=some o∧o.cls= .ref C∧o.dict=od∧o.data= .fields vs∧vs[1]? =some .none∧vs[2]? =some .none∧vs.size=6:=(ok e _ q).1
theorem Ar{fs:List (Str×V)}(ok:iq P w H h)(q:H dx=some (zB dx fs)):∃mA,h.Ns1 dx mA∧(∀f,fK (fs.lookup f) (mA f))∧PySem.Within mA (fs.map (·.1)):=(ok dx _ q).1
end
structure gA(X:Cx)(T:Addr):Prop where
 above:X.s₀.heap.objs.size≤T
 loc:T≠X.env.locals
 cell:∀x c,X.env.cells.lookup x=some c→c≠T
 pn:∀p∈X.pn,p.1≠T
section
variable {X:Cx}{pins:List (Addr×Obj)}{σ:St}{H:Hp}{s:Shared}{e C:Addr}{od tb:Option Addr}{h':Heap}{ER:St→XK}{v:Value}
theorem Inv.E1(I:Inv X pins σ H s){T:Addr}(h:s.heap.objs.size≤T):gA X T:=by
 refine⟨Nat.le_trans I.sz h,fun z=>?_,fun x c q z=>?_,fun p hp z=>?_⟩
 ·subst z
  exact absurd I.lt (Nat.not_lt.mpr h)
 ·obtain⟨_,o,ho,_⟩:=I.cell x c q
  subst z
  exact absurd (Heap.lt_size ho) (Nat.not_lt.mpr h)
 ·have q:=(I.pin p (List.mem_append_left _ hp)).1
  rw[z] at q
  exact absurd (Heap.lt_size q) (Nat.not_lt.mpr h)
def fQ(X:Cx)(ER:St→XK)(v:Value)(s:Shared):Prop:=
 ∃e C dx σ H tb,v= .ref e∧Inv X [] σ H s∧H e=some (pD e C dx)∧s.heap.jJ e tb∧(∀T,tb=some T→H T=none∧gA X T)∧ER σ (.ref C) dx H
def Lets(X:Cx)(ER:St→XK):Prop:=∀v s,fQ X ER v s→X.xe v s
theorem gA.cP{E:Value→Shared→Prop}{T:Addr}(n:gA (X.gp E) T):gA X T:=⟨n.above,n.loc,n.cell,n.pn⟩
theorem fQ.cP{E:Value→Shared→Prop}(z:fQ (X.gp E) ER v s):fQ X ER v s:=by
 obtain⟨e,C,dx,σ,H,tb,ev,I,he,fl,ht,hE⟩:=z
 exact⟨e,C,dx,σ,H,tb,ev,I.cP,he,fl,fun T q=>⟨(ht T q).1,(ht T q).2.cP⟩,hE⟩
theorem nG:Lets (X.gp (fQ X ER)) ER:=fun _ _ z=>z.cP
theorem Inv.sX(I:Inv X pins σ H s):Inv X [] σ H s:=I.mr fun p hp=>absurd hp (by simp)
theorem Inv.moved(I:Inv X [] σ H s)(he:H e=some (pD e C od))(ht:∀T,tb=some T→H T=none∧gA X T)(m:Heap.Moved (oC X.stack) e tb s.heap h'):Inv X [] σ H { s with heap:=h' }:=by
 have ne:∀b,H b=none→b≠e:=fun b n z=>by
  subst z
  rw[he] at n
  cases n
 refine I.zK (s':={ s with heap:=h' }) (H':=H) (ch:=tb.toList) rfl ⟨fun b o q n hb hx=>m.keep b o q (ne b n) (fun z=>hx (by rw[z];simp)) hb,fun b o q n hb hx=>m.slot b o q (ne b n) fun z=>hx (by rw[z];simp),fun _ _ _ n _=>n,fun b o q _=>m.there b o q,
  fun _ _ q=>q,fun _ _ _ q=>q,fun _ ps q=>⟨#[],by simpa using q⟩⟩ (fun a o q=>?_) I.bare fun b hb=>?_
 ·by_cases ae:a=e
  ·subst ae
   rw[he] at q
   cases q
   obtain⟨o,vs,h1,h2,h3,h4,h5⟩:=vA I.bb he
   obtain⟨yu,z,c⟩:=m.ctx o vs h1 h4
   exact xb z h2 h3 rfl (by rw[c];exact h5)
  ·refine(I.bb a o q).qh (fun b u hb z=>?_) (fun _ q=>q) fun _ _ q=>q
   have uY:∃o',H b=some o':=by
    rcases hb with hb|hb
    ·exact⟨o,by rw[hb];exact q⟩
    ·exact⟨_,hb⟩
   obtain⟨o',uY⟩:=uY
   refine m.keep b u z (fun z=>?_) (fun z=>?_) fun z=>?_
   ·rcases hb with hb|hb
    ·exact ae (hb.symm.trans z)
    ·rw[z,he] at hb
     cases hb
   ·rw[(ht b z).1] at uY
    cases uY
   ·rw[I.qo b z] at uY
    cases uY
 ·have z:tb=some b:=by
   cases tb with
   |none=>simp at hb
   |some T=>simp at hb;rw[hb]
  obtain⟨_,n⟩:=ht b z
  exact⟨.inr n.above,Ne.symm (Ne.symm n.loc),n.cell,by simpa using n.pn⟩
def yv(X:Cx):Prop:=X.stack=X.env::X.outer∧X.env.frame=some X.env.locals
theorem gD(hs:yv X)(I:Inv X pins σ H s):X.A.frames=some (X.env::X.outer)∧s.heap.FunFrames X.base (X.env::X.outer):=by
 refine⟨by rw[I.ok.frames,hs.1],?_⟩
 rw[←hs.1]
 exact I.stack
theorem nH(I:Inv X [] σ H s){tb:Option Addr}{T:Addr}(ht:∀T,tb=some T→H T=none∧gA X T)(b:tb=some T∨s.heap.objs.size≤T):∀T',some T=some T'→H T'=none∧gA X T':=fun T' z=>by
 cases z
 rcases b with b|b
 ·exact ht T b
 ·exact⟨I.bb.fresh b,I.E1 b⟩
theorem yw(hs:yv X):PassesOwn (model X.prog X.w) X.A X.env (fQ X ER):=by
 intro v s' z
 obtain⟨e,C,dx,σ,H,tb,ev,I,he,fl,ht,hE⟩:=z
 subst ev
 obtain⟨fr,ff⟩:=gD hs I
 refine ka fr ff hs.2 fl fun h1 T a b m=>?_
 have m1:Heap.Moved (oC X.stack) e tb s'.heap h1:=by unfold oC;rw[hs.1];exact m
 have I1:=I.moved he ht m1
 have t1:=nH I ht b
 refine w5 (s:={ s' with heap:=h1 }) a fun h2 a2 m2=>?_
 exact⟨e,C,dx,σ,H,some T,rfl,I1.moved he t1 (m2.mono fun _ z=>absurd z (by simp)),he,a2,t1,hE⟩
end
def vB(P:Program)(w:World):zy:=fun outer H s E v s'=>
 ∃e C dx H' tb,v= .ref e∧s'.os=s.os∧AllBare s'.gens∧Un (oC outer) [] H H' s.heap s'.heap∧iq P w H' s'.heap∧H' e=some (pD e C dx)∧s'.heap.jJ e tb∧(∀T,tb=some T→H' T=none∧s.heap.objs.size≤T)∧E (.ref C) dx H'
section
variable {P:Program}{w:World}{K:PySem.W.Frag}{mg:Str→Option Value}{base:Heap}{N ps:List Str}{qual:Str}{scope:Scope}{f:Addr}{cd:Value}{A:Around}{outer:List Env}{s s':Shared}{H:Hp}{E:XK}{v:Value}
theorem sY(z:fQ (fM (vB P w) P w K mg base N qual scope f cd A outer s H E) (fun _=>E) v s'):(fM (vB P w) P w K mg base N qual scope f cd A outer s H E).xe v s':=by
 obtain⟨e,C,dx,σ,H',tb,ev,I,he,fl,ht,hE⟩:=z
 subst ev
 obtain⟨fr,ff⟩:=gD (X:=fM (vB P w) P w K mg base N qual scope f cd A outer s H E) ⟨rfl,rfl⟩ I
 refine An fr ff rfl fl fun h1 T a b m=>?_
 have I1:=I.moved he ht m
 have t1:=nH I ht b
 have hB:=I.base
 have ne:∀b,H' b=none→b≠e:=fun b n z=>by
  subst z
  rw[he] at n
  cases n
 have nt:∀b o,s.heap.get? b=some o→tb≠some b:=fun b o q z=>absurd (Heap.lt_size q) (Nat.not_lt.mpr (ht b z).2.above)
 refine⟨e,C,dx,H',some T,rfl,I.os,I.bare,⟨fun b o q n hb hx=>?_,fun b o q n hb hx=>?_,hB.free,fun b o q hx=>?_,hB.kS,hB.kT,hB.kU⟩,I1.bb,he,a,fun T' z=>⟨(t1 T' z).1,(t1 T' z).2.above⟩,hE⟩
 ·refine m.keep b o (hB.keep b o q n hb hx) (ne b (hB.free b o q n hx)) (nt b o q) fun z=>?_
  rcases List.mem_cons.mp (show b∈s.heap.objs.size::oC outer from z) with z|z
  ·exact absurd (Heap.lt_size q) (by rw[z];exact Nat.lt_irrefl _)
  ·exact hb z
 ·obtain⟨sl,z⟩:=hB.slot b o q n hb hx
  obtain⟨Jl,z'⟩:=m.slot b _ z (ne b (hB.free b o q n hx)) (nt b o q)
  exact⟨Jl,z'⟩
 ·obtain⟨o',z⟩:=hB.there b o q hx
  exact m.there b o' z
def E2(P:Program)(w:World)(K:PySem.W.Frag)(mg:Str→Option Value)(base:Heap)(N:List Str)(qual:Str)(scope:Scope)(f:Addr)(cd:Value)(A:Around)(outer:List Env)(s:Shared)(H:Hp)(E:XK):Cx:=
 (fM (vB P w) P w K mg base N qual scope f cd A outer s H E).gp (fQ (fM (vB P w) P w K mg base N qual scope f cd A outer s H E) fun _=>E)
theorem aU:Lets (E2 P w K mg base N qual scope f cd A outer s H E) (fun _=>E):=fun _ _ z=>z.cP
theorem jK:PassesOwn (model P w) (E2 P w K mg base N qual scope f cd A outer s H E).A (E2 P w K mg base N qual scope f cd A outer s H E).env (E2 P w K mg base N qual scope f cd A outer s H E).xe:=yw (X:=fM (vB P w) P w K mg base N qual scope f cd A outer s H E) ⟨rfl,rfl⟩
theorem Dn{st:List Stmt}{t:TS}(h:jA (E2 P w K mg base N qual scope f cd A outer s H E) st t):jA (fM (vB P w) P w K mg base N qual scope f cd A outer s H E) st t:=fun pins s1 σ H1 D I hw=>
 wpAny_mono (h pins s1 σ H1 D (I.gp _) hw) (fun _ _ q=>q.cP) fun _ _ z=>sY z
theorem wX.IV{x:Str}{st:Stmt}{fd:FuncData}{k:Nat}{sp:Sp}(F:wX K x qual st f fd)(S:ax N ps (ak st))(len:∀vs H Q E,sp vs H Q E→vs.length=ps.length)
  (cQ:∀(bj:Value) (A:Around) (outer:List Env) (s:Shared) (H:Hp) (vs:List V) (Q:VK) (E:XK),b9 k (A.deeper (envOfC qual (ak st) s.heap.objs.size f bj))→sp vs H Q E→
   ∃t,jA (E2 P w K mg base N qual (ak st) f bj A outer s H E) (a9 st) t∧t { nx:=fun _ H'=>Q .cn H',rt:=Q } (start N vs) H):eD P w K mg base (vB P w) (k+1) f fd ps sp:=by
 obtain⟨oc,od,kV,doc,pm,an,bj,ct,mw,rfl,lk,me⟩:=F.ex
 refine fn_of lk me S len fun A outer s H vs Q E hr vn=>?_
 obtain⟨t,h,q⟩:=cQ bj A outer s H vs Q E hr vn
 exact⟨t,Dn h,q⟩
end
section
variable {X:Cx}{pins:List (Addr×Obj)}{σ:St}{H:Hp}{s s':Shared}{ER:St→XK}{v:Value}
theorem yx(L:Lets X ER)(I:Inv X pins σ H s)(h:vB X.prog X.w X.stack H s (ER σ) v s'):X.xe v s':=by
 obtain⟨e,C,dx,H',tb,ev,os,bare,un,bb,he,fl,ht,hE⟩:=h
 have I1:Inv X pins σ H' s':=I.zK os un bb bare fun b z=>absurd z (by simp)
 exact L v s' ⟨e,C,dx,σ,H',tb,ev,I1.sX,he,fl,fun T z=>⟨(ht T z).1,I.E1 (ht T z).2⟩,hE⟩
end
section
variable {X:Cx}{k:Nat}{f C:Addr}{fd:FuncData}{ps:List Str}{sp:Sp}{iW:List V}{ds:List Value}{ER:St→XK}{x m:Str}{p pos apos:Pos}{e o:Expr}{es:List Expr}{ta:TE}{t:TA}
def GN(sp:Sp)(iW:List V)(ER:St→XK)(t:TA):TE:=fun σ H Q=>t σ H fun vs H1=>sp (vs++iW) H1 Q (ER σ)
def As(C:Addr)(m:Str)(sp:Sp)(iW:List V)(ER:St→XK)(ta:TE)(t:TA):TE:=fun σ H Q=>ta σ H fun x H1=>∃a dx fs,x= .ref a∧H1 a=some (.ins C dx fs)∧fs.lookup m=none∧
 t σ H1 fun vs H2=>sp (x::(vs++iW)) H2 Q (ER σ)
theorem qK{pins:List (Addr×Obj)}{σ:St}{H:Hp}{s:Shared}{Q:VK}{us:List Value}{vs:List V}(F:eD X.prog X.w X.K X.mg X.base (vB X.prog X.w) k f fd ps sp)(hr:b9 k X.A)(hb:Binds X.K fd ps ds)(hd:Vals iW ds)(L:Lets X ER)
  (I:Inv X pins σ H s) (r:Vals vs us) (h:sp (vs++iW) H Q (ER σ)):wpAny (model X.prog X.w) X.A (call (.ref f) us) (EP X pins σ Q) X.xe s:=by
 have r2:Vals (vs++iW) (us++ds):=r.append hd
 have hl:(us++ds).length=ps.length:=by rw[←r2.length];exact F.len _ _ _ _ h
 refine wpAny_call (codeAny_mono (F.run X.A X.stack s H ⟨us,[]⟩ (us++ds) (vs++iW) Q (ER σ) hr I.z5 (hb s us I.fN hl) r2 h) fun r s' hq=>?_)
 cases r with
 |error e=>exact yx L I hq
 |ok fl=>
  cases fl with
  |ret u=>exact I.after hq
  |next=>exact False.elim hq
  |brk=>exact False.elim hq
  |cont=>exact False.elim hq
theorem sZ(F:eD X.prog X.w X.K X.mg X.base (vB X.prog X.w) k f fd ps sp)(hr:b9 k X.A)(hg:Gl X x)(hm:X.mg x=some (.ref f))(hk:PySem.W.keepIn X.K (.ref f)=true)(hb:Binds X.K fd ps ds)(hd:Vals iW ds)(L:Lets X ER)
  (ha:PA X (e::es) t) (yf:(x==("__debug__" :Str))=false:=by decide) (he:starEach (e::es) X.env=(false,eval e X.env)::starEach es X.env:=by rfl) (k7:(backTo pos (starEach es X.env)).any (·.1)=false:=by rfl):
  PE X (.Call (.Name x p) (e::es) [] pos) (GN sp iW ER t):=by
 intro pins s σ H Q I h
 refine wpAny_Call_Name_kw (eU I hg hm ?_ yf)
 refine PySem.W.callWith_K (h₀:=X.base) I.ok.mod.CC hk (bL (ha pos pins s σ H _ I h) fun us s1 ⟨vs,H1,I1,r,q⟩=>⟨I1.fN,?_⟩) he k7
 exact qK F hr hb hd L I1 r q
theorem bD{pl:Sem Bool}(he:PE X o ta)(c:r8 X.K C)(hm:Meth X.K C m f)(F:eD X.prog X.w X.K X.mg X.base (vB X.prog X.w) k f fd ps sp)(hr:b9 k X.A)(hb:Binds X.K fd ps ds)(hd:Vals iW ds)(L:Lets X ER)(ha:PA X (e::es) t)
  (yb:starEach (e::es) X.env=(false,eval e X.env)::starEach es X.env:=by rfl) (k7:(backTo pos (starEach es X.env)).any (·.1)=false:=by rfl)
  (ht:eval (.Call (.Attribute o m apos) (e::es) [] pos) X.env=(do
   let ov←eval o X.env
   standAt apos.atName
   let (f,first)←holding [ov] (getMethod ov m pl)
   callWith pos f first (backTo pos (starEach (e::es) X.env)) (backToKw pos (keywordEach [] X.env))):=by rfl):
  PE X (.Call (.Attribute o m apos) (e::es) [] pos) (As C m sp iW ER ta t):=by
 intro pins s σ H Q I h
 refine PySem.W.methodCall_KW (pl:=pl) (bL (he pins s σ H _ I h) fun u s1 ⟨x,H1,I1,rx,a,dx,fs,ex,ea,l,q⟩=>?_) ht
 subst ex
 obtain rfl:u=Value.ref a:=rx
 refine jF I1 ea c hm l ?_
 refine PySem.W.callWith_K (first:=[.ref a]) (h₀:=X.base) I.ok.mod.CC hm.kp (bL (ha pos pins s1 σ H1 _ I1 q) fun us s2 ⟨vs,H2,I2,r,q2⟩=>⟨I2.fN,?_⟩) yb k7
 exact qK (us:= .ref a::us) (vs:= .ref a::vs) F hr hb hd L I2 (.cons rfl r) q2
theorem bO{pl:Sem Bool}(he:PE X o ta)(c:r8 X.K C)(hm:Meth X.K C m f)(F:eD X.prog X.w X.K X.mg X.base (vB X.prog X.w) k f fd ps sp)(hr:b9 k X.A)(hb:Binds X.K fd ps ds)(hd:Vals iW ds)(L:Lets X ER)
  (ht:eval (.Call (.Attribute o m apos) [] [] pos) X.env=(do
   let ov←eval o X.env
   standAt apos.atName
   let (f,first)←holding [ov] (getMethod ov m pl)
   callWith pos f first (backTo pos (starEach [] X.env)) (backToKw pos (keywordEach [] X.env))):=by rfl):
  PE X (.Call (.Attribute o m apos) [] [] pos) (As C m sp iW ER ta F9):=by
 intro pins s σ H Q I h
 refine PySem.W.methodCall_KW (pl:=pl) (bL (he pins s σ H _ I h) fun u s1 ⟨x,H1,I1,rx,a,dx,fs,ex,ea,l,q⟩=>?_) ht
 subst ex
 obtain rfl:u=Value.ref a:=rx
 refine jF I1 ea c hm l ?_
 exact PySem.W.callWith_K0 (first:=[.ref a]) I1.fN hm.kp (qK (us:=[.ref a]) (vs:=[.ref a]) F hr hb hd L I1 (.cons rfl .nil) q)
def Au(C:Addr)(sp:Sp)(t:TA):TE:=fun σ H Q=>t σ H fun vs H1=>vs.length≤100∧∀x,H1 x=none→sp (.ref x::vs) (upd H1 x (oI x C none)) (fun v H2=>v= .cn∧Q (.ref x) H2) E0
theorem yy{HE:Addr}{pins:List (Addr×Obj)}{σ:St}{H:Hp}{s:Shared}{Q:VK}{us:List Value}{vs:List V}(Z:PySem.W.cK X.K C HE f)(F:eD X.prog X.w X.K X.mg X.base mz k f fd ps sp)(hr:b9 (k+1) X.A)(hb:Binds X.K fd ps [])
  (I:Inv X pins σ H s) (r:Vals vs us) (hz:vs.length≤100) (h:∀x,H x=none→sp (.ref x::vs) (upd H x (oI x C none)) (fun v H2=>v= .cn∧Q (.ref x) H2) E0):
  wpAny (model X.prog X.w) X.A (call (.ref C) us) (EP X pins σ Q) X.xe s:=by
 have hq:=h (s.heap.objs.size+1) (I.bb.fresh (Nat.le_succ _))
 have e2:((s.heap.push (PySem.W.jm us)).push (PySem.W.iH C s.heap.objs.size)).get? (s.heap.objs.size+1)=some (PySem.W.iH C s.heap.objs.size):=by
  have:=Heap.get?_push_size (s.heap.push (PySem.W.jm us)) (o:=PySem.W.iH C s.heap.objs.size) rfl
  rwa [Heap.size_push] at this
 have I2:Inv X pins σ (upd H (s.heap.objs.size+1) (oI (s.heap.objs.size+1) C none)) { s with heap:=(s.heap.push (PySem.W.jm us)).push (PySem.W.iH C s.heap.objs.size) }:=
  I.laid (a:=s.heap.objs.size+1) (t':=s.toks) (fun b u q=>Heap.get?_push_of_some _ (Heap.get?_push_of_some _ q)) (Nat.le_succ _) (xc e2 rfl rfl rfl rfl ⟨rfl,rfl⟩)
 have r2:Vals (V.ref (s.heap.objs.size+1)::vs) (Value.ref (s.heap.objs.size+1)::us):= .cons rfl r
 have hl:(Value.ref (s.heap.objs.size+1)::us++[]).length=ps.length:=by
  have e:=r2.length
  rw[F.len _ _ _ _ hq] at e
  rw[List.append_nil]
  exact e.symm
 have Ke:us.length≤sizeLine:=by
  rw[←r.length]
  exact Nat.le_trans hz (by rw[sizeLine_eq];decide)
 have Dp:=hb { s with heap:=(s.heap.push (PySem.W.jm us)).push (PySem.W.iH C s.heap.objs.size) } (Value.ref (s.heap.objs.size+1)::us) I2.fN hl
 rw[List.append_nil] at Dp
 refine wpAny_call (PySem.W.w6 I.fN Z Ke (codeAny_mono (F.run _ X.stack _ _ ⟨Value.ref (s.heap.objs.size+1)::us,[]⟩ (Value.ref (s.heap.objs.size+1)::us) _ _ E0 (hr.make C us []) (I2.z5.make C us []) Dp r2 hq) fun r s' iC=>?_))
 cases r with
 |error e=>exact False.elim iC
 |ok fl=>
  cases fl with
  |ret u=>
   obtain⟨v,H',I3,rv,ev,q3⟩:=I2.after iC
   subst ev
   exact⟨rv,⟨V.ref (s.heap.objs.size+1),H',I3,rfl,q3⟩⟩
  |next=>exact False.elim iC
  |brk=>exact False.elim iC
  |cont=>exact False.elim iC
theorem gE{HE:Addr}(Z:PySem.W.cK X.K C HE f)(F:eD X.prog X.w X.K X.mg X.base mz k f fd ps sp)(hr:b9 (k+1) X.A)(hg:Gl X x)(hm:X.mg x=some (.ref C))(hk:PySem.W.keepIn X.K (.ref C)=true)(hb:Binds X.K fd ps [])
  (ha:PA X (e::es) t) (yf:(x==("__debug__" :Str))=false:=by decide) (he:starEach (e::es) X.env=(false,eval e X.env)::starEach es X.env:=by rfl) (k7:(backTo pos (starEach es X.env)).any (·.1)=false:=by rfl):
  PE X (.Call (.Name x p) (e::es) [] pos) (Au C sp t):=by
 intro pins s σ H Q I h
 refine wpAny_Call_Name_kw (eU I hg hm ?_ yf)
 refine PySem.W.callWith_K (h₀:=X.base) I.ok.mod.CC hk (bL (ha pos pins s σ H _ I h) fun us s1 ⟨vs,H1,I1,r,q⟩=>⟨I1.fN,?_⟩) he k7
 exact yy Z F hr hb I1 r q.1 q.2
def GO(K:PySem.W.Frag)(te:TE)(ER:St→XK):TS:=fun _ σ H=>te σ H fun v H1=>∃e C HE f dx,v= .ref e∧PySem.W.cK K C HE f∧H1 e=some (oI e C dx)∧ER σ (.ref C) dx (upd H1 e (pD e C dx))
theorem gF{ex:Expr}{te:TE}(hc:X.calm=true)(L:Lets X ER)(he:PE X ex te):PS X (.Raise (some ex) none pos) (GO X.K te ER):=by
 intro pins s σ H D I h
 rw[arm_exec_Raise]
 refine wpAny_bind (wpAny_standAt (PySem.W.Ap (K:=X.K) (I.ok.hd hc) (wpAny_bind (bL (he pins s σ H _ I h) fun u s1 ⟨v,H1,I1,rv,e,C,HE,f,dx,ev,Z,hx,q⟩=>wpAny_bind (wpAny_standAt (wpAny_pure ?_))))))
 subst ev
 obtain rfl:u=Value.ref e:=rv
 obtain⟨o,vs,h1,h2,h3,h4,h5,h6⟩:=nF I1.bb hx
 refine⟨e,o,vs,C,HE,f,rfl,I1.fN,Z,h1,h2,h4,h5,L _ _ ⟨e,C,dx,σ,_,none,rfl,?_,ag,⟨⟨o,vs,h1,h4,h5⟩,fun T z=>by cases z⟩,fun T z=>(by cases z),q⟩⟩
 have J:=I1.sX.write (x:=e) (e:=e) (o:=pD e C dx) (h':=s1.heap) (t':=s1.toks) (by rw[hx];exact True.intro) (.inl rfl) (fun _ _ _ q=>q) ⟨o,h1⟩ (xb h1 h2 h3 h4 (.inl h6.1))
 exact J
end
end L2
namespace L2
open PySem PySem.Spec PyProof.Rows
variable [gy]
theorem Av{H:Hp}{e:Addr}{o:HO}(h:H e=some o):upd H e o=H:=by
 funext b
 by_cases z:b=e
 ·subst z
  rw[ag,h]
 ·rw[aj z]
section
variable {X:Cx}{x f:Str}{a b o value ex:Expr}{ta tb tv:TE}{p pos apos pos':Pos}
structure E3(K:PySem.W.Frag)(HE:Addr):Prop where
 sp:PySem.W.specialIn K (.ref HE) "__getattribute__" =some (some (.builtin "type.__getattribute__"))
 rd:PySem.W.readsIn K HE (.type "type")=true
 fc:PySem.W.findCls K (.ref HE) (.type "type") "__init__" =some (.val (.builtin "ValueError.__init__"))
def GP(K:PySem.W.Frag)(ta tb:TE):TE:=fun σ H Q=>ta σ H fun v H1=>tb σ H1 fun _ H2=>∃e C HE f dx,v= .ref e∧PySem.W.cK K C HE f∧H2 e=some (oI e C dx)∧Q .cn H2
theorem kd{HE:Addr}{pl:Sem Bool}(hg:Gl X x)(hm:X.mg x=some (.ref HE))(B:E3 X.K HE)(ha:PE X a ta)(hb:PE X b tb)(hd:(x==("__debug__" :Str))=false:=by decide)
  (yb:starEach [a,b] X.env=(false,eval a X.env)::starEach [b] X.env:=by rfl) (Qj:starEach [b] X.env=(false,eval b X.env)::starEach [] X.env:=by rfl) (k7:(backTo pos (starEach [b] X.env)).any (·.1)=false:=by rfl)
  (ht:eval (.Call (.Attribute (.Name x p) "__init__" apos) [a,b] [] pos) X.env=(do
   let ov←eval (.Name x p) X.env
   standAt apos.atName
   let (f,first)←holding [ov] (getMethod ov "__init__" pl)
   callWith pos f first (backTo pos (starEach [a,b] X.env)) (backToKw pos (keywordEach [] X.env))):=by rfl):
  PE X (.Call (.Attribute (.Name x p) "__init__" apos) [a,b] [] pos) (GP X.K ta tb):=by
 intro pins s σ H Q I h
 refine PySem.W.methodCall_KW (pl:=pl) (eU I hg hm ?_ hd) ht
 refine PySem.W.method_cls I.fN B.sp (PySem.W.cls_value I.fN B.rd B.fc rfl ?_)
 have I0:=I.tok (s.toks+1)
 refine PyProof.Rows.callWith_builtin1 (bL (aa ha (aa hb ao Qj) yb pos pins _ σ H (fun vs H2=>match vs with| [v,_]=>∃e C HE f dx,v=V.ref e∧PySem.W.cK X.K C HE f∧H2 e=some (oI e C dx)∧Q .cn H2|_=>False) I0 h) fun us s1 ⟨vs,H2,I2,r,q⟩=>?_) yb k7
 match vs,q with
 | [v,u],q=>
   obtain⟨e,C,HE,f,dx,e1,Z,hx,q⟩:=q
   subst e1
   obtain⟨u1,u2,rfl,r1,r2⟩:=vals2 r
   obtain rfl:u1=Value.ref e:=r1
   obtain⟨ob,vs,h1,h2,h3,h4,h5,h6⟩:=nF I2.bb hx
   have sz:1<vs.size:=(Array.getElem?_eq_some_iff.mp h5).1
   refine PySem.W.Aq I2.fN Z h1 h2 h4 (by omega) (by rw[sizeLine_eq,List.length_cons,List.length_nil];decide) fun h' g1 g2=>⟨.cn,H2,?_,rfl,q⟩
   have J:=I2.write (x:=e) (e:=e) (o:=oI e C dx) (h':=h') (t':=s1.toks) (by rw[hx];exact True.intro) (.inl rfl) (fun b o be q=>g2 b o be q) ⟨_,g1⟩ (xc g1 h2 h3 rfl (by rw[Array.getElem?_setIfInBounds_ne (by decide)];exact h5) ⟨by rw[Array.getElem?_setIfInBounds_ne (by decide)];exact h6.1,by rw[Array.size_setIfInBounds];exact h6.2⟩)
   rw[Av hx] at J
   exact J
def Kf(K:PySem.W.Frag)(ta tv:TE)(f:Str):TS:=fun D σ H=>tv σ H fun y H1=>ta σ H1 fun v H2=>∃e C HE g,v= .ref e∧PySem.W.cK K C HE g∧PySem.W.takerIn K C f=some none∧
 ((H2 e=some (oI e C none)∧∀dx,H2 dx=none→dx≠e→D.nx σ (upd (upd H2 dx (zB dx [(f,y)])) e (oI e C (some dx))))∨
  ∃dx fs,H2 e=some (oI e C (some dx))∧H2 dx=some (zB dx fs)∧fs.length<1000∧D.nx σ (upd H2 dx (zB dx (df f y fs))))
theorem mC(ha:PE X o ta)(hv:PE X value tv)(hs:swapsWith value (some (.Attribute o f pos')) pos.line X.env=pure false):PS X (.Assign [.Attribute o f pos'] value pos) (Kf X.K ta tv f):=by
 intro pins s σ H D I h
 refine plainObj_wpAny_Assign_Attribute (bL (hv pins s σ H _ I h) fun u s1 ⟨y,H1,I1,ry,q⟩=>bL (ha pins s1 σ H1 _ I1 q) fun ov s2 ⟨x,H2,I2,rx,e,C,HE,g,ex,Z,tk,q2⟩=>?_) hs
 subst ex
 obtain rfl:ov=Value.ref e:=rx
 rcases q2 with ⟨hx,q2⟩ | ⟨dx,fs,hx,hd,hl,q2⟩
 ·obtain⟨ob,vs,h1,h2,h3,h4,h5,h6⟩:=nF I2.bb hx
  refine PySem.W.Dl I2.fN Z tk h1 h2 h4 h3 fun h' Gz g1 g2 g3=>?_
  have ne:s2.heap.objs.size≠e:=Nat.ne_of_gt (Heap.lt_size h1)
  have fr:=I2.bb.fresh (Nat.le_refl s2.heap.objs.size)
  generalize hN:s2.heap.objs.size=n at g1 g2 ne fr
  have at':∀b o,H2 b=some o→b≠e→upd (upd H2 n (zB n [(f,y)])) e (oI e C (some n)) b=some o:=fun b o q be=>by
   rw[aj be,aj (ai q fr)]
   exact q
  refine⟨σ,upd (upd H2 n (zB n [(f,y)])) e (oI e C (some n)),I2.un (h':=h') (t':=Gz) ⟨fun b o q nn _ _=>g3 b o (fun z=>?_) q,fun b o q nn _ _=>⟨o.slots,g3 b o (fun z=>?_) q⟩,fun b o q nn _=>?_,fun b o q _=>?_,fun b xs q=>at' b _ q fun z=>?_,fun b o u q=>at' b _ q fun z=>?_,fun b ps q=>⟨#[],?_⟩⟩ fun b o q=>?_,q2 n fr ne⟩
  ·rw[z,hx] at nn;cases nn
  ·rw[z,hx] at nn;cases nn
  ·rw[aj (fun z=>by rw[z,hx] at nn;cases nn),aj (fun z=>by rw[z,←hN] at q;exact absurd (Heap.lt_size q) (Nat.lt_irrefl _))]
   exact nn
  ·by_cases be:b=e
   ·subst be
    exact⟨_,g1⟩
   ·exact⟨o,g3 b o be q⟩
  ·rw[z,hx] at q;cases q
  ·rw[z,hx] at q;cases q
  ·rw[Array.append_empty]
   exact at' b _ q fun z=>by rw[z,hx] at q;cases q
  ·by_cases be:b=e
   ·subst be
    rw[ag] at q
    cases q
    exact xc g1 h2 rfl h4 h5 h6
   ·rw[aj be] at q
    by_cases bn:b=n
    ·subst bn
     rw[ag] at q
     cases q
     refine EZ g2 (fun g=>?_) fun g hg=>?_
     ·by_cases eg:g=f
      ·subst eg
       simp only [List.lookup,beq_self_eq_true,if_true]
       exact ry
      ·have e1:(g==f)=false:=by simpa using eg
       simp only [List.lookup,e1,if_neg eg]
       exact True.intro
     ·by_cases eg:g=f
      ·simp [eg]
      ·exact absurd (if_neg eg) hg
    ·rw[aj bn] at q
     refine(I2.bb b o q).qh (fun c u hc z=>g3 c u (fun ce=>?_) z) (fun c z=>at' c _ z fun ce=>?_) fun c xs z=>at' c _ z fun ce=>?_
     ·rcases hc with hc|hc
      ·exact be (hc.symm.trans ce)
      ·rw[ce,hx] at hc;cases hc
     ·rw[ce,hx] at z;cases z
     ·rw[ce,hx] at z;cases z
 ·obtain⟨ob,vs,h1,h2,h3,h4,h5,h6⟩:=nF I2.bb hx
  obtain⟨mA,n1,r1,w1⟩:=Ar I2.bb hd
  have hz:(fs.map (·.1)).length≤1000:=by rw[List.length_map];omega
  refine PySem.W.Dm I2.fN Z tk h1 h2 h4 h3 n1 w1 hz fun h' g1 sb=>⟨σ,_,?_,q2⟩
  have ql:∃o,h'.get? dx=some o:=let ⟨o,_,_,e',_⟩:=g1;⟨o,e'⟩
  refine I2.write (x:=dx) (e:=dx) (t':=s2.toks+2) (by rw[hd];exact True.intro) (.inl rfl) (fun b q hb z=>(sb.2 b hb).trans z) ql (EZ g1 (fun g=>?_) fun g hg=>?_)
  ·rw[aL]
   by_cases q:g=f
   ·rw[if_pos q,if_pos q];exact ry
   ·rw[if_neg q,if_neg q];exact r1 g
  ·by_cases q:g=f
   ·rw[q];exact(gs f y fs).1
   ·exact(gs f y fs).2 g (w1 g fun z=>hg (by rw[if_neg q];exact z))
def E4(K:PySem.W.Frag)(ta:TE)(f:Str):TE:=fun σ H Q=>ta σ H fun v H1=>∃e C HE g dx fs y,v= .ref e∧PySem.W.cK K C HE g∧PySem.W.findIn K (.ref C) f=some none∧H1 e=some (pD e C (some dx))∧H1 dx=some (zB dx fs)∧fs.lookup f=some y∧Q y H1
theorem Dq(he:PE X ex ta)(hb:attributeBase ex f X.env (eval ex X.env)=eval ex X.env):PE X (.Attribute ex f pos) (E4 X.K ta f):=by
 intro pins s σ H Q I h
 refine wR hb (bL (he pins s σ H _ I h) fun u s1 ⟨x,H1,I1,rx,e,C,HE,g,dx,fs,y,ex,Z,fi,hx,hd,l,q⟩=>?_)
 subst ex
 obtain rfl:u=Value.ref e:=rx
 obtain⟨ob,vs,h1,h2,h3,h4⟩:=vz I1.bb hx
 obtain⟨mA,n1,r1,w1⟩:=Ar I1.bb hd
 obtain⟨od,ho,hl⟩:=o6 n1
 obtain⟨u,hu,ru⟩:=fK.some_of (v:=y) (o:=mA f) (by rw[←l];exact r1 f)
 obtain⟨cd,me,_,hh⟩:=Z.cd
 have J:PySem.W.InstAt s1.heap e ob C (some od):=⟨h1,h2,by unfold PySem.W.notCls;rw[h4],by rw[h3];exact ho⟩
 exact PySem.W.GL I1.fN Z J (PySem.W.findObj_own (by unfold PySem.W.hasDictIn;rw[me];exact hh) fi rfl (by rw[hl,hu])) (o7 ru) ⟨y,H1,I1.tok _,ru,q⟩
def Qk(ta:TE):TE:=fun σ H Q=>ta σ H fun v H1=>(∃i,v= .int i∧i.natAbs.log2<1920∧Q (.str (toString i)) H1)∨∃y,v= .str y∧y.length≤sizeLine∧Q (.str y) H1
theorem qN(he:PE X ex ta):PE X (.FormattedValue ex (-1) none pos) (Qk ta):=by
 intro pins s σ H Q I h
 refine FormattedValue_plain (bL (he pins s σ H _ I h) fun u s1 ⟨v,H1,I1,rv,q⟩=>?_)
 rcases q with ⟨i,rfl,hi,q⟩ | ⟨y,rfl,hy,q⟩
 ·obtain⟨t,rfl⟩:=rv
  exact formatField_int_small hi ⟨.str (toString i),H1,I1.tok _,⟨_,rfl⟩,q⟩
 ·obtain⟨t,rfl⟩:=rv
  exact formatField_str (fun t' tk=>⟨.str y,H1,I1.tok tk,⟨_,rfl⟩,q⟩) hy
def PF(X:Cx)(es:List Expr)(t:Str→TE):Prop:=
 ∀(acc:Str) (pins:List (Addr×Obj)) (s:Shared) (σ:St) (H:Hp) (Q:VK),Inv X pins σ H s→t acc σ H Q→wpAny (model X.prog X.w) X.A (joinParts acc (evalEach es X.env)) (EP X pins σ Q) X.xe s
def Kg:Str→TE:=fun acc _ H Q=>acc.length≤sizeLine∧Q (.str acc) H
def GQ(te:TE)(t:Str→TE):Str→TE:=fun acc σ H Q=>te σ H fun v H1=>∃y,v= .str y∧(acc++y).length≤sizeLine∧t (acc++y) σ H1 Q
theorem qO:PF X [] Kg:=fun acc pins s σ H Q I h=>joinParts_nil ⟨.str acc,H,I.tok _,⟨_,rfl⟩,h.2⟩ h.1
theorem dQ{es:List Expr}{t:Str→TE}(he:PE X ex ta)(hr:PF X es t)(hs:evalEach (ex::es) X.env=eval ex X.env::evalEach es X.env:=by rfl):PF X (ex::es) (GQ ta t):=by
 intro acc pins s σ H Q I h
 rw[hs]
 refine joinParts_cons (bL (he pins s σ H _ I h) fun u s1 ⟨v,H1,I1,rv,y,ev,hz,q⟩=>?_)
 subst ev
 obtain⟨t',rfl⟩:=rv
 exact⟨hz,hr (acc++y) pins s1 σ H1 Q I1 q⟩
theorem mD{v1 v2:Expr}{es:List Expr}{t:Str→TE}(h:PF X (v1::v2::es) t):PE X (.JoinedStr (v1::v2::es) pos) (t Str.empty):=fun pins s σ H Q I hw=>JoinedStr_many (h Str.empty pins s σ H Q I hw)
end
end L2
namespace PySem.W
open PySem PySem.Calls PyProof.Rows
structure qP(K:Frag)(PC:Addr):Prop where
 obj:∃(nm q:Str) (N:Addr) (bs bm:List Value) (hd:Bool) (sn:List Str) (sub:List Value) (ab:Bool) (col:Option Bool) (dd:Option Addr) (k0 k1 k2 k3 k5:Option Value) (VN:String),
  K.lookup PC=some (excClassObj nm q PC N bs bm hd sn sub ab col dd k0 k1 k2 k3 k5 VN)∧bm.contains (.type "BaseException")=true
theorem cK.par{K:Frag}{C HE f:Addr}(Z:cK K C HE f):qP K C:=by
 obtain⟨nm,q,N,bs,sn,sub,ab,col,dd,k0,k1,k2,k3,k5,hK⟩:=Z.obj
 exact⟨nm,q,N,bs,_,_,sn,sub,ab,col,dd,k0,k1,k2,k3,k5,_,hK,by rw[List.contains_cons,show oH.contains (.type "BaseException")=true from by decide+kernel,Bool.or_true]⟩
theorem nI{M:Model}{A:Around}{E:Value→Shared→Prop}{s:Shared}{K:Frag}{C HE f e PC:Addr}{ox:Obj}{b:Bool}{Q:Bool→Shared→Prop}(X:K.In s.heap)(Z:cK K C HE f)(Y:qP K PC)(hx:s.heap.get? e=some ox)(hc:ox.cls= .ref C)
  (hm:mroIn K C (.ref PC)=some b) (k:Q b s):wpAny M A (excMatches (.ref e) (.ref PC)) Q E s:=by
 obtain⟨nm,q,N,bs,sn,sub,ab,col,dd,k0,k1,k2,k3,k5,hK⟩:=Z.obj
 obtain⟨Zj,q',N',Zk,bm,ql,Zl,Xq,Zm,Xr,ES,Zn,Zo,Zp,Zq,Zr,VN,hP,hB⟩:=Y.obj
 obtain⟨cd,me,em,_⟩:=Z.cd
 have cb:(Value.ref C:: .ref HE::oH).contains (.ref PC)=b:=by
  unfold mroIn at hm
  rw[me,Option.bind_some,em] at hm
  exact Option.some.inj hm
 have kC:=X _ _ hK
 have kP:=X _ _ hP
 have cB:(Value.ref PC::bm).contains (.type "BaseException")=true:=by rw[List.contains_cons,hB,Bool.or_true]
 have ft:=tc_notTuple
 obtain⟨hp,g,d,tk,os⟩:=s
 unfold excMatches
 repeat (first| (with_reducible refine wpAny_loadPart_at hx ?_;rw[hc]) |with_reducible refine wpAny_loadPart_at kP ?_| (with_reducible refine wpAny_isSubtype_exc kP ?_;rw[cB]) | (with_reducible refine wpAny_isSubtype_exc kC ?_;rw[cb]) |wp_step)
 cases b<;>(wp_walk;exact k)
end PySem.W
namespace L2
open PySem PySem.Spec PyProof.Rows
variable [gy]
abbrev Cx.pinned(X:Cx)(pn:List (Addr×Obj)):Cx:={ X with pn:=X.pn++pn }
abbrev Cx.mark(X:Cx)(e:Addr):Cx:={ X with A:=X.A.mark (some (.ref e)),calm:=false,xe:=fun _ _=>False }
section
variable {X:Cx}{pins pn:List (Addr×Obj)}{σ:St}{H:Hp}{s:Shared}{ER:St→XK}{v:Value}{D:Ends}{fl:Flow}
theorem Cx.Ok.pinned(ok:X.Ok):(X.pinned pn).Ok:=⟨ok.mod,ok.kind,ok.glob,ok.blt,ok.above,ok.inj,ok.has,ok.CD,ok.hd,ok.frames,ok.EI,ok.IQ,ok.bs,ok.wJ,ok.qj,ok.qk,ok.ir,ok.zv⟩
theorem Cx.Ok.dm(ok:(X.pinned pn).Ok):X.Ok:=⟨ok.mod,ok.kind,ok.glob,ok.blt,ok.above,ok.inj,ok.has,ok.CD,ok.hd,ok.frames,ok.EI,ok.IQ,ok.bs,ok.wJ,ok.qj,ok.qk,ok.ir,ok.zv⟩
theorem Inv.Ql(I:Inv X pins σ H s):Inv (X.pinned pins) [] σ H s:=⟨I.ok.pinned,I.os,I.bare,I.base,I.loc,I.cell,I.free,I.eS,fun p hp=>I.pin p (by simpa using hp),I.bb,I.len⟩
theorem Inv.Aw(I:Inv (X.pinned pn) pins σ H s):Inv X pn σ H s:=⟨I.ok.dm,I.os,I.bare,I.base,I.loc,I.cell,I.free,I.eS,fun p hp=>I.pin p (List.mem_append_left _ hp),I.bb,I.len⟩
theorem SP.dm(h:SP (X.pinned pn) pins D fl s):SP X pn D fl s:=by
 cases fl with
 |next=>obtain⟨σ',H',I,q⟩:=h;exact⟨σ',H',I.Aw,q⟩
 |brk=>obtain⟨σ',H',I,q⟩:=h;exact⟨σ',H',I.Aw,q⟩
 |cont=>obtain⟨σ',H',I,q⟩:=h;exact⟨σ',H',I.Aw,q⟩
 |ret u=>obtain⟨v,σ',H',I,r,q⟩:=h;exact⟨v,σ',H',I.Aw,r,q⟩
theorem fQ.dm(z:fQ (X.pinned pn) ER v s):fQ X ER v s:=by
 obtain⟨e,C,dx,σ,H,tb,ev,I,he,fl,ht,hE⟩:=z
 exact⟨e,C,dx,σ,H,tb,ev,I.Aw.sX,he,fl,fun T q=>⟨(ht T q).1,(ht T q).2.above,(ht T q).2.loc,(ht T q).2.cell,fun p hp=>(ht T q).2.pn p (List.mem_append_left _ hp)⟩,hE⟩
theorem tf(L:Lets X ER):Lets (X.pinned pn) ER:=fun v s z=>L v s z.dm
theorem Dr:Lets X (fun _ _ _ _=>False):=fun _ _ ⟨_,_,_,_,_,_,_,_,_,_,_,z⟩=>z.elim
theorem Inv.mark(I:Inv X pins σ H s)(e:Addr):Inv (X.mark e) pins σ H s:=
 ⟨⟨I.ok.mod,I.ok.kind,I.ok.glob,I.ok.blt,I.ok.above,I.ok.inj,I.ok.has,I.ok.CD,fun z=>(by cases z),I.ok.frames,I.ok.EI,I.ok.IQ,I.ok.bs,I.ok.wJ,I.ok.qj,I.ok.qk,I.ok.ir,I.ok.zv⟩,I.os,I.bare,I.base,I.loc,I.cell,I.free,I.eS,I.pin,I.bb,I.len⟩
theorem Inv.unmark{e:Addr}(I:Inv (X.mark e) pins σ H s)(ok:X.Ok):Inv X pins σ H s:=⟨ok,I.os,I.bare,I.base,I.loc,I.cell,I.free,I.eS,I.pin,I.bb,I.len⟩
def PH(X:Cx)(hs:List ExceptHandler)(th:Ends→St→XK):Prop:=
 ∀(s:Shared) (σ:St) (H:Hp) (D:Ends) (e C:Addr) (dx:Option Addr) (T:Addr),Inv X [] σ H s→H e=some (pD e C dx)→s.heap.jJ e (some T)→H T=none→gA X T→th D σ (.ref C) dx H→
  wpAny (model X.prog X.w) X.A (handleBy (.ref e) X.env hs) (SP X [] D) X.xe s
theorem Ax(L:Lets X ER):PH X [] (fun _=>ER):=by
 intro s σ H D e C dx T I he fl hT nT hE
 refine wpAny_handleBy_nil ?_
 obtain⟨oe,vs,h1,h2,h3⟩:=id fl.ex
 unfold PySem.passOn
 refine wpAny_bind (wpAny_field h1 h2 h3 ?_)
 rw[if_neg (by simp)]
 have ht:∀T',some T=some T'→H T'=none∧gA X T':=fun T' z=>by cases z;exact⟨hT,nT⟩
 refine wpAny_bind (d5 fl fun h' a m=>wpAny_throw (L _ _ ⟨e,C,dx,σ,H,some T,rfl,I.moved he ht (m.mono fun _ z=>absurd z (by simp)),he,a,ht,hE⟩))
def Kh(K:PySem.W.Frag)(PC:Addr)(i:Nat)(ts:TS)(tr:Ends→St→XK):Ends→St→XK:=fun D σ cv dx H=>
 ∃C HE f b,cv= .ref C∧PySem.W.cK K C HE f∧PySem.W.mroIn K C (.ref PC)=some b∧
  if b=true then∀e,H e=some (pD e C dx)→ts { D with nx:=fun σ1 H1=>D.nx (σ1.set i none) H1,bk:=fun σ1 H1=>D.bk (σ1.set i none) H1,ct:=fun σ1 H1=>D.ct (σ1.set i none) H1 } (σ.set i (some (.ref e))) H else tr D σ cv dx H
theorem name_goes{i:Nat}{n:Str}{pos:Pos}{Q:Unit→Shared→Prop}{A:Around}{E:Value→Shared→Prop}(I:Inv X pins σ H s)(hN:X.N.Nodup)(hi:X.N[i]? =some n)(hl:X.env.scope.names.lookup n=some .local)
  (k:∀s',Inv X pins (σ.set i none) H s'→Q () s'):wpAny (model X.prog X.w) A (do bindName X.env n .none;unbindBehindTheSuite X.env n pos) Q E s:=by
 have F1:(X.env.scope.kind== .class||(X.env.scope.kind== .module&&X.env.locals != X.env.globals))=false:=by rw[I.ok.kind];rfl
 refine wpAny_bind (wpAny_bindName (store_ok I hN hi (.inl hl) (v:= .cn) rfl (fun s1 J=>?_) (.inr hl)))
 have VO:i<σ.length:=by rw[I.len];exact(List.getElem?_eq_some_iff.mp hi).1
 obtain⟨m,hn,EU⟩:=id J.loc
 obtain⟨u,_,lk⟩:=EU i n .cn hi (by rw[List.getElem?_set_self VO]) (.inl hl)
 have Xs:(m n).isSome=true:=by
  rcases lk with ⟨_,z⟩ | ⟨z,_⟩
  ·rw[z];rfl
  ·rcases z with z|z
   ·have:X.env.scope.names.lookup n=some .cell:=z
    rw[hl] at this;cases this
   ·have:X.env.scope.names.lookup n=some .free:=z
    rw[hl] at this;cases this
 unfold unbindBehindTheSuite
 refine wpAny_onRaise ?_
 unfold unbindName
 refine wpAny_bind (wpAny_point (wpAny_bind ?_))
 unfold deleteName
 have kl:X.env.kindOf n=some .local:=hl
 simp only [kl,F1]
 rw[if_neg (by decide)]
 refine wpAny_bind (wpAny_nsDel_keeps hn fun h2 v2 EN sb=>?_)
 rw[Xs]
 refine wpAny_pure (wpAny_point (k _ ?_))
 obtain⟨oL,_,_,Vp,_⟩:=id hn
 have lo:∀b o,X.s₀.heap.get? b=some o→b≠X.env.locals:=fun b o q=>Nat.ne_of_lt (Nat.lt_of_lt_of_le (Heap.lt_size q) J.ok.above)
 refine⟨J.ok,J.os,J.bare,⟨fun b o e nn hb hx=>(sb.2 b (lo b o e)).trans (J.base.keep b o e nn hb hx),fun b o e nn hb hx=>?_,J.base.free,fun b o e hx=>?_,J.base.kS,J.base.kT,J.base.kU⟩,⟨_,EN,fun j y v' e1 e2 e3=>?_⟩,fun y c e=>?_,J.free,J.eS,fun p hp=>?_,fun b ob e=>?_,by simpa using I.len⟩
 ·obtain⟨sl,e1⟩:=J.base.slot b o e nn hb hx
  exact⟨sl,(sb.2 b (lo b o e)).trans e1⟩
 ·obtain⟨o',e1⟩:=J.base.there b o e hx
  exact⟨o',(sb.2 b (lo b o e)).trans e1⟩
 ·by_cases hj:j=i
  ·subst hj
   rw[List.getElem?_set_self VO] at e2
   cases e2
  ·rw[List.getElem?_set_ne (Ne.symm hj)] at e2
   obtain⟨u',r',q⟩:=EU j y v' e1 (by rw[List.getElem?_set_ne (Ne.symm hj)];exact e2) e3
   refine⟨u',r',?_⟩
   rcases q with ⟨k,e⟩ | ⟨k,c,e,z⟩
   ·refine .inl ⟨k,?_⟩
    have:y≠n:=fun e=>hj (m4 hN e1 (e▸hi))
    simp [this,e]
   ·exact .inr ⟨k,c,e,z.sameBut sb (J.CF y c e)⟩
 ·obtain⟨w',z⟩:=J.cell y c e
  exact⟨w',z.sameBut sb (J.CF y c e)⟩
 ·obtain⟨e,nn,ne,nf,d⟩:=J.pin p hp
  exact⟨(sb.2 p.1 ne).trans e,nn,ne,nf,d⟩
 ·refine(J.bb b ob e).qh (fun c w' hc q=>(sb.2 c ?_).trans q) (fun _ q=>q) fun _ _ q=>q
  rintro rfl
  rcases hc with rfl|hc
  ·rw[J.free] at e;cases e
  ·rw[J.free] at hc;cases hc
theorem Ki{x n:Str}{np pos:Pos}{b0:Stmt}{iI:List Stmt}{rest:List ExceptHandler}{PC:Addr}{i:Nat}{ts:TS}{tr:Ends→St→XK}(hg:Gl X x)(hm:X.mg x=some (.ref PC))(Y:PySem.W.qP X.K PC)(hN:X.N.Nodup)(hi:X.N[i]? =some n)
  (hl:X.env.scope.names.lookup n=some .local) (GR:∀e,jA (X.mark e) (b0::iI) ts) (hr:PH X rest tr) (hd:(x==("__debug__" :Str))=false:=by decide):
  PH X (.ExceptHandler (some (.Name x np)) (some n) (b0::iI) pos::rest) (Kh X.K PC i ts tr):=by
 intro s σ H D e C dx T I he fl hT nT hE
 obtain⟨C',HE,f,b,ec,Z,mb,hE⟩:=hE
 cases ec
 obtain⟨o,vs,o1,o2,o3,o4⟩:=vz I.bb he
 have ht:∀T',some T=some T'→H T'=none∧gA X T':=fun T' z=>by cases z;exact⟨hT,nT⟩
 refine wpAny_handleBy_cons (codeAny_handlers_test (eU (X:=X.mark e) (I.mark e) hg hm (PySem.W.nI I.fN Z Y o1 o2 mb ?_) hd)) (by intro z;cases z)
 cases b with
 |false=>exact hr s σ H D e C dx T I he fl hT nT hE
 |true=>
  have hE:=hE e he
  refine codeAny_handlers_suite_as (d5 fl fun h1 a m=>?_)
  have I1:=I.moved he ht (m.mono fun _ z=>absurd z (by simp))
  refine store_ok I1 hN hi (.inl hl) (v:= .ref e) rfl (fun s2 I2=>?_) (.inr hl)
  refine wpAny_mono (GR e [] s2 _ H _ (I2.mark e) hE) (fun f s3 q=>?_) fun _ _ z=>False.elim z
  cases f with
  |next=>
   obtain⟨σ',H',I3,q⟩:=q
   exact name_goes (I3.unmark I.ok) hN hi hl fun s4 I4=>⟨_,H',I4,q⟩
  |brk=>
   obtain⟨σ',H',I3,q⟩:=q
   exact name_goes (I3.unmark I.ok) hN hi hl fun s4 I4=>⟨_,H',I4,q⟩
  |cont=>
   obtain⟨σ',H',I3,q⟩:=q
   exact name_goes (I3.unmark I.ok) hN hi hl fun s4 I4=>⟨_,H',I4,q⟩
  |ret u=>
   obtain⟨v,σ',H',I3,r,q⟩:=q
   exact name_goes (I3.unmark I.ok) hN hi hl fun s4 I4=>⟨v,_,H',I4,r,q⟩
def Kj(tb:(St→XK)→TS)(th:Ends→St→XK):TS:=fun D σ H=>tb (th D) D σ H
theorem xf{body:List Stmt}{h0:ExceptHandler}{hs:List ExceptHandler}{pos:Pos}{tb:(St→XK)→TS}{th:Ends→St→XK}(fm:yv X)(hb:∀pn VP,jA ((X.pinned pn).gp (fQ (X.pinned pn) VP)) body (tb VP))(hh:∀pn,PH (X.pinned pn) (h0::hs) th):
  PS X (.Try body (h0::hs) [] [] pos) (Kj tb th):=by
 intro pins s σ H D I h
 have fin:∀{f s1},SP (X.pinned pins) [] D f s1→SP X pins D f s1:=fun q=>q.dm
 refine wpAny_Try_except (wpAny_mono (hb pins (th D) [] s σ H D (I.Ql.gp _) h) (fun f s1 q=>?_) fun v s1 z=>?_)
 ·have q:=fin q.cP
  cases f with
  |next=>exact wpAny_execs_nil q
  |brk=>exact q
  |cont=>exact q
  |ret u=>exact q
 ·obtain⟨e,C,dx,σ1,H1,tb,ev,I1,he,fl,ht,hE⟩:=z
  subst ev
  have Qm:yv (X.pinned pins):=fm
  obtain⟨fr,ff⟩:=gD Qm I1
  refine ka fr ff Qm.2 fl fun h2 T a b m=>?_
  have m1:Heap.Moved (oC (X.pinned pins).stack) e tb s1.heap h2:=by unfold oC;rw[Qm.1];exact m
  have I2:=I1.moved he ht m1
  have t1:=nH I1 ht b
  refine d5 (s:={ s1 with heap:=h2 }) a fun h3 a3 m3=>?_
  have I3:=I2.moved he t1 (m3.mono fun _ z=>absurd z (by simp))
  exact bL (hh pins _ σ1 H1 D e C dx T I3 he a3 (t1 T rfl).1 (t1 T rfl).2 hE) fun f s4 q=>fin q
end
end L2
namespace L2
open PySem PySem.Spec PyProof.Rows
section
variable {X:Cx}{tg:Expr}
end
section
variable {K:PySem.W.Frag}{g:TG}{tt:TT}{te:TE}
end
end L2
namespace L2
open PySem PySem.Spec PyProof.Rows PySem.W
section
variable {X:Cx}
end
end L2
namespace L2
open PySem PySem.Spec PyProof.Rows
section
variable {P:Program}{w:World}{K:PySem.W.Frag}{mg:Str→Option Value}{base:Heap}
end
end L2
namespace PySem.W
open PySem PySem.Spec PySem.Calls PyProof.Rows
section
variable {prog:Program}{w:World}{A:Around}{E:Value→Shared→Prop}{s:Shared}{K:Frag}{e C HE f:Addr}{ox:Obj}{od:Option Obj}
end
end PySem.W
namespace L2
open PySem PySem.Spec PyProof.Rows
variable [gy]
end L2
namespace Qn
open PySem PySem.Spec PySem.Builtin PySem.Builtin.Str
end Qn
namespace L2
open PySem PySem.Spec PyProof.Rows
section
variable {X:Cx}
end
variable [gy]
section
variable {X:Cx}
theorem Ay(K:PySem.W.Frag)(hK:X.K=K){x n:Str}{np pos:Pos}{b0:Stmt}{iI:List Stmt}{rest:List ExceptHandler}{PC:Addr}{i:Nat}{ts:TS}{tr:Ends→St→XK}(hg:Gl X x)(hm:X.mg x=some (.ref PC))(Y:PySem.W.qP K PC)(hN:X.N.Nodup)(hi:X.N[i]? =some n)
  (hl:X.env.scope.names.lookup n=some .local) (GR:∀e,jA (X.mark e) (b0::iI) ts) (hr:PH X rest tr) (hd:(x==("__debug__" :Str))=false:=by decide):
  PH X (.ExceptHandler (some (.Name x np)) (some n) (b0::iI) pos::rest) (Kh K PC i ts tr):=by
 subst hK
 exact Ki hg hm Y hN hi hl GR hr hd
end
section
variable {P:Program}{w:World}{K:PySem.W.Frag}{mg:Str→Option Value}{base:Heap}
structure Qo(P:Program)(w:World)(K:PySem.W.Frag)(mg:Str→Option Value)(base:Heap)(k:Nat)(x:Str)(ps:List Str)(sp:Sp)(f:Addr)(fd:FuncData):Prop where
 ok:eD P w K mg base (vB P w) k f fd ps sp
 kp:PySem.W.keepIn K (.ref f)=true
 b:Binds K fd ps []
 g:mg x=some (.ref f)
def ti(P:Program)(w:World)(K:PySem.W.Frag)(mg:Str→Option Value)(base:Heap)(k:Nat)(x:Str)(ps:List Str)(sp:Sp):Prop:=∃f fd,Qo P w K mg base k x ps sp f fd
structure Kk(P:Program)(w:World)(K:PySem.W.Frag)(mg:Str→Option Value)(base:Heap)(k:Nat)(C:Addr)(m:Str)(ps:List Str)(sp:Sp)(f:Addr)(fd:FuncData):Prop where
 ok:eD P w K mg base (vB P w) k f fd ps sp
 m:Meth K C m f
 b:Binds K fd ps []
def aY(P:Program)(w:World)(K:PySem.W.Frag)(mg:Str→Option Value)(base:Heap)(k:Nat)(C:Addr)(m:Str)(ps:List Str)(sp:Sp):Prop:=∃f fd,Kk P w K mg base k C m ps sp f fd
theorem Def.gW{x q:Str}{st:Stmt}{N ps:List Str}{k:Nat}{sp:Sp}(D:Def K mg x q st ps)(S:ax N ps (ak st))(len:∀vs H Q E,sp vs H Q E→vs.length=ps.length)
  (cQ:∀(f:Addr) (bj:Value) (A:Around) (outer:List Env) (s:Shared) (H:Hp) (vs:List V) (Q:VK) (E:XK),b9 k (A.deeper (envOfC q (ak st) s.heap.objs.size f bj))→sp vs H Q E→
   ∃t,jA (E2 P w K mg base N q (ak st) f bj A outer s H E) (a9 st) t∧t { nx:=fun _ H'=>Q .cn H',rt:=Q } (start N vs) H):ti P w K mg base (k+1) x ps sp:=by
 obtain⟨f,fd,F,b,g⟩:=D
 exact⟨f,fd,F.IV S len (cQ f),F.kp,b,g⟩
theorem bU.gW{C:Addr}{m q:Str}{st:Stmt}{N ps:List Str}{k:Nat}{sp:Sp}(D:bU K C m q st ps)(S:ax N ps (ak st))(len:∀vs H Q E,sp vs H Q E→vs.length=ps.length)
  (cQ:∀(f:Addr) (bj:Value) (A:Around) (outer:List Env) (s:Shared) (H:Hp) (vs:List V) (Q:VK) (E:XK),b9 k (A.deeper (envOfC q (ak st) s.heap.objs.size f bj))→sp vs H Q E→
   ∃t,jA (E2 P w K mg base N q (ak st) f bj A outer s H E) (a9 st) t∧t { nx:=fun _ H'=>Q .cn H',rt:=Q } (start N vs) H):aY P w K mg base (k+1) C m ps sp:=by
 obtain⟨f,fd,F,b,g⟩:=D
 exact⟨f,fd,F.IV S len (cQ f),g,b⟩
def lz(K:PySem.W.Frag)(mg:Str→Option Value)(x:Str)(C HE:Addr)(q:Str)(st:Stmt)(ps:List Str):Prop:=∃f fd,wX K "__init__" q st f fd∧PySem.W.cK K C HE f∧Binds K fd ps []∧mg x=some (.ref C)∧PySem.W.keepIn K (.ref C)=true
structure Kl(P:Program)(w:World)(K:PySem.W.Frag)(mg:Str→Option Value)(base:Heap)(k:Nat)(x:Str)(C HE:Addr)(ps:List Str)(sp:Sp)(f:Addr)(fd:FuncData):Prop where
 ok:eD P w K mg base mz k f fd ps sp
 z:PySem.W.cK K C HE f
 b:Binds K fd ps []
 g:mg x=some (.ref C)
 kp:PySem.W.keepIn K (.ref C)=true
def gf(P:Program)(w:World)(K:PySem.W.Frag)(mg:Str→Option Value)(base:Heap)(k:Nat)(x:Str)(C HE:Addr)(ps:List Str)(sp:Sp):Prop:=∃f fd,Kl P w K mg base k x C HE ps sp f fd
theorem lz.fJ{x q:Str}{C HE:Addr}{st:Stmt}{N ps:List Str}{k:Nat}{sp:Sp}(D:lz K mg x C HE q st ps)(S:ax N ps (ak st))(len:∀vs H Q E,sp vs H Q E→vs.length=ps.length)
  (cQ:∀(f:Addr) (bj:Value) (A:Around) (outer:List Env) (s:Shared) (H:Hp) (vs:List V) (Q:VK) (E:XK),b9 k (A.deeper (envOfC q (ak st) s.heap.objs.size f bj))→sp vs H Q E→
   ∃t,jA (fM mz P w K mg base N q (ak st) f bj A outer s H E).Cn (a9 st) t∧t { nx:=fun _ H'=>Q .cn H',rt:=Q } (start N vs) H):gf P w K mg base (k+1) x C HE ps sp:=by
 obtain⟨f,fd,F,Z,b,g,kp⟩:=D
 exact⟨f,fd,F.ok S len (cQ f),Z,b,g,kp⟩
end
end L2
namespace Qn
open PySem PySem.Spec PySem.Calls PyProof.Rows
section
variable {prog:Program}{w:World}{A:Around}{I:Addr}{fp wr:List Addr}{n:Nat}{P:Nat→Value→Prop}{St:Nat→Heap→Prop}
end
section
variable {prog:Program}{w:World}{A:Around}{E:Value→Shared→Prop}{s:Shared}{l:Addr}{xs:Array (Int×Tok)}{d:Value}
end
end Qn
namespace L2
open PySem PySem.Spec PyProof.Rows
section
variable {X:Cx}
end
end L2
namespace L2
open PySem PySem.Spec
section
variable {X:Cx}
end
end L2
namespace L2
open PySem PySem.Spec
end L2
namespace L2
open PySem PySem.Spec PyProof.Rows
theorem VQ{p:List Value→Prop}(us:List Value)(e:us.length=1)(h:∀a,p [a]):p us:=by
 cases us with
 |nil=>cases e
 |cons a us=>cases us with
  |nil=>exact h a
  |cons b us=>simp at e
theorem ln2{p:List Value→Prop}(us:List Value)(e:us.length=2)(h:∀a b,p [a,b]):p us:=by
 cases us with
 |nil=>cases e
 |cons a us=>exact VQ (p:=fun us=>p (a::us)) us (by simpa using e) (h a)
theorem Qq{p:List Value→Prop}(us:List Value)(e:us.length=3)(h:∀a b c,p [a,b,c]):p us:=by
 cases us with
 |nil=>cases e
 |cons a us=>exact ln2 (p:=fun us=>p (a::us)) us (by simpa using e) (h a)
theorem Xt{p:List Value→Prop}(us:List Value)(e:us.length=4)(h:∀a b c d,p [a,b,c,d]):p us:=by
 cases us with
 |nil=>cases e
 |cons a us=>exact Qq (p:=fun us=>p (a::us)) us (by simpa using e) (h a)
section
variable {K:PySem.W.Frag}{h:Heap}{mg:Str→Option Value}{x m q:Str}{st:Stmt}{ps:List Str}{f C HE:Addr}
def dJ(K:PySem.W.Frag)(x q:Str)(st:Stmt)(f:Addr):Prop:=(∃fd,wX K x q st f fd)∧PySem.W.isFn K (.ref f)=true
def BB(x q:Str)(st:Stmt)(ps:List Str)(kV doc pm:Value)(an:Option Addr)(bj ct:Value)(us:List Value):Prop:=bindArgs (PySem.W.fnOf x q (bH st) (a9 st) (ak st) .none kV doc pm an bj ct) ⟨us,[]⟩=pure (ps.zip us)
def BA(x q:Str)(st:Stmt)(ps:List Str):Prop:=∀(kV doc pm:Value) (an:Option Addr) (bj ct:Value) (us:List Value),us.length=ps.length→BB x q st ps kV doc pm an bj ct us
theorem jo{p0:Str}(h:∀(kV doc pm:Value) (an:Option Addr) (bj ct u0:Value),BB x q st [p0] kV doc pm an bj ct [u0]):BA x q st [p0]:=fun kV doc pm an bj ct us hl=>VQ (p:=BB x q st [p0] kV doc pm an bj ct) us hl (h kV doc pm an bj ct)
theorem qQ{p0 p1:Str}(h:∀(kV doc pm:Value) (an:Option Addr) (bj ct u0 u1:Value),BB x q st [p0,p1] kV doc pm an bj ct [u0,u1]):BA x q st [p0,p1]:=fun kV doc pm an bj ct us hl=>ln2 (p:=BB x q st [p0,p1] kV doc pm an bj ct) us hl (h kV doc pm an bj ct)
theorem Qr{p0 p1 p2:Str}(h:∀(kV doc pm:Value) (an:Option Addr) (bj ct u0 u1 u2:Value),BB x q st [p0,p1,p2] kV doc pm an bj ct [u0,u1,u2]):BA x q st [p0,p1,p2]:=fun kV doc pm an bj ct us hl=>Qq (p:=BB x q st [p0,p1,p2] kV doc pm an bj ct) us hl (h kV doc pm an bj ct)
theorem Xu{p0 p1 p2 p3:Str}(h:∀(kV doc pm:Value) (an:Option Addr) (bj ct u0 u1 u2 u3:Value),BB x q st [p0,p1,p2,p3] kV doc pm an bj ct [u0,u1,u2,u3]):BA x q st [p0,p1,p2,p3]:=fun kV doc pm an bj ct us hl=>Xt (p:=BB x q st [p0,p1,p2,p3] kV doc pm an bj ct) us hl (h kV doc pm an bj ct)
theorem dH{N P:List Str}{sc:Scope}(a:sc.kind= .function:=by rfl)(b:sc.isCoroutine=false:=by rfl)(c:sc.isGenerator=false:=by rfl)(d:N.Nodup:=by decide+kernel)(e:N.take P.length=P:=by rfl)(f:∀x∈P,sc.names.lookup x=some .local∨sc.names.lookup x=some .cell:=by decide+kernel)(g:∀y∈sc.names,y.2≠ .free:=by decide+kernel):ax N P sc:=⟨a,b,c,d,e,f,g⟩
theorem cg(X:K.In h)(G:h.Ns mainGlobals mg)(a:PySem.W.nsIn K mainGlobals x=some (some (.ref f)))(l:dJ K x q st f)(b:BA x q st ps):Def K mg x q st ps:=by
 obtain⟨⟨fd,F⟩,_⟩:=l
 exact⟨f,fd,F,F.binds b,PySem.W.mg_of X G a⟩
theorem dn(a:PySem.W.findIn K (.ref C) m=some (some (.ref f)))(l:dJ K m q st f)(b:BA m q st ps):bU K C m q st ps:=by
 obtain⟨⟨fd,F⟩,i⟩:=l
 exact⟨f,fd,F,F.binds b,⟨a,i,F.kp⟩⟩
theorem E5(k:PySem.W.makesIn K C=true)(a:PySem.W.findIn K (.ref C) "__init__" =some (some (.ref f)))(kc:PySem.W.keepIn K (.ref C)=true)(l:dJ K "__init__" q st f)(b:BA "__init__" q st ps):jH K C q st ps []:=by
 obtain⟨⟨fd,F⟩,i⟩:=l
 exact⟨f,fd, .none,⟨F.ex,F.kp⟩,⟨k,a,i,kc⟩,fun j _=>⟨[],by rw[List.drop_nil];exact .nil,F.binds b⟩⟩
theorem xg(Z:PySem.W.cK K C HE f)(g:mg x=some (.ref C))(kc:PySem.W.keepIn K (.ref C)=true)(l:dJ K "__init__" q st f)(b:BA "__init__" q st ps):lz K mg x C HE q st ps:=by
 obtain⟨⟨fd,F⟩,i⟩:=l
 exact⟨f,fd,F,Z,F.binds b,g,kc⟩
end
end L2
namespace L2
open PySem PySem.Spec PyProof.Rows PySem.W PySem.Calls
section
variable {prog:Program}{w:World}{κ:Type}[DecidableEq κ]{knd:KeyKind prog w κ}{A:Around}{E:Value→Shared→Prop}{s:Shared}{d it:Addr}{i ep:Nat}{kvs:List (κ×Value)}
end
section
variable {X:Cx}
end
end L2
namespace L2
open PySem PySem.Spec PyProof.Rows
end L2
namespace L2
open PySem PySem.Spec
variable [gy]
theorem nJ{X:Cx}{f:Str}{ex:Expr}{ta:TE}{pos:Pos}(K:PySem.W.Frag)(hK:X.K=K)(he:PE X ex ta)(hb:attributeBase ex f X.env (eval ex X.env)=eval ex X.env):PE X (.Attribute ex f pos) (E4 K ta f):=by
 subst hK
 exact Dq he hb
end L2
namespace L2
open PySem PySem.Spec PyProof.Rows PySem.W
section
variable {X:Cx}
end
end L2
namespace L2
open PySem PySem.Spec PyProof.Rows
variable [gy]
section
variable {prog:Program}{w:World}{A:Around}{R:Result→Shared→Prop}{s:Shared}
end
section
variable {X:Cx}{elt tg iter:Expr}{ifs:List Expr}{scope:Scope}{pos:Pos}{N:List Str}{fr:List (Option Nat)}{cl:List (Str×Addr)}{wi:TI}{g:TG}{tt:TT}{te:TE}
variable {Zs:(St→XK)→TE}{ER:St→XK}
variable {De py:Pos}
end
end L2
namespace L2
open PySem PySem.Spec PyProof.Rows
section
variable {X:Cx}{e o:Expr}{es:List Expr}{t:TA}{ta:TE}{x m:Str}{ps:List Str}{sp:Sp}{f C:Addr}{fd:FuncData}{k n:Nat}{p apos pos:Pos}
end
end L2
namespace L2
open PySem
theorem OA{p:Nat→Prop}(a:p 0)(b:p 1)(j:Nat)(h:j≤1):p j:=by
 cases j with
 |zero=>exact a
 |succ j=>cases j with
  |zero=>exact b
  |succ j=>omega
theorem OB{K:PySem.W.Frag}{fd:FuncData}{ps:List Str}{ds:List Value}(l:ps.length=2+ds.length)(h:∀s a b,K.In s.heap→BindsTo s fd ⟨[a,b],[]⟩ (ps.zip ([a,b]++ds))):Binds K fd ps ds:=fun s us hk hl=>ln2 (p:=fun us=>BindsTo s fd ⟨us,[]⟩ (ps.zip (us++ds))) us (by rw[List.length_append] at hl;omega) fun a b=>h s a b hk
theorem OC{K:PySem.W.Frag}{fd:FuncData}{ps:List Str}{ds:List Value}(l:ps.length=3+ds.length)(h:∀s a b c,K.In s.heap→BindsTo s fd ⟨[a,b,c],[]⟩ (ps.zip ([a,b,c]++ds))):Binds K fd ps ds:=fun s us hk hl=>Qq (p:=fun us=>BindsTo s fd ⟨us,[]⟩ (ps.zip (us++ds))) us (by rw[List.length_append] at hl;omega) fun a b c=>h s a b c hk
end L2
namespace L2
open PySem PySem.Spec PyProof.Rows
section
variable {X:Cx}{o:Expr}{to:TE}{apos f7:Pos}
def E6(f:Str→Bool)(to:TE):TE:=fun σ H Q=>to σ H fun x H1=>∃z,x= .str z∧Q (.bl (f z)) H1
theorem nK(ho:PE X o to)(sM:attributeBase o "isupper" X.env (eval o X.env)=eval o X.env:=by rfl)(sN:(apos.endLine==f7.line)=true:=by rfl):PE X (.Call (.Attribute o "isupper" apos) [] [] f7) (E6 Txt.isupper to):=by
 intro pins s σ H Q I h
 refine wpAny_Call_method0_late sM sN (bL (ho pins s σ H _ I h) fun v s1 ⟨x,H1,I1,r1,z,ex,q1⟩=>?_)
 subst ex
 obtain⟨t,rfl⟩:=(show∃t,v=Value.str z t from r1)
 exact⟨"str","str.isupper",PySem.F.plainAttrs_str,PySem.F.slot_str_isupper,PySem.F.type_str_isupper,typeIs_str s1 z t,(fun _ e=>nomatch e),Calls.callWith_builtin rfl (PySem.evalArgs_none (call_gives F.slot_str_isupper (typeIs_str _ _ _) F.entry_str_isupper (F.args_str_isupper_1 _) (gives_str_isupper z t) ⟨.bl _,H1,I1,rfl,q1⟩))⟩
theorem vC(ho:PE X o to)(sM:attributeBase o "islower" X.env (eval o X.env)=eval o X.env:=by rfl)(sN:(apos.endLine==f7.line)=true:=by rfl):PE X (.Call (.Attribute o "islower" apos) [] [] f7) (E6 Txt.islower to):=by
 intro pins s σ H Q I h
 refine wpAny_Call_method0_late sM sN (bL (ho pins s σ H _ I h) fun v s1 ⟨x,H1,I1,r1,z,ex,q1⟩=>?_)
 subst ex
 obtain⟨t,rfl⟩:=(show∃t,v=Value.str z t from r1)
 exact⟨"str","str.islower",PySem.F.plainAttrs_str,PySem.F.slot_str_islower,PySem.F.type_str_islower,typeIs_str s1 z t,(fun _ e=>nomatch e),Calls.callWith_builtin rfl (PySem.evalArgs_none (call_gives F.slot_str_islower (typeIs_str _ _ _) F.entry_str_islower (F.args_str_islower_1 _) (gives_str_islower z t) ⟨.bl _,H1,I1,rfl,q1⟩))⟩
end
end L2
namespace L2
open PySem PySem.Spec PyProof.Rows
section
variable {X:Cx}
def GS:V→List V→Hp→VK→Prop:=fun x vs H Q=>∃z y:Str,x= .str z∧vs=[.str y]∧Q (.int (Txt.count z y)) H
theorem tj:Oq X "str.count" GS:=by
 intro pins s σ H x vs v us Q I rx rv h
 obtain⟨z,y,rfl,rfl,q⟩:=h
 obtain⟨t,rfl⟩:=(show∃t,v=Value.str z t from rx)
 obtain⟨u,rfl,ru⟩:=rv.one
 obtain⟨t2,rfl⟩:=(show∃t,u=Value.str y t from ru)
 exact SC.count ⟨.int _,H,I.tok _,⟨_,rfl⟩,q⟩
end
end L2
namespace PySem
section
variable {prog:Program}{w:World}{A:Around}{E:Value→Shared→Prop}{s:Shared}
end
namespace F
end F
section
variable {prog:Program}{w:World}{K:Type}[DecidableEq K]{knd:KeyKind prog w K}{A:Around}{E:Value→Shared→Prop}{s:Shared}
end
end PySem
namespace L2
open PySem PySem.Spec PyProof.Rows
end L2
namespace PySem.W
open PySem PySem.Calls PyProof.Rows
section
variable {prog:Program}{w:World}{A:Around}{E:Value→Shared→Prop}{s:Shared}{K:Frag}{env:Env}
theorem oJ:entryFor table "proto.unchain" =some Builtin.«proto.unchain» :=entryFor_of_tree (by kernel_rfl)
theorem yz{x c:Sem Value}{Q:Flow→Shared→Prop}{e':Addr}(ha:A.handled=some (.ref e'))
  (k:wpAny (model prog w) A x (fun v s1=>wpAny (model prog w) A c (fun u s2=>u= .none∧∃e oe vs C HE f Qs yu,v= .ref e∧e≠e'∧K.In s2.heap∧cK K C HE f∧s2.heap.get? e=some oe∧oe.cls= .ref C∧oe.data= .fields vs∧vs[1]? =some .none∧vs.size=6∧
   s2.heap.get? e'=some Qs∧Qs.data= .fields yu∧yu[2]? =some .none∧
   ∀h',h'.get? e=some { oe with data:= .fields (((vs.setIfInBounds 3 .none).setIfInBounds 4 (.bool true)).setIfInBounds 2 (.ref e')) }→(∀b o,b≠e→s2.heap.get? b=some o→h'.get? b=some o)→h'.objs.size=s2.heap.objs.size→E (.ref e) { s2 with heap:=h' }) E s1) E s):
  wpAny (model prog w) A (raiseStmt env (some x) (some c)) Q E s:=by
 unfold raiseStmt
 refine wpAny_bind (wpAny_mono k (fun v s1 y=>?_) fun _ _ y=>y)
 refine wpAny_bind (wpAny_holding (wpAny_mono y (fun u s2 y=>wpAny_bind (wpAny_pure ?_)) fun _ _ y=>y))
 obtain⟨rfl,e,oe,vs,C,HE,f,Qs,yu,rfl,ne,X,Z,he,hc,hd,h1,hz,vy,ql,Xv,hE⟩:=y
 have cB:(Value.ref C:: .ref HE::oH).contains (.type "BaseException")=true:=fP (by decide+kernel)
 obtain⟨nm,q,N,bs,sn,sub,ab,col,dd,k0,k1,k2,k3,k5,hK⟩:=Z.obj
 have kC:=X _ _ hK
 obtain⟨hp,g,d,tk,os⟩:=s2
 obtain⟨oc,IU,Oz,mw⟩:=oe
 dsimp only at hc hd
 subst hc hd
 refine wpAny_bind (wpAny_holding ?_)
 repeat (first|with_reducible refine wpAny_loadPart_at he ?_|with_reducible refine wpAny_loadPart_at kC ?_| (with_reducible refine wpAny_isSubtype_exc kC ?_;rw[cB]) |wp_step)
 have nC:C≠e:=fun z=>by
  rw[z,he] at kC
  cases kC
 generalize hG:(hp.update e (Obj.mapFields fun x=>x.setIfInBounds 3 Value.none)).update e (Obj.mapFields fun x=>x.setIfInBounds 4 (Value.bool true))=G
 have g0:=Heap.get?_update_self (Obj.mapFields (·.setIfInBounds 3 Value.none)) he (Obj.isFreed_of_fields (Obj.data_mapFields rfl _))
 have ge:G.get? e=some { cls:= .ref C,dict:=IU,data:= .fields ((vs.setIfInBounds 3 .none).setIfInBounds 4 (.bool true)),slots:=mw }:=by
  rw[←hG]
  exact Heap.get?_update_self (Obj.mapFields (·.setIfInBounds 4 (Value.bool true))) g0 (Obj.isFreed_of_fields (Obj.data_mapFields rfl _))
 have go:∀b o,b≠e→hp.get? b=some o→G.get? b=some o:=fun b o be q=>by
  rw[←hG]
  exact(Heap.get?_update_other _ _ (Ne.symm be)).trans ((Heap.get?_update_other _ _ (Ne.symm be)).trans q)
 have gz:G.objs.size=hp.objs.size:=by
  rw[←hG,Heap.size_after_update,Heap.size_after_update]
 have gC:=go _ _ nC kC
 have Xw:=go _ _ (Ne.symm ne) vy
 repeat (first|with_reducible refine wpAny_loadPart_at ge ?_|with_reducible refine wpAny_loadPart_at gC ?_|wp_step)
 rw[show ((vs.setIfInBounds 3 Value.none).setIfInBounds 4 (Value.bool true))[1]? =some .none from by rw[Array.getElem?_setIfInBounds_ne (by decide),Array.getElem?_setIfInBounds_ne (by decide)];exact h1]
 refine wpAny_pure ?_
 rw[if_neg (by decide)]
 refine wpAny_pure ?_
 unfold raiseNew
 refine wpAny_bind (wpAny_handled ?_)
 rw[ha]
 dsimp only
 rw[if_pos (show (Value.ref e' != Value.ref e)=true from by simp [Ne.symm ne])]
 refine wpAny_bind (wpAny_holding (wpAny_runValue (codeAny_builtin oJ ?_)))
 unfold Builtin.«proto.unchain»
 dsimp only
 refine wpAny_bind (wpAny_field Xw ql Xv ?_)
 rw[if_pos (by decide)]
 refine wpAny_pure ?_
 show wpAny (model prog w) A (do
  setField (.ref e) 2 (Value.ref e')
  throw (Value.ref e)) Q E _
 refine wpAny_bind (wpAny_setField ge rfl (by rw[Array.size_setIfInBounds,Array.size_setIfInBounds,hz];decide) (wpAny_throw ?_))
 refine hE _ ?_ (fun b o be q=>(Heap.get?_update_other _ _ (Ne.symm be)).trans (go b o be q)) (by rw[Heap.size_after_update];exact gz)
 exact Heap.get?_update_self (Obj.mapFields (·.setIfInBounds 2 (Value.ref e'))) ge (Obj.isFreed_of_fields (Obj.data_mapFields rfl _))
end
end PySem.W
namespace L2
open PySem PySem.Spec PyProof.Rows
variable [gy]
section
variable {P:Program}{w:World}{K:PySem.W.Frag}{mg:Str→Option Value}{base:Heap}
structure xh(P:Program)(w:World)(K:PySem.W.Frag)(mg:Str→Option Value)(base:Heap)(k:Nat)(f:Addr)(fd:FuncData)(ps:List Str)(sp:Sp):Prop where
 len:∀vs H Q E,sp vs H Q E→vs.length=ps.length
 run:∀(e:Addr) (A:Around) (outer:List Env) (s:Shared) (H:Hp) (args:Args) (us:List Value) (vs:List V) (Q:VK) (E:XK),b9 k A→qw P w K mg base A outer s H→BindsTo s fd args (ps.zip us)→Vals vs us→sp vs H Q E→
  codeAny (model P w) (A.mark (some (.ref e))) (.call (.ref f) args) (CR mz outer P w H s Q E) s
theorem wX.Xx{x qual:Str}{st:Stmt}{f:Addr}{fd:FuncData}{N ps:List Str}{k:Nat}{sp:Sp}(F:wX K x qual st f fd)(S:ax N ps (ak st))(len:∀vs H Q E,sp vs H Q E→vs.length=ps.length)
  (cQ:∀(e:Addr) (bj:Value) (A:Around) (outer:List Env) (s:Shared) (H:Hp) (vs:List V) (Q:VK) (E:XK),b9 k (A.deeper (envOfC qual (ak st) s.heap.objs.size f bj))→sp vs H Q E→
   ∃t,jA ((fM mz P w K mg base N qual (ak st) f bj A outer s H E).mark e) (a9 st) t∧t { nx:=fun _ H'=>Q .cn H',rt:=Q } (start N vs) H):xh P w K mg base (k+1) f fd ps sp:=by
 obtain⟨oc,od,kV,doc,pm,an,bj,ct,mw,rfl,lk,me⟩:=F.ex
 refine⟨len,fun e A outer s H args us vs Q E hr e0 hb r vn=>?_⟩
 have hl:=len _ _ _ _ vn
 have KX:K.In s.heap:=e0.mod.CC.keeps fun b o e=>(e0.bs b o e).1
 have lim:s.heap.NoLimit:=e0.mod.nolimit.keeps fun b o e=>(e0.bs b o e).1
 have z8:∀y∈ps.zip us,(ak st).names.lookup y.1=some .local∨((ak st).names.lookup y.1=some .cell∧((cellsFrom (s.heap.objs.size+1) (ak st).names []).lookup y.1).isSome=true):=fun⟨n,v⟩ hy=>by
  rcases S.par n (List.of_mem_zip hy).1 with q|q
  ·exact .inl q
  ·exact .inr ⟨q,PySem.W.cellsFrom_some _ _ _ (.inl q)⟩
 refine codeAny_call_function (A:=A.mark (some (.ref e))) hr.depth (KX _ _ lk) rfl S.co S.gen rfl (PySem.W.codeRec_of KX me) (hb _ _ _ _ ?_)
 refine wpAny_newFunctionEnv_cells S.kind z8 fun env he s1 x=>?_
 subst he
 refine⟨lim.keeps x.toInCall.keep,codeAny_func ?_⟩
 obtain⟨t,ht,hq⟩:=cQ e bj A outer s H vs Q E (hr.deeper _) vn
 have I:Inv (fM mz P w K mg base N qual (ak st) f bj A outer s H E) [] (start N vs) H s1:=pf S hr.hd e0 hl r x
 refine wpAny_mono (ht [] s1 (start N vs) H _ (I.mark e) hq) (fun fl s' hs=>?_) fun e s' hs=>False.elim hs
 have fin:∀{σ':St} {H':Hp} {v:V} {u:Value},Inv ((fM mz P w K mg base N qual (ak st) f bj A outer s H E).mark e) [] σ' H' s'→RelV v u→Q v H'→CE outer P w H s Q u s':=
  fun {σ' H' v u} J rv q=>⟨v,H',J.os,J.bare,J.base,J.bb,rv,q⟩
 cases fl with
 |ret u=>
  obtain⟨v,σ',H',J,rv,q⟩:=hs
  exact fin J rv q
 |next=>
  obtain⟨σ',H',J,q⟩:=hs
  exact fin (v:=V.cn) (u:=Value.none) J rfl q
 |brk=>
  obtain⟨_,_,_,q⟩:=hs
  exact False.elim q
 |cont=>
  obtain⟨_,_,_,q⟩:=hs
  exact False.elim q
structure Km(P:Program)(w:World)(K:PySem.W.Frag)(mg:Str→Option Value)(base:Heap)(k:Nat)(x:Str)(C HE:Addr)(ps:List Str)(sp:Sp)(f:Addr)(fd:FuncData):Prop where
 ok:xh P w K mg base k f fd ps sp
 z:PySem.W.cK K C HE f
 b:Binds K fd ps []
 g:mg x=some (.ref C)
 kp:PySem.W.keepIn K (.ref C)=true
def vD(P:Program)(w:World)(K:PySem.W.Frag)(mg:Str→Option Value)(base:Heap)(k:Nat)(x:Str)(C HE:Addr)(ps:List Str)(sp:Sp):Prop:=∃f fd,Km P w K mg base k x C HE ps sp f fd
theorem lz.Qt{x q:Str}{C HE:Addr}{st:Stmt}{N ps:List Str}{k:Nat}{sp:Sp}(D:lz K mg x C HE q st ps)(S:ax N ps (ak st))(len:∀vs H Q E,sp vs H Q E→vs.length=ps.length)
  (cQ:∀(f e:Addr) (bj:Value) (A:Around) (outer:List Env) (s:Shared) (H:Hp) (vs:List V) (Q:VK) (E:XK),b9 k (A.deeper (envOfC q (ak st) s.heap.objs.size f bj))→sp vs H Q E→
   ∃t,jA ((fM mz P w K mg base N q (ak st) f bj A outer s H E).mark e) (a9 st) t∧t { nx:=fun _ H'=>Q .cn H',rt:=Q } (start N vs) H):vD P w K mg base (k+1) x C HE ps sp:=by
 obtain⟨f,fd,F,Z,b,g,kp⟩:=D
 exact⟨f,fd,F.Xx S len (cQ f),Z,b,g,kp⟩
end
end L2
namespace L2
open PySem PySem.Spec PyProof.Rows
variable [gy]
section
variable {X Y:Cx}{k:Nat}{f C:Addr}{fd:FuncData}{ps:List Str}{sp:Sp}{ER:St→XK}{x:Str}{p pos:Pos}{e:Expr}{es:List Expr}{t:TA}{A0:Around}{e':Addr}
theorem yA{HE:Addr}{pins:List (Addr×Obj)}{σ:St}{H:Hp}{s:Shared}{Q:VK}{us:List Value}{vs:List V}(hA:Y.A=A0.mark (some (.ref e')))(Z:PySem.W.cK Y.K C HE f)(F:xh Y.prog Y.w Y.K Y.mg Y.base k f fd ps sp)(hr:b9 (k+1) A0)(hb:Binds Y.K fd ps [])
  (I:Inv Y pins σ H s) (r:Vals vs us) (hz:vs.length≤100) (h:∀x,H x=none→sp (.ref x::vs) (upd H x (oI x C none)) (fun v H2=>v= .cn∧Q (.ref x) H2) E0):
  wpAny (model Y.prog Y.w) Y.A (call (.ref C) us) (EP Y pins σ Q) Y.xe s:=by
 have hq:=h (s.heap.objs.size+1) (I.bb.fresh (Nat.le_succ _))
 have e2:((s.heap.push (PySem.W.jm us)).push (PySem.W.iH C s.heap.objs.size)).get? (s.heap.objs.size+1)=some (PySem.W.iH C s.heap.objs.size):=by
  have:=Heap.get?_push_size (s.heap.push (PySem.W.jm us)) (o:=PySem.W.iH C s.heap.objs.size) rfl
  rwa [Heap.size_push] at this
 have I2:Inv Y pins σ (upd H (s.heap.objs.size+1) (oI (s.heap.objs.size+1) C none)) { s with heap:=(s.heap.push (PySem.W.jm us)).push (PySem.W.iH C s.heap.objs.size) }:=
  I.laid (a:=s.heap.objs.size+1) (t':=s.toks) (fun b u q=>Heap.get?_push_of_some _ (Heap.get?_push_of_some _ q)) (Nat.le_succ _) (xc e2 rfl rfl rfl rfl ⟨rfl,rfl⟩)
 have r2:Vals (V.ref (s.heap.objs.size+1)::vs) (Value.ref (s.heap.objs.size+1)::us):= .cons rfl r
 have hl:(Value.ref (s.heap.objs.size+1)::us++[]).length=ps.length:=by
  have e:=r2.length
  rw[F.len _ _ _ _ hq] at e
  rw[List.append_nil]
  exact e.symm
 have Ke:us.length≤sizeLine:=by
  rw[←r.length]
  exact Nat.le_trans hz (by rw[sizeLine_eq];decide)
 have Dp:=hb { s with heap:=(s.heap.push (PySem.W.jm us)).push (PySem.W.iH C s.heap.objs.size) } (Value.ref (s.heap.objs.size+1)::us) I2.fN hl
 rw[List.append_nil] at Dp
 have e0:=I2.z5
 rw[hA] at e0 ⊢
 have Xy:qw Y.prog Y.w Y.K Y.mg Y.base A0 Y.stack { s with heap:=(s.heap.push (PySem.W.jm us)).push (PySem.W.iH C s.heap.objs.size) } (upd H (s.heap.objs.size+1) (oI (s.heap.objs.size+1) C none)):=⟨e0.frames,e0.mod,e0.bs,e0.wJ,e0.ir,e0.zv,e0.bb,e0.bare⟩
 refine wpAny_call (PySem.W.w6 I.fN Z Ke (codeAny_mono (F.run e' (A0.under (.builtin "type.__call__" ⟨.ref C::us,[]⟩)) Y.stack _ _ ⟨Value.ref (s.heap.objs.size+1)::us,[]⟩ (Value.ref (s.heap.objs.size+1)::us) _ _ E0 (hr.make C us []) (Xy.make C us []) Dp r2 hq) fun r s' iC=>?_))
 cases r with
 |error e=>exact False.elim iC
 |ok fl=>
  cases fl with
  |ret u=>
   obtain⟨v,H',I3,rv,ev,q3⟩:=I2.after iC
   subst ev
   exact⟨rv,⟨V.ref (s.heap.objs.size+1),H',I3,rfl,q3⟩⟩
  |next=>exact False.elim iC
  |brk=>exact False.elim iC
  |cont=>exact False.elim iC
theorem Az{HE:Addr}(hA:Y.A=A0.mark (some (.ref e')))(Z:PySem.W.cK Y.K C HE f)(F:xh Y.prog Y.w Y.K Y.mg Y.base k f fd ps sp)(hr:b9 (k+1) A0)(hg:Gl Y x)(hm:Y.mg x=some (.ref C))(hk:PySem.W.keepIn Y.K (.ref C)=true)(hb:Binds Y.K fd ps [])
  (ha:PA Y (e::es) t) (yf:(x==("__debug__" :Str))=false:=by decide) (he:starEach (e::es) Y.env=(false,eval e Y.env)::starEach es Y.env:=by rfl) (k7:(backTo pos (starEach es Y.env)).any (·.1)=false:=by rfl):
  PE Y (.Call (.Name x p) (e::es) [] pos) (Au C sp t):=by
 intro pins s σ H Q I h
 refine wpAny_Call_Name_kw (eU I hg hm ?_ yf)
 refine PySem.W.callWith_K (h₀:=Y.base) I.ok.mod.CC hk (bL (ha pos pins s σ H _ I h) fun us s1 ⟨vs,H1,I1,r,q⟩=>⟨I1.fN,?_⟩) he k7
 exact yA hA Z F hr hb I1 r q.1 q.2
def xi(K:PySem.W.Frag)(e':Addr)(te:TE)(ER:St→XK):TS:=fun _ σ H=>te σ H fun v H1=>∃e C HE f dx C' cZ,v= .ref e∧PySem.W.cK K C HE f∧H1 e=some (oI e C dx)∧gy.sW C∧e≠e'∧H1 e'=some (pD e' C' cZ)∧¬gy.sW C'∧ER σ (.ref C) dx (upd H1 e (pD e C dx))
theorem yB{ex:Expr}{te:TE}{cj:Nat}{cp:Pos}(hA:Y.A.handled=some (.ref e'))(L:Lets Y ER)(he:PE Y ex te):PS Y (.Raise (some ex) (some (.Constant .none cj cp)) pos) (xi Y.K e' te ER):=by
 intro pins s σ H D I h
 rw[arm_exec_Raise]
 refine wpAny_bind (wpAny_standAt (PySem.W.yz (K:=Y.K) hA (wpAny_bind (bL (he pins s σ H _ I h) fun u s1 ⟨v,H1,I1,rv,e,C,HE,f,dx,C',cZ,ev,Z,hx,lC,ne,Ov,nl,q⟩=>wpAny_bind (wpAny_standAt (wpAny_pure ?_))))))
 subst ev
 obtain rfl:u=Value.ref e:=rv
 refine wpAny_bind (bL (gQ (X:=Y) (j:=cj) (pos:=cp) pins s1 σ H1 (fun w H2=>w= .cn∧H2=H1) I1 ⟨rfl,rfl⟩) fun u2 s2 ⟨w2,H2,I2,Xz,ew,eH⟩=>wpAny_bind (wpAny_standAt (wpAny_pure ?_)))
 subst ew eH
 obtain⟨o,vs,h1,h2,h3,h4,h5,h6⟩:=nF I2.bb hx
 obtain⟨o',yu,g1,g2,g3,g4,g5⟩:=vA I2.bb Ov
 refine⟨Xz,e,o,vs,C,HE,f,o',yu,rfl,ne,I2.fN,Z,h1,h2,h4,h5,h6.2,g1,g4,g5.resolve_right nl,fun h' k1 k2 k3=>L _ _ ⟨e,C,dx,σ,_,none,rfl,?_,ag,⟨⟨_,_,k1,rfl,?_⟩,fun T z=>by cases z⟩,fun T z=>(by cases z),q⟩⟩
 ·have J:=I2.sX.write (x:=e) (e:=e) (o:=pD e C dx) (h':=h') (t':=s2.toks) (by rw[hx];exact True.intro) (.inl rfl) (fun b u be q=>k2 b u be q) ⟨_,k1⟩ (xb k1 h2 h3 rfl (.inr lC))
  exact J
 ·rw[Array.getElem?_setIfInBounds_ne (by decide),Array.getElem?_setIfInBounds_ne (by decide),Array.getElem?_setIfInBounds_ne (by decide)]
  exact h5
theorem vE(K:PySem.W.Frag)(hK:Y.K=K){ex:Expr}{te:TE}{cj:Nat}{cp:Pos}(hA:Y.A.handled=some (.ref e'))(L:Lets Y ER)(he:PE Y ex te):PS Y (.Raise (some ex) (some (.Constant .none cj cp)) pos) (xi K e' te ER):=by
 subst hK
 exact yB hA L he
end
section
variable {X:Cx}{pins:List (Addr×Obj)}{σ:St}{H:Hp}{s:Shared}{ER:St→XK}
def VR(e C:Addr)(dx:Option Addr)(p:Array Value→Prop):HO:= .ext fun h=>∃o vs,h.get? e=some o∧o.cls= .ref C∧o.dict=dx∧o.data= .fields vs∧p vs
theorem Kn{P:Program}{w:World}{h:Heap}{e C:Addr}{od:Option Addr}{o:Obj}{vs:Array Value}{p:Array Value→Prop}(he:h.get? e=some o)(hc:o.cls= .ref C)(hd:o.dict=od)(hf:o.data= .fields vs)(hp:p vs):bT P w H h e (VR e C od p):=
 ⟨⟨o,vs,he,hc,hd,hf,hp⟩,⟨o,he⟩,fun _ _ ⟨o,vs,a,b⟩ k=>⟨o,vs,k _ a,b⟩⟩
theorem vF{i:Nat}{n:Str}{pos:Pos}{Q:Unit→Shared→Prop}{A:Around}{E:Value→Shared→Prop}{e C T:Addr}{dx:Option Addr}(I:Inv X [] σ H s)(he:H e=some (pD e C dx))(fl:s.heap.jJ e (some T))(hT:H T=none)(nT:gA X T)(hN:X.N.Nodup)(hi:X.N[i]? =some n)(hl:X.env.scope.names.lookup n=some .local)
  (k:∀s',Inv X [] (σ.set i none) H s'→s'.heap.jJ e (some T)→Q () s'):wpAny (model X.prog X.w) A (do bindName X.env n .none;unbindBehindTheSuite X.env n pos) Q E s:=by
 obtain⟨o,vs,h1,h2,h3,h4,h5⟩:=vA I.bb he
 obtain⟨oe,Zt,f1,f2,f3⟩:=fl.ex
 rw[h1] at f1
 cases f1
 rw[h4] at f2
 cases f2
 obtain⟨neT,oT,ts,t1,t2,t3⟩:=fl.tr T rfl
 have J:=I.write (x:=e) (e:=e) (o:=VR e C dx fun vs=>vs[1]? =some (.ref T)∧(vs[2]? =some .none∨gy.sW C)) (h':=s.heap) (t':=s.toks) (by rw[he];exact True.intro) (.inl rfl) (fun _ _ _ q=>q) ⟨o,h1⟩ (Kn h1 h2 h3 h4 ⟨f3,h5⟩)
 have J2:=J.mr (pins':=[(T,oT)]) fun p hp=>by
  have ep:p=(T,oT):=by simpa using hp
  subst ep
  refine⟨t1,by rw[aj neT];exact hT,nT.loc,fun z=>?_,fun v z=>by rw[t2] at z;cases z⟩
  obtain⟨_,ob,q,nf⟩:=I.ok.ir.mem z
  exact absurd (Heap.lt_size q) (Nat.not_lt.mpr nT.above)
 refine name_goes J2 hN hi hl fun s' J3=>?_
 obtain⟨o',yu,g1,g2,g3,g4,g5,g6⟩:=(J3.bb e _ ag).1
 have pT:=(J3.pin (T,oT) (by simp)).1
 refine k s' ?_ ⟨⟨o',yu,g1,g4,g5⟩,fun T' z=>?_⟩
 ·have J4:=J3.sX.write (x:=e) (e:=e) (o:=pD e C dx) (h':=s'.heap) (t':=s'.toks) (by rw[ag];exact True.intro) (.inl rfl) (fun _ _ _ q=>q) ⟨o',g1⟩ (xb g1 g2 g3 g4 g6)
  rw[Cy,Av he] at J4
  exact J4
 ·cases z
  exact⟨neT,oT,ts,pT,t2,t3⟩
def E7(K:PySem.W.Frag)(PC:Addr)(i:Nat)(ts:Addr→TS)(tr:Ends→St→XK):Ends→St→XK:=fun D σ cv dx H=>
 ∃C HE f b,cv= .ref C∧PySem.W.cK K C HE f∧PySem.W.mroIn K C (.ref PC)=some b∧
  if b=true then∀e,H e=some (pD e C dx)→ts e { D with nx:=fun σ1 H1=>D.nx (σ1.set i none) H1,bk:=fun σ1 H1=>D.bk (σ1.set i none) H1,ct:=fun σ1 H1=>D.ct (σ1.set i none) H1 } (σ.set i (some (.ref e))) H else tr D σ cv dx H
theorem GU{x n:Str}{np pos:Pos}{b0:Stmt}{iI:List Stmt}{rest:List ExceptHandler}{PC:Addr}{i:Nat}{ts:Addr→TS}{tr:Ends→St→XK}(fm:yv X)(L:Lets X ER)(hg:Gl X x)(hm:X.mg x=some (.ref PC))(Y:PySem.W.qP X.K PC)(hN:X.N.Nodup)(hi:X.N[i]? =some n)
  (hl:X.env.scope.names.lookup n=some .local) (GR:∀e,jA ((X.mark e).gp (fQ (X.mark e) fun σ1=>ER (σ1.set i none))) (b0::iI) (ts e)) (hr:PH X rest tr) (hd:(x==("__debug__" :Str))=false:=by decide):
  PH X (.ExceptHandler (some (.Name x np)) (some n) (b0::iI) pos::rest) (E7 X.K PC i ts tr):=by
 intro s σ H D e C dx T I he fl hT nT hE
 obtain⟨C',HE,f,b,ec,Z,mb,hE⟩:=hE
 cases ec
 obtain⟨o,vs,o1,o2,o3,o4⟩:=vz I.bb he
 have ht:∀T',some T=some T'→H T'=none∧gA X T':=fun T' z=>by cases z;exact⟨hT,nT⟩
 refine wpAny_handleBy_cons (codeAny_handlers_test (eU (X:=X.mark e) (I.mark e) hg hm (PySem.W.nI I.fN Z Y o1 o2 mb ?_) hd)) (by intro z;cases z)
 cases b with
 |false=>exact hr s σ H D e C dx T I he fl hT nT hE
 |true=>
  have hE:=hE e he
  refine codeAny_handlers_suite_as (d5 fl fun h1 a m=>?_)
  have I1:=I.moved he ht (m.mono fun _ z=>absurd z (by simp))
  refine store_ok I1 hN hi (.inl hl) (v:= .ref e) rfl (fun s2 I2=>?_) (.inr hl)
  refine wpAny_mono (GR e [] s2 _ H _ ((I2.mark e).gp _) hE) (fun f s3 q=>?_) fun v s3 z=>?_
  ·have q:=q.cP
   cases f with
   |next=>
    obtain⟨σ',H',I3,q⟩:=q
    exact name_goes (I3.unmark I.ok) hN hi hl fun s4 I4=>⟨_,H',I4,q⟩
   |brk=>
    obtain⟨σ',H',I3,q⟩:=q
    exact name_goes (I3.unmark I.ok) hN hi hl fun s4 I4=>⟨_,H',I4,q⟩
   |cont=>
    obtain⟨σ',H',I3,q⟩:=q
    exact name_goes (I3.unmark I.ok) hN hi hl fun s4 I4=>⟨_,H',I4,q⟩
   |ret u=>
    obtain⟨v,σ',H',I3,r,q⟩:=q
    exact name_goes (I3.unmark I.ok) hN hi hl fun s4 I4=>⟨v,_,H',I4,r,q⟩
  ·obtain⟨e2,C2,jL,σ2,H2,tb,ev,J,IW,XA,VS,Qu⟩:=z
   subst ev
   obtain⟨fr,ff⟩:=gD (X:=X.mark e) fm J
   refine ka fr ff fm.2 XA fun h3 T3 a3 b3 m3=>?_
   have XB:Heap.Moved (oC (X.mark e).stack) e2 tb s3.heap h3:=by unfold oC;rw[show (X.mark e).stack=X.env::X.outer from fm.1];exact m3
   have J3:=J.moved IW VS XB
   have t3:=nH J VS b3
   refine vF (X:=X.mark e) (s:={ s3 with heap:=h3 }) J3 IW a3 (t3 T3 rfl).1 (t3 T3 rfl).2 hN hi hl fun s4 J4 VT=>?_
   unfold PySem.passOn
   obtain⟨oe,ws,q1,q2,q3⟩:=id VT.ex
   refine wpAny_bind (wpAny_field q1 q2 q3 ?_)
   rw[if_neg (by simp)]
   refine wpAny_bind (d5 VT fun h5 a5 m5=>wpAny_throw ?_)
   have J5:=J4.moved IW t3 (m5.mono fun _ z=>absurd z (by simp))
   obtain⟨Pk,XC⟩:=gD (X:=X.mark e) fm J5
   refine ka (s:={ s4 with heap:=h5 }) Pk XC fm.2 a5 fun h6 T6 a6 b6 m6=>?_
   have XD:Heap.Moved (oC (X.mark e).stack) e2 (some T3) h5 h6:=by unfold oC;rw[show (X.mark e).stack=X.env::X.outer from fm.1];exact m6
   have J6:=J5.moved IW t3 XD
   have t6:=nH J5 t3 b6
   refine w5 (s:={ s4 with heap:=h6 }) a6 fun h7 a7 m7=>?_
   have J7:=J6.moved IW t6 (m7.mono fun _ z=>absurd z (by simp))
   exact L _ _ ⟨e2,C2,jL,_,H2,some T6,rfl,J7.unmark I.ok,IW,a7,fun T' z=>⟨(t6 T' z).1,(t6 T' z).2.above,(t6 T' z).2.loc,(t6 T' z).2.cell,(t6 T' z).2.pn⟩,Qu⟩
theorem Ds(K:PySem.W.Frag)(hK:X.K=K){x n:Str}{np pos:Pos}{b0:Stmt}{iI:List Stmt}{rest:List ExceptHandler}{PC:Addr}{i:Nat}{ts:Addr→TS}{tr:Ends→St→XK}(fm:yv X)(L:Lets X ER)(hg:Gl X x)(hm:X.mg x=some (.ref PC))(Y:PySem.W.qP K PC)(hN:X.N.Nodup)(hi:X.N[i]? =some n)
  (hl:X.env.scope.names.lookup n=some .local) (GR:∀e,jA ((X.mark e).gp (fQ (X.mark e) fun σ1=>ER (σ1.set i none))) (b0::iI) (ts e)) (hr:PH X rest tr) (hd:(x==("__debug__" :Str))=false:=by decide):
  PH X (.ExceptHandler (some (.Name x np)) (some n) (b0::iI) pos::rest) (E7 K PC i ts tr):=by
 subst hK
 exact GU fm L hg hm Y hN hi hl GR hr hd
end
instance (priority:=low) OD:gy:=⟨fun _=>True⟩
end L2
set_option maxHeartbeats 4000000
namespace Qv
open PySem L2
def top(i:Nat):Stmt:=PySem.Challenge.pw_balancehall_k45_whole_change_texts_by_si.main.body.getD i (.Pass ⟨0,0,0,0⟩)
abbrev qR:Stmt:=inClass (top 3) 0
abbrev Dt:Stmt:=inClass (top 4) 0
abbrev Du:Stmt:=inClass (top 5) 0
abbrev qS:Stmt:=inClass (top 6) 0
abbrev qT:Stmt:=top 14
abbrev qU:Stmt:=top 15
abbrev mE:Stmt:=top 16
abbrev fR:Stmt:=top 17
abbrev iY:Stmt:=top 19
abbrev gH:Stmt:=inClass (top 21) 0
abbrev qV:Stmt:=inClass (top 21) 1
abbrev d6:Stmt:=inClass (top 22) 0
abbrev iZ:Stmt:=inClass (top 22) 1
abbrev d7:Stmt:=inClass (top 23) 0
abbrev fS:Stmt:=inClass (top 23) 1
abbrev kg:Stmt:=top 30
abbrev eX:Stmt:=top 31
abbrev d8:Stmt:=inClass (top 32) 0
abbrev kh:Stmt:=inClass (top 32) 1
abbrev qW:Stmt:=inClass (top 33) 0
abbrev xj:Stmt:=inClass (top 33) 1
abbrev xk:Stmt:=inClass (top 33) 2
abbrev ki:Stmt:=inClass (top 33) 3
abbrev mF:Stmt:=inClass (top 33) 5
abbrev gX:Stmt:=inClass (top 33) 6
abbrev kj:Stmt:=inClass (top 33) 7
abbrev nL:Stmt:=inClass (top 33) 8
abbrev i0:Stmt:=inClass (top 33) 9
abbrev qX:Stmt:=inClass (top 33) 10
abbrev mG:Stmt:=inClass (top 33) 11
abbrev km:Stmt:=inClass (top 33) 12
abbrev kn:Stmt:=inClass (top 33) 13
abbrev gY:Stmt:=top 40
abbrev fA:Stmt:=top 41
abbrev qY:Stmt:=inClass (top 42) 0
abbrev mH:Stmt:=inClass (top 42) 1
abbrev qZ:Stmt:=inClass (top 43) 0
abbrev mI:Stmt:=inClass (top 43) 1
abbrev ko:Stmt:=inClass (top 43) 2
abbrev mJ:Stmt:=inClass (top 43) 3
abbrev kq:Stmt:=top 44
abbrev mK:Stmt:=top 46
abbrev q0:Stmt:=top 47
abbrev xm:Stmt:=top 48
abbrev q9:Stmt:=top 49
abbrev xn:Stmt:=top 50
abbrev rf:Stmt:=top 51
abbrev kr:Stmt:=top 52
abbrev ku:Stmt:=top 53
abbrev i4:Stmt:=top 54
abbrev sTerms:Stmt:=top 55
abbrev xo:Stmt:=top 56
abbrev mL:Stmt:=top 57
abbrev lA:Stmt:=top 58
abbrev kx:Stmt:=top 59
abbrev mM:Stmt:=top 60
abbrev rh:Stmt:=top 61
abbrev i5:Stmt:=top 62
abbrev xp:Stmt:=top 63
abbrev ri:Stmt:=top 64
abbrev rj:Stmt:=top 65
theorem XE:¬(("kind" :Str)="count"):=by decide+kernel
def tp(k:Str)(n:Int):List (Str×V):=df "count" (.int n) (df "kind" (.str k) [])
theorem yC(k:Str)(n:Int):(tp k n).lookup ("kind" :Str)=some (.str k):=by
 unfold tp
 rw[aL,if_neg XE,aL,if_pos rfl]
theorem vG(k:Str)(n:Int):(tp k n).lookup ("count" :Str)=some (.int n):=by
 unfold tp
 rw[aL,if_pos rfl]
theorem Dv(k:Str)(n:Int){m:Str}(h1:¬m="count")(h2:¬m="kind"):(tp k n).lookup m=none:=by
 unfold tp
 rw[aL,if_neg h1,aL,if_neg h2]
 all_goals rfl
def fB(C:Addr)(H:Hp)(p:Addr)(k:Str)(n:Int):Prop:=∃dx,H p=some (.ins C dx (tp k n))
theorem fB.same{C:Addr}{H H':Hp}{p:Addr}{k:Str}{n:Int}(a:fB C H p k n)(e:ay H H'):fB C H' p k n:=let ⟨dx,h⟩:=a;⟨dx,e _ _ h⟩
def gg(kvs:List (Key×V)):Prop:=∀p∈kvs,∃i,p.2=V.int i
def sh(kvs:List (Key×V))(k:Key):Int:=match cN kvs k with
 |some (.int i)=>i
 |_=>0
theorem nM{kvs:List (Key×V)}{k:Key}(h:cN kvs k=none):sh kvs k=0:=by unfold sh;rw[h]
theorem tq{kvs:List (Key×V)}{k:Key}{i:Int}(h:cN kvs k=some (.int i)):sh kvs k=i:=by unfold sh;rw[h]
def iu(kvs:List (Key×V))(k:Key)(n:Int):List (Key×V):=putK kvs k (.int (sh kvs k+n))
def eG(t:Int)(acc:List (Key×V))(as:List (Str×Int)):List (Key×V):=as.foldl (fun acc p=>iu acc (Sum.inr p.1) (p.2*t)) acc
def yD(c:Int):V→V
 | .int i=> .int (i*c)
 |v=>v
def scale(c:Int)(kvs:List (Key×V)):List (Key×V):=kvs.map fun p=>(p.1,yD c p.2)
theorem yE{kvs:List (Key×V)}{k:Key}{v:V}(e:cN kvs k=some v):(k,v)∈kvs:=by
 unfold cN at e
 cases f:kvs.find? fun kv=>decide (kv.1=k) with
 |none=>rw[f] at e;cases e
 |some p=>
  rw[f] at e
  cases e
  have h1:=List.mem_of_find?_eq_some f
  have h2:p.1=k:=by simpa using List.find?_some f
  rw[←h2];exact h1
theorem gg.look{kvs:List (Key×V)}(h:gg kvs){k:Key}{v:V}(e:cN kvs k=some v):v= .int (sh kvs k):=by
 obtain⟨i,hi⟩:=h _ (yE e)
 have hi:v= .int i:=hi
 subst hi
 rw[tq e]
theorem gg.at{kvs:List (Key×V)}(h:gg kvs)(k:Key):(cN kvs k).getD (.int 0)= .int (sh kvs k):=by
 cases e:cN kvs k with
 |none=>rw[nM e];rfl
 |some v=>rw[h.look e];rfl
theorem GV{kvs:List (Key×V)}{k:Key}{v:V}(h:(kvs.map (·.1)).Nodup):((putK kvs k v).map (·.1)).Nodup:=by
 cases e:cN kvs k with
 |none=>exact CW v h e
 |some x=>
  have ha:(kvs.any fun kv=>decide (kv.1=k))=true:=by rw[gw,e];rfl
  unfold putK
  rw[if_pos ha,List.map_map]
  have:((fun (x:Key×V)=>x.1)∘fun kv=>if kv.1=k then (kv.1,v) else kv)=fun (x:Key×V)=>x.1:=by
   funext y
   simp only [Function.comp]
   split<;>rfl
  rw[this]
  exact h
theorem lB(c:Int)(k:Key):∀kvs:List (Key×V),cN (scale c kvs) k=(cN kvs k).map (yD c)
 | []=>rfl
 |p::r=>by
  have ih:=lB c k r
  show cN ((p.1,yD c p.2)::scale c r) k=_
  by_cases e:p.1=k
  ·refine(gu (p:=(p.1,yD c p.2)) (r:=scale c r) e).trans ?_
   rw[gu e]
   rfl
  ·refine(gv (p:=(p.1,yD c p.2)) (r:=scale c r) e).trans ?_
   rw[gv e]
   exact ih
theorem yF(c:Int)(kvs:List (Key×V))(k:Key)(i:Int):scale c (putK kvs k (.int i))=putK (scale c kvs) k (.int (i*c)):=by
 have ha:((scale c kvs).any fun kv=>decide (kv.1=k))=kvs.any fun kv=>decide (kv.1=k):=by
  unfold scale
  rw[List.any_map];rfl
 unfold putK
 rw[ha]
 split
 ·unfold scale
  rw[List.map_map,List.map_map]
  apply List.map_congr_left
  intro p _
  simp only [Function.comp]
  split<;>rfl
 ·unfold scale
  rw[List.map_append];rfl
theorem yG{kvs:List (Key×V)}(h:gg kvs)(c:Int)(k:Key):sh (scale c kvs) k=sh kvs k*c:=by
 cases e:cN kvs k with
 |none=>rw[nM e,nM (by rw[lB,e];rfl),Int.zero_mul]
 |some v=>
  have:=h.look e
  subst this
  exact tq (by rw[lB,e];rfl)
theorem gg.put{kvs:List (Key×V)}(h:gg kvs)(k:Key)(i:Int):gg (putK kvs k (.int i)):=by
 intro p hp
 unfold putK at hp
 split at hp
 ·obtain⟨q,hq,e⟩:=List.mem_map.mp hp
  subst e
  split
  ·exact⟨i,rfl⟩
  ·exact h q hq
 ·rcases List.mem_append.mp hp with hq|hq
  ·exact h p hq
  ·have e:p=(k,V.int i):=by simpa using hq
   exact⟨i,by rw[e]⟩
theorem yH{kvs:List (Key×V)}(h:gg kvs)(c:Int)(k:Key)(n:Int):scale c (iu kvs k n)=iu (scale c kvs) k (n*c):=by
 unfold iu
 rw[yF,yG h,Int.add_mul]
theorem gg.add{kvs:List (Key×V)}(h:gg kvs)(k:Key)(n:Int):gg (iu kvs k n):=h.put k _
theorem pE(t c:Int):∀(as:List (Str×Int)) (acc:List (Key×V)),gg acc→scale c (eG t acc as)=eG (t*c) (scale c acc) as
 | [],_,_=>rfl
 |p::r,acc,h=>by
  show scale c (eG t (iu acc (Sum.inr p.1) (p.2*t)) r)=eG (t*c) (iu (scale c acc) (Sum.inr p.1) (p.2*(t*c))) r
  rw[pE t c r _ (h.add _ _),yH h,Int.mul_assoc]
theorem mN(t:Int):∀(as:List (Str×Int)) (acc:List (Key×V)),gg acc→gg (eG t acc as)
 | [],_,h=>h
 |_::r,_,h=>mN t r _ (h.add _ _)
theorem AA(t:Int):∀(as:List (Str×Int)) (acc:List (Key×V)),(acc.map (·.1)).Nodup→((eG t acc as).map (·.1)).Nodup
 | [],_,h=>h
 |_::r,_,h=>AA t r _ (GV h)
theorem mO(t:Int):∀(as:List (Str×Int)) (acc:List (Key×V)),(eG t acc as).length≤acc.length+as.length
 | [],_=>Nat.le_refl _
 |p::r,acc=>by
  have:=mO t r (iu acc (Sum.inr p.1) (p.2*t))
  have h2:=eF acc (Sum.inr p.1 :Key) (.int (sh acc (Sum.inr p.1)+p.2*t))
  have e:(iu acc (Sum.inr p.1) (p.2*t)).length≤acc.length+1:=h2
  show (eG t (iu acc (Sum.inr p.1) (p.2*t)) r).length≤_
  rw[List.length_cons]
  omega
def dq(n:Int):Str:=if n=1 then "" else (toString n:Str)
theorem vH:∀n:Nat,n<1000→(dq (n:Int)).length≤3:=by decide+kernel
theorem eI{n:Int}(h:1≤n)(h':n≤999):(dq n).length≤3:=by
 have:=vH n.toNat (by omega)
 rwa [Int.toNat_of_nonneg (by omega)] at this
def jn(ys:List Str):Str:=Str.join ⟨#[]⟩ ys
theorem join_eq(ys:List Str):Txt.join "" ys=jn ys:=by
 have h:=PyProof.Rows.join_closes (sep:="") (sep':=⟨#[]⟩) (ys:=ys) (by decide+kernel)
 unfold jn
 simpa using h
theorem xq(x:Str)(r:List Str):jn (x::r)=x++jn r:=PyProof.Rows.join_nil_cons x r
theorem mP:∀{ys:List Str} {b:Nat},(∀y∈ys,y.length≤b)→(ys.map (·.length)).sum≤ys.length*b
 | [],_,_=>Nat.zero_le _
 |y::r,b,h=>by
  rw[List.map_cons,List.sum_cons,List.length_cons,Nat.succ_mul]
  have h1:=h y (List.mem_cons_self ..)
  have h2:=mP (ys:=r) (b:=b) fun z hz=>h z (List.mem_cons_of_mem _ hz)
  omega
theorem pF(x y z:Str):x++y++z=x++(y++z):=by
 show (⟨(x.cps++y.cps)++z.cps⟩:Str)=⟨x.cps++(y.cps++z.cps)⟩
 rw[Array.append_assoc]
theorem Qw:¬(("parts" :Str)="count"):=by decide+kernel
def ky(l:Addr)(n:Int):List (Str×V):=df "count" (.int n) (df "parts" (.ref l) [])
theorem lS(l:Addr)(n:Int):(ky l n).lookup ("parts" :Str)=some (.ref l):=by
 unfold ky
 rw[aL,if_neg Qw,aL,if_pos rfl]
theorem lT(l:Addr)(n:Int):(ky l n).lookup ("count" :Str)=some (.int n):=by
 unfold ky
 rw[aL,if_pos rfl]
theorem tw(l:Addr)(n:Int){m:Str}(h1:¬m="count")(h2:¬m="parts"):(ky l n).lookup m=none:=by
 unfold ky
 rw[aL,if_neg h1,aL,if_neg h2]
 all_goals rfl
def nN(K:PySem.W.Frag):Sp:=fun vs H Q _=>∃(a:Addr) (ns:List Int) (k:Nat),vs=[.ref a, .int k]∧cz K H a (ns.map V.int)∧ns.length≤63∧∀n,Q (.int n) H
def jM:List Int:=[999979,999983,1000003,1000033,1000037,1000081,1000099]
def mQ:Sp:=fun vs H Q _=>∃(c p:Int) (j:Nat),vs=[.int c, .int p]∧j<7∧jM[j]? =some p∧∀n H',ay H H'→Q (.int n) H'
def xr:Sp:=fun vs H Q _=>∃i:Int,vs=[.int i]∧Q (.bl true) H
def gZ:Sp:=fun vs H Q _=>∃n:Int,vs=[.int n]∧1≤n∧n≤999∧Q (.str (dq n)) H
def AB(C:Addr):Sp:=fun vs H Q _=>∃(p dx:Addr) (k:Str) (n:Int),vs=[.ref p, .str k, .int n]∧H p=some (.ins C dx [])∧∀H',H' p=some (.ins C dx (tp k n))→(∀b o,H b=some o→b≠p→H' b=some o)→Q .cn H'
def rl(C:Addr):Sp:=fun vs H Q _=>∃(p:Addr) (k:Str) (n:Int),vs=[.ref p]∧fB C H p k n∧k.length≤3∧1≤n∧n≤999∧Q (.str (k++dq n)) H
structure jN(K:PySem.W.Frag)(mg:Str→Option Value)(C:Addr):Prop where
 g7:r8 K C
 xt:cD K C "kind"
 tD:cD K C "count"
 GW:mg "Atom" =some (.ref C)
 gI:mg "len" =none
 tE:mg "str" =none
 pG:mg "int" =none
 GX:mg "bool" =none
 fT:mg "range" =none
 g8:mg "isinstance" =none
 k1:PySem.W.kitOne K (.type "int") (.type "int")=some true
 k2:PySem.W.kitOne K (.type "int") (.type "bool")=some false
 k3:PySem.W.kitOne K (.type "dict") (.type "dict")=some true
 k4:PySem.W.kitOne K (.type "str") (.type "str")=some true
 k6:PySem.W.kitOne K (.type "list") (.type "list")=some true
theorem eo{x y:Str}(h:x.cps.toList=y.cps.toList):x=y:=by
 cases x;cases y
 congr 1
 exact Array.toList_inj.mp h
theorem Dw(a b n:Nat):Builtin.Str.strSliceIndices (some (a:Int)) (some (b:Int)) 1 n=Builtin.Str.strSliceIndices (some (a:Int)) (some ((min b n:Nat):Int)) 1 n:=by
 have h2:¬((b:Int) <0):=by omega
 have h3:¬(((min b n:Nat):Int) <0):=by omega
 have e2:max (0 :Int) (min (b:Int) (n:Int))=max (0 :Int) (min ((min b n:Nat):Int) (n:Int)):=by omega
 simp only [Builtin.Str.strSliceIndices,h2,h3,if_false,e2,show ((1 :Int) >0)=True from by simp,if_true]
theorem fj(x:Str){a b:Nat}(Kc:a≤b)(ha:a≤x.length):(Txt.slice x (some (a:Int)) (some (b:Int))).cps.toList=(x.cps.toList.drop a).take (b - a):=by
 have hm:a≤min b x.length:=by omega
 have hb:min b x.length≤x.length:=by omega
 have h1:=StrLaws.sliced_plain x hm hb
 have h2:=StrLaws.strSliceIndices_plain hm hb
 have hl:x.cps.toList.length=x.length:=by simp [Str.length]
 unfold Txt.slice
 rw[Dw]
 split
 ·rename_i h
  have h:(Builtin.Str.strSliceIndices (some (a:Int)) (some ((min b x.length:Nat):Int)) 1 x.length).length=x.length:=by simpa using h
  rw[h2,List.length_map,List.length_range] at h
  by_cases hz:x.length=0
  ·have:x.cps.toList=[]:=List.length_eq_zero_iff.mp (by omega)
   rw[this];simp
  ·have e:a=0:=by omega
   subst e
   rw[List.drop_zero,List.take_of_length_le (by omega)]
 ·show (List.filterMap _ _).toArray.toList=_
  rw[h1,List.take_eq_take_iff,List.length_drop,hl]
  omega
def eY(x:Str)(p:Nat):Str:=⟨((x.cps.toList.drop p).take 1).toArray⟩
theorem pH(x:Str){p:Nat}(hp:p≤x.length):Txt.slice x (some (p:Int)) (some ((p:Int)+1))=eY x p:=by
 apply eo
 have:=fj x (a:=p) (b:=p+1) (by omega) hp
 rw[Nat.add_sub_cancel_left] at this
 exact this
def inR(lo hi:Nat)(s:Str):Bool:=match s.cps.toList with
 | [c]=>decide (lo≤c)&&decide (c≤hi)
 |_=>false
theorem GY(lo:Nat)(s:Str)(h:s.cps.toList.length≤1):(!decide (s.cps.toList< [lo]))=(match s.cps.toList with| [c]=>decide (lo≤c) |_=>false):=by
 match hh:s.cps.toList,h with
 | [],_=>simp
 | [c],_=>
   have:([c] < [lo])↔c<lo:=by simp [List.cons_lt_cons_iff]
   by_cases hc:c<lo
   ·rw[decide_eq_true (this.mpr hc)];simp;omega
   ·rw[decide_eq_false (fun z=>hc (this.mp z))];simp;omega
 |_::_::_,h=>simp at h
theorem GZ(hi:Nat)(s:Str)(h:s.cps.toList.length≤1):(!decide ([hi] <s.cps.toList))=(match s.cps.toList with| [c]=>decide (c≤hi) |_=>true):=by
 match hh:s.cps.toList,h with
 | [],_=>simp
 | [c],_=>
   have:([hi] < [c])↔hi<c:=by simp [List.cons_lt_cons_iff]
   by_cases hc:hi<c
   ·rw[decide_eq_true (this.mpr hc)];simp;omega
   ·rw[decide_eq_false (fun z=>hc (this.mp z))];simp;omega
 |_::_::_,h=>simp at h
theorem kz(x:Str)(p:Nat):(eY x p).cps.toList.length≤1:=by
 unfold eY
 simp
 omega
def Not(f:Nat→Bool)(l:List Nat):Prop:=∀c,l.head? =some c→f c=false
def d9(c:Nat):Bool:=decide (48≤c)&&decide (c≤57)
def jq(c:Nat):Bool:=decide (97≤c)&&decide (c≤122)
def iy(c:Nat):Bool:=decide (65≤c)&&decide (c≤90)
def bw(n:Int):List Nat:=(dq n).cps.toList
theorem g9:bw 1=[]:=by decide+kernel
theorem fD{n:Nat}(h:n≠1):bw (n:Int)=(Nat.toDigits 10 n).map Char.toNat:=by
 unfold bw dq
 rw[if_neg (by omega)]
 exact PySem.W.KIN.signs_num n
theorem fU(n:Nat):(bw (n:Int)).all d9=true:=by
 by_cases h:n=1
 ·subst h;rw[show ((1 :Nat):Int)=1 from rfl,g9];rfl
 ·rw[fD h,List.all_eq_true]
  intro c hc
  obtain⟨ch,zw,e⟩:=List.mem_map.mp hc
  have r:=PyProof.Rows.digit_range (Nat.isDigit_of_mem_toDigits (by decide) (by decide) zw)
  rw[←e]
  simp only [d9,Bool.and_eq_true,decide_eq_true_eq]
  exact r
theorem AD(n:Nat):Nat.toDigits 10 n≠[]:=by
 intro e
 have h:=PySem.toDigits_len_ge 10 n
 rw[e] at h
 exact absurd h (by decide)
theorem AE:∀n:Nat,n≠0→(Nat.toDigits 10 n).head? ≠some '0' :=by
 intro n
 induction n using Nat.strongRecOn with
 |_ m ih=>
  intro h0
  by_cases h:m<10
  ·rw[Nat.toDigits_of_lt_base h]
   have:∀m:Nat,m<10→m≠0→[Nat.digitChar m].head? ≠some '0' :=by decide
   exact this m h h0
  ·have hm:m%10<10:=Nat.mod_lt m (by decide)
   have t:Nat.toDigits 10 (m/10)++Nat.toDigits 10 (m%10)=Nat.toDigits 10 (10*(m/10)+m%10):=Nat.toDigits_append_toDigits (by decide) (by omega) hm
   rw[Nat.div_add_mod] at t
   have:=ih (m/10) (by omega) (by omega)
   rw[←t]
   cases hh:Nat.toDigits 10 (m/10) with
   |nil=>exact absurd hh (AD _)
   |cons c r=>
    rw[hh] at this
    exact this
theorem nO(n:Nat)(h0:n≠0):(bw (n:Int)).head? ≠some 48:=by
 by_cases h:n=1
 ·subst h;rw[show ((1 :Nat):Int)=1 from rfl,g9];simp
 ·rw[fD h,List.head?_map]
  intro z
  cases e:(Nat.toDigits 10 n).head? with
  |none=>rw[e] at z;cases z
  |some c=>
   rw[e] at z
   have z:c.toNat=48:=by simpa using z
   have:c='0' :=by
    apply Char.ext
    apply UInt32.toNat_inj.mp
    exact z
   exact AE n h0 (by rw[e,this])
theorem rm(n:Nat):bw (n:Int)≠[49]:=by
 by_cases h:n=1
 ·subst h;rw[show ((1 :Nat):Int)=1 from rfl,g9];simp
 ·rw[fD h]
  intro z
  have:=PySem.W.KIN.val_back n
  rw[z] at this
  exact h this.symm
theorem Dx(n:Nat)(h:bw (n:Int)=[]):n=1:=by
 by_cases e:n=1
 ·exact e
 ·rw[fD e] at h
  exact absurd (List.map_eq_nil_iff.mp h) (AD n)
theorem lD{n:Nat}{k:Nat}(hk:0<k)(h:n<10^k):(dq (n:Int)).length≤k:=by
 unfold dq
 split
 ·exact Nat.zero_le _
 ·rw[PySem.ofString_length]
  show (Nat.repr n).length≤k
  rw[Nat.length_repr_le_iff hk]
  exact h
theorem Dy(n:Nat)(h:n<10^12)(h1:n≠1):PySem.intText? (dq (n:Int))=some (n:Int):=by
 have hd:PySem.NumText.AllDigits (dq (n:Int)).cps.toList:=by
  intro c hc
  have:=List.all_eq_true.mp (fU n) c hc
  simpa only [d9,Bool.and_eq_true,decide_eq_true_eq] using this
 have si:(dq (n:Int)).cps.toList≠[]:=fun z=>h1 (Dx n z)
 have e:=PySem.intText_digits hd si (Nat.le_trans (lD (by decide) h) (by decide))
 rw[show (dq (n:Int)).cps.toList=_ from fD h1,PySem.W.KIN.val_back] at e
 exact e
instance Qx (k:Key) (K:List Key):Decidable (k∈K):=decidable_of_iff ((K.any fun x=>decide (x=k))=true) (by simp)
theorem Qy:¬(("text" :Str)="place"):=by decide+kernel
def fE(x:Str)(p:Nat):List (Str×V):=df "place" (.int p) (df "text" (.str x) [])
theorem fF(x:Str)(p:Nat):(fE x p).lookup ("text" :Str)=some (.str x):=by
 unfold fE
 rw[aL,if_neg Qy,aL,if_pos rfl]
theorem aX(x:Str)(p:Nat):(fE x p).lookup ("place" :Str)=some (.int p):=by
 unfold fE
 rw[aL,if_pos rfl]
theorem aF(x:Str)(p:Nat){m:Str}(h1:¬m="place")(h2:¬m="text"):(fE x p).lookup m=none:=by
 unfold fE
 rw[aL,if_neg h1,aL,if_neg h2]
 all_goals rfl
theorem i6(x:Str)(p q:Nat):df "place" (.int q) (fE x p)=fE x q:=by
 unfold fE
 simp only [df,if_neg Qy,if_true]
theorem i7(x:Str)(p:Nat):(fE x p).length<1000:=by
 unfold fE
 simp only [df,if_neg Qy]
 show 2<1000
 decide
def cJ(R:Addr)(H:Hp)(r:Addr)(x:Str)(p:Nat):Prop:=∃dx,H r=some (.ins R dx (fE x p))
def Kept(r:Addr)(H H':Hp):Prop:=∀b o,H b=some o→b≠r→H' b=some o
theorem Kept.refl(r:Addr)(H:Hp):Kept r H H:=fun _ _ h _=>h
theorem Kept.trans{r:Addr}{H H' cx:Hp}(h:Kept r H H')(h':Kept r H' cx):Kept r H cx:=fun b o e n=>h' b o (h b o e n) n
theorem Kept.of{r:Addr}{H H':Hp}(h:ay H H'):Kept r H H':=fun b o e _=>h b o e
def E8(lo hi:Nat):Sp:=fun vs H Q _=>∃s:Str,vs=[.str s]∧s.cps.toList.length≤1∧Q (.bl (inR lo hi s)) H
def xu(R:Addr):Sp:=fun vs H Q _=>∃(r dx:Addr) (x:Str),vs=[.ref r, .str x]∧H r=some (.ins R dx [])∧∀H',cJ R H' r x 0→Kept r H H'→Q .cn H'
def hV(R:Addr):Sp:=fun vs H Q _=>∃(r:Addr) (x:Str) (p:Nat),vs=[.ref r]∧cJ R H r x p∧p≤x.length∧x.length≤1000∧Q (.str (eY x p)) H
def tF(k:List Nat):Prop:=∃c r,k=c::r∧iy c=true∧r.all jq=true∧r.length≤2
structure oK(K:PySem.W.Frag)(mg:Str→Option Value)(C R:Addr)(uK uN:Tok):Prop extends jN K mg C where
 av:r8 K R
 i8:cD K R "text"
 bz:cD K R "place"
 nP:mg "LONGEST_KIND" =some (.int 3 uK)
 mj:mg "LONGEST_COUNT" =some (.int 3 uN)
section
seal jA PS PE PT PW PA PG IS PI PC Gy
variable [gy]{P:Program}{w:World}{K:PySem.W.Frag}{mg:Str→Option Value}{base:Heap}{C R G Pc Fo:Addr}{uK uN uB uE uM:Tok}
theorem Dz:ax ["sign"] ["sign"] (ak qT):=dH
theorem DA:ax ["sign"] ["sign"] (ak qU):=dH
theorem AF:ax ["sign"] ["sign"] (ak mE):=dH
theorem vI(lo hi:Nat)(s:Str)(h:s.cps.toList.length≤1):(if (!decide (s.cps.toList< [lo]))=true then (!decide ([hi] <s.cps.toList)) else false)=inR lo hi s:=by
 rw[GY lo s h,GZ hi s h]
 unfold inR
 match hh:s.cps.toList,h with
 | [],_=>rfl
 | [c],_=>
   show (if decide (lo≤c)=true then decide (c≤hi) else false)=(decide (lo≤c)&&decide (c≤hi))
   cases decide (lo≤c)<;>rfl
 |_::_::_,h=>simp at h
theorem AG(D:Def K mg "is_great" "is_great" qT ["sign"]):bx P w K mg base 1 "is_great" ["sign"] (E8 65 90):=by
 refine D.fJ Dz (fun vs H Q E h=>?_) (fun f bj A outer s H vs Q E hr h=>?_)
 ·obtain⟨n,rfl,_⟩:=h
  rfl
 ·obtain⟨x,rfl,hl,q⟩:=h
  refine⟨_,(aq
     (az (m9 fh fh aw (pv 0) aw))),?_⟩
  rw[←vI 65 90 x hl] at q
  have e1:("A" :Str).cps.toList=[65]:=by decide+kernel
  have e2:("Z" :Str).cps.toList=[90]:=by decide+kernel
  refine⟨_,rfl,_,_,rfl,rfl,_,rfl,?_⟩
  rw[e1]
  cases hh:(!decide (x.cps.toList< [65])) with
  |false=>rw[hh] at q;exact dG q
  |true=>rw[hh] at q;exact cq ⟨_,_,rfl,rfl,by rw[e2];exact q⟩
theorem AH(D:Def K mg "is_small" "is_small" qU ["sign"]):bx P w K mg base 1 "is_small" ["sign"] (E8 97 122):=by
 refine D.fJ DA (fun vs H Q E h=>?_) (fun f bj A outer s H vs Q E hr h=>?_)
 ·obtain⟨n,rfl,_⟩:=h
  rfl
 ·obtain⟨x,rfl,hl,q⟩:=h
  refine⟨_,(aq
     (az (m9 fh fh aw (pv 0) aw))),?_⟩
  rw[←vI 97 122 x hl] at q
  have e1:("a" :Str).cps.toList=[97]:=by decide+kernel
  have e2:("z" :Str).cps.toList=[122]:=by decide+kernel
  refine⟨_,rfl,_,_,rfl,rfl,_,rfl,?_⟩
  rw[e1]
  cases hh:(!decide (x.cps.toList< [97])) with
  |false=>rw[hh] at q;exact dG q
  |true=>rw[hh] at q;exact cq ⟨_,_,rfl,rfl,by rw[e2];exact q⟩
theorem yI(D:Def K mg "is_figure" "is_figure" mE ["sign"]):bx P w K mg base 1 "is_figure" ["sign"] (E8 48 57):=by
 refine D.fJ AF (fun vs H Q E h=>?_) (fun f bj A outer s H vs Q E hr h=>?_)
 ·obtain⟨n,rfl,_⟩:=h
  rfl
 ·obtain⟨x,rfl,hl,q⟩:=h
  refine⟨_,(aq
     (az (m9 fh fh aw (pv 0) aw))),?_⟩
  rw[←vI 48 57 x hl] at q
  have e1:("0" :Str).cps.toList=[48]:=by decide+kernel
  have e2:("9" :Str).cps.toList=[57]:=by decide+kernel
  refine⟨_,rfl,_,_,rfl,rfl,_,rfl,?_⟩
  rw[e1]
  cases hh:(!decide (x.cps.toList< [48])) with
  |false=>rw[hh] at q;exact dG q
  |true=>rw[hh] at q;exact cq ⟨_,_,rfl,rfl,by rw[e2];exact q⟩
theorem DB:ax ["self","text"] ["self","text"] (ak qW):=dH
theorem AI(D:jH K R "Reader.__init__" qW ["self","text"] [])(T:oK K mg C R uK uN):fz P w K mg base 1 R ["self","text"] [] (xu R):=by
 refine D.fJ DB (fun vs H Q E h=>?_) (fun f bj A outer s H vs Q E hr h=>?_)
 ·obtain⟨r,dx,x,rfl,_⟩:=h
  rfl
 ·obtain⟨r,dx,x,rfl,hp,q⟩:=h
  refine⟨_,(af
     (eQ (pv 0) (pv 1) rfl)
    (aq
     (eQ (pv 0) ah rfl))),?_⟩
  refine⟨_,rfl,_,rfl,r,R,dx,[],rfl,hp,T.av,T.i8,(by show 0<1000;decide),_,rfl,r,R,dx,_,rfl,ag,T.av,T.bz,(by show 1<1000;decide),?_⟩
  refine q _ ⟨dx,ag⟩ fun b o e hb=>?_
  rw[aj hb,aj hb]
  exact e
theorem G0:ax ["self"] ["self"] (ak xj):=dH
theorem DC(D:bU K R "sign" "Reader.sign" xj ["self"])(T:oK K mg C R uK uN):c9 P w K mg base 1 R "sign" ["self"] (hV R):=by
 refine D.fJ G0 (fun vs H Q E h=>?_) (fun f bj A outer s H vs Q E hr h=>?_)
 ·obtain⟨r,x,p,rfl,_⟩:=h
  rfl
 ·obtain⟨r,x,p,rfl,⟨dx,hR⟩,hp,hx,q⟩:=h
  have big:(1000 :Nat)≤sizeLine:=by decide
  refine⟨_,(aq
     (az (bK dA (br (pv 0) rfl) (bF (br (pv 0) rfl)) (bF (au bo (br (pv 0) rfl) ah))))),?_⟩
  rw[←pH x hp] at q
  exact⟨_,rfl,r,R,dx,_,_,rfl,hR,T.av,T.i8,fF _ _,_,rfl,r,R,dx,_,_,rfl,hR,T.av,T.bz,aX _ _,_,rfl,_,rfl,r,R,dx,_,_,rfl,hR,T.av,T.bz,aX _ _,_,_,rfl,rfl,_,rfl,x,rfl,by omega,q⟩
theorem G1:ax ["self","sign"] ["self","sign"] (ak xk):=dH
theorem pI:ax ["self","signs","sign"] ["self","signs"] (ak ki):=dH
theorem nQ{n:Int}(h1:1≤n)(h2:n<10^12):∃m:Nat,n=(m:Int)∧m<10^12∧m≠0:=⟨n.toNat,by omega,by omega,by omega⟩
theorem lE:ax ["self","longest","begin","written"] ["self","longest"] (ak km):=dH
theorem AJ:ax ["self"] ["self"] (ak mG):=dH
theorem aW{r a:Addr}{H H':Hp}{o:HO}(k:Kept r H H')(hr:H' r=some o)(h:H' a=none):H a=none:=by
 cases hh:H a with
 |none=>rfl
 |some o'=>
  by_cases e:a=r
  ·rw[e,hr] at h;cases h
  ·rw[k a o' hh e] at h;cases h
theorem rn:ax ["self","begin","kind"] ["self"] (ak qX):=dH
inductive Tr where
 |one (k:List Nat) (n:Int)
 |gr (ts:List Tr) (n:Int)
def dR:Nat→Tr→List Nat
 |_, .one k n=>k++bw n
 |0, .gr _ _=>[]
 |d+1, .gr ts n=>40::(ts.flatMap (dR d)++41::bw n)
def vJ:Nat→Tr→Prop
 |_, .one k n=>tF k∧1≤n∧n≤999
 |0, .gr _ _=>False
 |d+1, .gr ts n=>ts≠[]∧(∀t∈ts,vJ d t)∧1≤n∧n≤999
def ef(C G:Addr):Nat→Hp→Addr→Tr→Prop
 |_,H,p, .one k n=>fB C H p ⟨k.toArray⟩ n
 |0,_,_, .gr _ _=>False
 |d+1,H,p, .gr ts n=>∃dx l ps,H p=some (.ins G dx (ky l n))∧H l=some (.lst (ps.map V.ref))∧Paired (ef C G d H) ps ts
def G2(C G:Addr)(d:Nat)(H H':Hp)(a:Addr)(t:Tr):Prop:=∀cx,(∀b o,H b=none→H' b=some o→cx b=some o)→ef C G d cx a t
def Qz(C G L:Addr)(d:Nat)(H H':Hp)(a:Addr)(t:Tr):Prop:=∀cx,(∀b o,H b=none→b≠L→H' b=some o→cx b=some o)→ef C G d cx a t
def Ko(C G:Addr)(d:Nat)(H H':Hp)(l:Addr)(ts:List Tr):Prop:=H l=none∧∃ps,H' l=some (.lst (ps.map V.ref))∧∀cx,(∀b o,H b=none→H' b=some o→cx b=some o)→Paired (ef C G d cx) ps ts
structure rp(K:PySem.W.Frag)(mg:Str→Option Value)(C R G:Addr)(uK uN uB uE uM:Tok):Prop extends oK K mg C R uK uN where
 eZ:r8 K G
 pK:cD K G "parts"
 pL:cD K G "count"
 DD:mg "Group" =some (.ref G)
 er:mg "GROUP_BEGIN" =some (.str "(" uB)
 lU:mg "GROUP_END" =some (.str ")" uE)
 iJ:mg "MOST_GROUPS_AROUND" =some (.int 3 uM)
theorem G3:("(" :Str)=⟨#[40]⟩:=by decide+kernel
theorem QA:(")" :Str)=⟨#[41]⟩:=by decide+kernel
theorem G4{d:Nat}{t:Tr}(h:vJ d t):∃c r,dR d t=c::r∧((iy c=true∧∃k n,t= .one k n)∨(c=40∧∃ts n,t= .gr ts n)):=by
 cases t with
 |one k n=>
  have h:tF k∧1≤n∧n≤999:=by cases d<;>exact h
  obtain⟨⟨c,r,rfl,hc,_⟩,_⟩:=h
  have e:dR d (.one (c::r) n)=c::(r++bw n):=by cases d<;>rfl
  exact⟨c,_,e, .inl ⟨hc,_,_,rfl⟩⟩
 |gr ts n=>
  cases d with
  |zero=>exact h.elim
  |succ d=>exact⟨40,_,rfl, .inr ⟨rfl,_,_,rfl⟩⟩
theorem DE:ax ["self","around"] ["self","around"] (ak nL):=dH
def kA(X:Addr):Sp:=fun vs H Q _=>∃(p dx l:Addr) (c:Int) (xs:List V),vs=[.ref p, .ref l, .int c]∧H p=some (.ins X dx [])∧H l=some (.lst xs)∧
 ∀n H',H n=none→H' p=some (.ins X dx (ky n c))→H' n=some (.lst xs)→(∀b o,H b=some o→b≠p→H' b=some o)→Q .cn H'
theorem eh{H:Hp}{a b m:Addr}{o o':HO}(h:(upd (upd H a o) b o') m=none):H m=none:=by
 by_cases e:m=b
 ·rw[e,ag] at h;cases h
 ·rw[aj e] at h
  by_cases e':m=a
  ·rw[e',ag] at h;cases h
  ·rwa [aj e'] at h
theorem nR:ax ["self","around","parts"] ["self","around"] (ak i0):=dH
theorem tG{d:Nat}:∀{ts:List Tr},(∀t∈ts,vJ d t)→ts.length≤(ts.flatMap (dR d)).length
 | [],_=>Nat.le_refl _
 |t::ts,h=>by
  obtain⟨c,r,e,_⟩:=G4 (h t (List.mem_cons_self ..))
  have:=tG (d:=d) (ts:=ts) fun u hu=>h u (List.mem_cons_of_mem _ hu)
  rw[List.flatMap_cons,List.length_append,e,List.length_cons,List.length_cons]
  omega
theorem bA{α β:Type}{p q:α→β→Prop}(h:∀a b,p a b→q a b):∀{as:List α} {bs:List β},Paired p as bs→Paired q as bs
 |_,_, .nil=> .nil
 |_,_, .cons x t=> .cons (h _ _ x) (bA h t)
theorem eK{α β:Type}{p:α→β→Prop}{a:α}{b:β}(x:p a b):∀{as:List α} {bs:List β},Paired p as bs→Paired p (as++[a]) (bs++[b])
 |_,_, .nil=> .cons x .nil
 |_,_, .cons y t=> .cons y (eK x t)
theorem tH:ax ["self","around","parts"] ["self","around"] (ak kj):=dH
def lV(n:Int):List Nat:=if n=0 then [] else 94::(bw (if n<0 then -n else n)++[if 0<n then 43 else 45])
structure Kp(K:PySem.W.Frag)(mg:Str→Option Value)(C R:Addr)(uK uN uC uP uI:Tok):Prop extends oK K mg C R uK uN where
 gi:mg "CHARGE_MARK" =some (.str "^" uC)
 AK:mg "PLUS" =some (.str "+" uP)
 rq:mg "MINUS" =some (.str "-" uI)
theorem Kq:("^" :Str)=⟨#[94]⟩:=by decide+kernel
theorem QB:("+" :Str)=⟨#[43]⟩:=by decide+kernel
theorem Kr:("-" :Str)=⟨#[45]⟩:=by decide+kernel
theorem DF{c b:Nat}(h:c≠b):¬V.str (⟨#[c]⟩:Str)=V.str (⟨#[b]⟩:Str):=by
 intro z
 have z:(⟨#[c]⟩:Str)=⟨#[b]⟩:=by injection z
 exact h (by have:=congrArg (fun s:Str=>s.cps.toList) z;simpa using this)
theorem pM:ax ["self","count"] ["self"] (ak kn):=dH
theorem QC:¬(("pieces" :Str)="charge"):=by decide+kernel
def lW(l:Addr)(n:Int):List (Str×V):=df "charge" (.int n) (df "pieces" (.ref l) [])
theorem kB(l:Addr)(n:Int):(lW l n).lookup ("pieces" :Str)=some (.ref l):=by
 unfold lW
 rw[aL,if_neg QC,aL,if_pos rfl]
theorem rA(l:Addr)(n:Int):(lW l n).lookup ("charge" :Str)=some (.int n):=by
 unfold lW
 rw[aL,if_pos rfl]
theorem tI(l:Addr)(n:Int){m:Str}(h1:¬m="charge")(h2:¬m="pieces"):(lW l n).lookup m=none:=by
 unfold lW
 rw[aL,if_neg h1,aL,if_neg h2]
 all_goals rfl
def rB(X:Addr):Sp:=fun vs H Q _=>∃(p dx l:Addr) (c:Int) (xs:List V),vs=[.ref p, .ref l, .int c]∧H p=some (.ins X dx [])∧H l=some (.lst xs)∧
 ∀n H',H n=none→H' p=some (.ins X dx (lW n c))→H' n=some (.lst xs)→(∀b o,H b=some o→b≠p→H' b=some o)→Q .cn H'
abbrev gO:=Int×List Tr
def jO(C G Pc:Addr)(d:Nat)(H:Hp)(p:Addr)(x:gO):Prop:=∃dx l ps,H p=some (.ins Pc dx (ky l x.1))∧H l=some (.lst (ps.map V.ref))∧Paired (ef C G d H) ps x.2
def nS(C G Pc Fo:Addr)(d:Nat)(H:Hp)(f:Addr)(xs:List gO)(n:Int):Prop:=∃dx l ps,H f=some (.ins Fo dx (lW l n))∧H l=some (.lst (ps.map V.ref))∧Paired (jO C G Pc d H) ps xs
def Ks(C G Pc L:Addr)(d:Nat)(H H':Hp)(p:Addr)(x:gO):Prop:=∀cx,(∀b o,H b=none→b≠L→H' b=some o→cx b=some o)→jO C G Pc d cx p x
def Kt(C G Pc Fo:Addr)(d:Nat)(H H':Hp)(f:Addr)(xs:List gO)(n:Int):Prop:=∀cx,(∀b o,H b=none→H' b=some o→cx b=some o)→nS C G Pc Fo d cx f xs n
def jV(d:Nat)(x:gO):List Nat:=bw x.1++x.2.flatMap (dR d)
def eL(d:Nat)(xs:List gO):List Nat:=xs.flatMap fun x=>46::jV d x
def wL(d:Nat):List gO→Int→List Nat
 | [],_=>[101,94,45]
 |x::r,n=>x.2.flatMap (dR d)++(eL d r++lV n)
def IV(d:Nat)(x:gO):Prop:=x.2≠[]∧(∀t∈x.2,vJ d t)∧1≤x.1∧x.1≤999
def Cp(d:Nat):List gO→Int→Prop
 | [],n=>n= -1
 |x::r,n=>x.1=1∧(∀y∈x::r,IV d y)∧ -999≤n∧n≤999
structure oM(K:PySem.W.Frag)(mg:Str→Option Value)(C R G Pc Fo:Addr)(uK uN uB uE uM uC uP uI uD uL uT:Tok):Prop extends rp K mg C R G uK uN uB uE uM,Kp K mg C R uK uN uC uP uI where
 dw:r8 K Pc
 bP:r8 K Fo
 pN:cD K Pc "parts"
 pO:cD K Pc "count"
 jP:cD K Fo "pieces"
 nU:cD K Fo "charge"
 xv:mg "Piece" =some (.ref Pc)
 pP:mg "Formula" =some (.ref Fo)
 nV:mg "ChangeReader" =some (.ref R)
 iK:mg "PIECE_DOT" =some (.str "." uD)
 jQ:mg "ELECTRON" =some (.str "e^-" uL)
 nW:mg "LONGEST_TEXT" =some (.int 400 uT)
 n_list:mg "list" =none
 AL:mg "abs" =none
theorem eE:("e^-" :Str)=⟨#[101,94,45]⟩:=by decide+kernel
theorem tJ:ax ["self"] ["self"] (ak gX):=dH
theorem xw(d:Nat):∀xs:List gO,xs.length≤(eL d xs).length
 | []=>Nat.le_refl _
 |y::r=>by
  have ih:=xw d r
  show r.length+1≤(46::jV d y++eL d r).length
  rw[List.length_append,List.length_cons]
  omega
theorem Ku:("." :Str)=⟨#[46]⟩:=by decide+kernel
theorem nX:ax ["self","pieces","count"] ["self"] (ak mF):=dH
theorem yJ:ax ["text"] ["text"] (ak kg):=dH
theorem DG:∀(w:List Nat),w.all d9=true→w.head? ≠some 48→w≠[]→∃n:Nat,0<n∧(Nat.toDigits 10 n).map Char.toNat=w∧n<10^w.length:=by
 have one:∀c:Nat,c<10→(Nat.toDigits 10 c).map Char.toNat=[c+48]:=by decide
 intro w
 induction hl:w.length generalizing w with
 |zero=>intro _ _ h;exact absurd (List.length_eq_zero_iff.mp hl) h
 |succ m ih=>
  intro ha hh _
  obtain⟨v,c,rfl⟩:∃v c,w=v++[c]:=⟨w.dropLast,w.getLast (by intro z;rw[z] at hl;cases hl),(List.dropLast_concat_getLast _).symm⟩
  rw[List.all_append,Bool.and_eq_true] at ha
  obtain⟨ha,hc⟩:=ha
  have hc:48≤c∧c≤57:=by simpa [d9] using hc
  have hv:v.length=m:=by simpa using hl
  cases v with
  |nil=>
   have Zu:c≠48:=fun z=>hh (by rw[z];rfl)
   refine⟨c - 48,by omega,?_,by have:m=0:=hv.symm;subst this;omega⟩
   rw[one (c - 48) (by omega)]
   show [c - 48+48]=[c]
   rw[Nat.sub_add_cancel hc.1]
  |cons b r=>
   obtain⟨n,n0,en,nl⟩:=ih (b::r) hv ha (fun z=>hh (by simpa using z)) (by simp)
   refine⟨10*n+(c - 48),by omega,?_,?_⟩
   ·rw[←Nat.toDigits_append_toDigits (by decide) n0 (by omega:c - 48<10),List.map_append,en,one (c - 48) (by omega),Nat.sub_add_cancel hc.1]
   ·have:m+1=(b::r).length+1:=by omega
    rw[Nat.pow_succ]
    omega
theorem G5{w:List Nat}(ha:w.all d9=true)(hh:w.head? ≠some 48)(h1:w≠[49]):∃n:Nat,bw (n:Int)=w∧0<n∧(w=[]∧n=1∨w≠[]∧n≠1)∧n<10^(w.length+1)∧(w≠[]→n<10^w.length):=by
 by_cases hw:w=[]
 ·subst hw
  exact⟨1,g9,by decide, .inl ⟨rfl,rfl⟩,by decide,fun z=>absurd rfl z⟩
 ·obtain⟨n,n0,en,nl⟩:=DG w ha hh hw
  have n1:n≠1:=fun z=>h1 (by rw[←en,z];rfl)
  exact⟨n,by rw[fD n1,en],n0, .inr ⟨hw,n1⟩,Nat.lt_of_lt_of_le nl (Nat.pow_le_pow_right (by decide) (by omega)),fun _=>nl⟩
abbrev sf(x:Str)(p:Nat):List Nat:=x.cps.toList.drop p
def kD(lg:Nat)(u:List Nat)(n:Int)(v:List Nat):Prop:=u=bw n++v∧1≤n∧n<10^lg∧(bw n).length≤lg∧(Not d9 v∨(bw n).length=lg)
def rC(u v:List Nat):Prop:=v=u∧u.head? =some 48∨u=49::v∧Not d9 v
def lX(u k:List Nat)(n:Int)(v:List Nat):Prop:=∃w,u=k++w∧tF k∧(k.length=3∨Not jq w)∧kD 3 w n v
def xx(u v:List Nat):Prop:=v=u∧Not iy u∨∃k w,u=k++w∧tF k∧(k.length=3∨Not jq w)∧rC w v
def More(u:List Nat):Prop:=∃c,u.head? =some c∧(iy c=true∨c=40)
inductive Sq(p:List Nat→Tr→List Nat→Prop)(u:List Nat):List Tr→List Nat→Prop
 |one (t:Tr) (v:List Nat) (h:p u t v):Sq p u [t] v
 |snoc (ts:List Tr) (w:List Nat) (t:Tr) (v:List Nat) (s:Sq p u ts w) (m:More w) (h:p w t v):Sq p u (ts++[t]) v
def DH(p:List Nat→Tr→List Nat→Prop)(u:List Nat)(ts:List Tr)(v:List Nat):Prop:=Sq p u ts v∧¬More v
def IX(p:List Nat→Tr→List Nat→Prop)(b:List Nat→List Nat→Prop)(u v:List Nat):Prop:=b u v∨∃ts w,Sq p u ts w∧More w∧b w v
def oE:Nat→List Nat→Tr→List Nat→Prop
 |0,u,t,v=>∃k n,t= .one k n∧lX u k n v
 |d+1,u,t,v=>(u.head? ≠some 40∧∃k n,t= .one k n∧lX u k n v)∨∃u' ts n w,u=40::u'∧t= .gr ts n∧DH (oE d) u' ts (41::w)∧kD 3 w n v
def G6:Nat→List Nat→List Nat→Prop
 |0,u,v=>xx u v
 |d+1,u,v=>(u.head? ≠some 40∧xx u v)∨∃u',u=40::u'∧(IX (oE d) (G6 d) u' v∨(∃ts,DH (oE d) u' ts v∧v.head? ≠some 41)∨∃ts w,DH (oE d) u' ts (41::w)∧rC w v)
def OE(u:List Nat)(n:Int)(v:List Nat):Prop:=(u.head? ≠some 94∧n=0∧v=u)∨∃u' m w,u=94::u'∧kD 3 u' m w∧(w=45::v∧n= -m∨w=43::v∧n=m)
def VU(u v:List Nat):Prop:=∃u',u=94::u'∧(rC u' v∨∃m,kD 3 u' m v∧v.head? ≠some 45∧v.head? ≠some 43)
def VW(u v:List Nat):Prop:=u=101::v∧v.head? ≠some 94∨u=101::94::v∧v.head? ≠some 45
inductive Cq(u:List Nat):List gO→List Nat→Prop
 |one (ts:List Tr) (v:List Nat) (h:DH (oE 4) u ts v):Cq u [(1,ts)] v
 |snoc (ps:List gO) (w:List Nat) (m:Int) (w1:List Nat) (ts:List Tr) (v:List Nat) (s:Cq u ps (46::w)) (n:kD 3 w m w1) (h:DH (oE 4) w1 ts v):Cq u (ps++[(m,ts)]) v
def E9(u:List Nat)(xs:List gO)(n:Int)(v:List Nat):Prop:=(u=101::94::45::v∧xs=[]∧n= -1)∨u.head? ≠some 101∧∃w,Cq u xs w∧w.head? ≠some 46∧OE w n v
def Kv(u v:List Nat):Prop:=VW u v∨u.head? ≠some 101∧(IX (oE 4) (G6 4) u v∨(∃ps w,Cq u ps (46::w)∧(rC w v∨∃m w1,kD 3 w m w1∧IX (oE 4) (G6 4) w1 v))∨∃ps w,Cq u ps w∧w.head? ≠some 46∧VU w v)
theorem iL(x:Str)(p:Nat):(sf x p).length=x.length - p:=by
 unfold sf
 rw[List.length_drop]
 simp [Str.length]
theorem AM(x:Str)(p:Nat):eY x p=⟨((sf x p).take 1).toArray⟩:=rfl
theorem dU{x:Str}{p c:Nat}:(V.str (eY x p)=V.str (⟨#[c]⟩:Str))↔(sf x p).head? =some c:=by
 rw[AM]
 cases hs:sf x p with
 |nil=>
  refine⟨fun z=>?_,fun z=>by cases z⟩
  have z:(⟨((([]:List Nat)).take 1).toArray⟩:Str)=⟨#[c]⟩:=by injection z
  have:=congrArg (fun s:Str=>s.cps.toList) z
  simp at this
 |cons b r=>
  refine⟨fun z=>?_,fun z=>?_⟩
  ·have z:(⟨((b::r).take 1).toArray⟩:Str)=⟨#[c]⟩:=by injection z
   have:=congrArg (fun s:Str=>s.cps.toList) z
   simpa using this
  ·have:b=c:=by simpa using z
   rw[this]
   rfl
theorem dz{x:Str}{p c:Nat}(h:(sf x p).head? =some c):sf x p=c::sf x (p+1)∧p+1≤x.length:=by
 have hl:=iL x p
 have ed:sf x (p+1)=(sf x p).drop 1:=by unfold sf;rw[List.drop_drop]
 cases hs:sf x p with
 |nil=>rw[hs] at h;cases h
 |cons b r=>
  rw[hs] at h hl ed
  have:b=c:=by simpa using h
  rw[List.length_cons] at hl
  exact⟨by rw[ed,this];rfl,by omega⟩
theorem nY{x:Str}{p:Nat}(lo hi:Nat):inR lo hi (eY x p)=true↔∃c,(sf x p).head? =some c∧(decide (lo≤c)&&decide (c≤hi))=true:=by
 rw[AM]
 cases hs:sf x p with
 |nil=>exact⟨fun z=>(by cases z),fun⟨c,z,_⟩=>(by cases z)⟩
 |cons b r=>
  refine⟨fun z=>⟨b,rfl,z⟩,fun⟨c,z,h⟩=>?_⟩
  have:b=c:=by simpa using z
  rw[this]
  exact h
theorem vK{x:Str}{p lo hi:Nat}(h:inR lo hi (eY x p)=false):Not (fun c=>decide (lo≤c)&&decide (c≤hi)) (sf x p):=fun c z=>by
 cases hb:(decide (lo≤c)&&decide (c≤hi)) with
 |false=>exact hb
 |true=>rw[(nY lo hi).mpr ⟨c,z,hb⟩] at h;cases h
theorem AN{x:Str}{p j:Nat}(h:p+j≤x.length):∃w,sf x p=w++sf x (p+j)∧w.length=j∧Txt.slice x (some (p:Int)) (some ((p+j:Nat):Int))=⟨w.toArray⟩:=by
 have hl:=iL x p
 have ed:sf x (p+j)=(sf x p).drop j:=by unfold sf;rw[List.drop_drop]
 refine⟨(sf x p).take j,by rw[ed,List.take_append_drop],by rw[List.length_take];omega,?_⟩
 apply eo
 rw[fj x (by omega) (by omega),Nat.add_sub_cancel_left]
variable {HE NF TL:Addr}
structure tK(K:PySem.W.Frag)(mg:Str→Option Value)(HE NF TL:Addr):Prop where
 fV:mg "HallError" =some (.ref HE)
 e9:E3 K HE
 tL:mg "NoFormula" =some (.ref NF)
 IY:mg "TooLong" =some (.ref TL)
 DI:PySem.W.takerIn K NF "place" =some none
 G7:PySem.W.takerIn K TL "many" =some none
theorem kE{n:Int}(h0:0≤n)(h:n<10^50):(toString n:Str).length≤50:=by
 obtain⟨m,rfl⟩:=Int.eq_ofNat_of_zero_le h0
 rw[PySem.ofString_length]
 show (Nat.repr m).length≤50
 rw[Nat.length_repr_le_iff (by decide)]
 omega
theorem kF{n:Int}(h0:0≤n)(h:n<10^50):n.natAbs.log2<1920:=by
 by_cases e:n.natAbs=0
 ·rw[e];decide
 ·have:=(Nat.log2_lt e (k:=200)).mpr (by omega)
  omega
def iM(X:Addr)(fld:Str):Sp:=fun vs H Q _=>∃(e:Addr) (n:Int),vs=[.ref e, .int n]∧H e=some (oI e X none)∧0≤n∧n<10^50∧
 ∀dx H',H dx=none→dx≠e→H' e=some (oI e X (some dx))→H' dx=some (zB dx [(fld, .int n)])→(∀b o,H b=some o→b≠e→H' b=some o)→Q .cn H'
theorem Kw:ax ["self","place"] ["self","place"] (ak Dt):=dH
theorem DJ:ax ["self","many"] ["self","many"] (ak qR):=dH
theorem G8(D:lz K mg "NoFormula" NF HE "NoFormula.__init__" Dt ["self","place"])(T:tK K mg HE NF TL):gf P w K mg base 1 "NoFormula" NF HE ["self","place"] (iM NF "place"):=by
 obtain⟨f0,_,_,Z,_⟩:=id D
 refine D.fJ Kw (fun vs H Q E h=>?_) (fun f bj A outer s H vs Q E hr h=>?_)
 ·obtain⟨e,n,rfl,_⟩:=h
  rfl
 ·obtain⟨e,n,rfl,he,n0,n1,q⟩:=h
  have big:(2000 :Nat)≤sizeLine:=by decide
  have z1:=kE n0 n1
  have y1:("no formula, by place " :Str).length=21:=by decide+kernel
  have y2:(" of the text" :Str).length=12:=by decide+kernel
  have y0:(Str.empty).length=0:=rfl
  refine⟨_,(af
     (bE (kd rfl T.fV T.e9 (pv 0) (mD (dQ aw (dQ (qN (pv 1)) (dQ aw qO))))))
    (aq
     (mC (pv 0) (pv 1) rfl))),?_⟩
  refine⟨_,rfl,_,rfl,?_,_,rfl, .inl ⟨_,rfl,kF n0 n1,_,rfl,?_,_,rfl,?_,?_,e,NF,HE,f0,none,rfl,Z,he,?_⟩⟩
  any_goals (simp only [aM,y0,y1,y2];omega)
  refine⟨_,rfl,_,rfl,e,NF,HE,f0,rfl,Z,T.DI, .inl ⟨he,fun dx jv i9=>?_⟩⟩
  refine q dx _ jv i9 ag (by rw[aj i9,ag]) fun b o z nb=>?_
  rw[aj nb,aj (ai z jv)]
  exact z
theorem AO(D:lz K mg "TooLong" TL HE "TooLong.__init__" qR ["self","many"])(T:tK K mg HE NF TL):gf P w K mg base 1 "TooLong" TL HE ["self","many"] (iM TL "many"):=by
 obtain⟨f0,_,_,Z,_⟩:=id D
 refine D.fJ DJ (fun vs H Q E h=>?_) (fun f bj A outer s H vs Q E hr h=>?_)
 ·obtain⟨e,n,rfl,_⟩:=h
  rfl
 ·obtain⟨e,n,rfl,he,n0,n1,q⟩:=h
  have big:(2000 :Nat)≤sizeLine:=by decide
  have z1:=kE n0 n1
  have y1:("the text is too long to be read: " :Str).length=33:=by decide+kernel
  have y2:(" signs" :Str).length=6:=by decide+kernel
  have y0:(Str.empty).length=0:=rfl
  refine⟨_,(af
     (bE (kd rfl T.fV T.e9 (pv 0) (mD (dQ aw (dQ (qN (pv 1)) (dQ aw qO))))))
    (aq
     (mC (pv 0) (pv 1) rfl))),?_⟩
  refine⟨_,rfl,_,rfl,?_,_,rfl, .inl ⟨_,rfl,kF n0 n1,_,rfl,?_,_,rfl,?_,?_,e,TL,HE,f0,none,rfl,Z,he,?_⟩⟩
  any_goals (simp only [aM,y0,y1,y2];omega)
  refine⟨_,rfl,_,rfl,e,TL,HE,f0,rfl,Z,T.G7, .inl ⟨he,fun dx jv i9=>?_⟩⟩
  refine q dx _ jv i9 ag (by rw[aj i9,ag]) fun b o z nb=>?_
  rw[aj nb,aj (ai z jv)]
  exact z
def Rz(NF:Addr)(H:Hp)(r:Addr)(E:XK)(e:Nat):Prop:=∀b dx H',H b=none→H dx=none→H' b=some (pD b NF (some dx))→H' dx=some (zB dx [("place", .int (e:Int))])→Kept r H H'→E (.ref NF) (some dx) H'
theorem Rz.on{NF:Addr}{H H1:Hp}{r:Addr}{E:XK}{e:Nat}{o:HO}(h:Rz NF H r E e)(k:Kept r H H1)(hr:H1 r=some o):Rz NF H1 r E e:=fun b dx H' nb nd h1 h2 k2=>h b dx H' (aW k hr nb) (aW k hr nd) h1 h2 (k.trans k2)
def hX(NF R:Addr):Sp:=fun vs H Q E=>∃(r:Addr) (x:Str) (p c:Nat),vs=[.ref r, .str ⟨#[c]⟩]∧cJ R H r x p∧p≤x.length∧x.length≤1000∧
 ((sf x p).head? =some c→∀H',cJ R H' r x (p+1)→Kept r H H'→Q .cn H')∧((sf x p).head? ≠some c→Rz NF H r E p)
def hZ(NF R:Addr):Sp:=fun vs H Q E=>∃(r:Addr) (x:Str) (p:Nat) (s:Str),vs=[.ref r, .str s]∧s.cps.all (· <128)=true∧cJ R H r x p∧p≤x.length∧x.length≤1000∧
 (sf x p=s.cps.toList++sf x (p+s.length)→p+s.length≤x.length→∀H',cJ R H' r x (p+s.length)→Kept r H H'→Q .cn H')∧
 (∀i c,s.cps.toList[i]? =some c→sf x p=s.cps.toList.take i++sf x (p+i)→(sf x (p+i)).head? ≠some c→p+i≤x.length→Rz NF H r E (p+i))
theorem xy{H:Hp}{r:Addr}{E:XK}{e:Nat}(q:Rz NF H r E e){b dx:Addr}{H5:Hp}(hb:H b=none)(hd:H dx=none)(i9:dx≠b)(uZ:H5 dx=some (zB dx [("place", .int (e:Int))]))(k5:∀b' o,(upd H b (oI b NF none)) b'=some o→b'≠b→H5 b'=some o):E (.ref NF) (some dx) (upd H5 b (pD b NF (some dx))):=by
 refine q b dx _ hb hd ag (by rw[aj i9];exact uZ) fun b' o z _=>?_
 have vL:b'≠b:=ai z hb
 rw[aj vL]
 exact k5 _ _ (by rw[aj vL];exact z) vL
theorem AQ(D:bU K R "take" "Reader.take" xk ["self","sign"])(T:oK K mg C R uK uN)(TE:tK K mg HE NF TL)(c1:c9 P w K mg base 1 R "sign" ["self"] (hV R))(c2:gf P w K mg base 1 "NoFormula" NF HE ["self","place"] (iM NF "place")):aY P w K mg base 3 R "take" ["self","sign"] (hX NF R):=by
 obtain⟨_,_,ar⟩:=c1
 obtain⟨_,_,aJ⟩:=c2
 refine D.gW G1 (fun vs H Q E h=>?_) (fun f bj A outer s H vs Q E hr h=>?_)
 ·obtain⟨r,x,p,c,rfl,_⟩:=h
  rfl
 ·obtain⟨r,x,p,c,rfl,⟨dx,hR⟩,hp,hx,q,qE⟩:=h
  refine⟨_,(af
     (bc (aA wQ (bI (pv 0) T.av ar.m ar.ok (hr.mono (by decide)) ar.b .nil aP) (pv 1) (aE _))
      (aq
       (gF rfl aU (gE aJ.z aJ.ok (hr.mono (by decide)) rfl aJ.g aJ.kp aJ.b (aa (br (pv 0) rfl) ao))))
      aK)
    (aq
     (iV (pv 0) ah qu))),?_⟩
  refine⟨_,rfl,r,dx,_,rfl,hR,aF _ _ (by decide+kernel) (by decide+kernel),r,x,p,rfl,⟨dx,hR⟩,hp,hx,_,rfl,rfl,_,rfl,?_⟩
  by_cases hc:(sf x p).head? =some c
  ·refine JV (dU.mpr hc) ?_
   refine⟨_,rfl,r,R,dx,_,_,rfl,hR,T.av,T.bz,aX _ _,_,_,rfl,rfl,dx,_,hR,i7 _ _,?_⟩
   refine q hc _ ⟨dx,?_⟩ fun b o e hb=>?_
   ·rw[ag]
    exact congrArg (fun z=>some (HO.ins R dx z)) (i6 x p (p+1))
   ·rw[aj hb];exact e
  ·have ne:¬V.str (eY x p)=V.str (⟨#[c]⟩:Str):=fun z=>hc (dU.mp z)
   rw[decide_eq_false ne]
   refine cq ⟨_,rfl,r,R,dx,_,_,rfl,hR,T.av,T.bz,aX _ _,(by show 1≤100;decide),fun b hb=>?_⟩
   refine⟨b,_,rfl,ag,by omega,by omega,fun cZ H5 jv i9 yK uZ k5=>⟨rfl,b,NF,HE,_,some cZ,rfl,aJ.z,yK,?_⟩⟩
   exact xy (qE hc) hb (by rw[aj i9] at jv;exact jv) i9 uZ k5
variable {HE NF TL:Addr}
theorem tM(D:bU K R "take_all" "Reader.take_all" ki ["self","signs"])(T:oK K mg C R uK uN)(c1:aY P w K mg base 3 R "take" ["self","sign"] (hX NF R)):aY P w K mg base 4 R "take_all" ["self","signs"] (hZ NF R):=by
 obtain⟨_,_,aD⟩:=c1
 refine D.gW pI (fun vs H Q E h=>?_) (fun f bj A outer s H vs Q E hr h=>?_)
 ·obtain⟨r,x,p,sg,rfl,_⟩:=h
  rfl
 ·obtain⟨r,x,p,sg,rfl,ha,hR,hp,hx,q,qE⟩:=h
  refine⟨_,(aq
     (gS jK rfl (GJ (pv 1)) (bq (i:=2) pI.nd rfl (Or.inl rfl))
      (aq
       (bE (bD (pv 0) T.av aD.m aD.ok (hr.mono (by decide)) aD.b .nil aU (aa (pv 2) ao)))))),?_⟩
  refine⟨_,rfl,sg,rfl,ha,Dk (fun i σ H'=>∃v:Option V,σ=[some (.ref r),some (.str sg),v]∧cJ R H' r x (p+i)∧Kept r H H'∧sf x p=sg.cps.toList.take i++sf x (p+i)∧p+i≤x.length) ⟨none,rfl,hR,Kept.refl r H,rfl,hp⟩ ?_ ?_⟩
  ·rintro i c σ H' hc ⟨v,rfl,⟨dx,cL⟩,kk,es,OF⟩
   have Cm:sg.cps.toList[i]? =some c:=by rw[Array.getElem?_toList];exact hc
   refine⟨_,rfl,r,dx,_,rfl,cL,aF _ _ (by decide+kernel) (by decide+kernel),_,rfl,r,x,p+i,c,rfl,⟨dx,cL⟩,OF,hx,fun hd cx QD XF=>?_,fun hd=>(qE i c Cm es hd OF).on kk cL⟩
   obtain⟨e1,e2⟩:=dz hd
   refine⟨_,rfl,QD,kk.trans XF,?_,e2⟩
   rw[es,e1,List.take_add_one,Cm,List.append_assoc]
   rfl
  ·rintro σ H' ⟨v,rfl,cL,kk,es,OF⟩
   have hl:sg.cps.toList.length=sg.length:=by simp [Str.length]
   refine q ?_ OF _ cL kk
   have:sg.cps.toList.take sg.length=sg.cps.toList:=List.take_of_length_le (by omega)
   rw[←this]
   exact es
def lF(NF R:Addr):Sp:=fun vs H Q E=>∃(r:Addr) (x:Str) (p lg:Nat),vs=[.ref r, .int (lg:Int)]∧cJ R H r x p∧p≤x.length∧x.length≤1000∧2≤lg∧lg≤12∧
 (∀n q H',kD lg (sf x p) n (sf x q)→p≤q→q≤x.length→cJ R H' r x q→Kept r H H'→Q (.int n) H')∧(∀e,rC (sf x p) (sf x e)→p≤e→e≤x.length→Rz NF H r E e)
def fk(NF R:Addr):Sp:=fun vs H Q E=>∃(r:Addr) (x:Str) (p:Nat),vs=[.ref r]∧cJ R H r x p∧p≤x.length∧x.length≤1000∧
 (∀n q H',kD 3 (sf x p) n (sf x q)→p≤q→q≤x.length→cJ R H' r x q→Kept r H H'→Q (.int n) H')∧(∀e,rC (sf x p) (sf x e)→p≤e→e≤x.length→Rz NF H r E e)
theorem vM(D:bU K R "read_number" "Reader.read_number" km ["self","longest"])(T:oK K mg C R uK uN)(TE:tK K mg HE NF TL)(c1:c9 P w K mg base 1 R "sign" ["self"] (hV R))(c2:bx P w K mg base 1 "is_figure" ["sign"] (E8 48 57))(c3:gf P w K mg base 1 "NoFormula" NF HE ["self","place"] (iM NF "place")):aY P w K mg base 3 R "read_number" ["self","longest"] (lF NF R):=by
 obtain⟨_,_,ar⟩:=c1
 obtain⟨_,_,fW⟩:=c2
 obtain⟨_,_,aJ⟩:=c3
 refine D.gW lE (fun vs H Q E h=>?_) (fun f bj A outer s H vs Q E hr h=>?_)
 ·obtain⟨r,x,p,lg,rfl,_⟩:=h
  rfl
 ·obtain⟨r,x,p,lg,rfl,⟨dx,hR⟩,hp,hx,l2,XG,q,qE⟩:=h
  have big:(1000 :Nat)≤sizeLine:=by decide
  have e0:("0" :Str)=⟨#[48]⟩:=by decide+kernel
  have e1:("1" :Str)=⟨#[49]⟩:=by decide+kernel
  refine⟨_,(af
     (bc (aA bh (bI (pv 0) T.av ar.m ar.ok (hr.mono (by decide)) ar.b .nil aP) aw (aE _))
      (aq
       (gF rfl aU (gE aJ.z aJ.ok (hr.mono (by decide)) rfl aJ.g aJ.kp aJ.b (aa (br (pv 0) rfl) ao))))
      aK)
    (af
     (aH (i:=2) lE.nd rfl (Or.inl rfl) (br (pv 0) rfl))
    (af
     (gq jK (PW.pt (cy (eP (aN fW.ok (hr.mono (by decide)) rfl fW.g fW.kp fW.b .nil aP (aa (bI (pv 0) T.av ar.m ar.ok (hr.mono (by decide)) ar.b .nil aP) ao))) (cw (aA sv (au kX (br (pv 0) rfl) (pv 2)) (pv 1) (aE _)))))
      (aq
       (iV (pv 0) ah qu)))
    (af
     (aH (i:=3) lE.nd rfl (Or.inl rfl) (bK dA (br (pv 0) rfl) (bF (pv 2)) (bF (br (pv 0) rfl))))
    (af
     (bc (aA bh (pv 3) aw (aE _))
      (aq
       (gF rfl aU (gE aJ.z aJ.ok (hr.mono (by decide)) rfl aJ.g aJ.kp aJ.b (aa (br (pv 0) rfl) ao))))
      aK)
    (aq
     (az (su (sx (pv 3) (fun _=>rfl)) (bN yt rfl T.pG lq (aa (pv 3) ao)) ah)))))))),?_⟩
  refine⟨_,rfl,r,dx,_,rfl,hR,aF _ _ (by decide+kernel) (by decide+kernel),r,x,p,rfl,⟨dx,hR⟩,hp,hx,rfl,_,rfl,?_⟩
  by_cases h0:(sf x p).head? =some 48
  ·refine cA (by rw[e0];exact dU.mpr h0) ⟨_,rfl,r,R,dx,_,_,rfl,hR,T.av,T.bz,aX _ _,(by show 1≤100;decide),fun b hb=>?_⟩
   refine⟨b,_,rfl,ag,by omega,by omega,fun cZ H5 jv i9 yK uZ k5=>⟨rfl,b,NF,HE,_,some cZ,rfl,aJ.z,yK,?_⟩⟩
   exact xy (qE p (.inl ⟨rfl,h0⟩) (Nat.le_refl _) hp) hb (by rw[aj i9] at jv;exact jv) i9 uZ k5
  refine cu (by rw[e0];exact fun z=>h0 (dU.mp z)) ?_
  refine⟨_,rfl,r,R,dx,_,_,rfl,hR,T.av,T.bz,aX _ _,?_⟩
  refine⟨fun k σ H'=>∃j:Nat,k+j=lg∧p+j≤x.length∧(∃w,sf x p=w++sf x (p+j)∧w.length=j∧w.all d9=true)∧σ=[some (.ref r),some (.int lg),some (.int p),none]∧cJ R H' r x (p+j)∧Kept r H H',⟨lg,0,by omega,hp,⟨[],rfl,rfl,rfl⟩,rfl,⟨dx,hR⟩,Kept.refl r H⟩,?_⟩
  rintro k σ H' ⟨j,hk,hj,⟨w,ew,wl,wf⟩,rfl,⟨cZ,cL⟩,kk⟩
  have wh:w.head? ≠some 48:=fun z=>h0 (by
   rw[ew]
   cases w with
   |nil=>cases z
   |cons c r=>simpa using z)
  refine⟨_,rfl,r,cZ,_,rfl,cL,aF _ _ (by decide+kernel) (by decide+kernel),r,x,p+j,rfl,⟨cZ,cL⟩,hj,hx,_,rfl,kz _ _,_,rfl,?_⟩
  by_cases hf:inR 48 57 (eY x (p+j))=true∧j<lg
  ·obtain⟨ev,XH⟩:=hf
   obtain⟨c,hc,cF⟩:=(nY 48 57).mp ev
   rw[ev]
   refine cq ⟨_,rfl,r,R,cZ,_,_,rfl,cL,T.av,T.bz,aX _ _,_,rfl,_,_,rfl,rfl,_,rfl,_,_,rfl,rfl,_,rfl,cA (by omega) ?_⟩
   refine⟨_,fun σ' cx h=>⟨k - 1,by omega,h⟩,?_⟩
   obtain⟨QE,VX⟩:=dz hc
   refine⟨_,rfl,r,R,cZ,_,_,rfl,cL,T.av,T.bz,aX _ _,_,_,rfl,rfl,cZ,_,cL,i7 _ _,?_⟩
   refine⟨j+1,by omega,VX,⟨w++[c],by rw[ew,QE,List.append_assoc];rfl,by rw[List.length_append,wl];rfl,by rw[List.all_append,wf];simpa [d9] using cF⟩,rfl,⟨cZ,?_⟩,fun b o z w=>?_⟩
   ·rw[ag]
    exact congrArg (fun z=>some (HO.ins R cZ z)) (i6 x (p+j) (p+j+1))
   ·rw[aj w];exact kk b o z w
  have he:Not d9 (sf x (p+j))∨j=lg:=by
   cases ev:inR 48 57 (eY x (p+j)) with
   |true=>exact .inr (by have:¬j<lg:=fun z=>hf ⟨ev,z⟩;omega)
   |false=>exact .inl (vK ev)
  have ec:Txt.slice x (some (p:Int)) (some ((p+j:Nat):Int))=⟨w.toArray⟩:=by
   obtain⟨w',QE,VX,XI⟩:=AN hj
   rw[XI,List.append_cancel_right (QE.symm.trans ew)]
  cases ev:inR 48 57 (eY x (p+j))
  case' true=>
   refine cq ⟨_,rfl,r,R,cZ,_,_,rfl,cL,T.av,T.bz,aX _ _,_,rfl,_,_,rfl,rfl,_,rfl,_,_,rfl,rfl,_,rfl,cu (by have:¬j<lg:=fun z=>hf ⟨ev,z⟩;omega) ?_⟩
  case' false=>
   refine dG (dG ?_)
  all_goals
   refine⟨_,rfl,r,R,cZ,_,_,rfl,cL,T.av,T.i8,fF _ _,_,rfl,_,rfl,_,rfl,r,R,cZ,_,_,rfl,cL,T.av,T.bz,aX _ _,_,rfl,x,rfl,by omega,?_⟩
   rw[ec]
   by_cases QF:w=[49]
   ·subst QF
    have VH:j=1:=wl.symm
    refine⟨_,rfl,rfl,_,rfl,cA (by rw[e1]) ⟨_,rfl,r,R,cZ,_,_,rfl,cL,T.av,T.bz,aX _ _,(by show 1≤100;decide),fun b hb=>?_⟩⟩
    refine⟨b,_,rfl,ag,by omega,by omega,fun jL H5 jv i9 yK uZ k5=>⟨rfl,b,NF,HE,_,some jL,rfl,aJ.z,yK,?_⟩⟩
    exact xy ((qE (p+j) (.inr ⟨ew,he.elim id fun z=>by omega⟩) (by omega) hj).on kk cL) hb (by rw[aj i9] at jv;exact jv) i9 uZ k5
   ·obtain⟨n,en,n0,hn,_,nl⟩:=G5 wf wh QF
    have es:(⟨w.toArray⟩:Str)=dq (n:Int):=eo (by rw[←en];rfl)
    have nw:¬V.str (dq (n:Int))=V.str "1" :=by
     rw[←es,e1]
     intro z
     have z:(⟨w.toArray⟩:Str)=⟨#[49]⟩:=by injection z
     exact QF (by have:=congrArg (fun s:Str=>s.cps.toList) z;simpa using this)
    have lf:(dq (n:Int)).length=j:=by rw[←es,←wl];simp [Str.length]
    have nb:n<10^lg:=by
     by_cases hw:w=[]
     ·have:n=1:=by rcases hn with z|z;exact z.2;exact absurd hw z.1
      rw[this]
      exact Nat.one_lt_pow (by omega) (by decide)
     ·exact Nat.lt_of_lt_of_le (nl hw) (Nat.pow_le_pow_right (by decide) (by omega))
    have VY:n<10^12:=Nat.lt_of_lt_of_le nb (Nat.pow_le_pow_right (by decide) XG)
    have fin:=q n (p+j) H' ⟨by rw[en];exact ew,by omega,by exact_mod_cast nb,by rw[en];omega,by rw[en,wl];exact he⟩ (by omega) hj ⟨cZ,cL⟩ kk
    rw[es]
    refine⟨_,rfl,rfl,_,rfl,cu nw ?_⟩
    refine⟨_,rfl,_,⟨by rw[lf];omega,rfl⟩,?_⟩
    rcases hn with ⟨hw,hn⟩ | ⟨hw,hn⟩
    ·have ez:(((dq (n:Int)).length:Int) != 0)=false:=by rw[lf,←wl,hw];rfl
     rw[ez]
     rw[hn] at fin
     exact dG fin
    ·have ez:(((dq (n:Int)).length:Int) != 0)=true:=by
      rw[lf,←wl]
      have:w.length≠0:=fun z=>hw (List.length_eq_zero_iff.mp z)
      simp only [bne_iff_ne,ne_eq]
      omega
     rw[ez]
     exact cq ⟨_,rfl,_,_,rfl,Dy n VY hn,by rw[lf];omega,fin⟩
theorem vN(D:bU K R "read_count" "Reader.read_count" mG ["self"])(T:oK K mg C R uK uN)(c1:aY P w K mg base 3 R "read_number" ["self","longest"] (lF NF R)):aY P w K mg base 4 R "read_count" ["self"] (fk NF R):=by
 obtain⟨_,_,bu⟩:=c1
 refine D.gW AJ (fun vs H Q E h=>?_) (fun f bj A outer s H vs Q E hr h=>?_)
 ·obtain⟨r,x,p,rfl,_⟩:=h
  rfl
 ·obtain⟨r,x,p,rfl,⟨dx,hR⟩,hp,hx,q,qE⟩:=h
  refine⟨_,(aq
     (az (bD (pv 0) T.av bu.m bu.ok (hr.mono (by decide)) bu.b .nil aU (aa (a8 (v:= .int 3) rfl T.mj ⟨_,rfl⟩) ao)))),?_⟩
  exact⟨_,rfl,r,dx,_,rfl,hR,aF _ _ (by decide+kernel) (by decide+kernel),r,x,p,3,rfl,⟨dx,hR⟩,hp,hx,by decide,by decide,q,qE⟩
variable {HE NF TL:Addr}
def nZ(NF C R:Addr):Sp:=fun vs H Q E=>∃(r:Addr) (x:Str) (p:Nat),vs=[.ref r]∧cJ R H r x p∧p≤x.length∧x.length≤1000∧
 (∀k n q a H',lX (sf x p) k n (sf x q)→p≤q→q≤x.length→H a=none→fB C H' a ⟨k.toArray⟩ n→cJ R H' r x q→Kept r H H'→Q (.ref a) H')∧(∀e,xx (sf x p) (sf x e)→p≤e→e≤x.length→Rz NF H r E e)
theorem yL(D:bU K R "read_atom" "Reader.read_atom" qX ["self"])(T:oK K mg C R uK uN)(TE:tK K mg HE NF TL)(c1:c9 P w K mg base 1 R "sign" ["self"] (hV R))(c2:bx P w K mg base 1 "is_great" ["sign"] (E8 65 90))(c3:bx P w K mg base 1 "is_small" ["sign"] (E8 97 122))(c4:aY P w K mg base 4 R "read_count" ["self"] (fk NF R))
  (c5:fz P w K mg base 1 C ["self","kind","count"] [1] (AB C)) (c6:gf P w K mg base 1 "NoFormula" NF HE ["self","place"] (iM NF "place")):aY P w K mg base 5 R "read_atom" ["self"] (nZ NF C R):=by
 obtain⟨_,_,ar⟩:=c1
 obtain⟨_,_,cH⟩:=c2
 obtain⟨_,_,h9⟩:=c3
 obtain⟨_,_,aI⟩:=c4
 obtain⟨_,_,g7⟩:=c5
 obtain⟨_,AR,AS⟩:=g7.b 1 (by decide)
 obtain⟨_,_,aJ⟩:=c6
 refine D.gW rn (fun vs H Q E h=>?_) (fun f bj A outer s H vs Q E hr h=>?_)
 ·obtain⟨r,x,p,rfl,_⟩:=h
  rfl
 ·obtain⟨r,x,p,rfl,⟨dx,hR⟩,hp,hx,q,qE⟩:=h
  have big:(1000 :Nat)≤sizeLine:=by decide
  refine⟨_,(af
     (bc (ve (eP (aN cH.ok (hr.mono (by decide)) rfl cH.g cH.kp cH.b .nil aP (aa (bI (pv 0) T.av ar.m ar.ok (hr.mono (by decide)) ar.b .nil aP) ao))))
      (aq
       (gF rfl aU (gE aJ.z aJ.ok (hr.mono (by decide)) rfl aJ.g aJ.kp aJ.b (aa (br (pv 0) rfl) ao))))
      aK)
    (af
     (aH (i:=1) rn.nd rfl (Or.inl rfl) (br (pv 0) rfl))
    (af
     (iV (pv 0) ah qu)
    (af
     (gq jK (PW.pt (cy (eP (aN h9.ok (hr.mono (by decide)) rfl h9.g h9.kp h9.b .nil aP (aa (bI (pv 0) T.av ar.m ar.ok (hr.mono (by decide)) ar.b .nil aP) ao))) (cw (aA sv (au kX (br (pv 0) rfl) (pv 1)) (a8 (v:= .int 3) rfl T.nP ⟨_,rfl⟩) (aE _)))))
      (aq
       (iV (pv 0) ah qu)))
    (af
     (aH (i:=2) rn.nd rfl (Or.inl rfl) (bK dA (br (pv 0) rfl) (bF (pv 1)) (bF (br (pv 0) rfl))))
    (aq
     (az (fO g7.m g7.ok (hr.mono (by decide)) rfl T.GW AS AR aP (aa (pv 2) (aa (bO (pv 0) T.av aI.m aI.ok (hr.mono (by decide)) aI.b .nil aU) ao)))))))))),?_⟩
  refine⟨_,rfl,r,dx,_,rfl,hR,aF _ _ (by decide+kernel) (by decide+kernel),r,x,p,rfl,⟨dx,hR⟩,hp,hx,_,rfl,kz _ _,_,rfl,?_⟩
  cases ev:inR 65 90 (eY x p) with
  |false=>
   refine cq ⟨_,rfl,r,R,dx,_,_,rfl,hR,T.av,T.bz,aX _ _,(by show 1≤100;decide),fun b hb=>?_⟩
   refine⟨b,_,rfl,ag,by omega,by omega,fun jL H5 jv i9 yK uZ k5=>⟨rfl,b,NF,HE,_,some jL,rfl,aJ.z,yK,?_⟩⟩
   exact xy (qE p (.inl ⟨rfl,vK ev⟩) (Nat.le_refl _) hp) hb (by rw[aj i9] at jv;exact jv) i9 uZ k5
  |true=>
  obtain⟨c,hc,cG⟩:=(nY 65 90).mp ev
  obtain⟨e1,e2⟩:=dz hc
  refine dG ?_
  refine⟨_,rfl,r,R,dx,_,_,rfl,hR,T.av,T.bz,aX _ _,?_⟩
  refine⟨_,rfl,r,R,dx,_,_,rfl,hR,T.av,T.bz,aX _ _,_,_,rfl,rfl,dx,_,hR,i7 _ _,?_⟩
  have du:(upd H r (.ins R dx (df "place" (.int ((p:Int)+1)) (fE x p)))) r=some (.ins R dx (fE x (p+1))):=by
   rw[ag]
   exact congrArg (fun z=>some (HO.ins R dx z)) (i6 x p (p+1))
  have k1:Kept r H (upd H r (.ins R dx (df "place" (.int ((p:Int)+1)) (fE x p)))):=fun b o z w=>by rw[aj w];exact z
  generalize upd H r _=H1 at du k1 ⊢
  refine⟨fun m σ H'=>∃j:Nat,m+j=2∧p+1+j≤x.length∧(∃w,sf x (p+1)=w++sf x (p+1+j)∧w.length=j∧w.all jq=true)∧σ=[some (.ref r),some (.int p),none]∧cJ R H' r x (p+1+j)∧Kept r H H',⟨2,0,rfl,e2,⟨[],rfl,rfl,rfl⟩,rfl,⟨dx,du⟩,k1⟩,?_⟩
  rintro m σ H' ⟨j,hm,hj,⟨w,ew,wl,wf⟩,rfl,⟨cZ,cL⟩,kk⟩
  refine⟨_,rfl,r,cZ,_,rfl,cL,aF _ _ (by decide+kernel) (by decide+kernel),r,x,p+1+j,rfl,⟨cZ,cL⟩,hj,hx,_,rfl,kz _ _,_,rfl,?_⟩
  by_cases hf:inR 97 122 (eY x (p+1+j))=true∧j<2
  ·obtain⟨ev,XH⟩:=hf
   obtain⟨b,hb,bS⟩:=(nY 97 122).mp ev
   rw[ev]
   refine cq ⟨_,rfl,r,R,cZ,_,_,rfl,cL,T.av,T.bz,aX _ _,_,rfl,_,_,rfl,rfl,_,_,rfl,rfl,_,rfl,cA (by omega) ?_⟩
   refine⟨_,fun σ' cx h=>⟨m - 1,by omega,h⟩,?_⟩
   obtain⟨f1,f2⟩:=dz hb
   refine⟨_,rfl,r,R,cZ,_,_,rfl,cL,T.av,T.bz,aX _ _,_,_,rfl,rfl,cZ,_,cL,i7 _ _,?_⟩
   refine⟨j+1,by omega,f2,⟨w++[b],by rw[ew,f1,List.append_assoc];rfl,by rw[List.length_append,wl];rfl,by rw[List.all_append,wf];simpa [jq] using bS⟩,rfl,⟨cZ,?_⟩,fun b o z w=>?_⟩
   ·rw[ag]
    exact congrArg (fun z=>some (HO.ins R cZ z)) (i6 x (p+1+j) (p+1+j+1))
   ·rw[aj w];exact kk b o z w
  have he:(c::w).length=3∨Not jq (sf x (p+1+j)):=by
   cases ev:inR 97 122 (eY x (p+1+j)) with
   |true=>exact .inl (by have:¬j<2:=fun z=>hf ⟨ev,z⟩;rw[List.length_cons];omega)
   |false=>exact .inr (vK ev)
  have QG:sf x p=(c::w)++sf x (p+1+j):=by rw[e1,ew];rfl
  have ok:tF (c::w):=⟨c,w,rfl,by simpa [iy] using cG,wf,by omega⟩
  have ec:Txt.slice x (some (p:Int)) (some ((p+1+j:Nat):Int))=⟨(c::w).toArray⟩:=by
   obtain⟨w',a1,a2,a3⟩:=AN (x:=x) (p:=p) (j:=1+j) (by omega)
   rw[←Nat.add_assoc] at a1 a3
   rw[a3,List.append_cancel_right (a1.symm.trans QG)]
  cases ev:inR 97 122 (eY x (p+1+j))
  case' true=>
   refine cq ⟨_,rfl,r,R,cZ,_,_,rfl,cL,T.av,T.bz,aX _ _,_,rfl,_,_,rfl,rfl,_,_,rfl,rfl,_,rfl,cu (by have:¬j<2:=fun z=>hf ⟨ev,z⟩;omega) ?_⟩
  case' false=>
   refine dG (dG ?_)
  all_goals
   refine⟨_,rfl,r,R,cZ,_,_,rfl,cL,T.av,T.i8,fF _ _,_,rfl,_,rfl,_,rfl,r,R,cZ,_,_,rfl,cL,T.av,T.bz,aX _ _,_,rfl,x,rfl,by omega,?_⟩
   rw[ec]
   refine⟨_,rfl,_,rfl,r,cZ,_,rfl,cL,aF _ _ (by decide+kernel) (by decide+kernel),r,x,p+1+j,rfl,⟨cZ,cL⟩,hj,hx,fun n q' H2 hN DK hq ia k2=>?_,fun e hB VZ vy=>(qE e (.inr ⟨c::w,_,QG,ok,he,hB⟩) (by omega) vy).on kk cL⟩
   obtain⟨jL,ia⟩:=ia
   refine fun a da na XJ Zv=>⟨a,da,_,n,rfl,ag,fun H3 h3 k3=>⟨rfl,?_⟩⟩
   have s3:ay H2 H3:=fun b o z=>k3 b o (by rw[aj (ai z na),aj (ai z XJ)];exact z) (ai z na)
   have kf:=(kk.trans k2)
   exact q (c::w) n q' a H3 ⟨_,QG,ok,he,hN⟩ (by omega) hq (aW kf ia na) ⟨da,h3⟩ ⟨jL,s3 _ _ ia⟩ (kf.trans (Kept.of s3))
variable {HE NF TL:Addr}
def tN(NF C G R:Addr)(d:Nat):Sp:=fun vs H Q E=>∃(r:Addr) (x:Str) (p a:Nat),vs=[.ref r, .int a]∧cJ R H r x p∧p≤x.length∧x.length≤1000∧a+d=4∧
 (∀t q y H',oE d (sf x p) t (sf x q)→p<q→q≤x.length→H y=none→G2 C G d H H' y t→cJ R H' r x q→Kept r H H'→Q (.ref y) H')∧(∀e,G6 d (sf x p) (sf x e)→p≤e→e≤x.length→Rz NF H r E e)
def lG(NF C G R:Addr):Nat→Sp
 |0=>fun _ _ _ _=>False
 |d+1=>fun vs H Q E=>∃(r:Addr) (x:Str) (p a:Nat) (u':List Nat),vs=[.ref r, .int a]∧cJ R H r x p∧p≤x.length∧x.length≤1000∧a+d+1=4∧sf x p=40::u'∧
  (∀ts n w q y H',DH (oE d) u' ts (41::w)→kD 3 w n (sf x q)→p<q→q≤x.length→H y=none→G2 C G (d+1) H H' y (.gr ts n)→cJ R H' r x q→Kept r H H'→Q (.ref y) H')∧
  (∀e,(IX (oE d) (G6 d) u' (sf x e)∨(∃ts,DH (oE d) u' ts (sf x e)∧(sf x e).head? ≠some 41)∨∃ts w,DH (oE d) u' ts (41::w)∧rC w (sf x e))→p≤e→e≤x.length→Rz NF H r E e)
def i'(NF C G R:Addr)(d:Nat):Sp:=fun vs H Q E=>∃(r:Addr) (x:Str) (p a:Nat),vs=[.ref r, .int a]∧cJ R H r x p∧p≤x.length∧x.length≤1000∧a+d=4∧
 (∀ts q l H',DH (oE d) (sf x p) ts (sf x q)→p<q→q≤x.length→Ko C G d H H' l ts→cJ R H' r x q→Kept r H H'→Q (.ref l) H')∧(∀e,IX (oE d) (G6 d) (sf x p) (sf x e)→p≤e→e≤x.length→Rz NF H r E e)
theorem lX.lt{x:Str}{p q:Nat}{k:List Nat}{n:Int}(h:lX (sf x p) k n (sf x q))(hp:p≤x.length)(hq:q≤x.length):p<q:=by
 obtain⟨w,e,⟨c,r,rfl,_⟩,_,e2,_⟩:=h
 have:=congrArg List.length e
 rw[e2,List.length_append,List.length_append,iL,iL,List.length_cons] at this
 omega
theorem pQ(d:Nat)(D:bU K R "read_part" "Reader.read_part" nL ["self","around"])(T:rp K mg C R G uK uN uB uE uM)(c1:c9 P w K mg base 1 R "sign" ["self"] (hV R))(c2:aY P w K mg base 5 R "read_atom" ["self"] (nZ NF C R))(c3:aY P w K mg base (3*d+5) R "read_group" ["self","around"] (lG NF C G R d)):
  aY P w K mg base (3*d+6) R "read_part" ["self","around"] (tN NF C G R d):=by
 obtain⟨_,_,ar⟩:=c1
 obtain⟨_,_,dB⟩:=c2
 obtain⟨_,_,dh⟩:=c3
 refine D.gW DE (fun vs H Q E h=>?_) (fun f bj A outer s H vs Q E hr h=>?_)
 ·obtain⟨r,x,p,a,rfl,_⟩:=h
  rfl
 ·obtain⟨r,x,p,a,rfl,⟨dx,hR⟩,hp,hx,ha,q,qE⟩:=h
  refine⟨_,(af
     (bc (PW.pt (cy (aA bh (bI (pv 0) T.av ar.m ar.ok (hr.mono (by omega)) ar.b .nil aP) (a8 (v:= .str "(") rfl T.er ⟨_,rfl⟩) (aE _)) (cw (aA Jw (pv 1) (a8 (v:= .int 3) rfl T.iJ ⟨_,rfl⟩) (aE _)))))
      (aq
       (az (bD (pv 0) T.av dh.m dh.ok (hr.mono (by omega)) dh.b .nil aU (aa (pv 1) ao))))
      aK)
    (aq
     (az (bO (pv 0) T.av dB.m dB.ok (hr.mono (by omega)) dB.b .nil aU)))),?_⟩
  refine⟨_,rfl,r,dx,_,rfl,hR,aF _ _ (by decide+kernel) (by decide+kernel),r,x,p,rfl,⟨dx,hR⟩,hp,hx,rfl,_,rfl,?_⟩
  have atom:∀{k:List Nat} {n:Int} {y:Addr} {H':Hp},H y=none→fB C H' y ⟨k.toArray⟩ n→G2 C G d H H' y (.one k n):=fun {k n y H'} ny hA cx ke=>by
   obtain⟨dy,hA⟩:=hA
   have e:ef C G d cx y (.one k n)=fB C cx y ⟨k.toArray⟩ n:=by cases d<;>rfl
   rw[e]
   exact⟨dy,ke _ _ ny hA⟩
  by_cases jW:(sf x p).head? =some 40
  ·refine cA (by rw[G3];exact dU.mpr jW) ?_
   obtain⟨e1,e2⟩:=dz jW
   cases d with
   |zero=>
    refine⟨_,rfl,_,_,rfl,rfl,_,rfl,cu (by omega) ?_⟩
    exact⟨_,rfl,r,dx,_,rfl,hR,aF _ _ (by decide+kernel) (by decide+kernel),r,x,p,rfl,⟨dx,hR⟩,hp,hx,fun k n q' y H' hA DK hq ny hy cL kp=>q (.one k n) q' y H' ⟨k,n,rfl,hA⟩ (hA.lt hp hq) hq ny (atom ny hy) cL kp,fun e hB=>qE e hB⟩
   |succ d=>
    refine⟨_,rfl,_,_,rfl,rfl,_,rfl,cA (by omega) ?_⟩
    exact⟨_,rfl,r,dx,_,rfl,hR,aF _ _ (by decide+kernel) (by decide+kernel),_,rfl,r,x,p,a,_,rfl,⟨dx,hR⟩,hp,hx,by omega,e1,fun ts n w q' y H' hS hN DK hq ny hy cL kp=>q (.gr ts n) q' y H' (.inr ⟨_,ts,n,w,e1,rfl,hS,hN⟩) DK hq ny hy cL kp,fun e hB=>qE e (.inr ⟨_,e1,hB⟩)⟩
  ·refine cu (by rw[G3];exact fun z=>jW (dU.mp z)) ?_
   refine⟨_,rfl,r,dx,_,rfl,hR,aF _ _ (by decide+kernel) (by decide+kernel),r,x,p,rfl,⟨dx,hR⟩,hp,hx,fun k n q' y H' hA DK hq ny hy cL kp=>q (.one k n) q' y H' ?_ (hA.lt hp hq) hq ny (atom ny hy) cL kp,fun e hB=>qE e ?_⟩
   ·cases d with
    |zero=>exact⟨k,n,rfl,hA⟩
    |succ d=>exact .inl ⟨jW,k,n,rfl,hA⟩
   ·cases d with
    |zero=>exact hB
    |succ d=>exact .inl ⟨jW,hB⟩
variable {HE NF TL:Addr}
theorem tO(D:bU K R "read_group" "Reader.read_group" i0 ["self","around"]):aY P w K mg base 5 R "read_group" ["self","around"] (lG NF C G R 0):=
 D.gW (k:=4) nR (fun vs H Q E h=>h.elim) (fun f bj A outer s H vs Q E hr h=>h.elim)
theorem vO(d:Nat)(D:bU K R "read_group" "Reader.read_group" i0 ["self","around"])(T:rp K mg C R G uK uN uB uE uM)(c1:aY P w K mg base 3 R "take" ["self","sign"] (hX NF R))(c2:aY P w K mg base 4 R "read_count" ["self"] (fk NF R))(c3:aY P w K mg base (3*d+7) R "read_parts" ["self","around"] (i' NF C G R d))
  (c4:fz P w K mg base 1 G ["self","parts","count"] [1] (kA G)):aY P w K mg base (3*d+8) R "read_group" ["self","around"] (lG NF C G R (d+1)):=by
 obtain⟨_,_,aD⟩:=c1
 obtain⟨_,_,aI⟩:=c2
 obtain⟨_,_,aZ⟩:=c3
 obtain⟨_,_,eZ⟩:=c4
 obtain⟨_,yM,yN⟩:=eZ.b 1 (by decide)
 refine D.gW nR (fun vs H Q E h=>?_) (fun f bj A outer s H vs Q E hr h=>?_)
 ·obtain⟨r,x,p,a,u',rfl,_⟩:=h
  rfl
 ·obtain⟨r,x,p,a,u',rfl,⟨dx,hR⟩,hp,hx,ha,hu,q,qE⟩:=h
  refine⟨_,(af
     (bE (bD (pv 0) T.av aD.m aD.ok (hr.mono (by omega)) aD.b .nil aU (aa (a8 (v:= .str "(") rfl T.er ⟨_,rfl⟩) ao)))
    (af
     (aH (i:=2) nR.nd rfl (Or.inl rfl) (bD (pv 0) T.av aZ.m aZ.ok (hr.mono (by omega)) aZ.b .nil aU (aa (au bo (pv 1) ah) ao)))
    (af
     (bE (bD (pv 0) T.av aD.m aD.ok (hr.mono (by omega)) aD.b .nil aU (aa (a8 (v:= .str ")") rfl T.lU ⟨_,rfl⟩) ao)))
    (aq
     (az (fO eZ.m eZ.ok (hr.mono (by omega)) rfl T.DD yN yM aP (aa (pv 2) (aa (bO (pv 0) T.av aI.m aI.ok (hr.mono (by omega)) aI.b .nil aU) ao)))))))),?_⟩
  have jW:(sf x p).head? =some 40:=by rw[hu];rfl
  obtain⟨eu,e2⟩:=dz jW
  have XM:u'=sf x (p+1):=by rw[hu] at eu;injection eu
  subst XM
  refine⟨_,rfl,r,dx,_,rfl,hR,aF _ _ (by decide+kernel) (by decide+kernel),r,x,p,40,congrArg (fun z=>[V.ref r,V.str z]) G3,⟨dx,hR⟩,hp,hx,fun _ H1 du k1=>?_,fun n=>absurd jW n⟩
  obtain⟨mn,du⟩:=du
  refine⟨_,rfl,r,mn,_,rfl,du,aF _ _ (by decide+kernel) (by decide+kernel),_,rfl,_,_,rfl,rfl,r,x,p+1,a+1,rfl,⟨mn,du⟩,e2,hx,by omega,fun ts q2 l H2 hS V0 tP hN ia k2=>?_,fun e hB h1 h2=>(qE e (.inl hB) (by omega) h2).on k1 du⟩
  obtain⟨jL,ia⟩:=ia
  obtain⟨sU,ps,wW,C7⟩:=hN
  refine⟨_,rfl,r,jL,_,rfl,ia,aF _ _ (by decide+kernel) (by decide+kernel),r,x,q2,41,congrArg (fun z=>[V.ref r,V.str z]) QA,⟨jL,ia⟩,tP,hx,fun tQ H3 fb k3=>?_,fun n=>(qE q2 (.inr (.inl ⟨ts,hS,n⟩)) (by omega) tP).on (k1.trans k2) ia⟩
  obtain⟨tR,fb⟩:=fb
  obtain⟨e3,XN⟩:=dz tQ
  rw[e3] at hS
  refine⟨_,rfl,_,rfl,r,tR,_,rfl,fb,aF _ _ (by decide+kernel) (by decide+kernel),r,x,q2+1,rfl,⟨tR,fb⟩,XN,hx,fun n q4 H4 Kx QH AU oN k4=>?_,fun e hB h1 h2=>(qE e (.inr (.inr ⟨ts,_,hS,hB⟩)) (by omega) h2).on ((k1.trans k2).trans k3) fb⟩
  obtain⟨E',oN⟩:=oN
  have OG:l≠r:=fun z=>by rw[z,du] at sU;cases sU
  have QI:=k4 _ _ (k3 _ _ wW OG) OG
  refine fun g dg ng Fb neg=>⟨g,dg,l,n,ps.map V.ref,rfl,ag,?_,fun m H5 hm hg IZ kp=>⟨rfl,?_⟩⟩
  ·rw[aj (ai QI ng),aj (ai QI Fb)];exact QI
  have s5:ay H4 H5:=fun b o z=>kp b o (by rw[aj (ai z ng),aj (ai z Fb)];exact z) (ai z ng)
  have kf:Kept r H H4:=((k1.trans k2).trans k3).trans k4
  refine q ts n _ q4 g H5 hS Kx (by omega) AU (aW kf oN ng) (fun cx ke=>?_) ⟨E',s5 _ _ oN⟩ (kf.trans (Kept.of s5))
  refine⟨dg,m,ps,ke _ _ (aW kf oN ng) hg,ke _ _ (aW kf oN (eh hm)) IZ,C7 cx fun b o z1 z2=>?_⟩
  have zC:b≠r:=fun z=>by rw[z,du] at z1;cases z1
  exact ke _ _ (aW k1 du z1) (s5 _ _ (k4 _ _ (k3 _ _ z2 zC) zC))
theorem n5(d:Nat)(D:bU K R "read_parts" "Reader.read_parts" kj ["self","around"])(T:rp K mg C R G uK uN uB uE uM)(c1:c9 P w K mg base 1 R "sign" ["self"] (hV R))(c2:bx P w K mg base 1 "is_great" ["sign"] (E8 65 90))(c3:aY P w K mg base (3*d+6) R "read_part" ["self","around"] (tN NF C G R d)):
  aY P w K mg base (3*d+7) R "read_parts" ["self","around"] (i' NF C G R d):=by
 obtain⟨_,_,ar⟩:=c1
 obtain⟨_,_,cH⟩:=c2
 obtain⟨_,_,bQ⟩:=c3
 refine D.gW tH (fun vs H Q E h=>?_) (fun f bj A outer s H vs Q E hr h=>?_)
 ·obtain⟨r,x,p,a,rfl,_⟩:=h
  rfl
 ·obtain⟨r,x,p,a,rfl,⟨dx,hR⟩,hp,hx,ha,q,qE⟩:=h
  have big:(2000 :Nat)≤sizeLine:=by decide
  refine⟨_,(af
     (aH (i:=2) tH.nd rfl (Or.inl rfl) (cm (aa (bD (pv 0) T.av bQ.m bQ.ok (hr.mono (by omega)) bQ.b .nil aU (aa (pv 1) ao)) ao)))
    (af
     (gq jK (PW.pt (zO (eP (aN cH.ok (hr.mono (by omega)) rfl cH.g cH.kp cH.b .nil aP (aa (bI (pv 0) T.av ar.m ar.ok (hr.mono (by omega)) ar.b .nil aP) ao))) (vc (aA bh (bI (pv 0) T.av ar.m ar.ok (hr.mono (by omega)) ar.b .nil aP) (a8 (v:= .str "(") rfl T.er ⟨_,rfl⟩) (aE _)))))
      (aq
       (bE (fw PySem.F.plainAttrs_list PySem.F.slot_list_append PySem.F.type_list_append dE (pv 2) (aa (bD (pv 0) T.av bQ.m bQ.ok (hr.mono (by omega)) bQ.b .nil aU (aa (pv 1) ao)) ao)))))
    (aq
     (az (pv 2))))),?_⟩
  refine⟨_,rfl,r,dx,_,rfl,hR,aF _ _ (by decide+kernel) (by decide+kernel),_,rfl,r,x,p,a,rfl,⟨dx,hR⟩,hp,hx,ha,fun t q1 y H1 hP DK Cr ny hN du k1=>⟨(by show 1≤sizeLine;decide),fun L hL=>?_⟩,fun e hB=>qE e (.inl hB)⟩
  obtain⟨mn,du⟩:=du
  have xA:H L=none:=aW k1 du hL
  have oO:L≠r:=fun z=>by rw[z,du] at hL;cases hL
  refine⟨fun m σ H'=>∃q' ts,m+q'=x.length∧p<q'∧Sq (oE d) (sf x p) ts (sf x q')∧σ=[some (.ref r),some (.int a),some (.ref L)]∧cJ R H' r x q'∧Kept r H H'∧∃ps,H' L=some (.lst (ps.map V.ref))∧ps.length≤q'∧Paired (Qz C G L d H H') ps ts,⟨x.length - q1,q1,[t],by omega,DK, .one t _ hP,rfl,⟨mn,?_⟩,?_,[y],ag,by show 1≤q1;omega,?_⟩,?_⟩
  ·rw[aj (Ne.symm oO),du]
  ·exact k1.trans (Kept.of (ay.new hL))
  ·refine .cons (fun cx ke=>hN cx fun b o z1 z2=>?_) .nil
   have AV:b≠L:=ai z2 hL
   exact ke b o z1 AV (by rw[aj AV];exact z2)
  rintro m σ H' ⟨q',ts,hm,QJ,hS,rfl,⟨cZ,cL⟩,kk,ps,G9,k7,hP⟩
  have iC:q'≤x.length:=by omega
  refine⟨_,rfl,r,cZ,_,rfl,cL,aF _ _ (by decide+kernel) (by decide+kernel),r,x,q',rfl,⟨cZ,cL⟩,iC,hx,_,rfl,kz _ _,_,rfl,?_⟩
  by_cases hM:More (sf x q')
  ·obtain⟨c,hc,Oh⟩:=id hM
   have C7:ps.length<sizeLine:=by omega
   rcases Oh with hg|QK
   case' inl=>
    have ev:inR 65 90 (eY x q')=true:=(nY 65 90).mpr ⟨c,hc,hg⟩
    rw[ev]
    refine cq (cq ?_)
   case' inr=>
    subst QK
    have ev:inR 65 90 (eY x q')=false:=by
     cases ev:inR 65 90 (eY x q') with
     |false=>rfl
     |true=>
      obtain⟨b,hb,uY⟩:=(nY 65 90).mp ev
      rw[hc] at hb
      cases hb
      cases uY
    rw[ev]
    refine dG ⟨_,rfl,r,cZ,_,rfl,cL,aF _ _ (by decide+kernel) (by decide+kernel),r,x,_,rfl,⟨cZ,cL⟩,iC,hx,rfl,_,rfl,cA (by rw[G3];exact dU.mpr hc) ?_⟩
   all_goals
    refine⟨_,fun σ' cx h=>h,?_⟩
    refine⟨_,rfl, .inl ⟨rfl,_,cz.of G9⟩,_,rfl,r,cZ,_,rfl,cL,aF _ _ (by decide+kernel) (by decide+kernel),_,rfl,r,x,q',a,rfl,⟨cZ,cL⟩,iC,hx,ha,fun t q2 y H2 hT V0 tP ny hN ia k2=>?_,fun e hB h1 h2=>(qE e (.inr ⟨ts,_,hS,hM,hB⟩) (by omega) h2).on kk cL⟩
    obtain⟨jL,ia⟩:=ia
    have XO:=k2 _ _ G9 oO
    refine⟨L,_,_,rfl,rfl,XO,by rw[List.length_map];exact C7,?_⟩
    refine⟨x.length - q2,by omega,q2,ts++[t],by omega,by omega, .snoc ts _ t _ hS hM hT,rfl,⟨jL,?_⟩,fun b o z w=>?_,ps++[y],by rw[ag,List.map_append];rfl,by rw[List.length_append];show ps.length+1≤q2;omega,?_⟩
    ·rw[aj (Ne.symm oO),ia]
    ·rw[aj (ai z xA)]
     exact k2 _ _ (kk _ _ z w) w
    ·refine eK (fun cx ke=>hN cx fun b o z1 z2=>?_) (bA (fun c t h cx ke=>h cx fun b o z1 z2 z3=>ke b o z1 z2 ?_) hP)
     ·have AV:b≠L:=fun z=>by rw[z,G9] at z1;cases z1
      exact ke b o (aW kk cL z1) AV (by rw[aj AV];exact z2)
     ·have zC:b≠r:=fun z=>by rw[z,hR] at z1;cases z1
      rw[aj z2]
      exact k2 _ _ z3 zC
  ·have ev:inR 65 90 (eY x q')=false:=by
    cases ev:inR 65 90 (eY x q') with
    |false=>rfl
    |true=>
     obtain⟨b,hb,uY⟩:=(nY 65 90).mp ev
     exact absurd ⟨b,hb, .inl uY⟩ hM
   rw[ev]
   refine dG ⟨_,rfl,r,cZ,_,rfl,cL,aF _ _ (by decide+kernel) (by decide+kernel),r,x,_,rfl,⟨cZ,cL⟩,iC,hx,rfl,_,rfl,cu (by rw[G3];exact fun z=>hM ⟨40,dU.mp z, .inr rfl⟩) ?_⟩
   exact⟨_,rfl,q ts q' L H' ⟨hS,hM⟩ QJ iC ⟨xA,ps,G9,fun cx ke=>bA (fun c t h=>h cx fun b o z1 _ z3=>ke b o z1 z3) hP⟩ ⟨cZ,cL⟩ kk⟩
theorem pR(D1:bU K R "read_group" "Reader.read_group" i0 ["self","around"])(D2:bU K R "read_part" "Reader.read_part" nL ["self","around"])(D3:bU K R "read_parts" "Reader.read_parts" kj ["self","around"])(T:rp K mg C R G uK uN uB uE uM)
  (c1:c9 P w K mg base 1 R "sign" ["self"] (hV R)) (c2:bx P w K mg base 1 "is_great" ["sign"] (E8 65 90)) (c3:aY P w K mg base 5 R "read_atom" ["self"] (nZ NF C R)) (c4:aY P w K mg base 3 R "take" ["self","sign"] (hX NF R)) (c5:aY P w K mg base 4 R "read_count" ["self"] (fk NF R))
  (c6:fz P w K mg base 1 G ["self","parts","count"] [1] (kA G)):∀d:Nat,aY P w K mg base (3*d+7) R "read_parts" ["self","around"] (i' NF C G R d)
 |0=>n5 0 D3 T c1 c2 (pQ 0 D2 T c1 c3 (tO D1))
 |d+1=>n5 (d+1) D3 T c1 c2 (pQ (d+1) D2 T c1 c3 (by rw[show 3*(d+1)+5=3*d+8 by omega];exact vO d D1 T c4 c5 (pR D1 D2 D3 T c1 c2 c3 c4 c5 c6 d) c6))
variable {HE NF TL:Addr}{uC uP uI uD uL uT:Tok}
def n6(NF R:Addr):Sp:=fun vs H Q E=>∃(r:Addr) (x:Str) (p:Nat),vs=[.ref r]∧cJ R H r x p∧p≤x.length∧x.length≤1000∧
 (∀n q H',OE (sf x p) n (sf x q)→p≤q→q≤x.length→cJ R H' r x q→Kept r H H'→Q (.int n) H')∧(∀e,VU (sf x p) (sf x e)→p≤e→e≤x.length→Rz NF H r E e)
theorem tS(D:bU K R "read_charge" "Reader.read_charge" kn ["self"])(T:Kp K mg C R uK uN uC uP uI)(c1:c9 P w K mg base 1 R "sign" ["self"] (hV R))(c2:aY P w K mg base 3 R "take" ["self","sign"] (hX NF R))(c3:aY P w K mg base 4 R "read_count" ["self"] (fk NF R)):
  aY P w K mg base 5 R "read_charge" ["self"] (n6 NF R):=by
 obtain⟨_,_,ar⟩:=c1
 obtain⟨_,_,aD⟩:=c2
 obtain⟨_,_,aI⟩:=c3
 refine D.gW pM (fun vs H Q E h=>?_) (fun f bj A outer s H vs Q E hr h=>?_)
 ·obtain⟨r,x,p,rfl,_⟩:=h
  rfl
 ·obtain⟨r,x,p,rfl,⟨dx,hR⟩,hp,hx,q,qE⟩:=h
  refine⟨_,(af
     (bc (aA wQ (bI (pv 0) T.av ar.m ar.ok (hr.mono (by decide)) ar.b .nil aP) (a8 (v:= .str "^") rfl T.gi ⟨_,rfl⟩) (aE _))
      (aq
       (az ah))
      aK)
    (af
     (bE (bD (pv 0) T.av aD.m aD.ok (hr.mono (by decide)) aD.b .nil aU (aa (a8 (v:= .str "^") rfl T.gi ⟨_,rfl⟩) ao)))
    (af
     (aH (i:=1) pM.nd rfl (Or.inl rfl) (bO (pv 0) T.av aI.m aI.ok (hr.mono (by decide)) aI.b .nil aU))
    (af
     (bc (aA bh (bI (pv 0) T.av ar.m ar.ok (hr.mono (by decide)) ar.b .nil aP) (a8 (v:= .str "-") rfl T.rq ⟨_,rfl⟩) (aE _))
      (af
       (bE (bD (pv 0) T.av aD.m aD.ok (hr.mono (by decide)) aD.b .nil aU (aa (a8 (v:= .str "-") rfl T.rq ⟨_,rfl⟩) ao)))
      (aq
       (az (lQ iA (pv 1)))))
      aK)
    (af
     (bE (bD (pv 0) T.av aD.m aD.ok (hr.mono (by decide)) aD.b .nil aU (aa (a8 (v:= .str "+") rfl T.AK ⟨_,rfl⟩) ao)))
    (aq
     (az (pv 1)))))))),?_⟩
  refine⟨_,rfl,r,dx,_,rfl,hR,aF _ _ (by decide+kernel) (by decide+kernel),r,x,p,rfl,⟨dx,hR⟩,hp,hx,rfl,_,rfl,?_⟩
  by_cases h0:(sf x p).head? =some 94
  ·have eq:V.str (eY x p)=V.str "^" :=by rw[Kq];exact dU.mpr h0
   rw[decide_eq_true eq]
   refine dG ?_
   obtain⟨e1,e2⟩:=dz h0
   refine⟨_,rfl,r,dx,_,rfl,hR,aF _ _ (by decide+kernel) (by decide+kernel),r,x,p,94,congrArg (fun z=>[V.ref r,V.str z]) Kq,⟨dx,hR⟩,hp,hx,fun _ H1 du k1=>?_,fun n=>absurd h0 n⟩
   obtain⟨mn,du⟩:=du
   refine⟨_,rfl,r,mn,_,rfl,du,aF _ _ (by decide+kernel) (by decide+kernel),r,x,p+1,rfl,⟨mn,du⟩,e2,hx,fun m q2 H2 hN V0 tP ia k2=>?_,fun e hB h1 h2=>(qE e ⟨_,e1, .inl hB⟩ (by omega) h2).on k1 du⟩
   obtain⟨jL,ia⟩:=ia
   have kk:=k1.trans k2
   refine⟨_,rfl,r,jL,_,rfl,ia,aF _ _ (by decide+kernel) (by decide+kernel),r,x,_,rfl,⟨jL,ia⟩,tP,hx,rfl,_,rfl,?_⟩
   by_cases oP:(sf x q2).head? =some 45
   ·obtain⟨f1,f2⟩:=dz oP
    refine cA (by rw[Kr];exact dU.mpr oP) ?_
    refine⟨_,rfl,r,jL,_,rfl,ia,aF _ _ (by decide+kernel) (by decide+kernel),r,x,q2,45,congrArg (fun z=>[V.ref r,V.str z]) Kr,⟨jL,ia⟩,tP,hx,fun _ H3 fb k3=>?_,fun n=>absurd oP n⟩
    exact⟨_,rfl,_,rfl,q (-m) (q2+1) H3 (.inr ⟨_,m,_,e1,hN, .inl ⟨f1,rfl⟩⟩) (by omega) f2 fb (kk.trans k3)⟩
   ·refine cu (by rw[Kr];exact fun z=>oP (dU.mp z)) ?_
    refine⟨_,rfl,r,jL,_,rfl,ia,aF _ _ (by decide+kernel) (by decide+kernel),r,x,q2,43,congrArg (fun z=>[V.ref r,V.str z]) QB,⟨jL,ia⟩,tP,hx,fun Ky H3 fb k3=>?_,fun Ky=>(qE q2 ⟨_,e1, .inr ⟨m,hN,oP,Ky⟩⟩ (by omega) tP).on kk ia⟩
    obtain⟨f1,f2⟩:=dz Ky
    exact⟨_,rfl,q m (q2+1) H3 (.inr ⟨_,m,_,e1,hN, .inr ⟨f1,rfl⟩⟩) (by omega) f2 fb (kk.trans k3)⟩
  ·have ne:¬V.str (eY x p)=V.str "^" :=by rw[Kq];exact fun z=>h0 (dU.mp z)
   rw[decide_eq_false ne]
   exact cq (q 0 p H (.inl ⟨h0,rfl,rfl⟩) (Nat.le_refl _) hp ⟨dx,hR⟩ (Kept.refl r H))
def kG(NF C G Pc Fo R:Addr):Sp:=fun vs H Q E=>∃(r:Addr) (x:Str) (p:Nat),vs=[.ref r]∧cJ R H r x p∧p≤x.length∧x.length≤1000∧(sf x p).head? =some 101∧
 (sf x p=101::94::45::sf x (p+3)→p+3≤x.length→∀f H',H f=none→Kt C G Pc Fo 4 H H' f [] (-1)→cJ R H' r x (p+3)→Kept r H H'→Q (.ref f) H')∧(∀e,VW (sf x p) (sf x e)→p≤e→e≤x.length→Rz NF H r E e)
theorem oQ(D:bU K R "read_electron" "Reader.read_electron" gX ["self"])(T:oM K mg C R G Pc Fo uK uN uB uE uM uC uP uI uD uL uT)(c1:aY P w K mg base 4 R "take_all" ["self","signs"] (hZ NF R))(c2:fz P w K mg base 1 Fo ["self","pieces","charge"] [0] (rB Fo)):
  aY P w K mg base 5 R "read_electron" ["self"] (kG NF C G Pc Fo R):=by
 obtain⟨_,_,aR⟩:=c1
 obtain⟨_,_,bP⟩:=c2
 obtain⟨_,iN,iO⟩:=bP.b 1 (by decide)
 refine D.gW tJ (fun vs H Q E h=>?_) (fun f bj A outer s H vs Q E hr h=>?_)
 ·obtain⟨r,x,p,rfl,_⟩:=h
  rfl
 ·obtain⟨r,x,p,rfl,⟨dx,hR⟩,hp,hx,QL,q,qE⟩:=h
  refine⟨_,(af
     (bE (bD (pv 0) T.av aR.m aR.ok (hr.mono (by decide)) aR.b .nil aU (aa (a8 (v:= .str "e^-") rfl T.jQ ⟨_,rfl⟩) ao)))
    (aq
     (az (fO bP.m bP.ok (hr.mono (by decide)) rfl T.pP iO iN aP (aa (cm ao) (aa (lQ iA ah) ao)))))),?_⟩
  have ee:("e^-" :Str).cps.toList=[101,94,45]:=by decide+kernel
  have ea:("e^-" :Str).cps.all (· <128)=true:=by decide+kernel
  have el:("e^-" :Str).length=3:=by decide+kernel
  refine⟨_,rfl,r,dx,_,rfl,hR,aF _ _ (by decide+kernel) (by decide+kernel),r,x,p,_,rfl,ea,⟨dx,hR⟩,hp,hx,fun hs V1 H1 du k1=>?_,fun i c hc hs hn hl=>?_⟩
  ·obtain⟨mn,du⟩:=du
   rw[ee,el] at hs
   rw[el] at V1 du
   refine⟨(by show 0≤sizeLine;decide),fun l hl=>⟨1,rfl,fun g dg ng Fb neg=>⟨g,dg,l, -1,[],rfl,ag,?_,fun m H5 hm hg IZ kp=>⟨rfl,?_⟩⟩⟩⟩
   ·rw[aj (ai ag ng),aj (ai ag Fb)];exact ag
   have sl:ay H1 (upd H1 l (.lst [])):=ay.new hl
   have s5:ay (upd H1 l (.lst [])) H5:=fun b o z=>kp b o (by rw[aj (ai z ng),aj (ai z Fb)];exact z) (ai z ng)
   have kf:Kept r H (upd H1 l (.lst [])):=k1.trans (Kept.of sl)
   have OH:=sl _ _ du
   exact q hs V1 g H5 (aW kf OH ng) (fun cx ke=>⟨dg,m,[],ke _ _ (aW kf OH ng) hg,ke _ _ (aW kf OH (eh hm)) IZ, .nil⟩) ⟨mn,s5 _ _ OH⟩ (kf.trans (Kept.of s5))
  ·rw[ee] at hc hs
   refine qE (p+i) ?_ (by omega) hl
   match i,hc with
   |0,hc=>
    have:101=c:=by simpa using hc
    subst this
    exact absurd QL hn
   |1,hc=>
    have:94=c:=by simpa using hc
    subst this
    exact .inl ⟨hs,hn⟩
   |2,hc=>
    have:45=c:=by simpa using hc
    subst this
    exact .inr ⟨hs,hn⟩
def pS(NF C G Pc Fo R:Addr):Sp:=fun vs H Q E=>∃(r:Addr) (x:Str) (p:Nat),vs=[.ref r]∧cJ R H r x p∧p≤x.length∧x.length≤1000∧
 (∀xs n q f H',E9 (sf x p) xs n (sf x q)→p≤q→q≤x.length→H f=none→Kt C G Pc Fo 4 H H' f xs n→cJ R H' r x q→Kept r H H'→Q (.ref f) H')∧(∀e,Kv (sf x p) (sf x e)→p≤e→e≤x.length→Rz NF H r E e)
theorem vP(D:bU K R "read_whole" "Reader.read_whole" mF ["self"])(T:oM K mg C R G Pc Fo uK uN uB uE uM uC uP uI uD uL uT)(c1:c9 P w K mg base 1 R "sign" ["self"] (hV R))(c2:aY P w K mg base 3 R "take" ["self","sign"] (hX NF R))(c3:aY P w K mg base 4 R "read_count" ["self"] (fk NF R))(c4:aY P w K mg base 19 R "read_parts" ["self","around"] (i' NF C G R 4))
  (c5:aY P w K mg base 5 R "read_charge" ["self"] (n6 NF R)) (c6:aY P w K mg base 5 R "read_electron" ["self"] (kG NF C G Pc Fo R)) (c7:fz P w K mg base 1 Pc ["self","parts","count"] [1] (kA Pc)) (c8:fz P w K mg base 1 Fo ["self","pieces","charge"] [0] (rB Fo)):
  aY P w K mg base 20 R "read_whole" ["self"] (pS NF C G Pc Fo R):=by
 obtain⟨_,_,ar⟩:=c1
 obtain⟨_,_,aD⟩:=c2
 obtain⟨_,_,aI⟩:=c3
 obtain⟨_,_,aZ⟩:=c4
 obtain⟨_,_,cR⟩:=c5
 obtain⟨_,_,cI⟩:=c6
 obtain⟨_,_,dw⟩:=c7
 obtain⟨_,_,bP⟩:=c8
 obtain⟨_,yO,yP⟩:=dw.b 0 (by decide)
 obtain⟨_,yQ,yR⟩:=dw.b 1 (by decide)
 obtain⟨_,iN,iO⟩:=bP.b 1 (by decide)
 refine D.gW nX (fun vs H Q E h=>?_) (fun f bj A outer s H vs Q E hr h=>?_)
 ·obtain⟨r,x,p,rfl,_⟩:=h
  rfl
 ·obtain⟨r,x,p,rfl,⟨dx,hR⟩,hp,hx,q,qE⟩:=h
  have big:(2000 :Nat)≤sizeLine:=by decide
  refine⟨_,(af
     (bc (aA bh (bI (pv 0) T.av ar.m ar.ok (hr.mono (by decide)) ar.b .nil aP) (b8 gU (a8 (v:= .str "e^-") rfl T.jQ ⟨_,rfl⟩) ah (fun _ _=>rfl)) (aE _))
      (aq
       (az (bO (pv 0) T.av cI.m cI.ok (hr.mono (by decide)) cI.b .nil aU)))
      aK)
    (af
     (aH (i:=1) nX.nd rfl (Or.inl rfl) (cm (aa (fO dw.m dw.ok (hr.mono (by decide)) rfl T.xv yP yO aP (aa (bD (pv 0) T.av aZ.m aZ.ok (hr.mono (by decide)) aZ.b .nil aU (aa ah ao)) ao)) ao)))
    (af
     (gq jK (aA bh (bI (pv 0) T.av ar.m ar.ok (hr.mono (by decide)) ar.b .nil aP) (a8 (v:= .str ".") rfl T.iK ⟨_,rfl⟩) (aE _))
      (af
       (bE (bD (pv 0) T.av aD.m aD.ok (hr.mono (by decide)) aD.b .nil aU (aa (a8 (v:= .str ".") rfl T.iK ⟨_,rfl⟩) ao)))
      (af
       (aH (i:=2) nX.nd rfl (Or.inl rfl) (bO (pv 0) T.av aI.m aI.ok (hr.mono (by decide)) aI.b .nil aU))
      (aq
       (bE (fw PySem.F.plainAttrs_list PySem.F.slot_list_append PySem.F.type_list_append dE (pv 1) (aa (fO dw.m dw.ok (hr.mono (by decide)) rfl T.xv yR yQ aP (aa (bD (pv 0) T.av aZ.m aZ.ok (hr.mono (by decide)) aZ.b .nil aU (aa ah ao)) (aa (pv 2) ao))) ao)))))))
    (aq
     (az (fO bP.m bP.ok (hr.mono (by decide)) rfl T.pP iO iN aP (aa (pv 1) (aa (bO (pv 0) T.av cR.m cR.ok (hr.mono (by decide)) cR.b .nil aU) ao)))))))),?_⟩
  refine⟨_,rfl,r,dx,_,rfl,hR,aF _ _ (by decide+kernel) (by decide+kernel),r,x,p,rfl,⟨dx,hR⟩,hp,hx,"e^-",0,101,rfl,rfl,(by decide+kernel),(by decide+kernel),rfl,_,rfl,?_⟩
  by_cases h0:(sf x p).head? =some 101
  ·refine cA (dU.mpr h0) ?_
   exact⟨_,rfl,r,dx,_,rfl,hR,aF _ _ (by decide+kernel) (by decide+kernel),r,x,p,rfl,⟨dx,hR⟩,hp,hx,h0,fun hs hl f H' nf hF cL k'=>q [] (-1) (p+3) f H' (.inl ⟨hs,rfl,rfl⟩) (by omega) hl nf hF cL k',fun e hB=>qE e (.inl hB)⟩
  ·refine cu (fun z=>h0 (dU.mp z)) ?_
   refine⟨_,rfl,r,dx,_,rfl,hR,aF _ _ (by decide+kernel) (by decide+kernel),r,x,p,0,rfl,⟨dx,hR⟩,hp,hx,rfl,fun QM q1 l H1 hS Cr tT hN du k1=>?_,fun e hB=>qE e (.inr ⟨h0, .inl hB⟩)⟩
   obtain⟨mn,du⟩:=du
   obtain⟨Kz,V2,sU,QN⟩:=hN
   refine fun g dg ng Fb neg=>⟨g,dg,l,1,V2.map V.ref,rfl,ag,?_,fun m H2 hm hg IZ kp=>⟨rfl,(by show 1≤sizeLine;decide),fun L hL=>?_⟩⟩
   ·rw[aj (ai sU ng),aj (ai sU Fb)];exact sU
   have s2:ay H1 H2:=fun b o z=>kp b o (by rw[aj (ai z ng),aj (ai z Fb)];exact z) (ai z ng)
   have ia:=s2 _ _ du
   have k2:Kept r H H2:=k1.trans (Kept.of s2)
   have xA:H L=none:=aW k2 ia hL
   have oO:L≠r:=fun z=>by rw[z,ia] at hL;cases hL
   have sL:ay H2 (upd H2 L (.lst [V.ref g])):=ay.new hL
   have XQ:=aW k1 du ng
   have XR:=aW k1 du (eh hm)
   have first:Ks C G Pc L 4 H (upd H2 L (.lst [V.ref g])) g (1,QM):=fun cx ke=>
    ⟨dg,m,V2,ke _ _ XQ (ai hg hL) (sL _ _ hg),ke _ _ XR (ai IZ hL) (sL _ _ IZ),QN cx fun b o z1 z2=>ke b o z1 (ai (s2 _ _ z2) hL) (sL _ _ (s2 _ _ z2))⟩
   refine⟨fun k σ H'=>∃q' xs,k+q'=x.length∧p<q'∧Cq (sf x p) xs (sf x q')∧(∃v:Option V,σ=[some (.ref r),some (.ref L),v])∧cJ R H' r x q'∧Kept r H H'∧∃ps,H' L=some (.lst (ps.map V.ref))∧ps.length≤q'∧Paired (Ks C G Pc L 4 H H') ps xs,⟨x.length - q1,q1,[(1,QM)],by omega,Cr, .one QM _ hS,⟨none,rfl⟩,⟨mn,sL _ _ ia⟩,k2.trans (Kept.of sL),[g],ag,by show 1≤q1;omega, .cons first .nil⟩,?_⟩
   rintro k σ H' ⟨q',xs,hk,DK,Ja,⟨v,rfl⟩,⟨cZ,cL⟩,kk,ps,G9,k7,hP⟩
   have iC:q'≤x.length:=by omega
   refine⟨_,rfl,r,cZ,_,rfl,cL,aF _ _ (by decide+kernel) (by decide+kernel),r,x,_,rfl,⟨cZ,cL⟩,iC,hx,rfl,_,rfl,?_⟩
   by_cases DL:(sf x q').head? =some 46
   ·obtain⟨f1,f2⟩:=dz DL
    rw[f1] at Ja
    refine cA (by rw[Ku];exact dU.mpr DL) ?_
    refine⟨_,fun σ' cx h=>h,?_⟩
    refine⟨_,rfl,r,cZ,_,rfl,cL,aF _ _ (by decide+kernel) (by decide+kernel),r,x,q',46,congrArg (fun z=>[V.ref r,V.str z]) Ku,⟨cZ,cL⟩,iC,hx,fun _ H3 fb k3=>?_,fun n=>absurd DL n⟩
    obtain⟨tR,fb⟩:=fb
    refine⟨_,rfl,r,tR,_,rfl,fb,aF _ _ (by decide+kernel) (by decide+kernel),r,x,q'+1,rfl,⟨tR,fb⟩,f2,hx,fun c q4 H4 hC QH AU oN k4=>?_,fun e hB h1 h2=>(qE e (.inr ⟨h0, .inr (.inl ⟨xs,_,Ja, .inl hB⟩)⟩) (by omega) h2).on (kk.trans k3) fb⟩
    obtain⟨E',oN⟩:=oN
    have G':=k3.trans k4
    have AW:=G' _ _ G9 oO
    refine⟨_,rfl, .inl ⟨rfl,_,cz.of AW⟩,_,rfl,r,E',_,rfl,oN,aF _ _ (by decide+kernel) (by decide+kernel),r,x,q4,0,rfl,⟨E',oN⟩,AU,hx,rfl,fun OI q5 l' H5 XS Zw XT OJ KA k5=>?_,fun e hB h1 h2=>(qE e (.inr ⟨h0, .inr (.inl ⟨xs,_,Ja, .inr ⟨c,_,hC,hB⟩⟩)⟩) (by omega) h2).on (kk.trans G') oN⟩
    obtain⟨XU,KA⟩:=KA
    obtain⟨XW,OL,Ha,QO⟩:=OJ
    refine⟨_,rfl,fun g' KC zD AX QP=>⟨g',KC,l',c,OL.map V.ref,rfl,ag,?_,fun m' H6 QQ QR Hb QS=>⟨rfl,?_⟩⟩⟩
    ·rw[aj (ai Ha zD),aj (ai Ha AX)];exact Ha
    have s6:ay H5 H6:=fun b o z=>QS b o (by rw[aj (ai z zD),aj (ai z AX)];exact z) (ai z zD)
    have V3:Kept r H' H6:=(G'.trans k5).trans (Kept.of s6)
    have DM:=k5 _ _ AW oO
    have XX:=s6 _ _ DM
    have V4:Kept r H H4:=kk.trans G'
    have V5:Kept r H H5:=V4.trans k5
    refine⟨L,_,_,rfl,rfl,XX,by rw[List.length_map];omega,x.length - q5,by omega,q5,xs++[(c,OI)],by omega,by omega, .snoc xs _ c _ OI _ Ja hC XS,⟨_,rfl⟩,⟨XU,?_⟩,fun b o z w=>?_,ps++[g'],by rw[ag,List.map_append];rfl,by rw[List.length_append];show ps.length+1≤q5;omega,?_⟩
    ·rw[aj (Ne.symm oO),s6 _ _ KA]
    ·rw[aj (ai z xA)]
     exact V3 _ _ (kk _ _ z w) w
    ·refine eK (fun cx ke=>?_) (bA (fun c t h cx ke=>h cx fun b o z1 z2 z3=>ke b o z1 z2 ?_) hP)
     ·have u:∀{b o},H6 b=some o→b≠L→(upd H6 L (.lst (ps.map V.ref++[V.ref g']))) b=some o:=fun {b o} z w=>by rw[aj w];exact z
      have V6:g'≠L:=fun z=>by rw[z,DM] at zD;cases zD
      have jw:=eh QQ
      have V7:m'≠L:=fun z=>by rw[z,DM] at jw;cases jw
      refine⟨KC,m',OL,ke _ _ (aW V5 KA zD) V6 (u QR V6),ke _ _ (aW V5 KA jw) V7 (u Hb V7),QO cx fun b o z1 z2=>?_⟩
      have AV:b≠L:=fun z=>by rw[z,AW] at z1;cases z1
      exact ke b o (aW V4 oN z1) AV (u (s6 _ _ z2) AV)
     ·have zC:b≠r:=fun z=>by rw[z,hR] at z1;cases z1
      rw[aj z2]
      exact V3 _ _ z3 zC
   ·refine cu (by rw[Ku];exact fun z=>DL (dU.mp z)) ?_
    refine⟨_,rfl,_,rfl,r,cZ,_,rfl,cL,aF _ _ (by decide+kernel) (by decide+kernel),r,x,q',rfl,⟨cZ,cL⟩,iC,hx,fun n q3 H3 hC XY Hc fb k3=>?_,fun e hB h1 h2=>(qE e (.inr ⟨h0, .inr (.inr ⟨xs,_,Ja,DL,hB⟩)⟩) (by omega) h2).on kk cL⟩
    obtain⟨tR,fb⟩:=fb
    have yS:=k3 _ _ G9 oO
    have OM:=kk.trans k3
    refine fun g' KC zD AX QP=>⟨g',KC,L,n,ps.map V.ref,rfl,ag,?_,fun m' H6 QQ QR Hb QS=>⟨rfl,?_⟩⟩
    ·rw[aj (ai yS zD),aj (ai yS AX)];exact yS
    have s6:ay H3 H6:=fun b o z=>QS b o (by rw[aj (ai z zD),aj (ai z AX)];exact z) (ai z zD)
    refine q xs n q3 g' H6 (.inr ⟨h0,_,Ja,DL,hC⟩) (by omega) Hc (aW OM fb zD) (fun cx ke=>?_) ⟨tR,s6 _ _ fb⟩ (OM.trans (Kept.of s6))
    refine⟨KC,m',ps,ke _ _ (aW OM fb zD) QR,ke _ _ (aW OM fb (eh QQ)) Hb,bA (fun c t h=>h cx fun b o z1 z2 z3=>ke b o z1 ?_) hP⟩
    have zC:b≠r:=fun z=>by rw[z,hR] at z1;cases z1
    exact s6 _ _ (k3 _ _ z3 zC)
variable {HE NF TL:Addr}{uC uP uI uD uL uT:Tok}
def Rf(X:Addr)(fld:Str)(H:Hp)(E:XK)(e:Nat):Prop:=∀b dx H',H b=none→H dx=none→H' b=some (pD b X (some dx))→H' dx=some (zB dx [(fld, .int (e:Int))])→ay H H'→E (.ref X) (some dx) H'
def n8(TL:Addr):Sp:=fun vs H Q E=>∃x:Str,vs=[.str x]∧x.length≤10000∧(x.length≤400→Q .cn H)∧(400<x.length→Rf TL "many" H E x.length)
theorem tU(D:Def K mg "refuse_too_long" "refuse_too_long" kg ["text"])(T:oM K mg C R G Pc Fo uK uN uB uE uM uC uP uI uD uL uT)(TE:tK K mg HE NF TL)(c1:gf P w K mg base 1 "TooLong" TL HE ["self","many"] (iM TL "many")):ti P w K mg base 3 "refuse_too_long" ["text"] (n8 TL):=by
 obtain⟨_,_,fq⟩:=c1
 refine D.gW yJ (fun vs H Q E h=>?_) (fun f bj A outer s H vs Q E hr h=>?_)
 ·obtain⟨x,rfl,_⟩:=h
  rfl
 ·obtain⟨x,rfl,hx,q,qE⟩:=h
  have big:(10000 :Nat)≤sizeLine:=by decide
  refine⟨_,(aq
     (bc (aA iB (bJ cE rfl T.gI dZ (aa (pv 0) ao)) (a8 (v:= .int 400) rfl T.nW ⟨_,rfl⟩) (aE _))
      (aq
       (gF rfl aU (gE fq.z fq.ok (hr.mono (by decide)) rfl fq.g fq.kp fq.b (aa (bJ cE rfl T.gI dZ (aa (pv 0) ao)) ao))))
      aK)),?_⟩
  refine⟨_,rfl,x,rfl,by omega,_,_,rfl,rfl,_,rfl,?_⟩
  by_cases h:400<x.length
  ·refine cA (by omega) ⟨_,rfl,x,rfl,by omega,(by show 1≤100;decide),fun b hb=>?_⟩
   refine⟨b,_,rfl,ag,by omega,by omega,fun jL H5 jv i9 yK uZ k5=>⟨rfl,b,TL,HE,_,some jL,rfl,fq.z,yK,?_⟩⟩
   rw[aj i9] at jv
   refine qE h b jL _ hb jv ag (by rw[aj i9];exact uZ) fun b' o z=>?_
   have vL:b'≠b:=ai z hb
   rw[aj vL]
   exact k5 _ _ (by rw[aj vL];exact z) vL
  ·exact cu (by omega) (q (by omega))
variable {HE NF TL NC TM:Addr}
structure xB(K:PySem.W.Frag)(mg:Str→Option Value)(HE NF TL NC TM:Addr):Prop extends tK K mg HE NF TL where
 vQ:mg "NoChange" =some (.ref NC)
 yT:mg "TooMany" =some (.ref TM)
 AY:PySem.W.takerIn K NC "place" =some none
 DN:PySem.W.takerIn K TM "many" =some none
 rD:PySem.W.qP K NF
 DO:PySem.W.findIn K (.ref NF) "place" =some none
 up:PySem.W.mroIn K NF (.ref NF)=some true
 lt:gy.sW NC
 nl:¬gy.sW NF
theorem KD:ax ["self","place"] ["self","place"] (ak Du):=dH
theorem DP:ax ["self","many"] ["self","many"] (ak qS):=dH
theorem Hd(D:lz K mg "NoChange" NC HE "NoChange.__init__" Du ["self","place"])(T:xB K mg HE NF TL NC TM):vD P w K mg base 1 "NoChange" NC HE ["self","place"] (iM NC "place"):=by
 obtain⟨f0,_,_,Z,_⟩:=id D
 refine D.Qt KD (fun vs H Q E h=>?_) (fun f e' bj A outer s H vs Q E hr h=>?_)
 ·obtain⟨e,n,rfl,_⟩:=h
  rfl
 ·obtain⟨e,n,rfl,he,n0,n1,q⟩:=h
  have big:(2000 :Nat)≤sizeLine:=by decide
  have z1:=kE n0 n1
  have y1:("no change, by place " :Str).length=20:=by decide+kernel
  have y2:(" of the text" :Str).length=12:=by decide+kernel
  have y0:(Str.empty).length=0:=rfl
  refine⟨_,(af
     (bE (kd rfl T.fV T.e9 (pv 0) (mD (dQ aw (dQ (qN (pv 1)) (dQ aw qO))))))
    (aq
     (mC (pv 0) (pv 1) rfl))),?_⟩
  refine⟨_,rfl,_,rfl,?_,_,rfl, .inl ⟨_,rfl,kF n0 n1,_,rfl,?_,_,rfl,?_,?_,e,NC,HE,f0,none,rfl,Z,he,?_⟩⟩
  any_goals (simp only [aM,y0,y1,y2];omega)
  refine⟨_,rfl,_,rfl,e,NC,HE,f0,rfl,Z,T.AY, .inl ⟨he,fun dx jv i9=>?_⟩⟩
  refine q dx _ jv i9 ag (by rw[aj i9,ag]) fun b o z nb=>?_
  rw[aj nb,aj (ai z jv)]
  exact z
theorem AZ(D:lz K mg "TooMany" TM HE "TooMany.__init__" qS ["self","many"])(T:xB K mg HE NF TL NC TM):gf P w K mg base 1 "TooMany" TM HE ["self","many"] (iM TM "many"):=by
 obtain⟨f0,_,_,Z,_⟩:=id D
 refine D.fJ DP (fun vs H Q E h=>?_) (fun f bj A outer s H vs Q E hr h=>?_)
 ·obtain⟨e,n,rfl,_⟩:=h
  rfl
 ·obtain⟨e,n,rfl,he,n0,n1,q⟩:=h
  have big:(2000 :Nat)≤sizeLine:=by decide
  have z1:=kE n0 n1
  have y1:("too many: " :Str).length=10:=by decide+kernel
  have y0:(Str.empty).length=0:=rfl
  refine⟨_,(af
     (bE (kd rfl T.fV T.e9 (pv 0) (mD (dQ aw (dQ (qN (pv 1)) qO)))))
    (aq
     (mC (pv 0) (pv 1) rfl))),?_⟩
  refine⟨_,rfl,_,rfl,?_,_,rfl, .inl ⟨_,rfl,kF n0 n1,_,rfl,?_,?_,e,TM,HE,f0,none,rfl,Z,he,?_⟩⟩
  any_goals (simp only [aM,y0,y1];omega)
  refine⟨_,rfl,_,rfl,e,TM,HE,f0,rfl,Z,T.DN, .inl ⟨he,fun dx jv i9=>?_⟩⟩
  refine q dx _ jv i9 ag (by rw[aj i9,ag]) fun b o z nb=>?_
  rw[aj nb,aj (ai z jv)]
  exact z
theorem aO(a b:List Nat):(⟨a.toArray⟩:Str)++⟨b.toArray⟩=⟨(a++b).toArray⟩:=by
 show (⟨a.toArray++b.toArray⟩:Str)=_
 simp
theorem xC(d:Nat):∀ts:List Tr,jn (ts.map fun t=>(⟨(dR d t).toArray⟩:Str))=⟨(ts.flatMap (dR d)).toArray⟩
 | []=>rfl
 |t::ts=>by
  rw[List.map_cons,xq,xC d ts,aO,List.flatMap_cons]
theorem aB(a:List Nat):(⟨a.toArray⟩:Str).length=a.length:=by simp [Str.length]
theorem bY(n:Int):dq n=⟨(bw n).toArray⟩:=by
 apply eo
 simp [bw]
theorem rE{d:Nat}{ts:List Tr}{t:Tr}(h:t∈ts):(dR d t).length≤(ts.flatMap (dR d)).length:=by
 obtain⟨s,r,rfl⟩:=List.append_of_mem h
 rw[List.flatMap_append,List.flatMap_cons,List.length_append,List.length_append]
 omega
def lH(C G:Addr):Nat→Sp
 |0=>fun _ _ _ _=>False
 |d+1=>fun vs H Q _=>∃(g:Addr) (ts:List Tr) (n:Int),vs=[.ref g]∧ef C G (d+1) H g (.gr ts n)∧vJ (d+1) (.gr ts n)∧(dR (d+1) (.gr ts n)).length≤1000∧∀H',ay H H'→Q (.str ⟨(dR (d+1) (.gr ts n)).toArray⟩) H'
def ja(C G:Addr)(d:Nat):Sp:=fun vs H Q _=>∃(l:Addr) (ps:List Addr) (ts:List Tr),vs=[.ref l]∧H l=some (.lst (ps.map V.ref))∧Paired (ef C G d H) ps ts∧(∀t∈ts,vJ d t)∧(ts.flatMap (dR d)).length≤1000∧∀H',ay H H'→Q (.str ⟨(ts.flatMap (dR d)).toArray⟩) H'
theorem ef.same{C G:Addr}:∀{d:Nat} {H H':Hp} {p:Addr} {t:Tr},ef C G d H p t→ay H H'→ef C G d H' p t
 |0,H,H',p, .one k n,h,e=>fB.same h e
 |d+1,H,H',p, .one k n,h,e=>fB.same (C:=C) (k:=⟨k.toArray⟩) (n:=n) h e
 |0,_,_,_, .gr _ _,h,_=>h.elim
 |d+1,H,H',p, .gr ts n,⟨dx,l,ps,h1,h2,h3⟩,e=>⟨dx,l,ps,e _ _ h1,e _ _ h2,bA (fun a b h=>ef.same h e) h3⟩
theorem ib{α β:Type}{p:α→β→Prop}:∀{as:List α} {bs:List β} {i:Nat} {a:α},Paired p as bs→as[i]? =some a→∃b,bs[i]? =some b∧p a b
 |_,_,_,_, .nil,h=>by simp at h
 |_,_,0,_, .cons h _,e=>⟨_,rfl,by have e:=Option.some.inj e;rw[←e];exact h⟩
 |_,_,i+1,_, .cons _ t,e=>ib (i:=i) t e
theorem A1:ax ["parts"] ["parts"] (ak iY):=dH
theorem DQ{k:List Nat}(h:tF k):(⟨k.toArray⟩:Str).length≤3:=by
 obtain⟨c,r,rfl,_,_,hl⟩:=h
 rw[aB,List.length_cons]
 omega
theorem n9(d:Nat)(D:Def K mg "parts_shown" "parts_shown" iY ["parts"])(T:rp K mg C R G uK uN uB uE uM)(c1:c9 P w K mg base 2 C "shown" ["self"] (rl C))(c2:c9 P w K mg base (2*d+2) G "shown" ["self"] (lH C G d)):bx P w K mg base (2*d+3) "parts_shown" ["parts"] (ja C G d):=by
 obtain⟨_,_,ic⟩:=c1
 obtain⟨_,_,gj⟩:=c2
 refine D.fJ A1 (fun vs H Q E h=>?_) (fun f bj A outer s H vs Q E hr h=>?_)
 ·obtain⟨l,ps,ts,rfl,_⟩:=h
  rfl
 ·obtain⟨l,ps,ts,rfl,hl,hP,bb,hz,q⟩:=h
  have big:(2000 :Nat) <sizeLine:=by decide
  have Zx:=tG bb
  have lp:ps.length=ts.length:=Paired.length hP
  refine⟨_,(aq
     (az (fw PySem.F.plainAttrs_str PySem.F.slot_str_join PySem.F.type_str_join j8 aw (aa (j4 (sc:=(ak iY)) (NX:=["parts"]) (N:=["part"]) (fr:=[none]) ⟨by rfl,by rfl,by decide+kernel,by decide+kernel,by decide+kernel,by rfl,by decide+kernel⟩ rfl rfl rfl (jY (pv 0)) (fun _ _ _ _=>(bq (i:=0) (show (["part"]:List Str).Nodup by decide+kernel) rfl (Or.inl rfl) (Or.inr rfl))) (fun _ _ _ _=>j3) (fun _ _ _ _=>(GF (bI (pv 0) T.g7 ic.m ic.ok (hr.mono (by omega)) ic.b .nil aP) (bI (pv 0) T.eZ gj.m gj.ok (hr.mono (by omega)) gj.b .nil aP)))) ao)))),?_⟩
  refine⟨rfl,_,rfl,l,rfl,⟨_,cz.of hl⟩,fun D hD=>lu (K:=K) (a:=l) (D:=D) (xs:=ps.map V.ref) (fun i σ H'=>∃v:Option V,σ=[v]∧ay H H'∧H' D=some (.lst ((ts.take i).map fun t=>V.str ⟨(dR d t).toArray⟩)))
   ?_ (fun i σ H' _ ⟨_,_,e,_⟩=>cz.of (e _ _ hl)) ?_ ?_⟩
  ·exact⟨none,rfl,ay.new hD,ag⟩
  ·rintro i v σ H' hi ⟨v',rfl,e,kH⟩ N hN
   rw[List.getElem?_map] at hi
   obtain⟨p,hp,rfl⟩:∃p,ps[i]? =some p∧v=V.ref p:=by
    cases hh:ps[i]? with
    |none=>rw[hh] at hi;cases hi
    |some p=>rw[hh] at hi;exact⟨p,rfl,(Option.some.inj hi).symm⟩
   obtain⟨t,ht,hT⟩:=ib hP hp
   have hT:=hT.same e
   have QT:=bb t (List.mem_of_getElem? ht)
   have lt:=Nat.le_trans (rE (d:=d) (List.mem_of_getElem? ht)) hz
   have fin:∀cx,ay H' cx→∃ys,cx D=some (.lst ys)∧ys.length<sizeLine∧N [some (V.ref p)] (upd cx D (.lst (ys++[V.str ⟨(dR d t).toArray⟩]))):=fun cx e'=>by
    refine⟨_,e' _ _ kH,?_,hN _ _ ⟨_,rfl,fun b o z=>?_,?_⟩⟩
    ·rw[List.length_map]
     have:(ts.take i).length≤ts.length:=List.length_take_le' _ _
     omega
    ·rw[aj (ai z hD)]
     exact e' _ _ (e _ _ z)
    ·rw[ag,List.take_add_one,ht,List.map_append]
     rfl
   cases t with
   |one k n=>
    have QU:tF k∧1≤n∧n≤999:=by cases d<;>exact QT
    have hA:fB C H' p ⟨k.toArray⟩ n:=by cases d<;>exact hT
    have et:(⟨(dR d (.one k n)).toArray⟩:Str)=⟨k.toArray⟩++dq n:=by
     rw[bY,aO]
     cases d<;>rfl
    obtain⟨dx,Gx⟩:=id hA
    have:=fin H' (ay.refl _)
    rw[et] at this
    exact Or.inl ⟨_,rfl,p,dx,_,rfl,Gx,Dv _ _ (by decide+kernel) (by decide+kernel),p,_,n,rfl,hA,DQ QU.1,QU.2.1,QU.2.2,this⟩
   |gr us n=>
    cases d with
    |zero=>exact QT.elim
    |succ d=>
     obtain⟨dx,l',OL,h1,h2,h3⟩:=id hT
     exact Or.inr ⟨_,rfl,p,dx,_,rfl,h1,tw _ _ (by decide+kernel) (by decide+kernel),p,us,n,rfl,hT,QT,lt,fin⟩
  ·rintro σ H' ⟨v,rfl,e,kH⟩
   rw[List.length_map,lp,List.take_length] at kH
   have es:((ts.map fun t=>(⟨(dR d t).toArray⟩:Str)).map (·.length)).sum=(ts.flatMap (dR d)).length:=by
    rw[List.map_map,List.length_flatMap]
    congr 1
   refine⟨_,D,ts.map (fun t=>⟨(dR d t).toArray⟩),rfl,rfl,cz.of (by rw[kH,List.map_map];rfl),?_,?_⟩
   ·have e0:("" :Str).length=0:=by decide+kernel
    rw[es,e0]
    omega
   ·rw[join_eq,xC]
    exact q _ e
theorem tV:ax ["self"] ["self"] (ak iZ):=dH
theorem vR(D:bU K G "shown" "Group.shown" iZ ["self"]):c9 P w K mg base 2 G "shown" ["self"] (lH C G 0):=
 D.fJ (k:=1) tV (fun vs H Q E h=>h.elim) (fun f bj A outer s H vs Q E hr h=>h.elim)
theorem vS(d:Nat)(D:bU K G "shown" "Group.shown" iZ ["self"])(T:rp K mg C R G uK uN uB uE uM)(c1:bx P w K mg base (2*d+3) "parts_shown" ["parts"] (ja C G d))(c2:bx P w K mg base 1 "count_shown" ["count"] gZ):c9 P w K mg base (2*d+4) G "shown" ["self"] (lH C G (d+1)):=by
 obtain⟨_,_,bR⟩:=c1
 obtain⟨_,_,aV⟩:=c2
 refine D.fJ tV (fun vs H Q E h=>?_) (fun f bj A outer s H vs Q E hr h=>?_)
 ·obtain⟨g,ts,n,rfl,_⟩:=h
  rfl
 ·obtain⟨g,ts,n,rfl,⟨dx,l,ps,hg,hl,hP⟩,⟨si,bb,n1,n2⟩,hz,q⟩:=h
  have big:(2000 :Nat)≤sizeLine:=by decide
  have hz:(40::(ts.flatMap (dR d)++41::bw n)).length≤1000:=hz
  rw[List.length_cons,List.length_append,List.length_cons] at hz
  have e1:("(" :Str).length=1:=by decide+kernel
  have e2:(")" :Str).length=1:=by decide+kernel
  have lf:(dq n).length=(bw n).length:=by rw[bY,aB]
  have ee:(⟨(dR (d+1) (.gr ts n)).toArray⟩:Str)="(" ++⟨(ts.flatMap (dR d)).toArray⟩++")" ++dq n:=by
   rw[bY,G3,QA]
   rw[show (⟨#[40]⟩:Str)=⟨[40].toArray⟩ from rfl,show (⟨#[41]⟩:Str)=⟨[41].toArray⟩ from rfl,aO,aO,aO]
   simp [dR]
  rw[ee] at q
  refine⟨_,(aq
     (az (au aG (au aG (au aG (a8 (v:= .str "(") rfl T.er ⟨_,rfl⟩) (aN bR.ok (hr.mono (by omega)) rfl bR.g bR.kp bR.b .nil aP (aa (br (pv 0) rfl) ao))) (a8 (v:= .str ")") rfl T.lU ⟨_,rfl⟩)) (aN aV.ok (hr.mono (by omega)) rfl aV.g aV.kp aV.b .nil aP (aa (br (pv 0) rfl) ao))))),?_⟩
  refine⟨_,rfl,g,G,dx,_,_,rfl,hg,T.eZ,T.pK,lS _ _,l,ps,ts,rfl,hl,hP,bb,by omega,fun H1 s1=>⟨_,_,rfl,rfl,?_,_,_,rfl,rfl,?_,_,rfl,g,G,dx,_,_,rfl,s1 _ _ hg,T.eZ,T.pL,lT _ _,n,rfl,n1,n2,_,_,rfl,rfl,?_,q _ s1⟩⟩
  ·rw[e1,aB]
   omega
  ·rw[aM,e1,e2,aB]
   omega
  ·rw[aM,aM,e1,e2,aB,lf]
   omega
theorem pU(D1:Def K mg "parts_shown" "parts_shown" iY ["parts"])(D2:bU K G "shown" "Group.shown" iZ ["self"])(T:rp K mg C R G uK uN uB uE uM)(c1:c9 P w K mg base 2 C "shown" ["self"] (rl C))(c2:bx P w K mg base 1 "count_shown" ["count"] gZ):∀d:Nat,bx P w K mg base (2*d+3) "parts_shown" ["parts"] (ja C G d)
 |0=>n9 0 D1 T c1 (vR D2)
 |d+1=>n9 (d+1) D1 T c1 (by rw[show 2*(d+1)+2=2*d+4 by omega];exact vS d D2 T (pU D1 D2 T c1 c2 d) c2)
variable {uC uP uI uD uL uT:Tok}
def jx(C G Pc:Addr)(d:Nat):Sp:=fun vs H Q _=>∃(q:Addr) (x:gO),vs=[.ref q]∧jO C G Pc d H q x∧IV d x∧(jV d x).length≤1000∧∀H',ay H H'→Q (.str ⟨(jV d x).toArray⟩) H'
theorem rF:ax ["self"] ["self"] (ak fS):=dH
theorem oa(d:Nat)(D:bU K Pc "shown" "Piece.shown" fS ["self"])(T:oM K mg C R G Pc Fo uK uN uB uE uM uC uP uI uD uL uT)(c1:bx P w K mg base (2*d+3) "parts_shown" ["parts"] (ja C G d))(c2:bx P w K mg base 1 "count_shown" ["count"] gZ):c9 P w K mg base (2*d+4) Pc "shown" ["self"] (jx C G Pc d):=by
 obtain⟨_,_,bR⟩:=c1
 obtain⟨_,_,aV⟩:=c2
 refine D.fJ rF (fun vs H Q E h=>?_) (fun f bj A outer s H vs Q E hr h=>?_)
 ·obtain⟨p,x,rfl,_⟩:=h
  rfl
 ·obtain⟨p,x,rfl,⟨dx,l,ps,hp,hl,hP⟩,⟨si,bb,n1,n2⟩,hz,q⟩:=h
  have big:(2000 :Nat)≤sizeLine:=by decide
  have V8:=hz
  unfold jV at V8 q
  rw[List.length_append] at V8
  have lf:(dq x.1).length=(bw x.1).length:=by rw[bY,aB]
  rw[←aO,←bY] at q
  refine⟨_,(aq
     (az (au aG (aN aV.ok (hr.mono (by omega)) rfl aV.g aV.kp aV.b .nil aP (aa (br (pv 0) rfl) ao)) (aN bR.ok (hr.mono (by omega)) rfl bR.g bR.kp bR.b .nil aP (aa (br (pv 0) rfl) ao))))),?_⟩
  refine⟨_,rfl,p,Pc,dx,_,_,rfl,hp,T.dw,T.pO,lT _ _,x.1,rfl,n1,n2,_,rfl,p,Pc,dx,_,_,rfl,hp,T.dw,T.pN,lS _ _,l,ps,x.2,rfl,hl,hP,bb,by omega,fun H1 e1=>⟨_,_,rfl,rfl,?_,q _ e1⟩⟩
  rw[lf,aB]
  omega
def pV:Sp:=fun vs H Q _=>∃n:Int,vs=[.int n]∧ -999≤n∧n≤999∧Q (.str ⟨(lV n).toArray⟩) H
theorem He{n:Int}(h1: -999≤n)(h2:n≤999):(lV n).length≤5:=by
 unfold lV
 split
 ·exact Nat.zero_le _
 ·rename_i h0
  have:=eI (n:=if n<0 then -n else n) (by split<;>omega) (by split<;>omega)
  rw[bY,aB] at this
  rw[List.length_cons,List.length_append]
  simp
  omega
theorem oR:ax ["charge"] ["charge"] (ak eX):=dH
theorem lI(D:Def K mg "charge_shown" "charge_shown" eX ["charge"])(T:oM K mg C R G Pc Fo uK uN uB uE uM uC uP uI uD uL uT)(c1:bx P w K mg base 1 "count_shown" ["count"] gZ):bx P w K mg base 2 "charge_shown" ["charge"] pV:=by
 obtain⟨_,_,aV⟩:=c1
 refine D.fJ oR (fun vs H Q E h=>?_) (fun f bj A outer s H vs Q E hr h=>?_)
 ·obtain⟨n,rfl,_⟩:=h
  rfl
 ·obtain⟨n,rfl,h1,h2,q⟩:=h
  have big:(2000 :Nat)≤sizeLine:=by decide
  refine⟨_,(af
     (bc (aA bh (pv 0) ah (aE _))
      (aq
       (az aw))
      aK)
    (aq
     (az (au aG (au aG (a8 (v:= .str "^") rfl T.gi ⟨_,rfl⟩) (aN aV.ok (hr.mono (by decide)) rfl aV.g aV.kp aV.b .nil aP (aa (bJ sy rfl T.AL Ag (aa (pv 0) ao)) ao))) (su (aA iB (pv 0) ah (aE _)) (a8 (v:= .str "+") rfl T.AK ⟨_,rfl⟩) (a8 (v:= .str "-") rfl T.rq ⟨_,rfl⟩)))))),?_⟩
  refine⟨_,rfl,rfl,_,rfl,dY (fun e=>?_) fun e=>?_⟩
  ·have e:n=0:=by simpa using e
   subst e
   have e0:(⟨(lV 0).toArray⟩:Str)="" :=by decide+kernel
   rw[e0] at q
   exact q
  ·have e:¬n=0:=by simpa using e
   have a1:1≤(if n<0 then -n else n):=by split<;>omega
   have a2:(if n<0 then -n else n)≤999:=by split<;>omega
   have z:=eI a1 a2
   have e1:("^" :Str).length=1:=by decide+kernel
   refine⟨_,rfl,n,rfl,_,rfl,a1,a2,_,_,rfl,rfl,by rw[e1];omega,_,rfl,_,_,rfl,rfl,?_⟩
   have ec:(⟨(lV n).toArray⟩:Str)="^" ++dq (if n<0 then -n else n)++(if 0<n then ("+" :Str) else ("-" :Str)):=by
    unfold lV
    rw[if_neg e,bY,Kq,QB,Kr]
    rw[show (⟨#[94]⟩:Str)=⟨[94].toArray⟩ from rfl,aO]
    by_cases hp:0<n
    ·rw[if_pos hp,if_pos hp,show (⟨#[43]⟩:Str)=⟨[43].toArray⟩ from rfl,aO]
     simp
    ·rw[if_neg hp,if_neg hp,show (⟨#[45]⟩:Str)=⟨[45].toArray⟩ from rfl,aO]
     simp
   rw[ec] at q
   refine⟨_,rfl,dY (fun e=>?_) fun e=>?_⟩
   ·have e:0<n:=by simpa using e
    rw[if_pos e] at q
    refine⟨_,_,rfl,rfl,?_,q⟩
    have e2:("+" :Str).length=1:=by decide+kernel
    rw[aM,e1,e2]
    omega
   ·have e:¬0<n:=by simpa using e
    rw[if_neg e] at q
    refine⟨_,_,rfl,rfl,?_,q⟩
    have e2:("-" :Str).length=1:=by decide+kernel
    rw[aM,e1,e2]
    omega
def pW(C G Pc Fo:Addr)(d:Nat):Sp:=fun vs H Q _=>∃(f:Addr) (xs:List gO) (n:Int),vs=[.ref f]∧nS C G Pc Fo d H f xs n∧Cp d xs n∧(wL d xs n).length≤1000∧∀H',ay H H'→Q (.str ⟨(wL d xs n).toArray⟩) H'
theorem pX(d:Nat):∀(x:gO) (r:List gO),Str.join "." ((x::r).map fun y=>(⟨(jV d y).toArray⟩:Str))=⟨(jV d x++eL d r).toArray⟩
 |x,[]=>by
  show (⟨(jV d x).toArray⟩:Str)=⟨(jV d x++[]).toArray⟩
  rw[List.append_nil]
 |x,y::r=>by
  show (⟨(jV d x).toArray⟩:Str)++"." ++Str.join "." ((y::r).map fun y=>(⟨(jV d y).toArray⟩:Str))=⟨(jV d x++(46::jV d y++eL d r)).toArray⟩
  rw[pX d y r,Ku,show (⟨#[46]⟩:Str)=⟨[46].toArray⟩ from rfl,aO,aO]
  simp
theorem jO.same{C G Pc:Addr}{d:Nat}{H H':Hp}{p:Addr}{x:gO}(h:jO C G Pc d H p x)(e:ay H H'):jO C G Pc d H' p x:=
 let ⟨dx,l,ps,h1,h2,h3⟩:=h;⟨dx,l,ps,e _ _ h1,e _ _ h2,bA (fun _ _ h=>ef.same h e) h3⟩
theorem nS.same{C G Pc Fo:Addr}{d:Nat}{H H':Hp}{p:Addr}{xs:List gO}{n:Int}(h:nS C G Pc Fo d H p xs n)(e:ay H H'):nS C G Pc Fo d H' p xs n:=
 let ⟨dx,l,ps,h1,h2,h3⟩:=h;⟨dx,l,ps,e _ _ h1,e _ _ h2,bA (fun _ _ h=>jO.same h e) h3⟩
theorem A2:ax ["self"] ["self"] (ak kh):=dH
theorem vT(d:Nat)(D:bU K Fo "shown" "Formula.shown" kh ["self"])(T:oM K mg C R G Pc Fo uK uN uB uE uM uC uP uI uD uL uT)(c1:c9 P w K mg base (2*d+4) Pc "shown" ["self"] (jx C G Pc d))(c2:bx P w K mg base 2 "charge_shown" ["charge"] pV):c9 P w K mg base (2*d+5) Fo "shown" ["self"] (pW C G Pc Fo d):=by
 obtain⟨_,_,gk⟩:=c1
 obtain⟨_,_,dS⟩:=c2
 refine D.fJ A2 (fun vs H Q E h=>?_) (fun f bj A outer s H vs Q E hr h=>?_)
 ·obtain⟨f,xs,n,rfl,_⟩:=h
  rfl
 ·obtain⟨f,xs,n,rfl,⟨dx,l,ps,hf,hl,hP⟩,bb,hz,q⟩:=h
  have big:(3000 :Nat) <sizeLine:=by decide
  have lp:ps.length=xs.length:=Paired.length hP
  refine⟨_,(af
     (bc (ve (sx (br (pv 0) rfl) (fun _=>rfl)))
      (aq
       (az (a8 (v:= .str "e^-") rfl T.jQ ⟨_,rfl⟩)))
      aK)
    (aq
     (az (au aG (fw PySem.F.plainAttrs_str PySem.F.slot_str_join PySem.F.type_str_join j8 (a8 (v:= .str ".") rfl T.iK ⟨_,rfl⟩) (aa (j4 (sc:=(ak kh)) (NX:=["self"]) (N:=["piece"]) (fr:=[none]) ⟨by rfl,by rfl,by decide+kernel,by decide+kernel,by decide+kernel,by rfl,by decide+kernel⟩ rfl rfl rfl (jY (br (pv 0) rfl)) (fun _ _ _ _=>(bq (i:=0) (show (["piece"]:List Str).Nodup by decide+kernel) rfl (Or.inl rfl) (Or.inr rfl))) (fun _ _ _ _=>j3) (fun _ _ _ _=>(bI (pv 0) T.dw gk.m gk.ok (hr.mono (by omega)) gk.b .nil aP))) ao)) (aN dS.ok (hr.mono (by omega)) rfl dS.g dS.kp dS.b .nil aP (aa (br (pv 0) rfl) ao)))))),?_⟩
  refine⟨_,rfl,f,Fo,dx,_,_,rfl,hf,T.bP,T.jP,kB _ _,_, .inl ⟨_,cz.of hl,rfl⟩,?_⟩
  cases xs with
  |nil=>
   have hp:ps=[]:=List.length_eq_zero_iff.mp lp
   subst hp
   refine cq ?_
   have e0:(⟨(wL d [] n).toArray⟩:Str)="e^-" :=by rw[eE];rfl
   rw[e0] at q
   exact q _ (ay.refl _)
  |cons x0 r0=>
   obtain⟨XZ,QV,n1,n2⟩:=bb
   have VZ:(!(ps.map V.ref).isEmpty)=true:=by
    cases ps with
    |nil=>simp at lp
    |cons _ _=>rfl
   rw[VZ]
   refine dG ?_
   have zc:=He n1 n2
   have ez:wL d (x0::r0) n=(jV d x0++eL d r0)++lV n:=by
    show x0.2.flatMap (dR d)++(eL d r0++lV n)=_
    unfold jV
    rw[XZ,show bw 1=[] from rfl,List.nil_append,List.append_assoc]
   rw[ez,List.length_append,List.length_append] at hz
   have ON:=xw d r0
   have each:∀y∈x0::r0,(jV d y).length≤1000:=fun y hy=>by
    rcases List.mem_cons.mp hy with rfl|hy
    ·omega
    ·obtain⟨a,b,rfl⟩:=List.append_of_mem hy
     have:(eL d (a++y::b)).length=(eL d a).length+(46::jV d y++eL d b).length:=by
      unfold eL
      rw[List.flatMap_append,List.length_append,List.flatMap_cons]
     rw[this,List.length_append,List.length_cons] at hz
     omega
   refine⟨rfl,_,rfl,f,Fo,dx,_,_,rfl,hf,T.bP,T.jP,kB _ _,l,rfl,⟨_,cz.of hl⟩,fun D hD=>lu (K:=K) (a:=l) (D:=D) (xs:=ps.map V.ref) (fun i σ H'=>∃v:Option V,σ=[v]∧ay H H'∧H' D=some (.lst (((x0::r0).take i).map fun x=>V.str ⟨(jV d x).toArray⟩)))
    ?_ (fun i σ H' _ ⟨_,_,e,_⟩=>cz.of (e _ _ hl)) ?_ ?_⟩
   ·exact⟨none,rfl,ay.new hD,ag⟩
   ·rintro i v σ H' hi ⟨v',rfl,e,kH⟩ N hN
    rw[List.getElem?_map] at hi
    obtain⟨p,hp,rfl⟩:∃p,ps[i]? =some p∧v=V.ref p:=by
     cases hh:ps[i]? with
     |none=>rw[hh] at hi;cases hi
     |some p=>rw[hh] at hi;exact⟨p,rfl,(Option.some.inj hi).symm⟩
    obtain⟨y,hy,hY⟩:=ib hP hp
    have hY:=hY.same e
    obtain⟨cZ,l',OL,h1,h2⟩:=id hY
    have my:=List.mem_of_getElem? hy
    refine⟨_,rfl,p,cZ,_,rfl,h1,tw _ _ (by decide+kernel) (by decide+kernel),p,y,rfl,hY,QV y my,each y my,fun cx e'=>⟨_,e' _ _ kH,?_,hN _ _ ⟨_,rfl,fun b o z=>?_,?_⟩⟩⟩
    ·rw[List.length_map]
     have:((x0::r0).take i).length≤(x0::r0).length:=List.length_take_le' _ _
     rw[List.length_cons] at this
     omega
    ·rw[aj (ai z hD)]
     exact e' _ _ (e _ _ z)
    ·rw[ag,List.take_add_one,hy,List.map_append]
     rfl
   ·rintro σ H' ⟨v,rfl,e,kH⟩
    rw[List.length_map,lp,List.take_length] at kH
    have ej:Txt.join "." ((x0::r0).map fun y=>(⟨(jV d y).toArray⟩:Str))=⟨(jV d x0++eL d r0).toArray⟩:=by
     have:=PyProof.Rows.join_closes (sep:=".") (sep':=".") (ys:=(x0::r0).map fun y=>(⟨(jV d y).toArray⟩:Str)) rfl
     rw[←pX]
     simpa using this
    have es:(((x0::r0).map fun y=>(⟨(jV d y).toArray⟩:Str)).map (·.length)).sum≤(jV d x0).length+(eL d r0).length:=by
     rw[List.map_map,List.map_cons,List.sum_cons]
     have:∀r:List gO,(r.map ((·.length)∘fun y=>(⟨(jV d y).toArray⟩:Str))).sum≤(eL d r).length:=fun r=>by
      induction r with
      |nil=>exact Nat.le_refl _
      |cons y r ih=>
       show (⟨(jV d y).toArray⟩:Str).length+(r.map ((·.length)∘fun y=>(⟨(jV d y).toArray⟩:Str))).sum≤(46::jV d y++eL d r).length
       rw[aB,List.length_append,List.length_cons]
       omega
     have h2:=this r0
     show (⟨(jV d x0).toArray⟩:Str).length+_≤_
     rw[aB]
     omega
    refine⟨_,D,(x0::r0).map (fun y=>⟨(jV d y).toArray⟩),rfl,rfl,cz.of (by rw[kH,List.map_map];rfl),?_,?_⟩
    ·have e0:("." :Str).length=1:=by decide+kernel
     rw[e0,List.length_map,List.length_cons]
     omega
    ·rw[ej]
     refine⟨_,rfl,f,Fo,dx,_,_,rfl,e _ _ hf,T.bP,T.nU,rA _ _,n,rfl,n1,n2,_,_,rfl,rfl,?_,?_⟩
     ·rw[aB,aB,List.length_append]
      omega
     ·rw[aO,←ez]
      exact q _ e
theorem rG:ax ["count"] ["count"] (ak fR):=dH
theorem og(D:Def K mg "count_shown" "count_shown" fR ["count"])(T:jN K mg C):bx P w K mg base 1 "count_shown" ["count"] gZ:=by
 refine D.fJ rG (fun vs H Q E h=>?_) (fun f bj A outer s H vs Q E hr h=>?_)
 ·obtain⟨n,rfl,_⟩:=h
  rfl
 ·obtain⟨n,rfl,h1,h2,k⟩:=h
  refine⟨_,(af
     (bc (aA bh (pv 0) ah (aE _))
      (aq
       (az aw))
      aK)
    (aq
     (az (bN eV rfl T.tE nA (aa (pv 0) ao))))),?_⟩
  refine⟨_,rfl,rfl,_,rfl,dY (fun e=>?_) fun e=>?_⟩
  ·have e:n=1:=by simpa using e
   subst e
   exact k
  ·have e:¬n=1:=by simpa using e
   refine⟨_,rfl,_,rfl,pz (by omega) (by omega),?_⟩
   unfold dq at k
   rw[if_neg e] at k
   exact k
theorem yU:ax ["_law_count_here"] ["_law_count_here"] (ak kr):=dH
theorem vU(D:Def K mg "_law_figures" "_law_figures" kr ["_law_count_here"])(T:jN K mg C):bx P w K mg base 1 "_law_figures" ["_law_count_here"] gZ:=by
 refine D.fJ yU (fun vs H Q E h=>?_) (fun f bj A outer s H vs Q E hr h=>?_)
 ·obtain⟨n,rfl,_⟩:=h
  rfl
 ·obtain⟨n,rfl,h1,h2,k⟩:=h
  refine⟨_,(af
     (bc (aA bh (pv 0) ah (aE _))
      (aq
       (az aw))
      aK)
    (aq
     (az (bN eV rfl T.tE nA (aa (pv 0) ao))))),?_⟩
  refine⟨_,rfl,rfl,_,rfl,dY (fun e=>?_) fun e=>?_⟩
  ·have e:n=1:=by simpa using e
   subst e
   exact k
  ·have e:¬n=1:=by simpa using e
   refine⟨_,rfl,_,rfl,pz (by omega) (by omega),?_⟩
   unfold dq at k
   rw[if_neg e] at k
   exact k
theorem Hf:ax ["self","kind","count"] ["self","kind","count"] (ak gH):=dH
theorem DR(D:jH K C "Atom.__init__" gH ["self","kind","count"] [1])(T:jN K mg C):fz P w K mg base 1 C ["self","kind","count"] [1] (AB C):=by
 refine D.fJ Hf (fun vs H Q E h=>?_) (fun f bj A outer s H vs Q E hr h=>?_)
 ·obtain⟨p,dx,k,n,rfl,_⟩:=h
  rfl
 ·obtain⟨p,dx,k,n,rfl,hp,q⟩:=h
  refine⟨_,(af
     (eQ (pv 0) (pv 1) rfl)
    (aq
     (eQ (pv 0) (pv 2) rfl))),?_⟩
  refine⟨_,rfl,_,rfl,p,C,dx,[],rfl,hp,T.g7,T.xt,(by show 0<1000;decide),_,rfl,_,rfl,p,C,dx,_,rfl,ag,T.g7,T.tD,(by show 1<1000;decide),?_⟩
  refine q _ ag fun b o e hb=>?_
  rw[aj hb,aj hb]
  exact e
theorem DS:ax ["self"] ["self"] (ak qV):=dH
theorem A3(D:bU K C "shown" "Atom.shown" qV ["self"])(T:jN K mg C)(c1:bx P w K mg base 1 "count_shown" ["count"] gZ):c9 P w K mg base 2 C "shown" ["self"] (rl C):=by
 obtain⟨_,_,aV⟩:=c1
 refine D.fJ DS (fun vs H Q E h=>?_) (fun f bj A outer s H vs Q E hr h=>?_)
 ·obtain⟨p,k,n,rfl,_⟩:=h
  rfl
 ·obtain⟨p,k,n,rfl,⟨dx,hp⟩,hk,h1,h2,q⟩:=h
  refine⟨_,(aq
     (az (au aG (br (pv 0) rfl) (aN aV.ok (hr.mono (by decide)) rfl aV.g aV.kp aV.b .nil aP (aa (br (pv 0) rfl) ao))))),?_⟩
  refine⟨_,rfl,p,C,dx,_,_,rfl,hp,T.g7,T.xt,yC _ _,_,rfl,p,C,dx,_,_,rfl,hp,T.g7,T.tD,vG _ _,n,rfl,h1,h2,_,_,rfl,rfl,?_,q⟩
  have:=eI h1 h2
  have:(100 :Nat)≤sizeLine:=by decide
  omega
theorem A4:ax ["_law_script","_law_k"] ["_law_script","_law_k"] (ak mK):=dH
theorem vV(D:Def K mg "_law_cell_at" "_law_cell_at" mK ["_law_script","_law_k"])(T:jN K mg C):bx P w K mg base 1 "_law_cell_at" ["_law_script","_law_k"] (nN K):=by
 refine D.fJ A4 (fun vs H Q E h=>?_) (fun f bj A outer s H vs Q E hr h=>?_)
 ·obtain⟨a,ns,k,rfl,_⟩:=h
  rfl
 ·obtain⟨a,ns,k,rfl,hS,hl,q⟩:=h
  refine⟨_,(af
     (bc (aA sv (pv 1) (bJ cX rfl T.gI dZ (aa (pv 0) ao)) (aE _))
      (aq
       (az (b8 dN (pv 0) (pv 1) (fun _ _=>rfl))))
      aK)
    (aq
     (az ah))),?_⟩
  refine⟨_,rfl,_,rfl,a,_,rfl, .inl hS,_,_,rfl,rfl,_,rfl,dY (fun e=>?_) fun e=>?_⟩
  ·have e:k<ns.length:=by simpa using e
   exact⟨_,rfl,_,rfl,a,_,_,V.int ns[k],rfl,rfl,hS,gT (by rw[List.getElem?_map,List.getElem?_eq_getElem e];rfl),q _⟩
  ·exact q 0
theorem kI:ax ["_law_cell","_law_prime","_law_digits","_law_step","_law_number"] ["_law_cell","_law_prime"] (ak q0):=dH
theorem vW{j:Nat}{p:Int}(h:jM[j]? =some p):0<p:=by
 have all:∀q∈jM,(0 :Int) <q:=by decide
 exact all p (List.mem_of_getElem? h)
theorem yV:∀j:Nat,j<7→∀p,jM[j]? =some p→(jM.map V.int).findIdx? (fun z=>z9 z (.int p))=some j:=by
 intro j hj p hp
 match j,hj with
 |0,_=>cases hp;rfl
 |1,_=>cases hp;rfl
 |2,_=>cases hp;rfl
 |3,_=>cases hp;rfl
 |4,_=>cases hp;rfl
 |5,_=>cases hp;rfl
 |6,_=>cases hp;rfl
theorem A5(D:Def K mg "_law_mixed" "_law_mixed" q0 ["_law_cell","_law_prime"])(T:jN K mg C):bx P w K mg base 1 "_law_mixed" ["_law_cell","_law_prime"] mQ:=by
 refine D.fJ kI (fun vs H Q E h=>?_) (fun f bj A outer s H vs Q E hr h=>?_)
 ·obtain⟨c,p,j,rfl,_⟩:=h
  rfl
 ·obtain⟨c,p,j,rfl,hj,hp,q⟩:=h
  have pp:=vW hp
  refine⟨_,(af
     (bc (PW.pt (cy (aA bh (au bp (pv 0) ah) ah (aE _)) (cw (aA iB (pv 0) (au qt ah ah) (aE _)))))
      (af
       (aH (i:=2) kI.nd rfl (Or.inl rfl) (au bW (pv 0) ah))
      (af
       (gS PassesOwn.never rfl (dC rfl T.fT (aa (fw PySem.F.plainAttrs_list PySem.F.slot_list_index PySem.F.type_list_index Ae (cm (iX (.int (.int (.int (.int (.int (.int (.int .nil))))))))) (aa (pv 1) ao)) ao)) (bq (i:=3) kI.nd rfl (Or.inl rfl))
        (aq
         (aH (i:=2) kI.nd rfl (Or.inl rfl) (au bW (pv 2) ah))))
      (aq
       (az (au bp (au bp (pv 2) ah) (pv 1))))))
      aK)
    (af
     (aH (i:=4) kI.nd rfl (Or.inl rfl) (au bo (au bp (pv 0) ah) ah))
    (aq
     (az (au bp (au bo (au fZ (au fZ (pv 4) (pv 4)) ah) (pv 4)) (pv 1)))))),?_⟩
  have low:∀H':Hp,ay H H'→zS (CG (Co (CJ fun i j=> .int (i+j)) (Co (rI (fun _ j=>0<j) fun i j=> .int (i%j)) (va 0) (tC (.int 2147483647))) (tC (.int 7))) (dM 4))
    (Jp (Co (rI (fun _ j=>0<j) fun i j=> .int (i%j)) (Co (CJ fun i j=> .int (i+j)) (Co (rI zX fun i j=> .int (i*j)) (Co (rI zX fun i j=> .int (i*j)) (va 4) (va 4)) (tC (.int 48271))) (va 4)) (va 1)))
    { nx:=fun _ H'=>Q .cn H',rt:=Q } [some (.int c),some (.int p),none,none,none] H':=fun H' e=>by
   have b0:0≤c%2147483647:=Int.emod_nonneg _ (by decide)
   have b1:c%2147483647<2147483647:=Int.emod_lt_of_pos _ (by decide)
   exact⟨_,rfl,_,_,rfl,rfl,(by show (0 :Int) <2147483647;decide),_,_,rfl,rfl,_,rfl,_,rfl,_,_,rfl,rfl, .inl ⟨by omega,by omega⟩,_,_,rfl,rfl, .inr ⟨by decide,by decide⟩,_,rfl,_,_,rfl,rfl,_,rfl,_,_,rfl,rfl,pp,q _ _ e⟩
  refine⟨_,rfl,_,_,rfl,rfl,(by show (0 :Int) <2;decide),rfl,_,rfl,dY (fun _=>?_) fun _=>low H (ay.refl H)⟩
  refine⟨_,rfl,_,_,rfl,rfl,⟨by decide,by decide,by decide⟩,_,_,rfl,rfl,_,rfl,dY (fun _=>?_) fun _=>low H (ay.refl H)⟩
  refine⟨_,rfl,_,_,rfl,rfl,⟨by decide,by decide⟩,(by show 7≤sizeLine;decide),fun l hl=>⟨.inl ⟨rfl,_,cz.of ag⟩,_,rfl,l,jM.map V.int,_,j,rfl,rfl,cz.of ag,rfl,rfl,yV j hj p hp,?_⟩⟩
  refine⟨_,rfl,by omega,by omega,dX (fun i σ H'=>∃(z:Int) (v:Option V),σ=[some (.int c),some (.int p),some (.int z),v,none]∧ay H H') ⟨_,none,rfl,ay.new hl⟩ ?_ ?_⟩
  ·rintro i σ H' hi ⟨z,v,rfl,e⟩
   exact⟨_,rfl,_,_,rfl,rfl,⟨by decide,by decide⟩,_,_,rfl,e⟩
  ·rintro σ H' ⟨z,v,rfl,e⟩
   exact⟨_,rfl,_,_,rfl,rfl,(by show (0 :Int) <1000003;decide),_,rfl,_,_,rfl,rfl,pp,q _ _ e⟩
theorem DT:ax ["_law_found"] ["_law_found"] (ak q9):=dH
theorem A6(D:Def K mg "_law_whole" "_law_whole" q9 ["_law_found"])(T:jN K mg C):bx P w K mg base 1 "_law_whole" ["_law_found"] xr:=by
 refine D.fJ DT (fun vs H Q E h=>?_) (fun f bj A outer s H vs Q E hr h=>?_)
 ·obtain⟨i,rfl,_⟩:=h
  rfl
 ·obtain⟨i,rfl,q⟩:=h
  refine⟨_,(aq
     (az (jC (bJ iD rfl T.g8 gb (aa (pv 0) (aa (qq (v:= .ty "int") rfl T.pG lq rfl) ao))) (jB (zP (bJ iD rfl T.g8 gb (aa (pv 0) (aa (qq (v:= .ty "bool") rfl T.GX Dc rfl) ao)))))))),?_⟩
  exact⟨_,rfl,_,_,_,_,_,rfl,rfl, .int i,T.k1,_,rfl,cq ⟨_,rfl,_,_,_,_,_,rfl,rfl, .int i,T.k2,_,rfl,q⟩⟩
abbrev great:Str:="ABCDEFGHIJKLMNOPQRSTUVWXYZ"
abbrev small:Str:="abcdefghijklmnopqrstuvwxyz"
theorem yW:great.cps.toList.length=26:=by decide+kernel
theorem yX:small.cps.toList.length=26:=by decide+kernel
def KG:List Str:=["C","Co","O","Cob","H","N","No","B","Ob","Nob"]
theorem jR:ax ["_law_number","_law_great","_law_small","_law_kind_here","_law_k"] ["_law_number"] (ak xn):=dH
def xD:Sp:=fun vs H Q _=>∃n:Int,vs=[.int n]∧∀(k:List Nat) H',tF k→ay H H'→Q (.str ⟨k.toArray⟩) H'
def Hg:List Nat→Bool
 |c::r=>iy c&&r.all jq&&decide (r.length≤2)
 | []=>false
theorem Hh:∀{l:List Nat},Hg l=true→tF l
 | [],h=>by cases h
 |c::r,h=>by
  simp only [Hg,Bool.and_eq_true,decide_eq_true_eq] at h
  exact⟨c,r,rfl,h.1.1,h.1.2,h.2⟩
theorem Hi:KG.all (fun x=>Hg x.cps.toList)=true:=by decide+kernel
theorem yY:great.cps.toList.all iy=true:=by decide+kernel
theorem yZ:small.cps.toList.all jq=true:=by decide+kernel
theorem A7(D:Def K mg "_law_kind" "_law_kind" xn ["_law_number"])(T:jN K mg C):bx P w K mg base 1 "_law_kind" ["_law_number"] xD:=by
 refine D.fJ jR (fun vs H Q E h=>?_) (fun f bj A outer s H vs Q E hr h=>?_)
 ·obtain⟨n,rfl,_⟩:=h
  rfl
 ·obtain⟨n,rfl,q⟩:=h
  refine⟨_,(af
     (aH (i:=1) jR.nd rfl (Or.inl rfl) aw)
    (af
     (aH (i:=2) jR.nd rfl (Or.inl rfl) aw)
    (af
     (bc (aA bh (au bp (pv 0) ah) ah (aE _))
      (aq
       (az (b8 dN (cm (iX (.str (.str (.str (.str (.str (.str (.str (.str (.str (.str .nil)))))))))))) (au bp (au bW (pv 0) ah) ah) (fun _ _=>rfl))))
      aK)
    (af
     (aH (i:=0) jR.nd rfl (Or.inl rfl) (au bW (pv 0) ah))
    (af
     (aH (i:=3) jR.nd rfl (Or.inl rfl) (b8 gU (pv 1) (au bp (pv 0) ah) (fun _ _=>rfl)))
    (af
     (gS PassesOwn.never rfl (dC rfl T.fT (aa (au bp (au bW (pv 0) ah) ah) ao)) (bq (i:=4) jR.nd rfl (Or.inl rfl))
      (aq
       (aH (i:=3) jR.nd rfl (Or.inl rfl) (au aG (pv 3) (b8 gU (pv 2) (au bp (au bW (pv 0) (au bo ah (au fZ ah (pv 4)))) ah) (fun _ _=>rfl))))))
    (aq
     (az (pv 3))))))))),?_⟩
  refine⟨_,rfl,_,_,rfl,rfl,(by show (0 :Int) <2;decide),rfl,_,rfl,dY (fun _=>?_) fun _=>?_⟩
  ·have b0:0≤n/2%10:=Int.emod_nonneg _ (by decide)
   have b1:n/2%10<10:=Int.emod_lt_of_pos _ (by decide)
   obtain⟨v,hv,tW⟩:=jI (xs:=KG.map V.str) b0 b1
   obtain⟨k,hk,rfl⟩:=List.mem_map.mp hv
   have ek:(⟨k.cps.toList.toArray⟩:Str)=k:=eo (by simp)
   have X0:=Hh (List.all_eq_true.mp Hi k hk)
   have q':∀l (hl:H l=none),Q (.str k) (upd H l (.lst (KG.map V.str))):=fun l hl=>by
    have:=q k.cps.toList _ X0 (ay.new (o:= .lst (KG.map V.str)) hl)
    rwa [ek] at this
   exact⟨(by show 10≤sizeLine;decide),fun l hl=>⟨_,rfl,_,_,rfl,rfl,⟨by decide,by decide⟩,_,_,rfl,rfl,(by show (0 :Int) <10;decide),l,KG.map V.str,_,_,rfl,rfl,cz.of ag,tW,q' l hl⟩⟩
  ·have b0:0≤n/2%26:=Int.emod_nonneg _ (by decide)
   have b1:n/2%26<26:=Int.emod_lt_of_pos _ (by decide)
   have b2:0≤n/2/26%3:=Int.emod_nonneg _ (by decide)
   have b3:n/2/26%3<3:=Int.emod_lt_of_pos _ (by decide)
   obtain⟨c,hc,tW⟩:=jI (xs:=great.cps.toList) b0 (by rw[yW];exact b1)
   have gc:=List.all_eq_true.mp yY c hc
   refine⟨_,rfl,_,_,rfl,rfl,⟨by decide,by decide⟩,_,rfl,_,rfl,_,_,rfl,rfl,(by show (0 :Int) <26;decide),great,_,c,rfl,rfl,(by decide+kernel),tW,?_⟩
   refine⟨_,rfl,_,_,rfl,rfl,⟨by decide,by decide⟩,_,_,rfl,rfl,(by show (0 :Int) <3;decide),_,rfl,by omega,by omega,
    dX (fun i σ H'=>∃(r:List Nat) (v:Option V),σ=[some (.int (n/2)),some (.str great),some (.str small),some (.str ⟨(c::r).toArray⟩),v]∧r.all jq=true∧r.length≤i∧H'=H) ⟨[],none,rfl,rfl,Nat.le_refl _,rfl⟩ ?_ ?_⟩
   ·rintro i σ H' hi ⟨r,v,rfl,ha,hk,rfl⟩
    have c0:0≤n/2/(78+1950*(0+(i:Int))) %26:=Int.emod_nonneg _ (by decide)
    have c1:n/2/(78+1950*(0+(i:Int))) %26<26:=Int.emod_lt_of_pos _ (by decide)
    obtain⟨c2,X2,QW⟩:=jI (xs:=small.cps.toList) c0 (by rw[yX];exact c1)
    have X3:=List.all_eq_true.mp yZ c2 X2
    have l2:(⟨#[c2]⟩:Str).length=1:=rfl
    have big:(100 :Nat)≤sizeLine:=by decide
    have e2:(⟨(c::r).toArray⟩:Str)++⟨#[c2]⟩=⟨(c::(r++[c2])).toArray⟩:=aO (c::r) [c2]
    refine⟨_,rfl,_,rfl,_,rfl,_,rfl,_,_,rfl,rfl, .inl ⟨by decide,by decide⟩,_,_,rfl,rfl,_,_,rfl,rfl,⟨by omega,by omega⟩,_,_,rfl,rfl,(by show (0 :Int) <26;decide),small,_,c2,rfl,rfl,(by decide+kernel),QW,_,_,rfl,rfl,?_,r++[c2],some (.int (0+(i:Int))),?_,?_,?_,rfl⟩
    ·rw[aB,l2,List.length_cons]
     omega
    ·rw[←e2]
     rfl
    ·rw[List.all_append,ha]
     simpa using X3
    ·rw[List.length_append]
     show r.length+1≤i+1
     omega
   ·rintro σ H' ⟨r,v,rfl,ha,hk,rfl⟩
    exact⟨_,rfl,q (c::r) _ ⟨c,r,rfl,gc,ha,by omega⟩ (ay.refl _)⟩
def xE:Sp:=fun vs H Q _=>∃n:Int,vs=[.int n]∧∀c H',1≤c→c≤999→ay H H'→Q (.int c) H'
theorem DU:ax ["_law_number"] ["_law_number"] (ak rf):=dH
theorem A8(D:Def K mg "_law_count" "_law_count" rf ["_law_number"]):bx P w K mg base 1 "_law_count" ["_law_number"] xE:=by
 refine D.fJ DU (fun vs H Q E h=>?_) (fun f bj A outer s H vs Q E hr h=>?_)
 ·obtain⟨n,rfl,_⟩:=h
  rfl
 ·obtain⟨n,rfl,q⟩:=h
  refine⟨_,(aq
     (az (b8 dN (cm (aa ah (aa ah (aa (au bo ah (au bp (au bW (pv 0) ah) ah)) (aa (au bo ah (au bp (au bW (pv 0) ah) ah)) ao))))) (au bp (pv 0) ah) (fun _ _=>rfl)))),?_⟩
  have b0:0≤n%4:=Int.emod_nonneg _ (by decide)
  have b1:n%4<4:=Int.emod_lt_of_pos _ (by decide)
  have d0:0≤n/4%11:=Int.emod_nonneg _ (by decide)
  have d1:n/4%11<11:=Int.emod_lt_of_pos _ (by decide)
  have e0:0≤n/4%999:=Int.emod_nonneg _ (by decide)
  have e1:n/4%999<999:=Int.emod_lt_of_pos _ (by decide)
  obtain⟨v,hv,tW⟩:=jI (xs:=[V.int 1,V.int 1,V.int (2+n/4%11),V.int (1+n/4%999)]) b0 b1
  have hc:∃c,v=V.int c∧1≤c∧c≤999:=by
   simp only [List.mem_cons,List.not_mem_nil,or_false] at hv
   rcases hv with rfl|rfl|rfl|rfl
   ·exact⟨1,rfl,by decide,by decide⟩
   ·exact⟨1,rfl,by decide,by decide⟩
   ·exact⟨_,rfl,by omega,by omega⟩
   ·exact⟨_,rfl,by omega,by omega⟩
  obtain⟨c,rfl,c0,c1⟩:=hc
  exact⟨_,rfl,_,_,rfl,rfl,⟨by decide,by decide⟩,_,_,rfl,rfl,(by show (0 :Int) <11;decide),_,_,rfl,rfl,_,rfl,_,_,rfl,rfl,⟨by decide,by decide⟩,_,_,rfl,rfl,(by show (0 :Int) <999;decide),_,_,rfl,rfl,(by show 4≤sizeLine;decide),
   fun l hl=>⟨_,rfl,_,_,rfl,rfl,(by show (0 :Int) <4;decide),l,_,_,_,rfl,rfl,cz.of ag,tW,q c _ c0 c1 (ay.new hl)⟩⟩
variable {uC uP uI uD uL uT:Tok}
theorem DV:ax ["self","parts","count"] ["self","parts","count"] (ak d6):=dH
theorem A9(D:jH K G "Group.__init__" d6 ["self","parts","count"] [1])(T:oM K mg C R G Pc Fo uK uN uB uE uM uC uP uI uD uL uT):fz P w K mg base 1 G ["self","parts","count"] [1] (kA G):=by
 refine D.fJ DV (fun vs H Q E h=>?_) (fun f bj A outer s H vs Q E hr h=>?_)
 ·obtain⟨p,dx,l,c,xs,rfl,_⟩:=h
  rfl
 ·obtain⟨p,dx,l,c,xs,rfl,hp,hl,q⟩:=h
  refine⟨_,(af
     (eQ (pv 0) (bN dO rfl T.n_list j6 (aa (pv 1) ao)) rfl)
    (aq
     (eQ (pv 0) (pv 2) rfl))),?_⟩
  refine⟨_,rfl,l,xs,rfl, .inl (cz.of hl),fun n hn=>?_⟩
  have u4:p≠n:=ai hp hn
  refine⟨_,rfl,p,G,dx,[],rfl,(by rw[aj u4];exact hp),T.eZ,T.pK,(by show 0<1000;decide),_,rfl,_,rfl,p,G,dx,_,rfl,ag,T.eZ,T.pL,(by show 1<1000;decide),?_⟩
  refine q n _ hn ag (by rw[aj (Ne.symm u4),aj (Ne.symm u4),ag]) fun b o e hb=>?_
  rw[aj hb,aj hb,aj (ai e hn)]
  exact e
theorem DW:ax ["self","parts","count"] ["self","parts","count"] (ak d7):=dH
theorem A'(D:jH K Pc "Piece.__init__" d7 ["self","parts","count"] [1])(T:oM K mg C R G Pc Fo uK uN uB uE uM uC uP uI uD uL uT):fz P w K mg base 1 Pc ["self","parts","count"] [1] (kA Pc):=by
 refine D.fJ DW (fun vs H Q E h=>?_) (fun f bj A outer s H vs Q E hr h=>?_)
 ·obtain⟨p,dx,l,c,xs,rfl,_⟩:=h
  rfl
 ·obtain⟨p,dx,l,c,xs,rfl,hp,hl,q⟩:=h
  refine⟨_,(af
     (eQ (pv 0) (bN dO rfl T.n_list j6 (aa (pv 1) ao)) rfl)
    (aq
     (eQ (pv 0) (pv 2) rfl))),?_⟩
  refine⟨_,rfl,l,xs,rfl, .inl (cz.of hl),fun n hn=>?_⟩
  have u4:p≠n:=ai hp hn
  refine⟨_,rfl,p,Pc,dx,[],rfl,(by rw[aj u4];exact hp),T.dw,T.pN,(by show 0<1000;decide),_,rfl,_,rfl,p,Pc,dx,_,rfl,ag,T.dw,T.pO,(by show 1<1000;decide),?_⟩
  refine q n _ hn ag (by rw[aj (Ne.symm u4),aj (Ne.symm u4),ag]) fun b o e hb=>?_
  rw[aj hb,aj hb,aj (ai e hn)]
  exact e
theorem DX:ax ["self","pieces","charge"] ["self","pieces","charge"] (ak d8):=dH
theorem Ba(D:jH K Fo "Formula.__init__" d8 ["self","pieces","charge"] [0])(T:oM K mg C R G Pc Fo uK uN uB uE uM uC uP uI uD uL uT):fz P w K mg base 1 Fo ["self","pieces","charge"] [0] (rB Fo):=by
 refine D.fJ DX (fun vs H Q E h=>?_) (fun f bj A outer s H vs Q E hr h=>?_)
 ·obtain⟨p,dx,l,c,xs,rfl,_⟩:=h
  rfl
 ·obtain⟨p,dx,l,c,xs,rfl,hp,hl,q⟩:=h
  refine⟨_,(af
     (eQ (pv 0) (bN dO rfl T.n_list j6 (aa (pv 1) ao)) rfl)
    (aq
     (eQ (pv 0) (pv 2) rfl))),?_⟩
  refine⟨_,rfl,l,xs,rfl, .inl (cz.of hl),fun n hn=>?_⟩
  have u4:p≠n:=ai hp hn
  refine⟨_,rfl,p,Fo,dx,[],rfl,(by rw[aj u4];exact hp),T.bP,T.jP,(by show 0<1000;decide),_,rfl,_,rfl,p,Fo,dx,_,rfl,ag,T.bP,T.nU,(by show 1<1000;decide),?_⟩
  refine q n _ hn ag (by rw[aj (Ne.symm u4),aj (Ne.symm u4),ag]) fun b o e hb=>?_
  rw[aj hb,aj hb,aj (ai e hn)]
  exact e
def vX:Sp:=fun vs H Q _=>∃(c t:Int),vs=[.int c, .int t]∧0≤t∧t≤20∧∀n H',ay H H'→Q (.int n) H'
theorem rH:ax ["_law_cell","_law_turn","_law_digits","_law_step"] ["_law_cell","_law_turn"] (ak xm):=dH
theorem DY(D:Def K mg "_law_pick" "_law_pick" xm ["_law_cell","_law_turn"])(T:jN K mg C)(c1:bx P w K mg base 1 "_law_mixed" ["_law_cell","_law_prime"] mQ):bx P w K mg base 2 "_law_pick" ["_law_cell","_law_turn"] vX:=by
 obtain⟨_,_,bB⟩:=c1
 refine D.fJ rH (fun vs H Q E h=>?_) (fun f bj A outer s H vs Q E hr h=>?_)
 ·obtain⟨c,t,rfl,_⟩:=h
  rfl
 ·obtain⟨c,t,rfl,t0,t1,q⟩:=h
  refine⟨_,(af
     (bc (PW.pt (cy (aA bh (au bp (pv 0) ah) ah (aE _)) (cw (aA iB (pv 0) (au qt ah ah) (aE _)))))
      (af
       (aH (i:=2) rH.nd rfl (Or.inl rfl) (au bW (pv 0) ah))
      (af
       (gS PassesOwn.never rfl (dC rfl T.fT (aa (pv 1) ao)) (bq (i:=3) rH.nd rfl (Or.inl rfl))
        (aq
         (aH (i:=2) rH.nd rfl (Or.inl rfl) (au bW (pv 2) ah))))
      (aq
       (az (au bp (pv 2) ah)))))
      aK)
    (aq
     (az (aN bB.ok (hr.mono (by decide)) rfl bB.g bB.kp bB.b .nil aP (aa (au bo (au fZ (pv 0) (au bo (pv 1) ah)) (pv 1)) (aa (b8 dN (cm (aa ah (aa ah ao))) (au bp (pv 1) ah) (fun _ _=>rfl)) ao)))))),?_⟩
  refine dP (fun σ' H'=>σ'=[some (.int c),some (.int t),none,none]∧H'=H) (fun N hN=>?_) ?_
  ·refine⟨_,rfl,_,_,rfl,rfl,(by show (0 :Int) <2;decide),rfl,_,rfl,dY (fun _=>?_) fun _=>hN _ _ ⟨rfl,rfl⟩⟩
   refine⟨_,rfl,_,_,rfl,rfl,⟨by decide,by decide,by decide⟩,_,_,rfl,rfl,_,rfl,dY (fun _=>?_) fun _=>hN _ _ ⟨rfl,rfl⟩⟩
   refine⟨_,rfl,_,_,rfl,rfl,⟨by decide,by decide⟩,_,rfl,_,rfl,by omega,by omega,dX (fun i σ H'=>∃(z:Int) (v:Option V),σ=[some (.int c),some (.int t),some (.int z),v]∧H'=H) ⟨_,none,rfl,rfl⟩ ?_ ?_⟩
   ·rintro i σ H' hi ⟨z,v,rfl,rfl⟩
    exact⟨_,rfl,_,_,rfl,rfl,⟨by decide,by decide⟩,_,_,rfl,rfl⟩
   ·rintro σ H' ⟨z,v,rfl,rfl⟩
    exact⟨_,rfl,_,_,rfl,rfl,(by show (0 :Int) <1000003;decide),q _ _ (ay.refl _)⟩
  ·rintro σ' H' ⟨rfl,rfl⟩
   have d0:0≤t%2:=Int.emod_nonneg _ (by decide)
   have d1:t%2<2:=Int.emod_lt_of_pos _ (by decide)
   obtain⟨v,hv,tW⟩:=jI (xs:=[V.int 1000003,V.int 1000033]) d0 d1
   have hc:∃p j,v=V.int p∧j<7∧jM[j]? =some p:=by
    simp only [List.mem_cons,List.not_mem_nil,or_false] at hv
    rcases hv with rfl|rfl
    ·exact⟨_,2,rfl,by decide,rfl⟩
    ·exact⟨_,3,rfl,by decide,rfl⟩
   obtain⟨p,j,rfl,hj,hp⟩:=hc
   exact⟨_,rfl,_,rfl,_,_,rfl,rfl,_,_,rfl,rfl, .inr ⟨by omega,by omega⟩,_,rfl,_,_,rfl,rfl,(by show 2≤sizeLine;decide),fun l hl=>⟨_,rfl,_,_,rfl,rfl,(by show (0 :Int) <2;decide),l,_,_,V.int p,rfl,rfl,cz.of ag,tW,_,p,j,rfl,hj,hp,fun n H1 e=>q n _ ((ay.new hl).trans e)⟩⟩
structure y3(K:PySem.W.Frag)(mg:Str→Option Value)(C:Addr):Prop extends jN K mg C where
 Hj:mg "dict" =none
 AL:mg "abs" =none
def gJ:Nat→Int→Tr→List (Str×Int)
 |_,m, .one k n=>[(⟨k.toArray⟩,n*m)]
 |0,_, .gr _ _=>[]
 |d+1,m, .gr ts n=>ts.flatMap (gJ d (n*m))
def lY(d:Nat)(x:gO):List (Str×Int):=x.2.flatMap (gJ d x.1)
def cW(d:Nat)(xs:List gO):List (Key×V):=eG 1 [] (xs.flatMap (lY d))
def Bb(ts:List Tr):Prop:=ts≠[]∧(∀t∈ts,vJ 1 t)∧(ts.flatMap (dR 1)).length≤23∧(ts.flatMap (gJ 1 1)).length≤5
theorem tX:∀(l acc:List (Key×V)),((acc++l).map (·.1)).Nodup→b7 acc l=acc++l
 | [],acc,_=>by rw[List.append_nil];rfl
 |p::r,acc,h=>by
  have hn:cN acc p.1=none:=by
   cases e:cN acc p.1 with
   |none=>rfl
   |some x=>
    rw[List.map_append,List.nodup_append] at h
    exact absurd rfl (h.2.2 _ (CV e) p.1 (by simp))
  show b7 (putK acc p.1 p.2) r=_
  rw[sC _ hn,tX r (acc++[(p.1,p.2)]) (by rw[List.append_assoc];exact h),List.append_assoc]
  rfl
theorem rJ(c:Int):∀(as:List (Str×Int)) (acc:List (Key×V)),eG 1 acc (as.map fun p=>(p.1,p.2*c))=eG c acc as
 | [],_=>rfl
 |p::r,acc=>by
  show eG 1 (iu acc (Sum.inr p.1) (p.2*c*1)) (r.map fun p=>(p.1,p.2*c))=eG c (iu acc (Sum.inr p.1) (p.2*c)) r
  rw[Int.mul_one,rJ c r]
theorem y4{D:List (Key×V)}(hI:gg D)(hn:(D.map (·.1)).Nodup)(c:Int):(D.map fun p=>(p.1,V.int (c*sh D p.1)))=scale c D:=by
 unfold scale
 apply List.map_congr_left
 intro p hp
 have e:=hI.look (sQ hn hp)
 show (p.1,V.int (c*sh D p.1))=(p.1,yD c p.2)
 rw[e]
 show _=(p.1,V.int (sh D p.1*c))
 rw[Int.mul_comm]
abbrev vY:=List (List Nat×Int)
def aT(a:List Nat×Int):Tr:= .one a.1 a.2
def oS(as:vY):List (Str×Int):=as.map fun a=>((⟨a.1.toArray⟩:Str),a.2)
def Bc(as:vY):Prop:=∀a∈as,tF a.1∧1≤a.2∧a.2≤999
theorem jS(d:Nat)(m:Int)(as:vY):(as.map aT).flatMap (gJ d m)=(oS as).map fun p=>(p.1,p.2*m):=by
 unfold oS
 induction as with
 |nil=>rfl
 |cons a r ih=>
  rw[List.map_cons,List.flatMap_cons,ih,List.map_cons,List.map_cons]
  have e:gJ d m (aT a)=[((⟨a.1.toArray⟩:Str),a.2*m)]:=by cases d<;>rfl
  rw[e]
  rfl
theorem lJ(d:Nat)(as:vY):(as.map aT).flatMap (dR d)=as.flatMap fun a=>a.1++bw a.2:=by
 induction as with
 |nil=>rfl
 |cons a r ih=>
  rw[List.map_cons,List.flatMap_cons,ih,List.flatMap_cons]
  have e:dR d (aT a)=a.1++bw a.2:=by cases d<;>rfl
  rw[e]
theorem tY{n:Int}(h:1≤n)(h':n≤999):(bw n).length≤3:=by
 have:=eI h h'
 rw[bY,aB] at this
 exact this
theorem tZ{n:Int}(h:1≤n)(h':n≤99):(bw n).length≤2:=by
 obtain⟨m,rfl⟩:=Int.eq_ofNat_of_zero_le (show 0≤n by omega)
 have:=lD (n:=m) (k:=2) (by decide) (by omega)
 rw[bY,aB] at this
 exact this
theorem Bd{k:List Nat}(h:tF k):k.length≤3:=by
 obtain⟨c,r,rfl,_,_,h3⟩:=h
 rw[List.length_cons]
 omega
theorem jb{as:vY}(h:Bc as):(as.flatMap fun a=>a.1++bw a.2).length≤6*as.length:=by
 induction as with
 |nil=>exact Nat.zero_le _
 |cons a r ih=>
  have h1:=h a (List.mem_cons_self ..)
  have h2:=ih fun b hb=>h b (List.mem_cons_of_mem _ hb)
  have h3:=Bd h1.1
  have h4:=tY h1.2.1 h1.2.2
  rw[List.flatMap_cons,List.length_append,List.length_append,List.length_cons]
  omega
theorem t7{as:vY}(h:Bc as)(d:Nat):∀t∈as.map aT,vJ d t:=by
 intro t ht
 obtain⟨a,ha,rfl⟩:=List.mem_map.mp ht
 have:=h a ha
 cases d<;>exact this
theorem Be{as:vY}(h:Bc as)(h1:1≤as.length)(h3:as.length≤3):Bb (as.map aT):=by
 refine⟨?_,t7 h 1,?_,?_⟩
 ·intro z
  have:=congrArg List.length z
  rw[List.length_map,List.length_nil] at this
  omega
 ·rw[lJ]
  have:=jb h
  omega
 ·rw[jS,List.length_map]
  unfold oS
  rw[List.length_map]
  omega
theorem KH(as:vY):cW 1 [(1,as.map aT)]=eG 1 [] (oS as):=by
 show eG 1 [] ((as.map aT).flatMap (gJ 1 1)++[])=_
 rw[List.append_nil,jS,rJ]
theorem Fc(as:vY)(c:Int):([Tr.gr (as.map aT) c].flatMap (dR 1))=40::((as.flatMap fun a=>a.1++bw a.2)++41::bw c):=by
 rw[List.flatMap_cons,List.flatMap_nil,List.append_nil]
 show 40::((as.map aT).flatMap (dR 0)++41::bw c)=_
 rw[lJ]
theorem Fd(as:vY)(c:Int):([Tr.gr (as.map aT) c].flatMap (gJ 1 1))=(oS as).map fun p=>(p.1,p.2*(c*1)):=by
 rw[List.flatMap_cons,List.flatMap_nil,List.append_nil]
 show (as.map aT).flatMap (gJ 0 (c*1))=_
 rw[jS]
theorem Hk{as:vY}(h:Bc as)(h1:1≤as.length)(h3:as.length≤3){c:Int}(c1:1≤c)(c2:c≤999):Bb [.gr (as.map aT) c]:=by
 refine⟨by simp,fun t ht=>?_,?_,?_⟩
 ·have e:t= .gr (as.map aT) c:=by simpa using ht
  subst e
  exact⟨(Be h h1 h3).1,t7 h 0,c1,c2⟩
 ·rw[Fc]
  have:=jb h
  have:=tY c1 c2
  simp only [List.length_cons,List.length_append]
  omega
 ·rw[Fd,List.length_map]
  unfold oS
  rw[List.length_map]
  omega
theorem KI(as:vY)(c:Int):cW 1 [(1,[.gr (as.map aT) c])]=scale c (eG 1 [] (oS as)):=by
 show eG 1 [] ([Tr.gr (as.map aT) c].flatMap (gJ 1 1)++[])=_
 rw[List.append_nil,Fd,rJ,pE 1 c _ [] (fun p hp=>by cases hp),Int.mul_one,Int.one_mul]
 rfl
theorem gg.DZ{kvs:List (Key×V)}(h:gg kvs){k:Key}{v:V}(hm:(k,v)∈kvs):cN kvs k=some (.int (sh kvs k)):=by
 cases f:cN kvs k with
 |none=>exact absurd (List.mem_map_of_mem (f:=(·.1)) hm) (sP f)
 |some x=>rw[h.look f]
theorem none_back{H H':Hp}{D:Addr}(e:ay H H')(h:H' D=none):H D=none:=by
 cases hh:H D with
 |none=>rfl
 |some o=>rw[e _ _ hh] at h;cases h
theorem take_snoc{α:Type}{l:List α}{i:Nat}{a:α}(h:l[i]? =some a):l.take (i+1)=l.take i++[a]:=by
 rw[List.take_add_one,h]
 rfl
theorem KJ:(⟨(([]:vY).flatMap fun a=>a.1++bw a.2).toArray⟩:Str)="" :=by decide+kernel
theorem KL(as:vY)(m:Int):("(" :Str)++(⟨(as.flatMap fun a=>a.1++bw a.2).toArray⟩:Str)++")" ++dq m=⟨([Tr.gr (as.map aT) m].flatMap (dR 1)).toArray⟩:=by
 rw[Fc,bY,G3,QA,show (⟨#[40]⟩:Str)=⟨[40].toArray⟩ from rfl,show (⟨#[41]⟩:Str)=⟨[41].toArray⟩ from rfl,aO,aO,aO]
 simp
def V9(o:Obj)(KV:List (Key×V))(d D2:Addr)(m:Int)(H2:Hp):Nat→St→Hp→Prop:=fun i σ H'=>∃(v:Option V) (ps:List (Addr×Key×V)),σ=[v,some (.int m),some (.ref d)]∧H' d=some (.kR o (.dK KV))∧H' D2=some (.lst (ps.map fun p=> .ref p.1))∧(∀p∈ps,H' p.1=some (.tup [kV p.2.1,p.2.2]))∧ps.map (·.2)=((KV.take i).map fun p=>(p.1,V.int (m*sh KV p.1)))∧∀b o',H2 b=some o'→b≠d→H' b=some o'
theorem eM:ax ["_law_cell","_law_text","_law_counts","_law_k","_law_kind_here","_law_count_here","_law_times"] ["_law_cell"] (ak ku):=dH
def t8:Sp:=fun vs H Q _=>∃c:Int,vs=[.int c]∧∀(t d:Addr) (ts:List Tr) H',Bb ts→H d=none→H' t=some (.tup [.str ⟨(ts.flatMap (dR 1)).toArray⟩, .ref d])→H' d=some (.dK (cW 1 [(1,ts)]))→ay H H'→Q (.ref t) H'
theorem y7(D:Def K mg "_law_piece" "_law_piece" ku ["_law_cell"])(T:y3 K mg C)(c1:bx P w K mg base 2 "_law_pick" ["_law_cell","_law_turn"] vX)(c2:bx P w K mg base 1 "_law_kind" ["_law_number"] xD)(c3:bx P w K mg base 1 "_law_count" ["_law_number"] xE)(c4:bx P w K mg base 1 "_law_figures" ["_law_count_here"] gZ):
  bx P w K mg base 3 "_law_piece" ["_law_cell"] t8:=by
 obtain⟨_,_,bV⟩:=c1
 obtain⟨_,_,kJ⟩:=c2
 obtain⟨_,_,dF⟩:=c3
 obtain⟨_,_,bg⟩:=c4
 refine D.fJ eM (fun vs H Q E h=>?_) (fun f bj A outer s H vs Q E hr h=>?_)
 ·obtain⟨c,rfl,_⟩:=h
  rfl
 ·obtain⟨c,rfl,q⟩:=h
  have hu:=pq hr
  have QX:=hr.qv
  have big:(2000 :Nat)≤sizeLine:=by decide
  have m0:0≤c%3:=Int.emod_nonneg _ (by decide)
  have m1:c%3<3:=Int.emod_lt_of_pos _ (by decide)
  refine⟨_,(af
     (aH (i:=1) eM.nd rfl (Or.inl rfl) aw)
    (af
     (aH (i:=2) eM.nd rfl (Or.inr rfl) sG)
    (af
     (gS PassesOwn.never rfl (dC rfl T.fT (aa (au bo ah (au bp (pv 0) ah)) ao)) (bq (i:=3) eM.nd rfl (Or.inl rfl))
      (af
       (aH (i:=4) eM.nd rfl (Or.inl rfl) (aN kJ.ok (hr.mono (by decide)) rfl kJ.g kJ.kp kJ.b .nil aP (aa (aN bV.ok (hr.mono (by decide)) rfl bV.g bV.kp bV.b .nil aP (aa (pv 0) (aa (au fZ ah (pv 3)) ao))) ao)))
      (af
       (aH (i:=5) eM.nd rfl (Or.inl rfl) (aN dF.ok (hr.mono (by decide)) rfl dF.g dF.kp dF.b .nil aP (aa (aN bV.ok (hr.mono (by decide)) rfl bV.g bV.kp bV.b .nil aP (aa (pv 0) (aa (au bo (au fZ ah (pv 3)) ah) ao))) ao)))
      (af
       (aH (i:=1) eM.nd rfl (Or.inl rfl) (au aG (au aG (pv 1) (pv 4)) (aN bg.ok (hr.mono (by decide)) rfl bg.g bg.kp bg.b .nil aP (aa (pv 5) ao))))
      (aq
       (qz hu (pv 2) (pv 4) (au bo (jZ hu (pv 2) (pv 4) ah ⟨rfl,rfl,rfl,rfl⟩) (pv 5)) rfl))))))
    (af
     (aH (i:=6) eM.nd rfl (Or.inr rfl) (aN dF.ok (hr.mono (by decide)) rfl dF.g dF.kp dF.b .nil aP (aa (aN bV.ok (hr.mono (by decide)) rfl bV.g bV.kp bV.b .nil aP (aa (pv 0) (aa ah ao))) ao)))
    (af
     (bc (aA iB (au bp (au bW (pv 0) ah) ah) ah (aE _))
      (aq
       (az (bM (aa (pv 1) (aa (pv 2) ao)))))
      aK)
    (aq
     (az (bM (aa (au aG (au aG (au aG aw (pv 1)) aw) (aN bg.ok (hr.mono (by decide)) rfl bg.g bg.kp bg.b .nil aP (aa (pv 6) ao))) (aa (bN (vx rfl) rfl T.Hj Dd (aa (C0 (j4 (sc:=(ak ku)) (NX:=["_law_cell","_law_text","_law_counts","_law_k","_law_kind_here","_law_count_here","_law_times"]) (N:=["_law_kind_here","_law_times","_law_counts"]) (fr:=[none,some 6,some 2]) ⟨by rfl,by rfl,by decide+kernel,by decide+kernel,by decide+kernel,by rfl,by decide+kernel⟩ rfl rfl rfl (CZ (pv 2)) (fun _ _ _ _=>(bq (i:=0) (show (["_law_kind_here","_law_times","_law_counts"]:List Str).Nodup by decide+kernel) rfl (Or.inl rfl) (Or.inr rfl))) (fun _ _ _ _=>j3) (fun _ _ _ _=>(bM (aa (pv 0) (aa (au fZ (pv 1) (qy hu (pv 2) (pv 0) (fun _ _=>rfl))) ao)))))) ao)) ao)))))))))),?_⟩
  refine fun d hd=>?_
  refine⟨_,rfl,_,_,rfl,rfl,(by show (0 :Int) <3;decide),_,_,rfl,rfl,_,rfl,by omega,by omega,dX (fun i σ H'=>∃(as:vY) (v3 v4 v5:Option V),σ=[some (.int c),some (.str ⟨(as.flatMap fun a=>a.1++bw a.2).toArray⟩),some (.ref d),v3,v4,v5,none]∧Bc as∧as.length=i∧H' d=some (.dK (eG 1 [] (oS as)))∧ay H H') ?_ ?_ ?_⟩
  ·exact⟨[],none,none,none,by rw[KJ];rfl,(fun a ha=>by cases ha),rfl,ag,ay.new hd⟩
  ·rintro i σ H' hi ⟨as,v3,v4,v5,rfl,bb,hl,ql,e⟩
   have Zy:i<3:=by omega
   refine⟨_,rfl,_,rfl,_,_,rfl,rfl, .inl ⟨by decide,by decide⟩,c,_,rfl,by omega,by omega,fun n1 H1 e1=>⟨n1,rfl,fun k H2 hk e2=>?_⟩⟩
   refine⟨_,rfl,_,rfl,_,_,rfl,rfl, .inl ⟨by decide,by decide⟩,_,_,rfl,rfl,c,_,rfl,by omega,by omega,fun n2 H3 e3=>⟨n2,rfl,fun m H4 m1 m2 e4=>?_⟩⟩
   have s4:=((e1.trans e2).trans e3).trans e4
   have Cs:=s4 _ _ ql
   have za:=jb bb
   have zk:=Bd hk
   have zm:=eI m1 m2
   have hI:gg (eG 1 [] (oS as)):=mN 1 _ _ fun p hp=>by cases hp
   have OO:=mO 1 (oS as) []
   have Jb:(oS as).length=as.length:=by unfold oS;rw[List.length_map]
   rw[List.length_nil] at OO
   refine⟨_,rfl,_,rfl,_,_,rfl,rfl,by rw[aB,aB];omega,_,rfl,m,rfl,m1,m2,_,_,rfl,rfl,by rw[aM,aB,aB];omega,?_⟩
   refine⟨_,rfl,d,rfl, .inl ⟨_, .inl Cs⟩,_,rfl,_,mh.k (k:=Sum.inr ⟨k.toArray⟩) Cs,_,rfl,_,_,hI.at _,rfl,_,rfl,_,rfl,d,_,rfl,vo.k (k:=Sum.inr ⟨k.toArray⟩) Cs (by omega),?_⟩
   refine⟨as++[(k,m)],some (.int (0+(i:Int))),some (.str ⟨k.toArray⟩),some (.int m),?_,?_,?_,?_,?_⟩
   ·have ex:(⟨(as.flatMap fun a=>a.1++bw a.2).toArray⟩:Str)++⟨k.toArray⟩++dq m=⟨((as++[(k,m)]).flatMap fun a=>a.1++bw a.2).toArray⟩:=by
     rw[bY,aO,aO,List.flatMap_append,List.flatMap_cons,List.flatMap_nil,List.append_nil,List.append_assoc]
    rw[←ex]
    rfl
   ·intro a ha
    rcases List.mem_append.mp ha with ha|ha
    ·exact bb a ha
    ·have ea:a=(k,m):=by simpa using ha
     subst ea
     exact⟨hk,m1,m2⟩
   ·rw[List.length_append,hl]
    rfl
   ·rw[ag]
    have ec:eG 1 [] (oS (as++[(k,m)]))=iu (eG 1 [] (oS as)) (Sum.inr ⟨k.toArray⟩) (m*1):=by
     unfold oS eG
     rw[List.map_append,List.foldl_append]
     rfl
    rw[ec,Int.mul_one]
    rfl
   ·intro b o z
    rw[aj (ai z hd)]
    exact s4 _ _ (e _ _ z)
  ·rintro σ H' ⟨as,v3,v4,v5,rfl,bb,hl,ql,e⟩
   have l1:1≤as.length:=by omega
   have l3:as.length≤3:=by omega
   refine⟨_,rfl,c,6,rfl,by decide,by decide,fun n1 H1 e1=>⟨n1,rfl,fun m H2 m1 m2 e2=>?_⟩⟩
   have s2:=e1.trans e2
   have hd2:=s2 _ _ ql
   have QY:=e.trans s2
   have za:=jb bb
   have zm:=eI m1 m2
   refine⟨_,rfl,_,_,rfl,rfl,⟨by decide,by decide⟩,_,_,rfl,rfl,(by show (0 :Int) <3;decide),_,_,rfl,rfl,_,rfl,dY (fun _=>?_) fun _=>?_⟩
   ·refine⟨_,rfl,_,rfl,(by show 2≤sizeLine;decide),fun t ht=>q t d (as.map aT) _ (Be bb l1 l3) hd ?_ ?_ (QY.trans (ay.new ht))⟩
    ·rw[ag,lJ]
    ·rw[aj (ai hd2 ht),KH]
     exact hd2
   ·have QZ:("(" :Str).length=1:=by decide+kernel
    have V':(")" :Str).length=1:=by decide+kernel
    refine⟨_,rfl,_,_,rfl,rfl,by rw[QZ,aB];omega,_,_,rfl,rfl,by rw[aM,QZ,V',aB];omega,_,rfl,m,rfl,m1,m2,_,_,rfl,rfl,by rw[aM,aM,QZ,V',aB];omega,?_⟩
    refine⟨_,rfl,d,_,rfl,hd2,fun o nf D2 OP=>?_⟩
    have hI:gg (eG 1 [] (oS as)):=mN 1 _ _ fun p hp=>by cases hp
    have hn:((eG 1 [] (oS as)).map (·.1)).Nodup:=AA 1 _ _ List.nodup_nil
    have OO:=mO 1 (oS as) []
    have Jb:(oS as).length=as.length:=by unfold oS;rw[List.length_map]
    rw[List.length_nil] at OO
    generalize hK:eG 1 [] (oS as)=KV at hd2 hI hn OO
    have OQ:D2≠d:=fun z=>by rw[z,ag] at OP;cases OP
    have Wa:H2 D2=none:=by rwa [aj OQ] at OP
    have gen:∀i σ H',V9 o KV d D2 m H2 i σ H'→H' d=some (.kR o (.dK KV)):=fun i σ H' ⟨_,_,_,z,_⟩=>z
    refine yo (a:=d) (D:=D2) (kvs:=KV) (V9 o KV d D2 m H2) ?_ gen ?_ ?_
    ·exact⟨none,[],rfl,by rw[aj (Ne.symm OQ),ag],ag,(fun p hp=>by cases hp),rfl,fun b o' z hb=>by rw[aj (ai z Wa),aj hb];exact z⟩
    ·rintro i k v σ H' hi ⟨v',ps,rfl,f1,f2,f3,f4,f5⟩ N hN
     have hv:=hI.DZ (List.mem_of_getElem? hi)
     have k7:ps.length≤3:=by
      have:=congrArg List.length f4
      rw[List.length_map,List.length_map,List.length_take] at this
      omega
     refine⟨_,rfl,_,rfl,_,rfl,_,rfl,d,V.int (sh KV k),rfl, .inl ⟨_,k, .inr ⟨o,f1⟩,rfl,hv.symm⟩,_,_,rfl,rfl, .inl ⟨by omega,by omega⟩,(by show 2≤sizeLine;decide),fun t ht=>?_⟩
     have Wb:D2≠t:=ai f2 ht
     have X4:d≠t:=ai f1 ht
     refine⟨_,by rw[aj Wb];exact f2,by rw[List.length_map];omega,hN _ _ ⟨_,ps++[(t,k,V.int (m*sh KV k))],rfl,?_,?_,?_,?_,?_⟩⟩
     ·rw[aj (Ne.symm OQ),aj X4];exact f1
     ·rw[ag,List.map_append];rfl
     ·intro p hp
      rcases List.mem_append.mp hp with hp|hp
      ·have p1:=f3 p hp
       rw[aj (mZ p1 f2 (by intro z;cases z)),aj (ai p1 ht)]
       exact p1
      ·have e':p=(t,k,V.int (m*sh KV k)):=by simpa using hp
       subst e'
       rw[aj (Ne.symm Wb)];exact ag
     ·rw[List.map_append,f4,take_snoc hi,List.map_append]
      rfl
     ·intro b o' e' hb
      rw[aj (ai e' Wa),aj (ai (f5 b o' e' hb) ht)]
      exact f5 b o' e' hb
    rintro σ H' ⟨v',ps,rfl,f1,f2,f3,f4,f5⟩
    rw[List.take_length] at f4
    refine⟨d,o,KV,f1,nf,D2,ps,rfl,by rw[aj OQ];exact f2,fun p hp=>by rw[aj (mZ (f3 p hp) f1 (by intro z;cases z))];exact f3 p hp,fun w hw=>?_⟩
    have e8:b7 [] (ps.map (·.2))=scale m KV:=by
     rw[f4,tX _ [] (by rw[List.nil_append,List.map_map];exact hn),List.nil_append,y4 hI hn]
    have Wc:ay H2 (upd H' d (.dK KV)):=fun b o' e=>by
     by_cases z:b=d
     ·subst z
      rw[ag]
      exact hd2.symm.trans e
     ·rw[aj z];exact f5 b o' e z
    have s8:ay H2 (upd (upd H' d (.dK KV)) w (.dK (b7 [] (ps.map (·.2))))):=Wc.trans (ay.new hw)
    have X5:H w=none:=none_back (QY.trans Wc) hw
    refine⟨(by show 2≤sizeLine;decide),fun t ht=>?_⟩
    refine q t w [.gr (as.map aT) m] _ (Hk bb l1 l3 m1 m2) X5 ?_ ?_ ((QY.trans s8).trans (ay.new ht))
    ·rw[ag,←KL]
    ·rw[aj (ai ag ht),ag,KI,hK,e8]
abbrev Fm:=List gO×Int
def fL(x:Fm):List Nat:=wL 1 x.1 x.2
def Hl(x:Fm):Prop:=Cp 1 x.1 x.2∧(fL x).length≤33∧(x.1.flatMap (lY 1)).length≤7
def Bf(H:Hp)(t:Addr)(x:Fm):Prop:=∃d,H t=some (.tup [.str ⟨(fL x).toArray⟩, .ref d, .int x.2])∧H d=some (.dK (cW 1 x.1))
theorem Bf.same{H H':Hp}{t:Addr}{x:Fm}(h:Bf H t x)(e:ay H H'):Bf H' t x:=let ⟨d,h1,h2⟩:=h;⟨d,e _ _ h1,e _ _ h2⟩
theorem Hm(n:Int):wV [V.str "-",V.str "+"] (if decide (n>0)=true then 1 else 0)=some (V.str (if 0<n then ("+" :Str) else ("-" :Str))):=by
 by_cases h:0<n
 ·rw[if_pos (decide_eq_true h),if_pos h]
  rfl
 ·rw[if_neg (by simpa using h),if_neg h]
  rfl
theorem D0{n:Int}(e:¬n=0):(⟨(lV n).toArray⟩:Str)="^" ++dq (if n<0 then -n else n)++(if 0<n then ("+" :Str) else ("-" :Str)):=by
 unfold lV
 rw[if_neg e,bY,Kq,QB,Kr]
 rw[show (⟨#[94]⟩:Str)=⟨[94].toArray⟩ from rfl,aO]
 by_cases hp:0<n
 ·rw[if_pos hp,if_pos hp,show (⟨#[43]⟩:Str)=⟨[43].toArray⟩ from rfl,aO]
  simp
 ·rw[if_neg hp,if_neg hp,show (⟨#[45]⟩:Str)=⟨[45].toArray⟩ from rfl,aO]
  simp
theorem KN{xs:List gO}(h:xs≠[])(n:Int):wL 1 xs n=wL 1 xs 0++lV n:=by
 cases xs with
 |nil=>exact absurd rfl h
 |cons x r=>
  show x.2.flatMap (dR 1)++(eL 1 r++lV n)=x.2.flatMap (dR 1)++(eL 1 r++[])++lV n
  rw[List.append_nil,List.append_assoc]
def OR(xs:List gO):Prop:=xs≠[]∧(∀n, -999≤n→n≤999→Cp 1 xs n)∧(wL 1 xs 0).length≤29∧(xs.flatMap (lY 1)).length≤7
def zE(t:Int):gO:=(t,[.one [72] 2, .one [79] 1])
theorem eH:("H" :Str)=⟨[72].toArray⟩:=by decide+kernel
theorem eO:("O" :Str)=⟨[79].toArray⟩:=by decide+kernel
theorem Q0:("H2O" :Str)=⟨[72,50,79].toArray⟩:=by decide+kernel
theorem Q1:bw 2=[50]:=by decide+kernel
theorem Q2:bw 1=[]:=by decide+kernel
theorem KO(t:Int):eL 1 [zE t]=46::(bw t++[72,50,79]):=by
 show (46::(bw t++([72]++bw 2++([79]++bw 1++[]))))++[]=_
 rw[Q1,Q2]
 simp
theorem KP(ts:List Tr):wL 1 [(1,ts)] 0=ts.flatMap (dR 1):=by
 show ts.flatMap (dR 1)++([]++[])=_
 simp
theorem KQ(ts:List Tr)(t:Int):wL 1 [(1,ts),zE t] 0=ts.flatMap (dR 1)++46::(bw t++[72,50,79]):=by
 show ts.flatMap (dR 1)++(eL 1 [zE t]++[])=_
 rw[List.append_nil,KO]
theorem Fe{ts:List Tr}(h:Bb ts):OR [(1,ts)]:=by
 obtain⟨h1,h2,h3,h4⟩:=h
 refine⟨by simp,fun n n1 n2=>⟨rfl,fun x hx=>?_,n1,n2⟩,?_,?_⟩
 ·have e:x=(1,ts):=by simpa using hx
  subst e
  exact⟨h1,h2,(by show (1 :Int)≤1;decide),(by show (1 :Int)≤999;decide)⟩
 ·rw[KP]
  omega
 ·show (ts.flatMap (gJ 1 1)++[]).length≤7
  rw[List.append_nil]
  omega
theorem KR{ts:List Tr}(h:Bb ts){t:Int}(t1:1≤t)(t2:t≤99):OR [(1,ts),zE t]:=by
 obtain⟨h1,h2,h3,h4⟩:=h
 refine⟨by simp,fun n n1 n2=>⟨rfl,fun x hx=>?_,n1,n2⟩,?_,?_⟩
 ·have e:x=(1,ts)∨x=zE t:=by simpa using hx
  rcases e with e|e
  ·subst e
   exact⟨h1,h2,(by show (1 :Int)≤1;decide),(by show (1 :Int)≤999;decide)⟩
  ·subst e
   refine⟨by simp [zE],fun u hu=>?_,t1,(by show t≤999;omega)⟩
   have e:u= .one [72] 2∨u= .one [79] 1:=by simpa [zE] using hu
   rcases e with e|e
   ·subst e
    exact⟨⟨72,[],rfl,by decide,by decide,by decide⟩,by decide,by decide⟩
   ·subst e
    exact⟨⟨79,[],rfl,by decide,by decide,by decide⟩,by decide,by decide⟩
 ·rw[KQ,List.length_append,List.length_cons,List.length_append]
  have:=tZ t1 t2
  have:[72,50,79].length=3:=rfl
  omega
 ·show (ts.flatMap (gJ 1 1)++(lY 1 (zE t)++[])).length≤7
  rw[List.length_append]
  show _+2≤7
  omega
theorem Q3(ts:List Tr)(t:Int):cW 1 [(1,ts),zE t]=iu (iu (cW 1 [(1,ts)]) (Sum.inr "H") (2*t)) (Sum.inr "O") t:=by
 have e:([(1,ts),zE t]:List gO).flatMap (lY 1)=([(1,ts)]:List gO).flatMap (lY 1)++[((⟨[72].toArray⟩:Str),2*t),(⟨[79].toArray⟩,1*t)]:=by
  show ts.flatMap (gJ 1 1)++([((⟨[72].toArray⟩:Str),2*t)]++([((⟨[79].toArray⟩:Str),1*t)]++[])++[])=(ts.flatMap (gJ 1 1)++[])++_
  simp
 unfold cW eG
 rw[e,List.foldl_append,eH,eO]
 show iu (iu _ (Sum.inr _) (2*t*1)) (Sum.inr _) (1*t*1)=_
 rw[Int.mul_one,Int.mul_one,Int.one_mul]
theorem KS{xs:List gO}(h:OR xs){n:Int}(n1: -99≤n)(n2:n≤99):Hl (xs,n):=by
 obtain⟨h1,h2,h3,h4⟩:=h
 refine⟨h2 n (by omega) (by omega),?_,h4⟩
 show (wL 1 xs n).length≤33
 rw[KN h1,List.length_append]
 have:(lV n).length≤4:=by
  unfold lV
  split
  ·exact Nat.zero_le _
  ·have:=tZ (n:=if n<0 then -n else n) (by split<;>omega) (by split<;>omega)
   rw[List.length_cons,List.length_append]
   show _+1+1≤4
   omega
 omega
theorem Hn(xs:List gO):gg (cW 1 xs):=mN 1 _ _ fun p hp=>by cases hp
theorem Ho{xs:List gO}{m:Nat}(h:(xs.flatMap (lY 1)).length≤m):(cW 1 xs).length≤m:=by
 have:=mO 1 (xs.flatMap (lY 1)) []
 rw[List.length_nil] at this
 unfold cW
 omega
def oh:Sp:=fun vs H Q _=>∃c:Int,vs=[.int c]∧∀(t:Addr) (x:Fm) H',Hl x→Bf H' t x→ay H H'→Q (.ref t) H'
theorem cS:ax ["_law_cell","_law_text","_law_counts","_law_water","_law_times","_law_charge"] ["_law_cell"] (ak i4):=dH
theorem t9(D:Def K mg "_law_formula" "_law_formula" i4 ["_law_cell"])(T:y3 K mg C)(c1:bx P w K mg base 2 "_law_pick" ["_law_cell","_law_turn"] vX)(c2:bx P w K mg base 3 "_law_piece" ["_law_cell"] t8)(c4:bx P w K mg base 1 "_law_figures" ["_law_count_here"] gZ):
  bx P w K mg base 4 "_law_formula" ["_law_cell"] oh:=by
 obtain⟨_,_,bV⟩:=c1
 obtain⟨_,_,jc⟩:=c2
 obtain⟨_,_,bg⟩:=c4
 refine D.fJ cS (fun vs H Q E h=>?_) (fun f bj A outer s H vs Q E hr h=>?_)
 ·obtain⟨c,rfl,_⟩:=h
  rfl
 ·obtain⟨c,rfl,q⟩:=h
  have hu:=pq hr
  have QX:=hr.qv
  have big:(2000 :Nat)≤sizeLine:=by decide
  refine⟨_,(af
     (bc (aA bh (au bp (pv 0) ah) ah (aE _))
      (aq
       (az (bM (aa aw (aa sG (aa (lQ iA ah) ao))))))
      aK)
    (af
     (qr (aN jc.ok (hr.mono (by decide)) rfl jc.g jc.kp jc.b .nil aP (aa (au bW (pv 0) ah) ao)) (kW rfl (bX (bq (i:=1) cS.nd rfl (Or.inl rfl)) (bX (bq (i:=2) cS.nd rfl (Or.inl rfl)) iT))))
    (af
     (aH (i:=3) cS.nd rfl (Or.inl rfl) (aN bV.ok (hr.mono (by decide)) rfl bV.g bV.kp bV.b .nil aP (aa (pv 0) (aa ah ao))))
    (af
     (bc (aA bh (au bp (pv 3) ah) ah (aE _))
      (af
       (aH (i:=4) cS.nd rfl (Or.inl rfl) (au bo ah (au bp (au bW (pv 3) ah) ah)))
      (af
       (aH (i:=1) cS.nd rfl (Or.inl rfl) (au aG (au aG (au aG (pv 1) aw) (aN bg.ok (hr.mono (by decide)) rfl bg.g bg.kp bg.b .nil aP (aa (pv 4) ao))) aw))
      (af
       (qz hu (pv 2) aw (au bo (jZ hu (pv 2) aw ah ⟨rfl,rfl,rfl,rfl⟩) (au fZ ah (pv 4))) rfl)
      (aq
       (qz hu (pv 2) aw (au bo (jZ hu (pv 2) aw ah ⟨rfl,rfl,rfl,rfl⟩) (pv 4)) rfl)))))
      aK)
    (af
     (aH (i:=5) cS.nd rfl (Or.inl rfl) (b8 dN (cm (aa ah (aa ah (aa ah (aa (lQ iA ah) (aa ah (aa (lQ iA ah) (aa ah (aa (lQ iA ah) (aa ah ao)))))))))) (au bp (au bW (pv 3) ah) ah) (fun _ _=>rfl)))
    (af
     (bc (aA wQ (pv 5) ah (aE _))
      (aq
       (aH (i:=1) cS.nd rfl (Or.inl rfl) (au aG (au aG (au aG (pv 1) aw) (aN bg.ok (hr.mono (by decide)) rfl bg.g bg.kp bg.b .nil aP (aa (bJ sy rfl T.AL Ag (aa (pv 5) ao)) ao))) (b8 dN (cm (aa aw (aa aw ao))) (bN iU rfl T.pG lq (aa (cV iB (pv 5) ah (aE _)) ao)) (fun _ _=>rfl)))))
      aK)
    (aq
     (az (bM (aa (pv 1) (aa (pv 2) (aa (pv 5) ao)))))))))))),?_⟩
  refine⟨_,rfl,_,_,rfl,rfl,(by show (0 :Int) <16;decide),rfl,_,rfl,dY (fun _=>?_) fun _=>?_⟩
  ·refine fun d hd=>⟨1,rfl,(by show 3≤sizeLine;decide),fun t ht=>?_⟩
   have e0:("e^-" :Str)=⟨(fL ([], -1)).toArray⟩:=by decide+kernel
   refine q t ([], -1) _ ⟨rfl,(by show 3≤33;decide),(by show 0≤7;decide)⟩ ⟨d,?_,?_⟩ ((ay.new hd).trans (ay.new ht))
   ·rw[ag,←e0]
   ·rw[aj (ai ag ht),ag]
    rfl
  refine⟨_,rfl,_,_,rfl,rfl,⟨by decide,by decide⟩,_,rfl,fun t0 d ts H1 D4 hd KU P' e1=>?_⟩
  refine⟨t0,_,rfl,jD.of KU,rfl,_,_,rfl,_,_,rfl,rfl,?_⟩
  refine⟨_,rfl,c,9,rfl,by decide,by decide,fun wt H2 e2=>?_⟩
  have hd2:=e2 _ _ P'
  have Wd:=e1.trans e2
  have z1:=D4.2.2.1
  dsimp only [dM]
  refine dP (fun σ' H'=>∃(xs:List gO) (v4:Option V),σ'=[some (.int c),some (.str ⟨(wL 1 xs 0).toArray⟩),some (.ref d),some (.int wt),v4,none]∧OR xs∧H' d=some (.dK (cW 1 xs))∧ay H H') (fun N hN=>?_) ?_
  ·refine⟨_,rfl,_,_,rfl,rfl,(by show (0 :Int) <5;decide),rfl,_,rfl,dY (fun _=>?_) fun _=>?_⟩
   ·have t1:1≤1+wt/5%99:=by have:=Int.emod_nonneg (wt/5) (show (99 :Int)≠0 by decide);omega
    have t2:1+wt/5%99≤99:=by have:=Int.emod_lt_of_pos (wt/5) (show (0 :Int) <99 by decide);omega
    have zt:=eI t1 (by omega)
    have Q4:("." :Str).length=1:=by decide+kernel
    have lw:("H2O" :Str).length=3:=by decide+kernel
    refine⟨_,rfl,_,_,rfl,rfl,⟨by decide,by decide⟩,_,_,rfl,rfl,(by show (0 :Int) <99;decide),_,_,rfl,rfl,?_⟩
    refine⟨_,rfl,_,_,rfl,rfl,by rw[aB,Q4];omega,_,rfl,1+wt/5%99,rfl,t1,by omega,_,_,rfl,rfl,by rw[aM,aB,Q4];omega,_,_,rfl,rfl,by rw[aM,aM,aB,Q4,lw];omega,?_⟩
    have hI:=Hn [(1,ts)]
    have hl:=Ho (Fe D4).2.2.2
    have wW:(iu (cW 1 [(1,ts)]) (Sum.inr "H") (2*(1+wt/5%99))).length≤(cW 1 [(1,ts)]).length+1:=eF _ _ _
    refine⟨_,rfl,d,rfl, .inl ⟨_, .inl hd2⟩,_,mh.k (k:=Sum.inr "H") hd2,_,rfl,_,_,rfl,rfl, .inl ⟨by decide,by decide⟩,_,_,hI.at _,rfl,_,rfl,d,_,rfl,vo.k (k:=Sum.inr "H") hd2 (by omega),?_⟩
    refine⟨_,rfl,d,rfl, .inl ⟨_, .inl ag⟩,_,mh.k (k:=Sum.inr "O") ag,_,rfl,_,_,(hI.add _ _).at _,rfl,_,rfl,d,_,rfl,vo.k (k:=Sum.inr "O") ag (Nat.lt_of_le_of_lt wW (by omega)),?_⟩
    refine hN _ _ ⟨[(1,ts),zE (1+wt/5%99)],some (.int (1+wt/5%99)),?_,KR D4 t1 t2,?_,fun b o z=>?_⟩
    ·have ex:(⟨(ts.flatMap (dR 1)).toArray⟩:Str)++"." ++dq (1+wt/5%99)++"H2O" =⟨(wL 1 [(1,ts),zE (1+wt/5%99)] 0).toArray⟩:=by
      rw[KQ,bY,Ku,Q0,show (⟨#[46]⟩:Str)=⟨[46].toArray⟩ from rfl,aO,aO,aO]
      simp
     rw[←ex]
     rfl
    ·rw[ag,Q3]
     rfl
    ·rw[aj (ai z hd),aj (ai z hd)]
     exact Wd _ _ z
   ·exact hN _ _ ⟨[(1,ts)],none,by rw[KP];rfl,Fe D4,hd2,Wd⟩
  rintro σ' H3 ⟨xs,v4,rfl,Q5,Hq,e3⟩
  have d0:0≤wt/500%9:=Int.emod_nonneg _ (by decide)
  have d1:wt/500%9<9:=Int.emod_lt_of_pos _ (by decide)
  obtain⟨v,hv,tW⟩:=jI (xs:=[V.int 0,V.int 0,V.int 1,V.int (-1),V.int 2,V.int (-2),V.int 7,V.int (-99),V.int 12]) d0 d1
  have hc:∃n,v=V.int n∧ -99≤n∧n≤99:=by
   simp only [List.mem_cons,List.not_mem_nil,or_false] at hv
   rcases hv with rfl|rfl|rfl|rfl|rfl|rfl|rfl|rfl|rfl<;>exact⟨_,rfl,by decide,by decide⟩
  obtain⟨n,rfl,n1,n2⟩:=hc
  refine⟨1,rfl,2,rfl,99,rfl,(by show 9≤sizeLine;decide),fun l hl=>⟨_,rfl,_,_,rfl,rfl,⟨by decide,by decide⟩,_,_,rfl,rfl,(by show (0 :Int) <9;decide),l,_,_,V.int n,rfl,rfl,cz.of ag,tW,?_⟩⟩
  have sl:=ay.new (o:= .lst [V.int 0,V.int 0,V.int 1,V.int (-1),V.int 2,V.int (-2),V.int 7,V.int (-99),V.int 12]) hl
  have e4:=e3.trans sl
  have Cs:=sl _ _ Hq
  have zb:=Q5.2.2.1
  dsimp only [dM]
  refine dP (fun σ' H'=>σ'=[some (.int c),some (.str ⟨(wL 1 xs n).toArray⟩),some (.ref d),some (.int wt),v4,some (.int n)]∧H' d=some (.dK (cW 1 xs))∧ay H H') (fun N hN=>?_) ?_
  ·refine⟨_,rfl,rfl,_,rfl,dY (fun e=>?_) fun e=>?_⟩
   ·have e:¬n=0:=by simpa using e
    have a1:1≤(if n<0 then -n else n):=by split<;>omega
    have a2:(if n<0 then -n else n)≤999:=by split<;>omega
    have z:=eI a1 a2
    have g1:("^" :Str).length=1:=by decide+kernel
    have g2:(if 0<n then ("+" :Str) else ("-" :Str)).length=1:=by split<;>decide+kernel
    refine⟨_,rfl,_,_,rfl,rfl,by rw[g1,aB];omega,_,rfl,n,rfl,_,rfl,a1,a2,_,_,rfl,rfl,by rw[aM,g1,aB];omega,(by show 2≤sizeLine;decide),fun y hy=>⟨_,rfl,_,_,rfl,rfl, .inr ⟨_,rfl,y,_,_,V.str _,rfl,rfl,cz.of ag,Hm n,_,_,rfl,rfl,?_,hN _ _ ⟨?_,?_,e4.trans (ay.new hy)⟩⟩⟩⟩
    ·rw[aM,aM,aB,g1,g2]
     omega
    ·have ex:(⟨(wL 1 xs 0).toArray⟩:Str)++"^" ++dq (if n<0 then -n else n)++(if 0<n then ("+" :Str) else ("-" :Str))=⟨(wL 1 xs n).toArray⟩:=by
      rw[KN Q5.1 n,←aO,D0 e,←pF,←pF]
     rw[←ex]
     rfl
    ·rw[aj (ai Cs hy)]
     exact Cs
   ·have e:n=0:=by simpa using e
    subst e
    exact hN _ _ ⟨rfl,Cs,e4⟩
  rintro σ' H5 ⟨rfl,We,e5⟩
  exact⟨_,rfl,_,rfl,_,rfl,(by show 3≤sizeLine;decide),fun t ht=>q t (xs,n) _ (KS Q5 n1 n2) ⟨d,ag,by rw[aj (ai We ht)];exact We⟩ (e5.trans (ay.new ht))⟩
abbrev Tm:=Int×Fm
def eR(H:Hp)(t:Addr)(x:Tm):Prop:=∃f,H t=some (.tup [.int x.1, .ref f])∧Bf H f x.2
def oU(B:Int)(x:Tm):Prop:=1≤x.1∧x.1≤B∧Hl x.2
theorem eR.same{H H':Hp}{t:Addr}{x:Tm}(h:eR H t x)(e:ay H H'):eR H' t x:=let ⟨f,h1,h2⟩:=h;⟨f,e _ _ h1,h2.same e⟩
theorem eR.but{D:Addr}{H H':Hp}{ys:List V}{t:Addr}{x:Tm}(hD:H D=some (.lst ys))(e:∀b o,H b=some o→b≠D→H' b=some o)(h:eR H t x):eR H' t x:=by
 obtain⟨f,h1,d,h2,h3⟩:=h
 exact⟨f,e _ _ h1 (mZ h1 hD (by intro z;cases z)),d,e _ _ h2 (mZ h2 hD (by intro z;cases z)),e _ _ h3 (mZ h3 hD (by intro z;cases z))⟩
def jd(H:Hp)(l:Addr)(xs:List Tm):Prop:=∃ts,H l=some (.lst (ts.map V.ref))∧Paired (eR H) ts xs
theorem jd.same{H H':Hp}{l:Addr}{xs:List Tm}(h:jd H l xs)(e:ay H H'):jd H' l xs:=let ⟨ts,h1,h2⟩:=h;⟨ts,e _ _ h1,bA (fun _ _ z=>z.same e) h2⟩
theorem lZ{α β:Type}{R:α→β→Prop}:∀{as:List α} {bs:List β} (k:Nat),Paired R as bs→Paired R (as.take k) (bs.take k)
 |_,_,0,_=> .nil
 |_,_,_+1, .nil=> .nil
 |_,_,k+1, .cons h t=> .cons h (lZ k t)
theorem l4{α β:Type}{R:α→β→Prop}:∀{as:List α} {bs:List β} (k:Nat),Paired R as bs→Paired R (as.drop k) (bs.drop k)
 |_,_,0,h=>h
 |_,_,_+1, .nil=> .nil
 |_,_,k+1, .cons _ t=>l4 k t
def xF(K:PySem.W.Frag):Sp:=fun vs H Q _=>∃(a:Addr) (ns:List Int) (at_:Nat),vs=[.ref a, .int at_]∧cz K H a (ns.map V.int)∧ns.length≤63∧at_≤10∧
 ∀t l r xs ys H',H' t=some (.tup [.ref l, .ref r])→jd H' l xs→jd H' r ys→(∀x∈xs,oU 999999999999 x)→(∀y∈ys,oU 999999999999 y)→1≤xs.length→1≤ys.length→xs.length+ys.length≤8→ay H H'→Q (.ref t) H'
theorem ie:ax ["_law_script","_law_at","_law_found","_law_many","_law_k","_law_cell","_law_count_here","_law_left"] ["_law_script","_law_at"] (ak sTerms):=dH
theorem Bh(D:Def K mg "_law_terms" "_law_terms" sTerms ["_law_script","_law_at"])(T:y3 K mg C)(c1:bx P w K mg base 1 "_law_cell_at" ["_law_script","_law_k"] (nN K))(c2:bx P w K mg base 4 "_law_formula" ["_law_cell"] oh):
  bx P w K mg base 5 "_law_terms" ["_law_script","_law_at"] (xF K):=by
 obtain⟨_,_,aQ⟩:=c1
 obtain⟨_,_,fX⟩:=c2
 refine D.fJ ie (fun vs H Q E h=>?_) (fun f bj A outer s H vs Q E hr h=>?_)
 ·obtain⟨a,ns,at_,rfl,_⟩:=h
  rfl
 ·obtain⟨a,ns,at_,rfl,hS,hlen,X6,q⟩:=h
  have hu:=pq hr
  have QX:=hr.qv
  have big:(2000 :Nat)≤sizeLine:=by decide
  refine⟨_,(af
     (aH (i:=2) ie.nd rfl (Or.inl rfl) (cm ao))
    (af
     (aH (i:=3) ie.nd rfl (Or.inl rfl) (au bo ah (au bp (aN aQ.ok (hr.mono (by decide)) rfl aQ.g aQ.kp aQ.b .nil aP (aa (pv 0) (aa (pv 1) ao))) ah)))
    (af
     (gS PassesOwn.never rfl (dC rfl T.fT (aa (pv 3) ao)) (bq (i:=4) ie.nd rfl (Or.inl rfl))
      (af
       (aH (i:=5) ie.nd rfl (Or.inl rfl) (aN aQ.ok (hr.mono (by decide)) rfl aQ.g aQ.kp aQ.b .nil aP (aa (pv 0) (aa (au bo (au bo (pv 1) ah) (au fZ ah (pv 4))) ao))))
      (af
       (aH (i:=6) ie.nd rfl (Or.inl rfl) (b8 dN (cm (aa ah (aa ah (aa (au bo ah (au bp (au bW (pv 5) ah) ah)) (aa (au bo ah (au bp (au bW (pv 5) ah) (au kX (au qt ah ah) ah))) ao))))) (au bp (pv 5) ah) (fun _ _=>rfl)))
      (aq
       (bE (fw PySem.F.plainAttrs_list PySem.F.slot_list_append PySem.F.type_list_append dE (pv 2) (aa (bM (aa (pv 6) (aa (aN fX.ok (hr.mono (by decide)) rfl fX.g fX.kp fX.b .nil aP (aa (aN aQ.ok (hr.mono (by decide)) rfl aQ.g aQ.kp aQ.b .nil aP (aa (pv 0) (aa (au bo (au bo (pv 1) ah) (au fZ ah (pv 4))) ao))) ao)) ao))) ao)))))))
    (af
     (aH (i:=7) ie.nd rfl (Or.inl rfl) (au bo ah (au bp (aN aQ.ok (hr.mono (by decide)) rfl aQ.g aQ.kp aQ.b .nil aP (aa (pv 0) (aa (au bo (pv 1) ah) ao))) (au kX (pv 3) ah))))
    (aq
     (az (bM (aa (bK qD (pv 2) dv (bF (pv 7))) (aa (bK qD (pv 2) (bF (pv 7)) dv) ao))))))))),?_⟩
  refine⟨(by show 0≤sizeLine;decide),fun D1 D5=>?_⟩
  have sD:=ay.new (o:= .lst []) D5
  refine⟨_,rfl,_,rfl,a,ns,at_,rfl,sD.seq hS,hlen,fun n0=>⟨_,_,rfl,rfl,(by show (0 :Int) <7;decide),_,_,rfl,rfl,?_⟩⟩
  have m0:0≤n0%7:=Int.emod_nonneg _ (by decide)
  have m1:n0%7<7:=Int.emod_lt_of_pos _ (by decide)
  dsimp only [dM]
  generalize n0%7=mm at m0 m1 ⊢
  refine⟨_,rfl,_,rfl,by omega,by omega,dX (fun i σ H'=>∃(ts:List Addr) (xs:List Tm) (v4 v5 v6:Option V),σ=[some (.ref a),some (.int at_),some (.ref D1),some (.int (2+mm)),v4,v5,v6,none]∧H' D1=some (.lst (ts.map V.ref))∧Paired (eR H') ts xs∧(∀x∈xs,oU 999999999999 x)∧xs.length=i∧ay H H') ?_ ?_ ?_⟩
  ·exact⟨[],[],none,none,none,rfl,ag, .nil,(fun x hx=>by cases hx),rfl,sD⟩
  ·rintro i σ H' hi ⟨ts,xs,v4,v5,v6,rfl,kH,hP,bb,hl,e⟩
   have ek:(at_:Int)+2+2*(0+(i:Int))=((at_+2+2*i:Nat):Int):=by omega
   have X7:(at_:Int)+3+2*(0+(i:Int))=((at_+3+2*i:Nat):Int):=by omega
   have k7:=Paired.length hP
   refine⟨_,rfl,_,rfl,_,_,rfl,rfl,_,rfl,_,_,rfl,rfl, .inl ⟨by decide,by decide⟩,_,_,rfl,rfl,a,ns,at_+2+2*i,by rw[←ek];rfl,e.seq hS,hlen,fun n1=>?_⟩
   have d0:0≤n1%4:=Int.emod_nonneg _ (by decide)
   have d1:n1%4<4:=Int.emod_lt_of_pos _ (by decide)
   have f0:0≤n1/4%20:=Int.emod_nonneg _ (by decide)
   have f1:n1/4%20<20:=Int.emod_lt_of_pos _ (by decide)
   have g0:0≤n1/4%((10 :Int) ^(12 :Int).toNat - 1):=Int.emod_nonneg _ (by decide)
   have g1:n1/4%((10 :Int) ^(12 :Int).toNat - 1) <999999999999:=Int.emod_lt_of_pos _ (by decide)
   obtain⟨v,hv,tW⟩:=jI (xs:=[V.int 1,V.int 1,V.int (2+n1/4%20),V.int (1+n1/4%((10 :Int) ^(12 :Int).toNat - 1))]) d0 d1
   have hc:∃c,v=V.int c∧1≤c∧c≤999999999999:=by
    simp only [List.mem_cons,List.not_mem_nil,or_false] at hv
    rcases hv with rfl|rfl|rfl|rfl
    ·exact⟨1,rfl,by decide,by decide⟩
    ·exact⟨1,rfl,by decide,by decide⟩
    ·exact⟨_,rfl,by omega,by omega⟩
    ·exact⟨_,rfl,by omega,by omega⟩
   obtain⟨c,rfl,c0,c1⟩:=hc
   refine⟨_,rfl,_,_,rfl,rfl,⟨by decide,by decide⟩,_,_,rfl,rfl,(by show (0 :Int) <20;decide),_,_,rfl,rfl,_,rfl,_,_,rfl,rfl,⟨by decide,by decide⟩,_,_,rfl,rfl,⟨by decide,by decide,by decide⟩,_,_,rfl,rfl,_,_,rfl,rfl,(by show (0 :Int) <10^(12 :Int).toNat - 1;decide),_,_,rfl,rfl,(by show 4≤sizeLine;decide),fun l1 h1=>?_⟩
   refine⟨_,rfl,_,_,rfl,rfl,(by show (0 :Int) <4;decide),l1,_,_,V.int c,rfl,rfl,cz.of ag,tW,?_⟩
   have s1:=ay.new (o:= .lst [V.int 1,V.int 1,V.int (2+n1/4%20),V.int (1+n1/4%((10 :Int) ^(12 :Int).toNat - 1))]) h1
   generalize upd H' l1 _=H1 at s1 ⊢
   have e1:=e.trans s1
   refine⟨_,rfl, .inl ⟨rfl,_,cz.of (s1 _ _ kH)⟩,_,rfl,_,rfl,_,rfl,_,_,rfl,rfl,_,rfl,_,_,rfl,rfl, .inl ⟨by decide,by decide⟩,_,_,rfl,rfl,a,ns,at_+3+2*i,by rw[←X7];rfl,e1.seq hS,hlen,fun n2=>⟨n2,rfl,fun fm x H2 zF hx e2=>⟨(by show 2≤sizeLine;decide),fun t ht=>?_⟩⟩⟩
   have s2:=s1.trans e2
   have OP:=s2 _ _ kH
   have st:=ay.new (o:= .tup [.int c, .ref fm]) ht
   have s3:=s2.trans st
   have Q6:=s3 _ _ kH
   have kb:∀b o,(upd H2 t (.tup [.int c, .ref fm])) b=some o→b≠D1→(upd (upd H2 t (.tup [.int c, .ref fm])) D1 (.lst (ts.map V.ref++[V.ref t]))) b=some o:=fun b o z w=>by rw[aj w];exact z
   refine⟨D1,_,_,rfl,rfl,Q6,by rw[List.length_map];omega,ts++[t],xs++[(c,x)],_,_,_,rfl,?_,?_,?_,?_,?_⟩
   ·rw[ag,List.map_append]
    rfl
   ·refine eK (eR.but Q6 kb ⟨fm,ag,hx.same st⟩) (bA (fun _ _ z=>eR.but Q6 kb (z.same s3)) hP)
   ·intro y hy
    rcases List.mem_append.mp hy with hy|hy
    ·exact bb y hy
    ·have ey:y=(c,x):=by simpa using hy
     subst ey
     exact⟨c0,c1,zF⟩
   ·rw[List.length_append,hl]
    rfl
   ·intro b o z
    rw[aj (ai z D5)]
    exact s3 _ _ (e _ _ z)
  ·rintro σ H' ⟨ts,xs,v4,v5,v6,rfl,kH,hP,bb,hl,e⟩
   have ek:(at_:Int)+1=((at_+1 :Nat):Int):=by omega
   have k7:=Paired.length hP
   refine⟨_,rfl,_,rfl,_,_,rfl,rfl,a,ns,at_+1,by rw[←ek];rfl,e.seq hS,hlen,fun n1=>⟨_,rfl,_,_,rfl,rfl,_,_,rfl,rfl,(by show 0<2+mm - 1;omega),_,_,rfl,rfl,?_⟩⟩
   have k0:0≤n1%(2+mm - 1):=Int.emod_nonneg _ (by omega)
   have k1:n1%(2+mm - 1) <2+mm - 1:=Int.emod_lt_of_pos _ (by omega)
   obtain⟨k,hk⟩:∃k:Nat,1+n1%(2+mm - 1)=(k:Int):=⟨(1+n1%(2+mm - 1)).toNat,by omega⟩
   dsimp only [dM]
   rw[hk]
   refine⟨_,rfl,_,rfl,_,rfl,D1,_,rfl,cz.of kH,fun l sU=>⟨_,rfl,_,rfl,_,rfl,D1,_,rfl,cz.of (ay.new sU _ _ kH),fun r Q7=>⟨(by show 2≤sizeLine;decide),fun t ht=>?_⟩⟩⟩
   have s1:=ay.new (o:= .lst (k9 (ts.map V.ref) none (some (k:Int)))) sU
   have s2:=s1.trans (ay.new (o:= .lst (k9 (ts.map V.ref) (some (k:Int)) none)) Q7)
   have s3:=s2.trans (ay.new (o:= .tup [.ref l, .ref r]) ht)
   have lr:l≠r:=fun z=>by rw[←z,ag] at Q7;cases Q7
   have lt:l≠t:=fun z=>by rw[←z,aj lr,ag] at ht;cases ht
   have rt:r≠t:=fun z=>by rw[←z,ag] at ht;cases ht
   refine q t l r (xs.take k) (xs.drop k) _ ag ⟨ts.take k,?_,lZ k (bA (fun _ _ z=>z.same s3) hP)⟩ ⟨ts.drop k,?_,l4 k (bA (fun _ _ z=>z.same s3) hP)⟩ (fun x hx=>bb x (List.mem_of_mem_take hx)) (fun x hx=>bb x (List.mem_of_mem_drop hx)) ?_ ?_ ?_ (e.trans s3)
   ·rw[aj lt,aj lr,ag,GG,List.map_take]
   ·rw[aj rt,ag,GH,List.map_drop]
   ·rw[List.length_take]
    omega
   ·rw[List.length_drop]
    omega
   ·rw[List.length_take,List.length_drop]
    omega
variable {uC uP uI uD uL uT:Tok}
theorem mR{n:Int}(h0:0≤n)(h:n<10^50):(toString n:Str).length≤50:=by
 rw[PySem.ofString_length]
 obtain⟨m,rfl⟩:=Int.eq_ofNat_of_zero_le h0
 show (Nat.repr m).length≤50
 rw[Nat.length_repr_le_iff (by decide)]
 omega
theorem xG{n:Int}(h0:0≤n)(h:n<10^50):n.natAbs.log2<1920:=by
 by_cases e:n.natAbs=0
 ·rw[e];decide
 ·have:=(Nat.log2_lt e (k:=170)).mpr (by omega)
  omega
def sj(x:Tm):Str:=if x.1=1 then ⟨(fL x.2).toArray⟩ else (toString x.1 :Str)++" " ++⟨(fL x.2).toArray⟩
def Q8(xs:List Tm):Str:=Txt.join " + " (xs.map sj)
theorem D6{B:Int}(hB:B≤10^40){x:Tm}(h:oU B x):(sj x).length≤100:=by
 obtain⟨h1,h2,_,h3,_⟩:=h
 unfold sj
 split
 ·rw[aB]
  omega
 ·have:=mR (n:=x.1) (by omega) (by omega)
  have l1:(" " :Str).length=1:=by decide+kernel
  rw[aM,aM,aB,l1]
  exact Nat.le_trans (Nat.add_le_add (Nat.add_le_add_right this 1) h3) (by decide)
theorem ua{H:Hp}:∀{ts:List Addr} {xs:List Tm} {i:Nat} {x:V},Paired (eR H) ts xs→(ts.map V.ref)[i]? =some x→∃t y,x= .ref t∧xs[i]? =some y∧eR H t y
 |_,_,_,_, .nil,h=>by simp at h
 |_,_,0,_, .cons h _,e=>⟨_,_,(Option.some.inj e).symm,rfl,h⟩
 |_,_,i+1,_, .cons _ t,e=>ua (i:=i) t e
def Bi:Sp:=fun vs H Q _=>∃(l:Addr) (xs:List Tm),vs=[.ref l]∧jd H l xs∧(∀x∈xs,oU (10^40) x)∧xs.length≤10∧∀H',ay H H'→Q (.str (Q8 xs)) H'
theorem rK:ax ["_law_terms_here","_law_texts","_law_count_here","_law_formula_here"] ["_law_terms_here"] (ak xo):=dH
theorem D7(D:Def K mg "_law_side" "_law_side" xo ["_law_terms_here"])(T:y3 K mg C):bx P w K mg base 1 "_law_side" ["_law_terms_here"] Bi:=by
 refine D.fJ rK (fun vs H Q E h=>?_) (fun f bj A outer s H vs Q E hr h=>?_)
 ·obtain⟨l,xs,rfl,_⟩:=h
  rfl
 ·obtain⟨l,xs,rfl,⟨ts,hl,hP⟩,bb,OS,q⟩:=h
  have big:(2000 :Nat)≤sizeLine:=by decide
  have k7:=Paired.length hP
  refine⟨_,(af
     (aH (i:=1) rK.nd rfl (Or.inl rfl) (cm ao))
    (af
     (gS PassesOwn.never rfl (jY (pv 0)) (kW rfl (bX (bq (i:=2) rK.nd rfl (Or.inl rfl)) (bX (bq (i:=3) rK.nd rfl (Or.inl rfl)) iT)))
      (aq
       (bc (aA bh (pv 2) ah (aE _))
        (aq
         (bE (fw PySem.F.plainAttrs_list PySem.F.slot_list_append PySem.F.type_list_append dE (pv 1) (aa (b8 f9 (pv 3) ah (fun _ _=>rfl)) ao))))
        (aq
         (bE (fw PySem.F.plainAttrs_list PySem.F.slot_list_append PySem.F.type_list_append dE (pv 1) (aa (au aG (au aG (bN eV rfl T.tE nA (aa (pv 2) ao)) aw) (b8 f9 (pv 3) ah (fun _ _=>rfl))) ao)))))))
    (aq
     (az (fw PySem.F.plainAttrs_str PySem.F.slot_str_join PySem.F.type_str_join j8 aw (aa (pv 1) ao)))))),?_⟩
  refine⟨(by show 0≤sizeLine;decide),fun D1 D5=>?_⟩
  have sD:=ay.new (o:= .lst []) D5
  refine⟨_,rfl,l,rfl,⟨_,cz.of (sD _ _ hl)⟩,zW (K:=K) (a:=l) (xs:=ts.map V.ref) (fun i σ H'=>∃v2 v3:Option V,σ=[some (.ref l),some (.ref D1),v2,v3]∧H' D1=some (.lst ((xs.take i).map fun x=>V.str (sj x)))∧ay H H') ?_ (fun i σ H' _ ⟨_,_,_,_,e⟩=>cz.of (e _ _ hl)) ?_ ?_⟩
  ·exact⟨none,none,rfl,ag,sD⟩
  ·rintro i x σ H' hi ⟨v2,v3,rfl,kH,e⟩
   obtain⟨t,y,rfl,hy,fm,ht,d,hf,hd⟩:=ua (H:=H) hP hi
   have zF:=bb y (List.mem_of_getElem? hy)
   have ez:=zF.2.2.2.1
   have P7:i<xs.length:=(List.getElem?_eq_some_iff.mp hy).1
   have Wf:((xs.take i).map fun x=>V.str (sj x)).length<sizeLine:=by rw[List.length_map,List.length_take];omega
   refine⟨t,_,rfl,jD.of (e _ _ ht),rfl,_,_,rfl,_,_,rfl,rfl,?_⟩
   refine⟨_,rfl,rfl,_,rfl,dY (fun e1=>?_) fun e1=>?_⟩
   ·have e1:y.1=1:=by simpa using e1
    refine⟨_,rfl, .inl ⟨rfl,_,cz.of kH⟩,_,rfl,fm,_,_,V.str ⟨(fL y.2).toArray⟩,rfl,rfl,jD.of (e _ _ hf),rfl,D1,_,_,rfl,rfl,kH,Wf,_,_,rfl,?_,fun b o z=>by rw[aj (ai z D5)];exact e _ _ z⟩
    rw[ag,take_snoc hy,List.map_append]
    have et:sj y=⟨(fL y.2).toArray⟩:=if_pos e1
    rw[←et]
    rfl
   ·have e1:¬y.1=1:=by simpa using e1
    have l1:(" " :Str).length=1:=by decide+kernel
    have zi:=mR (n:=y.1) (by have:=zF.1;omega) (by have:=zF.2.1;omega)
    refine⟨_,rfl, .inl ⟨rfl,_,cz.of kH⟩,_,rfl,y.1,rfl,xG (by have:=zF.1;omega) (by have:=zF.2.1;omega),_,_,rfl,rfl,?_,_,rfl,fm,_,_,V.str ⟨(fL y.2).toArray⟩,rfl,rfl,jD.of (e _ _ hf),rfl,_,_,rfl,rfl,?_,D1,_,_,rfl,rfl,kH,Wf,_,_,rfl,?_,fun b o z=>by rw[aj (ai z D5)];exact e _ _ z⟩
    ·rw[l1]
     exact Nat.le_trans (Nat.add_le_add_right zi 1) (by decide)
    ·rw[aM,l1,aB]
     exact Nat.le_trans (Nat.add_le_add (Nat.add_le_add_right zi 1) ez) (by decide)
    ·rw[ag,take_snoc hy,List.map_append]
     have et:sj y=(toString y.1 :Str)++" " ++⟨(fL y.2).toArray⟩:=if_neg e1
     rw[←et]
     rfl
  ·rintro σ H' ⟨v2,v3,rfl,kH,e⟩
   rw[List.length_map,k7,List.take_length] at kH
   refine⟨rfl,_,rfl," + ",D1,xs.map sj,rfl,rfl,cz.of (by rw[kH,List.map_map];rfl),?_,q _ e⟩
   have l3:(" + " :Str).length=3:=by decide+kernel
   have z:=mP (ys:=xs.map sj) (b:=100) fun y hy=>by
    obtain⟨x,hx,rfl⟩:=List.mem_map.mp hy
    exact D6 (Int.le_refl _) (bb x hx)
   rw[List.length_map] at z ⊢
   rw[l3]
   omega
variable {uC uP uI uD uL uT l5 l6 l7:Tok}{Ch:Addr}
structure Bj(K:PySem.W.Frag)(mg:Str→Option Value)(C R G Pc Fo Ch:Addr)(uK uN uB uE uM uC uP uI uD uL uT l5 l6 l7:Tok):Prop extends oM K mg C R G Pc Fo uK uN uB uE uM uC uP uI uD uL uT,y3 K mg C where
 cC:r8 K Ch
 kK:cD K Ch "lefts"
 je:cD K Ch "rights"
 Bk:mg "Change" =some (.ref Ch)
 xH:mg "BLANK" =some (.str " " l5)
 rL:mg "JOINT" =some (.str " + " l6)
 rM:mg "ARROW" =some (.str " -> " l7)
def Ff(x:Fm):List Nat:=wL 4 x.1 x.2
def oV(x:Tm):Prop:=1≤x.1∧x.1≤10^40∧Cp 4 x.2.1 x.2.2∧(wL 4 x.2.1 x.2.2).length≤400
def mS(x:Tm):Str:=if x.1=1 then ⟨(Ff x.2).toArray⟩ else (toString x.1 :Str)++" " ++⟨(Ff x.2).toArray⟩
def Hr(xs:List Tm):Str:=Txt.join " + " (xs.map mS)
theorem xI{x:Tm}(h:oV x):(mS x).length≤500:=by
 obtain⟨h1,h2,_,h3⟩:=h
 unfold mS
 split
 ·rw[aB]
  exact Nat.le_trans h3 (by decide)
 ·have:=mR (n:=x.1) (by omega) (by omega)
  have l1:(" " :Str).length=1:=by decide+kernel
  rw[aM,aM,aB,l1]
  exact Nat.le_trans (Nat.add_le_add (Nat.add_le_add_right this 1) h3) (by decide)
def l8(C G Pc Fo:Addr):Sp:=fun vs H Q _=>∃(f:Addr) (x:Tm),vs=[.int x.1, .ref f]∧nS C G Pc Fo 4 H f x.2.1 x.2.2∧oV x∧∀H',ay H H'→Q (.str (mS x)) H'
theorem ub:ax ["count","formula"] ["count","formula"] (ak gY):=dH
theorem rN(D:Def K mg "term_shown" "term_shown" gY ["count","formula"])(T:Bj K mg C R G Pc Fo Ch uK uN uB uE uM uC uP uI uD uL uT l5 l6 l7)(c1:c9 P w K mg base 13 Fo "shown" ["self"] (pW C G Pc Fo 4)):bx P w K mg base 14 "term_shown" ["count","formula"] (l8 C G Pc Fo):=by
 obtain⟨_,_,cf⟩:=c1
 refine D.fJ ub (fun vs H Q E h=>?_) (fun f bj A outer s H vs Q E hr h=>?_)
 ·obtain⟨f,x,rfl,_⟩:=h
  rfl
 ·obtain⟨f',x,rfl,hF,⟨h1,h2,OT,hz⟩,q⟩:=h
  obtain⟨dx,l,ps,hf,_⟩:=id hF
  have zl:(wL 4 x.2.1 x.2.2).length≤1000:=Nat.le_trans hz (by decide)
  refine⟨_,(af
     (bc (aA bh (pv 0) ah (aE _))
      (aq
       (az (bI (pv 1) T.bP cf.m cf.ok (hr.mono (by decide)) cf.b .nil aP)))
      aK)
    (aq
     (az (au aG (au aG (bN eV rfl T.tE nA (aa (pv 0) ao)) (a8 (v:= .str " ") rfl T.xH ⟨_,rfl⟩)) (bI (pv 1) T.bP cf.m cf.ok (hr.mono (by decide)) cf.b .nil aP))))),?_⟩
  refine⟨_,rfl,rfl,_,rfl,dY (fun e=>?_) fun e=>?_⟩
  ·have e:x.1=1:=by simpa using e
   have et:mS x=⟨(Ff x.2).toArray⟩:=if_pos e
   rw[et] at q
   exact⟨_,rfl,f',dx,_,rfl,hf,tI _ _ (by decide+kernel) (by decide+kernel),f',_,_,rfl,hF,OT,zl,q⟩
  ·have e:¬x.1=1:=by simpa using e
   have et:mS x=(toString x.1 :Str)++" " ++⟨(Ff x.2).toArray⟩:=if_neg e
   rw[et] at q
   have l1:(" " :Str).length=1:=by decide+kernel
   have zi:=mR (n:=x.1) (by omega) (by omega)
   refine⟨_,rfl,x.1,rfl,xG (by omega) (by omega),_,_,rfl,rfl,?_,_,rfl,f',dx,_,rfl,hf,tI _ _ (by decide+kernel) (by decide+kernel),f',_,_,rfl,hF,OT,zl,fun H' e'=>⟨_,_,rfl,rfl,?_,q _ e'⟩⟩
   ·rw[l1]
    exact Nat.le_trans (Nat.add_le_add_right zi 1) (by decide)
   ·rw[aM,l1,aB]
    exact Nat.le_trans (Nat.add_le_add (Nat.add_le_add_right zi 1) hz) (by decide)
def ig(C G Pc Fo:Addr)(H:Hp)(t:Addr)(x:Tm):Prop:=∃f,H t=some (.tup [.int x.1, .ref f])∧nS C G Pc Fo 4 H f x.2.1 x.2.2
def gK(C G Pc Fo:Addr)(H:Hp)(l:Addr)(xs:List Tm):Prop:=∃ts,H l=some (.lst (ts.map V.ref))∧Paired (ig C G Pc Fo H) ts xs
theorem ig.same{C G Pc Fo:Addr}{H H':Hp}{t:Addr}{x:Tm}(h:ig C G Pc Fo H t x)(e:ay H H'):ig C G Pc Fo H' t x:=let ⟨f,h1,h2⟩:=h;⟨f,e _ _ h1,h2.same e⟩
theorem gK.same{C G Pc Fo:Addr}{H H':Hp}{l:Addr}{xs:List Tm}(h:gK C G Pc Fo H l xs)(e:ay H H'):gK C G Pc Fo H' l xs:=let ⟨ts,h1,h2⟩:=h;⟨ts,e _ _ h1,bA (fun _ _ z=>z.same e) h2⟩
def l9(C G Pc Fo:Addr):Sp:=fun vs H Q _=>∃(l:Addr) (xs:List Tm),vs=[.ref l]∧gK C G Pc Fo H l xs∧(∀x∈xs,oV x)∧xs.length≤10∧∀H',ay H H'→Q (.str (Hr xs)) H'
theorem uc:ax ["terms"] ["terms"] (ak fA):=dH
theorem D8{xs:List Tm}(bb:∀x∈xs,oV x)(OS:xs.length≤10):((xs.map mS).map (·.length)).sum+(xs.map mS).length*(" + " :Str).length≤16777216:=by
 have l3:(" + " :Str).length=3:=by decide+kernel
 have z:=mP (ys:=xs.map mS) (b:=500) fun y hy=>by
  obtain⟨x,hx,rfl⟩:=List.mem_map.mp hy
  exact xI (bb x hx)
 rw[List.length_map] at z ⊢
 rw[l3]
 omega
theorem rO(D:Def K mg "side_shown" "side_shown" fA ["terms"])(T:Bj K mg C R G Pc Fo Ch uK uN uB uE uM uC uP uI uD uL uT l5 l6 l7)(c1:bx P w K mg base 14 "term_shown" ["count","formula"] (l8 C G Pc Fo)):bx P w K mg base 15 "side_shown" ["terms"] (l9 C G Pc Fo):=by
 obtain⟨_,_,fe⟩:=c1
 refine D.fJ uc (fun vs H Q E h=>?_) (fun f bj A outer s H vs Q E hr h=>?_)
 ·obtain⟨l,xs,rfl,_⟩:=h
  rfl
 ·obtain⟨l,xs,rfl,⟨ts,hl,hP⟩,bb,OS,q⟩:=h
  have big:(2000 :Nat) <sizeLine:=by decide
  have k7:=Paired.length hP
  refine⟨_,(aq
     (az (fw PySem.F.plainAttrs_str PySem.F.slot_str_join PySem.F.type_str_join j8 (a8 (v:= .str " + ") rfl T.rL ⟨_,rfl⟩) (aa (j4 (sc:=(ak fA)) (NX:=["terms"]) (N:=["count","formula"]) (fr:=[none,none]) ⟨by rfl,by rfl,by decide+kernel,by decide+kernel,by decide+kernel,by rfl,by decide+kernel⟩ rfl rfl rfl (jY (pv 0)) (fun _ _ _ _=>(Dg K 2 rfl rfl (bX (bq (i:=0) (show (["count","formula"]:List Str).Nodup by decide+kernel) rfl (Or.inl rfl) (Or.inr rfl)) (bX (bq (i:=1) (show (["count","formula"]:List Str).Nodup by decide+kernel) rfl (Or.inl rfl) (Or.inr rfl)) iT)))) (fun _ _ _ _=>j3) (fun _ _ _ _=>(aN fe.ok (hr.mono (by decide)) rfl fe.g fe.kp fe.b .nil aP (aa (pv 0) (aa (pv 1) ao))))) ao)))),?_⟩
  refine⟨rfl,_,rfl,l,rfl,⟨_,cz.of hl⟩,fun D1 D5=>lu (K:=K) (a:=l) (D:=D1) (xs:=ts.map V.ref) (fun i σ H'=>∃v u:Option V,σ=[v,u]∧ay H H'∧H' D1=some (.lst ((xs.take i).map fun x=>V.str (mS x))))
   ?_ (fun i σ H' _ ⟨_,_,_,e,_⟩=>cz.of (e _ _ hl)) ?_ ?_⟩
  ·exact⟨none,none,rfl,ay.new D5,ag⟩
  ·rintro i v σ H' hi ⟨v',u',rfl,e,kH⟩ N hN
   rw[List.getElem?_map] at hi
   obtain⟨t,ht,rfl⟩:∃p,ts[i]? =some p∧v=V.ref p:=by
    cases hh:ts[i]? with
    |none=>rw[hh] at hi;cases hi
    |some p=>rw[hh] at hi;exact⟨p,rfl,(Option.some.inj hi).symm⟩
   obtain⟨y,hy,fo,h1,h2⟩:=ib hP ht
   have P7:i<xs.length:=(List.getElem?_eq_some_iff.mp hy).1
   refine⟨t,_,rfl,jD.of (e _ _ h1),rfl,_,_,rfl,_,_,rfl,rfl,?_⟩
   refine⟨_,rfl,_,rfl,fo,y,rfl,h2.same e,bb y (List.mem_of_getElem? hy),fun cx e'=>?_⟩
   refine⟨_,e' _ _ kH,?_,hN _ _ ⟨_,_,rfl,fun b o z=>?_,?_⟩⟩
   ·rw[List.length_map,List.length_take]
    omega
   ·rw[aj (ai z D5)]
    exact e' _ _ (e _ _ z)
   ·rw[ag,take_snoc hy,List.map_append]
    rfl
  ·rintro σ H' ⟨v',u',rfl,e,kH⟩
   rw[List.length_map,k7,List.take_length] at kH
   exact⟨_,D1,xs.map mS,rfl,rfl,cz.of (by rw[kH,List.map_map];rfl),D8 bb OS,q _ e⟩
theorem OG:¬(("lefts" :Str)="rights"):=by decide+kernel
def ma(l r:Addr):List (Str×V):=df "rights" (.ref r) (df "lefts" (.ref l) [])
theorem iP(l r:Addr):(ma l r).lookup ("lefts" :Str)=some (.ref l):=by
 unfold ma
 rw[aL,if_neg OG,aL,if_pos rfl]
theorem ij(l r:Addr):(ma l r).lookup ("rights" :Str)=some (.ref r):=by
 unfold ma
 rw[aL,if_pos rfl]
theorem Bl(l r:Addr){m:Str}(h1:¬m="rights")(h2:¬m="lefts"):(ma l r).lookup m=none:=by
 unfold ma
 rw[aL,if_neg h1,aL,if_neg h2]
 all_goals rfl
def xJ(Ch:Addr):Sp:=fun vs H Q _=>∃(p dx l r:Addr) (xs ys:List V),vs=[.ref p, .ref l, .ref r]∧H p=some (.ins Ch dx [])∧H l=some (.lst xs)∧H r=some (.lst ys)∧
 ∀n m H',H n=none→H m=none→n≠m→H' p=some (.ins Ch dx (ma n m))→H' n=some (.lst xs)→H' m=some (.lst ys)→(∀b o,H b=some o→b≠p→H' b=some o)→Q .cn H'
theorem D9:ax ["self","lefts","rights"] ["self","lefts","rights"] (ak qY):=dH
theorem Bm(D:jH K Ch "Change.__init__" qY ["self","lefts","rights"] [])(T:Bj K mg C R G Pc Fo Ch uK uN uB uE uM uC uP uI uD uL uT l5 l6 l7):fz P w K mg base 1 Ch ["self","lefts","rights"] [] (xJ Ch):=by
 refine D.fJ D9 (fun vs H Q E h=>?_) (fun f bj A outer s H vs Q E hr h=>?_)
 ·obtain⟨p,dx,l,r,xs,ys,rfl,_⟩:=h
  rfl
 ·obtain⟨p,dx,l,r,xs,ys,rfl,hp,hl,KW,q⟩:=h
  refine⟨_,(af
     (eQ (pv 0) (bN dO rfl T.n_list j6 (aa (pv 1) ao)) rfl)
    (aq
     (eQ (pv 0) (bN dO rfl T.n_list j6 (aa (pv 2) ao)) rfl))),?_⟩
  refine⟨_,rfl,l,xs,rfl, .inl (cz.of hl),fun n hn=>?_⟩
  have u4:p≠n:=ai hp hn
  have X8:r≠p:=mZ KW hp (by intro z;cases z)
  refine⟨_,rfl,p,Ch,dx,[],rfl,(by rw[aj u4];exact hp),T.cC,T.kK,(by show 0<1000;decide),?_⟩
  refine⟨_,rfl,r,ys,rfl, .inl (cz.of (by rw[aj X8,aj (ai KW hn)];exact KW)),fun m hm=>?_⟩
  have Q9:p≠m:=ai ag hm
  have Ra:n≠m:=fun z=>by rw[←z,aj (Ne.symm u4),ag] at hm;cases hm
  have Rb:H m=none:=by rwa [aj (Ne.symm Q9),aj (Ne.symm Ra)] at hm
  refine⟨_,rfl,p,Ch,dx,_,rfl,(by rw[aj Q9];exact ag),T.cC,T.je,(by show 1<1000;decide),?_⟩
  refine q n m _ hn Rb Ra ag ?_ ?_ fun b o e hb=>?_
  ·rw[aj (Ne.symm u4),aj Ra,aj (Ne.symm u4),ag]
  ·rw[aj (Ne.symm Q9),ag]
  ·rw[aj hb,aj (ai e Rb),aj hb,aj (ai e hn)]
   exact e
def gL(C G Pc Fo Ch:Addr)(H:Hp)(c:Addr)(xs ys:List Tm):Prop:=∃dx l r,H c=some (.ins Ch dx (ma l r))∧gK C G Pc Fo H l xs∧gK C G Pc Fo H r ys
theorem gL.same{C G Pc Fo Ch:Addr}{H H':Hp}{c:Addr}{xs ys:List Tm}(h:gL C G Pc Fo Ch H c xs ys)(e:ay H H'):gL C G Pc Fo Ch H' c xs ys:=let ⟨dx,l,r,h1,h2,h3⟩:=h;⟨dx,l,r,e _ _ h1,h2.same e,h3.same e⟩
def Wg(xs ys:List Tm):Prop:=(∀x∈xs,oV x)∧(∀y∈ys,oV y)∧xs.length≤10∧ys.length≤10
def KY(xs ys:List Tm):Str:=Hr xs++" -> " ++Hr ys
def ud(C G Pc Fo Ch:Addr):Sp:=fun vs H Q _=>∃(c:Addr) (xs ys:List Tm),vs=[.ref c]∧gL C G Pc Fo Ch H c xs ys∧Wg xs ys∧∀H',ay H H'→Q (.str (KY xs ys)) H'
theorem pY{xs:List Tm}(bb:∀x∈xs,oV x)(OS:xs.length≤10):(Hr xs).length≤6000:=by
 unfold Hr
 have e:=PyProof.Rows.join_closes (sep:=" + ") (sep':=" + ") (ys:=xs.map mS) rfl
 rw[show Txt.join " + " (xs.map mS)=Str.join " + " (xs.map mS) by simpa using e]
 have l3:(" + " :Str).length=3:=by decide+kernel
 have key:∀ys:List Str,(∀y∈ys,y.length≤500)→(Str.join " + " ys).length≤503*ys.length:=by
  intro ys
  induction ys with
  |nil=>intro _;exact Nat.zero_le _
  |cons y r ih=>
   intro h
   have h1:=h y (List.mem_cons_self ..)
   have h2:=ih fun z hz=>h z (List.mem_cons_of_mem _ hz)
   cases r with
   |nil=>
    show y.length≤503*1
    omega
   |cons z r'=>
    show (y++" + " ++Str.join " + " (z::r')).length≤_
    rw[aM,aM,l3,List.length_cons]
    omega
 have:=key (xs.map mS) fun y hy=>by
  obtain⟨x,hx,rfl⟩:=List.mem_map.mp hy
  exact xI (bb x hx)
 rw[List.length_map] at this
 omega
theorem Bn:ax ["self"] ["self"] (ak mH):=dH
theorem y8(D:bU K Ch "shown" "Change.shown" mH ["self"])(T:Bj K mg C R G Pc Fo Ch uK uN uB uE uM uC uP uI uD uL uT l5 l6 l7)(c1:bx P w K mg base 15 "side_shown" ["terms"] (l9 C G Pc Fo)):c9 P w K mg base 16 Ch "shown" ["self"] (ud C G Pc Fo Ch):=by
 obtain⟨_,_,ck⟩:=c1
 refine D.fJ Bn (fun vs H Q E h=>?_) (fun f bj A outer s H vs Q E hr h=>?_)
 ·obtain⟨c,xs,ys,rfl,_⟩:=h
  rfl
 ·obtain⟨c,xs,ys,rfl,⟨dx,l,r,hc,hl,KW⟩,⟨Wh,Wi,n1,n2⟩,q⟩:=h
  have la:(" -> " :Str).length=4:=by decide+kernel
  have big:(20000 :Nat)≤sizeLine:=by decide
  have z1:=pY Wh n1
  have z2:=pY Wi n2
  refine⟨_,(aq
     (az (au aG (au aG (aN ck.ok (hr.mono (by decide)) rfl ck.g ck.kp ck.b .nil aP (aa (br (pv 0) rfl) ao)) (a8 (v:= .str " -> ") rfl T.rM ⟨_,rfl⟩)) (aN ck.ok (hr.mono (by decide)) rfl ck.g ck.kp ck.b .nil aP (aa (br (pv 0) rfl) ao))))),?_⟩
  refine⟨_,rfl,c,Ch,dx,_,_,rfl,hc,T.cC,T.kK,iP _ _,l,xs,rfl,hl,Wh,n1,fun H1 e1=>⟨_,_,rfl,rfl,by rw[la];omega,?_⟩⟩
  refine⟨_,rfl,c,Ch,dx,_,_,rfl,e1 _ _ hc,T.cC,T.je,ij _ _,r,ys,rfl,KW.same e1,Wi,n2,fun H2 e2=>⟨_,_,rfl,rfl,by rw[aM,la];omega,q _ (e1.trans e2)⟩⟩
variable {uC uP uI uD uL uT:Tok}
def cO(l:List Nat):Prop:=∀c∈l,c<128
theorem cO.app{a b:List Nat}(ha:cO a)(hb:cO b):cO (a++b):=fun c hc=>(List.mem_append.mp hc).elim (ha c) (hb c)
theorem cO.take{a:List Nat}(h:cO a)(n:Nat):cO (a.take n):=fun c hc=>h c (List.mem_of_mem_take hc)
theorem cO.drop{a:List Nat}(h:cO a)(n:Nat):cO (a.drop n):=fun c hc=>h c (List.mem_of_mem_drop hc)
theorem cO.str{x:Str}(h:cO x.cps.toList):x.cps.all (· <128)=true:=by
 rw[Array.all_eq_true]
 intro i hi
 have:=h x.cps[i] (by rw[Array.mem_toList_iff];exact Array.getElem_mem hi)
 simpa using this
theorem mT{n:Int}(h1:1≤n)(h2:n≤999):cO (bw n):=fun c hc=>by
 obtain⟨m,rfl,m1,m0⟩:=nQ h1 (by omega)
 have:=List.all_eq_true.mp (fU m) c hc
 simp only [d9,Bool.and_eq_true,decide_eq_true_eq] at this
 omega
theorem Ea{k:List Nat}(h:tF k):cO k:=by
 obtain⟨c,r,rfl,hg,hs,_⟩:=h
 intro b hb
 rcases List.mem_cons.mp hb with rfl|hb
 ·simp only [iy,Bool.and_eq_true,decide_eq_true_eq] at hg
  omega
 ·have:=List.all_eq_true.mp hs b hb
  simp only [jq,Bool.and_eq_true,decide_eq_true_eq] at this
  omega
theorem xK:∀(d:Nat) (t:Tr),vJ d t→cO (dR d t)
 |d, .one k n,h=>by
  have h:tF k∧1≤n∧n≤999:=by cases d<;>exact h
  have e:dR d (.one k n)=k++bw n:=by cases d<;>rfl
  rw[e]
  exact(Ea h.1).app (mT h.2.1 h.2.2)
 |0, .gr _ _,h=>h.elim
 |d+1, .gr ts n,⟨_,h,n1,n2⟩=>by
  intro c hc
  rcases List.mem_cons.mp (show c∈40::(ts.flatMap (dR d)++41::bw n) from hc) with rfl|hc
  ·decide
  ·rcases List.mem_append.mp hc with hc|hc
   ·obtain⟨t,ht,hc⟩:=List.mem_flatMap.mp hc
    exact xK d t (h t ht) c hc
   ·rcases List.mem_cons.mp hc with rfl|hc
    ·decide
    ·exact mT n1 n2 c hc
theorem Bo{d:Nat}{ts:List Tr}(h:∀t∈ts,vJ d t):cO (ts.flatMap (dR d)):=fun c hc=>by
 obtain⟨t,ht,hc⟩:=List.mem_flatMap.mp hc
 exact xK d t (h t ht) c hc
theorem Bp(x:Str){a:Nat}(ha:a≤x.length):(Txt.slice x none (some (a:Int))).cps.toList=x.cps.toList.take a:=by
 have:=fj x (a:=0) (b:=a) (Nat.zero_le _) (Nat.zero_le _)
 rw[List.drop_zero,Nat.sub_zero] at this
 rw[←this]
 have e:∀n,Builtin.Str.strSliceIndices none (some (a:Int)) 1 n=Builtin.Str.strSliceIndices (some ((0 :Nat):Int)) (some (a:Int)) 1 n:=fun n=>by
  simp only [Builtin.Str.strSliceIndices,show ((1 :Int) >0)=True from by simp,if_true]
  congr 1
 unfold Txt.slice
 rw[e]
theorem ue(x:Str){a:Nat}(ha:a≤x.length):(Txt.slice x (some (a:Int)) none).cps.toList=x.cps.toList.drop a:=by
 have hl:x.cps.toList.length=x.length:=by simp [Str.length]
 have:=fj x (a:=a) (b:=x.length) ha ha
 rw[List.take_of_length_le (by rw[List.length_drop];omega)] at this
 rw[←this]
 have e:Builtin.Str.strSliceIndices (some (a:Int)) none 1 x.length=Builtin.Str.strSliceIndices (some (a:Int)) (some ((x.length:Nat):Int)) 1 x.length:=by
  simp only [Builtin.Str.strSliceIndices,show ((1 :Int) >0)=True from by simp,if_true]
  congr 1
  have:¬((x.length:Nat):Int) <0:=by omega
  rw[if_neg this]
  omega
 unfold Txt.slice
 rw[e]
theorem uf(l:List Nat){a:Nat}(h:a≤l.length):Txt.slice ⟨l.toArray⟩ none (some (a:Int))=⟨(l.take a).toArray⟩:=eo (by rw[Bp _ (by rw[aB];exact h)])
theorem Bq(l:List Nat){a:Nat}(h:a≤l.length):Txt.slice ⟨l.toArray⟩ (some (a:Int)) none=⟨(l.drop a).toArray⟩:=eo (by rw[ue _ (by rw[aB];exact h)])
theorem Hs(l:List Nat){a b:Nat}(Kc:a≤b)(h:a≤l.length):Txt.slice ⟨l.toArray⟩ (some (a:Int)) (some (b:Int))=⟨((l.drop a).take (b - a)).toArray⟩:=eo (by rw[fj _ Kc (by rw[aB];exact h)])
theorem vZ(l:List Nat){a:Nat}(h:a≤l.length):Txt.slice ⟨l.toArray⟩ (some ((a:Int)+1)) none=⟨(l.drop (a+1)).toArray⟩:=by
 by_cases hl:a+1≤l.length
 ·rw[show ((a:Int)+1)=((a+1 :Nat):Int) by omega]
  exact Bq l hl
 ·have ea:a=l.length:=by omega
  apply eo
  have hl:(⟨l.toArray⟩:Str).length=l.length:=aB l
  have e:Builtin.Str.strSliceIndices (some ((a:Int)+1)) none 1 (⟨l.toArray⟩:Str).length=Builtin.Str.strSliceIndices (some ((l.length:Nat):Int)) none 1 (⟨l.toArray⟩:Str).length:=by
   rw[hl]
   simp only [Builtin.Str.strSliceIndices,show ((1 :Int) >0)=True from by simp,if_true]
   congr 1
   have h1:¬((a:Int)+1) <0:=by omega
   have h2:¬((l.length:Nat):Int) <0:=by omega
   rw[if_neg h1,if_neg h2]
   omega
  have h2:=ue (⟨l.toArray⟩:Str) (a:=l.length) (by rw[hl];exact Nat.le_refl _)
  have h3:Txt.slice ⟨l.toArray⟩ (some ((a:Int)+1)) none=Txt.slice ⟨l.toArray⟩ (some ((l.length:Nat):Int)) none:=by
   unfold Txt.slice
   rw[e]
  rw[h3,h2]
  show l.drop l.length=l.drop (a+1)
  rw[List.drop_eq_nil_of_le (Nat.le_refl _),List.drop_eq_nil_of_le (by omega)]
theorem kD.ok{u v:List Nat}{n:Int}(h:kD 3 u n v):u=bw n++v∧1≤n∧n≤999:=⟨h.1,h.2.1,by have:=h.2.2.1;omega⟩
theorem lX.ok{u k v:List Nat}{n:Int}(h:lX u k n v):u=(k++bw n)++v∧tF k∧1≤n∧n≤999:=by
 obtain⟨w,rfl,hk,_,hN⟩:=h
 obtain⟨e,n1,n2⟩:=hN.ok
 exact⟨by rw[e,List.append_assoc],hk,n1,n2⟩
theorem Sq.ok{p:List Nat→Tr→List Nat→Prop}{d:Nat}(hp:∀u t v,p u t v→u=dR d t++v∧vJ d t){u:List Nat}:∀{ts:List Tr} {v:List Nat},Sq p u ts v→u=ts.flatMap (dR d)++v∧ts≠[]∧∀t∈ts,vJ d t:=by
 intro ts v h
 induction h with
 |one t v a=>
  obtain⟨e,o⟩:=hp u t v a
  refine⟨by rw[e];simp,by simp,fun t' ht=>by rw[List.mem_singleton.mp ht];exact o⟩
 |snoc ts w t v _ _ a ih=>
  obtain⟨e,_,o⟩:=ih
  obtain⟨e2,o2⟩:=hp w t v a
  refine⟨by rw[e,e2,List.flatMap_append,List.append_assoc];simp,by simp,fun t' ht=>?_⟩
  rcases List.mem_append.mp ht with z|z
  ·exact o t' z
  ·rw[List.mem_singleton.mp z];exact o2
theorem oE.ok:∀(d:Nat) (u:List Nat) (t:Tr) (v:List Nat),oE d u t v→u=dR d t++v∧vJ d t
 |0,u,t,v,h=>by
  obtain⟨k,n,rfl,a⟩:=h
  obtain⟨e,o⟩:=a.ok
  exact⟨e,o⟩
 |d+1,u,t,v,h=>by
  rcases h with ⟨_,k,n,rfl,a⟩ | ⟨u',ts,n,w,rfl,rfl,⟨q,_⟩,hN⟩
  ·obtain⟨e,o⟩:=a.ok
   exact⟨e,o⟩
  ·obtain⟨e,ne,o⟩:=q.ok (oE.ok d)
   obtain⟨e2,n1,n2⟩:=hN.ok
   refine⟨?_,ne,o,n1,n2⟩
   rw[e,e2]
   show 40::(ts.flatMap (dR d)++41::(bw n++v))=40::(ts.flatMap (dR d)++41::bw n)++v
   simp
theorem Cq.ok{u:List Nat}:∀{ps:List gO} {v:List Nat},Cq u ps v→∃x r,ps=x::r∧x.1=1∧u=x.2.flatMap (dR 4)++(eL 4 r++v)∧∀y∈ps,IV 4 y:=by
 intro ps v h
 induction h with
 |one ts v a=>
  obtain⟨e,ne,o⟩:=a.1.ok (oE.ok 4)
  exact⟨(1,ts),[],rfl,rfl,e,fun y hy=>by rw[List.mem_singleton.mp hy];exact⟨ne,o,(by show (1 :Int)≤1;decide),(by show (1 :Int)≤999;decide)⟩⟩
 |snoc ps w m w1 ts v _ n a ih=>
  obtain⟨x,r,rfl,x1,e,o⟩:=ih
  obtain⟨e2,n1,n2⟩:=n.ok
  obtain⟨e3,ne,o3⟩:=a.1.ok (oE.ok 4)
  refine⟨x,r++[(m,ts)],rfl,x1,?_,fun y hy=>?_⟩
  ·rw[e,e2,e3]
   unfold eL jV
   rw[List.flatMap_append]
   simp
  ·rcases List.mem_append.mp (show y∈(x::r)++[(m,ts)] from hy) with z|z
   ·exact o y z
   ·rw[List.mem_singleton.mp z];exact⟨ne,o3,n1,n2⟩
theorem OE.ok{u v:List Nat}{n:Int}(h:OE u n v):u=lV n++v∧ -999≤n∧n≤999:=by
 rcases h with ⟨_,rfl,rfl⟩ | ⟨u',m,w,rfl,hN,hs⟩
 ·exact⟨rfl,by decide,by decide⟩
 ·obtain⟨e,n1,n2⟩:=hN.ok
  rcases hs with ⟨rfl,rfl⟩ | ⟨rfl,rfl⟩
  ·refine⟨?_,by omega,by omega⟩
   unfold lV
   rw[if_neg (by omega),if_pos (by omega),if_neg (by omega),Int.neg_neg,e]
   simp
  ·refine⟨?_,by omega,by omega⟩
   unfold lV
   rw[if_neg (by omega),if_neg (by omega),if_pos (by omega),e]
   simp
theorem E9.KZ{u v:List Nat}{xs:List gO}{n:Int}(h:E9 u xs n v):u=wL 4 xs n++v∧Cp 4 xs n:=by
 rcases h with ⟨rfl,rfl,rfl⟩ | ⟨_,w,q,_,c⟩
 ·exact⟨rfl,rfl⟩
 ·obtain⟨x,r,rfl,x1,e,o⟩:=q.ok
  obtain⟨e2,n1,n2⟩:=c.ok
  refine⟨?_,x1,o,n1,n2⟩
  rw[e,e2]
  show _=x.2.flatMap (dR 4)++(eL 4 r++lV n)++v
  simp only [List.append_assoc]
theorem K0{xs:List gO}{n:Int}(h:Cp 4 xs n):wL 4 xs n≠[]:=by
 cases xs with
 |nil=>simp [wL]
 |cons x r=>
  obtain⟨_,ho,_⟩:=h
  obtain⟨ne,ot,_⟩:=ho x (List.mem_cons_self ..)
  intro z
  have z:x.2.flatMap (dR 4)++(eL 4 r++lV n)=[]:=z
  have z1:=(List.append_eq_nil_iff.mp z).1
  cases hx:x.2 with
  |nil=>exact ne hx
  |cons t ts=>
   rw[hx,List.flatMap_cons] at z1
   have z2:=(List.append_eq_nil_iff.mp z1).1
   have ht:=ot t (by rw[hx];exact List.mem_cons_self ..)
   cases t with
   |one k m=>
    obtain⟨⟨c,k',rfl,_⟩,_⟩:=ht
    cases z2
   |gr OI m=>cases z2
variable {HE NF TL NC TM:Addr}{uC uP uI uD uL uT l5 l6 l7 uG uS:Tok}{Ch:Addr}
structure y9(K:PySem.W.Frag)(mg:Str→Option Value)(C R G Pc Fo Ch:Addr)(uK uN uB uE uM uC uP uI uD uL uT l5 l6 l7 uG uS:Tok):Prop extends Bj K mg C R G Pc Fo Ch uK uN uB uE uM uC uP uI uD uL uT l5 l6 l7 where
 iQ:mg "LONGEST_TERM_COUNT" =some (.int 12 uG)
 rP:mg "MOST_TERMS" =some (.int 8 uS)
def Eb(u:List Nat)(t:Tm)(v:List Nat):Prop:=∃w,kD 12 u t.1 w∧((t.1=1∧E9 w t.2.1 t.2.2 v)∨(t.1≠1∧∃w',w=32::w'∧E9 w' t.2.1 t.2.2 v))
def Jc(u v:List Nat):Prop:=rC u v∨∃n w,kD 12 u n w∧((n=1∧Kv w v)∨(n≠1∧w.head? ≠some 32∧v=w)∨(n≠1∧∃w',w=32::w'∧Kv w' v))
def Rc(s w v:List Nat):Prop:=∃i c,s[i]? =some c∧w=s.take i++v∧v.head? ≠some c
inductive u5(u:List Nat):List Tm→List Nat→Prop
 |one (t:Tm) (v:List Nat) (h:Eb u t v):u5 u [t] v
 |snoc (ts:List Tm) (w:List Nat) (t:Tm) (v:List Nat) (s:u5 u ts (32::43::32::w)) (h:Eb w t v):u5 u (ts++[t]) v
def Rg(u:List Nat)(ts:List Tm)(v:List Nat):Prop:=u5 u ts (32::45::62::32::v)
def Rh(w v:List Nat):Prop:=Rc [32,43,32] w v∨∃w',w=32::43::32::w'∧Jc w' v
def Ri(u v:List Nat):Prop:=Jc u v∨∃ts w,u5 u ts w∧(((w.drop 1).head? ≠some 45∧Rh w v)∨((w.drop 1).head? =some 45∧Rc [32,45,62,32] w v))
def Rj(u v:List Nat):Prop:=Jc u v∨∃ts w,u5 u ts w∧w≠[]∧Rh w v
def Jd(u:List Nat)(xs ys:List Tm):Prop:=∃w,Rg u xs w∧u5 w ys []
def Rk(u v:List Nat):Prop:=Ri u v∨∃xs w,Rg u xs w∧Rj w v
def K1(C G Pc Fo:Addr)(H H':Hp)(t:Addr)(x:Tm):Prop:=∀cx,(∀b o,H b=none→H' b=some o→cx b=some o)→ig C G Pc Fo cx t x
def Fg(C G Pc Fo L:Addr)(H H':Hp)(t:Addr)(x:Tm):Prop:=∀cx,(∀b o,H b=none→b≠L→H' b=some o→cx b=some o)→ig C G Pc Fo cx t x
def Br(C G Pc Fo:Addr)(H H':Hp)(l:Addr)(xs:List Tm):Prop:=H l=none∧∃ps,H' l=some (.lst (ps.map V.ref))∧∀cx,(∀b o,H b=none→H' b=some o→cx b=some o)→Paired (ig C G Pc Fo cx) ps xs
theorem K2:(" " :Str)=⟨#[32]⟩:=by decide+kernel
def oj(NF C G Pc Fo R:Addr):Sp:=fun vs H Q E=>∃(r:Addr) (x:Str) (p:Nat),vs=[.ref r]∧cJ R H r x p∧p≤x.length∧x.length≤1000∧
 (∀tm q t H',Eb (sf x p) tm (sf x q)→p<q→q≤x.length→H t=none→K1 C G Pc Fo H H' t tm→cJ R H' r x q→Kept r H H'→Q (.ref t) H')∧(∀e,Jc (sf x p) (sf x e)→p≤e→e≤x.length→Rz NF H r E e)
theorem xM:ax ["self","count"] ["self"] (ak qZ):=dH
theorem Bs{u v:List Nat}{xs:List gO}{n:Int}(h:E9 u xs n v):v.length<u.length:=by
 obtain⟨e,o⟩:=h.KZ
 have:=K0 o
 rw[e,List.length_append]
 have:(wL 4 xs n).length≠0:=fun z=>this (List.length_eq_zero_iff.mp z)
 omega
theorem Ht{u v:List Nat}{t:Tm}(h:Eb u t v):v.length<u.length:=by
 obtain⟨w,hN,hw⟩:=h
 have e:=hN.1
 have l:w.length≤u.length:=by rw[e,List.length_append];omega
 rcases hw with ⟨_,hw⟩ | ⟨_,w',rfl,hw⟩
 ·have:=Bs hw
  omega
 ·have:=Bs hw
  rw[List.length_cons] at l
  omega
theorem K3{x:Str}{p q:Nat}(h:(sf x q).length< (sf x p).length):p<q:=by
 rw[iL,iL] at h
 omega
theorem zd(D:bU K R "read_term" "ChangeReader.read_term" qZ ["self"])(T:y9 K mg C R G Pc Fo Ch uK uN uB uE uM uC uP uI uD uL uT l5 l6 l7 uG uS)(c1:aY P w K mg base 3 R "read_number" ["self","longest"] (lF NF R))(c2:aY P w K mg base 3 R "take" ["self","sign"] (hX NF R))(c3:aY P w K mg base 20 R "read_whole" ["self"] (pS NF C G Pc Fo R)):
  aY P w K mg base 21 R "read_term" ["self"] (oj NF C G Pc Fo R):=by
 obtain⟨_,_,bu⟩:=c1
 obtain⟨_,_,aD⟩:=c2
 obtain⟨_,_,di⟩:=c3
 refine D.gW xM (fun vs H Q E h=>?_) (fun f bj A outer s H vs Q E hr h=>?_)
 ·obtain⟨r,x,p,rfl,_⟩:=h
  rfl
 ·obtain⟨r,x,p,rfl,⟨dx,hR⟩,hp,hx,q,qE⟩:=h
  refine⟨_,(af
     (aH (i:=1) xM.nd rfl (Or.inl rfl) (bD (pv 0) T.av bu.m bu.ok (hr.mono (by decide)) bu.b .nil aU (aa (a8 (v:= .int 12) rfl T.iQ ⟨_,rfl⟩) ao)))
    (af
     (bc (aA iB (pv 1) ah (aE _))
      (aq
       (bE (bD (pv 0) T.av aD.m aD.ok (hr.mono (by decide)) aD.b .nil aU (aa (a8 (v:= .str " ") rfl T.xH ⟨_,rfl⟩) ao))))
      aK)
    (aq
     (az (bM (aa (pv 1) (aa (bO (pv 0) T.av di.m di.ok (hr.mono (by decide)) di.b .nil aU) ao))))))),?_⟩
  refine⟨_,rfl,r,dx,_,rfl,hR,aF _ _ (by decide+kernel) (by decide+kernel),r,x,p,12,rfl,⟨dx,hR⟩,hp,hx,by decide,by decide,fun n q1 H1 hN Cr tT du k1=>?_,fun e hB=>qE e (.inl hB)⟩
  obtain⟨mn,du⟩:=du
  dsimp only [dM]
  refine dP (fun σ' H'=>∃p2,σ'=[some (.ref r),some (.int n)]∧cJ R H' r x p2∧Kept r H H'∧p≤p2∧p2≤x.length∧(∀xs m v,E9 (sf x p2) xs m v→Eb (sf x p) (n,xs,m) v)∧∀v,Kv (sf x p2) v→Jc (sf x p) v) (fun N OJ=>?_) ?_
  ·refine⟨_,rfl,_,_,rfl,rfl,_,rfl,dY (fun e=>?_) fun e=>?_⟩
   ·have e:1<n:=by simpa using e
    have n1:n≠1:=by omega
    refine⟨_,rfl,r,mn,_,rfl,du,aF _ _ (by decide+kernel) (by decide+kernel),r,x,q1,32,congrArg (fun z=>[V.ref r,V.str z]) K2,⟨mn,du⟩,tT,hx,fun jy H2 ia k2=>?_,fun jy=>(qE q1 (.inr ⟨n,_,hN, .inr (.inl ⟨n1,jy,rfl⟩)⟩) Cr tT).on k1 du⟩
    obtain⟨f1,f2⟩:=dz jy
    exact OJ _ _ ⟨q1+1,rfl,ia,k1.trans k2,by omega,f2,fun xs m v hw=>⟨_,hN, .inr ⟨n1,_,f1,hw⟩⟩,fun v hw=> .inr ⟨n,_,hN, .inr (.inr ⟨n1,_,f1,hw⟩)⟩⟩
   ·have e:¬1<n:=by simpa using e
    have n1:n=1:=by have:=hN.2.1;omega
    exact OJ _ _ ⟨q1,rfl,⟨mn,du⟩,k1,Cr,tT,fun xs m v hw=>⟨_,hN, .inl ⟨n1,hw⟩⟩,fun v hw=> .inr ⟨n,_,hN, .inl ⟨n1,hw⟩⟩⟩
  rintro σ' H2 ⟨p2,rfl,⟨jL,ia⟩,k2,Gb,Rl,gG,gB⟩
  refine⟨_,rfl,_,rfl,r,jL,_,rfl,ia,aF _ _ (by decide+kernel) (by decide+kernel),r,x,p2,rfl,⟨jL,ia⟩,Rl,hx,fun xs m q3 f H3 hW XY Hc nf hF fb k3=>⟨(by show 2≤sizeLine;decide),fun t ht=>?_⟩,fun e hB h1 h2=>(qE e (gB _ hB) (by omega) h2).on k2 ia⟩
  obtain⟨tR,fb⟩:=fb
  have Rm:=k2.trans k3
  have st:=ay.new (o:= .tup [.int n, .ref f]) ht
  have hT:=gG _ _ _ hW
  refine q (n,xs,m) q3 t _ hT (K3 (Ht hT)) Hc (aW Rm fb ht) (fun cx ke=>⟨f,ke _ _ (aW Rm fb ht) ag,hF cx fun b o z1 z2=>ke b o (aW k2 ia z1) (st _ _ z2)⟩) ⟨tR,st _ _ fb⟩ (Rm.trans (Kept.of st))
variable {HE NF TL NC TM:Addr}{uC uP uI uD uL uT l5 l6 l7 uG uS:Tok}{Ch:Addr}
theorem eJ:(" + " :Str).cps.toList=[32,43,32]:=by decide+kernel
theorem Wj:(" + " :Str).cps.all (· <128)=true:=by decide+kernel
theorem OU:(" + " :Str).length=3:=by decide+kernel
theorem eA:(" -> " :Str).cps.toList=[32,45,62,32]:=by decide+kernel
theorem X9:(" -> " :Str).cps.all (· <128)=true:=by decide+kernel
theorem Wk:(" -> " :Str).length=4:=by decide+kernel
theorem v7(x:Str){p:Nat}(hp:p≤x.length):Txt.slice x (some ((p:Int)+1)) (some ((p:Int)+2))=eY x (p+1):=by
 by_cases h:p+1≤x.length
 ·have:=pH x h
  have e:(((p+1 :Nat):Int))+1=(p:Int)+2:=by omega
  rw[e] at this
  exact this
 ·have ep:p=x.length:=by omega
  apply eo
  have e:Builtin.Str.strSliceIndices (some ((p:Int)+1)) (some ((p:Int)+2)) 1 x.length=Builtin.Str.strSliceIndices (some ((x.length:Nat):Int)) (some ((x.length:Nat):Int)) 1 x.length:=by
   simp only [Builtin.Str.strSliceIndices,show ((1 :Int) >0)=True from by simp,if_true]
   have h1:¬((p:Int)+1) <0:=by omega
   have h2:¬((p:Int)+2) <0:=by omega
   have h3:¬((x.length:Nat):Int) <0:=by omega
   rw[if_neg h1,if_neg h2,if_neg h3]
   congr 1<;>omega
  have h3:Txt.slice x (some ((p:Int)+1)) (some ((p:Int)+2))=Txt.slice x (some ((x.length:Nat):Int)) (some ((x.length:Nat):Int)):=by
   unfold Txt.slice
   rw[e]
  rw[h3,fj x (Nat.le_refl _) (Nat.le_refl _),Nat.sub_self,List.take_zero]
  rw[AM]
  have:sf x (p+1)=[]:=List.drop_eq_nil_of_le (by simp [Str.length] at ep ⊢;omega)
  rw[this]
  rfl
theorem xN(x:Str)(p:Nat):(sf x p).drop 1=sf x (p+1):=by unfold sf;rw[List.drop_drop]
def jz(C G Pc Fo L:Addr)(H H':Hp)(q:Nat)(xs:List Tm):Prop:=∃ps,H' L=some (.lst (ps.map V.ref))∧ps.length≤q∧Paired (Fg C G Pc Fo L H H') ps xs
def pZ(NF C G Pc Fo R:Addr):Sp:=fun vs H Q E=>∃(r:Addr) (x:Str) (p:Nat),vs=[.ref r]∧cJ R H r x p∧p≤x.length∧x.length≤1000∧
 (∀xs q l H',Rg (sf x p) xs (sf x q)→p<q→q≤x.length→xs.length≤1000→Br C G Pc Fo H H' l xs→cJ R H' r x q→Kept r H H'→Q (.ref l) H')∧(∀e,Ri (sf x p) (sf x e)→p≤e→e≤x.length→Rz NF H r E e)
def om(NF C G Pc Fo R:Addr):Sp:=fun vs H Q E=>∃(r:Addr) (x:Str) (p:Nat),vs=[.ref r]∧cJ R H r x p∧p≤x.length∧x.length≤1000∧
 (∀xs l H',u5 (sf x p) xs []→xs.length≤1000→Br C G Pc Fo H H' l xs→Kept r H H'→(∃o,H' r=some o)→Q (.ref l) H')∧(∀e,Rj (sf x p) (sf x e)→p≤e→e≤x.length→Rz NF H r E e)
theorem ug:ax ["self","terms"] ["self"] (ak mI):=dH
theorem jz.done{L r:Addr}{H H':Hp}{q:Nat}{xs:List Tm}{o:HO}(h:jz C G Pc Fo L H H' q xs)(xA:H L=none)(k:Kept r H H')(hr:H r=some o):Br C G Pc Fo H H' L xs:=by
 obtain⟨ps,h1,h2,h3⟩:=h
 exact⟨xA,ps,h1,fun cx ke=>bA (fun _ _ z=>z cx fun b o z1 _ z3=>ke b o z1 z3) h3⟩
theorem jz.len{L:Addr}{H H':Hp}{q:Nat}{xs:List Tm}(h:jz C G Pc Fo L H H' q xs):xs.length≤q:=by
 obtain⟨ps,h1,h2,h3⟩:=h
 rw[←Paired.length h3]
 exact h2
theorem jz.more{L r t:Addr}{H H' H3 H4:Hp}{q q':Nat}{xs:List Tm}{y:Tm}{o o3:HO}{ps:List Addr}(h1:H' L=some (.lst (ps.map V.ref)))(h2:ps.length≤q)(h3:Paired (Fg C G Pc Fo L H H') ps xs)(xA:H L=none)(ON:H r=some o)(kk:Kept r H H')(k3:Kept r H' H3)(k4:Kept r H3 H4)(X':H3 r=some o3)(oO:L≠r)(hN:K1 C G Pc Fo H3 H4 t y)(hq:q<q'):
  jz C G Pc Fo L H (upd H4 L (.lst (ps.map V.ref++[V.ref t]))) q' (xs++[y])∧Kept r H (upd H4 L (.lst (ps.map V.ref++[V.ref t]))):=by
 have Ya:=kk.trans k3
 have yS:=k3 _ _ h1 oO
 have G':=k3.trans k4
 refine⟨⟨ps++[t],by rw[ag,List.map_append];rfl,by rw[List.length_append];show ps.length+1≤q';omega,?_⟩,fun b o z w=>?_⟩
 ·refine eK (fun cx ke=>hN cx fun b o z1 z2=>?_) (bA (fun c t h cx ke=>h cx fun b o z1 z2 z3=>ke b o z1 z2 ?_) h3)
  ·have AV:b≠L:=fun z=>by rw[z,yS] at z1;cases z1
   exact ke b o (aW Ya X' z1) AV (by rw[aj AV];exact z2)
  ·have zC:b≠r:=fun z=>by rw[z,ON] at z1;cases z1
   rw[aj z2]
   exact G' _ _ z3 zC
 ·rw[aj (ai z xA)]
  exact G' _ _ (kk _ _ z w) w
theorem v8(D:bU K R "read_lefts" "ChangeReader.read_lefts" mI ["self"])(T:y9 K mg C R G Pc Fo Ch uK uN uB uE uM uC uP uI uD uL uT l5 l6 l7 uG uS)(c1:aY P w K mg base 21 R "read_term" ["self"] (oj NF C G Pc Fo R))(c2:aY P w K mg base 4 R "take_all" ["self","signs"] (hZ NF R)):
  aY P w K mg base 22 R "read_lefts" ["self"] (pZ NF C G Pc Fo R):=by
 obtain⟨_,_,aS⟩:=c1
 obtain⟨_,_,aR⟩:=c2
 refine D.gW ug (fun vs H Q E h=>?_) (fun f bj A outer s H vs Q E hr h=>?_)
 ·obtain⟨r,x,p,rfl,_⟩:=h
  rfl
 ·obtain⟨r,x,p,rfl,⟨dx,hR⟩,hp,hx,q,qE⟩:=h
  have big:(2000 :Nat)≤sizeLine:=by decide
  refine⟨_,(af
     (aH (i:=1) ug.nd rfl (Or.inl rfl) (cm (aa (bO (pv 0) T.av aS.m aS.ok (hr.mono (by decide)) aS.b .nil aU) ao)))
    (af
     (gq jK (aA wQ (bK dA (br (pv 0) rfl) (bF (au bo (br (pv 0) rfl) ah)) (bF (au bo (br (pv 0) rfl) ah))) (b8 gU (a8 (v:= .str " -> ") rfl T.rM ⟨_,rfl⟩) ah (fun _ _=>rfl)) (aE _))
      (af
       (bE (bD (pv 0) T.av aR.m aR.ok (hr.mono (by decide)) aR.b .nil aU (aa (a8 (v:= .str " + ") rfl T.rL ⟨_,rfl⟩) ao)))
      (aq
       (bE (fw PySem.F.plainAttrs_list PySem.F.slot_list_append PySem.F.type_list_append dE (pv 1) (aa (bO (pv 0) T.av aS.m aS.ok (hr.mono (by decide)) aS.b .nil aU) ao))))))
    (af
     (bE (bD (pv 0) T.av aR.m aR.ok (hr.mono (by decide)) aR.b .nil aU (aa (a8 (v:= .str " -> ") rfl T.rM ⟨_,rfl⟩) ao)))
    (aq
     (az (pv 1)))))),?_⟩
  refine⟨_,rfl,r,dx,_,rfl,hR,aF _ _ (by decide+kernel) (by decide+kernel),r,x,p,rfl,⟨dx,hR⟩,hp,hx,fun t0 q1 a0 H1 hT Cr tT Yb hN du k1=>⟨(by show 1≤sizeLine;decide),fun L hL=>?_⟩,fun e hB=>qE e (.inl hB)⟩
  obtain⟨mn,du⟩:=du
  have xA:H L=none:=aW k1 du hL
  have oO:L≠r:=fun z=>by rw[z,du] at hL;cases hL
  have sL:ay H1 (upd H1 L (.lst [V.ref a0])):=ay.new hL
  refine⟨fun k σ H'=>∃q' xs,k+q'=x.length∧p<q'∧u5 (sf x p) xs (sf x q')∧σ=[some (.ref r),some (.ref L)]∧cJ R H' r x q'∧Kept r H H'∧jz C G Pc Fo L H H' q' xs,⟨x.length - q1,q1,[t0],by omega,Cr, .one t0 _ hT,rfl,⟨mn,sL _ _ du⟩,k1.trans (Kept.of sL),[a0],ag,by show 1≤q1;omega, .cons (fun cx ke=>hN cx fun b o z1 z2=>ke b o z1 (ai z2 hL) (sL _ _ z2)) .nil⟩,?_⟩
  rintro k σ H' ⟨q',xs,hk,DK,hQ,rfl,⟨cZ,cL⟩,kk,Je⟩
  have iC:q'≤x.length:=by omega
  refine⟨_,rfl,r,R,cZ,_,_,rfl,cL,T.av,T.i8,fF _ _,_,rfl,r,R,cZ,_,_,rfl,cL,T.av,T.bz,aX _ _,_,_,rfl,rfl,_,rfl,_,rfl,r,R,cZ,_,_,rfl,cL,T.av,T.bz,aX _ _,_,_,rfl,rfl,_,rfl,x,rfl,by omega," -> ",1,45,rfl,rfl,(by decide+kernel),(by decide+kernel),rfl,_,rfl,?_⟩
  rw[v7 x iC]
  by_cases oP:(sf x (q'+1)).head? =some 45
  ·have Ec:((sf x q').drop 1).head? =some 45:=by rw[xN];exact oP
   rw[decide_eq_true (dU.mpr oP)]
   refine dG ?_
   refine⟨_,rfl,r,cZ,_,rfl,cL,aF _ _ (by decide+kernel) (by decide+kernel),r,x,q'," -> ",rfl,X9,⟨cZ,cL⟩,iC,hx,fun hs hl H3 fb k3=>?_,fun i c hc hs hn hl=>(qE (q'+i) (.inr ⟨xs,_,hQ, .inr ⟨Ec,i,c,by rw[←eA];exact hc,by rw[←eA];exact hs,hn⟩⟩) (by omega) hl).on kk cL⟩
   rw[eA,Wk] at hs
   rw[Wk] at hl fb
   rw[hs] at hQ
   obtain⟨ps,p1,p2,p3⟩:=Je
   obtain⟨tR,fb⟩:=fb
   have yS:=k3 _ _ p1 oO
   refine⟨_,rfl,q xs (q'+4) L H3 hQ (by omega) hl ?_ ⟨xA,ps,yS,fun cx ke=>bA (fun _ _ z=>z cx fun b o z1 _ z3=>ke b o z1 (k3 _ _ z3 fun e=>by rw[e,hR] at z1;cases z1)) p3⟩ ⟨tR,fb⟩ (kk.trans k3)⟩
   have:=Paired.length p3
   omega
  ·have Ec:((sf x q').drop 1).head? ≠some 45:=by rw[xN];exact oP
   rw[decide_eq_false (fun z=>oP (dU.mp z))]
   refine cq ⟨_,fun σ' cx h=>h,?_⟩
   refine⟨_,rfl,r,cZ,_,rfl,cL,aF _ _ (by decide+kernel) (by decide+kernel),r,x,q'," + ",rfl,Wj,⟨cZ,cL⟩,iC,hx,fun hs hl H3 fb k3=>?_,fun i c hc hs hn hl=>(qE (q'+i) (.inr ⟨xs,_,hQ, .inl ⟨Ec, .inl ⟨i,c,by rw[←eJ];exact hc,by rw[←eJ];exact hs,hn⟩⟩⟩) (by omega) hl).on kk cL⟩
   rw[eJ,OU] at hs
   rw[OU] at hl fb
   have C6:sf x q'=32::43::32::sf x (q'+3):=hs
   obtain⟨ps,p1,p2,p3⟩:=Je
   obtain⟨tR,fb⟩:=fb
   have yS:=k3 _ _ p1 oO
   refine⟨_,rfl, .inl ⟨rfl,_,cz.of yS⟩,_,rfl,r,tR,_,rfl,fb,aF _ _ (by decide+kernel) (by decide+kernel),r,x,q'+3,rfl,⟨tR,fb⟩,hl,hx,fun t4 q4 a4 H4 Rn QH AU Yc Kx oN k4=>?_,fun e hB h1 h2=>(qE e (.inr ⟨xs,_,hQ, .inl ⟨Ec, .inr ⟨_,C6,hB⟩⟩⟩) (by omega) h2).on (kk.trans k3) fb⟩
   obtain⟨E',oN⟩:=oN
   have AW:=k4 _ _ yS oO
   obtain⟨m1,m2⟩:=jz.more (q':=q4) p1 p2 p3 xA hR kk k3 k4 fb oO Kx (by omega)
   refine⟨L,_,_,rfl,rfl,AW,by rw[List.length_map];omega,x.length - q4,by omega,q4,xs++[t4],by omega,by omega, .snoc xs _ t4 _ (by rw[←C6];exact hQ) Rn,rfl,⟨E',by rw[aj (Ne.symm oO)];exact oN⟩,m2,m1⟩
theorem p6:ax ["self","terms"] ["self"] (ak ko):=dH
theorem uh(D:bU K R "read_rights" "ChangeReader.read_rights" ko ["self"])(T:y9 K mg C R G Pc Fo Ch uK uN uB uE uM uC uP uI uD uL uT l5 l6 l7 uG uS)(c1:aY P w K mg base 21 R "read_term" ["self"] (oj NF C G Pc Fo R))(c2:aY P w K mg base 4 R "take_all" ["self","signs"] (hZ NF R)):
  aY P w K mg base 22 R "read_rights" ["self"] (om NF C G Pc Fo R):=by
 obtain⟨_,_,aS⟩:=c1
 obtain⟨_,_,aR⟩:=c2
 refine D.gW p6 (fun vs H Q E h=>?_) (fun f bj A outer s H vs Q E hr h=>?_)
 ·obtain⟨r,x,p,rfl,_⟩:=h
  rfl
 ·obtain⟨r,x,p,rfl,⟨dx,hR⟩,hp,hx,q,qE⟩:=h
  have big:(2000 :Nat)≤sizeLine:=by decide
  refine⟨_,(af
     (aH (i:=1) p6.nd rfl (Or.inl rfl) (cm (aa (bO (pv 0) T.av aS.m aS.ok (hr.mono (by decide)) aS.b .nil aU) ao)))
    (af
     (gq jK (aA sv (br (pv 0) rfl) (bJ cE rfl T.gI dZ (aa (br (pv 0) rfl) ao)) (aE _))
      (af
       (bE (bD (pv 0) T.av aR.m aR.ok (hr.mono (by decide)) aR.b .nil aU (aa (a8 (v:= .str " + ") rfl T.rL ⟨_,rfl⟩) ao)))
      (aq
       (bE (fw PySem.F.plainAttrs_list PySem.F.slot_list_append PySem.F.type_list_append dE (pv 1) (aa (bO (pv 0) T.av aS.m aS.ok (hr.mono (by decide)) aS.b .nil aU) ao))))))
    (aq
     (az (pv 1))))),?_⟩
  refine⟨_,rfl,r,dx,_,rfl,hR,aF _ _ (by decide+kernel) (by decide+kernel),r,x,p,rfl,⟨dx,hR⟩,hp,hx,fun t0 q1 a0 H1 hT Cr tT Yb hN du k1=>⟨(by show 1≤sizeLine;decide),fun L hL=>?_⟩,fun e hB=>qE e (.inl hB)⟩
  obtain⟨mn,du⟩:=du
  have xA:H L=none:=aW k1 du hL
  have oO:L≠r:=fun z=>by rw[z,du] at hL;cases hL
  have sL:ay H1 (upd H1 L (.lst [V.ref a0])):=ay.new hL
  refine⟨fun k σ H'=>∃q' xs,k+q'=x.length∧p<q'∧u5 (sf x p) xs (sf x q')∧σ=[some (.ref r),some (.ref L)]∧cJ R H' r x q'∧Kept r H H'∧jz C G Pc Fo L H H' q' xs,⟨x.length - q1,q1,[t0],by omega,Cr, .one t0 _ hT,rfl,⟨mn,sL _ _ du⟩,k1.trans (Kept.of sL),[a0],ag,by show 1≤q1;omega, .cons (fun cx ke=>hN cx fun b o z1 z2=>ke b o z1 (ai z2 hL) (sL _ _ z2)) .nil⟩,?_⟩
  rintro k σ H' ⟨q',xs,hk,DK,hQ,rfl,⟨cZ,cL⟩,kk,Je⟩
  have iC:q'≤x.length:=by omega
  refine⟨_,rfl,r,R,cZ,_,_,rfl,cL,T.av,T.bz,aX _ _,_,rfl,r,R,cZ,_,_,rfl,cL,T.av,T.i8,fF _ _,x,rfl,by omega,_,_,rfl,rfl,_,rfl,?_⟩
  by_cases vh:q'<x.length
  ·have si:sf x q'≠[]:=fun z=>by
    have:=iL x q'
    rw[z] at this
    simp at this
    omega
   refine cA (by omega) ⟨_,fun σ' cx h=>h,?_⟩
   refine⟨_,rfl,r,cZ,_,rfl,cL,aF _ _ (by decide+kernel) (by decide+kernel),r,x,q'," + ",rfl,Wj,⟨cZ,cL⟩,iC,hx,fun hs hl H3 fb k3=>?_,fun i c hc hs hn hl=>(qE (q'+i) (.inr ⟨xs,_,hQ,si, .inl ⟨i,c,by rw[←eJ];exact hc,by rw[←eJ];exact hs,hn⟩⟩) (by omega) hl).on kk cL⟩
   rw[eJ,OU] at hs
   rw[OU] at hl fb
   have C6:sf x q'=32::43::32::sf x (q'+3):=hs
   obtain⟨ps,p1,p2,p3⟩:=Je
   obtain⟨tR,fb⟩:=fb
   have yS:=k3 _ _ p1 oO
   refine⟨_,rfl, .inl ⟨rfl,_,cz.of yS⟩,_,rfl,r,tR,_,rfl,fb,aF _ _ (by decide+kernel) (by decide+kernel),r,x,q'+3,rfl,⟨tR,fb⟩,hl,hx,fun t4 q4 a4 H4 Rn QH AU Yc Kx oN k4=>?_,fun e hB h1 h2=>(qE e (.inr ⟨xs,_,hQ,si, .inr ⟨_,C6,hB⟩⟩) (by omega) h2).on (kk.trans k3) fb⟩
   obtain⟨E',oN⟩:=oN
   have AW:=k4 _ _ yS oO
   obtain⟨m1,m2⟩:=jz.more (q':=q4) p1 p2 p3 xA hR kk k3 k4 fb oO Kx (by omega)
   refine⟨L,_,_,rfl,rfl,AW,by rw[List.length_map];omega,x.length - q4,by omega,q4,xs++[t4],by omega,by omega, .snoc xs _ t4 _ (by rw[←C6];exact hQ) Rn,rfl,⟨E',by rw[aj (Ne.symm oO)];exact oN⟩,m2,m1⟩
  ·refine cu (by omega) ?_
   have Ro:sf x q'=[]:=List.drop_eq_nil_of_le (by simp [Str.length] at vh ⊢;omega)
   rw[Ro] at hQ
   have:=Je.len
   exact⟨_,rfl,q xs L H' hQ (by omega) (Je.done xA kk hR) kk ⟨_,cL⟩⟩
variable {HE NF TL NC TM:Addr}{uC uP uI uD uL uT l5 l6 l7 uG uS:Tok}{Ch:Addr}
def K4(C G Pc Fo Ch:Addr)(H H':Hp)(c:Addr)(xs ys:List Tm):Prop:=∀cx,(∀b o,H b=none→H' b=some o→cx b=some o)→gL C G Pc Fo Ch cx c xs ys
def p7(NF C G Pc Fo Ch R:Addr):Sp:=fun vs H Q E=>∃(r:Addr) (x:Str),vs=[.ref r]∧cJ R H r x 0∧x.length≤1000∧
 (∀xs ys c H',Jd x.cps.toList xs ys→xs.length≤1000→ys.length≤1000→H c=none→K4 C G Pc Fo Ch H H' c xs ys→Kept r H H'→Q (.ref c) H')∧(∀e,Rk x.cps.toList (sf x e)→e≤x.length→Rz NF H r E e)
theorem uk:ax ["self","lefts"] ["self"] (ak mJ):=dH
theorem wa(D:bU K R "read_sides" "ChangeReader.read_sides" mJ ["self"])(T:y9 K mg C R G Pc Fo Ch uK uN uB uE uM uC uP uI uD uL uT l5 l6 l7 uG uS)(c1:aY P w K mg base 22 R "read_lefts" ["self"] (pZ NF C G Pc Fo R))(c2:aY P w K mg base 22 R "read_rights" ["self"] (om NF C G Pc Fo R))(c3:fz P w K mg base 1 Ch ["self","lefts","rights"] [] (xJ Ch)):
  aY P w K mg base 23 R "read_sides" ["self"] (p7 NF C G Pc Fo Ch R):=by
 obtain⟨_,_,dj⟩:=c1
 obtain⟨_,_,cT⟩:=c2
 obtain⟨_,_,cC⟩:=c3
 obtain⟨_,wb,wc⟩:=cC.b 0 (by decide)
 refine D.gW uk (fun vs H Q E h=>?_) (fun f bj A outer s H vs Q E hr h=>?_)
 ·obtain⟨r,x,rfl,_⟩:=h
  rfl
 ·obtain⟨r,x,rfl,⟨dx,hR⟩,hx,q,qE⟩:=h
  refine⟨_,(af
     (aH (i:=1) uk.nd rfl (Or.inl rfl) (bO (pv 0) T.av dj.m dj.ok (hr.mono (by decide)) dj.b .nil aU))
    (aq
     (az (fO cC.m cC.ok (hr.mono (by decide)) rfl T.Bk wc wb aP (aa (pv 1) (aa (bO (pv 0) T.av cT.m cT.ok (hr.mono (by decide)) cT.b .nil aU) ao)))))),?_⟩
  refine⟨_,rfl,r,dx,_,rfl,hR,aF _ _ (by decide+kernel) (by decide+kernel),r,x,0,rfl,⟨dx,hR⟩,Nat.zero_le _,hx,fun xs q1 l H1 hG Cr tT lx Yd du k1=>?_,fun e hB _ he=>qE e (.inl hB) he⟩
  obtain⟨mn,du⟩:=du
  refine⟨_,rfl,_,rfl,r,mn,_,rfl,du,aF _ _ (by decide+kernel) (by decide+kernel),r,x,q1,rfl,⟨mn,du⟩,tT,hx,fun ys m H2 Ye ly Yf k2 ia=>?_,fun e hB _ he=>(qE e (.inr ⟨xs,_,hG,hB⟩) he).on k1 du⟩
  obtain⟨o2,ia⟩:=ia
  obtain⟨Kz,ps,sU,C7⟩:=Yd
  obtain⟨Rb,us,Jf,Ke⟩:=Yf
  have Rp:l≠r:=fun z=>by rw[z,hR] at Kz;cases Kz
  have wW:=k2 _ _ sU Rp
  have Wl:=k1.trans k2
  refine fun c dc nc Rq Zz=>⟨c,dc,l,m,ps.map V.ref,us.map V.ref,rfl,ag,?_,?_,fun n1 n2 H3 Yg EN VY Yh Rr Rt kp=>⟨rfl,?_⟩⟩
  ·rw[aj (ai wW nc),aj (ai wW Rq)];exact wW
  ·rw[aj (ai Jf nc),aj (ai Jf Rq)];exact Jf
  have s3:ay H2 H3:=fun b o z=>kp b o (by rw[aj (ai z nc),aj (ai z Rq)];exact z) (ai z nc)
  have back:∀b,H2 b=none→H b=none:=fun b z=>aW Wl ia z
  refine q xs ys c H3 ⟨_,hG,Ye⟩ lx ly (back c nc) (fun cx ke=>⟨dc,n1,n2,ke _ _ (back c nc) Yh,⟨ps,ke _ _ (back n1 (eh Yg)) Rr,C7 cx fun b o z1 z2=>?_⟩,⟨us,ke _ _ (back n2 (eh EN)) Rt,Ke cx fun b o z1 z2=>?_⟩⟩) (Wl.trans (Kept.of s3))
  ·have zC:b≠r:=fun z=>by rw[z,hR] at z1;cases z1
   exact ke b o z1 (s3 _ _ (k2 _ _ z2 zC))
  ·exact ke b o (aW k1 du z1) (s3 _ _ z2)
structure Fh(K:PySem.W.Frag)(mg:Str→Option Value)(C R G Pc Fo Ch HE NF TL NC TM:Addr)(uK uN uB uE uM uC uP uI uD uL uT l5 l6 l7 uG uS:Tok):Prop extends y9 K mg C R G Pc Fo Ch uK uN uB uE uM uC uP uI uD uL uT l5 l6 l7 uG uS,xB K mg HE NF TL NC TM
def oo(TL NC TM C G Pc Fo Ch:Addr):Sp:=fun vs H Q E=>∃x:Str,vs=[.str x]∧x.length≤10000∧
 (x.length≤400→∀xs ys c H',Jd x.cps.toList xs ys→xs.length+ys.length≤8→H c=none→K4 C G Pc Fo Ch H H' c xs ys→ay H H'→Q (.ref c) H')∧
 (x.length≤400→∀xs ys,Jd x.cps.toList xs ys→8<xs.length+ys.length→Rf TM "many" H E (xs.length+ys.length))∧
 (x.length≤400→∀e,Rk x.cps.toList (sf x e)→e≤x.length→Rf NC "place" H E e)∧(400<x.length→Rf TL "many" H E x.length)
theorem jf:ax ["text","change","e","many"] ["text"] (ak kq):=dH
theorem um(D:Def K mg "read_change" "read_change" kq ["text"])(T:Fh K mg C R G Pc Fo Ch HE NF TL NC TM uK uN uB uE uM uC uP uI uD uL uT l5 l6 l7 uG uS)(c1:ti P w K mg base 3 "refuse_too_long" ["text"] (n8 TL))(c2:fz P w K mg base 1 R ["self","text"] [] (xu R))(c3:aY P w K mg base 23 R "read_sides" ["self"] (p7 NF C G Pc Fo Ch R))
  (c4:vD P w K mg base 1 "NoChange" NC HE ["self","place"] (iM NC "place")) (c5:gf P w K mg base 1 "TooMany" TM HE ["self","many"] (iM TM "many")) (c6:gf P w K mg base 1 "NoFormula" NF HE ["self","place"] (iM NF "place")):
  ti P w K mg base 24 "read_change" ["text"] (oo TL NC TM C G Pc Fo Ch):=by
 obtain⟨_,_,cM⟩:=c1
 obtain⟨_,_,fG⟩:=c2
 obtain⟨_,_,dk⟩:=c3
 obtain⟨fc,_,ei⟩:=c4
 obtain⟨_,_,fu⟩:=c5
 obtain⟨fn,_,aJ⟩:=c6
 obtain⟨_,lK,lL⟩:=fG.b 0 (by decide)
 refine D.gW jf (fun vs H Q E h=>?_) (fun f bj A outer s H vs Q E hr h=>?_)
 ·obtain⟨x,rfl,_⟩:=h
  rfl
 ·obtain⟨x,rfl,hx,q,qM,qE,qL⟩:=h
  have big:(10000 :Nat)≤sizeLine:=by decide
  refine⟨_,(af
     (bE (sZ cM.ok (hr.mono (by decide)) rfl cM.g cM.kp cM.b .nil aU (aa (pv 0) ao)))
    (af
     (xf ⟨rfl,rfl⟩ (fun _ _=>
      (aq
       (aH (i:=1) jf.nd rfl (Or.inl rfl) (bO (fO fG.m fG.ok (hr.mono (by decide)) rfl T.nV lL lK aP (aa (pv 0) ao)) T.av dk.m dk.ok (hr.mono (by decide)) dk.b .nil nG)))) (fun _=>(Ds K rfl ⟨rfl,rfl⟩ (tf aU) (i:=2) rfl T.tL T.rD jf.nd rfl rfl (fun _=>
      (aq
       (vE K rfl rfl nG (Az rfl ei.z ei.ok (hr.mono (by decide)) rfl ei.g ei.kp ei.b (aa (nJ K rfl (pv 2) rfl) ao))))) (Ax (tf aU)))))
    (af
     (aH (i:=3) jf.nd rfl (Or.inl rfl) (au bo (bJ cX rfl T.gI dZ (aa (br (pv 1) rfl) ao)) (bJ cX rfl T.gI dZ (aa (br (pv 1) rfl) ao))))
    (af
     (bc (aA iB (pv 3) (a8 (v:= .int 8) rfl T.rP ⟨_,rfl⟩) (aE _))
      (aq
       (gF rfl aU (gE fu.z fu.ok (hr.mono (by decide)) rfl fu.g fu.kp fu.b (aa (pv 3) ao))))
      aK)
    (aq
     (az (pv 1))))))),?_⟩
  refine⟨_,rfl,x,rfl,hx,fun h4=>?_,qL⟩
  have q:=q h4
  have qM:=qM h4
  have qE:=qE h4
  refine⟨_,rfl,fun r dr nr Yi ZA=>⟨r,dr,x,rfl,ag,fun H1 du k1=>⟨rfl,?_⟩⟩⟩
  obtain⟨mn,du⟩:=du
  have s1:ay H H1:=fun b o z=>k1 b o (by rw[aj (ai z nr),aj (ai z Yi)];exact z) (ai z nr)
  have back:∀b,H1 b=none→H b=none:=fun b z=>by
   cases hh:H b with
   |none=>rfl
   |some o=>rw[s1 _ _ hh] at z;cases z
  refine⟨r,mn,_,rfl,du,aF _ _ (by decide+kernel) (by decide+kernel),r,x,rfl,⟨mn,du⟩,by omega,fun xs ys c H2 hG lx ly nc hC k2=>?_,fun e hB he b Wm H2 nb nd Dp hd2 k2=>?_⟩
  ·have Yj:=hC H2 fun b o _ z=>z
   obtain⟨dc,l,m,hc,⟨ps,hl,hP⟩,⟨us,hm,hU⟩⟩:=Yj
   have e1:=Paired.length hP
   have e2:=Paired.length hU
   have s2:ay H H2:=fun b o z=>k2 b o (s1 _ _ z) (ai z nr)
   dsimp only [dM]
   refine⟨_,rfl,c,Ch,dc,_,_,rfl,hc,T.cC,T.kK,iP _ _,l,_,rfl, .inl (cz.of hl),_,rfl,c,Ch,dc,_,_,rfl,hc,T.cC,T.je,ij _ _,m,_,rfl, .inl (cz.of hm),_,_,rfl,rfl,?_⟩
   rw[List.length_map,List.length_map,e1,e2]
   by_cases h8:8<xs.length+ys.length
   ·refine⟨_,rfl,_,_,rfl,rfl,_,rfl,cA (by omega) ⟨_,rfl,(by show 1≤100;decide),fun b hb=>?_⟩⟩
    refine⟨b,_,rfl,ag,by omega,by omega,fun jL H5 jv i9 yK uZ k5=>⟨rfl,b,TM,HE,_,some jL,rfl,fu.z,yK,?_⟩⟩
    rw[aj i9] at jv
    have ec:((xs.length:Nat):Int)+((ys.length:Nat):Int)=((xs.length+ys.length:Nat):Int):=by omega
    rw[ec] at uZ
    refine qM xs ys hG h8 b jL _ (s2.free hb) (s2.free jv) ag (by rw[aj i9];exact uZ) fun b' o z=>?_
    have vL:b'≠b:=ai (s2 _ _ z) hb
    rw[aj vL]
    exact k5 _ _ (by rw[aj vL];exact s2 _ _ z) vL
   ·refine⟨_,rfl,_,_,rfl,rfl,_,rfl,cu (by omega) ?_⟩
    exact⟨_,rfl,q xs ys c H2 hG (by omega) (back c nc) (fun cx ke=>hC cx fun b o z1 z2=>ke b o (back b z1) z2) s2⟩
  ·have s2:ay H H2:=fun b o z=>k2 b o (s1 _ _ z) (ai z nr)
   refine⟨NF,HE,fn,true,rfl,aJ.z,T.up,cq fun e' vy=>?_⟩
   refine⟨_,rfl,e',NF,HE,fn,Wm,_, .int (e:Int),rfl,aJ.z,T.DO,vy,hd2,rfl,(by show 1≤100;decide),fun b2 Ed=>?_⟩
   have ne2:b2≠e':=fun z=>by rw[z,vy] at Ed;cases Ed
   refine⟨b2,(e:Int),rfl,ag,by omega,by omega,fun jL H5 jv i9 yK uZ k5=>⟨rfl,b2,NC,HE,fc,some jL,NF,some Wm,rfl,ei.z,yK,T.lt,ne2,k5 _ _ (by rw[aj (Ne.symm ne2)];exact vy) (Ne.symm ne2),T.nl,?_⟩⟩
   rw[aj i9] at jv
   refine qE e hB he b2 jL _ (s2.free Ed) (s2.free jv) ag (by rw[aj i9];exact uZ) fun b' o z=>?_
   have vL:b'≠b2:=ai (s2 _ _ z) Ed
   rw[aj vL]
   exact k5 _ _ (by rw[aj vL];exact s2 _ _ z) vL
variable {κ:List Nat→Option (List Nat)}
inductive Nm where
 |start|Ct|part|dot|jT|minus|ba|stop
 deriving DecidableEq
structure S8 where
 nm:Nm
 sm:Nat
 fg:Nat
 al:Bool
def Cu(s:S8)(dp c:Nat):Option (S8×Nat):=if s.fg=3∨s.fg=0∧c=48 then none else some (⟨s.nm,0,s.fg+1,decide (s.fg=0)&&decide (c=49)⟩,dp)
def Ee(s:S8)(dp c:Nat):Option (S8×Nat):=if iy c=true then some (⟨.part,2,0,false⟩,dp) else if s.nm= .start∧c=101 then some (⟨.jT,0,0,false⟩,dp) else if s.nm= .part∧0<s.sm∧s.fg=0 then some (⟨.part,s.sm - 1,0,false⟩,dp) else none
def uo(m:Nm):Nat:=if m= .jT then 94 else if m= .minus then 45 else 43
def ik(s:S8)(dp c:Nat):Option (S8×Nat):=
 if d9 c=true∧(s.nm= .part∨s.nm= .dot∨s.nm= .ba) then Cu s dp c
 else if s.al=true∨s.nm= .stop then none
 else if s.nm= .jT∨s.nm= .minus∨s.nm= .ba then (if c=uo s.nm∨s.nm= .ba∧c=45 then some (⟨if s.nm= .jT then .minus else .stop,0,0,false⟩,dp) else none)
 else if iy c=true∨jq c=true then Ee s dp c
 else if c=40∧dp<4 then some (⟨.Ct,0,0,false⟩,dp+1)
 else if s.nm= .part∧c=41∧0<dp then some (⟨.part,0,0,false⟩,dp - 1)
 else if s.nm= .part∧(c=46∨c=94)∧dp=0 then some (⟨if c=46 then .dot else .ba,0,0,false⟩,dp)
 else none
def jU(s:S8)(dp:Nat):Prop:=s.nm= .stop∨s.nm= .part∧dp=0∧s.al=false
instance (s:S8) (dp:Nat):Decidable (jU s dp):=by unfold jU;infer_instance
def vd(κ:List Nat→Option (List Nat)):S8→Nat→List Nat→Option (List Nat)
 |s,dp,[]=>if jU s dp then κ [] else some []
 |s,dp,c::r=>if c=32∧jU s dp then κ (c::r) else match ik s dp c with
  |none=>some (c::r)
  |some (s',d')=>vd κ s' d' r
theorem Hu(s:S8)(dp:Nat):ik s dp 32=none:=by
 unfold ik
 rw[if_neg (fun z=>by cases z.1)]
 split
 ·rfl
 ·split
  ·rename_i h
   have:¬(32=uo s.nm∨s.nm= .ba∧32=45):=by
    rintro (z| ⟨_,z⟩)
    ·unfold uo at z
     split at z
     ·cases z
     ·split at z<;>cases z
    ·cases z
   rw[if_neg this]
  ·rw[if_neg (by decide),if_neg (fun z=>by cases z.1),if_neg (fun z=>by cases z.2.1),if_neg (fun z=>by rcases z.2.1 with y|y<;>cases y)]
theorem oq{s:S8}{dp c:Nat}{r:List Nat}(h:ik s dp c=none)(jy:c=32→¬jU s dp):vd κ s dp (c::r)=some (c::r):=by rw[vd,if_neg (fun z=>jy z.1 z.2),h]
theorem dW{s s':S8}{dp d' c:Nat}{r:List Nat}(h:ik s dp c=some (s',d')):vd κ s dp (c::r)=vd κ s' d' r:=by
 rw[vd,if_neg (fun z=>by rw[z.1,Hu] at h;cases h),h]
theorem rQ{s:S8}{dp:Nat}(h:¬jU s dp):vd κ s dp []=some []:=by rw[vd,if_neg h]
theorem ou{s:S8}{dp:Nat}(h1:s.nm≠ .stop)(h2:s.nm≠ .part∨s.al=true∨dp≠0):¬jU s dp:=by
 rintro (z| ⟨z1,z2,z3⟩)
 ·exact h1 z
 ·rcases h2 with y|y|y
  ·exact y z1
  ·rw[y] at z3;cases z3
  ·exact y z2
theorem kL{c:Nat}(h:d9 c=true):iy c=false∧jq c=false∧c≠40∧c≠41∧c≠46∧c≠94∧c≠45∧c≠43∧c≠101:=by
 simp only [d9,iy,jq,Bool.and_eq_true,decide_eq_true_eq,Bool.and_eq_false_iff,decide_eq_false_iff_not] at*
 omega
theorem K5{c:Nat}(h:iy c=true):d9 c=false∧jq c=false∧c≠40:=by
 simp only [d9,iy,jq,Bool.and_eq_true,decide_eq_true_eq,Bool.and_eq_false_iff,decide_eq_false_iff_not] at*
 omega
theorem Bt{c:Nat}(h:jq c=true):d9 c=false∧iy c=false∧c≠40:=by
 simp only [d9,iy,jq,Bool.and_eq_true,decide_eq_true_eq,Bool.and_eq_false_iff,decide_eq_false_iff_not] at*
 omega
theorem Ef{s:S8}{dp:Nat}(hn:s.nm= .part∨s.nm= .dot∨s.nm= .ba):∀(w v:List Nat),w.all d9=true→s.fg+w.length≤3→(s.fg=0→w.head? ≠some 48)→w≠[]→
  vd κ s dp (w++v)=vd κ ⟨s.nm,0,s.fg+w.length,decide (s.fg=0)&&decide (w=[49])⟩ dp v:=by
 intro w
 induction w generalizing s with
 |nil=>intro _ _ _ _ h;exact absurd rfl h
 |cons c r ih=>
  intro v ha hl h0 _
  rw[List.all_cons,Bool.and_eq_true] at ha
  rw[List.length_cons] at hl
  have e:ik s dp c=some (⟨s.nm,0,s.fg+1,decide (s.fg=0)&&decide (c=49)⟩,dp):=by
   unfold ik Cu
   rw[if_pos ⟨ha.1,hn⟩,if_neg]
   rintro (z| ⟨z1,z2⟩)
   ·omega
   ·exact h0 z1 (by rw[z2];rfl)
  rw[List.cons_append,dW e]
  cases r with
  |nil=>
   have:(decide ([c]=[49]):Bool)=decide (c=49):=by simp
   rw[this]
   rfl
  |cons b t=>
   rw[ih (s:=⟨s.nm,0,s.fg+1,decide (s.fg=0)&&decide (c=49)⟩) hn v ha.2 (by show s.fg+1+(b::t).length≤3;omega) (fun z=>absurd z (Nat.succ_ne_zero _)) (by simp)]
   show vd κ ⟨s.nm,0,s.fg+1+(b::t).length,decide (s.fg+1=0)&&_⟩ dp v=_
   have e1:(decide (s.fg+1=0):Bool)=false:=by simp
   have e2:(decide (c::b::t=[49]):Bool)=false:=by simp
   rw[e1,e2,Bool.and_false,Bool.false_and,List.length_cons (a:=c)]
   rw[show s.fg+1+(b::t).length=s.fg+((b::t).length+1) by omega]
def Ru(s:S8)(v:List Nat):Prop:=∀c,v.head? =some c→d9 c=true→s.fg=3
theorem lM{s:S8}{dp:Nat}(hn:s.nm= .part∨s.nm= .dot∨s.nm= .ba)(hf:s.fg=0)(ha:s.al=false){u v:List Nat}{n:Int}(h:kD 3 u n v):∃s',vd κ s dp u=vd κ s' dp v∧s'.nm=s.nm∧s'.al=false∧Ru s' v∧(s'=s∧u=v∨s'.fg≠0):=by
 obtain⟨e,n1,n2,hl,hv⟩:=h
 obtain⟨m,rfl,m1,m0⟩:=nQ n1 (by omega)
 by_cases hw:bw (m:Int)=[]
 ·rw[hw] at e hl hv
  refine⟨s,by rw[e];rfl,rfl,ha,fun c hc hF=>?_, .inl ⟨rfl,e⟩⟩
  rcases hv with z|z
  ·rw[z c hc] at hF;cases hF
  ·cases z
 ·have K6:=rm m
  have e2:=Ef (κ:=κ) (s:=s) (dp:=dp) hn (bw (m:Int)) v (fU m) (by omega) (fun _=>nO m m0) hw
  refine⟨⟨s.nm,0,s.fg+(bw (m:Int)).length,false⟩,?_,rfl,rfl,fun c hc hF=>?_, .inr ?_⟩
  ·rw[e,e2]
   have:(decide (bw (m:Int)=[49]):Bool)=false:=by simpa using K6
   rw[this,Bool.and_false]
  ·rcases hv with z|z
   ·rw[z c hc] at hF;cases hF
   ·show s.fg+(bw (m:Int)).length=3
    omega
  ·show s.fg+(bw (m:Int)).length≠0
   have:(bw (m:Int)).length≠0:=fun z=>hw (List.length_eq_zero_iff.mp z)
   omega
theorem mU{s:S8}{dp:Nat}(hn:s.nm= .part∨s.nm= .dot∨s.nm= .ba)(hf:s.fg=0){u v:List Nat}(h:rC u v):vd κ s dp u=some v:=by
 rcases h with ⟨rfl,h⟩ | ⟨rfl,h⟩
 ·cases v with
  |nil=>cases h
  |cons c r=>
   have:c=48:=by simpa using h
   subst this
   refine oq ?_ (fun z=>by cases z)
   unfold ik Cu
   rw[if_pos ⟨rfl,hn⟩,if_pos (.inr ⟨hf,rfl⟩)]
 ·have e:ik s dp 49=some (⟨s.nm,0,1,true⟩,dp):=by
   unfold ik Cu
   rw[if_pos ⟨rfl,hn⟩,if_neg (by rw[hf];decide),hf]
   rfl
  rw[dW e]
  cases v with
  |nil=>
   refine rQ ?_
   rintro (z| ⟨_,_,z⟩)
   ·rcases hn with n|n|n<;>(have z:s.nm= .stop:=z;rw[n] at z;cases z)
   ·cases z
  |cons c r=>
   refine oq ?_ (fun _=>ou (by show s.nm≠ .stop;rcases hn with n|n|n<;>(rw[n];decide)) (.inr (.inl rfl)))
   unfold ik
   rw[if_neg (fun z=>by rw[h c rfl] at z;cases z.1),if_pos (.inl rfl)]
def zG(s:S8)(v:List Nat):Prop:=s.nm= .part∧s.al=false∧Ru s v∧∀c,v.head? =some c→jq c=true→s.sm=0∨s.fg≠0
def iw(s:S8)(u:List Nat):Prop:=s.al=false∧(s.nm= .start∧u.head? ≠some 101∨s.nm= .Ct∨s.nm= .dot∧Ru s u∨s.nm= .part∧More u)
theorem iw.nm{s:S8}{u:List Nat}(h:iw s u):s.nm≠ .stop∧s.nm≠ .jT∧s.nm≠ .minus∧s.nm≠ .ba:=by
 rcases h.2 with z|z|z|z
 ·rw[z.1];decide
 ·rw[z];decide
 ·rw[z.1];decide
 ·rw[z.1];decide
theorem ze{s:S8}{dp c:Nat}{r:List Nat}(h:iw s (c::r))(hg:iy c=true):ik s dp c=some (⟨.part,2,0,false⟩,dp):=by
 obtain⟨n1,n2,n3,n4⟩:=h.nm
 have ha:=h.1
 unfold ik Ee
 rw[if_neg (fun z=>by rw[(K5 hg).1] at z;cases z.1),if_neg (fun z=>by rcases z with z|z;rw[ha] at z;cases z;exact n1 z),if_neg (fun z=>by rcases z with z|z|z;exact n2 z;exact n3 z;exact n4 z),if_pos (.inl hg),if_pos hg]
theorem zf{sm dp c:Nat}(h:jq c=true):ik ⟨.part,sm+1,0,false⟩ dp c=some (⟨.part,sm,0,false⟩,dp):=by
 unfold ik Ee
 rw[if_neg (fun z=>by rw[(Bt h).1] at z;cases z.1),if_neg (by simp),if_neg (by simp),if_pos (.inr h),if_neg (by rw[(Bt h).2.1];simp),if_neg (by simp),if_pos ⟨rfl,Nat.succ_pos _,rfl⟩]
 rfl
theorem p8:∀(w v:List Nat) (sm dp:Nat),w.all jq=true→vd κ ⟨.part,sm+w.length,0,false⟩ dp (w++v)=vd κ ⟨.part,sm,0,false⟩ dp v
 | [],v,sm,dp,_=>rfl
 |c::r,v,sm,dp,h=>by
  rw[List.all_cons,Bool.and_eq_true] at h
  rw[List.length_cons,←Nat.add_assoc,List.cons_append,dW (zf h.1),p8 r v sm dp h.2]
theorem xO{s:S8}{dp:Nat}{k w:List Nat}(h:iw s (k++w))(hk:tF k):vd κ s dp (k++w)=vd κ ⟨.part,3 - k.length,0,false⟩ dp w:=by
 obtain⟨c,r,rfl,hg,hs,hl⟩:=hk
 rw[List.cons_append] at h ⊢
 rw[dW (ze h hg)]
 have:=p8 (κ:=κ) r w (2 - r.length) dp hs
 rw[show 2 - r.length+r.length=2 by omega] at this
 rw[this,List.length_cons]
 rw[show 3 - (r.length+1)=2 - r.length by omega]
theorem uq{s:S8}{dp:Nat}{u k v:List Nat}{n:Int}(h:iw s u)(a:lX u k n v):∃s',vd κ s dp u=vd κ s' dp v∧zG s' v:=by
 obtain⟨w,rfl,hk,hs,hN⟩:=a
 rw[xO h hk]
 obtain⟨s',e,h1,h2,h3,h4⟩:=lM (κ:=κ) (s:=⟨.part,3 - k.length,0,false⟩) (dp:=dp) (.inl rfl) rfl rfl hN
 refine⟨s',e,h1,h2,h3,fun c hc hS=>?_⟩
 rcases h4 with ⟨rfl,rfl⟩ |z
 ·rcases hs with z|z
  ·left
   show 3 - k.length=0
   omega
  ·rw[z c hc] at hS;cases hS
 ·exact .inr z
theorem ur{s:S8}{dp:Nat}{u v:List Nat}(h:iw s u)(h4:dp=4∨u.head? ≠some 40)(a:xx u v):vd κ s dp u=some v:=by
 rcases a with ⟨rfl,a⟩ | ⟨k,w,rfl,hk,hs,hN⟩
 ·obtain⟨n1,n2,n3,n4⟩:=h.nm
  have ha:=h.1
  cases v with
  |nil=>
   refine rQ ?_
   rintro (z| ⟨z,_⟩)
   ·exact n1 z
   ·rcases h.2 with y|y|y|y
    ·rw[y.1] at z;cases z
    ·rw[y] at z;cases z
    ·rw[y.1] at z;cases z
    ·obtain⟨c,hc,_⟩:=y.2;cases hc
  |cons c r=>
   refine oq ?_ (fun jy=>ou n1 ?_)
   rotate_left
   ·rcases h.2 with y|y|y|y
    ·exact .inl (by rw[y.1];decide)
    ·exact .inl (by rw[y];decide)
    ·exact .inl (by rw[y.1];decide)
    ·obtain⟨b,hb,uY⟩:=y.2
     have:c=b:=by simpa using hb
     subst this
     subst jy
     rcases uY with z|z<;>cases z
   have hg:iy c=false:=a c rfl
   unfold ik
   by_cases hF:d9 c=true
   ·by_cases hp:s.nm= .part∨s.nm= .dot∨s.nm= .ba
    ·rw[if_pos ⟨hF,hp⟩]
     unfold Cu
     rcases h.2 with y|y|y|y
     ·rw[y.1] at hp;rcases hp with z|z|z<;>cases z
     ·rw[y] at hp;rcases hp with z|z|z<;>cases z
     ·rw[if_pos (.inl (y.2 c rfl hF))]
     ·obtain⟨b,hb,uY⟩:=y.2
      have:c=b:=by simpa using hb
      subst this
      rcases uY with z|z
      ·rw[hg] at z;cases z
      ·exact absurd z (kL hF).2.2.1
    ·rw[if_neg (fun z=>hp z.2),if_neg (fun z=>by rcases z with z|z;rw[ha] at z;cases z;exact n1 z),if_neg (fun z=>by rcases z with z|z|z;exact n2 z;exact n3 z;exact n4 z),if_neg (by rw[hg,(kL hF).2.1];simp),if_neg (fun z=>(kL hF).2.2.1 z.1),if_neg (fun z=>(kL hF).2.2.2.1 z.2.1),if_neg (fun z=>by rcases z.2.1 with y|y;exact(kL hF).2.2.2.2.1 y;exact(kL hF).2.2.2.2.2.1 y)]
   ·rw[if_neg (fun z=>hF z.1),if_neg (fun z=>by rcases z with z|z;rw[ha] at z;cases z;exact n1 z),if_neg (fun z=>by rcases z with z|z|z;exact n2 z;exact n3 z;exact n4 z)]
    have K7:c≠40→s.nm≠ .part:=fun jW hp=>by
     rcases h.2 with y|y|y|y
     ·rw[y.1] at hp;cases hp
     ·rw[y] at hp;cases hp
     ·rw[y.1] at hp;cases hp
     ·obtain⟨b,hb,uY⟩:=y.2
      have:c=b:=by simpa using hb
      subst this
      rcases uY with z|z
      ·rw[hg] at z;cases z
      ·exact jW z
    by_cases hS:jq c=true
    ·rw[if_pos (.inr hS)]
     unfold Ee
     have hp:=K7 (Bt hS).2.2
     rw[if_neg (by rw[hg];simp),if_neg,if_neg (fun z=>hp z.1)]
     rintro ⟨z1,z2⟩
     rcases h.2 with y|y|y|y
     ·exact y.2 (by rw[z2];rfl)
     ·rw[y] at z1;cases z1
     ·rw[y.1] at z1;cases z1
     ·rw[y.1] at z1;cases z1
    ·rw[if_neg (by rw[hg];rintro (z|z);cases z;exact hS z)]
     by_cases jW:c=40
     ·subst jW
      have d4:dp=4:=h4.elim id fun z=>absurd rfl z
      rw[if_neg (fun z=>by omega),if_neg (fun z=>by cases z.2.1),if_neg (fun z=>by rcases z.2.1 with y|y<;>cases y)]
     ·have hp:=K7 jW
      rw[if_neg (fun z=>jW z.1),if_neg (fun z=>hp z.1),if_neg (fun z=>hp z.1)]
 ·rw[xO h hk]
  exact mU (.inl rfl) rfl hN
theorem zG.exp{s:S8}{v:List Nat}(h:zG s v)(m:More v):iw s v:=⟨h.2.1, .inr (.inr (.inr ⟨h.1,m⟩))⟩
theorem p9{p:List Nat→Tr→List Nat→Prop}{dp:Nat}(hp:∀s u t v,iw s u→p u t v→∃s',vd κ s dp u=vd κ s' dp v∧zG s' v){s:S8}{u:List Nat}(h:iw s u):∀{ts:List Tr} {v:List Nat},Sq p u ts v→∃s',vd κ s dp u=vd κ s' dp v∧zG s' v:=by
 intro ts v q
 induction q with
 |one t v a=>exact hp s u t v h a
 |snoc ts w t v _ m a ih=>
  obtain⟨s',e,c⟩:=ih
  obtain⟨s2,e2,c2⟩:=hp s' w t v (c.exp m) a
  exact⟨s2,e.trans e2,c2⟩
theorem wd{p:List Nat→Tr→List Nat→Prop}{b:List Nat→List Nat→Prop}{dp:Nat}(hp:∀s u t v,iw s u→p u t v→∃s',vd κ s dp u=vd κ s' dp v∧zG s' v)(hb:∀s u v,iw s u→b u v→vd κ s dp u=some v){s:S8}{u v:List Nat}(h:iw s u)(q:IX p b u v):vd κ s dp u=some v:=by
 rcases q with q| ⟨ts,w,q,m,a⟩
 ·exact hb s u v h q
 ·obtain⟨s',e,c⟩:=p9 hp h q
  rw[e]
  exact hb s' w v (c.exp m) a
theorem uu{s:S8}{dp:Nat}{r:List Nat}(h:iw s (40::r))(hd:dp<4):ik s dp 40=some (⟨.Ct,0,0,false⟩,dp+1):=by
 obtain⟨n1,n2,n3,n4⟩:=h.nm
 have ha:=h.1
 unfold ik
 rw[if_neg (fun z=>by cases z.1),if_neg (fun z=>by rcases z with z|z;rw[ha] at z;cases z;exact n1 z),if_neg (fun z=>by rcases z with z|z|z;exact n2 z;exact n3 z;exact n4 z),if_neg (by decide),if_pos ⟨rfl,hd⟩]
theorem uv{s:S8}{dp:Nat}{r:List Nat}(h:zG s (41::r)):ik s (dp+1) 41=some (⟨.part,0,0,false⟩,dp):=by
 obtain⟨hn,ha,_⟩:=h
 unfold ik
 rw[if_neg (fun z=>by cases z.1),if_neg (by rw[ha,hn];decide),if_neg (by rw[hn];decide),if_neg (by decide),if_neg (fun z=>by cases z.1),if_pos ⟨hn,rfl,Nat.succ_pos _⟩]
 rfl
theorem zG.no{s:S8}{dp c:Nat}{r:List Nat}(h:zG s (c::r))(hm:¬More (c::r))(tQ:c=41→dp=0)(h0:c=46∨c=94→dp≠0):ik s dp c=none:=by
 obtain⟨hn,ha,hF,hS⟩:=h
 have hg:iy c=false:=by
  cases e:iy c with
  |false=>rfl
  |true=>exact absurd ⟨c,rfl, .inl e⟩ hm
 have jW:c≠40:=fun z=>hm ⟨c,rfl, .inr z⟩
 unfold ik
 by_cases f:d9 c=true
 ·rw[if_pos ⟨f, .inl hn⟩]
  unfold Cu
  rw[if_pos (.inl (hF c rfl f))]
 ·rw[if_neg (fun z=>f z.1),if_neg (by rw[ha,hn];decide),if_neg (by rw[hn];decide)]
  by_cases hs:jq c=true
  ·rw[if_pos (.inr hs)]
   unfold Ee
   rw[if_neg (by rw[hg];simp),if_neg (by rw[hn];rintro ⟨z,_⟩;cases z),if_neg]
   rintro ⟨_,z1,z2⟩
   rcases hS c rfl hs with z|z
   ·omega
   ·exact z z2
  ·rw[if_neg (by rw[hg];rintro (z|z);cases z;exact hs z),if_neg (fun z=>jW z.1),if_neg (fun z=>by have:=tQ z.2.1;omega),if_neg (fun z=>h0 z.2.1 z.2.2)]
theorem rR:∀(d dp:Nat),dp+d=4→(∀s u t v,iw s u→oE d u t v→∃s',vd κ s dp u=vd κ s' dp v∧zG s' v)∧(∀s u v,iw s u→G6 d u v→vd κ s dp u=some v)
 |0,dp,hd=>⟨fun s u t v h ⟨k,n,_,a⟩=>uq h a,fun s u v h a=>ur h (.inl hd) a⟩
 |d+1,dp,hd=>by
  obtain⟨hG,hB⟩:=rR d (dp+1) (by omega)
  have e0:∀u':List Nat,iw ⟨.Ct,0,0,false⟩ u':=fun u'=>⟨rfl, .inr (.inl rfl)⟩
  refine⟨fun s u t v h a=>?_,fun s u v h a=>?_⟩
  ·rcases a with ⟨_,k,n,_,a⟩ | ⟨u',ts,n,w,rfl,rfl,⟨q,_⟩,hN⟩
   ·exact uq h a
   ·obtain⟨s',e,c⟩:=p9 hG (e0 u') q
    obtain⟨s2,e2,h1,h2,h3,h4⟩:=lM (κ:=κ) (s:=⟨.part,0,0,false⟩) (dp:=dp) (.inl rfl) rfl rfl hN
    refine⟨s2,by rw[dW (uu h (by omega)),e,dW (uv c),e2],h1,h2,h3,fun b hb hS=>?_⟩
    rcases h4 with ⟨z,_⟩ |z
    ·rw[z];exact .inl rfl
    ·exact .inr z
  ·rcases a with ⟨jW,a⟩ | ⟨u',rfl,a⟩
   ·exact ur h (.inr jW) a
   ·rw[dW (uu h (by omega))]
    rcases a with a| ⟨ts,⟨q,hm⟩,tQ⟩ | ⟨ts,w,⟨q,_⟩,hN⟩
    ·exact wd hG hB (e0 u') a
    ·obtain⟨s',e,c⟩:=p9 hG (e0 u') q
     rw[e]
     cases v with
     |nil=>
      refine rQ ?_
      rintro (z| ⟨_,z,_⟩)
      ·rw[c.1] at z;cases z
      ·omega
     |cons b r=>exact oq (c.no hm (fun z=>absurd (by rw[z];rfl) tQ) fun _=>Nat.succ_ne_zero _) (fun _=>ou (by rw[c.1];decide) (.inr (.inr (Nat.succ_ne_zero _))))
    ·obtain⟨s',e,c⟩:=p9 hG (e0 u') q
     rw[e,dW (uv c)]
     exact mU (.inl rfl) rfl hN
theorem mV{s:S8}{c:Nat}{r:List Nat}(h:zG s (c::r))(hc:c=46∨c=94):ik s 0 c=some (⟨if c=46 then .dot else .ba,0,0,false⟩,0):=by
 obtain⟨hn,ha,_⟩:=h
 have h1:d9 c=false∧iy c=false∧jq c=false∧c≠40∧c≠41:=by rcases hc with rfl|rfl<;>decide
 unfold ik
 rw[if_neg (fun z=>by rw[h1.1] at z;cases z.1),if_neg (by rw[ha,hn];decide),if_neg (by rw[hn];decide),if_neg (by rw[h1.2.1,h1.2.2.1];simp),if_neg (fun z=>h1.2.2.2.1 z.1),if_neg (fun z=>h1.2.2.2.2 z.2.1),if_pos ⟨hn,hc,rfl⟩]
theorem we{s:S8}{u:List Nat}(h:iw s u):∀{ps:List gO} {v:List Nat},Cq u ps v→(∃s',vd κ s 0 u=vd κ s' 0 v∧zG s' v)∧¬More v:=by
 obtain⟨hG,hB⟩:=rR (κ:=κ) 4 0 rfl
 intro ps v q
 induction q with
 |one ts v a=>exact⟨p9 hG h a.1,a.2⟩
 |snoc ps w m w1 ts v _ n a ih=>
  obtain⟨⟨s',e,c⟩,_⟩:=ih
  obtain⟨s2,e2,h1,h2,h3,_⟩:=lM (κ:=κ) (s:=⟨.dot,0,0,false⟩) (dp:=0) (.inr (.inl rfl)) rfl rfl n
  obtain⟨s3,e3,c3⟩:=p9 hG (s:=s2) ⟨h2, .inr (.inr (.inl ⟨h1,h3⟩))⟩ a.1
  exact⟨⟨s3,by rw[e,dW (mV c (.inl rfl))];exact e2.trans e3,c3⟩,a.2⟩
def xP:S8:=⟨.start,0,0,false⟩
theorem Hv:∀v:List Nat,vd κ xP 0 (101::v)=vd κ ⟨.jT,0,0,false⟩ 0 v:=fun _=>dW rfl
def cont(κ:List Nat→Option (List Nat))(v:List Nat):Option (List Nat):=if v=[]∨v.head? =some 32 then κ v else some v
theorem wg{s:S8}{v:List Nat}(ha:jU s 0)(hn:∀c r,v=c::r→c≠32→ik s 0 c=none):vd κ s 0 v=cont κ v:=by
 unfold cont
 cases v with
 |nil=>rw[vd,if_pos ha,if_pos (.inl rfl)]
 |cons c r=>
  by_cases h:c=32
  ·subst h
   rw[vd,if_pos ⟨rfl,ha⟩,if_pos (.inr rfl)]
  ·rw[oq (hn c r rfl h) (fun z=>absurd z h),if_neg]
   rintro (z|z)
   ·cases z
   ·exact h (by simpa using z)
theorem Bu{u v:List Nat}{xs:List gO}{n:Int}(h:E9 u xs n v):vd κ xP 0 u=cont κ v:=by
 rcases h with ⟨rfl,_⟩ | ⟨h0,w,q,DL,c⟩
 ·rw[Hv,dW (s':=⟨.minus,0,0,false⟩) (d':=0) rfl,dW (s':=⟨.stop,0,0,false⟩) (d':=0) rfl]
  refine wg (.inl rfl) fun c r _ _=>?_
  unfold ik
  rw[if_neg (by rintro ⟨_,z|z|z⟩<;>cases z),if_pos (.inr rfl)]
 ·obtain⟨⟨s',e,cl⟩,hm⟩:=we (κ:=κ) (s:=xP) ⟨rfl, .inl ⟨rfl,h0⟩⟩ q
  rw[e]
  rcases c with ⟨Yk,_,rfl⟩ | ⟨u',m,w2,rfl,hN,hs⟩
  ·refine wg (.inr ⟨cl.1,rfl,cl.2.1⟩) fun b r hv _=>?_
   subst hv
   exact cl.no hm (fun _=>rfl) fun z=>by
    rcases z with z|z
    ·exact absurd (by rw[z];rfl) DL
    ·exact absurd (by rw[z];rfl) Yk
  ·obtain⟨s2,e2,h1,h2,h3,_⟩:=lM (κ:=κ) (s:=⟨.ba,0,0,false⟩) (dp:=0) (.inr (.inr rfl)) rfl rfl hN
   rw[dW (mV cl (.inr rfl))]
   show vd κ ⟨.ba,0,0,false⟩ 0 u'=_
   rw[e2]
   have hs:∃b,w2=b::v∧(b=45∨b=43):=by
    rcases hs with ⟨z,_⟩ | ⟨z,_⟩
    ·exact⟨_,z, .inl rfl⟩
    ·exact⟨_,z, .inr rfl⟩
   obtain⟨b,rfl,hb⟩:=hs
   have hn:s2.nm= .ba:=h1
   have en:ik s2 0 b=some (⟨.stop,0,0,false⟩,0):=by
    unfold ik
    rw[if_neg (by rcases hb with rfl|rfl<;>(rintro ⟨z,_⟩;cases z)),if_neg (by rw[h2,hn];decide),if_pos (.inr (.inr hn)),hn,if_pos (by rcases hb with rfl|rfl;exact .inr ⟨rfl,rfl⟩;exact .inl rfl)]
    rfl
   rw[dW en]
   refine wg (.inl rfl) fun c r _ _=>?_
   unfold ik
   rw[if_neg (by rintro ⟨_,z|z|z⟩<;>cases z),if_pos (.inr rfl)]
theorem Bv{u v:List Nat}(h:Kv u v):vd κ xP 0 u=some v:=by
 have ro:∀(m:Nm) (c:Nat) (r:List Nat),(m= .jT∧c≠94∨m= .minus∧c≠45)→vd κ ⟨m,0,0,false⟩ 0 (c::r)=some (c::r):=fun m c r hh=>by
  refine oq ?_ (fun _=>by rcases hh with ⟨rfl,_⟩ | ⟨rfl,_⟩<;>exact ou (by decide) (.inl (by decide)))
  unfold ik
  rcases hh with ⟨rfl,z⟩ | ⟨rfl,z⟩
  ·rw[if_neg (by rintro ⟨_,z|z|z⟩<;>cases z),if_neg (by decide),if_pos (.inl rfl),if_neg (by rintro (y| ⟨y,_⟩);exact z y;cases y)]
  ·rw[if_neg (by rintro ⟨_,z|z|z⟩<;>cases z),if_neg (by decide),if_pos (.inr (.inl rfl)),if_neg (by rintro (y| ⟨y,_⟩);exact z y;cases y)]
 rcases h with h| ⟨h0,h⟩
 ·rcases h with ⟨rfl,h⟩ | ⟨rfl,h⟩
  ·rw[Hv]
   cases v with
   |nil=>rfl
   |cons c r=>exact ro _ _ _ (.inl ⟨rfl,fun z=>h (by rw[z];rfl)⟩)
  ·rw[Hv,dW (s':=⟨.minus,0,0,false⟩) (d':=0) rfl]
   cases v with
   |nil=>rfl
   |cons c r=>exact ro _ _ _ (.inr ⟨rfl,fun z=>h (by rw[z];rfl)⟩)
 ·obtain⟨hG,hB⟩:=rR (κ:=κ) 4 0 rfl
  have ex:iw xP u:=⟨rfl, .inl ⟨rfl,h0⟩⟩
  rcases h with h| ⟨ps,w,q,h⟩ | ⟨ps,w,q,DL,h⟩
  ·exact wd hG hB ex h
  ·obtain⟨⟨s',e,cl⟩,_⟩:=we (κ:=κ) ex q
   rw[e,dW (mV cl (.inl rfl))]
   show vd κ ⟨.dot,0,0,false⟩ 0 w=_
   rcases h with h| ⟨m,w1,n,h⟩
   ·exact mU (.inr (.inl rfl)) rfl h
   ·obtain⟨s2,e2,h1,h2,h3,_⟩:=lM (κ:=κ) (s:=⟨.dot,0,0,false⟩) (dp:=0) (.inr (.inl rfl)) rfl rfl n
    rw[e2]
    exact wd hG hB ⟨h2, .inr (.inr (.inl ⟨h1,h3⟩))⟩ h
  ·obtain⟨⟨s',e,cl⟩,_⟩:=we (κ:=κ) ex q
   obtain⟨u',rfl,h⟩:=h
   rw[e,dW (mV cl (.inr rfl))]
   show vd κ ⟨.ba,0,0,false⟩ 0 u'=_
   rcases h with h| ⟨m,n,oP,Ky⟩
   ·exact mU (.inr (.inr rfl)) rfl h
   ·obtain⟨s2,e2,h1,h2,h3,_⟩:=lM (κ:=κ) (s:=⟨.ba,0,0,false⟩) (dp:=0) (.inr (.inr rfl)) rfl rfl n
    have hn:s2.nm= .ba:=h1
    rw[e2]
    cases v with
    |nil=>
     refine rQ ?_
     rintro (z| ⟨z,_⟩)<;>(rw[hn] at z;cases z)
    |cons c r=>
     refine oq ?_ (fun _=>ou (by rw[hn];decide) (.inl (by rw[hn];decide)))
     unfold ik
     by_cases f:d9 c=true
     ·rw[if_pos ⟨f, .inr (.inr hn)⟩]
      unfold Cu
      rw[if_pos (.inl (h3 c rfl f))]
     ·rw[if_neg (fun z=>f z.1),if_neg (by rw[h2,hn];decide),if_pos (.inr (.inr hn)),hn,if_neg]
      rintro (z| ⟨_,z⟩)
      ·exact Ky (by rw[show c=43 from z];rfl)
      ·exact oP (by rw[z];rfl)
inductive N5 where
 |term|start|Ct|part|dot|jT|minus|ba|stop|count|gap|plus|dash|head
 deriving DecidableEq
structure S5 where
 nm:N5
 sm:Nat
 fg:Nat
 al:Bool
def zg(m:N5)(fg c most:Nat):Option S5:=if fg=most∨fg=0∧c=48 then none else some ⟨m,0,fg+1,decide (fg=0)&&decide (c=49)⟩
def Fi(s:S5)(c:Nat):Option S5:=if iy c=true then some ⟨.part,2,0,false⟩ else if (s.nm= .term∨s.nm= .start)∧c=101 then some ⟨.jT,0,0,false⟩ else if s.nm= .part∧0<s.sm∧s.fg=0 then some ⟨.part,s.sm - 1,0,false⟩ else none
def wj:N5→Nat
 | .jT=>94| .minus=>45| .plus=>32| .dash=>62| .head=>32| .count=>32| .gap=>43|_=>0
def Cv:N5→N5
 | .jT=> .minus| .minus=> .stop| .plus=> .term| .dash=> .head| .head=> .term| .count=> .start|_=> .plus
def wk(m:N5)(rt:Bool)(c:Nat):Option S5:=
 if m= .ba∧(c=43∨c=45) then some ⟨.stop,0,0,false⟩
 else if m= .gap∧c=45∧rt=false then some ⟨.dash,0,0,false⟩
 else if m≠ .ba∧c=wj m then some ⟨Cv m,0,0,false⟩ else none
def qa(s:S5)(dp:Nat):Prop:=s.nm= .stop∨s.nm= .part∧dp=0∧s.al=false
instance (s:S5) (dp:Nat):Decidable (qa s dp):=by unfold qa;infer_instance
def qb(m:N5):Prop:=m= .ba∨m= .jT∨m= .minus∨m= .plus∨m= .dash∨m= .head∨m= .count∨m= .gap
instance (m:N5):Decidable (qb m):=by unfold qb;infer_instance
def jr(s:S5)(dp:Nat)(rt:Bool)(c:Nat):Option S5:=
 if d9 c=true then
  (if s.nm= .term then zg .count 0 c 12
  else if s.nm= .part∨s.nm= .dot∨s.nm= .ba∨s.nm= .count then zg s.nm s.fg c (if s.nm= .count then 12 else 3) else none)
 else if s.al=true then none
 else if qb s.nm then wk s.nm rt c
 else if c=32∧qa s dp then some ⟨.gap,0,0,false⟩
 else if s.nm= .stop then none
 else if iy c=true∨jq c=true then Fi s c
 else if c=40∧dp<4 then some ⟨.Ct,0,0,false⟩
 else if s.nm= .part∧c=41∧0<dp then some ⟨.part,0,0,false⟩
 else if s.nm= .part∧(c=46∨c=94)∧dp=0 then some ⟨if c=46 then .dot else .ba,0,0,false⟩
 else none
def wm(dp c:Nat):Nat:=dp+(if c=40 then 1 else 0) - (if c=41 then 1 else 0)
def dI:S5→Nat→Bool→List Nat→Option (List Nat)
 |s,dp,rt,[]=>if rt=true∧qa s dp then none else some []
 |s,dp,rt,c::r=>match jr s dp (rt||decide (s.nm= .head)) c with
  |none=>some (c::r)
  |some s'=>dI s' (wm dp c) (rt||decide (s.nm= .head)) r
theorem lN{s:S5}{dp c:Nat}{rt:Bool}{r:List Nat}(h:jr s dp (rt||decide (s.nm= .head)) c=none):dI s dp rt (c::r)=some (c::r):=by rw[dI,h]
theorem fH{s s':S5}{dp c:Nat}{rt:Bool}{r:List Nat}(h:jr s dp (rt||decide (s.nm= .head)) c=some s'):dI s dp rt (c::r)=dI s' (wm dp c) (rt||decide (s.nm= .head)) r:=by rw[dI,h]
def zH:Nm→N5
 | .start=> .start| .Ct=> .Ct| .part=> .part| .dot=> .dot| .jT=> .jT| .minus=> .minus| .ba=> .ba| .stop=> .stop
def up(s:S8):S5:=⟨zH s.nm,s.sm,s.fg,s.al⟩
theorem Fj{s:S8}{dp:Nat}:qa (up s) dp↔jU s dp:=by
 unfold qa jU up
 cases s.nm<;>simp [zH]
theorem K8(s:S8)(dp:Nat)(rt:Bool)(c:Nat)(hs:s.nm= .stop→s.al=false):jr (up s) dp rt c=if c=32∧jU s dp then some ⟨.gap,0,0,false⟩ else (ik s dp c).map fun p=>up p.1:=by
 obtain⟨nm,sm,fg,al⟩:=s
 by_cases hF:d9 c=true
 ·have hn:=kL hF
  have jy:c≠32:=fun z=>by rw[z] at hF;cases hF
  rw[if_neg (fun z=>jy z.1)]
  unfold jr
  rw[if_pos hF]
  unfold ik Cu zg Ee
  cases nm<;>cases al<;>simp [up,zH,hF,hn,uo]<;>(try (split<;>simp_all [up,zH]<;>(try rfl)))
 ·unfold jr
  rw[if_neg hF]
  unfold ik Ee Fi wk
  by_cases jy:c=32
  ·subst jy
   cases nm<;>cases al<;>simp [up,zH,uo,qb,wj,Cv,qa,jU,iy,jq,d9] at hs ⊢<;>(try (split<;>simp_all [up,zH]))
  ·cases nm<;>cases al<;>simp [up,zH,hF,jy,uo,qb,wj,Cv,qa,jU]
   all_goals (try (repeat' split)<;>simp_all [up,zH])
theorem K9{s s':S8}{dp d' c:Nat}(h:ik s dp c=some (s',d')):d'=wm dp c:=by
 obtain⟨nm,sm,fg,al⟩:=s
 unfold ik Cu Ee at h
 unfold wm
 by_cases jW:c=40
 ·subst jW
  cases nm<;>cases al<;>simp [d9,iy,jq,uo] at h ⊢<;>(try omega)
 ·by_cases tQ:c=41
  ·subst tQ
   cases nm<;>cases al<;>simp [d9,iy,jq,uo] at h ⊢<;>(try omega)
  ·rw[if_neg jW,if_neg tQ]
   simp only [jW,tQ,false_and,and_false,if_false] at h
   cases nm<;>cases al<;>simp at h<;>(repeat' split at h)<;>simp_all
structure J8(s:S8)(dp:Nat):Prop where
 z:s.nm≠ .part→s.nm≠ .Ct→dp=0
 st:s.nm= .stop→s.al=false
theorem J8.go{s s':S8}{dp d' c:Nat}(j:J8 s dp)(h:ik s dp c=some (s',d')):J8 s' d':=by
 obtain⟨j1,j2⟩:=j
 unfold ik at h
 split at h
 ·rename_i h0
  unfold Cu at h
  split at h
  ·cases h
  ·cases h
   exact⟨j1,fun z=>by
    have z:s.nm= .stop:=z
    rw[z] at h0
    rcases h0.2 with y|y|y<;>cases y⟩
 ·split at h
  ·cases h
  ·split at h
   ·rename_i h0
    split at h
    ·cases h
     refine⟨fun _ _=>j1 ?_ ?_,fun _=>rfl⟩<;>(intro z;rw[z] at h0;rcases h0 with y|y|y<;>cases y)
    ·cases h
   ·split at h
    ·unfold Ee at h
     split at h
     ·cases h
      exact⟨fun z=>absurd rfl z,fun z=>by cases z⟩
     ·split at h
      ·rename_i h0
       cases h
       exact⟨fun _ _=>j1 (by rw[h0.1];decide) (by rw[h0.1];decide),fun z=>by cases z⟩
      ·split at h
       ·cases h
        exact⟨fun z=>absurd rfl z,fun z=>by cases z⟩
       ·cases h
    ·split at h
     ·cases h
      exact⟨fun _ z=>absurd rfl z,fun z=>by cases z⟩
     ·split at h
      ·cases h
       exact⟨fun z=>absurd rfl z,fun z=>by cases z⟩
      ·split at h
       ·rename_i h0
        cases h
        exact⟨fun _ _=>h0.2.2,fun z=>by
         have z:(if c=46 then Nm.dot else Nm.ba)= .stop:=z
         split at z<;>cases z⟩
       ·cases h
def κ5(rt:Bool):List Nat→Option (List Nat)
 | []=>if rt=true then none else some []
 |_::r=>dI ⟨.gap,0,0,false⟩ 0 rt r
theorem Eg(s:S8):(up s).nm≠ .head:=by
 unfold up
 cases s.nm<;>simp [zH]
theorem Bw{rt:Bool}:∀(u:List Nat) {s:S8} {dp:Nat},J8 s dp→dI (up s) dp rt u=vd (κ5 rt) s dp u
 | [],s,dp,j=>by
   rw[dI,vd]
   by_cases ha:jU s dp
   ·rw[if_pos ha]
    by_cases hr:rt=true
    ·rw[if_pos ⟨hr,Fj.mpr ha⟩]
     unfold κ5
     rw[if_pos hr]
    ·rw[if_neg (fun z=>hr z.1)]
     unfold κ5
     rw[if_neg hr]
   ·rw[if_neg ha,if_neg (fun z=>ha (Fj.mp z.2))]
 |c::r,s,dp,j=>by
  have hh:(rt||decide ((up s).nm= .head))=rt:=by rw[decide_eq_false (Eg s),Bool.or_false]
  have e:=K8 s dp rt c j.st
  by_cases ha:c=32∧jU s dp
  ·rw[if_pos ha] at e
   rw[fH (s':=⟨.gap,0,0,false⟩) (by rw[hh];exact e),vd,if_pos ha,hh]
   have h0:dp=0:=by
    rcases ha.2 with z|z
    ·exact j.z (by rw[z];decide) (by rw[z];decide)
    ·exact z.2.1
   rw[ha.1,h0]
   rfl
  ·rw[if_neg ha] at e
   cases hn:ik s dp c with
   |none=>
    rw[hn] at e
    rw[lN (by rw[hh];exact e),vd,if_neg ha,hn]
   |some p=>
    obtain⟨s',d'⟩:=p
    rw[hn] at e
    rw[fH (by rw[hh];exact e),hh,dW hn,←K9 hn]
    exact Bw r (j.go hn)
abbrev t5:S5:=⟨.term,0,0,false⟩
theorem Wn:J8 xP 0:=⟨fun _ _=>rfl,fun z=>by cases z⟩
theorem ow{rt:Bool}{u:List Nat}(h:Not d9 u):dI t5 0 rt u=vd (κ5 rt) xP 0 u:=by
 rw[←Bw u Wn]
 cases u with
 |nil=>simp [dI,qa,up,zH,xP]
 |cons c r=>
  have hf:d9 c=false:=h c rfl
  have e:jr t5 0 (rt||decide (t5.nm= .head)) c=jr (up xP) 0 (rt||decide ((up xP).nm= .head)) c:=by
   unfold jr Fi
   simp [hf,up,zH,xP,qb,qa]
  rw[dI,dI,e]
  rfl
theorem md{rt:Bool}(u:List Nat){sm fg:Nat}:dI ⟨.count,sm,fg,false⟩ 0 rt (32::u)=vd (κ5 rt) xP 0 u:=by
 rw[←Bw u Wn]
 have e:jr ⟨.count,sm,fg,false⟩ 0 (rt||decide ((N5.count)= .head)) 32=some (up xP):=by
  unfold jr wk
  simp [d9,qb,wj,Cv,up,zH,xP]
 rw[fH e]
 simp [wm]
theorem Bx{rt:Bool}{w:List Nat}{sm fg:Nat}(jy:w.head? ≠some 32)(hv:Not d9 w∨fg=12):dI ⟨.count,sm,fg,false⟩ 0 rt w=some w:=by
 cases w with
 |nil=>simp [dI,qa]
 |cons c r=>
  refine lN ?_
  have hc:c≠32:=fun z=>jy (by rw[z];rfl)
  unfold jr zg wk
  by_cases hf:d9 c=true
  ·have OV:fg=12:=hv.elim (fun z=>by rw[z c rfl] at hf;cases hf) id
   simp [hf,OV]
  ·simp [hf,qb,wj,hc]
theorem wo{rt:Bool}{s:S5}(hn:s.nm= .count):∀(w v:List Nat),w.all d9=true→s.fg+w.length≤12→(s.fg=0→w.head? ≠some 48)→w≠[]→
  dI s 0 rt (w++v)=dI ⟨.count,0,s.fg+w.length,decide (s.fg=0)&&decide (w=[49])⟩ 0 rt v:=by
 intro w
 induction w generalizing s with
 |nil=>intro _ _ _ _ h;exact absurd rfl h
 |cons c r ih=>
  intro v ha hl h0 _
  rw[List.all_cons,Bool.and_eq_true] at ha
  rw[List.length_cons] at hl
  have hh:(rt||decide (s.nm= .head))=rt:=by rw[hn];simp
  have Wo:c≠40∧c≠41:=⟨(kL ha.1).2.2.1,(kL ha.1).2.2.2.1⟩
  have e:jr s 0 rt c=some ⟨.count,0,s.fg+1,decide (s.fg=0)&&decide (c=49)⟩:=by
   unfold jr zg
   rw[if_pos ha.1,hn,if_neg (by decide),if_pos (by decide),if_pos rfl,if_neg]
   rintro (z| ⟨z1,z2⟩)
   ·omega
   ·exact h0 z1 (by rw[z2];rfl)
  have d0:wm 0 c=0:=by unfold wm;rw[if_neg Wo.1,if_neg Wo.2]
  rw[List.cons_append,fH (by rw[hh];exact e),hh,d0]
  cases r with
  |nil=>
   have:(decide ([c]=[49]):Bool)=decide (c=49):=by simp
   rw[this]
   rfl
  |cons b t=>
   rw[ih (s:=⟨.count,0,s.fg+1,decide (s.fg=0)&&decide (c=49)⟩) rfl v ha.2 (by show s.fg+1+(b::t).length≤12;omega) (fun z=>absurd z (Nat.succ_ne_zero _)) (by simp)]
   show dI ⟨.count,0,s.fg+1+(b::t).length,decide (s.fg+1=0)&&_⟩ 0 rt v=_
   have e1:(decide (s.fg+1=0):Bool)=false:=by simp
   have e2:(decide (c::b::t=[49]):Bool)=false:=by simp
   rw[e1,e2,Bool.and_false,Bool.false_and,List.length_cons (a:=c)]
   rw[show s.fg+1+(b::t).length=s.fg+((b::t).length+1) by omega]
theorem qc{rt:Bool}{w v:List Nat}(ha:w.all d9=true)(hl:w.length≤12)(h0:w.head? ≠some 48)(hw:w≠[]):dI t5 0 rt (w++v)=dI ⟨.count,0,w.length,decide (w=[49])⟩ 0 rt v:=by
 have e:=wo (rt:=rt) (s:=⟨.count,0,0,false⟩) rfl w v ha (by show 0+w.length≤12;omega) (fun _=>h0) hw
 have e2:dI t5 0 rt (w++v)=dI ⟨.count,0,0,false⟩ 0 rt (w++v):=by
  cases w with
  |nil=>exact absurd rfl hw
  |cons c r=>
   rw[List.all_cons,Bool.and_eq_true] at ha
   have e3:jr t5 0 (rt||decide (t5.nm= .head)) c=jr ⟨.count,0,0,false⟩ 0 (rt||decide (N5.count= .head)) c:=by
    unfold jr
    simp [ha.1]
   rw[List.cons_append,dI,dI,e3]
   rfl
 rw[e2,e]
 show dI ⟨.count,0,0+w.length,decide (0=0)&&decide (w=[49])⟩ 0 rt v=_
 rw[Nat.zero_add]
 rfl
theorem wq{m:Nat}(h:m≠1):bw (m:Int)≠[]:=by
 rw[fD h]
 intro z
 have z:=List.map_eq_nil_iff.mp z
 exact absurd z Nat.toDigits_ne_nil
theorem By{rt:Bool}{u v:List Nat}{t:Tm}(h:Eb u t v):dI t5 0 rt u=cont (κ5 rt) v:=by
 obtain⟨w,⟨e,n1,n2,hl,hv⟩,hw⟩:=h
 obtain⟨m,em,m1,m0⟩:=nQ n1 (by omega)
 rcases hw with ⟨t1,hW⟩ | ⟨t1,w',rfl,hW⟩
 ·rw[t1,g9] at e hv
  have hv:Not d9 w:=hv.elim id fun z=>by cases z
  have e:u=w:=e
  rw[e,ow hv]
  exact Bu hW
 ·rw[em] at t1 e hv hl
  have Rv:m≠1:=fun z=>t1 (by rw[z];rfl)
  have hw:=wq Rv
  have K6:(decide (bw (m:Int)=[49]):Bool)=false:=by simpa using rm m
  rw[e,qc (fU m) hl (nO m m0) hw,K6,md]
  exact Bu hW
theorem wu{rt:Bool}{u v:List Nat}(h:Jc u v):dI t5 0 rt u=some v:=by
 rcases h with h| ⟨n,w,⟨e,n1,n2,hl,hv⟩,hw⟩
 ·rcases h with ⟨rfl,h⟩ | ⟨rfl,h⟩
  ·cases v with
   |nil=>cases h
   |cons c r=>
    have:c=48:=by simpa using h
    subst this
    exact lN (by simp [jr,zg,d9])
  ·have e1:jr t5 0 (rt||decide (t5.nm= .head)) 49=some ⟨.count,0,1,true⟩:=by simp [jr,zg,d9]
   rw[fH e1]
   cases v with
   |nil=>simp [dI,qa]
   |cons c r=>
    have hf:d9 c=false:=h c rfl
    exact lN (by simp [jr,hf])
 ·obtain⟨m,em,m1,m0⟩:=nQ n1 (by omega)
  rcases hw with ⟨t1,hW⟩ | ⟨t1,jy,rfl⟩ | ⟨t1,w',rfl,hW⟩
  ·rw[t1,g9] at e hv
   have hv:Not d9 w:=hv.elim id fun z=>by cases z
   have e:u=w:=e
   rw[e,ow hv]
   exact Bv hW
  all_goals
   rw[em] at t1 e hv hl
   have Rv:m≠1:=fun z=>t1 (by rw[z];rfl)
   have hw:=wq Rv
   have K6:(decide (bw (m:Int)=[49]):Bool)=false:=by simpa using rm m
   rw[e,qc (fU m) hl (nO m m0) hw,K6]
  ·exact Bx jy hv
  ·rw[md]
   exact Bv hW
theorem xQ{κ:List Nat→Option (List Nat)}{v:List Nat}(h1:v≠[])(h2:v.head? ≠some 32):cont κ v=some v:=by
 unfold cont
 rw[if_neg (fun z=>z.elim h1 h2)]
theorem uw{rt:Bool}(v:List Nat):dI ⟨.gap,0,0,false⟩ 0 rt (43::v)=dI ⟨.plus,0,0,false⟩ 0 rt v:=by
 rw[fH (s':=⟨.plus,0,0,false⟩) (by cases rt<;>simp [jr,wk,d9,qb,wj,Cv])]
 cases rt<;>simp [wm]
theorem zh{rt:Bool}(v:List Nat):dI ⟨.plus,0,0,false⟩ 0 rt (32::v)=dI t5 0 rt v:=by
 rw[fH (s':=t5) (by cases rt<;>simp [jr,wk,d9,qb,wj,Cv])]
 cases rt<;>simp [wm]
theorem oy(v:List Nat):dI ⟨.gap,0,0,false⟩ 0 false (45::v)=dI ⟨.dash,0,0,false⟩ 0 false v:=by
 rw[fH (s':=⟨.dash,0,0,false⟩) (by simp [jr,wk,d9,qb,wj,Cv])]
 simp [wm]
theorem qd(v:List Nat):dI ⟨.dash,0,0,false⟩ 0 false (62::v)=dI ⟨.head,0,0,false⟩ 0 false v:=by
 rw[fH (s':=⟨.head,0,0,false⟩) (by simp [jr,wk,d9,qb,wj,Cv])]
 simp [wm]
theorem zj(v:List Nat):dI ⟨.head,0,0,false⟩ 0 false (32::v)=dI t5 0 true v:=by
 rw[fH (s':=t5) (by simp [jr,wk,d9,qb,wj,Cv])]
 simp [wm]
theorem oz{rt:Bool}(v:List Nat):cont (κ5 rt) (32::43::32::v)=dI t5 0 rt v:=by
 unfold cont
 rw[if_pos (.inr rfl)]
 show dI ⟨.gap,0,0,false⟩ 0 rt (43::32::v)=_
 rw[uw,zh]
theorem oA(v:List Nat):cont (κ5 false) (32::45::62::32::v)=dI t5 0 true v:=by
 unfold cont
 rw[if_pos (.inr rfl)]
 show dI ⟨.gap,0,0,false⟩ 0 false (45::62::32::v)=_
 rw[oy,qd,zj]
theorem lO{rt:Bool}{u:List Nat}{ts:List Tm}{v:List Nat}(h:u5 u ts v):dI t5 0 rt u=cont (κ5 rt) v:=by
 induction h with
 |one t v h=>exact By h
 |snoc ts w t v _ h ih=>rw[ih,oz,By h]
theorem mW{m:N5}{rt:Bool}(hm:qb m)(hc:m≠ .ba){v:List Nat}(h1:v.head? ≠some (wj m))(h2:m= .gap→v.head? =some 45→rt=true)(h3:m= .count→False):dI ⟨m,0,0,false⟩ 0 rt v=some v:=by
 cases v with
 |nil=>
  rw[dI,if_neg]
  rintro ⟨_,z| ⟨z,_⟩⟩<;>(have z:m=_:=z;subst z;revert hm;decide)
 |cons c r=>
  refine lN ?_
  have hw:c≠wj m:=fun z=>h1 (by rw[z];rfl)
  unfold jr
  by_cases hf:d9 c=true
  ·rw[if_pos hf,if_neg (fun z=>by have z:m= .term:=z;subst z;revert hm;decide),if_neg]
   rintro (z|z|z|z)<;>have z:m=_:=z
   ·subst z;revert hm;decide
   ·subst z;revert hm;decide
   ·exact hc z
   ·exact h3 z
  ·rw[if_neg hf,if_neg (fun z=>by cases z),if_pos hm]
   unfold wk
   rw[if_neg (fun z=>hc z.1),if_neg,if_neg (fun z=>hw z.2)]
   rintro ⟨z1,z2,z3⟩
   have z1:m= .gap:=z1
   have:=h2 z1 (by rw[z2];rfl)
   rw[this] at z3
   cases z3
theorem Bz{rt:Bool}{w v:List Nat}(si:rt=true→w≠[])(oP:rt=false→(w.drop 1).head? ≠some 45)(h:Rh w v):cont (κ5 rt) w=some v:=by
 rcases h with ⟨i,c,hc,e,hn⟩ | ⟨w',rfl,hB⟩
 ·match i,hc with
  |0,hc=>
   have:c=32:=by simpa using hc.symm
   subst this
   have e:w=v:=e
   subst e
   by_cases hw:w=[]
   ·subst hw
    cases rt with
    |true=>exact absurd rfl (si rfl)
    |false=>rfl
   ·exact xQ hw hn
  |1,hc=>
   have:c=43:=by simpa using hc.symm
   subst this
   have e:w=32::v:=e
   subst e
   unfold cont
   rw[if_pos (.inr rfl)]
   refine mW (m:= .gap) (by decide) (by decide) hn (fun _ z=>?_) (fun z=>by cases z)
   cases rt with
   |true=>rfl
   |false=>exact absurd z (oP rfl)
  |2,hc=>
   have:c=32:=by simpa using hc.symm
   subst this
   have e:w=32::43::v:=e
   subst e
   unfold cont
   rw[if_pos (.inr rfl)]
   show dI ⟨.gap,0,0,false⟩ 0 rt (43::v)=_
   rw[uw]
   exact mW (m:= .plus) (by decide) (by decide) hn (fun z=>by cases z) (fun z=>by cases z)
  |i+3,hc=>simp at hc
 ·rw[oz]
  exact wu hB
theorem Hw{w v:List Nat}(oP:(w.drop 1).head? =some 45)(h:Rc [32,45,62,32] w v):cont (κ5 false) w=some v:=by
 obtain⟨i,c,hc,e,hn⟩:=h
 match i,hc with
 |0,hc=>
  have:c=32:=by simpa using hc.symm
  subst this
  have e:w=v:=e
  subst e
  refine xQ (fun z=>?_) hn
  subst z
  cases oP
 |1,hc=>
  have:c=45:=by simpa using hc.symm
  subst this
  have e:w=32::v:=e
  subst e
  exact absurd oP hn
 |2,hc=>
  have:c=62:=by simpa using hc.symm
  subst this
  have e:w=32::45::v:=e
  subst e
  unfold cont
  rw[if_pos (.inr rfl)]
  show dI ⟨.gap,0,0,false⟩ 0 false (45::v)=_
  rw[oy]
  exact mW (m:= .dash) (by decide) (by decide) hn (fun z=>by cases z) (fun z=>by cases z)
 |3,hc=>
  have:c=32:=by simpa using hc.symm
  subst this
  have e:w=32::45::62::v:=e
  subst e
  unfold cont
  rw[if_pos (.inr rfl)]
  show dI ⟨.gap,0,0,false⟩ 0 false (45::62::v)=_
  rw[oy,qd]
  exact mW (m:= .head) (by decide) (by decide) hn (fun z=>by cases z) (fun z=>by cases z)
 |i+4,hc=>simp at hc
theorem Hx{u v:List Nat}(h:Ri u v):dI t5 0 false u=some v:=by
 rcases h with h| ⟨ts,w,q,⟨oP,h⟩ | ⟨oP,h⟩⟩
 ·exact wu h
 ·rw[lO q]
  exact Bz (fun z=>by cases z) (fun _=>oP) h
 ·rw[lO q]
  exact Hw oP h
theorem Hy{u v:List Nat}(h:Rj u v):dI t5 0 true u=some v:=by
 rcases h with h| ⟨ts,w,q,si,h⟩
 ·exact wu h
 ·rw[lO q]
  exact Bz (fun _=>si) (fun z=>by cases z) h
theorem BC{u:List Nat}{xs ys:List Tm}(h:Jd u xs ys):dI t5 0 false u=none:=by
 obtain⟨w,h1,h2⟩:=h
 rw[lO h1,oA,lO h2]
 rfl
theorem Hz{u v:List Nat}(h:Rk u v):dI t5 0 false u=some v:=by
 rcases h with h| ⟨xs,w,h1,h2⟩
 ·exact Hx h
 ·rw[lO h1,oA]
  exact Hy h2
def gP(p:List Nat):Nat→List Nat→Nat
 |_,[]=>0
 |k+1,_::r=>gP p k r
 |0,c::r=>if p.isPrefixOf (c::r)=true then 1+gP p (p.length - 1) r else gP p 0 r
theorem xR(p:List Nat):∀(k:Nat) (l:List Nat),gP p k l=gP p 0 (l.drop k)
 |0,l=>by rw[List.drop_zero]
 |k+1,[]=>by simp [gP]
 |k+1,c::r=>by
  rw[gP,xR p k r]
  rfl
theorem BD{l p:List Nat}(hp:p≠[]){i:Nat}:Builtin.Str.subAt ⟨l.toArray⟩ ⟨p.toArray⟩ i=true↔p.isPrefixOf (l.drop i)=true:=by
 unfold Builtin.Str.subAt
 have hl:(⟨p.toArray⟩:Str).length=p.length:=aB p
 rw[hl]
 show (l.toArray.extract i (i+p.length)==p.toArray)=true↔_
 rw[beq_iff_eq,←Array.toList_inj,Array.toList_extract]
 show ((l.drop i).take (i+p.length - i))=p↔_
 rw[Nat.add_sub_cancel_left,List.isPrefixOf_iff_prefix,List.prefix_iff_eq_take]
 exact⟨fun h=>h.symm,fun h=>h.symm⟩
open PySem.StrLaws in
theorem BE(l p:List Nat)(hp:p≠[])(lim:Nat):∀(n lo:Nat) (st:Array Nat×Nat),lo+n=l.length+1→st.1.size+n≤lim→
  (forIn (List.range' lo n) st (occBody ⟨l.toArray⟩ ⟨p.toArray⟩ l.length lim)).run.1.size=st.1.size+gP p 0 (l.drop (max lo st.2))
 |0,lo,st,h1,h2=>by
  rw[List.drop_eq_nil_of_le (by omega)]
  rfl
 |n+1,lo,st,h1,h2=>by
  rw[List.range'_succ,List.forIn_cons]
  have l1:(⟨p.toArray⟩:Str).length=p.length:=aB p
  have pl:0<p.length:=List.length_pos_iff.mpr hp
  by_cases h:st.2≤lo∧lo+p.length≤l.length∧Builtin.Str.subAt ⟨l.toArray⟩ ⟨p.toArray⟩ lo=true
  ·have e:occBody ⟨l.toArray⟩ ⟨p.toArray⟩ l.length lim lo st=pure (ForInStep.yield (st.1.push lo,lo+p.length)):=by
    unfold occBody
    rw[if_pos ⟨⟨⟨by omega,h.1⟩,by rw[l1];exact h.2.1⟩,h.2.2⟩,l1]
   rw[e]
   show (forIn (List.range' (lo+1) n) (st.1.push lo,lo+p.length) (occBody ⟨l.toArray⟩ ⟨p.toArray⟩ l.length lim)).run.1.size=_
   rw[BE l p hp lim n (lo+1) _ (by omega) (by rw[Array.size_push];omega),Array.size_push]
   show st.1.size+1+gP p 0 (l.drop (max (lo+1) (lo+p.length)))=_
   rw[Nat.max_eq_right (by omega),Nat.max_eq_left h.1]
   have hd:l.drop lo=l[lo]'(by omega)::l.drop (lo+1):=List.drop_eq_getElem_cons (by omega)
   have oG:=(BD hp).mp h.2.2
   rw[hd] at oG ⊢
   rw[gP,if_pos oG,xR p (p.length - 1),List.drop_drop,show lo+1+(p.length - 1)=lo+p.length by omega]
   omega
  ·have e:occBody ⟨l.toArray⟩ ⟨p.toArray⟩ l.length lim lo st=pure (ForInStep.yield (st.1,st.2)):=by
    unfold occBody
    rw[if_neg fun z=>h ⟨z.1.1.2,by have:=z.1.2;rw[l1] at this;exact this,z.2⟩]
   rw[e]
   show (forIn (List.range' (lo+1) n) (st.1,st.2) (occBody ⟨l.toArray⟩ ⟨p.toArray⟩ l.length lim)).run.1.size=_
   rw[BE l p hp lim n (lo+1) _ (by omega) (by show st.1.size+n≤lim;omega)]
   show st.1.size+gP p 0 (l.drop (max (lo+1) st.2))=_
   by_cases hf:st.2≤lo
   ·rw[Nat.max_eq_left (by omega),Nat.max_eq_left hf]
    by_cases EU:lo<l.length
    ·have hd:l.drop lo=l[lo]::l.drop (lo+1):=List.drop_eq_getElem_cons EU
     have oG:¬p.isPrefixOf (l.drop lo)=true:=fun z=>by
      have hle:=(List.isPrefixOf_iff_prefix.mp z).length_le
      rw[List.length_drop] at hle
      exact h ⟨hf,by omega,(BD hp).mpr z⟩
     rw[hd] at oG ⊢
     rw[gP,if_neg oG]
    ·rw[List.drop_eq_nil_of_le (by omega),List.drop_eq_nil_of_le (by omega)]
   ·rw[Nat.max_eq_right (by omega),Nat.max_eq_right (by omega)]
theorem xS(l p:List Nat)(hp:p≠[]):Txt.count ⟨l.toArray⟩ ⟨p.toArray⟩=(gP p 0 l:Int):=by
 have xl:(⟨l.toArray⟩:Str).length=l.length:=aB l
 unfold Txt.count
 rw[PySem.StrLaws.occ_eq,Array.length_toList,xl]
 show ((forIn (List.range' 0 (l.length+1)) ((#[]:Array Nat),0) (PySem.StrLaws.occBody ⟨l.toArray⟩ ⟨p.toArray⟩ l.length (l.length+1))).run.1.size:Int)=_
 rw[BE l p hp (l.length+1) (l.length+1) 0 (#[],0) (by omega) (by show 0+(l.length+1)≤_;omega)]
 show ((0+gP p 0 (l.drop (max 0 0)):Nat):Int)=_
 rw[Nat.zero_add]
 rfl
def pJ:List Nat:=[32,43,32]
def pA:List Nat:=[32,45,62,32]
theorem mX{p:List Nat}(jy:p.head? =some 32):∀{a:List Nat} (v:List Nat),(∀c∈a,c≠32)→gP p 0 (a++v)=gP p 0 v
 | [],v,_=>rfl
 |c::r,v,h=>by
  have hc:=h c (List.mem_cons_self ..)
  rw[List.cons_append,gP,if_neg,mX jy v fun b hb=>h b (List.mem_cons_of_mem _ hb)]
  cases p with
  |nil=>cases jy
  |cons b q=>
   have:b=32:=by simpa using jy
   subst this
   simp [List.isPrefixOf,Ne.symm hc]
theorem iR{b:Nat}{q:List Nat}{c:Nat}(r:List Nat)(h:b≠c):gP (32::b::q) 0 (32::c::r)=gP (32::b::q) 0 (c::r):=by
 rw[gP,if_neg]
 simp [List.isPrefixOf,h]
def Bg(c:Nat):Prop:=d9 c=true∨iy c=true∨c=40∨c=101
theorem Bg.ne{c:Nat}(h:Bg c):c≠43∧c≠45∧c≠32:=by
 rcases h with h|h|h|h
 ·simp only [d9,Bool.and_eq_true,decide_eq_true_eq] at h;omega
 ·simp only [iy,Bool.and_eq_true,decide_eq_true_eq] at h;omega
 ·omega
 ·omega
theorem kM{n:Int}(h:0≤n):∀c∈bw n,c≠32:=fun c hc=>by
 obtain⟨m,rfl⟩:=Int.eq_ofNat_of_zero_le h
 have:=List.all_eq_true.mp (fU m) c hc
 unfold d9 at this
 simp at this
 omega
theorem Eh{k:List Nat}(h:tF k):∀c∈k,c≠32:=by
 obtain⟨c,r,rfl,hc,hr,_⟩:=h
 intro b hb
 rcases List.mem_cons.mp hb with e|hb
 ·rw[e]
  unfold iy at hc
  simp at hc
  omega
 ·have:=List.all_eq_true.mp hr b hb
  unfold jq at this
  simp at this
  omega
theorem xT:∀(d:Nat) (t:Tr),vJ d t→∀c∈dR d t,c≠32
 |d, .one k n,h=>by
  have h:tF k∧1≤n∧n≤999:=by cases d<;>exact h
  have e:dR d (.one k n)=k++bw n:=by cases d<;>rfl
  rw[e]
  intro c hc
  rcases List.mem_append.mp hc with z|z
  ·exact Eh h.1 c z
  ·exact kM (by omega) c z
 |0, .gr _ _,h=>h.elim
 |d+1, .gr ts n,h=>by
  obtain⟨_,h1,n1,_⟩:=h
  intro c hc
  rcases List.mem_cons.mp (show c∈40::(ts.flatMap (dR d)++41::bw n) from hc) with e|hc
  ·rw[e];decide
  ·rcases List.mem_append.mp hc with z|z
   ·obtain⟨t,ht,z⟩:=List.mem_flatMap.mp z
    exact xT d t (h1 t ht) c z
   ·rcases List.mem_cons.mp z with e|z
    ·rw[e];decide
    ·exact kM (by omega) c z
theorem ux{d:Nat}{ts:List Tr}(h:∀t∈ts,vJ d t):∀c∈ts.flatMap (dR d),c≠32:=fun c hc=>by
 obtain⟨t,ht,z⟩:=List.mem_flatMap.mp hc
 exact xT d t (h t ht) c z
theorem Fl{xs:List gO}{n:Int}(h:Cp 4 xs n):∀c∈wL 4 xs n,c≠32:=by
 cases xs with
 |nil=>
  have:∀c∈[101,94,45],c≠32:=by decide
  exact this
 |cons x r=>
  obtain⟨_,ho,n1,n2⟩:=h
  intro c hc
  rcases List.mem_append.mp (show c∈x.2.flatMap (dR 4)++(eL 4 r++lV n) from hc) with z|z
  ·exact ux (ho x (List.mem_cons_self ..)).2.1 c z
  ·rcases List.mem_append.mp z with z|z
   ·obtain⟨y,hy,z⟩:=List.mem_flatMap.mp z
    obtain⟨_,o1,o2,o3⟩:=ho y (List.mem_cons_of_mem _ hy)
    rcases List.mem_cons.mp z with e|z
    ·rw[e];decide
    ·rcases List.mem_append.mp z with z|z
     ·exact kM (by omega) c z
     ·exact ux o1 c z
   ·unfold lV at z
    by_cases h0:n=0
    ·rw[if_pos h0] at z;cases z
    ·rw[if_neg h0] at z
     rcases List.mem_cons.mp z with e|z
     ·rw[e];decide
     ·rcases List.mem_append.mp z with z|z
      ·exact kM (by split<;>omega) c z
      ·have:c=if 0<n then 43 else 45:=by simpa using z
       rw[this]
       split<;>decide
theorem Fn{xs:List gO}{n:Int}(h:Cp 4 xs n):∃c r,wL 4 xs n=c::r∧Bg c:=by
 cases xs with
 |nil=>exact⟨101,_,rfl, .inr (.inr (.inr rfl))⟩
 |cons x r=>
  obtain⟨_,ho,_⟩:=h
  obtain⟨ne,ot,_⟩:=ho x (List.mem_cons_self ..)
  cases hx:x.2 with
  |nil=>exact absurd hx ne
  |cons t ts=>
   have ht:=ot t (by rw[hx];exact List.mem_cons_self ..)
   have e:wL 4 (x::r) n=dR 4 t++(ts.flatMap (dR 4)++(eL 4 r++lV n)):=by
    show x.2.flatMap (dR 4)++(eL 4 r++lV n)=_
    rw[hx,List.flatMap_cons,List.append_assoc]
   rw[e]
   cases t with
   |one k m=>
    obtain⟨⟨c,k',rfl,hg,_⟩,_⟩:=ht
    exact⟨c,_,rfl, .inr (.inl hg)⟩
   |gr OI m=>exact⟨40,_,rfl, .inr (.inr (.inl rfl))⟩
theorem rS{p:List Nat}{b:Nat}{q:List Nat}(hp:p=32::b::q)(hb:b=43∨b=45){u v:List Nat}{t:Tm}(h:Eb u t v):gP p 0 u=gP p 0 v∧∃c r,u=c::r∧Bg c:=by
 obtain⟨w,⟨e,n1,n2,hl,hv⟩,hw⟩:=h
 have jy:p.head? =some 32:=by rw[hp];rfl
 have Yl:=kM (n:=t.1) (by omega)
 rcases hw with ⟨t1,hW⟩ | ⟨t1,w',rfl,hW⟩
 ·obtain⟨ew,ok⟩:=hW.KZ
  obtain⟨c,r,ec,hc⟩:=Fn ok
  rw[t1,g9] at e
  have e:u=w:=e
  rw[e,ew,mX jy v (Fl ok)]
  exact⟨rfl,c,r++v,by rw[ec];rfl,hc⟩
 ·obtain⟨ew,ok⟩:=hW.KZ
  obtain⟨c,r,ec,hc⟩:=Fn ok
  obtain⟨m,em,m1,m0⟩:=nQ n1 (by omega)
  have si:bw t.1≠[]:=by
   rw[em]
   exact wq fun z=>t1 (by rw[em,z];rfl)
  refine⟨?_,?_⟩
  ·rw[e,mX jy _ Yl,ew,ec,hp,List.cons_append,iR _ (fun z=>by have:=hc.ne;omega),←List.cons_append,←ec,←hp]
   exact mX jy v (Fl ok)
  ·cases hf:bw t.1 with
   |nil=>exact absurd hf si
   |cons c0 r0=>
    rw[hf] at e
    refine⟨c0,_,e, .inl ?_⟩
    have:=List.all_eq_true.mp (fU m) c0 (by rw[←em,hf];exact List.mem_cons_self ..)
    exact this
theorem BF{u:List Nat}{ts:List Tm}{v:List Nat}(h:u5 u ts v):gP pJ 0 u+1=ts.length+gP pJ 0 v∧gP pA 0 u=gP pA 0 v∧∃c r,u=c::r∧Bg c:=by
 induction h with
 |one t v h=>
  obtain⟨h1,h3⟩:=rS (p:=pJ) rfl (.inl rfl) h
  obtain⟨h2,_⟩:=rS (p:=pA) rfl (.inr rfl) h
  exact⟨by rw[h1];show _=1+_;omega,h2,h3⟩
 |snoc ts w t v _ h ih=>
  obtain⟨h1,c,r,ec,hc⟩:=rS (p:=pJ) rfl (.inl rfl) h
  obtain⟨h2,_⟩:=rS (p:=pA) rfl (.inr rfl) h
  obtain⟨i1,i2,i3⟩:=ih
  have e1:gP pJ 0 (32::43::32::w)=1+gP pJ 0 w:=by
   unfold pJ
   rw[gP,if_pos (by simp [List.isPrefixOf])]
   rfl
  have e2:gP pA 0 (32::43::32::w)=gP pA 0 w:=by
   have n:=hc.ne
   rw[ec]
   unfold pA
   rw[iR _ (by decide),gP,if_neg (by simp [List.isPrefixOf]),iR _ (by omega)]
  rw[e1,h1] at i1
  rw[e2,h2] at i2
  exact⟨by rw[i1,List.length_append];show _=ts.length+1+_;omega,i2,i3⟩
theorem BG{u:List Nat}{xs ys:List Tm}(h:Jd u xs ys):1+gP pJ 0 u+gP pA 0 u=xs.length+ys.length:=by
 obtain⟨w,h1,h2⟩:=h
 obtain⟨a1,a2,_⟩:=BF h1
 obtain⟨b1,b2,c,r,ec,hc⟩:=BF h2
 have n:=hc.ne
 have e1:gP pJ 0 (32::45::62::32::w)=gP pJ 0 w:=by
  rw[ec]
  unfold pJ
  rw[iR _ (by decide),gP,if_neg (by simp [List.isPrefixOf]),gP,if_neg (by simp [List.isPrefixOf]),iR _ (by omega)]
 have e2:gP pA 0 (32::45::62::32::w)=1+gP pA 0 w:=by
  unfold pA
  rw[gP,if_pos (by simp [List.isPrefixOf])]
  rfl
 rw[e1] at a1
 rw[e2] at a2
 have z1:gP pJ 0 []=0:=rfl
 have z2:gP pA 0 []=0:=rfl
 omega
def ix(x:Tm):List Nat:=bw x.1++((if x.1=1 then [] else [32])++Ff x.2)
def Ei(xs:List Tm):List Nat:=xs.flatMap fun x=>[32,43,32]++ix x
def mq:List Tm→List Nat
 | []=>[]
 |x::r=>ix x++Ei r
theorem uy(x:Tm):mS x=⟨(ix x).toArray⟩:=by
 unfold mS ix
 by_cases h:x.1=1
 ·rw[if_pos h,if_pos h,h,g9]
  rfl
 ·have e:(toString x.1 :Str)=⟨(bw x.1).toArray⟩:=by
   rw[←bY]
   unfold dq
   rw[if_neg h]
  rw[if_neg h,if_neg h,e,K2,show (⟨#[32]⟩:Str)=⟨[32].toArray⟩ from rfl,aO,aO,List.append_assoc]
theorem uz:∀xs:List Tm,Str.join " + " (xs.map mS)=⟨(mq xs).toArray⟩
 | []=>rfl
 | [x]=>by
   show mS x=_
   rw[uy]
   show _=(⟨(ix x++[]).toArray⟩:Str)
   rw[List.append_nil]
 |x::y::r=>by
  have ih:=uz (y::r)
  show mS x++" + " ++Str.join " + " ((y::r).map mS)=_
  have ej:(" + " :Str)=⟨[32,43,32].toArray⟩:=by decide+kernel
  rw[ih,uy,ej,aO,aO]
  congr 2
  show ix x++[32,43,32]++(ix y++Ei r)=ix x++(([32,43,32]++ix y)++Ei r)
  simp only [List.append_assoc]
theorem uA(xs:List Tm):Hr xs=⟨(mq xs).toArray⟩:=by
 unfold Hr
 have e:=PyProof.Rows.join_closes (sep:=" + ") (sep':=" + ") (ys:=xs.map mS) rfl
 rw[show Txt.join " + " (xs.map mS)=Str.join " + " (xs.map mS) by simpa using e]
 exact uz xs
theorem BH(xs ys:List Tm):KY xs ys=⟨(mq xs++[32,45,62,32]++mq ys).toArray⟩:=by
 unfold KY
 have ea:(" -> " :Str)=⟨[32,45,62,32].toArray⟩:=by decide+kernel
 rw[uA,uA,ea,aO,aO]
theorem BI{ts:List Tm}(h:ts≠[])(t:Tm):mq (ts++[t])=mq ts++(32::43::32::ix t):=by
 cases ts with
 |nil=>exact absurd rfl h
 |cons x r=>
  show ix x++Ei (r++[t])=ix x++Ei r++_
  unfold Ei
  rw[List.flatMap_append,List.append_assoc]
  simp
def HA(x:Tm):Prop:=1≤x.1∧x.1<10^12∧Cp 4 x.2.1 x.2.2
theorem Eb.text{u v:List Nat}{t:Tm}(h:Eb u t v):u=ix t++v∧HA t:=by
 obtain⟨w,⟨e,n1,n2,hl,hv⟩,hw⟩:=h
 unfold ix
 rcases hw with ⟨t1,hW⟩ | ⟨t1,w',rfl,hW⟩
 ·obtain⟨ew,ok⟩:=hW.KZ
  rw[if_pos t1,e,ew]
  exact⟨by simp [Ff],n1,n2,ok⟩
 ·obtain⟨ew,ok⟩:=hW.KZ
  rw[if_neg t1,e,ew]
  exact⟨by simp [Ff],n1,n2,ok⟩
theorem u5.text{u:List Nat}{ts:List Tm}{v:List Nat}(h:u5 u ts v):u=mq ts++v∧ts≠[]∧∀x∈ts,HA x:=by
 induction h with
 |one t v h=>
  obtain⟨e,o⟩:=h.text
  refine⟨?_,by simp,fun x hx=>?_⟩
  ·show u=ix t++[]++v
   rw[List.append_nil]
   exact e
  ·have:x=t:=by simpa using hx
   rw[this]
   exact o
 |snoc ts w t v _ h ih=>
  obtain⟨e,o⟩:=h.text
  obtain⟨i1,i2,i3⟩:=ih
  refine⟨?_,by simp,fun x hx=>?_⟩
  ·rw[BI i2,i1,e]
   simp
  ·rcases List.mem_append.mp hx with z|z
   ·exact i3 x z
   ·have:x=t:=by simpa using z
    rw[this]
    exact o
theorem xU{xs:List Tm}{x:Tm}(h:x∈xs):(wL 4 x.2.1 x.2.2).length≤(mq xs).length:=by
 have tl:∀y:Tm,(wL 4 y.2.1 y.2.2).length≤(ix y).length:=fun y=>by
  unfold ix Ff
  rw[List.length_append,List.length_append]
  omega
 have jl:∀r:List Tm,x∈r→(wL 4 x.2.1 x.2.2).length≤(Ei r).length:=fun r hr=>by
  obtain⟨a,b,rfl⟩:=List.append_of_mem hr
  unfold Ei
  rw[List.flatMap_append,List.flatMap_cons,List.length_append,List.length_append,List.length_append]
  have:=tl x
  omega
 cases xs with
 |nil=>cases h
 |cons y r=>
  show _≤(ix y++Ei r).length
  rw[List.length_append]
  rcases List.mem_cons.mp h with e|e
  ·rw[e]
   have:=tl y
   omega
  ·have:=jl r e
   omega
theorem Ej{u:List Nat}{xs ys:List Tm}(h:Jd u xs ys)(hl:u.length≤400):KY xs ys=⟨u.toArray⟩∧(∀x∈xs,oV x)∧∀x∈ys,oV x:=by
 obtain⟨w,h1,h2⟩:=h
 obtain⟨e1,n1,o1⟩:=u5.text h1
 obtain⟨e2,n2,o2⟩:=u5.text h2
 rw[List.append_nil] at e2
 have e:u=mq xs++[32,45,62,32]++mq ys:=by rw[e1,e2];simp
 have l:(mq xs).length≤400∧(mq ys).length≤400:=by
  rw[e,List.length_append,List.length_append] at hl
  omega
 have up:∀x:Tm,HA x→(wL 4 x.2.1 x.2.2).length≤400→oV x:=fun x o hx=>⟨o.1,by have:=o.2.1;omega,o.2.2,hx⟩
 refine⟨by rw[BH,e],fun x hx=>up x (o1 x hx) (Nat.le_trans (xU hx) l.1),fun x hx=>up x (o2 x hx) (Nat.le_trans (xU hx) l.2)⟩
def jw:N5→Str
 | .term=>"term" | .start=>"start" | .Ct=>"open" | .part=>"part" | .dot=>"dot" | .jT=>"roof" | .minus=>"minus" | .ba=>"charge" | .stop=>"end" | .count=>"count" | .gap=>"gap" | .plus=>"plus" | .dash=>"dash" | .head=>"head"
theorem Ek:∀{a b:N5},jw a=jw b→a=b:=by
 intro a b
 cases a<;>cases b<;>first| (intro _;rfl) | (intro h;exact absurd h (by decide+kernel))
theorem de{a b:N5}:V.str (jw a)=V.str (jw b)↔a=b:=⟨fun h=>Ek (by injection h),fun h=>by rw[h]⟩
def uF(H:Hp)(t:Addr)(s:S5):Prop:=H t=some (.tup [.str (jw s.nm), .int (s.sm:Int), .int (s.fg:Int), .bl s.al])
def Cw(H:Hp)(r:Option S5)(Q:VK):Prop:=(r=none→∀H',ay H H'→Q .cn H')∧∀s',r=some s'→∀t H',uF H' t s'→ay H H'→Q (.ref t) H'
theorem Cw.on{H H1:Hp}{r:Option S5}{Q:VK}(h:Cw H r Q)(e:ay H H1):Cw H1 r Q:=⟨fun z H' k=>h.1 z H' (e.trans k),fun s' z t H' a k=>h.2 s' z t H' a (e.trans k)⟩
theorem Cw.go{H:Hp}{r:Option S5}{Q:VK}(q:Cw H r Q){s':S5}(e:r=some s'){t:Addr}(ht:H t=none):Q (.ref t) (upd H t (.tup [.str (jw s'.nm), .int (s'.sm:Int), .int (s'.fg:Int), .bl s'.al])):=q.2 _ e t _ ag (ay.new ht)
def BJ:Sp:=fun vs H Q _=>∃(a:Addr) (s:S5) (c most:Nat),vs=[.ref a, .str ⟨#[c]⟩, .int (most:Int)]∧uF H a s∧c<128∧Cw H (zg s.nm s.fg c most) Q
def BK:Sp:=fun vs H Q _=>∃(a:Addr) (s:S5) (c:Nat),vs=[.ref a, .str ⟨#[c]⟩]∧uF H a s∧c<128∧Cw H (Fi s c) Q
def BL:Sp:=fun vs H Q _=>∃(m:N5) (rt:Bool) (c:Nat),vs=[.str (jw m), .str ⟨#[c]⟩, .bl rt]∧qb m∧c<128∧Cw H (wk m rt c) Q
def wx:Sp:=fun vs H Q _=>∃(a:Addr) (s:S5) (dp:Nat),vs=[.ref a, .int (dp:Int)]∧uF H a s∧Q (.bl (decide (qa s dp))) H
def xV:Sp:=fun vs H Q _=>∃(a:Addr) (s:S5) (dp c:Nat) (rt:Bool),vs=[.ref a, .int (dp:Int), .bl rt, .str ⟨#[c]⟩]∧uF H a s∧c<128∧Cw H (jr s dp rt c) Q
theorem eB{c b:Nat}:V.str (⟨#[c]⟩:Str)=V.str (⟨#[b]⟩:Str)↔c=b:=⟨fun h=>Classical.byContradiction fun n=>DF n h,fun h=>by rw[h]⟩
theorem Wq:("0" :Str)=⟨#[48]⟩:=by decide+kernel
theorem Ym:("1" :Str)=⟨#[49]⟩:=by decide+kernel
theorem K':("e" :Str)=⟨#[101]⟩:=by decide+kernel
theorem La:("-" :Str)=⟨#[45]⟩:=by decide+kernel
theorem BM:∀c:Nat,c<128→Txt.isupper ⟨#[c]⟩=iy c:=by decide+kernel
theorem Fp:∀c:Nat,c<128→Txt.islower ⟨#[c]⟩=jq c:=by decide+kernel
theorem Lb:∀c:Nat,c<128→(!(Builtin.Str.occurrences "0123456789" ⟨#[c]⟩ 0 ("0123456789" :Str).length 1).isEmpty)=d9 c:=by decide+kernel
theorem Lc:∀c:Nat,c<128→(!(Builtin.Str.occurrences ".^" ⟨#[c]⟩ 0 (".^" :Str).length 1).isEmpty)=(decide (c=46)||decide (c=94)):=by decide+kernel
theorem Ld:∀c:Nat,c<128→(!(Builtin.Str.occurrences "+-" ⟨#[c]⟩ 0 ("+-" :Str).length 1).isEmpty)=(decide (c=43)||decide (c=45)):=by decide+kernel
theorem Jg{i j:Int}(h:¬i=j):¬V.int i=V.int j:=fun z=>h (by injection z)
theorem gM:ax ["_law_state","_law_sign","_law_most","_law_name","_law_smalls","_law_figures_here","_law_alone"] ["_law_state","_law_sign","_law_most"] (ak kx):=dH
theorem wy(D:Def K mg "_law_figure" "_law_figure" kx ["_law_state","_law_sign","_law_most"]):bx P w K mg base 1 "_law_figure" ["_law_state","_law_sign","_law_most"] BJ:=by
 refine D.fJ gM (fun vs H Q E h=>?_) (fun f bj A outer s H vs Q E hr h=>?_)
 ·obtain⟨a,s,c,most,rfl,_⟩:=h
  rfl
 ·obtain⟨a,s,c,most,rfl,hS,hc,q⟩:=h
  refine⟨_,(af
     (qr (pv 0) (kW rfl (bX (bq (i:=3) gM.nd rfl (Or.inl rfl)) (bX (bq (i:=4) gM.nd rfl (Or.inl rfl)) (bX (bq (i:=5) gM.nd rfl (Or.inl rfl)) (bX (bq (i:=6) gM.nd rfl (Or.inl rfl)) iT))))))
    (af
     (bc (PW.pt (zO (aA bh (pv 5) (pv 2) (aE _)) (vc (PW.pt (cy (aA bh (pv 5) ah (aE _)) (cw (aA bh (pv 1) aw (aE _))))))))
      (aq
       (az gQ))
      aK)
    (aq
     (az (bM (aa (pv 3) (aa ah (aa (au bo (pv 5) ah) (aa (jC (cV bh (pv 5) ah (aE _)) (jB (cV bh (pv 1) aw (aE _)))) ao))))))))),?_⟩
  refine⟨_,rfl,a,_,rfl,jD.of hS,rfl,_,_,rfl,_,_,rfl,_,_,rfl,_,_,rfl,rfl,?_⟩
  have qe:s.fg=most∨s.fg=0∧c=48→Q .cn H:=fun h=>q.1 (by unfold zg;rw[if_pos h]) H (ay.refl H)
  by_cases h3:s.fg=most
  ·exact⟨_,rfl,_,rfl,rfl,_,rfl,cA (by rw[h3]) (qe (.inl h3))⟩
  refine⟨_,rfl,_,rfl,rfl,_,rfl,cu (Jg (by omega)) ?_⟩
  by_cases h0:s.fg=0
  ·refine⟨_,rfl,rfl,_,rfl,cA (by rw[h0];rfl) ?_⟩
   by_cases OW:c=48
   ·exact⟨_,rfl,rfl,_,rfl,cA (by rw[OW,Wq]) (qe (.inr ⟨h0,OW⟩))⟩
   refine⟨_,rfl,rfl,_,rfl,cu (by rw[Wq];exact fun z=>OW (eB.mp z)) ?_⟩
   have e:zg s.nm s.fg c most=some ⟨s.nm,0,s.fg+1,decide (c=49)⟩:=by
    unfold zg
    rw[if_neg (by rintro (z|z);exact h3 z;exact OW z.2),decide_eq_true h0,Bool.true_and]
   refine⟨_,rfl,_,rfl,_,_,rfl,rfl,_,rfl,rfl,true,by rw[h0];rfl,cq ⟨_,rfl,rfl,(by show 4≤sizeLine;decide),fun t ht=>?_⟩⟩
   have:(decide (V.str (⟨#[c]⟩:Str)=V.str "1"):Bool)=decide (c=49):=by rw[Ym];exact decide_eq_decide.mpr eB
   rw[this]
   exact q.go e ht
  ·refine⟨_,rfl,rfl,_,rfl,cu (Jg (by omega)) ?_⟩
   have e:zg s.nm s.fg c most=some ⟨s.nm,0,s.fg+1,false⟩:=by
    unfold zg
    rw[if_neg (by rintro (z|z);exact h3 z;exact h0 z.1),decide_eq_false h0,Bool.false_and]
   exact⟨_,rfl,_,rfl,_,_,rfl,rfl,_,rfl,rfl,false,by rw[decide_eq_false (Jg (by omega))],dG ⟨(by show 4≤sizeLine;decide),fun t ht=>q.go e ht⟩⟩
theorem Le:∀m:N5,ET (V.str (jw m)) [.str "term", .str "start"]=(decide (m= .term)||decide (m= .start)):=by
 intro m
 cases m<;>decide+kernel
theorem iS:ax ["_law_state","_law_sign","_law_name","_law_smalls","_law_figures_here","_law_alone"] ["_law_state","_law_sign"] (ak mM):=dH
theorem zo(D:Def K mg "_law_letter" "_law_letter" mM ["_law_state","_law_sign"]):bx P w K mg base 1 "_law_letter" ["_law_state","_law_sign"] BK:=by
 refine D.fJ iS (fun vs H Q E h=>?_) (fun f bj A outer s H vs Q E hr h=>?_)
 ·obtain⟨a,s,c,rfl,_⟩:=h
  rfl
 ·obtain⟨a,s,c,rfl,hS,hc,q⟩:=h
  refine⟨_,(af
     (qr (pv 0) (kW rfl (bX (bq (i:=2) iS.nd rfl (Or.inl rfl)) (bX (bq (i:=3) iS.nd rfl (Or.inl rfl)) (bX (bq (i:=4) iS.nd rfl (Or.inl rfl)) (bX (bq (i:=5) iS.nd rfl (Or.inl rfl)) iT))))))
    (af
     (bc (eP (nK (pv 1)))
      (aq
       (az (bM (aa aw (aa ah (aa ah (aa gm ao)))))))
      aK)
    (af
     (bc (PW.pt (cy (aA lb (pv 2) (cm (aa aw (aa aw ao))) (by with_unfolding_all rfl)) (cw (aA bh (pv 1) aw (aE _)))))
      (aq
       (az (bM (aa aw (aa ah (aa ah (aa gm ao)))))))
      aK)
    (af
     (bc (PW.pt (cy (aA bh (pv 2) aw (aE _)) (cy (aA iB (pv 3) ah (aE _)) (cw (aA bh (pv 4) ah (aE _))))))
      (aq
       (az (bM (aa aw (aa (au kX (pv 3) ah) (aa ah (aa gm ao)))))))
      aK)
    (aq
     (az gQ)))))),?_⟩
  refine⟨_,rfl,a,_,rfl,jD.of hS,rfl,_,_,rfl,_,_,rfl,_,_,rfl,_,_,rfl,rfl,?_⟩
  have e:Fi s c=Fi s c:=rfl
  conv at e=>rhs;unfold Fi
  refine⟨_,rfl,_,rfl,_,rfl,?_⟩
  rw[BM c hc]
  by_cases hG:iy c=true
  ·rw[hG]
   rw[if_pos hG] at e
   exact cq ⟨(by show 4≤sizeLine;decide),fun t ht=>q.go e ht⟩
  rw[if_neg hG] at e
  refine dY (fun z=>absurd z hG) fun _=>?_
  refine⟨_,rfl,(by show 2≤sizeLine;decide),fun l hl=>⟨l,_,rfl, .inl (cz.of ag),rfl,rfl,_,rfl,?_⟩⟩
  have sl:=ay.new (o:= .lst [.str "term", .str "start"]) hl
  have q:=q.on sl
  show if ET (V.str (jw s.nm)) [.str "term", .str "start"]=true then _ else _
  rw[Le]
  by_cases h1:s.nm= .term∨s.nm= .start
  ·have:(decide (s.nm= .term)||decide (s.nm= .start))=true:=by simpa using h1
   rw[this]
   have K7:s.nm≠ .part:=by rcases h1 with z|z<;>(rw[z];decide)
   by_cases h2:c=101
   ·rw[if_pos ⟨h1,h2⟩] at e
    exact cq ⟨_,rfl,rfl,_,rfl,cA (by rw[h2,K']) ⟨(by show 4≤sizeLine;decide),fun t ht=>q.go e ht⟩⟩
   ·rw[if_neg (fun z=>h2 z.2),if_neg (fun z=>K7 z.1)] at e
    refine cq ⟨_,rfl,rfl,_,rfl,cu (by rw[K'];exact fun z=>h2 (eB.mp z)) ?_⟩
    exact⟨_,rfl,rfl,_,rfl,cu (fun z=>K7 (de (b:= .part) |>.mp z)) (q.1 e _ (ay.refl _))⟩
  ·have:(decide (s.nm= .term)||decide (s.nm= .start))=false:=by simpa using h1
   rw[this]
   rw[if_neg (fun z=>h1 z.1)] at e
   refine dG ?_
   by_cases h2:s.nm= .part
   ·refine⟨_,rfl,rfl,_,rfl,cA (de (b:= .part) |>.mpr h2) ?_⟩
    by_cases h3:0<s.sm
    ·refine⟨_,rfl,_,_,rfl,rfl,_,rfl,cA (by omega) ?_⟩
     by_cases h4:s.fg=0
     ·rw[if_pos ⟨h2,h3,h4⟩] at e
      refine⟨_,rfl,rfl,_,rfl,cA (by rw[h4];rfl) ⟨_,rfl,_,_,rfl,rfl,(by show 4≤sizeLine;decide),fun t ht=>?_⟩⟩
      have es:((s.sm:Int) - 1)=((s.sm - 1 :Nat):Int):=by omega
      rw[es]
      exact q.go e ht
     ·rw[if_neg (fun z=>h4 z.2.2)] at e
      exact⟨_,rfl,rfl,_,rfl,cu (Jg (by omega)) (q.1 e _ (ay.refl _))⟩
    ·rw[if_neg (fun z=>h3 z.2.1)] at e
     exact⟨_,rfl,_,_,rfl,rfl,_,rfl,cu (by omega) (q.1 e _ (ay.refl _))⟩
   ·rw[if_neg (fun z=>h2 z.1)] at e
    exact⟨_,rfl,rfl,_,rfl,cu (fun z=>h2 (de (b:= .part) |>.mp z)) (q.1 e _ (ay.refl _))⟩
theorem wz:ax ["_law_state","_law_deep"] ["_law_state","_law_deep"] (ak i5):=dH
theorem uH(D:Def K mg "_law_complete" "_law_complete" i5 ["_law_state","_law_deep"]):bx P w K mg base 1 "_law_complete" ["_law_state","_law_deep"] wx:=by
 refine D.fJ wz (fun vs H Q E h=>?_) (fun f bj A outer s H vs Q E hr h=>?_)
 ·obtain⟨a,s,dp,rfl,_⟩:=h
  rfl
 ·obtain⟨a,s,dp,rfl,hS,q⟩:=h
  refine⟨_,(aq
     (az (EL (cV bh (b8 f9 (pv 0) ah (fun _ _=>rfl)) aw (aE _)) (jB (jC (cV bh (b8 f9 (pv 0) ah (fun _ _=>rfl)) aw (aE _)) (jC (cV bh (pv 1) ah (aE _)) (jB (zP (b8 f9 (pv 0) ah (fun _ _=>rfl)))))))))),?_⟩
  have yes:qa s dp→Q (.bl true) H:=fun h=>by rw[decide_eq_true h] at q;exact q
  have no:¬qa s dp→Q (.bl false) H:=fun h=>by rw[decide_eq_false h] at q;exact q
  by_cases h1:s.nm= .stop
  ·refine⟨_,rfl,a,_,_,_,rfl,rfl,jD.of hS,rfl,rfl,true,congrArg V.bl (decide_eq_true (de (b:= .stop) |>.mpr h1)),cq ?_⟩
   exact yes (.inl h1)
  refine⟨_,rfl,a,_,_,_,rfl,rfl,jD.of hS,rfl,rfl,false,congrArg V.bl (decide_eq_false (fun z=>h1 (de (b:= .stop) |>.mp z))),dG ?_⟩
  by_cases h2:s.nm= .part
  ·refine⟨_,rfl,a,_,_,_,rfl,rfl,jD.of hS,rfl,rfl,true,congrArg V.bl (decide_eq_true (de (b:= .part) |>.mpr h2)),cq ?_⟩
   by_cases h3:dp=0
   ·refine⟨_,rfl,rfl,true,by rw[h3];rfl,cq ⟨_,rfl,a,_,_,_,rfl,rfl,jD.of hS,rfl,?_⟩⟩
    cases h4:s.al with
    |false=>exact⟨_,rfl,yes (.inr ⟨h2,h3,h4⟩)⟩
    |true=>exact⟨_,rfl,no (by rintro (z| ⟨_,_,z⟩);exact h1 z;rw[h4] at z;cases z)⟩
   ·exact⟨_,rfl,rfl,false,by rw[decide_eq_false (Jg (by omega))],dG (no (by rintro (z| ⟨_,z,_⟩);exact h1 z;exact h3 z))⟩
  ·exact⟨_,rfl,a,_,_,_,rfl,rfl,jD.of hS,rfl,rfl,false,congrArg V.bl (decide_eq_false (fun z=>h2 (de (b:= .part) |>.mp z))),dG (no (by rintro (z| ⟨z,_⟩);exact h1 z;exact h2 z))⟩
theorem rT:ax ["_law_name","_law_sign","_law_right","_law_wanted","_law_behind_it"] ["_law_name","_law_sign","_law_right"] (ak rh):=dH
def HB:List (Key×V):=[(Sum.inr "roof", .str "^"),(Sum.inr "minus", .str "-"),(Sum.inr "plus", .str " "),(Sum.inr "dash", .str ">"),(Sum.inr "head", .str " "),(Sum.inr "count", .str " "),(Sum.inr "gap", .str "+")]
def Jh:List (Key×V):=[(Sum.inr "roof", .str "minus"),(Sum.inr "minus", .str "end"),(Sum.inr "plus", .str "term"),(Sum.inr "dash", .str "head"),(Sum.inr "head", .str "term"),(Sum.inr "count", .str "start")]
theorem Lf:∀m:N5,qb m→m≠ .ba→cN (b7 [] HB) (Sum.inr (jw m))=some (.str ⟨#[wj m]⟩):=by
 intro m
 cases m<;>first| (intro _ _;decide+kernel) | (intro h;exact absurd h (by decide)) | (intro _ h;exact absurd rfl h)
theorem Lg:cN (b7 [] HB) (Sum.inr (jw .ba))=none:=by decide+kernel
theorem Lh:∀m:N5,qb m→m≠ .ba→(cN (b7 [] Jh) (Sum.inr (jw m))).getD (.str "plus")= .str (jw (Cv m)):=by
 intro m
 cases m<;>first| (intro _ _;decide+kernel) | (intro h;exact absurd h (by decide)) | (intro _ h;exact absurd rfl h)
theorem lP{H:Hp}{p:Addr}{D:List (Key×V)}(hp:H p=none):ay H (upd (upd H p (.dK [])) p (.dK (b7 [] D))):=fun b o z=>by
 have nb:=ai z hp
 rw[aj nb,aj nb]
 exact z
theorem BN(D:Def K mg "_law_fixed" "_law_fixed" rh ["_law_name","_law_sign","_law_right"]):bx P w K mg base 1 "_law_fixed" ["_law_name","_law_sign","_law_right"] BL:=by
 refine D.fJ rT (fun vs H Q E h=>?_) (fun f bj A outer s H vs Q E hr h=>?_)
 ·obtain⟨m,rt,c,rfl,_⟩:=h
  rfl
 ·obtain⟨m,rt,c,rfl,hm,hc,q⟩:=h
  have hu:=pq hr
  refine⟨_,(af
     (bc (PW.pt (cy (aA bh (pv 0) aw (aE _)) (cw (aA kY (pv 1) aw (by with_unfolding_all rfl)))))
      (aq
       (az (bM (aa aw (aa ah (aa ah (aa gm ao)))))))
      aK)
    (af
     (aH (i:=3) rT.nd rfl (Or.inl rfl) (qB (b5 aw aw (b5 aw aw (b5 aw aw (b5 aw aw (b5 aw aw (b5 aw aw (b5 aw aw qA))))))) rfl rfl (by intro z;cases z) (by decide)))
    (af
     (aH (i:=4) rT.nd rfl (Or.inl rfl) (qB (b5 aw aw (b5 aw aw (b5 aw aw (b5 aw aw (b5 aw aw (b5 aw aw qA)))))) rfl rfl (by intro z;cases z) (by decide)))
    (af
     (bc (PW.pt (cy (aA bh (pv 0) aw (aE _)) (cy (aA bh (pv 1) aw (aE _)) (cw (ve (eP (pv 2)))))))
      (aq
       (az (bM (aa aw (aa ah (aa ah (aa gm ao)))))))
      aK)
    (af
     (bc (PW.pt (cy (vb (Gd hu (pv 0) (pv 3))) (cw (aA bh (pv 1) (qy hu (pv 3) (pv 0) (fun _ _=>rfl)) (aE _)))))
      (aq
       (az (bM (aa (jZ hu (pv 4) (pv 0) aw ⟨rfl,rfl,rfl,rfl⟩) (aa ah (aa ah (aa gm ao)))))))
      aK)
    (aq
     (az gQ))))))),?_⟩
  have e:wk m rt c=wk m rt c:=rfl
  conv at e=>rhs;unfold wk
  refine dP (fun σ' H'=>σ'=[some (.str (jw m)),some (.str ⟨#[c]⟩),some (.bl rt),none,none]∧H'=H∧¬(m= .ba∧(c=43∨c=45))) (fun N hN=>?_) ?_
  ·by_cases h1:m= .ba
   ·refine⟨_,rfl,rfl,_,rfl,cA (de (b:= .ba) |>.mpr h1) ⟨_,rfl,_,_,rfl,rfl,_,rfl,?_⟩⟩
    rw[Ld c hc]
    by_cases h2:c=43∨c=45
    ·have:(decide (c=43)||decide (c=45))=true:=by simpa using h2
     rw[this]
     rw[if_pos ⟨h1,h2⟩] at e
     exact cq ⟨(by show 4≤sizeLine;decide),fun t ht=>q.go e ht⟩
    ·have:(decide (c=43)||decide (c=45))=false:=by simpa using h2
     rw[this]
     exact dG (hN _ _ ⟨rfl,rfl,fun z=>h2 z.2⟩)
   ·exact⟨_,rfl,rfl,_,rfl,cu (fun z=>h1 (de (b:= .ba) |>.mp z)) (hN _ _ ⟨rfl,rfl,fun z=>h1 z.1⟩)⟩
  rintro σ H1 ⟨rfl,rfl,h1⟩
  rw[if_neg h1] at e
  refine fun p hp=>⟨ag,HB,rfl,(by show 7≤15;decide),?_⟩
  have s1:=lP (D:=HB) hp
  have d1:(upd (upd H1 p (.dK [])) p (.dK (b7 [] HB))) p=some (.dK (b7 [] HB)):=ag
  generalize (upd (upd H1 p (.dK [])) p (.dK (b7 [] HB)))=H2 at s1 d1 ⊢
  dsimp only [dM]
  refine fun p2 Gb=>⟨ag,Jh,rfl,(by show 6≤15;decide),?_⟩
  have s2:=lP (D:=Jh) Gb
  have d2:(upd (upd H2 p2 (.dK [])) p2 (.dK (b7 [] Jh))) p2=some (.dK (b7 [] Jh)):=ag
  have d1:=s2 _ _ d1
  generalize (upd (upd H2 p2 (.dK [])) p2 (.dK (b7 [] Jh)))=H3 at s2 d2 d1 ⊢
  have q:=q.on (s1.trans s2)
  dsimp only [dM]
  refine dP (fun σ' H'=>σ'=[some (.str (jw m)),some (.str ⟨#[c]⟩),some (.bl rt),some (.ref p),some (.ref p2)]∧H'=H3∧¬(m= .gap∧c=45∧rt=false)) (fun N hN=>?_) ?_
  ·by_cases h2:m= .gap
   ·refine⟨_,rfl,rfl,_,rfl,cA (de (b:= .gap) |>.mpr h2) ?_⟩
    by_cases h3:c=45
    ·refine⟨_,rfl,rfl,_,rfl,cA (by rw[h3,La]) ⟨_,rfl,_,rfl,?_⟩⟩
     cases rt with
     |true=>exact dG (hN _ _ ⟨rfl,rfl,fun z=>by cases z.2.2⟩)
     |false=>
      rw[if_pos ⟨h2,h3,rfl⟩] at e
      exact cq ⟨(by show 4≤sizeLine;decide),fun t ht=>q.go e ht⟩
    ·exact⟨_,rfl,rfl,_,rfl,cu (by rw[La];exact fun z=>h3 (eB.mp z)) (hN _ _ ⟨rfl,rfl,fun z=>h3 z.2.1⟩)⟩
   ·exact⟨_,rfl,rfl,_,rfl,cu (fun z=>h2 (de (b:= .gap) |>.mp z)) (hN _ _ ⟨rfl,rfl,fun z=>h2 z.1⟩)⟩
  rintro σ H4 ⟨rfl,e4,h2⟩
  subst H4
  rw[if_neg h2] at e
  by_cases h3:m= .ba
  ·rw[if_neg (fun z=>z.1 h3)] at e
   refine⟨_,rfl,_,rfl,p,none,rfl, .inl ⟨_,Sum.inr (jw m), .inl d1,rfl,by rw[h3];exact Lg.symm⟩,_,rfl,dG (q.1 e _ (ay.refl _))⟩
  ·have hw:=Lf m hm h3
   refine⟨_,rfl,_,rfl,p,_,rfl, .inl ⟨_,Sum.inr (jw m), .inl d1,rfl,hw.symm⟩,_,rfl,cq ⟨_,rfl,_,rfl,_,rfl,p,_,rfl, .inl ⟨_,Sum.inr (jw m), .inl d1,rfl,hw.symm⟩,rfl,_,rfl,?_⟩⟩
   by_cases h4:c=wj m
   ·rw[if_pos ⟨h3,h4⟩] at e
    refine cA (by rw[h4]) ⟨_,rfl,p2,rfl, .inl ⟨_, .inl d2⟩,_,rfl,_, .inl ⟨_,Sum.inr (jw m), .inl d2,rfl,rfl⟩,(by show 4≤sizeLine;decide),fun t ht=>?_⟩
    rw[Lh m hm h3]
    exact q.go e ht
   ·rw[if_neg (fun z=>h4 z.2)] at e
    exact cu (fun z=>h4 (eB.mp z)) (q.1 e _ (ay.refl _))
theorem BO{a b:TS}{D:Ends}{σ:St}{H:Hp}(Pm:St→Hp→Prop)(h:∀N:St→Hp→Prop,(∀σ' H',Pm σ' H'→N σ' H')→a { D with nx:=N } σ H)(hr:∀σ' H',Pm σ' H'→b D σ' H'):zS a b D σ H:=h _ hr
theorem Li{s s':S5}{dp:Nat}{rt:Bool}(h:jr s dp rt 41=some s'):0<dp:=by
 obtain⟨nm,sm,fg,al⟩:=s
 unfold jr wk at h
 cases nm<;>cases al<;>simp [d9,iy,jq,qb,wj] at h<;>omega
theorem HC:∀m:N5,ET (V.str (jw m)) [.str "part", .str "dot", .str "charge", .str "count"]=(decide (m= .part)||(decide (m= .dot)||(decide (m= .ba)||decide (m= .count)))):=by
 intro m
 cases m<;>decide+kernel
theorem HD:∀m:N5,ET (V.str (jw m)) [.str "charge", .str "roof", .str "minus", .str "plus", .str "dash", .str "head", .str "count", .str "gap"]=decide (qb m):=by
 intro m
 cases m<;>decide+kernel
theorem HF:("(" :Str)=⟨#[40]⟩:=by decide+kernel
theorem HG:(")" :Str)=⟨#[41]⟩:=by decide+kernel
theorem BP:ax ["_law_state","_law_deep","_law_right","_law_sign","_law_name"] ["_law_state","_law_deep","_law_right","_law_sign"] (ak xp):=dH
theorem El(D:Def K mg "_law_next" "_law_next" xp ["_law_state","_law_deep","_law_right","_law_sign"])(T:jN K mg C)(c1:bx P w K mg base 1 "_law_figure" ["_law_state","_law_sign","_law_most"] BJ)(c2:bx P w K mg base 1 "_law_letter" ["_law_state","_law_sign"] BK)(c3:bx P w K mg base 1 "_law_fixed" ["_law_name","_law_sign","_law_right"] BL)(c4:bx P w K mg base 1 "_law_complete" ["_law_state","_law_deep"] wx):
  bx P w K mg base 2 "_law_next" ["_law_state","_law_deep","_law_right","_law_sign"] xV:=by
 obtain⟨_,_,cU⟩:=c1
 obtain⟨_,_,il⟩:=c2
 obtain⟨_,_,jg⟩:=c3
 obtain⟨_,_,bZ⟩:=c4
 refine D.fJ BP (fun vs H Q E h=>?_) (fun f bj A outer s H vs Q E hr h=>?_)
 ·obtain⟨a,s,dp,c,rt,rfl,_⟩:=h
  rfl
 ·obtain⟨a,s,dp,c,rt,rfl,hS,hc,q⟩:=h
  have hu:=pq hr
  refine⟨_,(af
     (aH (i:=4) BP.nd rfl (Or.inl rfl) (b8 f9 (pv 0) ah (fun _ _=>rfl)))
    (af
     (bc (aA kY (pv 3) aw (by with_unfolding_all rfl))
      (af
       (bc (aA bh (pv 4) aw (aE _))
        (aq
         (az (aN cU.ok (hr.mono (by decide)) rfl cU.g cU.kp cU.b .nil aP (aa (bM (aa aw (aa ah (aa ah (aa gm ao))))) (aa (pv 3) (aa ah ao))))))
        aK)
      (af
       (bc (aA lb (pv 4) (cm (iX (.str (.str (.str (.str .nil)))))) (by with_unfolding_all rfl))
        (aq
         (az (aN cU.ok (hr.mono (by decide)) rfl cU.g cU.kp cU.b .nil aP (aa (pv 0) (aa (pv 3) (aa (b8 dN (cm (aa ah (aa ah ao))) (bN iU rfl T.pG lq (aa (cV bh (pv 4) aw (aE _)) ao)) (fun _ _=>rfl)) ao))))))
        aK)
      (aq
       (az gQ))))
      aK)
    (af
     (bc (eP (b8 f9 (pv 0) ah (fun _ _=>rfl)))
      (aq
       (az gQ))
      aK)
    (af
     (bc (aA lb (pv 4) (cm (iX (.str (.str (.str (.str (.str (.str (.str (.str .nil)))))))))) (by with_unfolding_all rfl))
      (aq
       (az (aN jg.ok (hr.mono (by decide)) rfl jg.g jg.kp jg.b .nil aP (aa (pv 4) (aa (pv 3) (aa (pv 2) ao))))))
      aK)
    (af
     (bc (PW.pt (cy (aA bh (pv 3) aw (aE _)) (cw (eP (aN bZ.ok (hr.mono (by decide)) rfl bZ.g bZ.kp bZ.b .nil aP (aa (pv 0) (aa (pv 1) ao)))))))
      (aq
       (az (bM (aa aw (aa ah (aa ah (aa gm ao)))))))
      aK)
    (af
     (bc (aA bh (pv 4) aw (aE _))
      (aq
       (az gQ))
      aK)
    (af
     (bc (PW.pt (zO (eP (nK (pv 3))) (vc (eP (vC (pv 3))))))
      (aq
       (az (aN il.ok (hr.mono (by decide)) rfl il.g il.kp il.b .nil aP (aa (pv 0) (aa (pv 3) ao)))))
      aK)
    (af
     (bc (PW.pt (cy (aA bh (pv 3) aw (aE _)) (cw (aA sv (pv 1) ah (aE _)))))
      (aq
       (az (bM (aa aw (aa ah (aa ah (aa gm ao)))))))
      aK)
    (af
     (bc (PW.pt (cy (aA bh (pv 4) aw (aE _)) (cy (aA bh (pv 3) aw (aE _)) (cw (aA iB (pv 1) ah (aE _))))))
      (aq
       (az (bM (aa aw (aa ah (aa ah (aa gm ao)))))))
      aK)
    (af
     (bc (PW.pt (cy (aA bh (pv 4) aw (aE _)) (cy (aA kY (pv 3) aw (by with_unfolding_all rfl)) (cw (aA bh (pv 1) ah (aE _))))))
      (aq
       (az (bM (aa (qy hu (qB (b5 aw aw (b5 aw aw qA)) rfl rfl (by intro z;cases z) (by decide)) (pv 3) (fun _ _=>rfl)) (aa ah (aa ah (aa gm ao)))))))
      aK)
    (aq
     (az gQ)))))))))))),?_⟩
  refine⟨_,rfl,a,_,_,_,rfl,rfl,jD.of hS,rfl,?_⟩
  have e:jr s dp rt c=jr s dp rt c:=rfl
  conv at e=>rhs;unfold jr
  dsimp only [dM]
  refine⟨_,rfl,_,_,rfl,rfl,_,rfl,?_⟩
  rw[Lb c hc]
  by_cases hF:d9 c=true
  ·rw[hF]
   rw[if_pos hF] at e
   by_cases h1:s.nm= .term
   ·rw[if_pos h1] at e
    refine cq ⟨_,rfl,rfl,_,rfl,cA (de (b:= .term) |>.mpr h1) ⟨(by show 4≤sizeLine;decide),fun t ht=>⟨_,rfl,t,⟨.count,0,0,false⟩,c,12,rfl,ag,hc,?_⟩⟩⟩
    rw[←e]
    exact q.on (ay.new ht)
   rw[if_neg h1] at e
   refine cq ⟨_,rfl,rfl,_,rfl,cu (fun z=>h1 (de (b:= .term) |>.mp z)) ⟨_,rfl,(by show 4≤sizeLine;decide),fun l hl=>⟨l,_,rfl, .inl (cz.of ag),rfl,rfl,_,rfl,?_⟩⟩⟩
   show if ET (V.str (jw s.nm)) [.str "part", .str "dot", .str "charge", .str "count"]=true then _ else _
   rw[HC]
   have sl:=ay.new (o:= .lst [.str "part", .str "dot", .str "charge", .str "count"]) hl
   have HH:uF _ a s:=sl _ _ hS
   have q:=q.on sl
   by_cases h2:s.nm= .part∨s.nm= .dot∨s.nm= .ba∨s.nm= .count
   ·have:(decide (s.nm= .part)||(decide (s.nm= .dot)||(decide (s.nm= .ba)||decide (s.nm= .count))))=true:=by simpa using h2
    rw[this]
    rw[if_pos h2] at e
    refine cq ⟨_,rfl,_,rfl,(by show 2≤sizeLine;decide),fun l2 wW=>?_⟩
    have OX:=ay.new (o:= .lst [.int 3, .int 12]) wW
    by_cases h3:s.nm= .count
    ·rw[if_pos h3] at e
     refine⟨_,rfl,rfl, .inr ⟨true,congrArg (fun b=>[V.bl b]) (decide_eq_true (de (b:= .count) |>.mpr h3)),l2,_,_,_,rfl,rfl,cz.of ag,rfl,a,s,c,12,rfl,OX _ _ HH,hc,?_⟩⟩
     rw[←e]
     exact q.on OX
    ·rw[if_neg h3] at e
     refine⟨_,rfl,rfl, .inr ⟨false,congrArg (fun b=>[V.bl b]) (decide_eq_false (fun z=>h3 (de (b:= .count) |>.mp z))),l2,_,_,_,rfl,rfl,cz.of ag,rfl,a,s,c,3,rfl,OX _ _ HH,hc,?_⟩⟩
     rw[←e]
     exact q.on OX
   ·have:(decide (s.nm= .part)||(decide (s.nm= .dot)||(decide (s.nm= .ba)||decide (s.nm= .count))))=false:=by simpa using h2
    rw[this]
    rw[if_neg h2] at e
    exact dG (q.1 e _ (ay.refl _))
  rw[if_neg hF] at e
  refine dY (fun z=>absurd z hF) fun _=>?_
  refine⟨_,rfl,a,_,_,_,rfl,rfl,jD.of hS,rfl,_,rfl,?_⟩
  by_cases Jb:s.al=true
  ·rw[Jb]
   rw[if_pos Jb] at e
   exact cq (q.1 e _ (ay.refl _))
  rw[if_neg Jb] at e
  refine dY (fun z=>absurd z Jb) fun _=>?_
  refine⟨_,rfl,(by show 8≤sizeLine;decide),fun l hl=>⟨l,_,rfl, .inl (cz.of ag),rfl,rfl,_,rfl,?_⟩⟩
  show if ET (V.str (jw s.nm)) [.str "charge", .str "roof", .str "minus", .str "plus", .str "dash", .str "head", .str "count", .str "gap"]=true then _ else _
  rw[HD]
  have sl:=ay.new (o:= .lst [.str "charge", .str "roof", .str "minus", .str "plus", .str "dash", .str "head", .str "count", .str "gap"]) hl
  have HH:uF _ a s:=sl _ _ hS
  have q:=q.on sl
  by_cases Lj:qb s.nm
  ·rw[if_pos Lj] at e
   refine cA Lj ⟨_,rfl,_,rfl,_,rfl,s.nm,rt,c,rfl,Lj,hc,?_⟩
   rw[←e]
   exact q
  rw[if_neg Lj] at e
  refine cu Lj ?_
  generalize upd H l _=H1 at HH q
  dsimp only [zR]
  refine dP (fun σ' H'=>σ'=[some (.ref a),some (.int (dp:Int)),some (.bl rt),some (.str ⟨#[c]⟩),some (.str (jw s.nm))]∧H'=H1∧¬(c=32∧qa s dp)) (fun N hN=>?_) ?_
  ·by_cases jy:c=32
   ·refine⟨_,rfl,rfl,_,rfl,cA (by rw[jy,K2]) ⟨_,rfl,_,rfl,a,s,dp,rfl,HH,_,rfl,?_⟩⟩
    by_cases Em:qa s dp
    ·rw[if_pos ⟨jy,Em⟩] at e
     exact cA Em ⟨(by show 4≤sizeLine;decide),fun t ht=>q.go e ht⟩
    ·exact cu Em (hN _ _ ⟨rfl,rfl,fun z=>Em z.2⟩)
   ·exact⟨_,rfl,rfl,_,rfl,cu (by rw[K2];exact fun z=>jy (eB.mp z)) (hN _ _ ⟨rfl,rfl,fun z=>jy z.1⟩)⟩
  rintro σ H2 ⟨rfl,e2,h1⟩
  subst H2
  rw[if_neg h1] at e
  by_cases yb:s.nm= .stop
  ·rw[if_pos yb] at e
   exact⟨_,rfl,rfl,_,rfl,cA (de (b:= .stop) |>.mpr yb) (q.1 e _ (ay.refl _))⟩
  rw[if_neg yb] at e
  refine⟨_,rfl,rfl,_,rfl,cu (fun z=>yb (de (b:= .stop) |>.mp z)) ?_⟩
  by_cases hl:iy c=true∨jq c=true
  ·rw[if_pos hl] at e
   refine⟨_,rfl,_,rfl,_,rfl,?_⟩
   rw[BM c hc]
   have fin:Cw H1 (Fi s c) Q:=by rw[←e];exact q
   by_cases hg:iy c=true
   ·rw[hg]
    exact cq (cq ⟨_,rfl,_,rfl,a,s,c,rfl,HH,hc,fin⟩)
   ·refine dY (fun z=>absurd z hg) fun _=>⟨_,rfl,_,rfl,_,rfl,?_⟩
    rw[Fp c hc,hl.resolve_left hg]
    exact cq ⟨_,rfl,_,rfl,a,s,c,rfl,HH,hc,fin⟩
  rw[if_neg hl] at e
  have g0:iy c=false:=by cases z:iy c;rfl;exact absurd (.inl z) hl
  have s0:jq c=false:=by cases z:jq c;rfl;exact absurd (.inr z) hl
  refine⟨_,rfl,_,rfl,_,rfl,?_⟩
  rw[BM c hc,g0]
  refine dG ⟨_,rfl,_,rfl,_,rfl,?_⟩
  rw[Fp c hc,s0]
  refine dG ?_
  dsimp only [zR]
  refine dP (fun σ' H'=>σ'=[some (.ref a),some (.int (dp:Int)),some (.bl rt),some (.str ⟨#[c]⟩),some (.str (jw s.nm))]∧H'=H1∧¬(c=40∧dp<4)) (fun N hN=>?_) ?_
  ·by_cases jW:c=40
   ·refine⟨_,rfl,rfl,_,rfl,cA (by rw[jW,HF]) ⟨_,rfl,_,_,rfl,rfl,_,rfl,?_⟩⟩
    by_cases h4:dp<4
    ·rw[if_pos ⟨jW,h4⟩] at e
     exact cA (by omega) ⟨(by show 4≤sizeLine;decide),fun t ht=>q.go e ht⟩
    ·exact cu (by omega) (hN _ _ ⟨rfl,rfl,fun z=>h4 z.2⟩)
   ·exact⟨_,rfl,rfl,_,rfl,cu (by rw[HF];exact fun z=>jW (eB.mp z)) (hN _ _ ⟨rfl,rfl,fun z=>jW z.1⟩)⟩
  rintro σ H2 ⟨rfl,e2,h2⟩
  subst H2
  rw[if_neg h2] at e
  by_cases hp:s.nm= .part
  ·refine dP (fun σ' H'=>σ'=[some (.ref a),some (.int (dp:Int)),some (.bl rt),some (.str ⟨#[c]⟩),some (.str (jw s.nm))]∧H'=H1∧¬(s.nm= .part∧c=41∧0<dp)) (fun N hN=>?_) ?_
   ·refine⟨_,rfl,rfl,_,rfl,cA (de (b:= .part) |>.mpr hp) ?_⟩
    by_cases tQ:c=41
    ·refine⟨_,rfl,rfl,_,rfl,cA (by rw[tQ,HG]) ⟨_,rfl,_,_,rfl,rfl,_,rfl,?_⟩⟩
     by_cases h0:0<dp
     ·rw[if_pos ⟨hp,tQ,h0⟩] at e
      exact cA (by omega) ⟨(by show 4≤sizeLine;decide),fun t ht=>q.go e ht⟩
     ·exact cu (by omega) (hN _ _ ⟨rfl,rfl,fun z=>h0 z.2.2⟩)
    ·exact⟨_,rfl,rfl,_,rfl,cu (by rw[HG];exact fun z=>tQ (eB.mp z)) (hN _ _ ⟨rfl,rfl,fun z=>tQ z.2.1⟩)⟩
   rintro σ H2 ⟨rfl,e2,h3⟩
   subst H2
   rw[if_neg h3] at e
   refine⟨_,rfl,rfl,_,rfl,cA (de (b:= .part) |>.mpr hp) ⟨_,rfl,_,_,rfl,rfl,_,rfl,?_⟩⟩
   rw[Lc c hc]
   by_cases h4:c=46∨c=94
   ·have:(decide (c=46)||decide (c=94))=true:=by simpa using h4
    rw[this]
    refine cq ⟨_,rfl,rfl,_,rfl,?_⟩
    by_cases h0:dp=0
    ·rw[if_pos ⟨hp,h4,h0⟩] at e
     refine cA (by rw[h0];rfl) fun p Gx=>⟨ag,[(Sum.inr ".", .str "dot"),(Sum.inr "^", .str "charge")],rfl,(by show 2≤15;decide),_,rfl,p, .str (jw (if c=46 then .dot else .ba)),rfl, .inl ⟨_,Sum.inr ⟨#[c]⟩, .inl ag,rfl,?_⟩,(by show 4≤sizeLine;decide),fun t ht=>?_⟩
     ·rcases h4 with z|z<;>(rw[z];decide+kernel)
     ·exact(q.on (lP Gx)).go e ht
    ·rw[if_neg (fun z=>h0 z.2.2)] at e
     exact cu (Jg (by omega)) (q.1 e _ (ay.refl _))
   ·have:(decide (c=46)||decide (c=94))=false:=by simpa using h4
    rw[this]
    rw[if_neg (fun z=>h4 z.2.1)] at e
    exact dG (q.1 e _ (ay.refl _))
  ·rw[if_neg (fun z=>hp z.1),if_neg (fun z=>hp z.1)] at e
   exact⟨_,rfl,rfl,_,rfl,cu (fun z=>hp (de (b:= .part) |>.mp z)) ⟨_,rfl,rfl,_,rfl,cu (fun z=>hp (de (b:= .part) |>.mp z)) (q.1 e _ (ay.refl _))⟩⟩
theorem HI{x:Str}{i:Nat}(h:i<x.length):∃c,x.cps.toList[i]? =some c∧x.cps.toList.drop i=c::x.cps.toList.drop (i+1):=by
 have hl:x.cps.toList.length=x.length:=by simp [Str.length]
 have hi:i<x.cps.toList.length:=by omega
 exact⟨_,List.getElem?_eq_getElem hi,List.drop_eq_getElem_cons hi⟩
theorem HJ{x:Str}(ha:x.cps.all (· <128)=true){i c:Nat}(h:x.cps.toList[i]? =some c):c<128:=by
 have:=Array.all_eq_true.mp ha
 rw[Array.getElem?_toList] at h
 obtain⟨hi,e⟩:=Array.getElem?_eq_some_iff.mp h
 have:=this i hi
 rw[e] at this
 simpa using this
def qf(l:List Nat):Int:=match dI t5 0 false l with
 |none=> -1
 |some u=>(l.length:Int) - (u.length:Int)
def uJ:Sp:=fun vs H Q _=>∃x:Str,vs=[.str x]∧x.cps.all (· <128)=true∧x.length≤1000∧∀H',ay H H'→Q (.int (qf x.cps.toList)) H'
theorem fY:ax ["_law_text","_law_state","_law_deep","_law_right","_law_k"] ["_law_text"] (ak ri):=dH
theorem BQ(D:Def K mg "_law_place" "_law_place" ri ["_law_text"])(T:jN K mg C)(c1:bx P w K mg base 2 "_law_next" ["_law_state","_law_deep","_law_right","_law_sign"] xV)(c2:bx P w K mg base 1 "_law_complete" ["_law_state","_law_deep"] wx):bx P w K mg base 3 "_law_place" ["_law_text"] uJ:=by
 obtain⟨_,_,kN⟩:=c1
 obtain⟨_,_,bZ⟩:=c2
 refine D.fJ fY (fun vs H Q E h=>?_) (fun f bj A outer s H vs Q E hr h=>?_)
 ·obtain⟨x,rfl,_⟩:=h
  rfl
 ·obtain⟨x,rfl,ha,hx,q⟩:=h
  have big:(2000 :Nat)≤sizeLine:=by decide
  have hl:x.cps.toList.length=x.length:=by simp [Str.length]
  refine⟨_,(af
     (aH (i:=1) fY.nd rfl (Or.inl rfl) (bM (aa aw (aa ah (aa ah (aa gm ao))))))
    (af
     (aH (i:=2) fY.nd rfl (Or.inl rfl) ah)
    (af
     (aH (i:=3) fY.nd rfl (Or.inl rfl) gm)
    (af
     (gS PassesOwn.never rfl (dC rfl T.fT (aa (bJ cE rfl T.gI dZ (aa (pv 0) ao)) ao)) (bq (i:=4) fY.nd rfl (Or.inl rfl))
      (af
       (aH (i:=3) fY.nd rfl (Or.inl rfl) (EL (pv 3) (jB (cV bh (b8 f9 (pv 1) ah (fun _ _=>rfl)) aw (aE _)))))
      (af
       (aH (i:=1) fY.nd rfl (Or.inl rfl) (aN kN.ok (hr.mono (by decide)) rfl kN.g kN.kp kN.b .nil aP (aa (pv 1) (aa (pv 2) (aa (pv 3) (aa (b8 gU (pv 0) (pv 4) (fun _ _=>rfl)) ao))))))
      (af
       (bc (vb (zN (pv 1)))
        (aq
         (az (pv 4)))
        aK)
      (aq
       (aH (i:=2) fY.nd rfl (Or.inl rfl) (au kX (au bo (pv 2) (bN iU rfl T.pG lq (aa (cV bh (b8 gU (pv 0) (pv 4) (fun _ _=>rfl)) aw (aE _)) ao))) (bN iU rfl T.pG lq (aa (cV bh (b8 gU (pv 0) (pv 4) (fun _ _=>rfl)) aw (aE _)) ao)))))))))
    (af
     (bc (PW.pt (cy (eP (pv 3)) (cw (eP (aN bZ.ok (hr.mono (by decide)) rfl bZ.g bZ.kp bZ.b .nil aP (aa (pv 1) (aa (pv 2) ao)))))))
      (aq
       (az (lQ iA ah)))
      aK)
    (aq
     (az (bJ cE rfl T.gI dZ (aa (pv 0) ao))))))))),?_⟩
  refine⟨(by show 4≤sizeLine;decide),fun t0 KU=>?_⟩
  dsimp only [dM]
  refine⟨_,rfl,x,rfl,by omega,_,rfl,by omega,by omega,dX (fun i σ H'=>∃(s:S5) (dp:Nat) (t:Addr) (rt:Bool) (v4:Option V),σ=[some (.str x),some (.ref t),some (.int (dp:Int)),some (.bl rt),v4]∧uF H' t s∧ay H H'∧i≤x.length∧dI t5 0 false x.cps.toList=dI s dp rt (x.cps.toList.drop i)) ⟨t5,0,t0,false,none,rfl,ag,ay.new KU,Nat.zero_le _,rfl⟩ ?_ ?_⟩
  ·rintro i σ H1 hi ⟨s,dp,t,rt,v4,rfl,hS,e1,_,hv⟩
   have hi:i<x.length:=by omega
   obtain⟨c,hc,hd⟩:=HI hi
   have e0:((0 :Int)+(i:Int))=((i:Nat):Int):=by omega
   rw[e0]
   dsimp only [dM]
   refine BO (fun σ' H'=>σ'=[some (.str x),some (.ref t),some (.int (dp:Int)),some (.bl (rt||decide (s.nm= .head))),some (.int (i:Int))]∧H'=H1) (fun N hN=>?_) ?_
   ·refine⟨_,rfl,rt,rfl,?_⟩
    cases rt with
    |true=>exact cq (hN _ _ ⟨rfl,rfl⟩)
    |false=>
     refine dG ⟨_,rfl,t,_,_,_,rfl,rfl,jD.of hS,rfl,rfl,hN _ _ ⟨?_,rfl⟩⟩
     have:(decide (V.str (jw s.nm)=V.str "head"):Bool)=decide (s.nm= .head):=decide_eq_decide.mpr (de (b:= .head))
     rw[this]
     rfl
   rintro σ H2 ⟨rfl,e2⟩
   subst H2
   generalize Rw:(rt||decide (s.nm= .head))=Wr
   have at_:wV x.cps.toList ((i:Nat):Int)=some c:=gT hc
   refine⟨_,rfl,_,rfl,_,rfl,_,rfl,_,rfl,x,_,c,rfl,rfl,by omega,at_,t,s,dp,c,Wr,rfl,hS,HJ ha hc,fun e H2 k2=>?_,fun s' e t2 H2 Yn k2=>?_⟩
   ·refine⟨_,rfl,_,rfl,cA rfl ⟨_,rfl,?_⟩⟩
    have:=q H2 (e1.trans k2)
    rw[hd,lN (by rw[Rw];exact e),←hd] at hv
    have ep:qf x.cps.toList=(i:Int):=by
     unfold qf
     rw[hv]
     show (x.cps.toList.length:Int) - ((x.cps.toList.drop i).length:Int)=(i:Int)
     rw[List.length_drop]
     omega
    rw[ep] at this
    exact this
   ·refine⟨_,rfl,_,rfl,cu (by intro z;cases z) ?_⟩
    have Yo:(decide (V.str (⟨#[c]⟩:Str)=V.str "("):Bool)=decide (c=40):=by rw[HF];exact decide_eq_decide.mpr eB
    have Yp:(decide (V.str (⟨#[c]⟩:Str)=V.str ")"):Bool)=decide (c=41):=by rw[HG];exact decide_eq_decide.mpr eB
    refine⟨_,rfl,_,rfl,_,rfl,x,_,c,rfl,rfl,by omega,at_,rfl, .inr ⟨decide (c=40),by rw[Yo],_,_,rfl,rfl,_,rfl,_,rfl,x,_,c,rfl,rfl,by omega,at_,rfl, .inr ⟨decide (c=41),by rw[Yp],_,_,rfl,rfl,?_⟩⟩⟩
    refine⟨s',wm dp c,t2,Wr,some (.int (i:Int)),?_,Yn,e1.trans k2,by omega,by rw[hv,hd,fH (by rw[Rw];exact e),Rw]⟩
    have ed:((dp:Int)+(if decide (c=40)=true then 1 else 0)) - (if decide (c=41)=true then 1 else 0)=((wm dp c:Nat):Int):=by
     unfold wm
     by_cases jW:c=40
     ·subst jW
      simp
     ·by_cases tQ:c=41
      ·subst tQ
       have:=Li e
       simp
       omega
      ·simp [jW,tQ]
    rw[ed]
    rfl
  ·rintro σ H1 ⟨s,dp,t,rt,v4,rfl,hS,e1,_,hv⟩
   have hn:x.cps.toList.drop x.length=[]:=List.drop_eq_nil_of_le (by omega)
   have hv:dI t5 0 false x.cps.toList=dI s dp rt []:=by rw[hv,←hn];rfl
   have fin:=q H1 e1
   have yes:rt=true∧qa s dp→Q (.int (-1)) H1:=fun h=>by
    have:qf x.cps.toList= -1:=by unfold qf;rw[hv,dI,if_pos h]
    rw[this] at fin
    exact fin
   have no:¬(rt=true∧qa s dp)→Q (.int (x.length:Int)) H1:=fun h=>by
    have:qf x.cps.toList=(x.length:Int):=by
     unfold qf
     rw[hv,dI,if_neg h]
     show (x.cps.toList.length:Int) - (([]:List Nat).length:Int)=_
     rw[hl]
     exact Int.sub_zero _
    rw[this] at fin
    exact fin
   cases rt with
   |false=>exact⟨_,rfl,_,rfl,dG ⟨_,rfl,x,rfl,by omega,no fun z=>by cases z.1⟩⟩
   |true=>
    refine⟨_,rfl,_,rfl,cq ⟨_,rfl,_,rfl,t,s,dp,rfl,hS,_,rfl,?_⟩⟩
    by_cases Em:qa s dp
    ·exact cA Em ⟨1,rfl,yes ⟨rfl,Em⟩⟩
    ·exact cu Em ⟨_,rfl,x,rfl,by omega,no fun z=>Em z.2⟩
def xW:List Nat:=[32,43,45,62,94,46,40,41,101,72,111,48,49,50,51,52,53,57,67]
theorem HK(z:Int):∃c,wV (" +->^.()eHo0123459C" :Str).cps.toList (z%19)=some c∧c<128:=by
 have e:(" +->^.()eHo0123459C" :Str).cps.toList=xW:=by decide+kernel
 have h0:=Int.emod_nonneg z (show (19 :Int)≠0 by decide)
 have h1:=Int.emod_lt_of_pos z (show (0 :Int) <19 by decide)
 obtain⟨k,hk⟩:=Int.eq_ofNat_of_zero_le h0
 rw[e,hk]
 have hl:k<xW.length:=by show k<19;omega
 refine⟨xW[k],gT (List.getElem?_eq_getElem hl),?_⟩
 have:∀c∈xW,c<128:=by decide
 exact this _ (List.getElem_mem hl)
def uO:Sp:=fun vs H Q _=>∃(l:List Nat) (n:Int),vs=[.str ⟨l.toArray⟩, .int n]∧cO l∧l.length≤1000∧∀l' H',cO l'→l'.length≤l.length+1→ay H H'→Q (.str ⟨l'.toArray⟩) H'
theorem kO:ax ["_law_text","_law_cell","_law_at","_law_sign","_law_way"] ["_law_text","_law_cell"] (ak mL):=dH
theorem zp(D:Def K mg "_law_spoilt" "_law_spoilt" mL ["_law_text","_law_cell"])(T:jN K mg C)(c2:bx P w K mg base 1 "_law_mixed" ["_law_cell","_law_prime"] mQ):bx P w K mg base 2 "_law_spoilt" ["_law_text","_law_cell"] uO:=by
 obtain⟨_,_,bB⟩:=c2
 refine D.fJ kO (fun vs H Q E h=>?_) (fun f bj A outer s H vs Q E hr h=>?_)
 ·obtain⟨l,n,rfl,_⟩:=h
  rfl
 ·obtain⟨l,n,rfl,ha,hl,q⟩:=h
  have big:(4000 :Nat)≤sizeLine:=by decide
  have xl:(⟨l.toArray⟩:Str).length=l.length:=aB l
  refine⟨_,(af
     (aH (i:=2) kO.nd rfl (Or.inl rfl) (au bp (pv 1) (au bo (bJ cE rfl T.gI dZ (aa (pv 0) ao)) ah)))
    (af
     (aH (i:=3) kO.nd rfl (Or.inl rfl) (b8 gU aw (au bp (aN bB.ok (hr.mono (by decide)) rfl bB.g bB.kp bB.b .nil aP (aa (pv 1) (aa ah ao))) ah) (fun _ _=>rfl)))
    (af
     (aH (i:=4) kO.nd rfl (Or.inl rfl) (au bp (aN bB.ok (hr.mono (by decide)) rfl bB.g bB.kp bB.b .nil aP (aa (pv 1) (aa ah ao))) ah))
    (af
     (bc (aA bh (pv 4) ah (aE _))
      (aq
       (az (au aG (au aG (bK dA (pv 0) dv (bF (pv 2))) (pv 3)) (bK dA (pv 0) (bF (pv 2)) dv))))
      aK)
    (af
     (bc (aA bh (pv 4) ah (aE _))
      (aq
       (az (au aG (bK dA (pv 0) dv (bF (pv 2))) (bK dA (pv 0) (bF (au bo (pv 2) ah)) dv))))
      aK)
    (af
     (bc (aA bh (pv 4) ah (aE _))
      (aq
       (az (au aG (au aG (bK dA (pv 0) dv (bF (pv 2))) (pv 3)) (bK dA (pv 0) (bF (au bo (pv 2) ah)) dv))))
      aK)
    (aq
     (az (au aG (au aG (bK dA (pv 0) dv (bF (pv 2))) (bK dA (pv 0) (bF (pv 2)) (bF (au bo (pv 2) ah)))) (bK dA (pv 0) (bF (pv 2)) dv)))))))))),?_⟩
  refine⟨_,rfl,_,rfl,⟨l.toArray⟩,rfl,by omega,_,_,rfl,rfl,_,_,rfl,rfl,by omega,?_⟩
  obtain⟨a,ea⟩:=Int.eq_ofNat_of_zero_le (Int.emod_nonneg n (show (((⟨l.toArray⟩:Str).length:Int)+1)≠0 by omega))
  have al:a≤l.length:=by
   have:=Int.emod_lt_of_pos n (show (0 :Int) < ((⟨l.toArray⟩:Str).length:Int)+1 by omega)
   omega
  rw[ea]
  refine⟨_,rfl,n,1000081,5,rfl,by decide,rfl,fun z1 H1 e1=>?_⟩
  obtain⟨c,tW,hc⟩:=HK z1
  refine⟨_,_,rfl,rfl,by decide," +->^.()eHo0123459C",_,c,rfl,rfl,by decide+kernel,tW,?_⟩
  have e2:ay H1 H1:=ay.refl H1
  refine⟨_,rfl,n,1000099,6,rfl,by decide,rfl,fun z2 H3 e3=>⟨_,_,rfl,rfl,by decide,?_⟩⟩
  have OY:=e1.trans (e2.trans e3)
  have s1:cO [c]:=fun b hb=>by rw[List.mem_singleton.mp hb];exact hc
  have ce:(⟨#[c]⟩:Str)=⟨[c].toArray⟩:=rfl
  refine⟨_,rfl,rfl,_,rfl,dY (fun _=>?_) fun _=>?_⟩
  ·refine⟨_,rfl,_,rfl,_,rfl,⟨l.toArray⟩,rfl,by omega,?_⟩
   rw[uf l al]
   refine⟨_,rfl,_,_,rfl,rfl,by rw[aB,ce,aB,List.length_take];show _+1≤_;omega,?_⟩
   refine⟨_,rfl,_,rfl,_,rfl,⟨l.toArray⟩,rfl,by omega,?_⟩
   rw[Bq l al,ce,aO]
   refine⟨_,_,rfl,rfl,by rw[aB,aB,List.length_append,List.length_take,List.length_drop];show _+1+_≤_;omega,?_⟩
   rw[aO]
   exact q _ H3 (((ha.take a).app s1).app (ha.drop a)) (by rw[List.length_append,List.length_append,List.length_take,List.length_drop];show _+1+_≤_;omega) OY
  ·refine⟨_,rfl,rfl,_,rfl,dY (fun _=>?_) fun _=>?_⟩
   ·refine⟨_,rfl,_,rfl,_,rfl,⟨l.toArray⟩,rfl,by omega,?_⟩
    rw[uf l al]
    refine⟨_,rfl,_,rfl,_,_,rfl,rfl,_,rfl,⟨l.toArray⟩,rfl,by omega,?_⟩
    rw[vZ l al]
    refine⟨_,_,rfl,rfl,by rw[aB,aB,List.length_take,List.length_drop];omega,?_⟩
    rw[aO]
    exact q _ H3 ((ha.take a).app (ha.drop _)) (by rw[List.length_append,List.length_take,List.length_drop];omega) OY
   ·refine⟨_,rfl,rfl,_,rfl,dY (fun _=>?_) fun _=>?_⟩
    ·refine⟨_,rfl,_,rfl,_,rfl,⟨l.toArray⟩,rfl,by omega,?_⟩
     rw[uf l al]
     refine⟨_,rfl,_,_,rfl,rfl,by rw[aB,ce,aB,List.length_take];show _+1≤_;omega,?_⟩
     refine⟨_,rfl,_,rfl,_,_,rfl,rfl,_,rfl,⟨l.toArray⟩,rfl,by omega,?_⟩
     rw[vZ l al,ce,aO]
     refine⟨_,_,rfl,rfl,by rw[aB,aB,List.length_append,List.length_take,List.length_drop];show _+1+_≤_;omega,?_⟩
     rw[aO]
     exact q _ H3 (((ha.take a).app s1).app (ha.drop _)) (by rw[List.length_append,List.length_append,List.length_take,List.length_drop];show _+1+_≤_;omega) OY
    ·refine⟨_,rfl,_,rfl,_,rfl,⟨l.toArray⟩,rfl,by omega,?_⟩
     rw[uf l al]
     refine⟨_,rfl,_,rfl,_,rfl,_,rfl,_,_,rfl,rfl,_,rfl,⟨l.toArray⟩,rfl,by omega,?_⟩
     rw[show ((a:Int)+1)=((a+1 :Nat):Int) by omega,Hs l (a:=a) (b:=a+1) (by omega) al,show a+1 - a=1 by omega]
     refine⟨_,_,rfl,rfl,by rw[aB,aB,List.length_take,List.length_take,List.length_drop];omega,?_⟩
     refine⟨_,rfl,_,rfl,_,rfl,⟨l.toArray⟩,rfl,by omega,?_⟩
     rw[Bq l al,aO]
     refine⟨_,_,rfl,rfl,by rw[aB,aB,List.length_append,List.length_take,List.length_take,List.length_drop];omega,?_⟩
     rw[aO]
     exact q _ H3 (((ha.take a).app ((ha.drop a).take 1)).app (ha.drop a)) (by rw[List.length_append,List.length_append,List.length_take,List.length_take,List.length_drop];omega) OY
def kQ(x:Tm):List Nat:=bw x.1++((if x.1=1 then [] else [32])++fL x.2)
def Fq(xs:List Tm):List Nat:=xs.flatMap fun x=>[32,43,32]++kQ x
def oW:List Tm→List Nat
 | []=>[]
 |x::r=>kQ x++Fq r
theorem uQ(x:Tm):sj x=⟨(kQ x).toArray⟩:=by
 unfold sj kQ
 by_cases h:x.1=1
 ·rw[if_pos h,if_pos h,h,g9]
  rfl
 ·have e:(toString x.1 :Str)=⟨(bw x.1).toArray⟩:=by
   rw[←bY]
   unfold dq
   rw[if_neg h]
  rw[if_neg h,if_neg h,e,K2,show (⟨#[32]⟩:Str)=⟨[32].toArray⟩ from rfl,aO,aO,List.append_assoc]
theorem uR:∀xs:List Tm,Str.join " + " (xs.map sj)=⟨(oW xs).toArray⟩
 | []=>rfl
 | [x]=>by
   show sj x=_
   rw[uQ]
   show _=(⟨(kQ x++[]).toArray⟩:Str)
   rw[List.append_nil]
 |x::y::r=>by
  have ih:=uR (y::r)
  show sj x++" + " ++Str.join " + " ((y::r).map sj)=_
  have ej:(" + " :Str)=⟨[32,43,32].toArray⟩:=by decide+kernel
  rw[ih,uQ,ej,aO,aO]
  congr 2
  show kQ x++[32,43,32]++(kQ y++Fq r)=kQ x++(([32,43,32]++kQ y)++Fq r)
  simp only [List.append_assoc]
theorem qg(xs:List Tm):Q8 xs=⟨(oW xs).toArray⟩:=by
 unfold Q8
 have e:=PyProof.Rows.join_closes (sep:=" + ") (sep':=" + ") (ys:=xs.map sj) rfl
 rw[show Txt.join " + " (xs.map sj)=Str.join " + " (xs.map sj) by simpa using e]
 exact uR xs
theorem BR{n:Int}(h1:1≤n)(h2:n<10^12):cO (bw n):=fun c hc=>by
 obtain⟨m,rfl,m1,m0⟩:=nQ h1 h2
 have:=List.all_eq_true.mp (fU m) c hc
 simp only [d9,Bool.and_eq_true,decide_eq_true_eq] at this
 omega
theorem HL{x:Fm}(h:Cp 1 x.1 x.2):cO (fL x):=by
 obtain⟨xs,n⟩:=x
 cases xs with
 |nil=>
  have:∀c∈[101,94,45],c<128:=by decide
  exact this
 |cons x r=>
  obtain⟨_,ho,n1,n2⟩:=h
  refine(Bo (ho x (List.mem_cons_self ..)).2.1).app (cO.app (fun c hc=>?_) fun c hc=>?_)
  ·obtain⟨y,hy,hc⟩:=List.mem_flatMap.mp hc
   obtain⟨_,o1,o2,o3⟩:=ho y (List.mem_cons_of_mem _ hy)
   rcases List.mem_cons.mp hc with rfl|hc
   ·decide
   ·exact((mT o2 o3).app (Bo o1)) c hc
  ·unfold lV at hc
   by_cases h0:n=0
   ·rw[if_pos h0] at hc;cases hc
   ·rw[if_neg h0] at hc
    rcases List.mem_cons.mp hc with rfl|hc
    ·decide
    ·rcases List.mem_append.mp hc with hc|hc
     ·exact mT (by split<;>omega) (by split<;>omega) c hc
     ·have:c=if 0<n then 43 else 45:=by simpa using hc
      rw[this]
      split<;>decide
theorem BS{x:Tm}(h:oU 999999999999 x):cO (kQ x)∧(kQ x).length≤46:=by
 obtain⟨h1,h2,OT,hl,_⟩:=h
 have OV:x.1<10^12:=by omega
 have hb:cO (if x.1=1 then [] else [32])∧(if x.1=1 then ([]:List Nat) else [32]).length≤1:=by
  split
  ·exact⟨(fun c hc=>by cases hc),by decide⟩
  ·exact⟨(fun c hc=>by rw[List.mem_singleton.mp hc];decide),by decide⟩
 have hf:(bw x.1).length≤12:=by
  obtain⟨m,em,m1,m0⟩:=nQ h1 OV
  have:=lD (n:=m) (k:=12) (by decide) (by omega)
  rw[bY,aB] at this
  rw[em]
  exact this
 refine⟨(BR h1 OV).app (hb.1.app (HL OT)),?_⟩
 unfold kQ
 rw[List.length_append,List.length_append]
 omega
theorem BU:∀{r:List Tm},(∀x∈r,oU 999999999999 x)→cO (Fq r)∧(Fq r).length≤49*r.length
 | [],_=>⟨(fun c hc=>by cases hc),Nat.le_refl _⟩
 |x::r,h=>by
  obtain⟨i1,i2⟩:=BU (r:=r) fun y hy=>h y (List.mem_cons_of_mem _ hy)
  obtain⟨t1,t2⟩:=BS (h x (List.mem_cons_self ..))
  have e:Fq (x::r)=([32,43,32]++kQ x)++Fq r:=rfl
  rw[e]
  have a3:cO [32,43,32]:=by
   have:∀c∈[32,43,32],c<128:=by decide
   exact this
  refine⟨(a3.app t1).app i1,?_⟩
  rw[List.length_append,List.length_append]
  show 3+_+_≤49*(r.length+1)
  omega
theorem BV{xs:List Tm}(h:∀x∈xs,oU 999999999999 x):cO (oW xs)∧(oW xs).length≤49*xs.length:=by
 cases xs with
 |nil=>exact⟨(fun c hc=>by cases hc),Nat.zero_le _⟩
 |cons x r=>
  obtain⟨i1,i2⟩:=BU (r:=r) fun y hy=>h y (List.mem_cons_of_mem _ hy)
  obtain⟨t1,t2⟩:=BS (h x (List.mem_cons_self ..))
  refine⟨t1.app i1,?_⟩
  show (kQ x++Fq r).length≤_
  rw[List.length_append,List.length_cons]
  omega
def uU(K:PySem.W.Frag):Sp:=fun vs H Q _=>∃(a:Addr) (ns:List Int),vs=[.ref a]∧cz K H a (ns.map V.int)∧ns.length≤63∧∀l H',cO l→l.length≤400→ay H H'→Q (.str ⟨l.toArray⟩) H'
def En:List (List Nat):=[[72],[32,43,32],[32,45,62,32],[50,32],[72],[32,43,32],[67,111,50],[40,79,72,41,51],[94,50,45],[94,43],[101,94,45],[46,53,72,50,79],[32,45,62,32],[49,50,32],[79],[32],[43],[45],[62],[49]]
def HM:List V:=[.str "H", .str " + ", .str " -> ", .str "2 ", .str "H", .str " + ", .str "Co2", .str "(OH)3", .str "^2-", .str "^+", .str "e^-", .str ".5H2O", .str " -> ", .str "12 ", .str "O"]++[.str " ", .str "+", .str "-", .str ">", .str "1"]
theorem bit_at{m:Int}(h0:0≤m)(h1:m<20):∃l:List Nat,cO l∧l.length≤5∧wV HM m=some (V.str ⟨l.toArray⟩):=by
 have e:HM=En.map fun l=>V.str ⟨l.toArray⟩:=by decide+kernel
 obtain⟨k,rfl⟩:=Int.eq_ofNat_of_zero_le h0
 have hl:k<En.length:=by show k<20;omega
 have ha:∀l∈En,(∀c∈l,c<128)∧l.length≤5:=by decide
 obtain⟨a1,a2⟩:=ha _ (List.getElem_mem hl)
 refine⟨En[k],a1,a2,?_⟩
 rw[e]
 exact gT (by rw[List.getElem?_map,List.getElem?_eq_getElem hl];rfl)
theorem BW:∀ls:List (List Nat),jn (ls.map fun l=>⟨l.toArray⟩)=⟨ls.flatten.toArray⟩
 | []=>rfl
 |l::r=>by
  rw[List.map_cons,xq,BW r,aO]
  rfl
theorem Fs:∀{ls:List (List Nat)},(∀l∈ls,cO l∧l.length≤5)→cO ls.flatten∧ls.flatten.length≤5*ls.length
 | [],_=>⟨(fun c hc=>by cases hc),Nat.le_refl _⟩
 |l::r,h=>by
  obtain⟨i1,i2⟩:=Fs (ls:=r) fun x hx=>h x (List.mem_cons_of_mem _ hx)
  obtain⟨a1,a2⟩:=h l (List.mem_cons_self ..)
  refine⟨a1.app i1,?_⟩
  show (l++r.flatten).length≤5*(r.length+1)
  rw[List.length_append]
  omega
theorem cY:ax ["_law_script","_law_cell","_law_bits","_law_many","_law_lefts","_law_rights","_law_text","_law_places","_law_at","_law_k"] ["_law_script"] (ak lA):=dH
theorem BX(D:Def K mg "_law_drawn" "_law_drawn" lA ["_law_script"])(T:y3 K mg C)(c1:bx P w K mg base 1 "_law_cell_at" ["_law_script","_law_k"] (nN K))(c2:bx P w K mg base 1 "_law_mixed" ["_law_cell","_law_prime"] mQ)(c3:bx P w K mg base 5 "_law_terms" ["_law_script","_law_at"] (xF K))(c4:bx P w K mg base 1 "_law_side" ["_law_terms_here"] Bi)(c5:bx P w K mg base 2 "_law_spoilt" ["_law_text","_law_cell"] uO):bx P w K mg base 6 "_law_drawn" ["_law_script"] (uU K):=by
 obtain⟨_,_,aQ⟩:=c1
 obtain⟨_,_,bB⟩:=c2
 obtain⟨_,_,jh⟩:=c3
 obtain⟨_,_,eN⟩:=c4
 obtain⟨_,_,ip⟩:=c5
 refine D.fJ cY (fun vs H Q E h=>?_) (fun f bj A outer s H vs Q E hr h=>?_)
 ·obtain⟨a,ns,rfl,_⟩:=h
  rfl
 ·obtain⟨a,ns,rfl,hS,hlen,q⟩:=h
  have big:(4000 :Nat)≤sizeLine:=by decide
  refine⟨_,(af
     (aH (i:=1) cY.nd rfl (Or.inl rfl) (aN aQ.ok (hr.mono (by decide)) rfl aQ.g aQ.kp aQ.b .nil aP (aa (pv 0) (aa ah ao))))
    (af
     (aH (i:=2) cY.nd rfl (Or.inr rfl) (cm (iX (.str (.str (.str (.str (.str (.str (.str (.str (.str (.str (.str (.str (.str (.str (.str .nil))))))))))))))))))
    (af
     (aH (i:=2) cY.nd rfl (Or.inr rfl) (au Gn (pv 2) (cm (iX (.str (.str (.str (.str (.str .nil)))))))))
    (af
     (bc (aA bh (au bp (pv 1) ah) ah (aE _))
      (af
       (aH (i:=3) cY.nd rfl (Or.inr rfl) (b8 dN (cm (aa ah (aa ah ao))) (au bp (au bW (pv 1) ah) ah) (fun _ _=>rfl)))
      (aq
       (az (fw PySem.F.plainAttrs_str PySem.F.slot_str_join PySem.F.type_str_join j8 aw (aa (j4 (sc:=(ak lA)) (NX:=["_law_script","_law_cell","_law_bits","_law_many","_law_lefts","_law_rights","_law_text","_law_places","_law_at","_law_k"]) (N:=["_law_one","_law_bits","_law_many"]) (fr:=[none,some 2,some 3]) ⟨by rfl,by rfl,by decide+kernel,by decide+kernel,by decide+kernel,by rfl,by decide+kernel⟩ rfl rfl rfl (jY (bK qD (pv 0) (bF ah) (bF ah))) (fun _ _ _ _=>(bq (i:=0) (show (["_law_one","_law_bits","_law_many"]:List Str).Nodup by decide+kernel) rfl (Or.inl rfl) (Or.inr rfl))) (fun _ _ _ _=>j3) (fun _ _ _ _=>(b8 (Ak K rfl) (pv 1) (au bp (aN bB.ok (hr.mono (by decide)) rfl bB.g bB.kp bB.b .nil aP (aa (pv 0) (aa ah ao))) (pv 2)) (fun _ _=>rfl)))) ao)))))
      aK)
    (af
     (qr (aN jh.ok (hr.mono (by decide)) rfl jh.g jh.kp jh.b .nil aP (aa (pv 0) (aa ah ao))) (kW rfl (bX (bq (i:=4) cY.nd rfl (Or.inl rfl)) (bX (bq (i:=5) cY.nd rfl (Or.inl rfl)) iT))))
    (af
     (aH (i:=6) cY.nd rfl (Or.inr rfl) (au aG (au aG (aN eN.ok (hr.mono (by decide)) rfl eN.g eN.kp eN.b .nil aP (aa (pv 4) ao)) aw) (aN eN.ok (hr.mono (by decide)) rfl eN.g eN.kp eN.b .nil aP (aa (pv 5) ao))))
    (af
     (bc (aA bh (au bp (au bW (pv 1) ah) ah) ah (aE _))
      (af
       (Df (i:=7) cY.nd rfl (Or.inl rfl) (sc:=(ak lA)) (NX:=["_law_script","_law_cell","_law_bits","_law_many","_law_lefts","_law_rights","_law_text","_law_places","_law_at","_law_k"]) (N:=["_law_k","_law_text"]) (fr:=[none,some 6]) ⟨by rfl,by rfl,by decide+kernel,by decide+kernel,by decide+kernel,by rfl,by decide+kernel⟩ rfl rfl rfl (dC rfl T.fT (aa (bJ cE rfl T.gI dZ (aa (pv 6) ao)) ao)) (fun _ _ _ _=>(bq (i:=0) (show (["_law_k","_law_text"]:List Str).Nodup by decide+kernel) rfl (Or.inl rfl) (Or.inr rfl))) (fun _ _ _ _=>(C4 (aA bh (b8 gU (pv 1) (pv 0) (fun _ _=>rfl)) aw (aE _)))) (fun _ _ _ _=>(pv 0)))
      (af
       (aH (i:=8) cY.nd rfl (Or.inl rfl) (b8 dN (pv 7) (au bp (au bW (pv 1) ah) (bJ cX rfl T.gI dZ (aa (pv 7) ao))) (fun _ _=>rfl)))
      (aq
       (aH (i:=6) cY.nd rfl (Or.inr rfl) (au aG (bK dA (pv 6) dv (bF (pv 8))) (bK dA (pv 6) (bF (au bo (pv 8) ah)) dv))))))
      aK)
    (af
     (gS PassesOwn.never rfl (dC rfl T.fT (aa (au bp (au bW (pv 1) ah) ah) ao)) (bq (i:=9) cY.nd rfl (Or.inl rfl))
      (aq
       (aH (i:=6) cY.nd rfl (Or.inr rfl) (aN ip.ok (hr.mono (by decide)) rfl ip.g ip.kp ip.b .nil aP (aa (pv 6) (aa (au bp (aN aQ.ok (hr.mono (by decide)) rfl aQ.g aQ.kp aQ.b .nil aP (aa (pv 0) (aa (au bo ah (pv 9)) ao))) (au qt ah ah)) ao))))))
    (aq
     (az (pv 6))))))))))),?_⟩
  refine⟨_,rfl,a,ns,0,rfl,hS,hlen,fun n=>?_⟩
  have m2:∀z:Int,0≤z%2∧z%2<2:=fun z=>⟨Int.emod_nonneg _ (by decide),Int.emod_lt_of_pos _ (by decide)⟩
  refine⟨(by show 15≤sizeLine;decide),fun b1 Yq=>⟨_,rfl,(by show 5≤sizeLine;decide),fun b2 Dp=>⟨b1,b2,_,_,rfl,rfl,(ay.new Dp) _ _ ag,ag,(by show 15+5≤sizeLine;decide),fun b3 Yr=>?_⟩⟩⟩
  dsimp only [dM]
  generalize eH:upd _ b3 _=H1
  have e1:ay H H1:=by rw[←eH];exact(ay.new Yq).trans ((ay.new Dp).trans (ay.new Yr))
  have hB:H1 b3=some (.lst HM):=by rw[←eH];exact ag
  clear eH
  refine⟨_,rfl,_,_,rfl,rfl,(by show (0 :Int) <2;decide),rfl,_,rfl,dY (fun _=>?_) fun _=>?_⟩
  ·obtain⟨mm,P4,Jf,ZC⟩:∃mm:Int,wV [V.int 20,V.int 15] (n/2%2)=some (V.int mm)∧0<mm∧mm≤20:=by
    obtain⟨z0,z1⟩:=m2 (n/2)
    rcases (show n/2%2=0∨n/2%2=1 by omega) with z|z
    ·rw[z];exact⟨20,by decide+kernel,by decide,by decide⟩
    ·rw[z];exact⟨15,by decide+kernel,by decide,by decide⟩
   refine⟨(by show 2≤sizeLine;decide),fun p hp=>⟨_,rfl,_,_,rfl,rfl,⟨by decide,by decide⟩,_,_,rfl,rfl,(by show (0 :Int) <2;decide),p,_,_,_,rfl,rfl,cz.of ag,P4,?_⟩⟩
   have e2:=e1.trans (ay.new (o:= .lst [.int 20, .int 15]) hp)
   have Ws:=(ay.new (o:= .lst [.int 20, .int 15]) hp) _ _ hB
   generalize upd H1 p (.lst [.int 20, .int 15])=H2 at e2 Ws ⊢
   have ec:k9 (ns.map V.int) (some (1 :Int)) (some (61 :Int))=((ns.drop 1).take 60).map V.int:=by
    rw[show (1 :Int)=((1 :Nat):Int) from rfl,show (61 :Int)=((61 :Nat):Int) from rfl,Ah,List.map_take,List.map_drop]
   refine⟨rfl,_,rfl,1,rfl,61,rfl,a,_,rfl,e2.seq hS,fun p2 Gb=>?_⟩
   rw[ec]
   have hn:((ns.drop 1).take 60).length≤60:=by rw[List.length_take];omega
   generalize (ns.drop 1).take 60=ms at hn ⊢
   have Wt:=(ay.new (o:= .lst (ms.map V.int)) Gb) _ _ Ws
   have e3:=e2.trans (ay.new (o:= .lst (ms.map V.int)) Gb)
   have hM:(upd H2 p2 (.lst (ms.map V.int))) p2=some (.lst (ms.map V.int)):=ag
   generalize upd H2 p2 (.lst (ms.map V.int))=H3 at Wt e3 hM ⊢
   refine⟨p2,rfl,⟨_,cz.of hM⟩,fun L hL=>Aj (K:=K) (a:=p2) (L:=L) (xs:=ms.map V.int) H3 (fun σ=>∃v:Option V,σ=[v,some (.ref b3),some (.int mm)]) (fun j ys=>∃ls:List (List Nat),ys=(ls.map fun l=>(⟨l.toArray⟩:Str)).map V.str∧ls.length=j∧∀l∈ls,cO l∧l.length≤5)
    (cz.of hM) hL ⟨none,rfl⟩ (ay.new hL) ag ⟨[],rfl,rfl,(fun l hl=>by cases hl)⟩ (by rw[List.length_map];omega) ?_ ?_ ?_⟩
   ·rintro j ys ⟨ls,rfl,h,_⟩
    rw[List.length_map,List.length_map];omega
   ·rintro j y σ H4 ys hy ⟨v,rfl⟩ OZ AW ⟨ls,rfl,hj,bb⟩ N M hN
    obtain⟨y,VI,rfl⟩:=int_at hy
    refine⟨_,rfl,_,rfl,y,1000003,2,rfl,by decide,rfl,fun z H5 e5=>⟨_,rfl,_,_,rfl,rfl,Jf,?_⟩⟩
    obtain⟨l,la,ll,tW⟩:=bit_at (Int.emod_nonneg z (by omega:mm≠0)) (by have:=Int.emod_lt_of_pos z Jf;omega)
    refine⟨b3,_,_,_,rfl,rfl,cz.of (e5 _ _ (OZ _ _ Wt)),tW,hN _ _ _ ⟨_,rfl⟩ (OZ.trans e5) (e5 _ _ AW) ⟨ls++[l],?_,by rw[List.length_append,hj];rfl,fun x hx=>?_⟩⟩
    ·rw[List.map_append,List.map_append];rfl
    ·rcases List.mem_append.mp hx with hx|hx
     ·exact bb x hx
     ·rw[List.mem_singleton.mp hx];exact⟨la,ll⟩
   ·rintro H4 ys OZ AW ⟨ls,rfl,hj,bb⟩
    rw[List.length_map] at hj
    obtain⟨fa,fl⟩:=Fs bb
    refine⟨"",L,ls.map fun l=>(⟨l.toArray⟩:Str),rfl,rfl,cz.of AW,?_,?_⟩
    ·have z:=mP (ys:=ls.map fun l=>(⟨l.toArray⟩:Str)) (b:=5) fun y hy=>by
      obtain⟨l,hl,rfl⟩:=List.mem_map.mp hy
      rw[aB]
      exact(bb l hl).2
     rw[List.length_map] at z
     have l0:("" :Str).length=0:=by decide+kernel
     rw[l0]
     omega
    ·rw[join_eq,BW]
     exact q _ H4 fa (by omega) (e3.trans OZ)
  refine⟨_,rfl,a,ns,2,rfl,e1.seq hS,hlen,by decide,fun t0 l r0 xs ys H2 KU Kz ON zF O0 ZD ny ZE e2=>?_⟩
  have e2:=e1.trans e2
  clear e1 hB
  refine⟨t0,_,rfl,jD.of KU,rfl,_,_,rfl,_,_,rfl,rfl,?_⟩
  have Rx:∀x∈xs,oU (10^40) x:=fun x hx=>⟨(zF x hx).1,by have:=(zF x hx).2.1;omega,(zF x hx).2.2⟩
  have Ry:∀x∈ys,oU (10^40) x:=fun x hx=>⟨(O0 x hx).1,by have:=(O0 x hx).2.1;omega,(O0 x hx).2.2⟩
  obtain⟨xa,xl⟩:=BV zF
  obtain⟨ya,yl⟩:=BV O0
  have Wu:(" -> " :Str)=⟨[32,45,62,32].toArray⟩:=by decide+kernel
  refine⟨_,rfl,l,xs,rfl,Kz,Rx,by omega,fun H3 e3=>?_⟩
  rw[qg]
  refine⟨_,_,rfl,rfl,by rw[Wu,aB,aB];show _+4≤_;omega,_,rfl,r0,ys,rfl,ON.same e3,Ry,by omega,fun H4 e4=>?_⟩
  rw[qg,Wu,aO]
  refine⟨_,_,rfl,rfl,by rw[aB,aB,List.length_append];show _+4+_≤_;omega,?_⟩
  rw[aO]
  have e4:=e2.trans (e3.trans e4)
  have a4:cO [32,45,62,32]:=by
   have:∀c∈[32,45,62,32],c<128:=by decide
   exact this
  have ha:=(xa.app a4).app ya
  have hl:(oW xs++[32,45,62,32]++oW ys).length≤396:=by
   rw[List.length_append,List.length_append]
   show _+4+_≤_
   omega
  have jy:32∈oW xs++[32,45,62,32]++oW ys:=by simp
  generalize oW xs++[32,45,62,32]++oW ys=tx at ha hl jy ⊢
  dsimp only [dM]
  refine dP (fun σ' H'=>∃(tx:List Nat) (v v2:Option V),σ'=[some (.ref a),some (.int n),some (.ref b3),none,some (.ref l),some (.ref r0),some (.str ⟨tx.toArray⟩),v,v2,none]∧cO tx∧tx.length≤396∧ay H H') (fun N hN=>?_) ?_
  ·refine⟨_,rfl,_,_,rfl,rfl,⟨by decide,by decide⟩,_,_,rfl,rfl,(by show (0 :Int) <3;decide),rfl,_,rfl,dY (fun _=>?_) fun _=>hN _ _ ⟨tx,none,none,rfl,ha,hl,e4⟩⟩
   have xl:(⟨tx.toArray⟩:Str).length=tx.length:=aB tx
   refine⟨_,rfl,⟨tx.toArray⟩,rfl,by omega,_,rfl,by omega,by omega,fun L hL=>yr (lo:=0) (n:=tx.length) (L:=L) H4 (fun σ=>∃v:Option V,σ=[v,some (.str ⟨tx.toArray⟩)]) (fun j ys=>∃ks:List Nat,ys=(ks.map fun k:Nat=>(k:Int)).map V.int∧ks.length≤j∧(∀k∈ks,k<tx.length)∧∀i:Nat,i<j→tx[i]? =some 32→ks≠[])
    hL ⟨none,rfl⟩ (ay.new hL) ag ⟨[],rfl,Nat.le_refl _,(fun l hl=>by cases hl),fun i hi=>absurd hi (Nat.not_lt_zero _)⟩ (by omega) ?_ ?_ ?_⟩
   ·rintro j ys ⟨ks,rfl,h,_⟩
    rw[List.length_map,List.length_map];omega
   ·rintro j σ H5 zs hj ⟨v,rfl⟩ O1 DM ⟨ks,rfl,Ys,bb,si⟩ N M hN hM
    have hc:=List.getElem?_eq_getElem hj
    have c0:(0 :Int)+(j:Int)=((j:Nat):Int):=by omega
    have tW:wV (⟨tx.toArray⟩:Str).cps.toList (0+(j:Int))=some tx[j]:=by rw[c0];exact gT hc
    refine⟨_,rfl,_,rfl,⟨tx.toArray⟩,_,_,rfl,rfl,by omega,tW,rfl,_,rfl,dY (fun _=>⟨_,rfl,hN _ _ _ ⟨_,rfl⟩ O1 DM ⟨ks++[j],?_,?_,?_,?_⟩⟩) fun h=>hM _ _ ⟨_,rfl⟩ O1 DM ⟨ks,rfl,by omega,bb,?_⟩⟩
    ·rw[List.map_append,List.map_append,c0];rfl
    ·rw[List.length_append];show _+1≤_;omega
    ·intro k hk
     rcases List.mem_append.mp hk with hk|hk
     ·exact bb k hk
     ·rw[List.mem_singleton.mp hk];exact hj
    ·intro i _ _;simp
    ·intro i hi h2
     by_cases Yt:i=j
     ·subst Yt
      rw[hc] at h2
      injection h2 with h2
      refine absurd ?_ h
      rw[h2]
      decide+kernel
     ·exact si i (by omega) h2
   ·rintro H5 zs O1 DM ⟨ks,rfl,Ys,bb,si⟩
    obtain⟨i,hi⟩:=List.getElem?_of_mem jy
    have hn:=si i (List.getElem?_eq_some_iff.mp hi).1 hi
    have kp:0<ks.length:=List.length_pos_iff.mpr hn
    have e5:=e4.trans O1
    refine⟨_,rfl,_,rfl,_,_,rfl,rfl,⟨by decide,by decide⟩,_,rfl,L,_,rfl, .inl (cz.of DM),?_⟩
    rw[List.length_map,List.length_map]
    obtain⟨m,em⟩:=Int.eq_ofNat_of_zero_le (Int.emod_nonneg (n/24) (show (ks.length:Int)≠0 by omega))
    have ml:m<ks.length:=by
     have:=Int.emod_lt_of_pos (n/24) (show (0 :Int) < (ks.length:Int) by omega)
     omega
    refine⟨_,_,rfl,rfl,by omega,L,_,_,V.int ((ks[m]:Nat):Int),rfl,rfl,cz.of DM,?_,?_⟩
    ·rw[em]
     exact gT (by rw[List.getElem?_map,List.getElem?_map,List.getElem?_eq_getElem ml];rfl)
    have hk:=bb _ (List.getElem_mem ml)
    generalize ks[m]=k at hk ⊢
    refine⟨_,rfl,_,rfl,_,rfl,⟨tx.toArray⟩,rfl,by omega,?_⟩
    rw[uf tx (Nat.le_of_lt hk)]
    refine⟨_,rfl,_,rfl,_,_,rfl,rfl,_,rfl,⟨tx.toArray⟩,rfl,by omega,?_⟩
    rw[vZ tx (Nat.le_of_lt hk)]
    refine⟨_,_,rfl,rfl,by rw[aB,aB,List.length_take,List.length_drop];omega,?_⟩
    rw[aO]
    exact hN _ _ ⟨_,_,_,rfl,(ha.take k).app (ha.drop _),by rw[List.length_append,List.length_take,List.length_drop];omega,e5⟩
  rintro σ H5 ⟨tx,v,v2,rfl,ha,hl,e5⟩
  have b0:0≤n/2%4:=Int.emod_nonneg _ (by decide)
  have b1:n/2%4<4:=Int.emod_lt_of_pos _ (by decide)
  refine⟨_,rfl,_,_,rfl,rfl,⟨by decide,by decide⟩,_,_,rfl,rfl,(by show (0 :Int) <4;decide),_,rfl,by omega,by omega,dX (fun i σ H'=>∃(l':List Nat) (u:Option V),σ=[some (.ref a),some (.int n),some (.ref b3),none,some (.ref l),some (.ref r0),some (.str ⟨l'.toArray⟩),v,v2,u]∧cO l'∧l'.length≤tx.length+i∧ay H H') ⟨tx,none,rfl,ha,Nat.le_refl _,e5⟩ ?_ ?_⟩
  ·rintro i σ H6 hi ⟨l',u,rfl,RA,Yu,e6⟩
   refine⟨_,rfl,_,rfl,_,rfl,_,_,rfl,rfl,a,ns,20+i,congrArg (fun z=>[V.ref a,V.int z]) (show (20 :Int)+(0+(i:Int))=((20+i:Nat):Int) by omega),e6.seq hS,hlen,fun m=>⟨_,_,rfl,rfl,⟨by decide,by decide,by decide⟩,_,_,rfl,rfl,(by decide),l',_,rfl,RA,by omega,fun l2 H7 Yv wW e7=>?_⟩⟩
   exact⟨l2,_,rfl,Yv,by omega,e6.trans e7⟩
  ·rintro σ H6 ⟨l',u,rfl,RA,Yu,e6⟩
   exact⟨_,rfl,q l' H6 RA (by omega) e6⟩
variable {HE NF TL NC TM:Addr}{uC uP uI uD uL uT l5 l6 l7 uG uS:Tok}{Ch:Addr}
structure Lk(K:PySem.W.Frag)(mg:Str→Option Value)(C R G Pc Fo Ch HE NF TL NC TM:Addr)(uK uN uB uE uM uC uP uI uD uL uT l5 l6 l7 uG uS:Tok):Prop extends Fh K mg C R G Pc Fo Ch HE NF TL NC TM uK uN uB uE uM uC uP uI uD uL uT l5 l6 l7 uG uS where
 uV:PySem.W.qP K NC
 wA:PySem.W.qP K TM
 BY:PySem.W.findIn K (.ref NC) "place" =some none
 Eo:PySem.W.findIn K (.ref TM) "many" =some none
 RB:PySem.W.mroIn K NC (.ref NC)=some true
 RC:PySem.W.mroIn K TM (.ref NC)=some false
 RD:PySem.W.mroIn K TM (.ref TM)=some true
theorem BZ{A r:TS}{D:Ends}{σ:L2.St}{H:Hp}(Pm:L2.St→Hp→Prop)(h:∀N:L2.St→Hp→Prop,(∀σ' H',Pm σ' H'→N σ' H')→A { D with nx:=N } σ H)(hr:∀σ' H',Pm σ' H'→r D σ' H'):zS A r D σ H:=h _ hr
def xX(K:PySem.W.Frag):Sp:=fun vs H Q _=>∃(a:Addr) (ns:List Int),vs=[.ref a]∧cz K H a (ns.map V.int)∧ns.length≤63∧∀H',Q (.bl true) H'
def zq(l:List Nat):Nat:=1+gP pJ 0 l+gP pA 0 l
def oX(l:List Nat):List V:=if qf l= -1 then (if 8<zq l then [.int 3, .int (zq l:Int)] else [.int 0, .str ⟨l.toArray⟩]) else [.int 1, .int (qf l)]
theorem RE:(" -> " :Str)=⟨pA.toArray⟩:=by decide+kernel
theorem RF:(" + " :Str)=⟨pJ.toArray⟩:=by decide+kernel
theorem gN:ax ["_law_script","_law_text","_law_due","_law_terms_here","_law_told","_law_found","e","_law_shown"] ["_law_script"] (ak rj):=dH
theorem HN{f f0 f1:Addr}{fd:FuncData}(F:wX K "law" "law" rj f fd)(T:Lk K mg C R G Pc Fo Ch HE NF TL NC TM uK uN uB uE uM uC uP uI uD uL uT l5 l6 l7 uG uS)(Z:PySem.W.cK K NC HE f0)(Z1:PySem.W.cK K TM HE f1)(c1:bx P w K mg base 6 "_law_drawn" ["_law_script"] (uU K))(c2:bx P w K mg base 3 "_law_place" ["_law_text"] uJ)(c3:ti P w K mg base 24 "read_change" ["text"] (oo TL NC TM C G Pc Fo Ch))(c4:bx P w K mg base 1 "_law_whole" ["_law_found"] xr)(c6:c9 P w K mg base 16 Ch "shown" ["self"] (ud C G Pc Fo Ch)):
  eD P w K mg base mz 25 f fd ["_law_script"] (xX K):=by
 obtain⟨_,_,ji⟩:=c1
 obtain⟨_,_,jj⟩:=c2
 obtain⟨_,_,eC⟩:=c3
 obtain⟨_,_,jk⟩:=c4
 obtain⟨_,_,fI⟩:=c6
 refine F.ok gN (fun vs H Q E h=>?_) (fun bj A outer s H vs Q E hr h=>?_)
 ·obtain⟨a,ns,rfl,_⟩:=h
  rfl
 ·obtain⟨a,ns,rfl,hS,hlen,q⟩:=h
  have hu:=pq hr
  have QX:=hr.qv
  have Ll:=hr.units
  have big:(3000 :Nat) <sizeLine:=by decide
  refine⟨_,(af
     (aH (i:=1) gN.nd rfl (Or.inl rfl) (aN ji.ok (hr.mono (by decide)) rfl ji.g ji.kp ji.b .nil aP (aa (pv 0) ao)))
    (af
     (aH (i:=2) gN.nd rfl (Or.inl rfl) (bM (aa ah (aa (aN jj.ok (hr.mono (by decide)) rfl jj.g jj.kp jj.b .nil aP (aa (pv 1) ao)) ao))))
    (af
     (aH (i:=3) gN.nd rfl (Or.inl rfl) (au bo (au bo ah (fw PySem.F.plainAttrs_str PySem.F.slot_str_count PySem.F.type_str_count tj (pv 1) (aa aw ao))) (fw PySem.F.plainAttrs_str PySem.F.slot_str_count PySem.F.type_str_count tj (pv 1) (aa aw ao))))
    (af
     (bc (aA bh (b8 f9 (pv 2) ah (fun _ _=>rfl)) (lQ iA ah) (aE _))
      (af
       (aH (i:=2) gN.nd rfl (Or.inl rfl) (bM (aa ah (aa (pv 1) ao))))
      (aq
       (bc (aA iB (pv 3) ah (aE _))
        (aq
         (aH (i:=2) gN.nd rfl (Or.inl rfl) (bM (aa ah (aa (pv 3) ao)))))
        aK)))
      aK)
    (af
     (aH (i:=4) gN.nd rfl (Or.inl rfl) gQ)
    (af
     (xf ⟨rfl,rfl⟩ (fun _ _=>
      (aq
       (aH (i:=5) gN.nd rfl (Or.inl rfl) (sZ eC.ok (hr.mono (by decide)) rfl eC.g eC.kp eC.b .nil nG (aa (pv 1) ao))))) (fun _=>(Ay K rfl (i:=6) rfl T.vQ T.uV gN.nd rfl rfl (fun _=>
      (aq
       (aH (i:=4) gN.nd rfl (Or.inl rfl) (bM (aa ah (aa (nJ K rfl (pv 6) rfl) ao)))))) (Ay K rfl (i:=6) rfl T.yT T.wA gN.nd rfl rfl (fun _=>
      (aq
       (aH (i:=4) gN.nd rfl (Or.inl rfl) (bM (aa ah (aa (nJ K rfl (pv 6) rfl) ao)))))) (Ax Dr)))))
    (af
     (bc (vb (zN (pv 4)))
      (af
       (aH (i:=7) gN.nd rfl (Or.inl rfl) (bI (pv 5) T.cC fI.m fI.ok (hr.mono (by decide)) fI.b .nil aP))
      (aq
       (az (jC (bJ iD rfl T.g8 gb (aa (pv 7) (aa (qq (v:= .ty "str") rfl T.tE nA rfl) ao))) (jC (cV (Af Ll) (bM (aa ah (aa (pv 7) ao))) (pv 2) (aE _)) (jB (cV bh (au bo (bJ cX rfl T.gI dZ (aa (br (pv 5) rfl) ao)) (bJ cX rfl T.gI dZ (aa (br (pv 5) rfl) ao))) (pv 3) (aE _))))))))
      aK)
    (aq
     (az (jC (aN jk.ok (hr.mono (by decide)) rfl jk.g jk.kp jk.b .nil aP (aa (b8 f9 (pv 4) ah (fun _ _=>rfl)) ao)) (jB (cV (Af Ll) (pv 4) (pv 2) (aE _))))))))))))),?_⟩
  refine⟨_,rfl,a,ns,rfl,hS,hlen,fun l H1 ha hl e1=>?_⟩
  have xl:(⟨l.toArray⟩:Str).length=l.length:=aB l
  have asc:(⟨l.toArray⟩:Str).cps.all (· <128)=true:=cO.str ha
  have el:(⟨l.toArray⟩:Str).cps.toList=l:=rfl
  refine⟨_,rfl,⟨l.toArray⟩,rfl,asc,by omega,fun H2 e2=>⟨(by show 2≤sizeLine;decide),fun d hd=>?_⟩⟩
  rw[el]
  have e2:=e1.trans e2
  have e3:=e2.trans (ay.new (o:= .tup [.int 1, .int (qf l)]) hd)
  have Hq:(upd H2 d (.tup [.int 1, .int (qf l)])) d=some (.tup [.int 1, .int (qf l)]):=ag
  generalize upd H2 d (.tup [.int 1, .int (qf l)])=H3 at e3 Hq ⊢
  have tn:(1 :Int)+Txt.count ⟨l.toArray⟩ " + " +Txt.count ⟨l.toArray⟩ " -> " =(zq l:Int):=by
   rw[RE,RF,xS l pJ (by decide),xS l pA (by decide)]
   unfold zq
   omega
  refine⟨_,rfl,rfl,⟨l.toArray⟩," + ",rfl,rfl,_,_,rfl,rfl,_,rfl,rfl,⟨l.toArray⟩," -> ",rfl,rfl,_,_,rfl,rfl,?_⟩
  rw[tn]
  dsimp only [dM]
  refine dP (fun σ' H'=>∃t:Addr,σ'=[some (.ref a),some (.str ⟨l.toArray⟩),some (.ref t),some (.int (zq l:Int)),none,none,none,none]∧H' t=some (.tup (oX l))∧ay H H') (fun N hN=>?_) ?_
  ·refine⟨_,rfl,d,_,_,_,rfl,rfl,jD.of Hq,rfl,_,rfl,rfl,_,rfl,?_⟩
   by_cases hp:qf l= -1
   ·refine cA (by rw[hp]) ⟨_,rfl,(by show 2≤sizeLine;decide),fun d2 hd2=>?_⟩
    have e4:=e3.trans (ay.new (o:= .tup [.int 0, .str ⟨l.toArray⟩]) hd2)
    have Cs:(upd H3 d2 (.tup [.int 0, .str ⟨l.toArray⟩])) d2=some (.tup [.int 0, .str ⟨l.toArray⟩]):=ag
    generalize upd H3 d2 (.tup [.int 0, .str ⟨l.toArray⟩])=H4 at e4 Cs ⊢
    refine⟨_,rfl,_,_,rfl,rfl,_,rfl,?_⟩
    by_cases ht:8<zq l
    ·refine cA (by omega) ⟨_,rfl,(by show 2≤sizeLine;decide),fun d3 Hq=>?_⟩
     refine hN _ _ ⟨d3,rfl,?_,e4.trans (ay.new Hq)⟩
     rw[ag,oX,if_pos hp,if_pos ht]
    ·refine cu (by omega) (hN _ _ ⟨d2,rfl,?_,e4⟩)
     rw[Cs,oX,if_pos hp,if_neg ht]
   ·refine cu (fun z=>hp (by injection z)) (hN _ _ ⟨d,rfl,?_,e3⟩)
    rw[Hq,oX,if_neg hp]
  rintro σ H4 ⟨t,rfl,ht,e4⟩
  refine BO (fun σ' H'=>σ'=[some (.ref a),some (.str ⟨l.toArray⟩),some (.ref t),some (.int (zq l:Int)),some .cn,none,none,none]∧H'=H4) (fun N hN=>hN _ _ ⟨rfl,rfl⟩) ?_
  rintro σ H' ⟨rfl,rfl⟩
  refine BZ (fun σ' H'=>∃v:Option V,(∃(u:Addr) (j k:Int),σ'=[some (.ref a),some (.str ⟨l.toArray⟩),some (.ref t),some (.int (zq l:Int)),some (.ref u),none,v,none]∧H' t=some (.tup [.int j, .int k])∧H' u=some (.tup [.int j, .int k]))∨∃(c:Addr) (xs ys:List Tm),σ'=[some (.ref a),some (.str ⟨l.toArray⟩),some (.ref t),some (.int (zq l:Int)),some .cn,some (.ref c),v,none]∧gL C G Pc Fo Ch H' c xs ys∧Wg xs ys∧KY xs ys=⟨l.toArray⟩∧xs.length+ys.length=zq l∧H' t=some (.tup [.int 0, .str ⟨l.toArray⟩])) (fun N hN=>?_) ?_
  ·refine⟨_,rfl,⟨l.toArray⟩,rfl,by omega,fun _ xs ys c H5 hG h8 nc hC e5=>?_,fun _ xs ys hG h8 b dx H5 nb nd h1 h2 e5=>?_,fun _ e hB he b dx H5 nb nd h1 h2 e5=>?_,fun h=>absurd h (by omega)⟩
   ·rw[el] at hG
    have hv:qf l= -1:=by unfold qf;rw[BC hG]
    have hc:zq l=xs.length+ys.length:=BG hG
    obtain⟨et,o1,o2⟩:=Ej hG hl
    have hd:oX l=[.int 0, .str ⟨l.toArray⟩]:=by rw[oX,if_pos hv,if_neg (by omega)]
    have zI:=e5 _ _ ht
    rw[hd] at zI
    exact hN _ _ ⟨none, .inr ⟨c,xs,ys,rfl,hC H5 fun _ _ _ z=>z,⟨o1,o2,by omega,by omega⟩,et,hc.symm,zI⟩⟩
   ·rw[el] at hG
    have hv:qf l= -1:=by unfold qf;rw[BC hG]
    have hc:zq l=xs.length+ys.length:=BG hG
    have hd:oX l=[.int 3, .int ((xs.length+ys.length:Nat):Int)]:=by rw[oX,if_pos hv,if_pos (by omega),hc]
    have zI:=e5 _ _ ht
    rw[hd] at zI
    refine⟨TM,HE,f1,false,rfl,Z1,T.RC,dG ⟨TM,HE,f1,true,rfl,Z1,T.RD,cq fun e' vy=>?_⟩⟩
    refine⟨_,rfl,e',TM,HE,f1,dx,_, .int ((xs.length+ys.length:Nat):Int),rfl,Z1,T.Eo,vy,h2,rfl,(by show 2≤sizeLine;decide),fun u hu=>?_⟩
    exact hN _ _ ⟨none, .inl ⟨u,3,((xs.length+ys.length:Nat):Int),rfl,(ay.new hu) _ _ zI,ag⟩⟩
   ·have hv:dI t5 0 false l=some (sf ⟨l.toArray⟩ e):=Hz hB
    have ep:qf l=(e:Int):=by
     unfold qf
     rw[hv]
     show (l.length:Int) - ((sf ⟨l.toArray⟩ e).length:Int)=(e:Int)
     rw[iL,xl]
     omega
    have hd:oX l=[.int 1, .int (e:Int)]:=by rw[oX,if_neg (by omega),ep]
    have zI:=e5 _ _ ht
    rw[hd] at zI
    refine⟨NC,HE,f0,true,rfl,Z,T.RB,cq fun e' vy=>?_⟩
    refine⟨_,rfl,e',NC,HE,f0,dx,_, .int (e:Int),rfl,Z,T.BY,vy,h2,rfl,(by show 2≤sizeLine;decide),fun u hu=>?_⟩
    exact hN _ _ ⟨none, .inl ⟨u,1,(e:Int),rfl,(ay.new hu) _ _ zI,ag⟩⟩
  have Yw:PyData.strOk ⟨l.toArray⟩=true:=by
   unfold PyData.strOk
   rw[Array.all_eq_true]
   intro i hi
   have:=ha (l.toArray[i]) (by rw[←List.mem_toArray];exact Array.getElem_mem hi)
   exact decide_eq_true (Nat.lt_trans this (by decide))
  rintro σ H5 ⟨v,⟨u,j,k,rfl,zI,Wv⟩ | ⟨c,xs,ys,rfl,hC,Yx,et,ZF,zI⟩⟩
  ·have GC:(PyData.tuple [.int j, .int k]).canLay0=true:=rfl
   have Gp:SeqAt.shaped (PyData.tuple [.int j, .int k])=true:=rfl
   have rd:∀{b:Addr},H5 b=some (.tup [.int j, .int k])→zA K H5 (.ref b) (PyData.tuple [.int j, .int k]):=fun h=> .tup (jD.of h) (.cons (.int _) (.cons (.int _) .nil))
   refine⟨_,rfl,_,rfl,cu (by intro z;cases z) ⟨_,rfl,u,_,_,_,rfl,rfl,jD.of Wv,rfl,k,rfl,_,rfl,cq ⟨_,rfl,_,rfl,_,_,rd Wv,rd zI,Gp,Gp,?_⟩⟩⟩
   rw[nE _ GC]
   exact q _
  ·have GC:(PyData.tuple [.int 0, .str ⟨l.toArray⟩]).canLay0=true:=by simp [PyData.canLay0,PyData.canLayAll0,Yw]
   have Gp:=yq GC (by simp [PyData.depth,PyData.depthAll])
   obtain⟨dx,lf,rg,hc,_,_⟩:=id hC
   refine⟨_,rfl,_,rfl,cA rfl ⟨_,rfl,c,dx,_,rfl,hc,Bl _ _ (by decide+kernel) (by decide+kernel),c,xs,ys,rfl,hC,Yx,fun H6 e6=>?_⟩⟩
   rw[et]
   have Yy:=hC.same e6
   have Yz:=e6 _ _ zI
   obtain⟨dx,lf,rg,hc,⟨ts,YA,hP⟩,⟨us,YB,hU⟩⟩:=Yy
   refine⟨_,rfl,_,_,_,_,_,rfl,rfl, .str _,T.k4,_,rfl,cq ⟨_,rfl,(by show 2≤sizeLine;decide),fun p hp=>?_⟩⟩
   have e7:=ay.new (o:= .tup [.int 0, .str ⟨l.toArray⟩]) hp
   have Ww:(upd H6 p (.tup [.int 0, .str ⟨l.toArray⟩])) p=some (.tup [.int 0, .str ⟨l.toArray⟩]):=ag
   generalize upd H6 p (.tup [.int 0, .str ⟨l.toArray⟩])=H7 at e7 Ww ⊢
   have rd:∀{b:Addr},H7 b=some (.tup [.int 0, .str ⟨l.toArray⟩])→zA K H7 (.ref b) (PyData.tuple [.int 0, .str ⟨l.toArray⟩]):=fun h=> .tup (jD.of h) (.cons (.int _) (.cons (.str _) .nil))
   refine⟨_,rfl,_,_,rd Ww,rd (e7 _ _ Yz),Gp,Gp,_,rfl,?_⟩
   rw[nE _ GC]
   refine cq ?_
   refine⟨_,rfl,c,Ch,dx,_,_,rfl,e7 _ _ hc,T.cC,T.kK,iP _ _,lf,_,rfl, .inl (cz.of (e7 _ _ YA)),_,rfl,c,Ch,dx,_,_,rfl,e7 _ _ hc,T.cC,T.je,ij _ _,rg,_,rfl, .inl (cz.of (e7 _ _ YB)),_,_,rfl,rfl,_,rfl,rfl,?_⟩
   rw[List.length_map,List.length_map,Paired.length hP,Paired.length hU,show ((xs.length:Int)+(ys.length:Int))=(zq l:Int) by omega,decide_eq_true rfl]
   exact q _
end
theorem all_mk{l:PySem.W.OpenLaw}{w:World}{K:PySem.W.Frag}{h:Heap}{mg:Str→Option Value}{fa C Gr Pc Fo Rd Ch HE NF TL NC TM Lm Ln Lo Lp Lq xY Lr Ep Ls Er Lu Lv Lw Es Lx Ly Lz LA LB LC LD Ft LF LG Fu LH LI Fv LJ LK LL LM LN Fw Fx Fy B0 Et Eu Ew Ex LO LP LQ LR LS LU LV LW LX LY LZ Fz FA FC FD FE FF FG FH HP:Addr}(X:K.In h)(G:h.Ns mainGlobals mg)(YC:mg "law" =some (.ref fa))
  {HQ wB L0 B1 L1 B2 L3 B3 L4 FI:Option Addr} {HR L5 L6 L7 L8:Array (Option Value)} {HS wC wD wF rV wG L9 B4 B5 B6 xZ B7 L' B8 B9 B' x2 Ca Ma Cb Cc Cd x3 Ce Mb FJ FK FL Cf FN:Value}
  {rW:Addr} {Ey:Value} {Ez:Option Addr} {EA:Array (Option Value)} {HU:Nat} {Cg:Tok}
  {x4:Addr} {HV:Value} {HW:Option Addr} {HX:Array (Option Value)} {Mc:Nat} {FO:Tok}
  {x5:Addr} {HY:Value} {HZ:Option Addr} {Ia:Array (Option Value)} {Md:Nat} {FP:Tok}
  {x6:Addr} {Ic:Value} {Ie:Option Addr} {Ig:Array (Option Value)} {Me:Nat} {FQ:Tok}
  {uK uN uB uE uM uC uP uI uD uL uT l5 l6 l7 uG uS:Tok}
  (aC:PySem.W.nsIn K mainGlobals "Atom" =some (some (.ref C)))
  (YD:PySem.W.nsIn K mainGlobals "Group" =some (some (.ref Gr)))
  (YE:PySem.W.nsIn K mainGlobals "Piece" =some (some (.ref Pc)))
  (YF:PySem.W.nsIn K mainGlobals "Formula" =some (some (.ref Fo)))
  (YG:PySem.W.nsIn K mainGlobals "ChangeReader" =some (some (.ref Rd)))
  (YH:PySem.W.nsIn K mainGlobals "Change" =some (some (.ref Ch)))
  (YI:PySem.W.nsIn K mainGlobals "HallError" =some (some (.ref HE)))
  (Wx:PySem.W.nsIn K mainGlobals "NoFormula" =some (some (.ref NF)))
  (Wy:PySem.W.nsIn K mainGlobals "TooLong" =some (some (.ref TL)))
  (Wz:PySem.W.nsIn K mainGlobals "NoChange" =some (some (.ref NC)))
  (WA:PySem.W.nsIn K mainGlobals "TooMany" =some (some (.ref TM)))
  (RG:PySem.W.nsIn K mainGlobals "is_great" =some (some (.ref Lm)))
  (RH:dJ K "is_great" "is_great" qT Lm)
  (RK:PySem.W.nsIn K mainGlobals "is_small" =some (some (.ref Ln)))
  (RL:dJ K "is_small" "is_small" qU Ln)
  (RM:PySem.W.nsIn K mainGlobals "is_figure" =some (some (.ref Lo)))
  (RN:dJ K "is_figure" "is_figure" mE Lo)
  (RO:PySem.W.nsIn K mainGlobals "count_shown" =some (some (.ref Lp)))
  (RP:dJ K "count_shown" "count_shown" fR Lp)
  (RQ:PySem.W.nsIn K mainGlobals "parts_shown" =some (some (.ref Lq)))
  (RS:dJ K "parts_shown" "parts_shown" iY Lq)
  (Mf:PySem.W.findIn K (.ref C) "__init__" =some (some (.ref xY)))
  (Mg:PySem.W.isFn K (.ref xY)=true)
  (Mh:K.lookup xY=some ⟨HS,HQ, .func (PySem.W.fnOf "__init__" "Atom.__init__" (bH gH) (a9 gH) (ak gH) (.ref rW) wC wD wF wB rV wG),HR⟩)
  (FR:K.lookup rW=some ⟨Ey,Ez, .seq #[.int 1 Cg] HU,EA⟩)
  (Mi:PySem.W.codeIn K rV "Atom.__init__" =true)
  (Mj:PySem.W.keepIn K (.ref xY)=true)
  (RT:PySem.W.findIn K (.ref C) "shown" =some (some (.ref Lr)))
  (RU:dJ K "shown" "Atom.shown" qV Lr)
  (RW:PySem.W.findIn K (.ref Gr) "__init__" =some (some (.ref Ep)))
  (RX:PySem.W.isFn K (.ref Ep)=true)
  (RY:K.lookup Ep=some ⟨L9,L0, .func (PySem.W.fnOf "__init__" "Group.__init__" (bH d6) (a9 d6) (ak d6) (.ref x4) B4 B5 B6 B1 xZ B7),L5⟩)
  (Ml:K.lookup x4=some ⟨HV,HW, .seq #[.int 1 FO] Mc,HX⟩)
  (RZ:PySem.W.codeIn K xZ "Group.__init__" =true)
  (R0:PySem.W.keepIn K (.ref Ep)=true)
  (R1:PySem.W.findIn K (.ref Gr) "shown" =some (some (.ref Ls)))
  (R3:dJ K "shown" "Group.shown" iZ Ls)
  (R4:PySem.W.findIn K (.ref Pc) "__init__" =some (some (.ref Er)))
  (R5:PySem.W.isFn K (.ref Er)=true)
  (R6:K.lookup Er=some ⟨L',L1, .func (PySem.W.fnOf "__init__" "Piece.__init__" (bH d7) (a9 d7) (ak d7) (.ref x5) B8 B9 B' B2 x2 Ca),L6⟩)
  (Mm:K.lookup x5=some ⟨HY,HZ, .seq #[.int 1 FP] Md,Ia⟩)
  (R7:PySem.W.codeIn K x2 "Piece.__init__" =true)
  (R8:PySem.W.keepIn K (.ref Er)=true)
  (R9:PySem.W.findIn K (.ref Pc) "shown" =some (some (.ref Lu)))
  (R':dJ K "shown" "Piece.shown" fS Lu)
  (Sa:PySem.W.nsIn K mainGlobals "refuse_too_long" =some (some (.ref Lv)))
  (Sb:dJ K "refuse_too_long" "refuse_too_long" kg Lv)
  (Sd:PySem.W.nsIn K mainGlobals "charge_shown" =some (some (.ref Lw)))
  (Se:dJ K "charge_shown" "charge_shown" eX Lw)
  (Sf:PySem.W.findIn K (.ref Fo) "__init__" =some (some (.ref Es)))
  (Sg:PySem.W.isFn K (.ref Es)=true)
  (Sh:K.lookup Es=some ⟨Ma,L3, .func (PySem.W.fnOf "__init__" "Formula.__init__" (bH d8) (a9 d8) (ak d8) (.ref x6) Cb Cc Cd B3 x3 Ce),L7⟩)
  (Mn:K.lookup x6=some ⟨Ic,Ie, .seq #[.int 0 FQ] Me,Ig⟩)
  (Si:PySem.W.codeIn K x3 "Formula.__init__" =true)
  (Sj:PySem.W.keepIn K (.ref Es)=true)
  (Sk:PySem.W.findIn K (.ref Fo) "shown" =some (some (.ref Lx)))
  (Sl:dJ K "shown" "Formula.shown" kh Lx)
  (Sm:PySem.W.findIn K (.ref Rd) "__init__" =some (some (.ref Ly)))
  (Sn:dJ K "__init__" "Reader.__init__" qW Ly)
  (So:PySem.W.findIn K (.ref Rd) "sign" =some (some (.ref Lz)))
  (Sr:dJ K "sign" "Reader.sign" xj Lz)
  (Ss:PySem.W.findIn K (.ref Rd) "take" =some (some (.ref LA)))
  (Su:dJ K "take" "Reader.take" xk LA)
  (Sv:PySem.W.findIn K (.ref Rd) "take_all" =some (some (.ref LB)))
  (Sw:dJ K "take_all" "Reader.take_all" ki LB)
  (Sx:PySem.W.findIn K (.ref Rd) "read_whole" =some (some (.ref LC)))
  (Sy:dJ K "read_whole" "Reader.read_whole" mF LC)
  (Sz:PySem.W.findIn K (.ref Rd) "read_electron" =some (some (.ref LD)))
  (SA:dJ K "read_electron" "Reader.read_electron" gX LD)
  (Mo:PySem.W.findIn K (.ref Rd) "read_parts" =some (some (.ref Ft)))
  (Mp:dJ K "read_parts" "Reader.read_parts" kj Ft)
  (SD:PySem.W.findIn K (.ref Rd) "read_part" =some (some (.ref LF)))
  (SE:dJ K "read_part" "Reader.read_part" nL LF)
  (SF:PySem.W.findIn K (.ref Rd) "read_group" =some (some (.ref LG)))
  (SH:dJ K "read_group" "Reader.read_group" i0 LG)
  (Mq:PySem.W.findIn K (.ref Rd) "read_atom" =some (some (.ref Fu)))
  (Mr:dJ K "read_atom" "Reader.read_atom" qX Fu)
  (SI:PySem.W.findIn K (.ref Rd) "read_count" =some (some (.ref LH)))
  (SJ:dJ K "read_count" "Reader.read_count" mG LH)
  (SK:PySem.W.findIn K (.ref Rd) "read_number" =some (some (.ref LI)))
  (SM:dJ K "read_number" "Reader.read_number" km LI)
  (Ms:PySem.W.findIn K (.ref Rd) "read_charge" =some (some (.ref Fv)))
  (Mt:dJ K "read_charge" "Reader.read_charge" kn Fv)
  (SQ:PySem.W.nsIn K mainGlobals "term_shown" =some (some (.ref LJ)))
  (SR:dJ K "term_shown" "term_shown" gY LJ)
  (SS:PySem.W.nsIn K mainGlobals "side_shown" =some (some (.ref LK)))
  (SU:dJ K "side_shown" "side_shown" fA LK)
  (SV:PySem.W.findIn K (.ref Ch) "__init__" =some (some (.ref LL)))
  (SW:dJ K "__init__" "Change.__init__" qY LL)
  (SX:PySem.W.findIn K (.ref Ch) "shown" =some (some (.ref LM)))
  (SY:dJ K "shown" "Change.shown" mH LM)
  (S0:PySem.W.findIn K (.ref Rd) "read_term" =some (some (.ref LN)))
  (S1:dJ K "read_term" "ChangeReader.read_term" qZ LN)
  (Mu:PySem.W.findIn K (.ref Rd) "read_lefts" =some (some (.ref Fw)))
  (Mv:dJ K "read_lefts" "ChangeReader.read_lefts" mI Fw)
  (Mw:PySem.W.findIn K (.ref Rd) "read_rights" =some (some (.ref Fx)))
  (Mx:dJ K "read_rights" "ChangeReader.read_rights" ko Fx)
  (My:PySem.W.findIn K (.ref Rd) "read_sides" =some (some (.ref Fy)))
  (Mz:dJ K "read_sides" "ChangeReader.read_sides" mJ Fy)
  (Ih:PySem.W.nsIn K mainGlobals "read_change" =some (some (.ref B0)))
  (Ii:dJ K "read_change" "read_change" kq B0)
  (S2:PySem.W.findIn K (.ref NF) "__init__" =some (some (.ref Et)))
  (S3:dJ K "__init__" "NoFormula.__init__" Dt Et)
  (S4:PySem.W.findIn K (.ref TL) "__init__" =some (some (.ref Eu)))
  (S6:dJ K "__init__" "TooLong.__init__" qR Eu)
  (S7:PySem.W.findIn K (.ref NC) "__init__" =some (some (.ref Ew)))
  (S9:dJ K "__init__" "NoChange.__init__" Du Ew)
  (S':PySem.W.findIn K (.ref TM) "__init__" =some (some (.ref Ex)))
  (Ta:dJ K "__init__" "TooMany.__init__" qS Ex)
  (Tb:PySem.W.nsIn K mainGlobals "_law_cell_at" =some (some (.ref LO)))
  (Tc:dJ K "_law_cell_at" "_law_cell_at" mK LO)
  (Td:PySem.W.nsIn K mainGlobals "_law_mixed" =some (some (.ref LP)))
  (Tf:dJ K "_law_mixed" "_law_mixed" q0 LP)
  (Tg:PySem.W.nsIn K mainGlobals "_law_pick" =some (some (.ref LQ)))
  (Ti:dJ K "_law_pick" "_law_pick" xm LQ)
  (Tj:PySem.W.nsIn K mainGlobals "_law_whole" =some (some (.ref LR)))
  (Tn:dJ K "_law_whole" "_law_whole" q9 LR)
  (To:PySem.W.nsIn K mainGlobals "_law_kind" =some (some (.ref LS)))
  (Tp:dJ K "_law_kind" "_law_kind" xn LS)
  (Tq:PySem.W.nsIn K mainGlobals "_law_count" =some (some (.ref LU)))
  (Ts:dJ K "_law_count" "_law_count" rf LU)
  (Tt:PySem.W.nsIn K mainGlobals "_law_figures" =some (some (.ref LV)))
  (Tu:dJ K "_law_figures" "_law_figures" kr LV)
  (Tv:PySem.W.nsIn K mainGlobals "_law_piece" =some (some (.ref LW)))
  (Tw:dJ K "_law_piece" "_law_piece" ku LW)
  (Tx:PySem.W.nsIn K mainGlobals "_law_formula" =some (some (.ref LX)))
  (Tz:dJ K "_law_formula" "_law_formula" i4 LX)
  (TB:PySem.W.nsIn K mainGlobals "_law_terms" =some (some (.ref LY)))
  (TC:dJ K "_law_terms" "_law_terms" sTerms LY)
  (TF:PySem.W.nsIn K mainGlobals "_law_side" =some (some (.ref LZ)))
  (TJ:dJ K "_law_side" "_law_side" xo LZ)
  (MA:PySem.W.nsIn K mainGlobals "_law_spoilt" =some (some (.ref Fz)))
  (MB:dJ K "_law_spoilt" "_law_spoilt" mL Fz)
  (MC:PySem.W.nsIn K mainGlobals "_law_drawn" =some (some (.ref FA)))
  (MD:dJ K "_law_drawn" "_law_drawn" lA FA)
  (ME:PySem.W.nsIn K mainGlobals "_law_figure" =some (some (.ref FC)))
  (MF:dJ K "_law_figure" "_law_figure" kx FC)
  (MG:PySem.W.nsIn K mainGlobals "_law_letter" =some (some (.ref FD)))
  (MH:dJ K "_law_letter" "_law_letter" mM FD)
  (MI:PySem.W.nsIn K mainGlobals "_law_fixed" =some (some (.ref FE)))
  (MJ:dJ K "_law_fixed" "_law_fixed" rh FE)
  (MK:PySem.W.nsIn K mainGlobals "_law_complete" =some (some (.ref FF)))
  (ML:dJ K "_law_complete" "_law_complete" i5 FF)
  (MM:PySem.W.nsIn K mainGlobals "_law_next" =some (some (.ref FG)))
  (MN:dJ K "_law_next" "_law_next" xp FG)
  (MO:PySem.W.nsIn K mainGlobals "_law_place" =some (some (.ref FH)))
  (MP:dJ K "_law_place" "_law_place" ri FH)
  (TK:PySem.W.nsIn K mainGlobals "law" =some (some (.ref HP)))
  (TN:K.lookup HP=some ⟨Mb,L4, .func (PySem.W.fnOf "law" "law" (bH rj) (a9 rj) (ak rj) .none FJ FK FL FI Cf FN),L8⟩)
  (TQ:PySem.W.codeIn K Cf "law" =true)
  (TU:PySem.W.keepIn K (.ref HP)=true)
  (MQ:PySem.W.typeIn K (.ref Et)=some (.type "function"))
  (TV:PySem.W.findIn K (.ref NF) "__setattr__" =some (some (.builtin "object.__setattr__")))
  (TX:PySem.W.findIn K (.ref NF) "__getattribute__" =some (some (.builtin "BaseException.__getattribute__")))
  (TY:PySem.W.findIn K (.ref NF) "__getattr__" =some none)
  (T1:PySem.W.keepIn K (.ref NF)=true)
  (T2:∃(nm q:Str) (N:Addr) (bs:List Value) (sn:List Str) (sub:List Value) (ab:Bool) (col:Option Bool) (dd:Option Addr) (k0 k1 k2 k3 k5:Option Value),K.lookup NF=some (excClassObj nm q NF N bs (.ref HE::PySem.W.oH) true sn sub ab col dd k0 k1 k2 k3 k5 "ValueError.__new__"))
  (MR:PySem.W.typeIn K (.ref Eu)=some (.type "function"))
  (T4:PySem.W.findIn K (.ref TL) "__setattr__" =some (some (.builtin "object.__setattr__")))
  (T5:PySem.W.findIn K (.ref TL) "__getattribute__" =some (some (.builtin "BaseException.__getattribute__")))
  (T7:PySem.W.findIn K (.ref TL) "__getattr__" =some none)
  (T8:PySem.W.keepIn K (.ref TL)=true)
  (T9:∃(nm q:Str) (N:Addr) (bs:List Value) (sn:List Str) (sub:List Value) (ab:Bool) (col:Option Bool) (dd:Option Addr) (k0 k1 k2 k3 k5:Option Value),K.lookup TL=some (excClassObj nm q TL N bs (.ref HE::PySem.W.oH) true sn sub ab col dd k0 k1 k2 k3 k5 "ValueError.__new__"))
  (MS:PySem.W.typeIn K (.ref Ew)=some (.type "function"))
  (Ua:PySem.W.findIn K (.ref NC) "__setattr__" =some (some (.builtin "object.__setattr__")))
  (Ub:PySem.W.findIn K (.ref NC) "__getattribute__" =some (some (.builtin "BaseException.__getattribute__")))
  (Uc:PySem.W.findIn K (.ref NC) "__getattr__" =some none)
  (Ud:PySem.W.keepIn K (.ref NC)=true)
  (Ue:∃(nm q:Str) (N:Addr) (bs:List Value) (sn:List Str) (sub:List Value) (ab:Bool) (col:Option Bool) (dd:Option Addr) (k0 k1 k2 k3 k5:Option Value),K.lookup NC=some (excClassObj nm q NC N bs (.ref HE::PySem.W.oH) true sn sub ab col dd k0 k1 k2 k3 k5 "ValueError.__new__"))
  (MT:PySem.W.typeIn K (.ref Ex)=some (.type "function"))
  (Ug:PySem.W.findIn K (.ref TM) "__setattr__" =some (some (.builtin "object.__setattr__")))
  (Uh:PySem.W.findIn K (.ref TM) "__getattribute__" =some (some (.builtin "BaseException.__getattribute__")))
  (Ui:PySem.W.findIn K (.ref TM) "__getattr__" =some none)
  (Uj:PySem.W.keepIn K (.ref TM)=true)
  (Uk:∃(nm q:Str) (N:Addr) (bs:List Value) (sn:List Str) (sub:List Value) (ab:Bool) (col:Option Bool) (dd:Option Addr) (k0 k1 k2 k3 k5:Option Value),K.lookup TM=some (excClassObj nm q TM N bs (.ref HE::PySem.W.oH) true sn sub ab col dd k0 k1 k2 k3 k5 "ValueError.__new__"))
  (YJ:PySem.W.plainGet K C Str.empty=true)
  (YK:PySem.W.hasDictIn K C=true)
  (YL:PySem.W.plainOver K C=true)
  (YM:PySem.W.findIn K (.ref C) "__setattr__" =some (some (.builtin "object.__setattr__")))
  (YN:PySem.W.makesIn K C=true)
  (YO:PySem.W.keepIn K (.ref C)=true)
  (Ul:PySem.W.plainGet K Gr Str.empty=true)
  (Um:PySem.W.hasDictIn K Gr=true)
  (Uo:PySem.W.plainOver K Gr=true)
  (Up:PySem.W.findIn K (.ref Gr) "__setattr__" =some (some (.builtin "object.__setattr__")))
  (Uq:PySem.W.makesIn K Gr=true)
  (Ur:PySem.W.keepIn K (.ref Gr)=true)
  (Us:PySem.W.plainGet K Pc Str.empty=true)
  (Ut:PySem.W.hasDictIn K Pc=true)
  (Uv:PySem.W.plainOver K Pc=true)
  (Uw:PySem.W.findIn K (.ref Pc) "__setattr__" =some (some (.builtin "object.__setattr__")))
  (Ux:PySem.W.makesIn K Pc=true)
  (Uy:PySem.W.keepIn K (.ref Pc)=true)
  (Uz:PySem.W.plainGet K Fo Str.empty=true)
  (UA:PySem.W.hasDictIn K Fo=true)
  (UB:PySem.W.plainOver K Fo=true)
  (UC:PySem.W.findIn K (.ref Fo) "__setattr__" =some (some (.builtin "object.__setattr__")))
  (UD:PySem.W.makesIn K Fo=true)
  (UE:PySem.W.keepIn K (.ref Fo)=true)
  (UG:PySem.W.plainGet K Rd Str.empty=true)
  (UH:PySem.W.hasDictIn K Rd=true)
  (UI:PySem.W.plainOver K Rd=true)
  (UJ:PySem.W.findIn K (.ref Rd) "__setattr__" =some (some (.builtin "object.__setattr__")))
  (UK:PySem.W.makesIn K Rd=true)
  (UL:PySem.W.keepIn K (.ref Rd)=true)
  (UM:PySem.W.plainGet K Ch Str.empty=true)
  (UN:PySem.W.hasDictIn K Ch=true)
  (UO:PySem.W.plainOver K Ch=true)
  (UP:PySem.W.findIn K (.ref Ch) "__setattr__" =some (some (.builtin "object.__setattr__")))
  (UQ:PySem.W.makesIn K Ch=true)
  (UR:PySem.W.keepIn K (.ref Ch)=true)
  (MU:PySem.W.findIn K (.ref C) "kind" =some none)
  (Ij:PySem.W.findIn K (.ref C) "count" =some none)
  (YQ:PySem.W.findIn K (.ref Gr) "parts" =some none)
  (YR:PySem.W.findIn K (.ref Gr) "count" =some none)
  (YS:PySem.W.findIn K (.ref Pc) "parts" =some none)
  (Qw:PySem.W.findIn K (.ref Pc) "count" =some none)
  (YT:PySem.W.findIn K (.ref Fo) "pieces" =some none)
  (YU:PySem.W.findIn K (.ref Fo) "charge" =some none)
  (YV:PySem.W.findIn K (.ref Rd) "text" =some none)
  (YW:PySem.W.findIn K (.ref Rd) "place" =some none)
  (YX:PySem.W.findIn K (.ref Ch) "lefts" =some none)
  (YY:PySem.W.findIn K (.ref Ch) "rights" =some none)
  (YZ:PySem.W.findIn K (.ref NF) "place" =some none)
  (Y0:PySem.W.findIn K (.ref NC) "place" =some none)
  (Y1:PySem.W.findIn K (.ref TM) "many" =some none)
  (MV:PySem.W.nsIn K mainGlobals "len" =some none)
  (MW:PySem.W.nsIn K mainGlobals "str" =some none)
  (MX:PySem.W.nsIn K mainGlobals "int" =some none)
  (Ik:PySem.W.nsIn K mainGlobals "bool" =some none)
  (EB:PySem.W.nsIn K mainGlobals "range" =some none)
  (rX:PySem.W.nsIn K mainGlobals "isinstance" =some none)
  (Il:PySem.W.nsIn K mainGlobals "list" =some none)
  (MY:PySem.W.nsIn K mainGlobals "abs" =some none)
  (Im:PySem.W.nsIn K mainGlobals "dict" =some none)
  (oY:PySem.W.nsIn K mainGlobals "LONGEST_KIND" =some (some (.int 3 uK)))
  (oB:PySem.W.nsIn K mainGlobals "LONGEST_COUNT" =some (some (.int 3 uN)))
  (rY:PySem.W.nsIn K mainGlobals "GROUP_BEGIN" =some (some (.str "(" uB)))
  (wH:PySem.W.nsIn K mainGlobals "GROUP_END" =some (some (.str ")" uE)))
  (js:PySem.W.nsIn K mainGlobals "MOST_GROUPS_AROUND" =some (some (.int 3 uM)))
  (rZ:PySem.W.nsIn K mainGlobals "CHARGE_MARK" =some (some (.str "^" uC)))
  (MZ:PySem.W.nsIn K mainGlobals "PLUS" =some (some (.str "+" uP)))
  (Io:PySem.W.nsIn K mainGlobals "MINUS" =some (some (.str "-" uI)))
  (wI:PySem.W.nsIn K mainGlobals "PIECE_DOT" =some (some (.str "." uD)))
  (zr:PySem.W.nsIn K mainGlobals "ELECTRON" =some (some (.str "e^-" uL)))
  (oZ:PySem.W.nsIn K mainGlobals "LONGEST_TEXT" =some (some (.int 400 uT)))
  (Ip:PySem.W.nsIn K mainGlobals "BLANK" =some (some (.str " " l5)))
  (Iq:PySem.W.nsIn K mainGlobals "JOINT" =some (some (.str " + " l6)))
  (Ir:PySem.W.nsIn K mainGlobals "ARROW" =some (some (.str " -> " l7)))
  (jt:PySem.W.nsIn K mainGlobals "LONGEST_TERM_COUNT" =some (some (.int 12 uG)))
  (uW:PySem.W.nsIn K mainGlobals "MOST_TERMS" =some (some (.int 8 uS)))
  (Y2:PySem.W.specialIn K (.ref HE) "__getattribute__" =some (some (.builtin "type.__getattribute__")))
  (Qu:PySem.W.readsIn K HE (.type "type")=true)
  (Y3:PySem.W.findCls K (.ref HE) (.type "type") "__init__" =some (.val (.builtin "ValueError.__init__")))
  (Y4:PySem.W.takerIn K NF "place" =some none)
  (Y5:PySem.W.takerIn K TL "many" =some none)
  (Y6:PySem.W.takerIn K NC "place" =some none)
  (Y7:PySem.W.takerIn K TM "many" =some none)
  (Y8:PySem.W.mroIn K NF (.ref NF)=some true)
  (WB:PySem.W.mroIn K NF (.ref NC)=some false)
  (WC:PySem.W.mroIn K NC (.ref NC)=some true)
  (Y9:PySem.W.mroIn K TM (.ref NC)=some false)
  (Y':PySem.W.mroIn K TM (.ref TM)=some true)
  :∃fd:FuncData,(∀(s:Shared) (v:Value),BindsTo s fd ⟨[v],[]⟩ [("_law_script",v)])∧∀base:Heap,K.In base→base.Ns mainGlobals mg→eD l.prog w K mg base mz 25 fa fd ["_law_script"] (xX K):=by
 have e:=YC.symm.trans (PySem.W.mg_of X G TK)
 cases e
 have T:y9 K mg C Rd Gr Pc Fo Ch uK uN uB uE uM uC uP uI uD uL uT l5 l6 l7 uG uS:=⟨⟨⟨⟨⟨⟨⟨YJ,YK,YL,YM⟩,MU,Ij,PySem.W.mg_of X G aC,PySem.W.mg_none_of X G MV,PySem.W.mg_none_of X G MW,PySem.W.mg_none_of X G MX,PySem.W.mg_none_of X G Ik,PySem.W.mg_none_of X G EB,PySem.W.mg_none_of X G rX,j7,qI,j7,j7,j7⟩,⟨UG,UH,UI,UJ⟩,YV,YW,PySem.W.mg_of X G oY,PySem.W.mg_of X G oB⟩,⟨Ul,Um,Uo,Up⟩,YQ,YR,PySem.W.mg_of X G YD,PySem.W.mg_of X G rY,PySem.W.mg_of X G wH,PySem.W.mg_of X G js⟩,PySem.W.mg_of X G rZ,PySem.W.mg_of X G MZ,PySem.W.mg_of X G Io,⟨Us,Ut,Uv,Uw⟩,⟨Uz,UA,UB,UC⟩,YS,Qw,YT,YU,PySem.W.mg_of X G YE,PySem.W.mg_of X G YF,PySem.W.mg_of X G YG,PySem.W.mg_of X G wI,PySem.W.mg_of X G zr,PySem.W.mg_of X G oZ,PySem.W.mg_none_of X G Il,PySem.W.mg_none_of X G MY⟩,PySem.W.mg_none_of X G Im,⟨UM,UN,UO,UP⟩,YX,YY,PySem.W.mg_of X G YH,PySem.W.mg_of X G Ip,PySem.W.mg_of X G Iq,PySem.W.mg_of X G Ir⟩,PySem.W.mg_of X G jt,PySem.W.mg_of X G uW⟩
 have M0:Def K mg "is_great" "is_great" qT ["sign"]:=cg X G RG RH (jo fun _ _ _ _ _ _ _=>rfl)
 have M1:Def K mg "is_small" "is_small" qU ["sign"]:=cg X G RK RL (jo fun _ _ _ _ _ _ _=>rfl)
 have M3:Def K mg "is_figure" "is_figure" mE ["sign"]:=cg X G RM RN (jo fun _ _ _ _ _ _ _=>rfl)
 have M4:Def K mg "count_shown" "count_shown" fR ["count"]:=cg X G RO RP (jo fun _ _ _ _ _ _ _=>rfl)
 have M5:Def K mg "parts_shown" "parts_shown" iY ["parts"]:=cg X G RQ RS (jo fun _ _ _ _ _ _ _=>rfl)
 have Iu:jH K C "Atom.__init__" gH ["self","kind","count"] [1]:=⟨_,_,_,mB (st:=gH) Mh Mi Mj,⟨YN,Mf,Mg,YO⟩,OA (⟨[.int 1 Cg], .cons ⟨_,rfl⟩ (.nil),OB rfl fun _ _ _ hk=>PySem.W.binds_K (K:=K) (fd:=PySem.W.fnOf "__init__" "Atom.__init__" (bH gH) (a9 gH) (ak gH) (.ref rW) wC wD wF wB rV wG) hk rfl FR rfl rfl rfl⟩) (⟨[], .nil,OC rfl fun _ _ _ _ hk=>PySem.W.binds_K (K:=K) (fd:=PySem.W.fnOf "__init__" "Atom.__init__" (bH gH) (a9 gH) (ak gH) (.ref rW) wC wD wF wB rV wG) hk rfl FR rfl rfl rfl⟩)⟩
 have M6:bU K C "shown" "Atom.shown" qV ["self"]:=dn RT RU (jo fun _ _ _ _ _ _ _=>rfl)
 have M7:jH K Gr "Group.__init__" d6 ["self","parts","count"] [1]:=⟨_,_,_,mB (st:=d6) RY RZ R0,⟨Uq,RW,RX,Ur⟩,OA (⟨[.int 1 FO], .cons ⟨_,rfl⟩ (.nil),OB rfl fun _ _ _ hk=>PySem.W.binds_K (K:=K) (fd:=PySem.W.fnOf "__init__" "Group.__init__" (bH d6) (a9 d6) (ak d6) (.ref x4) B4 B5 B6 B1 xZ B7) hk rfl Ml rfl rfl rfl⟩) (⟨[], .nil,OC rfl fun _ _ _ _ hk=>PySem.W.binds_K (K:=K) (fd:=PySem.W.fnOf "__init__" "Group.__init__" (bH d6) (a9 d6) (ak d6) (.ref x4) B4 B5 B6 B1 xZ B7) hk rfl Ml rfl rfl rfl⟩)⟩
 have M8:bU K Gr "shown" "Group.shown" iZ ["self"]:=dn R1 R3 (jo fun _ _ _ _ _ _ _=>rfl)
 have M9:jH K Pc "Piece.__init__" d7 ["self","parts","count"] [1]:=⟨_,_,_,mB (st:=d7) R6 R7 R8,⟨Ux,R4,R5,Uy⟩,OA (⟨[.int 1 FP], .cons ⟨_,rfl⟩ (.nil),OB rfl fun _ _ _ hk=>PySem.W.binds_K (K:=K) (fd:=PySem.W.fnOf "__init__" "Piece.__init__" (bH d7) (a9 d7) (ak d7) (.ref x5) B8 B9 B' B2 x2 Ca) hk rfl Mm rfl rfl rfl⟩) (⟨[], .nil,OC rfl fun _ _ _ _ hk=>PySem.W.binds_K (K:=K) (fd:=PySem.W.fnOf "__init__" "Piece.__init__" (bH d7) (a9 d7) (ak d7) (.ref x5) B8 B9 B' B2 x2 Ca) hk rfl Mm rfl rfl rfl⟩)⟩
 have M':bU K Pc "shown" "Piece.shown" fS ["self"]:=dn R9 R' (jo fun _ _ _ _ _ _ _=>rfl)
 have Na:Def K mg "refuse_too_long" "refuse_too_long" kg ["text"]:=cg X G Sa Sb (jo fun _ _ _ _ _ _ _=>rfl)
 have Nb:Def K mg "charge_shown" "charge_shown" eX ["charge"]:=cg X G Sd Se (jo fun _ _ _ _ _ _ _=>rfl)
 have Nc:jH K Fo "Formula.__init__" d8 ["self","pieces","charge"] [0]:=⟨_,_,_,mB (st:=d8) Sh Si Sj,⟨UD,Sf,Sg,UE⟩,OA (⟨[.int 0 FQ], .cons ⟨_,rfl⟩ (.nil),OB rfl fun _ _ _ hk=>PySem.W.binds_K (K:=K) (fd:=PySem.W.fnOf "__init__" "Formula.__init__" (bH d8) (a9 d8) (ak d8) (.ref x6) Cb Cc Cd B3 x3 Ce) hk rfl Mn rfl rfl rfl⟩) (⟨[], .nil,OC rfl fun _ _ _ _ hk=>PySem.W.binds_K (K:=K) (fd:=PySem.W.fnOf "__init__" "Formula.__init__" (bH d8) (a9 d8) (ak d8) (.ref x6) Cb Cc Cd B3 x3 Ce) hk rfl Mn rfl rfl rfl⟩)⟩
 have Nd:bU K Fo "shown" "Formula.shown" kh ["self"]:=dn Sk Sl (jo fun _ _ _ _ _ _ _=>rfl)
 have Nf:jH K Rd "Reader.__init__" qW ["self","text"] []:=E5 UK Sm UL Sn (qQ fun _ _ _ _ _ _ _ _=>rfl)
 have Ng:bU K Rd "sign" "Reader.sign" xj ["self"]:=dn So Sr (jo fun _ _ _ _ _ _ _=>rfl)
 have Nh:bU K Rd "take" "Reader.take" xk ["self","sign"]:=dn Ss Su (qQ fun _ _ _ _ _ _ _ _=>rfl)
 have Ni:bU K Rd "take_all" "Reader.take_all" ki ["self","signs"]:=dn Sv Sw (qQ fun _ _ _ _ _ _ _ _=>rfl)
 have Nj:bU K Rd "read_whole" "Reader.read_whole" mF ["self"]:=dn Sx Sy (jo fun _ _ _ _ _ _ _=>rfl)
 have Nk:bU K Rd "read_electron" "Reader.read_electron" gX ["self"]:=dn Sz SA (jo fun _ _ _ _ _ _ _=>rfl)
 have Iv:bU K Rd "read_parts" "Reader.read_parts" kj ["self","around"]:=dn Mo Mp (qQ fun _ _ _ _ _ _ _ _=>rfl)
 have Nl:bU K Rd "read_part" "Reader.read_part" nL ["self","around"]:=dn SD SE (qQ fun _ _ _ _ _ _ _ _=>rfl)
 have Nn:bU K Rd "read_group" "Reader.read_group" i0 ["self","around"]:=dn SF SH (qQ fun _ _ _ _ _ _ _ _=>rfl)
 have Iw:bU K Rd "read_atom" "Reader.read_atom" qX ["self"]:=dn Mq Mr (jo fun _ _ _ _ _ _ _=>rfl)
 have Np:bU K Rd "read_count" "Reader.read_count" mG ["self"]:=dn SI SJ (jo fun _ _ _ _ _ _ _=>rfl)
 have Nq:bU K Rd "read_number" "Reader.read_number" km ["self","longest"]:=dn SK SM (qQ fun _ _ _ _ _ _ _ _=>rfl)
 have Iy:bU K Rd "read_charge" "Reader.read_charge" kn ["self"]:=dn Ms Mt (jo fun _ _ _ _ _ _ _=>rfl)
 have Nr:Def K mg "term_shown" "term_shown" gY ["count","formula"]:=cg X G SQ SR (qQ fun _ _ _ _ _ _ _ _=>rfl)
 have Nt:Def K mg "side_shown" "side_shown" fA ["terms"]:=cg X G SS SU (jo fun _ _ _ _ _ _ _=>rfl)
 have Nu:jH K Ch "Change.__init__" qY ["self","lefts","rights"] []:=E5 UQ SV UR SW (Qr fun _ _ _ _ _ _ _ _ _=>rfl)
 have Nv:bU K Ch "shown" "Change.shown" mH ["self"]:=dn SX SY (jo fun _ _ _ _ _ _ _=>rfl)
 have Nw:bU K Rd "read_term" "ChangeReader.read_term" qZ ["self"]:=dn S0 S1 (jo fun _ _ _ _ _ _ _=>rfl)
 have Iz:bU K Rd "read_lefts" "ChangeReader.read_lefts" mI ["self"]:=dn Mu Mv (jo fun _ _ _ _ _ _ _=>rfl)
 have IA:bU K Rd "read_rights" "ChangeReader.read_rights" ko ["self"]:=dn Mw Mx (jo fun _ _ _ _ _ _ _=>rfl)
 have IB:bU K Rd "read_sides" "ChangeReader.read_sides" mJ ["self"]:=dn My Mz (jo fun _ _ _ _ _ _ _=>rfl)
 have EC:Def K mg "read_change" "read_change" kq ["text"]:=cg X G Ih Ii (jo fun _ _ _ _ _ _ _=>rfl)
 have FT:PySem.W.cK K NF HE Et:=⟨T2,S2,MQ,TV,TX,TY⟩
 have Nx:lz K mg "NoFormula" NF HE "NoFormula.__init__" Dt ["self","place"]:=xg FT (PySem.W.mg_of X G Wx) T1 S3 (qQ fun _ _ _ _ _ _ _ _=>rfl)
 have Ny:PySem.W.cK K TL HE Eu:=⟨T9,S4,MR,T4,T5,T7⟩
 have Nz:lz K mg "TooLong" TL HE "TooLong.__init__" qR ["self","many"]:=xg Ny (PySem.W.mg_of X G Wy) T8 S6 (qQ fun _ _ _ _ _ _ _ _=>rfl)
 have Ci:PySem.W.cK K NC HE Ew:=⟨Ue,S7,MS,Ua,Ub,Uc⟩
 have NA:lz K mg "NoChange" NC HE "NoChange.__init__" Du ["self","place"]:=xg Ci (PySem.W.mg_of X G Wz) Ud S9 (qQ fun _ _ _ _ _ _ _ _=>rfl)
 have Cj:PySem.W.cK K TM HE Ex:=⟨Uk,S',MT,Ug,Uh,Ui⟩
 have NB:lz K mg "TooMany" TM HE "TooMany.__init__" qS ["self","many"]:=xg Cj (PySem.W.mg_of X G WA) Uj Ta (qQ fun _ _ _ _ _ _ _ _=>rfl)
 have ND:Def K mg "_law_cell_at" "_law_cell_at" mK ["_law_script","_law_k"]:=cg X G Tb Tc (qQ fun _ _ _ _ _ _ _ _=>rfl)
 have NG:Def K mg "_law_mixed" "_law_mixed" q0 ["_law_cell","_law_prime"]:=cg X G Td Tf (qQ fun _ _ _ _ _ _ _ _=>rfl)
 have NH:Def K mg "_law_pick" "_law_pick" xm ["_law_cell","_law_turn"]:=cg X G Tg Ti (qQ fun _ _ _ _ _ _ _ _=>rfl)
 have NI:Def K mg "_law_whole" "_law_whole" q9 ["_law_found"]:=cg X G Tj Tn (jo fun _ _ _ _ _ _ _=>rfl)
 have NJ:Def K mg "_law_kind" "_law_kind" xn ["_law_number"]:=cg X G To Tp (jo fun _ _ _ _ _ _ _=>rfl)
 have NK:Def K mg "_law_count" "_law_count" rf ["_law_number"]:=cg X G Tq Ts (jo fun _ _ _ _ _ _ _=>rfl)
 have NL:Def K mg "_law_figures" "_law_figures" kr ["_law_count_here"]:=cg X G Tt Tu (jo fun _ _ _ _ _ _ _=>rfl)
 have NM:Def K mg "_law_piece" "_law_piece" ku ["_law_cell"]:=cg X G Tv Tw (jo fun _ _ _ _ _ _ _=>rfl)
 have NN:Def K mg "_law_formula" "_law_formula" i4 ["_law_cell"]:=cg X G Tx Tz (jo fun _ _ _ _ _ _ _=>rfl)
 have NO:Def K mg "_law_terms" "_law_terms" sTerms ["_law_script","_law_at"]:=cg X G TB TC (qQ fun _ _ _ _ _ _ _ _=>rfl)
 have NP:Def K mg "_law_side" "_law_side" xo ["_law_terms_here"]:=cg X G TF TJ (jo fun _ _ _ _ _ _ _=>rfl)
 have IC:Def K mg "_law_spoilt" "_law_spoilt" mL ["_law_text","_law_cell"]:=cg X G MA MB (qQ fun _ _ _ _ _ _ _ _=>rfl)
 have ID:Def K mg "_law_drawn" "_law_drawn" lA ["_law_script"]:=cg X G MC MD (jo fun _ _ _ _ _ _ _=>rfl)
 have IE:Def K mg "_law_figure" "_law_figure" kx ["_law_state","_law_sign","_law_most"]:=cg X G ME MF (Qr fun _ _ _ _ _ _ _ _ _=>rfl)
 have IF:Def K mg "_law_letter" "_law_letter" mM ["_law_state","_law_sign"]:=cg X G MG MH (qQ fun _ _ _ _ _ _ _ _=>rfl)
 have IG:Def K mg "_law_fixed" "_law_fixed" rh ["_law_name","_law_sign","_law_right"]:=cg X G MI MJ (Qr fun _ _ _ _ _ _ _ _ _=>rfl)
 have IH:Def K mg "_law_complete" "_law_complete" i5 ["_law_state","_law_deep"]:=cg X G MK ML (qQ fun _ _ _ _ _ _ _ _=>rfl)
 have II:Def K mg "_law_next" "_law_next" xp ["_law_state","_law_deep","_law_right","_law_sign"]:=cg X G MM MN (Xu fun _ _ _ _ _ _ _ _ _ _=>rfl)
 have IJ:Def K mg "_law_place" "_law_place" ri ["_law_text"]:=cg X G MO MP (jo fun _ _ _ _ _ _ _=>rfl)
 have US:=Gu (st:=rj) TN TQ TU
 refine⟨PySem.W.fnOf "law" "law" (bH rj) (a9 rj) (ak rj) .none FJ FK FL FI Cf FN,fun s v=> .of_eq rfl,fun base _ _=>?_⟩
 letI:gy:=⟨fun C=>C=NC⟩
 have si:¬NF=NC:=fun e=>by rw[e,WC] at WB;cases WB
 have TE:tK K mg HE NF TL:=⟨PySem.W.mg_of X G YI,⟨Y2,Qu,Y3⟩,PySem.W.mg_of X G Wx,PySem.W.mg_of X G Wy,Y4,Y5⟩
 have UT:xB K mg HE NF TL NC TM:=⟨TE,PySem.W.mg_of X G Wz,PySem.W.mg_of X G WA,Y6,Y7,FT.par,YZ,Y8,rfl,si⟩
 have TZ:Lk K mg C Rd Gr Pc Fo Ch HE NF TL NC TM uK uN uB uE uM uC uP uI uD uL uT l5 l6 l7 uG uS:=⟨⟨T,UT⟩,Ci.par,Cj.par,Y0,Y1,WC,Y9,Y'⟩
 have TH:=T.toBj
 have TW:=TH.tooM
 have TP:=TH.toy3
 have TT:rp K mg C Rd Gr uK uN uB uE uM:=TW.torp
 have TR:oK K mg C Rd uK uN:=TT.tooK
 have TA:jN K mg C:=TR.tojN
 have NQ:=AG (P:=l.prog) (w:=w) (base:=base) M0
 have UU:=AH (P:=l.prog) (w:=w) (base:=base) M1
 have UW:=yI (P:=l.prog) (w:=w) (base:=base) M3
 have ED:=og (P:=l.prog) (w:=w) (base:=base) M4 TA
 have UX:=DR (P:=l.prog) (w:=w) (base:=base) Iu TA
 have UY:=A3 M6 TA ED
 have UZ:=A9 (P:=l.prog) (w:=w) (base:=base) M7 TW
 have U0:=A' (P:=l.prog) (w:=w) (base:=base) M9 TW
 have NR:=Ba (P:=l.prog) (w:=w) (base:=base) Nc TW
 have U1:=AI (P:=l.prog) (w:=w) (base:=base) Nf TR
 have zu:=DC (P:=l.prog) (w:=w) (base:=base) Ng TR
 have EE:=G8 (P:=l.prog) (w:=w) (base:=base) Nx TE
 have U2:=AO (P:=l.prog) (w:=w) (base:=base) Nz TE
 have U3:=Hd (P:=l.prog) (w:=w) (base:=base) NA UT
 have U4:=AZ (P:=l.prog) (w:=w) (base:=base) NB UT
 have Ck:=AQ Nh TR TE zu EE
 have IK:=tM Ni TR Ck
 have NS:=vM Nq TR TE zu UW EE
 have EF:=vN Np TR NS
 have NT:=yL Iw TR TE zu NQ UU EF UX EE
 have NU:=pR Nn Nl Iv TT zu NQ NT Ck EF UZ 4
 have NV:=tS Iy TW.toKp zu Ck EF
 have U5:=oQ Nk TW IK NR
 have U6:=vP Nj TW zu Ck EF NU NV U5 U0 NR
 have U7:=tU Na TW TE U2
 have U8:=pU M5 M8 TT UY ED 4
 have U9:=oa 4 M' TW U8 ED
 have U':=lI Nb TW ED
 have Va:=vT 4 Nd TW U9 U'
 have NW:=vV (P:=l.prog) (w:=w) (base:=base) ND TA
 have IL:=A5 (P:=l.prog) (w:=w) (base:=base) NG TA
 have Vb:=A6 (P:=l.prog) (w:=w) (base:=base) NI TA
 have Vc:=A7 (P:=l.prog) (w:=w) (base:=base) NJ TA
 have Vd:=A8 (P:=l.prog) (w:=w) (base:=base) NK
 have NY:=vU (P:=l.prog) (w:=w) (base:=base) NL TA
 have NZ:=DY NH TA IL
 have Ve:=y7 NM TP NZ Vc Vd NY
 have Vf:=t9 NN TP NZ Ve NY
 have Vg:=Bh NO TP NW Vf
 have Vh:=D7 (P:=l.prog) (w:=w) (base:=base) NP TP
 have Vi:=rN Nr TH Va
 have Vj:=rO Nt TH Vi
 have Vk:=Bm (P:=l.prog) (w:=w) (base:=base) Nu TH
 have Vl:=y8 Nv TH Vj
 have N0:=zd Nw T NS Ck U6
 have N2:=v8 Iz T N0 IK
 have N3:=uh IA T N0 IK
 have N4:=wa IB T N2 N3 Vk
 have IM:=um EC TZ.toFh U7 U1 N4 U3 U4 EE
 have N6:=zp IC TA IL
 have N7:=BX ID TP NW IL Vg Vh N6
 have N8:=wy (P:=l.prog) (w:=w) (base:=base) IE
 have N9:=zo (P:=l.prog) (w:=w) (base:=base) IF
 have Oa:=BN (P:=l.prog) (w:=w) (base:=base) IG
 have FU:=uH (P:=l.prog) (w:=w) (base:=base) IH
 have Ob:=El II TA N8 N9 Oa FU
 have Oc:=BQ IJ TA Ob FU
 exact HN US TZ Ci Cj N7 Oc IM Vb Vl
theorem walk{l:PySem.W.OpenLaw}{q:Program}{loose:List Str}{XP:(Str→Option Value)→Heap→Prop}{YP:World→Heap→Prop}{d:DefRec}{K:Params→PySem.W.Frag}(hn:l.most=some 63)(JS:d.params.defaults=[])
  (hY:∀(w:World) (h:Heap),YP w h→(K w.params).In h)
  (F:∀(w:World) (mg:Str→Option Value) (fa:Addr) (h:Heap),(K w.params).In h→h.Ns mainGlobals mg→mg d.name=some (.ref fa)→
   ∃fd:FuncData,(∀(s:Shared) (u:Value),BindsTo s fd ⟨[u],[]⟩ [("_law_script",u)])∧∀base:Heap,(K w.params).In base→base.Ns mainGlobals mg→eD l.prog w (K w.params) mg base mz 25 fa fd ["_law_script"] (xX (K w.params))):
  PySem.W.WalkO q loose XP YP l.row.toRowW d [] (fun f vs=>PySem.call f vs):=
 L2.CU (n:=63) (k:=25) (x:="_law_script") (CX:=fun _=>mz) (sp:=fun w=>xX (K w.params)) hn (by decide) JS ⟨rfl,by decide,by decide⟩ hY F (fun _ _ a ns hl _ hS=>⟨a,ns,rfl,hS,hl,fun _=>rfl⟩) fun _ _ _ _ _ z=>z
end Qv
open PySem PySem.W PyProof.Rows
namespace PySem.W.Fast
def tw16044678677165304012:=True
def tw4076839408851793305:=True
def tw1873197924765564704:=True
def tw9989277231300903793:=True
def tw8490647883428814892:=True
def tw6891949023723341879:=True
def tw12968971012980164898:=True
def tw7081353150324465428:=True
def tw17909593912963123918:=True
def tw214296096934206188:=True
def tw10187375750612158795:=True
def tw16492449939173542708:=True
def tw2186610309643702973:=True
def tw10022027571589124716:=True
def tw2391809707602308832:=True
def tw2606233314720703846:=True
def tw8533342199388956780:=True
def tw15781969752557441930:=True
def tw5010478309480375750:=True
def tw11487743861672088618:=True
def tw14052394169975709196:=True
def tw3507988825577716916:=True
def tw10152575877770683778:=True
def tw3805042578250014802:=True
def tw11509934597050931640:=True
def tw4701301698685023595:=True
def tw9548055681553885160:=True
def tw5304178417552164191:=True
def tw12646073744657212792:=True
def tw1771271093219208998:=True
def tw15873336525611375489:=True
def tw3707819778713168747:=True
def tw11012435750731279333:=True
def tw16155710271967665977:=True
def tw8069486023593479554:=True
def tw16838702555137089869:=True
def tw3154624648923000816:=True
def tw709106278893465031:=True
def tw7835075695872636942:=True
def tw6809358798026389545:=True
def tw13296590271318607003:=True
def tw1790339051614426072:=True
def tw8073784458369539502:=True
def tw14961755651139947569:=True
def tw12974115717768690619:=True
def tw7979018671607034309:=True
def tw14943774887708447102:=True
def tw11397432312678197551:=True
def tw18110393647711829098:=True
def tw6172814630592027954:=True
def tw2976462493907913525:=True
def tw3505353129343172059:=True
def tw8605279199062459160:=True
def tw10834745588444119760:=True
def tw1712840889336039468:=True
def tw3421784162177355316:=True
def tw17397922948364644454:=True
def tw14403210482822801707:=True
def tw11876310780405359439:=True
def tw3619021779738283686:=True
def tw12909218815232040920:=True
def tw5282685670892934515:=True
def tw16483467488068995863:=True
def tw5241327928112618862:=True
def tw15627353936035237169:=True
def tw482566006988601735:=True
def tw2679148577680273547:=True
def tw5374902442086130280:=True
def tw1507316682431608230:=True
def tw4272912126169740151:=True
def tw4047280672808837880:=True
def tw6848502937694818087:=True
def tw4905073345358444231:=True
def tw13544862216364315240:=True
def tw6270112099528425892:=True
def tw3433370287434865721:=True
def tw8755493622024300394:=True
def tw592645144790748256:=True
def tw18386608415806502632:=True
def tw7291308791915134635:=True
def tw318550873312989147:=True
def tw11233279926505200856:=True
def tw17661486834680106151:=True
def tw17764344175014964704:=True
def tw12433553324020672044:=True
def tw4607277255737215819:=True
def tw5236743244132391925:=True
def tw7118762794692768757:=True
def tw4215243065244574297:=True
def tw12386649971569124506:=True
def tw12452886534972858226:=True
def tw8532551366924336944:=True
def tw16199221393170452669:=True
def tw15148965366118132615:=True
def tw8616931232245143681:=True
def tw17757006485482778517:=True
def tw8749725562400343519:=True
def tw11926206655564600105:=True
def tw11276968326763273501:=True
def tw975021695876287451:=True
def tw13927182721456232417:=True
def tw17877141447041914272:=True
def tw13466629651671085133:=True
def tw303212661452757671:=True
def tw8213563056836875279:=True
def tw15784408366771078030:=True
def tw8104336148663412429:=True
def tw7488986553573684581:=True
def tw11032731517775031644:=True
def tw11051208326233745996:=True
def tw8388389915711587523:=True
def tw6078979403583295229:=True
def tw8301128333890483460:=True
def tw16193690657549810934:=True
def tw18400354061788747133:=True
def tw5696691741351136703:=True
def tw13515725772583515622:=True
def tw15977056544119146946:=True
def tw11296352932385563765:=True
def tw7516766161145427260:=True
def tw14319289377658139014:=True
def tw8895874125802657526:=True
def tw1047740550481379097:=True
def tw9847179724895140294:=True
def tw6422556789674081459:=True
def tw7117172411029274021:=True
def tw4566130398293338690:=True
def tw10871468607408047431:=True
def tw8600091546841946376:=True
def tw5112479956583810171:=True
def tw10186215373374704410:=True
def tw2942174445810369712:=True
def tw12280050217633687093:=True
def tw8991653313300676926:=True
def tw7537560783328102838:=True
def tw2367671304811265524:=True
def tw10786475593902710764:=True
def tw14215723737373826656:=True
def tw10628365063691873149:=True
def tw1869879971134106287:=True
def tw4537190547901906214:=True
def tw4746201646905762068:=True
def tw18029395580447784885:=True
def tw16675426848088716824:=True
def tw12839650381873266610:=True
def tw8433206788965750271:=True
def tw8997807091193276630:=True
def tw8144048833334759025:=True
def tw5039148606736279517:=True
def tw14010722677808545327:=True
def tw7807600165255786617:=True
def tw12251471255619053609:=True
def tw9986609895236864376:=True
def tw5467238512308840903:=True
def tw17723999574264385678:=True
def tw2350378885962404650:=True
def tw11663121938926682573:=True
def tw2638069111506492554:=True
def tw8365838583278085819:=True
def tw1340283169565959667:=True
def tw17794156202210115175:=True
def tw2595475660540681577:=True
def tw9527426108512394004:=True
def tw18028286162384182901:=True
def tw18041242948526935076:=True
def tw2500060861304011268:=True
def tw16761651645366031218:=True
def tw14301710667858532254:=True
def tw13641325678454299862:=True
def tw15747916439307947909:=True
def tw17357174887643677555:=True
def tw6177043958613777062:=True
def tw12803972061879012855:=True
def tw8500621939566134820:=True
def tw8343935844688711184:=True
def tw1541142347161228870:=True
def tw5397925990367398684:=True
def tw2950790450633725082:=True
def tw14697598403886194911:=True
def tw18409149152388314456:=True
def tw18301432598264982537:=True
def tw12924469380126742269:=True
def tw12360842834360694696:=True
def tw17362718915917172261:=True
def tw16071147159242668056:=True
def tw16306598831980990837:=True
def tw16975724936761274434:=True
def tw4256986421206956915:=True
def tw1946954598661442820:=True
def tw13525641617642909098:=True
def tw2026673594472785994:=True
def tw8108462877426325468:=True
def tw8906277052585529178:=True
def tw8141462320466320205:=True
def tw15845109288416655951:=True
def tw14168193231929747040:=True
def tw11969255776640572564:=True
def tw2235531216144693033:=True
def tw5418124920699199533:=True
def tw16022275178484644704:=True
def tw16068552883497092709:=True
def tw13665722697236245825:=True
def tw12531765954630895674:=True
def tw15435865270029032050:=True
def tw11815079126969097939:=True
def tw18137402903345148944:=True
def tw4202323679258004709:=True
def tw587862153248121698:=True
def tw4871181827200589847:=True
def tw11592878461375664009:=True
def tw11129210151061287271:=True
def tw10560398888731126906:=True
def tw4071721708572493146:=True
def tw17631539117863963622:=True
def tw9379984498550477329:=True
def tw16160195269709225231:=True
def tw11328759043181374693:=True
def tw15738033091905122597:=True
def tw14146337389732715149:=True
def tw2985816819034578289:=True
def tw18297949614049753738:=True
def tw14413559686981772166:=True
def tw3906182852339685716:=True
def tw5103415680004191920:=True
def tw9655653554317099700:=True
def tw211425424771568282:=True
def tw6674853217404736335:=True
def tw13256546637989067018:=True
def tw5680350629256963607:=True
def tw2961726277481350383:=True
def tw12041577596440446065:=True
def tw5591726881820316108:=True
def tw7127893857909575171:=True
def tw2643813616114825615:=True
def tw6416337100765087702:=True
def tw6306244828563158879:=True
def tw308224450964142445:=True
def tw16735623063138184287:=True
def tw14223835277158522153:=True
def tw18377848814402075515:=True
def tw5239598952474099083:=True
def tw15337540797253110199:=True
def tw18118133507104327874:=True
def tw14873082097759941420:=True
def tw871493630410682250:=True
def tw9435341260521393119:=True
def tw18137224236243066074:=True
def tw9483235448633480390:=True
def tw1930900502702147316:=True
def tw6582524255307941321:=True
def tw8835990880988466475:=True
def tw7443705653551813820:=True
def tw14777888843075521231:=True
def tw11235668050196296179:=True
def tw14206608493657611117:=True
def tw16195643776735795749:=True
def tw9068356739438572005:=True
def tw15137475338529426980:=True
def tw9705032026573822596:=True
def tw14381993097146005051:=True
def tw9703243709817710130:=True
def tw10756716654037215034:=True
def tw12937498970962347630:=True
def tw17117411807618580447:=True
def tw6634583929055147944:=True
def tw5892524597554111362:=True
def tw5862964986100644040:=True
def tw16274305303366207388:=True
def tw17516246606557156062:=True
def tw8688992984773596001:=True
def tw2431138777784801668:=True
def tw8482475426186235187:=True
def tw10584995862567110052:=True
def tw14255258729296205835:=True
def tw5502318735989296482:=True
def tw13224493708897533149:=True
def tw14154575353566548500:=True
def tw5469983529496697515:=True
def tw9306185989667702072:=True
def tw6891670955247535332:=True
def tw1285445245679372693:=True
def tw14481253807304544251:=True
def tw17639079270535310789:=True
def tw1615144777144517792:=True
def tw17037032308015161465:=True
def tw10229947823286108953:=True
def tw17313267330537754123:=True
def tw2205103227069796122:=True
def tw13701346386537293410:=True
def tw13582733481230321861:=True
def tw7503918251647005061:=True
def tw11212893236380868696:=True
def tw16634086061080004025:=True
def tw17040702104298393738:=True
def tw18212092866672820615:=True
def tw2759709408378956600:=True
def tw10362184875147984979:=True
def tw301596634764163121:=True
def tw13175100884557229298:=True
def tw8826876546541311952:=True
def tw10837738070155306957:=True
def tw17593281188159136988:=True
def tw13896619068478931489:=True
def tw8574620400268002067:=True
def tw10204234250894049994:=True
def tw7916781963527203060:=True
def tw2517314844192759383:=True
def tw11543880513007661309:=True
def tw15396364968065709484:=True
def tw17579840323301743856:=True
def tw10279889569686023556:=True
def tw5721556401041349586:=True
def tw2483778305294349295:=True
def tw2019599581917070581:=True
def tw173863233804696307:=True
def tw1310676175744925789:=True
def tw7046696553798768223:=True
def tw14980568481248673679:=True
def tw18326286701993167644:=True
def tw809334643950309232:=True
def tw14747001278531830196:=True
def tw11964296782792324502:=True
def tw9355147342180508933:=True
def tw2872933593371693704:=True
def tw16519322106804999024:=True
def tw17955043367513009103:=True
def tw12356966551994163474:=True
def tw12975879782389699289:=True
def tw17613635638340431495:=True
def tw9234170085423271918:=True
def tw2923369578310193690:=True
def tw13635187108102327950:=True
def tw15630546350026667586:=True
def tw6608012898867123375:=True
def tw14956062578353835396:=True
def tw1586627597456908961:=True
def tw3591014902204453661:=True
def tw4655274887090421915:=True
def tw6744261446032206131:=True
def tw17807576617516182773:=True
def tw2603649240700601709:=True
def tw15828863314687314699:=True
def tw947589012918154392:=True
def tw1868721965213424590:=True
def tw3681996844101465562:=True
def tw5631078194113869245:=True
def tw17172891588602123091:=True
def tw1890664429297232474:=True
def tw6683187476466285196:=True
def tw9301875021933171854:=True
def tw3120303109859620305:=True
def tw14584331470311790586:=True
def tw3996679720678561126:=True
def tw2624546704498077092:=True
def tw4741972201063649638:=True
def tw17296893060378374103:=True
def tw7323090656176519242:=True
def tw8656335122392807859:=True
def tw17606170317432506495:=True
def tw7390670038062903538:=True
def tw15380773225323181902:=True
def tw12788849891582026537:=True
def tw12586523313786315722:=True
def tw11493894423582970096:=True
def tw16145553643306992431:=True
def tw11954446120592821576:=True
def tw5458472079590321366:=True
def tw10089285270956160955:=True
def tw5494335664599294291:=True
def tw2368649311576443251:=True
def tw7613719873723476181:=True
def tw8377307592745038177:=True
def tw17225407806080982024:=True
def tw11181471467904179475:=True
def tw12809302986495284641:=True
def tw11527557424411519410:=True
def tw17398298103381109653:=True
def tw5313483339830735746:=True
def tw1642805352435834060:=True
end PySem.W.Fast
set_option maxRecDepth 100000 in
set_option maxHeartbeats 0 in
theorem PySem.Challenge.cw_balancehall_k45_whole_change_texts_by_si_holds : PySem.Challenge.rw_balancehall_k45_whole_change_texts_by_si.Holds := by
 w_on;o_law;k_head;(case hw=>w_witness2)
 k_fill
 refine Qv.walk (l:=PySem.Challenge.rw_balancehall_k45_whole_change_texts_by_si) rfl rfl (fun w h Y=>PySem.W.kIn_of Y) ?F
 case F=>
  intro w mg fa h KX G JT
  apply Qv.all_mk KX G JT
  all_goals first|k_is|exact⟨⟨_,⟨⟨_,_,_,_,_,_,_,_,_,rfl,by k_is,by k_is⟩,by k_is⟩⟩,by k_is⟩ |exact⟨_,_,_,_,_,_,_,_,_,_,_,_,_,_,by k_is⟩
