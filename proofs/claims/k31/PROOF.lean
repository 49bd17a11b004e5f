import PyProof.Rows.All
import Wide.All
import OpenK.AllK
import Wide.FinOn
import Lean
import PyProof.EqAt
import PyProof.EqKinds
import PyProof.TupleCall
import PySem.Challenge.RW_balancehall_k31_splits
set_option Elab.async false
set_option linter.all false
set_option maxRecDepth 100000
namespace L2
open PySem PySem.Spec PyProof.Rows
abbrev Key:=Sum Int Str
def EZ:Key→Value→Bool
 | .inl k,v=>Value.isInt k v
 | .inr x,v=>Value.isStrOf x v
def VI(w:World):Key→Int
 | .inl k=>hashInt k
 | .inr x=>hashStr w x
theorem b5:∀{k:Key} {v:Value},EZ k v=true→(∃i t,k=Sum.inl i∧v=Value.int i t)∨(∃x t,k=Sum.inr x∧v=Value.str x t)
 | .inl i,v,h=>by
   obtain⟨t,e⟩:=Value.isInt_shape (k:=i) (v:=v) h
   exact .inl ⟨i,t,rfl,e⟩
 | .inr x,v,h=>by
   obtain⟨t,e⟩:=Value.isStrOf_shape (x:=x) (v:=v) h
   exact .inr ⟨x,t,rfl,e⟩
theorem GL(a b:Int):decide ((Sum.inl a:Key)=Sum.inl b)=(a==b):=by
 by_cases e:a=b
 ·subst e;simp
 ·have h:¬(Sum.inl a:Key)=Sum.inl b:=fun q=>e (Sum.inl.inj q)
  rw[decide_eq_false h]
  exact(beq_eq_false_iff_ne.mpr e).symm
theorem GN(a b:Str):decide ((Sum.inr a:Key)=Sum.inr b)=decide (a=b):=by
 by_cases e:a=b
 ·subst e;simp
 ·have h:¬(Sum.inr a:Key)=Sum.inr b:=fun q=>e (Sum.inr.inj q)
  rw[decide_eq_false h,decide_eq_false e]
theorem GO(a:Int)(b:Str):decide ((Sum.inl a:Key)=Sum.inr b)=false:=decide_eq_false (fun q=>nomatch q)
theorem GP(a:Str)(b:Int):decide ((Sum.inr a:Key)=Sum.inl b)=false:=decide_eq_false (fun q=>nomatch q)
def uH(prog:Program)(w:World):PySem.KeyKind prog w Key where
 is:=EZ
 hash:=VI w
 inj:=fun v a b ha hb=>by
  rcases b5 ha with ⟨i,t,rfl,rfl⟩ | ⟨x,t,rfl,rfl⟩
  ·rcases b5 hb with ⟨j,u,rfl,e⟩ | ⟨y,u,rfl,e⟩
   ·injection e with e1 _;rw[e1]
   ·exact nomatch e
  ·rcases b5 hb with ⟨j,u,rfl,e⟩ | ⟨y,u,rfl,e⟩
   ·exact nomatch e
   ·injection e with e1 _;rw[e1]
 byValue:=fun k v h=>by
  rcases b5 h with ⟨i,t,rfl,rfl⟩ | ⟨x,t,rfl,rfl⟩<;>rfl
 pyHash:=fun hv h=>by
  rcases b5 hv with ⟨i,t,rfl,rfl⟩ | ⟨x,t,rfl,rfl⟩
  ·exact wpAny_pyHash_int h
  ·exact wpAny_pyHash_str h
 eqBool:=fun hu hv h=>by
  rcases b5 hu with ⟨i,t,rfl,rfl⟩ | ⟨x,t,rfl,rfl⟩
  ·rcases b5 hv with ⟨j,u,rfl,rfl⟩ | ⟨y,u,rfl,rfl⟩
   ·rw[GL] at h;exact wpAny_eqBool_int h
   ·rw[GO] at h;exact SeqAt.EqAt.int_str i t y u _ _ _ _ h
  ·rcases b5 hv with ⟨j,u,rfl,rfl⟩ | ⟨y,u,rfl,rfl⟩
   ·rw[GP] at h;exact SeqAt.EqAt.str_int x t j u _ _ _ _ h
   ·rw[GN] at h;exact wpAny_eqBool_str h
 «strs» :=fun k x t v h=>by
  rcases b5 h with ⟨i,u,rfl,e⟩ | ⟨y,u,rfl,e⟩
  ·exact nomatch e
  ·injection e with e1 _
   subst e1
   cases v<;>rfl
end L2
namespace L2
open PySem PySem.Spec PyProof.Rows
inductive V where
 |dE|bl (b:Bool) |int (i:Int) |str (x:Str) |vQ (b:Array UInt8) |sR (b:UInt64) |ref (a:Addr) |ty (n:String)
 deriving DecidableEq
def RelV:V→Value→Prop
 | .dE,u=>u=Value.none
 | .bl b,u=>u=Value.bool b
 | .int i,u=>∃t,u=Value.int i t
 | .str x,u=>∃t,u=Value.str x t
 | .vQ b,u=>∃t,u=Value.bytes b t
 | .sR b,u=>∃t,u=Value.float b t
 | .ref a,u=>u=Value.ref a
 | .ty n,u=>u=Value.type n
abbrev Vals:List V→List Value→Prop:=Paired RelV
theorem Vals.length{xs:List V}{us:List Value}(r:Vals xs us):xs.length=us.length:=Paired.length r
theorem Vals.get:∀{xs:List V} {us:List Value} {i:Nat} {x:V},Vals xs us→xs[i]? =some x→∃u,us[i]? =some u∧RelV x u
 |_,_,_,_, .nil,e=>by simp at e
 |_,_,0,_, .cons r _,e=>by simp at e;subst e;exact⟨_,rfl,r⟩
 |_,_,i+1,x, .cons _ t,e=>by
  obtain⟨u,h1,h2⟩:=Vals.get (i:=i) (x:=x) t (by simpa using e)
  exact⟨u,by simpa using h1,h2⟩
theorem Vals.set{x:V}{u:Value}(r:RelV x u):∀{xs:List V} {us:List Value} (i:Nat),Vals xs us→Vals (xs.set i x) (us.set i u)
 |_,_,_, .nil=> .nil
 |_,_,0, .cons _ t=> .cons r t
 |_,_,i+1, .cons q t=> .cons q (Vals.set r i t)
theorem Vals.append:∀{xs ys:List V} {us ws:List Value},Vals xs us→Vals ys ws→Vals (xs++ys) (us++ws)
 |_,_,_,_, .nil,s=>s
 |_,_,_,_, .cons r t,s=> .cons r (Vals.append t s)
theorem Vals.take:∀{xs:List V} {us:List Value} (n:Nat),Vals xs us→Vals (xs.take n) (us.take n)
 |_,_,0,_=> .nil
 |_,_,_+1, .nil=> .nil
 |_,_,n+1, .cons r t=> .cons r (Vals.take n t)
theorem Vals.drop:∀{xs:List V} {us:List Value} (n:Nat),Vals xs us→Vals (xs.drop n) (us.drop n)
 |_,_,0,r=>r
 |_,_,_+1, .nil=> .nil
 |_,_,n+1, .cons _ t=>Vals.drop n t
def lM:Option V→Option Value→Prop
 |some v,some u=>RelV v u
 |none,none=>True
 |_,_=>False
def KV{κ:Type}:List (κ×V)→List (κ×Value)→Prop:=Paired fun (p:κ×V) (q:κ×Value)=>p.1=q.1∧RelV p.2 q.2
def kV:Key→V
 | .inl i=> .int i
 | .inr x=> .str x
inductive HO where
 |lst (xs:List V)
 |tup (xs:List V)
 |dK (jE:List (Key×V)) |dT (jE:List (List Key×V))
 |set (S:Int→Bool) (n:Nat)
 |ins (C dx:Addr) (fs:List (Str×V))
 |own (x:Addr)
 |xd (fs:List (Str×V))
 |met (f x:Addr)
 |VJ (lo hi:Int)
 |uI (o:Obj) (u:HO)
 |GQ (ps:Array Value)
 |ext (φ:Heap→Prop)
abbrev Hp:=Addr→Option HO
def upd(H:Hp)(a:Addr)(o:HO):Hp:=fun b=>if b=a then some o else H b
theorem af{H:Hp}{a:Addr}{o:HO}:upd H a o a=some o:=by unfold upd;rw[if_pos rfl]
theorem aq{H:Hp}{a b:Addr}{o:HO}(h:b≠a):upd H a o b=H b:=by unfold upd;rw[if_neg h]
theorem Bo{H:Hp}{a:Addr}{o u:HO}:upd (upd H a o) a u=upd H a u:=by
 funext b;unfold upd;split<;>rfl
theorem ie{H:Hp}{a b:Addr}{o u:HO}(h:H a=some o)(h':H b=some u)(d:o≠u):a≠b:=by
 intro e;subst e;rw[h] at h';exact d (Option.some.inj h')
theorem ah{H:Hp}{a b:Addr}{o:HO}(h:H a=some o)(h':H b=none):a≠b:=by
 intro e;subst e;rw[h] at h';cases h'
section
variable (P:Program)(w:World)
def cY(H:Hp)(h:Heap)(a:Addr):HO→Prop
 | .lst xs=>xs.length≤sizeLine∧∃(its:List Value) (n:Nat),Vals xs its∧h.get? a=some { cls:= .type "list",data:= .seq its.toArray n }
 | .tup xs=>xs.length≤sizeLine∧∃its:List Value,Vals xs its∧IsTup h a its.toArray
 | .dK jE=>jE.length≤sizeLine∧(a==sysModules)=false∧∃vs,KV jE vs∧h.DictOf (uH P w) a vs
 | .dT jE=>jE.length≤sizeLine∧(a==sysModules)=false∧∃xs:List (List Key×Addr×Value),
   Paired (fun (p:List Key×V) (q:List Key×Addr×Value)=>p.1=q.1∧H q.2.1=some (.tup (p.1.map kV))∧RelV p.2 q.2.2) jE xs∧
   ∃o es ep,h.get? a=some o∧o.ExactDict∧o.data= .dict es ep∧es.toList=xs.map (entryOfKey (tupleKind (uH P w)))∧(xs.map (·.1)).Nodup
 | .set S n=>h.SetOf (intKind P w) a S n
 | .ins C dx fs=>H dx=some (.own a)∧fs.length≤1000∧dx≠a∧h.get? a=some (PySem.W.instObj C dx)∧
   ∃mA,h.Ns1 dx mA∧(∀f,lM (fs.lookup f) (mA f))∧PySem.Within mA (fs.map (·.1))
 | .own _=>∃o,h.get? a=some o
 | .xd fs=>∃mA,h.Ns1 a mA∧∀f,lM (fs.lookup f) (mA f)
 | .VJ lo hi=>∃t u v,h.get? a=some { cls:= .type "range",data:= .fields #[.int lo t, .int hi u, .int 1 v] }
 | .uI o u=>h.get? a=some o∧cY H h a u
 | .GQ ps=>h.get? a=some { cls:= .none,data:= .fields ps }
 | .met f x=>h.get? a=some (PySem.W.methodObj (.ref f) (.ref x))
 | .ext φ=>φ h∧(∃o,h.get? a=some o)∧∀h1 h2:Heap,φ h1→(∀o,h1.get? a=some o→h2.get? a=some o)→φ h2
def jF(H:Hp)(h:Heap):Prop:=∀a o,H a=some o→cY P w H h a o
end
section
variable {P:Program}{w:World}{H H':Hp}{h h':Heap}{a:Addr}{o:HO}
theorem cY.lt(x:cY P w H h a o):a<h.objs.size:=by
 cases o with
 |lst xs=>obtain⟨_,_,_,_,e⟩:=x;exact Heap.lt_size e
 |tup xs=>obtain⟨_,_,_,p⟩:=x;exact p.lt
 |dK jE=>obtain⟨_,_,_,_,o,_,_,e,_⟩:=x;exact Heap.lt_size e
 |dT jE=>obtain⟨_,_,_,_,o,_,_,e,_⟩:=x;exact Heap.lt_size e
 |set S n=>obtain⟨o,_,_,_,e,_⟩:=x;exact Heap.lt_size e
 |ins C dx fs=>obtain⟨_,_,_,e,_⟩:=x;exact Heap.lt_size e
 |own y=>obtain⟨_,e⟩:=x;exact Heap.lt_size e
 |xd fs=>obtain⟨_,⟨_,_,_,e,_⟩,_⟩:=x;exact Heap.lt_size e
 |VJ lo hi=>obtain⟨_,_,_,e⟩:=x;exact Heap.lt_size e
 |uI ob u=>obtain⟨e,_⟩:=x;exact Heap.lt_size e
 |GQ ps=>exact Heap.lt_size (show h.get? a=some _ from x)
 |met f y=>exact Heap.lt_size (show h.get? a=some _ from x)
 |ext φ=>obtain⟨_,⟨_,e⟩,_⟩:=x;exact Heap.lt_size e
theorem Paired.LZ{α β:Type}{F G:α→β→Prop}:∀{l₁:List α} {l₂:List β},Paired F l₁ l₂→(∀a b,F a b→G a b)→Paired G l₁ l₂
 |_,_, .nil,_=> .nil
 |_,_, .cons r t,f=> .cons (f _ _ r) (Paired.LZ t f)
theorem cY.pE(x:cY P w H h a o)(k:∀b u,(b=a∨H b=some (.own a))→h.get? b=some u→h'.get? b=some u)
  (ho:∀b,H b=some (.own a)→H' b=some (.own a)) (ht:∀b xs,H b=some (.tup xs)→H' b=some (.tup xs)):cY P w H' h' a o:=by
 induction o with
 |lst xs=>obtain⟨z,its,n,r,e⟩:=x;exact⟨z,its,n,r,k _ _ (.inl rfl) e⟩
 |tup xs=>obtain⟨z,its,r,ob,e,c⟩:=x;exact⟨z,its,r,ob,k _ _ (.inl rfl) e,c⟩
 |dK jE=>obtain⟨z,y,vs,r,ob,es,ep,e,c⟩:=x;exact⟨z,y,vs,r,ob,es,ep,k _ _ (.inl rfl) e,c⟩
 |dT jE=>
  obtain⟨z,y,xs,r,ob,es,ep,e,c⟩:=x
  exact⟨z,y,xs,Paired.LZ r fun p q z=>⟨z.1,ht _ _ z.2.1,z.2.2⟩,ob,es,ep,k _ _ (.inl rfl) e,c⟩
 |set S n=>obtain⟨ob,es,ep,t,e,c⟩:=x;exact⟨ob,es,ep,t,k _ _ (.inl rfl) e,c⟩
 |ins C dx fs=>
  obtain⟨d,z,ne,e,mA,⟨od,es,ep,e2,c⟩,r⟩:=x
  exact⟨ho _ d,z,ne,k _ _ (.inl rfl) e,mA,⟨od,es,ep,k _ _ (.inr d) e2,c⟩,r⟩
 |own y=>obtain⟨ob,e⟩:=x;exact⟨ob,k _ _ (.inl rfl) e⟩
 |xd fs=>obtain⟨mA,⟨od,es,ep,e,c⟩,r⟩:=x;exact⟨mA,⟨od,es,ep,k _ _ (.inl rfl) e,c⟩,r⟩
 |VJ lo hi=>obtain⟨t,u,v,e⟩:=x;exact⟨t,u,v,k _ _ (.inl rfl) e⟩
 |uI ob u ih=>obtain⟨e,q⟩:=x;exact⟨k _ _ (.inl rfl) e,ih q⟩
 |GQ ps=>
  have e:h.get? a=some { cls:= .none,data:= .fields ps }:=x
  show h'.get? a=some { cls:= .none,data:= .fields ps }
  exact k a _ (.inl rfl) e
 |met f y=>
  have e:h.get? a=some (PySem.W.methodObj (.ref f) (.ref y)):=x
  show h'.get? a=some (PySem.W.methodObj (.ref f) (.ref y))
  exact k a _ (.inl rfl) e
 |ext φ=>obtain⟨p,⟨o,e⟩,st⟩:=x;exact⟨st _ _ p fun o q=>k _ _ (.inl rfl) q,⟨o,k _ _ (.inl rfl) e⟩,st⟩
theorem jF.lt(x:jF P w H h)(e:H a=some o):a<h.objs.size:=(x a o e).lt
theorem jF.fresh(x:jF P w H h)(e:h.objs.size≤a):H a=none:=by
 cases q:H a with
 |none=>rfl
 |some u=>exact absurd (Nat.lt_of_lt_of_le (x.lt q) e) (Nat.lt_irrefl _)
theorem jF.kept(x:jF P w H h)(k:∀b u,h.get? b=some u→h'.get? b=some u):jF P w H h':=fun a o e=>
 (x a o e).pE (fun b u _ q=>k b u q) (fun _ q=>q) fun _ _ q=>q
theorem jF.laid(x:jF P w H h)(k:∀b u,h.get? b=some u→h'.get? b=some u)(hp:h.objs.size≤a)(new:cY P w (upd H a o) h' a o):jF P w (upd H a o) h':=fun b u e=>by
 have hn:=x.fresh hp
 by_cases hb:b=a
 ·subst hb;rw[af] at e;cases e;exact new
 ·rw[aq hb] at e
  exact(x b u e).pE (fun c v _ q=>k c v q) (fun c q=>by rw[aq (ah q hn)];exact q) fun c xs q=>by rw[aq (ah q hn)];exact q
end
def Rd(H:Hp)(a:Addr)(u:HO):Prop:=H a=some u∨∃o,H a=some (.uI o u)
theorem Rd.ok{P:Program}{w:World}{H:Hp}{h:Heap}{a:Addr}{u:HO}(r:Rd H a u)(x:jF P w H h):cY P w H h a u:=by
 rcases r with r| ⟨o,r⟩
 ·exact x a u r
 ·obtain⟨_,q⟩:=x a _ r
  exact q
def UC:Option HO→Prop
 |some (.lst _)=>True
 |some (.dK _)=>True
 |some (.dT _)=>True
 |some (.set _ _)=>True
 |some (.ins _ _ _)=>True
 |some (.ext _)=>True
 |_=>False
section
variable {P:Program}{w:World}{H:Hp}{h h':Heap}{x e:Addr}{o':HO}
theorem jF.write(ok:jF P w H h)(mu:UC (H x))(he:e=x∨H e=some (.own x))(k:∀b u,b≠e→h.get? b=some u→h'.get? b=some u)(Lp:∃u,h'.get? e=some u)
  (new:cY P w (upd H x o') h' x o'):jF P w (upd H x o') h':=fun b u q=>by
 have L0:∀c y,H c=some (.own y)→c≠x:=fun c y r z=>by subst z;rw[r] at mu;exact mu
 have VL:∀c xs,H c=some (.tup xs)→c≠x:=fun c xs r z=>by subst z;rw[r] at mu;exact mu
 by_cases hb:b=x
 ·subst hb;rw[af] at q;cases q;exact new
 ·rw[aq hb] at q
  by_cases GR:b=e
  ·have q':H b=some (.own x):=by
    rcases he with z|z
    ·exact absurd (GR.trans z) hb
    ·rw[GR];exact z
   rw[q] at q';cases q'
   obtain⟨v,hv⟩:=Lp
   exact⟨v,by rw[GR];exact hv⟩
  ·refine(ok b u q).pE (fun c v hc r=>k c v ?_ r) (fun c r=>by rw[aq (L0 c b r)];exact r) fun c xs r=>by rw[aq (VL c xs r)];exact r
   rcases hc with rfl|hc
   ·exact GR
   ·rintro rfl
    rcases he with z|z
    ·exact L0 c b hc z
    ·rw[hc] at z;cases z;exact hb rfl
end
structure Un(fs ex:List Addr)(H H':Hp)(h h':Heap):Prop where
 keep:∀b o,h.get? b=some o→H b=none→b∉fs→b∉ex→h'.get? b=some o
 slot:∀b o,h.get? b=some o→H b=none→b∈fs→b∉ex→∃sl,h'.get? b=some { o with slots:=sl }
 free:∀b o,h.get? b=some o→H b=none→b∉ex→H' b=none
 there:∀b o,h.get? b=some o→b∉ex→∃o',h'.get? b=some o'
 oi:∀b xs,H b=some (.tup xs)→H' b=some (.tup xs)
 mF:∀b o u,H b=some (.uI o u)→H' b=some (.uI o u)
 oj:∀b ps,H b=some (.GQ ps)→∃more,H' b=some (.GQ (ps++more))
section
variable {fs x' ex ex':List Addr}{H H1 H2:Hp}{h h1 h2 h':Heap}{a x e:Addr}{o:HO}
theorem Un.any(u:Un fs ex H H1 h h1){b:Addr}{ob:Obj}(q:h.get? b=some ob)(n:H b=none)(hx:b∉ex):∃sl,h1.get? b=some { ob with slots:=sl }:=by
 by_cases hb:b∈fs
 ·exact u.slot b ob q n hb hx
 ·exact⟨ob.slots,u.keep b ob q n hb hx⟩
theorem Un.kept(k:∀b u,h.get? b=some u→h'.get? b=some u):Un fs ex H H h h':=
 ⟨fun b ob q _ _ _=>k b ob q,fun b ob q _ _ _=>⟨ob.slots,k b ob q⟩,fun _ _ _ n _=>n,fun b ob q _=>⟨ob,k b ob q⟩,fun _ _ q=>q,fun _ _ _ q=>q,fun _ ps q=>⟨#[],by rw[q];simp⟩⟩
theorem Un.refl:Un fs ex H H h h:=Un.kept fun _ _ q=>q
theorem Un.laid(k:∀b u,h.get? b=some u→h'.get? b=some u)(hp:h.objs.size≤a)(hn:H a=none):Un fs ex H (upd H a o) h h' where
 keep:=fun b u q _ _ _=>k b u q
 slot:=fun b u q _ _ _=>⟨u.slots,k b u q⟩
 free:=fun b u q n _=>by rw[aq (Nat.ne_of_lt (Nat.lt_of_lt_of_le (Heap.lt_size q) hp))];exact n
 there:=fun b u q _=>⟨u,k b u q⟩
 oi:=fun b xs q=>by rw[aq (ah q hn)];exact q
 mF:=fun b u xs q=>by rw[aq (ah q hn)];exact q
 oj:=fun b ps q=>⟨#[],by rw[aq (ah q hn),q];simp⟩
theorem Un.write(mu:UC (H x))(he:e=x∨H e=some (.own x))(k:∀b u,b≠e→h.get? b=some u→h'.get? b=some u)(Lp:∃u,h'.get? e=some u):Un fs ex H (upd H x o) h h':=by
 have hx:∀b,H b=none→b≠x:=fun b n z=>by subst z;rw[n] at mu;exact mu
 have hb:∀b,H b=none→b≠e:=fun b n z=>by
  subst z
  rcases he with r|r
  ·exact hx b n r
  ·rw[n] at r;cases r
 have hm:∀b u,H b=some u→¬UC (some u)→b≠x:=fun b u q nm z=>by subst z;rw[q] at mu;exact nm mu
 refine⟨fun b u q n _ _=>k b u (hb b n) q,fun b u q n _ _=>⟨u.slots,k b u (hb b n) q⟩,fun b u q n _=>by rw[aq (hx b n)];exact n,fun b u q _=>?_,
  fun b xs q=>by rw[aq (hm b _ q fun z=>z)];exact q,fun b u xs q=>by rw[aq (hm b _ q fun z=>z)];exact q,fun b ps q=>⟨#[],by rw[aq (hm b _ q fun z=>z),q];simp⟩⟩
 by_cases GR:b=e
 ·subst GR;exact Lp
 ·exact⟨u,k b u GR q⟩
end
def UD(h:Heap)(H:Hp):List Addr:=(List.range h.objs.size).filter fun a=>(H a).isSome
def pF(h:Heap)(H:Hp):Heap:=PySem.W.hideAll h (UD h H)
theorem vR(h:Heap)(H:Hp):(pF h H).objs.size=h.objs.size:=PySem.W.hideAll_size _ _
theorem ya{h:Heap}{H:Hp}{b:Addr}{o:Obj}(e:h.get? b=some o)(n:H b=none):(pF h H).get? b=some o:=
 PySem.W.hideAll_get _ e fun hm=>by
  have q:(H b).isSome=true:=(List.mem_filter.mp hm).2
  rw[n] at q;simp at q
theorem Bp{h:Heap}{H:Hp}{b:Addr}{o:Obj}(e:(pF h H).get? b=some o):h.get? b=some o∧H b=none:=by
 have e':h.get? b=some o:=PySem.W.of_hideAll (UD h H) e
 refine⟨e',?_⟩
 cases q:H b with
 |none=>rfl
 |some x=>
  have hm:b∈UD h H:=List.mem_filter.mpr ⟨List.mem_range.mpr (Heap.lt_size e'),by simp [q]⟩
  have z:(pF h H).get? b=none:=PySem.W.hideAll_none (UD h H) hm
  rw[z] at e;cases e
def Bq(g h:Heap)(L:Addr):List (Addr×Obj):=(List.range h.objs.size).filterMap fun a=>if a=L∨(g.get? a).isSome=true then none else (h.get? a).map fun o=>(a,o)
def rest(g h:Heap)(L d:Addr):List (Addr×Obj):=(Bq g h L).filter fun p=>decide (p.1≠d)
end L2
namespace L2
open PySem PySem.Spec PyProof.Rows
structure Mod(K:PySem.W.Frag)(mg:Str→Option Value)(base:Heap):Prop where
 Lq:K.In base
 glob:base.Ns mainGlobals mg
 blt:∃mb,base.Ns builtinsNs mb∧∀x:Str,x≠"__name__" →mb x=bootBuiltins x
 nolimit:base.NoLimit
structure Cx where
 prog:Program
 w:World
 K:PySem.W.Frag
 mg:Str→Option Value
 base:Heap
 A:Around
 N:List Str
 s₀:Shared
 H₀:Hp
 env:Env
 outer:List Env
 stack:List Env
 ex:List Addr
 fn:Str→Bool
 calm:Bool
 pn:List (Addr×Obj)
 xe:Value→Shared→Prop
def qH(l:List Env):List Addr:=l.filterMap (·.frame)
abbrev Cx.fs(X:Cx):List Addr:=qH X.outer
def VM(sc:Scope)(x:Str):Prop:=sc.names.lookup x=some .local∨sc.names.lookup x=some .cell∨sc.names.lookup x=some .free
def Loc(sc:Scope)(x:Str):Prop:=sc.names.lookup x=some .local∨sc.names.lookup x=some .cell
def Look(env:Env)(h:Heap)(m:Str→Option Value)(x:Str)(u:Value):Prop:=
 (env.kindOf x=some .local∧m x=some u)∨((env.kindOf x=some .cell∨env.kindOf x=some .free)∧∃c,env.cells.lookup x=some c∧h.IsCell c (some u))
structure Cx.Ok(X:Cx):Prop where
 mod:Mod X.K X.mg X.base
 kind:X.env.scope.kind= .function
 glob:X.env.globals=mainGlobals
 blt:X.env.builtins=builtinsNs
 above:X.s₀.heap.objs.size≤X.env.locals
 inj:∀x y c,X.env.cells.lookup x=some c→X.env.cells.lookup y=some c→x=y
 has:∀x,(X.env.kindOf x=some .cell∨X.env.kindOf x=some .free)→∃c,X.env.cells.lookup x=some c
 Bg:∀x c,X.fn x=true→X.env.cells.lookup x=some c→X.s₀.heap.objs.size≤c
 hd:X.calm=true→X.A.handled=none
 frames:X.A.frames=some X.stack
 Br:X.stack=X.outer∨(X.stack=X.env::X.outer∧X.env.frame=some X.env.locals)
 E1:∀b∈X.ex,b≠X.env.locals∧∀x c,X.env.cells.lookup x=some c→c≠b
 bs:∀b o,X.base.get? b=some o→X.s₀.heap.get? b=some o∧X.H₀ b=none
 sU:X.base.objs.size≤X.s₀.heap.objs.size
 mG:∀b o,X.base.get? b=some o→b∉X.ex
 mH:∀b∈X.ex,b∉X.fs
 ig:X.s₀.heap.FunFrames X.base X.outer
 xT:∀b∈X.fs,X.H₀ b=none
structure Inv(X:Cx)(pins:List (Addr×Obj))(σ:List (Option V))(H:Hp)(s:Shared):Prop where
 ok:X.Ok
 os:s.os=X.s₀.os
 bare:AllBare s.gens
 base:Un X.fs X.ex X.H₀ H X.s₀.heap s.heap
 loc:∃m,s.heap.Ns X.env.locals m∧∀(i:Nat) (x:Str) (v:V),X.N[i]? =some x→σ[i]? =some (some v)→VM X.env.scope x→∃u,RelV v u∧Look X.env s.heap m x u
 cell:∀x c,X.env.cells.lookup x=some c→∃v,s.heap.IsCell c v
 free:H X.env.locals=none
 eK:∀x c,X.env.cells.lookup x=some c→H c=none
 pin:∀p∈X.pn++pins,s.heap.get? p.1=some p.2∧H p.1=none∧p.1≠X.env.locals∧p.1∉X.fs∧∀v,p.2.data≠ .cell v
 bH:jF X.prog X.w H s.heap
 len:σ.length=X.N.length
section
variable {X:Cx}{pins:List (Addr×Obj)}{σ:List (Option V)}{H H':Hp}{s:Shared}{h':Heap}
theorem Cx.Ok.VN(ok:X.Ok){b:Addr}{o:Obj}(e:X.base.get? b=some o):b∉X.fs:=fun hb=>by
 have:=(ok.ig.mem hb).1
 rw[e] at this;cases this
theorem Inv.bs(I:Inv X pins σ H s):∀b o,X.base.get? b=some o→s.heap.get? b=some o∧H b=none:=fun b o e=>
 ⟨I.base.keep b o (I.ok.bs b o e).1 (I.ok.bs b o e).2 (I.ok.VN e) (I.ok.mG b o e),I.base.free b o (I.ok.bs b o e).1 (I.ok.bs b o e).2 (I.ok.mG b o e)⟩
theorem Inv.bk(I:Inv X pins σ H s):∀b o,X.base.get? b=some o→s.heap.get? b=some o:=fun b o e=>(I.bs b o e).1
theorem Inv.mod(I:Inv X pins σ H s):Mod X.K X.mg X.base:=I.ok.mod
theorem Inv.hZ(I:Inv X pins σ H s):X.K.In s.heap:=I.ok.mod.Lq.keeps I.bk
theorem Inv.lt(I:Inv X pins σ H s):X.env.locals<s.heap.objs.size:=let ⟨_,hn,_⟩:=I.loc;hn.lt
theorem Inv.sz(I:Inv X pins σ H s):X.s₀.heap.objs.size≤s.heap.objs.size:=Nat.le_trans I.ok.above (Nat.le_of_lt I.lt)
theorem Inv.VO(I:Inv X pins σ H s){a:Addr}(h:s.heap.objs.size≤a):a∉X.fs:=fun hb=>by
 obtain⟨_,o,ho,_⟩:=I.ok.ig.mem hb
 exact absurd (Nat.lt_of_lt_of_le (Heap.lt_size ho) (Nat.le_trans I.sz h)) (Nat.lt_irrefl _)
theorem Inv.Bs(I:Inv X pins σ H s):∀x c,X.env.cells.lookup x=some c→c≠X.env.locals:=fun x c e z=>by
 obtain⟨v,o,ho,hd⟩:=I.cell x c e
 obtain⟨m,⟨o',es,ep,Bt,Ls,_⟩,_⟩:=I.loc
 rw[z,Bt] at ho;cases ho;rw[Ls] at hd;cases hd
theorem Inv.ig(I:Inv X pins σ H s):s.heap.FunFrames X.base X.outer:=by
 have all:∀(l:List Env),(∀b∈qH l,b∈X.fs)→X.s₀.heap.FunFrames X.base l→s.heap.FunFrames X.base l:=by
  intro l
  induction l with
  |nil=>intro _ _;trivial
  |cons env r ih=>
   intro hs hl
   obtain⟨hk,⟨L,o,hf,hn,ho,hd⟩,hr⟩:=hl
   have hL:L∈X.fs:=hs L (by unfold qH;rw[List.filterMap_cons,hf];exact List.mem_cons_self)
   obtain⟨sl,e⟩:=I.base.slot L o ho (I.ok.xT L hL) hL fun z=>I.ok.mH L z hL
   exact⟨hk,⟨L,_,hf,hn,e,hd⟩,ih (fun b hb=>hs b (by unfold qH;rw[List.filterMap_cons,hf];exact List.mem_cons_of_mem _ hb)) hr⟩
 exact all X.outer (fun _ hb=>hb) I.ok.ig
theorem Inv.stack(I:Inv X pins σ H s):s.heap.FunFrames X.base X.stack:=by
 rcases I.ok.Br with e| ⟨e,hf⟩
 ·rw[e];exact I.ig
 ·rw[e]
  obtain⟨m,hn,_⟩:=I.loc
  refine .cons (by rw[I.ok.kind];decide) hf hn ?_ I.ig
  exact Heap.get?_none_of_le (Nat.le_trans I.ok.sU I.ok.above)
theorem Inv.ko(I:Inv X pins σ H s):∀b∈qH X.stack,b∈X.env.locals::X.fs:=fun b hb=>by
 rcases I.ok.Br with e| ⟨e,hf⟩
 ·rw[e] at hb;exact List.mem_cons_of_mem _ hb
 ·rw[e] at hb
  unfold qH at hb
  rw[List.filterMap_cons,hf] at hb
  exact hb
theorem Inv.l7(I:Inv X pins σ H s):∀b∈qH X.stack,H b=none:=fun b hb=>by
 rcases List.mem_cons.mp (I.ko b hb) with e|hb
 ·rw[e];exact I.free
 ·obtain⟨_,o,ho,_⟩:=I.ok.ig.mem hb
  exact I.base.free b o ho (I.ok.xT b hb) fun z=>I.ok.mH b z hb
theorem Inv.step{g':Array GenState}{t':Nat}{d':Drawn}{ch:List Addr}(I:Inv X pins σ H s)
  (Bh:∀b∈ch,(b∈X.ex∨X.s₀.heap.objs.size≤b)∧b≠X.env.locals∧(∀x c,X.env.cells.lookup x=some c→c≠b)∧∀p∈X.pn++pins,p.1≠b)
  (keep:∀b o,b≠X.env.locals→b∉X.fs→b∉ch→s.heap.get? b=some o→H b=none→h'.get? b=some o)
  (slot:∀b o,b≠X.env.locals→b∈X.fs→b∉ch→s.heap.get? b=some o→H b=none→∃sl,h'.get? b=some { o with slots:=sl }) (free:∀b o,b∉ch→s.heap.get? b=some o→H b=none→H' b=none)
  (there:∀b o,b∉ch→s.heap.get? b=some o→∃o',h'.get? b=some o')
  (oi:∀b xs,H b=some (.tup xs)→H' b=some (.tup xs)) (mF:∀b o u,H b=some (.uI o u)→H' b=some (.uI o u)) (oj:∀b ps,H b=some (.GQ ps)→∃more,H' b=some (.GQ (ps++more)))
  (ns:∀m,s.heap.Ns X.env.locals m→h'.Ns X.env.locals m) (bH:jF X.prog X.w H' h') (hg:AllBare g'):
  Inv X pins σ H' { s with heap:=h',gens:=g',drawn:=d',toks:=t' }:=by
 have Zd:∀b o,X.s₀.heap.get? b=some o→b≠X.env.locals:=fun b o e=>Nat.ne_of_lt (Nat.lt_of_lt_of_le (Heap.lt_size e) I.ok.above)
 have UE:∀b o,X.s₀.heap.get? b=some o→b∉X.ex→b∉ch:=fun b o e hx hb=>by
  rcases (Bh b hb).1 with z|z
  ·exact hx z
  ·exact absurd (Nat.lt_of_lt_of_le (Heap.lt_size e) z) (Nat.lt_irrefl _)
 have cellK:∀x c,X.env.cells.lookup x=some c→∀v,s.heap.IsCell c v→h'.IsCell c v:=fun x c e v ⟨o,ho,hd⟩=>by
  have yb:c∉ch:=fun z=>(Bh c z).2.2.1 x c e rfl
  by_cases hc:c∈X.fs
  ·obtain⟨sl,q⟩:=slot c o (I.Bs x c e) hc yb ho (I.eK x c e)
   exact⟨_,q,hd⟩
  ·exact⟨o,keep c o (I.Bs x c e) hc yb ho (I.eK x c e),hd⟩
 refine⟨I.ok,I.os,hg,⟨fun b o e n hb hx=>?_,fun b o e n hb hx=>?_,fun b o e n hx=>?_,fun b o e hx=>?_,fun b xs e=>oi b xs (I.base.oi b xs e),fun b o xs e=>mF b o xs (I.base.mF b o xs e),fun b ps e=>?_⟩,?_,fun x c e=>?_,?_,fun x c e=>?_,fun p hp=>?_,bH,I.len⟩
 ·exact keep b o (Zd b o e) hb (UE b o e hx) (I.base.keep b o e n hb hx) (I.base.free b o e n hx)
 ·obtain⟨sl,e1⟩:=I.base.slot b o e n hb hx
  obtain⟨GS,e2⟩:=slot b _ (Zd b o e) hb (UE b o e hx) e1 (I.base.free b o e n hx)
  exact⟨GS,e2⟩
 ·obtain⟨o',e1⟩:=I.base.there b o e hx
  exact free b o' (UE b o e hx) e1 (I.base.free b o e n hx)
 ·obtain⟨o',e1⟩:=I.base.there b o e hx
  exact there b o' (UE b o e hx) e1
 ·obtain⟨m1,e1⟩:=I.base.oj b ps e
  obtain⟨m2,e2⟩:=oj b _ e1
  exact⟨m1++m2,by rw[e2,Array.append_assoc]⟩
 ·obtain⟨m,hn,hl⟩:=I.loc
  refine⟨m,ns m hn,fun i x v e1 e2 e3=>?_⟩
  obtain⟨u,r,l⟩:=hl i x v e1 e2 e3
  refine⟨u,r,?_⟩
  rcases l with l| ⟨k,c,e,z⟩
  ·exact .inl l
  ·exact .inr ⟨k,c,e,cellK x c e _ z⟩
 ·obtain⟨v,z⟩:=I.cell x c e
  exact⟨v,cellK x c e v z⟩
 ·obtain⟨m,⟨o,_,_,ho,_⟩,_⟩:=I.loc
  exact free _ o (fun z=>(Bh _ z).2.1 rfl) ho I.free
 ·obtain⟨v,o,ho,hd⟩:=I.cell x c e
  exact free c o (fun z=>(Bh c z).2.2.1 x c e rfl) ho (I.eK x c e)
 ·obtain⟨e,n,ne,nf,d⟩:=I.pin p hp
  have yb:p.1∉ch:=fun z=>(Bh p.1 z).2.2.2 p hp rfl
  exact⟨keep p.1 p.2 ne nf yb e n,free p.1 p.2 yb e n,ne,nf,d⟩
theorem Inv.un{t':Nat}(I:Inv X pins σ H s)(u:Un X.fs [] H H' s.heap h')(bH:jF X.prog X.w H' h'):Inv X pins σ H' { s with heap:=h',toks:=t' }:=by
 obtain⟨m,⟨o,es,ep,ho,r⟩,_⟩:=id I.loc
 obtain⟨sl,hL⟩:=u.any ho I.free (by simp)
 exact I.step (g':=s.gens) (d':=s.drawn) (ch:=[]) (fun _ z=>nomatch z) (fun b o _ hb _ e n=>u.keep b o e n hb (by simp)) (fun b o _ hb _ e n=>u.slot b o e n hb (by simp)) (fun b o _ e n=>u.free b o e n (by simp)) (fun b o _ e=>u.there b o e (by simp)) u.oi u.mF u.oj (fun m' hm=>by
  obtain⟨o',VP,VQ,Bt,r'⟩:=hm
  rw[ho] at Bt;cases Bt
  exact⟨_,VP,VQ,hL,r'⟩) bH I.bare
theorem Inv.call{g':Array GenState}{t':Nat}{d':Drawn}{ch:List Addr}(I:Inv X pins σ H s)(u:Un (qH X.stack) ch H H' s.heap h')(bH:jF X.prog X.w H' h')(hg:AllBare g')
  (Bh:∀b∈ch,(b∈X.ex∨X.s₀.heap.objs.size≤b)∧b≠X.env.locals∧(∀x c,X.env.cells.lookup x=some c→c≠b)∧∀p∈X.pn++pins,p.1≠b):
  Inv X pins σ H' { s with heap:=h',gens:=g',drawn:=d',toks:=t' }:=by
 obtain⟨m,⟨o,es,ep,ho,r⟩,_⟩:=id I.loc
 obtain⟨sl,hL⟩:=u.any ho I.free fun z=>(Bh _ z).2.1 rfl
 exact I.step (ch:=ch) Bh (fun b o hL hb hc e n=>u.keep b o e n (fun z=>(List.mem_cons.mp (I.ko b z)).elim hL hb) hc) (fun b o _ _ hc e n=>u.any e n hc) (fun b o hc e n=>u.free b o e n hc) (fun b o hc e=>u.there b o e hc) u.oi u.mF u.oj (fun m' hm=>by
  obtain⟨o',VP,VQ,Bt,r'⟩:=hm
  rw[ho] at Bt;cases Bt
  exact⟨_,VP,VQ,hL,r'⟩) bH hg
theorem Inv.turned{t':Nat}{it:Addr}(I:Inv X pins σ H s)(k:∀b o,b≠it→s.heap.get? b=some o→h'.get? b=some o)(hn:H it=none)(hL:it≠X.env.locals)
  (h1:it∈X.ex∨X.s₀.heap.objs.size≤it) (h2:∀x c,X.env.cells.lookup x=some c→c≠it) (h3:∀p∈X.pn++pins,p.1≠it):Inv X pins σ H { s with heap:=h',toks:=t' }:=by
 have Ze:∀b u,H b=some u→b≠it:=fun b u e z=>by rw[z,hn] at e;cases e
 refine I.step (g':=s.gens) (d':=s.drawn) (ch:=[it]) (fun b hb=>?_) (fun b o _ _ hc e _=>k b o (fun z=>hc (by simp [z])) e) (fun b o _ _ hc e _=>⟨o.slots,k b o (fun z=>hc (by simp [z])) e⟩) (fun _ _ _ _ n=>n)
  (fun b o hc e=>⟨o,k b o (fun z=>hc (by simp [z])) e⟩) (fun _ _ e=>e) (fun _ _ _ e=>e) (fun b ps e=>⟨#[],by rw[e];simp⟩) (fun m hm=>?_) (fun b u e=>?_) I.bare
 ·have e:b=it:=by simpa using hb
  subst e
  exact⟨h1,hL,h2,h3⟩
 ·obtain⟨o,es,ep,ho,r⟩:=hm
  exact⟨o,es,ep,k _ o (Ne.symm hL) ho,r⟩
 ·refine(I.bH b u e).pE (fun c v hc q=>k c v ?_ q) (fun _ q=>q) fun _ _ q=>q
  rcases hc with z|z
  ·rw[z];exact Ze b u e
  ·exact Ze c _ z
theorem Inv.tok(I:Inv X pins σ H s)(t:Nat):Inv X pins σ H { s with toks:=t }:=I.un (h':=s.heap) (t':=t) Un.refl I.bH
theorem Inv.kept{t':Nat}(I:Inv X pins σ H s)(k:∀b u,s.heap.get? b=some u→h'.get? b=some u):Inv X pins σ H { s with heap:=h',toks:=t' }:=I.un (Un.kept k) (I.bH.kept k)
theorem Inv.laid{a:Addr}{o:HO}{t':Nat}(I:Inv X pins σ H s)(k:∀b u,s.heap.get? b=some u→h'.get? b=some u)(hp:s.heap.objs.size≤a)(new:cY X.prog X.w (upd H a o) h' a o):
  Inv X pins σ (upd H a o) { s with heap:=h',toks:=t' }:=I.un (Un.laid k hp (I.bH.fresh hp)) (I.bH.laid k hp new)
theorem Inv.write{x e:Addr}{o:HO}{t':Nat}(I:Inv X pins σ H s)(mu:UC (H x))(he:e=x∨H e=some (.own x))(k:∀b u,b≠e→s.heap.get? b=some u→h'.get? b=some u)(Lp:∃u,h'.get? e=some u)
  (new:cY X.prog X.w (upd H x o) h' x o):Inv X pins σ (upd H x o) { s with heap:=h',toks:=t' }:=I.un (Un.write mu he k Lp) (I.bH.write mu he k Lp new)
theorem Inv.pG{E2:List (Addr×Obj)}(I:Inv X pins σ H s)(h:∀p∈E2,s.heap.get? p.1=some p.2∧H p.1=none∧p.1≠X.env.locals∧p.1∉X.fs∧∀v,p.2.data≠ .cell v):Inv X E2 σ H s:=
 ⟨I.ok,I.os,I.bare,I.base,I.loc,I.cell,I.free,I.eK,fun p hp=>(List.mem_append.mp hp).elim (fun z=>I.pin p (List.mem_append_left _ z)) (h p),I.bH,I.len⟩
theorem mI{N:List Str}(hN:N.Nodup){i j:Nat}{x:Str}(a:N[i]? =some x)(b:N[j]? =some x):i=j:=by
 obtain⟨h1,e1⟩:=List.getElem?_eq_some_iff.mp a
 obtain⟨h2,e2⟩:=List.getElem?_eq_some_iff.mp b
 exact(List.getElem_inj hN).mp (e1.trans e2.symm)
theorem kr{M:Model}{A:Around}{E:Value→Shared→Prop}{i:Nat}{x:Str}{v:V}{u:Value}{Q:Unit→Shared→Prop}(I:Inv X pins σ H s)(hN:X.N.Nodup)(hi:X.N[i]? =some x)(hx:Loc X.env.scope x)(r:RelV v u)
  (h:∀s',Inv X pins (σ.set i (some v)) H s'→(∃a,Heap.SameBut a s.heap s'.heap∧(a=X.env.locals∨X.env.cells.lookup x=some a))→Q () s') (hf:X.fn x=true∨X.env.scope.names.lookup x=some .local:=by first|exact .inl rfl|exact .inr rfl|assumption):wpAny M A (storeName X.env x u) Q E s:=by
 obtain⟨m,hn,hl⟩:=id I.loc
 have GU:(X.env.scope.kind== .class||(X.env.scope.kind== .module&&X.env.locals != X.env.globals))=false:=by rw[I.ok.kind];rfl
 have Zf:i<σ.length:=by rw[I.len];exact(List.getElem?_eq_some_iff.mp hi).1
 have Bs:=I.Bs
 have tracked:∀{a:Addr} {h':Heap},(∃o,s.heap.get? a=some o∧H a=none)→Heap.SameBut a s.heap h'→jF X.prog X.w H h':=fun {a h'} ha hs b ob e=>by
  obtain⟨_,_,E3⟩:=ha
  refine(I.bH b ob e).pE (fun c w' hc q=>(hs.2 c ?_).trans q) (fun _ q=>q) fun _ _ q=>q
  rintro rfl
  rcases hc with rfl|hc
  ·rw[E3] at e;cases e
  ·rw[E3] at hc;cases hc
 rcases hx with hk|hk
 ·refine wpAny_storeName_local hk hn (fun h' E4 hs=>?_) GU
  obtain⟨oL,_,_,E5,_⟩:=id hn
  refine h _ ⟨I.ok,I.os,I.bare,⟨fun b o e n hb hx=>?_,fun b o e n hb hx=>?_,I.base.free,fun b o e hx=>?_,I.base.oi,I.base.mF,I.base.oj⟩,⟨_,E4,fun j y v' e1 e2 e3=>?_⟩,fun y c e=>?_,I.free,I.eK,fun p hp=>?_,tracked ⟨oL,E5,I.free⟩ hs,by simpa using I.len⟩ ⟨_,hs, .inl rfl⟩
  ·exact(hs.2 b (Nat.ne_of_lt (Nat.lt_of_lt_of_le (Heap.lt_size e) I.ok.above))).trans (I.base.keep b o e n hb hx)
  ·obtain⟨sl,e1⟩:=I.base.slot b o e n hb hx
   exact⟨sl,(hs.2 b (Nat.ne_of_lt (Nat.lt_of_lt_of_le (Heap.lt_size e) I.ok.above))).trans e1⟩
  ·obtain⟨o',e1⟩:=I.base.there b o e hx
   exact⟨o',(hs.2 b (Nat.ne_of_lt (Nat.lt_of_lt_of_le (Heap.lt_size e) I.ok.above))).trans e1⟩
  ·by_cases hj:j=i
   ·subst hj
    rw[hi] at e1;cases e1
    rw[List.getElem?_set_self Zf] at e2
    cases e2
    exact⟨u,r, .inl ⟨hk,by simp⟩⟩
   ·rw[List.getElem?_set_ne (Ne.symm hj)] at e2
    obtain⟨u',r',q⟩:=hl j y v' e1 e2 e3
    refine⟨u',r',?_⟩
    rcases q with ⟨k,e⟩ | ⟨k,c,e,z⟩
    ·refine .inl ⟨k,?_⟩
     have:y≠x:=fun e=>hj (mI hN e1 (e▸hi))
     simp [this,e]
    ·exact .inr ⟨k,c,e,z.sameBut hs (Bs y c e)⟩
  ·obtain⟨w',z⟩:=I.cell y c e
   exact⟨w',z.sameBut hs (Bs y c e)⟩
  ·obtain⟨e,n,ne,nf,d⟩:=I.pin p hp
   exact⟨(hs.2 p.1 ne).trans e,n,ne,nf,d⟩
 ·have VR:X.fn x=true:=by
   rcases hf with z|z
   ·exact z
   ·rw[z] at hk;cases hk
  obtain⟨c,hc⟩:=I.ok.has x (.inl hk)
  obtain⟨w',z⟩:=I.cell x c hc
  refine wpAny_storeName_cell I.ok.kind hk hc z (fun h' om hs=>?_)
  obtain⟨oc,Zg,VS⟩:=id z
  refine h { s with heap:=h' } ⟨I.ok,I.os,I.bare,⟨fun b o e n hb hx=>?_,fun b o e n hb hx=>?_,I.base.free,fun b o e hx=>?_,I.base.oi,I.base.mF,I.base.oj⟩,⟨m,hn.sameBut hs (Ne.symm (Bs x c hc)),fun j y v' e1 e2 e3=>?_⟩,fun y c' e=>?_,I.free,I.eK,fun p hp=>?_,tracked ⟨oc,Zg,I.eK x c hc⟩ hs,by simpa using I.len⟩ ⟨c,hs, .inr hc⟩
  ·exact(hs.2 b (Nat.ne_of_lt (Nat.lt_of_lt_of_le (Heap.lt_size e) (I.ok.Bg x c VR hc)))).trans (I.base.keep b o e n hb hx)
  ·obtain⟨sl,e1⟩:=I.base.slot b o e n hb hx
   exact⟨sl,(hs.2 b (Nat.ne_of_lt (Nat.lt_of_lt_of_le (Heap.lt_size e) (I.ok.Bg x c VR hc)))).trans e1⟩
  ·obtain⟨o',e1⟩:=I.base.there b o e hx
   exact⟨o',(hs.2 b (Nat.ne_of_lt (Nat.lt_of_lt_of_le (Heap.lt_size e) (I.ok.Bg x c VR hc)))).trans e1⟩
  ·by_cases hj:j=i
   ·subst hj
    rw[hi] at e1;cases e1
    rw[List.getElem?_set_self Zf] at e2
    cases e2
    exact⟨u,r, .inr ⟨.inl hk,c,hc,om⟩⟩
   ·rw[List.getElem?_set_ne (Ne.symm hj)] at e2
    obtain⟨u',r',q⟩:=hl j y v' e1 e2 e3
    refine⟨u',r',?_⟩
    rcases q with q| ⟨k,c',e,z'⟩
    ·exact .inl q
    ·refine .inr ⟨k,c',e,z'.sameBut hs ?_⟩
     rintro rfl
     exact hj (mI hN e1 (I.ok.inj _ _ _ e hc▸hi))
  ·by_cases Zh:c'=c
   ·subst Zh;exact⟨_,om⟩
   ·obtain⟨w2,z2⟩:=I.cell y c' e
    exact⟨w2,z2.sameBut hs Zh⟩
  ·obtain⟨e,n,ne,nf,d⟩:=I.pin p hp
   refine⟨(hs.2 p.1 ?_).trans e,n,ne,nf,d⟩
   intro q
   rw[q,Zg] at e
   have q':oc=p.2:=Option.some.inj e
   exact d w' (by rw[←q'];exact VS)
theorem store_ok{M:Model}{A:Around}{E:Value→Shared→Prop}{i:Nat}{x:Str}{v:V}{u:Value}{Q:Unit→Shared→Prop}(I:Inv X pins σ H s)(hN:X.N.Nodup)(hi:X.N[i]? =some x)(hx:Loc X.env.scope x)(r:RelV v u)
  (h:∀s',Inv X pins (σ.set i (some v)) H s'→Q () s') (hf:X.fn x=true∨X.env.scope.names.lookup x=some .local:=by first|exact .inl rfl|exact .inr rfl|assumption):wpAny M A (storeName X.env x u) Q E s:=
 kr I hN hi hx r (fun s' I' _=>h s' I') hf
theorem Inv.uJ{s':Shared}{ch:List Addr}(I:Inv X pins σ H s)(ho:s'.os=s.os)(u:Un (qH X.stack) ch H H' s.heap s'.heap)(bH:jF X.prog X.w H' s'.heap)(hg:AllBare s'.gens)
  (Bh:∀b∈ch,(b∈X.ex∨X.s₀.heap.objs.size≤b)∧b≠X.env.locals∧(∀x c,X.env.cells.lookup x=some c→c≠b)∧∀p∈X.pn++pins,p.1≠b):Inv X pins σ H' s':=by
 obtain⟨h',g',d',t',o'⟩:=s'
 have e:o'=s.os:=ho
 subst e
 exact I.call (g':=g') (t':=t') (d':=d') u bH hg Bh
end
abbrev XK:=Value→Option Addr→Hp→Prop
abbrev St:=List (Option V)
abbrev VK:=V→Hp→Prop
abbrev TE:=St→Hp→VK→Prop
abbrev TT:=St→Hp→(Bool→Hp→Prop)→Prop
abbrev TA:=St→Hp→(List V→Hp→Prop)→Prop
structure Ends where
 nx:St→Hp→Prop
 rt:VK
 bk:St→Hp→Prop:=fun _ _=>False
 ct:St→Hp→Prop:=fun _ _=>False
abbrev TS:=Ends→St→Hp→Prop
def EP(X:Cx)(pins:List (Addr×Obj))(σ:St)(Q:VK)(u:Value)(s':Shared):Prop:=∃v H',Inv X pins σ H' s'∧RelV v u∧Q v H'
def TP(X:Cx)(pins:List (Addr×Obj))(σ:St)(Q:Bool→Hp→Prop)(b:Bool)(s':Shared):Prop:=∃H',Inv X pins σ H' s'∧Q b H'
def AP(X:Cx)(pins:List (Addr×Obj))(σ:St)(Q:List V→Hp→Prop)(us:List Value)(s':Shared):Prop:=∃vs H',Inv X pins σ H' s'∧Vals vs us∧Q vs H'
def SP(X:Cx)(pins:List (Addr×Obj))(D:Ends)(f:Flow)(s':Shared):Prop:=
 match f with
 | .next=>∃σ' H',Inv X pins σ' H' s'∧D.nx σ' H'
 | .brk=>∃σ' H',Inv X pins σ' H' s'∧D.bk σ' H'
 | .cont=>∃σ' H',Inv X pins σ' H' s'∧D.ct σ' H'
 | .ret u=>∃v σ' H',Inv X pins σ' H' s'∧RelV v u∧D.rt v H'
def PE(X:Cx)(e:Expr)(t:TE):Prop:=
 ∀(pins:List (Addr×Obj)) (s:Shared) (σ:St) (H:Hp) (Q:VK),Inv X pins σ H s→t σ H Q→wpAny (model X.prog X.w) X.A (eval e X.env) (EP X pins σ Q) X.xe s
def PT(X:Cx)(e:Expr)(t:TT):Prop:=
 ∀(pins:List (Addr×Obj)) (s:Shared) (σ:St) (H:Hp) (Q:Bool→Hp→Prop),Inv X pins σ H s→t σ H Q→wpAny (model X.prog X.w) X.A (isTrue e X.env (eval e X.env)) (TP X pins σ Q) X.xe s
def PW(X:Cx)(e:Expr)(t:TT):Prop:=
 ∀(whole:Sem Value) (pins:List (Addr×Obj)) (s:Shared) (σ:St) (H:Hp) (Q:Bool→Hp→Prop),Inv X pins σ H s→t σ H Q→wpAny (model X.prog X.w) X.A (isTrue e X.env whole) (TP X pins σ Q) X.xe s
theorem PW.pt{X:Cx}{e:Expr}{t:TT}(h:PW X e t):PT X e t:=h _
def PA(X:Cx)(es:List Expr)(t:TA):Prop:=
 ∀(pos:Pos) (pins:List (Addr×Obj)) (s:Shared) (σ:St) (H:Hp) (Q:List V→Hp→Prop),Inv X pins σ H s→t σ H Q→wpAny (model X.prog X.w) X.A (spliced (backTo pos (starEach es X.env))) (AP X pins σ Q) X.xe s
def PS(X:Cx)(st:Stmt)(t:TS):Prop:=
 ∀(pins:List (Addr×Obj)) (s:Shared) (σ:St) (H:Hp) (D:Ends),Inv X pins σ H s→t D σ H→wpAny (model X.prog X.w) X.A (exec st X.env) (SP X pins D) X.xe s
def lh(X:Cx)(st:List Stmt)(t:TS):Prop:=
 ∀(pins:List (Addr×Obj)) (s:Shared) (σ:St) (H:Hp) (D:Ends),Inv X pins σ H s→t D σ H→wpAny (model X.prog X.w) X.A (execs st X.env) (SP X pins D) X.xe s
theorem bG{α:Type}{t:Sem α}{Q Q':α→Shared→Prop}{M:Model}{A:Around}{E:Value→Shared→Prop}{s:Shared}(h:wpAny M A t Q E s)(hQ:∀a s,Q a s→Q' a s):wpAny M A t Q' E s:=wpAny_mono h hQ fun _ _ x=>x
end L2
namespace L2
open PySem PySem.Spec PyProof.Rows
section
variable {X:Cx}
inductive RV(i:Nat)(σ:St)(H:Hp)(Q:VK):Prop
 |mk (v:V) (e:σ[i]? =some (some v)) (q:Q v H)
def L1(i:Nat):TE:=fun σ H Q=>RV i σ H Q
def tC(v:V):TE:=fun _ H Q=>Q v H
theorem GV{i:Nat}{x:Str}{pos:Pos}(hN:X.N[i]? =some x)(hv:VM X.env.scope x)(hd:(x==("__debug__" :Str))=false:=by decide)(qN:(x==("__classdict__" :Str))=false:=by decide):PE X (.Name x pos) (L1 i):=by
 intro pins s σ H Q I h
 obtain⟨v,e,h⟩:=h
 obtain⟨m,hn,hl⟩:=I.loc
 obtain⟨u,r,l⟩:=hl i x v hN e hv
 have fin:EP X pins σ Q u s:=⟨v,H,I,r,h⟩
 rcases l with ⟨hk,hm⟩ | ⟨hk,c,hc,E6⟩
 ·exact wpAny_Name (wpAny_loadName_local I.ok.kind hk hn hm fin) hd
 ·rcases hk with hk|hk
  ·exact wpAny_Name (wpAny_loadName_cell I.ok.kind hk hc E6 fin) hd
  ·exact wpAny_Name (wpAny_loadName_free I.ok.kind hk hc E6 fin qN) hd
theorem az{i j pos}:PE X (.Constant (.int i) j pos) (tC (.int i)):=fun _ _ _ H _ I h=>wpAny_Constant_int ⟨.int i,H,I.tok _,⟨_,rfl⟩,h⟩
theorem jf{b j pos}:PE X (.Constant (.bool b) j pos) (tC (.bl b)):=fun _ _ _ H _ I h=>Constant_bool ⟨.bl b,H,I,rfl,h⟩
theorem yc{j pos}:PE X (.Constant .none j pos) (tC .dE):=fun _ _ _ H _ I h=>Constant_none ⟨.dE,H,I,rfl,h⟩
theorem yd{x j pos}:PE X (.Constant (.str x) j pos) (tC (.str x)):=fun _ _ _ H _ I h=>Calls.Constant_str ⟨.str x,H,I.tok _,⟨_,rfl⟩,h⟩
def Gl(X:Cx)(x:Str):Prop:=X.env.kindOf x=some .globalImplicit
theorem fO{E:Value→Shared→Prop}{pins:List (Addr×Obj)}{s:Shared}{σ:St}{H:Hp}{x:Str}{u:Value}{pos:Pos}{Q:Value→Shared→Prop}(I:Inv X pins σ H s)(hg:Gl X x)(hm:X.mg x=some u)(h:Q u s)
  (hd:(x==("__debug__" :Str))=false:=by decide):wpAny (model X.prog X.w) X.A (eval (.Name x pos) X.env) Q E s:=
 Calls.Name_function_global I.ok.kind hg (Calls.loadGlobal_global (by rw[I.ok.glob];exact I.mod.glob.keeps I.bk) hm h) hd
theorem gI{E:Value→Shared→Prop}{pins:List (Addr×Obj)}{s:Shared}{σ:St}{H:Hp}{x:Str}{u:Value}{pos:Pos}{Q:Value→Shared→Prop}(I:Inv X pins σ H s)(hg:Gl X x)(hm:X.mg x=none)(hv:bootBuiltins x=some u)(h:Q u s)
  (hn:x≠"__name__" :=by decide) (hd:(x==("__debug__" :Str))=false:=by decide):wpAny (model X.prog X.w) X.A (eval (.Name x pos) X.env) Q E s:=by
 obtain⟨mb,h1,h2⟩:=I.mod.blt
 exact Calls.Name_function_global I.ok.kind hg (Calls.loadGlobal_builtin (by rw[I.ok.glob];exact I.mod.glob.keeps I.bk) hm (by rw[I.ok.blt];exact h1.keeps I.bk) ((h2 x hn).trans hv) h) hd
theorem d3{x:Str}{v:V}{u:Value}{pos:Pos}(hg:Gl X x)(hm:X.mg x=some u)(r:RelV v u)(hd:(x==("__debug__" :Str))=false:=by decide):PE X (.Name x pos) (tC v):=
 fun _ _ _ H _ I h=>fO I hg hm ⟨v,H,I,r,h⟩ hd
theorem l8{x:Str}{v:V}{u:Value}{pos:Pos}(hg:Gl X x)(hm:X.mg x=none)(hv:bootBuiltins x=some u)(r:RelV v u)(hn:x≠"__name__" :=by decide)(hd:(x==("__debug__" :Str))=false:=by decide):PE X (.Name x pos) (tC v):=
 fun _ _ _ H _ I h=>gI I hg hm hv ⟨v,H,I,r,h⟩ hn hd
variable {a b:Expr}{ta tb:TE}{pos:Pos}
def PC(X:Cx)(op:CmpOp)(a b:Expr)(t:TE):Prop:=
 ∀(pins:List (Addr×Obj)) (s:Shared) (σ:St) (H:Hp) (Q:VK),Inv X pins σ H s→t σ H Q→
  wpAny (model X.prog X.w) X.A (eval a X.env) (fun v s₁=>wpAny (model X.prog X.w) X.A (eval b X.env) (fun u s₂=>wpAny (model X.prog X.w) X.A (compareOp op v u) (EP X pins σ Q) X.xe s₂) X.xe s₁) X.xe s
theorem ye(b:Expr){op:CmpOp}(h:op≠ .In)(h2:op≠ .NotIn):behindInMarks op b=false:=by
 have e1:(op==CmpOp.In)=false:=by cases op<;>first|rfl|exact absurd rfl h
 have e2:(op==CmpOp.NotIn)=false:=by cases op<;>first|rfl|exact absurd rfl h2
 cases b<;>simp [behindInMarks,e1,e2]
def VT(ta:TE):TE:=fun σ H Q=>ta σ H fun x H1=>Q (.bl (decide (x= .dE))) H1
theorem RelV.yf{x:V}{v:Value}(r:RelV x v):(v==Value.none)=decide (x= .dE):=by
 cases x with
 |dE=>cases r;rfl
 |bl _=>cases r;rfl
 |int _=>obtain⟨t,rfl⟩:=r;rfl
 |str _=>obtain⟨t,rfl⟩:=r;rfl
 |vQ _=>obtain⟨t,rfl⟩:=r;rfl
 |sR _=>obtain⟨t,rfl⟩:=r;rfl
 |ref _=>cases r;rfl
 |ty _=>cases r;rfl
theorem yg{j pos'}(ha:PE X a ta):PC X .Is a (.Constant .none j pos') (VT ta):=by
 intro pins s σ H Q I h
 refine bG (ha pins s σ H _ I h) fun v s1 ⟨x,H1,I1,r1,q1⟩=>?_
 exact Constant_none (is_none_gen ⟨.bl _,H1,I1,by rw[r1.yf];rfl,q1⟩)
def tB(t:TE):TT:=fun σ H Q=>t σ H fun x H1=>∃c,x= .bl c∧Q c H1
theorem yh{op:CmpOp}{t:TE}(h:PC X op a b t)(h1:behindInMarks op b=false:=by first|exact ye _ (by decide) (by decide) |rfl):PT X (.Compare a [op] [b] pos) (tB t):=by
 intro pins s σ H Q I hw
 refine wpAny_isTrue_Compare1 (bG (h pins s σ H _ I hw) fun v s1 h1=>bG h1 fun u s2 h2=>bG h2 fun c s3 ⟨x,H1,I1,r1,q1⟩=>?_) h1
 obtain⟨d,rfl,q⟩:=q1
 cases r1
 exact wpAny_truthy_bool ⟨H1,I1,q⟩
theorem dv{e:Expr}{t:TE}(h:PE X e t)(he:∀whole,isTrue e X.env whole=(do let v←whole;standAt e.pos;holding [v] (truthy v)):=by intro _;rfl):PT X e (tB t):=by
 intro pins s σ H Q I hw
 refine isTrue_plain (bG (h pins s σ H _ I hw) fun v s1 ⟨x,H1,I1,r1,q1⟩=>?_) (he _)
 obtain⟨d,rfl,q⟩:=q1
 cases r1
 exact wpAny_truthy_bool ⟨H1,I1,q⟩
variable {tA UG:TT}{rest:List Expr}
def VU(t u:TT):TT:=fun σ H Q=>t σ H fun c H1=>if c=true then u σ H1 Q else Q false H1
def tOr(t u:TT):TT:=fun σ H Q=>t σ H fun c H1=>if c=true then Q true H1 else u σ H1 Q
def VV(t:TT):TT:=fun σ H Q=>t σ H fun c H1=>Q (!c) H1
theorem Bu(ha:PT X a tA):PW X (.BoolOp .And [a] pos) tA:=by
 intro wh pins s σ H Q I h
 refine isTrue_and (bG (ha pins s σ H Q I h) fun c s1 e=>?_)
 cases c with
 |true=>exact isTrue_and_nil e
 |false=>exact e
theorem mJ(ha:PT X a tA):PW X (.BoolOp .Or [a] pos) tA:=by
 intro wh pins s σ H Q I h
 refine isTrue_or (bG (ha pins s σ H Q I h) fun c s1 e=>?_)
 cases c with
 |false=>exact isTrue_or_nil e
 |true=>exact e
theorem GW(ha:PT X a tA)(hb:PW X (.BoolOp .And (b::rest) pos) UG):PW X (.BoolOp .And (a::b::rest) pos) (VU tA UG):=by
 intro wh pins s σ H Q I h
 refine isTrue_and (bG (ha pins s σ H _ I h) fun c s1 ⟨H1,I1,q1⟩=>?_)
 cases c with
 |true=>exact hb wh pins s1 σ H1 Q I1 q1
 |false=>exact⟨H1,I1,q1⟩
theorem mK(ha:PT X a tA)(hb:PW X (.BoolOp .Or (b::rest) pos) UG):PW X (.BoolOp .Or (a::b::rest) pos) (tOr tA UG):=by
 intro wh pins s σ H Q I h
 refine isTrue_or (bG (ha pins s σ H _ I h) fun c s1 ⟨H1,I1,q1⟩=>?_)
 cases c with
 |true=>exact⟨H1,I1,q1⟩
 |false=>exact hb wh pins s1 σ H1 Q I1 q1
theorem eH(ha:PT X a tA):PT X (.UnaryOp .Not a pos) (VV tA):=by
 intro pins s σ H Q I h
 exact isTrue_not (ha pins s σ H (fun c H1=>Q (!c) H1) I h)
def L5(ta tb:TE):TE:=fun σ H Q=>ta σ H fun x H1=>∃c,x= .bl c∧if c=true then tb σ H1 Q else Q (.bl false) H1
def L'(ta:TE):TE:=fun σ H Q=>ta σ H fun x H1=>∃c,x= .bl c∧Q (.bl (!c)) H1
theorem yi{op}{t:TE}(h:PE X a t):PE X (.BoolOp op [a] pos) t:=fun pins s σ H Q I hw=>BoolOp_one (h pins s σ H Q I hw)
theorem yj(ha:PE X a ta)(hb:PE X (.BoolOp .And (b::rest) pos) tb):PE X (.BoolOp .And (a::b::rest) pos) (L5 ta tb):=by
 intro pins s σ H Q I h
 refine BoolOp_and (bG (ha pins s σ H _ I h) fun v s1 ⟨x,H1,I1,r1,q1⟩=>?_)
 obtain⟨c,rfl,q1⟩:=q1
 cases r1
 refine wpAny_truthy_bool ?_
 cases c with
 |true=>exact hb pins s1 σ H1 Q I1 q1
 |false=>exact⟨.bl false,H1,I1,rfl,q1⟩
theorem tf(ha:PE X a ta):PE X (.UnaryOp .Not a pos) (L' ta):=by
 intro pins s σ H Q I h
 refine UnaryOp_ (bG (ha pins s σ H _ I h) fun v s1 ⟨x,H1,I1,r1,q1⟩=>?_)
 obtain⟨c,rfl,q1⟩:=q1
 cases r1
 exact not_of (wpAny_truthy_bool ⟨.bl (!c),H1,I1,rfl,q1⟩)
end
end L2
namespace L2
open PySem PySem.Spec PyProof.Rows
def aD(K:PySem.W.Frag)(H:Hp)(a:Addr)(xs:List V):Prop:=
 Rd H a (.lst xs)∨
  ∃(o:Obj) (its:Array Value) (n:Nat),K.lookup a=some o∧o.cls= .type "list" ∧o.dict=none∧o.data= .seq its n∧its.size≤sizeLine∧Vals xs its.toList
def lN(K:PySem.W.Frag)(H:Hp)(a:Addr)(xs:List V):Prop:=
 Rd H a (.tup xs)∨
  ∃(o:Obj) (its:Array Value) (n:Nat),K.lookup a=some o∧o.cls= .type "tuple" ∧o.data= .seq its n∧its.size≤sizeLine∧Vals xs its.toList
def VW:Value→Option V
 | .none=>some .dE
 | .bool b=>some (.bl b)
 | .int i _=>some (.int i)
 | .str x _=>some (.str x)
 | .bytes b _=>some (.vQ b)
 | .float b _=>some (.sR b)
 | .ref a=>some (.ref a)
 | .type n=>some (.ty n)
 |_=>none
theorem RelV.abs{x:V}{u:Value}(r:RelV x u):VW u=some x:=by
 cases x with
 |dE=>cases r;rfl
 |bl _=>cases r;rfl
 |int _=>obtain⟨t,rfl⟩:=r;rfl
 |str _=>obtain⟨t,rfl⟩:=r;rfl
 |vQ _=>obtain⟨t,rfl⟩:=r;rfl
 |sR _=>obtain⟨t,rfl⟩:=r;rfl
 |ref _=>cases r;rfl
 |ty _=>cases r;rfl
theorem RelV.inj{x y:V}{u:Value}(r:RelV x u)(q:RelV y u):x=y:=Option.some.inj (r.abs.symm.trans q.abs)
theorem Vals.inj:∀{xs ys:List V} {us:List Value},Vals xs us→Vals ys us→xs=ys
 |_,_,_, .nil, .nil=>rfl
 |_,_,_, .cons r t, .cons r' t'=>by rw[r.inj r',Vals.inj t t']
section
variable {X:Cx}{pins:List (Addr×Obj)}{σ:St}{H:Hp}{s:Shared}{a:Addr}{xs ys:List V}
theorem aD.of{K:PySem.W.Frag}(h:H a=some (.lst xs)):aD K H a xs:= .inl (.inl h)
theorem lN.of{K:PySem.W.Frag}(h:H a=some (.tup xs)):lN K H a xs:= .inl (.inl h)
theorem Inv.list(I:Inv X pins σ H s)(h:aD X.K H a xs):∃its:List Value,Vals xs its∧PlainL s.heap a its.toArray∧xs.length≤sizeLine:=by
 rcases h with h| ⟨o,its,n,hk,hc,hd,hs,hz,r⟩
 ·obtain⟨z,its,n,r,e⟩:=h.ok I.bH
  exact⟨its,r,⟨_,n,e,rfl,rfl,rfl⟩,z⟩
 ·refine⟨its.toList,r,⟨o,n,I.hZ a o hk,hc,hd,by simpa using hs⟩,?_⟩
  have e:=r.length
  simp only [Array.length_toList] at e
  omega
theorem Inv.tuple(I:Inv X pins σ H s)(h:lN X.K H a xs):∃its:List Value,Vals xs its∧IsTup s.heap a its.toArray∧xs.length≤sizeLine:=by
 rcases h with h| ⟨o,its,n,hk,hc,hs,hz,r⟩
 ·obtain⟨z,its,r,p⟩:=h.ok I.bH
  exact⟨its,r,p,z⟩
 ·refine⟨its.toList,r,⟨o,I.hZ a o hk,hc,n,by simpa using hs⟩,?_⟩
  have e:=r.length
  simp only [Array.length_toList] at e
  omega
theorem Inv.jG(I:Inv X pins σ H s)(h:aD X.K H a xs)(h':aD X.K H a ys):xs=ys:=by
 obtain⟨its,r,⟨o,n,e,_,_,d⟩,_⟩:=I.list h
 obtain⟨its',r',⟨o',n',e',_,_,d'⟩,_⟩:=I.list h'
 rw[e] at e';cases e'
 rw[d] at d'
 injection d' with d1 _
 have:its=its':=by simpa using congrArg Array.toList d1
 subst this
 exact r.inj r'
end
abbrev Cx.ij(X:Cx)(E:Value→Shared→Prop):Cx:={ X with xe:=E }
abbrev Cx.Bi(X:Cx):Cx:=X.ij fun _ _=>False
theorem Cx.Ok.ij{X:Cx}(ok:X.Ok)(E:Value→Shared→Prop):(X.ij E).Ok:=
 ⟨ok.mod,ok.kind,ok.glob,ok.blt,ok.above,ok.inj,ok.has,ok.Bg,ok.hd,ok.frames,ok.Br,ok.E1,ok.bs,ok.sU,ok.mG,ok.mH,ok.ig,ok.xT⟩
theorem Cx.Ok.cZ{X:Cx}{E:Value→Shared→Prop}(ok:(X.ij E).Ok):X.Ok:=
 ⟨ok.mod,ok.kind,ok.glob,ok.blt,ok.above,ok.inj,ok.has,ok.Bg,ok.hd,ok.frames,ok.Br,ok.E1,ok.bs,ok.sU,ok.mG,ok.mH,ok.ig,ok.xT⟩
section
variable {X:Cx}{pins:List (Addr×Obj)}{σ:St}{H:Hp}{s:Shared}{E:Value→Shared→Prop}
theorem Inv.ij(I:Inv X pins σ H s)(E:Value→Shared→Prop):Inv (X.ij E) pins σ H s:=⟨I.ok.ij E,I.os,I.bare,I.base,I.loc,I.cell,I.free,I.eK,I.pin,I.bH,I.len⟩
theorem Inv.cZ(I:Inv (X.ij E) pins σ H s):Inv X pins σ H s:=⟨I.ok.cZ,I.os,I.bare,I.base,I.loc,I.cell,I.free,I.eK,I.pin,I.bH,I.len⟩
theorem SP.cZ{D:Ends}{f:Flow}{s':Shared}(h:SP (X.ij E) pins D f s'):SP X pins D f s':=by
 cases f with
 |next=>obtain⟨σ',H',I,q⟩:=h;exact⟨σ',H',I.cZ,q⟩
 |brk=>obtain⟨σ',H',I,q⟩:=h;exact⟨σ',H',I.cZ,q⟩
 |cont=>obtain⟨σ',H',I,q⟩:=h;exact⟨σ',H',I.cZ,q⟩
 |ret u=>obtain⟨v,σ',H',I,r,q⟩:=h;exact⟨v,σ',H',I.cZ,r,q⟩
theorem lh.Bi{st:List Stmt}{t:TS}(h:lh X.Bi st t):lh X st t:=fun pins s σ H D I hw=>
 wpAny_mono (h pins s σ H D (I.ij _) hw) (fun _ _ q=>q.cZ) fun _ _ z=>False.elim z
end
section
variable {X:Cx}{st:Stmt}{rest:List Stmt}{t u:TS}{e:Expr}{te:TE}{pos:Pos}
def Ma:TS:=fun D σ H=>D.nx σ H
def Mb(t u:TS):TS:=fun D σ H=>t { D with nx:=u D } σ H
theorem bI:lh X [] Ma:=fun _ _ σ H _ I h=>wpAny_execs_nil ⟨σ,H,I,h⟩
theorem ak(h1:PS X st t)(h2:lh X rest u):lh X (st::rest) (Mb t u):=by
 intro pins s σ H D I h
 refine wpAny_execs_cons (bG (h1 pins s σ H { D with nx:=u D } I h) fun f s1 q=>?_)
 cases f with
 |next=>
  obtain⟨σ',H',I',q⟩:=q
  exact h2 pins s1 σ' H' D I' q
 |ret v=>exact q
 |brk=>exact q
 |cont=>exact q
theorem av(h1:PS X st t):lh X [st] t:=by
 intro pins s σ H D I h
 refine wpAny_execs_cons (bG (h1 pins s σ H D I h) fun f s1 q=>?_)
 cases f with
 |next=>exact wpAny_execs_nil q
 |ret v=>exact q
 |brk=>exact q
 |cont=>exact q
theorem Inv.quiet{pins:List (Addr×Obj)}{σ:St}{H:Hp}{s:Shared}(I:Inv X pins σ H s):interactive X.env=false:=by simp [interactive,I.ok.kind]
def Mc(te:TE):TS:=fun D σ H=>te σ H fun _ H1=>D.nx σ H1
theorem cI(he:PE X e te)(hs:swapsWith e none pos.line X.env=pure false:=by rfl):PS X (.Expr e pos) (Mc te):=by
 intro pins s σ H D I h
 exact wpAny_Expr_any (bG (he pins s σ H _ I h) fun v s1 ⟨x,H1,I1,r1,q1⟩=>⟨σ,H1,I1,q1⟩) I.quiet hs
def VX(te:TE):TS:=fun D σ H=>te σ H D.rt
theorem aR(he:PE X e te):PS X (.Return (some e) pos) (VX te):=by
 intro pins s σ H D I h
 exact wpAny_Return_some (bG (he pins s σ H _ I h) fun v s1 ⟨x,H1,I1,r1,q1⟩=>⟨x,σ,H1,I1,r1,q1⟩)
def GX(c:TT)(t u:TS):TS:=fun D σ H=>c σ H fun b H1=>if b=true then t D σ H1 else u D σ H1
theorem dF{c:Expr}{a b:List Stmt}{tc:TT}(hc:PT X c tc)(ha:lh X a t)(hb:lh X b u):PS X (.If c a b pos) (GX tc t u):=by
 intro pins s σ H D I h
 refine wpAny_If (bG (hc pins s σ H _ I h) fun d s1 ⟨H1,I1,q1⟩=>?_)
 cases d with
 |true=>exact ha pins s1 σ H1 D I1 q1
 |false=>exact hb pins s1 σ H1 D I1 q1
def GY:TS:=fun _ _ _=>False
theorem yk:PS X st GY:=fun _ _ _ _ _ _ h=>h.elim
end
abbrev TG:=V→St→Hp→(St→Hp→Prop)→Prop
abbrev E7:=List V→St→Hp→(St→Hp→Prop)→Prop
def PG(X:Cx)(target:Expr)(t:TG):Prop:=
 ∀(pins:List (Addr×Obj)) (s:Shared) (σ:St) (H:Hp) (v:V) (u:Value) (Q:St→Hp→Prop),Inv X pins σ H s→RelV v u→t v σ H Q→
  wpAny (model X.prog X.w) X.A (assign target X.env u) (fun _ s'=>∃σ' H',Inv X pins σ' H' s'∧Q σ' H') X.xe s
def Lu(X:Cx)(ts:List Expr)(t:E7):Prop:=
 ∀(pins:List (Addr×Obj)) (s:Shared) (σ:St) (H:Hp) (vs:List V) (us:List Value) (Q:St→Hp→Prop),Inv X pins σ H s→Vals vs us→t vs σ H Q→
  wpAny (model X.prog X.w) X.A (assignInOrder ((assignEach ts X.env).map (·.2)) us) (fun _ s'=>∃σ' H',Inv X pins σ' H' s'∧Q σ' H') X.xe s
abbrev ym:=V→V→V→Hp→(Hp→Prop)→Prop
def GZ(X:Cx)(t:ym):Prop:=
 ∀(pins:List (Addr×Obj)) (s:Shared) (σ:St) (H:Hp) (o i v:V) (ov iv u:Value) (Q:Hp→Prop),Inv X pins σ H s→RelV o ov→RelV i iv→RelV v u→t o i v H Q→
  wpAny (model X.prog X.w) X.A (setItem ov iv u) (fun _ s'=>∃H',Inv X pins σ H' s'∧Q H') X.xe s
abbrev UH:=V→V→Hp→VK→Prop
def Zi(X:Cx)(op:Operator)(t:UH):Prop:=
 ∀(pins:List (Addr×Obj)) (s:Shared) (σ:St) (H:Hp) (x y:V) (v u:Value) (Q:VK),Inv X pins σ H s→RelV x v→RelV y u→t x y H Q→
  wpAny (model X.prog X.w) X.A (inplaceOp op v u) (EP X pins σ Q) X.xe s
section
variable {X:Cx}{pos:Pos}
def aV(i:Nat):TG:=fun v σ H Q=>Q (σ.set i (some v)) H
theorem aw{i:Nat}{x:Str}(hN:X.N.Nodup)(hi:X.N[i]? =some x)(hx:Loc X.env.scope x)(hf:X.fn x=true∨X.env.scope.names.lookup x=some .local:=by first|exact .inl rfl|exact .inr rfl|assumption):PG X (.Name x pos) (aV i):=by
 intro pins s σ H v u Q I r h
 exact wpAny_assign_Name (store_ok I hN hi hx r (fun s' I'=>⟨_,H,I',h⟩) hf)
def VY:E7:=fun vs σ H Q=>vs=[]∧Q σ H
def Md(t:TG)(u:E7):E7:=fun vs σ H Q=>∃v r,vs=v::r∧t v σ H fun σ' H'=>u r σ' H' Q
theorem bU:Lu X [] VY:=by
 intro pins s σ H vs us Q I r h
 obtain⟨e,h⟩:=h
 subst e
 cases r
 exact assignInOrder_nil ⟨σ,H,I,h⟩
theorem aL{e:Expr}{es:List Expr}{t:TG}{u:E7}(h1:PG X e t)(h2:Lu X es u)
  (hs:(assignEach (e::es) X.env).map (·.2)=assign e X.env::(assignEach es X.env).map (·.2):=by rfl):Lu X (e::es) (Md t u):=by
 intro pins s σ H vs us Q I r h
 obtain⟨v,vr,e1,h⟩:=h
 subst e1
 cases r with
 |cons r rr=>
  rw[hs]
  refine assignInOrder_cons (bG (h1 pins s σ H _ _ _ I r h) fun _ s1 ⟨σ1,H1,I1,q1⟩=>?_)
  exact h2 pins s1 σ1 H1 _ _ Q I1 rr q1
def Me(K:PySem.W.Frag)(n:Nat)(t:E7):TG:=fun v σ H Q=>∃a xs,v= .ref a∧lN K H a xs∧xs.length=n∧t xs σ H Q
theorem mL{es:List Expr}{k:Nat}{t:E7}{n:Nat}(hc:X.calm=true)(h:Lu X es t)
  (hn:(assignEach es X.env).length=n:=by rfl) (E8:(assignEach es X.env).findIdx? (·.1)=none:=by rfl):PG X (.Tuple es k pos) (Me X.K n t):=by
 intro pins s σ H v u Q I r hw
 obtain⟨a,xs,e1,hq,hl,hw⟩:=hw
 subst e1
 cases r
 obtain⟨its,rv,ht,hz⟩:=I.tuple hq
 refine assign_Tuple_tuple (I.ok.hd hc) ht (by simp [hn,←hl,rv.length]) E8 fun h' hx=>?_
 have I1:Inv X pins σ H { s with heap:=h' }:=I.kept (t':=s.toks) fun b o e=>hx b o (Nat.ne_of_lt (Heap.lt_size e)) e
 exact h pins _ σ H xs _ Q I1 (by simpa using rv) hw
def VZ(to ti:TE)(t:ym):TG:=fun v σ H Q=>to σ H fun o H1=>ti σ H1 fun i H2=>t o i v H2 fun H3=>Q σ H3
theorem kv{o i:Expr}{to ti:TE}{t:ym}(ho:PE X o to)(hi:PE X i ti)(hs:GZ X t)
  (ha:∀v,assign (.Subscript o i pos) X.env v=(do
   let ov←holding [v] (eval o X.env)
   let iv←holding [v,ov] (eval i X.env)
   standAt pos
   holding [v,ov,iv] (setItem ov iv v)
   release [v,ov,iv] []):=by intro _;rfl):PG X (.Subscript o i pos) (VZ to ti t):=by
 intro pins s σ H v u Q I r h
 rw[ha]
 refine wpAny_bind (wpAny_holding (bG (ho pins s σ H _ I h) fun ov s1 ⟨x,H1,I1,r1,q1⟩=>?_))
 refine wpAny_bind (wpAny_holding (bG (hi pins s1 σ H1 _ I1 q1) fun iv s2 ⟨y,H2,I2,r2,q2⟩=>?_))
 refine wpAny_bind (wpAny_standAt (wpAny_bind (wpAny_holding (bG (hs pins s2 σ H2 x y v ov iv u _ I2 r1 r2 r q2) fun _ s3 ⟨H3,I3,q3⟩=>?_))))
 exact wpAny_release ⟨σ,H3,I3,q3⟩
def Bv(te:TE)(g:TG):TS:=fun D σ H=>te σ H fun x H1=>g x σ H1 D.nx
theorem ky{tg e:Expr}{te:TE}{g:TG}(he:PE X e te)(hg:PG X tg g)(hs:swapsWithSole [tg] e pos.line X.env=pure false:=by rfl)(hw:swappedStores [tg] e X.env=pure none:=by rfl)
  (h1:(assignEach [tg] X.env).map (·.2)=[assign tg X.env]:=by rfl):PS X (.Assign [tg] e pos) (Bv te g):=by
 intro pins s σ H D I h
 refine wpAny_Assign_stores (bG (he pins s σ H _ I h) fun v s1 ⟨x,H1,I1,r1,q1⟩=>?_) hs hw
 rw[h1]
 exact bG (hg pins s1 σ H1 x v _ I1 r1 q1) fun _ s2 q=>q
theorem aG{i:Nat}{x:Str}{e:Expr}{te:TE}{pos':Pos}(hN:X.N.Nodup)(hi:X.N[i]? =some x)(hx:Loc X.env.scope x)(he:PE X e te)(hs:swapsWith e (some (.Name x pos')) pos.line X.env=pure false:=by rfl)(hf:X.fn x=true∨X.env.scope.names.lookup x=some .local:=by first|exact .inl rfl|exact .inr rfl|assumption):
  PS X (.Assign [.Name x pos'] e pos) (Bv te (aV i)):=by
 intro pins s σ H D I h
 refine wpAny_Assign_Name (bG (he pins s σ H _ I h) fun v s1 ⟨y,H1,I1,r1,q1⟩=>?_) hs
 exact store_ok I1 hN hi hx r1 (fun s2 I2=>⟨_,H1,I2,q1⟩) hf
def Mf(to ti te:TE)(Bw:V→V→Hp→VK→Prop)(UI:UH)(Bx:ym):TS:=fun D σ H=>to σ H fun o H1=>ti σ H1 fun i H2=>Bw o i H2 fun x H3=>te σ H3 fun y H4=>UI x y H4 fun z H5=>Bx o i z H5 fun H6=>D.nx σ H6
def Mg(X:Cx)(t:V→V→Hp→VK→Prop):Prop:=
 ∀(pins:List (Addr×Obj)) (s:Shared) (σ:St) (H:Hp) (o i:V) (ov iv:Value) (Q:VK),Inv X pins σ H s→RelV o ov→RelV i iv→t o i H Q→
  wpAny (model X.prog X.w) X.A (getItem ov iv) (EP X pins σ Q) X.xe s
theorem By{o i e:Expr}{to ti te:TE}{Bw:V→V→Hp→VK→Prop}{UI:UH}{Bx:ym}{op:Operator}{kB:Pos}(ho:PE X o to)(hi:PE X i ti)(hg:Mg X Bw)(he:PE X e te)(hp:Zi X op UI)(hs:GZ X Bx)
  (ha:∀ov iv new,augStore i ov iv new=(do holding [new,ov,iv] (setItem ov iv new);release [new,ov,iv] [];pure .next):=by intros;rfl):PS X (.AugAssign (.Subscript o i kB) op e pos) (Mf to ti te Bw UI Bx):=by
 intro pins s σ H D I h
 refine wpAny_AugAssign_SubscriptAny (bG (ho pins s σ H _ I h) fun ov s1 ⟨x1,H1,I1,r1,q1⟩=>?_) ha
 refine bG (hi pins s1 σ H1 _ I1 q1) fun iv s2 ⟨x2,H2,I2,r2,q2⟩=>?_
 refine bG (hg pins s2 σ H2 x1 x2 ov iv _ I2 r1 r2 q2) fun old s3 ⟨x3,H3,I3,r3,q3⟩=>?_
 refine bG (he pins s3 σ H3 _ I3 q3) fun v s4 ⟨x4,H4,I4,r4,q4⟩=>?_
 refine bG (hp pins s4 σ H4 x3 x4 old v _ I4 r3 r4 q4) fun new s5 ⟨x5,H5,I5,r5,q5⟩=>?_
 exact bG (hs pins s5 σ H5 x1 x2 x5 ov iv new _ I5 r1 r2 r5 q5) fun _ s6 ⟨H6,I6,q6⟩=>⟨σ,H6,I6,q6⟩
def ipI(f:Int→Int→Int):UH:=fun x y H Q=>∃i j,x= .int i∧y= .int j∧Q (.int (f i j)) H
theorem G1:Zi X .Add (ipI fun i j=>i+j):=by
 intro pins s σ H x y v u Q I r1 r2 h
 obtain⟨i,j,e1,e2,q⟩:=h
 subst e1;subst e2
 obtain⟨t,rfl⟩:=r1
 obtain⟨t',rfl⟩:=r2
 exact iadd_int ⟨.int _,H,I.tok _,⟨_,rfl⟩,q⟩
end
section
variable {X:Cx}{pos:Pos}
def yo(c:TT)(tb:TS):TS:=fun D σ H=>∃W:Nat→St→Hp→Prop,(∃m,W m σ H)∧∀m σ H,W m σ H→
 c σ H fun b H1=>if b=true then∃N:St→Hp→Prop,(∀σ' H',N σ' H'→∃m',m'<m∧W m' σ' H')∧tb { D with nx:=N,ct:=N,bk:=D.nx } σ H1 else D.nx σ H1
theorem yp{c:Expr}{body:List Stmt}{tc:TT}{tb:TS}(hp:PassesOwn (model X.prog X.w) X.A X.env X.xe)(hc:PT X c tc)(hb:lh X body tb):PS X (.While c body [] pos) (yo tc tb):=by
 intro pins s σ H D I h
 obtain⟨W,⟨m0,w0⟩,turn⟩:=h
 refine wpAny_While (codeAny_whileLoop (fun n s'=>∃σ' H',Inv X pins σ' H' s'∧W n σ' H') ?_ m0 ⟨σ,H,I,w0⟩)
 rintro n s1 ⟨σ1,H1,I1,w1⟩
 refine wpAny_passesOwn hp (bG (hc pins s1 σ1 H1 _ I1 (turn n σ1 H1 w1)) fun b s2 ⟨H2,I2,q2⟩=>?_)
 cases b with
 |true=>
  obtain⟨N,hN,q2⟩:=q2
  rw[if_pos rfl]
  refine wpAny_passesOwn hp (bG (hb pins s2 σ1 H2 _ I2 q2) fun f s3 q3=>?_)
  cases f with
  |next=>
   obtain⟨σ3,H3,I3,n3⟩:=q3
   obtain⟨m',hm,w3⟩:=hN σ3 H3 n3
   exact⟨m',hm,σ3,H3,I3,w3⟩
  |cont=>
   obtain⟨σ3,H3,I3,n3⟩:=q3
   obtain⟨m',hm,w3⟩:=hN σ3 H3 n3
   exact⟨m',hm,σ3,H3,I3,w3⟩
  |brk=>exact q3
  |ret v=>exact q3
 |false=>
  rw[if_neg Bool.false_ne_true]
  exact wpAny_execs_nil ⟨σ1,H2,I2,q2⟩
end
structure It where
 go:Nat→Hp→Prop
 lO:Nat→Hp→V→Hp→Prop
 stop:Nat→Hp→Prop
def eN(X:Cx)(pins:List (Addr×Obj))(H:Hp)(b:Addr):Prop:=
 H b=none∧b≠X.env.locals∧b∉X.fs∧(b∈X.ex∨X.s₀.heap.objs.size≤b)∧(∀x c,X.env.cells.lookup x=some c→c≠b)∧∀p∈X.pn++pins,p.1≠b
theorem Inv.vS{X:Cx}{pins:List (Addr×Obj)}{σ:St}{H H':Hp}{s:Shared}{b:Addr}(I:Inv X pins σ H s)(hb:s.heap.objs.size≤b)(hn:H' b=none):eN X pins H' b:=by
 refine⟨hn,Nat.ne_of_gt (Nat.lt_of_lt_of_le I.lt hb),I.VO hb, .inr (Nat.le_trans I.sz hb),fun x c e z=>?_,fun p hp z=>?_⟩
 ·obtain⟨v,q⟩:=I.cell x c e
  exact absurd (Nat.lt_of_lt_of_le q.lt (by rw[z];exact hb)) (Nat.lt_irrefl _)
 ·exact absurd (Nat.lt_of_lt_of_le (Heap.lt_size (I.pin p hp).1) (by rw[z];exact hb)) (Nat.lt_irrefl _)
structure Turn(P:Program)(w:World)(K:PySem.W.Frag)(tg:Expr)(J:It)(fp:List Addr)(it:Addr)(tn:Nat→Heap→Prop):Prop where
 mem:it∈fp
 obj:∀i h,tn i h→∀b∈fp,∃o,h.get? b=some o∧∀v,o.data≠ .cell v
 keep:∀i h h',tn i h→(∀b∈fp,∀o,h.get? b=some o→h'.get? b=some o)→tn i h'
 item:∀(X:Cx),X.prog=P→X.w=w→X.K=K→X.calm=true→∀(i:Nat) (pins:List (Addr×Obj)) (s:Shared) (σ:St) (H:Hp) (E:Value→Shared→Prop),Inv X pins σ H s→(∀b∈fp,eN X pins H b)→tn i s.heap→J.go i H→
  wpAny (model P w) X.A (pyNext (.ref it)) (fun r s1=>∃u,r=some u∧
   wpAny (model P w) X.A (letOwnedTupleGo tg (.ref it) u) (fun _ s2=>∃x H',Inv X pins σ H' s2∧RelV x u∧J.lO i H x H'∧tn (i+1) s2.heap∧∀b∈fp,H' b=none) E s1) E s
 done:∀(X:Cx),X.prog=P→X.w=w→X.K=K→X.calm=true→∀(i:Nat) (pins:List (Addr×Obj)) (s:Shared) (σ:St) (H:Hp) (E:Value→Shared→Prop),Inv X pins σ H s→(∀b∈fp,eN X pins H b)→tn i s.heap→J.stop i H→
  wpAny (model P w) X.A (pyNext (.ref it)) (fun r s1=>r=none∧Inv X pins σ H s1) E s
 self:∀(A:Around) (i:Nat) (s:Shared) (Q:Value→Shared→Prop) (E:Value→Shared→Prop),tn i s.heap→Q (.ref it) s→wpAny (model P w) A (pyIter (.ref it)) Q E s
abbrev TI:=St→Hp→(It→Hp→Prop)→Prop
def Zj(X:Cx)(pins:List (Addr×Obj))(σ:St)(tg:Expr)(R:It→Hp→Prop)(Lv:Value)(s2:Shared):Prop:=
 ∃(it:Addr) (fp:List Addr) (tn:Nat→Heap→Prop) (J:It) (H':Hp),Lv= .ref it∧Inv X pins σ H' s2∧Turn X.prog X.w X.K tg J fp it tn∧tn 0 s2.heap∧(∀b∈fp,eN X pins H' b)∧R J H'
def PI(X:Cx)(tg iter:Expr)(wi:TI):Prop:=
 ∀(pins:List (Addr×Obj)) (s:Shared) (σ:St) (H:Hp) (R:It→Hp→Prop),Inv X pins σ H s→wi σ H R→
  wpAny (model X.prog X.w) X.A (eval iter X.env) (fun v s1=>wpAny (model X.prog X.w) X.A (pyIter v) (Zj X pins σ tg R) X.xe s1) X.xe s
theorem E9{M:Model}{A:Around}{E:Value→Shared→Prop}{s:Shared}{tg:Expr}{it:Addr}{u:Value}{o:Obj}{n:String}{vs:Array Value}{Q:Unit→Shared→Prop}(ho:s.heap.get? it=some o)(hc:o.cls= .type n)(hd:o.data= .fields vs)
  (hn:["enumerate","zip","dict_itemiterator","dict_reverseitemiterator","odict_iterator","itertools.zip_longest","itertools.pairwise"].contains n=false) (hQ:Q () s):wpAny M A (letOwnedTupleGo tg (.ref it) u) Q E s:=by
 unfold letOwnedTupleGo
 cases tg<;>first
  |exact wpAny_pure hQ
  | (cases u<;>first
    |exact wpAny_pure hQ
    | (refine wpAny_bind (wpAny_load ho ?_)
       rw[hc,hd]
       show wpAny M A (if (["enumerate","zip","dict_itemiterator","dict_reverseitemiterator","odict_iterator","itertools.zip_longest","itertools.pairwise"].contains n&&vs[0]? ==some (rawInt _))=true then _ else _) Q E s
       rw[if_neg (by intro h;rw[hn,Bool.false_and] at h;cases h)]
       exact wpAny_pure hQ))
def uK(K:PySem.W.Frag)(a:Addr):It:=
 ⟨fun i H=>∃xs x,aD K H a xs∧xs[i]? =some x,fun i H x H'=>H'=H∧∀xs,aD K H a xs→xs[i]? =some x,fun i H=>∃xs,aD K H a xs∧xs.length≤i⟩
def vT(lo:Int)(n:Nat):It:=⟨fun i _=>i<n,fun i H x H'=>H'=H∧x= .int (lo+i),fun i _=>n≤i⟩
theorem vU{P:Program}{w:World}{K:PySem.W.Frag}{tg:Expr}(a it:Addr):Turn P w K tg (uK K a) [it] it (fun i h=>h.IsListIter it a i) where
 mem:=by simp
 obj:=fun i h st b hb=>by
  have e:b=it:=by simpa using hb
  subst e
  obtain⟨o,e,c,d⟩:=st
  exact⟨o,e,fun v z=>by rw[d] at z;cases z⟩
 keep:=fun i h h' st k=>st.at fun o e=>k it (by simp) o e
 item:=by
  intro X hP hw hK hc i pins s σ H E I hf st hg
  subst hP hw hK
  obtain⟨xs,x,hq,hx⟩:=hg
  obtain⟨its,rv,p,hz⟩:=I.list hq
  obtain⟨u,hu,ru⟩:=rv.get hx
  obtain⟨f0,f1,f2,f3,f4,f5⟩:=hf it (by simp)
  refine wpAny_pyNext_list_item st p.isList (x:=u) (by simpa using hu) fun h' bc sb=>?_
  have I1:Inv X pins σ H { s with heap:=h' }:=I.turned (t':=s.toks) (fun b o hb e=>(sb.2 b hb).trans e) f0 f1 f3 f4 f5
  obtain⟨o,e,c,d⟩:=id bc
  exact⟨u,rfl,E9 (s:={ s with heap:=h' }) e c d (by decide) ⟨x,H,I1,ru,⟨rfl,fun ys hy=>by rw[I.jG hy hq];exact hx⟩,bc,fun b hb=>(hf b hb).1⟩⟩
 done:=by
  intro X hP hw hK hc i pins s σ H E I hf st hg
  subst hP hw hK
  obtain⟨xs,hq,hx⟩:=hg
  obtain⟨its,rv,p,hz⟩:=I.list hq
  obtain⟨f0,f1,f2,f3,f4,f5⟩:=hf it (by simp)
  have hl:=rv.length
  exact wpAny_pyNext_list_end (I.ok.hd hc) st p.isList (by simp;omega) fun h' eb=>⟨rfl,I.turned (t':=s.toks) (fun b o hb e=>eb b o hb e) f0 f1 f3 f4 f5⟩
 self:=fun _ _ _ _ _ st h=>wpAny_pyIter_listiter st h
theorem tj{P:Program}{w:World}{K:PySem.W.Frag}{tg:Expr}(it:Addr)(lo:Int)(n:Nat):Turn P w K tg (vT lo n) [it] it (fun i h=>IsRangeIter h it (lo+(i:Nat)*1) ((n:Int) - (i:Nat)) 1) where
 mem:=by simp
 obj:=fun i h st b hb=>by
  have e:b=it:=by simpa using hb
  subst e
  exact⟨_,st,fun v z=>by
   have z':Data.fields _=Data.cell v:=z
   cases z'⟩
 keep:=fun i h h' st k=>k it (by simp) _ st
 item:=by
  intro X hP hw hK hc i pins s σ H E I hf st hg
  subst hP hw hK
  obtain⟨f0,f1,f2,f3,f4,f5⟩:=hf it (by simp)
  have W:=Walks.range (prog:=X.prog) (w:=X.w) (I.ok.hd hc) it lo 1 n
  refine W.item i s _ _ hg st fun v h' tk hv bc kk=>?_
  obtain⟨t,rfl⟩:=hv
  have I1:Inv X pins σ H { s with heap:=h',toks:=tk }:=I.turned (fun b o hb e=>kk b o (by simpa using hb) e) f0 f1 f3 f4 f5
  refine⟨_,rfl,E9 (s:={ s with heap:=h',toks:=tk }) (n:="range_iterator") bc rfl rfl (by decide) ⟨.int (lo+i),H,I1,⟨t,?_⟩,⟨rfl,rfl⟩,bc,fun b hb=>(hf b hb).1⟩⟩
  rw[Int.mul_one]
 done:=by
  intro X hP hw hK hc i pins s σ H E I hf st hg
  subst hP hw hK
  obtain⟨f0,f1,f2,f3,f4,f5⟩:=hf it (by simp)
  exact wpAny_pyNext_range_end (I.ok.hd hc) st (by have:n≤i:=hg;omega) fun h' eb=>⟨rfl,I.turned (t':=s.toks) (fun b o hb e=>eb b o hb e) f0 f1 f3 f4 f5⟩
 self:=fun _ _ _ _ _ st h=>wpAny_pyIter_rangeiter st h
end L2
namespace L2
open PySem PySem.Spec PyProof.Rows
section
variable {X:Cx}{tg:Expr}
def Fb(K:PySem.W.Frag)(tl:TE):TI:=fun σ H R=>tl σ H fun x H1=>∃a,x= .ref a∧(∃xs,aD K H1 a xs)∧R (uK K a) H1
theorem bh{l:Expr}{tl:TE}(hl:PE X l tl):PI X tg l (Fb X.K tl):=by
 intro pins s σ H R I h
 refine bG (hl pins s σ H _ I h) fun v s1 ⟨x,H1,I1,r1,q1⟩=>?_
 obtain⟨a,e,⟨xs,hq⟩,q⟩:=q1
 subst e
 cases r1
 obtain⟨its,rv,p,hz⟩:=I1.list hq
 refine wpAny_pyIter_list p.isList ?_
 refine⟨s1.heap.objs.size,[s1.heap.objs.size],_,_,H1,rfl,I1.kept (t':=s1.toks) fun b o e=>Heap.get?_push_of_some _ e,vU a _,⟨_,Heap.get?_push_size _ rfl,rfl,rfl⟩,fun b hb=>?_,q⟩
 have e:b=s1.heap.objs.size:=by simpa using hb
 subst e
 exact I1.vS (Nat.le_refl _) (I1.bH.fresh (Nat.le_refl _))
theorem qO{pins:List (Addr×Obj)}{σ:St}{H:Hp}{s:Shared}{R:It→Hp→Prop}{E:Value→Shared→Prop}{lo hi:Int}{t u v:Tok}{tk:Nat}(I:Inv X pins σ H s)(h1: -(2^62)≤lo)(h2:lo<2^62)(h3: -(2^62)≤hi)(h4:hi<2^62)
  (q:R (vT lo (hi - lo).toNat) H):wpAny (model X.prog X.w) X.A (pyIter (.ref s.heap.objs.size)) (Zj X pins σ tg R) E { s with heap:=s.heap.push { cls:= .type "range",data:= .fields #[.int lo t, .int hi u, .int 1 v] },toks:=tk }:=by
 refine wpAny_pyIter_range (IsRange.new ..) (small_one h1 h2 h3 h4) ?_
 have I1:Inv X pins σ H { s with heap:=s.heap.push { cls:= .type "range",data:= .fields #[.int lo t, .int hi u, .int 1 v] },toks:=tk }:=I.kept fun b o e=>Heap.get?_push_of_some _ e
 refine⟨(s.heap.push { cls:= .type "range",data:= .fields #[.int lo t, .int hi u, .int 1 v] }).objs.size,[(s.heap.push { cls:= .type "range",data:= .fields #[.int lo t, .int hi u, .int 1 v] }).objs.size],_,_,H,rfl,
  I1.kept (t':=tk) fun b o e=>Heap.get?_push_of_some _ e,tj _ lo (hi - lo).toNat,?_,fun b hb=>?_,q⟩
 ·have e1:lo+((0 :Nat):Int)*1=lo:=by simp
  have e2:(((hi - lo).toNat:Nat):Int) - ((0 :Nat):Int)=Builtin.Range.rangeSize lo hi 1:=by rw[rangeSize_one];split<;>omega
  show IsRangeIter _ _ (lo+((0 :Nat):Int)*1) ((((hi - lo).toNat:Nat):Int) - ((0 :Nat):Int)) 1
  rw[e1,e2]
  exact Heap.get?_push_size _ rfl
 ·have e:b=(s.heap.push { cls:= .type "range",data:= .fields #[.int lo t, .int hi u, .int 1 v] }).objs.size:=by simpa using hb
  subst e
  exact I1.vS (Nat.le_refl _) (I1.bH.fresh (Nat.le_refl _))
def Mh(ta:TA):TI:=fun σ H R=>ta σ H fun vs H1=>∃j:Int,vs=[.int j]∧ -(2^62)≤j∧j<2^62∧R (vT 0 j.toNat) H1
def Mi(ta:TA):TI:=fun σ H R=>ta σ H fun vs H1=>∃i j:Int,vs=[.int i, .int j]∧(-(2^62)≤i∧i<2^62∧ -(2^62)≤j∧j<2^62)∧R (vT i (j - i).toNat) H1
theorem bD{a:Expr}{ta:TA}{p pos:Pos}(hg:Gl X "range")(hm:X.mg "range" =none)(ha:PA X [a] ta)(hs:starEach [a] X.env=[(false,eval a X.env)]:=by rfl):PI X tg (.Call (.Name "range" p) [a] [] pos) (Mh ta):=by
 intro pins s σ H R I h
 refine Call_ (gI I hg hm boot_range (PyProof.Rows.callWith_type1 (bG (ha pos pins s σ H _ I h) fun us s1 ⟨vs,H1,I1,r1,q1⟩=>?_) hs rfl))
 obtain⟨j,e,q1,q2,q⟩:=q1
 subst e
 cases r1 with
 |cons r rr=>
  cases rr
  obtain⟨t,rfl⟩:=r
  exact call_range_1 (qO I1 (by omega) (by omega) q1 q2 (by simpa using q))
theorem vV{a b:Expr}{ta:TA}{p pos:Pos}(hg:Gl X "range")(hm:X.mg "range" =none)(ha:PA X [a,b] ta)(hs:starEach [a,b] X.env=[(false,eval a X.env),(false,eval b X.env)]:=by rfl)(oH:starEach [b] X.env=[(false,eval b X.env)]:=by rfl):
  PI X tg (.Call (.Name "range" p) [a,b] [] pos) (Mi ta):=by
 intro pins s σ H R I h
 refine Call_ (gI I hg hm boot_range (PyProof.Rows.callWith_type1 (bG (ha pos pins s σ H _ I h) fun us s1 ⟨vs,H1,I1,r1,q1⟩=>?_) (by rw[hs,oH]) (by rw[oH];rfl)))
 obtain⟨i,j,e,⟨q1,q2,q3,q4⟩,q⟩:=q1
 subst e
 cases r1 with
 |cons r rr=>
  cases rr with
  |cons r' rr=>
   cases rr
   obtain⟨t,rfl⟩:=r
   obtain⟨t',rfl⟩:=r'
   exact call_range_2 (qO I1 q1 q2 q3 q4 q)
def V0(wi:TI)(g:TG)(tb:TS):TS:=fun D σ H=>wi σ H fun J H1=>∃W:Nat→Nat→St→Hp→Prop,(∃m,W 0 m σ H1)∧∀i m σ H,W i m σ H→
 (J.stop i H∧D.nx σ H)∨(J.go i H∧∃N:St→Hp→Prop,(∀σ' H',N σ' H'→∃m',m'<m∧W (i+1) m' σ' H')∧∀x H',J.lO i H x H'→g x σ H' fun σ2 H2=>tb { D with nx:=N,ct:=N,bk:=D.nx } σ2 H2)
def kD(fp:List Addr)(h:Heap):List (Addr×Obj):=fp.filterMap fun b=>(h.get? b).map fun o=>(b,o)
theorem dS{fp:List Addr}{h:Heap}{b:Addr}{o:Obj}(hb:b∈fp)(e:h.get? b=some o):(b,o)∈kD fp h:=List.mem_filterMap.mpr ⟨b,hb,by rw[e];rfl⟩
theorem vW{fp:List Addr}{h:Heap}{p:Addr×Obj}(hp:p∈kD fp h):p.1∈fp∧h.get? p.1=some p.2:=by
 obtain⟨b,hb,e⟩:=List.mem_filterMap.mp hp
 cases q:h.get? b with
 |none=>rw[q] at e;cases e
 |some o=>
  rw[q] at e
  have e':(b,o)=p:=Option.some.inj e
  subst e'
  exact⟨hb,q⟩
theorem Inv.pinned{pins:List (Addr×Obj)}{σ:St}{H:Hp}{s:Shared}{fp:List Addr}(I:Inv X pins σ H s)(hf:∀b∈fp,eN X pins H b)(ho:∀b∈fp,∃o,s.heap.get? b=some o∧∀v,o.data≠ .cell v):Inv X (pins++kD fp s.heap) σ H s:=
 I.pG fun p hp=>(List.mem_append.mp hp).elim (fun z=>I.pin p (List.mem_append_right _ z)) fun z=>by
   obtain⟨hb,e⟩:=vW z
   obtain⟨f0,f1,f2,_⟩:=hf p.1 hb
   obtain⟨o,e',d⟩:=ho p.1 hb
   rw[e] at e';cases e'
   exact⟨e,f0,f1,f2,d⟩
theorem Inv.dI{pins pl:List (Addr×Obj)}{σ:St}{H:Hp}{s:Shared}(I:Inv X (pins++pl) σ H s):Inv X pins σ H s:=I.pG fun p hp=>I.pin p (List.mem_append_right _ (List.mem_append_left _ hp))
theorem cy{iter:Expr}{body:List Stmt}{wi:TI}{g:TG}{tb:TS}{pos:Pos}(hp:PassesOwn (model X.prog X.w) X.A X.env X.xe)(hc:X.calm=true)(hi:PI X tg iter wi)(hg:PG X tg g)(hb:lh X body tb)
  (hs:∀x,foldedSetIterable iter X.env x=pure x:=by intro _;rfl):PS X (.For tg iter body [] pos) (V0 wi g tb):=by
 intro pins s σ H D I h
 refine wpAny_For (bG (hi pins s σ H _ I h) fun v s1 h1=>bG h1 fun Lv s2 h2=>?_) hs
 obtain⟨it,fp,tn,J,H2,e,I2,T,h8,f2,W,⟨m0,w0⟩,turn⟩:=h2
 subst e
 have mM:∀{H':Hp},(∀b∈fp,H' b=none)→∀b∈fp,eN X pins H' b:=fun hn b hb=>⟨hn b hb,(f2 b hb).2⟩
 refine codeAny_forLoop_any (fun n s'=>∃i σ' H',Inv X pins σ' H' s'∧tn i s'.heap∧(∀b∈fp,H' b=none)∧W i n σ' H') ?_ m0 ⟨0,σ,H2,I2,h8,fun b hb=>(f2 b hb).1,w0⟩
 rintro n s3 ⟨i,σ3,H3,I3,yt,Zk,w3⟩
 rcases turn i n σ3 H3 w3 with ⟨stop,qn⟩ | ⟨go,N,hN,step⟩
 ·refine wpAny_passesOwn hp (bG (T.done X rfl rfl rfl hc i pins s3 σ3 H3 X.xe I3 (mM Zk) yt stop) fun r s4 ⟨hr,I4⟩=>?_)
  subst hr
  exact wpAny_execs_nil ⟨σ3,H3,I4,qn⟩
 ·refine wpAny_passesOwn hp (bG (T.item X rfl rfl rfl hc i pins s3 σ3 H3 X.xe I3 (mM Zk) yt go) fun r s4 ⟨u,hr,h4⟩=>?_)
  subst hr
  refine wpAny_passesOwn hp (bG h4 fun _ s5 ⟨x,H5,I5,r5,y5,V1,fr5⟩=>?_)
  have I5':=I5.pinned (mM fr5) (T.obj _ _ V1)
  refine wpAny_passesOwn hp (bG (hg _ s5 σ3 H5 x u _ I5' r5 (step x H5 y5)) fun _ s6 ⟨σ6,H6,I6,q6⟩=>?_)
  refine wpAny_passesOwn hp (bG (hb _ s6 σ6 H6 _ I6 q6) fun f s7 q7=>?_)
  have again:∀{σ7:St} {H7:Hp},Inv X (pins++kD fp s5.heap) σ7 H7 s7→N σ7 H7→∃m,m<n∧∃i σ' H',Inv X pins σ' H' s7∧tn i s7.heap∧(∀b∈fp,H' b=none)∧W i m σ' H':=fun {σ7 H7} I7 n7=>by
   obtain⟨m',hm,w7⟩:=hN σ7 H7 n7
   refine⟨m',hm,i+1,σ7,H7,I7.dI,T.keep _ _ _ V1 fun b hb o e=>(I7.pin (b,o) (List.mem_append_right _ (List.mem_append_right _ (dS hb e)))).1,fun b hb=>?_,w7⟩
   obtain⟨o,e,d⟩:=T.obj _ _ V1 b hb
   exact(I7.pin (b,o) (List.mem_append_right _ (List.mem_append_right _ (dS hb e)))).2.1
  cases f with
  |next=>obtain⟨σ7,H7,I7,n7⟩:=q7;exact again I7 n7
  |cont=>obtain⟨σ7,H7,I7,n7⟩:=q7;exact again I7 n7
  |brk=>obtain⟨σ7,H7,I7,q7⟩:=q7;exact⟨σ7,H7,I7.dI,q7⟩
  |ret v=>obtain⟨x7,σ7,H7,I7,r7,q7⟩:=q7;exact⟨x7,σ7,H7,I7.dI,r7,q7⟩
end
theorem gy{K:PySem.W.Frag}{a:Addr}{xs:List V}{g:TG}{tb:TS}{D:Ends}{σ:St}{H:Hp}(Pv:Nat→St→Hp→Prop)(h0:Pv 0 σ H)(hl:∀i σ H,i≤xs.length→Pv i σ H→aD K H a xs)
  (hs:∀i x σ H,xs[i]? =some x→Pv i σ H→g x σ H fun σ2 H2=>tb { D with nx:=Pv (i+1),ct:=Pv (i+1),bk:=D.nx } σ2 H2) (hd:∀σ H,Pv xs.length σ H→D.nx σ H):
  ∃W:Nat→Nat→St→Hp→Prop,(∃m,W 0 m σ H)∧∀i m σ H,W i m σ H→
   ((uK K a).stop i H∧D.nx σ H)∨((uK K a).go i H∧∃N:St→Hp→Prop,(∀σ' H',N σ' H'→∃m',m'<m∧W (i+1) m' σ' H')∧∀x H',(uK K a).lO i H x H'→g x σ H' fun σ2 H2=>tb { D with nx:=N,ct:=N,bk:=D.nx } σ2 H2):=by
 refine⟨fun i m σ H=>m=xs.length - i∧i≤xs.length∧Pv i σ H,⟨xs.length,by simp,Nat.zero_le _,h0⟩,?_⟩
 rintro i m σ H ⟨rfl,hi,p⟩
 have q:=hl i σ H hi p
 by_cases l9:i<xs.length
 ·refine .inr ⟨⟨xs,xs[i],q,by simp [l9]⟩,Pv (i+1),fun σ' H' p'=>⟨xs.length - (i+1),by omega,rfl,l9,p'⟩,fun x H' y=>?_⟩
  obtain⟨e,y⟩:=y
  subst e
  exact hs i x σ _ (y xs q) p
 ·have e:i=xs.length:=by omega
  subst e
  exact .inl ⟨⟨xs,q,Nat.le_refl _⟩,hd σ H p⟩
theorem cT{lo:Int}{n:Nat}{g:TG}{tb:TS}{D:Ends}{σ:St}{H:Hp}(Pv:Nat→St→Hp→Prop)(h0:Pv 0 σ H)
  (hs:∀i σ H,i<n→Pv i σ H→g (.int (lo+i)) σ H fun σ2 H2=>tb { D with nx:=Pv (i+1),ct:=Pv (i+1),bk:=D.nx } σ2 H2) (hd:∀σ H,Pv n σ H→D.nx σ H):
  ∃W:Nat→Nat→St→Hp→Prop,(∃m,W 0 m σ H)∧∀i m σ H,W i m σ H→
   ((vT lo n).stop i H∧D.nx σ H)∨((vT lo n).go i H∧∃N:St→Hp→Prop,(∀σ' H',N σ' H'→∃m',m'<m∧W (i+1) m' σ' H')∧∀x H',(vT lo n).lO i H x H'→g x σ H' fun σ2 H2=>tb { D with nx:=N,ct:=N,bk:=D.nx } σ2 H2):=by
 refine⟨fun i m σ H=>m=n - i∧i≤n∧Pv i σ H,⟨n,by simp,Nat.zero_le _,h0⟩,?_⟩
 rintro i m σ H ⟨rfl,hi,p⟩
 by_cases l9:i<n
 ·refine .inr ⟨l9,Pv (i+1),fun σ' H' p'=>⟨n - (i+1),by omega,rfl,l9,p'⟩,fun x H' y=>?_⟩
  obtain⟨e,y⟩:=y
  subst e y
  exact hs i σ _ l9 p
 ·have e:i=n:=by omega
  subst e
  exact .inl ⟨Nat.le_refl _,hd σ H p⟩
theorem yu{c:TT}{tb:TS}{D:Ends}{σ:St}{H:Hp}(Pv:St→Hp→Prop)(μ:St→Hp→Nat)(h0:Pv σ H)
  (hs:∀σ H,Pv σ H→c σ H fun b H1=>if b=true then tb { D with nx:=fun σ' H'=>Pv σ' H'∧μ σ' H'<μ σ H,ct:=fun σ' H'=>Pv σ' H'∧μ σ' H'<μ σ H,bk:=D.nx } σ H1 else D.nx σ H1)
  (mono:∀σ H Q Q',(∀b H1,Q b H1→Q' b H1)→c σ H Q→c σ H Q'):yo c tb D σ H:=by
 refine⟨fun m σ H=>m=μ σ H∧Pv σ H,⟨_,rfl,h0⟩,?_⟩
 rintro m σ H ⟨rfl,p⟩
 refine mono σ H _ _ (fun b H1 q=>?_) (hs σ H p)
 cases b with
 |true=>exact⟨_,fun σ' H' ⟨p',l⟩=>⟨_,l,rfl,p'⟩,q⟩
 |false=>exact q
end L2
namespace L2
open PySem PySem.Spec PyProof.Rows
abbrev R2:=V→V→Hp→VK→Prop
def km(X:Cx)(f:Value→Value→Sem Value)(r:R2):Prop:=
 ∀(pins:List (Addr×Obj)) (s:Shared) (σ:St) (H:Hp) (x y:V) (v u:Value) (Q:VK),Inv X pins σ H s→RelV x v→RelV y u→r x y H Q→
  wpAny (model X.prog X.w) X.A (f v u) (EP X pins σ Q) X.xe s
def V2(X:Cx)(f:Value→Sem Value)(r:V→Hp→VK→Prop):Prop:=
 ∀(pins:List (Addr×Obj)) (s:Shared) (σ:St) (H:Hp) (x:V) (v:Value) (Q:VK),Inv X pins σ H s→RelV x v→r x H Q→
  wpAny (model X.prog X.w) X.A (f v) (EP X pins σ Q) X.xe s
def fo(X:Cx)(f:Value)(r:List V→Hp→VK→Prop):Prop:=
 ∀(pins:List (Addr×Obj)) (s:Shared) (σ:St) (H:Hp) (xs:List V) (us:List Value) (Q:VK),Inv X pins σ H s→Vals xs us→r xs H Q→
  wpAny (model X.prog X.w) X.A (call f us) (EP X pins σ Q) X.xe s
def UJ(r:R2)(ta tb:TE):TE:=fun σ H Q=>ta σ H fun x H1=>tb σ H1 fun y H2=>r x y H2 Q
def tUn(r:V→Hp→VK→Prop)(ta:TE):TE:=fun σ H Q=>ta σ H fun x H1=>r x H1 Q
inductive RI(C:Int→Int→Prop)(g:Int→Int→V)(x y:V)(H:Hp)(Q:VK):Prop
 |mk (i j:Int) (e:x= .int i) (f:y= .int j) (c:C i j) (q:Q (g i j) H)
def rI(C:Int→Int→Prop)(g:Int→Int→V):R2:=RI C g
inductive RJ(g:Int→Int→V)(x y:V)(H:Hp)(Q:VK):Prop
 |mk (i j:Int) (e:x= .int i) (f:y= .int j) (q:Q (g i j) H)
def Fc(g:Int→Int→V):R2:=RJ g
def rU(g:Int→V):V→Hp→VK→Prop:=fun x H Q=>∃i,x= .int i∧Q (g i) H
section
variable {X:Cx}{a b c:Expr}{ta tb tc:TE}{pos:Pos}
theorem G4(ha:PE X a ta)(hb:PE X b tb){pins:List (Addr×Obj)}{s:Shared}{σ:St}{H:Hp}{R:V→V→Hp→Prop}(I:Inv X pins σ H s)
  (h:ta σ H fun x H1=>tb σ H1 fun y H2=>R x y H2) {Q:Value→Shared→Prop} {f:Value→Value→Sem Value}
  (hf:∀v u s2 x y H2,Inv X pins σ H2 s2→RelV x v→RelV y u→R x y H2→wpAny (model X.prog X.w) X.A (f v u) Q X.xe s2):
  wpAny (model X.prog X.w) X.A (eval a X.env) (fun v s₁=>wpAny (model X.prog X.w) X.A (eval b X.env) (fun u s₂=>wpAny (model X.prog X.w) X.A (f v u) Q X.xe s₂) X.xe s₁) X.xe s:=by
 refine bG (ha pins s σ H _ I h) fun v s1 ⟨x,H1,I1,r1,q1⟩=>?_
 refine bG (hb pins s1 σ H1 _ I1 q1) fun u s2 ⟨y,H2,I2,r2,q2⟩=>?_
 exact hf v u s2 x y H2 I2 r1 r2 q2
theorem aJ{op:Operator}{r:R2}(ho:km X (binaryOp op) r)(ha:PE X a ta)(hb:PE X b tb):PE X (.BinOp a op b pos) (UJ r ta tb):=by
 intro pins s σ H Q I h
 exact wpAny_BinOp (G4 ha hb I h fun v u s2 x y H2 I2 rx ry q=>ho pins s2 σ H2 x y v u Q I2 rx ry q)
theorem yv{op:UnaryOp}{r:V→Hp→VK→Prop}(ho:V2 X (unaryOp op) r)(ha:PE X a ta):PE X (.UnaryOp op a pos) (tUn r ta):=by
 intro pins s σ H Q I h
 exact UnaryOp_ (bG (ha pins s σ H _ I h) fun v s1 ⟨x,H1,I1,r1,q1⟩=>ho pins s1 σ H1 x v Q I1 r1 q1)
theorem Fd{f:Value→Value→Sem Value}{C:Int→Int→Prop}{g:Int→Int→Int}
  (rule:∀(i j:Int) (t u:Tok) (s:Shared) (Q:Value→Shared→Prop) (E:Value→Shared→Prop),C i j→Q (.int (g i j) s.toks) { s with toks:=s.toks+1 }→wpAny (model X.prog X.w) X.A (f (.int i t) (.int j u)) Q E s):
  km X f (rI C fun i j=> .int (g i j)):=by
 intro pins s σ H x y v u Q I rx ry h
 obtain⟨i,j,rfl,rfl,hc,q⟩:=h
 obtain⟨t,rfl⟩:=rx
 obtain⟨t',rfl⟩:=ry
 exact rule i j t t' s _ _ hc ⟨.int (g i j),H,I.tok _,⟨_,rfl⟩,q⟩
theorem Mj{f:Value→Value→Sem Value}{g:Int→Int→Int}
  (rule:∀(i j:Int) (t u:Tok) (s:Shared) (Q:Value→Shared→Prop) (E:Value→Shared→Prop),Q (.int (g i j) s.toks) { s with toks:=s.toks+1 }→wpAny (model X.prog X.w) X.A (f (.int i t) (.int j u)) Q E s):
  km X f (Fc fun i j=> .int (g i j)):=by
 intro pins s σ H x y v u Q I rx ry h
 obtain⟨i,j,rfl,rfl,q⟩:=h
 obtain⟨t,rfl⟩:=rx
 obtain⟨t',rfl⟩:=ry
 exact rule i j t t' s _ _ ⟨.int (g i j),H,I.tok _,⟨_,rfl⟩,q⟩
theorem Bz{f:Value→Value→Sem Value}{g:Int→Int→Bool}
  (rule:∀(i j:Int) (t u:Tok) (s:Shared) (Q:Value→Shared→Prop) (E:Value→Shared→Prop),Q (.bool (g i j)) s→wpAny (model X.prog X.w) X.A (f (.int i t) (.int j u)) Q E s):
  km X f (Fc fun i j=> .bl (g i j)):=by
 intro pins s σ H x y v u Q I rx ry h
 obtain⟨i,j,rfl,rfl,q⟩:=h
 obtain⟨t,rfl⟩:=rx
 obtain⟨t',rfl⟩:=ry
 exact rule i j t t' s _ _ ⟨.bl (g i j),H,I,rfl,q⟩
def V3(i j:Int):Prop:=0<j∧j<1073741824
def V4(i j:Int):Prop:=0≤j∧j≤1000000∧i.natAbs<2^64
def BA(i j:Int):Prop:=(-(2^64) <i∧i<2^64)∨(-(2^64) <j∧j<2^64)
theorem BA.ok{i j:Int}(h:BA i j):IntMulOk i j:=by
 rcases h with ⟨h1,h2⟩ | ⟨h1,h2⟩
 ·exact .of_left (intBits_le_64 h1 h2)
 ·exact .of_right (intBits_le_64 h1 h2)
theorem fq:km X (binaryOp .Add) (Fc fun i j=> .int (i+j)):=Mj fun _ _ _ _ _ _ _ q=>add_int q
theorem fu:km X (binaryOp .Sub) (Fc fun i j=> .int (i - j)):=Mj fun _ _ _ _ _ _ _ q=>sub_int q
theorem ik:km X (binaryOp .Mult) (rI BA fun i j=> .int (i*j)):=Fd fun _ _ _ _ _ _ _ hc q=>mul_int q hc.ok
theorem ma:km X (binaryOp .FloorDiv) (rI V3 fun i j=> .int (i/j)):=Fd fun i j _ _ _ _ _ hc q=>by
 have h1:(0 :Int) <j:=hc.1
 have h2:j<1073741824:=hc.2
 exact floordiv_int (by omega) (by rw[Int.fdiv_eq_ediv_of_nonneg i (by omega)];exact q) (.inl (PyProof.noPylong_small (by omega)))
theorem dw:km X (binaryOp .Mod) (rI (fun _ j=>0<j) fun i j=> .int (i%j)):=Fd fun i j _ _ _ _ _ hc q=>by
 have h1:(0 :Int) <j:=hc
 exact mod_int' (by omega) (by rw[Int.fmod_eq_emod_of_nonneg i (by omega)];exact q)
theorem BB:km X (binaryOp .Mod) (rI (fun _ j=>j≠0) fun i j=> .int (i.fmod j)):=Fd fun _ _ _ _ _ _ _ hc q=>mod_int' hc q
theorem tq:km X (binaryOp .Pow) (rI V4 fun i j=> .int (i^j.toNat)):=Fd fun _ _ _ _ _ _ _ hc q=>pow_int_small hc.1 hc.2.1 hc.2.2 q
theorem unI{f:Value→Sem Value}{g:Int→Int}
  (rule:∀(i:Int) (t:Tok) (s:Shared) (Q:Value→Shared→Prop) (E:Value→Shared→Prop),Q (.int (g i) s.toks) { s with toks:=s.toks+1 }→wpAny (model X.prog X.w) X.A (f (.int i t)) Q E s):
  V2 X f (rU fun i=> .int (g i)):=by
 intro pins s σ H x v Q I rx h
 obtain⟨i,rfl,q⟩:=h
 obtain⟨t,rfl⟩:=rx
 exact rule i t s _ _ ⟨.int (g i),H,I.tok _,⟨_,rfl⟩,q⟩
theorem tu:V2 X (unaryOp .USub) (rU fun i=> .int (-i)):=unI fun _ _ _ _ _ q=>neg_int q
end
def Ml:V→V→Bool
 | .dE, .dE=>true| .dE, .int _=>true| .int _, .dE=>true| .dE, .bl _=>true| .bl _, .dE=>true| .dE, .str _=>true| .str _, .dE=>true
 | .int _, .int _=>true| .bl _, .bl _=>true| .str _, .str _=>true| .vQ _, .vQ _=>true
 | .int _, .str _=>true| .str _, .int _=>true| .bl _, .str _=>true| .str _, .bl _=>true
 |_,_=>false
def rEq:R2:=fun x y H Q=>Ml x y=true∧Q (.bl (decide (x=y))) H
def rNe:R2:=fun x y H Q=>Ml x y=true∧Q (.bl (!decide (x=y))) H
theorem uL{i j:Int}:decide (V.int i=V.int j)=(i==j):=by
 rw[Bool.eq_iff_iff]
 simp
theorem yw{i j:Bool}:decide (V.bl i=V.bl j)=(i==j):=by
 rw[Bool.eq_iff_iff]
 simp
theorem uM{i j:Str}:decide (V.str i=V.str j)=(i==j):=by
 rw[Bool.eq_iff_iff]
 simp
theorem uN{i j:Array UInt8}:decide (V.vQ i=V.vQ j)=(i.toList==j.toList):=by
 rw[Bool.eq_iff_iff]
 cases i
 cases j
 simp
section
variable {X:Cx}{a b c:Expr}{ta tb tc:TE}{pos:Pos}
theorem bg{pins:List (Addr×Obj)}{σ:St}{H:Hp}{s:Shared}{Q:VK}{k k':Bool}(I:Inv X pins σ H s)(q:Q (.bl k) H)(e:k=k'):EP X pins σ Q (.bool k') s:=by
 subst e
 exact⟨.bl k,H,I,rfl,q⟩
theorem uO:km X (compareOp .Eq) rEq:=by
 intro pins s σ H x y v u Q I rx ry h
 obtain⟨hs,q⟩:=h
 cases x with
 |dE=>
  cases rx
  cases y with
  |dE=>cases ry;exact PySem.EqNone.eq_none_none (bg I q (by simp))
  |bl j=>cases ry;exact PySem.EqNone.eq_none_bool (bg I q (by simp))
  |int j=>obtain⟨t',rfl⟩:=ry;exact PySem.EqNone.eq_none_int (bg I q (by simp))
  |str j=>obtain⟨t',rfl⟩:=ry;exact PySem.EqNone.eq_none_str (bg I q (by simp))
  |_=>exact absurd (show false=true from hs) Bool.false_ne_true
 |bl i=>
  cases rx
  cases y with
  |dE=>cases ry;exact PySem.EqNone.eq_bool_none (bg I q (by simp))
  |bl j=>cases ry;exact eq_bool (bg I q yw)
  |str j=>obtain⟨t',rfl⟩:=ry;exact PySem.EqMixed.eq_bool_str (bg I q (by simp))
  |_=>exact absurd (show false=true from hs) Bool.false_ne_true
 |int i=>
  obtain⟨t,rfl⟩:=rx
  cases y with
  |dE=>cases ry;exact PySem.EqNone.eq_int_none (bg I q (by simp))
  |int j=>obtain⟨t',rfl⟩:=ry;exact eq_int (bg I q uL)
  |str j=>obtain⟨t',rfl⟩:=ry;exact PySem.EqMixed.eq_int_str (bg I q (by simp))
  |_=>exact absurd (show false=true from hs) Bool.false_ne_true
 |str i=>
  obtain⟨t,rfl⟩:=rx
  cases y with
  |dE=>cases ry;exact PySem.EqNone.eq_str_none (bg I q (by simp))
  |bl j=>cases ry;exact PySem.EqMixed.eq_str_bool (bg I q (by simp))
  |int j=>obtain⟨t',rfl⟩:=ry;exact PySem.EqMixed.eq_str_int (bg I q (by simp))
  |str j=>obtain⟨t',rfl⟩:=ry;exact eq_str (bg I q uM)
  |_=>exact absurd (show false=true from hs) Bool.false_ne_true
 |vQ i=>
  obtain⟨t,rfl⟩:=rx
  cases y with
  |vQ j=>obtain⟨t',rfl⟩:=ry;exact PySem.W.eq_bytes (bg I q uN)
  |_=>exact absurd (show false=true from hs) Bool.false_ne_true
 |_=>cases y<;>exact absurd (show false=true from hs) Bool.false_ne_true
theorem qP:km X (compareOp .NotEq) rNe:=by
 intro pins s σ H x y v u Q I rx ry h
 obtain⟨hs,q⟩:=h
 cases x with
 |dE=>
  cases rx
  cases y with
  |dE=>cases ry;exact PySem.EqNone.ne_none_none (bg I q (by simp))
  |bl j=>cases ry;exact PySem.EqNone.ne_none_bool (bg I q (by simp))
  |int j=>obtain⟨t',rfl⟩:=ry;exact PySem.EqNone.ne_none_int (bg I q (by simp))
  |str j=>obtain⟨t',rfl⟩:=ry;exact PySem.EqNone.ne_none_str (bg I q (by simp))
  |_=>exact absurd (show false=true from hs) Bool.false_ne_true
 |bl i=>
  cases rx
  cases y with
  |dE=>cases ry;exact PySem.EqNone.ne_bool_none (bg I q (by simp))
  |bl j=>cases ry;exact ne_bool (bg I q (congrArg not yw))
  |str j=>obtain⟨t',rfl⟩:=ry;exact PySem.EqMixed.ne_bool_str (bg I q (by simp))
  |_=>exact absurd (show false=true from hs) Bool.false_ne_true
 |int i=>
  obtain⟨t,rfl⟩:=rx
  cases y with
  |dE=>cases ry;exact PySem.EqNone.ne_int_none (bg I q (by simp))
  |int j=>obtain⟨t',rfl⟩:=ry;exact ne_int (bg I q (congrArg not uL))
  |str j=>obtain⟨t',rfl⟩:=ry;exact PySem.EqMixed.ne_int_str (bg I q (by simp))
  |_=>exact absurd (show false=true from hs) Bool.false_ne_true
 |str i=>
  obtain⟨t,rfl⟩:=rx
  cases y with
  |dE=>cases ry;exact PySem.EqNone.ne_str_none (bg I q (by simp))
  |bl j=>cases ry;exact PySem.EqMixed.ne_str_bool (bg I q (by simp))
  |int j=>obtain⟨t',rfl⟩:=ry;exact PySem.EqMixed.ne_str_int (bg I q (by simp))
  |str j=>obtain⟨t',rfl⟩:=ry;exact ne_str (bg I q (congrArg not uM))
  |_=>exact absurd (show false=true from hs) Bool.false_ne_true
 |vQ i=>
  obtain⟨t,rfl⟩:=rx
  cases y with
  |vQ j=>obtain⟨t',rfl⟩:=ry;exact PySem.W.ne_bytes (bg I q (congrArg not uN))
  |_=>exact absurd (show false=true from hs) Bool.false_ne_true
 |_=>cases y<;>exact absurd (show false=true from hs) Bool.false_ne_true
theorem uP:km X (compareOp .Lt) (Fc fun i j=> .bl (decide (i<j))):=Bz fun _ _ _ _ _ _ _ q=>lt_int q
theorem yx:km X (compareOp .LtE) (Fc fun i j=> .bl (decide (i≤j))):=Bz fun _ _ _ _ _ _ _ q=>le_int q
theorem Fe:km X (compareOp .Gt) (Fc fun i j=> .bl (decide (j<i))):=Bz fun _ _ _ _ _ _ _ q=>gt_int q
theorem Mm:km X (compareOp .GtE) (Fc fun i j=> .bl (decide (j≤i))):=Bz fun _ _ _ _ _ _ _ q=>ge_int q
theorem cm(b:Expr){op:CmpOp}(h:op≠ .In:=by decide)(h2:op≠ .NotIn:=by decide):behindInMarks op b=false:=by
 have e1:(op==CmpOp.In)=false:=by cases op<;>first|rfl|exact absurd rfl h
 have e2:(op==CmpOp.NotIn)=false:=by cases op<;>first|rfl|exact absurd rfl h2
 cases b<;>simp [behindInMarks,e1,e2]
theorem md{op:CmpOp}{r:R2}(ho:km X (compareOp op) r)(ha:PE X a ta)(hb:PE X b tb)(hm:behindInMarks op b=false):PE X (.Compare a [op] [b] pos) (UJ r ta tb):=by
 intro pins s σ H Q I h
 exact wpAny_Compare1 (G4 ha hb I h fun v u s2 x y H2 I2 rx ry q=>ho pins s2 σ H2 x y v u Q I2 rx ry q) hm
def Ff(t:TE):TT:=fun σ H Q=>t σ H fun x H'=>∃k,x= .bl k∧Q k H'
theorem cg{op:CmpOp}{r:R2}(ho:km X (compareOp op) r)(ha:PE X a ta)(hb:PE X b tb)(hm:behindInMarks op b=false):PT X (.Compare a [op] [b] pos) (Ff (UJ r ta tb)):=by
 intro pins s σ H Q I h
 refine wpAny_isTrue_Compare1 (bG (ha pins s σ H _ I h) fun v s1 ⟨x,H1,I1,r1,q1⟩=>bG (hb pins s1 σ H1 _ I1 q1) fun u s2 ⟨y,H2,I2,r2,q2⟩=>
  bG (ho pins s2 σ H2 x y v u _ I2 r1 r2 q2) fun c s3 ⟨z,H3,I3,r3,k,e,q3⟩=>?_) hm
 subst e
 cases r3
 exact wpAny_truthy_bool ⟨H3,I3,q3⟩
def G5(r r':R2)(ta tb tc:TE):TE:=fun σ H Q=>ta σ H fun x H1=>tb σ H1 fun y H2=>r x y H2 fun z H3=>∃k,z= .bl k∧
 (if k=true then tc σ H3 fun w' H4=>r' y w' H4 Q else Q (.bl false) H3)
theorem yy{op V5:CmpOp}{r r':R2}(ho:km X (compareOp op) r)(Bt:km X (compareOp V5) r')(ha:PE X a ta)(hb:PE X b tb)(hc:PE X c tc)
  (hm:lastMarks [op,V5] [b,c]=false:=by with_unfolding_all rfl):PT X (.Compare a [op,V5] [b,c] pos) (Ff (G5 r r' ta tb tc)):=by
 intro pins s σ H Q I h
 refine isTrue_chain (bG (ha pins s σ H _ I h) fun v s1 ⟨x,H1,I1,r1,q1⟩=>test_link (bG (hb pins s1 σ H1 _ I1 q1) fun u s2 ⟨y,H2,I2,r2,q2⟩=>
  bG (ho pins s2 σ H2 x y v u _ I2 r1 r2 q2) fun d s3 ⟨z,H3,I3,r3,k,e,q3⟩=>?_)) hm
 subst e
 cases r3
 refine wpAny_truthy_bool ?_
 cases k with
 |false=>
  obtain⟨k',e',q'⟩:=q3
  cases e'
  exact ite_ff ⟨H3,I3,q'⟩
 |true=>
  refine ite_tt (test_last (bG (hc pins s3 σ H3 _ I3 q3) fun w' s4 ⟨z',H4,I4,r4,q4⟩=>bG (Bt pins s4 σ H4 y z' u w' _ I4 r2 r4 q4) fun d' s5 ⟨z2,H5,I5,r5,k2,e2,q5⟩=>?_))
  subst e2
  cases r5
  exact wpAny_truthy_bool ⟨H5,I5,q5⟩
theorem pH:(sizeLine:Nat) <2^63:=by rw[sizeLine_eq];decide
theorem vals1{x:V}{us:List Value}(r:Vals [x] us):∃u,us=[u]∧RelV x u:=by
 cases r with
 |cons r1 r2=>cases r2;exact⟨_,rfl,r1⟩
theorem vals2{x y:V}{us:List Value}(r:Vals [x,y] us):∃u w',us=[u,w']∧RelV x u∧RelV y w':=by
 cases r with
 |cons r1 r2=>
  cases r2 with
  |cons r3 r4=>cases r4;exact⟨_,_,rfl,r1,r3⟩
theorem yz:fo X (.builtin "abs") (fun xs H Q=>∃i,xs=[.int i]∧Q (.int (if i<0 then -i else i)) H):=by
 intro pins s σ H xs us Q I r h
 obtain⟨i,rfl,q⟩:=h
 obtain⟨u,rfl,t,rfl⟩:=vals1 r
 exact call_abs_int fun u tk=>⟨.int (if i<0 then -i else i),H,I.tok _,⟨_,rfl⟩,q⟩
end
end L2
namespace L2
open PySem PySem.Spec PyProof.Rows
structure tw(h:Heap)(x dx C:Addr)(mA:Str→Option Value):Prop where
 obj:h.get? x=some (PySem.W.instObj C dx)
 ns:h.Ns1 dx mA
 ne:dx≠x
theorem oI{h:Heap}{dx:Addr}{mA:Str→Option Value}(n:h.Ns1 dx mA):∃od,h.get? dx=some od∧∀name,PySem.W.lookIn name od=some (mA name):=by
 obtain⟨o,es,ep,ho,hd,hk,_,hm⟩:=n
 refine⟨o,ho,fun name=>?_⟩
 have e:=hm name
 unfold nsFind findBy at e
 rw[←Array.find?_toList] at e
 unfold PySem.W.lookIn
 rw[hd]
 dsimp only
 split
 ·rename_i y q
  rw[q] at e
  exact congrArg some e
 ·rename_i q
  rw[q] at e
  have a:es.toList.any (·.refKey)=false:=by
   rw[List.any_eq_false]
   intro y hy
   obtain⟨z,t,V6⟩:=hk y (Array.mem_toList_iff.mp hy)
   simp [DictEntry.refKey,V6]
  have a':¬es.toList.any (·.refKey)=true:=by rw[a];exact Bool.false_ne_true
  rw[if_neg a']
  exact congrArg some e
theorem tw.look{h:Heap}{x dx C:Addr}{mA:Str→Option Value}(I:tw h x dx C mA):∃od,PySem.W.InstAt h x (PySem.W.instObj C dx) C (some od)∧∀name,PySem.W.lookIn name od=some (mA name):=
 let ⟨od,ho,hl⟩:=oI I.ns
 ⟨od,⟨I.obj,rfl,rfl,ho⟩,hl⟩
section
variable {prog:Program}{w:World}{A:Around}{E:Value→Shared→Prop}{s:Shared}{K:PySem.W.Frag}{x dx C f:Addr}{mA:Str→Option Value}{name:Str}{v:Value}
theorem get_map{expr:Bool}{Q:Value→Shared→Prop}(X:K.In s.heap)(I:tw s.heap x dx C mA)(hg:PySem.W.plainGet K C name=true)(hh:PySem.W.hasDictIn K C=true)
  (ha:PySem.W.findIn K (.ref C) name=some none) (hv:mA name=some v) (G6:PySem.W.handedIn v=true) (h:Q v { s with toks:=s.toks+1 }):
  wpAny (model prog w) A (getAttr (.ref x) name expr) Q E s:=by
 obtain⟨od,J,hl⟩:=I.look
 exact PySem.W.get_value X J (PySem.W.plainGet_of hg).1 (PySem.W.findObj_own hh ha rfl (by rw[hl,hv])) G6 h
theorem yA{pl:Sem Bool}{Q:Value×List Value→Shared→Prop}(X:K.In s.heap)(I:tw s.heap x dx C mA)(hg:PySem.W.plainGet K C name=true)
  (hf:PySem.W.findIn K (.ref C) name=some (some (.ref f))) (ht:PySem.W.isFn K (.ref f)=true) (hv:mA name=none) (h:Q (.ref f,[.ref x]) s):
  wpAny (model prog w) A (getMethod (.ref x) name pl) Q E s:=by
 obtain⟨od,J,hl⟩:=I.look
 exact PySem.W.method_fn X J (PySem.W.plainGet_of hg).1 (PySem.W.plainGet_of hg).2 hf (beq_iff_eq.mp ht) (by show (PySem.W.lookIn name od).map (·.isSome)=some false;rw[hl,hv];rfl) h
theorem BC{ns:List Str}{Q:Unit→Shared→Prop}(X:K.In s.heap)(I:tw s.heap x dx C mA)
  (hs:PySem.W.findIn K (.ref C) "__setattr__" =some (some (.builtin "object.__setattr__"))) (hp:PySem.W.plainOver K C=true) (ht:PySem.W.takerIn K C name=some none) (hh:PySem.W.hasDictIn K C=true)
  (hw:PySem.Within mA ns) (pI:ns.length≤sizeLine)
  (h:∀h',tw h' x dx C (fun y=>if y=name then some v else mA y)→Heap.SameBut dx s.heap h'→Q () { s with heap:=h',toks:=s.toks+2 }):
  wpAny (model prog w) A (setAttr (.ref x) name v) Q E s:=by
 obtain⟨od,J,hl⟩:=I.look
 refine PySem.W.set_plain X J hs (PySem.W.osa_open (s:={ s with toks:=s.toks+1 }) (r:=none) X J hp ht fun b=>?_)
 obtain⟨cd,hc,Ls⟩:=PySem.W.any_some hh
 have hx:s.heap.get? x=some ⟨.ref C,some dx, .plain,#[]⟩:=I.obj
 refine wpAny_bind (wpAny_pure (wpAny_bind (wpAny_bind (wpAny_loadPart hx (wpAny_bind (PySem.W.Looks.here (s:={ s with toks:=s.toks+1 }) (PySem.W.looks_clsIn X hc) ?_))))))
 rw[Ls]
 refine wpAny_pure (a:=some dx) (wpAny_bind (wpAny_pure (wpAny_bind ?_)))
 refine wpAny_nsSet1 (s:={ s with toks:=s.toks+1 }) I.ns fun h' BD oH=>?_
 obtain⟨oD,esD,epD,hoD,hdD,BE⟩:=BD.count (PySem.Within.cons name v hw)
 refine wpAny_bind (wpAny_lookBehind hoD (by rw[hdD];exact pastItsLine_dict (Nat.le_trans BE (by rw[List.length_cons];omega))) ?_)
 exact wpAny_pure (h _ ⟨(oH.2 _ (Ne.symm I.ne)).trans I.obj,BD,I.ne⟩ oH)
theorem yB{R:Result→Shared→Prop}{vs:List Value}{kw:List (Str×Value)}(X:K.In s.heap)(hm:PySem.W.makesIn K C=true)
  (hi:PySem.W.findIn K (.ref C) "__init__" =some (some (.ref f))) (hf:PySem.W.typeIn K (.ref f)=some (.type "function"))
  (h:codeAny (model prog w) (A.under (.builtin "type.__call__" ⟨.ref C::vs,kw⟩)) (.call (.ref f) ⟨.ref (s.heap.objs.size+1)::vs,kw⟩) (PySem.W.InitBack (s.heap.objs.size+1) R)
   { s with heap:=(s.heap.push PySem.W.emptyDict).push (PySem.W.instObj C s.heap.objs.size) }):
  codeAny (model prog w) A (.call (.ref C) ⟨vs,kw⟩) R s:=by
 obtain⟨hh,g,d,t,os⟩:=s
 exact PySem.W.make_core (PySem.W.makes_of X hm) (PySem.W.looks_findIn X hi) (fun self=>PySem.W.bind_fn X self hf) (.inl rfl) h
end
def aE(f:Str)(v:V):List (Str×V)→List (Str×V)
 | []=>[(f,v)]
 | (g,x)::r=>if g=f then (g,v)::r else (g,x)::aE f v r
theorem au(f g:Str)(v:V):∀fs:List (Str×V),(aE f v fs).lookup g=if g=f then some v else fs.lookup g
 | []=>by
   show List.lookup g [(f,v)]=_
   by_cases h:g=f
   ·have hb:(g==f)=true:=beq_iff_eq.mpr h
    simp only [List.lookup,hb,if_pos h]
   ·have hb:(g==f)=false:=beq_eq_false_iff_ne.mpr h
    simp only [List.lookup,hb,if_neg h]
 | (k,x)::r=>by
   have ih:=au f g v r
   rw[show aE f v ((k,x)::r)=(if k=f then (k,v)::r else (k,x)::aE f v r) from rfl]
   by_cases hk:k=f
   ·rw[if_pos hk]
    by_cases h:g=k
    ·have hb:(g==k)=true:=beq_iff_eq.mpr h
     simp only [List.lookup,hb,if_pos (h.trans hk)]
    ·have hb:(g==k)=false:=beq_eq_false_iff_ne.mpr h
     simp only [List.lookup,hb,if_neg (fun e:g=f=>h (e.trans hk.symm))]
   ·rw[if_neg hk]
    by_cases h:g=k
    ·have hb:(g==k)=true:=beq_iff_eq.mpr h
     simp only [List.lookup,hb,if_neg (fun e:g=f=>hk (h.symm.trans e))]
    ·have hb:(g==k)=false:=beq_eq_false_iff_ne.mpr h
     simp only [List.lookup,hb]
     exact ih
theorem kE(f:Str)(v:V):∀fs:List (Str×V),f∈(aE f v fs).map (·.1)∧∀g,g∈fs.map (·.1)→g∈(aE f v fs).map (·.1)
 | []=>⟨by simp [aE],fun g h=>by simp at h⟩
 | (k,x)::r=>by
   obtain⟨i1,i2⟩:=kE f v r
   rw[show aE f v ((k,x)::r)=(if k=f then (k,v)::r else (k,x)::aE f v r) from rfl]
   by_cases hk:k=f
   ·rw[if_pos hk]
    subst hk
    exact⟨by simp,fun g h=>by simpa using h⟩
   ·rw[if_neg hk]
    refine⟨?_,fun g h=>?_⟩
    ·rw[List.map_cons]
     exact List.mem_cons_of_mem _ i1
    ·rw[List.map_cons] at h ⊢
     rcases List.mem_cons.mp h with e|e
     ·exact List.mem_cons.mpr (.inl e)
     ·exact List.mem_cons_of_mem _ (i2 g e)
theorem b6(f:Str)(v:V):∀fs:List (Str×V),(aE f v fs).length≤fs.length+1
 | []=>by simp [aE]
 | (k,x)::r=>by
   have ih:=b6 f v r
   rw[show aE f v ((k,x)::r)=(if k=f then (k,v)::r else (k,x)::aE f v r) from rfl]
   by_cases hk:k=f
   ·rw[if_pos hk,List.length_cons,List.length_cons];omega
   ·rw[if_neg hk,List.length_cons,List.length_cons];omega
theorem lM.some_of{v:V}{o:Option Value}(r:lM (some v) o):∃u,o=some u∧RelV v u:=by
 cases o with
 |none=>exact(show False from r).elim
 |some u=>exact⟨u,rfl,r⟩
theorem lM.none_of{o:Option Value}(r:lM none o):o=none:=by
 cases o with
 |none=>rfl
 |some u=>exact(show False from r).elim
theorem vX{v:V}{u:Value}(r:RelV v u):PySem.W.handedIn u=true:=by
 cases v with
 |dE=>cases (show u=Value.none from r);rfl
 |bl b=>cases (show u=Value.bool b from r);rfl
 |int i=>obtain⟨t,e⟩:=(show∃t,u=Value.int i t from r);cases e;rfl
 |str x=>obtain⟨t,e⟩:=(show∃t,u=Value.str x t from r);cases e;rfl
 |vQ b=>obtain⟨t,e⟩:=(show∃t,u=Value.bytes b t from r);cases e;rfl
 |sR b=>obtain⟨t,e⟩:=(show∃t,u=Value.float b t from r);cases e;rfl
 |ref a=>cases (show u=Value.ref a from r);rfl
 |ty n=>cases (show u=Value.type n from r);rfl
section
variable {P:Program}{w:World}{H H':Hp}{h h':Heap}{a C dx:Addr}{fs x':List (Str×V)}
theorem me(bH:jF P w H h)(e:H a=some (.ins C dx fs)):∃mA,tw h a dx C mA∧(∀f,lM (fs.lookup f) (mA f))∧PySem.Within mA (fs.map (·.1))∧fs.length≤1000∧H dx=some (.own a):=by
 obtain⟨d,z,ne,ob,mA,n,r,q⟩:=(show cY P w H h a (.ins C dx fs) from bH a _ e)
 exact⟨mA,⟨ob,n,ne⟩,r,q,z,d⟩
end
structure vY(K:PySem.W.Frag)(C:Addr):Prop where
 pg:PySem.W.plainGet K C Str.empty=true
 hd:PySem.W.hasDictIn K C=true
 po:PySem.W.plainOver K C=true
 sa:PySem.W.findIn K (.ref C) "__setattr__" =some (some (.builtin "object.__setattr__"))
theorem vY.get{K:PySem.W.Frag}{C:Addr}(c:vY K C)(f:Str):PySem.W.plainGet K C f=true:=c.pg
def cO(K:PySem.W.Frag)(C:Addr)(f:Str):Prop:=PySem.W.findIn K (.ref C) f=some none
theorem cO.Mn{K:PySem.W.Frag}{C:Addr}{f:Str}(n:cO K C f):PySem.W.takerIn K C f=some none:=by
 unfold PySem.W.takerIn
 rw[show PySem.W.findIn K (.ref C) f=some none from n]
 rfl
structure Meth(K:PySem.W.Frag)(C:Addr)(m:Str)(f:Addr):Prop where
 at_:PySem.W.findIn K (.ref C) m=some (some (.ref f))
 fn:PySem.W.isFn K (.ref f)=true
 kp:PySem.W.keepIn K (.ref f)=true
section
variable {X:Cx}{pins:List (Addr×Obj)}{σ:St}{H:Hp}{s:Shared}{a C dx:Addr}{fs:List (Str×V)}{f:Str}{v:V}{A:Around}{E:Value→Shared→Prop}
theorem tD{b:Bool}{Q:Value→Shared→Prop}(I:Inv X pins σ H s)(e:H a=some (.ins C dx fs))(c:vY X.K C)(n:cO X.K C f)(l:fs.lookup f=some v)
  (h:∀u s',Inv X pins σ H s'→RelV v u→Q u s'):wpAny (model X.prog X.w) A (getAttr (.ref a) f b) Q E s:=by
 obtain⟨mA,O,r,_,_,_⟩:=me I.bH e
 obtain⟨u,hu,ru⟩:=lM.some_of (v:=v) (o:=mA f) (by rw[←l];exact r f)
 exact get_map I.hZ O (c.get f) c.hd n hu (vX ru) (h u _ (I.tok _) ru)
theorem mN{m:Str}{g:Addr}{pl:Sem Bool}{Q:Value×List Value→Shared→Prop}(I:Inv X pins σ H s)(e:H a=some (.ins C dx fs))(c:vY X.K C)(k:Meth X.K C m g)(l:fs.lookup m=none)
  (h:Q (.ref g,[.ref a]) s):wpAny (model X.prog X.w) A (getMethod (.ref a) m pl) Q E s:=by
 obtain⟨mA,O,r,_,_,_⟩:=me I.bH e
 have hn:mA m=none:=lM.none_of (by rw[←l];exact r m)
 exact yA I.hZ O (c.get m) k.at_ k.fn hn h
theorem tE{y:V}{u:Value}{Q:Unit→Shared→Prop}(I:Inv X pins σ H s)(e:H a=some (.ins C dx fs))(c:vY X.K C)(n:cO X.K C f)(hl:fs.length<1000)(ry:RelV y u)
  (h:∀s',Inv X pins σ (upd H a (.ins C dx (aE f y fs))) s'→Q () s'):wpAny (model X.prog X.w) A (setAttr (.ref a) f u) Q E s:=by
 obtain⟨mA,O,r,wi,_,ho⟩:=me I.bH e
 have hz:(fs.map (·.1)).length≤sizeLine:=by rw[List.length_map,sizeLine_eq];omega
 refine BC I.hZ O c.sa c.po n.Mn c.hd wi hz fun h' O' sb=>h _ ?_
 have hd:∃o,h'.get? dx=some o:=let ⟨o,_,_,e',_⟩:=O'.ns;⟨o,e'⟩
 refine I.write (x:=a) (e:=dx) (by rw[e];exact True.intro) (.inr ho) (fun b q hb z=>(sb.2 b hb).trans z) hd ?_
 refine⟨by rw[aq O.ne];exact ho,?_,O.ne,O'.obj,_,O'.ns,fun g=>?_,fun g hg=>?_⟩
 ·have:=b6 f y fs;omega
 ·show lM ((aE f y fs).lookup g) (if g=f then some u else mA g)
  rw[au]
  by_cases q:g=f
  ·rw[if_pos q,if_pos q];exact ry
  ·rw[if_neg q,if_neg q];exact r g
 ·by_cases q:g=f
  ·rw[q];exact(kE f y fs).1
  ·refine(kE f y fs).2 g (wi g fun z=>hg ?_)
   show (if g=f then some u else mA g)=none
   rw[if_neg q];exact z
theorem Inv.made(I:Inv X pins σ H s):Inv X pins σ (upd (upd H s.heap.objs.size (.own (s.heap.objs.size+1))) (s.heap.objs.size+1) (.ins C s.heap.objs.size []))
  { s with heap:=(s.heap.push PySem.W.emptyDict).push (PySem.W.instObj C s.heap.objs.size) }:=by
 have e1:(s.heap.push PySem.W.emptyDict).get? s.heap.objs.size=some PySem.W.emptyDict:=Heap.get?_push_size s.heap rfl
 have e2:((s.heap.push PySem.W.emptyDict).push (PySem.W.instObj C s.heap.objs.size)).get? (s.heap.objs.size+1)=some (PySem.W.instObj C s.heap.objs.size):=by
  have:=Heap.get?_push_size (s.heap.push PySem.W.emptyDict) (o:=PySem.W.instObj C s.heap.objs.size) rfl
  rwa [Heap.size_push] at this
 have e3:(s.heap.push PySem.W.emptyDict).Ns s.heap.objs.size (fun _=>none):=⟨PySem.W.emptyDict,#[],_,e1,rfl,(fun e he=>absurd he (by simp)),fun _=>rfl⟩
 have I1:=I.laid (a:=s.heap.objs.size) (o:= .own (s.heap.objs.size+1)) (h':=s.heap.push PySem.W.emptyDict) (t':=s.toks) (fun b u q=>Heap.get?_push_of_some _ q) (Nat.le_refl _) ⟨_,e1⟩
 refine I1.laid (a:=s.heap.objs.size+1) (o:= .ins C s.heap.objs.size []) (t':=s.toks) (fun b u q=>Heap.get?_push_of_some _ q) (Nat.le_of_eq (Heap.size_push _ _)) ?_
 have ne:s.heap.objs.size≠s.heap.objs.size+1:=Nat.ne_of_lt (Nat.lt_succ_self _)
 refine⟨by rw[aq ne,af],Nat.zero_le _,ne,e2,fun _=>none,(Heap.Ns1.of_empty e3).at fun o q=>Heap.get?_push_of_some _ q,fun _=>True.intro,fun y hy=>absurd rfl hy⟩
theorem BF{prog:Program}{w:World}{env:Env}{e:Expr}{f:Str}{pos:Pos}{s:Shared}{Q:Value→Shared→Prop}(hb:attributeBase e f env (eval e env)=eval e env)
  (h:wpAny (model prog w) A (eval e env) (fun o s₁=>wpAny (model prog w) A (getAttr o f true) Q E s₁) E s):wpAny (model prog w) A (eval (.Attribute e f pos) env) Q E s:=
 Attribute_any_ h (by rw[arm_eval_Attribute,hb])
end
def Mo(K:PySem.W.Frag)(ta:TE)(f:Str):TE:=fun σ H Q=>ta σ H fun x H1=>∃a C dx fs v,x= .ref a∧H1 a=some (.ins C dx fs)∧vY K C∧cO K C f∧fs.lookup f=some v∧Q v H1
def V7(K:PySem.W.Frag)(ta tv:TE)(f:Str):TS:=fun D σ H=>tv σ H fun y H1=>ta σ H1 fun x H2=>∃a C dx fs,x= .ref a∧H2 a=some (.ins C dx fs)∧vY K C∧cO K C f∧fs.length<1000∧
 D.nx σ (upd H2 a (.ins C dx (aE f y fs)))
section
variable {X:Cx}{o e value:Expr}{f:Str}{pos pos' kB:Pos}{ta tv:TE}
theorem cn(he:PE X e ta)(hb:attributeBase e f X.env (eval e X.env)=eval e X.env):PE X (.Attribute e f pos) (Mo X.K ta f):=by
 intro pins s σ H Q I h
 refine BF hb (bG (he pins s σ H _ I h) fun u s1 ⟨x,H1,I1,rx,a,C,dx,fs,v,ex,ea,c,n,l,q⟩=>?_)
 subst ex
 obtain rfl:u=Value.ref a:=rx
 exact tD I1 ea c n l fun u' s2 I2 ru=>⟨v,H1,I2,ru,q⟩
theorem dU(ha:PE X o ta)(hv:PE X value tv)(hs:swapsWith value (some (.Attribute o f pos')) pos.line X.env=pure false):PS X (.Assign [.Attribute o f pos'] value pos) (V7 X.K ta tv f):=by
 intro pins s σ H D I h
 refine plainObj_wpAny_Assign_Attribute (bG (hv pins s σ H _ I h) fun u s1 ⟨y,H1,I1,ry,q⟩=>bG (ha pins s1 σ H1 _ I1 q) fun ov s2 ⟨x,H2,I2,rx,a,C,dx,fs,ex,ea,c,n,l,q2⟩=>?_) hs
 subst ex
 obtain rfl:ov=Value.ref a:=rx
 exact tE I2 ea c n l ry fun s3 I3=>⟨σ,_,I3,q2⟩
end
section
variable {X:Cx}{pins:List (Addr×Obj)}{σ:St}{H:Hp}{s:Shared}{A:Around}{E:Value→Shared→Prop}{Q:Value→Shared→Prop}{c:Value}{b:Bool}
inductive kF(K:PySem.W.Frag)(H:Hp):V→Value→Prop where
 |dE:kF K H .dE (.type "NoneType")
 |bl (x:Bool):kF K H (.bl x) (.type "bool")
 |int (i:Int):kF K H (.int i) (.type "int")
 |str (x:Str):kF K H (.str x) (.type "str")
 |sR (x:UInt64):kF K H (.sR x) (.type "float")
 |lst {a:Addr} {xs:List V} (e:H a=some (.lst xs)):kF K H (.ref a) (.type "list")
 |uI {a:Addr} {o:Obj} {xs:List V} (e:H a=some (.uI o (.lst xs))):kF K H (.ref a) (.type "list")
 |tup {a:Addr} {xs:List V} (e:H a=some (.tup xs)):kF K H (.ref a) (.type "tuple")
 |dK {a:Addr} {jE:List (Key×V)} (e:H a=some (.dK jE)):kF K H (.ref a) (.type "dict")
 |dT {a:Addr} {jE:List (List Key×V)} (e:H a=some (.dT jE)):kF K H (.ref a) (.type "dict")
 |ins {a C dx:Addr} {fs:List (Str×V)} (e:H a=some (.ins C dx fs)) (cl:vY K C) (ha:PySem.W.findIn K (.ref C) "__class__" =some (some (.builtin "object.__class__")))
   (hn:PySem.W.specialIn K (.builtin "object.__class__") "__get__" =some (some (.builtin "getset_descriptor.__get__"))) (UK:PySem.W.takesIn K (.builtin "object.__class__")=some true)
   (hm:PySem.W.mroIn K C (.type "object")=some true):kF K H (.ref a) (.ref C)
theorem vZ{x:V}{u t:Value}(I:Inv X pins σ H s)(rx:RelV x u)(ty:kF X.K H x t)(e:PySem.W.kitOne X.K t c=some b)(h:∀tk,Q (.bool b) { s with toks:=tk }):
  wpAny (model X.prog X.w) A (call (.builtin "isinstance") [u,c]) Q E s:=by
 cases ty with
 |dE=>cases (show u=Value.none from rx);exact PySem.W.kia_one PySem.W.kitx_none I.hZ True.intro e (fun z=>nomatch z) h
 |bl y=>cases (show u=Value.bool y from rx);exact PySem.W.kia_one PySem.W.kitx_bool I.hZ True.intro e (fun z=>nomatch z) h
 |int i=>obtain⟨t,q⟩:=(show∃t,u=Value.int i t from rx);cases q;exact PySem.W.kia_one PySem.W.kitx_int I.hZ True.intro e (fun z=>nomatch z) h
 |str y=>obtain⟨t,q⟩:=(show∃t,u=Value.str y t from rx);cases q;exact PySem.W.kia_one PySem.W.kitx_str I.hZ True.intro e (fun z=>nomatch z) h
 |sR y=>obtain⟨t,q⟩:=(show∃t,u=Value.float y t from rx);cases q;exact PySem.W.kia_one PySem.W.kitx_float I.hZ True.intro e (fun z=>nomatch z) h
 | @lst a xs ea=>
   cases (show u=Value.ref a from rx)
   obtain⟨_,_,n,_,h1⟩:=(show cY X.prog X.w H s.heap a (.lst xs) from I.bH a _ ea)
   exact PySem.W.kia_one PySem.W.kitx_list I.hZ ⟨_,h1,rfl⟩ e (fun z=>nomatch z) h
 | @uI a ob xs ea=>
   cases (show u=Value.ref a from rx)
   obtain⟨_,_,_,n,_,h1⟩:=(show cY X.prog X.w H s.heap a (.uI ob (.lst xs)) from I.bH a _ ea)
   exact PySem.W.kia_one PySem.W.kitx_list I.hZ ⟨_,h1,rfl⟩ e (fun z=>nomatch z) h
 | @tup a xs ea=>
   cases (show u=Value.ref a from rx)
   obtain⟨_,_,_,p⟩:=(show cY X.prog X.w H s.heap a (.tup xs) from I.bH a _ ea)
   obtain⟨o,h1,h2,_⟩:=p
   exact PySem.W.kia_one PySem.W.kitx_tuple I.hZ ⟨o,h1,h2⟩ e (fun z=>nomatch z) h
 | @dK a jE ea=>
   cases (show u=Value.ref a from rx)
   obtain⟨_,_,vs,_,p⟩:=(show cY X.prog X.w H s.heap a (.dK jE) from I.bH a _ ea)
   obtain⟨o,es,ep,h1,h2,_⟩:=p
   exact PySem.W.kia_one PySem.W.kitx_dict I.hZ ⟨o,h1,h2.1⟩ e (fun z=>nomatch z) h
 | @dT a jE ea=>
   cases (show u=Value.ref a from rx)
   obtain⟨_,_,xs,_,o,es,ep,h1,h2,_⟩:=(show cY X.prog X.w H s.heap a (.dT jE) from I.bH a _ ea)
   exact PySem.W.kia_one PySem.W.kitx_dict I.hZ ⟨o,h1,h2.1⟩ e (fun z=>nomatch z) h
 | @ins a C dx fs ea cl ha hn UK hm=>
   cases (show u=Value.ref a from rx)
   obtain⟨mA,O,_⟩:=me I.bH ea
   obtain⟨od,J,_⟩:=O.look
   exact PySem.W.kia_one (PySem.W.kitx_own (cl.get _) cl.hd ha hn UK hm) I.hZ J e (fun z=>nomatch z) h
end
end L2
namespace L2
open PySem PySem.Spec PyProof.Rows
structure cN(k:Nat)(A:Around):Prop where
 hd:A.handled=none
 dp:A.depth+3*k+5<recursionLimit
 un:A.units+16*k+200<cLine
theorem cN.mono{j k:Nat}{A:Around}(r:cN k A)(h:j≤k):cN j A:=⟨r.hd,by have:=r.dp;omega,by have:=r.un;omega⟩
theorem cN.deeper{k:Nat}{A:Around}(r:cN (k+1) A)(env:Env):cN k (A.deeper env):=
 ⟨r.hd,by have:=r.dp;show A.depth+1+3*k+5<_;omega,by have:=r.un;show A.units+3+16*k+200<_;omega⟩
theorem tF{A:Around}{C:Addr}{us:List Value}{kw:List (Str×Value)}:(A.under (.builtin "type.__call__" ⟨.ref C::us,kw⟩)).depth=A.depth+1:=by
 first|rfl|simp [Around.under,Code.weight,Code.isCreation,Code.isGuard,Code.isCaller,Code.frames,Code.isFrame,guardIds]
theorem tG{A:Around}{C:Addr}{us:List Value}{kw:List (Str×Value)}:(A.under (.builtin "type.__call__" ⟨.ref C::us,kw⟩)).units=A.units+1:=by
 first|rfl|simp [Around.under,Code.cUnits,Code.frames,Code.isFrame]
theorem cN.make{k:Nat}{A:Around}(r:cN (k+1) A)(C:Addr)(us:List Value)(kw:List (Str×Value)):cN k (A.under (.builtin "type.__call__" ⟨.ref C::us,kw⟩)):=
 ⟨r.hd,by have:=r.dp;rw[tF];omega,by have:=r.un;rw[tG];omega⟩
theorem cN.depth{k:Nat}{A:Around}(r:cN k A):A.depth<recursionLimit:=by have:=r.dp;omega
theorem cN.units{k:Nat}{A:Around}(r:cN k A):A.units+64<cLine:=by have:=r.un;omega
def BG:TA:=fun _ H Q=>Q [] H
def Mp(ta:TE)(tr:TA):TA:=fun σ H Q=>ta σ H fun x H1=>tr σ H1 fun xs H2=>Q (x::xs) H2
section
variable {X:Cx}{e:Expr}{es:List Expr}{te:TE}{t:TA}{pos:Pos}
theorem ai:PA X [] BG:=fun _ _ _ _ H Q I h=>Calls.spliced_nil ⟨[],H,I, .nil,h⟩
theorem aa(ha:PE X e te)(hr:PA X es t)(hs:starEach (e::es) X.env=(false,eval e X.env)::starEach es X.env:=by rfl):PA X (e::es) (Mp te t):=by
 intro pos pins s σ H Q I h
 rw[hs]
 show wpAny _ _ (spliced ((false,eval e X.env)::backTo pos (starEach es X.env))) _ _ s
 refine Calls.spliced_cons (bG (ha pins s σ H _ I h) fun u s1 ⟨x,H1,I1,r1,q1⟩=>?_)
 exact bG (hr pos pins s1 σ H1 _ I1 q1) fun us s2 ⟨xs,H2,I2,r2,q2⟩=>⟨x::xs,H2,I2, .cons r1 r2,q2⟩
def V8(t:TA):TE:=fun σ H Q=>t σ H fun xs H1=>xs.length≤sizeLine∧∀p,H1 p=none→Q (.ref p) (upd H1 p (.tup xs))
def V9(t:TA):TE:=fun σ H Q=>t σ H fun xs H1=>xs.length≤sizeLine∧∀p,H1 p=none→Q (.ref p) (upd H1 p (.lst xs))
theorem yC{x1}(h:PA X es t):PE X (.Tuple es x1 pos) (V8 t):=by
 intro pins s σ H Q I hq
 refine wpAny_Tuple_spliced (bG (h pos pins s σ H _ I hq) fun us s1 ⟨xs,H1,I1,r,z,q⟩=>⟨by rw[←r.length];exact z,?_⟩)
 have hf:H1 s1.heap.objs.size=none:=I1.bH.fresh (Nat.le_refl _)
 refine⟨.ref s1.heap.objs.size,upd H1 s1.heap.objs.size (.tup xs),I1.laid (t':=s1.toks) (fun b u e=>Heap.get?_push_of_some _ e) (Nat.le_refl _) ?_,rfl,q _ hf⟩
 exact⟨z,us,r,⟨_,Heap.get?_push_size _ rfl,rfl,_,rfl⟩⟩
theorem bq(h:PA X es t):PE X (.List es pos) (V9 t):=by
 intro pins s σ H Q I hq
 refine wpAny_List_spliced (bG (h pos pins s σ H _ I hq) fun us s1 ⟨xs,H1,I1,r,z,q⟩=>⟨by rw[←r.length];exact z,?_⟩)
 have hf:H1 s1.heap.objs.size=none:=I1.bH.fresh (Nat.le_refl _)
 refine⟨.ref s1.heap.objs.size,upd H1 s1.heap.objs.size (.lst xs),I1.laid (t':=s1.toks) (fun b u e=>Heap.get?_push_of_some _ e) (Nat.le_refl _) ?_,rfl,q _ hf⟩
 exact⟨z,us,0,r,Heap.get?_push_size _ rfl⟩
end
abbrev Sp:=List V→Hp→VK→XK→Prop
abbrev xU:=List Env→Hp→Shared→XK→Value→Shared→Prop
structure tH(P:Program)(w:World)(K:PySem.W.Frag)(mg:Str→Option Value)(base:Heap)(A:Around)(outer:List Env)(s:Shared)(H:Hp):Prop where
 frames:A.frames=some outer
 mod:Mod K mg base
 bs:∀b o,base.get? b=some o→s.heap.get? b=some o∧H b=none
 sU:base.objs.size≤s.heap.objs.size
 ig:s.heap.FunFrames base outer
 xT:∀b∈qH outer,H b=none
 bH:jF P w H s.heap
 bare:AllBare s.gens
def CE(outer:List Env)(P:Program)(w:World)(H:Hp)(s:Shared)(Q:VK)(u:Value)(s':Shared):Prop:=
 ∃v H',s'.os=s.os∧AllBare s'.gens∧Un (qH outer) [] H H' s.heap s'.heap∧jF P w H' s'.heap∧RelV v u∧Q v H'
def CR(CX:xU)(outer:List Env)(P:Program)(w:World)(H:Hp)(s:Shared)(Q:VK)(E:XK)(r:Result)(s':Shared):Prop:=
 match r with
 | .ok (.ret u)=>CE outer P w H s Q u s'
 | .ok _=>False
 | .error e=>CX outer H s E e s'
structure eI(P:Program)(w:World)(K:PySem.W.Frag)(mg:Str→Option Value)(base:Heap)(CX:xU)(k:Nat)(f:Addr)(fd:FuncData)(ps:List Str)(sp:Sp):Prop where
 len:∀vs H Q E,sp vs H Q E→vs.length=ps.length
 run:∀(A:Around) (outer:List Env) (s:Shared) (H:Hp) (args:Args) (us:List Value) (vs:List V) (Q:VK) (E:XK),cN k A→tH P w K mg base A outer s H→BindsTo s fd args (ps.zip us)→Vals vs us→sp vs H Q E→
  codeAny (model P w) A (.call (.ref f) args) (CR CX outer P w H s Q E) s
theorem tH.make{P:Program}{w:World}{K:PySem.W.Frag}{mg:Str→Option Value}{base:Heap}{A:Around}{outer:List Env}{s:Shared}{H:Hp}(e:tH P w K mg base A outer s H)(C:Addr)(us:List Value)(kw:List (Str×Value)):
  tH P w K mg base (A.under (.builtin "type.__call__" ⟨.ref C::us,kw⟩)) outer s H:=⟨by first|exact e.frames| (simpa [Around.under,Code.envs,Code.isFrame,pushEnvs] using e.frames),e.mod,e.bs,e.sU,e.ig,e.xT,e.bH,e.bare⟩
section
variable {X:Cx}{pins:List (Addr×Obj)}{σ:St}{H:Hp}{s s':Shared}
theorem Inv.BH(I:Inv X pins σ H s):tH X.prog X.w X.K X.mg X.base X.A X.stack s H:=
 ⟨I.ok.frames,I.ok.mod,I.bs,Nat.le_trans I.ok.sU I.sz,I.stack,I.l7,I.bH,I.bare⟩
theorem Inv.after{Q:VK}{u:Value}(I:Inv X pins σ H s)(h:CE X.stack X.prog X.w H s Q u s'):EP X pins σ Q u s':=by
 obtain⟨v,H',os,bare,un,bH,r,q⟩:=h
 obtain⟨hh,g,d,t,os'⟩:=s'
 obtain rfl:os'=s.os:=os
 exact⟨v,H',I.call (h':=hh) (g':=g) (d':=d) (t':=t) (ch:=[]) un bH bare (fun b z=>absurd z (by simp)),r,q⟩
end
def Mq(sp:Sp)(jg:List V)(E:XK)(t:TA):TE:=fun σ H Q=>t σ H fun vs H1=>sp (vs++jg) H1 Q E
def Fg(C:Addr)(m:Str)(sp:Sp)(jg:List V)(E:XK)(ta:TE)(t:TA):TE:=fun σ H Q=>ta σ H fun x H1=>∃a dx fs,x= .ref a∧H1 a=some (.ins C dx fs)∧fs.lookup m=none∧
 t σ H1 fun vs H2=>sp (x::(vs++jg)) H2 Q E
def Fh(C:Addr)(sp:Sp)(jg:List V)(E:XK)(t:TA):TE:=fun σ H Q=>t σ H fun vs H1=>∀x dx,H1 x=none→H1 dx=none→dx≠x→
 sp (.ref x::(vs++jg)) (upd (upd H1 dx (.own x)) x (.ins C dx [])) (fun v H2=>v= .dE∧Q (.ref x) H2) E
def Binds(K:PySem.W.Frag)(fd:FuncData)(ps:List Str)(ds:List Value):Prop:=
 ∀(s:Shared) (us:List Value),K.In s.heap→(us++ds).length=ps.length→BindsTo s fd ⟨us,[]⟩ (ps.zip (us++ds))
theorem Binds.all{K:PySem.W.Frag}{fd:FuncData}{ps:List Str}(h:∀us:List Value,us.length=ps.length→bindArgs fd ⟨us,[]⟩=pure (ps.zip us)):Binds K fd ps []:=fun s us _ hl=>by
 rw[List.append_nil] at hl ⊢
 exact .of_eq (h us hl)
def Passes(CX:xU)(X:Cx)(E:XK):Prop:=∀(pins:List (Addr×Obj)) (σ:St) (H:Hp) (s:Shared) (e:Value) (s':Shared),Inv X pins σ H s→CX X.stack H s E e s'→X.xe e s'
section
variable {X:Cx}{CX:xU}{k:Nat}{f C:Addr}{fd:FuncData}{ps:List Str}{sp:Sp}{jg:List V}{ds:List Value}{E:XK}{x m:Str}{p pos apos:Pos}{e o:Expr}{es:List Expr}{ta:TE}{t:TA}
theorem tI{pins:List (Addr×Obj)}{σ:St}{H:Hp}{s:Shared}{Q:VK}{us:List Value}{vs:List V}(F:eI X.prog X.w X.K X.mg X.base CX k f fd ps sp)(hr:cN k X.A)(hb:Binds X.K fd ps ds)(hd:Vals jg ds)(hx:Passes CX X E)
  (I:Inv X pins σ H s) (r:Vals vs us) (h:sp (vs++jg) H Q E):wpAny (model X.prog X.w) X.A (call (.ref f) us) (EP X pins σ Q) X.xe s:=by
 have r2:Vals (vs++jg) (us++ds):=r.append hd
 have hl:(us++ds).length=ps.length:=by rw[←r2.length];exact F.len _ _ _ _ h
 refine wpAny_call (codeAny_mono (F.run X.A X.stack s H ⟨us,[]⟩ (us++ds) (vs++jg) Q E hr I.BH (hb s us I.hZ hl) r2 h) fun r s' hq=>?_)
 cases r with
 |error e=>exact hx pins σ H s e s' I hq
 |ok fl=>
  cases fl with
  |ret u=>exact I.after hq
  |next=>exact False.elim hq
  |brk=>exact False.elim hq
  |cont=>exact False.elim hq
theorem aO(F:eI X.prog X.w X.K X.mg X.base CX k f fd ps sp)(hr:cN k X.A)(hg:Gl X x)(hm:X.mg x=some (.ref f))(hk:PySem.W.keepIn X.K (.ref f)=true)(hb:Binds X.K fd ps ds)(hd:Vals jg ds)(hx:Passes CX X E)
  (ha:PA X (e::es) t) (wa:(x==("__debug__" :Str))=false:=by decide) (he:starEach (e::es) X.env=(false,eval e X.env)::starEach es X.env:=by rfl) (sV:(backTo pos (starEach es X.env)).any (·.1)=false:=by rfl):
  PE X (.Call (.Name x p) (e::es) [] pos) (Mq sp jg E t):=by
 intro pins s σ H Q I h
 refine wpAny_Call_Name_kw (fO I hg hm ?_ wa)
 refine PySem.W.callWith_K (h₀:=X.base) I.ok.mod.Lq hk (bG (ha pos pins s σ H _ I h) fun us s1 ⟨vs,H1,I1,r,q⟩=>⟨I1.hZ,?_⟩) he sV
 exact tI F hr hb hd hx I1 r q
theorem eO{pl:Sem Bool}(he:PE X o ta)(c:vY X.K C)(hm:Meth X.K C m f)(F:eI X.prog X.w X.K X.mg X.base CX k f fd ps sp)(hr:cN k X.A)(hb:Binds X.K fd ps ds)(hd:Vals jg ds)(hx:Passes CX X E)(ha:PA X (e::es) t)
  (E8:starEach (e::es) X.env=(false,eval e X.env)::starEach es X.env:=by rfl) (sV:(backTo pos (starEach es X.env)).any (·.1)=false:=by rfl)
  (ht:eval (.Call (.Attribute o m apos) (e::es) [] pos) X.env=(do
   let ov←eval o X.env
   standAt apos.atName
   let (f,first)←holding [ov] (getMethod ov m pl)
   callWith pos f first (backTo pos (starEach (e::es) X.env)) (backToKw pos (keywordEach [] X.env))):=by rfl):
  PE X (.Call (.Attribute o m apos) (e::es) [] pos) (Fg C m sp jg E ta t):=by
 intro pins s σ H Q I h
 refine PySem.W.methodCall_KW (pl:=pl) (bG (he pins s σ H _ I h) fun u s1 ⟨x,H1,I1,rx,a,dx,fs,ex,ea,l,q⟩=>?_) ht
 subst ex
 obtain rfl:u=Value.ref a:=rx
 refine mN I1 ea c hm l ?_
 refine PySem.W.callWith_K (first:=[.ref a]) (h₀:=X.base) I.ok.mod.Lq hm.kp (bG (ha pos pins s1 σ H1 _ I1 q) fun us s2 ⟨vs,H2,I2,r,q2⟩=>⟨I2.hZ,?_⟩) E8 sV
 exact tI (us:= .ref a::us) (vs:= .ref a::vs) F hr hb hd hx I2 (.cons rfl r) q2
theorem qQ{pl:Sem Bool}(he:PE X o ta)(c:vY X.K C)(hm:Meth X.K C m f)(F:eI X.prog X.w X.K X.mg X.base CX k f fd ps sp)(hr:cN k X.A)(hb:Binds X.K fd ps ds)(hd:Vals jg ds)(hx:Passes CX X E)
  (ht:eval (.Call (.Attribute o m apos) [] [] pos) X.env=(do
   let ov←eval o X.env
   standAt apos.atName
   let (f,first)←holding [ov] (getMethod ov m pl)
   callWith pos f first (backTo pos (starEach [] X.env)) (backToKw pos (keywordEach [] X.env))):=by rfl):
  PE X (.Call (.Attribute o m apos) [] [] pos) (Fg C m sp jg E ta BG):=by
 intro pins s σ H Q I h
 refine PySem.W.methodCall_KW (pl:=pl) (bG (he pins s σ H _ I h) fun u s1 ⟨x,H1,I1,rx,a,dx,fs,ex,ea,l,q⟩=>?_) ht
 subst ex
 obtain rfl:u=Value.ref a:=rx
 refine mN I1 ea c hm l ?_
 exact PySem.W.callWith_K0 (first:=[.ref a]) I1.hZ hm.kp (tI (us:=[.ref a]) (vs:=[.ref a]) F hr hb hd hx I1 (.cons rfl .nil) q)
structure Mk(K:PySem.W.Frag)(C f:Addr):Prop where
 makes:PySem.W.makesIn K C=true
 init:PySem.W.findIn K (.ref C) "__init__" =some (some (.ref f))
 fn:PySem.W.isFn K (.ref f)=true
 kp:PySem.W.keepIn K (.ref C)=true
theorem qR{pins:List (Addr×Obj)}{σ:St}{H:Hp}{s:Shared}{Q:VK}{us:List Value}{vs:List V}(M:Mk X.K C f)(F:eI X.prog X.w X.K X.mg X.base CX k f fd ps sp)(hr:cN (k+1) X.A)(hb:Binds X.K fd ps ds)(hd:Vals jg ds)
  (hx:Passes CX X E) (I:Inv X pins σ H s) (r:Vals vs us)
  (h:∀x dx,H x=none→H dx=none→dx≠x→sp (.ref x::(vs++jg)) (upd (upd H dx (.own x)) x (.ins C dx [])) (fun v H2=>v= .dE∧Q (.ref x) H2) E):
  wpAny (model X.prog X.w) X.A (call (.ref C) us) (EP X pins σ Q) X.xe s:=by
 have hq:=h (s.heap.objs.size+1) s.heap.objs.size (I.bH.fresh (Nat.le_succ _)) (I.bH.fresh (Nat.le_refl _)) (Nat.ne_of_lt (Nat.lt_succ_self _))
 have I2:=Inv.made (C:=C) I
 have r2:Vals (V.ref (s.heap.objs.size+1)::(vs++jg)) (Value.ref (s.heap.objs.size+1)::(us++ds)):= .cons rfl (r.append hd)
 have hl:(Value.ref (s.heap.objs.size+1)::us++ds).length=ps.length:=by
  have e:=r2.length
  rw[F.len _ _ _ _ hq] at e
  exact e.symm
 refine wpAny_call (yB (f:=f) I.hZ M.makes M.init (beq_iff_eq.mp M.fn) (codeAny_mono (F.run _ X.stack _ _ ⟨Value.ref (s.heap.objs.size+1)::us,[]⟩ (Value.ref (s.heap.objs.size+1)::(us++ds)) _ _ E (hr.make C us [])
  (I2.BH.make C us []) (hb _ (Value.ref (s.heap.objs.size+1)::us) I2.hZ hl) r2 hq) fun r s' yD=>?_))
 cases r with
 |error e=>exact hx pins σ _ _ e s' I2 yD
 |ok fl=>
  cases fl with
  |ret u=>
   obtain⟨v,H',I3,rv,ev,q3⟩:=I2.after yD
   subst ev
   exact⟨rv,⟨V.ref (s.heap.objs.size+1),H',I3,rfl,q3⟩⟩
  |next=>exact False.elim yD
  |brk=>exact False.elim yD
  |cont=>exact False.elim yD
theorem pJ(M:Mk X.K C f)(F:eI X.prog X.w X.K X.mg X.base CX k f fd ps sp)(hr:cN (k+1) X.A)(hg:Gl X x)(hm:X.mg x=some (.ref C))(hb:Binds X.K fd ps ds)(hd:Vals jg ds)(hx:Passes CX X E)
  (ha:PA X (e::es) t) (wa:(x==("__debug__" :Str))=false:=by decide) (he:starEach (e::es) X.env=(false,eval e X.env)::starEach es X.env:=by rfl) (sV:(backTo pos (starEach es X.env)).any (·.1)=false:=by rfl):
  PE X (.Call (.Name x p) (e::es) [] pos) (Fh C sp jg E t):=by
 intro pins s σ H Q I h
 refine wpAny_Call_Name_kw (fO I hg hm ?_ wa)
 refine PySem.W.callWith_K (h₀:=X.base) I.ok.mod.Lq M.kp (bG (ha pos pins s σ H _ I h) fun us s1 ⟨vs,H1,I1,r,q⟩=>⟨I1.hZ,?_⟩) he sV
 exact qR M F hr hb hd hx I1 r q
theorem yE(M:Mk X.K C f)(F:eI X.prog X.w X.K X.mg X.base CX k f fd ps sp)(hr:cN (k+1) X.A)(hg:Gl X x)(hm:X.mg x=some (.ref C))(hb:Binds X.K fd ps ds)(hd:Vals jg ds)(hx:Passes CX X E)
  (wa:(x==("__debug__" :Str))=false:=by decide):PE X (.Call (.Name x p) [] [] pos) (Fh C sp jg E BG):=by
 intro pins s σ H Q I h
 refine wpAny_Call_Name_kw (fO I hg hm ?_ wa)
 exact PySem.W.callWith_K0 I.hZ M.kp (qR (us:=[]) M F hr hb hd hx I .nil h)
end
section
variable {X:Cx}{CX:xU}{k:Nat}{f C:Addr}{fd:FuncData}{ps ks:List Str}{sp:Sp}{E:XK}{x m:Str}{p pos apos kpos:Pos}{e o:Expr}{es:List Expr}{kws:List Keyword}{te ta:TE}{t tk:TA}{nm:Option Str}
variable {g:List Value→List Value→List Value}{gV:List V→List V→List V}
end
structure aI(N P:List Str)(sc:Scope):Prop where
 kind:sc.kind= .function
 co:sc.isCoroutine=false
 gen:sc.isGenerator=false
 nd:N.Nodup
 pre:N.take P.length=P
 par:∀x∈P,sc.names.lookup x=some .local∨sc.names.lookup x=some .cell
 G7:∀y∈sc.names,y.2≠ .free
theorem oJ{kindOf:Str→Option NameKind}{x:Str}:∀{binds:List (Str×Value)} {m:Str→Option Value},(∀v,(x,v)∉binds)→bindL kindOf binds m x=m x
 | [],_,_=>rfl
 | (n,v)::r,m,h=>by
   unfold bindL
   rw[oJ fun w hw=>h w (List.mem_cons_of_mem _ hw)]
   split
   ·have:x≠n:=by rintro rfl;exact h v List.mem_cons_self
    simp [this]
   ·rfl
theorem oK{kindOf:Str→Option NameKind}{x:Str}:∀{binds:List (Str×Value)} {m:Str→Option Value},(∀v,(x,v)∉binds)→bindC kindOf binds m x=m x
 | [],_,_=>rfl
 | (n,v)::r,m,h=>by
   unfold bindC
   rw[oK fun w hw=>h w (List.mem_cons_of_mem _ hw)]
   split
   ·rfl
   ·have:x≠n:=by rintro rfl;exact h v List.mem_cons_self
    simp [this]
theorem oM{kindOf:Str→Option NameKind}{x:Str}{v:Value}:∀{P:List Str} {vs:List Value} {i:Nat} {m:Str→Option Value},P.Nodup→P[i]? =some x→vs[i]? =some v→kindOf x=some .local→
  bindL kindOf (P.zip vs) m x=some v
 | [],_,_,_,_,h,_,_=>by simp at h
 |_::_,[],_,_,_,_,h,_=>by simp at h
 |p::P,w::vs,0,m,nd,h1,h2,hk=>by
  simp at h1 h2;subst h1;subst h2
  show bindL kindOf ((p,w)::P.zip vs) m p=_
  unfold bindL
  rw[oJ fun v hv=>(List.nodup_cons.mp nd).1 (List.of_mem_zip hv).1,if_pos hk]
  simp
 |p::P,w::vs,i+1,m,nd,h1,h2,hk=>by
  show bindL kindOf ((p,w)::P.zip vs) m x=_
  unfold bindL
  exact oM (i:=i) (List.nodup_cons.mp nd).2 (by simpa using h1) (by simpa using h2) hk
theorem oN{kindOf:Str→Option NameKind}{x:Str}{v:Value}:∀{P:List Str} {vs:List Value} {i:Nat} {m:Str→Option Value},P.Nodup→P[i]? =some x→vs[i]? =some v→kindOf x≠some .local→
  bindC kindOf (P.zip vs) m x=some v
 | [],_,_,_,_,h,_,_=>by simp at h
 |_::_,[],_,_,_,_,h,_=>by simp at h
 |p::P,w::vs,0,m,nd,h1,h2,hk=>by
  simp at h1 h2;subst h1;subst h2
  show bindC kindOf ((p,w)::P.zip vs) m p=_
  unfold bindC
  rw[oK fun v hv=>(List.nodup_cons.mp nd).1 (List.of_mem_zip hv).1,if_neg hk]
  simp
 |p::P,w::vs,i+1,m,nd,h1,h2,hk=>by
  show bindC kindOf ((p,w)::P.zip vs) m x=_
  unfold bindC
  exact oN (i:=i) (List.nodup_cons.mp nd).2 (by simpa using h1) (by simpa using h2) hk
def start(N:List Str)(vs:List V):St:=vs.map some++List.replicate (N.length - vs.length) none
def h9(CX:xU)(P:Program)(w:World)(K:PySem.W.Frag)(mg:Str→Option Value)(base:Heap)(N:List Str)(qual:Str)(scope:Scope)(f:Addr)(cd:Value)(A:Around)(outer:List Env)(s:Shared)(H:Hp)(E:XK):Cx where
 prog:=P
 w:=w
 K:=K
 mg:=mg
 base:=base
 A:=A.deeper (envOfC qual scope s.heap.objs.size f cd)
 N:=N
 s₀:=s
 H₀:=H
 env:=envOfC qual scope s.heap.objs.size f cd
 outer:=outer
 stack:=envOfC qual scope s.heap.objs.size f cd::outer
 ex:=[]
 calm:=true
 fn:=fun _=>true
 pn:=[]
 xe:=fun e s'=>wpAny (model P w) (A.deeper (envOfC qual scope s.heap.objs.size f cd)) (leaving (envOfC qual scope s.heap.objs.size f cd) e) (fun _ tJ=>CX outer H s E e tJ) (fun e' tJ=>CX outer H s E e' tJ) s'
theorem qS{sc:Scope}{n:Nat}{x:Str}(h:sc.names.lookup x=some .cell):∃c,(cellsFrom n sc.names []).lookup x=some c:=by
 have q:=PySem.W.cellsFrom_some sc.names n [] (.inl h)
 exact Option.isSome_iff_exists.mp q
theorem wc{CX:xU}{P:Program}{w:World}{K:PySem.W.Frag}{mg:Str→Option Value}{base:Heap}{N ps:List Str}{qual:Str}{scope:Scope}{f:Addr}{cd:Value}{A:Around}{outer:List Env}{s s1:Shared}{H:Hp}{E:XK}{us:List Value}{vs:List V}
  (S:aI N ps scope) (hd:A.handled=none) (e0:tH P w K mg base A outer s H) (hl:vs.length=ps.length) (r:Vals vs us)
  (x:InCallC s s.heap.objs.size (bindL (envOfC qual scope s.heap.objs.size f cd).kindOf (ps.zip us) fun _=>none) (cellsFrom (s.heap.objs.size+1) scope.names []) (bindC (envOfC qual scope s.heap.objs.size f cd).kindOf (ps.zip us) fun _=>none) s1):
  Inv (h9 CX P w K mg base N qual scope f cd A outer s H E) [] (start N vs) H s1:=by
 have sV:ps.length≤N.length:=by have:=congrArg List.length S.pre;rw[List.length_take] at this;omega
 obtain⟨h1,tk,rfl,hk⟩:=x.done
 have Mr:∀b:Addr,b∉(h9 CX P w K mg base N qual scope f cd A outer s H E).ex:=fun b z=>absurd (show b∈([]:List Addr) from z) (by simp)
 refine⟨⟨e0.mod,S.kind,rfl,rfl,Nat.le_refl _,fun y z c h1 h2=>?_,fun y hy=>?_,fun y c _ h=>?_,fun _=>hd,Around.frames_deeper e0.frames, .inr ⟨rfl,rfl⟩,fun b z=>absurd z (Mr b),e0.bs,e0.sU,fun b _ _=>Mr b,fun b z=>absurd z (Mr b),e0.ig,e0.xT⟩,
  rfl,e0.bare,Un.kept hk,⟨_,x.toInCall.ns,fun i y v h1 h2 h3=>?_⟩,fun y c h=>⟨_,x.cell y c h⟩,e0.bH.fresh (Nat.le_refl _),fun y c h=>?_,fun p hp=>absurd (show p∈([]:List (Addr×Obj)) from hp) (by simp),e0.bH.kept hk,?_⟩
 ·exact name_of_addr x.apart (PySem.mem_of_lookup h1) (PySem.mem_of_lookup h2)
 ·have hy:scope.names.lookup y=some .cell∨scope.names.lookup y=some .free:=hy
  rcases hy with hy|hy
  ·exact qS hy
  ·exact absurd rfl (S.G7 _ (PySem.mem_of_lookup hy))
 ·exact Nat.le_of_lt (x.above y c (PySem.mem_of_lookup h))
 ·have hi:i<vs.length:=by
   unfold start at h2
   by_cases hi:i<vs.length
   ·exact hi
   ·rw[List.getElem?_append_right (by simpa using hi)] at h2
    rw[List.getElem?_replicate] at h2
    split at h2<;>cases h2
  have ha:vs[i]? =some v:=by
   unfold start at h2
   rw[List.getElem?_append_left (by simpa using hi),List.getElem?_map] at h2
   cases e:vs[i]? with
   |none=>rw[e] at h2;cases h2
   |some a=>rw[e] at h2;cases h2;rfl
  obtain⟨u,hu,rv⟩:=r.get ha
  have hp:ps[i]? =some y:=by
   rw[←S.pre,List.getElem?_take_of_lt (by omega)];exact h1
  have Zl:ps.Nodup:=by rw[←S.pre];exact S.nd.sublist (List.take_sublist _ _)
  refine⟨u,rv,?_⟩
  rcases S.par y (List.mem_of_getElem? hp) with k|k
  ·exact .inl ⟨k,oM Zl hp hu k⟩
  ·obtain⟨c,e⟩:=qS (n:=s.heap.objs.size+1) k
   refine .inr ⟨.inl k,c,e,?_⟩
   have q:=x.cell y c e
   rw[oN Zl hp hu (by show scope.names.lookup y≠_;rw[k];decide)] at q
   exact q
 ·exact e0.bH.fresh (Nat.le_of_lt (x.above y c (PySem.mem_of_lookup h)))
 ·unfold start
  show _=N.length
  rw[List.length_append,List.length_map,List.length_replicate]
  omega
theorem fn_of{CX:xU}{P:Program}{w:World}{K:PySem.W.Frag}{mg:Str→Option Value}{base:Heap}{k:Nat}{f:Addr}{name qual:Str}{params:Arguments}{body:List Stmt}{scope:Scope}{dV kV doc pm bW ct oc:Value}{an od:Option Addr}
  {qI:Array (Option Value)} {N ps:List Str} {sp:Sp} (lk:K.lookup f=some ⟨oc,od, .func (PySem.W.fnOf name qual params body scope dV kV doc pm an bW ct),qI⟩) (qN:PySem.W.codeIn K bW qual=true) (S:aI N ps scope)
  (len:∀vs H Q E,sp vs H Q E→vs.length=ps.length)
  (d9:∀(A:Around) (outer:List Env) (s:Shared) (H:Hp) (vs:List V) (Q:VK) (E:XK),cN k (A.deeper (envOfC qual scope s.heap.objs.size f bW))→sp vs H Q E→
   ∃t,lh (h9 CX P w K mg base N qual scope f bW A outer s H E) body t∧t { nx:=fun _ H'=>Q .dE H',rt:=Q } (start N vs) H):
  eI P w K mg base CX (k+1) f (PySem.W.fnOf name qual params body scope dV kV doc pm an bW ct) ps sp:=by
 refine⟨len,fun A outer s H args us vs Q E hr e0 hb r xV=>?_⟩
 have hl:=len _ _ _ _ xV
 have KX:K.In s.heap:=e0.mod.Lq.keeps fun b o e=>(e0.bs b o e).1
 have lim:s.heap.NoLimit:=e0.mod.nolimit.keeps fun b o e=>(e0.bs b o e).1
 have Ms:∀y∈ps.zip us,scope.names.lookup y.1=some .local∨(scope.names.lookup y.1=some .cell∧((cellsFrom (s.heap.objs.size+1) scope.names []).lookup y.1).isSome=true):=fun⟨n,v⟩ hy=>by
  rcases S.par n (List.of_mem_zip hy).1 with q|q
  ·exact .inl q
  ·exact .inr ⟨q,PySem.W.cellsFrom_some _ _ _ (.inl q)⟩
 refine codeAny_call_function hr.depth (KX _ _ lk) rfl S.co S.gen rfl (PySem.W.codeRec_of KX qN) (hb _ _ _ _ ?_)
 refine wpAny_newFunctionEnv_cells S.kind Ms fun env he s1 x=>?_
 subst he
 refine⟨lim.keeps x.toInCall.keep,codeAny_func ?_⟩
 obtain⟨t,ht,hq⟩:=d9 A outer s H vs Q E (hr.deeper _) xV
 have I:Inv (h9 CX P w K mg base N qual scope f bW A outer s H E) [] (start N vs) H s1:=wc S hr.hd e0 hl r x
 refine wpAny_mono (ht [] s1 (start N vs) H _ I hq) (fun fl s' hs=>?_) fun e s' hs=>hs
 have fin:∀{σ':St} {H':Hp} {v:V} {u:Value},Inv (h9 CX P w K mg base N qual scope f bW A outer s H E) [] σ' H' s'→RelV v u→Q v H'→CE outer P w H s Q u s':=
  fun {σ' H' v u} J rv q=>⟨v,H',J.os,J.bare,J.base,J.bH,rv,q⟩
 cases fl with
 |ret u=>
  obtain⟨v,σ',H',J,rv,q⟩:=hs
  exact fin J rv q
 |next=>
  obtain⟨σ',H',J,q⟩:=hs
  exact fin (v:=V.dE) (u:=Value.none) J rfl q
 |brk=>
  obtain⟨_,_,_,q⟩:=hs
  exact False.elim q
 |cont=>
  obtain⟨_,_,_,q⟩:=hs
  exact False.elim q
end L2
namespace L2
open PySem PySem.Spec PyProof.Rows
section
variable {X:Cx}{x:Str}{p pos:Pos}{e:Expr}{es:List Expr}{t:TA}{id T:String}{r:List V→Hp→VK→Prop}
def Zm(r:List V→Hp→VK→Prop)(t:TA):TE:=fun σ H Q=>t σ H fun vs H1=>r vs H1 Q
theorem aA(hc:fo X (.builtin id) r)(hg:Gl X x)(hm:X.mg x=none)(hv:bootBuiltins x=some (.builtin id))(ha:PA X (e::es) t)(hn:x≠"__name__" :=by decide)(wa:(x==("__debug__" :Str))=false:=by decide)
  (he:starEach (e::es) X.env=(false,eval e X.env)::starEach es X.env:=by rfl) (sV:(backTo pos (starEach es X.env)).any (·.1)=false:=by rfl):PE X (.Call (.Name x p) (e::es) [] pos) (Zm r t):=by
 intro pins s σ H Q I h
 refine wpAny_Call_Name_kw (gI I hg hm hv ?_ hn wa)
 exact PyProof.Rows.callWith_builtin1 (bG (ha pos pins s σ H _ I h) fun us s1 ⟨vs,H1,I1,r1,q1⟩=>hc pins s1 σ H1 vs us Q I1 r1 q1) he sV
theorem cE(hc:fo X (.type T) r)(hg:Gl X x)(hm:X.mg x=none)(hv:bootBuiltins x=some (.type T))(ha:PA X (e::es) t)(hn:x≠"__name__" :=by decide)(wa:(x==("__debug__" :Str))=false:=by decide)
  (he:starEach (e::es) X.env=(false,eval e X.env)::starEach es X.env:=by rfl) (sV:(backTo pos (starEach es X.env)).any (·.1)=false:=by rfl):PE X (.Call (.Name x p) (e::es) [] pos) (Zm r t):=by
 intro pins s σ H Q I h
 refine wpAny_Call_Name_kw (gI I hg hm hv ?_ hn wa)
 exact PyProof.Rows.callWith_type1 (bG (ha pos pins s σ H _ I h) fun us s1 ⟨vs,H1,I1,r1,q1⟩=>hc pins s1 σ H1 vs us Q I1 r1 q1) he sV
end
end L2
namespace L2
open PySem PySem.Spec PyProof.Rows
section
variable {κ:Type}[DecidableEq κ]
end
section
variable {P:Program}{w:World}{H:Hp}{h:Heap}{a:Addr}
end
section
variable {X:Cx}{pins:List (Addr×Obj)}{σ:St}{H:Hp}{s:Shared}{a:Addr}{y v:V}{u r:Value}{o:Option V}{A:Around}{E:Value→Shared→Prop}
end
section
variable {X:Cx}{pins:List (Addr×Obj)}{σ:St}{H:Hp}{s:Shared}{a:Addr}{jE:List (Key×V)}{k:Key}{u:Value}{A:Around}{E:Value→Shared→Prop}
end
section
variable {X:Cx}{o i e value:Expr}{pos pos' kB:Pos}{td ty tv:TE}
end
section
variable {X:Cx}{pos:Pos}
end
section
variable {X:Cx}{pins:List (Addr×Obj)}{σ:St}{H:Hp}{s:Shared}{a:Addr}{y d:V}{u r:Value}{o:Option V}{A:Around}{E:Value→Shared→Prop}
end
section
variable {X:Cx}{o e f:Expr}{apos mO:Pos}{td ty tx:TE}
end
section
variable {X:Cx}{pins:List (Addr×Obj)}{σ:St}{H:Hp}{s:Shared}{a:Addr}{jE:List (Key×V)}{A:Around}{E:Value→Shared→Prop}
end
section
variable {X:Cx}{pins:List (Addr×Obj)}{σ:St}{H:Hp}{s:Shared}{a:Addr}{y:V}{u:Value}{A:Around}{E:Value→Shared→Prop}
end
end L2
namespace HT
open PySem PyProof.Rows
theorem qT(A:Around)(s:Shared)(a:Int)(t:Tok)(c:Int)(u:Tok)(prog:Program)(w:World)(E:Value→Shared→Prop)(Q:Value→Shared→Prop)(h:Q (.bool (decide (a<c))) s):
  wpAny (model prog w) A (richCompare .Lt (.int a t) (.int c u)) Q E s:=
 (PyProof.Rows.lt_int h:wpAny (model prog w) A (compareOp .Lt (.int a t) (.int c u)) Q E s)
section
open PySem.SeqAt
open PySem.AutoSeq1 (wpAny_loadPart')
open PySem.MeetsSeq PySem.MeetsSeq2 PySem.MeetsSeq3
end
section
variable {prog:Program}{w:World}{A:Around}{E:Value→Shared→Prop}{s:Shared}
def qU(n d:Nat):Option Int→Nat
 |none=>d
 |some v=>if v<0 then (v+(n:Int)).toNat else min v.toNat n
theorem yF(n d:Nat):qU n d none=d:=rfl
theorem BI(n d k:Nat):qU n d (some (k:Int))=min k n:=by
 show (if (k:Int) <0 then ((k:Int)+(n:Int)).toNat else min (k:Int).toNat n)=min k n
 rw[if_neg (by omega),Int.toNat_natCast]
end
end HT
namespace L2
open PySem PySem.Spec PyProof.Rows
abbrev TO:=St→Hp→(Option Int→Hp→Prop)→Prop
def PO(X:Cx)(e:Option Expr)(t:TO):Prop:=
 ∀(pins:List (Addr×Obj)) (s:Shared) (σ:St) (H:Hp) (Q:Option Int→Hp→Prop),Inv X pins σ H s→t σ H Q→
  wpAny (model X.prog X.w) X.A (evalPart e X.env) (fun u s'=>∃o H',Inv X pins σ H' s'∧IsPart u o∧Q o H') X.xe s
def BJ:TO:=fun _ H Q=>Q none H
def Mt(t:TE):TO:=fun σ H Q=>t σ H fun x H1=>∃i,x= .int i∧Q (some i) H1
theorem intsAre_of{ns:List Int}:∀{us:List Value},Vals (ns.map V.int) us→IntsAre us ns:=by
 induction ns with
 |nil=>intro us r;rw[List.map_nil] at r;cases r;exact .nil
 |cons n ns ih=>
  intro us r
  rw[List.map_cons] at r
  cases r with
  |cons r1 r2=>
   obtain⟨t,e⟩:=r1
   subst e
   exact .cons n t (ih r2)
section
variable {X:Cx}{e:Expr}{te:TE}{lo hi:Option Expr}{tl th:TO}{pos p2:Pos}
theorem BK:PO X none BJ:=by
 intro pins s σ H Q I h
 rw[evalPart_none]
 exact wpAny_pure ⟨none,H,I, .none,h⟩
theorem pK(h:PE X e te):PO X (some e) (Mt te):=by
 intro pins s σ H Q I hw
 rw[evalPart_some]
 refine bG (h pins s σ H _ I hw) fun u s1 ⟨x,H1,I1,r1,q1⟩=>?_
 obtain⟨i,rfl,q⟩:=q1
 obtain⟨t,rfl⟩:=r1
 exact⟨some i,H1,I1, .int i t,q⟩
def Zn(X:Cx)(r:V→Option Int→Option Int→Hp→VK→Prop):Prop:=
 ∀(pins:List (Addr×Obj)) (s:Shared) (σ:St) (H:Hp) (x:V) (v vl vu:Value) (lo hi:Option Int) (sl:Addr) (Q:VK),Inv X pins σ H s→RelV x v→s.heap.IsSliceOf sl vl vu .none→IsPart vl lo→IsPart vu hi→r x lo hi H Q→
  ∃T id,typeLookup (.type T) "__getitem__" =pure (some (.builtin id))∧s.TypeIs v T∧wpAny (model X.prog X.w) X.A (getItem v (.ref sl)) (EP X pins σ Q) X.xe s
def tSl(r:V→Option Int→Option Int→Hp→VK→Prop)(te:TE)(tl th:TO):TE:=fun σ H Q=>te σ H fun x H1=>tl σ H1 fun l H2=>th σ H2 fun u H3=>r x l u H3 Q
theorem qV{r:V→Option Int→Option Int→Hp→VK→Prop}(hr:Zn X r)(he:PE X e te)(hl:PO X lo tl)(hu:PO X hi th):PE X (.Subscript e (.Slice lo hi none p2) pos) (tSl r te tl th):=by
 intro pins s σ H Q I h
 refine Subscript_ (bG (he pins s σ H _ I h) fun v s1 ⟨x,H1,I1,r1,q1⟩=>?_)
 refine wpAny_Slice (bG (hl pins s1 σ H1 _ I1 q1) fun vl s2 ⟨l,H2,I2,pl,q2⟩=>bG (hu pins s2 σ H2 _ I2 q2) fun vu s3 ⟨u,H3,I3,pu,q3⟩=>?_)
 rw[evalPart_none]
 refine wpAny_pure ?_
 have I4:Inv X pins σ H3 { s3 with heap:=s3.heap.push { cls:= .type "slice",data:= .fields #[vl,vu, .none] } }:=I3.kept (t':=s3.toks) fun b ob q=>Heap.get?_push_of_some _ q
 obtain⟨T,id,hT,ht,hg⟩:=hr pins { s3 with heap:=s3.heap.push { cls:= .type "slice",data:= .fields #[vl,vu, .none] } } σ H3 x v vl vu l u s3.heap.objs.size Q I4 r1 (Heap.IsSliceOf.new ..) pl pu q3
 show wpAny (model X.prog X.w) X.A (subscriptTail e (.Slice lo hi none p2) v (.ref s3.heap.objs.size)) (EP X pins σ Q) X.xe { s3 with heap:=s3.heap.push { cls:= .type "slice",data:= .fields #[vl,vu, .none] } }
 exact tail_any (ops:=[.ref s3.heap.objs.size,v]) ht hT hg (by with_unfolding_all rfl)
def kG(xs:List V)(lo hi:Option Int):List V:=(xs.drop (HT.qU xs.length 0 lo)).take (HT.qU xs.length xs.length hi - HT.qU xs.length 0 lo)
theorem lq(xs:List V)(lo hi:Option Int):(kG xs lo hi).length≤xs.length:=by
 unfold kG
 rw[List.length_take,List.length_drop]
 omega
end
end L2
namespace L2
open PySem PySem.Spec PyProof.Rows
def qW(n:Nat)(i:Int):Option Nat:=if 0≤i then (if i<n then some i.toNat else none) else if -(n:Int)≤i then some (i+n).toNat else none
def Fi{α:Type}(xs:List α)(i:Int):Option α:=(qW xs.length i).bind fun j=>xs[j]?
theorem uQ{n:Nat}{i:Int}{j:Nat}(h:qW n i=some j):seqIndex? i n=some j∧j<n∧ -(n:Int)≤i∧i<n:=by
 unfold qW at h
 by_cases h0:0≤i
 ·rw[if_pos h0] at h
  by_cases h1:i<n
  ·rw[if_pos h1] at h
   have e:i.toNat=j:=Option.some.inj h
   exact⟨by rw[seqIndex_of h0 h1,e],by omega,by omega,h1⟩
  ·rw[if_neg h1] at h;cases h
 ·rw[if_neg h0] at h
  by_cases h1: -(n:Int)≤i
  ·rw[if_pos h1] at h
   have e:(i+n).toNat=j:=Option.some.inj h
   exact⟨by rw[seqIndex_neg (by omega) h1,e],by omega,h1,by omega⟩
  ·rw[if_neg h1] at h;cases h
theorem BL{α:Type}{xs:List α}{i:Int}{v:α}(h:Fi xs i=some v):∃j,seqIndex? i xs.length=some j∧xs[j]? =some v∧j<xs.length∧ -(xs.length:Int)≤i∧i<xs.length:=by
 unfold Fi at h
 cases e:qW xs.length i with
 |none=>rw[e] at h;cases h
 |some j=>
  rw[e] at h
  obtain⟨h1,h2,h3,h4⟩:=uQ e
  exact⟨j,h1,h,h2,h3,h4⟩
theorem bE{α:Type}{xs:List α}{j:Nat}{v:α}(h:xs[j]? =some v):Fi xs (j:Int)=some v:=by
 have hj:j<xs.length:=(List.getElem?_eq_some_iff.mp h).1
 have e:qW xs.length (j:Int)=some j:=by
  unfold qW
  rw[if_pos (by omega),if_pos (by omega)];simp
 unfold Fi;rw[e];exact h
def BM(b:Expr):Prop:=∀o i,subscripted b false o i=operate [o,i] (getItem o i)
def V'(X:Cx)(r:R2):Prop:=
 ∀(value slice:Expr) (pins:List (Addr×Obj)) (s:Shared) (σ:St) (H:Hp) (x y:V) (v u:Value) (Q:VK),Inv X pins σ H s→RelV x v→RelV y u→r x y H Q→
  subscripted slice false v u=operate [v,u] (getItem v u)→wpAny (model X.prog X.w) X.A (subscriptTail value slice v u) (EP X pins σ Q) X.xe s
def MtR(X:Cx)(id:String)(r:V→List V→Hp→VK→Prop):Prop:=
 ∀(pins:List (Addr×Obj)) (s:Shared) (σ:St) (H:Hp) (x:V) (xs:List V) (v:Value) (us:List Value) (Q:VK),Inv X pins σ H s→RelV x v→Vals xs us→r x xs H Q→
  wpAny (model X.prog X.w) X.A (call (.builtin id) (v::us)) (EP X pins σ Q) X.xe s
section
variable {X:Cx}{a b:Expr}{ta tb:TE}{pos:Pos}
theorem cJ{r:R2}(hr:V' X r)(ha:PE X a ta)(hb:PE X b tb)(hs:BM b):PE X (.Subscript a b pos) (UJ r ta tb):=by
 intro pins s σ H Q I h
 exact Subscript_ (G4 ha hb I h fun v u s2 x y H2 I2 rx ry q=>hr a b pins s2 σ H2 x y v u Q I2 rx ry q (hs _ _))
def Mu(K:PySem.W.Frag):R2:=fun x y H Q=>∃p xs i v,x= .ref p∧y= .int i∧aD K H p xs∧Fi xs i=some v∧Q v H
theorem dr:V' X (Mu X.K):=by
 intro value slice pins s σ H x y v u Q I rx ry h hs
 obtain⟨p,xs,i,z,rfl,rfl,hq,he,q⟩:=h
 cases rx
 obtain⟨t,rfl⟩:=ry
 obtain⟨its,r,pl,hz⟩:=I.list hq
 obtain⟨j,h1,h2,h3,h4,h5⟩:=BL he
 obtain⟨w,ew,xW⟩:=r.get h2
 have hl:=r.length
 have hn:=pH
 have fin:EP X pins σ Q w s:=⟨z,H,I,xW,q⟩
 by_cases h0:0≤i
 ·have hj:i.toNat=j:=by
   rw[seqIndex_of h0 h5] at h1
   exact Option.some.inj h1
  exact item_listR pl.isList h0 (by omega) (by rw[hj];simpa using ew) fin hs
 ·have hj:(i+(its.toArray.size:Int)).toNat=j:=by
   rw[seqIndex_neg (by omega) h4] at h1
   rw[List.size_toArray,←hl]
   exact Option.some.inj h1
  exact subscriptTail_builtinR (x:=w) pl.isList.typeIs slot_list_getitem.lookup
   (wpAny_getItem_list_neg (Q:=fun r s'=>r=w∧EP X pins σ Q r s') pl.isList (by omega) (by rw[List.size_toArray]<;>omega) (by omega) (by rw[hj];simpa using ew) ⟨rfl,fin⟩) hs
theorem tK(its:List Value)(n j:Nat)(u:Value):Obj.mapSeq (·.setIfInBounds j u) { cls:= .type "list",data:= .seq its.toArray n }={ cls:= .type "list",data:= .seq (its.set j u).toArray n }:=by
 simp [Obj.mapSeq]
theorem Inv.lst{pins:List (Addr×Obj)}{σ:St}{H:Hp}{s:Shared}{p:Addr}{xs:List V}(I:Inv X pins σ H s)(h:H p=some (.lst xs)):
  ∃(its:List Value) (n:Nat),Vals xs its∧s.heap.get? p=some { cls:= .type "list",data:= .seq its.toArray n }∧xs.length≤sizeLine:=by
 obtain⟨z,its,n,r,e⟩:=I.bH p _ h
 exact⟨its,n,r,e,z⟩
theorem Inv.G8{pins:List (Addr×Obj)}{σ:St}{H:Hp}{s:Shared}{p:Addr}{xs ys:List V}{its its':List Value}{n n':Nat}{f:Obj→Obj}(I:Inv X pins σ H s)(h:H p=some (.lst xs))
  (ho:s.heap.get? p=some { cls:= .type "list",data:= .seq its.toArray n }) (hf:f { cls:= .type "list",data:= .seq its.toArray n }={ cls:= .type "list",data:= .seq its'.toArray n' }) (r:Vals ys its') (hz:ys.length≤sizeLine) (t:Nat):
  Inv X pins σ (upd H p (.lst ys)) { s with heap:=s.heap.update p f,toks:=t }:=by
 have e:(s.heap.update p f).get? p=some { cls:= .type "list",data:= .seq its'.toArray n' }:=by
  rw[Heap.get?_update_self f ho (by rw[hf]<;>rfl),hf]
 refine I.write (x:=p) (e:=p) (by rw[h];trivial) (.inl rfl) (fun b u hb q=>(Heap.get?_update_other _ _ (Ne.symm hb)).trans q) ⟨_,e⟩ ?_
 exact⟨hz,its',n',r,e⟩
def Mw:V→V→V→Hp→(Hp→Prop)→Prop:=fun o i v H Q=>∃p xs k j,o= .ref p∧i= .int k∧H p=some (.lst xs)∧qW xs.length k=some j∧Q (upd H p (.lst (xs.set j v)))
theorem set_list:GZ X Mw:=by
 intro pins s σ H o i v ov iv u Q I ro ri rv h
 obtain⟨p,xs,k,j,rfl,rfl,hp,hj,q⟩:=h
 cases ro
 obtain⟨t,rfl⟩:=ri
 obtain⟨its,n,r,ho,hz⟩:=I.lst hp
 obtain⟨h1,h2,h3,h4⟩:=uQ hj
 have hl:=r.length
 have hn:=pH
 have I':Inv X pins σ (upd H p (.lst (xs.set j v))) { s with heap:=s.heap.update p (Obj.mapSeq (·.setIfInBounds j u)) }:=
  I.G8 hp ho (tK its n j u) (r.set rv j) (by rw[List.length_set];exact hz) s.toks
 by_cases h0:0≤k
 ·have hk:k.toNat=j:=by
   rw[seqIndex_of h0 h4] at h1
   exact Option.some.inj h1
  exact PySem.W.ki_setAt ho h0 (by omega) (by rw[List.size_toArray,←hl];exact h4) (by rw[hk];exact⟨_,I',q⟩)
 ·have hk:(k+(its.toArray.size:Int)).toNat=j:=by
   rw[seqIndex_neg (by omega) h3] at h1
   rw[List.size_toArray,←hl]
   exact Option.some.inj h1
  exact PySem.W.ki_setBack ho (by omega) (by rw[List.size_toArray,←hl];exact h3) (by omega) (by rw[hk];exact⟨_,I',q⟩)
theorem slice_bounds(lo hi:Option Int)(n:Nat):(sliceBounds lo hi none n).1=((HT.qU n 0 lo:Nat):Int)∧(sliceBounds lo hi none n).2.1=((HT.qU n n hi:Nat):Int)∧(sliceBounds lo hi none n).2.2=1:=by
 refine⟨?_,?_,rfl⟩
 ·cases lo with
  |none=>simp [sliceBounds,HT.qU]
  |some i=>
   simp only [sliceBounds,HT.qU,Option.getD_none,show (1 :Int) >0 by decide,if_true]
   by_cases h:i<0
   ·simp only [h,if_true]<;>omega
   ·simp only [h,if_false]<;>omega
 ·cases hi with
  |none=>simp [sliceBounds,HT.qU]
  |some i=>
   simp only [sliceBounds,HT.qU,Option.getD_none,show (1 :Int) >0 by decide,if_true]
   by_cases h:i<0
   ·simp only [h,if_true]<;>omega
   ·simp only [h,if_false]<;>omega
theorem oo(its:List Value)(lo hi:Option Int):slicePick its.toArray lo hi none=((its.drop (HT.qU its.length 0 lo)).take (HT.qU its.length its.length hi - HT.qU its.length 0 lo)).toArray:=by
 obtain⟨h1,h2,h3⟩:=slice_bounds lo hi its.toArray.size
 unfold slicePick
 rw[h1,h2,h3]
 simp only [sliceRange_one,pick_run,List.size_toArray]<;>rfl
def Wa(K:PySem.W.Frag):V→Option Int→Option Int→Hp→VK→Prop:=fun x lo hi H Q=>∃a xs,x= .ref a∧aD K H a xs∧∀p,H p=none→Q (.ref p) (upd H p (.lst (kG xs lo hi)))
theorem uR:Zn X (Wa X.K):=by
 intro pins s σ H x v vl vu lo hi sl Q I rx hs pl pu h
 obtain⟨a,xs,rfl,hx,q⟩:=h
 cases rx
 obtain⟨its,r,ht,hz⟩:=I.list hx
 have hlen:=r.length
 refine⟨"list",_,slot_list_getitem.lookup,ht.isList.typeIs,?_⟩
 refine wpAny_getItem_list_slice ht.isList hs pl pu .none (by simp) ?_ (by rw[List.size_toArray]<;>omega)
 rw[oo,←hlen]
 refine⟨.ref s.heap.objs.size,_,I.laid (t':=s.toks) (o:= .lst (kG xs lo hi)) (fun b ob q=>Heap.get?_push_of_some _ q) (Nat.le_refl _) ?_,rfl,q _ (I.bH.fresh (Nat.le_refl _))⟩
 exact⟨Nat.le_trans (lq xs lo hi) hz,_,0,(r.drop (HT.qU xs.length 0 lo)).take (HT.qU xs.length xs.length hi - HT.qU xs.length 0 lo),Heap.get?_push_size _ rfl⟩
theorem aS:fo X (.builtin "len") (fun xs H Q=>∃p ys,xs=[.ref p]∧(aD X.K H p ys∨lN X.K H p ys)∧Q (.int ys.length) H):=by
 intro pins s σ H xs us Q I r h
 obtain⟨p,ys,rfl,hq,q⟩:=h
 obtain⟨u,rfl,rx⟩:=vals1 r
 cases rx
 have hn:=pH
 rcases hq with hq|hq
 ·obtain⟨its,r',pl,hz⟩:=I.list hq
  have hlen:=r'.length
  exact Calls.call_len_list pl.isList (by simp only [List.size_toArray]<;>omega) ⟨.int ys.length,H,I.tok _,⟨s.toks+1,by rw[List.size_toArray,hlen]⟩,q⟩
 ·obtain⟨its,r',pl,hz⟩:=I.tuple hq
  have hlen:=r'.length
  exact len_tuple pl (by simp only [List.size_toArray]<;>omega) ⟨.int ys.length,H,I.tok _,⟨s.toks+1,by rw[List.size_toArray,hlen]⟩,q⟩
theorem bu:fo X (.type "list") (fun xs H Q=>∃p ys,xs=[.ref p]∧(aD X.K H p ys∨lN X.K H p ys)∧∀l,H l=none→Q (.ref l) (upd H l (.lst ys))):=by
 intro pins s σ H xs us Q I r h
 obtain⟨p,ys,rfl,hq,q⟩:=h
 obtain⟨u,rfl,rx⟩:=vals1 r
 cases rx
 have fin:∀(its:List Value),Vals ys its→ys.length≤sizeLine→∀(h':Heap) (c':Nat),(∀b o',s.heap.get? b=some o'→h'.get? b=some o')→
   h'.get? s.heap.objs.size=some { cls:= .type "list",dict:=none,data:= .seq its.toArray c',slots:=#[] }→EP X pins σ Q (.ref s.heap.objs.size) { s with heap:=h' }:=fun its r' hz h' c' kp e=>
  ⟨.ref s.heap.objs.size,_,I.laid (t':=s.toks) kp (Nat.le_refl _) (show cY X.prog X.w _ h' _ (.lst ys) from ⟨hz,its,c',r',e⟩),rfl,q _ (I.bH.fresh (Nat.le_refl _))⟩
 rcases hq with hq|hq
 ·obtain⟨its,r',pl,hz⟩:=I.list hq
  have hlen:=r'.length
  obtain⟨o,ho,hc,n,hd⟩:=pl.isList
  exact call_list_seq p (.inl rfl) ho hc hd (fun h' c' kp e=>fin its r' hz h' c' kp e) (by simp only [List.size_toArray]<;>omega)
 ·obtain⟨its,r',pl,hz⟩:=I.tuple hq
  have hlen:=r'.length
  obtain⟨o,ho,hc,n,hd⟩:=pl
  exact call_list_seq p (.inr rfl) ho hc hd (fun h' c' kp e=>fin its r' hz h' c' kp e) (by simp only [List.size_toArray]<;>omega)
def Zo(K:PySem.W.Frag)(T:String)(x:V)(H:Hp):Prop:=match x with
 | .str _=>T="str"
 | .int _=>T="int"
 | .ref p=>(T="list" ∧∃xs,aD K H p xs)∨(T="tuple" ∧∃o,K.lookup p=some o∧o.cls= .type "tuple" ∧o.dict=none)∨
   (T="dict" ∧((∃jE,H p=some (.dK jE))∨∃jE,H p=some (.dT jE)))∨(T="set" ∧∃S n,H p=some (.set S n))
 |_=>False
theorem G9{pins:List (Addr×Obj)}{σ:St}{H:Hp}{s:Shared}{T:String}{x:V}{v:Value}(I:Inv X pins σ H s)(r:RelV x v)(ty:Zo X.K T x H):
  s.TypeIs v T∧∀a,v= .ref a→∃ob,s.heap.get? a=some ob∧ob.dict=none:=by
 cases x with
 |str z=>
  obtain⟨t,rfl⟩:=r
  cases (show T="str" from ty)
  exact⟨typeIs_str s z t,fun _ e=>nomatch e⟩
 |int i=>
  obtain⟨t,rfl⟩:=r
  cases (show T="int" from ty)
  exact⟨typeIs_int s i t,fun _ e=>nomatch e⟩
 |ref p=>
  cases r
  rcases ty with ⟨rfl,xs,hq⟩ | ⟨rfl,o,hk,hc,hd⟩ | ⟨rfl,hk⟩ | ⟨rfl,S,n,hk⟩
  ·obtain⟨its,_,pl,_⟩:=I.list hq
   refine⟨pl.isList.typeIs,fun a e=>?_⟩
   cases e
   obtain⟨o,n,e,c,hd,_⟩:=pl
   exact⟨o,e,hd⟩
  ·refine⟨⟨o,I.hZ p o hk,hc⟩,fun a e=>?_⟩
   cases e
   exact⟨o,I.hZ _ o hk,hd⟩
  ·have z:∃o,s.heap.get? p=some o∧o.ExactDict:=by
    rcases hk with ⟨jE,hk⟩ | ⟨jE,hk⟩
    ·obtain⟨_,_,_,_,o,_,_,e,ex,_⟩:=I.bH p _ hk
     exact⟨o,e,ex⟩
    ·obtain⟨_,_,_,_,o,_,_,e,ex,_⟩:=I.bH p _ hk
     exact⟨o,e,ex⟩
   obtain⟨o,e,ex⟩:=z
   refine⟨⟨o,e,ex.1⟩,fun a e2=>?_⟩
   cases e2
   exact⟨o,e,ex.2.1⟩
  ·obtain⟨o,_,_,_,e,ex,_⟩:=I.bH p _ hk
   refine⟨⟨o,e,ex.1⟩,fun a e2=>?_⟩
   cases e2
   exact⟨o,e,ex.2.1⟩
 |_=>exact False.elim ty
def tBM(K:PySem.W.Frag)(T:String)(r:V→List V→Hp→VK→Prop)(to:TE)(t:TA):TE:=fun σ H Q=>to σ H fun x H1=>Zo K T x H1∧t σ H1 fun xs H2=>r x xs H2 Q
variable {o e:Expr}{es:List Expr}{to:TE}{t:TA}{name:Str}{apos mO:Pos}{T id:String}{r:V→List V→Hp→VK→Prop}
theorem ip(pa:PlainAttrs T)(slot:Slot T name id)(hty:typeOf (.builtin id)=pure (.type "method_descriptor"))(hm:MtR X id r)(ho:PE X o to)(ha:PA X (e::es) t)
  (Mx:attributeBase o name X.env (eval o X.env)=eval o X.env:=by rfl)
  (yG:((backTo mO (starEach (e::es) X.env)).all (fun x=>!x.1)&&(backToKw mO (keywordEach [] X.env)).all (fun x=>x.1.isSome)
   &&decide ((e::es).length+([]:List Keyword).length+(if ([]:List Keyword).isEmpty then 0 else 1) <30))=true:=by rfl)
  (My:(apos.endLine==mO.line)=true:=by rfl) (hs:starEach (e::es) X.env=(false,eval e X.env)::starEach es X.env:=by rfl) (Hc:(backTo mO (starEach es X.env)).any (·.1)=false:=by rfl):
  PE X (.Call (.Attribute o name apos) (e::es) [] mO) (tBM X.K T r to t):=by
 intro pins s σ H Q I h
 refine wpAny_Call_method_late Mx yG My rfl (bG (ho pins s σ H _ I h) fun v s1 ⟨x,H1,I1,r1,ty,q1⟩=>?_)
 obtain⟨h1,h2⟩:=G9 I1 r1 ty
 refine⟨T,id,pa,slot,hty,h1,h2,?_⟩
 have hA:=ha mO pins s1 σ H1 _ I1 q1
 rw[hs] at hA ⊢
 refine Calls.callWith_builtin (by show (false||(backTo mO (starEach es X.env)).any (·.1))=false;rw[Hc]<;>rfl) (Calls.evalArgs_plain ?_)
 exact bG hA fun us s2 ⟨vs,H2,I2,r2,q2⟩=>hm pins s2 σ H2 x vs v us Q I2 r1 r2 q2
end
end L2
namespace L2
open PySem PySem.Spec PyProof.Rows
def Zp(X:Cx)(id:String)(r:V→List V→Hp→VK→Prop):Prop:=
 ∀(pins:List (Addr×Obj)) (s:Shared) (σ:St) (H:Hp) (x:V) (xs:List V) (v:Value) (us:List Value) (Q:VK),Inv X pins σ H s→RelV x v→Vals xs us→r x xs H Q→
  wpAny (model X.prog X.w) X.A (call (.builtin id) (v::us)) (EP X pins σ Q) X.xe s
theorem Vals.one:∀{x:V} {us:List Value},Vals [x] us→∃u,us=[u]∧RelV x u
 |_,_, .cons r .nil=>⟨_,rfl,r⟩
theorem Vals.rep{xs:List V}{us:List Value}(h:Vals xs us):∀k:Nat,Vals (List.replicate k xs).flatten (List.replicate k us).flatten
 |0=> .nil
 |k+1=>by
  rw[List.replicate_succ,List.replicate_succ,List.flatten_cons,List.flatten_cons]
  exact Vals.append h (Vals.rep h k)
theorem foldl_rep(its:List Value):∀(k:Nat) (acc:List Value),
  List.foldl (fun x1 x2=>x1++x2) acc.toArray (List.replicate k its.toArray)=(acc++(List.replicate k its).flatten).toArray
 |0,acc=>by simp
 |k+1,acc=>by
  have e:acc.toArray++its.toArray=(acc++its).toArray:=by simp
  have e2:(acc++its)++(List.replicate k its).flatten=acc++(List.replicate (k+1) its).flatten:=by
   rw[List.replicate_succ,List.flatten_cons,List.append_assoc]
  rw[←e2,←foldl_rep its k (acc++its),←e,List.replicate_succ,List.foldl_cons]
section
variable {X:Cx}{pins:List (Addr×Obj)}{σ:St}{H:Hp}{s:Shared}{l b:Addr}{xs ys zs:List V}
theorem Inv.Mz{its its':List Value}{n:Nat}{f:Array Value→Array Value}{t':Nat}(I:Inv X pins σ H s)(hH:H l=some (.lst xs))
  (e:s.heap.get? l=some { cls:= .type "list",data:= .seq its.toArray n }) (hf:f its.toArray=its'.toArray) (hv:Vals ys its') (hz:ys.length≤sizeLine):
  Inv X pins σ (upd H l (.lst ys)) { s with heap:=s.heap.update l (Obj.mapSeq f),toks:=t' }:=by
 have q:=PySem.IsL.update e f
 rw[hf] at q
 refine I.write (x:=l) (e:=l) (by rw[hH];exact trivial) (.inl rfl) (fun b' u hb hu=>(Heap.get?_update_other s.heap (Obj.mapSeq f) (Ne.symm hb)).trans hu) ⟨_,q⟩ ?_
 exact⟨hz,its',_,hv,q⟩
theorem Inv.BN{its:List Value}{t':Nat}(I:Inv X pins σ H s)(hv:Vals ys its)(hz:ys.length≤sizeLine):
  Inv X pins σ (upd H s.heap.objs.size (.lst ys)) { s with heap:=s.heap.push { cls:= .type "list",data:= .seq its.toArray },toks:=t' }:=
 I.laid (fun _ _ q=>Heap.get?_push_of_some _ q) (Nat.le_refl _) ⟨hz,its,0,hv,Heap.get?_push_size _ rfl⟩
theorem Inv.fresh(I:Inv X pins σ H s):H s.heap.objs.size=none:=I.bH.fresh (Nat.le_refl _)
theorem Inv.we(I:Inv X pins σ H s)(hH:H l=some (.lst xs)):xs.length≤sizeLine∧∃(its:List Value) (n:Nat),Vals xs its∧xs.length=its.length∧s.heap.get? l=some { cls:= .type "list",data:= .seq its.toArray n }:=by
 obtain⟨z,its,n,r,e⟩:=I.bH l _ hH
 exact⟨z,its,n,r,r.length,e⟩
theorem qX{n:Nat}(h:n≤sizeLine):Builtin.List.listTooLong n=false:=by
 unfold Builtin.List.listTooLong
 exact decide_eq_false (by omega)
end
section
variable {X:Cx}
def BO:V→List V→Hp→VK→Prop:=fun x vs H Q=>∃l xs y,x= .ref l∧vs=[y]∧H l=some (.lst xs)∧xs.length<sizeLine∧Q .dE (upd H l (.lst (xs++[y])))
theorem bY:Zp X "list.append" BO:=by
 intro pins s σ H x vs v us Q I rx rv h
 obtain⟨l,xs,y,rfl,rfl,hH,hz,q⟩:=h
 cases rx
 obtain⟨u,rfl,ru⟩:=rv.one
 obtain⟨z,its,n,r,hl,e⟩:=I.we hH
 refine call_meets F.slot_list_append ⟨_,e,rfl⟩ F.entry_list_append (F.args_list_append_2 _ _) (PySem.list_append l its.toArray n u (by rw[List.size_toArray];omega)) ⟨e,?_⟩
 refine⟨.dE,_,I.Mz (its':=its++[u]) hH e (by simp) (r.append (.cons ru .nil)) ?_,rfl,q⟩
 rw[List.length_append,List.length_singleton]
 omega
def BP:V→List V→Hp→VK→Prop:=fun x vs H Q=>∃l b xs zs,x= .ref l∧vs=[.ref b]∧H l=some (.lst xs)∧H b=some (.lst zs)∧xs.length+zs.length≤sizeLine∧Q .dE (upd H l (.lst (xs++zs)))
theorem wg:Zp X "list.extend" BP:=by
 intro pins s σ H x vs v us Q I rx rv h
 obtain⟨l,b,xs,zs,rfl,rfl,hH,hB,hz,q⟩:=h
 cases rx
 obtain⟨u,rfl,ru⟩:=rv.one
 cases ru
 obtain⟨z,its,n,r,hl,e⟩:=I.we hH
 obtain⟨z2,tL,n2,r2,Lw,e2⟩:=I.we hB
 have pI:its.toArray.size+tL.toArray.size≤sizeLine:=by rw[List.size_toArray,List.size_toArray];omega
 have yH:¬(!its.toArray.isEmpty&&Builtin.List.listTooLong (its.toArray.size+tL.toArray.size))=true:=by
  rw[qX pI,Bool.and_false]
  exact Bool.false_ne_true
 refine call_meets F.slot_list_extend ⟨_,e,rfl⟩ F.entry_list_extend (F.args_list_extend_2 _ _)
  (AutoSeq1.list_extend_list_list_0 l its.toArray n b tL.toArray n2 yH (by rw[List.size_toArray];omega) (by omega)) ⟨e,e2,?_⟩
 refine⟨.dE,_,I.Mz (its':=its++tL) hH e (by simp) (r.append r2) ?_,rfl,q⟩
 rw[List.length_append]
 omega
def Wb:R2:=fun x y H Q=>∃l b xs zs,x= .ref l∧y= .ref b∧H l=some (.lst xs)∧H b=some (.lst zs)∧xs.length+zs.length≤sizeLine∧∀p,H p=none→Q (.ref p) (upd H p (.lst (xs++zs)))
theorem mP:km X (binaryOp .Add) Wb:=by
 intro pins s σ H x y v u Q I rx ry h
 obtain⟨l,b,xs,zs,rfl,rfl,hH,hB,hz,q⟩:=h
 cases rx
 cases ry
 obtain⟨z,its,n,r,hl,e⟩:=I.we hH
 obtain⟨z2,tL,n2,r2,Lw,e2⟩:=I.we hB
 refine PySem.P.add_list e e2 ?_ (by rw[List.size_toArray,List.size_toArray];omega)
 have ea:its.toArray++tL.toArray=(its++tL).toArray:=by simp
 rw[ea]
 exact⟨.ref _,_,I.BN (t':=s.toks) (r.append r2) (by rw[List.length_append];omega),rfl,q _ I.fresh⟩
def Wc:R2:=fun x y H Q=>∃l k xs,x= .ref l∧y= .int k∧H l=some (.lst xs)∧ -(2^63)≤k∧k<2^63∧xs.length*k.toNat≤sizeLine∧
 ∀p,H p=none→Q (.ref p) (upd H p (.lst (List.replicate k.toNat xs).flatten))
theorem len_rep{α:Type}(xs:List α)(k:Nat):(List.replicate k xs).flatten.length=k*xs.length:=by
 induction k with
 |zero=>simp
 |succ k ih=>rw[List.replicate_succ,List.flatten_cons,List.length_append,ih,Nat.succ_mul,Nat.add_comm]
theorem mQ:km X (binaryOp .Mult) Wc:=by
 intro pins s σ H x y v u Q I rx ry h
 obtain⟨l,k,xs,rfl,rfl,hH,h1,h2,hz,q⟩:=h
 cases rx
 obtain⟨t,rfl⟩:=ry
 obtain⟨z,its,n,r,hl,e⟩:=I.we hH
 have hlen:its.toArray.size*k.toNat≤sizeLine:=by rw[List.size_toArray,←hl];exact hz
 have Wd:¬its.toArray.size*k.toNat> (2^63 - 1) /8:=by
  have:(sizeLine:Nat)≤(2^63 - 1) /8:=by decide
  omega
 have We:¬(!Builtin.List.listFitsIndex k)=true:=by
  rw[fitsIndex_both h1 h2]
  exact Bool.false_ne_true
 have yH:¬Builtin.List.listTooLong (its.toArray.size*k.toNat)=true:=by
  rw[qX hlen]
  exact Bool.false_ne_true
 have yI:List.foldl (fun x1 x2=>x1++x2) #[] (List.replicate (if its.toArray.isEmpty=true then 0 else k.toNat) its.toArray)=(List.replicate k.toNat its).flatten.toArray:=by
  have f0:∀m:Nat,List.foldl (fun x1 x2=>x1++x2) #[] (List.replicate m its.toArray)=(List.replicate m its).flatten.toArray:=fun m=>by
   have:=foldl_rep its m []
   rw[List.nil_append] at this
   exact this
  rw[f0]
  cases its with
  |nil=>simp
  |cons a r'=>rw[if_neg (by simp)]
 refine wpAny_binaryOp_repeat_ref (T:="list") (U:="int") (by decide) ⟨_,e,rfl⟩ (fun s'=>typeIs_int s' k t) noFill_list_mul F.fills_int_mul F.slot_int_rmul repeat_list F.slot_int_index.lookup
  (call_meets F.slot_int_rmul (typeIs_int s k t) F.entry_int_rmul (F.args_int_rmul_2 _ _) (int___rmul___int_list k t l its.toArray n)
   ⟨e,rfl,⟨_,e,rfl⟩,call_meets F.slot_list_mul ⟨_,e,rfl⟩ F.entry_list_mul (F.args_list_mul_2 _ _) (AutoListH.list___mul___list_int_3 l its.toArray n k t We Wd yH) ⟨e,?_⟩⟩)
 rw[yI]
 exact⟨.ref _,_,I.BN (t':=s.toks) (r.rep k.toNat) (by rw[len_rep,Nat.mul_comm];exact hz),rfl,q _ I.fresh⟩
end
section
variable {prog:Program}{w:World}{A:Around}{E:Value→Shared→Prop}{s:Shared}
end
section
variable {X:Cx}
end
end L2
namespace Zq
open PySem PySem.W PySem.Calls PyProof.Rows
theorem lP{P:Params}{h:Heap}:∀(ns:List Int) (vs:List Value),WellAll P h vs (ns.map WData.int)→IntsAre vs ns:=by
 intro ns
 induction ns with
 |nil=>
  intro vs w
  rw[List.map_nil] at w
  cases w
  exact .nil
 |cons n ns ih=>
  intro vs w
  rw[List.map_cons] at w
  cases w with
  |cons a b=>
   cases a
   exact .cons _ _ (ih _ b)
theorem wj{l:OpenLaw}{n:Nat}(hn:l.most=some n){P:Params}{h:Heap}{args:List WData}{vals:List Value}
  (BQ:l.row.toRowW.claim.pre args=true) (Wf:WellAll P h vals args):
  ∃a vs ns,vals=[Value.ref a]∧args=[WData.list (ns.map WData.int)]∧h.get? a=some { cls:= .type "list",data:= .seq vs.toArray }∧IntsAre vs ns∧ns.length≤n:=by
 have hsh:WShape.hasAll [] args [.list .int]=true:=(pre_splitW BQ).1
 have hc:l.pre.holds [] { args:=args }=true:=(pre_splitW BQ).2
 obtain⟨d,r,rfl,h1,h2⟩:=hasAllW_cons hsh
 obtain rfl:=hasAllW_nil h2
 obtain⟨xs,rfl,h3⟩:=hasW_list h1
 obtain⟨ns,rfl⟩:=items_int h3
 have hlen:ns.length≤n:=by
  unfold OpenLaw.pre at hc
  have h4:(WTm.not (.lt (.lit (.int (n:Int))) (.len (.arg 0)))).holds [] { args:=[.list (ns.map .int)] }=true:=by
   have h4:=(holds_andW hc).1
   rw[hn] at h4
   exact h4
  have h5:=condW_of h4 (w_not (w_lt w_lit (w_len_list (w_arg rfl))))
  rw[List.length_map] at h5
  refine Nat.le_of_not_lt fun q=>?_
  have q':(n:Int) < ((ns.length:Nat):Int):=by omega
  first
   | (rw[decide_eq_true q'] at h5;exact absurd h5 (by decide))
   | (simp at h5;omega)
 cases Wf with
 |cons w1 w2=>
  cases w2
  cases w1 with
  |list ho Wg=>exact⟨_,_,ns,rfl,rfl,ho,lP ns _ Wg,hlen⟩
theorem wk(l:OpenLaw)(args:List WData):l.row.toRowW.claim.post args (.bool true) args=true:=
 postW_of (r:=l.row.toRowW) (X:=(true==true))
  (show WShape.has [] (.bool true) .bool=true by first|rfl|decide|simp [WShape.has,WShape.arms,WShape.armsAll])
  (show (WTm.eq .res (.lit (.bool true))).value [] { args:=args,res:=some (.bool true),after:=args }=some (.bool (true==true)) from w_eq_bool (w_res rfl) w_lit) rfl
theorem qY{l:OpenLaw}{n:Nat}{q:Program}{loose:List Str}{XP:(Str→Option Value)→Heap→Prop}{YP:World→Heap→Prop}{d:DefRec}
  (hn:l.most=some n) (MA:d.params.defaults=[])
  (call:∀(w:World) (s₀ s₁:Shared) (mg mb:Str→Option Value) (fa:Addr) (o:Obj) (pm cd doc:Value) (a:Addr) (vs:List Value) (ns:List Int),
   Ground q loose [] XP w s₀ mg mb s₁.heap→YP w s₁.heap→
   s₁.heap.get? fa=some o→o.data= .func (docDef d.name d.params d.body d.scope pm cd doc)→s₁.heap.CodeRec cd d.name→mg d.name=some (.ref fa)→
   s₁.heap.get? a=some { cls:= .type "list",data:= .seq vs.toArray }→IntsAre vs ns→ns.length≤n→s₁.gens=#[]→
   codeAny (model l.prog w) callerA (.call (.ref fa) ⟨[.ref a],[]⟩) (fun r s'=>r= .ok (.ret (.bool true))∧OldK s₁.heap s'.heap∧s'.os=s₁.os∧AllBare s'.gens) s₁):
  WalkO q loose XP YP l.row.toRowW d [] (fun f vs=>PySem.call f vs):=by
 intro w s₀ s₁ mg mb G Y fa o pm cd doc dV kV ho hd qN hD MB hg args vals as BQ hlay hrd Wf Ly
 obtain rfl:dV= .none:=Dflts.none hD MA
 obtain rfl:kV= .none:=Dflts.noKw hD
 obtain⟨a,vs,ns,rfl,rfl,Hd,hints,hlen⟩:=wj hn BQ Wf
 refine enter_call (codeAny_mono (call w s₀ s₁ mg mb fa o pm cd doc a vs ns G Y ho (fd_plain hd) qN MB Hd hints hlen hg) fun r s' hq=>?_)
 obtain⟨rfl,h2,h3,h4⟩:=hq
 exact⟨.inl ⟨.bool true, .bool true,[],rfl,fun _=>rfl, .bool true,wk l _,fun _=>⟨List.Pairwise.nil,fun _ hm=>(nomatch hm)⟩⟩,h2,h3,h4⟩
section
variable {prog:Program}{w:World}{A:Around}{E:Value→Shared→Prop}{s:Shared}{K:Frag}
end
end Zq
namespace L2
open PySem PySem.Spec PyProof.Rows
theorem oO:∀{vs:List Value} {ns:List Int},IntsAre vs ns→Vals (ns.map V.int) vs
 |_,_, .nil=> .nil
 |_,_, .cons n t h=> .cons ⟨t,rfl⟩ (oO h)
def He(H:Hp):Prop:=∀b,H b=none∨∃o xs,H b=some (.uI o (.lst xs))
theorem yJ{P:Program}{w:World}{K:PySem.W.Frag}{mg mb:Str→Option Value}{CX:xU}{k:Nat}{fa a:Addr}{fd:FuncData}{x:Str}{sp:Sp}{s₁:Shared}{vs:List Value}{ns:List Int}
  (KX:K.In s₁.heap) (qJ:s₁.heap.Ns mainGlobals mg) (hb:s₁.heap.Ns builtinsNs mb) (hbb:∀x:Str,x≠"__name__" →mb x=bootBuiltins x) (Wh:s₁.heap.NoLimit) (hg:s₁.gens=#[])
  (ha:s₁.heap.get? a=some { cls:= .type "list",data:= .seq vs.toArray }) (hi:IntsAre vs ns) (hl:ns.length≤sizeLine) (hr:cN k callerA)
  (F:∀base:Heap,K.In base→base.Ns mainGlobals mg→eI P w K mg base CX k fa fd [x] sp) (MC:∀(s:Shared) (u:Value),BindsTo s fd ⟨[u],[]⟩ [(x,u)])
  (xV:∀H:Hp,He H→aD K H a (ns.map V.int)→sp [.ref a] H (fun v _=>v= .bl true) fun _ _ _=>False)
  (Wi:∀H e s',CX [] H s₁ (fun _ _ _=>False) e s'→False):
  codeAny (model P w) callerA (.call (.ref fa) ⟨[.ref a],[]⟩) (fun r s'=>r= .ok (.ret (.bool true))∧OldK s₁.heap s'.heap∧s'.os=s₁.os∧AllBare s'.gens) s₁:=by
 have rv:=oO hi
 have Wj:=hi.length
 have core:∀H:Hp,He H→aD K H a (ns.map V.int)→jF P w H s₁.heap→(∀b,H b≠none→b=a)→(H a≠none→K.lookup a=none)→
   codeAny (model P w) callerA (.call (.ref fa) ⟨[.ref a],[]⟩) (fun r s'=>r= .ok (.ret (.bool true))∧OldK s₁.heap s'.heap∧s'.os=s₁.os∧AllBare s'.gens) s₁:=by
  intro H hO hS bH hA hK
  have base_of:∀{b:Addr} {o:Obj},s₁.heap.get? b=some o→H b=none→(pF s₁.heap H).get? b=some o:=fun e n=>ya e n
  have Mr:∀{b:Addr} {o:Obj} {es:Array DictEntry} {ep:Nat},s₁.heap.get? b=some o→o.data= .dict es ep→H b=none:=fun {b o es ep} e d=>by
   cases q:H b with
   |none=>rfl
   |some u=>
    have e':b=a:=hA b (by rw[q];simp)
    subst e'
    rw[ha] at e;cases e
    have d':Data.seq vs.toArray _=Data.dict es ep:=d
    cases d'
  have UL:∀{b:Addr} {m:Str→Option Value},s₁.heap.Ns b m→(pF s₁.heap H).Ns b m:=fun {b m} ⟨o,es,ep,e,d,r⟩=>⟨o,es,ep,base_of e (Mr e d),d,r⟩
  have Zr:K.In (pF s₁.heap H):=fun b o e=>base_of (KX b o e) (by
   cases q:H b with
   |none=>rfl
   |some u=>
    have e':b=a:=hA b (by rw[q];simp)
    subst e'
    rw[hK (by rw[q];simp)] at e;cases e)
  have hM:Mod K mg (pF s₁.heap H):=⟨Zr,UL qJ,⟨mb,UL hb,hbb⟩,let ⟨mc,h1,h2⟩:=Wh;⟨mc,UL h1,h2⟩⟩
  have e0:tH P w K mg (pF s₁.heap H) callerA [] s₁ H:=⟨rfl,hM,fun b o e=>Bp e,Nat.le_of_eq (vR _ _),trivial,fun b hb=>absurd (show b∈([]:List Addr) from hb) (by simp),bH, .of_eq hg⟩
  refine codeAny_mono ((F _ Zr (UL qJ)).run callerA [] s₁ H ⟨[.ref a],[]⟩ [.ref a] [.ref a] _ _ hr e0 (MC s₁ (.ref a)) (.cons rfl .nil) (xV H hO hS)) fun r s' h=>?_
  cases r with
  |error e=>exact(Wi H e s' h).elim
  |ok fl=>
   cases fl with
   |next=>exact False.elim h
   |brk=>exact False.elim h
   |cont=>exact False.elim h
   |ret u=>
    obtain⟨v,H',os,bare,un,Wk,r',q⟩:=h
    have q':v= .bl true:=q
    subst q'
    obtain rfl:u=Value.bool true:=r'
    refine⟨rfl,OldK.of_keep fun b o e=>?_,os,bare⟩
    cases q:H b with
    |none=>exact un.keep b o e q (by intro z;exact absurd (show b∈([]:List Addr) from z) (by simp)) (by simp)
    |some u=>
     rcases hO b with z| ⟨ob,xs,z⟩
     ·rw[q] at z;cases z
     ·have z2:=un.mF b ob _ z
      obtain⟨e1,_⟩:=bH b _ z
      obtain⟨e2,_⟩:=Wk b _ z2
      rw[e] at e1;cases e1
      exact e2
 cases hk:K.lookup a with
 |some o=>
  have e:=KX a o hk
  rw[ha] at e
  cases e
  refine core (fun _=>none) (fun _=> .inl rfl) (.inr ⟨_,vs.toArray,_,hk,rfl,rfl,rfl,by rw[List.size_toArray,Wj];exact hl,by simpa using rv⟩) (fun b u z=>by have z':(none:Option HO)=some u:=z;cases z') (fun b z=>absurd rfl z) fun z=>absurd rfl z
 |none=>
  refine core (fun b=>if b=a then some (.uI { cls:= .type "list",data:= .seq vs.toArray } (.lst (ns.map V.int))) else none) (fun b=>?_) (.inl (.inr ⟨{ cls:= .type "list",data:= .seq vs.toArray },if_pos rfl⟩)) (fun b u z=>?_) (fun b z=>?_) fun _=>hk
  ·by_cases hb:b=a
   ·exact .inr ⟨_,_,if_pos hb⟩
   ·exact .inl (if_neg hb)
  ·by_cases hb:b=a
   ·have z':=(if_pos hb).symm.trans z
    cases z'
    subst hb
    exact⟨ha,by rw[List.length_map];exact hl,vs,_,rv,ha⟩
   ·have z':=(if_neg hb).symm.trans z
    cases z'
  ·by_cases hb:b=a
   ·exact hb
   ·exact absurd (if_neg hb) z
end L2
namespace L2
open PySem PySem.Spec PyProof.Rows
theorem BR{l:PySem.W.OpenLaw}{n k:Nat}{q:Program}{loose:List Str}{XP:(Str→Option Value)→Heap→Prop}{YP:World→Heap→Prop}{d:DefRec}{K:Params→PySem.W.Frag}{CX:World→xU}{sp:World→Sp}{x:Str}
  (hn:l.most=some n) (BD:n≤sizeLine) (MA:d.params.defaults=[]) (hr:cN k callerA)
  (hY:∀(w:World) (h:Heap),YP w h→(K w.params).In h)
  (F:∀(w:World) (mg:Str→Option Value) (fa:Addr) (h:Heap),(K w.params).In h→h.Ns mainGlobals mg→mg d.name=some (.ref fa)→
   ∃fd:FuncData,(∀(s:Shared) (u:Value),BindsTo s fd ⟨[u],[]⟩ [(x,u)])∧
    ∀base:Heap,(K w.params).In base→base.Ns mainGlobals mg→eI l.prog w (K w.params) mg base (CX w) k fa fd [x] (sp w))
  (xV:∀(w:World) (H:Hp) (a:Addr) (ns:List Int),ns.length≤n→He H→aD (K w.params) H a (ns.map V.int)→sp w [.ref a] H (fun v _=>v= .bl true) fun _ _ _=>False)
  (Wi:∀(w:World) (H:Hp) (s:Shared) (e:Value) (s':Shared),CX w [] H s (fun _ _ _=>False) e s'→False):
  PySem.W.WalkO q loose XP YP l.row.toRowW d [] (fun f vs=>PySem.call f vs):=by
 refine Zq.qY hn MA fun w s₀ s₁ mg mb fa o pm cd doc a vs ns G Y ho hd qN MB Hd hints hlen hg=>?_
 have KX:=hY w _ Y
 obtain⟨fd,hb,hF⟩:=F w mg fa _ KX G.T.g MB
 exact yJ KX G.T.g G.T.b G.T.builtins G.T.nolimit hg Hd hints (Nat.le_trans hlen BD) hr hF hb (fun H hO hS=>xV w H a ns hlen hO hS) fun H e s'=>Wi w H s₁ e s'
end L2
namespace L2
open PySem PySem.Spec PyProof.Rows
def inClass(s:Stmt)(j:Nat):Stmt:=match s with
 | .ClassDef _ _ _ body _ _ _ _ _ _ _=>body.getD j (.Pass ⟨0,0,0,0⟩)
 |_=> .Pass ⟨0,0,0,0⟩
def aM(s:Stmt):Arguments:=match s with
 | .FunctionDef _ a _ _ _ _ _ _ _ _=>a
 |_=>{ posonlyargs:=[],args:=[],vararg:=none,kwonlyargs:=[],kw_defaults:=[],kwarg:=none,defaults:=[] }
def aC(s:Stmt):List Stmt:=match s with
 | .FunctionDef _ _ b _ _ _ _ _ _ _=>b
 |_=>[]
def ag(s:Stmt):Scope:=match s with
 | .FunctionDef _ _ _ _ _ _ sc _ _ _=>sc
 |_=>{ kind:= .function,names:=[],isGenerator:=false,isCoroutine:=false }
abbrev pL:xU:=fun _ _ _ _ _ _=>False
abbrev E0:XK:=fun _ _ _=>False
theorem aX{X:Cx}:Passes pL X E0:=fun _ _ _ _ _ _ _ h=>h.elim
structure yK(K:PySem.W.Frag)(x qual:Str)(st:Stmt)(f:Addr)(fd:FuncData):Prop where
 ex:∃(oc:Value) (od:Option Addr) (kV doc pm:Value) (an:Option Addr) (bW ct:Value) (qI:Array (Option Value)),
  fd=PySem.W.fnOf x qual (aM st) (aC st) (ag st) .none kV doc pm an bW ct∧K.lookup f=some ⟨oc,od, .func fd,qI⟩∧PySem.W.codeIn K bW qual=true
 kp:PySem.W.keepIn K (.ref f)=true
section
variable {P:Program}{w:World}{K:PySem.W.Frag}{mg:Str→Option Value}{base:Heap}
theorem yK.ok{x qual:Str}{st:Stmt}{f:Addr}{fd:FuncData}{N ps:List Str}{k:Nat}{sp:Sp}(F:yK K x qual st f fd)(S:aI N ps (ag st))(len:∀vs H Q E,sp vs H Q E→vs.length=ps.length)
  (d9:∀(bW:Value) (A:Around) (outer:List Env) (s:Shared) (H:Hp) (vs:List V) (Q:VK) (E:XK),cN k (A.deeper (envOfC qual (ag st) s.heap.objs.size f bW))→sp vs H Q E→
   ∃t,lh (h9 pL P w K mg base N qual (ag st) f bW A outer s H E).Bi (aC st) t∧t { nx:=fun _ H'=>Q .dE H',rt:=Q } (start N vs) H):eI P w K mg base pL (k+1) f fd ps sp:=by
 obtain⟨oc,od,kV,doc,pm,an,bW,ct,qI,rfl,lk,qN⟩:=F.ex
 refine fn_of lk qN S len fun A outer s H vs Q E hr xV=>?_
 obtain⟨t,h,q⟩:=d9 bW A outer s H vs Q E hr xV
 exact⟨t,h.Bi,q⟩
theorem yK.binds{x qual:Str}{st:Stmt}{f:Addr}{fd:FuncData}{ps:List Str}(F:yK K x qual st f fd)
  (h:∀(kV doc pm:Value) (an:Option Addr) (bW ct:Value) (us:List Value),us.length=ps.length→bindArgs (PySem.W.fnOf x qual (aM st) (aC st) (ag st) .none kV doc pm an bW ct) ⟨us,[]⟩=pure (ps.zip us)):Binds K fd ps []:=by
 obtain⟨oc,od,kV,doc,pm,an,bW,ct,qI,rfl,lk,qN⟩:=F.ex
 exact .all (h kV doc pm an bW ct)
theorem aF{x qual:Str}{st:Stmt}{f:Addr}{oc:Value}{od an:Option Addr}{qI:Array (Option Value)}{kV doc pm bW ct:Value}(l:K.lookup f=some ⟨oc,od, .func (PySem.W.fnOf x qual (aM st) (aC st) (ag st) .none kV doc pm an bW ct),qI⟩)
  (c:PySem.W.codeIn K bW qual=true) (k:PySem.W.keepIn K (.ref f)=true):yK K x qual st f (PySem.W.fnOf x qual (aM st) (aC st) (ag st) .none kV doc pm an bW ct):=⟨⟨oc,od,kV,doc,pm,an,bW,ct,qI,rfl,l,c⟩,k⟩
end
section
variable {X:Cx}
theorem pv(i:Nat){x:Str}{pos:Pos}(hN:X.N[i]? =some x:=by rfl)(hv:VM X.env.scope x:=by first|exact Or.inl rfl|exact Or.inr (Or.inl rfl) |exact Or.inr (Or.inr rfl))(hd:(x==("__debug__" :Str))=false:=by decide)
  (qN:(x==("__classdict__" :Str))=false:=by decide):PE X (.Name x pos) (L1 i):=GV hN hv hd qN
end
theorem lQ{A B:Prop}(h:B):if false=true then A else B:=by
 rw[if_neg Bool.false_ne_true]
 exact h
theorem Hf{A B:Prop}(h:A):if true=true then A else B:=by
 rw[if_pos rfl]
 exact h
theorem gz{c A B:Prop}[Decidable c](h1:c→A)(h2:¬c→B):if c then A else B:=by
 by_cases h:c
 ·rw[if_pos h]
  exact h1 h
 ·rw[if_neg h]
  exact h2 h
theorem Fj{c A B:Prop}[Decidable c](hc:c)(h:B):if (!decide c)=true then A else B:=by
 rw[decide_eq_true hc]
 exact lQ h
def ao(H H':Hp):Prop:=∀b o,H b=some o→H' b=some o
theorem ao.refl(H:Hp):ao H H:=fun _ _ h=>h
theorem ao.trans{H H1 H2:Hp}(a:ao H H1)(b:ao H1 H2):ao H H2:=fun c o h=>b c o (a c o h)
theorem ao.free{H H':Hp}(e:ao H H'){l:Addr}(h:H' l=Option.none):H l=Option.none:=by
 cases q:H l with
 |none=>rfl
 |some o=>
  rw[e l o q] at h
  cases h
theorem ao.seq{K:PySem.W.Frag}{H H':Hp}{a:Addr}{xs:List V}(e:ao H H')(h:aD K H a xs):aD K H' a xs:=by
 rcases h with (h| ⟨o,h⟩) |h
 ·exact .inl (.inl (e _ _ h))
 ·exact .inl (.inr ⟨o,e _ _ h⟩)
 ·exact .inr h
section
variable {κ:Type}[DecidableEq κ]
end
end L2
namespace L2
open PySem PySem.Spec PyProof.Rows
section
variable {X:Cx}{pins:List (Addr×Obj)}{σ:St}{H:Hp}{s:Shared}{a:Addr}{u u':HO}
end
section
variable {X:Cx}{tg:Expr}
end
def BS:V→Option Value
 | .ty n=>some (.type n)
 | .ref a=>some (.ref a)
 |_=>none
theorem iq{X:Cx}:fo X (.builtin "isinstance") (fun xs H Q=>∃x c cv t b,xs=[x,c]∧BS c=some cv∧kF X.K H x t∧PySem.W.kitOne X.K t cv=some b∧Q (.bl b) H):=by
 intro pins s σ H xs us Q I r h
 obtain⟨x,c,cv,t,b,rfl,hc,ty,e,q⟩:=h
 obtain⟨u,v,rfl,ru,rv⟩:=vals2 r
 have hv:v=cv:=by
  cases c<;>simp only [BS,Option.some.injEq,reduceCtorEq] at hc
  ·cases (show v=Value.ref _ from rv);exact hc
  ·cases (show v=Value.type _ from rv);exact hc
 subst hv
 exact vZ I ru ty e fun tk=>⟨.bl b,H,I.tok tk,rfl,q⟩
section
variable {X:Cx}
end
end L2
namespace L2
open PySem PySem.Spec PyProof.Rows
def oP(X:Cx)(pins:List (Addr×Obj))(N:List Str)(scope:Scope)(cl:List (Str×Addr))(fp:List Addr)(s:Shared)(H:Hp):Cx where
 prog:=X.prog
 w:=X.w
 K:=X.K
 mg:=X.mg
 base:=X.base
 A:=X.A
 N:=N
 s₀:=s
 H₀:=H
 env:=compEnvC scope cl s.heap.objs.size X.env
 outer:=X.stack
 stack:=X.stack
 ex:=fp
 fn:=fun _=>false
 calm:=X.calm
 pn:=X.pn++pins
 xe:=fun _ _=>False
structure MD(X:Cx)(N:List Str)(fr:List (Option Nat))(scope:Scope)(cl:List (Str×Addr)):Prop where
 yL:closureFor scope X.env=pure cl
 kind:scope.kind= .function
 pM:∀y∈scope.names,y.2≠ .cell
 names:∀y∈scope.names,y.2= .local→scope.names.lookup y.1=some .local
 cells:∀x c,cl.lookup x=some c→X.env.cells.lookup x=some c
 has:∀x,((relabel scope X.env).names.lookup x=some .cell∨(relabel scope X.env).names.lookup x=some .free)→∃c,cl.lookup x=some c
 len:fr.length=N.length
 out:∀(i j:Nat) (x:Str),N[i]? =some x→fr[i]? =some (some j)→X.N[j]? =some x∧X.env.kindOf x=some .cell∧((relabel scope X.env).names.lookup x=some .cell∨(relabel scope X.env).names.lookup x=some .free)
end L2
namespace L2
open PySem PySem.Spec PyProof.Rows
def kH(env:Env):List (Str×NameKind)→List (Str×Addr)→List (Str×Addr)
 | [],cs=>cs
 | (n,k)::r,cs=>kH env r (if (k== .free)=true then (n,(env.cells.lookup n).getD 0)::cs else cs)
def iu(scope:Scope)(env:Env):List (Str×Addr):=kH env scope.names []
theorem uS{env:Env}:∀{names:List (Str×NameKind)} (cs:List (Str×Addr)),(∀y∈names,y.2= .free→∃c,env.cells.lookup y.1=some c)→
  (forIn names cs fun (x:Str×NameKind) cs=>match x with
   | (name,kind)=>if (kind==NameKind.free)=true then do let c←cellOf env name;pure (ForInStep.yield ((name,c)::cs)) else pure (ForInStep.yield cs):Sem (List (Str×Addr)))=pure (kH env names cs)
 | [],cs,_=>rfl
 | (n,k)::r,cs,h=>by
   rw[List.forIn_cons]
   dsimp only
   have ih:=fun cs=>uS (env:=env) (names:=r) cs fun y hy=>h y (List.mem_cons_of_mem _ hy)
   by_cases hk:(k==NameKind.free)=true
   ·obtain⟨c,hc⟩:=h (n,k) (List.mem_cons_self ..) (by simpa using hk)
    rw[if_pos hk,show kH env ((n,k)::r) cs=kH env r ((n,c)::cs) by rw[kH,if_pos hk,hc];rfl]
    have e:cellOf env n=pure c:=by unfold cellOf;rw[hc]
    rw[e]
    exact ih _
   ·rw[if_neg hk,show kH env ((n,k)::r) cs=kH env r cs by rw[kH,if_neg hk]]
    exact ih _
theorem uT{scope:Scope}{env:Env}(h:∀y∈scope.names,y.2= .free→∃c,env.cells.lookup y.1=some c):closureFor scope env=pure (iu scope env):=by
 have t:=uS (env:=env) [] h
 have e:closureFor scope env=((forIn scope.names ([]:List (Str×Addr)) fun (x:Str×NameKind) cs=>match x with
   | (name,kind)=>if (kind==NameKind.free)=true then do let c←cellOf env name;pure (ForInStep.yield ((name,c)::cs)) else pure (ForInStep.yield cs)) >>= fun cs=>pure cs:Sem (List (Str×Addr))):=rfl
 rw[e,t]
 rfl
theorem jn{env:Env}:∀{names:List (Str×NameKind)} {cs:List (Str×Addr)},(∀y∈names,y.2= .free→∃c,env.cells.lookup y.1=some c)→(∀x c,cs.lookup x=some c→env.cells.lookup x=some c)→∀x c,(kH env names cs).lookup x=some c→env.cells.lookup x=some c
 | [],_,_,hc,x,c,h=>hc x c h
 | (n,k)::r,cs,hn,hc,x,c,h=>by
   rw[kH] at h
   refine jn (names:=r) (fun y hy=>hn y (List.mem_cons_of_mem _ hy)) (fun x c h=>?_) x c h
   by_cases hk:(k==NameKind.free)=true
   ·rw[if_pos hk] at h
    obtain⟨c',om⟩:=hn (n,k) (List.mem_cons_self ..) (by simpa using hk)
    rw[List.lookup_cons] at h
    cases e:x==n with
    |true=>
     rw[e] at h
     have ex:x=n:=by simpa using e
     subst ex
     rw[om] at h ⊢
     exact h
    |false=>
     rw[e] at h
     exact hc x c h
   ·rw[if_neg hk] at h
    exact hc x c h
theorem jH{env:Env}:∀{names:List (Str×NameKind)} {cs:List (Str×Addr)} {x:Str},((x,NameKind.free)∈names∨∃c,cs.lookup x=some c)→∃c,(kH env names cs).lookup x=some c
 | [],_,_,h=>h.elim (fun z=>by cases z) fun z=>z
 | (n,k)::r,cs,x,h=>by
   rw[kH]
   refine jH (names:=r) ?_
   by_cases hk:(k==NameKind.free)=true
   ·rw[if_pos hk,List.lookup_cons]
    cases e:x==n with
    |true=>exact .inr ⟨_,rfl⟩
    |false=>
     rcases h with h|h
     ·rcases List.mem_cons.mp h with z|z
      ·cases z
       simp at e
      ·exact .inl z
     ·exact .inr h
   ·rw[if_neg hk]
    rcases h with h|h
    ·rcases List.mem_cons.mp h with z|z
     ·cases z
      exact absurd rfl hk
     ·exact .inl z
    ·exact .inr h
theorem fx{env:Env}(x:Str):∀names:List (Str×NameKind),
  (names.map fun (y:Str×NameKind)=>match y with
   | (n,k)=>if (k==NameKind.free&&env.scope.kind== .function&&env.kindOf n==some .cell)=true then (n,NameKind.cell) else (n,k)).lookup x
   =(names.lookup x).map fun k=>if (k==NameKind.free&&env.scope.kind== .function&&env.kindOf x==some .cell)=true then NameKind.cell else k
 | []=>rfl
 | (n,k)::r=>by
   have ih:=fx (env:=env) x r
   rw[List.map_cons,List.lookup_cons]
   by_cases e:(x==n)=true
   ·have ex:x=n:=by simpa using e
    subst ex
    dsimp only
    by_cases hc:(k==NameKind.free&&env.scope.kind== .function&&env.kindOf x==some .cell)=true
    ·rw[if_pos hc,List.lookup_cons,beq_self_eq_true]
     dsimp only [Option.map]
     rw[if_pos hc]
    ·rw[if_neg hc,List.lookup_cons,beq_self_eq_true]
     dsimp only [Option.map]
     rw[if_neg hc]
   ·have e':(x==n)=false:=by simpa using e
    dsimp only
    by_cases hc:(k==NameKind.free&&env.scope.kind== .function&&env.kindOf n==some .cell)=true
    ·rw[if_pos hc,List.lookup_cons,e']
     exact ih
    ·rw[if_neg hc,List.lookup_cons,e']
     exact ih
structure BU(sc scope:Scope)(NX N:List Str)(fr:List (Option Nat)):Prop where
 yM:sc.kind= .function
 kind:scope.kind= .function
 pM:∀y∈scope.names,y.2≠ .cell
 names:∀y∈scope.names,y.2= .local→scope.names.lookup y.1=some .local
 free:∀y∈scope.names,y.2= .free→sc.names.lookup y.1=some .cell
 len:fr.length=N.length
 out:((List.range N.length).all fun i=>match fr[i]? with
  |some (some j)=>(match N[i]? with
   |some x=>(NX[j]? ==some x)&&(scope.names.lookup x==some .free)
   |none=>false)
  |_=>true)=true
theorem cU{names:List (Str×NameKind)}{x:Str}{k:NameKind}(h:names.lookup x=some k):(x,k)∈names:=PySem.mem_of_lookup h
theorem BU.ME{X:Cx}{sc scope:Scope}{NX N:List Str}{fr:List (Option Nat)}(B:BU sc scope NX N fr)(e1:X.env.scope=sc)(e2:X.N=NX)(ok:X.Ok):MD X N fr scope (iu scope X.env):=by
 subst e1 e2
 have fc:∀y∈scope.names,y.2= .free→∃c,X.env.cells.lookup y.1=some c:=fun y hy hf=>ok.has y.1 (.inl (B.free y hy hf))
 have lk:∀x,(relabel scope X.env).names.lookup x=(scope.names.lookup x).map fun k=>if (k==NameKind.free&&X.env.scope.kind== .function&&X.env.kindOf x==some .cell)=true then NameKind.cell else k:=fun x=>fx x scope.names
 have tM:∀x,scope.names.lookup x=some .free→(relabel scope X.env).names.lookup x=some .cell:=fun x hx=>by
  have hk:X.env.kindOf x=some .cell:=B.free (x, .free) (cU hx) rfl
  rw[lk,hx,Option.map_some,hk,B.yM]
  rfl
 refine⟨uT fc,B.kind,B.pM,B.names,fun x c h=>jn fc (fun x c h=>by cases h) x c h,fun x h=>jH (.inl ?_),B.len,fun i j x h1 h2=>?_⟩
 ·rw[lk] at h
  cases e:scope.names.lookup x with
  |none=>rw[e] at h;rcases h with h|h<;>cases h
  |some k=>
   rw[e,Option.map_some] at h
   have hm:=cU e
   cases k with
   |free=>exact hm
   |cell=>exact absurd rfl (B.pM _ hm)
   |_=>rcases h with h|h<;>simp at h
 ·have hi:i<N.length:=(List.getElem?_eq_some_iff.mp h1).1
  have:=List.all_eq_true.mp B.out i (List.mem_range.mpr hi)
  rw[h2] at this
  dsimp only at this
  rw[h1] at this
  dsimp only at this
  rw[Bool.and_eq_true] at this
  have a1:X.N[j]? =some x:=by simpa using this.1
  have a2:scope.names.lookup x=some .free:=by simpa using this.2
  exact⟨a1,B.free (x, .free) (cU a2) rfl, .inl (tM x a2)⟩
end L2
namespace L2
open PySem PySem.Spec PyProof.Rows
def startB(fr:List (Option Nat))(σ:St):St:=fr.map fun o=>o.bind fun j=>(σ[j]?).join
theorem mR{fr:List (Option Nat)}{σ:St}{i:Nat}{v:V}(h:(startB fr σ)[i]? =some (some v)):∃j,fr[i]? =some (some j)∧σ[j]? =some (some v):=by
 unfold startB at h
 rw[List.getElem?_map] at h
 cases e:fr[i]? with
 |none=>rw[e] at h;cases h
 |some o=>
  rw[e] at h
  cases o with
  |none=>cases h
  |some j=>
   have h':(σ[j]?).join=some v:=Option.some.inj h
   cases q:σ[j]? with
   |none=>rw[q] at h';cases h'
   |some z=>rw[q] at h';exact⟨j,rfl,by rw[q];exact congrArg some h'⟩
section
variable {X:Cx}{pins:List (Addr×Obj)}{σ:St}{H:Hp}{s:Shared}{N:List Str}{fr:List (Option Nat)}{scope:Scope}{cl:List (Str×Addr)}{fp:List Addr}
theorem yN(B:MD X N fr scope cl)(I:Inv X pins σ H s)(f:∀b∈fp,eN X pins H b∧b<s.heap.objs.size):(oP X pins N scope cl fp s H).Ok where
 mod:=I.mod
 kind:=B.kind
 glob:=I.ok.glob
 blt:=I.ok.blt
 above:=Nat.le_refl _
 inj:=fun x y c h1 h2=>I.ok.inj x y c (B.cells x c h1) (B.cells y c h2)
 has:=fun x h=>B.has x h
 Bg:=fun x c h=>by cases h
 hd:=I.ok.hd
 frames:=I.ok.frames
 Br:= .inl rfl
 E1:=fun b hb=>⟨Nat.ne_of_lt (f b hb).2,fun x c h=>(f b hb).1.2.2.2.2.1 x c (B.cells x c h)⟩
 bs:=I.bs
 sU:=Nat.le_trans I.ok.sU I.sz
 mG:=fun b o e hb=>by
  rcases (f b hb).1.2.2.2.1 with h|h
  ·exact I.ok.mG b o e h
  ·exact absurd (Nat.lt_of_lt_of_le (Heap.lt_size e) (Nat.le_trans I.ok.sU h)) (Nat.lt_irrefl _)
 mH:=fun b hb h=>by
  rcases List.mem_cons.mp (I.ko b h) with z|z
  ·exact(f b hb).1.2.1 z
  ·exact(f b hb).1.2.2.1 z
 ig:=I.stack
 xT:=I.l7
theorem wm{h1:Heap}{t1:Nat}(B:MD X N fr scope cl)(I:Inv X pins σ H s)(f:∀b∈fp,eN X pins H b∧b<s.heap.objs.size)(qJ:h1.Ns s.heap.objs.size fun _=>none)
  (wo:∀b o,s.heap.get? b=some o→h1.get? b=some o):Inv (oP X pins N scope cl fp s H) [] (startB fr σ) H { s with heap:=h1,toks:=t1 }:=by
 obtain⟨m,hm,hl⟩:=I.loc
 refine⟨yN B I f,rfl,I.bare,Un.kept wo,⟨_,qJ,fun i x v e1 e2 _=>?_⟩,fun x c h=>?_,I.bH.fresh (Nat.le_refl _),fun x c h=>I.eK x c (B.cells x c h),fun p hp=>?_,I.bH.kept wo,?_⟩
 ·obtain⟨j,ej,es⟩:=mR e2
  obtain⟨o1,o2,o3⟩:=B.out i j x e1 ej
  obtain⟨u,ru,L⟩:=hl j x v o1 es (.inr (.inl o2))
  refine⟨u,ru, .inr ⟨o3,?_⟩⟩
  obtain⟨c,hc⟩:=B.has x o3
  rcases L with ⟨k1,_⟩ | ⟨_,c',om,cc⟩
  ·rw[o2] at k1;cases k1
  ·rw[B.cells x c hc] at om
   cases om
   exact⟨c,hc,cc.keeps wo⟩
 ·obtain⟨v,hv⟩:=I.cell x c (B.cells x c h)
  exact⟨v,hv.keeps wo⟩
 ·have uU:p∈X.pn++pins:=by rw[List.append_nil] at hp;exact hp
  obtain⟨p1,p2,p3,p4,p5⟩:=I.pin p uU
  exact⟨wo _ _ p1,p2,Nat.ne_of_lt (Heap.lt_size p1),fun z=>(List.mem_cons.mp (I.ko _ z)).elim p3 p4,p5⟩
 ·show (startB fr σ).length=N.length
  unfold startB
  rw[List.length_map,B.len]
end
def yO(X:Cx)(cs:List Expr)(t:TT):Prop:=
 ∀(pins:List (Addr×Obj)) (s:Shared) (σ:St) (H:Hp) (Q:Bool→Hp→Prop),Inv X pins σ H s→t σ H Q→
  wpAny (model X.prog X.w) X.A (forIn cs true fun c r=>if r=true then do let ok←isTrue c X.env (eval c X.env);pure (ForInStep.yield ok) else pure (ForInStep.yield r)) (TP X pins σ Q) X.xe s
def Wl:TT:=fun _ H Q=>Q true H
theorem aT{X:Cx}:yO X [] Wl:=fun pins s σ H Q I h=>by
 rw[List.forIn_nil]
 exact wpAny_pure ⟨H,I,h⟩
theorem jI{X:Cx}{c:Expr}{t:TT}(h:PT X c t):yO X [c] t:=fun pins s σ H Q I q=>by
 rw[List.forIn_cons,if_pos rfl]
 refine wpAny_bind (wpAny_bind (bG (h pins s σ H Q I q) fun b s' z=>?_))
 refine wpAny_pure ?_
 dsimp only
 rw[List.forIn_nil]
 exact wpAny_pure z
section
variable {prog:Program}{w:World}{A:Around}{R:Result→Shared→Prop}{s:Shared}
theorem comp_loop{elt tg iter:Expr}{ifs:List Expr}{scope:Scope}{pos:Pos}{it acc:Value}{env:Env}(J:Nat→Shared→Prop)
  (turn:∀n s,J n s→wpAny (model prog w) A (pyNext it) (fun r s₁=>match r with
   |none=>R (.ok .next) s₁
   |some v=>wpAny (model prog w) A (letOwnedTupleGo tg it v) (fun _ sg=>wpAny (model prog w) A (assign tg env v) (fun _ s₂=>
     wpAny (model prog w) A (forIn ifs true fun c r=>if r=true then do let ok←isTrue c env (eval c env);pure (ForInStep.yield ok) else pure (ForInStep.yield r)) (fun ok s₃=>
      if ok=true then wpAny (model prog w) A (eval elt env) (fun x s₄=>wpAny (model prog w) A (call (.builtin "list.append") [acc,x]) (fun _ s₅=>∃m,m<n∧J m s₅) (fun _ _=>False) s₄) (fun _ _=>False) s₃
      else∃m,m<n∧J m s₃) (fun _ _=>False) s₂) (fun _ _=>False) sg) (fun _ _=>False) s₁) (fun _ _=>False) s)
  (n:Nat) (h:J n s):codeAny (model prog w) A (.compLoop (.ListComp elt [⟨tg,iter,ifs,0⟩] scope pos) 0 it acc env) R s:=by
 refine codeAny_loop rfl J (fun n s hJ=>?_) n h
 show wpAny _ A ((compTurn (.ListComp elt [⟨tg,iter,ifs,0⟩] scope pos) 0 it acc env).onRaise (fun x=>do noteFrame x env;theTreesLotGoes x)) _ _ s
 refine wpAny_noted ?_
 rw[compTurn_list]
 have no:∀{P:Value→Shared→Prop} (a:Value) (s:Shared),(fun (_:Value) (_:Shared)=>False) a s→P a s:=fun _ _ z=>False.elim z
 refine wpAny_bind (wpAny_standAt (wpAny_bind (wpAny_mono (turn n s hJ) (fun r s₁ h₁=>?_) no)))
 cases r with
 |none=>exact wpAny_pure h₁
 |some v=>
  refine wpAny_bind (wpAny_mono h₁ (fun _ sg hg=>?_) no)
  refine wpAny_bind (wpAny_mono hg (fun _ s₂ h₂=>wpAny_bind (wpAny_mono h₂ (fun ok s₃ h₃=>?_) no)) no)
  cases ok with
  |false=>exact wpAny_pure ⟨rfl,h₃⟩
  |true=>exact wpAny_bind (wpAny_bind (wpAny_mono h₃ (fun x s₄ h₄=>wpAny_bind (wpAny_mono h₄ (fun _ s₅ h₅=>wpAny_pure (wpAny_pure ⟨rfl,h₅⟩)) no)) no))
end
def uV(wi:TI)(fr:List (Option Nat))(g:TG)(tt:TT)(te:TE):TE:=fun σ H Q=>wi σ H fun J H1=>∀D,H1 D=none→∃W:Nat→Nat→St→Hp→Prop,(∃m,W 0 m (startB fr σ) (upd H1 D (.lst [])))∧∀i m σ H,W i m σ H→
 (J.stop i H∧Q (.ref D) H)∨(J.go i H∧∀x H2,J.lO i H x H2→g x σ H2 fun σ3 H3=>tt σ3 H3 fun b H4=>if b=true
   then te σ3 H4 fun y H5=>∃ys,H5 D=some (.lst ys)∧ys.length<sizeLine∧∃m',m'<m∧W (i+1) m' σ3 (upd H5 D (.lst (ys++[y])))
   else∃m',m'<m∧W (i+1) m' σ3 H4)
section
variable {X:Cx}{elt tg iter:Expr}{ifs:List Expr}{scope:Scope}{pos:Pos}{N:List Str}{fr:List (Option Nat)}{cl:List (Str×Addr)}{wi:TI}{g:TG}{tt:TT}{te:TE}
theorem BV(B:MD X N fr scope cl)(hc:X.calm=true)
  (hg:∀pins fp s H,PG (oP X pins N scope cl fp s H) tg g) (ht:∀pins fp s H,yO (oP X pins N scope cl fp s H) ifs tt) (he:∀pins fp s H,PE (oP X pins N scope cl fp s H) elt te)
  {pins:List (Addr×Obj)} {s3:Shared} {σ:St} {H3:Hp} {Q:VK} {it D:Addr} {fp:List Addr} {tn:Nat→Heap→Prop} {J:It} (I3:Inv X pins σ H3 s3) (T:Turn X.prog X.w X.K tg J fp it tn) (yt:tn 0 s3.heap) (f3:∀b∈fp,eN X pins H3 b∧b<s3.heap.objs.size)
  {W:Nat→Nat→St→Hp→Prop} {m0:Nat} (w0:W 0 m0 (startB fr σ) H3)
  (turn:∀i m σ H,W i m σ H→(J.stop i H∧Q (.ref D) H)∨(J.go i H∧∀x H2,J.lO i H x H2→g x σ H2 fun σ3 H3=>tt σ3 H3 fun b H4=>if b=true
    then te σ3 H4 fun y H5=>∃ys,H5 D=some (.lst ys)∧ys.length<sizeLine∧∃m',m'<m∧W (i+1) m' σ3 (upd H5 D (.lst (ys++[y])))
    else∃m',m'<m∧W (i+1) m' σ3 H4))
  {R:Result→Shared→Prop} (hR:∀s' H',Inv X pins σ H' s'→eN X pins H' s3.heap.objs.size→(∃m,s'.heap.Ns s3.heap.objs.size m)→Q (.ref D) H'→R (.ok .next) s')
  {h₁:Heap} {t1:Nat} (qJ:h₁.Ns s3.heap.objs.size fun _=>none) (yP:∀b o,s3.heap.get? b=some o→h₁.get? b=some o):
  codeAny (model X.prog X.w) X.A (.compLoop (.ListComp elt [⟨tg,iter,ifs,0⟩] scope pos) 0 (.ref it) (.ref D) (compEnvC scope cl s3.heap.objs.size X.env)) R { s3 with heap:=h₁,toks:=t1 }:=by
 have Ib:=wm (t1:=t1) B I3 f3 qJ yP
 have mM:∀{H':Hp},(∀b∈fp,H' b=none)→∀b∈fp,eN (oP X pins N scope cl fp s3 H3) [] H' b:=fun hn b hb=>
  ⟨hn b hb,Nat.ne_of_lt (f3 b hb).2,(yN B I3 f3).mH b hb, .inl hb,fun x c h=>(f3 b hb).1.2.2.2.2.1 x c (B.cells x c h),fun p hp=>(f3 b hb).1.2.2.2.2.2 p (by rw[List.append_nil] at hp;exact hp)⟩
 refine comp_loop (fun n s'=>∃i σ' H',Inv (oP X pins N scope cl fp s3 H3) [] σ' H' s'∧tn i s'.heap∧(∀b∈fp,H' b=none)∧W i n σ' H') ?_ m0
  ⟨0,_,_,Ib,T.keep _ _ _ yt fun b _ o e=>yP b o e,fun b hb=>(f3 b hb).1.1,w0⟩
 rintro n s4 ⟨i,σ4,H4,I4,MF,MG,w4⟩
 rcases turn i n σ4 H4 w4 with ⟨stop,qn⟩ | ⟨go,step⟩
 ·refine bG (T.done (oP X pins N scope cl fp s3 H3) rfl rfl rfl hc i [] s4 σ4 H4 _ I4 (mM MG) MF stop) fun r s5 ⟨hr,I5⟩=>?_
  subst hr
  have J5:Inv X pins σ H4 s5:=I3.uJ (ch:=fp) I5.os I5.base I5.bH I5.bare fun b hb=>⟨(f3 b hb).1.2.2.2.1,(f3 b hb).1.2.1,(f3 b hb).1.2.2.2.2.1,(f3 b hb).1.2.2.2.2.2⟩
  obtain⟨mm,Wm,_⟩:=I5.loc
  exact hR s5 H4 J5 (I3.vS (Nat.le_refl _) I5.free) ⟨mm,Wm⟩ qn
 ·refine bG (T.item (oP X pins N scope cl fp s3 H3) rfl rfl rfl hc i [] s4 σ4 H4 _ I4 (mM MG) MF go) fun r s5 ⟨u,hr,h5⟩=>?_
  subst hr
  refine bG h5 fun _ s6 ⟨x,H6,I6,r6,y6,Hg,Wn⟩=>?_
  have Wo:=I6.pinned (mM Wn) (T.obj _ _ Hg)
  have back:∀{s7:Shared} {σ7:St} {H7:Hp} {m':Nat},Inv (oP X pins N scope cl fp s3 H3) ([]++kD fp s6.heap) σ7 H7 s7→m'<n→W (i+1) m' σ7 H7→
    ∃m,m<n∧∃i σ' H',Inv (oP X pins N scope cl fp s3 H3) [] σ' H' s7∧tn i s7.heap∧(∀b∈fp,H' b=none)∧W i m σ' H':=fun {s7 σ7 H7 m'} I7 hm w7=>by
   refine⟨m',hm,i+1,σ7,H7,I7.dI,T.keep _ _ _ Hg fun b hb o e=>(I7.pin (b,o) (List.mem_append_right _ (List.mem_append_right _ (dS hb e)))).1,fun b hb=>?_,w7⟩
   obtain⟨o,e,d⟩:=T.obj _ _ Hg b hb
   exact(I7.pin (b,o) (List.mem_append_right _ (List.mem_append_right _ (dS hb e)))).2.1
  refine bG (hg _ _ _ _ _ s6 σ4 H6 x u _ Wo r6 (step x H6 y6)) fun _ s7 ⟨σ7,H7,I7,q7⟩=>?_
  refine bG (ht _ _ _ _ _ s7 σ7 H7 _ I7 q7) fun ok s8 ⟨H8,I8,q8⟩=>?_
  cases ok with
  |false=>
   rw[if_neg (by decide)] at q8 ⊢
   obtain⟨m',hm,w8⟩:=q8
   exact back I8 hm w8
  |true=>
   rw[if_pos rfl] at q8 ⊢
   refine bG (he _ _ _ _ _ s8 σ7 H8 _ I8 q8) fun y s9 ⟨v9,H9,I9,r9,ys,Lz,Wq,m',hm,w9⟩=>?_
   refine bG (bY _ s9 σ7 H9 (.ref D) [v9] _ [y] (fun _ H'=>W (i+1) m' σ7 H') I9 rfl (.cons r9 .nil) ⟨_,ys,v9,rfl,rfl,Lz,Wq,w9⟩) fun _ s10 ⟨_,yQ,Wr,_,Ws⟩=>?_
   exact back Wr hm Ws
theorem qZ(B:MD X N fr scope cl)(hc:X.calm=true)
  (hg:∀pins fp s H,PG (oP X pins N scope cl fp s H) tg g) (ht:∀pins fp s H,yO (oP X pins N scope cl fp s H) ifs tt) (he:∀pins fp s H,PE (oP X pins N scope cl fp s H) elt te)
  {pins:List (Addr×Obj)} {s2:Shared} {σ:St} {H2:Hp} {Q:VK} {E:Value→Shared→Prop} {it:Addr} {fp:List Addr} {tn:Nat→Heap→Prop} {J:It} (I2:Inv X pins σ H2 s2) (T:Turn X.prog X.w X.K tg J fp it tn) (h8:tn 0 s2.heap) (f2:∀b∈fp,eN X pins H2 b)
  (q:∀D,H2 D=none→∃W:Nat→Nat→St→Hp→Prop,(∃m,W 0 m (startB fr σ) (upd H2 D (.lst [])))∧∀i m σ H,W i m σ H→
   (J.stop i H∧Q (.ref D) H)∨(J.go i H∧∀x H2,J.lO i H x H2→g x σ H2 fun σ3 H3=>tt σ3 H3 fun b H4=>if b=true
     then te σ3 H4 fun y H5=>∃ys,H5 D=some (.lst ys)∧ys.length<sizeLine∧∃m',m'<m∧W (i+1) m' σ3 (upd H5 D (.lst (ys++[y])))
     else∃m',m'<m∧W (i+1) m' σ3 H4))
  {RR:Value→Addr→Result→Shared→Prop}
  (Wt:∀D C s' H',Inv X pins σ H' s'→eN X pins H' C→(∃m,s'.heap.Ns C m)→Q (.ref D) H'→RR (.ref D) C (.ok .next) s'):
  wpAny (model X.prog X.w) X.A (newList []) (fun acc s₃=>wpAny (model X.prog X.w) X.A (newFunctionEnv scope X.env.globals cl [] X.env.qual none .none (some X.env)) (fun yR s₄=>
   codeAny (model X.prog X.w) X.A (.compStart (.ListComp elt [⟨tg,iter,ifs,0⟩] scope pos) 0 (.ref it) acc { yR with scope:=relabel scope X.env }) (RR acc yR.locals) s₄) E s₃) E s2:=by
 have hD:H2 s2.heap.objs.size=none:=I2.bH.fresh (Nat.le_refl _)
 obtain⟨W,⟨m0,w0⟩,turn⟩:=q s2.heap.objs.size hD
 have I3:=I2.BN (ys:=[]) (its:=[]) (t':=s2.toks) .nil (by decide)
 have MK:∀b∈fp,b<s2.heap.objs.size:=fun b hb=>by
  obtain⟨o,e,_⟩:=T.obj _ _ h8 b hb
  exact Heap.lt_size e
 refine wpAny_newObj_type (wpAny_newFunctionEnv B.pM (by intro y hy;simp at hy) (fun h₁ qJ wo=>?_) B.kind)
 have UM:∀b o,s2.heap.get? b=some o→(s2.heap.push { cls:= .type "list",data:= .seq ([]:List Value).toArray }).get? b=some o:=fun b o e=>Heap.get?_push_of_some _ e
 have yP:∀b o,(s2.heap.push { cls:= .type "list",data:= .seq ([]:List Value).toArray }).get? b=some o→h₁.get? b=some o:=fun b o e=>wo.extBut b o (Nat.ne_of_lt (Heap.lt_size e)) (Heap.get?_push_of_some _ e)
 have f3:∀b∈fp,eN X pins (upd H2 s2.heap.objs.size (.lst [])) b∧b< (s2.heap.push { cls:= .type "list",data:= .seq ([]:List Value).toArray }).objs.size:=fun b hb=>by
  refine⟨⟨?_,(f2 b hb).2⟩,?_⟩
  ·rw[aq (Nat.ne_of_lt (MK b hb))]
   exact(f2 b hb).1
  ·rw[Heap.size_push]
   exact Nat.lt_succ_of_lt (MK b hb)
 have fin:=BV (iter:=iter) (pos:=pos) (D:=s2.heap.objs.size) (t1:=s2.toks) (R:=RR (.ref s2.heap.objs.size) (s2.heap.push { cls:= .type "list",data:= .seq ([]:List Value).toArray }).objs.size) B hc hg ht he I3 T (T.keep _ _ _ h8 fun b _ o e=>UM b o e) f3 w0 turn
  (fun s' H' J' f m q=>Wt _ _ s' H' J' f m q) qJ yP
 exact codeAny_compStart_list fin (T.self _ 0 _ _ _ (T.keep _ _ _ h8 fun b _ o e=>yP b o (UM b o e)) fin)
theorem bb{sc:Scope}{NX:List Str}(S:BU sc scope NX N fr)(e1:X.env.scope=sc)(e2:X.N=NX)(hc:X.calm=true)(hi:PI X tg iter wi)
  (hg:∀pins fp s H,PG (oP X pins N scope (iu scope X.env) fp s H) tg g) (ht:∀pins fp s H,yO (oP X pins N scope (iu scope X.env) fp s H) ifs tt) (he:∀pins fp s H,PE (oP X pins N scope (iu scope X.env) fp s H) elt te)
  (hs:∀x,foldedSetIterable iter X.env x=pure x:=by intro _;rfl):PE X (.ListComp elt [⟨tg,iter,ifs,0⟩] scope pos) (uV wi fr g tt te):=by
 intro pins s σ H Q I h
 have B:=S.ME e1 e2 I.ok
 rw[eval_ListComp]
 refine wpAny_comprehension_free (use:=none) rfl hs B.yL B.kind B.names (bG (hi pins s σ H _ I h) fun v s1 h1=>bG h1 fun Lv s2 h2=>?_)
 obtain⟨it,fp,tn,J,H2,e,I2,T,h8,f2,q⟩:=h2
 subst e
 refine qZ (RR:=fun acc C=>compPost (model X.prog X.w) X.A X.xe none (EP X pins σ Q) acc C) B hc hg ht he I2 T h8 f2 q ?_
 intro D C s' H' J' fC ⟨m,hm⟩ qn
 refine⟨m,hm,fun h' Hh=>⟨.ref D,H',?_,rfl,qn⟩⟩
 obtain⟨f0,f1,_,f3,f4,f5⟩:=fC
 exact J'.turned (t':=s'.toks) (fun b o hb e=>(Hh.2 b hb).trans e) f0 f1 f3 f4 f5
end
end L2
namespace L2
open PySem PySem.Spec PyProof.Rows
structure BW(K:PySem.W.Frag)(x qual:Str)(st:Stmt)(f:Addr)(fd:FuncData)(dV:Value):Prop where
 ex:∃(oc:Value) (od:Option Addr) (kV doc pm:Value) (an:Option Addr) (bW ct:Value) (qI:Array (Option Value)),
  fd=PySem.W.fnOf x qual (aM st) (aC st) (ag st) dV kV doc pm an bW ct∧K.lookup f=some ⟨oc,od, .func fd,qI⟩∧PySem.W.codeIn K bW qual=true
 kp:PySem.W.keepIn K (.ref f)=true
section
variable {P:Program}{w:World}{K:PySem.W.Frag}{mg:Str→Option Value}{base:Heap}
theorem BW.ok{x qual:Str}{st:Stmt}{f:Addr}{fd:FuncData}{dV:Value}{N ps:List Str}{k:Nat}{sp:Sp}(F:BW K x qual st f fd dV)(S:aI N ps (ag st))(len:∀vs H Q E,sp vs H Q E→vs.length=ps.length)
  (d9:∀(bW:Value) (A:Around) (outer:List Env) (s:Shared) (H:Hp) (vs:List V) (Q:VK) (E:XK),cN k (A.deeper (envOfC qual (ag st) s.heap.objs.size f bW))→sp vs H Q E→
   ∃t,lh (h9 pL P w K mg base N qual (ag st) f bW A outer s H E).Bi (aC st) t∧t { nx:=fun _ H'=>Q .dE H',rt:=Q } (start N vs) H):eI P w K mg base pL (k+1) f fd ps sp:=by
 obtain⟨oc,od,kV,doc,pm,an,bW,ct,qI,rfl,lk,qN⟩:=F.ex
 refine fn_of lk qN S len fun A outer s H vs Q E hr xV=>?_
 obtain⟨t,h,q⟩:=d9 bW A outer s H vs Q E hr xV
 exact⟨t,h.Bi,q⟩
theorem pN{x qual:Str}{st:Stmt}{f:Addr}{oc dV:Value}{od an:Option Addr}{qI:Array (Option Value)}{kV doc pm bW ct:Value}(l:K.lookup f=some ⟨oc,od, .func (PySem.W.fnOf x qual (aM st) (aC st) (ag st) dV kV doc pm an bW ct),qI⟩)
  (c:PySem.W.codeIn K bW qual=true) (k:PySem.W.keepIn K (.ref f)=true):BW K x qual st f (PySem.W.fnOf x qual (aM st) (aC st) (ag st) dV kV doc pm an bW ct) dV:=⟨⟨oc,od,kV,doc,pm,an,bW,ct,qI,rfl,l,c⟩,k⟩
def Def(K:PySem.W.Frag)(mg:Str→Option Value)(x q:Str)(st:Stmt)(ps:List Str):Prop:=∃f fd,yK K x q st f fd∧Binds K fd ps []∧mg x=some (.ref f)
structure Cal(P:Program)(w:World)(K:PySem.W.Frag)(mg:Str→Option Value)(base:Heap)(k:Nat)(x:Str)(ps:List Str)(sp:Sp)(f:Addr)(fd:FuncData):Prop where
 ok:eI P w K mg base pL k f fd ps sp
 kp:PySem.W.keepIn K (.ref f)=true
 b:Binds K fd ps []
 g:mg x=some (.ref f)
def bM(P:Program)(w:World)(K:PySem.W.Frag)(mg:Str→Option Value)(base:Heap)(k:Nat)(x:Str)(ps:List Str)(sp:Sp):Prop:=∃f fd,Cal P w K mg base k x ps sp f fd
theorem Def.ic{x q:Str}{st:Stmt}{N ps:List Str}{k:Nat}{sp:Sp}(D:Def K mg x q st ps)(S:aI N ps (ag st))(len:∀vs H Q E,sp vs H Q E→vs.length=ps.length)
  (d9:∀(f:Addr) (bW:Value) (A:Around) (outer:List Env) (s:Shared) (H:Hp) (vs:List V) (Q:VK) (E:XK),cN k (A.deeper (envOfC q (ag st) s.heap.objs.size f bW))→sp vs H Q E→
   ∃t,lh (h9 pL P w K mg base N q (ag st) f bW A outer s H E).Bi (aC st) t∧t { nx:=fun _ H'=>Q .dE H',rt:=Q } (start N vs) H):bM P w K mg base (k+1) x ps sp:=by
 obtain⟨f,fd,F,b,g⟩:=D
 exact⟨f,fd,F.ok S len (d9 f),F.kp,b,g⟩
def fM(K:PySem.W.Frag)(C:Addr)(m q:Str)(st:Stmt)(ps:List Str):Prop:=∃f fd,yK K m q st f fd∧Binds K fd ps []∧Meth K C m f
structure Wu(P:Program)(w:World)(K:PySem.W.Frag)(mg:Str→Option Value)(base:Heap)(k:Nat)(C:Addr)(m:Str)(ps:List Str)(sp:Sp)(f:Addr)(fd:FuncData):Prop where
 ok:eI P w K mg base pL k f fd ps sp
 m:Meth K C m f
 b:Binds K fd ps []
def dh(P:Program)(w:World)(K:PySem.W.Frag)(mg:Str→Option Value)(base:Heap)(k:Nat)(C:Addr)(m:Str)(ps:List Str)(sp:Sp):Prop:=∃f fd,Wu P w K mg base k C m ps sp f fd
theorem fM.ic{C:Addr}{m q:Str}{st:Stmt}{N ps:List Str}{k:Nat}{sp:Sp}(D:fM K C m q st ps)(S:aI N ps (ag st))(len:∀vs H Q E,sp vs H Q E→vs.length=ps.length)
  (d9:∀(f:Addr) (bW:Value) (A:Around) (outer:List Env) (s:Shared) (H:Hp) (vs:List V) (Q:VK) (E:XK),cN k (A.deeper (envOfC q (ag st) s.heap.objs.size f bW))→sp vs H Q E→
   ∃t,lh (h9 pL P w K mg base N q (ag st) f bW A outer s H E).Bi (aC st) t∧t { nx:=fun _ H'=>Q .dE H',rt:=Q } (start N vs) H):dh P w K mg base (k+1) C m ps sp:=by
 obtain⟨f,fd,F,b,g⟩:=D
 exact⟨f,fd,F.ok S len (d9 f),g,b⟩
def rf(K:PySem.W.Frag)(C:Addr)(q:Str)(st:Stmt)(ps:List Str)(ds:List Int):Prop:=∃f fd dV,BW K "__init__" q st f fd dV∧Mk K C f∧∀j,j≤ds.length→∃us,Vals ((ds.drop j).map V.int) us∧Binds K fd ps us
structure Wv(P:Program)(w:World)(K:PySem.W.Frag)(mg:Str→Option Value)(base:Heap)(k:Nat)(C:Addr)(ps:List Str)(ds:List Int)(sp:Sp)(f:Addr)(fd:FuncData):Prop where
 ok:eI P w K mg base pL k f fd ps sp
 m:Mk K C f
 b:∀j,j≤ds.length→∃us,Vals ((ds.drop j).map V.int) us∧Binds K fd ps us
def lC(P:Program)(w:World)(K:PySem.W.Frag)(mg:Str→Option Value)(base:Heap)(k:Nat)(C:Addr)(ps:List Str)(ds:List Int)(sp:Sp):Prop:=∃f fd,Wv P w K mg base k C ps ds sp f fd
theorem rf.ic{C:Addr}{q:Str}{st:Stmt}{N ps:List Str}{ds:List Int}{k:Nat}{sp:Sp}(D:rf K C q st ps ds)(S:aI N ps (ag st))(len:∀vs H Q E,sp vs H Q E→vs.length=ps.length)
  (d9:∀(f:Addr) (bW:Value) (A:Around) (outer:List Env) (s:Shared) (H:Hp) (vs:List V) (Q:VK) (E:XK),cN k (A.deeper (envOfC q (ag st) s.heap.objs.size f bW))→sp vs H Q E→
   ∃t,lh (h9 pL P w K mg base N q (ag st) f bW A outer s H E).Bi (aC st) t∧t { nx:=fun _ H'=>Q .dE H',rt:=Q } (start N vs) H):lC P w K mg base (k+1) C ps ds sp:=by
 obtain⟨f,fd,dV,F,g,b⟩:=D
 exact⟨f,fd,F.ok S len (d9 f),g,b⟩
end
theorem ao.new{H:Hp}{p:Addr}{o:HO}(h:H p=none):ao H (upd H p o):=fun b q e=>by
 rw[aq (ah e h)];exact e
theorem int_at{ns:List Int}{i:Nat}{y:V}(h:(ns.map V.int)[i]? =some y):∃z,ns[i]? =some z∧y=V.int z:=by
 rw[List.getElem?_map] at h
 cases e:ns[i]? with
 |none=>rw[e] at h;cases h
 |some z=>rw[e] at h;exact⟨z,rfl,(Option.some.inj h).symm⟩
end L2
namespace L2
open PySem
theorem da:bootBuiltins "len" =some (.builtin "len"):=PySem.boot_len
theorem aY:bootBuiltins "isinstance" =some (.builtin "isinstance"):=by decide+kernel
theorem Hi:bootBuiltins "int" =some (.type "int"):=by decide+kernel
theorem BX:bootBuiltins "bool" =some (.type "bool"):=by decide+kernel
theorem dJ:bootBuiltins "list" =some (.type "list"):=by decide+kernel
theorem fZ:bootBuiltins "sum" =some (.builtin "sum"):=by decide+kernel
theorem Ww{c A B:Prop}[Decidable c](hc:c)(h:A):if decide c=true then A else B:=by
 rw[if_pos (decide_eq_true hc)];exact h
theorem Wx{c A B:Prop}[Decidable c](hc:¬c)(h:B):if decide c=true then A else B:=by
 rw[if_neg (by rw[decide_eq_false hc];decide)];exact h
theorem pO{α:Type}{xs:List α}{i:Int}(h0:0≤i)(h1:i<xs.length):∃v,v∈xs∧Fi xs i=some v:=by
 have hl:i.toNat<xs.length:=by omega
 refine⟨xs[i.toNat],List.getElem_mem hl,?_⟩
 have:=bE (List.getElem?_eq_getElem hl)
 rwa [Int.toNat_of_nonneg h0] at this
end L2
namespace L2
open PySem PySem.Spec PyProof.Rows
inductive oQ:List Expr→List V→Prop where
 |nil:oQ [] []
 |int {i:Int} {j} {pos:Pos} {es:List Expr} {vs:List V} (t:oQ es vs):oQ (.Constant (.int i) j pos::es) (.int i::vs)
 |str {x:Str} {j} {pos:Pos} {es:List Expr} {vs:List V} (t:oQ es vs):oQ (.Constant (.str x) j pos::es) (.str x::vs)
def ML(vs:List V):TA:=fun _ H Q=>Q vs H
theorem uW{X:Cx}{es:List Expr}{vs:List V}(h:oQ es vs):PA X es (ML vs):=by
 induction h with
 |nil=>exact ai
 |int t ih=>exact fun pos pins s σ H Q I q=>aa az ih rfl pos pins s σ H Q I q
 |str t ih=>exact fun pos pins s σ H Q I q=>aa yd ih rfl pos pins s σ H Q I q
section
variable {K:PySem.W.Frag}
theorem rg{T:String}:PySem.W.kitOne K (.type T) (.type T)=some true:=by
 unfold PySem.W.kitOne
 rw[if_pos (by simp)]
theorem Hj{T U:String}{b:Bool}(h1:(Value.type T==Value.type U)=false)(h2:PySem.W.kitMeta U=true)(h3:(fastBuiltinMro T).map (·.contains (Value.type U))=some b):PySem.W.kitOne K (.type T) (.type U)=some b:=by
 unfold PySem.W.kitOne
 rw[if_neg (by rw[h1];decide)]
 unfold PySem.W.kitCls
 dsimp only
 rw[if_pos h2]
 exact h3
theorem pP:PySem.W.kitOne K (.type "int") (.type "bool")=some false:=Hj (by decide+kernel) (by decide+kernel) (by decide+kernel)
end
end L2
namespace L2
open PySem PySem.Spec PyProof.Rows
section
variable {X:Cx}{elt tg iter:Expr}{ifs:List Expr}{scope:Scope}{pos wq py:Pos}{N:List Str}{fr:List (Option Nat)}{wi:TI}{g:TG}{tt:TT}{te:TE}
theorem eP{i:Nat}{y:Str}{sc:Scope}{NX:List Str}(hN:X.N.Nodup)(xX:X.N[i]? =some y)(hy:Loc X.env.scope y)(S:BU sc scope NX N fr)(e1:X.env.scope=sc)(e2:X.N=NX)(hc:X.calm=true)(hi:PI X tg iter wi)
  (hg:∀pins fp s H,PG (oP X pins N scope (iu scope X.env) fp s H) tg g) (ht:∀pins fp s H,yO (oP X pins N scope (iu scope X.env) fp s H) ifs tt) (he:∀pins fp s H,PE (oP X pins N scope (iu scope X.env) fp s H) elt te)
  (Wy:swapsWith (.ListComp elt [⟨tg,iter,ifs,0⟩] scope pos) (some (.Name y py)) wq.line X.env=pure true:=by rfl) (hs:∀x,foldedSetIterable iter X.env x=pure x:=by intro _;rfl)
  (hf:X.fn y=true∨X.env.scope.names.lookup y=some .local:=by first|exact .inl rfl|exact .inr rfl|assumption):
  PS X (.Assign [.Name y py] (.ListComp elt [⟨tg,iter,ifs,0⟩] scope pos) wq) (Bv (uV wi fr g tt te) (aV i)):=by
 intro pins s σ H D I h
 have B:=S.ME e1 e2 I.ok
 rw[exec_Assign_Name_used _ _ _ _ Wy]
 refine wpAny_bind (wpAny_standAt (wpAny_bind ?_))
 show wpAny _ X.A (do let _←comprehension (.ListComp elt [⟨tg,iter,ifs,0⟩] scope pos) scope X.env _ (newList []) false (eval iter X.env) (some (assign (.Name y py) X.env))) _ _ s
 refine wpAny_bind (wpAny_mono (wpAny_comprehension_free (use:=some (assign (.Name y py) X.env)) (Q:=fun _ s'=>SP X pins D .next s') rfl hs B.yL B.kind B.names (bG (hi pins s σ H _ I h) fun v s1 h1=>bG h1 fun Lv s2 h2=>?_)) (fun _ s' hq=>wpAny_pure (wpAny_pure hq)) fun _ _ e=>e)
 obtain⟨it,fp,tn,J,H2,e,I2,T,h8,f2,q⟩:=h2
 subst e
 refine qZ (Q:=fun v H'=>aV i v σ H' D.nx) (RR:=fun acc C=>compPost (model X.prog X.w) X.A X.xe (some (assign (.Name y py) X.env)) (fun _ s'=>SP X pins D .next s') acc C) B hc hg ht he I2 T h8 f2 q ?_
 intro D' C s' H' J' fC ⟨m,hm⟩ qn
 obtain⟨f0,f1,_,f3,f4,f5⟩:=fC
 show wpAny _ X.A (assign (.Name y py) X.env (.ref D')) _ _ _
 refine wpAny_assign_Name (kr J' hN xX hy (v:= .ref D') rfl (fun tJ Wz ⟨a,sb,ha⟩=>?_) hf)
 have WA:C≠a:=by
  rcases ha with z|z
  ·rw[z];exact f1
  ·exact fun w'=>f4 _ _ z w'.symm
 refine⟨m,hm.sameBut sb WA,fun h' Hh=>⟨_,H',?_,qn⟩⟩
 exact Wz.turned (t':=tJ.toks) (fun b o hb e=>(Hh.2 b hb).trans e) f0 f1 f3 f4 f5
end
theorem cK{X:Cx}{es:List Expr}{k:Nat}{pos:Pos}{t:E7}(K:PySem.W.Frag)(n:Nat)(hK:X.K=K)(hc:X.calm=true)(h:Lu X es t)(hn:(assignEach es X.env).length=n:=by rfl)(E8:(assignEach es X.env).findIdx? (·.1)=none:=by rfl):PG X (.Tuple es k pos) (Me K n t):=by
 subst hK
 exact mL hc h hn E8
end L2
namespace L2
open PySem PySem.Spec PyProof.Rows
section
variable {X:Cx}
theorem dM(hc:X.calm=true):fo X (.builtin "sum") (fun xs H Q=>∃p,∃ns:List Int,xs=[.ref p]∧aD X.K H p (ns.map V.int)∧Q (.int ns.sum) H):=by
 intro pins s σ H xs us Q I r h
 obtain⟨p,ns,rfl,hS,q⟩:=h
 obtain⟨u,rfl,ru⟩:=vals1 r
 cases ru
 obtain⟨its,rv,pl,hz⟩:=I.list hS
 have hi:IntsAre its ns:=intsAre_of rv
 obtain⟨ys,hy⟩:=hi.allInts.items
 have hl:s.heap.IsList p (intItems ys):=hy▸pl.isList
 refine sum_intListG (I.ok.hd hc) hl fun h' tk t' hk=>?_
 have e1:ns=ys.toList.map (·.1):=by
  rw[←nums_intItems,←hy]
  exact(show numsOf its.toArray.toList=ns from hi.numsOf).symm
 have e2:preSum (numAt ys) ys.size=ns.sum:=by rw[preSum_eq,List.take_of_length_le (by simp),e1]
 exact⟨.int ns.sum,H,I.kept hk,⟨_,by rw[e2]⟩,q⟩
mutual
inductive oR(K:PySem.W.Frag)(H:Hp):V→PyData→Prop where
 |dE:oR K H .dE .none
 |bl (b:Bool):oR K H (.bl b) (.bool b)
 |int (i:Int):oR K H (.int i) (.int i)
 |str (x:Str):oR K H (.str x) (.str x)
 |lst {a:Addr} {xs:List V} {ds:List PyData} (h:aD K H a xs) (t:mS K H xs ds):oR K H (.ref a) (.list ds)
 |tup {a:Addr} {xs:List V} {ds:List PyData} (h:lN K H a xs) (t:mS K H xs ds):oR K H (.ref a) (.tuple ds)
inductive mS(K:PySem.W.Frag)(H:Hp):List V→List PyData→Prop where
 |nil:mS K H [] []
 |cons {x:V} {d:PyData} {xs:List V} {ds:List PyData} (h:oR K H x d) (t:mS K H xs ds):mS K H (x::xs) (d::ds)
end
mutual
theorem iw{pins:List (Addr×Obj)}{σ:St}{H:Hp}{s:Shared}(I:Inv X pins σ H s){x:V}{d:PyData}(h:oR X.K H x d){u:Value}(r:RelV x u):∃as,Reads s.heap u d as:=by
 cases h with
 |dE=>cases (show u=Value.none from r);exact⟨_, .none⟩
 |bl b=>cases (show u=Value.bool b from r);exact⟨_, .bool b⟩
 |int i=>obtain⟨t,rfl⟩:=(show∃t,u=Value.int i t from r);exact⟨_, .int i t⟩
 |str y=>obtain⟨t,rfl⟩:=(show∃t,u=Value.str y t from r);exact⟨_, .str y t⟩
 | @lst a xs ds hS t=>
   cases (show u=Value.ref a from r)
   obtain⟨its,rv,p,_⟩:=I.list hS
   obtain⟨o,ho,hc,n,hd⟩:=p.isList
   obtain⟨as,ra⟩:=ix I t rv
   exact⟨_, .list ho hc hd (by simpa using ra)⟩
 | @tup a xs ds hS t=>
   cases (show u=Value.ref a from r)
   obtain⟨its,rv,p,_⟩:=I.tuple hS
   obtain⟨o,ho,hc,n,hd⟩:=p
   obtain⟨as,ra⟩:=ix I t rv
   exact⟨_, .tuple ho hc hd (by simpa using ra)⟩
theorem ix{pins:List (Addr×Obj)}{σ:St}{H:Hp}{s:Shared}(I:Inv X pins σ H s){xs:List V}{ds:List PyData}(h:mS X.K H xs ds){us:List Value}(r:Vals xs us):∃as,ReadsAll s.heap us ds as:=by
 cases h with
 |nil=>cases r;exact⟨_, .nil⟩
 |cons h t=>
  cases r with
  |cons r1 r2=>
   obtain⟨as,ra⟩:=iw I h r1
   obtain⟨bs,rb⟩:=ix I t r2
   exact⟨_, .cons ra rb⟩
end
def MM(neg:Bool)(K:PySem.W.Frag):R2:=fun x y H Q=>∃d e,oR K H x d∧oR K H y e∧SeqAt.shaped d=true∧SeqAt.shaped e=true∧Q (.bl (neg^^PyData.eqv d e)) H
theorem Hk(hu:X.A.units+64<cLine):km X (compareOp .Eq) (MM false X.K):=by
 intro pins s σ H x y v u Q I rx ry h
 obtain⟨d,e,hd,he,sd,se,q⟩:=h
 obtain⟨as,ra⟩:=iw I hd rx
 obtain⟨bs,rb⟩:=iw I he ry
 exact SeqAt.compareEq_shaped ra rb sd se hu ⟨.bl (PyData.eqv d e),H,I,rfl,by simpa using q⟩
theorem yS(hu:X.A.units+64<cLine):km X (compareOp .NotEq) (MM true X.K):=by
 intro pins s σ H x y v u Q I rx ry h
 obtain⟨d,e,hd,he,sd,se,q⟩:=h
 obtain⟨as,ra⟩:=iw I hd rx
 obtain⟨bs,rb⟩:=iw I he ry
 exact SeqAt.compareNe_shaped ra rb sd se hu ⟨.bl (!PyData.eqv d e),H,I,rfl,by simpa using q⟩
theorem mS.ints{K:PySem.W.Frag}{H:Hp}:∀ns:List Int,mS K H (ns.map V.int) (ns.map PyData.int)
 | []=> .nil
 |i::r=> .cons (.int i) (mS.ints r)
end
end L2
namespace L2
open PySem PySem.Spec PyProof.Rows
def cP(n:Nat)(i:Int):Prop:=i.natAbs<2^n
theorem cP.bits{n:Nat}{i:Int}(h:cP n i):Builtin.Int.intBits i≤n:=by
 unfold Builtin.Int.intBits
 by_cases e:i=0
 ·rw[if_pos (by simp [e])];exact Nat.zero_le _
 ·rw[if_neg (by simp [e])]
  have h0:i.natAbs≠0:=by omega
  have:=(Nat.log2_lt h0).mpr h
  omega
theorem cP.mono{m n:Nat}{i:Int}(h:cP m i)(hn:m≤n):cP n i:=Nat.lt_of_lt_of_le h (Nat.pow_le_pow_right (by decide) hn)
theorem cP.log{n:Nat}{i:Int}(h:cP n i)(hn:0<n):i.natAbs.log2<n:=by
 by_cases e:i.natAbs=0
 ·rw[e];simpa using hn
 ·exact(Nat.log2_lt e).mpr h
def uX(i j:Int):Prop:=BA i j∨∃m n,cP m i∧cP n j∧m+n≤134217728
theorem uX.ok{i j:Int}(h:uX i j):IntMulOk i j:=by
 rcases h with h| ⟨m,n,h1,h2,h3⟩
 ·exact h.ok
 ·have a:=h1.bits
  have b:=h2.bits
  have hc:Builtin.Int.intTooBig (Builtin.Int.intBits i+Builtin.Int.intBits j)=false:=by
   unfold Builtin.Int.intTooBig bitsLine
   exact decide_eq_false (by omega)
  unfold IntMulOk
  rw[hc]
  simp
def MN(_ j:Int):Prop:=j≠0∧cP 9000 j
section
variable {X:Cx}
theorem gJ:km X (binaryOp .Mult) (rI uX fun i j=> .int (i*j)):=Fd fun _ _ _ _ _ _ _ hc q=>mul_int q hc.ok
theorem rh:km X (binaryOp .FloorDiv) (rI MN fun i j=> .int (i.fdiv j)):=Fd fun _ _ _ _ _ _ _ hc q=>floordiv_int hc.1 q (.inl (PyProof.noPylong_of_log2 (hc.2.log (by decide))))
end
theorem mf{tt:TT}{A B r:TS}{D:Ends}{σ:St}{H:Hp}(Pm:St→Hp→Prop)(h:∀N:St→Hp→Prop,(∀σ' H',Pm σ' H'→N σ' H')→GX tt A B { D with nx:=N } σ H)(hr:∀σ' H',Pm σ' H'→r D σ' H'):Mb (GX tt A B) r D σ H:=h _ hr
section
variable {X:Cx}{pins:List (Addr×Obj)}{σ:St}{H:Hp}{s:Shared}{h':Heap}
theorem Inv.uY{t':Nat}{ch:List Addr}{T:Addr}{o:HO}(I:Inv X pins σ H s)(k:∀b u,b∉ch→s.heap.get? b=some u→h'.get? b=some u)(hf:∀b∈ch,eN X pins H b)
  (hT:s.heap.objs.size≤T) (new:cY X.prog X.w (upd H T o) h' T o):Inv X pins σ (upd H T o) { s with heap:=h',toks:=t' }:=by
 have hn:=I.bH.fresh hT
 have yb:∀b u,H b=some u→b∉ch:=fun b u e z=>by rw[(hf b z).1] at e;cases e
 refine I.step (g':=s.gens) (d':=s.drawn) (ch:=ch) (fun b hb=>⟨(hf b hb).2.2.2.1,(hf b hb).2.1,(hf b hb).2.2.2.2.1,(hf b hb).2.2.2.2.2⟩)
  (fun b u _ _ hc e _=>k b u hc e) (fun b u _ _ hc e _=>⟨u.slots,k b u hc e⟩) (fun b u _ e n=>?_) (fun b u hc e=>⟨u,k b u hc e⟩)
  (fun b xs e=>by rw[aq (ah e hn)];exact e) (fun b u v e=>by rw[aq (ah e hn)];exact e) (fun b ps e=>⟨#[],by rw[aq (ah e hn),e];simp⟩) (fun m hm=>?_) (fun b u e=>?_) I.bare
 ·rw[aq (Nat.ne_of_lt (Nat.lt_of_lt_of_le (Heap.lt_size e) hT))];exact n
 ·obtain⟨u,es,ep,ho,r⟩:=hm
  exact⟨u,es,ep,k _ u (fun z=>(hf _ z).2.1 rfl) ho,r⟩
 ·by_cases hb:b=T
  ·subst hb;rw[af] at e;cases e;exact new
  ·rw[aq hb] at e
   refine(I.bH b u e).pE (fun c v hc q=>k c v ?_ q) (fun c q=>by rw[aq (ah q hn)];exact q) fun c xs q=>by rw[aq (ah q hn)];exact q
   rcases hc with z|z
   ·rw[z];exact yb b u e
   ·exact yb c _ z
theorem Inv.uZ{t':Nat}{ch:List Addr}(I:Inv X pins σ H s)(k:∀b u,b∉ch→s.heap.get? b=some u→h'.get? b=some u)(hf:∀b∈ch,eN X pins H b):Inv X pins σ H { s with heap:=h',toks:=t' }:=by
 have yb:∀b u,H b=some u→b∉ch:=fun b u e z=>by rw[(hf b z).1] at e;cases e
 refine I.step (g':=s.gens) (d':=s.drawn) (ch:=ch) (fun b hb=>⟨(hf b hb).2.2.2.1,(hf b hb).2.1,(hf b hb).2.2.2.2.1,(hf b hb).2.2.2.2.2⟩)
  (fun b u _ _ hc e _=>k b u hc e) (fun b u _ _ hc e _=>⟨u.slots,k b u hc e⟩) (fun b u _ e n=>n) (fun b u hc e=>⟨u,k b u hc e⟩)
  (fun b xs e=>e) (fun b u v e=>e) (fun b ps e=>⟨#[],by rw[e];simp⟩) (fun m hm=>?_) (fun b u e=>?_) I.bare
 ·obtain⟨u,es,ep,ho,r⟩:=hm
  exact⟨u,es,ep,k _ u (fun z=>(hf _ z).2.1 rfl) ho,r⟩
 ·refine(I.bH b u e).pE (fun c v hc q=>k c v ?_ q) (fun _ q=>q) fun _ _ q=>q
  rcases hc with z|z
  ·rw[z];exact yb b u e
  ·exact yb c _ z
end
def u4(K:PySem.W.Frag)(a b:Addr):It:=
 ⟨fun i H=>∃xs ys x y,aD K H a xs∧aD K H b ys∧xs[i]? =some x∧ys[i]? =some y,
  fun i H v H'=>∃p x y,H p=none∧H'=upd H p (.tup [x,y])∧v= .ref p∧(∀xs,aD K H a xs→xs[i]? =some x)∧∀ys,aD K H b ys→ys[i]? =some y,
  fun i H=>∃xs ys,aD K H a xs∧aD K H b ys∧(xs.length≤i∨ys.length≤i)⟩
theorem iy{h:Heap}{a b:Addr}{o u:Obj}(e:h.get? a=some o)(e':h.get? b=some u)(n:o.cls≠u.cls):a≠b:=fun z=>by
 subst z;rw[e] at e';cases e';exact n rfl
theorem neN{m n:Nat}(h:m<n∨n<m):(m:Addr)≠n:=fun z=>by
 have:m=n:=z
 omega
structure MO(z TI TO i1 i2:Addr):Prop where
 TIz:TI≠z
 TOz:TO≠z
 i1z:i1≠z
 i2z:i2≠z
 TITO:TI≠TO
 TIi1:TI≠i1
 TIi2:TI≠i2
 TOi1:TO≠i1
 TOi2:TO≠i2
 i12:i1≠i2
theorem rk{h:Heap}{z TI TO i1 i2 l1 l2:Addr}{f0 a b:Value}{k1 k2:Nat}{xs ys:Array Value}(F:MO z TI TO i1 i2)(hz:IsZip h z TI TO f0)(wx:IsPair h TO a b)(h1:h.IsListIter i1 l1 k1)(h2:h.IsListIter i2 l2 k2)
  (e1:h.IsList l1 xs) (e2:h.IsList l2 ys):ZipApart z TI TO i1 i2 l1 l2:=by
 obtain⟨o1,q1,c1,_⟩:=e1
 obtain⟨o2,q2,c2,_⟩:=e2
 obtain⟨u1,r1,d1,_⟩:=h1
 obtain⟨u2,r2,d2,_⟩:=h2
 have d:∀{n m:String},n≠m→Value.type n≠Value.type m:=fun h q=>by cases q;exact h rfl
 exact⟨F.TIz,F.TOz,F.i1z,F.i2z,F.TITO,F.TIi1,F.TIi2,F.TOi1,F.TOi2,F.i12,
  iy q1 hz (by rw[c1];exact d (by decide)),iy q1 wx (by rw[c1];exact d (by decide)),iy q1 r1 (by rw[c1,d1];exact d (by decide)),iy q1 r2 (by rw[c1,d2];exact d (by decide)),
  iy q2 hz (by rw[c2];exact d (by decide)),iy q2 wx (by rw[c2];exact d (by decide)),iy q2 r1 (by rw[c2,d1];exact d (by decide)),iy q2 r2 (by rw[c2,d2];exact d (by decide))⟩
theorem yT{P:Program}{w:World}{K:PySem.W.Frag}{elts:List Expr}{x1}{kB:Pos}(l1 l2 z TI TO i1 i2:Addr)(F:MO z TI TO i1 i2):
  Turn P w K (.Tuple elts x1 kB) (u4 K l1 l2) [z,TI,TO,i1,i2] z (fun i h=>IsZip h z TI TO .none∧IsPair h TI (.ref i1) (.ref i2)∧(∃a b,IsPair h TO a b)∧h.IsListIter i1 l1 i∧h.IsListIter i2 l2 i) where
 mem:=by simp
 obj:=fun i h st b hb=>by
  obtain⟨hz,BY,⟨a,c,wx⟩,⟨o1,e1,c1,d1⟩,⟨o2,e2,c2,d2⟩⟩:=st
  simp only [List.mem_cons,List.not_mem_nil,or_false] at hb
  rcases hb with e|e|e|e|e
  ·subst e;exact⟨_,hz,fun v q=>by cases q⟩
  ·subst e;exact⟨_,BY,fun v q=>by cases q⟩
  ·subst e;exact⟨_,wx,fun v q=>by cases q⟩
  ·subst e;exact⟨o1,e1,fun v q=>by rw[d1] at q;cases q⟩
  ·subst e;exact⟨o2,e2,fun v q=>by rw[d2] at q;cases q⟩
 keep:=fun i h h' st k=>by
  obtain⟨hz,BY,⟨a,c,wx⟩,h1,h2⟩:=st
  exact⟨k z (by simp) _ hz,k TI (by simp) _ BY,⟨a,c,k TO (by simp) _ wx⟩,h1.at fun o e=>k i1 (by simp) o e,h2.at fun o e=>k i2 (by simp) o e⟩
 item:=by
  intro X hP hw hK hc i pins s σ H E I hf st hg
  subst hP hw hK
  obtain⟨xs,ys,x,y,BZ,Fl,hx,hy⟩:=hg
  obtain⟨hz,BY,⟨a,c,wx⟩,h1,h2⟩:=st
  obtain⟨its,rv,p,wy⟩:=I.list BZ
  obtain⟨Zs,xW,p',Zt⟩:=I.list Fl
  obtain⟨u,hu,ru⟩:=rv.get hx
  obtain⟨v,hv,rv'⟩:=xW.get hy
  have D:=rk F hz wx h1 h2 p.isList p'.isList
  refine wpAny_pyNext_zip_item D hz BY wx h1 h2 p.isList p'.isList (x:=u) (y:=v) (by simpa using hu) (by simpa using hv) fun h' a1 a2 a3 a4 a5 a6 hk=>⟨_,rfl,?_⟩
  refine wpAny_letOwnedTupleGo_zip (s:={ s with heap:=h' }) a1 fun yU b1 b2=>?_
  have up:∀e o,e≠z→h'.get? e=some o→yU.get? e=some o:=fun e o n q=>b2.extBut _ _ n q
  have ne:∀{e:Addr} {o},s.heap.get? e=some o→s.heap.objs.size≠e:=fun q=>Nat.ne_of_gt (Heap.lt_size q)
  have yI:IsPair yU s.heap.objs.size u v:=up _ _ (ne hz) a5
  have I1:Inv X pins σ (upd H s.heap.objs.size (.tup [x,y])) { s with heap:=yU,toks:=s.toks }:=by
   refine I.uY (ch:=[z,TI,TO,i1,i2]) (fun b o hb e=>?_) hf (Nat.le_refl _) ⟨by show 2≤sizeLine;decide,[u,v], .cons ru (.cons rv' .nil),⟨_,yI,rfl,_,rfl⟩⟩
   simp only [List.mem_cons,List.not_mem_nil,or_false,not_or] at hb
   exact up _ _ hb.1 (hk b o hb.1 hb.2.2.1 hb.2.2.2.1 hb.2.2.2.2 e)
  refine⟨.ref s.heap.objs.size,_,I1,rfl,⟨_,x,y,I.bH.fresh (Nat.le_refl _),rfl,rfl,fun zs hz=>by rw[I.jG hz BZ];exact hx,fun zs hz=>by rw[I.jG hz Fl];exact hy⟩,?_,fun b hb=>?_⟩
  ·exact⟨b1,up _ _ F.TIz (hk _ _ F.TIz F.TITO F.TIi1 F.TIi2 BY),⟨_,_,up _ _ F.TOz a2⟩,a3.at fun o e=>up _ _ F.i1z e,a4.at fun o e=>up _ _ F.i2z e⟩
  ·have lU:=hb
   rw[aq ?_]
   ·exact(hf b hb).1
   ·simp only [List.mem_cons,List.not_mem_nil,or_false] at hb
    obtain⟨o1,e1,_⟩:=h1
    obtain⟨o2,e2,_⟩:=h2
    rcases hb with e|e|e|e|e
    ·rw[e];exact Ne.symm (ne hz)
    ·rw[e];exact Ne.symm (ne BY)
    ·rw[e];exact Ne.symm (ne wx)
    ·rw[e];exact Ne.symm (ne e1)
    ·rw[e];exact Ne.symm (ne e2)
 done:=by
  intro X hP hw hK hc i pins s σ H E I hf st hg
  subst hP hw hK
  obtain⟨xs,ys,BZ,Fl,hl⟩:=hg
  obtain⟨hz,BY,⟨a,c,wx⟩,h1,h2⟩:=st
  obtain⟨its,rv,p,wy⟩:=I.list BZ
  obtain⟨Zs,xW,p',Zt⟩:=I.list Fl
  have D:=rk F hz wx h1 h2 p.isList p'.isList
  have l1:=rv.length
  have l2:=xW.length
  refine wpAny_pyNext_zip_end (I.ok.hd hc) D hz BY wx h1 h2 p.isList p'.isList ?_ fun h' hk=>⟨rfl,I.uZ (t':=s.toks) (ch:=[z,TI,TO,i1,i2]) (fun b o hb e=>?_) hf⟩
  ·rcases hl with hl|hl
   ·exact .inl (by simp;omega)
   ·exact .inr (by simp;omega)
  ·simp only [List.mem_cons,List.not_mem_nil,or_false,not_or] at hb
   exact hk b o hb.1 hb.2.2.1 hb.2.2.2.1 hb.2.2.2.2 e
 self:=fun _ _ _ _ _ st h=>wpAny_pyIter_zip st.1 h
theorem Hl:bootBuiltins "zip" =some (.type "zip"):=by decide+kernel
theorem pQ:bootBuiltins "enumerate" =some (.type "enumerate"):=by decide+kernel
theorem Hm:bootBuiltins "abs" =some (.builtin "abs"):=by decide+kernel
def MP(K:PySem.W.Frag)(ta:TA):TI:=fun σ H R=>ta σ H fun vs H1=>∃a b,vs=[.ref a, .ref b]∧(∃xs,aD K H1 a xs)∧(∃ys,aD K H1 b ys)∧R (u4 K a b) H1
theorem dy{X:Cx}{elts:List Expr}{x1}{kB:Pos}{a b:Expr}{ta:TA}{p pos:Pos}(hg:Gl X "zip")(hm:X.mg "zip" =none)(ha:PA X [a,b] ta)(hs:starEach [a,b] X.env=[(false,eval a X.env),(false,eval b X.env)]:=by rfl)
  (oH:starEach [b] X.env=[(false,eval b X.env)]:=by rfl):PI X (.Tuple elts x1 kB) (.Call (.Name "zip" p) [a,b] [] pos) (MP X.K ta):=by
 intro pins s σ H R I h
 refine Call_ (gI I hg hm Hl (PyProof.Rows.callWith_type1 (bG (ha pos pins s σ H _ I h) fun us s1 ⟨vs,H1,I1,r1,q1⟩=>?_) (by rw[hs,oH]) (by rw[oH];rfl)))
 obtain⟨l1,l2,e,⟨xs,BZ⟩,⟨ys,Fl⟩,q⟩:=q1
 subst e
 obtain⟨u,v,rfl,r,r'⟩:=vals2 r1
 cases r
 cases r'
 obtain⟨its,rv,pl,wy⟩:=I1.list BZ
 obtain⟨Zs,xW,pl',Zt⟩:=I1.list Fl
 refine call_zip_2 pl.isList pl'.isList fun h' a1 a2 a3 a4 a5 a6 hk=>wpAny_pyIter_zip (s:={ s1 with heap:=h' }) a1 ?_
 refine⟨_,[s1.heap.objs.size+4,s1.heap.objs.size+2,s1.heap.objs.size+3,s1.heap.objs.size,s1.heap.objs.size+1],_,_,H1,rfl,I1.kept (t':=s1.toks) hk,
  yT l1 l2 (s1.heap.objs.size+4) (s1.heap.objs.size+2) (s1.heap.objs.size+3) s1.heap.objs.size (s1.heap.objs.size+1) ⟨neN (by omega),neN (by omega),neN (by omega),neN (by omega),neN (by omega),neN (by omega),neN (by omega),neN (by omega),neN (by omega),neN (by omega)⟩,
  ⟨a1,a2,⟨_,_,a3⟩,a4,a5⟩,fun b hb=>?_,q⟩
 have lU:s1.heap.objs.size≤b:=by
  simp only [List.mem_cons,List.not_mem_nil,or_false] at hb
  rcases hb with e|e|e|e|e<;>rw[e]<;>first|exact Nat.le_refl _|exact Nat.le_add_right _ _
 exact I1.vS lU (I1.bH.fresh lU)
def MQ(K:PySem.W.Frag)(a:Addr):It:=
 ⟨fun i H=>∃xs x,aD K H a xs∧xs[i]? =some x,
  fun i H v H'=>∃p x,H p=none∧H'=upd H p (.tup [.int i,x])∧v= .ref p∧∀xs,aD K H a xs→xs[i]? =some x,
  fun i H=>∃xs,aD K H a xs∧xs.length≤i⟩
theorem wz{P:Program}{w:World}{K:PySem.W.Frag}{elts:List Expr}{x1}{kB:Pos}(l e it:Addr)(Zu:e≠it):
  Turn P w K (.Tuple elts x1 kB) (MQ K l) [e,it] e (fun i h=>(∃old,IsEnum h e it (i:Nat) old)∧h.IsListIter it l i) where
 mem:=by simp
 obj:=fun i h st b hb=>by
  obtain⟨⟨old,he⟩,⟨o1,e1,c1,d1⟩⟩:=st
  simp only [List.mem_cons,List.not_mem_nil,or_false] at hb
  rcases hb with q|q
  ·subst q;exact⟨_,he,fun v q=>by cases q⟩
  ·subst q;exact⟨o1,e1,fun v q=>by rw[d1] at q;cases q⟩
 keep:=fun i h h' st k=>by
  obtain⟨⟨old,he⟩,h1⟩:=st
  exact⟨⟨old,k e (by simp) _ he⟩,h1.at fun o q=>k it (by simp) o q⟩
 item:=by
  intro X hP hw hK hc i pins s σ H E I hf st hg
  subst hP hw hK
  obtain⟨xs,x,hq,hx⟩:=hg
  obtain⟨⟨old,he⟩,h1⟩:=st
  obtain⟨its,rv,p,wy⟩:=I.list hq
  obtain⟨u,hu,ru⟩:=rv.get hx
  refine wpAny_pyNext_enum_item he h1 p.isList (x:=u) (by simpa using hu) Zu fun h' a1 a2 a3 a4 hk=>⟨_,rfl,?_⟩
  refine wpAny_letOwnedTupleGo_enum (s:={ s with heap:=h',toks:=s.toks+1 }) a1 fun yU b1 b2=>?_
  have up:∀c o,c≠e→h'.get? c=some o→yU.get? c=some o:=fun c o n q=>b2.extBut _ _ n q
  have ne:∀{c:Addr} {o},s.heap.get? c=some o→s.heap.objs.size≠c:=fun q=>Nat.ne_of_gt (Heap.lt_size q)
  have yI:=up _ _ (ne he) a3
  have I1:Inv X pins σ (upd H s.heap.objs.size (.tup [.int i,x])) { s with heap:=yU,toks:=s.toks+1 }:=by
   refine I.uY (ch:=[e,it]) (fun b o hb q=>?_) hf (Nat.le_refl _) ⟨by show 2≤sizeLine;decide,[.int i s.toks,u], .cons ⟨_,rfl⟩ (.cons ru .nil),⟨_,yI,rfl,_,rfl⟩⟩
   simp only [List.mem_cons,List.not_mem_nil,or_false,not_or] at hb
   exact up _ _ hb.1 (hk b o hb.1 hb.2 q)
  refine⟨.ref s.heap.objs.size,_,I1,rfl,⟨_,x,I.bH.fresh (Nat.le_refl _),rfl,rfl,fun zs hz=>by rw[I.jG hz hq];exact hx⟩,⟨⟨u,?_⟩,a2.at fun o q=>up _ _ (Ne.symm Zu) q⟩,fun b hb=>?_⟩
  ·have e1:((i+1 :Nat):Int)=(i:Int)+1:=by push_cast;rfl
   rw[e1];exact b1
  ·rw[aq ?_]
   ·exact(hf b hb).1
   ·simp only [List.mem_cons,List.not_mem_nil,or_false] at hb
    obtain⟨o1,e1,_⟩:=h1
    rcases hb with q|q
    ·rw[q];exact Ne.symm (ne he)
    ·rw[q];exact Ne.symm (ne e1)
 done:=by
  intro X hP hw hK hc i pins s σ H E I hf st hg
  subst hP hw hK
  obtain⟨xs,hq,hl⟩:=hg
  obtain⟨⟨old,he⟩,h1⟩:=st
  obtain⟨its,rv,p,wy⟩:=I.list hq
  have l1:=rv.length
  refine wpAny_pyNext_enum_end (I.ok.hd hc) he h1 p.isList (by simp;omega) fun h' hk=>⟨rfl,I.uZ (t':=s.toks) (ch:=[e,it]) (fun b o hb q=>?_) hf⟩
  simp only [List.mem_cons,List.not_mem_nil,or_false,not_or] at hb
  exact hk b o hb.2 q
 self:=fun _ _ _ _ _ st h=>by
  obtain⟨⟨old,he⟩,_⟩:=st
  exact wpAny_pyIter_enum he h
def MR(K:PySem.W.Frag)(ta:TA):TI:=fun σ H R=>ta σ H fun vs H1=>∃a,vs=[.ref a]∧(∃xs,aD K H1 a xs)∧R (MQ K a) H1
theorem B0{X:Cx}{elts:List Expr}{x1}{kB:Pos}{a:Expr}{ta:TA}{p pos:Pos}(hg:Gl X "enumerate")(hm:X.mg "enumerate" =none)(ha:PA X [a] ta)(hs:starEach [a] X.env=[(false,eval a X.env)]:=by rfl):
  PI X (.Tuple elts x1 kB) (.Call (.Name "enumerate" p) [a] [] pos) (MR X.K ta):=by
 intro pins s σ H R I h
 refine Call_ (gI I hg hm pQ (PyProof.Rows.callWith_type1 (bG (ha pos pins s σ H _ I h) fun us s1 ⟨vs,H1,I1,r1,q1⟩=>?_) hs rfl))
 obtain⟨l,e,⟨xs,hq⟩,q⟩:=q1
 subst e
 obtain⟨u,rfl,r⟩:=vals1 r1
 cases r
 obtain⟨its,rv,pl,wy⟩:=I1.list hq
 refine call_enumerate_list pl.isList fun h' a1 a2 a3 hk=>wpAny_pyIter_enum (s:={ s1 with heap:=h' }) a1 ?_
 refine⟨_,[s1.heap.objs.size+1,s1.heap.objs.size],_,_,H1,rfl,I1.kept (t':=s1.toks) hk,wz l (s1.heap.objs.size+1) s1.heap.objs.size (neN (by omega)),⟨⟨_,a1⟩,a2⟩,fun b hb=>?_,q⟩
 have lU:s1.heap.objs.size≤b:=by
  simp only [List.mem_cons,List.not_mem_nil,or_false] at hb
  rcases hb with e|e<;>rw[e]<;>first|exact Nat.le_refl _|exact Nat.le_add_right _ _
 exact I1.vS lU (I1.bH.fresh lU)
theorem yV(ns:List Int)(lo hi:Option Int):∃ms:List Int,kG (ns.map V.int) lo hi=ms.map V.int∧ms.length≤ns.length:=by
 have h:∀x∈kG (ns.map V.int) lo hi,∃i,x=V.int i:=fun x hx=>by
  have:x∈ns.map V.int:=List.mem_of_mem_drop (List.mem_of_mem_take hx)
  obtain⟨i,_,e⟩:=List.mem_map.mp this
  exact⟨i,e.symm⟩
 have hl:=lq (ns.map V.int) lo hi
 rw[List.length_map] at hl
 generalize kG (ns.map V.int) lo hi=l at h hl
 refine⟨l.map fun v=>match v with| .int i=>i|_=>0,?_,by rw[List.length_map];exact hl⟩
 rw[List.map_map]
 clear hl
 induction l with
 |nil=>rfl
 |cons x r ih=>
  obtain⟨i,rfl⟩:=h x (List.mem_cons_self ..)
  rw[List.map_cons,←ih fun y hy=>h y (List.mem_cons_of_mem _ hy)]
  rfl
theorem Hn(xs:List V)(k:Nat):kG xs (some (k:Int)) none=xs.drop k:=by
 unfold kG
 rw[HT.yF,HT.BI]
 rcases Nat.le_total k xs.length with h|h
 ·rw[Nat.min_eq_left h]
  exact List.take_of_length_le (by rw[List.length_drop];exact Nat.le_refl _)
 ·rw[Nat.min_eq_right h,List.drop_length,List.drop_of_length_le h]
  exact List.take_nil
end L2
namespace L2
open PySem PySem.Spec PyProof.Rows
section
variable {K:PySem.W.Frag}{g:TG}{tt:TT}{te:TE}{tb:TS}{D:Ends}
theorem pR{J:It}{L:Addr}{Q:Hp→Prop}{σ:St}{H:Hp}(n:Nat)(H0:Hp)(S:St→Prop)(Pv:Nat→List V→Prop)(MS:∀i H',i<n→ao H0 H'→J.go i H')(rl:∀H',ao H0 H'→J.stop n H')
  (oq:H0 L=none) (hσ:S σ) (h0:ao H0 H) (hL:H L=some (.lst [])) (p0:Pv 0 []) (hz:n≤sizeLine) (hl:∀i ys,Pv i ys→ys.length≤i)
  (turn:∀i σ H' ys,i<n→S σ→ao H0 H'→H' L=some (.lst ys)→Pv i ys→∀(N:St→V→Hp→Prop) (M:St→Hp→Prop),(∀σ3 y H5,S σ3→ao H0 H5→H5 L=some (.lst ys)→Pv (i+1) (ys++[y])→N σ3 y H5)→
   ∀x H2,J.lO i H' x H2→g x σ H2 fun σ3 H3=>tt σ3 H3 fun b H4=>if b=true then te σ3 H4 fun y H5=>N σ3 y H5 else M σ3 H4)
  (fin:∀H' ys,ao H0 H'→H' L=some (.lst ys)→Pv n ys→Q H'):
  ∃W:Nat→Nat→St→Hp→Prop,(∃m,W 0 m σ H)∧∀i m σ H,W i m σ H→(J.stop i H∧Q H)∨(J.go i H∧∀x H2,J.lO i H x H2→g x σ H2 fun σ3 H3=>tt σ3 H3 fun b H4=>if b=true
   then te σ3 H4 fun y H5=>∃ys,H5 L=some (.lst ys)∧ys.length<sizeLine∧∃m',m'<m∧W (i+1) m' σ3 (upd H5 L (.lst (ys++[y])))
   else∃m',m'<m∧W (i+1) m' σ3 H4):=by
 refine⟨fun i m σ H=>m+i=n∧S σ∧ao H0 H∧∃ys,H L=some (.lst ys)∧Pv i ys,⟨n,rfl,hσ,h0,[],hL,p0⟩,?_⟩
 rintro i m σ H ⟨hm,hs,fP,ys,Fm,hp⟩
 by_cases hi:i<n
 ·refine .inr ⟨MS i H hi fP,fun x H2 hy=>turn i σ H ys hi hs fP Fm hp _ _ (fun σ3 y H5 k1 k2 k3 k4=>?_) x H2 hy⟩
  refine⟨ys,k3,by have:=hl i ys hp;omega,m - 1,by omega,by omega,k1,fun b o e=>?_,ys++[y],af,k4⟩
  rw[aq (ah e oq)];exact k2 b o e
 ·have e:i=n:=by omega
  subst e
  exact .inl ⟨rl H fP,fin H ys fP Fm hp⟩
theorem cC{a L:Addr}{xs:List V}{Q:Hp→Prop}{σ:St}{H:Hp}(H0:Hp)(S:St→Prop)(Pv:Nat→List V→Prop)(ha:aD K H0 a xs)
  (oq:H0 L=none) (hσ:S σ) (h0:ao H0 H) (hL:H L=some (.lst [])) (p0:Pv 0 []) (hz:xs.length≤sizeLine) (hl:∀i ys,Pv i ys→ys.length≤i)
  (turn:∀i x σ H' ys,xs[i]? =some x→S σ→ao H0 H'→H' L=some (.lst ys)→Pv i ys→∀(N:St→V→Hp→Prop) (M:St→Hp→Prop),(∀σ3 y H5,S σ3→ao H0 H5→H5 L=some (.lst ys)→Pv (i+1) (ys++[y])→N σ3 y H5)→
   g x σ H' fun σ3 H3=>tt σ3 H3 fun b H4=>if b=true then te σ3 H4 fun y H5=>N σ3 y H5 else M σ3 H4)
  (fin:∀H' ys,ao H0 H'→H' L=some (.lst ys)→Pv xs.length ys→Q H'):
  ∃W:Nat→Nat→St→Hp→Prop,(∃m,W 0 m σ H)∧∀i m σ H,W i m σ H→((uK K a).stop i H∧Q H)∨((uK K a).go i H∧∀x H2,(uK K a).lO i H x H2→g x σ H2 fun σ3 H3=>tt σ3 H3 fun b H4=>if b=true
   then te σ3 H4 fun y H5=>∃ys,H5 L=some (.lst ys)∧ys.length<sizeLine∧∃m',m'<m∧W (i+1) m' σ3 (upd H5 L (.lst (ys++[y])))
   else∃m',m'<m∧W (i+1) m' σ3 H4):=
 pR xs.length H0 S Pv (fun i H' hi e=>⟨xs,xs[i],e.seq ha,List.getElem?_eq_getElem hi⟩) (fun H' e=>⟨xs,e.seq ha,Nat.le_refl _⟩) oq hσ h0 hL p0 hz hl
  (fun i σ H' ys _ hs e k p N M hN x H2 hy=>by
   obtain⟨rfl,hx⟩:=hy
   exact turn i x σ H2 ys (hx xs (e.seq ha)) hs e k p N M hN) fin
theorem mT{lo:Int}{n:Nat}{L:Addr}{Q:Hp→Prop}{σ:St}{H:Hp}(H0:Hp)(S:St→Prop)(Pv:Nat→List V→Prop)
  (oq:H0 L=none) (hσ:S σ) (h0:ao H0 H) (hL:H L=some (.lst [])) (p0:Pv 0 []) (hz:n≤sizeLine) (hl:∀i ys,Pv i ys→ys.length≤i)
  (turn:∀i σ H' ys,i<n→S σ→ao H0 H'→H' L=some (.lst ys)→Pv i ys→∀(N:St→V→Hp→Prop) (M:St→Hp→Prop),(∀σ3 y H5,S σ3→ao H0 H5→H5 L=some (.lst ys)→Pv (i+1) (ys++[y])→N σ3 y H5)→
   g (.int (lo+i)) σ H' fun σ3 H3=>tt σ3 H3 fun b H4=>if b=true then te σ3 H4 fun y H5=>N σ3 y H5 else M σ3 H4)
  (fin:∀H' ys,ao H0 H'→H' L=some (.lst ys)→Pv n ys→Q H'):
  ∃W:Nat→Nat→St→Hp→Prop,(∃m,W 0 m σ H)∧∀i m σ H,W i m σ H→((vT lo n).stop i H∧Q H)∨((vT lo n).go i H∧∀x H2,(vT lo n).lO i H x H2→g x σ H2 fun σ3 H3=>tt σ3 H3 fun b H4=>if b=true
   then te σ3 H4 fun y H5=>∃ys,H5 L=some (.lst ys)∧ys.length<sizeLine∧∃m',m'<m∧W (i+1) m' σ3 (upd H5 L (.lst (ys++[y])))
   else∃m',m'<m∧W (i+1) m' σ3 H4):=
 pR n H0 S Pv (fun i H' hi e=>hi) (fun H' e=>Nat.le_refl _) oq hσ h0 hL p0 hz hl
  (fun i σ H' ys hi hs e k p N M hN x H2 hy=>by
   obtain⟨rfl,rfl⟩:=hy
   exact turn i σ H2 ys hi hs e k p N M hN) fin
theorem di{a c L:Addr}{xs zs:List V}{Q:Hp→Prop}{σ:St}{H:Hp}(H0:Hp)(S:St→Prop)(Pv:Nat→List V→Prop)(ha:aD K H0 a xs)(hc:aD K H0 c zs)
  (oq:H0 L=none) (hσ:S σ) (h0:ao H0 H) (hL:H L=some (.lst [])) (p0:Pv 0 []) (hz:min xs.length zs.length≤sizeLine) (hl:∀i ys,Pv i ys→ys.length≤i)
  (turn:∀i x z p σ H' ys,xs[i]? =some x→zs[i]? =some z→H' p=none→S σ→ao H0 H'→H' L=some (.lst ys)→Pv i ys→∀(N:St→V→Hp→Prop) (M:St→Hp→Prop),(∀σ3 y H5,S σ3→ao H0 H5→H5 L=some (.lst ys)→Pv (i+1) (ys++[y])→N σ3 y H5)→
   g (.ref p) σ (upd H' p (.tup [x,z])) fun σ3 H3=>tt σ3 H3 fun b H4=>if b=true then te σ3 H4 fun y H5=>N σ3 y H5 else M σ3 H4)
  (fin:∀H' ys,ao H0 H'→H' L=some (.lst ys)→Pv (min xs.length zs.length) ys→Q H'):
  ∃W:Nat→Nat→St→Hp→Prop,(∃m,W 0 m σ H)∧∀i m σ H,W i m σ H→((u4 K a c).stop i H∧Q H)∨((u4 K a c).go i H∧∀x H2,(u4 K a c).lO i H x H2→g x σ H2 fun σ3 H3=>tt σ3 H3 fun b H4=>if b=true
   then te σ3 H4 fun y H5=>∃ys,H5 L=some (.lst ys)∧ys.length<sizeLine∧∃m',m'<m∧W (i+1) m' σ3 (upd H5 L (.lst (ys++[y])))
   else∃m',m'<m∧W (i+1) m' σ3 H4):=
 pR (min xs.length zs.length) H0 S Pv
  (fun i H' hi e=>⟨xs,zs,xs[i]'(by omega),zs[i]'(by omega),e.seq ha,e.seq hc,List.getElem?_eq_getElem _,List.getElem?_eq_getElem _⟩) (fun H' e=>⟨xs,zs,e.seq ha,e.seq hc,by omega⟩) oq hσ h0 hL p0 hz hl
  (fun i σ H' ys _ hs e k p N M hN v H2 hy=>by
   obtain⟨t,x,z,ht,rfl,rfl,hx,gw⟩:=hy
   exact turn i x z t σ H' ys (hx xs (e.seq ha)) (gw zs (e.seq hc)) ht hs e k p N M hN) fin
theorem u9{a c:Addr}{xs zs:List V}{σ:St}{H:Hp}(Pv:Nat→St→Hp→Prop)(h0:Pv 0 σ H)(hl:∀i σ H,Pv i σ H→aD K H a xs∧aD K H c zs)
  (hs:∀i x z p σ H,xs[i]? =some x→zs[i]? =some z→H p=none→Pv i σ H→g (.ref p) σ (upd H p (.tup [x,z])) fun σ2 H2=>tb { D with nx:=Pv (i+1),ct:=Pv (i+1),bk:=D.nx } σ2 H2) (hd:∀σ H,Pv (min xs.length zs.length) σ H→D.nx σ H):
  ∃W:Nat→Nat→St→Hp→Prop,(∃m,W 0 m σ H)∧∀i m σ H,W i m σ H→
   ((u4 K a c).stop i H∧D.nx σ H)∨((u4 K a c).go i H∧∃N:St→Hp→Prop,(∀σ' H',N σ' H'→∃m',m'<m∧W (i+1) m' σ' H')∧∀x H',(u4 K a c).lO i H x H'→g x σ H' fun σ2 H2=>tb { D with nx:=N,ct:=N,bk:=D.nx } σ2 H2):=by
 refine⟨fun i m σ H=>m+i=min xs.length zs.length∧Pv i σ H,⟨min xs.length zs.length,rfl,h0⟩,?_⟩
 rintro i m σ H ⟨hm,p⟩
 obtain⟨q1,q2⟩:=hl i σ H p
 by_cases l9:i<min xs.length zs.length
 ·refine .inr ⟨⟨xs,zs,xs[i]'(by omega),zs[i]'(by omega),q1,q2,List.getElem?_eq_getElem _,List.getElem?_eq_getElem _⟩,Pv (i+1),fun σ' H' p'=>⟨m - 1,by omega,by omega,p'⟩,fun v H' hy=>?_⟩
  obtain⟨t,x,z,ht,rfl,rfl,hx,hz⟩:=hy
  exact hs i x z t σ H (hx xs q1) (hz zs q2) ht p
 ·have e:i=min xs.length zs.length:=by omega
  subst e
  exact .inl ⟨⟨xs,zs,q1,q2,by omega⟩,hd σ H p⟩
theorem yW{a:Addr}{xs:List V}{σ:St}{H:Hp}(Pv:Nat→St→Hp→Prop)(h0:Pv 0 σ H)(hl:∀i σ H,Pv i σ H→aD K H a xs)
  (hs:∀i x p σ H,xs[i]? =some x→H p=none→Pv i σ H→g (.ref p) σ (upd H p (.tup [.int i,x])) fun σ2 H2=>tb { D with nx:=Pv (i+1),ct:=Pv (i+1),bk:=D.nx } σ2 H2) (hd:∀σ H,Pv xs.length σ H→D.nx σ H):
  ∃W:Nat→Nat→St→Hp→Prop,(∃m,W 0 m σ H)∧∀i m σ H,W i m σ H→
   ((MQ K a).stop i H∧D.nx σ H)∨((MQ K a).go i H∧∃N:St→Hp→Prop,(∀σ' H',N σ' H'→∃m',m'<m∧W (i+1) m' σ' H')∧∀x H',(MQ K a).lO i H x H'→g x σ H' fun σ2 H2=>tb { D with nx:=N,ct:=N,bk:=D.nx } σ2 H2):=by
 refine⟨fun i m σ H=>m+i=xs.length∧Pv i σ H,⟨xs.length,rfl,h0⟩,?_⟩
 rintro i m σ H ⟨hm,p⟩
 have q1:=hl i σ H p
 by_cases l9:i<xs.length
 ·refine .inr ⟨⟨xs,xs[i],q1,List.getElem?_eq_getElem _⟩,Pv (i+1),fun σ' H' p'=>⟨m - 1,by omega,by omega,p'⟩,fun v H' hy=>?_⟩
  obtain⟨t,x,ht,rfl,rfl,hx⟩:=hy
  exact hs i x t σ H (hx xs q1) ht p
 ·have e:i=xs.length:=by omega
  subst e
  exact .inl ⟨⟨xs,q1,by omega⟩,hd σ H p⟩
end
end L2
namespace L2
open PySem PySem.Spec PyProof.Rows
theorem d4:∀(names:List (Str×NameKind)) (n:Nat) (acc:List (Str×Addr)),cellsFrom n names acc=cellsFrom n names []++acc
 | [],_,acc=>rfl
 | (x,k)::r,n,acc=>by
   unfold cellsFrom
   split
   ·rw[d4 r (n+1) ((x,n)::acc),d4 r (n+1) [(x,n)],List.append_assoc];rfl
   ·exact d4 r n acc
theorem d5{x:Str}:∀(names:List (Str×NameKind)) (n:Nat) (acc:List (Str×Addr)),((x,NameKind.cell)∈names∨∃c,acc.lookup x=some c)→∃c,(cellsFrom n names acc).lookup x=some c
 | [],_,_,h=>h.elim (fun z=>by cases z) fun z=>z
 | (y,k)::r,n,acc,h=>by
   unfold cellsFrom
   by_cases hk:(k==NameKind.cell)=true
   ·rw[if_pos hk]
    refine d5 r (n+1) _ ?_
    by_cases e:x=y
    ·subst e;exact .inr ⟨n,by simp⟩
    ·rcases h with h| ⟨c,hc⟩
     ·rcases List.mem_cons.mp h with z|z
      ·cases z;exact absurd rfl e
      ·exact .inl z
     ·exact .inr ⟨c,by rw[List.lookup_cons,beq_eq_false_iff_ne.mpr e];exact hc⟩
   ·rw[if_neg hk]
    refine d5 r n acc ?_
    rcases h with h|h
    ·rcases List.mem_cons.mp h with z|z
     ·cases z;exact absurd rfl hk
     ·exact .inl z
    ·exact .inr h
theorem f9{x:Str}{c:Addr}:∀(names:List (Str×NameKind)) (n:Nat) (acc:List (Str×Addr)),(x,c)∈cellsFrom n names acc→(x,NameKind.cell)∈names∨(x,c)∈acc
 | [],_,_,h=> .inr h
 | (y,k)::r,n,acc,h=>by
   unfold cellsFrom at h
   by_cases hk:(k==NameKind.cell)=true
   ·rw[if_pos hk] at h
    rcases f9 r (n+1) _ h with z|z
    ·exact .inl (List.mem_cons_of_mem _ z)
    ·rcases List.mem_cons.mp z with w|w
     ·cases w
      have:k= .cell:=by simpa using hk
      subst this
      exact .inl (List.mem_cons_self ..)
     ·exact .inr w
   ·rw[if_neg hk] at h
    rcases f9 r n acc h with z|z
    ·exact .inl (List.mem_cons_of_mem _ z)
    ·exact .inr z
def ownAt(scope:Scope)(s:Shared):List (Str×Addr):=cellsFrom (s.heap.objs.size+1) scope.names []
def lV(scope:Scope)(env:Env)(s:Shared):List (Str×Addr):=ownAt scope s++iu scope env
def ou(X:Cx)(pins:List (Addr×Obj))(N:List Str)(scope:Scope)(fp:List Addr)(s:Shared)(H:Hp):Cx where
 prog:=X.prog
 w:=X.w
 K:=X.K
 mg:=X.mg
 base:=X.base
 A:=X.A
 N:=N
 s₀:=s
 H₀:=H
 env:=compEnvC scope (lV scope X.env s) s.heap.objs.size X.env
 outer:=X.stack
 stack:=X.stack
 ex:=fp
 fn:=fun x=>scope.names.lookup x==some .cell
 calm:=X.calm
 pn:=X.pn++pins
 xe:=fun _ _=>False
structure tN(X:Cx)(N:List Str)(fr:List (Option Nat))(scope:Scope):Prop where
 yL:closureFor scope X.env=pure (iu scope X.env)
 kind:scope.kind= .function
 owned:∀y∈scope.names,y.2= .cell→scope.names.lookup y.1=some .cell
 names:∀y∈scope.names,y.2= .local→scope.names.lookup y.1=some .local
 cells:∀x c,(iu scope X.env).lookup x=some c→X.env.cells.lookup x=some c
 has:∀x,((relabel scope X.env).names.lookup x=some .cell∨(relabel scope X.env).names.lookup x=some .free)→scope.names.lookup x=some .cell∨∃c,(iu scope X.env).lookup x=some c
 len:fr.length=N.length
 out:∀(i j:Nat) (x:Str),N[i]? =some x→fr[i]? =some (some j)→X.N[j]? =some x∧X.env.kindOf x=some .cell∧scope.names.lookup x=some .free∧((relabel scope X.env).names.lookup x=some .cell∨(relabel scope X.env).names.lookup x=some .free)∧∃c,(iu scope X.env).lookup x=some c
structure va(sc scope:Scope)(NX N:List Str)(fr:List (Option Nat)):Prop where
 yM:sc.kind= .function
 kind:scope.kind= .function
 owned:∀y∈scope.names,y.2= .cell→scope.names.lookup y.1=some .cell
 names:∀y∈scope.names,y.2= .local→scope.names.lookup y.1=some .local
 free:∀y∈scope.names,y.2= .free→sc.names.lookup y.1=some .cell
 len:fr.length=N.length
 out:((List.range N.length).all fun i=>match fr[i]? with
  |some (some j)=>(match N[i]? with
   |some x=>(NX[j]? ==some x)&&(scope.names.lookup x==some .free)
   |none=>false)
  |_=>true)=true
theorem va.ME{X:Cx}{sc scope:Scope}{NX N:List Str}{fr:List (Option Nat)}(B:va sc scope NX N fr)(e1:X.env.scope=sc)(e2:X.N=NX)(ok:X.Ok):tN X N fr scope:=by
 subst e1 e2
 have fc:∀y∈scope.names,y.2= .free→∃c,X.env.cells.lookup y.1=some c:=fun y hy hf=>ok.has y.1 (.inl (B.free y hy hf))
 have lk:∀x,(relabel scope X.env).names.lookup x=(scope.names.lookup x).map fun k=>if (k==NameKind.free&&X.env.scope.kind== .function&&X.env.kindOf x==some .cell)=true then NameKind.cell else k:=fun x=>fx x scope.names
 have tM:∀x,scope.names.lookup x=some .free→(relabel scope X.env).names.lookup x=some .cell:=fun x hx=>by
  have hk:X.env.kindOf x=some .cell:=B.free (x, .free) (cU hx) rfl
  rw[lk,hx,Option.map_some,hk,B.yM]
  rfl
 refine⟨uT fc,B.kind,B.owned,B.names,fun x c h=>jn fc (fun x c h=>by cases h) x c h,fun x h=>?_,B.len,fun i j x h1 h2=>?_⟩
 ·rw[lk] at h
  cases e:scope.names.lookup x with
  |none=>rw[e] at h;rcases h with h|h<;>cases h
  |some k=>
   rw[e,Option.map_some] at h
   have hm:=cU e
   cases k with
   |free=>exact .inr (jH (.inl hm))
   |cell=>exact .inl rfl
   |_=>rcases h with h|h<;>simp at h
 ·have hi:i<N.length:=(List.getElem?_eq_some_iff.mp h1).1
  have:=List.all_eq_true.mp B.out i (List.mem_range.mpr hi)
  rw[h2] at this
  dsimp only at this
  rw[h1] at this
  dsimp only at this
  rw[Bool.and_eq_true] at this
  have a1:X.N[j]? =some x:=by simpa using this.1
  have a2:scope.names.lookup x=some .free:=by simpa using this.2
  exact⟨a1,B.free (x, .free) (cU a2) rfl,a2, .inl (tM x a2),jH (.inl (cU a2))⟩
section
variable {X:Cx}{pins:List (Addr×Obj)}{σ:St}{H:Hp}{s:Shared}{N:List Str}{fr:List (Option Nat)}{scope:Scope}{fp:List Addr}
theorem mU{x:Str}{c:Addr}(h:(ownAt scope s).lookup x=some c):s.heap.objs.size<c:=by
 have ok:=cellsFrom_ok scope.names (s.heap.push { cls:= .type "dict",data:= .dict #[] }) (s.heap.objs.size+1) [] ⟨fun _ _ hm=>(nomatch hm),List.Pairwise.nil⟩ (by rw[Heap.size_push];exact Nat.le_refl _)
 rw[Heap.size_push] at ok
 exact(ok.empty x c (mem_of_lookup h)).2
theorem yX{x:Str}{c:Addr}(h:(ownAt scope s).lookup x=some c):(pushCells (s.heap.push { cls:= .type "dict",data:= .dict #[] }) scope.names).IsCell c none:=by
 have ok:=cellsFrom_ok scope.names (s.heap.push { cls:= .type "dict",data:= .dict #[] }) (s.heap.objs.size+1) [] ⟨fun _ _ hm=>(nomatch hm),List.Pairwise.nil⟩ (by rw[Heap.size_push];exact Nat.le_refl _)
 rw[Heap.size_push] at ok
 exact(ok.empty x c (mem_of_lookup h)).1
theorem B3{x y:Str}{c:Addr}(h:(ownAt scope s).lookup x=some c)(h':(ownAt scope s).lookup y=some c):x=y:=by
 have ok:=cellsFrom_ok scope.names (s.heap.push { cls:= .type "dict",data:= .dict #[] }) (s.heap.objs.size+1) [] ⟨fun _ _ hm=>(nomatch hm),List.Pairwise.nil⟩ (by rw[Heap.size_push];exact Nat.le_refl _)
 rw[Heap.size_push] at ok
 exact name_of_addr ok.apart (mem_of_lookup h) (mem_of_lookup h')
theorem fy{env:Env}{x:Str}{c:Addr}(h:(lV scope env s).lookup x=some c):(ownAt scope s).lookup x=some c∨(ownAt scope s).lookup x=none∧(iu scope env).lookup x=some c:=by
 unfold lV at h
 rw[List.lookup_append] at h
 cases e:(ownAt scope s).lookup x with
 |none=>rw[e] at h;exact .inr ⟨rfl,by simpa using h⟩
 |some d=>rw[e] at h;exact .inl (by simpa using h)
theorem mV{env:Env}{x:Str}{c:Addr}(h:(ownAt scope s).lookup x=some c):(lV scope env s).lookup x=some c:=by
 unfold lV;rw[List.lookup_append,h];rfl
theorem tN.wB(B:tN X N fr scope){x:Str}{c:Addr}(hf:scope.names.lookup x=some .free)(h:(iu scope X.env).lookup x=some c):(lV scope X.env s).lookup x=some c:=by
 have:(ownAt scope s).lookup x=none:=by
  cases e:(ownAt scope s).lookup x with
  |none=>rfl
  |some d=>
   rcases f9 _ _ _ (mem_of_lookup e) with z|z
   ·have:=B.owned _ z rfl
    rw[hf] at this;cases this
   ·cases z
 unfold lV;rw[List.lookup_append,this];exact h
theorem pS(B:tN X N fr scope)(I:Inv X pins σ H s)(f:∀b∈fp,eN X pins H b∧b<s.heap.objs.size):(ou X pins N scope fp s H).Ok where
 mod:=I.mod
 kind:=B.kind
 glob:=I.ok.glob
 blt:=I.ok.blt
 above:=Nat.le_refl _
 inj:=fun x y c h1 h2=>by
  have old:∀{x c},(iu scope X.env).lookup x=some c→c<s.heap.objs.size:=fun h=>by
   obtain⟨v,o,ho,_⟩:=I.cell _ _ (B.cells _ _ h)
   exact Heap.lt_size ho
  rcases fy h1 with a| ⟨_,a⟩<;>rcases fy h2 with b| ⟨_,b⟩
  ·exact B3 a b
  ·exact absurd (Nat.lt_trans (mU a) (old b)) (Nat.lt_irrefl _)
  ·exact absurd (Nat.lt_trans (mU b) (old a)) (Nat.lt_irrefl _)
  ·exact I.ok.inj x y c (B.cells x c a) (B.cells y c b)
 has:=fun x h=>by
  rcases B.has x h with z| ⟨c,hc⟩
  ·obtain⟨c,hc⟩:=d5 (x:=x) scope.names (s.heap.objs.size+1) [] (.inl (cU z))
   exact⟨c,mV hc⟩
  ·cases e:(ownAt scope s).lookup x with
   |none=>exact⟨c,by show (lV scope X.env s).lookup x=some c;unfold lV;rw[List.lookup_append,e];exact hc⟩
   |some d=>exact⟨d,mV e⟩
 Bg:=fun x c h hc=>by
  have hx:scope.names.lookup x=some .cell:=by simpa [ou] using h
  obtain⟨d,hd⟩:=d5 (x:=x) scope.names (s.heap.objs.size+1) [] (.inl (cU hx))
  have e:(lV scope X.env s).lookup x=some d:=mV hd
  have e2:(lV scope X.env s).lookup x=some c:=hc
  rw[e] at e2;cases e2
  exact Nat.le_of_lt (mU hd)
 hd:=I.ok.hd
 frames:=I.ok.frames
 Br:= .inl rfl
 E1:=fun b hb=>⟨Nat.ne_of_lt (f b hb).2,fun x c h=>by
  rcases fy h with a| ⟨_,a⟩
  ·exact fun z=>absurd (Nat.lt_trans (mU a) (by rw[z];exact(f b hb).2)) (Nat.lt_irrefl _)
  ·exact(f b hb).1.2.2.2.2.1 x c (B.cells x c a)⟩
 bs:=I.bs
 sU:=Nat.le_trans I.ok.sU I.sz
 mG:=fun b o e hb=>by
  rcases (f b hb).1.2.2.2.1 with h|h
  ·exact I.ok.mG b o e h
  ·exact absurd (Nat.lt_of_lt_of_le (Heap.lt_size e) (Nat.le_trans I.ok.sU h)) (Nat.lt_irrefl _)
 mH:=fun b hb h=>by
  rcases List.mem_cons.mp (I.ko b h) with z|z
  ·exact(f b hb).1.2.1 z
  ·exact(f b hb).1.2.2.1 z
 ig:=I.stack
 xT:=I.l7
theorem tO{h1:Heap}{t1:Nat}(B:tN X N fr scope)(I:Inv X pins σ H s)(f:∀b∈fp,eN X pins H b∧b<s.heap.objs.size)(qJ:h1.Ns s.heap.objs.size fun _=>none)
  (wo:∀b o,s.heap.get? b=some o→h1.get? b=some o) (Ho:∀x c,(ownAt scope s).lookup x=some c→h1.IsCell c none):Inv (ou X pins N scope fp s H) [] (startB fr σ) H { s with heap:=h1,toks:=t1 }:=by
 obtain⟨m,hm,hl⟩:=I.loc
 refine⟨pS B I f,rfl,I.bare,Un.kept wo,⟨_,qJ,fun i x v e1 e2 _=>?_⟩,fun x c h=>?_,I.bH.fresh (Nat.le_refl _),fun x c h=>?_,fun p hp=>?_,I.bH.kept wo,?_⟩
 ·obtain⟨j,ej,es⟩:=mR e2
  obtain⟨o1,o2,of,o3,c,hc⟩:=B.out i j x e1 ej
  obtain⟨u,ru,L⟩:=hl j x v o1 es (.inr (.inl o2))
  refine⟨u,ru, .inr ⟨o3,?_⟩⟩
  rcases L with ⟨k1,_⟩ | ⟨_,c',om,cc⟩
  ·rw[o2] at k1;cases k1
  ·rw[B.cells x c hc] at om
   cases om
   exact⟨c,B.wB of hc,cc.keeps wo⟩
 ·rcases fy h with a| ⟨_,a⟩
  ·exact⟨none,Ho x c a⟩
  ·obtain⟨v,hv⟩:=I.cell x c (B.cells x c a)
   exact⟨v,hv.keeps wo⟩
 ·rcases fy h with a| ⟨_,a⟩
  ·exact I.bH.fresh (Nat.le_of_lt (mU a))
  ·exact I.eK x c (B.cells x c a)
 ·have uU:p∈X.pn++pins:=by rw[List.append_nil] at hp;exact hp
  obtain⟨p1,p2,p3,p4,p5⟩:=I.pin p uU
  exact⟨wo _ _ p1,p2,Nat.ne_of_lt (Heap.lt_size p1),fun z=>(List.mem_cons.mp (I.ko _ z)).elim p3 p4,p5⟩
 ·show (startB fr σ).length=N.length
  unfold startB
  rw[List.length_map,B.len]
theorem pT{M:Model}{A:Around}{E:Value→Shared→Prop}{globals:Addr}{cl:List (Str×Addr)}{qual:Str}{env:Env}{Q:Env→Shared→Prop}
  (hQ:Q { scope:=scope,locals:=s.heap.objs.size,globals:=globals,cells:=ownAt scope s++cl,qual:=qual,func:=none,code:=env.code,frame:=env.frame,builtins:=env.builtins }
   { s with heap:=pushCells (s.heap.push { cls:= .type "dict",data:= .dict #[] }) scope.names }):
  wpAny M A (newFunctionEnv scope globals cl [] qual none .none (some env)) Q E s:=by
 simp only [newFunctionEnv,Option.isSome_some,if_true]
 refine wpAny_bind (wpAny_alloc ?_)
 refine wpAny_bind (wpAny_layCells _ (fun name kind cells=>by cases hkc:kind==NameKind.cell<;>simp [hkc]) _ _ _ _ ?_)
 rw[show ({ s with heap:=s.heap.push { cls:= .type "dict",data:= .dict #[] } }:Shared).heap.objs.size=s.heap.objs.size+1 from Heap.size_push ..,d4]
 rw[List.forIn_nil]
 exact wpAny_bind (wpAny_pure (wpAny_pure hQ))
end
section
variable {X:Cx}{elt tg iter:Expr}{ifs:List Expr}{scope:Scope}{pos wq py:Pos}{N:List Str}{fr:List (Option Nat)}{wi:TI}{g:TG}{tt:TT}{te:TE}
theorem yY(B:tN X N fr scope)(hc:X.calm=true)
  (hg:∀pins fp s H,PG (ou X pins N scope fp s H) tg g) (ht:∀pins fp s H,yO (ou X pins N scope fp s H) ifs tt) (he:∀pins fp s H,PE (ou X pins N scope fp s H) elt te)
  {pins:List (Addr×Obj)} {s3:Shared} {σ:St} {H3:Hp} {Q:VK} {it D:Addr} {fp:List Addr} {tn:Nat→Heap→Prop} {J:It} (I3:Inv X pins σ H3 s3) (T:Turn X.prog X.w X.K tg J fp it tn) (yt:tn 0 s3.heap) (f3:∀b∈fp,eN X pins H3 b∧b<s3.heap.objs.size)
  {W:Nat→Nat→St→Hp→Prop} {m0:Nat} (w0:W 0 m0 (startB fr σ) H3)
  (turn:∀i m σ H,W i m σ H→(J.stop i H∧Q (.ref D) H)∨(J.go i H∧∀x H2,J.lO i H x H2→g x σ H2 fun σ3 H3=>tt σ3 H3 fun b H4=>if b=true
    then te σ3 H4 fun y H5=>∃ys,H5 D=some (.lst ys)∧ys.length<sizeLine∧∃m',m'<m∧W (i+1) m' σ3 (upd H5 D (.lst (ys++[y])))
    else∃m',m'<m∧W (i+1) m' σ3 H4))
  {R:Result→Shared→Prop} (hR:∀s' H',Inv X pins σ H' s'→eN X pins H' s3.heap.objs.size→(∃m,s'.heap.Ns s3.heap.objs.size m)→Q (.ref D) H'→R (.ok .next) s')
  {h₁:Heap} {t1:Nat} (qJ:h₁.Ns s3.heap.objs.size fun _=>none) (yP:∀b o,s3.heap.get? b=some o→h₁.get? b=some o) (Ho:∀x c,(ownAt scope s3).lookup x=some c→h₁.IsCell c none):
  codeAny (model X.prog X.w) X.A (.compLoop (.ListComp elt [⟨tg,iter,ifs,0⟩] scope pos) 0 (.ref it) (.ref D) (compEnvC scope (lV scope X.env s3) s3.heap.objs.size X.env)) R { s3 with heap:=h₁,toks:=t1 }:=by
 have Ib:=tO (t1:=t1) B I3 f3 qJ yP Ho
 have mM:∀{H':Hp},(∀b∈fp,H' b=none)→∀b∈fp,eN (ou X pins N scope fp s3 H3) [] H' b:=fun hn b hb=>
  ⟨hn b hb,Nat.ne_of_lt (f3 b hb).2,(pS B I3 f3).mH b hb, .inl hb,((pS B I3 f3).E1 b hb).2,fun p hp=>(f3 b hb).1.2.2.2.2.2 p (by rw[List.append_nil] at hp;exact hp)⟩
 refine comp_loop (fun n s'=>∃i σ' H',Inv (ou X pins N scope fp s3 H3) [] σ' H' s'∧tn i s'.heap∧(∀b∈fp,H' b=none)∧W i n σ' H') ?_ m0
  ⟨0,_,_,Ib,T.keep _ _ _ yt fun b _ o e=>yP b o e,fun b hb=>(f3 b hb).1.1,w0⟩
 rintro n s4 ⟨i,σ4,H4,I4,MF,MG,w4⟩
 rcases turn i n σ4 H4 w4 with ⟨stop,qn⟩ | ⟨go,step⟩
 ·refine bG (T.done (ou X pins N scope fp s3 H3) rfl rfl rfl hc i [] s4 σ4 H4 _ I4 (mM MG) MF stop) fun r s5 ⟨hr,I5⟩=>?_
  subst hr
  have J5:Inv X pins σ H4 s5:=I3.uJ (ch:=fp) I5.os I5.base I5.bH I5.bare fun b hb=>⟨(f3 b hb).1.2.2.2.1,(f3 b hb).1.2.1,(f3 b hb).1.2.2.2.2.1,(f3 b hb).1.2.2.2.2.2⟩
  obtain⟨mm,Wm,_⟩:=I5.loc
  exact hR s5 H4 J5 (I3.vS (Nat.le_refl _) I5.free) ⟨mm,Wm⟩ qn
 ·refine bG (T.item (ou X pins N scope fp s3 H3) rfl rfl rfl hc i [] s4 σ4 H4 _ I4 (mM MG) MF go) fun r s5 ⟨u,hr,h5⟩=>?_
  subst hr
  refine bG h5 fun _ s6 ⟨x,H6,I6,r6,y6,Hg,Wn⟩=>?_
  have Wo:=I6.pinned (mM Wn) (T.obj _ _ Hg)
  have back:∀{s7:Shared} {σ7:St} {H7:Hp} {m':Nat},Inv (ou X pins N scope fp s3 H3) ([]++kD fp s6.heap) σ7 H7 s7→m'<n→W (i+1) m' σ7 H7→
    ∃m,m<n∧∃i σ' H',Inv (ou X pins N scope fp s3 H3) [] σ' H' s7∧tn i s7.heap∧(∀b∈fp,H' b=none)∧W i m σ' H':=fun {s7 σ7 H7 m'} I7 hm w7=>by
   refine⟨m',hm,i+1,σ7,H7,I7.dI,T.keep _ _ _ Hg fun b hb o e=>(I7.pin (b,o) (List.mem_append_right _ (List.mem_append_right _ (dS hb e)))).1,fun b hb=>?_,w7⟩
   obtain⟨o,e,d⟩:=T.obj _ _ Hg b hb
   exact(I7.pin (b,o) (List.mem_append_right _ (List.mem_append_right _ (dS hb e)))).2.1
  refine bG (hg _ _ _ _ _ s6 σ4 H6 x u _ Wo r6 (step x H6 y6)) fun _ s7 ⟨σ7,H7,I7,q7⟩=>?_
  refine bG (ht _ _ _ _ _ s7 σ7 H7 _ I7 q7) fun ok s8 ⟨H8,I8,q8⟩=>?_
  cases ok with
  |false=>
   rw[if_neg (by decide)] at q8 ⊢
   obtain⟨m',hm,w8⟩:=q8
   exact back I8 hm w8
  |true=>
   rw[if_pos rfl] at q8 ⊢
   refine bG (he _ _ _ _ _ s8 σ7 H8 _ I8 q8) fun y s9 ⟨v9,H9,I9,r9,ys,Lz,Wq,m',hm,w9⟩=>?_
   refine bG (bY _ s9 σ7 H9 (.ref D) [v9] _ [y] (fun _ H'=>W (i+1) m' σ7 H') I9 rfl (.cons r9 .nil) ⟨_,ys,v9,rfl,rfl,Lz,Wq,w9⟩) fun _ s10 ⟨_,yQ,Wr,_,Ws⟩=>?_
   exact back Wr hm Ws
theorem oS(B:tN X N fr scope)(hc:X.calm=true)
  (hg:∀pins fp s H,PG (ou X pins N scope fp s H) tg g) (ht:∀pins fp s H,yO (ou X pins N scope fp s H) ifs tt) (he:∀pins fp s H,PE (ou X pins N scope fp s H) elt te)
  {pins:List (Addr×Obj)} {s2:Shared} {σ:St} {H2:Hp} {Q:VK} {E:Value→Shared→Prop} {it:Addr} {fp:List Addr} {tn:Nat→Heap→Prop} {J:It} (I2:Inv X pins σ H2 s2) (T:Turn X.prog X.w X.K tg J fp it tn) (h8:tn 0 s2.heap) (f2:∀b∈fp,eN X pins H2 b)
  (q:∀D,H2 D=none→∃W:Nat→Nat→St→Hp→Prop,(∃m,W 0 m (startB fr σ) (upd H2 D (.lst [])))∧∀i m σ H,W i m σ H→
   (J.stop i H∧Q (.ref D) H)∨(J.go i H∧∀x H2,J.lO i H x H2→g x σ H2 fun σ3 H3=>tt σ3 H3 fun b H4=>if b=true
     then te σ3 H4 fun y H5=>∃ys,H5 D=some (.lst ys)∧ys.length<sizeLine∧∃m',m'<m∧W (i+1) m' σ3 (upd H5 D (.lst (ys++[y])))
     else∃m',m'<m∧W (i+1) m' σ3 H4))
  {RR:Value→Addr→Result→Shared→Prop}
  (Wt:∀D C s' H',Inv X pins σ H' s'→eN X pins H' C→(∃m,s'.heap.Ns C m)→Q (.ref D) H'→RR (.ref D) C (.ok .next) s'):
  wpAny (model X.prog X.w) X.A (newList []) (fun acc s₃=>wpAny (model X.prog X.w) X.A (newFunctionEnv scope X.env.globals (iu scope X.env) [] X.env.qual none .none (some X.env)) (fun yR s₄=>
   codeAny (model X.prog X.w) X.A (.compStart (.ListComp elt [⟨tg,iter,ifs,0⟩] scope pos) 0 (.ref it) acc { yR with scope:=relabel scope X.env }) (RR acc yR.locals) s₄) E s₃) E s2:=by
 have hD:H2 s2.heap.objs.size=none:=I2.bH.fresh (Nat.le_refl _)
 obtain⟨W,⟨m0,w0⟩,turn⟩:=q s2.heap.objs.size hD
 have I3:=I2.BN (ys:=[]) (its:=[]) (t':=s2.toks) .nil (by decide)
 have MK:∀b∈fp,b<s2.heap.objs.size:=fun b hb=>by
  obtain⟨o,e,_⟩:=T.obj _ _ h8 b hb
  exact Heap.lt_size e
 refine wpAny_newObj_type (pT ?_)
 have UM:∀b o,s2.heap.get? b=some o→(s2.heap.push { cls:= .type "list",data:= .seq ([]:List Value).toArray }).get? b=some o:=fun b o e=>Heap.get?_push_of_some _ e
 generalize hS3:({ s2 with heap:=s2.heap.push { cls:= .type "list",data:= .seq ([]:List Value).toArray } }:Shared)=s3 at*
 have Zv:s3.heap=s2.heap.push { cls:= .type "list",data:= .seq ([]:List Value).toArray }:=by rw[←hS3]
 have yP:∀b o,s3.heap.get? b=some o→(pushCells (s3.heap.push { cls:= .type "dict",data:= .dict #[] }) scope.names).get? b=some o:=fun b o e=>pushCells_keeps _ _ b o (Heap.get?_push_of_some _ e)
 have qJ:(pushCells (s3.heap.push { cls:= .type "dict",data:= .dict #[] }) scope.names).Ns s3.heap.objs.size fun _=>none:=(Heap.Ns.new s3.heap (.type "dict")).keeps (pushCells_keeps _ _)
 have f3:∀b∈fp,eN X pins (upd H2 s2.heap.objs.size (.lst [])) b∧b<s3.heap.objs.size:=fun b hb=>by
  refine⟨⟨?_,(f2 b hb).2⟩,?_⟩
  ·rw[aq (Nat.ne_of_lt (MK b hb))]
   exact(f2 b hb).1
  ·rw[Zv,Heap.size_push]
   exact Nat.lt_succ_of_lt (MK b hb)
 have yt:tn 0 s3.heap:=T.keep _ _ _ h8 fun b _ o e=>by rw[Zv];exact UM b o e
 have fin:=yY (iter:=iter) (pos:=pos) (D:=s2.heap.objs.size) (t1:=s3.toks) (R:=RR (.ref s2.heap.objs.size) s3.heap.objs.size) B hc hg ht he I3 T yt f3 w0 turn
  (fun s' H' J' f m q=>Wt _ _ s' H' J' f m q) qJ yP fun x c h=>yX h
 exact codeAny_compStart_list fin (T.self _ 0 _ _ _ (T.keep _ _ _ yt fun b _ o e=>yP b o e) fin)
theorem mW{sc:Scope}{NX:List Str}(S:va sc scope NX N fr)(e1:X.env.scope=sc)(e2:X.N=NX)(hc:X.calm=true)(hi:PI X tg iter wi)
  (hg:∀pins fp s H,PG (ou X pins N scope fp s H) tg g) (ht:∀pins fp s H,yO (ou X pins N scope fp s H) ifs tt) (he:∀pins fp s H,PE (ou X pins N scope fp s H) elt te)
  (hs:∀x,foldedSetIterable iter X.env x=pure x:=by intro _;rfl):PE X (.ListComp elt [⟨tg,iter,ifs,0⟩] scope pos) (uV wi fr g tt te):=by
 intro pins s σ H Q I h
 have B:=S.ME e1 e2 I.ok
 rw[eval_ListComp]
 refine wpAny_comprehension_free (use:=none) rfl hs B.yL B.kind B.names (bG (hi pins s σ H _ I h) fun v s1 h1=>bG h1 fun Lv s2 h2=>?_)
 obtain⟨it,fp,tn,J,H2,e,I2,T,h8,f2,q⟩:=h2
 subst e
 refine oS (RR:=fun acc C=>compPost (model X.prog X.w) X.A X.xe none (EP X pins σ Q) acc C) B hc hg ht he I2 T h8 f2 q ?_
 intro D C s' H' J' fC ⟨m,hm⟩ qn
 refine⟨m,hm,fun h' Hh=>⟨.ref D,H',?_,rfl,qn⟩⟩
 obtain⟨f0,f1,_,f3,f4,f5⟩:=fC
 exact J'.turned (t':=s'.toks) (fun b o hb e=>(Hh.2 b hb).trans e) f0 f1 f3 f4 f5
theorem yZ{i:Nat}{y:Str}{sc:Scope}{NX:List Str}(hN:X.N.Nodup)(xX:X.N[i]? =some y)(hy:Loc X.env.scope y)(S:va sc scope NX N fr)(e1:X.env.scope=sc)(e2:X.N=NX)(hc:X.calm=true)(hi:PI X tg iter wi)
  (hg:∀pins fp s H,PG (ou X pins N scope fp s H) tg g) (ht:∀pins fp s H,yO (ou X pins N scope fp s H) ifs tt) (he:∀pins fp s H,PE (ou X pins N scope fp s H) elt te)
  (Wy:swapsWith (.ListComp elt [⟨tg,iter,ifs,0⟩] scope pos) (some (.Name y py)) wq.line X.env=pure true:=by rfl) (hs:∀x,foldedSetIterable iter X.env x=pure x:=by intro _;rfl)
  (hf:X.fn y=true∨X.env.scope.names.lookup y=some .local:=by first|exact .inl rfl|exact .inr rfl|assumption):
  PS X (.Assign [.Name y py] (.ListComp elt [⟨tg,iter,ifs,0⟩] scope pos) wq) (Bv (uV wi fr g tt te) (aV i)):=by
 intro pins s σ H D I h
 have B:=S.ME e1 e2 I.ok
 rw[exec_Assign_Name_used _ _ _ _ Wy]
 refine wpAny_bind (wpAny_standAt (wpAny_bind ?_))
 show wpAny _ X.A (do let _←comprehension (.ListComp elt [⟨tg,iter,ifs,0⟩] scope pos) scope X.env _ (newList []) false (eval iter X.env) (some (assign (.Name y py) X.env))) _ _ s
 refine wpAny_bind (wpAny_mono (wpAny_comprehension_free (use:=some (assign (.Name y py) X.env)) (Q:=fun _ s'=>SP X pins D .next s') rfl hs B.yL B.kind B.names (bG (hi pins s σ H _ I h) fun v s1 h1=>bG h1 fun Lv s2 h2=>?_)) (fun _ s' hq=>wpAny_pure (wpAny_pure hq)) fun _ _ e=>e)
 obtain⟨it,fp,tn,J,H2,e,I2,T,h8,f2,q⟩:=h2
 subst e
 refine oS (Q:=fun v H'=>aV i v σ H' D.nx) (RR:=fun acc C=>compPost (model X.prog X.w) X.A X.xe (some (assign (.Name y py) X.env)) (fun _ s'=>SP X pins D .next s') acc C) B hc hg ht he I2 T h8 f2 q ?_
 intro D' C s' H' J' fC ⟨m,hm⟩ qn
 obtain⟨f0,f1,_,f3,f4,f5⟩:=fC
 show wpAny _ X.A (assign (.Name y py) X.env (.ref D')) _ _ _
 refine wpAny_assign_Name (kr J' hN xX hy (v:= .ref D') rfl (fun tJ Wz ⟨a,sb,ha⟩=>?_) hf)
 have WA:C≠a:=by
  rcases ha with z|z
  ·rw[z];exact f1
  ·exact fun w'=>f4 _ _ z w'.symm
 refine⟨m,hm.sameBut sb WA,fun h' Hh=>⟨_,H',?_,qn⟩⟩
 exact Wz.turned (t':=tJ.toks) (fun b o hb e=>(Hh.2 b hb).trans e) f0 f1 f3 f4 f5
end
section
variable {X:Cx}{tg:Expr}(K:PySem.W.Frag)
theorem jJ(hK:X.K=K){l:Expr}{tl:TE}(hl:PE X l tl):PI X tg l (Fb K tl):=by subst hK;exact bh hl
theorem cp(hK:X.K=K):V' X (Mu K):=by subst hK;exact dr
theorem B4(hK:X.K=K){elts:List Expr}{x1}{kB:Pos}{a b:Expr}{ta:TA}{p pos:Pos}(hg:Gl X "zip")(hm:X.mg "zip" =none)(ha:PA X [a,b] ta)(hs:starEach [a,b] X.env=[(false,eval a X.env),(false,eval b X.env)]:=by rfl)
  (oH:starEach [b] X.env=[(false,eval b X.env)]:=by rfl):PI X (.Tuple elts x1 kB) (.Call (.Name "zip" p) [a,b] [] pos) (MP K ta):=by subst hK;exact dy hg hm ha hs oH
theorem vc(hK:X.K=K){e:Expr}{ta:TE}{f:Str}{pos:Pos}(he:PE X e ta)(hb:attributeBase e f X.env (eval e X.env)=eval e X.env):PE X (.Attribute e f pos) (Mo K ta f):=by subst hK;exact cn he hb
end
def iz(scope sc:Scope):Scope:={ scope with names:=scope.names.map fun (y:Str×NameKind)=>match y with
 | (n,k)=>if (k==NameKind.free&&sc.kind== .function&&sc.names.lookup n==some .cell)=true then (n,NameKind.cell) else (n,k) }
end L2
namespace L2
open PySem PySem.Spec PyProof.Rows
def df(L:Addr)(H H':Hp):Prop:=∀b o,H b=some o→b≠L→H' b=some o
theorem df.of{L:Addr}{H H':Hp}(e:ao H H'):df L H H':=fun b o h _=>e b o h
theorem df.trans{L:Addr}{H H1 H2:Hp}(a:df L H H1)(b:df L H1 H2):df L H H2:=fun c o h n=>b c o (a c o h n) n
theorem df.upd{L:Addr}{H:Hp}{o:HO}:df L H (upd H L o):=fun b u h n=>by rw[aq n];exact h
section
variable {K:PySem.W.Frag}{g:TG}{tt:TT}{te:TE}
theorem mX{J:It}{L:Addr}{Q:Hp→Prop}{σ:St}{H:Hp}(n:Nat)(H0:Hp)(S:St→Prop)(Pv:Nat→List V→Hp→Prop)(MS:∀i H',i<n→ao H0 H'→J.go i H')(rl:∀H',ao H0 H'→J.stop n H')
  (tP:∀i ys H H',df L H H'→Pv i ys H→Pv i ys H')
  (oq:H0 L=none) (hσ:S σ) (h0:ao H0 H) (hL:H L=some (.lst [])) (p0:Pv 0 [] H) (hz:n≤sizeLine) (hl:∀i ys H,Pv i ys H→ys.length≤i)
  (turn:∀i σ H' ys,i<n→S σ→ao H0 H'→H' L=some (.lst ys)→Pv i ys H'→∀(N:St→V→Hp→Prop) (M:St→Hp→Prop),(∀σ3 y H5,S σ3→ao H0 H5→H5 L=some (.lst ys)→Pv (i+1) (ys++[y]) H5→N σ3 y H5)→
   ∀x H2,J.lO i H' x H2→g x σ H2 fun σ3 H3=>tt σ3 H3 fun b H4=>if b=true then te σ3 H4 fun y H5=>N σ3 y H5 else M σ3 H4)
  (fin:∀H' ys,ao H0 H'→H' L=some (.lst ys)→Pv n ys H'→Q H'):
  ∃W:Nat→Nat→St→Hp→Prop,(∃m,W 0 m σ H)∧∀i m σ H,W i m σ H→(J.stop i H∧Q H)∨(J.go i H∧∀x H2,J.lO i H x H2→g x σ H2 fun σ3 H3=>tt σ3 H3 fun b H4=>if b=true
   then te σ3 H4 fun y H5=>∃ys,H5 L=some (.lst ys)∧ys.length<sizeLine∧∃m',m'<m∧W (i+1) m' σ3 (upd H5 L (.lst (ys++[y])))
   else∃m',m'<m∧W (i+1) m' σ3 H4):=by
 refine⟨fun i m σ H=>m+i=n∧S σ∧ao H0 H∧∃ys,H L=some (.lst ys)∧Pv i ys H,⟨n,rfl,hσ,h0,[],hL,p0⟩,?_⟩
 rintro i m σ H ⟨hm,hs,fP,ys,Fm,hp⟩
 by_cases hi:i<n
 ·refine .inr ⟨MS i H hi fP,fun x H2 hy=>turn i σ H ys hi hs fP Fm hp _ _ (fun σ3 y H5 k1 k2 k3 k4=>?_) x H2 hy⟩
  refine⟨ys,k3,by have:=hl i ys H hp;omega,m - 1,by omega,by omega,k1,fun b o e=>?_,ys++[y],af,tP _ _ _ _ df.upd k4⟩
  rw[aq (ah e oq)];exact k2 b o e
 ·have e:i=n:=by omega
  subst e
  exact .inl ⟨rl H fP,fin H ys fP Fm hp⟩
theorem kI{a L:Addr}{xs:List V}{Q:Hp→Prop}{σ:St}{H:Hp}(H0:Hp)(S:St→Prop)(Pv:Nat→List V→Hp→Prop)(ha:aD K H0 a xs)(tP:∀i ys H H',df L H H'→Pv i ys H→Pv i ys H')
  (oq:H0 L=none) (hσ:S σ) (h0:ao H0 H) (hL:H L=some (.lst [])) (p0:Pv 0 [] H) (hz:xs.length≤sizeLine) (hl:∀i ys H,Pv i ys H→ys.length≤i)
  (turn:∀i x σ H' ys,xs[i]? =some x→S σ→ao H0 H'→H' L=some (.lst ys)→Pv i ys H'→∀(N:St→V→Hp→Prop) (M:St→Hp→Prop),(∀σ3 y H5,S σ3→ao H0 H5→H5 L=some (.lst ys)→Pv (i+1) (ys++[y]) H5→N σ3 y H5)→
   g x σ H' fun σ3 H3=>tt σ3 H3 fun b H4=>if b=true then te σ3 H4 fun y H5=>N σ3 y H5 else M σ3 H4)
  (fin:∀H' ys,ao H0 H'→H' L=some (.lst ys)→Pv xs.length ys H'→Q H'):
  ∃W:Nat→Nat→St→Hp→Prop,(∃m,W 0 m σ H)∧∀i m σ H,W i m σ H→((uK K a).stop i H∧Q H)∨((uK K a).go i H∧∀x H2,(uK K a).lO i H x H2→g x σ H2 fun σ3 H3=>tt σ3 H3 fun b H4=>if b=true
   then te σ3 H4 fun y H5=>∃ys,H5 L=some (.lst ys)∧ys.length<sizeLine∧∃m',m'<m∧W (i+1) m' σ3 (upd H5 L (.lst (ys++[y])))
   else∃m',m'<m∧W (i+1) m' σ3 H4):=
 mX xs.length H0 S Pv (fun i H' hi e=>⟨xs,xs[i],e.seq ha,List.getElem?_eq_getElem hi⟩) (fun H' e=>⟨xs,e.seq ha,Nat.le_refl _⟩) tP oq hσ h0 hL p0 hz hl
  (fun i σ H' ys _ hs e k p N M hN x H2 hy=>by
   obtain⟨rfl,hx⟩:=hy
   exact turn i x σ H2 ys (hx xs (e.seq ha)) hs e k p N M hN) fin
theorem kJ{lo:Int}{n:Nat}{L:Addr}{Q:Hp→Prop}{σ:St}{H:Hp}(H0:Hp)(S:St→Prop)(Pv:Nat→List V→Hp→Prop)(tP:∀i ys H H',df L H H'→Pv i ys H→Pv i ys H')
  (oq:H0 L=none) (hσ:S σ) (h0:ao H0 H) (hL:H L=some (.lst [])) (p0:Pv 0 [] H) (hz:n≤sizeLine) (hl:∀i ys H,Pv i ys H→ys.length≤i)
  (turn:∀i σ H' ys,i<n→S σ→ao H0 H'→H' L=some (.lst ys)→Pv i ys H'→∀(N:St→V→Hp→Prop) (M:St→Hp→Prop),(∀σ3 y H5,S σ3→ao H0 H5→H5 L=some (.lst ys)→Pv (i+1) (ys++[y]) H5→N σ3 y H5)→
   g (.int (lo+i)) σ H' fun σ3 H3=>tt σ3 H3 fun b H4=>if b=true then te σ3 H4 fun y H5=>N σ3 y H5 else M σ3 H4)
  (fin:∀H' ys,ao H0 H'→H' L=some (.lst ys)→Pv n ys H'→Q H'):
  ∃W:Nat→Nat→St→Hp→Prop,(∃m,W 0 m σ H)∧∀i m σ H,W i m σ H→((vT lo n).stop i H∧Q H)∨((vT lo n).go i H∧∀x H2,(vT lo n).lO i H x H2→g x σ H2 fun σ3 H3=>tt σ3 H3 fun b H4=>if b=true
   then te σ3 H4 fun y H5=>∃ys,H5 L=some (.lst ys)∧ys.length<sizeLine∧∃m',m'<m∧W (i+1) m' σ3 (upd H5 L (.lst (ys++[y])))
   else∃m',m'<m∧W (i+1) m' σ3 H4):=
 mX n H0 S Pv (fun i H' hi e=>hi) (fun H' e=>Nat.le_refl _) tP oq hσ h0 hL p0 hz hl
  (fun i σ H' ys hi hs e k p N M hN x H2 hy=>by
   obtain⟨rfl,rfl⟩:=hy
   exact turn i σ H2 ys hi hs e k p N M hN) fin
end
mutual
theorem jK:∀d:PyData,d.canLay0=true→PyData.eqv d d=true
 | .none,_=>by simp [PyData.eqv]
 | .bool _,_=>by simp [PyData.eqv]
 | .int _,_=>by simp [PyData.eqv]
 | .str _,_=>by simp [PyData.eqv]
 | .list xs,h=>by rw[PyData.eqv];exact iA xs (by simpa [PyData.canLay0] using h)
 | .tuple xs,h=>by rw[PyData.eqv];exact iA xs (by simpa [PyData.canLay0] using h)
 | .dict _,h=>by simp [PyData.canLay0] at h
theorem iA:∀xs:List PyData,PyData.canLayAll0 xs=true→PyData.eqvAll xs xs=true
 | [],_=>by simp [PyData.eqvAll]
 |x::xs,h=>by
  have h':x.canLay0=true∧PyData.canLayAll0 xs=true:=by simpa [PyData.canLayAll0] using h
  rw[PyData.eqvAll,jK x h'.1,iA xs h'.2];rfl
end
theorem jo{α:Type}(f:α→PyData):∀l:List α,(∀x∈l,(f x).canLay0=true)→PyData.canLayAll0 (l.map f)=true
 | [],_=>by simp [PyData.canLayAll0]
 |x::l,h=>by
  rw[List.map_cons,PyData.canLayAll0,h x (List.mem_cons_self ..),jo f l fun y hy=>h y (List.mem_cons_of_mem _ hy)];rfl
theorem kK{α:Type}(f:α→PyData)(n:Nat):∀l:List α,(∀x∈l,(f x).depth≤n)→PyData.depthAll (l.map f)≤n
 | [],_=>by simp [PyData.depthAll]
 |x::l,h=>by
  rw[List.map_cons,PyData.depthAll]
  exact Nat.max_le.mpr ⟨h x (List.mem_cons_self ..),kK f n l fun y hy=>h y (List.mem_cons_of_mem _ hy)⟩
def hU(ns:List Int):PyData:= .list (ns.map PyData.int)
def lD(cs:List (List Int)):PyData:= .list (cs.map hU)
theorem iR(ns:List Int):(hU ns).canLay0=true:=by unfold hU;rw[PyData.canLay0];exact jo _ ns fun _ _=>by simp [PyData.canLay0]
theorem lE(ns:List Int):(hU ns).depth≤1:=by unfold hU;rw[PyData.depth];exact Nat.succ_le_succ (kK _ 0 ns fun _ _=>by simp [PyData.depth])
theorem oU(cs:List (List Int)):(lD cs).canLay0=true:=by unfold lD;rw[PyData.canLay0];exact jo _ cs fun c _=>iR c
theorem rm(cs:List (List Int)):(lD cs).depth≤2:=by unfold lD;rw[PyData.depth];exact Nat.succ_le_succ (kK _ 1 cs fun c _=>lE c)
theorem oV{d:PyData}(h1:d.canLay0=true)(h2:d.depth≤64):SeqAt.shaped d=true:=by
 unfold SeqAt.shaped;rw[h1,decide_eq_true h2];rfl
theorem eQ(ns:List Int):SeqAt.shaped (hU ns)=true:=oV (iR ns) (by have:=lE ns;omega)
theorem jL(cs:List (List Int)):SeqAt.shaped (lD cs)=true:=oV (oU cs) (by have:=rm cs;omega)
theorem oR.ints{K:PySem.W.Frag}{H:Hp}{a:Addr}{ns:List Int}(h:aD K H a (ns.map V.int)):oR K H (.ref a) (hU ns):= .lst h (mS.ints ns)
def dW(K:PySem.W.Frag)(H:Hp):List Addr→List (List Int)→Prop:=Paired fun a c=>aD K H a (c.map V.int)
theorem dW.get{K:PySem.W.Frag}{H:Hp}:∀{as:List Addr} {cs:List (List Int)} {i:Nat} {a:Addr},dW K H as cs→as[i]? =some a→∃c,cs[i]? =some c∧aD K H a (c.map V.int)
 |_,_,0,_, .cons h _,e=>by cases e;exact⟨_,rfl,h⟩
 |_,_,i+1,_, .cons _ t,e=>dW.get (i:=i) t e
theorem dW.length{K:PySem.W.Frag}{H:Hp}{as:List Addr}{cs:List (List Int)}(h:dW K H as cs):as.length=cs.length:=Paired.length h
theorem dW.rd{K:PySem.W.Frag}{H:Hp}:∀{as:List Addr} {cs:List (List Int)},dW K H as cs→mS K H (as.map V.ref) (cs.map hU)
 |_,_, .nil=> .nil
 |_,_, .cons h t=> .cons (.ints h) (dW.rd t)
theorem oR.cols{K:PySem.W.Frag}{H:Hp}{a:Addr}{as:List Addr}{cs:List (List Int)}(h:aD K H a (as.map V.ref))(t:dW K H as cs):oR K H (.ref a) (lD cs):= .lst h t.rd
theorem b9{as:List Addr}{i:Nat}{y:V}(h:(as.map V.ref)[i]? =some y):∃z,as[i]? =some z∧y=V.ref z:=by
 rw[List.getElem?_map] at h
 cases e:as[i]? with
 |none=>rw[e] at h;cases h
 |some z=>rw[e] at h;exact⟨z,rfl,(Option.some.inj h).symm⟩
theorem ay{α:Type}{l:List α}{i:Nat}{z:α}(h:l[i]? =some z):l.take (i+1)=l.take i++[z]:=by
 rw[List.take_add_one,h];rfl
section
variable {X:Cx}(K:PySem.W.Frag)
theorem ow(hK:X.K=K):fo X (.type "list") (fun xs H Q=>∃p ys,xs=[.ref p]∧(aD K H p ys∨lN K H p ys)∧∀l,H l=none→Q (.ref l) (upd H l (.lst ys))):=by subst hK;exact bu
end
end L2
namespace L2
open PySem PySem.Spec PyProof.Rows
section
variable {K:PySem.W.Frag}{g:TG}{tt:TT}{te:TE}
theorem wC{a c L:Addr}{xs zs:List V}{Q:Hp→Prop}{σ:St}{H:Hp}(H0:Hp)(S:St→Prop)(Pv:Nat→List V→Hp→Prop)(ha:aD K H0 a xs)(hc:aD K H0 c zs)(tP:∀i ys H H',df L H H'→Pv i ys H→Pv i ys H')
  (oq:H0 L=none) (hσ:S σ) (h0:ao H0 H) (hL:H L=some (.lst [])) (p0:Pv 0 [] H) (hz:min xs.length zs.length≤sizeLine) (hl:∀i ys H,Pv i ys H→ys.length≤i)
  (turn:∀i x z p σ H' ys,xs[i]? =some x→zs[i]? =some z→H' p=none→S σ→ao H0 H'→H' L=some (.lst ys)→Pv i ys H'→∀(N:St→V→Hp→Prop) (M:St→Hp→Prop),(∀σ3 y H5,S σ3→ao H0 H5→H5 L=some (.lst ys)→Pv (i+1) (ys++[y]) H5→N σ3 y H5)→
   g (.ref p) σ (upd H' p (.tup [x,z])) fun σ3 H3=>tt σ3 H3 fun b H4=>if b=true then te σ3 H4 fun y H5=>N σ3 y H5 else M σ3 H4)
  (fin:∀H' ys,ao H0 H'→H' L=some (.lst ys)→Pv (min xs.length zs.length) ys H'→Q H'):
  ∃W:Nat→Nat→St→Hp→Prop,(∃m,W 0 m σ H)∧∀i m σ H,W i m σ H→((u4 K a c).stop i H∧Q H)∨((u4 K a c).go i H∧∀x H2,(u4 K a c).lO i H x H2→g x σ H2 fun σ3 H3=>tt σ3 H3 fun b H4=>if b=true
   then te σ3 H4 fun y H5=>∃ys,H5 L=some (.lst ys)∧ys.length<sizeLine∧∃m',m'<m∧W (i+1) m' σ3 (upd H5 L (.lst (ys++[y])))
   else∃m',m'<m∧W (i+1) m' σ3 H4):=
 mX (min xs.length zs.length) H0 S Pv
  (fun i H' hi e=>⟨xs,zs,xs[i]'(by omega),zs[i]'(by omega),e.seq ha,e.seq hc,List.getElem?_eq_getElem _,List.getElem?_eq_getElem _⟩) (fun H' e=>⟨xs,zs,e.seq ha,e.seq hc,by omega⟩) tP oq hσ h0 hL p0 hz hl
  (fun i σ H' ys _ hs e k p N M hN v H2 hy=>by
   obtain⟨t,x,z,ht,rfl,rfl,hx,gw⟩:=hy
   exact turn i x z t σ H' ys (hx xs (e.seq ha)) (gw zs (e.seq hc)) ht hs e k p N M hN) fin
end
def bX(L:Addr)(H0 H:Hp):List Addr→List (List Int)→Prop:=Paired fun a c=>H a=some (.lst (c.map V.int))∧a≠L∧H0 a=none
theorem bX.but{L:Addr}{H0 H H':Hp}(e:df L H H'):∀{as:List Addr} {cs:List (List Int)},bX L H0 H as cs→bX L H0 H' as cs
 |_,_, .nil=> .nil
 |_,_, .cons h t=> .cons ⟨e _ _ h.1 h.2.1,h.2⟩ (bX.but e t)
theorem bX.length{L:Addr}{H0 H:Hp}{as:List Addr}{cs:List (List Int)}(h:bX L H0 H as cs):as.length=cs.length:=Paired.length h
theorem bX.snoc{L:Addr}{H0 H:Hp}{a:Addr}{c:List Int}(h:H a=some (.lst (c.map V.int)))(n:a≠L)(n0:H0 a=none):∀{as:List Addr} {cs:List (List Int)},bX L H0 H as cs→bX L H0 H (as++[a]) (cs++[c])
 |_,_, .nil=> .cons ⟨h,n,n0⟩ .nil
 |_,_, .cons k t=> .cons k (bX.snoc h n n0 t)
theorem mY:bootBuiltins "any" =some (.builtin "any"):=by decide+kernel
theorem oW(bs:List Bool):(List.range bs.length).any (fun i=>bs.getD i false)=bs.any id:=by
 induction bs with
 |nil=>rfl
 |cons b bs ih=>
  rw[List.length_cons,List.range_succ_eq_map,List.any_cons,List.any_map,List.any_cons]
  congr 1
theorem call_any{X:Cx}(hc:X.calm=true):fo X (.builtin "any") (fun xs H Q=>∃p,∃bs:List Bool,xs=[.ref p]∧aD X.K H p (bs.map V.bl)∧Q (.bl (bs.any id)) H):=by
 intro pins s σ H xs us Q I r h
 obtain⟨p,bs,rfl,hS,q⟩:=h
 obtain⟨u,rfl,ru⟩:=vals1 r
 cases ru
 obtain⟨its,rv,pl,hz⟩:=I.list hS
 have ll:=rv.length
 rw[List.length_map] at ll
 obtain⟨o,ho,_⟩:=pl.isList
 have hI:p≠s.heap.objs.size:=Nat.ne_of_lt (Heap.lt_size ho)
 refine call_any_walk (wpAny_pyIter_list pl.isList ?_)
 refine⟨s.heap.objs.size,_,_,_,_,_,fun i=>bs.getD i false,rfl,Walks.list (A:=X.A.in1) (show X.A.in1.handled=none from I.ok.hd hc) s.heap.objs.size p hI its.toArray,⟨⟨_,Heap.get?_push_size _ rfl,rfl,rfl⟩,pl.isList.push _⟩,?_,fun h' tk hk=>?_⟩
 ·intro i v s' Q' E' hP hq
  have hP:its[i]? =some v:=by simpa using hP
  have gK:i<bs.length:=by rw[ll];exact(List.getElem?_eq_some_iff.mp hP).1
  obtain⟨u,hu,ru⟩:=rv.get (i:=i) (x:=V.bl bs[i]) (by rw[List.getElem?_map,List.getElem?_eq_getElem gK];rfl)
  rw[hP] at hu
  cases hu
  cases ru
  have e:bs.getD i false=bs[i]:=by rw[List.getD_eq_getElem?_getD,List.getElem?_eq_getElem gK];rfl
  have hq:Q' (bs.getD i false) s':=hq
  rw[e] at hq
  exact wpAny_truthy_bool hq
 ·have e:(List.range its.toArray.size).any (fun i=>bs.getD i false)=bs.any id:=by
   rw[←oW bs,ll];simp
  rw[e]
  exact⟨.bl _,H,I.kept fun b o q=>hk b o (fun z=>by
   have z:b=s.heap.objs.size:=by simpa using z
   exact absurd (Heap.lt_size q) (by rw[z];exact Nat.lt_irrefl _)) (Heap.get?_push_of_some _ q),rfl,q⟩
end L2
namespace L2
open PySem PySem.Spec PyProof.Rows
theorem kL:bootBuiltins "sorted" =some (.builtin "sorted"):=by decide+kernel
section
variable {X:Cx}
end
end L2
namespace L2
open PySem PySem.Spec PyProof.Rows
section
variable {X:Cx}
end
end L2
namespace L2
open PySem PySem.Spec PyProof.Rows PySem.W
section
variable {O:KeyOrd}{k:Nat→O.α}{n:Nat}{I:Shared→Prop}{cmp:Nat→Nat→(Bool→Shared→Prop)→Shared→Prop}
def dN(O:KeyOrd)(k:Nat→O.α)(n:Nat)(I:Shared→Prop)(cmp:Nat→Nat→(Bool→Shared→Prop)→Shared→Prop):Prop:=∀i j C s,i<n→j<n→I s→(∀s',I s'→C (O.blt (k i) (k j)) s')→cmp i j C s
end
end L2
namespace PySem.SeqAt
open AutoSeq1 (wpAny_loadPart')
open MeetsSeq MeetsSeq2 MeetsSeq3
def tQ(A:Around)(s:Shared)(y x:Value)(b:Bool):Prop:=
 ∀(prog:Program) (w:World) (E:Value→Shared→Prop) (Q:Value→Shared→Prop),Q (.bool b) s→wpAny (model prog w) A (richCompare .Lt y x) Q E s
def rn(e c:Nat→Bool):List Nat→Bool
 | []=>false
 |j::r=>if e j=true then rn e c r else c j
theorem wD(l b:Addr)(items cQ:Array Value)(n n2:Nat)(dd LA:Option Addr)(sl LB:Array (Option Value))(pI:items.size=cQ.size)(e c:Nat→Bool)(k:Nat):
  ∀i:Nat,items.size - i=k→Meets (Builtin.«list.__eq__.loop» ⟨[.ref l, .ref b,rawInt i,rawInt 0],[]⟩)
   (fun A R s=>s.heap.get? l=some { cls:= .type "list",dict:=dd,data:= .seq items n,slots:=sl }∧s.heap.get? b=some { cls:= .type "list",dict:=LA,data:= .seq cQ n2,slots:=LB }∧
    (∀j (h1:j<items.size) (h2:j<cQ.size),EqAt A.in1 s items[j] cQ[j] (e j)∧tQ A.in1 s items[j] cQ[j] (c j))∧
    R (.ok (.ret (.bool (rn e c ((List.range items.size).drop i))))) s):=by
 induction k with
 |zero=>
  intro i hk prog w A R s h
  obtain⟨hp,g,d,tk,os⟩:=s;obtain⟨hl,hb,he,h⟩:=h
  wp_walk using wpAny_loadPart' hl,wpAny_loadPart' hb
  have rp:items[((i:Nat):Int).toNat]? =none:=by simp;omega
  have tR:cQ[((i:Nat):Int).toNat]? =none:=by simp;omega
  have hd:(List.range items.size).drop i=[]:=by simp;omega
  rw[hd] at h
  rw[rp,tR]
  wp_walk using wpAny_loadPart' hl,wpAny_loadPart' hb
  show R (.ok (.ret (.bool (decide (items.size<cQ.size))))) _
  rw[pI]
  simpa [rn] using h
 |succ k ih=>
  intro i hk prog w A R s h
  obtain⟨hp,g,d,tk,os⟩:=s;obtain⟨hl,hb,he,h⟩:=h
  wp_walk using wpAny_loadPart' hl,wpAny_loadPart' hb
  have l9:i<items.size:=by omega
  have Hq:i<cQ.size:=by omega
  have rp:items[((i:Nat):Int).toNat]? =some items[i]:=by simp [l9]
  have tR:cQ[((i:Nat):Int).toNat]? =some cQ[i]:=by simp [Hq]
  have hd:(List.range items.size).drop i=i::(List.range items.size).drop (i+1):=by simp [List.drop_eq_getElem_cons,l9]
  have hc:((i:Int)+1)=((i+1 :Nat):Int):=by push_cast;rfl
  rw[hd,rn] at h
  rw[rp,tR]
  refine wpAny_bind ((he i l9 Hq).1 prog w _ _ ?_)
  cases lU:e i with
  |true=>
   rw[lU,if_pos rfl] at h
   wp_walk
   rw[hc]
   exact⟨plainId_quiet plain_eq_loop _,codeAny_builtin entry_eq_loop (by
    rw[Around.under_plainId plain_eq_loop _]
    exact ih (i+1) (by omega) prog w A R _ ⟨hl,hb,he,h⟩)⟩
  |false=>
   rw[lU,if_neg (by simp)] at h
   wp_walk using wpAny_loadPart' hl,wpAny_loadPart' hb
   rw[rp,tR]
   refine wpAny_bind ((he i l9 Hq).2 prog w _ _ ?_)
   wp_walk
   exact h
theorem wF(l b:Addr)(items cQ:Array Value)(n n2:Nat)(dd LA:Option Addr)(sl LB:Array (Option Value))(pI:items.size=cQ.size)(e c:Nat→Bool):
  Meets (Builtin.«list.__lt__» ⟨[.ref l, .ref b],[]⟩)
   (fun A R s=>s.heap.get? l=some { cls:= .type "list",dict:=dd,data:= .seq items n,slots:=sl }∧s.heap.get? b=some { cls:= .type "list",dict:=LA,data:= .seq cQ n2,slots:=LB }∧
    (∀j (h1:j<items.size) (h2:j<cQ.size),EqAt A.in1 s items[j] cQ[j] (e j)∧tQ A.in1 s items[j] cQ[j] (c j))∧
    R (.ok (.ret (.bool (rn e c (List.range items.size))))) s):=by
 intro prog w A R s h
 obtain⟨hp,g,d,tk,os⟩:=s;obtain⟨hl,hb,he,h⟩:=h
 have f3:=AutoSeq1.sub_list_list
 wp_walk using wpAny_loadPart' hl,wpAny_loadPart' hb
 exact⟨plainId_quiet plain_eq_loop _,codeAny_builtin entry_eq_loop (by
  rw[Around.under_plainId plain_eq_loop _]
  exact wD l b items cQ n n2 dd LA sl LB pI e c _ 0 rfl prog w A R _ ⟨hl,hb,he,by simpa using h⟩)⟩
end PySem.SeqAt
namespace L2
open PySem PySem.Spec PyProof.Rows PySem.SeqAt PySem.W
@[reducible] def tS:KeyOrd where
  α:=List Int
  blt a b:=decide (a<b)
  irrefl a:=by simp
  trans a b c h1 h2:=by simp only [decide_eq_true_eq] at*;exact List.lt_trans h1 h2
  negTrans a b c h:=by
   simp only [decide_eq_true_eq] at*
   by_cases oh:a<b
   ·exact .inl oh
   ·exact .inr (List.lt_of_le_of_lt (List.not_lt.mp oh) h)
  total a b h1 h2:=by simp only [decide_eq_false_iff_not] at*;exact List.le_antisymm (List.not_lt.mp h2) (List.not_lt.mp h1)
theorem vd:∀(xs ys:List Int) (d:Nat) (f g:Nat→Int),xs.length=ys.length→(∀j,j<xs.length→f (d+j)=xs.getD j 0)→(∀j,j<xs.length→g (d+j)=ys.getD j 0)→
  rn (fun j=>f j==g j) (fun j=>decide (f j<g j)) (List.range' d xs.length)=decide (xs<ys)
 | [],[],d,f,g,_,_,_=>by simp [rn]
 |x::xs,y::ys,d,f,g,hl,hf,hg=>by
  have h0:=hf 0 (by simp)
  have g0:=hg 0 (by simp)
  simp at h0 g0
  have ih:=vd xs ys (d+1) f g (by simpa using hl) (fun j hj=>by
   have:=hf (j+1) (by simp;omega)
   rw[show d+1+j=d+(j+1) by omega,this];simp) (fun j hj=>by
   have:=hg (j+1) (by simp;omega)
   rw[show d+1+j=d+(j+1) by omega,this];simp)
  rw[List.length_cons,List.range'_succ,rn,ih,h0,g0]
  by_cases e:x=y
  ·subst e
   rw[if_pos (by simp)]
   simp [List.cons_lt_cons_iff]
  ·rw[if_neg (by simpa using e)]
   simp [List.cons_lt_cons_iff,e]
section
variable {prog:Program}{w:World}{A:Around}{E:Value→Shared→Prop}{s:Shared}
theorem qT(a:Int)(t:Tok)(b:Int)(u:Tok):tQ A s (.int a t) (.int b u) (decide (a<b)):=fun prog w E Q h=>wpAny_lt_int h
theorem rq{a b:Addr}{us vs:List Value}{xs ys:List Int}{Q:Bool→Shared→Prop}(ha:s.heap.IsList a us.toArray)(hb:s.heap.IsList b vs.toArray)(hx:IntsAre us xs)(hy:IntsAre vs ys)(hl:xs.length=ys.length)(hu:A.units<cLine)
  (h:Q (decide (xs<ys)) s):wpAny (model prog w) A (oneLt' true (.ref a) (.ref b)) Q E s:=by
 rw[oneLt'_eq]
 simp only [if_true]
 refine wpAny_bind (wpAny_cRoomFor hu ?_)
 obtain⟨⟨cls,dd,data,sl⟩,ho,hc,n,hd⟩:=id ha
 obtain⟨⟨cls2,LA,data2,LB⟩,ho2,MT,n2,hd2⟩:=id hb
 simp only at hc hd MT hd2
 subst hc hd MT hd2
 have lu:=hx.length
 have lv:=hy.length
 have pI:us.toArray.size=vs.toArray.size:=by simp;omega
 refine wpAny_bind (wpAny_callSpecialIfBound?_slot (T:="list") (id:="list.__lt__") ⟨_,ho,rfl⟩ F.slot_list_lt (call_meets F.slot_list_lt ⟨_,ho,rfl⟩ F.entry_list_lt (F.args_list_lt_2 _ _) (wF a b us.toArray vs.toArray n n2 dd LA sl LB pI (fun j=>xs.getD j 0==ys.getD j 0) (fun j=>decide (xs.getD j 0<ys.getD j 0))) ⟨ho,ho2,fun j h1 h2=>?_,?_⟩))
 ·have WB:j<us.length:=by simpa using h1
  have MU:j<vs.length:=by simpa using h2
  obtain⟨t,e1⟩:=PyProof.Rows.IntsAre.int_at hx j us[j] (List.getElem?_eq_getElem WB)
  obtain⟨u,e2⟩:=PyProof.Rows.IntsAre.int_at hy j vs[j] (List.getElem?_eq_getElem MU)
  have e1:us.toArray[j]=Value.int (xs.getD j 0) t:=by simpa using e1
  have e2:vs.toArray[j]=Value.int (ys.getD j 0) u:=by simpa using e2
  rw[e1,e2]
  exact⟨EqAt.int_int _ t _ u,qT _ t _ u⟩
 ·have key:=vd xs ys 0 (fun j=>xs.getD j 0) (fun j=>ys.getD j 0) hl (fun j _=>by simp) (fun j _=>by simp)
  rw[show us.toArray.size=xs.length by simpa using lu,List.range_eq_range',key]
  exact wpAny_truthy_bool h
structure gL(h:Heap)(m:Nat)(vs:List Value)(cs:List (List Int)):Prop where
 len:vs.length=cs.length
 at':∀i,i<vs.length→∃(b:Addr) (us:List Value),vs.getD i Value.none= .ref b∧h.IsList b us.toArray∧IntsAre us (cs.getD i [])∧(cs.getD i []).length=m
theorem gL.keep{h h':Heap}{m:Nat}{vs:List Value}{cs:List (List Int)}(c:gL h m vs cs)(k:∀b o,h.get? b=some o→h'.get? b=some o):gL h' m vs cs:=
 ⟨c.len,fun i hi=>by
   obtain⟨b,us,h1,⟨o,ho,hc,n,hd⟩,h3,h4⟩:=c.at' i hi
   exact⟨b,us,h1,⟨o,k _ _ ho,hc,n,hd⟩,h3,h4⟩⟩
end
section
variable {X:Cx}
theorem map_range{α:Type}(d:α)(l:List α):(List.range l.length).map (fun i=>l.getD i d)=l:=by
 apply List.ext_getElem
 ·simp
 ·intro i h1 h2
  simp [List.getElem?_eq_getElem h2]
theorem jq:∀{as:List Addr} {us:List Value},Vals (as.map V.ref) us→us=as.map Value.ref
 | [],_,r=>by cases r;rfl
 |a::as,_,r=>by
  cases r with
  |cons h t=>rw[jq t,show _=Value.ref a from h];rfl
theorem gM:∀(as:List Addr),Vals (as.map V.ref) (as.map Value.ref)
 | []=> .nil
 |a::as=> .cons rfl (gM as)
end
end L2
namespace L2
open PySem PySem.Spec PyProof.Rows
theorem tT:bootBuiltins "min" =some (.builtin "min"):=by decide+kernel
section
variable {X:Cx}
theorem kM(hc:X.calm=true):fo X (.builtin "min") (fun xs H Q=>∃p,∃ns:List Int,xs=[.ref p]∧aD X.K H p (ns.map V.int)∧0<ns.length∧∀M,M∈ns→(∀a∈ns,M≤a)→Q (.int M) H):=by
 intro pins s σ H xs us Q I r h
 obtain⟨p,ns,rfl,hS,ve,q⟩:=h
 obtain⟨u,rfl,ru⟩:=vals1 r
 cases ru
 obtain⟨its,rv,pl,hz⟩:=I.list hS
 have hi:IntsAre its ns:=intsAre_of rv
 obtain⟨xs,e⟩:=hi.allInts.items
 have qJ:ns=xs.toList.map (·.1):=by rw[←hi.numsOf,←nums_intItems,←e]
 have pI:0<xs.size:=by
  have h3:=ve;rw[qJ,List.length_map,Array.length_toList] at h3;exact h3
 have hl:s.heap.IsList p (intItems xs):=e▸pl.isList
 refine min_intList (I.ok.hd hc) hl pI fun v h' tk hv hk=>?_
 obtain⟨t,rfl⟩:=intItems_at hv
 obtain⟨h1,h2⟩:=argBest_lt (numAt xs) (xs.size - 1)
 refine⟨.int _,H,I.kept hk,⟨t,rfl⟩,q _ ?_ fun a ha=>?_⟩
 ·rw[qJ,numAt_eq];exact getD_mem (by rw[List.length_map,Array.length_toList];omega)
 ·rw[qJ] at ha
  obtain⟨j,hj,rfl⟩:=mem_getD ha
  rw[List.length_map,Array.length_toList] at hj
  rw[←numAt_eq];exact h2 j (by omega)
end
theorem y':bootBuiltins "all" =some (.builtin "all"):=by decide+kernel
theorem wG(bs:List Bool):(List.range bs.length).all (fun i=>bs.getD i false)=bs.all id:=by
 induction bs with
 |nil=>rfl
 |cons b bs ih=>
  rw[List.length_cons,List.range_succ_eq_map,List.all_cons,List.all_map,List.all_cons]
  congr 1
theorem rz{X:Cx}(hc:X.calm=true):fo X (.builtin "all") (fun xs H Q=>∃p,∃bs:List Bool,xs=[.ref p]∧aD X.K H p (bs.map V.bl)∧Q (.bl (bs.all id)) H):=by
 intro pins s σ H xs us Q I r h
 obtain⟨p,bs,rfl,hS,q⟩:=h
 obtain⟨u,rfl,ru⟩:=vals1 r
 cases ru
 obtain⟨its,rv,pl,hz⟩:=I.list hS
 have ll:=rv.length
 rw[List.length_map] at ll
 obtain⟨o,ho,_⟩:=pl.isList
 have hI:p≠s.heap.objs.size:=Nat.ne_of_lt (Heap.lt_size ho)
 refine call_all_walk (wpAny_pyIter_list pl.isList ?_)
 refine⟨s.heap.objs.size,_,_,_,_,_,fun i=>bs.getD i false,rfl,Walks.list (A:=X.A.in1) (show X.A.in1.handled=none from I.ok.hd hc) s.heap.objs.size p hI its.toArray,⟨⟨_,Heap.get?_push_size _ rfl,rfl,rfl⟩,pl.isList.push _⟩,?_,fun h' tk hk=>?_⟩
 ·intro i v s' Q' E' hP hq
  have hP:its[i]? =some v:=by simpa using hP
  have gK:i<bs.length:=by rw[ll];exact(List.getElem?_eq_some_iff.mp hP).1
  obtain⟨u,hu,ru⟩:=rv.get (i:=i) (x:=V.bl bs[i]) (by rw[List.getElem?_map,List.getElem?_eq_getElem gK];rfl)
  rw[hP] at hu
  cases hu
  cases ru
  have e:bs.getD i false=bs[i]:=by rw[List.getD_eq_getElem?_getD,List.getElem?_eq_getElem gK];rfl
  have hq:Q' (bs.getD i false) s':=hq
  rw[e] at hq
  exact wpAny_truthy_bool hq
 ·have e:(List.range its.toArray.size).all (fun i=>bs.getD i false)=bs.all id:=by
   rw[←wG bs,ll];simp
  rw[e]
  exact⟨.bl _,H,I.kept fun b o q=>hk b o (fun z=>by
   have z:b=s.heap.objs.size:=by simpa using z
   exact absurd (Heap.lt_size q) (by rw[z];exact Nat.lt_irrefl _)) (Heap.get?_push_of_some _ q),rfl,q⟩
end L2
namespace L2
open PySem PySem.Spec PyProof.Rows
section
variable {K:PySem.W.Frag}{g:TG}{tt:TT}{te:TE}
theorem rA{J:It}{L:Addr}{Q:Hp→Prop}{σ:St}{H:Hp}(n:Nat)(H0:Hp)(S:St→Prop)(Pv:Nat→List V→Prop)(MS:∀i H',i<n→ao H0 H'→J.go i H')(rl:∀H',ao H0 H'→J.stop n H')
  (oq:H0 L=none) (hσ:S σ) (h0:ao H0 H) (hL:H L=some (.lst [])) (p0:Pv 0 []) (hz:n≤sizeLine) (hl:∀i ys,Pv i ys→ys.length≤i)
  (turn:∀i σ H' ys,i<n→S σ→ao H0 H'→H' L=some (.lst ys)→Pv i ys→∀(N:St→V→Hp→Prop) (M:St→Hp→Prop),(∀σ3 y H5,S σ3→ao H0 H5→H5 L=some (.lst ys)→Pv (i+1) (ys++[y])→N σ3 y H5)→(∀σ3 H4,S σ3→ao H0 H4→H4 L=some (.lst ys)→Pv (i+1) ys→M σ3 H4)→
   ∀x H2,J.lO i H' x H2→g x σ H2 fun σ3 H3=>tt σ3 H3 fun b H4=>if b=true then te σ3 H4 fun y H5=>N σ3 y H5 else M σ3 H4)
  (fin:∀H' ys,ao H0 H'→H' L=some (.lst ys)→Pv n ys→Q H'):
  ∃W:Nat→Nat→St→Hp→Prop,(∃m,W 0 m σ H)∧∀i m σ H,W i m σ H→(J.stop i H∧Q H)∨(J.go i H∧∀x H2,J.lO i H x H2→g x σ H2 fun σ3 H3=>tt σ3 H3 fun b H4=>if b=true
   then te σ3 H4 fun y H5=>∃ys,H5 L=some (.lst ys)∧ys.length<sizeLine∧∃m',m'<m∧W (i+1) m' σ3 (upd H5 L (.lst (ys++[y])))
   else∃m',m'<m∧W (i+1) m' σ3 H4):=by
 refine⟨fun i m σ H=>m+i=n∧S σ∧ao H0 H∧∃ys,H L=some (.lst ys)∧Pv i ys,⟨n,rfl,hσ,h0,[],hL,p0⟩,?_⟩
 rintro i m σ H ⟨hm,hs,fP,ys,Fm,hp⟩
 by_cases hi:i<n
 ·refine .inr ⟨MS i H hi fP,fun x H2 hy=>turn i σ H ys hi hs fP Fm hp _ _ (fun σ3 y H5 k1 k2 k3 k4=>?_) (fun σ3 H4 k1 k2 k3 k4=>?_) x H2 hy⟩
  ·refine⟨ys,k3,by have:=hl i ys hp;omega,m - 1,by omega,by omega,k1,fun b o e=>?_,ys++[y],af,k4⟩
   rw[aq (ah e oq)];exact k2 b o e
  ·exact⟨m - 1,by omega,by omega,k1,k2,ys,k3,k4⟩
 ·have e:i=n:=by omega
  subst e
  exact .inl ⟨rl H fP,fin H ys fP Fm hp⟩
theorem iU{a L:Addr}{xs:List V}{Q:Hp→Prop}{σ:St}{H:Hp}(H0:Hp)(S:St→Prop)(Pv:Nat→List V→Prop)(ha:aD K H0 a xs)
  (oq:H0 L=none) (hσ:S σ) (h0:ao H0 H) (hL:H L=some (.lst [])) (p0:Pv 0 []) (hz:xs.length≤sizeLine) (hl:∀i ys,Pv i ys→ys.length≤i)
  (turn:∀i x σ H' ys,xs[i]? =some x→S σ→ao H0 H'→H' L=some (.lst ys)→Pv i ys→∀(N:St→V→Hp→Prop) (M:St→Hp→Prop),(∀σ3 y H5,S σ3→ao H0 H5→H5 L=some (.lst ys)→Pv (i+1) (ys++[y])→N σ3 y H5)→(∀σ3 H4,S σ3→ao H0 H4→H4 L=some (.lst ys)→Pv (i+1) ys→M σ3 H4)→
   g x σ H' fun σ3 H3=>tt σ3 H3 fun b H4=>if b=true then te σ3 H4 fun y H5=>N σ3 y H5 else M σ3 H4)
  (fin:∀H' ys,ao H0 H'→H' L=some (.lst ys)→Pv xs.length ys→Q H'):
  ∃W:Nat→Nat→St→Hp→Prop,(∃m,W 0 m σ H)∧∀i m σ H,W i m σ H→((uK K a).stop i H∧Q H)∨((uK K a).go i H∧∀x H2,(uK K a).lO i H x H2→g x σ H2 fun σ3 H3=>tt σ3 H3 fun b H4=>if b=true
   then te σ3 H4 fun y H5=>∃ys,H5 L=some (.lst ys)∧ys.length<sizeLine∧∃m',m'<m∧W (i+1) m' σ3 (upd H5 L (.lst (ys++[y])))
   else∃m',m'<m∧W (i+1) m' σ3 H4):=
 rA xs.length H0 S Pv (fun i H' hi e=>⟨xs,xs[i],e.seq ha,List.getElem?_eq_getElem hi⟩) (fun H' e=>⟨xs,e.seq ha,Nat.le_refl _⟩) oq hσ h0 hL p0 hz hl
  (fun i σ H' ys _ hs e k p N M hN hM x H2 hy=>by
   obtain⟨rfl,hx⟩:=hy
   exact turn i x σ H2 ys (hx xs (e.seq ha)) hs e k p N M hN hM) fin
theorem wH{a c L:Addr}{xs zs:List V}{Q:Hp→Prop}{σ:St}{H:Hp}(H0:Hp)(S:St→Prop)(Pv:Nat→List V→Prop)(ha:aD K H0 a xs)(hc:aD K H0 c zs)
  (oq:H0 L=none) (hσ:S σ) (h0:ao H0 H) (hL:H L=some (.lst [])) (p0:Pv 0 []) (hz:min xs.length zs.length≤sizeLine) (hl:∀i ys,Pv i ys→ys.length≤i)
  (turn:∀i x z p σ H' ys,xs[i]? =some x→zs[i]? =some z→H' p=none→S σ→ao H0 H'→H' L=some (.lst ys)→Pv i ys→∀(N:St→V→Hp→Prop) (M:St→Hp→Prop),(∀σ3 y H5,S σ3→ao H0 H5→H5 L=some (.lst ys)→Pv (i+1) (ys++[y])→N σ3 y H5)→(∀σ3 H4,S σ3→ao H0 H4→H4 L=some (.lst ys)→Pv (i+1) ys→M σ3 H4)→
   g (.ref p) σ (upd H' p (.tup [x,z])) fun σ3 H3=>tt σ3 H3 fun b H4=>if b=true then te σ3 H4 fun y H5=>N σ3 y H5 else M σ3 H4)
  (fin:∀H' ys,ao H0 H'→H' L=some (.lst ys)→Pv (min xs.length zs.length) ys→Q H'):
  ∃W:Nat→Nat→St→Hp→Prop,(∃m,W 0 m σ H)∧∀i m σ H,W i m σ H→((u4 K a c).stop i H∧Q H)∨((u4 K a c).go i H∧∀x H2,(u4 K a c).lO i H x H2→g x σ H2 fun σ3 H3=>tt σ3 H3 fun b H4=>if b=true
   then te σ3 H4 fun y H5=>∃ys,H5 L=some (.lst ys)∧ys.length<sizeLine∧∃m',m'<m∧W (i+1) m' σ3 (upd H5 L (.lst (ys++[y])))
   else∃m',m'<m∧W (i+1) m' σ3 H4):=
 rA (min xs.length zs.length) H0 S Pv
  (fun i H' hi e=>⟨xs,zs,xs[i]'(by omega),zs[i]'(by omega),e.seq ha,e.seq hc,List.getElem?_eq_getElem _,List.getElem?_eq_getElem _⟩) (fun H' e=>⟨xs,zs,e.seq ha,e.seq hc,by omega⟩) oq hσ h0 hL p0 hz hl
  (fun i σ H' ys _ hs e k p N M hN hM v H2 hy=>by
   obtain⟨t,x,z,ht,rfl,rfl,hx,gw⟩:=hy
   exact turn i x z t σ H' ys (hx xs (e.seq ha)) (gw zs (e.seq hc)) ht hs e k p N M hN hM) fin
end
section
variable {X:Cx}
end
end L2
namespace L2
open PySem PySem.Spec PyProof.Rows
section
variable {K:PySem.W.Frag}{g:TG}{tt:TT}{te:TE}
end
section
variable {X:Cx}
theorem wI(K:PySem.W.Frag)(hK:X.K=K)(hc:X.calm=true):fo X (.builtin "any") (fun xs H Q=>∃p,∃bs:List Bool,xs=[.ref p]∧aD K H p (bs.map V.bl)∧Q (.bl (bs.any id)) H):=by subst hK;exact call_any hc
end
end L2
namespace PySem.W
open PySem PySem.Calls PyProof.Rows PyProof.V PySem.Spec
section
variable {prog:Program}{w:World}{A:Around}{E:Value→Shared→Prop}{s:Shared}{T:String}{r d:Addr}{n:Nat}{P:Nat→Value→Prop}{OK:Heap→Prop}
end
end PySem.W
namespace L2
open PySem PySem.Spec PyProof.Rows PySem.W
section
variable {X:Cx}
end
end L2
namespace L2
open PySem PySem.Spec PyProof.Rows
section
variable {X:Cx}
end
end L2
namespace L2
open PySem PySem.Spec PyProof.Rows
section
variable {X:Cx}
end
section
variable {X:Cx}{tg:Expr}
end
end L2
namespace L2
open PySem PySem.Spec PyProof.Rows
section
variable {X:Cx}
end
end L2
namespace PySem.W
open PySem PySem.Calls PyProof.Rows PyProof.V PySem.Spec
section
variable {prog:Program}{w:World}{A:Around}{E:Value→Shared→Prop}{s:Shared}{T:String}{r d:Addr}{n:Nat}{P:Nat→Value→Prop}{OK:Heap→Prop}
end
end PySem.W
namespace L2
open PySem PySem.Spec PyProof.Rows PySem.W
section
variable {X:Cx}
end
section
variable {X:Cx}{pins:List (Addr×Obj)}{σ:St}{H:Hp}{s:Shared}{a b:Addr}{jE more:List (Key×V)}{A:Around}{E:Value→Shared→Prop}
end
section
variable {X:Cx}{o e:Expr}{apos mO:Pos}{td ty:TE}
end
end L2
namespace L2
open PySem PySem.Spec PyProof.Rows
end L2
namespace L2
open PySem PySem.Spec PyProof.Rows
end L2
namespace L2
open PySem PySem.Spec PyProof.Rows PySem.W
section
variable {X:Cx}
end
end L2
namespace L2
open PySem PySem.Spec PyProof.Rows
end L2
namespace L2
open PySem PySem.Spec PyProof.Rows
section
variable {X:Cx}
theorem mZ:km X (binaryOp .FloorDiv) (rI (fun _ j=>0<j∧j<18446744073709551616) fun i j=> .int (i/j)):=Fd fun i j _ _ _ _ _ hc q=>by
 have h1:(0 :Int) <j:=hc.1
 have h2:j<18446744073709551616:=hc.2
 refine floordiv_int (by omega) (by rw[Int.fdiv_eq_ediv_of_nonneg i (by omega)];exact q) (.inl (PyProof.noPylong_of_log2 ?_))
 have:=(Nat.log2_lt (n:=j.natAbs) (by omega) (k:=64)).mpr (by omega)
 omega
end
end L2
namespace L2
open PySem PySem.Spec PyProof.Rows
section
variable {X:Cx}
theorem oX(hc:X.calm=true):fo X (.builtin "any") (fun xs H Q=>∃p,∃ns:List Int,xs=[.ref p]∧aD X.K H p (ns.map V.int)∧Q (.bl (ns.any fun n=>decide (n≠0))) H):=by
 intro pins s σ H xs us Q I r h
 obtain⟨p,ns,rfl,hS,q⟩:=h
 obtain⟨u,rfl,ru⟩:=vals1 r
 cases ru
 obtain⟨its,rv,pl,hz⟩:=I.list hS
 have ll:=rv.length
 rw[List.length_map] at ll
 obtain⟨o,ho,_⟩:=pl.isList
 have hI:p≠s.heap.objs.size:=Nat.ne_of_lt (Heap.lt_size ho)
 refine call_any_walk (wpAny_pyIter_list pl.isList ?_)
 refine⟨s.heap.objs.size,_,_,_,_,_,fun i=>(ns.map fun n=>decide (n≠0)).getD i false,rfl,Walks.list (A:=X.A.in1) (show X.A.in1.handled=none from I.ok.hd hc) s.heap.objs.size p hI its.toArray,⟨⟨_,Heap.get?_push_size _ rfl,rfl,rfl⟩,pl.isList.push _⟩,?_,fun h' tk hk=>?_⟩
 ·intro i v s' Q' E' hP hq
  have hP:its[i]? =some v:=by simpa using hP
  have gK:i<ns.length:=by rw[ll];exact(List.getElem?_eq_some_iff.mp hP).1
  obtain⟨u,hu,ru⟩:=rv.get (i:=i) (x:=V.int ns[i]) (by rw[List.getElem?_map,List.getElem?_eq_getElem gK];rfl)
  rw[hP] at hu
  cases hu
  obtain⟨t,rfl⟩:=ru
  have e:(ns.map fun n=>decide (n≠0)).getD i false=decide (ns[i]≠0):=by rw[List.getD_eq_getElem?_getD,List.getElem?_map,List.getElem?_eq_getElem gK];rfl
  have hq:Q' ((ns.map fun n=>decide (n≠0)).getD i false) s':=hq
  rw[e] at hq
  have e2:(ns[i] != 0)=decide (ns[i]≠0):=by by_cases z:ns[i]=0<;>simp [z]
  exact P.truthy_int (by rw[e2];exact hq)
 ·have e:(List.range its.toArray.size).any (fun i=>(ns.map fun n=>decide (n≠0)).getD i false)=ns.any fun n=>decide (n≠0):=by
   have e1:=oW (ns.map fun n=>decide (n≠0))
   rw[List.length_map,List.any_map] at e1
   rw[show its.toArray.size=ns.length by simpa using ll.symm,e1]
   rfl
  rw[e]
  exact⟨.bl _,H,I.kept fun b o q=>hk b o (fun z=>by
   have z:b=s.heap.objs.size:=by simpa using z
   exact absurd (Heap.lt_size q) (by rw[z];exact Nat.lt_irrefl _)) (Heap.get?_push_of_some _ q),rfl,q⟩
def MV(K:PySem.W.Frag):V→V→Hp→VK→Prop:=fun o i H Q=>∃(p:Addr) (xs:List V) (j:Nat) (v:V),o= .ref p∧i= .int j∧aD K H p xs∧xs[j]? =some v∧Q v H
theorem za:Mg X (MV X.K):=by
 intro pins s σ H o i ov iv Q I ro ri h
 obtain⟨p,xs,j,v,rfl,rfl,hq,he,q⟩:=h
 cases ro
 obtain⟨t,rfl⟩:=ri
 obtain⟨its,r,pl,hz⟩:=I.list hq
 obtain⟨w,ew,xW⟩:=r.get he
 have hn:=pH
 have hl:=r.length
 have hj:=(List.getElem?_eq_some_iff.mp he).1
 exact wpAny_getItem_list pl.isList (by omega) (by omega) (by simpa using ew) ⟨v,H,I,xW,q⟩
end
end L2
namespace L2
open PySem PySem.Spec PyProof.Rows
section
variable {X:Cx}
end
end L2
namespace PySem
structure Heap.kN(h:Heap)(e:Addr)(tb:Option Addr):Prop where
 ex:∃oe vs,h.get? e=some oe∧oe.data= .fields vs∧vs[1]? =some (tb.elim Value.none Value.ref)
 tr:∀T,tb=some T→T≠e∧∃oT ts,h.get? T=some oT∧oT.data= .fields ts∧3<ts.size
structure Heap.Moved(fs:List Addr)(e:Addr)(tb:Option Addr)(h h':Heap):Prop where
 keep:∀b o,h.get? b=some o→b≠e→tb≠some b→b∉fs→h'.get? b=some o
 slot:∀b o,h.get? b=some o→b≠e→tb≠some b→∃sl,h'.get? b=some { o with slots:=sl }
 self:∀o,h.get? e=some o→∃vs,h'.get? e=some { o with data:= .fields vs }
 ent:∀b o,tb=some b→b≠e→h.get? b=some o→∃o',h'.get? b=some o'
 size:h.objs.size≤h'.objs.size
 ctx:∀o vs,h.get? e=some o→o.data= .fields vs→∃MW,h'.get? e=some { o with data:= .fields MW }∧MW[2]? =vs[2]?
theorem Heap.Moved.there{fs:List Addr}{e:Addr}{tb:Option Addr}{h h':Heap}(m:Heap.Moved fs e tb h h')(b:Addr)(o:Obj)(q:h.get? b=some o):∃o',h'.get? b=some o':=by
 by_cases be:b=e
 ·subst be
  obtain⟨vs,z⟩:=m.self o q
  exact⟨_,z⟩
 ·by_cases bt:tb=some b
  ·exact m.ent b o bt be q
  ·obtain⟨sl,z⟩:=m.slot b o q be bt
   exact⟨_,z⟩
theorem Heap.Moved.refl{fs:List Addr}{e:Addr}{tb:Option Addr}{h:Heap}(x:h.kN e tb):Heap.Moved fs e tb h h:=
 ⟨fun _ _ q _ _ _=>q,fun _ o q _ _=>⟨o.slots,q⟩,fun o q=>by
  obtain⟨oe,vs,he,hd,_⟩:=x.ex
  rw[q] at he
  cases he
  exact⟨vs,by rw[q,←hd]⟩,fun _ o _ _ q=>⟨o,q⟩,Nat.le_refl _,fun o vs q d=>⟨vs,by rw[q,←d],rfl⟩⟩
theorem Heap.Moved.trans{fs:List Addr}{e:Addr}{tb Zw:Option Addr}{h h1 h2:Heap}(x:Heap.Moved fs e tb h h1)(y:Heap.Moved fs e Zw h1 h2)(n:∀T,Zw=some T→tb=some T∨h.objs.size≤T):Heap.Moved fs e tb h h2 where
 keep:=fun b o q be bt bf=>y.keep b o (x.keep b o q be bt bf) be (fun z=>(n b z).elim bt fun w=>absurd (Heap.lt_size q) (Nat.not_lt.mpr w)) bf
 slot:=fun b o q be bt=>by
  obtain⟨sl,z⟩:=x.slot b o q be bt
  obtain⟨GS,z'⟩:=y.slot b _ z be (fun z=>(n b z).elim bt fun w=>absurd (Heap.lt_size q) (Nat.not_lt.mpr w))
  exact⟨GS,z'⟩
 self:=fun o q=>by
  obtain⟨vs,z⟩:=x.self o q
  obtain⟨MW,z'⟩:=y.self _ z
  exact⟨MW,z'⟩
 ent:=fun b o _ be q=>by
  obtain⟨o1,z⟩:=x.there b o q
  exact y.there b o1 z
 size:=Nat.le_trans x.size y.size
 ctx:=fun o vs q d=>by
  obtain⟨v1,z1,c1⟩:=x.ctx o vs q d
  obtain⟨v2,z2,c2⟩:=y.ctx _ v1 z1 rfl
  exact⟨v2,z2,c2.trans c1⟩
theorem Heap.Moved.mono{fs x':List Addr}{e:Addr}{tb:Option Addr}{h h':Heap}(x:Heap.Moved fs e tb h h')(k:∀b∈fs,b∈x'):Heap.Moved x' e tb h h':=
 ⟨fun b o q be bt bf=>x.keep b o q be bt fun z=>bf (k b z),x.slot,x.self,x.ent,x.size,x.ctx⟩
theorem jM{o:Obj}{vs:Array Value}(hd:o.data= .fields vs)(f:Array Value→Array Value):o.mapFields f={ o with data:= .fields (f vs) }:=by
 obtain⟨a,b,c,d⟩:=o
 cases hd
 rfl
section
variable {M:Model}{A:Around}{E:Value→Shared→Prop}{s:Shared}
theorem rB{base:Heap}{env:Env}{outer:List Env}{L e:Addr}{oe:Obj}{vs:Array Value}{WC:Value}{nx:Bool}{Q:Unit→Shared→Prop}(fr:A.frames=some (env::outer))(fl:s.heap.FunFrames base (env::outer))(hL:env.frame=some L)
  (xe:s.heap.get? e=some oe) (xd:oe.data= .fields vs) (xs:1<vs.size)
  (k:∀h' T,h'.kN e (some T)→s.heap.objs.size≤T→Heap.Moved ((env::outer).filterMap (·.frame)) e none s.heap h'→Q () { s with heap:=h' }):
  wpAny M A (do let a←frameOf env;let pl←entryPlaceOf L nx;let b←EntryCells.newEntry WC a .none (rawInt L) .none pl;setField (.ref e) 1 b) Q E s:=by
 have ene:e∉(env::outer).filterMap (·.frame):=fun z=>by
  obtain⟨_,o,q,nf⟩:=fl.mem z
  rw[xe] at q
  cases q
  exact nf vs xd
 refine wpAny_bind (wpAny_frameOf_fun fr fl hL fun g1 so=>?_)
 refine wpAny_bind (wpAny_entryPlaceOf fun pl ok=>?_)
 unfold EntryCells.newEntry newFields
 refine wpAny_bind (wpAny_newObj_type ?_ (ok.sizeOk5 _ _ _ _ _))
 have e1:g1.get? e=some oe:=(so.2.1 e ene).trans xe
 generalize hO:({ cls:= .type "traceback",dict:=none,data:= .fields ([WC, .ref L, .none,rawInt L, .none]++(if pl.isEmpty then List.replicate 6 Value.none else pl)).toArray }:Obj)=ob
 have e2:=Heap.get?_push_of_some (h:=g1) ob e1
 refine wpAny_setField e2 xd xs ?_
 have Te:g1.objs.size≠e:=Nat.ne_of_gt (Heap.lt_size e1)
 have nf:ob.isFreed=false:=by rw[←hO];rfl
 have eT:(g1.push ob).get? g1.objs.size=some ob:=Heap.get?_push_size g1 nf
 have e3:=Heap.get?_update_self (Obj.mapFields (·.setIfInBounds 1 (Value.ref g1.objs.size))) e2 (Obj.isFreed_of_fields (Obj.data_mapFields xd _))
 refine k _ g1.objs.size ⟨⟨_,_,e3,Obj.data_mapFields xd _,by simp [xs]⟩,fun T z=>?_⟩ (Nat.le_of_eq so.1.symm) ⟨fun b o q be _ bf=>?_,fun b o q be _=>?_,fun o q=>?_,fun b o z=>(by cases z),?_,fun o us q d=>?_⟩
 ·cases z
  refine⟨Te,ob,([WC, .ref L, .none,rawInt L, .none]++(if pl.isEmpty then List.replicate 6 Value.none else pl)).toArray,?_,by rw[←hO],by simp only [List.size_toArray,List.length_append,List.length_cons,List.length_nil];omega⟩
  rw[Heap.get?_update_other _ _ (Ne.symm Te)]
  exact eT
 ·rw[Heap.get?_update_other _ _ (Ne.symm be)]
  exact Heap.get?_push_of_some _ ((so.2.1 b bf).trans q)
 ·obtain⟨sl,z⟩:=so.2.2 b o q
  refine⟨sl,?_⟩
  rw[Heap.get?_update_other _ _ (Ne.symm be)]
  exact Heap.get?_push_of_some _ z
 ·rw[xe] at q
  cases q
  exact⟨_,e3.trans (by rw[jM xd])⟩
 ·show s.heap.objs.size≤((g1.push ob).update e _).objs.size
  rw[Heap.size_after_update,Heap.size_push,←so.1]
  exact Nat.le_succ _
 ·rw[xe] at q
  cases q
  rw[xd] at d
  cases d
  exact⟨_,e3.trans (by rw[jM xd]),by simp⟩
theorem gC{e:Addr}{tb fr:Option Addr}{Q:Unit→Shared→Prop}(x:s.heap.kN e tb)(k:∀h',h'.kN e tb→Heap.Moved [] e tb s.heap h'→Q () { s with heap:=h' }):wpAny M A (setFlight (.ref e) fr) Q E s:=by
 obtain⟨oe,vs,he,hd,h1⟩:=x.ex
 unfold setFlight
 refine wpAny_bind (wpAny_field he hd h1 ?_)
 cases tb with
 |none=>
  rw[if_neg (by decide)]
  exact wpAny_pure (k _ x (.refl x))
 |some T=>
  obtain⟨ne,oT,ts,hT,dT,sz⟩:=x.tr T rfl
  rw[if_pos (show ((some T).elim Value.none Value.ref != Value.none)=true from by simp)]
  generalize (fr.elim Value.none fun f=>rawInt f)=v3
  refine wpAny_setField hT dT sz ?_
  have Hr:(s.heap.update T (Obj.mapFields (·.setIfInBounds 3 v3))).get? e=some oe:=(Heap.get?_update_other _ _ ne).trans he
  have Bj:=Heap.get?_update_self (Obj.mapFields (·.setIfInBounds 3 v3)) hT (Obj.isFreed_of_fields (Obj.data_mapFields dT _))
  refine k _ ⟨⟨oe,vs,Hr,hd,h1⟩,fun T' z=>?_⟩ ⟨fun b o q _ bt _=>?_,fun b o q _ bt=>⟨o.slots,?_⟩,fun o q=>?_,fun b o z _ _=>?_,?_,fun o us q d=>?_⟩
  ·cases z
   exact⟨ne,_,_,Bj,Obj.data_mapFields dT _,by simp [sz]⟩
  ·exact(Heap.get?_update_other _ _ fun z=>bt (by rw[z])).trans q
  ·exact(Heap.get?_update_other _ _ fun z=>bt (by rw[z])).trans q
  ·rw[he] at q
   cases q
   exact⟨vs,by rw[Hr,←hd]⟩
  ·cases z
   exact⟨_,Bj⟩
  ·show s.heap.objs.size≤(s.heap.update T _).objs.size
   rw[Heap.size_after_update]
   exact Nat.le_refl _
  ·rw[he] at q
   cases q
   exact⟨us,by rw[Hr,←d],rfl⟩
theorem pU{base:Heap}{env:Env}{outer:List Env}{L e:Addr}{tb:Option Addr}{Q:Unit→Shared→Prop}(fr:A.frames=some (env::outer))(fl:s.heap.FunFrames base (env::outer))(hL:env.frame=some L)(x:s.heap.kN e tb)
  (k:∀h' T,h'.kN e (some T)→tb=some T∨s.heap.objs.size≤T→Heap.Moved ((env::outer).filterMap (·.frame)) e tb s.heap h'→Q () { s with heap:=h' }):wpAny M A (noteFrame (.ref e) env) Q E s:=by
 obtain⟨oe,vs,he,hd,h1⟩:=id x.ex
 have Zx:1<vs.size:=(Array.getElem?_eq_some_iff.mp h1).1
 unfold noteFrame
 simp only [hL]
 refine wpAny_bind (wpAny_field he hd h1 ?_)
 cases tb with
 |none=>
  rw[if_neg (by decide)]
  exact rB fr fl hL he hd Zx fun h' T a b c=>k h' T a (.inr b) c
 |some T=>
  obtain⟨ne,oT,ts,hT,dT,sz⟩:=x.tr T rfl
  rw[if_pos (show ((some T).elim Value.none Value.ref != Value.none)=true from by simp)]
  have h3:ts[3]? =some ts[3]:=Array.getElem?_eq_getElem sz
  refine wpAny_bind (wpAny_field hT dT h3 ?_)
  by_cases c:(ts[3]==rawInt L)=true
  ·rw[if_pos c]
   exact wpAny_pure (k _ T x (.inl rfl) (.refl x))
  ·rw[if_neg c]
   refine wpAny_bind (wpAny_setField hT dT sz ?_)
   have ot:∀b,b≠T→(s.heap.update T (Obj.mapFields (·.setIfInBounds 3 Value.none))).get? b=s.heap.get? b:=fun b z=>Heap.get?_update_other _ _ (Ne.symm z)
   have Bj:=Heap.get?_update_self (Obj.mapFields (·.setIfInBounds 3 Value.none)) hT (Obj.isFreed_of_fields (Obj.data_mapFields dT _))
   have zs:(s.heap.update T (Obj.mapFields (·.setIfInBounds 3 Value.none))).objs.size=s.heap.objs.size:=Heap.size_after_update ..
   refine rB (s:={ s with heap:=s.heap.update T (Obj.mapFields (·.setIfInBounds 3 Value.none)) }) fr (fl.of_keeps fun b o q nf=>⟨o,(ot b fun z=>?_).trans q,rfl⟩) hL ((ot e (Ne.symm ne)).trans he) hd Zx fun h' T' a b c=>k h' T' a (.inr (by rw[←zs];exact b)) ?_
   ·rw[z,hT] at q
    cases q
    exact nf ts dT
   ·refine⟨fun b o q be bt bf=>c.keep b o ((ot b fun z=>bt (by rw[z])).trans q) be (fun z=>by cases z) bf,fun b o q be bt=>c.slot b o ((ot b fun z=>bt (by rw[z])).trans q) be fun z=>(by cases z),fun o q=>c.self o ((ot e (Ne.symm ne)).trans q),fun b o z be q=>?_,?_,fun o us q d=>c.ctx o us ((ot e (Ne.symm ne)).trans q) d⟩
    ·cases z
     exact c.there _ _ Bj
    ·rw[←zs]
     exact c.size
theorem zc{base:Heap}{env:Env}{outer:List Env}{L e:Addr}{tb:Option Addr}{Q:Unit→Shared→Prop}(fr:A.frames=some (env::outer))(fl:s.heap.FunFrames base (env::outer))(hL:env.frame=some L)(x:s.heap.kN e tb)
  (k:∀h' T,h'.kN e (some T)→tb=some T∨s.heap.objs.size≤T→Heap.Moved ((env::outer).filterMap (·.frame)) e tb s.heap h'→Q () { s with heap:=h' }):wpAny M A (leaving env (.ref e)) Q E s:=by
 unfold leaving
 refine wpAny_bind (pU fr fl hL x fun h1 T a b c=>gC (s:={ s with heap:=h1 }) a fun h2 a' c'=>k h2 T a' b (c.trans (c'.mono fun _ z=>absurd z (by simp)) fun T' z=>?_))
 cases z
 exact b
theorem B'{env:Env}{e T:Addr}{Q:Unit→Shared→Prop}(x:s.heap.kN e (some T))(k:∀h',h'.kN e (some T)→Heap.Moved [] e (some T) s.heap h'→Q () { s with heap:=h' }):
  wpAny M A (do
   if (←field (.ref e) 1)== .none then unsupported "frame.own-activation:exception-without-traceback"
   setFlight (.ref e) env.frame) Q E s:=by
 obtain⟨oe,vs,he,hd,h1⟩:=id x.ex
 refine wpAny_bind (wpAny_field he hd h1 ?_)
 rw[if_neg (by simp)]
 exact gC x k
end
end PySem
namespace PySem.W
open PySem PySem.Calls PyProof.Rows PySem.Builtin PySem.Builtin.ObjectAttr
abbrev sW:List Value:=[.type "ValueError", .type "Exception", .type "BaseException", .type "object"]
structure fN(K:Frag)(C HE f:Addr):Prop where
 obj:∃(nm q:Str) (N:Addr) (bs:List Value) (sn:List Str) (sub:List Value) (ab:Bool) (col:Option Bool) (dd:Option Addr) (k0 k1 k2 k3 k5:Option Value),
  K.lookup C=some (excClassObj nm q C N bs (.ref HE::sW) true sn sub ab col dd k0 k1 k2 k3 k5 "ValueError.__new__")
 init:findIn K (.ref C) "__init__" =some (some (.ref f))
 fn:typeIn K (.ref f)=some (.type "function")
 sa:findIn K (.ref C) "__setattr__" =some (some (.builtin "object.__setattr__"))
 ga:findIn K (.ref C) "__getattribute__" =some (some (.builtin "BaseException.__getattribute__"))
 gh:findIn K (.ref C) "__getattr__" =some none
theorem gN{C HE:Addr}{T:String}{b:Bool}(h:sW.contains (.type T)=b):(Value.ref C:: .ref HE::sW).contains (.type T)=b:=by
 rw[List.contains_cons,List.contains_cons,h]
 rfl
section
variable {prog:Program}{w:World}{A:Around}{E:Value→Shared→Prop}{R:Result→Shared→Prop}{h:Heap}{g:Array GenState}{d:Drawn}{t:Nat}{os:OsState}
variable {nm q:Str}{C N HE:Addr}{bs:List Value}{sn:List Str}{sub:List Value}{ab:Bool}{col:Option Bool}{dd:Option Addr}{k0 k1 k2 k3 k5:Option Value}
abbrev nc(vs:List Value):Obj:={ cls:= .type "tuple",data:= .seq vs.toArray }
abbrev ng(C t:Addr):Obj:={ cls:= .ref C,data:= .fields #[.ref t, .none, .none, .none, .bool false, .none] }
theorem pV{M:Model}{rest:List Value}{Q:Unit→Shared→Prop}(kC:h.get? C=some (excClassObj nm q C N bs (.ref HE::sW) true sn sub ab col dd k0 k1 k2 k3 k5 "ValueError.__new__"))
  (z:Q () ⟨h,g,d,t,os⟩):wpAny M A (checkBuiltinCall "ValueError.__new__" ⟨.ref C::rest,[]⟩) Q E ⟨h,g,d,t,os⟩:=by
 have F:=PySem.F.excBase_ValueError
 have c1:(Value.ref C:: .ref HE::sW).contains (.type "ValueError")=true:=gN (by decide+kernel)
 have f0:=F.noStar
 simp only [checkBuiltinCall,F.newKind,F.newSplit,F.newRow]
 repeat (first|refine wpAny_loadPart_at kC ?_| (refine wpAny_isSubtype_exc kC ?_;rw[c1]) |refine wpAny_staticBase_exc kC ?_|refine wpAny_madeBy_exc kC ?_|simp only [bne_self_eq_false,Bool.false_eq_true,if_false] |wp_step)
 exact z
theorem Hs{rest:List Value}(kC:h.get? C=some (excClassObj nm q C N bs (.ref HE::sW) true sn sub ab col dd k0 k1 k2 k3 k5 "ValueError.__new__"))
  (z:R (.ok (.ret (.ref (h.objs.size+1)))) ⟨(h.push (nc rest)).push (ng C h.objs.size),g,d,t,os⟩) (hz:rest.length≤sizeLine):
  codeAny (model prog w) A (.builtin "ValueError.__new__" ⟨.ref C::rest,[]⟩) R ⟨h,g,d,t,os⟩:=by
 have F:=PySem.F.excBase_ValueError
 have f0:=F.ends
 have c1:(Value.ref C:: .ref HE::sW).contains (.type "ValueError")=true:=gN (by decide+kernel)
 have c2:(Value.ref C:: .ref HE::sW).contains (.type "AttributeError")=false:=gN (by decide+kernel)
 have c3:(Value.ref C:: .ref HE::sW).contains (.type "NameError")=false:=gN (by decide+kernel)
 refine codeAny_builtinAt F.entry ?_
 unfold Builtin.«BaseException.__new__»
 refine wpAt_bind ?_
 show wpAt _ _ _ (stack >>= _) _ _ _
 refine wpAt_bind (wpAt_stack fun p below=>wpAt_of_wpAny ?_)
 wp_walk
 refine wpAt_of_wpAny ?_
 rw[F.owner]
 repeat (first|with_reducible refine wpAny_madeHere_exc F.canon kC ?_|with_reducible refine wpAny_loadPart_at kC ?_| (with_reducible refine wpAny_isSubtype_exc kC ?_;first|rw[c1] |rw[c2] |rw[c3]) |wp_step)
 show R _ _
 rw[Heap.size_push]
 exact z
end
section
variable {prog:Program}{w:World}{A:Around}{E:Value→Shared→Prop}{R:Result→Shared→Prop}{s:Shared}{K:Frag}{C HE f:Addr}
theorem Ca{vs:List Value}(X:K.In s.heap)(Z:fN K C HE f)(hz:vs.length≤sizeLine)
  (k:codeAny (model prog w) (A.under (.builtin "type.__call__" ⟨.ref C::vs,[]⟩)) (.call (.ref f) ⟨.ref (s.heap.objs.size+1)::vs,[]⟩) (InitBack (s.heap.objs.size+1) R) { s with heap:=(s.heap.push (nc vs)).push (ng C s.heap.objs.size) }):
  codeAny (model prog w) A (.call (.ref C) ⟨vs,[]⟩) R s:=by
 obtain⟨hp,g,d,t,os⟩:=s
 obtain⟨nm,q,N,bs,sn,sub,ab,col,dd,k0,k1,k2,k3,k5,hK⟩:=Z.obj
 have kC:=X _ _ hK
 have F:=PySem.F.excBase_ValueError
 have f1:=tc_lookup
 have f2:=tc_bind (.ref C)
 have hT:(⟨hp,g,d,t,os⟩:Shared).TypeIs (.ref C) "type" :=⟨_,kC,rfl⟩
 refine codeAny_of_tree ?_
 show wpAny _ _ (callAny (.ref C) _) _ _ _
 repeat (any_goals (first|assumption|with_reducible refine wpAny_loadPart_at kC ?_|wp_step))
 refine⟨rfl,?_⟩
 refine codeAny_call_builtin_at (Code.quiet_builtin _ (by decide+kernel)) entry_typeCall (wpAny_check_type_call_sub kC ?_)
 repeat (first|with_reducible refine wpAny_loadPart_at kC ?_|with_reducible refine wpAny_madeBy_exc kC ?_|wp_step)
 refine codeAny_call_builtin_code (Code.quiet_builtin _ F.quiet) (pV kC ?_)
 refine Hs kC ?_ hz
 show wpAny _ _ _ _ _ _
 have keeps:∀b o,hp.get? b=some o→((hp.push (nc vs)).push (ng C hp.objs.size)).get? b=some o:=fun b o e=>Heap.get?_push_of_some _ (Heap.get?_push_of_some _ e)
 have kC1:=keeps _ _ kC
 have X1:K.In ((hp.push (nc vs)).push (ng C hp.objs.size)):=fun b o e=>keeps b o (X b o e)
 have eg:((hp.push (nc vs)).push (ng C hp.objs.size)).get? (hp.objs.size+1)=some (ng C hp.objs.size):=by heap_get
 have c0:(Value.ref C:: .ref HE::sW).contains (.ref C)=true:=by simp
 unfold isInstance
 repeat (first|with_reducible refine wpAny_loadPart_at eg ?_|wp_step)
 show wpAny _ _ (isSubtype (.ref C) (.ref C)) _ _ _
 refine wpAny_isSubtype_exc kC1 ?_
 rw[c0]
 repeat (first|with_reducible refine wpAny_loadPart_at eg ?_|wp_step)
 show wpAny _ _ (typeLookup (.ref C) _) _ _ _
 refine looks_findIn X1 Z.init _ _ _ _ (fun _ _ e=>e) ?_
 refine wpAny_holding (wpAny_bind (bind_fn X1 _ Z.fn _ _ _ _ (fun _ _ e=>e) ?_))
 refine wpAny_bind (wpAny_call (codeAny_mono k fun r s' y=>?_))
 cases r with
 |error z=>exact y
 |ok fl=>
  cases fl with
  |ret u=>
   obtain⟨eu,y⟩:=y
   subst eu
   exact wpAny_pure (wpAny_pure y)
  |next=>exact y.elim
  |brk=>exact y.elim
  |cont=>exact y.elim
end
section
variable {prog:Program}{w:World}{A:Around}{E:Value→Shared→Prop}{R:Result→Shared→Prop}{s:Shared}{K:Frag}{C HE f e:Addr}{ox:Obj}{od:Option Obj}{vs:Array Value}{name:Str}{v:Value}{tk:Tok}
theorem fN.cd(Z:fN K C HE f):∃cd,clsIn K C=some cd∧cd.mro= .ref C:: .ref HE::sW∧cd.hasDict=true:=by
 obtain⟨nm,q,N,bs,sn,sub,ab,col,dd,k0,k1,k2,k3,k5,hK⟩:=Z.obj
 exact⟨_,by unfold clsIn;rw[hK],rfl,rfl⟩
theorem fN.mro(Z:fN K C HE f){T:String}{b:Bool}(h:sW.contains (.type T)=b):mroIn K C (.type T)=some b:=by
 obtain⟨cd,a,m,_⟩:=Z.cd
 unfold mroIn
 rw[a,Option.bind_some,m,gN h]
 rfl
end
section
variable {M:Model}{A:Around}{E:Value→Shared→Prop}{s:Shared}{K:Frag}{env:Env}
theorem zd{x:Sem Value}{Q:Flow→Shared→Prop}(ha:A.handled=none)
  (k:wpAny M A x (fun v s1=>∃e oe vs C HE f,v= .ref e∧K.In s1.heap∧fN K C HE f∧s1.heap.get? e=some oe∧oe.cls= .ref C∧oe.data= .fields vs∧vs[1]? =some .none∧E (.ref e) s1) E s):wpAny M A (raiseStmt env (some x) none) Q E s:=by
 unfold raiseStmt
 refine wpAny_bind (wpAny_mono k (fun v s1 y=>?_) fun _ _ y=>y)
 obtain⟨e,oe,vs,C,HE,f,rfl,X,Z,he,hc,hd,h1,hE⟩:=y
 have cB:(Value.ref C:: .ref HE::sW).contains (.type "BaseException")=true:=gN (by decide+kernel)
 obtain⟨nm,q,N,bs,sn,sub,ab,col,dd,k0,k1,k2,k3,k5,hK⟩:=Z.obj
 have kC:=X _ _ hK
 obtain⟨hp,g,d,tk,os⟩:=s1
 obtain⟨oc,Zy,oda,qI⟩:=oe
 dsimp only at hc hd
 subst hc hd
 repeat (first|with_reducible refine wpAny_loadPart_at he ?_|with_reducible refine wpAny_loadPart_at kC ?_| (with_reducible refine wpAny_isSubtype_exc kC ?_;rw[cB]) |wp_step)
 rw[h1]
 refine wpAny_pure ?_
 rw[if_neg (by decide)]
 exact wpAny_pure (wpAny_raiseNew_none ha hE)
end
section
variable {prog:Program}{w:World}{A:Around}{E:Value→Shared→Prop}{s:Shared}{K:Frag}{C HE f e:Addr}{ox:Obj}{vs:Array Value}
theorem ze{us:List Value}{Q:Value→Shared→Prop}(X:K.In s.heap)(Z:fN K C HE f)(hx:s.heap.get? e=some ox)(hc:ox.cls= .ref C)(hd:ox.data= .fields vs)(h0:0<vs.size)(hz:us.length≤sizeLine)
  (k:∀h',h'.get? e=some { ox with data:= .fields (vs.setIfInBounds 0 (.ref s.heap.objs.size)) }→(∀b o,b≠e→s.heap.get? b=some o→h'.get? b=some o)→Q .none { s with heap:=h' }):
  wpAny (model prog w) A (call (.builtin "ValueError.__init__") (.ref e::us)) Q E s:=by
 have F:=PySem.F.excBase_ValueError
 obtain⟨nm,q,N,bs,sn,sub,ab,col,dd,k0,k1,k2,k3,k5,hK⟩:=Z.obj
 have kC:=X _ _ hK
 have c1:(Value.ref C:: .ref HE::sW).contains (.type "ValueError")=true:=gN (by decide+kernel)
 obtain⟨hp,g,d,t,os⟩:=s
 obtain⟨oc,Zy,oda,qI⟩:=ox
 dsimp only at hc hd
 subst hc hd
 refine wpAny_call (codeAny_call_builtin F.init.plain F.initEntry ?_)
 have f0:=F.noStar
 simp only [checkBuiltinCall,F.initKind,F.initSplit,F.initRow]
 repeat (first|with_reducible refine wpAny_loadPart_at hx ?_|with_reducible refine wpAny_loadPart_at kC ?_| (with_reducible refine wpAny_isSubtype_exc kC ?_;rw[c1]) |wp_step)
 refine wpAny_onRaise ?_
 rw[show∀(a b:String) (n:Nat),Bind.check ⟨.positional,"*","ValueError", .self,[⟨"args", .varPos,false⟩]⟩ a b n (List.map (fun x=>x.fst) ({ pos:=Value.ref e::us }:Args).kw)=pure () from fun a b n=>check_star_args _ _ _ _ _ _]
 refine wpAny_pure ?_
 wp_walk
 rw[show vs[0]? =some vs[0] from Array.getElem?_eq_getElem h0]
 refine wpAny_pure (wpAny_bind (wpAny_setField (Heap.get?_push_of_some _ hx) rfl h0 ?_))
 generalize hG:((hp.push (nc us)).update e (Obj.mapFields (·.setIfInBounds 0 (Value.ref hp.objs.size))))=G
 have gx:G.get? e=some { cls:= .ref C,dict:=Zy,data:= .fields (vs.setIfInBounds 0 (.ref hp.objs.size)),slots:=qI }:=by
  rw[←hG]
  exact Heap.get?_update_self (Obj.mapFields (·.setIfInBounds 0 (Value.ref hp.objs.size))) (Heap.get?_push_of_some (nc us) hx) rfl
 have go:∀b o,b≠e→hp.get? b=some o→G.get? b=some o:=fun b o be q=>by
  rw[←hG]
  exact(Heap.get?_update_other _ _ (Ne.symm be)).trans (Heap.get?_push_of_some _ q)
 have fin:=k G gx go
 generalize vs[0]=v0
 cases v0 with
 |ref a=>
  dsimp only
  repeat wp_step
  exact fin
 |_=>exact wpAny_pure (wpAny_pure fin)
end
end PySem.W
namespace L2
open PySem PySem.Spec PyProof.Rows
class jr where
 Ht:Addr→Prop
variable [jr]
def Zz(dx:Addr)(fs:List (Str×V)):HO:= .ext fun h=>∃mA,h.Ns1 dx mA∧(∀f,lM (fs.lookup f) (mA f))∧PySem.Within mA (fs.map (·.1))
def Bk(e C:Addr)(dx:Option Addr):HO:= .ext fun h=>∃o vs,h.get? e=some o∧o.cls= .ref C∧o.dict=dx∧o.data= .fields vs∧vs[1]? =some .none∧vs[2]? =some .none∧vs.size=6
def xY(e C:Addr)(dx:Option Addr):HO:= .ext fun h=>∃o vs,h.get? e=some o∧o.cls= .ref C∧o.dict=dx∧o.data= .fields vs∧(vs[2]? =some .none∨jr.Ht C)
section
variable {P:Program}{w:World}{H:Hp}{h:Heap}{e C dx:Addr}{od:Option Addr}{o:Obj}{vs:Array Value}
theorem Fn(he:h.get? e=some o)(hc:o.cls= .ref C)(hd:o.dict=od)(hf:o.data= .fields vs)(h2:vs[2]? =some .none∨jr.Ht C):cY P w H h e (xY e C od):=
 ⟨⟨o,vs,he,hc,hd,hf,h2⟩,⟨o,he⟩,fun _ _ ⟨o,vs,a,b⟩ k=>⟨o,vs,k _ a,b⟩⟩
theorem Fp(he:h.get? e=some o)(hc:o.cls= .ref C)(hd:o.dict=od)(hf:o.data= .fields vs)(h1:vs[1]? =some .none)(h2:vs[2]? =some .none∧vs.size=6):cY P w H h e (Bk e C od):=
 ⟨⟨o,vs,he,hc,hd,hf,h1,h2⟩,⟨o,he⟩,fun _ _ ⟨o,vs,a,b⟩ k=>⟨o,vs,k _ a,b⟩⟩
theorem tU(ok:jF P w H h)(q:H e=some (xY e C od)):∃o vs,h.get? e=some o∧o.cls= .ref C∧o.dict=od∧o.data= .fields vs:=let ⟨o,vs,a,b,c,d,_⟩:=(ok e _ q).1;⟨o,vs,a,b,c,d⟩
theorem Hu(ok:jF P w H h)(q:H e=some (xY e C od)):∃o vs,h.get? e=some o∧o.cls= .ref C∧o.dict=od∧o.data= .fields vs∧(vs[2]? =some .none∨jr.Ht C):=(ok e _ q).1
theorem zf(ok:jF P w H h)(q:H e=some (Bk e C od)):∃o vs,h.get? e=some o∧o.cls= .ref C∧o.dict=od∧o.data= .fields vs∧vs[1]? =some .none∧vs[2]? =some .none∧vs.size=6:=(ok e _ q).1
theorem Hv{fs:List (Str×V)}(ok:jF P w H h)(q:H dx=some (Zz dx fs)):∃mA,h.Ns1 dx mA∧(∀f,lM (fs.lookup f) (mA f))∧PySem.Within mA (fs.map (·.1)):=(ok dx _ q).1
end
structure iB(X:Cx)(T:Addr):Prop where
 above:X.s₀.heap.objs.size≤T
 loc:T≠X.env.locals
 cell:∀x c,X.env.cells.lookup x=some c→c≠T
 pn:∀p∈X.pn,p.1≠T
section
variable {X:Cx}{pins:List (Addr×Obj)}{σ:St}{H:Hp}{s:Shared}{e C:Addr}{od tb:Option Addr}{h':Heap}{ER:St→XK}{v:Value}
theorem Inv.Fq(I:Inv X pins σ H s){T:Addr}(h:s.heap.objs.size≤T):iB X T:=by
 refine⟨Nat.le_trans I.sz h,fun z=>?_,fun x c q z=>?_,fun p hp z=>?_⟩
 ·subst z
  exact absurd I.lt (Nat.not_lt.mpr h)
 ·obtain⟨_,o,ho,_⟩:=I.cell x c q
  subst z
  exact absurd (Heap.lt_size ho) (Nat.not_lt.mpr h)
 ·have q:=(I.pin p (List.mem_append_left _ hp)).1
  rw[z] at q
  exact absurd (Heap.lt_size q) (Nat.not_lt.mpr h)
def jN(X:Cx)(ER:St→XK)(v:Value)(s:Shared):Prop:=
 ∃e C dx σ H tb,v= .ref e∧Inv X [] σ H s∧H e=some (xY e C dx)∧s.heap.kN e tb∧(∀T,tb=some T→H T=none∧iB X T)∧ER σ (.ref C) dx H
def Lets(X:Cx)(ER:St→XK):Prop:=∀v s,jN X ER v s→X.xe v s
theorem iB.cZ{E:Value→Shared→Prop}{T:Addr}(n:iB (X.ij E) T):iB X T:=⟨n.above,n.loc,n.cell,n.pn⟩
theorem jN.cZ{E:Value→Shared→Prop}(z:jN (X.ij E) ER v s):jN X ER v s:=by
 obtain⟨e,C,dx,σ,H,tb,ev,I,he,fl,ht,hE⟩:=z
 exact⟨e,C,dx,σ,H,tb,ev,I.cZ,he,fl,fun T q=>⟨(ht T q).1,(ht T q).2.cZ⟩,hE⟩
theorem zg:Lets (X.ij (jN X ER)) ER:=fun _ _ z=>z.cZ
theorem Inv.Fs(I:Inv X pins σ H s):Inv X [] σ H s:=I.pG fun p hp=>absurd hp (by simp)
theorem Inv.moved(I:Inv X [] σ H s)(he:H e=some (xY e C od))(ht:∀T,tb=some T→H T=none∧iB X T)(m:Heap.Moved (qH X.stack) e tb s.heap h'):Inv X [] σ H { s with heap:=h' }:=by
 have ne:∀b,H b=none→b≠e:=fun b n z=>by
  subst z
  rw[he] at n
  cases n
 refine I.uJ (s':={ s with heap:=h' }) (H':=H) (ch:=tb.toList) rfl ⟨fun b o q n hb hx=>m.keep b o q (ne b n) (fun z=>hx (by rw[z];simp)) hb,fun b o q n hb hx=>m.slot b o q (ne b n) fun z=>hx (by rw[z];simp),fun _ _ _ n _=>n,fun b o q _=>m.there b o q,
  fun _ _ q=>q,fun _ _ _ q=>q,fun _ ps q=>⟨#[],by simpa using q⟩⟩ (fun a o q=>?_) I.bare fun b hb=>?_
 ·by_cases ae:a=e
  ·subst ae
   rw[he] at q
   cases q
   obtain⟨o,vs,h1,h2,h3,h4,h5⟩:=Hu I.bH he
   obtain⟨MW,z,c⟩:=m.ctx o vs h1 h4
   exact Fn z h2 h3 rfl (by rw[c];exact h5)
  ·refine(I.bH a o q).pE (fun b u hb z=>?_) (fun _ q=>q) fun _ _ q=>q
   have lU:∃o',H b=some o':=by
    rcases hb with hb|hb
    ·exact⟨o,by rw[hb];exact q⟩
    ·exact⟨_,hb⟩
   obtain⟨o',lU⟩:=lU
   refine m.keep b u z (fun z=>?_) (fun z=>?_) fun z=>?_
   ·rcases hb with hb|hb
    ·exact ae (hb.symm.trans z)
    ·rw[z,he] at hb
     cases hb
   ·rw[(ht b z).1] at lU
    cases lU
   ·rw[I.l7 b z] at lU
    cases lU
 ·have z:tb=some b:=by
   cases tb with
   |none=>simp at hb
   |some T=>simp at hb;rw[hb]
  obtain⟨_,n⟩:=ht b z
  exact⟨.inr n.above,Ne.symm (Ne.symm n.loc),n.cell,by simpa using n.pn⟩
def Cb(X:Cx):Prop:=X.stack=X.env::X.outer∧X.env.frame=some X.env.locals
theorem kO(hs:Cb X)(I:Inv X pins σ H s):X.A.frames=some (X.env::X.outer)∧s.heap.FunFrames X.base (X.env::X.outer):=by
 refine⟨by rw[I.ok.frames,hs.1],?_⟩
 rw[←hs.1]
 exact I.stack
theorem tV(I:Inv X [] σ H s){tb:Option Addr}{T:Addr}(ht:∀T,tb=some T→H T=none∧iB X T)(b:tb=some T∨s.heap.objs.size≤T):∀T',some T=some T'→H T'=none∧iB X T':=fun T' z=>by
 cases z
 rcases b with b|b
 ·exact ht T b
 ·exact⟨I.bH.fresh b,I.Fq b⟩
theorem wJ(hs:Cb X):PassesOwn (model X.prog X.w) X.A X.env (jN X ER):=by
 intro v s' z
 obtain⟨e,C,dx,σ,H,tb,ev,I,he,fl,ht,hE⟩:=z
 subst ev
 obtain⟨fr,ff⟩:=kO hs I
 refine pU fr ff hs.2 fl fun h1 T a b m=>?_
 have m1:Heap.Moved (qH X.stack) e tb s'.heap h1:=by unfold qH;rw[hs.1];exact m
 have I1:=I.moved he ht m1
 have t1:=tV I ht b
 refine B' (s:={ s' with heap:=h1 }) a fun h2 a2 m2=>?_
 exact⟨e,C,dx,σ,H,some T,rfl,I1.moved he t1 (m2.mono fun _ z=>absurd z (by simp)),he,a2,t1,hE⟩
end
def xZ(P:Program)(w:World):xU:=fun outer H s E v s'=>
 ∃e C dx H' tb,v= .ref e∧s'.os=s.os∧AllBare s'.gens∧Un (qH outer) [] H H' s.heap s'.heap∧jF P w H' s'.heap∧H' e=some (xY e C dx)∧s'.heap.kN e tb∧(∀T,tb=some T→H' T=none∧s.heap.objs.size≤T)∧E (.ref C) dx H'
section
variable {P:Program}{w:World}{K:PySem.W.Frag}{mg:Str→Option Value}{base:Heap}{N ps:List Str}{qual:Str}{scope:Scope}{f:Addr}{cd:Value}{A:Around}{outer:List Env}{s s':Shared}{H:Hp}{E:XK}{v:Value}
theorem rC(z:jN (h9 (xZ P w) P w K mg base N qual scope f cd A outer s H E) (fun _=>E) v s'):(h9 (xZ P w) P w K mg base N qual scope f cd A outer s H E).xe v s':=by
 obtain⟨e,C,dx,σ,H',tb,ev,I,he,fl,ht,hE⟩:=z
 subst ev
 obtain⟨fr,ff⟩:=kO (X:=h9 (xZ P w) P w K mg base N qual scope f cd A outer s H E) ⟨rfl,rfl⟩ I
 refine zc fr ff rfl fl fun h1 T a b m=>?_
 have I1:=I.moved he ht m
 have t1:=tV I ht b
 have hB:=I.base
 have ne:∀b,H' b=none→b≠e:=fun b n z=>by
  subst z
  rw[he] at n
  cases n
 have nt:∀b o,s.heap.get? b=some o→tb≠some b:=fun b o q z=>absurd (Heap.lt_size q) (Nat.not_lt.mpr (ht b z).2.above)
 refine⟨e,C,dx,H',some T,rfl,I.os,I.bare,⟨fun b o q n hb hx=>?_,fun b o q n hb hx=>?_,hB.free,fun b o q hx=>?_,hB.oi,hB.mF,hB.oj⟩,I1.bH,he,a,fun T' z=>⟨(t1 T' z).1,(t1 T' z).2.above⟩,hE⟩
 ·refine m.keep b o (hB.keep b o q n hb hx) (ne b (hB.free b o q n hx)) (nt b o q) fun z=>?_
  rcases List.mem_cons.mp (show b∈s.heap.objs.size::qH outer from z) with z|z
  ·exact absurd (Heap.lt_size q) (by rw[z];exact Nat.lt_irrefl _)
  ·exact hb z
 ·obtain⟨sl,z⟩:=hB.slot b o q n hb hx
  obtain⟨GS,z'⟩:=m.slot b _ z (ne b (hB.free b o q n hx)) (nt b o q)
  exact⟨GS,z'⟩
 ·obtain⟨o',z⟩:=hB.there b o q hx
  exact m.there b o' z
def Hw(P:Program)(w:World)(K:PySem.W.Frag)(mg:Str→Option Value)(base:Heap)(N:List Str)(qual:Str)(scope:Scope)(f:Addr)(cd:Value)(A:Around)(outer:List Env)(s:Shared)(H:Hp)(E:XK):Cx:=
 (h9 (xZ P w) P w K mg base N qual scope f cd A outer s H E).ij (jN (h9 (xZ P w) P w K mg base N qual scope f cd A outer s H E) fun _=>E)
theorem Cc:Lets (Hw P w K mg base N qual scope f cd A outer s H E) (fun _=>E):=fun _ _ z=>z.cZ
theorem Hy:PassesOwn (model P w) (Hw P w K mg base N qual scope f cd A outer s H E).A (Hw P w K mg base N qual scope f cd A outer s H E).env (Hw P w K mg base N qual scope f cd A outer s H E).xe:=wJ (X:=h9 (xZ P w) P w K mg base N qual scope f cd A outer s H E) ⟨rfl,rfl⟩
theorem Cd{st:List Stmt}{t:TS}(h:lh (Hw P w K mg base N qual scope f cd A outer s H E) st t):lh (h9 (xZ P w) P w K mg base N qual scope f cd A outer s H E) st t:=fun pins s1 σ H1 D I hw=>
 wpAny_mono (h pins s1 σ H1 D (I.ij _) hw) (fun _ _ q=>q.cZ) fun _ _ z=>rC z
theorem yK.okX{x:Str}{st:Stmt}{fd:FuncData}{k:Nat}{sp:Sp}(F:yK K x qual st f fd)(S:aI N ps (ag st))(len:∀vs H Q E,sp vs H Q E→vs.length=ps.length)
  (d9:∀(bW:Value) (A:Around) (outer:List Env) (s:Shared) (H:Hp) (vs:List V) (Q:VK) (E:XK),cN k (A.deeper (envOfC qual (ag st) s.heap.objs.size f bW))→sp vs H Q E→
   ∃t,lh (Hw P w K mg base N qual (ag st) f bW A outer s H E) (aC st) t∧t { nx:=fun _ H'=>Q .dE H',rt:=Q } (start N vs) H):eI P w K mg base (xZ P w) (k+1) f fd ps sp:=by
 obtain⟨oc,od,kV,doc,pm,an,bW,ct,qI,rfl,lk,qN⟩:=F.ex
 refine fn_of lk qN S len fun A outer s H vs Q E hr xV=>?_
 obtain⟨t,h,q⟩:=d9 bW A outer s H vs Q E hr xV
 exact⟨t,Cd h,q⟩
end
section
variable {X:Cx}{pins:List (Addr×Obj)}{σ:St}{H:Hp}{s s':Shared}{ER:St→XK}{v:Value}
theorem wK(L:Lets X ER)(I:Inv X pins σ H s)(h:xZ X.prog X.w X.stack H s (ER σ) v s'):X.xe v s':=by
 obtain⟨e,C,dx,H',tb,ev,os,bare,un,bH,he,fl,ht,hE⟩:=h
 have I1:Inv X pins σ H' s':=I.uJ os un bH bare fun b z=>absurd z (by simp)
 exact L v s' ⟨e,C,dx,σ,H',tb,ev,I1.Fs,he,fl,fun T z=>⟨(ht T z).1,I.Fq (ht T z).2⟩,hE⟩
end
section
variable {X:Cx}{k:Nat}{f C:Addr}{fd:FuncData}{ps:List Str}{sp:Sp}{jg:List V}{ds:List Value}{ER:St→XK}{x m:Str}{p pos apos:Pos}{e o:Expr}{es:List Expr}{ta:TE}{t:TA}
def Hz(sp:Sp)(jg:List V)(ER:St→XK)(t:TA):TE:=fun σ H Q=>t σ H fun vs H1=>sp (vs++jg) H1 Q (ER σ)
theorem Ce{pins:List (Addr×Obj)}{σ:St}{H:Hp}{s:Shared}{Q:VK}{us:List Value}{vs:List V}(F:eI X.prog X.w X.K X.mg X.base (xZ X.prog X.w) k f fd ps sp)(hr:cN k X.A)(hb:Binds X.K fd ps ds)(hd:Vals jg ds)(L:Lets X ER)
  (I:Inv X pins σ H s) (r:Vals vs us) (h:sp (vs++jg) H Q (ER σ)):wpAny (model X.prog X.w) X.A (call (.ref f) us) (EP X pins σ Q) X.xe s:=by
 have r2:Vals (vs++jg) (us++ds):=r.append hd
 have hl:(us++ds).length=ps.length:=by rw[←r2.length];exact F.len _ _ _ _ h
 refine wpAny_call (codeAny_mono (F.run X.A X.stack s H ⟨us,[]⟩ (us++ds) (vs++jg) Q (ER σ) hr I.BH (hb s us I.hZ hl) r2 h) fun r s' hq=>?_)
 cases r with
 |error e=>exact wK L I hq
 |ok fl=>
  cases fl with
  |ret u=>exact I.after hq
  |next=>exact False.elim hq
  |brk=>exact False.elim hq
  |cont=>exact False.elim hq
theorem zh(F:eI X.prog X.w X.K X.mg X.base (xZ X.prog X.w) k f fd ps sp)(hr:cN k X.A)(hg:Gl X x)(hm:X.mg x=some (.ref f))(hk:PySem.W.keepIn X.K (.ref f)=true)(hb:Binds X.K fd ps ds)(hd:Vals jg ds)(L:Lets X ER)
  (ha:PA X (e::es) t) (wa:(x==("__debug__" :Str))=false:=by decide) (he:starEach (e::es) X.env=(false,eval e X.env)::starEach es X.env:=by rfl) (sV:(backTo pos (starEach es X.env)).any (·.1)=false:=by rfl):
  PE X (.Call (.Name x p) (e::es) [] pos) (Hz sp jg ER t):=by
 intro pins s σ H Q I h
 refine wpAny_Call_Name_kw (fO I hg hm ?_ wa)
 refine PySem.W.callWith_K (h₀:=X.base) I.ok.mod.Lq hk (bG (ha pos pins s σ H _ I h) fun us s1 ⟨vs,H1,I1,r,q⟩=>⟨I1.hZ,?_⟩) he sV
 exact Ce F hr hb hd L I1 r q
def HA(C:Addr)(sp:Sp)(t:TA):TE:=fun σ H Q=>t σ H fun vs H1=>vs.length≤100∧∀x,H1 x=none→sp (.ref x::vs) (upd H1 x (Bk x C none)) (fun v H2=>v= .dE∧Q (.ref x) H2) E0
theorem wL{HE:Addr}{pins:List (Addr×Obj)}{σ:St}{H:Hp}{s:Shared}{Q:VK}{us:List Value}{vs:List V}(Z:PySem.W.fN X.K C HE f)(F:eI X.prog X.w X.K X.mg X.base pL k f fd ps sp)(hr:cN (k+1) X.A)(hb:Binds X.K fd ps [])
  (I:Inv X pins σ H s) (r:Vals vs us) (hz:vs.length≤100) (h:∀x,H x=none→sp (.ref x::vs) (upd H x (Bk x C none)) (fun v H2=>v= .dE∧Q (.ref x) H2) E0):
  wpAny (model X.prog X.w) X.A (call (.ref C) us) (EP X pins σ Q) X.xe s:=by
 have hq:=h (s.heap.objs.size+1) (I.bH.fresh (Nat.le_succ _))
 have e2:((s.heap.push (PySem.W.nc us)).push (PySem.W.ng C s.heap.objs.size)).get? (s.heap.objs.size+1)=some (PySem.W.ng C s.heap.objs.size):=by
  have:=Heap.get?_push_size (s.heap.push (PySem.W.nc us)) (o:=PySem.W.ng C s.heap.objs.size) rfl
  rwa [Heap.size_push] at this
 have I2:Inv X pins σ (upd H (s.heap.objs.size+1) (Bk (s.heap.objs.size+1) C none)) { s with heap:=(s.heap.push (PySem.W.nc us)).push (PySem.W.ng C s.heap.objs.size) }:=
  I.laid (a:=s.heap.objs.size+1) (t':=s.toks) (fun b u q=>Heap.get?_push_of_some _ (Heap.get?_push_of_some _ q)) (Nat.le_succ _) (Fp e2 rfl rfl rfl rfl ⟨rfl,rfl⟩)
 have r2:Vals (V.ref (s.heap.objs.size+1)::vs) (Value.ref (s.heap.objs.size+1)::us):= .cons rfl r
 have hl:(Value.ref (s.heap.objs.size+1)::us++[]).length=ps.length:=by
  have e:=r2.length
  rw[F.len _ _ _ _ hq] at e
  rw[List.append_nil]
  exact e.symm
 have MX:us.length≤sizeLine:=by
  rw[←r.length]
  exact Nat.le_trans hz (by rw[sizeLine_eq];decide)
 have nh:=hb { s with heap:=(s.heap.push (PySem.W.nc us)).push (PySem.W.ng C s.heap.objs.size) } (Value.ref (s.heap.objs.size+1)::us) I2.hZ hl
 rw[List.append_nil] at nh
 refine wpAny_call (PySem.W.Ca I.hZ Z MX (codeAny_mono (F.run _ X.stack _ _ ⟨Value.ref (s.heap.objs.size+1)::us,[]⟩ (Value.ref (s.heap.objs.size+1)::us) _ _ E0 (hr.make C us []) (I2.BH.make C us []) nh r2 hq) fun r s' yD=>?_))
 cases r with
 |error e=>exact False.elim yD
 |ok fl=>
  cases fl with
  |ret u=>
   obtain⟨v,H',I3,rv,ev,q3⟩:=I2.after yD
   subst ev
   exact⟨rv,⟨V.ref (s.heap.objs.size+1),H',I3,rfl,q3⟩⟩
  |next=>exact False.elim yD
  |brk=>exact False.elim yD
  |cont=>exact False.elim yD
theorem wM{HE:Addr}(Z:PySem.W.fN X.K C HE f)(F:eI X.prog X.w X.K X.mg X.base pL k f fd ps sp)(hr:cN (k+1) X.A)(hg:Gl X x)(hm:X.mg x=some (.ref C))(hk:PySem.W.keepIn X.K (.ref C)=true)(hb:Binds X.K fd ps [])
  (wa:(x==("__debug__" :Str))=false:=by decide):PE X (.Call (.Name x p) [] [] pos) (HA C sp BG):=by
 intro pins s σ H Q I h
 refine wpAny_Call_Name_kw (fO I hg hm ?_ wa)
 exact PySem.W.callWith_K0 I.hZ hk (wL (us:=[]) Z F hr hb I .nil h.1 h.2)
def HB(K:PySem.W.Frag)(te:TE)(ER:St→XK):TS:=fun _ σ H=>te σ H fun v H1=>∃e C HE f dx,v= .ref e∧PySem.W.fN K C HE f∧H1 e=some (Bk e C dx)∧ER σ (.ref C) dx (upd H1 e (xY e C dx))
theorem zi{ex:Expr}{te:TE}(hc:X.calm=true)(L:Lets X ER)(he:PE X ex te):PS X (.Raise (some ex) none pos) (HB X.K te ER):=by
 intro pins s σ H D I h
 rw[arm_exec_Raise]
 refine wpAny_bind (wpAny_standAt (PySem.W.zd (K:=X.K) (I.ok.hd hc) (wpAny_bind (bG (he pins s σ H _ I h) fun u s1 ⟨v,H1,I1,rv,e,C,HE,f,dx,ev,Z,hx,q⟩=>wpAny_bind (wpAny_standAt (wpAny_pure ?_))))))
 subst ev
 obtain rfl:u=Value.ref e:=rv
 obtain⟨o,vs,h1,h2,h3,h4,h5,h6⟩:=zf I1.bH hx
 refine⟨e,o,vs,C,HE,f,rfl,I1.hZ,Z,h1,h2,h4,h5,L _ _ ⟨e,C,dx,σ,_,none,rfl,?_,af,⟨⟨o,vs,h1,h4,h5⟩,fun T z=>by cases z⟩,fun T z=>(by cases z),q⟩⟩
 have J:=I1.Fs.write (x:=e) (e:=e) (o:=xY e C dx) (h':=s1.heap) (t':=s1.toks) (by rw[hx];exact True.intro) (.inl rfl) (fun _ _ _ q=>q) ⟨o,h1⟩ (Fn h1 h2 h3 h4 (.inl h6.1))
 exact J
end
end L2
namespace L2
open PySem PySem.Spec PyProof.Rows
variable [jr]
theorem HC{H:Hp}{e:Addr}{o:HO}(h:H e=some o):upd H e o=H:=by
 funext b
 by_cases z:b=e
 ·subst z
  rw[af,h]
 ·rw[aq z]
section
variable {X:Cx}{x f:Str}{a b o value ex:Expr}{ta tb tv:TE}{p pos apos pos':Pos}
structure Ft(K:PySem.W.Frag)(HE:Addr):Prop where
 sp:PySem.W.specialIn K (.ref HE) "__getattribute__" =some (some (.builtin "type.__getattribute__"))
 rd:PySem.W.readsIn K HE (.type "type")=true
 fc:PySem.W.findCls K (.ref HE) (.type "type") "__init__" =some (.val (.builtin "ValueError.__init__"))
def HD(K:PySem.W.Frag)(ta tb:TE):TE:=fun σ H Q=>ta σ H fun v H1=>tb σ H1 fun _ H2=>∃e C HE f dx,v= .ref e∧PySem.W.fN K C HE f∧H2 e=some (Bk e C dx)∧Q .dE H2
theorem zj{HE:Addr}{pl:Sem Bool}(hg:Gl X x)(hm:X.mg x=some (.ref HE))(B:Ft X.K HE)(ha:PE X a ta)(hb:PE X b tb)(hd:(x==("__debug__" :Str))=false:=by decide)
  (E8:starEach [a,b] X.env=(false,eval a X.env)::starEach [b] X.env:=by rfl) (WD:starEach [b] X.env=(false,eval b X.env)::starEach [] X.env:=by rfl) (sV:(backTo pos (starEach [b] X.env)).any (·.1)=false:=by rfl)
  (ht:eval (.Call (.Attribute (.Name x p) "__init__" apos) [a,b] [] pos) X.env=(do
   let ov←eval (.Name x p) X.env
   standAt apos.atName
   let (f,first)←holding [ov] (getMethod ov "__init__" pl)
   callWith pos f first (backTo pos (starEach [a,b] X.env)) (backToKw pos (keywordEach [] X.env))):=by rfl):
  PE X (.Call (.Attribute (.Name x p) "__init__" apos) [a,b] [] pos) (HD X.K ta tb):=by
 intro pins s σ H Q I h
 refine PySem.W.methodCall_KW (pl:=pl) (fO I hg hm ?_ hd) ht
 refine PySem.W.method_cls I.hZ B.sp (PySem.W.cls_value I.hZ B.rd B.fc rfl ?_)
 have I0:=I.tok (s.toks+1)
 refine PyProof.Rows.callWith_builtin1 (bG (aa ha (aa hb ai WD) E8 pos pins _ σ H (fun vs H2=>match vs with| [v,_]=>∃e C HE f dx,v=V.ref e∧PySem.W.fN X.K C HE f∧H2 e=some (Bk e C dx)∧Q .dE H2|_=>False) I0 h) fun us s1 ⟨vs,H2,I2,r,q⟩=>?_) E8 sV
 match vs,q with
 | [v,u],q=>
   obtain⟨e,C,HE,f,dx,e1,Z,hx,q⟩:=q
   subst e1
   obtain⟨u1,u2,rfl,r1,r2⟩:=vals2 r
   obtain rfl:u1=Value.ref e:=r1
   obtain⟨ob,vs,h1,h2,h3,h4,h5,h6⟩:=zf I2.bH hx
   have sz:1<vs.size:=(Array.getElem?_eq_some_iff.mp h5).1
   refine PySem.W.ze I2.hZ Z h1 h2 h4 (by omega) (by rw[sizeLine_eq,List.length_cons,List.length_nil];decide) fun h' g1 g2=>⟨.dE,H2,?_,rfl,q⟩
   have J:=I2.write (x:=e) (e:=e) (o:=Bk e C dx) (h':=h') (t':=s1.toks) (by rw[hx];exact True.intro) (.inl rfl) (fun b o be q=>g2 b o be q) ⟨_,g1⟩ (Fp g1 h2 h3 rfl (by rw[Array.getElem?_setIfInBounds_ne (by decide)];exact h5) ⟨by rw[Array.getElem?_setIfInBounds_ne (by decide)];exact h6.1,by rw[Array.size_setIfInBounds];exact h6.2⟩)
   rw[HC hx] at J
   exact J
end
end L2
namespace PySem.W
open PySem PySem.Calls PyProof.Rows
structure Cf(K:Frag)(PC:Addr):Prop where
 obj:∃(nm q:Str) (N:Addr) (bs bm:List Value) (hd:Bool) (sn:List Str) (sub:List Value) (ab:Bool) (col:Option Bool) (dd:Option Addr) (k0 k1 k2 k3 k5:Option Value) (UN:String),
  K.lookup PC=some (excClassObj nm q PC N bs bm hd sn sub ab col dd k0 k1 k2 k3 k5 UN)∧bm.contains (.type "BaseException")=true
theorem tW{M:Model}{A:Around}{E:Value→Shared→Prop}{s:Shared}{K:Frag}{C HE f e PC:Addr}{ox:Obj}{b:Bool}{Q:Bool→Shared→Prop}(X:K.In s.heap)(Z:fN K C HE f)(Y:Cf K PC)(hx:s.heap.get? e=some ox)(hc:ox.cls= .ref C)
  (hm:mroIn K C (.ref PC)=some b) (k:Q b s):wpAny M A (excMatches (.ref e) (.ref PC)) Q E s:=by
 obtain⟨nm,q,N,bs,sn,sub,ab,col,dd,k0,k1,k2,k3,k5,hK⟩:=Z.obj
 obtain⟨nm',q',N',zk,bm,Ls,sn',sub',ab',col',dd',k0',k1',k2',k3',k5',UN,hP,hB⟩:=Y.obj
 obtain⟨cd,qN,em,_⟩:=Z.cd
 have cb:(Value.ref C:: .ref HE::sW).contains (.ref PC)=b:=by
  unfold mroIn at hm
  rw[qN,Option.bind_some,em] at hm
  exact Option.some.inj hm
 have kC:=X _ _ hK
 have kP:=X _ _ hP
 have cB:(Value.ref PC::bm).contains (.type "BaseException")=true:=by rw[List.contains_cons,hB,Bool.or_true]
 have ft:=tc_notTuple
 obtain⟨hp,g,d,tk,os⟩:=s
 unfold excMatches
 repeat (first| (with_reducible refine wpAny_loadPart_at hx ?_;rw[hc]) |with_reducible refine wpAny_loadPart_at kP ?_| (with_reducible refine wpAny_isSubtype_exc kP ?_;rw[cB]) | (with_reducible refine wpAny_isSubtype_exc kC ?_;rw[cb]) |wp_step)
 cases b<;>(wp_walk;exact k)
end PySem.W
namespace L2
open PySem PySem.Spec PyProof.Rows
variable [jr]
abbrev Cx.pinned(X:Cx)(pn:List (Addr×Obj)):Cx:={ X with pn:=X.pn++pn }
abbrev Cx.mark(X:Cx)(e:Addr):Cx:={ X with A:=X.A.mark (some (.ref e)),calm:=false,xe:=fun _ _=>False }
section
variable {X:Cx}{pins pn:List (Addr×Obj)}{σ:St}{H:Hp}{s:Shared}{ER:St→XK}{v:Value}{D:Ends}{fl:Flow}
theorem Cx.Ok.pinned(ok:X.Ok):(X.pinned pn).Ok:=⟨ok.mod,ok.kind,ok.glob,ok.blt,ok.above,ok.inj,ok.has,ok.Bg,ok.hd,ok.frames,ok.Br,ok.E1,ok.bs,ok.sU,ok.mG,ok.mH,ok.ig,ok.xT⟩
theorem Cx.Ok.dI(ok:(X.pinned pn).Ok):X.Ok:=⟨ok.mod,ok.kind,ok.glob,ok.blt,ok.above,ok.inj,ok.has,ok.Bg,ok.hd,ok.frames,ok.Br,ok.E1,ok.bs,ok.sU,ok.mG,ok.mH,ok.ig,ok.xT⟩
theorem Inv.WE(I:Inv X pins σ H s):Inv (X.pinned pins) [] σ H s:=⟨I.ok.pinned,I.os,I.bare,I.base,I.loc,I.cell,I.free,I.eK,fun p hp=>I.pin p (by simpa using hp),I.bH,I.len⟩
theorem Inv.Cg(I:Inv (X.pinned pn) pins σ H s):Inv X pn σ H s:=⟨I.ok.dI,I.os,I.bare,I.base,I.loc,I.cell,I.free,I.eK,fun p hp=>I.pin p (List.mem_append_left _ hp),I.bH,I.len⟩
theorem SP.dI(h:SP (X.pinned pn) pins D fl s):SP X pn D fl s:=by
 cases fl with
 |next=>obtain⟨σ',H',I,q⟩:=h;exact⟨σ',H',I.Cg,q⟩
 |brk=>obtain⟨σ',H',I,q⟩:=h;exact⟨σ',H',I.Cg,q⟩
 |cont=>obtain⟨σ',H',I,q⟩:=h;exact⟨σ',H',I.Cg,q⟩
 |ret u=>obtain⟨v,σ',H',I,r,q⟩:=h;exact⟨v,σ',H',I.Cg,r,q⟩
theorem Ci:Lets X (fun _ _ _ _=>False):=fun _ _ ⟨_,_,_,_,_,_,_,_,_,_,_,z⟩=>z.elim
theorem Inv.mark(I:Inv X pins σ H s)(e:Addr):Inv (X.mark e) pins σ H s:=
 ⟨⟨I.ok.mod,I.ok.kind,I.ok.glob,I.ok.blt,I.ok.above,I.ok.inj,I.ok.has,I.ok.Bg,fun z=>(by cases z),I.ok.frames,I.ok.Br,I.ok.E1,I.ok.bs,I.ok.sU,I.ok.mG,I.ok.mH,I.ok.ig,I.ok.xT⟩,I.os,I.bare,I.base,I.loc,I.cell,I.free,I.eK,I.pin,I.bH,I.len⟩
theorem Inv.unmark{e:Addr}(I:Inv (X.mark e) pins σ H s)(ok:X.Ok):Inv X pins σ H s:=⟨ok,I.os,I.bare,I.base,I.loc,I.cell,I.free,I.eK,I.pin,I.bH,I.len⟩
def PH(X:Cx)(hs:List ExceptHandler)(th:Ends→St→XK):Prop:=
 ∀(s:Shared) (σ:St) (H:Hp) (D:Ends) (e C:Addr) (dx:Option Addr) (T:Addr),Inv X [] σ H s→H e=some (xY e C dx)→s.heap.kN e (some T)→H T=none→iB X T→th D σ (.ref C) dx H→
  wpAny (model X.prog X.w) X.A (handleBy (.ref e) X.env hs) (SP X [] D) X.xe s
theorem HF(L:Lets X ER):PH X [] (fun _=>ER):=by
 intro s σ H D e C dx T I he fl hT nT hE
 refine wpAny_handleBy_nil ?_
 obtain⟨oe,vs,h1,h2,h3⟩:=id fl.ex
 unfold PySem.passOn
 refine wpAny_bind (wpAny_field h1 h2 h3 ?_)
 rw[if_neg (by simp)]
 have ht:∀T',some T=some T'→H T'=none∧iB X T':=fun T' z=>by cases z;exact⟨hT,nT⟩
 refine wpAny_bind (gC fl fun h' a m=>wpAny_throw (L _ _ ⟨e,C,dx,σ,H,some T,rfl,I.moved he ht (m.mono fun _ z=>absurd z (by simp)),he,a,ht,hE⟩))
def MY(K:PySem.W.Frag)(PC:Addr)(i:Nat)(ts:TS)(tr:Ends→St→XK):Ends→St→XK:=fun D σ cv dx H=>
 ∃C HE f b,cv= .ref C∧PySem.W.fN K C HE f∧PySem.W.mroIn K C (.ref PC)=some b∧
  if b=true then∀e,H e=some (xY e C dx)→ts { D with nx:=fun σ1 H1=>D.nx (σ1.set i none) H1,bk:=fun σ1 H1=>D.bk (σ1.set i none) H1,ct:=fun σ1 H1=>D.ct (σ1.set i none) H1 } (σ.set i (some (.ref e))) H else tr D σ cv dx H
theorem name_goes{i:Nat}{n:Str}{pos:Pos}{Q:Unit→Shared→Prop}{A:Around}{E:Value→Shared→Prop}(I:Inv X pins σ H s)(hN:X.N.Nodup)(hi:X.N[i]? =some n)(hl:X.env.scope.names.lookup n=some .local)
  (k:∀s',Inv X pins (σ.set i none) H s'→Q () s'):wpAny (model X.prog X.w) A (do bindName X.env n .none;unbindBehindTheSuite X.env n pos) Q E s:=by
 have GU:(X.env.scope.kind== .class||(X.env.scope.kind== .module&&X.env.locals != X.env.globals))=false:=by rw[I.ok.kind];rfl
 refine wpAny_bind (wpAny_bindName (store_ok I hN hi (.inl hl) (v:= .dE) rfl (fun s1 J=>?_) (.inr hl)))
 have ZA:i<σ.length:=by rw[I.len];exact(List.getElem?_eq_some_iff.mp hi).1
 obtain⟨m,hn,Ly⟩:=id J.loc
 obtain⟨u,_,lk⟩:=Ly i n .dE hi (by rw[List.getElem?_set_self ZA]) (.inl hl)
 have hmn:(m n).isSome=true:=by
  rcases lk with ⟨_,z⟩ | ⟨z,_⟩
  ·rw[z];rfl
  ·rcases z with z|z
   ·have:X.env.scope.names.lookup n=some .cell:=z
    rw[hl] at this;cases this
   ·have:X.env.scope.names.lookup n=some .free:=z
    rw[hl] at this;cases this
 unfold unbindBehindTheSuite
 refine wpAny_onRaise ?_
 unfold unbindName
 refine wpAny_bind (wpAny_point (wpAny_bind ?_))
 unfold deleteName
 have kl:X.env.kindOf n=some .local:=hl
 simp only [kl,GU]
 rw[if_neg (by decide)]
 refine wpAny_bind (wpAny_nsDel_keeps hn fun h2 v2 BD sb=>?_)
 rw[hmn]
 refine wpAny_pure (wpAny_point (k _ ?_))
 obtain⟨oL,_,_,E5,_⟩:=id hn
 have lo:∀b o,X.s₀.heap.get? b=some o→b≠X.env.locals:=fun b o q=>Nat.ne_of_lt (Nat.lt_of_lt_of_le (Heap.lt_size q) J.ok.above)
 refine⟨J.ok,J.os,J.bare,⟨fun b o e nn hb hx=>(sb.2 b (lo b o e)).trans (J.base.keep b o e nn hb hx),fun b o e nn hb hx=>?_,J.base.free,fun b o e hx=>?_,J.base.oi,J.base.mF,J.base.oj⟩,⟨_,BD,fun j y v' e1 e2 e3=>?_⟩,fun y c e=>?_,J.free,J.eK,fun p hp=>?_,fun b ob e=>?_,by simpa using I.len⟩
 ·obtain⟨sl,e1⟩:=J.base.slot b o e nn hb hx
  exact⟨sl,(sb.2 b (lo b o e)).trans e1⟩
 ·obtain⟨o',e1⟩:=J.base.there b o e hx
  exact⟨o',(sb.2 b (lo b o e)).trans e1⟩
 ·by_cases hj:j=i
  ·subst hj
   rw[List.getElem?_set_self ZA] at e2
   cases e2
  ·rw[List.getElem?_set_ne (Ne.symm hj)] at e2
   obtain⟨u',r',q⟩:=Ly j y v' e1 (by rw[List.getElem?_set_ne (Ne.symm hj)];exact e2) e3
   refine⟨u',r',?_⟩
   rcases q with ⟨k,e⟩ | ⟨k,c,e,z⟩
   ·refine .inl ⟨k,?_⟩
    have:y≠n:=fun e=>hj (mI hN e1 (e▸hi))
    simp [this,e]
   ·exact .inr ⟨k,c,e,z.sameBut sb (J.Bs y c e)⟩
 ·obtain⟨w',z⟩:=J.cell y c e
  exact⟨w',z.sameBut sb (J.Bs y c e)⟩
 ·obtain⟨e,nn,ne,nf,d⟩:=J.pin p hp
  exact⟨(sb.2 p.1 ne).trans e,nn,ne,nf,d⟩
 ·refine(J.bH b ob e).pE (fun c w' hc q=>(sb.2 c ?_).trans q) (fun _ q=>q) fun _ _ q=>q
  rintro rfl
  rcases hc with rfl|hc
  ·rw[J.free] at e;cases e
  ·rw[J.free] at hc;cases hc
theorem MZ{x n:Str}{np pos:Pos}{b0:Stmt}{rD:List Stmt}{rest:List ExceptHandler}{PC:Addr}{i:Nat}{ts:TS}{tr:Ends→St→XK}(hg:Gl X x)(hm:X.mg x=some (.ref PC))(Y:PySem.W.Cf X.K PC)(hN:X.N.Nodup)(hi:X.N[i]? =some n)
  (hl:X.env.scope.names.lookup n=some .local) (WG:∀e,lh (X.mark e) (b0::rD) ts) (hr:PH X rest tr) (hd:(x==("__debug__" :Str))=false:=by decide):
  PH X (.ExceptHandler (some (.Name x np)) (some n) (b0::rD) pos::rest) (MY X.K PC i ts tr):=by
 intro s σ H D e C dx T I he fl hT nT hE
 obtain⟨C',HE,f,b,ec,Z,mb,hE⟩:=hE
 cases ec
 obtain⟨o,vs,o1,o2,o3,o4⟩:=tU I.bH he
 have ht:∀T',some T=some T'→H T'=none∧iB X T':=fun T' z=>by cases z;exact⟨hT,nT⟩
 refine wpAny_handleBy_cons (codeAny_handlers_test (fO (X:=X.mark e) (I.mark e) hg hm (PySem.W.tW I.hZ Z Y o1 o2 mb ?_) hd)) (by intro z;cases z)
 cases b with
 |false=>exact hr s σ H D e C dx T I he fl hT nT hE
 |true=>
  have hE:=hE e he
  refine codeAny_handlers_suite_as (gC fl fun h1 a m=>?_)
  have I1:=I.moved he ht (m.mono fun _ z=>absurd z (by simp))
  refine store_ok I1 hN hi (.inl hl) (v:= .ref e) rfl (fun s2 I2=>?_) (.inr hl)
  refine wpAny_mono (WG e [] s2 _ H _ (I2.mark e) hE) (fun f s3 q=>?_) fun _ _ z=>False.elim z
  cases f with
  |next=>
   obtain⟨σ',H',I3,q⟩:=q
   exact name_goes (I3.unmark I.ok) hN hi hl fun s4 I4=>⟨_,H',I4,q⟩
  |brk=>
   obtain⟨σ',H',I3,q⟩:=q
   exact name_goes (I3.unmark I.ok) hN hi hl fun s4 I4=>⟨_,H',I4,q⟩
  |cont=>
   obtain⟨σ',H',I3,q⟩:=q
   exact name_goes (I3.unmark I.ok) hN hi hl fun s4 I4=>⟨_,H',I4,q⟩
  |ret u=>
   obtain⟨v,σ',H',I3,r,q⟩:=q
   exact name_goes (I3.unmark I.ok) hN hi hl fun s4 I4=>⟨v,_,H',I4,r,q⟩
def M0(tb:(St→XK)→TS)(th:Ends→St→XK):TS:=fun D σ H=>tb (th D) D σ H
theorem Cj{body:List Stmt}{h0:ExceptHandler}{hs:List ExceptHandler}{pos:Pos}{tb:(St→XK)→TS}{th:Ends→St→XK}(fm:Cb X)(hb:∀pn ZC,lh ((X.pinned pn).ij (jN (X.pinned pn) ZC)) body (tb ZC))(hh:∀pn,PH (X.pinned pn) (h0::hs) th):
  PS X (.Try body (h0::hs) [] [] pos) (M0 tb th):=by
 intro pins s σ H D I h
 have fin:∀{f s1},SP (X.pinned pins) [] D f s1→SP X pins D f s1:=fun q=>q.dI
 refine wpAny_Try_except (wpAny_mono (hb pins (th D) [] s σ H D (I.WE.ij _) h) (fun f s1 q=>?_) fun v s1 z=>?_)
 ·have q:=fin q.cZ
  cases f with
  |next=>exact wpAny_execs_nil q
  |brk=>exact q
  |cont=>exact q
  |ret u=>exact q
 ·obtain⟨e,C,dx,σ1,H1,tb,ev,I1,he,fl,ht,hE⟩:=z
  subst ev
  have WH:Cb (X.pinned pins):=fm
  obtain⟨fr,ff⟩:=kO WH I1
  refine pU fr ff WH.2 fl fun h2 T a b m=>?_
  have m1:Heap.Moved (qH (X.pinned pins).stack) e tb s1.heap h2:=by unfold qH;rw[WH.1];exact m
  have I2:=I1.moved he ht m1
  have t1:=tV I1 ht b
  refine gC (s:={ s1 with heap:=h2 }) a fun h3 a3 m3=>?_
  have I3:=I2.moved he t1 (m3.mono fun _ z=>absurd z (by simp))
  exact bG (hh pins _ σ1 H1 D e C dx T I3 he a3 (t1 T rfl).1 (t1 T rfl).2 hE) fun f s4 q=>fin q
end
end L2
namespace L2
open PySem PySem.Spec PyProof.Rows
section
variable {X:Cx}{tg:Expr}
end
section
variable {K:PySem.W.Frag}{g:TG}{tt:TT}{te:TE}
end
end L2
namespace L2
open PySem PySem.Spec PyProof.Rows PySem.W
section
variable {X:Cx}
end
end L2
namespace L2
open PySem PySem.Spec PyProof.Rows
section
variable {P:Program}{w:World}{K:PySem.W.Frag}{mg:Str→Option Value}{base:Heap}
end
end L2
namespace PySem.W
open PySem PySem.Spec PySem.Calls PyProof.Rows
section
variable {prog:Program}{w:World}{A:Around}{E:Value→Shared→Prop}{s:Shared}{K:Frag}{e C HE f:Addr}{ox:Obj}{od:Option Obj}
theorem rE{name:Str}{a g:Value}(hc:(clsIn K C).isSome=true)(ha:findIn K (.ref C) name=some (some a))(hg:specialIn K a "__get__" =some (some g))(ht:takesIn K a=some true):findObj K C od name=some (.bind g a):=by
 obtain⟨cd,hc⟩:=Option.isSome_iff_exists.mp hc
 unfold findObj
 rw[hc,Option.bind_some,ha,Option.bind_some]
 simp [hg,ht]
theorem zm{Q:Option Value→Shared→Prop}(X:K.In s.heap)(Z:fN K C HE f)(I:InstAt s.heap e ox C od)(hf:findObj K C od "__class__" =some (.bind (.builtin "getset_descriptor.__get__") (.builtin "object.__class__")))
  (h:Q (some (.ref C)) { s with toks:=s.toks+1 }):wpAny (model prog w) A (getAttr? (.ref e) "__class__") Q E s:=by
 have T0:=I.type (M:=model prog w)
 have SG:=PySem.F.attr_ValueError.ga
 unfold getAttr? getAttrBy? getAttrBy
 refine wpAny_bind (wpAny_mkText (wpAny_bind (wpAny_attempt (wpAny_holding (wpAny_bind (T0 _ _ _ _ (fun _ _ y=>y) (wpAny_bind (looks_findIn X Z.ga _ _ _ _ (fun _ _ y=>y) ?_))))))))
 dsimp only
 rw[show (onTheHeap (Value.ref C)&&Value.builtin "BaseException.__getattribute__" ==Value.builtin "object.__getattribute__")=false from by rw[show (Value.builtin "BaseException.__getattribute__" ==Value.builtin "object.__getattribute__")=false from by decide+kernel,Bool.and_false],if_neg (by decide)]
 refine wpAny_bind (looks_hook X (show (if onTheHeap (Value.ref C) then findIn K (.ref C) "__getattr__" else some none)=some none from Z.gh) _ _ _ _ (fun _ _ y=>y) (wpAny_bind (wpAny_attempt (wpAny_holding ?_))))
 unfold callGetattribute
 rw[show (false&&onTheHeap (Value.builtin "BaseException.__getattribute__"))=false from rfl,if_neg (by decide)]
 unfold boundAndCalled
 rw[SG.bind]
 refine wpAny_bind (wpAny_pure ?_)
 show wpAny _ _ (call (.builtin "BaseException.__getattribute__") [.ref e, .str "__class__" s.toks]) _ _ _
 refine wpAny_call (codeAny_call_builtin SG.plain PySem.F.entry_bexc_ga ?_)
 refine @check_slot (model prog w) _ _ { s with toks:=s.toks+1 } "BaseException.__getattribute__" "BaseException" "__getattribute__" (.ref e) [.str "__class__" s.toks] [] _ (by decide+kernel) (by decide+kernel) (T0.andThen (looks_mroIn X (Z.mro (by decide+kernel)))) (PySem.F.args_bexc_ga _ _) ?_
 have l1:=looks_find (M:=model prog w) X I hf
 unfold Builtin.«object.__getattribute__»
 refine wpAny_bind (wpAny_of_eq (a:=(Value.ref e,[Value.str "__class__" s.toks])) rfl ?_)
 refine wpAny_bind (wpAny_pure (a:=("__class__" :Str)) (wpAny_bind (T0 _ _ _ _ (fun _ _ y=>y) (wpAny_bind (l1 _ _ _ _ (fun _ _ y=>y) ?_)))))
 show wpAny _ _ (holding [Value.builtin "object.__class__"] (call (.builtin "getset_descriptor.__get__") [.builtin "object.__class__", .ref e, .ref C]) >>= ret) _ _ _
 refine wpAny_bind (wpAny_holding (wpAny_call (class_get (s:={ s with toks:=s.toks+1 }) (ox:=ox) (od:=od) X I (Z.mro (by decide+kernel)) ?_)))
 refine wpAny_pure ?_
 show wpAny _ _ (handedOut (Value.ref C)) _ _ _
 rw[handedOut_of rfl]
 exact wpAny_pure (wpAny_pure h)
theorem zo(Z:fN K C HE f)(ha:findIn K (.ref C) "__class__" =some (some (.builtin "object.__class__")))(hn:specialIn K (.builtin "object.__class__") "__get__" =some (some (.builtin "getset_descriptor.__get__")))(UK:takesIn K (.builtin "object.__class__")=some true):
  KitX K (.ref e) (.ref C) (fun h=>InstAt h e ox C od) where
 ty:=fun _ _ _ I=>I.type
 it:=fun _ _ X _=>by
  obtain⟨cdD,BE,_⟩:=Z.cd
  unfold clsIn at BE
  split at BE
  ·rename_i c' d' cd' GS ho
   intro A' Q' E' s' k q
   unfold isType loadHead
   exact wpAny_bind (wpAny_loadPart (k _ _ (X _ _ ho)) (wpAny_pure q))
  ·cases BE
 ne:=fun h tp dd its n sl X htp=>by
  obtain⟨cdD,BE,_⟩:=Z.cd
  refine Bool.eq_false_iff.mpr fun q=>?_
  have e:C=tp:=Value.ref.inj (beq_iff_eq.mp q)
  subst e
  unfold clsIn at BE
  split at BE
  ·rename_i c' d' cd' GS ho
   have z:=(X _ _ ho).symm.trans htp
   cases z
  ·cases BE
 ca:=fun X I k=>zm X Z I (rE (by obtain⟨cd,hc,_⟩:=Z.cd;rw[hc];rfl) ha hn UK) k
end
end PySem.W
namespace L2
open PySem PySem.Spec PyProof.Rows
variable [jr]
def Ck(H:Hp)(e C:Addr):Prop:=H e=some (xY e C none)∨∃dx fs,H e=some (xY e C (some dx))∧H dx=some (Zz dx fs)
structure ZD(K:PySem.W.Frag)(C:Addr):Prop where
 cls:PySem.W.findIn K (.ref C) "__class__" =some (some (.builtin "object.__class__"))
 get:PySem.W.specialIn K (.builtin "object.__class__") "__get__" =some (some (.builtin "getset_descriptor.__get__"))
 takes:PySem.W.takesIn K (.builtin "object.__class__")=some true
theorem bo{X:Cx}:fo X (.builtin "isinstance") (fun xs H Q=>∃e c cv C HE f b,xs=[.ref e,c]∧BS c=some cv∧PySem.W.fN X.K C HE f∧ZD X.K C∧Ck H e C∧PySem.W.kitOne X.K (.ref C) cv=some b∧Q (.bl b) H):=by
 intro pins s σ H xs us Q I r h
 obtain⟨e,c,cv,C,HE,f,b,rfl,hc,Z,Y,hE,ek,q⟩:=h
 obtain⟨u,v,rfl,ru,rv⟩:=vals2 r
 have hv:v=cv:=by
  cases c<;>simp only [BS,Option.some.injEq,reduceCtorEq] at hc
  ·cases (show v=Value.ref _ from rv);exact hc
  ·cases (show v=Value.type _ from rv);exact hc
 subst hv
 cases (show u=Value.ref e from ru)
 have J:∃ob od,PySem.W.InstAt s.heap e ob C od:=by
  rcases hE with hx| ⟨dx,fs,hx,hd⟩
  ·obtain⟨ob,vs,h1,h2,h3,h4⟩:=tU I.bH hx
   exact⟨ob,none,h1,h2,by unfold PySem.W.notCls;rw[h4],by rw[h3];trivial⟩
  ·obtain⟨ob,vs,h1,h2,h3,h4⟩:=tU I.bH hx
   obtain⟨mA,n1,r1,w1⟩:=Hv I.bH hd
   obtain⟨od,ho,hl⟩:=oI n1
   exact⟨ob,some od,h1,h2,by unfold PySem.W.notCls;rw[h4],by rw[h3];exact ho⟩
 obtain⟨ob,od,J⟩:=J
 exact PySem.W.kia_one (PySem.W.zo Z Y.cls Y.get Y.takes) I.hZ J ek (fun z=>nomatch z) fun tk=>⟨.bl b,H,I.tok tk,rfl,q⟩
end L2
namespace Cm
open PySem PySem.Spec PySem.Builtin PySem.Builtin.Str
end Cm
namespace L2
open PySem PySem.Spec PyProof.Rows
section
variable {X:Cx}
theorem oy:bootBuiltins "ValueError" =some (.type "ValueError"):=by decide+kernel
end
variable [jr]
section
variable {X:Cx}
theorem HG(K:PySem.W.Frag)(hK:X.K=K){x n:Str}{np pos:Pos}{b0:Stmt}{rD:List Stmt}{rest:List ExceptHandler}{PC:Addr}{i:Nat}{ts:TS}{tr:Ends→St→XK}(hg:Gl X x)(hm:X.mg x=some (.ref PC))(Y:PySem.W.Cf K PC)(hN:X.N.Nodup)(hi:X.N[i]? =some n)
  (hl:X.env.scope.names.lookup n=some .local) (WG:∀e,lh (X.mark e) (b0::rD) ts) (hr:PH X rest tr) (hd:(x==("__debug__" :Str))=false:=by decide):
  PH X (.ExceptHandler (some (.Name x np)) (some n) (b0::rD) pos::rest) (MY K PC i ts tr):=by
 subst hK
 exact MZ hg hm Y hN hi hl WG hr hd
end
section
variable {P:Program}{w:World}{K:PySem.W.Frag}{mg:Str→Option Value}{base:Heap}
structure WI(P:Program)(w:World)(K:PySem.W.Frag)(mg:Str→Option Value)(base:Heap)(k:Nat)(x:Str)(ps:List Str)(sp:Sp)(f:Addr)(fd:FuncData):Prop where
 ok:eI P w K mg base (xZ P w) k f fd ps sp
 kp:PySem.W.keepIn K (.ref f)=true
 b:Binds K fd ps []
 g:mg x=some (.ref f)
def zp(P:Program)(w:World)(K:PySem.W.Frag)(mg:Str→Option Value)(base:Heap)(k:Nat)(x:Str)(ps:List Str)(sp:Sp):Prop:=∃f fd,WI P w K mg base k x ps sp f fd
theorem Def.WJ{x q:Str}{st:Stmt}{N ps:List Str}{k:Nat}{sp:Sp}(D:Def K mg x q st ps)(S:aI N ps (ag st))(len:∀vs H Q E,sp vs H Q E→vs.length=ps.length)
  (d9:∀(f:Addr) (bW:Value) (A:Around) (outer:List Env) (s:Shared) (H:Hp) (vs:List V) (Q:VK) (E:XK),cN k (A.deeper (envOfC q (ag st) s.heap.objs.size f bW))→sp vs H Q E→
   ∃t,lh (Hw P w K mg base N q (ag st) f bW A outer s H E) (aC st) t∧t { nx:=fun _ H'=>Q .dE H',rt:=Q } (start N vs) H):zp P w K mg base (k+1) x ps sp:=by
 obtain⟨f,fd,F,b,g⟩:=D
 exact⟨f,fd,F.okX S len (d9 f),F.kp,b,g⟩
def Cn(K:PySem.W.Frag)(mg:Str→Option Value)(x:Str)(C HE:Addr)(q:Str)(st:Stmt)(ps:List Str):Prop:=∃f fd,yK K "__init__" q st f fd∧PySem.W.fN K C HE f∧Binds K fd ps []∧mg x=some (.ref C)∧PySem.W.keepIn K (.ref C)=true
structure M3(P:Program)(w:World)(K:PySem.W.Frag)(mg:Str→Option Value)(base:Heap)(k:Nat)(x:Str)(C HE:Addr)(ps:List Str)(sp:Sp)(f:Addr)(fd:FuncData):Prop where
 ok:eI P w K mg base pL k f fd ps sp
 z:PySem.W.fN K C HE f
 b:Binds K fd ps []
 g:mg x=some (.ref C)
 kp:PySem.W.keepIn K (.ref C)=true
def tX(P:Program)(w:World)(K:PySem.W.Frag)(mg:Str→Option Value)(base:Heap)(k:Nat)(x:Str)(C HE:Addr)(ps:List Str)(sp:Sp):Prop:=∃f fd,M3 P w K mg base k x C HE ps sp f fd
theorem Cn.ic{x q:Str}{C HE:Addr}{st:Stmt}{N ps:List Str}{k:Nat}{sp:Sp}(D:Cn K mg x C HE q st ps)(S:aI N ps (ag st))(len:∀vs H Q E,sp vs H Q E→vs.length=ps.length)
  (d9:∀(f:Addr) (bW:Value) (A:Around) (outer:List Env) (s:Shared) (H:Hp) (vs:List V) (Q:VK) (E:XK),cN k (A.deeper (envOfC q (ag st) s.heap.objs.size f bW))→sp vs H Q E→
   ∃t,lh (h9 pL P w K mg base N q (ag st) f bW A outer s H E).Bi (aC st) t∧t { nx:=fun _ H'=>Q .dE H',rt:=Q } (start N vs) H):tX P w K mg base (k+1) x C HE ps sp:=by
 obtain⟨f,fd,F,Z,b,g,kp⟩:=D
 exact⟨f,fd,F.ok S len (d9 f),Z,b,g,kp⟩
end
end L2
namespace Cm
open PySem PySem.Spec PySem.Calls PyProof.Rows
section
variable {prog:Program}{w:World}{A:Around}{I:Addr}{fp wr:List Addr}{n:Nat}{P:Nat→Value→Prop}{St:Nat→Heap→Prop}
end
section
variable {prog:Program}{w:World}{A:Around}{E:Value→Shared→Prop}{s:Shared}{l:Addr}{xs:Array (Int×Tok)}{d:Value}
end
end Cm
namespace L2
open PySem PySem.Spec PyProof.Rows
section
variable {X:Cx}
end
end L2
namespace L2
open PySem PySem.Spec
section
variable {X:Cx}
end
end L2
namespace L2
open PySem PySem.Spec
theorem eU{K:PySem.W.Frag}{C P:Addr}(h1:PySem.W.isClsIn K P=true)(h2:PySem.W.typeIn K (.ref P)=some (.type "type"))(h3:PySem.W.mroIn K C (.ref P)=some false)(h4:PySem.W.mroIn K C (.ref C)=some true):PySem.W.kitOne K (.ref C) (.ref P)=some false:=by
 have ve:¬(Value.ref C==Value.ref P)=true:=fun e=>by
  have e:Value.ref C=Value.ref P:=by simpa using e
  rw[←e,h4] at h3
  cases h3
 unfold PySem.W.kitOne
 rw[if_neg ve]
 unfold PySem.W.kitCls
 dsimp only
 rw[if_pos (by rw[show (PySem.W.clsIn K P).isSome=true from h1,h2,Bool.true_and];decide+kernel)]
 exact h3
theorem Co{K:PySem.W.Frag}{C HE f:Addr}(Z:PySem.W.fN K C HE f):PySem.W.kitOne K (.ref C) (.type "ValueError")=some true:=by
 unfold PySem.W.kitOne
 rw[if_neg (by simp)]
 unfold PySem.W.kitCls
 dsimp only
 rw[if_pos (by decide+kernel)]
 exact Z.mro (by decide+kernel)
theorem zq{K:PySem.W.Frag}(v:Value):PySem.W.kitOne K v v=some true:=by
 unfold PySem.W.kitOne
 rw[if_pos (by simp)]
end L2
namespace L2
open PySem PySem.Spec PyProof.Rows
section
variable {K:PySem.W.Frag}{h:Heap}{mg:Str→Option Value}{x m q:Str}{st:Stmt}{ps:List Str}{f C HE:Addr}
theorem iC{N P:List Str}{sc:Scope}(a:sc.kind= .function:=by rfl)(b:sc.isCoroutine=false:=by rfl)(c:sc.isGenerator=false:=by rfl)(d:N.Nodup:=by decide+kernel)(e:N.take P.length=P:=by rfl)(f:∀x∈P,sc.names.lookup x=some .local∨sc.names.lookup x=some .cell:=by decide+kernel)(g:∀y∈sc.names,y.2≠ .free:=by decide+kernel):aI N P sc:=⟨a,b,c,d,e,f,g⟩
end
end L2
namespace L2
open PySem PySem.Spec PyProof.Rows PySem.W PySem.Calls
section
variable {prog:Program}{w:World}{κ:Type}[DecidableEq κ]{knd:KeyKind prog w κ}{A:Around}{E:Value→Shared→Prop}{s:Shared}{d it:Addr}{i ep:Nat}{jE:List (κ×Value)}
end
section
variable {X:Cx}
end
end L2
namespace L2
open PySem PySem.Spec PyProof.Rows
end L2
namespace L2
open PySem PySem.Spec
variable [jr]
end L2
namespace L2
open PySem PySem.Spec PyProof.Rows PySem.W
section
variable {X:Cx}
end
end L2
namespace L2
open PySem PySem.Spec PyProof.Rows
variable [jr]
section
variable {prog:Program}{w:World}{A:Around}{R:Result→Shared→Prop}{s:Shared}
end
section
variable {X:Cx}{elt tg iter:Expr}{ifs:List Expr}{scope:Scope}{pos:Pos}{N:List Str}{fr:List (Option Nat)}{cl:List (Str×Addr)}{wi:TI}{g:TG}{tt:TT}{te:TE}
variable {teX:(St→XK)→TE}{ER:St→XK}
variable {wq py:Pos}
end
end L2
namespace L2
open PySem PySem.Spec PyProof.Rows
section
variable {X:Cx}{e o:Expr}{es:List Expr}{t:TA}{ta:TE}{x m:Str}{ps:List Str}{sp:Sp}{f C:Addr}{fd:FuncData}{k n:Nat}{p apos pos:Pos}
end
end L2
namespace L2
open PySem
end L2
namespace L2
open PySem PySem.Spec PyProof.Rows
section
variable {X:Cx}{o:Expr}{to:TE}{apos mO:Pos}
end
end L2
namespace L2
open PySem PySem.Spec PyProof.Rows
section
variable {X:Cx}
end
end L2
namespace PySem
section
variable {prog:Program}{w:World}{A:Around}{E:Value→Shared→Prop}{s:Shared}
end
namespace F
end F
section
variable {prog:Program}{w:World}{K:Type}[DecidableEq K]{knd:KeyKind prog w K}{A:Around}{E:Value→Shared→Prop}{s:Shared}
end
end PySem
namespace L2
open PySem PySem.Spec PyProof.Rows
end L2
namespace PySem.W
open PySem PySem.Calls PyProof.Rows
section
variable {prog:Program}{w:World}{A:Around}{E:Value→Shared→Prop}{s:Shared}{K:Frag}{env:Env}
end
end PySem.W
namespace L2
open PySem PySem.Spec PyProof.Rows
variable [jr]
section
variable {P:Program}{w:World}{K:PySem.W.Frag}{mg:Str→Option Value}{base:Heap}
end
end L2
namespace L2
open PySem PySem.Spec PyProof.Rows
variable [jr]
section
variable {X Y:Cx}{k:Nat}{f C:Addr}{fd:FuncData}{ps:List Str}{sp:Sp}{ER:St→XK}{x:Str}{p pos:Pos}{e:Expr}{es:List Expr}{t:TA}{A0:Around}{e':Addr}
end
section
variable {X:Cx}{pins:List (Addr×Obj)}{σ:St}{H:Hp}{s:Shared}{ER:St→XK}
end
instance (priority:=low) UO:jr:=⟨fun _=>True⟩
end L2
namespace L2
open PySem PySem.Spec PyProof.Rows
section
variable {X:Cx}{o:Expr}{to:TE}{apos mO:Pos}
end
end L2
namespace L2
open PySem PySem.Spec PyProof.Rows
section
variable {X:Cx}{o i:Expr}{pos:Pos}{td ty:TE}
end
section
variable {X:Cx}{o e:Expr}{es:List Expr}{pos:Pos}{te:TE}{t:TA}{E:XK}
end
section
variable [jr]{X:Cx}{o e:Expr}{es:List Expr}{pos:Pos}{te:TE}{t:TA}{ER:St→XK}
end
end L2
namespace Cm
open PySem PySem.Spec PySem.Builtin PySem.Builtin.Str
end Cm
namespace L2
open PySem PySem.Spec PyProof.Rows
end L2
namespace Cm
open PySem PySem.Spec
section
variable {prog:Program}{w:World}{A:Around}{E:Value→Shared→Prop}{s:Shared}{it t l:Addr}{i k:Nat}{xs ys:Array Value}{x y a b:Value}
end
end Cm
namespace Cm
open PySem PySem.Spec
section
variable {prog:Program}{w:World}{A:Around}{E:Value→Shared→Prop}{s:Shared}{z TI TO i1 i2 t l:Addr}{k:Nat}{xs ys:Array Value}{x y a b:Value}
end
end Cm
namespace L2
open PySem PySem.Spec PyProof.Rows
end L2
namespace L2
open PySem PySem.Spec PyProof.Rows
section
variable {X:Cx}{o e:Expr}{es:List Expr}{pos:Pos}{te:TE}{t:TA}{E:XK}{k:Nat}
end
section
variable [jr]{X:Cx}{o e:Expr}{es:List Expr}{pos:Pos}{te:TE}{t:TA}{ER:St→XK}{k:Nat}
end
section
variable {P:Program}{w:World}{K:PySem.W.Frag}{mg:Str→Option Value}{base:Heap}{k:Nat}{x:Str}{ps:List Str}{sp:Sp}{f:Addr}
end
section
variable {K:PySem.W.Frag}{g:TG}{tt:TT}{te:TE}
end
end L2
namespace L2
open PySem PySem.Spec PyProof.Rows
end L2
namespace L2
open PySem PySem.Spec PyProof.Rows
end L2
namespace L2
open PySem PySem.Spec PyProof.Rows PySem.W
def cj:Bool→Keyed→Array Keyed→Nat→Nat→Nat→StateT SortSt Sem (Option Nat):=sortPriv%PySem.Builtin.gallop
section
variable {prog:Program}{w:World}{A:Around}{E:Value→Shared→Prop}{κ:SortKind}{it:Array Keyed}{O:KeyOrd}{k:Nat→O.α}{n:Nat}{I:Shared→Prop}{s:Shared}{st:SortSt}
theorem tY{Q:Option Bool→SortSt→Shared→Prop}(hc:dN O k n I (kas_cmp prog w A κ it)){i j:Nat}(hi:i<n)(hj:j<n)(hk:kindOf st=κ)(hI:I s)(q:∀s',I s'→Q (some (O.blt (k i) (k j))) st s'):
  kasC (model prog w) A E (lt' (kas_item it i) (kas_item it j)) Q st s:=by
 rw[lt'_eq]
 refine kasC_bind (kasC_get (kasC_bind (kasC_lift (wpAny_attempt (wpAny_mono (?_:kas_cmp prog w A (kindOf st) it i j (fun c s'=>Q (some c) st s') s) (fun c s' h=>kasC_pure h) fun _ _ z=>z.elim)))))
 rw[hk]
 exact hc i j _ s hi hj hI fun s' f'=>q s' f'
theorem HH(l:Bool)(y:Keyed)(t:Array Keyed)(b m h:Nat):cj l y t b m h=(do
  let UP (i:Nat):StateT SortSt Sem (Option Bool):=do { let x←elem' t (b+i);if l then lt' x y else return (←lt' y x).map (!·) }
  let mut u:=0
  let mut o:=1
  let mut p:=0
  let mut r:=0
  let some c←UP h|return none
  if c then
   let z:=m - h
   for _ in [0:m] do
    if o≥z then break
    let some d←UP (h+o) |return none
    if !d then break
    u:=o
    o:=2*o+1
   p:=h+u+1
   r:=h+min o z
  else
   let z:=h+1
   for _ in [0:m] do
    if o≥z then break
    let some d←UP (h - o) |return none
    if d then break
    u:=o
    o:=2*o+1
   p:=h+1 - min o z
   r:=h - u
  for _ in [0:m] do
   if p≥r then break
   let q:=p+(r - p) /2
   let some d←UP q|return none
   if d then p:=q+1 else r:=q
  return some r):=rfl
theorem br{σ β:Type}{M:Model}{f:Nat→β→StateT σ Sem (ForInStep β)}{a m:Nat}(Inv:Nat→β→σ→Shared→Prop){Q:β→σ→Shared→Prop}{b:β}{st:σ}{s:Shared}(h0:Inv (m - a) b st s)(hz:∀b st s,Inv 0 b st s→Q b st s)
  (hs:∀x j b st s,Inv (j+1) b st s→kasC M A E (f x b) (fun r bc s'=>match r with| .done b'=>Q b' bc s'| .yield b'=>Inv j b' bc s') st s):kasC M A E (forIn [a:m] b f) Q st s:=by
 refine kasC_range ?_
 have go:∀(ls:List Nat) (b:β) (st:σ) (s:Shared),Inv ls.length b st s→kasC M A E (forIn ls b f) Q st s:=by
  intro ls
  induction ls with
  |nil=>intro b st s h;exact kasC_nil (hz b st s h)
  |cons x ls ih=>
   intro b st s h
   refine kasC_cons (wpAny_mono (hs x ls.length b st s h) (fun r s' h'=>?_) fun _ _ e=>e)
   obtain⟨r,bc⟩:=r
   cases r with
   |done b'=>exact h'
   |yield b'=>exact ih b' bc s' h'
 exact go _ b st s (by rw[List.length_range'];exact h0)
theorem bP{σ α:Type}{M:Model}{m:StateT σ Sem α}{Q Q':α→σ→Shared→Prop}{st:σ}{s:Shared}(h:kasC M A E m Q st s)(hq:∀a bc s',Q a bc s'→Q' a bc s'):kasC M A E m Q' st s:=wpAny_mono h (fun r s' z=>hq r.1 r.2 s' z) fun _ _ e=>e
theorem pW{l:Bool}{x:Nat}{P:Array Nat}{b m h:Nat}{Q:Option Nat→SortSt→Shared→Prop}(B:Nat→Bool)(hh:h<m)
  (hB:∀i,i<m→∀s (Q':Option Bool→SortSt→Shared→Prop),I s→(∀s',I s'→Q' (some (B i)) st s')→kasC (model prog w) A E (do { let y←elem' (P.map (kas_item it)) (b+i);if l then lt' y (kas_item it x) else return (←lt' (kas_item it x) y).map (!·) }) Q' st s)
  (mono:∀i j,i≤j→j<m→B j=true→B i=true) (hI:I s) (q:∀r s',I s'→r≤m→(∀i,i<r→B i=true)→(∀i,r≤i→i<m→B i=false)→Q (some r) st s'):
  kasC (model prog w) A E (cj l (kas_item it x) (P.map (kas_item it)) b m h) Q st s:=by
 rw[HH]
 dsimp only
 have bin:∀(p r:Nat) (s:Shared) {R:Option (Option Nat)×Nat×Nat→SortSt→Shared→Prop} {body:Nat→Option (Option Nat)×Nat×Nat→StateT SortSt Sem (ForInStep (Option (Option Nat)×Nat×Nat))},I s→p≤r→r≤m→(p=0∨B (p - 1)=true)→(r=m∨B r=false)→
   (∀r s',I s'→r≤m→(r=0∨B (r - 1)=true)→(r=m∨B r=false)→R (none,r,r) st s')→
   (∀y p r (s:Shared) (R':ForInStep (Option (Option Nat)×Nat×Nat)→SortSt→Shared→Prop),p≥r→R' (.done (none,p,r)) st s→kasC (model prog w) A E (body y (none,p,r)) R' st s)→
   (∀y p r (s:Shared) (R':ForInStep (Option (Option Nat)×Nat×Nat)→SortSt→Shared→Prop),p<r→r≤m→I s→(∀s',I s'→R' (.yield (if B (p+(r - p) /2)=true then (none,p+(r - p) /2+1,r) else (none,p,p+(r - p) /2))) st s')→kasC (model prog w) A E (body y (none,p,r)) R' st s)→
   kasC (model prog w) A E (forIn [0:m] (none,p,r) body) R st s:=by
  intro p r s R body hI h1 h2 h3 h4 fin b1 b2
  refine br (fun j c bc s'=>∃p r,c=(none,p,r)∧bc=st∧I s'∧p≤r∧r≤m∧r - p≤j∧(p=0∨B (p - 1)=true)∧(r=m∨B r=false)) ⟨p,r,rfl,rfl,hI,h1,h2,by omega,h3,h4⟩ ?_ ?_
  ·rintro c bc s' ⟨p,r,rfl,rfl,i1,i2,i3,i4,i5,i6⟩
   have e:p=r:=by omega
   subst e
   exact fin p s' i1 i3 i5 i6
  ·rintro y j c bc s' ⟨p,r,rfl,rfl,i1,i2,i3,i4,i5,i6⟩
   by_cases UQ:p≥r
   ·refine b1 y p r s' _ UQ ?_
    have e:p=r:=by omega
    subst e
    exact fin p s' i1 i3 i5 i6
   ·refine b2 y p r s' _ (by omega) i3 i1 fun tJ M4=>?_
    cases e:B (p+(r - p) /2) with
    |true=>exact⟨_,_,rfl,rfl,M4,by omega,i3,by omega, .inr (by rw[Nat.add_sub_cancel];exact e),i6⟩
    |false=>exact⟨_,_,rfl,rfl,M4,by omega,by omega,by omega,i5, .inr e⟩
 have done:∀r s',I s'→r≤m→(r=0∨B (r - 1)=true)→(r=m∨B r=false)→Q (some r) st s':=fun r s' i1 i2 i3 i4=>q r s' i1 i2 (fun i hi=>i3.elim (fun z=>by omega) fun z=>mono i (r - 1) (by omega) (by omega) z) fun i hi hm=>i4.elim (fun z=>by omega) fun z=>by
  cases e:B i with
  |false=>rfl
  |true=>rw[mono r i hi hm e] at z;cases z
 refine kasC_bind (hB h hh s _ hI fun s1 rF=>?_)
 dsimp only
 have b1:∀(y p r:Nat) (s:Shared) (R':ForInStep (Option (Option Nat)×Nat×Nat)→SortSt→Shared→Prop),p≥r→R' (.done (none,p,r)) st s→kasC (model prog w) A E (if p≥r then pure (ForInStep.done (none,p,r)) else do
   let d←(do { let y←elem' (P.map (kas_item it)) (b+(p+(r - p) /2));if l then lt' y (kas_item it x) else return (←lt' (kas_item it x) y).map (!·) })
   match d with
   |some d=>if d=true then pure (ForInStep.yield (none,p+(r - p) /2+1,r)) else pure (ForInStep.yield (none,p,p+(r - p) /2))
   |_=>pure (ForInStep.done (some none,p,r))) R' st s:=fun y p r s R' UQ hR=>by
  rw[if_pos UQ]
  exact kasC_pure hR
 have b2:∀(y p r:Nat) (s:Shared) (R':ForInStep (Option (Option Nat)×Nat×Nat)→SortSt→Shared→Prop),p<r→r≤m→I s→(∀s',I s'→R' (.yield (if B (p+(r - p) /2)=true then (none,p+(r - p) /2+1,r) else (none,p,p+(r - p) /2))) st s')→kasC (model prog w) A E (if p≥r then pure (ForInStep.done (none,p,r)) else do
   let d←(do { let y←elem' (P.map (kas_item it)) (b+(p+(r - p) /2));if l then lt' y (kas_item it x) else return (←lt' (kas_item it x) y).map (!·) })
   match d with
   |some d=>if d=true then pure (ForInStep.yield (none,p+(r - p) /2+1,r)) else pure (ForInStep.yield (none,p,p+(r - p) /2))
   |_=>pure (ForInStep.done (some none,p,r))) R' st s:=fun y p r s R' UQ hr f' hR=>by
  rw[if_neg (by omega)]
  refine kasC_bind (hB _ (by omega) s _ f' fun s2 fJ=>?_)
  dsimp only
  have:=hR s2 fJ
  cases e:B (p+(r - p) /2) with
  |true=>rw[e,if_pos rfl] at this;rw[if_pos rfl];exact kasC_pure this
  |false=>rw[e,if_neg (by simp)] at this;rw[if_neg (by simp)];exact kasC_pure this
 cases hb:B h with
 |true=>
  rw[if_pos rfl]
  refine kasC_bind (bP (Q:=fun c bc s'=>∃u o,c=(none,u,o)∧bc=st∧I s'∧u<o∧h+u<m∧B (h+u)=true∧(m - h≤o∨B (h+o)=false)) (br (fun j c bc s'=>∃u o,c=(none,u,o)∧bc=st∧I s'∧u<o∧h+u<m∧B (h+u)=true∧m+1≤o+j) ⟨0,1,rfl,rfl,rF,by decide,hh,hb,by omega⟩ ?_ ?_) ?_)
  ·rintro c bc s' ⟨u,o,rfl,rfl,i1,i2,i3,i4,i5⟩
   exact⟨u,o,rfl,rfl,i1,i2,i3,i4, .inl (by omega)⟩
  ·rintro y j c bc s' ⟨u,o,rfl,rfl,i1,i2,i3,i4,i5⟩
   dsimp only
   by_cases ho:o≥m - h
   ·rw[if_pos ho]
    exact kasC_pure ⟨u,o,rfl,rfl,i1,i2,i3,i4, .inl ho⟩
   ·rw[if_neg ho]
    refine kasC_bind (hB _ (by omega) s' _ i1 fun s2 fJ=>?_)
    dsimp only
    cases e:B (h+o) with
    |true=>rw[if_neg (by simp)];exact kasC_pure ⟨_,_,rfl,rfl,fJ,by omega,by omega,e,by omega⟩
    |false=>rw[if_pos (show (!false)=true from rfl)];exact kasC_pure ⟨u,o,rfl,rfl,fJ,i2,i3,i4, .inr e⟩
  ·rintro c bc s' ⟨u,o,rfl,rfl,i1,i2,i3,i4,i5⟩
   dsimp only
   refine kasC_bind (bin _ _ s' i1 (by omega) (by omega) (.inr (by rw[Nat.add_sub_cancel];exact i4)) ?_ (fun r tJ a1 a2 a3 a4=>kasC_pure (done r tJ a1 a2 a3 a4)) b1 b2)
   rcases i5 with z|z
   ·exact .inl (by omega)
   ·by_cases hm:o≥m - h
    ·exact .inl (by omega)
    ·rw[Nat.min_eq_left (by omega)]
     exact .inr z
 |false=>
  rw[if_neg (by simp)]
  refine kasC_bind (bP (Q:=fun c bc s'=>∃u o,c=(none,u,o)∧bc=st∧I s'∧u<o∧u≤h∧B (h - u)=false∧(h+1≤o∨o≤h∧B (h - o)=true)) (br (fun j c bc s'=>∃u o,c=(none,u,o)∧bc=st∧I s'∧u<o∧u≤h∧B (h - u)=false∧m+1≤o+j) ⟨0,1,rfl,rfl,rF,by decide,Nat.zero_le _,hb,by omega⟩ ?_ ?_) ?_)
  ·rintro c bc s' ⟨u,o,rfl,rfl,i1,i2,i3,i4,i5⟩
   exact⟨u,o,rfl,rfl,i1,i2,i3,i4, .inl (by omega)⟩
  ·rintro y j c bc s' ⟨u,o,rfl,rfl,i1,i2,i3,i4,i5⟩
   dsimp only
   by_cases ho:o≥h+1
   ·rw[if_pos ho]
    exact kasC_pure ⟨u,o,rfl,rfl,i1,i2,i3,i4, .inl ho⟩
   ·rw[if_neg ho]
    refine kasC_bind (hB _ (by omega) s' _ i1 fun s2 fJ=>?_)
    dsimp only
    cases e:B (h - o) with
    |true=>rw[if_pos rfl];exact kasC_pure ⟨u,o,rfl,rfl,fJ,i2,i3,i4, .inr ⟨by omega,e⟩⟩
    |false=>rw[if_neg (by simp)];exact kasC_pure ⟨_,_,rfl,rfl,fJ,by omega,by omega,e,by omega⟩
  ·rintro c bc s' ⟨u,o,rfl,rfl,i1,i2,i3,i4,i5⟩
   dsimp only
   refine kasC_bind (bin _ _ s' i1 (by omega) (by omega) ?_ (.inr i4) (fun r tJ a1 a2 a3 a4=>kasC_pure (done r tJ a1 a2 a3 a4)) b1 b2)
   rcases i5 with z| ⟨z1,z2⟩
   ·exact .inl (by omega)
   ·refine .inr ?_
    rw[Nat.min_eq_left (by omega),show h+1 - o - 1=h - o by omega]
    exact z2
end
end L2
namespace L2
open PySem PySem.Spec PyProof.Rows PySem.W
def jO:Array Keyed→Array Keyed→StateT SortSt Sem (Array Keyed):=sortPriv%PySem.Builtin.mergeLo
def jP:Array Keyed→Array Keyed→StateT SortSt Sem (Array Keyed):=sortPriv%PySem.Builtin.mergeHi
def gd(g:Nat):StateT SortSt Sem Unit:=modify fun s=>SortSt.mk' (kindOf s) (arrOf s) (pendingOf s) g (failedOf s)
section
variable {prog:Program}{w:World}{A:Around}{E:Value→Shared→Prop}{κ:SortKind}{it:Array Keyed}{O:KeyOrd}{k:Nat→O.α}{n:Nat}{I:Shared→Prop}{s:Shared}{st:SortSt}
abbrev Ar:=Array Keyed
abbrev SM:=StateT SortSt Sem
def Bl(a b o:Ar)(i j:Nat):Ar:=o++a.extract i a.size++b.extract j b.size
def LC(a b o:Ar)(i j:Nat):Ar:=o++b.extract j b.size++a.extract i a.size
abbrev C1:=Option Ar×Ar×Nat×Nat×Nat×Nat
abbrev C2:=Option Ar×Ar×Nat×Nat×Nat×Nat×Nat
abbrev C3:=Option Ar×Ar×Nat×Nat×Nat
def lo1(a b:Ar)(g:Nat)(c:C1):SM (ForInStep C1):=do
 let x←elem' b c.2.2.2.1
 let y←elem' a c.2.2.1
 match←lt' x y with
 |some d=>
  if d=true then do
   let e←elem' b c.2.2.2.1
   if (c.2.2.2.1+1==b.size)=true then pure (.done (some (Bl a b (c.2.1.push e) c.2.2.1 (c.2.2.2.1+1)),c.2.1.push e,c.2.2.1,c.2.2.2.1+1,0,c.2.2.2.2.2+1))
   else if c.2.2.2.2.2+1≥g then pure (.done (none,c.2.1.push e,c.2.2.1,c.2.2.2.1+1,0,c.2.2.2.2.2+1))
   else pure (.yield (none,c.2.1.push e,c.2.2.1,c.2.2.2.1+1,0,c.2.2.2.2.2+1))
  else do
   let e←elem' a c.2.2.1
   if (c.2.2.1+1+1==a.size)=true then pure (.done (some (LC a b (c.2.1.push e) (c.2.2.1+1) c.2.2.2.1),c.2.1.push e,c.2.2.1+1,c.2.2.2.1,c.2.2.2.2.1+1,0))
   else if c.2.2.2.2.1+1≥g then pure (.done (none,c.2.1.push e,c.2.2.1+1,c.2.2.2.1,c.2.2.2.2.1+1,0))
   else pure (.yield (none,c.2.1.push e,c.2.2.1+1,c.2.2.2.1,c.2.2.2.2.1+1,0))
 |_=>pure (.done (some (Bl a b c.2.1 c.2.2.1 c.2.2.2.1),c.2.1,c.2.2.1,c.2.2.2.1,c.2.2.2.2.1,c.2.2.2.2.2))
def UR(a b o:Ar)(i j g u v:Nat):SM (ForInStep C2):=do
 let e←elem' a i
 if (i+1+1==a.size)=true then pure (.done (some (LC a b (o.push e) (i+1) j),o.push e,i+1,j,g,u,v))
 else if (decide (u<7)&&decide (v<7))=true then pure (.done (none,o.push e,i+1,j,g,u,v))
 else pure (.yield (none,o.push e,i+1,j,g,u,v))
def US(a b o:Ar)(i j g u v:Nat):SM (ForInStep C2):=do
 let e←elem' b j
 if (j+1==b.size)=true then pure (.done (some (Bl a b (o.push e) i (j+1)),o.push e,i,j+1,g,u,v))
 else do
  let y←elem' a i
  match←cj true y b (j+1) (b.size - (j+1)) 0 with
  |some c=>
   if c>0 then
    if (j+1+c==b.size)=true then pure (.done (some (Bl a b (o.push e++b.extract (j+1) (j+1+c)) i (j+1+c)),o.push e++b.extract (j+1) (j+1+c),i,j+1+c,g,u,c))
    else UR a b (o.push e++b.extract (j+1) (j+1+c)) i (j+1+c) g u c
   else UR a b (o.push e) i (j+1) g u c
  |_=>pure (.done (some (Bl a b (o.push e) i (j+1)),o.push e,i,j+1,g,u,v))
def M6(a b o:Ar)(i j g u v:Nat):SM (ForInStep C2):=do
 gd g
 let x←elem' b j
 match←cj false x a i (a.size - i) 0 with
 |some c=>
  if c>0 then
   if (i+c+1==a.size)=true then pure (.done (some (LC a b (o++a.extract i (i+c)) (i+c) j),o++a.extract i (i+c),i+c,j,g,c,v))
   else if (i+c==a.size)=true then pure (.done (some (Bl a b (o++a.extract i (i+c)) (i+c) j),o++a.extract i (i+c),i+c,j,g,c,v))
   else US a b (o++a.extract i (i+c)) (i+c) j g c v
  else US a b o i j g c v
 |_=>pure (.done (some (Bl a b o i j),o,i,j,g,u,v))
def WK(a b:Ar)(c:C2):SM (ForInStep C2):=if c.2.2.2.2.1>1 then M6 a b c.2.1 c.2.2.1 c.2.2.2.1 (c.2.2.2.2.1 - 1) c.2.2.2.2.2.1 c.2.2.2.2.2.2 else M6 a b c.2.1 c.2.2.1 c.2.2.2.1 c.2.2.2.2.1 c.2.2.2.2.2.1 c.2.2.2.2.2.2
def oC{α β:Type}(x:Option α)(f:α→β)(g:β):β:=Option.casesOn x g f
def WL(a b:Ar)(c:C3):SM (ForInStep C3):=do
 let d←forIn [0:a.size+b.size] ((none,c.2.1,c.2.2.1,c.2.2.2.1,0,0):C1) fun _=>lo1 a b c.2.2.2.2
 oC d.1 (fun r=>pure (.done (some r,d.2.1,d.2.2.1,d.2.2.2.1,c.2.2.2.2))) do
  rule "list.sort.gallop"
  let f←forIn [0:a.size+b.size] ((none,d.2.1,d.2.2.1,d.2.2.2.1,c.2.2.2.2+1,d.2.2.2.2.1,d.2.2.2.2.2):C2) fun _=>WK a b
  oC f.1 (fun r=>pure (.done (some r,f.2.1,f.2.2.1,f.2.2.2.1,f.2.2.2.2.1))) do
   gd (f.2.2.2.2.1+1)
   pure (.yield (none,f.2.1,f.2.2.1,f.2.2.2.1,f.2.2.2.2.1+1))
theorem Cp(a b:Array Keyed):jO a b=(do
  rule "list.sort.merge-lo"
  let tt:=a.size+b.size
  let dn (o:Array Keyed) (i j:Nat):=o++a.extract i a.size++b.extract j b.size
  let la (o:Array Keyed) (i j:Nat):=o++b.extract j b.size++a.extract i a.size
  let mut o:Array Keyed:=#[←elem' b 0]
  let mut i:=0
  let mut j:=1
  if j==b.size then return dn o i j
  if i+1==a.size then return la o i j
  let mut g:=gallopOf (←get)
  for _ in [0:tt] do
   let mut u:=0
   let mut v:=0
   for _ in [0:tt] do
    let some c←lt' (←elem' b j) (←elem' a i) |return dn o i j
    if c then
     o:=o.push (←elem' b j)
     j:=j+1
     v:=v+1
     u:=0
     if j==b.size then return dn o i j
     if v≥g then break
    else
     o:=o.push (←elem' a i)
     i:=i+1
     u:=u+1
     v:=0
     if i+1==a.size then return la o i j
     if u≥g then break
   rule "list.sort.gallop"
   g:=g+1
   for _ in [0:tt] do
    if g>1 then g:=g - 1
    gd g
    let some c←cj false (←elem' b j) a i (a.size - i) 0|return dn o i j
    u:=c
    if c>0 then
     o:=o++a.extract i (i+c)
     i:=i+c
     if i+1==a.size then return la o i j
     if i==a.size then return dn o i j
    o:=o.push (←elem' b j)
    j:=j+1
    if j==b.size then return dn o i j
    let some c←cj true (←elem' a i) b j (b.size - j) 0|return dn o i j
    v:=c
    if c>0 then
     o:=o++b.extract j (j+c)
     j:=j+c
     if j==b.size then return dn o i j
    o:=o.push (←elem' a i)
    i:=i+1
    if i+1==a.size then return la o i j
    if u<7&&v<7 then break
   g:=g+1
   gd g
  unsupported "internal:list.sort.merge-bound"):=rfl
theorem HI(a b:Array Keyed):jO a b=(do
  rule "list.sort.merge-lo"
  let e←elem' b 0
  if (1==b.size)=true then pure (Bl a b #[e] 0 1)
  else if (0+1==a.size)=true then pure (LC a b #[e] 0 1)
  else do
   let s←get
   let c←forIn [0:a.size+b.size] ((none,#[e],0,1,gallopOf s):C3) fun _=>WL a b
   oC c.1 (fun r=>pure r) (unsupported "internal:list.sort.merge-bound")):=by
 rw[Cp]
 dsimp only
 congr 1
 funext _
 congr 1
 funext e
 congr 1
 congr 1
 congr 1
 funext s
 congr 1
 ·congr 1
  funext x c
  unfold WL
  congr 1
  funext d
  obtain⟨r,o,i,j,u,v⟩:=d
  cases r with
  |some r=>rfl
  |none=>
   dsimp only [oC]
   congr 1
   funext _
   congr 1
   funext f
   obtain⟨r,o,i,j,g,u,v⟩:=f
   cases r<;>rfl
 ·funext c
  obtain⟨r,o⟩:=c
  cases r<;>rfl
end
end L2
namespace L2
open PySem PySem.Spec PyProof.Rows PySem.W
section
variable {O:KeyOrd}{k:Nat→O.α}
def le(k:Nat→O.α)(x y:Nat):Prop:=O.kle (k x) (k y)
abbrev gf(k:Nat→O.α)(l:List Nat):Prop:=l.Pairwise (le k)
theorem le.trans{x y z:Nat}(h:le k x y)(h':le k y z):le k x z:=KeyOrd.kle_trans h h'
theorem le_of_lt{x y:Nat}(h:O.blt (k x) (k y)=true):le k x y:=KeyOrd.kle_of_klt h
theorem bZ{x y:Nat}(h:O.blt (k y) (k x)=false):le k x y:=h
theorem mh{l:List Nat}{i:Nat}(h:i<l.length):l.drop i=l.getD i 0::l.drop (i+1):=by
 rw[List.drop_eq_getElem_cons h]
 congr 1
 simp [List.getD,h]
theorem fz{l:List Nat}(hs:gf k l){i:Nat}(h:i<l.length):∀y∈l.drop i,le k (l.getD i 0) y:=by
 have:gf k (l.drop i):=hs.drop
 rw[mh h] at this ⊢
 intro y hy
 rcases List.mem_cons.mp hy with rfl|hy
 ·exact KeyOrd.kle_refl _
 ·exact(List.pairwise_cons.mp this).1 y hy
structure MI(k:Nat→O.α)(la lb ro:List Nat)(i j:Nat):Prop where
 perm:(ro++(la.drop i++lb.drop j)).Perm (la++lb)
 Cq:gf k ro
 ra:∀x∈ro,∀y∈la.drop i,le k x y
 rb:∀x∈ro,∀y∈lb.drop j,le k x y
theorem MI.zr{la lb ro:List Nat}{i j:Nat}(h:MI k la lb ro i j)(sa:gf k la)(hi:i<la.length)(hb:∀y∈lb.drop j,le k (la.getD i 0) y):MI k la lb (ro++[la.getD i 0]) (i+1) j:=by
 have hd:=mh hi
 have ia:=fz sa hi
 refine⟨?_,List.pairwise_append.mpr ⟨h.Cq,List.pairwise_singleton _ _,fun x hx y hy=>?_⟩,fun x hx y hy=>?_,fun x hx y hy=>?_⟩
 ·have:=h.perm
  rw[hd] at this
  rw[List.append_assoc]
  exact this
 ·rw[List.mem_singleton.mp hy]
  exact h.ra x hx _ (by rw[hd];exact List.mem_cons_self ..)
 ·have pX:y∈la.drop i:=by rw[hd];exact List.mem_cons_of_mem _ hy
  rcases List.mem_append.mp hx with z|z
  ·exact h.ra x z y pX
  ·rw[List.mem_singleton.mp z];exact ia y pX
 ·rcases List.mem_append.mp hx with z|z
  ·exact h.rb x z y hy
  ·rw[List.mem_singleton.mp z];exact hb y hy
theorem MI.vf{la lb ro:List Nat}{i j:Nat}(h:MI k la lb ro i j)(sb:gf k lb)(hj:j<lb.length)(ha:∀y∈la.drop i,le k (lb.getD j 0) y):MI k la lb (ro++[lb.getD j 0]) i (j+1):=by
 have hd:=mh hj
 have ib:=fz sb hj
 refine⟨?_,List.pairwise_append.mpr ⟨h.Cq,List.pairwise_singleton _ _,fun x hx y hy=>?_⟩,fun x hx y hy=>?_,fun x hx y hy=>?_⟩
 ·have:=h.perm
  rw[hd] at this
  refine List.Perm.trans ?_ this
  rw[List.append_assoc]
  exact List.Perm.append_left _ (show (lb.getD j 0::(la.drop i++lb.drop (j+1))).Perm _ from List.perm_middle.symm)
 ·rw[List.mem_singleton.mp hy]
  exact h.rb x hx _ (by rw[hd];exact List.mem_cons_self ..)
 ·rcases List.mem_append.mp hx with z|z
  ·exact h.ra x z y hy
  ·rw[List.mem_singleton.mp z];exact ha y hy
 ·have pX:y∈lb.drop j:=by rw[hd];exact List.mem_cons_of_mem _ hy
  rcases List.mem_append.mp hx with z|z
  ·exact h.rb x z y pX
  ·rw[List.mem_singleton.mp z];exact ib y pX
theorem jQ{l:List Nat}{i c:Nat}(h:i+c<l.length):(l.drop i).take (c+1)=(l.drop i).take c++[l.getD (i+c) 0]:=by
 rw[List.take_succ,List.getElem?_drop,List.getElem?_eq_getElem h]
 simp [List.getD,h]
theorem MI.zu{la lb ro:List Nat}{i j:Nat}(h:MI k la lb ro i j)(sa:gf k la):∀c,i+c≤la.length→(∀t,t<c→∀y∈lb.drop j,le k (la.getD (i+t) 0) y)→MI k la lb (ro++(la.drop i).take c) (i+c) j
 |0,_,_=>by rw[List.take_zero,List.append_nil];exact h
 |c+1,hc,hb=>by
  have ih:=MI.zu h sa c (by omega) fun t ht=>hb t (by omega)
  rw[jQ (by omega),←List.append_assoc]
  exact ih.zr sa (by omega) (hb c (by omega))
theorem MI.zv{la lb ro:List Nat}{i j:Nat}(h:MI k la lb ro i j)(sb:gf k lb):∀c,j+c≤lb.length→(∀t,t<c→∀y∈la.drop i,le k (lb.getD (j+t) 0) y)→MI k la lb (ro++(lb.drop j).take c) i (j+c)
 |0,_,_=>by rw[List.take_zero,List.append_nil];exact h
 |c+1,hc,ha=>by
  have ih:=MI.zv h sb c (by omega) fun t ht=>ha t (by omega)
  rw[jQ (by omega),←List.append_assoc]
  exact ih.vf sb (by omega) (ha c (by omega))
def sX(k:Nat→O.α)(la lb r:List Nat):Prop:=r.Perm (la++lb)∧gf k r
theorem MI.dn{la lb ro:List Nat}{i j:Nat}(h:MI k la lb ro i j)(sa:gf k la)(sb:gf k lb)(e:lb.length≤j∨la.length≤i):sX k la lb (ro++la.drop i++lb.drop j):=by
 refine⟨by rw[List.append_assoc];exact h.perm,?_⟩
 rw[List.append_assoc]
 refine List.pairwise_append.mpr ⟨h.Cq,List.pairwise_append.mpr ⟨sa.drop,sb.drop,fun x hx y hy=>?_⟩,fun x hx y hy=>?_⟩
 ·rcases e with e|e
  ·rw[List.drop_eq_nil_of_le e] at hy;cases hy
  ·rw[List.drop_eq_nil_of_le e] at hx;cases hx
 ·rcases List.mem_append.mp hy with z|z
  ·exact h.ra x hx y z
  ·exact h.rb x hx y z
theorem MI.la{la lb ro:List Nat}{i j:Nat}(h:MI k la lb ro i j)(sa:gf k la)(sb:gf k lb)(e:∀y∈lb.drop j,∀x∈la.drop i,le k y x):sX k la lb (ro++lb.drop j++la.drop i):=by
 refine⟨by rw[List.append_assoc];exact(List.Perm.append_left _ List.perm_append_comm).trans h.perm,?_⟩
 rw[List.append_assoc]
 refine List.pairwise_append.mpr ⟨h.Cq,List.pairwise_append.mpr ⟨sb.drop,sa.drop,e⟩,fun x hx y hy=>?_⟩
 rcases List.mem_append.mp hy with z|z
 ·exact h.rb x hx y z
 ·exact h.ra x hx y z
end
section
variable {it:Array Keyed}
def ar(it:Array Keyed)(l:List Nat):Ar:=(l.map (kas_item it)).toArray
theorem ba(l:List Nat):(ar it l).size=l.length:=by simp [ar]
theorem fB(l m:List Nat):ar it l++ar it m=ar it (l++m):=by simp [ar]
theorem jR(l:List Nat)(x:Nat):(ar it l).push (kas_item it x)=ar it (l++[x]):=by simp [ar]
theorem iD(l:List Nat)(i j:Nat):(ar it l).extract i j=ar it ((l.drop i).take (j - i)):=by
 apply Array.toList_inj.mp
 simp [ar,List.extract_eq_drop_take,List.map_take,List.map_drop]
theorem mi(l:List Nat)(i:Nat):(ar it l).extract i (ar it l).size=ar it (l.drop i):=by
 rw[iD,ba,List.take_of_length_le (by rw[List.length_drop];exact Nat.le_refl _)]
theorem ni(la lb ro:List Nat)(i j:Nat):Bl (ar it la) (ar it lb) (ar it ro) i j=ar it (ro++la.drop i++lb.drop j):=by
 unfold Bl
 rw[mi,mi,fB,fB]
theorem pY(la lb ro:List Nat)(i j:Nat):LC (ar it la) (ar it lb) (ar it ro) i j=ar it (ro++lb.drop j++la.drop i):=by
 unfold LC
 rw[mi,mi,fB,fB]
end
section
variable {prog:Program}{w:World}{A:Around}{E:Value→Shared→Prop}{κ:SortKind}{it:Array Keyed}{O:KeyOrd}{k:Nat→O.α}{n:Nat}{I:Shared→Prop}{s:Shared}{st:SortSt}
theorem el{l:List Nat}{i:Nat}{Q:Keyed→SortSt→Shared→Prop}(hi:i<l.length)(q:Q (kas_item it (l.getD i 0)) st s):kasC (model prog w) A E (elem' (ar it l) i) Q st s:=by
 rw[elem'_eq]
 have e:(ar it l)[i]? =some (kas_item it (l.getD i 0)):=by
  simp [ar,List.getD,hi]
 rw[e]
 exact kasC_pure q
theorem dc{l:List Nat}(hl:∀x∈l,x<n){i:Nat}(hi:i<l.length):l.getD i 0<n:=hl _ (by simp [List.getD,hi])
theorem dz(l:List Nat):ar it l=l.toArray.map (kas_item it):=by simp [ar]
theorem M7(hc:dN O k n I (kas_cmp prog w A κ it)){l:List Nat}{x b m h:Nat}{Q:Option Nat→SortSt→Shared→Prop}(hk:kindOf st=κ)(hl:∀y∈l,y<n)(hx:x<n)(sl:gf k l)(hb:b+m≤l.length)(hh:h<m)(hI:I s)
  (q:∀c s',I s'→c≤m→(∀t,t<c→le k (l.getD (b+t) 0) x)→(∀t,c≤t→t<m→O.blt (k x) (k (l.getD (b+t) 0))=true)→Q (some c) st s'):kasC (model prog w) A E (cj false (kas_item it x) (ar it l) b m h) Q st s:=by
 rw[dz]
 refine pW (I:=I) (fun t=>!O.blt (k x) (k (l.getD (b+t) 0))) hh (fun i hi s1 Q' rF q'=>?_) (fun i j jd hj e=>?_) hI fun c s' f' om h1 h2=>q c s' f' om (fun t ht=>?_) fun t ht hm=>?_
 ·rw[←dz]
  refine kasC_bind (el (by omega) ?_)
  rw[if_neg (by simp)]
  exact kasC_bind (tY hc hx (dc hl (by omega)) hk rF fun s2 fJ=>kasC_pure (q' s2 fJ))
 ·simp only [Bool.not_eq_true'] at e ⊢
  have hle:le k (l.getD (b+i) 0) (l.getD (b+j) 0):=fz sl (by omega) _ (by
   rw[List.mem_iff_getElem?]
   exact⟨j - i,by rw[List.getElem?_drop,show b+i+(j - i)=b+j by omega];simp [List.getD,show b+j<l.length by omega]⟩)
  exact le.trans hle (bZ e)
 ·have:=h1 t ht
  simp only [Bool.not_eq_true'] at this
  exact this
 ·have:=h2 t ht hm
  simpa using this
theorem M8(hc:dN O k n I (kas_cmp prog w A κ it)){l:List Nat}{x b m h:Nat}{Q:Option Nat→SortSt→Shared→Prop}(hk:kindOf st=κ)(hl:∀y∈l,y<n)(hx:x<n)(sl:gf k l)(hb:b+m≤l.length)(hh:h<m)(hI:I s)
  (q:∀c s',I s'→c≤m→(∀t,t<c→O.blt (k (l.getD (b+t) 0)) (k x)=true)→(∀t,c≤t→t<m→le k x (l.getD (b+t) 0))→Q (some c) st s'):kasC (model prog w) A E (cj true (kas_item it x) (ar it l) b m h) Q st s:=by
 rw[dz]
 refine pW (I:=I) (fun t=>O.blt (k (l.getD (b+t) 0)) (k x)) hh (fun i hi s1 Q' rF q'=>?_) (fun i j jd hj e=>?_) hI fun c s' f' om h1 h2=>q c s' f' om h1 h2
 ·rw[←dz]
  refine kasC_bind (el (by omega) ?_)
  rw[if_pos rfl]
  exact tY hc (dc hl (by omega)) hx hk rF q'
 ·have hle:le k (l.getD (b+i) 0) (l.getD (b+j) 0):=fz sl (by omega) _ (by
   rw[List.mem_iff_getElem?]
   exact⟨j - i,by rw[List.getElem?_drop,show b+i+(j - i)=b+j by omega];simp [List.getD,show b+j<l.length by omega]⟩)
  cases e2:O.blt (k (l.getD (b+i) 0)) (k x) with
  |true=>rfl
  |false=>
   have:le k x (l.getD (b+j) 0):=le.trans (bZ e2) hle
   have this:O.blt (k (l.getD (b+j) 0)) (k x)=false:=this
   rw[this] at e
   cases e
end
end L2
namespace L2
open PySem PySem.Spec PyProof.Rows PySem.W
structure MH{O:KeyOrd}(k:Nat→O.α)(n:Nat)(la lb:List Nat):Prop where
 sa:gf k la
 sb:gf k lb
 na:∀x∈la,x<n
 nb:∀x∈lb,x<n
section
variable {prog:Program}{w:World}{A:Around}{E:Value→Shared→Prop}{κ:SortKind}{it:Array Keyed}{O:KeyOrd}{k:Nat→O.α}{n:Nat}{I:Shared→Prop}{s:Shared}{st:SortSt}{la lb:List Nat}
theorem gg{a b:Nat}(h:a=b):(a==b)=true:=by simp [h]
theorem gi{a b:Nat}(h:a≠b):¬(a==b)=true:=by simp [h]
theorem HJ(hc:dN O k n I (kas_cmp prog w A κ it))(hk:kindOf st=κ)(M:MH k n la lb)(dj:∀y∈lb,∀x∈la.drop (la.length - 1),le k y x){ro:List Nat}{i j g:Nat}(hI:I s)(h:MI k la lb ro i j)(hi:i+1<la.length)(hj:j<lb.length):
  kasC (model prog w) A E (forIn [0:(ar it la).size+(ar it lb).size] ((none,ar it ro,i,j,0,0):C1) fun _=>lo1 (ar it la) (ar it lb) g)
   (fun c bc s'=>bc=st∧I s'∧((∃r c',c=(some (ar it r),c')∧sX k la lb r)∨∃ro i' j' u v,c=(none,ar it ro,i',j',u,v)∧MI k la lb ro i' j'∧i'+1<la.length∧j'<lb.length∧(la.length - i')+(lb.length - j') < (la.length - i)+(lb.length - j))) st s:=by
 refine br (fun m c bc s'=>bc=st∧I s'∧∃ro i' j' u v,c=(none,ar it ro,i',j',u,v)∧MI k la lb ro i' j'∧i'+1<la.length∧j'<lb.length∧(la.length - i')+(lb.length - j')≤m∧(la.length - i')+(lb.length - j')≤(la.length - i)+(lb.length - j)) ⟨rfl,hI,ro,i,j,0,0,rfl,h,hi,hj,by rw[ba,ba];omega,by omega⟩ ?_ ?_
 ·rintro c bc s' ⟨_,_,ro,i,j,u,v,_,_,_,_,_,_⟩
  omega
 ·rintro x m c bc s' ⟨rfl,i1,ro,i',j',u,v,rfl,i2,i3,i4,i5,i6⟩
  unfold lo1
  dsimp only
  refine kasC_bind (el (by omega) (kasC_bind (el (by omega) (kasC_bind (tY hc (dc M.nb (by omega)) (dc M.na (by omega)) hk i1 fun s2 fJ=>?_)))))
  dsimp only
  cases e:O.blt (k (lb.getD j' 0)) (k (la.getD i' 0)) with
  |true=>
   rw[if_pos rfl]
   refine kasC_bind (el (by omega) ?_)
   rw[jR]
   have h':=i2.vf M.sb i4 fun y hy=>le.trans (le_of_lt e) (fz M.sa (by omega) y hy)
   by_cases M9:j'+1=lb.length
   ·rw[if_pos (gg (by rw[ba];exact M9)),ni]
    exact kasC_pure ⟨rfl,fJ, .inl ⟨_,_,rfl,h'.dn M.sa M.sb (.inl (by omega))⟩⟩
   ·rw[if_neg (gi (by rw[ba];exact M9))]
    by_cases hg:v+1≥g
    ·rw[if_pos hg]
     exact kasC_pure ⟨rfl,fJ, .inr ⟨_,_,_,_,_,rfl,h',i3,by omega,by omega⟩⟩
    ·rw[if_neg hg]
     exact kasC_pure ⟨rfl,fJ,_,_,_,_,_,rfl,h',i3,by omega,by omega,by omega⟩
  |false=>
   rw[if_neg (by simp)]
   refine kasC_bind (el (by omega) ?_)
   rw[jR]
   have h':=i2.zr M.sa (by omega) fun y hy=>le.trans (bZ e) (fz M.sb i4 y hy)
   by_cases rp:i'+1+1=la.length
   ·rw[if_pos (gg (by rw[ba];exact rp)),pY]
    exact kasC_pure ⟨rfl,fJ, .inl ⟨_,_,rfl,h'.la M.sa M.sb fun y hy x hx=>dj y (List.mem_of_mem_drop hy) x (by rw[show la.length - 1=i'+1 by omega];exact hx)⟩⟩
   ·rw[if_neg (gi (by rw[ba];exact rp))]
    by_cases hg:u+1≥g
    ·rw[if_pos hg]
     exact kasC_pure ⟨rfl,fJ, .inr ⟨_,_,_,_,_,rfl,h',by omega,i4,by omega⟩⟩
    ·rw[if_neg hg]
     exact kasC_pure ⟨rfl,fJ,_,_,_,_,_,rfl,h',by omega,i4,by omega,by omega⟩
def G2(it:Array Keyed)(k:Nat→O.α)(la lb:List Nat)(rem:Nat)(r:ForInStep C2):Prop:=(∃r' c',r= .done (some (ar it r'),c')∧sX k la lb r')∨∃ro i j g u v,(r= .done (none,ar it ro,i,j,g,u,v)∨r= .yield (none,ar it ro,i,j,g,u,v))∧MI k la lb ro i j∧i+1<la.length∧j<lb.length∧(la.length - i)+(lb.length - j) <rem
theorem zw(M:MH k n la lb)(dj:∀y∈lb,∀x∈la.drop (la.length - 1),le k y x){ro:List Nat}{i j g u v rem:Nat}(hI:I s)(h:MI k la lb ro i j)(hi:i+1<la.length)(hj:j<lb.length)(hb:∀y∈lb.drop j,le k (la.getD i 0) y)(hr:(la.length - i)+(lb.length - j)≤rem):
  kasC (model prog w) A E (UR (ar it la) (ar it lb) (ar it ro) i j g u v) (fun r bc s'=>bc=st∧I s'∧G2 it k la lb rem r) st s:=by
 unfold UR
 refine kasC_bind (el (by omega) ?_)
 rw[jR]
 have h':=h.zr M.sa (by omega) hb
 by_cases rp:i+1+1=la.length
 ·rw[if_pos (gg (by rw[ba];exact rp)),pY]
  exact kasC_pure ⟨rfl,hI, .inl ⟨_,_,rfl,h'.la M.sa M.sb fun y hy x hx=>dj y (List.mem_of_mem_drop hy) x (by rw[show la.length - 1=i+1 by omega];exact hx)⟩⟩
 ·rw[if_neg (gi (by rw[ba];exact rp))]
  split
  ·exact kasC_pure ⟨rfl,hI, .inr ⟨_,_,_,_,_,_, .inl rfl,h',by omega,hj,by omega⟩⟩
  ·exact kasC_pure ⟨rfl,hI, .inr ⟨_,_,_,_,_,_, .inr rfl,h',by omega,hj,by omega⟩⟩
theorem mj{l:List Nat}{i t:Nat}(h:i+t<l.length)(sl:gf k l):∀y∈l.drop (i+t),le k (l.getD (i+t) 0) y:=fz sl h
theorem zx(hc:dN O k n I (kas_cmp prog w A κ it))(hk:kindOf st=κ)(M:MH k n la lb)(dj:∀y∈lb,∀x∈la.drop (la.length - 1),le k y x){ro:List Nat}{i j g u v rem:Nat}(hI:I s)(h:MI k la lb ro i j)(hi:i+1<la.length)(hj:j<lb.length)(ha:∀y∈la.drop i,le k (lb.getD j 0) y)(hr:(la.length - i)+(lb.length - j)≤rem):
  kasC (model prog w) A E (US (ar it la) (ar it lb) (ar it ro) i j g u v) (fun r bc s'=>bc=st∧I s'∧G2 it k la lb rem r) st s:=by
 unfold US
 refine kasC_bind (el (by omega) ?_)
 rw[jR]
 have h':=h.vf M.sb hj ha
 by_cases M9:j+1=lb.length
 ·rw[if_pos (gg (by rw[ba];exact M9)),ni]
  exact kasC_pure ⟨rfl,hI, .inl ⟨_,_,rfl,h'.dn M.sa M.sb (.inl (by omega))⟩⟩
 rw[if_neg (gi (by rw[ba];exact M9))]
 refine kasC_bind (el (by omega) (kasC_bind ?_))
 rw[ba]
 refine M8 hc hk M.nb (dc M.na (by omega)) M.sb (by omega) (by omega) hI fun c s' f' oz g1 g2=>?_
 dsimp only
 by_cases wN:c>0
 ·rw[if_pos wN,iD,show j+1+c - (j+1)=c by omega,fB]
  have h2:=h'.zv M.sb c (by omega) fun t ht y hy=>le.trans (le_of_lt (g1 t ht)) (fz M.sa (by omega) y hy)
  by_cases UT:j+1+c=lb.length
  ·rw[if_pos (gg UT),ni]
   exact kasC_pure ⟨rfl,f', .inl ⟨_,_,rfl,h2.dn M.sa M.sb (.inl (by omega))⟩⟩
  ·rw[if_neg (gi UT)]
   exact zw M dj f' h2 hi (by omega) (fun y hy=>le.trans (g2 c (Nat.le_refl _) (by omega)) (mj (by omega) M.sb y hy)) (by omega)
 ·rw[if_neg wN]
  exact zw M dj f' h' hi (by omega) (fun y hy=>le.trans (g2 0 (by omega) (by omega)) (mj (t:=0) (by omega) M.sb y hy)) (by omega)
def kQ(st:SortSt)(g:Nat):SortSt:=SortSt.mk' (kindOf st) (arrOf st) (pendingOf st) g (failedOf st)
theorem HK(hc:dN O k n I (kas_cmp prog w A κ it))(hk:kindOf st=κ)(M:MH k n la lb)(dj:∀y∈lb,∀x∈la.drop (la.length - 1),le k y x){ro:List Nat}{i j g u v rem:Nat}(hI:I s)(h:MI k la lb ro i j)(hi:i+1<la.length)(hj:j<lb.length)(hr:(la.length - i)+(lb.length - j)≤rem):
  kasC (model prog w) A E (M6 (ar it la) (ar it lb) (ar it ro) i j g u v) (fun r bc s'=>bc=kQ st g∧I s'∧G2 it k la lb rem r) st s:=by
 unfold M6 gd
 refine kasC_bind (kasC_modify (kasC_bind (el (by omega) (kasC_bind ?_))))
 rw[ba]
 refine M7 hc hk M.na (dc M.nb (by omega)) M.sa (by omega) (by omega) hI fun c s' f' oz g1 g2=>?_
 dsimp only
 by_cases wN:c>0
 ·rw[if_pos wN,iD,show i+c - i=c by omega,fB]
  have h2:=h.zu M.sa c (by omega) fun t ht y hy=>le.trans (g1 t ht) (fz M.sb (by omega) y hy)
  by_cases rp:i+c+1=la.length
  ·rw[if_pos (gg rp),pY]
   exact kasC_pure ⟨rfl,f', .inl ⟨_,_,rfl,h2.la M.sa M.sb fun y hy x hx=>dj y (List.mem_of_mem_drop hy) x (by rw[show la.length - 1=i+c by omega];exact hx)⟩⟩
  ·rw[if_neg (gi rp)]
   by_cases tR:i+c=la.length
   ·rw[if_pos (gg tR),ni]
    exact kasC_pure ⟨rfl,f', .inl ⟨_,_,rfl,h2.dn M.sa M.sb (.inr (by omega))⟩⟩
   ·rw[if_neg (gi tR)]
    exact zx (st:=kQ st g) (rem:=rem) hc hk M dj f' h2 (by omega) hj (fun y hy=>le.trans (le_of_lt (g2 c (Nat.le_refl _) (by omega))) (mj (by omega) M.sa y hy)) (by omega)
 ·rw[if_neg wN]
  exact zx (st:=kQ st g) (rem:=rem) hc hk M dj f' h hi hj (fun y hy=>le.trans (le_of_lt (g2 0 (by omega) (by omega))) (mj (t:=0) (by omega) M.sa y hy)) hr
theorem HL(hc:dN O k n I (kas_cmp prog w A κ it))(hk:kindOf st=κ)(M:MH k n la lb)(dj:∀y∈lb,∀x∈la.drop (la.length - 1),le k y x){ro:List Nat}{i j g u v:Nat}(hI:I s)(h:MI k la lb ro i j)(hi:i+1<la.length)(hj:j<lb.length):
  kasC (model prog w) A E (forIn [0:(ar it la).size+(ar it lb).size] ((none,ar it ro,i,j,g,u,v):C2) fun _=>WK (ar it la) (ar it lb))
   (fun c bc s'=>(∃g',bc=kQ st g')∧I s'∧((∃r c',c=(some (ar it r),c')∧sX k la lb r)∨∃ro i' j' g u v,c=(none,ar it ro,i',j',g,u,v)∧MI k la lb ro i' j'∧i'+1<la.length∧j'<lb.length∧(la.length - i')+(lb.length - j') < (la.length - i)+(lb.length - j))) st s:=by
 refine br (fun m c bc s'=>(∃g',bc=kQ st g')∧I s'∧∃ro i' j' g u v,c=(none,ar it ro,i',j',g,u,v)∧MI k la lb ro i' j'∧i'+1<la.length∧j'<lb.length∧(la.length - i')+(lb.length - j')≤m∧(la.length - i')+(lb.length - j')≤(la.length - i)+(lb.length - j)) ⟨⟨gallopOf st,rfl⟩,hI,ro,i,j,g,u,v,rfl,h,hi,hj,by rw[ba,ba];omega,by omega⟩ ?_ ?_
 ·rintro c bc s' ⟨_,_,ro,i,j,g,u,v,_,_,_,_,_,_⟩
  omega
 ·rintro x m c bc s' ⟨⟨g0,rfl⟩,i1,ro,i',j',g,u,v,rfl,i2,i3,i4,i5,i6⟩
  unfold WK
  dsimp only
  have one:∀g' {R:ForInStep C2→SortSt→Shared→Prop},(∀r h8 s2,h8=kQ st g'→I s2→G2 it k la lb ((la.length - i')+(lb.length - j')) r→R r h8 s2)→kasC (model prog w) A E (M6 (ar it la) (ar it lb) (ar it ro) i' j' g' u v) R (kQ st g0) s':=fun g' R hR=>
   bP (HK hc (st:=kQ st g0) hk M dj i1 i2 i3 i4 (Nat.le_refl _)) fun r h8 s2 ⟨e1,e2,e3⟩=>hR r h8 s2 e1 e2 e3
  split
  all_goals
   refine one _ fun r h8 s2 e1 e2 e3=>?_
   subst e1
   rcases e3 with ⟨r',c',rfl,hm⟩ | ⟨ro,a,b,g,u,v,e4,e5,e6,e7,e8⟩
   ·exact⟨⟨_,rfl⟩,e2, .inl ⟨r',c',rfl,hm⟩⟩
   ·rcases e4 with rfl|rfl
    ·exact⟨⟨_,rfl⟩,e2, .inr ⟨ro,a,b,g,u,v,rfl,e5,e6,e7,by omega⟩⟩
    ·exact⟨⟨_,rfl⟩,e2,ro,a,b,g,u,v,rfl,e5,e6,e7,by omega,by omega⟩
theorem HM(hc:dN O k n I (kas_cmp prog w A κ it))(hk:kindOf st=κ)(M:MH k n la lb)(dj:∀y∈lb,∀x∈la.drop (la.length - 1),le k y x)(ha:0<la.length)(hb:0<lb.length)(h0:le k (lb.getD 0 0) (la.getD 0 0)){Q:Ar→SortSt→Shared→Prop}(hI:I s)
  (q:∀r g s',I s'→sX k la lb r→Q (ar it r) (kQ st g) s'):kasC (model prog w) A E (jO (ar it la) (ar it lb)) Q st s:=by
 rw[HI]
 refine kasC_bind (kasC_lift (wpAny_rule (kasC_bind (el hb ?_))))
 have e1:(#[kas_item it (lb.getD 0 0)]:Ar)=ar it [lb.getD 0 0]:=by simp [ar]
 rw[e1]
 have m0:MI k la lb [] 0 0:=⟨by simp,List.Pairwise.nil,fun x hx=>(by cases hx),fun x hx=>(by cases hx)⟩
 have m1:MI k la lb [lb.getD 0 0] 0 1:=m0.vf M.sb hb fun y hy=>le.trans h0 (fz M.sa ha y hy)
 by_cases kn:1=lb.length
 ·rw[if_pos (gg (by rw[ba];exact kn)),ni]
  exact kasC_pure (q _ (gallopOf st) s hI (m1.dn M.sa M.sb (.inl (by omega))))
 rw[if_neg (gi (by rw[ba];exact kn))]
 by_cases ZE:0+1=la.length
 ·rw[if_pos (gg (by rw[ba];exact ZE)),pY]
  exact kasC_pure (q _ (gallopOf st) s hI (m1.la M.sa M.sb fun y hy x hx=>dj y (List.mem_of_mem_drop hy) x (by rw[show la.length - 1=0 by omega];exact hx)))
 rw[if_neg (gi (by rw[ba];exact ZE))]
 refine kasC_bind (kasC_get (kasC_bind (bP (Q:=fun c bc s'=>(∃g',bc=kQ st g')∧I s'∧∃r c',c=(some (ar it r),c')∧sX k la lb r) (br (fun m c bc s'=>(∃g',bc=kQ st g')∧I s'∧∃ro i j g,c=(none,ar it ro,i,j,g)∧MI k la lb ro i j∧i+1<la.length∧j<lb.length∧(la.length - i)+(lb.length - j)≤m) ⟨⟨gallopOf st,rfl⟩,hI,_,_,_,_,rfl,m1,by omega,by omega,by rw[ba,ba];omega⟩ ?_ ?_) ?_)))
 ·rintro c bc s' ⟨_,_,ro,i,j,g,_,_,_,_,_⟩
  omega
 ·rintro x m c bc s' ⟨⟨g0,rfl⟩,i1,ro,i,j,g,rfl,i2,i3,i4,i5⟩
  unfold WL
  refine kasC_bind (bP (HJ hc (st:=kQ st g0) hk M dj i1 i2 i3 i4) fun d h8 s2 ⟨e1,e2,e3⟩=>?_)
  subst e1
  rcases e3 with ⟨r,c',rfl,hm⟩ | ⟨ro,i',j',u,v,rfl,e5,e6,e7,e8⟩
  ·exact kasC_pure ⟨⟨g0,rfl⟩,e2,r,_,rfl,hm⟩
  ·refine kasC_bind (kasC_lift (wpAny_rule (kasC_bind (bP (HL hc (st:=kQ st g0) hk M dj e2 e5 e6 e7) fun f yt s3 ⟨⟨g1,f1⟩,f2,f3⟩=>?_))))
   subst f1
   rcases f3 with ⟨r,c',rfl,hm⟩ | ⟨ro,Fu,WM,g2,u2,v2,rfl,f5,f6,f7,f8⟩
   ·exact kasC_pure ⟨⟨g1,rfl⟩,f2,r,_,rfl,hm⟩
   ·dsimp only at e8 f8
    exact kasC_bind (kasC_modify (kasC_pure ⟨⟨g2+1,rfl⟩,f2,ro,Fu,WM,_,rfl,f5,f6,f7,by omega⟩))
 ·rintro c bc s' ⟨⟨g',rfl⟩,i1,r,c',rfl,hm⟩
  exact kasC_pure (q r g' s' i1 hm)
end
end L2
namespace L2
open PySem PySem.Spec PyProof.Rows PySem.W
def Bm(a b o:Ar)(i j:Nat):Ar:=a.extract 0 i++b.extract 0 j++o.reverse
def LD(a b o:Ar)(i j:Nat):Ar:=b.extract 0 j++a.extract 0 i++o.reverse
abbrev D1:=Option Ar×Nat×Nat×Ar×Nat×Nat
abbrev D2:=Option Ar×Nat×Nat×Ar×Nat×Nat×Nat
abbrev D3:=Option Ar×Nat×Nat×Ar×Nat
def rp(a b:Ar)(g:Nat)(c:D1):SM (ForInStep D1):=do
 let x←elem' b (c.2.2.1 - 1)
 let y←elem' a (c.2.1 - 1)
 match←lt' x y with
 |some d=>
  if d=true then do
   let e←elem' a (c.2.1 - 1)
   if (c.2.1 - 1==0)=true then pure (.done (some (Bm a b (c.2.2.2.1.push e) (c.2.1 - 1) c.2.2.1),c.2.1 - 1,c.2.2.1,c.2.2.2.1.push e,c.2.2.2.2.1+1,0))
   else if c.2.2.2.2.1+1≥g then pure (.done (none,c.2.1 - 1,c.2.2.1,c.2.2.2.1.push e,c.2.2.2.2.1+1,0))
   else pure (.yield (none,c.2.1 - 1,c.2.2.1,c.2.2.2.1.push e,c.2.2.2.2.1+1,0))
  else do
   let e←elem' b (c.2.2.1 - 1)
   if (c.2.2.1 - 1==1)=true then pure (.done (some (LD a b (c.2.2.2.1.push e) c.2.1 (c.2.2.1 - 1)),c.2.1,c.2.2.1 - 1,c.2.2.2.1.push e,0,c.2.2.2.2.2+1))
   else if c.2.2.2.2.2+1≥g then pure (.done (none,c.2.1,c.2.2.1 - 1,c.2.2.2.1.push e,0,c.2.2.2.2.2+1))
   else pure (.yield (none,c.2.1,c.2.2.1 - 1,c.2.2.2.1.push e,0,c.2.2.2.2.2+1))
 |_=>pure (.done (some (Bm a b c.2.2.2.1 c.2.1 c.2.2.1),c.2.1,c.2.2.1,c.2.2.2.1,c.2.2.2.2.1,c.2.2.2.2.2))
def M'(a b:Ar)(i j:Nat)(o:Ar)(g u v:Nat):SM (ForInStep D2):=do
 let e←elem' a (i - 1)
 if (i - 1==0)=true then pure (.done (some (Bm a b (o.push e) (i - 1) j),i - 1,j,o.push e,g,u,v))
 else if (decide (u<7)&&decide (v<7))=true then pure (.done (none,i - 1,j,o.push e,g,u,v))
 else pure (.yield (none,i - 1,j,o.push e,g,u,v))
def UU(a b:Ar)(i j:Nat)(o:Ar)(g u v:Nat):SM (ForInStep D2):=do
 let e←elem' b (j - 1)
 if (j - 1==1)=true then pure (.done (some (LD a b (o.push e) i (j - 1)),i,j - 1,o.push e,g,u,v))
 else do
  let y←elem' a (i - 1)
  match←cj true y b 0 (j - 1) (j - 1 - 1) with
  |some p=>
   if j - 1 - p>0 then
    if (p==1)=true then pure (.done (some (LD a b (o.push e++(b.extract p (j - 1)).reverse) i p),i,p,o.push e++(b.extract p (j - 1)).reverse,g,u,j - 1 - p))
    else if (p==0)=true then pure (.done (some (Bm a b (o.push e++(b.extract p (j - 1)).reverse) i p),i,p,o.push e++(b.extract p (j - 1)).reverse,g,u,j - 1 - p))
    else M' a b i p (o.push e++(b.extract p (j - 1)).reverse) g u (j - 1 - p)
   else M' a b i (j - 1) (o.push e) g u (j - 1 - p)
  |_=>pure (.done (some (Bm a b (o.push e) i (j - 1)),i,j - 1,o.push e,g,u,v))
def tR(a b:Ar)(i j:Nat)(o:Ar)(g u v:Nat):SM (ForInStep D2):=do
 gd g
 let x←elem' b (j - 1)
 match←cj false x a 0 i (i - 1) with
 |some p=>
  if i - p>0 then
   if (p==0)=true then pure (.done (some (Bm a b (o++(a.extract p i).reverse) p j),p,j,o++(a.extract p i).reverse,g,i - p,v))
   else UU a b p j (o++(a.extract p i).reverse) g (i - p) v
  else UU a b i j o g (i - p) v
 |_=>pure (.done (some (Bm a b o i j),i,j,o,g,u,v))
def UW(a b:Ar)(c:D2):SM (ForInStep D2):=if c.2.2.2.2.1>1 then tR a b c.2.1 c.2.2.1 c.2.2.2.1 (c.2.2.2.2.1 - 1) c.2.2.2.2.2.1 c.2.2.2.2.2.2 else tR a b c.2.1 c.2.2.1 c.2.2.2.1 c.2.2.2.2.1 c.2.2.2.2.2.1 c.2.2.2.2.2.2
def WN(a b:Ar)(c:D3):SM (ForInStep D3):=do
 let d←forIn [0:a.size+b.size] ((none,c.2.1,c.2.2.1,c.2.2.2.1,0,0):D1) fun _=>rp a b c.2.2.2.2
 oC d.1 (fun r=>pure (.done (some r,d.2.1,d.2.2.1,d.2.2.2.1,c.2.2.2.2))) do
  rule "list.sort.gallop"
  let f←forIn [0:a.size+b.size] ((none,d.2.1,d.2.2.1,d.2.2.2.1,c.2.2.2.2+1,d.2.2.2.2.1,d.2.2.2.2.2):D2) fun _=>UW a b
  oC f.1 (fun r=>pure (.done (some r,f.2.1,f.2.2.1,f.2.2.2.1,f.2.2.2.2.1))) do
   gd (f.2.2.2.2.1+1)
   pure (.yield (none,f.2.1,f.2.2.1,f.2.2.2.1,f.2.2.2.2.1+1))
theorem Cr(a b:Array Keyed):jP a b=(do
  rule "list.sort.merge-hi"
  let tt:=a.size+b.size
  let dn (o:Array Keyed) (i j:Nat):=a.extract 0 i++b.extract 0 j++o.reverse
  let fb (o:Array Keyed) (i j:Nat):=b.extract 0 j++a.extract 0 i++o.reverse
  let mut i:=a.size - 1
  let mut j:=b.size
  let mut o:Array Keyed:=#[←elem' a i]
  if i==0 then return dn o i j
  if j==1 then return fb o i j
  let mut g:=gallopOf (←get)
  for _ in [0:tt] do
   let mut u:=0
   let mut v:=0
   for _ in [0:tt] do
    let some c←lt' (←elem' b (j - 1)) (←elem' a (i - 1)) |return dn o i j
    if c then
     i:=i - 1
     o:=o.push (←elem' a i)
     u:=u+1
     v:=0
     if i==0 then return dn o i j
     if u≥g then break
    else
     j:=j - 1
     o:=o.push (←elem' b j)
     v:=v+1
     u:=0
     if j==1 then return fb o i j
     if v≥g then break
   rule "list.sort.gallop"
   g:=g+1
   for _ in [0:tt] do
    if g>1 then g:=g - 1
    gd g
    let some p←cj false (←elem' b (j - 1)) a 0 i (i - 1) |return dn o i j
    let c:=i - p
    u:=c
    if c>0 then
     o:=o++(a.extract p i).reverse
     i:=p
     if i==0 then return dn o i j
    j:=j - 1
    o:=o.push (←elem' b j)
    if j==1 then return fb o i j
    let some p←cj true (←elem' a (i - 1)) b 0 j (j - 1) |return dn o i j
    let c:=j - p
    v:=c
    if c>0 then
     o:=o++(b.extract p j).reverse
     j:=p
     if j==1 then return fb o i j
     if j==0 then return dn o i j
    i:=i - 1
    o:=o.push (←elem' a i)
    if i==0 then return dn o i j
    if u<7&&v<7 then break
   g:=g+1
   gd g
  unsupported "internal:list.sort.merge-bound"):=rfl
theorem HN(a b:Array Keyed):jP a b=(do
  rule "list.sort.merge-hi"
  let e←elem' a (a.size - 1)
  if (a.size - 1==0)=true then pure (Bm a b #[e] (a.size - 1) b.size)
  else if (b.size==1)=true then pure (LD a b #[e] (a.size - 1) b.size)
  else do
   let s←get
   let c←forIn [0:a.size+b.size] ((none,a.size - 1,b.size,#[e],gallopOf s):D3) fun _=>WN a b
   oC c.1 (fun r=>pure r) (unsupported "internal:list.sort.merge-bound")):=by
 rw[Cr]
 dsimp only
 congr 1
 funext _
 congr 1
 funext e
 congr 1
 congr 1
 congr 1
 funext s
 congr 1
 ·congr 1
  funext x c
  unfold WN
  congr 1
  funext d
  obtain⟨r,o,i,j,u,v⟩:=d
  cases r with
  |some r=>rfl
  |none=>
   dsimp only [oC]
   congr 1
   funext _
   congr 1
   funext f
   obtain⟨r,o,i,j,g,u,v⟩:=f
   cases r<;>rfl
 ·funext c
  obtain⟨r,o⟩:=c
  cases r<;>rfl
end L2
namespace L2
open PySem PySem.Spec PyProof.Rows PySem.W
section
variable {O:KeyOrd}{k:Nat→O.α}
theorem gO{l:List Nat}{i:Nat}(h:i<l.length):l.take (i+1)=l.take i++[l.getD i 0]:=by
 have:=jQ (l:=l) (i:=0) (c:=i) (by omega)
 rwa [List.drop_zero,Nat.zero_add] at this
theorem iE{l:List Nat}(hs:gf k l){i:Nat}(h:i<l.length):∀y∈l.take i,le k y (l.getD i 0):=by
 have:gf k (l.take (i+1)):=hs.take
 rw[gO h] at this
 exact fun y hy=>(List.pairwise_append.mp this).2.2 y hy _ (List.mem_singleton.mpr rfl)
structure MJ(k:Nat→O.α)(la lb ro:List Nat)(i j:Nat):Prop where
 perm:(la.take i++lb.take j++ro).Perm (la++lb)
 Cq:gf k ro
 ra:∀x∈la.take i,∀y∈ro,le k x y
 rb:∀x∈lb.take j,∀y∈ro,le k x y
theorem MJ.vg{la lb ro:List Nat}{i j:Nat}(h:MJ k la lb ro (i+1) j)(sa:gf k la)(hi:i<la.length)(hb:∀y∈lb.take j,le k y (la.getD i 0)):MJ k la lb (la.getD i 0::ro) i j:=by
 have ht:=gO hi
 have Na:la.getD i 0∈la.take (i+1):=by rw[ht];simp
 refine⟨?_,List.pairwise_cons.mpr ⟨h.ra _ Na,h.Cq⟩,fun x hx y hy=>?_,fun x hx y hy=>?_⟩
 ·refine List.Perm.trans ?_ h.perm
  rw[ht]
  have e1:(la.take i++lb.take j++la.getD i 0::ro).Perm (la.getD i 0::(la.take i++lb.take j++ro)):=List.perm_middle
  have e2:(la.take i++la.getD i 0::(lb.take j++ro)).Perm (la.getD i 0::(la.take i++(lb.take j++ro))):=List.perm_middle
  refine e1.trans ?_
  rw[List.append_assoc]
  refine e2.symm.trans ?_
  simp
 ·rcases List.mem_cons.mp hy with rfl|hy
  ·exact iE sa hi x hx
  ·exact h.ra x (by rw[ht];exact List.mem_append_left _ hx) y hy
 ·rcases List.mem_cons.mp hy with rfl|hy
  ·exact hb x hx
  ·exact h.rb x hx y hy
theorem MJ.zy{la lb ro:List Nat}{i j:Nat}(h:MJ k la lb ro i (j+1))(sb:gf k lb)(hj:j<lb.length)(ha:∀y∈la.take i,le k y (lb.getD j 0)):MJ k la lb (lb.getD j 0::ro) i j:=by
 have ht:=gO hj
 have Na:lb.getD j 0∈lb.take (j+1):=by rw[ht];simp
 refine⟨?_,List.pairwise_cons.mpr ⟨h.rb _ Na,h.Cq⟩,fun x hx y hy=>?_,fun x hx y hy=>?_⟩
 ·have:=h.perm
  rw[ht] at this
  simpa using this
 ·rcases List.mem_cons.mp hy with rfl|hy
  ·exact ha x hx
  ·exact h.ra x hx y hy
 ·rcases List.mem_cons.mp hy with rfl|hy
  ·exact iE sb hj x hx
  ·exact h.rb x (by rw[ht];exact List.mem_append_left _ hx) y hy
theorem MJ.zz{la lb:List Nat}{j p:Nat}(sa:gf k la):∀c {ro:List Nat},MJ k la lb ro (p+c) j→p+c≤la.length→(∀t,t<c→∀y∈lb.take j,le k y (la.getD (p+t) 0))→MJ k la lb ((la.drop p).take c++ro) p j
 |0,ro,h,_,_=>by rw[List.take_zero,List.nil_append];exact h
 |c+1,ro,h,hc,hb=>by
  rw[jQ (by omega),List.append_assoc]
  exact MJ.zz sa c (MJ.vg (i:=p+c) h sa (by omega) (hb c (by omega))) (by omega) fun t ht=>hb t (by omega)
theorem MJ.zA{la lb:List Nat}{i p:Nat}(sb:gf k lb):∀c {ro:List Nat},MJ k la lb ro i (p+c)→p+c≤lb.length→(∀t,t<c→∀y∈la.take i,le k y (lb.getD (p+t) 0))→MJ k la lb ((lb.drop p).take c++ro) i p
 |0,ro,h,_,_=>by rw[List.take_zero,List.nil_append];exact h
 |c+1,ro,h,hc,ha=>by
  rw[jQ (by omega),List.append_assoc]
  exact MJ.zA sb c (MJ.zy (j:=p+c) h sb (by omega) (ha c (by omega))) (by omega) fun t ht=>ha t (by omega)
theorem MJ.dn{la lb ro:List Nat}{i j:Nat}(h:MJ k la lb ro i j)(sa:gf k la)(sb:gf k lb)(e:i=0∨j=0):sX k la lb (la.take i++lb.take j++ro):=by
 refine⟨h.perm,List.pairwise_append.mpr ⟨List.pairwise_append.mpr ⟨sa.take,sb.take,fun x hx y hy=>?_⟩,h.Cq,fun x hx y hy=>?_⟩⟩
 ·rcases e with rfl|rfl
  ·cases hx
  ·cases hy
 ·rcases List.mem_append.mp hx with z|z
  ·exact h.ra x z y hy
  ·exact h.rb x z y hy
theorem MJ.fb{la lb ro:List Nat}{i j:Nat}(h:MJ k la lb ro i j)(sa:gf k la)(sb:gf k lb)(e:∀y∈lb.take j,∀x∈la.take i,le k y x):sX k la lb (lb.take j++la.take i++ro):=by
 refine⟨(List.Perm.append_right _ List.perm_append_comm).trans h.perm,List.pairwise_append.mpr ⟨List.pairwise_append.mpr ⟨sb.take,sa.take,e⟩,h.Cq,fun x hx y hy=>?_⟩⟩
 rcases List.mem_append.mp hx with z|z
 ·exact h.rb x z y hy
 ·exact h.ra x z y hy
end
section
variable {it:Array Keyed}
theorem mn(l:List Nat)(i:Nat):(ar it l).extract 0 i=ar it (l.take i):=by rw[iD,List.drop_zero,Nat.sub_zero]
theorem tZ(l:List Nat):(ar it l).reverse=ar it l.reverse:=by simp [ar]
theorem mq(ro:List Nat)(x:Nat):(ar it ro.reverse).push (kas_item it x)=ar it (x::ro).reverse:=by rw[jR,List.reverse_cons]
theorem zB(ro l:List Nat):ar it ro.reverse++(ar it l).reverse=ar it (l++ro).reverse:=by rw[tZ,fB,List.reverse_append]
theorem nr(la lb ro:List Nat)(i j:Nat):Bm (ar it la) (ar it lb) (ar it ro.reverse) i j=ar it (la.take i++lb.take j++ro):=by
 unfold Bm
 rw[mn,mn,tZ,List.reverse_reverse,fB,fB]
theorem pZ(la lb ro:List Nat)(i j:Nat):LD (ar it la) (ar it lb) (ar it ro.reverse) i j=ar it (lb.take j++la.take i++ro):=by
 unfold LD
 rw[mn,mn,tZ,List.reverse_reverse,fB,fB]
end
section
variable {prog:Program}{w:World}{A:Around}{E:Value→Shared→Prop}{κ:SortKind}{it:Array Keyed}{O:KeyOrd}{k:Nat→O.α}{n:Nat}{I:Shared→Prop}{s:Shared}{st:SortSt}{la lb:List Nat}
theorem vh{ro:List Nat}{i j:Nat}(h:MJ k la lb ro i j)(M:MH k n la lb)(hf:∀x∈la,le k (lb.getD 0 0) x)(hj:j=1)(hl:0<lb.length):sX k la lb (lb.take j++la.take i++ro):=by
 subst hj
 refine h.fb M.sa M.sb fun y hy x hx=>?_
 have e:=gO (l:=lb) (i:=0) hl
 rw[List.take_zero,List.nil_append] at e
 rw[e] at hy
 rw[List.mem_singleton.mp hy]
 exact hf x (List.mem_of_mem_take hx)
theorem HP(hc:dN O k n I (kas_cmp prog w A κ it))(hk:kindOf st=κ)(M:MH k n la lb)(hf:∀x∈la,le k (lb.getD 0 0) x){ro:List Nat}{i j g:Nat}(hI:I s)(h:MJ k la lb ro i j)(hi:0<i)(xX:i≤la.length)(hj:1<j)(wO:j≤lb.length):
  kasC (model prog w) A E (forIn [0:(ar it la).size+(ar it lb).size] ((none,i,j,ar it ro.reverse,0,0):D1) fun _=>rp (ar it la) (ar it lb) g)
   (fun c bc s'=>bc=st∧I s'∧((∃r c',c=(some (ar it r),c')∧sX k la lb r)∨∃ro i' j' u v,c=(none,i',j',ar it ro.reverse,u,v)∧MJ k la lb ro i' j'∧0<i'∧i'≤la.length∧1<j'∧j'≤lb.length∧i'+j'<i+j)) st s:=by
 refine br (fun m c bc s'=>bc=st∧I s'∧∃ro i' j' u v,c=(none,i',j',ar it ro.reverse,u,v)∧MJ k la lb ro i' j'∧0<i'∧i'≤la.length∧1<j'∧j'≤lb.length∧i'+j'≤m∧i'+j'≤i+j) ⟨rfl,hI,ro,i,j,0,0,rfl,h,hi,xX,hj,wO,by rw[ba,ba];omega,by omega⟩ ?_ ?_
 ·rintro c bc s' ⟨_,_,ro,i,j,u,v,_,_,_,_,_,_,_⟩
  omega
 ·rintro x m c bc s' ⟨rfl,i1,ro,i',j',u,v,rfl,i2,i3,LF,i4,Nb,i5,i6⟩
  obtain⟨a,rfl⟩:∃a,i'=a+1:=⟨i' - 1,by omega⟩
  obtain⟨b,rfl⟩:∃b,j'=b+1:=⟨j' - 1,by omega⟩
  unfold rp
  dsimp only
  simp only [Nat.add_sub_cancel]
  refine kasC_bind (el (by omega) (kasC_bind (el (by omega) (kasC_bind (tY hc (dc M.nb (by omega)) (dc M.na (by omega)) hk i1 fun s2 fJ=>?_)))))
  dsimp only
  cases e:O.blt (k (lb.getD b 0)) (k (la.getD a 0)) with
  |true=>
   rw[if_pos rfl]
   refine kasC_bind (el (by omega) ?_)
   rw[mq]
   have h':=i2.vg M.sa (by omega) fun y hy=>by
    rw[gO (by omega)] at hy
    rcases List.mem_append.mp hy with z|z
    ·exact le.trans (iE M.sb (by omega) y z) (le_of_lt e)
    ·rw[List.mem_singleton.mp z];exact le_of_lt e
   by_cases wQ:a=0
   ·rw[if_pos (gg wQ),nr]
    exact kasC_pure ⟨rfl,fJ, .inl ⟨_,_,rfl,h'.dn M.sa M.sb (.inl wQ)⟩⟩
   ·rw[if_neg (gi wQ)]
    by_cases hg:u+1≥g
    ·rw[if_pos hg]
     exact kasC_pure ⟨rfl,fJ, .inr ⟨_,_,_,_,_,rfl,h',by omega,by omega,i4,Nb,by omega⟩⟩
    ·rw[if_neg hg]
     exact kasC_pure ⟨rfl,fJ,_,_,_,_,_,rfl,h',by omega,by omega,i4,Nb,by omega,by omega⟩
  |false=>
   rw[if_neg (by simp)]
   refine kasC_bind (el (by omega) ?_)
   rw[mq]
   have h':=i2.zy M.sb (by omega) fun y hy=>by
    rw[gO (by omega)] at hy
    rcases List.mem_append.mp hy with z|z
    ·exact le.trans (iE M.sa (by omega) y z) (bZ e)
    ·rw[List.mem_singleton.mp z];exact bZ e
   by_cases kn:b=1
   ·rw[if_pos (gg kn),pZ]
    exact kasC_pure ⟨rfl,fJ, .inl ⟨_,_,rfl,vh h' M hf kn (by omega)⟩⟩
   ·rw[if_neg (gi kn)]
    by_cases hg:v+1≥g
    ·rw[if_pos hg]
     exact kasC_pure ⟨rfl,fJ, .inr ⟨_,_,_,_,_,rfl,h',i3,LF,by omega,by omega,by omega⟩⟩
    ·rw[if_neg hg]
     exact kasC_pure ⟨rfl,fJ,_,_,_,_,_,rfl,h',i3,LF,by omega,by omega,by omega,by omega⟩
end
end L2
namespace L2
open PySem PySem.Spec PyProof.Rows PySem.W
section
variable {prog:Program}{w:World}{A:Around}{E:Value→Shared→Prop}{κ:SortKind}{it:Array Keyed}{O:KeyOrd}{k:Nat→O.α}{n:Nat}{I:Shared→Prop}{s:Shared}{st:SortSt}{la lb:List Nat}
theorem jS{l:List Nat}{p y:Nat}(h:y∈l.take p):∃t,t<p∧t<l.length∧y=l.getD t 0:=by
 obtain⟨t,ht⟩:=List.mem_iff_getElem?.mp h
 rw[List.getElem?_take] at ht
 split at ht
 ·rename_i hp
  obtain⟨hl,e⟩:=List.getElem?_eq_some_iff.mp ht
  exact⟨t,hp,hl,by simp [List.getD,hl,e]⟩
 ·cases ht
theorem vi{l:List Nat}(hs:gf k l){a:Nat}(ha:a<l.length){y:Nat}(hy:y∈l.take (a+1)):le k y (l.getD a 0):=by
 rw[gO ha] at hy
 rcases List.mem_append.mp hy with z|z
 ·exact iE hs ha y z
 ·rw[List.mem_singleton.mp z];exact KeyOrd.kle_refl _
def G3(it:Array Keyed)(k:Nat→O.α)(la lb:List Nat)(rem:Nat)(r:ForInStep D2):Prop:=(∃r' c',r= .done (some (ar it r'),c')∧sX k la lb r')∨∃ro i j g u v,(r= .done (none,i,j,ar it ro.reverse,g,u,v)∨r= .yield (none,i,j,ar it ro.reverse,g,u,v))∧MJ k la lb ro i j∧0<i∧i≤la.length∧1<j∧j≤lb.length∧i+j<rem
theorem zC(M:MH k n la lb){ro:List Nat}{a j g u v rem:Nat}(hI:I s)(h:MJ k la lb ro (a+1) j)(ha:a<la.length)(hj:1<j)(wO:j≤lb.length)(hb:∀y∈lb.take j,le k y (la.getD a 0))(hr:a+1+j≤rem):
  kasC (model prog w) A E (M' (ar it la) (ar it lb) (a+1) j (ar it ro.reverse) g u v) (fun r bc s'=>bc=st∧I s'∧G3 it k la lb rem r) st s:=by
 unfold M'
 simp only [Nat.add_sub_cancel]
 refine kasC_bind (el (by omega) ?_)
 rw[mq]
 have h':=h.vg M.sa ha hb
 by_cases wQ:a=0
 ·rw[if_pos (gg wQ),nr]
  exact kasC_pure ⟨rfl,hI, .inl ⟨_,_,rfl,h'.dn M.sa M.sb (.inl wQ)⟩⟩
 ·rw[if_neg (gi wQ)]
  split
  ·exact kasC_pure ⟨rfl,hI, .inr ⟨_,_,_,_,_,_, .inl rfl,h',by omega,by omega,hj,wO,by omega⟩⟩
  ·exact kasC_pure ⟨rfl,hI, .inr ⟨_,_,_,_,_,_, .inr rfl,h',by omega,by omega,hj,wO,by omega⟩⟩
theorem zD(hc:dN O k n I (kas_cmp prog w A κ it))(hk:kindOf st=κ)(M:MH k n la lb)(hf:∀x∈la,le k (lb.getD 0 0) x){ro:List Nat}{a b g u v rem:Nat}(hI:I s)(h:MJ k la lb ro (a+1) (b+1))(ha:a<la.length)(kn:0<b)(hb:b<lb.length)(hle:∀y∈la.take (a+1),le k y (lb.getD b 0))(hr:a+1+(b+1)≤rem):
  kasC (model prog w) A E (UU (ar it la) (ar it lb) (a+1) (b+1) (ar it ro.reverse) g u v) (fun r bc s'=>bc=st∧I s'∧G3 it k la lb rem r) st s:=by
 unfold UU
 simp only [Nat.add_sub_cancel]
 refine kasC_bind (el (by omega) ?_)
 rw[mq]
 have h':=h.zy M.sb hb hle
 by_cases e1:b=1
 ·rw[if_pos (gg e1),pZ]
  exact kasC_pure ⟨rfl,hI, .inl ⟨_,_,rfl,vh h' M hf e1 (by omega)⟩⟩
 rw[if_neg (gi e1)]
 refine kasC_bind (el (by omega) (kasC_bind (M8 hc hk M.nb (dc M.na (by omega)) M.sb (by omega) (by omega) hI fun p s' f' hpm g1 g2=>?_)))
 dsimp only
 simp only [Nat.zero_add] at g1 g2
 by_cases Nc:b - p>0
 ·rw[if_pos Nc,iD,zB]
  have h2:=MJ.zA (p:=p) M.sb (b - p) (by rw[show p+(b - p)=b by omega];exact h') (by omega) fun t ht y hy=>le.trans (vi M.sa ha hy) (g2 (p+t) (by omega) (by omega))
  by_cases p1:p=1
  ·rw[if_pos (gg p1),pZ]
   exact kasC_pure ⟨rfl,f', .inl ⟨_,_,rfl,vh h2 M hf p1 (by omega)⟩⟩
  rw[if_neg (gi p1)]
  by_cases p0:p=0
  ·rw[if_pos (gg p0),nr]
   exact kasC_pure ⟨rfl,f', .inl ⟨_,_,rfl,h2.dn M.sa M.sb (.inr p0)⟩⟩
  rw[if_neg (gi p0)]
  refine zC (rem:=rem) M f' h2 ha (by omega) (by omega) (fun y hy=>?_) (by omega)
  obtain⟨t,t1,_,rfl⟩:=jS hy
  exact le_of_lt (g1 t t1)
 ·rw[if_neg Nc]
  refine zC (rem:=rem) M f' h' ha (by omega) (by omega) (fun y hy=>?_) (by omega)
  obtain⟨t,t1,_,rfl⟩:=jS hy
  exact le_of_lt (g1 t (by omega))
theorem HQ(hc:dN O k n I (kas_cmp prog w A κ it))(hk:kindOf st=κ)(M:MH k n la lb)(hf:∀x∈la,le k (lb.getD 0 0) x){ro:List Nat}{i b g u v rem:Nat}(hI:I s)(h:MJ k la lb ro i (b+1))(hi:0<i)(xX:i≤la.length)(kn:0<b)(hb:b<lb.length)(hr:i+(b+1)≤rem):
  kasC (model prog w) A E (tR (ar it la) (ar it lb) i (b+1) (ar it ro.reverse) g u v) (fun r bc s'=>bc=kQ st g∧I s'∧G3 it k la lb rem r) st s:=by
 unfold tR gd
 simp only [Nat.add_sub_cancel]
 refine kasC_bind (kasC_modify (kasC_bind (el (by omega) (kasC_bind (M7 hc hk M.na (dc M.nb (by omega)) M.sa (by omega) (by omega) hI fun p s' f' hpm g1 g2=>?_)))))
 dsimp only
 simp only [Nat.zero_add] at g1 g2
 have below:∀y∈la.take p,le k y (lb.getD b 0):=fun y hy=>by
  obtain⟨t,t1,_,rfl⟩:=jS hy
  exact g1 t t1
 by_cases Nc:i - p>0
 ·rw[if_pos Nc,iD,zB]
  have h2:=MJ.zz (p:=p) M.sa (i - p) (by rw[show p+(i - p)=i by omega];exact h) (by omega) fun t ht y hy=>le.trans (vi M.sb hb hy) (le_of_lt (g2 (p+t) (by omega) (by omega)))
  by_cases p0:p=0
  ·rw[if_pos (gg p0),nr]
   exact kasC_pure ⟨rfl,f', .inl ⟨_,_,rfl,h2.dn M.sa M.sb (.inl p0)⟩⟩
  rw[if_neg (gi p0)]
  obtain⟨a,rfl⟩:∃a,p=a+1:=⟨p - 1,by omega⟩
  exact zD (st:=kQ st g) (rem:=rem) hc hk M hf f' h2 (by omega) kn hb below (by omega)
 ·rw[if_neg Nc]
  have e:p=i:=by omega
  subst e
  obtain⟨a,rfl⟩:∃a,p=a+1:=⟨p - 1,by omega⟩
  exact zD (st:=kQ st g) (rem:=rem) hc hk M hf f' h (by omega) kn hb below hr
theorem HR(hc:dN O k n I (kas_cmp prog w A κ it))(hk:kindOf st=κ)(M:MH k n la lb)(hf:∀x∈la,le k (lb.getD 0 0) x){ro:List Nat}{i j g u v:Nat}(hI:I s)(h:MJ k la lb ro i j)(hi:0<i)(xX:i≤la.length)(hj:1<j)(wO:j≤lb.length):
  kasC (model prog w) A E (forIn [0:(ar it la).size+(ar it lb).size] ((none,i,j,ar it ro.reverse,g,u,v):D2) fun _=>UW (ar it la) (ar it lb))
   (fun c bc s'=>(∃g',bc=kQ st g')∧I s'∧((∃r c',c=(some (ar it r),c')∧sX k la lb r)∨∃ro i' j' g u v,c=(none,i',j',ar it ro.reverse,g,u,v)∧MJ k la lb ro i' j'∧0<i'∧i'≤la.length∧1<j'∧j'≤lb.length∧i'+j'<i+j)) st s:=by
 refine br (fun m c bc s'=>(∃g',bc=kQ st g')∧I s'∧∃ro i' j' g u v,c=(none,i',j',ar it ro.reverse,g,u,v)∧MJ k la lb ro i' j'∧0<i'∧i'≤la.length∧1<j'∧j'≤lb.length∧i'+j'≤m∧i'+j'≤i+j) ⟨⟨gallopOf st,rfl⟩,hI,ro,i,j,g,u,v,rfl,h,hi,xX,hj,wO,by rw[ba,ba];omega,by omega⟩ ?_ ?_
 ·rintro c bc s' ⟨_,_,ro,i,j,g,u,v,_,_,_,_,_,_,_⟩
  omega
 ·rintro x m c bc s' ⟨⟨g0,rfl⟩,i1,ro,i',j',g,u,v,rfl,i2,i3,LF,i4,Nb,i5,i6⟩
  obtain⟨b,rfl⟩:∃b,j'=b+1:=⟨j' - 1,by omega⟩
  unfold UW
  dsimp only
  have one:∀g' {R:ForInStep D2→SortSt→Shared→Prop},(∀r h8 s2,h8=kQ st g'→I s2→G3 it k la lb (i'+(b+1)) r→R r h8 s2)→kasC (model prog w) A E (tR (ar it la) (ar it lb) i' (b+1) (ar it ro.reverse) g' u v) R (kQ st g0) s':=fun g' R hR=>
   bP (HQ hc (st:=kQ st g0) hk M hf i1 i2 i3 LF (by omega) (by omega) (Nat.le_refl _)) fun r h8 s2 ⟨e1,e2,e3⟩=>hR r h8 s2 e1 e2 e3
  split
  all_goals
   refine one _ fun r h8 s2 e1 e2 e3=>?_
   subst e1
   rcases e3 with ⟨r',c',rfl,hm⟩ | ⟨ro,a,b,g,u,v,e4,e5,e6,UX,e7,UY,e8⟩
   ·exact⟨⟨_,rfl⟩,e2, .inl ⟨r',c',rfl,hm⟩⟩
   ·rcases e4 with rfl|rfl
    ·exact⟨⟨_,rfl⟩,e2, .inr ⟨ro,a,b,g,u,v,rfl,e5,e6,UX,e7,UY,by omega⟩⟩
    ·exact⟨⟨_,rfl⟩,e2,ro,a,b,g,u,v,rfl,e5,e6,UX,e7,UY,by omega,by omega⟩
theorem HS(hc:dN O k n I (kas_cmp prog w A κ it))(hk:kindOf st=κ)(M:MH k n la lb)(hf:∀x∈la,le k (lb.getD 0 0) x)(dj:∀y∈lb,∀x∈la.drop (la.length - 1),le k y x)(ha:0<la.length)(hb:0<lb.length){Q:Ar→SortSt→Shared→Prop}(hI:I s)
  (q:∀r g s',I s'→sX k la lb r→Q (ar it r) (kQ st g) s'):kasC (model prog w) A E (jP (ar it la) (ar it lb)) Q st s:=by
 rw[HN]
 obtain⟨a,ea⟩:∃a,la.length=a+1:=⟨la.length - 1,by omega⟩
 simp only [ba,ea,Nat.add_sub_cancel]
 refine kasC_bind (kasC_lift (wpAny_rule (kasC_bind (el (by omega) ?_))))
 have e1:(#[kas_item it (la.getD a 0)]:Ar)=ar it [la.getD a 0].reverse:=by simp [ar]
 rw[e1]
 have m0:MJ k la lb [] (a+1) lb.length:=⟨by rw[←ea,List.take_length,List.take_length,List.append_nil],List.Pairwise.nil,fun x _ y hy=>(by cases hy),fun x _ y hy=>(by cases hy)⟩
 have m1:MJ k la lb [la.getD a 0] a lb.length:=m0.vg M.sa (by omega) fun y hy=>dj y (List.mem_of_mem_take hy) _ (by rw[ea,Nat.add_sub_cancel,mh (by omega)];exact List.mem_cons_self ..)
 by_cases wQ:a=0
 ·rw[if_pos (gg wQ),nr]
  exact kasC_pure (q _ (gallopOf st) s hI (m1.dn M.sa M.sb (.inl wQ)))
 rw[if_neg (gi wQ)]
 by_cases kn:lb.length=1
 ·rw[if_pos (gg kn),pZ]
  exact kasC_pure (q _ (gallopOf st) s hI (vh m1 M hf kn hb))
 rw[if_neg (gi kn)]
 refine kasC_bind (kasC_get (kasC_bind (bP (Q:=fun c bc s'=>(∃g',bc=kQ st g')∧I s'∧∃r c',c=(some (ar it r),c')∧sX k la lb r) (br (fun m c bc s'=>(∃g',bc=kQ st g')∧I s'∧∃ro i j g,c=(none,i,j,ar it ro.reverse,g)∧MJ k la lb ro i j∧0<i∧i≤la.length∧1<j∧j≤lb.length∧i+j≤m) ⟨⟨gallopOf st,rfl⟩,hI,_,_,_,_,rfl,m1,by omega,by omega,by omega,Nat.le_refl _,by omega⟩ ?_ ?_) ?_)))
 ·rintro c bc s' ⟨_,_,ro,i,j,g,_,_,_,_,_,_,_⟩
  omega
 ·rintro x m c bc s' ⟨⟨g0,rfl⟩,i1,ro,i,j,g,rfl,i2,i3,LF,i4,Nb,i5⟩
  unfold WN
  refine kasC_bind (bP (HP hc (st:=kQ st g0) hk M hf i1 i2 i3 LF i4 Nb) fun d h8 s2 ⟨e1,e2,e3⟩=>?_)
  subst e1
  rcases e3 with ⟨r,c',rfl,hm⟩ | ⟨ro,i',j',u,v,rfl,e5,e6,UX,e7,UY,e8⟩
  ·exact kasC_pure ⟨⟨g0,rfl⟩,e2,r,_,rfl,hm⟩
  ·refine kasC_bind (kasC_lift (wpAny_rule (kasC_bind (bP (HR hc (st:=kQ st g0) hk M hf e2 e5 e6 UX e7 UY) fun f yt s3 ⟨⟨g1,f1⟩,f2,f3⟩=>?_))))
   subst f1
   rcases f3 with ⟨r,c',rfl,hm⟩ | ⟨ro,Fu,WM,g2,u2,v2,rfl,f5,f6,f6',f7,f7',f8⟩
   ·exact kasC_pure ⟨⟨g1,rfl⟩,f2,r,_,rfl,hm⟩
   ·dsimp only at e8 f8
    exact kasC_bind (kasC_modify (kasC_pure ⟨⟨g2+1,rfl⟩,f2,ro,Fu,WM,_,rfl,f5,f6,f6',f7,f7',by omega⟩))
 ·rintro c bc s' ⟨⟨g',rfl⟩,i1,r,c',rfl,hm⟩
  exact kasC_pure (q r g' s' i1 hm)
end
end L2
namespace L2
open PySem PySem.Spec PyProof.Rows PySem.W
section
variable {prog:Program}{w:World}{A:Around}{E:Value→Shared→Prop}{κ:SortKind}{it:Array Keyed}{O:KeyOrd}{k:Nat→O.α}{n:Nat}{I:Shared→Prop}{s:Shared}{st:SortSt}
theorem HU(i:Nat):mergeAt' i=(do
  let s←get
  let (some (x,m,pw),some (y,l,_)):=((pendingOf s)[i]?,(pendingOf s)[i+1]?) |unsupported "internal:list.sort.pending"
  set (SortSt.mk' (kindOf s) (arrOf s) (((pendingOf s).setIfInBounds i (x,m+l,pw)).eraseIdxIfInBounds (i+1)) (gallopOf s) (failedOf s))
  let some c←cj false (←elem' (arrOf s) y) (arrOf s) x m 0|return false
  let (x,m):=(x+c,m - c)
  if m==0 then return true
  let some l←cj true (←elem' (arrOf s) (x+m - 1)) (arrOf s) y l (l - 1) |return false
  if l==0 then return true
  let u:=(arrOf s).extract x y
  let v:=(arrOf s).extract y (y+l)
  let r←if m≤l then jO u v else jP u v
  modify fun s=>SortSt.mk' (kindOf s) (r.toList.zipIdx.foldl (fun a (p,j)=>a.setIfInBounds (x+j) p) (arrOf s)) (pendingOf s) (gallopOf s) (failedOf s)
  return (failedOf (←get)).isNone):=rfl
theorem Nd(hc:dN O k n I (kas_cmp prog w A κ it)){l:List Nat}{x b m h:Nat}{Q:Option Nat→SortSt→Shared→Prop}(hk:kindOf st=κ)(hl:∀y∈l,y<n)(hx:x<n)(sl:∀i j,i≤j→j<m→le k (l.getD (b+i) 0) (l.getD (b+j) 0))(hb:b+m≤l.length)(hh:h<m)(hI:I s)
  (q:∀c s',I s'→c≤m→(∀t,t<c→le k (l.getD (b+t) 0) x)→(∀t,c≤t→t<m→O.blt (k x) (k (l.getD (b+t) 0))=true)→Q (some c) st s'):kasC (model prog w) A E (cj false (kas_item it x) (ar it l) b m h) Q st s:=by
 rw[dz]
 refine pW (I:=I) (fun t=>!O.blt (k x) (k (l.getD (b+t) 0))) hh (fun i hi s1 Q' rF q'=>?_) (fun i j jd hj e=>?_) hI fun c s' f' om h1 h2=>q c s' f' om (fun t ht=>?_) fun t ht hm=>?_
 ·rw[←dz]
  refine kasC_bind (el (by omega) ?_)
  rw[if_neg (by simp)]
  exact kasC_bind (tY hc hx (dc hl (by omega)) hk rF fun s2 fJ=>kasC_pure (q' s2 fJ))
 ·simp only [Bool.not_eq_true'] at e ⊢
  exact le.trans (sl i j jd hj) (bZ e)
 ·have:=h1 t ht
  simp only [Bool.not_eq_true'] at this
  exact this
 ·have:=h2 t ht hm
  simpa using this
theorem Nf(hc:dN O k n I (kas_cmp prog w A κ it)){l:List Nat}{x b m h:Nat}{Q:Option Nat→SortSt→Shared→Prop}(hk:kindOf st=κ)(hl:∀y∈l,y<n)(hx:x<n)(sl:∀i j,i≤j→j<m→le k (l.getD (b+i) 0) (l.getD (b+j) 0))(hb:b+m≤l.length)(hh:h<m)(hI:I s)
  (q:∀c s',I s'→c≤m→(∀t,t<c→O.blt (k (l.getD (b+t) 0)) (k x)=true)→(∀t,c≤t→t<m→le k x (l.getD (b+t) 0))→Q (some c) st s'):kasC (model prog w) A E (cj true (kas_item it x) (ar it l) b m h) Q st s:=by
 rw[dz]
 refine pW (I:=I) (fun t=>O.blt (k (l.getD (b+t) 0)) (k x)) hh (fun i hi s1 Q' rF q'=>?_) (fun i j jd hj e=>?_) hI fun c s' f' om h1 h2=>q c s' f' om h1 h2
 ·rw[←dz]
  refine kasC_bind (el (by omega) ?_)
  rw[if_pos rfl]
  exact tY hc (dc hl (by omega)) hx hk rF q'
 ·cases e2:O.blt (k (l.getD (b+i) 0)) (k x) with
  |true=>rfl
  |false=>
   have:O.blt (k (l.getD (b+j) 0)) (k x)=false:=le.trans (bZ e2) (sl i j jd hj)
   rw[this] at e
   cases e
theorem HV(l:List Nat)(j x:Nat):(ar it l).setIfInBounds j (kas_item it x)=ar it (l.set j x):=by
 apply Array.toList_inj.mp
 simp [ar,List.map_set]
theorem Cs(p:List Nat)(a x:Nat)(h:a<p.length):(p.set a x).take (a+1)=p.take a++[x]∧(p.set a x).drop (a+1)=p.drop (a+1):=by
 constructor
 ·rw[gO (by rw[List.length_set];exact h),List.take_set_of_le (Nat.le_refl _)]
  simp [List.getD,h]
 ·rw[List.drop_set_of_lt (by omega)]
theorem vj(a:Nat):∀(r:List Nat) (c:Nat) (p:List Nat),a+c+r.length≤p.length→((r.map (kas_item it)).zipIdx c).foldl (fun t (q:Keyed×Nat)=>t.setIfInBounds (a+q.2) q.1) (ar it p)=ar it (p.take (a+c)++r++p.drop (a+c+r.length))
 | [],c,p,_=>by simp
 |x::r,c,p,h=>by
  rw[List.length_cons] at h
  rw[List.map_cons,List.zipIdx_cons,List.foldl_cons,HV,vj a r (c+1) _ (by rw[List.length_set];omega)]
  obtain⟨e1,e2⟩:=Cs p (a+c) x (by omega)
  rw[show a+(c+1)=a+c+1 by omega,e1,List.length_cons]
  have e3:(p.set (a+c) x).drop (a+c+1+r.length)=p.drop (a+c+(r.length+1)):=by
   rw[List.drop_set_of_lt (by omega)]
   congr 1
   omega
  rw[e3]
  simp
end
end L2
namespace L2
open PySem PySem.Spec PyProof.Rows PySem.W
section
variable {prog:Program}{w:World}{A:Around}{E:Value→Shared→Prop}{κ:SortKind}{it:Array Keyed}{O:KeyOrd}{k:Nat→O.α}{n:Nat}{I:Shared→Prop}{s:Shared}
def seg(p:List Nat)(a m:Nat):List Nat:=(p.drop a).take m
theorem d6{p:List Nat}{a m:Nat}(h:a+m≤p.length):(seg p a m).length=m:=by unfold seg;rw[List.length_take,List.length_drop];omega
theorem seg_at{p:List Nat}{a m t:Nat}(h:t<m):(seg p a m).getD t 0=p.getD (a+t) 0:=by
 unfold seg
 simp [List.getD,List.getElem?_take,h,List.getElem?_drop]
theorem ny(p:List Nat)(a m c:Nat):(seg p a m).drop c=seg p (a+c) (m - c):=by
 unfold seg
 rw[List.drop_take,List.drop_drop]
theorem rG(p:List Nat)(a m c:Nat)(h:c≤m):(seg p a m).take c=seg p a c:=by
 unfold seg
 rw[List.take_take,Nat.min_eq_left h]
theorem mw(p:List Nat)(a m l:Nat):seg p a m++seg p (a+m) l=seg p a (m+l):=by
 unfold seg
 rw[←List.drop_drop,List.take_add]
theorem rH(p:List Nat)(a m:Nat):p.take a++seg p a m=p.take (a+m):=by
 unfold seg
 rw[List.take_add]
theorem zE(p:List Nat)(a m:Nat):p.take a++seg p a m++p.drop (a+m)=p:=by
 rw[rH,List.take_append_drop]
theorem p6{l:List Nat}(hs:gf k l){i j:Nat}(jd:i≤j)(hj:j<l.length):le k (l.getD i 0) (l.getD j 0):=fz hs (by omega) _ (by
 rw[List.mem_iff_getElem?]
 exact⟨j - i,by rw[List.getElem?_drop,show i+(j - i)=j by omega];simp [List.getD,hj]⟩)
theorem gP{l:List Nat}{y:Nat}(h:y∈l):∃t,t<l.length∧y=l.getD t 0:=by
 obtain⟨t,_,h2,e⟩:=jS (p:=l.length) (by rw[List.take_length];exact h)
 exact⟨t,h2,e⟩
theorem vk{p:List Nat}{a m y:Nat}(h:y∈seg p a m):y∈p:=List.mem_of_mem_drop (List.mem_of_mem_take h)
abbrev dH(κ:SortKind)(it:Array Keyed)(p:List Nat)(pd:Array (Nat×Nat×Nat))(g:Nat):SortSt:=SortSt.mk' κ (ar it p) pd g none
theorem zF{σ:Type}{M:Model}{bc st:σ}{Q:PUnit→σ→Shared→Prop}(h:Q ⟨⟩ bc s):kasC M A E (set bc:StateT σ Sem PUnit) Q st s:=by
 unfold kasC
 rw[StateT.run_set]
 exact wpAny_pure h
theorem HW(hc:dN O k n I (kas_cmp prog w A κ it)){p:List Nat}{pd:Array (Nat×Nat×Nat)}{g i x m l pw WO:Nat}(e1:pd[i]? =some (x,m,pw))(e2:pd[i+1]? =some (x+m,l,WO))(hm:0<m)(hl:0<l)(hp:x+m+l≤p.length)(hn:∀y∈p,y<n)(sa:gf k (seg p x m))(sb:gf k (seg p (x+m) l))
  {Q:Bool→SortSt→Shared→Prop} (hI:I s) (q:∀S g' s',I s'→S.Perm (seg p x m++seg p (x+m) l)→gf k S→Q true (dH κ it (p.take x++S++p.drop (x+m+l)) ((pd.setIfInBounds i (x,m+l,pw)).eraseIdxIfInBounds (i+1)) g') s'):
  kasC (model prog w) A E (mergeAt' i) Q (dH κ it p pd g) s:=by
 rw[HU]
 refine kasC_bind (kasC_get ?_)
 show kasC (model prog w) A E (match (pd[i]?,pd[i+1]?) with| (some (x,m,pw),some (y,l,_))=>_|_=>_) _ _ _
 rw[e1,e2]
 dsimp only
 have lA:=d6 (p:=p) (a:=x) (m:=m) (by omega)
 have lB:=d6 (p:=p) (a:=x+m) (m:=l) (by omega)
 have fl:p.take x++(seg p x m++seg p (x+m) l)++p.drop (x+m+l)=p:=by
  rw[mw,show x+m+l=x+(m+l) by omega]
  exact zE p x (m+l)
 have hx0:p.getD (x+m) 0<n:=dc hn (by omega)
 have gA:∀i j,i≤j→j<m→le k (p.getD (x+i) 0) (p.getD (x+j) 0):=fun i j jd hj=>by
  have:=p6 sa jd (by omega)
  rwa [seg_at (by omega),seg_at hj] at this
 have gB:∀i j,i≤j→j<l→le k (p.getD (x+m+i) 0) (p.getD (x+m+j) 0):=fun i j jd hj=>by
  have:=p6 sb jd (by omega)
  rwa [seg_at (by omega),seg_at hj] at this
 have ZF:∀y∈seg p x m,∃t,t<m∧y=p.getD (x+t) 0:=fun y hy=>by
  obtain⟨t,h1,e⟩:=gP hy
  rw[lA] at h1
  exact⟨t,h1,by rw[e,seg_at h1]⟩
 have ZG:∀y∈seg p (x+m) l,∃t,t<l∧y=p.getD (x+m+t) 0:=fun y hy=>by
  obtain⟨t,h1,e⟩:=gP hy
  rw[lB] at h1
  exact⟨t,h1,by rw[e,seg_at h1]⟩
 refine kasC_bind (zF (kasC_bind (el (l:=p) (by omega) (kasC_bind (Nd hc rfl hn hx0 gA (by omega) hm hI fun c s1 rF oz g1 g2=>?_)))))
 dsimp only
 by_cases c0:m - c=0
 ·rw[if_pos (gg c0)]
  refine kasC_pure ?_
  have:=q (seg p x m++seg p (x+m) l) g s1 rF (List.Perm.refl _) (List.pairwise_append.mpr ⟨sa,sb,fun a ha b hb=>?_⟩)
  ·rw[fl] at this
   exact this
  ·obtain⟨t,h1,rfl⟩:=ZF a ha
   obtain⟨t2,h2,rfl⟩:=ZG b hb
   exact le.trans (g1 t (by omega)) (gB 0 t2 (by omega) h2)
 rw[if_neg (gi c0),show x+c+(m - c) - 1=x+(m - 1) by omega]
 refine kasC_bind (el (l:=p) (by omega) (kasC_bind (Nf hc rfl hn (dc hn (by omega)) gB (by omega) (by omega) rF fun d s2 fJ hdm f1 f2=>?_)))
 dsimp only
 by_cases d0:d=0
 ·rw[if_pos (gg d0)]
  refine kasC_pure ?_
  have:=q (seg p x m++seg p (x+m) l) g s2 fJ (List.Perm.refl _) (List.pairwise_append.mpr ⟨sa,sb,fun a ha b hb=>?_⟩)
  ·rw[fl] at this
   exact this
  ·obtain⟨t,h1,rfl⟩:=ZF a ha
   obtain⟨t2,h2,rfl⟩:=ZG b hb
   exact le.trans (gA t (m - 1) (by omega) (by omega)) (f2 t2 (by omega) h2)
 rw[if_neg (gi d0)]
 have ex1:(arrOf (dH κ it p pd g)).extract (x+c) (x+m)=ar it (seg p (x+c) (m - c)):=by
  show (ar it p).extract _ _=_
  rw[iD]
  unfold seg
  rw[show x+m - (x+c)=m - c by omega]
 have Ng:(arrOf (dH κ it p pd g)).extract (x+m) (x+m+d)=ar it (seg p (x+m) d):=by
  show (ar it p).extract _ _=_
  rw[iD]
  unfold seg
  rw[show x+m+d - (x+m)=d by omega]
 rw[ex1,Ng]
 have Fv:=d6 (p:=p) (a:=x+c) (m:=m - c) (by omega)
 have zG:=d6 (p:=p) (a:=x+m) (m:=d) (by omega)
 have M:MH k n (seg p (x+c) (m - c)) (seg p (x+m) d):=⟨by rw[←ny];exact sa.drop,by rw[←rG p (x+m) l d hdm];exact sb.take,fun y hy=>hn y (vk hy),fun y hy=>hn y (vk hy)⟩
 have WQ:∀y∈seg p (x+c) (m - c),∃t,c≤t∧t<m∧y=p.getD (x+t) 0:=fun y hy=>by
  obtain⟨t,h1,e⟩:=gP hy
  rw[Fv] at h1
  exact⟨c+t,by omega,by omega,by rw[e,seg_at h1,Nat.add_assoc]⟩
 have WR:∀y∈seg p (x+m) d,∃t,t<d∧y=p.getD (x+m+t) 0:=fun y hy=>by
  obtain⟨t,h1,e⟩:=gP hy
  rw[zG] at h1
  exact⟨t,h1,by rw[e,seg_at h1]⟩
 have dj:∀y∈seg p (x+m) d,∀z∈(seg p (x+c) (m - c)).drop ((seg p (x+c) (m - c)).length - 1),le k y z:=fun y hy z hz=>by
  rw[Fv,ny] at hz
  obtain⟨t,h1,e⟩:=gP hz
  rw[d6 (by omega)] at h1
  rw[seg_at h1] at e
  obtain⟨t2,h2,rfl⟩:=WR y hy
  rw[e,show x+c+(m - c - 1)+t=x+(m - 1) by omega]
  exact le_of_lt (f1 t2 h2)
 have hf:∀z∈seg p (x+c) (m - c),le k ((seg p (x+m) d).getD 0 0) z:=fun z hz=>by
  rw[seg_at (by omega)]
  obtain⟨t,h1,h2,rfl⟩:=WQ z hz
  exact le_of_lt (g2 t h1 h2)
 have h0:le k ((seg p (x+m) d).getD 0 0) ((seg p (x+c) (m - c)).getD 0 0):=hf _ (by
  rw[←List.take_length (l:=seg p (x+c) (m - c)),show (seg p (x+c) (m - c)).length=(m - c - 1)+1 by omega]
  have:=gO (l:=seg p (x+c) (m - c)) (i:=0) (by omega)
  exact List.mem_of_mem_take (i:=1) (by rw[List.take_take,Nat.min_eq_left (by omega),this];simp))
 have fin:∀r g' s',I s'→sX k (seg p (x+c) (m - c)) (seg p (x+m) d) r→kasC (model prog w) A E (do
   modify fun s=>SortSt.mk' (kindOf s) ((ar it r).toList.zipIdx.foldl (fun a (p,j)=>a.setIfInBounds (x+c+j) p) (arrOf s)) (pendingOf s) (gallopOf s) (failedOf s)
   return (failedOf (←get)).isNone) Q (kQ (dH κ it p ((pd.setIfInBounds i (x,m+l,pw)).eraseIdxIfInBounds (i+1)) g) g') s':=fun r g' s' f' hM=>by
  obtain⟨pr,ir⟩:=hM
  have lr:r.length=(m - c)+d:=by rw[pr.length_eq,List.length_append,Fv,zG]
  refine kasC_bind (kasC_modify (kasC_bind (kasC_get (kasC_pure ?_))))
  have hb:=vj (it:=it) (x+c) r 0 p (by omega)
  rw[Nat.add_zero] at hb
  have tl:(ar it r).toList=r.map (kas_item it):=by simp [ar]
  have inr:∀y∈r,y∈seg p (x+c) (m - c)∨y∈seg p (x+m) d:=fun y hy=>List.mem_append.mp (pr.mem_iff.mp hy)
  have eS:p.take (x+c)++r++p.drop (x+c+r.length)=p.take x++(seg p x c++r++seg p (x+m+d) (l - d))++p.drop (x+m+l):=by
   have e3:p.drop (x+c+r.length)=seg p (x+m+d) (l - d)++p.drop (x+m+l):=by
    rw[lr,show x+c+(m - c+d)=x+m+d by omega]
    unfold seg
    have:=List.take_append_drop (l - d) (p.drop (x+m+d))
    rw[List.drop_drop,show x+m+d+(l - d)=x+m+l by omega] at this
    exact this.symm
   rw[e3,←rH p x c]
   simp
  have:=q (seg p x c++r++seg p (x+m+d) (l - d)) g' s' f' ?_ ?_
  ·rw[←eS] at this
   have this:Q true (SortSt.mk' κ (ar it (p.take (x+c)++r++p.drop (x+c+r.length))) ((pd.setIfInBounds i (x,m+l,pw)).eraseIdxIfInBounds (i+1)) g' none) s':=this
   rw[←hb,←tl] at this
   exact this
  ·have eA:seg p x m=seg p x c++seg p (x+c) (m - c):=by rw[mw,show c+(m - c)=m by omega]
   have eB:seg p (x+m) l=seg p (x+m) d++seg p (x+m+d) (l - d):=by rw[mw,show d+(l - d)=l by omega]
   rw[eA,eB]
   have:=(pr.append_left (seg p x c)).append_right (seg p (x+m+d) (l - d))
   simpa using this
  ·have low:∀a∈seg p x c,∃t,t<c∧a=p.getD (x+t) 0:=fun a ha=>by
    obtain⟨t,h1,e⟩:=gP ha
    rw[d6 (by omega)] at h1
    exact⟨t,h1,by rw[e,seg_at h1]⟩
   have top:∀a∈seg p (x+m+d) (l - d),∃t,d≤t∧t<l∧a=p.getD (x+m+t) 0:=fun a ha=>by
    obtain⟨t,h1,e⟩:=gP ha
    rw[d6 (by omega)] at h1
    exact⟨d+t,by omega,by omega,by rw[e,seg_at h1,Nat.add_assoc]⟩
   have iL:gf k (seg p x c):=by rw[←rG p x m c (by omega)];exact sa.take
   have iT:gf k (seg p (x+m+d) (l - d)):=by rw[←ny];exact sb.drop
   refine List.pairwise_append.mpr ⟨List.pairwise_append.mpr ⟨iL,ir,fun a ha b hb=>?_⟩,iT,fun a ha b hb=>?_⟩
   ·obtain⟨t,h1,rfl⟩:=low a ha
    rcases inr b hb with z|z
    ·obtain⟨t2,h2,h3,rfl⟩:=WQ b z
     exact gA t t2 (by omega) h3
    ·obtain⟨t2,h2,rfl⟩:=WR b z
     exact le.trans (g1 t h1) (gB 0 t2 (by omega) (by omega))
   ·obtain⟨t2,h2,h3,rfl⟩:=top b hb
    rcases List.mem_append.mp ha with z|z
    ·obtain⟨t,h1,rfl⟩:=low a z
     exact le.trans (g1 t h1) (gB 0 t2 (by omega) h3)
    ·rcases inr a z with z|z
     ·obtain⟨t,h1,h4,rfl⟩:=WQ a z
      exact le.trans (gA t (m - 1) (by omega) (by omega)) (f2 t2 h2 h3)
     ·obtain⟨t,h1,rfl⟩:=WR a z
      exact gB t t2 (by omega) h3
 split
 ·exact kasC_bind (HM hc (st:=dH κ it p _ g) rfl M dj (by omega) (by omega) h0 fJ fun r g' s' f' hM=>fin r g' s' f' hM)
 ·exact kasC_bind (HS hc (st:=dH κ it p _ g) rfl M hf dj (by omega) (by omega) fJ fun r g' s' f' hM=>fin r g' s' f' hM)
end
end L2
namespace L2
open PySem PySem.Spec PyProof.Rows PySem.W
abbrev R1:=Option (Option Nat)×Nat
abbrev LG:=Option (Option Nat)×Nat×Nat
def HX(lo a bJ:Nat):SM R1:=forIn [a:bJ] ((none,a):R1) fun _ c=>do
 match←ltAt' (lo+c.2) (lo+c.2 - 1) with
 |some d=>if d=true then pure (.done (none,c.2)) else pure (.yield (none,c.2+1))
 |_=>pure (.done (some none,c.2))
def Ct(lo m bJ:Nat):SM (Option Nat):=do
 reverseSlice' lo (lo+m)
 let c←HX lo m bJ
 oC c.1 (fun r=>pure r) (pure (some c.2))
def WS(lo:Nat)(c:LG):SM (ForInStep LG):=do
 match←ltAt' (lo+c.2.1) (lo+c.2.1 - 1) with
 |some d=>
  if d=true then
   if c.2.2>0 then do
    reverseSlice' (lo+c.2.1 - (c.2.2+1)) (lo+c.2.1)
    pure (.yield (none,c.2.1+1,0))
   else pure (.yield (none,c.2.1+1,0))
  else do
   match←ltAt' (lo+c.2.1 - 1) (lo+c.2.1) with
   |some e=>if e=true then pure (.done (none,c.2.1,c.2.2)) else pure (.yield (none,c.2.1+1,c.2.2+1))
   |_=>pure (.done (some none,c.2.1,c.2.2))
 |_=>pure (.done (some none,c.2.1,c.2.2))
def LH(lo m bJ:Nat):SM (Option Nat):=do
 rule "list.sort.descending-run"
 let c←forIn [m+1:bJ] ((none,m+1,0):LG) fun _=>WS lo
 oC c.1 (fun r=>pure r) (if c.2.2>0 then do
     reverseSlice' (lo+c.2.1 - (c.2.2+1)) (lo+c.2.1)
     Ct lo c.2.1 bJ
  else Ct lo c.2.1 bJ)
theorem zH(lo m bJ:Nat){f:R1→SM (Option Nat)}(hf:∀c:R1,f c=oC c.1 (fun r=>pure r) (pure (some c.2))):(do reverseSlice' lo (lo+m);let c←HX lo m bJ;f c)=Ct lo m bJ:=by
 unfold Ct
 congr 1
 funext _
 congr 1
 funext c
 exact hf c
theorem Nh(lo bJ:Nat):countRun' lo bJ=(do
  let c←HX lo 1 bJ
  oC c.1 (fun r=>pure r) (if (c.2==bJ)=true then pure (some c.2) else if c.2>1 then do
      match←ltAt' lo (lo+c.2 - 1) with
      |some d=>if d=true then pure (some c.2) else do
        reverseSlice' lo (lo+c.2)
        LH lo c.2 bJ
      |_=>pure none
   else LH lo c.2 bJ)):=by
 rw[countRun'_eq]
 dsimp only
 have tl:∀(m:Nat) {f:R1→SM (Option Nat)},(∀c:R1,f c=oC c.1 (fun r=>pure r) (pure (some c.2)))→(do reverseSlice' lo (lo+m);let c←HX lo m bJ;f c)=Ct lo m bJ:=fun m f hf=>zH lo m bJ hf
 unfold HX
 congr 1
 funext c
 obtain⟨r,m⟩:=c
 cases r with
 |some r=>rfl
 |none=>
  dsimp only [oC]
  split
  ·rfl
  ·have e:∀{g:LG→SM (Option Nat)},(∀c:LG,g c=oC c.1 (fun r=>pure r) (if c.2.2>0 then do
     reverseSlice' (lo+c.2.1 - (c.2.2+1)) (lo+c.2.1)
     Ct lo c.2.1 bJ
    else Ct lo c.2.1 bJ))→(do rule "list.sort.descending-run";let c←forIn [m+1:bJ] ((none,m+1,0):LG) fun _=>WS lo;g c)=LH lo m bJ:=fun {g} hg=>by
    unfold LH
    congr 1
    funext _
    congr 1
    funext c
    exact hg c
   split
   ·congr 1
    funext x
    cases x with
    |none=>rfl
    |some d=>
     dsimp only
     split
     ·rfl
     ·congr 1
      funext _
      refine e (g:=_) fun c=>?_
      obtain⟨r,a,b⟩:=c
      cases r with
      |some r=>rfl
      |none=>
       dsimp only [oC]
       split
       ·congr 1
        funext _
        exact tl a fun d=>by obtain⟨r,x⟩:=d;cases r<;>rfl
       ·exact tl a fun d=>by obtain⟨r,x⟩:=d;cases r<;>rfl
   ·refine e (g:=_) fun c=>?_
    obtain⟨r,a,b⟩:=c
    cases r with
    |some r=>rfl
    |none=>
     dsimp only [oC]
     split
     ·congr 1
      funext _
      exact tl a fun d=>by obtain⟨r,x⟩:=d;cases r<;>rfl
     ·exact tl a fun d=>by obtain⟨r,x⟩:=d;cases r<;>rfl
end L2
namespace L2
open PySem PySem.Spec PyProof.Rows PySem.W
section
variable {it:Array Keyed}
def wR(p:List Nat)(i j:Nat):List Nat:=(mirror p.toArray i j ((j - i) /2)).toList
theorem HY(p:List Nat)(i j:Nat):mirror (ar it p) i j ((j - i) /2)=ar it (wR p i j):=by
 rw[dz,dz]
 have:mirror (p.toArray.map (kas_item it)) i j ((j - i) /2)=(mirror p.toArray i j ((j - i) /2)).map (kas_item it):=kas_swaps_map (kas_item it) (fun k=>i+k) (fun k=>j - 1 - k) _ p.toArray
 rw[this]
 unfold wR
 rw[Array.toArray_toList]
theorem zI(p:List Nat)(i j:Nat):(wR p i j).Perm p:=by
 have:=Array.perm_iff_toList_perm.mp (mirror_perm p.toArray i j ((j - i) /2))
 simpa [wR] using this
theorem rvs_at?{p:List Nat}{i j:Nat}(hj:j≤p.length)(m:Nat):(wR p i j)[m]? =if i≤m∧m<j then p[i+j - 1 - m]? else p[m]? :=by
 have:=getElem?_mirror_all (xs:=p.toArray) (i:=i) (j:=j) (by simpa using hj) m
 unfold wR
 rw[Array.getElem?_toList,this]
 split<;>simp
theorem t4{p:List Nat}{i j:Nat}(hj:j≤p.length)(m:Nat):(wR p i j).getD m 0=if i≤m∧m<j then p.getD (i+j - 1 - m) 0 else p.getD m 0:=by
 rw[List.getD_eq_getElem?_getD,rvs_at? hj]
 split<;>rw[List.getD_eq_getElem?_getD]
theorem zJ{p:List Nat}{i j lo:Nat}(hj:j≤p.length)(h:lo≤i):(wR p i j).take lo=p.take lo:=by
 apply List.ext_getElem?
 intro m
 rw[List.getElem?_take,List.getElem?_take]
 split
 ·rw[rvs_at? hj,if_neg (by omega)]
 ·rfl
end
section
variable {prog:Program}{w:World}{A:Around}{E:Value→Shared→Prop}{κ:SortKind}{it:Array Keyed}{O:KeyOrd}{k:Nat→O.α}{n:Nat}{I:Shared→Prop}{s:Shared}{pd:Array (Nat×Nat×Nat)}{g:Nat}
theorem vm{p:List Nat}{i j:Nat}{Q:Unit→SortSt→Shared→Prop}(q:Q () (dH κ it (wR p i j) pd g) s):kasC (model prog w) A E (reverseSlice' i j) Q (dH κ it p pd g) s:=by
 rw[reverseSlice'_eq]
 refine kasC_modify ?_
 have:setArr (dH κ it p pd g) (mirror (arrOf (dH κ it p pd g)) i j ((j - i) /2))=dH κ it (wR p i j) pd g:=by
  show SortSt.mk' κ (mirror (ar it p) i j ((j - i) /2)) pd g none=_
  rw[HY]
 rw[this]
 exact q
theorem nC(hc:dN O k n I (kas_cmp prog w A κ it)){p:List Nat}(hn:∀y∈p,y<n){i j:Nat}(hi:i<p.length)(hj:j<p.length){Q:Option Bool→SortSt→Shared→Prop}(hI:I s)(q:∀s',I s'→Q (some (O.blt (k (p.getD i 0)) (k (p.getD j 0)))) (dH κ it p pd g) s'):
  kasC (model prog w) A E (ltAt' i j) Q (dH κ it p pd g) s:=by
 rw[ltAt'_eq]
 exact kasC_bind (kasC_get (kasC_bind (el (l:=p) hi (kasC_bind (el (l:=p) hj (tY hc (dc hn hi) (dc hn hj) rfl hI q))))))
def dG(k:Nat→O.α)(p:List Nat)(lo m:Nat):Prop:=∀i j,i≤j→j<m→le k (p.getD (lo+i) 0) (p.getD (lo+j) 0)
def lF(k:Nat→O.α)(p:List Nat)(lo m:Nat):Prop:=∀i j,i≤j→j<m→le k (p.getD (lo+j) 0) (p.getD (lo+i) 0)
theorem dG.snoc{p:List Nat}{lo m:Nat}(h:dG k p lo m)(h1:1≤m)(e:le k (p.getD (lo+m - 1) 0) (p.getD (lo+m) 0)):dG k p lo (m+1):=fun i j jd hj=>by
 by_cases WT:j<m
 ·exact h i j jd WT
 ·have:j=m:=by omega
  subst this
  by_cases hi:i=j
  ·subst hi;exact KeyOrd.kle_refl _
  ·refine le.trans (h i (j - 1) (by omega) (by omega)) ?_
   rw[show lo+(j - 1)=lo+j - 1 by omega]
   exact e
theorem lF.snoc{p:List Nat}{lo m:Nat}(h:lF k p lo m)(h1:1≤m)(e:le k (p.getD (lo+m) 0) (p.getD (lo+m - 1) 0)):lF k p lo (m+1):=fun i j jd hj=>by
 by_cases WT:j<m
 ·exact h i j jd WT
 ·have:j=m:=by omega
  subst this
  by_cases hi:i=j
  ·subst hi;exact KeyOrd.kle_refl _
  ·have:=h i (j - 1) (by omega) (by omega)
   rw[show lo+(j - 1)=lo+j - 1 by omega] at this
   exact le.trans e this
structure Mv(lo:Nat)(p p':List Nat):Prop where
 perm:p'.Perm p
 tk:p'.take lo=p.take lo
theorem Mv.refl{lo:Nat}{p:List Nat}:Mv lo p p:=⟨List.Perm.refl _,rfl⟩
theorem Mv.len{lo:Nat}{p p':List Nat}(h:Mv lo p p'):p'.length=p.length:=h.perm.length_eq
theorem Mv.rev{lo:Nat}{p p':List Nat}(h:Mv lo p p'){i j:Nat}(hi:lo≤i)(hj:j≤p'.length):Mv lo p (wR p' i j):=⟨(zI p' i j).trans h.perm,(zJ hj hi).trans h.tk⟩
theorem zK(hc:dN O k n I (kas_cmp prog w A κ it)){p:List Nat}(hn:∀y∈p,y<n){lo a bJ:Nat}(h1:1≤a)(ha:a≤bJ)(hp:lo+bJ≤p.length)(hs:dG k p lo a)(hI:I s){Q:R1→SortSt→Shared→Prop}
  (q:∀m s',I s'→a≤m→m≤bJ→dG k p lo m→(m=bJ∨O.blt (k (p.getD (lo+m) 0)) (k (p.getD (lo+m - 1) 0))=true)→Q (none,m) (dH κ it p pd g) s'):kasC (model prog w) A E (HX lo a bJ) Q (dH κ it p pd g) s:=by
 unfold HX
 refine br (fun j c bc s'=>∃m,c=(none,m)∧bc=dH κ it p pd g∧I s'∧a≤m∧m+j=bJ∧dG k p lo m) ⟨a,rfl,rfl,hI,Nat.le_refl _,by omega,hs⟩ ?_ ?_
 ·rintro c bc s' ⟨m,rfl,rfl,i1,i2,i3,i4⟩
  exact q m s' i1 i2 (by omega) i4 (.inl (by omega))
 ·rintro x j c bc s' ⟨m,rfl,rfl,i1,i2,i3,i4⟩
  refine kasC_bind (nC hc hn (by omega) (by omega) i1 fun s2 fJ=>?_)
  dsimp only
  cases e:O.blt (k (p.getD (lo+m) 0)) (k (p.getD (lo+m - 1) 0)) with
  |true=>
   rw[if_pos rfl]
   exact kasC_pure (q m s2 fJ i2 (by omega) i4 (.inr e))
  |false=>
   rw[if_neg (by simp)]
   exact kasC_pure ⟨m+1,rfl,rfl,fJ,by omega,by omega,i4.snoc (by omega) (bZ e)⟩
theorem zL(hc:dN O k n I (kas_cmp prog w A κ it)){p0 p:List Nat}(hn:∀y∈p0,y<n){lo m bJ:Nat}(hv:Mv lo p0 p)(h1:1≤m)(hm:m≤bJ)(hp:lo+bJ≤p0.length)(hd:lF k p lo m)(hI:I s){Q:Option Nat→SortSt→Shared→Prop}
  (q:∀a p' s',I s'→1≤a→a≤bJ→Mv lo p0 p'→dG k p' lo a→Q (some a) (dH κ it p' pd g) s'):kasC (model prog w) A E (Ct lo m bJ) Q (dH κ it p pd g) s:=by
 unfold Ct
 have hl:=hv.len
 have G6:=hv.rev (i:=lo) (j:=lo+m) (Nat.le_refl _) (by omega)
 refine kasC_bind (vm (kasC_bind (zK hc (fun y hy=>hn y (G6.perm.mem_iff.mp hy)) h1 hm (by rw[G6.len];exact hp) (fun i j jd hj=>?_) hI fun a s' f' ha ha' hs _=>kasC_pure (q a _ s' f' (by omega) ha' G6 hs))))
 rw[t4 (by omega),t4 (by omega),if_pos (by omega),if_pos (by omega)]
 have:=hd (m - 1 - j) (m - 1 - i) (by omega) (by omega)
 rwa [show lo+(m - 1 - j)=lo+(lo+m) - 1 - (lo+j) by omega,show lo+(m - 1 - i)=lo+(lo+m) - 1 - (lo+i) by omega] at this
theorem rJ{p:List Nat}{i j:Nat}(hj:j≤p.length)(he:∀m,i≤m→m<j→k (p.getD m 0)=k (p.getD (j - 1) 0))(m:Nat):k ((wR p i j).getD m 0)=k (p.getD m 0):=by
 rw[t4 hj]
 split
 ·rw[he _ (by omega) (by omega),he m (by omega) (by omega)]
 ·rfl
theorem zM(hc:dN O k n I (kas_cmp prog w A κ it)){p0 p:List Nat}(hn:∀y∈p0,y<n){lo m bJ:Nat}(hv:Mv lo p0 p)(hm:m+1≤bJ)(hp:lo+bJ≤p0.length)(hd:lF k p lo (m+1))(hI:I s){Q:Option Nat→SortSt→Shared→Prop}
  (q:∀a p' s',I s'→1≤a→a≤bJ→Mv lo p0 p'→dG k p' lo a→Q (some a) (dH κ it p' pd g) s'):kasC (model prog w) A E (LH lo m bJ) Q (dH κ it p pd g) s:=by
 unfold LH
 have eqv:∀{p:List Nat} {a b:Nat},Mv lo p0 p→b+1≤a→a≤bJ→(∀t,a - (b+1)≤t→t<a→k (p.getD (lo+t) 0)=k (p.getD (lo+a - 1) 0))→∀t,k ((wR p (lo+a - (b+1)) (lo+a)).getD t 0)=k (p.getD t 0):=fun {p a b} h1 h2 h3 h4 t=>by
  refine rJ (by rw[h1.len];omega) (fun t' ht1 LI=>?_) t
  have:=h4 (t' - lo) (by omega) (by omega)
  rwa [show lo+(t' - lo)=t' by omega] at this
 refine kasC_bind (kasC_lift (wpAny_rule (kasC_bind (bP (Q:=fun c bc s'=>∃a b p',c=(none,a,b)∧bc=dH κ it p' pd g∧I s'∧Mv lo p0 p'∧b+1≤a∧a≤bJ∧lF k p' lo a∧∀t,a - (b+1)≤t→t<a→k (p'.getD (lo+t) 0)=k (p'.getD (lo+a - 1) 0)) (br (fun j c bc s'=>∃a b p',c=(none,a,b)∧bc=dH κ it p' pd g∧I s'∧Mv lo p0 p'∧b+1≤a∧a+j=bJ∧lF k p' lo a∧∀t,a - (b+1)≤t→t<a→k (p'.getD (lo+t) 0)=k (p'.getD (lo+a - 1) 0)) ⟨m+1,0,p,rfl,rfl,hI,hv,by omega,by omega,hd,fun t h1 h2=>by rw[show lo+t=lo+(m+1) - 1 by omega]⟩ ?_ ?_) ?_))))
 ·rintro c bc s' ⟨a,b,p',rfl,rfl,i1,i2,i3,i4,i5,i6⟩
  exact⟨a,b,p',rfl,rfl,i1,i2,i3,by omega,i5,i6⟩
 ·rintro x j c bc s' ⟨a,b,p',rfl,rfl,i1,i2,i3,i4,i5,i6⟩
  have hl:=i2.len
  have E4:∀y∈p',y<n:=fun y hy=>hn y (i2.perm.mem_iff.mp hy)
  unfold WS
  dsimp only
  refine kasC_bind (nC hc E4 (by omega) (by omega) i1 fun s2 fJ=>?_)
  dsimp only
  cases e:O.blt (k (p'.getD (lo+a) 0)) (k (p'.getD (lo+a - 1) 0)) with
  |true=>
   rw[if_pos rfl]
   have ZH:lF k p' lo (a+1):=i5.snoc (by omega) (le_of_lt e)
   by_cases hb:b>0
   ·rw[if_pos hb]
    have ev:=eqv i2 i3 (by omega) i6
    refine kasC_bind (vm (kasC_pure ⟨a+1,0,_,rfl,rfl,fJ,i2.rev (by omega) (by omega),by omega,by omega,fun i j' jd hj=>?_,fun t h1 h2=>by rw[show lo+t=lo+(a+1) - 1 by omega]⟩))
    unfold le
    rw[ev,ev]
    exact ZH i j' jd hj
   ·rw[if_neg hb]
    exact kasC_pure ⟨a+1,0,p',rfl,rfl,fJ,i2,by omega,by omega,ZH,fun t h1 h2=>by rw[show lo+t=lo+(a+1) - 1 by omega]⟩
  |false=>
   rw[if_neg (by simp)]
   refine kasC_bind (nC hc E4 (by omega) (by omega) fJ fun s3 HZ=>?_)
   dsimp only
   cases e2:O.blt (k (p'.getD (lo+a - 1) 0)) (k (p'.getD (lo+a) 0)) with
   |true=>
    rw[if_pos rfl]
    exact kasC_pure ⟨a,b,p',rfl,rfl,HZ,i2,i3,by omega,i5,i6⟩
   |false=>
    rw[if_neg (by simp)]
    have eq:k (p'.getD (lo+a) 0)=k (p'.getD (lo+a - 1) 0):=O.total _ _ e e2
    refine kasC_pure ⟨a+1,b+1,p',rfl,rfl,HZ,i2,by omega,by omega,i5.snoc (by omega) (bZ e2),fun t h1 h2=>?_⟩
    rw[show lo+(a+1) - 1=lo+a by omega]
    by_cases ht:t<a
    ·rw[i6 t (by omega) ht,eq]
    ·rw[show t=a by omega]
 ·rintro c bc s' ⟨a,b,p',rfl,rfl,i1,i2,i3,i4,i5,i6⟩
  have hl:=i2.len
  dsimp only [oC]
  by_cases hb:b>0
  ·rw[if_pos hb]
   have ev:=eqv i2 i3 i4 i6
   refine kasC_bind (vm (zL hc hn (i2.rev (by omega) (by omega)) (by omega) i4 hp (fun i j jd hj=>?_) i1 q))
   unfold le
   rw[ev,ev]
   exact i5 i j jd hj
  ·rw[if_neg hb]
   exact zL hc hn i2 (by omega) i4 hp i5 i1 q
theorem wU(hc:dN O k n I (kas_cmp prog w A κ it)){p:List Nat}(hn:∀y∈p,y<n){lo bJ:Nat}(h1:1≤bJ)(hp:lo+bJ≤p.length)(hI:I s){Q:Option Nat→SortSt→Shared→Prop}
  (q:∀a p' s',I s'→1≤a→a≤bJ→Mv lo p p'→dG k p' lo a→Q (some a) (dH κ it p' pd g) s'):kasC (model prog w) A E (countRun' lo bJ) Q (dH κ it p pd g) s:=by
 rw[Nh]
 refine kasC_bind (zK hc hn (Nat.le_refl 1) h1 hp (fun i j jd hj=>by rw[show i=j by omega];exact KeyOrd.kle_refl _) hI fun m s1 rF hm UZ hs hor=>?_)
 dsimp only [oC]
 by_cases e:m=bJ
 ·rw[if_pos (gg e)]
  exact kasC_pure (q m p s1 rF hm UZ Mv.refl hs)
 rw[if_neg (gi e)]
 have l9:O.blt (k (p.getD (lo+m) 0)) (k (p.getD (lo+m - 1) 0))=true:=hor.resolve_left e
 by_cases ZI:m>1
 ·rw[if_pos ZI]
  refine kasC_bind (nC hc hn (by omega) (by omega) rF fun s2 fJ=>?_)
  dsimp only
  cases e2:O.blt (k (p.getD lo 0)) (k (p.getD (lo+m - 1) 0)) with
  |true=>
   rw[if_pos rfl]
   exact kasC_pure (q m p s2 fJ hm UZ Mv.refl hs)
  |false=>
   rw[if_neg (by simp)]
   have same:∀t,t<m→k (p.getD (lo+t) 0)=k (p.getD (lo+m - 1) 0):=fun t ht=>by
    have a1:=hs t (m - 1) (by omega) (by omega)
    have a2:=hs 0 t (by omega) ht
    rw[show lo+(m - 1)=lo+m - 1 by omega] at a1
    have a3:le k (p.getD (lo+m - 1) 0) (p.getD (lo+t) 0):=le.trans (bZ e2) (by rw[Nat.add_zero] at a2;exact a2)
    exact O.total _ _ a3 a1
   have ev:=rJ (k:=k) (p:=p) (i:=lo) (j:=lo+m) (by omega) fun t h1 h2=>by
    have:=same (t - lo) (by omega)
    rwa [show lo+(t - lo)=t by omega] at this
   refine kasC_bind (vm (zM hc hn (Mv.refl.rev (Nat.le_refl _) (by omega)) (by omega) hp (fun i j jd hj=>?_) fJ q))
   unfold le
   rw[ev,ev]
   by_cases wO:j<m
   ·show le k _ _
    have:k (p.getD (lo+j) 0)=k (p.getD (lo+i) 0):=by rw[same j wO,same i (by omega)]
    unfold le
    rw[this]
    exact KeyOrd.kle_refl _
   ·have ej:j=m:=by omega
    subst ej
    by_cases hi:i=j
    ·subst hi;exact KeyOrd.kle_refl _
    ·have:=same i (by omega)
     rw[this]
     exact le_of_lt l9
 ·rw[if_neg ZI]
  have em:m=1:=by omega
  subst em
  refine zM hc hn Mv.refl (by omega) hp (fun i j jd hj=>?_) rF q
  by_cases hi:i=j
  ·subst hi;exact KeyOrd.kle_refl _
  ·have ei:i=0:=by omega
   have ej:j=1:=by omega
   subst ei ej
   exact le_of_lt l9
end
end L2
namespace L2
open PySem PySem.Spec PyProof.Rows PySem.W
section
variable {it:Array Keyed}
def x6(p:List Nat)(src d:Nat):List Nat:=(bubble p.toArray src d).toList
theorem Ia(p:List Nat)(src d:Nat):bubble (ar it p) src d=ar it (x6 p src d):=by
 rw[dz,dz]
 have:bubble (p.toArray.map (kas_item it)) src d=(bubble p.toArray src d).map (kas_item it):=kas_swaps_map (kas_item it) (fun i=>src - i) (fun i=>src - i - 1) _ p.toArray
 rw[this]
 unfold x6
 rw[Array.toArray_toList]
theorem zN(p:List Nat)(src d:Nat):(x6 p src d).Perm p:=by
 have:=Array.perm_iff_toList_perm.mp (bubble_perm p.toArray src d)
 simpa [x6] using this
theorem bub_at?{p:List Nat}{src d:Nat}(hs:src<p.length)(hd:d≤src)(m:Nat):(x6 p src d)[m]? =if m=src - d then p[src]? else if src - d<m∧m≤src then p[m - 1]? else p[m]? :=by
 have:=getElem?_bubble (xs:=p.toArray) (src:=src) (by simpa using hs) d hd m
 unfold x6
 rw[Array.getElem?_toList,this]
 simp
theorem Ic{p:List Nat}{src d:Nat}(hs:src<p.length)(hd:d≤src)(m:Nat):(x6 p src d).getD m 0=if m=src - d then p.getD src 0 else if src - d<m∧m≤src then p.getD (m - 1) 0 else p.getD m 0:=by
 rw[List.getD_eq_getElem?_getD,bub_at? hs hd]
 by_cases h1:m=src - d
 ·rw[if_pos h1,if_pos h1,List.getD_eq_getElem?_getD]
 ·rw[if_neg h1,if_neg h1]
  by_cases h2:src - d<m∧m≤src
  ·rw[if_pos h2,if_pos h2,List.getD_eq_getElem?_getD]
  ·rw[if_neg h2,if_neg h2,List.getD_eq_getElem?_getD]
theorem zO{p:List Nat}{src d lo:Nat}(hs:src<p.length)(hd:d≤src)(h:lo≤src - d):(x6 p src d).take lo=p.take lo:=by
 apply List.ext_getElem?
 intro m
 rw[List.getElem?_take,List.getElem?_take]
 split
 ·rw[bub_at? hs hd,if_neg (by omega),if_neg (by omega)]
 ·rfl
end
section
variable {prog:Program}{w:World}{A:Around}{E:Value→Shared→Prop}{κ:SortKind}{it:Array Keyed}{O:KeyOrd}{k:Nat→O.α}{n:Nat}{I:Shared→Prop}{s:Shared}{pd:Array (Nat×Nat×Nat)}{g:Nat}
theorem t5{σ β:Type}{M:Model}{f:Nat→β→StateT σ Sem (ForInStep β)}{a m:Nat}(Inv:Nat→β→σ→Shared→Prop){Q:β→σ→Shared→Prop}{b:β}{st:σ}{s:Shared}(ham:a≤m)(h0:Inv a b st s)(hz:∀b st s,Inv m b st s→Q b st s)
  (hs:∀i b st s,a≤i→i<m→Inv i b st s→kasC M A E (f i b) (fun r bc s'=>match r with| .done b'=>Q b' bc s'| .yield b'=>Inv (i+1) b' bc s') st s):kasC M A E (forIn [a:m] b f) Q st s:=by
 refine kasC_range ?_
 have go:∀(c i:Nat) (b:β) (st:σ) (s:Shared),a≤i→i+c=m→Inv i b st s→kasC M A E (forIn (List.range' i c) b f) Q st s:=by
  intro c
  induction c with
  |zero=>intro i b st s h1 h2 h;exact kasC_nil (hz b st s (by rw[show m=i by omega];exact h))
  |succ c ih=>
   intro i b st s h1 h2 h
   rw[List.range'_succ]
   refine kasC_cons (wpAny_mono (hs i b st s h1 (by omega) h) (fun r s' h'=>?_) fun _ _ e=>e)
   obtain⟨r,bc⟩:=r
   cases r with
   |done b'=>exact h'
   |yield b'=>exact ih (i+1) b' bc s' (by omega) (by omega) h'
 exact go (m - a) a b st s (Nat.le_refl _) (by omega) h0
theorem Ie{p:List Nat}{i j:Nat}{Q:Unit→SortSt→Shared→Prop}(q:Q () (dH κ it (x6 p i (i - j)) pd g) s):kasC (model prog w) A E (moveDown' i j) Q (dH κ it p pd g) s:=by
 rw[moveDown'_eq]
 refine kasC_modify ?_
 have:setArr (dH κ it p pd g) (bubble (arrOf (dH κ it p pd g)) i (i - j))=dH κ it (x6 p i (i - j)) pd g:=by
  show SortSt.mk' κ (bubble (ar it p) i (i - j)) pd g none=_
  rw[Ia]
 rw[this]
 exact q
theorem Ig{p:List Nat}{lo c l:Nat}(hp:lo+c<p.length)(hl:l≤c)(hs:dG k p lo c)(h1:∀t,t<l→le k (p.getD (lo+t) 0) (p.getD (lo+c) 0))(h2:∀t,l≤t→t<c→O.blt (k (p.getD (lo+c) 0)) (k (p.getD (lo+t) 0))=true):dG k (x6 p (lo+c) (lo+c - (lo+l))) lo (c+1):=fun i j jd hj=>by
 have hb:∀t,t≤c→(x6 p (lo+c) (lo+c - (lo+l))).getD (lo+t) 0=if t=l then p.getD (lo+c) 0 else if l<t then p.getD (lo+(t - 1)) 0 else p.getD (lo+t) 0:=fun t ht=>by
  rw[Ic hp (by omega)]
  by_cases e:t=l
  ·rw[if_pos (by omega),if_pos e]
  ·rw[if_neg (by omega),if_neg e]
   by_cases e2:l<t
   ·rw[if_pos (by omega),if_pos e2,show lo+t - 1=lo+(t - 1) by omega]
   ·rw[if_neg (by omega),if_neg e2]
 rw[hb i (by omega),hb j (by omega)]
 by_cases ei:i=l
 ·rw[if_pos ei]
  by_cases ej:j=l
  ·rw[if_pos ej];exact KeyOrd.kle_refl _
  ·rw[if_neg ej,if_pos (by omega)]
   exact le_of_lt (h2 (j - 1) (by omega) (by omega))
 ·rw[if_neg ei]
  by_cases e2:l<i
  ·rw[if_pos e2,if_neg (by omega),if_pos (by omega)]
   exact hs (i - 1) (j - 1) (by omega) (by omega)
  ·rw[if_neg e2]
   by_cases ej:j=l
   ·rw[if_pos ej];exact h1 i (by omega)
   ·rw[if_neg ej]
    by_cases e3:l<j
    ·rw[if_pos e3];exact hs i (j - 1) (by omega) (by omega)
    ·rw[if_neg e3];exact hs i j jd (by omega)
theorem Cu(hc:dN O k n I (kas_cmp prog w A κ it)){p:List Nat}(hn:∀y∈p,y<n){lo m ok:Nat}(bH:1≤ok)(hm:ok≤m)(hp:lo+m≤p.length)(hs:dG k p lo ok)(hI:I s){Q:Bool→SortSt→Shared→Prop}
  (q:∀p' s',I s'→Mv lo p p'→dG k p' lo m→Q true (dH κ it p' pd g) s'):kasC (model prog w) A E (binarySort' lo m ok) Q (dH κ it p pd g) s:=by
 rw[binarySort'_eq]
 dsimp only
 refine kasC_bind (bP (Q:=fun c bc s'=>∃p',c=(none,())∧bc=dH κ it p' pd g∧I s'∧Mv lo p p'∧dG k p' lo m) (t5 (fun i c bc s'=>∃p',c=(none,())∧bc=dH κ it p' pd g∧I s'∧Mv lo p p'∧dG k p' lo i) (by omega) ⟨p,rfl,rfl,hI,Mv.refl,by rw[Nat.max_eq_left bH];exact hs⟩ (fun c bc s' h=>h) ?_) ?_)
 ·rintro c b bc s' Ni MT ⟨p',rfl,rfl,i1,i2,i3⟩
  have hl:=i2.len
  have E4:∀y∈p',y<n:=fun y hy=>hn y (i2.perm.mem_iff.mp hy)
  refine kasC_bind (bP (Q:=fun d h8 s2=>∃l,d=(none,l,l)∧h8=dH κ it p' pd g∧I s2∧l≤c∧(∀t,t<l→le k (p'.getD (lo+t) 0) (p'.getD (lo+c) 0))∧∀t,l≤t→t<c→O.blt (k (p'.getD (lo+c) 0)) (k (p'.getD (lo+t) 0))=true) (br (fun j d h8 s2=>∃l r,d=(none,l,r)∧h8=dH κ it p' pd g∧I s2∧l≤r∧r≤c∧r - l≤j∧(∀t,t<l→le k (p'.getD (lo+t) 0) (p'.getD (lo+c) 0))∧∀t,r≤t→t<c→O.blt (k (p'.getD (lo+c) 0)) (k (p'.getD (lo+t) 0))=true) ⟨0,c,rfl,rfl,i1,Nat.zero_le _,Nat.le_refl _,by omega,fun t ht=>by omega,fun t h1 h2=>by omega⟩ ?_ ?_) ?_)
  ·rintro d h8 s2 ⟨l,r,rfl,rfl,j1,j2,j3,j4,j5,j6⟩
   have e:l=r:=by omega
   subst e
   exact⟨l,rfl,rfl,j1,j3,j5,j6⟩
  ·rintro x j d h8 s2 ⟨l,r,rfl,rfl,j1,j2,j3,j4,j5,j6⟩
   dsimp only
   by_cases ZJ:l≥r
   ·rw[if_pos ZJ]
    have e:l=r:=by omega
    subst e
    exact kasC_pure ⟨l,rfl,rfl,j1,j3,j5,j6⟩
   ·rw[if_neg ZJ]
    refine kasC_bind (nC hc E4 (by omega) (by omega) j1 fun s3 HZ=>?_)
    dsimp only
    cases e:O.blt (k (p'.getD (lo+c) 0)) (k (p'.getD (lo+(l+r) /2) 0)) with
    |true=>
     rw[if_pos rfl]
     refine kasC_pure ⟨l,(l+r) /2,rfl,rfl,HZ,by omega,by omega,by omega,j5,fun t h1 h2=>?_⟩
     by_cases ht:t<r
     ·have hle:=i3 ((l+r) /2) t h1 h2
      cases e5:O.blt (k (p'.getD (lo+c) 0)) (k (p'.getD (lo+t) 0)) with
      |true=>rfl
      |false=>
       have:le k (p'.getD (lo+(l+r) /2) 0) (p'.getD (lo+c) 0):=le.trans hle (bZ e5)
       have this:O.blt (k (p'.getD (lo+c) 0)) (k (p'.getD (lo+(l+r) /2) 0))=false:=this
       rw[this] at e
       cases e
     ·exact j6 t (by omega) h2
    |false=>
     rw[if_neg (by simp)]
     refine kasC_pure ⟨(l+r) /2+1,r,rfl,rfl,HZ,by omega,by omega,by omega,fun t ht=>?_,j6⟩
     exact le.trans (i3 t ((l+r) /2) (by omega) (by omega)) (bZ e)
  ·rintro d h8 s2 ⟨l,rfl,rfl,j1,j3,j5,j6⟩
   dsimp only
   refine kasC_bind (Ie (kasC_pure ⟨_,rfl,rfl,j1,⟨(zN ..).trans i2.perm,(zO (by omega) (by omega) (by omega)).trans i2.tk⟩,Ig (by omega) j3 i3 j5 j6⟩))
 ·rintro c bc s' ⟨p',rfl,rfl,i1,i2,i3⟩
  exact kasC_pure (q p' s' i1 i2 i3)
end
end L2
namespace L2
open PySem PySem.Spec PyProof.Rows PySem.W
abbrev U1:=Option Unit×Unit
abbrev U2:=Option Unit×Nat
def U0(pw:Nat):SM (ForInStep U1):=do
 let s←get
 match if (pendingOf s).size>1 then (pendingOf s)[(pendingOf s).size - 2]? else none with
 |some (_,_,o)=>
  if o≤pw then pure (.done (none,()))
  else do
   let b←mergeAt' ((pendingOf s).size - 2)
   if (!b)=true then pure (.done (some (),())) else pure (.yield (none,()))
 |_=>pure (.done (none,()))
def LJ(lo m:Nat):SM (ForInStep U2):=do
 modify fun s=>setPending s ((pendingOf s).push (lo,m,0))
 pure (.yield (none,lo+m))
def Ih(size lo m:Nat):SM (ForInStep U2):=do
 let s←get
 match (pendingOf s).back? with
 |some (x,l,_)=>do
  let c←forIn [0:size] ((none,()):U1) fun _ _=>U0 (power' size (2*x+l) (2*x+l+l+m) size)
  oC c.1 (fun r=>pure (.done (some r,lo))) (do
   modify fun s=>setPending s ((pendingOf s).modify ((pendingOf s).size - 1) fun (a,b,_)=>(a,b,power' size (2*x+l) (2*x+l+l+m) size))
   LJ lo m)
 |_=>LJ lo m
def WU(size mr lo:Nat):SM (ForInStep U2):=if lo≥size then pure (.done (none,lo)) else do
 match←countRun' lo (size - lo) with
 |some f=>
  if f<mr then do
   rule "list.sort.binary-insertion"
   let b←binarySort' lo (min (size - lo) mr) f
   if (!b)=true then pure (.done (some (),lo)) else Ih size lo (min (size - lo) mr)
  else Ih size lo f
 |_=>pure (.done (some (),lo))
def ZK(p:Array (Nat×Nat×Nat)):Nat:=if (if p.size - 2>0 then p[p.size - 2 - 1]?.map (·.2.1) else none).any (· < (p[p.size - 2+1]?.elim 0 (·.2.1))) then p.size - 2 - 1 else p.size - 2
def ZL:SM (ForInStep U1):=do
 let s←get
 if (pendingOf s).size≤1 then pure (.done (none,()))
 else do
  let b←mergeAt' (ZK (pendingOf s))
  if (!b)=true then pure (.done (some (),())) else pure (.yield (none,()))
theorem zP{size lo m:Nat}{f:SM (ForInStep U2)}{g:Nat→Nat→SM (ForInStep U2)}(h:f=(do
  let s←get
  match (pendingOf s).back? with
  |some (x,l,_)=>g x l
  |_=>LJ lo m)) (hg:∀x l,g x l=(do
  let c←forIn [0:size] ((none,()):U1) fun _ _=>U0 (power' size (2*x+l) (2*x+l+l+m) size)
  oC c.1 (fun r=>pure (.done (some r,lo))) (do
   modify fun s=>setPending s ((pendingOf s).modify ((pendingOf s).size - 1) fun (a,b,_)=>(a,b,power' size (2*x+l) (2*x+l+l+m) size))
   LJ lo m))):f=Ih size lo m:=by
 rw[h]
 unfold Ih
 congr 1
 funext s
 rcases (pendingOf s).back? with _| ⟨x,l,z⟩
 ·rfl
 ·exact hg x l
theorem Nj:sortRuns'=(do
  let s←get
  let c←forIn [0:(arrOf s).size] ((none,0):U2) fun _ c=>WU (arrOf s).size (minRun' (arrOf s).size (arrOf s).size 0) c.2
  oC c.1 (fun r=>pure r) (do
   let d←forIn [0:(arrOf s).size] ((none,()):U1) fun _ _=>ZL
   oC d.1 (fun r=>pure r) (pure ()))):=by
 rw[sortRuns'_eq]
 congr 1
 funext s
 dsimp only
 congr 1
 ·congr 1
  funext x c
  obtain⟨r,lo⟩:=c
  unfold WU
  dsimp only
  split
  ·rfl
  ·congr 1
   funext y
   cases y with
   |none=>rfl
   |some f=>
    dsimp only
    split
    ·congr 1
     funext _
     congr 1
     funext b
     split
     ·rfl
     ·refine zP rfl fun x l=>?_
      congr 1
      funext c
      obtain⟨r,z⟩:=c
      cases r<;>rfl
    ·refine zP rfl fun x l=>?_
     congr 1
     funext c
     obtain⟨r,z⟩:=c
     cases r<;>rfl
 ·funext c
  obtain⟨r,lo⟩:=c
  cases r with
  |some r=>rfl
  |none=>
   dsimp only [oC]
   congr 1
   funext d
   obtain⟨r,z⟩:=d
   cases r<;>rfl
end L2
namespace L2
open PySem PySem.Spec PyProof.Rows PySem.W
section
variable {O:KeyOrd}{k:Nat→O.α}
def jT(k:Nat→O.α)(p:List Nat):List (Nat×Nat×Nat)→Nat→Nat→Prop
 | [],a,b=>a=b
 | (x,m,_)::r,a,b=>x=a∧0<m∧dG k p a m∧jT k p r (a+m) b
theorem jT.app{p:List Nat}:∀{r1 r2:List (Nat×Nat×Nat)} {a c:Nat},jT k p (r1++r2) a c↔∃b,jT k p r1 a b∧jT k p r2 b c
 | [],r2,a,c=>⟨fun h=>⟨a,rfl,h⟩,fun⟨b,h1,h2⟩=>by cases h1;exact h2⟩
 | (x,m,w)::r1,r2,a,c=>by
   constructor
   ·rintro ⟨h1,h2,h3,h4⟩
    obtain⟨b,h5,h6⟩:=jT.app.mp h4
    exact⟨b,⟨h1,h2,h3,h5⟩,h6⟩
   ·rintro ⟨b,⟨h1,h2,h3,h5⟩,h6⟩
    exact⟨h1,h2,h3,jT.app.mpr ⟨b,h5,h6⟩⟩
theorem jT.le{p:List Nat}:∀{r:List (Nat×Nat×Nat)} {a b:Nat},jT k p r a b→a+r.length≤b
 | [],a,b,h=>by cases h;exact Nat.le_refl _
 | (x,m,w)::r,a,b,⟨h1,h2,h3,h4⟩=>by
   have:=jT.le h4
   rw[List.length_cons]
   omega
theorem jT.keep{p p':List Nat}:∀{r:List (Nat×Nat×Nat)} {a b:Nat},jT k p r a b→(∀t,a≤t→t<b→p'.getD t 0=p.getD t 0)→jT k p' r a b
 | [],a,b,h,_=>h
 | (x,m,w)::r,a,b,⟨h1,h2,h3,h4⟩,hk=>by
   have hl:=jT.le h4
   refine⟨h1,h2,fun i j jd hj=>?_,jT.keep h4 fun t h5 h6=>hk t (by omega) h6⟩
   rw[hk (a+i) (by omega) (by omega),hk (a+j) (by omega) (by omega)]
   exact h3 i j jd hj
theorem jT.mod{p:List Nat}{f:Nat×Nat×Nat→Nat×Nat×Nat}(hf:∀x,(f x).1=x.1∧(f x).2.1=x.2.1):∀{r:List (Nat×Nat×Nat)} {i a b:Nat},jT k p r a b→jT k p (r.modify i f) a b
 | [],i,a,b,h=>by cases i<;>exact h
 |x::r,0,a,b,h=>by
  obtain⟨x1,x2,x3⟩:=x
  obtain⟨h1,h2,h3,h4⟩:=h
  have e:=hf (x1,x2,x3)
  show jT k p (f (x1,x2,x3)::r) a b
  generalize f (x1,x2,x3)=z at e
  obtain⟨z1,z2,z3⟩:=z
  obtain⟨e1,e2⟩:=e
  dsimp only at e1 e2
  subst e1 e2
  exact⟨h1,h2,h3,h4⟩
 | (x1,x2,x3)::r,i+1,a,b,⟨h1,h2,h3,h4⟩=>by
   show jT k p ((x1,x2,x3)::r.modify i f) a b
   exact⟨h1,h2,h3,jT.mod hf h4⟩
theorem Ii{r:List (Nat×Nat×Nat)}{i:Nat}(h:i+1<r.length):∃r1 u v r2,r=r1++u::v::r2∧r1.length=i:=by
 refine⟨r.take i,r[i],r[i+1],r.drop (i+2),?_,by rw[List.length_take];omega⟩
 rw[←List.drop_eq_getElem_cons (by omega),←List.drop_eq_getElem_cons (by omega),List.take_append_drop]
theorem Ij{r1 r2:List (Nat×Nat×Nat)}{u v z:Nat×Nat×Nat}:((r1++u::v::r2).set r1.length z).eraseIdx (r1.length+1)=r1++z::r2:=by
 induction r1 with
 |nil=>rfl
 |cons x r ih=>simp only [List.cons_append,List.length_cons,List.set_cons_succ,List.eraseIdx_cons_succ,ih]
theorem Ik{p S:List Nat}{x m:Nat}(hp:x+m≤p.length)(hS:S.length=m)(t:Nat):(p.take x++S++p.drop (x+m)).getD t 0=if t<x then p.getD t 0 else if t<x+m then S.getD (t - x) 0 else p.getD t 0:=by
 have l1:(p.take x).length=x:=by rw[List.length_take];omega
 simp only [List.getD_eq_getElem?_getD]
 by_cases h1:t<x
 ·rw[if_pos h1,List.append_assoc,List.getElem?_append_left (by omega),List.getElem?_take,if_pos h1]
 ·rw[if_neg h1]
  by_cases h2:t<x+m
  ·rw[if_pos h2,List.getElem?_append_left (by rw[List.length_append];omega),List.getElem?_append_right (by omega),l1]
  ·rw[if_neg h2,List.getElem?_append_right (by rw[List.length_append];omega),List.length_append,l1,hS,List.getElem?_drop]
   congr 2
   omega
end
section
variable {prog:Program}{w:World}{A:Around}{E:Value→Shared→Prop}{κ:SortKind}{it:Array Keyed}{O:KeyOrd}{k:Nat→O.α}{n:Nat}{I:Shared→Prop}{s:Shared}{pd:Array (Nat×Nat×Nat)}{g:Nat}
theorem p7{p:List Nat}{x m:Nat}(hp:x+m≤p.length)(h:dG k p x m):gf k (seg p x m):=by
 refine List.pairwise_iff_getElem.mpr fun i j hi hj jd=>?_
 have lA:=d6 (p:=p) (a:=x) (m:=m) hp
 have e:∀t (ht:t< (seg p x m).length),(seg p x m)[t]=p.getD (x+t) 0:=fun t ht=>by
  rw[←seg_at (p:=p) (a:=x) (m:=m) (by omega)]
  simp [List.getD,ht]
 rw[e i hi,e j hj]
 exact h i j (by omega) (by omega)
theorem vo(hc:dN O k n I (kas_cmp prog w A κ it)){p:List Nat}(hn:∀y∈p,y<n){hi i:Nat}(hv:jT k p pd.toList 0 hi)(hh:hi≤p.length)(hs:i+1<pd.size)(hI:I s){Q:Bool→SortSt→Shared→Prop}
  (q:∀p' cL g' s',I s'→p'.Perm p→(∀t,hi≤t→p'.getD t 0=p.getD t 0)→jT k p' cL.toList 0 hi→cL.size+1=pd.size→Q true (dH κ it p' cL g') s'):kasC (model prog w) A E (mergeAt' i) Q (dH κ it p pd g) s:=by
 obtain⟨r1,⟨x,m,pw⟩,⟨y,l,WO⟩,r2,er,WV⟩:=Ii (r:=pd.toList) (i:=i) (by simpa using hs)
 rw[er] at hv
 obtain⟨b,v1,hx,hm,sA,hy,hl,sB,v2⟩:=jT.app.mp hv
 subst hx hy
 have hle:=jT.le v2
 have g1:pd[i]? =some (x,m,pw):=by rw[←Array.getElem?_toList,er,←WV];simp
 have g2:pd[i+1]? =some (x+m,l,WO):=by rw[←Array.getElem?_toList,er,←WV];simp
 refine HW hc g1 g2 hm hl (by omega) hn (p7 (by omega) sA) (p7 (by omega) sB) hI fun S g' s' f' hP hS=>?_
 have lS:S.length=m+l:=by rw[hP.length_eq,List.length_append,d6 (by omega),d6 (by omega)]
 have at':=Ik (p:=p) (S:=S) (x:=x) (m:=m+l) (by omega) lS
 rw[show x+(m+l)=x+m+l by omega] at at'
 have tl:((pd.setIfInBounds i (x,m+l,pw)).eraseIdxIfInBounds (i+1)).toList=r1++(x,m+l,pw)::r2:=by
  simp only [Array.toList_eraseIdxIfInBounds,Array.toList_setIfInBounds,er,←WV]
  exact Ij
 refine q _ _ g' s' f' ?_ (fun t ht=>by rw[at' t,if_neg (by omega),if_neg (by omega)]) ?_ ?_
 ·have e:=zE p x (m+l)
  rw[show x+(m+l)=x+m+l by omega,←mw] at e
  exact((hP.append_left (p.take x)).append_right (p.drop (x+m+l))).trans (List.Perm.of_eq e)
 ·rw[tl]
  refine jT.app.mpr ⟨x,v1.keep fun t _ h2=>by rw[at' t,if_pos h2],rfl,by omega,fun i j jd hj=>?_,by rw[show x+(m+l)=x+m+l by omega];exact v2.keep fun t h1 _=>by rw[at' t,if_neg (by omega),if_neg (by omega)]⟩
  rw[at' (x+i),at' (x+j),if_neg (by omega),if_pos (by omega),if_neg (by omega),if_pos (by omega),Nat.add_sub_cancel_left,Nat.add_sub_cancel_left]
  exact p6 hS jd (by omega)
 ·have e1:pd.size=r1.length+(r2.length+2):=by
   have:=congrArg List.length er
   simpa using this
  have e2:((pd.setIfInBounds i (x,m+l,pw)).eraseIdxIfInBounds (i+1)).size=r1.length+(r2.length+1):=by
   rw[←Array.length_toList,tl]
   simp
  omega
structure Std(k:Nat→O.α)(p0 p:List Nat)(pd:Array (Nat×Nat×Nat))(hi:Nat):Prop where
 perm:p.Perm p0
 Il:jT k p pd.toList 0 hi
theorem Im(hc:dN O k n I (kas_cmp prog w A κ it)){p0 p:List Nat}(hn:∀y∈p0,y<n){hi size pw:Nat}(hS:Std k p0 p pd hi)(hh:hi≤p0.length)(hI:I s){Q:U1→SortSt→Shared→Prop}
  (q:∀p' cL g' s',I s'→Std k p0 p' cL hi→(∀t,hi≤t→p'.getD t 0=p.getD t 0)→Q (none,()) (dH κ it p' cL g') s'):kasC (model prog w) A E (forIn [0:size] ((none,()):U1) fun _ _=>U0 pw) Q (dH κ it p pd g) s:=by
 refine br (fun _ c bc s'=>∃p' cL g',c=(none,())∧bc=dH κ it p' cL g'∧I s'∧Std k p0 p' cL hi∧∀t,hi≤t→p'.getD t 0=p.getD t 0) ⟨p,pd,g,rfl,rfl,hI,hS,fun _ _=>rfl⟩ ?_ ?_
 ·rintro c bc s' ⟨p',cL,g',rfl,rfl,i1,i2,i3⟩
  exact q p' cL g' s' i1 i2 i3
 ·rintro x j c bc s' ⟨p',cL,g',rfl,rfl,i1,i2,i3⟩
  unfold U0
  refine kasC_bind (kasC_get ?_)
  have hl:p'.length=p0.length:=i2.perm.length_eq
  show kasC (model prog w) A E (match (if cL.size>1 then cL[cL.size - 2]? else none) with|some (_,_,o)=>_|_=>_) _ _ _
  by_cases h2:cL.size>1
  ·rw[if_pos h2,Array.getElem?_eq_getElem (show cL.size - 2<cL.size by omega)]
   obtain⟨a,b,o⟩:=cL[cL.size - 2]
   dsimp only
   by_cases ho:o≤pw
   ·rw[if_pos ho]
    exact kasC_pure (q p' cL g' s' i1 i2 i3)
   ·rw[if_neg ho]
    refine kasC_bind (vo hc (fun y hy=>hn y (i2.perm.mem_iff.mp hy)) i2.Il (by omega) (by show cL.size - 2+1<cL.size;omega) i1 fun p2 WW g2 s2 fJ hP hk hC _=>?_)
    rw[if_neg (by simp)]
    exact kasC_pure ⟨p2,WW,g2,rfl,rfl,fJ,⟨hP.trans i2.perm,hC⟩,fun t ht=>(hk t ht).trans (i3 t ht)⟩
  ·rw[if_neg h2]
   exact kasC_pure (q p' cL g' s' i1 i2 i3)
theorem zQ{p0 p:List Nat}{lo m:Nat}(hS:Std k p0 p pd lo)(hm:0<m)(hi:dG k p lo m)(hI:I s){Q:ForInStep U2→SortSt→Shared→Prop}
  (q:∀p' cL g' s',I s'→Std k p0 p' cL (lo+m)→Q (.yield (none,lo+m)) (dH κ it p' cL g') s'):kasC (model prog w) A E (LJ lo m) Q (dH κ it p pd g) s:=by
 unfold LJ
 refine kasC_bind (kasC_modify (kasC_pure (q p (pd.push (lo,m,0)) g s hI ⟨hS.perm,?_⟩)))
 rw[Array.toList_push]
 exact jT.app.mpr ⟨lo,hS.Il,rfl,hm,hi,rfl⟩
theorem Io(hc:dN O k n I (kas_cmp prog w A κ it)){p0 p:List Nat}(hn:∀y∈p0,y<n){size lo m:Nat}(hS:Std k p0 p pd lo)(hm:0<m)(hi:dG k p lo m)(hh:lo+m≤p0.length)(hI:I s){Q:ForInStep U2→SortSt→Shared→Prop}
  (q:∀p' cL g' s',I s'→Std k p0 p' cL (lo+m)→Q (.yield (none,lo+m)) (dH κ it p' cL g') s'):kasC (model prog w) A E (Ih size lo m) Q (dH κ it p pd g) s:=by
 unfold Ih
 refine kasC_bind (kasC_get ?_)
 show kasC (model prog w) A E (match pd.back? with|some (x,l,_)=>_|_=>_) _ _ _
 rcases pd.back? with _| ⟨x,l,z⟩
 ·exact zQ hS hm hi hI q
 ·dsimp only
  refine kasC_bind (Im hc hn hS (by omega) hI fun p' cL g' s' f' ZM hk=>?_)
  dsimp only [oC]
  refine kasC_bind (kasC_modify ?_)
  refine zQ (pd:=cL.modify (cL.size - 1) _) (p0:=p0) (p:=p') ⟨ZM.perm,?_⟩ hm (fun i j jd hj=>?_) f' q
  ·rw[Array.toList_modify]
   exact jT.mod (f:=fun z=>(z.1,z.2.1,power' size (2*x+l) (2*x+l+l+m) size)) (fun x=>⟨rfl,rfl⟩) ZM.Il
  ·rw[hk _ (by omega),hk _ (by omega)]
   exact hi i j jd hj
theorem zR{p p':List Nat}{lo t:Nat}(h:p'.take lo=p.take lo)(ht:t<lo):p'.getD t 0=p.getD t 0:=by
 have:=congrArg (fun l:List Nat=>l[t]?) h
 simp only [List.getElem?_take,if_pos ht] at this
 rw[List.getD_eq_getElem?_getD,List.getD_eq_getElem?_getD,this]
theorem Std.mv{p0 p p':List Nat}{lo:Nat}(h:Std k p0 p pd lo)(m:Mv lo p p'):Std k p0 p' pd lo:=⟨m.perm.trans h.perm,h.Il.keep fun t _ h2=>zR m.tk h2⟩
theorem zS(hc:dN O k n I (kas_cmp prog w A κ it)){p:List Nat}(hn:∀y∈p,y<n)(h1:1≤p.length)(hI:I s){Q:Unit→SortSt→Shared→Prop}
  (q:∀p' cL g' s',I s'→p'.Perm p→gf k p'→Q () (dH κ it p' cL g') s'):kasC (model prog w) A E sortRuns' Q (dH κ it p #[] g) s:=by
 rw[Nj]
 refine kasC_bind (kasC_get ?_)
 have es:(arrOf (dH κ it p #[] g)).size=p.length:=ba p
 rw[es]
 refine kasC_bind (bP (Q:=fun c bc s'=>∃p' cL g',c=(none,p.length)∧bc=dH κ it p' cL g'∧I s'∧Std k p p' cL p.length) (br (fun j c bc s'=>∃lo p' cL g',c=(none,lo)∧bc=dH κ it p' cL g'∧I s'∧Std k p p' cL lo∧lo≤p.length∧p.length≤lo+j) ⟨0,p,#[],g,rfl,rfl,hI,⟨List.Perm.refl _,rfl⟩,Nat.zero_le _,by omega⟩ ?_ ?_) ?_)
 ·rintro c bc s' ⟨lo,p',cL,g',rfl,rfl,i1,i2,i3,i4⟩
  have e:lo=p.length:=by omega
  subst e
  exact⟨p',cL,g',rfl,rfl,i1,i2⟩
 ·rintro x j c bc s' ⟨lo,p',cL,g',rfl,rfl,i1,i2,i3,i4⟩
  have hl:p'.length=p.length:=i2.perm.length_eq
  have E4:∀y∈p',y<n:=fun y hy=>hn y (i2.perm.mem_iff.mp hy)
  unfold WU
  dsimp only
  by_cases Ly:lo≥p.length
  ·rw[if_pos Ly]
   have e:lo=p.length:=by omega
   subst e
   exact kasC_pure ⟨p',cL,g',rfl,rfl,i1,i2⟩
  rw[if_neg Ly]
  refine kasC_bind (wU hc E4 (by omega) (by omega) i1 fun f p2 s2 fJ f1 f2 hv hs=>?_)
  dsimp only
  have Fu:=i2.mv hv
  have go:∀m p3 s3,I s3→Std k p p3 cL lo→0<m→lo+m≤p.length→dG k p3 lo m→∀{R:ForInStep U2→SortSt→Shared→Prop},(∀p4 LK g4 s4,I s4→Std k p p4 LK (lo+m)→R (.yield (none,lo+m)) (dH κ it p4 LK g4) s4)→kasC (model prog w) A E (Ih p.length lo m) R (dH κ it p3 cL g') s3:=fun m p3 s3 a1 a2 a3 a4 a5 R hR=>Io hc hn a2 a3 a5 a4 a1 hR
  split
  ·refine kasC_bind (kasC_lift (wpAny_rule (kasC_bind (Cu hc (fun y hy=>hn y (Fu.perm.mem_iff.mp hy)) f1 (by omega) (by rw[Fu.perm.length_eq];omega) hs fJ fun p3 s3 HZ hv3 iF=>?_))))
   rw[if_neg (by simp)]
   exact go _ p3 s3 HZ (Fu.mv hv3) (by omega) (by omega) iF fun p4 LK g4 s4 b1 b2=>⟨_,p4,LK,g4,rfl,rfl,b1,b2,by omega,by omega⟩
  ·exact go f p2 s2 fJ Fu (by omega) (by omega) hs fun p4 LK g4 s4 b1 b2=>⟨_,p4,LK,g4,rfl,rfl,b1,b2,by omega,by omega⟩
 ·rintro c bc s' ⟨p',cL,g',rfl,rfl,i1,i2⟩
  dsimp only [oC]
  refine kasC_bind (bP (Q:=fun c bc s'=>∃p' cL g',c=(none,())∧bc=dH κ it p' cL g'∧I s'∧Std k p p' cL p.length∧cL.size≤1) (br (fun j c bc s'=>∃p' cL g',c=(none,())∧bc=dH κ it p' cL g'∧I s'∧Std k p p' cL p.length∧cL.size≤j+1) ⟨p',cL,g',rfl,rfl,i1,i2,by have:=i2.Il.le;rw[Array.length_toList] at this;omega⟩ ?_ ?_) ?_)
  ·rintro c bc s' ⟨p',cL,g',rfl,rfl,i1,i2,i3⟩
   exact⟨p',cL,g',rfl,rfl,i1,i2,by omega⟩
  ·rintro x j c bc s' ⟨p',cL,g',rfl,rfl,i1,i2,i3⟩
   unfold ZL
   refine kasC_bind (kasC_get ?_)
   show kasC (model prog w) A E (if cL.size≤1 then _ else _) _ _ _
   by_cases LL:cL.size≤1
   ·rw[if_pos LL]
    exact kasC_pure ⟨p',cL,g',rfl,rfl,i1,i2,LL⟩
   rw[if_neg LL]
   have f':ZK cL+1<cL.size:=by
    have:∀c:Bool,(if c=true then cL.size - 2 - 1 else cL.size - 2)+1<cL.size:=fun c=>by cases c<;>simp<;>omega
    exact this _
   refine kasC_bind (vo hc (fun y hy=>hn y (i2.perm.mem_iff.mp hy)) i2.Il (by rw[i2.perm.length_eq];exact Nat.le_refl _) f' i1 fun p2 WW g2 s2 fJ hP hk hC hz=>?_)
   rw[if_neg (by simp)]
   exact kasC_pure ⟨p2,WW,g2,rfl,rfl,fJ,⟨hP.trans i2.perm,hC⟩,by omega⟩
  ·rintro c bc s' ⟨p',cL,g',rfl,rfl,i1,i2,i3⟩
   dsimp only [oC]
   refine kasC_pure (q p' cL g' s' i1 i2.perm ?_)
   have hv:=i2.Il
   have hl:p'.length=p.length:=i2.perm.length_eq
   have lz:cL.toList.length≤1:=by rw[Array.length_toList];exact i3
   generalize cL.toList=r at hv lz
   match r,hv,lz with
   | [],hv,_=>
     have hv:0=p.length:=hv
     omega
   | [(x,m,z)],⟨_,h2,h3,h4⟩,_=>
     have h4:0+m=p.length:=h4
     have e:=p7 (p:=p') (x:=0) (m:=m) (by omega) h3
     unfold seg at e
     rw[List.drop_zero,List.take_of_length_le (by omega)] at e
     exact e
end
end L2
namespace L2
open PySem PySem.Spec PyProof.Rows PySem.SeqAt PySem.W
section
variable {prog:Program}{w:World}{A:Around}{E:Value→Shared→Prop}{s:Shared}
theorem Nk{O:KeyOrd}{k:Nat→O.α}{κ:SortKind}{it:Array Keyed}(hc:dN O k it.size (fun s'=>s'=s) (kas_cmp prog w A κ it))(h1:1≤it.size){Q:Unit×SortSt→Shared→Prop}
  (q:∀p pd g,p.Perm (List.range it.size)→gf k p→Q ((),dH κ it p pd g) s):wpAny (model prog w) A (sortRuns'.run (SortSt.mk' κ it #[] 7 none)) Q E s:=by
 have e:SortSt.mk' κ it #[] 7 none=dH κ it (List.range it.size) #[] 7:=by
  show _=SortSt.mk' κ (ar it (List.range it.size)) #[] 7 none
  rw[dz,kas_range]
 rw[e]
 exact zS (Q:=fun _ st s'=>Q ((),st) s') hc (p:=List.range it.size) (fun y hy=>List.mem_range.mp hy) (by rw[List.length_range];exact h1) rfl fun p' cL g' s' hs hp hi=>by subst hs;exact q p' cL g' hp hi
theorem rK{a:Addr}{vs:List Value}{cs:List (List Int)}{m n:Nat}{P:PySem.Fin→Shared→Prop}(hu:A.units<cLine)(ho:s.heap.get? a=some (seqObj "list" vs.toArray n))(hz:vs.length≤sizeLine)
  (cv:∀h',(∀b o,s.heap.get? b=some o→b≠a→h'.get? b=some o)→gL h' m vs cs)
  (h:∀p:List Nat,p.Perm (List.range vs.length)→gf (O:=tS) (fun i=>cs.getD i []) p→P (.done (.ret .none)) { s with heap:=sortedHeap s.heap a vs (List.toArray (p.map fun i=>vs.getD i Value.none)) }):
  wpAny (model prog w) A (Builtin.«list.sort» ⟨[.ref a],[]⟩) P E s:=by
 rw[list_sort_plain]
 have ha:a<s.heap.objs.size:=Heap.lt_size ho
 refine wpAny_bind (listItems_at ho rfl ?_)
 refine wpAny_bind (listUpdate_at ho rfl ?_ (by rw[List.size_toArray];exact hz) (Nat.zero_le _))
 obtain⟨e1,Nl⟩:∃e1,(s.heap.update a (Obj.mapSeq fun _=>#[])).get? a=some (seqObj "list" #[] e1):=⟨_,get?_update_seq ho (fun _=>#[])⟩
 refine wpAny_bind (seqEpoch_at Nl rfl ?_)
 refine wpAny_bind (wpAny_newTuple ?_ hz)
 refine wpAny_bind (wpAny_newList ?_ (Nat.zero_le _))
 refine wpAny_holding ?_
 have U3:(((s.heap.update a (Obj.mapSeq fun _=>#[])).push (seqObj "tuple" vs.toArray 0)).push (seqObj "list" #[] 0)).get? a=some (seqObj "list" #[] e1):=by
  rw[Heap.get?_push_ne _ _ _ (by rw[size_push',Heap.size_update];exact Nat.ne_of_lt (Nat.lt_succ_of_lt ha)),Heap.get?_push_ne _ _ _ (by rw[Heap.size_update];exact Nat.ne_of_lt ha)]
  exact Nl
 have keep:∀b o,s.heap.get? b=some o→b≠a→(((s.heap.update a (Obj.mapSeq fun _=>#[])).push (seqObj "tuple" vs.toArray 0)).push (seqObj "list" #[] 0)).get? b=some o:=fun b o hb ve=>
  Heap.get?_push_of_some _ (Heap.get?_push_of_some _ (by rw[Heap.get?_update_ne _ _ _ _ ve];exact hb))
 have C:=cv _ keep
 show wpAny (model prog w) A _ P E { s with heap:=((s.heap.update a (Obj.mapSeq fun _=>#[])).push (seqObj "tuple" vs.toArray 0)).push (seqObj "list" #[] 0) }
 dsimp only
 have pI:vs.toArray.size=vs.length:=by simp
 have eo:∀p:List Nat,(ar (pairsOf vs) p).map (·.2)=List.toArray (p.map fun i=>vs.getD i Value.none):=fun p=>by
  apply Array.toList_inj.mp
  unfold ar
  rw[Array.toList_map,List.toList_toArray,List.map_map]
  exact List.map_congr_left fun i _=>by show (kas_item (pairsOf vs) i).2=_;rw[kas_item_eq]
 have er:pairsOf vs=ar (pairsOf vs) (List.range vs.length):=by
  rw[dz,←pairsOf_size vs,kas_range]
 have ZN:∀p:List Nat,p.Perm (List.range vs.length)→(List.toArray (p.map fun i=>vs.getD i Value.none)).size≤sizeLine+1:=fun p hp=>by
  rw[List.size_toArray,List.length_map,hp.length_eq,List.length_range];omega
 by_cases h2:vs.toArray.size<2
 ·rw[if_pos h2,if_pos h2]
  refine wpAny_bind (wpAny_pure ?_)
  rw[StateT.run_pure]
  refine wpAny_bind (wpAny_pure ?_)
  dsimp only
  have eo:(arrOf (SortSt.mk' general' (vs.toArray.zip vs.toArray) #[] 7 none)).map (·.2)=List.toArray ((List.range vs.length).map fun i=>vs.getD i Value.none):=by
   show (pairsOf vs).map (·.2)=_
   rw[er]
   exact eo _
  rw[eo]
  refine wpAny_bind (seqEpoch_at U3 rfl ?_)
  refine wpAny_bind (listUpdate_at U3 rfl ?_ (Nat.zero_le _) (ZN _ (List.Perm.refl _)))
  simp only [bne_self_eq_false,Bool.false_eq_true,if_false]
  refine wpAny_pure (h (List.range vs.length) (List.Perm.refl _) ?_)
  refine List.pairwise_iff_getElem.mpr fun i j hi hj jd=>?_
  rw[List.length_range] at hi hj
  omega
 ·rw[if_neg h2,if_neg h2]
  have MU:2≤vs.length:=by omega
  refine wpAny_bind (kas_kind (T:=Value.type "list") MU (fun v hv=>?_) (by decide) (by decide) ?_)
  ·obtain⟨i,hi⟩:=List.getElem?_of_mem hv
   have gK:=(List.getElem?_eq_some_iff.mp hi).1
   obtain⟨b,us,e1,⟨o,e2,e3,_⟩,_⟩:=C.at' i gK
   have:v= .ref b:=by rw[←e1,List.getD_eq_getElem?_getD,hi];rfl
   rw[this]
   exact kitAt_ty _ _ ⟨o,e2,e3⟩
  generalize lX:({ s with heap:=((s.heap.update a (Obj.mapSeq fun _=>#[])).push (seqObj "tuple" vs.toArray 0)).push (seqObj "list" #[] 0) }:Shared)=s6
  have C6:gL s6.heap m vs cs:=by rw[←lX];exact C
  have asks:dN tS (fun i=>cs.getD i []) (pairsOf vs).size (fun s'=>s'=s6) (kas_cmp prog w A oneType' (pairsOf vs)):=by
   intro i j K s' hi hj e hK
   rw[pairsOf_size] at hi hj
   subst e
   unfold kas_cmp
   rw[kas_item_eq,kas_item_eq,keyLt'_oneType]
   obtain⟨b,us,e1,e2,e3,e4⟩:=C6.at' i hi
   obtain⟨b',us',e1',e2',e3',e4'⟩:=C6.at' j hj
   show wpAny _ _ (oneLt' true (vs.getD i Value.none) (vs.getD j Value.none)) _ _ _
   rw[e1,e1']
   exact rq e2 e2' e3 e3' (by rw[e4,e4']) hu (hK _ rfl)
  refine wpAny_bind (Nk (it:=pairsOf vs) asks (by rw[pairsOf_size];omega) fun p pd g hp hi=>?_)
  subst lX
  rw[pairsOf_size] at hp
  dsimp only
  have Ip:(arrOf (dH oneType' (pairsOf vs) p pd g)).map (·.2)=List.toArray (p.map fun i=>vs.getD i Value.none):=eo p
  rw[Ip]
  refine wpAny_bind (seqEpoch_at U3 rfl ?_)
  refine wpAny_bind (listUpdate_at U3 rfl ?_ (Nat.zero_le _) (ZN _ hp))
  simp only [bne_self_eq_false,Bool.false_eq_true,if_false]
  exact wpAny_pure (h p hp hi)
theorem oA{l:Addr}{vs:List Value}{cs:List (List Int)}{m:Nat}{Q:Value→Shared→Prop}(hu:A.in1.in1.units<cLine)(hl:s.heap.IsList l vs.toArray)(hz:vs.length≤sizeLine)(cv:gL s.heap m vs cs)
  (h:∀p:List Nat,p.Perm (List.range vs.length)→gf (O:=tS) (fun i=>cs.getD i []) p→Q (.ref (s.heap.objs.size+1)) { s with heap:=sortedAll s.heap vs (List.toArray (p.map fun i=>vs.getD i Value.none)) }):
  wpAny (model prog w) A (call (.builtin "sorted") [.ref l]) Q E s:=by
 refine Calls.call_function_entry kind_sorted plain_sorted entry_sorted (args_sorted1 _) ?_
 unfold Builtin.«sorted»
 refine wpAny_bind (m:=checkCount "sorted" 1 1 _) (wpAny_pure ?_)
 refine wpAny_bind (collect_list hl ?_ hz)
 refine wpAny_bind (wpAny_newList ?_ hz)
 have pI:((s.heap.push (seqObj "list" #[] 0)).update s.heap.objs.size (Obj.mapSeq (·++vs.toArray))).objs.size=s.heap.objs.size+1:=by
  rw[Heap.size_update,size_push']
 have E5:(((s.heap.push (seqObj "list" #[] 0)).update s.heap.objs.size (Obj.mapSeq (·++vs.toArray))).push (seqObj "list" vs.toArray 0)).get? (s.heap.objs.size+1)=some (seqObj "list" vs.toArray 0):=by
  rw[←pI];exact Heap.get?_push_size _ rfl
 have keep:∀b o,s.heap.get? b=some o→(((s.heap.push (seqObj "list" #[] 0)).update s.heap.objs.size (Obj.mapSeq (·++vs.toArray))).push (seqObj "list" vs.toArray 0)).get? b=some o:=fun b o q=>by
  have l9:b<s.heap.objs.size:=Heap.lt_size q
  rw[Heap.get?_push_ne _ _ _ (by rw[pI];exact Nat.ne_of_lt (Nat.lt_succ_of_lt l9)),Heap.get?_update_ne _ _ _ _ (Nat.ne_of_lt l9),Heap.get?_push_ne _ _ _ (Nat.ne_of_lt l9)]
  exact q
 show wpAny _ _ _ _ _ { s with heap:=((s.heap.push (seqObj "list" #[] 0)).update s.heap.objs.size (Obj.mapSeq (·++vs.toArray))).push (seqObj "list" vs.toArray 0) }
 rw[pI]
 refine wpAny_bind (wpAny_holding (wpAny_call_entry slot_list_sort ⟨_,E5,rfl⟩ entry_list_sort (rK hu E5 hz (fun h' k=>cv.keep fun b o hb=>k b o (keep b o hb) (Nat.ne_of_lt (Nat.lt_succ_of_lt (Heap.lt_size hb)))) fun p a1 a2=>⟨_,rfl,?_⟩) (args_list_sort _)))
 exact wpAny_pure ⟨_,rfl,h p a1 a2⟩
end
section
variable {X:Cx}
theorem picked{as:List Addr}{ps:List Nat}(hp:ps.Perm (List.range as.length)):(ps.map fun i=>(as.map Value.ref).getD i Value.none)=(ps.map fun i=>as.getD i 0).map Value.ref:=by
 rw[List.map_map]
 refine List.map_congr_left fun i hi=>?_
 have hi:=List.mem_range.mp (hp.mem_iff.mp hi)
 rw[List.getD_eq_getElem?_getD,List.getElem?_map,List.getElem?_eq_getElem hi]
 show _=Value.ref (as.getD i 0)
 rw[List.getD_eq_getElem?_getD,List.getElem?_eq_getElem hi]
 rfl
theorem jU(hu:X.A.units+64<cLine):fo X (.builtin "sorted") (fun xs H Q=>∃(p:Addr) (as:List Addr) (cs:List (List Int)) (m:Nat),xs=[.ref p]∧aD X.K H p (as.map V.ref)∧dW X.K H as cs∧(∀c∈cs,c.length=m)∧
  ∀(l:Addr) (ps:List Nat),ps.Perm (List.range as.length)→(ps.map fun i=>cs.getD i []).Pairwise (fun a b=>¬b<a)→H l=none→Q (.ref l) (upd H l (.lst ((ps.map fun i=>as.getD i 0).map V.ref)))):=by
 intro pins s σ H xs us Q I r h
 obtain⟨p,as,cs,m,rfl,hS,fK,hm,q⟩:=h
 obtain⟨u,rfl,ru⟩:=vals1 r
 cases ru
 obtain⟨its,rv,pl,hz⟩:=I.list hS
 have ei:=jq rv
 subst ei
 have WX:=fK.length
 have cv:gL s.heap m (as.map Value.ref) cs:=⟨by rw[List.length_map,WX],fun i hi=>by
  rw[List.length_map] at hi
  obtain⟨c,hc,hs⟩:=fK.get (List.getElem?_eq_getElem hi)
  obtain⟨ws,xW,pw,_⟩:=I.list hs
  have ec:cs.getD i []=c:=by rw[List.getD_eq_getElem?_getD,hc];rfl
  exact⟨as[i],ws,by rw[List.getD_eq_getElem?_getD,List.getElem?_map,List.getElem?_eq_getElem hi];rfl,pw.isList,by rw[ec];exact intsAre_of xW,by rw[ec];exact hm c (List.mem_of_getElem? hc)⟩⟩
 rw[List.length_map] at hz
 refine oA (by show X.A.units+1+1<cLine;omega) pl.isList (by rw[List.length_map];exact hz) cv fun pp hp hi=>?_
 rw[List.length_map] at hp
 rw[picked hp]
 have WY:(pp.map fun i=>as.getD i 0).length=as.length:=by rw[List.length_map,hp.length_eq,List.length_range]
 have hq:=q (s.heap.objs.size+1) pp hp (by
  rw[List.pairwise_map]
  refine List.Pairwise.imp (fun {a b} oh=>?_) hi
  have oh:decide (cs.getD b [] <cs.getD a [])=false:=oh
  simpa using oh) (I.bH.fresh (Nat.le_succ _))
 generalize (pp.map fun i=>as.getD i 0)=bs at*
 obtain⟨e,he⟩:=sortedAll_at s.heap (as.map Value.ref) (bs.map Value.ref).toArray
 have le:s.heap.objs.size≤s.heap.objs.size+1:=Nat.le_succ _
 refine⟨.ref (s.heap.objs.size+1),_,I.laid (t':=s.toks) (o:= .lst (bs.map V.ref)) (fun b ob q=>sortedAll_old q) le ⟨?_,bs.map Value.ref,e,gM bs,?_⟩,rfl,hq⟩
 ·rw[List.length_map,WY]
  exact hz
 ·rw[he]
end
end L2
namespace L2
open PySem PySem.Spec PyProof.Rows PySem.SeqAt PySem.W
@[reducible] def p8:KeyOrd where
  α:=Int
  blt a b:=decide (a<b)
  irrefl a:=by simp
  trans a b c h1 h2:=by simp only [decide_eq_true_eq] at*;omega
  negTrans a b c h:=by simp only [decide_eq_true_eq] at*;omega
  total a b h1 h2:=by simp only [decide_eq_false_iff_not] at*;omega
section
variable {prog:Program}{w:World}{A:Around}{E:Value→Shared→Prop}{s:Shared}
theorem WZ{keys:Array Value}{vs:List Value}{i:Nat}(hk:keys.size=vs.length)(hi:i<vs.length):kas_item (keys.zip vs.toArray) i=(keys.toList.getD i Value.none,vs.getD i Value.none):=by
 have h1:i<keys.size:=by omega
 have h2:i< (keys.zip vs.toArray).size:=by rw[Array.size_zip,hk,List.size_toArray,Nat.min_self];exact hi
 unfold kas_item Array.getD
 rw[dif_pos h2]
 show (keys.zip vs.toArray)[i]=_
 rw[Array.getElem_zip]
 simp [hi,h1]
def zT(k:Int)(s':Shared)(u:Value)(tJ:Shared):Prop:=∃h' tk t,tJ={ s' with heap:=h',toks:=tk }∧u= .int k t∧∀b o,s'.heap.get? b=some o→h'.get? b=some o
theorem wV{a:Addr}{vs:List Value}{kz:List Int}{f:Value}{n:Nat}{P:PySem.Fin→Shared→Prop}(ho:s.heap.get? a=some (seqObj "list" vs.toArray n))(hz:vs.length≤sizeLine)(hlen:kz.length=vs.length)
  (turn:∀(i:Nat) (v:Value),vs[i]? =some v→∀h' tk,(∀b o,s.heap.get? b=some o→b≠a→h'.get? b=some o)→wpAny (model prog w) A (call f [v]) (zT (kz.getD i 0) { s with heap:=h',toks:=tk }) (fun _ _=>False) { s with heap:=h',toks:=tk })
  (h:∀p h' tk c,p.Perm (List.range vs.length)→gf (O:=p8) (fun i=>kz.getD i 0) p→(∀b o,s.heap.get? b=some o→b≠a→h'.get? b=some o)→h'.get? a=some (seqObj "list" (p.map fun i=>vs.getD i Value.none).toArray c)→P (.done (.ret .none)) { s with heap:=h',toks:=tk }):
  wpAny (model prog w) A (ksk_tree a f false) P E s:=by
 have ha:a<s.heap.objs.size:=Heap.lt_size ho
 obtain⟨e1,Nl⟩:∃e1,(s.heap.update a (Obj.mapSeq fun _=>(#[]:Array Value))).get? a=some (seqObj "list" #[] e1):=⟨_,get?_update_seq ho fun _=>#[]⟩
 have ZO:((s.heap.update a (Obj.mapSeq fun _=>(#[]:Array Value))).push (seqObj "tuple" vs.toArray 0)).objs.size=s.heap.objs.size+1:=by rw[size_push',Heap.size_update]
 unfold ksk_tree
 refine wpAny_bind (listItems_at ho rfl ?_)
 refine wpAny_bind (listUpdate_at ho rfl ?_ (by rw[List.size_toArray];exact hz) (Nat.zero_le _))
 refine wpAny_bind (seqEpoch_at Nl rfl ?_)
 refine wpAny_bind (wpAny_newTuple ?_ hz)
 refine wpAny_bind (wpAny_newList ?_ (Nat.zero_le _))
 refine wpAny_holding ?_
 have k0:(((s.heap.update a (Obj.mapSeq fun _=>(#[]:Array Value))).push (seqObj "tuple" vs.toArray 0)).push (seqObj "list" #[] 0)).get? (s.heap.objs.size+1)=some (seqObj "list" #[] 0):=by
  rw[←ZO];exact Heap.get?_push_size _ rfl
 have a0:(((s.heap.update a (Obj.mapSeq fun _=>(#[]:Array Value))).push (seqObj "tuple" vs.toArray 0)).push (seqObj "list" #[] 0)).get? a=some (seqObj "list" #[] e1):=Heap.get?_push_of_some _ (Heap.get?_push_of_some _ Nl)
 have o0:∀b o,s.heap.get? b=some o→b≠a→(((s.heap.update a (Obj.mapSeq fun _=>(#[]:Array Value))).push (seqObj "tuple" vs.toArray 0)).push (seqObj "list" #[] 0)).get? b=some o:=fun b o hb ve=>
  Heap.get?_push_of_some _ (Heap.get?_push_of_some _ (by rw[Heap.get?_update_ne _ _ _ _ ve];exact hb))
 show wpAny (model prog w) A (ksk_rest a f false vs.toArray e1 (.ref ((s.heap.update a (Obj.mapSeq fun _=>(#[]:Array Value))).push (seqObj "tuple" vs.toArray 0)).objs.size)) P E { s with heap:=((s.heap.update a (Obj.mapSeq fun _=>(#[]:Array Value))).push (seqObj "tuple" vs.toArray 0)).push (seqObj "list" #[] 0) }
 rw[ZO]
 generalize ((s.heap.update a (Obj.mapSeq fun _=>(#[]:Array Value))).push (seqObj "tuple" vs.toArray 0)).push (seqObj "list" #[] 0)=g0 at k0 a0 o0
 generalize ZP:s.heap.objs.size+1=kS at k0
 have ZQ:kS≠a:=by rw[←ZP];exact Nat.ne_of_gt (Nat.lt_succ_of_lt ha)
 have hold:∀{b o},s.heap.get? b=some o→b≠kS:=fun hb=>by rw[←ZP];exact Nat.ne_of_lt (Nat.lt_succ_of_lt (Heap.lt_size hb))
 unfold ksk_rest
 refine wpAny_bind (wpAny_rule ?_)
 first
  |rw[List.forIn_toArray]
  | (rw[←Array.forIn_toList];simp only [List.toList_toArray])
  |rw[←Array.forIn_toList]
 refine wpAny_bind (ksk_fold (fun i s'=>∃h' tk kA e,s'={ s with heap:=h',toks:=tk }∧(∀b o,s.heap.get? b=some o→b≠a→h'.get? b=some o)∧h'.get? a=some (seqObj "list" #[] e1)∧h'.get? kS=some (seqObj "list" kA e)∧IntsAre kA.toList (kz.take i)) vs 0 _
  ⟨g0,s.toks,#[],0,rfl,o0,a0,k0,by simpa using IntsAre.nil⟩ ?step ?done)
 case step=>
  rintro j x s' hx ⟨h',tk,kA,e,rfl,i1,i2,i3,hk⟩
  simp only [Nat.zero_add] at hk ⊢
  have hj:j<vs.length:=(List.getElem?_eq_some_iff.mp hx).1
  have hkj:kz[j]? =some (kz.getD j 0):=by rw[List.getD_eq_getElem?_getD,List.getElem?_eq_getElem (by omega)];rfl
  have hzk:kA.size≤vs.length:=by
   have h1:=hk.length
   rw[Array.length_toList,List.length_take] at h1
   omega
  refine wpAny_bind (wpAny_attempt (wpAny_mono (turn j x hx h' tk i1) (fun v tJ he=>?_) fun _ _ hF=>hF.elim))
  obtain⟨g,Nm,t2,rfl,rfl,kp⟩:=he
  try dsimp only
  obtain⟨c2,MT⟩:∃c2,(g.update kS (Obj.mapSeq (·.push (.int (kz.getD j 0) t2)))).get? kS=some (seqObj "list" (kA.push (.int (kz.getD j 0) t2)) c2):=⟨_,get?_update_seq (kp _ _ i3) (·.push (.int (kz.getD j 0) t2))⟩
  have ek:kz.take (j+1)=kz.take j++[kz.getD j 0]:=by rw[List.take_add_one,hkj];simp
  have ea:(kA.push (Value.int (kz.getD j 0) t2)).toList=kA.toList++[Value.int (kz.getD j 0) t2]:=by simp
  refine wpAny_bind (listUpdate_at (kp _ _ i3) rfl ?_ (by omega) (Nat.le_trans (Nat.le_of_eq (Array.size_push ..)) (by omega)))
  refine wpAny_pure ⟨rfl,_,_,kA.push (.int (kz.getD j 0) t2),c2,rfl,fun b o hb ve=>?_,?_,MT,by rw[ea,ek];exact ksk_snoc hk⟩
  ·rw[Heap.get?_update_ne _ _ _ _ (hold hb)]
   exact kp _ _ (i1 b o hb ve)
  ·rw[Heap.get?_update_ne _ _ _ _ ZQ.symm]
   exact kp _ _ i2
 case done=>
  rintro s' ⟨h',tk,keys,e,rfl,i1,i2,i3,hk⟩
  have hk:IntsAre keys.toList kz:=by
   rw[List.take_of_length_le (by omega)] at hk
   exact hk
  have Np:keys.size=vs.length:=by
   have h1:=hk.length
   rw[Array.length_toList] at h1
   omega
  have U4:(keys.zip vs.toArray).size=vs.length:=by rw[Array.size_zip,Np,List.size_toArray,Nat.min_self]
  try dsimp only
  refine wpAny_bind (listItems_at i3 rfl ?_)
  have Nq:∀(κ:SortKind) (p:List Nat) (pd:Array (Nat×Nat×Nat)) (g:Nat),p.Perm (List.range vs.length)→gf (O:=p8) (fun i=>kz.getD i 0) p→wpAny (model prog w) A (ksk_tail a false e1 (.ref kS) (dH κ (keys.zip vs.toArray) p pd g)) P E { s with heap:=h',toks:=tk }:=fun κ p pd g hp hi=>by
   have Ip:(arrOf (dH κ (keys.zip vs.toArray) p pd g)).map (·.2)=List.toArray (p.map fun i=>vs.getD i Value.none):=by
    show (ar (keys.zip vs.toArray) p).map (·.2)=_
    apply Array.toList_inj.mp
    unfold ar
    rw[Array.toList_map,List.toList_toArray,List.map_map]
    refine List.map_congr_left fun i hi=>?_
    show (kas_item _ i).2=_
    rw[WZ Np (List.mem_range.mp (hp.mem_iff.mp hi))]
   have a1:(h'.update kS (Obj.mapSeq fun _=>(#[]:Array Value))).get? a=some (seqObj "list" #[] e1):=by
    rw[Heap.get?_update_ne _ _ _ _ ZQ.symm];exact i2
   unfold ksk_tail
   try dsimp only
   rw[Ip]
   refine wpAny_bind (listUpdate_at i3 rfl ?_ (by omega) (Nat.zero_le _))
   refine wpAny_bind (wpAny_letGo ?_)
   refine wpAny_bind (seqEpoch_at a1 rfl ?_)
   refine wpAny_bind (listUpdate_at a1 rfl ?_ (Nat.zero_le _) ?_)
   ·simp only [bne_self_eq_false,Bool.false_eq_true,if_false]
    refine wpAny_pure (h p _ _ _ hp hi (fun b o hb ve=>?_) (get?_update_seq a1 fun _=>List.toArray (p.map fun i=>vs.getD i Value.none)))
    show ((h'.update kS (Obj.mapSeq fun _=>(#[]:Array Value))).update a _).get? b=_
    rw[Heap.get?_update_ne _ _ _ _ ve,Heap.get?_update_ne _ _ _ _ (hold hb)]
    exact i1 b o hb ve
   ·show (if false=true then _ else List.toArray (p.map fun i=>vs.getD i Value.none)).size≤_
    rw[if_neg (by simp),List.size_toArray,List.length_map,hp.length_eq,List.length_range]
    omega
  have step:∀t:Sem PySem.Fin,wpAny (model prog w) A t P E { s with heap:=h',toks:=tk }→wpAny (model prog w) A (if false=true then (do let _←rule "list.sort.reverse";t) else t) P E { s with heap:=h',toks:=tk }:=fun t ht=>by
   rw[if_neg (by simp)];exact ht
  unfold ksk_end
  try dsimp only
  refine step _ ?_
  rw[if_neg (show¬false=true by simp)]
  by_cases h2:vs.toArray.size<2
  ·rw[if_pos h2,if_pos h2]
   refine wpAny_bind (wpAny_pure ?_)
   rw[StateT.run_pure]
   refine wpAny_bind (wpAny_pure ?_)
   try dsimp only
   have er:SortSt.mk' general' (keys.zip vs.toArray) #[] 7 none=dH general' (keys.zip vs.toArray) (List.range vs.length) #[] 7:=by
    show _=SortSt.mk' general' (ar (keys.zip vs.toArray) (List.range vs.length)) #[] 7 none
    rw[dz,←U4,kas_range]
   rw[er]
   refine Nq _ _ _ _ (List.Perm.refl _) (List.pairwise_iff_getElem.mpr fun i j hi hj jd=>?_)
   rw[List.length_range] at hi hj
   rw[List.size_toArray] at h2
   omega
  ·rw[if_neg h2,if_neg h2]
   rw[List.size_toArray] at h2
   rw[ksk_kind hk (by rw[Np];omega)]
   refine wpAny_bind (wpAny_pure ?_)
   have asks:dN p8 (fun i=>kz.getD i 0) (keys.zip vs.toArray).size (fun s'=>s'={ s with heap:=h',toks:=tk }) (kas_cmp prog w A oneType' (keys.zip vs.toArray)):=by
    intro i j K s' hi hj e hK
    rw[U4] at hi hj
    subst e
    unfold kas_cmp
    rw[WZ Np hi,WZ Np hj]
    have at':∀t,t<vs.length→∃u,keys.toList.getD t Value.none=Value.int (kz.getD t 0) u:=fun t ht=>by
     have Nr:t<keys.toList.length:=by rw[Array.length_toList];omega
     obtain⟨u,e⟩:=PyProof.Rows.IntsAre.int_at hk t keys.toList[t] (List.getElem?_eq_getElem Nr)
     exact⟨u,by rw[List.getD_eq_getElem?_getD,List.getElem?_eq_getElem Nr];exact e⟩
    obtain⟨u,e1⟩:=at' i hi
    obtain⟨u',e2⟩:=at' j hj
    rw[e1,e2]
    exact kat_lt_int (hK _ rfl)
   refine wpAny_bind (Nk (it:=keys.zip vs.toArray) asks (by rw[U4];omega) fun p pd g hp hi=>?_)
   rw[U4] at hp
   exact Nq _ p pd g hp hi
theorem rL{l:Addr}{vs:List Value}{kz:List Int}{f:Value}{i:String}{Q:Value→Shared→Prop}(ef:f= .builtin i)(hl:s.heap.IsList l vs.toArray)(hz:vs.length≤sizeLine)(hlen:kz.length=vs.length)
  (turn:∀(i:Nat) (v:Value),vs[i]? =some v→∀h' tk,(∀b o,s.heap.get? b=some o→h'.get? b=some o)→wpAny (model prog w) A.in1.in1 (call f [v]) (zT (kz.getD i 0) { s with heap:=h',toks:=tk }) (fun _ _=>False) { s with heap:=h',toks:=tk })
  (h:∀p h' tk c,p.Perm (List.range vs.length)→gf (O:=p8) (fun i=>kz.getD i 0) p→(∀b o,s.heap.get? b=some o→h'.get? b=some o)→h'.get? (s.heap.objs.size+1)=some (seqObj "list" (p.map fun i=>vs.getD i Value.none).toArray c)→Q (.ref (s.heap.objs.size+1)) { s with heap:=h',toks:=tk }):
  wpAny (model prog w) A (call (.builtin "sorted") [.ref l] [(Str.ofString "key",f)]) Q E s:=by
 refine call_function_entry_kw kind_sorted plain_sorted entry_sorted (ksk_s1 _ _) ?_
 unfold Builtin.«sorted»
 refine wpAny_bind (m:=checkCount "sorted" 1 1 _) (wpAny_pure ?_)
 refine wpAny_bind (collect_list hl ?_ hz)
 refine wpAny_bind (wpAny_newList ?_ hz)
 have pI:((s.heap.push (seqObj "list" #[] 0)).update s.heap.objs.size (Obj.mapSeq (·++vs.toArray))).objs.size=s.heap.objs.size+1:=by
  rw[Heap.size_update,size_push']
 have E5:(((s.heap.push (seqObj "list" #[] 0)).update s.heap.objs.size (Obj.mapSeq (·++vs.toArray))).push (seqObj "list" vs.toArray 0)).get? (s.heap.objs.size+1)=some (seqObj "list" vs.toArray 0):=by
  rw[←pI];exact Heap.get?_push_size _ rfl
 have keep:∀b o,s.heap.get? b=some o→(((s.heap.push (seqObj "list" #[] 0)).update s.heap.objs.size (Obj.mapSeq (·++vs.toArray))).push (seqObj "list" vs.toArray 0)).get? b=some o:=fun b o q=>by
  have l9:b<s.heap.objs.size:=Heap.lt_size q
  rw[Heap.get?_push_ne _ _ _ (by rw[pI];exact Nat.ne_of_lt (Nat.lt_succ_of_lt l9)),Heap.get?_update_ne _ _ _ _ (Nat.ne_of_lt l9),Heap.get?_push_ne _ _ _ (Nat.ne_of_lt l9)]
  exact q
 have ne:∀b o,s.heap.get? b=some o→b≠s.heap.objs.size+1:=fun b o q=>Nat.ne_of_lt (Nat.lt_succ_of_lt (Heap.lt_size q))
 show wpAny _ _ _ _ _ { s with heap:=((s.heap.push (seqObj "list" #[] 0)).update s.heap.objs.size (Obj.mapSeq (·++vs.toArray))).push (seqObj "list" vs.toArray 0) }
 rw[pI]
 refine wpAny_bind (wpAny_holding (wpAny_call_entry_kw slot_list_sort ⟨_,E5,rfl⟩ entry_list_sort ?body (ksk_l1 _ _)))
 case body=>
  show wpAny (model prog w) A.in1.in1 (Builtin.«list.sort» ⟨[.ref (s.heap.objs.size+1)],[(Str.ofString "key",f)]⟩) _ _ _
  rw[ef,ksk_t4,←ef]
  refine wV (s:={ s with heap:=((s.heap.push (seqObj "list" #[] 0)).update s.heap.objs.size (Obj.mapSeq (·++vs.toArray))).push (seqObj "list" vs.toArray 0) }) E5 hz hlen (fun i v hv h' tk hk=>turn i v hv h' tk fun b o hb=>hk b o (keep b o hb) (ne b o hb)) fun p h' tk c hp hi hk hL=>⟨_,rfl,?_⟩
  exact wpAny_pure ⟨_,rfl,h p h' tk c hp hi (fun b o hb=>hk b o (keep b o hb) (ne b o hb)) hL⟩
end
section
variable {X:Cx}
def Iq(K:PySem.W.Frag)(t:TA):TE:=fun σ H Q=>t σ H fun vs H1=>∃(p:Addr) (as:List Addr) (cs:List (List Int)),vs=[.ref p]∧aD K H1 p (as.map V.ref)∧dW K H1 as cs∧
    ∀(l:Addr) (ps:List Nat),ps.Perm (List.range as.length)→(ps.map fun i=>(cs.getD i []).sum).Pairwise (·≤·)→H1 l=none→Q (.ref l) (upd H1 l (.lst ((ps.map fun i=>as.getD i 0).map V.ref)))
theorem t7{e:Expr}{t:TA}{p pos kp np:Pos}(hc:X.calm=true)(hg:Gl X "sorted")(hm:X.mg "sorted" =none)(hg':Gl X "sum")(UZ:X.mg "sum" =none)(ha:PA X [e] t)
  (he:backTo pos (starEach [e] X.env)=[(false,eval e X.env)]:=by rfl):PE X (.Call (.Name "sorted" p) [e] [⟨some "key", .Name "sum" np,kp⟩] pos) (Iq X.K t):=by
 intro pins s σ H Q I h
 refine wpAny_Call_Name_kw (gI I hg hm kL ?_)
 refine callWith_kw (bG (ha pos pins s σ H _ I h) fun us s1 ⟨vs,H1,I1,r1,q,as,cs,ev,hS,fK,k⟩=>kws_cons (gI I1 hg' UZ fZ (kws_nil ?_))) (by rw[he];rfl) (by rw[he];rfl)
 subst ev
 obtain⟨u,rfl,ru⟩:=vals1 r1
 cases ru
 obtain⟨its,rv,pl,hz⟩:=I1.list hS
 have ei:=jq rv
 subst ei
 rw[List.length_map] at hz
 have WX:=fK.length
 refine rL (kz:=cs.map List.sum) rfl pl.isList (by rw[List.length_map];exact hz) (by rw[List.length_map,List.length_map,WX]) (fun i v hv h' tk hk=>?_) fun ps h' tk c hp hi hk hL=>?_
 ·rw[List.getElem?_map] at hv
  obtain⟨a,ea,rfl⟩:=Option.map_eq_some_iff.mp hv
  obtain⟨c,ec,hs⟩:=fK.get ea
  obtain⟨ws,xW,pw,_⟩:=I1.list hs
  have ZR:IntsAre ws c:=intsAre_of xW
  obtain⟨ys,hy⟩:=ZR.allInts.items
  obtain⟨o,ho,h1,h2⟩:=pw.isList
  have hl:h'.IsList a (intItems ys):=hy▸⟨o,hk _ _ ho,h1,h2⟩
  refine sum_intListG (s:={ s1 with heap:=h',toks:=tk }) (I1.ok.hd hc) hl fun h2 Nm t2 hk2=>⟨h2,Nm,t2,rfl,?_,hk2⟩
  have e1:c=ys.toList.map (·.1):=by
   rw[←nums_intItems,←hy]
   exact(show numsOf ws.toArray.toList=c from ZR.numsOf).symm
  have e2:preSum (numAt ys) ys.size=c.sum:=by rw[preSum_eq,List.take_of_length_le (by simp),e1]
  rw[e2,List.getD_eq_getElem?_getD,List.getElem?_map,ec]
  rfl
 ·rw[List.length_map] at hp
  rw[picked hp] at hL
  have WY:(ps.map fun i=>as.getD i 0).length=as.length:=by rw[List.length_map,hp.length_eq,List.length_range]
  have hq:=k (s1.heap.objs.size+1) ps hp (by
   rw[List.pairwise_map]
   refine List.Pairwise.imp (fun {a b} oh=>?_) hi
   have e:∀j,(cs.map List.sum).getD j 0=(cs.getD j []).sum:=fun j=>by
    rw[List.getD_eq_getElem?_getD,List.getElem?_map,List.getD_eq_getElem?_getD]
    cases cs[j]? <;>rfl
   have oh:decide ((cs.map List.sum).getD b 0< (cs.map List.sum).getD a 0)=false:=oh
   rw[e,e] at oh
   simpa using oh) (I1.bH.fresh (Nat.le_succ _))
  generalize (ps.map fun i=>as.getD i 0)=bs at*
  exact⟨.ref (s1.heap.objs.size+1),_,I1.laid (t':=tk) (o:= .lst (bs.map V.ref)) hk (Nat.le_succ _) ⟨by rw[List.length_map,WY];exact hz,bs.map Value.ref,c,gM bs,hL⟩,rfl,hq⟩
end
end L2
set_option maxHeartbeats 4000000
namespace W0
open PySem L2
def top(i:Nat):Stmt:=PySem.Challenge.pw_balancehall_k31_splits.main.body.getD i (.Pass ⟨0,0,0,0⟩)
abbrev ed:Stmt:=top 13
abbrev eV:Stmt:=top 14
abbrev gQ:Stmt:=top 15
abbrev dt:Stmt:=top 16
abbrev js:Stmt:=inClass (top 18) 0
abbrev jt:Stmt:=inClass (top 19) 0
abbrev eW:Stmt:=inClass (top 19) 1
abbrev jV:Stmt:=inClass (top 19) 2
abbrev rM:Stmt:=inClass (top 19) 3
abbrev rN:Stmt:=inClass (top 19) 4
abbrev gR:Stmt:=inClass (top 19) 5
abbrev jh:Stmt:=inClass (top 19) 6
abbrev gS:Stmt:=inClass (top 19) 7
abbrev fQ:Stmt:=top 20
abbrev ju:Stmt:=inClass (top 22) 0
abbrev eX:Stmt:=inClass (top 22) 1
abbrev cz:Stmt:=inClass (top 22) 2
abbrev eh:Stmt:=inClass (top 22) 3
abbrev a7:Stmt:=top 23
abbrev jW:Stmt:=top 24
abbrev dA:Stmt:=top 25
abbrev cR:Stmt:=top 26
abbrev gT:Stmt:=top 27
abbrev fD:Stmt:=top 28
abbrev lG:Stmt:=top 30
abbrev fR:Stmt:=top 31
abbrev bQ:Stmt:=top 32
abbrev gj:Stmt:=top 33
abbrev eY:Stmt:=top 34
abbrev dO:Stmt:=top 35
abbrev eC:Stmt:=inClass (top 6) 0
abbrev eZ:Stmt:=top 36
abbrev fe:Stmt:=top 37
abbrev eD:Stmt:=top 38
abbrev lY:Stmt:=top 39
abbrev cF:=Nat→Int
structure Form(k:Nat)(R:List Nat)(φ:List cF→Int):Prop where
 zU:∀(xs ys:List cF) (u v:cF) (a b:Int),xs.length+ys.length+1=k→φ (xs++(fun t=>a*u t+b*v t)::ys)=a*φ (xs++u::ys)+b*φ (xs++v::ys)
 alt:∀(xs ys:List cF) (v:cF),xs.length+ys.length+2=k→φ (xs++v::v::ys)=0
 loc:∀(xs ys:List cF) (u v:cF),xs.length+ys.length+1=k→(∀t∈R,u t=v t)→φ (xs++u::ys)=φ (xs++v::ys)
 U5:∀(vs:List cF) (M:Nat),vs.length=k→(∀v∈vs,∀t∈R,(v t).natAbs≤M)→(φ vs).natAbs≤k^k*M^k
def fT(r:Nat)(φ:List cF→Int):List cF→List cF→Int
 |_,[]=>0
 |pre,v::rest=>v r*φ (pre++rest) - fT r φ (pre++[v]) rest
section
variable {k r:Nat}{R:List Nat}{φ:List cF→Int}
theorem jj(F:Form k R φ)(u v:cF)(a b:Int):∀(ys p q:List cF),p.length+q.length+1+ys.length=k+1→
  fT r φ (p++(fun t=>a*u t+b*v t)::q) ys=a*fT r φ (p++u::q) ys+b*fT r φ (p++v::q) ys
 | [],p,q,_=>by simp [fT]
 |y::rest,p,q,h=>by
  have h':p.length+q.length+1+(rest.length+1)=k+1:=h
  have ih:=jj F u v a b rest p (q++[y]) (by rw[List.length_append];simp;omega)
  have l:=F.zU p (q++rest) u v a b (by rw[List.length_append];omega)
  simp only [fT,List.append_assoc,List.cons_append] at ih ⊢
  rw[ih,l]
  simp only [Int.mul_add,Int.mul_sub,Int.mul_left_comm]
  omega
theorem oY(F:Form k R φ)(u v:cF)(a b:Int):∀(xs ys pre:List cF),pre.length+xs.length+1+ys.length=k+1→
  fT r φ pre (xs++(fun t=>a*u t+b*v t)::ys)=a*fT r φ pre (xs++u::ys)+b*fT r φ pre (xs++v::ys)
 | [],ys,pre,h=>by
   have l:=jj (r:=r) F u v a b ys pre [] (by simpa using h)
   simp only [List.nil_append,fT]
   rw[l]
   simp only [Int.mul_sub,Int.add_mul,Int.mul_assoc]
   omega
 |x::xs,ys,pre,h=>by
  have h':pre.length+(xs.length+1)+1+ys.length=k+1:=h
  have ih:=oY F u v a b xs ys (pre++[x]) (by rw[List.length_append];simp;omega)
  have l:=F.zU (pre++xs) ys u v a b (by rw[List.length_append];omega)
  simp only [List.cons_append,fT,List.append_assoc] at ih l ⊢
  rw[ih,l]
  simp only [Int.mul_add,Int.mul_sub,Int.mul_left_comm]
  omega
theorem jk(F:Form k R φ)(v:cF):∀(ys p q:List cF),p.length+q.length+2+ys.length=k+1→fT r φ (p++v::v::q) ys=0
 | [],_,_,_=>rfl
 |y::rest,p,q,h=>by
  have h':p.length+q.length+2+(rest.length+1)=k+1:=h
  have ih:=jk F v rest p (q++[y]) (by rw[List.length_append];simp;omega)
  have l:=F.alt p (q++rest) v (by rw[List.length_append];omega)
  simp only [fT,List.append_assoc,List.cons_append] at ih ⊢
  rw[ih,l];simp
theorem oZ(F:Form k R φ)(v:cF):∀(xs ys pre:List cF),pre.length+xs.length+2+ys.length=k+1→fT r φ pre (xs++v::v::ys)=0
 | [],ys,pre,h=>by
   have l:=jk (r:=r) F v ys pre [] (by simpa using h)
   simp only [List.nil_append,fT,List.append_assoc,List.cons_append] at l ⊢
   rw[l];omega
 |x::xs,ys,pre,h=>by
  have h':pre.length+(xs.length+1)+2+ys.length=k+1:=h
  have ih:=oZ F v xs ys (pre++[x]) (by rw[List.length_append];simp;omega)
  have l:=F.alt (pre++xs) ys v (by rw[List.length_append];omega)
  simp only [List.cons_append,fT,List.append_assoc] at ih l ⊢
  rw[ih,l];simp
theorem jl(F:Form k R φ)(u v:cF)(e:∀t∈R,u t=v t):∀(ys p q:List cF),p.length+q.length+1+ys.length=k+1→fT r φ (p++u::q) ys=fT r φ (p++v::q) ys
 | [],_,_,_=>rfl
 |y::rest,p,q,h=>by
  have h':p.length+q.length+1+(rest.length+1)=k+1:=h
  have ih:=jl F u v e rest p (q++[y]) (by rw[List.length_append];simp;omega)
  have l:=F.loc p (q++rest) u v (by rw[List.length_append];omega) e
  simp only [fT,List.append_assoc,List.cons_append] at ih ⊢
  rw[ih,l]
theorem o5(F:Form k R φ)(u v:cF)(e:∀t∈R,u t=v t)(er:u r=v r):∀(xs ys pre:List cF),pre.length+xs.length+1+ys.length=k+1→fT r φ pre (xs++u::ys)=fT r φ pre (xs++v::ys)
 | [],ys,pre,h=>by
   have l:=jl (r:=r) F u v e ys pre [] (by simpa using h)
   simp only [List.nil_append,fT]
   rw[l,er]
 |x::xs,ys,pre,h=>by
  have h':pre.length+(xs.length+1)+1+ys.length=k+1:=h
  have ih:=o5 F u v e er xs ys (pre++[x]) (by rw[List.length_append];simp;omega)
  have l:=F.loc (pre++xs) ys u v (by rw[List.length_append];omega) e
  simp only [List.cons_append,fT,List.append_assoc] at ih l ⊢
  rw[ih,l]
theorem o6(F:Form k R φ)(M:Nat):∀(vs pre:List cF),pre.length+vs.length=k+1→(∀v∈pre++vs,∀t∈r::R,(v t).natAbs≤M)→(fT r φ pre vs).natAbs≤vs.length*(M*(k^k*M^k))
 | [],_,_,_=>by simp [fT]
 |v::rest,pre,h,hb=>by
  have h':pre.length+(rest.length+1)=k+1:=h
  have ih:=o6 F M rest (pre++[v]) (by rw[List.length_append];simp;omega) (by simpa [List.append_assoc] using hb)
  have b1:=F.U5 (pre++rest) M (by rw[List.length_append];omega) fun w hw t ht=>hb w (by
   rcases List.mem_append.mp hw with z|z
   ·exact List.mem_append_left _ z
   ·exact List.mem_append_right _ (List.mem_cons_of_mem _ z)) t (List.mem_cons_of_mem _ ht)
  have b2:(v r).natAbs≤M:=hb v (List.mem_append_right _ (List.mem_cons_self ..)) r (List.mem_cons_self ..)
  have b3:(v r*φ (pre++rest)).natAbs≤M*(k^k*M^k):=by rw[Int.natAbs_mul];exact Nat.mul_le_mul b2 b1
  have e:(v::rest).length*(M*(k^k*M^k))=rest.length*(M*(k^k*M^k))+M*(k^k*M^k):=by rw[List.length_cons,Nat.succ_mul]
  rw[e]
  simp only [fT]
  omega
theorem Form.Nt(F:Form k R φ)(r:Nat):Form (k+1) (r::R) (fT r φ []) where
 zU:=fun xs ys u v a b h=>oY F u v a b xs ys [] (by simp;omega)
 alt:=fun xs ys v h=>oZ F v xs ys [] (by simp;omega)
 loc:=fun xs ys u v h e=>o5 F u v (fun t ht=>e t (List.mem_cons_of_mem _ ht)) (e r (List.mem_cons_self ..)) xs ys [] (by simp;omega)
 U5:=fun vs M h hb=>by
  have:=o6 (r:=r) F M vs [] (by simpa using h) (by simpa using hb)
  rw[h] at this
  refine Nat.le_trans this ?_
  have e:(k+1)*(M*(k^k*M^k))=((k+1)*k^k)*M^(k+1):=by
   rw[Nat.pow_succ]
   simp only [Nat.mul_assoc,Nat.mul_left_comm,Nat.mul_comm]
  rw[e,Nat.pow_succ (k+1) k,Nat.mul_comm ((k+1) ^k)]
  exact Nat.mul_le_mul_right _ (Nat.mul_le_mul_left _ (Nat.pow_le_pow_left (Nat.le_succ k) k))
theorem Form.swap(F:Form k R φ)(xs ys:List cF)(u v:cF)(h:xs.length+ys.length+2=k):φ (xs++u::v::ys)= - φ (xs++v::u::ys):=by
 have key:=F.alt xs ys (fun t=>1*u t+1*v t) h
 have l1:=F.zU xs ((fun t=>1*u t+1*v t)::ys) u v 1 1 (by simp;omega)
 have l2:=F.zU (xs++[u]) ys u v 1 1 (by simp;omega)
 have l3:=F.zU (xs++[v]) ys u v 1 1 (by simp;omega)
 simp only [List.append_assoc,List.cons_append,List.nil_append] at l2 l3
 have a1:=F.alt xs ys u h
 have a2:=F.alt xs ys v h
 rw[l1,l2,l3,a1,a2] at key
 omega
theorem Form.rep(F:Form k R φ)(v:cF):∀(ys xs zs:List cF),xs.length+ys.length+zs.length+2=k→φ (xs++v::(ys++v::zs))=0
 | [],xs,zs,h=>F.alt xs zs v (by simpa using h)
 |y::ys,xs,zs,h=>by
  have h':xs.length+(ys.length+1)+zs.length+2=k:=h
  have ih:=Form.rep F v ys (xs++[y]) zs (by rw[List.length_append];simp;omega)
  have s:=F.swap xs (ys++v::zs) v y (by rw[List.length_append];simp;omega)
  simp only [List.append_assoc,List.cons_append,List.nil_append] at ih s ⊢
  rw[s,ih];rfl
end
def sm:Nat→(Nat→Int)→Int
 |0,_=>0
 |n+1,f=>sm n f+f n
theorem iG{n:Nat}{f g:Nat→Int}(h:∀t,t<n→f t=g t):sm n f=sm n g:=by
 induction n with
 |zero=>rfl
 |succ n ih=>rw[sm,sm,ih fun t ht=>h t (Nat.lt_succ_of_lt ht),h n (Nat.lt_succ_self n)]
theorem t8(n:Nat)(a b:Int)(f g:Nat→Int):sm n (fun t=>a*f t+b*g t)=a*sm n f+b*sm n g:=by
 induction n with
 |zero=>simp [sm]
 |succ n ih=>simp only [sm,ih,Int.mul_add];omega
theorem jX{n:Nat}{f:Nat→Int}(h:∀t,t<n→f t=0):sm n f=0:=by
 rw[iG h]
 induction n with
 |zero=>rfl
 |succ n ih=>rw[sm,ih fun t ht=>h t (Nat.lt_succ_of_lt ht)];rfl
def cq(n:Nat)(y b:cF):Int:=sm n fun t=>y t*b t
theorem b7(n:Nat)(a c:Int)(x y b:cF):cq n (fun t=>a*x t+c*y t) b=a*cq n x b+c*cq n y b:=by
 unfold cq
 rw[←t8]
 exact iG fun t _=>by rw[Int.add_mul,Int.mul_assoc,Int.mul_assoc]
def ev(t:Nat):cF:=fun s=>if s=t then 1 else 0
theorem vp{n t:Nat}(b:cF)(h:t<n):cq n (ev t) b=b t:=by
 unfold cq
 induction n with
 |zero=>omega
 |succ n ih=>
  rw[sm]
  by_cases e:t=n
  ·subst e
   rw[jX fun s hs=>by unfold ev;rw[if_neg (Nat.ne_of_lt hs)];simp]
   simp [ev]
  ·rw[ih (by omega)]
   unfold ev;rw[if_neg (fun z=>e z.symm)];simp
def lH:List Int→List cF→cF
 |a::as,w::ws=>fun t=>1*(a*w t)+1*lH as ws t
 |_,_=>fun _=>0
def gm:List Int→List Int→Int
 |a::as,b::bs=>a*b+gm as bs
 |_,_=>0
theorem p9:∀(as:List Int) (ws:List cF) (t:Nat),lH as ws t=gm as (ws.map fun w=>w t)
 | [],_,_=>by simp [lH,gm]
 |_::_,[],_=>by simp [lH,gm]
 |a::as,w::ws,t=>by simp only [lH,gm,List.map_cons,p9 as ws t];omega
theorem kR(n:Nat)(b:cF):∀(as:List Int) (ws:List cF),cq n (lH as ws) b=gm as (ws.map fun w=>cq n w b)
 | [],_=>by simp only [lH,gm];exact jX fun t _=>by simp
 |_::_,[]=>by simp only [lH,gm,List.map_nil];exact jX fun t _=>by simp
 |a::as,w::ws=>by
  have h:=b7 n 1 1 (fun t=>a*w t) (lH as ws) b
  have h2:cq n (fun t=>a*w t) b=a*cq n w b:=by
   have:=b7 n a 0 w w b
   simpa using this
  simp only [lH,gm,List.map_cons]
  rw[h,h2,kR n b as ws]
  omega
theorem iW{t:Nat}:∀(as:List Int) (ws:List cF),(∀w∈ws,w t=0)→lH as ws t=0
 | [],_,_=>rfl
 |_::_,[],_=>rfl
 |a::as,w::ws,h=>by
  simp only [lH]
  rw[h w (List.mem_cons_self ..),iW as ws fun v hv=>h v (List.mem_cons_of_mem _ hv)];simp
theorem nD{S:Int}:∀(as ls:List Int) (j:Nat) (x:Int),as[j]? =some x→as.length=ls.length→(∀i l,ls[i]? =some l→l=if i=j then S else 0)→gm as ls=x*S
 |a::as,l::ls,0,x,hx,hl,h=>by
  cases hx
  have h0:=h 0 l rfl
  have hz:∀(as ls:List Int),(∀z∈ls,z=0)→gm as ls=0:=by
   intro as
   induction as with
   |nil=>intro ls _;rfl
   |cons a as ih=>
    intro ls hh
    cases ls with
    |nil=>rfl
    |cons l ls=>simp only [gm,hh l (List.mem_cons_self ..),ih ls fun z hz=>hh z (List.mem_cons_of_mem _ hz)];simp
  simp only [gm]
  rw[hz as ls fun z hz=>?_,h0]
  ·simp
  ·obtain⟨i,hi⟩:=List.getElem?_of_mem hz
   have:=h (i+1) z hi
   simpa using this
 |a::as,l::ls,j+1,x,hx,hl,h=>by
  have h0:=h 0 l rfl
  have ih:=nD as ls j x hx (by simpa using hl) fun i z hz=>by
   have:=h (i+1) z hz
   simpa using this
  simp only [gm,ih,h0];simp
 | [],_,_,_,hx,_,_=>by simp at hx
 |_::_,[],_,_,_,hl,_=>by simp at hl
section
variable {k:Nat}{R:List Nat}{φ:List cF→Int}
theorem Form.zero(F:Form k R φ)(xs ys:List cF)(d:cF)(h:xs.length+ys.length+1=k)(hd:∀t∈R,d t=0):φ (xs++d::ys)=0:=by
 have l:=F.zU xs ys d d 0 0 h
 rw[F.loc xs ys d (fun t=>0*d t+0*d t) h fun t ht=>by rw[hd t ht];rfl,l];simp
theorem Form.expand(F:Form k R φ){n:Nat}(hR:∀t∈R,t<n)(xs ys:List cF)(b:cF)(h:xs.length+ys.length+1=k):φ (xs++b::ys)=sm n fun t=>b t*φ (xs++ev t::ys):=by
 have key:∀m,φ (xs++(fun s=>if s<m then b s else 0)::ys)=sm m fun t=>b t*φ (xs++ev t::ys):=by
  intro m
  induction m with
  |zero=>exact F.zero xs ys _ h fun t _=>by simp
  |succ m ih=>
   have l:=F.zU xs ys (fun s=>if s<m then b s else 0) (ev m) 1 (b m) h
   have e:(fun s=>if s<m+1 then b s else 0)=fun t=>1*(if t<m then b t else 0)+b m*ev m t:=by
    funext s
    unfold ev
    by_cases h1:s<m
    ·rw[if_pos (by omega),if_pos h1,if_neg (by omega)];omega
    ·by_cases h2:s=m
     ·subst h2;rw[if_pos (by omega),if_neg (by omega),if_pos rfl];omega
     ·rw[if_neg (by omega),if_neg h1,if_neg h2];omega
   rw[e,l,ih,sm];omega
 rw[←key n]
 exact F.loc xs ys b _ h fun t ht=>by rw[if_pos (hR t ht)]
theorem Form.comb(F:Form k R φ)(xs ys:List cF)(h:xs.length+ys.length+1=k):∀(as:List Int) (bs:List cF),(∀b∈bs,φ (xs++b::ys)=0)→φ (xs++lH as bs::ys)=0
 | [],_,_=>F.zero xs ys _ h fun _ _=>rfl
 |_::_,[],_=>F.zero xs ys _ h fun _ _=>rfl
 |a::as,b::bs,hb=>by
  have l:=F.zU xs ys (fun t=>a*b t) (lH as bs) 1 1 h
  have l2:=F.zU xs ys b b a 0 h
  have e:(fun t=>a*b t)=fun t=>a*b t+0*b t:=by funext t;omega
  simp only [lH]
  rw[l,e,l2,hb b (List.mem_cons_self ..),Form.comb F xs ys h as bs fun v hv=>hb v (List.mem_cons_of_mem _ hv)]
  simp
end
theorem nE{k r:Nat}{R:List Nat}{φ:List cF→Int}(F:Form k R φ)(d:cF)(hd:∀t∈R,d t=0):∀(bs pre:List cF),pre.length+bs.length=k→
  fT r φ pre (bs++[d])=d r*φ (pre++bs)∨fT r φ pre (bs++[d])= - (d r*φ (pre++bs))
 | [],pre,h=> .inl (by simp [fT])
 |b::bs,pre,h=>by
  have h':pre.length+(bs.length+1)=k:=h
  have ih:=nE (r:=r) F d hd bs (pre++[b]) (by rw[List.length_append];simp;omega)
  have z:=F.zero (pre++bs) [] d (by rw[List.length_append];simp;omega) hd
  simp only [List.cons_append,fT,List.append_assoc,List.nil_append] at ih z ⊢
  rw[z]
  rcases ih with e|e
  ·right;rw[e];omega
  ·left;rw[e];omega
structure Fr(n:Nat)(bs ws:List cF)(S:Int)(R:List Nat):Prop where
 pos:0<S
 Ir:∃φ,Form bs.length R φ∧(φ bs=S∨φ bs= -S)
 len:ws.length=bs.length
 Cv:∀(i j:Nat) (w b:cF),ws[i]? =some w→bs[j]? =some b→cq n w b=if i=j then S else 0
 sup:∀w∈ws,∀t,t∉R→w t=0
 lt:∀t∈R,t<n
 uniq:∀y:cF,(∀t,t∉R→y t=0)→(∀b∈bs,cq n y b=0)→∀t,y t=0
theorem Fr.start(n:Nat):Fr n [] [] 1 [] where
 pos:=by decide
 Ir:=⟨fun _=>1,⟨fun _ _ _ _ _ _ h=>absurd h (by simp),fun _ _ _ h=>absurd h (by simp),fun _ _ _ _ h _=>absurd h (by simp),fun vs M h _=>by simp⟩, .inl rfl⟩
 len:=rfl
 Cv:=fun i j w b h _=>by simp at h
 sup:=fun w h=>by cases h
 lt:=fun t h=>by cases h
 uniq:=fun y h _ t=>h t (by simp)
section
variable {n:Nat}{bs ws:List cF}{S:Int}{R:List Nat}
def jv(n:Nat)(ws:List cF)(c:cF):List Int:=ws.map fun w=>cq n w c
def left(n:Nat)(bs ws:List cF)(S:Int)(c:cF):cF:=fun t=>S*c t+(-1)*lH (jv n ws c) bs t
theorem Fr.wW(F:Fr n bs ws S R){j:Nat}{b:cF}(hb:bs[j]? =some b):∀i l,(ws.map fun w=>cq n w b)[i]? =some l→l=if i=j then S else 0:=by
 intro i l h
 rw[List.getElem?_map] at h
 cases e:ws[i]? with
 |none=>rw[e] at h;cases h
 |some w=>rw[e] at h;cases h;exact F.Cv i j w b e hb
theorem Fr.wX(F:Fr n bs ws S R){j:Nat}{b:cF}(hb:bs[j]? =some b)(as:List Int)(hl:as.length=bs.length){x:Int}(hx:as[j]? =some x):cq n (lH as ws) b=x*S:=by
 rw[kR]
 exact nD as _ j x hx (by rw[List.length_map,F.len,hl]) (F.wW hb)
def fresh(r:Nat)(bs ws:List cF)(S:Int):cF:=fun t=>S*ev r t+(-1)*lH (bs.map fun b=>b r) ws t
theorem Fr.jw(F:Fr n bs ws S R){r:Nat}(hr:r<n){b:cF}(hb:b∈bs):cq n (fresh r bs ws S) b=0:=by
 obtain⟨j,hj⟩:=List.getElem?_of_mem hb
 unfold fresh
 rw[b7,vp b hr,F.wX hj (bs.map fun b=>b r) (by rw[List.length_map]) (x:=b r) (by rw[List.getElem?_map,hj];rfl),Int.mul_comm S]
 omega
theorem o7:∀as bs:List Int,gm as bs=gm bs as
 | [],[]=>rfl
 | [],_::_=>rfl
 |_::_,[]=>rfl
 |a::as,b::bs=>by simp only [gm,o7 as bs,Int.mul_comm a b]
theorem gD{r:Nat}(hr:r<n)(c:cF):cq n (fresh r bs ws S) c=left n bs ws S c r:=by
 unfold fresh left jv
 rw[b7,vp c hr,kR,p9,o7]
theorem Fr.zV(F:Fr n bs ws S R)(c:cF){t:Nat}(ht:t∈R):left n bs ws S c t=0:=by
 have key:=F.uniq (fun s=>S*ev t s+(-1)*lH (bs.map fun b=>b t) ws s) (fun s hs=>by
  rw[iW _ ws fun w hw=>F.sup w hw s hs]
  unfold ev;rw[if_neg (fun z:s=t=>hs (by rw[z];exact ht))];simp) (fun b hb=>F.jw (F.lt t ht) hb)
 rw[←gD (F.lt t ht)]
 exact jX fun s _=>by show fresh t bs ws S s*c s=0;rw[show fresh t bs ws S s=0 from key s];simp
theorem Fr.kT(F:Fr n bs ws S R){r:Nat}(t:Nat)(h:t∉r::R):fresh r bs ws S t=0:=by
 unfold fresh
 rw[iW _ ws fun w hw=>F.sup w hw t fun z=>h (List.mem_cons_of_mem _ z)]
 unfold ev;rw[if_neg fun z=>h (by rw[z];exact List.mem_cons_self ..)];simp
theorem Fr.Fw(F:Fr n bs ws S R){c:cF}{r:Nat}(hr:r<n)(hl:left n bs ws S c r≠0)(y:cF)(hy:∀t,t∉r::R→y t=0)(hb:∀b∈bs,cq n y b=0)(hc:cq n y c=0):∀t,y t=0:=by
 have hrR:r∉R:=fun z=>hl (F.zV c z)
 have fr:fresh r bs ws S r=S:=by
  unfold fresh
  rw[iW _ ws fun w hw=>F.sup w hw r hrR]
  unfold ev;simp
 have z:=F.uniq (fun t=>S*y t+(- y r)*fresh r bs ws S t) (fun t ht=>by
  by_cases e:t=r
  ·subst e;rw[fr,Int.mul_comm S,Int.neg_mul];omega
  ·have:t∉r::R:=fun q=>(List.mem_cons.mp q).elim e ht
   rw[hy t this,F.kT t this];simp) (fun b lU=>by
  rw[b7,hb b lU,F.jw hr lU];simp)
 have z2:S*cq n y c+(- y r)*cq n (fresh r bs ws S) c=0:=by
  rw[←b7]
  exact jX fun t _=>by show (S*y t+(- y r)*fresh r bs ws S t)*c t=0;rw[z t];simp
 rw[hc,gD hr,Int.mul_zero,Int.zero_add] at z2
 have yr:y r=0:=by
  rcases Int.mul_eq_zero.mp z2 with q|q
  ·omega
  ·exact absurd q hl
 intro t
 have zt:=z t
 rw[yr] at zt
 have hS:=F.pos
 have:S*y t=0:=by simpa using zt
 rcases Int.mul_eq_zero.mp this with q|q
 ·omega
 ·exact q
theorem dX{α:Type}{l:List α}{i:Nat}(h:i<l.length)(v:α):l.set i v=l.take i++v::l.drop (i+1):=by
 rw[List.set_eq_take_append_cons_drop,if_pos h]
theorem Form.at{k:Nat}{R:List Nat}{φ:List cF→Int}(F:Form k R φ){bs:List cF}(hk:bs.length=k){i j:Nat}{b:cF}(hi:i<bs.length)(hj:bs[j]? =some b):φ (bs.set i b)=if i=j then φ bs else 0:=by
 have W2:j<bs.length:=(List.getElem?_eq_some_iff.mp hj).1
 have hb:bs[j]=b:=(List.getElem?_eq_some_iff.mp hj).2
 by_cases e:i=j
 ·subst e
  rw[if_pos rfl]
  congr 1
  subst hb
  exact List.set_getElem_self hi
 ·rw[if_neg e,dX hi]
  rcases Nat.lt_or_gt_of_ne e with h|h
  ·
   have hd:(bs.drop (i+1))=(bs.drop (i+1)).take (j - (i+1))++b::bs.drop (j+1):=by
    conv=>lhs;rw[←List.take_append_drop (j - (i+1)) (bs.drop (i+1))]
    rw[List.drop_drop,show i+1+(j - (i+1))=j by omega,List.drop_eq_getElem_cons W2,hb]
   rw[hd]
   refine F.rep b _ _ _ ?_
   rw[List.length_take,List.length_take,List.length_drop,List.length_drop]
   omega
  ·have hd:bs.take i=bs.take j++b::(bs.take i).drop (j+1):=by
    conv=>lhs;rw[←List.take_append_drop j (bs.take i)]
    rw[List.take_take,Nat.min_eq_left (by omega),List.drop_eq_getElem_cons (by rw[List.length_take];omega)]
    congr 2
    rw[List.getElem_take,hb]
   rw[hd,List.append_assoc,List.cons_append]
   refine F.rep b _ _ _ ?_
   rw[List.length_take,List.length_drop,List.length_drop,List.length_take]
   omega
theorem Fr.step(F:Fr n bs ws S R){c:cF}{r:Nat}(hr:r<n)(hl:left n bs ws S c r≠0){g:Int}(hg:g=1∨g= -1)(hp:0<g*left n bs ws S c r):
  Fr n (bs++[c]) ((ws.map fun w=>fun t=>(g*left n bs ws S c r*w t - cq n w c*(g*fresh r bs ws S t)).fdiv S)++[fun t=>g*fresh r bs ws S t]) (g*left n bs ws S c r) (r::R)∧
   ∀w∈ws,∀t,S*(g*left n bs ws S c r*w t - cq n w c*(g*fresh r bs ws S t)).fdiv S=g*left n bs ws S c r*w t - cq n w c*(g*fresh r bs ws S t):=by
 obtain⟨φ,Fo,hv⟩:=F.Ir
 have hS:=F.pos
 generalize hD:g*left n bs ws S c r=S' at hp
 have F':=Fo.Nt r
 have hlen:(bs++[c]).length=bs.length+1:=by simp
 have ZS:∀t∈r::R,t<n:=fun t ht=>(List.mem_cons.mp ht).elim (fun e=>by rw[e];exact hr) (F.lt t)
 have e1:S*fT r φ [] (bs++[c])=fT r φ [] (bs++[left n bs ws S c]):=by
  have l:=F'.zU bs [] c (lH (jv n ws c) bs) S (-1) (by simp)
  have z:fT r φ [] (bs++lH (jv n ws c) bs::[])=0:=F'.comb bs [] (by simp) _ bs fun b hb=>by
   obtain⟨j,hj⟩:=List.getElem?_of_mem hb
   obtain⟨h1,h2⟩:=List.getElem?_eq_some_iff.mp hj
   have hd:bs=bs.take j++b::bs.drop (j+1):=by
    conv=>lhs;rw[←List.take_append_drop j bs]
    rw[List.drop_eq_getElem_cons h1,h2]
   have:=F'.rep b (bs.drop (j+1)) (bs.take j) [] (by rw[List.length_take,List.length_drop];simp;omega)
   rw[hd,List.append_assoc,List.cons_append]
   exact this
  show _=fT r φ [] (bs++(fun t=>S*c t+(-1)*lH (jv n ws c) bs t)::[])
  rw[l,z];simp
 have e2:=nE (r:=r) Fo (left n bs ws S c) (fun t ht=>F.zV c ht) bs [] (by simp)
 have hΔ:fT r φ [] (bs++[c])=S'∨fT r φ [] (bs++[c])= -S':=by
  have cancel:∀{x y:Int},S*x=S*y→x=y:=fun h=>Int.eq_of_mul_eq_mul_left (by omega) h
  have q:∀u:Int,(u=left n bs ws S c r∨u= - left n bs ws S c r)→u=S'∨u= -S':=by
   intro u hu
   rcases hg with hg|hg<;>rw[hg] at hD<;>rcases hu with hu|hu<;>omega
  apply q
  simp only [List.nil_append] at e2
  rcases hv with hv|hv<;>rcases e2 with e2|e2<;>rw[hv] at e2
  ·left;apply cancel;rw[e1,e2,Int.mul_comm]
  ·right;apply cancel;rw[e1,e2,Int.mul_neg,Int.mul_comm]
  ·right;apply cancel;rw[e1,e2,Int.mul_neg,Int.mul_neg,Int.mul_comm]
  ·left;apply cancel;rw[e1,e2,Int.mul_neg,Int.neg_neg,Int.mul_comm]
 have hΔ0:=hΔ
 obtain⟨σ,hσ,hΔ⟩:∃σ:Int,(σ*σ=1)∧σ*fT r φ [] (bs++[c])=S':=by
  rcases hΔ with h|h
  ·exact⟨1,by decide,by omega⟩
  ·exact⟨-1,by decide,by omega⟩
 let u:Nat→cF:=fun i t=>σ*fT r φ [] ((bs++[c]).set i (ev t))
 have zW:∀i j b,i<bs.length→(bs++[c])[j]? =some b→cq n (u i) b=if i=j then S' else 0:=by
  intro i j b hi hb
  have xX:i< (bs++[c]).length:=by omega
  have ex:=F'.expand ZS ((bs++[c]).take i) ((bs++[c]).drop (i+1)) b (by rw[List.length_take,List.length_drop];omega)
  have a:=F'.at hlen xX hb
  rw[dX xX] at a
  have:cq n (u i) b=σ*(sm n fun t=>b t*fT r φ [] ((bs++[c]).take i++ev t::(bs++[c]).drop (i+1))):=by
   have l:=t8 n σ 0 (fun t=>b t*fT r φ [] ((bs++[c]).take i++ev t::(bs++[c]).drop (i+1))) (fun _=>0)
   simp only [Int.zero_mul,Int.add_zero] at l
   rw[←l]
   refine iG fun t _=>?_
   show σ*fT r φ [] ((bs++[c]).set i (ev t))*b t=_
   rw[dX xX,Int.mul_assoc,Int.mul_comm (fT _ _ _ _)]
  rw[this,←ex,a]
  by_cases e:i=j
  ·rw[if_pos e,if_pos e,hΔ]
  ·rw[if_neg e,if_neg e];simp
 have Nu:∀i t,i<bs.length→t∉r::R→u i t=0:=by
  intro i t hi ht
  show σ*fT r φ [] ((bs++[c]).set i (ev t))=0
  rw[dX (by omega),F'.zero _ _ (ev t) (by rw[List.length_take,List.length_drop];omega) fun s hs=>?_]
  ·simp
  ·unfold ev;rw[if_neg fun z=>ht (by rw[←z];exact hs)]
 have fb:∀b∈bs,cq n (fun t=>g*fresh r bs ws S t) b=0:=fun b hb=>by
  have l:=b7 n g 0 (fresh r bs ws S) (fresh r bs ws S) b
  simp only [Int.zero_mul,Int.add_zero] at l
  rw[l,F.jw hr hb];simp
 have fc:cq n (fun t=>g*fresh r bs ws S t) c=S':=by
  have l:=b7 n g 0 (fresh r bs ws S) (fresh r bs ws S) c
  simp only [Int.zero_mul,Int.add_zero] at l
  rw[l,gD hr,hD]
 have bat:∀{j:Nat} {b:cF},bs[j]? =some b→(bs++[c])[j]? =some b:=fun {j b} h=>by
  rw[List.getElem?_append_left (List.getElem?_eq_some_iff.mp h).1];exact h
 have cat:(bs++[c])[bs.length]? =some c:=by simp
 have ZT:∀i w,ws[i]? =some w→∀t,S'*w t - cq n w c*(g*fresh r bs ws S t)=S*u i t:=by
  intro i w hw
  have hi:i<bs.length:=by rw[←F.len];exact(List.getElem?_eq_some_iff.mp hw).1
  have Iu:=List.mem_of_getElem? hw
  have key:=F.Fw hr hl (fun t=>1*(S'*w t+(- cq n w c)*(g*fresh r bs ws S t))+(-S)*u i t) (fun t ht=>by
    show 1*(S'*w t+(- cq n w c)*(g*fresh r bs ws S t))+(-S)*u i t=0
    rw[F.sup w Iu t fun z=>ht (List.mem_cons_of_mem _ z),F.kT t ht,Nu i t hi ht];simp) (fun b hb=>by
    obtain⟨j,hj⟩:=List.getElem?_of_mem hb
    rw[b7,b7,fb b hb,F.Cv i j w b hw hj,zW i j b hi (bat hj)]
    by_cases e:i=j
    ·rw[if_pos e,if_pos e,Int.mul_comm S' S,Int.neg_mul S S',Int.mul_zero];omega
    ·rw[if_neg e,if_neg e];simp) (by
    rw[b7,b7,fc,zW i bs.length c hi cat,if_neg (by omega),Int.neg_mul,Int.mul_comm S'];simp;omega)
  intro t
  have:=key t
  rw[Int.neg_mul,Int.neg_mul] at this
  omega
 have Ng:∀i w,ws[i]? =some w→(fun t=>(S'*w t - cq n w c*(g*fresh r bs ws S t)).fdiv S)=u i:=by
  intro i w hw
  funext t
  rw[ZT i w hw t,Int.fdiv_eq_ediv_of_nonneg _ (by omega),Int.mul_ediv_cancel_left _ (by omega)]
 refine⟨⟨hp,⟨_,by rw[hlen];exact F',?_⟩,by simp [F.len],?_,?_,ZS,?_⟩,?_⟩
 ·exact hΔ0
 ·intro i j w b hw hb
  by_cases hi:i<ws.length
  ·rw[List.getElem?_append_left (by rw[List.length_map];exact hi),List.getElem?_map] at hw
   have ZU:=List.getElem?_eq_getElem hi
   rw[ZU] at hw
   have Cw:=Option.some.inj hw
   rw[←Cw]
   show cq n (fun t=>(S'*ws[i] t - cq n ws[i] c*(g*fresh r bs ws S t)).fdiv S) b=_
   rw[Ng i _ ZU]
   exact zW i j b (by rw[←F.len];exact hi) hb
  ·have tR:i=ws.length:=by
    have:=(List.getElem?_eq_some_iff.mp hw).1
    simp at this
    omega
   subst tR
   have Cw:(fun t=>g*fresh r bs ws S t)=w:=by
    rw[List.getElem?_append_right (by simp)] at hw
    simpa using hw
   rw[←Cw]
   by_cases hj:j<bs.length
   ·rw[List.getElem?_append_left hj] at hb
    rw[fb b (List.mem_of_getElem? hb),if_neg (by rw[F.len];omega)]
   ·have UT:j=bs.length:=by
     have:=(List.getElem?_eq_some_iff.mp hb).1
     simp at this
     omega
    subst UT
    rw[cat] at hb
    cases hb
    rw[fc,if_pos F.len]
 ·intro w hw t ht
  rcases List.mem_append.mp hw with h|h
  ·obtain⟨w0,h0,rfl⟩:=List.mem_map.mp h
   obtain⟨i,hi⟩:=List.getElem?_of_mem h0
   rw[Ng i w0 hi]
   exact Nu i t (by rw[←F.len];exact(List.getElem?_eq_some_iff.mp hi).1) ht
  ·have:w=fun t=>g*fresh r bs ws S t:=by simpa using h
   rw[this]
   show g*fresh r bs ws S t=0
   rw[F.kT t ht];simp
 ·intro y hy hb
  exact F.Fw hr hl y hy (fun b h=>hb b (List.mem_append_left _ h)) (hb c (by simp))
 ·intro w hw t
  obtain⟨i,hi⟩:=List.getElem?_of_mem hw
  have this:(S'*w t - cq n w c*(g*fresh r bs ws S t)).fdiv S=u i t:=congrFun (Ng i w hi) t
  rw[this,ZT i w hi t]
theorem Fr.bound(F:Fr n bs ws S R){M:Nat}(hM:1≤M)(hb:∀b∈bs,∀t,(b t).natAbs≤M):S.natAbs≤bs.length^bs.length*M^bs.length∧∀w∈ws,∀t,(w t).natAbs≤bs.length^bs.length*M^bs.length:=by
 obtain⟨φ,Fo,hv⟩:=F.Ir
 have hS:=F.pos
 refine⟨?_,fun w hw t=>?_⟩
 ·have:=Fo.U5 bs M rfl fun b lU t _=>hb b lU t
  rcases hv with h|h<;>rw[h] at this<;>omega
 obtain⟨σ,hσ,hΔ⟩:∃σ:Int,(σ=1∨σ= -1)∧σ*φ bs=S:=by
  rcases hv with h|h
  ·exact⟨1, .inl rfl,by omega⟩
  ·exact⟨-1, .inr rfl,by omega⟩
 obtain⟨i,hi⟩:=List.getElem?_of_mem hw
 have gK:i<bs.length:=by rw[←F.len];exact(List.getElem?_eq_some_iff.mp hi).1
 let u:cF:=fun t=>σ*φ (bs.set i (ev t))
 have zW:∀j b,bs[j]? =some b→cq n u b=if i=j then S else 0:=by
  intro j b hb
  have ex:=Fo.expand F.lt (bs.take i) (bs.drop (i+1)) b (by rw[List.length_take,List.length_drop];omega)
  have a:=Fo.at rfl gK hb
  rw[dX gK] at a
  have:cq n u b=σ*(sm n fun t=>b t*φ (bs.take i++ev t::bs.drop (i+1))):=by
   have l:=t8 n σ 0 (fun t=>b t*φ (bs.take i++ev t::bs.drop (i+1))) (fun _=>0)
   simp only [Int.zero_mul,Int.add_zero] at l
   rw[←l]
   refine iG fun t _=>?_
   show σ*φ (bs.set i (ev t))*b t=_
   rw[dX gK,Int.mul_assoc,Int.mul_comm (φ _)]
  rw[this,←ex,a]
  by_cases e:i=j
  ·rw[if_pos e,if_pos e,hΔ]
  ·rw[if_neg e,if_neg e];simp
 have key:=F.uniq (fun t=>1*w t+(-1)*u t) (fun t ht=>by
   have z:u t=0:=by
    show σ*φ (bs.set i (ev t))=0
    rw[dX gK,Fo.zero _ _ (ev t) (by rw[List.length_take,List.length_drop];omega) fun s hs=>?_]
    ·simp
    ·unfold ev;rw[if_neg fun z=>ht (by rw[←z];exact hs)]
   rw[F.sup w hw t ht,z];rfl) (fun b lU=>by
   obtain⟨j,hj⟩:=List.getElem?_of_mem lU
   rw[b7,F.Cv i j w b hi hj,zW j b hj];omega)
 have e:w t=σ*φ (bs.set i (ev t)):=by
  have:=key t
  show w t=u t
  omega
 have bd:=Fo.U5 (bs.set i (ev t)) M (by simp) fun v G6 s _=>by
  rcases List.mem_or_eq_of_mem_set G6 with z|z
  ·exact hb v z s
  ·rw[z];unfold ev;split<;>simp<;>omega
 rw[e,Int.natAbs_mul]
 have:σ.natAbs=1:=by rcases hσ with h|h<;>rw[h]<;>rfl
 rw[this,Nat.one_mul]
 exact bd
end
theorem fmod_eq(a b:Int):a.fmod b=a - b*a.fdiv b:=by
 have:=Int.fmod_add_mul_fdiv a b
 omega
theorem rO{a b:Int}(hb:b≠0):(a.fmod b).natAbs<b.natAbs:=by
 rcases Int.lt_or_lt_of_ne hb with h|h
 ·have h1:(-a).fmod (-b)= -(a.fmod b):=by
   rw[fmod_eq,fmod_eq,Int.neg_fdiv_neg]
   rw[Int.neg_mul];omega
  have h2:=Int.fmod_nonneg_of_pos (-a) (show (0:Int) < -b by omega)
  have h3:=Int.fmod_lt_of_pos (-a) (show (0:Int) < -b by omega)
  omega
 ·have h2:=Int.fmod_nonneg_of_pos a h
  have h3:=Int.fmod_lt_of_pos a h
  omega
theorem zX(a b:Int):Int.gcd b (a.fmod b)=Int.gcd a b:=by
 rw[fmod_eq,Int.gcd_sub_mul_left_right,Int.gcd_comm]
def cw(ns:List Int):Int:=ns.foldl (fun c n=>((Int.gcd c n:Nat):Int)) 0
theorem wY(ns:List Int)(z:Int):cw (ns++[z])=((Int.gcd (cw ns) z:Nat):Int):=by
 unfold cw;rw[List.foldl_append];rfl
theorem o8:∀(ns:List Int) (c:Int),ns.foldl (fun c n=>((Int.gcd c n:Nat):Int)) c ∣ c∧∀n∈ns,ns.foldl (fun c n=>((Int.gcd c n:Nat):Int)) c ∣ n
 | [],c=>⟨Int.dvd_refl c,fun n h=>by cases h⟩
 |z::r,c=>by
  obtain⟨h1,h2⟩:=o8 r ((Int.gcd c z:Nat):Int)
  refine⟨Int.dvd_trans h1 (Int.gcd_dvd_left c z),fun n hn=>?_⟩
  rcases List.mem_cons.mp hn with e|e
  ·rw[e];exact Int.dvd_trans h1 (Int.gcd_dvd_right c z)
  ·exact h2 n e
theorem iH{ns:List Int}{n:Int}(h:n∈ns):cw ns ∣ n:=(o8 ns 0).2 n h
theorem jY:∀(ns:List Int) (c:Int),0≤c→0≤ns.foldl (fun c n=>((Int.gcd c n:Nat):Int)) c
 | [],c,h=>h
 |z::r,c,_=>jY r _ (Int.natCast_nonneg _)
theorem iI(ns:List Int):0≤cw ns:=jY ns 0 (Int.le_refl 0)
theorem Cy{ns:List Int}{B:Nat}(h:∀n∈ns,n.natAbs≤B):(cw ns).natAbs≤B:=by
 by_cases e:∃n∈ns,n≠0
 ·obtain⟨n,hn,n0⟩:=e
  have:=Nat.le_of_dvd (by omega) (Int.natAbs_dvd_natAbs.mpr (iH hn))
  exact Nat.le_trans this (h n hn)
 ·have z:∀(l:List Int),(∀n∈l,n=0)→l.foldl (fun c n=>((Int.gcd c n:Nat):Int)) 0=0:=by
   intro l
   induction l with
   |nil=>intro _;rfl
   |cons x r ih=>
    intro hh
    rw[List.foldl_cons,hh x (List.mem_cons_self ..)]
    exact ih fun n hn=>hh n (List.mem_cons_of_mem _ hn)
  have:cw ns=0:=z ns fun n hn=>Classical.byContradiction fun q=>e ⟨n,hn,q⟩
  rw[this];exact Nat.zero_le _
def low(ns:List Int):List Int:=if cw ns=0 then ns else ns.map fun n=>n.fdiv (cw ns)
theorem low_length(ns:List Int):(low ns).length=ns.length:=by
 unfold low;split
 ·rfl
 ·rw[List.length_map]
theorem t9{ns:List Int}{k:Nat}{n:Int}(h:ns[k]? =some n):∃m,(low ns)[k]? =some m∧m*(if cw ns=0 then 1 else cw ns)=n∧m.natAbs≤n.natAbs:=by
 unfold low
 by_cases e:cw ns=0
 ·rw[if_pos e,if_pos e]
  exact⟨n,h,Int.mul_one n,Nat.le_refl _⟩
 ·rw[if_neg e,if_neg e]
  have hd:=iH (List.mem_of_getElem? h)
  have h0:=iI ns
  have key:n.fdiv (cw ns)*cw ns=n:=by
   rw[Int.fdiv_eq_ediv_of_nonneg n h0];exact Int.ediv_mul_cancel hd
  refine⟨n.fdiv (cw ns),by rw[List.getElem?_map,h];rfl,key,?_⟩
  have:n.natAbs=(n.fdiv (cw ns)).natAbs*(cw ns).natAbs:=by rw[←Int.natAbs_mul,key]
  rw[this]
  exact Nat.le_mul_of_pos_right _ (by omega)
def dot:List Int→List Int→Int
 |a::r,b::t=>a*b+dot r t
 |_,_=>0
theorem Cz(xs:List Int):dot xs []=0:=by cases xs<;>rfl
theorem qa:∀(xs ys:List Int),(List.zipWith (·*·) xs ys).sum=dot xs ys
 | [],_=>rfl
 |_::_,[]=>rfl
 |a::r,b::t=>by rw[List.zipWith_cons_cons,List.sum_cons,qa r t];rfl
theorem iX:∀(n:Nat) (xs ys:List Int),xs.length=n→ys.length=n→((List.range n).map fun k=>xs.getD k 0*ys.getD k 0).sum=dot xs ys
 |0,xs,ys,hx,hy=>by
  cases xs with
  |nil=>rfl
  |cons _ _=>cases hx
 |n+1,xs,ys,hx,hy=>by
  match xs,ys,hx,hy with
  |a::r,b::t,hx,hy=>
   rw[List.range_succ_eq_map,List.map_cons,List.map_map,List.sum_cons]
   have:=iX n r t (by simpa using hx) (by simpa using hy)
   show a*b+_=a*b+dot r t
   rw[←this]
   rfl
def row(cols:List (List Int))(r:Nat):List Int:=cols.map fun c=>c.getD r 0
def dY(ns:List Int)(cols:List (List Int))(w:Nat):List Int:=(List.range w).map fun r=>dot ns (row cols r)
def vec(l:List Int):cF:=fun t=>l.getD t 0
theorem qb{l:List Int}{t:Nat}{x:Int}(h:l[t]? =some x):vec l t=x:=by unfold vec;rw[List.getD_eq_getElem?_getD,h];rfl
theorem fg{l:List Int}{t:Nat}(h:l.length≤t):vec l t=0:=by unfold vec;rw[List.getD_eq_getElem?_getD,List.getElem?_eq_none h];rfl
theorem iJ{l:List Int}{t:Nat}(h:t<l.length):l[t]? =some (vec l t):=by unfold vec;rw[List.getD_eq_getElem?_getD,List.getElem?_eq_getElem h];rfl
theorem rP:∀(xs ys:List Int) (a b:Int),xs.length=ys.length→dot (xs++[a]) (ys++[b])=dot xs ys+a*b
 | [],[],a,b,_=>by simp [dot]
 |x::xs,y::ys,a,b,h=>by
  have:=rP xs ys a b (by simpa using h)
  simp only [List.cons_append,dot,this];omega
theorem jZ:∀(n:Nat) (w c:List Int),w.length=n→c.length=n→dot w c=cq n (vec w) (vec c):=by
 intro n w c hw hc
 rw[←iX n w c hw hc]
 unfold cq
 clear hw hc
 induction n with
 |zero=>rfl
 |succ n ih=>rw[List.range_succ,List.map_append,List.sum_append,ih];simp [sm,vec]
theorem vq:∀as bs:List Int,gm as bs=dot as bs
 | [],_=>by simp [gm,dot]
 |_::_,[]=>by simp [gm,dot]
 |a::as,b::bs=>by simp only [gm,dot,vq as bs]
structure KS where
 scale:Int
 places:List Nat
 bases:List (List Int)
 aH:List (List Int)
def ax(st:KS)(c:List Int):List Int:=st.aH.map fun w=>dot w c
def jm(st:KS)(c sh:List Int)(r:Nat):Int:=st.scale*c.getD r 0 - dot sh (st.bases.map fun b=>b.getD r 0)
def lZ(st:KS)(c sh:List Int):Option Nat:=(List.range c.length).find? fun r=>!decide (jm st c sh r=0)
def dB(told:List Int)(x:Int)(w:List Int):List Int:=List.zipWith (fun one other=>one - x*other) told w
def a8(st:KS)(r n:Nat):List Int:=(st.bases.zip st.aH).foldl (fun told bw=>dB told (bw.1.getD r 0) bw.2) ((List.replicate n (0 :Int)).set r st.scale)
def bL(f c:List Int):List Int:=if dot f c<0 then f.map fun x=> -x else f
def cG(S S':Int)(w:List Int)(s:Int)(f:List Int):List Int:=List.zipWith (fun one other=>(S'*one - s*other).fdiv S) w f
def bindL(st:KS)(place:Nat)(c sh:List Int)(r:Nat):KS:=
 let f:=bL (a8 st r c.length) c
 { scale:=dot f c,places:=st.places++[place],bases:=st.bases++[c],aH:=List.zipWith (fun w s=>cG st.scale (dot f c) w s f) st.aH sh++[f] }
def cV(st:KS)(place:Nat)(sh:List Int)(many:Nat):List Int:=(st.places.zip sh).foldl (fun l ps=>l.set ps.1 (-ps.2)) ((List.replicate many (0 :Int)).set place st.scale)
structure KR where
 st:KS
 free:List Nat
 ck:List (List Int)
def j0(many:Nat)(x:KR)(place:Nat)(c:List Int):KR:=
 match lZ x.st c (ax x.st c) with
 |none=>{ x with free:=x.free++[place],ck:=x.ck++[low (cV x.st place (ax x.st c) many)] }
 |some r=>{ x with st:=bindL x.st place c (ax x.st c) r }
def dm(many:Nat)(cs:List (List Int)):KR:=(cs.zipIdx).foldl (fun x ci=>j0 many x ci.2 ci.1) ⟨⟨1,[],[],[]⟩,[],[]⟩
theorem gE(many:Nat)(cs:List (List Int))(c:List Int):dm many (cs++[c])=j0 many (dm many cs) cs.length c:=by
 unfold dm
 rw[List.zipIdx_append,List.foldl_append]
 simp
structure qc(n:Nat)(st:KS):Prop where
 fr:∃R,Fr n (st.bases.map vec) (st.aH.map vec) st.scale R
 lb:∀b∈st.bases,b.length=n
 lw:∀w∈st.aH,w.length=n
theorem qc.start(n:Nat):qc n ⟨1,[],[],[]⟩:=⟨⟨[],Fr.start n⟩,(fun _ h=>by cases h),(fun _ h=>by cases h)⟩
theorem wZ{n:Nat}{st:KS}(F:qc n st){c:List Int}(hc:c.length=n):ax st c=jv n (st.aH.map vec) (vec c):=by
 unfold ax jv
 rw[List.map_map]
 exact List.map_congr_left fun w hw=>jZ n w c (F.lw w hw) hc
theorem rest_eq{n:Nat}{st:KS}(F:qc n st){c:List Int}(hc:c.length=n)(r:Nat):jm st c (ax st c) r=left n (st.bases.map vec) (st.aH.map vec) st.scale (vec c) r:=by
 unfold jm left
 rw[p9,vq,List.map_map,wZ F hc]
 show _=st.scale*vec c r+ -1*dot _ (st.bases.map fun b=>b.getD r 0)
 unfold vec
 omega
theorem kU{told w:List Int}{n:Nat}(h:told.length=n)(hw:w.length=n)(x:Int):(dB told x w).length=n:=by unfold dB;rw[List.length_zipWith];omega
theorem xc{told w:List Int}{n:Nat}(h:told.length=n)(hw:w.length=n)(x:Int)(t:Nat):vec (dB told x w) t=vec told t+(-1)*(x*vec w t):=by
 by_cases ht:t<n
 ·have a:=iJ (l:=told) (t:=t) (by omega)
  have b:=iJ (l:=w) (t:=t) (by omega)
  rw[qb (x:=vec told t - x*vec w t) (by unfold dB;rw[List.getElem?_zipWith,a,b])]
  omega
 ·rw[fg (by rw[kU h hw];omega),fg (l:=told) (by omega),fg (l:=w) (by omega)];simp
theorem nG{n:Nat}(r:Nat):∀(bs ws:List (List Int)) (told:List Int),told.length=n→(∀w∈ws,w.length=n)→
  ((bs.zip ws).foldl (fun told bw=>dB told (bw.1.getD r 0) bw.2) told).length=n∧∀t,vec ((bs.zip ws).foldl (fun told bw=>dB told (bw.1.getD r 0) bw.2) told) t=vec told t+(-1)*lH ((bs.map vec).map fun b=>b r) (ws.map vec) t
 | [],_,told,h,_=>⟨h,fun t=>by simp [lH]⟩
 |_::_,[],told,h,_=>⟨h,fun t=>by simp [lH]⟩
 |b::bs,w::ws,told,h,hw=>by
  have ZV:=hw w (List.mem_cons_self ..)
  obtain⟨h1,h2⟩:=nG r bs ws (dB told (b.getD r 0) w) (kU h ZV _) fun v hv=>hw v (List.mem_cons_of_mem _ hv)
  refine⟨h1,fun t=>?_⟩
  rw[List.zip_cons_cons,List.foldl_cons,h2 t,xc h ZV]
  simp only [List.map_cons,lH]
  show _+ -1*(vec b r*vec w t)+_=_
  omega
theorem zY{n r:Nat}{S:Int}(hr:r<n)(t:Nat):vec ((List.replicate n (0 :Int)).set r S) t=S*ev r t:=by
 unfold vec ev
 rw[List.getD_eq_getElem?_getD,List.getElem?_set]
 by_cases e:r=t
 ·subst e
  rw[if_pos rfl,if_pos (by simpa using hr),if_pos rfl];simp
 ·rw[if_neg e,if_neg (fun z=>e z.symm)]
  by_cases h:t<n
  ·rw[List.getElem?_replicate,if_pos h];simp
  ·rw[List.getElem?_replicate,if_neg h];simp
theorem rQ{n:Nat}{st:KS}(F:qc n st){r:Nat}(hr:r<n):(a8 st r n).length=n∧vec (a8 st r n)=fresh r (st.bases.map vec) (st.aH.map vec) st.scale:=by
 obtain⟨h1,h2⟩:=nG (n:=n) r st.bases st.aH ((List.replicate n (0 :Int)).set r st.scale) (by simp) F.lw
 refine⟨h1,?_⟩
 funext t
 unfold a8 fresh
 rw[h2 t,zY hr]
theorem rR{st:KS}{c sh:List Int}{r:Nat}(h:lZ st c sh=some r):r<c.length∧jm st c sh r≠0:=by
 unfold lZ at h
 have h1:=List.mem_of_find?_eq_some h
 have h2:=List.find?_some h
 exact⟨List.mem_range.mp h1,by simpa using h2⟩
theorem zZ{st:KS}{c sh:List Int}(h:lZ st c sh=none){r:Nat}(hr:r<c.length):jm st c sh r=0:=by
 unfold lZ at h
 have:=List.find?_eq_none.mp h r (List.mem_range.mpr hr)
 simpa using this
theorem CA(f:List Int)(t:Nat):vec (f.map fun x=> -x) t= - vec f t:=by
 by_cases h:t<f.length
 ·rw[qb (x:= - vec f t) (by rw[List.getElem?_map,iJ h];rfl)]
 ·rw[fg (by rw[List.length_map];omega),fg (by omega)];rfl
theorem zip_map{α β γ:Type}(g:α→β→γ)(h:α→β):∀l:List α,List.zipWith g l (l.map h)=l.map fun x=>g x (h x)
 | []=>rfl
 |x::l=>by rw[List.map_cons,List.zipWith_cons_cons,List.map_cons,zip_map g h l]
theorem xf{n:Nat}{S S' s:Int}{w f:List Int}(hw:w.length=n)(hf:f.length=n)(t:Nat):vec (cG S S' w s f) t=(S'*vec w t - s*vec f t).fdiv S:=by
 by_cases h:t<n
 ·rw[qb (x:=(S'*vec w t - s*vec f t).fdiv S) (by unfold cG;rw[List.getElem?_zipWith,iJ (l:=w) (by omega),iJ (l:=f) (by omega)])]
 ·rw[fg (by unfold cG;rw[List.length_zipWith];omega),fg (l:=w) (by omega),fg (l:=f) (by omega)];simp
theorem qc.bind{n:Nat}{st:KS}(F:qc n st){c:List Int}(hc:c.length=n){r:Nat}(hr:lZ st c (ax st c)=some r)(place:Nat):
  qc n (bindL st place c (ax st c) r)∧(bL (a8 st r n) c).length=n∧(∀w∈st.aH,∀t,st.scale*vec (cG st.scale (dot (bL (a8 st r n) c) c) w (dot w c) (bL (a8 st r n) c)) t=dot (bL (a8 st r n) c) c*vec w t - dot w c*vec (bL (a8 st r n) c) t):=by
 obtain⟨h1,h2⟩:=rR hr
 obtain⟨R,G⟩:=F.fr
 have Iv:r<n:=by omega
 obtain⟨fl,fv⟩:=rQ F Iv
 have hl:left n (st.bases.map vec) (st.aH.map vec) st.scale (vec c) r≠0:=by rw[←rest_eq F hc];exact h2
 have d0:dot (a8 st r n) c=left n (st.bases.map vec) (st.aH.map vec) st.scale (vec c) r:=by rw[jZ n _ c fl hc,fv,gD Iv]
 obtain⟨g,hg,sl,sv,hp⟩:∃g:Int,(g=1∨g= -1)∧(bL (a8 st r n) c).length=n∧(∀t,vec (bL (a8 st r n) c) t=g*fresh r (st.bases.map vec) (st.aH.map vec) st.scale t)∧0<g*left n (st.bases.map vec) (st.aH.map vec) st.scale (vec c) r:=by
  unfold bL
  rw[d0]
  by_cases h:left n (st.bases.map vec) (st.aH.map vec) st.scale (vec c) r<0
  ·rw[if_pos h]
   exact⟨-1, .inr rfl,by rw[List.length_map];exact fl,fun t=>by rw[CA,fv];omega,by omega⟩
  ·rw[if_neg h]
   exact⟨1, .inl rfl,fl,fun t=>by rw[fv];omega,by omega⟩
 have sc:dot (bL (a8 st r n) c) c=g*left n (st.bases.map vec) (st.aH.map vec) st.scale (vec c) r:=by
  rw[jZ n _ c sl hc,←gD Iv]
  have l:=b7 n g 0 (fresh r (st.bases.map vec) (st.aH.map vec) st.scale) (fresh r (st.bases.map vec) (st.aH.map vec) st.scale) (vec c)
  simp only [Int.zero_mul,Int.add_zero] at l
  rw[←l]
  exact iG fun t _=>by rw[sv t]
 obtain⟨G',ex⟩:=G.step Iv hl hg hp
 have key:∀w∈st.aH,vec (cG st.scale (dot (bL (a8 st r n) c) c) w (dot w c) (bL (a8 st r n) c))=
   fun t=>(g*left n (st.bases.map vec) (st.aH.map vec) st.scale (vec c) r*vec w t - cq n (vec w) (vec c)*(g*fresh r (st.bases.map vec) (st.aH.map vec) st.scale t)).fdiv st.scale:=by
  intro w hw
  funext t
  rw[xf (F.lw w hw) sl,sc,sv t,jZ n w c (F.lw w hw) hc]
 refine⟨⟨⟨r::R,?_⟩,?_,?_⟩,sl,fun w hw t=>?_⟩
 ·have e1:(bindL st place c (ax st c) r).bases.map vec=st.bases.map vec++[vec c]:=by simp [bindL]
  have e2:(bindL st place c (ax st c) r).scale=g*left n (st.bases.map vec) (st.aH.map vec) st.scale (vec c) r:=by
   show dot (bL (a8 st r c.length) c) c=_
   rw[hc];exact sc
  have e3:(bindL st place c (ax st c) r).aH.map vec=((st.aH.map vec).map fun w=>fun t=>(g*left n (st.bases.map vec) (st.aH.map vec) st.scale (vec c) r*w t - cq n w (vec c)*(g*fresh r (st.bases.map vec) (st.aH.map vec) st.scale t)).fdiv st.scale)++[fun t=>g*fresh r (st.bases.map vec) (st.aH.map vec) st.scale t]:=by
   show (List.zipWith (fun w s=>cG st.scale (dot (bL (a8 st r c.length) c) c) w s (bL (a8 st r c.length) c)) st.aH (st.aH.map fun w=>dot w c)++[bL (a8 st r c.length) c]).map vec=_
   rw[hc,List.map_append,zip_map,List.map_map,List.map_map]
   congr 1
   ·exact List.map_congr_left fun w hw=>key w hw
   ·simp only [List.map_cons,List.map_nil]
    congr 1
    funext t;exact sv t
  rw[e1,e2,e3]
  exact G'
 ·intro b hb
  rcases List.mem_append.mp (show b∈st.bases++[c] from hb) with h|h
  ·exact F.lb b h
  ·have:b=c:=by simpa using h
   rw[this];exact hc
 ·intro w hw
  have Cw:w∈List.zipWith (fun w s=>cG st.scale (dot (bL (a8 st r c.length) c) c) w s (bL (a8 st r c.length) c)) st.aH (st.aH.map fun w=>dot w c)++[bL (a8 st r c.length) c]:=hw
  rw[hc,zip_map] at Cw
  rcases List.mem_append.mp Cw with h|h
  ·obtain⟨w0,h0,rfl⟩:=List.mem_map.mp h
   unfold cG
   rw[List.length_zipWith,F.lw w0 h0,sl,Nat.min_self]
  ·have:w=bL (a8 st r n) c:=by simpa using h
   rw[this];exact sl
 ·rw[congrFun (key w hw) t,ex (vec w) (List.mem_map.mpr ⟨w,hw,rfl⟩) t,sc,sv t,jZ n w c (F.lw w hw) hc]
theorem qc.small{n:Nat}{st:KS}(F:qc n st){M:Nat}(hM:1≤M)(hb:∀b∈st.bases,∀x∈b,x.natAbs≤M):
  0<st.scale∧st.scale.natAbs≤st.bases.length^st.bases.length*M^st.bases.length∧∀w∈st.aH,∀x∈w,x.natAbs≤st.bases.length^st.bases.length*M^st.bases.length:=by
 obtain⟨R,G⟩:=F.fr
 have:=G.bound hM fun b lU t=>by
  obtain⟨b0,h0,rfl⟩:=List.mem_map.mp lU
  by_cases h:t<b0.length
  ·exact hb b0 h0 _ (List.mem_of_getElem? (iJ h))
  ·rw[fg (by omega)];exact Nat.zero_le _
 rw[List.length_map] at this
 refine⟨G.pos,this.1,fun w hw x hx=>?_⟩
 obtain⟨t,ht⟩:=List.getElem?_of_mem hx
 have:=this.2 (vec w) (List.mem_map.mpr ⟨w,hw,rfl⟩) t
 rwa [qb ht] at this
theorem qd:∀(l h:List Int) (i:Nat) (v:Int),l.length=h.length→i<l.length→dot (l.set i v) h=dot l h+(v - l.getD i 0)*h.getD i 0
 | [],_,i,_,_,hi=>by simp at hi
 |a::l,b::h,0,v,hl,_=>by
  simp only [List.set_cons_zero,dot]
  show _=a*b+dot l h+(v - a)*b
  rw[Int.sub_mul];omega
 |a::l,b::h,i+1,v,hl,hi=>by
  have ih:=qd l h i v (by simpa using hl) (by simpa using hi)
  simp only [List.set_cons_succ,dot,ih]
  show _=a*b+dot l h+(v - l.getD i 0)*h.getD i 0
  omega
 |_::_,[],_,_,hl,_=>by simp at hl
theorem fU{l:List Int}{i j:Nat}{v:Int}(h:i≠j):(l.set i v).getD j 0=l.getD j 0:=by
 rw[List.getD_eq_getElem?_getD,List.getD_eq_getElem?_getD,List.getElem?_set_ne h]
theorem lI{l:List Int}{i:Nat}{v:Int}(h:i<l.length):(l.set i v).getD i 0=v:=by
 rw[List.getD_eq_getElem?_getD,List.getElem?_set_self h];rfl
theorem nH:∀(ps:List (Nat×Int)) (l:List Int),(ps.foldl (fun l ps=>l.set ps.1 (-ps.2)) l).length=l.length
 | [],_=>rfl
 |p::ps,l=>by rw[List.foldl_cons,nH ps,List.length_set]
theorem gU{j:Nat}:∀(ps:List Nat) (sh:List Int) (l:List Int),j∉ps→((ps.zip sh).foldl (fun l ps=>l.set ps.1 (-ps.2)) l).getD j 0=l.getD j 0
 | [],_,_,_=>rfl
 |_::_,[],_,_=>rfl
 |p::ps,s::sh,l,h=>by
  rw[List.zip_cons_cons,List.foldl_cons,gU ps sh _ fun z=>h (List.mem_cons_of_mem _ z),fU fun z=>h (by rw[←z];exact List.mem_cons_self ..)]
theorem rS{h:List Int}:∀(ps:List Nat) (sh l:List Int),l.length=h.length→ps.Nodup→(∀p∈ps,p<l.length∧l.getD p 0=0)→ps.length=sh.length→
  dot ((ps.zip sh).foldl (fun l ps=>l.set ps.1 (-ps.2)) l) h=dot l h - dot sh (ps.map fun p=>h.getD p 0)
 | [],sh,l,_,_,_,hs=>by
   cases sh with
   |nil=>simp [dot]
   |cons _ _=>cases hs
 |p::ps,s::sh,l,hl,nd,hp,hs=>by
  obtain⟨p1,p2⟩:=hp p (List.mem_cons_self ..)
  obtain⟨n1,n2⟩:=List.nodup_cons.mp nd
  rw[List.zip_cons_cons,List.foldl_cons,rS ps sh (l.set p (-s)) (by rw[List.length_set];exact hl) n2 (fun p' uU=>⟨by rw[List.length_set];exact(hp p' (List.mem_cons_of_mem _ uU)).1,by
   rw[fU fun z=>n1 (by rw[z];exact uU)];exact(hp p' (List.mem_cons_of_mem _ uU)).2⟩) (by simpa using hs),qd l h p (-s) hl p1,p2]
  simp only [List.map_cons,dot,Int.sub_zero,Int.neg_mul]
  omega
 |_::_,[],_,_,_,_,hs=>by cases hs
theorem xg(n:Nat)(h:List Int):dot (List.replicate n (0 :Int)) h=0:=by
 induction n generalizing h with
 |zero=>rfl
 |succ n ih=>
  cases h with
  |nil=>rfl
  |cons b h=>rw[List.replicate_succ];simp only [dot,ih];simp
theorem jy(n j:Nat):(List.replicate n (0 :Int)).getD j 0=0:=by
 rw[List.getD_eq_getElem?_getD,List.getElem?_replicate];split<;>rfl
theorem o9(g:Int):∀(l h:List Int),dot (l.map fun x=>x*g) h=g*dot l h
 | [],_=>by simp [dot]
 |_::_,[]=>by simp [dot]
 |a::l,b::h=>by
  have:=o9 g l h
  simp only [List.map_cons,dot,this,Int.mul_add,Int.mul_assoc,Int.mul_left_comm]
theorem pb(ns:List Int)(h:cw ns≠0):(low ns).map (fun x=>x*cw ns)=ns:=by
 apply List.ext_getElem?
 intro k
 rw[List.getElem?_map]
 cases e:ns[k]? with
 |none=>
  rw[List.getElem?_eq_none (by rw[low_length];exact List.getElem?_eq_none_iff.mp e)];rfl
 |some n=>
  obtain⟨m,h1,h2,_⟩:=t9 e
  rw[if_neg h] at h2
  rw[h1,←h2];rfl
structure z4(cs:List (List Int))(n:Nat)(pl:List Nat)(f:Nat)(T:List Int):Prop where
 len:T.length=cs.length
 pos:0<T.getD f 0
 zero:∀j,j≠f→(j∉pl∨f<j)→T.getD j 0=0
 lev:∀r,r<n→dot T (row cs r)=0
structure Told(n:Nat)(cs:List (List Int))(i:Nat)(x:KR):Prop where
 bases:x.st.bases=x.st.places.map fun p=>cs.getD p []
 nd:x.st.places.Nodup
 qK:∀p∈x.st.places,p<i
 all:∀j,j<i→j∈x.st.places∨j∈x.free
 sR:∀j∈x.free,j<i∧j∉x.st.places
 ZW:x.free.Nodup
 nn:x.ck.length=x.free.length
 lev:∀(a f:Nat) (T:List Int),x.free[a]? =some f→x.ck[a]? =some T→z4 cs n x.st.places f T
theorem fh(cs:List (List Int))(r:Nat):(row cs r).length=cs.length:=by unfold row;rw[List.length_map]
theorem gF{cs:List (List Int)}{j r:Nat}(h:j<cs.length):(row cs r).getD j 0=(cs.getD j []).getD r 0:=by
 unfold row
 rw[List.getD_eq_getElem?_getD,List.getElem?_map,List.getElem?_eq_getElem h,List.getD_eq_getElem?_getD (l:=cs),List.getElem?_eq_getElem h];rfl
theorem Nv{n:Nat}{st:KS}(F:qc n st):st.aH.length=st.bases.length:=by
 obtain⟨R,G⟩:=F.fr
 have:=G.len
 simpa using this
theorem xh{n:Nat}{cs:List (List Int)}{i:Nat}{x:KR}{c:List Int}(F:qc n x.st)(pl:x.st.places.length=x.st.bases.length)(t:Told n cs i x)(hi:cs[i]? =some c)(hc:∀c∈cs,c.length=n)(hr:lZ x.st c (ax x.st c)=none):
  z4 cs n x.st.places i (low (cV x.st i (ax x.st c) cs.length)):=by
 have gK:i<cs.length:=(List.getElem?_eq_some_iff.mp hi).1
 have hS:0<x.st.scale:=by obtain⟨R,G⟩:=F.fr;exact G.pos
 have LM:i∉x.st.places:=fun z=>Nat.lt_irrefl _ (t.qK i z)
 have Nw:(cV x.st i (ax x.st c) cs.length).length=cs.length:=by unfold cV;rw[nH];simp
 have ri:(cV x.st i (ax x.st c) cs.length).getD i 0=x.st.scale:=by
  unfold cV;rw[gU _ _ _ LM,lI (by simp;exact gK)]
 have rj:∀j,j≠i→j∉x.st.places→(cV x.st i (ax x.st c) cs.length).getD j 0=0:=fun j h1 h2=>by
  unfold cV;rw[gU _ _ _ h2,fU (Ne.symm h1),jy]
 have rd:∀r,r<n→dot (cV x.st i (ax x.st c) cs.length) (row cs r)=0:=fun r Iv=>by
  have hcl:c.length=n:=hc c (List.mem_of_getElem? hi)
  have z:=zZ hr (r:=r) (by omega)
  unfold jm at z
  unfold cV
  rw[rS (h:=row cs r) _ _ _ (by simp [fh]) t.nd (fun p hp=>⟨by simp;exact Nat.lt_trans (t.qK p hp) gK,by rw[fU fun z=>LM (by rw[z];exact hp),jy]⟩) (by rw[pl];unfold ax;rw[List.length_map,Nv F]),
   qd _ _ _ _ (by simp [fh]) (by simp;exact gK),xg,jy,gF gK]
  have e1:cs.getD i []=c:=by rw[List.getD_eq_getElem?_getD,hi];rfl
  have e2:(x.st.places.map fun p=>(row cs r).getD p 0)=x.st.bases.map fun b=>b.getD r 0:=by
   rw[t.bases,List.map_map]
   exact List.map_congr_left fun p hp=>gF (Nat.lt_trans (t.qK p hp) gK)
  rw[e1,e2]
  simp only [Int.sub_zero,Int.zero_add]
  exact z
 have g0:cw (cV x.st i (ax x.st c) cs.length)≠0:=fun z=>by
  have hm:x.st.scale∈cV x.st i (ax x.st c) cs.length:=by
   rw[←ri]
   exact List.mem_of_getElem? (iJ (l:=cV x.st i (ax x.st c) cs.length) (t:=i) (by omega))
  have:=iH hm
  rw[z] at this
  have:=Int.zero_dvd.mp this
  omega
 have gp:0<cw (cV x.st i (ax x.st c) cs.length):=by have:=iI (cV x.st i (ax x.st c) cs.length);omega
 have key:∀j,j<cs.length→(low (cV x.st i (ax x.st c) cs.length)).getD j 0*cw (cV x.st i (ax x.st c) cs.length)=(cV x.st i (ax x.st c) cs.length).getD j 0:=fun j hj=>by
  obtain⟨m,h1,h2,_⟩:=t9 (iJ (l:=cV x.st i (ax x.st c) cs.length) (t:=j) (by omega))
  rw[if_neg g0] at h2
  rw[List.getD_eq_getElem?_getD,h1]
  exact h2
 have ll:(low (cV x.st i (ax x.st c) cs.length)).length=cs.length:=by rw[low_length,Nw]
 refine⟨ll,?_,fun j hj h=>?_,fun r Iv=>?_⟩
 ·have h:=key i gK
  rw[ri] at h
  exact Int.pos_of_mul_pos_left (by rw[h];exact hS) (by omega)
 ·by_cases W2:j<cs.length
  ·have hjp:j∉x.st.places:=h.elim (fun z=>z) fun z w=>Nat.lt_asymm (t.qK j w) z
   have h2:=key j W2
   rw[rj j hj hjp] at h2
   rcases Int.mul_eq_zero.mp h2 with q|q
   ·exact q
   ·exact absurd q g0
  ·rw[List.getD_eq_getElem?_getD,List.getElem?_eq_none (by omega)];rfl
 ·have h:=rd r Iv
  rw[←pb _ g0,o9] at h
  rcases Int.mul_eq_zero.mp h with q|q
  ·exact absurd q g0
  ·exact q
theorem z4.more{cs:List (List Int)}{n:Nat}{pl:List Nat}{f:Nat}{T:List Int}(h:z4 cs n pl f T)(p:Nat):z4 cs n (pl++[p]) f T:=
 ⟨h.len,h.pos,fun j hj k=>h.zero j hj (k.elim (fun z=> .inl fun w=>z (List.mem_append_left _ w)) .inr),h.lev⟩
theorem qe{n:Nat}{cs:List (List Int)}(hc:∀c∈cs,c.length=n):∀i,i≤cs.length→qc n (dm cs.length (cs.take i)).st∧(dm cs.length (cs.take i)).st.places.length=(dm cs.length (cs.take i)).st.bases.length∧Told n cs i (dm cs.length (cs.take i))
 |0,_=>⟨qc.start n,rfl,⟨rfl, .nil,(fun p h=>by cases h),(fun j h=>by omega),(fun j h=>by cases h), .nil,rfl,fun a f T h=>by simp [dm] at h⟩⟩
 |i+1,hi=>by
  obtain⟨F,pl,t⟩:=qe hc i (by omega)
  have qf:=List.getElem?_eq_getElem (l:=cs) (i:=i) (by omega)
  have oz:=List.mem_of_getElem? qf
  have ts:cs.take (i+1)=cs.take i++[cs[i]]:=by rw[List.take_add_one,qf];rfl
  rw[ts,gE,List.length_take,Nat.min_eq_left (by omega)]
  generalize dm cs.length (cs.take i)=x at F pl t
  generalize cs[i]=c at qf oz
  have LM:i∉x.st.places:=fun z=>Nat.lt_irrefl _ (t.qK i z)
  unfold j0
  split
  ·rename_i hr
   refine⟨F,pl,⟨t.bases,t.nd,fun p hp=>Nat.lt_succ_of_lt (t.qK p hp),fun j hj=>?_,fun j hj=>?_,?_,by simp;exact t.nn,fun a f T h1 h2=>?_⟩⟩
   ·rcases Nat.lt_succ_iff_lt_or_eq.mp hj with q|q
    ·exact(t.all j q).imp id fun z=>List.mem_append_left _ z
    ·exact .inr (by rw[q];simp)
   ·rcases List.mem_append.mp hj with q|q
    ·exact⟨Nat.lt_succ_of_lt (t.sR j q).1,(t.sR j q).2⟩
    ·have q:j=i:=by simpa using q
     rw[q];exact⟨Nat.lt_succ_self i,LM⟩
   ·rw[List.nodup_append]
    refine⟨t.ZW,by simp,fun a ha b hb=>?_⟩
    have hb:b=i:=by simpa using hb
    rw[hb]
    exact Nat.ne_of_lt (t.sR a ha).1
   ·by_cases ha:a<x.free.length
    ·rw[List.getElem?_append_left ha] at h1
     rw[List.getElem?_append_left (by rw[t.nn];exact ha)] at h2
     exact t.lev a f T h1 h2
    ·have W3:a=x.free.length:=by
      have:=(List.getElem?_eq_some_iff.mp h1).1
      simp at this
      omega
     subst W3
     rw[List.getElem?_append_right (Nat.le_refl _)] at h1
     rw[List.getElem?_append_right (by rw[t.nn];exact Nat.le_refl _),t.nn] at h2
     simp at h1 h2
     subst h1 h2
     exact xh (x:=x) F pl t qf hc hr
  ·rename_i r hr
   obtain⟨B1,_,_⟩:=F.bind (hc c oz) hr i
   refine⟨B1,by simp [bindL];exact pl,⟨?_,?_,fun p hp=>?_,fun j hj=>?_,fun j hj=>?_,t.ZW,t.nn,fun a f T h1 h2=>(t.lev a f T h1 h2).more i⟩⟩
   ·show x.st.bases++[c]=(x.st.places++[i]).map fun p=>cs.getD p []
    rw[List.map_append,←t.bases]
    simp only [List.map_cons,List.map_nil]
    rw[List.getD_eq_getElem?_getD,qf];rfl
   ·show (x.st.places++[i]).Nodup
    rw[List.nodup_append]
    refine⟨t.nd,by simp,fun a ha b hb=>?_⟩
    have hb:b=i:=by simpa using hb
    rw[hb]
    exact Nat.ne_of_lt (t.qK a ha)
   ·rcases List.mem_append.mp (show p∈x.st.places++[i] from hp) with q|q
    ·exact Nat.lt_succ_of_lt (t.qK p q)
    ·have q:p=i:=by simpa using q
     rw[q];exact Nat.lt_succ_self i
   ·rcases Nat.lt_succ_iff_lt_or_eq.mp hj with q|q
    ·exact(t.all j q).imp (fun z=>List.mem_append_left _ z) id
    ·exact .inl (List.mem_append_right _ (by rw[q];simp))
   ·refine⟨Nat.lt_succ_of_lt (t.sR j hj).1,fun z=>?_⟩
    rcases List.mem_append.mp z with q|q
    ·exact(t.sR j hj).2 q
    ·have q:j=i:=by simpa using q
     have:=(t.sR j hj).1
     omega
def Iw(ns:List Int):Prop:=∀n∈ns,cP 60000000 n
def pe:Sp:=fun vs H Q _=>∃a b:Int,vs=[.int a, .int b]∧Q (.int (Int.gcd a b:Nat)) H
def rT(K:PySem.W.Frag):Sp:=fun vs H Q _=>∃(p:Addr) (ns:List Int),vs=[.ref p]∧aD K H p (ns.map V.int)∧ns.length≤sizeLine∧(∀n∈ns,n.natAbs<2^8000)∧
 ∀l H',H l=none→ao H H'→H' l=some (.lst ((low ns).map V.int))→Q (.ref l) H'
def mx(K:PySem.W.Frag):Sp:=fun vs H Q _=>∃(p r:Addr) (ws cs:List Int),vs=[.ref p, .ref r]∧aD K H p (ws.map V.int)∧aD K H r (cs.map V.int)∧ws.length≤sizeLine∧Iw ws∧Iw cs∧∀H',ao H H'→Q (.int (dot ws cs)) H'
structure FF(fs:List (Str×V))(S:Int)(aP aB aW:Addr):Prop where
 s:fs.lookup ("scale" :Str)=some (.int S)
 p:fs.lookup ("places" :Str)=some (.ref aP)
 b:fs.lookup ("bases" :Str)=some (.ref aB)
 w:fs.lookup ("weights" :Str)=some (.ref aW)
 no:∀m:Str,m≠"scale" →m≠"places" →m≠"bases" →m≠"weights" →fs.lookup m=none
 len:fs.length≤4
theorem qg{f:Str}{v:V}:∀{fs:List (Str×V)},(fs.lookup f).isSome=true→(aE f v fs).length=fs.length
 | [],h=>by cases h
 | (g,u)::r,h=>by
   unfold aE
   by_cases e:g=f
   ·rw[if_pos e];rfl
   ·rw[if_neg e]
    rw[List.lookup_cons,beq_eq_false_iff_ne.mpr (Ne.symm e)] at h
    rw[List.length_cons,qg h,List.length_cons]
theorem FF.W4(S:Int)(aP aB aW:Addr):FF (aE "weights" (.ref aW) (aE "bases" (.ref aB) (aE "places" (.ref aP) (aE "scale" (.int S) [])))) S aP aB aW where
 s:=by rw[au,if_neg (by decide+kernel),au,if_neg (by decide+kernel),au,if_neg (by decide+kernel),au,if_pos rfl]
 p:=by rw[au,if_neg (by decide+kernel),au,if_neg (by decide+kernel),au,if_pos rfl]
 b:=by rw[au,if_neg (by decide+kernel),au,if_pos rfl]
 w:=by rw[au,if_pos rfl]
 no:=fun m h1 h2 h3 h4=>by rw[au,if_neg h4,au,if_neg h3,au,if_neg h2,au,if_neg h1];rfl
 len:=by
  have a1:=b6 "scale" (.int S) []
  have a2:=b6 "places" (.ref aP) (aE "scale" (.int S) [])
  have a3:=b6 "bases" (.ref aB) (aE "places" (.ref aP) (aE "scale" (.int S) []))
  have a4:=b6 "weights" (.ref aW) (aE "bases" (.ref aB) (aE "places" (.ref aP) (aE "scale" (.int S) [])))
  simp at a1
  omega
theorem FF.W5{fs:List (Str×V)}{S:Int}{aP aB aW:Addr}(h:FF fs S aP aB aW)(LN:Addr):FF (aE "weights" (.ref LN) fs) S aP aB LN where
 s:=by rw[au,if_neg (by decide+kernel)];exact h.s
 p:=by rw[au,if_neg (by decide+kernel)];exact h.p
 b:=by rw[au,if_neg (by decide+kernel)];exact h.b
 w:=by rw[au,if_pos rfl]
 no:=fun m h1 h2 h3 h4=>by rw[au,if_neg h4];exact h.no m h1 h2 h3 h4
 len:=by rw[qg (by rw[h.w];rfl)];exact h.len
theorem FF.W6{fs:List (Str×V)}{S:Int}{aP aB aW:Addr}(h:FF fs S aP aB aW)(S':Int):FF (aE "scale" (.int S') fs) S' aP aB aW where
 s:=by rw[au,if_pos rfl]
 p:=by rw[au,if_neg (by decide+kernel)];exact h.p
 b:=by rw[au,if_neg (by decide+kernel)];exact h.b
 w:=by rw[au,if_neg (by decide+kernel)];exact h.w
 no:=fun m h1 h2 h3 h4=>by rw[au,if_neg h1];exact h.no m h1 h2 h3 h4
 len:=by rw[qg (by rw[h.s];rfl)];exact h.len
def aK(W:List Addr)(H:Hp):List Addr→List (List Int)→Prop:=Paired fun a c=>H a=some (.lst (c.map V.int))∧a∉W
theorem aK.keep{W:List Addr}{H H':Hp}(e:∀b o,H b=some o→b∉W→H' b=some o):∀{as:List Addr} {cs:List (List Int)},aK W H as cs→aK W H' as cs
 |_,_, .nil=> .nil
 |_,_, .cons h t=> .cons ⟨e _ _ h.1 h.2,h.2⟩ (aK.keep e t)
theorem aK.Fx{W:List Addr}{H H':Hp}(e:∀b xs,H b=some (.lst xs)→b∉W→H' b=some (.lst xs)):∀{as:List Addr} {cs:List (List Int)},aK W H as cs→aK W H' as cs
 |_,_, .nil=> .nil
 |_,_, .cons h t=> .cons ⟨e _ _ h.1 h.2,h.2⟩ (aK.Fx e t)
theorem aK.same{W:List Addr}{H H':Hp}(e:ao H H'){as:List Addr}{cs:List (List Int)}(h:aK W H as cs):aK W H' as cs:=h.keep fun b o q _=>e b o q
theorem aK.at{K:PySem.W.Frag}{W:List Addr}{H:Hp}:∀{as:List Addr} {cs:List (List Int)},aK W H as cs→dW K H as cs
 |_,_, .nil=> .nil
 |_,_, .cons h t=> .cons (aD.of h.1) (aK.at t)
theorem aK.get{W:List Addr}{H:Hp}:∀{as:List Addr} {cs:List (List Int)} {i:Nat} {a:Addr},aK W H as cs→as[i]? =some a→∃c,cs[i]? =some c∧H a=some (.lst (c.map V.int))∧a∉W
 |_,_,0,_, .cons h _,e=>by cases e;exact⟨_,rfl,h.1,h.2⟩
 |_,_,i+1,_, .cons _ t,e=>aK.get (i:=i) t e
theorem aK.length{W:List Addr}{H:Hp}{as:List Addr}{cs:List (List Int)}(h:aK W H as cs):as.length=cs.length:=Paired.length h
theorem aK.snoc{W:List Addr}{H:Hp}{a:Addr}{c:List Int}(h:H a=some (.lst (c.map V.int)))(n:a∉W):∀{as:List Addr} {cs:List (List Int)},aK W H as cs→aK W H (as++[a]) (cs++[c])
 |_,_, .nil=> .cons ⟨h,n⟩ .nil
 |_,_, .cons k t=> .cons k (aK.snoc h n t)
structure bx(FC:Addr)(X:List Addr)(H:Hp)(q dx aP aB aW:Addr)(st:KS):Prop where
 obj:∃fs,H q=some (.ins FC dx fs)∧FF fs st.scale aP aB aW
 hP:H aP=some (.lst (st.places.map fun p=>V.int (p:Nat)))
 hB:∃bA:List Addr,H aB=some (.lst (bA.map V.ref))∧aK (aP::aB::X) H bA st.bases
 hW:∃wA:List Addr,H aW=some (.lst (wA.map V.ref))∧aK (aP::aB::X) H wA st.aH
 ne:aP≠aB∧aW≠aP∧aW≠aB∧aP∉X∧aB∉X∧aW∉X∧q∉X
 has:∀b∈X,∃o,H b=some o
theorem bx.same{FC:Addr}{X:List Addr}{H H':Hp}{q dx aP aB aW:Addr}{st:KS}(F:bx FC X H q dx aP aB aW st)(e:ao H H'):bx FC X H' q dx aP aB aW st:=
 ⟨let ⟨fs,h,k⟩:=F.obj;⟨fs,e _ _ h,k⟩,e _ _ F.hP,let ⟨bA,h,k⟩:=F.hB;⟨bA,e _ _ h,k.same e⟩,let ⟨wA,h,k⟩:=F.hW;⟨wA,e _ _ h,k.same e⟩,F.ne,fun b hb=>let ⟨o,h⟩:=F.has b hb;⟨o,e _ _ h⟩⟩
theorem aK.more{W:List Addr}{H H':Hp}{b:Addr}(n:H b=none)(e:ao H H'):∀{as:List Addr} {cs:List (List Int)},aK W H as cs→aK (b::W) H' as cs
 |_,_, .nil=> .nil
 |_,_, .cons h t=> .cons ⟨e _ _ h.1,fun z=>(List.mem_cons.mp z).elim (ah h.1 n) h.2⟩ (aK.more n e t)
theorem aK.perm{W W':List Addr}{H:Hp}(w:∀b∈W',b∈W):∀{as:List Addr} {cs:List (List Int)},aK W H as cs→aK W' H as cs
 |_,_, .nil=> .nil
 |_,_, .cons h t=> .cons ⟨h.1,fun z=>h.2 (w _ z)⟩ (aK.perm w t)
theorem bx.more{FC:Addr}{X:List Addr}{H H':Hp}{q dx aP aB aW b:Addr}{o:HO}{st:KS}(F:bx FC X H q dx aP aB aW st)(n:H b=none)(e:ao H H')(hb:H' b=some o):bx FC (b::X) H' q dx aP aB aW st:=by
 obtain⟨fs,hq,ff⟩:=F.obj
 obtain⟨bA,hB,cB⟩:=F.hB
 obtain⟨wA,hW,cW⟩:=F.hW
 obtain⟨n1,n2,n3,n4,n5,n6,n7⟩:=F.ne
 have pr:∀c∈aP::aB::b::X,c∈b::aP::aB::X:=fun c hc=>by simp only [List.mem_cons] at hc ⊢;rcases hc with h|h|h|h<;>simp [h]
 have nm:∀{c:Addr} {u:HO},H c=some u→c∉X→c∉b::X:=fun h k z=>(List.mem_cons.mp z).elim (ah h n) k
 exact⟨⟨fs,e _ _ hq,ff⟩,e _ _ F.hP,⟨bA,e _ _ hB,(cB.more n e).perm pr⟩,⟨wA,e _ _ hW,(cW.more n e).perm pr⟩,⟨n1,n2,n3,nm F.hP n4,nm hB n5,nm hW n6,nm hq n7⟩,fun c hc=>(List.mem_cons.mp hc).elim (fun z=>⟨o,by rw[z];exact hb⟩) fun z=>let ⟨u,hu⟩:=F.has c z;⟨u,e _ _ hu⟩⟩
theorem bx.but{FC:Addr}{X:List Addr}{H H':Hp}{q dx aP aB aW b:Addr}{o:HO}{st:KS}(F:bx FC X H q dx aP aB aW st)(hb:b∈X)(e:df b H H')(h':H' b=some o):bx FC X H' q dx aP aB aW st:=by
 obtain⟨fs,hq,ff⟩:=F.obj
 obtain⟨bA,hB,cB⟩:=F.hB
 obtain⟨wA,hW,cW⟩:=F.hW
 obtain⟨n1,n2,n3,n4,n5,n6,n7⟩:=F.ne
 have nm:∀{c:Addr},c∉X→c≠b:=fun k z=>k (by rw[z];exact hb)
 have kp:∀c u,H c=some u→c∉aP::aB::X→H' c=some u:=fun c u h k=>e _ _ h fun z=>k (by rw[z];simp [hb])
 refine⟨⟨fs,e _ _ hq (nm n7),ff⟩,e _ _ F.hP (nm n4),⟨bA,e _ _ hB (nm n5),cB.keep kp⟩,⟨wA,e _ _ hW (nm n6),cW.keep kp⟩,F.ne,fun c hc=>?_⟩
 by_cases z:c=b
 ·exact⟨o,by rw[z];exact h'⟩
 ·obtain⟨u,hu⟩:=F.has c hc
  exact⟨u,e _ _ hu z⟩
structure Sm(n:Nat)(st:KS):Prop where
 F:qc n st
 n:n≤1000
 many:st.bases.length≤60
 pl:st.places.length=st.bases.length
 pos:0<st.scale
 s:cP 4600 st.scale
 w:∀w∈st.aH,∀x∈w,cP 4600 x
 b:∀b∈st.bases,∀x∈b,cP 70 x
theorem Sm.of{n:Nat}{st:KS}(F:qc n st)(hn:n≤1000)(hk:st.bases.length≤60)(pl:st.places.length=st.bases.length)(hb:∀b∈st.bases,∀x∈b,cP 70 x):Sm n st:=by
 obtain⟨p,s,w⟩:=F.small (M:=2^70) Nat.one_le_two_pow fun b h x hx=>Nat.le_of_lt (hb b h x hx)
 have key:st.bases.length^st.bases.length*(2^70) ^st.bases.length<2^4600:=by
  generalize st.bases.length=k at hk
  have h1:k^k≤(2^6) ^k:=Nat.pow_le_pow_left (by omega) k
  have h2:k^k*(2^70) ^k≤(2^6) ^k*(2^70) ^k:=Nat.mul_le_mul_right _ h1
  have h3:(2^6) ^k*(2^70) ^k=2^(76*k):=by rw[←Nat.mul_pow,←Nat.pow_add,←Nat.pow_mul]
  rw[h3] at h2
  exact Nat.lt_of_le_of_lt h2 (Nat.pow_lt_pow_right (by decide) (by omega))
 exact⟨F,hn,hk,pl,p,Nat.lt_of_le_of_lt s key,fun v hv x hx=>Nat.lt_of_le_of_lt (w v hv x hx) key,hb⟩
theorem cP.bz{m:Nat}(hm:m≤60000000){ns:List Int}(h:∀x∈ns,cP m x):Iw ns:=fun x hx=>(h x hx).mono hm
theorem vt{A B:Nat}:∀(xs ys:List Int),(∀x∈xs,x.natAbs≤A)→(∀y∈ys,y.natAbs≤B)→(dot xs ys).natAbs≤xs.length*(A*B)
 | [],_,_,_=>by simp [dot]
 |_::_,[],_,_=>by simp [dot]
 |x::xs,y::ys,hx,hy=>by
  have ih:=vt xs ys (fun z hz=>hx z (List.mem_cons_of_mem _ hz)) (fun z hz=>hy z (List.mem_cons_of_mem _ hz))
  have h1:(x*y).natAbs≤A*B:=by rw[Int.natAbs_mul];exact Nat.mul_le_mul (hx x (List.mem_cons_self ..)) (hy y (List.mem_cons_self ..))
  rw[List.length_cons,Nat.succ_mul]
  show (x*y+dot xs ys).natAbs≤_
  omega
theorem CB{a b:Nat}{xs ys:List Int}(hx:∀x∈xs,cP a x)(hy:∀y∈ys,cP b y)(hl:xs.length≤1000):cP (10+(a+b)) (dot xs ys):=by
 have h:=vt xs ys (fun x h=>Nat.le_of_lt (hx x h)) (fun y h=>Nat.le_of_lt (hy y h))
 unfold cP
 refine Nat.lt_of_le_of_lt h ?_
 rw[Nat.pow_add,Nat.pow_add]
 exact Nat.mul_lt_mul_of_pos_right (by omega) (Nat.mul_pos (Nat.pow_pos (by decide)) (Nat.pow_pos (by decide)))
theorem xi{a b:Nat}{i j:Int}(h:cP a i)(h':cP b j)(hs:a+b≤134217728:=by decide):uX i j:= .inr ⟨a,b,h,h',hs⟩
theorem getD_at{l:List Int}{i:Nat}(h:i<l.length):l[i]? =some (l.getD i 0):=by rw[List.getD_eq_getElem?_getD,List.getElem?_eq_getElem h];rfl
theorem jz{n:Nat}{st:KS}(S:Sm n st){c:List Int}(hf:∀x∈c,cP 70 x):∀x∈ax st c,cP 4680 x:=fun x hx=>by
 unfold ax at hx
 obtain⟨w,hw,rfl⟩:=List.mem_map.mp hx
 exact CB (S.w w hw) hf (by rw[S.F.lw w hw];exact S.n)
theorem CC{n:Nat}{st:KS}(S:Sm n st):st.aH.length=st.bases.length:=by
 obtain⟨R,G⟩:=S.F.fr
 have:=G.len
 simpa using this
structure U6(n:Nat)(H:Hp)(cA:Addr)(c:List Int):Prop where
 at':H cA=some (.lst (c.map V.int))
 len:c.length=n
 fit:∀x∈c,cP 70 x
def vv(FC:Addr):Sp:=fun vs H Q _=>∃q dx:Addr,vs=[.ref q]∧H q=some (.ins FC dx [])∧∀aP aB aW H',H aP=none→H aB=none→bx FC [] H' q dx aP aB aW ⟨1,[],[],[]⟩→(∀b o,H b=some o→b≠q→H' b=some o)→Q .dE H'
def rV(FC:Addr):Sp:=fun vs H Q _=>∃(X:List Addr) (q dx aP aB aW cA:Addr) (st:KS) (n:Nat) (c:List Int),vs=[.ref q, .ref cA]∧bx FC X H q dx aP aB aW st∧Sm n st∧U6 n H cA c∧∀l H',H l=none→ao H H'→H' l=some (.lst ((ax st c).map V.int))→Q (.ref l) H'
def z5(FC:Addr):Sp:=fun vs H Q _=>∃(X:List Addr) (q dx aP aB aW cA sA:Addr) (st:KS) (n:Nat) (c:List Int) (r:Nat),vs=[.ref q, .ref cA, .ref sA, .int r]∧bx FC X H q dx aP aB aW st∧Sm n st∧U6 n H cA c∧H sA=some (.lst ((ax st c).map V.int))∧r<n∧∀H',ao H H'→Q (.int (jm st c (ax st c) r)) H'
def Fy(FC:Addr):Sp:=fun vs H Q _=>∃(X:List Addr) (q dx aP aB aW cA sA:Addr) (st:KS) (n:Nat) (c:List Int),vs=[.ref q, .ref cA, .ref sA]∧bx FC X H q dx aP aB aW st∧Sm n st∧U6 n H cA c∧H sA=some (.lst ((ax st c).map V.int))∧
 ∀H',ao H H'→(∀r,lZ st c (ax st c)=some r→Q (.int (r:Nat)) H')∧(lZ st c (ax st c)=none→Q .dE H')
def Fz(FC:Addr):Sp:=fun vs H Q _=>∃(X:List Addr) (q dx aP aB aW sA:Addr) (st:KS) (n:Nat) (c:List Int) (place many:Nat),vs=[.ref q, .int place, .ref sA, .int many]∧bx FC X H q dx aP aB aW st∧Sm n st∧(∀x∈c,cP 70 x)∧H sA=some (.lst ((ax st c).map V.int))∧place<many∧many≤1000∧(∀p∈st.places,p<many)∧
 ∀l H',H l=none→ao H H'→H' l=some (.lst ((low (cV st place (ax st c) many)).map V.int))→Q (.ref l) H'
def vw(FC:Addr):Sp:=fun vs H Q _=>∃(X:List Addr) (q dx aP aB aW:Addr) (st:KS) (n r:Nat),vs=[.ref q, .int r, .int n]∧bx FC X H q dx aP aB aW st∧Sm n st∧r<n∧∀l H',H l=none→ao H H'→H' l=some (.lst ((a8 st r n).map V.int))→Q (.ref l) H'
def vx(FC:Addr):Sp:=fun vs H Q _=>∃(X:List Addr) (q dx aP aB aW wA fA:Addr) (st:KS) (n:Nat) (w f:List Int) (s S':Int),vs=[.ref q, .ref wA, .int s, .ref fA, .int S']∧bx FC X H q dx aP aB aW st∧Sm n st∧H wA=some (.lst (w.map V.int))∧H fA=some (.lst (f.map V.int))∧w.length=n∧f.length=n∧(∀x∈w,cP 20000 x)∧(∀x∈f,cP 20000 x)∧cP 20000 s∧cP 20000 S'∧
 ∀l H',H l=none→ao H H'→H' l=some (.lst ((cG st.scale S' w s f).map V.int))→Q (.ref l) H'
def z6(FC:Addr):Sp:=fun vs H Q _=>∃(X:List Addr) (q dx aP aB aW cA sA:Addr) (st:KS) (n:Nat) (c:List Int) (place r:Nat),vs=[.ref q, .int place, .ref cA, .ref sA, .int r]∧bx FC X H q dx aP aB aW st∧Sm n st∧st.bases.length<60∧U6 n H cA c∧cA∉aP::aB::X∧H sA=some (.lst ((ax st c).map V.int))∧lZ st c (ax st c)=some r∧
 ∀LN H',(∀b o,H b=some o→b∉[q,aP,aB]→H' b=some o)→bx FC X H' q dx aP aB LN (bindL st place c (ax st c) r)→Q .dE H'
theorem qh{n j:Nat}(h:j<n):qW n (j:Int)=some j:=by
 unfold qW
 rw[if_pos (by omega),if_pos (by omega)];simp
theorem nI:∀(ps:List (Nat×Int)) (l:List Int),(ps.foldl (fun l ps=>l.set ps.1 (-ps.2)) l).length=l.length
 | [],_=>rfl
 |p::ps,l=>by rw[List.foldl_cons,nI ps,List.length_set]
theorem rW{m:Nat}:∀(ps:List (Nat×Int)) (l:List Int),(∀x∈l,cP m x)→(∀p∈ps,cP m p.2)→∀x∈ps.foldl (fun l ps=>l.set ps.1 (-ps.2)) l,cP m x
 | [],_,h,_=>h
 |p::ps,l,h,hp=>by
  rw[List.foldl_cons]
  refine rW ps _ (fun x hx=>?_) fun p' uU=>hp p' (List.mem_cons_of_mem _ uU)
  rcases List.mem_or_eq_of_mem_set hx with z|z
  ·exact h x z
  ·rw[z]
   have:=hp p (List.mem_cons_self ..)
   unfold cP at this ⊢
   rw[Int.natAbs_neg];exact this
theorem vy{n:Nat}{st:KS}(S:Sm n st){c:List Int}(hf:∀x∈c,cP 70 x){place many:Nat}:∀x∈cV st place (ax st c) many,cP 4680 x:=by
 unfold cV
 refine rW _ _ (fun x hx=>?_) fun p hp=>jz S hf _ (List.of_mem_zip hp).2
 rcases List.mem_or_eq_of_mem_set hx with z|z
 ·rw[(List.mem_replicate.mp z).2]
  exact Nat.pow_pos (by decide)
 ·rw[z];exact S.s.mono (by decide)
theorem iK{n:Nat}(r:Nat):∀(ps:List (List Int×List Int)) (told:List Int),told.length=n→(∀p∈ps,p.2.length=n)→(ps.foldl (fun told bw=>dB told (bw.1.getD r 0) bw.2) told).length=n
 | [],_,h,_=>h
 |p::ps,told,h,hp=>by
  rw[List.foldl_cons]
  exact iK r ps _ (kU h (hp p (List.mem_cons_self ..)) _) fun p' uU=>hp p' (List.mem_cons_of_mem _ uU)
theorem bX.toS{L:Addr}{H0 H H':Hp}{W:List Addr}(hW:∀b∈W,∃o,H0 b=some o)(e:∀b xs,H b=some (.lst xs)→b≠L→b∉W→H' b=some (.lst xs)):∀{as:List Addr} {cs:List (List Int)},bX L H0 H as cs→aK W H' as cs
 |_,_, .nil=> .nil
 |_,_, .cons h t=> .cons (by
   have nm:∀z,z∈W→¬H0 z=none:=fun z hz=>by obtain⟨o,ho⟩:=hW z hz;rw[ho];simp
   exact⟨e _ _ h.1 h.2.1 fun z=>nm _ z h.2.2,fun z=>nm _ z h.2.2⟩) (bX.toS hW e t)
theorem z7{m:Nat}{f c:List Int}(h:∀x∈bL f c,cP m x):∀x∈f,cP m x:=fun x hx=>by
 unfold bL at h
 split at h
 ·have:=h (-x) (List.mem_map.mpr ⟨x,hx,rfl⟩)
  unfold cP at this ⊢
  rwa [Int.natAbs_neg] at this
 ·exact h x hx
structure Nx(fs:List (Str×V))(b1 b2 b3 b4:Addr):Prop where
 f:fs.lookup ("free" :Str)=some (.ref b1)
 b:fs.lookup ("bound" :Str)=some (.ref b2)
 n:fs.lookup ("numbers" :Str)=some (.ref b3)
 w:fs.lookup ("weights" :Str)=some (.ref b4)
theorem Nx.W4(b1 b2 b3 b4:Addr):Nx (aE "weights" (.ref b4) (aE "numbers" (.ref b3) (aE "bound" (.ref b2) (aE "free" (.ref b1) [])))) b1 b2 b3 b4 where
 f:=by rw[au,if_neg (by decide+kernel),au,if_neg (by decide+kernel),au,if_neg (by decide+kernel),au,if_pos rfl]
 b:=by rw[au,if_neg (by decide+kernel),au,if_neg (by decide+kernel),au,if_pos rfl]
 n:=by rw[au,if_neg (by decide+kernel),au,if_pos rfl]
 w:=by rw[au,if_pos rfl]
def vz(KC:Addr):Sp:=fun vs H Q _=>∃(q dx a1 a2 a3 a4:Addr) (x1 x2 x3 x4:List V),vs=[.ref q, .ref a1, .ref a2, .ref a3, .ref a4]∧H q=some (.ins KC dx [])∧H a1=some (.lst x1)∧H a2=some (.lst x2)∧H a3=some (.lst x3)∧H a4=some (.lst x4)∧
 ∀b1 b2 b3 b4 fs H',(H b1=none∧H b2=none∧H b3=none∧H b4=none)→(H' q=some (.ins KC dx fs)∧Nx fs b1 b2 b3 b4)→H' b1=some (.lst x1)→H' b2=some (.lst x2)→H' b3=some (.lst x3)→H' b4=some (.lst x4)→(∀b o,H b=some o→b≠q→H' b=some o)→Q .dE H'
structure z8(KC:Addr)(H0 H:Hp)(kq:Addr)(x:KR):Prop where
 obj:∃dx fs b1 b2 b3 b4,H kq=some (.ins KC dx fs)∧Nx fs b1 b2 b3 b4∧(H0 kq=none∧H0 b1=none∧H0 b2=none∧H0 b3=none∧H0 b4=none)∧H b1=some (.lst (x.free.map fun p=>V.int (p:Nat)))∧H b2=some (.lst (x.st.places.map fun p=>V.int (p:Nat)))∧
  (∃nA:List Addr,H b3=some (.lst (nA.map V.ref))∧bX kq H0 H nA x.ck)∧∃wA:List Addr,H b4=some (.lst (wA.map V.ref))∧aK [] H wA x.st.aH
def rX(KC:Addr):Sp:=fun vs H Q _=>∃(p:Addr) (as:List Addr) (cs:List (List Int)) (n:Nat),vs=[.ref p]∧H p=some (.lst (as.map V.ref))∧aK [] H as cs∧(∀c∈cs,c.length=n∧∀x∈c,cP 70 x)∧n≤1000∧cs.length≤60∧
 ∀kq H',ao H H'→z8 KC H H' kq (dm cs.length cs)→Q (.ref kq) H'
structure Iy(n:Nat)(cs:List (List Int))(i:Nat)(x:KR):Prop where
 F:qc n x.st
 pl:x.st.places.length=x.st.bases.length
 bz:x.st.bases.length≤i
 sub:∀b∈x.st.bases,b∈cs
 qK:∀p∈x.st.places,p<i
 nf:x.free.length≤i
 nn:x.ck.length=x.free.length
theorem z9{n many:Nat}{cs:List (List Int)}(hc:∀c∈cs,c.length=n):∀i,i≤cs.length→Iy n cs i (dm many (cs.take i))
 |0,_=>⟨qc.start n,rfl,Nat.le_refl _,(fun b h=>by cases h),(fun p h=>by cases h),Nat.le_refl _,rfl⟩
 |i+1,hi=>by
  have I:=z9 (many:=many) hc i (by omega)
  have qf:=List.getElem?_eq_getElem (l:=cs) (i:=i) (by omega)
  rw[ay qf,gE,List.length_take,Nat.min_eq_left (by omega)]
  have oz:=List.mem_of_getElem? qf
  generalize cs[i]=c at oz
  unfold j0
  split
  ·exact⟨I.F,I.pl,Nat.le_trans I.bz (Nat.le_succ i),I.sub,fun p hp=>Nat.lt_succ_of_lt (I.qK p hp),by simp;exact I.nf,by simp;exact I.nn⟩
  ·rename_i r hr
   obtain⟨B1,_,_⟩:=I.F.bind (hc c oz) hr i
   refine⟨B1,by simp [bindL];exact I.pl,by simp [bindL];exact I.bz,fun b hb=>?_,fun p hp=>?_,Nat.le_trans I.nf (Nat.le_succ i),I.nn⟩
   ·rcases List.mem_append.mp (show b∈_++[c] from hb) with h|h
    ·exact I.sub b h
    ·have h:b=c:=by simpa using h
     rw[h];exact oz
   ·rcases List.mem_append.mp (show p∈_++[i] from hp) with h|h
    ·exact Nat.lt_succ_of_lt (I.qK p h)
    ·have h:p=i:=by simpa using h
     rw[h];exact Nat.lt_succ_self i
theorem Iy.sm{n:Nat}{cs:List (List Int)}{i:Nat}{x:KR}(I:Iy n cs i x)(hn:n≤1000)(hi:i≤60)(hf:∀c∈cs,∀x∈c,cP 70 x):Sm n x.st:=
 Sm.of I.F hn (Nat.le_trans I.bz hi) I.pl fun b hb x hx=>hf b (I.sub b hb) x hx
structure Good(cs:List (List Int))(n:Nat)(x:KR):Prop where
 F:qc n x.st
 pl:x.st.places.length=x.st.bases.length
 T:Told n cs cs.length x
 ps:x.st.places.Pairwise (· < ·)
 fs:x.free.Pairwise (· < ·)
 one:∀t∈x.ck,cw t=1
 fit:∀t∈x.ck,∀y∈t,cP 4680 y
 wf:∀v∈x.st.aH,∀y∈v,cP 4600 y
 fl:x.free.length≤cs.length
theorem lJ{n many:Nat}{cs:List (List Int)}(hn:n≤1000)(hl:cs.length≤60)(hc:∀c∈cs,c.length=n∧∀x∈c,cP 70 x):∀i,i≤cs.length→∀T∈(dm many (cs.take i)).ck,∀x∈T,cP 4680 x
 |0,_,T,h=>by simp [dm] at h
 |i+1,hi,T,h=>by
  have ih:=lJ (many:=many) hn hl hc i (by omega)
  have S:=(z9 (many:=many) (fun c h=>(hc c h).1) i (by omega)).sm hn (by omega) fun c h=>(hc c h).2
  have qf:=List.getElem?_eq_getElem (l:=cs) (i:=i) (by omega)
  rw[ay qf,gE,List.length_take,Nat.min_eq_left (by omega)] at h
  have oz:=List.mem_of_getElem? qf
  generalize cs[i]=c at oz h
  generalize dm many (cs.take i)=x at*
  unfold j0 at h
  split at h
  ·rcases List.mem_append.mp h with q|q
   ·exact ih T q
   ·have q:T=low (cV x.st i (ax x.st c) many):=by simpa using q
    intro y hy
    rw[q] at hy
    obtain⟨k,hk⟩:=List.getElem?_of_mem hy
    have ZX:k< (cV x.st i (ax x.st c) many).length:=by rw[←low_length];exact(List.getElem?_eq_some_iff.mp hk).1
    obtain⟨m,h1,_,h3⟩:=t9 (List.getElem?_eq_getElem ZX)
    rw[hk] at h1
    cases h1
    exact Nat.lt_of_le_of_lt h3 (vy S (hc c oz).2 _ (List.getElem_mem ZX))
  ·exact ih T h
def qi(cs:List (List Int))(ch:List Nat):List (List Int):=ch.map fun p=>cs.getD p []
def jA(v:List Int)(p:Nat):List Int:=v.set p (v.getD p 0+1)
abbrev eE:=List Int×Nat
def bB(m:Nat)(ts:List eE):List eE:=ts.flatMap fun t=>(List.range' t.2 (m - t.2)).map fun p=>(jA t.1 p,p)
def iM(a b:List Int):Bool:=(a.zip b).all fun p=>decide (p.1≤p.2)
def nJ(lev:List Int→Bool)(m:Nat)(told:List (List Int))(ts:List eE):List (List Int):=told++(((bB m ts).filter fun t=>lev t.1).map (·.1)).filter fun v=>!(told.any fun u=>iM u v)
def Aa(lev:List Int→Bool)(m:Nat)(ts:List eE):List eE:=(bB m ts).filter fun t=>!lev t.1
def bC(lev:List Int→Bool)(m:Nat):Nat→List (List Int)×List eE
 |0=>([],[(List.replicate m 0,0)])
 |k+1=>(nJ lev m (bC lev m k).1 (bC lev m k).2,Aa lev m (bC lev m k).2)
def Nn(m:Nat)(v:List Int):Prop:=v.length=m∧∀x∈v,0≤x
def Le(u v:List Int):Prop:=∀t,u.getD t 0≤v.getD t 0
def Ny(lev:List Int→Bool)(m:Nat)(v:List Int):Prop:=Nn m v∧0<v.sum∧lev v=true∧∀u,Nn m u→0<u.sum→lev u=true→Le u v→u=v
theorem nK{m:Nat}{v:List Int}(h:Nn m v)(t:Nat):0≤v.getD t 0:=by
 by_cases ht:t<v.length
 ·rw[List.getD_eq_getElem?_getD,List.getElem?_eq_getElem ht]
  exact h.2 _ (List.getElem_mem ht)
 ·rw[List.getD_eq_getElem?_getD,List.getElem?_eq_none (by omega)]
  exact Int.le_refl _
theorem Ab{a b:List Int}(hl:a.length=b.length)(h:∀t,a.getD t 0=b.getD t 0):a=b:=by
 apply List.ext_getElem hl
 intro t h1 h2
 have:=h t
 rwa [List.getD_eq_getElem?_getD,List.getD_eq_getElem?_getD,List.getElem?_eq_getElem h1,List.getElem?_eq_getElem h2] at this
theorem nM{v:List Int}{p:Nat}(hp:p<v.length)(t:Nat):(jA v p).getD t 0=v.getD t 0+if t=p then 1 else 0:=by
 unfold jA
 rw[List.getD_eq_getElem?_getD,List.getElem?_set]
 by_cases h:p=t
 ·subst h
  rw[if_pos rfl,if_pos hp,if_pos rfl]
  rfl
 ·rw[if_neg h,if_neg (fun z=>h z.symm),List.getD_eq_getElem?_getD,Int.add_zero]
theorem uc(v:List Int)(p:Nat):(jA v p).length=v.length:=by unfold jA;rw[List.length_set]
theorem sum_set:∀(v:List Int) (p:Nat) (x:Int),p<v.length→(v.set p x).sum=v.sum - v.getD p 0+x
 | [],p,_,h=>by simp at h
 |a::v,0,x,_=>by simp;omega
 |a::v,p+1,x,h=>by
  have:=sum_set v p x (by simpa using h)
  simp only [List.set_cons_succ,List.sum_cons,List.getD_cons_succ]
  omega
theorem Ac{v:List Int}{p:Nat}(hp:p<v.length):(jA v p).sum=v.sum+1:=by
 unfold jA
 rw[sum_set v p _ hp]
 omega
theorem Nz{m:Nat}{v:List Int}(h:Nn m v){p:Nat}(hp:p<m):Nn m (jA v p):=by
 refine⟨by rw[uc];exact h.1,fun x hx=>?_⟩
 obtain⟨t,ht,rfl⟩:=List.getElem_of_mem hx
 have e:=nM (v:=v) (p:=p) (by rw[h.1];exact hp) t
 rw[List.getD_eq_getElem?_getD,List.getElem?_eq_getElem ht] at e
 have:=nK h t
 have e:(jA v p)[t]=v.getD t 0+if t=p then 1 else 0:=e
 rw[e]
 split<;>omega
theorem gW:∀{v:List Int},(∀x∈v,0≤x)→0≤v.sum
 | [],_=>Int.le_refl _
 |a::v,h=>by
  have h1:=h a (List.mem_cons_self ..)
  have h2:=gW (v:=v) fun x hx=>h x (List.mem_cons_of_mem _ hx)
  rw[List.sum_cons]
  omega
theorem gX:∀{u v:List Int},u.length=v.length→Le u v→u.sum≤v.sum∧(u.sum=v.sum→u=v)
 | [],[],_,_=>⟨Int.le_refl _,fun _=>rfl⟩
 |a::u,b::v,hl,h=>by
  have h0:a≤b:=h 0
  have ih:=gX (u:=u) (v:=v) (by simpa using hl) fun t=>h (t+1)
  rw[List.sum_cons,List.sum_cons]
  refine⟨by omega,fun e=>?_⟩
  have e1:a=b:=by omega
  rw[e1,ih.2 (by omega)]
 | [],_::_,hl,_=>by simp at hl
 |_::_,[],hl,_=>by simp at hl
theorem zero_of:∀{v:List Int},(∀x∈v,0≤x)→v.sum=0→v=List.replicate v.length 0
 | [],_,_=>rfl
 |a::v,h,e=>by
  have h1:=h a (List.mem_cons_self ..)
  have h2:=gW (v:=v) fun x hx=>h x (List.mem_cons_of_mem _ hx)
  rw[List.sum_cons] at e
  have e1:a=0:=by omega
  have e2:=zero_of (v:=v) (fun x hx=>h x (List.mem_cons_of_mem _ hx)) (by omega)
  rw[e1,List.length_cons,List.replicate_succ,←e2]
theorem my:∀(v:List Int),(∀x∈v,0≤x)→0<v.sum→∃p,p<v.length∧0<v.getD p 0∧∀t,p<t→v.getD t 0=0
 | [],_,h=>by simp at h
 |a::v,h,hs=>by
  have h1:=h a (List.mem_cons_self ..)
  have hv:∀x∈v,0≤x:=fun x hx=>h x (List.mem_cons_of_mem _ hx)
  by_cases z:0<v.sum
  ·obtain⟨p,p1,p2,p3⟩:=my v hv z
   refine⟨p+1,by simpa using p1,by simpa using p2,fun t ht=>?_⟩
   cases t with
   |zero=>omega
   |succ t=>simpa using p3 t (by omega)
  ·have:=gW hv
   have e:=zero_of hv (by omega)
   rw[List.sum_cons] at hs
   refine⟨0,by simp,by show 0<a;omega,fun t ht=>?_⟩
   cases t with
   |zero=>omega
   |succ t=>
    rw[List.getD_cons_succ,e,List.getD_eq_getElem?_getD]
    by_cases z:t<v.length
    ·rw[List.getElem?_replicate,if_pos z]
     rfl
    ·rw[List.getElem?_replicate,if_neg z]
     rfl
theorem nN:∀{u v:List Int},u.length=v.length→(iM u v=true↔Le u v)
 | [],[],_=>⟨fun _ _=>Int.le_refl _,fun _=>rfl⟩
 |a::u,b::v,hl=>by
  have ih:=nN (u:=u) (v:=v) (by simpa using hl)
  unfold iM at ih ⊢
  rw[List.zip_cons_cons,List.all_cons,Bool.and_eq_true,decide_eq_true_eq,ih]
  constructor
  ·rintro ⟨h1,h2⟩ t
   cases t with
   |zero=>exact h1
   |succ t=>exact h2 t
  ·exact fun h=>⟨h 0,fun t=>h (t+1)⟩
 | [],_::_,hl=>by simp at hl
 |_::_,[],hl=>by simp at hl
theorem iN{m:Nat}{ts:List eE}{v:List Int}{p:Nat}:(v,p)∈bB m ts↔∃t∈ts,t.2≤p∧p<m∧v=jA t.1 p:=by
 unfold bB
 rw[List.mem_flatMap]
 constructor
 ·rintro ⟨t,ht,h⟩
  obtain⟨q,hq,e⟩:=List.mem_map.mp h
  rw[List.mem_range'_1] at hq
  have e1:jA t.1 q=v:=congrArg Prod.fst e
  have e2:q=p:=congrArg Prod.snd e
  subst e2
  exact⟨t,ht,hq.1,by omega,e1.symm⟩
 ·rintro ⟨t,ht,h1,h2,rfl⟩
  exact⟨t,ht,List.mem_map.mpr ⟨p,by rw[List.mem_range'_1];omega,rfl⟩⟩
structure kW(m k:Nat)(ts:List eE):Prop where
 nn:∀t∈ts,Nn m t.1∧t.1.sum=k
 up:∀t∈ts,∀q,t.2<q→t.1.getD q 0=0
 at_:∀t∈ts,0<k→0<t.1.getD t.2 0
 nd:(ts.map (·.1)).Nodup
theorem mz:∀m:Nat,(List.replicate m (0 :Int)).sum=0
 |0=>rfl
 |m+1=>by rw[List.replicate_succ,List.sum_cons,Int.zero_add];exact mz m
theorem Ad(m:Nat):kW m 0 [(List.replicate m 0,0)]:=by
 have e:∀t∈[((List.replicate m 0,0):eE)],t=(List.replicate m 0,0):=fun t h=>by simpa using h
 refine⟨fun t h=>?_,fun t h q _=>?_,fun t h z=>absurd z (by decide),by simp⟩
 ·rw[e t h]
  refine⟨⟨List.length_replicate,fun x hx=>?_⟩,?_⟩
  ·rw[(List.mem_replicate.mp hx).2]
   exact Int.le_refl _
  ·exact mz m
 ·rw[e t h]
  show (List.replicate m (0 :Int)).getD q 0=0
  rw[List.getD_eq_getElem?_getD,List.getElem?_replicate]
  split<;>rfl
theorem mB{m k:Nat}{ts:List eE}(h:kW m k ts)(hm:∀t∈ts,t.2≤m):kW m (k+1) (bB m ts):=by
 have get:∀t∈bB m ts,∃u∈ts,u.2≤t.2∧t.2<m∧t.1=jA u.1 t.2:=fun t ht=>iN.mp ht
 refine⟨fun t ht=>?_,fun t ht q hq=>?_,fun t ht _=>?_,?_⟩
 ·obtain⟨u,hu,h1,h2,e⟩:=get t ht
  obtain⟨n1,n2⟩:=h.nn u hu
  rw[e]
  refine⟨Nz n1 h2,?_⟩
  rw[Ac (by rw[n1.1];exact h2),n2]
  rfl
 ·obtain⟨u,hu,h1,h2,e⟩:=get t ht
  rw[e,nM (by rw[(h.nn u hu).1.1];exact h2),h.up u hu q (by omega),if_neg (by omega)]
  rfl
 ·obtain⟨u,hu,h1,h2,e⟩:=get t ht
  rw[e,nM (by rw[(h.nn u hu).1.1];exact h2),if_pos rfl]
  have:=nK (h.nn u hu).1 t.2
  omega
 ·have key:∀(us:List eE),(∀u∈us,u∈ts)→(us.map (·.1)).Nodup→((bB m us).map (·.1)).Nodup:=by
   intro us
   induction us with
   |nil=>intro _ _;exact .nil
   |cons u r ih=>
    intro hs hn
    rw[List.map_cons,List.nodup_cons] at hn
    have hu:=hs u (List.mem_cons_self ..)
    have hr:∀x∈r,x∈ts:=fun x hx=>hs x (List.mem_cons_of_mem _ hx)
    have e:bB m (u::r)=(List.range' u.2 (m - u.2)).map (fun p=>(jA u.1 p,p))++bB m r:=by
     unfold bB
     rw[List.flatMap_cons]
    rw[e,List.map_append,List.nodup_append]
    have lu:=(h.nn u hu).1.1
    have same:∀{x y:eE} {p q:Nat},x∈ts→y∈ts→x.2≤p→p<m→y.2≤q→q<m→jA x.1 p=jA y.1 q→p=q∧x.1=y.1:=by
     intro x y p q hx hy xp pm yq qm eq
     have lx:=(h.nn x hx).1.1
     have ly:=(h.nn y hy).1.1
     have ex:=fun t=>nM (v:=x.1) (p:=p) (by omega) t
     have ey:=fun t=>nM (v:=y.1) (p:=q) (by omega) t
     have pq:p=q:=by
      rcases Nat.lt_trichotomy p q with z|z|z
      ·have a1:=ex q
       rw[eq,ey q,if_pos rfl,if_neg (by omega),h.up x hx q (by omega)] at a1
       have:=nK (h.nn y hy).1 q
       omega
      ·exact z
      ·have a1:=ey p
       rw[←eq,ex p,if_pos rfl,if_neg (by omega),h.up y hy p (by omega)] at a1
       have:=nK (h.nn x hx).1 p
       omega
     refine⟨pq,Ab (by omega) fun t=>?_⟩
     have a1:=ex t
     rw[eq,ey t,pq] at a1
     omega
    refine⟨?_,ih hr hn.2,?_⟩
    ·rw[List.map_map]
     rw[List.nodup_iff_pairwise_ne,List.pairwise_map]
     have hp:=List.pairwise_lt_range' (s:=u.2) (n:=m - u.2)
     refine(List.Pairwise.and_mem.mp hp).imp ?_
     rintro a b ⟨ha,hb,oh⟩ z
     rw[List.mem_range'_1] at ha hb
     have:=(same hu hu ha.1 (by omega) hb.1 (by omega) z).1
     omega
    ·rintro a ha b hb rfl
     obtain⟨⟨_,p⟩,hp,rfl⟩:=List.mem_map.mp ha
     obtain⟨p',uU,ep⟩:=List.mem_map.mp hp
     obtain⟨⟨v,q⟩,hq,ev⟩:=List.mem_map.mp hb
     rw[List.mem_range'_1] at uU
     obtain⟨y,hy,y1,y2,y3⟩:=iN.mp hq
     have e1:=congrArg Prod.fst ep
     have ev:v=_:=ev
     have y3:v=jA y.1 q:=y3
     have:=(same hu (hr y hy) uU.1 (by omega) y1 y2 (e1.trans (ev.symm.trans y3))).2
     exact hn.1 (List.mem_map.mpr ⟨y,hy,this.symm⟩)
  exact key ts (fun u h=>h) h.nd
theorem rest_ok{lev:List Int→Bool}{m k:Nat}{ts:List eE}(h:kW m k (bB m ts)):kW m k (Aa lev m ts):=by
 have sub:∀t∈Aa lev m ts,t∈bB m ts:=fun t ht=>(List.mem_filter.mp ht).1
 exact⟨fun t ht=>h.nn t (sub t ht),fun t ht=>h.up t (sub t ht),fun t ht=>h.at_ t (sub t ht),((List.filter_sublist (l:=bB m ts)).map _).nodup h.nd⟩
theorem qj(lev:List Int→Bool)(m:Nat):∀k,kW m k (bC lev m k).2∧∀t∈(bC lev m k).2,t.2≤m
 |0=>⟨Ad m,fun t h=>by
   have e:t=(List.replicate m 0,0):=by simpa [bC] using h
   rw[e]
   exact Nat.zero_le _⟩
 |k+1=>by
  obtain⟨h1,h2⟩:=qj lev m k
  refine⟨rest_ok (mB h1 h2),fun t ht=>?_⟩
  obtain⟨u,_,_,h3,_⟩:=iN.mp (List.mem_filter.mp ht).1
  exact Nat.le_of_lt h3
theorem Iz{lev:List Int→Bool}{m:Nat}:∀(k:Nat) (v:List Int),Nn m v→v.sum=((k+1 :Nat):Int)→(∀u,Nn m u→0<u.sum→lev u=true→Le u v→u=v)→∃p,(v,p)∈bB m (bC lev m k).2∧∀t,p<t→v.getD t 0=0:=by
 intro k
 induction k with
 |zero=>
  intro v hv hs _
  obtain⟨p,p1,p2,p3⟩:=my v hv.2 (by omega)
  refine⟨p,iN.mpr ⟨(List.replicate m 0,0),by simp [bC],Nat.zero_le _,by rw[←hv.1];exact p1,?_⟩,p3⟩
  have l0:(List.replicate m (0 :Int)).length=m:=List.length_replicate
  refine(gX (u:=jA (List.replicate m 0) p) (v:=v) (by rw[uc,l0,hv.1]) fun t=>?_).2 ?_ |>.symm
  ·rw[nM (by rw[l0,←hv.1];exact p1)]
   have e0:(List.replicate m (0 :Int)).getD t 0=0:=by
    rw[List.getD_eq_getElem?_getD,List.getElem?_replicate]
    split<;>rfl
   rw[e0]
   by_cases z:t=p
   ·rw[if_pos z,z]
    omega
   ·rw[if_neg z]
    exact nK hv t
  ·rw[Ac (by rw[l0,←hv.1];exact p1),mz,hs]
   rfl
 |succ k ih=>
  intro v hv hs hP
  obtain⟨p,p1,p2,p3⟩:=my v hv.2 (by omega)
  have lp:p<m:=by rw[←hv.1];exact p1
  let u:=v.set p (v.getD p 0 - 1)
  have lu:u.length=m:=by show (v.set p _).length=m;rw[List.length_set,hv.1]
  have ua:∀t,u.getD t 0=v.getD t 0 - if t=p then 1 else 0:=by
   intro t
   show (v.set p (v.getD p 0 - 1)).getD t 0=_
   rw[List.getD_eq_getElem?_getD,List.getElem?_set]
   by_cases z:p=t
   ·subst z
    rw[if_pos rfl,if_pos p1,if_pos rfl]
    rfl
   ·rw[if_neg z,if_neg (fun w=>z w.symm),List.getD_eq_getElem?_getD,Int.sub_zero]
  have un:Nn m u:=by
   refine⟨lu,fun x hx=>?_⟩
   obtain⟨t,ht,rfl⟩:=List.getElem_of_mem hx
   have e:=ua t
   rw[List.getD_eq_getElem?_getD,List.getElem?_eq_getElem ht] at e
   have:=nK hv t
   have e:u[t]=v.getD t 0 - if t=p then 1 else 0:=e
   rw[e]
   split
   ·rename_i z
    rw[z]
    omega
   ·omega
  have us:u.sum=((k+1 :Nat):Int):=by
   show (v.set p (v.getD p 0 - 1)).sum=_
   rw[sum_set v p _ p1]
   omega
  have ule:Le u v:=fun t=>by
   rw[ua t]
   split<;>omega
  have W7:u≠v:=fun z=>by rw[z] at us;omega
  have ul:¬lev u=true:=fun z=>W7 (hP u un (by omega) z ule)
  obtain⟨q,hq,q3⟩:=ih u un us fun w wn ws wl wu=>by
   exfalso
   have:=hP w wn ws wl fun t=>Int.le_trans (wu t) (ule t)
   have h1:=(gX (by rw[wn.1,lu]) wu).1
   rw[this] at h1
   omega
  have ek:v=jA u p:=Ab (by rw[uc,lu,hv.1]) fun t=>by
   rw[nM (by rw[lu];exact lp),ua t]
   omega
  refine⟨p,iN.mpr ⟨(u,q),List.mem_filter.mpr ⟨hq,by simpa using ul⟩,?_,lp,ek⟩,p3⟩
  show q≤p
  obtain⟨h1,h2⟩:=qj lev m k
  have ZY:=(mB h1 h2).at_ (u,q) hq (by omega)
  have ZY:0<u.getD q 0:=ZY
  rcases Nat.lt_or_ge p q with z|z
  ·have:=ua q
   rw[p3 q z,if_neg (by omega)] at this
   omega
  ·exact z
theorem gn{lev:List Int→Bool}{m:Nat}:∀(k:Nat) (v:List Int),Nn m v→0<v.sum→v.sum≤k→lev v=true→∃u,Ny lev m u∧Le u v:=by
 intro k
 induction k with
 |zero=>intro v _ h1 h2 _;omega
 |succ k ih=>
  intro v hv h1 h2 hl
  by_cases z:∀u,Nn m u→0<u.sum→lev u=true→Le u v→u=v
  ·exact⟨v,⟨hv,h1,hl,z⟩,fun t=>Int.le_refl _⟩
  ·simp only [Classical.not_forall] at z
   obtain⟨u,un,us,ul,ule,W7⟩:=z
   have h3:=gX (by rw[un.1,hv.1]) ule
   have:u.sum≠v.sum:=fun e=>W7 (h3.2 e)
   obtain⟨w,hw,U7⟩:=ih u un us (by omega) ul
   exact⟨w,hw,fun t=>Int.le_trans (U7 t) (ule t)⟩
theorem eF(lev:List Int→Bool)(m:Nat):∀k,(∀v,v∈(bC lev m k).1↔Ny lev m v∧v.sum≤k)∧(bC lev m k).1.Nodup
 |0=>⟨fun v=>⟨fun h=>by simp [bC] at h,fun⟨h,h2⟩=>by have:=h.2.1;omega⟩,by simp [bC]⟩
 |k+1=>by
  obtain⟨ih,nd⟩:=eF lev m k
  obtain⟨t1,t2⟩:=qj lev m k
  have gk:=mB t1 t2
  have mem:∀v,v∈(bC lev m (k+1)).1↔v∈(bC lev m k).1∨((∃p,(v,p)∈bB m (bC lev m k).2)∧lev v=true∧∀u∈(bC lev m k).1,¬iM u v=true):=by
   intro v
   show v∈nJ lev m _ _↔_
   unfold nJ
   rw[List.mem_append,List.mem_filter,List.mem_map]
   constructor
   ·rintro (h| ⟨⟨t,ht,rfl⟩,h2⟩)
    ·exact .inl h
    ·obtain⟨h3,h4⟩:=List.mem_filter.mp ht
     refine .inr ⟨⟨t.2,h3⟩,h4,fun u hu z=>?_⟩
     have:((bC lev m k).1.any fun u=>iM u t.1)=true:=List.any_eq_true.mpr ⟨u,hu,z⟩
     rw[this] at h2
     cases h2
   ·rintro (h| ⟨⟨p,hp⟩,hl,hn⟩)
    ·exact .inl h
    ·refine .inr ⟨⟨(v,p),List.mem_filter.mpr ⟨hp,hl⟩,rfl⟩,?_⟩
     have:((bC lev m k).1.any fun u=>iM u v)=false:=by
      rw[List.any_eq_false]
      exact fun u hu=>hn u hu
     rw[this]
     rfl
  refine⟨fun v=>?_,?_⟩
  ·rw[mem v,ih v]
   constructor
   ·rintro (⟨h1,h2⟩ | ⟨⟨p,hp⟩,hl,hn⟩)
    ·exact⟨h1,by omega⟩
    ·obtain⟨n1,n2⟩:=gk.nn (v,p) hp
     have n1:Nn m v:=n1
     have n2:v.sum=((k+1 :Nat):Int):=n2
     refine⟨⟨n1,by omega,hl,fun u un us ul ule=>?_⟩,by omega⟩
     have h3:=gX (by rw[un.1,n1.1]) ule
     by_cases e:u.sum=v.sum
     ·exact h3.2 e
     ·exfalso
      obtain⟨w,hw,U7⟩:=gn (lev:=lev) (m:=m) (k+1) u un us (by omega) ul
      have h4:=(gX (by rw[hw.1.1,un.1]) U7).1
      exact hn w ((ih w).mpr ⟨hw,by omega⟩) ((nN (by rw[hw.1.1,n1.1])).mpr fun t=>Int.le_trans (U7 t) (ule t))
   ·rintro ⟨h1,h2⟩
    by_cases e:v.sum≤k
    ·exact .inl ⟨h1,e⟩
    ·obtain⟨p,hp,_⟩:=Iz (lev:=lev) k v h1.1 (by omega) h1.2.2.2
     refine .inr ⟨⟨p,hp⟩,h1.2.2.1,fun u hu z=>?_⟩
     obtain⟨hu,us⟩:=(ih u).mp hu
     have:=h1.2.2.2 u hu.1 hu.2.1 hu.2.2.1 ((nN (by rw[hu.1.1,h1.1.1])).mp z)
     rw[this] at us
     exact e us
  ·show (nJ lev m _ _).Nodup
   unfold nJ
   rw[List.nodup_append]
   refine⟨nd,?_,?_⟩
   ·exact(List.filter_sublist.trans (List.filter_sublist.map _)).nodup gk.nd
   ·rintro a ha b hb rfl
    have h1:=(ih a).mp ha
    obtain⟨t,ht,rfl⟩:=List.mem_map.mp (List.mem_filter.mp hb).1
    have:=(gk.nn t (List.mem_filter.mp ht).1).2
    omega
def qk:Scope:=match (aC a7).getD 0 (.Pass ⟨0,0,0,0⟩) with
 | .Assign _ (.ListComp _ _ sc _) _=>sc
 |_=>ag a7
def oB:Scope:=match (aC a7).getD 2 (.Pass ⟨0,0,0,0⟩) with
 | .Return (some (.ListComp _ _ sc _)) _=>sc
 |_=>ag a7
def CD:Scope:=match (aC dA).getD 3 (.Pass ⟨0,0,0,0⟩) with
 | .For _ _ b _ _=>match b.getD 3 (.Pass ⟨0,0,0,0⟩) with
   | .Assign _ (.BinOp _ _ (.ListComp _ _ sc _) _) _=>sc
   |_=>ag dA
 |_=>ag dA
def cM(cs:List (List Int))(n:Nat):List (List Int):=(List.range n).map (row cs)
def aQ(cs:List (List Int))(n:Nat):List Nat:=(dm (cM cs n).length (cM cs n)).st.places
def dR(cs:List (List Int))(n:Nat):List (List Int):=cs.map fun c=>(aQ cs n).map fun r=>c.getD r 0
def Ae:Sp:=fun vs H Q _=>∃(p:Addr) (as:List Addr) (cs:List (List Int)) (n:Nat),vs=[.ref p]∧H p=some (.lst (as.map V.ref))∧aK [] H as cs∧(∀c∈cs,c.length=n∧∀x∈c,cP 70 x)∧n≤60∧1≤cs.length∧cs.length≤60∧
 ∀l oE H',ao H H'→H' l=some (.lst (oE.map V.ref))→aK [] H' oE (dR cs n)→Q (.ref l) H'
structure NA(fs:List (Str×V))(a b:Addr)(i:Int):Prop where
 n:fs.lookup ("numbers" :Str)=some (.ref a)
 g:fs.lookup ("gathered" :Str)=some (.ref b)
 f:fs.lookup ("first" :Str)=some (.int i)
 no:∀s:Str,s≠"numbers" →s≠"gathered" →s≠"first" →fs.lookup s=none
theorem NA.mk3(a b:Addr)(i:Int):NA (aE "first" (.int i) (aE "gathered" (.ref b) (aE "numbers" (.ref a) []))) a b i where
 n:=by rw[au,if_neg (by decide+kernel),au,if_neg (by decide+kernel),au,if_pos rfl]
 g:=by rw[au,if_neg (by decide+kernel),au,if_pos rfl]
 f:=by rw[au,if_pos rfl]
 no:=fun s h1 h2 h3=>by rw[au,if_neg h3,au,if_neg h2,au,if_neg h1];rfl
def gq(TC:Addr)(bz:List (List Int))(wd:Nat)(W:List Addr)(H0 H:Hp)(t:Addr)(x:eE):Prop:=∃dx fs a b,H t=some (.ins TC dx fs)∧NA fs a b ((x.2 :Nat):Int)∧H a=some (.lst (x.1.map V.int))∧H b=some (.lst ((dY x.1 bz wd).map V.int))∧(t∉W∧a∉W∧b∉W)∧(H0 t=none∧H0 a=none∧H0 b=none)
def U8:Hp:=fun _=>none
theorem gq.keep{TC:Addr}{bz:List (List Int)}{wd:Nat}{W:List Addr}{H0 H H':Hp}{t:Addr}{x:eE}(h:gq TC bz wd W H0 H t x)(e:∀b o,H b=some o→b∉W→H' b=some o):gq TC bz wd W H0 H' t x:=by
 obtain⟨dx,fs,a,b,h1,h2,h3,h4,⟨w1,w2,w3⟩,n⟩:=h
 exact⟨dx,fs,a,b,e _ _ h1 w1,h2,e _ _ h3 w2,e _ _ h4 w3,⟨w1,w2,w3⟩,n⟩
theorem gq.same{TC:Addr}{bz:List (List Int)}{wd:Nat}{W:List Addr}{H0 H H':Hp}{t:Addr}{x:eE}(h:gq TC bz wd W H0 H t x)(e:ao H H'):gq TC bz wd W H0 H' t x:=h.keep fun b o z _=>e b o z
theorem gq.cast{TC:Addr}{bz:List (List Int)}{wd:Nat}{W W':List Addr}{H0 ZZ H:Hp}{t:Addr}{x:eE}(h:gq TC bz wd W H0 H t x)(e:∀b,b∉W→H0 b=none→(∃o,H b=some o)→b∉W'∧ZZ b=none):gq TC bz wd W' ZZ H t x:=by
 obtain⟨dx,fs,a,b,h1,h2,h3,h4,⟨w1,w2,w3⟩,n1,n2,n3⟩:=h
 have e1:=e t w1 n1 ⟨_,h1⟩
 have e2:=e a w2 n2 ⟨_,h3⟩
 have e3:=e b w3 n3 ⟨_,h4⟩
 exact⟨dx,fs,a,b,h1,h2,h3,h4,⟨e1.1,e2.1,e3.1⟩,e1.2,e2.2,e3.2⟩
def pf(TC:Addr)(bz:List (List Int))(wd:Nat)(W:List Addr)(H0 H:Hp):List Addr→List eE→Prop:=Paired (gq TC bz wd W H0 H)
theorem bR{α β:Type}{p q:α→β→Prop}(h:∀a b,p a b→q a b):∀{as:List α} {bs:List β},Paired p as bs→Paired q as bs
 |_,_, .nil=> .nil
 |_,_, .cons x t=> .cons (h _ _ x) (bR h t)
theorem iY{α β:Type}{p:α→β→Prop}{a:α}{b:β}(x:p a b):∀{as:List α} {bs:List β},Paired p as bs→Paired p (as++[a]) (bs++[b])
 |_,_, .nil=> .cons x .nil
 |_,_, .cons y t=> .cons y (iY x t)
theorem j7{α β:Type}{p:α→β→Prop}:∀{as:List α} {bs:List β} {oE:List α} {zk:List β},Paired p as bs→Paired p oE zk→Paired p (as++oE) (bs++zk)
 |_,_,_,_, .nil,h=>h
 |_,_,_,_, .cons y t,h=> .cons y (j7 t h)
theorem gG{α β:Type}{p:α→β→Prop}:∀{as:List α} {bs:List β} {i:Nat} {a:α},Paired p as bs→as[i]? =some a→∃b,bs[i]? =some b∧p a b
 |_,_,0,_, .cons h _,e=>⟨_,rfl,(Option.some.inj e)▸h⟩
 |_,_,i+1,_, .cons _ t,e=>gG (i:=i) t e
def ql(TC:Addr):Sp:=fun vs H Q _=>∃(q dx a1 a2:Addr) (x1 x2:List V) (i:Int),vs=[.ref q, .ref a1, .ref a2, .int i]∧H q=some (.ins TC dx [])∧H a1=some (.lst x1)∧H a2=some (.lst x2)∧
 ∀b1 b2 fs H',H b1=none→H b2=none→H' q=some (.ins TC dx fs)→NA fs b1 b2 i→H' b1=some (.lst x1)→H' b2=some (.lst x2)→(∀b o,H b=some o→b≠q→H' b=some o)→Q .dE H'
def rY(TC:Addr):Sp:=fun vs H Q _=>∃(t c:Addr) (p:Nat) (col:List Int) (bz:List (List Int)) (wd:Nat) (x:eE),vs=[.ref t, .int p, .ref c]∧gq TC bz wd [] U8 H t x∧H c=some (.lst (col.map V.int))∧bz[p]? =some col∧col.length=wd∧x.1.length=bz.length∧bz.length≤60∧wd≤60∧
 ∀t' H',gq TC bz wd [] H H' t' (jA x.1 p,p)→ao H H'→Q (.ref t') H'
def lK(TC:Addr):Sp:=fun vs H Q _=>∃(t l:Addr) (cA:List Addr) (bz:List (List Int)) (wd:Nat) (x:eE),vs=[.ref t, .ref l]∧gq TC bz wd [] U8 H t x∧H l=some (.lst (cA.map V.ref))∧aK [] H cA bz∧(∀c∈bz,c.length=wd)∧x.1.length=bz.length∧x.2≤bz.length∧bz.length≤60∧wd≤60∧
 ∀L ts H',H L=none→H' L=some (.lst (ts.map V.ref))→pf TC bz wd [] H H' ts ((List.range' x.2 (bz.length - x.2)).map fun p=>(jA x.1 p,p))→ao H H'→Q (.ref L) H'
def eJ(bz:List (List Int))(wd:Nat)(v:List Int):Bool:=!((dY v bz wd).any fun n=>decide (n≠0))
def ph(TC:Addr):Sp:=fun vs H Q _=>∃(t:Addr) (bz:List (List Int)) (wd:Nat) (x:eE),vs=[.ref t]∧gq TC bz wd [] U8 H t x∧Q (.bl (eJ bz wd x.1)) H
def qo:Sp:=fun vs H Q _=>∃(p r:Addr) (xs ys:List Int),vs=[.ref p, .ref r]∧H p=some (.lst (xs.map V.int))∧H r=some (.lst (ys.map V.int))∧xs.length≤1000∧∀H',ao H H'→Q (.bl (iM xs ys)) H'
def qp:Sp:=fun vs H Q _=>∃(p:Addr) (as:List Addr) (cs:List (List Int)) (n most:Nat),vs=[.ref p, .int most]∧H p=some (.lst (as.map V.ref))∧aK [] H as cs∧(∀c∈cs,c.length=n∧∀x∈c,cP 70 x)∧n≤60∧1≤cs.length∧cs.length≤60∧most≤60∧
 (∀k,k<most→(bB cs.length (bC (eJ (dR cs n) (aQ cs n).length) cs.length k).2).length≤7000)∧(∀k,k≤most→(bC (eJ (dR cs n) (aQ cs n).length) cs.length k).1.length≤70000)∧
 ∀l oE zk H',H l=none→ao H H'→zk.Perm (bC (eJ (dR cs n) (aQ cs n).length) cs.length most).1→zk.Pairwise (fun a b=>¬b<a)→H' l=some (.lst (oE.map V.ref))→aK [] H' oE zk→(∀b∈oE,H b=none)→Q (.ref l) H'
def Af:Scope:=match aC dt with
 | [.Return (some (.ListComp _ _ sc _)) _]=>sc
 |_=>ag dt
def rZ(K:PySem.W.Frag):Sp:=fun vs H Q _=>∃(p r:Addr) (ns:List Int) (as:List Addr) (cs:List (List Int)) (wd:Nat),vs=[.ref p, .ref r]∧aD K H p (ns.map V.int)∧aD K H r (as.map V.ref)∧dW K H as cs∧cs≠[]∧(∀c∈cs,c.length=wd)∧
 ns.length≤sizeLine∧cs.length≤sizeLine∧wd≤1000∧Iw ns∧(∀c∈cs,Iw c)∧∀l H',H l=none→ao H H'→H' l=some (.lst ((dY ns cs wd).map V.int))→Q (.ref l) H'
structure Txt(K:PySem.W.Frag)(mg:Str→Option Value)(KC FC:Addr):Prop where
 dP:vY K KC
 aZ:vY K FC
 CF:cO K KC "free"
 r8:cO K KC "bound"
 ud:cO K KC "numbers"
 sf:cO K KC "weights"
 gH:cO K FC "scale"
 iZ:cO K FC "places"
 j8:cO K FC "bases"
 dC:cO K FC "weights"
 Ag:mg "Kernel" =some (.ref KC)
 CG:mg "Frame" =some (.ref FC)
 NB:mg "abs" =none
 n_list:mg "list" =none
 eL:mg "len" =none
 b8:mg "range" =none
 hV:mg "sum" =none
 fE:mg "zip" =none
 si:mg "enumerate" =none
 Ah:mg "min" =none
 nO:mg "sorted" =none
 NC:mg "int" =none
 IA:mg "bool" =none
 aU:mg "isinstance" =none
 FD:mg "all" =none
 k1:PySem.W.kitOne K (.type "int") (.type "int")=some true
 k2:PySem.W.kitOne K (.type "int") (.type "bool")=some false
 k3:PySem.W.kitOne K (.type "list") (.type "list")=some true
structure gY(K:PySem.W.Frag)(mg:Str→Option Value)(KC FC TC:Addr):Prop extends Txt K mg KC FC where
 bF:vY K TC
 Ai:cO K TC "numbers"
 Aj:cO K TC "gathered"
 FE:cO K TC "first"
 vA:mg "Trial" =some (.ref TC)
 nQ:mg "any" =none
def mu(i:Nat):St→Hp→Nat:=fun σ _=>match σ[i]? with
 |some (some (.int y))=>y.natAbs
 |_=>0
theorem Z0{y:Int}(e:(!decide (V.int y=V.int 0))=true):y≠0:=by
 intro z;subst z;simp at e
theorem Z1{y:Int}(e:¬(!decide (V.int y=V.int 0))=true):y=0:=by
 simpa using e
theorem CH(a:Int):(if a<0 then -a else a)=((Int.gcd a 0 :Nat):Int):=by
 rw[Int.gcd_zero];split<;>omega
section
seal lh PS PE PT PW PA PG Lu PI PC yO
variable {P:Program}{w:World}{K:PySem.W.Frag}{mg:Str→Option Value}{base:Heap}{KC FC TC C:Addr}
theorem i0:aI ["one","other","rest"] ["one","other"] (ag ed):=iC
theorem ue(D:Def K mg "divisor" "divisor" ed ["one","other"])(T:Txt K mg KC FC):bM P w K mg base 1 "divisor" ["one","other"] pe:=by
 refine D.ic i0 (fun vs H Q E h=>?_) (fun f bW A outer s H vs Q E hr h=>?_)
 ·obtain⟨a,b,rfl,_⟩:=h
  rfl
 ·obtain⟨a,b,rfl,q⟩:=h
  refine⟨_,(ak
     (yp PassesOwn.never (cg qP (pv 1) az (cm _))
      (ak
       (aG (i:=2) i0.nd rfl (Or.inl rfl) (aJ BB (pv 0) (pv 1)))
      (ak
       (aG (i:=0) i0.nd rfl (Or.inl rfl) (pv 1))
      (av
       (aG (i:=1) i0.nd rfl (Or.inl rfl) (pv 2))))))
    (av
     (aR (aA yz rfl T.NB Hm (aa (pv 0) ai))))),?_⟩
  refine yu (fun σ H'=>∃(x y:Int) (v:Option V),σ=[some (.int x),some (.int y),v]∧H'=H∧Int.gcd x y=Int.gcd a b) (mu 1) ⟨a,b,none,rfl,rfl,rfl⟩ ?_
   (fun σ H Q Q' m ⟨v,e,s,k,e2,q⟩=>⟨v,e,s,k,e2,m _ _ q⟩)
  rintro σ H' ⟨x,y,v,rfl,rfl,hg⟩
  refine⟨_,rfl,rfl,_,rfl,gz (fun e=>?_) fun e=>?_⟩
  ·have hy:=Z0 e
   exact⟨_,rfl,_,rfl,_,_,rfl,rfl,hy,_,rfl,_,rfl,⟨y,x.fmod y,_,rfl,rfl,by rw[zX];exact hg⟩,rO hy⟩
  ·have hy:=Z1 e
   subst hy
   refine⟨_,rfl,_,rfl,?_⟩
   rw[CH,hg]
   exact q
theorem j9:aI ["numbers","common","number"] ["numbers"] (ag eV):=iC
theorem xk(D:Def K mg "lowest" "lowest" eV ["numbers"])(T:Txt K mg KC FC)(c1:bM P w K mg base 1 "divisor" ["one","other"] pe):bM P w K mg base 2 "lowest" ["numbers"] (rT K):=by
 obtain⟨_,_,ja⟩:=c1
 refine D.ic j9 (fun vs H Q E h=>?_) (fun f bW A outer s H vs Q E hr h=>?_)
 ·obtain⟨p,ns,rfl,_⟩:=h
  rfl
 ·obtain⟨p,ns,rfl,hS,hz,hb,q⟩:=h
  refine⟨_,(ak
     (aG (i:=1) j9.nd rfl (Or.inr rfl) az)
    (ak
     (cy PassesOwn.never rfl (bh (pv 0)) (aw (i:=2) j9.nd rfl (Or.inl rfl))
      (av
       (aG (i:=1) j9.nd rfl (Or.inr rfl) (aO ja.ok (hr.mono (by decide)) rfl ja.g ja.kp ja.b .nil aX (aa (pv 1) (aa (pv 2) ai))))))
    (ak
     (dF (cg uO (pv 1) az (cm _))
      (av
       (aR (cE bu rfl T.n_list dJ (aa (pv 0) ai))))
      bI)
    (av
     (aR (bb (sc:=(ag eV)) (NX:=["numbers","common","number"]) (N:=["number","common"]) (fr:=[none,some 1]) ⟨by rfl,by rfl,by decide+kernel,by decide+kernel,by decide+kernel,by rfl,by decide+kernel⟩ rfl rfl rfl (bh (pv 0)) (fun _ _ _ _=>(aw (i:=0) (show (["number","common"]:List Str).Nodup by decide+kernel) rfl (Or.inl rfl) (Or.inr rfl))) (fun _ _ _ _=>aT) (fun _ _ _ _=>(aJ rh (pv 0) (pv 1))))))))),?_⟩
  refine⟨_,rfl,p,rfl,⟨_,hS⟩,gy (xs:=ns.map V.int) (fun i σ H'=>∃v:Option V,σ=[some (.ref p),some (.int (cw (ns.take i))),v]∧H'=H) ⟨none,rfl,rfl⟩ ?_ ?_ ?_⟩
  ·rintro i σ H' _ ⟨v,rfl,rfl⟩
   exact hS
  ·rintro i x σ H' hx ⟨v,rfl,rfl⟩
   obtain⟨z,gw,rfl⟩:=int_at hx
   refine⟨_,rfl,_,rfl,_,z,rfl,some (.int z),?_,rfl⟩
   rw[ay gw,wY]
   rfl
  ·rintro σ H' ⟨v,rfl,rfl⟩
   rw[List.length_map,List.take_length]
   refine⟨_,rfl,rfl,_,rfl,gz (fun e=>?_) fun e=>?_⟩
   ·have e:cw ns=0:=by simpa using e
    refine⟨_,rfl,p,_,rfl, .inl hS,fun l hl=>q l _ hl (ao.new hl) ?_⟩
    unfold low
    rw[if_pos e]
    exact af
   ·have e:¬cw ns=0:=by simpa using e
    have hg:cP 9000 (cw ns):=by
     have:=Cy (B:=2^8000) (fun n hn=>Nat.le_of_lt (hb n hn))
     exact Nat.lt_of_le_of_lt this (Nat.pow_lt_pow_right (by decide) (by decide))
    refine⟨_,rfl,p,rfl,⟨_,hS⟩,fun L hL=>cC (K:=K) (a:=p) (L:=L) (xs:=ns.map V.int) H' (fun σ=>∃v:Option V,σ=[v,some (.int (cw ns))]) (fun i ys=>ys=(ns.take i).map fun n=>V.int (n.fdiv (cw ns)))
     hS hL ⟨none,rfl⟩ (ao.new hL) af rfl (by rw[List.length_map];exact hz) ?_ ?_ ?_⟩
    ·rintro i ys rfl
     rw[List.length_map,List.length_take];omega
    ·rintro i x σ H2 ys hx ⟨v,rfl⟩ hs de rfl N M hN
     obtain⟨z,gw,rfl⟩:=int_at hx
     refine⟨_,rfl,_,rfl,_,_,rfl,rfl,⟨e,hg⟩,hN _ _ _ ⟨_,rfl⟩ hs de ?_⟩
     rw[ay gw,List.map_append]
     rfl
    ·rintro H2 ys hs de rfl
     refine q L H2 hL hs ?_
     rw[de,List.length_map,List.take_length]
     unfold low
     rw[if_neg e,List.map_map]
     rfl
theorem CI:aI ["weights","column"] ["weights","column"] (ag gQ):=iC
theorem Ak(D:Def K mg "weigh" "weigh" gQ ["weights","column"])(T:Txt K mg KC FC):bM P w K mg base 1 "weigh" ["weights","column"] (mx K):=by
 refine D.ic CI (fun vs H Q E h=>?_) (fun f bW A outer s H vs Q E hr h=>?_)
 ·obtain⟨p,r,ws,cs,rfl,_⟩:=h
  rfl
 ·obtain⟨p,r,ws,cs,rfl,hp,hX,hz,fw,fc,q⟩:=h
  refine⟨_,(av
     (aR (aA (dM rfl) rfl T.hV fZ (aa (bb (sc:=(ag gQ)) (NX:=["weights","column"]) (N:=["weight","number"]) (fr:=[none,none]) ⟨by rfl,by rfl,by decide+kernel,by decide+kernel,by decide+kernel,by rfl,by decide+kernel⟩ rfl rfl rfl (dy rfl T.fE (aa (pv 0) (aa (pv 1) ai))) (fun _ _ _ _=>(cK K 2 rfl rfl (aL (aw (i:=0) (show (["weight","number"]:List Str).Nodup by decide+kernel) rfl (Or.inl rfl) (Or.inr rfl)) (aL (aw (i:=1) (show (["weight","number"]:List Str).Nodup by decide+kernel) rfl (Or.inl rfl) (Or.inr rfl)) bU)))) (fun _ _ _ _=>aT) (fun _ _ _ _=>(aJ gJ (pv 0) (pv 1)))) ai)))),?_⟩
  refine⟨_,rfl,_,rfl,p,r,rfl,⟨_,hp⟩,⟨_,hX⟩,fun L hL=>di (K:=K) (a:=p) (c:=r) (L:=L) (xs:=ws.map V.int) (zs:=cs.map V.int) H (fun σ=>∃v u:Option V,σ=[v,u]) (fun i ys=>ys=(List.zipWith (·*·) ws cs |>.take i).map V.int)
   hp hX hL ⟨none,none,rfl⟩ (ao.new hL) af rfl (by rw[List.length_map];omega) ?_ ?_ ?_⟩
  ·rintro i ys rfl
   rw[List.length_map,List.length_take];omega
  ·rintro i x z t σ H2 ys hx gw ht ⟨v,u,rfl⟩ hs de rfl N M hN
   obtain⟨x,ka,rfl⟩:=int_at hx
   obtain⟨z,ND,rfl⟩:=int_at gw
   have jB:(List.zipWith (·*·) ws cs)[i]? =some (x*z):=by rw[List.getElem?_zipWith,ka,ND]
   refine⟨t,_,rfl,lN.of af,rfl,_,_,rfl,_,_,rfl,rfl,_,rfl,_,rfl,_,_,rfl,rfl, .inr ⟨60000000,60000000,fw x (List.mem_of_getElem? ka),fc z (List.mem_of_getElem? ND),by decide⟩,hN _ _ _ ⟨_,_,rfl⟩ (hs.trans (ao.new ht)) ?_ ?_⟩
   ·rw[aq (ah de ht)];exact de
   ·rw[ay jB,List.map_append];rfl
  ·rintro H2 ys hs de rfl
   refine⟨L,List.zipWith (·*·) ws cs,rfl,aD.of ?_,?_⟩
   ·rw[de,List.take_of_length_le (by rw[List.length_zipWith,List.length_map,List.length_map];exact Nat.le_refl _)]
   ·rw[qa]
    exact q _ hs
theorem CJ:aI ["self"] ["self"] (ag jt):=iC
theorem Al(D:rf K FC "Frame.__init__" jt ["self"] [])(T:Txt K mg KC FC):lC P w K mg base 1 FC ["self"] [] (vv FC):=by
 refine D.ic CJ (fun vs H Q E h=>?_) (fun f bW A outer s H vs Q E hr h=>?_)
 ·obtain⟨q,dx,rfl,_⟩:=h
  rfl
 ·obtain⟨q,dx,rfl,hq,k⟩:=h
  refine⟨_,(ak
     (dU (pv 0) az rfl)
    (ak
     (dU (pv 0) (bq ai) rfl)
    (ak
     (dU (pv 0) (bq ai) rfl)
    (av
     (dU (pv 0) (bq ai) rfl))))),?_⟩
  refine⟨_,rfl,q,FC,dx,[],rfl,hq,T.aZ,T.gH,(by show 0<1000;decide),?_⟩
  have h1:(upd H q (.ins FC dx (aE "scale" (.int 1) []))) q=some (.ins FC dx (aE "scale" (.int 1) [])):=af
  have e1:df q H (upd H q (.ins FC dx (aE "scale" (.int 1) []))):=df.upd
  generalize upd H q (.ins FC dx (aE "scale" (.int 1) []))=H1 at*
  have len:∀(f:Str) (v:V) (fs:List (Str×V)) (n:Nat),fs.length≤n→(aE f v fs).length≤n+1:=fun f v fs n h=>Nat.le_trans (b6 f v fs) (by omega)
  refine⟨(by show 0≤sizeLine;omega),fun aP U9=>⟨_,rfl,q,FC,dx,_,rfl,by rw[aq (ah h1 U9)];exact h1,T.aZ,T.iZ,by have:=len "scale" (.int 1) [] 0 (by simp);omega,?_⟩⟩
  have nP:aP≠q:=Ne.symm (ah h1 U9)
  have h2:(upd (upd H1 aP (.lst [])) q (.ins FC dx (aE "places" (.ref aP) (aE "scale" (.int 1) [])))) q=some (.ins FC dx (aE "places" (.ref aP) (aE "scale" (.int 1) []))):=af
  have p2:(upd (upd H1 aP (.lst [])) q (.ins FC dx (aE "places" (.ref aP) (aE "scale" (.int 1) [])))) aP=some (.lst []):=by rw[aq nP];exact af
  have e2:df q H1 (upd (upd H1 aP (.lst [])) q (.ins FC dx (aE "places" (.ref aP) (aE "scale" (.int 1) [])))):=(df.of (ao.new U9)).trans df.upd
  generalize upd (upd H1 aP (.lst [])) q (.ins FC dx (aE "places" (.ref aP) (aE "scale" (.int 1) [])))=H2 at*
  refine⟨(by show 0≤sizeLine;omega),fun aB NF=>⟨_,rfl,q,FC,dx,_,rfl,by rw[aq (ah h2 NF)];exact h2,T.aZ,T.j8,by have:=len "places" (.ref aP) _ 1 (len "scale" (.int 1) [] 0 (by simp));omega,?_⟩⟩
  have nB:aB≠q:=Ne.symm (ah h2 NF)
  have LO:aP≠aB:=ah p2 NF
  have h3:(upd (upd H2 aB (.lst [])) q (.ins FC dx (aE "bases" (.ref aB) (aE "places" (.ref aP) (aE "scale" (.int 1) []))))) q=some (.ins FC dx (aE "bases" (.ref aB) (aE "places" (.ref aP) (aE "scale" (.int 1) [])))):=af
  have p3:(upd (upd H2 aB (.lst [])) q (.ins FC dx (aE "bases" (.ref aB) (aE "places" (.ref aP) (aE "scale" (.int 1) []))))) aP=some (.lst []):=by rw[aq nP,aq LO];exact p2
  have b3:(upd (upd H2 aB (.lst [])) q (.ins FC dx (aE "bases" (.ref aB) (aE "places" (.ref aP) (aE "scale" (.int 1) []))))) aB=some (.lst []):=by rw[aq nB];exact af
  have e3:df q H2 (upd (upd H2 aB (.lst [])) q (.ins FC dx (aE "bases" (.ref aB) (aE "places" (.ref aP) (aE "scale" (.int 1) []))))):=(df.of (ao.new NF)).trans df.upd
  generalize upd (upd H2 aB (.lst [])) q (.ins FC dx (aE "bases" (.ref aB) (aE "places" (.ref aP) (aE "scale" (.int 1) []))))=H3 at*
  refine⟨(by show 0≤sizeLine;omega),fun aW NG=>⟨_,rfl,q,FC,dx,_,rfl,by rw[aq (ah h3 NG)];exact h3,T.aZ,T.dC,by have:=len "bases" (.ref aB) _ 2 (len "places" (.ref aP) _ 1 (len "scale" (.int 1) [] 0 (by simp)));omega,?_⟩⟩
  have nW:aW≠q:=Ne.symm (ah h3 NG)
  have Z2:aP≠aW:=ah p3 NG
  have Z3:aB≠aW:=ah b3 NG
  have eA:df q H H2:=e1.trans e2
  have back:∀{b:Addr},b≠q→H1 b=none→H b=none:=fun {b} n h=>by
   cases e:H b with
   |none=>rfl
   |some o=>rw[e1 b o e n] at h;cases h
  have NH:∀{b:Addr},b≠q→H2 b=none→H b=none:=fun {b} n h=>by
   cases e:H b with
   |none=>rfl
   |some o=>rw[eA b o e n] at h;cases h
  refine k aP aB aW _ (back nP U9) (NH nB NF) ⟨⟨_,af,FF.W4 1 aP aB aW⟩,?_,⟨[],?_, .nil⟩,⟨[],?_, .nil⟩,⟨LO,Ne.symm Z2,Ne.symm Z3,by simp,by simp,by simp,by simp⟩,fun b hb=>by cases hb⟩ fun b o h n=>?_
  ·rw[aq nP,aq Z2];exact p3
  ·rw[aq nB,aq Z3];exact b3
  ·rw[aq nW];exact af
  ·rw[aq n,aq (ah (e3 b o (eA b o h n) n) NG)];exact e3 b o (eA b o h n) n
theorem Am:aI ["self","column"] ["self","column"] (ag eW):=iC
theorem xm(D:fM K FC "shares" "Frame.shares" eW ["self","column"])(T:Txt K mg KC FC)(c1:bM P w K mg base 1 "weigh" ["weights","column"] (mx K)):dh P w K mg base 2 FC "shares" ["self","column"] (rV FC):=by
 obtain⟨_,_,bV⟩:=c1
 refine D.ic Am (fun vs H Q E h=>?_) (fun f bW A outer s H vs Q E hr h=>?_)
 ·obtain⟨X,q,dx,aP,aB,aW,cA,st,n,c,rfl,_⟩:=h
  rfl
 ·obtain⟨X,q,dx,aP,aB,aW,cA,st,n,c,rfl,FA,S,hc,k⟩:=h
  obtain⟨fs,hq,ff⟩:=FA.obj
  obtain⟨wA,hW,cW⟩:=FA.hW
  have big:(1001 :Nat)≤sizeLine:=by decide
  have lw:=cW.length
  have l1:=CC S
  have l2:=S.many
  refine⟨_,(av
     (aR (bb (sc:=(ag eW)) (NX:=["self","column"]) (N:=["weights","column"]) (fr:=[none,some 1]) ⟨by rfl,by rfl,by decide+kernel,by decide+kernel,by decide+kernel,by rfl,by decide+kernel⟩ rfl rfl rfl (bh (cn (pv 0) rfl)) (fun _ _ _ _=>(aw (i:=0) (show (["weights","column"]:List Str).Nodup by decide+kernel) rfl (Or.inl rfl) (Or.inr rfl))) (fun _ _ _ _=>aT) (fun _ _ _ _=>(aO bV.ok (hr.mono (by decide)) rfl bV.g bV.kp bV.b .nil aX (aa (pv 0) (aa (pv 1) ai))))))),?_⟩
  refine⟨_,rfl,q,FC,dx,fs,_,rfl,hq,T.aZ,T.dC,ff.w,aW,rfl,⟨_,aD.of hW⟩,fun L hL=>cC (K:=K) (a:=aW) (L:=L) (xs:=wA.map V.ref) H (fun σ=>∃v:Option V,σ=[v,some (.ref cA)]) (fun i ys=>ys=(st.aH.take i).map fun w=>V.int (dot w c))
   (aD.of hW) hL ⟨none,rfl⟩ (ao.new hL) af rfl (by rw[List.length_map];omega) ?_ ?_ ?_⟩
  ·rintro i ys rfl
   rw[List.length_map,List.length_take];omega
  ·rintro i x σ H2 ys hx ⟨v,rfl⟩ hs de rfl N M hN
   obtain⟨a,ha,rfl⟩:=b9 hx
   obtain⟨v,hv,U',_⟩:=cW.get ha
   have Z4:=List.mem_of_getElem? hv
   refine⟨_,rfl,_,rfl,a,cA,v,c,rfl,aD.of (hs _ _ U'),aD.of (hs _ _ hc.at'),by rw[S.F.lw v Z4];have:=S.n;omega,cP.bz (by decide) (S.w v Z4),cP.bz (by decide) hc.fit,fun H3 e3=>hN _ _ _ ⟨_,rfl⟩ (hs.trans e3) (e3 _ _ de) ?_⟩
   rw[ay hv,List.map_append]
   rfl
  ·rintro H2 ys hs de rfl
   refine k L H2 hL hs ?_
   rw[de,List.length_map,lw,List.take_length]
   unfold ax
   rw[List.map_map]
   rfl
theorem IB:aI ["self","column","shares","row"] ["self","column","shares","row"] (ag jV):=iC
theorem CK(D:fM K FC "rest" "Frame.rest" jV ["self","column","shares","row"])(T:Txt K mg KC FC):dh P w K mg base 1 FC "rest" ["self","column","shares","row"] (z5 FC):=by
 refine D.ic IB (fun vs H Q E h=>?_) (fun f bW A outer s H vs Q E hr h=>?_)
 ·obtain⟨X,q,dx,aP,aB,aW,cA,sA,st,n,c,r,rfl,_⟩:=h
  rfl
 ·obtain⟨X,q,dx,aP,aB,aW,cA,sA,st,n,c,r,rfl,FA,S,hc,hs,hX,k⟩:=h
  obtain⟨fs,hq,ff⟩:=FA.obj
  obtain⟨bA,hB,cB⟩:=FA.hB
  have big:(1001 :Nat)≤sizeLine:=by decide
  have lb:=cB.length
  have l2:=S.many
  have l1:=CC S
  have ls:(ax st c).length=st.bases.length:=by unfold ax;rw[List.length_map];exact l1
  have gc:=getD_at (l:=c) (i:=r) (by rw[hc.len];exact hX)
  refine⟨_,(av
     (aR (aJ fu (aJ gJ (cn (pv 0) rfl) (cJ dr (pv 1) (pv 3) (fun _ _=>rfl))) (aA (dM rfl) rfl T.hV fZ (aa (bb (sc:=(ag jV)) (NX:=["self","column","shares","row"]) (N:=["share","base","row"]) (fr:=[none,none,some 3]) ⟨by rfl,by rfl,by decide+kernel,by decide+kernel,by decide+kernel,by rfl,by decide+kernel⟩ rfl rfl rfl (dy rfl T.fE (aa (pv 2) (aa (cn (pv 0) rfl) ai))) (fun _ _ _ _=>(cK K 2 rfl rfl (aL (aw (i:=0) (show (["share","base","row"]:List Str).Nodup by decide+kernel) rfl (Or.inl rfl) (Or.inr rfl)) (aL (aw (i:=1) (show (["share","base","row"]:List Str).Nodup by decide+kernel) rfl (Or.inl rfl) (Or.inr rfl)) bU)))) (fun _ _ _ _=>aT) (fun _ _ _ _=>(aJ gJ (pv 0) (cJ (cp K rfl) (pv 1) (pv 2) (fun _ _=>rfl))))) ai))))),?_⟩
  refine⟨_,rfl,q,FC,dx,fs,_,rfl,hq,T.aZ,T.gH,ff.s,_,rfl,_,rfl,cA,_,_, .int (c.getD r 0),rfl,rfl,aD.of hc.at',bE (by rw[List.getElem?_map,gc];rfl),_,_,rfl,rfl,xi S.s (hc.fit _ (List.mem_of_getElem? gc)),?_⟩
  refine⟨_,rfl,_,rfl,q,FC,dx,fs,_,rfl,hq,T.aZ,T.j8,ff.b,sA,aB,rfl,⟨_,aD.of hs⟩,⟨_,aD.of hB⟩,fun L hL=>di (K:=K) (a:=sA) (c:=aB) (L:=L) (xs:=(ax st c).map V.int) (zs:=bA.map V.ref) H (fun σ=>∃v u:Option V,σ=[v,u,some (.int r)])
   (fun i ys=>ys=(List.zipWith (·*·) (ax st c) (st.bases.map fun b=>b.getD r 0) |>.take i).map V.int)
   (aD.of hs) (aD.of hB) hL ⟨none,none,rfl⟩ (ao.new hL) af rfl (by rw[List.length_map,List.length_map];omega) ?_ ?_ ?_⟩
  ·rintro i ys rfl
   rw[List.length_map,List.length_take];omega
  ·rintro i x z t σ H2 ys hx hz ht ⟨v,u,rfl⟩ oH de rfl N M hN
   obtain⟨x,ka,rfl⟩:=int_at hx
   obtain⟨a,ha,rfl⟩:=b9 hz
   obtain⟨b,hb,NI,_⟩:=cB.get ha
   have xo:=List.mem_of_getElem? hb
   have gb:=getD_at (l:=b) (i:=r) (by rw[S.F.lb b xo];exact hX)
   have jB:(List.zipWith (·*·) (ax st c) (st.bases.map fun b=>b.getD r 0))[i]? =some (x*b.getD r 0):=by rw[List.getElem?_zipWith,ka,List.getElem?_map,hb];rfl
   refine⟨t,_,rfl,lN.of af,rfl,_,_,rfl,_,_,rfl,rfl,_,rfl,_,rfl,_,rfl,a,_,_, .int (b.getD r 0),rfl,rfl,aD.of (ao.new ht _ _ (oH _ _ NI)),bE (by rw[List.getElem?_map,gb];rfl),_,_,rfl,rfl,xi (jz S hc.fit x (List.mem_of_getElem? ka)) (S.b b xo _ (List.mem_of_getElem? gb)),hN _ _ _ ⟨_,_,rfl⟩ (oH.trans (ao.new ht)) ?_ ?_⟩
   ·rw[aq (ah de ht)];exact de
   ·rw[ay jB,List.map_append];rfl
  ·rintro H2 ys oH de rfl
   refine⟨L,List.zipWith (·*·) (ax st c) (st.bases.map fun b=>b.getD r 0),rfl,aD.of ?_,?_⟩
   ·rw[de,List.take_of_length_le (by rw[List.length_zipWith,List.length_map,List.length_map,List.length_map,lb];exact Nat.le_refl _)]
   ·rw[qa]
    exact⟨_,_,rfl,rfl,k _ oH⟩
theorem FG:aI ["self","column","shares","row"] ["self","column","shares"] (ag rM):=iC
theorem uf{p:Nat→Bool}:∀{n i:Nat},i<n→(∀j,j<i→p j=false)→p i=true→(List.range n).find? p=some i:=by
 intro n i hi h0 h1
 rw[List.find?_range_eq_some]
 exact⟨h1,List.mem_range.mpr hi,fun j hj=>by simpa using h0 j hj⟩
theorem IC(D:fM K FC "row_with_rest" "Frame.row_with_rest" rM ["self","column","shares"])(T:Txt K mg KC FC)(c1:dh P w K mg base 1 FC "rest" ["self","column","shares","row"] (z5 FC)):dh P w K mg base 2 FC "row_with_rest" ["self","column","shares"] (Fy FC):=by
 obtain⟨_,_,gZ⟩:=c1
 refine D.ic FG (fun vs H Q E h=>?_) (fun f bW A outer s H vs Q E hr h=>?_)
 ·obtain⟨X,q,dx,aP,aB,aW,cA,sA,st,n,c,rfl,_⟩:=h
  rfl
 ·obtain⟨X,q,dx,aP,aB,aW,cA,sA,st,n,c,rfl,FA,S,hc,hs,k⟩:=h
  have n2:=S.n
  have n3:=hc.len
  refine⟨_,(ak
     (cy PassesOwn.never rfl (bD rfl T.b8 (aa (aA aS rfl T.eL da (aa (pv 1) ai)) ai)) (aw (i:=3) FG.nd rfl (Or.inl rfl))
      (av
       (dF (cg qP (eO (pv 0) T.aZ gZ.m gZ.ok (hr.mono (by decide)) gZ.b .nil aX (aa (pv 1) (aa (pv 2) (aa (pv 3) ai)))) az (cm _))
        (av
         (aR (pv 3)))
        bI)))
    (av
     (aR yc))),?_⟩
  refine⟨_,rfl,cA,_,rfl, .inl (aD.of hc.at'),_,rfl,by omega,by rw[List.length_map];omega,cT (fun i σ H'=>∃v:Option V,σ=[some (.ref q),some (.ref cA),some (.ref sA),v]∧ao H H'∧∀j,j<i→jm st c (ax st c) j=0) ⟨none,rfl,ao.refl _,fun j hj=>by omega⟩ ?_ ?_⟩
  ·rintro i σ H' hi ⟨v,rfl,e,h0⟩
   have hi:i<n:=by
    have:i< (List.map V.int c).length:=hi
    rw[List.length_map] at this;omega
   dsimp only [aV]
   rw[Int.zero_add]
   obtain⟨fs,hq,ff⟩:=FA.obj
   refine⟨_,rfl,q,dx,fs,rfl,e _ _ hq,ff.no _ (by decide+kernel) (by decide+kernel) (by decide+kernel) (by decide+kernel),_,rfl,_,rfl,_,rfl,X,q,dx,aP,aB,aW,cA,sA,st,n,c,i,rfl,FA.same e,S,⟨e _ _ hc.at',hc.len,hc.fit⟩,e _ _ hs,hi,fun H2 e2=>⟨rfl,_,rfl,gz (fun z=>?_) fun z=>?_⟩⟩
   ·have z:jm st c (ax st c) i≠0:=Z0 z
    refine⟨_,rfl,((k _ (e.trans e2)).1 i ?_)⟩
    unfold lZ
    exact uf (by omega) (fun j hj=>by simp [h0 j hj]) (by simpa using z)
   ·have z:jm st c (ax st c) i=0:=Z1 z
    refine⟨_,rfl,e.trans e2,fun j hj=>?_⟩
    rcases Nat.lt_succ_iff_lt_or_eq.mp hj with q1|q1
    ·exact h0 j q1
    ·rw[q1];exact z
  ·rintro σ H' ⟨v,rfl,e,h0⟩
   refine(k _ e).2 ?_
   unfold lZ
   rw[List.find?_eq_none]
   intro j hj
   have hj:j<c.length:=List.mem_range.mp hj
   have:=h0 j (by show j< (List.map V.int c).length;rw[List.length_map];exact hj)
   simp [this]
theorem CL:aI ["self","weights","share","fresh","scale"] ["self","weights","share","fresh","scale"] (ag gS):=iC
theorem An(D:fM K FC "freed" "Frame.freed" gS ["self","weights","share","fresh","scale"])(T:Txt K mg KC FC):dh P w K mg base 1 FC "freed" ["self","weights","share","fresh","scale"] (vx FC):=by
 refine D.ic CL (fun vs H Q E h=>?_) (fun f bW A outer s H vs Q E hr h=>?_)
 ·obtain⟨X,q,dx,aP,aB,aW,wA,fA,st,n,wt,fr,sh,S',rfl,_⟩:=h
  rfl
 ·obtain⟨X,q,dx,aP,aB,aW,wA,fA,st,n,wt,fr,sh,S',rfl,FA,S,hw,hf,lw,lf,bw,bf,bs,bS,k⟩:=h
  obtain⟨fs,hq,ff⟩:=FA.obj
  have n2:=S.n
  have big:(1001 :Nat)≤sizeLine:=by decide
  refine⟨_,(av
     (aR (bb (sc:=(ag gS)) (NX:=["self","weights","share","fresh","scale"]) (N:=["one","other","self","scale","share"]) (fr:=[none,none,some 0,some 4,some 2]) ⟨by rfl,by rfl,by decide+kernel,by decide+kernel,by decide+kernel,by rfl,by decide+kernel⟩ rfl rfl rfl (dy rfl T.fE (aa (pv 1) (aa (pv 3) ai))) (fun _ _ _ _=>(cK K 2 rfl rfl (aL (aw (i:=0) (show (["one","other","self","scale","share"]:List Str).Nodup by decide+kernel) rfl (Or.inl rfl) (Or.inr rfl)) (aL (aw (i:=1) (show (["one","other","self","scale","share"]:List Str).Nodup by decide+kernel) rfl (Or.inl rfl) (Or.inr rfl)) bU)))) (fun _ _ _ _=>aT) (fun _ _ _ _=>(aJ rh (aJ fu (aJ gJ (pv 3) (pv 0)) (aJ gJ (pv 4) (pv 1))) (vc K rfl (pv 2) rfl)))))),?_⟩
  refine⟨_,rfl,_,rfl,wA,fA,rfl,⟨_,aD.of hw⟩,⟨_,aD.of hf⟩,fun L hL=>di (K:=K) (a:=wA) (c:=fA) (L:=L) (xs:=wt.map V.int) (zs:=fr.map V.int) H (fun σ=>∃v u:Option V,σ=[v,u,some (.ref q),some (.int S'),some (.int sh)])
   (fun i ys=>ys=((cG st.scale S' wt sh fr).take i).map V.int)
   (aD.of hw) (aD.of hf) hL ⟨none,none,rfl⟩ (ao.new hL) af rfl (by rw[List.length_map];omega) ?_ ?_ ?_⟩
  ·rintro i ys rfl
   rw[List.length_map,List.length_take];omega
  ·rintro i x z t σ H2 ys hx hz ht ⟨v,u,rfl⟩ oH de rfl N M hN
   obtain⟨x,ka,rfl⟩:=int_at hx
   obtain⟨z,gw,rfl⟩:=int_at hz
   have jB:(cG st.scale S' wt sh fr)[i]? =some ((S'*x - sh*z).fdiv st.scale):=by unfold cG;rw[List.getElem?_zipWith,ka,gw]
   have S0:=S.pos
   refine⟨t,_,rfl,lN.of af,rfl,_,_,rfl,_,_,rfl,rfl,_,rfl,_,rfl,_,_,rfl,rfl,xi bS (bw x (List.mem_of_getElem? ka)),_,rfl,_,rfl,_,_,rfl,rfl,xi bs (bf z (List.mem_of_getElem? gw)),_,_,rfl,rfl,_,rfl,q,FC,dx,fs,_,rfl,ao.new ht _ _ (oH _ _ hq),T.aZ,T.gH,ff.s,_,_,rfl,rfl,⟨by omega,S.s.mono (by decide)⟩,hN _ _ _ ⟨_,_,rfl⟩ (oH.trans (ao.new ht)) ?_ ?_⟩
   ·rw[aq (ah de ht)];exact de
   ·rw[ay jB,List.map_append];rfl
  ·rintro H2 ys oH de rfl
   refine k L H2 hL oH ?_
   rw[de,List.take_of_length_le (by unfold cG;rw[List.length_zipWith,List.length_map,List.length_map];exact Nat.le_refl _)]
theorem xq(n:Nat):(List.replicate n [V.int 0]).flatten=(List.replicate n (0 :Int)).map V.int:=by
 induction n with
 |zero=>rfl
 |succ n ih=>rw[List.replicate_succ,List.flatten_cons,ih,List.replicate_succ];rfl
theorem vB:aI ["self","place","shares","many","numbers","base_place","share"] ["self","place","shares","many"] (ag rN):=iC
theorem ID(D:fM K FC "levelling" "Frame.levelling" rN ["self","place","shares","many"])(T:Txt K mg KC FC)(c1:bM P w K mg base 2 "lowest" ["numbers"] (rT K)):dh P w K mg base 3 FC "levelling" ["self","place","shares","many"] (Fz FC):=by
 obtain⟨_,_,kc⟩:=c1
 refine D.ic vB (fun vs H Q E h=>?_) (fun f bW A outer s H vs Q E hr h=>?_)
 ·obtain⟨X,q,dx,aP,aB,aW,sA,st,n,c,place,many,rfl,_⟩:=h
  rfl
 ·obtain⟨X,q,dx,aP,aB,aW,sA,st,n,c,place,many,rfl,FA,S,hc,hs,hp,hm,sV,k⟩:=h
  obtain⟨fs,hq,ff⟩:=FA.obj
  have big:(1001 :Nat)≤sizeLine:=by decide
  refine⟨_,(ak
     (aG (i:=4) vB.nd rfl (Or.inl rfl) (aJ mQ (bq (aa az ai)) (pv 3)))
    (ak
     (ky (cn (pv 0) rfl) (kv (pv 4) (pv 1) set_list))
    (ak
     (cy PassesOwn.never rfl (dy rfl T.fE (aa (cn (pv 0) rfl) (aa (pv 2) ai))) (mL rfl (aL (aw (i:=5) vB.nd rfl (Or.inl rfl)) (aL (aw (i:=6) vB.nd rfl (Or.inl rfl)) bU)))
      (av
       (ky (yv tu (pv 6)) (kv (pv 4) (pv 5) set_list))))
    (av
     (aR (aO kc.ok (hr.mono (by decide)) rfl kc.g kc.kp kc.b .nil aX (aa (pv 4) ai))))))),?_⟩
  refine⟨(by show 1≤sizeLine;omega),fun l0 x8=>⟨_,rfl,l0,_,_,rfl,rfl,af,by omega,by omega,by show 1*_≤sizeLine;rw[Int.toNat_natCast];omega,fun l hl=>?_⟩⟩
  rw[Int.toNat_natCast,xq]
  have e1:ao H (upd (upd H l0 (.lst [.int 0])) l (.lst ((List.replicate many (0 :Int)).map V.int))):=(ao.new x8).trans (ao.new hl)
  have h1:(upd (upd H l0 (.lst [.int 0])) l (.lst ((List.replicate many (0 :Int)).map V.int))) l=some (.lst ((List.replicate many (0 :Int)).map V.int)):=af
  have nl:H l=none:=(ao.new x8).free hl
  generalize upd (upd H l0 (.lst [.int 0])) l (.lst ((List.replicate many (0 :Int)).map V.int))=H1 at*
  dsimp only [aV]
  refine⟨_,rfl,q,FC,dx,fs,_,rfl,e1 _ _ hq,T.aZ,T.gH,ff.s,_,rfl,_,rfl,l,_,_,place,rfl,rfl,h1,qh (by rw[List.length_map,List.length_replicate];exact hp),?_⟩
  rw[←List.map_set]
  have h2:(upd H1 l (.lst (((List.replicate many (0 :Int)).set place st.scale).map V.int))) l=some (.lst (((List.replicate many (0 :Int)).set place st.scale).map V.int)):=af
  have e2:df l H (upd H1 l (.lst (((List.replicate many (0 :Int)).set place st.scale).map V.int))):=(df.of e1).trans df.upd
  generalize upd H1 l (.lst (((List.replicate many (0 :Int)).set place st.scale).map V.int))=H2 at*
  have ne:∀{b:Addr} {o:HO},H b=some o→b≠l:=fun h=>ah h nl
  refine⟨_,rfl,q,FC,dx,fs,_,rfl,e2 _ _ hq (ne hq),T.aZ,T.iZ,ff.p,_,rfl,aP,sA,rfl,⟨_,aD.of (e2 _ _ FA.hP (ne FA.hP))⟩,⟨_,aD.of (e2 _ _ hs (ne hs))⟩,u9 (K:=K) (a:=aP) (c:=sA) (xs:=st.places.map fun p=>V.int (p:Nat)) (zs:=(ax st c).map V.int)
   (fun i σ H'=>∃v5 v6:Option V,σ=[some (.ref q),some (.int place),some (.ref sA),some (.int many),some (.ref l),v5,v6]∧df l H H'∧H' l=some (.lst ((((st.places.zip (ax st c)).take i).foldl (fun l ps=>l.set ps.1 (-ps.2)) ((List.replicate many (0 :Int)).set place st.scale)).map V.int)))
   ⟨none,none,rfl,e2,h2⟩ ?_ ?_ ?_⟩
  ·rintro i σ H' ⟨v5,v6,rfl,e,_⟩
   exact⟨aD.of (e _ _ FA.hP (ne FA.hP)),aD.of (e _ _ hs (ne hs))⟩
  ·rintro i x z t σ H' hx hz ht ⟨v5,v6,rfl,e,h'⟩
   rw[List.getElem?_map] at hx
   cases ep:st.places[i]? with
   |none=>rw[ep] at hx;cases hx
   |some p=>
    rw[ep] at hx
    cases hx
    obtain⟨z,gw,rfl⟩:=int_at hz
    have IE:(st.places.zip (ax st c))[i]? =some (p,z):=by rw[List.getElem?_zip_eq_some];exact⟨ep,gw⟩
    have yU:(upd H' t (.tup [V.int (p:Nat),V.int z])) l=_:=ao.new ht _ _ h'
    refine⟨t,_,rfl,lN.of af,rfl,_,_,rfl,_,_,rfl,rfl,_,rfl,_,rfl,_,rfl,_,rfl,l,_,_,p,rfl,rfl,yU,qh (by rw[List.length_map,nI];simp;exact sV p (List.mem_of_getElem? ep)),_,_,rfl,?_,?_⟩
    ·exact(e.trans (df.of (ao.new ht))).trans df.upd
    ·rw[af,ay IE,List.foldl_append,←List.map_set]
     rfl
  ·rintro σ H3 ⟨v5,v6,rfl,e3,h3⟩
   rw[List.take_of_length_le (by rw[List.length_zip,List.length_map,List.length_map];exact Nat.le_refl _)] at h3
   have s3:ao H H3:=fun b o h=>e3 b o h (ne h)
   refine⟨_,rfl,l,cV st place (ax st c) many,rfl,aD.of h3,by unfold cV;rw[nI];simp;omega,fun x hx=>?_,fun l2 H4 Lw e4 h4=>k l2 H4 (s3.free Lw) (s3.trans e4) h4⟩
   exact Nat.lt_of_lt_of_le (vy S hc x hx) (Nat.pow_le_pow_right (by decide) (by decide))
theorem kd:aI ["self","row","many","told","base","weights"] ["self","row","many"] (ag gR):=iC
theorem ug(n:Nat):(List.replicate n [V.int 0]).flatten=(List.replicate n (0 :Int)).map V.int:=by
 induction n with
 |zero=>rfl
 |succ n ih=>rw[List.replicate_succ,List.flatten_cons,ih,List.replicate_succ];rfl
theorem Ao(D:fM K FC "weights_of_rest" "Frame.weights_of_rest" gR ["self","row","many"])(T:Txt K mg KC FC):dh P w K mg base 1 FC "weights_of_rest" ["self","row","many"] (vw FC):=by
 refine D.ic kd (fun vs H Q E h=>?_) (fun f bW A outer s H vs Q E hr h=>?_)
 ·obtain⟨X,q,dx,aP,aB,aW,st,n,r,rfl,_⟩:=h
  rfl
 ·obtain⟨X,q,dx,aP,aB,aW,st,n,r,rfl,FA,S,hX,k⟩:=h
  obtain⟨fs,hq,ff⟩:=FA.obj
  obtain⟨bA,hB,cB⟩:=FA.hB
  obtain⟨wA,hW,cW⟩:=FA.hW
  have n2:=S.n
  have lb:=cB.length
  have lw:=cW.length
  have l1:=CC S
  have big:(1001 :Nat)≤sizeLine:=by decide
  refine⟨_,(ak
     (aG (i:=3) kd.nd rfl (Or.inl rfl) (aJ mQ (bq (aa az ai)) (pv 2)))
    (ak
     (ky (cn (pv 0) rfl) (kv (pv 3) (pv 1) set_list))
    (ak
     (cy PassesOwn.never rfl (dy rfl T.fE (aa (cn (pv 0) rfl) (aa (cn (pv 0) rfl) ai))) (mL rfl (aL (aw (i:=4) kd.nd rfl (Or.inr rfl)) (aL (aw (i:=5) kd.nd rfl (Or.inl rfl)) bU)))
      (av
       (eP (i:=3) kd.nd rfl (Or.inl rfl) (sc:=(ag gR)) (NX:=["self","row","many","told","base","weights"]) (N:=["one","other","base","row"]) (fr:=[none,none,some 4,some 1]) ⟨by rfl,by rfl,by decide+kernel,by decide+kernel,by decide+kernel,by rfl,by decide+kernel⟩ rfl rfl rfl (dy rfl T.fE (aa (pv 3) (aa (pv 5) ai))) (fun _ _ _ _=>(cK K 2 rfl rfl (aL (aw (i:=0) (show (["one","other","base","row"]:List Str).Nodup by decide+kernel) rfl (Or.inl rfl) (Or.inr rfl)) (aL (aw (i:=1) (show (["one","other","base","row"]:List Str).Nodup by decide+kernel) rfl (Or.inl rfl) (Or.inr rfl)) bU)))) (fun _ _ _ _=>aT) (fun _ _ _ _=>(aJ fu (pv 0) (aJ gJ (cJ (cp K rfl) (pv 2) (pv 3) (fun _ _=>rfl)) (pv 1)))))))
    (av
     (aR (pv 3)))))),?_⟩
  refine⟨(by show 1≤sizeLine;omega),fun l0 x8=>⟨_,rfl,l0,_,_,rfl,rfl,af,by omega,by omega,by show 1*_≤sizeLine;rw[Int.toNat_natCast];omega,fun l hl=>?_⟩⟩
  rw[Int.toNat_natCast,ug]
  have e1:ao H (upd (upd H l0 (.lst [.int 0])) l (.lst ((List.replicate n (0 :Int)).map V.int))):=(ao.new x8).trans (ao.new hl)
  have h1:(upd (upd H l0 (.lst [.int 0])) l (.lst ((List.replicate n (0 :Int)).map V.int))) l=some (.lst ((List.replicate n (0 :Int)).map V.int)):=af
  have nl:H l=none:=(ao.new x8).free hl
  generalize upd (upd H l0 (.lst [.int 0])) l (.lst ((List.replicate n (0 :Int)).map V.int))=H1 at*
  dsimp only [aV]
  refine⟨_,rfl,q,FC,dx,fs,_,rfl,e1 _ _ hq,T.aZ,T.gH,ff.s,_,rfl,_,rfl,l,_,_,r,rfl,rfl,h1,qh (by rw[List.length_map,List.length_replicate];exact hX),?_⟩
  rw[←List.map_set]
  have h2:(upd H1 l (.lst (((List.replicate n (0 :Int)).set r st.scale).map V.int))) l=some (.lst (((List.replicate n (0 :Int)).set r st.scale).map V.int)):=af
  have s2:ao H (upd H1 l (.lst (((List.replicate n (0 :Int)).set r st.scale).map V.int))):=fun b o h=>((df.of e1).trans df.upd) b o h (ah h nl)
  generalize upd H1 l (.lst (((List.replicate n (0 :Int)).set r st.scale).map V.int))=H2 at*
  refine⟨_,rfl,q,FC,dx,fs,_,rfl,s2 _ _ hq,T.aZ,T.j8,ff.b,_,rfl,q,FC,dx,fs,_,rfl,s2 _ _ hq,T.aZ,T.dC,ff.w,aB,aW,rfl,⟨_,aD.of (s2 _ _ hB)⟩,⟨_,aD.of (s2 _ _ hW)⟩,u9 (K:=K) (a:=aB) (c:=aW) (xs:=bA.map V.ref) (zs:=wA.map V.ref)
   (fun i σ H'=>∃(l':Addr) (v4 v5:Option V),σ=[some (.ref q),some (.int r),some (.int n),some (.ref l'),v4,v5]∧ao H H'∧H l'=none∧H' l'=some (.lst ((((st.bases.zip st.aH).take i).foldl (fun told bw=>dB told (bw.1.getD r 0) bw.2) ((List.replicate n (0 :Int)).set r st.scale)).map V.int)))
   ⟨l,none,none,rfl,s2,nl,h2⟩ ?_ ?_ ?_⟩
  ·rintro i σ H' ⟨l',v4,v5,rfl,e,_,_⟩
   exact⟨aD.of (e _ _ hB),aD.of (e _ _ hW)⟩
  ·rintro i x z t σ H' hx hz ht ⟨l',v4,v5,rfl,e,Z5,h'⟩
   obtain⟨a,ha,rfl⟩:=b9 hx
   obtain⟨b,hb,NI,_⟩:=cB.get ha
   obtain⟨a2,W3,rfl⟩:=b9 hz
   obtain⟨wt,NJ,Va,_⟩:=cW.get W3
   have xo:=List.mem_of_getElem? hb
   have Iu:=List.mem_of_getElem? NJ
   have gb:=getD_at (l:=b) (i:=r) (by rw[S.F.lb b xo];exact hX)
   have IE:(st.bases.zip st.aH)[i]? =some (b,wt):=by rw[List.getElem?_zip_eq_some];exact⟨hb,NJ⟩
   have lt:=iK (n:=n) r ((st.bases.zip st.aH).take i) ((List.replicate n (0 :Int)).set r st.scale) (by simp) fun p hp=>S.F.lw _ (List.of_mem_zip (List.mem_of_mem_take hp)).2
   generalize Vb:((st.bases.zip st.aH).take i).foldl (fun told bw=>dB told (bw.1.getD r 0) bw.2) ((List.replicate n (0 :Int)).set r st.scale)=told at*
   have lwt:wt.length=n:=S.F.lw wt Iu
   refine⟨t,_,rfl,lN.of af,rfl,_,_,rfl,_,_,rfl,rfl,?_⟩
   have et:ao H' (upd H' t (.tup [.ref a, .ref a2])):=ao.new ht
   have yU:=et _ _ h'
   have e':=e.trans et
   generalize upd H' t (.tup [.ref a, .ref a2])=H3 at*
   dsimp only [aV]
   refine⟨_,rfl,_,rfl,l',a2,rfl,⟨_,aD.of yU⟩,⟨_,aD.of (e' _ _ Va)⟩,fun L hL=>di (K:=K) (a:=l') (c:=a2) (L:=L) (xs:=told.map V.int) (zs:=wt.map V.int) H3 (fun σ=>∃v u:Option V,σ=[v,u,some (.ref a),some (.int r)])
    (fun i ys=>ys=((dB told (b.getD r 0) wt).take i).map V.int) (aD.of yU) (aD.of (e' _ _ Va)) hL ⟨none,none,rfl⟩ (ao.new hL) af rfl (by rw[List.length_map];omega) ?_ ?_ ?_⟩
   ·rintro j ys rfl
    rw[List.length_map,List.length_take];omega
   ·rintro j x z t2 σ H4 ys hx hz LI ⟨v,u,rfl⟩ oF qq rfl N M hN
    obtain⟨x,ka,rfl⟩:=int_at hx
    obtain⟨z,gw,rfl⟩:=int_at hz
    have jB:(dB told (b.getD r 0) wt)[j]? =some (x - b.getD r 0*z):=by unfold dB;rw[List.getElem?_zipWith,ka,gw]
    refine⟨t2,_,rfl,lN.of af,rfl,_,_,rfl,_,_,rfl,rfl,_,rfl,_,rfl,_,rfl,a,_,_, .int (b.getD r 0),rfl,rfl,aD.of (ao.new LI _ _ (oF _ _ (e' _ _ NI))),bE (by rw[List.getElem?_map,gb];rfl),_,rfl,_,_,rfl,rfl,xi (S.b b xo _ (List.mem_of_getElem? gb)) (S.w wt Iu z (List.mem_of_getElem? gw)),_,_,rfl,rfl,hN _ _ _ ⟨_,_,rfl⟩ (oF.trans (ao.new LI)) ?_ ?_⟩
    ·rw[aq (ah qq LI)];exact qq
    ·rw[ay jB,List.map_append];rfl
   ·rintro H4 ys oF qq rfl
    refine⟨L,some (.ref a),some (.ref a2),rfl,e'.trans oF,e'.free hL,?_⟩
    rw[qq,List.take_of_length_le (by unfold dB;rw[List.length_zipWith,List.length_map,List.length_map];exact Nat.le_refl _),ay IE,List.foldl_append,Vb]
    rfl
  ·rintro σ H3 ⟨l',v4,v5,rfl,e3,Z5,h3⟩
   rw[List.take_of_length_le (by rw[List.length_zip,List.length_map,List.length_map];omega)] at h3
   exact⟨_,rfl,k l' H3 Z5 e3 h3⟩
theorem qr:aI ["self","place","column","shares","row","fresh","scale"] ["self","place","column","shares","row"] (ag jh):=iC
theorem CM(D:fM K FC "bind" "Frame.bind" jh ["self","place","column","shares","row"])(T:Txt K mg KC FC)(c1:bM P w K mg base 1 "weigh" ["weights","column"] (mx K))(c2:dh P w K mg base 1 FC "weights_of_rest" ["self","row","many"] (vw FC))
  (c3:dh P w K mg base 1 FC "freed" ["self","weights","share","fresh","scale"] (vx FC)):dh P w K mg base 2 FC "bind" ["self","place","column","shares","row"] (z6 FC):=by
 obtain⟨_,_,bV⟩:=c1
 obtain⟨_,_,cu⟩:=c2
 obtain⟨_,_,gs⟩:=c3
 refine D.ic qr (fun vs H Q E h=>?_) (fun f bW A outer s H vs Q E hr h=>?_)
 ·obtain⟨X,q,dx,aP,aB,aW,cA,sA,st,n,c,place,r,rfl,_⟩:=h
  rfl
 ·obtain⟨X,q,dx,aP,aB,aW,cA,sA,st,n,c,place,r,rfl,FA,S,lt60,hc,Vc,hs,uh,k⟩:=h
  obtain⟨fs,hq,ff⟩:=FA.obj
  obtain⟨r1,_⟩:=rR uh
  have n2:=S.n
  have n3:=hc.len
  subst n3
  have big:(1001 :Nat)≤sizeLine:=by decide
  obtain⟨B1,B2,_⟩:=S.F.bind hc.len uh place
  have Z6:Sm c.length (bindL st place c (ax st c) r):=Sm.of B1 S.n (by show (st.bases++[c]).length≤60;simp;omega) (by show (st.places++[place]).length=(st.bases++[c]).length;simp;exact S.pl) fun b hb x hx=>by
   rcases List.mem_append.mp (show b∈st.bases++[c] from hb) with h|h
   ·exact S.b b h x hx
   ·have h:b=c:=by simpa using h
    rw[h] at hx;exact hc.fit x hx
  refine⟨_,(ak
     (aG (i:=5) qr.nd rfl (Or.inr rfl) (eO (pv 0) T.aZ cu.m cu.ok (hr.mono (by decide)) cu.b .nil aX (aa (pv 4) (aa (aA aS rfl T.eL da (aa (pv 2) ai)) ai))))
    (ak
     (dF (cg uP (aO bV.ok (hr.mono (by decide)) rfl bV.g bV.kp bV.b .nil aX (aa (pv 5) (aa (pv 2) ai))) az (cm _))
      (av
       (aG (i:=5) qr.nd rfl (Or.inr rfl) (bb (sc:=(ag jh)) (NX:=["self","place","column","shares","row","fresh","scale"]) (N:=["weight"]) (fr:=[none]) ⟨by rfl,by rfl,by decide+kernel,by decide+kernel,by decide+kernel,by rfl,by decide+kernel⟩ rfl rfl rfl (bh (pv 5)) (fun _ _ _ _=>(aw (i:=0) (show (["weight"]:List Str).Nodup by decide+kernel) rfl (Or.inl rfl) (Or.inr rfl))) (fun _ _ _ _=>aT) (fun _ _ _ _=>(yv tu (pv 0))))))
      bI)
    (ak
     (aG (i:=6) qr.nd rfl (Or.inr rfl) (aO bV.ok (hr.mono (by decide)) rfl bV.g bV.kp bV.b .nil aX (aa (pv 5) (aa (pv 2) ai))))
    (ak
     (dU (pv 0) (bb (sc:=(ag jh)) (NX:=["self","place","column","shares","row","fresh","scale"]) (N:=["weights","share","fresh","scale","self"]) (fr:=[none,none,some 5,some 6,some 0]) ⟨by rfl,by rfl,by decide+kernel,by decide+kernel,by decide+kernel,by rfl,by decide+kernel⟩ rfl rfl rfl (dy rfl T.fE (aa (cn (pv 0) rfl) (aa (pv 3) ai))) (fun _ _ _ _=>(cK K 2 rfl rfl (aL (aw (i:=0) (show (["weights","share","fresh","scale","self"]:List Str).Nodup by decide+kernel) rfl (Or.inl rfl) (Or.inr rfl)) (aL (aw (i:=1) (show (["weights","share","fresh","scale","self"]:List Str).Nodup by decide+kernel) rfl (Or.inl rfl) (Or.inr rfl)) bU)))) (fun _ _ _ _=>aT) (fun _ _ _ _=>(eO (pv 4) T.aZ gs.m gs.ok (hr.mono (by decide)) gs.b .nil aX (aa (pv 0) (aa (pv 1) (aa (pv 2) (aa (pv 3) ai))))))) rfl)
    (ak
     (cI (ip PySem.F.plainAttrs_list PySem.F.slot_list_append PySem.F.type_list_append bY (cn (pv 0) rfl) (aa (pv 5) ai)))
    (ak
     (cI (ip PySem.F.plainAttrs_list PySem.F.slot_list_append PySem.F.type_list_append bY (cn (pv 0) rfl) (aa (pv 1) ai)))
    (ak
     (cI (ip PySem.F.plainAttrs_list PySem.F.slot_list_append PySem.F.type_list_append bY (cn (pv 0) rfl) (aa (pv 2) ai)))
    (av
     (dU (pv 0) (pv 6) rfl))))))))),?_⟩
  refine⟨_,rfl,q,dx,fs,rfl,hq,ff.no _ (by decide+kernel) (by decide+kernel) (by decide+kernel) (by decide+kernel),_,rfl,_,rfl,cA,_,rfl, .inl (aD.of hc.at'),X,q,dx,aP,aB,aW,st,c.length,r,(by rw[List.length_map];rfl),FA,S,r1,fun fA H1 Z7 e1 h1=>?_⟩
  have x':∀x∈bL (a8 st r c.length) c,cP 4600 x:=Z6.w _ (List.mem_append_right _ (List.mem_singleton.mpr rfl))
  have f0':=z7 x'
  obtain⟨fl0,_⟩:=rQ S.F r1
  have fS:cP 4600 (dot (bL (a8 st r c.length) c) c):=Z6.s
  have W8:=cP.bz (by decide) f0'
  have NK:=cP.bz (by decide) hc.fit
  dsimp only [aV]
  refine mf (fun σ' H'=>∃oG:Addr,σ'=[some (.ref q),some (.int place),some (.ref cA),some (.ref sA),some (.int r),some (.ref oG),none]∧ao H H'∧H oG=none∧H' oG=some (.lst ((bL (a8 st r c.length) c).map V.int)))
   (fun N hN=>⟨_,rfl,_,rfl,fA,cA,a8 st r c.length,c,rfl,aD.of h1,aD.of (e1 _ _ hc.at'),by omega,W8,NK,fun H2 e2=>⟨_,_,rfl,rfl,_,rfl,gz (fun z=>?_) fun z=>?_⟩⟩) ?_
  ·have z:dot (a8 st r c.length) c<0:=by simpa using z
   have h2:=e2 _ _ h1
   refine⟨_,rfl,fA,rfl,⟨_,aD.of h2⟩,fun L hL=>cC (K:=K) (a:=fA) (L:=L) (xs:=(a8 st r c.length).map V.int) H2 (fun σ=>∃v:Option V,σ=[v]) (fun i ys=>ys=((a8 st r c.length).take i).map fun x=>V.int (-x))
    (aD.of h2) hL ⟨none,rfl⟩ (ao.new hL) af rfl (by rw[List.length_map];omega) ?_ ?_ ?_⟩
   ·rintro i ys rfl
    rw[List.length_map,List.length_take];omega
   ·rintro i x σ H3 ys hx ⟨v,rfl⟩ iF fi rfl N2 M2 xr
    obtain⟨x,ka,rfl⟩:=int_at hx
    refine⟨_,rfl,_,rfl,xr _ _ _ ⟨_,rfl⟩ iF fi ?_⟩
    rw[ay ka,List.map_append]
    rfl
   ·rintro H3 ys iF fi rfl
    refine hN _ _ ⟨L,rfl,(e1.trans e2).trans iF,(e1.trans e2).free hL,?_⟩
    rw[fi,List.length_map,List.take_length]
    unfold bL
    rw[if_pos z,List.map_map]
    rfl
  ·have z:¬dot (a8 st r c.length) c<0:=by simpa using z
   refine hN _ _ ⟨fA,rfl,e1.trans e2,Z7,?_⟩
   unfold bL
   rw[if_neg z]
   exact e2 _ _ h1
  rintro σ' H3 ⟨oG,rfl,e3,nf,h3⟩
  clear Z7 e1 h1 fA
  generalize FH:bL (a8 st r c.length) c=fr at*
  refine⟨_,rfl,_,rfl,oG,cA,fr,c,rfl,aD.of h3,aD.of (e3 _ _ hc.at'),by omega,cP.bz (by decide) x',NK,fun H4 e4=>?_⟩
  have FI:=e3.trans e4
  have h4:=e4 _ _ h3
  obtain⟨wA,hW,cW⟩:=FA.hW
  obtain⟨bA,hB,cB⟩:=FA.hB
  have lw:=cW.length
  have l1:=CC S
  have lsh:(ax st c).length=st.aH.length:=by unfold ax;rw[List.length_map]
  have q4:=FI _ _ hq
  dsimp only [aV]
  refine⟨_,rfl,q,FC,dx,fs,_,rfl,q4,T.aZ,T.dC,ff.w,_,rfl,aW,sA,rfl,⟨_,aD.of (FI _ _ hW)⟩,⟨_,aD.of (FI _ _ hs)⟩,fun L hL=>wC (K:=K) (a:=aW) (c:=sA) (L:=L) (xs:=wA.map V.ref) (zs:=(ax st c).map V.int) H4
   (fun σ=>∃v u:Option V,σ=[v,u,some (.ref oG),some (.int (dot fr c)),some (.ref q)]) (fun i ys H'=>∃nA:List Addr,ys=nA.map V.ref∧bX L H H' nA ((List.zipWith (fun w s=>cG st.scale (dot fr c) w s fr) st.aH (ax st c)).take i))
   (aD.of (FI _ _ hW)) (aD.of (FI _ _ hs)) ?_ hL ⟨none,none,rfl⟩ (ao.new hL) af ⟨[],rfl, .nil⟩ (by rw[List.length_map,List.length_map];have:=S.many;omega) ?_ ?_ ?_⟩
  ·rintro i ys Ha Hb e ⟨nA,rfl,h⟩
   exact⟨nA,rfl,h.but e⟩
  ·rintro i ys Ha ⟨nA,rfl,h⟩
   have:=h.length
   rw[List.length_take] at this
   rw[List.length_map];omega
  ·rintro i x z t σ H5 ys hx hz ht ⟨v,u,rfl⟩ qs qL ⟨nA,rfl,hn⟩ N M hN
   obtain⟨a,ha,rfl⟩:=b9 hx
   obtain⟨wt,NJ,Va,_⟩:=cW.get ha
   obtain⟨z,gw,rfl⟩:=int_at hz
   have Iu:=List.mem_of_getElem? NJ
   have jB:(List.zipWith (fun w s=>cG st.scale (dot fr c) w s fr) st.aH (ax st c))[i]? =some (cG st.scale (dot fr c) wt z fr):=by rw[List.getElem?_zipWith,NJ,gw]
   have e5:ao H (upd H5 t (.tup [.ref a, .int z])):=(FI.trans qs).trans (ao.new ht)
   have h5:(upd H5 t (.tup [.ref a, .int z])) oG=some (.lst (fr.map V.int)):=ao.new ht _ _ (qs _ _ h4)
   refine⟨t,_,rfl,lN.of af,rfl,_,_,rfl,_,_,rfl,rfl,_,rfl,q,dx,fs,rfl,e5 _ _ hq,ff.no _ (by decide+kernel) (by decide+kernel) (by decide+kernel) (by decide+kernel),_,rfl,_,rfl,_,rfl,_,rfl,X,q,dx,aP,aB,aW,a,oG,st,c.length,wt,fr,z,dot fr c,rfl,FA.same e5,S,e5 _ _ Va,h5,S.F.lw wt Iu,B2,fun x hx=>(S.w wt Iu x hx).mono (by decide),fun x hx=>(x' x hx).mono (by decide),(jz S hc.fit z (List.mem_of_getElem? gw)).mono (by decide),fS.mono (by decide),fun l H6 hl e6 h6=>?_⟩
   have mC:H6 L=_:=e6 _ _ (ao.new ht _ _ qL)
   refine hN _ _ _ ⟨_,_,rfl⟩ ((qs.trans (ao.new ht)).trans e6) mC ⟨nA++[l],by simp,?_⟩
   rw[ay jB]
   exact(hn.but (df.of ((ao.new ht).trans e6))).snoc h6 (Ne.symm (ah (ao.new ht _ _ qL) hl)) (e5.free hl)
  rintro H5 ys qs qL ⟨nA,rfl,hn⟩
  rw[List.take_of_length_le (by rw[List.length_zipWith,List.length_map,List.length_map];omega)] at hn
  have e5:=FI.trans qs
  have nL:H L=none:=FI.free hL
  have q5:=e5 _ _ hq
  have Z8:=hn.length
  rw[List.length_zipWith] at Z8
  have W9:q≠L:=ie q5 qL (by intro z;cases z)
  have Xa:q≠aP:=ie hq FA.hP (by intro z;cases z)
  have Xb:q≠aB:=ie hq hB (by intro z;cases z)
  have Xc:aP≠L:=ah FA.hP nL
  have Xd:aB≠L:=ah hB nL
  obtain⟨LO,_,_,FJ,FK,_,FL⟩:=FA.ne
  have P5:=e5 _ _ FA.hP
  have B5:=e5 _ _ hB
  have fL:=ff.len
  refine⟨_,rfl,q,FC,dx,_,rfl,q5,T.aZ,T.dC,by omega,?_⟩
  have fw:=ff.W5 L
  generalize aE "weights" (.ref L) fs=Ap at*
  have q6:(upd H5 q (.ins FC dx Ap)) q=some (.ins FC dx Ap):=af
  have L6:(upd H5 q (.ins FC dx Ap)) L=some (.lst (nA.map V.ref)):=by rw[aq (Ne.symm W9)];exact qL
  have P6:(upd H5 q (.ins FC dx Ap)) aP=_:=(aq (Ne.symm Xa)).trans P5
  have B6:(upd H5 q (.ins FC dx Ap)) aB=_:=(aq (Ne.symm Xb)).trans B5
  have k6:df q H5 (upd H5 q (.ins FC dx Ap)):=df.upd
  generalize upd H5 q (.ins FC dx Ap)=H6 at*
  refine⟨_,rfl,q,FC,dx,_,_,rfl,q6,T.aZ,T.dC,fw.w, .inl ⟨rfl,_,aD.of L6⟩,_,rfl,L,_,_,rfl,rfl,L6,by rw[List.length_map];omega,?_⟩
  have q7:(upd H6 L (.lst (nA.map V.ref++[.ref oG]))) q=_:=(aq W9).trans q6
  have L7:(upd H6 L (.lst (nA.map V.ref++[.ref oG]))) L=some (.lst ((nA++[oG]).map V.ref)):=by rw[af];simp
  have P7:(upd H6 L (.lst (nA.map V.ref++[.ref oG]))) aP=_:=(aq Xc).trans P6
  have B7:(upd H6 L (.lst (nA.map V.ref++[.ref oG]))) aB=_:=(aq Xd).trans B6
  have k7:df L H6 (upd H6 L (.lst (nA.map V.ref++[.ref oG]))):=df.upd
  generalize upd H6 L (.lst (nA.map V.ref++[.ref oG]))=H7 at*
  refine⟨_,rfl,q,FC,dx,_,_,rfl,q7,T.aZ,T.iZ,fw.p, .inl ⟨rfl,_,aD.of P7⟩,_,rfl,aP,_,_,rfl,rfl,P7,by rw[List.length_map];have:=S.pl;omega,?_⟩
  have q8:(upd H7 aP (.lst (st.places.map (fun p=>V.int (p:Nat))++[.int place]))) q=_:=(aq Xa).trans q7
  have L8:(upd H7 aP (.lst (st.places.map (fun p=>V.int (p:Nat))++[.int place]))) L=_:=(aq (Ne.symm Xc)).trans L7
  have P8:(upd H7 aP (.lst (st.places.map (fun p=>V.int (p:Nat))++[.int place]))) aP=some (.lst ((st.places++[place]).map fun p=>V.int (p:Nat))):=by rw[af];simp
  have B8:(upd H7 aP (.lst (st.places.map (fun p=>V.int (p:Nat))++[.int place]))) aB=_:=(aq (Ne.symm LO)).trans B7
  have k8:df aP H7 (upd H7 aP (.lst (st.places.map (fun p=>V.int (p:Nat))++[.int place]))):=df.upd
  generalize upd H7 aP (.lst (st.places.map (fun p=>V.int (p:Nat))++[.int place]))=H8 at*
  refine⟨_,rfl,q,FC,dx,_,_,rfl,q8,T.aZ,T.j8,fw.b, .inl ⟨rfl,_,aD.of B8⟩,_,rfl,aB,_,_,rfl,rfl,B8,by rw[List.length_map,cB.length];omega,?_⟩
  have q9:(upd H8 aB (.lst (bA.map V.ref++[.ref cA]))) q=_:=(aq Xb).trans q8
  have L9:(upd H8 aB (.lst (bA.map V.ref++[.ref cA]))) L=_:=(aq (Ne.symm Xd)).trans L8
  have P9:(upd H8 aB (.lst (bA.map V.ref++[.ref cA]))) aP=_:=(aq LO).trans P8
  have B9:(upd H8 aB (.lst (bA.map V.ref++[.ref cA]))) aB=some (.lst ((bA++[cA]).map V.ref)):=by rw[af];simp
  have k9:df aB H8 (upd H8 aB (.lst (bA.map V.ref++[.ref cA]))):=df.upd
  generalize upd H8 aB (.lst (bA.map V.ref++[.ref cA]))=H9 at*
  have fl2:=fw.len
  refine⟨_,rfl,_,rfl,q,FC,dx,_,rfl,q9,T.aZ,T.gH,by omega,?_⟩
  have NL:∀b o,H5 b=some o→b≠q→b≠L→b≠aP→b≠aB→(upd H9 q (.ins FC dx (aE "scale" (.int (dot fr c)) Ap))) b=some o:=fun b o h n1 n2 n3 n4=>by
   rw[aq n1];exact k9 _ _ (k8 _ _ (k7 _ _ (k6 _ _ h n1) n2) n3) n4
  have CN:∀{b:Addr},b∉aP::aB::X→b≠aP∧b≠aB:=fun h=>⟨fun z=>h (by simp [z]),fun z=>h (by simp [z])⟩
  have kl:∀b xs,H b=some (.lst xs)→b∉aP::aB::X→(upd H9 q (.ins FC dx (aE "scale" (.int (dot fr c)) Ap))) b=some (.lst xs):=fun b xs h hn=>
   NL b _ (e5 _ _ h) (Ne.symm (ie hq h (by intro z;cases z))) (ah h nL) (CN hn).1 (CN hn).2
  refine k L _ (fun b o h hn=>?_) ⟨⟨_,af,?_⟩,?_,⟨bA++[cA],?_,?_⟩,⟨nA++[oG],?_,?_⟩,⟨LO,Ne.symm Xc,Ne.symm Xd,FJ,FK,(fun z=>by obtain⟨o,ho⟩:=FA.has _ z;rw[nL] at ho;cases ho),FL⟩,fun b hb=>?_⟩
  ·simp only [List.mem_cons,List.not_mem_nil,or_false,not_or] at hn
   exact NL b o (e5 _ _ h) hn.1 (ah h nL) hn.2.1 hn.2.2
  ·show FF _ (dot (bL (a8 st r c.length) c) c) aP aB L
   rw[FH]
   exact fw.W6 _
  ·rw[aq (Ne.symm Xa)];exact P9
  ·rw[aq (Ne.symm Xb)];exact B9
  ·exact(cB.Fx kl).snoc (kl _ _ hc.at' Vc) Vc
  ·rw[aq (Ne.symm W9)];exact L9
  ·show aK (aP::aB::X) _ _ (List.zipWith (fun w s=>cG st.scale (dot (bL (a8 st r c.length) c) c) w s (bL (a8 st r c.length) c)) st.aH (ax st c)++[bL (a8 st r c.length) c])
   rw[FH]
   have NM:=qs _ _ h4
   have nfL:oG≠L:=ah h4 hL
   have nfq:oG≠q:=Ne.symm (ie q5 NM (by intro z;cases z))
   have Z9:oG≠aP:=fun z=>by rw[z,FA.hP] at nf;cases nf
   have Z':oG≠aB:=fun z=>by rw[z,hB] at nf;cases nf
   have nfX:oG∉X:=fun z=>by obtain⟨o,ho⟩:=FA.has _ z;rw[nf] at ho;cases ho
   refine(bX.toS (W:=aP::aB::X) (fun b hb=>?_) (fun b xs h n1 n2=>?_) hn).snoc (NL _ _ NM nfq nfL Z9 Z') (by simp [Z9,Z',nfX])
   ·simp only [List.mem_cons] at hb
    rcases hb with z|z|z
    ·rw[z];exact⟨_,FA.hP⟩
    ·rw[z];exact⟨_,hB⟩
    ·exact FA.has b z
   ·exact NL b _ h (Ne.symm (ie q5 h (by intro z;cases z))) n1 (CN n2).1 (CN n2).2
  ·obtain⟨o,ho⟩:=FA.has b hb
   exact⟨o,NL b o (e5 _ _ ho) (fun z=>FL (z▸hb)) (ah ho nL) (fun z=>FJ (z▸hb)) (fun z=>FK (z▸hb))⟩
theorem CO:aI ["self","free","bound","numbers","weights"] ["self","free","bound","numbers","weights"] (ag js):=iC
theorem Aq(D:rf K KC "Kernel.__init__" js ["self","free","bound","numbers","weights"] [])(T:Txt K mg KC FC):lC P w K mg base 1 KC ["self","free","bound","numbers","weights"] [] (vz KC):=by
 refine D.ic CO (fun vs H Q E h=>?_) (fun f bW A outer s H vs Q E hr h=>?_)
 ·obtain⟨q,dx,a1,a2,a3,a4,x1,x2,x3,x4,rfl,_⟩:=h
  rfl
 ·obtain⟨q,dx,a1,a2,a3,a4,x1,x2,x3,x4,rfl,hq,h1,h2,h3,h4,k⟩:=h
  refine⟨_,(ak
     (dU (pv 0) (cE bu rfl T.n_list dJ (aa (pv 1) ai)) rfl)
    (ak
     (dU (pv 0) (cE bu rfl T.n_list dJ (aa (pv 2) ai)) rfl)
    (ak
     (dU (pv 0) (cE bu rfl T.n_list dJ (aa (pv 3) ai)) rfl)
    (av
     (dU (pv 0) (cE bu rfl T.n_list dJ (aa (pv 4) ai)) rfl))))),?_⟩
  have n1:a1≠q:=ie h1 hq (by intro z;cases z)
  have n2:a2≠q:=ie h2 hq (by intro z;cases z)
  have n3:a3≠q:=ie h3 hq (by intro z;cases z)
  have n4:a4≠q:=ie h4 hq (by intro z;cases z)
  have len:∀(f:Str) (v:V) (fs:List (Str×V)) (n:Nat),fs.length≤n→(aE f v fs).length≤n+1:=fun f v fs n h=>Nat.le_trans (b6 f v fs) (by omega)
  refine⟨_,rfl,a1,_,rfl, .inl (aD.of h1),fun b1 kn=>⟨_,rfl,q,KC,dx,_,rfl,by rw[aq (ah hq kn)];exact hq,T.dP,T.CF,(by show 0<1000;decide),?_⟩⟩
  have m1:b1≠q:=Ne.symm (ah hq kn)
  have q1:(upd (upd H b1 (.lst x1)) q (.ins KC dx (aE "free" (.ref b1) []))) q=some (.ins KC dx (aE "free" (.ref b1) [])):=af
  have l1:(upd (upd H b1 (.lst x1)) q (.ins KC dx (aE "free" (.ref b1) []))) b1=some (.lst x1):=by rw[aq m1];exact af
  have e1:df q H (upd (upd H b1 (.lst x1)) q (.ins KC dx (aE "free" (.ref b1) []))):=(df.of (ao.new kn)).trans df.upd
  generalize upd (upd H b1 (.lst x1)) q (.ins KC dx (aE "free" (.ref b1) []))=H1 at*
  refine⟨_,rfl,a2,_,rfl, .inl (aD.of (e1 _ _ h2 n2)),fun b2 nh=>⟨_,rfl,q,KC,dx,_,rfl,by rw[aq (ah q1 nh)];exact q1,T.dP,T.r8,by have:=len "free" (.ref b1) [] 0 (by simp);omega,?_⟩⟩
  have m2:b2≠q:=Ne.symm (ah q1 nh)
  have q2:(upd (upd H1 b2 (.lst x2)) q (.ins KC dx (aE "bound" (.ref b2) (aE "free" (.ref b1) [])))) q=some (.ins KC dx (aE "bound" (.ref b2) (aE "free" (.ref b1) []))):=af
  have l2:(upd (upd H1 b2 (.lst x2)) q (.ins KC dx (aE "bound" (.ref b2) (aE "free" (.ref b1) [])))) b2=some (.lst x2):=by rw[aq m2];exact af
  have e2:df q H1 (upd (upd H1 b2 (.lst x2)) q (.ins KC dx (aE "bound" (.ref b2) (aE "free" (.ref b1) [])))):=(df.of (ao.new nh)).trans df.upd
  generalize upd (upd H1 b2 (.lst x2)) q (.ins KC dx (aE "bound" (.ref b2) (aE "free" (.ref b1) [])))=H2 at*
  have FN:=e1.trans e2
  refine⟨_,rfl,a3,_,rfl, .inl (aD.of (FN _ _ h3 n3)),fun b3 Vd=>⟨_,rfl,q,KC,dx,_,rfl,by rw[aq (ah q2 Vd)];exact q2,T.dP,T.ud,by have:=len "bound" (.ref b2) _ 1 (len "free" (.ref b1) [] 0 (by simp));omega,?_⟩⟩
  have m3:b3≠q:=Ne.symm (ah q2 Vd)
  have q3:(upd (upd H2 b3 (.lst x3)) q (.ins KC dx (aE "numbers" (.ref b3) (aE "bound" (.ref b2) (aE "free" (.ref b1) []))))) q=some (.ins KC dx (aE "numbers" (.ref b3) (aE "bound" (.ref b2) (aE "free" (.ref b1) [])))):=af
  have l3:(upd (upd H2 b3 (.lst x3)) q (.ins KC dx (aE "numbers" (.ref b3) (aE "bound" (.ref b2) (aE "free" (.ref b1) []))))) b3=some (.lst x3):=by rw[aq m3];exact af
  have e3:df q H2 (upd (upd H2 b3 (.lst x3)) q (.ins KC dx (aE "numbers" (.ref b3) (aE "bound" (.ref b2) (aE "free" (.ref b1) []))))):=(df.of (ao.new Vd)).trans df.upd
  generalize upd (upd H2 b3 (.lst x3)) q (.ins KC dx (aE "numbers" (.ref b3) (aE "bound" (.ref b2) (aE "free" (.ref b1) []))))=H3 at*
  have FO:=FN.trans e3
  refine⟨_,rfl,a4,_,rfl, .inl (aD.of (FO _ _ h4 n4)),fun b4 Ve=>⟨_,rfl,q,KC,dx,_,rfl,by rw[aq (ah q3 Ve)];exact q3,T.dP,T.sf,by have:=len "numbers" (.ref b3) _ 2 (len "bound" (.ref b2) _ 1 (len "free" (.ref b1) [] 0 (by simp)));omega,?_⟩⟩
  have m4:b4≠q:=Ne.symm (ah q3 Ve)
  have e4:df q H3 (upd (upd H3 b4 (.lst x4)) q (.ins KC dx (aE "weights" (.ref b4) (aE "numbers" (.ref b3) (aE "bound" (.ref b2) (aE "free" (.ref b1) [])))))):=(df.of (ao.new Ve)).trans df.upd
  have back:∀{Hx:Hp} {b:Addr},df q H Hx→b≠q→Hx b=none→H b=none:=fun {Hx b} e n h=>by
   cases z:H b with
   |none=>rfl
   |some o=>rw[e b o z n] at h;cases h
  refine k b1 b2 b3 b4 _ _ ⟨kn,back e1 m2 nh,back FN m3 Vd,back FO m4 Ve⟩ ⟨af,Nx.W4 b1 b2 b3 b4⟩ (e4 _ _ (e3 _ _ (e2 _ _ l1 m1) m1) m1) (e4 _ _ (e3 _ _ l2 m2) m2) (e4 _ _ l3 m3) (by rw[aq m4];exact af) fun b o h n=>(FO.trans e4) b o h n
theorem eG:aI ["columns","frame","free","numbers","place","column","shares","row"] ["columns"] (ag fQ):=iC
theorem xt(D:Def K mg "kernel" "kernel" fQ ["columns"])(T:Txt K mg KC FC)(c1:lC P w K mg base 1 FC ["self"] [] (vv FC))(c2:lC P w K mg base 1 KC ["self","free","bound","numbers","weights"] [] (vz KC))(c3:dh P w K mg base 2 FC "shares" ["self","column"] (rV FC))
  (c4:dh P w K mg base 2 FC "row_with_rest" ["self","column","shares"] (Fy FC)) (c5:dh P w K mg base 3 FC "levelling" ["self","place","shares","many"] (Fz FC)) (c6:dh P w K mg base 2 FC "bind" ["self","place","column","shares","row"] (z6 FC)):
  bM P w K mg base 4 "kernel" ["columns"] (rX KC):=by
 obtain⟨_,_,aZ⟩:=c1
 obtain⟨_,_,dP⟩:=c2
 obtain⟨_,_,fF⟩:=c3
 obtain⟨_,_,cH⟩:=c4
 obtain⟨_,_,dQ⟩:=c5
 obtain⟨_,_,g5⟩:=c6
 obtain⟨_,xu,xv⟩:=aZ.b 0 (by decide)
 obtain⟨_,ui,uk⟩:=dP.b 0 (by decide)
 refine D.ic eG (fun vs H Q E h=>?_) (fun f bW A outer s H vs Q E hr h=>?_)
 ·obtain⟨p,as,cs,n,rfl,_⟩:=h
  rfl
 ·obtain⟨p,as,cs,n,rfl,hp,fK,Xe,hn,hl,k⟩:=h
  have big:(1001 :Nat)≤sizeLine:=by decide
  have vC:=fK.length
  refine⟨_,(ak
     (aG (i:=1) eG.nd rfl (Or.inl rfl) (yE aZ.m aZ.ok (hr.mono (by decide)) rfl T.CG xv xu aX))
    (ak
     (aG (i:=2) eG.nd rfl (Or.inl rfl) (bq ai))
    (ak
     (aG (i:=3) eG.nd rfl (Or.inl rfl) (bq ai))
    (ak
     (cy PassesOwn.never rfl (B0 rfl T.si (aa (pv 0) ai)) (mL rfl (aL (aw (i:=4) eG.nd rfl (Or.inl rfl)) (aL (aw (i:=5) eG.nd rfl (Or.inl rfl)) bU)))
      (ak
       (aG (i:=6) eG.nd rfl (Or.inl rfl) (eO (pv 1) T.aZ fF.m fF.ok (hr.mono (by decide)) fF.b .nil aX (aa (pv 5) ai)))
      (ak
       (aG (i:=7) eG.nd rfl (Or.inl rfl) (eO (pv 1) T.aZ cH.m cH.ok (hr.mono (by decide)) cH.b .nil aX (aa (pv 5) (aa (pv 6) ai))))
      (av
       (dF (yh (yg (pv 7)))
        (ak
         (cI (ip PySem.F.plainAttrs_list PySem.F.slot_list_append PySem.F.type_list_append bY (pv 2) (aa (pv 4) ai)))
        (av
         (cI (ip PySem.F.plainAttrs_list PySem.F.slot_list_append PySem.F.type_list_append bY (pv 3) (aa (eO (pv 1) T.aZ dQ.m dQ.ok (hr.mono (by decide)) dQ.b .nil aX (aa (pv 4) (aa (pv 6) (aa (aA aS rfl T.eL da (aa (pv 0) ai)) ai)))) ai)))))
        (av
         (cI (eO (pv 1) T.aZ g5.m g5.ok (hr.mono (by decide)) g5.b .nil aX (aa (pv 4) (aa (pv 5) (aa (pv 6) (aa (pv 7) ai))))))))))))
    (av
     (aR (pJ dP.m dP.ok (hr.mono (by decide)) rfl T.Ag uk ui aX (aa (pv 2) (aa (cn (pv 1) rfl) (aa (pv 3) (aa (cn (pv 1) rfl) ai))))))))))),?_⟩
  refine fun q dx nq Xf Vf=>⟨q,dx,rfl,af,fun aP aB aW H1 hP1 hB1 FA1 kp1=>⟨rfl,?_⟩⟩
  have s1:ao H H1:=fun b o h=>kp1 b o (by rw[aq (ah h nq),aq (ah h Xf)];exact h) (ah h nq)
  refine⟨(by show 0≤sizeLine;omega),fun fr FH=>⟨(by show 0≤sizeLine;omega),fun nu LP=>?_⟩⟩
  have FA2:bx FC [nu,fr] (upd (upd H1 fr (.lst [])) nu (.lst [])) q dx aP aB aW ⟨1,[],[],[]⟩:=(FA1.more (o:= .lst []) FH (ao.new FH) af).more (o:= .lst []) LP (ao.new LP) af
  have f2:(upd (upd H1 fr (.lst [])) nu (.lst [])) fr=some (.lst []):=by rw[aq (ah af LP)];exact af
  have u2:(upd (upd H1 fr (.lst [])) nu (.lst [])) nu=some (.lst []):=af
  have nfu:fr≠nu:=ah af LP
  have s2:ao H (upd (upd H1 fr (.lst [])) nu (.lst [])):=(s1.trans (ao.new FH)).trans (ao.new LP)
  have nq0:H q=none:=nq
  have nP0:H aP=none:=by
   cases z:H aP with
   |none=>rfl
   |some o=>rw[aq (ah z nq),aq (ah z Xf),z] at hP1;cases hP1
  have nB0:H aB=none:=by
   cases z:H aB with
   |none=>rfl
   |some o=>rw[aq (ah z nq),aq (ah z Xf),z] at hB1;cases hB1
  have nf0:H fr=none:=s1.free FH
  have nu0:H nu=none:=(s1.trans (ao.new FH)).free LP
  generalize upd (upd H1 fr (.lst [])) nu (.lst [])=H2 at*
  have base:∀{b:Addr} {o:HO},H b=some o→b∉[q,aP,aB]∧b∉[fr,nu]:=fun {b o} h=>by
   have a1:=ah h nq0
   have a2:=ah h nP0
   have a3:=ah h nB0
   have a4:=ah h nf0
   have a5:=ah h nu0
   simp [a1,a2,a3,a4,a5]
  dsimp only [aV]
  refine⟨_,rfl,p,rfl,⟨_,aD.of (s2 _ _ hp)⟩,yW (K:=K) (a:=p) (xs:=as.map V.ref) (fun i σ H'=>∃(aW:Addr) (nA:List Addr) (v4 v5 v6 v7:Option V),σ=[some (.ref p),some (.ref q),some (.ref fr),some (.ref nu),v4,v5,v6,v7]∧ao H H'∧bx FC [nu,fr] H' q dx aP aB aW (dm cs.length (cs.take i)).st∧
    H' fr=some (.lst ((dm cs.length (cs.take i)).free.map fun p=>V.int (p:Nat)))∧H' nu=some (.lst (nA.map V.ref))∧aK [q,aP,aB,fr,nu] H' nA (dm cs.length (cs.take i)).ck∧∀a∈nA,H a=none)
   ⟨aW,[],none,none,none,none,rfl,s2,FA2,f2,u2, .nil,fun a h=>by cases h⟩ ?_ ?_ ?_⟩
  ·rintro i σ H' ⟨aW,nA,v4,v5,v6,v7,rfl,e,_⟩
   exact aD.of (e _ _ hp)
  ·rintro i x t σ H' hx ht ⟨aW,nA,v4,v5,v6,v7,rfl,e,FA,FP,um,FQ,nn⟩
   obtain⟨cA,hcA,rfl⟩:=b9 hx
   obtain⟨c,qf,pj,_⟩:=fK.get hcA
   have oz:=List.mem_of_getElem? qf
   obtain⟨lc,fc⟩:=Xe c oz
   have hi:i<cs.length:=(List.getElem?_eq_some_iff.mp qf).1
   have I:=z9 (n:=n) (many:=cs.length) (fun c h=>(Xe c h).1) i (by omega)
   have S:=I.sm hn (by omega) fun c h=>(Xe c h).2
   have stp:dm cs.length (cs.take (i+1))=j0 cs.length (dm cs.length (cs.take i)) i c:=by rw[ay qf,gE,List.length_take,Nat.min_eq_left (by omega)]
   generalize dm cs.length (cs.take i)=x at*
   have et:ao H' (upd H' t (.tup [.int i, .ref cA])):=ao.new ht
   refine⟨t,_,rfl,lN.of af,rfl,_,_,rfl,_,_,rfl,rfl,?_⟩
   replace FP:=et _ _ FP
   replace um:=et _ _ um
   replace FA:=FA.same et
   replace FQ:=FQ.same et
   replace e:=e.trans et
   generalize upd H' t (.tup [.int i, .ref cA])=H3 at*
   obtain⟨fs,hq,ff⟩:=FA.obj
   dsimp only [aV]
   refine⟨_,rfl,q,dx,fs,rfl,hq,ff.no _ (by decide+kernel) (by decide+kernel) (by decide+kernel) (by decide+kernel),_,rfl,[nu,fr],q,dx,aP,aB,aW,cA,x.st,n,c,rfl,FA,S,⟨e _ _ pj,lc,fc⟩,fun sA H4 oF e4 h4=>?_⟩
   have Xg:=FA.same e4
   refine⟨_,rfl,q,dx,fs,rfl,e4 _ _ hq,ff.no _ (by decide+kernel) (by decide+kernel) (by decide+kernel) (by decide+kernel),_,rfl,_,rfl,[nu,fr],q,dx,aP,aB,aW,cA,sA,x.st,n,c,rfl,Xg,S,⟨(e.trans e4) _ _ pj,lc,fc⟩,h4,fun H5 e5=>⟨fun r uh=>?_,fun uh=>?_⟩⟩
   ·
    have Xh:=Xg.same e5
    have s5:=e5 _ _ h4
    have x9:=e4.trans e5
    have Vc:cA∉aP::aB::[nu,fr]:=fun z=>by
     have b:=base pj
     simp only [List.mem_cons,List.not_mem_nil,or_false,not_or] at b z
     rcases z with z|z|z|z
     ·exact b.1.2.1 z
     ·exact b.1.2.2 z
     ·exact b.2.2 z
     ·exact b.2.1 z
    refine⟨_,rfl,_,rfl,Wx (by intro z;cases z) ⟨_,rfl,q,dx,fs,rfl,x9 _ _ hq,ff.no _ (by decide+kernel) (by decide+kernel) (by decide+kernel) (by decide+kernel),_,rfl,_,rfl,_,rfl,_,rfl,[nu,fr],q,dx,aP,aB,aW,cA,sA,x.st,n,c,i,r,rfl,Xh,S,by have:=I.bz;omega,⟨(e.trans x9) _ _ pj,lc,fc⟩,Vc,s5,uh,fun LN H6 k6 IF=>?_⟩⟩
    obtain⟨_,_,_,FJ,FK,_,FL⟩:=FA.ne
    simp only [List.mem_cons,List.not_mem_nil,or_false,not_or] at FJ FK FL
    have sx:dm cs.length (cs.take (i+1))={ x with st:=bindL x.st i c (ax x.st c) r }:=by
     rw[stp];unfold j0;rw[uh]
    have kf:H6 fr=_:=k6 _ _ (x9 _ _ FP) (by simp [Ne.symm FL.2,Ne.symm FJ.2,Ne.symm FK.2])
    have ku:H6 nu=_:=k6 _ _ (x9 _ _ um) (by simp [Ne.symm FL.1,Ne.symm FJ.1,Ne.symm FK.1])
    refine⟨LN,nA,_,_,_,_,rfl,fun b o h=>k6 _ _ (x9 _ _ (e _ _ h)) (base h).1,by rw[sx];exact IF,by rw[sx];exact kf,ku,by rw[sx];exact(FQ.same x9).keep fun b o h hb=>k6 _ _ h fun z=>hb (by simp only [List.mem_cons,List.not_mem_nil,or_false] at z ⊢;rcases z with z|z|z<;>simp [z]),nn⟩
   ·
    have Xh:=Xg.same e5
    have s5:=e5 _ _ h4
    have x9:=e4.trans e5
    have f5:=x9 _ _ FP
    have u5:=x9 _ _ um
    have n5:=FQ.same x9
    have q5:=x9 _ _ hq
    have eH5:=e.trans x9
    have lf:=I.nf
    have lnn:=I.nn
    have Z8:=FQ.length
    refine⟨_,rfl,_,rfl,Ww rfl ⟨_,rfl, .inl ⟨rfl,_,aD.of f5⟩,_,rfl,fr,_,_,rfl,rfl,f5,by rw[List.length_map];omega,?_⟩⟩
    have nfs:sA≠fr:=fun z=>by rw[z] at oF;rw[FP] at oF;cases oF
    obtain⟨_,_,_,FJ,FK,_,FL⟩:=FA.ne
    simp only [List.mem_cons,List.not_mem_nil,or_false,not_or] at FJ FK FL
    have IF:bx FC [nu,fr] (upd H5 fr (.lst (x.free.map (fun p=>V.int (p:Nat))++[.int i]))) q dx aP aB aW x.st:=Xh.but (b:=fr) (by simp) df.upd af
    have f6:(upd H5 fr (.lst (x.free.map (fun p=>V.int (p:Nat))++[.int i]))) fr=some (.lst ((x.free++[i]).map fun p=>V.int (p:Nat))):=by rw[af];simp
    have u6:(upd H5 fr (.lst (x.free.map (fun p=>V.int (p:Nat))++[.int i]))) nu=_:=(aq (Ne.symm nfu)).trans u5
    have n6:aK [q,aP,aB,fr,nu] (upd H5 fr (.lst (x.free.map (fun p=>V.int (p:Nat))++[.int i]))) nA x.ck:=n5.keep fun b o h hb=>by rw[aq (fun z=>hb (by simp [z]))];exact h
    have s6:(upd H5 fr (.lst (x.free.map (fun p=>V.int (p:Nat))++[.int i]))) sA=_:=(aq nfs).trans s5
    have Xi:ao H (upd H5 fr (.lst (x.free.map (fun p=>V.int (p:Nat))++[.int i]))):=fun b o h=>by rw[aq (ah h nf0)];exact eH5 _ _ h
    generalize upd H5 fr (.lst (x.free.map (fun p=>V.int (p:Nat))++[.int i]))=H6 at*
    obtain⟨fs6,q6,ff6⟩:=IF.obj
    refine⟨_,rfl, .inl ⟨rfl,_,aD.of u6⟩,_,rfl,q,dx,fs6,rfl,q6,ff6.no _ (by decide+kernel) (by decide+kernel) (by decide+kernel) (by decide+kernel),_,rfl,_,rfl,_,rfl,p,_,rfl, .inl (aD.of (Xi _ _ hp)),[nu,fr],q,dx,aP,aB,aW,sA,x.st,n,c,i,cs.length,(by rw[List.length_map,vC];rfl),IF,S,fc,s6,hi,by omega,fun p hp=>Nat.lt_trans (I.qK p hp) hi,fun l H7 hl e7 h7=>?_⟩
    have u7:=e7 _ _ u6
    refine⟨nu,_,_,rfl,rfl,u7,by rw[List.length_map];omega,?_⟩
    have sx:dm cs.length (cs.take (i+1))={ x with free:=x.free++[i],ck:=x.ck++[low (cV x.st i (ax x.st c) cs.length)] }:=by
     rw[stp];unfold j0;rw[uh]
    have nlu:l≠nu:=fun z=>by rw[z,u6] at hl;cases hl
    have lW:l∉[q,aP,aB,fr,nu]:=fun z=>by
     obtain⟨bA6,hB6,_⟩:=IF.hB
     simp only [List.mem_cons,List.not_mem_nil,or_false] at z
     rcases z with z|z|z|z|z
     ·rw[z,q6] at hl;cases hl
     ·rw[z,IF.hP] at hl;cases hl
     ·rw[z,hB6] at hl;cases hl
     ·rw[z,f6] at hl;cases hl
     ·exact nlu z
    have up:∀b o,H7 b=some o→b≠nu→(upd H7 nu (.lst (nA.map V.ref++[.ref l]))) b=some o:=fun b o h n=>by rw[aq n];exact h
    refine⟨aW,nA++[l],_,_,_,_,rfl,fun b o h=>up _ _ (e7 _ _ (Xi _ _ h)) (ah h nu0),by rw[sx];exact(IF.same e7).but (b:=nu) (by simp) df.upd af,by rw[sx];exact up _ _ (e7 _ _ f6) nfu,by rw[af];simp,?_,fun a ha=>?_⟩
    ·rw[sx]
     exact((n6.same e7).keep fun b o h hb=>up _ _ h fun z=>hb (by simp [z])).snoc (up _ _ h7 nlu) lW
    ·rcases List.mem_append.mp ha with z|z
     ·exact nn a z
     ·have z:a=l:=by simpa using z
      rw[z];exact Xi.free hl
  ·rintro σ H' ⟨aW,nA,v4,v5,v6,v7,rfl,e,FA,FP,um,FQ,nn⟩
   rw[List.length_map,vC,List.take_length] at FA FP FQ
   obtain⟨fs,hq,ff⟩:=FA.obj
   obtain⟨wA,hW,cW⟩:=FA.hW
   refine⟨_,rfl,_,rfl,q,FC,dx,fs,_,rfl,hq,T.aZ,T.iZ,ff.p,_,rfl,_,rfl,q,FC,dx,fs,_,rfl,hq,T.aZ,T.dC,ff.w,fun kq dk nk ndk nek=>?_⟩
   have sk:ao H' (upd (upd H' dk (.own kq)) kq (.ins KC dk [])):=fun b o h=>by rw[aq (ah h nk),aq (ah h ndk)];exact h
   refine⟨kq,dk,fr,aP,nu,aW,_,_,_,_,rfl,af,sk _ _ FP,sk _ _ FA.hP,sk _ _ um,sk _ _ hW,fun b1 b2 b3 b4 Ap H2 ⟨m1,m2,m3,m4⟩ ⟨hk,kfl⟩ l1 l2 l3 l4 kp=>⟨rfl,?_⟩⟩
   have Xj:ao H' H2:=fun b o h=>kp _ _ (sk _ _ h) (ah h nk)
   have bk:∀{b:Addr},(upd (upd H' dk (.own kq)) kq (.ins KC dk [])) b=none→H b=none:=fun h=>(e.trans sk).free h
   have toN:∀{as:List Addr} {ds:List (List Int)},(∀a∈as,H a=none)→aK [q,aP,aB,fr,nu] H' as ds→bX kq H H2 as ds:=fun {as ds} hn h=>by
    induction h with
    |nil=>exact .nil
    |cons hd _ ih=>exact .cons ⟨Xj _ _ hd.1,ah hd.1 nk,hn _ (List.mem_cons_self ..)⟩ (ih fun a ha=>hn a (List.mem_cons_of_mem _ ha))
   exact k kq H2 (e.trans Xj) ⟨dk,Ap,b1,b2,b3,b4,hk,kfl,⟨e.free nk,bk m1,bk m2,bk m3,bk m4⟩,l1,l2,⟨nA,l3,toN nn FQ⟩,wA,l4,(cW.perm (by simp)).same Xj⟩
theorem sj{k:Int}:∀(ns:List Int) (c:Int),k ∣ c→(∀n∈ns,k ∣ n)→k ∣ ns.foldl (fun c n=>((Int.gcd c n:Nat):Int)) c
 | [],c,hc,_=>hc
 |z::r,c,hc,h=>sj r _ (Int.dvd_coe_gcd hc (h z (List.mem_cons_self ..))) fun n hn=>h n (List.mem_cons_of_mem _ hn)
theorem CP{ns:List Int}(h:cw ns≠0):cw (low ns)=1:=by
 have h0:=iI (low ns)
 have hd:cw (low ns)*cw ns ∣ cw ns:=by
  refine sj ns 0 (Int.dvd_zero _) fun n hn=>?_
  rw[←pb ns h] at hn
  obtain⟨m,hm,rfl⟩:=List.mem_map.mp hn
  exact Int.mul_dvd_mul_right _ (iH hm)
 obtain⟨k,hk⟩:=hd
 have:cw (low ns)*k=1:=by
  have e:cw ns*(cw (low ns)*k)=cw ns*1:=by rw[Int.mul_one,←Int.mul_assoc,Int.mul_comm (cw ns)];exact hk.symm
  exact Int.eq_of_mul_eq_mul_left h e
 exact Int.eq_one_of_mul_eq_one_right h0 this
theorem qt{n:Nat}{cs:List (List Int)}(hn:n≤1000)(hl:cs.length≤60)(hc:∀c∈cs,c.length=n∧∀x∈c,cP 70 x):Good cs n (dm cs.length cs):=by
 have Ni:∀c∈cs,c.length=n:=fun c h=>(hc c h).1
 have key:∀i,i≤cs.length→(dm cs.length (cs.take i)).st.places.Pairwise (· < ·)∧(dm cs.length (cs.take i)).free.Pairwise (· < ·)∧∀t∈(dm cs.length (cs.take i)).ck,cw t=1:=by
  intro i
  induction i with
  |zero=>intro _;exact⟨.nil, .nil,fun t h=>by simp [dm] at h⟩
  |succ i ih=>
   intro hi
   obtain⟨h1,h2,h3⟩:=ih (by omega)
   obtain⟨F,pl,t⟩:=qe Ni i (by omega)
   have qf:=List.getElem?_eq_getElem (l:=cs) (i:=i) (by omega)
   rw[ay qf,gE,List.length_take,Nat.min_eq_left (by omega)]
   generalize dm cs.length (cs.take i)=x at*
   generalize cs[i]=c at*
   unfold j0
   split
   ·refine⟨h1,?_,fun u hu=>?_⟩
    ·rw[List.pairwise_append]
     refine⟨h2,by simp,fun a ha b hb=>?_⟩
     have hb:b=i:=by simpa using hb
     rw[hb];exact(t.sR a ha).1
    ·rcases List.mem_append.mp hu with z|z
     ·exact h3 u z
     ·have z:u=low (cV x.st i (ax x.st c) cs.length):=by simpa using z
      rw[z]
      refine CP fun g=>?_
      have LM:i∉x.st.places:=fun z=>Nat.lt_irrefl _ (t.qK i z)
      have ri:(cV x.st i (ax x.st c) cs.length).getD i 0=x.st.scale:=by
       unfold cV;rw[gU _ _ _ LM,lI (by simp;omega)]
      have Nw:(cV x.st i (ax x.st c) cs.length).length=cs.length:=by unfold cV;rw[nH];simp
      have hm:x.st.scale∈cV x.st i (ax x.st c) cs.length:=by
       rw[←ri];exact List.mem_of_getElem? (getD_at (by omega))
      have:=iH hm
      rw[g] at this
      have:=Int.zero_dvd.mp this
      obtain⟨R,G⟩:=F.fr
      have:=G.pos
      omega
   ·rename_i r hr
    refine⟨?_,h2,h3⟩
    show (x.st.places++[i]).Pairwise (· < ·)
    rw[List.pairwise_append]
    refine⟨h1,by simp,fun a ha b hb=>?_⟩
    have hb:b=i:=by simpa using hb
    rw[hb];exact t.qK a ha
 have k:=key cs.length (Nat.le_refl _)
 have tk:=qe Ni cs.length (Nat.le_refl _)
 have nf:=lJ (many:=cs.length) hn hl hc cs.length (Nat.le_refl _)
 have sm:=(z9 (n:=n) (many:=cs.length) Ni cs.length (Nat.le_refl _)).sm hn hl fun c h=>(hc c h).2
 have cf:=(z9 (n:=n) (many:=cs.length) Ni cs.length (Nat.le_refl _)).nf
 rw[List.take_length] at k tk nf sm cf
 exact⟨tk.1,tk.2.1,tk.2.2,k.1,k.2.1,k.2.2,nf,sm.w,cf⟩
theorem rep0(n:Nat):(List.replicate n [V.int 0]).flatten=(List.replicate n (0 :Int)).map V.int:=by
 induction n with
 |zero=>rfl
 |succ n ih=>rw[List.replicate_succ,List.flatten_cons,ih,List.replicate_succ];rfl
theorem g6{W:List Addr}{H:Hp}{as:List Addr}{cs:List (List Int)}(h:aK W H as cs):∀(ps:List Nat),(∀i∈ps,i<as.length)→aK W H (ps.map fun i=>as.getD i 0) (qi cs ps)
 | [],_=> .nil
 |i::ps,hp=>by
  have hi:=hp i (List.mem_cons_self ..)
  obtain⟨c,hc,hs⟩:=h.get (List.getElem?_eq_getElem hi)
  refine .cons ?_ (g6 h ps fun j hj=>hp j (List.mem_cons_of_mem _ hj))
  show H (as.getD i 0)=some (.lst ((cs.getD i []).map V.int))∧as.getD i 0∉W
  rw[List.getD_eq_getElem?_getD,List.getD_eq_getElem?_getD,hc,List.getElem?_eq_getElem hi]
  exact hs
theorem CQ:aI ["self","numbers","gathered","first"] ["self","numbers","gathered","first"] (ag ju):=iC
theorem As(D:rf K TC "Trial.__init__" ju ["self","numbers","gathered","first"] [])(T:gY K mg KC FC TC):lC P w K mg base 1 TC ["self","numbers","gathered","first"] [] (ql TC):=by
 refine D.ic CQ (fun vs H Q E h=>?_) (fun f bW A outer s H vs Q E hr h=>?_)
 ·obtain⟨q,dx,a1,a2,x1,x2,i,rfl,_⟩:=h
  rfl
 ·obtain⟨q,dx,a1,a2,x1,x2,i,rfl,hq,h1,h2,k⟩:=h
  refine⟨_,(ak
     (dU (pv 0) (cE bu rfl T.n_list dJ (aa (pv 1) ai)) rfl)
    (ak
     (dU (pv 0) (cE bu rfl T.n_list dJ (aa (pv 2) ai)) rfl)
    (av
     (dU (pv 0) (pv 3) rfl)))),?_⟩
  have n2:a2≠q:=ie h2 hq (by intro z;cases z)
  have len:∀(f:Str) (v:V) (fs:List (Str×V)) (n:Nat),fs.length≤n→(aE f v fs).length≤n+1:=fun f v fs n h=>Nat.le_trans (b6 f v fs) (by omega)
  refine⟨_,rfl,a1,_,rfl, .inl (aD.of h1),fun b1 kn=>⟨_,rfl,q,TC,dx,_,rfl,by rw[aq (ah hq kn)];exact hq,T.bF,T.Ai,(by show 0<1000;decide),?_⟩⟩
  have m1:b1≠q:=Ne.symm (ah hq kn)
  have q1:(upd (upd H b1 (.lst x1)) q (.ins TC dx (aE "numbers" (.ref b1) []))) q=some (.ins TC dx (aE "numbers" (.ref b1) [])):=af
  have l1:(upd (upd H b1 (.lst x1)) q (.ins TC dx (aE "numbers" (.ref b1) []))) b1=some (.lst x1):=by rw[aq m1];exact af
  have e1:df q H (upd (upd H b1 (.lst x1)) q (.ins TC dx (aE "numbers" (.ref b1) []))):=(df.of (ao.new kn)).trans df.upd
  generalize upd (upd H b1 (.lst x1)) q (.ins TC dx (aE "numbers" (.ref b1) []))=H1 at*
  refine⟨_,rfl,a2,_,rfl, .inl (aD.of (e1 _ _ h2 n2)),fun b2 nh=>⟨_,rfl,q,TC,dx,_,rfl,by rw[aq (ah q1 nh)];exact q1,T.bF,T.Aj,by have:=len "numbers" (.ref b1) [] 0 (by simp);omega,?_⟩⟩
  have m2:b2≠q:=Ne.symm (ah q1 nh)
  have n12:b1≠b2:=ah l1 nh
  have CS:H b2=none:=by
   cases z:H b2 with
   |none=>rfl
   |some o=>rw[e1 _ _ z m2] at nh;cases nh
  have q2:(upd (upd H1 b2 (.lst x2)) q (.ins TC dx (aE "gathered" (.ref b2) (aE "numbers" (.ref b1) [])))) q=some (.ins TC dx (aE "gathered" (.ref b2) (aE "numbers" (.ref b1) []))):=af
  have l2:(upd (upd H1 b2 (.lst x2)) q (.ins TC dx (aE "gathered" (.ref b2) (aE "numbers" (.ref b1) [])))) b2=some (.lst x2):=by rw[aq m2];exact af
  have l21:(upd (upd H1 b2 (.lst x2)) q (.ins TC dx (aE "gathered" (.ref b2) (aE "numbers" (.ref b1) [])))) b1=some (.lst x1):=by rw[aq m1,aq n12];exact l1
  have e2:df q H (upd (upd H1 b2 (.lst x2)) q (.ins TC dx (aE "gathered" (.ref b2) (aE "numbers" (.ref b1) [])))):=(e1.trans (df.of (ao.new nh))).trans df.upd
  generalize upd (upd H1 b2 (.lst x2)) q (.ins TC dx (aE "gathered" (.ref b2) (aE "numbers" (.ref b1) [])))=H2 at*
  refine⟨_,rfl,_,rfl,q,TC,dx,_,rfl,q2,T.bF,T.FE,?_,?_⟩
  ·have:=len "gathered" (.ref b2) (aE "numbers" (.ref b1) []) 1 (len "numbers" (.ref b1) [] 0 (by simp))
   omega
  ·exact k b1 b2 _ _ kn CS af (NA.mk3 b1 b2 i) (by rw[aq m1];exact l21) (by rw[aq m2];exact l2) fun b o z w=>by rw[aq w];exact e2 b o z w
theorem xw:aI ["self"] ["self"] (ag eh):=iC
theorem uo(D:fM K TC "is_level" "Trial.is_level" eh ["self"])(T:gY K mg KC FC TC):dh P w K mg base 1 TC "is_level" ["self"] (ph TC):=by
 refine D.ic xw (fun vs H Q E h=>?_) (fun f bW A outer s H vs Q E hr h=>?_)
 ·obtain⟨t,bz,wd,x,rfl,_⟩:=h
  rfl
 ·obtain⟨t,bz,wd,x,rfl,⟨dx,fs,a,b,h1,h2,h3,h4,_⟩,q⟩:=h
  refine⟨_,(av
     (aR (tf (aA (oX rfl) rfl T.nQ mY (aa (cn (pv 0) rfl) ai))))),?_⟩
  exact⟨_,rfl,t,TC,dx,fs,_,rfl,h1,T.bF,T.Aj,h2.g,b,_,rfl,aD.of h4,_,rfl,q⟩
theorem IG:aI ["small","great"] ["small","great"] (ag jW):=iC
theorem CT(D:Def K mg "fits" "fits" jW ["small","great"])(T:gY K mg KC FC TC):bM P w K mg base 1 "fits" ["small","great"] qo:=by
 refine D.ic IG (fun vs H Q E h=>?_) (fun f bW A outer s H vs Q E hr h=>?_)
 ·obtain⟨p,r,xs,ys,rfl,_⟩:=h
  rfl
 ·obtain⟨p,r,xs,ys,rfl,hp,hX,lx,q⟩:=h
  have big:(1001 :Nat)≤sizeLine:=by decide
  refine⟨_,(av
     (aR (aA (rz rfl) rfl T.FD y' (aa (bb (sc:=(ag jW)) (NX:=["small","great"]) (N:=["one","other"]) (fr:=[none,none]) ⟨by rfl,by rfl,by decide+kernel,by decide+kernel,by decide+kernel,by rfl,by decide+kernel⟩ rfl rfl rfl (dy rfl T.fE (aa (pv 0) (aa (pv 1) ai))) (fun _ _ _ _=>(cK K 2 rfl rfl (aL (aw (i:=0) (show (["one","other"]:List Str).Nodup by decide+kernel) rfl (Or.inl rfl) (Or.inr rfl)) (aL (aw (i:=1) (show (["one","other"]:List Str).Nodup by decide+kernel) rfl (Or.inl rfl) (Or.inr rfl)) bU)))) (fun _ _ _ _=>aT) (fun _ _ _ _=>(md yx (pv 0) (pv 1) (cm _)))) ai)))),?_⟩
  refine⟨_,rfl,_,rfl,p,r,rfl,⟨_,aD.of hp⟩,⟨_,aD.of hX⟩,fun L hL=>di (K:=K) (a:=p) (c:=r) (L:=L) (xs:=xs.map V.int) (zs:=ys.map V.int) H (fun σ=>∃v u:Option V,σ=[v,u]) (fun i us=>us=(((xs.zip ys).take i).map fun ab=>decide (ab.1≤ab.2)).map V.bl∧i≤(xs.zip ys).length)
   (aD.of hp) (aD.of hX) hL ⟨none,none,rfl⟩ (ao.new hL) af ⟨rfl,Nat.zero_le _⟩ (by rw[List.length_map];omega) ?_ ?_ ?_⟩
  ·rintro i us ⟨rfl,_⟩
   rw[List.length_map,List.length_map,List.length_take]
   omega
  ·rintro i x z t σ H2 us hx hz ht ⟨v,u,rfl⟩ hs de ⟨rfl,hi⟩ N M hN
   obtain⟨x,ka,rfl⟩:=int_at hx
   obtain⟨z,gw,rfl⟩:=int_at hz
   have jB:(xs.zip ys)[i]? =some (x,z):=by rw[List.getElem?_zip_eq_some];exact⟨ka,gw⟩
   have gK:i+1≤(xs.zip ys).length:=(List.getElem?_eq_some_iff.mp jB).1
   have fi:(upd H2 t (.tup [V.int x,V.int z])) L=_:=ao.new ht _ _ de
   refine⟨t,_,rfl,lN.of af,rfl,_,_,rfl,_,_,rfl,rfl,_,rfl,_,rfl,_,_,rfl,rfl,hN _ _ _ ⟨_,_,rfl⟩ (hs.trans (ao.new ht)) fi ⟨?_,gK⟩⟩
   rw[ay jB,List.map_append,List.map_append]
   rfl
  ·rintro H2 us hs de ⟨rfl,_⟩
   have e:(xs.zip ys).take (min (xs.map V.int).length (ys.map V.int).length)=xs.zip ys:=List.take_of_length_le (by rw[List.length_zip,List.length_map,List.length_map];exact Nat.le_refl _)
   rw[e] at de
   refine⟨L,_,rfl,aD.of de,?_⟩
   have:=q _ hs
   rw[List.all_map]
   exact this
theorem Au:∀(v y:List Int) (p:Nat),p<v.length→v.length=y.length→dot (jA v p) y=dot v y+y.getD p 0
 |a::v,b::y,0,_,_=>by
  show (a+1)*b+dot v y=a*b+dot v y+b
  rw[Int.add_mul,Int.one_mul]
  omega
 |a::v,b::y,p+1,h,hl=>by
  have ih:=Au v y p (by simpa using h) (by simpa using hl)
  show a*b+dot (jA v p) y=a*b+dot v y+y.getD p 0
  rw[ih]
  omega
 | [],_,_,h,_=>by simp at h
 |_::_,[],_,_,h=>by simp at h
theorem CU{bz:List (List Int)}{wd p:Nat}{v col:List Int}(hv:v.length=bz.length)(hc:bz[p]? =some col)(hl:col.length=wd):dY (jA v p) bz wd=((dY v bz wd).zip col).map fun ab=>ab.1+ab.2:=by
 have hp:p<bz.length:=(List.getElem?_eq_some_iff.mp hc).1
 apply List.ext_getElem?
 intro r
 by_cases hr:r<wd
 ·have e1:(dY (jA v p) bz wd)[r]? =some (dot (jA v p) (row bz r)):=by unfold dY;rw[List.getElem?_map,List.getElem?_range hr];rfl
  have e2:(dY v bz wd)[r]? =some (dot v (row bz r)):=by unfold dY;rw[List.getElem?_map,List.getElem?_range hr];rfl
  have e3:col[r]? =some (col.getD r 0):=by rw[List.getD_eq_getElem?_getD,List.getElem?_eq_getElem (by omega)];rfl
  have e4:(((dY v bz wd).zip col)[r]?)=some (dot v (row bz r),col.getD r 0):=by rw[List.getElem?_zip_eq_some];exact⟨e2,e3⟩
  have e5:bz.getD p []=col:=by rw[List.getD_eq_getElem?_getD,hc];rfl
  rw[e1,List.getElem?_map,e4,Au v (row bz r) p (by omega) (by rw[fh];exact hv),gF hp,e5]
  rfl
 ·rw[List.getElem?_eq_none (by unfold dY;simp;omega),List.getElem?_eq_none (by rw[List.length_map,List.length_zip];omega)]
theorem sq:aI ["self","place","column","numbers"] ["self","place","column"] (ag eX):=iC
theorem xx(D:fM K TC "raised" "Trial.raised" eX ["self","place","column"])(T:gY K mg KC FC TC)(c1:lC P w K mg base 1 TC ["self","numbers","gathered","first"] [] (ql TC)):dh P w K mg base 3 TC "raised" ["self","place","column"] (rY TC):=by
 obtain⟨_,_,bF⟩:=c1
 obtain⟨_,kX,kY⟩:=bF.b 0 (by decide)
 refine D.ic sq (fun vs H Q E h=>?_) (fun f bW A outer s H vs Q E hr h=>?_)
 ·obtain⟨t,c,p,col,bz,wd,x,rfl,_⟩:=h
  rfl
 ·obtain⟨t,c,p,col,bz,wd,x,rfl,⟨dx,fs,a,b,h1,h2,h3,h4,_⟩,hc,hfc,lc,lx,lf,lw,q⟩:=h
  have big:(1001 :Nat)≤sizeLine:=by decide
  have hp:p<bz.length:=(List.getElem?_eq_some_iff.mp hfc).1
  have hpx:p<x.1.length:=by omega
  have lg:(dY x.1 bz wd).length=wd:=by unfold dY;simp
  have gx:(x.1.map V.int)[p]? =some (V.int (x.1.getD p 0)):=by
   rw[List.getElem?_map,List.getD_eq_getElem?_getD,List.getElem?_eq_getElem hpx]
   rfl
  have Xk:qW (x.1.map V.int).length (p:Int)=some p:=by
   rw[List.length_map]
   unfold qW
   rw[if_pos (by omega),if_pos (by omega)]
   rfl
  refine⟨_,(ak
     (aG (i:=3) sq.nd rfl (Or.inl rfl) (cE bu rfl T.n_list dJ (aa (cn (pv 0) rfl) ai)))
    (ak
     (By (pv 3) (pv 1) za az G1 set_list)
    (av
     (aR (pJ bF.m bF.ok (hr.mono (by decide)) rfl T.vA kY kX aX (aa (pv 3) (aa (bb (sc:=(ag eX)) (NX:=["self","place","column","numbers"]) (N:=["one","other"]) (fr:=[none,none]) ⟨by rfl,by rfl,by decide+kernel,by decide+kernel,by decide+kernel,by rfl,by decide+kernel⟩ rfl rfl rfl (dy rfl T.fE (aa (cn (pv 0) rfl) (aa (pv 2) ai))) (fun _ _ _ _=>(cK K 2 rfl rfl (aL (aw (i:=0) (show (["one","other"]:List Str).Nodup by decide+kernel) rfl (Or.inl rfl) (Or.inr rfl)) (aL (aw (i:=1) (show (["one","other"]:List Str).Nodup by decide+kernel) rfl (Or.inl rfl) (Or.inr rfl)) bU)))) (fun _ _ _ _=>aT) (fun _ _ _ _=>(aJ fq (pv 0) (pv 1)))) (aa (pv 1) ai)))))))),?_⟩
  refine⟨_,rfl,t,TC,dx,fs,_,rfl,h1,T.bF,T.Ai,h2.n,a,_,rfl, .inl (aD.of h3),fun n hn=>?_⟩
  refine⟨_,rfl,_,rfl,n,_,p,_,rfl,rfl,aD.of af,gx,_,_,rfl,rfl,n,_,_,p,rfl,rfl,af,Xk,?_⟩
  rw[Bo]
  have sn:=ao.new (o:= .lst ((x.1.map V.int).set p (V.int (x.1.getD p 0+1)))) hn
  have BD:(upd H n (.lst ((x.1.map V.int).set p (V.int (x.1.getD p 0+1))))) n=some (.lst ((jA x.1 p).map V.int)):=by
   rw[af]
   unfold jA
   rw[List.map_set]
  generalize upd H n (.lst ((x.1.map V.int).set p (V.int (x.1.getD p 0+1))))=H2 at sn BD ⊢
  have h4':=sn _ _ h4
  have om:=sn _ _ hc
  refine⟨_,rfl,_,rfl,t,TC,dx,fs,_,rfl,sn _ _ h1,T.bF,T.Aj,h2.g,_,rfl,b,c,rfl,⟨_,aD.of h4'⟩,⟨_,aD.of om⟩,fun L hL=>di (K:=K) (a:=b) (c:=c) (L:=L) (xs:=(dY x.1 bz wd).map V.int) (zs:=col.map V.int) H2 (fun σ=>∃v u:Option V,σ=[v,u]) (fun i us=>us=((((dY x.1 bz wd).zip col).take i).map fun ab=>ab.1+ab.2).map V.int∧i≤((dY x.1 bz wd).zip col).length)
   (aD.of h4') (aD.of om) hL ⟨none,none,rfl⟩ (ao.new hL) af ⟨rfl,Nat.zero_le _⟩ (by rw[List.length_map];omega) ?_ ?_ ?_⟩
  ·rintro i us ⟨rfl,_⟩
   rw[List.length_map,List.length_map,List.length_take]
   omega
  ·rintro i y z u σ H3 us hy hz hu ⟨v1,v2,rfl⟩ hs de ⟨rfl,hi⟩ N M hN
   obtain⟨y,pX,rfl⟩:=int_at hy
   obtain⟨z,gw,rfl⟩:=int_at hz
   have jB:((dY x.1 bz wd).zip col)[i]? =some (y,z):=by rw[List.getElem?_zip_eq_some];exact⟨pX,gw⟩
   have gK:i+1≤((dY x.1 bz wd).zip col).length:=(List.getElem?_eq_some_iff.mp jB).1
   have fi:(upd H3 u (.tup [V.int y,V.int z])) L=_:=ao.new hu _ _ de
   refine⟨u,_,rfl,lN.of af,rfl,_,_,rfl,_,_,rfl,rfl,_,rfl,_,rfl,_,_,rfl,rfl,hN _ _ _ ⟨_,_,rfl⟩ (hs.trans (ao.new hu)) fi ⟨?_,gK⟩⟩
   rw[ay jB,List.map_append,List.map_append]
   rfl
  ·rintro H3 us hs de ⟨rfl,_⟩
   have e:((dY x.1 bz wd).zip col).take (min ((dY x.1 bz wd).map V.int).length (col.map V.int).length)=(dY x.1 bz wd).zip col:=List.take_of_length_le (by rw[List.length_zip,List.length_map,List.length_map];exact Nat.le_refl _)
   rw[e,←CU lx hfc lc] at de
   have s3:=sn.trans hs
   have hn3:=hs _ _ BD
   refine⟨_,rfl,fun q' dq nq Xl Vf=>?_⟩
   have s4:ao H3 (upd (upd H3 dq (.own q')) q' (.ins TC dq [])):=(ao.new Xl).trans (ao.new (by rw[aq (Ne.symm Vf)];exact nq))
   refine⟨q',dq,n,L,_,_,((p:Nat):Int),rfl,af,s4 _ _ hn3,s4 _ _ de,fun b1 b2 x' H5 IH CS Xm Xn l1 l2 kp=>⟨rfl,q q' H5 ⟨dq,x',b1,b2,Xm,Xn,l1,l2,⟨by simp,by simp,by simp⟩,s3.free nq,(s3.trans s4).free IH,(s3.trans s4).free CS⟩ fun b' o z=>?_⟩⟩
   have zb:b'≠q':=ah (s3 _ _ z) nq
   exact kp b' o (s4 _ _ (s3 _ _ z)) zb
theorem gq.has{TC:Addr}{bz:List (List Int)}{wd:Nat}{W:List Addr}{H0 H:Hp}{t:Addr}{x:eE}(h:gq TC bz wd W H0 H t x):gq TC bz wd [] U8 H t x:=h.cast fun b _ _ _=>⟨by simp,rfl⟩
theorem sr:aI ["self","columns"] ["self","columns"] (ag cz):=iC
theorem qu(D:fM K TC "all_raised" "Trial.all_raised" cz ["self","columns"])(T:gY K mg KC FC TC)(c1:dh P w K mg base 3 TC "raised" ["self","place","column"] (rY TC)):dh P w K mg base 4 TC "all_raised" ["self","columns"] (lK TC):=by
 obtain⟨_,_,fG⟩:=c1
 refine D.ic sr (fun vs H Q E h=>?_) (fun f bW A outer s H vs Q E hr h=>?_)
 ·obtain⟨t,l,cA,bz,wd,x,rfl,_⟩:=h
  rfl
 ·obtain⟨t,l,cA,bz,wd,x,rfl,hT,hl,fK,Vg,lx,lp,lf,lw,q⟩:=h
  have big:(1001 :Nat)≤sizeLine:=by decide
  obtain⟨dx,fs,a,b,h1,h2,_⟩:=id hT
  have lc:=fK.length
  refine⟨_,(av
     (aR (bb (sc:=(ag cz)) (NX:=["self","columns"]) (N:=["place","self","columns"]) (fr:=[none,some 0,some 1]) ⟨by rfl,by rfl,by decide+kernel,by decide+kernel,by decide+kernel,by rfl,by decide+kernel⟩ rfl rfl rfl (vV rfl T.b8 (aa (cn (pv 0) rfl) (aa (aA aS rfl T.eL da (aa (pv 1) ai)) ai))) (fun _ _ _ _=>(aw (i:=0) (show (["place","self","columns"]:List Str).Nodup by decide+kernel) rfl (Or.inl rfl) (Or.inr rfl))) (fun _ _ _ _=>aT) (fun _ _ _ _=>(eO (pv 1) T.bF fG.m fG.ok (hr.mono (by decide)) fG.b .nil aX (aa (pv 0) (aa (cJ (cp K rfl) (pv 2) (pv 0) (fun _ _=>rfl)) ai))))))),?_⟩
  refine⟨_,rfl,t,TC,dx,fs,_,rfl,h1,T.bF,T.FE,h2.f,_,rfl,l,_,rfl, .inl (aD.of hl),_,_,rfl,⟨by omega,by omega,by omega,by rw[List.length_map];omega⟩,fun L hL=>kJ (L:=L) H (fun σ=>∃v:Option V,σ=[v,some (.ref t),some (.ref l)]) (fun i ys H'=>∃ts:List Addr,ys=ts.map V.ref∧pf TC bz wd [L] H H' ts ((List.range' x.2 i).map fun p=>(jA x.1 p,p)))
   ?_ hL ⟨none,rfl⟩ (ao.new hL) af ⟨[],rfl, .nil⟩ (by rw[List.length_map];omega) ?_ ?_ ?_⟩
  ·rintro i ys Ha Hb e ⟨ts,rfl,su⟩
   exact⟨ts,rfl,bR (fun _ _ z=>z.keep fun b o z1 z2=>e _ _ z1 (by simpa using z2)) su⟩
  ·rintro i ys Ha ⟨ts,rfl,su⟩
   have:=Paired.length su
   rw[List.length_map,List.length_range'] at this
   rw[List.length_map]
   omega
  ·rintro i σ H2 ys hi ⟨v,rfl⟩ hs de ⟨ts,rfl,su⟩ N M hN
   rw[List.length_map] at hi
   have hp:x.2+i<bz.length:=by omega
   have ep:((x.2 :Nat):Int)+(i:Int)=((x.2+i:Nat):Int):=by omega
   have ga:cA[x.2+i]? =some (cA.getD (x.2+i) 0):=by rw[List.getD_eq_getElem?_getD,List.getElem?_eq_getElem (by omega)];rfl
   obtain⟨col,NN,pj,_⟩:=(fK.same hs).get ga
   dsimp only [aV]
   rw[ep]
   refine⟨_,rfl,t,dx,fs,rfl,hs _ _ h1,h2.no _ (by decide+kernel) (by decide+kernel) (by decide+kernel),_,rfl,_,rfl,_,rfl,l,_,_, .ref (cA.getD (x.2+i) 0),rfl,rfl,aD.of (hs _ _ hl),bE (by rw[List.getElem?_map,ga];rfl),?_⟩
   refine⟨t,cA.getD (x.2+i) 0,x.2+i,col,bz,wd,x,rfl,hT.same hs,pj,NN,Vg col (List.mem_of_getElem? NN),lx,lf,lw,fun t' H3 Bj e3=>hN _ _ _ ⟨_,rfl⟩ (hs.trans e3) (e3 _ _ de) ⟨ts++[t'],by rw[List.map_append];rfl,?_⟩⟩
   rw[List.range'_concat,List.map_append]
   refine iY (p:=gq TC bz wd [L] H H3) ?_ (bR (fun _ _ z=>z.same e3) su)
   have Bj:gq TC bz wd [] H2 H3 t' (jA x.1 (x.2+1*i),x.2+1*i):=by rw[Nat.one_mul];exact Bj
   exact Bj.cast fun b _ z _=>⟨by simp only [List.mem_cons,List.not_mem_nil,or_false];exact Ne.symm (ah de z),hs.free z⟩
  ·rintro H2 ys hs de ⟨ts,rfl,su⟩
   have e:(((cA.map V.ref).length:Int) - ((x.2 :Nat):Int)).toNat=bz.length - x.2:=by rw[List.length_map];omega
   rw[e] at su
   exact q L ts H2 hL de (bR (fun _ _ z=>z.cast fun b _ z _=>⟨by simp,z⟩) su) hs
theorem nR{n:Nat}:∀(l:List Nat) (a:Nat),l.Pairwise (· < ·)→(∀x∈l,a≤x∧x<n)→l.length≤n - a
 | [],_,_,_=>Nat.zero_le _
 |x::r,a,hp,h=>by
  rw[List.pairwise_cons] at hp
  have hx:=h x (List.mem_cons_self ..)
  have ih:=nR r (x+1) hp.2 fun y hy=>⟨hp.1 y hy,(h y (List.mem_cons_of_mem _ hy)).2⟩
  rw[List.length_cons]
  omega
theorem g7:aI ["columns","rows","chosen"] ["columns"] (ag a7):=iC
theorem CV(D:Def K mg "rows_enough" "rows_enough" a7 ["columns"])(T:gY K mg KC FC TC)(c1:bM P w K mg base 4 "kernel" ["columns"] (rX KC)):bM P w K mg base 5 "rows_enough" ["columns"] Ae:=by
 obtain⟨_,_,ke⟩:=c1
 refine D.ic g7 (fun vs H Q E h=>?_) (fun f bW A outer s H vs Q E hr h=>?_)
 ·obtain⟨p,as,cs,n,rfl,_⟩:=h
  rfl
 ·obtain⟨p,as,cs,n,rfl,hp,fK,fit,hn,l1,Xo,q⟩:=h
  have big:(1001 :Nat)≤sizeLine:=by decide
  have vC:=fK.length
  have FR:as[0]? =some (as.getD 0 0):=by rw[List.getD_eq_getElem?_getD,List.getElem?_eq_getElem (by omega)];rfl
  obtain⟨c0,wN,Av,_⟩:=fK.get FR
  have lc0:=(fit c0 (List.mem_of_getElem? wN)).1
  refine⟨_,(ak
     (yZ (i:=1) g7.nd rfl (Or.inl rfl) (sc:=(ag a7)) (NX:=["columns","rows","chosen"]) (N:=["row","columns"]) (fr:=[none,some 0]) ⟨by rfl,by rfl,by decide+kernel,by decide+kernel,by decide+kernel,by rfl,by decide+kernel⟩ rfl rfl rfl (bD rfl T.b8 (aa (aA aS rfl T.eL da (aa (cJ dr (pv 0) az (fun _ _=>rfl)) ai)) ai)) (fun _ _ _ _=>(aw (i:=0) (show (["row","columns"]:List Str).Nodup by decide+kernel) rfl (Or.inr rfl) (Or.inl rfl))) (fun _ _ _ _=>aT) (fun _ _ _ _=>(bb (sc:=(iz qk (ag a7))) (NX:=["row","columns"]) (N:=["column","row"]) (fr:=[none,some 0]) ⟨by rfl,by rfl,by decide+kernel,by decide+kernel,by decide+kernel,by rfl,by decide+kernel⟩ rfl rfl rfl (jJ K rfl (pv 1)) (fun _ _ _ _=>(aw (i:=0) (show (["column","row"]:List Str).Nodup by decide+kernel) rfl (Or.inl rfl) (Or.inr rfl))) (fun _ _ _ _=>aT) (fun _ _ _ _=>(cJ (cp K rfl) (pv 0) (pv 1) (fun _ _=>rfl))))))
    (ak
     (aG (i:=2) g7.nd rfl (Or.inr rfl) (cn (aO ke.ok (hr.mono (by decide)) rfl ke.g ke.kp ke.b .nil aX (aa (pv 1) ai)) rfl))
    (av
     (aR (mW (sc:=(ag a7)) (NX:=["columns","rows","chosen"]) (N:=["column","chosen"]) (fr:=[none,some 2]) ⟨by rfl,by rfl,by decide+kernel,by decide+kernel,by decide+kernel,by rfl,by decide+kernel⟩ rfl rfl rfl (bh (pv 0)) (fun _ _ _ _=>(aw (i:=0) (show (["column","chosen"]:List Str).Nodup by decide+kernel) rfl (Or.inr rfl) (Or.inl rfl))) (fun _ _ _ _=>aT) (fun _ _ _ _=>(bb (sc:=(iz oB (ag a7))) (NX:=["column","chosen"]) (N:=["row","column"]) (fr:=[none,some 0]) ⟨by rfl,by rfl,by decide+kernel,by decide+kernel,by decide+kernel,by rfl,by decide+kernel⟩ rfl rfl rfl (jJ K rfl (pv 1)) (fun _ _ _ _=>(aw (i:=0) (show (["row","column"]:List Str).Nodup by decide+kernel) rfl (Or.inl rfl) (Or.inr rfl))) (fun _ _ _ _=>aT) (fun _ _ _ _=>(cJ (cp K rfl) (pv 1) (pv 0) (fun _ _=>rfl)))))))))),?_⟩
  refine⟨_,rfl,p,_,_, .ref (as.getD 0 0),rfl,rfl,aD.of hp,bE (j:=0) (by rw[List.getElem?_map,FR];rfl),as.getD 0 0,_,rfl, .inl (aD.of Av),_,rfl,by omega,by rw[List.length_map];omega,fun L hL=>kJ (L:=L) H (fun σ=>∃v:Option V,σ=[v,some (.ref p)]) (fun i ys H'=>∃rs:List Addr,ys=rs.map V.ref∧bX L H H' rs ((List.range i).map (row cs)))
   ?_ hL ⟨none,rfl⟩ (ao.new hL) af ⟨[],rfl, .nil⟩ (by rw[List.length_map];omega) ?_ ?_ ?_⟩
  ·rintro i ys Ha Hb e ⟨rs,rfl,Aw⟩
   exact⟨rs,rfl,bX.but e Aw⟩
  ·rintro i ys Ha ⟨rs,rfl,Aw⟩
   have:=Aw.length
   rw[List.length_map,List.length_range] at this
   rw[List.length_map]
   omega
  ·rintro i σ H2 ys hi ⟨v,rfl⟩ hs de ⟨rs,rfl,Aw⟩ N M hN
   have hi:i<n:=by
    have:i< (c0.map V.int).length:=by simpa using hi
    rw[List.length_map] at this;omega
   dsimp only [aV]
   rw[Int.zero_add]
   refine⟨_,rfl,p,rfl,⟨_,aD.of (hs _ _ hp)⟩,fun L2 uq=>cC (K:=K) (a:=p) (L:=L2) (xs:=as.map V.ref) H2 (fun σ=>∃v:Option V,σ=[v,some (.int i)]) (fun j ys=>ys=((cs.take j).map fun c=>c.getD i 0).map V.int)
    (aD.of (hs _ _ hp)) uq ⟨none,rfl⟩ (ao.new uq) af rfl (by rw[List.length_map];omega) ?_ ?_ ?_⟩
   ·rintro j ys rfl
    rw[List.length_map,List.length_map,List.length_take];omega
   ·rintro j y σ H3 ys hy ⟨v,rfl⟩ iF fi rfl N2 M2 xr
    obtain⟨aj,II,rfl⟩:=b9 hy
    obtain⟨b,Vh,NI,_⟩:=(fK.same (hs.trans iF)).get II
    have gb:=getD_at (l:=b) (i:=i) (by rw[(fit b (List.mem_of_getElem? Vh)).1];exact hi)
    refine⟨_,rfl,_,rfl,aj,_,_, .int (b.getD i 0),rfl,rfl,aD.of NI,bE (by rw[List.getElem?_map,gb];rfl),xr _ _ _ ⟨_,rfl⟩ iF fi ?_⟩
    rw[ay Vh,List.map_append,List.map_append]
    rfl
   ·rintro H3 ys iF fi rfl
    rw[List.length_map,vC,List.take_length] at fi
    refine hN _ _ _ ⟨_,rfl⟩ (hs.trans iF) (iF _ _ de) ⟨rs++[L2],by rw[List.map_append];rfl,?_⟩
    rw[List.range_succ,List.map_append]
    exact(Aw.but (df.of iF)).snoc fi (Ne.symm (ah de uq)) (hs.free uq)
  rintro H2 ys hs de ⟨rs,rfl,Aw⟩
  have e0:(((c0.map V.int).length:Nat):Int).toNat=n:=by rw[List.length_map];omega
  rw[e0] at Aw
  have Aw:bX L H H2 rs (cM cs n):=Aw
  have lrs:=Aw.length
  have Xp:(cM cs n).length=n:=by unfold cM;simp
  have CW:∀c∈cM cs n,c.length=cs.length∧∀x∈c,cP 70 x:=by
   intro c hc
   obtain⟨r,hr,rfl⟩:=List.mem_map.mp hc
   refine⟨fh cs r,fun x hx=>?_⟩
   obtain⟨d,hd,rfl⟩:=List.mem_map.mp hx
   have hr:r<n:=by simpa using hr
   exact(fit d hd).2 _ (List.mem_of_getElem? (getD_at (by rw[(fit d hd).1];exact hr)))
  dsimp only [aV]
  refine⟨_,rfl,L,rs,cM cs n,cs.length,rfl,de,bX.toS (by simp) (fun b xs z _ _=>z) Aw,CW,by omega,by omega,fun kq H3 e3 KA=>?_⟩
  obtain⟨dk,fs,b1,b2,b3,b4,hk,kf,_,_,nh,_⟩:=KA.obj
  have nh:H3 b2=some (.lst ((aQ cs n).map fun p=>V.int (p:Nat))):=nh
  have g:=qt (n:=cs.length) (cs:=cM cs n) (by omega) (by omega) CW
  have pin:∀r∈aQ cs n,r<n:=fun r hr=>by
   have:=g.T.qK r hr
   omega
  have ple:(aQ cs n).length≤60:=by
   have h1:=nR (n:=n) (aQ cs n) 0 g.ps fun x hx=>⟨Nat.zero_le _,pin x hx⟩
   omega
  have FO:=hs.trans e3
  refine⟨kq,KC,dk,fs,_,rfl,hk,T.dP,T.r8,kf.b,?_⟩
  refine⟨_,rfl,p,rfl,⟨_,aD.of (FO _ _ hp)⟩,fun L3 fi=>kI (K:=K) (a:=p) (L:=L3) (xs:=as.map V.ref) H3 (fun σ=>∃v:Option V,σ=[v,some (.ref b2)]) (fun i ys H'=>∃ds:List Addr,ys=ds.map V.ref∧bX L3 H3 H' ds ((dR cs n).take i))
   (aD.of (FO _ _ hp)) ?_ fi ⟨none,rfl⟩ (ao.new fi) af ⟨[],rfl, .nil⟩ (by rw[List.length_map];omega) ?_ ?_ ?_⟩
  ·rintro i ys Ha Hb e ⟨ds,rfl,jC⟩
   exact⟨ds,rfl,bX.but e jC⟩
  ·rintro i ys Ha ⟨ds,rfl,jC⟩
   have:=jC.length
   rw[List.length_take] at this
   rw[List.length_map]
   omega
  ·rintro i y σ H4 ys hy ⟨v,rfl⟩ oF qq ⟨ds,rfl,jC⟩ N M hN
   obtain⟨aj,II,rfl⟩:=b9 hy
   obtain⟨c,sY,pj,_⟩:=(fK.same (FO.trans oF)).get II
   have lcj:=(fit c (List.mem_of_getElem? sY)).1
   have hfw:(dR cs n)[i]? =some ((aQ cs n).map fun r=>c.getD r 0):=by unfold dR;rw[List.getElem?_map,sY];rfl
   refine⟨_,rfl,b2,rfl,⟨_,aD.of (oF _ _ nh)⟩,fun L4 CY=>cC (K:=K) (a:=b2) (L:=L4) (xs:=(aQ cs n).map fun p=>V.int (p:Nat)) H4 (fun σ=>∃v:Option V,σ=[v,some (.ref aj)]) (fun j ys=>ys=(((aQ cs n).take j).map fun r=>c.getD r 0).map V.int)
    (aD.of (oF _ _ nh)) CY ⟨none,rfl⟩ (ao.new CY) af rfl (by rw[List.length_map];omega) ?_ ?_ ?_⟩
   ·rintro j ys rfl
    rw[List.length_map,List.length_map,List.length_take];omega
   ·rintro j y σ H5 ys hy ⟨v,rfl⟩ qs qL rfl N2 M2 xr
    rw[List.getElem?_map] at hy
    cases ez:(aQ cs n)[j]? with
    |none=>rw[ez] at hy;cases hy
    |some r=>
     rw[ez] at hy
     have hy:V.int ((r:Nat):Int)=y:=Option.some.inj hy
     subst hy
     have gb:=getD_at (l:=c) (i:=r) (by rw[lcj];exact pin r (List.mem_of_getElem? ez))
     refine⟨_,rfl,_,rfl,aj,_,_, .int (c.getD r 0),rfl,rfl,aD.of (qs _ _ pj),bE (by rw[List.getElem?_map,gb];rfl),xr _ _ _ ⟨_,rfl⟩ qs qL ?_⟩
     rw[ay ez,List.map_append,List.map_append]
     rfl
   ·rintro H5 ys qs qL rfl
    rw[List.length_map,List.take_length] at qL
    refine hN _ _ _ ⟨_,rfl⟩ (oF.trans qs) (qs _ _ qq) ⟨ds++[L4],by rw[List.map_append];rfl,?_⟩
    rw[ay hfw]
    exact(jC.but (df.of qs)).snoc qL (Ne.symm (ah qq CY)) (oF.free CY)
  ·rintro H4 ys oF qq ⟨ds,rfl,jC⟩
   have lf:(dR cs n).length=as.length:=by unfold dR;rw[List.length_map,vC]
   rw[List.length_map,←lf,List.take_length] at jC
   exact q L3 ds H4 (FO.trans oF) qq (bX.toS (by simp) (fun b xs z _ _=>z) jC)
theorem nU:∀(m:Nat) (y:List Int),dot (List.replicate m 0) y=0
 |0,_=>by cases ‹List Int›<;>rfl
 |m+1,[]=>Cz _
 |m+1,b::y=>by
  show 0*b+dot (List.replicate m 0) y=0
  rw[Int.zero_mul,nU m y]
  rfl
theorem xy(m:Nat)(bz:List (List Int))(wd:Nat):dY (List.replicate m 0) bz wd=List.replicate wd 0:=by
 unfold dY
 rw[List.eq_replicate_iff]
 refine⟨by simp,fun b hb=>?_⟩
 obtain⟨r,_,rfl⟩:=List.mem_map.mp hb
 exact nU m _
theorem xA{m i:Nat}{ts:List eE}{x:eE}(h:ts[i]? =some x):bB m (ts.take (i+1))=bB m (ts.take i)++(List.range' x.2 (m - x.2)).map fun p=>(jA x.1 p,p):=by
 unfold bB
 rw[ay h,List.flatMap_append,List.flatMap_cons,List.flatMap_nil,List.append_nil]
theorem xB(m i:Nat)(ts:List eE):(bB m (ts.take i)).length≤(bB m ts).length:=by
 have e:bB m ts=bB m (ts.take i)++bB m (ts.drop i):=by
  unfold bB
  rw[←List.flatMap_append,List.take_append_drop]
 rw[e,List.length_append]
 omega
theorem xC{W:List Addr}{H:Hp}{as oE:List Addr}{cs cs':List (List Int)}(h:aK W H as cs)(h':aK W H oE cs'):aK W H (as++oE) (cs++cs'):=j7 h h'
theorem d7:aI ["columns","most","few","told","trials","size","grown","trial","level"] ["columns","most"] (ag dA):=iC
theorem Ax(D:Def K mg "least" "least" dA ["columns","most"])(T:gY K mg KC FC TC)(c1:bM P w K mg base 5 "rows_enough" ["columns"] Ae)(c2:lC P w K mg base 1 TC ["self","numbers","gathered","first"] [] (ql TC))(c3:dh P w K mg base 4 TC "all_raised" ["self","columns"] (lK TC))(c4:dh P w K mg base 1 TC "is_level" ["self"] (ph TC))(c5:bM P w K mg base 1 "fits" ["small","great"] qo):bM P w K mg base 6 "least" ["columns","most"] qp:=by
 obtain⟨_,_,d8⟩:=c1
 obtain⟨_,_,bF⟩:=c2
 obtain⟨_,_,dD⟩:=c3
 obtain⟨_,_,bN⟩:=c4
 obtain⟨_,_,qv⟩:=c5
 obtain⟨_,kX,kY⟩:=bF.b 0 (by decide)
 refine D.ic d7 (fun vs H Q E h=>?_) (fun f bW A outer s H vs Q E hr h=>?_)
 ·obtain⟨p,as,cs,n,most,rfl,_⟩:=h
  rfl
 ·obtain⟨p,as,cs,n,most,rfl,hp,fK,fit,hn,l1,Xo,lm,hgr,Vb,q⟩:=h
  have ur:=hr.units
  have big:(1000000 :Nat)≤sizeLine:=by decide
  have lw:(aQ cs n).length≤60:=by
   have CW:∀c∈cM cs n,c.length=cs.length∧∀x∈c,cP 70 x:=by
    intro c hc
    obtain⟨r,hr,rfl⟩:=List.mem_map.mp hc
    refine⟨fh cs r,fun x hx=>?_⟩
    obtain⟨d,hd,rfl⟩:=List.mem_map.mp hx
    have hr:r<n:=by simpa using hr
    exact(fit d hd).2 _ (List.mem_of_getElem? (getD_at (by rw[(fit d hd).1];exact hr)))
   have Xp:(cM cs n).length=n:=by unfold cM;simp
   have g:=qt (n:=cs.length) (cs:=cM cs n) (by omega) (by omega) CW
   have:=nR (n:=n) (aQ cs n) 0 g.ps fun x hx=>⟨Nat.zero_le _,by have:=g.T.qK x hx;omega⟩
   omega
  have lfw:(dR cs n).length=cs.length:=by unfold dR;rw[List.length_map]
  have Vg:∀c∈dR cs n,c.length=(aQ cs n).length:=fun c hc=>by
   obtain⟨d,_,rfl⟩:=List.mem_map.mp hc
   rw[List.length_map]
  have nnk:=fun k=>qj (eJ (dR cs n) (aQ cs n).length) cs.length k
  have ntk:=fun k=>(eF (eJ (dR cs n) (aQ cs n).length) cs.length k).1
  refine⟨_,(ak
     (aG (i:=2) d7.nd rfl (Or.inl rfl) (aO d8.ok (hr.mono (by decide)) rfl d8.g d8.kp d8.b .nil aX (aa (pv 0) ai)))
    (ak
     (aG (i:=3) d7.nd rfl (Or.inr rfl) (bq ai))
    (ak
     (aG (i:=4) d7.nd rfl (Or.inl rfl) (bq (aa (pJ bF.m bF.ok (hr.mono (by decide)) rfl T.vA kY kX aX (aa (aJ mQ (bq (aa az ai)) (aA aS rfl T.eL da (aa (pv 2) ai))) (aa (aJ mQ (bq (aa az ai)) (aA aS rfl T.eL da (aa (cJ dr (pv 2) az (fun _ _=>rfl)) ai))) (aa az ai)))) ai)))
    (ak
     (cy PassesOwn.never rfl (bD rfl T.b8 (aa (pv 1) ai)) (aw (i:=5) d7.nd rfl (Or.inl rfl))
      (ak
       (aG (i:=6) d7.nd rfl (Or.inl rfl) (bq ai))
      (ak
       (cy PassesOwn.never rfl (bh (pv 4)) (aw (i:=7) d7.nd rfl (Or.inl rfl))
        (av
         (cI (ip PySem.F.plainAttrs_list PySem.F.slot_list_extend PySem.F.type_list_extend wg (pv 6) (aa (eO (pv 7) T.bF dD.m dD.ok (hr.mono (by decide)) dD.b .nil aX (aa (pv 2) ai)) ai)))))
      (ak
       (eP (i:=8) d7.nd rfl (Or.inl rfl) (sc:=(ag dA)) (NX:=["columns","most","few","told","trials","size","grown","trial","level"]) (N:=["trial"]) (fr:=[none]) ⟨by rfl,by rfl,by decide+kernel,by decide+kernel,by decide+kernel,by rfl,by decide+kernel⟩ rfl rfl rfl (bh (pv 6)) (fun _ _ _ _=>(aw (i:=0) (show (["trial"]:List Str).Nodup by decide+kernel) rfl (Or.inl rfl) (Or.inr rfl))) (fun _ _ _ _=>(jI (dv (qQ (pv 0) T.bF bN.m bN.ok (hr.mono (by decide)) bN.b .nil aX)))) (fun _ _ _ _=>(vc K rfl (pv 0) rfl)))
      (ak
       (aG (i:=3) d7.nd rfl (Or.inr rfl) (aJ mP (pv 3) (mW (sc:=(ag dA)) (NX:=["columns","most","few","told","trials","size","grown","trial","level"]) (N:=["numbers","told"]) (fr:=[none,some 3]) ⟨by rfl,by rfl,by decide+kernel,by decide+kernel,by decide+kernel,by rfl,by decide+kernel⟩ rfl rfl rfl (bh (pv 8)) (fun _ _ _ _=>(aw (i:=0) (show (["numbers","told"]:List Str).Nodup by decide+kernel) rfl (Or.inr rfl) (Or.inl rfl))) (fun _ _ _ _=>(jI (eH (dv (aA (wI K rfl rfl) rfl T.nQ mY (aa (bb (sc:=(iz CD (ag dA))) (NX:=["numbers","told"]) (N:=["other","numbers"]) (fr:=[none,some 0]) ⟨by rfl,by rfl,by decide+kernel,by decide+kernel,by decide+kernel,by rfl,by decide+kernel⟩ rfl rfl rfl (jJ K rfl (pv 1)) (fun _ _ _ _=>(aw (i:=0) (show (["other","numbers"]:List Str).Nodup by decide+kernel) rfl (Or.inl rfl) (Or.inr rfl))) (fun _ _ _ _=>aT) (fun _ _ _ _=>(aO qv.ok (hr.mono (by decide)) rfl qv.g qv.kp qv.b .nil aX (aa (pv 0) (aa (pv 1) ai))))) ai)))))) (fun _ _ _ _=>(pv 0)))))
      (av
       (eP (i:=4) d7.nd rfl (Or.inl rfl) (sc:=(ag dA)) (NX:=["columns","most","few","told","trials","size","grown","trial","level"]) (N:=["trial"]) (fr:=[none]) ⟨by rfl,by rfl,by decide+kernel,by decide+kernel,by decide+kernel,by rfl,by decide+kernel⟩ rfl rfl rfl (bh (pv 6)) (fun _ _ _ _=>(aw (i:=0) (show (["trial"]:List Str).Nodup by decide+kernel) rfl (Or.inl rfl) (Or.inr rfl))) (fun _ _ _ _=>(jI (eH (dv (qQ (pv 0) T.bF bN.m bN.ok (hr.mono (by decide)) bN.b .nil aX))))) (fun _ _ _ _=>(pv 0)))))))))
    (av
     (aR (aA (jU ur) rfl T.nO kL (aa (pv 3) ai)))))))),?_⟩
  refine⟨_,rfl,p,as,cs,n,rfl,hp,fK,fit,hn,l1,Xo,fun lf fA H1 e1 Xq yG=>?_⟩
  generalize CZ:eJ (dR cs n) (aQ cs n).length=lev at*
  generalize hfe:dR cs n=bz at*
  generalize (aQ cs n).length=wd at*
  generalize hm:cs.length=m at*
  have lfA:=yG.length
  refine⟨(by show 0≤sizeLine;decide),fun TL NO=>?_⟩
  have s2:=ao.new (o:= .lst []) NO
  have NP:(upd H1 TL (.lst [])) TL=some (.lst []):=af
  generalize upd H1 TL (.lst [])=H2 at s2 NP ⊢
  have e2:=e1.trans s2
  dsimp only [aV]
  have FR:fA[0]? =some (fA.getD 0 0):=by rw[List.getD_eq_getElem?_getD,List.getElem?_eq_getElem (by omega)];rfl
  obtain⟨c0,wN,Av,_⟩:=(yG.same s2).get FR
  have lc0:=Vg c0 (List.mem_of_getElem? wN)
  refine⟨(by show 1≤sizeLine;decide),fun z0 Vi=>⟨_,rfl,lf,_,rfl, .inl (aD.of (ao.new Vi _ _ (s2 _ _ Xq))),z0,_,_,rfl,rfl,af,by omega,by rw[List.length_map];omega,(by show 1*_≤_;rw[List.length_map];omega),fun r0 hr0=>?_⟩⟩
  have s3:=(ao.new (o:= .lst [V.int 0]) Vi).trans (ao.new (o:= .lst (List.replicate ((((fA.map V.ref).length:Nat):Int)).toNat [V.int 0]).flatten) hr0)
  have hr3:(upd (upd H2 z0 (.lst [V.int 0])) r0 (.lst (List.replicate ((((fA.map V.ref).length:Nat):Int)).toNat [V.int 0]).flatten)) r0=some (.lst ((List.replicate m (0 :Int)).map V.int)):=by
   rw[af,rep0,show (((fA.map V.ref).length:Nat):Int).toNat=m by rw[List.length_map];omega]
  generalize upd (upd H2 z0 (.lst [V.int 0])) r0 (.lst (List.replicate ((((fA.map V.ref).length:Nat):Int)).toNat [V.int 0]).flatten)=H3 at s3 hr3 ⊢
  refine⟨(by show 1≤sizeLine;decide),fun z1 wy=>⟨_,rfl,lf,_,_, .ref (fA.getD 0 0),rfl,rfl,aD.of (ao.new wy _ _ (s3 _ _ (s2 _ _ Xq))),bE (j:=0) (by rw[List.getElem?_map,FR];rfl),fA.getD 0 0,_,rfl, .inl (aD.of (ao.new wy _ _ (s3 _ _ Av))),z1,_,_,rfl,rfl,af,by omega,by rw[List.length_map];omega,(by show 1*_≤_;rw[List.length_map];omega),fun r1 hr1=>?_⟩⟩
  have s4:=(ao.new (o:= .lst [V.int 0]) wy).trans (ao.new (o:= .lst (List.replicate ((((c0.map V.int).length:Nat):Int)).toNat [V.int 0]).flatten) hr1)
  have hr4:(upd (upd H3 z1 (.lst [V.int 0])) r1 (.lst (List.replicate ((((c0.map V.int).length:Nat):Int)).toNat [V.int 0]).flatten)) r1=some (.lst ((List.replicate wd (0 :Int)).map V.int)):=by
   rw[af,rep0,show (((c0.map V.int).length:Nat):Int).toNat=wd by rw[List.length_map];omega]
  generalize upd (upd H3 z1 (.lst [V.int 0])) r1 (.lst (List.replicate ((((c0.map V.int).length:Nat):Int)).toNat [V.int 0]).flatten)=H4 at s4 hr4 ⊢
  refine fun q0 dq nq Xl Vf=>?_
  have s5:ao H4 (upd (upd H4 dq (.own q0)) q0 (.ins TC dq [])):=(ao.new Xl).trans (ao.new (by rw[aq (Ne.symm Vf)];exact nq))
  refine⟨q0,dq,r0,r1,_,_,0,rfl,af,s5 _ _ (s4 _ _ hr3),s5 _ _ hr4,fun b1 b2 fs H5 IH CS Xm Xn kn nh kp=>⟨rfl,?_⟩⟩
  have NQ:=s3.trans s4
  have s25:ao H2 H5:=fun b o z=>kp b o (s5 _ _ (NQ _ _ z)) (ah (NQ _ _ z) nq)
  have hT5:gq TC bz wd [] H H5 q0 (List.replicate m 0,0):=⟨dq,fs,b1,b2,Xm,Xn,kn,by rw[xy];exact nh,⟨by simp,by simp,by simp⟩,(e2.trans NQ).free nq,((e2.trans NQ).trans s5).free IH,((e2.trans NQ).trans s5).free CS⟩
  refine⟨(by show 1≤sizeLine;decide),fun TR LQ=>?_⟩
  have s6:=s25.trans (ao.new (o:= .lst [V.ref q0]) LQ)
  have NR:(upd H5 TR (.lst [V.ref q0])) TR=some (.lst ([q0].map V.ref)):=af
  have hT6:=hT5.same (ao.new (o:= .lst [V.ref q0]) LQ)
  generalize upd H5 TR (.lst [V.ref q0])=H6 at s6 NR hT6 ⊢
  have e6:=e2.trans s6
  have Xr:=s6 _ _ (s2 _ _ Xq)
  have NS:=(yG.same s2).same s6
  dsimp only [aV]
  refine⟨_,rfl,_,rfl,by omega,by omega,cT (fun k σ H'=>∃(TL TR:Addr) (ta tA:List Addr) (v5 v6 v7 v8:Option V),σ=[some (.ref p),some (.int most),some (.ref lf),some (.ref TL),some (.ref TR),v5,v6,v7,v8]∧H' TL=some (.lst (ta.map V.ref))∧aK [] H' ta (bC lev m k).1∧(∀b∈ta,H b=none)∧H' TR=some (.lst (tA.map V.ref))∧pf TC bz wd [] H H' tA (bC lev m k).2∧ao H6 H') ?_ ?_ ?_⟩
  ·exact⟨TL,TR,[],[q0],none,none,none,none,rfl,s6 _ _ NP, .nil,(fun b hb=>by cases hb),NR, .cons hT6 .nil,ao.refl _⟩
  ·rintro k σ H7 hk ⟨TL,TR,ta,tA,v5,v6,v7,v8,rfl,NO,IJ,sZ,LQ,Xs,e7⟩
   have hk:k<most:=by omega
   have gl:=hgr k (by omega)
   have tl64:=Vb k (by omega)
   have Xt:∀v∈(bC lev m k).1,v.length=m:=fun v hv=>((ntk k v).mp hv).1.1.1
   obtain⟨tk1,Nm⟩:=nnk k
   have eb1:(bC lev m (k+1)).1=nJ lev m (bC lev m k).1 (bC lev m k).2:=rfl
   have eb2:(bC lev m (k+1)).2=Aa lev m (bC lev m k).2:=rfl
   have gk:=mB tk1 Nm
   rw[eb1,eb2]
   generalize (bC lev m k).1=told at*
   generalize (bC lev m k).2=ts at*
   have Xu:=IJ.length
   have ltA:=Paired.length Xs
   refine⟨(by show 0≤sizeLine;decide),fun G hG=>?_⟩
   have sG:=ao.new (o:= .lst []) hG
   dsimp only [aV]
   refine⟨_,rfl,TR,rfl,⟨_,aD.of (sG _ _ LQ)⟩,gy (K:=K) (a:=TR) (xs:=tA.map V.ref) (fun i σ H'=>∃(v7:Option V) (gA:List Addr),σ=[some (.ref p),some (.int most),some (.ref lf),some (.ref TL),some (.ref TR),some (.int (0+(k:Int))),some (.ref G),v7,v8]∧H' G=some (.lst (gA.map V.ref))∧pf TC bz wd [G] H H' gA (bB m (ts.take i))∧ao H7 H') ?_ (fun i σ H' _ ⟨_,_,_,_,_,e⟩=>aD.of (e _ _ LQ)) ?_ ?_⟩
   ·exact⟨v7,[],rfl,af, .nil,sG⟩
   ·rintro i y σ H8 hi ⟨v7,gA,rfl,IK,C0,e8⟩
    obtain⟨t,ht,rfl⟩:=b9 hi
    obtain⟨x,hx,hT⟩:=gG Xs ht
    have hT8:=hT.same e8
    obtain⟨dx,fs,a,b,h1,h2,_⟩:=id hT8
    have lx:=(tk1.nn x (List.mem_of_getElem? hx)).1.1
    have Xv:=Paired.length C0
    refine⟨_,rfl, .inl ⟨rfl,_,aD.of IK⟩,_,rfl,t,dx,fs,rfl,h1,h2.no _ (by decide+kernel) (by decide+kernel) (by decide+kernel),_,rfl,t,lf,fA,bz,wd,x,rfl,hT8.has,e8 _ _ (e7 _ _ Xr),(NS.same e7).same e8,Vg,by omega,by rw[lfw];exact Nm x (List.mem_of_getElem? hx),by omega,lw,fun Lr ts' H9 nLr hLr su e9=>?_⟩
    have Vj:=Paired.length su
    have g1:=xA (m:=m) hx
    have g2:=xB m (i+1) ts
    rw[lfw] at su Vj
    rw[g1,List.length_append] at g2
    have hG9:=e9 _ _ IK
    have kb:∀b o,H9 b=some o→b∉[G]→(upd H9 G (.lst (gA.map V.ref++ts'.map V.ref))) b=some o:=fun b o z w=>by rw[aq (by simpa using w)];exact z
    refine⟨G,Lr,_,_,rfl,rfl,hG9,hLr,by rw[List.length_map,List.length_map];omega,_,gA++ts',rfl,?_,?_,fun b o z=>?_⟩
    ·rw[af,List.map_append]
    ·rw[g1]
     refine j7 (bR (fun _ _ z=>(z.same e9).keep kb) C0) (bR (fun _ _ z=>?_) su)
     have z':gq TC bz wd [G] H H9 _ _:=z.cast fun b _ zb _=>⟨by simp only [List.mem_cons,List.not_mem_nil,or_false];exact Ne.symm (ah IK zb),((e6.trans e7).trans e8).free zb⟩
     exact z'.keep kb
    ·rw[aq (ah z hG)]
     exact e9 _ _ (e8 _ _ z)
   ·rintro σ H8 ⟨v7,gA,rfl,IK,C0,e8⟩
    rw[List.length_map,ltA,List.take_length] at C0
    have C0:pf TC bz wd [] H H8 gA (bB m ts):=bR (fun _ _ z=>z.cast fun b _ zb _=>⟨by simp,zb⟩) C0
    have Xv:=Paired.length C0
    generalize hgg:bB m ts=gr at*
    have NT:=e8 _ _ NO
    have NU:=IJ.same e8
    refine⟨_,rfl,G,rfl,⟨_,aD.of IK⟩,fun L hL=>iU (K:=K) (a:=G) (L:=L) (xs:=gA.map V.ref) H8 (fun σ=>∃v:Option V,σ=[v]) (fun i ys=>∃la:List Addr,ys=la.map V.ref∧la.length≤i∧aK [] H8 la (((gr.take i).filter fun t=>lev t.1).map (·.1))∧∀b∈la,H b=none)
     (aD.of IK) hL ⟨none,rfl⟩ (ao.new hL) af ⟨[],rfl,Nat.le_refl _, .nil,fun b hb=>by cases hb⟩ (by rw[List.length_map];omega) ?_ ?_ ?_⟩
    ·rintro i ys ⟨la,rfl,h,_⟩
     rw[List.length_map]
     exact h
    ·rintro i y σ H9 ys hy ⟨v,rfl⟩ hs vD ⟨la,rfl,Fv,Ay,x8⟩ N M hN hM
     obtain⟨t,ht,rfl⟩:=b9 hy
     obtain⟨x,hx,hT⟩:=gG C0 ht
     have hT9:=hT.same hs
     obtain⟨dx,fs,a,b,h1,h2,h3,_⟩:=id hT9
     obtain⟨dx',x',a',b',WB,MU,h3',_,_,_,wQ,_⟩:=id hT
     have ea:a=a':=by
      have z:=hs _ _ WB
      rw[h1] at z
      cases z
      have z2:=h2.n
      rw[MU.n] at z2
      cases z2
      rfl
     subst ea
     refine⟨_,rfl,t,dx,fs,rfl,h1,h2.no _ (by decide+kernel) (by decide+kernel) (by decide+kernel),t,bz,wd,x,rfl,hT9.has,_,rfl,gz (fun c=>?_) fun c=>?_⟩
     ·rw[CZ] at c
      refine⟨_,rfl,t,TC,dx,fs,_,rfl,h1,T.bF,T.Ai,h2.n,hN _ _ _ ⟨_,rfl⟩ hs vD ⟨la++[a],by rw[List.map_append];rfl,by simp;omega,?_,fun b hb=>(List.mem_append.mp hb).elim (x8 b) fun hb=>by rw[List.mem_singleton.mp hb];exact wQ⟩⟩
      rw[ay hx,List.filter_append,List.map_append,show [x].filter (fun t=>lev t.1)=[x] by simp [c]]
      exact Ay.snoc h3' (by simp)
     ·rw[CZ] at c
      refine hM _ _ ⟨_,rfl⟩ hs vD ⟨la,rfl,by omega,?_,x8⟩
      rw[ay hx,List.filter_append,show [x].filter (fun t=>lev t.1)=[] by simp [c],List.append_nil]
      exact Ay
    rintro H9 ys Az vD ⟨la,rfl,_,Ay,x8⟩
    rw[List.length_map,Xv,List.take_length] at Ay
    have Xw:=Ay.same Az
    generalize Xx:(gr.filter fun t=>lev t.1).map (·.1)=NV at*
    have Fv:=Ay.length
    have llv:NV.length≤gr.length:=by rw[←Xx,List.length_map];exact List.length_filter_le _ _
    have lvm:∀v∈NV,v.length=m:=fun v hv=>by
     rw[←Xx] at hv
     obtain⟨t,ht,rfl⟩:=List.mem_map.mp hv
     exact(gk.nn t (List.mem_filter.mp ht).1).1.1
    dsimp only [aV]
    refine⟨_,rfl,_,rfl,L,rfl,⟨_,aD.of vD⟩,fun L2 de=>iU (K:=K) (a:=L) (L:=L2) (xs:=la.map V.ref) H9 (fun σ=>∃v:Option V,σ=[v,some (.ref TL)]) (fun i ys=>∃lb:List Addr,ys=lb.map V.ref∧lb.length≤i∧aK [] H9 lb ((NV.take i).filter fun v=>!(told.any fun u=>iM u v))∧∀b∈lb,b∈la)
     (aD.of vD) de ⟨none,rfl⟩ (ao.new de) af ⟨[],rfl,Nat.le_refl _, .nil,fun b hb=>by cases hb⟩ (by rw[List.length_map];omega) ?_ ?_ ?_⟩
    ·rintro i ys ⟨lb,rfl,h,_⟩
     rw[List.length_map]
     exact h
    ·rintro i y σ yQ ys hy ⟨v,rfl⟩ hs qw ⟨lb,rfl,zG,qM,Vk⟩ N M hN hM
     obtain⟨nj,hnj,rfl⟩:=b9 hy
     obtain⟨nv,hnv,hna,_⟩:=Xw.get hnj
     have NW:=hs _ _ hna
     have vE:=hs _ _ (Az _ _ NT)
     have AA:=(NU.same Az).same hs
     dsimp only [aV]
     refine⟨_,rfl,TL,rfl,⟨_,aD.of vE⟩,fun L3 fi=>cC (K:=K) (a:=TL) (L:=L3) (xs:=ta.map V.ref) yQ (fun σ=>∃v:Option V,σ=[v,some (.ref nj)]) (fun j ys=>ys=((told.take j).map fun u=>iM u nv).map V.bl)
      (aD.of vE) fi ⟨none,rfl⟩ (ao.new fi) af rfl (by rw[List.length_map];omega) ?_ ?_ ?_⟩
     ·rintro j ys rfl
      rw[List.length_map,List.length_map,List.length_take];omega
     ·rintro j y σ FT ys hy ⟨v,rfl⟩ sy qx rfl N2 M2 xr
      obtain⟨uj,NY,rfl⟩:=b9 hy
      obtain⟨u,hu,IL,_⟩:=(AA.same sy).get NY
      refine⟨_,rfl,_,rfl,uj,nj,u,nv,rfl,IL,sy _ _ NW,by rw[Xt u (List.mem_of_getElem? hu)];omega,fun Vl FN=>xr _ _ _ ⟨_,rfl⟩ (sy.trans FN) (FN _ _ qx) ?_⟩
      rw[ay hu,List.map_append,List.map_append]
      rfl
     ·rintro FT ys sy qx rfl
      rw[List.length_map,Xu,List.take_length] at qx
      have NZ:(told.map fun u=>iM u nv).any id=told.any fun u=>iM u nv:=by rw[List.any_map];rfl
      refine⟨L3,_,rfl,aD.of qx,_,rfl,gz (fun c=>?_) fun c=>?_⟩
      ·rw[NZ] at c
       refine⟨_,rfl,hN _ _ _ ⟨_,rfl⟩ (hs.trans sy) (sy _ _ qw) ⟨lb++[nj],by rw[List.map_append];rfl,by simp;omega,?_,fun b hb=>(List.mem_append.mp hb).elim (Vk b) fun hb=>by rw[List.mem_singleton.mp hb];exact List.mem_of_getElem? hnj⟩⟩
       rw[ay hnv,List.filter_append,show [nv].filter (fun v=>!(told.any fun u=>iM u v))=[nv] by simp only [List.filter_cons,c,if_true,List.filter_nil]]
       exact qM.snoc hna (by simp)
      ·rw[NZ] at c
       refine hM _ _ ⟨_,rfl⟩ (hs.trans sy) (sy _ _ qw) ⟨lb,rfl,by omega,?_,Vk⟩
       rw[ay hnv,List.filter_append,show [nv].filter (fun v=>!(told.any fun u=>iM u v))=[] by simp only [List.filter_cons,c,List.filter_nil];rfl,List.append_nil]
       exact qM
    rintro yQ ys nV qw ⟨lb,rfl,zG,qM,Vk⟩
    rw[List.length_map,Fv,List.take_length] at qM
    rw[List.length_map] at zG
    have vE:=nV _ _ (Az _ _ NT)
    have AA:=(NU.same Az).same nV
    refine⟨TL,L2,_,_,rfl,rfl,vE,qw,by rw[List.length_map,List.length_map];omega,fun Vm Xy=>?_⟩
    have sT:=ao.new (o:= .lst (ta.map V.ref++lb.map V.ref)) Xy
    have N0:(upd yQ Vm (.lst (ta.map V.ref++lb.map V.ref))) Vm=some (.lst ((ta++lb).map V.ref)):=by rw[af,List.map_append]
    generalize upd yQ Vm (.lst (ta.map V.ref++lb.map V.ref))=FT at sT N0 ⊢
    have IM:=(Az.trans nV).trans sT
    have N1:=IM _ _ IK
    dsimp only [aV]
    refine⟨_,rfl,G,rfl,⟨_,aD.of N1⟩,fun L4 qq=>iU (K:=K) (a:=G) (L:=L4) (xs:=gA.map V.ref) FT (fun σ=>∃v:Option V,σ=[v]) (fun i ys=>∃la:List Addr,ys=la.map V.ref∧la.length≤i∧pf TC bz wd [] H FT la ((gr.take i).filter fun t=>!lev t.1))
     (aD.of N1) qq ⟨none,rfl⟩ (ao.new qq) af ⟨[],rfl,Nat.le_refl _, .nil⟩ (by rw[List.length_map];omega) ?_ ?_ ?_⟩
    ·rintro i ys ⟨la,rfl,h,_⟩
     rw[List.length_map]
     exact h
    ·rintro i y σ Vl ys hy ⟨v,rfl⟩ hs C4 ⟨lc,rfl,llc,vF⟩ N M hN hM
     obtain⟨t,ht,rfl⟩:=b9 hy
     obtain⟨x,hx,hT⟩:=gG C0 ht
     have N3:=hT.same IM
     have N4:=N3.same hs
     obtain⟨dx,fs,a,b,h1,h2,h3,_⟩:=id N4
     refine⟨_,rfl,t,dx,fs,rfl,h1,h2.no _ (by decide+kernel) (by decide+kernel) (by decide+kernel),t,bz,wd,x,rfl,N4.has,_,rfl,gz (fun c=>?_) fun c=>?_⟩
     ·rw[CZ] at c
      refine⟨_,rfl,hN _ _ _ ⟨_,rfl⟩ hs C4 ⟨lc++[t],by rw[List.map_append];rfl,by simp;omega,?_⟩⟩
      rw[ay hx,List.filter_append,show [x].filter (fun t=>!lev t.1)=[x] by simp only [List.filter_cons,c,if_true,List.filter_nil]]
      exact iY N3 vF
     ·rw[CZ] at c
      refine hM _ _ ⟨_,rfl⟩ hs C4 ⟨lc,rfl,by omega,?_⟩
      rw[ay hx,List.filter_append,show [x].filter (fun t=>!lev t.1)=[] by simp only [List.filter_cons,c,List.filter_nil];rfl,List.append_nil]
      exact vF
    rintro Vl ys C5 C4 ⟨lc,rfl,llc,vF⟩
    rw[List.length_map,Xv,List.take_length] at vF
    refine⟨Vm,L4,ta++lb,lc,_,_,_,_,rfl,C5 _ _ N0,?_,(fun b hb=>(List.mem_append.mp hb).elim (sZ b) fun hb=>x8 b (Vk b hb)),C4,?_,(e7.trans e8).trans (IM.trans C5)⟩
    ·unfold nJ
     rw[hgg,Xx]
     exact((xC AA (qM.same nV)).same sT).same C5
    ·unfold Aa
     rw[hgg]
     exact bR (fun _ _ z=>z.same C5) vF
  ·rintro σ H7 ⟨TL,TR,ta,tA,v5,v6,v7,v8,rfl,NO,IJ,sZ,LQ,Xs,e7⟩
   have t64:=Vb most (Nat.le_refl _)
   have Xt:∀v∈(bC lev m most).1,v.length=m:=fun v hv=>((ntk most v).mp hv).1.1.1
   have em:((most:Nat):Int).toNat=most:=by omega
   rw[em] at IJ
   generalize (bC lev m most).1=told at*
   have Xu:=IJ.length
   refine⟨_,rfl,TL,ta,told,m,rfl,aD.of NO,IJ.at,Xt,fun l ps LL Xz LR=>?_⟩
   have pm:∀i∈ps,i<ta.length:=fun i hi=>by simpa using LL.mem_iff.mp hi
   refine q l _ (qi told ps) _ ((e6.trans e7).free LR) ((e6.trans e7).trans (ao.new LR)) ?_ Xz af ((g6 IJ ps pm).same (ao.new LR)) fun b hb=>?_
   ·have h1:=LL.map fun i=>told.getD i []
    rw[Xu,map_range] at h1
    exact h1
   ·obtain⟨i,hi,rfl⟩:=List.mem_map.mp hb
    have:=pm i hi
    exact sZ _ (by rw[List.getD_eq_getElem?_getD,List.getElem?_eq_getElem this];exact List.getElem_mem _)
theorem sC{α:Type}(x:Int)(f g:α→Int):∀(z:List Int) (l:List α),dot z (l.map fun a=>x*f a+g a)=x*dot z (l.map f)+dot z (l.map g)
 | [],l=>by
   have e:∀y:List Int,dot [] y=0:=fun y=>by cases y<;>rfl
   rw[e,e,e]
   simp
 |a::z,[]=>by
  show (0 :Int)=x*0+0
  simp
 |a::z,b::l=>by
  have ih:=sC x f g z l
  show a*(x*f b+g b)+dot z (l.map fun a=>x*f a+g a)=x*(a*f b+dot z (l.map f))+(a*g b+dot z (l.map g))
  rw[ih,Int.mul_add,Int.mul_add,Int.mul_left_comm]
  omega
theorem nil_dot(y:List Int):dot [] y=0:=by cases y<;>rfl
theorem jD{α:Type}:∀(z:List Int) (l:List α),dot z (l.map fun _=>0)=0
 | [],_=>nil_dot _
 |_::_,[]=>rfl
 |a::z,_::l=>by
  show a*0+dot z (l.map fun _=>0)=0
  rw[jD z l]
  simp
theorem sD{n:Nat}{T:List Int}:∀(cs:List (List Int)) (v:List Int),(∀c∈cs,c.length=n)→v.length=cs.length→dot v (cs.map fun c=>dot T c)=dot T ((List.range n).map fun r=>dot v (row cs r))
 | [],v,_,hv=>by
   have e:v=[]:=List.length_eq_zero_iff.mp hv
   subst e
   have e2:((List.range n).map fun r=>dot [] (row [] r))=(List.range n).map fun _=>(0 :Int):=List.map_congr_left fun r _=>nil_dot _
   rw[e2,jD]
   rfl
 |c::cs,[],_,hv=>by simp at hv
 |c::cs,x::v,hc,hv=>by
  have ih:=sD (T:=T) cs v (fun d hd=>hc d (List.mem_cons_of_mem _ hd)) (by simpa using hv)
  have lc:=hc c (List.mem_cons_self ..)
  have e1:((List.range n).map fun r=>dot (x::v) (row (c::cs) r))=(List.range n).map fun r=>x*c.getD r 0+dot v (row cs r):=rfl
  have e2:((List.range n).map fun r=>c.getD r 0)=c:=by rw[←lc];exact map_range 0 c
  rw[e1,sC,e2,←ih]
  rfl
theorem sE:∀(T D:List Int) (f:Nat),T.length=D.length→f<T.length→(∀r,r≠f→T.getD r 0=0∨D.getD r 0=0)→dot T D=T.getD f 0*D.getD f 0
 |a::T,b::D,0,hl,_,h=>by
  have z:∀(T D:List Int),(∀r,T.getD r 0=0∨D.getD r 0=0)→dot T D=0:=by
   intro T
   induction T with
   |nil=>intro D _;exact nil_dot D
   |cons a T ih=>
    intro D h
    cases D with
    |nil=>rfl
    |cons b D=>
     have h0:a=0∨b=0:=h 0
     show a*b+dot T D=0
     rw[ih D fun r=>h (r+1)]
     rcases h0 with h0|h0<;>rw[h0]<;>simp
  show a*b+dot T D=a*b
  rw[z T D fun r=>h (r+1) (by omega),Int.add_zero]
 |a::T,b::D,f+1,hl,hf,h=>by
  have h0:a=0∨b=0:=h 0 (by omega)
  have ih:=sE T D f (by simpa using hl) (by simpa using hf) fun r hr=>h (r+1) (by omega)
  show a*b+dot T D=T.getD f 0*D.getD f 0
  rw[ih]
  rcases h0 with h0|h0<;>rw[h0]<;>simp
 | [],_,_,_,hf,_=>by simp at hf
 |_::_,[],_,hl,_,_=>by simp at hl
theorem iO(cs:List (List Int))(n:Nat):(cM cs n).length=n:=by unfold cM;simp
theorem AB{cs:List (List Int)}{n:Nat}(fit:∀c∈cs,c.length=n∧∀x∈c,cP 70 x):∀c∈cM cs n,c.length=cs.length∧∀x∈c,cP 70 x:=by
 intro c hc
 obtain⟨r,hr,rfl⟩:=List.mem_map.mp hc
 refine⟨fh cs r,fun x hx=>?_⟩
 obtain⟨d,hd,rfl⟩:=List.mem_map.mp hx
 have hr:r<n:=by simpa using hr
 exact(fit d hd).2 _ (List.mem_of_getElem? (getD_at (by rw[(fit d hd).1];exact hr)))
theorem vG{cs:List (List Int)}{n j r:Nat}(hj:(aQ cs n)[j]? =some r):row (dR cs n) j=row cs r:=by
 unfold row dR
 rw[List.map_map]
 apply List.map_congr_left
 intro c _
 show ((aQ cs n).map fun r=>c.getD r 0).getD j 0=_
 rw[List.getD_eq_getElem?_getD,List.getElem?_map,hj]
 rfl
theorem mD(bz:List (List Int))(wd:Nat)(v:List Int):eJ bz wd v=true↔∀r,r<wd→dot v (row bz r)=0:=by
 unfold eJ dY
 rw[Bool.not_eq_true',List.any_eq_false]
 constructor
 ·intro h r hr
  have:=h (dot v (row bz r)) (List.mem_map.mpr ⟨r,by simpa using hr,rfl⟩)
  simpa using this
 ·intro h x hx
  obtain⟨r,hr,rfl⟩:=List.mem_map.mp hx
  have:=h r (by simpa using hr)
  simpa using this
theorem pk{cs:List (List Int)}{n:Nat}(hn:n≤60)(hl:cs.length≤60)(fit:∀c∈cs,c.length=n∧∀x∈c,cP 70 x){v:List Int}(hv:v.length=cs.length):eJ (dR cs n) (aQ cs n).length v=true↔∀r,r<n→dot v (row cs r)=0:=by
 have g:=qt (n:=cs.length) (cs:=cM cs n) (by omega) (by rw[iO];omega) (AB fit)
 have ge:(dm (cM cs n).length (cM cs n)).st.places=aQ cs n:=rfl
 rw[mD]
 constructor
 ·intro h r hr
  have hp:∀q∈aQ cs n,dot v (row cs q)=0:=fun q hq=>by
   obtain⟨j,hj⟩:=List.getElem?_of_mem hq
   rw[←vG hj]
   exact h j (List.getElem?_eq_some_iff.mp hj).1
  rcases g.T.all r (by rw[iO];exact hr) with z|z
  ·exact hp r z
  ·obtain⟨a,ha⟩:=List.getElem?_of_mem z
   have la:a< (dm (cM cs n).length (cM cs n)).ck.length:=by rw[g.T.nn];exact(List.getElem?_eq_some_iff.mp ha).1
   have hT:=List.getElem?_eq_getElem la
   generalize (dm (cM cs n).length (cM cs n)).ck[a]=T at hT
   have LT:=g.T.lev a r T ha hT
   have lT:T.length=n:=by rw[LT.len,iO]
   have h0:∀c∈cs,dot T c=0:=fun c hc=>by
    obtain⟨t,ht⟩:=List.getElem?_of_mem hc
    have IP:=(List.getElem?_eq_some_iff.mp ht).1
    have:=LT.lev t IP
    have e:row (cM cs n) t=c:=by
     have lc:=(fit c hc).1
     unfold row cM
     rw[List.map_map,←map_range 0 c,lc]
     apply List.map_congr_left
     intro q _
     show (row cs q).getD t 0=_
     rw[gF IP,List.getD_eq_getElem?_getD (l:=cs),ht]
     rfl
    rwa [e] at this
   have e1:=sD (n:=n) (T:=T) cs v (fun c hc=>(fit c hc).1) hv
   have e2:(cs.map fun c=>dot T c)=cs.map fun _=>(0 :Int):=List.map_congr_left h0
   rw[e2,jD] at e1
   have dg:∀q,q<n→((List.range n).map fun r=>dot v (row cs r)).getD q 0=dot v (row cs q):=fun q hq=>by
    rw[List.getD_eq_getElem?_getD,List.getElem?_map,List.getElem?_range hq]
    rfl
   rw[sE T _ r (by simp [lT]) (by omega) fun q hq=>?_,dg r hr] at e1
   ·have:=LT.pos
    rcases Int.mul_eq_zero.mp e1.symm with y|y
    ·omega
    ·exact y
   ·by_cases XA:q∈aQ cs n
    ·have:=g.T.qK q XA
     rw[iO] at this
     exact .inr (by rw[dg q this];exact hp q XA)
    ·exact .inl (LT.zero q hq (.inl XA))
 ·intro h j hj
  have hm:=List.getElem?_eq_getElem hj
  generalize (aQ cs n)[j]=r at hm
  rw[vG hm]
  refine h r ?_
  have:=g.T.qK r (List.mem_of_getElem? hm)
  rwa [iO] at this
theorem AD{α:Type}[DecidableEq α]:∀{l m:List α},l.Nodup→(∀x∈l,x∈m)→l.length≤m.length
 | [],_,_,_=>Nat.zero_le _
 |a::l,m,hn,hs=>by
  rw[List.nodup_cons] at hn
  have ha:=hs a (List.mem_cons_self ..)
  have ih:=AD (l:=l) (m:=m.erase a) hn.2 fun x hx=>by
   have ka:=hs x (List.mem_cons_of_mem _ hx)
   have ne:x≠a:=fun z=>hn.1 (z▸hx)
   exact(List.mem_erase_of_ne ne).mpr ka
  have h1:=List.length_erase_of_mem ha
  have h2:=List.length_pos_of_mem ha
  rw[List.length_cons]
  omega
theorem xD(lev:List Int→Bool)(m:Nat):∀k,(bC lev m k).2.length≤m^k∧(bB m (bC lev m k).2).length≤m^(k+1):=by
 have gr:∀ts:List eE,(bB m ts).length≤m*ts.length:=by
  intro ts
  induction ts with
  |nil=>exact Nat.le_refl _
  |cons t r ih=>
   have e:bB m (t::r)=(List.range' t.2 (m - t.2)).map (fun p=>(jA t.1 p,p))++bB m r:=by unfold bB;rw[List.flatMap_cons]
   rw[e,List.length_append,List.length_map,List.length_range',List.length_cons,Nat.mul_succ]
   omega
 intro k
 induction k with
 |zero=>exact⟨Nat.le_refl _,by have:=gr (bC lev m 0).2;simpa [bC] using this⟩
 |succ k ih=>
  have h1:(bC lev m (k+1)).2.length≤m^(k+1):=Nat.le_trans (List.length_filter_le _ _) ih.2
  refine⟨h1,Nat.le_trans (gr _) ?_⟩
  rw[Nat.pow_succ m (k+1),Nat.mul_comm]
  exact Nat.mul_le_mul_right m h1
theorem vH{b:Bool}{A B:Prop}(hb:b=false)(h:B):if b=true then A else B:=by
 subst hb
 exact lQ h
structure IQ(K:PySem.W.Frag)(mg:Str→Option Value)(C:Addr):Prop where
 hV:mg "sum" =none
 b8:mg "range" =none
theorem none_back{H H':Hp}{D:Addr}(e:ao H H')(h:H' D=none):H D=none:=e.free h
theorem IS{n i:Nat}(h:i<n):qW n (i:Int)=some i:=by
 unfold qW
 rw[if_pos (by omega),if_pos (by omega)]
 rfl
def uu(K:PySem.W.Frag):Sp:=fun vs H Q _=>∃(a:Addr) (ns:List Int) (p:Int),vs=[.ref a, .int p]∧aD K H a (ns.map V.int)∧∀n H',ao H H'→Q (.int n) H'
theorem IT:aI ["_law_script","_law_place"] ["_law_script","_law_place"] (ag lG):=iC
theorem C7(D:Def K mg "_law_here" "_law_here" lG ["_law_script","_law_place"])(T:IQ K mg C):bM P w K mg base 1 "_law_here" ["_law_script","_law_place"] (uu K):=by
 refine D.ic IT (fun vs H Q E h=>?_) (fun f bW A outer s H vs Q E hr h=>?_)
 ·obtain⟨a,ns,p,rfl,_⟩:=h
  rfl
 ·obtain⟨a,ns,p,rfl,hS,q⟩:=h
  obtain⟨ms,hm,_⟩:=yV ns (some p) (some (p+1))
  refine⟨_,(av
     (aR (aA (dM rfl) rfl T.hV fZ (aa (qV uR (pv 0) (pK (pv 1)) (pK (aJ fq (pv 1) az))) ai)))),?_⟩
  exact⟨_,rfl,_,rfl,_,rfl,_,rfl,_,_,rfl,rfl,_,rfl,a,_,rfl,hS,fun t ht=>⟨t,ms,rfl,aD.of (by rw[af,hm]),q _ _ (ao.new ht)⟩⟩
def IU(x:Int):Prop:=0≤x∧x<1999999973
theorem uv(n:Int):IU (n%1999999973):=⟨Int.emod_nonneg _ (by decide),Int.emod_lt_of_pos _ (by decide)⟩
def nX:Sp:=fun vs H Q _=>∃c m:Int,vs=[.int c, .int m]∧0≤m∧m≤63∧∀(l:Addr) (xs:List Int) H',(xs.length:Int)=m→(∀x∈xs,IU x)→H l=none→H' l=some (.lst (xs.map V.int))→ao H H'→Q (.ref l) H'
theorem cD:aI ["_law_cell","_law_many","_law_rest","_law_one","_law_two","_law_found","_law_turn","_law_more","_law_k"] ["_law_cell","_law_many"] (ag fR):=iC
theorem xE(D:Def K mg "_law_shaken" "_law_shaken" fR ["_law_cell","_law_many"])(T:IQ K mg C):bM P w K mg base 1 "_law_shaken" ["_law_cell","_law_many"] nX:=by
 refine D.ic cD (fun vs H Q E h=>?_) (fun f bW A outer s H vs Q E hr h=>?_)
 ·obtain⟨c,m,rfl,_⟩:=h
  rfl
 ·obtain⟨c,m,rfl,m0,m1,q⟩:=h
  have big:(2000 :Nat) <sizeLine:=by decide
  refine⟨_,(ak
     (aG (i:=2) cD.nd rfl (Or.inl rfl) (aJ mZ (pv 0) az))
    (ak
     (aG (i:=3) cD.nd rfl (Or.inl rfl) (aJ dw (pv 2) az))
    (ak
     (aG (i:=4) cD.nd rfl (Or.inl rfl) (aJ dw (aJ mZ (pv 2) az) az))
    (ak
     (aG (i:=5) cD.nd rfl (Or.inl rfl) (bq ai))
    (ak
     (cy PassesOwn.never rfl (bD rfl T.b8 (aa (aJ fq (pv 1) az) ai)) (aw (i:=6) cD.nd rfl (Or.inl rfl))
      (ak
       (aG (i:=7) cD.nd rfl (Or.inl rfl) (aJ fq (aJ fq (aJ fq (aJ ik (pv 3) az) (aJ ik (pv 4) (pv 4))) (aJ ik az (pv 6))) az))
      (ak
       (aG (i:=3) cD.nd rfl (Or.inl rfl) (pv 4))
      (ak
       (aG (i:=4) cD.nd rfl (Or.inl rfl) (aJ dw (pv 7) az))
      (av
       (cI (ip PySem.F.plainAttrs_list PySem.F.slot_list_append PySem.F.type_list_append bY (pv 5) (aa (pv 4) ai))))))))
    (ak
     (aG (i:=5) cD.nd rfl (Or.inl rfl) (qV uR (pv 5) (pK az) BK))
    (ak
     (dF (cg uO (aJ dw (pv 0) az) az (cm _))
      (av
       (aR (pv 5)))
      bI)
    (ak
     (cy PassesOwn.never rfl (bD rfl T.b8 (aa (pv 1) ai)) (aw (i:=8) cD.nd rfl (Or.inl rfl))
      (av
       (dF (cg Fe (pv 2) az (cm _))
        (ak
         (ky (aJ dw (pv 2) az) (kv (pv 5) (pv 8) set_list))
        (av
         (aG (i:=2) cD.nd rfl (Or.inl rfl) (aJ mZ (pv 2) az))))
        bI)))
    (av
     (aR (pv 5))))))))))),?_⟩
  have o1:=uv (c/2)
  have t0:0≤c/2/1999999973%1999999943:=Int.emod_nonneg _ (by decide)
  have t1:c/2/1999999973%1999999943<1999999943:=Int.emod_lt_of_pos _ (by decide)
  refine⟨_,rfl,_,_,rfl,rfl,⟨by decide,by decide⟩,_,rfl,_,_,rfl,rfl,(by show (0 :Int) <1999999973;decide),_,rfl,_,_,rfl,rfl,⟨by decide,by decide⟩,_,_,rfl,rfl,(by show (0 :Int) <1999999943;decide),(by show 0≤sizeLine;decide),fun D1 FU=>?_⟩
  refine⟨_,rfl,_,_,rfl,rfl,_,rfl,by omega,by omega,cT (fun i σ H'=>∃(one two:Int) (xs:List Int) (v6 v7:Option V),σ=[some (.int c),some (.int m),some (.int (c/2)),some (.int one),some (.int two),some (.ref D1),v6,v7,none]∧IU one∧IU two∧H' D1=some (.lst (xs.map V.int))∧xs.length=i∧(∀x∈xs,IU x)∧ao H H') ?_ ?_ ?_⟩
  ·exact⟨_,_,[],none,none,rfl,o1,⟨t0,by omega⟩,af,rfl,(fun x hx=>by cases hx),ao.new FU⟩
  ·rintro i σ H' hi ⟨one,two,xs,v6,v7,rfl,h1,h2,FV,hl,hx,e⟩
   obtain⟨a0,a1⟩:=h1
   obtain⟨b0,b1⟩:=id h2
   refine⟨_,rfl,_,_,rfl,rfl, .inr ⟨by decide,by decide⟩,_,rfl,_,rfl,_,_,rfl,rfl, .inl ⟨by omega,by omega⟩,_,_,rfl,rfl,_,rfl,_,_,rfl,rfl, .inl ⟨by decide,by decide⟩,_,_,rfl,rfl,_,_,rfl,rfl,?_⟩
   refine⟨_,rfl,_,rfl,_,_,rfl,rfl,(by show (0 :Int) <1999999973;decide),_,rfl, .inl ⟨rfl,_,aD.of FV⟩,_,rfl,D1,_,_,rfl,rfl,FV,by rw[List.length_map];omega,?_⟩
   have hn:=uv (one*1664525+two*two+97*(0+(i:Int))+40503)
   refine⟨two,_,xs++[(one*1664525+two*two+97*(0+(i:Int))+40503) %1999999973],_,_,rfl,h2,hn,?_,?_,?_,fun b o z=>by rw[aq (ah z FU)];exact e _ _ z⟩
   ·rw[af,List.map_append]
    rfl
   ·rw[List.length_append,hl]
    rfl
   ·intro x ka
    rcases List.mem_append.mp ka with z|z
    ·exact hx x z
    ·have ez:x=(one*1664525+two*two+97*(0+(i:Int))+40503) %1999999973:=by simpa using z
     rw[ez]
     exact hn
  ·rintro σ H' ⟨one,two,xs,v6,v7,rfl,_,_,FV,hl,hx,e⟩
   refine⟨_,rfl,_,rfl,D1,_,rfl,aD.of FV,fun p hp=>?_⟩
   have ec:kG (xs.map V.int) (some (2 :Int)) none=(xs.drop 2).map V.int:=by
    rw[show (2 :Int)=((2 :Nat):Int) from rfl,Hn,List.map_drop]
   have np:H p=none:=none_back e hp
   have sp:=e.trans (ao.new (o:= .lst (kG (xs.map V.int) (some (2 :Int)) none)) hp)
   have Vn:(upd H' p (.lst (kG (xs.map V.int) (some (2 :Int)) none))) p=some (.lst ((xs.drop 2).map V.int)):=by rw[af,ec]
   have lx:((xs.drop 2).length:Int)=m:=by rw[List.length_drop];omega
   have XB:∀x∈xs.drop 2,IU x:=fun x z=>hx x (List.mem_of_mem_drop z)
   generalize upd H' p (.lst (kG (xs.map V.int) (some (2 :Int)) none))=H2 at sp Vn ⊢
   generalize xs.drop 2=zs at Vn lx XB
   dsimp only [aV]
   refine⟨_,rfl,_,_,rfl,rfl,(by show (0 :Int) <2;decide),rfl,_,rfl,gz (fun _=>?_) fun _=>?_⟩
   ·exact⟨_,rfl,q p zs H2 lx XB np Vn sp⟩
   ·refine⟨_,rfl,_,rfl,by omega,by omega,cT (fun i σ H'=>∃(rest:Int) (ys:List Int) (v8:Option V),σ=[some (.int c),some (.int m),some (.int rest),some (.int one),some (.int two),some (.ref p),v6,v7,v8]∧H' p=some (.lst (ys.map V.int))∧(ys.length:Int)=m∧(∀x∈ys,IU x)∧ao H H') ?_ ?_ ?_⟩
    ·exact⟨_,zs,none,rfl,Vn,lx,XB,sp⟩
    ·rintro i σ H3 hi ⟨rest,ys,v8,rfl,Vo,ly,hy,e3⟩
     refine⟨_,rfl,_,_,rfl,rfl,_,rfl,gz (fun _=>?_) fun _=>?_⟩
     ·have gK:i<ys.length:=by omega
      have Xk:qW (ys.map V.int).length (0+(i:Int))=some i:=by rw[List.length_map,Int.zero_add];exact IS gK
      refine⟨_,rfl,_,_,rfl,rfl,(by show (0 :Int) <1999999973;decide),_,rfl,_,rfl,p,_,_,i,rfl,rfl,Vo,Xk,?_⟩
      refine⟨_,rfl,_,_,rfl,rfl,⟨by decide,by decide⟩,_,ys.set i (rest%1999999973),_,rfl,?_,?_,?_,fun b o z=>by rw[aq (ah z np)];exact e3 _ _ z⟩
      ·rw[af,List.map_set]
      ·rw[List.length_set]
       exact ly
      ·intro x ka
       rcases List.mem_or_eq_of_mem_set ka with z|z
       ·exact hy x z
       ·rw[z]
        exact uv rest
     ·exact⟨rest,ys,_,rfl,Vo,ly,hy,e3⟩
    ·rintro σ H3 ⟨rest,ys,v8,rfl,Vo,ly,hy,e3⟩
     exact⟨_,rfl,q p ys H3 ly hy np Vo e3⟩
def BdC(B R:Nat)(c:List Int):Prop:=c.length=R∧∀x∈c,x.natAbs≤B
def px(K:PySem.W.Frag):Sp:=fun vs H Q _=>∃(a:Addr) (ns:List Int),vs=[.ref a]∧aD K H a (ns.map V.int)∧
 ∀l as cs n H',ao H H'→H' l=some (.lst (as.map V.ref))→aK [] H' as cs→(∀c∈cs,c.length=n∧∀x∈c,cP 70 x)→n≤3→1≤cs.length→cs.length≤4→Q (.ref l) H'
theorem bO:aI ["_law_script","_law_first","_law_many","_law_rows","_law_columns_here","_law_j","_law_times","_law_last","_law_share","_law_shares","_law_factors"] ["_law_script"] (ag bQ):=iC
def xF:Scope:=match (aC bQ).getD 8 (.Pass ⟨0,0,0,0⟩) with
 | .Return (some (.ListComp _ _ sc _)) _=>sc
 |_=>ag bQ
theorem pz{W:List Addr}{H:Hp}{a:Addr}{c:List Int}(h:H a=some (.lst (c.map V.int)))(n:a∉W):∀{as:List Addr} {cs:List (List Int)} (j:Nat),aK W H as cs→aK W H (as.set j a) (cs.set j c)
 |_,_,_, .nil=> .nil
 |_,_,0, .cons _ t=> .cons ⟨h,n⟩ t
 |_,_,j+1, .cons k t=> .cons k (pz h n j t)
theorem AE{n:Nat}(h:0<n):qW n (-1)=some (n - 1):=by
 unfold qW
 rw[if_neg (by decide),if_pos (by omega)]
 congr 1
 omega
theorem uw(D:Def K mg "_law_columns" "_law_columns" bQ ["_law_script"])(T:gY K mg KC FC TC)(c1:bM P w K mg base 1 "_law_here" ["_law_script","_law_place"] (uu K))(c2:bM P w K mg base 1 "_law_shaken" ["_law_cell","_law_many"] nX):bM P w K mg base 2 "_law_columns" ["_law_script"] (px K):=by
 obtain⟨_,_,aN⟩:=c1
 obtain⟨_,_,a9⟩:=c2
 refine D.ic bO (fun vs H Q E h=>?_) (fun f bW A outer s H vs Q E hr h=>?_)
 ·obtain⟨a,ns,rfl,_⟩:=h
  rfl
 ·obtain⟨a,ns,rfl,hS,q⟩:=h
  have big:(5000 :Nat)≤sizeLine:=by decide
  refine⟨_,(ak
     (aG (i:=1) bO.nd rfl (Or.inl rfl) (aO aN.ok (hr.mono (by decide)) rfl aN.g aN.kp aN.b .nil aX (aa (pv 0) (aa az ai))))
    (ak
     (aG (i:=2) bO.nd rfl (Or.inl rfl) (aJ fq az (aJ dw (pv 1) az)))
    (ak
     (aG (i:=3) bO.nd rfl (Or.inl rfl) (cJ dr (bq (uW (.int (.int (.int (.int (.int (.int (.int (.int .nil)))))))))) (aJ dw (aJ ma (pv 1) az) az) (fun _ _=>rfl)))
    (ak
     (aG (i:=4) bO.nd rfl (Or.inl rfl) (bq ai))
    (ak
     (cy PassesOwn.never rfl (bD rfl T.b8 (aa (pv 2) ai)) (aw (i:=5) bO.nd rfl (Or.inl rfl))
      (av
       (cI (ip PySem.F.plainAttrs_list PySem.F.slot_list_append PySem.F.type_list_append bY (pv 4) (aa (bb (sc:=(ag bQ)) (NX:=["_law_script","_law_first","_law_many","_law_rows","_law_columns_here","_law_j","_law_times","_law_last","_law_share","_law_shares","_law_factors"]) (N:=["_law_x"]) (fr:=[none]) ⟨by rfl,by rfl,by decide+kernel,by decide+kernel,by decide+kernel,by rfl,by decide+kernel⟩ rfl rfl rfl (bh (aO a9.ok (hr.mono (by decide)) rfl a9.g a9.kp a9.b .nil aX (aa (aO aN.ok (hr.mono (by decide)) rfl aN.g aN.kp aN.b .nil aX (aa (pv 0) (aa (aJ fq az (pv 5)) ai))) (aa (pv 3) ai)))) (fun _ _ _ _=>(aw (i:=0) (show (["_law_x"]:List Str).Nodup by decide+kernel) rfl (Or.inl rfl) (Or.inr rfl))) (fun _ _ _ _=>aT) (fun _ _ _ _=>(aJ fu (aJ dw (pv 0) az) az))) ai)))))
    (ak
     (dF (cg uO (aJ dw (aJ ma (pv 1) az) az) az (cm _))
      (ak
       (aG (i:=6) bO.nd rfl (Or.inl rfl) (aO a9.ok (hr.mono (by decide)) rfl a9.g a9.kp a9.b .nil aX (aa (aO aN.ok (hr.mono (by decide)) rfl aN.g aN.kp aN.b .nil aX (aa (pv 0) (aa az ai))) (aa (pv 2) ai))))
      (ak
       (aG (i:=7) bO.nd rfl (Or.inl rfl) (aJ mQ (bq (aa az ai)) (pv 3)))
      (ak
       (cy PassesOwn.never rfl (bD rfl T.b8 (aa (aJ fu (pv 2) az) ai)) (aw (i:=5) bO.nd rfl (Or.inl rfl))
        (ak
         (aG (i:=8) bO.nd rfl (Or.inr rfl) (aJ dw (cJ dr (pv 6) (pv 5) (fun _ _=>rfl)) az))
        (av
         (eP (i:=7) bO.nd rfl (Or.inl rfl) (sc:=(ag bQ)) (NX:=["_law_script","_law_first","_law_many","_law_rows","_law_columns_here","_law_j","_law_times","_law_last","_law_share","_law_shares","_law_factors"]) (N:=["_law_a","_law_b","_law_share"]) (fr:=[none,none,some 8]) ⟨by rfl,by rfl,by decide+kernel,by decide+kernel,by decide+kernel,by rfl,by decide+kernel⟩ rfl rfl rfl (dy rfl T.fE (aa (pv 7) (aa (cJ dr (pv 4) (pv 5) (fun _ _=>rfl)) ai))) (fun _ _ _ _=>(cK K 2 rfl rfl (aL (aw (i:=0) (show (["_law_a","_law_b","_law_share"]:List Str).Nodup by decide+kernel) rfl (Or.inl rfl) (Or.inr rfl)) (aL (aw (i:=1) (show (["_law_a","_law_b","_law_share"]:List Str).Nodup by decide+kernel) rfl (Or.inl rfl) (Or.inr rfl)) bU)))) (fun _ _ _ _=>aT) (fun _ _ _ _=>(aJ fu (pv 0) (aJ ik (pv 2) (pv 1))))))))
      (av
       (ky (pv 7) (kv (pv 4) (yv tu az) set_list))))))
      bI)
    (ak
     (aG (i:=9) bO.nd rfl (Or.inr rfl) (bq (aa az (aa az (aa az (aa (aJ fq (aJ tq az az) az) (aa (aJ fq (aJ tq az az) az) ai)))))))
    (ak
     (aG (i:=10) bO.nd rfl (Or.inr rfl) (bb (sc:=(ag bQ)) (NX:=["_law_script","_law_first","_law_many","_law_rows","_law_columns_here","_law_j","_law_times","_law_last","_law_share","_law_shares","_law_factors"]) (N:=["_law_x","_law_shares"]) (fr:=[none,some 9]) ⟨by rfl,by rfl,by decide+kernel,by decide+kernel,by decide+kernel,by rfl,by decide+kernel⟩ rfl rfl rfl (bh (aO a9.ok (hr.mono (by decide)) rfl a9.g a9.kp a9.b .nil aX (aa (aO aN.ok (hr.mono (by decide)) rfl aN.g aN.kp aN.b .nil aX (aa (pv 0) (aa az ai))) (aa (pv 3) ai)))) (fun _ _ _ _=>(aw (i:=0) (show (["_law_x","_law_shares"]:List Str).Nodup by decide+kernel) rfl (Or.inl rfl) (Or.inr rfl))) (fun _ _ _ _=>aT) (fun _ _ _ _=>(cJ (cp K rfl) (pv 1) (aJ dw (pv 0) az) (fun _ _=>rfl)))))
    (av
     (aR (bb (sc:=(ag bQ)) (NX:=["_law_script","_law_first","_law_many","_law_rows","_law_columns_here","_law_j","_law_times","_law_last","_law_share","_law_shares","_law_factors"]) (N:=["_law_column","_law_factors"]) (fr:=[none,some 10]) ⟨by rfl,by rfl,by decide+kernel,by decide+kernel,by decide+kernel,by rfl,by decide+kernel⟩ rfl rfl rfl (bh (pv 4)) (fun _ _ _ _=>(aw (i:=0) (show (["_law_column","_law_factors"]:List Str).Nodup by decide+kernel) rfl (Or.inl rfl) (Or.inr rfl))) (fun _ _ _ _=>aT) (fun _ _ _ _=>(bb (sc:=(iz xF (ag bQ))) (NX:=["_law_column","_law_factors"]) (N:=["_law_a","_law_b"]) (fr:=[none,none]) ⟨by rfl,by rfl,by decide+kernel,by decide+kernel,by decide+kernel,by rfl,by decide+kernel⟩ rfl rfl rfl (B4 K rfl rfl T.fE (aa (pv 0) (aa (pv 1) ai))) (fun _ _ _ _=>(cK K 2 rfl rfl (aL (aw (i:=0) (show (["_law_a","_law_b"]:List Str).Nodup by decide+kernel) rfl (Or.inl rfl) (Or.inr rfl)) (aL (aw (i:=1) (show (["_law_a","_law_b"]:List Str).Nodup by decide+kernel) rfl (Or.inl rfl) (Or.inr rfl)) bU)))) (fun _ _ _ _=>aT) (fun _ _ _ _=>(aJ ik (pv 0) (pv 1)))))))))))))))),?_⟩
  refine⟨_,rfl,a,ns,0,rfl,hS,fun n0 H1 e1=>?_⟩
  have b0:0≤n0%4:=Int.emod_nonneg _ (by decide)
  have b1:n0%4<4:=Int.emod_lt_of_pos _ (by decide)
  have d0:0≤n0/4%8:=Int.emod_nonneg _ (by decide)
  have d1:n0/4%8<8:=Int.emod_lt_of_pos _ (by decide)
  obtain⟨v0,hv0,XC⟩:=pO (xs:=([1,2,3,2,1,2,3,0]:List Int).map V.int) d0 d1
  obtain⟨R0,hR0,rfl⟩:=List.mem_map.mp hv0
  obtain⟨R,eR,lR⟩:∃R:Nat,R0=(R:Int)∧R≤3:=by
   simp only [List.mem_cons,List.not_mem_nil,or_false] at hR0
   exact⟨R0.toNat,by omega,by omega⟩
  subst eR
  obtain⟨M,eM,M1,M5⟩:∃M:Nat,1+n0%4=(M:Int)∧1≤M∧M≤4:=⟨(1+n0%4).toNat,by omega,by omega,by omega⟩
  refine⟨_,rfl,_,_,rfl,rfl,(by show (0 :Int) <4;decide),_,_,rfl,rfl,?_⟩
  dsimp only [aV]
  rw[eM]
  refine⟨(by show 8≤sizeLine;decide),fun z0 Vi=>⟨_,rfl,_,_,rfl,rfl,⟨by decide,by decide⟩,_,_,rfl,rfl,(by show (0 :Int) <8;decide),z0,_,_,V.int R,rfl,rfl,aD.of af,XC,?_⟩⟩
  have s2:=e1.trans (ao.new (o:= .lst (([1,2,3,2,1,2,3,0]:List Int).map V.int)) Vi)
  refine⟨(by show 0≤sizeLine;decide),fun D1 FU=>?_⟩
  have s3:=s2.trans (ao.new (o:= .lst []) FU)
  have N5:=s2.free FU
  refine⟨_,rfl,_,rfl,by omega,by omega,cT (fun i σ H'=>∃(as:List Addr) (cs:List (List Int)) (v5:Option V),σ=[some (.ref a),some (.int n0),some (.int M),some (.int R),some (.ref D1),v5,none,none,none,none,none]∧H' D1=some (.lst (as.map V.ref))∧aK [D1] H' as cs∧(∀c∈cs,BdC 24 R c∧∀x∈c,x.natAbs≤4)∧cs.length=i∧ao H H') ?_ ?_ ?_⟩
  ·exact⟨[],[],none,rfl,af, .nil,(fun c hc=>by cases hc),rfl,s3⟩
  ·rintro i σ H' hi ⟨as,cs,v5,rfl,FV,fK,hb,vF,e⟩
   have vC:=fK.length
   have UW:i<4:=by omega
   refine⟨_,rfl, .inl ⟨rfl,_,aD.of FV⟩,_,rfl,_,rfl,_,_,rfl,rfl,a,ns,_,rfl,e.seq hS,fun c H4 e4=>⟨_,rfl,c,_,rfl,by omega,by omega,fun l zs H5 lz hz nl hl e5=>?_⟩⟩
   have Vp:=e4.trans e5
   refine⟨l,rfl,⟨_,aD.of hl⟩,fun L hL=>cC (K:=K) (a:=l) (L:=L) (xs:=zs.map V.int) H5 (fun σ=>∃v:Option V,σ=[v]) (fun j ys=>ys=((zs.take j).map fun x=>x%7 - 3).map V.int)
    (aD.of hl) hL ⟨none,rfl⟩ (ao.new hL) af rfl (by rw[List.length_map];omega) ?_ ?_ ?_⟩
   ·rintro j ys rfl
    rw[List.length_map,List.length_map,List.length_take];omega
   ·rintro j y σ H6 ys hy ⟨v,rfl⟩ lX mC rfl N M hN
    obtain⟨y,pX,rfl⟩:=int_at hy
    refine⟨_,rfl,_,_,rfl,rfl,(by show (0 :Int) <7;decide),_,_,rfl,rfl,hN _ _ _ ⟨_,rfl⟩ lX mC ?_⟩
    rw[ay pX,List.map_append,List.map_append]
    rfl
   ·rintro H6 ys lX mC rfl
    rw[List.length_map,List.take_length] at mC
    have Vq:=lX _ _ (Vp _ _ FV)
    have nL:L≠D1:=Ne.symm (ah (Vp _ _ FV) hL)
    have kb:∀b o,H6 b=some o→b∉[D1]→(upd H6 D1 (.lst (as.map V.ref++[V.ref L]))) b=some o:=fun b o z w=>by rw[aq (by simpa using w)];exact z
    refine⟨D1,_,_,rfl,rfl,Vq,by rw[List.length_map];omega,as++[L],cs++[zs.map fun x=>x%7 - 3],_,rfl,?_,?_,?_,?_,fun b o z=>?_⟩
    ·rw[af,List.map_append]
     rfl
    ·exact(((fK.same (Vp.trans lX)).snoc mC (by simpa using nL))).keep kb
    ·intro c hc
     rcases List.mem_append.mp hc with hc|hc
     ·exact hb c hc
     ·have ec:c=zs.map fun x=>x%7 - 3:=by simpa using hc
      subst ec
      have h3:∀x∈zs.map fun x=>x%7 - 3,x.natAbs≤4:=fun x hx=>by
       obtain⟨y,_,rfl⟩:=List.mem_map.mp hx
       have:=Int.emod_nonneg y (show (7 :Int)≠0 by decide)
       have:=Int.emod_lt_of_pos y (show (0 :Int) <7 by decide)
       omega
      exact⟨⟨by rw[List.length_map];omega,fun x hx=>by have:=h3 x hx;omega⟩,h3⟩
    ·rw[List.length_append,vF]
     rfl
    ·rw[aq (ah z N5)]
     exact lX _ _ (Vp _ _ (e _ _ z))
  ·rintro σ H4 ⟨as,cs,v5,rfl,AF,fK,hb,vF,e4⟩
   have vF:cs.length=M:=by omega
   have vC:=fK.length
   dsimp only [aV]
   refine mf (fun σ' H'=>∃(as:List Addr) (cs:List (List Int)) (v5 v6 v7 v8:Option V),σ'=[some (.ref a),some (.int n0),some (.int M),some (.int R),some (.ref D1),v5,v6,v7,v8,none,none]∧H' D1=some (.lst (as.map V.ref))∧aK [D1] H' as cs∧(∀c∈cs,BdC 24 R c)∧cs.length=M∧ao H H') (fun N hN=>?_) ?_
   ·refine⟨_,rfl,_,_,rfl,rfl,⟨by decide,by decide⟩,_,_,rfl,rfl,(by show (0 :Int) <2;decide),rfl,_,rfl,gz (fun _=>?_) fun _=>?_⟩
    ·refine⟨_,rfl,a,ns,6,rfl,e4.seq hS,fun c H5 e5=>⟨_,rfl,c,_,rfl,by omega,by omega,fun tl zs H6 lz hz nl IP e6=>?_⟩⟩
     have LS:=e5.trans e6
     refine⟨(by show 1≤sizeLine;decide),fun z1 wy=>⟨_,rfl,z1,_,_,rfl,rfl,af,by omega,by omega,(by show 1*_≤_;omega),fun la Ay=>?_⟩⟩
     have s7:=(ao.new (o:= .lst [V.int 0]) wy).trans (ao.new (o:= .lst (List.replicate ((R:Nat):Int).toNat [V.int 0]).flatten) Ay)
     have N6:(upd (upd H6 z1 (.lst [V.int 0])) la (.lst (List.replicate ((R:Nat):Int).toNat [V.int 0]).flatten)) la=some (.lst ((List.replicate R (0 :Int)).map V.int)):=by
      rw[af,rep0]
      rfl
     have Vr:la≠D1:=fun z=>by
      rw[z] at Ay
      rw[ao.new wy _ _ (LS _ _ AF)] at Ay
      cases Ay
     generalize upd (upd H6 z1 (.lst [V.int 0])) la (.lst (List.replicate ((R:Nat):Int).toNat [V.int 0]).flatten)=H7 at s7 N6 ⊢
     have s47:=LS.trans s7
     dsimp only [aV]
     refine⟨_,rfl,_,_,rfl,rfl,_,rfl,by omega,by omega,cT (fun i σ H'=>∃(la:Addr) (xs:List Int) (v5 v8:Option V),σ=[some (.ref a),some (.int n0),some (.int M),some (.int R),some (.ref D1),v5,some (.ref tl),some (.ref la),v8,none,none]∧la≠D1∧H' la=some (.lst (xs.map V.int))∧xs.length=R∧(∀x∈xs,x.natAbs≤8*i)∧ao H7 H') ?_ ?_ ?_⟩
     ·exact⟨la,List.replicate R 0,v5,none,rfl,Vr,N6,List.length_replicate,(fun x hx=>by rw[(List.mem_replicate.mp hx).2];exact Nat.zero_le _),ao.refl _⟩
     ·rintro i σ H8 hi ⟨la,xs,v5,v8,rfl,Vr,C8,lx,hx,e8⟩
      have M':i<3:=by omega
      have IV:=s47.trans e8
      obtain⟨z,wy,XD⟩:∃z∈zs,Fi (zs.map V.int) (0+(i:Int))=some (V.int z):=by
       obtain⟨v,hv,h⟩:=pO (xs:=zs.map V.int) (i:=0+(i:Int)) (by omega) (by rw[List.length_map];omega)
       obtain⟨z,hz,rfl⟩:=List.mem_map.mp hv
       exact⟨z,hz,h⟩
      have g0:0≤z%3:=Int.emod_nonneg _ (by decide)
      have g1:z%3<3:=Int.emod_lt_of_pos _ (by decide)
      have ga:as[i]? =some (as.getD i 0):=by rw[List.getD_eq_getElem?_getD,List.getElem?_eq_getElem (by omega)];rfl
      obtain⟨c,qf,pj,_⟩:=(fK.same IV).get ga
      have IW:=hb c (List.mem_of_getElem? qf)
      refine⟨_,rfl,_,rfl,tl,_,_,V.int z,rfl,rfl,aD.of (e8 _ _ (s7 _ _ IP)),XD,_,_,rfl,rfl,(by show (0 :Int) <3;decide),?_⟩
      dsimp only [aV]
      generalize z%3=sh at g0 g1 ⊢
      refine⟨_,rfl,_,rfl,_,rfl,D1,_,_, .ref (as.getD i 0),rfl,rfl,aD.of (IV _ _ AF),(by rw[Int.zero_add];exact bE (by rw[List.getElem?_map,ga];rfl)),la,as.getD i 0,rfl,⟨_,aD.of C8⟩,⟨_,aD.of pj⟩,fun L hL=>di (K:=K) (a:=la) (c:=as.getD i 0) (L:=L) (xs:=xs.map V.int) (zs:=c.map V.int) H8 (fun σ=>∃v u:Option V,σ=[v,u,some (.int sh)]) (fun j us=>us=(((xs.zip c).take j).map fun ab=>ab.1 - sh*ab.2).map V.int∧j≤(xs.zip c).length)
       (aD.of C8) (aD.of pj) hL ⟨none,none,rfl⟩ (ao.new hL) af ⟨rfl,Nat.zero_le _⟩ (by rw[List.length_map];omega) ?_ ?_ ?_⟩
      ·rintro j us ⟨rfl,_⟩
       rw[List.length_map,List.length_map,List.length_take]
       omega
      ·rintro j y z t σ H9 us hy hz ht ⟨v,u,rfl⟩ hs vD ⟨rfl,hj⟩ N M hN
       obtain⟨y,pX,rfl⟩:=int_at hy
       obtain⟨z,gw,rfl⟩:=int_at hz
       have jB:(xs.zip c)[j]? =some (y,z):=by rw[List.getElem?_zip_eq_some];exact⟨pX,gw⟩
       have gK:j+1≤(xs.zip c).length:=(List.getElem?_eq_some_iff.mp jB).1
       have fi:(upd H9 t (.tup [V.int y,V.int z])) L=_:=ao.new ht _ _ vD
       refine⟨t,_,rfl,lN.of af,rfl,_,_,rfl,_,_,rfl,rfl,_,rfl,_,rfl,_,rfl,_,_,rfl,rfl, .inl ⟨by omega,by omega⟩,_,_,rfl,rfl,hN _ _ _ ⟨_,_,rfl⟩ (hs.trans (ao.new ht)) fi ⟨?_,gK⟩⟩
       rw[ay jB,List.map_append,List.map_append]
       rfl
      ·rintro H9 us hs vD ⟨rfl,_⟩
       have e:(xs.zip c).take (min (xs.map V.int).length (c.map V.int).length)=xs.zip c:=List.take_of_length_le (by rw[List.length_zip,List.length_map,List.length_map];exact Nat.le_refl _)
       rw[e] at vD
       refine⟨L,(xs.zip c).map fun ab=>ab.1 - sh*ab.2,_,_,rfl,Ne.symm (ah (IV _ _ AF) hL),vD,?_,?_,e8.trans hs⟩
       ·rw[List.length_map,List.length_zip,lx,IW.1.1]
        omega
       ·intro x ka
        obtain⟨ab,oh,rfl⟩:=List.mem_map.mp ka
        obtain⟨h1,h2⟩:=List.of_mem_zip (a:=ab.1) (b:=ab.2) oh
        have hA:=hx _ h1
        have hB:=IW.2 _ h2
        have hm:(sh*ab.2).natAbs≤2*4:=by
         rw[Int.natAbs_mul]
         exact Nat.mul_le_mul (by omega) hB
        omega
     ·rintro σ H8 ⟨la,xs,v5,v8,rfl,Vr,C8,lx,hx,e8⟩
      have IV:=s47.trans e8
      have hD8:=IV _ _ AF
      have kb:∀b o,H8 b=some o→b∉[D1]→(upd H8 D1 (.lst ((as.map V.ref).set (M - 1) (V.ref la)))) b=some o:=fun b o z w=>by rw[aq (by simpa using w)];exact z
      refine⟨_,rfl,_,rfl,1,rfl,D1,_,_,M - 1,rfl,rfl,hD8,(by rw[List.length_map,vC,vF];exact AE (by omega)),hN _ _ ⟨as.set (M - 1) la,cs.set (M - 1) xs,_,_,_,_,rfl,?_,?_,?_,?_,fun b o z=>?_⟩⟩
      ·rw[af,List.map_set]
      ·exact(pz C8 (by simpa using Vr) (M - 1) (fK.same IV)).keep kb
      ·intro c hc
       rcases List.mem_or_eq_of_mem_set hc with hc|hc
       ·exact(hb c hc).1
       ·rw[hc]
        exact⟨lx,fun x ka=>by have:=hx x ka;omega⟩
      ·rw[List.length_set]
       exact vF
      ·rw[aq (ah z N5)]
       exact IV _ _ (e4 _ _ z)
    ·exact hN _ _ ⟨as,cs,_,_,_,_,rfl,AF,fK,fun c hc=>(hb c hc).1,vF,e4⟩
   clear hb fK AF vC vF
   rintro σ' H5 ⟨as,cs,v5,v6,v7,v8,rfl,hD5,fK,hb,vF,e5⟩
   have vC:=fK.length
   refine⟨_,_,rfl,rfl,⟨by decide,by decide,by decide⟩,_,_,rfl,rfl,_,_,rfl,rfl,⟨by decide,by decide,by decide⟩,_,_,rfl,rfl,(by show 5≤sizeLine;decide),fun S hSh=>?_⟩
   have s6:=ao.new (o:= .lst (([1,1,7,10^(9 :Int).toNat+7,10^(18 :Int).toNat+9]:List Int).map V.int)) hSh
   have hS6:(upd H5 S (.lst (([1,1,7,10^(9 :Int).toNat+7,10^(18 :Int).toNat+9]:List Int).map V.int))) S=some (.lst (([1,1,7,10^(9 :Int).toNat+7,10^(18 :Int).toNat+9]:List Int).map V.int)):=af
   dsimp only [aV]
   refine⟨_,rfl,a,ns,7,rfl,(e5.trans s6).seq hS,fun c H7 e7=>⟨_,rfl,c,_,rfl,by omega,by omega,fun fl zs H8 lz hz XE C9 e8=>?_⟩⟩
   have hS8:=e8 _ _ (e7 _ _ hS6)
   have s58:=(s6.trans e7).trans e8
   refine⟨fl,rfl,⟨_,aD.of C9⟩,fun L hL=>cC (K:=K) (a:=fl) (L:=L) (xs:=zs.map V.int) H8 (fun σ=>∃v:Option V,σ=[v,some (.ref S)]) (fun j ys=>∃us:List Int,ys=us.map V.int∧us.length=j∧∀x∈us,x.natAbs≤10^18+9)
    (aD.of C9) hL ⟨none,rfl⟩ (ao.new hL) af ⟨[],rfl,rfl,fun x hx=>by cases hx⟩ (by rw[List.length_map];omega) ?_ ?_ ?_⟩
   ·rintro j ys ⟨us,rfl,h,_⟩
    rw[List.length_map]
    omega
   ·rintro j y σ H9 ys hy ⟨v,rfl⟩ Az vD ⟨us,rfl,Vs,MX⟩ N M hN
    obtain⟨y,pX,rfl⟩:=int_at hy
    have g0:0≤y%5:=Int.emod_nonneg _ (by decide)
    have g1:y%5<5:=Int.emod_lt_of_pos _ (by decide)
    obtain⟨v,hv,XF⟩:=pO (xs:=([1,1,7,10^(9 :Int).toNat+7,10^(18 :Int).toNat+9]:List Int).map V.int) g0 g1
    obtain⟨z,gw,rfl⟩:=List.mem_map.mp hv
    have hzb:z.natAbs≤10^18+9:=by
     simp only [List.mem_cons,List.not_mem_nil,or_false] at gw
     rcases gw with rfl|rfl|rfl|rfl|rfl<;>decide
    refine⟨_,rfl,_,rfl,_,_,rfl,rfl,(by show (0 :Int) <5;decide),S,_,_,V.int z,rfl,rfl,aD.of (Az _ _ hS8),XF,hN _ _ _ ⟨_,rfl⟩ Az vD ⟨us++[z],by rw[List.map_append];rfl,by simp [Vs],fun x hx=>?_⟩⟩
    rcases List.mem_append.mp hx with hx|hx
    ·exact MX x hx
    ·have ex:x=z:=by simpa using hx
     rw[ex]
     exact hzb
   rintro H9 ys Az vD ⟨us,rfl,Vs,MX⟩
   rw[List.length_map] at Vs
   have XG:=s58.trans Az
   have Lz:=XG _ _ hD5
   have XH:=fK.same XG
   dsimp only [aV]
   refine⟨_,rfl,D1,rfl,⟨_,aD.of Lz⟩,fun L2 de=>kI (K:=K) (a:=D1) (L:=L2) (xs:=as.map V.ref) H9 (fun σ=>∃v:Option V,σ=[v,some (.ref L)]) (fun i ys H'=>∃(ds:List Addr) (es:List (List Int)),ys=ds.map V.ref∧bX L2 H9 H' ds es∧es.length=i∧∀e∈es,e.length=R∧∀x∈e,cP 70 x)
    (aD.of Lz) ?_ de ⟨none,rfl⟩ (ao.new de) af ⟨[],[],rfl, .nil,rfl,fun e he=>by cases he⟩ (by rw[List.length_map];omega) ?_ ?_ ?_⟩
   ·rintro i ys Ha Hb e ⟨ds,es,rfl,jC,h1,h2⟩
    exact⟨ds,es,rfl,bX.but e jC,h1,h2⟩
   ·rintro i ys Ha ⟨ds,es,rfl,jC,h1,h2⟩
    have:=jC.length
    rw[List.length_map]
    omega
   ·rintro i y σ yQ ys hy ⟨v,rfl⟩ nV qw ⟨ds,es,rfl,jC,XI,XJ⟩ N M hN
    obtain⟨aj,II,rfl⟩:=b9 hy
    obtain⟨c,sY,pj,_⟩:=(XH.same nV).get II
    have IW:=hb c (List.mem_of_getElem? sY)
    have FW:=nV _ _ vD
    refine⟨_,rfl,_,rfl,aj,L,rfl,⟨_,aD.of pj⟩,⟨_,aD.of FW⟩,fun L3 fi=>di (K:=K) (a:=aj) (c:=L) (L:=L3) (xs:=c.map V.int) (zs:=us.map V.int) yQ (fun σ=>∃v u:Option V,σ=[v,u]) (fun j ws=>ws=(((c.zip us).take j).map fun ab=>ab.1*ab.2).map V.int∧j≤(c.zip us).length)
     (aD.of pj) (aD.of FW) fi ⟨none,none,rfl⟩ (ao.new fi) af ⟨rfl,Nat.zero_le _⟩ (by rw[List.length_map,IW.1];omega) ?_ ?_ ?_⟩
    ·rintro j ws ⟨rfl,_⟩
     rw[List.length_map,List.length_map,List.length_take]
     omega
    ·rintro j y z t σ FT ws hy hz ht ⟨v,u,rfl⟩ hs qx ⟨rfl,hj⟩ N2 M2 xr
     obtain⟨y,pX,rfl⟩:=int_at hy
     obtain⟨z,gw,rfl⟩:=int_at hz
     have jB:(c.zip us)[j]? =some (y,z):=by rw[List.getElem?_zip_eq_some];exact⟨pX,gw⟩
     have gK:j+1≤(c.zip us).length:=(List.getElem?_eq_some_iff.mp jB).1
     have qq:(upd FT t (.tup [V.int y,V.int z])) L3=_:=ao.new ht _ _ qx
     have by_:=IW.2 y (List.mem_of_getElem? pX)
     refine⟨t,_,rfl,lN.of af,rfl,_,_,rfl,_,_,rfl,rfl,_,rfl,_,rfl,_,_,rfl,rfl, .inl ⟨by omega,by omega⟩,xr _ _ _ ⟨_,_,rfl⟩ (hs.trans (ao.new ht)) qq ⟨?_,gK⟩⟩
     rw[ay jB,List.map_append,List.map_append]
     rfl
    ·rintro FT ws hs qx ⟨rfl,_⟩
     have e:(c.zip us).take (min (c.map V.int).length (us.map V.int).length)=c.zip us:=List.take_of_length_le (by rw[List.length_zip,List.length_map,List.length_map];exact Nat.le_refl _)
     rw[e] at qx
     refine hN _ _ _ ⟨_,rfl⟩ (nV.trans hs) (hs _ _ qw) ⟨ds++[L3],es++[(c.zip us).map fun ab=>ab.1*ab.2],by rw[List.map_append];rfl,(jC.but (df.of hs)).snoc qx (Ne.symm (ah qw fi)) (nV.free fi),by simp [XI],fun e he=>?_⟩
     rcases List.mem_append.mp he with he|he
     ·exact XJ e he
     ·have ee:e=(c.zip us).map fun ab=>ab.1*ab.2:=by simpa using he
      subst ee
      refine⟨by rw[List.length_map,List.length_zip,IW.1,Vs];omega,fun x hx=>?_⟩
      obtain⟨ab,oh,rfl⟩:=List.mem_map.mp hx
      obtain⟨h1,h2⟩:=List.of_mem_zip (a:=ab.1) (b:=ab.2) oh
      have hA:=IW.2 _ h1
      have hB:=MX _ h2
      have hm:(ab.1*ab.2).natAbs≤24*(10^18+9):=by
       rw[Int.natAbs_mul]
       exact Nat.mul_le_mul hA hB
      exact Nat.lt_of_le_of_lt hm (by decide)
   ·rintro yQ ys nV qw ⟨ds,es,rfl,jC,XI,XJ⟩
    rw[List.length_map] at XI
    exact q L2 ds es R yQ (e5.trans (XG.trans nV)) qw (bX.toS (by simp) (fun b xs z _ _=>z) jC) XJ lR (by omega) (by omega)
def kg(W:List Addr)(H:Hp)(t:Addr)(x:List Int×Int):Prop:=∃la,H t=some (.tup [.ref la, .int x.2])∧H la=some (.lst (x.1.map V.int))∧t∉W∧la∉W
theorem kg.keep{W:List Addr}{H H':Hp}{t:Addr}{x:List Int×Int}(h:kg W H t x)(e:∀b o,H b=some o→b∉W→H' b=some o):kg W H' t x:=let ⟨la,h1,h2,w1,w2⟩:=h;⟨la,e _ _ h1 w1,e _ _ h2 w2,w1,w2⟩
theorem kg.same{W:List Addr}{H H':Hp}{t:Addr}{x:List Int×Int}(h:kg W H t x)(e:ao H H'):kg W H' t x:=h.keep fun b o z _=>e b o z
theorem kg.has{W:List Addr}{H:Hp}{t:Addr}{x:List Int×Int}(h:kg W H t x):kg [] H t x:=let ⟨la,h1,h2,_,_⟩:=h;⟨la,h1,h2,by simp,by simp⟩
structure Vt(i mo:Nat)(x:List Int×Int):Prop where
 len:x.1.length=i
 nn:∀y∈x.1,0≤y
 sm:x.1.sum+x.2=mo
 lf:0≤x.2
def kh(x:List Int×Int):List (List Int×Int):=(List.range (x.2+1).toNat).map fun k:Nat=>(x.1++[0+(k:Int)],x.2 - (0+(k:Int)))
def lstP(mo:Nat):Nat→List (List Int×Int)
 |0=>[([],(mo:Int))]
 |i+1=>(lstP mo i).flatMap kh
theorem AG{i mo:Nat}{x y:List Int×Int}(o:Vt i mo x)(h:y∈kh x):Vt (i+1) mo y:=by
 obtain⟨k,hk,rfl⟩:=List.mem_map.mp h
 have hk:=List.mem_range.mp hk
 have x0:=o.lf
 refine⟨by rw[List.length_append,o.len];rfl,fun y hy=>?_,?_,?_⟩
 ·rcases List.mem_append.mp hy with hy|hy
  ·exact o.nn y hy
  ·have ey:y=0+(k:Int):=by simpa using hy
   omega
 ·show (x.1++[0+(k:Int)]).sum+(x.2 - (0+(k:Int)))=mo
  have:=o.sm
  rw[List.sum_append,List.sum_cons,List.sum_nil]
  omega
 ·show 0≤x.2 - (0+(k:Int))
  omega
theorem qy(mo:Nat):∀i,∀x∈lstP mo i,Vt i mo x
 |0,x,hx=>by
  have e:x=([],(mo:Int)):=by simpa [lstP] using hx
  subst e
  exact⟨rfl,(fun y hy=>by cases hy),(by show (0 :Int)+mo=mo;omega),(by show (0 :Int)≤mo;omega)⟩
 |i+1,x,hx=>by
  obtain⟨y,hy,h⟩:=List.mem_flatMap.mp hx
  exact AG (qy mo i y hy) h
theorem pA{i mo:Nat}{x:List Int×Int}(o:Vt i mo x):(kh x).length≤mo+1:=by
 have:=gW o.nn
 have:=o.sm
 unfold kh
 rw[List.length_map,List.length_range]
 omega
theorem nY{α β:Type}{f:α→List β}{c:Nat}:∀{l:List α},(∀x∈l,(f x).length≤c)→(l.flatMap f).length≤l.length*c
 | [],_=>by simp
 |x::l,h=>by
  have h1:=h x (List.mem_cons_self ..)
  have h2:=nY (l:=l) fun y hy=>h y (List.mem_cons_of_mem _ hy)
  rw[List.flatMap_cons,List.length_append,List.length_cons,Nat.add_mul,Nat.one_mul]
  omega
theorem mE(mo:Nat):∀i,(lstP mo i).length≤(mo+1) ^i
 |0=>by simp [lstP]
 |i+1=>by
  rw[Nat.pow_succ]
  exact Nat.le_trans (nY fun x hx=>pA (qy mo i x hx)) (Nat.mul_le_mul_right _ (mE mo i))
theorem uy(mo:Nat):∀(i:Nat) (v:List Int),v.length=i→(∀y∈v,0≤y)→v.sum≤mo→(v,(mo:Int) - v.sum)∈lstP mo i
 |0,v,hl,_,_=>by
  have e:v=[]:=List.eq_nil_of_length_eq_zero hl
  subst e
  simp [lstP]
 |i+1,v,hl,h0,hs=>by
  rcases List.eq_nil_or_concat v with rfl| ⟨u,y,rfl⟩
  ·simp at hl
  ·have y0:=h0 y (by simp)
   have u0:∀z∈u,0≤z:=fun z hz=>h0 z (by simp [hz])
   have us:=gW u0
   have hl:u.length=i:=by simpa using hl
   have es:(u.concat y).sum=u.sum+y:=by rw[List.concat_eq_append,List.sum_append,List.sum_cons,List.sum_nil];omega
   rw[es] at hs ⊢
   refine List.mem_flatMap.mpr ⟨(u,(mo:Int) - u.sum),uy mo i u hl u0 (by omega),List.mem_map.mpr ⟨y.toNat,List.mem_range.mpr (by show _< ((mo:Int) - u.sum+1).toNat;omega),?_⟩⟩
   have ey:(0+(y.toNat:Int))=y:=by omega
   dsimp only
   rw[ey,List.concat_eq_append]
   congr 1
   omega
theorem AH(mo:Nat):∀i,(lstP mo i).Pairwise fun a b=>a.1≠b.1
 |0=>by simp [lstP]
 |i+1=>by
  show ((lstP mo i).flatMap kh).Pairwise _
  rw[List.pairwise_flatMap]
  refine⟨fun x _=>?_,(AH mo i).imp fun {a b} oh x hx y hy=>?_⟩
  ·unfold kh
   rw[List.pairwise_map]
   refine List.Pairwise.imp (fun {a b} oh=>?_) (List.nodup_iff_pairwise_ne.mp List.nodup_range)
   intro z
   have z:=List.append_cancel_left z
   simp at z
   exact oh (by omega)
  ·obtain⟨k,_,rfl⟩:=List.mem_map.mp hx
   obtain⟨k',_,rfl⟩:=List.mem_map.mp hy
   intro z
   exact oh (List.append_inj_left' z rfl)
def vI:Sp:=fun vs H Q _=>∃m mo:Nat,vs=[.int m, .int mo]∧m≤8∧mo≤8∧(mo+1) ^m≤70000∧∀(l:Addr) (as:List Addr) (vs:List (List Int)) H',ao H H'→H' l=some (.lst (as.map V.ref))→aK [] H' as vs→vs.length≤70000→(∀v,v∈vs↔Nn m v∧v.sum≤mo)→vs.Nodup→Q (.ref l) H'
theorem fV:aI ["_law_size","_law_most","_law_found","_law_place","_law_longer","_law_some","_law_left"] ["_law_size","_law_most"] (ag gj):=iC
theorem AI(D:Def K mg "_law_lists" "_law_lists" gj ["_law_size","_law_most"])(T:gY K mg KC FC TC):bM P w K mg base 1 "_law_lists" ["_law_size","_law_most"] vI:=by
 refine D.ic fV (fun vs H Q E h=>?_) (fun f bW A outer s H vs Q E hr h=>?_)
 ·obtain⟨m,mo,rfl,_⟩:=h
  rfl
 ·obtain⟨m,mo,rfl,m8,mo8,pw,q⟩:=h
  have big:(1000000 :Nat)≤sizeLine:=by decide
  have XM:∀i,i≤m→(mo+1) ^i≤70000:=fun i hi=>Nat.le_trans (Nat.pow_le_pow_right (by omega) hi) pw
  refine⟨_,(ak
     (aG (i:=2) fV.nd rfl (Or.inl rfl) (bq (aa (yC (aa (bq ai) (aa (pv 1) ai))) ai)))
    (ak
     (cy PassesOwn.never rfl (bD rfl T.b8 (aa (pv 0) ai)) (aw (i:=3) fV.nd rfl (Or.inl rfl))
      (ak
       (aG (i:=4) fV.nd rfl (Or.inl rfl) (bq ai))
      (ak
       (cy PassesOwn.never rfl (bh (pv 2)) (mL rfl (aL (aw (i:=5) fV.nd rfl (Or.inr rfl)) (aL (aw (i:=6) fV.nd rfl (Or.inr rfl)) bU)))
        (av
         (aG (i:=4) fV.nd rfl (Or.inl rfl) (aJ mP (pv 4) (bb (sc:=(ag gj)) (NX:=["_law_size","_law_most","_law_found","_law_place","_law_longer","_law_some","_law_left"]) (N:=["_law_k","_law_some","_law_left"]) (fr:=[none,some 5,some 6]) ⟨by rfl,by rfl,by decide+kernel,by decide+kernel,by decide+kernel,by rfl,by decide+kernel⟩ rfl rfl rfl (bD rfl T.b8 (aa (aJ fq (pv 6) az) ai)) (fun _ _ _ _=>(aw (i:=0) (show (["_law_k","_law_some","_law_left"]:List Str).Nodup by decide+kernel) rfl (Or.inl rfl) (Or.inr rfl))) (fun _ _ _ _=>aT) (fun _ _ _ _=>(yC (aa (aJ mP (pv 1) (bq (aa (pv 0) ai))) (aa (aJ fu (pv 2) (pv 0)) ai)))))))))
      (av
       (aG (i:=2) fV.nd rfl (Or.inl rfl) (pv 4))))))
    (av
     (aR (bb (sc:=(ag gj)) (NX:=["_law_size","_law_most","_law_found","_law_place","_law_longer","_law_some","_law_left"]) (N:=["_law_some","_law_left"]) (fr:=[none,none]) ⟨by rfl,by rfl,by decide+kernel,by decide+kernel,by decide+kernel,by rfl,by decide+kernel⟩ rfl rfl rfl (bh (pv 2)) (fun _ _ _ _=>(cK K 2 rfl rfl (aL (aw (i:=0) (show (["_law_some","_law_left"]:List Str).Nodup by decide+kernel) rfl (Or.inl rfl) (Or.inr rfl)) (aL (aw (i:=1) (show (["_law_some","_law_left"]:List Str).Nodup by decide+kernel) rfl (Or.inl rfl) (Or.inr rfl)) bU)))) (fun _ _ _ _=>aT) (fun _ _ _ _=>(pv 0))))))),?_⟩
  refine⟨(by show 0≤sizeLine;decide),fun l0 x8=>⟨_,rfl,(by show 2≤sizeLine;decide),fun t0 N7=>⟨(by show 1≤sizeLine;decide),fun F0 hF0=>?_⟩⟩⟩
  have s1:=ao.new (o:= .lst []) x8
  have s2:=ao.new (o:= .tup [V.ref l0,V.int mo]) N7
  have s3:=ao.new (o:= .lst [V.ref t0]) hF0
  have e3:=(s1.trans s2).trans s3
  have hT3:kg [] (upd (upd (upd H l0 (.lst [])) t0 (.tup [V.ref l0,V.int mo])) F0 (.lst [V.ref t0])) t0 ([],(mo:Int)):=⟨l0,s3 _ _ af,s3 _ _ (s2 _ _ af),by simp,by simp⟩
  have LU:(upd (upd (upd H l0 (.lst [])) t0 (.tup [V.ref l0,V.int mo])) F0 (.lst [V.ref t0])) F0=some (.lst ([t0].map V.ref)):=af
  generalize upd (upd (upd H l0 (.lst [])) t0 (.tup [V.ref l0,V.int mo])) F0 (.lst [V.ref t0])=H3 at e3 hT3 LU ⊢
  dsimp only [aV]
  refine⟨_,rfl,_,rfl,by omega,by omega,cT (fun i σ H'=>∃(F:Addr) (fa:List Addr) (v3 v4 v5 v6:Option V),σ=[some (.int m),some (.int mo),some (.ref F),v3,v4,v5,v6]∧H' F=some (.lst (fa.map V.ref))∧Paired (kg [] H') fa (lstP mo i)∧ao H H') ?_ ?_ ?_⟩
  ·exact⟨F0,[t0],none,none,none,none,rfl,LU, .cons hT3 .nil,e3⟩
  ·rintro i σ H4 hi ⟨F,fa,v3,v4,v5,v6,rfl,FX,hP,e4⟩
   have bH:=qy mo i
   have lx:=mE mo i
   have eS:lstP mo (i+1)=(lstP mo i).flatMap kh:=rfl
   rw[eS]
   generalize lstP mo i=xs at*
   have him:i<m:=by omega
   have IX:=Paired.length hP
   have p1:=XM (i+1) (by omega)
   have p0:=XM i (by omega)
   rw[Nat.pow_succ] at p1
   have lx2:xs.length*(mo+1)≤(mo+1) ^i*(mo+1):=Nat.mul_le_mul_right _ lx
   refine⟨(by show 0≤sizeLine;decide),fun G0 hG0=>?_⟩
   have sG:=ao.new (o:= .lst []) hG0
   dsimp only [aV]
   refine⟨_,rfl,F,rfl,⟨_,aD.of (sG _ _ FX)⟩,gy (K:=K) (a:=F) (xs:=fa.map V.ref) (fun j σ H'=>∃(G:Addr) (ga:List Addr) (v5 v6:Option V),σ=[some (.int m),some (.int mo),some (.ref F),some (.int (0+(i:Int))),some (.ref G),v5,v6]∧H' G=some (.lst (ga.map V.ref))∧Paired (kg [] H') ga ((xs.take j).flatMap kh)∧ao H4 H') ?_ (fun j σ H' _ ⟨_,_,_,_,_,_,_,e⟩=>aD.of (e _ _ FX)) ?_ ?_⟩
   ·exact⟨G0,[],v5,v6,rfl,af, .nil,sG⟩
   ·rintro j y σ H5 hj ⟨G,ga,v5,v6,rfl,XN,hQ,e5⟩
    obtain⟨t,ht,rfl⟩:=b9 hj
    obtain⟨x,hx,la,h1,h2,_,_⟩:=gG hP ht
    have Vu:=bH x (List.mem_of_getElem? hx)
    have jx:j<xs.length:=(List.getElem?_eq_some_iff.mp hx).1
    have h15:=e5 _ _ h1
    have h25:=e5 _ _ h2
    have s0:=gW Vu.nn
    have sx:=Vu.sm
    have xl:x.2≤mo:=by omega
    have x0:=Vu.lf
    have lga:=Paired.length hQ
    have ly:((xs.take j).flatMap kh).length≤j*(mo+1):=by
     refine Nat.le_trans (nY fun y hy=>pA (bH y (List.mem_of_mem_take hy))) ?_
     rw[List.length_take]
     exact Nat.mul_le_mul_right _ (Nat.min_le_left _ _)
    have lj:j*(mo+1)+(mo+1)≤xs.length*(mo+1):=by
     have:=Nat.mul_le_mul_right (mo+1) (show j+1≤xs.length from jx)
     rw[Nat.add_mul,Nat.one_mul] at this
     exact this
    have okl:=Vu.len
    refine⟨t,_,rfl,lN.of h15,rfl,_,_,rfl,_,_,rfl,rfl,?_⟩
    dsimp only [aV]
    refine⟨_,rfl,_,rfl,_,_,rfl,rfl,_,rfl,by omega,by omega,fun L hL=>kJ (L:=L) H5 (fun σ=>∃v:Option V,σ=[v,some (.ref la),some (.int x.2)]) (fun k zs H'=>∃ds:List Addr,zs=ds.map V.ref∧Paired (kg [L] H') ds ((List.range k).map fun k:Nat=>(x.1++[0+(k:Int)],x.2 - (0+(k:Int)))))
     ?_ hL ⟨none,rfl⟩ (ao.new hL) af ⟨[],rfl, .nil⟩ (by omega) ?_ ?_ ?_⟩
    ·rintro k zs Ha Hb e ⟨ds,rfl,jC⟩
     exact⟨ds,rfl,bR (fun _ _ z=>z.keep fun b o z1 z2=>e _ _ z1 (by simpa using z2)) jC⟩
    ·rintro k zs Ha ⟨ds,rfl,jC⟩
     have:=Paired.length jC
     rw[List.length_map,List.length_range] at this
     rw[List.length_map]
     omega
    ·rintro k σ H6 zs hk ⟨v,rfl⟩ lX mC ⟨ds,rfl,jC⟩ N M hN
     have hk:(k:Int)≤x.2:=by omega
     have h26:=lX _ _ h25
     dsimp only [aV]
     refine⟨_,rfl,_,rfl,(by show 1≤sizeLine;decide),fun k0 hk0=>⟨la,k0,_,_,rfl,rfl,ao.new hk0 _ _ h26,af,(by rw[List.length_map];show _+1≤sizeLine;omega),fun c hc=>⟨_,rfl,_,rfl,_,_,rfl,rfl,(by show 2≤sizeLine;decide),fun t' Nr=>?_⟩⟩⟩
     have u1:=ao.new (o:= .lst [V.int (0+(k:Int))]) hk0
     have u2:=ao.new (o:= .lst (x.1.map V.int++[V.int (0+(k:Int))])) hc
     have u3:=ao.new (o:= .tup [V.ref c,V.int (x.2 - (0+(k:Int)))]) Nr
     have u:=(u1.trans u2).trans u3
     have nLc:c≠L:=Ne.symm (ah (u1 _ _ mC) hc)
     have nLt:t'≠L:=Ne.symm (ah (u2 _ _ (u1 _ _ mC)) Nr)
     have Bj:kg [L] (upd (upd (upd H6 k0 (.lst [V.int (0+(k:Int))])) c (.lst (x.1.map V.int++[V.int (0+(k:Int))]))) t' (.tup [V.ref c,V.int (x.2 - (0+(k:Int)))])) t' (x.1++[0+(k:Int)],x.2 - (0+(k:Int))):=⟨c,af,by rw[List.map_append];exact u3 _ _ af,by simpa using nLt,by simpa using nLc⟩
     refine hN _ _ _ ⟨_,rfl⟩ (lX.trans u) (u _ _ mC) ⟨ds++[t'],by rw[List.map_append];rfl,?_⟩
     rw[List.range_succ,List.map_append]
     exact iY Bj (bR (fun _ _ z=>z.same u) jC)
    ·rintro H6 zs lX mC ⟨ds,rfl,jC⟩
     have lds:=Paired.length jC
     rw[List.length_map,List.length_range] at lds
     have en:(x.2+1).toNat≤mo+1:=by omega
     refine⟨G,L,_,_,rfl,rfl,lX _ _ XN,mC,by rw[List.length_map,List.length_map];omega,fun G' hG'=>?_⟩
     have XO:=ao.new (o:= .lst (ga.map V.ref++ds.map V.ref)) hG'
     refine⟨G',ga++ds,_,_,rfl,by rw[af,List.map_append],?_,(e5.trans lX).trans XO⟩
     rw[ay hx,List.flatMap_append,List.flatMap_cons,List.flatMap_nil,List.append_nil]
     exact j7 (bR (fun _ _ z=>(z.same lX).same XO) hQ) (bR (fun _ _ z=>z.has.same XO) jC)
   ·rintro σ H5 ⟨G,ga,v5,v6,rfl,XN,hQ,e5⟩
    rw[List.length_map,IX,List.take_length] at hQ
    exact⟨_,rfl,G,ga,_,_,_,_,rfl,XN,hQ,e4.trans e5⟩
  ·rintro σ H4 ⟨F,fa,v3,v4,v5,v6,rfl,FX,hP,e4⟩
   have em:((m:Nat):Int).toNat=m:=by omega
   rw[em] at hP
   have bH:=qy mo m
   have lx:=mE mo m
   have Na:=uy mo m
   have hnd:=AH mo m
   have pm:=XM m (Nat.le_refl _)
   generalize lstP mo m=xs at*
   have IX:=Paired.length hP
   refine⟨_,rfl,F,rfl,⟨_,aD.of FX⟩,fun L hL=>cC (K:=K) (a:=F) (L:=L) (xs:=fa.map V.ref) H4 (fun σ=>∃v u:Option V,σ=[v,u]) (fun j ys=>∃la:List Addr,ys=la.map V.ref∧la.length=j∧aK [] H4 la ((xs.take j).map (·.1)))
    (aD.of FX) hL ⟨none,none,rfl⟩ (ao.new hL) af ⟨[],rfl,rfl, .nil⟩ (by rw[List.length_map];omega) ?_ ?_ ?_⟩
   ·rintro j ys ⟨la,rfl,h,_⟩
    rw[List.length_map]
    omega
   ·rintro j y σ H5 ys hy ⟨v,u,rfl⟩ qs qL ⟨lb,rfl,zG,qM⟩ N M hN
    obtain⟨t,ht,rfl⟩:=b9 hy
    obtain⟨x,hx,la,h1,h2,_,_⟩:=gG hP ht
    refine⟨t,_,rfl,lN.of (qs _ _ h1),rfl,_,_,rfl,_,_,rfl,rfl,_,rfl,hN _ _ _ ⟨_,_,rfl⟩ qs qL ⟨lb++[la],by rw[List.map_append];rfl,by simp [zG],?_⟩⟩
    rw[ay hx,List.map_append]
    exact qM.snoc h2 (by simp)
   ·rintro H5 ys qs qL ⟨lb,rfl,zG,qM⟩
    rw[List.length_map,IX,List.take_length] at qM
    refine q L lb (xs.map (·.1)) H5 (e4.trans qs) qL (qM.same qs) (by rw[List.length_map];omega) (fun v=>⟨fun hv=>?_,fun⟨hv,hs⟩=>List.mem_map.mpr ⟨_,Na v hv.1 hv.2 hs,rfl⟩⟩) (List.nodup_iff_pairwise_ne.mpr (List.pairwise_map.mpr hnd))
    obtain⟨x,hx,rfl⟩:=List.mem_map.mp hv
    have o:=bH x hx
    exact⟨⟨o.len,o.nn⟩,by have:=o.sm;have:=o.lf;omega⟩
def je(cs:List (List Int))(n:Nat)(v:List Int):Bool:=(List.range n).all fun r=>decide (dot v (row cs r)=0)
theorem fH(cs:List (List Int))(n:Nat)(v:List Int):je cs n v=true↔∀r,r<n→dot v (row cs r)=0:=by
 unfold je
 rw[List.all_eq_true]
 exact⟨fun h r hr=>by simpa using h r (by simpa using hr),fun h r hr=>by simpa using h r (by simpa using hr)⟩
def sH:Sp:=fun vs H Q _=>∃(r p:Addr) (v:List Int) (as:List Addr) (cs:List (List Int)) (n:Nat),vs=[.ref r, .ref p]∧H r=some (.lst (v.map V.int))∧H p=some (.lst (as.map V.ref))∧aK [] H as cs∧(∀c∈cs,c.length=n∧∀x∈c,cP 70 x)∧n≤1000∧1≤cs.length∧cs.length≤1000∧v.length=cs.length∧(∀x∈v,x.natAbs≤10^20)∧∀H',ao H H'→Q (.bl (je cs n v)) H'
theorem sI:aI ["_law_some","_law_columns_here","_law_i"] ["_law_some","_law_columns_here"] (ag eY):=iC
theorem xG(D:Def K mg "_law_levels" "_law_levels" eY ["_law_some","_law_columns_here"])(T:gY K mg KC FC TC):bM P w K mg base 1 "_law_levels" ["_law_some","_law_columns_here"] sH:=by
 refine D.ic sI (fun vs H Q E h=>?_) (fun f bW A outer s H vs Q E hr h=>?_)
 ·obtain⟨r,p,v,as,cs,n,rfl,_⟩:=h
  rfl
 ·obtain⟨r,p,v,as,cs,n,rfl,hX,hp,fK,Cw,hn,l1,N8,lv,hv,q⟩:=h
  have hw:=fun c hc=>(Cw c hc).1
  have big:(5000 :Nat)≤sizeLine:=by decide
  have vC:=fK.length
  have FR:as[0]? =some (as.getD 0 0):=by rw[List.getD_eq_getElem?_getD,List.getElem?_eq_getElem (by omega)];rfl
  obtain⟨c0,wN,Av,_⟩:=fK.get FR
  have lc0:=hw c0 (List.mem_of_getElem? wN)
  refine⟨_,(ak
     (cy PassesOwn.never rfl (bD rfl T.b8 (aa (aA aS rfl T.eL da (aa (cJ dr (pv 1) az (fun _ _=>rfl)) ai)) ai)) (aw (i:=2) sI.nd rfl (Or.inr rfl))
      (av
       (dF (cg qP (aA (dM rfl) rfl T.hV fZ (aa (bb (sc:=(ag eY)) (NX:=["_law_some","_law_columns_here","_law_i"]) (N:=["_law_j","_law_some","_law_i","_law_columns_here"]) (fr:=[none,some 0,some 2,some 1]) ⟨by rfl,by rfl,by decide+kernel,by decide+kernel,by decide+kernel,by rfl,by decide+kernel⟩ rfl rfl rfl (bD rfl T.b8 (aa (aA aS rfl T.eL da (aa (pv 0) ai)) ai)) (fun _ _ _ _=>(aw (i:=0) (show (["_law_j","_law_some","_law_i","_law_columns_here"]:List Str).Nodup by decide+kernel) rfl (Or.inl rfl) (Or.inr rfl))) (fun _ _ _ _=>aT) (fun _ _ _ _=>(aJ gJ (cJ (cp K rfl) (pv 1) (pv 0) (fun _ _=>rfl)) (cJ (cp K rfl) (cJ (cp K rfl) (pv 3) (pv 0) (fun _ _=>rfl)) (pv 2) (fun _ _=>rfl))))) ai)) az (cm _))
        (av
         (aR jf))
        bI)))
    (av
     (aR jf))),?_⟩
  refine⟨_,rfl,p,_,_, .ref (as.getD 0 0),rfl,rfl,aD.of hp,bE (j:=0) (by rw[List.getElem?_map,FR];rfl),as.getD 0 0,_,rfl, .inl (aD.of Av),_,rfl,by omega,by rw[List.length_map];omega,cT (fun i σ H'=>∃v2:Option V,σ=[some (.ref r),some (.ref p),v2]∧(∀q,q<i→dot v (row cs q)=0)∧ao H H') ?_ ?_ ?_⟩
  ·exact⟨none,rfl,(fun q hq=>by omega),ao.refl _⟩
  ·rintro i σ H2 hi ⟨v2,rfl,hd,e2⟩
   have hi:i<n:=by
    rw[List.length_map] at hi
    omega
   have hr2:=e2 _ _ hX
   have Xz:=e2 _ _ hp
   have XQ:=fK.same e2
   dsimp only [aV]
   rw[Int.zero_add]
   refine⟨_,rfl,r,_,rfl, .inl (aD.of hr2),_,rfl,by omega,by rw[List.length_map];omega,fun L hL=>mT (L:=L) H2 (fun σ=>∃w:Option V,σ=[w,some (.ref r),some (.int (i:Int)),some (.ref p)]) (fun j ys=>ys=((List.range j).map fun k=>v.getD k 0*(row cs i).getD k 0).map V.int)
    hL ⟨none,rfl⟩ (ao.new hL) af rfl (by show (v.map V.int).length≤sizeLine;rw[List.length_map];omega) ?_ ?_ ?_⟩
   ·rintro j ys rfl
    rw[List.length_map,List.length_map,List.length_range];exact Nat.le_refl _
   ·rintro j σ H3 ys hj ⟨w,rfl⟩ iF fi rfl N M hN
    have hj:j<cs.length:=by
     have:j< (v.map V.int).length:=hj
     rw[List.length_map] at this
     omega
    have gv:=getD_at (l:=v) (i:=j) (by omega)
    have ga:as[j]? =some (as.getD j 0):=by rw[List.getD_eq_getElem?_getD,List.getElem?_eq_getElem (by omega)];rfl
    obtain⟨c,sY,pj,_⟩:=(XQ.same iF).get ga
    have gc:=getD_at (l:=c) (i:=i) (by rw[hw c (List.mem_of_getElem? sY)];exact hi)
    have ec:cs.getD j []=c:=by rw[List.getD_eq_getElem?_getD,sY];rfl
    have vb:=hv _ (List.mem_of_getElem? gv)
    dsimp only [aV]
    rw[Int.zero_add]
    refine⟨_,rfl,_,rfl,r,_,_, .int (v.getD j 0),rfl,rfl,aD.of (iF _ _ hr2),bE (by rw[List.getElem?_map,gv];rfl),_,rfl,_,rfl,p,_,_, .ref (as.getD j 0),rfl,rfl,aD.of (iF _ _ Xz),bE (by rw[List.getElem?_map,ga];rfl),_,rfl,as.getD j 0,_,_, .int (c.getD i 0),rfl,rfl,aD.of pj,bE (by rw[List.getElem?_map,gc];rfl),_,_,rfl,rfl,xi (a:=70) (b:=70) (Nat.lt_of_le_of_lt vb (show 10^20<2^70 by decide)) ((Cw c (List.mem_of_getElem? sY)).2 _ (List.mem_of_getElem? gc)),hN _ _ _ ⟨_,rfl⟩ iF fi ?_⟩
    rw[List.range_succ,List.map_append,List.map_append,List.map_cons,List.map_nil,gF hj,ec]
    rfl
   ·rintro H3 ys iF fi rfl
    have er:((List.range (v.map V.int).length).map fun k=>v.getD k 0*(row cs i).getD k 0).sum=dot v (row cs i):=iX _ v (row cs i) (by rw[List.length_map]) (by rw[fh,List.length_map,lv])
    refine⟨L,_,rfl,aD.of fi,rfl,_,rfl,gz (fun c=>?_) fun c=>?_⟩
    ·have c:¬dot v (row cs i)=0:=by
      intro z
      have c':¬((List.range (v.map V.int).length).map fun k=>v.getD k 0*(row cs i).getD k 0).sum=0:=by simpa using c
      rw[er] at c'
      exact c' z
     have e:je cs n v=false:=by
      rw[←Bool.not_eq_true,fH]
      exact fun z=>c (z i hi)
     have:=q H3 (e2.trans iF)
     rw[e] at this
     exact this
    ·have c:dot v (row cs i)=0:=by
      have c':((List.range (v.map V.int).length).map fun k=>v.getD k 0*(row cs i).getD k 0).sum=0:=by simpa using c
      rw[er] at c'
      exact c'
     refine⟨_,rfl,fun q hq=>?_,e2.trans iF⟩
     by_cases z:q=i
     ·rw[z]
      exact c
     ·exact hd q (by omega)
  ·rintro σ H2 ⟨v2,rfl,hd,e2⟩
   have e:je cs n v=true:=by
    rw[fH]
    intro r hr
    refine hd r ?_
    rw[List.length_map]
    omega
   have:=q H2 e2
   rw[e] at this
   exact this
theorem xH:aI ["_law_one","_law_other"] ["_law_one","_law_other"] (ag dO):=iC
theorem uz(D:Def K mg "_law_beneath" "_law_beneath" dO ["_law_one","_law_other"])(T:gY K mg KC FC TC):bM P w K mg base 1 "_law_beneath" ["_law_one","_law_other"] qo:=by
 refine D.ic xH (fun vs H Q E h=>?_) (fun f bW A outer s H vs Q E hr h=>?_)
 ·obtain⟨p,r,xs,ys,rfl,_⟩:=h
  rfl
 ·obtain⟨p,r,xs,ys,rfl,hp,hX,lx,q⟩:=h
  have big:(1001 :Nat)≤sizeLine:=by decide
  refine⟨_,(av
     (aR (aA (rz rfl) rfl T.FD y' (aa (bb (sc:=(ag dO)) (NX:=["_law_one","_law_other"]) (N:=["_law_a","_law_b"]) (fr:=[none,none]) ⟨by rfl,by rfl,by decide+kernel,by decide+kernel,by decide+kernel,by rfl,by decide+kernel⟩ rfl rfl rfl (dy rfl T.fE (aa (pv 0) (aa (pv 1) ai))) (fun _ _ _ _=>(cK K 2 rfl rfl (aL (aw (i:=0) (show (["_law_a","_law_b"]:List Str).Nodup by decide+kernel) rfl (Or.inl rfl) (Or.inr rfl)) (aL (aw (i:=1) (show (["_law_a","_law_b"]:List Str).Nodup by decide+kernel) rfl (Or.inl rfl) (Or.inr rfl)) bU)))) (fun _ _ _ _=>aT) (fun _ _ _ _=>(md yx (pv 0) (pv 1) (cm _)))) ai)))),?_⟩
  refine⟨_,rfl,_,rfl,p,r,rfl,⟨_,aD.of hp⟩,⟨_,aD.of hX⟩,fun L hL=>di (K:=K) (a:=p) (c:=r) (L:=L) (xs:=xs.map V.int) (zs:=ys.map V.int) H (fun σ=>∃v u:Option V,σ=[v,u]) (fun i us=>us=(((xs.zip ys).take i).map fun ab=>decide (ab.1≤ab.2)).map V.bl∧i≤(xs.zip ys).length)
   (aD.of hp) (aD.of hX) hL ⟨none,none,rfl⟩ (ao.new hL) af ⟨rfl,Nat.zero_le _⟩ (by rw[List.length_map];omega) ?_ ?_ ?_⟩
  ·rintro i us ⟨rfl,_⟩
   rw[List.length_map,List.length_map,List.length_take]
   omega
  ·rintro i x z t σ H2 us hx hz ht ⟨v,u,rfl⟩ hs de ⟨rfl,hi⟩ N M hN
   obtain⟨x,ka,rfl⟩:=int_at hx
   obtain⟨z,gw,rfl⟩:=int_at hz
   have jB:(xs.zip ys)[i]? =some (x,z):=by rw[List.getElem?_zip_eq_some];exact⟨ka,gw⟩
   have gK:i+1≤(xs.zip ys).length:=(List.getElem?_eq_some_iff.mp jB).1
   have fi:(upd H2 t (.tup [V.int x,V.int z])) L=_:=ao.new ht _ _ de
   refine⟨t,_,rfl,lN.of af,rfl,_,_,rfl,_,_,rfl,rfl,_,rfl,_,rfl,_,_,rfl,rfl,hN _ _ _ ⟨_,_,rfl⟩ (hs.trans (ao.new ht)) fi ⟨?_,gK⟩⟩
   rw[ay jB,List.map_append,List.map_append]
   rfl
  ·rintro H2 us hs de ⟨rfl,_⟩
   have e:(xs.zip ys).take (min (xs.map V.int).length (ys.map V.int).length)=xs.zip ys:=List.take_of_length_le (by rw[List.length_zip,List.length_map,List.length_map];exact Nat.le_refl _)
   rw[e] at de
   refine⟨L,_,rfl,aD.of de,?_⟩
   have:=q _ hs
   rw[List.all_map]
   exact this
variable {HE Ns X1 X2 X3 X4 X5 X6 X7 X8 X9:Addr}
structure Dc(K:PySem.W.Frag)(mg:Str→Option Value)(HE Ns:Addr):Prop where
 lL:mg "HallError" =some (.ref HE)
 qz:Ft K HE
 qA:PySem.W.Cf K HE
 xI:mg "NoSplit" =some (.ref Ns)
 bT:ZD K Ns
 uA:PySem.W.mroIn K Ns (.ref HE)=some true
def FY(Ns:Addr):Sp:=fun vs H Q _=>∃e:Addr,vs=[.ref e]∧H e=some (Bk e Ns none)∧Q .dE H
theorem N9:aI ["self"] ["self"] (ag eC):=iC
theorem IY(D:Cn K mg "NoSplit" Ns HE "NoSplit.__init__" eC ["self"])(T:Dc K mg HE Ns):tX P w K mg base 2 "NoSplit" Ns HE ["self"] (FY Ns):=by
 obtain⟨f0,_,_,Z,_⟩:=id D
 refine D.ic N9 (fun vs H Q E h=>?_) (fun f bW A outer s H vs Q E hr h=>?_)
 ·obtain⟨e,rfl,_⟩:=h
  rfl
 ·obtain⟨e,rfl,he,q⟩:=h
  refine⟨_,(av
     (cI (zj rfl T.lL T.qz (pv 0) yd))),?_⟩
  exact⟨_,rfl,e,Ns,HE,f0,none,rfl,Z,he,q⟩
theorem AJ:aI ["numbers","columns"] ["numbers","columns"] (ag dt):=iC
theorem xJ(D:Def K mg "gather" "gather" dt ["numbers","columns"])(T:Txt K mg KC FC)(c1:bM P w K mg base 1 "weigh" ["weights","column"] (mx K)):bM P w K mg base 2 "gather" ["numbers","columns"] (rZ K):=by
 obtain⟨_,_,bV⟩:=c1
 refine D.ic AJ (fun vs H Q E h=>?_) (fun f bW A outer s H vs Q E hr h=>?_)
 ·obtain⟨p,r,ns,as,cs,wd,rfl,_⟩:=h
  rfl
 ·obtain⟨p,r,ns,as,cs,wd,rfl,hp,hX,hc,ve,hw,z1,z2,z3,fn,fc,q⟩:=h
  refine⟨_,(av
     (aR (mW (sc:=(ag dt)) (NX:=["numbers","columns"]) (N:=["row","numbers","columns"]) (fr:=[none,some 0,some 1]) ⟨by rfl,by rfl,by decide+kernel,by decide+kernel,by decide+kernel,by rfl,by decide+kernel⟩ rfl rfl rfl (bD rfl T.b8 (aa (aA aS rfl T.eL da (aa (cJ dr (pv 1) az (fun _ _=>rfl)) ai)) ai)) (fun _ _ _ _=>(aw (i:=0) (show (["row","numbers","columns"]:List Str).Nodup by decide+kernel) rfl (Or.inr rfl) (Or.inl rfl))) (fun _ _ _ _=>aT) (fun _ _ _ _=>(aO bV.ok (hr.mono (by decide)) rfl bV.g bV.kp bV.b .nil aX (aa (pv 1) (aa (bb (sc:=(iz Af (ag dt))) (NX:=["row","numbers","columns"]) (N:=["column","row"]) (fr:=[none,some 0]) ⟨by rfl,by rfl,by decide+kernel,by decide+kernel,by decide+kernel,by rfl,by decide+kernel⟩ rfl rfl rfl (jJ K rfl (pv 2)) (fun _ _ _ _=>(aw (i:=0) (show (["column","row"]:List Str).Nodup by decide+kernel) rfl (Or.inl rfl) (Or.inr rfl))) (fun _ _ _ _=>aT) (fun _ _ _ _=>(cJ (cp K rfl) (pv 0) (pv 1) (fun _ _=>rfl)))) ai))))))),?_⟩
  obtain⟨a0,oE,rfl⟩:∃a0 oE,as=a0::oE:=by
   cases as with
   |nil=>exact absurd (List.eq_nil_of_length_eq_zero hc.length.symm) ve
   |cons x y=>exact⟨x,y,rfl⟩
  obtain⟨c0,wN,hs0⟩:=hc.get (i:=0) rfl
  have w0:c0.length=wd:=hw c0 (List.mem_of_getElem? wN)
  have Oa:∀c∈cs,∀i,i<wd→c[i]? =some (c.getD i 0)∧cP 60000000 (c.getD i 0):=fun c oz i hi=>by
   have hl:i<c.length:=by rw[hw c oz];exact hi
   have e:c[i]? =some (c.getD i 0):=by rw[List.getD_eq_getElem?_getD,List.getElem?_eq_getElem hl];rfl
   exact⟨e,fc c oz _ (List.mem_of_getElem? e)⟩
  have big:(1001 :Nat)≤sizeLine:=by decide
  refine⟨_,rfl,r,_,0, .ref a0,rfl,rfl,hX,bE (j:=0) rfl,a0,_,rfl, .inl hs0,_,rfl,by omega,by rw[List.length_map];omega,fun L hL=>mT (L:=L) H (fun σ=>∃v:Option V,σ=[v,some (.ref p),some (.ref r)]) (fun i ys=>ys=(List.range i).map fun k=>V.int (dot ns (row cs k)))
   hL ⟨none,rfl⟩ (ao.new hL) af rfl (by show (List.map V.int c0).length≤sizeLine;rw[List.length_map];omega) ?_ ?_ ?_⟩
  ·rintro i ys rfl
   rw[List.length_map,List.length_range];exact Nat.le_refl _
  ·rintro i σ H2 ys hi ⟨v,rfl⟩ hs de rfl N M hN
   have hi:i<wd:=by
    have:i< (List.map V.int c0).length:=hi
    rw[List.length_map] at this;omega
   dsimp only [aV]
   rw[Int.zero_add]
   refine⟨_,rfl,_,rfl,r,rfl,⟨_,hs.seq hX⟩,fun L2 uq=>cC (K:=K) (a:=r) (L:=L2) (xs:=(a0::oE).map V.ref) H2 (fun σ=>∃v:Option V,σ=[v,some (.int i)]) (fun j ys=>ys=(cs.take j).map fun c=>V.int (c.getD i 0))
    (hs.seq hX) uq ⟨none,rfl⟩ (ao.new uq) af rfl (by rw[List.length_map,hc.length];exact z2) ?_ ?_ ?_⟩
   ·rintro j ys rfl
    rw[List.length_map,List.length_take];omega
   ·rintro j x σ H3 ys hx ⟨v,rfl⟩ iF fi rfl N2 M2 xr
    rw[List.getElem?_map] at hx
    cases ej:(a0::oE)[j]? with
    |none=>rw[ej] at hx;cases hx
    |some aj=>
     rw[ej] at hx
     cases hx
     obtain⟨c,sY,hsq⟩:=hc.get ej
     have oz:=List.mem_of_getElem? sY
     refine⟨_,rfl,_,rfl,aj,_,_, .int (c.getD i 0),rfl,rfl,(hs.trans iF).seq hsq,bE (by rw[List.getElem?_map,(Oa c oz i hi).1];rfl),xr _ _ _ ⟨_,rfl⟩ iF fi ?_⟩
     rw[ay sY,List.map_append]
     rfl
   ·rintro H3 ys iF fi rfl
    have er:(List.take ((a0::oE).map V.ref).length cs).map (fun c=>V.int (c.getD i 0))=(row cs i).map V.int:=by
     rw[List.length_map,hc.length,List.take_length]
     unfold row
     rw[List.map_map]
     rfl
    rw[er] at fi
    refine⟨p,L2,ns,row cs i,rfl,(hs.trans iF).seq hp,aD.of fi,z1,fn,fun x hx=>?_,fun H4 e4=>hN _ _ _ ⟨_,rfl⟩ ((hs.trans iF).trans e4) (e4 _ _ (iF _ _ de)) ?_⟩
    ·obtain⟨c,oz,rfl⟩:=List.mem_map.mp hx
     exact(Oa c oz i hi).2
    ·rw[List.range_succ,List.map_append]
     rfl
  ·rintro H2 ys hs de rfl
   refine q L H2 hL hs ?_
   rw[de]
   show some (HO.lst ((List.range (List.map V.int c0).length).map _))=_
   rw[List.length_map,w0]
   unfold dY
   rw[List.map_map]
   rfl
theorem Ob{b:Bool}{A B:Prop}(hb:b=true)(h:A):if b=true then A else B:=by
 subst hb
 exact Hf h
theorem IZ{c:List Int}(h:∀x∈c,cP 70 x):Iw c:=fun x hx=>Nat.lt_of_lt_of_le (h x hx) (Nat.pow_le_pow_right (by decide) (by decide))
theorem Ja{v:List Int}(h:∀x∈v,x.natAbs≤10^20):Iw v:=fun x hx=>Nat.lt_of_lt_of_le (Nat.lt_of_le_of_lt (h x hx) (show 10^20<2^100 by decide)) (Nat.pow_le_pow_right (by decide) (by decide))
def kZ(cs:List (List Int))(n:Nat)(v:List Int):Bool:=(v.all fun x=>decide (0≤x))&&je cs n v
def iP:Sp:=fun vs H Q _=>∃(p r:Addr) (as:List Addr) (cs:List (List Int)) (n:Nat) (v:List Int),vs=[.ref p, .ref r]∧H p=some (.lst (as.map V.ref))∧aK [] H as cs∧(∀c∈cs,c.length=n∧∀x∈c,cP 70 x)∧n≤60∧1≤cs.length∧cs.length≤60∧H r=some (.lst (v.map V.int))∧v.length=cs.length∧(∀x∈v,x.natAbs≤10^20)∧∀H',ao H H'→Q (.bl (kZ cs n v)) H'
theorem sJ:aI ["columns","numbers"] ["columns","numbers"] (ag cR):=iC
theorem qB(D:Def K mg "is_balance" "is_balance" cR ["columns","numbers"])(T:gY K mg KC FC TC)(c1:bM P w K mg base 2 "gather" ["numbers","columns"] (rZ K)):bM P w K mg base 3 "is_balance" ["columns","numbers"] iP:=by
 obtain⟨_,_,ki⟩:=c1
 refine D.ic sJ (fun vs H Q E h=>?_) (fun f bW A outer s H vs Q E hr h=>?_)
 ·obtain⟨p,r,as,cs,n,v,rfl,_⟩:=h
  rfl
 ·obtain⟨p,r,as,cs,n,v,rfl,hp,fK,fit,hn,l1,Xo,hX,lv,hv,q⟩:=h
  have big:(5000 :Nat)≤sizeLine:=by decide
  refine⟨_,(av
     (aR (yj (md Mm (aA (kM rfl) rfl T.Ah tT (aa (pv 1) ai)) az (cm _)) (yi (tf (aA (oX rfl) rfl T.nQ mY (aa (aO ki.ok (hr.mono (by decide)) rfl ki.g ki.kp ki.b .nil aX (aa (pv 1) (aa (pv 0) ai))) ai))))))),?_⟩
  refine⟨_,rfl,r,v,rfl,aD.of hX,by omega,fun M hM hle=>⟨_,_,rfl,rfl,_,rfl,gz (fun c=>?_) fun c=>?_⟩⟩
  ·have c:0≤M:=by simpa using c
   have h0:(v.all fun x=>decide (0≤x))=true:=by
    rw[List.all_eq_true]
    exact fun x hx=>decide_eq_true (Int.le_trans c (hle x hx))
   refine⟨_,rfl,_,rfl,r,p,v,as,cs,n,rfl,aD.of hX,aD.of hp,fK.at,(fun z=>by rw[z] at l1;simp at l1),(fun c hc=>(fit c hc).1),by omega,by omega,by omega,Ja hv,(fun c hc=>IZ (fit c hc).2),fun L H2 nL e2 hL=>?_⟩
   refine⟨L,dY v cs n,rfl,aD.of hL,_,rfl,?_⟩
   have e:(!((dY v cs n).any fun n=>decide (n≠0)))=kZ cs n v:=by
    unfold kZ
    rw[h0,Bool.true_and,Bool.eq_iff_iff,fH,Bool.not_eq_true',List.any_eq_false]
    constructor
    ·intro z r hr
     simpa using z (dot v (row cs r)) (List.mem_map.mpr ⟨r,by simpa using hr,rfl⟩)
    ·intro z x hx
     obtain⟨r,hr,rfl⟩:=List.mem_map.mp hx
     simpa using z r (by simpa using hr)
   rw[e]
   exact q H2 e2
  ·have c:M<0:=by simpa using c
   have e:kZ cs n v=false:=by
    unfold kZ
    rw[Bool.and_eq_false_iff,List.all_eq_false]
    exact .inl ⟨M,hM,by simpa using c⟩
   have:=q H (ao.refl _)
   rw[e] at this
   exact this
def qC:Sp:=fun vs H Q _=>∃(p r:Addr) (u xs:List Int),vs=[.ref p, .ref r]∧H p=some (.lst (u.map V.int))∧H r=some (.lst (xs.map V.int))∧u.length=xs.length∧u.length≤1000∧(∀x∈u,0≤x∧x≤1000)∧(∃t,0<u.getD t 0)∧(∀x∈xs,0≤x)∧
 ∀(k:Int) H',ao H H'→0≤k→(∀t,k*u.getD t 0≤xs.getD t 0)→(∃t,0<u.getD t 0∧xs.getD t 0< (k+1)*u.getD t 0)→Q (.int k) H'
theorem Dd:aI ["small","great"] ["small","great"] (ag gT):=iC
theorem getD_in{l:List Int}{t:Nat}(h:l.getD t 0≠0):l[t]? =some (l.getD t 0):=by
 by_cases ht:t<l.length
 ·rw[List.getD_eq_getElem?_getD,List.getElem?_eq_getElem ht]
  rfl
 ·rw[List.getD_eq_getElem?_getD,List.getElem?_eq_none (by omega)] at h
  exact absurd rfl h
theorem AK(D:Def K mg "times_within" "times_within" gT ["small","great"])(T:gY K mg KC FC TC):bM P w K mg base 1 "times_within" ["small","great"] qC:=by
 refine D.ic Dd (fun vs H Q E h=>?_) (fun f bW A outer s H vs Q E hr h=>?_)
 ·obtain⟨p,r,u,xs,rfl,_⟩:=h
  rfl
 ·obtain⟨p,r,u,xs,rfl,hp,hX,lu,N8,um,⟨t0,N7⟩,hx,q⟩:=h
  have big:(1001 :Nat)≤sizeLine:=by decide
  refine⟨_,(av
     (aR (aA (kM rfl) rfl T.Ah tT (aa (bb (sc:=(ag gT)) (NX:=["small","great"]) (N:=["one","other"]) (fr:=[none,none]) ⟨by rfl,by rfl,by decide+kernel,by decide+kernel,by decide+kernel,by rfl,by decide+kernel⟩ rfl rfl rfl (dy rfl T.fE (aa (pv 0) (aa (pv 1) ai))) (fun _ _ _ _=>(cK K 2 rfl rfl (aL (aw (i:=0) (show (["one","other"]:List Str).Nodup by decide+kernel) rfl (Or.inl rfl) (Or.inr rfl)) (aL (aw (i:=1) (show (["one","other"]:List Str).Nodup by decide+kernel) rfl (Or.inl rfl) (Or.inr rfl)) bU)))) (fun _ _ _ _=>(jI (cg Fe (pv 0) az (cm _)))) (fun _ _ _ _=>(aJ ma (pv 1) (pv 0)))) ai)))),?_⟩
  refine⟨_,rfl,_,rfl,p,r,rfl,⟨_,aD.of hp⟩,⟨_,aD.of hX⟩,fun L hL=>wH (K:=K) (a:=p) (c:=r) (L:=L) (xs:=u.map V.int) (zs:=xs.map V.int) H (fun σ=>∃v w:Option V,σ=[v,w]) (fun i us=>us=(((((u.zip xs).take i).filter fun ab=>decide (0<ab.1)).map fun ab=>ab.2/ab.1).map V.int)∧i≤(u.zip xs).length)
   (aD.of hp) (aD.of hX) hL ⟨none,none,rfl⟩ (ao.new hL) af ⟨rfl,Nat.zero_le _⟩ (by rw[List.length_map];omega) ?_ ?_ ?_⟩
  ·rintro i us ⟨rfl,_⟩
   rw[List.length_map,List.length_map]
   exact Nat.le_trans (List.length_filter_le ..) (by rw[List.length_take];omega)
  ·rintro i x z t σ H2 us hx1 hz ht ⟨v,w,rfl⟩ hs de ⟨rfl,hi⟩ N M hN hM
   obtain⟨x,ka,rfl⟩:=int_at hx1
   obtain⟨z,gw,rfl⟩:=int_at hz
   have jB:(u.zip xs)[i]? =some (x,z):=by rw[List.getElem?_zip_eq_some];exact⟨ka,gw⟩
   have gK:i+1≤(u.zip xs).length:=(List.getElem?_eq_some_iff.mp jB).1
   have fi:(upd H2 t (.tup [V.int x,V.int z])) L=_:=ao.new ht _ _ de
   have hxb:=um x (List.mem_of_getElem? ka)
   refine⟨t,_,rfl,lN.of af,rfl,_,_,rfl,_,_,rfl,rfl,_,rfl,_,_,rfl,rfl,_,rfl,gz (fun c=>?_) fun c=>?_⟩
   ·have c:0<x:=by simpa using c
    refine⟨_,rfl,_,rfl,_,_,rfl,rfl,⟨c,by omega⟩,hN _ _ _ ⟨_,_,rfl⟩ (hs.trans (ao.new ht)) fi ⟨?_,gK⟩⟩
    rw[ay jB,List.filter_append,List.map_append,List.map_append]
    simp [c]
   ·have c:¬0<x:=by simpa using c
    refine hM _ _ ⟨_,_,rfl⟩ (hs.trans (ao.new ht)) fi ⟨?_,gK⟩
    rw[ay jB,List.filter_append]
    simp [c]
  ·rintro H2 us hs de ⟨rfl,_⟩
   have e:(u.zip xs).take (min (u.map V.int).length (xs.map V.int).length)=u.zip xs:=List.take_of_length_le (by rw[List.length_zip,List.length_map,List.length_map];exact Nat.le_refl _)
   rw[e] at de
   have mem:∀t,0<u.getD t 0→xs.getD t 0/u.getD t 0∈((u.zip xs).filter fun ab=>decide (0<ab.1)).map fun ab=>ab.2/ab.1:=fun t ht=>by
    have h1:=getD_in (l:=u) (t:=t) (by omega)
    have IP:=(List.getElem?_eq_some_iff.mp h1).1
    have h2:xs[t]? =some (xs.getD t 0):=by rw[List.getD_eq_getElem?_getD,List.getElem?_eq_getElem (by omega)];rfl
    have hz:(u.zip xs)[t]? =some (u.getD t 0,xs.getD t 0):=by rw[List.getElem?_zip_eq_some];exact⟨h1,h2⟩
    exact List.mem_map.mpr ⟨_,List.mem_filter.mpr ⟨List.mem_of_getElem? hz,by simpa using ht⟩,rfl⟩
   refine⟨L,_,rfl,aD.of de,List.length_pos_of_mem (mem t0 N7),fun M hM hle=>?_⟩
   obtain⟨ab,oh,eM⟩:=List.mem_map.mp hM
   obtain⟨h1,h2⟩:=List.mem_filter.mp oh
   have h2:0<ab.1:=by simpa using h2
   obtain⟨i,hi⟩:=List.getElem?_of_mem h1
   have hi:(u.zip xs)[i]? =some (ab.1,ab.2):=hi
   rw[List.getElem?_zip_eq_some] at hi
   have gu:u.getD i 0=ab.1:=by rw[List.getD_eq_getElem?_getD,hi.1];rfl
   have gx:xs.getD i 0=ab.2:=by rw[List.getD_eq_getElem?_getD,hi.2];rfl
   have x0:=hx ab.2 (List.mem_of_getElem? hi.2)
   refine q M H2 hs (by rw[←eM];exact Int.ediv_nonneg x0 (Int.le_of_lt h2)) (fun t=>?_) ⟨i,by rw[gu];exact h2,?_⟩
   ·by_cases ht:0<u.getD t 0
    ·have h3:=hle _ (mem t ht)
     have h4:M*u.getD t 0≤xs.getD t 0/u.getD t 0*u.getD t 0:=Int.mul_le_mul_of_nonneg_right h3 (Int.le_of_lt ht)
     have h5:=Int.ediv_mul_le (xs.getD t 0) (b:=u.getD t 0) (by omega)
     omega
    ·have h3:u.getD t 0=0:=by
      by_cases z:u.getD t 0=0
      ·exact z
      ·have:=um _ (List.mem_of_getElem? (getD_in z))
       omega
     rw[h3,Int.mul_zero]
     by_cases z:xs.getD t 0=0
     ·omega
     ·exact hx _ (List.mem_of_getElem? (getD_in z))
   ·rw[gu,gx,←eM]
    exact Int.lt_ediv_add_one_mul_self ab.2 h2
def l6(xs u:List Int)(k:Int):List Int:=(xs.zip u).map fun ab=>ab.1 - k*ab.2
theorem vJ:∀(xs u:List Int) (k:Int) (t:Nat),xs.length=u.length→(l6 xs u k).getD t 0=xs.getD t 0 - k*u.getD t 0
 | [],[],k,t,_=>by simp [l6]
 |a::xs,b::u,k,0,_=>rfl
 |a::xs,b::u,k,t+1,h=>vJ xs u k t (by simpa using h)
 | [],_::_,_,_,h=>by simp at h
 |_::_,[],_,_,h=>by simp at h
theorem sL:∀(xs u:List Int) (k:Int) (y:List Int),xs.length=u.length→dot (l6 xs u k) y=dot xs y - k*dot u y
 | [],[],k,y,_=>by
   show dot [] y=dot [] y - k*dot [] y
   rw[nil_dot]
   simp
 |a::xs,b::u,k,[],_=>by
  show (0 :Int)=0 - k*0
  simp
 |a::xs,b::u,k,c::y,h=>by
  have ih:=sL xs u k y (by simpa using h)
  show (a - k*b)*c+dot (l6 xs u k) y=a*c+dot xs y - k*(b*c+dot u y)
  rw[ih,Int.sub_mul,Int.mul_add,Int.mul_assoc]
  omega
 | [],_::_,_,_,h=>by simp at h
 |_::_,[],_,_,h=>by simp at h
theorem AL(xs u:List Int)(k:Int)(h:xs.length=u.length):(l6 xs u k).length=xs.length:=by
 unfold l6
 rw[List.length_map,List.length_zip]
 omega
theorem fI:∀{v:List Int},(∀x∈v,0≤x)→∀x∈v,x≤v.sum
 | [],_,x,hx=>by cases hx
 |a::v,h,x,hx=>by
  have h0:=h a (List.mem_cons_self ..)
  have hv:∀y∈v,0≤y:=fun y hy=>h y (List.mem_cons_of_mem _ hy)
  have hs:=gW hv
  rw[List.sum_cons]
  rcases List.mem_cons.mp hx with rfl|hx
  ·omega
  ·have:=fI hv x hx
   omega
structure vK(lev:List Int→Bool)(m s:Nat)(bs:List (List Int))(v:List Int)(i:Nat)(ts xs:List Int):Prop where
 nn:Nn m xs
 sm:xs.sum≤s
 lv:lev xs=true
 no:∀u∈bs.take i,¬Le u xs
 len:ts.length=i
 bd:∀t∈ts,0≤t∧t≤s
 eq:∀j,j<m→dot ts (row (bs.take i) j)+xs.getD j 0=v.getD j 0
theorem AM{bz:List (List Int)}{wd m s:Nat}{bs:List (List Int)}{v ts xs u:List Int}{i:Nat}(S:vK (eJ bz wd) m s bs v i ts xs)(hu:bs[i]? =some u)(hL:Ny (eJ bz wd) m u){k:Int}(k0:0≤k)(kl:∀t,k*u.getD t 0≤xs.getD t 0)(kx:∃t,0<u.getD t 0∧xs.getD t 0< (k+1)*u.getD t 0):
  vK (eJ bz wd) m s bs v (i+1) (ts++[k]) (l6 xs u k):=by
 have hlen:xs.length=u.length:=by rw[S.nn.1,hL.1.1]
 have at_:=fun t=>vJ xs u k t hlen
 have un:=fun t=>nK hL.1 t
 have sn:Nn m (l6 xs u k):=⟨by rw[AL _ _ _ hlen];exact S.nn.1,fun x hx=>by
  obtain⟨t,ht⟩:=List.getElem?_of_mem hx
  have e:(l6 xs u k).getD t 0=x:=by rw[List.getD_eq_getElem?_getD,ht];rfl
  rw[←e,at_]
  have:=kl t
  omega⟩
 have le:Le (l6 xs u k) xs:=fun t=>by
  rw[at_]
  have:=Int.mul_nonneg k0 (un t)
  omega
 have ss:=(gX (by rw[sn.1,S.nn.1]) le).1
 obtain⟨t,t1,t2⟩:=kx
 have kb:k≤s:=by
  have h1:=kl t
  have h2:k*1≤k*u.getD t 0:=Int.mul_le_mul_of_nonneg_left (by omega) k0
  have h3:xs.getD t 0≤s:=by
   by_cases z:xs.getD t 0=0
   ·omega
   ·have hm:xs.getD t 0∈xs:=by
     by_cases ht:t<xs.length
     ·rw[List.getD_eq_getElem?_getD,List.getElem?_eq_getElem ht]
      exact List.getElem_mem ht
     ·rw[List.getD_eq_getElem?_getD,List.getElem?_eq_none (by omega)] at z
      exact absurd rfl z
    have:=fI S.nn.2 _ hm
    have:=S.sm
    omega
  omega
 refine⟨sn,by have:=S.sm;omega,?_,fun y hy=>?_,by rw[List.length_append,S.len];rfl,fun y hy=>?_,fun j hj=>?_⟩
 ·rw[mD]
  intro r hr
  rw[sL _ _ _ _ hlen,(mD bz wd xs).mp S.lv r hr,(mD bz wd u).mp hL.2.2.1 r hr]
  simp
 ·rw[ay hu] at hy
  intro z
  rcases List.mem_append.mp hy with hy|hy
  ·exact S.no y hy fun t=>Int.le_trans (z t) (le t)
  ·have ey:y=u:=by simpa using hy
   subst ey
   have:=z t
   rw[at_,Int.add_mul,Int.one_mul] at*
   omega
 ·rcases List.mem_append.mp hy with hy|hy
  ·exact S.bd y hy
  ·have ey:y=k:=by simpa using hy
   rw[ey]
   exact⟨k0,kb⟩
 ·have e:row (bs.take (i+1)) j=row (bs.take i) j++[u.getD j 0]:=by
   unfold row
   rw[ay hu,List.map_append]
   rfl
  have il:i<bs.length:=(List.getElem?_eq_some_iff.mp hu).1
  rw[e,rP _ _ _ _ (by rw[S.len,fh,List.length_take];omega),at_]
  have:=S.eq j hj
  omega
theorem De{bz:List (List Int)}{wd m s:Nat}{bs:List (List Int)}{v ts xs:List Int}(S:vK (eJ bz wd) m s bs v bs.length ts xs)(hb:∀u,Ny (eJ bz wd) m u→u.sum≤s→u∈bs):∀j,j<m→dot ts (row bs j)=v.getD j 0:=by
 have x0:xs.sum=0:=by
  rcases Int.lt_or_eq_of_le (gW S.nn.2) with z|z
  ·exfalso
   obtain⟨u,hu,hle⟩:=gn (lev:=eJ bz wd) (m:=m) s xs S.nn z S.sm S.lv
   have h1:=(gX (by rw[hu.1.1,S.nn.1]) hle).1
   have:=S.sm
   have hm:=hb u hu (by omega)
   exact S.no u (by rw[List.take_length];exact hm) hle
  ·exact z.symm
 have e:=zero_of S.nn.2 x0
 intro j hj
 have h1:=S.eq j hj
 rw[List.take_length] at h1
 have h2:xs.getD j 0=0:=by
  rw[e,List.getD_eq_getElem?_getD,List.getElem?_replicate]
  split<;>rfl
 omega
def vL:Sp:=fun vs H Q _=>∃(p r:Addr) (as:List Addr) (cs:List (List Int)) (n s:Nat) (v:List Int),vs=[.ref p, .ref r]∧H p=some (.lst (as.map V.ref))∧aK [] H as cs∧(∀c∈cs,c.length=n∧∀x∈c,cP 70 x)∧n≤60∧1≤cs.length∧cs.length≤8∧H r=some (.lst (v.map V.int))∧Nn cs.length v∧v.sum=s∧s≤8∧(∀k,k<s→(bB cs.length (bC (eJ (dR cs n) (aQ cs n).length) cs.length k).2).length≤7000)∧(∀k,k≤s→(bC (eJ (dR cs n) (aQ cs n).length) cs.length k).1.length≤70000)∧(∀r,r<n→dot v (row cs r)=0)∧
 ∀(l:Addr) (ts:List Int) (bs:List (List Int)) H',ao H H'→H' l=some (.lst (ts.map V.int))→bs.Perm (bC (eJ (dR cs n) (aQ cs n).length) cs.length s).1→bs.Pairwise (fun a b=>¬b<a)→ts.length=bs.length→(∀t∈ts,0≤t∧t≤s)→(∀j,j<cs.length→dot ts (row bs j)=v.getD j 0)→Q (.ref l) H'
theorem du:aI ["columns","balance","rest","told","one","times"] ["columns","balance"] (ag fD):=iC
theorem AN(D:Def K mg "split" "split" fD ["columns","balance"])(T:gY K mg KC FC TC)(c1:bM P w K mg base 3 "is_balance" ["columns","numbers"] iP)(c2:bM P w K mg base 6 "least" ["columns","most"] qp)(c3:bM P w K mg base 1 "times_within" ["small","great"] qC):bM P w K mg base 7 "split" ["columns","balance"] vL:=by
 obtain⟨_,_,bK⟩:=c1
 obtain⟨_,_,fj⟩:=c2
 obtain⟨_,_,bp⟩:=c3
 refine D.ic du (fun vs H Q E h=>?_) (fun f bW A outer s H vs Q E hr h=>?_)
 ·obtain⟨p,r,as,cs,n,s,v,rfl,_⟩:=h
  rfl
 ·obtain⟨p,r,as,cs,n,s,v,rfl,hp,fK,fit,hn,m1,m5,hX,vn,vs,ls8,Vv,LV,lev,q⟩:=h
  have big:(1000000 :Nat)≤sizeLine:=by decide
  have vb:∀x∈v,0≤x∧x≤1000:=fun x hx=>⟨vn.2 x hx,by have:=fI vn.2 x hx;omega⟩
  refine⟨_,(ak
     (dF (eH (dv (aO bK.ok (hr.mono (by decide)) rfl bK.g bK.kp bK.b .nil aX (aa (pv 0) (aa (pv 1) ai)))))
      (av
       yk)
      bI)
    (ak
     (aG (i:=2) du.nd rfl (Or.inl rfl) (pv 1))
    (ak
     (aG (i:=3) du.nd rfl (Or.inl rfl) (bq ai))
    (ak
     (cy PassesOwn.never rfl (bh (aO fj.ok (hr.mono (by decide)) rfl fj.g fj.kp fj.b .nil aX (aa (pv 0) (aa (aA (dM rfl) rfl T.hV fZ (aa (pv 1) ai)) ai)))) (aw (i:=4) du.nd rfl (Or.inl rfl))
      (ak
       (aG (i:=5) du.nd rfl (Or.inr rfl) (aO bp.ok (hr.mono (by decide)) rfl bp.g bp.kp bp.b .nil aX (aa (pv 4) (aa (pv 2) ai))))
      (ak
       (eP (i:=2) du.nd rfl (Or.inl rfl) (sc:=(ag fD)) (NX:=["columns","balance","rest","told","one","times"]) (N:=["number","taken","times"]) (fr:=[none,none,some 5]) ⟨by rfl,by rfl,by decide+kernel,by decide+kernel,by decide+kernel,by rfl,by decide+kernel⟩ rfl rfl rfl (dy rfl T.fE (aa (pv 2) (aa (pv 4) ai))) (fun _ _ _ _=>(cK K 2 rfl rfl (aL (aw (i:=0) (show (["number","taken","times"]:List Str).Nodup by decide+kernel) rfl (Or.inl rfl) (Or.inr rfl)) (aL (aw (i:=1) (show (["number","taken","times"]:List Str).Nodup by decide+kernel) rfl (Or.inl rfl) (Or.inr rfl)) bU)))) (fun _ _ _ _=>aT) (fun _ _ _ _=>(aJ fu (pv 0) (aJ ik (pv 2) (pv 1)))))
      (av
       (cI (ip PySem.F.plainAttrs_list PySem.F.slot_list_append PySem.F.type_list_append bY (pv 3) (aa (pv 5) ai)))))))
    (av
     (aR (pv 3))))))),?_⟩
  refine⟨_,rfl,_,rfl,p,r,as,cs,n,v,rfl,hp,fK,fit,hn,m1,by omega,hX,vn.1,(fun x hx=>by have:=vb x hx;omega),fun H1 e1=>⟨_,rfl,vH (by rw[show kZ cs n v=true by unfold kZ;rw[Bool.and_eq_true,List.all_eq_true,fH];exact⟨fun x hx=>decide_eq_true (vn.2 x hx),lev⟩];rfl) ?_⟩⟩
  refine⟨_,rfl,(by show 0≤sizeLine;decide),fun D1 FU=>?_⟩
  have s2:=ao.new (o:= .lst []) FU
  have Vw:(upd H1 D1 (.lst [])) D1=some (.lst ([].map V.int)):=af
  generalize upd H1 D1 (.lst [])=H2 at s2 Vw ⊢
  have e2:=e1.trans s2
  have N5:=e1.free FU
  dsimp only [aV]
  refine⟨_,rfl,_,rfl,r,v,rfl,aD.of (e2 _ _ hX),p,as,cs,n,s,by rw[vs];rfl,e2 _ _ hp,fK.same e2,fit,hn,m1,by omega,by omega,Vv,LV,fun fl fs bs H3 XE e3 p2 o2 C9 hfs _=>?_⟩
  have Vx:=hfs.length
  have mem:∀u,u∈bs↔Ny (eJ (dR cs n) (aQ cs n).length) cs.length u∧u.sum≤s:=fun u=>by rw[p2.mem_iff];exact(eF _ _ s).1 u
  have b64:bs.length≤70000:=by rw[p2.length_eq];exact LV s (Nat.le_refl _)
  have e03:=e2.trans e3
  have nfD:fl≠D1:=fun z=>by rw[z,Vw] at XE;cases XE
  refine⟨fl,rfl,⟨_,aD.of C9⟩,gy (K:=K) (a:=fl) (xs:=fs.map V.ref) (fun i σ H'=>∃(ra:Addr) (ts xs:List Int) (v4 v5:Option V),σ=[some (.ref p),some (.ref r),some (.ref ra),some (.ref D1),v4,v5]∧ra≠D1∧H' ra=some (.lst (xs.map V.int))∧H' D1=some (.lst (ts.map V.int))∧vK (eJ (dR cs n) (aQ cs n).length) cs.length s bs v i ts xs∧(∀b o,H3 b=some o→b≠D1→H' b=some o)) ?_ ?_ ?_ ?_⟩
  ·refine⟨r,[],v,none,none,rfl,ah hX N5,e03 _ _ hX,e3 _ _ Vw,⟨vn,by omega,(pk hn (by omega) fit vn.1).mpr lev,(fun u hu=>by cases hu),rfl,(fun t ht=>by cases ht),fun j _=>by rw[nil_dot,Int.zero_add]⟩,fun b o z _=>z⟩
  ·rintro i σ H' _ ⟨ra,ts,xs,v4,v5,rfl,_,_,_,_,kp⟩
   exact aD.of (kp _ _ C9 nfD)
  ·rintro i y σ H4 hi ⟨ra,ts,xs,v4,v5,rfl,nra,XR,AF,S,kp⟩
   obtain⟨uj,NY,rfl⟩:=b9 hi
   obtain⟨u,hu,IL,_⟩:=hfs.get NY
   have AO:=(mem u).mp (List.mem_of_getElem? hu)
   have nuj:uj≠D1:=fun z=>by
    rw[z,e3 _ _ Vw] at IL
    have e:([]:List V)=u.map V.int:=by injection IL with w;injection w
    have e2:=congrArg List.length e
    have:=AO.1.1.1
    rw[List.length_map] at e2
    simp at e2
    omega
   have Oc:=kp _ _ IL nuj
   have lux:u.length=xs.length:=by rw[AO.1.1.1,S.nn.1]
   obtain⟨t0,_,N7,_⟩:=my u AO.1.1.2 AO.1.2.1
   have ub:∀x∈u,0≤x∧x≤1000:=fun x hx=>⟨AO.1.1.2 x hx,by have:=fI AO.1.1.2 x hx;have:=AO.2;omega⟩
   refine⟨_,rfl,_,rfl,uj,ra,u,xs,rfl,Oc,XR,lux,by rw[AO.1.1.1];omega,ub,⟨t0,N7⟩,S.nn.2,fun k H5 e5 k0 kl kx=>?_⟩
   have S':=AM S hu AO.1 k0 kl kx
   have kb:=(S'.bd k (by simp)).2
   have Od:=e5 _ _ XR
   have Oe:=e5 _ _ Oc
   dsimp only [aV]
   refine⟨_,rfl,_,rfl,ra,uj,rfl,⟨_,aD.of Od⟩,⟨_,aD.of Oe⟩,fun L hL=>di (K:=K) (a:=ra) (c:=uj) (L:=L) (xs:=xs.map V.int) (zs:=u.map V.int) H5 (fun σ=>∃v w:Option V,σ=[v,w,some (.int k)]) (fun j us=>us=(((xs.zip u).take j).map fun ab=>ab.1 - k*ab.2).map V.int∧j≤(xs.zip u).length)
    (aD.of Od) (aD.of Oe) hL ⟨none,none,rfl⟩ (ao.new hL) af ⟨rfl,Nat.zero_le _⟩ (by rw[List.length_map];have:=S.nn.1;omega) ?_ ?_ ?_⟩
   ·rintro j us ⟨rfl,_⟩
    rw[List.length_map,List.length_map,List.length_take]
    omega
   ·rintro j y z t σ H6 us hy hz ht ⟨w1,w2,rfl⟩ hs mC ⟨rfl,hj⟩ N M hN
    obtain⟨y,pX,rfl⟩:=int_at hy
    obtain⟨z,gw,rfl⟩:=int_at hz
    have jB:(xs.zip u)[j]? =some (y,z):=by rw[List.getElem?_zip_eq_some];exact⟨pX,gw⟩
    have gK:j+1≤(xs.zip u).length:=(List.getElem?_eq_some_iff.mp jB).1
    have LW:(upd H6 t (.tup [V.int y,V.int z])) L=_:=ao.new ht _ _ mC
    refine⟨t,_,rfl,lN.of af,rfl,_,_,rfl,_,_,rfl,rfl,_,rfl,_,rfl,_,rfl,_,_,rfl,rfl, .inl ⟨by omega,by omega⟩,_,_,rfl,rfl,hN _ _ _ ⟨_,_,rfl⟩ (hs.trans (ao.new ht)) LW ⟨?_,gK⟩⟩
    rw[ay jB,List.map_append,List.map_append]
    rfl
   ·rintro H6 us hs mC ⟨rfl,_⟩
    have e:(xs.zip u).take (min (xs.map V.int).length (u.map V.int).length)=xs.zip u:=List.take_of_length_le (by rw[List.length_zip,List.length_map,List.length_map];exact Nat.le_refl _)
    rw[e] at mC
    have mC:H6 L=some (.lst ((l6 xs u k).map V.int)):=mC
    have Vq:=hs _ _ (e5 _ _ AF)
    have nLD:L≠D1:=Ne.symm (ah (e5 _ _ AF) hL)
    have Vj:=S.len
    have il:i<bs.length:=(List.getElem?_eq_some_iff.mp hu).1
    dsimp only [aV]
    refine⟨_,rfl, .inl ⟨rfl,_,aD.of Vq⟩,_,rfl,D1,_,_,rfl,rfl,Vq,by rw[List.length_map];omega,L,ts++[k],l6 xs u k,_,_,rfl,nLD,?_,?_,S',fun b o z w=>?_⟩
    ·rw[aq nLD]
     exact mC
    ·rw[af,List.map_append]
     rfl
    ·rw[aq w]
     exact hs _ _ (e5 _ _ (kp _ _ z w))
  ·rintro σ H4 ⟨ra,ts,xs,v4,v5,rfl,nra,XR,AF,S,kp⟩
   rw[List.length_map,Vx] at S
   refine⟨_,rfl,q D1 ts bs H4 (fun b o z=>kp _ _ (e03 _ _ z) (ah z N5)) AF p2 o2 S.len S.bd (De S fun u hu hs=>(mem u).mpr ⟨hu,hs⟩)⟩
def sM(Ns:Addr):Sp:=fun vs H Q E=>∃(p r:Addr) (as:List Addr) (cs:List (List Int)) (n:Nat) (v:List Int),vs=[.ref p, .ref r]∧H p=some (.lst (as.map V.ref))∧aK [] H as cs∧(∀c∈cs,c.length=n∧∀x∈c,cP 70 x)∧n≤60∧1≤cs.length∧cs.length≤60∧H r=some (.lst (v.map V.int))∧v.length=cs.length∧(∀x∈v,x.natAbs≤10^20)∧kZ cs n v=false∧∀H',ao H H'→E (.ref Ns) none H'
theorem xK(D:Def K mg "split" "split" fD ["columns","balance"])(T:gY K mg KC FC TC)(TE:Dc K mg HE Ns)(c0:tX P w K mg base 2 "NoSplit" Ns HE ["self"] (FY Ns))(c1:bM P w K mg base 3 "is_balance" ["columns","numbers"] iP)(c2:bM P w K mg base 6 "least" ["columns","most"] qp)(c3:bM P w K mg base 1 "times_within" ["small","great"] qC):zp P w K mg base 7 "split" ["columns","balance"] (sM Ns):=by
 obtain⟨_,_,fk⟩:=c0
 obtain⟨_,_,bK⟩:=c1
 obtain⟨_,_,fj⟩:=c2
 obtain⟨_,_,bp⟩:=c3
 refine D.WJ du (fun vs H Q E h=>?_) (fun f bW A outer s H vs Q E hr h=>?_)
 ·obtain⟨p,r,as,cs,n,v,rfl,_⟩:=h
  rfl
 ·obtain⟨p,r,as,cs,n,v,rfl,hp,fK,fit,hn,m1,XS,hX,lv,hv,hb,q⟩:=h
  refine⟨_,(ak
     (dF (eH (dv (aO bK.ok (hr.mono (by decide)) rfl bK.g bK.kp bK.b .nil aX (aa (pv 0) (aa (pv 1) ai)))))
      (av
       (zi rfl Cc (wM fk.z fk.ok (hr.mono (by decide)) rfl fk.g fk.kp fk.b)))
      bI)
    (ak
     (aG (i:=2) du.nd rfl (Or.inl rfl) (pv 1))
    (ak
     (aG (i:=3) du.nd rfl (Or.inl rfl) (bq ai))
    (ak
     (cy Hy rfl (bh (aO fj.ok (hr.mono (by decide)) rfl fj.g fj.kp fj.b .nil aX (aa (pv 0) (aa (aA (dM rfl) rfl T.hV fZ (aa (pv 1) ai)) ai)))) (aw (i:=4) du.nd rfl (Or.inl rfl))
      (ak
       (aG (i:=5) du.nd rfl (Or.inr rfl) (aO bp.ok (hr.mono (by decide)) rfl bp.g bp.kp bp.b .nil aX (aa (pv 4) (aa (pv 2) ai))))
      (ak
       (eP (i:=2) du.nd rfl (Or.inl rfl) (sc:=(ag fD)) (NX:=["columns","balance","rest","told","one","times"]) (N:=["number","taken","times"]) (fr:=[none,none,some 5]) ⟨by rfl,by rfl,by decide+kernel,by decide+kernel,by decide+kernel,by rfl,by decide+kernel⟩ rfl rfl rfl (dy rfl T.fE (aa (pv 2) (aa (pv 4) ai))) (fun _ _ _ _=>(cK K 2 rfl rfl (aL (aw (i:=0) (show (["number","taken","times"]:List Str).Nodup by decide+kernel) rfl (Or.inl rfl) (Or.inr rfl)) (aL (aw (i:=1) (show (["number","taken","times"]:List Str).Nodup by decide+kernel) rfl (Or.inl rfl) (Or.inr rfl)) bU)))) (fun _ _ _ _=>aT) (fun _ _ _ _=>(aJ fu (pv 0) (aJ ik (pv 2) (pv 1)))))
      (av
       (cI (ip PySem.F.plainAttrs_list PySem.F.slot_list_append PySem.F.type_list_append bY (pv 3) (aa (pv 5) ai)))))))
    (av
     (aR (pv 3))))))),?_⟩
  refine⟨_,rfl,_,rfl,p,r,as,cs,n,v,rfl,hp,fK,fit,hn,m1,XS,hX,lv,hv,fun H1 e1=>⟨_,rfl,Ob (by rw[hb];rfl) ?_⟩⟩
  refine⟨(by show 0≤100;decide),fun e he=>⟨e,rfl,af,rfl,e,Ns,HE,_,none,rfl,fk.z,af,q _ fun b o z=>?_⟩⟩
  have nb:=ah (e1 _ _ z) he
  rw[aq nb,aq nb]
  exact e1 _ _ z
theorem nZ{a b:List (List Int)}(h:a.Perm b)(oa:a.Pairwise (fun a b=>¬b<a))(ob:b.Pairwise (fun a b=>¬b<a)):a=b:=List.Perm.eq_of_pairwise (fun a b _ _ h h'=>List.le_antisymm (List.not_lt.mp h) (List.not_lt.mp h')) oa ob h
section
variable {lev:List Int→Bool}{m mo:Nat}{L:List (List Int)}
structure Jb(lev:List Int→Bool)(m mo:Nat)(L:List (List Int)):Prop where
 m1:∀v∈L,Nn m v∧lev v=true
 m2:∀v,Nn m v→0<v.sum→v.sum≤mo→lev v=true→v∈L
 nd:L.Nodup
 so:L.Pairwise fun a b=>a.sum≤b.sum
theorem Df(g:Jb lev m mo L){i:Nat}{x:List Int}(hx:L[i]? =some x)(x0:0<x.sum)(x1:x.sum≤mo):(((L.take i).filter fun v=>decide (v∈(bC lev m mo).1)).any fun y=>iM y x)=!decide (x∈(bC lev m mo).1):=by
 obtain⟨ht,_⟩:=eF lev m mo
 have hxm:=List.mem_of_getElem? hx
 obtain⟨xn,xl⟩:=g.m1 x hxm
 have hi:=List.getElem?_eq_some_iff.mp hx
 by_cases c:x∈(bC lev m mo).1
 ·rw[decide_eq_true c,Bool.not_true,←Bool.not_eq_true,List.any_eq_true]
  rintro ⟨y,hy,hf⟩
  obtain⟨hy1,hy2⟩:=List.mem_filter.mp hy
  obtain⟨⟨yn,y0,yl,_⟩,y1⟩:=(ht y).mp (of_decide_eq_true hy2)
  have e:=((ht x).mp c).1.2.2.2 y yn y0 yl ((nN (by rw[yn.1,xn.1])).mp hf)
  subst e
  obtain⟨j,hj⟩:=List.getElem?_of_mem hy1
  have wO:j<i:=by
   have:=(List.getElem?_eq_some_iff.mp hj).1
   rw[List.length_take] at this
   omega
  rw[List.getElem?_take,if_pos wO] at hj
  have:=(List.getElem?_inj (List.getElem?_eq_some_iff.mp hj).1 g.nd).mp (hj.trans hx.symm)
  omega
 ·rw[decide_eq_false c,Bool.not_false,List.any_eq_true]
  obtain⟨u,hu,ule⟩:=gn mo x xn x0 x1 xl
  have us:=gX (by rw[hu.1.1,xn.1]) ule
  have ux:u≠x:=fun z=>c ((ht x).mpr ⟨z▸hu,x1⟩)
  have ul:u.sum<x.sum:=by
   rcases Int.lt_or_eq_of_le us.1 with h|h
   ·exact h
   ·exact absurd (us.2 h) ux
  have AO:=g.m2 u hu.1 hu.2.1 (by omega) hu.2.2.1
  obtain⟨j,hj⟩:=List.getElem?_of_mem AO
  have wO:=List.getElem?_eq_some_iff.mp hj
  have ji:j<i:=by
   rcases Nat.lt_or_ge j i with h|h
   ·exact h
   ·rcases Nat.eq_or_lt_of_le h with h|h
    ·subst h
     rw[hx] at hj
     exact absurd (Option.some.inj hj).symm ux
    ·have:=List.pairwise_iff_getElem.mp g.so i j hi.1 wO.1 h
     rw[hi.2,wO.2] at this
     omega
  refine⟨u,List.mem_filter.mpr ⟨?_,decide_eq_true ((ht u).mpr ⟨hu,by omega⟩)⟩,(nN (by rw[hu.1.1,xn.1])).mpr ule⟩
  exact List.mem_of_getElem? (i:=j) (by rw[List.getElem?_take,if_pos ji];exact hj)
theorem Dg(g:Jb lev m mo L):(L.filter fun v=>decide (v∈(bC lev m mo).1)).Perm (bC lev m mo).1:=by
 obtain⟨ht,nt⟩:=eF lev m mo
 refine(List.perm_ext_iff_of_nodup (g.nd.filter _) nt).mpr fun v=>?_
 rw[List.mem_filter,decide_eq_true_eq]
 refine⟨fun h=>h.2,fun h=>⟨?_,h⟩⟩
 obtain⟨hl,hs⟩:=(ht v).mp h
 exact g.m2 v hl.1 hl.2.1 hs hl.2.2.1
end
theorem xM(lev:List Int→Bool)(m s:Nat):(bC lev m s).1.length≤(s+1) ^m:=by
 obtain⟨ht,nt⟩:=eF lev m s
 refine Nat.le_trans (AD nt (m:=(lstP s m).map (·.1)) fun v hv=>?_) (by rw[List.length_map];exact mE s m)
 obtain⟨hl,hs⟩:=(ht v).mp hv
 exact List.mem_map.mpr ⟨_,uy s m v hl.1.1 hl.1.2 hs,rfl⟩
def sN:Sp:=fun vs H Q _=>∃(b:Addr) (lb:List Addr) (qD:List (List Int)) (m mo:Nat) (lev:List Int→Bool),vs=[.ref b, .int mo]∧H b=some (.lst (lb.map V.ref))∧aK [] H lb qD∧m≤8∧(∀v∈qD,Nn m v∧lev v=true)∧(∀v,Nn m v→0<v.sum→v.sum≤mo→lev v=true→v∈qD)∧qD.Nodup∧qD.length≤70000∧
 ∀l oE zk H',ao H H'→zk.Perm (bC lev m mo).1→zk.Pairwise (fun a b=>¬b<a)→H' l=some (.lst (oE.map V.ref))→aK [] H' oE zk→Q (.ref l) H'
theorem n8:aI ["_law_balances","_law_most","_law_found","_law_x"] ["_law_balances","_law_most"] (ag eZ):=iC
theorem xN(D:Def K mg "_law_least" "_law_least" eZ ["_law_balances","_law_most"])(T:gY K mg KC FC TC)(c3:bM P w K mg base 1 "_law_beneath" ["_law_one","_law_other"] qo):bM P w K mg base 2 "_law_least" ["_law_balances","_law_most"] sN:=by
 obtain⟨_,_,fW⟩:=c3
 refine D.ic n8 (fun vs H Q E h=>?_) (fun f bW A outer s H vs Q E hr h=>?_)
 ·obtain⟨p,lb,qD,m,mo,lev,rfl,_⟩:=h
  rfl
 ·obtain⟨L,lb,qD,m,mo,lev,rfl,de,Of,m8,kn,nh,Vy,lbal,q⟩:=h
  have ur:=hr.units
  have big:(1000000 :Nat)≤sizeLine:=by decide
  have Og:=Of.length
  refine⟨_,(ak
     (aG (i:=2) n8.nd rfl (Or.inl rfl) (bq ai))
    (ak
     (cy PassesOwn.never rfl (bh (t7 rfl rfl T.nO rfl T.hV (aa (pv 0) ai))) (aw (i:=3) n8.nd rfl (Or.inr rfl))
      (av
       (dF (PW.pt (GW (yy uP yx az (aA (dM rfl) rfl T.hV fZ (aa (pv 3) ai)) (pv 1)) (Bu (eH (dv (aA (call_any rfl) rfl T.nQ mY (aa (bb (sc:=(ag eZ)) (NX:=["_law_balances","_law_most","_law_found","_law_x"]) (N:=["_law_y","_law_x"]) (fr:=[none,some 3]) ⟨by rfl,by rfl,by decide+kernel,by decide+kernel,by decide+kernel,by rfl,by decide+kernel⟩ rfl rfl rfl (bh (pv 2)) (fun _ _ _ _=>(aw (i:=0) (show (["_law_y","_law_x"]:List Str).Nodup by decide+kernel) rfl (Or.inl rfl) (Or.inr rfl))) (fun _ _ _ _=>aT) (fun _ _ _ _=>(aO fW.ok (hr.mono (by decide)) rfl fW.g fW.kp fW.b .nil aX (aa (pv 0) (aa (pv 1) ai))))) ai)))))))
        (av
         (cI (ip PySem.F.plainAttrs_list PySem.F.slot_list_append PySem.F.type_list_append bY (pv 2) (aa (pv 3) ai))))
        bI)))
    (av
     (aR (aA (jU ur) rfl T.nO kL (aa (pv 2) ai)))))),?_⟩
  refine⟨(by show 0≤sizeLine;decide),fun F hF=>?_⟩
  have nF:=hF
  have sF:=ao.new (o:= .lst []) hF
  have LU:(upd H F (.lst [])) F=some (.lst []):=af
  have Jc:aK [F] (upd H F (.lst [])) lb qD:=bR (fun a c z=>⟨sF _ _ z.1,by simpa using ah z.1 hF⟩) Of
  have fi:=sF _ _ de
  have e3:=sF
  generalize upd H F (.lst [])=H3 at sF LU Jc fi e3 ⊢
  dsimp only [aV]
  refine⟨_,rfl,L,lb,qD,rfl,aD.of fi,Jc.at,fun S ps Oh XT hS=>?_⟩
  have pm:∀i∈ps,i<lb.length:=fun i hi=>by simpa using Oh.mem_iff.mp hi
  have sS:=ao.new (o:= .lst ((ps.map fun i=>lb.getD i 0).map V.ref)) hS
  have Vz:(upd H3 S (.lst ((ps.map fun i=>lb.getD i 0).map V.ref))) S=some (.lst ((ps.map fun i=>lb.getD i 0).map V.ref)):=af
  have VA:aK [F] (upd H3 S (.lst ((ps.map fun i=>lb.getD i 0).map V.ref))) (ps.map fun i=>lb.getD i 0) (qi qD ps):=bR (fun a c z=>⟨sS _ _ z.1,z.2⟩) (g6 Jc ps pm)
  have perm:(qi qD ps).Perm qD:=by
   have h1:=Oh.map fun i=>qD.getD i []
   rw[Og,map_range] at h1
   exact h1
  have g:Jb lev m mo (qi qD ps):=⟨fun v hv=>kn v (perm.mem_iff.mp hv),fun v a1 a2 a3 a4=>perm.mem_iff.mpr (nh v a1 a2 a3 a4),perm.symm.nodup Vy,by
   have h2:=XT
   rw[List.pairwise_map] at h2
   unfold qi
   rw[List.pairwise_map]
   exact h2⟩
  have FX:=sS _ _ LU
  have e4:=e3.trans sS
  have nS:S≠F:=Ne.symm (ah LU hS)
  have lps:(qi qD ps).length≤70000:=by rw[perm.length_eq];omega
  generalize upd H3 S (.lst ((ps.map fun i=>lb.getD i 0).map V.ref))=H4 at sS Vz VA FX e4 ⊢
  generalize (ps.map fun i=>lb.getD i 0)=xa at Vz VA ⊢
  have lxa:=VA.length
  have hal:=Dg g
  have XU:=fun i x hx=>Df g (i:=i) (x:=x) hx
  have hgm:=g.m1
  have htd:∀v∈(bC lev m mo).1,0<v.sum∧v.sum≤mo:=fun v hv=>by have:=((eF lev m mo).1 v).mp hv;exact⟨this.1.2.1,this.2⟩
  generalize (bC lev m mo).1=told at*
  generalize qi qD ps=Lx at*
  refine⟨S,rfl,⟨_,aD.of Vz⟩,gy (K:=K) (a:=S) (xs:=xa.map V.ref) (fun i σ H'=>∃(fa:List Addr) (v4:Option V),σ=[some (.ref L),some (.int mo),some (.ref F),v4]∧H' F=some (.lst (fa.map V.ref))∧aK [F] H' fa ((Lx.take i).filter fun v=>decide (v∈told))∧∀b o,H4 b=some o→b≠F→H' b=some o) ?_ (fun i σ H' _ ⟨_,_,_,_,_,e⟩=>aD.of (e _ _ Vz nS)) ?_ ?_⟩
  ·exact⟨[],none,rfl,FX, .nil,fun b o z _=>z⟩
  ·rintro i y σ H5 hi ⟨fa,v4,rfl,FZ,sZ,e5⟩
   obtain⟨xj,XW,rfl⟩:=b9 hi
   obtain⟨x,hx,Oi,XX⟩:=VA.get XW
   have Oj:=e5 _ _ Oi (by simpa using XX)
   have VB:=XU i x hx
   have IX:=sZ.length
   have lfl:((Lx.take i).filter fun v=>decide (v∈told)).length≤70000:=Nat.le_trans (List.length_filter_le _ _) (by rw[List.length_take];omega)
   have C9:∀u∈((Lx.take i).filter fun v=>decide (v∈told)),u.length=m:=fun u hu=>(hgm u (List.mem_of_mem_take (List.mem_filter.mp hu).1)).1.1
   have esn:(Lx.take (i+1)).filter (fun v=>decide (v∈told))=(Lx.take i).filter (fun v=>decide (v∈told))++[x].filter fun v=>decide (v∈told):=by rw[ay hx,List.filter_append]
   rw[esn]
   generalize ((Lx.take i).filter fun v=>decide (v∈told))=fl at*
   have no:x∉told→aK [F] H5 fa (fl++[x].filter fun v=>decide (v∈told)):=fun z=>by
    rw[show [x].filter (fun v=>decide (v∈told))=[] by simp only [List.filter_cons,decide_eq_false z,List.filter_nil];rfl,List.append_nil]
    exact sZ
   dsimp only [aV]
   refine⟨_,rfl,xj,x,rfl,aD.of Oj,_,_,rfl,rfl,_,rfl,gz (fun c0=>?_) fun c0=>?_⟩
   rotate_left
   ·have c0:¬0<x.sum:=by simpa using c0
    exact⟨_,rfl,lQ ⟨fa,_,rfl,FZ,no fun z=>c0 (htd x z).1,e5⟩⟩
   have c0:0<x.sum:=by simpa using c0
   refine⟨_,rfl,_,_,rfl,rfl,_,rfl,gz (fun c1=>?_) fun c1=>?_⟩
   rotate_left
   ·have c1:¬x.sum≤mo:=by simpa using c1
    exact⟨fa,_,rfl,FZ,no fun z=>c1 (htd x z).2,e5⟩
   have c1:x.sum≤mo:=by simpa using c1
   have VB:=VB c0 c1
   refine⟨_,rfl,F,rfl,⟨_,aD.of FZ⟩,fun L3 fi=>cC (K:=K) (a:=F) (L:=L3) (xs:=fa.map V.ref) H5 (fun σ=>∃v:Option V,σ=[v,some (.ref xj)]) (fun j ys=>ys=((fl.take j).map fun u=>iM u x).map V.bl)
    (aD.of FZ) fi ⟨none,rfl⟩ (ao.new fi) af rfl (by rw[List.length_map];omega) ?_ ?_ ?_⟩
   ·rintro j ys rfl
    rw[List.length_map,List.length_map,List.length_take];omega
   ·rintro j y σ H6 ys hy ⟨v,rfl⟩ lX mC rfl N2 M2 xr
    obtain⟨uj,NY,rfl⟩:=b9 hy
    obtain⟨u,hu,IL,_⟩:=(sZ.same lX).get NY
    refine⟨_,rfl,_,rfl,uj,xj,u,x,rfl,IL,lX _ _ Oj,by rw[C9 u (List.mem_of_getElem? hu)];omega,fun H7 e7=>xr _ _ _ ⟨_,rfl⟩ (lX.trans e7) (e7 _ _ mC) ?_⟩
    rw[ay hu,List.map_append,List.map_append]
    rfl
   ·rintro H6 ys lX mC rfl
    rw[List.length_map,IX,List.take_length] at mC
    have NZ:(fl.map fun u=>iM u x).any id=fl.any fun u=>iM u x:=by rw[List.any_map];rfl
    have e6:∀b o,H4 b=some o→b≠F→H6 b=some o:=fun b o z w=>lX _ _ (e5 b o z w)
    refine⟨L3,_,rfl,aD.of mC,_,rfl,gz (fun c=>?_) fun c=>?_⟩
    ·rw[NZ,VB,Bool.not_not] at c
     have hF6:=lX _ _ FZ
     refine⟨_,rfl, .inl ⟨rfl,_,aD.of hF6⟩,_,rfl,F,_,_,rfl,rfl,hF6,by rw[List.length_map];omega,fa++[xj],_,rfl,?_,?_,fun b o z w=>?_⟩
     ·rw[af,List.map_append]
      rfl
     ·rw[show [x].filter (fun v=>decide (v∈told))=[x] by simp only [List.filter_cons,c,if_true,List.filter_nil]]
      refine((sZ.same lX).snoc (e6 _ _ Oi (by simpa using XX)) XX).keep fun b o z w=>?_
      rw[aq (by simpa using w)]
      exact z
     ·rw[aq w]
      exact e6 b o z w
    ·rw[NZ,VB,Bool.not_not] at c
     have c:decide (x∈told)=false:=by simpa using c
     rw[show [x].filter (fun v=>decide (v∈told))=[] by simp only [List.filter_cons,c,List.filter_nil];rfl,List.append_nil]
     exact⟨fa,_,rfl,lX _ _ FZ,sZ.same lX,e6⟩
  ·rintro σ H5 ⟨fa,v4,rfl,FZ,sZ,e5⟩
   rw[List.length_map,lxa,List.take_length] at sZ
   have C9:∀u∈(Lx.filter fun v=>decide (v∈told)),u.length=m:=fun u hu=>(hgm u (List.mem_filter.mp hu).1).1.1
   generalize (Lx.filter fun v=>decide (v∈told))=fl at*
   have IX:=sZ.length
   have e45:ao H H5:=fun b o z=>e5 _ _ (e4 _ _ z) (ah z nF)
   refine⟨_,rfl,F,fa,fl,m,rfl,aD.of FZ,sZ.at,C9,fun l XY BZ Fl LR=>?_⟩
   have pm2:∀i∈XY,i<fa.length:=fun i hi=>by simpa using BZ.mem_iff.mp hi
   have h0:aK [] H5 fa fl:=bR (fun _ _ z=>⟨z.1,by simp⟩) sZ
   refine q l _ (qi fl XY) _ (e45.trans (ao.new LR)) ?_ Fl af ((g6 h0 XY pm2).same (ao.new LR))
   have h1:=BZ.map fun i=>fl.getD i []
   rw[IX,map_range] at h1
   exact h1.trans hal
def sO:Sp:=fun vs H Q _=>∃(t l r:Addr) (ts v:List Int) (fs:List Addr) (bs:List (List Int)) (m:Nat),vs=[.ref t, .ref l, .ref r]∧H t=some (.lst (ts.map V.int))∧H l=some (.lst (fs.map V.ref))∧aK [] H fs bs∧H r=some (.lst (v.map V.int))∧ts.length=bs.length∧(∀x∈ts,0≤x∧x≤1000)∧v.length=m∧m≤1000∧bs.length≤70000∧(∀b∈bs,b.length=m)∧(∀j,j<m→dot ts (row bs j)=v.getD j 0)∧∀H',ao H H'→Q (.bl true) H'
theorem n9:aI ["_law_found","_law_some","_law_balance","_law_number","_law_j"] ["_law_found","_law_some","_law_balance"] (ag fe):=iC
theorem xO(D:Def K mg "_law_adds_up" "_law_adds_up" fe ["_law_found","_law_some","_law_balance"])(T:gY K mg KC FC TC):bM P w K mg base 1 "_law_adds_up" ["_law_found","_law_some","_law_balance"] sO:=by
 refine D.ic n9 (fun vs H Q E h=>?_) (fun f bW A outer s H vs Q E hr h=>?_)
 ·obtain⟨t,l,r,ts,v,fs,bs,m,rfl,_⟩:=h
  rfl
 ·obtain⟨t,l,r,ts,v,fs,bs,m,rfl,ht,hl,hbs,hX,lt,su,lv,hm,lb,hb,hd,q⟩:=h
  have big:(1000000 :Nat)≤sizeLine:=by decide
  have Vx:=hbs.length
  refine⟨_,(ak
     (dF (PW.pt (mK (eH (dv (aA iq rfl T.aU aY (aa (pv 0) (aa (l8 (v:= .ty "list") rfl T.n_list dJ rfl) ai))))) (mJ (cg qP (aA aS rfl T.eL da (aa (pv 0) ai)) (aA aS rfl T.eL da (aa (pv 1) ai)) (cm _)))))
      (av
       (aR jf))
      bI)
    (ak
     (cy PassesOwn.never rfl (bh (pv 0)) (aw (i:=3) n9.nd rfl (Or.inl rfl))
      (av
       (dF (PW.pt (mK (eH (dv (aA iq rfl T.aU aY (aa (pv 3) (aa (l8 (v:= .ty "int") rfl T.NC Hi rfl) ai))))) (mK (dv (aA iq rfl T.aU aY (aa (pv 3) (aa (l8 (v:= .ty "bool") rfl T.IA BX rfl) ai)))) (mJ (cg uP (pv 3) az (cm _))))))
        (av
         (aR jf))
        bI)))
    (ak
     (cy PassesOwn.never rfl (bD rfl T.b8 (aa (aA aS rfl T.eL da (aa (pv 2) ai)) ai)) (aw (i:=4) n9.nd rfl (Or.inr rfl))
      (av
       (dF (cg qP (aA (dM rfl) rfl T.hV fZ (aa (bb (sc:=(ag fe)) (NX:=["_law_found","_law_some","_law_balance","_law_number","_law_j"]) (N:=["_law_k","_law_found","_law_j","_law_some"]) (fr:=[none,some 0,some 4,some 1]) ⟨by rfl,by rfl,by decide+kernel,by decide+kernel,by decide+kernel,by rfl,by decide+kernel⟩ rfl rfl rfl (bD rfl T.b8 (aa (aA aS rfl T.eL da (aa (pv 1) ai)) ai)) (fun _ _ _ _=>(aw (i:=0) (show (["_law_k","_law_found","_law_j","_law_some"]:List Str).Nodup by decide+kernel) rfl (Or.inl rfl) (Or.inr rfl))) (fun _ _ _ _=>aT) (fun _ _ _ _=>(aJ ik (cJ (cp K rfl) (pv 1) (pv 0) (fun _ _=>rfl)) (cJ (cp K rfl) (cJ (cp K rfl) (pv 3) (pv 0) (fun _ _=>rfl)) (pv 2) (fun _ _=>rfl))))) ai)) (cJ dr (pv 2) (pv 4) (fun _ _=>rfl)) (cm _))
        (av
         (aR jf))
        bI)))
    (av
     (aR jf))))),?_⟩
  refine⟨_,rfl,_,_,_,_,_,rfl,rfl, .lst ht,T.k3,_,rfl,lQ ⟨_,rfl,t,_,rfl, .inl (aD.of ht),_,rfl,l,_,rfl, .inl (aD.of hl),rfl,_,rfl,Fj (by rw[List.length_map,List.length_map,lt,Vx]) ?_⟩⟩
  refine⟨_,rfl,t,rfl,⟨_,aD.of ht⟩,gy (K:=K) (a:=t) (xs:=ts.map V.int) (fun i σ H'=>∃v3:Option V,σ=[some (.ref t),some (.ref l),some (.ref r),v3,none]∧H'=H) ⟨none,rfl,rfl⟩ (fun i σ H' _ ⟨_,_,e⟩=>by rw[e];exact aD.of ht) ?_ ?_⟩
  ·rintro i x σ H' hx ⟨v,rfl,rfl⟩
   obtain⟨z,gw,rfl⟩:=int_at hx
   have z0:=(su z (List.mem_of_getElem? gw)).1
   exact⟨_,rfl,_,_,_,_,_,rfl,rfl, .int z,T.k1,_,rfl,lQ ⟨_,rfl,_,_,_,_,_,rfl,rfl, .int z,T.k2,_,rfl,lQ ⟨_,rfl,_,_,rfl,rfl,_,rfl,vH (by simpa using z0) ⟨_,rfl,rfl⟩⟩⟩⟩
  rintro σ H' ⟨v3,rfl,rfl⟩
  refine⟨_,rfl,r,_,rfl, .inl (aD.of hX),_,rfl,by omega,by rw[List.length_map];omega,cT (fun i σ H2=>∃v4:Option V,σ=[some (.ref t),some (.ref l),some (.ref r),v3,v4]∧ao H' H2) ⟨none,rfl,ao.refl _⟩ ?_ ?_⟩
  ·rintro i σ H2 hi ⟨v4,rfl,e2⟩
   have hi:i<m:=by
    rw[List.length_map] at hi
    omega
   have LI:=e2 _ _ ht
   have Lw:=e2 _ _ hl
   have XZ:=hbs.same e2
   have gvi:=getD_at (l:=v) (i:=i) (by omega)
   dsimp only [aV]
   rw[Int.zero_add]
   refine⟨_,rfl,l,_,rfl, .inl (aD.of Lw),_,rfl,by omega,by rw[List.length_map];omega,fun L hL=>mT (L:=L) H2 (fun σ=>∃w:Option V,σ=[w,some (.ref t),some (.int (i:Int)),some (.ref l)]) (fun j ys=>ys=((List.range j).map fun k=>ts.getD k 0*(row bs i).getD k 0).map V.int)
    hL ⟨none,rfl⟩ (ao.new hL) af rfl (by show (fs.map V.ref).length≤sizeLine;rw[List.length_map];omega) ?_ ?_ ?_⟩
   ·rintro j ys rfl
    rw[List.length_map,List.length_map,List.length_range];exact Nat.le_refl _
   ·rintro j σ H3 ys hj ⟨w,rfl⟩ iF fi rfl N M hN
    have hj:j<bs.length:=by
     have:j< (fs.map V.ref).length:=hj
     rw[List.length_map] at this
     omega
    have gv:=getD_at (l:=ts) (i:=j) (by omega)
    have ga:fs[j]? =some (fs.getD j 0):=by rw[List.getD_eq_getElem?_getD,List.getElem?_eq_getElem (by omega)];rfl
    obtain⟨c,sY,pj,_⟩:=(XZ.same iF).get ga
    have gc:=getD_at (l:=c) (i:=i) (by rw[hb c (List.mem_of_getElem? sY)];exact hi)
    have ec:bs.getD j []=c:=by rw[List.getD_eq_getElem?_getD,sY];rfl
    have vb:=su _ (List.mem_of_getElem? gv)
    dsimp only [aV]
    rw[Int.zero_add]
    refine⟨_,rfl,_,rfl,t,_,_, .int (ts.getD j 0),rfl,rfl,aD.of (iF _ _ LI),bE (by rw[List.getElem?_map,gv];rfl),_,rfl,_,rfl,l,_,_, .ref (fs.getD j 0),rfl,rfl,aD.of (iF _ _ Lw),bE (by rw[List.getElem?_map,ga];rfl),_,rfl,fs.getD j 0,_,_, .int (c.getD i 0),rfl,rfl,aD.of pj,bE (by rw[List.getElem?_map,gc];rfl),_,_,rfl,rfl, .inl ⟨by omega,by omega⟩,hN _ _ _ ⟨_,rfl⟩ iF fi ?_⟩
    rw[List.range_succ,List.map_append,List.map_append,List.map_cons,List.map_nil,gF hj,ec]
    rfl
   ·rintro H3 ys iF fi rfl
    have er:((List.range (fs.map V.ref).length).map fun k=>ts.getD k 0*(row bs i).getD k 0).sum=dot ts (row bs i):=iX _ ts (row bs i) (by rw[List.length_map];omega) (by rw[fh,List.length_map,Vx])
    refine⟨L,_,rfl,aD.of fi,_,rfl,_,rfl,r,_,_, .int (v.getD i 0),rfl,rfl,aD.of (iF _ _ (e2 _ _ hX)),bE (by rw[List.getElem?_map,gvi];rfl),rfl,_,rfl,Fj (congrArg V.int (er.trans (hd i hi))) ⟨_,rfl,e2.trans iF⟩⟩
  ·rintro σ H2 ⟨v4,rfl,e2⟩
   exact q H2 e2
variable {HE Ns X1 X2 X3 X4 X5 X6 X7 X8 X9:Addr}
structure Ol(K:PySem.W.Frag)(mg:Str→Option Value)(HE Ns X1 X2 X3 X4 X5 X6 X7 X8 X9:Addr):Prop extends Dc K mg HE Ns where
 aU:mg "isinstance" =none
 nQ:mg "any" =none
 qE:mg "ValueError" =none
 sP:mg "NoBalance" =some (.ref X1)
 uB:mg "NoChange" =some (.ref X2)
 sQ:mg "NoFormula" =some (.ref X3)
 xP:mg "TooLong" =some (.ref X4)
 xQ:mg "TooMany" =some (.ref X5)
 qF:mg "Unbalanced" =some (.ref X6)
 Dh:mg "Short" =some (.ref X7)
 AQ:mg "NoName" =some (.ref X8)
 Di:mg "NoRow" =some (.ref X9)
 i1:PySem.W.kitOne K (.ref Ns) (.ref X1)=some false
 i2:PySem.W.kitOne K (.ref Ns) (.ref X2)=some false
 i3:PySem.W.kitOne K (.ref Ns) (.ref X3)=some false
 i4:PySem.W.kitOne K (.ref Ns) (.ref X4)=some false
 i5:PySem.W.kitOne K (.ref Ns) (.ref X5)=some false
 i6:PySem.W.kitOne K (.ref Ns) (.ref X6)=some false
 i7:PySem.W.kitOne K (.ref Ns) (.ref X7)=some false
 i8:PySem.W.kitOne K (.ref Ns) (.ref X8)=some false
 i9:PySem.W.kitOne K (.ref Ns) (.ref X9)=some false
 iV:PySem.W.kitOne K (.ref Ns) (.type "ValueError")=some true
 iS:PySem.W.kitOne K (.ref Ns) (.ref Ns)=some true
def pB(Ns:Addr):Sp:=fun vs H Q _=>∃(p r:Addr) (as:List Addr) (cs:List (List Int)) (n:Nat) (v:List Int),vs=[.ref p, .ref r]∧H p=some (.lst (as.map V.ref))∧aK [] H as cs∧(∀c∈cs,c.length=n∧∀x∈c,cP 70 x)∧n≤60∧1≤cs.length∧cs.length≤60∧H r=some (.lst (v.map V.int))∧v.length=cs.length∧(∀x∈v,x.natAbs≤10^20)∧kZ cs n v=false∧∀H',ao H H'→Q (.bl true) H'
theorem dZ:aI ["_law_columns_here","_law_numbers","_law_caught","e","_law_others"] ["_law_columns_here","_law_numbers"] (ag eD):=iC
theorem uC{f0:Addr}(D:Def K mg "_law_refused" "_law_refused" eD ["_law_columns_here","_law_numbers"])(T:Ol K mg HE Ns X1 X2 X3 X4 X5 X6 X7 X8 X9)(Z:PySem.W.fN K Ns HE f0)(c1:zp P w K mg base 7 "split" ["columns","balance"] (sM Ns)):bM P w K mg base 8 "_law_refused" ["_law_columns_here","_law_numbers"] (pB Ns):=by
 obtain⟨_,_,cX⟩:=c1
 refine D.ic dZ (fun vs H Q E h=>?_) (fun f bW A outer s H vs Q E hr h=>?_)
 ·obtain⟨p,r,as,cs,n,v,rfl,_⟩:=h
  rfl
 ·obtain⟨p,r,as,cs,n,v,rfl,hp,fK,fit,hn,m1,XS,hX,lv,hv,hb,q⟩:=h
  refine⟨_,(ak
     (aG (i:=2) dZ.nd rfl (Or.inl rfl) yc)
    (ak
     (Cj ⟨rfl,rfl⟩ (fun _ _=>
      (av
       (cI (zh cX.ok (hr.mono (by decide)) rfl cX.g cX.kp cX.b .nil zg (aa (pv 0) (aa (pv 1) ai)))))) (fun _=>(HG K rfl (i:=3) rfl T.lL T.qA dZ.nd rfl rfl (fun _=>
      (av
       (aG (i:=2) dZ.nd rfl (Or.inl rfl) (pv 3)))) (HF Ci))))
    (ak
     (dF (PW.pt (mK (yh (yg (pv 2))) (mK (eH (dv (aA bo rfl T.aU aY (aa (pv 2) (aa (d3 (v:= .ref _) rfl T.xI rfl) ai))))) (mJ (eH (dv (aA bo rfl T.aU aY (aa (pv 2) (aa (l8 (v:= .ty "ValueError") rfl T.qE oy rfl) ai)))))))))
      (av
       (aR jf))
      bI)
    (ak
     (aG (i:=4) dZ.nd rfl (Or.inl rfl) (bq (aa (aA bo rfl T.aU aY (aa (pv 2) (aa (d3 (v:= .ref _) rfl T.sP rfl) ai))) (aa (aA bo rfl T.aU aY (aa (pv 2) (aa (d3 (v:= .ref _) rfl T.uB rfl) ai))) (aa (aA bo rfl T.aU aY (aa (pv 2) (aa (d3 (v:= .ref _) rfl T.sQ rfl) ai))) ai)))))
    (ak
     (aG (i:=4) dZ.nd rfl (Or.inl rfl) (aJ mP (pv 4) (bq (aa (aA bo rfl T.aU aY (aa (pv 2) (aa (d3 (v:= .ref _) rfl T.xP rfl) ai))) (aa (aA bo rfl T.aU aY (aa (pv 2) (aa (d3 (v:= .ref _) rfl T.xQ rfl) ai))) (aa (aA bo rfl T.aU aY (aa (pv 2) (aa (d3 (v:= .ref _) rfl T.qF rfl) ai))) ai))))))
    (ak
     (aG (i:=4) dZ.nd rfl (Or.inl rfl) (aJ mP (pv 4) (bq (aa (aA bo rfl T.aU aY (aa (pv 2) (aa (d3 (v:= .ref _) rfl T.Dh rfl) ai))) (aa (aA bo rfl T.aU aY (aa (pv 2) (aa (d3 (v:= .ref _) rfl T.AQ rfl) ai))) (aa (aA bo rfl T.aU aY (aa (pv 2) (aa (d3 (v:= .ref _) rfl T.Di rfl) ai))) ai))))))
    (av
     (aR (tf (aA (call_any rfl) rfl T.nQ mY (aa (pv 4) ai))))))))))),?_⟩
  refine⟨_,rfl,_,rfl,p,r,as,cs,n,v,rfl,hp,fK,fit,hn,m1,XS,hX,lv,hv,hb,fun H1 e1=>?_⟩
  refine⟨Ns,HE,f0,true,rfl,Z,T.uA,Hf fun e' Hr=>?_⟩
  have hE:Ck H1 e' Ns:= .inl Hr
  refine⟨_,rfl,?_⟩
  refine⟨_,rfl,_,rfl,lQ ?_⟩
  refine⟨_,rfl,e',_,_,Ns,HE,f0,true,rfl,rfl,Z,T.bT,hE,T.iS,_,rfl,lQ ⟨_,rfl,e',_,_,Ns,HE,f0,true,rfl,rfl,Z,T.bT,hE,T.iV,_,rfl,lQ ?_⟩⟩
  have big:(1000 :Nat)≤sizeLine:=by decide
  have Jd:=hE
  refine⟨_,rfl,e',_,_,Ns,HE,f0,false,rfl,rfl,Z,T.bT,Jd,T.i1,_,rfl,e',_,_,Ns,HE,f0,false,rfl,rfl,Z,T.bT,Jd,T.i2,_,rfl,e',_,_,Ns,HE,f0,false,rfl,rfl,Z,T.bT,Jd,T.i3,(by show 3≤sizeLine;decide),fun l1 h1=>?_⟩
  have s1:=ao.new (o:= .lst [V.bl false,V.bl false,V.bl false]) h1
  have q1:(upd H1 l1 (.lst [V.bl false,V.bl false,V.bl false])) l1=some (.lst [V.bl false,V.bl false,V.bl false]):=af
  generalize upd H1 l1 (.lst [V.bl false,V.bl false,V.bl false])=H2 at s1 q1 ⊢
  have Je:Ck H2 e' Ns:= .inl (s1 _ _ Hr)
  dsimp only [aV]
  refine⟨_,rfl,_,rfl,e',_,_,Ns,HE,f0,false,rfl,rfl,Z,T.bT,Je,T.i4,_,rfl,e',_,_,Ns,HE,f0,false,rfl,rfl,Z,T.bT,Je,T.i5,_,rfl,e',_,_,Ns,HE,f0,false,rfl,rfl,Z,T.bT,Je,T.i6,(by show 3≤sizeLine;decide),fun l2 h2=>⟨l1,l2,_,_,rfl,rfl,ao.new h2 _ _ q1,af,(by show 6≤sizeLine;decide),fun l3 h3=>?_⟩⟩
  have s2:=(ao.new (o:= .lst [V.bl false,V.bl false,V.bl false]) h2).trans (ao.new (o:= .lst ([V.bl false,V.bl false,V.bl false]++[V.bl false,V.bl false,V.bl false])) h3)
  have q2:(upd (upd H2 l2 (.lst [V.bl false,V.bl false,V.bl false])) l3 (.lst ([V.bl false,V.bl false,V.bl false]++[V.bl false,V.bl false,V.bl false]))) l3=some (.lst ([V.bl false,V.bl false,V.bl false]++[V.bl false,V.bl false,V.bl false])):=af
  generalize upd (upd H2 l2 (.lst [V.bl false,V.bl false,V.bl false])) l3 (.lst ([V.bl false,V.bl false,V.bl false]++[V.bl false,V.bl false,V.bl false]))=H3 at s2 q2 ⊢
  have Jf:Ck H3 e' Ns:= .inl (s2 _ _ (s1 _ _ Hr))
  dsimp only [aV]
  refine⟨_,rfl,_,rfl,e',_,_,Ns,HE,f0,false,rfl,rfl,Z,T.bT,Jf,T.i7,_,rfl,e',_,_,Ns,HE,f0,false,rfl,rfl,Z,T.bT,Jf,T.i8,_,rfl,e',_,_,Ns,HE,f0,false,rfl,rfl,Z,T.bT,Jf,T.i9,(by show 3≤sizeLine;decide),fun l4 h4=>⟨l3,l4,_,_,rfl,rfl,ao.new h4 _ _ q2,af,(by show 9≤sizeLine;decide),fun l5 h5=>?_⟩⟩
  refine⟨_,rfl,l5,List.replicate 9 false,rfl,aD.of af,_,rfl,?_⟩
  exact q _ (((e1.trans s1).trans s2).trans ((ao.new h4).trans (ao.new h5)))
theorem Dj:∀m:Nat,1≤m→m≤4→Fi [V.int 6,V.int 6,V.int 6,V.int 5] ((m:Int) - 1)=some (V.int (([6,6,6,5]:List Nat).getD (m - 1) 0 :Nat))
 |1,_,_=>rfl
 |2,_,_=>rfl
 |3,_,_=>rfl
 |4,_,_=>rfl
 |0,h,_=>absurd h (by decide)
 |_+5,_,h=>absurd h (by omega)
theorem Dk:∀m,m≤4→([6,6,6,5]:List Nat).getD (m - 1) 0≤6∧(([6,6,6,5]:List Nat).getD (m - 1) 0+1) ^m≤70000∧∀k,k< ([6,6,6,5]:List Nat).getD (m - 1) 0→m^(k+1)≤7000:=by decide+kernel
def vM(K:PySem.W.Frag):Sp:=fun vs H Q _=>∃(a:Addr) (ns:List Int),vs=[.ref a]∧aD K H a (ns.map V.int)∧ns.length≤63∧∀H',Q (.bl true) H'
theorem kj:aI ["_law_script","_law_columns_here","_law_size","_law_balances","_law_balance","_law_some","_law_handed","_law_held","_law_numbers"] ["_law_script"] (ag lY):=iC
theorem Jg{f Ns:Addr}{fd:FuncData}(F:yK K "law" "law" lY f fd)(T:gY K mg KC FC TC)(c1:bM P w K mg base 1 "_law_here" ["_law_script","_law_place"] (uu K))(c2:bM P w K mg base 2 "_law_columns" ["_law_script"] (px K))(c3:bM P w K mg base 1 "_law_lists" ["_law_size","_law_most"] vI)(c4:bM P w K mg base 1 "_law_levels" ["_law_some","_law_columns_here"] sH)(c5:bM P w K mg base 2 "_law_least" ["_law_balances","_law_most"] sN)(c6:bM P w K mg base 7 "split" ["columns","balance"] vL)(c7:bM P w K mg base 1 "_law_adds_up" ["_law_found","_law_some","_law_balance"] sO)(c8:bM P w K mg base 1 "_law_shaken" ["_law_cell","_law_many"] nX)(c9:bM P w K mg base 8 "_law_refused" ["_law_columns_here","_law_numbers"] (pB Ns)):eI P w K mg base pL 9 f fd ["_law_script"] (vM K):=by
 obtain⟨_,_,aN⟩:=c1
 obtain⟨_,_,fX⟩:=c2
 obtain⟨_,_,jb⟩:=c3
 obtain⟨_,_,cS⟩:=c4
 obtain⟨_,_,jc⟩:=c5
 obtain⟨_,_,cX⟩:=c6
 obtain⟨_,_,cx⟩:=c7
 obtain⟨_,_,a9⟩:=c8
 obtain⟨_,_,fY⟩:=c9
 refine F.ok kj (fun vs H Q E h=>?_) (fun bW A outer s H vs Q E hr h=>?_)
 ·obtain⟨a,ns,rfl,_⟩:=h
  rfl
 ·obtain⟨a,ns,rfl,hS,hlen,q⟩:=h
  have ur:=hr.units
  have big:(1000000 :Nat)≤sizeLine:=by decide
  refine⟨_,(ak
     (aG (i:=1) kj.nd rfl (Or.inr rfl) (aO fX.ok (hr.mono (by decide)) rfl fX.g fX.kp fX.b .nil aX (aa (pv 0) ai)))
    (ak
     (aG (i:=2) kj.nd rfl (Or.inl rfl) (aA aS rfl T.eL da (aa (pv 1) ai)))
    (ak
     (eP (i:=3) kj.nd rfl (Or.inl rfl) (sc:=(ag lY)) (NX:=["_law_script","_law_columns_here","_law_size","_law_balances","_law_balance","_law_some","_law_handed","_law_held","_law_numbers"]) (N:=["_law_x","_law_columns_here"]) (fr:=[none,some 1]) ⟨by rfl,by rfl,by decide+kernel,by decide+kernel,by decide+kernel,by rfl,by decide+kernel⟩ rfl rfl rfl (bh (aO jb.ok (hr.mono (by decide)) rfl jb.g jb.kp jb.b .nil aX (aa (pv 2) (aa (cJ dr (bq (uW (.int (.int (.int (.int .nil)))))) (aJ fu (pv 2) az) (fun _ _=>rfl)) ai)))) (fun _ _ _ _=>(aw (i:=0) (show (["_law_x","_law_columns_here"]:List Str).Nodup by decide+kernel) rfl (Or.inl rfl) (Or.inr rfl))) (fun _ _ _ _=>(jI (dv (aO cS.ok (hr.mono (by decide)) rfl cS.g cS.kp cS.b .nil aX (aa (pv 0) (aa (pv 1) ai)))))) (fun _ _ _ _=>(pv 0)))
    (ak
     (aG (i:=4) kj.nd rfl (Or.inl rfl) (cJ dr (pv 3) (aJ dw (aO aN.ok (hr.mono (by decide)) rfl aN.g aN.kp aN.b .nil aX (aa (pv 0) (aa az ai))) (aA aS rfl T.eL da (aa (pv 3) ai))) (fun _ _=>rfl)))
    (ak
     (aG (i:=5) kj.nd rfl (Or.inl rfl) (aO jc.ok (hr.mono (by decide)) rfl jc.g jc.kp jc.b .nil aX (aa (pv 3) (aa (aA (dM rfl) rfl T.hV fZ (aa (pv 4) ai)) ai))))
    (ak
     (eP (i:=6) kj.nd rfl (Or.inl rfl) (sc:=(ag lY)) (NX:=["_law_script","_law_columns_here","_law_size","_law_balances","_law_balance","_law_some","_law_handed","_law_held","_law_numbers"]) (N:=["_law_column"]) (fr:=[none]) ⟨by rfl,by rfl,by decide+kernel,by decide+kernel,by decide+kernel,by rfl,by decide+kernel⟩ rfl rfl rfl (bh (pv 1)) (fun _ _ _ _=>(aw (i:=0) (show (["_law_column"]:List Str).Nodup by decide+kernel) rfl (Or.inl rfl) (Or.inr rfl))) (fun _ _ _ _=>aT) (fun _ _ _ _=>(cE (ow K rfl) rfl T.n_list dJ (aa (pv 0) ai))))
    (ak
     (aG (i:=7) kj.nd rfl (Or.inl rfl) (cE bu rfl T.n_list dJ (aa (pv 4) ai)))
    (ak
     (dF (eH (dv (aO cx.ok (hr.mono (by decide)) rfl cx.g cx.kp cx.b .nil aX (aa (aO cX.ok (hr.mono (by decide)) rfl cX.g cX.kp cX.b .nil aX (aa (pv 6) (aa (pv 7) ai))) (aa (pv 5) (aa (pv 4) ai))))))
      (av
       (aR jf))
      bI)
    (ak
     (eP (i:=8) kj.nd rfl (Or.inl rfl) (sc:=(ag lY)) (NX:=["_law_script","_law_columns_here","_law_size","_law_balances","_law_balance","_law_some","_law_handed","_law_held","_law_numbers"]) (N:=["_law_x"]) (fr:=[none]) ⟨by rfl,by rfl,by decide+kernel,by decide+kernel,by decide+kernel,by rfl,by decide+kernel⟩ rfl rfl rfl (bh (aO a9.ok (hr.mono (by decide)) rfl a9.g a9.kp a9.b .nil aX (aa (aO aN.ok (hr.mono (by decide)) rfl aN.g aN.kp aN.b .nil aX (aa (pv 0) (aa az ai))) (aa (pv 2) ai)))) (fun _ _ _ _=>(aw (i:=0) (show (["_law_x"]:List Str).Nodup by decide+kernel) rfl (Or.inl rfl) (Or.inr rfl))) (fun _ _ _ _=>aT) (fun _ _ _ _=>(aJ fu (aJ dw (pv 0) az) az)))
    (ak
     (dF (cg uO (aJ dw (aO aN.ok (hr.mono (by decide)) rfl aN.g aN.kp aN.b .nil aX (aa (pv 0) (aa az ai))) az) az (cm _))
      (av
       (ky (aJ tq az az) (kv (pv 8) (aJ dw (aJ ma (aO aN.ok (hr.mono (by decide)) rfl aN.g aN.kp aN.b .nil aX (aa (pv 0) (aa az ai))) az) (pv 2)) set_list)))
      bI)
    (ak
     (dF (PW.pt (mK (cg uP (aA (kM rfl) rfl T.Ah tT (aa (pv 8) ai)) az (cm _)) (mJ (eH (dv (aO cS.ok (hr.mono (by decide)) rfl cS.g cS.kp cS.b .nil aX (aa (pv 8) (aa (pv 1) ai))))))))
      (av
       (dF (eH (dv (aO fY.ok (hr.mono (by decide)) rfl fY.g fY.kp fY.b .nil aX (aa (pv 6) (aa (pv 8) ai)))))
        (av
         (aR jf))
        bI))
      bI)
    (ak
     (dF (PW.pt (mK (cg (yS ur) (pv 6) (pv 1) (cm _)) (mJ (cg (yS ur) (pv 7) (pv 4) (cm _)))))
      (av
       (aR jf))
      bI)
    (av
     (aR (yj (aO cx.ok (hr.mono (by decide)) rfl cx.g cx.kp cx.b .nil aX (aa (aO cX.ok (hr.mono (by decide)) rfl cX.g cX.kp cX.b .nil aX (aa (pv 6) (aa (pv 7) ai))) (aa (pv 5) (aa (pv 4) ai)))) (yi (md (Hk ur) (pv 7) (pv 4) (cm _)))))))))))))))))),?_⟩
  refine⟨_,rfl,a,ns,rfl,hS,fun l as cs n H1 e1 hl fK fit n3 m1 m4=>?_⟩
  have vC:=fK.length
  have ml:(((as.map V.ref).length:Nat):Int)=((cs.length:Nat):Int):=by rw[List.length_map,vC]
  refine⟨_,rfl,l,_,rfl, .inl (aD.of hl),?_⟩
  dsimp only [aV]
  rw[ml]
  obtain⟨t6,pwt,pwk⟩:=Dk cs.length m4
  refine⟨_,rfl,(by show 4≤sizeLine;decide),fun z hz=>⟨_,rfl,_,_,rfl,rfl,z,_,_,V.int (([6,6,6,5]:List Nat).getD (cs.length - 1) 0 :Nat),rfl,rfl,aD.of af,Dj cs.length m1 m4,cs.length,([6,6,6,5]:List Nat).getD (cs.length - 1) 0,rfl,by omega,by omega,pwt,fun ll la vs H3 e3 hll hvs NV Om nd=>?_⟩⟩
  have X0:=(ao.new (o:= .lst [V.int 6,V.int 6,V.int 6,V.int 5]) hz).trans e3
  generalize ([6,6,6,5]:List Nat).getD (cs.length - 1) 0=tb at*
  have Vv:∀k,k<tb→(bB cs.length (bC (eJ (dR cs n) (aQ cs n).length) cs.length k).2).length≤7000:=fun k hk=>Nat.le_trans (xD _ _ k).2 (pwk k hk)
  have LV:∀k,k≤tb→(bC (eJ (dR cs n) (aQ cs n).length) cs.length k).1.length≤70000:=fun k hk=>Nat.le_trans (xM _ _ k) (Nat.le_trans (Nat.pow_le_pow_left (by omega) _) pwt)
  have Oo:∀u:List Int,u.length=cs.length→(eJ (dR cs n) (aQ cs n).length u=true↔je cs n u=true):=fun u hu=>by rw[pk (by omega) (by omega) fit hu,fH]
  have Fv:=hvs.length
  have hl3:=X0 _ _ hl
  have Oq:=fK.same X0
  refine⟨ll,rfl,⟨_,aD.of hll⟩,fun L hL=>iU (K:=K) (a:=ll) (L:=L) (xs:=la.map V.ref) H3 (fun σ=>∃v:Option V,σ=[v,some (.ref l)]) (fun i ys=>∃lb:List Addr,ys=lb.map V.ref∧lb.length≤i∧aK [] H3 lb ((vs.take i).filter fun v=>je cs n v))
   (aD.of hll) hL ⟨none,rfl⟩ (ao.new hL) af ⟨[],rfl,Nat.le_refl _, .nil⟩ (by rw[List.length_map];omega) ?_ ?_ ?_⟩
  ·rintro i ys ⟨lb,rfl,h,_⟩
   rw[List.length_map]
   exact h
  ·rintro i y σ H4 ys hy ⟨v,rfl⟩ hs qq ⟨lb,rfl,zG,qM⟩ N M hN hM
   obtain⟨xj,XW,rfl⟩:=b9 hy
   obtain⟨x,hx,Oi,_⟩:=hvs.get XW
   obtain⟨xn,xs⟩:=(Om x).mp (List.mem_of_getElem? hx)
   have xb:∀z∈x,z.natAbs≤10^20:=fun z hz=>by
    have:=fI xn.2 z hz
    have:=xn.2 z hz
    omega
   dsimp only [aV]
   refine⟨_,rfl,_,rfl,xj,l,x,as,cs,n,rfl,hs _ _ Oi,hs _ _ hl3,Oq.same hs,fit,by omega,m1,by omega,xn.1,xb,fun H5 e5=>⟨_,rfl,gz (fun c2=>?_) fun c2=>?_⟩⟩
   ·refine⟨_,rfl,hN _ _ _ ⟨_,rfl⟩ (hs.trans e5) (e5 _ _ qq) ⟨lb++[xj],by rw[List.map_append];rfl,by simp;omega,?_⟩⟩
    rw[ay hx,List.filter_append,show [x].filter (fun v=>je cs n v)=[x] by simp only [List.filter_cons,c2,if_true,List.filter_nil]]
    exact qM.snoc Oi (by simp)
   ·refine hM _ _ ⟨_,rfl⟩ (hs.trans e5) (e5 _ _ qq) ⟨lb,rfl,by omega,?_⟩
    rw[ay hx,List.filter_append,show [x].filter (fun v=>je cs n v)=[] by simp only [List.filter_cons,c2,List.filter_nil];rfl,List.append_nil]
    exact qM
  rintro H4 ys oF qq ⟨lb,rfl,zG,qM⟩
  rw[List.length_map] at zG
  rw[List.length_map,Fv,List.take_length] at qM
  have xo:∀v,v∈(vs.filter fun v=>je cs n v)↔Nn cs.length v∧v.sum≤tb∧je cs n v=true:=fun v=>by
   rw[List.mem_filter,Om]
   exact⟨fun⟨⟨a1,a2⟩,a3⟩=>⟨a1,a2,a3⟩,fun⟨a1,a2,a3⟩=>⟨⟨a1,a2⟩,a3⟩⟩
  have Vy:=nd.filter fun v=>je cs n v
  have hbl:(vs.filter fun v=>je cs n v).length≤70000:=Nat.le_trans (List.length_filter_le _ _) NV
  generalize (vs.filter fun v=>je cs n v)=qD at qM xo Vy hbl
  have Og:=qM.length
  have X':=qM.same oF
  have hl4:=oF _ _ hl3
  have Ya:=Oq.same oF
  have e4:=(e1.trans X0).trans oF
  have nz:0<qD.length:=List.length_pos_of_mem ((xo (List.replicate cs.length 0)).mpr ⟨⟨List.length_replicate,fun x hx=>by rw[(List.mem_replicate.mp hx).2];exact Int.le_refl _⟩,by rw[mz];omega,by rw[fH];exact fun r _=>nU _ _⟩)
  dsimp only [aV]
  refine⟨_,rfl,_,rfl,a,ns,1,rfl,e4.seq hS,fun h H5 e5=>?_⟩
  have qL:=e5 _ _ qq
  have Ot:=X'.same e5
  have g0:=Int.emod_nonneg h (b:=(((lb.map V.ref).length:Nat):Int)) (by rw[List.length_map];omega)
  have g1:=Int.emod_lt_of_pos h (b:=(((lb.map V.ref).length:Nat):Int)) (by rw[List.length_map];omega)
  obtain⟨bv,hbv,XC⟩:=pO (xs:=lb.map V.ref) g0 g1
  obtain⟨bj,Vh,rfl⟩:=List.mem_map.mp hbv
  obtain⟨j,hj⟩:=List.getElem?_of_mem Vh
  obtain⟨v,hv,U',_⟩:=Ot.get hj
  obtain⟨vn,vs6,Yb⟩:=(xo v).mp (List.mem_of_getElem? hv)
  refine⟨_,rfl,L,_,rfl, .inl (aD.of qL),_,_,rfl,rfl,(by show (0 :Int) <_;rw[List.length_map];omega),L,_,_, .ref bj,rfl,rfl,aD.of qL,XC,?_⟩
  dsimp only [aV]
  have v0:=gW vn.2
  obtain⟨t,et⟩:∃t:Nat,v.sum=(t:Int):=⟨v.sum.toNat,by omega⟩
  have tm:t≤tb:=by omega
  refine⟨_,rfl,_,rfl,bj,v,rfl,aD.of U',L,lb,qD,cs.length,t,eJ (dR cs n) (aQ cs n).length,by rw[et];rfl,qL,Ot,by omega,(fun u hu=>⟨((xo u).mp hu).1,(Oo u ((xo u).mp hu).1.1).mpr ((xo u).mp hu).2.2⟩),(fun u a1 a2 a3 a4=>(xo u).mpr ⟨a1,by omega,(Oo u a1.1).mp a4⟩),Vy,hbl,fun sl sa ss H6 e6 p1 o1 hsl hss=>?_⟩
  have LS:=e5.trans e6
  have Yc:=LS _ _ hl4
  have Ou:=Ya.same LS
  have Ov:=e6 _ _ U'
  dsimp only [aV]
  refine⟨_,rfl,l,rfl,⟨_,aD.of Yc⟩,fun L2 de=>kI (K:=K) (a:=l) (L:=L2) (xs:=as.map V.ref) H6 (fun σ=>∃v:Option V,σ=[v]) (fun i ys H'=>∃ds:List Addr,ys=ds.map V.ref∧bX L2 H6 H' ds (cs.take i))
   (aD.of Yc) ?_ de ⟨none,rfl⟩ (ao.new de) af ⟨[],rfl, .nil⟩ (by rw[List.length_map];omega) ?_ ?_ ?_⟩
  ·rintro i ys Ha Hb e ⟨ds,rfl,jC⟩
   exact⟨ds,rfl,bX.but e jC⟩
  ·rintro i ys Ha ⟨ds,rfl,jC⟩
   have:=jC.length
   rw[List.length_take] at this
   rw[List.length_map]
   omega
  ·rintro i y σ H7 ys hy ⟨v,rfl⟩ Jh LW ⟨ds,rfl,jC⟩ N M hN
   obtain⟨aj,II,rfl⟩:=b9 hy
   obtain⟨c,sY,pj,_⟩:=(Ou.same Jh).get II
   refine⟨_,rfl,aj,_,rfl, .inl (aD.of pj),fun u um=>hN _ _ _ ⟨_,rfl⟩ (Jh.trans (ao.new um)) (ao.new um _ _ LW) ⟨ds++[u],by rw[List.map_append];rfl,?_⟩⟩
   rw[ay sY]
   exact(jC.but (df.of (ao.new um))).snoc af (Ne.symm (ah LW um)) (Jh.free um)
  rintro H7 ys Jh LW ⟨hd,rfl,VC⟩
  rw[List.length_map,vC,List.take_length] at VC
  have VC:aK [] H7 hd cs:=bX.toS (by simp) (fun b xs z _ _=>z) VC
  dsimp only [aV]
  refine⟨_,rfl,bj,_,rfl, .inl (aD.of (Jh _ _ Ov)),fun hh hhh=>?_⟩
  have s8:=ao.new (o:= .lst (v.map V.int)) hhh
  have Ow:(upd H7 hh (.lst (v.map V.int))) hh=some (.lst (v.map V.int)):=af
  have LX:=Jh.trans s8
  have AR:=LX _ _ Ov
  have Yd:=LX _ _ Yc
  have Ji:=Ou.same LX
  have Jj:=LX _ _ hsl
  have Jk:=hss.same LX
  have LY:=s8 _ _ LW
  have xR:=VC.same s8
  have e8:=((e4.trans LS).trans Jh).trans s8
  generalize upd H7 hh (.lst (v.map V.int))=H8 at s8 Ow LX AR Yd Ji Jj Jk LY xR e8 ⊢
  have lev:∀r,r<n→dot v (row cs r)=0:=(fH cs n v).mp Yb
  have lss:ss.length≤70000:=by rw[p1.length_eq];exact LV t tm
  have bln:∀b∈ss,b.length=cs.length:=fun b hb=>(((eF _ _ t).1 b).mp (p1.mem_iff.mp hb)).1.1.1
  dsimp only [aV]
  refine⟨_,rfl,_,rfl,L2,hh,hd,cs,n,t,v,rfl,LY,xR,fit,by omega,m1,by omega,Ow,vn,et,by omega,(fun k hk=>Vv k (by omega)),(fun k hk=>LV k (by omega)),lev,fun tl ts bs H9 e9 IP p2 o2 Vj su Ls=>?_⟩
  have e24:bs=ss:=nZ (p2.trans p1.symm) o2 o1
  subst e24
  refine⟨_,rfl,_,rfl,tl,sl,bj,ts,v,sa,bs,cs.length,rfl,IP,e9 _ _ Jj,Jk.same e9,e9 _ _ AR,Vj,(fun x hx=>by have:=su x hx;omega),vn.1,by omega,lss,bln,Ls,fun yQ e10=>⟨_,rfl,lQ ?_⟩⟩
  have Ye:=e9.trans e10
  dsimp only [aV]
  refine⟨_,rfl,a,ns,8,rfl,(e8.trans Ye).seq hS,fun c FT e11=>⟨_,rfl,c,_,rfl,by omega,by omega,fun zl zs Vl lz gw nl hzl FN=>?_⟩⟩
  have s02:=e11.trans FN
  refine⟨zl,rfl,⟨_,aD.of hzl⟩,fun nL Yf=>cC (K:=K) (a:=zl) (L:=nL) (xs:=zs.map V.int) Vl (fun σ=>∃v:Option V,σ=[v]) (fun j ys=>ys=((zs.take j).map fun x=>x%9 - 2).map V.int)
   (aD.of hzl) Yf ⟨none,rfl⟩ (ao.new Yf) af rfl (by rw[List.length_map];omega) ?_ ?_ ?_⟩
  ·rintro j ys rfl
   rw[List.length_map,List.length_map,List.length_take];omega
  ·rintro j y σ H13 ys hy ⟨w,rfl⟩ Jl xS rfl N M hN
   obtain⟨y,pX,rfl⟩:=int_at hy
   refine⟨_,rfl,_,_,rfl,rfl,(by show (0 :Int) <9;decide),_,_,rfl,rfl,hN _ _ _ ⟨_,rfl⟩ Jl xS ?_⟩
   rw[ay pX,List.map_append,List.map_append]
   rfl
  rintro H13 ys Jl xS rfl
  rw[List.length_map,List.take_length] at xS
  have VD:=(Ye.trans s02).trans Jl
  have nnL:=((Ye.trans s02)).free Yf
  have wl:(zs.map fun x=>x%9 - 2).length=cs.length:=by rw[List.length_map];omega
  have wb:∀x∈zs.map fun x=>x%9 - 2,x.natAbs≤10^20:=fun x hx=>by
   obtain⟨y,_,rfl⟩:=List.mem_map.mp hx
   have:=Int.emod_nonneg y (show (9 :Int)≠0 by decide)
   have:=Int.emod_lt_of_pos y (show (0 :Int) <9 by decide)
   omega
  generalize (zs.map fun x=>x%9 - 2)=w0 at xS wl wb
  dsimp only [aV]
  refine mf (fun σ' H'=>∃w:List Int,σ'=[some (.ref a),some (.ref l),some (.int (cs.length:Nat)),some (.ref L),some (.ref bj),some (.ref sl),some (.ref L2),some (.ref hh),some (.ref nL)]∧H' nL=some (.lst (w.map V.int))∧w.length=cs.length∧(∀x∈w,x.natAbs≤10^20)∧ao H8 H') (fun N hN=>?_) ?_
  ·refine⟨_,rfl,a,ns,9,rfl,(e8.trans VD).seq hS,fun c9 H14 Ox=>⟨_,_,rfl,rfl,(by show (0 :Int) <3;decide),rfl,_,rfl,gz (fun _=>?_) fun _=>?_⟩⟩
   ·refine⟨_,_,rfl,rfl,⟨by decide,by decide,by decide⟩,_,rfl,_,rfl,a,ns,9,rfl,((e8.trans VD).trans Ox).seq hS,fun VE Yg F1=>⟨_,_,rfl,rfl,⟨by decide,by decide⟩,_,rfl,_,_,rfl,rfl,(by show (0 :Int) <_;omega),?_⟩⟩
    have k0:=Int.emod_nonneg (VE/3) (b:=((cs.length:Nat):Int)) (by omega)
    have k1:=Int.emod_lt_of_pos (VE/3) (b:=((cs.length:Nat):Int)) (by omega)
    refine⟨nL,_,_,((VE/3) %((cs.length:Nat):Int)).toNat,rfl,rfl,F1 _ _ (Ox _ _ xS),(by unfold qW;rw[if_pos k0,if_pos (by rw[List.length_map];omega)]),hN _ _ ⟨w0.set ((VE/3) %((cs.length:Nat):Int)).toNat (10^19),rfl,?_,by rw[List.length_set];exact wl,fun x hx=>?_,fun b o z=>?_⟩⟩
    ·rw[af,List.map_set]
     rfl
    ·rcases List.mem_or_eq_of_mem_set hx with hx|hx
     ·exact wb x hx
     ·rw[hx];decide
    ·rw[aq (ah z nnL)]
     exact F1 _ _ (Ox _ _ (VD _ _ z))
   ·exact hN _ _ ⟨w0,rfl,Ox _ _ xS,wl,wb,VD.trans Ox⟩
  rintro σ' H14 ⟨w,rfl,VF,lw,Yh,Jm⟩
  refine mf (fun σ' H'=>σ'=[some (.ref a),some (.ref l),some (.int (cs.length:Nat)),some (.ref L),some (.ref bj),some (.ref sl),some (.ref L2),some (.ref hh),some (.ref nL)]∧ao H8 H') (fun N hN=>?_) ?_
  ·refine⟨_,rfl,nL,w,rfl,aD.of VF,by omega,fun M hM hle=>⟨_,_,rfl,rfl,_,rfl,gz (fun c=>?_) fun c=>?_⟩⟩
   ·have c:M<0:=by simpa using c
    have hb:kZ cs n w=false:=by
     unfold kZ
     rw[Bool.and_eq_false_iff,List.all_eq_false]
     exact .inl ⟨M,hM,by simpa using c⟩
    exact⟨_,rfl,_,rfl,L2,nL,hd,cs,n,w,rfl,Jm _ _ LY,xR.same Jm,fit,by omega,m1,by omega,VF,lw,Yh,hb,fun Yg F1=>⟨_,rfl,lQ (hN _ _ ⟨rfl,Jm.trans F1⟩)⟩⟩
   ·have c:0≤M:=by simpa using c
    refine⟨_,rfl,_,rfl,nL,l,w,as,cs,n,rfl,VF,Jm _ _ Yd,Ji.same Jm,fit,by omega,m1,by omega,lw,Yh,fun Yg F1=>⟨_,rfl,gz (fun c2=>?_) fun c2=>?_⟩⟩
    ·have c2:je cs n w=false:=by simpa using c2
     have hb:kZ cs n w=false:=by
      unfold kZ
      rw[c2,Bool.and_false]
     have s5:=Jm.trans F1
     exact⟨_,rfl,_,rfl,L2,nL,hd,cs,n,w,rfl,s5 _ _ LY,xR.same s5,fit,by omega,m1,by omega,F1 _ _ VF,lw,Yh,hb,fun H16 Yi=>⟨_,rfl,lQ (hN _ _ ⟨rfl,s5.trans Yi⟩)⟩⟩
    ·exact hN _ _ ⟨rfl,Jm.trans F1⟩
  rintro σ' Yg ⟨rfl,Bn⟩
  refine⟨_,rfl,_,rfl,lD cs,lD cs,oR.cols (aD.of (Bn _ _ LY)) (xR.same Bn).at,oR.cols (aD.of (Bn _ _ Yd)) (Ji.same Bn).at,jL cs,jL cs,_,rfl,vH (by rw[jK _ (oU cs)];rfl) ?_⟩
  refine⟨_,rfl,_,rfl,hU v,hU v,oR.ints (aD.of (Bn _ _ Ow)),oR.ints (aD.of (Bn _ _ AR)),eQ v,eQ v,_,rfl,vH (by rw[jK _ (iR v)];rfl) ?_⟩
  refine⟨_,rfl,_,rfl,L2,hh,hd,cs,n,t,v,rfl,Bn _ _ LY,xR.same Bn,fit,by omega,m1,by omega,Bn _ _ Ow,vn,et,by omega,(fun k hk=>Vv k (by omega)),(fun k hk=>LV k (by omega)),lev,fun tl2 ts2 bs2 H16 Yi Yj p3 o3 Yk Yl hd2=>?_⟩
  have e32:bs2=bs:=nZ (p3.trans p1.symm) o3 o1
  subst e32
  have VG:=Bn.trans Yi
  refine⟨_,rfl,_,rfl,tl2,sl,bj,ts2,v,sa,bs2,cs.length,rfl,Yj,VG _ _ Jj,Jk.same VG,VG _ _ AR,Yk,(fun x hx=>by have:=Yl x hx;omega),vn.1,by omega,lss,bln,hd2,fun H17 e17=>⟨_,rfl,Hf ?_⟩⟩
  have s87:=VG.trans e17
  refine⟨_,rfl,_,rfl,hU v,hU v,oR.ints (aD.of (s87 _ _ Ow)),oR.ints (aD.of (s87 _ _ AR)),eQ v,eQ v,?_⟩
  rw[jK _ (iR v)]
  exact q H17
end
theorem all_mk{l:PySem.W.OpenLaw}{w:World}{K:PySem.W.Frag}{h:Heap}{mg:Str→Option Value}{fa KC FC TC HE Ns X1 X2 X3 X4 X5 X6 X7 X8 X9 Jn Jo Jp Dl Dm Dn Dp Dq Dr Ds Dt Du Jq Jr Js Jt Ju Dv Dw Dx Dy Jv Jw Jx Jy Jz JA JB JC JD JE JF JG pD JH:Addr}(X:K.In h)(G:h.Ns mainGlobals mg)(sZ:mg "law" =some (.ref fa))
  {Oy Oz OA OB OC OD OE OF OG OH OI OJ OL OM ON OO OP OQ OR OS OT OU OV OW OX OY OZ O0 O1 O2 O3 O4 O5 O6 O7 O8 O9 Pa Pb Pc Pd Pe Pf Pg Ph Pj Pk Pl Po Pp Pq Pr Pt Pu Pw Px Pz PB PD PF PJ PK PL PM PN PQ JI JJ PR F2:Option Addr} {PU PV PX PY PZ P0 P1 P2 P4 P' Qa Qb Qc Qd Qe Qf Qg Qh Qi Qj Qk Ql Qm Qn Qo Qq Qr Qs Qt Qu Qv Qw Qx JK Qy:Array (Option Value)} {Qz QA QB QC F3 QD QE QF QG QH F4 QI QJ QK QL QM F5 QN QO QP QQ QR F6 QS QT QU QV QW F7 QX QY QZ Q0 Q1 F8 Q2 Q3 Q4 Q5 Q6 F9 Q7 Q8 Q9 Ra Rb Ga Rc Rf Rg Rh Ri Gb Rj Rk Rl Rm Rn Gd Ro Rp Rq Rr Rt Ge Ru Rv Rw Rx Ry Gf Rz RA RB RC RD Gg RE RF RG RH RK Gh RL RM RN RO RP Gi RQ RS RT RU RW Gj RX RY RZ R3 R4 Gk R5 R6 R7 R8 R9 Gm Sa Sb Sd Se Sf Gn Sg Sh Si Sj Sk Gp Sl Sn So Sq Sr Gq Ss Su Sv Sw Sx Gr Sy Sz SA SD SE Gs SF SH SI SJ SK Gu SO SQ SR SS SU Gv SV SW SX SY S1 Gw S2 S3 S4 S5 S6 Gx S7 S8 S9 Ta Tb Gy Tc Td Tf Tg Th Gz Ti Tj Tn To Tp GA Tq Tr Ts Tt Tu GB Tv Tw Tx Tz TB GC TF TH TJ TK TM GD TN JL JM JN JO AS JP TQ GF GG GH AU GI:Value}
  (Ym:PySem.W.nsIn K mainGlobals "Kernel" =some (some (.ref KC)))
  (Yn:PySem.W.nsIn K mainGlobals "Frame" =some (some (.ref FC)))
  (Yo:PySem.W.nsIn K mainGlobals "Trial" =some (some (.ref TC)))
  (Yp:PySem.W.nsIn K mainGlobals "HallError" =some (some (.ref HE)))
  (VH:PySem.W.nsIn K mainGlobals "NoSplit" =some (some (.ref Ns)))
  (Yq:PySem.W.nsIn K mainGlobals "NoBalance" =some (some (.ref X1)))
  (Yr:PySem.W.nsIn K mainGlobals "NoChange" =some (some (.ref X2)))
  (Ys:PySem.W.nsIn K mainGlobals "NoFormula" =some (some (.ref X3)))
  (Yt:PySem.W.nsIn K mainGlobals "TooLong" =some (some (.ref X4)))
  (Yu:PySem.W.nsIn K mainGlobals "TooMany" =some (some (.ref X5)))
  (Yv:PySem.W.nsIn K mainGlobals "Unbalanced" =some (some (.ref X6)))
  (Yw:PySem.W.nsIn K mainGlobals "Short" =some (some (.ref X7)))
  (Yx:PySem.W.nsIn K mainGlobals "NoName" =some (some (.ref X8)))
  (Yy:PySem.W.nsIn K mainGlobals "NoRow" =some (some (.ref X9)))
  (JQ:PySem.W.nsIn K mainGlobals "divisor" =some (some (.ref Jn)))
  (Dz:K.lookup Jn=some ⟨Qz,Oy, .func (PySem.W.fnOf "divisor" "divisor" (aM ed) (aC ed) (ag ed) .none QA QB QC Oz F3 QD),PU⟩)
  (DA:PySem.W.codeIn K F3 "divisor" =true)
  (DB:PySem.W.keepIn K (.ref Jn)=true)
  (JR:PySem.W.nsIn K mainGlobals "lowest" =some (some (.ref Jo)))
  (DC:K.lookup Jo=some ⟨QE,OA, .func (PySem.W.fnOf "lowest" "lowest" (aM eV) (aC eV) (ag eV) .none QF QG QH OB F4 QI),PV⟩)
  (DD:PySem.W.codeIn K F4 "lowest" =true)
  (DE:PySem.W.keepIn K (.ref Jo)=true)
  (JS:PySem.W.nsIn K mainGlobals "weigh" =some (some (.ref Jp)))
  (DF:K.lookup Jp=some ⟨QJ,OC, .func (PySem.W.fnOf "weigh" "weigh" (aM gQ) (aC gQ) (ag gQ) .none QK QL QM OD F5 QN),PX⟩)
  (DG:PySem.W.codeIn K F5 "weigh" =true)
  (DH:PySem.W.keepIn K (.ref Jp)=true)
  (JT:PySem.W.findIn K (.ref KC) "__init__" =some (some (.ref Dl)))
  (JU:PySem.W.isFn K (.ref Dl)=true)
  (JV:K.lookup Dl=some ⟨QO,OE, .func (PySem.W.fnOf "__init__" "Kernel.__init__" (aM js) (aC js) (ag js) .none QP QQ QR OF F6 QS),PY⟩)
  (JW:PySem.W.codeIn K F6 "Kernel.__init__" =true)
  (JX:PySem.W.keepIn K (.ref Dl)=true)
  (JY:PySem.W.findIn K (.ref FC) "__init__" =some (some (.ref Dm)))
  (JZ:PySem.W.isFn K (.ref Dm)=true)
  (J0:K.lookup Dm=some ⟨QT,OG, .func (PySem.W.fnOf "__init__" "Frame.__init__" (aM jt) (aC jt) (ag jt) .none QU QV QW OH F7 QX),PZ⟩)
  (J1:PySem.W.codeIn K F7 "Frame.__init__" =true)
  (J2:PySem.W.keepIn K (.ref Dm)=true)
  (J3:PySem.W.findIn K (.ref FC) "shares" =some (some (.ref Dn)))
  (J4:PySem.W.isFn K (.ref Dn)=true)
  (DI:K.lookup Dn=some ⟨QY,OI, .func (PySem.W.fnOf "shares" "Frame.shares" (aM eW) (aC eW) (ag eW) .none QZ Q0 Q1 OJ F8 Q2),P0⟩)
  (DJ:PySem.W.codeIn K F8 "Frame.shares" =true)
  (AV:PySem.W.keepIn K (.ref Dn)=true)
  (J6:PySem.W.findIn K (.ref FC) "rest" =some (some (.ref Dp)))
  (J7:PySem.W.isFn K (.ref Dp)=true)
  (DK:K.lookup Dp=some ⟨Q3,OL, .func (PySem.W.fnOf "rest" "Frame.rest" (aM jV) (aC jV) (ag jV) .none Q4 Q5 Q6 OM F9 Q7),P1⟩)
  (DL:PySem.W.codeIn K F9 "Frame.rest" =true)
  (AW:PySem.W.keepIn K (.ref Dp)=true)
  (J8:PySem.W.findIn K (.ref FC) "row_with_rest" =some (some (.ref Dq)))
  (J9:PySem.W.isFn K (.ref Dq)=true)
  (DM:K.lookup Dq=some ⟨Q8,ON, .func (PySem.W.fnOf "row_with_rest" "Frame.row_with_rest" (aM rM) (aC rM) (ag rM) .none Q9 Ra Rb OO Ga Rc),P2⟩)
  (DN:PySem.W.codeIn K Ga "Frame.row_with_rest" =true)
  (AX:PySem.W.keepIn K (.ref Dq)=true)
  (Ka:PySem.W.findIn K (.ref FC) "levelling" =some (some (.ref Dr)))
  (Kb:PySem.W.isFn K (.ref Dr)=true)
  (DO:K.lookup Dr=some ⟨Rf,OP, .func (PySem.W.fnOf "levelling" "Frame.levelling" (aM rN) (aC rN) (ag rN) .none Rg Rh Ri OQ Gb Rj),P4⟩)
  (DP:PySem.W.codeIn K Gb "Frame.levelling" =true)
  (AY:PySem.W.keepIn K (.ref Dr)=true)
  (Kc:PySem.W.findIn K (.ref FC) "weights_of_rest" =some (some (.ref Ds)))
  (Kd:PySem.W.isFn K (.ref Ds)=true)
  (DQ:K.lookup Ds=some ⟨Rk,OR, .func (PySem.W.fnOf "weights_of_rest" "Frame.weights_of_rest" (aM gR) (aC gR) (ag gR) .none Rl Rm Rn OS Gd Ro),P'⟩)
  (DR:PySem.W.codeIn K Gd "Frame.weights_of_rest" =true)
  (AZ:PySem.W.keepIn K (.ref Ds)=true)
  (Ke:PySem.W.findIn K (.ref FC) "bind" =some (some (.ref Dt)))
  (Kf:PySem.W.isFn K (.ref Dt)=true)
  (DS:K.lookup Dt=some ⟨Rp,OT, .func (PySem.W.fnOf "bind" "Frame.bind" (aM jh) (aC jh) (ag jh) .none Rq Rr Rt OU Ge Ru),Qa⟩)
  (DT:PySem.W.codeIn K Ge "Frame.bind" =true)
  (A1:PySem.W.keepIn K (.ref Dt)=true)
  (Kg:PySem.W.findIn K (.ref FC) "freed" =some (some (.ref Du)))
  (Kh:PySem.W.isFn K (.ref Du)=true)
  (DU:K.lookup Du=some ⟨Rv,OV, .func (PySem.W.fnOf "freed" "Frame.freed" (aM gS) (aC gS) (ag gS) .none Rw Rx Ry OW Gf Rz),Qb⟩)
  (DV:PySem.W.codeIn K Gf "Frame.freed" =true)
  (A2:PySem.W.keepIn K (.ref Du)=true)
  (Ki:PySem.W.nsIn K mainGlobals "kernel" =some (some (.ref Jq)))
  (DW:K.lookup Jq=some ⟨RA,OX, .func (PySem.W.fnOf "kernel" "kernel" (aM fQ) (aC fQ) (ag fQ) .none RB RC RD OY Gg RE),Qc⟩)
  (DX:PySem.W.codeIn K Gg "kernel" =true)
  (DY:PySem.W.keepIn K (.ref Jq)=true)
  (Kj:PySem.W.nsIn K mainGlobals "gather" =some (some (.ref Jr)))
  (DZ:K.lookup Jr=some ⟨RF,OZ, .func (PySem.W.fnOf "gather" "gather" (aM dt) (aC dt) (ag dt) .none RG RH RK O0 Gh RL),Qd⟩)
  (D0:PySem.W.codeIn K Gh "gather" =true)
  (D4:PySem.W.keepIn K (.ref Jr)=true)
  (Kk:PySem.W.nsIn K mainGlobals "is_balance" =some (some (.ref Js)))
  (D5:K.lookup Js=some ⟨RM,O1, .func (PySem.W.fnOf "is_balance" "is_balance" (aM cR) (aC cR) (ag cR) .none RN RO RP O2 Gi RQ),Qe⟩)
  (D6:PySem.W.codeIn K Gi "is_balance" =true)
  (D7:PySem.W.keepIn K (.ref Js)=true)
  (Kl:PySem.W.nsIn K mainGlobals "times_within" =some (some (.ref Jt)))
  (D8:K.lookup Jt=some ⟨RS,O3, .func (PySem.W.fnOf "times_within" "times_within" (aM gT) (aC gT) (ag gT) .none RT RU RW O4 Gj RX),Qf⟩)
  (D9:PySem.W.codeIn K Gj "times_within" =true)
  (Ea:PySem.W.keepIn K (.ref Jt)=true)
  (Km:PySem.W.nsIn K mainGlobals "split" =some (some (.ref Ju)))
  (Eb:K.lookup Ju=some ⟨RY,O5, .func (PySem.W.fnOf "split" "split" (aM fD) (aC fD) (ag fD) .none RZ R3 R4 O6 Gk R5),Qg⟩)
  (Ec:PySem.W.codeIn K Gk "split" =true)
  (Ed:PySem.W.keepIn K (.ref Ju)=true)
  (Kn:PySem.W.findIn K (.ref TC) "__init__" =some (some (.ref Dv)))
  (Ko:PySem.W.isFn K (.ref Dv)=true)
  (Kp:K.lookup Dv=some ⟨R6,O7, .func (PySem.W.fnOf "__init__" "Trial.__init__" (aM ju) (aC ju) (ag ju) .none R7 R8 R9 O8 Gm Sa),Qh⟩)
  (Kq:PySem.W.codeIn K Gm "Trial.__init__" =true)
  (Kr:PySem.W.keepIn K (.ref Dv)=true)
  (Ks:PySem.W.findIn K (.ref TC) "raised" =some (some (.ref Dw)))
  (Kt:PySem.W.isFn K (.ref Dw)=true)
  (Ee:K.lookup Dw=some ⟨Sb,O9, .func (PySem.W.fnOf "raised" "Trial.raised" (aM eX) (aC eX) (ag eX) .none Sd Se Sf Pa Gn Sg),Qi⟩)
  (Ef:PySem.W.codeIn K Gn "Trial.raised" =true)
  (A3:PySem.W.keepIn K (.ref Dw)=true)
  (Ku:PySem.W.findIn K (.ref TC) "all_raised" =some (some (.ref Dx)))
  (Kv:PySem.W.isFn K (.ref Dx)=true)
  (Eg:K.lookup Dx=some ⟨Sh,Pb, .func (PySem.W.fnOf "all_raised" "Trial.all_raised" (aM cz) (aC cz) (ag cz) .none Si Sj Sk Pc Gp Sl),Qj⟩)
  (Eh:PySem.W.codeIn K Gp "Trial.all_raised" =true)
  (A4:PySem.W.keepIn K (.ref Dx)=true)
  (Kw:PySem.W.findIn K (.ref TC) "is_level" =some (some (.ref Dy)))
  (Kx:PySem.W.isFn K (.ref Dy)=true)
  (Ei:K.lookup Dy=some ⟨Sn,Pd, .func (PySem.W.fnOf "is_level" "Trial.is_level" (aM eh) (aC eh) (ag eh) .none So Sq Sr Pe Gq Ss),Qk⟩)
  (Ej:PySem.W.codeIn K Gq "Trial.is_level" =true)
  (A5:PySem.W.keepIn K (.ref Dy)=true)
  (Ky:PySem.W.nsIn K mainGlobals "rows_enough" =some (some (.ref Jv)))
  (Ek:K.lookup Jv=some ⟨Su,Pf, .func (PySem.W.fnOf "rows_enough" "rows_enough" (aM a7) (aC a7) (ag a7) .none Sv Sw Sx Pg Gr Sy),Ql⟩)
  (El:PySem.W.codeIn K Gr "rows_enough" =true)
  (Em:PySem.W.keepIn K (.ref Jv)=true)
  (Kz:PySem.W.nsIn K mainGlobals "fits" =some (some (.ref Jw)))
  (En:K.lookup Jw=some ⟨Sz,Ph, .func (PySem.W.fnOf "fits" "fits" (aM jW) (aC jW) (ag jW) .none SA SD SE Pj Gs SF),Qm⟩)
  (Eo:PySem.W.codeIn K Gs "fits" =true)
  (Ep:PySem.W.keepIn K (.ref Jw)=true)
  (KD:PySem.W.nsIn K mainGlobals "least" =some (some (.ref Jx)))
  (Er:K.lookup Jx=some ⟨SH,Pk, .func (PySem.W.fnOf "least" "least" (aM dA) (aC dA) (ag dA) .none SI SJ SK Pl Gu SO),Qn⟩)
  (Es:PySem.W.codeIn K Gu "least" =true)
  (Et:PySem.W.keepIn K (.ref Jx)=true)
  (KG:PySem.W.nsIn K mainGlobals "_law_here" =some (some (.ref Jy)))
  (Eu:K.lookup Jy=some ⟨SQ,Po, .func (PySem.W.fnOf "_law_here" "_law_here" (aM lG) (aC lG) (ag lG) .none SR SS SU Pp Gv SV),Qo⟩)
  (Ew:PySem.W.codeIn K Gv "_law_here" =true)
  (Ex:PySem.W.keepIn K (.ref Jy)=true)
  (KH:PySem.W.nsIn K mainGlobals "_law_shaken" =some (some (.ref Jz)))
  (Ey:K.lookup Jz=some ⟨SW,Pq, .func (PySem.W.fnOf "_law_shaken" "_law_shaken" (aM fR) (aC fR) (ag fR) .none SX SY S1 Pr Gw S2),Qq⟩)
  (Ez:PySem.W.codeIn K Gw "_law_shaken" =true)
  (EA:PySem.W.keepIn K (.ref Jz)=true)
  (KI:PySem.W.nsIn K mainGlobals "_law_columns" =some (some (.ref JA)))
  (EB:K.lookup JA=some ⟨S3,Pt, .func (PySem.W.fnOf "_law_columns" "_law_columns" (aM bQ) (aC bQ) (ag bQ) .none S4 S5 S6 Pu Gx S7),Qr⟩)
  (EC:PySem.W.codeIn K Gx "_law_columns" =true)
  (ED:PySem.W.keepIn K (.ref JA)=true)
  (KJ:PySem.W.nsIn K mainGlobals "_law_lists" =some (some (.ref JB)))
  (EE:K.lookup JB=some ⟨S8,Pw, .func (PySem.W.fnOf "_law_lists" "_law_lists" (aM gj) (aC gj) (ag gj) .none S9 Ta Tb Px Gy Tc),Qs⟩)
  (EF:PySem.W.codeIn K Gy "_law_lists" =true)
  (EG:PySem.W.keepIn K (.ref JB)=true)
  (KL:PySem.W.nsIn K mainGlobals "_law_levels" =some (some (.ref JC)))
  (EH:K.lookup JC=some ⟨Td,Pz, .func (PySem.W.fnOf "_law_levels" "_law_levels" (aM eY) (aC eY) (ag eY) .none Tf Tg Th PB Gz Ti),Qt⟩)
  (EI:PySem.W.codeIn K Gz "_law_levels" =true)
  (EJ:PySem.W.keepIn K (.ref JC)=true)
  (KN:PySem.W.nsIn K mainGlobals "_law_beneath" =some (some (.ref JD)))
  (EK:K.lookup JD=some ⟨Tj,PD, .func (PySem.W.fnOf "_law_beneath" "_law_beneath" (aM dO) (aC dO) (ag dO) .none Tn To Tp PF GA Tq),Qu⟩)
  (EL:PySem.W.codeIn K GA "_law_beneath" =true)
  (EM:PySem.W.keepIn K (.ref JD)=true)
  (KO:PySem.W.nsIn K mainGlobals "_law_least" =some (some (.ref JE)))
  (EN:K.lookup JE=some ⟨Tr,PJ, .func (PySem.W.fnOf "_law_least" "_law_least" (aM eZ) (aC eZ) (ag eZ) .none Ts Tt Tu PK GB Tv),Qv⟩)
  (EO:PySem.W.codeIn K GB "_law_least" =true)
  (ES:PySem.W.keepIn K (.ref JE)=true)
  (KP:PySem.W.nsIn K mainGlobals "_law_adds_up" =some (some (.ref JF)))
  (ET:K.lookup JF=some ⟨Tw,PL, .func (PySem.W.fnOf "_law_adds_up" "_law_adds_up" (aM fe) (aC fe) (ag fe) .none Tx Tz TB PM GC TF),Qw⟩)
  (EU:PySem.W.codeIn K GC "_law_adds_up" =true)
  (EV:PySem.W.keepIn K (.ref JF)=true)
  (KQ:PySem.W.nsIn K mainGlobals "_law_refused" =some (some (.ref JG)))
  (EW:K.lookup JG=some ⟨TH,PN, .func (PySem.W.fnOf "_law_refused" "_law_refused" (aM eD) (aC eD) (ag eD) .none TJ TK TM PQ GD TN),Qx⟩)
  (EX:PySem.W.codeIn K GD "_law_refused" =true)
  (EY:PySem.W.keepIn K (.ref JG)=true)
  (A6:PySem.W.findIn K (.ref Ns) "__init__" =some (some (.ref pD)))
  (GJ:PySem.W.isFn K (.ref pD)=true)
  (vN:K.lookup pD=some ⟨JL,JI, .func (PySem.W.fnOf "__init__" "NoSplit.__init__" (aM eC) (aC eC) (ag eC) .none JM JN JO JJ AS JP),JK⟩)
  (vO:PySem.W.codeIn K AS "NoSplit.__init__" =true)
  (vP:PySem.W.keepIn K (.ref pD)=true)
  (KU:PySem.W.nsIn K mainGlobals "law" =some (some (.ref JH)))
  (KW:K.lookup JH=some ⟨TQ,PR, .func (PySem.W.fnOf "law" "law" (aM lY) (aC lY) (ag lY) .none GF GG GH F2 AU GI),Qy⟩)
  (KY:PySem.W.codeIn K AU "law" =true)
  (KZ:PySem.W.keepIn K (.ref JH)=true)
  (uD:PySem.W.typeIn K (.ref pD)=some (.type "function"))
  (K0:PySem.W.findIn K (.ref Ns) "__setattr__" =some (some (.builtin "object.__setattr__")))
  (K1:PySem.W.findIn K (.ref Ns) "__getattribute__" =some (some (.builtin "BaseException.__getattribute__")))
  (K2:PySem.W.findIn K (.ref Ns) "__getattr__" =some none)
  (K3:PySem.W.keepIn K (.ref Ns)=true)
  (K4:∃(nm q:Str) (N:Addr) (bs:List Value) (sn:List Str) (sub:List Value) (ab:Bool) (col:Option Bool) (dd:Option Addr) (k0 k1 k2 k3 k5:Option Value),K.lookup Ns=some (excClassObj nm q Ns N bs (.ref HE::PySem.W.sW) true sn sub ab col dd k0 k1 k2 k3 k5 "ValueError.__new__"))
  (K5:PySem.W.plainGet K KC Str.empty=true)
  (K6:PySem.W.hasDictIn K KC=true)
  (K7:PySem.W.plainOver K KC=true)
  (K8:PySem.W.findIn K (.ref KC) "__setattr__" =some (some (.builtin "object.__setattr__")))
  (K9:PySem.W.makesIn K KC=true)
  (K':PySem.W.keepIn K (.ref KC)=true)
  (La:PySem.W.plainGet K FC Str.empty=true)
  (Lb:PySem.W.hasDictIn K FC=true)
  (Lc:PySem.W.plainOver K FC=true)
  (Ld:PySem.W.findIn K (.ref FC) "__setattr__" =some (some (.builtin "object.__setattr__")))
  (Lf:PySem.W.makesIn K FC=true)
  (Lg:PySem.W.keepIn K (.ref FC)=true)
  (Lh:PySem.W.plainGet K TC Str.empty=true)
  (Li:PySem.W.hasDictIn K TC=true)
  (Lj:PySem.W.plainOver K TC=true)
  (Lk:PySem.W.findIn K (.ref TC) "__setattr__" =some (some (.builtin "object.__setattr__")))
  (Ll:PySem.W.makesIn K TC=true)
  (Lm:PySem.W.keepIn K (.ref TC)=true)
  (Yz:PySem.W.findIn K (.ref KC) "free" =some none)
  (YA:PySem.W.findIn K (.ref KC) "bound" =some none)
  (YB:PySem.W.findIn K (.ref KC) "numbers" =some none)
  (YC:PySem.W.findIn K (.ref KC) "weights" =some none)
  (YD:PySem.W.findIn K (.ref FC) "scale" =some none)
  (YE:PySem.W.findIn K (.ref FC) "places" =some none)
  (YF:PySem.W.findIn K (.ref FC) "bases" =some none)
  (YG:PySem.W.findIn K (.ref FC) "weights" =some none)
  (IH:PySem.W.findIn K (.ref TC) "numbers" =some none)
  (CS:PySem.W.findIn K (.ref TC) "gathered" =some none)
  (YH:PySem.W.findIn K (.ref TC) "first" =some none)
  (A7:PySem.W.nsIn K mainGlobals "abs" =some none)
  (uE:PySem.W.nsIn K mainGlobals "list" =some none)
  (A8:PySem.W.nsIn K mainGlobals "len" =some none)
  (qG:PySem.W.nsIn K mainGlobals "range" =some none)
  (A9:PySem.W.nsIn K mainGlobals "sum" =some none)
  (Ba:PySem.W.nsIn K mainGlobals "zip" =some none)
  (iQ:PySem.W.nsIn K mainGlobals "enumerate" =some none)
  (Bb:PySem.W.nsIn K mainGlobals "min" =some none)
  (og:PySem.W.nsIn K mainGlobals "sorted" =some none)
  (Bc:PySem.W.nsIn K mainGlobals "int" =some none)
  (uF:PySem.W.nsIn K mainGlobals "bool" =some none)
  (g8:PySem.W.nsIn K mainGlobals "isinstance" =some none)
  (Bd:PySem.W.nsIn K mainGlobals "all" =some none)
  (Be:PySem.W.nsIn K mainGlobals "any" =some none)
  (g9:PySem.W.nsIn K mainGlobals "ValueError" =some none)
  (Jd:PySem.W.specialIn K (.ref HE) "__getattribute__" =some (some (.builtin "type.__getattribute__")))
  (Je:PySem.W.readsIn K HE (.type "type")=true)
  (Jf:PySem.W.findCls K (.ref HE) (.type "type") "__init__" =some (.val (.builtin "ValueError.__init__")))
  (YI:∃(nm q:Str) (N:Addr) (bs bm:List Value) (hd:Bool) (sn:List Str) (sub:List Value) (ab:Bool) (col:Option Bool) (dd:Option Addr) (k0 k1 k2 k3 k5:Option Value) (UN:String),K.lookup HE=some (excClassObj nm q HE N bs bm hd sn sub ab col dd k0 k1 k2 k3 k5 UN)∧bm.contains (.type "BaseException")=true)
  (t1:PySem.W.findIn K (.ref Ns) "__class__" =some (some (.builtin "object.__class__")))
  (t2:PySem.W.specialIn K (.builtin "object.__class__") "__get__" =some (some (.builtin "getset_descriptor.__get__")))
  (t3:PySem.W.takesIn K (.builtin "object.__class__")=some true)
  (YJ:PySem.W.mroIn K Ns (.ref HE)=some true)
  (Bf:PySem.W.mroIn K Ns (.ref Ns)=some true)
  (w1:PySem.W.isClsIn K X1=true)
  (y1:PySem.W.typeIn K (.ref X1)=some (.type "type"))
  (m1:PySem.W.mroIn K Ns (.ref X1)=some false)
  (w2:PySem.W.isClsIn K X2=true)
  (y2:PySem.W.typeIn K (.ref X2)=some (.type "type"))
  (m2:PySem.W.mroIn K Ns (.ref X2)=some false)
  (w3:PySem.W.isClsIn K X3=true)
  (y3:PySem.W.typeIn K (.ref X3)=some (.type "type"))
  (m3:PySem.W.mroIn K Ns (.ref X3)=some false)
  (w4:PySem.W.isClsIn K X4=true)
  (y4:PySem.W.typeIn K (.ref X4)=some (.type "type"))
  (m4:PySem.W.mroIn K Ns (.ref X4)=some false)
  (w5:PySem.W.isClsIn K X5=true)
  (y5:PySem.W.typeIn K (.ref X5)=some (.type "type"))
  (m5:PySem.W.mroIn K Ns (.ref X5)=some false)
  (w6:PySem.W.isClsIn K X6=true)
  (y6:PySem.W.typeIn K (.ref X6)=some (.type "type"))
  (m6:PySem.W.mroIn K Ns (.ref X6)=some false)
  (w7:PySem.W.isClsIn K X7=true)
  (y7:PySem.W.typeIn K (.ref X7)=some (.type "type"))
  (m7:PySem.W.mroIn K Ns (.ref X7)=some false)
  (w8:PySem.W.isClsIn K X8=true)
  (y8:PySem.W.typeIn K (.ref X8)=some (.type "type"))
  (m8:PySem.W.mroIn K Ns (.ref X8)=some false)
  (w9:PySem.W.isClsIn K X9=true)
  (y9:PySem.W.typeIn K (.ref X9)=some (.type "type"))
  (m9:PySem.W.mroIn K Ns (.ref X9)=some false)
  :∃fd:FuncData,(∀(s:Shared) (v:Value),BindsTo s fd ⟨[v],[]⟩ [("_law_script",v)])∧∀base:Heap,K.In base→base.Ns mainGlobals mg→eI l.prog w K mg base pL 9 fa fd ["_law_script"] (vM K):=by
 have e:=sZ.symm.trans (PySem.W.mg_of X G KU)
 cases e
 have T:gY K mg KC FC TC:=⟨⟨⟨K5,K6,K7,K8⟩,⟨La,Lb,Lc,Ld⟩,Yz,YA,YB,YC,YD,YE,YF,YG,PySem.W.mg_of X G Ym,PySem.W.mg_of X G Yn,PySem.W.mg_none_of X G A7,PySem.W.mg_none_of X G uE,PySem.W.mg_none_of X G A8,PySem.W.mg_none_of X G qG,PySem.W.mg_none_of X G A9,PySem.W.mg_none_of X G Ba,PySem.W.mg_none_of X G iQ,PySem.W.mg_none_of X G Bb,PySem.W.mg_none_of X G og,PySem.W.mg_none_of X G Bc,PySem.W.mg_none_of X G uF,PySem.W.mg_none_of X G g8,PySem.W.mg_none_of X G Bd,rg,pP,rg⟩,⟨Lh,Li,Lj,Lk⟩,IH,CS,YH,PySem.W.mg_of X G Yo,PySem.W.mg_none_of X G Be⟩
 have TU:Def K mg "divisor" "divisor" ed ["one","other"]:=⟨_,_,aF (st:=ed) Dz DA DB,(aF (st:=ed) Dz DA DB).binds (ps:=["one","other"]) fun _ _ _ _ _ _ us hl=>match us,hl with| [_,_],_=>rfl,PySem.W.mg_of X G JQ⟩
 have TV:Def K mg "lowest" "lowest" eV ["numbers"]:=⟨_,_,aF (st:=eV) DC DD DE,(aF (st:=eV) DC DD DE).binds (ps:=["numbers"]) fun _ _ _ _ _ _ us hl=>match us,hl with| [_],_=>rfl,PySem.W.mg_of X G JR⟩
 have TY:Def K mg "weigh" "weigh" gQ ["weights","column"]:=⟨_,_,aF (st:=gQ) DF DG DH,(aF (st:=gQ) DF DG DH).binds (ps:=["weights","column"]) fun _ _ _ _ _ _ us hl=>match us,hl with| [_,_],_=>rfl,PySem.W.mg_of X G JS⟩
 have TZ:rf K KC "Kernel.__init__" js ["self","free","bound","numbers","weights"] []:=⟨_,_,_,pN (st:=js) JV JW JX,⟨K9,JT,JU,K'⟩,fun j hj=>match j,hj with|0,_=>⟨[], .nil, .all fun us hl=>match us,hl with| [_,_,_,_,_],_=>rfl⟩⟩
 have T1:rf K FC "Frame.__init__" jt ["self"] []:=⟨_,_,_,pN (st:=jt) J0 J1 J2,⟨Lf,JY,JZ,Lg⟩,fun j hj=>match j,hj with|0,_=>⟨[], .nil, .all fun us hl=>match us,hl with| [_],_=>rfl⟩⟩
 have T2:fM K FC "shares" "Frame.shares" eW ["self","column"]:=⟨_,_,aF (st:=eW) DI DJ AV,(aF (st:=eW) DI DJ AV).binds (ps:=["self","column"]) fun _ _ _ _ _ _ us hl=>match us,hl with| [_,_],_=>rfl,⟨J3,J4,AV⟩⟩
 have T3:fM K FC "rest" "Frame.rest" jV ["self","column","shares","row"]:=⟨_,_,aF (st:=jV) DK DL AW,(aF (st:=jV) DK DL AW).binds (ps:=["self","column","shares","row"]) fun _ _ _ _ _ _ us hl=>match us,hl with| [_,_,_,_],_=>rfl,⟨J6,J7,AW⟩⟩
 have T4:fM K FC "row_with_rest" "Frame.row_with_rest" rM ["self","column","shares"]:=⟨_,_,aF (st:=rM) DM DN AX,(aF (st:=rM) DM DN AX).binds (ps:=["self","column","shares"]) fun _ _ _ _ _ _ us hl=>match us,hl with| [_,_,_],_=>rfl,⟨J8,J9,AX⟩⟩
 have T5:fM K FC "levelling" "Frame.levelling" rN ["self","place","shares","many"]:=⟨_,_,aF (st:=rN) DO DP AY,(aF (st:=rN) DO DP AY).binds (ps:=["self","place","shares","many"]) fun _ _ _ _ _ _ us hl=>match us,hl with| [_,_,_,_],_=>rfl,⟨Ka,Kb,AY⟩⟩
 have T6:fM K FC "weights_of_rest" "Frame.weights_of_rest" gR ["self","row","many"]:=⟨_,_,aF (st:=gR) DQ DR AZ,(aF (st:=gR) DQ DR AZ).binds (ps:=["self","row","many"]) fun _ _ _ _ _ _ us hl=>match us,hl with| [_,_,_],_=>rfl,⟨Kc,Kd,AZ⟩⟩
 have T7:fM K FC "bind" "Frame.bind" jh ["self","place","column","shares","row"]:=⟨_,_,aF (st:=jh) DS DT A1,(aF (st:=jh) DS DT A1).binds (ps:=["self","place","column","shares","row"]) fun _ _ _ _ _ _ us hl=>match us,hl with| [_,_,_,_,_],_=>rfl,⟨Ke,Kf,A1⟩⟩
 have T8:fM K FC "freed" "Frame.freed" gS ["self","weights","share","fresh","scale"]:=⟨_,_,aF (st:=gS) DU DV A2,(aF (st:=gS) DU DV A2).binds (ps:=["self","weights","share","fresh","scale"]) fun _ _ _ _ _ _ us hl=>match us,hl with| [_,_,_,_,_],_=>rfl,⟨Kg,Kh,A2⟩⟩
 have T9:Def K mg "kernel" "kernel" fQ ["columns"]:=⟨_,_,aF (st:=fQ) DW DX DY,(aF (st:=fQ) DW DX DY).binds (ps:=["columns"]) fun _ _ _ _ _ _ us hl=>match us,hl with| [_],_=>rfl,PySem.W.mg_of X G Ki⟩
 have Ua:Def K mg "gather" "gather" dt ["numbers","columns"]:=⟨_,_,aF (st:=dt) DZ D0 D4,(aF (st:=dt) DZ D0 D4).binds (ps:=["numbers","columns"]) fun _ _ _ _ _ _ us hl=>match us,hl with| [_,_],_=>rfl,PySem.W.mg_of X G Kj⟩
 have Ub:Def K mg "is_balance" "is_balance" cR ["columns","numbers"]:=⟨_,_,aF (st:=cR) D5 D6 D7,(aF (st:=cR) D5 D6 D7).binds (ps:=["columns","numbers"]) fun _ _ _ _ _ _ us hl=>match us,hl with| [_,_],_=>rfl,PySem.W.mg_of X G Kk⟩
 have Uc:Def K mg "times_within" "times_within" gT ["small","great"]:=⟨_,_,aF (st:=gT) D8 D9 Ea,(aF (st:=gT) D8 D9 Ea).binds (ps:=["small","great"]) fun _ _ _ _ _ _ us hl=>match us,hl with| [_,_],_=>rfl,PySem.W.mg_of X G Kl⟩
 have GK:Def K mg "split" "split" fD ["columns","balance"]:=⟨_,_,aF (st:=fD) Eb Ec Ed,(aF (st:=fD) Eb Ec Ed).binds (ps:=["columns","balance"]) fun _ _ _ _ _ _ us hl=>match us,hl with| [_,_],_=>rfl,PySem.W.mg_of X G Km⟩
 have Ud:rf K TC "Trial.__init__" ju ["self","numbers","gathered","first"] []:=⟨_,_,_,pN (st:=ju) Kp Kq Kr,⟨Ll,Kn,Ko,Lm⟩,fun j hj=>match j,hj with|0,_=>⟨[], .nil, .all fun us hl=>match us,hl with| [_,_,_,_],_=>rfl⟩⟩
 have Ue:fM K TC "raised" "Trial.raised" eX ["self","place","column"]:=⟨_,_,aF (st:=eX) Ee Ef A3,(aF (st:=eX) Ee Ef A3).binds (ps:=["self","place","column"]) fun _ _ _ _ _ _ us hl=>match us,hl with| [_,_,_],_=>rfl,⟨Ks,Kt,A3⟩⟩
 have Ug:fM K TC "all_raised" "Trial.all_raised" cz ["self","columns"]:=⟨_,_,aF (st:=cz) Eg Eh A4,(aF (st:=cz) Eg Eh A4).binds (ps:=["self","columns"]) fun _ _ _ _ _ _ us hl=>match us,hl with| [_,_],_=>rfl,⟨Ku,Kv,A4⟩⟩
 have Uh:fM K TC "is_level" "Trial.is_level" eh ["self"]:=⟨_,_,aF (st:=eh) Ei Ej A5,(aF (st:=eh) Ei Ej A5).binds (ps:=["self"]) fun _ _ _ _ _ _ us hl=>match us,hl with| [_],_=>rfl,⟨Kw,Kx,A5⟩⟩
 have Ui:Def K mg "rows_enough" "rows_enough" a7 ["columns"]:=⟨_,_,aF (st:=a7) Ek El Em,(aF (st:=a7) Ek El Em).binds (ps:=["columns"]) fun _ _ _ _ _ _ us hl=>match us,hl with| [_],_=>rfl,PySem.W.mg_of X G Ky⟩
 have Uj:Def K mg "fits" "fits" jW ["small","great"]:=⟨_,_,aF (st:=jW) En Eo Ep,(aF (st:=jW) En Eo Ep).binds (ps:=["small","great"]) fun _ _ _ _ _ _ us hl=>match us,hl with| [_,_],_=>rfl,PySem.W.mg_of X G Kz⟩
 have Uk:Def K mg "least" "least" dA ["columns","most"]:=⟨_,_,aF (st:=dA) Er Es Et,(aF (st:=dA) Er Es Et).binds (ps:=["columns","most"]) fun _ _ _ _ _ _ us hl=>match us,hl with| [_,_],_=>rfl,PySem.W.mg_of X G KD⟩
 have Ul:Def K mg "_law_here" "_law_here" lG ["_law_script","_law_place"]:=⟨_,_,aF (st:=lG) Eu Ew Ex,(aF (st:=lG) Eu Ew Ex).binds (ps:=["_law_script","_law_place"]) fun _ _ _ _ _ _ us hl=>match us,hl with| [_,_],_=>rfl,PySem.W.mg_of X G KG⟩
 have Um:Def K mg "_law_shaken" "_law_shaken" fR ["_law_cell","_law_many"]:=⟨_,_,aF (st:=fR) Ey Ez EA,(aF (st:=fR) Ey Ez EA).binds (ps:=["_law_cell","_law_many"]) fun _ _ _ _ _ _ us hl=>match us,hl with| [_,_],_=>rfl,PySem.W.mg_of X G KH⟩
 have Uo:Def K mg "_law_columns" "_law_columns" bQ ["_law_script"]:=⟨_,_,aF (st:=bQ) EB EC ED,(aF (st:=bQ) EB EC ED).binds (ps:=["_law_script"]) fun _ _ _ _ _ _ us hl=>match us,hl with| [_],_=>rfl,PySem.W.mg_of X G KI⟩
 have Up:Def K mg "_law_lists" "_law_lists" gj ["_law_size","_law_most"]:=⟨_,_,aF (st:=gj) EE EF EG,(aF (st:=gj) EE EF EG).binds (ps:=["_law_size","_law_most"]) fun _ _ _ _ _ _ us hl=>match us,hl with| [_,_],_=>rfl,PySem.W.mg_of X G KJ⟩
 have Uq:Def K mg "_law_levels" "_law_levels" eY ["_law_some","_law_columns_here"]:=⟨_,_,aF (st:=eY) EH EI EJ,(aF (st:=eY) EH EI EJ).binds (ps:=["_law_some","_law_columns_here"]) fun _ _ _ _ _ _ us hl=>match us,hl with| [_,_],_=>rfl,PySem.W.mg_of X G KL⟩
 have Ur:Def K mg "_law_beneath" "_law_beneath" dO ["_law_one","_law_other"]:=⟨_,_,aF (st:=dO) EK EL EM,(aF (st:=dO) EK EL EM).binds (ps:=["_law_one","_law_other"]) fun _ _ _ _ _ _ us hl=>match us,hl with| [_,_],_=>rfl,PySem.W.mg_of X G KN⟩
 have Us:Def K mg "_law_least" "_law_least" eZ ["_law_balances","_law_most"]:=⟨_,_,aF (st:=eZ) EN EO ES,(aF (st:=eZ) EN EO ES).binds (ps:=["_law_balances","_law_most"]) fun _ _ _ _ _ _ us hl=>match us,hl with| [_,_],_=>rfl,PySem.W.mg_of X G KO⟩
 have Ut:Def K mg "_law_adds_up" "_law_adds_up" fe ["_law_found","_law_some","_law_balance"]:=⟨_,_,aF (st:=fe) ET EU EV,(aF (st:=fe) ET EU EV).binds (ps:=["_law_found","_law_some","_law_balance"]) fun _ _ _ _ _ _ us hl=>match us,hl with| [_,_,_],_=>rfl,PySem.W.mg_of X G KP⟩
 have Uv:Def K mg "_law_refused" "_law_refused" eD ["_law_columns_here","_law_numbers"]:=⟨_,_,aF (st:=eD) EW EX EY,(aF (st:=eD) EW EX EY).binds (ps:=["_law_columns_here","_law_numbers"]) fun _ _ _ _ _ _ us hl=>match us,hl with| [_,_],_=>rfl,PySem.W.mg_of X G KQ⟩
 have uG:PySem.W.fN K Ns HE pD:=⟨K4,A6,uD,K0,K1,K2⟩
 have Ln:Cn K mg "NoSplit" Ns HE "NoSplit.__init__" eC ["self"]:=⟨_,_,aF (st:=eC) vN vO vP,uG,(aF (st:=eC) vN vO vP).binds (ps:=["self"]) fun _ _ _ _ _ _ us hl=>match us,hl with| [_],_=>rfl,PySem.W.mg_of X G VH,K3⟩
 have YK:=aF (st:=lY) KW KY KZ
 refine⟨PySem.W.fnOf "law" "law" (aM lY) (aC lY) (ag lY) .none GF GG GH F2 AU GI,fun s v=> .of_eq rfl,fun base _ _=>?_⟩
 have YL:=ue (P:=l.prog) (w:=w) (base:=base) TU T.toTxt
 have YM:=xk TV T.toTxt YL
 have Lo:=Ak (P:=l.prog) (w:=w) (base:=base) TY T.toTxt
 have YN:=Aq (P:=l.prog) (w:=w) (base:=base) TZ T.toTxt
 have YO:=Al (P:=l.prog) (w:=w) (base:=base) T1 T.toTxt
 have YQ:=xm T2 T.toTxt Lo
 have YR:=CK (P:=l.prog) (w:=w) (base:=base) T3 T.toTxt
 have YS:=IC T4 T.toTxt YR
 have YT:=ID T5 T.toTxt YM
 have YU:=Ao (P:=l.prog) (w:=w) (base:=base) T6 T.toTxt
 have YV:=An (P:=l.prog) (w:=w) (base:=base) T8 T.toTxt
 have YW:=CM T7 T.toTxt Lo YU YV
 have YX:=xt T9 T.toTxt YO YN YQ YS YT YW
 have YY:=xJ Ua T.toTxt Lo
 have TG:IQ K mg KC:=⟨T.hV,T.b8⟩
 have Uw:=As (P:=l.prog) (w:=w) (base:=base) Ud T
 have YZ:=xx Ue T Uw
 have Y0:=qu Ug T YZ
 have Y1:=uo (P:=l.prog) (w:=w) (base:=base) Uh T
 have Y2:=CV Ui T YX
 have Y3:=CT (P:=l.prog) (w:=w) (base:=base) Uj T
 have Ux:=Ax Uk T Y2 Uw Y0 Y1 Y3
 have Uy:=C7 (P:=l.prog) (w:=w) (base:=base) Ul TG
 have Uz:=xE (P:=l.prog) (w:=w) (base:=base) Um TG
 have Y4:=uw Uo T Uy Uz
 have TE:Dc K mg HE Ns:=⟨PySem.W.mg_of X G Yp,⟨Jd,Je,Jf⟩,⟨YI⟩,PySem.W.mg_of X G VH,⟨t1,t2,t3⟩,YJ⟩
 have TX:Ol K mg HE Ns X1 X2 X3 X4 X5 X6 X7 X8 X9:=⟨TE,T.aU,T.nQ,PySem.W.mg_none_of X G g9,PySem.W.mg_of X G Yq,PySem.W.mg_of X G Yr,PySem.W.mg_of X G Ys,PySem.W.mg_of X G Yt,PySem.W.mg_of X G Yu,PySem.W.mg_of X G Yv,PySem.W.mg_of X G Yw,PySem.W.mg_of X G Yx,PySem.W.mg_of X G Yy,eU w1 y1 m1 Bf,eU w2 y2 m2 Bf,eU w3 y3 m3 Bf,eU w4 y4 m4 Bf,eU w5 y5 m5 Bf,eU w6 y6 m6 Bf,eU w7 y7 m7 Bf,eU w8 y8 m8 Bf,eU w9 y9 m9 Bf,Co uG,zq _⟩
 have UA:=qB Ub T YY
 have UB:=AK (P:=l.prog) (w:=w) (base:=base) Uc T
 have Y5:=IY (P:=l.prog) (w:=w) (base:=base) Ln TE
 have Y6:=AN GK T UA Ux UB
 have Y7:=xK GK T TE Y5 UA Ux UB
 have Y8:=AI (P:=l.prog) (w:=w) (base:=base) Up T
 have Y9:=xG (P:=l.prog) (w:=w) (base:=base) Uq T
 have Y':=uz (P:=l.prog) (w:=w) (base:=base) Ur T
 have Za:=xN Us T Y'
 have Zb:=xO (P:=l.prog) (w:=w) (base:=base) Ut T
 have Zc:=uC Uv TX uG Y7
 exact Jg YK T Uy Y4 Y8 Y9 Za Y6 Zb Uz Zc
theorem walk{l:PySem.W.OpenLaw}{q:Program}{loose:List Str}{XP:(Str→Option Value)→Heap→Prop}{YP:World→Heap→Prop}{d:DefRec}{K:Params→PySem.W.Frag}(hn:l.most=some 63)(MA:d.params.defaults=[])
  (hY:∀(w:World) (h:Heap),YP w h→(K w.params).In h)
  (F:∀(w:World) (mg:Str→Option Value) (fa:Addr) (h:Heap),(K w.params).In h→h.Ns mainGlobals mg→mg d.name=some (.ref fa)→
   ∃fd:FuncData,(∀(s:Shared) (u:Value),BindsTo s fd ⟨[u],[]⟩ [("_law_script",u)])∧∀base:Heap,(K w.params).In base→base.Ns mainGlobals mg→eI l.prog w (K w.params) mg base pL 9 fa fd ["_law_script"] (vM (K w.params))):
  PySem.W.WalkO q loose XP YP l.row.toRowW d [] (fun f vs=>PySem.call f vs):=
 L2.BR (n:=63) (k:=9) (x:="_law_script") (CX:=fun _=>pL) (sp:=fun w=>vM (K w.params)) hn (by decide) MA ⟨rfl,by decide,by decide⟩ hY F (fun _ _ a ns hl _ hS=>⟨a,ns,rfl,hS,hl,fun _=>rfl⟩) fun _ _ _ _ _ z=>z
end W0
open PySem PySem.W PyProof.Rows
namespace PySem.W.Fast
def tw13386876754069077429:=True
def tw8399349459965159068:=True
def tw1598005456502879656:=True
def tw7470383008299723420:=True
def tw2546656217430151462:=True
def tw16317006350386206689:=True
def tw16119396182550378088:=True
def tw12253074908920244287:=True
def tw7650273398803593939:=True
def tw15623393944401227920:=True
def tw8555748643288091407:=True
def tw15873224151326069047:=True
def tw11739436975499279005:=True
def tw10368052822248716683:=True
def tw10123177198516816803:=True
def tw4869885883904547101:=True
def tw17023158088613386497:=True
def tw11163911352180780927:=True
def tw2376731424239845731:=True
def tw10147923886599959246:=True
def tw12347616240851015973:=True
def tw8013808106905859726:=True
def tw7411270584288246067:=True
def tw12667391330930523795:=True
def tw5345465221319523194:=True
def tw13986092962799112880:=True
def tw18318555316078740135:=True
def tw16332495911035629583:=True
def tw11599278074070908050:=True
def tw13940251493866832610:=True
def tw14206703928563530662:=True
def tw8326597972862417910:=True
def tw12500724602327396937:=True
def tw16490411179003609149:=True
def tw9008400013060202723:=True
def tw2386107953114132004:=True
def tw4116563652506361759:=True
def tw12091615858452502712:=True
def tw17445962031140349271:=True
def tw11031254180142315804:=True
def tw2857269680245111500:=True
def tw10214298249809497498:=True
def tw8207089946927965548:=True
def tw17552893230849822148:=True
def tw4765744560529071034:=True
def tw609327283784106641:=True
def tw11808920281874783822:=True
def tw4554316319054554409:=True
def tw15984555053711537242:=True
def tw17187936003789373260:=True
def tw11712505304800397072:=True
def tw5443347803506192188:=True
def tw16307225859333567544:=True
def tw4848889169763742012:=True
def tw8450358575193957811:=True
def tw7508817849939035324:=True
def tw8233780426836018894:=True
def tw14416487003057052401:=True
def tw16852148550290266730:=True
def tw16387953834301394089:=True
def tw13440955055779991210:=True
def tw5711922317645463732:=True
def tw14973610515763144097:=True
def tw7380223405453353173:=True
def tw13555258329592951698:=True
def tw14034530734374859227:=True
def tw11678858812617250845:=True
def tw5371216047116847207:=True
def tw14219877904123343310:=True
def tw2406094228245066008:=True
def tw5113531860511130885:=True
def tw10683760306097622171:=True
def tw10408541211940034823:=True
def tw7902023339321072491:=True
def tw10921500002865158182:=True
def tw3235710575486377858:=True
def tw2245220369411480105:=True
def tw380187516652528644:=True
def tw11983148405012481257:=True
def tw2442009035305234205:=True
def tw3363654940025467217:=True
def tw4234682875189435361:=True
def tw16440843612885441834:=True
def tw11238423890984996017:=True
def tw6752762725617287387:=True
def tw6939057786482565549:=True
def tw14612396822698075958:=True
def tw1654901406485244615:=True
def tw14190661532590895633:=True
def tw12318763522078839496:=True
def tw3789062340136580321:=True
def tw14845907366385661074:=True
def tw5792767933154795016:=True
def tw14457252598111388064:=True
def tw10001436438077498875:=True
def tw1732967415873264902:=True
def tw6611727294267492954:=True
def tw11979565905418043983:=True
def tw1081631967824780184:=True
def tw9698086780337274472:=True
def tw974462063022389527:=True
def tw14487556902581041488:=True
def tw135037778114654552:=True
def tw11630528835189114302:=True
def tw11486954653057955936:=True
def tw9389439637873134464:=True
def tw16389844070185051609:=True
def tw16216700943989885787:=True
def tw10560813996876491544:=True
def tw10120730462598223471:=True
def tw17702214699862047160:=True
def tw15114570421270613004:=True
def tw13699772466685955593:=True
def tw5975551731404931447:=True
def tw15726998756440014493:=True
def tw10047782788939482874:=True
def tw5864958569599044436:=True
def tw9830992803297381148:=True
def tw3302978532830156797:=True
def tw13971239323945982201:=True
def tw6662259099850080754:=True
def tw10926596096919962942:=True
def tw8871056712811953570:=True
def tw281356524903061847:=True
def tw4710151384983064320:=True
def tw2125512632050238351:=True
def tw14391197552334682624:=True
def tw4199852117542570204:=True
def tw10087594139172315476:=True
def tw13088631583569586942:=True
def tw17727416050642457763:=True
def tw8632173013795627259:=True
def tw8319017385369078405:=True
def tw8885222283542496291:=True
def tw10624185622973946952:=True
def tw5925018155282316393:=True
def tw2318002367643817500:=True
def tw2115350311801508635:=True
def tw304072371543507320:=True
def tw11714243192805537364:=True
def tw1002981907421004607:=True
def tw17472145775557971617:=True
def tw17649931509866078291:=True
def tw3718600908671364680:=True
def tw3199327281996344410:=True
def tw6415700230844704096:=True
def tw1930195663328671293:=True
def tw13277998658133151797:=True
def tw5779566161822648396:=True
def tw3172045447185371353:=True
def tw12613171372833014435:=True
def tw6470319987274649392:=True
def tw12913005234593118486:=True
def tw15613264337955462705:=True
def tw11361161611796697691:=True
def tw7856417316527254228:=True
def tw12178702530471291977:=True
def tw12098365854680363976:=True
def tw14484015901927816992:=True
def tw3720557943589937458:=True
def tw15845811626207409575:=True
def tw3067059847181512599:=True
def tw14043784331945461607:=True
def tw16891271974931297650:=True
def tw14915770734329009358:=True
def tw15127326899004690993:=True
def tw9528970227002483150:=True
def tw1133312018888955632:=True
def tw11657705903170645661:=True
def tw9295973532823968276:=True
def tw14826644194792386134:=True
def tw11899592998644202435:=True
def tw17510486912658680899:=True
def tw2142160551439801775:=True
def tw14078059021035566445:=True
def tw1478617776393397086:=True
def tw17072250784201432300:=True
def tw5533328160917372398:=True
def tw16471773971145311024:=True
def tw4285276869529734047:=True
def tw15721197176306936279:=True
def tw8001487534188701641:=True
def tw4234121599280118385:=True
def tw4209549171823004551:=True
def tw17400980843177990529:=True
def tw10515314272115949060:=True
def tw991425759791836898:=True
def tw3208560773631725886:=True
def tw14136236506197058375:=True
def tw1453559181432187181:=True
def tw12968758877870462572:=True
def tw670302220118544665:=True
def tw1211858580368348764:=True
def tw5166751252969724125:=True
def tw5342693518502934695:=True
def tw8703785413772570064:=True
def tw13571123842951006872:=True
def tw5310826830447579132:=True
def tw5881150754004936935:=True
def tw3572499159377675786:=True
def tw355335555823697303:=True
def tw4249756878524547020:=True
def tw14032331172214223681:=True
def tw547759047137544849:=True
def tw5691300255802777075:=True
def tw1879800737984482155:=True
def tw11478538377431569356:=True
def tw6276829937888864927:=True
def tw5285669961616242984:=True
def tw11535804586428196753:=True
def tw17873120548395171586:=True
def tw1009637269191491289:=True
def tw17427182498926910475:=True
def tw4513896825499367235:=True
def tw449008798232256547:=True
def tw15785989173600852719:=True
def tw13763517007618786393:=True
def tw5091588324355345547:=True
def tw9636817764665011970:=True
def tw1983098817672929974:=True
def tw2018676140083732067:=True
def tw13224686386687468821:=True
def tw4475930254221551537:=True
def tw16791078517981062897:=True
def tw8746181540373773730:=True
def tw11196817941271203223:=True
def tw3999819662152685500:=True
def tw5326058327691343369:=True
def tw16923895700247058220:=True
def tw14230486217583436327:=True
def tw1450466811905579573:=True
def tw8031205570759896779:=True
def tw4441025375478406504:=True
def tw1854718996452009832:=True
def tw10390044209414746476:=True
def tw12239330902485112800:=True
def tw7994267659442960868:=True
def tw2457285669168296145:=True
def tw2635321187497525930:=True
def tw16525886409591585656:=True
def tw16306353069899195939:=True
def tw9912875414375711359:=True
def tw13294643892547272371:=True
def tw15069025753221087662:=True
def tw4564693413375712502:=True
def tw14841060080324578275:=True
def tw16514362349894933182:=True
def tw6121182068448987107:=True
def tw17926686615208885513:=True
def tw14653207374893534700:=True
def tw9760644121529776595:=True
def tw761997939338767071:=True
def tw1454389268573444942:=True
def tw10963305896946333231:=True
def tw7633026275154413597:=True
def tw8332553528833964584:=True
def tw11323195607196645332:=True
def tw15625237077058981681:=True
def tw16042310669360637395:=True
def tw7581494348208529735:=True
def tw9048092387137350359:=True
def tw15415388969162021214:=True
def tw16917373741140057165:=True
def tw6522250437154180868:=True
end PySem.W.Fast
set_option maxRecDepth 100000 in
set_option maxHeartbeats 0 in
theorem PySem.Challenge.cw_balancehall_k31_splits_holds : PySem.Challenge.rw_balancehall_k31_splits.Holds := by
 w_on;o_law;k_head;(case hw=>w_witness2)
 k_fill
 refine W0.walk (l:=PySem.Challenge.rw_balancehall_k31_splits) rfl rfl (fun w h Y=>PySem.W.kIn_of Y) ?F
 case F=>
  intro w mg fa h KX G MB
  refine' W0.all_mk KX G MB ?Ym ?Yn ?Yo ?Yp ?VH ?Yq ?Yr ?Ys ?Yt ?Yu ?Yv ?Yw ?Yx ?Yy ?JQ ?Dz ?DA ?DB ?JR ?DC ?DD ?DE ?JS ?DF ?DG ?DH ?JT ?JU ?JV ?JW ?JX ?JY ?JZ ?J0 ?J1 ?J2 ?J3 ?J4 ?DI ?DJ ?AV ?J6 ?J7 ?DK ?DL ?AW ?J8 ?J9 ?DM ?DN ?AX ?Ka ?Kb ?DO ?DP ?AY ?Kc ?Kd ?DQ ?DR ?AZ ?Ke ?Kf ?DS ?DT ?A1 ?Kg ?Kh ?DU ?DV ?A2 ?Ki ?DW ?DX ?DY ?Kj ?DZ ?D0 ?D4 ?Kk ?D5 ?D6 ?D7 ?Kl ?D8 ?D9 ?Ea ?Km ?Eb ?Ec ?Ed ?Kn ?Ko ?Kp ?Kq ?Kr ?Ks ?Kt ?Ee ?Ef ?A3 ?Ku ?Kv ?Eg ?Eh ?A4 ?Kw ?Kx ?Ei ?Ej ?A5 ?Ky ?Ek ?El ?Em ?Kz ?En ?Eo ?Ep ?KD ?Er ?Es ?Et ?KG ?Eu ?Ew ?Ex ?KH ?Ey ?Ez ?EA ?KI ?EB ?EC ?ED ?KJ ?EE ?EF ?EG ?KL ?EH ?EI ?EJ ?KN ?EK ?EL ?EM ?KO ?EN ?EO ?ES ?KP ?ET ?EU ?EV ?KQ ?EW ?EX ?EY ?A6 ?GJ ?vN ?vO ?vP ?KU ?KW ?KY ?KZ ?uD ?K0 ?K1 ?K2 ?K3 ?K4 ?K5 ?K6 ?K7 ?K8 ?K9 ?K' ?La ?Lb ?Lc ?Ld ?Lf ?Lg ?Lh ?Li ?Lj ?Lk ?Ll ?Lm ?Yz ?YA ?YB ?YC ?YD ?YE ?YF ?YG ?IH ?CS ?YH ?A7 ?uE ?A8 ?qG ?A9 ?Ba ?iQ ?Bb ?og ?Bc ?uF ?g8 ?Bd ?Be ?g9 ?Jd ?Je ?Jf ?YI ?t1 ?t2 ?t3 ?YJ ?Bf ?w1 ?y1 ?m1 ?w2 ?y2 ?m2 ?w3 ?y3 ?m3 ?w4 ?y4 ?m4 ?w5 ?y5 ?m5 ?w6 ?y6 ?m6 ?w7 ?y7 ?m7 ?w8 ?y8 ?m8 ?w9 ?y9 ?m9
  (case Ym=>k_is)
  (case Yn=>k_is)
  (case Yo=>k_is)
  (case Yp=>k_is)
  (case VH=>k_is)
  (case Yq=>k_is)
  (case Yr=>k_is)
  (case Ys=>k_is)
  (case Yt=>k_is)
  (case Yu=>k_is)
  (case Yv=>k_is)
  (case Yw=>k_is)
  (case Yx=>k_is)
  (case Yy=>k_is)
  (case JQ=>k_is)
  (case Dz=>k_is)
  (case DA=>k_is)
  (case DB=>k_is)
  (case JR=>k_is)
  (case DC=>k_is)
  (case DD=>k_is)
  (case DE=>k_is)
  (case JS=>k_is)
  (case DF=>k_is)
  (case DG=>k_is)
  (case DH=>k_is)
  (case JT=>k_is)
  (case JU=>k_is)
  (case JV=>k_is)
  (case JW=>k_is)
  (case JX=>k_is)
  (case JY=>k_is)
  (case JZ=>k_is)
  (case J0=>k_is)
  (case J1=>k_is)
  (case J2=>k_is)
  (case J3=>k_is)
  (case J4=>k_is)
  (case DI=>k_is)
  (case DJ=>k_is)
  (case AV=>k_is)
  (case J6=>k_is)
  (case J7=>k_is)
  (case DK=>k_is)
  (case DL=>k_is)
  (case AW=>k_is)
  (case J8=>k_is)
  (case J9=>k_is)
  (case DM=>k_is)
  (case DN=>k_is)
  (case AX=>k_is)
  (case Ka=>k_is)
  (case Kb=>k_is)
  (case DO=>k_is)
  (case DP=>k_is)
  (case AY=>k_is)
  (case Kc=>k_is)
  (case Kd=>k_is)
  (case DQ=>k_is)
  (case DR=>k_is)
  (case AZ=>k_is)
  (case Ke=>k_is)
  (case Kf=>k_is)
  (case DS=>k_is)
  (case DT=>k_is)
  (case A1=>k_is)
  (case Kg=>k_is)
  (case Kh=>k_is)
  (case DU=>k_is)
  (case DV=>k_is)
  (case A2=>k_is)
  (case Ki=>k_is)
  (case DW=>k_is)
  (case DX=>k_is)
  (case DY=>k_is)
  (case Kj=>k_is)
  (case DZ=>k_is)
  (case D0=>k_is)
  (case D4=>k_is)
  (case Kk=>k_is)
  (case D5=>k_is)
  (case D6=>k_is)
  (case D7=>k_is)
  (case Kl=>k_is)
  (case D8=>k_is)
  (case D9=>k_is)
  (case Ea=>k_is)
  (case Km=>k_is)
  (case Eb=>k_is)
  (case Ec=>k_is)
  (case Ed=>k_is)
  (case Kn=>k_is)
  (case Ko=>k_is)
  (case Kp=>k_is)
  (case Kq=>k_is)
  (case Kr=>k_is)
  (case Ks=>k_is)
  (case Kt=>k_is)
  (case Ee=>k_is)
  (case Ef=>k_is)
  (case A3=>k_is)
  (case Ku=>k_is)
  (case Kv=>k_is)
  (case Eg=>k_is)
  (case Eh=>k_is)
  (case A4=>k_is)
  (case Kw=>k_is)
  (case Kx=>k_is)
  (case Ei=>k_is)
  (case Ej=>k_is)
  (case A5=>k_is)
  (case Ky=>k_is)
  (case Ek=>k_is)
  (case El=>k_is)
  (case Em=>k_is)
  (case Kz=>k_is)
  (case En=>k_is)
  (case Eo=>k_is)
  (case Ep=>k_is)
  (case KD=>k_is)
  (case Er=>k_is)
  (case Es=>k_is)
  (case Et=>k_is)
  (case KG=>k_is)
  (case Eu=>k_is)
  (case Ew=>k_is)
  (case Ex=>k_is)
  (case KH=>k_is)
  (case Ey=>k_is)
  (case Ez=>k_is)
  (case EA=>k_is)
  (case KI=>k_is)
  (case EB=>k_is)
  (case EC=>k_is)
  (case ED=>k_is)
  (case KJ=>k_is)
  (case EE=>k_is)
  (case EF=>k_is)
  (case EG=>k_is)
  (case KL=>k_is)
  (case EH=>k_is)
  (case EI=>k_is)
  (case EJ=>k_is)
  (case KN=>k_is)
  (case EK=>k_is)
  (case EL=>k_is)
  (case EM=>k_is)
  (case KO=>k_is)
  (case EN=>k_is)
  (case EO=>k_is)
  (case ES=>k_is)
  (case KP=>k_is)
  (case ET=>k_is)
  (case EU=>k_is)
  (case EV=>k_is)
  (case KQ=>k_is)
  (case EW=>k_is)
  (case EX=>k_is)
  (case EY=>k_is)
  (case A6=>k_is)
  (case GJ=>k_is)
  (case vN=>k_is)
  (case vO=>k_is)
  (case vP=>k_is)
  (case KU=>k_is)
  (case KW=>k_is)
  (case KY=>k_is)
  (case KZ=>k_is)
  (case uD=>k_is)
  (case K0=>k_is)
  (case K1=>k_is)
  (case K2=>k_is)
  (case K3=>k_is)
  (case K4=>exact⟨_,_,_,_,_,_,_,_,_,_,_,_,_,_,by k_is⟩)
  (case K5=>k_is)
  (case K6=>k_is)
  (case K7=>k_is)
  (case K8=>k_is)
  (case K9=>k_is)
  (case K'=>k_is)
  (case La=>k_is)
  (case Lb=>k_is)
  (case Lc=>k_is)
  (case Ld=>k_is)
  (case Lf=>k_is)
  (case Lg=>k_is)
  (case Lh=>k_is)
  (case Li=>k_is)
  (case Lj=>k_is)
  (case Lk=>k_is)
  (case Ll=>k_is)
  (case Lm=>k_is)
  (case Yz=>k_is)
  (case YA=>k_is)
  (case YB=>k_is)
  (case YC=>k_is)
  (case YD=>k_is)
  (case YE=>k_is)
  (case YF=>k_is)
  (case YG=>k_is)
  (case IH=>k_is)
  (case CS=>k_is)
  (case YH=>k_is)
  (case A7=>k_is)
  (case uE=>k_is)
  (case A8=>k_is)
  (case qG=>k_is)
  (case A9=>k_is)
  (case Ba=>k_is)
  (case iQ=>k_is)
  (case Bb=>k_is)
  (case og=>k_is)
  (case Bc=>k_is)
  (case uF=>k_is)
  (case g8=>k_is)
  (case Bd=>k_is)
  (case Be=>k_is)
  (case g9=>k_is)
  (case Jd=>k_is)
  (case Je=>k_is)
  (case Jf=>k_is)
  (case YI=>exact⟨_,_,_,_,_,_,_,_,_,_,_,_,_,_,_,_,_,by k_is,by decide+kernel⟩)
  (case t1=>k_is)
  (case t2=>k_is)
  (case t3=>k_is)
  (case YJ=>k_is)
  (case Bf=>k_is)
  (case w1=>k_is)
  (case y1=>k_is)
  (case m1=>k_is)
  (case w2=>k_is)
  (case y2=>k_is)
  (case m2=>k_is)
  (case w3=>k_is)
  (case y3=>k_is)
  (case m3=>k_is)
  (case w4=>k_is)
  (case y4=>k_is)
  (case m4=>k_is)
  (case w5=>k_is)
  (case y5=>k_is)
  (case m5=>k_is)
  (case w6=>k_is)
  (case y6=>k_is)
  (case m6=>k_is)
  (case w7=>k_is)
  (case y7=>k_is)
  (case m7=>k_is)
  (case w8=>k_is)
  (case y8=>k_is)
  (case m8=>k_is)
  (case w9=>k_is)
  (case y9=>k_is)
  (case m9=>k_is)
