import PyProof.Rows.All
import Wide.All
import OpenK.AllK
import Wide.FinOn
import Lean
import PyProof.EqAt
import PyProof.EqKinds
import PyProof.TupleCall
import PySem.Challenge.RW_balancehall_k55_whole_totals_stay
set_option Elab.async false
set_option compiler.extract_closed false in
set_option hygiene false in
local macro_rules|`(0e0)=>`(by decide+kernel)|`(0e1)=>`(λf aY A outer s H vs Q E hr h=>?_)|`(0e2)=>`(List (Key×V))|`(0e3)=>`(Value→Shared→Prop)|`(0e4)=>`(by decide)|`(0e5)=>`(by omega)|`(0e6)=>`(Or.inl rfl)|`(0e7)=>`(λvs H Q E h=>?_)|`(0e8)=>`(⟨by rfl,by rfl,by decide+kernel,by decide+kernel,by decide+kernel,by rfl,by decide+kernel⟩)|`(0e9)=>`(PySem.W.Frag)|`(1e0)=>`(model X.prog X.w)|`(1e1)=>`(Inv X pins σ H s)|`(1e2)=>`(g7 λ_ _ _ _ _ _ _=>rfl)|`(1e3)=>`(Str→Option Value)|`(1e4)=>`(List (Addr×Obj))|`(1e5)=>`(["self"])|`(1e6)=>`(mem_cons_self ..)|`(1e7)=>`(⟨(fL x).toArray⟩)|`(1e8)=>`((·.1))|`(1e9)=>`(m5 λ_ _ _ _ _ _ _ _=>rfl)|`(2e0)=>`(nX K mg C R G Pc Fo Ch uK uN uB uE uM uC uP uI uD uL uT eM eN eO uG uS)|`(2e1)=>`(pv 0)|`(2e2)=>`(by show 2≤sizeLine;decide)|`(2e3)=>`(.ListComp elt [⟨tg,iter,ifs,0⟩] scope pos)|`(2e4)=>`(⟨_,rfl⟩)|`(2e5)=>`(model prog w)|`(2e6)=>`(kR K mg C R G Pc Fo uK uN uB uE uM uC uP uI uD uL uT)|`(2e7)=>`(λ_ _=>rfl)|`(2e8)=>`(⟨by decide,by decide⟩)|`(2e9)=>`(by simp)|`(3e0)=>`(.dK kvs)|`(3e1)=>`(∀vs H Q E,sp vs H Q E→vs.length=ps.length)|`(3e2)=>`(s.heap.objs.size+1)|`(3e3)=>`(qv K mg C R G Pc Fo St uK uN uB uE uM uC uP uI uD uL uT)|`(3e4)=>`(by intro z;cases z)|`(3e5)=>`(Addr)|`(3e6)=>`(aQ 2e1 rfl)|`(3e7)=>`(⟨k.toArray⟩)|`(3e8)=>`(List Str)|`(3e9)=>`(some (.builtin "object.__setattr__"))|`(4e0)=>`(⟨λk σ H'=>∃i:Nat,k+i=r0.length∧σ=[some (.ref r),some (.ref L)]∧de R H' r x (p+(ix x0).length+(iy (r0.take i)).length)∧Kept r H H'∧∃ps,H' L=some (.lst (ps.map V.ref))∧ps.length=i+1∧Paired (P6 C G Pc Fo L H H') ps (x0::r0.take i),⟨r0.length,0,by omega,rfl,⟨oM,sL _ _ eL⟩,k1.trans (Kept.of sL),[t0],aa,rfl, .cons (λb8 ke=>hN b8 λb o z1 z2=>ke b o z1 (af z2 hL) (sL _ _ z2)) .nil⟩,?_⟩)|`(4e1)=>`(List Value)|`(4e2)=>`((x==("__debug__" :Str))=false)|`(4e3)=>`(hr.mono 0e4)|`(4e4)=>`((backTo pos (starEach es X.env)).any 1e8=false)|`(4e5)=>`(List V)|`(4e6)=>`({ cls:= .type "list",data:= .seq ([]:List Value).toArray })
noncomputable section
set_option linter.all false
set_option maxRecDepth 100000
open PySem.W (keepIn kitOne fnOf nsIn mg_of mg_none_of)
open List (mem_filter filterMap_cons mem_cons_self mem_cons_of_mem mem_cons mem_append mem_append_left getElem?_set_ne mem_append_right size_toArray length_cons map_cons length_map append_nil nodup_cons of_mem_zip length_take getElem?_map mem_of_getElem? length_append find?_cons any_cons cons_append length_nil map_nil length_drop replicate_succ flatten_cons append_assoc foldl_cons nil_append mem_map any_eq_true mem_singleton map_append all_cons mem_map_of_mem all_eq_true lookup_cons drop_eq_getElem_cons getElem_mem map_map getElem?_eq_getElem not_mem_nil take_add_one not_lt cons_lt_cons_iff drop_zero map_congr_left sum_cons foldl_append nodup_nil take_append_drop flatMap_cons flatMap_append flatMap_nil length_pos_iff take_length append_of_mem length_take_le' filter_append sum_append mem_flatMap mem_singleton_self)
open Nat (lt_of_lt_of_le lt_irrefl ne_of_lt le_trans le_of_lt ne_of_gt le_refl zero_le le_of_eq lt_succ_self le_succ lt_trans lt_of_le_of_lt log2_lt)
open Int (mul_one zero_mul add_mul mul_assoc one_mul add_zero zero_add emod_nonneg emod_lt_of_pos mul_comm eq_ofNat_of_zero_le mul_zero mul_nonneg mul_le_mul mul_neg mul_add)
open Option (isSome_iff_exists map_some isSome_map getD_none bind_some)
open Bool (and_eq_true)
namespace L2
open PySem PySem.Spec PyProof.Rows
abbrev Key:=Sum Int Str
noncomputable def rn:Key→Value→Bool
 | .inl k,v=>Value.isInt k v
 | .inr x,v=>Value.isStrOf x v
noncomputable def keyH(w:World):Key→Int
 | .inl k=>hashInt k
 | .inr x=>hashStr w x
def b9:∀{k:Key} {v:Value},rn k v=true→(∃i t,k=Sum.inl i∧v=Value.int i t)∨(∃x t,k=Sum.inr x∧v=Value.str x t)
 | .inl i,v,h=>by
   obtain⟨t,e⟩:=Value.isInt_shape (k:=i) (v:=v) h;exact .inl ⟨i,t,rfl,e⟩
 | .inr x,v,h=>by
   obtain⟨t,e⟩:=Value.isStrOf_shape (x:=x) (v:=v) h;exact .inr ⟨x,t,rfl,e⟩
def E2(i:Int)(t:Tok):rn (.inl i) (.int i t)=true:=by simp [rn,Value.isInt]
def E3(x:Str)(t:Tok):rn (.inr x) (.str x t)=true:=by simp [rn,Value.isStrOf]
def QQ(a b:Int):decide ((Sum.inl a:Key)=Sum.inl b)=(a==b):=by
 by_cases e:a=b
 ·subst e;simp
 ·have h:¬(Sum.inl a:Key)=Sum.inl b:=λq=>e (Sum.inl.inj q);rw[decide_eq_false h];exact(beq_eq_false_iff_ne.mpr e).symm
def QR(a b:Str):decide ((Sum.inr a:Key)=Sum.inr b)=decide (a=b):=by
 by_cases e:a=b
 ·subst e;simp
 ·have h:¬(Sum.inr a:Key)=Sum.inr b:=λq=>e (Sum.inr.inj q);rw[decide_eq_false h,decide_eq_false e]
def QS(a:Int)(b:Str):decide ((Sum.inl a:Key)=Sum.inr b)=false:=decide_eq_false (λq=>nomatch q)
def QT(a:Str)(b:Int):decide ((Sum.inr a:Key)=Sum.inl b)=false:=decide_eq_false (λq=>nomatch q)
noncomputable def bz(prog:Program)(w:World):PySem.KeyKind prog w Key where
 is:=rn
 hash:=keyH w
 inj:=λv a b ha hb=>by
  rcases b9 ha with ⟨i,t,rfl,rfl⟩ | ⟨x,t,rfl,rfl⟩
  ·rcases b9 hb with ⟨j,u,rfl,e⟩ | ⟨y,u,rfl,e⟩
   ·injection e with e1 _;rw[e1]
   ·exact nomatch e
  ·rcases b9 hb with ⟨j,u,rfl,e⟩ | ⟨y,u,rfl,e⟩
   ·exact nomatch e
   ·injection e with e1 _;rw[e1]
 byValue:=λk v h=>by
  rcases b9 h with ⟨i,t,rfl,rfl⟩ | ⟨x,t,rfl,rfl⟩<;>rfl
 pyHash:=λhv h=>by
  rcases b9 hv with ⟨i,t,rfl,rfl⟩ | ⟨x,t,rfl,rfl⟩
  ·exact wpAny_pyHash_int h
  ·exact wpAny_pyHash_str h
 eqBool:=λhu hv h=>by
  rcases b9 hu with ⟨i,t,rfl,rfl⟩ | ⟨x,t,rfl,rfl⟩
  ·rcases b9 hv with ⟨j,u,rfl,rfl⟩ | ⟨y,u,rfl,rfl⟩
   ·rw[QQ] at h;exact wpAny_eqBool_int h
   ·rw[QS] at h;exact SeqAt.EqAt.int_str i t y u _ _ _ _ h
  ·rcases b9 hv with ⟨j,u,rfl,rfl⟩ | ⟨y,u,rfl,rfl⟩
   ·rw[QT] at h;exact SeqAt.EqAt.str_int x t j u _ _ _ _ h
   ·rw[QR] at h;exact wpAny_eqBool_str h
 «strs» :=λk x t v h=>by
  rcases b9 h with ⟨i,u,rfl,e⟩ | ⟨y,u,rfl,e⟩
  ·exact nomatch e
  ·injection e with e1 _;subst e1;cases v<;>rfl
def ro(prog:Program)(w:World)(k:Key)(v:Value):(bz prog w).is k v=rn k v:=rfl
def yZ(prog:Program)(w:World)(i:Int)(t:Tok):(bz prog w).is (.inl i) (.int i t)=true:=E2 i t
def y7(prog:Program)(w:World)(x:Str)(t:Tok):(bz prog w).is (.inr x) (.str x t)=true:=E3 x t
end L2
namespace L2
open PySem PySem.Spec PyProof.Rows
inductive V where
 |cw|bl (b:Bool) |int (i:Int) |str (x:Str) |Bh (b:Array UInt8) |Pj (b:UInt64) |ref (a:3e5) |ty (n:String)
 deriving DecidableEq
def RelV:V→Value→Prop
 | .cw,u=>u=Value.none
 | .bl b,u=>u=Value.bool b
 | .int i,u=>∃t,u=Value.int i t
 | .str x,u=>∃t,u=Value.str x t
 | .Bh b,u=>∃t,u=Value.bytes b t
 | .Pj b,u=>∃t,u=Value.float b t
 | .ref a,u=>u=Value.ref a
 | .ty n,u=>u=Value.type n
abbrev Vals:List V→List Value→Prop:=Paired RelV
theorem Vals.length(r:Vals xs us):xs.length=us.length:=Paired.length r
theorem Vals.get:∀{xs:4e5} {us:4e1} {i:Nat} {x:V},Vals xs us→xs[i]? =some x→∃u,us[i]? =some u∧RelV x u
 |_,_,_,_, .nil,e=>by simp at e
 |_,_,0,_, .cons r _,e=>by simp at e;subst e;exact⟨_,rfl,r⟩
 |_,_,i+1,x, .cons _ t,e=>by
  obtain⟨u,h1,h2⟩:=Vals.get (i:=i) (x:=x) t (by simpa using e);exact⟨u,by simpa using h1,h2⟩
theorem Vals.append:∀{xs ys:4e5} {us ws:4e1},Vals xs us→Vals ys ws→Vals (xs++ys) (us++ws)
 |_,_,_,_, .nil,s=>s
 |_,_,_,_, .cons r t,s=> .cons r (Vals.append t s)
theorem Vals.take:∀{xs:4e5} {us:4e1} (n:Nat),Vals xs us→Vals (xs.take n) (us.take n)
 |_,_,0,_=> .nil
 |_,_,_+1, .nil=> .nil
 |_,_,n+1, .cons r t=> .cons r (Vals.take n t)
theorem Vals.drop:∀{xs:4e5} {us:4e1} (n:Nat),Vals xs us→Vals (xs.drop n) (us.drop n)
 |_,_,0,r=>r
 |_,_,_+1, .nil=> .nil
 |_,_,n+1, .cons _ t=>Vals.drop n t
def hX:Option V→Option Value→Prop
 |some v,some u=>RelV v u
 |none,none=>True
 |_,_=>False
def KV{κ:Type}:List (κ×V)→List (κ×Value)→Prop:=Paired λ(p:κ×V) (q:κ×Value)=>p.1=q.1∧RelV p.2 q.2
noncomputable def kV:Key→V
 | .inl i=> .int i
 | .inr x=> .str x
inductive HO where
 |lst (xs:4e5)
 |tup (xs:4e5)
 |dK (kvs:0e2) |dT (kvs:List (List Key×V))
 |set (S:Int→Bool) (n:Nat)
 |ins (C dx:3e5) (fs:List (Str×V))
 |own (x:3e5)
 |xd (fs:List (Str×V))
 |met (f x:3e5)
 |rng (lo hi:Int)
 |dX (o:Obj) (u:HO)
 |Pl (ps:Array Value)
 |ext (φ:Heap→Prop)
abbrev Hp:=Addr→Option HO
noncomputable def upd(H:Hp)(a:3e5)(o:HO):Hp:=λb=>if b=a then some o else H b
def aa:upd H a o a=some o:=by unfold upd;rw[if_pos rfl]
def ah(h:b≠a):upd H a o b=H b:=by unfold upd;rw[if_neg h]
def jt:upd (upd H a o) a u=upd H a u:=by
 funext b;unfold upd;split<;>rfl
def cI{H:Hp}{a b:3e5}{o u:HO}(h:H a=some o)(h':H b=some u)(d:o≠u):a≠b:=by
 intro e;subst e;rw[h] at h';exact d (Option.some.inj h')
def af{H:Hp}{a b:3e5}{o:HO}(h:H a=some o)(h':H b=none):a≠b:=by
 intro e;subst e;rw[h] at h';cases h'
section
variable (P:Program)(w:World)
def cf(H:Hp)(h:Heap)(a:3e5):HO→Prop
 | .lst xs=>xs.length≤sizeLine∧∃(its:4e1) (n:Nat),Vals xs its∧h.get? a=some { cls:= .type "list",data:= .seq its.toArray n }
 | .tup xs=>xs.length≤sizeLine∧∃its:List Value,Vals xs its∧IsTup h a its.toArray
 | .dK kvs=>kvs.length≤sizeLine∧(a==sysModules)=false∧∃vs,KV kvs vs∧h.DictOf (bz P w) a vs
 | .dT kvs=>kvs.length≤sizeLine∧(a==sysModules)=false∧∃xs:List (List Key×Addr×Value),
   Paired (λ(p:List Key×V) (q:List Key×Addr×Value)=>p.1=q.1∧H q.2.1=some (.tup (p.1.map kV))∧RelV p.2 q.2.2) kvs xs∧
   ∃o es ep,h.get? a=some o∧o.ExactDict∧o.data= .dict es ep∧es.toList=xs.map (entryOfKey (tupleKind (bz P w)))∧(xs.map 1e8).Nodup
 | .set S n=>h.SetOf (intKind P w) a S n
 | .ins C dx fs=>H dx=some (.own a)∧fs.length≤1000∧dx≠a∧h.get? a=some (PySem.W.instObj C dx)∧
   ∃mA,h.Ns1 dx mA∧(∀f,hX (fs.lookup f) (mA f))∧PySem.Within mA (fs.map 1e8)
 | .own _=>∃o,h.get? a=some o
 | .xd fs=>∃mA,h.Ns1 a mA∧∀f,hX (fs.lookup f) (mA f)
 | .rng lo hi=>∃t u v,h.get? a=some { cls:= .type "range",data:= .fields #[.int lo t, .int hi u, .int 1 v] }
 | .dX o u=>h.get? a=some o∧cf H h a u
 | .Pl ps=>h.get? a=some { cls:= .none,data:= .fields ps }
 | .met f x=>h.get? a=some (PySem.W.methodObj (.ref f) (.ref x))
 | .ext φ=>φ h∧(∃o,h.get? a=some o)∧∀h1 h2:Heap,φ h1→(∀o,h1.get? a=some o→h2.get? a=some o)→φ h2
def kj(H:Hp)(h:Heap):Prop:=∀a o,H a=some o→cf P w H h a o
end
section
variable {P:Program}{w:World}{H H':Hp}{h h':Heap}{a:3e5}{o:HO}
theorem cf.lt(x:cf P w H h a o):a<h.objs.size:=by
 cases o with
 |lst xs=>obtain⟨_,_,_,_,e⟩:=x;exact Heap.lt_size e
 |tup xs=>obtain⟨_,_,_,p⟩:=x;exact p.lt
 |dK kvs=>obtain⟨_,_,_,_,o,_,_,e,_⟩:=x;exact Heap.lt_size e
 |dT kvs=>obtain⟨_,_,_,_,o,_,_,e,_⟩:=x;exact Heap.lt_size e
 |set S n=>obtain⟨o,_,_,_,e,_⟩:=x;exact Heap.lt_size e
 |ins C dx fs=>obtain⟨_,_,_,e,_⟩:=x;exact Heap.lt_size e
 |own y=>obtain⟨_,e⟩:=x;exact Heap.lt_size e
 |xd fs=>obtain⟨_,⟨_,_,_,e,_⟩,_⟩:=x;exact Heap.lt_size e
 |rng lo hi=>obtain⟨_,_,_,e⟩:=x;exact Heap.lt_size e
 |dX ob u=>obtain⟨e,_⟩:=x;exact Heap.lt_size e
 |Pl ps=>exact Heap.lt_size (show h.get? a=some _ from x)
 |met f y=>exact Heap.lt_size (show h.get? a=some _ from x)
 |ext φ=>obtain⟨_,⟨_,e⟩,_⟩:=x;exact Heap.lt_size e
theorem Paired.QU{α β:Type}{F G:α→β→Prop}:∀{l₁:List α} {l₂:List β},Paired F l₁ l₂→(∀a b,F a b→G a b)→Paired G l₁ l₂
 |_,_, .nil,_=> .nil
 |_,_, .cons r t,f=> .cons (f _ _ r) (Paired.QU t f)
def cf.rp(x:cf P w H h a o)(k:∀b u,(b=a∨H b=some (.own a))→h.get? b=some u→h'.get? b=some u)
  (ho:∀b,H b=some (.own a)→H' b=some (.own a)) (ht:∀b xs,H b=some (.tup xs)→H' b=some (.tup xs)):cf P w H' h' a o:=by
 induction o with
 |lst xs=>obtain⟨z,its,n,r,e⟩:=x;exact⟨z,its,n,r,k _ _ (.inl rfl) e⟩
 |tup xs=>obtain⟨z,its,r,ob,e,c⟩:=x;exact⟨z,its,r,ob,k _ _ (.inl rfl) e,c⟩
 |dK kvs=>obtain⟨z,y,vs,r,ob,es,ep,e,c⟩:=x;exact⟨z,y,vs,r,ob,es,ep,k _ _ (.inl rfl) e,c⟩
 |dT kvs=>
  obtain⟨z,y,xs,r,ob,es,ep,e,c⟩:=x;exact⟨z,y,xs,Paired.QU r λp q z=>⟨z.1,ht _ _ z.2.1,z.2.2⟩,ob,es,ep,k _ _ (.inl rfl) e,c⟩
 |set S n=>obtain⟨ob,es,ep,t,e,c⟩:=x;exact⟨ob,es,ep,t,k _ _ (.inl rfl) e,c⟩
 |ins C dx fs=>
  obtain⟨d,z,ne,e,mA,⟨od,es,ep,e2,c⟩,r⟩:=x;exact⟨ho _ d,z,ne,k _ _ (.inl rfl) e,mA,⟨od,es,ep,k _ _ (.inr d) e2,c⟩,r⟩
 |own y=>obtain⟨ob,e⟩:=x;exact⟨ob,k _ _ (.inl rfl) e⟩
 |xd fs=>obtain⟨mA,⟨od,es,ep,e,c⟩,r⟩:=x;exact⟨mA,⟨od,es,ep,k _ _ (.inl rfl) e,c⟩,r⟩
 |rng lo hi=>obtain⟨t,u,v,e⟩:=x;exact⟨t,u,v,k _ _ (.inl rfl) e⟩
 |dX ob u ih=>obtain⟨e,q⟩:=x;exact⟨k _ _ (.inl rfl) e,ih q⟩
 |Pl ps=>
  have e:h.get? a=some { cls:= .none,data:= .fields ps }:=x;show h'.get? a=some { cls:= .none,data:= .fields ps };exact k a _ (.inl rfl) e
 |met f y=>
  have e:h.get? a=some (PySem.W.methodObj (.ref f) (.ref y)):=x;show h'.get? a=some (PySem.W.methodObj (.ref f) (.ref y));exact k a _ (.inl rfl) e
 |ext φ=>obtain⟨p,⟨o,e⟩,st⟩:=x;exact⟨st _ _ p λo q=>k _ _ (.inl rfl) q,⟨o,k _ _ (.inl rfl) e⟩,st⟩
theorem kj.lt(x:kj P w H h)(e:H a=some o):a<h.objs.size:=(x a o e).lt
def kj.fresh(x:kj P w H h)(e:h.objs.size≤a):H a=none:=by
 cases q:H a with
 |none=>rfl
 |some u=>exact absurd (lt_of_lt_of_le (x.lt q) e) (lt_irrefl _)
def kj.kept(x:kj P w H h)(k:∀b u,h.get? b=some u→h'.get? b=some u):kj P w H h':=λa o e=>
 (x a o e).rp (λb u _ q=>k b u q) (λ_ q=>q) λ_ _ q=>q
def kj.laid(x:kj P w H h)(k:∀b u,h.get? b=some u→h'.get? b=some u)(hp:h.objs.size≤a)(new:cf P w (upd H a o) h' a o):kj P w (upd H a o) h':=λb u e=>by
 have hn:=x.fresh hp;by_cases hb:b=a
 ·subst hb;rw[aa] at e;cases e;exact new
 ·rw[ah hb] at e;exact(x b u e).rp (λc v _ q=>k c v q) (λc q=>by rw[ah (af q hn)];exact q) λc xs q=>by rw[ah (af q hn)];exact q
end
def Rd(H:Hp)(a:3e5)(u:HO):Prop:=H a=some u∨∃o,H a=some (.dX o u)
def Rd.ok(r:Rd H a u)(x:kj P w H h):cf P w H h a u:=by
 rcases r with r| ⟨o,r⟩
 ·exact x a u r
 ·obtain⟨_,q⟩:=x a _ r;exact q
def Vz:Option HO→Prop
 |some (.lst _)=>True
 |some (.dK _)=>True
 |some (.dT _)=>True
 |some (.set _ _)=>True
 |some (.ins _ _ _)=>True
 |some (.ext _)=>True
 |_=>False
section
variable {P:Program}{w:World}{H:Hp}{h h':Heap}{x e:3e5}{o':HO}
def kj.write(ok:kj P w H h)(mu:Vz (H x))(he:e=x∨H e=some (.own x))(k:∀b u,b≠e→h.get? b=some u→h'.get? b=some u)(UR:∃u,h'.get? e=some u)
  (new:cf P w (upd H x o') h' x o'):kj P w (upd H x o') h':=λb u q=>by
 have VA:∀c y,H c=some (.own y)→c≠x:=λc y r z=>by subst z;rw[r] at mu;exact mu
 have ntup:∀c xs,H c=some (.tup xs)→c≠x:=λc xs r z=>by subst z;rw[r] at mu;exact mu
 by_cases hb:b=x
 ·subst hb;rw[aa] at q;cases q;exact new
 ·rw[ah hb] at q;by_cases QV:b=e
  ·have q':H b=some (.own x):=by
    rcases he with z|z
    ·exact absurd (QV.trans z) hb
    ·rw[QV];exact z
   rw[q] at q';cases q';obtain⟨v,hv⟩:=UR;exact⟨v,by rw[QV];exact hv⟩
  ·refine(ok b u q).rp (λc v hc r=>k c v ?_ r) (λc r=>by rw[ah (VA c b r)];exact r) λc xs r=>by rw[ah (ntup c xs r)];exact r
   rcases hc with rfl|hc
   ·exact QV
   ·rintro rfl;rcases he with z|z
    ·exact VA c b hc z
    ·rw[hc] at z;cases z;exact hb rfl
end
structure Un(fs ex:List Addr)(H H':Hp)(h h':Heap):Prop where
 keep:∀b o,h.get? b=some o→H b=none→b∉fs→b∉ex→h'.get? b=some o
 slot:∀b o,h.get? b=some o→H b=none→b∈fs→b∉ex→∃sl,h'.get? b=some { o with slots:=sl }
 free:∀b o,h.get? b=some o→H b=none→b∉ex→H' b=none
 there:∀b o,h.get? b=some o→b∉ex→∃o',h'.get? b=some o'
 oO:∀b xs,H b=some (.tup xs)→H' b=some (.tup xs)
 oP:∀b o u,H b=some (.dX o u)→H' b=some (.dX o u)
 oQ:∀b ps,H b=some (.Pl ps)→∃more,H' b=some (.Pl (ps++more))
section
variable {fs Mh ex VB:List Addr}{H H1 H2:Hp}{h h1 h2 h':Heap}{a x e:3e5}{o:HO}
def Un.any(u:Un fs ex H H1 h h1)(q:h.get? b=some ob)(n:H b=none)(hx:b∉ex):∃sl,h1.get? b=some { ob with slots:=sl }:=by
 by_cases hb:b∈fs
 ·exact u.slot b ob q n hb hx
 ·exact⟨ob.slots,u.keep b ob q n hb hx⟩
def Un.kept(k:∀b u,h.get? b=some u→h'.get? b=some u):Un fs ex H H h h':=
 ⟨λb ob q _ _ _=>k b ob q,λb ob q _ _ _=>⟨ob.slots,k b ob q⟩,λ_ _ _ n _=>n,λb ob q _=>⟨ob,k b ob q⟩,λ_ _ q=>q,λ_ _ _ q=>q,λ_ ps q=>⟨#[],by rw[q];simp⟩⟩
def Un.refl:Un fs ex H H h h:=Un.kept λ_ _ q=>q
def Un.laid(k:∀b u,h.get? b=some u→h'.get? b=some u)(hp:h.objs.size≤a)(hn:H a=none):Un fs ex H (upd H a o) h h' where
 keep:=λb u q _ _ _=>k b u q
 slot:=λb u q _ _ _=>⟨u.slots,k b u q⟩
 free:=λb u q n _=>by rw[ah (ne_of_lt (lt_of_lt_of_le (Heap.lt_size q) hp))];exact n
 there:=λb u q _=>⟨u,k b u q⟩
 oO:=λb xs q=>by rw[ah (af q hn)];exact q
 oP:=λb u xs q=>by rw[ah (af q hn)];exact q
 oQ:=λb ps q=>⟨#[],by rw[ah (af q hn),q];simp⟩
def Un.write(mu:Vz (H x))(he:e=x∨H e=some (.own x))(k:∀b u,b≠e→h.get? b=some u→h'.get? b=some u)(UR:∃u,h'.get? e=some u):Un fs ex H (upd H x o) h h':=by
 have hx:∀b,H b=none→b≠x:=λb n z=>by subst z;rw[n] at mu;exact mu
 have hb:∀b,H b=none→b≠e:=λb n z=>by
  subst z;rcases he with r|r
  ·exact hx b n r
  ·rw[n] at r;cases r
 have hm:∀b u,H b=some u→¬Vz (some u)→b≠x:=λb u q nm z=>by subst z;rw[q] at mu;exact nm mu
 refine⟨λb u q n _ _=>k b u (hb b n) q,λb u q n _ _=>⟨u.slots,k b u (hb b n) q⟩,λb u q n _=>by rw[ah (hx b n)];exact n,λb u q _=>?_,
  λb xs q=>by rw[ah (hm b _ q λz=>z)];exact q,λb u xs q=>by rw[ah (hm b _ q λz=>z)];exact q,λb ps q=>⟨#[],by rw[ah (hm b _ q λz=>z),q];simp⟩⟩
 by_cases QV:b=e
 ·subst QV;exact UR
 ·exact⟨u,k b u QV q⟩
end
noncomputable def trk(h:Heap)(H:Hp):List Addr:=(List.range h.objs.size).filter λa=>(H a).isSome
def wQ(h:Heap)(H:Hp):Heap:=PySem.W.hideAll h (trk h H)
def E4(h:Heap)(H:Hp):(wQ h H).objs.size=h.objs.size:=PySem.W.hideAll_size _ _
def Hs(e:h.get? b=some o)(n:H b=none):(wQ h H).get? b=some o:=
 PySem.W.hideAll_get _ e λhm=>by
  have q:(H b).isSome=true:=(mem_filter.mp hm).2;rw[n] at q;simp at q
def Mi(e:(wQ h H).get? b=some o):h.get? b=some o∧H b=none:=by
 have e':h.get? b=some o:=PySem.W.of_hideAll (trk h H) e;refine⟨e',?_⟩
 cases q:H b with
 |none=>rfl
 |some x=>
  have hm:b∈trk h H:=mem_filter.mpr ⟨List.mem_range.mpr (Heap.lt_size e'),by simp [q]⟩;have z:(wQ h H).get? b=none:=PySem.W.hideAll_none (trk h H) hm;rw[z] at e;cases e
noncomputable def Mj(g h:Heap)(L:3e5):List (Addr×Obj):=(List.range h.objs.size).filterMap λa=>if a=L∨(g.get? a).isSome=true then none else (h.get? a).map λo=>(a,o)
noncomputable def rest(g h:Heap)(L d:3e5):List (Addr×Obj):=(Mj g h L).filter λp=>decide (p.1≠d)
end L2
namespace L2
open PySem PySem.Spec PyProof.Rows
structure Mod(K:0e9)(mg:1e3)(base:Heap):Prop where
 gz:K.In base
 glob:base.Ns mainGlobals mg
 blt:∃mb,base.Ns builtinsNs mb∧∀x:Str,x≠"__name__" →mb x=bootBuiltins x
 nolimit:base.NoLimit
structure Cx where
 prog:Program
 w:World
 K:PySem.W.Frag
 mg:Str→Option Value
 base:Heap
 A:Around
 N:List Str
 s₀:Shared
 H₀:Hp
 env:Env
 outer:List Env
 stack:List Env
 ex:List Addr
 fn:Str→Bool
 calm:Bool
 pn:List (Addr×Obj)
 xe:Value→Shared→Prop
def uw(l:List Env):List Addr:=l.filterMap (·.frame)
abbrev Cx.fs(X:Cx):List Addr:=uw X.outer
def Vis(sc:Scope)(x:Str):Prop:=sc.names.lookup x=some .local∨sc.names.lookup x=some .cell∨sc.names.lookup x=some .free
def Loc(sc:Scope)(x:Str):Prop:=sc.names.lookup x=some .local∨sc.names.lookup x=some .cell
def Look(env:Env)(h:Heap)(m:1e3)(x:Str)(u:Value):Prop:=
 (env.kindOf x=some .local∧m x=some u)∨((env.kindOf x=some .cell∨env.kindOf x=some .free)∧∃c,env.cells.lookup x=some c∧h.IsCell c (some u))
structure Cx.Ok(X:Cx):Prop where
 mod:Mod X.K X.mg X.base
 kind:X.env.scope.kind= .function
 glob:X.env.globals=mainGlobals
 blt:X.env.builtins=builtinsNs
 above:X.s₀.heap.objs.size≤X.env.locals
 inj:∀x y c,X.env.cells.lookup x=some c→X.env.cells.lookup y=some c→x=y
 has:∀x,(X.env.kindOf x=some .cell∨X.env.kindOf x=some .free)→∃c,X.env.cells.lookup x=some c
 Ml:∀x c,X.fn x=true→X.env.cells.lookup x=some c→X.s₀.heap.objs.size≤c
 hd:X.calm=true→X.A.handled=none
 frames:X.A.frames=some X.stack
 Po:X.stack=X.outer∨(X.stack=X.env::X.outer∧X.env.frame=some X.env.locals)
 US:∀b∈X.ex,b≠X.env.locals∧∀x c,X.env.cells.lookup x=some c→c≠b
 bs:∀b o,X.base.get? b=some o→X.s₀.heap.get? b=some o∧X.H₀ b=none
 E5:X.base.objs.size≤X.s₀.heap.objs.size
 wR:∀b o,X.base.get? b=some o→b∉X.ex
 ux:∀b∈X.ex,b∉X.fs
 lZ:X.s₀.heap.FunFrames X.base X.outer
 Ht:∀b∈X.fs,X.H₀ b=none
structure Inv(X:Cx)(pins:1e4)(σ:List (Option V))(H:Hp)(s:Shared):Prop where
 ok:X.Ok
 os:s.os=X.s₀.os
 bare:AllBare s.gens
 base:Un X.fs X.ex X.H₀ H X.s₀.heap s.heap
 loc:∃m,s.heap.Ns X.env.locals m∧∀(i:Nat) (x:Str) (v:V),X.N[i]? =some x→σ[i]? =some (some v)→Vis X.env.scope x→∃u,RelV v u∧Look X.env s.heap m x u
 cell:∀x c,X.env.cells.lookup x=some c→∃v,s.heap.IsCell c v
 free:H X.env.locals=none
 gF:∀x c,X.env.cells.lookup x=some c→H c=none
 pin:∀p∈X.pn++pins,s.heap.get? p.1=some p.2∧H p.1=none∧p.1≠X.env.locals∧p.1∉X.fs∧∀v,p.2.data≠ .cell v
 aM:kj X.prog X.w H s.heap
 len:σ.length=X.N.length
section
variable {X:Cx}{pins:1e4}{σ:List (Option V)}{H H':Hp}{s:Shared}{h':Heap}
def Cx.Ok.nofr(ok:X.Ok)(e:X.base.get? b=some o):b∉X.fs:=λhb=>by
 have:=(ok.lZ.mem hb).1;rw[e] at this;cases this
theorem Inv.bs(I:1e1):∀b o,X.base.get? b=some o→s.heap.get? b=some o∧H b=none:=λb o e=>
 ⟨I.base.keep b o (I.ok.bs b o e).1 (I.ok.bs b o e).2 (I.ok.nofr e) (I.ok.wR b o e),I.base.free b o (I.ok.bs b o e).1 (I.ok.bs b o e).2 (I.ok.wR b o e)⟩
def Inv.bk(I:1e1):∀b o,X.base.get? b=some o→s.heap.get? b=some o:=λb o e=>(I.bs b o e).1
theorem Inv.mod(I:1e1):Mod X.K X.mg X.base:=I.ok.mod
def Inv.ju(I:1e1):X.K.In s.heap:=I.ok.mod.gz.keeps I.bk
theorem Inv.lt(I:1e1):X.env.locals<s.heap.objs.size:=let ⟨_,hn,_⟩:=I.loc;hn.lt
def Inv.sz(I:1e1):X.s₀.heap.objs.size≤s.heap.objs.size:=le_trans I.ok.above (le_of_lt I.lt)
def Inv.nofs(I:1e1)(h:s.heap.objs.size≤a):a∉X.fs:=λhb=>by
 obtain⟨_,o,ho,_⟩:=I.ok.lZ.mem hb;exact absurd (lt_of_lt_of_le (Heap.lt_size ho) (le_trans I.sz h)) (lt_irrefl _)
def Inv.Mm(I:1e1):∀x c,X.env.cells.lookup x=some c→c≠X.env.locals:=λx c e z=>by
 obtain⟨v,o,ho,hd⟩:=I.cell x c e;obtain⟨m,⟨o',es,ep,yR,iL,_⟩,_⟩:=I.loc;rw[z,yR] at ho;cases ho;rw[iL] at hd;cases hd
theorem Inv.lZ(I:1e1):s.heap.FunFrames X.base X.outer:=by
 have all:∀(l:List Env),(∀b∈uw l,b∈X.fs)→X.s₀.heap.FunFrames X.base l→s.heap.FunFrames X.base l:=by
  intro l
  induction l with
  |nil=>intro _ _;trivial
  |cons env r ih=>
   intro hs hl;obtain⟨hk,⟨L,o,hf,hn,ho,hd⟩,hr⟩:=hl;have hL:L∈X.fs:=hs L (by unfold uw;rw[filterMap_cons,hf];exact mem_cons_self);obtain⟨sl,e⟩:=I.base.slot L o ho (I.ok.Ht L hL) hL λz=>I.ok.ux L z hL;exact⟨hk,⟨L,_,hf,hn,e,hd⟩,ih (λb hb=>hs b (by unfold uw;rw[filterMap_cons,hf];exact mem_cons_of_mem _ hb)) hr⟩
 exact all X.outer (λ_ hb=>hb) I.ok.lZ
theorem Inv.stack(I:1e1):s.heap.FunFrames X.base X.stack:=by
 rcases I.ok.Po with e| ⟨e,hf⟩
 ·rw[e];exact I.lZ
 ·rw[e];obtain⟨m,hn,_⟩:=I.loc;refine .cons (by rw[I.ok.kind];decide) hf hn ?_ I.lZ;exact Heap.get?_none_of_le (le_trans I.ok.E5 I.ok.above)
def Inv.wU(I:1e1):∀b∈uw X.stack,b∈X.env.locals::X.fs:=λb hb=>by
 rcases I.ok.Po with e| ⟨e,hf⟩
 ·rw[e] at hb;exact mem_cons_of_mem _ hb
 ·rw[e] at hb;unfold uw at hb;rw[filterMap_cons,hf] at hb;exact hb
def Inv.wV(I:1e1):∀b∈uw X.stack,H b=none:=λb hb=>by
 rcases mem_cons.mp (I.wU b hb) with e|hb
 ·rw[e];exact I.free
 ·obtain⟨_,o,ho,_⟩:=I.ok.lZ.mem hb;exact I.base.free b o ho (I.ok.Ht b hb) λz=>I.ok.ux b z hb
def Inv.step{g':Array GenState}{t':Nat}{d':Drawn}{ch:List Addr}(I:1e1)
  (Hc:∀b∈ch,(b∈X.ex∨X.s₀.heap.objs.size≤b)∧b≠X.env.locals∧(∀x c,X.env.cells.lookup x=some c→c≠b)∧∀p∈X.pn++pins,p.1≠b)
  (keep:∀b o,b≠X.env.locals→b∉X.fs→b∉ch→s.heap.get? b=some o→H b=none→h'.get? b=some o)
  (slot:∀b o,b≠X.env.locals→b∈X.fs→b∉ch→s.heap.get? b=some o→H b=none→∃sl,h'.get? b=some { o with slots:=sl }) (free:∀b o,b∉ch→s.heap.get? b=some o→H b=none→H' b=none)
  (there:∀b o,b∉ch→s.heap.get? b=some o→∃o',h'.get? b=some o')
  (oO:∀b xs,H b=some (.tup xs)→H' b=some (.tup xs)) (oP:∀b o u,H b=some (.dX o u)→H' b=some (.dX o u)) (oQ:∀b ps,H b=some (.Pl ps)→∃more,H' b=some (.Pl (ps++more)))
  (ns:∀m,s.heap.Ns X.env.locals m→h'.Ns X.env.locals m) (aM:kj X.prog X.w H' h') (hg:AllBare g'):
  Inv X pins σ H' { s with heap:=h',gens:=g',drawn:=d',toks:=t' }:=by
 have VC:∀b o,X.s₀.heap.get? b=some o→b≠X.env.locals:=λb o e=>ne_of_lt (lt_of_lt_of_le (Heap.lt_size e) I.ok.above)
 have UT:∀b o,X.s₀.heap.get? b=some o→b∉X.ex→b∉ch:=λb o e hx hb=>by
  rcases (Hc b hb).1 with z|z
  ·exact hx z
  ·exact absurd (lt_of_lt_of_le (Heap.lt_size e) z) (lt_irrefl _)
 have cellK:∀x c,X.env.cells.lookup x=some c→∀v,s.heap.IsCell c v→h'.IsCell c v:=λx c e v ⟨o,ho,hd⟩=>by
  have Hu:c∉ch:=λz=>(Hc c z).2.2.1 x c e rfl;by_cases hc:c∈X.fs
  ·obtain⟨sl,q⟩:=slot c o (I.Mm x c e) hc Hu ho (I.gF x c e);exact⟨_,q,hd⟩
  ·exact⟨o,keep c o (I.Mm x c e) hc Hu ho (I.gF x c e),hd⟩
 refine⟨I.ok,I.os,hg,⟨λb o e n hb hx=>?_,λb o e n hb hx=>?_,λb o e n hx=>?_,λb o e hx=>?_,λb xs e=>oO b xs (I.base.oO b xs e),λb o xs e=>oP b o xs (I.base.oP b o xs e),λb ps e=>?_⟩,?_,λx c e=>?_,?_,λx c e=>?_,λp hp=>?_,aM,I.len⟩
 ·exact keep b o (VC b o e) hb (UT b o e hx) (I.base.keep b o e n hb hx) (I.base.free b o e n hx)
 ·obtain⟨sl,e1⟩:=I.base.slot b o e n hb hx;obtain⟨QW,e2⟩:=slot b _ (VC b o e) hb (UT b o e hx) e1 (I.base.free b o e n hx);exact⟨QW,e2⟩
 ·obtain⟨o',e1⟩:=I.base.there b o e hx;exact free b o' (UT b o e hx) e1 (I.base.free b o e n hx)
 ·obtain⟨o',e1⟩:=I.base.there b o e hx;exact there b o' (UT b o e hx) e1
 ·obtain⟨m1,e1⟩:=I.base.oQ b ps e;obtain⟨m2,e2⟩:=oQ b _ e1;exact⟨m1++m2,by rw[e2,Array.append_assoc]⟩
 ·obtain⟨m,hn,hl⟩:=I.loc;refine⟨m,ns m hn,λi x v e1 e2 e3=>?_⟩;obtain⟨u,r,l⟩:=hl i x v e1 e2 e3;refine⟨u,r,?_⟩;rcases l with l| ⟨k,c,e,z⟩
  ·exact .inl l
  ·exact .inr ⟨k,c,e,cellK x c e _ z⟩
 ·obtain⟨v,z⟩:=I.cell x c e;exact⟨v,cellK x c e v z⟩
 ·obtain⟨m,⟨o,_,_,ho,_⟩,_⟩:=I.loc;exact free _ o (λz=>(Hc _ z).2.1 rfl) ho I.free
 ·obtain⟨v,o,ho,hd⟩:=I.cell x c e;exact free c o (λz=>(Hc c z).2.2.1 x c e rfl) ho (I.gF x c e)
 ·obtain⟨e,n,ne,nf,d⟩:=I.pin p hp;have Hu:p.1∉ch:=λz=>(Hc p.1 z).2.2.2 p hp rfl;exact⟨keep p.1 p.2 ne nf Hu e n,free p.1 p.2 Hu e n,ne,nf,d⟩
def Inv.un{t':Nat}(I:1e1)(u:Un X.fs [] H H' s.heap h')(aM:kj X.prog X.w H' h'):Inv X pins σ H' { s with heap:=h',toks:=t' }:=by
 obtain⟨m,⟨o,es,ep,ho,r⟩,_⟩:=id I.loc;obtain⟨sl,hL⟩:=u.any ho I.free 2e9
 exact I.step (g':=s.gens) (d':=s.drawn) (ch:=[]) (λ_ z=>nomatch z) (λb o _ hb _ e n=>u.keep b o e n hb 2e9) (λb o _ hb _ e n=>u.slot b o e n hb 2e9) (λb o _ e n=>u.free b o e n 2e9) (λb o _ e=>u.there b o e 2e9) u.oO u.oP u.oQ (λm' hm=>by
  obtain⟨o',UU,UW,yR,r'⟩:=hm;rw[ho] at yR;cases yR
  exact⟨_,UU,UW,hL,r'⟩) aM I.bare
def Inv.call{g':Array GenState}{t':Nat}{d':Drawn}{ch:List Addr}(I:1e1)(u:Un (uw X.stack) ch H H' s.heap h')(aM:kj X.prog X.w H' h')(hg:AllBare g')
  (Hc:∀b∈ch,(b∈X.ex∨X.s₀.heap.objs.size≤b)∧b≠X.env.locals∧(∀x c,X.env.cells.lookup x=some c→c≠b)∧∀p∈X.pn++pins,p.1≠b):
  Inv X pins σ H' { s with heap:=h',gens:=g',drawn:=d',toks:=t' }:=by
 obtain⟨m,⟨o,es,ep,ho,r⟩,_⟩:=id I.loc;obtain⟨sl,hL⟩:=u.any ho I.free λz=>(Hc _ z).2.1 rfl
 exact I.step (ch:=ch) Hc (λb o hL hb hc e n=>u.keep b o e n (λz=>(mem_cons.mp (I.wU b z)).elim hL hb) hc) (λb o _ _ hc e n=>u.any e n hc) (λb o hc e n=>u.free b o e n hc) (λb o hc e=>u.there b o e hc) u.oO u.oP u.oQ (λm' hm=>by
  obtain⟨o',UU,UW,yR,r'⟩:=hm;rw[ho] at yR;cases yR
  exact⟨_,UU,UW,hL,r'⟩) aM hg
def Inv.turned{t':Nat}(I:1e1)(k:∀b o,b≠it→s.heap.get? b=some o→h'.get? b=some o)(hn:H it=none)(hL:it≠X.env.locals)(h1:it∈X.ex∨X.s₀.heap.objs.size≤it) (h2:∀x c,X.env.cells.lookup x=some c→c≠it) (h3:∀p∈X.pn++pins,p.1≠it):Inv X pins σ H { s with heap:=h',toks:=t' }:=by
 have nit:∀b u,H b=some u→b≠it:=λb u e z=>by rw[z,hn] at e;cases e
 refine I.step (g':=s.gens) (d':=s.drawn) (ch:=[it]) (λb hb=>?_) (λb o _ _ hc e _=>k b o (λz=>hc (by simp [z])) e) (λb o _ _ hc e _=>⟨o.slots,k b o (λz=>hc (by simp [z])) e⟩) (λ_ _ _ _ n=>n)
  (λb o hc e=>⟨o,k b o (λz=>hc (by simp [z])) e⟩) (λ_ _ e=>e) (λ_ _ _ e=>e) (λb ps e=>⟨#[],by rw[e];simp⟩) (λm hm=>?_) (λb u e=>?_) I.bare
 ·have e:b=it:=by simpa using hb
  subst e;exact⟨h1,hL,h2,h3⟩
 ·obtain⟨o,es,ep,ho,r⟩:=hm;exact⟨o,es,ep,k _ o (Ne.symm hL) ho,r⟩
 ·refine(I.aM b u e).rp (λc v hc q=>k c v ?_ q) (λ_ q=>q) λ_ _ q=>q;rcases hc with z|z
  ·rw[z];exact nit b u e
  ·exact nit c _ z
def Inv.tok(I:1e1)(t:Nat):Inv X pins σ H { s with toks:=t }:=I.un (h':=s.heap) (t':=t) Un.refl I.aM
theorem Inv.kept{t':Nat}(I:1e1)(k:∀b u,s.heap.get? b=some u→h'.get? b=some u):Inv X pins σ H { s with heap:=h',toks:=t' }:=I.un (Un.kept k) (I.aM.kept k)
theorem Inv.laid{t':Nat}(I:1e1)(k:∀b u,s.heap.get? b=some u→h'.get? b=some u)(hp:s.heap.objs.size≤a)(new:cf X.prog X.w (upd H a o) h' a o):
  Inv X pins σ (upd H a o) { s with heap:=h',toks:=t' }:=I.un (Un.laid k hp (I.aM.fresh hp)) (I.aM.laid k hp new)
theorem Inv.write{t':Nat}(I:1e1)(mu:Vz (H x))(he:e=x∨H e=some (.own x))(k:∀b u,b≠e→s.heap.get? b=some u→h'.get? b=some u)(UR:∃u,h'.get? e=some u)(new:cf X.prog X.w (upd H x o) h' x o):Inv X pins σ (upd H x o) { s with heap:=h',toks:=t' }:=I.un (Un.write mu he k UR) (I.aM.write mu he k UR new)
def Inv.wW{Pp:1e4}(I:1e1)(h:∀p∈Pp,s.heap.get? p.1=some p.2∧H p.1=none∧p.1≠X.env.locals∧p.1∉X.fs∧∀v,p.2.data≠ .cell v):Inv X Pp σ H s:=
 ⟨I.ok,I.os,I.bare,I.base,I.loc,I.cell,I.free,I.gF,λp hp=>(mem_append.mp hp).elim (λz=>I.pin p (mem_append_left _ z)) (h p),I.aM,I.len⟩
def rq{N:3e8}(hN:N.Nodup){i j:Nat}{x:Str}(a:N[i]? =some x)(b:N[j]? =some x):i=j:=by
 obtain⟨h1,e1⟩:=List.getElem?_eq_some_iff.mp a;obtain⟨h2,e2⟩:=List.getElem?_eq_some_iff.mp b;exact(List.getElem_inj hN).mp (e1.trans e2.symm)
def oR{M:Model}{A:Around}{E:0e3}{i:Nat}{x:Str}{v:V}{u:Value}{Q:Unit→Shared→Prop}(I:1e1)(hN:X.N.Nodup)(hi:X.N[i]? =some x)(hx:Loc X.env.scope x)(r:RelV v u)
  (h:∀s',Inv X pins (σ.set i (some v)) H s'→(∃a,Heap.SameBut a s.heap s'.heap∧(a=X.env.locals∨X.env.cells.lookup x=some a))→Q () s') (hf:X.fn x=true∨X.env.scope.names.lookup x=some .local:=by first|exact .inl rfl|exact .inr rfl|assumption):wpAny M A (storeName X.env x u) Q E s:=by
 obtain⟨m,hn,hl⟩:=id I.loc;have QX:(X.env.scope.kind== .class||(X.env.scope.kind== .module&&X.env.locals != X.env.globals))=false:=by rw[I.ok.kind];rfl
 have hiσ:i<σ.length:=by rw[I.len];exact(List.getElem?_eq_some_iff.mp hi).1
 have Mm:=I.Mm
 have tracked:∀{a:3e5} {h':Heap},(∃o,s.heap.get? a=some o∧H a=none)→Heap.SameBut a s.heap h'→kj X.prog X.w H h':=fun {a h'} ha hs b ob e=>by
  obtain⟨_,_,Pq⟩:=ha;refine(I.aM b ob e).rp (λc w' hc q=>(hs.2 c ?_).trans q) (λ_ q=>q) λ_ _ q=>q;rintro rfl;rcases hc with rfl|hc
  ·rw[Pq] at e;cases e
  ·rw[Pq] at hc;cases hc
 rcases hx with hk|hk
 ·refine wpAny_storeName_local hk hn (λh' QY hs=>?_) QX;obtain⟨oL,_,_,LZ,_⟩:=id hn;refine h _ ⟨I.ok,I.os,I.bare,⟨λb o e n hb hx=>?_,λb o e n hb hx=>?_,I.base.free,λb o e hx=>?_,I.base.oO,I.base.oP,I.base.oQ⟩,⟨_,QY,λj y v' e1 e2 e3=>?_⟩,λy c e=>?_,I.free,I.gF,λp hp=>?_,tracked ⟨oL,LZ,I.free⟩ hs,by simpa using I.len⟩ ⟨_,hs, .inl rfl⟩
  ·exact(hs.2 b (ne_of_lt (lt_of_lt_of_le (Heap.lt_size e) I.ok.above))).trans (I.base.keep b o e n hb hx)
  ·obtain⟨sl,e1⟩:=I.base.slot b o e n hb hx;exact⟨sl,(hs.2 b (ne_of_lt (lt_of_lt_of_le (Heap.lt_size e) I.ok.above))).trans e1⟩
  ·obtain⟨o',e1⟩:=I.base.there b o e hx;exact⟨o',(hs.2 b (ne_of_lt (lt_of_lt_of_le (Heap.lt_size e) I.ok.above))).trans e1⟩
  ·by_cases hj:j=i
   ·subst hj;rw[hi] at e1;cases e1;rw[List.getElem?_set_self hiσ] at e2;cases e2;exact⟨u,r, .inl ⟨hk,by simp⟩⟩
   ·rw[getElem?_set_ne (Ne.symm hj)] at e2;obtain⟨u',r',q⟩:=hl j y v' e1 e2 e3;refine⟨u',r',?_⟩;rcases q with ⟨k,e⟩ | ⟨k,c,e,z⟩
    ·refine .inl ⟨k,?_⟩;have:y≠x:=λe=>hj (rq hN e1 (e▸hi));simp [this,e]
    ·exact .inr ⟨k,c,e,z.sameBut hs (Mm y c e)⟩
  ·obtain⟨w',z⟩:=I.cell y c e;exact⟨w',z.sameBut hs (Mm y c e)⟩
  ·obtain⟨e,n,ne,nf,d⟩:=I.pin p hp;exact⟨(hs.2 p.1 ne).trans e,n,ne,nf,d⟩
 ·have hfn:X.fn x=true:=by
   rcases hf with z|z
   ·exact z
   ·rw[z] at hk;cases hk
  obtain⟨c,hc⟩:=I.ok.has x (.inl hk);obtain⟨w',z⟩:=I.cell x c hc;refine wpAny_storeName_cell I.ok.kind hk hc z (λh' L0 hs=>?_);obtain⟨oc,hoc,hocd⟩:=id z;refine h { s with heap:=h' } ⟨I.ok,I.os,I.bare,⟨λb o e n hb hx=>?_,λb o e n hb hx=>?_,I.base.free,λb o e hx=>?_,I.base.oO,I.base.oP,I.base.oQ⟩,⟨m,hn.sameBut hs (Ne.symm (Mm x c hc)),λj y v' e1 e2 e3=>?_⟩,λy c' e=>?_,I.free,I.gF,λp hp=>?_,tracked ⟨oc,hoc,I.gF x c hc⟩ hs,by simpa using I.len⟩ ⟨c,hs, .inr hc⟩
  ·exact(hs.2 b (ne_of_lt (lt_of_lt_of_le (Heap.lt_size e) (I.ok.Ml x c hfn hc)))).trans (I.base.keep b o e n hb hx)
  ·obtain⟨sl,e1⟩:=I.base.slot b o e n hb hx;exact⟨sl,(hs.2 b (ne_of_lt (lt_of_lt_of_le (Heap.lt_size e) (I.ok.Ml x c hfn hc)))).trans e1⟩
  ·obtain⟨o',e1⟩:=I.base.there b o e hx;exact⟨o',(hs.2 b (ne_of_lt (lt_of_lt_of_le (Heap.lt_size e) (I.ok.Ml x c hfn hc)))).trans e1⟩
  ·by_cases hj:j=i
   ·subst hj;rw[hi] at e1;cases e1;rw[List.getElem?_set_self hiσ] at e2;cases e2;exact⟨u,r, .inr ⟨.inl hk,c,hc,L0⟩⟩
   ·rw[getElem?_set_ne (Ne.symm hj)] at e2;obtain⟨u',r',q⟩:=hl j y v' e1 e2 e3;refine⟨u',r',?_⟩;rcases q with q| ⟨k,c',e,z'⟩
    ·exact .inl q
    ·refine .inr ⟨k,c',e,z'.sameBut hs ?_⟩;rintro rfl;exact hj (rq hN e1 (I.ok.inj _ _ _ e hc▸hi))
  ·by_cases hcc:c'=c
   ·subst hcc;exact⟨_,L0⟩
   ·obtain⟨w2,z2⟩:=I.cell y c' e;exact⟨w2,z2.sameBut hs hcc⟩
  ·obtain⟨e,n,ne,nf,d⟩:=I.pin p hp;refine⟨(hs.2 p.1 ?_).trans e,n,ne,nf,d⟩;intro q;rw[q,hoc] at e;have q':oc=p.2:=Option.some.inj e;exact d w' (by rw[←q'];exact hocd)
def store_ok{E:0e3}{i:Nat}{Q:Unit→Shared→Prop}(I:1e1)(hN:X.N.Nodup)(hi:X.N[i]? =some x)(hx:Loc X.env.scope x)(r:RelV v u)(h:∀s',Inv X pins (σ.set i (some v)) H s'→Q () s') (hf:X.fn x=true∨X.env.scope.names.lookup x=some .local:=by first|exact .inl rfl|exact .inr rfl|assumption):wpAny M A (storeName X.env x u) Q E s:=
 oR I hN hi hx r (λs' I' _=>h s' I') hf
def Inv.y8{ch:List Addr}(I:1e1)(ho:s'.os=s.os)(u:Un (uw X.stack) ch H H' s.heap s'.heap)(aM:kj X.prog X.w H' s'.heap)(hg:AllBare s'.gens)(Hc:∀b∈ch,(b∈X.ex∨X.s₀.heap.objs.size≤b)∧b≠X.env.locals∧(∀x c,X.env.cells.lookup x=some c→c≠b)∧∀p∈X.pn++pins,p.1≠b):Inv X pins σ H' s':=by
 obtain⟨h',g',d',t',o'⟩:=s';have e:o'=s.os:=ho;subst e;exact I.call (g':=g') (t':=t') (d':=d') u aM hg Hc
end
abbrev XK:=Value→Option Addr→Hp→Prop
abbrev St:=List (Option V)
abbrev VK:=V→Hp→Prop
abbrev TE:=St→Hp→VK→Prop
abbrev TT:=St→Hp→(Bool→Hp→Prop)→Prop
abbrev TA:=St→Hp→(List V→Hp→Prop)→Prop
structure Ends where
 nx:St→Hp→Prop
 rt:VK
 bk:St→Hp→Prop:=λ_ _=>False
 ct:St→Hp→Prop:=λ_ _=>False
abbrev TS:=Ends→St→Hp→Prop
def EP(X:Cx)(pins:1e4)(σ:St)(Q:VK)(u:Value)(s':Shared):Prop:=∃v H',Inv X pins σ H' s'∧RelV v u∧Q v H'
def TP(X:Cx)(pins:1e4)(σ:St)(Q:Bool→Hp→Prop)(b:Bool)(s':Shared):Prop:=∃H',Inv X pins σ H' s'∧Q b H'
def AP(X:Cx)(pins:1e4)(σ:St)(Q:List V→Hp→Prop)(us:4e1)(s':Shared):Prop:=∃vs H',Inv X pins σ H' s'∧Vals vs us∧Q vs H'
def SP(X:Cx)(pins:1e4)(D:Ends)(f:Flow)(s':Shared):Prop:=
 match f with
 | .next=>∃σ' H',Inv X pins σ' H' s'∧D.nx σ' H'
 | .brk=>∃σ' H',Inv X pins σ' H' s'∧D.bk σ' H'
 | .cont=>∃σ' H',Inv X pins σ' H' s'∧D.ct σ' H'
 | .ret u=>∃v σ' H',Inv X pins σ' H' s'∧RelV v u∧D.rt v H'
def PE(X:Cx)(e:Expr)(t:TE):Prop:=
 ∀(pins:1e4) (s:Shared) (σ:St) (H:Hp) (Q:VK),Inv X pins σ H s→t σ H Q→wpAny 1e0 X.A (eval e X.env) (EP X pins σ Q) X.xe s
def PT(X:Cx)(e:Expr)(t:TT):Prop:=
 ∀(pins:1e4) (s:Shared) (σ:St) (H:Hp) (Q:Bool→Hp→Prop),Inv X pins σ H s→t σ H Q→wpAny 1e0 X.A (isTrue e X.env (eval e X.env)) (TP X pins σ Q) X.xe s
def PW(X:Cx)(e:Expr)(t:TT):Prop:=
 ∀(whole:Sem Value) (pins:1e4) (s:Shared) (σ:St) (H:Hp) (Q:Bool→Hp→Prop),Inv X pins σ H s→t σ H Q→wpAny 1e0 X.A (isTrue e X.env whole) (TP X pins σ Q) X.xe s
def PW.pt{t:TT}(h:PW X e t):PT X e t:=h _
def PA(X:Cx)(es:List Expr)(t:TA):Prop:=
 ∀(pos:Pos) (pins:1e4) (s:Shared) (σ:St) (H:Hp) (Q:List V→Hp→Prop),Inv X pins σ H s→t σ H Q→wpAny 1e0 X.A (spliced (backTo pos (starEach es X.env))) (AP X pins σ Q) X.xe s
def PS(X:Cx)(st:Stmt)(t:TS):Prop:=
 ∀(pins:1e4) (s:Shared) (σ:St) (H:Hp) (D:Ends),Inv X pins σ H s→t D σ H→wpAny 1e0 X.A (exec st X.env) (SP X pins D) X.xe s
def mn(X:Cx)(st:List Stmt)(t:TS):Prop:=
 ∀(pins:1e4) (s:Shared) (σ:St) (H:Hp) (D:Ends),Inv X pins σ H s→t D σ H→wpAny 1e0 X.A (execs st X.env) (SP X pins D) X.xe s
def bR{α:Type}{t:Sem α}{Q Q':α→Shared→Prop}{E:0e3}{s:Shared}(h:wpAny M A t Q E s)(hQ:∀a s,Q a s→Q' a s):wpAny M A t Q' E s:=wpAny_mono h hQ λ_ _ x=>x
end L2
namespace L2
open PySem PySem.Spec PyProof.Rows
section
variable {X:Cx}
inductive RV(i:Nat)(σ:St)(H:Hp)(Q:VK):Prop
 |mk (v:V) (e:σ[i]? =some (some v)) (q:Q v H)
def kr(i:Nat):TE:=fun σ H Q=>RV i σ H Q
def tC(v:V):TE:=λ_ H Q=>Q v H
def QZ{i:Nat}(hN:X.N[i]? =some x)(hv:Vis X.env.scope x)(hd:4e2:=by decide)(rA:(x==("__classdict__" :Str))=false:=by decide):PE X (.Name x pos) (kr i):=by
 intro pins s σ H Q I h;obtain⟨v,e,h⟩:=h;obtain⟨m,hn,hl⟩:=I.loc;obtain⟨u,r,l⟩:=hl i x v hN e hv;have fin:EP X pins σ Q u s:=⟨v,H,I,r,h⟩;rcases l with ⟨hk,hm⟩ | ⟨hk,c,hc,CV⟩
 ·exact wpAny_Name (wpAny_loadName_local I.ok.kind hk hn hm fin) hd
 ·rcases hk with hk|hk
  ·exact wpAny_Name (wpAny_loadName_cell I.ok.kind hk hc CV fin) hd
  ·exact wpAny_Name (wpAny_loadName_free I.ok.kind hk hc CV fin rA) hd
def aq{i j pos}:PE X (.Constant (.int i) j pos) (tC (.int i)):=λ_ _ _ H _ I h=>wpAny_Constant_int ⟨.int i,H,I.tok _,2e4,h⟩
def u9{b j pos}:PE X (.Constant (.bool b) j pos) (tC (.bl b)):=λ_ _ _ H _ I h=>Constant_bool ⟨.bl b,H,I,rfl,h⟩
def mq{j pos}:PE X (.Constant .none j pos) (tC .cw):=λ_ _ _ H _ I h=>Constant_none ⟨.cw,H,I,rfl,h⟩
def bh{x j pos}:PE X (.Constant (.str x) j pos) (tC (.str x)):=λ_ _ _ H _ I h=>Calls.Constant_str ⟨.str x,H,I.tok _,2e4,h⟩
def Gl(X:Cx)(x:Str):Prop:=X.env.kindOf x=some .globalImplicit
def jv{E:0e3}{Q:0e3}(I:1e1)(hg:Gl X x)(hm:X.mg x=some u)(h:Q u s)(hd:4e2:=by decide):wpAny 1e0 X.A (eval (.Name x pos) X.env) Q E s:=
 Calls.Name_function_global I.ok.kind hg (Calls.loadGlobal_global (by rw[I.ok.glob];exact I.mod.glob.keeps I.bk) hm h) hd
def oS{E:0e3}{Q:0e3}(I:1e1)(hg:Gl X x)(hm:X.mg x=none)(hv:bootBuiltins x=some u)(h:Q u s)(hn:x≠"__name__" :=by decide) (hd:4e2:=by decide):wpAny 1e0 X.A (eval (.Name x pos) X.env) Q E s:=by
 obtain⟨mb,h1,h2⟩:=I.mod.blt;exact Calls.Name_function_global I.ok.kind hg (Calls.loadGlobal_builtin (by rw[I.ok.glob];exact I.mod.glob.keeps I.bk) hm (by rw[I.ok.blt];exact h1.keeps I.bk) ((h2 x hn).trans hv) h) hd
def aZ(hg:Gl X x)(hm:X.mg x=some u)(r:RelV v u)(hd:4e2:=by decide):PE X (.Name x pos) (tC v):=
 λ_ _ _ H _ I h=>jv I hg hm ⟨v,H,I,r,h⟩ hd
def wX(hg:Gl X x)(hm:X.mg x=none)(hv:bootBuiltins x=some u)(r:RelV v u)(hn:x≠"__name__" :=by decide)(hd:4e2:=by decide):PE X (.Name x pos) (tC v):=
 λ_ _ _ H _ I h=>oS I hg hm hv ⟨v,H,I,r,h⟩ hn hd
variable {a b:Expr}{ta tb:TE}{pos:Pos}
def PC(X:Cx)(op:CmpOp)(a b:Expr)(t:TE):Prop:=
 ∀(pins:1e4) (s:Shared) (σ:St) (H:Hp) (Q:VK),Inv X pins σ H s→t σ H Q→
  wpAny 1e0 X.A (eval a X.env) (λv s₁=>wpAny 1e0 X.A (eval b X.env) (λu s₂=>wpAny 1e0 X.A (compareOp op v u) (EP X pins σ Q) X.xe s₂) X.xe s₁) X.xe s
def y9(b:Expr){op:CmpOp}(h:op≠ .In)(h2:op≠ .NotIn):behindInMarks op b=false:=by
 have e1:(op==CmpOp.In)=false:=by cases op<;>first|rfl|exact absurd rfl h
 have e2:(op==CmpOp.NotIn)=false:=by cases op<;>first|rfl|exact absurd rfl h2
 cases b<;>simp [behindInMarks,e1,e2]
def tIsN(ta:TE):TE:=fun σ H Q=>ta σ H λx H1=>Q (.bl (decide (x= .cw))) H1
def VD(ta:TE):TE:=fun σ H Q=>ta σ H λx H1=>Q (.bl (!decide (x= .cw))) H1
def RelV.ze(r:RelV x v):(v==Value.none)=decide (x= .cw):=by
 cases x with
 |cw=>cases r;rfl
 |bl _=>cases r;rfl
 |int _=>obtain⟨t,rfl⟩:=r;rfl
 |str _=>obtain⟨t,rfl⟩:=r;rfl
 |Bh _=>obtain⟨t,rfl⟩:=r;rfl
 |Pj _=>obtain⟨t,rfl⟩:=r;rfl
 |ref _=>cases r;rfl
 |ty _=>cases r;rfl
def oU{j pos'}(ha:PE X a ta):PC X .Is a (.Constant .none j pos') (tIsN ta):=by
 intro pins s σ H Q I h;refine bR (ha pins s σ H _ I h) λv s1 ⟨x,H1,I1,r1,q1⟩=>?_;exact Constant_none (is_none_gen ⟨.bl _,H1,I1,by rw[r1.ze];rfl,q1⟩)
def wY{j pos'}(ha:PE X a ta):PC X .IsNot a (.Constant .none j pos') (VD ta):=by
 intro pins s σ H Q I h;refine bR (ha pins s σ H _ I h) λv s1 ⟨x,H1,I1,r1,q1⟩=>?_;exact Constant_none (isnot_none_gen ⟨.bl _,H1,I1,by rw[r1.ze];rfl,q1⟩)
def tB(t:TE):TT:=fun σ H Q=>t σ H λx H1=>∃c,x= .bl c∧Q c H1
def Bi{op:CmpOp}(h:PC X op a b t)(h1:behindInMarks op b=false:=by first|exact y9 _ (by decide) (by decide) |rfl):PE X (.Compare a [op] [b] pos) t:=λpins s σ H Q I hw=>wpAny_Compare1 (h pins s σ H Q I hw) h1
def mr{op:CmpOp}(h:PC X op a b t)(h1:behindInMarks op b=false:=by first|exact y9 _ (by decide) (by decide) |rfl):PT X (.Compare a [op] [b] pos) (tB t):=by
 intro pins s σ H Q I hw;refine wpAny_isTrue_Compare1 (bR (h pins s σ H _ I hw) λv s1 h1=>bR h1 λu s2 h2=>bR h2 λc s3 ⟨x,H1,I1,r1,q1⟩=>?_) h1;obtain⟨d,rfl,q⟩:=q1;cases r1;exact wpAny_truthy_bool ⟨H1,I1,q⟩
def iZ(h:PE X e t)(he:∀whole,isTrue e X.env whole=(do let v←whole;standAt e.pos;holding [v] (truthy v)):=by intro _;rfl):PT X e (tB t):=by
 intro pins s σ H Q I hw;refine isTrue_plain (bR (h pins s σ H _ I hw) λv s1 ⟨x,H1,I1,r1,q1⟩=>?_) (he _);obtain⟨d,rfl,q⟩:=q1;cases r1;exact wpAny_truthy_bool ⟨H1,I1,q⟩
variable {tA tB':TT}{rest:List Expr}
def tAnd(t u:TT):TT:=fun σ H Q=>t σ H λc H1=>if c=true then u σ H1 Q else Q false H1
def tOr(t u:TT):TT:=fun σ H Q=>t σ H λc H1=>if c=true then Q true H1 else u σ H1 Q
def tNot(t:TT):TT:=fun σ H Q=>t σ H λc H1=>Q (!c) H1
def mQ(ha:PT X a tA):PW X (.BoolOp .And [a] pos) tA:=by
 intro wh pins s σ H Q I h;refine isTrue_and (bR (ha pins s σ H Q I h) λc s1 e=>?_)
 cases c with
 |true=>exact isTrue_and_nil e
 |false=>exact e
def rB(ha:PT X a tA):PW X (.BoolOp .Or [a] pos) tA:=by
 intro wh pins s σ H Q I h;refine isTrue_or (bR (ha pins s σ H Q I h) λc s1 e=>?_)
 cases c with
 |false=>exact isTrue_or_nil e
 |true=>exact e
def rC(ha:PT X a tA)(hb:PW X (.BoolOp .And (b::rest) pos) tB'):PW X (.BoolOp .And (a::b::rest) pos) (tAnd tA tB'):=by
 intro wh pins s σ H Q I h;refine isTrue_and (bR (ha pins s σ H _ I h) λc s1 ⟨H1,I1,q1⟩=>?_)
 cases c with
 |true=>exact hb wh pins s1 σ H1 Q I1 q1
 |false=>exact⟨H1,I1,q1⟩
def vc(ha:PT X a tA)(hb:PW X (.BoolOp .Or (b::rest) pos) tB'):PW X (.BoolOp .Or (a::b::rest) pos) (tOr tA tB'):=by
 intro wh pins s σ H Q I h;refine isTrue_or (bR (ha pins s σ H _ I h) λc s1 ⟨H1,I1,q1⟩=>?_)
 cases c with
 |true=>exact⟨H1,I1,q1⟩
 |false=>exact hb wh pins s1 σ H1 Q I1 q1
def ku(ha:PT X a tA):PT X (.UnaryOp .Not a pos) (tNot tA):=by
 intro pins s σ H Q I h;exact isTrue_not (ha pins s σ H (λc H1=>Q (!c) H1) I h)
def VE(ta tb:TE):TE:=fun σ H Q=>ta σ H λx H1=>∃c,x= .bl c∧if c=true then tb σ H1 Q else Q (.bl false) H1
def VF(ta:TE):TE:=fun σ H Q=>ta σ H λx H1=>∃c,x= .bl c∧Q (.bl (!c)) H1
def Bj{op}(h:PE X a t):PE X (.BoolOp op [a] pos) t:=λpins s σ H Q I hw=>BoolOp_one (h pins s σ H Q I hw)
def Bk(ha:PE X a ta)(hb:PE X (.BoolOp .And (b::rest) pos) tb):PE X (.BoolOp .And (a::b::rest) pos) (VE ta tb):=by
 intro pins s σ H Q I h;refine BoolOp_and (bR (ha pins s σ H _ I h) λv s1 ⟨x,H1,I1,r1,q1⟩=>?_);obtain⟨c,rfl,q1⟩:=q1;cases r1;refine wpAny_truthy_bool ?_
 cases c with
 |true=>exact hb pins s1 σ H1 Q I1 q1
 |false=>exact⟨.bl false,H1,I1,rfl,q1⟩
def Q0(ha:PE X a ta):PE X (.UnaryOp .Not a pos) (VF ta):=by
 intro pins s σ H Q I h;refine UnaryOp_ (bR (ha pins s σ H _ I h) λv s1 ⟨x,H1,I1,r1,q1⟩=>?_);obtain⟨c,rfl,q1⟩:=q1;cases r1;exact not_of (wpAny_truthy_bool ⟨.bl (!c),H1,I1,rfl,q1⟩)
def tIf(t:TT)(ta tb:TE):TE:=fun σ H Q=>t σ H λc H1=>if c=true then ta σ H1 Q else tb σ H1 Q
def zf(hc:PT X c tA)(ha:PE X a ta)(hb:PE X b tb):PE X (.IfExp c a b pos) (tIf tA ta tb):=by
 intro pins s σ H Q I h;refine wpAny_IfExp (bR (hc pins s σ H _ I h) λd s1 ⟨H1,I1,q1⟩=>?_)
 cases d with
 |true=>exact ha pins s1 σ H1 Q I1 q1
 |false=>exact hb pins s1 σ H1 Q I1 q1
end
end L2
namespace L2
open PySem PySem.Spec PyProof.Rows
def bM(K:0e9)(H:Hp)(a:3e5)(xs:4e5):Prop:=
 Rd H a (.lst xs)∨
  ∃(o:Obj) (its:Array Value) (n:Nat),K.lookup a=some o∧o.cls= .type "list" ∧o.dict=none∧o.data= .seq its n∧its.size≤sizeLine∧Vals xs its.toList
def km(K:0e9)(H:Hp)(a:3e5)(xs:4e5):Prop:=
 Rd H a (.tup xs)∨
  ∃(o:Obj) (its:Array Value) (n:Nat),K.lookup a=some o∧o.cls= .type "tuple" ∧o.data= .seq its n∧its.size≤sizeLine∧Vals xs its.toList
noncomputable def absV:Value→Option V
 | .none=>some .cw
 | .bool b=>some (.bl b)
 | .int i _=>some (.int i)
 | .str x _=>some (.str x)
 | .bytes b _=>some (.Bh b)
 | .float b _=>some (.Pj b)
 | .ref a=>some (.ref a)
 | .type n=>some (.ty n)
 |_=>none
def RelV.abs(r:RelV x u):absV u=some x:=by
 cases x with
 |cw=>cases r;rfl
 |bl _=>cases r;rfl
 |int _=>obtain⟨t,rfl⟩:=r;rfl
 |str _=>obtain⟨t,rfl⟩:=r;rfl
 |Bh _=>obtain⟨t,rfl⟩:=r;rfl
 |Pj _=>obtain⟨t,rfl⟩:=r;rfl
 |ref _=>cases r;rfl
 |ty _=>cases r;rfl
theorem RelV.inj(r:RelV x u)(q:RelV y u):x=y:=Option.some.inj (r.abs.symm.trans q.abs)
theorem Vals.inj:∀{xs ys:4e5} {us:4e1},Vals xs us→Vals ys us→xs=ys
 |_,_,_, .nil, .nil=>rfl
 |_,_,_, .cons r t, .cons r' t'=>by rw[r.inj r',Vals.inj t t']
section
variable {X:Cx}{pins:1e4}{σ:St}{H:Hp}{s:Shared}{a:3e5}{xs ys:4e5}
def bM.of{K:0e9}(h:H a=some (.lst xs)):bM K H a xs:= .inl (.inl h)
def km.of{K:0e9}(h:H a=some (.tup xs)):km K H a xs:= .inl (.inl h)
def Inv.list(I:1e1)(h:bM X.K H a xs):∃its:List Value,Vals xs its∧PlainL s.heap a its.toArray∧xs.length≤sizeLine:=by
 rcases h with h| ⟨o,its,n,hk,hc,hd,hs,hz,r⟩
 ·obtain⟨z,its,n,r,e⟩:=h.ok I.aM;exact⟨its,r,⟨_,n,e,rfl,rfl,rfl⟩,z⟩
 ·refine⟨its.toList,r,⟨o,n,I.ju a o hk,hc,hd,by simpa using hs⟩,?_⟩;have e:=r.length;simp only [Array.length_toList] at e;omega
def Inv.tuple(I:1e1)(h:km X.K H a xs):∃its:List Value,Vals xs its∧IsTup s.heap a its.toArray∧xs.length≤sizeLine:=by
 rcases h with h| ⟨o,its,n,hk,hc,hs,hz,r⟩
 ·obtain⟨z,its,r,p⟩:=h.ok I.aM;exact⟨its,r,p,z⟩
 ·refine⟨its.toList,r,⟨o,I.ju a o hk,hc,n,by simpa using hs⟩,?_⟩;have e:=r.length;simp only [Array.length_toList] at e;omega
def Inv.zg(I:1e1)(h:bM X.K H a xs)(h':bM X.K H a ys):xs=ys:=by
 obtain⟨its,r,⟨o,n,e,_,_,d⟩,_⟩:=I.list h;obtain⟨its',r',⟨o',n',e',_,_,d'⟩,_⟩:=I.list h';rw[e] at e';cases e';rw[d] at d';injection d' with d1 _;have:its=its':=by simpa using congrArg Array.toList d1
 subst this;exact r.inj r'
end
noncomputable abbrev Cx.i3(X:Cx)(E:0e3):Cx:={ X with xe:=E }
noncomputable abbrev Cx.Hv(X:Cx):Cx:=X.i3 λ_ _=>False
theorem Cx.Ok.i3{X:Cx}(ok:X.Ok)(E:0e3):(X.i3 E).Ok:=
 ⟨ok.mod,ok.kind,ok.glob,ok.blt,ok.above,ok.inj,ok.has,ok.Ml,ok.hd,ok.frames,ok.Po,ok.US,ok.bs,ok.E5,ok.wR,ok.ux,ok.lZ,ok.Ht⟩
def Cx.Ok.dO{X:Cx}{E:0e3}(ok:(X.i3 E).Ok):X.Ok:=
 ⟨ok.mod,ok.kind,ok.glob,ok.blt,ok.above,ok.inj,ok.has,ok.Ml,ok.hd,ok.frames,ok.Po,ok.US,ok.bs,ok.E5,ok.wR,ok.ux,ok.lZ,ok.Ht⟩
section
variable {X:Cx}{pins:1e4}{σ:St}{H:Hp}{s:Shared}{E:0e3}
theorem Inv.i3(I:1e1)(E:0e3):Inv (X.i3 E) pins σ H s:=⟨I.ok.i3 E,I.os,I.bare,I.base,I.loc,I.cell,I.free,I.gF,I.pin,I.aM,I.len⟩
theorem Inv.dO(I:Inv (X.i3 E) pins σ H s):Inv X pins σ H s:=⟨I.ok.dO,I.os,I.bare,I.base,I.loc,I.cell,I.free,I.gF,I.pin,I.aM,I.len⟩
theorem SP.dO(h:SP (X.i3 E) pins D f s'):SP X pins D f s':=by
 cases f with
 |next=>obtain⟨σ',H',I,q⟩:=h;exact⟨σ',H',I.dO,q⟩
 |brk=>obtain⟨σ',H',I,q⟩:=h;exact⟨σ',H',I.dO,q⟩
 |cont=>obtain⟨σ',H',I,q⟩:=h;exact⟨σ',H',I.dO,q⟩
 |ret u=>obtain⟨v,σ',H',I,r,q⟩:=h;exact⟨v,σ',H',I.dO,r,q⟩
theorem mn.Hv{st:List Stmt}{t:TS}(h:mn X.Hv st t):mn X st t:=λpins s σ H D I hw=>
 wpAny_mono (h pins s σ H D (I.i3 _) hw) (λ_ _ q=>q.dO) λ_ _ z=>False.elim z
end
section
variable {X:Cx}{st:Stmt}{rest:List Stmt}{t u:TS}{e:Expr}{te:TE}{pos:Pos}
def CW:TS:=λD σ H=>D.nx σ H
def VG(t u:TS):TS:=λD σ H=>t { D with nx:=u D } σ H
def aN:mn X [] CW:=λ_ _ σ H _ I h=>wpAny_execs_nil ⟨σ,H,I,h⟩
def ai(h1:PS X st t)(h2:mn X rest u):mn X (st::rest) (VG t u):=by
 intro pins s σ H D I h;refine wpAny_execs_cons (bR (h1 pins s σ H { D with nx:=u D } I h) λf s1 q=>?_)
 cases f with
 |next=>
  obtain⟨σ',H',I',q⟩:=q;exact h2 pins s1 σ' H' D I' q
 |ret v=>exact q
 |brk=>exact q
 |cont=>exact q
def ao(h1:PS X st t):mn X [st] t:=by
 intro pins s σ H D I h;refine wpAny_execs_cons (bR (h1 pins s σ H D I h) λf s1 q=>?_)
 cases f with
 |next=>exact wpAny_execs_nil q
 |ret v=>exact q
 |brk=>exact q
 |cont=>exact q
def Inv.quiet(I:1e1):interactive X.env=false:=by simp [interactive,I.ok.kind]
def VH(te:TE):TS:=λD σ H=>te σ H λ_ H1=>D.nx σ H1
def a9(he:PE X e te)(hs:swapsWith e none pos.line X.env=pure false:=by rfl):PS X (.Expr e pos) (VH te):=by
 intro pins s σ H D I h;exact wpAny_Expr_any (bR (he pins s σ H _ I h) λv s1 ⟨x,H1,I1,r1,q1⟩=>⟨σ,H1,I1,q1⟩) I.quiet hs
def tRet(te:TE):TS:=λD σ H=>te σ H D.rt
def aA(he:PE X e te):PS X (.Return (some e) pos) (tRet te):=by
 intro pins s σ H D I h;exact wpAny_Return_some (bR (he pins s σ H _ I h) λv s1 ⟨x,H1,I1,r1,q1⟩=>⟨x,σ,H1,I1,r1,q1⟩)
def VI:TS:=λD _ H=>D.rt .cw H
def Mn:PS X (.Return none pos) VI:=λ_ _ σ H _ I h=>wpAny_Return_none ⟨.cw,σ,H,I,rfl,h⟩
def Q1(c:TT)(t u:TS):TS:=λD σ H=>c σ H λb H1=>if b=true then t D σ H1 else u D σ H1
def bC{tc:TT}(hc:PT X c tc)(ha:mn X a t)(hb:mn X b u):PS X (.If c a b pos) (Q1 tc t u):=by
 intro pins s σ H D I h;refine wpAny_If (bR (hc pins s σ H _ I h) λd s1 ⟨H1,I1,q1⟩=>?_)
 cases d with
 |true=>exact ha pins s1 σ H1 D I1 q1
 |false=>exact hb pins s1 σ H1 D I1 q1
def Q2:TS:=λ_ _ _=>False
def gq:PS X st Q2:=λ_ _ _ _ _ _ h=>h.elim
end
abbrev TG:=V→St→Hp→(St→Hp→Prop)→Prop
abbrev Pr:=List V→St→Hp→(St→Hp→Prop)→Prop
def PG(X:Cx)(target:Expr)(t:TG):Prop:=
 ∀(pins:1e4) (s:Shared) (σ:St) (H:Hp) (v:V) (u:Value) (Q:St→Hp→Prop),Inv X pins σ H s→RelV v u→t v σ H Q→
  wpAny 1e0 X.A (assign target X.env u) (λ_ s'=>∃σ' H',Inv X pins σ' H' s'∧Q σ' H') X.xe s
def UX(X:Cx)(ts:List Expr)(t:Pr):Prop:=
 ∀(pins:1e4) (s:Shared) (σ:St) (H:Hp) (vs:4e5) (us:4e1) (Q:St→Hp→Prop),Inv X pins σ H s→Vals vs us→t vs σ H Q→
  wpAny 1e0 X.A (assignInOrder ((assignEach ts X.env).map (·.2)) us) (λ_ s'=>∃σ' H',Inv X pins σ' H' s'∧Q σ' H') X.xe s
abbrev TIp:=V→V→Hp→VK→Prop
def PIp(X:Cx)(op:Operator)(t:TIp):Prop:=
 ∀(pins:1e4) (s:Shared) (σ:St) (H:Hp) (x y:V) (v u:Value) (Q:VK),Inv X pins σ H s→RelV x v→RelV y u→t x y H Q→
  wpAny 1e0 X.A (inplaceOp op v u) (EP X pins σ Q) X.xe s
section
variable {X:Cx}{pos:Pos}
def cg(i:Nat):TG:=λv σ H Q=>Q (σ.set i (some v)) H
def aB{i:Nat}(hN:X.N.Nodup)(hi:X.N[i]? =some x)(hx:Loc X.env.scope x)(hf:X.fn x=true∨X.env.scope.names.lookup x=some .local:=by first|exact .inl rfl|exact .inr rfl|assumption):PG X (.Name x pos) (cg i):=by
 intro pins s σ H v u Q I r h;exact wpAny_assign_Name (store_ok I hN hi hx r (λs' I'=>⟨_,H,I',h⟩) hf)
def gNil:Pr:=λvs σ H Q=>vs=[]∧Q σ H
def VJ(t:TG)(u:Pr):Pr:=λvs σ H Q=>∃v r,vs=v::r∧t v σ H fun σ' H'=>u r σ' H' Q
def dY:UX X [] gNil:=by
 intro pins s σ H vs us Q I r h;obtain⟨e,h⟩:=h;subst e;cases r;exact assignInOrder_nil ⟨σ,H,I,h⟩
def a6{t:TG}{u:Pr}(h1:PG X e t)(h2:UX X es u)(hs:(assignEach (e::es) X.env).map (·.2)=assign e X.env::(assignEach es X.env).map (·.2):=by rfl):UX X (e::es) (VJ t u):=by
 intro pins s σ H vs us Q I r h;obtain⟨v,vr,e1,h⟩:=h;subst e1
 cases r with
 |cons r rr=>
  rw[hs];refine assignInOrder_cons (bR (h1 pins s σ H _ _ _ I r h) λ_ s1 ⟨σ1,H1,I1,q1⟩=>?_);exact h2 pins s1 σ1 H1 _ _ Q I1 rr q1
def VL(K:0e9)(n:Nat)(t:Pr):TG:=λv σ H Q=>∃a xs,v= .ref a∧km K H a xs∧xs.length=n∧t xs σ H Q
def ia{k:Nat}{t:Pr}{n:Nat}(hc:X.calm=true)(h:UX X es t)(hn:(assignEach es X.env).length=n:=by rfl) (eC:(assignEach es X.env).findIdx? 1e8=none:=by rfl):PG X (.Tuple es k pos) (VL X.K n t):=by
 intro pins s σ H v u Q I r hw;obtain⟨a,xs,e1,hq,hl,hw⟩:=hw;subst e1;cases r;obtain⟨its,rv,ht,hz⟩:=I.tuple hq;refine assign_Tuple_tuple (I.ok.hd hc) ht (by simp [hn,←hl,rv.length]) eC λh' hx=>?_;have I1:Inv X pins σ H { s with heap:=h' }:=I.kept (t':=s.toks) λb o e=>hx b o (ne_of_lt (Heap.lt_size e)) e;exact h pins _ σ H xs _ Q I1 (by simpa using rv) hw
def Mo(te:TE)(g:TG):TS:=λD σ H=>te σ H λx H1=>g x σ H1 D.nx
def Hw{g:TG}(he:PE X e te)(hg:PG X tg g)(hs:swapsWithSole [tg] e pos.line X.env=pure false:=by rfl)(hw:swappedStores [tg] e X.env=pure none:=by rfl)(h1:(assignEach [tg] X.env).map (·.2)=[assign tg X.env]:=by rfl):PS X (.Assign [tg] e pos) (Mo te g):=by
 intro pins s σ H D I h;refine wpAny_Assign_stores (bR (he pins s σ H _ I h) λv s1 ⟨x,H1,I1,r1,q1⟩=>?_) hs hw;rw[h1];exact bR (hg pins s1 σ H1 x v _ I1 r1 q1) λ_ s2 q=>q
def az{i:Nat}(hN:X.N.Nodup)(hi:X.N[i]? =some x)(hx:Loc X.env.scope x)(he:PE X e te)(hs:swapsWith e (some (.Name x pos')) pos.line X.env=pure false:=by rfl)(hf:X.fn x=true∨X.env.scope.names.lookup x=some .local:=by first|exact .inl rfl|exact .inr rfl|assumption):
  PS X (.Assign [.Name x pos'] e pos) (Mo te (cg i)):=by
 intro pins s σ H D I h;refine wpAny_Assign_Name (bR (he pins s σ H _ I h) λv s1 ⟨y,H1,I1,r1,q1⟩=>?_) hs;exact store_ok I1 hN hi hx r1 (λs2 I2=>⟨_,H1,I2,q1⟩) hf
def tAug(i:Nat)(te:TE)(ti:TIp):TS:=λD σ H=>∃x,σ[i]? =some (some x)∧te σ H λy H1=>ti x y H1 λz H2=>D.nx (σ.set i (some z)) H2
def Q3{i:Nat}{op:Operator}{ti:TIp}(hN:X.N.Nodup)(hi:X.N[i]? =some x)(hx:Loc X.env.scope x)(he:PE X e te)(ho:PIp X op ti)(hf:X.fn x=true∨X.env.scope.names.lookup x=some .local:=by first|exact .inl rfl|exact .inr rfl|assumption):
  PS X (.AugAssign (.Name x pos') op e pos) (tAug i te ti):=by
 intro pins s σ H D I h;obtain⟨v,e1,h⟩:=h;obtain⟨m,hn,hl⟩:=I.loc;have vis:Vis X.env.scope x:=by rcases hx with k|k;exact .inl k;exact .inr (.inl k)
 obtain⟨u,r,l⟩:=hl i x v hi e1 vis;refine wpAny_AugAssign_Name ?_
 have go:wpAny 1e0 X.A (eval e X.env) (λw s₂=>wpAny 1e0 X.A (inplaceOp op u w) (λr s₃=>wpAny 1e0 X.A (storeName X.env x r) (λ_=>SP X pins D .next) X.xe s₃) X.xe s₂) X.xe s:=by
  refine bR (he pins s σ H _ I h) λw s1 ⟨y,H1,I1,r1,q1⟩=>?_;refine bR (ho pins s1 σ H1 v y u w _ I1 r r1 q1) λz s2 ⟨zv,H2,I2,r2,q2⟩=>?_;exact store_ok I2 hN hi hx r2 (λs3 I3=>⟨_,H2,I3,q2⟩) hf
 rcases l with ⟨hk,hm⟩ | ⟨hk,c,hc,CV⟩
 ·exact wpAny_loadName_local I.ok.kind hk hn hm go
 ·rcases hk with hk|hk
  ·exact wpAny_loadName_cell I.ok.kind hk hc CV go
  ·rcases hx with k|k
   ·have:X.env.scope.names.lookup x=some .free:=hk;rw[k] at this;cases this
   ·have:X.env.scope.names.lookup x=some .free:=hk;rw[k] at this;cases this
def ipI(f:Int→Int→Int):TIp:=λx y H Q=>∃i j,x= .int i∧y= .int j∧Q (.int (f i j)) H
def Q4:PIp X .Add (ipI λi j=>i+j):=by
 intro pins s σ H x y v u Q I r1 r2 h;obtain⟨i,j,e1,e2,q⟩:=h;subst e1;subst e2;obtain⟨t,rfl⟩:=r1;obtain⟨t',rfl⟩:=r2;exact iadd_int ⟨.int _,H,I.tok _,2e4,q⟩
end
section
variable {X:Cx}{pos:Pos}
def Q5(c:TT)(tb:TS):TS:=λD σ H=>∃W:Nat→St→Hp→Prop,(∃m,W m σ H)∧∀m σ H,W m σ H→
 c σ H λb H1=>if b=true then∃N:St→Hp→Prop,(∀σ' H',N σ' H'→∃m',m'<m∧W m' σ' H')∧tb { D with nx:=N,ct:=N,bk:=D.nx } σ H1 else D.nx σ H1
def je{tc:TT}(hp:PassesOwn 1e0 X.A X.env X.xe)(hc:PT X c tc)(hb:mn X body tb):PS X (.While c body [] pos) (Q5 tc tb):=by
 intro pins s σ H D I h;obtain⟨W,⟨m0,w0⟩,turn⟩:=h;refine wpAny_While (codeAny_whileLoop (λn s'=>∃σ' H',Inv X pins σ' H' s'∧W n σ' H') ?_ m0 ⟨σ,H,I,w0⟩);rintro n s1 ⟨σ1,H1,I1,w1⟩;refine wpAny_passesOwn hp (bR (hc pins s1 σ1 H1 _ I1 (turn n σ1 H1 w1)) λb s2 ⟨H2,I2,q2⟩=>?_)
 cases b with
 |true=>
  obtain⟨N,hN,q2⟩:=q2;rw[if_pos rfl];refine wpAny_passesOwn hp (bR (hb pins s2 σ1 H2 _ I2 q2) λf s3 q3=>?_)
  cases f with
  |next=>
   obtain⟨σ3,H3,I3,n3⟩:=q3;obtain⟨m',hm,w3⟩:=hN σ3 H3 n3;exact⟨m',hm,σ3,H3,I3,w3⟩
  |cont=>
   obtain⟨σ3,H3,I3,n3⟩:=q3;obtain⟨m',hm,w3⟩:=hN σ3 H3 n3;exact⟨m',hm,σ3,H3,I3,w3⟩
  |brk=>exact q3
  |ret v=>exact q3
 |false=>
  rw[if_neg Bool.false_ne_true];exact wpAny_execs_nil ⟨σ1,H2,I2,q2⟩
end
structure It where
 go:Nat→Hp→Prop
 oW:Nat→Hp→V→Hp→Prop
 stop:Nat→Hp→Prop
def gA(X:Cx)(pins:1e4)(H:Hp)(b:3e5):Prop:=
 H b=none∧b≠X.env.locals∧b∉X.fs∧(b∈X.ex∨X.s₀.heap.objs.size≤b)∧(∀x c,X.env.cells.lookup x=some c→c≠b)∧∀p∈X.pn++pins,p.1≠b
def Inv.wZ(I:1e1)(hb:s.heap.objs.size≤b)(hn:H' b=none):gA X pins H' b:=by
 refine⟨hn,ne_of_gt (lt_of_lt_of_le I.lt hb),I.nofs hb, .inr (le_trans I.sz hb),λx c e z=>?_,λp hp z=>?_⟩
 ·obtain⟨v,q⟩:=I.cell x c e;exact absurd (lt_of_lt_of_le q.lt (by rw[z];exact hb)) (lt_irrefl _)
 ·exact absurd (lt_of_lt_of_le (Heap.lt_size (I.pin p hp).1) (by rw[z];exact hb)) (lt_irrefl _)
structure Turn(P:Program)(w:World)(K:0e9)(tg:Expr)(J:It)(fp:List Addr)(it:3e5)(tn:Nat→Heap→Prop):Prop where
 mem:it∈fp
 obj:∀i h,tn i h→∀b∈fp,∃o,h.get? b=some o∧∀v,o.data≠ .cell v
 keep:∀i h h',tn i h→(∀b∈fp,∀o,h.get? b=some o→h'.get? b=some o)→tn i h'
 item:∀(X:Cx),X.prog=P→X.w=w→X.K=K→X.calm=true→∀(i:Nat) (pins:1e4) (s:Shared) (σ:St) (H:Hp) (E:0e3),Inv X pins σ H s→(∀b∈fp,gA X pins H b)→tn i s.heap→J.go i H→
  wpAny (model P w) X.A (pyNext (.ref it)) (λr s1=>∃u,r=some u∧
   wpAny (model P w) X.A (letOwnedTupleGo tg (.ref it) u) (λ_ s2=>∃x H',Inv X pins σ H' s2∧RelV x u∧J.oW i H x H'∧tn (i+1) s2.heap∧∀b∈fp,H' b=none) E s1) E s
 done:∀(X:Cx),X.prog=P→X.w=w→X.K=K→X.calm=true→∀(i:Nat) (pins:1e4) (s:Shared) (σ:St) (H:Hp) (E:0e3),Inv X pins σ H s→(∀b∈fp,gA X pins H b)→tn i s.heap→J.stop i H→
  wpAny (model P w) X.A (pyNext (.ref it)) (λr s1=>r=none∧Inv X pins σ H s1) E s
 self:∀(A:Around) (i:Nat) (s:Shared) (Q:0e3) (E:0e3),tn i s.heap→Q (.ref it) s→wpAny (model P w) A (pyIter (.ref it)) Q E s
abbrev TI:=St→Hp→(It→Hp→Prop)→Prop
def PIE(X:Cx)(pins:1e4)(σ:St)(tg:Expr)(R:It→Hp→Prop)(VM:Value)(s2:Shared):Prop:=
 ∃(it:3e5) (fp:List Addr) (tn:Nat→Heap→Prop) (J:It) (H':Hp),VM= .ref it∧Inv X pins σ H' s2∧Turn X.prog X.w X.K tg J fp it tn∧tn 0 s2.heap∧(∀b∈fp,gA X pins H' b)∧R J H'
def PI(X:Cx)(tg iter:Expr)(wi:TI):Prop:=
 ∀(pins:1e4) (s:Shared) (σ:St) (H:Hp) (R:It→Hp→Prop),Inv X pins σ H s→wi σ H R→
  wpAny 1e0 X.A (eval iter X.env) (λv s1=>wpAny 1e0 X.A (pyIter v) (PIE X pins σ tg R) X.xe s1) X.xe s
def CY{E:0e3}{n:String}{vs:Array Value}{Q:Unit→Shared→Prop}(ho:s.heap.get? it=some o)(hc:o.cls= .type n)(hd:o.data= .fields vs)(hn:["enumerate","zip","dict_itemiterator","dict_reverseitemiterator","odict_iterator","itertools.zip_longest","itertools.pairwise"].contains n=false) (hQ:Q () s):wpAny M A (letOwnedTupleGo tg (.ref it) u) Q E s:=by
 unfold letOwnedTupleGo;cases tg<;>first
  |exact wpAny_pure hQ
  | (cases u<;>first
    |exact wpAny_pure hQ
    | (refine wpAny_bind (wpAny_load ho ?_)
       rw[hc,hd];show wpAny M A (if (["enumerate","zip","dict_itemiterator","dict_reverseitemiterator","odict_iterator","itertools.zip_longest","itertools.pairwise"].contains n&&vs[0]? ==some (rawInt _))=true then _ else _) Q E s;rw[if_neg (by intro h;rw[hn,Bool.false_and] at h;cases h)]
       exact wpAny_pure hQ))
def CZ(K:0e9)(a:3e5):It:=
 ⟨λi H=>∃xs x,bM K H a xs∧xs[i]? =some x,λi H x H'=>H'=H∧∀xs,bM K H a xs→xs[i]? =some x,λi H=>∃xs,bM K H a xs∧xs.length≤i⟩
def Hd(lo:Int)(n:Nat):It:=⟨λi _=>i<n,λi H x H'=>H'=H∧x= .int (lo+i),λi _=>n≤i⟩
def E6{P:Program}{w:World}{K:0e9}{tg:Expr}(a it:3e5):Turn P w K tg (CZ K a) [it] it (λi h=>h.IsListIter it a i) where
 mem:=by simp
 obj:=λi h st b hb=>by
  have e:b=it:=by simpa using hb
  subst e;obtain⟨o,e,c,d⟩:=st;exact⟨o,e,λv z=>by rw[d] at z;cases z⟩
 keep:=λi h h' st k=>st.at λo e=>k it 2e9 o e
 item:=by
  intro X hP hw hK hc i pins s σ H E I hf st hg;subst hP hw hK;obtain⟨xs,x,hq,hx⟩:=hg;obtain⟨its,rv,p,hz⟩:=I.list hq;obtain⟨u,hu,ru⟩:=rv.get hx;obtain⟨f0,f1,f2,f3,f4,f5⟩:=hf it 2e9;refine wpAny_pyNext_list_item st p.isList (x:=u) (by simpa using hu) λh' A8 sb=>?_;have I1:Inv X pins σ H { s with heap:=h' }:=I.turned (t':=s.toks) (λb o hb e=>(sb.2 b hb).trans e) f0 f1 f3 f4 f5;obtain⟨o,e,c,d⟩:=id A8;exact⟨u,rfl,CY (s:={ s with heap:=h' }) e c d 0e4 ⟨x,H,I1,ru,⟨rfl,λys hy=>by rw[I.zg hy hq];exact hx⟩,A8,λb hb=>(hf b hb).1⟩⟩
 done:=by
  intro X hP hw hK hc i pins s σ H E I hf st hg;subst hP hw hK;obtain⟨xs,hq,hx⟩:=hg;obtain⟨its,rv,p,hz⟩:=I.list hq;obtain⟨f0,f1,f2,f3,f4,f5⟩:=hf it 2e9;have hl:=rv.length;exact wpAny_pyNext_list_end (I.ok.hd hc) st p.isList (by simp;omega) λh' eb=>⟨rfl,I.turned (t':=s.toks) (λb o hb e=>eb b o hb e) f0 f1 f3 f4 f5⟩
 self:=λ_ _ _ _ _ st h=>wpAny_pyIter_listiter st h
def Bl{P:Program}{w:World}{K:0e9}{tg:Expr}(it:3e5)(lo:Int)(n:Nat):Turn P w K tg (Hd lo n) [it] it (λi h=>IsRangeIter h it (lo+(i:Nat)*1) ((n:Int) - (i:Nat)) 1) where
 mem:=by simp
 obj:=λi h st b hb=>by
  have e:b=it:=by simpa using hb
  subst e
  exact⟨_,st,λv z=>by
   have z':Data.fields _=Data.cell v:=z
   cases z'⟩
 keep:=λi h h' st k=>k it 2e9 _ st
 item:=by
  intro X hP hw hK hc i pins s σ H E I hf st hg;subst hP hw hK;obtain⟨f0,f1,f2,f3,f4,f5⟩:=hf it 2e9;have W:=Walks.range (prog:=X.prog) (w:=X.w) (I.ok.hd hc) it lo 1 n;refine W.item i s _ _ hg st λv h' tk hv A8 kk=>?_;obtain⟨t,rfl⟩:=hv;have I1:Inv X pins σ H { s with heap:=h',toks:=tk }:=I.turned (λb o hb e=>kk b o (by simpa using hb) e) f0 f1 f3 f4 f5;refine⟨_,rfl,CY (s:={ s with heap:=h',toks:=tk }) (n:="range_iterator") A8 rfl rfl 0e4 ⟨.int (lo+i),H,I1,⟨t,?_⟩,⟨rfl,rfl⟩,A8,λb hb=>(hf b hb).1⟩⟩;rw[mul_one]
 done:=by
  intro X hP hw hK hc i pins s σ H E I hf st hg;subst hP hw hK;obtain⟨f0,f1,f2,f3,f4,f5⟩:=hf it 2e9;exact wpAny_pyNext_range_end (I.ok.hd hc) st (by have:n≤i:=hg;omega) λh' eb=>⟨rfl,I.turned (t':=s.toks) (λb o hb e=>eb b o hb e) f0 f1 f3 f4 f5⟩
 self:=λ_ _ _ _ _ st h=>wpAny_pyIter_rangeiter st h
end L2
namespace L2
open PySem PySem.Spec PyProof.Rows
section
variable {X:Cx}{tg:Expr}
def VN(K:0e9)(tl:TE):TI:=fun σ H R=>tl σ H λx H1=>∃a,x= .ref a∧(∃xs,bM K H1 a xs)∧R (CZ K a) H1
def cE{l:Expr}{tl:TE}(hl:PE X l tl):PI X tg l (VN X.K tl):=by
 intro pins s σ H R I h;refine bR (hl pins s σ H _ I h) λv s1 ⟨x,H1,I1,r1,q1⟩=>?_;obtain⟨a,e,⟨xs,hq⟩,q⟩:=q1;subst e;cases r1;obtain⟨its,rv,p,hz⟩:=I1.list hq;refine wpAny_pyIter_list p.isList ?_;refine⟨s1.heap.objs.size,[s1.heap.objs.size],_,_,H1,rfl,I1.kept (t':=s1.toks) λb o e=>Heap.get?_push_of_some _ e,E6 a _,⟨_,Heap.get?_push_size _ rfl,rfl,rfl⟩,λb hb=>?_,q⟩;have e:b=s1.heap.objs.size:=by simpa using hb
 subst e;exact I1.wZ (le_refl _) (I1.aM.fresh (le_refl _))
def Hx{R:It→Hp→Prop}{E:0e3}{lo hi:Int}{tk:Nat}(I:1e1)(h1: -(2^62)≤lo)(h2:lo<2^62)(h3: -(2^62)≤hi)(h4:hi<2^62)(q:R (Hd lo (hi - lo).toNat) H):wpAny 1e0 X.A (pyIter (.ref s.heap.objs.size)) (PIE X pins σ tg R) E { s with heap:=s.heap.push { cls:= .type "range",data:= .fields #[.int lo t, .int hi u, .int 1 v] },toks:=tk }:=by
 refine wpAny_pyIter_range (IsRange.new ..) (small_one h1 h2 h3 h4) ?_;have I1:Inv X pins σ H { s with heap:=s.heap.push { cls:= .type "range",data:= .fields #[.int lo t, .int hi u, .int 1 v] },toks:=tk }:=I.kept λb o e=>Heap.get?_push_of_some _ e
 refine⟨(s.heap.push { cls:= .type "range",data:= .fields #[.int lo t, .int hi u, .int 1 v] }).objs.size,[(s.heap.push { cls:= .type "range",data:= .fields #[.int lo t, .int hi u, .int 1 v] }).objs.size],_,_,H,rfl,
  I1.kept (t':=tk) λb o e=>Heap.get?_push_of_some _ e,Bl _ lo (hi - lo).toNat,?_,λb hb=>?_,q⟩
 ·have e1:lo+((0 :Nat):Int)*1=lo:=by simp
  have e2:(((hi - lo).toNat:Nat):Int) - ((0 :Nat):Int)=Builtin.Range.rangeSize lo hi 1:=by rw[rangeSize_one];split<;>omega
  show IsRangeIter _ _ (lo+((0 :Nat):Int)*1) ((((hi - lo).toNat:Nat):Int) - ((0 :Nat):Int)) 1;rw[e1,e2];exact Heap.get?_push_size _ rfl
 ·have e:b=(s.heap.push { cls:= .type "range",data:= .fields #[.int lo t, .int hi u, .int 1 v] }).objs.size:=by simpa using hb
  subst e;exact I1.wZ (le_refl _) (I1.aM.fresh (le_refl _))
def VO(ta:TA):TI:=fun σ H R=>ta σ H λvs H1=>∃j:Int,vs=[.int j]∧ -(2^62)≤j∧j<2^62∧R (Hd 0 j.toNat) H1
def lq(hg:Gl X "range")(hm:X.mg "range" =none)(ha:PA X [a] ta)(hs:starEach [a] X.env=[(false,eval a X.env)]:=by rfl):PI X tg (.Call (.Name "range" p) [a] [] pos) (VO ta):=by
 intro pins s σ H R I h;refine Call_ (oS I hg hm boot_range (PyProof.Rows.callWith_type1 (bR (ha pos pins s σ H _ I h) λus s1 ⟨vs,H1,I1,r1,q1⟩=>?_) hs rfl));obtain⟨j,e,q1,q2,q⟩:=q1;subst e
 cases r1 with
 |cons r rr=>
  cases rr;obtain⟨t,rfl⟩:=r;exact call_range_1 (Hx I1 0e5 0e5 q1 q2 (by simpa using q))
def Q6(wi:TI)(g:TG)(tb:TS):TS:=λD σ H=>wi σ H λJ H1=>∃W:Nat→Nat→St→Hp→Prop,(∃m,W 0 m σ H1)∧∀i m σ H,W i m σ H→
 (J.stop i H∧D.nx σ H)∨(J.go i H∧∃N:St→Hp→Prop,(∀σ' H',N σ' H'→∃m',m'<m∧W (i+1) m' σ' H')∧∀x H',J.oW i H x H'→g x σ H' fun σ2 H2=>tb { D with nx:=N,ct:=N,bk:=D.nx } σ2 H2)
noncomputable def oX(fp:List Addr)(h:Heap):List (Addr×Obj):=fp.filterMap λb=>(h.get? b).map λo=>(b,o)
def fS(hb:b∈fp)(e:h.get? b=some o):(b,o)∈oX fp h:=List.mem_filterMap.mpr ⟨b,hb,by rw[e];rfl⟩
def E7{p:Addr×Obj}(hp:p∈oX fp h):p.1∈fp∧h.get? p.1=some p.2:=by
 obtain⟨b,hb,e⟩:=List.mem_filterMap.mp hp
 cases q:h.get? b with
 |none=>rw[q] at e;cases e
 |some o=>
  rw[q] at e;have e':(b,o)=p:=Option.some.inj e;subst e';exact⟨hb,q⟩
def Inv.pinned{fp:List Addr}(I:1e1)(hf:∀b∈fp,gA X pins H b)(ho:∀b∈fp,∃o,s.heap.get? b=some o∧∀v,o.data≠ .cell v):Inv X (pins++oX fp s.heap) σ H s:=
 I.wW λp hp=>(mem_append.mp hp).elim (λz=>I.pin p (mem_append_right _ z)) λz=>by
   obtain⟨hb,e⟩:=E7 z;obtain⟨f0,f1,f2,_⟩:=hf p.1 hb;obtain⟨o,e',d⟩:=ho p.1 hb;rw[e] at e';cases e';exact⟨e,f0,f1,f2,d⟩
def Inv.fA(I:Inv X (pins++pl) σ H s):Inv X pins σ H s:=I.wW λp hp=>I.pin p (mem_append_right _ (mem_append_left _ hp))
def bU{wi:TI}{g:TG}(hp:PassesOwn 1e0 X.A X.env X.xe)(hc:X.calm=true)(hi:PI X tg iter wi)(hg:PG X tg g)(hb:mn X body tb)(hs:∀x,foldedSetIterable iter X.env x=pure x:=by intro _;rfl):PS X (.For tg iter body [] pos) (Q6 wi g tb):=by
 intro pins s σ H D I h;refine wpAny_For (bR (hi pins s σ H _ I h) λv s1 h1=>bR h1 λVM s2 h2=>?_) hs;obtain⟨it,fp,tn,J,H2,e,I2,T,Bm,f2,W,⟨m0,w0⟩,turn⟩:=h2;subst e;have rD:∀{H':Hp},(∀b∈fp,H' b=none)→∀b∈fp,gA X pins H' b:=λhn b hb=>⟨hn b hb,(f2 b hb).2⟩;refine codeAny_forLoop_any (λn s'=>∃i σ' H',Inv X pins σ' H' s'∧tn i s'.heap∧(∀b∈fp,H' b=none)∧W i n σ' H') ?_ m0 ⟨0,σ,H2,I2,Bm,λb hb=>(f2 b hb).1,w0⟩;rintro n s3 ⟨i,σ3,H3,I3,UY,fr3,w3⟩;rcases turn i n σ3 H3 w3 with ⟨stop,qn⟩ | ⟨go,N,hN,step⟩
 ·refine wpAny_passesOwn hp (bR (T.done X rfl rfl rfl hc i pins s3 σ3 H3 X.xe I3 (rD fr3) UY stop) λr s4 ⟨hr,I4⟩=>?_);subst hr;exact wpAny_execs_nil ⟨σ3,H3,I4,qn⟩
 ·refine wpAny_passesOwn hp (bR (T.item X rfl rfl rfl hc i pins s3 σ3 H3 X.xe I3 (rD fr3) UY go) λr s4 ⟨u,hr,h4⟩=>?_);subst hr;refine wpAny_passesOwn hp (bR h4 λ_ s5 ⟨x,H5,I5,r5,y5,st5,fr5⟩=>?_);have I5':=I5.pinned (rD fr5) (T.obj _ _ st5);refine wpAny_passesOwn hp (bR (hg _ s5 σ3 H5 x u _ I5' r5 (step x H5 y5)) λ_ s6 ⟨σ6,H6,I6,q6⟩=>?_);refine wpAny_passesOwn hp (bR (hb _ s6 σ6 H6 _ I6 q6) λf s7 q7=>?_)
  have again:∀{σ7:St} {H7:Hp},Inv X (pins++oX fp s5.heap) σ7 H7 s7→N σ7 H7→∃m,m<n∧∃i σ' H',Inv X pins σ' H' s7∧tn i s7.heap∧(∀b∈fp,H' b=none)∧W i m σ' H':=fun {σ7 H7} I7 n7=>by
   obtain⟨m',hm,w7⟩:=hN σ7 H7 n7;refine⟨m',hm,i+1,σ7,H7,I7.fA,T.keep _ _ _ st5 λb hb o e=>(I7.pin (b,o) (mem_append_right _ (mem_append_right _ (fS hb e)))).1,λb hb=>?_,w7⟩;obtain⟨o,e,d⟩:=T.obj _ _ st5 b hb;exact(I7.pin (b,o) (mem_append_right _ (mem_append_right _ (fS hb e)))).2.1
  cases f with
  |next=>obtain⟨σ7,H7,I7,n7⟩:=q7;exact again I7 n7
  |cont=>obtain⟨σ7,H7,I7,n7⟩:=q7;exact again I7 n7
  |brk=>obtain⟨σ7,H7,I7,q7⟩:=q7;exact⟨σ7,H7,I7.fA,q7⟩
  |ret v=>obtain⟨x7,σ7,H7,I7,r7,q7⟩:=q7;exact⟨x7,σ7,H7,I7.fA,r7,q7⟩
end
def dP{K:0e9}{a:3e5}{xs:4e5}{g:TG}{tb:TS}{D:Ends}{σ:St}{H:Hp}(Pv:Nat→St→Hp→Prop)(h0:Pv 0 σ H)(hl:∀i σ H,i≤xs.length→Pv i σ H→bM K H a xs)
  (hs:∀i x σ H,xs[i]? =some x→Pv i σ H→g x σ H fun σ2 H2=>tb { D with nx:=Pv (i+1),ct:=Pv (i+1),bk:=D.nx } σ2 H2) (hd:∀σ H,Pv xs.length σ H→D.nx σ H):
  ∃W:Nat→Nat→St→Hp→Prop,(∃m,W 0 m σ H)∧∀i m σ H,W i m σ H→
   ((CZ K a).stop i H∧D.nx σ H)∨((CZ K a).go i H∧∃N:St→Hp→Prop,(∀σ' H',N σ' H'→∃m',m'<m∧W (i+1) m' σ' H')∧∀x H',(CZ K a).oW i H x H'→g x σ H' fun σ2 H2=>tb { D with nx:=N,ct:=N,bk:=D.nx } σ2 H2):=by
 refine⟨λi m σ H=>m=xs.length - i∧i≤xs.length∧Pv i σ H,⟨xs.length,by simp,zero_le _,h0⟩,?_⟩;rintro i m σ H ⟨rfl,hi,p⟩;have q:=hl i σ H hi p;by_cases oH:i<xs.length
 ·refine .inr ⟨⟨xs,xs[i],q,by simp [oH]⟩,Pv (i+1),fun σ' H' p'=>⟨xs.length - (i+1),by omega,rfl,oH,p'⟩,λx H' y=>?_⟩;obtain⟨e,y⟩:=y;subst e;exact hs i x σ _ (y xs q) p
 ·have e:i=xs.length:=by omega
  subst e;exact .inl ⟨⟨xs,q,le_refl _⟩,hd σ H p⟩
def vd{lo:Int}{n:Nat}{g:TG}{tb:TS}{D:Ends}{σ:St}{H:Hp}(Pv:Nat→St→Hp→Prop)(h0:Pv 0 σ H)
  (hs:∀i σ H,i<n→Pv i σ H→g (.int (lo+i)) σ H fun σ2 H2=>tb { D with nx:=Pv (i+1),ct:=Pv (i+1),bk:=D.nx } σ2 H2) (hd:∀σ H,Pv n σ H→D.nx σ H):
  ∃W:Nat→Nat→St→Hp→Prop,(∃m,W 0 m σ H)∧∀i m σ H,W i m σ H→
   ((Hd lo n).stop i H∧D.nx σ H)∨((Hd lo n).go i H∧∃N:St→Hp→Prop,(∀σ' H',N σ' H'→∃m',m'<m∧W (i+1) m' σ' H')∧∀x H',(Hd lo n).oW i H x H'→g x σ H' fun σ2 H2=>tb { D with nx:=N,ct:=N,bk:=D.nx } σ2 H2):=by
 refine⟨λi m σ H=>m=n - i∧i≤n∧Pv i σ H,⟨n,by simp,zero_le _,h0⟩,?_⟩;rintro i m σ H ⟨rfl,hi,p⟩;by_cases oH:i<n
 ·refine .inr ⟨oH,Pv (i+1),fun σ' H' p'=>⟨n - (i+1),by omega,rfl,oH,p'⟩,λx H' y=>?_⟩;obtain⟨e,y⟩:=y;subst e y;exact hs i σ _ oH p
 ·have e:i=n:=by omega
  subst e;exact .inl ⟨le_refl _,hd σ H p⟩
end L2
namespace L2
open PySem PySem.Spec PyProof.Rows
abbrev R2:=V→V→Hp→VK→Prop
def oY(X:Cx)(f:Value→Value→Sem Value)(r:R2):Prop:=
 ∀(pins:1e4) (s:Shared) (σ:St) (H:Hp) (x y:V) (v u:Value) (Q:VK),Inv X pins σ H s→RelV x v→RelV y u→r x y H Q→
  wpAny 1e0 X.A (f v u) (EP X pins σ Q) X.xe s
def UnR(X:Cx)(f:Value→Sem Value)(r:V→Hp→VK→Prop):Prop:=
 ∀(pins:1e4) (s:Shared) (σ:St) (H:Hp) (x:V) (v:Value) (Q:VK),Inv X pins σ H s→RelV x v→r x H Q→
  wpAny 1e0 X.A (f v) (EP X pins σ Q) X.xe s
def fB(X:Cx)(f:Value)(r:List V→Hp→VK→Prop):Prop:=
 ∀(pins:1e4) (s:Shared) (σ:St) (H:Hp) (xs:4e5) (us:4e1) (Q:VK),Inv X pins σ H s→Vals xs us→r xs H Q→
  wpAny 1e0 X.A (call f us) (EP X pins σ Q) X.xe s
def TruR(X:Cx)(r:V→Hp→(Bool→Hp→Prop)→Prop):Prop:=
 ∀(pins:1e4) (s:Shared) (σ:St) (H:Hp) (x:V) (v:Value) (Q:Bool→Hp→Prop),Inv X pins σ H s→RelV x v→r x H Q→
  wpAny 1e0 X.A (truthy v) (TP X pins σ Q) X.xe s
def Q7(r:R2)(ta tb:TE):TE:=fun σ H Q=>ta σ H λx H1=>tb σ H1 λy H2=>r x y H2 Q
def tUn(r:V→Hp→VK→Prop)(ta:TE):TE:=fun σ H Q=>ta σ H λx H1=>r x H1 Q
inductive RI(C:Int→Int→Prop)(g:Int→Int→V)(x y:V)(H:Hp)(Q:VK):Prop
 |mk (i j:Int) (e:x= .int i) (f:y= .int j) (c:C i j) (q:Q (g i j) H)
def rI(C:Int→Int→Prop)(g:Int→Int→V):R2:=RI C g
inductive RJ(g:Int→Int→V)(x y:V)(H:Hp)(Q:VK):Prop
 |mk (i j:Int) (e:x= .int i) (f:y= .int j) (q:Q (g i j) H)
def L1(g:Int→Int→V):R2:=RJ g
def rU(g:Int→V):V→Hp→VK→Prop:=λx H Q=>∃i,x= .int i∧Q (g i) H
section
variable {X:Cx}{a b c:Expr}{ta tb tc:TE}{pos:Pos}
def Q8(ha:PE X a ta)(hb:PE X b tb){R:V→V→Hp→Prop}(I:1e1)(h:ta σ H λx H1=>tb σ H1 λy H2=>R x y H2) {Q:0e3} {f:Value→Value→Sem Value}(hf:∀v u s2 x y H2,Inv X pins σ H2 s2→RelV x v→RelV y u→R x y H2→wpAny 1e0 X.A (f v u) Q X.xe s2):
  wpAny 1e0 X.A (eval a X.env) (λv s₁=>wpAny 1e0 X.A (eval b X.env) (λu s₂=>wpAny 1e0 X.A (f v u) Q X.xe s₂) X.xe s₁) X.xe s:=by
 refine bR (ha pins s σ H _ I h) λv s1 ⟨x,H1,I1,r1,q1⟩=>?_;refine bR (hb pins s1 σ H1 _ I1 q1) λu s2 ⟨y,H2,I2,r2,q2⟩=>?_;exact hf v u s2 x y H2 I2 r1 r2 q2
def ay{op:Operator}(ho:oY X (binaryOp op) r)(ha:PE X a ta)(hb:PE X b tb):PE X (.BinOp a op b pos) (Q7 r ta tb):=by
 intro pins s σ H Q I h;exact wpAny_BinOp (Q8 ha hb I h λv u s2 x y H2 I2 rx ry q=>ho pins s2 σ H2 x y v u Q I2 rx ry q)
def kg{op:UnaryOp}{r:V→Hp→VK→Prop}(ho:UnR X (unaryOp op) r)(ha:PE X a ta):PE X (.UnaryOp op a pos) (tUn r ta):=by
 intro pins s σ H Q I h;exact UnaryOp_ (bR (ha pins s σ H _ I h) λv s1 ⟨x,H1,I1,r1,q1⟩=>ho pins s1 σ H1 x v Q I1 r1 q1)
def UZ{f:Value→Value→Sem Value}{C:Int→Int→Prop}{g:Int→Int→Int}
  (rule:∀(i j:Int) (t u:Tok) (s:Shared) (Q:0e3) (E:0e3),C i j→Q (.int (g i j) s.toks) { s with toks:=s.toks+1 }→wpAny 1e0 X.A (f (.int i t) (.int j u)) Q E s):
  oY X f (rI C λi j=> .int (g i j)):=by
 intro pins s σ H x y v u Q I rx ry h;obtain⟨i,j,rfl,rfl,hc,q⟩:=h;obtain⟨t,rfl⟩:=rx;obtain⟨t',rfl⟩:=ry;exact rule i j t t' s _ _ hc ⟨.int (g i j),H,I.tok _,2e4,q⟩
def VP{f:Value→Value→Sem Value}{g:Int→Int→Int}
  (rule:∀(i j:Int) (t u:Tok) (s:Shared) (Q:0e3) (E:0e3),Q (.int (g i j) s.toks) { s with toks:=s.toks+1 }→wpAny 1e0 X.A (f (.int i t) (.int j u)) Q E s):
  oY X f (L1 λi j=> .int (g i j)):=by
 intro pins s σ H x y v u Q I rx ry h;obtain⟨i,j,rfl,rfl,q⟩:=h;obtain⟨t,rfl⟩:=rx;obtain⟨t',rfl⟩:=ry;exact rule i j t t' s _ _ ⟨.int (g i j),H,I.tok _,2e4,q⟩
def Mp{f:Value→Value→Sem Value}{g:Int→Int→Bool}
  (rule:∀(i j:Int) (t u:Tok) (s:Shared) (Q:0e3) (E:0e3),Q (.bool (g i j)) s→wpAny 1e0 X.A (f (.int i t) (.int j u)) Q E s):
  oY X f (L1 λi j=> .bl (g i j)):=by
 intro pins s σ H x y v u Q I rx ry h;obtain⟨i,j,rfl,rfl,q⟩:=h;obtain⟨t,rfl⟩:=rx;obtain⟨t',rfl⟩:=ry;exact rule i j t t' s _ _ ⟨.bl (g i j),H,I,rfl,q⟩
def CDiv(i j:Int):Prop:=0<j∧j<1073741824
def CPow(i j:Int):Prop:=0≤j∧j≤1000000∧i.natAbs<2^64
def Hy(i j:Int):Prop:=(-(2^64) <i∧i<2^64)∨(-(2^64) <j∧j<2^64)
def Hy.ok{i j:Int}(h:Hy i j):IntMulOk i j:=by
 rcases h with ⟨h1,h2⟩ | ⟨h1,h2⟩
 ·exact .of_left (intBits_le_64 h1 h2)
 ·exact .of_right (intBits_le_64 h1 h2)
def bZ:oY X (binaryOp .Add) (L1 λi j=> .int (i+j)):=VP λ_ _ _ _ _ _ _ q=>add_int q
def oZ:oY X (binaryOp .Sub) (L1 λi j=> .int (i - j)):=VP λ_ _ _ _ _ _ _ q=>sub_int q
def fT:oY X (binaryOp .Mult) (rI Hy λi j=> .int (i*j)):=UZ λ_ _ _ _ _ _ _ hc q=>mul_int q hc.ok
def bO:oY X (binaryOp .FloorDiv) (rI CDiv λi j=> .int (i/j)):=UZ λi j _ _ _ _ _ hc q=>by
 have h1:(0 :Int) <j:=hc.1;have h2:j<1073741824:=hc.2;exact floordiv_int 0e5 (by rw[Int.fdiv_eq_ediv_of_nonneg i 0e5];exact q) (.inl (PyProof.noPylong_small 0e5))
def bw:oY X (binaryOp .Mod) (rI (λ_ j=>0<j) λi j=> .int (i%j)):=UZ λi j _ _ _ _ _ hc q=>by
 have h1:(0 :Int) <j:=hc;exact mod_int' 0e5 (by rw[Int.fmod_eq_emod_of_nonneg i 0e5];exact q)
def rE:oY X (binaryOp .Pow) (rI CPow λi j=> .int (i^j.toNat)):=UZ λ_ _ _ _ _ _ _ hc q=>pow_int_small hc.1 hc.2.1 hc.2.2 q
def unI{f:Value→Sem Value}{g:Int→Int}
  (rule:∀(i:Int) (t:Tok) (s:Shared) (Q:0e3) (E:0e3),Q (.int (g i) s.toks) { s with toks:=s.toks+1 }→wpAny 1e0 X.A (f (.int i t)) Q E s):
  UnR X f (rU λi=> .int (g i)):=by
 intro pins s σ H x v Q I rx h;obtain⟨i,rfl,q⟩:=h;obtain⟨t,rfl⟩:=rx;exact rule i t s _ _ ⟨.int (g i),H,I.tok _,2e4,q⟩
def gB:UnR X (unaryOp .USub) (rU λi=> .int (-i)):=unI λ_ _ _ _ _ q=>neg_int q
end
noncomputable def VQ:V→V→Bool
 | .cw, .cw=>true| .cw, .int _=>true| .int _, .cw=>true| .cw, .bl _=>true| .bl _, .cw=>true| .cw, .str _=>true| .str _, .cw=>true
 | .int _, .int _=>true| .bl _, .bl _=>true| .str _, .str _=>true| .Bh _, .Bh _=>true
 | .int _, .str _=>true| .str _, .int _=>true| .bl _, .str _=>true| .str _, .bl _=>true
 |_,_=>false
def rEq:R2:=λx y H Q=>VQ x y=true∧Q (.bl (decide (x=y))) H
def rNe:R2:=λx y H Q=>VQ x y=true∧Q (.bl (!decide (x=y))) H
def C0{i j:Int}:decide (V.int i=V.int j)=(i==j):=by
 rw[Bool.eq_iff_iff];simp
def Hz{i j:Bool}:decide (V.bl i=V.bl j)=(i==j):=by
 rw[Bool.eq_iff_iff];simp
def C1:decide (V.str i=V.str j)=(i==j):=by
 rw[Bool.eq_iff_iff];simp
def C2{i j:Array UInt8}:decide (V.Bh i=V.Bh j)=(i.toList==j.toList):=by
 rw[Bool.eq_iff_iff];cases i;cases j;simp
section
variable {X:Cx}{a b c:Expr}{ta tb tc:TE}{pos:Pos}
def bV{k k':Bool}(I:1e1)(q:Q (.bl k) H)(e:k=k'):EP X pins σ Q (.bool k') s:=by
 subst e;exact⟨.bl k,H,I,rfl,q⟩
def dk:oY X (compareOp .Eq) rEq:=by
 intro pins s σ H x y v u Q I rx ry h;obtain⟨hs,q⟩:=h
 cases x with
 |cw=>
  cases rx
  cases y with
  |cw=>cases ry;exact PySem.EqNone.eq_none_none (bV I q 2e9)
  |bl j=>cases ry;exact PySem.EqNone.eq_none_bool (bV I q 2e9)
  |int j=>obtain⟨t',rfl⟩:=ry;exact PySem.EqNone.eq_none_int (bV I q 2e9)
  |str j=>obtain⟨t',rfl⟩:=ry;exact PySem.EqNone.eq_none_str (bV I q 2e9)
  |_=>exact absurd (show false=true from hs) Bool.false_ne_true
 |bl i=>
  cases rx
  cases y with
  |cw=>cases ry;exact PySem.EqNone.eq_bool_none (bV I q 2e9)
  |bl j=>cases ry;exact eq_bool (bV I q Hz)
  |str j=>obtain⟨t',rfl⟩:=ry;exact PySem.EqMixed.eq_bool_str (bV I q 2e9)
  |_=>exact absurd (show false=true from hs) Bool.false_ne_true
 |int i=>
  obtain⟨t,rfl⟩:=rx
  cases y with
  |cw=>cases ry;exact PySem.EqNone.eq_int_none (bV I q 2e9)
  |int j=>obtain⟨t',rfl⟩:=ry;exact eq_int (bV I q C0)
  |str j=>obtain⟨t',rfl⟩:=ry;exact PySem.EqMixed.eq_int_str (bV I q 2e9)
  |_=>exact absurd (show false=true from hs) Bool.false_ne_true
 |str i=>
  obtain⟨t,rfl⟩:=rx
  cases y with
  |cw=>cases ry;exact PySem.EqNone.eq_str_none (bV I q 2e9)
  |bl j=>cases ry;exact PySem.EqMixed.eq_str_bool (bV I q 2e9)
  |int j=>obtain⟨t',rfl⟩:=ry;exact PySem.EqMixed.eq_str_int (bV I q 2e9)
  |str j=>obtain⟨t',rfl⟩:=ry;exact eq_str (bV I q C1)
  |_=>exact absurd (show false=true from hs) Bool.false_ne_true
 |Bh i=>
  obtain⟨t,rfl⟩:=rx
  cases y with
  |Bh j=>obtain⟨t',rfl⟩:=ry;exact PySem.W.eq_bytes (bV I q C2)
  |_=>exact absurd (show false=true from hs) Bool.false_ne_true
 |_=>cases y<;>exact absurd (show false=true from hs) Bool.false_ne_true
def me:oY X (compareOp .NotEq) rNe:=by
 intro pins s σ H x y v u Q I rx ry h;obtain⟨hs,q⟩:=h
 cases x with
 |cw=>
  cases rx
  cases y with
  |cw=>cases ry;exact PySem.EqNone.ne_none_none (bV I q 2e9)
  |bl j=>cases ry;exact PySem.EqNone.ne_none_bool (bV I q 2e9)
  |int j=>obtain⟨t',rfl⟩:=ry;exact PySem.EqNone.ne_none_int (bV I q 2e9)
  |str j=>obtain⟨t',rfl⟩:=ry;exact PySem.EqNone.ne_none_str (bV I q 2e9)
  |_=>exact absurd (show false=true from hs) Bool.false_ne_true
 |bl i=>
  cases rx
  cases y with
  |cw=>cases ry;exact PySem.EqNone.ne_bool_none (bV I q 2e9)
  |bl j=>cases ry;exact ne_bool (bV I q (congrArg not Hz))
  |str j=>obtain⟨t',rfl⟩:=ry;exact PySem.EqMixed.ne_bool_str (bV I q 2e9)
  |_=>exact absurd (show false=true from hs) Bool.false_ne_true
 |int i=>
  obtain⟨t,rfl⟩:=rx
  cases y with
  |cw=>cases ry;exact PySem.EqNone.ne_int_none (bV I q 2e9)
  |int j=>obtain⟨t',rfl⟩:=ry;exact ne_int (bV I q (congrArg not C0))
  |str j=>obtain⟨t',rfl⟩:=ry;exact PySem.EqMixed.ne_int_str (bV I q 2e9)
  |_=>exact absurd (show false=true from hs) Bool.false_ne_true
 |str i=>
  obtain⟨t,rfl⟩:=rx
  cases y with
  |cw=>cases ry;exact PySem.EqNone.ne_str_none (bV I q 2e9)
  |bl j=>cases ry;exact PySem.EqMixed.ne_str_bool (bV I q 2e9)
  |int j=>obtain⟨t',rfl⟩:=ry;exact PySem.EqMixed.ne_str_int (bV I q 2e9)
  |str j=>obtain⟨t',rfl⟩:=ry;exact ne_str (bV I q (congrArg not C1))
  |_=>exact absurd (show false=true from hs) Bool.false_ne_true
 |Bh i=>
  obtain⟨t,rfl⟩:=rx
  cases y with
  |Bh j=>obtain⟨t',rfl⟩:=ry;exact PySem.W.ne_bytes (bV I q (congrArg not C2))
  |_=>exact absurd (show false=true from hs) Bool.false_ne_true
 |_=>cases y<;>exact absurd (show false=true from hs) Bool.false_ne_true
def pZ:oY X (compareOp .Lt) (L1 λi j=> .bl (decide (i<j))):=Mp λ_ _ _ _ _ _ _ q=>lt_int q
def Pt:oY X (compareOp .LtE) (L1 λi j=> .bl (decide (i≤j))):=Mp λ_ _ _ _ _ _ _ q=>le_int q
def mR:oY X (compareOp .Gt) (L1 λi j=> .bl (decide (j<i))):=Mp λ_ _ _ _ _ _ _ q=>gt_int q
def VR:oY X (compareOp .GtE) (L1 λi j=> .bl (decide (j≤i))):=Mp λ_ _ _ _ _ _ _ q=>ge_int q
def aO(b:Expr){op:CmpOp}(h:op≠ .In:=by decide)(h2:op≠ .NotIn:=by decide):behindInMarks op b=false:=by
 have e1:(op==CmpOp.In)=false:=by cases op<;>first|rfl|exact absurd rfl h
 have e2:(op==CmpOp.NotIn)=false:=by cases op<;>first|rfl|exact absurd rfl h2
 cases b<;>simp [behindInMarks,e1,e2]
def jw{op:CmpOp}(ho:oY X (compareOp op) r)(ha:PE X a ta)(hb:PE X b tb)(hm:behindInMarks op b=false):PE X (.Compare a [op] [b] pos) (Q7 r ta tb):=by
 intro pins s σ H Q I h;exact wpAny_Compare1 (Q8 ha hb I h λv u s2 x y H2 I2 rx ry q=>ho pins s2 σ H2 x y v u Q I2 rx ry q) hm
def VS(t:TE):TT:=fun σ H Q=>t σ H λx H'=>∃k,x= .bl k∧Q k H'
def aL{op:CmpOp}(ho:oY X (compareOp op) r)(ha:PE X a ta)(hb:PE X b tb)(hm:behindInMarks op b=false):PT X (.Compare a [op] [b] pos) (VS (Q7 r ta tb)):=by
 intro pins s σ H Q I h
 refine wpAny_isTrue_Compare1 (bR (ha pins s σ H _ I h) λv s1 ⟨x,H1,I1,r1,q1⟩=>bR (hb pins s1 σ H1 _ I1 q1) λu s2 ⟨y,H2,I2,r2,q2⟩=>
  bR (ho pins s2 σ H2 x y v u _ I2 r1 r2 q2) λc s3 ⟨z,H3,I3,r3,k,e,q3⟩=>?_) hm
 subst e;cases r3;exact wpAny_truthy_bool ⟨H3,I3,q3⟩
def Q9(r r':R2)(ta tb tc:TE):TE:=fun σ H Q=>ta σ H λx H1=>tb σ H1 λy H2=>r x y H2 λz H3=>∃k,z= .bl k∧
 (if k=true then tc σ H3 λw' H4=>r' y w' H4 Q else Q (.bl false) H3)
def rF{op op':CmpOp}(ho:oY X (compareOp op) r)(yR:oY X (compareOp op') r')(ha:PE X a ta)(hb:PE X b tb)(hc:PE X c tc)(hm:lastMarks [op,op'] [b,c]=false:=by with_unfolding_all rfl):PE X (.Compare a [op,op'] [b,c] pos) (Q9 r r' ta tb tc):=by
 intro pins s σ H Q I h
 refine Compare_chain (bR (ha pins s σ H _ I h) λv s1 ⟨x,H1,I1,r1,q1⟩=>chain_link (bR (hb pins s1 σ H1 _ I1 q1) λu s2 ⟨y,H2,I2,r2,q2⟩=>
  bR (ho pins s2 σ H2 x y v u _ I2 r1 r2 q2) λd s3 ⟨z,H3,I3,r3,k,e,q3⟩=>?_)) hm
 subst e;cases r3;refine wpAny_truthy_bool ?_
 cases k with
 |false=>exact ite_ff ⟨.bl false,H3,I3,rfl,q3⟩
 |true=>exact ite_tt (chain_last (bR (hc pins s3 σ H3 _ I3 q3) λw' s4 ⟨z',H4,I4,r4,q4⟩=>yR pins s4 σ H4 y z' u w' Q I4 r2 r4 q4))
def VT(K:0e9)(x:V)(H:Hp)(k:Bool):Prop:=
 match x with
 | .cw=>k=false
 | .bl b=>k=b
 | .int i=>k=(i != 0)
 | .str y=>y.length≤sizeLine∧k=((y.length:Int) != 0)
 | .Bh y=>y.size≤sizeLine∧k=((y.size:Int) != 0)
 | .ref p=>(∃xs,bM K H p xs∧k=!xs.isEmpty)∨(∃xs,km K H p xs∧k=!xs.isEmpty)∨∃kvs,H p=some 3e0∧k=!kvs.isEmpty
 |_=>False
def Bn{κ:Type}{kvs:List (κ×V)}{vs:List (κ×Value)}(r:KV kvs vs):(!vs.isEmpty)=!kvs.isEmpty:=by
 cases r<;>rfl
def rG(r:Vals xs its):(!its.toArray.isEmpty)=!xs.isEmpty:=by
 cases r<;>simp
def o5:(sizeLine:Nat) <2^63:=by rw[sizeLine_eq];decide
def Ra:TruR X (λx H Q=>∃k,VT X.K x H k∧Q k H):=by
 intro pins s σ H x v Q I rx h;obtain⟨k,e,q⟩:=h;have hl:=o5;have hs:sizeLine=16777216:=sizeLine_eq
 cases x with
 |cw=>
  cases rx;have e':k=false:=e;subst e';exact truthy_none ⟨H,I,q⟩
 |bl b=>
  cases rx;have e':k=b:=e;subst e';exact wpAny_truthy_bool ⟨H,I,q⟩
 |int i=>
  obtain⟨t,rfl⟩:=rx;have e':k=(i != 0):=e;subst e';exact PySem.P.truthy_int ⟨H,I,q⟩
 |str y=>
  obtain⟨t,rfl⟩:=rx;obtain⟨hy,e'⟩:y.length≤sizeLine∧k=((y.length:Int) != 0):=e;subst e';exact PySem.P.truthy_str 0e5 ⟨H,I.tok _,q⟩
 |Bh y=>
  obtain⟨t,rfl⟩:=rx;obtain⟨hy,e'⟩:y.size≤sizeLine∧k=((y.size:Int) != 0):=e;subst e';exact PySem.W.truthy_bytes 0e5 ⟨H,I.tok _,q⟩
 |ref p=>
  cases rx;have e':(∃xs,bM X.K H p xs∧k=!xs.isEmpty)∨(∃xs,km X.K H p xs∧k=!xs.isEmpty)∨∃kvs,H p=some 3e0∧k=!kvs.isEmpty:=e;rcases e' with ⟨xs,hx,e'⟩ | ⟨xs,hx,e'⟩ | ⟨kvs,hx,e'⟩
  ·subst e';obtain⟨its,r,pl,hz⟩:=I.list hx;have hlen:=r.length;exact wpAny_truthy_list pl.isList (by simp only [size_toArray];omega) ⟨H,I.tok _,by rw[rG r];exact q⟩
  ·subst e';obtain⟨its,r,pl,hz⟩:=I.tuple hx;have hlen:=r.length;exact truthy_tuple pl (by simp only [size_toArray];omega) ⟨H,I.tok _,by rw[rG r];exact q⟩
  ·subst e';obtain⟨hz,hS,vs,r,m⟩:kvs.length≤sizeLine∧(p==sysModules)=false∧∃vs,KV kvs vs∧s.heap.DictOf (bz X.prog X.w) p vs:=I.aM p _ hx;have hlen:kvs.length=vs.length:=Paired.length r;exact wpAny_truthy_dict hS m 0e5 ⟨H,I.tok _,by rw[Bn r];exact q⟩
 |_=>exact(show False from e).elim
def mS(ha:PE X a ta)(he:∀whole,isTrue a X.env whole=(do let v←whole;standAt a.pos;holding [v] (truthy v))):
  PT X a (fun σ H Q=>ta σ H λx H'=>∃k,VT X.K x H' k∧Q k H'):=by
 intro pins s σ H Q I h;exact isTrue_plain (bR (ha pins s σ H _ I h) λv s1 ⟨x,H1,I1,r1,q1⟩=>Ra pins s1 σ H1 x v Q I1 r1 q1) (he _)
def bj:oY X (binaryOp .Add) (λx y H Q=>∃i j,x= .str i∧y= .str j∧i.length+j.length≤sizeLine∧Q (.str (i++j)) H):=by
 intro pins s σ H x y v u Q I rx ry h;obtain⟨i,j,rfl,rfl,hz,q⟩:=h;obtain⟨t,rfl⟩:=rx;obtain⟨t',rfl⟩:=ry;exact add_str (λt' tk=>⟨.str (i++j),H,I.tok _,2e4,q⟩) hz
def vals1(r:Vals [x] us):∃u,us=[u]∧RelV x u:=by
 cases r with
 |cons r1 r2=>cases r2;exact⟨_,rfl,r1⟩
def vals2(r:Vals [x,y] us):∃u w',us=[u,w']∧RelV x u∧RelV y w':=by
 cases r with
 |cons r1 r2=>
  cases r2 with
  |cons r3 r4=>cases r4;exact⟨_,_,rfl,r1,r3⟩
def zh:fB X (.builtin "abs") (λxs H Q=>∃i,xs=[.int i]∧Q (.int (if i<0 then -i else i)) H):=by
 intro pins s σ H xs us Q I r h;obtain⟨i,rfl,q⟩:=h;obtain⟨u,rfl,t,rfl⟩:=vals1 r;exact call_abs_int λu tk=>⟨.int (if i<0 then -i else i),H,I.tok _,2e4,q⟩
def o6:fB X (.type "int") (λxs H Q=>(∃i,xs=[.int i]∧Q (.int i) H)∨∃k,xs=[.bl k]∧Q (.int (if k then 1 else 0)) H):=by
 intro pins s σ H xs us Q I r h;rcases h with ⟨i,rfl,q⟩ | ⟨k,rfl,q⟩
 ·obtain⟨u,rfl,t,rfl⟩:=vals1 r;exact call_int_int ⟨.int i,H,I,2e4,q⟩
 ·obtain⟨u,rfl,r1⟩:=vals1 r;cases r1;exact call_int_bool ⟨.int (if k then 1 else 0),H,I.tok _,2e4,q⟩
def jx:fB X (.type "str") (λxs H Q=>∃i,xs=[.int i]∧i.natAbs.log2<1920∧Q (.str (toString i)) H):=by
 intro pins s σ H xs us Q I r h;obtain⟨i,rfl,hz,q⟩:=h;obtain⟨u,rfl,t,rfl⟩:=vals1 r;exact PySem.P.str_of_int hz ⟨.str _,H,I.tok _,2e4,q⟩
end
end L2
namespace L2
open PySem PySem.Spec PyProof.Rows
structure Bo(h:Heap)(x dx C:3e5)(mA:1e3):Prop where
 obj:h.get? x=some (PySem.W.instObj C dx)
 ns:h.Ns1 dx mA
 ne:dx≠x
def ve{h:Heap}(n:h.Ns1 dx mA):∃od,h.get? dx=some od∧∀name,PySem.W.lookIn name od=some (mA name):=by
 obtain⟨o,es,ep,ho,hd,hk,_,hm⟩:=n;refine⟨o,ho,λname=>?_⟩;have e:=hm name;unfold nsFind findBy at e;rw[←Array.find?_toList] at e;unfold PySem.W.lookIn;rw[hd];dsimp only;split
 ·rename_i y q
  rw[q] at e;exact congrArg some e
 ·rename_i q
  rw[q] at e
  have a:es.toList.any (·.refKey)=false:=by
   rw[List.any_eq_false];intro y hy;obtain⟨z,t,hkey⟩:=hk y (Array.mem_toList_iff.mp hy);simp [DictEntry.refKey,hkey]
  have a':¬es.toList.any (·.refKey)=true:=by rw[a];exact Bool.false_ne_true
  rw[if_neg a'];exact congrArg some e
def Bo.look(I:Bo h x dx C mA):∃od,PySem.W.InstAt h x (PySem.W.instObj C dx) C (some od)∧∀name,PySem.W.lookIn name od=some (mA name):=
 let ⟨od,ho,hl⟩:=ve I.ns
 ⟨od,⟨I.obj,rfl,rfl,ho⟩,hl⟩
section
variable {prog:Program}{w:World}{A:Around}{E:0e3}{s:Shared}{K:0e9}{x dx C f:3e5}{mA:1e3}{name:Str}{v:Value}
def get_map{expr:Bool}{Q:0e3}(X:K.In s.heap)(I:Bo s.heap x dx C mA)(hg:PySem.W.plainGet K C name=true)(hh:PySem.W.hasDictIn K C=true)
  (ha:PySem.W.findIn K (.ref C) name=some none) (hv:mA name=some v) (hv':PySem.W.handedIn v=true) (h:Q v { s with toks:=s.toks+1 }):
  wpAny 2e5 A (getAttr (.ref x) name expr) Q E s:=by
 obtain⟨od,J,hl⟩:=I.look;exact PySem.W.get_value X J (PySem.W.plainGet_of hg).1 (PySem.W.findObj_own hh ha rfl (by rw[hl,hv])) hv' h
def HA{pl:Sem Bool}{Q:Value×List Value→Shared→Prop}(X:K.In s.heap)(I:Bo s.heap x dx C mA)(hg:PySem.W.plainGet K C name=true)
  (hf:PySem.W.findIn K (.ref C) name=some (some (.ref f))) (ht:PySem.W.isFn K (.ref f)=true) (hv:mA name=none) (h:Q (.ref f,[.ref x]) s):
  wpAny 2e5 A (getMethod (.ref x) name pl) Q E s:=by
 obtain⟨od,J,hl⟩:=I.look;exact PySem.W.method_fn X J (PySem.W.plainGet_of hg).1 (PySem.W.plainGet_of hg).2 hf (beq_iff_eq.mp ht) (by show (PySem.W.lookIn name od).map (·.isSome)=some false;rw[hl,hv];rfl) h
def Mq{Q:Unit→Shared→Prop}(X:K.In s.heap)(I:Bo s.heap x dx C mA)(hs:PySem.W.findIn K (.ref C) "__setattr__" =some 3e9) (hp:PySem.W.plainOver K C=true) (ht:PySem.W.takerIn K C name=some none) (hh:PySem.W.hasDictIn K C=true)(hw:PySem.Within mA ns) (hsz:ns.length≤sizeLine)(h:∀h',Bo h' x dx C (λy=>if y=name then some v else mA y)→Heap.SameBut dx s.heap h'→Q () { s with heap:=h',toks:=s.toks+2 }):
  wpAny 2e5 A (setAttr (.ref x) name v) Q E s:=by
 obtain⟨od,J,hl⟩:=I.look;refine PySem.W.set_plain X J hs (PySem.W.osa_open (s:={ s with toks:=s.toks+1 }) (r:=none) X J hp ht λb=>?_);obtain⟨cd,hc,iL⟩:=PySem.W.any_some hh;have hx:s.heap.get? x=some ⟨.ref C,some dx, .plain,#[]⟩:=I.obj;refine wpAny_bind (wpAny_pure (wpAny_bind (wpAny_bind (wpAny_loadPart hx (wpAny_bind (PySem.W.Looks.here (s:={ s with toks:=s.toks+1 }) (PySem.W.looks_clsIn X hc) ?_))))));rw[iL];refine wpAny_pure (a:=some dx) (wpAny_bind (wpAny_pure (wpAny_bind ?_)));refine wpAny_nsSet1 (s:={ s with toks:=s.toks+1 }) I.ns λh' Pu hs2=>?_;obtain⟨oD,esD,epD,hoD,hdD,Mr⟩:=Pu.count (PySem.Within.cons name v hw);refine wpAny_bind (wpAny_lookBehind hoD (by rw[hdD];exact pastItsLine_dict (le_trans Mr (by rw[length_cons];omega))) ?_);exact wpAny_pure (h _ ⟨(hs2.2 _ (Ne.symm I.ne)).trans I.obj,Pu,I.ne⟩ hs2)
def HC{R:Result→Shared→Prop}{kw:List (Str×Value)}(X:K.In s.heap)(hm:PySem.W.makesIn K C=true)(hi:PySem.W.findIn K (.ref C) "__init__" =some (some (.ref f))) (hf:PySem.W.typeIn K (.ref f)=some (.type "function"))(h:codeAny 2e5 (A.under (.builtin "type.__call__" ⟨.ref C::vs,kw⟩)) (.call (.ref f) ⟨.ref 3e2::vs,kw⟩) (PySem.W.InitBack 3e2 R)
   { s with heap:=(s.heap.push PySem.W.emptyDict).push (PySem.W.instObj C s.heap.objs.size) }):
  codeAny 2e5 A (.call (.ref C) ⟨vs,kw⟩) R s:=by
 obtain⟨hh,g,d,t,os⟩:=s;exact PySem.W.make_core (PySem.W.makes_of X hm) (PySem.W.looks_findIn X hi) (λself=>PySem.W.bind_fn X self hf) (.inl rfl) h
end
noncomputable def cx(f:Str)(v:V):List (Str×V)→List (Str×V)
 | []=>[(f,v)]
 | (g,x)::r=>if g=f then (g,v)::r else (g,x)::cx f v r
theorem aF(f g:Str)(v:V):∀fs:List (Str×V),(cx f v fs).lookup g=if g=f then some v else fs.lookup g
 | []=>by
   show List.lookup g [(f,v)]=_;by_cases h:g=f
   ·have hb:(g==f)=true:=beq_iff_eq.mpr h;simp only [List.lookup,hb,if_pos h]
   ·have hb:(g==f)=false:=beq_eq_false_iff_ne.mpr h;simp only [List.lookup,hb,if_neg h]
 | (k,x)::r=>by
   have ih:=aF f g v r;rw[show cx f v ((k,x)::r)=(if k=f then (k,v)::r else (k,x)::cx f v r) from rfl];by_cases hk:k=f
   ·rw[if_pos hk];by_cases h:g=k
    ·have hb:(g==k)=true:=beq_iff_eq.mpr h;simp only [List.lookup,hb,if_pos (h.trans hk)]
    ·have hb:(g==k)=false:=beq_eq_false_iff_ne.mpr h;simp only [List.lookup,hb,if_neg (λe:g=f=>h (e.trans hk.symm))]
   ·rw[if_neg hk];by_cases h:g=k
    ·have hb:(g==k)=true:=beq_iff_eq.mpr h;simp only [List.lookup,hb,if_neg (λe:g=f=>hk (h.symm.trans e))]
    ·have hb:(g==k)=false:=beq_eq_false_iff_ne.mpr h;simp only [List.lookup,hb];exact ih
theorem jf(f:Str)(v:V):∀fs:List (Str×V),f∈(cx f v fs).map 1e8∧∀g,g∈fs.map 1e8→g∈(cx f v fs).map 1e8
 | []=>⟨by simp [cx],λg h=>by simp at h⟩
 | (k,x)::r=>by
   obtain⟨i1,i2⟩:=jf f v r;rw[show cx f v ((k,x)::r)=(if k=f then (k,v)::r else (k,x)::cx f v r) from rfl];by_cases hk:k=f
   ·rw[if_pos hk];subst hk;exact⟨by simp,λg h=>by simpa using h⟩
   ·rw[if_neg hk];refine⟨?_,λg h=>?_⟩
    ·rw[map_cons];exact mem_cons_of_mem _ i1
    ·rw[map_cons] at h ⊢;rcases mem_cons.mp h with e|e
     ·exact mem_cons.mpr (.inl e)
     ·exact mem_cons_of_mem _ (i2 g e)
theorem fe(f:Str)(v:V):∀fs:List (Str×V),(cx f v fs).length≤fs.length+1
 | []=>by simp [cx]
 | (k,x)::r=>by
   have ih:=fe f v r;rw[show cx f v ((k,x)::r)=(if k=f then (k,v)::r else (k,x)::cx f v r) from rfl];by_cases hk:k=f
   ·rw[if_pos hk,length_cons,length_cons];omega
   ·rw[if_neg hk,length_cons,length_cons];omega
def hX.some_of{o:Option Value}(r:hX (some v) o):∃u,o=some u∧RelV v u:=by
 cases o with
 |none=>exact(show False from r).elim
 |some u=>exact⟨u,rfl,r⟩
def hX.none_of{o:Option Value}(r:hX none o):o=none:=by
 cases o with
 |none=>rfl
 |some u=>exact(show False from r).elim
def E8(r:RelV v u):PySem.W.handedIn u=true:=by
 cases v with
 |cw=>cases (show u=Value.none from r);rfl
 |bl b=>cases (show u=Value.bool b from r);rfl
 |int i=>obtain⟨t,e⟩:=(show∃t,u=Value.int i t from r);cases e;rfl
 |str x=>obtain⟨t,e⟩:=(show∃t,u=Value.str x t from r);cases e;rfl
 |Bh b=>obtain⟨t,e⟩:=(show∃t,u=Value.bytes b t from r);cases e;rfl
 |Pj b=>obtain⟨t,e⟩:=(show∃t,u=Value.float b t from r);cases e;rfl
 |ref a=>cases (show u=Value.ref a from r);rfl
 |ty n=>cases (show u=Value.type n from r);rfl
section
variable {P:Program}{w:World}{H H':Hp}{h h':Heap}{a C dx:3e5}{fs Mh:List (Str×V)}
def qx(aM:kj P w H h)(e:H a=some (.ins C dx fs)):∃mA,Bo h a dx C mA∧(∀f,hX (fs.lookup f) (mA f))∧PySem.Within mA (fs.map 1e8)∧fs.length≤1000∧H dx=some (.own a):=by
 obtain⟨d,z,ne,ob,mA,n,r,q⟩:=(show cf P w H h a (.ins C dx fs) from aM a _ e);exact⟨mA,⟨ob,n,ne⟩,r,q,z,d⟩
end
structure uz(K:0e9)(C:3e5):Prop where
 pg:PySem.W.plainGet K C Str.empty=true
 hd:PySem.W.hasDictIn K C=true
 po:PySem.W.plainOver K C=true
 sa:PySem.W.findIn K (.ref C) "__setattr__" =some 3e9
def uz.get{K:0e9}{C:3e5}(c:uz K C)(f:Str):PySem.W.plainGet K C f=true:=c.pg
def cy(K:0e9)(C:3e5)(f:Str):Prop:=PySem.W.findIn K (.ref C) f=some none
def cy.VU{K:0e9}{C:3e5}{f:Str}(n:cy K C f):PySem.W.takerIn K C f=some none:=by
 unfold PySem.W.takerIn;rw[show PySem.W.findIn K (.ref C) f=some none from n];rfl
structure Meth(K:0e9)(C:3e5)(m:Str)(f:3e5):Prop where
 at_:PySem.W.findIn K (.ref C) m=some (some (.ref f))
 fn:PySem.W.isFn K (.ref f)=true
 kp:keepIn K (.ref f)=true
section
variable {X:Cx}{pins:1e4}{σ:St}{H:Hp}{s:Shared}{a C dx:3e5}{fs:List (Str×V)}{f:Str}{v:V}{A:Around}{E:0e3}
def rH{b:Bool}{Q:0e3}(I:1e1)(e:H a=some (.ins C dx fs))(c:uz X.K C)(n:cy X.K C f)(l:fs.lookup f=some v)
  (h:∀u s',Inv X pins σ H s'→RelV v u→Q u s'):wpAny 1e0 A (getAttr (.ref a) f b) Q E s:=by
 obtain⟨mA,O,r,_,_,_⟩:=qx I.aM e;obtain⟨u,hu,ru⟩:=hX.some_of (v:=v) (o:=mA f) (by rw[←l];exact r f);exact get_map I.ju O (c.get f) c.hd n hu (E8 ru) (h u _ (I.tok _) ru)
def mv{pl:Sem Bool}{Q:Value×List Value→Shared→Prop}(I:1e1)(e:H a=some (.ins C dx fs))(c:uz X.K C)(k:Meth X.K C m g)(l:fs.lookup m=none)(h:Q (.ref g,[.ref a]) s):wpAny 1e0 A (getMethod (.ref a) m pl) Q E s:=by
 obtain⟨mA,O,r,_,_,_⟩:=qx I.aM e;have hn:mA m=none:=hX.none_of (by rw[←l];exact r m);exact HA I.ju O (c.get m) k.at_ k.fn hn h
def rJ{Q:Unit→Shared→Prop}(I:1e1)(e:H a=some (.ins C dx fs))(c:uz X.K C)(n:cy X.K C f)(hl:fs.length<1000)(ry:RelV y u)(h:∀s',Inv X pins σ (upd H a (.ins C dx (cx f y fs))) s'→Q () s'):wpAny 1e0 A (setAttr (.ref a) f u) Q E s:=by
 obtain⟨mA,O,r,wi,_,ho⟩:=qx I.aM e;have hz:(fs.map 1e8).length≤sizeLine:=by rw[length_map,sizeLine_eq];omega
 refine Mq I.ju O c.sa c.po n.VU c.hd wi hz λh' O' sb=>h _ ?_;have hd:∃o,h'.get? dx=some o:=let ⟨o,_,_,e',_⟩:=O'.ns;⟨o,e'⟩;refine I.write (x:=a) (e:=dx) (by rw[e];exact True.intro) (.inr ho) (λb q hb z=>(sb.2 b hb).trans z) hd ?_;refine⟨by rw[ah O.ne];exact ho,?_,O.ne,O'.obj,_,O'.ns,λg=>?_,λg hg=>?_⟩
 ·have:=fe f y fs;omega
 ·show hX ((cx f y fs).lookup g) (if g=f then some u else mA g);rw[aF];by_cases q:g=f
  ·rw[if_pos q,if_pos q];exact ry
  ·rw[if_neg q,if_neg q];exact r g
 ·by_cases q:g=f
  ·rw[q];exact(jf f y fs).1
  ·refine(jf f y fs).2 g (wi g λz=>hg ?_);show (if g=f then some u else mA g)=none;rw[if_neg q];exact z
def Inv.made(I:1e1):Inv X pins σ (upd (upd H s.heap.objs.size (.own 3e2)) 3e2 (.ins C s.heap.objs.size []))
  { s with heap:=(s.heap.push PySem.W.emptyDict).push (PySem.W.instObj C s.heap.objs.size) }:=by
 have e1:(s.heap.push PySem.W.emptyDict).get? s.heap.objs.size=some PySem.W.emptyDict:=Heap.get?_push_size s.heap rfl
 have e2:((s.heap.push PySem.W.emptyDict).push (PySem.W.instObj C s.heap.objs.size)).get? 3e2=some (PySem.W.instObj C s.heap.objs.size):=by
  have:=Heap.get?_push_size (s.heap.push PySem.W.emptyDict) (o:=PySem.W.instObj C s.heap.objs.size) rfl
  rwa [Heap.size_push] at this
 have e3:(s.heap.push PySem.W.emptyDict).Ns s.heap.objs.size (λ_=>none):=⟨PySem.W.emptyDict,#[],_,e1,rfl,(λe he=>absurd he 2e9),λ_=>rfl⟩;have I1:=I.laid (a:=s.heap.objs.size) (o:= .own 3e2) (h':=s.heap.push PySem.W.emptyDict) (t':=s.toks) (λb u q=>Heap.get?_push_of_some _ q) (le_refl _) ⟨_,e1⟩;refine I1.laid (a:=s.heap.objs.size+1) (o:= .ins C s.heap.objs.size []) (t':=s.toks) (λb u q=>Heap.get?_push_of_some _ q) (le_of_eq (Heap.size_push _ _)) ?_;have ne:s.heap.objs.size≠s.heap.objs.size+1:=ne_of_lt (lt_succ_self _);refine⟨by rw[ah ne,aa],zero_le _,ne,e2,λ_=>none,(Heap.Ns1.of_empty e3).at λo q=>Heap.get?_push_of_some _ q,λ_=>True.intro,λy hy=>absurd rfl hy⟩
def Ms{Q:0e3}(hb:attributeBase e f env (eval e env)=eval e env)(h:wpAny 2e5 A (eval e env) (λo s₁=>wpAny 2e5 A (getAttr o f true) Q E s₁) E s):wpAny 2e5 A (eval (.Attribute e f pos) env) Q E s:=
 Attribute_any_ h (by rw[arm_eval_Attribute,hb])
end
def tFld(K:0e9)(ta:TE)(f:Str):TE:=fun σ H Q=>ta σ H λx H1=>∃a C dx fs v,x= .ref a∧H1 a=some (.ins C dx fs)∧uz K C∧cy K C f∧fs.lookup f=some v∧Q v H1
def sFld(K:0e9)(ta tv:TE)(f:Str):TS:=λD σ H=>tv σ H λy H1=>ta σ H1 λx H2=>∃a C dx fs,x= .ref a∧H2 a=some (.ins C dx fs)∧uz K C∧cy K C f∧fs.length<1000∧
 D.nx σ (upd H2 a (.ins C dx (cx f y fs)))
def VW(X:Cx)(op:Operator)(rd:V→V→Hp→VK→Prop):Prop:=
 ∀(pins:1e4) (s:Shared) (σ:St) (H:Hp) (x y:V) (u v:Value) (Q:VK),Inv X pins σ H s→RelV x u→RelV y v→rd x y H Q→wpAny 1e0 X.A (inplaceOp op u v) (EP X pins σ Q) X.xe s
def Mt(K:0e9)(ta tv:TE)(rd:V→V→Hp→VK→Prop)(f:Str):TS:=λD σ H=>ta σ H λx H1=>∃a C dx fs v,x= .ref a∧H1 a=some (.ins C dx fs)∧uz K C∧cy K C f∧fs.lookup f=some v∧
 tv σ H1 λy H2=>rd v y H2 λz H3=>∃dm Mh,H3 a=some (.ins C dm Mh)∧Mh.length<1000∧D.nx σ (upd H3 a (.ins C dm (cx f z Mh)))
section
variable {X:Cx}{o e value:Expr}{f:Str}{pos pos' uA:Pos}{ta tv:TE}
def aQ(he:PE X e ta)(hb:attributeBase e f X.env (eval e X.env)=eval e X.env):PE X (.Attribute e f pos) (tFld X.K ta f):=by
 intro pins s σ H Q I h;refine Ms hb (bR (he pins s σ H _ I h) λu s1 ⟨x,H1,I1,rx,a,C,dx,fs,v,ex,ea,c,n,l,q⟩=>?_);subst ex;obtain rfl:u=Value.ref a:=rx;exact rH I1 ea c n l λu' s2 I2 ru=>⟨v,H1,I2,ru,q⟩
def eS(ha:PE X o ta)(hv:PE X value tv)(hs:swapsWith value (some (.Attribute o f pos')) pos.line X.env=pure false):PS X (.Assign [.Attribute o f pos'] value pos) (sFld X.K ta tv f):=by
 intro pins s σ H D I h;refine plainObj_wpAny_Assign_Attribute (bR (hv pins s σ H _ I h) λu s1 ⟨y,H1,I1,ry,q⟩=>bR (ha pins s1 σ H1 _ I1 q) λov s2 ⟨x,H2,I2,rx,a,C,dx,fs,ex,ea,c,n,l,q2⟩=>?_) hs;subst ex;obtain rfl:ov=Value.ref a:=rx;exact rJ I2 ea c n l ry λs3 I3=>⟨σ,_,I3,q2⟩
def lu{op:Operator}{rd:V→V→Hp→VK→Prop}(ha:PE X o ta)(hv:PE X value tv)(hop:VW X op rd):PS X (.AugAssign (.Attribute o f uA) op value pos) (Mt X.K ta tv rd f):=by
 intro pins s σ H D I h;refine wpAny_AugAssign_AttributeAny (bR (ha pins s σ H _ I h) λov s1 ⟨x,H1,I1,rx,a,C,dx,fs,v,ex,ea,c,n,l,q⟩=>?_);subst ex;obtain rfl:ov=Value.ref a:=rx;refine rH I1 ea c n l λu s2 I2 ru=>bR (hv pins s2 σ H1 _ I2 q) λw3 s3 ⟨y,H2,I3,ry,q3⟩=>bR (hop pins s3 σ H2 v y u w3 _ I3 ru ry q3) λw4 s4 ⟨z,H3,I4,rz,dm,Mh,ea',l',q4⟩=>?_;exact rJ I4 ea' c n l' rz λs5 I5=>⟨σ,_,I5,q4⟩
def rAdd:V→V→Hp→VK→Prop:=λx y H Q=>∃i j,x= .int i∧y= .int j∧Q (.int (i+j)) H
def xa:VW X .Add rAdd:=by
 rintro pins s σ H x y u v Q I rx ry ⟨i,j,rfl,rfl,q⟩;obtain⟨t,rfl⟩:=(show∃t,u=Value.int i t from rx);obtain⟨t',rfl⟩:=(show∃t',v=Value.int j t' from ry);exact PyProof.Rows.iadd_int ⟨.int (i+j),H,I.tok _,2e4,q⟩
end
section
variable {X:Cx}{pins:1e4}{σ:St}{H:Hp}{s:Shared}{A:Around}{E:0e3}{Q:0e3}{c:Value}{b:Bool}
inductive o7(K:0e9)(H:Hp):V→Value→Prop where
 |cw:o7 K H .cw (.type "NoneType")
 |bl (x:Bool):o7 K H (.bl x) (.type "bool")
 |int (i:Int):o7 K H (.int i) (.type "int")
 |str (x:Str):o7 K H (.str x) (.type "str")
 |Pj (x:UInt64):o7 K H (.Pj x) (.type "float")
 |lst {a:3e5} {xs:4e5} (e:H a=some (.lst xs)):o7 K H (.ref a) (.type "list")
 |dX {a:3e5} {o:Obj} {xs:4e5} (e:H a=some (.dX o (.lst xs))):o7 K H (.ref a) (.type "list")
 |tup {a:3e5} {xs:4e5} (e:H a=some (.tup xs)):o7 K H (.ref a) (.type "tuple")
 |dK {a:3e5} {kvs:0e2} (e:H a=some (.dK kvs)):o7 K H (.ref a) (.type "dict")
 |dT {a:3e5} {kvs:List (List Key×V)} (e:H a=some (.dT kvs)):o7 K H (.ref a) (.type "dict")
 |ins {a C dx:3e5} {fs:List (Str×V)} (e:H a=some (.ins C dx fs)) (cl:uz K C) (ha:PySem.W.findIn K (.ref C) "__class__" =some (some (.builtin "object.__class__")))
   (hn:PySem.W.specialIn K (.builtin "object.__class__") "__get__" =some (some (.builtin "getset_descriptor.__get__"))) (A9:PySem.W.takesIn K (.builtin "object.__class__")=some true)
   (hm:PySem.W.mroIn K C (.type "object")=some true):o7 K H (.ref a) (.ref C)
def E9(I:1e1)(rx:RelV x u)(ty:o7 X.K H x t)(e:kitOne X.K t c=some b)(h:∀tk,Q (.bool b) { s with toks:=tk }):
  wpAny 1e0 A (call (.builtin "isinstance") [u,c]) Q E s:=by
 cases ty with
 |cw=>cases (show u=Value.none from rx);exact PySem.W.kia_one PySem.W.kitx_none I.ju True.intro e (λz=>nomatch z) h
 |bl y=>cases (show u=Value.bool y from rx);exact PySem.W.kia_one PySem.W.kitx_bool I.ju True.intro e (λz=>nomatch z) h
 |int i=>obtain⟨t,q⟩:=(show∃t,u=Value.int i t from rx);cases q;exact PySem.W.kia_one PySem.W.kitx_int I.ju True.intro e (λz=>nomatch z) h
 |str y=>obtain⟨t,q⟩:=(show∃t,u=Value.str y t from rx);cases q;exact PySem.W.kia_one PySem.W.kitx_str I.ju True.intro e (λz=>nomatch z) h
 |Pj y=>obtain⟨t,q⟩:=(show∃t,u=Value.float y t from rx);cases q;exact PySem.W.kia_one PySem.W.kitx_float I.ju True.intro e (λz=>nomatch z) h
 | @lst a xs ea=>
   cases (show u=Value.ref a from rx);obtain⟨_,_,n,_,h1⟩:=(show cf X.prog X.w H s.heap a (.lst xs) from I.aM a _ ea);exact PySem.W.kia_one PySem.W.kitx_list I.ju ⟨_,h1,rfl⟩ e (λz=>nomatch z) h
 | @dX a ob xs ea=>
   cases (show u=Value.ref a from rx);obtain⟨_,_,_,n,_,h1⟩:=(show cf X.prog X.w H s.heap a (.dX ob (.lst xs)) from I.aM a _ ea);exact PySem.W.kia_one PySem.W.kitx_list I.ju ⟨_,h1,rfl⟩ e (λz=>nomatch z) h
 | @tup a xs ea=>
   cases (show u=Value.ref a from rx);obtain⟨_,_,_,p⟩:=(show cf X.prog X.w H s.heap a (.tup xs) from I.aM a _ ea);obtain⟨o,h1,h2,_⟩:=p;exact PySem.W.kia_one PySem.W.kitx_tuple I.ju ⟨o,h1,h2⟩ e (λz=>nomatch z) h
 | @dK a kvs ea=>
   cases (show u=Value.ref a from rx);obtain⟨_,_,vs,_,p⟩:=(show cf X.prog X.w H s.heap a 3e0 from I.aM a _ ea);obtain⟨o,es,ep,h1,h2,_⟩:=p;exact PySem.W.kia_one PySem.W.kitx_dict I.ju ⟨o,h1,h2.1⟩ e (λz=>nomatch z) h
 | @dT a kvs ea=>
   cases (show u=Value.ref a from rx);obtain⟨_,_,xs,_,o,es,ep,h1,h2,_⟩:=(show cf X.prog X.w H s.heap a (.dT kvs) from I.aM a _ ea);exact PySem.W.kia_one PySem.W.kitx_dict I.ju ⟨o,h1,h2.1⟩ e (λz=>nomatch z) h
 | @ins a C dx fs ea cl ha hn A9 hm=>
   cases (show u=Value.ref a from rx);obtain⟨mA,O,_⟩:=qx I.aM ea;obtain⟨od,J,_⟩:=O.look;exact PySem.W.kia_one (PySem.W.kitx_own (cl.get _) cl.hd ha hn A9 hm) I.ju J e (λz=>nomatch z) h
end
end L2
namespace L2
open PySem PySem.Spec PyProof.Rows
structure cG(k:Nat)(A:Around):Prop where
 hd:A.handled=none
 dp:A.depth+3*k+5<recursionLimit
 un:A.units+16*k+200<cLine
def cG.mono{j k:Nat}(r:cG k A)(h:j≤k):cG j A:=⟨r.hd,by have:=r.dp;omega,by have:=r.un;omega⟩
theorem cG.deeper{k:Nat}(r:cG (k+1) A)(env:Env):cG k (A.deeper env):=
 ⟨r.hd,by have:=r.dp;show A.depth+1+3*k+5<_;omega,by have:=r.un;show A.units+3+16*k+200<_;omega⟩
def Bp{A:Around}{C:3e5}{kw:List (Str×Value)}:(A.under (.builtin "type.__call__" ⟨.ref C::us,kw⟩)).depth=A.depth+1:=by
 first|rfl|simp [Around.under,Code.weight,Code.isCreation,Code.isGuard,Code.isCaller,Code.frames,Code.isFrame,guardIds]
def Bq{A:Around}{C:3e5}{kw:List (Str×Value)}:(A.under (.builtin "type.__call__" ⟨.ref C::us,kw⟩)).units=A.units+1:=by
 first|rfl|simp [Around.under,Code.cUnits,Code.frames,Code.isFrame]
def cG.make{k:Nat}(r:cG (k+1) A)(C:3e5)(us:4e1)(kw:List (Str×Value)):cG k (A.under (.builtin "type.__call__" ⟨.ref C::us,kw⟩)):=
 ⟨r.hd,by have:=r.dp;rw[Bp];omega,by have:=r.un;rw[Bq];omega⟩
theorem cG.depth{k:Nat}(r:cG k A):A.depth<recursionLimit:=by have:=r.dp;omega
theorem cG.units{k:Nat}(r:cG k A):A.units+64<cLine:=by have:=r.un;omega
def cG.ky{k:Nat}(r:cG k A):A.units<cLine:=by have:=r.un;omega
def VX:TA:=λ_ H Q=>Q [] H
def VY(ta:TE)(tr:TA):TA:=fun σ H Q=>ta σ H λx H1=>tr σ H1 λxs H2=>Q (x::xs) H2
section
variable {X:Cx}{e:Expr}{es:List Expr}{te:TE}{t:TA}{pos:Pos}
def ak:PA X [] VX:=λ_ _ _ _ H Q I h=>Calls.spliced_nil ⟨[],H,I, .nil,h⟩
def ag(ha:PE X e te)(hr:PA X es t)(hs:starEach (e::es) X.env=(false,eval e X.env)::starEach es X.env:=by rfl):PA X (e::es) (VY te t):=by
 intro pos pins s σ H Q I h;rw[hs];show wpAny _ _ (spliced ((false,eval e X.env)::backTo pos (starEach es X.env))) _ _ s;refine Calls.spliced_cons (bR (ha pins s σ H _ I h) λu s1 ⟨x,H1,I1,r1,q1⟩=>?_);exact bR (hr pos pins s1 σ H1 _ I1 q1) λus s2 ⟨xs,H2,I2,r2,q2⟩=>⟨x::xs,H2,I2, .cons r1 r2,q2⟩
def tTup(t:TA):TE:=fun σ H Q=>t σ H λxs H1=>xs.length≤sizeLine∧∀p,H1 p=none→Q (.ref p) (upd H1 p (.tup xs))
def tLst(t:TA):TE:=fun σ H Q=>t σ H λxs H1=>xs.length≤sizeLine∧∀p,H1 p=none→Q (.ref p) (upd H1 p (.lst xs))
def cj{x1}(h:PA X es t):PE X (.Tuple es x1 pos) (tTup t):=by
 intro pins s σ H Q I hq;refine wpAny_Tuple_spliced (bR (h pos pins s σ H _ I hq) λus s1 ⟨xs,H1,I1,r,z,q⟩=>⟨by rw[←r.length];exact z,?_⟩);have hf:H1 s1.heap.objs.size=none:=I1.aM.fresh (le_refl _);refine⟨.ref s1.heap.objs.size,upd H1 s1.heap.objs.size (.tup xs),I1.laid (t':=s1.toks) (λb u e=>Heap.get?_push_of_some _ e) (le_refl _) ?_,rfl,q _ hf⟩;exact⟨z,us,r,⟨_,Heap.get?_push_size _ rfl,rfl,_,rfl⟩⟩
def b7(h:PA X es t):PE X (.List es pos) (tLst t):=by
 intro pins s σ H Q I hq;refine wpAny_List_spliced (bR (h pos pins s σ H _ I hq) λus s1 ⟨xs,H1,I1,r,z,q⟩=>⟨by rw[←r.length];exact z,?_⟩);have hf:H1 s1.heap.objs.size=none:=I1.aM.fresh (le_refl _);refine⟨.ref s1.heap.objs.size,upd H1 s1.heap.objs.size (.lst xs),I1.laid (t':=s1.toks) (λb u e=>Heap.get?_push_of_some _ e) (le_refl _) ?_,rfl,q _ hf⟩;exact⟨z,us,0,r,Heap.get?_push_size _ rfl⟩
end
abbrev Sp:=List V→Hp→VK→XK→Prop
abbrev C3:=List Env→Hp→Shared→XK→Value→Shared→Prop
structure Br(P:Program)(w:World)(K:0e9)(mg:1e3)(base:Heap)(A:Around)(outer:List Env)(s:Shared)(H:Hp):Prop where
 frames:A.frames=some outer
 mod:Mod K mg base
 bs:∀b o,base.get? b=some o→s.heap.get? b=some o∧H b=none
 E5:base.objs.size≤s.heap.objs.size
 lZ:s.heap.FunFrames base outer
 Ht:∀b∈uw outer,H b=none
 aM:kj P w H s.heap
 bare:AllBare s.gens
def CE(outer:List Env)(P:Program)(w:World)(H:Hp)(s:Shared)(Q:VK)(u:Value)(s':Shared):Prop:=
 ∃v H',s'.os=s.os∧AllBare s'.gens∧Un (uw outer) [] H H' s.heap s'.heap∧kj P w H' s'.heap∧RelV v u∧Q v H'
def CR(CX:C3)(outer:List Env)(P:Program)(w:World)(H:Hp)(s:Shared)(Q:VK)(E:XK)(r:Result)(s':Shared):Prop:=
 match r with
 | .ok (.ret u)=>CE outer P w H s Q u s'
 | .ok _=>False
 | .error e=>CX outer H s E e s'
structure fD(P:Program)(w:World)(K:0e9)(mg:1e3)(base:Heap)(CX:C3)(k:Nat)(f:3e5)(fd:FuncData)(ps:3e8)(sp:Sp):Prop where
 len:∀vs H Q E,sp vs H Q E→vs.length=ps.length
 run:∀(A:Around) (outer:List Env) (s:Shared) (H:Hp) (args:Args) (us:4e1) (vs:4e5) (Q:VK) (E:XK),cG k A→Br P w K mg base A outer s H→BindsTo s fd args (ps.zip us)→Vals vs us→sp vs H Q E→
  codeAny (model P w) A (.call (.ref f) args) (CR CX outer P w H s Q E) s
def Br.make{P:Program}{w:World}{K:0e9}{mg:1e3}{base:Heap}{A:Around}{outer:List Env}{s:Shared}{H:Hp}(e:Br P w K mg base A outer s H)(C:3e5)(us:4e1)(kw:List (Str×Value)):
  Br P w K mg base (A.under (.builtin "type.__call__" ⟨.ref C::us,kw⟩)) outer s H:=⟨by first|exact e.frames| (simpa [Around.under,Code.envs,Code.isFrame,pushEnvs] using e.frames),e.mod,e.bs,e.E5,e.lZ,e.Ht,e.aM,e.bare⟩
section
variable {X:Cx}{pins:1e4}{σ:St}{H:Hp}{s s':Shared}
def Inv.Mu(I:1e1):Br X.prog X.w X.K X.mg X.base X.A X.stack s H:=
 ⟨I.ok.frames,I.ok.mod,I.bs,le_trans I.ok.E5 I.sz,I.stack,I.wV,I.aM,I.bare⟩
def Inv.after(I:1e1)(h:CE X.stack X.prog X.w H s Q u s'):EP X pins σ Q u s':=by
 obtain⟨v,H',os,bare,un,aM,r,q⟩:=h;obtain⟨hh,g,d,t,os'⟩:=s';obtain rfl:os'=s.os:=os;exact⟨v,H',I.call (h':=hh) (g':=g) (d':=d) (t':=t) (ch:=[]) un aM bare (λb z=>absurd z 2e9),r,q⟩
end
def Pw(sp:Sp)(lz:4e5)(E:XK)(t:TA):TE:=fun σ H Q=>t σ H λvs H1=>sp (vs++lz) H1 Q E
def HD(C:3e5)(m:Str)(sp:Sp)(lz:4e5)(E:XK)(ta:TE)(t:TA):TE:=fun σ H Q=>ta σ H λx H1=>∃a dx fs,x= .ref a∧H1 a=some (.ins C dx fs)∧fs.lookup m=none∧
 t σ H1 λvs H2=>sp (x::(vs++lz)) H2 Q E
def VZ(C:3e5)(sp:Sp)(lz:4e5)(E:XK)(t:TA):TE:=fun σ H Q=>t σ H λvs H1=>∀x dx,H1 x=none→H1 dx=none→dx≠x→
 sp (.ref x::(vs++lz)) (upd (upd H1 dx (.own x)) x (.ins C dx [])) (λv H2=>v= .cw∧Q (.ref x) H2) E
def Binds(K:0e9)(fd:FuncData)(ps:3e8)(ds:4e1):Prop:=
 ∀(s:Shared) (us:4e1),K.In s.heap→(us++ds).length=ps.length→BindsTo s fd ⟨us,[]⟩ (ps.zip (us++ds))
def Binds.all{K:0e9}{fd:FuncData}{ps:3e8}(h:∀us:List Value,us.length=ps.length→bindArgs fd ⟨us,[]⟩=pure (ps.zip us)):Binds K fd ps []:=λs us _ hl=>by
 rw[append_nil] at hl ⊢;exact .of_eq (h us hl)
def Passes(CX:C3)(X:Cx)(E:XK):Prop:=∀(pins:1e4) (σ:St) (H:Hp) (s:Shared) (e:Value) (s':Shared),Inv X pins σ H s→CX X.stack H s E e s'→X.xe e s'
section
variable {X:Cx}{CX:C3}{k:Nat}{f C:3e5}{fd:FuncData}{ps:3e8}{sp:Sp}{lz:4e5}{ds:4e1}{E:XK}{x m:Str}{p pos apos:Pos}{e o:Expr}{es:List Expr}{ta:TE}{t:TA}
def Bs(F:fD X.prog X.w X.K X.mg X.base CX k f fd ps sp)(hr:cG k X.A)(hb:Binds X.K fd ps ds)(hd:Vals lz ds)(hx:Passes CX X E)(I:1e1) (r:Vals vs us) (h:sp (vs++lz) H Q E):wpAny 1e0 X.A (call (.ref f) us) (EP X pins σ Q) X.xe s:=by
 have r2:Vals (vs++lz) (us++ds):=r.append hd;have hl:(us++ds).length=ps.length:=by rw[←r2.length];exact F.len _ _ _ _ h
 refine wpAny_call (codeAny_mono (F.run X.A X.stack s H ⟨us,[]⟩ (us++ds) (vs++lz) Q E hr I.Mu (hb s us I.ju hl) r2 h) λr s' hq=>?_)
 cases r with
 |error e=>exact hx pins σ H s e s' I hq
 |ok fl=>
  cases fl with
  |ret u=>exact I.after hq
  |next=>exact False.elim hq
  |brk=>exact False.elim hq
  |cont=>exact False.elim hq
def Mv(F:fD X.prog X.w X.K X.mg X.base CX k f fd ps sp)(hr:cG k X.A)(hg:Gl X x)(hm:X.mg x=some (.ref f))(hk:keepIn X.K (.ref f)=true)(hb:Binds X.K fd ps ds)(hd:Vals lz ds)(hx:Passes CX X E)
  (ha:PA X (e::es) t) (Fb:4e2:=by decide) (he:starEach (e::es) X.env=(false,eval e X.env)::starEach es X.env:=by rfl) (gX:4e4:=by rfl):
  PE X (.Call (.Name x p) (e::es) [] pos) (Pw sp lz E t):=by
 intro pins s σ H Q I h;refine wpAny_Call_Name_kw (jv I hg hm ?_ Fb);refine PySem.W.callWith_K (h₀:=X.base) I.ok.mod.gz hk (bR (ha pos pins s σ H _ I h) λus s1 ⟨vs,H1,I1,r,q⟩=>⟨I1.ju,?_⟩) he gX;exact Bs F hr hb hd hx I1 r q
def Mw{pl:Sem Bool}(he:PE X o ta)(c:uz X.K C)(hm:Meth X.K C m f)(F:fD X.prog X.w X.K X.mg X.base CX k f fd ps sp)(hr:cG k X.A)(hb:Binds X.K fd ps ds)(hd:Vals lz ds)(hx:Passes CX X E)(ha:PA X (e::es) t)
  (eC:starEach (e::es) X.env=(false,eval e X.env)::starEach es X.env:=by rfl) (gX:4e4:=by rfl)
  (ht:eval (.Call (.Attribute o m apos) (e::es) [] pos) X.env=(do
   let ov←eval o X.env
   standAt apos.atName
   let (f,first)←holding [ov] (getMethod ov m pl)
   callWith pos f first (backTo pos (starEach (e::es) X.env)) (backToKw pos (keywordEach [] X.env))):=by rfl):
  PE X (.Call (.Attribute o m apos) (e::es) [] pos) (HD C m sp lz E ta t):=by
 intro pins s σ H Q I h;refine PySem.W.methodCall_KW (pl:=pl) (bR (he pins s σ H _ I h) λu s1 ⟨x,H1,I1,rx,a,dx,fs,ex,ea,l,q⟩=>?_) ht;subst ex;obtain rfl:u=Value.ref a:=rx;refine mv I1 ea c hm l ?_;refine PySem.W.callWith_K (first:=[.ref a]) (h₀:=X.base) I.ok.mod.gz hm.kp (bR (ha pos pins s1 σ H1 _ I1 q) λus s2 ⟨vs,H2,I2,r,q2⟩=>⟨I2.ju,?_⟩) eC gX
 exact Bs (us:= .ref a::us) (vs:= .ref a::vs) F hr hb hd hx I2 (.cons rfl r) q2
def aH{pl:Sem Bool}(he:PE X o ta)(c:uz X.K C)(hm:Meth X.K C m f)(F:fD X.prog X.w X.K X.mg X.base CX k f fd ps sp)(hr:cG k X.A)(hb:Binds X.K fd ps ds)(hd:Vals lz ds)(hx:Passes CX X E)
  (ht:eval (.Call (.Attribute o m apos) [] [] pos) X.env=(do
   let ov←eval o X.env
   standAt apos.atName
   let (f,first)←holding [ov] (getMethod ov m pl)
   callWith pos f first (backTo pos (starEach [] X.env)) (backToKw pos (keywordEach [] X.env))):=by rfl):
  PE X (.Call (.Attribute o m apos) [] [] pos) (HD C m sp lz E ta VX):=by
 intro pins s σ H Q I h;refine PySem.W.methodCall_KW (pl:=pl) (bR (he pins s σ H _ I h) λu s1 ⟨x,H1,I1,rx,a,dx,fs,ex,ea,l,q⟩=>?_) ht;subst ex;obtain rfl:u=Value.ref a:=rx;refine mv I1 ea c hm l ?_;exact PySem.W.callWith_K0 (first:=[.ref a]) I1.ju hm.kp (Bs (us:=[.ref a]) (vs:=[.ref a]) F hr hb hd hx I1 (.cons rfl .nil) q)
structure Mk(K:0e9)(C f:3e5):Prop where
 makes:PySem.W.makesIn K C=true
 init:PySem.W.findIn K (.ref C) "__init__" =some (some (.ref f))
 fn:PySem.W.isFn K (.ref f)=true
 kp:keepIn K (.ref C)=true
def HF(M:Mk X.K C f)(F:fD X.prog X.w X.K X.mg X.base CX k f fd ps sp)(hr:cG (k+1) X.A)(hb:Binds X.K fd ps ds)(hd:Vals lz ds)(hx:Passes CX X E) (I:1e1) (r:Vals vs us)(h:∀x dx,H x=none→H dx=none→dx≠x→sp (.ref x::(vs++lz)) (upd (upd H dx (.own x)) x (.ins C dx [])) (λv H2=>v= .cw∧Q (.ref x) H2) E):
  wpAny 1e0 X.A (call (.ref C) us) (EP X pins σ Q) X.xe s:=by
 have hq:=h 3e2 s.heap.objs.size (I.aM.fresh (le_succ _)) (I.aM.fresh (le_refl _)) (ne_of_lt (lt_succ_self _));have I2:=Inv.made (C:=C) I;have r2:Vals (V.ref 3e2::(vs++lz)) (Value.ref 3e2::(us++ds)):= .cons rfl (r.append hd)
 have hl:(Value.ref 3e2::us++ds).length=ps.length:=by
  have e:=r2.length;rw[F.len _ _ _ _ hq] at e;exact e.symm
 refine wpAny_call (HC (f:=f) I.ju M.makes M.init (beq_iff_eq.mp M.fn) (codeAny_mono (F.run _ X.stack _ _ ⟨Value.ref 3e2::us,[]⟩ (Value.ref 3e2::(us++ds)) _ _ E (hr.make C us []) (I2.Mu.make C us []) (hb _ (Value.ref 3e2::us) I2.ju hl) r2 hq) λr s' qy=>?_))
 cases r with
 |error e=>exact hx pins σ _ _ e s' I2 qy
 |ok fl=>
  cases fl with
  |ret u=>
   obtain⟨v,H',I3,rv,ev,q3⟩:=I2.after qy;subst ev;exact⟨rv,⟨V.ref 3e2,H',I3,rfl,q3⟩⟩
  |next=>exact False.elim qy
  |brk=>exact False.elim qy
  |cont=>exact False.elim qy
def gb(M:Mk X.K C f)(F:fD X.prog X.w X.K X.mg X.base CX k f fd ps sp)(hr:cG (k+1) X.A)(hg:Gl X x)(hm:X.mg x=some (.ref C))(hb:Binds X.K fd ps ds)(hd:Vals lz ds)(hx:Passes CX X E)
  (ha:PA X (e::es) t) (Fb:4e2:=by decide) (he:starEach (e::es) X.env=(false,eval e X.env)::starEach es X.env:=by rfl) (gX:4e4:=by rfl):
  PE X (.Call (.Name x p) (e::es) [] pos) (VZ C sp lz E t):=by
 intro pins s σ H Q I h;refine wpAny_Call_Name_kw (jv I hg hm ?_ Fb);refine PySem.W.callWith_K (h₀:=X.base) I.ok.mod.gz M.kp (bR (ha pos pins s σ H _ I h) λus s1 ⟨vs,H1,I1,r,q⟩=>⟨I1.ju,?_⟩) he gX;exact HF M F hr hb hd hx I1 r q
end
section
variable {X:Cx}{CX:C3}{k:Nat}{f C:3e5}{fd:FuncData}{ps ks:3e8}{sp:Sp}{E:XK}{x m:Str}{p pos apos V0:Pos}{e o:Expr}{es:List Expr}{kws:List Keyword}{te ta:TE}{t tk:TA}{nm:Option Str}
variable {g:List Value→List Value→List Value}{gV:List V→List V→List V}
end
structure av(N P:3e8)(sc:Scope):Prop where
 kind:sc.kind= .function
 co:sc.isCoroutine=false
 gen:sc.isGenerator=false
 nd:N.Nodup
 pre:N.take P.length=P
 par:∀x∈P,sc.names.lookup x=some .local∨sc.names.lookup x=some .cell
 Rb:∀y∈sc.names,y.2≠ .free
theorem vf{kindOf:Str→Option NameKind}:∀{binds:List (Str×Value)} {m:1e3},(∀v,(x,v)∉binds)→bindL kindOf binds m x=m x
 | [],_,_=>rfl
 | (n,v)::r,m,h=>by
   unfold bindL;rw[vf λw hw=>h w (mem_cons_of_mem _ hw)];split
   ·have:x≠n:=by rintro rfl;exact h v mem_cons_self
    simp [this]
   ·rfl
theorem vg{kindOf:Str→Option NameKind}:∀{binds:List (Str×Value)} {m:1e3},(∀v,(x,v)∉binds)→bindC kindOf binds m x=m x
 | [],_,_=>rfl
 | (n,v)::r,m,h=>by
   unfold bindC;rw[vg λw hw=>h w (mem_cons_of_mem _ hw)];split
   ·rfl
   ·have:x≠n:=by rintro rfl;exact h v mem_cons_self
    simp [this]
theorem vh{kindOf:Str→Option NameKind}:∀{P:3e8} {vs:4e1} {i:Nat} {m:1e3},P.Nodup→P[i]? =some x→vs[i]? =some v→kindOf x=some .local→
  bindL kindOf (P.zip vs) m x=some v
 | [],_,_,_,_,h,_,_=>by simp at h
 |_::_,[],_,_,_,_,h,_=>by simp at h
 |p::P,w::vs,0,m,nd,h1,h2,hk=>by
  simp at h1 h2;subst h1;subst h2;show bindL kindOf ((p,w)::P.zip vs) m p=_;unfold bindL;rw[vf λv hv=>(nodup_cons.mp nd).1 (of_mem_zip hv).1,if_pos hk];simp
 |p::P,w::vs,i+1,m,nd,h1,h2,hk=>by
  show bindL kindOf ((p,w)::P.zip vs) m x=_;unfold bindL;exact vh (i:=i) (nodup_cons.mp nd).2 (by simpa using h1) (by simpa using h2) hk
theorem vi{kindOf:Str→Option NameKind}:∀{P:3e8} {vs:4e1} {i:Nat} {m:1e3},P.Nodup→P[i]? =some x→vs[i]? =some v→kindOf x≠some .local→
  bindC kindOf (P.zip vs) m x=some v
 | [],_,_,_,_,h,_,_=>by simp at h
 |_::_,[],_,_,_,_,h,_=>by simp at h
 |p::P,w::vs,0,m,nd,h1,h2,hk=>by
  simp at h1 h2;subst h1;subst h2;show bindC kindOf ((p,w)::P.zip vs) m p=_;unfold bindC;rw[vg λv hv=>(nodup_cons.mp nd).1 (of_mem_zip hv).1,if_neg hk];simp
 |p::P,w::vs,i+1,m,nd,h1,h2,hk=>by
  show bindC kindOf ((p,w)::P.zip vs) m x=_;unfold bindC;exact vi (i:=i) (nodup_cons.mp nd).2 (by simpa using h1) (by simpa using h2) hk
noncomputable def start(N:3e8)(vs:4e5):St:=vs.map some++List.replicate (N.length - vs.length) none
noncomputable def jy(CX:C3)(P:Program)(w:World)(K:0e9)(mg:1e3)(base:Heap)(N:3e8)(qual:Str)(scope:Scope)(f:3e5)(cd:Value)(A:Around)(outer:List Env)(s:Shared)(H:Hp)(E:XK):Cx where
 prog:=P
 w:=w
 K:=K
 mg:=mg
 base:=base
 A:=A.deeper (envOfC qual scope s.heap.objs.size f cd)
 N:=N
 s₀:=s
 H₀:=H
 env:=envOfC qual scope s.heap.objs.size f cd
 outer:=outer
 stack:=envOfC qual scope s.heap.objs.size f cd::outer
 ex:=[]
 calm:=true
 fn:=λ_=>true
 pn:=[]
 xe:=λe s'=>wpAny (model P w) (A.deeper (envOfC qual scope s.heap.objs.size f cd)) (leaving (envOfC qual scope s.heap.objs.size f cd) e) (λ_ Rf=>CX outer H s E e Rf) (λe' Rf=>CX outer H s E e' Rf) s'
def zj{sc:Scope}{n:Nat}(h:sc.names.lookup x=some .cell):∃c,(cellsFrom n sc.names []).lookup x=some c:=by
 have q:=PySem.W.cellsFrom_some sc.names n [] (.inl h);exact isSome_iff_exists.mp q
def Fc{CX:C3}{P:Program}{w:World}{K:0e9}{mg:1e3}{base:Heap}{N ps:3e8}{qual:Str}{scope:Scope}{f:3e5}{cd:Value}{A:Around}{outer:List Env}{s s1:Shared}{H:Hp}{E:XK}{us:4e1}{vs:4e5}
  (S:av N ps scope) (hd:A.handled=none) (e0:Br P w K mg base A outer s H) (hl:vs.length=ps.length) (r:Vals vs us)
  (x:InCallC s s.heap.objs.size (bindL (envOfC qual scope s.heap.objs.size f cd).kindOf (ps.zip us) λ_=>none) (cellsFrom 3e2 scope.names []) (bindC (envOfC qual scope s.heap.objs.size f cd).kindOf (ps.zip us) λ_=>none) s1):
  Inv (jy CX P w K mg base N qual scope f cd A outer s H E) [] (start N vs) H s1:=by
 have gX:ps.length≤N.length:=by have:=congrArg List.length S.pre;rw[length_take] at this;omega
 obtain⟨h1,tk,rfl,hk⟩:=x.done;have V1:∀b:Addr,b∉(jy CX P w K mg base N qual scope f cd A outer s H E).ex:=λb z=>absurd (show b∈([]:List Addr) from z) 2e9
 refine⟨⟨e0.mod,S.kind,rfl,rfl,le_refl _,λy z c h1 h2=>?_,λy hy=>?_,λy c _ h=>?_,λ_=>hd,Around.frames_deeper e0.frames, .inr ⟨rfl,rfl⟩,λb z=>absurd z (V1 b),e0.bs,e0.E5,λb _ _=>V1 b,λb z=>absurd z (V1 b),e0.lZ,e0.Ht⟩,
  rfl,e0.bare,Un.kept hk,⟨_,x.toInCall.ns,λi y v h1 h2 h3=>?_⟩,λy c h=>⟨_,x.cell y c h⟩,e0.aM.fresh (le_refl _),λy c h=>?_,λp hp=>absurd (show p∈([]:List (Addr×Obj)) from hp) 2e9,e0.aM.kept hk,?_⟩
 ·exact name_of_addr x.apart (PySem.mem_of_lookup h1) (PySem.mem_of_lookup h2)
 ·have hy:scope.names.lookup y=some .cell∨scope.names.lookup y=some .free:=hy;rcases hy with hy|hy
  ·exact zj hy
  ·exact absurd rfl (S.Rb _ (PySem.mem_of_lookup hy))
 ·exact le_of_lt (x.above y c (PySem.mem_of_lookup h))
 ·have hi:i<vs.length:=by
   unfold start at h2;by_cases hi:i<vs.length
   ·exact hi
   ·rw[List.getElem?_append_right (by simpa using hi)] at h2;rw[List.getElem?_replicate] at h2;split at h2<;>cases h2
  have ha:vs[i]? =some v:=by
   unfold start at h2;rw[List.getElem?_append_left (by simpa using hi),getElem?_map] at h2
   cases e:vs[i]? with
   |none=>rw[e] at h2;cases h2
   |some a=>rw[e] at h2;cases h2;rfl
  obtain⟨u,hu,rv⟩:=r.get ha
  have hp:ps[i]? =some y:=by
   rw[←S.pre,List.getElem?_take_of_lt 0e5];exact h1
  have ndP:ps.Nodup:=by rw[←S.pre];exact S.nd.sublist (List.take_sublist _ _)
  refine⟨u,rv,?_⟩;rcases S.par y (mem_of_getElem? hp) with k|k
  ·exact .inl ⟨k,vh ndP hp hu k⟩
  ·obtain⟨c,e⟩:=zj (n:=s.heap.objs.size+1) k;refine .inr ⟨.inl k,c,e,?_⟩;have q:=x.cell y c e;rw[vi ndP hp hu (by show scope.names.lookup y≠_;rw[k];decide)] at q;exact q
 ·exact e0.aM.fresh (le_of_lt (x.above y c (PySem.mem_of_lookup h)))
 ·unfold start;show _=N.length;rw[length_append,length_map,List.length_replicate];omega
def fn_of{CX:C3}{P:Program}{w:World}{K:0e9}{mg:1e3}{base:Heap}{k:Nat}{f:3e5}{name qual:Str}{params:Arguments}{body:List Stmt}{scope:Scope}{dV kV doc pm aY ct oc:Value}{an od:Option Addr}
  {um:Array (Option Value)} {N ps:3e8} {sp:Sp} (lk:K.lookup f=some ⟨oc,od, .func (fnOf name qual params body scope dV kV doc pm an aY ct),um⟩) (rA:PySem.W.codeIn K aY qual=true) (S:av N ps scope)
  (len:3e1)
  (dn:∀(A:Around) (outer:List Env) (s:Shared) (H:Hp) (vs:4e5) (Q:VK) (E:XK),cG k (A.deeper (envOfC qual scope s.heap.objs.size f aY))→sp vs H Q E→
   ∃t,mn (jy CX P w K mg base N qual scope f aY A outer s H E) body t∧t { nx:=λ_ H'=>Q .cw H',rt:=Q } (start N vs) H):
  fD P w K mg base CX (k+1) f (fnOf name qual params body scope dV kV doc pm an aY ct) ps sp:=by
 refine⟨len,λA outer s H args us vs Q E hr e0 hb r C4=>?_⟩;have hl:=len _ _ _ _ C4;have KX:K.In s.heap:=e0.mod.gz.keeps λb o e=>(e0.bs b o e).1;have lim:s.heap.NoLimit:=e0.mod.nolimit.keeps λb o e=>(e0.bs b o e).1
 have V2:∀y∈ps.zip us,scope.names.lookup y.1=some .local∨(scope.names.lookup y.1=some .cell∧((cellsFrom 3e2 scope.names []).lookup y.1).isSome=true):=fun⟨n,v⟩ hy=>by
  rcases S.par n (of_mem_zip hy).1 with q|q
  ·exact .inl q
  ·exact .inr ⟨q,PySem.W.cellsFrom_some _ _ _ (.inl q)⟩
 refine codeAny_call_function hr.depth (KX _ _ lk) rfl S.co S.gen rfl (PySem.W.codeRec_of KX rA) (hb _ _ _ _ ?_);refine wpAny_newFunctionEnv_cells S.kind V2 λenv he s1 x=>?_;subst he;refine⟨lim.keeps x.toInCall.keep,codeAny_func ?_⟩;obtain⟨t,ht,hq⟩:=dn A outer s H vs Q E (hr.deeper _) C4;have I:Inv (jy CX P w K mg base N qual scope f aY A outer s H E) [] (start N vs) H s1:=Fc S hr.hd e0 hl r x;refine wpAny_mono (ht [] s1 (start N vs) H _ I hq) (λfl s' hs=>?_) λe s' hs=>hs;have fin:∀{σ':St} {H':Hp} {v:V} {u:Value},Inv (jy CX P w K mg base N qual scope f aY A outer s H E) [] σ' H' s'→RelV v u→Q v H'→CE outer P w H s Q u s':=
  fun {σ' H' v u} J rv q=>⟨v,H',J.os,J.bare,J.base,J.aM,rv,q⟩
 cases fl with
 |ret u=>
  obtain⟨v,σ',H',J,rv,q⟩:=hs;exact fin J rv q
 |next=>
  obtain⟨σ',H',J,q⟩:=hs;exact fin (v:=V.cw) (u:=Value.none) J rfl q
 |brk=>
  obtain⟨_,_,_,q⟩:=hs;exact False.elim q
 |cont=>
  obtain⟨_,_,_,q⟩:=hs;exact False.elim q
end L2
namespace L2
open PySem PySem.Spec PyProof.Rows
section
variable {X:Cx}{x:Str}{p pos:Pos}{e:Expr}{es:List Expr}{t:TA}{id T:String}{r:List V→Hp→VK→Prop}
def tCB(r:List V→Hp→VK→Prop)(t:TA):TE:=fun σ H Q=>t σ H λvs H1=>r vs H1 Q
def bS(hc:fB X (.builtin id) r)(hg:Gl X x)(hm:X.mg x=none)(hv:bootBuiltins x=some (.builtin id))(ha:PA X (e::es) t)(hn:x≠"__name__" :=by decide)(Fb:4e2:=by decide)
  (he:starEach (e::es) X.env=(false,eval e X.env)::starEach es X.env:=by rfl) (gX:4e4:=by rfl):PE X (.Call (.Name x p) (e::es) [] pos) (tCB r t):=by
 intro pins s σ H Q I h;refine wpAny_Call_Name_kw (oS I hg hm hv ?_ hn Fb);exact PyProof.Rows.callWith_builtin1 (bR (ha pos pins s σ H _ I h) λus s1 ⟨vs,H1,I1,r1,q1⟩=>hc pins s1 σ H1 vs us Q I1 r1 q1) he gX
def bq(hc:fB X (.type T) r)(hg:Gl X x)(hm:X.mg x=none)(hv:bootBuiltins x=some (.type T))(ha:PA X (e::es) t)(hn:x≠"__name__" :=by decide)(Fb:4e2:=by decide)
  (he:starEach (e::es) X.env=(false,eval e X.env)::starEach es X.env:=by rfl) (gX:4e4:=by rfl):PE X (.Call (.Name x p) (e::es) [] pos) (tCB r t):=by
 intro pins s σ H Q I h;refine wpAny_Call_Name_kw (oS I hg hm hv ?_ hn Fb);exact PyProof.Rows.callWith_type1 (bR (ha pos pins s σ H _ I h) λus s1 ⟨vs,H1,I1,r1,q1⟩=>hc pins s1 σ H1 vs us Q I1 r1 q1) he gX
end
end L2
namespace L2
open PySem PySem.Spec PyProof.Rows
section
variable {κ:Type}[DecidableEq κ]
noncomputable def bK(kvs:List (κ×V))(k:κ):Option V:=(kvs.find? λkv=>decide (kv.1=k)).map (·.2)
noncomputable def putK(kvs:List (κ×V))(k:κ)(v:V):List (κ×V):=
 if (kvs.any λkv=>decide (kv.1=k))=true then kvs.map (λkv=>if kv.1=k then (kv.1,v) else kv) else kvs++[(k,v)]
def cz{p:κ×V}{r:List (κ×V)}{k:κ}(e:p.1=k):bK (p::r) k=some p.2:=by simp [bK,find?_cons,e]
def cA{p:κ×V}{r:List (κ×V)}{k:κ}(e:¬p.1=k):bK (p::r) k=bK r k:=by simp [bK,find?_cons,e]
theorem fE(k:κ):∀kvs:List (κ×V),(kvs.any λkv=>decide (kv.1=k))=(bK kvs k).isSome
 | []=>rfl
 |p::r=>by
  rw[any_cons];by_cases e:p.1=k
  ·simp only [cz e,decide_eq_true e,Bool.true_or,Option.isSome_some]
  ·rw[cA e,decide_eq_false e,Bool.false_or];exact fE k r
theorem zo(k j:κ)(y:V):∀kvs:List (κ×V),bK (kvs.map λkv=>if kv.1=k then (kv.1,y) else kv) j=(bK kvs j).map λx=>if j=k then y else x
 | []=>rfl
 |p::r=>by
  have ih:=zo k j y r;rw[map_cons];by_cases h:p.1=k
  ·rw[if_pos h];by_cases e:p.1=j
   ·rw[cz (p:=(p.1,y)) e,cz e,map_some,if_pos (e.symm.trans h)]
   ·rw[cA (p:=(p.1,y)) e,cA e,ih]
  ·rw[if_neg h];by_cases e:p.1=j
   ·rw[cz (p:=p) e,cz e,map_some,if_neg (λz=>h (e.trans z))]
   ·rw[cA (p:=p) e,cA e,ih]
theorem vj(k j:κ)(y:V):∀kvs:List (κ×V),bK kvs k=none→bK (kvs++[(k,y)]) j=if j=k then some y else bK kvs j
 | [],_=>by
   by_cases e:k=j
   ·rw[if_pos e.symm];exact cz (p:=(k,y)) e
   ·rw[if_neg (λz=>e z.symm)];exact cA (p:=(k,y)) e
 |p::r,hn=>by
  rw[cons_append];have hk:¬p.1=k:=λz=>by rw[cz z] at hn;cases hn
  rw[cA hk] at hn;have ih:=vj k j y r hn;by_cases e:p.1=j
  ·rw[cz e,cz e,if_neg (λz=>hk (e.trans z))]
  ·rw[cA e,cA e,ih]
def zp(kvs:List (κ×V))(k j:κ)(y:V):bK (putK kvs k y) j=if j=k then some y else bK kvs j:=by
 unfold putK;by_cases a:(kvs.any λkv=>decide (kv.1=k))=true
 ·rw[if_pos a,zo];rw[fE] at a;by_cases e:j=k
  ·obtain⟨x,hx⟩:=isSome_iff_exists.mp a;rw[if_pos e,e,hx,map_some,if_pos rfl]
  ·rw[if_neg e]
   cases bK kvs j with
   |none=>rfl
   |some x=>rw[map_some,if_neg e]
 ·rw[if_neg a];refine vj k j y kvs ?_;rw[fE] at a
  cases q:bK kvs k with
  |none=>rfl
  |some x=>rw[q] at a;exact(a rfl).elim
def bE(kvs:List (κ×V))(k:κ)(v:V):(putK kvs k v).length≤kvs.length+1:=by
 unfold putK;split
 ·rw[length_map];omega
 ·rw[length_append,length_cons,length_nil];omega
def mT{kvs:List (κ×V)}{k:κ}(v:V)(h:bK kvs k=none):putK kvs k v=kvs++[(k,v)]:=by
 unfold putK;rw[fE,h];exact if_neg 0e4
def hX.o8{u:Option Value}(r:hX o u):o.isSome=u.isSome:=by
 cases o with
 |none=>cases u with
  |none=>rfl
  |some _=>exact(show False from r).elim
 |some _=>cases u with
  |none=>exact(show False from r).elim
  |some _=>rfl
theorem hX.getD{u:Option Value}(r:hX o u)(rd:RelV d d'):RelV (o.getD d) (u.getD d'):=by
 cases o with
 |none=>cases u with
  |none=>exact rd
  |some _=>exact(show False from r).elim
 |some _=>cases u with
  |none=>exact(show False from r).elim
  |some _=>exact r
def KV.val{kvs:List (κ×V)}{vs:List (κ×Value)}(r:KV kvs vs)(k:κ):hX (bK kvs k) (valueAt vs k):=by
 unfold KV at r
 induction r with
 |nil=>exact True.intro
 | @cons p q ps qs h t ih=>
   obtain⟨h1,h2⟩:=h;by_cases e:p.1=k
   ·have e':q.1=k:=h1.symm.trans e;have b:valueAt (q::qs) k=some q.2:=by simp [valueAt,find?_cons,e']
    rw[cz e,b];exact h2
   ·have e':¬q.1=k:=λz=>e (h1.trans z);have b:valueAt (q::qs) k=valueAt qs k:=by simp [valueAt,find?_cons,e']
    rw[cA e,b];exact ih
theorem KV.any{kvs:List (κ×V)}{vs:List (κ×Value)}(r:KV kvs vs)(k:κ):(kvs.any λkv=>decide (kv.1=k))=vs.any λkv=>decide (kv.1=k):=by
 unfold KV at r
 induction r with
 |nil=>rfl
 |cons h t ih=>rw[any_cons,any_cons,ih,h.1]
def KV.Rg{kvs:List (κ×V)}{vs:List (κ×Value)}(r:KV kvs vs)(k:κ)(ry:RelV y u):
  KV (kvs.map λkv=>if kv.1=k then (kv.1,y) else kv) (vs.map λkv=>if kv.1=k then (kv.1,u) else kv):=by
 unfold KV at r ⊢
 induction r with
 |nil=>exact .nil
 | @cons p q ps qs h t ih=>
   rw[map_cons,map_cons];refine .cons ?_ ih;obtain⟨h1,h2⟩:=h;by_cases e:p.1=k
   ·rw[if_pos e,if_pos (h1.symm.trans e)];exact⟨h1,ry⟩
   ·rw[if_neg e,if_neg (λz=>e (h1.trans z))];exact⟨h1,h2⟩
def KV.put{kvs:List (κ×V)}{vs:List (κ×Value)}(r:KV kvs vs)(k:κ)(ry:RelV y u):KV (putK kvs k y) (stored vs k u):=by
 unfold putK stored;rw[r.any k];by_cases e:(vs.any λkv=>decide (kv.1=k))=true
 ·rw[if_pos e,if_pos e];exact r.Rg k ry
 ·rw[if_neg e,if_neg e];exact Paired.snoc r ⟨rfl,ry⟩
def KV.keys{kvs:List (κ×V)}{vs:List (κ×Value)}(r:KV kvs vs):kvs.map 1e8=vs.map 1e8:=by
 unfold KV at r
 induction r with
 |nil=>rfl
 |cons h t ih=>rw[map_cons,map_cons,ih,h.1]
theorem KV.length{kvs:List (κ×V)}{vs:List (κ×Value)}(r:KV kvs vs):kvs.length=vs.length:=Paired.length r
end
def rK(r:RelV (kV k) u):(bz P w).is k u=true:=by
 cases k with
 |inl i=>obtain⟨t,e⟩:=(show∃t,u=Value.int i t from r);subst e;exact yZ P w i t
 |inr x=>obtain⟨t,e⟩:=(show∃t,u=Value.str x t from r);subst e;exact y7 P w x t
theorem items_are:∀{ks:List Key} {us:4e1},Vals (ks.map kV) us→ItemsAre (bz P w) ks us
 | [],_,r=>by rw[map_nil] at r;cases r;exact .nil
 |k::ks,_,r=>by
  rw[map_cons] at r
  cases r with
  |cons h t=>exact .cons (rK h) (items_are t)
abbrev KT(H:Hp):List (List Key×V)→List (List Key×Addr×Value)→Prop:=Paired λp q=>p.1=q.1∧H q.2.1=some (.tup (p.1.map kV))∧RelV p.2 q.2.2
def KT.val{kvs:List (List Key×V)}{xs:List (List Key×Addr×Value)}(r:KT H kvs xs)(k:List Key):hX (bK kvs k) ((atKey xs k).map (·.2)):=by
 induction r with
 |nil=>exact True.intro
 | @cons p q ps qs h t ih=>
   obtain⟨h1,_,h2⟩:=h;by_cases e:p.1=k
   ·have e':q.1=k:=h1.symm.trans e;have b:atKey (q::qs) k=some q.2:=by simp [atKey,find?_cons,e']
    rw[cz e,b];exact h2
   ·have e':¬q.1=k:=λz=>e (h1.trans z);have b:atKey (q::qs) k=atKey qs k:=by simp [atKey,find?_cons,e']
    rw[cA e,b];exact ih
def KT.Rg{kvs:List (List Key×V)}{xs:List (List Key×Addr×Value)}(r:KT H kvs xs)(k:List Key)(ry:RelV y u):
  KT H (kvs.map λkv=>if kv.1=k then (kv.1,y) else kv) (xs.map (putAt k u)):=by
 induction r with
 |nil=>exact .nil
 | @cons p q ps qs h t ih=>
   rw[map_cons,map_cons];refine .cons ?_ ih;obtain⟨h1,h2,h3⟩:=h;unfold putAt;by_cases e:p.1=k
   ·rw[if_pos e,if_pos (h1.symm.trans e)];exact⟨h1,h2,ry⟩
   ·rw[if_neg e,if_neg (λz=>e (h1.trans z))];exact⟨h1,h2,h3⟩
def KT.put{kvs:List (List Key×V)}{xs:List (List Key×Addr×Value)}(r:KT H kvs xs)(k:List Key)(hb:H b=some (.tup (k.map kV)))(ry:RelV y u):
  KT H (putK kvs k y) (storedH xs k b u):=by
 have e:(kvs.any λkv=>decide (kv.1=k))=(atKey xs k).isSome:=by
  rw[fE,(r.val k).o8,isSome_map]
 unfold putK storedH;rw[e];by_cases q:(atKey xs k).isSome=true
 ·rw[if_pos q,if_pos q];exact r.Rg k ry
 ·rw[if_neg q,if_neg q];exact Paired.snoc r ⟨rfl,hb,ry⟩
def KT.keeps{kvs:List (List Key×V)}{xs:List (List Key×Addr×Value)}(r:KT H kvs xs)(ht:∀b ys,H b=some (.tup ys)→H' b=some (.tup ys)):KT H' kvs xs:=
 Paired.QU r λ_ _ z=>⟨z.1,ht _ _ z.2.1,z.2.2⟩
section
variable {P:Program}{w:World}{H:Hp}{h:Heap}{a:3e5}
def Px(ok:kj P w H h)(e:Rd H a u):cf P w H h a u:=e.ok ok
def iN(ok:kj P w H h)(e:Rd H a 3e0):kvs.length≤sizeLine∧(a==sysModules)=false∧∃vs,KV kvs vs∧h.DictOf (bz P w) a vs:=
 show cf P w H h a 3e0 from Px ok e
def rL(ok:kj P w H h)(e:H a=some 3e0):kvs.length≤sizeLine∧(a==sysModules)=false∧∃vs,KV kvs vs∧h.DictOf (bz P w) a vs:=iN ok (.inl e)
def key_of{ks:List Key}(ok:kj P w H h)(e:H a=some (.tup (ks.map kV))):(tupleKind (bz P w)).is h ks a:=by
 obtain⟨_,its,r,o,h1,h2,n,h3⟩:=(show cf P w H h a (.tup (ks.map kV)) from ok a _ e);exact⟨o,its.toArray,n,h1,h2,h3,by simpa using items_are r⟩
def vm{kvs:List (List Key×V)}(ok:kj P w H h)(e:Rd H a (.dT kvs)):kvs.length≤sizeLine∧(a==sysModules)=false∧
  ∃xs,KT H kvs xs∧h.DictOfH (tupleKind (bz P w)) a xs:=by
 obtain⟨z,y,xs,r,o,es,ep,h1,h2,h3,h4,h5⟩:=(show cf P w H h a (.dT kvs) from Px ok e);refine⟨z,y,xs,r,o,es,ep,h1,h2,h3,h4,λx hx=>?_,h5⟩
 have all:∀{l:List (List Key×V)} {m:List (List Key×Addr×Value)},KT H l m→∀x∈m,(tupleKind (bz P w)).is h x.1 x.2.1:=by
  intro l m q
  induction q with
  |nil=>intro x hx;exact nomatch hx
  | @cons p q ps qs hq t ih=>
    intro x hx;rcases mem_cons.mp hx with e|hx
    ·subst e;exact key_of ok (by rw[←hq.1];exact hq.2.1)
    ·exact ih x hx
 exact all r x hx
def V3{kvs:List (List Key×V)}(ok:kj P w H h)(e:H a=some (.dT kvs)):kvs.length≤sizeLine∧(a==sysModules)=false∧
  ∃xs,KT H kvs xs∧h.DictOfH (tupleKind (bz P w)) a xs:=vm ok (.inl e)
end
def fU(H:Hp)(a:3e5)(y:V)(r:Option V):Prop:=
 (∃kvs k,Rd H a 3e0∧y=kV k∧r=bK kvs k)∨∃kvs k b,Rd H a (.dT kvs)∧y= .ref b∧H b=some (.tup (k.map kV))∧r=bK kvs k
def i4(H:Hp)(a:3e5)(y v:V)(H':Hp):Prop:=
 (∃kvs k,H a=some 3e0∧y=kV k∧kvs.length<sizeLine∧H'=upd H a (.dK (putK kvs k v)))∨
 ∃kvs k b,H a=some (.dT kvs)∧y= .ref b∧H b=some (.tup (k.map kV))∧kvs.length<sizeLine∧H'=upd H a (.dT (putK kvs k v))
theorem fU.k{H:Hp}{a:3e5}{kvs:0e2}{k:Key}(e:H a=some 3e0):fU H a (kV k) (bK kvs k):= .inl ⟨kvs,k, .inl e,rfl,rfl⟩
theorem i4.k{H:Hp}{a:3e5}{kvs:0e2}{k:Key}{v:V}(e:H a=some 3e0)(hl:kvs.length<sizeLine):i4 H a (kV k) v (upd H a (.dK (putK kvs k v))):= .inl ⟨kvs,k,e,rfl,hl,rfl⟩
section
variable {X:Cx}{pins:1e4}{σ:St}{H:Hp}{s:Shared}{a:3e5}{y v:V}{u r:Value}{o:Option V}{A:Around}{E:0e3}
def Inv.big(I:1e1):sysModules<s.heap.objs.size:=by
 have h:mainGlobals<s.heap.objs.size:=(I.mod.glob.keeps I.bk).lt;exact lt_trans 0e4 h
def Fd{Q:0e3}(hu:A.units+1<cLine)(I:1e1)(g:fU H a y (some v))(ry:RelV y u)(h:∀w' s',Inv X pins σ H s'→RelV v w'→Q w' s'):
  wpAny 1e0 A (getItem (.ref a) u) Q E s:=by
 rcases g with ⟨kvs,k,e,ey,l⟩ | ⟨kvs,k,b,e,ey,eb,l⟩
 ·subst ey;obtain⟨z,hd,vs,rel,dd⟩:=iN I.aM e;obtain⟨w',hw,HG⟩:=hX.some_of (v:=v) (o:=valueAt vs k) (by rw[l];exact rel.val k);exact wpAny_getItem_of (rK ry) dd.mapOf hw (h w' _ (I.tok _) HG)
 ·subst ey;cases (show u=Value.ref b from ry);obtain⟨z,hd,xs,rel,dd⟩:=vm I.aM e;obtain⟨w',hw,HG⟩:=hX.some_of (v:=v) (o:=(atKey xs k).map (·.2)) (by rw[l];exact rel.val k);obtain⟨p,hp,He⟩:=Option.map_eq_some_iff.mp hw;refine wpAny_getItem_heap (tupleKind_room_in1 hu) (key_of I.aM eb) dd hp ?_;rw[He];exact h w' _ (I.tok _) HG
def Mx{Q:0e3}(hu:A.units+1<cLine)(I:1e1)(g:fU H a y o)(ry:RelV y u)(h:∀s',Inv X pins σ H s'→Q (.bool (!o.isSome)) s'):
  wpAny 1e0 A (compareOp .NotIn u (.ref a)) Q E s:=by
 rcases g with ⟨kvs,k,e,ey,l⟩ | ⟨kvs,k,b,e,ey,eb,l⟩
 ·subst ey;obtain⟨z,hd,vs,rel,dd⟩:=iN I.aM e;refine wpAny_notIn_of (rK ry) hd dd.mapOf ?_;rw[←(rel.val k).o8,←l];exact h _ (I.tok _)
 ·subst ey;cases (show u=Value.ref b from ry);obtain⟨z,hd,xs,rel,dd⟩:=vm I.aM e;refine wpAny_notIn_heap (tupleKind_room_in1 hu) (key_of I.aM eb) hd dd ?_;have q:=(rel.val k).o8;rw[isSome_map] at q;rw[←q,←l];exact h _ (I.tok _)
def qz{t':Nat}(I:1e1)(mu:Vz (H a))(hs:Heap.SameBut a s.heap h')(he:∃q,h'.get? a=some q)(new:cf X.prog X.w (upd H a ob) h' a ob):
  Inv X pins σ (upd H a ob) { s with heap:=h',toks:=t' }:=
 I.write (x:=a) (e:=a) mu (.inl rfl) (λb q hb z=>(hs.2 b hb).trans z) he new
def rM{vs:List (Key×Value)}(z:kvs.length≤sizeLine)(hd:(a==sysModules)=false)(rel:KV kvs vs)(dd:h'.DictOf (bz P w) a vs):
  cf P w H' h' a 3e0:=⟨z,hd,vs,rel,dd⟩
def Fe{Q:Unit→Shared→Prop}(hu:A.units+1<cLine)(I:1e1)(g:i4 H a y v H')(ry:RelV y u)(rv:RelV v r)(h:∀s',Inv X pins σ H' s'→Q () s'):
  wpAny 1e0 A (setItem (.ref a) u r) Q E s:=by
 rcases g with ⟨kvs,k,e,ey,l,eH⟩ | ⟨kvs,k,b,e,ey,eb,l,eH⟩
 ·subst ey eH;obtain⟨z,hd,vs,rel,dd⟩:=rL I.aM e;have hz:vs.length≤sizeLine:=by rw[←rel.length];exact z
  have hl:(putK kvs k v).length≤sizeLine:=by have:=bE kvs k v;omega
  refine wpAny_setItem_pairs (hsz:=hz) (rK ry) dd λh' Ff hs=>h _ ?_;have he:∃q,h'.get? a=some q:=let ⟨q,_,_,hq,_⟩:=Ff;⟨q,hq⟩;exact qz I (by rw[e];exact True.intro) hs he (rM hl hd (rel.put k rv) Ff)
 ·subst ey eH;cases (show u=Value.ref b from ry);obtain⟨z,hd,xs,rel,dd⟩:=V3 I.aM e;have hz:xs.length≤sizeLine:=by rw[←Paired.length rel];exact z
  have hl:(putK kvs k v).length≤sizeLine:=by have:=bE kvs k v;omega
  refine wpAny_setItem_heap (hsz:=hz) (tupleKind_room_in1 hu) (key_of I.aM eb) dd λh' Ff hs=>h _ ?_;obtain⟨q,es,ep,hq,h2,h3,h4,_,h5⟩:=Ff;refine qz I (by rw[e];exact True.intro) hs ⟨q,hq⟩ ⟨hl,hd,_,(rel.put k eb rv).keeps λc ys ec=>?_,q,es,ep,hq,h2,h3,h4,h5⟩;rw[ah (cI ec e (λz=>nomatch z))];exact ec
end
section
variable {X:Cx}{pins:1e4}{σ:St}{H:Hp}{s:Shared}{a:3e5}{kvs:0e2}{k:Key}{u:Value}{A:Around}{E:0e3}
def V4{Q:0e3}(I:1e1)(e:Rd H a 3e0)(h:∀t s',Inv X pins σ H s'→Q (.int kvs.length t) s'):wpAny 1e0 A (call (.builtin "len") [.ref a]) Q E s:=by
 obtain⟨z,hd,vs,rel,dd⟩:=iN I.aM e;refine call_len_dict hd dd (by rw[←rel.length];rw[sizeLine_eq] at z;omega) ?_;rw[←rel.length];exact h _ _ (I.tok _)
end
def V5(i:Expr):Prop:=∀ov iv,subscripted i false ov iv=operate [ov,iv] (getItem ov iv)
def My{E:0e3}{T id:String}{Q:0e3}(hl:typeLookup (.type T) "__getitem__" =pure (some (.builtin id))) (hs:V5 slice)(h:wpAny 2e5 A (eval value env) (λo s₁=>wpAny 2e5 A (eval slice env) (λi s₂=>s₂.TypeIs o T∧wpAny 2e5 A (getItem o i) Q E s₂) E s₁) E s):
  wpAny 2e5 A (eval (.Subscript value slice pos) env) Q E s:=by
 refine Subscript_ (wpAny_mono h (λo s₁ h₁=>wpAny_mono h₁ (λi s₂ h₂=>?_) λ_ _ x=>x) λ_ _ x=>x);obtain⟨hT,h₂⟩:=h₂;unfold subscriptTail;refine wpAny_bind ?_;rw[getitemInPython_of_ne hT.not_modules];refine wpAny_bind (wpAny_specialOf hT hl ?_)
 have fin:wpAny 2e5 A (subscripted slice false o i) (λr s₃=>wpAny 2e5 A (letTemporaryGo value o r >>= λ_=>pure r) Q E s₃) E s₂:=by
  rw[hs o i];exact wpAny_operating (wpAny_mono h₂ (λr s₃ h₃=>wpAny_bind (wpAny_letTemporaryGo (wpAny_pure h₃))) λ_ _ x=>x)
 first
  |exact wpAny_pure (wpAny_bind fin)
  |exact wpAny_bind (wpAny_pure (wpAny_bind fin))
  |exact wpAny_bind fin
def zq(I:1e1)(g:fU H a y o):s.TypeIs (.ref a) "dict" :=by
 rcases g with ⟨kvs,k,e,_,_⟩ | ⟨kvs,k,b,e,_,_,_⟩
 ·obtain⟨_,_,vs,_,dd⟩:=iN I.aM e;exact dd.typeIs
 ·obtain⟨_,_,xs,_,dd⟩:=vm I.aM e;exact dd.typeIs
def HH(td ty:TE):TE:=fun σ H Q=>td σ H λx H1=>ty σ H1 λy H2=>∃a v,x= .ref a∧fU H2 a y (some v)∧Q v H2
def Mz(ty td:TE):TE:=fun σ H Q=>ty σ H λy H1=>td σ H1 λx H2=>∃a o,x= .ref a∧fU H2 a y o∧Q (.bl (!o.isSome)) H2
def HI(td ty tv:TE):TS:=λD σ H=>tv σ H λv H1=>td σ H1 λx H2=>ty σ H2 λy H3=>∃a H4,x= .ref a∧i4 H3 a y v H4∧D.nx σ H4
section
variable {X:Cx}{o i e value:Expr}{pos pos' uA:Pos}{td ty tv:TE}
def bX(hu:X.A.units+1<cLine)(ho:PE X o td)(hi:PE X i ty)(hs:V5 i):PE X (.Subscript o i pos) (HH td ty):=by
 intro pins s σ H Q I h;refine My PySem.F.slot_dict_getitem.lookup hs (bR (ho pins s σ H _ I h) λu s1 ⟨x,H1,I1,rx,q1⟩=>bR (hi pins s1 σ H1 _ I1 q1) λiv s2 ⟨y,H2,I2,ry,a,v,ex,g,q2⟩=>?_);subst ex;obtain rfl:u=Value.ref a:=rx;exact⟨zq I2 g,Fd hu I2 g ry λw' s3 I3 HG=>⟨v,H2,I3,HG,q2⟩⟩
def Fg(hu:X.A.units+1<cLine)(hi:PE X i ty)(ho:PE X o td):PC X .NotIn i o (Mz ty td):=by
 intro pins s σ H Q I h;refine bR (hi pins s σ H _ I h) λiv s1 ⟨y,H1,I1,ry,q1⟩=>bR (ho pins s1 σ H1 _ I1 q1) λu s2 ⟨x,H2,I2,rx,a,ov,ex,g,q2⟩=>?_;subst ex;obtain rfl:u=Value.ref a:=rx;exact Mx hu I2 g ry λs3 I3=>⟨.bl (!ov.isSome),H2,I3,rfl,q2⟩
def cF(hu:X.A.units+1<cLine)(ho:PE X o td)(hi:PE X i ty)(hv:PE X value tv)(hs:swapsWith value (some (.Subscript o i pos')) pos.line X.env=pure false):
  PS X (.Assign [.Subscript o i pos'] value pos) (HI td ty tv):=by
 intro pins s σ H D I h;refine wpAny_Assign_Subscript (bR (hv pins s σ H _ I h) λr s1 ⟨v,H1,I1,rv,q1⟩=>bR (ho pins s1 σ H1 _ I1 q1) λu s2 ⟨x,H2,I2,rx,q2⟩=>bR (hi pins s2 σ H2 _ I2 q2) λiv s3 ⟨y,H3,I3,ry,a,H4,ex,g,q3⟩=>?_) hs;subst ex;obtain rfl:u=Value.ref a:=rx;exact Fe hu I3 g ry rv λs4 I4=>⟨σ,H4,I4,q3⟩
end
def zr(h:Heap)(hb:sysModules<h.objs.size):cf P w H (h.push { cls:= .type "dict",data:= .dict #[] }) h.objs.size (.dK []):=
 ⟨zero_le _,beq_eq_false_iff_ne.mpr (Ne.symm (ne_of_lt hb)),[], .nil,Heap.DictOf.new h⟩
def Rh:TE:=λ_ H Q=>∀p,H p=none→Q (.ref p) (upd H p (.dK []))
section
variable {X:Cx}{pos:Pos}
def dq:PE X (.Dict [] [] pos) Rh:=λpins s σ H Q I h=>
 wpAny_Dict_empty ⟨.ref s.heap.objs.size,_,I.laid (a:=s.heap.objs.size) (o:= .dK []) (t':=s.toks) (λ_ _ q=>Heap.get?_push_of_some _ q) (le_refl _) (zr s.heap I.big),rfl,h _ (I.aM.fresh (le_refl _))⟩
end
def Bt:List (TE×TE)→St→Hp→(List (V×V)→Hp→Prop)→Prop
 | [],_,H,Q=>Q [] H
 | (tk,tv)::r,σ,H,Q=>tk σ H λx H1=>tv σ H1 λy H2=>Bt r σ H2 λps H3=>Q ((x,y)::ps) H3
abbrev VV:List (V×V)→List (Value×Value)→Prop:=Paired λp q=>RelV p.1 q.1∧RelV p.2 q.2
def PPs(X:Cx)(pos:Pos)(keys:List (Option Expr))(values:List Expr)(MA:List (TE×TE)):Prop:=
 ∀(pins:1e4) (s:Shared) (σ:St) (H:Hp) (Q:List (V×V)→Hp→Prop),Inv X pins σ H s→Bt MA σ H Q→
  wpAny 1e0 X.A (evalPairs (pairTrees keys values X.env pos)) (λvs s'=>∃ps H',Inv X pins σ H' s'∧VV ps vs∧Q ps H') X.xe s
def jz:PPs X pos [] [] []:=λpins s σ H Q I h=>pairTrees_nil_walk ⟨[],H,I, .nil,h⟩
def ib{ks:List (Option Expr)}{MA:List (TE×TE)}(hk:PE X k tk)(hv:PE X v tv)(hr:PPs X pos ks vs MA):
  PPs X pos (some k::ks) (v::vs) ((tk,tv)::MA):=λpins s σ H Q I h=>
 pairTrees_cons_walk (bR (hk pins s σ H _ I h) λu s1 ⟨x,H1,I1,rx,q1⟩=>bR (hv pins s1 σ H1 _ I1 q1) λw2 s2 ⟨y,H2,I2,ry,q2⟩=>
  bR (hr pins s2 σ H2 _ I2 q2) λws s3 ⟨ps,H3,I3,rel,q3⟩=>⟨(x,y)::ps,H3,I3, .cons ⟨rx,ry⟩ rel,q3⟩)
def bF(kvs more:0e2):List (Key×V):=more.foldl (λacc kv=>putK acc kv.1 kv.2) kvs
def KV.merge:∀{more:0e2} {rs:List (Key×Value)} {kvs:0e2} {vs:List (Key×Value)},KV more rs→KV kvs vs→KV (bF kvs more) (merged vs rs):=by
 intro more rs kvs vs r;unfold KV at r
 induction r generalizing kvs vs with
 |nil=>intro q;exact q
 | @cons p q ps qs h t ih=>
   intro r0
   have e:KV (putK kvs p.1 p.2) (stored vs q.1 q.2):=by
    have:=r0.put p.1 h.2;rw[←h.1];exact this
   exact ih e
theorem eD:∀(more kvs:0e2),(bF kvs more).length≤kvs.length+more.length
 | [],kvs=>by show kvs.length≤kvs.length+0;omega
 |p::r,kvs=>by
  have h1:=eD r (putK kvs p.1 p.2);have h2:=bE kvs p.1 p.2;show (bF (putK kvs p.1 p.2) r).length≤_;rw[length_cons];omega
theorem rN:∀{kvs:0e2} {ws:List (Value×Value)},VV (kvs.map λkv=>(kV kv.1,kv.2)) ws→∃rs,Carries (bz P w) ws rs∧KV kvs rs
 | [],_,r=>by rw[map_nil] at r;cases r;exact⟨[],True.intro, .nil⟩
 |p::kvs,_,r=>by
  rw[map_cons] at r
  cases r with
  | @cons a b as bs h t=>
    obtain⟨rs,c,q⟩:=rN (P:=P) (w:=w) t;obtain⟨b1,b2⟩:=b;exact⟨(p.1,b2)::rs,⟨rK h.1,rfl,c⟩, .cons ⟨rfl,h.2⟩ q⟩
def V6(MA:List (TE×TE)):TE:=fun σ H Q=>∀p,H p=none→Bt MA σ (upd H p (.dK [])) λps H2=>H2 p=some (.dK [])∧∃kvs:List (Key×V),ps=kvs.map (λkv=>(kV kv.1,kv.2))∧kvs.length≤15∧Q (.ref p) (upd H2 p (.dK (bF [] kvs)))
def jA{keys:List (Option Expr)}{MA:List (TE×TE)}(h:PPs X pos keys values MA)(xb:keys.all (·.isSome)=true)(hl:keys.length=values.length)(h0:keys≠[])(h15:keys.length≤15):PE X (.Dict keys values pos) (V6 MA):=by
 intro pins s σ H Q I q;have hn:=I.aM.fresh (le_refl s.heap.objs.size);have I1:=I.laid (a:=s.heap.objs.size) (o:= .dK []) (h':=s.heap.push { cls:= .type "dict",data:= .dict #[] }) (t':=s.toks) (λ_ _ q=>Heap.get?_push_of_some _ q) (le_refl _) (zr s.heap I.big);refine wpAny_Dict_walk (knd:=bz X.prog X.w) xb hl h0 h15 (bR (h pins _ σ _ _ I1 (q _ hn)) λws s2 ⟨ps,H2,I2,rel,e,kvs,ep,lk,q2⟩=>?_);subst ep;obtain⟨rs,c,rk⟩:=rN (P:=X.prog) (w:=X.w) rel;obtain⟨z,hd,vs0,r0,dd⟩:=rL I2.aM e;cases r0;refine⟨rs,c,dd,λh' Ff hs=>⟨.ref s.heap.objs.size,_,?_,rfl,q2⟩⟩
 have hz:(bF [] kvs).length≤sizeLine:=by
  have h1:=eD kvs [];rw[length_nil] at h1;rw[sizeLine_eq];omega
 have he:∃q,h'.get? s.heap.objs.size=some q:=let ⟨q,_,_,hq,_⟩:=Ff;⟨q,hq⟩;exact qz I2 (by rw[e];exact True.intro) hs he (rM hz hd (rk.merge .nil) Ff)
structure M1(X:Cx)(o:Expr)(m:Str)(apos:Pos)(e:Expr)(ic:Pos):Prop where
 base:attributeBase o m X.env (eval o X.env)=eval o X.env
 few:((backTo ic (starEach [e] X.env)).all (λx=>!x.1)&&(backToKw ic (keywordEach [] X.env)).all (λx=>x.1.isSome)
  &&decide (([e]:List Expr).length+([]:List Keyword).length+(if ([]:List Keyword).isEmpty then 0 else 1) <30))=true
 line:(apos.endLine==ic.line)=true
 trees:backTo ic (starEach [e] X.env)=[(false,eval e X.env)]
structure M2(X:Cx)(o:Expr)(m:Str)(apos:Pos)(e f:Expr)(ic:Pos):Prop where
 base:attributeBase o m X.env (eval o X.env)=eval o X.env
 few:((backTo ic (starEach [e,f] X.env)).all (λx=>!x.1)&&(backToKw ic (keywordEach [] X.env)).all (λx=>x.1.isSome)
  &&decide (([e,f]:List Expr).length+([]:List Keyword).length+(if ([]:List Keyword).isEmpty then 0 else 1) <30))=true
 line:(apos.endLine==ic.line)=true
 trees:backTo ic (starEach [e,f] X.env)=[(false,eval e X.env),(false,eval f X.env)]
def IsD(H:Hp)(a:3e5):Prop:=(∃kvs,Rd H a 3e0)∨∃kvs,Rd H a (.dT kvs)
def HJ(I:1e1)(d:IsD H a):
  s.TypeIs (.ref a) "dict" ∧(∀b,Value.ref a= .ref b→∃ob,s.heap.get? b=some ob∧ob.dict=none)∧(a==sysModules)=false:=by
 rcases d with ⟨kvs,e⟩ | ⟨kvs,e⟩
 ·obtain⟨_,hd,vs,_,dd⟩:=iN I.aM e;refine⟨dd.typeIs,λb q=>?_,hd⟩;cases q;obtain⟨ob,_,_,h1,h2,_⟩:=dd;exact⟨ob,h1,h2.2.1⟩
 ·obtain⟨_,hd,xs,_,dd⟩:=vm I.aM e;refine⟨dd.typeIs,λb q=>?_,hd⟩;cases q;obtain⟨ob,_,_,h1,h2,_⟩:=dd;exact⟨ob,h1,h2.2.1⟩
section
variable {X:Cx}{pins:1e4}{σ:St}{H:Hp}{s:Shared}{a:3e5}{y d:V}{u r:Value}{o:Option V}{A:Around}{E:0e3}
def Ri{Q:0e3}(hu:A.units+1<cLine)(I:1e1)(g:fU H a y o)(ry:RelV y u)(rd:RelV d r)(h:∀w' s',Inv X pins σ H s'→RelV (o.getD d) w'→Q w' s'):
  wpAny 1e0 A (call (.builtin "dict.get") [.ref a,u,r]) Q E s:=by
 rcases g with ⟨kvs,k,e,ey,l⟩ | ⟨kvs,k,b,e,ey,eb,l⟩
 ·subst ey;obtain⟨z,hd,vs,rel,dd⟩:=iN I.aM e;refine call_meetsIn PySem.F.slot_dict_get dd.typeIs PySem.F.entry_dict_get (PySem.F.args_dict_get_3 _ _ _) (meets_dict_get_default (bz X.prog X.w) a (rK ry) hd r) ⟨_,dd.mapOf,h _ _ (I.tok _) ?_⟩;rw[l];exact(rel.val k).getD rd
 ·subst ey;cases (show u=Value.ref b from ry);obtain⟨z,hd,xs,rel,dd⟩:=vm I.aM e;refine call_meetsIn PySem.F.slot_dict_get dd.typeIs PySem.F.entry_dict_get (PySem.F.args_dict_get_3 _ _ _) (meetsH_dict_get_default (tupleKind (bz X.prog X.w)) a b hd r) ⟨tupleKind_room_in1 hu,k,xs,key_of I.aM eb,dd,h _ _ (I.tok _) ?_⟩;rw[l];exact(rel.val k).getD rd
end
def Bu(td ty tx:TE):TE:=fun σ H Q=>td σ H λx H1=>∃a,x= .ref a∧IsD H1 a∧ty σ H1 λy H2=>tx σ H2 λz H3=>∃o,fU H3 a y o∧Q (o.getD z) H3
section
variable {X:Cx}{o e f:Expr}{apos ic:Pos}{td ty tx:TE}
def b5(hu:X.A.units+1<cLine)(ho:PE X o td)(he:PE X e ty)(hf:PE X f tx)(m:M2 X o "get" apos e f ic):PE X (.Call (.Attribute o "get" apos) [e,f] [] ic) (Bu td ty tx):=by
 intro pins s σ H Q I h;refine wpAny_Call_method m.base m.few m.line PySem.F.plainAttrs_dict PySem.F.slot_dict_get PySem.F.type_dict_get (bR (ho pins s σ H _ I h) λu s1 ⟨x,H1,I1,rx,a,ex,d,q1⟩=>?_);subst ex;obtain rfl:u=Value.ref a:=rx;obtain⟨t1,t2,_⟩:=HJ I1 d;refine⟨t1,t2,?_⟩;rw[m.trees]
 refine Calls.callWith_builtin rfl (Calls.evalArgs_plain (Calls.spliced_cons (bR (he pins s1 σ H1 _ I1 q1) λiv s2 ⟨y,H2,I2,ry,q2⟩=>
  Calls.spliced_cons (bR (hf pins s2 σ H2 _ I2 q2) λfv s3 ⟨z,H3,I3,rz,ov,g,q3⟩=>Calls.spliced_nil ?_))))
 exact Ri hu I3 g ry rz λw' s4 I4 HG=>⟨_,H3,I4,HG,q3⟩
end
section
variable {X:Cx}{pins:1e4}{σ:St}{H:Hp}{s:Shared}{a:3e5}{kvs:0e2}{A:Around}{E:0e3}
def HK{Q:0e3}(I:1e1)(e:Rd H a 3e0)(h:∀p s',H p=none→Inv X pins σ (upd H p 3e0) s'→Q (.ref p) s'):wpAny 1e0 A (call (.type "dict") [.ref a]) Q E s:=by
 obtain⟨z,hd,vs,rel,dd⟩:=iN I.aM e;refine kt_call_dict hd dd (by rw[←rel.length];exact z) λh' Ff hs=>?_;refine h _ _ (I.aM.fresh (le_refl _)) (I.laid (a:=s.heap.objs.size) (o:= .dK kvs) (t':=s.toks) (λb q hq=>?_) (le_refl _) (rM z (beq_eq_false_iff_ne.mpr (Ne.symm (ne_of_lt I.big))) rel Ff));exact(hs.2 b (ne_of_lt (Heap.lt_size hq))).trans (Heap.get?_push_of_some _ hq)
end
section
variable {X:Cx}{pins:1e4}{σ:St}{H:Hp}{s:Shared}{a:3e5}{y:V}{u:Value}{A:Around}{E:0e3}
end
end L2
namespace HT
open PySem PyProof.Rows
section
open PySem.SeqAt
open PySem.AutoSeq1 (wpAny_loadPart')
open PySem.MeetsSeq PySem.MeetsSeq2 PySem.MeetsSeq3
end
section
variable {prog:Program}{w:World}{A:Around}{E:0e3}{s:Shared}
noncomputable def yS(n d:Nat):Option Int→Nat
 |none=>d
 |some v=>if v<0 then (v+(n:Int)).toNat else min v.toNat n
def HL(n d:Nat):yS n d none=d:=rfl
def MB(v:Int)(n d:Nat):(if v<0 then max (v+(n:Int)) 0 else min v (n:Int))=((yS n d (some v):Nat):Int):=by
 show (if v<0 then max (v+(n:Int)) 0 else min v (n:Int))=(((if v<0 then (v+(n:Int)).toNat else min v.toNat n):Nat):Int);by_cases hv:v<0
 ·simp only [if_pos hv];omega
 ·simp only [if_neg hv];omega
end
end HT
namespace L2
open PySem PySem.Spec PyProof.Rows
abbrev TO:=St→Hp→(Option Int→Hp→Prop)→Prop
def PO(X:Cx)(e:Option Expr)(t:TO):Prop:=
 ∀(pins:1e4) (s:Shared) (σ:St) (H:Hp) (Q:Option Int→Hp→Prop),Inv X pins σ H s→t σ H Q→
  wpAny 1e0 X.A (evalPart e X.env) (λu s'=>∃o H',Inv X pins σ H' s'∧IsPart u o∧Q o H') X.xe s
def MC:TO:=λ_ H Q=>Q none H
def V7(t:TE):TO:=fun σ H Q=>t σ H λx H1=>∃i,x= .int i∧Q (some i) H1
def intsAre_of:∀{us:4e1},Vals (ns.map V.int) us→IntsAre us ns:=by
 induction ns with
 |nil=>intro us r;rw[map_nil] at r;cases r;exact .nil
 |cons n ns ih=>
  intro us r;rw[map_cons] at r
  cases r with
  |cons r1 r2=>
   obtain⟨t,e⟩:=r1;subst e;exact .cons n t (ih r2)
section
variable {X:Cx}{e:Expr}{te:TE}{lo hi:Option Expr}{tl th:TO}{pos p2:Pos}
def C5:PO X none MC:=by
 intro pins s σ H Q I h;rw[evalPart_none];exact wpAny_pure ⟨none,H,I, .none,h⟩
def eQ(h:PE X e te):PO X (some e) (V7 te):=by
 intro pins s σ H Q I hw;rw[evalPart_some];refine bR (h pins s σ H _ I hw) λu s1 ⟨x,H1,I1,r1,q1⟩=>?_;obtain⟨i,rfl,q⟩:=q1;obtain⟨t,rfl⟩:=r1;exact⟨some i,H1,I1, .int i t,q⟩
def SlR(X:Cx)(r:V→Option Int→Option Int→Hp→VK→Prop):Prop:=
 ∀(pins:1e4) (s:Shared) (σ:St) (H:Hp) (x:V) (v vl vu:Value) (lo hi:Option Int) (sl:3e5) (Q:VK),Inv X pins σ H s→RelV x v→s.heap.IsSliceOf sl vl vu .none→IsPart vl lo→IsPart vu hi→r x lo hi H Q→
  ∃T id,typeLookup (.type T) "__getitem__" =pure (some (.builtin id))∧s.TypeIs v T∧wpAny 1e0 X.A (getItem v (.ref sl)) (EP X pins σ Q) X.xe s
def tSl(r:V→Option Int→Option Int→Hp→VK→Prop)(te:TE)(tl th:TO):TE:=fun σ H Q=>te σ H λx H1=>tl σ H1 λl H2=>th σ H2 λu H3=>r x l u H3 Q
def ie{r:V→Option Int→Option Int→Hp→VK→Prop}(hr:SlR X r)(he:PE X e te)(hl:PO X lo tl)(hu:PO X hi th):PE X (.Subscript e (.Slice lo hi none p2) pos) (tSl r te tl th):=by
 intro pins s σ H Q I h;refine Subscript_ (bR (he pins s σ H _ I h) λv s1 ⟨x,H1,I1,r1,q1⟩=>?_);refine wpAny_Slice (bR (hl pins s1 σ H1 _ I1 q1) λvl s2 ⟨l,H2,I2,pl,q2⟩=>bR (hu pins s2 σ H2 _ I2 q2) λvu s3 ⟨u,H3,I3,pu,q3⟩=>?_);rw[evalPart_none];refine wpAny_pure ?_;have I4:Inv X pins σ H3 { s3 with heap:=s3.heap.push { cls:= .type "slice",data:= .fields #[vl,vu, .none] } }:=I3.kept (t':=s3.toks) λb ob q=>Heap.get?_push_of_some _ q;obtain⟨T,id,hT,ht,hg⟩:=hr pins { s3 with heap:=s3.heap.push { cls:= .type "slice",data:= .fields #[vl,vu, .none] } } σ H3 x v vl vu l u s3.heap.objs.size Q I4 r1 (Heap.IsSliceOf.new ..) pl pu q3;show wpAny 1e0 X.A (subscriptTail e (.Slice lo hi none p2) v (.ref s3.heap.objs.size)) (EP X pins σ Q) X.xe { s3 with heap:=s3.heap.push { cls:= .type "slice",data:= .fields #[vl,vu, .none] } };exact tail_any (ops:=[.ref s3.heap.objs.size,v]) ht hT hg (by with_unfolding_all rfl)
noncomputable def uF(xs:4e5)(lo hi:Option Int):List V:=(xs.drop (HT.yS xs.length 0 lo)).take (HT.yS xs.length xs.length hi - HT.yS xs.length 0 lo)
def p6(xs:4e5)(lo hi:Option Int):(uF xs lo hi).length≤xs.length:=by
 unfold uF;rw[length_take,length_drop];omega
end
end L2
namespace L2
open PySem PySem.Spec PyProof.Rows
noncomputable def Rj(n:Nat)(i:Int):Option Nat:=if 0≤i then (if i<n then some i.toNat else none) else if -(n:Int)≤i then some (i+n).toNat else none
noncomputable def uH{α:Type}(xs:List α)(i:Int):Option α:=(Rj xs.length i).bind λj=>xs[j]?
def MD{n:Nat}{i:Int}{j:Nat}(h:Rj n i=some j):seqIndex? i n=some j∧j<n∧ -(n:Int)≤i∧i<n:=by
 unfold Rj at h;by_cases h0:0≤i
 ·rw[if_pos h0] at h;by_cases h1:i<n
  ·rw[if_pos h1] at h;have e:i.toNat=j:=Option.some.inj h;exact⟨by rw[seqIndex_of h0 h1,e],by omega,by omega,h1⟩
  ·rw[if_neg h1] at h;cases h
 ·rw[if_neg h0] at h;by_cases h1: -(n:Int)≤i
  ·rw[if_pos h1] at h;have e:(i+n).toNat=j:=Option.some.inj h;exact⟨by rw[seqIndex_neg 0e5 h1,e],by omega,h1,by omega⟩
  ·rw[if_neg h1] at h;cases h
def xc{α:Type}{xs:List α}{i:Int}{v:α}(h:uH xs i=some v):∃j,seqIndex? i xs.length=some j∧xs[j]? =some v∧j<xs.length∧ -(xs.length:Int)≤i∧i<xs.length:=by
 unfold uH at h
 cases e:Rj xs.length i with
 |none=>rw[e] at h;cases h
 |some j=>
  rw[e] at h;obtain⟨h1,h2,h3,h4⟩:=MD e;exact⟨j,h1,h,h2,h3,h4⟩
def lA{α:Type}{xs:List α}{j:Nat}{v:α}(h:xs[j]? =some v):uH xs (j:Int)=some v:=by
 have hj:j<xs.length:=(List.getElem?_eq_some_iff.mp h).1
 have e:Rj xs.length (j:Int)=some j:=by
  unfold Rj;rw[if_pos 0e5,if_pos 0e5];simp
 unfold uH;rw[e];exact h
def ME(b:Expr):Prop:=∀o i,subscripted b false o i=operate [o,i] (getItem o i)
def U0(X:Cx)(r:R2):Prop:=
 ∀(value slice:Expr) (pins:1e4) (s:Shared) (σ:St) (H:Hp) (x y:V) (v u:Value) (Q:VK),Inv X pins σ H s→RelV x v→RelV y u→r x y H Q→
  subscripted slice false v u=operate [v,u] (getItem v u)→wpAny 1e0 X.A (subscriptTail value slice v u) (EP X pins σ Q) X.xe s
def MtR(X:Cx)(id:String)(r:V→List V→Hp→VK→Prop):Prop:=
 ∀(pins:1e4) (s:Shared) (σ:St) (H:Hp) (x:V) (xs:4e5) (v:Value) (us:4e1) (Q:VK),Inv X pins σ H s→RelV x v→Vals xs us→r x xs H Q→
  wpAny 1e0 X.A (call (.builtin id) (v::us)) (EP X pins σ Q) X.xe s
section
variable {X:Cx}{a b:Expr}{ta tb:TE}{pos:Pos}
def bQ(hr:U0 X r)(ha:PE X a ta)(hb:PE X b tb)(hs:ME b):PE X (.Subscript a b pos) (Q7 r ta tb):=by
 intro pins s σ H Q I h;exact Subscript_ (Q8 ha hb I h λv u s2 x y H2 I2 rx ry q=>hr a b pins s2 σ H2 x y v u Q I2 rx ry q (hs _ _))
def V8(K:0e9):R2:=λx y H Q=>∃p xs i v,x= .ref p∧y= .int i∧bM K H p xs∧uH xs i=some v∧Q v H
def V9(K:0e9):R2:=λx y H Q=>∃p xs i v,x= .ref p∧y= .int i∧km K H p xs∧uH xs i=some v∧Q v H
def rIxS:R2:=λx y H Q=>∃z i c,x= .str z∧y= .int i∧z.length≤sizeLine∧uH z.cps.toList i=some c∧Q (.str ⟨#[c]⟩) H
def bP:U0 X (V8 X.K):=by
 intro value slice pins s σ H x y v u Q I rx ry h hs;obtain⟨p,xs,i,z,rfl,rfl,hq,he,q⟩:=h;cases rx;obtain⟨t,rfl⟩:=ry;obtain⟨its,r,pl,hz⟩:=I.list hq;obtain⟨j,h1,h2,h3,h4,h5⟩:=xc he;obtain⟨w,ew,HG⟩:=r.get h2;have hl:=r.length;have hn:=o5;have fin:EP X pins σ Q w s:=⟨z,H,I,HG,q⟩;by_cases h0:0≤i
 ·have hj:i.toNat=j:=by
   rw[seqIndex_of h0 h5] at h1;exact Option.some.inj h1
  exact item_listR pl.isList h0 0e5 (by rw[hj];simpa using ew) fin hs
 ·have hj:(i+(its.toArray.size:Int)).toNat=j:=by
   rw[seqIndex_neg 0e5 h4] at h1;rw[size_toArray,←hl];exact Option.some.inj h1
  exact subscriptTail_builtinR (x:=w) pl.isList.typeIs slot_list_getitem.lookup
   (wpAny_getItem_list_neg (Q:=λr s'=>r=w∧EP X pins σ Q r s') pl.isList 0e5 (by rw[size_toArray]<;>omega) 0e5 (by rw[hj];simpa using ew) ⟨rfl,fin⟩) hs
def jB:U0 X (V9 X.K):=by
 intro value slice pins s σ H x y v u Q I rx ry h hs;obtain⟨p,xs,i,z,rfl,rfl,hq,he,q⟩:=h;cases rx;obtain⟨t,rfl⟩:=ry;obtain⟨its,r,pl,hz⟩:=I.tuple hq;obtain⟨j,h1,h2,h3,h4,h5⟩:=xc he;obtain⟨w,ew,HG⟩:=r.get h2;have hl:=r.length;have hn:=o5;have fin:EP X pins σ Q w s:=⟨z,H,I,HG,q⟩;exact subscriptTail_builtinR (x:=w) pl.typeIs slot_tuple_getitem.lookup
  (getItem_tuple (j:=j) (Q:=λr s'=>r=w∧EP X pins σ Q r s') pl 0e5 0e5 (by rw[size_toArray,←hl];exact h1) (by simpa using ew) ⟨rfl,fin⟩) hs
def xf:U0 X rIxS:=by
 intro value slice pins s σ H x y v u Q I rx ry h hs;obtain⟨z,i,c,rfl,rfl,hz,he,q⟩:=h;obtain⟨t,rfl⟩:=rx;obtain⟨t',rfl⟩:=ry;obtain⟨j,h1,h2,h3,h4,h5⟩:=xc he;have hl:z.cps.toList.length=z.length:=by simp [Str.length]
 rw[hl] at h1 h4 h5;have hn:=o5
 exact tail_any (typeIs_str s z t) slot_str_getitem.lookup (getItem_str (c:=c) (by
  have e1:decide (i< -(2^63 :Int))=false:=decide_eq_false 0e5;have e2:decide (i≥2^63)=false:=decide_eq_false 0e5
  rw[e1,e2,Bool.or_false]) (by rw[h1];simpa using h2) ⟨.str ⟨#[c]⟩,H,I.tok _,2e4,q⟩) hs
def slice_bounds(lo hi:Option Int)(n:Nat):(sliceBounds lo hi none n).1=((HT.yS n 0 lo:Nat):Int)∧(sliceBounds lo hi none n).2.1=((HT.yS n n hi:Nat):Int)∧(sliceBounds lo hi none n).2.2=1:=by
 refine⟨?_,?_,rfl⟩
 ·cases lo with
  |none=>simp [sliceBounds,HT.yS]
  |some i=>
   simp only [sliceBounds,HT.yS,getD_none,show (1 :Int) >0 by decide,if_true];by_cases h:i<0
   ·simp only [h,if_true]<;>omega
   ·simp only [h,if_false]<;>omega
 ·cases hi with
  |none=>simp [sliceBounds,HT.yS]
  |some i=>
   simp only [sliceBounds,HT.yS,getD_none,show (1 :Int) >0 by decide,if_true];by_cases h:i<0
   ·simp only [h,if_true]<;>omega
   ·simp only [h,if_false]<;>omega
def uJ(its:4e1)(lo hi:Option Int):slicePick its.toArray lo hi none=((its.drop (HT.yS its.length 0 lo)).take (HT.yS its.length its.length hi - HT.yS its.length 0 lo)).toArray:=by
 obtain⟨h1,h2,h3⟩:=slice_bounds lo hi its.toArray.size;unfold slicePick;rw[h1,h2,h3];simp only [sliceRange_one,pick_run,size_toArray]<;>rfl
def rSlL(K:0e9):V→Option Int→Option Int→Hp→VK→Prop:=λx lo hi H Q=>∃a xs,x= .ref a∧bM K H a xs∧∀p,H p=none→Q (.ref p) (upd H p (.lst (uF xs lo hi)))
def xg:SlR X (rSlL X.K):=by
 intro pins s σ H x v vl vu lo hi sl Q I rx hs pl pu h;obtain⟨a,xs,rfl,hx,q⟩:=h;cases rx;obtain⟨its,r,ht,hz⟩:=I.list hx;have hlen:=r.length;refine⟨"list",_,slot_list_getitem.lookup,ht.isList.typeIs,?_⟩;refine wpAny_getItem_list_slice ht.isList hs pl pu .none 2e9 ?_ (by rw[size_toArray]<;>omega);rw[uJ,←hlen];refine⟨.ref s.heap.objs.size,_,I.laid (t':=s.toks) (o:= .lst (uF xs lo hi)) (λb ob q=>Heap.get?_push_of_some _ q) (le_refl _) ?_,rfl,q _ (I.aM.fresh (le_refl _))⟩;exact⟨le_trans (p6 xs lo hi) hz,_,0,(r.drop (HT.yS xs.length 0 lo)).take (HT.yS xs.length xs.length hi - HT.yS xs.length 0 lo),Heap.get?_push_size _ rfl⟩
noncomputable def vn:V→Bool
 | .cw=>true
 | .bl _=>true
 | .int _=>true
 | .str _=>true
 |_=>false
noncomputable def V':V→V→Bool
 | .cw, .cw=>true
 | .bl a, .bl b=>a==b
 | .bl a, .int b=>(if a then 1 else 0)==b
 | .int a, .bl b=>a==(if b then 1 else 0)
 | .int a, .int b=>a==b
 | .str a, .str b=>a==b
 |_,_=>false
def Rk(ry:RelV y u)(rx:RelV x v)(fy:vn y=true)(fx:vn x=true):SeqAt.EqAt A s u v (V' y x):=by
 cases y with
 |cw=>
  cases ry
  cases x with
  |cw=>cases rx;exact SeqAt.EqAt.same _
  |bl b=>cases rx;exact SeqAt.EqAt.none_bool b
  |int b=>obtain⟨t,rfl⟩:=rx;exact SeqAt.EqAt.none_int b t
  |str b=>obtain⟨t,rfl⟩:=rx;exact SeqAt.EqAt.none_str b t
  |_=>exact absurd (show false=true from fx) Bool.false_ne_true
 |bl a=>
  cases ry
  cases x with
  |cw=>cases rx;exact SeqAt.EqAt.bool_none a
  |bl b=>cases rx;exact SeqAt.EqAt.bool_bool a b
  |int b=>obtain⟨t,rfl⟩:=rx;exact SeqAt.EqAt.bool_int a b t
  |str b=>obtain⟨t,rfl⟩:=rx;exact SeqAt.EqAt.bool_str a b t
  |_=>exact absurd (show false=true from fx) Bool.false_ne_true
 |int a=>
  obtain⟨t',rfl⟩:=ry
  cases x with
  |cw=>cases rx;exact SeqAt.EqAt.int_none a t'
  |bl b=>cases rx;exact SeqAt.EqAt.int_bool a t' b
  |int b=>obtain⟨t,rfl⟩:=rx;exact SeqAt.EqAt.int_int a t' b t
  |str b=>obtain⟨t,rfl⟩:=rx;exact SeqAt.EqAt.int_str a t' b t
  |_=>exact absurd (show false=true from fx) Bool.false_ne_true
 |str a=>
  obtain⟨t',rfl⟩:=ry
  cases x with
  |cw=>cases rx;exact SeqAt.EqAt.str_none a t'
  |bl b=>cases rx;exact SeqAt.EqAt.str_bool a t' b
  |int b=>obtain⟨t,rfl⟩:=rx;exact SeqAt.EqAt.str_int a t' b t
  |str b=>obtain⟨t,rfl⟩:=rx;exact SeqAt.EqAt.str_str a t' b t
  |_=>exact absurd (show false=true from fx) Bool.false_ne_true
 |_=>exact absurd (show false=true from fy) Bool.false_ne_true
def fF:fB X (.builtin "len") (λxs H Q=>∃p ys,xs=[.ref p]∧(bM X.K H p ys∨km X.K H p ys)∧Q (.int ys.length) H):=by
 intro pins s σ H xs us Q I r h;obtain⟨p,ys,rfl,hq,q⟩:=h;obtain⟨u,rfl,rx⟩:=vals1 r;cases rx;have hn:=o5;rcases hq with hq|hq
 ·obtain⟨its,r',pl,hz⟩:=I.list hq;have hlen:=r'.length;exact Calls.call_len_list pl.isList (by simp only [size_toArray]<;>omega) ⟨.int ys.length,H,I.tok _,⟨s.toks+1,by rw[size_toArray,hlen]⟩,q⟩
 ·obtain⟨its,r',pl,hz⟩:=I.tuple hq;have hlen:=r'.length;exact len_tuple pl (by simp only [size_toArray]<;>omega) ⟨.int ys.length,H,I.tok _,⟨s.toks+1,by rw[size_toArray,hlen]⟩,q⟩
def jC:fB X (.builtin "len") (λxs H Q=>∃z,xs=[.str z]∧z.length≤sizeLine∧Q (.int z.length) H):=by
 intro pins s σ H xs us Q I r h;obtain⟨z,rfl,hz,q⟩:=h;obtain⟨u,rfl,t,rfl⟩:=vals1 r;have hn:=o5;exact len_str 0e5 ⟨.int z.length,H,I.tok _,2e4,q⟩
def fG:fB X (.type "list") (λxs H Q=>∃p ys,xs=[.ref p]∧(bM X.K H p ys∨km X.K H p ys)∧∀l,H l=none→Q (.ref l) (upd H l (.lst ys))):=by
 intro pins s σ H xs us Q I r h;obtain⟨p,ys,rfl,hq,q⟩:=h;obtain⟨u,rfl,rx⟩:=vals1 r;cases rx;have fin:∀(its:4e1),Vals ys its→ys.length≤sizeLine→∀(h':Heap) (c':Nat),(∀b o',s.heap.get? b=some o'→h'.get? b=some o')→
   h'.get? s.heap.objs.size=some { cls:= .type "list",dict:=none,data:= .seq its.toArray c',slots:=#[] }→EP X pins σ Q (.ref s.heap.objs.size) { s with heap:=h' }:=λits r' hz h' c' kp e=>
  ⟨.ref s.heap.objs.size,_,I.laid (t':=s.toks) kp (le_refl _) (show cf X.prog X.w _ h' _ (.lst ys) from ⟨hz,its,c',r',e⟩),rfl,q _ (I.aM.fresh (le_refl _))⟩
 rcases hq with hq|hq
 ·obtain⟨its,r',pl,hz⟩:=I.list hq;have hlen:=r'.length;obtain⟨o,ho,hc,n,hd⟩:=pl.isList;exact call_list_seq p (.inl rfl) ho hc hd (λh' c' kp e=>fin its r' hz h' c' kp e) (by simp only [size_toArray]<;>omega)
 ·obtain⟨its,r',pl,hz⟩:=I.tuple hq;have hlen:=r'.length;obtain⟨o,ho,hc,n,hd⟩:=pl;exact call_list_seq p (.inr rfl) ho hc hd (λh' c' kp e=>fin its r' hz h' c' kp e) (by simp only [size_toArray]<;>omega)
def tyV(K:0e9)(T:String)(x:V)(H:Hp):Prop:=match x with
 | .str _=>T="str"
 | .int _=>T="int"
 | .ref p=>(T="list" ∧∃xs,bM K H p xs)∨(T="tuple" ∧∃o,K.lookup p=some o∧o.cls= .type "tuple" ∧o.dict=none)∨
   (T="dict" ∧((∃kvs,H p=some 3e0)∨∃kvs,H p=some (.dT kvs)))∨(T="set" ∧∃S n,H p=some (.set S n))
 |_=>False
def Rm{T:String}(I:1e1)(r:RelV x v)(ty:tyV X.K T x H):
  s.TypeIs v T∧∀a,v= .ref a→∃ob,s.heap.get? a=some ob∧ob.dict=none:=by
 cases x with
 |str z=>
  obtain⟨t,rfl⟩:=r;cases (show T="str" from ty);exact⟨typeIs_str s z t,λ_ e=>nomatch e⟩
 |int i=>
  obtain⟨t,rfl⟩:=r;cases (show T="int" from ty);exact⟨typeIs_int s i t,λ_ e=>nomatch e⟩
 |ref p=>
  cases r;rcases ty with ⟨rfl,xs,hq⟩ | ⟨rfl,o,hk,hc,hd⟩ | ⟨rfl,hk⟩ | ⟨rfl,S,n,hk⟩
  ·obtain⟨its,_,pl,_⟩:=I.list hq;refine⟨pl.isList.typeIs,λa e=>?_⟩;cases e;obtain⟨o,n,e,c,hd,_⟩:=pl;exact⟨o,e,hd⟩
  ·refine⟨⟨o,I.ju p o hk,hc⟩,λa e=>?_⟩;cases e;exact⟨o,I.ju _ o hk,hd⟩
  ·have z:∃o,s.heap.get? p=some o∧o.ExactDict:=by
    rcases hk with ⟨kvs,hk⟩ | ⟨kvs,hk⟩
    ·obtain⟨_,_,_,_,o,_,_,e,ex,_⟩:=I.aM p _ hk;exact⟨o,e,ex⟩
    ·obtain⟨_,_,_,_,o,_,_,e,ex,_⟩:=I.aM p _ hk;exact⟨o,e,ex⟩
   obtain⟨o,e,ex⟩:=z;refine⟨⟨o,e,ex.1⟩,λa e2=>?_⟩;cases e2;exact⟨o,e,ex.2.1⟩
  ·obtain⟨o,_,_,_,e,ex,_⟩:=I.aM p _ hk;refine⟨⟨o,e,ex.1⟩,λa e2=>?_⟩;cases e2;exact⟨o,e,ex.2.1⟩
 |_=>exact False.elim ty
def tBM(K:0e9)(T:String)(r:V→List V→Hp→VK→Prop)(to:TE)(t:TA):TE:=fun σ H Q=>to σ H λx H1=>tyV K T x H1∧t σ H1 λxs H2=>r x xs H2 Q
variable {o e:Expr}{es:List Expr}{to:TE}{t:TA}{name:Str}{apos ic:Pos}{T id:String}{r:V→List V→Hp→VK→Prop}
def jg(pa:PlainAttrs T)(slot:Slot T name id)(hty:typeOf (.builtin id)=pure (.type "method_descriptor"))(hm:MtR X id r)(ho:PE X o to)(ha:PA X (e::es) t)
  (Wa:attributeBase o name X.env (eval o X.env)=eval o X.env:=by rfl)
  (hfew:((backTo ic (starEach (e::es) X.env)).all (λx=>!x.1)&&(backToKw ic (keywordEach [] X.env)).all (λx=>x.1.isSome)
   &&decide ((e::es).length+([]:List Keyword).length+(if ([]:List Keyword).isEmpty then 0 else 1) <30))=true:=by rfl)
  (HM:(apos.endLine==ic.line)=true:=by rfl) (hs:starEach (e::es) X.env=(false,eval e X.env)::starEach es X.env:=by rfl) (Rn:(backTo ic (starEach es X.env)).any 1e8=false:=by rfl):
  PE X (.Call (.Attribute o name apos) (e::es) [] ic) (tBM X.K T r to t):=by
 intro pins s σ H Q I h;refine wpAny_Call_method_late Wa hfew HM rfl (bR (ho pins s σ H _ I h) λv s1 ⟨x,H1,I1,r1,ty,q1⟩=>?_);obtain⟨h1,h2⟩:=Rm I1 r1 ty;refine⟨T,id,pa,slot,hty,h1,h2,?_⟩;have hA:=ha ic pins s1 σ H1 _ I1 q1;rw[hs] at hA ⊢;refine Calls.callWith_builtin (by show (false||(backTo ic (starEach es X.env)).any 1e8)=false;rw[Rn]<;>rfl) (Calls.evalArgs_plain ?_);exact bR hA λus s2 ⟨vs,H2,I2,r2,q2⟩=>hm pins s2 σ H2 x vs v us Q I2 r1 r2 q2
end
end L2
namespace L2
open PySem PySem.Spec PyProof.Rows
def MtM(X:Cx)(id:String)(r:V→List V→Hp→VK→Prop):Prop:=
 ∀(pins:1e4) (s:Shared) (σ:St) (H:Hp) (x:V) (xs:4e5) (v:Value) (us:4e1) (Q:VK),Inv X pins σ H s→RelV x v→Vals xs us→r x xs H Q→
  wpAny 1e0 X.A (call (.builtin id) (v::us)) (EP X pins σ Q) X.xe s
def Vals.one:∀{x:V} {us:4e1},Vals [x] us→∃u,us=[u]∧RelV x u
 |_,_, .cons r .nil=>⟨_,rfl,r⟩
theorem Vals.rep(h:Vals xs us):∀k:Nat,Vals (List.replicate k xs).flatten (List.replicate k us).flatten
 |0=> .nil
 |k+1=>by
  rw[replicate_succ,replicate_succ,flatten_cons,flatten_cons];exact Vals.append h (Vals.rep h k)
theorem foldl_rep(its:4e1):∀(k:Nat) (acc:4e1),
  List.foldl (λx1 x2=>x1++x2) acc.toArray (List.replicate k its.toArray)=(acc++(List.replicate k its).flatten).toArray
 |0,acc=>by simp
 |k+1,acc=>by
  have e:acc.toArray++its.toArray=(acc++its).toArray:=by simp
  have e2:(acc++its)++(List.replicate k its).flatten=acc++(List.replicate (k+1) its).flatten:=by
   rw[replicate_succ,flatten_cons,append_assoc]
  rw[←e2,←foldl_rep its k (acc++its),←e,replicate_succ,foldl_cons]
section
variable {X:Cx}{pins:1e4}{σ:St}{H:Hp}{s:Shared}{l b:3e5}{xs ys zs:4e5}
def Inv.Wb{its:4e1}{n:Nat}{f:Array Value→Array Value}{t':Nat}(I:1e1)(hH:H l=some (.lst xs))(e:s.heap.get? l=some { cls:= .type "list",data:= .seq its.toArray n }) (hf:f its.toArray=its'.toArray) (hv:Vals ys its') (hz:ys.length≤sizeLine):
  Inv X pins σ (upd H l (.lst ys)) { s with heap:=s.heap.update l (Obj.mapSeq f),toks:=t' }:=by
 have q:=PySem.IsL.update e f;rw[hf] at q;refine I.write (x:=l) (e:=l) (by rw[hH];exact trivial) (.inl rfl) (λb' u hb hu=>(Heap.get?_update_other s.heap (Obj.mapSeq f) (Ne.symm hb)).trans hu) ⟨_,q⟩ ?_;exact⟨hz,its',_,hv,q⟩
def Inv.MF{t':Nat}(I:1e1)(hv:Vals ys its)(hz:ys.length≤sizeLine):
  Inv X pins σ (upd H s.heap.objs.size (.lst ys)) { s with heap:=s.heap.push { cls:= .type "list",data:= .seq its.toArray },toks:=t' }:=
 I.laid (λ_ _ q=>Heap.get?_push_of_some _ q) (le_refl _) ⟨hz,its,0,hv,Heap.get?_push_size _ rfl⟩
theorem Inv.fresh(I:1e1):H s.heap.objs.size=none:=I.aM.fresh (le_refl _)
def Inv.Bv(I:1e1)(hH:H l=some (.lst xs)):xs.length≤sizeLine∧∃(its:4e1) (n:Nat),Vals xs its∧xs.length=its.length∧s.heap.get? l=some { cls:= .type "list",data:= .seq its.toArray n }:=by
 obtain⟨z,its,n,r,e⟩:=I.aM l _ hH;exact⟨z,its,n,r,r.length,e⟩
def zt{n:Nat}(h:n≤sizeLine):Builtin.List.listTooLong n=false:=by
 unfold Builtin.List.listTooLong;exact decide_eq_false 0e5
end
section
variable {X:Cx}
def MG:V→List V→Hp→VK→Prop:=λx vs H Q=>∃l xs y,x= .ref l∧vs=[y]∧H l=some (.lst xs)∧xs.length<sizeLine∧Q .cw (upd H l (.lst (xs++[y])))
def dB:MtM X "list.append" MG:=by
 intro pins s σ H x vs v us Q I rx rv h;obtain⟨l,xs,y,rfl,rfl,hH,hz,q⟩:=h;cases rx;obtain⟨u,rfl,ru⟩:=rv.one;obtain⟨z,its,n,r,hl,e⟩:=I.Bv hH;refine call_meets F.slot_list_append ⟨_,e,rfl⟩ F.entry_list_append (F.args_list_append_2 _ _) (PySem.list_append l its.toArray n u (by rw[size_toArray];omega)) ⟨e,?_⟩;refine⟨.cw,_,I.Wb (its':=its++[u]) hH e 2e9 (r.append (.cons ru .nil)) ?_,rfl,q⟩;rw[length_append,List.length_singleton];omega
def MH:V→List V→Hp→VK→Prop:=λx vs H Q=>∃l b xs zs,x= .ref l∧vs=[.ref b]∧H l=some (.lst xs)∧H b=some (.lst zs)∧xs.length+zs.length≤sizeLine∧Q .cw (upd H l (.lst (xs++zs)))
def Fh:MtM X "list.extend" MH:=by
 intro pins s σ H x vs v us Q I rx rv h;obtain⟨l,b,xs,zs,rfl,rfl,hH,hB,hz,q⟩:=h;cases rx;obtain⟨u,rfl,ru⟩:=rv.one;cases ru;obtain⟨z,its,n,r,hl,e⟩:=I.Bv hH;obtain⟨z2,Bw,n2,r2,uo,e2⟩:=I.Bv hB;have hsz:its.toArray.size+Bw.toArray.size≤sizeLine:=by rw[size_toArray,size_toArray];omega
 have HN:¬(!its.toArray.isEmpty&&Builtin.List.listTooLong (its.toArray.size+Bw.toArray.size))=true:=by
  rw[zt hsz,Bool.and_false];exact Bool.false_ne_true
 refine call_meets F.slot_list_extend ⟨_,e,rfl⟩ F.entry_list_extend (F.args_list_extend_2 _ _)
  (AutoSeq1.list_extend_list_list_0 l its.toArray n b Bw.toArray n2 HN (by rw[size_toArray];omega) 0e5) ⟨e,e2,?_⟩
 refine⟨.cw,_,I.Wb (its':=its++Bw) hH e 2e9 (r.append r2) ?_,rfl,q⟩;rw[length_append];omega
def rCat:R2:=λx y H Q=>∃l b xs zs,x= .ref l∧y= .ref b∧H l=some (.lst xs)∧H b=some (.lst zs)∧xs.length+zs.length≤sizeLine∧∀p,H p=none→Q (.ref p) (upd H p (.lst (xs++zs)))
def mw:oY X (binaryOp .Add) rCat:=by
 intro pins s σ H x y v u Q I rx ry h;obtain⟨l,b,xs,zs,rfl,rfl,hH,hB,hz,q⟩:=h;cases rx;cases ry;obtain⟨z,its,n,r,hl,e⟩:=I.Bv hH;obtain⟨z2,Bw,n2,r2,uo,e2⟩:=I.Bv hB;refine PySem.P.add_list e e2 ?_ (by rw[size_toArray,size_toArray];omega);have ea:its.toArray++Bw.toArray=(its++Bw).toArray:=by simp
 rw[ea];exact⟨.ref _,_,I.MF (t':=s.toks) (r.append r2) (by rw[length_append];omega),rfl,q _ I.fresh⟩
def rRep:R2:=λx y H Q=>∃l k xs,x= .ref l∧y= .int k∧H l=some (.lst xs)∧ -(2^63)≤k∧k<2^63∧xs.length*k.toNat≤sizeLine∧
 ∀p,H p=none→Q (.ref p) (upd H p (.lst (List.replicate k.toNat xs).flatten))
def len_rep{α:Type}(xs:List α)(k:Nat):(List.replicate k xs).flatten.length=k*xs.length:=by
 induction k with
 |zero=>simp
 |succ k ih=>rw[replicate_succ,flatten_cons,length_append,ih,Nat.succ_mul,Nat.add_comm]
def Ro:oY X (binaryOp .Mult) rRep:=by
 intro pins s σ H x y v u Q I rx ry h;obtain⟨l,k,xs,rfl,rfl,hH,h1,h2,hz,q⟩:=h;cases rx;obtain⟨t,rfl⟩:=ry;obtain⟨z,its,n,r,hl,e⟩:=I.Bv hH;have hlen:its.toArray.size*k.toNat≤sizeLine:=by rw[size_toArray,←hl];exact hz
 have hcap:¬its.toArray.size*k.toNat> (2^63 - 1) /8:=by
  have:(sizeLine:Nat)≤(2^63 - 1) /8:=by decide
  omega
 have hfit:¬(!Builtin.List.listFitsIndex k)=true:=by
  rw[fitsIndex_both h1 h2];exact Bool.false_ne_true
 have HN:¬Builtin.List.listTooLong (its.toArray.size*k.toNat)=true:=by
  rw[zt hlen];exact Bool.false_ne_true
 have jD:List.foldl (λx1 x2=>x1++x2) #[] (List.replicate (if its.toArray.isEmpty=true then 0 else k.toNat) its.toArray)=(List.replicate k.toNat its).flatten.toArray:=by
  have f0:∀m:Nat,List.foldl (λx1 x2=>x1++x2) #[] (List.replicate m its.toArray)=(List.replicate m its).flatten.toArray:=λm=>by
   have:=foldl_rep its m [];rw[nil_append] at this;exact this
  rw[f0]
  cases its with
  |nil=>simp
  |cons a r'=>rw[if_neg 2e9]
 refine wpAny_binaryOp_repeat_ref (T:="list") (U:="int") 0e4 ⟨_,e,rfl⟩ (λs'=>typeIs_int s' k t) noFill_list_mul F.fills_int_mul F.slot_int_rmul repeat_list F.slot_int_index.lookup
  (call_meets F.slot_int_rmul (typeIs_int s k t) F.entry_int_rmul (F.args_int_rmul_2 _ _) (int___rmul___int_list k t l its.toArray n) ⟨e,rfl,⟨_,e,rfl⟩,call_meets F.slot_list_mul ⟨_,e,rfl⟩ F.entry_list_mul (F.args_list_mul_2 _ _) (AutoListH.list___mul___list_int_3 l its.toArray n k t hfit hcap HN) ⟨e,?_⟩⟩)
 rw[jD];exact⟨.ref _,_,I.MF (t':=s.toks) (r.rep k.toNat) (by rw[len_rep,Nat.mul_comm];exact hz),rfl,q _ I.fresh⟩
end
section
variable {prog:Program}{w:World}{A:Around}{E:0e3}{s:Shared}
end
section
variable {X:Cx}
end
end L2
namespace Att
open PySem PySem.W PySem.Calls PyProof.Rows
def qj{P:Params}:∀(ns:List Int) (vs:4e1),WellAll P h vs (ns.map WData.int)→IntsAre vs ns:=by
 intro ns
 induction ns with
 |nil=>
  intro vs w;rw[map_nil] at w;cases w;exact .nil
 |cons n ns ih=>
  intro vs w;rw[map_cons] at w
  cases w with
  |cons a b=>
   cases a;exact .cons _ _ (ih _ b)
def Fi{l:OpenLaw}{n:Nat}(hn:l.most=some n){P:Params}{args:List WData}(MI:l.row.toRowW.claim.pre args=true) (U1:WellAll P h vals args):
  ∃a vs ns,vals=[Value.ref a]∧args=[WData.list (ns.map WData.int)]∧h.get? a=some { cls:= .type "list",data:= .seq vs.toArray }∧IntsAre vs ns∧ns.length≤n:=by
 have hsh:WShape.hasAll [] args [.list .int]=true:=(pre_splitW MI).1;have hc:l.pre.holds [] { args:=args }=true:=(pre_splitW MI).2;obtain⟨d,r,rfl,h1,h2⟩:=hasAllW_cons hsh;obtain rfl:=hasAllW_nil h2;obtain⟨xs,rfl,h3⟩:=hasW_list h1;obtain⟨ns,rfl⟩:=items_int h3
 have hlen:ns.length≤n:=by
  unfold OpenLaw.pre at hc
  have h4:(WTm.not (.lt (.lit (.int (n:Int))) (.len (.arg 0)))).holds [] { args:=[.list (ns.map .int)] }=true:=by
   have h4:=(holds_andW hc).1;rw[hn] at h4;exact h4
  have h5:=condW_of h4 (w_not (w_lt w_lit (w_len_list (w_arg rfl))));rw[length_map] at h5;refine Nat.le_of_not_lt λq=>?_;have q':(n:Int) < ((ns.length:Nat):Int):=by omega
  first
   | (rw[decide_eq_true q'] at h5;exact absurd h5 (by decide))
   | (simp at h5;omega)
 cases U1 with
 |cons w1 w2=>
  cases w2
  cases w1 with
  |list ho xb=>exact⟨_,_,ns,rfl,rfl,ho,qj ns _ xb,hlen⟩
def Fj(l:OpenLaw)(args:List WData):l.row.toRowW.claim.post args (.bool true) args=true:=
 postW_of (r:=l.row.toRowW) (X:=(true==true))
  (show WShape.has [] (.bool true) .bool=true by first|rfl|decide|simp [WShape.has,WShape.arms,WShape.armsAll])
  (show (WTm.eq .res (.lit (.bool true))).value [] { args:=args,res:=some (.bool true),after:=args }=some (.bool (true==true)) from w_eq_bool (w_res rfl) w_lit) rfl
def zu{l:OpenLaw}{n:Nat}{XP:(Str→Option Value)→Heap→Prop}{YP:World→Heap→Prop}{d:DefRec}(hn:l.most=some n) (Wc:d.params.defaults=[])(call:∀(w:World) (s₀ s₁:Shared) (mg mb:1e3) (fa:3e5) (o:Obj) (pm cd doc:Value) (a:3e5) (vs:4e1) (ns:List Int),
   Ground q loose [] XP w s₀ mg mb s₁.heap→YP w s₁.heap→
   s₁.heap.get? fa=some o→o.data= .func (docDef d.name d.params d.body d.scope pm cd doc)→s₁.heap.CodeRec cd d.name→mg d.name=some (.ref fa)→
   s₁.heap.get? a=some { cls:= .type "list",data:= .seq vs.toArray }→IntsAre vs ns→ns.length≤n→s₁.gens=#[]→
   codeAny (model l.prog w) callerA (.call (.ref fa) ⟨[.ref a],[]⟩) (λr s'=>r= .ok (.ret (.bool true))∧OldK s₁.heap s'.heap∧s'.os=s₁.os∧AllBare s'.gens) s₁):
  WalkO q loose XP YP l.row.toRowW d [] (λf vs=>PySem.call f vs):=by
 intro w s₀ s₁ mg mb G Y fa o pm cd doc dV kV ho hd rA hD Wd hg args vals as MI hlay hrd U1 L4;obtain rfl:dV= .none:=Dflts.none hD Wc;obtain rfl:kV= .none:=Dflts.noKw hD;obtain⟨a,vs,ns,rfl,rfl,Rp,hints,hlen⟩:=Fi hn MI U1;refine enter_call (codeAny_mono (call w s₀ s₁ mg mb fa o pm cd doc a vs ns G Y ho (fd_plain hd) rA Wd Rp hints hlen hg) λr s' hq=>?_);obtain⟨rfl,h2,h3,h4⟩:=hq;exact⟨.inl ⟨.bool true, .bool true,[],rfl,λ_=>rfl, .bool true,Fj l _,λ_=>⟨List.Pairwise.nil,λ_ hm=>(nomatch hm)⟩⟩,h2,h3,h4⟩
section
variable {prog:Program}{w:World}{A:Around}{E:0e3}{s:Shared}{K:Frag}
end
end Att
namespace L2
open PySem PySem.Spec PyProof.Rows
theorem vo:∀{vs:4e1} {ns:List Int},IntsAre vs ns→Vals (ns.map V.int) vs
 |_,_, .nil=> .nil
 |_,_, .cons n t h=> .cons ⟨t,rfl⟩ (vo h)
def Rq(H:Hp):Prop:=∀b,H b=none∨∃o xs,H b=some (.dX o (.lst xs))
def HP{P:Program}{w:World}{K:0e9}{mg mb:1e3}{CX:C3}{k:Nat}{fa a:3e5}{fd:FuncData}{x:Str}{sp:Sp}{s₁:Shared}{vs:4e1}{ns:List Int}
  (KX:K.In s₁.heap) (vp:s₁.heap.Ns mainGlobals mg) (hb:s₁.heap.Ns builtinsNs mb) (hbb:∀x:Str,x≠"__name__" →mb x=bootBuiltins x) (hlim:s₁.heap.NoLimit) (hg:s₁.gens=#[])
  (ha:s₁.heap.get? a=some { cls:= .type "list",data:= .seq vs.toArray }) (hi:IntsAre vs ns) (hl:ns.length≤sizeLine) (hr:cG k callerA)
  (F:∀base:Heap,K.In base→base.Ns mainGlobals mg→fD P w K mg base CX k fa fd [x] sp) (We:∀(s:Shared) (u:Value),BindsTo s fd ⟨[u],[]⟩ [(x,u)])
  (C4:∀H:Hp,Rq H→bM K H a (ns.map V.int)→sp [.ref a] H (λv _=>v= .bl true) λ_ _ _=>False)
  (hCX:∀H e s',CX [] H s₁ (λ_ _ _=>False) e s'→False):
  codeAny (model P w) callerA (.call (.ref fa) ⟨[.ref a],[]⟩) (λr s'=>r= .ok (.ret (.bool true))∧OldK s₁.heap s'.heap∧s'.os=s₁.os∧AllBare s'.gens) s₁:=by
 have rv:=vo hi;have lenV:=hi.length;have core:∀H:Hp,Rq H→bM K H a (ns.map V.int)→kj P w H s₁.heap→(∀b,H b≠none→b=a)→(H a≠none→K.lookup a=none)→
   codeAny (model P w) callerA (.call (.ref fa) ⟨[.ref a],[]⟩) (λr s'=>r= .ok (.ret (.bool true))∧OldK s₁.heap s'.heap∧s'.os=s₁.os∧AllBare s'.gens) s₁:=by
  intro H hO hS aM hA hK;have base_of:∀{b:3e5} {o:Obj},s₁.heap.get? b=some o→H b=none→(wQ s₁.heap H).get? b=some o:=λe n=>Hs e n
  have V1:∀{b:3e5} {o:Obj} {es:Array DictEntry} {ep:Nat},s₁.heap.get? b=some o→o.data= .dict es ep→H b=none:=fun {b o es ep} e d=>by
   cases q:H b with
   |none=>rfl
   |some u=>
    have e':b=a:=hA b (by rw[q];simp);subst e';rw[ha] at e;cases e;have d':Data.seq vs.toArray _=Data.dict es ep:=d;cases d'
  have nsK:∀{b:3e5} {m:1e3},s₁.heap.Ns b m→(wQ s₁.heap H).Ns b m:=fun {b m} ⟨o,es,ep,e,d,r⟩=>⟨o,es,ep,base_of e (V1 e d),d,r⟩
  have hKb:K.In (wQ s₁.heap H):=λb o e=>base_of (KX b o e) (by
   cases q:H b with
   |none=>rfl
   |some u=>
    have e':b=a:=hA b (by rw[q];simp);subst e'
    rw[hK (by rw[q];simp)] at e;cases e)
  have hM:Mod K mg (wQ s₁.heap H):=⟨hKb,nsK vp,⟨mb,nsK hb,hbb⟩,let ⟨mc,h1,h2⟩:=hlim;⟨mc,nsK h1,h2⟩⟩;have e0:Br P w K mg (wQ s₁.heap H) callerA [] s₁ H:=⟨rfl,hM,λb o e=>Mi e,le_of_eq (E4 _ _),trivial,λb hb=>absurd (show b∈([]:List Addr) from hb) 2e9,aM, .of_eq hg⟩;refine codeAny_mono ((F _ hKb (nsK vp)).run callerA [] s₁ H ⟨[.ref a],[]⟩ [.ref a] [.ref a] _ _ hr e0 (We s₁ (.ref a)) (.cons rfl .nil) (C4 H hO hS)) λr s' h=>?_
  cases r with
  |error e=>exact(hCX H e s' h).elim
  |ok fl=>
   cases fl with
   |next=>exact False.elim h
   |brk=>exact False.elim h
   |cont=>exact False.elim h
   |ret u=>
    obtain⟨v,H',os,bare,un,hok',r',q⟩:=h;have q':v= .bl true:=q;subst q';obtain rfl:u=Value.bool true:=r';refine⟨rfl,OldK.of_keep λb o e=>?_,os,bare⟩
    cases q:H b with
    |none=>exact un.keep b o e q (by intro z;exact absurd (show b∈([]:List Addr) from z) 2e9) 2e9
    |some u=>
     rcases hO b with z| ⟨ob,xs,z⟩
     ·rw[q] at z;cases z
     ·have z2:=un.oP b ob _ z;obtain⟨e1,_⟩:=aM b _ z;obtain⟨e2,_⟩:=hok' b _ z2;rw[e] at e1;cases e1;exact e2
 cases hk:K.lookup a with
 |some o=>
  have e:=KX a o hk;rw[ha] at e;cases e;refine core (λ_=>none) (λ_=> .inl rfl) (.inr ⟨_,vs.toArray,_,hk,rfl,rfl,rfl,by rw[size_toArray,lenV];exact hl,by simpa using rv⟩) (λb u z=>by have z':(none:Option HO)=some u:=z;cases z') (λb z=>absurd rfl z) λz=>absurd rfl z
 |none=>
  refine core (λb=>if b=a then some (.dX { cls:= .type "list",data:= .seq vs.toArray } (.lst (ns.map V.int))) else none) (λb=>?_) (.inl (.inr ⟨{ cls:= .type "list",data:= .seq vs.toArray },if_pos rfl⟩)) (λb u z=>?_) (λb z=>?_) λ_=>hk
  ·by_cases hb:b=a
   ·exact .inr ⟨_,_,if_pos hb⟩
   ·exact .inl (if_neg hb)
  ·by_cases hb:b=a
   ·have z':=(if_pos hb).symm.trans z;cases z';subst hb;exact⟨ha,by rw[length_map];exact hl,vs,_,rv,ha⟩
   ·have z':=(if_neg hb).symm.trans z;cases z'
  ·by_cases hb:b=a
   ·exact hb
   ·exact absurd (if_neg hb) z
end L2
namespace L2
open PySem PySem.Spec PyProof.Rows
def MJ{l:PySem.W.OpenLaw}{n k:Nat}{XP:(Str→Option Value)→Heap→Prop}{YP:World→Heap→Prop}{d:DefRec}{K:Params→PySem.W.Frag}{CX:World→C3}{sp:World→Sp}(hn:l.most=some n) (Pu:n≤sizeLine) (Wc:d.params.defaults=[]) (hr:cG k callerA)(hY:∀(w:World) (h:Heap),YP w h→(K w.params).In h)(F:∀(w:World) (mg:1e3) (fa:3e5) (h:Heap),(K w.params).In h→h.Ns mainGlobals mg→mg d.name=some (.ref fa)→
   ∃fd:FuncData,(∀(s:Shared) (u:Value),BindsTo s fd ⟨[u],[]⟩ [(x,u)])∧
    ∀base:Heap,(K w.params).In base→base.Ns mainGlobals mg→fD l.prog w (K w.params) mg base (CX w) k fa fd [x] (sp w))(C4:∀(w:World) (H:Hp) (a:3e5) (ns:List Int),ns.length≤n→Rq H→bM (K w.params) H a (ns.map V.int)→sp w [.ref a] H (λv _=>v= .bl true) λ_ _ _=>False)(hCX:∀(w:World) (H:Hp) (s:Shared) (e:Value) (s':Shared),CX w [] H s (λ_ _ _=>False) e s'→False):
  PySem.W.WalkO q loose XP YP l.row.toRowW d [] (λf vs=>PySem.call f vs):=by
 refine Att.zu hn Wc λw s₀ s₁ mg mb fa o pm cd doc a vs ns G Y ho hd rA Wd Rp hints hlen hg=>?_;have KX:=hY w _ Y;obtain⟨fd,hb,hF⟩:=F w mg fa _ KX G.T.g Wd;exact HP KX G.T.g G.T.b G.T.builtins G.T.nolimit hg Rp hints (le_trans hlen Pu) hr hF hb (λH hO hS=>C4 w H a ns hlen hO hS) λH e s'=>hCX w H s₁ e s'
end L2
namespace L2
open PySem PySem.Spec PyProof.Rows
noncomputable def inClass(s:Stmt)(j:Nat):Stmt:=match s with
 | .ClassDef _ _ _ body _ _ _ _ _ _ _=>body.getD j (.Pass ⟨0,0,0,0⟩)
 |_=> .Pass ⟨0,0,0,0⟩
noncomputable def bD(s:Stmt):Arguments:=match s with
 | .FunctionDef _ a _ _ _ _ _ _ _ _=>a
 |_=>{ posonlyargs:=[],args:=[],vararg:=none,kwonlyargs:=[],kw_defaults:=[],kwarg:=none,defaults:=[] }
def aR(s:Stmt):List Stmt:=match s with
 | .FunctionDef _ _ b _ _ _ _ _ _ _=>b
 |_=>[]
noncomputable def aj(s:Stmt):Scope:=match s with
 | .FunctionDef _ _ _ _ _ _ sc _ _ _=>sc
 |_=>{ kind:= .function,names:=[],isGenerator:=false,isCoroutine:=false }
abbrev rO:C3:=λ_ _ _ _ _ _=>False
abbrev E0:XK:=λ_ _ _=>False
def a8:Passes rO X E0:=λ_ _ _ _ _ _ _ h=>h.elim
structure Hf(K:0e9)(x qual:Str)(st:Stmt)(f:3e5)(fd:FuncData):Prop where
 ex:∃(oc:Value) (od:Option Addr) (kV doc pm:Value) (an:Option Addr) (aY ct:Value) (um:Array (Option Value)),
  fd=fnOf x qual (bD st) (aR st) (aj st) .none kV doc pm an aY ct∧K.lookup f=some ⟨oc,od, .func fd,um⟩∧PySem.W.codeIn K aY qual=true
 kp:keepIn K (.ref f)=true
section
variable {P:Program}{w:World}{K:0e9}{mg:1e3}{base:Heap}
def Hf.ok{x qual:Str}{st:Stmt}{f:3e5}{fd:FuncData}{N ps:3e8}{k:Nat}{sp:Sp}(F:Hf K x qual st f fd)(S:av N ps (aj st))(len:3e1)
  (dn:∀(aY:Value) (A:Around) (outer:List Env) (s:Shared) (H:Hp) (vs:4e5) (Q:VK) (E:XK),cG k (A.deeper (envOfC qual (aj st) s.heap.objs.size f aY))→sp vs H Q E→
   ∃t,mn (jy rO P w K mg base N qual (aj st) f aY A outer s H E).Hv (aR st) t∧t { nx:=λ_ H'=>Q .cw H',rt:=Q } (start N vs) H):fD P w K mg base rO (k+1) f fd ps sp:=by
 obtain⟨oc,od,kV,doc,pm,an,aY,ct,um,rfl,lk,rA⟩:=F.ex;refine fn_of lk rA S len λA outer s H vs Q E hr C4=>?_;obtain⟨t,h,q⟩:=dn aY A outer s H vs Q E hr C4;exact⟨t,h.Hv,q⟩
def Hf.binds{x qual:Str}{st:Stmt}{f:3e5}{fd:FuncData}{ps:3e8}(F:Hf K x qual st f fd)
  (h:∀(kV doc pm:Value) (an:Option Addr) (aY ct:Value) (us:4e1),us.length=ps.length→bindArgs (fnOf x qual (bD st) (aR st) (aj st) .none kV doc pm an aY ct) ⟨us,[]⟩=pure (ps.zip us)):Binds K fd ps []:=by
 obtain⟨oc,od,kV,doc,pm,an,aY,ct,um,rfl,lk,rA⟩:=F.ex;exact .all (h kV doc pm an aY ct)
def Rr{x qual:Str}{st:Stmt}{f:3e5}{oc:Value}{od an:Option Addr}{um:Array (Option Value)}{kV doc pm aY ct:Value}(l:K.lookup f=some ⟨oc,od, .func (fnOf x qual (bD st) (aR st) (aj st) .none kV doc pm an aY ct),um⟩)
  (c:PySem.W.codeIn K aY qual=true) (k:keepIn K (.ref f)=true):Hf K x qual st f (fnOf x qual (bD st) (aR st) (aj st) .none kV doc pm an aY ct):=⟨⟨oc,od,kV,doc,pm,an,aY,ct,um,rfl,l,c⟩,k⟩
end
def cM{k:Nat}(hr:cG k A):A.units+1<cLine:=lt_of_le_of_lt (Nat.add_le_add_left (by decide:1≤64) _) hr.units
def lB{n:Nat}(h:n≤1000):n<sizeLine:=lt_of_le_of_lt h 0e4
section
variable {X:Cx}
def pv(i:Nat)(hN:X.N[i]? =some x:=by rfl)(hv:Vis X.env.scope x:=by first|exact Or.inl rfl|exact Or.inr (Or.inl rfl) |exact Or.inr (Or.inr rfl))(hd:4e2:=by decide)(rA:(x==("__classdict__" :Str))=false:=by decide):PE X (.Name x pos) (kr i):=QZ hN hv hd rA
end
def d7{A B:Prop}(h:B):if false=true then A else B:=by
 rw[if_neg Bool.false_ne_true];exact h
def gK{A B:Prop}(h:A):if true=true then A else B:=by
 rw[if_pos rfl];exact h
def eF{c A B:Prop}[Decidable c](h1:c→A)(h2:¬c→B):if c then A else B:=by
 by_cases h:c
 ·rw[if_pos h];exact h1 h
 ·rw[if_neg h];exact h2 h
def C6{c A B:Prop}[Decidable c](hc:c)(h:B):if (!decide c)=true then A else B:=by
 rw[decide_eq_true hc];exact d7 h
def au(H H':Hp):Prop:=∀b o,H b=some o→H' b=some o
def au.refl(H:Hp):au H H:=λ_ _ h=>h
def au.trans(a:au H H1)(b:au H1 H2):au H H2:=λc o h=>b c o (a c o h)
def au.seq{K:0e9}{H H':Hp}{a:3e5}{xs:4e5}(e:au H H')(h:bM K H a xs):bM K H' a xs:=by
 rcases h with (h| ⟨o,h⟩) |h
 ·exact .inl (.inl (e _ _ h))
 ·exact .inl (.inr ⟨o,e _ _ h⟩)
 ·exact .inr h
section
variable {κ:Type}[DecidableEq κ]
def kz{kvs:List (κ×V)}{k:κ}(h:bK kvs k=none):¬k∈kvs.map 1e8:=by
 intro m;obtain⟨p,hp,e⟩:=mem_map.mp m;have q:(kvs.any λkv=>decide (kv.1=k))=true:=any_eq_true.mpr ⟨p,hp,decide_eq_true e⟩;rw[fE,h] at q;exact absurd q 2e9
def qA{kvs:List (κ×V)}{k:κ}(h:bK kvs k=some v):k∈kvs.map 1e8:=by
 have q:(kvs.any λkv=>decide (kv.1=k))=true:=by
  rw[fE,h]
  all_goals rfl
 obtain⟨p,hp,e⟩:=any_eq_true.mp q;exact mem_map.mpr ⟨p,hp,of_decide_eq_true e⟩
theorem C7:∀{l:List κ} {k:κ},l.Nodup→¬k∈l→(l++[k]).Nodup
 | [],k,_,_=>by simp
 |a::r,k,h,hk=>by
  obtain⟨h1,h2⟩:=nodup_cons.mp h;show (a::(r++[k])).Nodup;refine nodup_cons.mpr ⟨λm=>?_,C7 h2 λm=>hk (mem_cons.mpr (Or.inr m))⟩;rcases mem_append.mp m with q|q
  ·exact h1 q
  ·exact hk (mem_cons.mpr (Or.inl (mem_singleton.mp q).symm))
def MK{kvs:List (κ×V)}{k:κ}(v:V)(hn:(kvs.map 1e8).Nodup)(h:bK kvs k=none):((putK kvs k v).map 1e8).Nodup:=by
 rw[mT v h,map_append];exact C7 hn (kz h)
end
end L2
namespace L2
open PySem PySem.Spec PyProof.Rows
section
variable {X:Cx}{pins:1e4}{σ:St}{H:Hp}{s:Shared}{a:3e5}{u u':HO}
def Inv.Pz(I:1e1)(e:H a=some u)(nw:cf X.prog X.w (upd H a u') s.heap a u')
  (h1:∀xs,X.H₀ a≠some (.tup xs)) (h2:∀o z,X.H₀ a≠some (.dX o z)) (h3:∀ps,X.H₀ a≠some (.Pl ps))
  (n1:∀x,u≠ .own x) (n2:∀xs,u≠ .tup xs):Inv X pins σ (upd H a u') s:=by
 have na:∀b,H b=none→(upd H a u') b=none:=λb q=>by
  rw[ah (λz=>by rw[z,e] at q;cases q)];exact q
 have B:=I.base
 refine⟨I.ok,I.os,I.bare,⟨B.keep,B.slot,λb o q n x=>na b (B.free b o q n x),B.there,λb xs q=>?_,λb o z q=>?_,λb ps q=>?_⟩,
  I.loc,I.cell,na _ I.free,λx c q=>na _ (I.gF x c q),λp hp=>?_,λb o q=>?_,I.len⟩
 ·rw[ah (show b≠a from λz=>h1 xs (by rw[←z];exact q))];exact B.oO b xs q
 ·rw[ah (show b≠a from λz'=>h2 o z (by rw[←z'];exact q))];exact B.oP b o z q
 ·rw[ah (show b≠a from λz'=>h3 ps (by rw[←z'];exact q))];exact B.oQ b ps q
 ·obtain⟨p1,p2,p3⟩:=I.pin p hp;exact⟨p1,na _ p2,p3⟩
 ·by_cases hb:b=a
  ·subst hb;rw[aa] at q;cases q;exact nw
  ·rw[ah hb] at q;refine(I.aM b o q).rp (λ_ _ _ z=>z) (λc z=>?_) λc xs z=>?_
   ·rw[ah (λz'=>by rw[z',e] at z;exact n1 b (Option.some.inj z))];exact z
   ·rw[ah (λz'=>by rw[z',e] at z;exact n2 xs (Option.some.inj z))];exact z
def NF(X:Cx)(a:3e5):Prop:=∀o z,X.H₀ a≠some (.dX o z)
def Inv.nf(I:1e1)(e:H a=some 3e0):NF X a:=λo z q=>by
 have:=I.base.oP a o z q;rw[e] at this;cases this
def Inv.freeze(I:1e1)(e:H a=some 3e0):∃o,s.heap.get? a=some o∧Inv X pins σ (upd H a (.dX o 3e0)) s:=by
 have ok:=I.aM a _ e;obtain⟨z,hd,vs,rel,dd⟩:=rL I.aM e;obtain⟨o,es,ep,ho,r⟩:=id dd;refine⟨o,ho,I.Pz e ⟨ho,z,hd,vs,rel,dd⟩ (λxs q=>?_) (I.nf e) (λps q=>?_) (λx q=>by cases q) λxs q=>by cases q⟩
 ·have:=I.base.oO a xs q;rw[e] at this;cases this
 ·obtain⟨m,q'⟩:=I.base.oQ a ps q;rw[e] at q';cases q'
def Inv.HQ(I:1e1)(e:H a=some (.dX o 3e0))(nf:NF X a):Inv X pins σ (upd H a 3e0) s:=by
 obtain⟨ho,z,hd,vs,rel,dd⟩:=(show cf X.prog X.w H s.heap a (.dX o 3e0) from I.aM a _ e);refine I.Pz e (show cf X.prog X.w _ s.heap a 3e0 from ⟨z,hd,vs,rel,dd⟩) (λxs q=>?_) nf (λps q=>?_) (λx q=>by cases q) λxs q=>by cases q
 ·have:=I.base.oO a xs q;rw[e] at this;cases this
 ·obtain⟨m,q'⟩:=I.base.oQ a ps q;rw[e] at q';cases q'
def eG(e:H a=some o):upd H a o=H:=by
 funext b;by_cases hb:b=a
 ·subst hb;rw[aa,e]
 ·rw[ah hb]
end
def PB(a:3e5)(o:Obj)(kvs:0e2):It:=
 ⟨λi H=>H a=some (.dX o 3e0)∧i<kvs.length,λi H x H'=>H'=H∧∃k v,kvs[i]? =some (k,v)∧x=kV k,λi H=>H a=some (.dX o 3e0)∧kvs.length≤i⟩
theorem KV.get{κ:Type}:∀{kvs:List (κ×V)} {vs:List (κ×Value)} {i:Nat} {k:κ} {v:V},KV kvs vs→kvs[i]? =some (k,v)→∃u,vs[i]? =some (k,u)∧RelV v u
 |_,_,_,_,_, .nil,h=>by simp at h
 |_,_,0,k,v, .cons (a:=p) (b:=q) r _,h=>by
  have hp:p=(k,v):=by simpa using h
  subst hp;have e:k=q.1:=r.1;exact⟨q.2,by rw[List.getElem?_cons_zero,e],r.2⟩
 |_,_,i+1,_,_, .cons _ t,h=>by
  simp only [List.getElem?_cons_succ] at h ⊢;exact KV.get (kvs:=_) t h
def xh(h:(bz P w).is k u=true):RelV (kV k) u:=by
 rw[ro] at h;rcases b9 h with ⟨i,t,rfl,rfl⟩ | ⟨x,t,rfl,rfl⟩
 ·exact⟨t,rfl⟩
 ·exact⟨t,rfl⟩
def xi{es:Array DictEntry}{ep:Nat}(ok:kj P w H h)(e:H a=some (.dX o 3e0))(hd:o.data= .dict es ep):
  ∃vs,KV kvs vs∧h.DictAt (bz P w) a vs ep∧(a==sysModules)=false:=by
 obtain⟨ho,z,hs,vs,rel,dd⟩:=(show cf P w H h a (.dX o 3e0) from ok a _ e);obtain⟨o',UU,UW,yR,ex,iL,r⟩:=dd;rw[ho] at yR;cases yR;rw[hd] at iL;cases iL;exact⟨vs,rel,⟨o,es,ho,ex,hd,r⟩,hs⟩
def Fl{P:Program}{w:World}{K:0e9}{tg:Expr}(a it:3e5)(o:Obj)(kvs:0e2){es:Array DictEntry}{ep:Nat}(hd:o.data= .dict es ep):
  Turn P w K tg (PB a o kvs) [it] it (λi h=>h.IsKeyIter it a i kvs.length ep) where
 mem:=by simp
 obj:=λi h st b hb=>by
  have e:b=it:=by simpa using hb
  subst e;obtain⟨o,e,c,d⟩:=st;exact⟨o,e,λv z=>by rw[d] at z;cases z⟩
 keep:=λi h h' st k=>let ⟨o,ho,r⟩:=st;⟨o,k it 2e9 o ho,r⟩
 item:=by
  intro X hP hw hK hc i pins s σ H E I hf st hg;subst hP hw hK;obtain⟨hz,hi⟩:=hg;obtain⟨vs,rel,dd,hs⟩:=xi I.aM hz hd;obtain⟨k,v,xj⟩:∃k v,kvs[i]? =some (k,v):=⟨kvs[i].1,kvs[i].2,by simp [hi]⟩;obtain⟨u,hu,ru⟩:=rel.get xj;obtain⟨f0,f1,f2,f3,f4,f5⟩:=hf it 2e9;rw[rel.length] at st;refine wpAny_pyNext_dict_item st dd hu λkey h' hk A8 sb=>?_;rw[←rel.length] at A8;have I1:Inv X pins σ H { s with heap:=h' }:=I.turned (t':=s.toks) (λb o hb e=>(sb.2 b hb).trans e) f0 f1 f3 f4 f5;obtain⟨oi,e,c,d⟩:=id A8;exact⟨key,rfl,CY (s:={ s with heap:=h' }) e c d 0e4 ⟨kV k,H,I1,xh hk,⟨rfl,k,v,xj,rfl⟩,A8,λb hb=>(hf b hb).1⟩⟩
 done:=by
  intro X hP hw hK hc i pins s σ H E I hf st hg;subst hP hw hK;obtain⟨hz,hi⟩:=hg;obtain⟨vs,rel,dd,hs⟩:=xi I.aM hz hd;obtain⟨f0,f1,f2,f3,f4,f5⟩:=hf it 2e9;rw[rel.length] at st hi;exact wpAny_pyNext_dict_end (I.ok.hd hc) st dd (List.getElem?_eq_none hi) λh' eb=>⟨rfl,I.turned (t':=s.toks) (λb o hb e=>eb b o hb e) f0 f1 f3 f4 f5⟩
 self:=λ_ _ _ _ _ st h=>wpAny_pyIter_keyiter st h
section
variable {X:Cx}{tg:Expr}
def HR(X:Cx)(td:TE):TI:=fun σ H R=>td σ H λx H1=>∃a kvs,x= .ref a∧H1 a=some 3e0∧∀o,NF X a→R (PB a o kvs) (upd H1 a (.dX o 3e0))
def cJ(hl:PE X l tl):PI X tg l (HR X tl):=by
 intro pins s σ H R I h;refine bR (hl pins s σ H _ I h) λv s1 ⟨x,H1,I1,r1,q1⟩=>?_;obtain⟨a,kvs,e,hk,q⟩:=q1;subst e;cases r1;obtain⟨o,ho,I2⟩:=I1.freeze hk;obtain⟨z,hs,vs,rel,dd⟩:=rL I1.aM hk;obtain⟨ep,da⟩:=dd.dictAt;obtain⟨o',es,yR,ex,hd,_⟩:=id da;rw[ho] at yR;cases yR;refine wpAny_pyIter_dict hs da ?_;refine⟨s1.heap.objs.size,[s1.heap.objs.size],_,_,_,rfl,I2.kept (t':=s1.toks) λb o e=>Heap.get?_push_of_some _ e,Fl a _ o kvs hd,?_,λb hb=>?_,q o (I1.nf hk)⟩
 ·rw[rel.length];exact⟨_,Heap.get?_push_size _ rfl,rfl,rfl⟩
 ·have e:b=s1.heap.objs.size:=by simpa using hb
  subst e;exact I2.wZ (le_refl _) (I2.aM.fresh (le_refl _))
def Th(X:Cx)(Q:Hp→Prop)(H:Hp):Prop:=∃a o kvs,H a=some (.dX o 3e0)∧NF X a∧Q (upd H a 3e0)
def HS(X:Cx)(t:TS):TS:=λD σ H=>t { nx:=fun σ'=>Th X (D.nx σ'),rt:=λv=>Th X (D.rt v),bk:=fun σ'=>Th X (D.bk σ'),ct:=fun σ'=>Th X (D.ct σ') } σ H
def cY{st:Stmt}{t:TS}(h:PS X st t):PS X st (HS X t):=by
 intro pins s σ H D I q;refine bR (h pins s σ H _ I q) λf s' z=>?_
 cases f with
 |next=>obtain⟨σ',H',J,a,o,kvs,e,nf,q⟩:=z;exact⟨σ',_,J.HQ e nf,q⟩
 |brk=>obtain⟨σ',H',J,a,o,kvs,e,nf,q⟩:=z;exact⟨σ',_,J.HQ e nf,q⟩
 |cont=>obtain⟨σ',H',J,a,o,kvs,e,nf,q⟩:=z;exact⟨σ',_,J.HQ e nf,q⟩
 |ret u=>obtain⟨v,σ',H',J,r,a,o,kvs,e,nf,q⟩:=z;exact⟨v,σ',_,J.HQ e nf,r,q⟩
def qB(h:PE X e t):PE X e (fun σ H Q=>t σ H λv=>Th X (Q v)):=by
 intro pins s σ H Q I q;refine bR (h pins s σ H _ I q) λu s' z=>?_;obtain⟨v,H',J,r,a,o,kvs,e,nf,q⟩:=z;exact⟨v,_,J.HQ e nf,r,q⟩
end
def cQ{X:Cx}{a:3e5}{o:Obj}{kvs:0e2}{g:TG}{tb:TS}{D:Ends}{σ:St}{H:Hp}(nf:NF X a)(Pv:Nat→St→Hp→Prop)(h0:Pv 0 σ H)(hl:∀i σ H,Pv i σ H→H a=some 3e0)
  (hs:∀i k v σ H,kvs[i]? =some (k,v)→Pv i σ H→g (kV k) σ (upd H a (.dX o 3e0)) fun σ2 H2=>tb { nx:=fun σ' H'=>H' a=some (.dX o 3e0)∧Pv (i+1) σ' (upd H' a 3e0),ct:=fun σ' H'=>H' a=some (.dX o 3e0)∧Pv (i+1) σ' (upd H' a 3e0),bk:=fun σ'=>Th X (D.nx σ'),rt:=λv=>Th X (D.rt v) } σ2 H2)
  (hd:∀σ H,Pv kvs.length σ H→D.nx σ H):
  ∃W:Nat→Nat→St→Hp→Prop,(∃m,W 0 m σ (upd H a (.dX o 3e0)))∧∀i m σ H,W i m σ H→((PB a o kvs).stop i H∧Th X (D.nx σ) H)∨
   ((PB a o kvs).go i H∧∃N:St→Hp→Prop,(∀σ' H',N σ' H'→∃m',m'<m∧W (i+1) m' σ' H')∧∀x H',(PB a o kvs).oW i H x H'→g x σ H' fun σ2 H2=>tb { nx:=N,ct:=N,bk:=fun σ'=>Th X (D.nx σ'),rt:=λv=>Th X (D.rt v) } σ2 H2):=by
 refine⟨λi m σ H=>m+i=kvs.length∧H a=some (.dX o 3e0)∧Pv i σ (upd H a 3e0),⟨kvs.length,by omega,aa,?_⟩,?_⟩
 ·rw[jt,eG (hl _ _ _ h0)];exact h0
 ·rintro i m σ H ⟨hm,hz,hp⟩;by_cases hi:i<kvs.length
  ·refine .inr ⟨⟨hz,hi⟩,fun σ' H'=>H' a=some (.dX o 3e0)∧Pv (i+1) σ' (upd H' a 3e0),fun σ' H' q=>⟨m - 1,by omega,by omega,q⟩,?_⟩;rintro x H' ⟨rfl,k,v,xj,rfl⟩;have:=hs i k v σ _ xj hp;rw[jt,eG hz] at this;exact this
  ·have e:i=kvs.length:=by omega
   subst e;exact .inl ⟨⟨hz,le_refl _⟩,a,o,kvs,hz,nf,hd _ _ hp⟩
noncomputable def ML:V→Option Value
 | .ty n=>some (.type n)
 | .ref a=>some (.ref a)
 |_=>none
def kA:fB X (.builtin "isinstance") (λxs H Q=>∃x c cv t b,xs=[x,c]∧ML c=some cv∧o7 X.K H x t∧kitOne X.K t cv=some b∧Q (.bl b) H):=by
 intro pins s σ H xs us Q I r h;obtain⟨x,c,cv,t,b,rfl,hc,ty,e,q⟩:=h;obtain⟨u,v,rfl,ru,rv⟩:=vals2 r
 have hv:v=cv:=by
  cases c<;>simp only [ML,Option.some.injEq,reduceCtorEq] at hc
  ·cases (show v=Value.ref _ from rv);exact hc
  ·cases (show v=Value.type _ from rv);exact hc
 subst hv;exact E9 I ru ty e λtk=>⟨.bl b,H,I.tok tk,rfl,q⟩
def ig:fB X (.type "dict") (λxs H Q=>∃a kvs,xs=[.ref a]∧Rd H a 3e0∧∀p,H p=none→Q (.ref p) (upd H p 3e0)):=by
 intro pins s σ H xs us Q I r h;obtain⟨a,kvs,rfl,hk,q⟩:=h;obtain⟨u,rfl,ru⟩:=vals1 r;cases ru;exact HK I hk λp s' hp I'=>⟨.ref p,_,I',rfl,q p hp⟩
def Bx:fB X (.builtin "len") (λxs H Q=>∃a kvs,xs=[.ref a]∧Rd H a 3e0∧Q (.int kvs.length) H):=by
 intro pins s σ H xs us Q I r h;obtain⟨a,kvs,rfl,hk,q⟩:=h;obtain⟨u,rfl,ru⟩:=vals1 r;cases ru;exact V4 I hk λt s' I'=>⟨.int kvs.length,H,I',⟨t,rfl⟩,q⟩
def Inv.HU(I:1e1)(e:Rd H a 3e0):(kvs.map 1e8).Nodup:=by
 obtain⟨z,hd,vs,rel,dd⟩:=iN I.aM e;obtain⟨_,da⟩:=dd.dictAt;rw[rel.keys];exact da.nodup
noncomputable def By(kb:0e2)(p:Key×V):Bool:=match bK kb p.1 with
 |none=>false
 |some y=>V' p.2 y
noncomputable def eqD(ka kb:0e2):Bool:=ka.length==kb.length&&ka.all (By kb)
def p7(ka:0e2):Prop:=∀p∈ka,vn p.2=true
def Fn(hb:p7 kb)(h:bK kb k=some y):vn y=true:=by
 unfold bK at h
 cases e:kb.find? λkv=>decide (kv.1=k) with
 |none=>rw[e] at h;cases h
 |some p=>
  rw[e] at h;cases h;exact hb p (List.mem_of_find?_eq_some e)
theorem C8{vb:List (Key×Value)}(rb:KV kb vb)(fb:p7 kb):∀{ka:0e2} {va:List (Key×Value)},KV ka va→p7 ka→PySem.W.KeqHits A s vb va (ka.all (By kb))
 |_,_, .nil,_=> .nil
 | (k,x)::r,(k',u)::r', .cons hp t,fa=>by
   obtain⟨e1,ru⟩:=hp;have e1:k=k':=e1;subst e1;have ih:=C8 (A:=A) (s:=s) rb fb t λp hp=>fa p (mem_cons_of_mem _ hp);have hv:=rb.val k;rw[all_cons]
   cases e:bK kb k with
   |none=>
    rw[e] at hv;have:By kb (k,x)=false:=by simp only [By,e]
    rw[this,Bool.false_and];exact .miss (hX.none_of hv)
   |some y=>
    rw[e] at hv;obtain⟨uy,ey,ry⟩:=hX.some_of hv;have:By kb (k,x)=V' x y:=by simp only [By,e]
    rw[this];exact .hit ey (Rk ru ry (fa (k,x) 1e6) (Fn fb e)) ih
section
variable {X:Cx}
def rEqD(neg:Bool):R2:=λx y H Q=>∃a b ka kb,x= .ref a∧y= .ref b∧Rd H a (.dK ka)∧Rd H b (.dK kb)∧p7 ka∧p7 kb∧((ka.map 1e8).Nodup→(kb.map 1e8).Nodup→Q (.bl (neg^^eqD ka kb)) H)
def HV(hu:X.A.units<cLine):oY X (compareOp .Eq) (rEqD false):=by
 intro pins s σ H x y v u Q I rx ry h;obtain⟨a,b,ka,kb,rfl,rfl,ha,hb,fa,fb,q⟩:=h;cases rx;cases ry;obtain⟨za,da,va,ra,dda⟩:=iN I.aM ha;obtain⟨zb,db,vb,rb,ddb⟩:=iN I.aM hb;refine PySem.W.keq_eq da db dda ddb hu (λ_=>C8 rb fb ra fa) ⟨.bl (eqD ka kb),H,I,?_,?_⟩
 ·show Value.bool _=Value.bool _;rw[←ra.length,←rb.length];rfl
 ·have q:=q (I.HU ha) (I.HU hb);simpa using q
end
def HW(h:vn x=true):V' x x=true:=by
 cases x<;>simp_all [V',vn]
theorem fH:∀{kvs:0e2} {p:Key×V},(kvs.map 1e8).Nodup→p∈kvs→bK kvs p.1=some p.2
 |q::r,p,nd,hp=>by
  rw[map_cons,nodup_cons] at nd;rcases mem_cons.mp hp with rfl|hr
  ·exact cz rfl
  ·rw[cA (λe=>nd.1 (e▸mem_map_of_mem (f:=1e8) hr))];exact fH nd.2 hr
def rP(nd:(ka.map 1e8).Nodup)(fa:p7 ka):eqD ka ka=true:=by
 unfold eqD;rw[beq_self_eq_true,Bool.true_and,all_eq_true];intro p hp;unfold By;rw[fH nd hp];exact HW (fa p hp)
end L2
namespace L2
open PySem PySem.Spec PyProof.Rows
noncomputable def jr(X:Cx)(pins:1e4)(N:3e8)(scope:Scope)(cl:List (Str×Addr))(fp:List Addr)(s:Shared)(H:Hp):Cx where
 prog:=X.prog
 w:=X.w
 K:=X.K
 mg:=X.mg
 base:=X.base
 A:=X.A
 N:=N
 s₀:=s
 H₀:=H
 env:=compEnvC scope cl s.heap.objs.size X.env
 outer:=X.stack
 stack:=X.stack
 ex:=fp
 fn:=λ_=>false
 calm:=X.calm
 pn:=X.pn++pins
 xe:=λ_ _=>False
structure Rt(X:Cx)(N:3e8)(fr:List (Option Nat))(scope:Scope)(cl:List (Str×Addr)):Prop where
 Ru:closureFor scope X.env=pure cl
 kind:scope.kind= .function
 rQ:∀y∈scope.names,y.2≠ .cell
 names:∀y∈scope.names,y.2= .local→scope.names.lookup y.1=some .local
 cells:∀x c,cl.lookup x=some c→X.env.cells.lookup x=some c
 has:∀x,((relabel scope X.env).names.lookup x=some .cell∨(relabel scope X.env).names.lookup x=some .free)→∃c,cl.lookup x=some c
 len:fr.length=N.length
 out:∀(i j:Nat) (x:Str),N[i]? =some x→fr[i]? =some (some j)→X.N[j]? =some x∧X.env.kindOf x=some .cell∧((relabel scope X.env).names.lookup x=some .cell∨(relabel scope X.env).names.lookup x=some .free)
end L2
namespace L2
open PySem PySem.Spec PyProof.Rows
noncomputable def o9(env:Env):List (Str×NameKind)→List (Str×Addr)→List (Str×Addr)
 | [],cs=>cs
 | (n,k)::r,cs=>o9 env r (if (k== .free)=true then (n,(env.cells.lookup n).getD 0)::cs else cs)
def qk(scope:Scope)(env:Env):List (Str×Addr):=o9 env scope.names []
theorem C9:∀{names:List (Str×NameKind)} (cs:List (Str×Addr)),(∀y∈names,y.2= .free→∃c,env.cells.lookup y.1=some c)→
  (forIn names cs λ(x:Str×NameKind) cs=>match x with
   | (name,kind)=>if (kind==NameKind.free)=true then do let c←cellOf env name;pure (ForInStep.yield ((name,c)::cs)) else pure (ForInStep.yield cs):Sem (List (Str×Addr)))=pure (o9 env names cs)
 | [],cs,_=>rfl
 | (n,k)::r,cs,h=>by
   rw[List.forIn_cons];dsimp only;have ih:=λcs=>C9 (env:=env) (names:=r) cs λy hy=>h y (mem_cons_of_mem _ hy);by_cases hk:(k==NameKind.free)=true
   ·obtain⟨c,hc⟩:=h (n,k) 1e6 (by simpa using hk);rw[if_pos hk,show o9 env ((n,k)::r) cs=o9 env r ((n,c)::cs) by rw[o9,if_pos hk,hc];rfl];have e:cellOf env n=pure c:=by unfold cellOf;rw[hc]
    rw[e];exact ih _
   ·rw[if_neg hk,show o9 env ((n,k)::r) cs=o9 env r cs by rw[o9,if_neg hk]];exact ih _
def MM{scope:Scope}(h:∀y∈scope.names,y.2= .free→∃c,env.cells.lookup y.1=some c):closureFor scope env=pure (qk scope env):=by
 have t:=C9 (env:=env) [] h
 have e:closureFor scope env=((forIn scope.names ([]:List (Str×Addr)) λ(x:Str×NameKind) cs=>match x with
   | (name,kind)=>if (kind==NameKind.free)=true then do let c←cellOf env name;pure (ForInStep.yield ((name,c)::cs)) else pure (ForInStep.yield cs)) >>= λcs=>pure cs:Sem (List (Str×Addr))):=rfl
 rw[e,t];rfl
theorem rR:∀{names:List (Str×NameKind)} {cs:List (Str×Addr)},(∀y∈names,y.2= .free→∃c,env.cells.lookup y.1=some c)→(∀x c,cs.lookup x=some c→env.cells.lookup x=some c)→∀x c,(o9 env names cs).lookup x=some c→env.cells.lookup x=some c
 | [],_,_,hc,x,c,h=>hc x c h
 | (n,k)::r,cs,hn,hc,x,c,h=>by
   rw[o9] at h;refine rR (names:=r) (λy hy=>hn y (mem_cons_of_mem _ hy)) (λx c h=>?_) x c h;by_cases hk:(k==NameKind.free)=true
   ·rw[if_pos hk] at h;obtain⟨c',L0⟩:=hn (n,k) 1e6 (by simpa using hk);rw[lookup_cons] at h
    cases e:x==n with
    |true=>
     rw[e] at h;have ex:x=n:=by simpa using e
     subst ex;rw[L0] at h ⊢;exact h
    |false=>
     rw[e] at h;exact hc x c h
   ·rw[if_neg hk] at h;exact hc x c h
theorem zw:∀{names:List (Str×NameKind)} {cs:List (Str×Addr)} {x:Str},((x,NameKind.free)∈names∨∃c,cs.lookup x=some c)→∃c,(o9 env names cs).lookup x=some c
 | [],_,_,h=>h.elim (λz=>by cases z) λz=>z
 | (n,k)::r,cs,x,h=>by
   rw[o9];refine zw (names:=r) ?_;by_cases hk:(k==NameKind.free)=true
   ·rw[if_pos hk,lookup_cons]
    cases e:x==n with
    |true=>exact .inr 2e4
    |false=>
     rcases h with h|h
     ·rcases mem_cons.mp h with z|z
      ·cases z;simp at e
      ·exact .inl z
     ·exact .inr h
   ·rw[if_neg hk];rcases h with h|h
    ·rcases mem_cons.mp h with z|z
     ·cases z;exact absurd rfl hk
     ·exact .inl z
    ·exact .inr h
theorem kB{env:Env}(x:Str):∀names:List (Str×NameKind),
  (names.map λ(y:Str×NameKind)=>match y with
   | (n,k)=>if (k==NameKind.free&&env.scope.kind== .function&&env.kindOf n==some .cell)=true then (n,NameKind.cell) else (n,k)).lookup x
   =(names.lookup x).map λk=>if (k==NameKind.free&&env.scope.kind== .function&&env.kindOf x==some .cell)=true then NameKind.cell else k
 | []=>rfl
 | (n,k)::r=>by
   have ih:=kB (env:=env) x r;rw[map_cons,lookup_cons];by_cases e:(x==n)=true
   ·have ex:x=n:=by simpa using e
    subst ex;dsimp only;by_cases hc:(k==NameKind.free&&env.scope.kind== .function&&env.kindOf x==some .cell)=true
    ·rw[if_pos hc,lookup_cons,beq_self_eq_true];dsimp only [Option.map];rw[if_pos hc]
    ·rw[if_neg hc,lookup_cons,beq_self_eq_true];dsimp only [Option.map];rw[if_neg hc]
   ·have e':(x==n)=false:=by simpa using e
    dsimp only;by_cases hc:(k==NameKind.free&&env.scope.kind== .function&&env.kindOf n==some .cell)=true
    ·rw[if_pos hc,lookup_cons,e'];exact ih
    ·rw[if_neg hc,lookup_cons,e'];exact ih
structure HX(sc scope:Scope)(NX N:3e8)(fr:List (Option Nat)):Prop where
 Wf:sc.kind= .function
 kind:scope.kind= .function
 rQ:∀y∈scope.names,y.2≠ .cell
 names:∀y∈scope.names,y.2= .local→scope.names.lookup y.1=some .local
 free:∀y∈scope.names,y.2= .free→sc.names.lookup y.1=some .cell
 len:fr.length=N.length
 out:((List.range N.length).all λi=>match fr[i]? with
  |some (some j)=>(match N[i]? with
   |some x=>(NX[j]? ==some x)&&(scope.names.lookup x==some .free)
   |none=>false)
  |_=>true)=true
def pb{names:List (Str×NameKind)}{k:NameKind}(h:names.lookup x=some k):(x,k)∈names:=PySem.mem_of_lookup h
def HX.zx{fr:List (Option Nat)}(B:HX sc scope NX N fr)(e1:X.env.scope=sc)(e2:X.N=NX)(ok:X.Ok):Rt X N fr scope (qk scope X.env):=by
 subst e1 e2;have fc:∀y∈scope.names,y.2= .free→∃c,X.env.cells.lookup y.1=some c:=λy hy hf=>ok.has y.1 (.inl (B.free y hy hf));have lk:∀x,(relabel scope X.env).names.lookup x=(scope.names.lookup x).map λk=>if (k==NameKind.free&&X.env.scope.kind== .function&&X.env.kindOf x==some .cell)=true then NameKind.cell else k:=λx=>kB x scope.names
 have Rv:∀x,scope.names.lookup x=some .free→(relabel scope X.env).names.lookup x=some .cell:=λx hx=>by
  have hk:X.env.kindOf x=some .cell:=B.free (x, .free) (pb hx) rfl;rw[lk,hx,map_some,hk,B.Wf];rfl
 refine⟨MM fc,B.kind,B.rQ,B.names,λx c h=>rR fc (λx c h=>by cases h) x c h,λx h=>zw (.inl ?_),B.len,λi j x h1 h2=>?_⟩
 ·rw[lk] at h
  cases e:scope.names.lookup x with
  |none=>rw[e] at h;rcases h with h|h<;>cases h
  |some k=>
   rw[e,map_some] at h;have hm:=pb e
   cases k with
   |free=>exact hm
   |cell=>exact absurd rfl (B.rQ _ hm)
   |_=>rcases h with h|h<;>simp at h
 ·have hi:i<N.length:=(List.getElem?_eq_some_iff.mp h1).1;have:=all_eq_true.mp B.out i (List.mem_range.mpr hi);rw[h2] at this;dsimp only at this;rw[h1] at this;dsimp only at this;rw[and_eq_true] at this;have a1:X.N[j]? =some x:=by simpa using this.1
  have a2:scope.names.lookup x=some .free:=by simpa using this.2
  exact⟨a1,B.free (x, .free) (pb a2) rfl, .inl (Rv x a2)⟩
end L2
namespace L2
open PySem PySem.Spec PyProof.Rows
def startB(fr:List (Option Nat))(σ:St):St:=fr.map λo=>o.bind λj=>(σ[j]?).join
def Bz{fr:List (Option Nat)}{i:Nat}(h:(startB fr σ)[i]? =some (some v)):∃j,fr[i]? =some (some j)∧σ[j]? =some (some v):=by
 unfold startB at h;rw[getElem?_map] at h
 cases e:fr[i]? with
 |none=>rw[e] at h;cases h
 |some o=>
  rw[e] at h
  cases o with
  |none=>cases h
  |some j=>
   have h':(σ[j]?).join=some v:=Option.some.inj h
   cases q:σ[j]? with
   |none=>rw[q] at h';cases h'
   |some z=>rw[q] at h';exact⟨j,rfl,by rw[q];exact congrArg some h'⟩
section
variable {X:Cx}{pins:1e4}{σ:St}{H:Hp}{s:Shared}{N:3e8}{fr:List (Option Nat)}{scope:Scope}{cl:List (Str×Addr)}{fp:List Addr}
def BC(B:Rt X N fr scope cl)(I:1e1)(f:∀b∈fp,gA X pins H b∧b<s.heap.objs.size):(jr X pins N scope cl fp s H).Ok where
 mod:=I.mod
 kind:=B.kind
 glob:=I.ok.glob
 blt:=I.ok.blt
 above:=le_refl _
 inj:=λx y c h1 h2=>I.ok.inj x y c (B.cells x c h1) (B.cells y c h2)
 has:=λx h=>B.has x h
 Ml:=λx c h=>by cases h
 hd:=I.ok.hd
 frames:=I.ok.frames
 Po:= .inl rfl
 US:=λb hb=>⟨ne_of_lt (f b hb).2,λx c h=>(f b hb).1.2.2.2.2.1 x c (B.cells x c h)⟩
 bs:=I.bs
 E5:=le_trans I.ok.E5 I.sz
 wR:=λb o e hb=>by
  rcases (f b hb).1.2.2.2.1 with h|h
  ·exact I.ok.wR b o e h
  ·exact absurd (lt_of_lt_of_le (Heap.lt_size e) (le_trans I.ok.E5 h)) (lt_irrefl _)
 ux:=λb hb h=>by
  rcases mem_cons.mp (I.wU b h) with z|z
  ·exact(f b hb).1.2.1 z
  ·exact(f b hb).1.2.2.1 z
 lZ:=I.stack
 Ht:=I.wV
def vq{t1:Nat}(B:Rt X N fr scope cl)(I:1e1)(f:∀b∈fp,gA X pins H b∧b<s.heap.objs.size)(vp:h1.Ns s.heap.objs.size λ_=>none)(MN:∀b o,s.heap.get? b=some o→h1.get? b=some o):Inv (jr X pins N scope cl fp s H) [] (startB fr σ) H { s with heap:=h1,toks:=t1 }:=by
 obtain⟨m,hm,hl⟩:=I.loc;refine⟨BC B I f,rfl,I.bare,Un.kept MN,⟨_,vp,λi x v e1 e2 _=>?_⟩,λx c h=>?_,I.aM.fresh (le_refl _),λx c h=>I.gF x c (B.cells x c h),λp hp=>?_,I.aM.kept MN,?_⟩
 ·obtain⟨j,ej,es⟩:=Bz e2;obtain⟨o1,o2,o3⟩:=B.out i j x e1 ej;obtain⟨u,ru,L⟩:=hl j x v o1 es (.inr (.inl o2));refine⟨u,ru, .inr ⟨o3,?_⟩⟩;obtain⟨c,hc⟩:=B.has x o3;rcases L with ⟨k1,_⟩ | ⟨_,c',L0,cc⟩
  ·rw[o2] at k1;cases k1
  ·rw[B.cells x c hc] at L0;cases L0;exact⟨c,hc,cc.keeps MN⟩
 ·obtain⟨v,hv⟩:=I.cell x c (B.cells x c h);exact⟨v,hv.keeps MN⟩
 ·have ql:p∈X.pn++pins:=by rw[append_nil] at hp;exact hp
  obtain⟨p1,p2,p3,p4,p5⟩:=I.pin p ql;exact⟨MN _ _ p1,p2,ne_of_lt (Heap.lt_size p1),λz=>(mem_cons.mp (I.wU _ z)).elim p3 p4,p5⟩
 ·show (startB fr σ).length=N.length;unfold startB;rw[length_map,B.len]
end
def L5(X:Cx)(cs:List Expr)(t:TT):Prop:=
 ∀(pins:1e4) (s:Shared) (σ:St) (H:Hp) (Q:Bool→Hp→Prop),Inv X pins σ H s→t σ H Q→
  wpAny 1e0 X.A (forIn cs true λc r=>if r=true then do let ok←isTrue c X.env (eval c X.env);pure (ForInStep.yield ok) else pure (ForInStep.yield r)) (TP X pins σ Q) X.xe s
def tYes:TT:=λ_ H Q=>Q true H
def gf:L5 X [] tYes:=λpins s σ H Q I h=>by
 rw[List.forIn_nil];exact wpAny_pure ⟨H,I,h⟩
def qC{t:TT}(h:PT X c t):L5 X [c] t:=λpins s σ H Q I q=>by
 rw[List.forIn_cons,if_pos rfl];refine wpAny_bind (wpAny_bind (bR (h pins s σ H Q I q) λb s' z=>?_));refine wpAny_pure ?_;dsimp only;rw[List.forIn_nil];exact wpAny_pure z
section
variable {prog:Program}{w:World}{A:Around}{R:Result→Shared→Prop}{s:Shared}
def comp_loop(J:Nat→Shared→Prop)(turn:∀n s,J n s→wpAny 2e5 A (pyNext it) (λr s₁=>match r with
   |none=>R (.ok .next) s₁
   |some v=>wpAny 2e5 A (letOwnedTupleGo tg it v) (λ_ sg=>wpAny 2e5 A (assign tg env v) (λ_ s₂=>
     wpAny 2e5 A (forIn ifs true λc r=>if r=true then do let ok←isTrue c env (eval c env);pure (ForInStep.yield ok) else pure (ForInStep.yield r)) (λok s₃=>
      if ok=true then wpAny 2e5 A (eval elt env) (λx s₄=>wpAny 2e5 A (call (.builtin "list.append") [acc,x]) (λ_ s₅=>∃m,m<n∧J m s₅) (λ_ _=>False) s₄) (λ_ _=>False) s₃
      else∃m,m<n∧J m s₃) (λ_ _=>False) s₂) (λ_ _=>False) sg) (λ_ _=>False) s₁) (λ_ _=>False) s)(n:Nat) (h:J n s):codeAny 2e5 A (.compLoop 2e3 0 it acc env) R s:=by
 refine codeAny_loop rfl J (λn s hJ=>?_) n h;show wpAny _ A ((compTurn 2e3 0 it acc env).onRaise (λx=>do noteFrame x env;theTreesLotGoes x)) _ _ s;refine wpAny_noted ?_;rw[compTurn_list];have no:∀{P:0e3} (a:Value) (s:Shared),(λ(_:Value) (_:Shared)=>False) a s→P a s:=λ_ _ z=>False.elim z;refine wpAny_bind (wpAny_standAt (wpAny_bind (wpAny_mono (turn n s hJ) (λr s₁ h₁=>?_) no)))
 cases r with
 |none=>exact wpAny_pure h₁
 |some v=>
  refine wpAny_bind (wpAny_mono h₁ (λ_ sg hg=>?_) no);refine wpAny_bind (wpAny_mono hg (λ_ s₂ h₂=>wpAny_bind (wpAny_mono h₂ (λok s₃ h₃=>?_) no)) no)
  cases ok with
  |false=>exact wpAny_pure ⟨rfl,h₃⟩
  |true=>exact wpAny_bind (wpAny_bind (wpAny_mono h₃ (λx s₄ h₄=>wpAny_bind (wpAny_mono h₄ (λ_ s₅ h₅=>wpAny_pure (wpAny_pure ⟨rfl,h₅⟩)) no)) no))
end
def PD(wi:TI)(fr:List (Option Nat))(g:TG)(tt:TT)(te:TE):TE:=fun σ H Q=>wi σ H λJ H1=>∀D,H1 D=none→∃W:Nat→Nat→St→Hp→Prop,(∃m,W 0 m (startB fr σ) (upd H1 D (.lst [])))∧∀i m σ H,W i m σ H→
 (J.stop i H∧Q (.ref D) H)∨(J.go i H∧∀x H2,J.oW i H x H2→g x σ H2 fun σ3 H3=>tt σ3 H3 λb H4=>if b=true
   then te σ3 H4 λy H5=>∃ys,H5 D=some (.lst ys)∧ys.length<sizeLine∧∃m',m'<m∧W (i+1) m' σ3 (upd H5 D (.lst (ys++[y])))
   else∃m',m'<m∧W (i+1) m' σ3 H4)
section
variable {X:Cx}{elt tg iter:Expr}{ifs:List Expr}{scope:Scope}{pos:Pos}{N:3e8}{fr:List (Option Nat)}{cl:List (Str×Addr)}{wi:TI}{g:TG}{tt:TT}{te:TE}
def MO(B:Rt X N fr scope cl)(hc:X.calm=true)
  (hg:∀pins fp s H,PG (jr X pins N scope cl fp s H) tg g) (ht:∀pins fp s H,L5 (jr X pins N scope cl fp s H) ifs tt) (he:∀pins fp s H,PE (jr X pins N scope cl fp s H) elt te)
  {pins:1e4} {s3:Shared} {σ:St} {H3:Hp} {Q:VK} {it D:3e5} {fp:List Addr} {tn:Nat→Heap→Prop} {J:It} (I3:Inv X pins σ H3 s3) (T:Turn X.prog X.w X.K tg J fp it tn) (UY:tn 0 s3.heap) (f3:∀b∈fp,gA X pins H3 b∧b<s3.heap.objs.size)
  {W:Nat→Nat→St→Hp→Prop} {m0:Nat} (w0:W 0 m0 (startB fr σ) H3)
  (turn:∀i m σ H,W i m σ H→(J.stop i H∧Q (.ref D) H)∨(J.go i H∧∀x H2,J.oW i H x H2→g x σ H2 fun σ3 H3=>tt σ3 H3 λb H4=>if b=true
    then te σ3 H4 λy H5=>∃ys,H5 D=some (.lst ys)∧ys.length<sizeLine∧∃m',m'<m∧W (i+1) m' σ3 (upd H5 D (.lst (ys++[y])))
    else∃m',m'<m∧W (i+1) m' σ3 H4))
  {R:Result→Shared→Prop} (hR:∀s' H',Inv X pins σ H' s'→gA X pins H' s3.heap.objs.size→(∃m,s'.heap.Ns s3.heap.objs.size m)→Q (.ref D) H'→R (.ok .next) s')
  {h₁:Heap} {t1:Nat} (vp:h₁.Ns s3.heap.objs.size λ_=>none) (Dc:∀b o,s3.heap.get? b=some o→h₁.get? b=some o):
  codeAny 1e0 X.A (.compLoop 2e3 0 (.ref it) (.ref D) (compEnvC scope cl s3.heap.objs.size X.env)) R { s3 with heap:=h₁,toks:=t1 }:=by
 have Ib:=vq (t1:=t1) B I3 f3 vp Dc;have rD:∀{H':Hp},(∀b∈fp,H' b=none)→∀b∈fp,gA (jr X pins N scope cl fp s3 H3) [] H' b:=λhn b hb=>
  ⟨hn b hb,ne_of_lt (f3 b hb).2,(BC B I3 f3).ux b hb, .inl hb,λx c h=>(f3 b hb).1.2.2.2.2.1 x c (B.cells x c h),λp hp=>(f3 b hb).1.2.2.2.2.2 p (by rw[append_nil] at hp;exact hp)⟩
 refine comp_loop (λn s'=>∃i σ' H',Inv (jr X pins N scope cl fp s3 H3) [] σ' H' s'∧tn i s'.heap∧(∀b∈fp,H' b=none)∧W i n σ' H') ?_ m0
  ⟨0,_,_,Ib,T.keep _ _ _ UY λb _ o e=>Dc b o e,λb hb=>(f3 b hb).1.1,w0⟩
 rintro n s4 ⟨i,σ4,H4,I4,Wg,Wh,w4⟩;rcases turn i n σ4 H4 w4 with ⟨stop,qn⟩ | ⟨go,step⟩
 ·refine bR (T.done (jr X pins N scope cl fp s3 H3) rfl rfl rfl hc i [] s4 σ4 H4 _ I4 (rD Wh) Wg stop) λr s5 ⟨hr,I5⟩=>?_;subst hr;have J5:Inv X pins σ H4 s5:=I3.y8 (ch:=fp) I5.os I5.base I5.aM I5.bare λb hb=>⟨(f3 b hb).1.2.2.2.1,(f3 b hb).1.2.1,(f3 b hb).1.2.2.2.2.1,(f3 b hb).1.2.2.2.2.2⟩;obtain⟨mm,HY,_⟩:=I5.loc;exact hR s5 H4 J5 (I3.wZ (le_refl _) I5.free) ⟨mm,HY⟩ qn
 ·refine bR (T.item (jr X pins N scope cl fp s3 H3) rfl rfl rfl hc i [] s4 σ4 H4 _ I4 (rD Wh) Wg go) λr s5 ⟨u,hr,h5⟩=>?_;subst hr;refine bR h5 λ_ s6 ⟨x,H6,I6,r6,y6,Rw,fr6⟩=>?_;have I6':=I6.pinned (rD fr6) (T.obj _ _ Rw);have back:∀{s7:Shared} {σ7:St} {H7:Hp} {m':Nat},Inv (jr X pins N scope cl fp s3 H3) ([]++oX fp s6.heap) σ7 H7 s7→m'<n→W (i+1) m' σ7 H7→
    ∃m,m<n∧∃i σ' H',Inv (jr X pins N scope cl fp s3 H3) [] σ' H' s7∧tn i s7.heap∧(∀b∈fp,H' b=none)∧W i m σ' H':=fun {s7 σ7 H7 m'} I7 hm w7=>by
   refine⟨m',hm,i+1,σ7,H7,I7.fA,T.keep _ _ _ Rw λb hb o e=>(I7.pin (b,o) (mem_append_right _ (mem_append_right _ (fS hb e)))).1,λb hb=>?_,w7⟩;obtain⟨o,e,d⟩:=T.obj _ _ Rw b hb;exact(I7.pin (b,o) (mem_append_right _ (mem_append_right _ (fS hb e)))).2.1
  refine bR (hg _ _ _ _ _ s6 σ4 H6 x u _ I6' r6 (step x H6 y6)) λ_ s7 ⟨σ7,H7,I7,q7⟩=>?_;refine bR (ht _ _ _ _ _ s7 σ7 H7 _ I7 q7) λok s8 ⟨H8,I8,q8⟩=>?_
  cases ok with
  |false=>
   rw[if_neg 0e4] at q8 ⊢;obtain⟨m',hm,w8⟩:=q8;exact back I8 hm w8
  |true=>
   rw[if_pos rfl] at q8 ⊢;refine bR (he _ _ _ _ _ s8 σ7 H8 _ I8 q8) λy s9 ⟨v9,H9,I9,r9,ys,hD9,hl9,m',hm,w9⟩=>?_;refine bR (dB _ s9 σ7 H9 (.ref D) [v9] _ [y] (λ_ H'=>W (i+1) m' σ7 H') I9 rfl (.cons r9 .nil) ⟨_,ys,v9,rfl,rfl,hD9,hl9,w9⟩) λ_ s10 ⟨_,Fp,I10,_,q10⟩=>?_;exact back I10 hm q10
def zy(B:Rt X N fr scope cl)(hc:X.calm=true)
  (hg:∀pins fp s H,PG (jr X pins N scope cl fp s H) tg g) (ht:∀pins fp s H,L5 (jr X pins N scope cl fp s H) ifs tt) (he:∀pins fp s H,PE (jr X pins N scope cl fp s H) elt te)
  {pins:1e4} {s2:Shared} {σ:St} {H2:Hp} {Q:VK} {E:0e3} {it:3e5} {fp:List Addr} {tn:Nat→Heap→Prop} {J:It} (I2:Inv X pins σ H2 s2) (T:Turn X.prog X.w X.K tg J fp it tn) (Bm:tn 0 s2.heap) (f2:∀b∈fp,gA X pins H2 b)
  (q:∀D,H2 D=none→∃W:Nat→Nat→St→Hp→Prop,(∃m,W 0 m (startB fr σ) (upd H2 D (.lst [])))∧∀i m σ H,W i m σ H→ (J.stop i H∧Q (.ref D) H)∨(J.go i H∧∀x H2,J.oW i H x H2→g x σ H2 fun σ3 H3=>tt σ3 H3 λb H4=>if b=true
     then te σ3 H4 λy H5=>∃ys,H5 D=some (.lst ys)∧ys.length<sizeLine∧∃m',m'<m∧W (i+1) m' σ3 (upd H5 D (.lst (ys++[y])))
     else∃m',m'<m∧W (i+1) m' σ3 H4))
  {RR:Value→Addr→Result→Shared→Prop}
  (hRR:∀D C s' H',Inv X pins σ H' s'→gA X pins H' C→(∃m,s'.heap.Ns C m)→Q (.ref D) H'→RR (.ref D) C (.ok .next) s'):
  wpAny 1e0 X.A (newList []) (λacc s₃=>wpAny 1e0 X.A (newFunctionEnv scope X.env.globals cl [] X.env.qual none .none (some X.env)) (λxk s₄=>
   codeAny 1e0 X.A (.compStart 2e3 0 (.ref it) acc { xk with scope:=relabel scope X.env }) (RR acc xk.locals) s₄) E s₃) E s2:=by
 have hD:H2 s2.heap.objs.size=none:=I2.aM.fresh (le_refl _);obtain⟨W,⟨m0,w0⟩,turn⟩:=q s2.heap.objs.size hD;have I3:=I2.MF (ys:=[]) (its:=[]) (t':=s2.toks) .nil 0e4
 have Wi:∀b∈fp,b<s2.heap.objs.size:=λb hb=>by
  obtain⟨o,e,_⟩:=T.obj _ _ Bm b hb;exact Heap.lt_size e
 refine wpAny_newObj_type (wpAny_newFunctionEnv B.rQ (by intro y hy;simp at hy) (λh₁ vp MN=>?_) B.kind);have Wj:∀b o,s2.heap.get? b=some o→(s2.heap.push 4e6).get? b=some o:=λb o e=>Heap.get?_push_of_some _ e;have Dc:∀b o,(s2.heap.push 4e6).get? b=some o→h₁.get? b=some o:=λb o e=>MN.extBut b o (ne_of_lt (Heap.lt_size e)) (Heap.get?_push_of_some _ e)
 have f3:∀b∈fp,gA X pins (upd H2 s2.heap.objs.size (.lst [])) b∧b< (s2.heap.push 4e6).objs.size:=λb hb=>by
  refine⟨⟨?_,(f2 b hb).2⟩,?_⟩
  ·rw[ah (ne_of_lt (Wi b hb))];exact(f2 b hb).1
  ·rw[Heap.size_push];exact Nat.lt_succ_of_lt (Wi b hb)
 have fin:=MO (iter:=iter) (pos:=pos) (D:=s2.heap.objs.size) (t1:=s2.toks) (R:=RR (.ref s2.heap.objs.size) (s2.heap.push 4e6).objs.size) B hc hg ht he I3 T (T.keep _ _ _ Bm λb _ o e=>Wj b o e) f3 w0 turn
  (λs' H' J' f m q=>hRR _ _ s' H' J' f m q) vp Dc
 exact codeAny_compStart_list fin (T.self _ 0 _ _ _ (T.keep _ _ _ Bm λb _ o e=>Dc b o (Wj b o e)) fin)
def gg{sc:Scope}{NX:3e8}(S:HX sc scope NX N fr)(e1:X.env.scope=sc)(e2:X.N=NX)(hc:X.calm=true)(hi:PI X tg iter wi)
  (hg:∀pins fp s H,PG (jr X pins N scope (qk scope X.env) fp s H) tg g) (ht:∀pins fp s H,L5 (jr X pins N scope (qk scope X.env) fp s H) ifs tt) (he:∀pins fp s H,PE (jr X pins N scope (qk scope X.env) fp s H) elt te)
  (hs:∀x,foldedSetIterable iter X.env x=pure x:=by intro _;rfl):PE X 2e3 (PD wi fr g tt te):=by
 intro pins s σ H Q I h;have B:=S.zx e1 e2 I.ok;rw[eval_ListComp];refine wpAny_comprehension_free (use:=none) rfl hs B.Ru B.kind B.names (bR (hi pins s σ H _ I h) λv s1 h1=>bR h1 λVM s2 h2=>?_);obtain⟨it,fp,tn,J,H2,e,I2,T,Bm,f2,q⟩:=h2;subst e;refine zy (RR:=λacc C=>compPost 1e0 X.A X.xe none (EP X pins σ Q) acc C) B hc hg ht he I2 T Bm f2 q ?_;intro D C s' H' J' fC ⟨m,hm⟩ qn;refine⟨m,hm,λh' vt=>⟨.ref D,H',?_,rfl,qn⟩⟩;obtain⟨f0,f1,_,f3,f4,f5⟩:=fC;exact J'.turned (t':=s'.toks) (λb o hb e=>(vt.2 b hb).trans e) f0 f1 f3 f4 f5
end
end L2
namespace PySem
namespace F
def mU:entryFor table "dict.update.loop" =some Builtin.«dict.update.loop» :=entryFor_of_tree (by kernel_rfl)
def gL:plainId "dict.update.loop" =true:=by decide+kernel
def xl:typeLookup (.type "list") "keys" =pure none:=by rw[typeLookup_type,builtinLookup_eq_fast];kernel_rfl
end F
section
variable {prog:Program}{w:World}{K:Type}[DecidableEq K]{knd:KeyKind prog w K}{A:Around}{E:0e3}{s:Shared}
def BD{xs:Array Value}{k:Nat}{sl:Array (Option Value)}{Q:Option Value→Shared→Prop}(hx:s.heap.get? a=some { cls:= .type "list",dict:=none,data:= .seq xs k,slots:=sl }) (hA:A.handled=none)(h:∀h' tk,(∀b o,s.heap.get? b=some o→h'.get? b=some o)→Q none { s with heap:=h',toks:=tk }):wpAny 2e5 A (getAttr? (.ref a) "keys") Q E s:=by
 obtain⟨hp,g,d,tk,os⟩:=s;have hT:∀Rx,(⟨hp,g,d,Rx,os⟩:Shared).TypeIs (.ref a) "list" :=λ_=>⟨_,hx,rfl⟩;have f1:=sub_AttributeError;have f3:=F.slot_list_getattribute.lookup;have f4:=F.slot_list_getattribute.bind (.ref a);have f5:=am_list_getattr_none;unfold getAttr? getAttrBy? getAttrBy
 repeat (any_goals (first|assumption|exact hT _| ((with_reducible show wpAny _ _ (call (Value.builtin "list.__getattribute__") _ _) _ _ _);refine call_meets F.slot_list_getattribute (hT _) am_entry_list_getattribute (F.args_list_getattribute_2 _ _) (meets_getattribute_miss_list a xs k sl "keys" _ F.xl (by decide+kernel) (by decide+kernel)) ⟨hx,hA,λh' Rx e U2=>?_⟩) |wp_step))
 obtain⟨t',u',he⟩:=U2.there;show wpAny _ _ (getattributeRaised _ _ _ _ _ _ _) _ _ _;unfold getattributeRaised
 repeat (any_goals (first|assumption|wp_step))
 all_goals exact h h' Rx U2.keeps
def Ry{R:Result→Shared→Prop}{ps:List (Addr×K×Value×Value)}(hh:A.handled=none)(hdl:d≠l)(xm:d≠it)(zA:it≠l)(MP:∀p∈ps,p.1≠d∧p.1≠it∧knd.is p.2.1 p.2.2.1=true):
  ∀(n i:Nat) (s:Shared) (kvs:List (K×Value)),ps.length - i=n→i≤ps.length→s.heap.IsListIter it l i→s.heap.IsList l (ps.map λp=>Value.ref p.1).toArray→
   (∀p∈ps,s.heap.IsTuple p.1 #[p.2.2.1,p.2.2.2])→s.heap.DictOf knd d kvs→kvs.length+(ps.length - i)≤sizeLine→
   (∀h' tk,h'.DictOf knd d ((ps.drop i).foldl (λacc p=>stored acc p.2.1 p.2.2.2) kvs)→(∀b o,b≠d→b≠it→s.heap.get? b=some o→h'.get? b=some o)→R (.ok (.ret res)) { s with heap:=h',toks:=tk })→
   codeAny 2e5 A (.builtin "dict.update.loop" ⟨[.ref d, .ref it,rawInt i,res],[]⟩) R s:=by
 intro n
 induction n with
 |zero=>
  intro i s kvs hn hi hit hl ht hd hsz hR;refine codeAny_builtin F.mU ?_;rw[Around.under_plainId F.gL _];show wpAny _ A.in1 (pyNext (.ref it) >>= _) _ _ s;refine wpAny_bind (wpAny_pyNext_list_end hh hit hl (by simp;omega) λh' eb=>?_);show wpAny _ A.in1 (Builtin.Dict.addKeywords d [] >>= λ_=>ret res) _ _ _;have e:ps.drop i=[]:=List.drop_eq_nil_of_le 0e5;rw[e] at hR;exact wpAny_bind (wpAny_pure (wpAny_pure (hR h' s.toks (hd.extBut eb xm) λb o _ hb q=>eb b o hb q)))
 |succ n ih=>
  intro i s kvs hn hi hit hl ht hd hsz hR;have oH:i<ps.length:=by omega
  have hp:=ps.get_mem ⟨i,oH⟩;have Rz:ps.drop i=ps[i]::ps.drop (i+1):=drop_eq_getElem_cons oH;obtain⟨n1,n2,hk⟩:=MP _ (getElem_mem oH);refine codeAny_builtin F.mU ?_;rw[Around.under_plainId F.gL _];show wpAny _ A.in1 (pyNext (.ref it) >>= _) _ _ s;refine wpAny_bind (wpAny_pyNext_list_item hit hl (x:= .ref ps[i].1) (by simp [oH]) λh1 hit1 sb1=>?_)
  have ht1:∀p∈ps,h1.IsTuple p.1 #[p.2.2.1,p.2.2.2]:=λp hp=>by
   obtain⟨o,q,r⟩:=ht p hp;exact⟨o,(sb1.2 _ (MP p hp).2.1).trans q,r⟩
  obtain⟨o,ho,hc,m,hdat⟩:=ht1 _ (getElem_mem oH);have Hg:h1.DictOf knd d kvs:=hd.sameBut sb1 xm;have uq:h1.IsList l (ps.map λp=>Value.ref p.1).toArray:=hl.extBut sb1.extBut (Ne.symm zA);show wpAny _ A.in1 (holding [Value.ref ps[i].1] _ >>= _) _ _ _;refine wpAny_bind (wpAny_holding (wpAny_bind ?_));refine wpAny_tryCatch ?_;unfold Builtin.Dict.pairItems;refine wpAny_bind (wpAny_typeOf (T:="tuple") ⟨o,ho,hc⟩ ?_);rw[if_pos 0e4];refine wpAny_bind (wpAny_seqItems ho hdat (wpAny_pure ?_));show wpAny _ A.in1 (holding [ps[i].2.2.1,ps[i].2.2.2] (dictSet d ps[i].2.2.1 ps[i].2.2.2)) _ _ _;refine wpAny_holding (wpAny_dictSet_pairs hk Hg (λh2 hd2 sb2=>?_) 0e5);have hc1:((i:Int)+1)=((i+1 :Nat):Int):=by push_cast;rfl
  have up:∀b o,b≠d→b≠it→s.heap.get? b=some o→h2.get? b=some o:=λb o q1 q2 q=>(sb2.2 b q1).trans ((sb1.2 b q2).trans q);refine wpAny_pure ⟨plainId_quiet F.gL _,?_⟩;show codeAny _ _ (.builtin "dict.update.loop" ⟨[.ref d, .ref it,rawInt ((i:Int)+1),res],[]⟩) _ _;rw[hc1];refine ih (i+1) _ _ 0e5 oH ?_ ?_ ?_ hd2 ?_ ?_
  ·obtain⟨oi,q,r⟩:=hit1;exact⟨oi,(sb2.2 _ (Ne.symm xm)).trans q,r⟩
  ·exact uq.extBut sb2.extBut (Ne.symm hdl)
  ·intro p hp;obtain⟨o',q,r⟩:=ht1 p hp;exact⟨o',(sb2.2 _ (MP p hp).1).trans q,r⟩
  ·have:=stored_length_le kvs ps[i].2.1 ps[i].2.2.2;omega
  ·intro h' tk iL keep;refine hR h' tk ?_ λb o q1 q2 q=>keep b o q1 q2 (up b o q1 q2 q);rw[Rz];exact iL
end
end PySem
namespace PySem
section
variable {prog:Program}{w:World}{K:Type}[DecidableEq K]{knd:KeyKind prog w K}{A:Around}{E:0e3}{s:Shared}
def mx{n:Nat}{sl:Array (Option Value)}{ps:List (Addr×K×Value×Value)}{Q:0e3}(hh:A.handled=none)(hl:s.heap.get? l=some { cls:= .type "list",dict:=none,data:= .seq (ps.map λp=>Value.ref p.1).toArray n,slots:=sl })(ht:∀p∈ps,s.heap.IsTuple p.1 #[p.2.2.1,p.2.2.2]∧knd.is p.2.1 p.2.2.1=true) (hsz:ps.length≤sizeLine)(h:∀h' tk,h'.DictOf knd s.heap.objs.size (ps.foldl (λacc p=>stored acc p.2.1 p.2.2.2) [])→(∀b o,s.heap.get? b=some o→h'.get? b=some o)→Q (.ref s.heap.objs.size) { s with heap:=h',toks:=tk }):
  wpAny 2e5 A (call (.type "dict") [.ref l]) Q E s:=by
 refine callType_codes (Q₁:=λobj s₁=>obj= .ref s.heap.objs.size∧s₁={ s with heap:=s.heap.push { cls:= .type "dict",data:= .dict #[] } }) F.kt_called_dict (F.kt_typeCall_dict_1 _) F.entry_dict_init (kt_code_dict_new _ ⟨rfl,rfl⟩) ?_;rintro obj s₁ ⟨rfl,rfl⟩;have jD:(s.heap.push { cls:= .type "dict",data:= .dict #[] }).DictOf knd s.heap.objs.size []:=Heap.DictOf.new s.heap;have up:∀b o,s.heap.get? b=some o→(s.heap.push { cls:= .type "dict",data:= .dict #[] }).get? b=some o:=λb o q=>Heap.get?_push_of_some _ q;have uq:=up _ _ hl;refine⟨jD.typeIs,F.args_dict_init_2 _ _,?_⟩;unfold Builtin.«dict.__init__»;refine wpAny_bind ?_;unfold Builtin.Dict.selfAndRest;refine wpAny_bind (wpAny_notOrdered_dict jD.typeIs ?_);show wpAny _ _ (pure (s.heap.objs.size,[Value.ref l])) _ _ _;refine wpAny_pure ?_;show wpAny _ _ (Builtin.Dict.updateFrom "dict.__init__" s.heap.objs.size (.ref l) [] .none) _ _ _;unfold Builtin.Dict.updateFrom;refine wpAny_bind (wpAny_typeOf (T:="list") ⟨_,uq,rfl⟩ ?_);rw[if_pos 0e4];refine wpAny_bind (BD uq hh λh2 tk2 k2=>?_);rw[if_pos (show (none:Option Value).isNone=true from rfl)];refine wpAny_bind (wpAny_rule ?_);have uo:=k2 _ _ uq;have isl:h2.IsList l (ps.map λp=>Value.ref p.1).toArray:=⟨_,uo,rfl,n,rfl⟩;have L4:l<s.heap.objs.size:=Heap.lt_size hl
 have sz:s.heap.objs.size+1≤h2.objs.size:=by
  obtain⟨o,es,ep,q,r⟩:=id jD;exact Heap.lt_size (k2 _ _ q)
 refine wpAny_bind (wpAny_pyIter_list isl ?_);refine wpAny_pure ⟨plainId_quiet F.gL _,?_⟩;have Dc:∀b o,s.heap.get? b=some o→(h2.push { cls:= .type "list_iterator",data:= .fields #[.ref l, .int 0 0] }).get? b=some o:=λb o q=>Heap.get?_push_of_some _ (k2 _ _ (up b o q));refine Ry (A:=A.in1) (knd:=knd) (l:=l) (ps:=ps) hh (ne_of_gt L4) (ne_of_lt sz) (ne_of_gt (lt_of_lt_of_le L4 (le_of_lt sz))) (λp hp=>?_) ps.length 0 _ [] 0e5 (zero_le _) ?_ ?_ ?_ ?_ ?_ ?_
 ·obtain⟨⟨o,q,_⟩,hk⟩:=ht p hp;have:=Heap.lt_size q;exact⟨ne_of_lt this,ne_of_lt (lt_trans this sz),hk⟩
 ·exact⟨_,Heap.get?_push_size _ rfl,rfl,rfl⟩
 ·exact⟨_,Heap.get?_push_of_some _ uo,rfl,n,rfl⟩
 ·intro p hp;obtain⟨⟨o,q,r⟩,hk⟩:=ht p hp;exact⟨o,Dc _ _ q,r⟩
 ·obtain⟨o,es,ep,q,r⟩:=jD;exact⟨o,es,ep,Heap.get?_push_of_some _ (k2 _ _ q),r⟩
 ·simpa using hsz
 ·intro h' tk iL keep;refine⟨rfl,h h' tk iL λb o q=>?_⟩;have:=Heap.lt_size q;exact keep b o (ne_of_lt this) (ne_of_lt (lt_trans this sz)) (Dc b o q)
end
end PySem
namespace L2
open PySem PySem.Spec PyProof.Rows
theorem vw:∀{as:List Addr} {us:4e1},Vals (as.map V.ref) us→us=as.map Value.ref
 | [],_, .nil=>rfl
 |a::r,_, .cons h t=>by
  rw[vw t];exact congrArg (·::r.map Value.ref) (show _=Value.ref a from h)
theorem pairs_of(ok:kj P w H h):∀{ps:List (Addr×Key×V)},(∀p∈ps,H p.1=some (.tup [kV p.2.1,p.2.2]))→
  ∃qs:List (Addr×Key×Value×Value),Paired (λ(p:Addr×Key×V) (q:Addr×Key×Value×Value)=>p.1=q.1∧p.2.1=q.2.1∧RelV p.2.2 q.2.2.2) ps qs∧∀q∈qs,h.IsTuple q.1 #[q.2.2.1,q.2.2.2]∧(bz P w).is q.2.1 q.2.2.1=true
 | [],_=>⟨[], .nil,λq hq=>by cases hq⟩
 | (a,k,v)::r,hp=>by
   obtain⟨qs,pr,hq⟩:=pairs_of ok (ps:=r) λp ql=>hp p (mem_cons_of_mem _ ql);obtain⟨_,its,vs,tu⟩:=(show cf P w H h a (.tup [kV k,v]) from ok a _ (hp (a,k,v) 1e6));obtain⟨u1,u2,rfl,r1,r2⟩:=vals2 vs;refine⟨(a,k,u1,u2)::qs, .cons ⟨rfl,rfl,r2⟩ pr,λq qy=>?_⟩;rcases mem_cons.mp qy with rfl|z
   ·exact⟨tu,rK r1⟩
   ·exact hq q z
theorem rS:∀{ps:List (Addr×Key×V)} {qs:List (Addr×Key×Value×Value)},Paired (λ(p:Addr×Key×V) (q:Addr×Key×Value×Value)=>p.1=q.1∧p.2.1=q.2.1∧RelV p.2.2 q.2.2.2) ps qs→(ps.map λp=>Value.ref p.1)=qs.map λq=>Value.ref q.1
 |_,_, .nil=>rfl
 |_,_, .cons h t=>by
  rw[map_cons,map_cons,rS t,h.1]
theorem rT:∀{ps:List (Addr×Key×V)} {qs:List (Addr×Key×Value×Value)} {kvs:0e2} {vs:List (Key×Value)},Paired (λ(p:Addr×Key×V) (q:Addr×Key×Value×Value)=>p.1=q.1∧p.2.1=q.2.1∧RelV p.2.2 q.2.2.2) ps qs→KV kvs vs→
  KV (bF kvs (ps.map (·.2))) (qs.foldl (λacc q=>stored acc q.2.1 q.2.2.2) vs)
 |_,_,_,_, .nil,h=>h
 |_,_,kvs,vs, .cons (b:=q) (a:=p) h t,r=>by
  obtain⟨h1,h2,h3⟩:=h
  have u:KV (putK kvs p.2.1 p.2.2) (stored vs q.2.1 q.2.2.2):=by
   rw[←h2];exact r.put p.2.1 h3
  have z:=rT t u;exact z
def mz(hc:X.calm=true):fB X (.type "dict") (λxs H Q=>∃l,∃ps:List (Addr×Key×V),xs=[.ref l]∧H l=some (.lst (ps.map λp=> .ref p.1))∧(∀p∈ps,H p.1=some (.tup [kV p.2.1,p.2.2]))∧
  ∀q,H q=none→Q (.ref q) (upd H q (.dK (bF [] (ps.map (·.2)))))):=by
 intro pins s σ H xs us Q I r h;obtain⟨l,ps,rfl,hl,hp,q⟩:=h;obtain⟨u,rfl,ru⟩:=vals1 r;cases ru;obtain⟨z,its,n,vs,_,e⟩:=I.Bv hl;obtain⟨qs,pr,hq⟩:=pairs_of I.aM hp
 have e1:its=qs.map λq=>Value.ref q.1:=by
  rw[←rS pr];have:=vw (as:=ps.map 1e8) (us:=its) (by rw[map_map];exact vs);rw[this,map_map];rfl
 subst e1
 have zl:qs.length≤sizeLine:=by
  rw[←pr.length]
  rwa [length_map] at z
 refine mx (ps:=qs) (I.ok.hd hc) e hq zl λh' tk dd keep=>?_;have kv:=rT (kvs:=[]) (vs:=[]) pr .nil
 have zz:(bF [] (ps.map (·.2))).length≤sizeLine:=by
  have:=eD (ps.map (·.2)) [];rw[length_map] at this;have:=pr.length;simp only [length_nil] at*;omega
 exact⟨.ref s.heap.objs.size,_,I.laid (a:=s.heap.objs.size) (o:= .dK (bF [] (ps.map (·.2)))) (t':=tk) keep (le_refl _) (rM zz (beq_eq_false_iff_ne.mpr (Ne.symm (ne_of_lt I.big))) kv dd),rfl,q _ (I.aM.fresh (le_refl _))⟩
end L2
namespace L2
open PySem PySem.Spec PyProof.Rows
structure zB(K:0e9)(x qual:Str)(st:Stmt)(f:3e5)(fd:FuncData)(dV:Value):Prop where
 ex:∃(oc:Value) (od:Option Addr) (kV doc pm:Value) (an:Option Addr) (aY ct:Value) (um:Array (Option Value)),
  fd=fnOf x qual (bD st) (aR st) (aj st) dV kV doc pm an aY ct∧K.lookup f=some ⟨oc,od, .func fd,um⟩∧PySem.W.codeIn K aY qual=true
 kp:keepIn K (.ref f)=true
section
variable {P:Program}{w:World}{K:0e9}{mg:1e3}{base:Heap}
def zB.ok{x qual:Str}{st:Stmt}{f:3e5}{fd:FuncData}{dV:Value}{N ps:3e8}{k:Nat}{sp:Sp}(F:zB K x qual st f fd dV)(S:av N ps (aj st))(len:3e1)
  (dn:∀(aY:Value) (A:Around) (outer:List Env) (s:Shared) (H:Hp) (vs:4e5) (Q:VK) (E:XK),cG k (A.deeper (envOfC qual (aj st) s.heap.objs.size f aY))→sp vs H Q E→
   ∃t,mn (jy rO P w K mg base N qual (aj st) f aY A outer s H E).Hv (aR st) t∧t { nx:=λ_ H'=>Q .cw H',rt:=Q } (start N vs) H):fD P w K mg base rO (k+1) f fd ps sp:=by
 obtain⟨oc,od,kV,doc,pm,an,aY,ct,um,rfl,lk,rA⟩:=F.ex;refine fn_of lk rA S len λA outer s H vs Q E hr C4=>?_;obtain⟨t,h,q⟩:=dn aY A outer s H vs Q E hr C4;exact⟨t,h.Hv,q⟩
def lC{x qual:Str}{st:Stmt}{f:3e5}{oc dV:Value}{od an:Option Addr}{um:Array (Option Value)}{kV doc pm aY ct:Value}(l:K.lookup f=some ⟨oc,od, .func (fnOf x qual (bD st) (aR st) (aj st) dV kV doc pm an aY ct),um⟩)
  (c:PySem.W.codeIn K aY qual=true) (k:keepIn K (.ref f)=true):zB K x qual st f (fnOf x qual (bD st) (aR st) (aj st) dV kV doc pm an aY ct) dV:=⟨⟨oc,od,kV,doc,pm,an,aY,ct,um,rfl,l,c⟩,k⟩
def Def(K:0e9)(mg:1e3)(x q:Str)(st:Stmt)(ps:3e8):Prop:=∃f fd,Hf K x q st f fd∧Binds K fd ps []∧mg x=some (.ref f)
structure Cal(P:Program)(w:World)(K:0e9)(mg:1e3)(base:Heap)(k:Nat)(x:Str)(ps:3e8)(sp:Sp)(f:3e5)(fd:FuncData):Prop where
 ok:fD P w K mg base rO k f fd ps sp
 kp:keepIn K (.ref f)=true
 b:Binds K fd ps []
 g:mg x=some (.ref f)
def a5(P:Program)(w:World)(K:0e9)(mg:1e3)(base:Heap)(k:Nat)(x:Str)(ps:3e8)(sp:Sp):Prop:=∃f fd,Cal P w K mg base k x ps sp f fd
def Def.cN{x q:Str}{st:Stmt}{N ps:3e8}{k:Nat}{sp:Sp}(D:Def K mg x q st ps)(S:av N ps (aj st))(len:3e1)
  (dn:∀(f:3e5) (aY:Value) (A:Around) (outer:List Env) (s:Shared) (H:Hp) (vs:4e5) (Q:VK) (E:XK),cG k (A.deeper (envOfC q (aj st) s.heap.objs.size f aY))→sp vs H Q E→
   ∃t,mn (jy rO P w K mg base N q (aj st) f aY A outer s H E).Hv (aR st) t∧t { nx:=λ_ H'=>Q .cw H',rt:=Q } (start N vs) H):a5 P w K mg base (k+1) x ps sp:=by
 obtain⟨f,fd,F,b,g⟩:=D;exact⟨f,fd,F.ok S len (dn f),F.kp,b,g⟩
def aX(K:0e9)(C:3e5)(m q:Str)(st:Stmt)(ps:3e8):Prop:=∃f fd,Hf K m q st f fd∧Binds K fd ps []∧Meth K C m f
structure Wk(P:Program)(w:World)(K:0e9)(mg:1e3)(base:Heap)(k:Nat)(C:3e5)(m:Str)(ps:3e8)(sp:Sp)(f:3e5)(fd:FuncData):Prop where
 ok:fD P w K mg base rO k f fd ps sp
 m:Meth K C m f
 b:Binds K fd ps []
def aD(P:Program)(w:World)(K:0e9)(mg:1e3)(base:Heap)(k:Nat)(C:3e5)(m:Str)(ps:3e8)(sp:Sp):Prop:=∃f fd,Wk P w K mg base k C m ps sp f fd
def aX.cN{C:3e5}{m q:Str}{st:Stmt}{N ps:3e8}{k:Nat}{sp:Sp}(D:aX K C m q st ps)(S:av N ps (aj st))(len:3e1)
  (dn:∀(f:3e5) (aY:Value) (A:Around) (outer:List Env) (s:Shared) (H:Hp) (vs:4e5) (Q:VK) (E:XK),cG k (A.deeper (envOfC q (aj st) s.heap.objs.size f aY))→sp vs H Q E→
   ∃t,mn (jy rO P w K mg base N q (aj st) f aY A outer s H E).Hv (aR st) t∧t { nx:=λ_ H'=>Q .cw H',rt:=Q } (start N vs) H):aD P w K mg base (k+1) C m ps sp:=by
 obtain⟨f,fd,F,b,g⟩:=D;exact⟨f,fd,F.ok S len (dn f),g,b⟩
def l6(K:0e9)(C:3e5)(q:Str)(st:Stmt)(ps:3e8)(ds:List Int):Prop:=∃f fd dV,zB K "__init__" q st f fd dV∧Mk K C f∧∀j,j≤ds.length→∃us,Vals ((ds.drop j).map V.int) us∧Binds K fd ps us
structure CalI(P:Program)(w:World)(K:0e9)(mg:1e3)(base:Heap)(k:Nat)(C:3e5)(ps:3e8)(ds:List Int)(sp:Sp)(f:3e5)(fd:FuncData):Prop where
 ok:fD P w K mg base rO k f fd ps sp
 m:Mk K C f
 b:∀j,j≤ds.length→∃us,Vals ((ds.drop j).map V.int) us∧Binds K fd ps us
def gG(P:Program)(w:World)(K:0e9)(mg:1e3)(base:Heap)(k:Nat)(C:3e5)(ps:3e8)(ds:List Int)(sp:Sp):Prop:=∃f fd,CalI P w K mg base k C ps ds sp f fd
def l6.cN{C:3e5}{q:Str}{st:Stmt}{N ps:3e8}{ds:List Int}{k:Nat}{sp:Sp}(D:l6 K C q st ps ds)(S:av N ps (aj st))(len:3e1)
  (dn:∀(f:3e5) (aY:Value) (A:Around) (outer:List Env) (s:Shared) (H:Hp) (vs:4e5) (Q:VK) (E:XK),cG k (A.deeper (envOfC q (aj st) s.heap.objs.size f aY))→sp vs H Q E→
   ∃t,mn (jy rO P w K mg base N q (aj st) f aY A outer s H E).Hv (aR st) t∧t { nx:=λ_ H'=>Q .cw H',rt:=Q } (start N vs) H):gG P w K mg base (k+1) C ps ds sp:=by
 obtain⟨f,fd,dV,F,g,b⟩:=D;exact⟨f,fd,F.ok S len (dn f),g,b⟩
end
def au.new(h:H p=none):au H (upd H p o):=λb q e=>by
 rw[ah (af e h)];exact e
end L2
namespace L2
open PySem
def jE:bootBuiltins "len" =some (.builtin "len"):=PySem.boot_len
def eI:bootBuiltins "isinstance" =some (.builtin "isinstance"):=by decide+kernel
def rV:bootBuiltins "int" =some (.type "int"):=by decide+kernel
def BE:bootBuiltins "str" =some (.type "str"):=by decide+kernel
def MQ:bootBuiltins "bool" =some (.type "bool"):=by decide+kernel
def jF:bootBuiltins "list" =some (.type "list"):=by decide+kernel
def gM:bootBuiltins "dict" =some (.type "dict"):=by decide+kernel
def RA:bootBuiltins "sum" =some (.builtin "sum"):=by decide+kernel
def xn{c A B:Prop}[Decidable c](hc:c)(h:A):if decide c=true then A else B:=by
 rw[if_pos (decide_eq_true hc)];exact h
def rW{c A B:Prop}[Decidable c](hc:¬c)(h:B):if decide c=true then A else B:=by
 rw[if_neg (by rw[decide_eq_false hc];decide)];exact h
def pe{α:Type}{xs:List α}{i:Int}(h0:0≤i)(h1:i<xs.length):∃v,v∈xs∧uH xs i=some v:=by
 have hl:i.toNat<xs.length:=by omega
 refine⟨xs[i.toNat],getElem_mem hl,?_⟩;have:=lA (getElem?_eq_getElem hl)
 rwa [Int.toNat_of_nonneg h0] at this
def bg(x y:Str):(x++y).length=x.length+y.length:=by
 show (x.cps++y.cps).size=_;rw[Array.size_append];rfl
def vy{n:Int}(h1:0≤n)(h2:n<2^64):n.natAbs.log2<1920:=by
 by_cases h:n.natAbs=0
 ·rw[h];decide
 ·have:=(log2_lt h (k:=64)).mpr 0e5;omega
end L2
namespace L2
open PySem PySem.Spec PyProof.Rows
inductive vz:List Expr→List V→Prop where
 |nil:vz [] []
 |int {i:Int} {j} {pos:Pos} {es:List Expr} {vs:4e5} (t:vz es vs):vz (.Constant (.int i) j pos::es) (.int i::vs)
 |str {x:Str} {j} {pos:Pos} {es:List Expr} {vs:4e5} (t:vz es vs):vz (.Constant (.str x) j pos::es) (.str x::vs)
def Wl(vs:4e5):TA:=λ_ H Q=>Q vs H
def MR(h:vz es vs):PA X es (Wl vs):=by
 induction h with
 |nil=>exact ak
 |int t ih=>exact λpos pins s σ H Q I q=>ag aq ih rfl pos pins s σ H Q I q
 |str t ih=>exact λpos pins s σ H Q I q=>ag bh ih rfl pos pins s σ H Q I q
section
variable {K:0e9}
def gu{T:String}:kitOne K (.type T) (.type T)=some true:=by
 unfold kitOne;rw[if_pos 2e9]
def RB{T U:String}{b:Bool}(h1:(Value.type T==Value.type U)=false)(h2:PySem.W.kitMeta U=true)(h3:(fastBuiltinMro T).map (·.contains (Value.type U))=some b):kitOne K (.type T) (.type U)=some b:=by
 unfold kitOne;rw[if_neg (by rw[h1];decide)];unfold PySem.W.kitCls;dsimp only;rw[if_pos h2];exact h3
def mV:kitOne K (.type "int") (.type "bool")=some false:=RB 0e0 0e0 0e0
end
end L2
namespace L2
open PySem PySem.Spec PyProof.Rows
section
variable {X:Cx}{elt tg iter:Expr}{ifs:List Expr}{scope:Scope}{pos Fq py:Pos}{N:3e8}{fr:List (Option Nat)}{wi:TI}{g:TG}{tt:TT}{te:TE}
def xo{i:Nat}(hN:X.N.Nodup)(Wm:X.N[i]? =some y)(hy:Loc X.env.scope y)(S:HX sc scope NX N fr)(e1:X.env.scope=sc)(e2:X.N=NX)(hc:X.calm=true)(hi:PI X tg iter wi)(hg:∀pins fp s H,PG (jr X pins N scope (qk scope X.env) fp s H) tg g) (ht:∀pins fp s H,L5 (jr X pins N scope (qk scope X.env) fp s H) ifs tt) (he:∀pins fp s H,PE (jr X pins N scope (qk scope X.env) fp s H) elt te)(hsw:swapsWith 2e3 (some (.Name y py)) Fq.line X.env=pure true:=by rfl) (hs:∀x,foldedSetIterable iter X.env x=pure x:=by intro _;rfl)(hf:X.fn y=true∨X.env.scope.names.lookup y=some .local:=by first|exact .inl rfl|exact .inr rfl|assumption):
  PS X (.Assign [.Name y py] 2e3 Fq) (Mo (PD wi fr g tt te) (cg i)):=by
 intro pins s σ H D I h;have B:=S.zx e1 e2 I.ok;rw[exec_Assign_Name_used _ _ _ _ hsw];refine wpAny_bind (wpAny_standAt (wpAny_bind ?_));show wpAny _ X.A (do let _←comprehension 2e3 scope X.env _ (newList []) false (eval iter X.env) (some (assign (.Name y py) X.env))) _ _ s;refine wpAny_bind (wpAny_mono (wpAny_comprehension_free (use:=some (assign (.Name y py) X.env)) (Q:=λ_ s'=>SP X pins D .next s') rfl hs B.Ru B.kind B.names (bR (hi pins s σ H _ I h) λv s1 h1=>bR h1 λVM s2 h2=>?_)) (λ_ s' hq=>wpAny_pure (wpAny_pure hq)) λ_ _ e=>e);obtain⟨it,fp,tn,J,H2,e,I2,T,Bm,f2,q⟩:=h2;subst e;refine zy (Q:=λv H'=>cg i v σ H' D.nx) (RR:=λacc C=>compPost 1e0 X.A X.xe (some (assign (.Name y py) X.env)) (λ_ s'=>SP X pins D .next s') acc C) B hc hg ht he I2 T Bm f2 q ?_;intro D' C s' H' J' fC ⟨m,hm⟩ qn;obtain⟨f0,f1,_,f3,f4,f5⟩:=fC;show wpAny _ X.A (assign (.Name y py) X.env (.ref D')) _ _ _;refine wpAny_assign_Name (oR J' hN Wm hy (v:= .ref D') rfl (λRf J'' ⟨a,sb,ha⟩=>?_) hf)
 have hCa:C≠a:=by
  rcases ha with z|z
  ·rw[z];exact f1
  ·exact λw'=>f4 _ _ z w'.symm
 refine⟨m,hm.sameBut sb hCa,λh' vt=>⟨_,H',?_,qn⟩⟩;exact J''.turned (t':=Rf.toks) (λb o hb e=>(vt.2 b hb).trans e) f0 f1 f3 f4 f5
end
def vA{K:0e9}{a D:3e5}{xs:4e5}{g:TG}{tt:TT}{te:TE}{Q:Hp→Prop}{σ:St}{H:Hp}(Pv:Nat→St→Hp→Prop)(h0:Pv 0 σ H)(hl:∀i σ H,i≤xs.length→Pv i σ H→bM K H a xs)
  (hs:∀i x σ H,xs[i]? =some x→Pv i σ H→∀N:St→Hp→Prop,(∀σ' H',Pv (i+1) σ' H'→N σ' H')→g x σ H fun σ3 H3=>tt σ3 H3 λb H4=>if b=true then te σ3 H4 λy H5=>∃ys,H5 D=some (.lst ys)∧ys.length<sizeLine∧N σ3 (upd H5 D (.lst (ys++[y]))) else N σ3 H4)
  (hd:∀σ H,Pv xs.length σ H→Q H):
  ∃W:Nat→Nat→St→Hp→Prop,(∃m,W 0 m σ H)∧∀i m σ H,W i m σ H→((CZ K a).stop i H∧Q H)∨((CZ K a).go i H∧∀x H2,(CZ K a).oW i H x H2→g x σ H2 fun σ3 H3=>tt σ3 H3 λb H4=>if b=true
   then te σ3 H4 λy H5=>∃ys,H5 D=some (.lst ys)∧ys.length<sizeLine∧∃m',m'<m∧W (i+1) m' σ3 (upd H5 D (.lst (ys++[y])))
   else∃m',m'<m∧W (i+1) m' σ3 H4):=by
 refine⟨λi m σ H=>m+i=xs.length∧Pv i σ H,⟨xs.length,rfl,h0⟩,?_⟩;rintro i m σ H ⟨hm,hp⟩;have sq:=hl i σ H 0e5 hp;by_cases hi:i<xs.length
 ·refine .inr ⟨⟨xs,xs[i],sq,getElem?_eq_getElem hi⟩,?_⟩;rintro x H2 ⟨rfl,hx⟩;exact hs i x σ H2 (hx xs sq) hp _ fun σ' H' q=>⟨m - 1,by omega,by omega,q⟩
 ·have e:i=xs.length:=by omega
  subst e;exact .inl ⟨⟨xs,sq,le_refl _⟩,hd σ H hp⟩
def xp{k:Nat}{t:Pr}(K:0e9)(n:Nat)(hK:X.K=K)(hc:X.calm=true)(h:UX X es t)(hn:(assignEach es X.env).length=n:=by rfl)(eC:(assignEach es X.env).findIdx? 1e8=none:=by rfl):PG X (.Tuple es k pos) (VL K n t):=by
 subst hK;exact ia hc h hn eC
def ph{a D:3e5}{o:Obj}{kvs:0e2}{g:TG}{tt:TT}{te:TE}{Q:Hp→Prop}{σ:St}{H:Hp}(Pv:Nat→St→Hp→Prop)(h0:Pv 0 σ H)(hl:∀i σ H,Pv i σ H→H a=some (.dX o 3e0))
  (hs:∀i k v σ H,kvs[i]? =some (k,v)→Pv i σ H→∀N:St→Hp→Prop,(∀σ' H',Pv (i+1) σ' H'→N σ' H')→g (kV k) σ H fun σ3 H3=>tt σ3 H3 λb H4=>if b=true then te σ3 H4 λy H5=>∃ys,H5 D=some (.lst ys)∧ys.length<sizeLine∧N σ3 (upd H5 D (.lst (ys++[y]))) else N σ3 H4)
  (hd:∀σ H,Pv kvs.length σ H→Q H):
  ∃W:Nat→Nat→St→Hp→Prop,(∃m,W 0 m σ H)∧∀i m σ H,W i m σ H→((PB a o kvs).stop i H∧Q H)∨((PB a o kvs).go i H∧∀x H2,(PB a o kvs).oW i H x H2→g x σ H2 fun σ3 H3=>tt σ3 H3 λb H4=>if b=true
   then te σ3 H4 λy H5=>∃ys,H5 D=some (.lst ys)∧ys.length<sizeLine∧∃m',m'<m∧W (i+1) m' σ3 (upd H5 D (.lst (ys++[y])))
   else∃m',m'<m∧W (i+1) m' σ3 H4):=by
 refine⟨λi m σ H=>m+i=kvs.length∧Pv i σ H,⟨kvs.length,rfl,h0⟩,?_⟩;rintro i m σ H ⟨hm,hp⟩;have hz:=hl i σ H hp;by_cases hi:i<kvs.length
 ·refine .inr ⟨⟨hz,hi⟩,?_⟩;rintro x H2 ⟨rfl,k,v,xj,rfl⟩;exact hs i k v σ H2 xj hp _ fun σ' H' q=>⟨m - 1,by omega,by omega,q⟩
 ·have e:i=kvs.length:=by omega
  subst e;exact .inl ⟨⟨hz,le_refl _⟩,hd σ H hp⟩
end L2
namespace L2
open PySem PySem.Spec PyProof.Rows
section
variable {X:Cx}
def tOr2(t u:TE):TE:=fun σ H Q=>t σ H Q∨u σ H Q
def HZ(h:PE X e t)(h':PE X e u):PE X e (tOr2 t u):=λpins s σ H Q I q=>
 q.elim (λz=>h pins s σ H Q I z) λz=>h' pins s σ H Q I z
def Ia(hc:X.calm=true):fB X (.builtin "sum") (λxs H Q=>∃p,∃ns:List Int,xs=[.ref p]∧bM X.K H p (ns.map V.int)∧Q (.int ns.sum) H):=by
 intro pins s σ H xs us Q I r h;obtain⟨p,ns,rfl,hS,q⟩:=h;obtain⟨u,rfl,ru⟩:=vals1 r;cases ru;obtain⟨its,rv,pl,hz⟩:=I.list hS;have hi:IntsAre its ns:=intsAre_of rv;obtain⟨ys,hy⟩:=hi.allInts.items;have hl:s.heap.IsList p (intItems ys):=hy▸pl.isList;refine sum_intListG (I.ok.hd hc) hl λh' tk t' hk=>?_
 have e1:ns=ys.toList.map 1e8:=by
  rw[←nums_intItems,←hy];exact(show numsOf its.toArray.toList=ns from hi.numsOf).symm
 have e2:preSum (numAt ys) ys.size=ns.sum:=by rw[preSum_eq,List.take_of_length_le 2e9,e1]
 exact⟨.int ns.sum,H,I.kept hk,⟨_,by rw[e2]⟩,q⟩
theorem rX:∀{xs:3e8} {us:4e1},Vals (xs.map V.str) us→StrsAre us xs
 | [],_, .nil=> .nil
 |x::r,_, .cons h t=>by
  obtain⟨tk,e⟩:=(show∃t,_=Value.str x t from h);subst e;exact .cons x tk (rX t)
def rJoin(K:0e9):V→List V→Hp→VK→Prop:=λx vs H Q=>∃z l,∃ys:List Str,x= .str z∧vs=[.ref l]∧bM K H l (ys.map V.str)∧(ys.map (·.length)).sum+ys.length*z.length≤16777216∧Q (.str (Txt.join z ys)) H
def qD:MtR X "str.join" (rJoin X.K):=by
 intro pins s σ H x vs v us Q I rx rv h;obtain⟨z,l,ys,rfl,rfl,hS,hz,q⟩:=h;obtain⟨t,e⟩:=(show∃t,v=Value.str z t from rx);subst e;obtain⟨u,rfl,ru⟩:=rv.one;cases ru;obtain⟨its,r,p,_⟩:=I.list hS;exact join_list p.isList (by simpa using rX r) hz λt' k=>⟨.str (Txt.join z ys),H,I.tok k,⟨t',rfl⟩,q⟩
mutual
inductive RC(K:0e9)(H:Hp):V→PyData→Prop where
 |cw:RC K H .cw .none
 |bl (b:Bool):RC K H (.bl b) (.bool b)
 |int (i:Int):RC K H (.int i) (.int i)
 |str (x:Str):RC K H (.str x) (.str x)
 |lst {a:3e5} {xs:4e5} {ds:List PyData} (h:bM K H a xs) (t:Ic K H xs ds):RC K H (.ref a) (.list ds)
 |tup {a:3e5} {xs:4e5} {ds:List PyData} (h:km K H a xs) (t:Ic K H xs ds):RC K H (.ref a) (.tuple ds)
inductive Ic(K:0e9)(H:Hp):List V→List PyData→Prop where
 |nil:Ic K H [] []
 |cons {x:V} {d:PyData} {xs:4e5} {ds:List PyData} (h:RC K H x d) (t:Ic K H xs ds):Ic K H (x::xs) (d::ds)
end
end
end L2
namespace L2
open PySem PySem.Spec PyProof.Rows
def PJ(n:Nat)(i:Int):Prop:=i.natAbs<2^n
def PJ.bits{n:Nat}{i:Int}(h:PJ n i):Builtin.Int.intBits i≤n:=by
 unfold Builtin.Int.intBits;by_cases e:i=0
 ·rw[if_pos (by simp [e])];exact zero_le _
 ·rw[if_neg (by simp [e])];have h0:i.natAbs≠0:=by omega
  have:=(log2_lt h0).mpr h;omega
def De(i j:Int):Prop:=Hy i j∨∃m n,PJ m i∧PJ n j∧m+n≤134217728
theorem De.ok{i j:Int}(h:De i j):IntMulOk i j:=by
 rcases h with h| ⟨m,n,h1,h2,h3⟩
 ·exact h.ok
 ·have a:=h1.bits;have b:=h2.bits
  have hc:Builtin.Int.intTooBig (Builtin.Int.intBits i+Builtin.Int.intBits j)=false:=by
   unfold Builtin.Int.intTooBig bitsLine;exact decide_eq_false 0e5
  unfold IntMulOk;rw[hc];simp
section
variable {X:Cx}
def Dg:oY X (binaryOp .Mult) (rI De λi j=> .int (i*j)):=UZ λ_ _ _ _ _ _ _ hc q=>mul_int q hc.ok
end
def gi{tt:TT}(Pm:St→Hp→Prop)(h:∀N:St→Hp→Prop,(∀σ' H',Pm σ' H'→N σ' H')→Q1 tt A B { D with nx:=N } σ H)(hr:∀σ' H',Pm σ' H'→r D σ' H'):VG (Q1 tt A B) r D σ H:=h _ hr
section
variable {X:Cx}{pins:1e4}{σ:St}{H:Hp}{s:Shared}{h':Heap}
def Inv.Dh{t':Nat}{ch:List Addr}(I:1e1)(k:∀b u,b∉ch→s.heap.get? b=some u→h'.get? b=some u)(hf:∀b∈ch,gA X pins H b)(hT:s.heap.objs.size≤T) (new:cf X.prog X.w (upd H T o) h' T o):Inv X pins σ (upd H T o) { s with heap:=h',toks:=t' }:=by
 have hn:=I.aM.fresh hT;have Hu:∀b u,H b=some u→b∉ch:=λb u e z=>by rw[(hf b z).1] at e;cases e
 refine I.step (g':=s.gens) (d':=s.drawn) (ch:=ch) (λb hb=>⟨(hf b hb).2.2.2.1,(hf b hb).2.1,(hf b hb).2.2.2.2.1,(hf b hb).2.2.2.2.2⟩)
  (λb u _ _ hc e _=>k b u hc e) (λb u _ _ hc e _=>⟨u.slots,k b u hc e⟩) (λb u _ e n=>?_) (λb u hc e=>⟨u,k b u hc e⟩)
  (λb xs e=>by rw[ah (af e hn)];exact e) (λb u v e=>by rw[ah (af e hn)];exact e) (λb ps e=>⟨#[],by rw[ah (af e hn),e];simp⟩) (λm hm=>?_) (λb u e=>?_) I.bare
 ·rw[ah (ne_of_lt (lt_of_lt_of_le (Heap.lt_size e) hT))];exact n
 ·obtain⟨u,es,ep,ho,r⟩:=hm;exact⟨u,es,ep,k _ u (λz=>(hf _ z).2.1 rfl) ho,r⟩
 ·by_cases hb:b=T
  ·subst hb;rw[aa] at e;cases e;exact new
  ·rw[ah hb] at e;refine(I.aM b u e).rp (λc v hc q=>k c v ?_ q) (λc q=>by rw[ah (af q hn)];exact q) λc xs q=>by rw[ah (af q hn)];exact q
   rcases hc with z|z
   ·rw[z];exact Hu b u e
   ·exact Hu c _ z
def Inv.Di{t':Nat}{ch:List Addr}(I:1e1)(k:∀b u,b∉ch→s.heap.get? b=some u→h'.get? b=some u)(hf:∀b∈ch,gA X pins H b):Inv X pins σ H { s with heap:=h',toks:=t' }:=by
 have Hu:∀b u,H b=some u→b∉ch:=λb u e z=>by rw[(hf b z).1] at e;cases e
 refine I.step (g':=s.gens) (d':=s.drawn) (ch:=ch) (λb hb=>⟨(hf b hb).2.2.2.1,(hf b hb).2.1,(hf b hb).2.2.2.2.1,(hf b hb).2.2.2.2.2⟩)
  (λb u _ _ hc e _=>k b u hc e) (λb u _ _ hc e _=>⟨u.slots,k b u hc e⟩) (λb u _ e n=>n) (λb u hc e=>⟨u,k b u hc e⟩)
  (λb xs e=>e) (λb u v e=>e) (λb ps e=>⟨#[],by rw[e];simp⟩) (λm hm=>?_) (λb u e=>?_) I.bare
 ·obtain⟨u,es,ep,ho,r⟩:=hm;exact⟨u,es,ep,k _ u (λz=>(hf _ z).2.1 rfl) ho,r⟩
 ·refine(I.aM b u e).rp (λc v hc q=>k c v ?_ q) (λ_ q=>q) λ_ _ q=>q;rcases hc with z|z
  ·rw[z];exact Hu b u e
  ·exact Hu c _ z
end
def neN{m n:Nat}(h:m<n∨n<m):(m:3e5)≠n:=λz=>by
 have:m=n:=z;omega
def xq:bootBuiltins "enumerate" =some (.type "enumerate"):=by decide+kernel
def Ie:bootBuiltins "abs" =some (.builtin "abs"):=by decide+kernel
def Wn(K:0e9)(a:3e5):It:=
 ⟨λi H=>∃xs x,bM K H a xs∧xs[i]? =some x,
  λi H v H'=>∃p x,H p=none∧H'=upd H p (.tup [.int i,x])∧v= .ref p∧∀xs,bM K H a xs→xs[i]? =some x,
  λi H=>∃xs,bM K H a xs∧xs.length≤i⟩
def Fs{P:Program}{w:World}{K:0e9}{elts:List Expr}{x1}{uA:Pos}(l e it:3e5)(hei:e≠it):
  Turn P w K (.Tuple elts x1 uA) (Wn K l) [e,it] e (λi h=>(∃old,IsEnum h e it (i:Nat) old)∧h.IsListIter it l i) where
 mem:=by simp
 obj:=λi h st b hb=>by
  obtain⟨⟨old,he⟩,⟨o1,e1,c1,d1⟩⟩:=st;simp only [mem_cons,not_mem_nil,or_false] at hb;rcases hb with q|q
  ·subst q;exact⟨_,he,λv q=>by cases q⟩
  ·subst q;exact⟨o1,e1,λv q=>by rw[d1] at q;cases q⟩
 keep:=λi h h' st k=>by
  obtain⟨⟨old,he⟩,h1⟩:=st;exact⟨⟨old,k e 2e9 _ he⟩,h1.at λo q=>k it 2e9 o q⟩
 item:=by
  intro X hP hw hK hc i pins s σ H E I hf st hg;subst hP hw hK;obtain⟨xs,x,hq,hx⟩:=hg;obtain⟨⟨old,he⟩,h1⟩:=st;obtain⟨its,rv,p,hz1⟩:=I.list hq;obtain⟨u,hu,ru⟩:=rv.get hx;refine wpAny_pyNext_enum_item he h1 p.isList (x:=u) (by simpa using hu) hei λh' a1 a2 a3 a4 hk=>⟨_,rfl,?_⟩;refine wpAny_letOwnedTupleGo_enum (s:={ s with heap:=h',toks:=s.toks+1 }) a1 λWo b1 b2=>?_;have up:∀c o,c≠e→h'.get? c=some o→Wo.get? c=some o:=λc o n q=>b2.extBut _ _ n q;have ne:∀{c:3e5} {o},s.heap.get? c=some o→s.heap.objs.size≠c:=λq=>ne_of_gt (Heap.lt_size q);have jD:=up _ _ (ne he) a3
  have I1:Inv X pins σ (upd H s.heap.objs.size (.tup [.int i,x])) { s with heap:=Wo,toks:=s.toks+1 }:=by
   refine I.Dh (ch:=[e,it]) (λb o hb q=>?_) hf (le_refl _) ⟨by show 2≤sizeLine;decide,[.int i s.toks,u], .cons 2e4 (.cons ru .nil),⟨_,jD,rfl,_,rfl⟩⟩;simp only [mem_cons,not_mem_nil,or_false,not_or] at hb;exact up _ _ hb.1 (hk b o hb.1 hb.2 q)
  refine⟨.ref s.heap.objs.size,_,I1,rfl,⟨_,x,I.aM.fresh (le_refl _),rfl,rfl,λzs hz=>by rw[I.zg hz hq];exact hx⟩,⟨⟨u,?_⟩,a2.at λo q=>up _ _ (Ne.symm hei) q⟩,λb hb=>?_⟩
  ·have e1:((i+1 :Nat):Int)=(i:Int)+1:=by push_cast;rfl
   rw[e1];exact b1
  ·rw[ah ?_]
   ·exact(hf b hb).1
   ·simp only [mem_cons,not_mem_nil,or_false] at hb;obtain⟨o1,e1,_⟩:=h1;rcases hb with q|q
    ·rw[q];exact Ne.symm (ne he)
    ·rw[q];exact Ne.symm (ne e1)
 done:=by
  intro X hP hw hK hc i pins s σ H E I hf st hg;subst hP hw hK;obtain⟨xs,hq,hl⟩:=hg;obtain⟨⟨old,he⟩,h1⟩:=st;obtain⟨its,rv,p,hz1⟩:=I.list hq;have l1:=rv.length;refine wpAny_pyNext_enum_end (I.ok.hd hc) he h1 p.isList (by simp;omega) λh' hk=>⟨rfl,I.Di (t':=s.toks) (ch:=[e,it]) (λb o hb q=>?_) hf⟩;simp only [mem_cons,not_mem_nil,or_false,not_or] at hb;exact hk b o hb.2 q
 self:=λ_ _ _ _ _ st h=>by
  obtain⟨⟨old,he⟩,_⟩:=st;exact wpAny_pyIter_enum he h
def Wq(K:0e9)(ta:TA):TI:=fun σ H R=>ta σ H λvs H1=>∃a,vs=[.ref a]∧(∃xs,bM K H1 a xs)∧R (Wn K a) H1
def Dj{X:Cx}{elts:List Expr}{x1}{uA:Pos}{a:Expr}{ta:TA}{p pos:Pos}(hg:Gl X "enumerate")(hm:X.mg "enumerate" =none)(ha:PA X [a] ta)(hs:starEach [a] X.env=[(false,eval a X.env)]:=by rfl):
  PI X (.Tuple elts x1 uA) (.Call (.Name "enumerate" p) [a] [] pos) (Wq X.K ta):=by
 intro pins s σ H R I h;refine Call_ (oS I hg hm xq (PyProof.Rows.callWith_type1 (bR (ha pos pins s σ H _ I h) λus s1 ⟨vs,H1,I1,r1,q1⟩=>?_) hs rfl));obtain⟨l,e,⟨xs,hq⟩,q⟩:=q1;subst e;obtain⟨u,rfl,r⟩:=vals1 r1;cases r;obtain⟨its,rv,pl,hz1⟩:=I1.list hq;refine call_enumerate_list pl.isList λh' a1 a2 a3 hk=>wpAny_pyIter_enum (s:={ s1 with heap:=h' }) a1 ?_;refine⟨_,[s1.heap.objs.size+1,s1.heap.objs.size],_,_,H1,rfl,I1.kept (t':=s1.toks) hk,Fs l (s1.heap.objs.size+1) s1.heap.objs.size (neN 0e5),⟨⟨_,a1⟩,a2⟩,λb hb=>?_,q⟩
 have Ft:s1.heap.objs.size≤b:=by
  simp only [mem_cons,not_mem_nil,or_false] at hb;rcases hb with e|e<;>rw[e]<;>first|exact le_refl _|exact Nat.le_add_right _ _
 exact I1.wZ Ft (I1.aM.fresh Ft)
def Ig(ns:List Int)(lo hi:Option Int):∃ms:List Int,uF (ns.map V.int) lo hi=ms.map V.int∧ms.length≤ns.length:=by
 have h:∀x∈uF (ns.map V.int) lo hi,∃i,x=V.int i:=λx hx=>by
  have:x∈ns.map V.int:=List.mem_of_mem_drop (List.mem_of_mem_take hx);obtain⟨i,_,e⟩:=mem_map.mp this;exact⟨i,e.symm⟩
 have hl:=p6 (ns.map V.int) lo hi;rw[length_map] at hl;generalize uF (ns.map V.int) lo hi=l at h hl;refine⟨l.map λv=>match v with| .int i=>i|_=>0,?_,by rw[length_map];exact hl⟩;rw[map_map];clear hl
 induction l with
 |nil=>rfl
 |cons x r ih=>
  obtain⟨i,rfl⟩:=h x 1e6;rw[map_cons,←ih λy hy=>h y (mem_cons_of_mem _ hy)];rfl
end L2
namespace L2
open PySem PySem.Spec PyProof.Rows
section
variable {K:0e9}{g:TG}{tt:TT}{te:TE}{tb:TS}{D:Ends}
def Dk{J:It}{Q:Hp→Prop}{σ:St}{H:Hp}(n:Nat)(H0:Hp)(S:St→Prop)(Pv:Nat→List V→Prop)(RD:∀i H',i<n→au H0 H'→J.go i H')(rY:∀H',au H0 H'→J.stop n H')(BF:H0 L=none) (hσ:S σ) (h0:au H0 H) (hL:H L=some (.lst [])) (p0:Pv 0 []) (hz:n≤sizeLine) (hl:∀i ys,Pv i ys→ys.length≤i)(turn:∀i σ H' ys,i<n→S σ→au H0 H'→H' L=some (.lst ys)→Pv i ys→∀(N:St→V→Hp→Prop) (M:St→Hp→Prop),(∀σ3 y H5,S σ3→au H0 H5→H5 L=some (.lst ys)→Pv (i+1) (ys++[y])→N σ3 y H5)→
   ∀x H2,J.oW i H' x H2→g x σ H2 fun σ3 H3=>tt σ3 H3 λb H4=>if b=true then te σ3 H4 λy H5=>N σ3 y H5 else M σ3 H4)(fin:∀H' ys,au H0 H'→H' L=some (.lst ys)→Pv n ys→Q H'):
  ∃W:Nat→Nat→St→Hp→Prop,(∃m,W 0 m σ H)∧∀i m σ H,W i m σ H→(J.stop i H∧Q H)∨(J.go i H∧∀x H2,J.oW i H x H2→g x σ H2 fun σ3 H3=>tt σ3 H3 λb H4=>if b=true
   then te σ3 H4 λy H5=>∃ys,H5 L=some (.lst ys)∧ys.length<sizeLine∧∃m',m'<m∧W (i+1) m' σ3 (upd H5 L (.lst (ys++[y])))
   else∃m',m'<m∧W (i+1) m' σ3 H4):=by
 refine⟨λi m σ H=>m+i=n∧S σ∧au H0 H∧∃ys,H L=some (.lst ys)∧Pv i ys,⟨n,rfl,hσ,h0,[],hL,p0⟩,?_⟩;rintro i m σ H ⟨hm,hs,fI,ys,Fu,hp⟩;by_cases hi:i<n
 ·refine .inr ⟨RD i H hi fI,λx H2 hy=>turn i σ H ys hi hs fI Fu hp _ _ (fun σ3 y H5 k1 k2 k3 k4=>?_) x H2 hy⟩;refine⟨ys,k3,by have:=hl i ys hp;omega,m - 1,by omega,by omega,k1,λb o e=>?_,ys++[y],aa,k4⟩;rw[ah (af e BF)];exact k2 b o e
 ·have e:i=n:=by omega
  subst e;exact .inl ⟨rY H fI,fin H ys fI Fu hp⟩
def Ih{lo:Int}{n:Nat}{Q:Hp→Prop}{σ:St}{H:Hp}(H0:Hp)(S:St→Prop)(Pv:Nat→List V→Prop)(BF:H0 L=none) (hσ:S σ) (h0:au H0 H) (hL:H L=some (.lst [])) (p0:Pv 0 []) (hz:n≤sizeLine) (hl:∀i ys,Pv i ys→ys.length≤i)(turn:∀i σ H' ys,i<n→S σ→au H0 H'→H' L=some (.lst ys)→Pv i ys→∀(N:St→V→Hp→Prop) (M:St→Hp→Prop),(∀σ3 y H5,S σ3→au H0 H5→H5 L=some (.lst ys)→Pv (i+1) (ys++[y])→N σ3 y H5)→
   g (.int (lo+i)) σ H' fun σ3 H3=>tt σ3 H3 λb H4=>if b=true then te σ3 H4 λy H5=>N σ3 y H5 else M σ3 H4)(fin:∀H' ys,au H0 H'→H' L=some (.lst ys)→Pv n ys→Q H'):
  ∃W:Nat→Nat→St→Hp→Prop,(∃m,W 0 m σ H)∧∀i m σ H,W i m σ H→((Hd lo n).stop i H∧Q H)∨((Hd lo n).go i H∧∀x H2,(Hd lo n).oW i H x H2→g x σ H2 fun σ3 H3=>tt σ3 H3 λb H4=>if b=true
   then te σ3 H4 λy H5=>∃ys,H5 L=some (.lst ys)∧ys.length<sizeLine∧∃m',m'<m∧W (i+1) m' σ3 (upd H5 L (.lst (ys++[y])))
   else∃m',m'<m∧W (i+1) m' σ3 H4):=
 Dk n H0 S Pv (λi H' hi e=>hi) (λH' e=>le_refl _) BF hσ h0 hL p0 hz hl
  (λi σ H' ys hi hs e k p N M hN x H2 hy=>by
   obtain⟨rfl,rfl⟩:=hy
   exact turn i σ H2 ys hi hs e k p N M hN) fin
def zC{σ:St}{H:Hp}(Pv:Nat→St→Hp→Prop)(h0:Pv 0 σ H)(hl:∀i σ H,Pv i σ H→bM K H a xs)(hs:∀i x p σ H,xs[i]? =some x→H p=none→Pv i σ H→g (.ref p) σ (upd H p (.tup [.int i,x])) fun σ2 H2=>tb { D with nx:=Pv (i+1),ct:=Pv (i+1),bk:=D.nx } σ2 H2) (hd:∀σ H,Pv xs.length σ H→D.nx σ H):
  ∃W:Nat→Nat→St→Hp→Prop,(∃m,W 0 m σ H)∧∀i m σ H,W i m σ H→
   ((Wn K a).stop i H∧D.nx σ H)∨((Wn K a).go i H∧∃N:St→Hp→Prop,(∀σ' H',N σ' H'→∃m',m'<m∧W (i+1) m' σ' H')∧∀x H',(Wn K a).oW i H x H'→g x σ H' fun σ2 H2=>tb { D with nx:=N,ct:=N,bk:=D.nx } σ2 H2):=by
 refine⟨λi m σ H=>m+i=xs.length∧Pv i σ H,⟨xs.length,rfl,h0⟩,?_⟩;rintro i m σ H ⟨hm,p⟩;have q1:=hl i σ H p;by_cases oH:i<xs.length
 ·refine .inr ⟨⟨xs,xs[i],q1,getElem?_eq_getElem _⟩,Pv (i+1),fun σ' H' p'=>⟨m - 1,by omega,by omega,p'⟩,λv H' hy=>?_⟩;obtain⟨t,x,ht,rfl,rfl,hx⟩:=hy;exact hs i x t σ H (hx xs q1) ht p
 ·have e:i=xs.length:=by omega
  subst e;exact .inl ⟨⟨xs,q1,by omega⟩,hd σ H p⟩
end
end L2
namespace L2
open PySem PySem.Spec PyProof.Rows
section
variable {X:Cx}{pins:1e4}{σ:St}{H:Hp}{s:Shared}{N:3e8}{fr:List (Option Nat)}{scope:Scope}{fp:List Addr}
end
section
variable {X:Cx}{elt tg iter:Expr}{ifs:List Expr}{scope:Scope}{pos Fq py:Pos}{N:3e8}{fr:List (Option Nat)}{wi:TI}{g:TG}{tt:TT}{te:TE}
end
section
variable {X:Cx}{tg:Expr}(K:0e9)
def zD(hK:X.K=K):U0 X (V8 K):=by subst hK;exact bP
end
end L2
namespace L2
open PySem PySem.Spec PyProof.Rows
def PK(L:3e5)(H H':Hp):Prop:=∀b o,H b=some o→b≠L→H' b=some o
theorem PK.upd:PK L H (upd H L o):=λb u h n=>by rw[ah n];exact h
section
variable {K:0e9}{g:TG}{tt:TT}{te:TE}
def zE{J:It}{Q:Hp→Prop}{σ:St}{H:Hp}(n:Nat)(H0:Hp)(S:St→Prop)(Pv:Nat→List V→Hp→Prop)(RD:∀i H',i<n→au H0 H'→J.go i H')(rY:∀H',au H0 H'→J.stop n H')(BG:∀i ys H H',PK L H H'→Pv i ys H→Pv i ys H')(BF:H0 L=none) (hσ:S σ) (h0:au H0 H) (hL:H L=some (.lst [])) (p0:Pv 0 [] H) (hz:n≤sizeLine) (hl:∀i ys H,Pv i ys H→ys.length≤i)(turn:∀i σ H' ys,i<n→S σ→au H0 H'→H' L=some (.lst ys)→Pv i ys H'→∀(N:St→V→Hp→Prop) (M:St→Hp→Prop),(∀σ3 y H5,S σ3→au H0 H5→H5 L=some (.lst ys)→Pv (i+1) (ys++[y]) H5→N σ3 y H5)→
   ∀x H2,J.oW i H' x H2→g x σ H2 fun σ3 H3=>tt σ3 H3 λb H4=>if b=true then te σ3 H4 λy H5=>N σ3 y H5 else M σ3 H4)(fin:∀H' ys,au H0 H'→H' L=some (.lst ys)→Pv n ys H'→Q H'):
  ∃W:Nat→Nat→St→Hp→Prop,(∃m,W 0 m σ H)∧∀i m σ H,W i m σ H→(J.stop i H∧Q H)∨(J.go i H∧∀x H2,J.oW i H x H2→g x σ H2 fun σ3 H3=>tt σ3 H3 λb H4=>if b=true
   then te σ3 H4 λy H5=>∃ys,H5 L=some (.lst ys)∧ys.length<sizeLine∧∃m',m'<m∧W (i+1) m' σ3 (upd H5 L (.lst (ys++[y])))
   else∃m',m'<m∧W (i+1) m' σ3 H4):=by
 refine⟨λi m σ H=>m+i=n∧S σ∧au H0 H∧∃ys,H L=some (.lst ys)∧Pv i ys H,⟨n,rfl,hσ,h0,[],hL,p0⟩,?_⟩;rintro i m σ H ⟨hm,hs,fI,ys,Fu,hp⟩;by_cases hi:i<n
 ·refine .inr ⟨RD i H hi fI,λx H2 hy=>turn i σ H ys hi hs fI Fu hp _ _ (fun σ3 y H5 k1 k2 k3 k4=>?_) x H2 hy⟩;refine⟨ys,k3,by have:=hl i ys H hp;omega,m - 1,by omega,by omega,k1,λb o e=>?_,ys++[y],aa,BG _ _ _ _ PK.upd k4⟩;rw[ah (af e BF)];exact k2 b o e
 ·have e:i=n:=by omega
  subst e;exact .inl ⟨rY H fI,fin H ys fI Fu hp⟩
def pj{Q:Hp→Prop}{σ:St}{H:Hp}(H0:Hp)(S:St→Prop)(Pv:Nat→List V→Hp→Prop)(ha:bM K H0 a xs)(BG:∀i ys H H',PK L H H'→Pv i ys H→Pv i ys H')(BF:H0 L=none) (hσ:S σ) (h0:au H0 H) (hL:H L=some (.lst [])) (p0:Pv 0 [] H) (hz:xs.length≤sizeLine) (hl:∀i ys H,Pv i ys H→ys.length≤i)(turn:∀i x σ H' ys,xs[i]? =some x→S σ→au H0 H'→H' L=some (.lst ys)→Pv i ys H'→∀(N:St→V→Hp→Prop) (M:St→Hp→Prop),(∀σ3 y H5,S σ3→au H0 H5→H5 L=some (.lst ys)→Pv (i+1) (ys++[y]) H5→N σ3 y H5)→
   g x σ H' fun σ3 H3=>tt σ3 H3 λb H4=>if b=true then te σ3 H4 λy H5=>N σ3 y H5 else M σ3 H4)(fin:∀H' ys,au H0 H'→H' L=some (.lst ys)→Pv xs.length ys H'→Q H'):
  ∃W:Nat→Nat→St→Hp→Prop,(∃m,W 0 m σ H)∧∀i m σ H,W i m σ H→((CZ K a).stop i H∧Q H)∨((CZ K a).go i H∧∀x H2,(CZ K a).oW i H x H2→g x σ H2 fun σ3 H3=>tt σ3 H3 λb H4=>if b=true
   then te σ3 H4 λy H5=>∃ys,H5 L=some (.lst ys)∧ys.length<sizeLine∧∃m',m'<m∧W (i+1) m' σ3 (upd H5 L (.lst (ys++[y])))
   else∃m',m'<m∧W (i+1) m' σ3 H4):=
 zE xs.length H0 S Pv (λi H' hi e=>⟨xs,xs[i],e.seq ha,getElem?_eq_getElem hi⟩) (λH' e=>⟨xs,e.seq ha,le_refl _⟩) BG BF hσ h0 hL p0 hz hl
  (λi σ H' ys _ hs e k p N M hN x H2 hy=>by
   obtain⟨rfl,hx⟩:=hy
   exact turn i x σ H2 ys (hx xs (e.seq ha)) hs e k p N M hN) fin
def Fv{lo:Int}{n:Nat}{Q:Hp→Prop}{σ:St}{H:Hp}(H0:Hp)(S:St→Prop)(Pv:Nat→List V→Hp→Prop)(BG:∀i ys H H',PK L H H'→Pv i ys H→Pv i ys H')(BF:H0 L=none) (hσ:S σ) (h0:au H0 H) (hL:H L=some (.lst [])) (p0:Pv 0 [] H) (hz:n≤sizeLine) (hl:∀i ys H,Pv i ys H→ys.length≤i)(turn:∀i σ H' ys,i<n→S σ→au H0 H'→H' L=some (.lst ys)→Pv i ys H'→∀(N:St→V→Hp→Prop) (M:St→Hp→Prop),(∀σ3 y H5,S σ3→au H0 H5→H5 L=some (.lst ys)→Pv (i+1) (ys++[y]) H5→N σ3 y H5)→
   g (.int (lo+i)) σ H' fun σ3 H3=>tt σ3 H3 λb H4=>if b=true then te σ3 H4 λy H5=>N σ3 y H5 else M σ3 H4)(fin:∀H' ys,au H0 H'→H' L=some (.lst ys)→Pv n ys H'→Q H'):
  ∃W:Nat→Nat→St→Hp→Prop,(∃m,W 0 m σ H)∧∀i m σ H,W i m σ H→((Hd lo n).stop i H∧Q H)∨((Hd lo n).go i H∧∀x H2,(Hd lo n).oW i H x H2→g x σ H2 fun σ3 H3=>tt σ3 H3 λb H4=>if b=true
   then te σ3 H4 λy H5=>∃ys,H5 L=some (.lst ys)∧ys.length<sizeLine∧∃m',m'<m∧W (i+1) m' σ3 (upd H5 L (.lst (ys++[y])))
   else∃m',m'<m∧W (i+1) m' σ3 H4):=
 zE n H0 S Pv (λi H' hi e=>hi) (λH' e=>le_refl _) BG BF hσ h0 hL p0 hz hl
  (λi σ H' ys hi hs e k p N M hN x H2 hy=>by
   obtain⟨rfl,rfl⟩:=hy
   exact turn i σ H2 ys hi hs e k p N M hN) fin
end
def Fw{α:Type}{l:List α}{i:Nat}{z:α}(h:l[i]? =some z):l.take (i+1)=l.take i++[z]:=by
 rw[take_add_one,h];rfl
section
variable {X:Cx}(K:0e9)
def uO(hK:X.K=K):fB X (.builtin "len") (λxs H Q=>∃p ys,xs=[.ref p]∧(bM K H p ys∨km K H p ys)∧Q (.int ys.length) H):=by subst hK;exact fF
end
end L2
namespace L2
open PySem PySem.Spec PyProof.Rows
section
variable {K:0e9}{g:TG}{tt:TT}{te:TE}
end
end L2
namespace L2
open PySem PySem.Spec PyProof.Rows
def pk:bootBuiltins "sorted" =some (.builtin "sorted"):=by decide+kernel
section
variable {X:Cx}
end
end L2
namespace L2
open PySem PySem.Spec PyProof.Rows
section
variable {X:Cx}
end
end L2
namespace L2
open PySem PySem.Spec PyProof.Rows PySem.W
section
variable {O:KeyOrd}{k:Nat→O.α}{n:Nat}{I:Shared→Prop}{cmp:Nat→Nat→(Bool→Shared→Prop)→Shared→Prop}
end
end L2
namespace PySem.SeqAt
open AutoSeq1 (wpAny_loadPart')
open MeetsSeq MeetsSeq2 MeetsSeq3
noncomputable def MS(e c:Nat→Bool):List Nat→Bool
 | []=>false
 |j::r=>if e j=true then MS e c r else c j
end PySem.SeqAt
namespace L2
open PySem PySem.Spec PyProof.Rows PySem.SeqAt PySem.W
@[reducible] def colOrd:KeyOrd where
  α:=List Int
  blt a b:=decide (a<b)
  irrefl a:=by simp
  trans a b c h1 h2:=by simp only [decide_eq_true_eq] at*;exact List.lt_trans h1 h2
  negTrans a b c h:=by
   simp only [decide_eq_true_eq] at*;by_cases RE:a<b
   ·exact .inl RE
   ·exact .inr (List.lt_of_le_of_lt (not_lt.mp RE) h)
  total a b h1 h2:=by simp only [decide_eq_false_iff_not] at*;exact List.le_antisymm (not_lt.mp h2) (not_lt.mp h1)
theorem MT:∀(xs ys:List Int) (d:Nat) (f g:Nat→Int),xs.length=ys.length→(∀j,j<xs.length→f (d+j)=xs.getD j 0)→(∀j,j<xs.length→g (d+j)=ys.getD j 0)→
  MS (λj=>f j==g j) (λj=>decide (f j<g j)) (List.range' d xs.length)=decide (xs<ys)
 | [],[],d,f,g,_,_,_=>by simp [MS]
 |x::xs,y::ys,d,f,g,hl,hf,hg=>by
  have h0:=hf 0 2e9;have g0:=hg 0 2e9;simp at h0 g0
  have ih:=MT xs ys (d+1) f g (by simpa using hl) (λj hj=>by
   have:=hf (j+1) (by simp;omega)
   rw[show d+1+j=d+(j+1) by omega,this];simp) (λj hj=>by
   have:=hg (j+1) (by simp;omega)
   rw[show d+1+j=d+(j+1) by omega,this];simp)
  rw[length_cons,List.range'_succ,MS,ih,h0,g0];by_cases e:x=y
  ·subst e;rw[if_pos 2e9];simp [cons_lt_cons_iff]
  ·rw[if_neg (by simpa using e)];simp [cons_lt_cons_iff,e]
section
variable {prog:Program}{w:World}{A:Around}{E:0e3}{s:Shared}
end
section
variable {X:Cx}
end
end L2
namespace L2
open PySem PySem.Spec PyProof.Rows
def RF:bootBuiltins "min" =some (.builtin "min"):=by decide+kernel
section
variable {X:Cx}
end
end L2
namespace L2
open PySem PySem.Spec PyProof.Rows
section
variable {K:0e9}{g:TG}{tt:TT}{te:TE}
def Ii{J:It}{Q:Hp→Prop}{σ:St}{H:Hp}(n:Nat)(H0:Hp)(S:St→Prop)(Pv:Nat→List V→Prop)(RD:∀i H',i<n→au H0 H'→J.go i H')(rY:∀H',au H0 H'→J.stop n H')(BF:H0 L=none) (hσ:S σ) (h0:au H0 H) (hL:H L=some (.lst [])) (p0:Pv 0 []) (hz:n≤sizeLine) (hl:∀i ys,Pv i ys→ys.length≤i)(turn:∀i σ H' ys,i<n→S σ→au H0 H'→H' L=some (.lst ys)→Pv i ys→∀(N:St→V→Hp→Prop) (M:St→Hp→Prop),(∀σ3 y H5,S σ3→au H0 H5→H5 L=some (.lst ys)→Pv (i+1) (ys++[y])→N σ3 y H5)→(∀σ3 H4,S σ3→au H0 H4→H4 L=some (.lst ys)→Pv (i+1) ys→M σ3 H4)→
   ∀x H2,J.oW i H' x H2→g x σ H2 fun σ3 H3=>tt σ3 H3 λb H4=>if b=true then te σ3 H4 λy H5=>N σ3 y H5 else M σ3 H4)(fin:∀H' ys,au H0 H'→H' L=some (.lst ys)→Pv n ys→Q H'):
  ∃W:Nat→Nat→St→Hp→Prop,(∃m,W 0 m σ H)∧∀i m σ H,W i m σ H→(J.stop i H∧Q H)∨(J.go i H∧∀x H2,J.oW i H x H2→g x σ H2 fun σ3 H3=>tt σ3 H3 λb H4=>if b=true
   then te σ3 H4 λy H5=>∃ys,H5 L=some (.lst ys)∧ys.length<sizeLine∧∃m',m'<m∧W (i+1) m' σ3 (upd H5 L (.lst (ys++[y])))
   else∃m',m'<m∧W (i+1) m' σ3 H4):=by
 refine⟨λi m σ H=>m+i=n∧S σ∧au H0 H∧∃ys,H L=some (.lst ys)∧Pv i ys,⟨n,rfl,hσ,h0,[],hL,p0⟩,?_⟩;rintro i m σ H ⟨hm,hs,fI,ys,Fu,hp⟩;by_cases hi:i<n
 ·refine .inr ⟨RD i H hi fI,λx H2 hy=>turn i σ H ys hi hs fI Fu hp _ _ (fun σ3 y H5 k1 k2 k3 k4=>?_) (fun σ3 H4 k1 k2 k3 k4=>?_) x H2 hy⟩
  ·refine⟨ys,k3,by have:=hl i ys hp;omega,m - 1,by omega,by omega,k1,λb o e=>?_,ys++[y],aa,k4⟩;rw[ah (af e BF)];exact k2 b o e
  ·exact⟨m - 1,by omega,by omega,k1,k2,ys,k3,k4⟩
 ·have e:i=n:=by omega
  subst e;exact .inl ⟨rY H fI,fin H ys fI Fu hp⟩
def vB{Q:Hp→Prop}{σ:St}{H:Hp}(H0:Hp)(S:St→Prop)(Pv:Nat→List V→Prop)(ha:bM K H0 a xs)(BF:H0 L=none) (hσ:S σ) (h0:au H0 H) (hL:H L=some (.lst [])) (p0:Pv 0 []) (hz:xs.length≤sizeLine) (hl:∀i ys,Pv i ys→ys.length≤i)(turn:∀i x σ H' ys,xs[i]? =some x→S σ→au H0 H'→H' L=some (.lst ys)→Pv i ys→∀(N:St→V→Hp→Prop) (M:St→Hp→Prop),(∀σ3 y H5,S σ3→au H0 H5→H5 L=some (.lst ys)→Pv (i+1) (ys++[y])→N σ3 y H5)→(∀σ3 H4,S σ3→au H0 H4→H4 L=some (.lst ys)→Pv (i+1) ys→M σ3 H4)→
   g x σ H' fun σ3 H3=>tt σ3 H3 λb H4=>if b=true then te σ3 H4 λy H5=>N σ3 y H5 else M σ3 H4)(fin:∀H' ys,au H0 H'→H' L=some (.lst ys)→Pv xs.length ys→Q H'):
  ∃W:Nat→Nat→St→Hp→Prop,(∃m,W 0 m σ H)∧∀i m σ H,W i m σ H→((CZ K a).stop i H∧Q H)∨((CZ K a).go i H∧∀x H2,(CZ K a).oW i H x H2→g x σ H2 fun σ3 H3=>tt σ3 H3 λb H4=>if b=true
   then te σ3 H4 λy H5=>∃ys,H5 L=some (.lst ys)∧ys.length<sizeLine∧∃m',m'<m∧W (i+1) m' σ3 (upd H5 L (.lst (ys++[y])))
   else∃m',m'<m∧W (i+1) m' σ3 H4):=
 Ii xs.length H0 S Pv (λi H' hi e=>⟨xs,xs[i],e.seq ha,getElem?_eq_getElem hi⟩) (λH' e=>⟨xs,e.seq ha,le_refl _⟩) BF hσ h0 hL p0 hz hl
  (λi σ H' ys _ hs e k p N M hN hM x H2 hy=>by
   obtain⟨rfl,hx⟩:=hy
   exact turn i x σ H2 ys (hx xs (e.seq ha)) hs e k p N M hN hM) fin
end
section
variable {X:Cx}
end
end L2
namespace L2
open PySem PySem.Spec PyProof.Rows
section
variable {K:0e9}{g:TG}{tt:TT}{te:TE}
end
section
variable {X:Cx}
end
def Ij(xs:4e5):uF xs none (some (-1))=xs.dropLast:=by
 unfold uF;have:=HT.MB (-1) xs.length xs.length;rw[if_pos 0e4] at this;have e:HT.yS xs.length xs.length (some (-1))=xs.length - 1:=by omega
 rw[HT.HL,e,drop_zero,Nat.sub_zero,List.dropLast_eq_take]
end L2
namespace PySem.W
open PySem PySem.Calls PyProof.Rows PyProof.V PySem.Spec
section
variable {prog:Program}{w:World}{A:Around}{E:0e3}{s:Shared}{T:String}{r d:3e5}{n:Nat}{P:Nat→Value→Prop}{OK:Heap→Prop}
def rZ{G:List Value→Shared→Prop}(S:KdlSrc prog w T r d n P OK)(hd:A.handled=none)(ok:OK s.heap)(small:n≤sizeLine)
  (q:∀(g:Heap) (k:Nat) (xs:Array Value),(∀b o,s.heap.get? b=some o→g.get? b=some o)→s.heap.objs.size<g.objs.size→ItemsOf P xs n→G xs.toList { s with heap:=g,toks:=k }):
  wpAny 2e5 A (collect (.ref r)) G E s:=by
 obtain⟨lr,ld⟩:=S.there _ ok;unfold collect;refine wpAny_bind (wpAny_runValue (codeAny_builtin entry_proto_collect' ?_));rw[Around.under_plainId PySem.F.plain_proto_collect _];show wpAny _ A.in1 (newList [] >>= λy=>again (.builtin "list.__iadd__" ⟨[y, .ref r],[]⟩)) _ _ s;refine wpAny_bind (wpAny_newObj_type (wpAny_pure ⟨plainId_quiet PySem.F.plain_list_iadd _,codeAny_builtin entry_list_iadd' ?_⟩));rw[Around.under_plainId PySem.F.plain_list_iadd _];show wpAny _ A.in1 (Builtin.List.listExtendWith (.ref s.heap.objs.size) (.ref r) (.ref s.heap.objs.size)) _ _ _;have told:=kdl_extend (A:=A) (s:={ s with heap:=s.heap.push { cls:= .type "list",data:= .seq ([]:List Value).toArray } })
  (R:=λz s1=>∃(g:Heap) (k:Nat) (xs:Array Value) (c:Nat),z= .ok (.ret (.ref s.heap.objs.size))∧s1={ s with heap:=g,toks:=k }∧(∀b o,s.heap.get? b=some o→g.get? b=some o)∧
   g.get? s.heap.objs.size=some { cls:= .type "list",dict:=none,data:= .seq xs c,slots:=#[] }∧ItemsOf P xs n) S hd (S.keep _ _ ok λb _ o e=>Heap.get?_push_of_some _ e) s.heap.objs.size (ne_of_gt lr) (ne_of_gt ld)
  (.ref s.heap.objs.size) 0 (Heap.get?_push_size _ rfl) (λg k xs c kp at' its=>⟨g,k,xs,c,rfl,rfl,λb o e=>kp b o (ne_of_lt (Heap.lt_size e)) (Heap.get?_push_of_some _ e),at',its⟩) small
 refine wpAny_mono told (λz s1 y=>?_) λz s1 y=>?_
 ·cases z with
  |done f=>obtain⟨g,k,xs,c,e,rfl,kp,at',its⟩:=y;cases e;exact wpAny_bind (wpAny_load at' (wpAny_pure (q g k xs kp (Heap.lt_size at') its)))
  |again c0=>
   refine⟨y.1,codeAny_mono y.2 λz1 s2 y2=>?_⟩;obtain⟨g,k,xs,c,rfl,rfl,kp,at',its⟩:=y2;exact wpAny_bind (wpAny_load at' (wpAny_pure (q g k xs kp (Heap.lt_size at') its)))
 ·obtain⟨_,_,_,_,e,_⟩:=y;cases e
def BH{Q:0e3}(S:KdlSrc prog w T r d n P OK)(hd:A.handled=none)(ok:OK s.heap)(hn:n<64)(hs:∀xs:Array Value,ItemsOf P xs n→StrsAre xs.toList ss)(q:∀(g:Heap) (k:Nat) (a:3e5) (out:Array Value) (Ba:3e8) (e:Nat),(∀b o,s.heap.get? b=some o→g.get? b=some o)→s.heap.objs.size≤a→g.get? a=some (seqObj "list" out e)→StrsAre out.toList Ba→Ba.Perm ss→Q (.ref a) { s with heap:=g,toks:=k }):
  wpAny 2e5 A (call (.builtin "sorted") [.ref r]) Q E s:=by
 refine Calls.call_function_entry kind_sorted plain_sorted entry_sorted (args_sorted1 _) ?_;unfold Builtin.«sorted»;refine wpAny_bind (m:=checkCount "sorted" 1 1 _) (wpAny_pure ?_);have big:(64 :Nat)≤sizeLine:=by decide
 refine wpAny_bind (rZ (A:=A.in1) S hd ok 0e5 λg k xs kp lt its=>?_);have hS:=hs xs its;have hl:xs.toList.length=n:=by rw[Array.length_toList];exact its.1
 refine wpAny_bind (wpAny_newList ?_ (by rw[hl];omega));have LZ:(g.push (seqObj "list" xs.toList.toArray 0)).get? g.objs.size=some (seqObj "list" xs.toList.toArray 0):=Heap.get?_push_size _ rfl;refine wpAny_bind (wpAny_holding (wpAny_call_entry slot_list_sort ⟨_,LZ,rfl⟩ entry_list_sort (list_sort_treeK strKind_oneLt LZ hS.keysOf (λv₁ v₂ rest e=>keyKind_strs (by rw[←e];exact hS)) 0e5 λA8 a1 a2=>⟨_,rfl,?_⟩) (args_list_sort _)));obtain⟨Ba,h1,h2,h3⟩:=sorted_out_str hS a1 a2;obtain⟨e,he⟩:=sortedHeap_at (out:=(arrOf A8).map (·.2)) LZ;refine wpAny_pure ⟨_,rfl,q _ k g.objs.size _ Ba e (λb o z=>?_) 0e5 he h1 h2⟩;have hb:=kp b o z;have oH:=Heap.lt_size hb;rw[sortedHeap_old (ne_of_lt oH) (by rw[size_push'];exact Nat.lt_succ_of_lt oH),Heap.get?_push_ne _ _ _ (ne_of_lt oH)];exact hb
end
end PySem.W
namespace L2
open PySem PySem.Spec PyProof.Rows PySem.W
section
variable {X:Cx}
def r8:∀{us:4e1} {ss:3e8},StrsAre us ss→Vals (ss.map V.str) us:=by
 intro us ss h
 induction h with
 |nil=>exact .nil
 |cons=>exact .cons 2e4 (by assumption)
theorem jG:∀{us:4e1} {ks:3e8},us.length=ks.length→(∀(j:Nat) (k:Str) (u:Value),ks[j]? =some k→us[j]? =some u→(bz P w).is (Sum.inr k) u=true)→StrsAre us ks
 | [],[],_,_=> .nil
 | [],_::_,h,_=>by simp at h
 |_::_,[],h,_=>by simp at h
 |u::us,k::ks,h,q=>by
  have hu:=q 0 k u rfl rfl;rw[ro] at hu;rcases b9 hu with ⟨i,t,e,_⟩ | ⟨x,t,e,rfl⟩
  ·cases e
  ·cases e;exact .cons _ _ (jG (by simpa using h) λj k' u' h1 h2=>q (j+1) k' u' (by simpa using h1) (by simpa using h2))
def xr(hc:X.calm=true):fB X (.builtin "sorted") (λxs H Q=>∃p kvs,∃ks:List Str,xs=[.ref p]∧Rd H p 3e0∧kvs.map 1e8=ks.map Sum.inr∧ks.length<64∧∀(l:3e5) (ms:3e8),ms.Perm ks→H l=none→Q (.ref l) (upd H l (.lst (ms.map V.str)))):=by
 intro pins s σ H xs us Q I r h;obtain⟨p,kvs,ks,rfl,hk,oI,h64,q⟩:=h;obtain⟨u,rfl,ru⟩:=vals1 r;cases ru;obtain⟨z,lo,vs,rel,dd⟩:=iN I.aM hk;obtain⟨ep,da⟩:=dd.dictAt
 have hlen:vs.length=ks.length:=by
  have:=congrArg List.length oI;rw[length_map,length_map] at this;rw[←rel.length];exact this
 have key:∀(j:Nat) (k:Key) (x:Value),vs[j]? =some (k,x)→(ks[j]?).map Sum.inr=some k:=λj k x e=>by
  have h1:(kvs.map 1e8)[j]? =some k:=by rw[rel.keys,getElem?_map,e];rfl
  rw[oI,getElem?_map] at h1;exact h1
 refine BH (ss:=ks) (kdl_dict (knd:=bz X.prog X.w) (kvs:=vs) (ep:=ep) lo) (I.ok.hd hc) da 0e5 (λar its=>?_) λg k a out Ba e kp le hg h1 h2=>?_
 ·refine jG (P:=X.prog) (w:=X.w) (by rw[Array.length_toList,its.1,hlen]) λj k u h1 h2=>?_;obtain⟨k',x,h3,h4⟩:=its.2 j u (by simpa using h2);have h5:=key j k' x h3;rw[h1] at h5;cases h5;exact h4
 ·refine⟨.ref a,_,I.laid (t':=k) (o:= .lst (Ba.map V.str)) kp le ⟨?_,out.toList,e,r8 h1,?_⟩,rfl,q _ Ba h2 (I.aM.fresh le)⟩
  ·rw[length_map,h2.length_eq];have big:(64 :Nat)≤sizeLine:=by decide
   omega
  ·rw[hg]
end
end L2
namespace L2
open PySem PySem.Spec PyProof.Rows
section
variable {X:Cx}
end
end L2
namespace L2
open PySem PySem.Spec PyProof.Rows
section
variable {X:Cx}
def gY:oY X (compareOp .LtE) (λx y H Q=>∃i j,x= .str i∧y= .str j∧Q (.bl (!decide (j.cps.toList<i.cps.toList))) H):=by
 intro pins s σ H x y v u Q I rx ry h;obtain⟨i,j,rfl,rfl,q⟩:=h;obtain⟨t,rfl⟩:=(show∃t,v=Value.str i t from rx);obtain⟨t',rfl⟩:=(show∃t,u=Value.str j t from ry);exact PySem.P.le_str ⟨.bl _,H,I,rfl,q⟩
def Fx:fB X (.type "int") (λxs H Q=>∃x n,xs=[.str x]∧PySem.intText? x=some n∧x.length≤640∧Q (.int n) H):=by
 intro pins s σ H xs us Q I r h;obtain⟨x,n,rfl,hn,hl,q⟩:=h;obtain⟨u,rfl,ru⟩:=vals1 r;obtain⟨t,rfl⟩:=(show∃t,u=Value.str x t from ru);exact PySem.W.KIN.call_text hn hl ⟨.int n,H,I.tok _,2e4,q⟩
def rSlS:V→Option Int→Option Int→Hp→VK→Prop:=λx lo hi H Q=>∃y,x= .str y∧y.length≤sizeLine∧Q (.str (Txt.slice y lo hi)) H
def xt:SlR X rSlS:=by
 intro pins s σ H x v vl vu lo hi sl Q I rx hs pl pu h;obtain⟨y,rfl,hz,q⟩:=h;obtain⟨t,rfl⟩:=(show∃t,v=Value.str y t from rx);refine⟨"str",_,F.slot_str_getitem.lookup,typeIs_str _ _ _,?_⟩
 cases pl with
 |none=>cases pu with
  |none=>exact wpAny_getItem_str_slice (l:=none) (u:=none) (st:=none) hs rfl (post_val_or_str ⟨le_trans (Txt.slice_le y _ _) hz,λt' k=>⟨.str _,H,I.tok k,⟨t',rfl⟩,q⟩⟩)
  |int j uj=>exact wpAny_getItem_str_slice (l:=none) (u:=some (j,uj)) (st:=none) hs rfl (post_val_or_str ⟨le_trans (Txt.slice_le y _ _) hz,λt' k=>⟨.str _,H,I.tok k,⟨t',rfl⟩,q⟩⟩)
 |int i ui=>cases pu with
  |none=>exact wpAny_getItem_str_slice (l:=some (i,ui)) (u:=none) (st:=none) hs rfl (post_val_or_str ⟨le_trans (Txt.slice_le y _ _) hz,λt' k=>⟨.str _,H,I.tok k,⟨t',rfl⟩,q⟩⟩)
  |int j uj=>exact wpAny_getItem_str_slice (l:=some (i,ui)) (u:=some (j,uj)) (st:=none) hs rfl (post_val_or_str ⟨le_trans (Txt.slice_le y _ _) hz,λt' k=>⟨.str _,H,I.tok k,⟨t',rfl⟩,q⟩⟩)
end
def Wr(x:Str):It:=⟨λi _=>i<x.length,λi H v H'=>H'=H∧∃c,x.cps[i]? =some c∧v= .str ⟨#[c]⟩,λi _=>x.length≤i⟩
def Ik{P:Program}{w:World}{K:0e9}{tg:Expr}(it:3e5)(x:Str)(t:Tok):
  Turn P w K tg (Wr x) [it] it (λi h=>h.IsStrIter it "str_ascii_iterator" x t i) where
 mem:=by simp
 obj:=λi h st b hb=>by
  have e:b=it:=by simpa using hb
  subst e;obtain⟨o,e,c,d⟩:=st;exact⟨o,e,λv z=>by rw[d] at z;cases z⟩
 keep:=λi h h' st k=>let ⟨o,ho,r⟩:=st;⟨o,k it 2e9 o ho,r⟩
 item:=by
  intro X hP hw hK hc i pins s σ H E I hf st hg;subst hP hw hK;have hg:i<x.cps.size:=hg;obtain⟨f0,f1,f2,f3,f4,f5⟩:=hf it 2e9;refine wpAny_pyNext_ascii_item st (Array.getElem?_eq_getElem hg) λh' A8 sb=>?_;have I1:Inv X pins σ H { s with heap:=h',toks:=s.toks+1 }:=I.turned (t':=s.toks+1) (λb o hb e=>(sb.2 b hb).trans e) f0 f1 f3 f4 f5;obtain⟨oi,e,c,d⟩:=id A8;exact⟨_,rfl,CY (s:={ s with heap:=h',toks:=s.toks+1 }) e c d 0e4 ⟨.str ⟨#[x.cps[i]]⟩,H,I1,2e4,⟨rfl,_,Array.getElem?_eq_getElem hg,rfl⟩,A8,λb hb=>(hf b hb).1⟩⟩
 done:=by
  intro X hP hw hK hc i pins s σ H E I hf st hg;subst hP hw hK;have hg:x.cps.size≤i:=hg;obtain⟨f0,f1,f2,f3,f4,f5⟩:=hf it 2e9;exact wpAny_pyNext_ascii_end (I.ok.hd hc) st (Array.getElem?_eq_none hg) λh' eb=>⟨rfl,I.turned (t':=s.toks) (λb o hb e=>eb b o hb e) f0 f1 f3 f4 f5⟩
 self:=λ_ _ _ _ _ st h=>wpAny_pyIter_striter_ascii st h
section
variable {X:Cx}{tg:Expr}
def iStr(tl:TE):TI:=fun σ H R=>tl σ H λv H1=>∃x,v= .str x∧x.cps.all (· <128)=true∧R (Wr x) H1
def RG(hl:PE X l tl):PI X tg l (iStr tl):=by
 intro pins s σ H R I h;refine bR (hl pins s σ H _ I h) λv s1 ⟨y,H1,I1,r1,x,e,ha,q⟩=>?_;subst e;obtain⟨t,rfl⟩:=(show∃t,v=Value.str x t from r1);refine wpAny_pyIter_ascii ha ?_;refine⟨s1.heap.objs.size,[s1.heap.objs.size],_,_,_,rfl,I1.kept (t':=s1.toks) λb o e=>Heap.get?_push_of_some _ e,Ik _ x t,?_,λb hb=>?_,q⟩
 ·exact⟨_,Heap.get?_push_size _ rfl,rfl,rfl⟩
 ·have e:b=s1.heap.objs.size:=by simpa using hb
  subst e;exact I1.wZ (le_refl _) (I1.aM.fresh (le_refl _))
end
def MU{x:Str}{g:TG}{tb:TS}{D:Ends}{σ:St}{H:Hp}(Pv:Nat→St→Hp→Prop)(h0:Pv 0 σ H)
  (hs:∀i c σ H,x.cps[i]? =some c→Pv i σ H→g (.str ⟨#[c]⟩) σ H fun σ2 H2=>tb { D with nx:=Pv (i+1),ct:=Pv (i+1),bk:=D.nx } σ2 H2) (hd:∀σ H,Pv x.length σ H→D.nx σ H):
  ∃W:Nat→Nat→St→Hp→Prop,(∃m,W 0 m σ H)∧∀i m σ H,W i m σ H→
   ((Wr x).stop i H∧D.nx σ H)∨((Wr x).go i H∧∃N:St→Hp→Prop,(∀σ' H',N σ' H'→∃m',m'<m∧W (i+1) m' σ' H')∧∀v H',(Wr x).oW i H v H'→g v σ H' fun σ2 H2=>tb { D with nx:=N,ct:=N,bk:=D.nx } σ2 H2):=by
 refine⟨λi m σ H=>m+i=x.length∧Pv i σ H,⟨x.length,rfl,h0⟩,?_⟩;rintro i m σ H ⟨hm,p⟩;by_cases hi:i<x.length
 ·refine .inr ⟨hi,Pv (i+1),fun σ' H' q=>⟨m - 1,by omega,by omega,q⟩,?_⟩;rintro v H' ⟨rfl,c,hc,rfl⟩;exact hs i c σ _ hc p
 ·have e:i=x.length:=by omega
  subst e;exact .inl ⟨le_refl _,hd σ H p⟩
end L2
namespace L2
open PySem PySem.Spec PyProof.Rows
section
variable {X:Cx}
def qF(K:0e9)(hK:X.K=K):U0 X (V9 K):=by subst hK;exact jB
end
end L2
namespace PySem.W
open PySem PySem.Calls PyProof.Rows PyProof.V PySem.Spec
section
variable {prog:Program}{w:World}{A:Around}{E:0e3}{s:Shared}{T:String}{r d:3e5}{n:Nat}{P:Nat→Value→Prop}{OK:Heap→Prop}
def zF{Q:0e3}(S:KdlSrc prog w T r d n P OK)(hd:A.handled=none)(ok:OK s.heap)(hn:n<64)(hs:∀xs:Array Value,ItemsOf P xs n→StrsAre xs.toList ss)(q:∀(g:Heap) (k:Nat) (a:3e5) (out:Array Value) (Ba:3e8) (e:Nat),(∀b o,s.heap.get? b=some o→g.get? b=some o)→s.heap.objs.size≤a→g.get? a=some (seqObj "list" out e)→StrsAre out.toList Ba→Ba.Perm ss→sortedS Ba=true→Q (.ref a) { s with heap:=g,toks:=k }):
  wpAny 2e5 A (call (.builtin "sorted") [.ref r]) Q E s:=by
 refine Calls.call_function_entry kind_sorted plain_sorted entry_sorted (args_sorted1 _) ?_;unfold Builtin.«sorted»;refine wpAny_bind (m:=checkCount "sorted" 1 1 _) (wpAny_pure ?_);have big:(64 :Nat)≤sizeLine:=by decide
 refine wpAny_bind (rZ (A:=A.in1) S hd ok 0e5 λg k xs kp lt its=>?_);have hS:=hs xs its;have hl:xs.toList.length=n:=by rw[Array.length_toList];exact its.1
 refine wpAny_bind (wpAny_newList ?_ (by rw[hl];omega));have LZ:(g.push (seqObj "list" xs.toList.toArray 0)).get? g.objs.size=some (seqObj "list" xs.toList.toArray 0):=Heap.get?_push_size _ rfl;refine wpAny_bind (wpAny_holding (wpAny_call_entry slot_list_sort ⟨_,LZ,rfl⟩ entry_list_sort (list_sort_treeK strKind_oneLt LZ hS.keysOf (λv₁ v₂ rest e=>keyKind_strs (by rw[←e];exact hS)) 0e5 λA8 a1 a2=>⟨_,rfl,?_⟩) (args_list_sort _)));obtain⟨Ba,h1,h2,h3⟩:=sorted_out_str hS a1 a2;obtain⟨e,he⟩:=sortedHeap_at (out:=(arrOf A8).map (·.2)) LZ;refine wpAny_pure ⟨_,rfl,q _ k g.objs.size _ Ba e (λb o z=>?_) 0e5 he h1 h2 h3⟩;have hb:=kp b o z;have oH:=Heap.lt_size hb;rw[sortedHeap_old (ne_of_lt oH) (by rw[size_push'];exact Nat.lt_succ_of_lt oH),Heap.get?_push_ne _ _ _ (ne_of_lt oH)];exact hb
end
end PySem.W
namespace L2
open PySem PySem.Spec PyProof.Rows PySem.W
section
variable {X:Cx}
def mW(hc:X.calm=true):fB X (.builtin "sorted") (λxs H Q=>∃p kvs,∃ks:List Str,xs=[.ref p]∧Rd H p 3e0∧kvs.map 1e8=ks.map Sum.inr∧ks.length<64∧∀(l:3e5) (ms:3e8),ms.Perm ks→sortedS ms=true→H l=none→Q (.ref l) (upd H l (.lst (ms.map V.str)))):=by
 intro pins s σ H xs us Q I r h;obtain⟨p,kvs,ks,rfl,hk,oI,h64,q⟩:=h;obtain⟨u,rfl,ru⟩:=vals1 r;cases ru;obtain⟨z,lo,vs,rel,dd⟩:=iN I.aM hk;obtain⟨ep,da⟩:=dd.dictAt
 have hlen:vs.length=ks.length:=by
  have:=congrArg List.length oI;rw[length_map,length_map] at this;rw[←rel.length];exact this
 have key:∀(j:Nat) (k:Key) (x:Value),vs[j]? =some (k,x)→(ks[j]?).map Sum.inr=some k:=λj k x e=>by
  have h1:(kvs.map 1e8)[j]? =some k:=by rw[rel.keys,getElem?_map,e];rfl
  rw[oI,getElem?_map] at h1;exact h1
 refine zF (ss:=ks) (kdl_dict (knd:=bz X.prog X.w) (kvs:=vs) (ep:=ep) lo) (I.ok.hd hc) da 0e5 (λar its=>?_) λg k a out Ba e kp le hg h1 h2 h3=>?_
 ·refine jG (P:=X.prog) (w:=X.w) (by rw[Array.length_toList,its.1,hlen]) λj k u h1 h2=>?_;obtain⟨k',x,h3,h4⟩:=its.2 j u (by simpa using h2);have h5:=key j k' x h3;rw[h1] at h5;cases h5;exact h4
 ·refine⟨.ref a,_,I.laid (t':=k) (o:= .lst (Ba.map V.str)) kp le ⟨?_,out.toList,e,r8 h1,?_⟩,rfl,q _ Ba h2 h3 (I.aM.fresh le)⟩
  ·rw[length_map,h2.length_eq];have big:(64 :Nat)≤sizeLine:=by decide
   omega
  ·rw[hg]
end
section
variable {X:Cx}{pins:1e4}{σ:St}{H:Hp}{s:Shared}{a b:3e5}{kvs more:0e2}{A:Around}{E:0e3}
def Il{Q:0e3}(I:1e1)(e:H a=some 3e0)(e2:H b=some (.dK more))(RE:a≠b)(hz:kvs.length+more.length≤sizeLine)
  (h:∀s',Inv X pins σ (upd H a (.dK (bF kvs more))) s'→Q .none s'):wpAny 1e0 A (call (.builtin "dict.update") [.ref a, .ref b]) Q E s:=by
 obtain⟨z,hd,vs,rel,dd⟩:=rL I.aM e;obtain⟨z2,hd2,ws,Ws,dd2⟩:=rL I.aM e2;refine call_meetsIn PySem.F.slot_dict_update dd.typeIs PySem.F.entry_dict_update (PySem.F.args_dict_update_2 _ _) (meets_dict_update (bz X.prog X.w) a b RE hd2)
  ⟨vs,ws,dd,dd2,by rw[←rel.length,←Ws.length];exact hz,λh' Ff _ hs=>h _ ?_⟩
 have he:∃q,h'.get? a=some q:=let ⟨q,_,_,hq,_⟩:=Ff;⟨q,hq⟩;exact qz I (by rw[e];exact True.intro) hs he (rM (le_trans (eD more kvs) hz) hd (KV.merge Ws rel) Ff)
end
def Wt(td ty:TE):TE:=fun σ H Q=>td σ H λx H1=>∃a,x= .ref a∧IsD H1 a∧ty σ H1 λy H2=>∃b kvs more,y= .ref b∧H2 a=some 3e0∧H2 b=some (.dK more)∧a≠b∧kvs.length+more.length≤sizeLine∧Q .cw (upd H2 a (.dK (bF kvs more)))
section
variable {X:Cx}{o e:Expr}{apos ic:Pos}{td ty:TE}
def MV(ho:PE X o td)(he:PE X e ty)(m:M1 X o "update" apos e ic):PE X (.Call (.Attribute o "update" apos) [e] [] ic) (Wt td ty):=by
 intro pins s σ H Q I h;refine wpAny_Call_method m.base m.few m.line PySem.F.plainAttrs_dict PySem.F.slot_dict_update PySem.F.type_dict_update (bR (ho pins s σ H _ I h) λu s1 ⟨x,H1,I1,rx,a,ex,d,q1⟩=>?_);subst ex;obtain rfl:u=Value.ref a:=rx;obtain⟨t1,t2,_⟩:=HJ I1 d;refine⟨t1,t2,?_⟩;rw[m.trees];refine Calls.callWith_builtin rfl (Calls.evalArgs_plain (Calls.spliced_cons (bR (he pins s1 σ H1 _ I1 q1) λiv s2 ⟨y,H2,I2,ry,b,kvs,more,ey,ea,eb,RE,hz,q2⟩=>Calls.spliced_nil ?_)));subst ey;obtain rfl:iv=Value.ref b:=ry;exact Il I2 ea eb RE hz λs3 I3=>⟨.cw,_,I3,rfl,q2⟩
end
end L2
namespace L2
open PySem PySem.Spec PyProof.Rows
end L2
namespace L2
open PySem PySem.Spec PyProof.Rows
end L2
namespace L2
open PySem PySem.Spec PyProof.Rows PySem.W
section
variable {X:Cx}
end
end L2
namespace L2
open PySem PySem.Spec PyProof.Rows
def RH{h0:ExceptHandler}{hs:List ExceptHandler}(hx:∀v s,X.xe v s→False)(hb:mn X body t):PS X (.Try body (h0::hs) [] [] pos) t:=by
 intro pins s σ H D I h;refine wpAny_Try_except (wpAny_mono (hb pins s σ H D I h) (λf s1 q=>?_) λe s1 z=>(hx e s1 z).elim)
 cases f with
 |next=>exact wpAny_execs_nil q
 |brk=>exact q
 |cont=>exact q
 |ret u=>exact q
end L2
namespace L2
open PySem PySem.Spec PyProof.Rows
section
variable {X:Cx}
def Im:oY X (binaryOp .FloorDiv) (rI (λ_ j=>0<j∧j<18446744073709551616) λi j=> .int (i/j)):=UZ λi j _ _ _ _ _ hc q=>by
 have h1:(0 :Int) <j:=hc.1;have h2:j<18446744073709551616:=hc.2;refine floordiv_int 0e5 (by rw[Int.fdiv_eq_ediv_of_nonneg i 0e5];exact q) (.inl (PyProof.noPylong_of_log2 ?_));have:=(log2_lt (n:=j.natAbs) 0e5 (k:=64)).mpr 0e5;omega
end
end L2
namespace L2
open PySem PySem.Spec PyProof.Rows
section
variable {X:Cx}
end
end L2
namespace L2
open PySem PySem.Spec PyProof.Rows
section
variable {X:Cx}
end
end L2
namespace PySem
structure Heap.kh(h:Heap)(e:3e5)(tb:Option Addr):Prop where
 ex:∃oe vs,h.get? e=some oe∧oe.data= .fields vs∧vs[1]? =some (tb.elim Value.none Value.ref)
 tr:∀T,tb=some T→T≠e∧∃oT ts,h.get? T=some oT∧oT.data= .fields ts∧3<ts.size
structure Heap.Moved(fs:List Addr)(e:3e5)(tb:Option Addr)(h h':Heap):Prop where
 keep:∀b o,h.get? b=some o→b≠e→tb≠some b→b∉fs→h'.get? b=some o
 slot:∀b o,h.get? b=some o→b≠e→tb≠some b→∃sl,h'.get? b=some { o with slots:=sl }
 self:∀o,h.get? e=some o→∃vs,h'.get? e=some { o with data:= .fields vs }
 ent:∀b o,tb=some b→b≠e→h.get? b=some o→∃o',h'.get? b=some o'
 size:h.objs.size≤h'.objs.size
def Heap.Moved.there(m:Heap.Moved fs e tb h h')(b:3e5)(o:Obj)(q:h.get? b=some o):∃o',h'.get? b=some o':=by
 by_cases be:b=e
 ·subst be;obtain⟨vs,z⟩:=m.self o q;exact⟨_,z⟩
 ·by_cases bt:tb=some b
  ·exact m.ent b o bt be q
  ·obtain⟨sl,z⟩:=m.slot b o q be bt;exact⟨_,z⟩
def Heap.Moved.refl(x:h.kh e tb):Heap.Moved fs e tb h h:=
 ⟨λ_ _ q _ _ _=>q,λ_ o q _ _=>⟨o.slots,q⟩,λo q=>by
  obtain⟨oe,vs,he,hd,_⟩:=x.ex;rw[q] at he;cases he
  exact⟨vs,by rw[q,←hd]⟩,λ_ o _ _ q=>⟨o,q⟩,le_refl _⟩
def Heap.Moved.trans(x:Heap.Moved fs e tb h h1)(y:Heap.Moved fs e tb' h1 h2)(n:∀T,tb'=some T→tb=some T∨h.objs.size≤T):Heap.Moved fs e tb h h2 where
 keep:=λb o q be bt bf=>y.keep b o (x.keep b o q be bt bf) be (λz=>(n b z).elim bt λw=>absurd (Heap.lt_size q) (Nat.not_lt.mpr w)) bf
 slot:=λb o q be bt=>by
  obtain⟨sl,z⟩:=x.slot b o q be bt;obtain⟨QW,z'⟩:=y.slot b _ z be (λz=>(n b z).elim bt λw=>absurd (Heap.lt_size q) (Nat.not_lt.mpr w));exact⟨QW,z'⟩
 self:=λo q=>by
  obtain⟨vs,z⟩:=x.self o q;obtain⟨vs',z'⟩:=y.self _ z;exact⟨vs',z'⟩
 ent:=λb o _ be q=>by
  obtain⟨o1,z⟩:=x.there b o q;exact y.there b o1 z
 size:=le_trans x.size y.size
def Heap.Moved.mono{fs:List Addr}(x:Heap.Moved fs e tb h h')(k:∀b∈fs,b∈Mh):Heap.Moved Mh e tb h h':=
 ⟨λb o q be bt bf=>x.keep b o q be bt λz=>bf (k b z),x.slot,x.self,x.ent,x.size⟩
def xu{o:Obj}{vs:Array Value}(hd:o.data= .fields vs)(f:Array Value→Array Value):o.mapFields f={ o with data:= .fields (f vs) }:=by
 obtain⟨a,b,c,d⟩:=o;cases hd;rfl
section
variable {M:Model}{A:Around}{E:0e3}{s:Shared}
def zG{base:Heap}{env:Env}{outer:List Env}{L e:3e5}{oe:Obj}{vs:Array Value}{U3:Value}{nx:Bool}{Q:Unit→Shared→Prop}(fr:A.frames=some (env::outer))(fl:s.heap.FunFrames base (env::outer))(hL:env.frame=some L)
  (xe:s.heap.get? e=some oe) (xd:oe.data= .fields vs) (xs:1<vs.size)
  (k:∀h' T,h'.kh e (some T)→s.heap.objs.size≤T→Heap.Moved ((env::outer).filterMap (·.frame)) e none s.heap h'→Q () { s with heap:=h' }):
  wpAny M A (do let a←frameOf env;let pl←entryPlaceOf L nx;let b←EntryCells.newEntry U3 a .none (rawInt L) .none pl;setField (.ref e) 1 b) Q E s:=by
 have ene:e∉(env::outer).filterMap (·.frame):=λz=>by
  obtain⟨_,o,q,nf⟩:=fl.mem z;rw[xe] at q;cases q;exact nf vs xd
 refine wpAny_bind (wpAny_frameOf_fun fr fl hL λg1 so=>?_);refine wpAny_bind (wpAny_entryPlaceOf λpl ok=>?_);unfold EntryCells.newEntry newFields;refine wpAny_bind (wpAny_newObj_type ?_ (ok.sizeOk5 _ _ _ _ _));have e1:g1.get? e=some oe:=(so.2.1 e ene).trans xe;generalize hO:({ cls:= .type "traceback",dict:=none,data:= .fields ([U3, .ref L, .none,rawInt L, .none]++(if pl.isEmpty then List.replicate 6 Value.none else pl)).toArray }:Obj)=ob;have e2:=Heap.get?_push_of_some (h:=g1) ob e1;refine wpAny_setField e2 xd xs ?_;have Te:g1.objs.size≠e:=ne_of_gt (Heap.lt_size e1);have nf:ob.isFreed=false:=by rw[←hO];rfl
 have eT:(g1.push ob).get? g1.objs.size=some ob:=Heap.get?_push_size g1 nf;have e3:=Heap.get?_update_self (Obj.mapFields (·.setIfInBounds 1 (Value.ref g1.objs.size))) e2 (Obj.isFreed_of_fields (Obj.data_mapFields xd _));refine k _ g1.objs.size ⟨⟨_,_,e3,Obj.data_mapFields xd _,by simp [xs]⟩,λT z=>?_⟩ (le_of_eq so.1.symm) ⟨λb o q be _ bf=>?_,λb o q be _=>?_,λo q=>?_,λb o z=>(by cases z),?_⟩
 ·cases z;refine⟨Te,ob,([U3, .ref L, .none,rawInt L, .none]++(if pl.isEmpty then List.replicate 6 Value.none else pl)).toArray,?_,by rw[←hO],by simp only [size_toArray,length_append,length_cons,length_nil];omega⟩;rw[Heap.get?_update_other _ _ (Ne.symm Te)];exact eT
 ·rw[Heap.get?_update_other _ _ (Ne.symm be)];exact Heap.get?_push_of_some _ ((so.2.1 b bf).trans q)
 ·obtain⟨sl,z⟩:=so.2.2 b o q;refine⟨sl,?_⟩;rw[Heap.get?_update_other _ _ (Ne.symm be)];exact Heap.get?_push_of_some _ z
 ·rw[xe] at q;cases q;exact⟨_,e3.trans (by rw[xu xd])⟩
 ·show s.heap.objs.size≤((g1.push ob).update e _).objs.size;rw[Heap.size_after_update,Heap.size_push,←so.1];exact le_succ _
def gZ{Q:Unit→Shared→Prop}(x:s.heap.kh e tb)(k:∀h',h'.kh e tb→Heap.Moved [] e tb s.heap h'→Q () { s with heap:=h' }):wpAny M A (setFlight (.ref e) fr) Q E s:=by
 obtain⟨oe,vs,he,hd,h1⟩:=x.ex;unfold setFlight;refine wpAny_bind (wpAny_field he hd h1 ?_)
 cases tb with
 |none=>
  rw[if_neg 0e4];exact wpAny_pure (k _ x (.refl x))
 |some T=>
  obtain⟨ne,oT,ts,hT,dT,sz⟩:=x.tr T rfl;rw[if_pos (show ((some T).elim Value.none Value.ref != Value.none)=true from by simp)];generalize (fr.elim Value.none λf=>rawInt f)=v3;refine wpAny_setField hT dT sz ?_;have Dl:(s.heap.update T (Obj.mapFields (·.setIfInBounds 3 v3))).get? e=some oe:=(Heap.get?_update_other _ _ ne).trans he;have L6:=Heap.get?_update_self (Obj.mapFields (·.setIfInBounds 3 v3)) hT (Obj.isFreed_of_fields (Obj.data_mapFields dT _));refine k _ ⟨⟨oe,vs,Dl,hd,h1⟩,λT' z=>?_⟩ ⟨λb o q _ bt _=>?_,λb o q _ bt=>⟨o.slots,?_⟩,λo q=>?_,λb o z _ _=>?_,?_⟩
  ·cases z;exact⟨ne,_,_,L6,Obj.data_mapFields dT _,by simp [sz]⟩
  ·exact(Heap.get?_update_other _ _ λz=>bt (by rw[z])).trans q
  ·exact(Heap.get?_update_other _ _ λz=>bt (by rw[z])).trans q
  ·rw[he] at q;cases q;exact⟨vs,by rw[Dl,←hd]⟩
  ·cases z;exact⟨_,L6⟩
  ·show s.heap.objs.size≤(s.heap.update T _).objs.size;rw[Heap.size_after_update];exact le_refl _
def qG{Q:Unit→Shared→Prop}(fr:A.frames=some (env::outer))(fl:s.heap.FunFrames base (env::outer))(hL:env.frame=some L)(x:s.heap.kh e tb)(k:∀h' T,h'.kh e (some T)→tb=some T∨s.heap.objs.size≤T→Heap.Moved ((env::outer).filterMap (·.frame)) e tb s.heap h'→Q () { s with heap:=h' }):wpAny M A (noteFrame (.ref e) env) Q E s:=by
 obtain⟨oe,vs,he,hd,h1⟩:=id x.ex;have sz1:1<vs.size:=(Array.getElem?_eq_some_iff.mp h1).1;unfold noteFrame;simp only [hL];refine wpAny_bind (wpAny_field he hd h1 ?_)
 cases tb with
 |none=>
  rw[if_neg 0e4];exact zG fr fl hL he hd sz1 λh' T a b c=>k h' T a (.inr b) c
 |some T=>
  obtain⟨ne,oT,ts,hT,dT,sz⟩:=x.tr T rfl;rw[if_pos (show ((some T).elim Value.none Value.ref != Value.none)=true from by simp)];have h3:ts[3]? =some ts[3]:=Array.getElem?_eq_getElem sz;refine wpAny_bind (wpAny_field hT dT h3 ?_);by_cases c:(ts[3]==rawInt L)=true
  ·rw[if_pos c];exact wpAny_pure (k _ T x (.inl rfl) (.refl x))
  ·rw[if_neg c];refine wpAny_bind (wpAny_setField hT dT sz ?_);have ot:∀b,b≠T→(s.heap.update T (Obj.mapFields (·.setIfInBounds 3 Value.none))).get? b=s.heap.get? b:=λb z=>Heap.get?_update_other _ _ (Ne.symm z);have L6:=Heap.get?_update_self (Obj.mapFields (·.setIfInBounds 3 Value.none)) hT (Obj.isFreed_of_fields (Obj.data_mapFields dT _));have zs:(s.heap.update T (Obj.mapFields (·.setIfInBounds 3 Value.none))).objs.size=s.heap.objs.size:=Heap.size_after_update ..;refine zG (s:={ s with heap:=s.heap.update T (Obj.mapFields (·.setIfInBounds 3 Value.none)) }) fr (fl.of_keeps λb o q nf=>⟨o,(ot b λz=>?_).trans q,rfl⟩) hL ((ot e (Ne.symm ne)).trans he) hd sz1 λh' T' a b c=>k h' T' a (.inr (by rw[←zs];exact b)) ?_
   ·rw[z,hT] at q;cases q;exact nf ts dT
   ·refine⟨λb o q be bt bf=>c.keep b o ((ot b λz=>bt (by rw[z])).trans q) be (λz=>by cases z) bf,λb o q be bt=>c.slot b o ((ot b λz=>bt (by rw[z])).trans q) be λz=>(by cases z),λo q=>c.self o ((ot e (Ne.symm ne)).trans q),λb o z be q=>?_,?_⟩
    ·cases z;exact c.there _ _ L6
    ·rw[←zs];exact c.size
def Io{Q:Unit→Shared→Prop}(fr:A.frames=some (env::outer))(fl:s.heap.FunFrames base (env::outer))(hL:env.frame=some L)(x:s.heap.kh e tb)(k:∀h' T,h'.kh e (some T)→tb=some T∨s.heap.objs.size≤T→Heap.Moved ((env::outer).filterMap (·.frame)) e tb s.heap h'→Q () { s with heap:=h' }):wpAny M A (leaving env (.ref e)) Q E s:=by
 unfold leaving;refine wpAny_bind (qG fr fl hL x λh1 T a b c=>gZ (s:={ s with heap:=h1 }) a λh2 a' c'=>k h2 T a' b (c.trans (c'.mono λ_ z=>absurd z 2e9) λT' z=>?_));cases z;exact b
def MW{env:Env}{Q:Unit→Shared→Prop}(x:s.heap.kh e (some T))(k:∀h',h'.kh e (some T)→Heap.Moved [] e (some T) s.heap h'→Q () { s with heap:=h' }):
  wpAny M A (do
   if (←field (.ref e) 1)== .none then unsupported "frame.own-activation:exception-without-traceback"
   setFlight (.ref e) env.frame) Q E s:=by
 obtain⟨oe,vs,he,hd,h1⟩:=id x.ex;refine wpAny_bind (wpAny_field he hd h1 ?_);rw[if_neg 2e9];exact gZ x k
end
end PySem
namespace PySem.W
open PySem PySem.Calls PyProof.Rows PySem.Builtin PySem.Builtin.ObjectAttr
noncomputable abbrev zH:List Value:=[.type "ValueError", .type "Exception", .type "BaseException", .type "object"]
structure fu(K:Frag)(C HE f:3e5):Prop where
 obj:∃(nm q:Str) (N:3e5) (bs:4e1) (sn:3e8) (sub:4e1) (ab:Bool) (col:Option Bool) (dd:Option Addr) (k0 k1 k2 k3 k5:Option Value),
  K.lookup C=some (excClassObj nm q C N bs (.ref HE::zH) true sn sub ab col dd k0 k1 k2 k3 k5 "ValueError.__new__")
 init:findIn K (.ref C) "__init__" =some (some (.ref f))
 fn:typeIn K (.ref f)=some (.type "function")
 sa:findIn K (.ref C) "__setattr__" =some 3e9
 ga:findIn K (.ref C) "__getattribute__" =some (some (.builtin "BaseException.__getattribute__"))
 gh:findIn K (.ref C) "__getattr__" =some none
def jH{C HE:3e5}{T:String}{b:Bool}(h:zH.contains (.type T)=b):(Value.ref C:: .ref HE::zH).contains (.type T)=b:=by
 rw[List.contains_cons,List.contains_cons,h];rfl
section
variable {prog:Program}{w:World}{A:Around}{E:0e3}{R:Result→Shared→Prop}{h:Heap}{g:Array GenState}{d:Drawn}{t:Nat}{os:OsState}
variable {nm q:Str}{C N HE:3e5}{bs:4e1}{sn:3e8}{sub:4e1}{ab:Bool}{col:Option Bool}{dd:Option Addr}{k0 k1 k2 k3 k5:Option Value}
noncomputable abbrev sf(vs:4e1):Obj:={ cls:= .type "tuple",data:= .seq vs.toArray }
noncomputable abbrev sh(C t:3e5):Obj:={ cls:= .ref C,data:= .fields #[.ref t, .none, .none, .none, .bool false, .none] }
def xv{Q:Unit→Shared→Prop}(kC:h.get? C=some (excClassObj nm q C N bs (.ref HE::zH) true sn sub ab col dd k0 k1 k2 k3 k5 "ValueError.__new__"))(z:Q () ⟨h,g,d,t,os⟩):wpAny M A (checkBuiltinCall "ValueError.__new__" ⟨.ref C::rest,[]⟩) Q E ⟨h,g,d,t,os⟩:=by
 have F:=PySem.F.excBase_ValueError;have c1:(Value.ref C:: .ref HE::zH).contains (.type "ValueError")=true:=jH 0e0;have f0:=F.noStar;simp only [checkBuiltinCall,F.newKind,F.newSplit,F.newRow]
 repeat (first|refine wpAny_loadPart_at kC ?_| (refine wpAny_isSubtype_exc kC ?_;rw[c1]) |refine wpAny_staticBase_exc kC ?_|refine wpAny_madeBy_exc kC ?_|simp only [bne_self_eq_false,Bool.false_eq_true,if_false] |wp_step)
 exact z
def RK(kC:h.get? C=some (excClassObj nm q C N bs (.ref HE::zH) true sn sub ab col dd k0 k1 k2 k3 k5 "ValueError.__new__"))(z:R (.ok (.ret (.ref (h.objs.size+1)))) ⟨(h.push (sf rest)).push (sh C h.objs.size),g,d,t,os⟩) (hz:rest.length≤sizeLine):
  codeAny 2e5 A (.builtin "ValueError.__new__" ⟨.ref C::rest,[]⟩) R ⟨h,g,d,t,os⟩:=by
 have F:=PySem.F.excBase_ValueError;have f0:=F.ends;have c1:(Value.ref C:: .ref HE::zH).contains (.type "ValueError")=true:=jH 0e0;have c2:(Value.ref C:: .ref HE::zH).contains (.type "AttributeError")=false:=jH 0e0;have c3:(Value.ref C:: .ref HE::zH).contains (.type "NameError")=false:=jH 0e0;refine codeAny_builtinAt F.entry ?_;unfold Builtin.«BaseException.__new__»;refine wpAt_bind ?_;show wpAt _ _ _ (stack >>= _) _ _ _;refine wpAt_bind (wpAt_stack λp below=>wpAt_of_wpAny ?_);wp_walk;refine wpAt_of_wpAny ?_;rw[F.owner]
 repeat (first|with_reducible refine wpAny_madeHere_exc F.canon kC ?_|with_reducible refine wpAny_loadPart_at kC ?_| (with_reducible refine wpAny_isSubtype_exc kC ?_;first|rw[c1] |rw[c2] |rw[c3]) |wp_step)
 show R _ _;rw[Heap.size_push];exact z
end
section
variable {prog:Program}{w:World}{A:Around}{E:0e3}{R:Result→Shared→Prop}{s:Shared}{K:Frag}{C HE f:3e5}
def MX(X:K.In s.heap)(Z:fu K C HE f)(hz:vs.length≤sizeLine)(k:codeAny 2e5 (A.under (.builtin "type.__call__" ⟨.ref C::vs,[]⟩)) (.call (.ref f) ⟨.ref 3e2::vs,[]⟩) (InitBack 3e2 R) { s with heap:=(s.heap.push (sf vs)).push (sh C s.heap.objs.size) }):
  codeAny 2e5 A (.call (.ref C) ⟨vs,[]⟩) R s:=by
 obtain⟨hp,g,d,t,os⟩:=s;obtain⟨nm,q,N,bs,sn,sub,ab,col,dd,k0,k1,k2,k3,k5,hK⟩:=Z.obj;have kC:=X _ _ hK;have F:=PySem.F.excBase_ValueError;have f1:=tc_lookup;have f2:=tc_bind (.ref C);have hT:(⟨hp,g,d,t,os⟩:Shared).TypeIs (.ref C) "type" :=⟨_,kC,rfl⟩;refine codeAny_of_tree ?_;show wpAny _ _ (callAny (.ref C) _) _ _ _
 repeat (any_goals (first|assumption|with_reducible refine wpAny_loadPart_at kC ?_|wp_step))
 refine⟨rfl,?_⟩;refine codeAny_call_builtin_at (Code.quiet_builtin _ 0e0) entry_typeCall (wpAny_check_type_call_sub kC ?_)
 repeat (first|with_reducible refine wpAny_loadPart_at kC ?_|with_reducible refine wpAny_madeBy_exc kC ?_|wp_step)
 refine codeAny_call_builtin_code (Code.quiet_builtin _ F.quiet) (xv kC ?_);refine RK kC ?_ hz;show wpAny _ _ _ _ _ _;have keeps:∀b o,hp.get? b=some o→((hp.push (sf vs)).push (sh C hp.objs.size)).get? b=some o:=λb o e=>Heap.get?_push_of_some _ (Heap.get?_push_of_some _ e);have kC1:=keeps _ _ kC;have X1:K.In ((hp.push (sf vs)).push (sh C hp.objs.size)):=λb o e=>keeps b o (X b o e);have eg:((hp.push (sf vs)).push (sh C hp.objs.size)).get? (hp.objs.size+1)=some (sh C hp.objs.size):=by heap_get
 have c0:(Value.ref C:: .ref HE::zH).contains (.ref C)=true:=by simp
 unfold isInstance
 repeat (first|with_reducible refine wpAny_loadPart_at eg ?_|wp_step)
 show wpAny _ _ (isSubtype (.ref C) (.ref C)) _ _ _;refine wpAny_isSubtype_exc kC1 ?_;rw[c0]
 repeat (first|with_reducible refine wpAny_loadPart_at eg ?_|wp_step)
 show wpAny _ _ (typeLookup (.ref C) _) _ _ _;refine looks_findIn X1 Z.init _ _ _ _ (λ_ _ e=>e) ?_;refine wpAny_holding (wpAny_bind (bind_fn X1 _ Z.fn _ _ _ _ (λ_ _ e=>e) ?_));refine wpAny_bind (wpAny_call (codeAny_mono k λr s' y=>?_))
 cases r with
 |error z=>exact y
 |ok fl=>
  cases fl with
  |ret u=>
   obtain⟨eu,y⟩:=y;subst eu;exact wpAny_pure (wpAny_pure y)
  |next=>exact y.elim
  |brk=>exact y.elim
  |cont=>exact y.elim
end
section
variable {prog:Program}{w:World}{A:Around}{E:0e3}{R:Result→Shared→Prop}{s:Shared}{K:Frag}{C HE f e:3e5}{ox:Obj}{od:Option Obj}{vs:Array Value}{name:Str}{v:Value}{tk:Tok}
theorem fu.cd(Z:fu K C HE f):∃cd,clsIn K C=some cd∧cd.mro= .ref C:: .ref HE::zH∧cd.hasDict=true:=by
 obtain⟨nm,q,N,bs,sn,sub,ab,col,dd,k0,k1,k2,k3,k5,hK⟩:=Z.obj;exact⟨_,by unfold clsIn;rw[hK],rfl,rfl⟩
def fu.mro(Z:fu K C HE f){T:String}{b:Bool}(h:zH.contains (.type T)=b):mroIn K C (.type T)=some b:=by
 obtain⟨cd,a,m,_⟩:=Z.cd;unfold mroIn;rw[a,bind_some,m,jH h];rfl
def Ip(X:K.In s.heap)(Z:fu K C HE f)(I:InstAt s.heap e ox C od)(ht:takerIn K C name=some none)
  (k:∀b,wpAny 2e5 A.in1 (storeInOwnDict (.ref e) (.ref C) (.str name tk) name v b) (λfin s'=>match fin with| .done f=>R (.ok f) s'| .again c'=>c'.quiet=true∧codeAny 2e5 A c' R s') (λe s'=>R (.error e) s') s):
  codeAny 2e5 A (.call (.builtin "object.__setattr__") ⟨[.ref e, .str name tk,v],[]⟩) R s:=by
 have SO:=PySem.F.store_object;obtain⟨cd,hc,hm,_⟩:=Z.cd;have sub:Looks 2e5 s.heap (isInstance (.ref e) (.type "object")) true:=I.type.andThen (looks_mroIn X (Z.mro 0e0));refine codeAny_call_builtin SO.slot.plain SO.entry (@check_slot 2e5 _ _ s "object.__setattr__" "object" "__setattr__" (.ref e) [.str name tk,v] [] _ SO.kind SO.split sub (SO.args (.ref e) (.str name tk) v) ?_);obtain⟨attr,ha,hr⟩:=Option.bind_eq_some_iff.mp ht;have lm:Looks 2e5 s.heap (mroOf (.ref C)) cd.mro:=(looks_clsIn X hc).andThen .now
 have l3:Looks 2e5 s.heap (storeTaker? attr) none:=by
  cases attr with
  |none=>exact .now
  |some a=>
   obtain⟨b,hb,eb⟩:=Option.map_eq_some_iff.mp hr;refine(looks_takesIn X hb).andThen ?_
   cases b with
   |true=>cases eb
   |false=>exact .now
 rw[osa_eq,refuse_eq];refine wpAny_bind (wpAny_bind (I.type.here (wpAny_bind (lm.here ?_))));rw[hm,refuseLoop_ref,refuseLoop_ref,PySem.F.store_ValueError.passes];exact wpAny_pure (wpAny_bind (I.type.here (wpAny_bind ((looks_findIn X ha).here (wpAny_bind (l3.here (k _)))))))
def MY{Q:Unit→Shared→Prop}(X:K.In s.heap)(Z:fu K C HE f)(ht:takerIn K C name=some none)(hx:s.heap.get? e=some ox)(hc:ox.cls= .ref C)(hd:ox.data= .fields vs)(hn:ox.dict=none)
  (k:∀h' Rx,h'.get? e=some { ox with dict:=some s.heap.objs.size }→h'.Ns1 s.heap.objs.size (λy=>if y=name then some v else none)→(∀b o,b≠e→s.heap.get? b=some o→h'.get? b=some o)→Q () { s with heap:=h',toks:=Rx }):
  wpAny 2e5 A (setAttr (.ref e) name v) Q E s:=by
 have I:InstAt s.heap e ox C none:=⟨hx,hc,by unfold notCls;rw[hd],by rw[hn];trivial⟩;obtain⟨cd,rA,_,hh⟩:=Z.cd;refine set_plain X I Z.sa (Ip (s:={ s with toks:=s.toks+1 }) X Z I ht λb=>?_);obtain⟨oc,odi,oda,um⟩:=ox;dsimp only at hc hd hn;subst hc hd hn;refine wpAny_bind (wpAny_pure (wpAny_bind (wpAny_bind (wpAny_loadPart hx (wpAny_bind (Looks.here (s:={ s with toks:=s.toks+1 }) (looks_clsIn X rA) ?_))))));rw[hh];have xs:e≠s.heap.objs.size:=ne_of_lt (Heap.lt_size hx);rw[if_neg 0e4];have U4:=Heap.get?_push_of_some (h:=s.heap) { cls:= .type "dict",data:= .dict #[] } hx;refine wpAny_bind (wpAny_alloc' (wpAny_bind (wpAny_update' U4 (wpAny_pure ?_))));generalize hG:(s.heap.push { cls:= .type "dict",data:= .dict #[] }).update e (λo=>{ cls:=o.cls,dict:=some s.heap.objs.size,data:=o.data,slots:=o.slots })=G
 have gd:G.get? s.heap.objs.size=some { cls:= .type "dict",data:= .dict #[] }:=by
  rw[←hG];exact(Heap.get?_update_ne _ _ _ _ (Ne.symm xs)).trans (Heap.get?_push_at rfl rfl)
 have gx:G.get? e=some { cls:= .ref C,dict:=some s.heap.objs.size,data:= .fields vs,slots:=um }:=by
  rw[←hG];exact Heap.get?_update_self _ U4 rfl
 have go:∀b o,b≠e→s.heap.get? b=some o→G.get? b=some o:=λb o be q=>by
  rw[←hG];exact(Heap.get?_update_ne _ _ _ _ be).trans (Heap.get?_push_of_some _ q)
 have gn:G.Ns s.heap.objs.size (λ_=>none):=⟨_,#[],_,gd,rfl,λy hy=>absurd hy 2e9,λ_=>rfl⟩;show wpAny _ _ (storeInDict s.heap.objs.size (.str name s.toks) name v) _ _ { s with heap:=G,toks:=s.toks+1 };unfold storeInDict newKeyGuard;refine wpAny_bind (wpAny_pure (wpAny_bind (wpAny_nsSet1 (s:={ s with heap:=G,toks:=s.toks+1 }) (Heap.Ns1.of_empty gn) λh' n2 s2=>?_)));obtain⟨o2,e2,p2,q2,d2,c2⟩:=n2.count (PySem.Within.cons name v PySem.Within.nil);refine wpAny_bind (wpAny_lookBehind q2 (by rw[d2];exact pastItsLine_dict (le_trans c2 (by rw[length_cons,length_nil,sizeLine_eq];omega))) ?_);exact wpAny_pure (k _ _ ((s2.2 e xs).trans gx) n2 λb o be q=>(s2.2 b (ne_of_lt (Heap.lt_size q))).trans (go b o be q))
def MZ{Q:Unit→Shared→Prop}(X:K.In s.heap)(Z:fu K C HE f)(ht:takerIn K C name=some none)(hx:s.heap.get? e=some ox)(hc:ox.cls= .ref C)(hd:ox.data= .fields vs)(hn:ox.dict=some dx)(N1:s.heap.Ns1 dx mA) (hw:PySem.Within mA ns) (hsz:ns.length≤1000)(k:∀h',h'.Ns1 dx (λy=>if y=name then some v else mA y)→Heap.SameBut dx s.heap h'→Q () { s with heap:=h',toks:=s.toks+2 }):
  wpAny 2e5 A (setAttr (.ref e) name v) Q E s:=by
 obtain⟨oD,ed,pd,hod,dD,_⟩:=id N1;have I:InstAt s.heap e ox C (some oD):=⟨hx,hc,by unfold notCls;rw[hd],by rw[hn];exact hod⟩;obtain⟨cd,rA,_,hh⟩:=Z.cd;refine set_plain X I Z.sa (Ip (s:={ s with toks:=s.toks+1 }) X Z I ht λb=>?_);obtain⟨oc,odi,oda,um⟩:=ox;dsimp only at hc hd hn;subst hc hd hn;refine wpAny_bind (wpAny_pure (wpAny_bind (wpAny_bind (wpAny_loadPart hx (wpAny_bind (Looks.here (s:={ s with toks:=s.toks+1 }) (looks_clsIn X rA) ?_))))));rw[hh];refine wpAny_pure (a:=some dx) (wpAny_bind (wpAny_pure (wpAny_bind ?_)));refine wpAny_nsSet1 (s:={ s with toks:=s.toks+1 }) N1 λh' n2 s2=>?_;obtain⟨o2,e2,p2,q2,d2,c2⟩:=n2.count (PySem.Within.cons name v hw);refine wpAny_bind (wpAny_lookBehind q2 (by rw[d2];exact pastItsLine_dict (le_trans c2 (by rw[length_cons,sizeLine_eq];omega))) ?_);exact wpAny_pure (k _ n2 s2)
end
section
variable {M:Model}{A:Around}{E:0e3}{s:Shared}{K:Frag}{env:Env}
def Iq{x:Sem Value}{Q:Flow→Shared→Prop}(ha:A.handled=none)
  (k:wpAny M A x (λv s1=>∃e oe vs C HE f,v= .ref e∧K.In s1.heap∧fu K C HE f∧s1.heap.get? e=some oe∧oe.cls= .ref C∧oe.data= .fields vs∧vs[1]? =some .none∧E (.ref e) s1) E s):wpAny M A (raiseStmt env (some x) none) Q E s:=by
 unfold raiseStmt;refine wpAny_bind (wpAny_mono k (λv s1 y=>?_) λ_ _ y=>y);obtain⟨e,oe,vs,C,HE,f,rfl,X,Z,he,hc,hd,h1,hE⟩:=y;have cB:(Value.ref C:: .ref HE::zH).contains (.type "BaseException")=true:=jH 0e0;obtain⟨nm,q,N,bs,sn,sub,ab,col,dd,k0,k1,k2,k3,k5,hK⟩:=Z.obj;have kC:=X _ _ hK;obtain⟨hp,g,d,tk,os⟩:=s1;obtain⟨oc,odi,oda,um⟩:=oe;dsimp only at hc hd;subst hc hd
 repeat (first|with_reducible refine wpAny_loadPart_at he ?_|with_reducible refine wpAny_loadPart_at kC ?_| (with_reducible refine wpAny_isSubtype_exc kC ?_;rw[cB]) |wp_step)
 rw[h1];refine wpAny_pure ?_;rw[if_neg 0e4];exact wpAny_pure (wpAny_raiseNew_none ha hE)
end
section
variable {prog:Program}{w:World}{A:Around}{E:0e3}{s:Shared}{K:Frag}{C HE f e:3e5}{ox:Obj}{vs:Array Value}
def Ir{Q:0e3}(X:K.In s.heap)(Z:fu K C HE f)(hx:s.heap.get? e=some ox)(hc:ox.cls= .ref C)(hd:ox.data= .fields vs)(h0:0<vs.size)(hz:us.length≤sizeLine)(k:∀h',h'.get? e=some { ox with data:= .fields (vs.setIfInBounds 0 (.ref s.heap.objs.size)) }→(∀b o,b≠e→s.heap.get? b=some o→h'.get? b=some o)→Q .none { s with heap:=h' }):
  wpAny 2e5 A (call (.builtin "ValueError.__init__") (.ref e::us)) Q E s:=by
 have F:=PySem.F.excBase_ValueError;obtain⟨nm,q,N,bs,sn,sub,ab,col,dd,k0,k1,k2,k3,k5,hK⟩:=Z.obj;have kC:=X _ _ hK;have c1:(Value.ref C:: .ref HE::zH).contains (.type "ValueError")=true:=jH 0e0;obtain⟨hp,g,d,t,os⟩:=s;obtain⟨oc,odi,oda,um⟩:=ox;dsimp only at hc hd;subst hc hd;refine wpAny_call (codeAny_call_builtin F.init.plain F.initEntry ?_);have f0:=F.noStar;simp only [checkBuiltinCall,F.initKind,F.initSplit,F.initRow]
 repeat (first|with_reducible refine wpAny_loadPart_at hx ?_|with_reducible refine wpAny_loadPart_at kC ?_| (with_reducible refine wpAny_isSubtype_exc kC ?_;rw[c1]) |wp_step)
 refine wpAny_onRaise ?_;rw[show∀(a b:String) (n:Nat),Bind.check ⟨.positional,"*","ValueError", .self,[⟨"args", .varPos,false⟩]⟩ a b n (List.map (λx=>x.fst) ({ pos:=Value.ref e::us }:Args).kw)=pure () from λa b n=>check_star_args _ _ _ _ _ _];refine wpAny_pure ?_;wp_walk;rw[show vs[0]? =some vs[0] from Array.getElem?_eq_getElem h0];refine wpAny_pure (wpAny_bind (wpAny_setField (Heap.get?_push_of_some _ hx) rfl h0 ?_));generalize hG:((hp.push (sf us)).update e (Obj.mapFields (·.setIfInBounds 0 (Value.ref hp.objs.size))))=G
 have gx:G.get? e=some { cls:= .ref C,dict:=odi,data:= .fields (vs.setIfInBounds 0 (.ref hp.objs.size)),slots:=um }:=by
  rw[←hG];exact Heap.get?_update_self (Obj.mapFields (·.setIfInBounds 0 (Value.ref hp.objs.size))) (Heap.get?_push_of_some (sf us) hx) rfl
 have go:∀b o,b≠e→hp.get? b=some o→G.get? b=some o:=λb o be q=>by
  rw[←hG];exact(Heap.get?_update_other _ _ (Ne.symm be)).trans (Heap.get?_push_of_some _ q)
 have fin:=k G gx go;generalize vs[0]=v0
 cases v0 with
 |ref a=>
  dsimp only
  repeat wp_step
  exact fin
 |_=>exact wpAny_pure (wpAny_pure fin)
end
end PySem.W
namespace L2
open PySem PySem.Spec PyProof.Rows
def ur(dx:3e5)(fs:List (Str×V)):HO:= .ext λh=>∃mA,h.Ns1 dx mA∧(∀f,hX (fs.lookup f) (mA f))∧PySem.Within mA (fs.map 1e8)
def p8(e C:3e5)(dx:Option Addr):HO:= .ext λh=>∃o vs,h.get? e=some o∧o.cls= .ref C∧o.dict=dx∧o.data= .fields vs∧vs[1]? =some .none
def vC(e C:3e5)(dx:Option Addr):HO:= .ext λh=>∃o vs,h.get? e=some o∧o.cls= .ref C∧o.dict=dx∧o.data= .fields vs
section
variable {P:Program}{w:World}{H:Hp}{h:Heap}{e C dx:3e5}{od:Option Addr}{o:Obj}{vs:Array Value}
def PL(he:h.get? e=some o)(hc:o.cls= .ref C)(hd:o.dict=od)(hf:o.data= .fields vs):cf P w H h e (vC e C od):=
 ⟨⟨o,vs,he,hc,hd,hf⟩,⟨o,he⟩,λ_ _ ⟨o,vs,a,b⟩ k=>⟨o,vs,k _ a,b⟩⟩
def Iu(he:h.get? e=some o)(hc:o.cls= .ref C)(hd:o.dict=od)(hf:o.data= .fields vs)(h1:vs[1]? =some .none):cf P w H h e (p8 e C od):=
 ⟨⟨o,vs,he,hc,hd,hf,h1⟩,⟨o,he⟩,λ_ _ ⟨o,vs,a,b⟩ k=>⟨o,vs,k _ a,b⟩⟩
def PM(n:h.Ns1 dx mA)(r:∀f,hX (fs.lookup f) (mA f))(wi:PySem.Within mA (fs.map 1e8)):cf P w H h dx (ur dx fs):=by
 obtain⟨o,es,ep,ho,z⟩:=id n;exact⟨⟨mA,n,r,wi⟩,⟨o,ho⟩,λ_ _ ⟨m,⟨o,es,ep,ho,z⟩,r⟩ k=>⟨m,⟨o,es,ep,k _ ho,z⟩,r⟩⟩
def xw(ok:kj P w H h)(q:H e=some (vC e C od)):∃o vs,h.get? e=some o∧o.cls= .ref C∧o.dict=od∧o.data= .fields vs:=(ok e _ q).1
def xx(ok:kj P w H h)(q:H e=some (p8 e C od)):∃o vs,h.get? e=some o∧o.cls= .ref C∧o.dict=od∧o.data= .fields vs∧vs[1]? =some .none:=(ok e _ q).1
def Iv(ok:kj P w H h)(q:H dx=some (ur dx fs)):∃mA,h.Ns1 dx mA∧(∀f,hX (fs.lookup f) (mA f))∧PySem.Within mA (fs.map 1e8):=(ok dx _ q).1
end
structure ij(X:Cx)(T:3e5):Prop where
 above:X.s₀.heap.objs.size≤T
 loc:T≠X.env.locals
 cell:∀x c,X.env.cells.lookup x=some c→c≠T
 pn:∀p∈X.pn,p.1≠T
section
variable {X:Cx}{pins:1e4}{σ:St}{H:Hp}{s:Shared}{e C:3e5}{od tb:Option Addr}{h':Heap}{ER:St→XK}{v:Value}
def Inv.Iw(I:1e1)(h:s.heap.objs.size≤T):ij X T:=by
 refine⟨le_trans I.sz h,λz=>?_,λx c q z=>?_,λp hp z=>?_⟩
 ·subst z;exact absurd I.lt (Nat.not_lt.mpr h)
 ·obtain⟨_,o,ho,_⟩:=I.cell x c q;subst z;exact absurd (Heap.lt_size ho) (Nat.not_lt.mpr h)
 ·have q:=(I.pin p (mem_append_left _ hp)).1;rw[z] at q;exact absurd (Heap.lt_size q) (Nat.not_lt.mpr h)
def jh(X:Cx)(ER:St→XK)(v:Value)(s:Shared):Prop:=
 ∃e C dx σ H tb,v= .ref e∧Inv X [] σ H s∧H e=some (vC e C dx)∧s.heap.kh e tb∧(∀T,tb=some T→H T=none∧ij X T)∧ER σ (.ref C) dx H
def Lets(X:Cx)(ER:St→XK):Prop:=∀v s,jh X ER v s→X.xe v s
def ij.dO{E:0e3}(n:ij (X.i3 E) T):ij X T:=⟨n.above,n.loc,n.cell,n.pn⟩
theorem jh.dO{E:0e3}(z:jh (X.i3 E) ER v s):jh X ER v s:=by
 obtain⟨e,C,dx,σ,H,tb,ev,I,he,fl,ht,hE⟩:=z;exact⟨e,C,dx,σ,H,tb,ev,I.dO,he,fl,λT q=>⟨(ht T q).1,(ht T q).2.dO⟩,hE⟩
def si:Lets (X.i3 (jh X ER)) ER:=λ_ _ z=>z.dO
def Inv.Iy(I:1e1):Inv X [] σ H s:=I.wW λp hp=>absurd hp 2e9
def Inv.moved(I:Inv X [] σ H s)(he:H e=some (vC e C od))(ht:∀T,tb=some T→H T=none∧ij X T)(m:Heap.Moved (uw X.stack) e tb s.heap h'):Inv X [] σ H { s with heap:=h' }:=by
 have ne:∀b,H b=none→b≠e:=λb n z=>by
  subst z;rw[he] at n;cases n
 refine I.y8 (s':={ s with heap:=h' }) (H':=H) (ch:=tb.toList) rfl ⟨λb o q n hb hx=>m.keep b o q (ne b n) (λz=>hx (by rw[z];simp)) hb,λb o q n hb hx=>m.slot b o q (ne b n) λz=>hx (by rw[z];simp),λ_ _ _ n _=>n,λb o q _=>m.there b o q,
  λ_ _ q=>q,λ_ _ _ q=>q,λ_ ps q=>⟨#[],by simpa using q⟩⟩ (λa o q=>?_) I.bare λb hb=>?_
 ·by_cases ae:a=e
  ·subst ae;rw[he] at q;cases q;obtain⟨o,vs,h1,h2,h3,h4⟩:=xw I.aM he;obtain⟨vs',z⟩:=m.self o h1;exact PL z h2 h3 rfl
  ·refine(I.aM a o q).rp (λb u hb z=>?_) (λ_ q=>q) λ_ _ q=>q
   have Ft:∃o',H b=some o':=by
    rcases hb with hb|hb
    ·exact⟨o,by rw[hb];exact q⟩
    ·exact⟨_,hb⟩
   obtain⟨o',Ft⟩:=Ft;refine m.keep b u z (λz=>?_) (λz=>?_) λz=>?_
   ·rcases hb with hb|hb
    ·exact ae (hb.symm.trans z)
    ·rw[z,he] at hb;cases hb
   ·rw[(ht b z).1] at Ft;cases Ft
   ·rw[I.wV b z] at Ft;cases Ft
 ·have z:tb=some b:=by
   cases tb with
   |none=>simp at hb
   |some T=>simp at hb;rw[hb]
  obtain⟨_,n⟩:=ht b z;exact⟨.inr n.above,Ne.symm (Ne.symm n.loc),n.cell,by simpa using n.pn⟩
def BI(X:Cx):Prop:=X.stack=X.env::X.outer∧X.env.frame=some X.env.locals
def lD(hs:BI X)(I:1e1):X.A.frames=some (X.env::X.outer)∧s.heap.FunFrames X.base (X.env::X.outer):=by
 refine⟨by rw[I.ok.frames,hs.1],?_⟩;rw[←hs.1];exact I.stack
def xy(I:Inv X [] σ H s){T:3e5}(ht:∀T,tb=some T→H T=none∧ij X T)(b:tb=some T∨s.heap.objs.size≤T):∀T',some T=some T'→H T'=none∧ij X T':=λT' z=>by
 cases z;rcases b with b|b
 ·exact ht T b
 ·exact⟨I.aM.fresh b,I.Iw b⟩
def Fy(hs:BI X):PassesOwn 1e0 X.A X.env (jh X ER):=by
 intro v s' z;obtain⟨e,C,dx,σ,H,tb,ev,I,he,fl,ht,hE⟩:=z;subst ev;obtain⟨fr,ff⟩:=lD hs I;refine qG fr ff hs.2 fl λh1 T a b m=>?_;have m1:Heap.Moved (uw X.stack) e tb s'.heap h1:=by unfold uw;rw[hs.1];exact m
 have I1:=I.moved he ht m1;have t1:=xy I ht b;refine MW (s:={ s' with heap:=h1 }) a λh2 a2 m2=>?_;exact⟨e,C,dx,σ,H,some T,rfl,I1.moved he t1 (m2.mono λ_ z=>absurd z 2e9),he,a2,t1,hE⟩
end
def Bb(P:Program)(w:World):C3:=λouter H s E v s'=>
 ∃e C dx H' tb,v= .ref e∧s'.os=s.os∧AllBare s'.gens∧Un (uw outer) [] H H' s.heap s'.heap∧kj P w H' s'.heap∧H' e=some (vC e C dx)∧s'.heap.kh e tb∧(∀T,tb=some T→H' T=none∧s.heap.objs.size≤T)∧E (.ref C) dx H'
section
variable {P:Program}{w:World}{K:0e9}{mg:1e3}{base:Heap}{N ps:3e8}{qual:Str}{scope:Scope}{f:3e5}{cd:Value}{A:Around}{outer:List Env}{s s':Shared}{H:Hp}{E:XK}{v:Value}
def zI(z:jh (jy (Bb P w) P w K mg base N qual scope f cd A outer s H E) (λ_=>E) v s'):(jy (Bb P w) P w K mg base N qual scope f cd A outer s H E).xe v s':=by
 obtain⟨e,C,dx,σ,H',tb,ev,I,he,fl,ht,hE⟩:=z;subst ev;obtain⟨fr,ff⟩:=lD (X:=jy (Bb P w) P w K mg base N qual scope f cd A outer s H E) ⟨rfl,rfl⟩ I;refine Io fr ff rfl fl λh1 T a b m=>?_;have I1:=I.moved he ht m;have t1:=xy I ht b;have hB:=I.base
 have ne:∀b,H' b=none→b≠e:=λb n z=>by
  subst z;rw[he] at n;cases n
 have nt:∀b o,s.heap.get? b=some o→tb≠some b:=λb o q z=>absurd (Heap.lt_size q) (Nat.not_lt.mpr (ht b z).2.above);refine⟨e,C,dx,H',some T,rfl,I.os,I.bare,⟨λb o q n hb hx=>?_,λb o q n hb hx=>?_,hB.free,λb o q hx=>?_,hB.oO,hB.oP,hB.oQ⟩,I1.aM,he,a,λT' z=>⟨(t1 T' z).1,(t1 T' z).2.above⟩,hE⟩
 ·refine m.keep b o (hB.keep b o q n hb hx) (ne b (hB.free b o q n hx)) (nt b o q) λz=>?_;rcases mem_cons.mp (show b∈s.heap.objs.size::uw outer from z) with z|z
  ·exact absurd (Heap.lt_size q) (by rw[z];exact lt_irrefl _)
  ·exact hb z
 ·obtain⟨sl,z⟩:=hB.slot b o q n hb hx;obtain⟨QW,z'⟩:=m.slot b _ z (ne b (hB.free b o q n hx)) (nt b o q);exact⟨QW,z'⟩
 ·obtain⟨o',z⟩:=hB.there b o q hx;exact m.there b o' z
noncomputable def L7(P:Program)(w:World)(K:0e9)(mg:1e3)(base:Heap)(N:3e8)(qual:Str)(scope:Scope)(f:3e5)(cd:Value)(A:Around)(outer:List Env)(s:Shared)(H:Hp)(E:XK):Cx:=
 (jy (Bb P w) P w K mg base N qual scope f cd A outer s H E).i3 (jh (jy (Bb P w) P w K mg base N qual scope f cd A outer s H E) λ_=>E)
def mX:Lets (L7 P w K mg base N qual scope f cd A outer s H E) (λ_=>E):=λ_ _ z=>z.dO
def Iz:PassesOwn (model P w) (L7 P w K mg base N qual scope f cd A outer s H E).A (L7 P w K mg base N qual scope f cd A outer s H E).env (L7 P w K mg base N qual scope f cd A outer s H E).xe:=Fy (X:=jy (Bb P w) P w K mg base N qual scope f cd A outer s H E) ⟨rfl,rfl⟩
def Dm{st:List Stmt}{t:TS}(h:mn (L7 P w K mg base N qual scope f cd A outer s H E) st t):mn (jy (Bb P w) P w K mg base N qual scope f cd A outer s H E) st t:=λpins s1 σ H1 D I hw=>
 wpAny_mono (h pins s1 σ H1 D (I.i3 _) hw) (λ_ _ q=>q.dO) λ_ _ z=>zI z
def Hf.Fz{x:Str}{st:Stmt}{fd:FuncData}{k:Nat}{sp:Sp}(F:Hf K x qual st f fd)(S:av N ps (aj st))(len:3e1)
  (dn:∀(aY:Value) (A:Around) (outer:List Env) (s:Shared) (H:Hp) (vs:4e5) (Q:VK) (E:XK),cG k (A.deeper (envOfC qual (aj st) s.heap.objs.size f aY))→sp vs H Q E→
   ∃t,mn (L7 P w K mg base N qual (aj st) f aY A outer s H E) (aR st) t∧t { nx:=λ_ H'=>Q .cw H',rt:=Q } (start N vs) H):fD P w K mg base (Bb P w) (k+1) f fd ps sp:=by
 obtain⟨oc,od,kV,doc,pm,an,aY,ct,um,rfl,lk,rA⟩:=F.ex;refine fn_of lk rA S len λA outer s H vs Q E hr C4=>?_;obtain⟨t,h,q⟩:=dn aY A outer s H vs Q E hr C4;exact⟨t,Dm h,q⟩
def zB.Fz{x:Str}{st:Stmt}{fd:FuncData}{dV:Value}{k:Nat}{sp:Sp}(F:zB K x qual st f fd dV)(S:av N ps (aj st))(len:3e1)
  (dn:∀(aY:Value) (A:Around) (outer:List Env) (s:Shared) (H:Hp) (vs:4e5) (Q:VK) (E:XK),cG k (A.deeper (envOfC qual (aj st) s.heap.objs.size f aY))→sp vs H Q E→
   ∃t,mn (L7 P w K mg base N qual (aj st) f aY A outer s H E) (aR st) t∧t { nx:=λ_ H'=>Q .cw H',rt:=Q } (start N vs) H):fD P w K mg base (Bb P w) (k+1) f fd ps sp:=by
 obtain⟨oc,od,kV,doc,pm,an,aY,ct,um,rfl,lk,rA⟩:=F.ex;refine fn_of lk rA S len λA outer s H vs Q E hr C4=>?_;obtain⟨t,h,q⟩:=dn aY A outer s H vs Q E hr C4;exact⟨t,Dm h,q⟩
end
section
variable {X:Cx}{pins:1e4}{σ:St}{H:Hp}{s s':Shared}{ER:St→XK}{v:Value}
def FA(L:Lets X ER)(I:1e1)(h:Bb X.prog X.w X.stack H s (ER σ) v s'):X.xe v s':=by
 obtain⟨e,C,dx,H',tb,ev,os,bare,un,aM,he,fl,ht,hE⟩:=h;have I1:Inv X pins σ H' s':=I.y8 os un aM bare λb z=>absurd z 2e9;exact L v s' ⟨e,C,dx,σ,H',tb,ev,I1.Iy,he,fl,λT z=>⟨(ht T z).1,I.Iw (ht T z).2⟩,hE⟩
end
section
variable {X:Cx}{k:Nat}{f C:3e5}{fd:FuncData}{ps:3e8}{sp:Sp}{lz:4e5}{ds:4e1}{ER:St→XK}{x m:Str}{p pos apos:Pos}{e o:Expr}{es:List Expr}{ta:TE}{t:TA}
def RL(sp:Sp)(lz:4e5)(ER:St→XK)(t:TA):TE:=fun σ H Q=>t σ H λvs H1=>sp (vs++lz) H1 Q (ER σ)
def RM(C:3e5)(m:Str)(sp:Sp)(lz:4e5)(ER:St→XK)(ta:TE)(t:TA):TE:=fun σ H Q=>ta σ H λx H1=>∃a dx fs,x= .ref a∧H1 a=some (.ins C dx fs)∧fs.lookup m=none∧
 t σ H1 λvs H2=>sp (x::(vs++lz)) H2 Q (ER σ)
def Dn(F:fD X.prog X.w X.K X.mg X.base (Bb X.prog X.w) k f fd ps sp)(hr:cG k X.A)(hb:Binds X.K fd ps ds)(hd:Vals lz ds)(L:Lets X ER)(I:1e1) (r:Vals vs us) (h:sp (vs++lz) H Q (ER σ)):wpAny 1e0 X.A (call (.ref f) us) (EP X pins σ Q) X.xe s:=by
 have r2:Vals (vs++lz) (us++ds):=r.append hd;have hl:(us++ds).length=ps.length:=by rw[←r2.length];exact F.len _ _ _ _ h
 refine wpAny_call (codeAny_mono (F.run X.A X.stack s H ⟨us,[]⟩ (us++ds) (vs++lz) Q (ER σ) hr I.Mu (hb s us I.ju hl) r2 h) λr s' hq=>?_)
 cases r with
 |error e=>exact FA L I hq
 |ok fl=>
  cases fl with
  |ret u=>exact I.after hq
  |next=>exact False.elim hq
  |brk=>exact False.elim hq
  |cont=>exact False.elim hq
def zJ(F:fD X.prog X.w X.K X.mg X.base (Bb X.prog X.w) k f fd ps sp)(hr:cG k X.A)(hg:Gl X x)(hm:X.mg x=some (.ref f))(hk:keepIn X.K (.ref f)=true)(hb:Binds X.K fd ps ds)(hd:Vals lz ds)(L:Lets X ER)
  (ha:PA X (e::es) t) (Fb:4e2:=by decide) (he:starEach (e::es) X.env=(false,eval e X.env)::starEach es X.env:=by rfl) (gX:4e4:=by rfl):
  PE X (.Call (.Name x p) (e::es) [] pos) (RL sp lz ER t):=by
 intro pins s σ H Q I h;refine wpAny_Call_Name_kw (jv I hg hm ?_ Fb);refine PySem.W.callWith_K (h₀:=X.base) I.ok.mod.gz hk (bR (ha pos pins s σ H _ I h) λus s1 ⟨vs,H1,I1,r,q⟩=>⟨I1.ju,?_⟩) he gX;exact Dn F hr hb hd L I1 r q
def mY{pl:Sem Bool}(he:PE X o ta)(c:uz X.K C)(hm:Meth X.K C m f)(F:fD X.prog X.w X.K X.mg X.base (Bb X.prog X.w) k f fd ps sp)(hr:cG k X.A)(hb:Binds X.K fd ps ds)(hd:Vals lz ds)(L:Lets X ER)(ha:PA X (e::es) t)
  (eC:starEach (e::es) X.env=(false,eval e X.env)::starEach es X.env:=by rfl) (gX:4e4:=by rfl)
  (ht:eval (.Call (.Attribute o m apos) (e::es) [] pos) X.env=(do
   let ov←eval o X.env
   standAt apos.atName
   let (f,first)←holding [ov] (getMethod ov m pl)
   callWith pos f first (backTo pos (starEach (e::es) X.env)) (backToKw pos (keywordEach [] X.env))):=by rfl):
  PE X (.Call (.Attribute o m apos) (e::es) [] pos) (RM C m sp lz ER ta t):=by
 intro pins s σ H Q I h;refine PySem.W.methodCall_KW (pl:=pl) (bR (he pins s σ H _ I h) λu s1 ⟨x,H1,I1,rx,a,dx,fs,ex,ea,l,q⟩=>?_) ht;subst ex;obtain rfl:u=Value.ref a:=rx;refine mv I1 ea c hm l ?_;refine PySem.W.callWith_K (first:=[.ref a]) (h₀:=X.base) I.ok.mod.gz hm.kp (bR (ha pos pins s1 σ H1 _ I1 q) λus s2 ⟨vs,H2,I2,r,q2⟩=>⟨I2.ju,?_⟩) eC gX
 exact Dn (us:= .ref a::us) (vs:= .ref a::vs) F hr hb hd L I2 (.cons rfl r) q2
def RN(C:3e5)(sp:Sp)(t:TA):TE:=fun σ H Q=>t σ H λvs H1=>vs.length≤100∧∀x,H1 x=none→sp (.ref x::vs) (upd H1 x (p8 x C none)) (λv H2=>v= .cw∧Q (.ref x) H2) E0
def FC(Z:PySem.W.fu X.K C HE f)(F:fD X.prog X.w X.K X.mg X.base rO k f fd ps sp)(hr:cG (k+1) X.A)(hb:Binds X.K fd ps [])(I:1e1) (r:Vals vs us) (hz:vs.length≤100) (h:∀x,H x=none→sp (.ref x::vs) (upd H x (p8 x C none)) (λv H2=>v= .cw∧Q (.ref x) H2) E0):
  wpAny 1e0 X.A (call (.ref C) us) (EP X pins σ Q) X.xe s:=by
 have hq:=h 3e2 (I.aM.fresh (le_succ _))
 have e2:((s.heap.push (PySem.W.sf us)).push (PySem.W.sh C s.heap.objs.size)).get? 3e2=some (PySem.W.sh C s.heap.objs.size):=by
  have:=Heap.get?_push_size (s.heap.push (PySem.W.sf us)) (o:=PySem.W.sh C s.heap.objs.size) rfl
  rwa [Heap.size_push] at this
 have I2:Inv X pins σ (upd H 3e2 (p8 3e2 C none)) { s with heap:=(s.heap.push (PySem.W.sf us)).push (PySem.W.sh C s.heap.objs.size) }:=
  I.laid (a:=s.heap.objs.size+1) (t':=s.toks) (λb u q=>Heap.get?_push_of_some _ (Heap.get?_push_of_some _ q)) (le_succ _) (Iu e2 rfl rfl rfl rfl)
 have r2:Vals (V.ref 3e2::vs) (Value.ref 3e2::us):= .cons rfl r
 have hl:(Value.ref 3e2::us++[]).length=ps.length:=by
  have e:=r2.length;rw[F.len _ _ _ _ hq] at e;rw[append_nil];exact e.symm
 have U5:us.length≤sizeLine:=by
  rw[←r.length];exact le_trans hz (by rw[sizeLine_eq];decide)
 have Hh:=hb { s with heap:=(s.heap.push (PySem.W.sf us)).push (PySem.W.sh C s.heap.objs.size) } (Value.ref 3e2::us) I2.ju hl;rw[append_nil] at Hh;refine wpAny_call (PySem.W.MX I.ju Z U5 (codeAny_mono (F.run _ X.stack _ _ ⟨Value.ref 3e2::us,[]⟩ (Value.ref 3e2::us) _ _ E0 (hr.make C us []) (I2.Mu.make C us []) Hh r2 hq) λr s' qy=>?_))
 cases r with
 |error e=>exact False.elim qy
 |ok fl=>
  cases fl with
  |ret u=>
   obtain⟨v,H',I3,rv,ev,q3⟩:=I2.after qy;subst ev;exact⟨rv,⟨V.ref 3e2,H',I3,rfl,q3⟩⟩
  |next=>exact False.elim qy
  |brk=>exact False.elim qy
  |cont=>exact False.elim qy
def zK(Z:PySem.W.fu X.K C HE f)(F:fD X.prog X.w X.K X.mg X.base rO k f fd ps sp)(hr:cG (k+1) X.A)(hg:Gl X x)(hm:X.mg x=some (.ref C))(hk:keepIn X.K (.ref C)=true)(hb:Binds X.K fd ps [])(ha:PA X (e::es) t) (Fb:4e2:=by decide) (he:starEach (e::es) X.env=(false,eval e X.env)::starEach es X.env:=by rfl) (gX:4e4:=by rfl):
  PE X (.Call (.Name x p) (e::es) [] pos) (RN C sp t):=by
 intro pins s σ H Q I h;refine wpAny_Call_Name_kw (jv I hg hm ?_ Fb);refine PySem.W.callWith_K (h₀:=X.base) I.ok.mod.gz hk (bR (ha pos pins s σ H _ I h) λus s1 ⟨vs,H1,I1,r,q⟩=>⟨I1.ju,?_⟩) he gX;exact FC Z F hr hb I1 r q.1 q.2
def RO(K:0e9)(te:TE)(ER:St→XK):TS:=λ_ σ H=>te σ H λv H1=>∃e C HE f dx,v= .ref e∧PySem.W.fu K C HE f∧H1 e=some (p8 e C dx)∧ER σ (.ref C) dx (upd H1 e (vC e C dx))
def zL(hc:X.calm=true)(L:Lets X ER)(he:PE X ex te):PS X (.Raise (some ex) none pos) (RO X.K te ER):=by
 intro pins s σ H D I h;rw[arm_exec_Raise];refine wpAny_bind (wpAny_standAt (PySem.W.Iq (K:=X.K) (I.ok.hd hc) (wpAny_bind (bR (he pins s σ H _ I h) λu s1 ⟨v,H1,I1,rv,e,C,HE,f,dx,ev,Z,hx,q⟩=>wpAny_bind (wpAny_standAt (wpAny_pure ?_))))));subst ev;obtain rfl:u=Value.ref e:=rv;obtain⟨o,vs,h1,h2,h3,h4,h5⟩:=xx I1.aM hx;refine⟨e,o,vs,C,HE,f,rfl,I1.ju,Z,h1,h2,h4,h5,L _ _ ⟨e,C,dx,σ,_,none,rfl,?_,aa,⟨⟨o,vs,h1,h4,h5⟩,λT z=>by cases z⟩,λT z=>(by cases z),q⟩⟩;have J:=I1.Iy.write (x:=e) (e:=e) (o:=vC e C dx) (h':=s1.heap) (t':=s1.toks) (by rw[hx];exact True.intro) (.inl rfl) (λ_ _ _ q=>q) ⟨o,h1⟩ (PL h1 h2 h3 h4);exact J
end
end L2
namespace L2
open PySem PySem.Spec PyProof.Rows
def RP(h:H e=some o):upd H e o=H:=by
 funext b;by_cases z:b=e
 ·subst z;rw[aa,h]
 ·rw[ah z]
section
variable {X:Cx}{x f:Str}{a b o value ex:Expr}{ta tb tv:TE}{p pos apos pos':Pos}
structure IA(K:0e9)(HE:3e5):Prop where
 sp:PySem.W.specialIn K (.ref HE) "__getattribute__" =some (some (.builtin "type.__getattribute__"))
 rd:PySem.W.readsIn K HE (.type "type")=true
 fc:PySem.W.findCls K (.ref HE) (.type "type") "__init__" =some (.val (.builtin "ValueError.__init__"))
def RQ(K:0e9)(ta tb:TE):TE:=fun σ H Q=>ta σ H λv H1=>tb σ H1 λ_ H2=>∃e C HE f dx,v= .ref e∧PySem.W.fu K C HE f∧H2 e=some (p8 e C dx)∧Q .cw H2
def zM{pl:Sem Bool}(hg:Gl X x)(hm:X.mg x=some (.ref HE))(B:IA X.K HE)(ha:PE X a ta)(hb:PE X b tb)(hd:4e2:=by decide)(eC:starEach [a,b] X.env=(false,eval a X.env)::starEach [b] X.env:=by rfl) (hst1:starEach [b] X.env=(false,eval b X.env)::starEach [] X.env:=by rfl) (gX:(backTo pos (starEach [b] X.env)).any 1e8=false:=by rfl)(ht:eval (.Call (.Attribute (.Name x p) "__init__" apos) [a,b] [] pos) X.env=(do
   let ov←eval (.Name x p) X.env
   standAt apos.atName
   let (f,first)←holding [ov] (getMethod ov "__init__" pl)
   callWith pos f first (backTo pos (starEach [a,b] X.env)) (backToKw pos (keywordEach [] X.env))):=by rfl):
  PE X (.Call (.Attribute (.Name x p) "__init__" apos) [a,b] [] pos) (RQ X.K ta tb):=by
 intro pins s σ H Q I h;refine PySem.W.methodCall_KW (pl:=pl) (jv I hg hm ?_ hd) ht;refine PySem.W.method_cls I.ju B.sp (PySem.W.cls_value I.ju B.rd B.fc rfl ?_);have I0:=I.tok (s.toks+1);refine PyProof.Rows.callWith_builtin1 (bR (ag ha (ag hb ak hst1) eC pos pins _ σ H (λvs H2=>match vs with| [v,_]=>∃e C HE f dx,v=V.ref e∧PySem.W.fu X.K C HE f∧H2 e=some (p8 e C dx)∧Q .cw H2|_=>False) I0 h) λus s1 ⟨vs,H2,I2,r,q⟩=>?_) eC gX
 match vs,q with
 | [v,u],q=>
   obtain⟨e,C,HE,f,dx,e1,Z,hx,q⟩:=q;subst e1;obtain⟨u1,u2,rfl,r1,r2⟩:=vals2 r;obtain rfl:u1=Value.ref e:=r1;obtain⟨ob,vs,h1,h2,h3,h4,h5⟩:=xx I2.aM hx;have sz:1<vs.size:=(Array.getElem?_eq_some_iff.mp h5).1;refine PySem.W.Ir I2.ju Z h1 h2 h4 0e5 (by rw[sizeLine_eq,length_cons,length_nil];decide) λh' g1 g2=>⟨.cw,H2,?_,rfl,q⟩;have J:=I2.write (x:=e) (e:=e) (o:=p8 e C dx) (h':=h') (t':=s1.toks) (by rw[hx];exact True.intro) (.inl rfl) (λb o be q=>g2 b o be q) ⟨_,g1⟩ (Iu g1 h2 h3 rfl (by rw[Array.getElem?_setIfInBounds_ne 0e4];exact h5));rw[RP hx] at J;exact J
def Wu(K:0e9)(ta tv:TE)(f:Str):TS:=λD σ H=>tv σ H λy H1=>ta σ H1 λv H2=>∃e C HE g,v= .ref e∧PySem.W.fu K C HE g∧PySem.W.takerIn K C f=some none∧
 ((H2 e=some (p8 e C none)∧∀dx,H2 dx=none→dx≠e→D.nx σ (upd (upd H2 dx (ur dx [(f,y)])) e (p8 e C (some dx))))∨
  ∃dx fs,H2 e=some (p8 e C (some dx))∧H2 dx=some (ur dx fs)∧fs.length<1000∧D.nx σ (upd H2 dx (ur dx (cx f y fs))))
def jI(ha:PE X o ta)(hv:PE X value tv)(hs:swapsWith value (some (.Attribute o f pos')) pos.line X.env=pure false):PS X (.Assign [.Attribute o f pos'] value pos) (Wu X.K ta tv f):=by
 intro pins s σ H D I h;refine plainObj_wpAny_Assign_Attribute (bR (hv pins s σ H _ I h) λu s1 ⟨y,H1,I1,ry,q⟩=>bR (ha pins s1 σ H1 _ I1 q) λov s2 ⟨x,H2,I2,rx,e,C,HE,g,ex,Z,tk,q2⟩=>?_) hs;subst ex;obtain rfl:ov=Value.ref e:=rx;rcases q2 with ⟨hx,q2⟩ | ⟨dx,fs,hx,hd,hl,q2⟩
 ·obtain⟨ob,vs,h1,h2,h3,h4,h5⟩:=xx I2.aM hx;refine PySem.W.MY I2.ju Z tk h1 h2 h4 h3 λh' Rx g1 g2 g3=>?_;have ne:s2.heap.objs.size≠e:=ne_of_gt (Heap.lt_size h1);have fr:=I2.aM.fresh (le_refl s2.heap.objs.size);generalize hN:s2.heap.objs.size=n at g1 g2 ne fr
  have at':∀b o,H2 b=some o→b≠e→upd (upd H2 n (ur n [(f,y)])) e (p8 e C (some n)) b=some o:=λb o q be=>by
   rw[ah be,ah (af q fr)];exact q
  refine⟨σ,upd (upd H2 n (ur n [(f,y)])) e (p8 e C (some n)),I2.un (h':=h') (t':=Rx) ⟨λb o q nn _ _=>g3 b o (λz=>?_) q,λb o q nn _ _=>⟨o.slots,g3 b o (λz=>?_) q⟩,λb o q nn _=>?_,λb o q _=>?_,λb xs q=>at' b _ q λz=>?_,λb o u q=>at' b _ q λz=>?_,λb ps q=>⟨#[],?_⟩⟩ λb o q=>?_,q2 n fr ne⟩
  ·rw[z,hx] at nn;cases nn
  ·rw[z,hx] at nn;cases nn
  ·rw[ah (λz=>by rw[z,hx] at nn;cases nn),ah (λz=>by rw[z,←hN] at q;exact absurd (Heap.lt_size q) (lt_irrefl _))];exact nn
  ·by_cases be:b=e
   ·subst be;exact⟨_,g1⟩
   ·exact⟨o,g3 b o be q⟩
  ·rw[z,hx] at q;cases q
  ·rw[z,hx] at q;cases q
  ·rw[Array.append_empty];exact at' b _ q λz=>by rw[z,hx] at q;cases q
  ·by_cases be:b=e
   ·subst be;rw[aa] at q;cases q;exact Iu g1 h2 rfl h4 h5
   ·rw[ah be] at q;by_cases bn:b=n
    ·subst bn;rw[aa] at q;cases q;refine PM g2 (λg=>?_) λg hg=>?_
     ·by_cases eg:g=f
      ·subst eg;simp only [List.lookup,beq_self_eq_true,if_true];exact ry
      ·have e1:(g==f)=false:=by simpa using eg
       simp only [List.lookup,e1,if_neg eg];exact True.intro
     ·by_cases eg:g=f
      ·simp [eg]
      ·exact absurd (if_neg eg) hg
    ·rw[ah bn] at q;refine(I2.aM b o q).rp (λc u hc z=>g3 c u (λce=>?_) z) (λc z=>at' c _ z λce=>?_) λc xs z=>at' c _ z λce=>?_
     ·rcases hc with hc|hc
      ·exact be (hc.symm.trans ce)
      ·rw[ce,hx] at hc;cases hc
     ·rw[ce,hx] at z;cases z
     ·rw[ce,hx] at z;cases z
 ·obtain⟨ob,vs,h1,h2,h3,h4,h5⟩:=xx I2.aM hx;obtain⟨mA,n1,r1,w1⟩:=Iv I2.aM hd;have hz:(fs.map 1e8).length≤1000:=by rw[length_map];omega
  refine PySem.W.MZ I2.ju Z tk h1 h2 h4 h3 n1 w1 hz λh' g1 sb=>⟨σ,_,?_,q2⟩;have iL:∃o,h'.get? dx=some o:=let ⟨o,_,_,e',_⟩:=g1;⟨o,e'⟩;refine I2.write (x:=dx) (e:=dx) (t':=s2.toks+2) (by rw[hd];exact True.intro) (.inl rfl) (λb q hb z=>(sb.2 b hb).trans z) iL (PM g1 (λg=>?_) λg hg=>?_)
  ·rw[aF];by_cases q:g=f
   ·rw[if_pos q,if_pos q];exact ry
   ·rw[if_neg q,if_neg q];exact r1 g
  ·by_cases q:g=f
   ·rw[q];exact(jf f y fs).1
   ·exact(jf f y fs).2 g (w1 g λz=>hg (by rw[if_neg q];exact z))
def tFmt(ta:TE):TE:=fun σ H Q=>ta σ H λv H1=>(∃i,v= .int i∧i.natAbs.log2<1920∧Q (.str (toString i)) H1)∨∃y,v= .str y∧y.length≤sizeLine∧Q (.str y) H1
def mB(he:PE X ex ta):PE X (.FormattedValue ex (-1) none pos) (tFmt ta):=by
 intro pins s σ H Q I h;refine FormattedValue_plain (bR (he pins s σ H _ I h) λu s1 ⟨v,H1,I1,rv,q⟩=>?_);rcases q with ⟨i,rfl,hi,q⟩ | ⟨y,rfl,hy,q⟩
 ·obtain⟨t,rfl⟩:=rv;exact formatField_int_small hi ⟨.str (toString i),H1,I1.tok _,2e4,q⟩
 ·obtain⟨t,rfl⟩:=rv;exact formatField_str (λt' tk=>⟨.str y,H1,I1.tok tk,2e4,q⟩) hy
def PF(X:Cx)(es:List Expr)(t:Str→TE):Prop:=
 ∀(acc:Str) (pins:1e4) (s:Shared) (σ:St) (H:Hp) (Q:VK),Inv X pins σ H s→t acc σ H Q→wpAny 1e0 X.A (joinParts acc (evalEach es X.env)) (EP X pins σ Q) X.xe s
def Wv:Str→TE:=λacc _ H Q=>acc.length≤sizeLine∧Q (.str acc) H
def RS(te:TE)(t:Str→TE):Str→TE:=λacc σ H Q=>te σ H λv H1=>∃y,v= .str y∧(acc++y).length≤sizeLine∧t (acc++y) σ H1 Q
def IB:PF X [] Wv:=λacc pins s σ H Q I h=>joinParts_nil ⟨.str acc,H,I.tok _,2e4,h.2⟩ h.1
def cZ{t:Str→TE}(he:PE X ex ta)(hr:PF X es t)(hs:evalEach (ex::es) X.env=eval ex X.env::evalEach es X.env:=by rfl):PF X (ex::es) (RS ta t):=by
 intro acc pins s σ H Q I h;rw[hs];refine joinParts_cons (bR (he pins s σ H _ I h) λu s1 ⟨v,H1,I1,rv,y,ev,hz,q⟩=>?_);subst ev;obtain⟨t',rfl⟩:=rv;exact⟨hz,hr (acc++y) pins s1 σ H1 Q I1 q⟩
def Dp{v1 v2:Expr}{t:Str→TE}(h:PF X (v1::v2::es) t):PE X (.JoinedStr (v1::v2::es) pos) (t Str.empty):=λpins s σ H Q I hw=>JoinedStr_many (h Str.empty pins s σ H Q I hw)
end
end L2
namespace PySem.W
open PySem PySem.Calls PyProof.Rows
structure M5(K:Frag)(PC:3e5):Prop where
 obj:∃(nm q:Str) (N:3e5) (bs bm:4e1) (hd:Bool) (sn:3e8) (sub:4e1) (ab:Bool) (col:Option Bool) (dd:Option Addr) (k0 k1 k2 k3 k5:Option Value) (nid:String),
  K.lookup PC=some (excClassObj nm q PC N bs bm hd sn sub ab col dd k0 k1 k2 k3 k5 nid)∧bm.contains (.type "BaseException")=true
def BJ{M:Model}{A:Around}{E:0e3}{s:Shared}{K:Frag}{C HE f e PC:3e5}{ox:Obj}{b:Bool}{Q:Bool→Shared→Prop}(X:K.In s.heap)(Z:fu K C HE f)(Y:M5 K PC)(hx:s.heap.get? e=some ox)(hc:ox.cls= .ref C)
  (hm:mroIn K C (.ref PC)=some b) (k:Q b s):wpAny M A (excMatches (.ref e) (.ref PC)) Q E s:=by
 obtain⟨nm,q,N,bs,sn,sub,ab,col,dd,k0,k1,k2,k3,k5,hK⟩:=Z.obj;obtain⟨nm',q',N',Ww,bm,iL,sn',sub',ab',col',Ff,k0',k1',k2',k3',k5',nid,hP,hB⟩:=Y.obj;obtain⟨cd,rA,em,_⟩:=Z.cd
 have cb:(Value.ref C:: .ref HE::zH).contains (.ref PC)=b:=by
  unfold mroIn at hm;rw[rA,bind_some,em] at hm;exact Option.some.inj hm
 have kC:=X _ _ hK;have kP:=X _ _ hP;have cB:(Value.ref PC::bm).contains (.type "BaseException")=true:=by rw[List.contains_cons,hB,Bool.or_true]
 have ft:=tc_notTuple;obtain⟨hp,g,d,tk,os⟩:=s;unfold excMatches
 repeat (first| (with_reducible refine wpAny_loadPart_at hx ?_;rw[hc]) |with_reducible refine wpAny_loadPart_at kP ?_| (with_reducible refine wpAny_isSubtype_exc kP ?_;rw[cB]) | (with_reducible refine wpAny_isSubtype_exc kC ?_;rw[cb]) |wp_step)
 cases b<;>(wp_walk;exact k)
end PySem.W
namespace L2
open PySem PySem.Spec PyProof.Rows
noncomputable abbrev Cx.pinned(X:Cx)(pn:1e4):Cx:={ X with pn:=X.pn++pn }
noncomputable abbrev Cx.mark(X:Cx)(e:3e5):Cx:={ X with A:=X.A.mark (some (.ref e)),calm:=false,xe:=λ_ _=>False }
section
variable {X:Cx}{pins pn:1e4}{σ:St}{H:Hp}{s:Shared}{ER:St→XK}{v:Value}{D:Ends}{fl:Flow}
theorem Cx.Ok.pinned(ok:X.Ok):(X.pinned pn).Ok:=⟨ok.mod,ok.kind,ok.glob,ok.blt,ok.above,ok.inj,ok.has,ok.Ml,ok.hd,ok.frames,ok.Po,ok.US,ok.bs,ok.E5,ok.wR,ok.ux,ok.lZ,ok.Ht⟩
def Cx.Ok.fA(ok:(X.pinned pn).Ok):X.Ok:=⟨ok.mod,ok.kind,ok.glob,ok.blt,ok.above,ok.inj,ok.has,ok.Ml,ok.hd,ok.frames,ok.Po,ok.US,ok.bs,ok.E5,ok.wR,ok.ux,ok.lZ,ok.Ht⟩
def Inv.toPn(I:1e1):Inv (X.pinned pins) [] σ H s:=⟨I.ok.pinned,I.os,I.bare,I.base,I.loc,I.cell,I.free,I.gF,λp hp=>I.pin p (by simpa using hp),I.aM,I.len⟩
def Inv.M6(I:Inv (X.pinned pn) pins σ H s):Inv X pn σ H s:=⟨I.ok.fA,I.os,I.bare,I.base,I.loc,I.cell,I.free,I.gF,λp hp=>I.pin p (mem_append_left _ hp),I.aM,I.len⟩
def SP.fA(h:SP (X.pinned pn) pins D fl s):SP X pn D fl s:=by
 cases fl with
 |next=>obtain⟨σ',H',I,q⟩:=h;exact⟨σ',H',I.M6,q⟩
 |brk=>obtain⟨σ',H',I,q⟩:=h;exact⟨σ',H',I.M6,q⟩
 |cont=>obtain⟨σ',H',I,q⟩:=h;exact⟨σ',H',I.M6,q⟩
 |ret u=>obtain⟨v,σ',H',I,r,q⟩:=h;exact⟨v,σ',H',I.M6,r,q⟩
def Dq:Lets X (λ_ _ _ _=>False):=λ_ _ ⟨_,_,_,_,_,_,_,_,_,_,_,z⟩=>z.elim
theorem Inv.mark(I:1e1)(e:3e5):Inv (X.mark e) pins σ H s:=
 ⟨⟨I.ok.mod,I.ok.kind,I.ok.glob,I.ok.blt,I.ok.above,I.ok.inj,I.ok.has,I.ok.Ml,λz=>(by cases z),I.ok.frames,I.ok.Po,I.ok.US,I.ok.bs,I.ok.E5,I.ok.wR,I.ok.ux,I.ok.lZ,I.ok.Ht⟩,I.os,I.bare,I.base,I.loc,I.cell,I.free,I.gF,I.pin,I.aM,I.len⟩
def Inv.unmark(I:Inv (X.mark e) pins σ H s)(ok:X.Ok):Inv X pins σ H s:=⟨ok,I.os,I.bare,I.base,I.loc,I.cell,I.free,I.gF,I.pin,I.aM,I.len⟩
def PH(X:Cx)(hs:List ExceptHandler)(th:Ends→St→XK):Prop:=
 ∀(s:Shared) (σ:St) (H:Hp) (D:Ends) (e C:3e5) (dx:Option Addr) (T:3e5),Inv X [] σ H s→H e=some (vC e C dx)→s.heap.kh e (some T)→H T=none→ij X T→th D σ (.ref C) dx H→
  wpAny 1e0 X.A (handleBy (.ref e) X.env hs) (SP X [] D) X.xe s
def RT(L:Lets X ER):PH X [] (λ_=>ER):=by
 intro s σ H D e C dx T I he fl hT nT hE;refine wpAny_handleBy_nil ?_;obtain⟨oe,vs,h1,h2,h3⟩:=id fl.ex;unfold PySem.passOn;refine wpAny_bind (wpAny_field h1 h2 h3 ?_);rw[if_neg 2e9];have ht:∀T',some T=some T'→H T'=none∧ij X T':=λT' z=>by cases z;exact⟨hT,nT⟩
 refine wpAny_bind (gZ fl λh' a m=>wpAny_throw (L _ _ ⟨e,C,dx,σ,H,some T,rfl,I.moved he ht (m.mono λ_ z=>absurd z 2e9),he,a,ht,hE⟩))
def Wx(K:0e9)(PC:3e5)(i:Nat)(ts:TS)(tr:Ends→St→XK):Ends→St→XK:=λD σ cv dx H=>
 ∃C HE f b,cv= .ref C∧PySem.W.fu K C HE f∧PySem.W.mroIn K C (.ref PC)=some b∧
  if b=true then∀e,H e=some (vC e C dx)→ts { D with nx:=fun σ1 H1=>D.nx (σ1.set i none) H1,bk:=fun σ1 H1=>D.bk (σ1.set i none) H1,ct:=fun σ1 H1=>D.ct (σ1.set i none) H1 } (σ.set i (some (.ref e))) H else tr D σ cv dx H
def name_goes{i:Nat}{Q:Unit→Shared→Prop}{E:0e3}(I:1e1)(hN:X.N.Nodup)(hi:X.N[i]? =some n)(hl:X.env.scope.names.lookup n=some .local)(k:∀s',Inv X pins (σ.set i none) H s'→Q () s'):wpAny 1e0 A (do bindName X.env n .none;unbindBehindTheSuite X.env n pos) Q E s:=by
 have QX:(X.env.scope.kind== .class||(X.env.scope.kind== .module&&X.env.locals != X.env.globals))=false:=by rw[I.ok.kind];rfl
 refine wpAny_bind (wpAny_bindName (store_ok I hN hi (.inl hl) (v:= .cw) rfl (λs1 J=>?_) (.inr hl)));have hii:i<σ.length:=by rw[I.len];exact(List.getElem?_eq_some_iff.mp hi).1
 obtain⟨m,hn,L4⟩:=id J.loc;obtain⟨u,_,lk⟩:=L4 i n .cw hi (by rw[List.getElem?_set_self hii]) (.inl hl)
 have hmn:(m n).isSome=true:=by
  rcases lk with ⟨_,z⟩ | ⟨z,_⟩
  ·rw[z];rfl
  ·rcases z with z|z
   ·have:X.env.scope.names.lookup n=some .cell:=z;rw[hl] at this;cases this
   ·have:X.env.scope.names.lookup n=some .free:=z;rw[hl] at this;cases this
 unfold unbindBehindTheSuite;refine wpAny_onRaise ?_;unfold unbindName;refine wpAny_bind (wpAny_point (wpAny_bind ?_));unfold deleteName;have kl:X.env.kindOf n=some .local:=hl;simp only [kl,QX];rw[if_neg 0e4];refine wpAny_bind (wpAny_nsDel_keeps hn λh2 v2 Pu sb=>?_);rw[hmn];refine wpAny_pure (wpAny_point (k _ ?_));obtain⟨oL,_,_,LZ,_⟩:=id hn;have lo:∀b o,X.s₀.heap.get? b=some o→b≠X.env.locals:=λb o q=>ne_of_lt (lt_of_lt_of_le (Heap.lt_size q) J.ok.above);refine⟨J.ok,J.os,J.bare,⟨λb o e nn hb hx=>(sb.2 b (lo b o e)).trans (J.base.keep b o e nn hb hx),λb o e nn hb hx=>?_,J.base.free,λb o e hx=>?_,J.base.oO,J.base.oP,J.base.oQ⟩,⟨_,Pu,λj y v' e1 e2 e3=>?_⟩,λy c e=>?_,J.free,J.gF,λp hp=>?_,λb ob e=>?_,by simpa using I.len⟩
 ·obtain⟨sl,e1⟩:=J.base.slot b o e nn hb hx;exact⟨sl,(sb.2 b (lo b o e)).trans e1⟩
 ·obtain⟨o',e1⟩:=J.base.there b o e hx;exact⟨o',(sb.2 b (lo b o e)).trans e1⟩
 ·by_cases hj:j=i
  ·subst hj;rw[List.getElem?_set_self hii] at e2;cases e2
  ·rw[getElem?_set_ne (Ne.symm hj)] at e2;obtain⟨u',r',q⟩:=L4 j y v' e1 (by rw[getElem?_set_ne (Ne.symm hj)];exact e2) e3;refine⟨u',r',?_⟩;rcases q with ⟨k,e⟩ | ⟨k,c,e,z⟩
   ·refine .inl ⟨k,?_⟩;have:y≠n:=λe=>hj (rq hN e1 (e▸hi));simp [this,e]
   ·exact .inr ⟨k,c,e,z.sameBut sb (J.Mm y c e)⟩
 ·obtain⟨w',z⟩:=J.cell y c e;exact⟨w',z.sameBut sb (J.Mm y c e)⟩
 ·obtain⟨e,nn,ne,nf,d⟩:=J.pin p hp;exact⟨(sb.2 p.1 ne).trans e,nn,ne,nf,d⟩
 ·refine(J.aM b ob e).rp (λc w' hc q=>(sb.2 c ?_).trans q) (λ_ q=>q) λ_ _ q=>q;rintro rfl;rcases hc with rfl|hc
  ·rw[J.free] at e;cases e
  ·rw[J.free] at hc;cases hc
def Wy{x n:Str}{np pos:Pos}{b0:Stmt}{zN:List Stmt}{rest:List ExceptHandler}{PC:3e5}{i:Nat}{ts:TS}{tr:Ends→St→XK}(hg:Gl X x)(hm:X.mg x=some (.ref PC))(Y:PySem.W.M5 X.K PC)(hN:X.N.Nodup)(hi:X.N[i]? =some n)
  (hl:X.env.scope.names.lookup n=some .local) (hsu:∀e,mn (X.mark e) (b0::zN) ts) (hr:PH X rest tr) (hd:4e2:=by decide):
  PH X (.ExceptHandler (some (.Name x np)) (some n) (b0::zN) pos::rest) (Wx X.K PC i ts tr):=by
 intro s σ H D e C dx T I he fl hT nT hE;obtain⟨C',HE,f,b,ec,Z,mb,hE⟩:=hE;cases ec;obtain⟨o,vs,o1,o2,o3,o4⟩:=xw I.aM he;have ht:∀T',some T=some T'→H T'=none∧ij X T':=λT' z=>by cases z;exact⟨hT,nT⟩
 refine wpAny_handleBy_cons (codeAny_handlers_test (jv (X:=X.mark e) (I.mark e) hg hm (PySem.W.BJ I.ju Z Y o1 o2 mb ?_) hd)) 3e4
 cases b with
 |false=>exact hr s σ H D e C dx T I he fl hT nT hE
 |true=>
  have hE:=hE e he;refine codeAny_handlers_suite_as (gZ fl λh1 a m=>?_);have I1:=I.moved he ht (m.mono λ_ z=>absurd z 2e9);refine store_ok I1 hN hi (.inl hl) (v:= .ref e) rfl (λs2 I2=>?_) (.inr hl);refine wpAny_mono (hsu e [] s2 _ H _ (I2.mark e) hE) (λf s3 q=>?_) λ_ _ z=>False.elim z
  cases f with
  |next=>
   obtain⟨σ',H',I3,q⟩:=q;exact name_goes (I3.unmark I.ok) hN hi hl λs4 I4=>⟨_,H',I4,q⟩
  |brk=>
   obtain⟨σ',H',I3,q⟩:=q;exact name_goes (I3.unmark I.ok) hN hi hl λs4 I4=>⟨_,H',I4,q⟩
  |cont=>
   obtain⟨σ',H',I3,q⟩:=q;exact name_goes (I3.unmark I.ok) hN hi hl λs4 I4=>⟨_,H',I4,q⟩
  |ret u=>
   obtain⟨v,σ',H',I3,r,q⟩:=q;exact name_goes (I3.unmark I.ok) hN hi hl λs4 I4=>⟨v,_,H',I4,r,q⟩
def Wz(tb:(St→XK)→TS)(th:Ends→St→XK):TS:=λD σ H=>tb (th D) D σ H
def M7{h0:ExceptHandler}{hs:List ExceptHandler}{tb:(St→XK)→TS}{th:Ends→St→XK}(fm:BI X)(hb:∀pn ER',mn ((X.pinned pn).i3 (jh (X.pinned pn) ER')) body (tb ER'))(hh:∀pn,PH (X.pinned pn) (h0::hs) th):
  PS X (.Try body (h0::hs) [] [] pos) (Wz tb th):=by
 intro pins s σ H D I h;have fin:∀{f s1},SP (X.pinned pins) [] D f s1→SP X pins D f s1:=λq=>q.fA;refine wpAny_Try_except (wpAny_mono (hb pins (th D) [] s σ H D (I.toPn.i3 _) h) (λf s1 q=>?_) λv s1 z=>?_)
 ·have q:=fin q.dO
  cases f with
  |next=>exact wpAny_execs_nil q
  |brk=>exact q
  |cont=>exact q
  |ret u=>exact q
 ·obtain⟨e,C,dx,σ1,H1,tb,ev,I1,he,fl,ht,hE⟩:=z;subst ev;have fm':BI (X.pinned pins):=fm;obtain⟨fr,ff⟩:=lD fm' I1;refine qG fr ff fm'.2 fl λh2 T a b m=>?_;have m1:Heap.Moved (uw (X.pinned pins).stack) e tb s1.heap h2:=by unfold uw;rw[fm'.1];exact m
  have I2:=I1.moved he ht m1;have t1:=xy I1 ht b;refine gZ (s:={ s1 with heap:=h2 }) a λh3 a3 m3=>?_;have I3:=I2.moved he t1 (m3.mono λ_ z=>absurd z 2e9);exact bR (hh pins _ σ1 H1 D e C dx T I3 he a3 (t1 T rfl).1 (t1 T rfl).2 hE) λf s4 q=>fin q
end
end L2
namespace L2
open PySem PySem.Spec PyProof.Rows
def U6(a:3e5)(o:Obj)(kvs:0e2):It:=
 ⟨λi H=>H a=some (.dX o 3e0)∧i<kvs.length,λi H x H'=>∃p k v,kvs[i]? =some (k,v)∧H p=none∧H'=upd H p (.tup [kV k,v])∧x= .ref p,λi H=>H a=some (.dX o 3e0)∧kvs.length≤i⟩
def FD:entryFor table "dict_itemiterator.__iter__" =some Builtin.«dict_keyiterator.__iter__» :=entryFor_alias (id':="dict_keyiterator.__iter__") (by kernel_rfl) rfl 0e0 (by kernel_rfl)
def IC{E:0e3}{Q:0e3}(ht:s.TypeIs (.ref it) "dict_itemiterator")(h:Q (.ref it) s):wpAny 2e5 A (pyIter (.ref it)) Q E s:=by
 refine wpAny_pyIter_slot ht PySem.F.slot_dict_itemiterator_iter (wpAny_call_entry PySem.F.slot_dict_itemiterator_iter ht FD ?_ (PySem.F.args_dict_itemiterator_iter_1 _));exact wpAny_pure ⟨_,rfl,"dict_itemiterator",_,ht,PySem.F.slot_dict_itemiterator_next.lookup,h⟩
def BK{P:Program}{w:World}{K:0e9}{elts:List Expr}{x1}{uA:Pos}(a it:3e5)(o:Obj)(kvs:0e2){es:Array DictEntry}{ep:Nat}(hd:o.data= .dict es ep):
  Turn P w K (.Tuple elts x1 uA) (U6 a o kvs) [it] it (λi h=>∃ok ov,IsItemIter h it a i kvs.length ep ok ov) where
 mem:=by simp
 obj:=λi h st b hb=>by
  have e:b=it:=by simpa using hb
  subst e;obtain⟨ok,ov,q⟩:=st;exact⟨_,q,λv z=>by cases z⟩
 keep:=λi h h' st k=>let ⟨ok,ov,q⟩:=st;⟨ok,ov,k it 2e9 _ q⟩
 item:=by
  intro X hP hw hK hc i pins s σ H E I hf st hg;subst hP hw hK;obtain⟨hz,hi⟩:=hg;obtain⟨ok,ov,st⟩:=st;obtain⟨vs,rel,dd,hs⟩:=xi I.aM hz hd;obtain⟨k,v,xj⟩:∃k v,kvs[i]? =some (k,v):=⟨kvs[i].1,kvs[i].2,by simp [hi]⟩;obtain⟨u,hu,ru⟩:=rel.get xj;rw[rel.length] at st;refine wpAny_pyNext_items_item st dd hu λkey h' hk a1 a2 a3 a4=>⟨_,rfl,?_⟩;refine wpAny_letOwnedTupleGo_items (s:={ s with heap:=h' }) a1 λWo b1 b2=>?_;have up:∀c q,c≠it→h'.get? c=some q→Wo.get? c=some q:=λc q n z=>b2.extBut _ _ n z;have ne:s.heap.objs.size≠it:=ne_of_gt (Heap.lt_size st);have jD:=up _ _ ne a2
  have I1:Inv X pins σ (upd H s.heap.objs.size (.tup [kV k,v])) { s with heap:=Wo,toks:=s.toks }:=by
   refine I.Dh (ch:=[it]) (λb q hb z=>?_) hf (le_refl _) ⟨by show 2≤sizeLine;decide,[key,u], .cons (xh hk) (.cons ru .nil),⟨_,jD,rfl,_,rfl⟩⟩;have hb:b≠it:=by simpa using hb
   exact up _ _ hb (a4 b q hb z)
  refine⟨.ref s.heap.objs.size,_,I1,rfl,⟨_,k,v,xj,I.aM.fresh (le_refl _),rfl,rfl⟩,⟨key,u,?_⟩,λb hb=>?_⟩
  ·rw[rel.length];exact b1
  ·have e:b=it:=by simpa using hb
   rw[ah (by rw[e];exact Ne.symm ne)];exact(hf b hb).1
 done:=by
  intro X hP hw hK hc i pins s σ H E I hf st hg;subst hP hw hK;obtain⟨hz,hi⟩:=hg;obtain⟨ok,ov,st⟩:=st;obtain⟨vs,rel,dd,hs⟩:=xi I.aM hz hd;rw[rel.length] at st hi;refine wpAny_pyNext_items_end (I.ok.hd hc) st dd (List.getElem?_eq_none hi) λh' eb=>⟨rfl,I.Di (t':=s.toks) (ch:=[it]) (λb q hb z=>?_) hf⟩;exact eb b q (by simpa using hb) z
 self:=λ_ _ _ _ _ st h=>by
  obtain⟨ok,ov,st⟩:=st;exact IC ⟨_,st,rfl⟩ h
section
variable {X:Cx}{tg:Expr}
def RU(X:Cx)(td:TE):TI:=fun σ H R=>td σ H λx H1=>∃a kvs,x= .ref a∧H1 a=some 3e0∧∀o,NF X a→R (U6 a o kvs) (upd H1 a (.dX o 3e0))
def zO{x1}(hl:PE X l tl)(hb:attributeBase l "items" X.env (eval l X.env)=eval l X.env:=by rfl)(HM:(apos.endLine==pos.line)=true:=by rfl):
  PI X (.Tuple elts x1 uA) (.Call (.Attribute l "items" apos) [] [] pos) (RU X tl):=by
 intro pins s σ H R I h;refine wpAny_Call_method (T:="dict") (id:="dict.items") hb rfl HM PySem.F.plainAttrs_dict PySem.F.slot_dict_items PySem.F.type_dict_items (bR (hl pins s σ H _ I h) λv s1 ⟨x,H1,I1,r1,q1⟩=>?_);obtain⟨a,kvs,e,hk,q⟩:=q1;subst e;cases r1;obtain⟨o,ho,I2⟩:=I1.freeze hk;obtain⟨z,hs,vs,rel,dd⟩:=rL I1.aM hk;obtain⟨ep,da⟩:=id dd.dictAt;obtain⟨o',es,yR,ex,hd,hr⟩:=id da;rw[ho] at yR;cases yR;refine⟨dd.typeIs,dd.mapOf.noDict,method_meetsIn PySem.F.slot_dict_items PySem.F.entry_dict_items rfl (PySem.evalArgs_none ⟨rfl,dd.typeIs,PySem.F.args_dict_items_1 _,_,meets_dict_items _ a hs,⟨vs,dd⟩,?_⟩)⟩;have kv:∀b q,s1.heap.get? b=some q→(s1.heap.push { cls:= .type "dict_items",data:= .fields #[.ref a] }).get? b=some q:=λb q e=>Heap.get?_push_of_some _ e;have da2:(s1.heap.push { cls:= .type "dict_items",data:= .fields #[.ref a] }).DictAt (bz X.prog X.w) a vs ep:=⟨o,es,kv _ _ ho,ex,hd,hr⟩;refine wpAny_pyIter_items (s:={ s1 with heap:=s1.heap.push { cls:= .type "dict_items",data:= .fields #[.ref a] } }) ⟨_,Heap.get?_push_size _ rfl,rfl,rfl⟩ da2 ?_;have I3:=I2.kept (t':=s1.toks) kv;refine⟨(s1.heap.push { cls:= .type "dict_items",data:= .fields #[.ref a] }).objs.size,[(s1.heap.push { cls:= .type "dict_items",data:= .fields #[.ref a] }).objs.size],_,_,_,rfl,I3.kept (t':=s1.toks) λb o e=>Heap.get?_push_of_some _ e,BK a _ o kvs hd,?_,λb hb=>?_,q o (I1.nf hk)⟩
 ·rw[rel.length];exact⟨_,_,Heap.get?_push_size _ rfl⟩
 ·have e:b=(s1.heap.push { cls:= .type "dict_items",data:= .fields #[.ref a] }).objs.size:=by simpa using hb
  subst e;exact I3.wZ (le_refl _) (I3.aM.fresh (le_refl _))
end
section
variable {K:0e9}{g:TG}{tt:TT}{te:TE}
def FE{J:It}{Q:Hp→Prop}{σ:St}{H:Hp}(n:Nat)(H0:Hp)(S:St→Prop)(Pv:Nat→List V→Hp→Prop)(RD:∀i H',i<n→au H0 H'→J.go i H')(rY:∀H',au H0 H'→J.stop n H')(BG:∀i ys H H',PK L H H'→Pv i ys H→Pv i ys H')(BF:H0 L=none) (hσ:S σ) (h0:au H0 H) (hL:H L=some (.lst [])) (p0:Pv 0 [] H) (hz:n≤sizeLine) (hl:∀i ys H,Pv i ys H→ys.length≤i)(turn:∀i σ H' ys,i<n→S σ→au H0 H'→H' L=some (.lst ys)→Pv i ys H'→∀(N:St→V→Hp→Prop) (M:St→Hp→Prop),(∀σ3 y H5,S σ3→au H0 H5→H5 L=some (.lst ys)→Pv (i+1) (ys++[y]) H5→N σ3 y H5)→(∀σ3 H4,S σ3→au H0 H4→H4 L=some (.lst ys)→Pv (i+1) ys H4→M σ3 H4)→
   ∀x H2,J.oW i H' x H2→g x σ H2 fun σ3 H3=>tt σ3 H3 λb H4=>if b=true then te σ3 H4 λy H5=>N σ3 y H5 else M σ3 H4)(fin:∀H' ys,au H0 H'→H' L=some (.lst ys)→Pv n ys H'→Q H'):
  ∃W:Nat→Nat→St→Hp→Prop,(∃m,W 0 m σ H)∧∀i m σ H,W i m σ H→(J.stop i H∧Q H)∨(J.go i H∧∀x H2,J.oW i H x H2→g x σ H2 fun σ3 H3=>tt σ3 H3 λb H4=>if b=true
   then te σ3 H4 λy H5=>∃ys,H5 L=some (.lst ys)∧ys.length<sizeLine∧∃m',m'<m∧W (i+1) m' σ3 (upd H5 L (.lst (ys++[y])))
   else∃m',m'<m∧W (i+1) m' σ3 H4):=by
 refine⟨λi m σ H=>m+i=n∧S σ∧au H0 H∧∃ys,H L=some (.lst ys)∧Pv i ys H,⟨n,rfl,hσ,h0,[],hL,p0⟩,?_⟩;rintro i m σ H ⟨hm,hs,fI,ys,Fu,hp⟩;by_cases hi:i<n
 ·refine .inr ⟨RD i H hi fI,λx H2 hy=>turn i σ H ys hi hs fI Fu hp _ _ (fun σ3 y H5 k1 k2 k3 k4=>?_) (fun σ3 H4 k1 k2 k3 k4=>?_) x H2 hy⟩
  ·refine⟨ys,k3,by have:=hl i ys H hp;omega,m - 1,by omega,by omega,k1,λb o e=>?_,ys++[y],aa,BG _ _ _ _ PK.upd k4⟩;rw[ah (af e BF)];exact k2 b o e
  ·exact⟨m - 1,by omega,by omega,k1,k2,ys,k3,k4⟩
 ·have e:i=n:=by omega
  subst e;exact .inl ⟨rY H fI,fin H ys fI Fu hp⟩
def items_go(ha:H0 a=some (.dX ob 3e0)):∀i H',i<kvs.length→au H0 H'→(U6 a ob kvs).go i H':=λ_ _ hi e=>⟨e _ _ ha,hi⟩
def sj(ha:H0 a=some (.dX ob 3e0)):∀H',au H0 H'→(U6 a ob kvs).stop kvs.length H':=λ_ e=>⟨e _ _ ha,le_refl _⟩
end
end L2
namespace L2
open PySem PySem.Spec PyProof.Rows PySem.W
section
variable {X:Cx}
theorem vD:∀{us:4e1} {ks:List Key},us.length=ks.length→(∀(j:Nat) (k:Key) (u:Value),ks[j]? =some k→us[j]? =some u→(bz P w).is k u=true)→Vals (ks.map kV) us
 | [],[],_,_=> .nil
 | [],_::_,h,_=>by simp at h
 |_::_,[],h,_=>by simp at h
 |u::us,k::ks,h,q=> .cons (xh (q 0 k u rfl rfl)) (vD (by simpa using h) λj k' u' h1 h2=>q (j+1) k' u' (by simpa using h1) (by simpa using h2))
def kE(hc:X.calm=true):fB X (.type "list") (λxs H Q=>∃p kvs,xs=[.ref p]∧Rd H p 3e0∧∀l,H l=none→Q (.ref l) (upd H l (.lst (kvs.map λq=>kV q.1)))):=by
 intro pins s σ H xs us Q I r h;obtain⟨p,kvs,rfl,hk,q⟩:=h;obtain⟨u,rfl,ru⟩:=vals1 r;cases ru;obtain⟨z,lo,vs,rel,dd⟩:=iN I.aM hk;obtain⟨ep,da⟩:=dd.dictAt;have hz:vs.length≤sizeLine:=by rw[←rel.length];exact z
 refine kdl_call (kdl_dict (knd:=bz X.prog X.w) (kvs:=vs) (ep:=ep) lo) (I.ok.hd hc) da hz λh' tk xs c kp at' its=>?_;have oI:kvs.map 1e8=vs.map 1e8:=rel.keys;refine⟨.ref s.heap.objs.size,_,I.laid (t':=tk) (o:= .lst (kvs.map λq=>kV q.1)) kp (le_refl _) ⟨by rw[length_map];exact z,xs.toList,c,?_,at'⟩,rfl,q _ (I.aM.fresh (le_refl _))⟩;have e1:(kvs.map λq=>kV q.1)=(vs.map 1e8).map kV:=by rw[←oI,map_map];rfl
 rw[e1];refine vD (P:=X.prog) (w:=X.w) (by rw[Array.length_toList,its.1,length_map]) λj k u h1 h2=>?_;obtain⟨k',x,h3,h4⟩:=its.2 j u (by simpa using h2);rw[getElem?_map,h3] at h1;cases h1;exact h4
end
end L2
namespace L2
open PySem PySem.Spec PyProof.Rows
section
variable {P:Program}{w:World}{K:0e9}{mg:1e3}{base:Heap}
def M8(K:0e9)(C:3e5)(q:Str)(st:Stmt)(ps:3e8):Prop:=∃f fd dV,zB K "__init__" q st f fd dV∧Mk K C f∧Binds K fd ps []∧Binds K fd ps [.none]
structure CalN(P:Program)(w:World)(K:0e9)(mg:1e3)(base:Heap)(CX:C3)(k:Nat)(C:3e5)(ps:3e8)(sp:Sp)(f:3e5)(fd:FuncData):Prop where
 ok:fD P w K mg base CX k f fd ps sp
 m:Mk K C f
 b0:Binds K fd ps []
 b1:Binds K fd ps [.none]
def ID(P:Program)(w:World)(K:0e9)(mg:1e3)(base:Heap)(CX:C3)(k:Nat)(C:3e5)(ps:3e8)(sp:Sp):Prop:=∃f fd,CalN P w K mg base CX k C ps sp f fd
def M8.cN{C:3e5}{q:Str}{st:Stmt}{N ps:3e8}{k:Nat}{sp:Sp}(D:M8 K C q st ps)(S:av N ps (aj st))(len:3e1)
  (dn:∀(f:3e5) (aY:Value) (A:Around) (outer:List Env) (s:Shared) (H:Hp) (vs:4e5) (Q:VK) (E:XK),cG k (A.deeper (envOfC q (aj st) s.heap.objs.size f aY))→sp vs H Q E→
   ∃t,mn (jy rO P w K mg base N q (aj st) f aY A outer s H E).Hv (aR st) t∧t { nx:=λ_ H'=>Q .cw H',rt:=Q } (start N vs) H):ID P w K mg base rO (k+1) C ps sp:=by
 obtain⟨f,fd,dV,F,g,b0,b1⟩:=D;exact⟨f,fd,F.ok S len (dn f),g,b0,b1⟩
end
end L2
namespace PySem.W
open PySem PySem.Spec PySem.Calls PyProof.Rows
section
variable {prog:Program}{w:World}{A:Around}{E:0e3}{s:Shared}{K:Frag}{e C HE f:3e5}{ox:Obj}{od:Option Obj}
def zP(hc:(clsIn K C).isSome=true)(ha:findIn K (.ref C) name=some (some a))(hg:specialIn K a "__get__" =some (some g))(ht:takesIn K a=some true):findObj K C od name=some (.bind g a):=by
 obtain⟨cd,hc⟩:=isSome_iff_exists.mp hc;unfold findObj;rw[hc,bind_some,ha,bind_some];simp [hg,ht]
def IE{Q:Option Value→Shared→Prop}(X:K.In s.heap)(Z:fu K C HE f)(I:InstAt s.heap e ox C od)(hf:findObj K C od "__class__" =some (.bind (.builtin "getset_descriptor.__get__") (.builtin "object.__class__")))
  (h:Q (some (.ref C)) { s with toks:=s.toks+1 }):wpAny 2e5 A (getAttr? (.ref e) "__class__") Q E s:=by
 have T0:=I.type (M:=model prog w);have SG:=PySem.F.attr_ValueError.ga;unfold getAttr? getAttrBy? getAttrBy;refine wpAny_bind (wpAny_mkText (wpAny_bind (wpAny_attempt (wpAny_holding (wpAny_bind (T0 _ _ _ _ (λ_ _ y=>y) (wpAny_bind (looks_findIn X Z.ga _ _ _ _ (λ_ _ y=>y) ?_))))))));dsimp only;rw[show (onTheHeap (Value.ref C)&&Value.builtin "BaseException.__getattribute__" ==Value.builtin "object.__getattribute__")=false from by rw[show (Value.builtin "BaseException.__getattribute__" ==Value.builtin "object.__getattribute__")=false from by decide+kernel,Bool.and_false],if_neg 0e4];refine wpAny_bind (looks_hook X (show (if onTheHeap (Value.ref C) then findIn K (.ref C) "__getattr__" else some none)=some none from Z.gh) _ _ _ _ (λ_ _ y=>y) (wpAny_bind (wpAny_attempt (wpAny_holding ?_))));unfold callGetattribute;rw[show (false&&onTheHeap (Value.builtin "BaseException.__getattribute__"))=false from rfl,if_neg 0e4];unfold boundAndCalled;rw[SG.bind];refine wpAny_bind (wpAny_pure ?_);show wpAny _ _ (call (.builtin "BaseException.__getattribute__") [.ref e, .str "__class__" s.toks]) _ _ _;refine wpAny_call (codeAny_call_builtin SG.plain PySem.F.entry_bexc_ga ?_);refine @check_slot 2e5 _ _ { s with toks:=s.toks+1 } "BaseException.__getattribute__" "BaseException" "__getattribute__" (.ref e) [.str "__class__" s.toks] [] _ 0e0 0e0 (T0.andThen (looks_mroIn X (Z.mro 0e0))) (PySem.F.args_bexc_ga _ _) ?_;have l1:=looks_find (M:=model prog w) X I hf;unfold Builtin.«object.__getattribute__»;refine wpAny_bind (wpAny_of_eq (a:=(Value.ref e,[Value.str "__class__" s.toks])) rfl ?_);refine wpAny_bind (wpAny_pure (a:=("__class__" :Str)) (wpAny_bind (T0 _ _ _ _ (λ_ _ y=>y) (wpAny_bind (l1 _ _ _ _ (λ_ _ y=>y) ?_)))));show wpAny _ _ (holding [Value.builtin "object.__class__"] (call (.builtin "getset_descriptor.__get__") [.builtin "object.__class__", .ref e, .ref C]) >>= ret) _ _ _;refine wpAny_bind (wpAny_holding (wpAny_call (class_get (s:={ s with toks:=s.toks+1 }) (ox:=ox) (od:=od) X I (Z.mro 0e0) ?_)));refine wpAny_pure ?_;show wpAny _ _ (handedOut (Value.ref C)) _ _ _;rw[handedOut_of rfl];exact wpAny_pure (wpAny_pure h)
def IF(Z:fu K C HE f)(ha:findIn K (.ref C) "__class__" =some (some (.builtin "object.__class__")))(hn:specialIn K (.builtin "object.__class__") "__get__" =some (some (.builtin "getset_descriptor.__get__")))(A9:takesIn K (.builtin "object.__class__")=some true):
  KitX K (.ref e) (.ref C) (λh=>InstAt h e ox C od) where
 ty:=λ_ _ _ I=>I.type
 it:=λ_ _ X _=>by
  obtain⟨cdD,Mr,_⟩:=Z.cd;unfold clsIn at Mr;split at Mr
  ·rename_i c' d' cd' QW ho
   intro A' Q' E' s' k q;unfold isType loadHead;exact wpAny_bind (wpAny_loadPart (k _ _ (X _ _ ho)) (wpAny_pure q))
  ·cases Mr
 ne:=λh tp dd its n sl X RW=>by
  obtain⟨cdD,Mr,_⟩:=Z.cd;refine Bool.eq_false_iff.mpr λq=>?_;have e:C=tp:=Value.ref.inj (beq_iff_eq.mp q);subst e;unfold clsIn at Mr;split at Mr
  ·rename_i c' d' cd' QW ho
   have z:=(X _ _ ho).symm.trans RW;cases z
  ·cases Mr
 ca:=λX I k=>IE X Z I (zP (by obtain⟨cd,hc,_⟩:=Z.cd;rw[hc];rfl) ha hn A9) k
end
end PySem.W
namespace L2
open PySem PySem.Spec PyProof.Rows
def RX(H:Hp)(e C:3e5):Prop:=H e=some (vC e C none)∨∃dx fs,H e=some (vC e C (some dx))∧H dx=some (ur dx fs)
structure XIs(K:0e9)(C:3e5):Prop where
 cls:PySem.W.findIn K (.ref C) "__class__" =some (some (.builtin "object.__class__"))
 get:PySem.W.specialIn K (.builtin "object.__class__") "__get__" =some (some (.builtin "getset_descriptor.__get__"))
 takes:PySem.W.takesIn K (.builtin "object.__class__")=some true
def mZ:fB X (.builtin "isinstance") (λxs H Q=>∃e c cv C HE f b,xs=[.ref e,c]∧ML c=some cv∧PySem.W.fu X.K C HE f∧XIs X.K C∧RX H e C∧kitOne X.K (.ref C) cv=some b∧Q (.bl b) H):=by
 intro pins s σ H xs us Q I r h;obtain⟨e,c,cv,C,HE,f,b,rfl,hc,Z,Y,hE,ek,q⟩:=h;obtain⟨u,v,rfl,ru,rv⟩:=vals2 r
 have hv:v=cv:=by
  cases c<;>simp only [ML,Option.some.injEq,reduceCtorEq] at hc
  ·cases (show v=Value.ref _ from rv);exact hc
  ·cases (show v=Value.type _ from rv);exact hc
 subst hv;cases (show u=Value.ref e from ru)
 have J:∃ob od,PySem.W.InstAt s.heap e ob C od:=by
  rcases hE with hx| ⟨dx,fs,hx,hd⟩
  ·obtain⟨ob,vs,h1,h2,h3,h4⟩:=xw I.aM hx;exact⟨ob,none,h1,h2,by unfold PySem.W.notCls;rw[h4],by rw[h3];trivial⟩
  ·obtain⟨ob,vs,h1,h2,h3,h4⟩:=xw I.aM hx;obtain⟨mA,n1,r1,w1⟩:=Iv I.aM hd;obtain⟨od,ho,hl⟩:=ve n1;exact⟨ob,some od,h1,h2,by unfold PySem.W.notCls;rw[h4],by rw[h3];exact ho⟩
 obtain⟨ob,od,J⟩:=J;exact PySem.W.kia_one (PySem.W.IF Z Y.cls Y.get Y.takes) I.ju J ek (λz=>nomatch z) λtk=>⟨.bl b,H,I.tok tk,rfl,q⟩
end L2
namespace L2S
open PySem PySem.Spec PySem.Builtin PySem.Builtin.Str
end L2S
namespace L2
open PySem PySem.Spec PyProof.Rows
section
variable {X:Cx}
end
section
variable {X:Cx}
def RY(K:0e9)(hK:X.K=K){x n:Str}{np pos:Pos}{b0:Stmt}{zN:List Stmt}{rest:List ExceptHandler}{PC:3e5}{i:Nat}{ts:TS}{tr:Ends→St→XK}(hg:Gl X x)(hm:X.mg x=some (.ref PC))(Y:PySem.W.M5 K PC)(hN:X.N.Nodup)(hi:X.N[i]? =some n)
  (hl:X.env.scope.names.lookup n=some .local) (hsu:∀e,mn (X.mark e) (b0::zN) ts) (hr:PH X rest tr) (hd:4e2:=by decide):
  PH X (.ExceptHandler (some (.Name x np)) (some n) (b0::zN) pos::rest) (Wx K PC i ts tr):=by
 subst hK;exact Wy hg hm Y hN hi hl hsu hr hd
end
section
variable {P:Program}{w:World}{K:0e9}{mg:1e3}{base:Heap}
structure CalX(P:Program)(w:World)(K:0e9)(mg:1e3)(base:Heap)(k:Nat)(x:Str)(ps:3e8)(sp:Sp)(f:3e5)(fd:FuncData):Prop where
 ok:fD P w K mg base (Bb P w) k f fd ps sp
 kp:keepIn K (.ref f)=true
 b:Binds K fd ps []
 g:mg x=some (.ref f)
def zQ(P:Program)(w:World)(K:0e9)(mg:1e3)(base:Heap)(k:Nat)(x:Str)(ps:3e8)(sp:Sp):Prop:=∃f fd,CalX P w K mg base k x ps sp f fd
structure WA(P:Program)(w:World)(K:0e9)(mg:1e3)(base:Heap)(k:Nat)(C:3e5)(m:Str)(ps:3e8)(sp:Sp)(f:3e5)(fd:FuncData):Prop where
 ok:fD P w K mg base (Bb P w) k f fd ps sp
 m:Meth K C m f
 b:Binds K fd ps []
def xA(P:Program)(w:World)(K:0e9)(mg:1e3)(base:Heap)(k:Nat)(C:3e5)(m:Str)(ps:3e8)(sp:Sp):Prop:=∃f fd,WA P w K mg base k C m ps sp f fd
def Def.FF{x q:Str}{st:Stmt}{N ps:3e8}{k:Nat}{sp:Sp}(D:Def K mg x q st ps)(S:av N ps (aj st))(len:3e1)
  (dn:∀(f:3e5) (aY:Value) (A:Around) (outer:List Env) (s:Shared) (H:Hp) (vs:4e5) (Q:VK) (E:XK),cG k (A.deeper (envOfC q (aj st) s.heap.objs.size f aY))→sp vs H Q E→
   ∃t,mn (L7 P w K mg base N q (aj st) f aY A outer s H E) (aR st) t∧t { nx:=λ_ H'=>Q .cw H',rt:=Q } (start N vs) H):zQ P w K mg base (k+1) x ps sp:=by
 obtain⟨f,fd,F,b,g⟩:=D;exact⟨f,fd,F.Fz S len (dn f),F.kp,b,g⟩
def aX.FF{C:3e5}{m q:Str}{st:Stmt}{N ps:3e8}{k:Nat}{sp:Sp}(D:aX K C m q st ps)(S:av N ps (aj st))(len:3e1)
  (dn:∀(f:3e5) (aY:Value) (A:Around) (outer:List Env) (s:Shared) (H:Hp) (vs:4e5) (Q:VK) (E:XK),cG k (A.deeper (envOfC q (aj st) s.heap.objs.size f aY))→sp vs H Q E→
   ∃t,mn (L7 P w K mg base N q (aj st) f aY A outer s H E) (aR st) t∧t { nx:=λ_ H'=>Q .cw H',rt:=Q } (start N vs) H):xA P w K mg base (k+1) C m ps sp:=by
 obtain⟨f,fd,F,b,g⟩:=D;exact⟨f,fd,F.Fz S len (dn f),g,b⟩
def Dr(K:0e9)(C:3e5)(m q:Str)(st:Stmt)(ps:3e8)(ds:List Int):Prop:=∃f fd dV,zB K m q st f fd dV∧Meth K C m f∧∀j,j≤ds.length→∃us,Vals ((ds.drop j).map V.int) us∧Binds K fd ps us
structure RZ(P:Program)(w:World)(K:0e9)(mg:1e3)(base:Heap)(k:Nat)(C:3e5)(m:Str)(ps:3e8)(ds:List Int)(sp:Sp)(f:3e5)(fd:FuncData):Prop where
 ok:fD P w K mg base (Bb P w) k f fd ps sp
 m:Meth K C m f
 bs:∀j,j≤ds.length→∃us,Vals ((ds.drop j).map V.int) us∧Binds K fd ps us
def qH(P:Program)(w:World)(K:0e9)(mg:1e3)(base:Heap)(k:Nat)(C:3e5)(m:Str)(ps:3e8)(ds:List Int)(sp:Sp):Prop:=∃f fd,RZ P w K mg base k C m ps ds sp f fd
def Dr.FF{C:3e5}{m q:Str}{st:Stmt}{N ps:3e8}{ds:List Int}{k:Nat}{sp:Sp}(D:Dr K C m q st ps ds)(S:av N ps (aj st))(len:3e1)
  (dn:∀(f:3e5) (aY:Value) (A:Around) (outer:List Env) (s:Shared) (H:Hp) (vs:4e5) (Q:VK) (E:XK),cG k (A.deeper (envOfC q (aj st) s.heap.objs.size f aY))→sp vs H Q E→
   ∃t,mn (L7 P w K mg base N q (aj st) f aY A outer s H E) (aR st) t∧t { nx:=λ_ H'=>Q .cw H',rt:=Q } (start N vs) H):qH P w K mg base (k+1) C m ps ds sp:=by
 obtain⟨f,fd,dV,F,g,b⟩:=D;exact⟨f,fd,F.Fz S len (dn f),g,b⟩
def BL(K:0e9)(mg:1e3)(x:Str)(C HE:3e5)(q:Str)(st:Stmt)(ps:3e8):Prop:=∃f fd,Hf K "__init__" q st f fd∧PySem.W.fu K C HE f∧Binds K fd ps []∧mg x=some (.ref C)∧keepIn K (.ref C)=true
structure WB(P:Program)(w:World)(K:0e9)(mg:1e3)(base:Heap)(k:Nat)(x:Str)(C HE:3e5)(ps:3e8)(sp:Sp)(f:3e5)(fd:FuncData):Prop where
 ok:fD P w K mg base rO k f fd ps sp
 z:PySem.W.fu K C HE f
 b:Binds K fd ps []
 g:mg x=some (.ref C)
 kp:keepIn K (.ref C)=true
def sr(P:Program)(w:World)(K:0e9)(mg:1e3)(base:Heap)(k:Nat)(x:Str)(C HE:3e5)(ps:3e8)(sp:Sp):Prop:=∃f fd,WB P w K mg base k x C HE ps sp f fd
def BL.cN{x q:Str}{C HE:3e5}{st:Stmt}{N ps:3e8}{k:Nat}{sp:Sp}(D:BL K mg x C HE q st ps)(S:av N ps (aj st))(len:3e1)
  (dn:∀(f:3e5) (aY:Value) (A:Around) (outer:List Env) (s:Shared) (H:Hp) (vs:4e5) (Q:VK) (E:XK),cG k (A.deeper (envOfC q (aj st) s.heap.objs.size f aY))→sp vs H Q E→
   ∃t,mn (jy rO P w K mg base N q (aj st) f aY A outer s H E).Hv (aR st) t∧t { nx:=λ_ H'=>Q .cw H',rt:=Q } (start N vs) H):sr P w K mg base (k+1) x C HE ps sp:=by
 obtain⟨f,fd,F,Z,b,g,kp⟩:=D;exact⟨f,fd,F.ok S len (dn f),Z,b,g,kp⟩
end
end L2
namespace L2S
open PySem PySem.Spec PySem.Calls PyProof.Rows
section
variable {prog:Program}{w:World}{A:Around}{I:3e5}{fp wr:List Addr}{n:Nat}{P:Nat→Value→Prop}{St:Nat→Heap→Prop}
def WC(P:Nat→Value→Prop)(bt:Nat→Nat→Bool)(i:Nat)(old:Array Value):Prop:=(i=0∧old=#[])∨∃j vb,i=j+1∧old=#[vb,vb]∧P (argBest bt j) vb
def M9{R:Result→Shared→Prop}(W:Walks prog w A.in1 I fp wr n P St)(bt:Nat→Nat→Bool)(hcmp:CmpOf prog w A.in1 .Lt P bt)(S:3e5)(hSf:S∉fp)(k:Nat):
  ∀(i:Nat) (s:Shared) (old:Array Value) (c:Nat),i+k=n→St i s.heap→WC P bt i old→s.heap.get? S=some { cls:= .type "list",dict:=none,data:= .seq old c,slots:=#[] }→
  (∀v h' tk,(n=0∧v=d∨0<n∧P (argBest bt (n - 1)) v)→(∀b o,b∉wr→b≠S→s.heap.get? b=some o→h'.get? b=some o)→R (.ok (.ret v)) { s with heap:=h',toks:=tk })→
  codeAny 2e5 A (.builtin "min.loop" ⟨[.ref I, .none, .ref S],[(key,d)]⟩) R s:=by
 have hSw:S∉wr:=λh=>hSf (W.sub _ h);have nm:(toString "min" ++toString ".loop" :String)="min.loop" :=by decide
 have oth:∀{h:Heap} {f:Obj→Obj} {b:3e5} {o:Obj},b≠S→h.get? b=some o→(h.update S f).get? b=some o:=λhb e=>(Heap.get?_update_other _ _ (Ne.symm hb)).trans e
 induction k with
 |zero=>
  intro i s old c hi eC hB hS hR;have mP:i=n:=by omega
  refine codeAny_builtin F.entry_min_loop ?_;rw[Around.under_plainId F.plain_min_loop];refine wpAny_bind (wpAny_seqItems hS rfl (wpAny_bind (wpAny_tryCatch (W.done s _ _ (mP▸eC) λh' tk PN=>?_))));rcases hB with ⟨rfl,rfl⟩ | ⟨j,vb,rfl,rfl,hP⟩
  ·exact wpAny_bind (wpAny_rule (wpAny_pure (hR d h' tk (.inl ⟨mP.symm,rfl⟩) λb o hb _ e=>PN b o hb e)))
  ·refine wpAny_bind (wpAny_updateSeq (PN S _ hSw hS) rfl (wpAny_bind (wpAny_letGo (wpAny_pure ?_))));exact hR vb _ tk (.inr ⟨by omega,by rw[←mP];exact hP⟩) λb o hb hbS e=>oth hbS (PN b o hb e)
 |succ k ih=>
  intro i s old c hi eC hB hS hR;have oH:i<n:=by omega
  refine codeAny_builtin F.entry_min_loop ?_;rw[Around.under_plainId F.plain_min_loop];refine wpAny_bind (wpAny_seqItems hS rfl (wpAny_bind (wpAny_tryCatch (W.item i s _ _ oH eC λv h' tk hP hst' PN=>?_))));have WD:=PN S _ hSw hS;have R1:∀{h2:Heap} {new:Array Value} {c2:Nat},(∀b o,b≠S→h'.get? b=some o→h2.get? b=some o)→WC P bt (i+1) new→h2.get? S=some { cls:= .type "list",dict:=none,data:= .seq new c2,slots:=#[] }→
    codeAny 2e5 A (.builtin "min.loop" ⟨[.ref I, .none, .ref S],[(key,d)]⟩) R { s with heap:=h2,toks:=tk }:=fun {h2 new c2} k2 b2 s2=>
   ih (i+1) _ new c2 0e5 (W.frame _ _ _ hst' λb hb o e=>k2 b o (λz=>hSf (z▸hb)) e) b2 s2 λv' h3 t3 hP3 U7=>hR v' h3 t3 hP3 λb o hb hbS e=>U7 b o hb hbS (k2 b o hbS (PN b o hb e))
  rcases hB with ⟨rfl,rfl⟩ | ⟨j,vb,rfl,rfl,hPb⟩
  ·show wpAny _ A.in1 (updateSeq S (λ_=>#[v,v]) >>= _) _ _ _;refine wpAny_bind (wpAny_updateSeq WD rfl ?_);rw[nm];exact wpAny_pure ⟨plainId_quiet F.plain_min_loop _,R1 (λb o hb e=>oth hb e) (.inr ⟨0,v,rfl,rfl,hP⟩) (Heap.get?_update_self _ WD rfl)⟩
  ·refine wpAny_bind (wpAny_pure ?_);refine wpAny_bind (wpAny_tryCatch (wpAny_holding (wpAny_bind (hcmp (j+1) (argBest bt j) v vb _ _ _ hP hPb (wpAny_bind (wpAny_holding (wpAny_truthy_bool (wpAny_bind (wpAny_letGo (wpAny_pure ?_))))))))))
   cases hb:bt (j+1) (argBest bt j) with
   |true=>
    simp only [if_true];refine wpAny_bind (wpAny_updateSeq WD rfl (wpAny_bind (wpAny_letGo ?_)));rw[nm];exact wpAny_pure ⟨plainId_quiet F.plain_min_loop _,R1 (λb o Ft e=>oth Ft e) (.inr ⟨j+1,v,rfl,rfl,by simp only [argBest,hb,if_true];exact hP⟩) (Heap.get?_update_self _ WD rfl)⟩
   |false=>
    simp only [Bool.false_eq_true,if_false];refine wpAny_bind (wpAny_letGo ?_);rw[nm];exact wpAny_pure ⟨plainId_quiet F.plain_min_loop _,R1 (λb o _ e=>e) (.inr ⟨j+1,vb,rfl,rfl,by simp only [argBest,hb,Bool.false_eq_true,if_false];exact hPb⟩) WD⟩
end
section
variable {prog:Program}{w:World}{A:Around}{E:0e3}{s:Shared}{l:3e5}{xs:Array (Int×Tok)}{d:Value}
def R3{kw:List (Str×Value)}{Q:0e3}(ha:argsOk "min" ⟨args,kw⟩)(hc:wpAny 2e5 A.in1 (Builtin.«min» ⟨args,kw⟩) (λfin s'=>match fin with
   | .done f=>(match (Except.ok f:Result) with| .ok (.ret v)=>Q v s'| .ok _=>False| .error e=>E e s')
   | .again c'=>c'.quiet=true∧codeAny 2e5 A c' (λr s'=>match r with| .ok (.ret v)=>Q v s'| .ok _=>False| .error e=>E e s') s') E s):wpAny 2e5 A (call (.builtin "min") args kw) Q E s:=by
 refine wpAny_call (codeAny_call_builtin F.plain_min F.entry_min ?_);rw[checkBuiltinCall,F.kind_min];unfold argsOk at ha
 cases hs:Manifest.signature? "min" with
 |none=>exact wpAny_pure hc
 |some sig=>
  rw[hs] at ha;have ha:Bind.checkArgs "min" sig ⟨args,kw⟩=pure ():=ha;dsimp only;rw[ha];exact wpAny_pure hc
def FG(a v:Value):argsOk "min" ⟨[a],[(Str.ofString "default",v)]⟩:=by unfold argsOk;kernel_rfl
def FH{Q:0e3}(hh:A.handled=none)(hl:s.heap.IsList l (intItems xs))
  (h:∀v h' tk,(xs.size=0∧v=d∨0<xs.size∧(intItems xs)[argBest (λi j=>decide (numAt xs i<numAt xs j)) (xs.size - 1)]? =some v)→(∀b o,s.heap.get? b=some o→h'.get? b=some o)→Q v { s with heap:=h',toks:=tk }):
  wpAny 2e5 A (call (.builtin "min") [.ref l] [(Str.ofString "default",d)]) Q E s:=by
 have nm:(toString "min" ++toString ".loop" :String)="min.loop" :=by decide
 refine R3 (FG _ _) ?_;show wpAny _ A.in1 (Builtin.Builtins.bindParams "min" ["key","default"] 0 ⟨[],[(Str.ofString "default",d)]⟩ >>= _) _ _ s;refine wpAny_bind (wpAny_of_eq (show Builtin.Builtins.bindParams "min" ["key","default"] 0 ⟨[],[(Str.ofString "default",d)]⟩=pure [none,some d] from rfl) (wpAny_bind (wpAny_pure (wpAny_bind (iter_intList hl λs₂ e st hfp hlI=>?_)))));subst e;refine wpAny_bind (wpAny_newObj_type ?_);rw[nm];have W:=Walks.list (prog:=prog) (w:=w) (A:=A.in1) hh s.heap.objs.size l hlI (intItems xs);refine wpAny_pure ⟨plainId_quiet F.plain_min_loop _,M9 W (λi j=>decide (numAt xs i<numAt xs j)) (CmpOf.ints_lt (numAt xs) (λ_ _=>intItems_at)) _ (λhm=>lt_irrefl _ (hfp _ hm)) (intItems xs).size 0 _ #[] _ (Nat.zero_add _) (W.frame _ _ _ st λb _ o e=>Heap.get?_push_of_some _ e) (.inl ⟨rfl,rfl⟩) (Heap.get?_push_size _ rfl) λv h' tk hP hk=>?_⟩;refine h v h' tk ?_ (old_kept λb o hb e=>hk b o hb (ne_of_lt (Heap.lt_size e)) (Heap.get?_push_of_some _ e));have ez:(intItems xs).size=xs.size:=by simp [intItems]
 rw[ez] at hP;exact hP
end
end L2S
namespace L2
open PySem PySem.Spec PyProof.Rows
section
variable {X:Cx}
def WE(K:0e9)(t:TA):TE:=fun σ H Q=>t σ H λvs H1=>∃q,∃ns:List Int,vs=[.ref q]∧bM K H1 q (ns.map V.int)∧(ns=[]→Q .cw H1)∧∀M,M∈ns→(∀a∈ns,M≤a)→Q (.int M) H1
def Na{j}(hc:X.calm=true)(hg:Gl X "min")(hm:X.mg "min" =none)(ha:PA X [e] t)(he:backTo pos (starEach [e] X.env)=[(false,eval e X.env)]:=by rfl):PE X (.Call (.Name "min" p) [e] [⟨some "default", .Constant .none j V0,kp⟩] pos) (WE X.K t):=by
 intro pins s σ H Q I h;refine wpAny_Call_Name_kw (oS I hg hm RF ?_);refine callWith_kw (bR (ha pos pins s σ H _ I h) λus s1 ⟨vs,H1,I1,r1,q,ns,ev,hS,q0,q1⟩=>kws_cons (bR (mq pins s1 σ H1 (λv H'=>v= .cw∧H'=H1) I1 ⟨rfl,rfl⟩) λu s2 ⟨v,H2,I2,r2,ev2,eH⟩=>kws_nil ?_)) (by rw[he];rfl) (by rw[he];rfl);subst ev ev2 eH;cases (show u=Value.none from r2);obtain⟨u1,rfl,ru⟩:=vals1 r1;cases ru;obtain⟨its,rv,pl,hz⟩:=I2.list hS;have hi:IntsAre its ns:=intsAre_of rv;obtain⟨xs,ex⟩:=hi.allInts.items;have vp:ns=xs.toList.map 1e8:=by rw[←hi.numsOf,←nums_intItems,←ex]
 have hl:s2.heap.IsList q (intItems xs):=ex▸pl.isList;refine L2S.FH (I2.ok.hd hc) hl λv h' tk hv hk=>?_;rcases hv with ⟨h0,rfl⟩ | ⟨hp,hv⟩
 ·refine⟨.cw,H2,I2.kept hk,rfl,q0 ?_⟩;rw[vp,List.map_eq_nil_iff];exact List.eq_nil_of_length_eq_zero (by rw[Array.length_toList];exact h0)
 ·obtain⟨t,rfl⟩:=intItems_at hv;obtain⟨g1,g2⟩:=argBest_lt (numAt xs) (xs.size - 1);refine⟨.int _,H2,I2.kept hk,⟨t,rfl⟩,q1 _ ?_ λa ha=>?_⟩
  ·rw[vp,numAt_eq];exact getD_mem (by rw[length_map,Array.length_toList];omega)
  ·rw[vp] at ha;obtain⟨i,Wm,rfl⟩:=mem_getD ha;rw[length_map,Array.length_toList] at Wm;rw[←numAt_eq];exact g2 i 0e5
end
end L2
namespace L2
open PySem PySem.Spec
section
variable {X:Cx}
end
end L2
namespace L2
open PySem PySem.Spec
def zR(v:Value):kitOne K v v=some true:=by
 unfold kitOne;rw[if_pos 2e9]
end L2
namespace L2
open PySem PySem.Spec PyProof.Rows
def ln1{p:List Value→Prop}(us:4e1)(e:us.length=1)(h:∀a,p [a]):p us:=by
 cases us with
 |nil=>cases e
 |cons a us=>cases us with
  |nil=>exact h a
  |cons b us=>simp at e
def ln2{p:List Value→Prop}(us:4e1)(e:us.length=2)(h:∀a b,p [a,b]):p us:=by
 cases us with
 |nil=>cases e
 |cons a us=>exact ln1 (p:=λus=>p (a::us)) us (by simpa using e) (h a)
def ln3{p:List Value→Prop}(us:4e1)(e:us.length=3)(h:∀a b c,p [a,b,c]):p us:=by
 cases us with
 |nil=>cases e
 |cons a us=>exact ln2 (p:=λus=>p (a::us)) us (by simpa using e) (h a)
def ln4{p:List Value→Prop}(us:4e1)(e:us.length=4)(h:∀a b c d,p [a,b,c,d]):p us:=by
 cases us with
 |nil=>cases e
 |cons a us=>exact ln3 (p:=λus=>p (a::us)) us (by simpa using e) (h a)
def ln5{p:List Value→Prop}(us:4e1)(e:us.length=5)(h:∀a b c d e,p [a,b,c,d,e]):p us:=by
 cases us with
 |nil=>cases e
 |cons a us=>exact ln4 (p:=λus=>p (a::us)) us (by simpa using e) (h a)
section
variable {K:0e9}{h:Heap}{mg:1e3}{x m q:Str}{st:Stmt}{ps:3e8}{f C HE:3e5}
def dt(K:0e9)(x q:Str)(st:Stmt)(f:3e5):Prop:=(∃fd,Hf K x q st f fd)∧PySem.W.isFn K (.ref f)=true
def BB(x q:Str)(st:Stmt)(ps:3e8)(kV doc pm:Value)(an:Option Addr)(aY ct:Value)(us:4e1):Prop:=bindArgs (fnOf x q (bD st) (aR st) (aj st) .none kV doc pm an aY ct) ⟨us,[]⟩=pure (ps.zip us)
def BA(x q:Str)(st:Stmt)(ps:3e8):Prop:=∀(kV doc pm:Value) (an:Option Addr) (aY ct:Value) (us:4e1),us.length=ps.length→BB x q st ps kV doc pm an aY ct us
def g7(h:∀(kV doc pm:Value) (an:Option Addr) (aY ct u0:Value),BB x q st [p0] kV doc pm an aY ct [u0]):BA x q st [p0]:=λkV doc pm an aY ct us hl=>ln1 (p:=BB x q st [p0] kV doc pm an aY ct) us hl (h kV doc pm an aY ct)
def m5(h:∀(kV doc pm:Value) (an:Option Addr) (aY ct u0 u1:Value),BB x q st [p0,p1] kV doc pm an aY ct [u0,u1]):BA x q st [p0,p1]:=λkV doc pm an aY ct us hl=>ln2 (p:=BB x q st [p0,p1] kV doc pm an aY ct) us hl (h kV doc pm an aY ct)
def WG(h:∀(kV doc pm:Value) (an:Option Addr) (aY ct u0 u1 u2:Value),BB x q st [p0,p1,p2] kV doc pm an aY ct [u0,u1,u2]):BA x q st [p0,p1,p2]:=λkV doc pm an aY ct us hl=>ln3 (p:=BB x q st [p0,p1,p2] kV doc pm an aY ct) us hl (h kV doc pm an aY ct)
def ba4(h:∀(kV doc pm:Value) (an:Option Addr) (aY ct u0 u1 u2 u3:Value),BB x q st [p0,p1,p2,p3] kV doc pm an aY ct [u0,u1,u2,u3]):BA x q st [p0,p1,p2,p3]:=λkV doc pm an aY ct us hl=>ln4 (p:=BB x q st [p0,p1,p2,p3] kV doc pm an aY ct) us hl (h kV doc pm an aY ct)
def ba5(h:∀(kV doc pm:Value) (an:Option Addr) (aY ct u0 u1 u2 u3 u4:Value),BB x q st [p0,p1,p2,p3,p4] kV doc pm an aY ct [u0,u1,u2,u3,u4]):BA x q st [p0,p1,p2,p3,p4]:=λkV doc pm an aY ct us hl=>ln5 (p:=BB x q st [p0,p1,p2,p3,p4] kV doc pm an aY ct) us hl (h kV doc pm an aY ct)
def cX{P:3e8}{sc:Scope}(a:sc.kind= .function:=by rfl)(b:sc.isCoroutine=false:=by rfl)(c:sc.isGenerator=false:=by rfl)(d:N.Nodup:=by decide+kernel)(e:N.take P.length=P:=by rfl)(f:∀x∈P,sc.names.lookup x=some .local∨sc.names.lookup x=some .cell:=by decide+kernel)(g:∀y∈sc.names,y.2≠ .free:=by decide+kernel):av N P sc:=⟨a,b,c,d,e,f,g⟩
def ck(X:K.In h)(G:h.Ns mainGlobals mg)(a:nsIn K mainGlobals x=some (some (.ref f)))(l:dt K x q st f)(b:BA x q st ps):Def K mg x q st ps:=by
 obtain⟨⟨fd,F⟩,_⟩:=l;exact⟨f,fd,F,F.binds b,mg_of X G a⟩
def bI(a:PySem.W.findIn K (.ref C) m=some (some (.ref f)))(l:dt K m q st f)(b:BA m q st ps):aX K C m q st ps:=by
 obtain⟨⟨fd,F⟩,i⟩:=l;exact⟨f,fd,F,F.binds b,⟨a,i,F.kp⟩⟩
def IG(k:PySem.W.makesIn K C=true)(a:PySem.W.findIn K (.ref C) "__init__" =some (some (.ref f)))(kc:keepIn K (.ref C)=true)(l:dt K "__init__" q st f)(b:BA "__init__" q st ps):l6 K C q st ps []:=by
 obtain⟨⟨fd,F⟩,i⟩:=l;exact⟨f,fd, .none,⟨F.ex,F.kp⟩,⟨k,a,i,kc⟩,λj _=>⟨[],by rw[List.drop_nil];exact .nil,F.binds b⟩⟩
def PQ(Z:PySem.W.fu K C HE f)(g:mg x=some (.ref C))(kc:keepIn K (.ref C)=true)(l:dt K "__init__" q st f)(b:BA "__init__" q st ps):BL K mg x C HE q st ps:=by
 obtain⟨⟨fd,F⟩,i⟩:=l;exact⟨f,fd,F,Z,F.binds b,g,kc⟩
end
end L2
namespace L2
open PySem PySem.Spec PyProof.Rows PySem.W PySem.Calls
section
variable {prog:Program}{w:World}{κ:Type}[DecidableEq κ]{knd:KeyKind prog w κ}{A:Around}{E:0e3}{s:Shared}{d it:3e5}{i ep:Nat}{kvs:List (κ×Value)}
end
section
variable {X:Cx}
end
end L2
namespace L2
open PySem PySem.Spec PyProof.Rows
end L2
namespace L2
open PySem PySem.Spec
end L2
namespace L2
open PySem PySem.Spec PyProof.Rows PySem.W
section
variable {X:Cx}
end
end L2
namespace L2
open PySem PySem.Spec PyProof.Rows
section
variable {prog:Program}{w:World}{A:Around}{R:Result→Shared→Prop}{s:Shared}
def BM{EB:0e3}(J:Nat→Shared→Prop)(turn:∀n s,J n s→wpAny 2e5 A (pyNext it) (λr s₁=>match r with
   |none=>R (.ok .next) s₁
   |some v=>wpAny 2e5 A (letOwnedTupleGo tg it v) (λ_ sg=>wpAny 2e5 A (assign tg env v) (λ_ s₂=>
     wpAny 2e5 A (forIn ifs true λc r=>if r=true then do let ok←isTrue c env (eval c env);pure (ForInStep.yield ok) else pure (ForInStep.yield r)) (λok s₃=>
      if ok=true then wpAny 2e5 A (eval elt env) (λx s₄=>wpAny 2e5 A (call (.builtin "list.append") [acc,x]) (λ_ s₅=>∃m,m<n∧J m s₅) (λ_ _=>False) s₄) EB s₃
      else∃m,m<n∧J m s₃) (λ_ _=>False) s₂) (λ_ _=>False) sg) (λ_ _=>False) s₁) (λ_ _=>False) s)(hE:∀v s,EB v s→notedBy 2e5 A env (λx s'=>R (.error x) s') v s)(n:Nat) (h:J n s):codeAny 2e5 A (.compLoop 2e3 0 it acc env) R s:=by
 refine codeAny_loop rfl J (λn s hJ=>?_) n h;show wpAny _ A ((compTurn 2e3 0 it acc env).onRaise (λx=>do noteFrame x env;theTreesLotGoes x)) _ _ s;refine wpAny_noted ?_;rw[compTurn_list];have no:∀{P:0e3} (a:Value) (s:Shared),(λ(_:Value) (_:Shared)=>False) a s→P a s:=λ_ _ z=>False.elim z;refine wpAny_bind (wpAny_standAt (wpAny_bind (wpAny_mono (turn n s hJ) (λr s₁ h₁=>?_) no)))
 cases r with
 |none=>exact wpAny_pure h₁
 |some v=>
  refine wpAny_bind (wpAny_mono h₁ (λ_ sg hg=>?_) no);refine wpAny_bind (wpAny_mono hg (λ_ s₂ h₂=>wpAny_bind (wpAny_mono h₂ (λok s₃ h₃=>?_) no)) no)
  cases ok with
  |false=>exact wpAny_pure ⟨rfl,h₃⟩
  |true=>exact wpAny_bind (wpAny_bind (wpAny_mono h₃ (λx s₄ h₄=>wpAny_bind (wpAny_mono h₄ (λ_ s₅ h₅=>wpAny_pure (wpAny_pure ⟨rfl,h₅⟩)) no)) hE))
end
def IH(x:h.kh e (some T))(sb:Heap.SameBut C h h')(ne:e≠C)(nT:T≠C):h'.kh e (some T):=by
 obtain⟨⟨o,vs,h1,h2,h3⟩,h4⟩:=x;refine⟨⟨o,vs,(sb.2 e ne).trans h1,h2,h3⟩,λT' z=>?_⟩;cases z;obtain⟨n,oT,ts,h5,h6,h7⟩:=h4 T rfl;exact⟨n,oT,ts,(sb.2 T nT).trans h5,h6,h7⟩
def R4(ER:St→XK)(wi:TI)(fr:List (Option Nat))(g:TG)(tt:TT)(te:(St→XK)→TE):TE:=fun σ H Q=>wi σ H λJ H1=>∀D,H1 D=none→∃W:Nat→Nat→St→Hp→Prop,(∃m,W 0 m (startB fr σ) (upd H1 D (.lst [])))∧∀i m σ' H,W i m σ' H→
 (J.stop i H∧Q (.ref D) H)∨(J.go i H∧∀x H2,J.oW i H x H2→g x σ' H2 fun σ3 H3=>tt σ3 H3 λb H4=>if b=true
   then te (λ_=>ER σ) σ3 H4 λy H5=>∃ys,H5 D=some (.lst ys)∧ys.length<sizeLine∧∃m',m'<m∧W (i+1) m' σ3 (upd H5 D (.lst (ys++[y])))
   else∃m',m'<m∧W (i+1) m' σ3 H4)
section
variable {X:Cx}{elt tg iter:Expr}{ifs:List Expr}{scope:Scope}{pos:Pos}{N:3e8}{fr:List (Option Nat)}{cl:List (Str×Addr)}{wi:TI}{g:TG}{tt:TT}{te:TE}
def II{EO:XK}(B:Rt X N fr scope cl)(hc:X.calm=true)(fm:BI X)
  (hg:∀pins fp s H,PG (jr X pins N scope cl fp s H) tg g) (ht:∀pins fp s H,L5 (jr X pins N scope cl fp s H) ifs tt) (he:∀pins fp s H,PE ((jr X pins N scope cl fp s H).i3 (jh (jr X pins N scope cl fp s H) λ_=>EO)) elt te)
  {pins:1e4} {s3:Shared} {σ:St} {H3:Hp} {Q:VK} {it D:3e5} {fp:List Addr} {tn:Nat→Heap→Prop} {J:It} (I3:Inv X pins σ H3 s3) (T:Turn X.prog X.w X.K tg J fp it tn) (UY:tn 0 s3.heap) (f3:∀b∈fp,gA X pins H3 b∧b<s3.heap.objs.size)
  {W:Nat→Nat→St→Hp→Prop} {m0:Nat} (w0:W 0 m0 (startB fr σ) H3)
  (turn:∀i m σ H,W i m σ H→(J.stop i H∧Q (.ref D) H)∨(J.go i H∧∀x H2,J.oW i H x H2→g x σ H2 fun σ3 H3=>tt σ3 H3 λb H4=>if b=true
    then te σ3 H4 λy H5=>∃ys,H5 D=some (.lst ys)∧ys.length<sizeLine∧∃m',m'<m∧W (i+1) m' σ3 (upd H5 D (.lst (ys++[y])))
    else∃m',m'<m∧W (i+1) m' σ3 H4))
  {R:Result→Shared→Prop} (hR:∀s' H',Inv X pins σ H' s'→gA X pins H' s3.heap.objs.size→(∃m,s'.heap.Ns s3.heap.objs.size m)→Q (.ref D) H'→R (.ok .next) s')
  (hRE:∀s' H' e C dx T,Inv X pins σ H' s'→gA X pins H' s3.heap.objs.size→(∃m,s'.heap.Ns s3.heap.objs.size m)→H' e=some (vC e C dx)→s'.heap.kh e (some T)→H' T=none→ij X T→T≠s3.heap.objs.size→EO (.ref C) dx H'→R (.error (.ref e)) s')
  {h₁:Heap} {t1:Nat} (vp:h₁.Ns s3.heap.objs.size λ_=>none) (Dc:∀b o,s3.heap.get? b=some o→h₁.get? b=some o):
  codeAny 1e0 X.A (.compLoop 2e3 0 (.ref it) (.ref D) (compEnvC scope cl s3.heap.objs.size X.env)) R { s3 with heap:=h₁,toks:=t1 }:=by
 have Ib:=vq (t1:=t1) B I3 f3 vp Dc;have rD:∀{H':Hp},(∀b∈fp,H' b=none)→∀b∈fp,gA (jr X pins N scope cl fp s3 H3) [] H' b:=λhn b hb=>
  ⟨hn b hb,ne_of_lt (f3 b hb).2,(BC B I3 f3).ux b hb, .inl hb,λx c h=>(f3 b hb).1.2.2.2.2.1 x c (B.cells x c h),λp hp=>(f3 b hb).1.2.2.2.2.2 p (by rw[append_nil] at hp;exact hp)⟩
 refine BM (EB:=jh (jr X pins N scope cl fp s3 H3) λ_=>EO) (λn s'=>∃i σ' H',Inv (jr X pins N scope cl fp s3 H3) [] σ' H' s'∧tn i s'.heap∧(∀b∈fp,H' b=none)∧W i n σ' H') ?_ ?_ m0
  ⟨0,_,_,Ib,T.keep _ _ _ UY λb _ o e=>Dc b o e,λb hb=>(f3 b hb).1.1,w0⟩
 ·rintro n s4 ⟨i,σ4,H4,I4,Wg,Wh,w4⟩;rcases turn i n σ4 H4 w4 with ⟨stop,qn⟩ | ⟨go,step⟩
  ·refine bR (T.done (jr X pins N scope cl fp s3 H3) rfl rfl rfl hc i [] s4 σ4 H4 _ I4 (rD Wh) Wg stop) λr s5 ⟨hr,I5⟩=>?_;subst hr;have J5:Inv X pins σ H4 s5:=I3.y8 (ch:=fp) I5.os I5.base I5.aM I5.bare λb hb=>⟨(f3 b hb).1.2.2.2.1,(f3 b hb).1.2.1,(f3 b hb).1.2.2.2.2.1,(f3 b hb).1.2.2.2.2.2⟩;obtain⟨mm,HY,_⟩:=I5.loc;exact hR s5 H4 J5 (I3.wZ (le_refl _) I5.free) ⟨mm,HY⟩ qn
  ·refine bR (T.item (jr X pins N scope cl fp s3 H3) rfl rfl rfl hc i [] s4 σ4 H4 _ I4 (rD Wh) Wg go) λr s5 ⟨u,hr,h5⟩=>?_;subst hr;refine bR h5 λ_ s6 ⟨x,H6,I6,r6,y6,Rw,fr6⟩=>?_;have I6':=I6.pinned (rD fr6) (T.obj _ _ Rw);have back:∀{s7:Shared} {σ7:St} {H7:Hp} {m':Nat},Inv (jr X pins N scope cl fp s3 H3) ([]++oX fp s6.heap) σ7 H7 s7→m'<n→W (i+1) m' σ7 H7→
     ∃m,m<n∧∃i σ' H',Inv (jr X pins N scope cl fp s3 H3) [] σ' H' s7∧tn i s7.heap∧(∀b∈fp,H' b=none)∧W i m σ' H':=fun {s7 σ7 H7 m'} I7 hm w7=>by
    refine⟨m',hm,i+1,σ7,H7,I7.fA,T.keep _ _ _ Rw λb hb o e=>(I7.pin (b,o) (mem_append_right _ (mem_append_right _ (fS hb e)))).1,λb hb=>?_,w7⟩;obtain⟨o,e,d⟩:=T.obj _ _ Rw b hb;exact(I7.pin (b,o) (mem_append_right _ (mem_append_right _ (fS hb e)))).2.1
   refine bR (hg _ _ _ _ _ s6 σ4 H6 x u _ I6' r6 (step x H6 y6)) λ_ s7 ⟨σ7,H7,I7,q7⟩=>?_;refine bR (ht _ _ _ _ _ s7 σ7 H7 _ I7 q7) λok s8 ⟨H8,I8,q8⟩=>?_
   cases ok with
   |false=>
    rw[if_neg 0e4] at q8 ⊢;obtain⟨m',hm,w8⟩:=q8;exact back I8 hm w8
   |true=>
    rw[if_pos rfl] at q8 ⊢;refine bR (he pins fp s3 H3 _ s8 σ7 H8 _ (I8.i3 _) q8) λy s9 ⟨v9,H9,I9,r9,ys,hD9,hl9,m',hm,w9⟩=>?_;have I9:=I9.dO;refine bR (dB _ s9 σ7 H9 (.ref D) [v9] _ [y] (λ_ H'=>W (i+1) m' σ7 H') I9 rfl (.cons r9 .nil) ⟨_,ys,v9,rfl,rfl,hD9,hl9,w9⟩) λ_ s10 ⟨_,Fp,I10,_,q10⟩=>?_;exact back I10 hm q10
 ·rintro v s5 ⟨e,C,dx,σb,H5,tb,rfl,I5,hxe,fl,htb,hEO⟩;obtain⟨fr',_⟩:=lD fm I3
  have ff:s5.heap.FunFrames X.base (X.env::X.outer):=by
   have:=I5.stack;rw[←fm.1];exact this
  show wpAny _ X.A (noteFrame (.ref e) X.env) _ _ s5;refine qG fr' ff fm.2 fl λh1 T' a b m=>?_
  have m1:Heap.Moved (uw (jr X pins N scope cl fp s3 H3).stack) e tb s5.heap h1:=by
   show Heap.Moved (uw X.stack) e tb s5.heap h1;unfold uw;rw[fm.1];exact m
  have I6:=I5.moved hxe htb m1;obtain⟨t1,t2⟩:=xy I5 htb b T' rfl;have J6:Inv X pins σ H5 { s5 with heap:=h1 }:=I3.y8 (ch:=fp) I6.os I6.base I6.aM I6.bare λb hb=>⟨(f3 b hb).1.2.2.2.1,(f3 b hb).1.2.1,(f3 b hb).1.2.2.2.2.1,(f3 b hb).1.2.2.2.2.2⟩;obtain⟨mm,HY,_⟩:=I6.loc;exact hRE _ H5 e C dx T' J6 (I3.wZ (le_refl _) I6.free) ⟨mm,HY⟩ hxe a t1 (I3.Iw t2.above) t2.loc hEO
def FI{EO:XK}(B:Rt X N fr scope cl)(hc:X.calm=true)(fm:BI X)
  (hg:∀pins fp s H,PG (jr X pins N scope cl fp s H) tg g) (ht:∀pins fp s H,L5 (jr X pins N scope cl fp s H) ifs tt) (he:∀pins fp s H,PE ((jr X pins N scope cl fp s H).i3 (jh (jr X pins N scope cl fp s H) λ_=>EO)) elt te)
  {pins:1e4} {s2:Shared} {σ:St} {H2:Hp} {Q:VK} {E:0e3} {it:3e5} {fp:List Addr} {tn:Nat→Heap→Prop} {J:It} (I2:Inv X pins σ H2 s2) (T:Turn X.prog X.w X.K tg J fp it tn) (Bm:tn 0 s2.heap) (f2:∀b∈fp,gA X pins H2 b)
  (q:∀D,H2 D=none→∃W:Nat→Nat→St→Hp→Prop,(∃m,W 0 m (startB fr σ) (upd H2 D (.lst [])))∧∀i m σ H,W i m σ H→ (J.stop i H∧Q (.ref D) H)∨(J.go i H∧∀x H2,J.oW i H x H2→g x σ H2 fun σ3 H3=>tt σ3 H3 λb H4=>if b=true
     then te σ3 H4 λy H5=>∃ys,H5 D=some (.lst ys)∧ys.length<sizeLine∧∃m',m'<m∧W (i+1) m' σ3 (upd H5 D (.lst (ys++[y])))
     else∃m',m'<m∧W (i+1) m' σ3 H4))
  {RR:Value→Addr→Result→Shared→Prop}
  (hRR:∀D C s' H',Inv X pins σ H' s'→gA X pins H' C→(∃m,s'.heap.Ns C m)→Q (.ref D) H'→RR (.ref D) C (.ok .next) s')
  (hRE:∀D C s' H' e Ce dx T,Inv X pins σ H' s'→gA X pins H' C→(∃m,s'.heap.Ns C m)→H' e=some (vC e Ce dx)→s'.heap.kh e (some T)→H' T=none→ij X T→T≠C→EO (.ref Ce) dx H'→RR (.ref D) C (.error (.ref e)) s'):
  wpAny 1e0 X.A (newList []) (λacc s₃=>wpAny 1e0 X.A (newFunctionEnv scope X.env.globals cl [] X.env.qual none .none (some X.env)) (λxk s₄=>
   codeAny 1e0 X.A (.compStart 2e3 0 (.ref it) acc { xk with scope:=relabel scope X.env }) (RR acc xk.locals) s₄) E s₃) E s2:=by
 have hD:H2 s2.heap.objs.size=none:=I2.aM.fresh (le_refl _);obtain⟨W,⟨m0,w0⟩,turn⟩:=q s2.heap.objs.size hD;have I3:=I2.MF (ys:=[]) (its:=[]) (t':=s2.toks) .nil 0e4
 have Wi:∀b∈fp,b<s2.heap.objs.size:=λb hb=>by
  obtain⟨o,e,_⟩:=T.obj _ _ Bm b hb;exact Heap.lt_size e
 refine wpAny_newObj_type (wpAny_newFunctionEnv B.rQ (by intro y hy;simp at hy) (λh₁ vp MN=>?_) B.kind);have Wj:∀b o,s2.heap.get? b=some o→(s2.heap.push 4e6).get? b=some o:=λb o e=>Heap.get?_push_of_some _ e;have Dc:∀b o,(s2.heap.push 4e6).get? b=some o→h₁.get? b=some o:=λb o e=>MN.extBut b o (ne_of_lt (Heap.lt_size e)) (Heap.get?_push_of_some _ e)
 have f3:∀b∈fp,gA X pins (upd H2 s2.heap.objs.size (.lst [])) b∧b< (s2.heap.push 4e6).objs.size:=λb hb=>by
  refine⟨⟨?_,(f2 b hb).2⟩,?_⟩
  ·rw[ah (ne_of_lt (Wi b hb))];exact(f2 b hb).1
  ·rw[Heap.size_push];exact Nat.lt_succ_of_lt (Wi b hb)
 have fin:=II (iter:=iter) (pos:=pos) (D:=s2.heap.objs.size) (t1:=s2.toks) (R:=RR (.ref s2.heap.objs.size) (s2.heap.push 4e6).objs.size) B hc fm hg ht he I3 T (T.keep _ _ _ Bm λb _ o e=>Wj b o e) f3 w0 turn
  (λs' H' J' f m q=>hRR _ _ s' H' J' f m q) (λs' H' e C dx T' J' f m z1 z2 z3 z4 z5 z6=>hRE _ _ s' H' e C dx T' J' f m z1 z2 z3 z4 z5 z6) vp Dc
 exact codeAny_compStart_list fin (T.self _ 0 _ _ _ (T.keep _ _ _ Bm λb _ o e=>Dc b o (Wj b o e)) fin)
def BN{ER:St→XK}(L:Lets X ER)(J':Inv X pins σ H' s')(fC:gA X pins H' C)(hm:∃m,s'.heap.Ns C m)(he:H' e=some (vC e Ce dx))(fl:s'.heap.kh e (some T))(hT:H' T=none)(nT:ij X T)(TC:T≠C)(hE:ER σ (.ref Ce) dx H'):
  ∃m,s'.heap.Ns C m∧∀h',Heap.SameBut C s'.heap h'→∀xk:Env,xk.locals=C→wpAny 1e0 X.A (passOn "comprehension.variables-let-go" (.ref e) xk:Sem Value) (λ_ _=>False) X.xe { s' with heap:=h' }:=by
 obtain⟨m,hm⟩:=hm;refine⟨m,hm,λh' vt xk _=>?_⟩;obtain⟨f0,f1,_,f3,f4,f5⟩:=fC;have I1:Inv X pins σ H' { s' with heap:=h' }:=J'.turned (t':=s'.toks) (λb o hb e=>(vt.2 b hb).trans e) f0 f1 f3 f4 f5;have UT:e≠C:=λz=>by rw[z,f0] at he;cases he
 have fl1:=IH fl vt UT TC;obtain⟨oe,vs,h1,h2,h3⟩:=id fl1.ex;unfold PySem.passOn;refine wpAny_bind (wpAny_field h1 h2 h3 ?_);rw[if_neg 2e9];have ht:∀T',some T=some T'→H' T'=none∧ij X T':=λT' z=>by cases z;exact⟨hT,nT⟩
 refine wpAny_bind (gZ (s:={ s' with heap:=h' }) fl1 λh2 a m=>wpAny_throw (L _ _ ⟨e,Ce,dx,σ,H',some T,rfl,I1.Iy.moved he ht (m.mono λ_ z=>absurd z 2e9),he,a,ht,hE⟩))
variable {teX:(St→XK)→TE}{ER:St→XK}
variable {Fq py:Pos}
def IJ{i:Nat}{y:Str}{sc:Scope}{NX:3e8}(L:Lets X ER)(fm:BI X)(hN:X.N.Nodup)(Wm:X.N[i]? =some y)(hy:Loc X.env.scope y)(S:HX sc scope NX N fr)(e1:X.env.scope=sc)(e2:X.N=NX)(hc:X.calm=true)(hi:PI X tg iter wi)
  (hg:∀pins fp s H,PG (jr X pins N scope (qk scope X.env) fp s H) tg g) (ht:∀pins fp s H,L5 (jr X pins N scope (qk scope X.env) fp s H) ifs tt) (he:∀EO pins fp s H,PE ((jr X pins N scope (qk scope X.env) fp s H).i3 (jh (jr X pins N scope (qk scope X.env) fp s H) EO)) elt (teX EO))
  (hsw:swapsWith 2e3 (some (.Name y py)) Fq.line X.env=pure true:=by rfl) (hs:∀x,foldedSetIterable iter X.env x=pure x:=by intro _;rfl)
  (hf:X.fn y=true∨X.env.scope.names.lookup y=some .local:=by first|exact .inl rfl|exact .inr rfl|assumption):
  PS X (.Assign [.Name y py] 2e3 Fq) (Mo (R4 ER wi fr g tt teX) (cg i)):=by
 intro pins s σ H D I h;have B:=S.zx e1 e2 I.ok;rw[exec_Assign_Name_used _ _ _ _ hsw];refine wpAny_bind (wpAny_standAt (wpAny_bind ?_));show wpAny _ X.A (do let _←comprehension 2e3 scope X.env _ (newList []) false (eval iter X.env) (some (assign (.Name y py) X.env))) _ _ s;refine wpAny_bind (wpAny_mono (wpAny_comprehension_free (use:=some (assign (.Name y py) X.env)) (Q:=λ_ s'=>SP X pins D .next s') rfl hs B.Ru B.kind B.names (bR (hi pins s σ H _ I h) λv s1 h1=>bR h1 λVM s2 h2=>?_)) (λ_ s' hq=>wpAny_pure (wpAny_pure hq)) λ_ _ e=>e);obtain⟨it,fp,tn,J,H2,e,I2,T,Bm,f2,q⟩:=h2;subst e;refine FI (EO:=ER σ) (Q:=λv H'=>cg i v σ H' D.nx) (RR:=λacc C=>compPost 1e0 X.A X.xe (some (assign (.Name y py) X.env)) (λ_ s'=>SP X pins D .next s') acc C) B hc fm hg ht (he λ_=>ER σ) I2 T Bm f2 q ?_ ?_
 ·intro D' C s' H' J' fC ⟨m,hm⟩ qn;obtain⟨f0,f1,_,f3,f4,f5⟩:=fC;show wpAny _ X.A (assign (.Name y py) X.env (.ref D')) _ _ _;refine wpAny_assign_Name (oR J' hN Wm hy (v:= .ref D') rfl (λRf J'' ⟨a,sb,ha⟩=>?_) hf)
  have hCa:C≠a:=by
   rcases ha with z|z
   ·rw[z];exact f1
   ·exact λw'=>f4 _ _ z w'.symm
  refine⟨m,hm.sameBut sb hCa,λh' vt=>⟨_,H',?_,qn⟩⟩;exact J''.turned (t':=Rf.toks) (λb o hb e=>(vt.2 b hb).trans e) f0 f1 f3 f4 f5
 ·intro D' C s' H' e Ce dx T' J' fC hm z1 z2 z3 z4 z5 z6;exact BN L J' fC hm z1 z2 z3 z4 z5 z6
end
end L2
namespace L2
open PySem PySem.Spec PyProof.Rows
section
variable {X:Cx}{e o:Expr}{es:List Expr}{t:TA}{ta:TE}{x m:Str}{ps:3e8}{sp:Sp}{f C:3e5}{fd:FuncData}{k n:Nat}{p apos pos:Pos}
def fz(c:Cal X.prog X.w X.K X.mg X.base k x ps sp f fd)(hr:cG n X.A)(ha:PA X (e::es) t)(hg:Gl X x:=by rfl)(hle:k≤n:=by first|decide|omega)(Fb:4e2:=by decide)(he:starEach (e::es) X.env=(false,eval e X.env)::starEach es X.env:=by rfl)(gX:4e4:=by rfl):
  PE X (.Call (.Name x p) (e::es) [] pos) (Pw sp [] E0 t):=Mv c.ok (hr.mono hle) hg c.g c.kp c.b .nil a8 ha Fb he gX
def pq{pl:Sem Bool}(c:Wk X.prog X.w X.K X.mg X.base k C m ps sp f fd)(hr:cG n X.A)(hc:uz X.K C)(ho:PE X o ta)(ha:PA X (e::es) t)(hle:k≤n:=by first|decide|omega)
  (eC:starEach (e::es) X.env=(false,eval e X.env)::starEach es X.env:=by rfl) (gX:4e4:=by rfl)
  (ht:eval (.Call (.Attribute o m apos) (e::es) [] pos) X.env=(do
   let ov←eval o X.env
   standAt apos.atName
   let (f,first)←holding [ov] (getMethod ov m pl)
   callWith pos f first (backTo pos (starEach (e::es) X.env)) (backToKw pos (keywordEach [] X.env))):=by rfl):
  PE X (.Call (.Attribute o m apos) (e::es) [] pos) (HD C m sp [] E0 ta t):=Mw ho hc c.m c.ok (hr.mono hle) c.b .nil a8 ha eC gX ht
end
end L2
namespace L2
open PySem
def WH{p:Nat→Prop}(a:p 0)(b:p 1)(j:Nat)(h:j≤1):p j:=by
 cases j with
 |zero=>exact a
 |succ j=>cases j with
  |zero=>exact b
  |succ j=>omega
def bn1(l:ps.length=1+ds.length)(h:∀s a,K.In s.heap→BindsTo s fd ⟨[a],[]⟩ (ps.zip ([a]++ds))):Binds K fd ps ds:=λs us hk hl=>ln1 (p:=λus=>BindsTo s fd ⟨us,[]⟩ (ps.zip (us++ds))) us (by rw[length_append] at hl;omega) λa=>h s a hk
def U8(l:ps.length=2+ds.length)(h:∀s a b,K.In s.heap→BindsTo s fd ⟨[a,b],[]⟩ (ps.zip ([a,b]++ds))):Binds K fd ps ds:=λs us hk hl=>ln2 (p:=λus=>BindsTo s fd ⟨us,[]⟩ (ps.zip (us++ds))) us (by rw[length_append] at hl;omega) λa b=>h s a b hk
def WI(l:ps.length=3+ds.length)(h:∀s a b c,K.In s.heap→BindsTo s fd ⟨[a,b,c],[]⟩ (ps.zip ([a,b,c]++ds))):Binds K fd ps ds:=λs us hk hl=>ln3 (p:=λus=>BindsTo s fd ⟨us,[]⟩ (ps.zip (us++ds))) us (by rw[length_append] at hl;omega) λa b c=>h s a b c hk
end L2
set_option maxHeartbeats 4000000
namespace K55
open PySem L2
def gMp{α:Type}{f:α→V}{o:Option α}(h:o.map f=some x):∃m,o=some m∧x=f m:=by
 cases o with
 |none=>cases h
 |some m=>exact⟨m,rfl,(Option.some.inj h).symm⟩
def bgL:(2000:Nat)≤sizeLine:=by decide
def top(i:Nat):Stmt:=PySem.Challenge.pw_balancehall_k55_whole_totals_stay.main.body.getD i (.Pass ⟨0,0,0,0⟩)
abbrev xB:Stmt:=top 16
abbrev xC:Stmt:=top 17
abbrev qI:Stmt:=top 18
abbrev iO:Stmt:=top 19
abbrev lE:Stmt:=top 21
abbrev ji:Stmt:=top 22
noncomputable abbrev jj:Stmt:=inClass (top 25) 0
abbrev xD:Stmt:=inClass (top 25) 1
abbrev qJ:Stmt:=inClass (top 25) 2
noncomputable abbrev fV:Stmt:=inClass (top 26) 0
abbrev lF:Stmt:=inClass (top 26) 1
abbrev jk:Stmt:=inClass (top 26) 2
noncomputable abbrev fW:Stmt:=inClass (top 27) 0
abbrev iP:Stmt:=inClass (top 27) 1
abbrev gN:Stmt:=inClass (top 27) 2
abbrev m6:Stmt:=top 34
abbrev gO:Stmt:=top 35
noncomputable abbrev fX:Stmt:=inClass (top 36) 0
abbrev m7:Stmt:=inClass (top 36) 1
abbrev m8:Stmt:=inClass (top 36) 2
noncomputable abbrev su:Stmt:=inClass (top 37) 0
abbrev zS:Stmt:=inClass (top 37) 1
abbrev zT:Stmt:=inClass (top 37) 2
abbrev kF:Stmt:=inClass (top 37) 3
abbrev m9:Stmt:=inClass (top 37) 4
abbrev nh:Stmt:=inClass (top 37) 5
abbrev ik:Stmt:=inClass (top 37) 6
abbrev lG:Stmt:=inClass (top 37) 7
abbrev pw:Stmt:=inClass (top 37) 8
abbrev jJ:Stmt:=inClass (top 37) 9
abbrev sv:Stmt:=inClass (top 37) 10
abbrev ni:Stmt:=inClass (top 37) 11
abbrev kG:Stmt:=inClass (top 37) 12
abbrev kH:Stmt:=inClass (top 37) 13
abbrev lH:Stmt:=top 38
abbrev nj:Stmt:=top 47
abbrev gP:Stmt:=top 48
abbrev iQ:Stmt:=top 49
noncomputable abbrev xE:Stmt:=inClass (top 50) 0
abbrev xF:Stmt:=inClass (top 50) 2
abbrev vE:Stmt:=inClass (top 50) 4
noncomputable abbrev xG:Stmt:=inClass (top 51) 0
abbrev qK:Stmt:=inClass (top 51) 1
abbrev nq:Stmt:=inClass (top 51) 2
abbrev qL:Stmt:=inClass (top 51) 3
abbrev nu:Stmt:=top 52
abbrev sy:Stmt:=top 54
abbrev jl:Stmt:=top 56
abbrev nv:Stmt:=top 57
abbrev fY:Stmt:=top 58
abbrev qM:Stmt:=top 59
abbrev gQ:Stmt:=top 60
noncomputable abbrev fZ:Stmt:=inClass (top 61) 0
abbrev Dt:Stmt:=inClass (top 61) 1
abbrev Nb:Stmt:=inClass (top 61) 2
abbrev FJ:Stmt:=inClass (top 61) 3
abbrev sA:Stmt:=inClass (top 61) 4
abbrev nz:Stmt:=inClass (top 61) 7
noncomputable abbrev xH:Stmt:=inClass (top 8) 0
abbrev qN:Stmt:=top 63
abbrev xI:Stmt:=top 64
abbrev xJ:Stmt:=top 65
abbrev Du:Stmt:=top 66
abbrev nB:Stmt:=top 68
abbrev nC:Stmt:=top 69
abbrev px:Stmt:=top 70
abbrev kI:Stmt:=top 71
abbrev Dv:Stmt:=top 72
abbrev xK:Stmt:=top 74
abbrev Dw:Stmt:=top 80
abbrev xM:Stmt:=top 81
noncomputable abbrev xN:Stmt:=inClass (top 7) 0
abbrev sCW:Stmt:=top 23
abbrev nE:Stmt:=inClass (top 36) 3
abbrev sC:Stmt:=inClass (top 61) 6
abbrev xO:Stmt:=inClass (top 61) 5
abbrev xP:Stmt:=top 76
abbrev qO:Stmt:=top 77
abbrev Dx:Stmt:=top 78
abbrev qP:Stmt:=top 79
def nkc:¬(("kind" :Str)="count"):=by decide+kernel
noncomputable def xQ(k:Str)(n:Int):List (Str×V):=cx "count" (.int n) (cx "kind" (.str k) [])
def vF(k:Str)(n:Int):(xQ k n).lookup ("kind" :Str)=some (.str k):=by
 unfold xQ;rw[aF,if_neg nkc,aF,if_pos rfl]
def sF(k:Str)(n:Int):(xQ k n).lookup ("count" :Str)=some (.int n):=by
 unfold xQ;rw[aF,if_pos rfl]
def Dy(k:Str)(n:Int){m:Str}(h1:¬m="count")(h2:¬m="kind"):(xQ k n).lookup m=none:=by
 unfold xQ;rw[aF,if_neg h1,aF,if_neg h2]
 all_goals rfl
def gC(C:3e5)(H:Hp)(p:3e5)(k:Str)(n:Int):Prop:=∃dx,H p=some (.ins C dx (xQ k n))
def gC.same{n:Int}(a:gC C H p k n)(e:au H H'):gC C H' p k n:=let ⟨dx,h⟩:=a;⟨dx,e _ _ h⟩
def aU(kvs:0e2):Prop:=∀p∈kvs,∃i,p.2=V.int i
noncomputable def aE(kvs:0e2)(k:Key):Int:=match bK kvs k with
 |some (.int i)=>i
 |_=>0
def dv(h:bK kvs k=none):aE kvs k=0:=by unfold aE;rw[h]
def dw{i:Int}(h:bK kvs k=some (.int i)):aE kvs k=i:=by unfold aE;rw[h]
noncomputable def bN(kvs:0e2)(k:Key)(n:Int):List (Key×V):=putK kvs k (.int (aE kvs k+n))
def aW(t:Int)(acc:0e2)(as:List (Str×Int)):List (Key×V):=as.foldl (λacc p=>bN acc (Sum.inr p.1) (p.2*t)) acc
def i5(c:Int)(acc:0e2)(l:0e2)(all:0e2):List (Key×V):=l.foldl (λacc p=>bN acc p.1 (aE all p.1*c)) acc
noncomputable def FK(c:Int):V→V
 | .int i=> .int (i*c)
 |v=>v
def scale(c:Int)(kvs:0e2):List (Key×V):=kvs.map λp=>(p.1,FK c p.2)
def FL(B:Int)(kvs:0e2):Prop:=∀p∈kvs,∃i,p.2=V.int i∧0≤i∧i≤B
def fg{kvs:0e2}{k:Key}{v:V}(e:bK kvs k=some v):(k,v)∈kvs:=by
 unfold bK at e
 cases f:kvs.find? λkv=>decide (kv.1=k) with
 |none=>rw[f] at e;cases e
 |some p=>
  rw[f] at e;cases e;have h1:=List.mem_of_find?_eq_some f;have h2:p.1=k:=by simpa using List.find?_some f
  rw[←h2];exact h1
def aU.look{kvs:0e2}(h:aU kvs){k:Key}{v:V}(e:bK kvs k=some v):v= .int (aE kvs k):=by
 obtain⟨i,hi⟩:=h _ (fg e);have hi:v= .int i:=hi;subst hi;rw[dw e]
def aU.at(h:aU kvs)(k:Key):(bK kvs k).getD (.int 0)= .int (aE kvs k):=by
 cases e:bK kvs k with
 |none=>rw[dv e];rfl
 |some v=>rw[h.look e];rfl
def FL.Nc{B:Int}{kvs:0e2}(h:FL B kvs)(hB:0≤B)(k:Key):0≤aE kvs k∧aE kvs k≤B:=by
 cases e:bK kvs k with
 |none=>rw[dv e];exact⟨Int.le_refl _,hB⟩
 |some v=>
  obtain⟨i,hi,h0,h1⟩:=h _ (fg e);have hi:v= .int i:=hi;subst hi;rw[dw e];exact⟨h0,h1⟩
def FL.put{B B':Int}(h:FL B kvs)(hBB:B≤B')(k:Key){i:Int}(h0:0≤i)(h1:i≤B'):FL B' (putK kvs k (.int i)):=by
 intro p hp;unfold putK at hp;split at hp
 ·obtain⟨q,hq,e⟩:=mem_map.mp hp;subst e;split
  ·exact⟨i,rfl,h0,h1⟩
  ·obtain⟨j,e,h2,h3⟩:=h q hq;exact⟨j,e,h2,Int.le_trans h3 hBB⟩
 ·rcases mem_append.mp hp with hq|hq
  ·obtain⟨j,e,h2,h3⟩:=h p hq;exact⟨j,e,h2,Int.le_trans h3 hBB⟩
  ·have e:p=(k,V.int i):=by simpa using hq
   exact⟨i,by rw[e],h0,h1⟩
def FL.add{B b:Int}(h:FL B kvs)(hB:0≤B)(k:Key){n:Int}(h0:0≤n)(h1:n≤b):FL (B+b) (bN kvs k n):=by
 obtain⟨z0,z1⟩:=h.Nc hB k;exact h.put 0e5 k 0e5 0e5
def kJ{kvs:0e2}{k:Key}{v:V}(h:(kvs.map 1e8).Nodup):((putK kvs k v).map 1e8).Nodup:=by
 cases e:bK kvs k with
 |none=>exact MK v h e
 |some x=>
  have ha:(kvs.any λkv=>decide (kv.1=k))=true:=by rw[fE,e];rfl
  unfold putK;rw[if_pos ha,map_map]
  have:((λ(x:Key×V)=>x.1)∘λkv=>if kv.1=k then (kv.1,v) else kv)=λ(x:Key×V)=>x.1:=by
   funext y;simp only [Function.comp];split<;>rfl
  rw[this];exact h
theorem pz(c:Int)(k:Key):∀kvs:List (Key×V),bK (scale c kvs) k=(bK kvs k).map (FK c)
 | []=>rfl
 |p::r=>by
  have ih:=pz c k r;show bK ((p.1,FK c p.2)::scale c r) k=_;by_cases e:p.1=k
  ·refine(cz (p:=(p.1,FK c p.2)) (r:=scale c r) e).trans ?_;rw[cz e];rfl
  ·refine(cA (p:=(p.1,FK c p.2)) (r:=scale c r) e).trans ?_;rw[cA e];exact ih
def FN(c:Int)(kvs:0e2)(k:Key)(i:Int):scale c (putK kvs k (.int i))=putK (scale c kvs) k (.int (i*c)):=by
 have ha:((scale c kvs).any λkv=>decide (kv.1=k))=kvs.any λkv=>decide (kv.1=k):=by
  unfold scale;rw[List.any_map];rfl
 unfold putK;rw[ha];split
 ·unfold scale;rw[map_map,map_map];apply map_congr_left;intro p _;simp only [Function.comp];split<;>rfl
 ·unfold scale;rw[map_append];rfl
def FO(h:aU kvs)(c:Int)(k:Key):aE (scale c kvs) k=aE kvs k*c:=by
 cases e:bK kvs k with
 |none=>rw[dv e,dv (by rw[pz,e];rfl),zero_mul]
 |some v=>
  have:=h.look e;subst this;exact dw (by rw[pz,e];rfl)
def aU.put(h:aU kvs)(k:Key)(i:Int):aU (putK kvs k (.int i)):=by
 intro p hp;unfold putK at hp;split at hp
 ·obtain⟨q,hq,e⟩:=mem_map.mp hp;subst e;split
  ·exact⟨i,rfl⟩
  ·exact h q hq
 ·rcases mem_append.mp hp with hq|hq
  ·exact h p hq
  ·have e:p=(k,V.int i):=by simpa using hq
   exact⟨i,by rw[e]⟩
def FP(h:aU kvs)(c:Int)(k:Key)(n:Int):scale c (bN kvs k n)=bN (scale c kvs) k (n*c):=by
 unfold bN;rw[FN,FO h,add_mul]
def aU.add(h:aU kvs)(k:Key)(n:Int):aU (bN kvs k n):=h.put k _
theorem vG(t c:Int):∀(as:List (Str×Int)) (acc:0e2),aU acc→scale c (aW t acc as)=aW (t*c) (scale c acc) as
 | [],_,_=>rfl
 |p::r,acc,h=>by
  show scale c (aW t (bN acc (Sum.inr p.1) (p.2*t)) r)=aW (t*c) (bN (scale c acc) (Sum.inr p.1) (p.2*(t*c))) r;rw[vG t c r _ (h.add _ _),FP h,mul_assoc]
theorem jK(t:Int):∀(as:List (Str×Int)) (acc:0e2),aU acc→aU (aW t acc as)
 | [],_,h=>h
 |_::r,_,h=>jK t r _ (h.add _ _)
theorem xR(t:Int):∀(as:List (Str×Int)) (acc:0e2),(acc.map 1e8).Nodup→((aW t acc as).map 1e8).Nodup
 | [],_,h=>h
 |_::r,_,h=>xR t r _ (kJ h)
theorem jL(t:Int):∀(as:List (Str×Int)) (acc:0e2),(aW t acc as).length≤acc.length+as.length
 | [],_=>le_refl _
 |p::r,acc=>by
  have:=jL t r (bN acc (Sum.inr p.1) (p.2*t));have h2:=bE acc (Sum.inr p.1 :Key) (.int (aE acc (Sum.inr p.1)+p.2*t));have e:(bN acc (Sum.inr p.1) (p.2*t)).length≤acc.length+1:=h2;show (aW t (bN acc (Sum.inr p.1) (p.2*t)) r).length≤_;rw[length_cons];omega
theorem qQ{t b:Int}(hb:0≤b):∀(as:List (Str×Int)) (acc:0e2) (B:Int),0≤B→FL B acc→(∀p∈as,0≤p.2*t∧p.2*t≤b)→FL (B+as.length*b) (aW t acc as)
 | [],acc,B,_,h,_=>by
   have e:B+(([]:List (Str×Int)).length:Int)*b=B:=by simp
   rw[e];exact h
 |p::r,acc,B,hB,h,hp=>by
  obtain⟨p0,p1⟩:=hp p 1e6;have:=qQ hb r _ (B+b) 0e5 (h.add hB (Sum.inr p.1) p0 p1) λq hq=>hp q (mem_cons_of_mem _ hq)
  have e:B+b+(r.length:Int)*b=B+((p::r).length:Int)*b:=by
   rw[length_cons];push_cast;rw[add_mul,one_mul];omega
  rw[←e];exact this
noncomputable def dM(n:Int):Str:=if n=1 then "" else (toString n:Str)
def BO:∀n:Nat,n<1000→(dM (n:Int)).length≤3:=by decide+kernel
def il{n:Int}(h:1≤n)(h':n≤999):(dM n).length≤3:=by
 have:=BO n.toNat 0e5
 rwa [Int.toNat_of_nonneg 0e5] at this
def jn(ys:3e8):Str:=Str.join ⟨#[]⟩ ys
def join_eq(ys:3e8):Txt.join "" ys=jn ys:=by
 have h:=PyProof.Rows.join_closes (sep:="") (sep':=⟨#[]⟩) (ys:=ys) 0e0;unfold jn;simpa using h
def Nd(x:Str)(r:3e8):jn (x::r)=x++jn r:=PyProof.Rows.join_nil_cons x r
theorem Dz:∀{ys:3e8} {b:Nat},(∀y∈ys,y.length≤b)→(ys.map (·.length)).sum≤ys.length*b
 | [],_,_=>zero_le _
 |y::r,b,h=>by
  rw[map_cons,sum_cons,length_cons,Nat.succ_mul];have h1:=h y 1e6;have h2:=Dz (ys:=r) (b:=b) λz hz=>h z (mem_cons_of_mem _ hz);omega
def vH(x y z:Str):x++y++z=x++(y++z):=by
 show (⟨(x.cps++y.cps)++z.cps⟩:Str)=⟨x.cps++(y.cps++z.cps)⟩;rw[Array.append_assoc]
def npc:¬(("parts" :Str)="count"):=by decide+kernel
noncomputable def nF(l:3e5)(n:Int):List (Str×V):=cx "count" (.int n) (cx "parts" (.ref l) [])
def iR(l:3e5)(n:Int):(nF l n).lookup ("parts" :Str)=some (.ref l):=by
 unfold nF;rw[aF,if_neg npc,aF,if_pos rfl]
def iT(l:3e5)(n:Int):(nF l n).lookup ("count" :Str)=some (.int n):=by
 unfold nF;rw[aF,if_pos rfl]
def nG(l:3e5)(n:Int){m:Str}(h1:¬m="count")(h2:¬m="parts"):(nF l n).lookup m=none:=by
 unfold nF;rw[aF,if_neg h1,aF,if_neg h2]
 all_goals rfl
inductive FQ(K:0e9)(vs:4e5)(H:Hp)(Q:VK)(E:XK):Prop
 |mk (a:3e5) (ns:List Int) (k:Nat) (dH:vs=[.ref a, .int k]) (dI:bM K H a (ns.map V.int)) (dN:ns.length≤63) (eK:∀n,Q (.int n) H)
def sG(K:0e9):Sp:=FQ K
inductive IK(vs:4e5)(H:Hp)(Q:VK)(E:XK):Prop
 |mk (i:Int) (dH:vs=[.int i]) (dI:Q (.bl true) H)
def DA:Sp:=IK
inductive Nf(vs:4e5)(H:Hp)(Q:VK)(E:XK):Prop
 |mk (n:Int) (dH:vs=[.int n]) (dI:1≤n) (dN:n≤999) (eK:Q (.str (dM n)) H)
def kK:Sp:=Nf
inductive Ng(C:3e5)(vs:4e5)(H:Hp)(Q:VK)(E:XK):Prop
 |mk (p dx:3e5) (k:Str) (n:Int) (dH:vs=[.ref p, .str k, .int n]) (dI:H p=some (.ins C dx [])) (dN:∀H',H' p=some (.ins C dx (xQ k n))→(∀b o,H b=some o→b≠p→H' b=some o)→Q .cw H')
def IL(C:3e5):Sp:=Ng C
inductive IM(C:3e5)(vs:4e5)(H:Hp)(Q:VK)(E:XK):Prop
 |mk (p:3e5) (k:Str) (n:Int) (dH:vs=[.ref p]) (dI:gC C H p k n) (dN:k.length≤3) (eK:1≤n) (gj:n≤999) (i6:Q (.str (k++dM n)) H)
def xS(C:3e5):Sp:=IM C
inductive FR(C:3e5)(vs:4e5)(H:Hp)(Q:VK)(E:XK):Prop
 |mk (p:3e5) (k:Str) (n:Int) (dH:vs=[.ref p]) (dI:gC C H p k n) (dN:∀d,H d=none→Q (.ref d) (upd H d (.dK [(Sum.inr k, .int n)])))
def sH(C:3e5):Sp:=FR C
structure qm(K:0e9)(mg:1e3)(C:3e5):Prop where
 gD:uz K C
 xT:cy K C "kind"
 sI:cy K C "count"
 R5:mg "Atom" =some (.ref C)
 nH:mg "len" =none
 IP:mg "str" =none
 zU:mg "int" =none
 R6:mg "bool" =none
 qR:mg "range" =none
 fJ:mg "isinstance" =none
 k1:kitOne K (.type "int") (.type "int")=some true
 k2:kitOne K (.type "int") (.type "bool")=some false
 k3:kitOne K (.type "dict") (.type "dict")=some true
 k4:kitOne K (.type "str") (.type "str")=some true
 k6:kitOne K (.type "list") (.type "list")=some true
def nI{x y:Str}(h:x.cps.toList=y.cps.toList):x=y:=by
 cases x;cases y;congr 1;exact Array.toList_inj.mp h
def Nh(a b n:Nat):Builtin.Str.strSliceIndices (some (a:Int)) (some (b:Int)) 1 n=Builtin.Str.strSliceIndices (some (a:Int)) (some ((min b n:Nat):Int)) 1 n:=by
 have h2:¬((b:Int) <0):=by omega
 have h3:¬(((min b n:Nat):Int) <0):=by omega
 have e2:max (0 :Int) (min (b:Int) (n:Int))=max (0 :Int) (min ((min b n:Nat):Int) (n:Int)):=by omega
 simp only [Builtin.Str.strSliceIndices,h2,h3,if_false,e2,show ((1 :Int) >0)=True from by simp,if_true]
def vI(x:Str){a b:Nat}(RE:a≤b)(ha:a≤x.length):(Txt.slice x (some (a:Int)) (some (b:Int))).cps.toList=(x.cps.toList.drop a).take (b - a):=by
 have hm:a≤min b x.length:=by omega
 have hb:min b x.length≤x.length:=by omega
 have h1:=StrLaws.sliced_plain x hm hb;have h2:=StrLaws.strSliceIndices_plain hm hb;have hl:x.cps.toList.length=x.length:=by simp [Str.length]
 unfold Txt.slice;rw[Nh];split
 ·rename_i h
  have h:(Builtin.Str.strSliceIndices (some (a:Int)) (some ((min b x.length:Nat):Int)) 1 x.length).length=x.length:=by simpa using h
  rw[h2,length_map,List.length_range] at h;by_cases hz:x.length=0
  ·have:x.cps.toList=[]:=List.length_eq_zero_iff.mp 0e5;rw[this];simp
  ·have e:a=0:=by omega
   subst e;rw[drop_zero,List.take_of_length_le 0e5]
 ·show (List.filterMap _ _).toArray.toList=_;rw[h1,List.take_eq_take_iff,length_drop,hl];omega
noncomputable def eU(x:Str)(p:Nat):Str:=⟨((x.cps.toList.drop p).take 1).toArray⟩
def vJ(x:Str){p:Nat}(hp:p≤x.length):Txt.slice x (some (p:Int)) (some ((p:Int)+1))=eU x p:=by
 apply nI;have:=vI x (a:=p) (b:=p+1) 0e5 hp;rw[Nat.add_sub_cancel_left] at this;exact this
def Here(x:Str)(p:Nat)(t post:List Nat):Prop:=p≤x.length∧x.cps.toList.drop p=t++post
def Here.on{p:Nat}(h:Here x p (t++u) post):Here x (p+t.length) u post:=by
 obtain⟨h1,h2⟩:=h;have hl:x.cps.toList.length=x.length:=by simp [Str.length]
 have e:=congrArg List.length h2;rw[length_drop,length_append,length_append,hl] at e;refine⟨by omega,?_⟩;rw[←List.drop_drop,h2,append_assoc,List.drop_left]
def Here.sg{p:Nat}{c:Nat}(h:Here x p (c::t) post):eU x p=⟨#[c]⟩:=by
 unfold eU;rw[h.2];rfl
def Here.R7{p:Nat}(h:Here x p [] post):eU x p=⟨(post.take 1).toArray⟩:=by
 unfold eU;rw[h.2];rfl
def Here.cut{x:Str}{p:Nat}{t post:List Nat}(h:Here x p t post):Txt.slice x (some (p:Int)) (some ((p+t.length:Nat):Int))=⟨t.toArray⟩:=by
 apply nI;rw[vI x 0e5 h.1,h.2,Nat.add_sub_cancel_left,List.take_left]
def Here.le{p:Nat}(h:Here x p t post):p+t.length≤x.length:=by
 have hl:x.cps.toList.length=x.length:=by simp [Str.length]
 have e:=congrArg List.length h.2;rw[length_drop,length_append,hl] at e;have:=h.1;omega
noncomputable def inR(lo hi:Nat)(s:Str):Bool:=match s.cps.toList with
 | [c]=>decide (lo≤c)&&decide (c≤hi)
 |_=>false
def R8(lo:Nat)(s:Str)(h:s.cps.toList.length≤1):(!decide (s.cps.toList< [lo]))=(match s.cps.toList with| [c]=>decide (lo≤c) |_=>false):=by
 match hh:s.cps.toList,h with
 | [],_=>simp
 | [c],_=>
   have:([c] < [lo])↔c<lo:=by simp [cons_lt_cons_iff]
   by_cases hc:c<lo
   ·rw[decide_eq_true (this.mpr hc)];simp;omega
   ·rw[decide_eq_false (λz=>hc (this.mp z))];simp;omega
 |_::_::_,h=>simp at h
def R9(hi:Nat)(s:Str)(h:s.cps.toList.length≤1):(!decide ([hi] <s.cps.toList))=(match s.cps.toList with| [c]=>decide (c≤hi) |_=>true):=by
 match hh:s.cps.toList,h with
 | [],_=>simp
 | [c],_=>
   have:([hi] < [c])↔hi<c:=by simp [cons_lt_cons_iff]
   by_cases hc:hi<c
   ·rw[decide_eq_true (this.mpr hc)];simp;omega
   ·rw[decide_eq_false (λz=>hc (this.mp z))];simp;omega
 |_::_::_,h=>simp at h
def nJ(x:Str)(p:Nat):(eU x p).cps.toList.length≤1:=by
 unfold eU;simp;omega
def Not(f:Nat→Bool)(l:List Nat):Prop:=∀c,l.head? =some c→f c=false
noncomputable def kL(c:Nat):Bool:=decide (48≤c)&&decide (c≤57)
noncomputable def oJ(c:Nat):Bool:=decide (97≤c)&&decide (c≤122)
noncomputable def DB(c:Nat):Bool:=decide (65≤c)&&decide (c≤90)
def aK(n:Int):List Nat:=(dM n).cps.toList
def pA:aK 1=[]:=by decide+kernel
def kM{n:Nat}(h:n≠1):aK (n:Int)=(Nat.toDigits 10 n).map Char.toNat:=by
 unfold aK dM;rw[if_neg 0e5];exact PySem.W.KIN.signs_num n
def qT(n:Nat):(aK (n:Int)).all kL=true:=by
 by_cases h:n=1
 ·subst h;rw[show ((1 :Nat):Int)=1 from rfl,pA];rfl
 ·rw[kM h,all_eq_true];intro c hc;obtain⟨ch,Hc,e⟩:=mem_map.mp hc;have r:=PyProof.Rows.digit_range (Nat.isDigit_of_mem_toDigits 0e4 0e4 Hc);rw[←e];simp only [kL,and_eq_true,decide_eq_true_eq];exact r
def IQ(n:Nat):Nat.toDigits 10 n≠[]:=by
 intro e;have h:=PySem.toDigits_len_ge 10 n;rw[e] at h;exact absurd h 0e4
def IS:∀n:Nat,n≠0→(Nat.toDigits 10 n).head? ≠some '0' :=by
 intro n
 induction n using Nat.strongRecOn with
 |_ m ih=>
  intro h0;by_cases h:m<10
  ·rw[Nat.toDigits_of_lt_base h];have:∀m:Nat,m<10→m≠0→[Nat.digitChar m].head? ≠some '0' :=by decide
   exact this m h h0
  ·have hm:m%10<10:=Nat.mod_lt m 0e4;have t:Nat.toDigits 10 (m/10)++Nat.toDigits 10 (m%10)=Nat.toDigits 10 (10*(m/10)+m%10):=Nat.toDigits_append_toDigits 0e4 0e5 hm;rw[Nat.div_add_mod] at t;have:=ih (m/10) 0e5 0e5;rw[←t]
   cases hh:Nat.toDigits 10 (m/10) with
   |nil=>exact absurd hh (IQ _)
   |cons c r=>
    rw[hh] at this;exact this
def IT(n:Nat)(h0:n≠0):(aK (n:Int)).head? ≠some 48:=by
 by_cases h:n=1
 ·subst h;rw[show ((1 :Nat):Int)=1 from rfl,pA];simp
 ·rw[kM h,List.head?_map];intro z
  cases e:(Nat.toDigits 10 n).head? with
  |none=>rw[e] at z;cases z
  |some c=>
   rw[e] at z;have z:c.toNat=48:=by simpa using z
   have:c='0' :=by
    apply Char.ext;apply UInt32.toNat_inj.mp;exact z
   exact IS n h0 (by rw[e,this])
def Ni(n:Nat):aK (n:Int)≠[49]:=by
 by_cases h:n=1
 ·subst h;rw[show ((1 :Nat):Int)=1 from rfl,pA];simp
 ·rw[kM h];intro z;have:=PySem.W.KIN.val_back n;rw[z] at this;exact h this.symm
def qV(n:Nat)(h:aK (n:Int)=[]):n=1:=by
 by_cases e:n=1
 ·exact e
 ·rw[kM e] at h;exact absurd (List.map_eq_nil_iff.mp h) (IQ n)
def lI{n:Nat}{k:Nat}(hk:0<k)(h:n<10^k):(dM (n:Int)).length≤k:=by
 unfold dM;split
 ·exact zero_le _
 ·rw[PySem.ofString_length];show (Nat.repr n).length≤k;rw[Nat.length_repr_le_iff hk];exact h
def xU(n:Nat)(h:n<10^12)(h1:n≠1):PySem.intText? (dM (n:Int))=some (n:Int):=by
 have hd:PySem.NumText.AllDigits (dM (n:Int)).cps.toList:=by
  intro c hc;have:=all_eq_true.mp (qT n) c hc;simpa only [kL,and_eq_true,decide_eq_true_eq] using this
 have kq:(dM (n:Int)).cps.toList≠[]:=λz=>h1 (qV n z);have e:=PySem.intText_digits hd kq (le_trans (lI 0e4 h) 0e4);rw[show (dM (n:Int)).cps.toList=_ from kM h1,PySem.W.KIN.val_back] at e;exact e
def nK(lo hi c:Nat):inR lo hi ⟨#[c]⟩=(decide (lo≤c)&&decide (c≤hi)):=rfl
def xV{lo hi:Nat}(h:Not (λc=>decide (lo≤c)&&decide (c≤hi)) post):inR lo hi ⟨(post.take 1).toArray⟩=false:=by
 cases post with
 |nil=>rfl
 |cons c r=>exact h c rfl
instance memKey (k:Key) (K:List Key):Decidable (k∈K):=decidable_of_iff ((K.any λx=>decide (x=k))=true) 2e9
def cH(acc:0e2)(l:List (Key×Int)):List (Key×V):=l.foldl (λacc p=>bN acc p.1 p.2) acc
noncomputable def jM(K:List Key)(k:Key):List Key:=if k∈K then K else K++[k]
def eV(K L:List Key):List Key:=L.foldl jM K
def sumK(l:List (Key×Int))(j:Key):Int:=(l.map λp=>if p.1=j then p.2 else 0).sum
def dZ(D:0e2)(k j:Key)(n:Int):aE (putK D k (.int n)) j=if j=k then n else aE D j:=by
 unfold aE;rw[zp];by_cases h:j=k
 ·rw[if_pos h,if_pos h]
 ·rw[if_neg h,if_neg h]
def xW(D:0e2)(k j:Key)(n:Int):aE (bN D k n) j=aE D j+if k=j then n else 0:=by
 unfold bN;rw[dZ];by_cases h:j=k
 ·rw[if_pos h,if_pos h.symm,h]
 ·rw[if_neg h,if_neg (Ne.symm h),add_zero]
def nM(D:0e2)(k:Key)(v:V):(putK D k v).map 1e8=jM (D.map 1e8) k:=by
 unfold jM
 cases e:bK D k with
 |none=>rw[if_neg (kz e),mT v e,map_append];rfl
 |some x=>
  rw[if_pos (qA e)];have ha:(D.any λkv=>decide (kv.1=k))=true:=by rw[fE,e];rfl
  unfold putK;rw[if_pos ha,map_map];apply map_congr_left;intro p _;simp only [Function.comp];split<;>rfl
theorem kN:∀(l:List (Key×Int)) (acc:0e2),(cH acc l).map 1e8=eV (acc.map 1e8) (l.map 1e8)
 | [],_=>rfl
 |p::r,acc=>by
  show (cH (bN acc p.1 p.2) r).map 1e8=eV (jM (acc.map 1e8) p.1) (r.map 1e8);rw[kN r];unfold bN;rw[nM]
theorem nN:∀(l:List (Key×Int)) (acc:0e2) (j:Key),aE (cH acc l) j=aE acc j+sumK l j
 | [],acc,j=>by show aE acc j=aE acc j+0;rw[add_zero]
 |p::r,acc,j=>by
  show aE (cH (bN acc p.1 p.2) r) j=aE acc j+((if p.1=j then p.2 else 0)+sumK r j);rw[nN r,xW,Int.add_assoc]
theorem qW:∀(l:List (Key×Int)) (acc:0e2),aU acc→aU (cH acc l)
 | [],_,h=>h
 |_::r,_,h=>qW r _ (h.add _ _)
theorem BP:∀(l:List (Key×Int)) (acc:0e2),(acc.map 1e8).Nodup→((cH acc l).map 1e8).Nodup
 | [],_,h=>h
 |_::r,_,h=>BP r _ (kJ h)
def DC(hI:aU D)(hn:(D.map 1e8).Nodup):D=(D.map 1e8).map λk=>(k,V.int (aE D k)):=by
 rw[map_map];refine(List.map_id D).symm.trans ?_;apply map_congr_left;intro p hp;have e:=fH hn hp;have:=hI.look e;show p=(p.1,V.int (aE D p.1));rw[←this]
def zV(hA:aU A)(hB:aU B)(nA:(A.map 1e8).Nodup)(hk:A.map 1e8=B.map 1e8)(hz:∀k,aE A k=aE B k):A=B:=by
 rw[DC hA nA,DC hB (hk▸nA),←hk];apply map_congr_left;intro k _;rw[hz k]
def IU{K:List Key}:j∈jM K k↔j∈K∨j=k:=by
 unfold jM;split
 ·rename_i h
  exact⟨.inl,λz=>z.elim id λe=>e▸h⟩
 ·simp
theorem nO:∀{L K:List Key} {j:Key},j∈eV K L↔j∈K∨j∈L
 | [],K,j=>by show j∈K↔_;simp
 |x::L,K,j=>by
  show j∈eV (jM K x) L↔_;rw[nO,IU,mem_cons,or_assoc]
def FT(K M:List Key)(x:Key):eV K (jM M x)=jM (eV K M) x:=by
 unfold jM;by_cases h:x∈M
 ·rw[if_pos h,if_pos (nO.mpr (.inr h))]
 ·rw[if_neg h];unfold eV;rw[foldl_append];rfl
theorem vK(K:List Key):∀(L M:List Key),eV K (eV M L)=eV (eV K M) L
 | [],M=>rfl
 |x::L,M=>by
  show eV K (eV (jM M x) L)=eV (jM (eV K M) x) L;rw[vK K L,FT]
theorem xX(f:Key→Int)(j:Key):∀{Ks:List Key},Ks.Nodup→(Ks.map λk=>if k=j then f k else 0).sum=if j∈Ks then f j else 0
 | [],_=>by simp
 |k::Ks,h=>by
  rw[nodup_cons] at h;rw[map_cons,sum_cons,xX f j h.2];by_cases e:k=j
  ·subst e;rw[if_pos rfl,if_neg h.1,if_pos 1e6,add_zero]
  ·rw[if_neg e,zero_add];have:(j∈k::Ks)↔j∈Ks:=by rw[mem_cons];exact⟨λz=>z.elim (λw=>absurd w.symm e) id, .inr⟩
   by_cases hj:j∈Ks
   ·rw[if_pos hj,if_pos (this.mpr hj)]
   ·rw[if_neg hj,if_neg (λz=>hj (this.mp z))]
def lJ(h:¬j∈D.map 1e8):aE D j=0:=by
 cases e:bK D j with
 |none=>exact dv e
 |some x=>exact absurd (qA e) h
theorem zW(c:Int)(j:Key):∀l:List (Key×Int),sumK (l.map λp=>(p.1,p.2*c)) j=sumK l j*c
 | []=>by show (0 :Int)=0*c;rw[zero_mul]
 |p::r=>by
  show (if p.1=j then p.2*c else 0)+sumK (r.map λp=>(p.1,p.2*c)) j=((if p.1=j then p.2 else 0)+sumK r j)*c;rw[zW c j r,add_mul];split
  ·rfl
  ·rw[zero_mul]
def add_dict(c:Int)(hI:aU acc)(hn:(acc.map 1e8).Nodup)(l:List (Key×Int)):
  cH acc ((cH [] l).map λp=>(p.1,aE (cH [] l) p.1*c))=cH acc (l.map λp=>(p.1,p.2*c)):=by
 have hD:aU (cH [] l):=qW l [] λp hp=>by cases hp
 have nD:((cH [] l).map 1e8).Nodup:=BP l [] nodup_nil;refine zV (qW _ _ hI) (qW _ _ hI) (BP _ _ hn) ?_ λj=>?_
 ·rw[kN,kN,map_map,map_map];show eV (acc.map 1e8) ((cH [] l).map 1e8)=eV (acc.map 1e8) (l.map 1e8);rw[kN,vK];rfl
 ·rw[nN,nN,zW];congr 1;have e:=xX (λk=>aE (cH [] l) k*c) j nD;rw[map_map] at e
  have e2:sumK ((cH [] l).map λp=>(p.1,aE (cH [] l) p.1*c)) j=if j∈(cH [] l).map 1e8 then aE (cH [] l) j*c else 0:=by
   rw[←e];unfold sumK;rw[map_map];rfl
  have e3:aE (cH [] l) j=sumK l j:=by
   rw[nN];show (0 :Int)+_=_;rw[zero_add]
  rw[e2];split
  ·rw[e3]
  ·rename_i h
   rw[←e3,lJ h,zero_mul]
theorem qX(t:Int):∀(as:List (Str×Int)) (acc:0e2),aW t acc as=cH acc (as.map λp=>((Sum.inr p.1 :Key),p.2*t))
 | [],_=>rfl
 |p::r,acc=>qX t r _
theorem DD(c:Int)(all:0e2):∀(l acc:0e2),i5 c acc l all=cH acc (l.map λp=>(p.1,aE all p.1*c))
 | [],_=>rfl
 |p::r,acc=>DD c all r _
def xY(c t:Int)(as:List (Str×Int))(hI:aU acc)(hn:(acc.map 1e8).Nodup):i5 c acc (aW t [] as) (aW t [] as)=aW (t*c) acc as:=by
 rw[DD,qX,qX,add_dict c hI hn,map_map];congr 1;apply map_congr_left;intro p _;show ((Sum.inr p.1 :Key),p.2*t*c)=(Sum.inr p.1,p.2*(t*c));rw[mul_assoc]
def ntp:¬(("text" :Str)="place"):=by decide+kernel
noncomputable def gv(x:Str)(p:Nat):List (Str×V):=cx "place" (.int p) (cx "text" (.str x) [])
def f6(x:Str)(p:Nat):(gv x p).lookup ("text" :Str)=some (.str x):=by
 unfold gv;rw[aF,if_neg ntp,aF,if_pos rfl]
def bu(x:Str)(p:Nat):(gv x p).lookup ("place" :Str)=some (.int p):=by
 unfold gv;rw[aF,if_pos rfl]
def aG(x:Str)(p:Nat){m:Str}(h1:¬m="place")(h2:¬m="text"):(gv x p).lookup m=none:=by
 unfold gv;rw[aF,if_neg h1,aF,if_neg h2]
 all_goals rfl
def lK(x:Str)(p q:Nat):cx "place" (.int q) (gv x p)=gv x q:=by
 unfold gv;simp only [cx,if_neg ntp,if_true]
def lL(x:Str)(p:Nat):(gv x p).length<1000:=by
 unfold gv;simp only [cx,if_neg ntp];show 2<1000;decide
def de(R:3e5)(H:Hp)(r:3e5)(x:Str)(p:Nat):Prop:=∃dx,H r=some (.ins R dx (gv x p))
def Kept(r:3e5)(H H':Hp):Prop:=∀b o,H b=some o→b≠r→H' b=some o
def Kept.refl(r:3e5)(H:Hp):Kept r H H:=λ_ _ h _=>h
def Kept.trans(h:Kept r H H')(h':Kept r H' b8):Kept r H b8:=λb o e n=>h' b o (h b o e n) n
def Kept.of(h:au H H'):Kept r H H':=λb o e _=>h b o e
inductive IspR(lo hi:Nat)(vs:4e5)(H:Hp)(Q:VK)(E:XK):Prop
 |mk (s:Str) (dH:vs=[.str s]) (dI:s.cps.toList.length≤1) (dN:Q (.bl (inR lo hi s)) H)
def PR(lo hi:Nat):Sp:=IspR lo hi
inductive IV(R:3e5)(vs:4e5)(H:Hp)(Q:VK)(E:XK):Prop
 |mk (r dx:3e5) (x:Str) (dH:vs=[.ref r, .str x]) (dI:H r=some (.ins R dx [])) (dN:∀H',de R H' r x 0→Kept r H H'→Q .cw H')
def xZ(R:3e5):Sp:=IV R
inductive Nj(R:3e5)(vs:4e5)(H:Hp)(Q:VK)(E:XK):Prop
 |mk (r:3e5) (x:Str) (p:Nat) (dH:vs=[.ref r]) (dI:de R H r x p) (dN:p≤x.length) (eK:x.length≤1000) (gj:Q (.str (eU x p)) H)
def jN(R:3e5):Sp:=Nj R
inductive Nk(R:3e5)(vs:4e5)(H:Hp)(Q:VK)(E:XK):Prop
 |mk (r:3e5) (x:Str) (p:Nat) (s:Str) (c:Nat) (t post:List Nat) (dH:vs=[.ref r, .str s]) (dI:s=⟨#[c]⟩) (dN:de R H r x p) (eK:Here x p (c::t) post) (gj:x.length≤1000) (i6:∀H',de R H' r x (p+1)→Kept r H H'→Q .cw H')
def mC(R:3e5):Sp:=Nk R
inductive BQ(R:3e5)(vs:4e5)(H:Hp)(Q:VK)(E:XK):Prop
 |mk (r:3e5) (x:Str) (p:Nat) (s:Str) (post:List Nat) (dH:vs=[.ref r, .str s]) (dI:s.cps.all (· <128)=true) (dN:de R H r x p) (eK:Here x p s.cps.toList post) (gj:x.length≤1000) (i6:∀H',de R H' r x (p+s.length)→Kept r H H'→Q .cw H')
def lM(R:3e5):Sp:=BQ R
inductive BR(R:3e5)(vs:4e5)(H:Hp)(Q:VK)(E:XK):Prop
 |mk (r:3e5) (x:Str) (dH:vs=[.ref r]) (dI:de R H r x x.length) (dN:x.length≤1000) (eK:Q .cw H)
def vL(R:3e5):Sp:=BR R
inductive FU(R:3e5)(vs:4e5)(H:Hp)(Q:VK)(E:XK):Prop
 |mk (r:3e5) (x:Str) (p:Nat) (n lg:Int) (post:List Nat) (dH:vs=[.ref r, .int lg]) (dI:de R H r x p) (dN:Here x p (aK n) post) (eK:1≤n) (gj:n<10^12) (i6:((aK n).length:Int)≤lg) (mD:Not kL post) (qY:x.length≤1000) (zX:∀H',de R H' r x (p+(aK n).length)→Kept r H H'→Q (.int n) H')
def sJ(R:3e5):Sp:=FU R
inductive FV(R:3e5)(vs:4e5)(H:Hp)(Q:VK)(E:XK):Prop
 |mk (r:3e5) (x:Str) (p:Nat) (n:Int) (post:List Nat) (dH:vs=[.ref r]) (dI:de R H r x p) (dN:Here x p (aK n) post) (eK:1≤n) (gj:n≤999) (i6:Not kL post) (mD:x.length≤1000) (qY:∀H',de R H' r x (p+(aK n).length)→Kept r H H'→Q (.int n) H')
def jm(R:3e5):Sp:=FV R
def ki(k:List Nat):Prop:=∃c r,k=c::r∧DB c=true∧r.all oJ=true∧r.length≤2
inductive IW(C R:3e5)(vs:4e5)(H:Hp)(Q:VK)(E:XK):Prop
 |mk (r:3e5) (x:Str) (p:Nat) (k:List Nat) (n:Int) (post:List Nat) (dH:vs=[.ref r]) (dI:de R H r x p) (dN:Here x p (k++aK n) post) (eK:ki k) (gj:1≤n) (i6:n≤999) (mD:Not kL post) (qY:Not oJ post) (zX:x.length≤1000) (IX:∀a H',H a=none→gC C H' a 3e7 n→de R H' r x (p+(k++aK n).length)→Kept r H H'→Q (.ref a) H')
def x3(C R:3e5):Sp:=IW C R
structure uQ(K:0e9)(mg:1e3)(C R:3e5)(uK uN:Tok):Prop extends qm K mg C where
 ax:uz K R
 jO:cy K R "text"
 cm:cy K R "place"
 sM:mg "LONGEST_KIND" =some (.int 3 uK)
 qo:mg "LONGEST_COUNT" =some (.int 3 uN)
section
seal mn PS PE PT PW PA PG UX PI PC L5
variable {P:Program}{w:World}{K:0e9}{mg:1e3}{base:Heap}{C R G Pc Fo:3e5}{uK uN uB uE uM:Tok}
def Nl:av ["sign"] ["sign"] (aj xB):=cX
def Nm:av ["sign"] ["sign"] (aj xC):=cX
def IY:av ["sign"] ["sign"] (aj qI):=cX
def BS(lo hi:Nat)(s:Str)(h:s.cps.toList.length≤1):(if (!decide (s.cps.toList< [lo]))=true then (!decide ([hi] <s.cps.toList)) else false)=inR lo hi s:=by
 rw[R8 lo s h,R9 hi s h];unfold inR
 match hh:s.cps.toList,h with
 | [],_=>rfl
 | [c],_=>
   show (if decide (lo≤c)=true then decide (c≤hi) else false)=(decide (lo≤c)&&decide (c≤hi));cases decide (lo≤c)<;>rfl
 |_::_::_,h=>simp at h
def IZ(D:Def K mg "is_great" "is_great" xB ["sign"]):a5 P w K mg base 1 "is_great" ["sign"] (PR 65 90):=by
 refine D.cN Nl 0e7 0e1
 ·obtain⟨n,rfl,_⟩:=h;rfl
 ·obtain⟨x,rfl,hl,q⟩:=h;refine⟨_,(ao (aA (rF gY gY bh 2e1 bh))),?_⟩;rw[←BS 65 90 x hl] at q;have e1:("A" :Str).cps.toList=[65]:=by decide+kernel
  have e2:("Z" :Str).cps.toList=[90]:=by decide+kernel
  refine⟨_,rfl,_,_,rfl,rfl,_,rfl,?_⟩;rw[e1]
  cases hh:(!decide (x.cps.toList< [65])) with
  |false=>rw[hh] at q;exact d7 q
  |true=>rw[hh] at q;exact gK ⟨_,_,rfl,rfl,by rw[e2];exact q⟩
def Ja(D:Def K mg "is_small" "is_small" xC ["sign"]):a5 P w K mg base 1 "is_small" ["sign"] (PR 97 122):=by
 refine D.cN Nm 0e7 0e1
 ·obtain⟨n,rfl,_⟩:=h;rfl
 ·obtain⟨x,rfl,hl,q⟩:=h;refine⟨_,(ao (aA (rF gY gY bh 2e1 bh))),?_⟩;rw[←BS 97 122 x hl] at q;have e1:("a" :Str).cps.toList=[97]:=by decide+kernel
  have e2:("z" :Str).cps.toList=[122]:=by decide+kernel
  refine⟨_,rfl,_,_,rfl,rfl,_,rfl,?_⟩;rw[e1]
  cases hh:(!decide (x.cps.toList< [97])) with
  |false=>rw[hh] at q;exact d7 q
  |true=>rw[hh] at q;exact gK ⟨_,_,rfl,rfl,by rw[e2];exact q⟩
def FW(D:Def K mg "is_figure" "is_figure" qI ["sign"]):a5 P w K mg base 1 "is_figure" ["sign"] (PR 48 57):=by
 refine D.cN IY 0e7 0e1
 ·obtain⟨n,rfl,_⟩:=h;rfl
 ·obtain⟨x,rfl,hl,q⟩:=h;refine⟨_,(ao (aA (rF gY gY bh 2e1 bh))),?_⟩;rw[←BS 48 57 x hl] at q;have e1:("0" :Str).cps.toList=[48]:=by decide+kernel
  have e2:("9" :Str).cps.toList=[57]:=by decide+kernel
  refine⟨_,rfl,_,_,rfl,rfl,_,rfl,?_⟩;rw[e1]
  cases hh:(!decide (x.cps.toList< [48])) with
  |false=>rw[hh] at q;exact d7 q
  |true=>rw[hh] at q;exact gK ⟨_,_,rfl,rfl,by rw[e2];exact q⟩
def Nn:av ["self","text"] ["self","text"] (aj su):=cX
def zY(D:l6 K R "Reader.__init__" su ["self","text"] [])(T:uQ K mg C R uK uN):gG P w K mg base 1 R ["self","text"] [] (xZ R):=by
 refine D.cN Nn 0e7 0e1
 ·obtain⟨r,dx,x,rfl,_⟩:=h;rfl
 ·obtain⟨r,dx,x,rfl,hp,q⟩:=h;refine⟨_,(ai (eS 2e1 (pv 1) rfl) (ao (eS 2e1 aq rfl))),?_⟩;refine⟨_,rfl,_,rfl,r,R,dx,[],rfl,hp,T.ax,T.jO,(by show 0<1000;decide),_,rfl,r,R,dx,_,rfl,aa,T.ax,T.cm,(by show 1<1000;decide),?_⟩;refine q _ ⟨dx,aa⟩ λb o e hb=>?_;rw[ah hb,ah hb];exact e
def R':av 1e5 1e5 (aj zS):=cX
def DE(D:aX K R "sign" "Reader.sign" zS 1e5)(T:uQ K mg C R uK uN):aD P w K mg base 1 R "sign" 1e5 (jN R):=by
 refine D.cN R' 0e7 0e1
 ·obtain⟨r,x,p,rfl,_⟩:=h;rfl
 ·obtain⟨r,x,p,rfl,⟨dx,hR⟩,hp,hx,q⟩:=h;have big:(1000 :Nat)≤sizeLine:=by decide
  refine⟨_,(ao (aA (ie xt 3e6 (eQ 3e6) (eQ (ay bZ 3e6 aq))))),?_⟩;rw[←vJ x hp] at q;exact⟨_,rfl,r,R,dx,_,_,rfl,hR,T.ax,T.jO,f6 _ _,_,rfl,r,R,dx,_,_,rfl,hR,T.ax,T.cm,bu _ _,_,rfl,_,rfl,r,R,dx,_,_,rfl,hR,T.ax,T.cm,bu _ _,_,_,rfl,rfl,_,rfl,x,rfl,by omega,q⟩
def Sa:av ["self","sign"] ["self","sign"] (aj zT):=cX
def DF(D:aX K R "take" "Reader.take" zT ["self","sign"])(T:uQ K mg C R uK uN)(c1:aD P w K mg base 1 R "sign" 1e5 (jN R)):aD P w K mg base 2 R "take" ["self","sign"] (mC R):=by
 obtain⟨_,_,aw⟩:=c1;refine D.cN Sa 0e7 0e1
 ·obtain⟨r,x,p,sg,c,t,post,rfl,_⟩:=h;rfl
 ·obtain⟨r,x,p,sg,c,t,post,rfl,hs,⟨dx,hR⟩,hh,hx,q⟩:=h
  refine⟨_,(ai (bC (aL me (aH 2e1 T.ax aw.m aw.ok 4e3 aw.b .nil a8) (pv 1) (aO _)) (ao
       gq)
      aN) (ao (lu 2e1 aq xa))),?_⟩
  refine⟨_,rfl,r,dx,_,rfl,hR,aG _ _ 0e0 0e0,r,x,p,rfl,⟨dx,hR⟩,hh.1,hx,_,rfl,rfl,_,rfl,C6 (by rw[hh.sg,hs]) ?_⟩;refine⟨_,rfl,r,R,dx,_,_,rfl,hR,T.ax,T.cm,bu _ _,_,_,rfl,rfl,dx,_,hR,lL _ _,?_⟩;refine q _ ⟨dx,?_⟩ λb o e hb=>?_
  ·rw[aa];exact congrArg (λz=>some (HO.ins R dx z)) (lK x p (p+1))
  ·rw[ah hb];exact e
def vM:av ["self","signs","sign"] ["self","signs"] (aj kF):=cX
def sN(D:aX K R "take_all" "Reader.take_all" kF ["self","signs"])(T:uQ K mg C R uK uN)(c1:aD P w K mg base 2 R "take" ["self","sign"] (mC R)):aD P w K mg base 3 R "take_all" ["self","signs"] (lM R):=by
 obtain⟨_,_,bH⟩:=c1;refine D.cN vM 0e7 0e1
 ·obtain⟨r,x,p,sg,post,rfl,_⟩:=h;rfl
 ·obtain⟨r,x,p,sg,post,rfl,ha,hR,hh,hx,q⟩:=h;refine⟨_,(ao (bU PassesOwn.never rfl (RG (pv 1)) (aB (i:=2) vM.nd rfl 0e6) (ao (a9 (pq bH hr T.ax 2e1 (ag (pv 2) ak)))))),?_⟩;refine⟨_,rfl,sg,rfl,ha,MU (λi σ H'=>∃v:Option V,σ=[some (.ref r),some (.str sg),v]∧de R H' r x (p+i)∧Kept r H H') ⟨none,rfl,hR,Kept.refl r H⟩ ?_ ?_⟩
  ·rintro i c σ H' hc ⟨v,rfl,⟨dx,eB⟩,kk⟩;have L0:sg.cps.toList[i]? =some c:=by rw[Array.getElem?_toList];exact hc
   have hi:i<sg.cps.toList.length:=(List.getElem?_eq_some_iff.mp L0).1
   have e:sg.cps.toList=sg.cps.toList.take i++c::sg.cps.toList.drop (i+1):=by
    conv=>lhs;rw[←take_append_drop i sg.cps.toList]
    congr 1;rw[drop_eq_getElem_cons hi];congr 1;exact(List.getElem?_eq_some_iff.mp L0).2
   have h2:Here x (p+i) (c::sg.cps.toList.drop (i+1)) post:=by
    have h3:=Here.on (t:=sg.cps.toList.take i) (u:=c::sg.cps.toList.drop (i+1)) (e▸hh)
    rwa [length_take,Nat.min_eq_left 0e5] at h3
   refine⟨_,rfl,r,dx,_,rfl,eB,aG _ _ 0e0 0e0,_,rfl,r,x,p+i,_,c,_,post,rfl,rfl,⟨dx,eB⟩,h2,hx,λb8 hR'' k''=>?_⟩;exact⟨_,rfl,hR'',kk.trans k''⟩
  ·rintro σ H' ⟨v,rfl,eB,kk⟩;exact q _ eB kk
def FX:av 1e5 1e5 (aj m9):=cX
def BU(D:aX K R "take_end" "Reader.take_end" m9 1e5)(T:uQ K mg C R uK uN):aD P w K mg base 1 R "take_end" 1e5 (vL R):=by
 refine D.cN FX 0e7 0e1
 ·obtain⟨r,x,rfl,_⟩:=h;rfl
 ·obtain⟨r,x,rfl,⟨dx,hR⟩,hx,q⟩:=h
  refine⟨_,(ao (bC (aL pZ 3e6 (bS jC rfl T.nH jE (ag 3e6 ak)) (aO _)) (ao
       gq)
      aN)),?_⟩
  exact⟨_,rfl,r,R,dx,_,_,rfl,hR,T.ax,T.cm,bu _ _,_,rfl,r,R,dx,_,_,rfl,hR,T.ax,T.jO,f6 _ _,x,rfl,le_trans hx 0e4,_,_,rfl,rfl,_,rfl,rW 0e5 q⟩
def PU{n:Int}(h1:1≤n)(h2:n<10^12):∃m:Nat,n=(m:Int)∧m<10^12∧m≠0:=⟨n.toNat,by omega,by omega,by omega⟩
def pB:av ["self","longest","begin","written"] ["self","longest"] (aj kG):=cX
def vN(D:aX K R "read_number" "Reader.read_number" kG ["self","longest"])(T:uQ K mg C R uK uN)(c1:aD P w K mg base 1 R "sign" 1e5 (jN R))(c2:a5 P w K mg base 1 "is_figure" ["sign"] (PR 48 57)):aD P w K mg base 2 R "read_number" ["self","longest"] (sJ R):=by
 obtain⟨_,_,aw⟩:=c1;obtain⟨_,_,zZ⟩:=c2;refine D.cN pB 0e7 0e1
 ·obtain⟨r,x,p,n,lg,post,rfl,_⟩:=h;rfl
 ·obtain⟨r,x,p,n,lg,post,rfl,⟨dx,hR⟩,hh,n1,n2,fl,Hi,hx,q⟩:=h;obtain⟨m,rfl,m1,m0⟩:=PU n1 n2;have big:(1000 :Nat)≤sizeLine:=by decide
  have fa:=qT m;have fh:=IT m m0;have f1:=Ni m
  have fl12:(aK (m:Int)).length≤12:=by
   have:=lI (k:=12) 0e4 m1;unfold aK;simpa [Str.length] using this
  have e0:("0" :Str)=⟨#[48]⟩:=by decide+kernel
  have e1:("1" :Str)=⟨#[49]⟩:=by decide+kernel
  refine⟨_,(ai (bC (aL dk (aH 2e1 T.ax aw.m aw.ok 4e3 aw.b .nil a8) bh (aO _)) (ao
       gq)
      aN) (ai (az (i:=2) pB.nd rfl 0e6 3e6) (ai (je PassesOwn.never (PW.pt (rC (iZ (fz zZ hr (ag (aH 2e1 T.ax aw.m aw.ok 4e3 aw.b .nil a8) ak))) (mQ (aL pZ (ay oZ 3e6 (pv 2)) (pv 1) (aO _))))) (ao (lu 2e1 aq xa))) (ai (az (i:=3) pB.nd rfl 0e6 (ie xt 3e6 (eQ (pv 2)) (eQ 3e6))) (ai (bC (aL dk (pv 3) bh (aO _)) (ao
       gq)
      aN) (ao (aA (zf (mS (pv 3) (λ_=>rfl)) (bq Fx rfl T.zU rV (ag (pv 3) ak)) aq)))))))),?_⟩
  have s0:¬V.str (eU x p)=V.str "0" :=by
   rw[e0];intro z;have z:eU x p=⟨#[48]⟩:=by injection z
   cases hf:aK (m:Int) with
   |nil=>
    rw[hf] at hh;rw[hh.R7] at z
    cases post with
    |nil=>have:=congrArg (λs:Str=>s.cps.toList) z;simp at this
    |cons c r=>
     have:c=48:=by have:=congrArg (λs:Str=>s.cps.toList) z;simpa using this
     have:=Hi c rfl
     subst_vars
     simp [kL] at this
   |cons c r=>
    rw[hf] at hh fh;rw[hh.sg] at z;have:c=48:=by have:=congrArg (λs:Str=>s.cps.toList) z;simpa using this
    exact fh (by rw[this];rfl)
  refine⟨_,rfl,r,dx,_,rfl,hR,aG _ _ 0e0 0e0,r,x,p,rfl,⟨dx,hR⟩,hh.1,hx,rfl,_,rfl,rW s0 ?_⟩;refine⟨_,rfl,r,R,dx,_,_,rfl,hR,T.ax,T.cm,bu _ _,?_⟩;refine⟨λk σ H'=>∃j:Nat,k+j=(aK (m:Int)).length∧σ=[some (.ref r),some (.int lg),some (.int p),none]∧de R H' r x (p+j)∧Kept r H H',⟨(aK (m:Int)).length,0,by omega,rfl,⟨dx,hR⟩,Kept.refl r H⟩,?_⟩;rintro k σ H' ⟨j,hk,rfl,⟨dm,eB⟩,kk⟩;have hle:=hh.le;refine⟨_,rfl,r,dm,_,rfl,eB,aG _ _ 0e0 0e0,r,x,p+j,rfl,⟨dm,eB⟩,by omega,hx,_,rfl,nJ _ _,_,rfl,?_⟩;by_cases hj:j< (aK (m:Int)).length
  ·have e:aK (m:Int)=(aK (m:Int)).take j++(aK (m:Int))[j]::(aK (m:Int)).drop (j+1):=by
    conv=>lhs;rw[←take_append_drop j (aK (m:Int))]
    congr 1;exact drop_eq_getElem_cons hj
   have h2:Here x (p+j) ((aK (m:Int))[j]::(aK (m:Int)).drop (j+1)) post:=by
    have h3:=Here.on (t:=(aK (m:Int)).take j) (u:=(aK (m:Int))[j]::(aK (m:Int)).drop (j+1)) (e▸hh)
    rwa [length_take,Nat.min_eq_left 0e5] at h3
   have ev:inR 48 57 (eU x (p+j))=true:=by
    rw[h2.sg,nK];exact all_eq_true.mp fa _ (getElem_mem hj)
   rw[ev];refine gK ⟨_,rfl,r,R,dm,_,_,rfl,eB,T.ax,T.cm,bu _ _,_,rfl,_,_,rfl,rfl,_,rfl,_,_,rfl,rfl,_,rfl,xn 0e5 ?_⟩;refine⟨_,fun σ' b8 h=>⟨k - 1,by omega,h⟩,?_⟩;refine⟨_,rfl,r,R,dm,_,_,rfl,eB,T.ax,T.cm,bu _ _,_,_,rfl,rfl,dm,_,eB,lL _ _,?_⟩;refine⟨j+1,by omega,rfl,⟨dm,?_⟩,λb o z w=>?_⟩
   ·rw[aa];exact congrArg (λz=>some (HO.ins R dm z)) (lK x (p+j) (p+j+1))
   ·rw[ah w];exact kk b o z w
  ·have ej:j=(aK (m:Int)).length:=by omega
   have h2:Here x (p+j) [] post:=by
    have h3:=Here.on (t:=aK (m:Int)) (u:=[]) (by rw[append_nil];exact hh)
    rwa [←ej] at h3
   have ev:inR 48 57 (eU x (p+j))=false:=by
    rw[h2.R7];exact xV Hi
   rw[ev];refine d7 (d7 ?_)
   have ec:Txt.slice x (some (p:Int)) (some ((p+j:Nat):Int))=dM (m:Int):=by
    rw[ej,hh.cut];apply nI;simp [aK]
   refine⟨_,rfl,r,R,dm,_,_,rfl,eB,T.ax,T.jO,f6 _ _,_,rfl,_,rfl,_,rfl,r,R,dm,_,_,rfl,eB,T.ax,T.cm,bu _ _,_,rfl,x,rfl,by omega,?_⟩;rw[ec]
   have nw:¬V.str (dM (m:Int))=V.str "1" :=by
    rw[e1];intro z;have z:dM (m:Int)=⟨#[49]⟩:=by injection z
    exact f1 (by unfold aK;rw[z])
   refine⟨_,rfl,rfl,_,rfl,rW nw ?_⟩;rw[ej] at eB;have fin:=q H' ⟨dm,eB⟩ kk;have lf:(dM (m:Int)).length=(aK (m:Int)).length:=by unfold aK;simp [Str.length]
   refine⟨_,rfl,_,⟨by rw[lf];omega,rfl⟩,?_⟩;by_cases hm:m=1
   ·subst hm;have ez:(((dM ((1 :Nat):Int)).length:Int) != 0)=false:=by decide+kernel
    rw[ez];exact d7 fin
   ·have ez:(((dM (m:Int)).length:Int) != 0)=true:=by
     rw[lf];have:(aK (m:Int)).length≠0:=λz=>hm (qV m (List.length_eq_zero_iff.mp z));simp only [bne_iff_ne,ne_eq];omega
    rw[ez];exact gK ⟨_,rfl,_,_,rfl,xU m m1 hm,by rw[lf];omega,fin⟩
def Jb:av 1e5 1e5 (aj ni):=cX
def vO(D:aX K R "read_count" "Reader.read_count" ni 1e5)(T:uQ K mg C R uK uN)(c1:aD P w K mg base 2 R "read_number" ["self","longest"] (sJ R)):aD P w K mg base 3 R "read_count" 1e5 (jm R):=by
 obtain⟨_,_,dQ⟩:=c1;refine D.cN Jb 0e7 0e1
 ·obtain⟨r,x,p,n,post,rfl,_⟩:=h;rfl
 ·obtain⟨r,x,p,n,post,rfl,⟨dx,hR⟩,hh,n1,n2,Hi,hx,q⟩:=h;refine⟨_,(ao (aA (pq dQ hr T.ax 2e1 (ag (aZ (v:= .int 3) rfl T.qo 2e4) ak)))),?_⟩;exact⟨_,rfl,r,dx,_,rfl,hR,aG _ _ 0e0 0e0,r,x,p,n,3,post,rfl,⟨dx,hR⟩,hh,n1,by omega,(by have:=il n1 n2;unfold aK;simp [Str.length] at this;simpa using by omega),Hi,hx,q⟩
def aS(k:Kept r H H')(hr:H' r=some o)(h:H' a=none):H a=none:=by
 cases hh:H a with
 |none=>rfl
 |some o'=>
  by_cases e:a=r
  ·rw[e,hr] at h;cases h
  ·rw[k a o' hh e] at h;cases h
def Np{f:Nat→Bool}{l:List Nat}(h1:∀c∈l,f c=false)(h2:Not f post):Not f (l++post):=by
 cases l with
 |nil=>exact h2
 |cons c r=>
  intro d hd;have e:c=d:=by simpa using hd
  rw[←e];exact h1 c 1e6
def Jc{n:Int}(h1:1≤n)(h2:n≤999):∀c∈aK n,oJ c=false:=by
 intro c hc;obtain⟨m,rfl,m1,m0⟩:=PU h1 0e5;have:=all_eq_true.mp (qT m) c hc;simp only [kL,oJ,and_eq_true,decide_eq_true_eq] at*;simp;omega
def x4:av ["self","begin","kind"] 1e5 (aj sv):=cX
def z7(D:aX K R "read_atom" "Reader.read_atom" sv 1e5)(T:uQ K mg C R uK uN)(c1:aD P w K mg base 1 R "sign" 1e5 (jN R))(c2:a5 P w K mg base 1 "is_great" ["sign"] (PR 65 90))(c3:a5 P w K mg base 1 "is_small" ["sign"] (PR 97 122))(c4:aD P w K mg base 3 R "read_count" 1e5 (jm R))
  (c5:gG P w K mg base 1 C ["self","kind","count"] [1] (IL C)):aD P w K mg base 4 R "read_atom" 1e5 (x3 C R):=by
 obtain⟨_,_,aw⟩:=c1;obtain⟨_,_,mE⟩:=c2;obtain⟨_,_,BV⟩:=c3;obtain⟨_,_,aI⟩:=c4;obtain⟨_,_,gD⟩:=c5;obtain⟨_,Jd,Je⟩:=gD.b 1 0e4;refine D.cN x4 0e7 0e1
 ·obtain⟨r,x,p,k,n,post,rfl,_⟩:=h;rfl
 ·obtain⟨r,x,p,k,n,post,rfl,⟨dx,hR⟩,hh,⟨c,rk,rfl,hc,hsm,hl⟩,n1,n2,Hi,vp,hx,q⟩:=h;have big:(1000 :Nat)≤sizeLine:=by decide
  have hle:=hh.le
  refine⟨_,(ai (bC (ku (iZ (fz mE hr (ag (aH 2e1 T.ax aw.m aw.ok 4e3 aw.b .nil a8) ak)))) (ao
       gq)
      aN) (ai (az (i:=1) x4.nd rfl 0e6 3e6) (ai (lu 2e1 aq xa) (ai (je PassesOwn.never (PW.pt (rC (iZ (fz BV hr (ag (aH 2e1 T.ax aw.m aw.ok 4e3 aw.b .nil a8) ak))) (mQ (aL pZ (ay oZ 3e6 (pv 1)) (aZ (v:= .int 3) rfl T.sM 2e4) (aO _))))) (ao (lu 2e1 aq xa))) (ai (az (i:=2) x4.nd rfl 0e6 (ie xt 3e6 (eQ (pv 1)) (eQ 3e6))) (ao (aA (gb gD.m gD.ok 4e3 rfl T.R5 Je Jd a8 (ag (pv 2) (ag (aH 2e1 T.ax aI.m aI.ok 4e3 aI.b .nil a8) ak)))))))))),?_⟩
  refine⟨_,rfl,r,dx,_,rfl,hR,aG _ _ 0e0 0e0,r,x,p,rfl,⟨dx,hR⟩,hh.1,hx,_,rfl,nJ _ _,_,rfl,?_⟩
  have ev:inR 65 90 (eU x p)=true:=by
   rw[Here.sg (c:=c) (t:=rk++aK n) hh,nK];exact hc
  rw[ev];refine d7 ?_;refine⟨_,rfl,r,R,dx,_,_,rfl,hR,T.ax,T.cm,bu _ _,?_⟩;refine⟨_,rfl,r,R,dx,_,_,rfl,hR,T.ax,T.cm,bu _ _,_,_,rfl,rfl,dx,_,hR,lL _ _,?_⟩
  have eL:(upd H r (.ins R dx (cx "place" (.int ((p:Int)+1)) (gv x p)))) r=some (.ins R dx (gv x (p+1))):=by
   rw[aa];exact congrArg (λz=>some (HO.ins R dx z)) (lK x p (p+1))
  have k1:Kept r H (upd H r (.ins R dx (cx "place" (.int ((p:Int)+1)) (gv x p)))):=λb o z w=>by rw[ah w];exact z
  generalize upd H r _=H1 at eL k1 ⊢;have BW:Here x (p+1) (rk++aK n) post:=Here.on (t:=[c]) (u:=rk++aK n) hh;refine⟨λm σ H'=>∃j:Nat,m+j=rk.length∧σ=[some (.ref r),some (.int p),none]∧de R H' r x (p+1+j)∧Kept r H H',⟨rk.length,0,by omega,rfl,⟨dx,eL⟩,k1⟩,?_⟩;rintro m σ H' ⟨j,hk,rfl,⟨dm,eB⟩,kk⟩;have hle1:=BW.le;rw[length_append] at hle1;refine⟨_,rfl,r,dm,_,rfl,eB,aG _ _ 0e0 0e0,r,x,p+1+j,rfl,⟨dm,eB⟩,by omega,hx,_,rfl,nJ _ _,_,rfl,?_⟩;by_cases hj:j<rk.length
  ·have e:rk=rk.take j++rk[j]::rk.drop (j+1):=by
    conv=>lhs;rw[←take_append_drop j rk]
    congr 1;exact drop_eq_getElem_cons hj
   have h2:Here x (p+1+j) (rk[j]::(rk.drop (j+1)++aK n)) post:=by
    have e':rk++aK n=rk.take j++(rk[j]::(rk.drop (j+1)++aK n)):=by
     conv=>lhs;rw[e]
     rw[append_assoc];rfl
    have h3:=Here.on (t:=rk.take j) (u:=rk[j]::(rk.drop (j+1)++aK n)) (e'▸BW)
    rwa [length_take,Nat.min_eq_left 0e5] at h3
   have ev:inR 97 122 (eU x (p+1+j))=true:=by
    rw[h2.sg,nK];exact all_eq_true.mp hsm _ (getElem_mem hj)
   rw[ev];refine gK ⟨_,rfl,r,R,dm,_,_,rfl,eB,T.ax,T.cm,bu _ _,_,rfl,_,_,rfl,rfl,_,_,rfl,rfl,_,rfl,xn 0e5 ?_⟩;refine⟨_,fun σ' b8 h=>⟨m - 1,by omega,h⟩,?_⟩;refine⟨_,rfl,r,R,dm,_,_,rfl,eB,T.ax,T.cm,bu _ _,_,_,rfl,rfl,dm,_,eB,lL _ _,?_⟩;refine⟨j+1,by omega,rfl,⟨dm,?_⟩,λb o z w=>?_⟩
   ·rw[aa];exact congrArg (λz=>some (HO.ins R dm z)) (lK x (p+1+j) (p+1+j+1))
   ·rw[ah w];exact kk b o z w
  ·have ej:j=rk.length:=by omega
   have h2:Here x (p+1+j) (aK n) post:=by
    have h3:=Here.on (t:=rk) (u:=aK n) BW
    rwa [←ej] at h3
   have ev:inR 97 122 (eU x (p+1+j))=false:=by
    have h3:Here x (p+1+j) [] (aK n++post):=⟨h2.1,by rw[h2.2];rfl⟩;rw[h3.R7];exact xV (Np (Jc n1 n2) vp)
   rw[ev];refine d7 (d7 ?_)
   have ec:Txt.slice x (some (p:Int)) (some ((p+1+j:Nat):Int))=⟨(c::rk).toArray⟩:=by
    have h3:Here x p (c::rk) (aK n++post):=⟨hh.1,by rw[hh.2,append_assoc]⟩;have:=h3.cut;rw[length_cons] at this;rw[show p+1+j=p+(rk.length+1) by omega];exact this
   refine⟨_,rfl,r,R,dm,_,_,rfl,eB,T.ax,T.jO,f6 _ _,_,rfl,_,rfl,_,rfl,r,R,dm,_,_,rfl,eB,T.ax,T.cm,bu _ _,_,rfl,x,rfl,by omega,?_⟩;rw[ec];refine⟨_,rfl,_,rfl,r,dm,_,rfl,eB,aG _ _ 0e0 0e0,r,x,p+1+j,n,post,rfl,⟨dm,eB⟩,h2,n1,n2,Hi,hx,λH2 iJ k2=>?_⟩;obtain⟨lN,iJ⟩:=iJ;refine λa da na L8 nea=>⟨a,da,_,n,rfl,aa,λH3 h3 k3=>⟨rfl,?_⟩⟩;have s3:au H2 H3:=λb o z=>k3 b o (by rw[ah (af z na),ah (af z L8)];exact z) (af z na);have kf:=(kk.trans k2);refine q a H3 (aS kf iJ na) ⟨da,h3⟩ ⟨lN,?_⟩ (kf.trans (Kept.of s3));rw[s3 _ _ iJ,length_append,length_cons];rw[show p+1+j+(aK n).length=p+(rk.length+1+(aK n).length) by omega]
inductive Tr where
 |one (k:List Nat) (n:Int)
 |gr (ts:List Tr) (n:Int)
noncomputable def bW:Nat→Tr→List Nat
 |_, .one k n=>k++aK n
 |0, .gr _ _=>[]
 |d+1, .gr ts n=>40::(ts.flatMap (bW d)++41::aK n)
def oK:Nat→Tr→Prop
 |_, .one k n=>ki k∧1≤n∧n≤999
 |0, .gr _ _=>False
 |d+1, .gr ts n=>ts≠[]∧(∀t∈ts,oK d t)∧1≤n∧n≤999
def eW(C G:3e5):Nat→Hp→Addr→Tr→Prop
 |_,H,p, .one k n=>gC C H p 3e7 n
 |0,_,_, .gr _ _=>False
 |d+1,H,p, .gr ts n=>∃dx l ps,H p=some (.ins G dx (nF l n))∧H l=some (.lst (ps.map V.ref))∧Paired (eW C G d H) ps ts
def WJ(C G:3e5)(d:Nat)(H H':Hp)(a:3e5)(t:Tr):Prop:=∀b8,(∀b o,H b=none→H' b=some o→b8 b=some o)→eW C G d b8 a t
def NewL(C G L:3e5)(d:Nat)(H H':Hp)(a:3e5)(t:Tr):Prop:=∀b8,(∀b o,H b=none→b≠L→H' b=some o→b8 b=some o)→eW C G d b8 a t
def WK(C G:3e5)(d:Nat)(H H':Hp)(l:3e5)(ts:List Tr):Prop:=H l=none∧∃ps,H' l=some (.lst (ps.map V.ref))∧∀b8,(∀b o,H b=none→H' b=some o→b8 b=some o)→Paired (eW C G d b8) ps ts
def Stop(post:List Nat):Prop:=Not kL post∧Not oJ post∧Not DB post∧Not (λc=>decide (c=40)) post
inductive Jf(C G R:3e5)(d:Nat)(vs:4e5)(H:Hp)(Q:VK)(E:XK):Prop
 |mk (r:3e5) (x:Str) (p:Nat) (a:Nat) (t:Tr) (post:List Nat) (dH:vs=[.ref r, .int a]) (dI:de R H r x p) (dN:Here x p (bW d t) post) (eK:oK d t) (gj:a+d≤4) (i6:Not kL post) (mD:Not oJ post) (qY:x.length≤1000) (zX:∀y H',H y=none→WJ C G d H H' y t→de R H' r x (p+(bW d t).length)→Kept r H H'→Q (.ref y) H')
def DG(C G R:3e5)(d:Nat):Sp:=Jf C G R d
def sO(C G R:3e5):Nat→Sp
 |0=>λ_ _ _ _=>False
 |d+1=>λvs H Q _=>∃(r:3e5) (x:Str) (p:Nat) (a:Nat) (ts:List Tr) (n:Int) (post:List Nat),vs=[.ref r, .int a]∧de R H r x p∧Here x p (bW (d+1) (.gr ts n)) post∧oK (d+1) (.gr ts n)∧a+d+1≤4∧Not kL post∧x.length≤1000∧
  ∀y H',H y=none→WJ C G (d+1) H H' y (.gr ts n)→de R H' r x (p+(bW (d+1) (.gr ts n)).length)→Kept r H H'→Q (.ref y) H'
inductive FY(C G R:3e5)(d:Nat)(vs:4e5)(H:Hp)(Q:VK)(E:XK):Prop
 |mk (r:3e5) (x:Str) (p:Nat) (a:Nat) (ts:List Tr) (post:List Nat) (dH:vs=[.ref r, .int a]) (dI:de R H r x p) (dN:Here x p (ts.flatMap (bW d)) post) (eK:ts≠[]) (gj:(∀t∈ts,oK d t)) (i6:a+d≤4) (mD:Stop post) (qY:x.length≤1000) (zX:∀l H',WK C G d H H' l ts→de R H' r x (p+(ts.flatMap (bW d)).length)→Kept r H H'→Q (.ref l) H')
def nP(C G R:3e5)(d:Nat):Sp:=FY C G R d
structure sP(K:0e9)(mg:1e3)(C R G:3e5)(uK uN uB uE uM:Tok):Prop extends uQ K mg C R uK uN where
 eR:uz K G
 pD:cy K G "parts"
 pE:cy K G "count"
 Nq:mg "Group" =some (.ref G)
 gk:mg "GROUP_BEGIN" =some (.str "(" uB)
 p9:mg "GROUP_END" =some (.str ")" uE)
 kO:mg "MOST_GROUPS_AROUND" =some (.int 3 uM)
def Sb:("(" :Str)=⟨#[40]⟩:=by decide+kernel
def e41:(")" :Str)=⟨#[41]⟩:=by decide+kernel
def pF{d:Nat}(h:oK d t):∃c r,bW d t=c::r∧((DB c=true∧∃k n,t= .one k n)∨(c=40∧∃ts n,t= .gr ts n)):=by
 cases t with
 |one k n=>
  have h:ki k∧1≤n∧n≤999:=by cases d<;>exact h
  obtain⟨⟨c,r,rfl,hc,_⟩,_⟩:=h;have e:bW d (.one (c::r) n)=c::(r++aK n):=by cases d<;>rfl
  exact⟨c,_,e, .inl ⟨hc,_,_,rfl⟩⟩
 |gr ts n=>
  cases d with
  |zero=>exact h.elim
  |succ d=>exact⟨40,_,rfl, .inr ⟨rfl,_,_,rfl⟩⟩
def Nr:av ["self","around"] ["self","around"] (aj pw):=cX
def z8(d:Nat)(D:aX K R "read_part" "Reader.read_part" pw ["self","around"])(T:sP K mg C R G uK uN uB uE uM)(c1:aD P w K mg base 1 R "sign" 1e5 (jN R))(c2:aD P w K mg base 4 R "read_atom" 1e5 (x3 C R))(c3:aD P w K mg base (3*d+4) R "read_group" ["self","around"] (sO C G R d)):
  aD P w K mg base (3*d+5) R "read_part" ["self","around"] (DG C G R d):=by
 obtain⟨_,_,aw⟩:=c1;obtain⟨_,_,eX⟩:=c2;obtain⟨_,_,l7⟩:=c3;refine D.cN Nr 0e7 0e1
 ·obtain⟨r,x,p,a,t,post,rfl,_⟩:=h;rfl
 ·obtain⟨r,x,p,a,t,post,rfl,⟨dx,hR⟩,hh,ok,ha,Hi,vp,hx,q⟩:=h
  refine⟨_,(ai (bC (PW.pt (rC (aL dk (aH 2e1 T.ax aw.m aw.ok (hr.mono 0e5) aw.b .nil a8) (aZ (v:= .str "(") rfl T.gk 2e4) (aO _)) (mQ (aL Pt (pv 1) (aZ (v:= .int 3) rfl T.kO 2e4) (aO _))))) (ao (aA (pq l7 hr T.ax 2e1 (ag (pv 1) ak))))
      aN) (ao (aA (aH 2e1 T.ax eX.m eX.ok (hr.mono 0e5) eX.b .nil a8)))),?_⟩
  obtain⟨c,rest,hc,ht⟩:=pF ok;have PV:eU x p=⟨#[c]⟩:=Here.sg (t:=rest) (hc▸hh);refine⟨_,rfl,r,dx,_,rfl,hR,aG _ _ 0e0 0e0,r,x,p,rfl,⟨dx,hR⟩,hh.1,hx,rfl,_,rfl,?_⟩;rcases ht with ⟨hg,k,n,rfl⟩ | ⟨rfl,ts,n,rfl⟩
  ·have ne:¬V.str (eU x p)=V.str "(" :=by
    rw[PV,Sb];intro z;have z:(⟨#[c]⟩:Str)=⟨#[40]⟩:=by injection z
    have:c=40:=by have:=congrArg (λs:Str=>s.cps.toList) z;simpa using this
    subst this;simp [DB] at hg
   refine rW ne ?_;have PX:ki k∧1≤n∧n≤999:=by cases d<;>exact ok
   have et:bW d (.one k n)=k++aK n:=by cases d<;>rfl
   rw[et] at hh q;refine⟨_,rfl,r,dx,_,rfl,hR,aG _ _ 0e0 0e0,r,x,p,k,n,post,rfl,⟨dx,hR⟩,hh,PX.1,PX.2.1,PX.2.2,Hi,vp,hx,λy H' ny hA eB kp=>q y H' ny (λb8 ke=>?_) eB kp⟩;obtain⟨dy,hA⟩:=hA;have e:eW C G d b8 y (.one k n)=gC C b8 y 3e7 n:=by cases d<;>rfl
   rw[e];exact⟨dy,ke _ _ ny hA⟩
  ·cases d with
   |zero=>exact ok.elim
   |succ d=>
    refine xn (by rw[PV,Sb]) ?_;refine⟨_,rfl,_,_,rfl,rfl,_,rfl,xn 0e5 ?_⟩;exact⟨_,rfl,r,dx,_,rfl,hR,aG _ _ 0e0 0e0,_,rfl,r,x,p,a,ts,n,post,rfl,⟨dx,hR⟩,hh,ok,by omega,Hi,hx,q⟩
inductive Jg(X:3e5)(vs:4e5)(H:Hp)(Q:VK)(E:XK):Prop
 |mk (p dx l:3e5) (c:Int) (xs:4e5) (dH:vs=[.ref p, .ref l, .int c]) (dI:H p=some (.ins X dx [])) (dN:H l=some (.lst xs)) (eK:∀n H',H n=none→H' p=some (.ins X dx (nF n c))→H' n=some (.lst xs)→(∀b o,H b=some o→b≠p→H' b=some o)→Q .cw H')
def nQ(X:3e5):Sp:=Jg X
def f7(h:(upd (upd H a o) b o') m=none):H m=none:=by
 by_cases e:m=b
 ·rw[e,aa] at h;cases h
 ·rw[ah e] at h;by_cases e':m=a
  ·rw[e',aa] at h;cases h
  ·rwa [ah e'] at h
def Sd(l:List Nat):Stop (41::l):=by
 refine⟨?_,?_,?_,?_⟩<;>(intro c hc;have e:41=c:=by simpa using hc)<;>subst e<;>decide
def sQ:av ["self","around","parts"] ["self","around"] (aj jJ):=cX
def BX(D:aX K R "read_group" "Reader.read_group" jJ ["self","around"]):aD P w K mg base 4 R "read_group" ["self","around"] (sO C G R 0):=
 D.cN (k:=3) sQ (λvs H Q E h=>h.elim) (λf aY A outer s H vs Q E hr h=>h.elim)
def FZ(d:Nat)(D:aX K R "read_group" "Reader.read_group" jJ ["self","around"])(T:sP K mg C R G uK uN uB uE uM)(c1:aD P w K mg base 2 R "take" ["self","sign"] (mC R))(c2:aD P w K mg base 3 R "read_count" 1e5 (jm R))(c3:aD P w K mg base (3*d+6) R "read_parts" ["self","around"] (nP C G R d))
  (c4:gG P w K mg base 1 G ["self","parts","count"] [1] (nQ G)):aD P w K mg base (3*d+7) R "read_group" ["self","around"] (sO C G R (d+1)):=by
 obtain⟨_,_,bH⟩:=c1;obtain⟨_,_,aI⟩:=c2;obtain⟨_,_,cO⟩:=c3;obtain⟨_,_,eR⟩:=c4;obtain⟨_,F0,F1⟩:=eR.b 1 0e4;refine D.cN sQ 0e7 0e1
 ·obtain⟨r,x,p,a,ts,n,post,rfl,_⟩:=h;rfl
 ·obtain⟨r,x,p,a,ts,n,post,rfl,⟨dx,hR⟩,hh,⟨kq,aM,n1,n2⟩,ha,Hi,hx,q⟩:=h;refine⟨_,(ai (a9 (pq bH hr T.ax 2e1 (ag (aZ (v:= .str "(") rfl T.gk 2e4) ak))) (ai (az (i:=2) sQ.nd rfl 0e6 (pq cO hr T.ax 2e1 (ag (ay bZ (pv 1) aq) ak))) (ai (a9 (pq bH hr T.ax 2e1 (ag (aZ (v:= .str ")") rfl T.p9 2e4) ak))) (ao (aA (gb eR.m eR.ok (hr.mono 0e5) rfl T.Nq F1 F0 a8 (ag (pv 2) (ag (aH 2e1 T.ax aI.m aI.ok (hr.mono 0e5) aI.b .nil a8) ak)))))))),?_⟩;have Jh:Here x p (40::(ts.flatMap (bW d)++41::aK n)) post:=hh;have BW:Here x (p+1) (ts.flatMap (bW d)++41::aK n) post:=Here.on (t:=[40]) Jh;have Se:Here x (p+1) (ts.flatMap (bW d)) (41::(aK n++post)):=⟨BW.1,by rw[BW.2,append_assoc];rfl⟩;have Hj:Here x (p+1+(ts.flatMap (bW d)).length) (41::aK n) post:=Here.on (t:=ts.flatMap (bW d)) BW;have hh4:Here x (p+1+(ts.flatMap (bW d)).length+1) (aK n) post:=Here.on (t:=[41]) Hj;refine⟨_,rfl,r,dx,_,rfl,hR,aG _ _ 0e0 0e0,r,x,p,_,40,_,post,rfl,Sb,⟨dx,hR⟩,Jh,hx,λH1 eL k1=>?_⟩;obtain⟨oM,eL⟩:=eL;refine⟨_,rfl,r,oM,_,rfl,eL,aG _ _ 0e0 0e0,_,rfl,_,_,rfl,rfl,r,x,p+1,a+1,ts,_,rfl,⟨oM,eL⟩,Se,kq,aM,by omega,Sd _,hx,λl H2 hN iJ k2=>?_⟩;obtain⟨lN,iJ⟩:=iJ;obtain⟨uq,ps,uo,MP⟩:=hN;refine⟨_,rfl,r,lN,_,rfl,iJ,aG _ _ 0e0 0e0,r,x,p+1+(ts.flatMap (bW d)).length,_,41,_,post,rfl,e41,⟨lN,iJ⟩,Hj,hx,λH3 iK k3=>?_⟩;obtain⟨x5,iK⟩:=iK;refine⟨_,rfl,_,rfl,r,x5,_,rfl,iK,aG _ _ 0e0 0e0,r,x,_,n,post,rfl,⟨x5,iK⟩,hh4,n1,n2,Hi,hx,λH4 vP k4=>?_⟩;obtain⟨L9,vP⟩:=vP;have nlr:l≠r:=λz=>by rw[z,eL] at uq;cases uq
  have Nt:=k4 _ _ (k3 _ _ uo nlr) nlr;refine λg dg ng BY neg=>⟨g,dg,l,n,ps.map V.ref,rfl,aa,?_,λm H5 hm hg U9 kp=>⟨rfl,?_⟩⟩
  ·rw[ah (af Nt ng),ah (af Nt BY)];exact Nt
  have s5:au H4 H5:=λb o z=>kp b o (by rw[ah (af z ng),ah (af z BY)];exact z) (af z ng);have kf:Kept r H H4:=((k1.trans k2).trans k3).trans k4;refine q g H5 (aS kf vP ng) (λb8 ke=>?_) ⟨L9,?_⟩ (kf.trans (Kept.of s5))
  ·refine⟨dg,m,ps,ke _ _ (aS kf vP ng) hg,ke _ _ (aS kf vP (f7 hm)) U9,MP b8 λb o z1 z2=>?_⟩;have Bc:b≠r:=λz=>by rw[z,eL] at z1;cases z1
   exact ke _ _ (aS k1 eL z1) (s5 _ _ (k4 _ _ (k3 _ _ z2 Bc) Bc))
  ·rw[s5 _ _ vP];show some (HO.ins R L9 (gv x (p+1+(ts.flatMap (bW d)).length+1+(aK n).length)))=some (HO.ins R L9 (gv x (p+(40::(ts.flatMap (bW d)++41::aK n)).length)));rw[length_cons,length_append,length_cons];rw[show p+1+(ts.flatMap (bW d)).length+1+(aK n).length=p+((ts.flatMap (bW d)).length+((aK n).length+1)+1) by omega]
theorem sR{d:Nat}:∀{ts:List Tr},(∀t∈ts,oK d t)→ts.length≤(ts.flatMap (bW d)).length
 | [],_=>le_refl _
 |t::ts,h=>by
  obtain⟨c,r,e,_⟩:=pF (h t 1e6);have:=sR (d:=d) (ts:=ts) λu hu=>h u (mem_cons_of_mem _ hu);rw[flatMap_cons,length_append,e,length_cons,length_cons];omega
def list_at{α:Type}{l:List α}{i:Nat}(h:i<l.length):l=l.take i++l[i]::l.drop (i+1):=by
 conv=>lhs;rw[←take_append_drop i l]
 congr 1;exact drop_eq_getElem_cons h
def sS{d:Nat}{ts:List Tr}(h:∀t∈ts,oK d t)(hs:Stop post):Not kL (ts.flatMap (bW d)++post)∧Not oJ (ts.flatMap (bW d)++post):=by
 cases ts with
 |nil=>exact⟨hs.1,hs.2.1⟩
 |cons t ts=>
  obtain⟨c,r,e,hc⟩:=pF (h t 1e6);have hc:DB c=true∨c=40:=hc.elim (λz=> .inl z.1) λz=> .inr z.1;rw[flatMap_cons,e];refine⟨λb hb=>?_,λb hb=>?_⟩<;>have eb:c=b:=by simpa using hb
  ·subst eb;rcases hc with hc|rfl
   ·simp only [DB,kL,and_eq_true,decide_eq_true_eq] at*;simp;omega
   ·decide
  ·subst eb;rcases hc with hc|rfl
   ·simp only [DB,oJ,and_eq_true,decide_eq_true_eq] at*;simp;omega
   ·decide
def BZ{d:Nat}{x:Str}{p:Nat}{ts:List Tr}{post:List Nat}{i:Nat}(h:Here x p (ts.flatMap (bW d)) post)(hi:i<ts.length):Here x (p+((ts.take i).flatMap (bW d)).length) (bW d ts[i]) ((ts.drop (i+1)).flatMap (bW d)++post):=by
 have e:ts.flatMap (bW d)=(ts.take i).flatMap (bW d)++(bW d ts[i]++(ts.drop (i+1)).flatMap (bW d)):=by
  conv=>lhs;rw[list_at hi]
  rw[flatMap_append,flatMap_cons]
 have h1:=Here.on (t:=(ts.take i).flatMap (bW d)) (e▸h);exact⟨h1.1,by rw[h1.2,append_assoc]⟩
def vQ{d:Nat}{ts:List Tr}{i:Nat}(hi:i<ts.length):(ts.take (i+1)).flatMap (bW d)=(ts.take i).flatMap (bW d)++bW d ts[i]:=by
 rw[take_add_one,getElem?_eq_getElem hi];show (ts.take i++[ts[i]]).flatMap (bW d)=_;rw[flatMap_append,flatMap_cons,flatMap_nil,append_nil]
theorem aJ{α β:Type}{p q:α→β→Prop}(h:∀a b,p a b→q a b):∀{as:List α} {bs:List β},Paired p as bs→Paired q as bs
 |_,_, .nil=> .nil
 |_,_, .cons x t=> .cons (h _ _ x) (aJ h t)
theorem bT{α β:Type}{p:α→β→Prop}{a:α}{b:β}(x:p a b):∀{as:List α} {bs:List β},Paired p as bs→Paired p (as++[a]) (bs++[b])
 |_,_, .nil=> .cons x .nil
 |_,_, .cons y t=> .cons y (bT x t)
def z9:av ["self","around","parts"] ["self","around"] (aj lG):=cX
def vR(d:Nat)(D:aX K R "read_parts" "Reader.read_parts" lG ["self","around"])(T:sP K mg C R G uK uN uB uE uM)(c1:aD P w K mg base 1 R "sign" 1e5 (jN R))(c2:a5 P w K mg base 1 "is_great" ["sign"] (PR 65 90))(c3:aD P w K mg base (3*d+5) R "read_part" ["self","around"] (DG C G R d)):
  aD P w K mg base (3*d+6) R "read_parts" ["self","around"] (nP C G R d):=by
 obtain⟨_,_,aw⟩:=c1;obtain⟨_,_,mE⟩:=c2;obtain⟨_,_,ip⟩:=c3;refine D.cN z9 0e7 0e1
 ·obtain⟨r,x,p,a,ts,post,rfl,_⟩:=h;rfl
 ·obtain⟨r,x,p,a,ts,post,rfl,⟨dx,hR⟩,hh,kq,aM,ha,eC,hx,q⟩:=h;have big:=bgL;have hle:=hh.le;have hfl:=sR aM;have t0:0<ts.length:=length_pos_iff.mpr kq;refine⟨_,(ai (az (i:=2) z9.nd rfl 0e6 (b7 (ag (pq ip hr T.ax 2e1 (ag (pv 1) ak)) ak))) (ai (je PassesOwn.never (PW.pt (vc (iZ (fz mE hr (ag (aH 2e1 T.ax aw.m aw.ok (hr.mono 0e5) aw.b .nil a8) ak))) (rB (aL dk (aH 2e1 T.ax aw.m aw.ok (hr.mono 0e5) aw.b .nil a8) (aZ (v:= .str "(") rfl T.gk 2e4) (aO _))))) (ao (a9 (jg PySem.F.plainAttrs_list PySem.F.slot_list_append PySem.F.type_list_append dB (pv 2) (ag (pq ip hr T.ax 2e1 (ag (pv 1) ak)) ak))))) (ao (aA (pv 2))))),?_⟩;have Rz:∀i,∀t∈ts.drop i,oK d t:=λi t ht=>aM t (List.mem_of_mem_drop ht);have h0:Here x p (bW d ts[0]) ((ts.drop (0+1)).flatMap (bW d)++post):=BZ hh t0;have n0:=sS (Rz (0+1)) eC;refine⟨_,rfl,r,dx,_,rfl,hR,aG _ _ 0e0 0e0,_,rfl,r,x,p,a,ts[0],_,rfl,⟨dx,hR⟩,h0,aM _ (getElem_mem t0),ha,n0.1,n0.2,hx,λy H1 ny hN eL k1=>⟨(by show 1≤sizeLine;decide),λL hL=>?_⟩⟩;obtain⟨oM,eL⟩:=eL;have Aa:H L=none:=aS k1 eL hL;have Ab:L≠r:=λz=>by rw[z,eL] at hL;cases hL
  refine⟨λm σ H'=>∃i:Nat,m+i=ts.length∧σ=[some (.ref r),some (.int a),some (.ref L)]∧de R H' r x (p+((ts.take i).flatMap (bW d)).length)∧Kept r H H'∧∃ps,H' L=some (.lst (ps.map V.ref))∧ps.length=i∧Paired (NewL C G L d H H') ps (ts.take i),⟨ts.length - 1,1,by omega,rfl,?_,?_,[y],aa,rfl,?_⟩,?_⟩
  ·refine⟨oM,?_⟩;rw[ah (Ne.symm Ab),eL];have:=vQ (d:=d) t0;rw[this];rfl
  ·exact k1.trans (Kept.of (au.new hL))
  ·rw[show ts.take 1=[ts[0]] by
    have:=@take_add_one _ ts 0
    rw[this,getElem?_eq_getElem t0];rfl]
   refine .cons (λb8 ke=>hN b8 λb o z1 z2=>?_) .nil;have DH:b≠L:=af z2 hL;exact ke b o z1 DH (by rw[ah DH];exact z2)
  rintro m σ H' ⟨i,hm,rfl,⟨dm,eB⟩,kk,ps,vS,gX,hP⟩
  have hpi:p+((ts.take i).flatMap (bW d)).length≤x.length:=by
   have:((ts.take i).flatMap (bW d)).length≤(ts.flatMap (bW d)).length:=by
    conv=>rhs;rw[←take_append_drop i ts,flatMap_append,length_append]
    omega
   omega
  refine⟨_,rfl,r,dm,_,rfl,eB,aG _ _ 0e0 0e0,r,x,_,rfl,⟨dm,eB⟩,hpi,hx,_,rfl,nJ _ _,_,rfl,?_⟩;by_cases hi:i<ts.length
  ·have h2:=BZ hh hi;have U':=aM _ (getElem_mem hi);obtain⟨c,rest,hc,ht⟩:=pF U';have PV:eU x (p+((ts.take i).flatMap (bW d)).length)=⟨#[c]⟩:=Here.sg (t:=rest) (hc▸h2);have nn:=sS (Rz (i+1)) eC;have MP:ps.length<sizeLine:=by omega
   rcases ht with ⟨hg,_⟩ | ⟨WL,_⟩
   case' inl=>
    have ev:inR 65 90 (eU x (p+((ts.take i).flatMap (bW d)).length))=true:=by
     rw[PV,nK];exact hg
    rw[ev];refine gK (gK ?_)
   case' inr=>
    have ev:inR 65 90 (eU x (p+((ts.take i).flatMap (bW d)).length))=false:=by
     rw[PV,nK,WL];rfl
    rw[ev];refine d7 ⟨_,rfl,r,dm,_,rfl,eB,aG _ _ 0e0 0e0,r,x,_,rfl,⟨dm,eB⟩,hpi,hx,rfl,_,rfl,xn (by rw[PV,Sb,WL]) ?_⟩
   all_goals
    refine⟨_,fun σ' b8 h=>⟨m - 1,by omega,h⟩,?_⟩;refine⟨_,rfl, .inl ⟨rfl,_,bM.of vS⟩,_,rfl,r,dm,_,rfl,eB,aG _ _ 0e0 0e0,_,rfl,r,x,_,a,ts[i],_,rfl,⟨dm,eB⟩,h2,U',ha,nn.1,nn.2,hx,λy H2 ny hN iJ k2=>?_⟩;obtain⟨lN,iJ⟩:=iJ;have qa:=k2 _ _ vS Ab;refine⟨L,_,_,rfl,rfl,qa,by rw[length_map];exact MP,i+1,by omega,rfl,⟨lN,?_⟩,λb o z w=>?_,ps++[y],by rw[aa,map_append];rfl,by rw[length_append,gX];rfl,?_⟩
    ·rw[ah (Ne.symm Ab),iJ,vQ hi,length_append,Nat.add_assoc]
    ·rw[ah (af z Aa)];exact k2 _ _ (kk _ _ z w) w
    ·rw[take_add_one,getElem?_eq_getElem hi];refine bT (λb8 ke=>hN b8 λb o z1 z2=>?_) (aJ (λc t h b8 ke=>h b8 λb o z1 z2 z3=>ke b o z1 z2 ?_) hP)
     ·have DH:b≠L:=λz=>by rw[z,vS] at z1;cases z1
      exact ke b o (aS kk eB z1) DH (by rw[ah DH];exact z2)
     ·have Bc:b≠r:=λz=>by rw[z,hR] at z1;cases z1
      rw[ah z2];exact k2 _ _ z3 Bc
  ·have ei:i=ts.length:=by omega
   rw[ei,take_length] at eB hP hpi ⊢;have h3:Here x (p+(ts.flatMap (bW d)).length) [] post:=Here.on (t:=ts.flatMap (bW d)) (u:=[]) (by rw[append_nil];exact hh)
   have ev:inR 65 90 (eU x (p+(ts.flatMap (bW d)).length))=false:=by
    rw[h3.R7];exact xV eC.2.2.1
   rw[ev]
   have ne:¬V.str (eU x (p+(ts.flatMap (bW d)).length))=V.str "(" :=by
    rw[h3.R7,Sb];intro z;have z:(⟨(post.take 1).toArray⟩:Str)=⟨#[40]⟩:=by injection z
    cases post with
    |nil=>have:=congrArg (λs:Str=>s.cps.toList) z;simp at this
    |cons c _=>
     have e:c=40:=by have:=congrArg (λs:Str=>s.cps.toList) z;simpa using this
     have:=eC.2.2.2 c rfl;simp [e] at this
   refine d7 ⟨_,rfl,r,dm,_,rfl,eB,aG _ _ 0e0 0e0,r,x,_,rfl,⟨dm,eB⟩,hpi,hx,rfl,_,rfl,rW ne ?_⟩;exact⟨_,rfl,q L H' ⟨Aa,ps,vS,λb8 ke=>aJ (λc t h=>h b8 λb o z1 _ z3=>ke b o z1 z3) hP⟩ ⟨dm,eB⟩ kk⟩
theorem sT(D1:aX K R "read_group" "Reader.read_group" jJ ["self","around"])(D2:aX K R "read_part" "Reader.read_part" pw ["self","around"])(D3:aX K R "read_parts" "Reader.read_parts" lG ["self","around"])(T:sP K mg C R G uK uN uB uE uM)
  (c1:aD P w K mg base 1 R "sign" 1e5 (jN R)) (c2:a5 P w K mg base 1 "is_great" ["sign"] (PR 65 90)) (c3:aD P w K mg base 4 R "read_atom" 1e5 (x3 C R)) (c4:aD P w K mg base 2 R "take" ["self","sign"] (mC R)) (c5:aD P w K mg base 3 R "read_count" 1e5 (jm R))
  (c6:gG P w K mg base 1 G ["self","parts","count"] [1] (nQ G)):∀d:Nat,aD P w K mg base (3*d+6) R "read_parts" ["self","around"] (nP C G R d)
 |0=>vR 0 D3 T c1 c2 (z8 0 D2 T c1 c3 (BX D1))
 |d+1=>vR (d+1) D3 T c1 c2 (z8 (d+1) D2 T c1 c3 (by rw[show 3*(d+1)+4=3*d+7 by omega];exact FZ d D1 T c4 c5 (sT D1 D2 D3 T c1 c2 c3 c4 c5 c6 d) c6))
noncomputable def g8(n:Int):List Nat:=if n=0 then [] else 94::(aK (if n<0 then -n else n)++[if 0<n then 43 else 45])
def Hk(post:List Nat):Prop:=post=[]∨∃r,post=32::r
def Hk.ne(h:Hk post){c:Nat}(hc:c≠32):¬V.str (⟨(post.take 1).toArray⟩:Str)=V.str (⟨#[c]⟩:Str):=by
 intro z;have z:(⟨(post.take 1).toArray⟩:Str)=⟨#[c]⟩:=by injection z
 have z:=congrArg (λs:Str=>s.cps.toList) z;rcases h with rfl| ⟨r,rfl⟩
 ·simp at z
 ·have e:32=c:=by simpa using z
  exact hc e.symm
def Hk.stop(h:Hk post):Stop post:=by
 rcases h with rfl| ⟨r,rfl⟩
 ·refine⟨?_,?_,?_,?_⟩<;>(intro c hc;cases hc)
 ·refine⟨?_,?_,?_,?_⟩<;>(intro c hc;have e:32=c:=by simpa using hc)<;>subst e<;>decide
inductive B0(R:3e5)(vs:4e5)(H:Hp)(Q:VK)(E:XK):Prop
 |mk (r:3e5) (x:Str) (p:Nat) (n:Int) (post:List Nat) (dH:vs=[.ref r]) (dI:de R H r x p) (dN:Here x p (g8 n) post) (eK:Hk post) (gj: -999≤n) (i6:n≤999) (mD:x.length≤1000) (qY:∀H',de R H' r x (p+(g8 n).length)→Kept r H H'→Q (.int n) H')
def vT(R:3e5):Sp:=B0 R
structure WM(K:0e9)(mg:1e3)(C R:3e5)(uK uN uC uP uI:Tok):Prop extends uQ K mg C R uK uN where
 i7:mg "CHARGE_MARK" =some (.str "^" uC)
 sU:mg "PLUS" =some (.str "+" uP)
 x6:mg "MINUS" =some (.str "-" uI)
def WN:("^" :Str)=⟨#[94]⟩:=by decide+kernel
def e43:("+" :Str)=⟨#[43]⟩:=by decide+kernel
def WO:("-" :Str)=⟨#[45]⟩:=by decide+kernel
def qZ{c b:Nat}(h:c≠b):¬V.str (⟨#[c]⟩:Str)=V.str (⟨#[b]⟩:Str):=by
 intro z;have z:(⟨#[c]⟩:Str)=⟨#[b]⟩:=by injection z
 exact h (by have:=congrArg (λs:Str=>s.cps.toList) z;simpa using this)
def vU:av ["self","count"] 1e5 (aj kH):=cX
def sV{uC uP uI:Tok}(D:aX K R "read_charge" "Reader.read_charge" kH 1e5)(T:WM K mg C R uK uN uC uP uI)(c1:aD P w K mg base 1 R "sign" 1e5 (jN R))(c2:aD P w K mg base 2 R "take" ["self","sign"] (mC R))(c3:aD P w K mg base 3 R "read_count" 1e5 (jm R)):
  aD P w K mg base 4 R "read_charge" 1e5 (vT R):=by
 obtain⟨_,_,aw⟩:=c1;obtain⟨_,_,bH⟩:=c2;obtain⟨_,_,aI⟩:=c3;refine D.cN vU 0e7 0e1
 ·obtain⟨r,x,p,n,post,rfl,_⟩:=h;rfl
 ·obtain⟨r,x,p,n,post,rfl,⟨dx,hR⟩,hh,L',n1,n2,hx,q⟩:=h
  refine⟨_,(ai (bC (aL me (aH 2e1 T.ax aw.m aw.ok 4e3 aw.b .nil a8) (aZ (v:= .str "^") rfl T.i7 2e4) (aO _)) (ao (aA aq))
      aN) (ai (a9 (pq bH hr T.ax 2e1 (ag (aZ (v:= .str "^") rfl T.i7 2e4) ak))) (ai (az (i:=1) vU.nd rfl 0e6 (aH 2e1 T.ax aI.m aI.ok 4e3 aI.b .nil a8)) (ai (bC (aL dk (aH 2e1 T.ax aw.m aw.ok 4e3 aw.b .nil a8) (aZ (v:= .str "-") rfl T.x6 2e4) (aO _)) (ai (a9 (pq bH hr T.ax 2e1 (ag (aZ (v:= .str "-") rfl T.x6 2e4) ak))) (ao (aA (kg gB (pv 1)))))
      aN) (ai (a9 (pq bH hr T.ax 2e1 (ag (aZ (v:= .str "+") rfl T.sU 2e4) ak))) (ao (aA (pv 1)))))))),?_⟩
  refine⟨_,rfl,r,dx,_,rfl,hR,aG _ _ 0e0 0e0,r,x,p,rfl,⟨dx,hR⟩,hh.1,hx,rfl,_,rfl,?_⟩;by_cases h0:n=0
  ·subst h0;have hh:Here x p [] post:=hh
   have ne:¬V.str (eU x p)=V.str "^" :=by
    rw[hh.R7,WN];exact L'.ne 0e4
   rw[decide_eq_false ne];exact gK (q H ⟨dx,hR⟩ (Kept.refl r H))
  ·have ec:g8 n=94::(aK (if n<0 then -n else n)++[if 0<n then 43 else 45]):=by unfold g8;rw[if_neg h0]
   rw[ec] at hh q;have a1:1≤(if n<0 then -n else n):=by split<;>omega
   have a2:(if n<0 then -n else n)≤999:=by split<;>omega
   have eq:V.str (eU x p)=V.str "^" :=by rw[hh.sg,WN]
   rw[decide_eq_true eq];refine d7 ?_;have BW:Here x (p+1) (aK (if n<0 then -n else n)++[if 0<n then 43 else 45]) post:=Here.on (t:=[94]) hh;have Se:Here x (p+1) (aK (if n<0 then -n else n)) ((if 0<n then 43 else 45)::post):=⟨BW.1,by rw[BW.2,append_assoc];rfl⟩;have Hj:Here x (p+1+(aK (if n<0 then -n else n)).length) [if 0<n then 43 else 45] post:=Here.on BW;refine⟨_,rfl,r,dx,_,rfl,hR,aG _ _ 0e0 0e0,r,x,p,_,94,_,post,rfl,WN,⟨dx,hR⟩,hh,hx,λH1 eL k1=>?_⟩;obtain⟨oM,eL⟩:=eL
   have nf:Not kL ((if 0<n then 43 else 45)::post):=by
    intro c hc;have e:(if 0<n then 43 else 45)=c:=by simpa using hc
    rw[←e];split<;>rfl
   refine⟨_,rfl,r,oM,_,rfl,eL,aG _ _ 0e0 0e0,r,x,p+1,_,_,rfl,⟨oM,eL⟩,Se,a1,a2,nf,hx,λH2 iJ k2=>?_⟩;obtain⟨lN,iJ⟩:=iJ;have kk:=k1.trans k2;refine⟨_,rfl,r,lN,_,rfl,iJ,aG _ _ 0e0 0e0,r,x,_,rfl,⟨lN,iJ⟩,Hj.1,hx,rfl,_,rfl,?_⟩
   have el:p+1+(aK (if n<0 then -n else n)).length+1=p+(94::(aK (if n<0 then -n else n)++[if 0<n then 43 else 45])).length:=by
    rw[length_cons,length_append];simp;omega
   by_cases hp:0<n
   ·rw[if_pos hp] at Hj
    have ne:¬V.str (eU x (p+1+(aK (if n<0 then -n else n)).length))=V.str "-" :=by
     rw[Hj.sg,WO];exact qZ 0e4
    refine rW ne ?_;refine⟨_,rfl,r,lN,_,rfl,iJ,aG _ _ 0e0 0e0,r,x,_,_,43,_,post,rfl,e43,⟨lN,iJ⟩,Hj,hx,λH3 iK k3=>?_⟩;rw[el] at iK;have:=q H3 iK (kk.trans k3);refine⟨_,rfl,?_⟩;rw[if_neg 0e5];exact this
   ·rw[if_neg hp] at Hj;refine xn (by rw[Hj.sg,WO]) ?_;refine⟨_,rfl,r,lN,_,rfl,iJ,aG _ _ 0e0 0e0,r,x,_,_,45,_,post,rfl,WO,⟨lN,iJ⟩,Hj,hx,λH3 iK k3=>?_⟩;rw[el] at iK;have:=q H3 iK (kk.trans k3);have e2: -(if n<0 then -n else n)=n:=by rw[if_pos 0e5,Int.neg_neg]
    rw[show V.int n=V.int (-(if n<0 then -n else n)) from by rw[e2]] at this;exact⟨_,rfl,_,rfl,this⟩
def npch:¬(("pieces" :Str)="charge"):=by decide+kernel
noncomputable def qb(l:3e5)(n:Int):List (Str×V):=cx "charge" (.int n) (cx "pieces" (.ref l) [])
def jP(l:3e5)(n:Int):(qb l n).lookup ("pieces" :Str)=some (.ref l):=by
 unfold qb;rw[aF,if_neg npch,aF,if_pos rfl]
def jQ(l:3e5)(n:Int):(qb l n).lookup ("charge" :Str)=some (.int n):=by
 unfold qb;rw[aF,if_pos rfl]
def kQ(l:3e5)(n:Int){m:Str}(h1:¬m="charge")(h2:¬m="pieces"):(qb l n).lookup m=none:=by
 unfold qb;rw[aF,if_neg h1,aF,if_neg h2]
 all_goals rfl
inductive Ji(X:3e5)(vs:4e5)(H:Hp)(Q:VK)(E:XK):Prop
 |mk (p dx l:3e5) (c:Int) (xs:4e5) (dH:vs=[.ref p, .ref l, .int c]) (dI:H p=some (.ins X dx [])) (dN:H l=some (.lst xs)) (eK:∀n H',H n=none→H' p=some (.ins X dx (qb n c))→H' n=some (.lst xs)→(∀b o,H b=some o→b≠p→H' b=some o)→Q .cw H')
def x8(X:3e5):Sp:=Ji X
abbrev iM:=Int×List Tr
def jR(C G Pc:3e5)(d:Nat)(H:Hp)(p:3e5)(x:iM):Prop:=∃dx l ps,H p=some (.ins Pc dx (nF l x.1))∧H l=some (.lst (ps.map V.ref))∧Paired (eW C G d H) ps x.2
def nR(C G Pc Fo:3e5)(d:Nat)(H:Hp)(f:3e5)(xs:List iM)(n:Int):Prop:=∃dx l ps,H f=some (.ins Fo dx (qb l n))∧H l=some (.lst (ps.map V.ref))∧Paired (jR C G Pc d H) ps xs
def WQ(C G Pc L:3e5)(d:Nat)(H H':Hp)(p:3e5)(x:iM):Prop:=∀b8,(∀b o,H b=none→b≠L→H' b=some o→b8 b=some o)→jR C G Pc d b8 p x
def Sf(C G Pc Fo:3e5)(d:Nat)(H H':Hp)(f:3e5)(xs:List iM)(n:Int):Prop:=∀b8,(∀b o,H b=none→H' b=some o→b8 b=some o)→nR C G Pc Fo d b8 f xs n
noncomputable def l8(d:Nat)(x:iM):List Nat:=aK x.1++x.2.flatMap (bW d)
noncomputable def cn(d:Nat)(xs:List iM):List Nat:=xs.flatMap λx=>46::l8 d x
noncomputable def wL(d:Nat):List iM→Int→List Nat
 | [],_=>[101,94,45]
 |x::r,n=>x.2.flatMap (bW d)++(cn d r++g8 n)
def Fz(d:Nat)(x:iM):Prop:=x.2≠[]∧(∀t∈x.2,oK d t)∧1≤x.1∧x.1≤999
def Jj(d:Nat):List iM→Int→Prop
 | [],n=>n= -1
 |x::r,n=>x.1=1∧(∀y∈x::r,Fz d y)∧ -999≤n∧n≤999
inductive x9(C G Pc Fo R:3e5)(d:Nat)(vs:4e5)(H:Hp)(Q:VK)(E:XK):Prop
 |mk (r:3e5) (x:Str) (p:Nat) (post:List Nat) (dH:vs=[.ref r]) (dI:de R H r x p) (dN:Here x p [101,94,45] post) (eK:x.length≤1000) (gj:∀f H',H f=none→Sf C G Pc Fo d H H' f [] (-1)→de R H' r x (p+3)→Kept r H H'→Q (.ref f) H')
def qc(C G Pc Fo R:3e5)(d:Nat):Sp:=x9 C G Pc Fo R d
inductive F2(C G Pc Fo R:3e5)(d:Nat)(vs:4e5)(H:Hp)(Q:VK)(E:XK):Prop
 |mk (r:3e5) (x:Str) (p:Nat) (xs:List iM) (n:Int) (post:List Nat) (dH:vs=[.ref r]) (dI:de R H r x p) (dN:Here x p (wL d xs n) post) (eK:Hk post) (gj:Jj d xs n) (i6:d≤4) (mD:x.length≤1000) (qY:∀f H',H f=none→Sf C G Pc Fo d H H' f xs n→de R H' r x (p+(wL d xs n).length)→Kept r H H'→Q (.ref f) H')
def sW(C G Pc Fo R:3e5)(d:Nat):Sp:=F2 C G Pc Fo R d
structure kR(K:0e9)(mg:1e3)(C R G Pc Fo:3e5)(uK uN uB uE uM uC uP uI uD uL uT:Tok):Prop extends sP K mg C R G uK uN uB uE uM,WM K mg C R uK uN uC uP uI where
 dh:uz K Pc
 br:uz K Fo
 pG:cy K Pc "parts"
 pH:cy K Pc "count"
 jS:cy K Fo "pieces"
 jT:cy K Fo "charge"
 DI:mg "Piece" =some (.ref Pc)
 vV:mg "Formula" =some (.ref Fo)
 kS:mg "PIECE_DOT" =some (.str "." uD)
 mF:mg "ELECTRON" =some (.str "e^-" uL)
 sX:mg "LONGEST_TEXT" =some (.int 400 uT)
 n_list:mg "list" =none
 Jk:mg "abs" =none
def eE:("e^-" :Str)=⟨#[101,94,45]⟩:=by decide+kernel
def Ac(h:x.cps.toList=l):Here x 0 l []:=⟨zero_le _,by rw[drop_zero,h,append_nil]⟩
def Ad:av 1e5 1e5 (aj ik):=cX
variable {uC uP uI uD uL uT:Tok}
def nS(d:Nat)(D:aX K R "read_electron" "Reader.read_electron" ik 1e5)(T:2e6)(c1:aD P w K mg base 3 R "take_all" ["self","signs"] (lM R))(c2:gG P w K mg base 1 Fo ["self","pieces","charge"] [0] (x8 Fo)):
  aD P w K mg base 4 R "read_electron" 1e5 (qc C G Pc Fo R d):=by
 obtain⟨_,_,cp⟩:=c1;obtain⟨_,_,br⟩:=c2;obtain⟨_,kT,kU⟩:=br.b 1 0e4;refine D.cN Ad 0e7 0e1
 ·obtain⟨r,x,p,post,rfl,_⟩:=h;rfl
 ·obtain⟨r,x,p,post,rfl,⟨dx,hR⟩,uR,hx,q⟩:=h;refine⟨_,(ai (a9 (pq cp hr T.ax 2e1 (ag (aZ (v:= .str "e^-") rfl T.mF 2e4) ak))) (ao (aA (gb br.m br.ok 4e3 rfl T.vV kU kT a8 (ag (b7 ak) (ag (kg gB aq) ak)))))),?_⟩;have ee:("e^-" :Str).cps.toList=[101,94,45]:=by decide+kernel
  have ea:("e^-" :Str).cps.all (· <128)=true:=by decide+kernel
  have el:("e^-" :Str).length=3:=by decide+kernel
  refine⟨_,rfl,r,dx,_,rfl,hR,aG _ _ 0e0 0e0,r,x,p,_,post,rfl,ea,⟨dx,hR⟩,by rw[ee];exact uR,hx,λH1 eL k1=>?_⟩;obtain⟨oM,eL⟩:=eL;refine⟨(by show 0≤sizeLine;decide),λl hl=>⟨1,rfl,λg dg ng BY neg=>⟨g,dg,l, -1,[],rfl,aa,?_,λm H5 hm hg U9 kp=>⟨rfl,?_⟩⟩⟩⟩
  ·rw[ah (af aa ng),ah (af aa BY)];exact aa
  have sl:au H1 (upd H1 l (.lst [])):=au.new hl;have s5:au (upd H1 l (.lst [])) H5:=λb o z=>kp b o (by rw[ah (af z ng),ah (af z BY)];exact z) (af z ng);have kf:Kept r H (upd H1 l (.lst [])):=k1.trans (Kept.of sl);have hRl:=sl _ _ eL;refine q g H5 (aS kf hRl ng) (λb8 ke=>⟨dg,m,[],ke _ _ (aS kf hRl ng) hg,ke _ _ (aS kf hRl (f7 hm)) U9, .nil⟩) ⟨oM,?_⟩ (kf.trans (Kept.of s5));rw[s5 _ _ hRl,el]
variable {uC uP uI uD uL uT:Tok}
def ya{α:Type}(f:α→List Nat){p:Nat}{ts:List α}{i:Nat}(h:Here x p (ts.flatMap f) post)(hi:i<ts.length):Here x (p+((ts.take i).flatMap f).length) (f ts[i]) ((ts.drop (i+1)).flatMap f++post):=by
 have e:ts.flatMap f=(ts.take i).flatMap f++(f ts[i]++(ts.drop (i+1)).flatMap f):=by
  conv=>lhs;rw[list_at hi]
  rw[flatMap_append,flatMap_cons]
 have h1:=Here.on (t:=(ts.take i).flatMap f) (e▸h);exact⟨h1.1,by rw[h1.2,append_assoc]⟩
def yb{α:Type}(f:α→List Nat){ts:List α}{i:Nat}(hi:i<ts.length):(ts.take (i+1)).flatMap f=(ts.take i).flatMap f++f ts[i]:=by
 rw[take_add_one,getElem?_eq_getElem hi];show (ts.take i++[ts[i]]).flatMap f=_;rw[flatMap_append,flatMap_cons,flatMap_nil,append_nil]
def DJ(n:Int):g8 n=[]∨∃r,g8 n=94::r:=by
 unfold g8;split
 ·exact .inl rfl
 ·exact .inr 2e4
def vW{c:Nat}(h:c=46∨c=94):Stop (c::l):=by
 refine⟨?_,?_,?_,?_⟩<;>(intro b hb;have e:c=b:=by simpa using hb)<;>subst e<;>rcases h with rfl|rfl<;>decide
def vX(d:Nat)(xs:List iM)(n:Int)(L':Hk post):Stop (cn d xs++(g8 n++post)):=by
 cases xs with
 |nil=>
  show Stop (g8 n++post);rcases DJ n with e| ⟨r,e⟩
  ·rw[e];exact L'.stop
  ·rw[e];exact vW (.inr rfl)
 |cons x r=>exact vW (.inl rfl)
theorem yc(d:Nat):∀xs:List iM,xs.length≤(cn d xs).length
 | []=>le_refl _
 |y::r=>by
  have ih:=yc d r;show r.length+1≤(46::l8 d y++cn d r).length;rw[length_append,length_cons];omega
def e46:("." :Str)=⟨#[46]⟩:=by decide+kernel
def tf:av ["self","pieces","count"] 1e5 (aj nh):=cX
def vY(d:Nat)(D:aX K R "read_whole" "Reader.read_whole" nh 1e5)(T:2e6)(c1:aD P w K mg base 1 R "sign" 1e5 (jN R))(c2:aD P w K mg base 2 R "take" ["self","sign"] (mC R))(c3:aD P w K mg base 3 R "read_count" 1e5 (jm R))(c4:aD P w K mg base (3*d+6) R "read_parts" ["self","around"] (nP C G R d))
  (c5:aD P w K mg base 4 R "read_charge" 1e5 (vT R)) (c6:aD P w K mg base 4 R "read_electron" 1e5 (qc C G Pc Fo R d)) (c7:gG P w K mg base 1 Pc ["self","parts","count"] [1] (nQ Pc)) (c8:gG P w K mg base 1 Fo ["self","pieces","charge"] [0] (x8 Fo)):
  aD P w K mg base (3*d+7) R "read_whole" 1e5 (sW C G Pc Fo R d):=by
 obtain⟨_,_,aw⟩:=c1;obtain⟨_,_,bH⟩:=c2;obtain⟨_,_,aI⟩:=c3;obtain⟨_,_,cO⟩:=c4;obtain⟨_,_,dR⟩:=c5;obtain⟨_,_,di⟩:=c6;obtain⟨_,_,dh⟩:=c7;obtain⟨_,_,br⟩:=c8;obtain⟨_,F3,F4⟩:=dh.b 0 0e4;obtain⟨_,F5,F6⟩:=dh.b 1 0e4;obtain⟨_,kT,kU⟩:=br.b 1 0e4;refine D.cN tf 0e7 0e1
 ·obtain⟨r,x,p,xs,n,post,rfl,_⟩:=h;rfl
 ·obtain⟨r,x,p,xs,n,post,rfl,⟨dx,hR⟩,uR,L',aM,Nu,hx,q⟩:=h;have big:=bgL
  refine⟨_,(ai (bC (aL dk (aH 2e1 T.ax aw.m aw.ok (hr.mono 0e5) aw.b .nil a8) (bQ xf (aZ (v:= .str "e^-") rfl T.mF 2e4) aq 2e7) (aO _)) (ao (aA (aH 2e1 T.ax di.m di.ok (hr.mono 0e5) di.b .nil a8)))
      aN) (ai (az (i:=1) tf.nd rfl 0e6 (b7 (ag (gb dh.m dh.ok (hr.mono 0e5) rfl T.DI F4 F3 a8 (ag (pq cO hr T.ax 2e1 (ag aq ak)) ak)) ak))) (ai (je PassesOwn.never (aL dk (aH 2e1 T.ax aw.m aw.ok (hr.mono 0e5) aw.b .nil a8) (aZ (v:= .str ".") rfl T.kS 2e4) (aO _)) (ai (a9 (pq bH hr T.ax 2e1 (ag (aZ (v:= .str ".") rfl T.kS 2e4) ak))) (ai (az (i:=2) tf.nd rfl 0e6 (aH 2e1 T.ax aI.m aI.ok (hr.mono 0e5) aI.b .nil a8)) (ao (a9 (jg PySem.F.plainAttrs_list PySem.F.slot_list_append PySem.F.type_list_append dB (pv 1) (ag (gb dh.m dh.ok (hr.mono 0e5) rfl T.DI F6 F5 a8 (ag (pq cO hr T.ax 2e1 (ag aq ak)) (ag (pv 2) ak))) ak))))))) (ao (aA (gb br.m br.ok (hr.mono 0e5) rfl T.vV kU kT a8 (ag (pv 1) (ag (aH 2e1 T.ax dR.m dR.ok (hr.mono 0e5) dR.b .nil a8) ak)))))))),?_⟩
  refine⟨_,rfl,r,dx,_,rfl,hR,aG _ _ 0e0 0e0,r,x,p,rfl,⟨dx,hR⟩,uR.1,hx,"e^-",0,101,rfl,rfl,0e0,0e0,rfl,_,rfl,?_⟩
  cases xs with
  |nil=>
   have hn:n= -1:=aM;subst hn;have uR:Here x p [101,94,45] post:=uR;refine xn (by rw[uR.sg]) ?_;exact⟨_,rfl,r,dx,_,rfl,hR,aG _ _ 0e0 0e0,r,x,p,post,rfl,⟨dx,hR⟩,uR,hx,q⟩
  |cons x0 r0=>
   obtain⟨h01,F7,n1,n2⟩:=aM;have Sg:=F7 x0 1e6;have hw:Here x p (x0.2.flatMap (bW d)++(cn d r0++g8 n)) post:=uR;have Jh:Here x p (x0.2.flatMap (bW d)) (cn d r0++(g8 n++post)):=⟨hw.1,by rw[hw.2,append_assoc,append_assoc]⟩;have hb:Here x (p+(x0.2.flatMap (bW d)).length) (cn d r0++g8 n) post:=Here.on hw;have Hh:Here x (p+(x0.2.flatMap (bW d)).length) (cn d r0) (g8 n++post):=⟨hb.1,by rw[hb.2,append_assoc]⟩
   have ne:¬V.str (eU x p)=V.str (⟨#[101]⟩:Str):=by
    have t0:0<x0.2.length:=length_pos_iff.mpr Sg.1;obtain⟨c,rest,hc,ht⟩:=pF (Sg.2.1 _ (getElem_mem t0));have h2:=BZ Jh t0;have PV:eU x p=⟨#[c]⟩:=Here.sg (t:=rest) (hc▸h2);rw[PV];refine qZ ?_;rcases ht with ⟨hg,_⟩ | ⟨rfl,_⟩
    ·intro z;subst z;simp [DB] at hg
    ·decide
   refine rW ne ?_;refine⟨_,rfl,r,dx,_,rfl,hR,aG _ _ 0e0 0e0,r,x,p,0,x0.2,_,rfl,⟨dx,hR⟩,Jh,Sg.1,Sg.2.1,by omega,vX d r0 n L',hx,λl H1 hN eL k1=>?_⟩;obtain⟨oM,eL⟩:=eL;obtain⟨hl0,ps0,uq,hps0⟩:=hN;refine λg dg ng BY neg=>⟨g,dg,l,1,ps0.map V.ref,rfl,aa,?_,λm H2 hm hg U9 kp=>⟨rfl,(by show 1≤sizeLine;decide),λL hL=>?_⟩⟩
   ·rw[ah (af uq ng),ah (af uq BY)];exact uq
   have s2:au H1 H2:=λb o z=>kp b o (by rw[ah (af z ng),ah (af z BY)];exact z) (af z ng);have iJ:=s2 _ _ eL;have k2:Kept r H H2:=k1.trans (Kept.of s2);have Aa:H L=none:=aS k2 iJ hL;have Ab:L≠r:=λz=>by rw[z,iJ] at hL;cases hL
   have sL:au H2 (upd H2 L (.lst [V.ref g])):=au.new hL;have ng0:=aS k1 eL ng;have nm0:=aS k1 eL (f7 hm)
   have first:WQ C G Pc L d H (upd H2 L (.lst [V.ref g])) g x0:=λb8 ke=>by
    refine⟨dg,m,ps0,?_,ke _ _ nm0 (af U9 hL) (sL _ _ U9),hps0 b8 λb o z1 z2=>ke b o z1 (af (s2 _ _ z2) hL) (sL _ _ (s2 _ _ z2))⟩;rw[h01];exact ke _ _ ng0 (af hg hL) (sL _ _ hg)
   refine⟨λk σ H'=>∃i:Nat,k+i=r0.length∧(∃v:Option V,σ=[some (.ref r),some (.ref L),v])∧de R H' r x (p+(x0.2.flatMap (bW d)).length+(cn d (r0.take i)).length)∧Kept r H H'∧∃ps,H' L=some (.lst (ps.map V.ref))∧ps.length=i+1∧Paired (WQ C G Pc L d H H') ps (x0::r0.take i),⟨r0.length,0,by omega,⟨none,rfl⟩,?_,k2.trans (Kept.of sL),[g],aa,rfl, .cons first .nil⟩,?_⟩
   ·exact⟨oM,sL _ _ iJ⟩
   rintro k σ H' ⟨i,hk,⟨v,rfl⟩,⟨dm,eB⟩,kk,ps,vS,gX,hP⟩;have hle:=Hh.le
   have zA:(cn d (r0.take i)).length≤(cn d r0).length:=by
    unfold cn
    conv=>rhs;rw[←take_append_drop i r0,flatMap_append,length_append]
    omega
   have Va:=yc d r0;refine⟨_,rfl,r,dm,_,rfl,eB,aG _ _ 0e0 0e0,r,x,_,rfl,⟨dm,eB⟩,by omega,hx,rfl,_,rfl,?_⟩;by_cases hi:i<r0.length
   ·have h2:Here x (p+(x0.2.flatMap (bW d)).length+(cn d (r0.take i)).length) (46::(aK r0[i].1++r0[i].2.flatMap (bW d))) (cn d (r0.drop (i+1))++(g8 n++post)):=ya (λx=>46::l8 d x) Hh hi;have Nv:=F7 _ (mem_cons_of_mem _ (getElem_mem hi));have h3:Here x (p+(x0.2.flatMap (bW d)).length+(cn d (r0.take i)).length+1) (aK r0[i].1++r0[i].2.flatMap (bW d)) (cn d (r0.drop (i+1))++(g8 n++post)):=Here.on (t:=[46]) h2;have h4:Here x (p+(x0.2.flatMap (bW d)).length+(cn d (r0.take i)).length+1) (aK r0[i].1) (r0[i].2.flatMap (bW d)++(cn d (r0.drop (i+1))++(g8 n++post))):=⟨h3.1,by rw[h3.2,append_assoc]⟩;have h5:Here x (p+(x0.2.flatMap (bW d)).length+(cn d (r0.take i)).length+1+(aK r0[i].1).length) (r0[i].2.flatMap (bW d)) (cn d (r0.drop (i+1))++(g8 n++post)):=Here.on h3;have st:=vX d (r0.drop (i+1)) n L';have nn:=sS Nv.2.1 st;refine xn (by rw[h2.sg,e46]) ?_;refine⟨_,fun σ' b8 h=>⟨k - 1,by omega,h⟩,?_⟩;refine⟨_,rfl,r,dm,_,rfl,eB,aG _ _ 0e0 0e0,r,x,_,_,46,_,_,rfl,e46,⟨dm,eB⟩,h2,hx,λH3 iK k3=>?_⟩;obtain⟨x5,iK⟩:=iK;refine⟨_,rfl,r,x5,_,rfl,iK,aG _ _ 0e0 0e0,r,x,_,r0[i].1,_,rfl,⟨x5,iK⟩,h4,Nv.2.2.1,Nv.2.2.2,nn.1,hx,λH4 vP k4=>?_⟩;obtain⟨L9,vP⟩:=vP;have Nw:=k3.trans k4;have DK:=Nw _ _ vS Ab;refine⟨_,rfl, .inl ⟨rfl,_,bM.of DK⟩,_,rfl,r,L9,_,rfl,vP,aG _ _ 0e0 0e0,r,x,_,0,r0[i].2,_,rfl,⟨L9,vP⟩,h5,Nv.1,Nv.2.1,by omega,st,hx,λl' H5 hN' Jl k5=>?_⟩;obtain⟨dx5,Jl⟩:=Jl;obtain⟨hl0',Vb,Si,hps'⟩:=hN';refine⟨_,rfl,λg' WR Hl Jm neg'=>⟨g',WR,l',r0[i].1,Vb.map V.ref,rfl,aa,?_,λm' H6 hm' DL Sj kp'=>⟨rfl,?_⟩⟩⟩
    ·rw[ah (af Si Hl),ah (af Si Jm)];exact Si
    have s6:au H5 H6:=λb o z=>kp' b o (by rw[ah (af z Hl),ah (af z Jm)];exact z) (af z Hl);have k36:Kept r H' H6:=(Nw.trans k5).trans (Kept.of s6);have uU:=k5 _ _ DK Ab;have Nx:=s6 _ _ uU;have k45:Kept r H H4:=kk.trans Nw;have k55:Kept r H H5:=k45.trans k5;refine⟨L,_,_,rfl,rfl,Nx,by rw[length_map];omega,i+1,by omega,2e4,⟨dx5,?_⟩,λb o z w=>?_,ps++[g'],by rw[aa,map_append];rfl,by rw[length_append,gX];rfl,?_⟩
    ·rw[ah (Ne.symm Ab),s6 _ _ Jl];have e:=yb (λx=>46::l8 d x) hi
     have e':(cn d (r0.take (i+1))).length=(cn d (r0.take i)).length+((aK r0[i].1).length+(r0[i].2.flatMap (bW d)).length+1):=by
      unfold cn;rw[e,length_append,length_cons];unfold l8;rw[length_append]
     rw[e'];congr 3;omega
    ·rw[ah (af z Aa)];exact k36 _ _ (kk _ _ z w) w
    ·rw[take_add_one,getElem?_eq_getElem hi];refine bT (as:=ps) (bs:=x0::r0.take i) (λb8 ke=>?_) (aJ (λc t h b8 ke=>h b8 λb o z1 z2 z3=>ke b o z1 z2 ?_) hP)
     ·have u:∀{b o},H6 b=some o→b≠L→(upd H6 L (.lst (ps.map V.ref++[V.ref g']))) b=some o:=fun {b o} z w=>by rw[ah w];exact z
      have ngL:g'≠L:=λz=>by rw[z,uU] at Hl;cases Hl
      have nm5:=f7 hm';have nmL:m'≠L:=λz=>by rw[z,uU] at nm5;cases nm5
      refine⟨WR,m',Vb,ke _ _ (aS k55 Jl Hl) ngL (u DL ngL),ke _ _ (aS k55 Jl nm5) nmL (u Sj nmL),hps' b8 λb o z1 z2=>?_⟩;have DH:b≠L:=λz=>by rw[z,DK] at z1;cases z1
      exact ke b o (aS k45 vP z1) DH (u (s6 _ _ z2) DH)
     ·have Bc:b≠r:=λz=>by rw[z,hR] at z1;cases z1
      rw[ah z2];exact k36 _ _ z3 Bc
   ·have ei:i=r0.length:=by omega
    rw[ei,take_length] at eB hP ⊢;have h3:Here x (p+(x0.2.flatMap (bW d)).length+(cn d r0).length) (g8 n) post:=Here.on hb
    have ne2:¬V.str (eU x (p+(x0.2.flatMap (bW d)).length+(cn d r0).length))=V.str "." :=by
     rw[e46];rcases DJ n with e| ⟨rr,e⟩
     ·rw[e] at h3;rw[h3.R7];exact L'.ne 0e4
     ·rw[e] at h3;rw[h3.sg];exact qZ 0e4
    refine rW ne2 ?_;refine⟨_,rfl,_,rfl,r,dm,_,rfl,eB,aG _ _ 0e0 0e0,r,x,_,n,post,rfl,⟨dm,eB⟩,h3,L',n1,n2,hx,λH3 iK k3=>?_⟩;obtain⟨x5,iK⟩:=iK;have nU:=k3 _ _ vS Ab;have k03:=kk.trans k3;refine λg' WR Hl Jm neg'=>⟨g',WR,L,n,ps.map V.ref,rfl,aa,?_,λm' H6 hm' DL Sj kp'=>⟨rfl,?_⟩⟩
    ·rw[ah (af nU Hl),ah (af nU Jm)];exact nU
    have s6:au H3 H6:=λb o z=>kp' b o (by rw[ah (af z Hl),ah (af z Jm)];exact z) (af z Hl);refine q g' H6 (aS k03 iK Hl) (λb8 ke=>?_) ⟨x5,?_⟩ (k03.trans (Kept.of s6))
    ·refine⟨WR,m',ps,ke _ _ (aS k03 iK Hl) DL,ke _ _ (aS k03 iK (f7 hm')) Sj,aJ (λc t h=>h b8 λb o z1 z2 z3=>ke b o z1 ?_) hP⟩;have Bc:b≠r:=λz=>by rw[z,hR] at z1;cases z1
     exact s6 _ _ (k3 _ _ z3 Bc)
    ·rw[s6 _ _ iK];rw[show wL d (x0::r0) n=x0.2.flatMap (bW d)++(cn d r0++g8 n) from rfl,length_append,length_append];congr 3;omega
variable {uC uP uI uD uL uT:Tok}
inductive B1(vs:4e5)(H:Hp)(Q:VK)(E:XK):Prop
 |mk (x:Str) (dH:vs=[.str x]) (dI:x.length≤400) (dN:Q .cw H)
def pI:Sp:=B1
inductive Jn(C G Pc Fo:3e5)(d:Nat)(vs:4e5)(H:Hp)(Q:VK)(E:XK):Prop
 |mk (x:Str) (xs:List iM) (n:Int) (dH:vs=[.str x]) (dI:x.cps.toList=wL d xs n) (dN:Jj d xs n) (eK:d≤4) (gj:x.length≤400) (i6:∀f H',H f=none→Sf C G Pc Fo d H H' f xs n→au H H'→Q (.ref f) H')
def yd(C G Pc Fo:3e5)(d:Nat):Sp:=Jn C G Pc Fo d
def F8:av ["text"] ["text"] (aj m6):=cX
def B2(D:Def K mg "refuse_too_long" "refuse_too_long" m6 ["text"])(T:2e6):a5 P w K mg base 1 "refuse_too_long" ["text"] pI:=by
 refine D.cN F8 0e7 0e1
 ·obtain⟨x,rfl,_⟩:=h;rfl
 ·obtain⟨x,rfl,hx,q⟩:=h
  refine⟨_,(ao (bC (aL mR (bS jC rfl T.nH jE (ag 2e1 ak)) (aZ (v:= .int 400) rfl T.sX 2e4) (aO _)) (ao
       gq)
      aN)),?_⟩
  exact⟨_,rfl,x,rfl,le_trans hx 0e4,_,_,rfl,rfl,_,rfl,rW 0e5 q⟩
structure WS(K:0e9)(mg:1e3)(C R G Pc Fo:3e5)(uK uN uB uE uM uC uP uI uD uL uT:Tok):Prop extends kR K mg C R G Pc Fo uK uN uB uE uM uC uP uI uD uL uT where
 Jo:mg "Reader" =some (.ref R)
def mH:av ["text","reader","formula"] ["text"] (aj lH):=cX
def Ae(d:Nat)(D:Def K mg "read_formula" "read_formula" lH ["text"])(T:WS K mg C R G Pc Fo uK uN uB uE uM uC uP uI uD uL uT)(c1:a5 P w K mg base 1 "refuse_too_long" ["text"] pI)(c2:gG P w K mg base 1 R ["self","text"] [] (xZ R))(c3:aD P w K mg base (3*d+7) R "read_whole" 1e5 (sW C G Pc Fo R d))(c4:aD P w K mg base 1 R "take_end" 1e5 (vL R)):
  a5 P w K mg base (3*d+8) "read_formula" ["text"] (yd C G Pc Fo d):=by
 obtain⟨_,_,fK⟩:=c1;obtain⟨_,_,ax⟩:=c2;obtain⟨_,_,bL⟩:=c3;obtain⟨_,_,fM⟩:=c4;obtain⟨_,B3,B4⟩:=ax.b 0 0e4;refine D.cN mH 0e7 0e1
 ·obtain⟨x,xs,n,rfl,_⟩:=h;rfl
 ·obtain⟨x,xs,n,rfl,uR,aM,Nu,hx,q⟩:=h;refine⟨_,(ai (a9 (fz fK hr (ag 2e1 ak))) (ai (az (i:=1) mH.nd rfl 0e6 (gb ax.m ax.ok (hr.mono 0e5) rfl T.Jo B4 B3 a8 (ag 2e1 ak))) (ai (az (i:=2) mH.nd rfl 0e6 (aH (pv 1) T.ax bL.m bL.ok (hr.mono 0e5) bL.b .nil a8)) (ai (a9 (aH (pv 1) T.ax fM.m fM.ok (hr.mono 0e5) fM.b .nil a8)) (ao (aA (pv 2))))))),?_⟩;refine⟨_,rfl,x,rfl,hx,?_⟩;refine⟨_,rfl,λr dr nr ndr ner=>⟨r,dr,x,rfl,aa,λH1 eL k1=>⟨rfl,?_⟩⟩⟩;obtain⟨oM,eL⟩:=eL;have s1:au H H1:=λb o z=>k1 b o (by rw[ah (af z nr),ah (af z ndr)];exact z) (af z nr);refine⟨_,rfl,r,oM,_,rfl,eL,aG _ _ 0e0 0e0,r,x,0,xs,n,[],rfl,⟨oM,eL⟩,Ac uR, .inl rfl,aM,Nu,by omega,λf H2 nf hF iJ k2=>?_⟩;obtain⟨lN,iJ⟩:=iJ;have hxe:0+(wL d xs n).length=x.length:=by rw[←uR];simp [Str.length]
  rw[hxe] at iJ
  have back:∀b,H1 b=none→H b=none:=λb z=>by
   cases hh:H b with
   |none=>rfl
   |some o=>rw[s1 _ _ hh] at z;cases z
  refine⟨_,rfl,r,lN,_,rfl,iJ,aG _ _ 0e0 0e0,r,x,rfl,⟨lN,iJ⟩,by omega,?_⟩;exact⟨_,rfl,q f H2 (back f nf) (λb8 ke=>hF b8 λb o z1 z2=>ke b o (back b z1) z2) λb o z=>k2 b o (s1 _ _ z) (af z nr)⟩
def bA(a b:List Nat):(⟨a.toArray⟩:Str)++⟨b.toArray⟩=⟨(a++b).toArray⟩:=by
 show (⟨a.toArray++b.toArray⟩:Str)=_;simp
theorem DM(d:Nat):∀ts:List Tr,jn (ts.map λt=>(⟨(bW d t).toArray⟩:Str))=⟨(ts.flatMap (bW d)).toArray⟩
 | []=>rfl
 |t::ts=>by
  rw[map_cons,Nd,DM d ts,bA,flatMap_cons]
def a0(a:List Nat):(⟨a.toArray⟩:Str).length=a.length:=by simp [Str.length]
def cR(n:Int):dM n=⟨(aK n).toArray⟩:=by
 apply nI;simp [aK]
def ye{d:Nat}{ts:List Tr}{t:Tr}(h:t∈ts):(bW d t).length≤(ts.flatMap (bW d)).length:=by
 obtain⟨s,r,rfl⟩:=append_of_mem h;rw[flatMap_append,flatMap_cons,length_append,length_append];omega
def pJ(C G:3e5):Nat→Sp
 |0=>λ_ _ _ _=>False
 |d+1=>λvs H Q _=>∃(g:3e5) (ts:List Tr) (n:Int),vs=[.ref g]∧eW C G (d+1) H g (.gr ts n)∧oK (d+1) (.gr ts n)∧(bW (d+1) (.gr ts n)).length≤1000∧∀H',au H H'→Q (.str ⟨(bW (d+1) (.gr ts n)).toArray⟩) H'
inductive B5(C G:3e5)(d:Nat)(vs:4e5)(H:Hp)(Q:VK)(E:XK):Prop
 |mk (l:3e5) (ps:List Addr) (ts:List Tr) (dH:vs=[.ref l]) (dI:H l=some (.lst (ps.map V.ref))) (dN:Paired (eW C G d H) ps ts) (eK:(∀t∈ts,oK d t)) (gj:(ts.flatMap (bW d)).length≤1000) (i6:∀H',au H H'→Q (.str ⟨(ts.flatMap (bW d)).toArray⟩) H')
def lO(C G:3e5)(d:Nat):Sp:=B5 C G d
theorem eW.same:∀{d:Nat} {H H':Hp} {p:3e5} {t:Tr},eW C G d H p t→au H H'→eW C G d H' p t
 |0,H,H',p, .one k n,h,e=>gC.same h e
 |d+1,H,H',p, .one k n,h,e=>gC.same (C:=C) (k:=3e7) (n:=n) h e
 |0,_,_,_, .gr _ _,h,_=>h.elim
 |d+1,H,H',p, .gr ts n,⟨dx,l,ps,h1,h2,h3⟩,e=>⟨dx,l,ps,e _ _ h1,e _ _ h2,aJ (λa b h=>eW.same h e) h3⟩
theorem bG{α β:Type}{p:α→β→Prop}:∀{as:List α} {bs:List β} {i:Nat} {a:α},Paired p as bs→as[i]? =some a→∃b,bs[i]? =some b∧p a b
 |_,_,_,_, .nil,h=>by simp at h
 |_,_,0,_, .cons h _,e=>⟨_,rfl,by have e:=Option.some.inj e;rw[←e];exact h⟩
 |_,_,i+1,_, .cons _ t,e=>bG (i:=i) t e
def Jp:av ["parts"] ["parts"] (aj lE):=cX
def Ny(h:ki k):(3e7:Str).length≤3:=by
 obtain⟨c,r,rfl,_,_,hl⟩:=h;rw[a0,length_cons];omega
def tj(d:Nat)(D:Def K mg "parts_shown" "parts_shown" lE ["parts"])(T:sP K mg C R G uK uN uB uE uM)(c1:aD P w K mg base 2 C "shown" 1e5 (xS C))(c2:aD P w K mg base (2*d+2) G "shown" 1e5 (pJ C G d)):a5 P w K mg base (2*d+3) "parts_shown" ["parts"] (lO C G d):=by
 obtain⟨_,_,jU⟩:=c1;obtain⟨_,_,i8⟩:=c2;refine D.cN Jp 0e7 0e1
 ·obtain⟨l,ps,ts,rfl,_⟩:=h;rfl
 ·obtain⟨l,ps,ts,rfl,hl,hP,aM,hz,q⟩:=h;have big:(2000 :Nat) <sizeLine:=by decide
  have hfl:=sR aM;have lp:ps.length=ts.length:=Paired.length hP;refine⟨_,(ao (aA (jg PySem.F.plainAttrs_str PySem.F.slot_str_join PySem.F.type_str_join qD bh (ag (gg (sc:=(aj lE)) (NX:=["parts"]) (N:=["part"]) (fr:=[none]) 0e8 rfl rfl rfl (cE 2e1) (λ_ _ _ _=>(aB (i:=0) (show (["part"]:List Str).Nodup by decide+kernel) rfl 0e6 (Or.inr rfl))) (λ_ _ _ _=>gf) (λ_ _ _ _=>(HZ (aH 2e1 T.gD jU.m jU.ok (hr.mono 0e5) jU.b .nil a8) (aH 2e1 T.eR i8.m i8.ok (hr.mono 0e5) i8.b .nil a8)))) ak)))),?_⟩
  refine⟨rfl,_,rfl,l,rfl,⟨_,bM.of hl⟩,λD hD=>vA (K:=K) (a:=l) (D:=D) (xs:=ps.map V.ref) (λi σ H'=>∃v:Option V,σ=[v]∧au H H'∧H' D=some (.lst ((ts.take i).map λt=>V.str ⟨(bW d t).toArray⟩)))
   ?_ (λi σ H' _ ⟨_,_,e,_⟩=>bM.of (e _ _ hl)) ?_ ?_⟩
  ·exact⟨none,rfl,au.new hD,aa⟩
  ·rintro i v σ H' hi ⟨v',rfl,e,DN⟩ N hN;rw[getElem?_map] at hi;obtain⟨p,hp,rfl⟩:=gMp hi;obtain⟨t,ht,hT⟩:=bG hP hp;have hT:=hT.same e;have U':=aM t (mem_of_getElem? ht);have lt:=le_trans (ye (d:=d) (mem_of_getElem? ht)) hz
   have fin:∀b8,au H' b8→∃ys,b8 D=some (.lst ys)∧ys.length<sizeLine∧N [some (V.ref p)] (upd b8 D (.lst (ys++[V.str ⟨(bW d t).toArray⟩]))):=λb8 e'=>by
    refine⟨_,e' _ _ DN,?_,hN _ _ ⟨_,rfl,λb o z=>?_,?_⟩⟩
    ·rw[length_map];have:(ts.take i).length≤ts.length:=length_take_le' _ _;omega
    ·rw[ah (af z hD)];exact e' _ _ (e _ _ z)
    ·rw[aa,take_add_one,ht,map_append];rfl
   cases t with
   |one k n=>
    have PX:ki k∧1≤n∧n≤999:=by cases d<;>exact U'
    have hA:gC C H' p 3e7 n:=by cases d<;>exact hT
    have et:(⟨(bW d (.one k n)).toArray⟩:Str)=3e7++dM n:=by
     rw[cR,bA];cases d<;>rfl
    obtain⟨dx,ql⟩:=id hA;have:=fin H' (au.refl _);rw[et] at this;exact Or.inl ⟨_,rfl,p,dx,_,rfl,ql,Dy _ _ 0e0 0e0,p,_,n,rfl,hA,Ny PX.1,PX.2.1,PX.2.2,this⟩
   |gr us n=>
    cases d with
    |zero=>exact U'.elim
    |succ d=>
     obtain⟨dx,l',Vb,h1,h2,h3⟩:=id hT;exact Or.inr ⟨_,rfl,p,dx,_,rfl,h1,nG _ _ 0e0 0e0,p,us,n,rfl,hT,U',lt,fin⟩
  ·rintro σ H' ⟨v,rfl,e,DN⟩;rw[length_map,lp,take_length] at DN
   have es:((ts.map λt=>(⟨(bW d t).toArray⟩:Str)).map (·.length)).sum=(ts.flatMap (bW d)).length:=by
    rw[map_map,List.length_flatMap];congr 1
   refine⟨_,D,ts.map (λt=>⟨(bW d t).toArray⟩),rfl,rfl,bM.of (by rw[DN,map_map];rfl),?_,?_⟩
   ·have e0:("" :Str).length=0:=by decide+kernel
    rw[es,e0];omega
   ·rw[join_eq,DM];exact q _ e
def Af:av 1e5 1e5 (aj lF):=cX
def B6(D:aX K G "shown" "Group.shown" lF 1e5):aD P w K mg base 2 G "shown" 1e5 (pJ C G 0):=
 D.cN (k:=1) Af (λvs H Q E h=>h.elim) (λf aY A outer s H vs Q E hr h=>h.elim)
def B7(d:Nat)(D:aX K G "shown" "Group.shown" lF 1e5)(T:sP K mg C R G uK uN uB uE uM)(c1:a5 P w K mg base (2*d+3) "parts_shown" ["parts"] (lO C G d))(c2:a5 P w K mg base 1 "count_shown" ["count"] kK):aD P w K mg base (2*d+4) G "shown" 1e5 (pJ C G (d+1)):=by
 obtain⟨_,_,i9⟩:=c1;obtain⟨_,_,cK⟩:=c2;refine D.cN Af 0e7 0e1
 ·obtain⟨g,ts,n,rfl,_⟩:=h;rfl
 ·obtain⟨g,ts,n,rfl,⟨dx,l,ps,hg,hl,hP⟩,⟨kq,aM,n1,n2⟩,hz,q⟩:=h;have big:=bgL;have hz:(40::(ts.flatMap (bW d)++41::aK n)).length≤1000:=hz;rw[length_cons,length_append,length_cons] at hz;have e1:("(" :Str).length=1:=by decide+kernel
  have e2:(")" :Str).length=1:=by decide+kernel
  have lf:(dM n).length=(aK n).length:=by rw[cR,a0]
  have ee:(⟨(bW (d+1) (.gr ts n)).toArray⟩:Str)="(" ++⟨(ts.flatMap (bW d)).toArray⟩++")" ++dM n:=by
   rw[cR,Sb,e41];rw[show (⟨#[40]⟩:Str)=⟨[40].toArray⟩ from rfl,show (⟨#[41]⟩:Str)=⟨[41].toArray⟩ from rfl,bA,bA,bA];simp [bW]
  rw[ee] at q;refine⟨_,(ao (aA (ay bj (ay bj (ay bj (aZ (v:= .str "(") rfl T.gk 2e4) (fz i9 hr (ag 3e6 ak))) (aZ (v:= .str ")") rfl T.p9 2e4)) (fz cK hr (ag 3e6 ak))))),?_⟩;refine⟨_,rfl,g,G,dx,_,_,rfl,hg,T.eR,T.pD,iR _ _,l,ps,ts,rfl,hl,hP,aM,by omega,λH1 s1=>⟨_,_,rfl,rfl,?_,_,_,rfl,rfl,?_,_,rfl,g,G,dx,_,_,rfl,s1 _ _ hg,T.eR,T.pE,iT _ _,n,rfl,n1,n2,_,_,rfl,rfl,?_,q _ s1⟩⟩
  ·rw[e1,a0];omega
  ·rw[bg,e1,e2,a0];omega
  ·rw[bg,bg,e1,e2,a0,lf];omega
theorem vZ(D1:Def K mg "parts_shown" "parts_shown" lE ["parts"])(D2:aX K G "shown" "Group.shown" lF 1e5)(T:sP K mg C R G uK uN uB uE uM)(c1:aD P w K mg base 2 C "shown" 1e5 (xS C))(c2:a5 P w K mg base 1 "count_shown" ["count"] kK):∀d:Nat,a5 P w K mg base (2*d+3) "parts_shown" ["parts"] (lO C G d)
 |0=>tj 0 D1 T c1 (B6 D2)
 |d+1=>tj (d+1) D1 T c1 (by rw[show 2*(d+1)+2=2*d+4 by omega];exact B7 d D2 T (vZ D1 D2 T c1 c2 d) c2)
variable {uC uP uI uD uL uT:Tok}
inductive tq(C G Pc:3e5)(d:Nat)(vs:4e5)(H:Hp)(Q:VK)(E:XK):Prop
 |mk (q:3e5) (x:iM) (dH:vs=[.ref q]) (dI:jR C G Pc d H q x) (dN:Fz d x) (eK:(l8 d x).length≤1000) (gj:∀H',au H H'→Q (.str ⟨(l8 d x).toArray⟩) H')
def mf(C G Pc:3e5)(d:Nat):Sp:=tq C G Pc d
def yf:av 1e5 1e5 (aj iP):=cX
def tD(d:Nat)(D:aX K Pc "shown" "Piece.shown" iP 1e5)(T:2e6)(c1:a5 P w K mg base (2*d+3) "parts_shown" ["parts"] (lO C G d))(c2:a5 P w K mg base 1 "count_shown" ["count"] kK):aD P w K mg base (2*d+4) Pc "shown" 1e5 (mf C G Pc d):=by
 obtain⟨_,_,i9⟩:=c1;obtain⟨_,_,cK⟩:=c2;refine D.cN yf 0e7 0e1
 ·obtain⟨p,x,rfl,_⟩:=h;rfl
 ·obtain⟨p,x,rfl,⟨dx,l,ps,hp,hl,hP⟩,⟨kq,aM,n1,n2⟩,hz,q⟩:=h;have big:=bgL;have Ma:=hz;unfold l8 at Ma q;rw[length_append] at Ma;have lf:(dM x.1).length=(aK x.1).length:=by rw[cR,a0]
  rw[←bA,←cR] at q;refine⟨_,(ao (aA (ay bj (fz cK hr (ag 3e6 ak)) (fz i9 hr (ag 3e6 ak))))),?_⟩;refine⟨_,rfl,p,Pc,dx,_,_,rfl,hp,T.dh,T.pH,iT _ _,x.1,rfl,n1,n2,_,rfl,p,Pc,dx,_,_,rfl,hp,T.dh,T.pG,iR _ _,l,ps,x.2,rfl,hl,hP,aM,by omega,λH1 e1=>⟨_,_,rfl,rfl,?_,q _ e1⟩⟩;rw[lf,a0];omega
inductive B8(vs:4e5)(H:Hp)(Q:VK)(E:XK):Prop
 |mk (n:Int) (dH:vs=[.int n]) (dI: -999≤n) (dN:n≤999) (eK:Q (.str ⟨(g8 n).toArray⟩) H)
def wa:Sp:=B8
def Sk{n:Int}(h1: -999≤n)(h2:n≤999):(g8 n).length≤5:=by
 unfold g8;split
 ·exact zero_le _
 ·rename_i h0
  have:=il (n:=if n<0 then -n else n) (by split<;>omega) (by split<;>omega);rw[cR,a0] at this;rw[length_cons,length_append];simp;omega
def uV:av ["charge"] ["charge"] (aj gO):=cX
def pK(D:Def K mg "charge_shown" "charge_shown" gO ["charge"])(T:2e6)(c1:a5 P w K mg base 1 "count_shown" ["count"] kK):a5 P w K mg base 2 "charge_shown" ["charge"] wa:=by
 obtain⟨_,_,cK⟩:=c1;refine D.cN uV 0e7 0e1
 ·obtain⟨n,rfl,_⟩:=h;rfl
 ·obtain⟨n,rfl,h1,h2,q⟩:=h;have big:=bgL
  refine⟨_,(ai (bC (aL dk 2e1 aq (aO _)) (ao (aA bh))
      aN) (ao (aA (ay bj (ay bj (aZ (v:= .str "^") rfl T.i7 2e4) (fz cK hr (ag (bS zh rfl T.Jk Ie (ag 2e1 ak)) ak))) (zf (aL mR 2e1 aq (aO _)) (aZ (v:= .str "+") rfl T.sU 2e4) (aZ (v:= .str "-") rfl T.x6 2e4)))))),?_⟩
  refine⟨_,rfl,rfl,_,rfl,eF (λe=>?_) λe=>?_⟩
  ·have e:n=0:=by simpa using e
   subst e;have e0:(⟨(g8 0).toArray⟩:Str)="" :=by decide+kernel
   rw[e0] at q;exact q
  ·have e:¬n=0:=by simpa using e
   have a1:1≤(if n<0 then -n else n):=by split<;>omega
   have a2:(if n<0 then -n else n)≤999:=by split<;>omega
   have z:=il a1 a2;have e1:("^" :Str).length=1:=by decide+kernel
   refine⟨_,rfl,n,rfl,_,rfl,a1,a2,_,_,rfl,rfl,by rw[e1];omega,_,rfl,_,_,rfl,rfl,?_⟩
   have ec:(⟨(g8 n).toArray⟩:Str)="^" ++dM (if n<0 then -n else n)++(if 0<n then ("+" :Str) else ("-" :Str)):=by
    unfold g8;rw[if_neg e,cR,WN,e43,WO];rw[show (⟨#[94]⟩:Str)=⟨[94].toArray⟩ from rfl,bA];by_cases hp:0<n
    ·rw[if_pos hp,if_pos hp,show (⟨#[43]⟩:Str)=⟨[43].toArray⟩ from rfl,bA];simp
    ·rw[if_neg hp,if_neg hp,show (⟨#[45]⟩:Str)=⟨[45].toArray⟩ from rfl,bA];simp
   rw[ec] at q;refine⟨_,rfl,eF (λe=>?_) λe=>?_⟩
   ·have e:0<n:=by simpa using e
    rw[if_pos e] at q;refine⟨_,_,rfl,rfl,?_,q⟩;have e2:("+" :Str).length=1:=by decide+kernel
    rw[bg,e1,e2];omega
   ·have e:¬0<n:=by simpa using e
    rw[if_neg e] at q;refine⟨_,_,rfl,rfl,?_,q⟩;have e2:("-" :Str).length=1:=by decide+kernel
    rw[bg,e1,e2];omega
inductive B9(C G Pc Fo:3e5)(d:Nat)(vs:4e5)(H:Hp)(Q:VK)(E:XK):Prop
 |mk (f:3e5) (xs:List iM) (n:Int) (dH:vs=[.ref f]) (dI:nR C G Pc Fo d H f xs n) (dN:Jj d xs n) (eK:(wL d xs n).length≤1000) (gj:∀H',au H H'→Q (.str ⟨(wL d xs n).toArray⟩) H')
def wc(C G Pc Fo:3e5)(d:Nat):Sp:=B9 C G Pc Fo d
theorem wd(d:Nat):∀(x:iM) (r:List iM),Str.join "." ((x::r).map λy=>(⟨(l8 d y).toArray⟩:Str))=⟨(l8 d x++cn d r).toArray⟩
 |x,[]=>by
  show (⟨(l8 d x).toArray⟩:Str)=⟨(l8 d x++[]).toArray⟩;rw[append_nil]
 |x,y::r=>by
  show (⟨(l8 d x).toArray⟩:Str)++"." ++Str.join "." ((y::r).map λy=>(⟨(l8 d y).toArray⟩:Str))=⟨(l8 d x++(46::l8 d y++cn d r)).toArray⟩;rw[wd d y r,e46,show (⟨#[46]⟩:Str)=⟨[46].toArray⟩ from rfl,bA,bA];simp
theorem jR.same{d:Nat}{x:iM}(h:jR C G Pc d H p x)(e:au H H'):jR C G Pc d H' p x:=
 let ⟨dx,l,ps,h1,h2,h3⟩:=h;⟨dx,l,ps,e _ _ h1,e _ _ h2,aJ (λ_ _ h=>eW.same h e) h3⟩
theorem nR.same{d:Nat}{xs:List iM}{n:Int}(h:nR C G Pc Fo d H p xs n)(e:au H H'):nR C G Pc Fo d H' p xs n:=
 let ⟨dx,l,ps,h1,h2,h3⟩:=h;⟨dx,l,ps,e _ _ h1,e _ _ h2,aJ (λ_ _ h=>jR.same h e) h3⟩
def Jq:av 1e5 1e5 (aj m7):=cX
def Ca(d:Nat)(D:aX K Fo "shown" "Formula.shown" m7 1e5)(T:2e6)(c1:aD P w K mg base (2*d+4) Pc "shown" 1e5 (mf C G Pc d))(c2:a5 P w K mg base 2 "charge_shown" ["charge"] wa):aD P w K mg base (2*d+5) Fo "shown" 1e5 (wc C G Pc Fo d):=by
 obtain⟨_,_,i'⟩:=c1;obtain⟨_,_,tE⟩:=c2;refine D.cN Jq 0e7 0e1
 ·obtain⟨f,xs,n,rfl,_⟩:=h;rfl
 ·obtain⟨f,xs,n,rfl,⟨dx,l,ps,hf,hl,hP⟩,aM,hz,q⟩:=h;have big:(3000 :Nat) <sizeLine:=by decide
  have lp:ps.length=xs.length:=Paired.length hP
  refine⟨_,(ai (bC (ku (mS 3e6 (λ_=>rfl))) (ao (aA (aZ (v:= .str "e^-") rfl T.mF 2e4)))
      aN) (ao (aA (ay bj (jg PySem.F.plainAttrs_str PySem.F.slot_str_join PySem.F.type_str_join qD (aZ (v:= .str ".") rfl T.kS 2e4) (ag (gg (sc:=(aj m7)) (NX:=1e5) (N:=["piece"]) (fr:=[none]) 0e8 rfl rfl rfl (cE 3e6) (λ_ _ _ _=>(aB (i:=0) (show (["piece"]:List Str).Nodup by decide+kernel) rfl 0e6 (Or.inr rfl))) (λ_ _ _ _=>gf) (λ_ _ _ _=>(aH 2e1 T.dh i'.m i'.ok (hr.mono 0e5) i'.b .nil a8))) ak)) (fz tE hr (ag 3e6 ak)))))),?_⟩
  refine⟨_,rfl,f,Fo,dx,_,_,rfl,hf,T.br,T.jS,jP _ _,_, .inl ⟨_,bM.of hl,rfl⟩,?_⟩
  cases xs with
  |nil=>
   have hp:ps=[]:=List.length_eq_zero_iff.mp lp;subst hp;refine gK ?_;have e0:(⟨(wL d [] n).toArray⟩:Str)="e^-" :=by rw[eE];rfl
   rw[e0] at q;exact q _ (au.refl _)
  |cons x0 r0=>
   obtain⟨h01,F7,n1,n2⟩:=aM
   have WT:(!(ps.map V.ref).isEmpty)=true:=by
    cases ps with
    |nil=>simp at lp
    |cons _ _=>rfl
   rw[WT];refine d7 ?_;have zc:=Sk n1 n2
   have ez:wL d (x0::r0) n=(l8 d x0++cn d r0)++g8 n:=by
    show x0.2.flatMap (bW d)++(cn d r0++g8 n)=_;unfold l8;rw[h01,show aK 1=[] from rfl,nil_append,append_assoc]
   rw[ez,length_append,length_append] at hz;have Va:=yc d r0
   have each:∀y∈x0::r0,(l8 d y).length≤1000:=λy hy=>by
    rcases mem_cons.mp hy with rfl|hy
    ·omega
    ·obtain⟨a,b,rfl⟩:=append_of_mem hy
     have:(cn d (a++y::b)).length=(cn d a).length+(46::l8 d y++cn d b).length:=by
      unfold cn;rw[flatMap_append,length_append,flatMap_cons]
     rw[this,length_append,length_cons] at hz;omega
   refine⟨rfl,_,rfl,f,Fo,dx,_,_,rfl,hf,T.br,T.jS,jP _ _,l,rfl,⟨_,bM.of hl⟩,λD hD=>vA (K:=K) (a:=l) (D:=D) (xs:=ps.map V.ref) (λi σ H'=>∃v:Option V,σ=[v]∧au H H'∧H' D=some (.lst (((x0::r0).take i).map λx=>V.str ⟨(l8 d x).toArray⟩)))
    ?_ (λi σ H' _ ⟨_,_,e,_⟩=>bM.of (e _ _ hl)) ?_ ?_⟩
   ·exact⟨none,rfl,au.new hD,aa⟩
   ·rintro i v σ H' hi ⟨v',rfl,e,DN⟩ N hN;rw[getElem?_map] at hi;obtain⟨p,hp,rfl⟩:=gMp hi;obtain⟨y,hy,hY⟩:=bG hP hp;have hY:=hY.same e;obtain⟨dm,l',Vb,h1,h2⟩:=id hY;have my:=mem_of_getElem? hy;refine⟨_,rfl,p,dm,_,rfl,h1,nG _ _ 0e0 0e0,p,y,rfl,hY,F7 y my,each y my,λb8 e'=>⟨_,e' _ _ DN,?_,hN _ _ ⟨_,rfl,λb o z=>?_,?_⟩⟩⟩
    ·rw[length_map];have:((x0::r0).take i).length≤(x0::r0).length:=length_take_le' _ _;rw[length_cons] at this;omega
    ·rw[ah (af z hD)];exact e' _ _ (e _ _ z)
    ·rw[aa,take_add_one,hy,map_append];rfl
   ·rintro σ H' ⟨v,rfl,e,DN⟩;rw[length_map,lp,take_length] at DN
    have ej:Txt.join "." ((x0::r0).map λy=>(⟨(l8 d y).toArray⟩:Str))=⟨(l8 d x0++cn d r0).toArray⟩:=by
     have:=PyProof.Rows.join_closes (sep:=".") (sep':=".") (ys:=(x0::r0).map λy=>(⟨(l8 d y).toArray⟩:Str)) rfl;rw[←wd];simpa using this
    have es:(((x0::r0).map λy=>(⟨(l8 d y).toArray⟩:Str)).map (·.length)).sum≤(l8 d x0).length+(cn d r0).length:=by
     rw[map_map,map_cons,sum_cons]
     have:∀r:List iM,(r.map ((·.length)∘λy=>(⟨(l8 d y).toArray⟩:Str))).sum≤(cn d r).length:=λr=>by
      induction r with
      |nil=>exact le_refl _
      |cons y r ih=>
       show (⟨(l8 d y).toArray⟩:Str).length+(r.map ((·.length)∘λy=>(⟨(l8 d y).toArray⟩:Str))).sum≤(46::l8 d y++cn d r).length;rw[a0,length_append,length_cons];omega
     have h2:=this r0;show (⟨(l8 d x0).toArray⟩:Str).length+_≤_;rw[a0];omega
    refine⟨_,D,(x0::r0).map (λy=>⟨(l8 d y).toArray⟩),rfl,rfl,bM.of (by rw[DN,map_map];rfl),?_,?_⟩
    ·have e0:("." :Str).length=1:=by decide+kernel
     rw[e0,length_map,length_cons];omega
    ·rw[ej];refine⟨_,rfl,f,Fo,dx,_,_,rfl,e _ _ hf,T.br,T.jT,jQ _ _,n,rfl,n1,n2,_,_,rfl,rfl,?_,?_⟩
     ·rw[a0,a0,length_append];omega
     ·rw[bA,←ez];exact q _ e
def F9:av ["_law_count_here"] ["_law_count_here"] (aj nB):=cX
def Cb(D:Def K mg "_law_figures" "_law_figures" nB ["_law_count_here"])(T:qm K mg C):a5 P w K mg base 1 "_law_figures" ["_law_count_here"] kK:=by
 refine D.cN F9 0e7 0e1
 ·obtain⟨n,rfl,_⟩:=h;rfl
 ·obtain⟨n,rfl,h1,h2,k⟩:=h
  refine⟨_,(ai (bC (aL dk 2e1 aq (aO _)) (ao (aA bh))
      aN) (ao (aA (bq jx rfl T.IP BE (ag 2e1 ak))))),?_⟩
  refine⟨_,rfl,rfl,_,rfl,eF (λe=>?_) λe=>?_⟩
  ·have e:n=1:=by simpa using e
   subst e;exact k
  ·have e:¬n=1:=by simpa using e
   refine⟨_,rfl,_,rfl,vy 0e5 0e5,?_⟩;unfold dM at k;rw[if_neg e] at k;exact k
def Sl:av ["self","kind","count"] ["self","kind","count"] (aj jj):=cX
def Nz(D:l6 K C "Atom.__init__" jj ["self","kind","count"] [1])(T:qm K mg C):gG P w K mg base 1 C ["self","kind","count"] [1] (IL C):=by
 refine D.cN Sl 0e7 0e1
 ·obtain⟨p,dx,k,n,rfl,_⟩:=h;rfl
 ·obtain⟨p,dx,k,n,rfl,hp,q⟩:=h;refine⟨_,(ai (eS 2e1 (pv 1) rfl) (ao (eS 2e1 (pv 2) rfl))),?_⟩;refine⟨_,rfl,_,rfl,p,C,dx,[],rfl,hp,T.gD,T.xT,(by show 0<1000;decide),_,rfl,_,rfl,p,C,dx,_,rfl,aa,T.gD,T.sI,(by show 1<1000;decide),?_⟩;refine q _ aa λb o e hb=>?_;rw[ah hb,ah hb];exact e
def Jr:av ["_law_script","_law_k"] ["_law_script","_law_k"] (aj qN):=cX
def Cc(D:Def K mg "_law_cell_at" "_law_cell_at" qN ["_law_script","_law_k"])(T:qm K mg C):a5 P w K mg base 1 "_law_cell_at" ["_law_script","_law_k"] (sG K):=by
 refine D.cN Jr 0e7 0e1
 ·obtain⟨a,ns,k,rfl,_⟩:=h;rfl
 ·obtain⟨a,ns,k,rfl,hS,hl,q⟩:=h
  refine⟨_,(ai (bC (aL pZ (pv 1) (bS fF rfl T.nH jE (ag 2e1 ak)) (aO _)) (ao (aA (bQ bP 2e1 (pv 1) 2e7)))
      aN) (ao (aA aq))),?_⟩
  refine⟨_,rfl,_,rfl,a,_,rfl, .inl hS,_,_,rfl,rfl,_,rfl,eF (λe=>?_) λe=>?_⟩
  ·have e:k<ns.length:=by simpa using e
   exact⟨_,rfl,_,rfl,a,_,_,V.int ns[k],rfl,rfl,hS,lA (by rw[getElem?_map,getElem?_eq_getElem e];rfl),q _⟩
  ·exact q 0
def NA:av ["_law_found"] ["_law_found"] (aj xJ):=cX
def Js(D:Def K mg "_law_whole" "_law_whole" xJ ["_law_found"])(T:qm K mg C):a5 P w K mg base 1 "_law_whole" ["_law_found"] DA:=by
 refine D.cN NA 0e7 0e1
 ·obtain⟨i,rfl,_⟩:=h;rfl
 ·obtain⟨i,rfl,q⟩:=h;refine⟨_,(ao (aA (Bk (bS kA rfl T.fJ eI (ag 2e1 (ag (wX (v:= .ty "int") rfl T.zU rV rfl) ak))) (Bj (Q0 (bS kA rfl T.fJ eI (ag 2e1 (ag (wX (v:= .ty "bool") rfl T.R6 MQ rfl) ak)))))))),?_⟩;exact⟨_,rfl,_,_,_,_,_,rfl,rfl, .int i,T.k1,_,rfl,gK ⟨_,rfl,_,_,_,_,_,rfl,rfl, .int i,T.k2,_,rfl,q⟩⟩
noncomputable abbrev great:Str:="ABCDEFGHIJKLMNOPQRSTUVWXYZ"
noncomputable abbrev small:Str:="abcdefghijklmnopqrstuvwxyz"
def F':great.cps.toList.length=26:=by decide+kernel
def Ga:small.cps.toList.length=26:=by decide+kernel
noncomputable def WU:List Str:=["C","Co","O","Cob","H","N","No","B","Ob","Nob"]
def mI:av ["_law_number","_law_great","_law_small","_law_kind_here","_law_k"] ["_law_number"] (aj Du):=cX
inductive Jt(vs:4e5)(H:Hp)(Q:VK)(E:XK):Prop
 |mk (n:Int) (dH:vs=[.int n]) (dI:∀(k:List Nat) H',ki k→au H H'→Q (.str 3e7) H')
def DO:Sp:=Jt
noncomputable def Sm:List Nat→Bool
 |c::r=>DB c&&r.all oJ&&decide (r.length≤2)
 | []=>false
def Sn:∀{l:List Nat},Sm l=true→ki l
 | [],h=>by cases h
 |c::r,h=>by
  simp only [Sm,and_eq_true,decide_eq_true_eq] at h;exact⟨c,r,rfl,h.1.1,h.1.2,h.2⟩
def So:WU.all (λx=>Sm x.cps.toList)=true:=by decide+kernel
def Gb:great.cps.toList.all DB=true:=by decide+kernel
def Gd:small.cps.toList.all oJ=true:=by decide+kernel
def Ju(D:Def K mg "_law_kind" "_law_kind" Du ["_law_number"])(T:qm K mg C):a5 P w K mg base 1 "_law_kind" ["_law_number"] DO:=by
 refine D.cN mI 0e7 0e1
 ·obtain⟨n,rfl,_⟩:=h;rfl
 ·obtain⟨n,rfl,q⟩:=h
  refine⟨_,(ai (az (i:=1) mI.nd rfl 0e6 bh) (ai (az (i:=2) mI.nd rfl 0e6 bh) (ai (bC (aL dk (ay bw 2e1 aq) aq (aO _)) (ao (aA (bQ bP (b7 (MR (.str (.str (.str (.str (.str (.str (.str (.str (.str (.str .nil)))))))))))) (ay bw (ay bO 2e1 aq) aq) 2e7)))
      aN) (ai (az (i:=0) mI.nd rfl 0e6 (ay bO 2e1 aq)) (ai (az (i:=3) mI.nd rfl 0e6 (bQ xf (pv 1) (ay bw 2e1 aq) 2e7)) (ai (bU PassesOwn.never rfl (lq rfl T.qR (ag (ay bw (ay bO 2e1 aq) aq) ak)) (aB (i:=4) mI.nd rfl 0e6) (ao (az (i:=3) mI.nd rfl 0e6 (ay bj (pv 3) (bQ xf (pv 2) (ay bw (ay bO 2e1 (ay bZ aq (ay fT aq (pv 4)))) aq) 2e7))))) (ao (aA (pv 3))))))))),?_⟩
  refine⟨_,rfl,_,_,rfl,rfl,(by show (0 :Int) <2;decide),rfl,_,rfl,eF (λ_=>?_) λ_=>?_⟩
  ·have b0:0≤n/2%10:=emod_nonneg _ 0e4;have b1:n/2%10<10:=emod_lt_of_pos _ 0e4;obtain⟨v,hv,qp⟩:=pe (xs:=WU.map V.str) b0 b1;obtain⟨k,hk,rfl⟩:=mem_map.mp hv;have ek:(⟨k.cps.toList.toArray⟩:Str)=k:=nI 2e9;have okk:=Sn (all_eq_true.mp So k hk)
   have q':∀l (hl:H l=none),Q (.str k) (upd H l (.lst (WU.map V.str))):=λl hl=>by
    have:=q k.cps.toList _ okk (au.new (o:= .lst (WU.map V.str)) hl)
    rwa [ek] at this
   exact⟨(by show 10≤sizeLine;decide),λl hl=>⟨_,rfl,_,_,rfl,rfl,2e8,_,_,rfl,rfl,(by show (0 :Int) <10;decide),l,WU.map V.str,_,_,rfl,rfl,bM.of aa,qp,q' l hl⟩⟩
  ·have b0:0≤n/2%26:=emod_nonneg _ 0e4;have b1:n/2%26<26:=emod_lt_of_pos _ 0e4;have b2:0≤n/2/26%3:=emod_nonneg _ 0e4;have b3:n/2/26%3<3:=emod_lt_of_pos _ 0e4;obtain⟨c,hc,qp⟩:=pe (xs:=great.cps.toList) b0 (by rw[F'];exact b1);have gc:=all_eq_true.mp Gb c hc;refine⟨_,rfl,_,_,rfl,rfl,2e8,_,rfl,_,rfl,_,_,rfl,rfl,(by show (0 :Int) <26;decide),great,_,c,rfl,rfl,0e0,qp,?_⟩
   refine⟨_,rfl,_,_,rfl,rfl,2e8,_,_,rfl,rfl,(by show (0 :Int) <3;decide),_,rfl,by omega,by omega,
    vd (λi σ H'=>∃(r:List Nat) (v:Option V),σ=[some (.int (n/2)),some (.str great),some (.str small),some (.str ⟨(c::r).toArray⟩),v]∧r.all oJ=true∧r.length≤i∧H'=H) ⟨[],none,rfl,rfl,le_refl _,rfl⟩ ?_ ?_⟩
   ·rintro i σ H' hi ⟨r,v,rfl,ha,hk,rfl⟩;have c0:0≤n/2/(78+1950*(0+(i:Int))) %26:=emod_nonneg _ 0e4;have c1:n/2/(78+1950*(0+(i:Int))) %26<26:=emod_lt_of_pos _ 0e4;obtain⟨c2,hc2,Sq⟩:=pe (xs:=small.cps.toList) c0 (by rw[Ga];exact c1);have sc2:=all_eq_true.mp Gd c2 hc2;have l2:(⟨#[c2]⟩:Str).length=1:=rfl;have big:(100 :Nat)≤sizeLine:=by decide
    have e2:(⟨(c::r).toArray⟩:Str)++⟨#[c2]⟩=⟨(c::(r++[c2])).toArray⟩:=bA (c::r) [c2];refine⟨_,rfl,_,rfl,_,rfl,_,rfl,_,_,rfl,rfl, .inl 2e8,_,_,rfl,rfl,_,_,rfl,rfl,⟨by omega,by omega⟩,_,_,rfl,rfl,(by show (0 :Int) <26;decide),small,_,c2,rfl,rfl,0e0,Sq,_,_,rfl,rfl,?_,r++[c2],some (.int (0+(i:Int))),?_,?_,?_,rfl⟩
    ·rw[a0,l2,length_cons];omega
    ·rw[←e2];rfl
    ·rw[List.all_append,ha];simpa using sc2
    ·rw[length_append];show r.length+1≤i+1;omega
   ·rintro σ H' ⟨r,v,rfl,ha,hk,rfl⟩;exact⟨_,rfl,q (c::r) _ ⟨c,r,rfl,gc,ha,by omega⟩ (au.refl _)⟩
variable {uC uP uI uD uL uT:Tok}
def NB:av ["self","parts","count"] ["self","parts","count"] (aj fV):=cX
def Jv(D:l6 K G "Group.__init__" fV ["self","parts","count"] [1])(T:2e6):gG P w K mg base 1 G ["self","parts","count"] [1] (nQ G):=by
 refine D.cN NB 0e7 0e1
 ·obtain⟨p,dx,l,c,xs,rfl,_⟩:=h;rfl
 ·obtain⟨p,dx,l,c,xs,rfl,hp,hl,q⟩:=h;refine⟨_,(ai (eS 2e1 (bq fG rfl T.n_list jF (ag (pv 1) ak)) rfl) (ao (eS 2e1 (pv 2) rfl))),?_⟩;refine⟨_,rfl,l,xs,rfl, .inl (bM.of hl),λn hn=>?_⟩;have Bd:p≠n:=af hp hn;refine⟨_,rfl,p,G,dx,[],rfl,(by rw[ah Bd];exact hp),T.eR,T.pD,(by show 0<1000;decide),_,rfl,_,rfl,p,G,dx,_,rfl,aa,T.eR,T.pE,(by show 1<1000;decide),?_⟩;refine q n _ hn aa (by rw[ah (Ne.symm Bd),ah (Ne.symm Bd),aa]) λb o e hb=>?_;rw[ah hb,ah hb,ah (af e hn)];exact e
def NC:av ["self","parts","count"] ["self","parts","count"] (aj fW):=cX
def Jw(D:l6 K Pc "Piece.__init__" fW ["self","parts","count"] [1])(T:2e6):gG P w K mg base 1 Pc ["self","parts","count"] [1] (nQ Pc):=by
 refine D.cN NC 0e7 0e1
 ·obtain⟨p,dx,l,c,xs,rfl,_⟩:=h;rfl
 ·obtain⟨p,dx,l,c,xs,rfl,hp,hl,q⟩:=h;refine⟨_,(ai (eS 2e1 (bq fG rfl T.n_list jF (ag (pv 1) ak)) rfl) (ao (eS 2e1 (pv 2) rfl))),?_⟩;refine⟨_,rfl,l,xs,rfl, .inl (bM.of hl),λn hn=>?_⟩;have Bd:p≠n:=af hp hn;refine⟨_,rfl,p,Pc,dx,[],rfl,(by rw[ah Bd];exact hp),T.dh,T.pG,(by show 0<1000;decide),_,rfl,_,rfl,p,Pc,dx,_,rfl,aa,T.dh,T.pH,(by show 1<1000;decide),?_⟩;refine q n _ hn aa (by rw[ah (Ne.symm Bd),ah (Ne.symm Bd),aa]) λb o e hb=>?_;rw[ah hb,ah hb,ah (af e hn)];exact e
def ND:av ["self","pieces","charge"] ["self","pieces","charge"] (aj fX):=cX
def Jx(D:l6 K Fo "Formula.__init__" fX ["self","pieces","charge"] [0])(T:2e6):gG P w K mg base 1 Fo ["self","pieces","charge"] [0] (x8 Fo):=by
 refine D.cN ND 0e7 0e1
 ·obtain⟨p,dx,l,c,xs,rfl,_⟩:=h;rfl
 ·obtain⟨p,dx,l,c,xs,rfl,hp,hl,q⟩:=h;refine⟨_,(ai (eS 2e1 (bq fG rfl T.n_list jF (ag (pv 1) ak)) rfl) (ao (eS 2e1 (pv 2) rfl))),?_⟩;refine⟨_,rfl,l,xs,rfl, .inl (bM.of hl),λn hn=>?_⟩;have Bd:p≠n:=af hp hn;refine⟨_,rfl,p,Fo,dx,[],rfl,(by rw[ah Bd];exact hp),T.br,T.jS,(by show 0<1000;decide),_,rfl,_,rfl,p,Fo,dx,_,rfl,aa,T.br,T.jT,(by show 1<1000;decide),?_⟩;refine q n _ hn aa (by rw[ah (Ne.symm Bd),ah (Ne.symm Bd),aa]) λb o e hb=>?_;rw[ah hb,ah hb,ah (af e hn)];exact e
structure TxtP(K:0e9)(mg:1e3)(C:3e5):Prop extends qm K mg C where
 ja:mg "dict" =none
 Jk:mg "abs" =none
noncomputable def bb:Nat→Int→Tr→List (Str×Int)
 |_,m, .one k n=>[(3e7,n*m)]
 |0,_, .gr _ _=>[]
 |d+1,m, .gr ts n=>ts.flatMap (bb d (n*m))
noncomputable def b6(d:Nat)(x:iM):List (Str×Int):=x.2.flatMap (bb d x.1)
noncomputable def cW(d:Nat)(xs:List iM):List (Key×V):=aW 1 [] (xs.flatMap (b6 d))
def Ge(ts:List Tr):Prop:=ts≠[]∧(∀t∈ts,oK 1 t)∧(ts.flatMap (bW 1)).length≤23∧(ts.flatMap (bb 1 1)).length≤5
theorem nV:∀(l acc:0e2),((acc++l).map 1e8).Nodup→bF acc l=acc++l
 | [],acc,_=>by rw[append_nil];rfl
 |p::r,acc,h=>by
  have hn:bK acc p.1=none:=by
   cases e:bK acc p.1 with
   |none=>rfl
   |some x=>
    rw[map_append,List.nodup_append] at h;exact absurd rfl (h.2.2 _ (qA e) p.1 2e9)
  show bF (putK acc p.1 p.2) r=_;rw[mT _ hn,nV r (acc++[(p.1,p.2)]) (by rw[append_assoc];exact h),append_assoc];rfl
theorem q5(c:Int):∀(as:List (Str×Int)) (acc:0e2),aW 1 acc (as.map λp=>(p.1,p.2*c))=aW c acc as
 | [],_=>rfl
 |p::r,acc=>by
  show aW 1 (bN acc (Sum.inr p.1) (p.2*c*1)) (r.map λp=>(p.1,p.2*c))=aW c (bN acc (Sum.inr p.1) (p.2*c)) r;rw[mul_one,q5 c r]
def we(hI:aU D)(hn:(D.map 1e8).Nodup)(c:Int):(D.map λp=>(p.1,V.int (c*aE D p.1)))=scale c D:=by
 unfold scale;apply map_congr_left;intro p hp;have e:=hI.look (fH hn hp);show (p.1,V.int (c*aE D p.1))=(p.1,FK c p.2);rw[e];show _=(p.1,V.int (aE D p.1*c));rw[mul_comm]
abbrev DP:=List (List Nat×Int)
noncomputable def aT(a:List Nat×Int):Tr:= .one a.1 a.2
def pL(as:DP):List (Str×Int):=as.map λa=>((⟨a.1.toArray⟩:Str),a.2)
def Jy(as:DP):Prop:=∀a∈as,ki a.1∧1≤a.2∧a.2≤999
def mJ(d:Nat)(m:Int)(as:DP):(as.map aT).flatMap (bb d m)=(pL as).map λp=>(p.1,p.2*m):=by
 unfold pL
 induction as with
 |nil=>rfl
 |cons a r ih=>
  rw[map_cons,flatMap_cons,ih,map_cons,map_cons];have e:bb d m (aT a)=[((⟨a.1.toArray⟩:Str),a.2*m)]:=by cases d<;>rfl
  rw[e];rfl
def pM(d:Nat)(as:DP):(as.map aT).flatMap (bW d)=as.flatMap λa=>a.1++aK a.2:=by
 induction as with
 |nil=>rfl
 |cons a r ih=>
  rw[map_cons,flatMap_cons,ih,flatMap_cons];have e:bW d (aT a)=a.1++aK a.2:=by cases d<;>rfl
  rw[e]
def tF{n:Int}(h:1≤n)(h':n≤999):(aK n).length≤3:=by
 have:=il h h';rw[cR,a0] at this;exact this
def Jz{n:Int}(h:1≤n)(h':n≤99):(aK n).length≤2:=by
 obtain⟨m,rfl⟩:=eq_ofNat_of_zero_le (show 0≤n by omega);have:=lI (n:=m) (k:=2) 0e4 0e5;rw[cR,a0] at this;exact this
def tG(h:ki k):k.length≤3:=by
 obtain⟨c,r,rfl,_,_,h3⟩:=h;rw[length_cons];omega
def lP{as:DP}(h:Jy as):(as.flatMap λa=>a.1++aK a.2).length≤6*as.length:=by
 induction as with
 |nil=>exact zero_le _
 |cons a r ih=>
  have h1:=h a 1e6;have h2:=ih λb hb=>h b (mem_cons_of_mem _ hb);have h3:=tG h1.1;have h4:=tF h1.2.1 h1.2.2;rw[flatMap_cons,length_append,length_append,length_cons];omega
def Ag{as:DP}(h:Jy as)(d:Nat):∀t∈as.map aT,oK d t:=by
 intro t ht;obtain⟨a,ha,rfl⟩:=mem_map.mp ht;have:=h a ha;cases d<;>exact this
def JA{as:DP}(h:Jy as)(h1:1≤as.length)(h3:as.length≤3):Ge (as.map aT):=by
 refine⟨?_,Ag h 1,?_,?_⟩
 ·intro z;have:=congrArg List.length z;rw[length_map,length_nil] at this;omega
 ·rw[pM];have:=lP h;omega
 ·rw[mJ,length_map];unfold pL;rw[length_map];omega
def PY(as:DP):cW 1 [(1,as.map aT)]=aW 1 [] (pL as):=by
 show aW 1 [] ((as.map aT).flatMap (bb 1 1)++[])=_;rw[append_nil,mJ,q5]
def PZ(as:DP)(c:Int):([Tr.gr (as.map aT) c].flatMap (bW 1))=40::((as.flatMap λa=>a.1++aK a.2)++41::aK c):=by
 rw[flatMap_cons,flatMap_nil,append_nil];show 40::((as.map aT).flatMap (bW 0)++41::aK c)=_;rw[pM]
def P0(as:DP)(c:Int):([Tr.gr (as.map aT) c].flatMap (bb 1 1))=(pL as).map λp=>(p.1,p.2*(c*1)):=by
 rw[flatMap_cons,flatMap_nil,append_nil];show (as.map aT).flatMap (bb 0 (c*1))=_;rw[mJ]
def Sr{as:DP}(h:Jy as)(h1:1≤as.length)(h3:as.length≤3){c:Int}(c1:1≤c)(c2:c≤999):Ge [.gr (as.map aT) c]:=by
 refine⟨by simp,λt ht=>?_,?_,?_⟩
 ·have e:t= .gr (as.map aT) c:=by simpa using ht
  subst e;exact⟨(JA h h1 h3).1,Ag h 0,c1,c2⟩
 ·rw[PZ];have:=lP h;have:=tF c1 c2;simp only [length_cons,length_append];omega
 ·rw[P0,length_map];unfold pL;rw[length_map];omega
def P1(as:DP)(c:Int):cW 1 [(1,[.gr (as.map aT) c])]=scale c (aW 1 [] (pL as)):=by
 show aW 1 [] ([Tr.gr (as.map aT) c].flatMap (bb 1 1)++[])=_;rw[append_nil,P0,q5,vG 1 c _ [] (λp hp=>by cases hp),mul_one,one_mul];rfl
def aU.d5(h:aU kvs)(hm:(k,v)∈kvs):bK kvs k=some (.int (aE kvs k)):=by
 cases f:bK kvs k with
 |none=>exact absurd (mem_map_of_mem (f:=1e8) hm) (kz f)
 |some x=>rw[h.look f]
def none_back(e:au H H')(h:H' D=none):H D=none:=by
 cases hh:H D with
 |none=>rfl
 |some o=>rw[e _ _ hh] at h;cases h
def take_snoc{α:Type}{l:List α}{i:Nat}{a:α}(h:l[i]? =some a):l.take (i+1)=l.take i++[a]:=by
 rw[take_add_one,h];rfl
def P2:(⟨(([]:DP).flatMap λa=>a.1++aK a.2).toArray⟩:Str)="" :=by decide+kernel
abbrev Fm:=List iM×Int
def fL(x:Fm):List Nat:=wL 1 x.1 x.2
def bJ(x:Fm):Prop:=Jj 1 x.1 x.2∧(fL x).length≤33∧(x.1.flatMap (b6 1)).length≤7
def Ah(H:Hp)(t:3e5)(x:Fm):Prop:=∃d,H t=some (.tup [.str 1e7, .ref d, .int x.2])∧H d=some (.dK (cW 1 x.1))
def Ah.same(h:Ah H t x)(e:au H H'):Ah H' t x:=let ⟨d,h1,h2⟩:=h;⟨d,e _ _ h1,e _ _ h2⟩
def Ss(n:Int):uH [V.str "-",V.str "+"] (if decide (n>0)=true then 1 else 0)=some (V.str (if 0<n then ("+" :Str) else ("-" :Str))):=by
 by_cases h:0<n
 ·rw[if_pos (decide_eq_true h),if_pos h];rfl
 ·rw[if_neg (by simpa using h),if_neg h];rfl
def NG{n:Int}(e:¬n=0):(⟨(g8 n).toArray⟩:Str)="^" ++dM (if n<0 then -n else n)++(if 0<n then ("+" :Str) else ("-" :Str)):=by
 unfold g8;rw[if_neg e,cR,WN,e43,WO];rw[show (⟨#[94]⟩:Str)=⟨[94].toArray⟩ from rfl,bA];by_cases hp:0<n
 ·rw[if_pos hp,if_pos hp,show (⟨#[43]⟩:Str)=⟨[43].toArray⟩ from rfl,bA];simp
 ·rw[if_neg hp,if_neg hp,show (⟨#[45]⟩:Str)=⟨[45].toArray⟩ from rfl,bA];simp
def WV{xs:List iM}(h:xs≠[])(n:Int):wL 1 xs n=wL 1 xs 0++g8 n:=by
 cases xs with
 |nil=>exact absurd rfl h
 |cons x r=>
  show x.2.flatMap (bW 1)++(cn 1 r++g8 n)=x.2.flatMap (bW 1)++(cn 1 r++[])++g8 n;rw[append_nil,append_assoc]
def okB(xs:List iM):Prop:=xs≠[]∧(∀n, -999≤n→n≤999→Jj 1 xs n)∧(wL 1 xs 0).length≤29∧(xs.flatMap (b6 1)).length≤7
def WW:aK 1=[]:=by decide+kernel
def WX(ts:List Tr):wL 1 [(1,ts)] 0=ts.flatMap (bW 1):=by
 show ts.flatMap (bW 1)++([]++[])=_;simp
def JB(h:Ge ts):okB [(1,ts)]:=by
 obtain⟨h1,h2,h3,h4⟩:=h;refine⟨by simp,λn n1 n2=>⟨rfl,λx hx=>?_,n1,n2⟩,?_,?_⟩
 ·have e:x=(1,ts):=by simpa using hx
  subst e;exact⟨h1,h2,(by show (1 :Int)≤1;decide),(by show (1 :Int)≤999;decide)⟩
 ·rw[WX];omega
 ·show (ts.flatMap (bb 1 1)++[]).length≤7;rw[append_nil];omega
def P4{xs:List iM}(h:okB xs){n:Int}(n1: -99≤n)(n2:n≤99):bJ (xs,n):=by
 obtain⟨h1,h2,h3,h4⟩:=h;refine⟨h2 n 0e5 0e5,?_,h4⟩;show (wL 1 xs n).length≤33;rw[WV h1,length_append]
 have:(g8 n).length≤4:=by
  unfold g8;split
  ·exact zero_le _
  ·have:=Jz (n:=if n<0 then -n else n) (by split<;>omega) (by split<;>omega);rw[length_cons,length_append];show _+1+1≤4;omega
 omega
def pN(xs:List iM):aU (cW 1 xs):=jK 1 _ _ λp hp=>by cases hp
def tH{xs:List iM}{m:Nat}(h:(xs.flatMap (b6 1)).length≤m):(cW 1 xs).length≤m:=by
 have:=jL 1 (xs.flatMap (b6 1)) [];rw[length_nil] at this;unfold cW;omega
abbrev Tm:=Int×Fm
def d8(H:Hp)(t:3e5)(x:Tm):Prop:=∃f,H t=some (.tup [.int x.1, .ref f])∧Ah H f x.2
def yg(B:Int)(x:Tm):Prop:=1≤x.1∧x.1≤B∧bJ x.2
theorem d8.same(h:d8 H t x)(e:au H H'):d8 H' t x:=let ⟨f,h1,h2⟩:=h;⟨f,e _ _ h1,h2.same e⟩
def d8.but(hD:H D=some (.lst ys))(e:∀b o,H b=some o→b≠D→H' b=some o)(h:d8 H t x):d8 H' t x:=by
 obtain⟨f,h1,d,h2,h3⟩:=h;exact⟨f,e _ _ h1 (cI h1 hD 3e4),d,e _ _ h2 (cI h2 hD 3e4),e _ _ h3 (cI h3 hD 3e4)⟩
def cP(H:Hp)(l:3e5)(xs:List Tm):Prop:=∃ts,H l=some (.lst (ts.map V.ref))∧Paired (d8 H) ts xs
theorem cP.same(h:cP H l xs)(e:au H H'):cP H' l xs:=let ⟨ts,h1,h2⟩:=h;⟨ts,e _ _ h1,aJ (λ_ _ z=>z.same e) h2⟩
variable {uC uP uI uD uL uT:Tok}
def DQ{n:Int}(h0:0≤n)(h:n<10^50):(toString n:Str).length≤50:=by
 rw[PySem.ofString_length];obtain⟨m,rfl⟩:=eq_ofNat_of_zero_le h0;show (Nat.repr m).length≤50;rw[Nat.length_repr_le_iff 0e4];omega
def NH{n:Int}(h0:0≤n)(h:n<10^50):n.natAbs.log2<1920:=by
 by_cases e:n.natAbs=0
 ·rw[e];decide
 ·have:=(log2_lt e (k:=170)).mpr 0e5;omega
noncomputable def tI(x:Tm):Str:=if x.1=1 then ⟨(fL x.2).toArray⟩ else (toString x.1 :Str)++" " ++⟨(fL x.2).toArray⟩
noncomputable def wg(xs:List Tm):Str:=Txt.join " + " (xs.map tI)
def DR{B:Int}(hB:B≤10^40)(h:yg B x):(tI x).length≤100:=by
 obtain⟨h1,h2,_,h3,_⟩:=h;unfold tI;split
 ·rw[a0];omega
 ·have:=DQ (n:=x.1) 0e5 0e5;have l1:(" " :Str).length=1:=by decide+kernel
  rw[bg,bg,a0,l1];exact le_trans (Nat.add_le_add (Nat.add_le_add_right this 1) h3) 0e4
theorem Ai:∀{ts:List Addr} {xs:List Tm} {i:Nat} {x:V},Paired (d8 H) ts xs→(ts.map V.ref)[i]? =some x→∃t y,x= .ref t∧xs[i]? =some y∧d8 H t y
 |_,_,_,_, .nil,h=>by simp at h
 |_,_,0,_, .cons h _,e=>⟨_,_,(Option.some.inj e).symm,rfl,h⟩
 |_,_,i+1,_, .cons _ t,e=>Ai (i:=i) t e
variable {uC uP uI uD uL uT eM eN eO:Tok}{Ch:3e5}
structure JC(K:0e9)(mg:1e3)(C R G Pc Fo Ch:3e5)(uK uN uB uE uM uC uP uI uD uL uT eM eN eO:Tok):Prop extends kR K mg C R G Pc Fo uK uN uB uE uM uC uP uI uD uL uT,TxtP K mg C where
 bY:uz K Ch
 iq:cy K Ch "lefts"
 jo:cy K Ch "rights"
 JD:mg "Change" =some (.ref Ch)
 NI:mg "BLANK" =some (.str " " eM)
 DS:mg "JOINT" =some (.str " + " eN)
 DT:mg "ARROW" =some (.str " -> " eO)
def jV(C G Pc Fo:3e5)(H:Hp)(t:3e5)(x:Tm):Prop:=∃f,H t=some (.tup [.int x.1, .ref f])∧nR C G Pc Fo 1 H f x.2.1 x.2.2
def ir(C G Pc Fo:3e5)(H:Hp)(l:3e5)(xs:List Tm):Prop:=∃ts,H l=some (.lst (ts.map V.ref))∧Paired (jV C G Pc Fo H) ts xs
theorem jV.same(h:jV C G Pc Fo H t x)(e:au H H'):jV C G Pc Fo H' t x:=let ⟨f,h1,h2⟩:=h;⟨f,e _ _ h1,h2.same e⟩
theorem ir.same(h:ir C G Pc Fo H l xs)(e:au H H'):ir C G Pc Fo H' l xs:=let ⟨ts,h1,h2⟩:=h;⟨ts,e _ _ h1,aJ (λ_ _ z=>z.same e) h2⟩
def nlr:¬(("lefts" :Str)="rights"):=by decide+kernel
noncomputable def qd(l r:3e5):List (Str×V):=cx "rights" (.ref r) (cx "lefts" (.ref l) [])
def fj(l r:3e5):(qd l r).lookup ("lefts" :Str)=some (.ref l):=by
 unfold qd;rw[aF,if_neg nlr,aF,if_pos rfl]
def gR(l r:3e5):(qd l r).lookup ("rights" :Str)=some (.ref r):=by
 unfold qd;rw[aF,if_pos rfl]
def tJ(l r:3e5){m:Str}(h1:¬m="rights")(h2:¬m="lefts"):(qd l r).lookup m=none:=by
 unfold qd;rw[aF,if_neg h1,aF,if_neg h2]
 all_goals rfl
inductive JE(Ch:3e5)(vs:4e5)(H:Hp)(Q:VK)(E:XK):Prop
 |mk (p dx l r:3e5) (xs ys:4e5) (dH:vs=[.ref p, .ref l, .ref r]) (dI:H p=some (.ins Ch dx [])) (dN:H l=some (.lst xs)) (eK:H r=some (.lst ys)) (gj:∀n m H',H n=none→H m=none→n≠m→H' p=some (.ins Ch dx (qd n m))→H' n=some (.lst xs)→H' m=some (.lst ys)→(∀b o,H b=some o→b≠p→H' b=some o)→Q .cw H')
def DU(Ch:3e5):Sp:=JE Ch
def NJ:av ["self","lefts","rights"] ["self","lefts","rights"] (aj xE):=cX
def JF(D:l6 K Ch "Change.__init__" xE ["self","lefts","rights"] [])(T:JC K mg C R G Pc Fo Ch uK uN uB uE uM uC uP uI uD uL uT eM eN eO):gG P w K mg base 1 Ch ["self","lefts","rights"] [] (DU Ch):=by
 refine D.cN NJ 0e7 0e1
 ·obtain⟨p,dx,l,r,xs,ys,rfl,_⟩:=h;rfl
 ·obtain⟨p,dx,l,r,xs,ys,rfl,hp,hl,Mb,q⟩:=h;refine⟨_,(ai (eS 2e1 (bq fG rfl T.n_list jF (ag (pv 1) ak)) rfl) (ao (eS 2e1 (bq fG rfl T.n_list jF (ag (pv 2) ak)) rfl))),?_⟩;refine⟨_,rfl,l,xs,rfl, .inl (bM.of hl),λn hn=>?_⟩;have Bd:p≠n:=af hp hn;have npr:r≠p:=cI Mb hp 3e4;refine⟨_,rfl,p,Ch,dx,[],rfl,(by rw[ah Bd];exact hp),T.bY,T.iq,(by show 0<1000;decide),?_⟩;refine⟨_,rfl,r,ys,rfl, .inl (bM.of (by rw[ah npr,ah (af Mb hn)];exact Mb)),λm hm=>?_⟩;have nmp:p≠m:=af aa hm;have WY:n≠m:=λz=>by rw[←z,ah (Ne.symm Bd),aa] at hm;cases hm
  have WZ:H m=none:=by rwa [ah (Ne.symm nmp),ah (Ne.symm WY)] at hm
  refine⟨_,rfl,p,Ch,dx,_,rfl,(by rw[ah nmp];exact aa),T.bY,T.jo,(by show 1<1000;decide),?_⟩;refine q n m _ hn WZ WY aa ?_ ?_ λb o e hb=>?_
  ·rw[ah (Ne.symm Bd),ah WY,ah (Ne.symm Bd),aa]
  ·rw[ah (Ne.symm nmp),aa]
  ·rw[ah hb,ah (af e WZ),ah hb,ah (af e hn)];exact e
def dz(C G Pc Fo Ch:3e5)(H:Hp)(c:3e5)(xs ys:List Tm):Prop:=∃dx l r,H c=some (.ins Ch dx (qd l r))∧ir C G Pc Fo H l xs∧ir C G Pc Fo H r ys
theorem dz.same(h:dz C G Pc Fo Ch H c xs ys)(e:au H H'):dz C G Pc Fo Ch H' c xs ys:=let ⟨dx,l,r,h1,h2,h3⟩:=h;⟨dx,l,r,e _ _ h1,h2.same e,h3.same e⟩
noncomputable def chS(xs ys:List Tm):Str:=wg xs++" -> " ++wg ys
def wj{xs:List Tm}(aM:∀x∈xs,yg (10^40) x)(NK:xs.length≤10):(wg xs).length≤2000:=by
 unfold wg;have e:=PyProof.Rows.join_closes (sep:=" + ") (sep':=" + ") (ys:=xs.map tI) rfl;rw[show Txt.join " + " (xs.map tI)=Str.join " + " (xs.map tI) by simpa using e];have l3:(" + " :Str).length=3:=by decide+kernel
 have key:∀ys:List Str,(∀y∈ys,y.length≤100)→(Str.join " + " ys).length≤103*ys.length:=by
  intro ys
  induction ys with
  |nil=>intro _;exact zero_le _
  |cons y r ih=>
   intro h;have h1:=h y 1e6;have h2:=ih λz hz=>h z (mem_cons_of_mem _ hz)
   cases r with
   |nil=>
    show y.length≤103*1;omega
   |cons z r'=>
    show (y++" + " ++Str.join " + " (z::r')).length≤_;rw[bg,bg,l3,length_cons];omega
 have:=key (xs.map tI) λy hy=>by
  obtain⟨x,hx,rfl⟩:=mem_map.mp hy;exact DR (Int.le_refl _) (aM x hx)
 rw[length_map] at this;omega
variable {uC uP uI uD uL uT:Tok}
theorem tK(c:Int):∀(d:Nat) (m:Int) (t:Tr),bb d (m*c) t=(bb d m t).map λp=>(p.1,p.2*c)
 |d,m, .one k n=>by
  have e1:bb d (m*c) (.one k n)=[(3e7,n*(m*c))]:=by cases d<;>rfl
  have e2:bb d m (.one k n)=[(3e7,n*m)]:=by cases d<;>rfl
  rw[e1,e2,map_cons,map_nil,mul_assoc]
 |0,_, .gr _ _=>rfl
 |d+1,m, .gr ts n=>by
  show ts.flatMap (bb d (n*(m*c)))=(ts.flatMap (bb d (n*m))).map _;rw[List.map_flatMap,←mul_assoc];congr 1;funext t;exact tK c d (n*m) t
def DV(t:Int)(acc:0e2)(as bs:List (Str×Int)):aW t acc (as++bs)=aW t (aW t acc as) bs:=by
 unfold aW;rw[foldl_append]
def JG(t:Int)(hI:aU acc)(hn:(acc.map 1e8).Nodup)(d:Nat)(x:Tr):
  i5 t acc (aW 1 [] (bb d 1 x)) (aW 1 [] (bb d 1 x))=aW 1 acc (bb d t x):=by
 have e:=tK t d 1 x;rw[one_mul] at e;rw[xY t 1 (bb d 1 x) hI hn,one_mul,e,q5]
def JH:aU []:=λp hp=>by cases hp
theorem mul_int(c:Int)(all:0e2):∀(l acc:0e2),aU acc→aU (i5 c acc l all)
 | [],_,h=>h
 |_::r,_,h=>mul_int c all r _ (h.add _ _)
theorem yh(c:Int)(all:0e2):∀(l acc:0e2),(i5 c acc l all).length≤acc.length+l.length
 | [],_=>le_refl _
 |p::r,acc=>by
  have h1:=yh c all r (bN acc p.1 (aE all p.1*c));have h2:(bN acc p.1 (aE all p.1*c)).length≤acc.length+1:=bE _ _ _;show (i5 c (bN acc p.1 (aE all p.1*c)) r all).length≤_;rw[length_cons];omega
def lB{n:Nat}(h:n≤1000):n<sizeLine:=lt_of_le_of_lt h 0e4
def nW(kq:d≠e)(he:H e=some E):upd (upd (upd (upd H d A) e F) d B) e E=upd H d B:=by
 funext b;by_cases h1:b=e
 ·subst h1;rw[aa,ah (Ne.symm kq),he]
 ·rw[ah h1];by_cases h2:b=d
  ·subst h2;rw[aa,aa]
  ·rw[ah h2,ah h1,ah h2,ah h2]
def Aj(c:Int)(all acc:0e2){i:Nat}{p:Key×V}(h:all[i]? =some p):i5 c acc (all.take (i+1)) all=bN (i5 c acc (all.take i) all) p.1 (aE all p.1*c):=by
 unfold i5;rw[take_snoc h,foldl_append];rfl
def tM{t:Int}(hu:X.A.units+1<cLine)(hd:H d=some (.dK acc))(he:H e=some (.dK gz))(kq:d≠e)(hI:aU acc)(W0:aU gz)(hl:acc.length+gz.length≤1000)(t1:1≤t)(t2:t≤999)(fin:∀z:Option V,D.nx [some (.ref l),some (.int t),some (.ref d),v3,some (.ref e),z] (upd H d (.dK (i5 t acc gz gz)))):
  HS X (Q6 (HR X (kr 4)) (cg 5) (HI (kr 2) (kr 5) (Q7 (L1 λi j=> .int (i+j)) (Bu (kr 2) (kr 5) (tC (.int 0))) (Q7 (rI Hy λi j=> .int (i*j)) (HH (kr 4) (kr 5)) (kr 1))))) D [some (.ref l),some (.int t),some (.ref d),v3,some (.ref e),v5] H:=by
 refine⟨_,rfl,e,gz,rfl,he,λo nf=>cQ nf (λj σ H'=>∃z:Option V,σ=[some (.ref l),some (.int t),some (.ref d),v3,some (.ref e),z]∧H'=upd H d (.dK (i5 t acc (gz.take j) gz))) ?_ ?_ ?_ ?_⟩
 ·exact⟨v5,rfl,(eG hd).symm⟩
 ·rintro i σ H' ⟨_,_,rfl⟩;rw[ah (Ne.symm kq)];exact he
 ·rintro i k v σ H' hi ⟨z,rfl,rfl⟩;have xm:∀o',(upd (upd H d (.dK (i5 t acc (gz.take i) gz))) e o') d=some (.dK (i5 t acc (gz.take i) gz)):=λo'=>by rw[ah kq];exact aa
  have hv:=W0.d5 (mem_of_getElem? hi);have NL:aU (i5 t acc (gz.take i) gz):=mul_int t gz _ _ hI;have hli:=yh t gz (gz.take i) acc;have P5:(gz.take i).length≤gz.length:=length_take_le' _ _;refine⟨_,rfl,d,rfl, .inl ⟨_, .inl (xm _)⟩,_,rfl,_,fU.k (k:=k) (xm _),_,rfl,_,rfl,e,V.int (aE gz k),rfl, .inl ⟨_,k, .inr ⟨o,aa⟩,rfl,hv.symm⟩,_,rfl,_,_,rfl,rfl, .inr ⟨by omega,by omega⟩,_,_,NL.at k,rfl,_,rfl,_,rfl,d,_,rfl,i4.k (k:=k) (xm _) (lB ?_),?_⟩
  ·omega
  ·refine⟨by rw[ah (Ne.symm kq)];exact aa,some (kV k),rfl,?_⟩;rw[nW kq he,Aj t gz acc hi];rfl
 ·rintro σ H' ⟨z,rfl,rfl⟩;rw[take_length];exact fin z
def dC:av ["parts","times","total","part","inner","kind"] ["parts","times"] (aj ji):=cX
def JI:av 1e5 1e5 (aj qJ):=cX
def Gf(D:aX K C "counts" "Atom.counts" qJ 1e5)(T:qm K mg C):aD P w K mg base 1 C "counts" 1e5 (sH C):=by
 refine D.cN JI 0e7 0e1
 ·obtain⟨p,k,n,rfl,_⟩:=h;rfl
 ·obtain⟨p,k,n,rfl,⟨dx,hp⟩,q⟩:=h;refine⟨_,(ao (aA (jA (ib 3e6 3e6 jz) rfl rfl 3e4 0e4))),?_⟩;intro d hd;have ql:∀o,(upd H d o) p=some (.ins C dx (xQ k n)):=λo=>by rw[ah (af hp hd)];exact hp
  refine⟨_,rfl,p,C,dx,_,_,rfl,ql _,T.gD,T.xT,vF _ _,_,rfl,p,C,dx,_,_,rfl,ql _,T.gD,T.sI,sF _ _,aa,[(Sum.inr k, .int n)],rfl,(by show 1≤15;decide),?_⟩;rw[jt];exact q d hd
def mK(C G:3e5):Nat→Sp
 |0=>λ_ _ _ _=>False
 |d+1=>λvs H Q _=>∃(g:3e5) (ts:List Tr) (n:Int),vs=[.ref g]∧eW C G (d+1) H g (.gr ts n)∧oK (d+1) (.gr ts n)∧(bb (d+1) 1 (.gr ts n)).length≤400∧∀e H',H e=none→H' e=some (.dK (aW 1 [] (bb (d+1) 1 (.gr ts n))))→au H H'→Q (.ref e) H'
inductive Ak(C G:3e5)(d:Nat)(vs:4e5)(H:Hp)(Q:VK)(E:XK):Prop
 |mk (l:3e5) (ps:List Addr) (ts:List Tr) (t:Int) (dH:vs=[.ref l, .int t]) (dI:H l=some (.lst (ps.map V.ref))) (dN:Paired (eW C G d H) ps ts) (eK:(∀x∈ts,oK d x)) (gj:1≤t) (i6:t≤999) (mD:(ts.flatMap (bb d t)).length≤400) (qY:∀e H',H e=none→H' e=some (.dK (aW 1 [] (ts.flatMap (bb d t))))→au H H'→Q (.ref e) H')
def jW(C G:3e5)(d:Nat):Sp:=Ak C G d
def Gg(d:Nat)(t:Int)(x:Tr):(bb d t x).length=(bb d 1 x).length:=by
 have e:=tK t d 1 x;rw[one_mul] at e;rw[e,length_map]
def yi{d:Nat}{t:Int}{ts:List Tr}{x:Tr}(h:x∈ts):(bb d 1 x).length≤(ts.flatMap (bb d t)).length:=by
 rw[←Gg d t x];obtain⟨as,bs,rfl⟩:=append_of_mem h;rw[flatMap_append,flatMap_cons,length_append,length_append];omega
def NM(k:Str)(n:Int):aW 1 [] [(k,n*1)]=[(Sum.inr k, .int n)]:=by
 show putK [] (Sum.inr k) (.int (aE [] (Sum.inr k)+n*1*1))=_;rw[show aE [] (Sum.inr k:Key)=0 from rfl,zero_add,mul_one,mul_one];rfl
def uW{d:Nat}{t:Int}(ts:List Tr)(i:Nat):((ts.take i).flatMap (bb d t)).length≤(ts.flatMap (bb d t)).length:=by
 conv=>rhs;rw[←take_append_drop i ts,flatMap_append,length_append]
 omega
def gS(l:List (Str×Int)):((aW 1 [] l).map 1e8).Nodup:=xR 1 l [] nodup_nil
def cC(l:List (Str×Int)):aU (aW 1 [] l):=jK 1 l [] JH
def eP(l:List (Str×Int)):(aW 1 [] l).length≤l.length:=by
 have:=jL 1 l [];rw[length_nil] at this;omega
def qe(d:Nat)(D:Def K mg "parts_counts" "parts_counts" ji ["parts","times"])(T:sP K mg C R G uK uN uB uE uM)(c1:aD P w K mg base 1 C "counts" 1e5 (sH C))(c2:aD P w K mg base (2*d+1) G "counts" 1e5 (mK C G d)):a5 P w K mg base (2*d+2) "parts_counts" ["parts","times"] (jW C G d):=by
 obtain⟨_,_,jb⟩:=c1;obtain⟨_,_,iu⟩:=c2;refine D.cN dC 0e7 0e1
 ·obtain⟨l,ps,ts,t,rfl,_⟩:=h;rfl
 ·obtain⟨l,ps,ts,t,rfl,hl,hP,aM,t1,t2,hz,q⟩:=h;have hu:=cM hr;have lp:ps.length=ts.length:=Paired.length hP;refine⟨_,(ai (az (i:=2) dC.nd rfl 0e6 dq) (ai (bU PassesOwn.never rfl (cE 2e1) (aB (i:=3) dC.nd rfl 0e6) (ai (az (i:=4) dC.nd rfl 0e6 (HZ (aH (pv 3) T.gD jb.m jb.ok (hr.mono 0e5) jb.b .nil a8) (aH (pv 3) T.eR iu.m iu.ok (hr.mono 0e5) iu.b .nil a8))) (ao (cY (bU PassesOwn.never rfl (cJ (pv 4)) (aB (i:=5) dC.nd rfl 0e6) (ao (cF hu (pv 2) (pv 5) (ay bZ (b5 hu (pv 2) (pv 5) aq ⟨rfl,rfl,rfl,rfl⟩) (ay fT (bX hu (pv 4) (pv 5) 2e7) (pv 1))) rfl))))))) (ao (aA (pv 2))))),?_⟩;intro e0 uu;refine⟨_,rfl,l,rfl,⟨_,bM.of (au.new uu _ _ hl)⟩,dP (K:=K) (a:=l) (xs:=ps.map V.ref) (λi σ H'=>∃v u z:Option V,σ=[some (.ref l),some (.int t),some (.ref e0),v,u,z]∧au H H'∧H' e0=some (.dK (aW 1 [] ((ts.take i).flatMap (bb d t))))) ?_ (λi σ H' _ ⟨_,_,_,_,e,_⟩=>bM.of (e _ _ hl)) ?_ ?_⟩
  ·exact⟨none,none,none,rfl,au.new uu,aa⟩
  ·rintro i v σ H' hi ⟨v',u,z,rfl,e,iL⟩;rw[getElem?_map] at hi;obtain⟨p,hp,rfl⟩:=gMp hi;obtain⟨x,hx,hT⟩:=bG hP hp;have hT:=hT.same e;have gT:=aM x (mem_of_getElem? hx);have lx:=le_trans (yi (d:=d) (t:=t) (mem_of_getElem? hx)) hz;have li:=le_trans (uW (d:=d) (t:=t) ts i) hz
   have jD:aW 1 [] ((ts.take (i+1)).flatMap (bb d t))=i5 t (aW 1 [] ((ts.take i).flatMap (bb d t))) (aW 1 [] (bb d 1 x)) (aW 1 [] (bb d 1 x)):=by
    rw[JG t (cC _) (gS _),take_snoc hx,flatMap_append,flatMap_cons,flatMap_nil,append_nil,DV]
   have hlen:(aW 1 [] ((ts.take i).flatMap (bb d t))).length+(aW 1 [] (bb d 1 x)).length≤1000:=by
    have:=eP ((ts.take i).flatMap (bb d t));have:=eP (bb d 1 x);omega
   cases x with
   |one k n=>
    have PX:ki k∧1≤n∧n≤999:=by cases d<;>exact gT
    have hA:gC C H' p 3e7 n:=by cases d<;>exact hT
    have ef:bb d 1 (.one k n)=[(3e7,n*1)]:=by cases d<;>rfl
    rw[ef,NM] at jD hlen;obtain⟨dx,ql⟩:=id hA;refine Or.inl ⟨_,rfl,p,dx,_,rfl,ql,Dy _ _ 0e0 0e0,p,_,n,rfl,hA,λb hb=>?_⟩;have nb:e0≠b:=af iL hb;refine tM hu (by rw[ah nb];exact iL) aa nb (cC _) (λq hq=>⟨n,by rw[mem_singleton.mp hq]⟩) hlen t1 t2 λz'=>⟨_,_,_,rfl,λb' o w'=>?_,?_⟩
    ·rw[ah (af w' uu),ah (af (e _ _ w') hb)];exact e _ _ w'
    ·rw[aa,jD]
   |gr us n=>
    cases d with
    |zero=>exact gT.elim
    |succ d=>
     obtain⟨dx,l',Vb,h1,h2,h3⟩:=id hT;refine Or.inr ⟨_,rfl,p,dx,_,rfl,h1,nG _ _ 0e0 0e0,p,us,n,rfl,hT,gT,lx,λb b8 nb hb e'=>?_⟩;refine tM hu (e' _ _ iL) hb (af iL nb) (cC _) (cC _) hlen t1 t2 λz'=>⟨_,_,_,rfl,λb' o w'=>?_,?_⟩
     ·rw[ah (af w' uu)];exact e' _ _ (e _ _ w')
     ·rw[aa,jD]
  ·rintro σ H' ⟨v,u,z,rfl,e,iL⟩;rw[length_map,lp,take_length] at iL;exact⟨_,rfl,q e0 H' uu iL e⟩
def wk:av 1e5 1e5 (aj jk):=cX
def Al(D:aX K G "counts" "Group.counts" jk 1e5):aD P w K mg base 1 G "counts" 1e5 (mK C G 0):=
 D.cN (k:=0) wk (λvs H Q E h=>h.elim) (λf aY A outer s H vs Q E hr h=>h.elim)
def Am(d:Nat)(D:aX K G "counts" "Group.counts" jk 1e5)(T:sP K mg C R G uK uN uB uE uM)(c1:a5 P w K mg base (2*d+2) "parts_counts" ["parts","times"] (jW C G d)):aD P w K mg base (2*d+3) G "counts" 1e5 (mK C G (d+1)):=by
 obtain⟨_,_,dS⟩:=c1;refine D.cN wk 0e7 0e1
 ·obtain⟨g,ts,n,rfl,_⟩:=h;rfl
 ·obtain⟨g,ts,n,rfl,⟨dx,l,ps,h1,h2,h3⟩,⟨ne,aM,n1,n2⟩,hz,q⟩:=h
  have e:bb (d+1) 1 (.gr ts n)=ts.flatMap (bb d n):=by
   show ts.flatMap (bb d (n*1))=_;rw[mul_one]
  rw[e] at hz q;refine⟨_,(ao (aA (fz dS hr (ag 3e6 (ag 3e6 ak))))),?_⟩;exact⟨_,rfl,g,G,dx,_,_,rfl,h1,T.eR,T.pD,iR _ _,_,rfl,g,G,dx,_,_,rfl,h1,T.eR,T.pE,iT _ _,l,ps,ts,n,rfl,h2,h3,aM,n1,n2,hz,q⟩
theorem tN(D1:Def K mg "parts_counts" "parts_counts" ji ["parts","times"])(D2:aX K G "counts" "Group.counts" jk 1e5)(T:sP K mg C R G uK uN uB uE uM)(c1:aD P w K mg base 1 C "counts" 1e5 (sH C)):∀d:Nat,a5 P w K mg base (2*d+2) "parts_counts" ["parts","times"] (jW C G d)
 |0=>qe 0 D1 T c1 (Al D2)
 |d+1=>qe (d+1) D1 T c1 (Am d D2 T (tN D1 D2 T c1 d))
inductive qq(C G Pc:3e5)(d:Nat)(vs:4e5)(H:Hp)(Q:VK)(E:XK):Prop
 |mk (q:3e5) (x:iM) (dH:vs=[.ref q]) (dI:jR C G Pc d H q x) (dN:Fz d x) (eK:(b6 d x).length≤400) (gj:∀e H',H e=none→H' e=some (.dK (aW 1 [] (b6 d x)))→au H H'→Q (.ref e) H')
def kW(C G Pc:3e5)(d:Nat):Sp:=qq C G Pc d
def uX:av 1e5 1e5 (aj gN):=cX
def qr(d:Nat)(D:aX K Pc "counts" "Piece.counts" gN 1e5)(T:2e6)(c1:a5 P w K mg base (2*d+2) "parts_counts" ["parts","times"] (jW C G d)):aD P w K mg base (2*d+3) Pc "counts" 1e5 (kW C G Pc d):=by
 obtain⟨_,_,dS⟩:=c1;refine D.cN uX 0e7 0e1
 ·obtain⟨q,x,rfl,_⟩:=h;rfl
 ·obtain⟨g,x,rfl,⟨dx,l,ps,h1,h2,h3⟩,⟨ne,aM,n1,n2⟩,hz,q⟩:=h;refine⟨_,(ao (aA (fz dS hr (ag 3e6 (ag 3e6 ak))))),?_⟩;exact⟨_,rfl,g,Pc,dx,_,_,rfl,h1,T.dh,T.pG,iR _ _,_,rfl,g,Pc,dx,_,_,rfl,h1,T.dh,T.pH,iT _ _,l,ps,x.2,x.1,rfl,h2,h3,aM,n1,n2,hz,q⟩
inductive An(C G Pc:3e5)(d:Nat)(vs:4e5)(H:Hp)(Q:VK)(E:XK):Prop
 |mk (l:3e5) (ps:List Addr) (xs:List iM) (dH:vs=[.ref l, .int 1]) (dI:H l=some (.lst (ps.map V.ref))) (dN:Paired (jR C G Pc d H) ps xs) (eK:(∀x∈xs,Fz d x)) (gj:(xs.flatMap (b6 d)).length≤400) (i6:∀e H',H e=none→H' e=some (.dK (cW d xs))→au H H'→Q (.ref e) H')
def tO(C G Pc:3e5)(d:Nat):Sp:=An C G Pc d
def Ao(d:Nat)(D:Def K mg "parts_counts" "parts_counts" ji ["parts","times"])(T:2e6)(c1:aD P w K mg base (2*d+3) Pc "counts" 1e5 (kW C G Pc d)):a5 P w K mg base (2*d+4) "parts_counts" ["parts","times"] (tO C G Pc d):=by
 obtain⟨_,_,iw⟩:=c1;refine D.cN dC 0e7 0e1
 ·obtain⟨l,ps,xs,rfl,_⟩:=h;rfl
 ·obtain⟨l,ps,xs,rfl,hl,hP,aM,hz,q⟩:=h;have hu:=cM hr;have lp:ps.length=xs.length:=Paired.length hP;refine⟨_,(ai (az (i:=2) dC.nd rfl 0e6 dq) (ai (bU PassesOwn.never rfl (cE 2e1) (aB (i:=3) dC.nd rfl 0e6) (ai (az (i:=4) dC.nd rfl 0e6 (aH (pv 3) T.dh iw.m iw.ok (hr.mono 0e5) iw.b .nil a8)) (ao (cY (bU PassesOwn.never rfl (cJ (pv 4)) (aB (i:=5) dC.nd rfl 0e6) (ao (cF hu (pv 2) (pv 5) (ay bZ (b5 hu (pv 2) (pv 5) aq ⟨rfl,rfl,rfl,rfl⟩) (ay fT (bX hu (pv 4) (pv 5) 2e7) (pv 1))) rfl))))))) (ao (aA (pv 2))))),?_⟩;intro e0 uu;refine⟨_,rfl,l,rfl,⟨_,bM.of (au.new uu _ _ hl)⟩,dP (K:=K) (a:=l) (xs:=ps.map V.ref) (λi σ H'=>∃v u z:Option V,σ=[some (.ref l),some (.int 1),some (.ref e0),v,u,z]∧au H H'∧H' e0=some (.dK (cW d (xs.take i)))) ?_ (λi σ H' _ ⟨_,_,_,_,e,_⟩=>bM.of (e _ _ hl)) ?_ ?_⟩
  ·exact⟨none,none,none,rfl,au.new uu,aa⟩
  ·rintro i v σ H' hi ⟨v',u,z,rfl,e,iL⟩;rw[getElem?_map] at hi;obtain⟨p,hp,rfl⟩:=gMp hi;obtain⟨x,hx,hT⟩:=bG hP hp;have hT:=hT.same e;have gT:=aM x (mem_of_getElem? hx)
   have lx:(b6 d x).length≤400:=by
    refine le_trans ?_ hz;obtain⟨as,bs,rfl⟩:=append_of_mem (mem_of_getElem? hx);rw[flatMap_append,flatMap_cons,length_append,length_append];omega
   have li:((xs.take i).flatMap (b6 d)).length≤400:=by
    refine le_trans ?_ hz
    conv=>rhs;rw[←take_append_drop i xs,flatMap_append,length_append]
    omega
   have jD:cW d (xs.take (i+1))=i5 1 (cW d (xs.take i)) (aW 1 [] (b6 d x)) (aW 1 [] (b6 d x)):=by
    unfold cW;rw[xY 1 1 (b6 d x) (cC _) (gS _),take_snoc hx,flatMap_append,flatMap_cons,flatMap_nil,append_nil,DV];rfl
   obtain⟨dx,l',Vb,h1,h2,h3⟩:=id hT;refine⟨_,rfl,p,dx,_,rfl,h1,nG _ _ 0e0 0e0,p,x,rfl,hT,gT,lx,λb b8 nb hb e'=>?_⟩;refine tM hu (e' _ _ iL) hb (af iL nb) (cC _) (cC _) ?_ 0e4 0e4 λz'=>⟨_,_,_,rfl,λb' o w'=>?_,?_⟩
   ·have z1:(cW d (xs.take i)).length≤((xs.take i).flatMap (b6 d)).length:=eP ((xs.take i).flatMap (b6 d));have z2:=eP (b6 d x);omega
   ·rw[ah (af w' uu)];exact e' _ _ (e _ _ w')
   ·rw[aa,jD]
  ·rintro σ H' ⟨v,u,z,rfl,e,iL⟩;rw[length_map,lp,take_length] at iL;exact⟨_,rfl,q e0 H' uu iL e⟩
inductive Ap(C G Pc Fo:3e5)(d:Nat)(vs:4e5)(H:Hp)(Q:VK)(E:XK):Prop
 |mk (f:3e5) (xs:List iM) (n:Int) (dH:vs=[.ref f]) (dI:nR C G Pc Fo d H f xs n) (dN:Jj d xs n) (eK:(xs.flatMap (b6 d)).length≤400) (gj:∀e H',H e=none→H' e=some (.dK (cW d xs))→au H H'→Q (.ref e) H')
def jX(C G Pc Fo:3e5)(d:Nat):Sp:=Ap C G Pc Fo d
def jY{d:Nat}{xs:List iM}{n:Int}(h:Jj d xs n):∀x∈xs,Fz d x:=by
 cases xs with
 |nil=>intro x hx;cases hx
 |cons y r=>exact h.2.1
def Gh:av 1e5 1e5 (aj m8):=cX
def Aq(d:Nat)(D:aX K Fo "counts" "Formula.counts" m8 1e5)(T:2e6)(c1:a5 P w K mg base (2*d+4) "parts_counts" ["parts","times"] (tO C G Pc d)):aD P w K mg base (2*d+5) Fo "counts" 1e5 (jX C G Pc Fo d):=by
 obtain⟨_,_,dS⟩:=c1;refine D.cN Gh 0e7 0e1
 ·obtain⟨f,xs,n,rfl,_⟩:=h;rfl
 ·obtain⟨g,xs,n,rfl,⟨dx,l,ps,h1,h2,h3⟩,aM,hz,q⟩:=h;refine⟨_,(ao (aA (fz dS hr (ag 3e6 (ag aq ak))))),?_⟩;exact⟨_,rfl,g,Fo,dx,_,_,rfl,h1,T.br,T.jS,jP _ _,l,ps,xs,rfl,h2,h3,jY aM,hz,q⟩
variable {uC uP uI uD uL uT eM eN eO uG uS:Tok}{Ch:3e5}
structure nX(K:0e9)(mg:1e3)(C R G Pc Fo Ch:3e5)(uK uN uB uE uM uC uP uI uD uL uT eM eN eO uG uS:Tok):Prop extends JC K mg C R G Pc Fo Ch uK uN uB uE uM uC uP uI uD uL uT eM eN eO where
 kX:mg "LONGEST_TERM_COUNT" =some (.int 12 uG)
 tP:mg "ChangeReader" =some (.ref R)
 yj:mg "MOST_TERMS" =some (.int 8 uS)
noncomputable def zx(n:Int):List Nat:=if n=1 then [] else [32]
noncomputable def ix(x:Tm):List Nat:=aK x.1++(zx x.1++fL x.2)
def NewQ(C G Pc Fo:3e5)(H H':Hp)(t:3e5)(x:Tm):Prop:=∀b8,(∀b o,H b=none→H' b=some o→b8 b=some o)→jV C G Pc Fo b8 t x
def P6(C G Pc Fo L:3e5)(H H':Hp)(t:3e5)(x:Tm):Prop:=∀b8,(∀b o,H b=none→b≠L→H' b=some o→b8 b=some o)→jV C G Pc Fo b8 t x
def P7(C G Pc Fo:3e5)(H H':Hp)(l:3e5)(xs:List Tm):Prop:=H l=none∧∃ps,H' l=some (.lst (ps.map V.ref))∧∀b8,(∀b o,H b=none→H' b=some o→b8 b=some o)→Paired (jV C G Pc Fo b8) ps xs
abbrev dJ(x:Tm):Prop:=yg 999999999999 x
inductive JJ(C G Pc Fo R:3e5)(vs:4e5)(H:Hp)(Q:VK)(E:XK):Prop
 |mk (r:3e5) (x:Str) (p:Nat) (tm:Tm) (post:List Nat) (dH:vs=[.ref r]) (dI:de R H r x p) (dN:Here x p (ix tm) post) (eK:Hk post) (gj:dJ tm) (i6:x.length≤1000) (mD:∀t H',H t=none→NewQ C G Pc Fo H H' t tm→de R H' r x (p+(ix tm).length)→Kept r H H'→Q (.ref t) H')
def yk(C G Pc Fo R:3e5):Sp:=JJ C G Pc Fo R
def e32:(" " :Str)=⟨#[32]⟩:=by decide+kernel
def Su(h:Jj 1 x.1 x.2)(post:List Nat):Not kL (fL x++post):=by
 obtain⟨xs,n⟩:=x
 cases xs with
 |nil=>
  intro c hc;rw[show fL ([],n)=[101,94,45] from rfl] at hc;have e:101=c:=by simpa using hc
  subst e;rfl
 |cons x0 r0=>
  obtain⟨_,F7,_⟩:=h;have Sg:=F7 x0 1e6
  have e:fL (x0::r0,n)++post=x0.2.flatMap (bW 1)++(cn 1 r0++g8 n++post):=by
   show x0.2.flatMap (bW 1)++(cn 1 r0++g8 n)++post=_;rw[append_assoc]
  rw[e]
  cases hx:x0.2 with
  |nil=>exact absurd hx Sg.1
  |cons t ts=>
   obtain⟨c,rest,hc,ht⟩:=pF (Sg.2.1 t (by rw[hx];exact mem_cons_self ..));intro b hb;rw[flatMap_cons,hc] at hb;have e:c=b:=by simpa using hb
   subst e;rcases ht with ⟨hg,_⟩ | ⟨rfl,_⟩
   ·simp only [DB,kL,and_eq_true,decide_eq_true_eq] at*;simp;omega
   ·rfl
def NN{x:Tm}(h:Jj 1 x.2.1 x.2.2)(post:List Nat):Not kL (zx x.1++fL x.2++post):=by
 unfold zx;split
 ·exact Su h post
 ·intro c hc;have e:32=c:=by simpa using hc
  subst e;rfl
def P8{n:Int}(h1:1≤n)(h2:n≤999999999999):((aK n).length:Int)≤12:=by
 obtain⟨m,rfl⟩:=eq_ofNat_of_zero_le (show 0≤n by omega);have:=lI (n:=m) (k:=12) 0e4 0e5;rw[cR,a0] at this;show ((aK (m:Int)).length:Int)≤12;omega
def DW:av ["self","count"] 1e5 (aj xG):=cX
def JK(D:aX K R "read_term" "ChangeReader.read_term" xG 1e5)(T:2e0)(c1:aD P w K mg base 2 R "read_number" ["self","longest"] (sJ R))(c2:aD P w K mg base 2 R "take" ["self","sign"] (mC R))(c3:aD P w K mg base 10 R "read_whole" 1e5 (sW C G Pc Fo R 1)):
  aD P w K mg base 11 R "read_term" 1e5 (yk C G Pc Fo R):=by
 obtain⟨_,_,dQ⟩:=c1;obtain⟨_,_,bH⟩:=c2;obtain⟨_,_,bL⟩:=c3;refine D.cN DW 0e7 0e1
 ·obtain⟨r,x,p,tm,post,rfl,_⟩:=h;rfl
 ·obtain⟨r,x,p,tm,post,rfl,⟨dx,hR⟩,hh,L',⟨n1,n2,Gi⟩,hx,q⟩:=h
  refine⟨_,(ai (az (i:=1) DW.nd rfl 0e6 (pq dQ hr T.ax 2e1 (ag (aZ (v:= .int 12) rfl T.kX 2e4) ak))) (ai (bC (aL mR (pv 1) aq (aO _)) (ao (a9 (pq bH hr T.ax 2e1 (ag (aZ (v:= .str " ") rfl T.NI 2e4) ak))))
      aN) (ao (aA (cj (ag (pv 1) (ag (aH 2e1 T.ax bL.m bL.ok 4e3 bL.b .nil a8) ak))))))),?_⟩
  have BW:Here x p (aK tm.1) (zx tm.1++fL tm.2++post):=⟨hh.1,by rw[hh.2];unfold ix;rw[append_assoc]⟩;have Se:Here x (p+(aK tm.1).length) (zx tm.1++fL tm.2) post:=Here.on hh;have Hj:Here x (p+(aK tm.1).length+(zx tm.1).length) (fL tm.2) post:=Here.on Se;refine⟨_,rfl,r,dx,_,rfl,hR,aG _ _ 0e0 0e0,r,x,p,tm.1,12,_,rfl,⟨dx,hR⟩,BW,n1,by omega,P8 n1 n2,NN Gi.1 post,hx,λH1 eL k1=>?_⟩;obtain⟨oM,eL⟩:=eL;dsimp only [cg];refine gi (fun σ' H'=>σ'=[some (.ref r),some (.int tm.1)]∧de R H' r x (p+(aK tm.1).length+(zx tm.1).length)∧Kept r H H') (λN hN=>?_) ?_
  ·refine⟨_,rfl,_,_,rfl,rfl,_,rfl,eF (λe=>?_) λe=>?_⟩
   ·have e:1<tm.1:=by simpa using e
    have eb:zx tm.1=[32]:=if_neg 0e5;rw[eb] at Se hN;refine⟨_,rfl,r,oM,_,rfl,eL,aG _ _ 0e0 0e0,r,x,_,_,32,_,post,rfl,e32,⟨oM,eL⟩,Se,hx,λH2 iJ k2=>hN _ _ ⟨rfl,iJ,k1.trans k2⟩⟩
   ·have e:¬1<tm.1:=by simpa using e
    have eb:zx tm.1=[]:=if_pos 0e5;rw[eb] at hN;exact hN _ _ ⟨rfl,⟨oM,eL⟩,k1⟩
  rintro σ' H2 ⟨rfl,⟨lN,iJ⟩,k2⟩;refine⟨_,rfl,_,rfl,r,lN,_,rfl,iJ,aG _ _ 0e0 0e0,r,x,_,tm.2.1,tm.2.2,post,rfl,⟨lN,iJ⟩,Hj,L',Gi.1,by decide,hx,λf H3 nf hF iK k3=>⟨2e2,λt ht=>?_⟩⟩;obtain⟨x5,iK⟩:=iK;have k13:=k2.trans k3;have st:=au.new (o:= .tup [.int tm.1, .ref f]) ht;refine q t _ (aS k13 iK ht) (λb8 ke=>⟨f,ke _ _ (aS k13 iK ht) aa,hF b8 λb o z1 z2=>ke b o (aS k2 iJ z1) (st _ _ z2)⟩) ⟨x5,?_⟩ (k13.trans (Kept.of st));rw[st _ _ iK]
  have e:(ix tm).length=(aK tm.1).length+((zx tm.1).length+(wL 1 tm.2.1 tm.2.2).length):=by
   unfold ix;rw[length_append,length_append];rfl
  rw[e];congr 3;omega
variable {uC uP uI uD uL uT eM eN eO uG uS:Tok}{Ch:3e5}
noncomputable def JL(x:Tm):List Nat:=[32,43,32]++ix x
def iy(xs:List Tm):List Nat:=xs.flatMap JL
noncomputable def tQ:List Tm→List Nat
 | []=>[]
 |x::r=>ix x++iy r
noncomputable def qt:List Nat:=[32,45,62,32]
inductive Gj(C G Pc Fo R:3e5)(vs:4e5)(H:Hp)(Q:VK)(E:XK):Prop
 |mk (r:3e5) (x:Str) (p:Nat) (xs:List Tm) (post:List Nat) (dH:vs=[.ref r]) (dI:de R H r x p) (dN:Here x p (tQ xs++qt) post) (eK:xs≠[]) (gj:(∀t∈xs,dJ t)) (i6:x.length≤1000) (mD:∀l H',P7 C G Pc Fo H H' l xs→de R H' r x (p+(tQ xs++qt).length)→Kept r H H'→Q (.ref l) H')
def Ar(C G Pc Fo R:3e5):Sp:=Gj C G Pc Fo R
inductive Cd(C G Pc Fo R:3e5)(vs:4e5)(H:Hp)(Q:VK)(E:XK):Prop
 |mk (r:3e5) (x:Str) (p:Nat) (xs:List Tm) (dH:vs=[.ref r]) (dI:de R H r x p) (dN:Here x p (tQ xs) []) (eK:xs≠[]) (gj:(∀t∈xs,dJ t)) (i6:x.length≤1000) (mD:∀l H',P7 C G Pc Fo H H' l xs→Kept r H H'→(∃o,H' r=some o)→Q (.ref l) H')
def wm(C G Pc Fo R:3e5):Sp:=Cd C G Pc Fo R
def ym(xs:List Tm)(h:Hk post):Hk (iy xs++post):=by
 cases xs with
 |nil=>exact h
 |cons x r=>exact .inr 2e4
def yn(x:Tm):(JL x).length=3+(ix x).length:=by
 unfold JL;rw[length_append];rfl
theorem yo:∀xs:List Tm,xs.length≤(iy xs).length
 | []=>zero_le _
 |x::r=>by
  have:=yo r;have h:=yn x;show r.length+1≤(JL x++iy r).length;rw[length_append];omega
def DX(xs:List Tm)(i:Nat):(iy (xs.take i)).length≤(iy xs).length:=by
 unfold iy
 conv=>rhs;rw[←take_append_drop i xs,flatMap_append,length_append]
 omega
def eJ:(" + " :Str).cps.toList=[32,43,32]:=by decide+kernel
def eJa:(" + " :Str).cps.all (· <128)=true:=by decide+kernel
def eJl:(" + " :Str).length=3:=by decide+kernel
def eA:(" -> " :Str).cps.toList=qt:=by decide+kernel
def eAa:(" -> " :Str).cps.all (· <128)=true:=by decide+kernel
def eAl:(" -> " :Str).length=4:=by decide+kernel
def Gk(x:Str){p:Nat}(hp:p+1≤x.length):Txt.slice x (some ((p:Int)+1)) (some ((p:Int)+2))=eU x (p+1):=by
 have:=vJ x hp;have e:(((p+1 :Nat):Int))+1=(p:Int)+2:=by omega
 rw[e] at this;exact this
def As:av ["self","terms"] 1e5 (aj qK):=cX
def Gm(D:aX K R "read_lefts" "ChangeReader.read_lefts" qK 1e5)(T:2e0)(c1:aD P w K mg base 11 R "read_term" 1e5 (yk C G Pc Fo R))(c2:aD P w K mg base 3 R "take_all" ["self","signs"] (lM R)):
  aD P w K mg base 12 R "read_lefts" 1e5 (Ar C G Pc Fo R):=by
 obtain⟨_,_,aP⟩:=c1;obtain⟨_,_,cp⟩:=c2;refine D.cN As 0e7 0e1
 ·obtain⟨r,x,p,xs,post,rfl,_⟩:=h;rfl
 ·obtain⟨r,x,p,xs,post,rfl,⟨dx,hR⟩,hh,kq,aM,hx,q⟩:=h;have big:=bgL
  obtain⟨x0,r0,rfl⟩:∃x0 r0,xs=x0::r0:=by
   cases xs with
   |nil=>exact absurd rfl kq
   |cons a b=>exact⟨a,b,rfl⟩
  refine⟨_,(ai (az (i:=1) As.nd rfl 0e6 (b7 (ag (aH 2e1 T.ax aP.m aP.ok 4e3 aP.b .nil a8) ak))) (ai (je PassesOwn.never (aL me (ie xt 3e6 (eQ (ay bZ 3e6 aq)) (eQ (ay bZ 3e6 aq))) (bQ xf (aZ (v:= .str " -> ") rfl T.DT 2e4) aq 2e7) (aO _)) (ai (a9 (pq cp hr T.ax 2e1 (ag (aZ (v:= .str " + ") rfl T.DS 2e4) ak))) (ao (a9 (jg PySem.F.plainAttrs_list PySem.F.slot_list_append PySem.F.type_list_append dB (pv 1) (ag (aH 2e1 T.ax aP.m aP.ok 4e3 aP.b .nil a8) ak)))))) (ai (a9 (pq cp hr T.ax 2e1 (ag (aZ (v:= .str " -> ") rfl T.DT 2e4) ak))) (ao (aA (pv 1)))))),?_⟩;have hw:Here x p (ix x0++(iy r0++qt)) post:=⟨hh.1,by rw[hh.2];show (ix x0++iy r0)++qt++post=_;simp only [append_assoc]⟩;have Jh:Here x p (ix x0) (iy r0++(qt++post)):=⟨hw.1,by rw[hw.2];simp only [append_assoc]⟩;have hb:Here x (p+(ix x0).length) (iy r0++qt) post:=Here.on hw;have Hh:Here x (p+(ix x0).length) (iy r0) (qt++post):=⟨hb.1,by rw[hb.2];simp only [append_assoc]⟩;have Sv:Here x (p+(ix x0).length+(iy r0).length) qt post:=Here.on hb;have ea:Hk (qt++post):= .inr 2e4;refine⟨_,rfl,r,dx,_,rfl,hR,aG _ _ 0e0 0e0,r,x,p,x0,_,rfl,⟨dx,hR⟩,Jh,ym r0 ea,aM x0 1e6,hx,λt0 H1 nt0 hN eL k1=>⟨(by show 1≤sizeLine;decide),λL hL=>?_⟩⟩;obtain⟨oM,eL⟩:=eL;have Aa:H L=none:=aS k1 eL hL;have Ab:L≠r:=λz=>by rw[z,eL] at hL;cases hL
  have sL:au H1 (upd H1 L (.lst [V.ref t0])):=au.new hL;refine 4e0;rintro k σ H' ⟨i,hk,rfl,⟨dm,eB⟩,kk,ps,vS,gX,hP⟩;have hle:=Sv.le;have zA:=DX r0 i;have Va:=yo r0;have a4:qt.length=4:=rfl;refine⟨_,rfl,r,R,dm,_,_,rfl,eB,T.ax,T.jO,f6 _ _,_,rfl,r,R,dm,_,_,rfl,eB,T.ax,T.cm,bu _ _,_,_,rfl,rfl,_,rfl,_,rfl,r,R,dm,_,_,rfl,eB,T.ax,T.cm,bu _ _,_,_,rfl,rfl,_,rfl,x,rfl,by omega," -> ",1,45,rfl,rfl,0e0,0e0,rfl,_,rfl,?_⟩;rw[Gk x 0e5];by_cases hi:i<r0.length
  ·have h2:Here x (p+(ix x0).length+(iy (r0.take i)).length) (JL r0[i]) (iy (r0.drop (i+1))++(qt++post)):=ya JL Hh hi;have Nv:=aM _ (mem_cons_of_mem _ (getElem_mem hi));have h3:Here x (p+(ix x0).length+(iy (r0.take i)).length) [32,43,32] (ix r0[i]++(iy (r0.drop (i+1))++(qt++post))):=⟨h2.1,by rw[h2.2];rfl⟩;have h4:Here x (p+(ix x0).length+(iy (r0.take i)).length+3) (ix r0[i]) (iy (r0.drop (i+1))++(qt++post)):=Here.on (t:=[32,43,32]) h2;have h5:eU x (p+(ix x0).length+(iy (r0.take i)).length+1)=⟨#[43]⟩:=(Here.on (t:=[32]) (u:=[43,32]) h3).sg;rw[h5,decide_eq_false (qZ 0e4)];refine gK ⟨_,fun σ' b8 h=>⟨k - 1,by omega,h⟩,?_⟩;refine⟨_,rfl,r,dm,_,rfl,eB,aG _ _ 0e0 0e0,r,x,_,_,_,rfl,eJa,⟨dm,eB⟩,(by rw[eJ];exact h3),hx,λH3 iK k3=>?_⟩;rw[eJl] at iK;obtain⟨x5,iK⟩:=iK;have nU:=k3 _ _ vS Ab;have yT:=kk.trans k3;refine⟨_,rfl, .inl ⟨rfl,_,bM.of nU⟩,_,rfl,r,x5,_,rfl,iK,aG _ _ 0e0 0e0,r,x,_,r0[i],_,rfl,⟨x5,iK⟩,h4,ym _ ea,Nv,hx,λt H4 nt hN4 vP k4=>?_⟩;obtain⟨L9,vP⟩:=vP;have DK:=k4 _ _ nU Ab;have Nw:=k3.trans k4;refine⟨L,_,_,rfl,rfl,DK,by rw[length_map];omega,i+1,by omega,rfl,⟨L9,?_⟩,λb o z w=>?_,ps++[t],by rw[aa,map_append];rfl,by rw[length_append,gX];rfl,?_⟩
   ·rw[ah (Ne.symm Ab),vP];have e:=yb JL hi
    have e':(iy (r0.take (i+1))).length=(iy (r0.take i)).length+(3+(ix r0[i]).length):=by
     unfold iy;rw[e,length_append,yn]
    rw[e'];congr 3;omega
   ·rw[ah (af z Aa)];exact Nw _ _ (kk _ _ z w) w
   ·rw[take_add_one,getElem?_eq_getElem hi];refine bT (as:=ps) (bs:=x0::r0.take i) (λb8 ke=>hN4 b8 λb o z1 z2=>?_) (aJ (λc t h b8 ke=>h b8 λb o z1 z2 z3=>ke b o z1 z2 ?_) hP)
    ·have DH:b≠L:=λz=>by rw[z,nU] at z1;cases z1
     exact ke b o (aS yT iK z1) DH (by rw[ah DH];exact z2)
    ·have Bc:b≠r:=λz=>by rw[z,hR] at z1;cases z1
     rw[ah z2];exact Nw _ _ z3 Bc
  ·have ei:i=r0.length:=by omega
   rw[ei,take_length] at eB hP ⊢;have h5:eU x (p+(ix x0).length+(iy r0).length+1)=⟨#[45]⟩:=(Here.on (t:=[32]) (u:=[45,62,32]) Sv).sg;rw[h5,decide_eq_true rfl];refine d7 ?_;refine⟨_,rfl,r,dm,_,rfl,eB,aG _ _ 0e0 0e0,r,x,_,_,post,rfl,eAa,⟨dm,eB⟩,(by rw[eA];exact Sv),hx,λH3 iK k3=>?_⟩;rw[eAl] at iK;have nU:=k3 _ _ vS Ab
   have el:p+(ix x0).length+(iy r0).length+4=p+(tQ (x0::r0)++qt).length:=by
    rw[length_append];show _=p+((ix x0++iy r0).length+4);rw[length_append];omega
   rw[el] at iK;refine⟨_,rfl,q L H3 ⟨Aa,ps,nU,λb8 ke=>aJ (λc t h=>h b8 λb o z1 z2 z3=>ke b o z1 ?_) hP⟩ iK (kk.trans k3)⟩;have Bc:b≠r:=λz=>by rw[z,hR] at z1;cases z1
   exact k3 _ _ z3 Bc
variable {uC uP uI uD uL uT eM eN eO uG uS:Tok}{Ch:3e5}
def wo:av ["self","terms"] 1e5 (aj nq):=cX
def Cf(D:aX K R "read_rights" "ChangeReader.read_rights" nq 1e5)(T:2e0)(c1:aD P w K mg base 11 R "read_term" 1e5 (yk C G Pc Fo R))(c2:aD P w K mg base 3 R "take_all" ["self","signs"] (lM R)):
  aD P w K mg base 12 R "read_rights" 1e5 (wm C G Pc Fo R):=by
 obtain⟨_,_,aP⟩:=c1;obtain⟨_,_,cp⟩:=c2;refine D.cN wo 0e7 0e1
 ·obtain⟨r,x,p,xs,rfl,_⟩:=h;rfl
 ·obtain⟨r,x,p,xs,rfl,⟨dx,hR⟩,hh,kq,aM,hx,q⟩:=h;have big:=bgL
  obtain⟨x0,r0,rfl⟩:∃x0 r0,xs=x0::r0:=by
   cases xs with
   |nil=>exact absurd rfl kq
   |cons a b=>exact⟨a,b,rfl⟩
  refine⟨_,(ai (az (i:=1) wo.nd rfl 0e6 (b7 (ag (aH 2e1 T.ax aP.m aP.ok 4e3 aP.b .nil a8) ak))) (ai (je PassesOwn.never (aL pZ 3e6 (bS jC rfl T.nH jE (ag 3e6 ak)) (aO _)) (ai (a9 (pq cp hr T.ax 2e1 (ag (aZ (v:= .str " + ") rfl T.DS 2e4) ak))) (ao (a9 (jg PySem.F.plainAttrs_list PySem.F.slot_list_append PySem.F.type_list_append dB (pv 1) (ag (aH 2e1 T.ax aP.m aP.ok 4e3 aP.b .nil a8) ak)))))) (ao (aA (pv 1))))),?_⟩;have hw:Here x p (ix x0++iy r0) []:=hh;have Jh:Here x p (ix x0) (iy r0++[]):=⟨hw.1,by rw[hw.2];simp only [append_assoc]⟩;have Hh:Here x (p+(ix x0).length) (iy r0) []:=Here.on hw
  have uR:x.length=p+(ix x0).length+(iy r0).length:=by
   have:=congrArg List.length hw.2;have h1:=hw.1;have hl:x.cps.toList.length=x.length:=by simp [Str.length]
   rw[length_drop,length_append,length_append,hl] at this;simp at this;omega
  have ea:Hk []:= .inl rfl;refine⟨_,rfl,r,dx,_,rfl,hR,aG _ _ 0e0 0e0,r,x,p,x0,_,rfl,⟨dx,hR⟩,Jh,ym r0 ea,aM x0 1e6,hx,λt0 H1 nt0 hN eL k1=>⟨(by show 1≤sizeLine;decide),λL hL=>?_⟩⟩;obtain⟨oM,eL⟩:=eL;have Aa:H L=none:=aS k1 eL hL;have Ab:L≠r:=λz=>by rw[z,eL] at hL;cases hL
  have sL:au H1 (upd H1 L (.lst [V.ref t0])):=au.new hL;refine 4e0;rintro k σ H' ⟨i,hk,rfl,⟨dm,eB⟩,kk,ps,vS,gX,hP⟩;have zA:=DX r0 i;have Va:=yo r0;refine⟨_,rfl,r,R,dm,_,_,rfl,eB,T.ax,T.cm,bu _ _,_,rfl,r,R,dm,_,_,rfl,eB,T.ax,T.jO,f6 _ _,x,rfl,le_trans hx 0e4,_,_,rfl,rfl,_,rfl,?_⟩;by_cases hi:i<r0.length
  ·have h2:Here x (p+(ix x0).length+(iy (r0.take i)).length) (JL r0[i]) (iy (r0.drop (i+1))++[]):=ya JL Hh hi;have Nv:=aM _ (mem_cons_of_mem _ (getElem_mem hi));have h3:Here x (p+(ix x0).length+(iy (r0.take i)).length) [32,43,32] (ix r0[i]++(iy (r0.drop (i+1))++[])):=⟨h2.1,by rw[h2.2];rfl⟩;have h4:Here x (p+(ix x0).length+(iy (r0.take i)).length+3) (ix r0[i]) (iy (r0.drop (i+1))++[]):=Here.on (t:=[32,43,32]) h2
   have oH:p+(ix x0).length+(iy (r0.take i)).length<x.length:=by
    have:=h3.le;have e:[32,43,32].length=3:=rfl;omega
   refine xn 0e5 ?_;refine⟨_,fun σ' b8 h=>⟨k - 1,by omega,h⟩,?_⟩;refine⟨_,rfl,r,dm,_,rfl,eB,aG _ _ 0e0 0e0,r,x,_,_,_,rfl,eJa,⟨dm,eB⟩,(by rw[eJ];exact h3),hx,λH3 iK k3=>?_⟩;rw[eJl] at iK;obtain⟨x5,iK⟩:=iK;have nU:=k3 _ _ vS Ab;have yT:=kk.trans k3;refine⟨_,rfl, .inl ⟨rfl,_,bM.of nU⟩,_,rfl,r,x5,_,rfl,iK,aG _ _ 0e0 0e0,r,x,_,r0[i],_,rfl,⟨x5,iK⟩,h4,ym _ ea,Nv,hx,λt H4 nt hN4 vP k4=>?_⟩;obtain⟨L9,vP⟩:=vP;have DK:=k4 _ _ nU Ab;have Nw:=k3.trans k4;refine⟨L,_,_,rfl,rfl,DK,by rw[length_map];omega,i+1,by omega,rfl,⟨L9,?_⟩,λb o z w=>?_,ps++[t],by rw[aa,map_append];rfl,by rw[length_append,gX];rfl,?_⟩
   ·rw[ah (Ne.symm Ab),vP];have e:=yb JL hi
    have e':(iy (r0.take (i+1))).length=(iy (r0.take i)).length+(3+(ix r0[i]).length):=by
     unfold iy;rw[e,length_append,yn]
    rw[e'];congr 3;omega
   ·rw[ah (af z Aa)];exact Nw _ _ (kk _ _ z w) w
   ·rw[take_add_one,getElem?_eq_getElem hi];refine bT (as:=ps) (bs:=x0::r0.take i) (λb8 ke=>hN4 b8 λb o z1 z2=>?_) (aJ (λc t h b8 ke=>h b8 λb o z1 z2 z3=>ke b o z1 z2 ?_) hP)
    ·have DH:b≠L:=λz=>by rw[z,nU] at z1;cases z1
     exact ke b o (aS yT iK z1) DH (by rw[ah DH];exact z2)
    ·have Bc:b≠r:=λz=>by rw[z,hR] at z1;cases z1
     rw[ah z2];exact Nw _ _ z3 Bc
  ·have ei:i=r0.length:=by omega
   rw[ei,take_length] at eB hP ⊢;refine rW 0e5 ?_;exact⟨_,rfl,q L H' ⟨Aa,ps,vS,λb8 ke=>aJ (λc t h=>h b8 λb o z1 z2 z3=>ke b o z1 z3) hP⟩ kk ⟨_,eB⟩⟩
variable {uC uP uI uD uL uT eM eN eO uG uS:Tok}{Ch:3e5}
def NO(C G Pc Fo Ch:3e5)(H H':Hp)(c:3e5)(xs ys:List Tm):Prop:=∀b8,(∀b o,H b=none→H' b=some o→b8 b=some o)→dz C G Pc Fo Ch b8 c xs ys
inductive Gn(C G Pc Fo Ch R:3e5)(vs:4e5)(H:Hp)(Q:VK)(E:XK):Prop
 |mk (r:3e5) (x:Str) (xs ys:List Tm) (dH:vs=[.ref r]) (dI:de R H r x 0) (dN:x.cps.toList=tQ xs++qt++tQ ys) (eK:xs≠[]) (gj:ys≠[]) (i6:(∀t∈xs,dJ t)) (mD:(∀t∈ys,dJ t)) (qY:x.length≤1000) (zX:∀c H',H c=none→NO C G Pc Fo Ch H H' c xs ys→Kept r H H'→Q (.ref c) H')
def Au(C G Pc Fo Ch R:3e5):Sp:=Gn C G Pc Fo Ch R
inductive Cg(C G Pc Fo Ch:3e5)(vs:4e5)(H:Hp)(Q:VK)(E:XK):Prop
 |mk (x:Str) (xs ys:List Tm) (dH:vs=[.str x]) (dI:x.cps.toList=tQ xs++qt++tQ ys) (dN:xs≠[]) (eK:ys≠[]) (gj:(∀t∈xs,dJ t)) (i6:(∀t∈ys,dJ t)) (mD:x.length≤400) (qY:xs.length+ys.length≤8) (zX:∀c H',H c=none→NO C G Pc Fo Ch H H' c xs ys→au H H'→Q (.ref c) H')
def pO(C G Pc Fo Ch:3e5):Sp:=Cg C G Pc Fo Ch
def Av:av ["self","lefts"] 1e5 (aj qL):=cX
def Gp(D:aX K R "read_sides" "ChangeReader.read_sides" qL 1e5)(T:2e0)(c1:aD P w K mg base 12 R "read_lefts" 1e5 (Ar C G Pc Fo R))(c2:aD P w K mg base 12 R "read_rights" 1e5 (wm C G Pc Fo R))(c3:gG P w K mg base 1 Ch ["self","lefts","rights"] [] (DU Ch)):
  aD P w K mg base 13 R "read_sides" 1e5 (Au C G Pc Fo Ch R):=by
 obtain⟨_,_,d9⟩:=c1;obtain⟨_,_,dU⟩:=c2;obtain⟨_,_,bY⟩:=c3;obtain⟨_,Ci,Cj⟩:=bY.b 0 0e4;refine D.cN Av 0e7 0e1
 ·obtain⟨r,x,xs,ys,rfl,_⟩:=h;rfl
 ·obtain⟨r,x,xs,ys,rfl,⟨dx,hR⟩,uR,nx,ny,gT,nY,hx,q⟩:=h;refine⟨_,(ai (az (i:=1) Av.nd rfl 0e6 (aH 2e1 T.ax d9.m d9.ok 4e3 d9.b .nil a8)) (ao (aA (gb bY.m bY.ok 4e3 rfl T.JD Cj Ci a8 (ag (pv 1) (ag (aH 2e1 T.ax dU.m dU.ok 4e3 dU.b .nil a8) ak)))))),?_⟩;have hw:Here x 0 (tQ xs++qt++tQ ys) []:=Ac uR;have Jh:Here x 0 (tQ xs++qt) (tQ ys):=⟨hw.1,by rw[hw.2,append_nil]⟩;have BW:Here x (0+(tQ xs++qt).length) (tQ ys) []:=Here.on hw;refine⟨_,rfl,r,dx,_,rfl,hR,aG _ _ 0e0 0e0,r,x,0,xs,_,rfl,⟨dx,hR⟩,Jh,nx,gT,hx,λl H1 hN1 eL k1=>?_⟩;obtain⟨oM,eL⟩:=eL;refine⟨_,rfl,_,rfl,r,oM,_,rfl,eL,aG _ _ 0e0 0e0,r,x,_,ys,rfl,⟨oM,eL⟩,BW,ny,nY,hx,λm H2 hN2 k2 iJ=>?_⟩;obtain⟨o2,iJ⟩:=iJ;obtain⟨hl0,ps,uq,MP⟩:=hN1;obtain⟨WZ,us,hm1,U5⟩:=hN2;have nlr':l≠r:=λz=>by rw[z,hR] at hl0;cases hl0
  have uo:=k2 _ _ uq nlr';have k12:=k1.trans k2;refine λc dc nc ndc nec=>⟨c,dc,l,m,ps.map V.ref,us.map V.ref,rfl,aa,?_,?_,λn1 n2 H3 hn1 Pu n12 Be hn13 hn23 kp=>⟨rfl,?_⟩⟩
  ·rw[ah (af uo nc),ah (af uo ndc)];exact uo
  ·rw[ah (af hm1 nc),ah (af hm1 ndc)];exact hm1
  have s3:au H2 H3:=λb o z=>kp b o (by rw[ah (af z nc),ah (af z ndc)];exact z) (af z nc);have back:∀b,H2 b=none→H b=none:=λb z=>aS k12 iJ z;refine q c H3 (back c nc) (λb8 ke=>⟨dc,n1,n2,ke _ _ (back c nc) Be,⟨ps,ke _ _ (back n1 (f7 hn1)) hn13,MP b8 λb o z1 z2=>?_⟩,⟨us,ke _ _ (back n2 (f7 Pu)) hn23,U5 b8 λb o z1 z2=>?_⟩⟩) (k12.trans (Kept.of s3))
  ·have Bc:b≠r:=λz=>by rw[z,hR] at z1;cases z1
   exact ke b o z1 (s3 _ _ (k2 _ _ z2 Bc))
  ·exact ke b o (aS k1 eL z1) (s3 _ _ z2)
def pP:av ["text","change","many"] ["text"] (aj nu):=cX
def Ck(D:Def K mg "read_change" "read_change" nu ["text"])(T:2e0)(c1:a5 P w K mg base 1 "refuse_too_long" ["text"] pI)(c2:gG P w K mg base 1 R ["self","text"] [] (xZ R))(c3:aD P w K mg base 13 R "read_sides" 1e5 (Au C G Pc Fo Ch R)):
  a5 P w K mg base 14 "read_change" ["text"] (pO C G Pc Fo Ch):=by
 obtain⟨_,_,fK⟩:=c1;obtain⟨_,_,iz⟩:=c2;obtain⟨_,_,eh⟩:=c3;obtain⟨_,pQ,pR⟩:=iz.b 0 0e4;refine D.cN pP 0e7 0e1
 ·obtain⟨x,xs,ys,rfl,_⟩:=h;rfl
 ·obtain⟨x,xs,ys,rfl,uR,nx,ny,gT,nY,hx,h8,q⟩:=h
  refine⟨_,(ai (a9 (fz fK hr (ag 2e1 ak))) (ai (RH (λ_ _ z=>z) (ao (az (i:=1) pP.nd rfl 0e6 (aH (gb iz.m iz.ok 4e3 rfl T.tP pR pQ a8 (ag 2e1 ak)) T.ax eh.m eh.ok 4e3 eh.b .nil a8)))) (ai (az (i:=2) pP.nd rfl 0e6 (ay bZ (bS fF rfl T.nH jE (ag (aQ (pv 1) rfl) ak)) (bS fF rfl T.nH jE (ag (aQ (pv 1) rfl) ak)))) (ai (bC (aL mR (pv 2) (aZ (v:= .int 8) rfl T.yj 2e4) (aO _)) (ao
       gq)
      aN) (ao (aA (pv 1))))))),?_⟩
  refine⟨_,rfl,x,rfl,hx,?_⟩;refine⟨_,rfl,λr dr nr ndr ner=>⟨r,dr,x,rfl,aa,λH1 eL k1=>⟨rfl,?_⟩⟩⟩;obtain⟨oM,eL⟩:=eL;have s1:au H H1:=λb o z=>k1 b o (by rw[ah (af z nr),ah (af z ndr)];exact z) (af z nr);refine⟨r,oM,_,rfl,eL,aG _ _ 0e0 0e0,r,x,xs,ys,rfl,⟨oM,eL⟩,uR,nx,ny,gT,nY,by omega,λc H2 nc hC k2=>?_⟩
  have back:∀b,H1 b=none→H b=none:=λb z=>by
   cases hh:H b with
   |none=>rfl
   |some o=>rw[s1 _ _ hh] at z;cases z
  have hC2:=hC H2 λb o _ z=>z;obtain⟨dc,l,m,hc,⟨ps,hl,hP⟩,⟨us,hm,hU⟩⟩:=hC2;have e1:=Paired.length hP;have e2:=Paired.length hU;refine⟨_,rfl,c,Ch,dc,_,_,rfl,hc,T.bY,T.iq,fj _ _,l,_,rfl, .inl (bM.of hl),_,rfl,c,Ch,dc,_,_,rfl,hc,T.bY,T.jo,gR _ _,m,_,rfl, .inl (bM.of hm),_,_,rfl,rfl,?_⟩;refine⟨_,rfl,_,_,rfl,rfl,_,rfl,rW (by rw[length_map,length_map];omega) ?_⟩;exact⟨_,rfl,q c H2 (back c nc) (λb8 ke=>hC b8 λb o z1 z2=>ke b o (back b z1) z2) λb o z=>k2 b o (s1 _ _ z) (af z nr)⟩
variable {uC uP uI uD uL uT eM eN eO uG uS:Tok}{Ch:3e5}
def gm(xs:List Tm):List (Str×Int):=xs.map λx=>((⟨(fL x.2).toArray⟩:Str),x.1)
inductive uY(C G Pc Fo:3e5)(vs:4e5)(H:Hp)(Q:VK)(E:XK):Prop
 |mk (l:3e5) (xs:List Tm) (dH:vs=[.ref l]) (dI:ir C G Pc Fo H l xs) (dN:(∀x∈xs,bJ x.2)) (eK:xs.length≤20) (gj:∀e H',H e=none→H' e=some (.dK (aW 1 [] (gm xs)))→au H H'→Q (.ref e) H')
def gU(C G Pc Fo:3e5):Sp:=uY C G Pc Fo
def JM{xs:List Tm}{i:Nat}{y:Tm}(h:xs[i]? =some y):aW 1 [] (gm (xs.take (i+1)))=bN (aW 1 [] (gm (xs.take i))) (Sum.inr ⟨(fL y.2).toArray⟩) y.1:=by
 unfold gm aW;rw[take_snoc h,map_append,foldl_append];show bN _ _ (y.1*1)=_;rw[mul_one]
def fN:av ["terms","total","count","formula","text"] ["terms"] (aj iQ):=cX
def uZ(D:Def K mg "side_counts" "side_counts" iQ ["terms"])(T:2e0)(c1:aD P w K mg base 7 Fo "shown" 1e5 (wc C G Pc Fo 1)):a5 P w K mg base 8 "side_counts" ["terms"] (gU C G Pc Fo):=by
 obtain⟨_,_,gE⟩:=c1;refine D.cN fN 0e7 0e1
 ·obtain⟨l,xs,rfl,_⟩:=h;rfl
 ·obtain⟨l,xs,rfl,⟨ts,hl,hP⟩,aM,h20,q⟩:=h;have hu:=cM hr;have big:(2000 :Nat) <sizeLine:=by decide
  have gX:=Paired.length hP;refine⟨_,(ai (az (i:=1) fN.nd rfl 0e6 dq) (ai (bU PassesOwn.never rfl (cE 2e1) (ia rfl (a6 (aB (i:=2) fN.nd rfl 0e6) (a6 (aB (i:=3) fN.nd rfl 0e6) dY))) (ai (az (i:=4) fN.nd rfl 0e6 (aH (pv 3) T.br gE.m gE.ok 4e3 gE.b .nil a8)) (ao (cF hu (pv 1) (pv 4) (ay bZ (b5 hu (pv 1) (pv 4) aq ⟨rfl,rfl,rfl,rfl⟩) (pv 2)) rfl)))) (ao (aA (pv 1))))),?_⟩;refine λd hd=>?_;have sD:=au.new (o:= .dK []) hd;refine⟨_,rfl,l,rfl,⟨_,bM.of (sD _ _ hl)⟩,dP (K:=K) (a:=l) (xs:=ts.map V.ref) (λi σ H'=>∃v2 v3 v4:Option V,σ=[some (.ref l),some (.ref d),v2,v3,v4]∧H' d=some (.dK (aW 1 [] (gm (xs.take i))))∧au H H') ?_ (λi σ H' _ ⟨_,_,_,_,_,e⟩=>bM.of (e _ _ hl)) ?_ ?_⟩
  ·exact⟨none,none,none,rfl,aa,sD⟩
  ·rintro i v σ H' hi ⟨v2,v3,v4,rfl,iL,e⟩;rw[getElem?_map] at hi;obtain⟨t,ht,rfl⟩:=gMp hi;obtain⟨y,hy,fo,h1,h2⟩:=bG hP ht;obtain⟨dx,fl,fps,W2,_⟩:=id h2;have gT:=aM y (mem_of_getElem? hy);have zl:(wL 1 y.2.1 y.2.2).length≤1000:=le_trans gT.2.1 0e4;have hI:aU (aW 1 [] (gm (xs.take i))):=jK 1 _ _ λp hp=>by cases hp
   have l9:=jL 1 (gm (xs.take i)) [];have hal:(gm (xs.take i)).length≤20:=by unfold gm;rw[length_map,length_take];omega
   rw[length_nil] at l9;refine⟨t,_,rfl,km.of (e _ _ h1),rfl,_,_,rfl,_,_,rfl,rfl,?_⟩;refine⟨_,rfl,fo,dx,_,rfl,e _ _ W2,kQ _ _ 0e0 0e0,fo,_,_,rfl,h2.same e,gT.1,zl,λH2 e2=>?_⟩;have hd2:=e2 _ _ iL;refine⟨_,rfl,d,rfl, .inl ⟨_, .inl hd2⟩,_,rfl,_,fU.k (k:=Sum.inr ⟨(fL y.2).toArray⟩) hd2,_,rfl,_,_,hI.at _,rfl,_,rfl,_,rfl,d,_,rfl,i4.k (k:=Sum.inr ⟨(fL y.2).toArray⟩) hd2 0e5,?_⟩;refine⟨_,_,_,rfl,?_,λb o z=>?_⟩
   ·rw[aa,JM hy];rfl
   ·rw[ah (af z hd)];exact e2 _ _ (e _ _ z)
  ·rintro σ H' ⟨v2,v3,v4,rfl,iL,e⟩;rw[length_map,gX,take_length] at iL;exact⟨_,rfl,q d H' hd iL e⟩
variable {uC uP uI uD uL uT eM eN eO uG uS:Tok}{Ch:3e5}
def qf(KV L:0e2):List (Key×V):=(L.filter λp=>decide (¬aE KV p.1=0)).map λp=>(p.1,V.int (aE KV p.1))
def Gq{KV L:0e2}{i:Nat}{p:Key×V}(h:L[i]? =some p)(z:aE KV p.1=0):qf KV (L.take (i+1))=qf KV (L.take i):=by
 unfold qf;rw[take_snoc h,filter_append,show [p].filter (λp=>decide (¬aE KV p.1=0))=[] by simp [z],append_nil]
def Gs{KV L:0e2}{i:Nat}{p:Key×V}(h:L[i]? =some p)(z:¬aE KV p.1=0):qf KV (L.take (i+1))=qf KV (L.take i)++[(p.1,V.int (aE KV p.1))]:=by
 unfold qf;rw[take_snoc h,filter_append,show [p].filter (λp=>decide (¬aE KV p.1=0))=[p] by simp [z],map_append];rfl
def Aw(KV L:0e2):List.Sublist ((qf KV L).map 1e8) (L.map 1e8):=by
 unfold qf;rw[map_map];exact(List.filter_sublist (l:=L)).map _
def JN(KV:0e2)(h:(L.map 1e8).Nodup):((qf KV L).map 1e8).Nodup:=(Aw KV L).nodup h
def DY(KV L:0e2):aU (qf KV L):=by
 intro p hp;obtain⟨q,_,rfl⟩:=mem_map.mp hp;exact 2e4
def yp(KV L:0e2):(qf KV L).length≤L.length:=by
 unfold qf;rw[length_map];exact List.length_filter_le _ _
noncomputable def wq(xs ys:List Tm):List (Key×V):=aW (-1) (aW 1 [] (gm ys)) (gm xs)
def gH(xs ys:List Tm):List (Key×V):=qf (wq xs ys) (wq xs ys)
def yq(xs ys:List Tm):aU (wq xs ys):=jK _ _ _ (cC _)
def Cm(xs ys:List Tm):((wq xs ys).map 1e8).Nodup:=xR _ _ _ (gS _)
def yr(xs ys:List Tm):(wq xs ys).length≤xs.length+ys.length:=by
 have h1:=jL (-1) (gm xs) (aW 1 [] (gm ys));have h2:=eP (gm ys);have e:∀zs:List Tm,(gm zs).length=zs.length:=λzs=>by unfold gm;rw[length_map]
 rw[e] at h1 h2;show (aW _ _ _).length≤_;omega
inductive JO(C G Pc Fo Ch:3e5)(vs:4e5)(H:Hp)(Q:VK)(E:XK):Prop
 |mk (c:3e5) (xs ys:List Tm) (dH:vs=[.ref c]) (dI:dz C G Pc Fo Ch H c xs ys) (dN:(∀x∈xs,bJ x.2)) (eK:(∀y∈ys,bJ y.2)) (gj:xs.length≤20) (i6:ys.length≤20) (mD:∀e H',H e=none→H' e=some (.dK (gH xs ys))→au H H'→Q (.ref e) H')
def yt(C G Pc Fo Ch:3e5):Sp:=JO C G Pc Fo Ch
def JP(hu:X.A.units+1<cLine)(hd:H d=some (.dK acc))(he:H e=some (.dK gz))(kq:d≠e)(hI:aU acc)(W0:aU gz)(hl:acc.length+gz.length≤1000)(fin:∀z:Option V,D.nx [some (.ref c),some (.ref d),some (.ref e),z] (upd H d (.dK (i5 (-1) acc gz gz)))):
  HS X (Q6 (HR X (kr 2)) (cg 3) (HI (kr 1) (kr 3) (Q7 (L1 λi j=> .int (i - j)) (Bu (kr 1) (kr 3) (tC (.int 0))) (HH (kr 2) (kr 3))))) D [some (.ref c),some (.ref d),some (.ref e),v3] H:=by
 refine⟨_,rfl,e,gz,rfl,he,λo nf=>cQ nf (λj σ H'=>∃z:Option V,σ=[some (.ref c),some (.ref d),some (.ref e),z]∧H'=upd H d (.dK (i5 (-1) acc (gz.take j) gz))) ?_ ?_ ?_ ?_⟩
 ·exact⟨v3,rfl,(eG hd).symm⟩
 ·rintro i σ H' ⟨_,_,rfl⟩;rw[ah (Ne.symm kq)];exact he
 ·rintro i k v σ H' hi ⟨z,rfl,rfl⟩;have xm:∀o',(upd (upd H d (.dK (i5 (-1) acc (gz.take i) gz))) e o') d=some (.dK (i5 (-1) acc (gz.take i) gz)):=λo'=>by rw[ah kq];exact aa
  have hv:=W0.d5 (mem_of_getElem? hi);have NL:aU (i5 (-1) acc (gz.take i) gz):=mul_int (-1) gz _ _ hI;have hli:=yh (-1) gz (gz.take i) acc;have P5:(gz.take i).length≤gz.length:=length_take_le' _ _;refine⟨_,rfl,d,rfl, .inl ⟨_, .inl (xm _)⟩,_,rfl,_,fU.k (k:=k) (xm _),_,rfl,_,rfl,e,V.int (aE gz k),rfl, .inl ⟨_,k, .inr ⟨o,aa⟩,rfl,hv.symm⟩,_,_,NL.at k,rfl,_,rfl,_,rfl,d,_,rfl,i4.k (k:=k) (xm _) (lB ?_),?_⟩
  ·omega
  ·refine⟨by rw[ah (Ne.symm kq)];exact aa,some (kV k),rfl,?_⟩;have ez:∀a b:Int,a - b=a+b*(-1):=λa b=>by omega
   rw[nW kq he,Aj (-1) gz acc hi];unfold bN;rw[←ez]
 ·rintro σ H' ⟨z,rfl,rfl⟩;rw[take_length];exact fin z
def Pvg(o:Obj)(KV:0e2)(d D2:3e5)(H2:Hp):Nat→St→Hp→Prop:=λi σ H'=>∃(v:Option V) (ps:List (Addr×Key×V)),σ=[v,some (.ref d)]∧H' d=some (.dX o (.dK KV))∧H' D2=some (.lst (ps.map λp=> .ref p.1))∧(∀p∈ps,H' p.1=some (.tup [kV p.2.1,p.2.2]))∧ps.map (·.2)=qf KV (KV.take i)∧∀b o',H2 b=some o'→b≠d→H' b=some o'
def q9:av ["change","more","taken","text"] ["change"] (aj sy):=cX
def JQ(D:Def K mg "gains" "gains" sy ["change"])(T:2e0)(c1:a5 P w K mg base 8 "side_counts" ["terms"] (gU C G Pc Fo)):a5 P w K mg base 9 "gains" ["change"] (yt C G Pc Fo Ch):=by
 obtain⟨_,_,dE⟩:=c1;refine D.cN q9 0e7 0e1
 ·obtain⟨c,xs,ys,rfl,_⟩:=h;rfl
 ·obtain⟨c,xs,ys,rfl,⟨dc,l,r,hc,hl,Mb⟩,gT,nY,lx,ly,q⟩:=h;have hu:=cM hr;have big:(2000 :Nat) <sizeLine:=by decide
  refine⟨_,(ai (az (i:=1) q9.nd rfl (Or.inr rfl) (fz dE hr (ag 3e6 ak))) (ai (az (i:=2) q9.nd rfl 0e6 (fz dE hr (ag 3e6 ak))) (ai (cY (bU PassesOwn.never rfl (cJ (pv 2)) (aB (i:=3) q9.nd rfl 0e6) (ao (cF hu (pv 1) (pv 3) (ay oZ (b5 hu (pv 1) (pv 3) aq ⟨rfl,rfl,rfl,rfl⟩) (bX hu (pv 2) (pv 3) 2e7)) rfl)))) (ao (aA (bq (mz rfl) rfl T.ja gM (ag (qB (gg (sc:=(aj sy)) (NX:=["change","more","taken","text"]) (N:=["text","more"]) (fr:=[none,some 1]) 0e8 rfl rfl rfl (cJ (pv 1)) (λ_ _ _ _=>(aB (i:=0) (show (["text","more"]:List Str).Nodup by decide+kernel) rfl 0e6 (Or.inr rfl))) (λ_ _ _ _=>(qC (aL me (bX hu (pv 1) 2e1 2e7) aq (aO _)))) (λ_ _ _ _=>(cj (ag 2e1 (ag (bX hu (pv 1) 2e1 2e7) ak)))))) ak))))))),?_⟩;refine⟨_,rfl,c,Ch,dc,_,_,rfl,hc,T.bY,T.jo,gR _ _,r,ys,rfl,Mb,nY,ly,λd H1 nd hd e1=>?_⟩;refine⟨_,rfl,c,Ch,dc,_,_,rfl,e1 _ _ hc,T.bY,T.iq,fj _ _,l,xs,rfl,hl.same e1,gT,lx,λe H2 ne he e2=>?_⟩;have kq:d≠e:=af hd ne;have hd2:=e2 _ _ hd;have U4:=eP (gm xs);have hy1:=eP (gm ys);have lt:∀zs:List Tm,(gm zs).length=zs.length:=λzs=>by unfold gm;rw[length_map]
  rw[lt] at U4 hy1;refine JP hu hd2 he kq (cC _) (cC _) 0e5 λz=>?_;rw[xY (-1) 1 (gm xs) (cC _) (gS _),one_mul];have hI:=yq xs ys;have hn:=Cm xs ys;have l9:=yr xs ys;have hq:gH xs ys=qf (wq xs ys) (wq xs ys):=rfl;show _;generalize hK:wq xs ys=KV at hI hn l9 hq;rw[show aW (-1) (aW 1 [] (gm ys)) (gm xs)=KV from hK]
  have e02:∀b o',H b=some o'→(upd H2 d (.dK KV)) b=some o':=λb o' z=>by
   rw[ah (af z nd)];exact e2 _ _ (e1 _ _ z)
  have P9:(upd H2 d (.dK KV)) d=some (.dK KV):=aa;generalize upd H2 d (.dK KV)=H3 at e02 P9 ⊢;refine⟨_,rfl,d,_,rfl,P9,λo nf D2 Mc=>?_⟩;have NP:D2≠d:=λz=>by rw[z,aa] at Mc;cases Mc
  have W3:H3 D2=none:=by rwa [ah NP] at Mc
  have gen:∀i σ H',Pvg o KV d D2 H3 i σ H'→H' d=some (.dX o (.dK KV)):=λi σ H' ⟨_,_,_,z,_⟩=>z;refine ph (a:=d) (D:=D2) (kvs:=KV) (Pvg o KV d D2 H3) ?_ gen ?_ ?_
  ·exact⟨none,[],rfl,by rw[ah (Ne.symm NP),aa],aa,(λp hp=>by cases hp),rfl,λb o' z hb=>by rw[ah (af z W3),ah hb];exact z⟩
  ·rintro i k v σ H' hi ⟨v',ps,rfl,f1,f2,f3,f4,f5⟩ N hN;have hv:=hI.d5 (mem_of_getElem? hi)
   have gX:ps.length≤40:=by
    have h1:=congrArg List.length f4;have h2:=yp KV (KV.take i);rw[length_map] at h1;rw[length_take] at h2;omega
   refine⟨_,rfl,_,rfl,d,V.int (aE KV k),rfl, .inl ⟨_,k, .inr ⟨o,f1⟩,rfl,hv.symm⟩,rfl,_,rfl,eF (λec=>?_) λec=>?_⟩
   ·have ec:¬aE KV k=0:=by simpa using ec
    refine⟨_,rfl,_,rfl,_,rfl,d,V.int (aE KV k),rfl, .inl ⟨_,k, .inr ⟨o,f1⟩,rfl,hv.symm⟩,2e2,λt ht=>?_⟩;have W4:D2≠t:=af f2 ht;have ndt:d≠t:=af f1 ht;refine⟨_,by rw[ah W4];exact f2,by rw[length_map];omega,hN _ _ ⟨_,ps++[(t,k,V.int (aE KV k))],rfl,?_,?_,?_,?_,?_⟩⟩
    ·rw[ah (Ne.symm NP),ah ndt];exact f1
    ·rw[aa,map_append];rfl
    ·intro p hp;rcases mem_append.mp hp with hp|hp
     ·have p1:=f3 p hp;rw[ah (cI p1 f2 3e4),ah (af p1 ht)];exact p1
     ·have e':p=(t,k,V.int (aE KV k)):=by simpa using hp
      subst e';rw[ah (Ne.symm W4)];exact aa
    ·rw[map_append,f4,Gs hi ec];rfl
    ·intro b o' e' hb;rw[ah (af e' W3),ah (af (f5 b o' e' hb) ht)];exact f5 b o' e' hb
   ·have ec:aE KV k=0:=by simpa using ec
    exact hN _ _ ⟨_,ps,rfl,f1,f2,f3,by rw[f4,Gq hi ec],f5⟩
  rintro σ H' ⟨v',ps,rfl,f1,f2,f3,f4,f5⟩;rw[take_length] at f4;refine⟨d,o,KV,f1,nf,D2,ps,rfl,by rw[ah NP];exact f2,λp hp=>by rw[ah (cI (f3 p hp) f1 3e4)];exact f3 p hp,λw hw=>?_⟩
  have e8:bF [] (ps.map (·.2))=qf KV KV:=by
   rw[f4,nV _ [] (by rw[nil_append];exact JN KV hn),nil_append]
  have W5:au H (upd H' d (.dK KV)):=λb o' z=>by
   have zd:b≠d:=af z nd;rw[ah zd];exact f5 b o' (e02 b o' z) zd
  rw[e8];exact q w _ (none_back W5 hw) (by rw[aa,hq]) (W5.trans (au.new hw))
variable {uC uP uI uD uL uT eM eN eO:Tok}{Ch:3e5}
structure JR(K:0e9)(mg:1e3)(C R G Pc Fo Ch:3e5)(uK uN uB uE uM uC uP uI uD uL uT eM eN eO:Tok):Prop extends JC K mg C R G Pc Fo Ch uK uN uB uE uM uC uP uI uD uL uT eM eN eO where
 nZ:mg "sorted" =none
 n_all:mg "all" =none
noncomputable def g9(x:Fm):List (Key×V):=putK (cW 1 x.1) (Sum.inr "+") (.int x.2)
def DZ(h:bJ x):(cW 1 x.1).length≤7:=tH h.2.2
def NQ(x:Fm):aU (g9 x):=(pN x.1).put _ _
inductive Cn(C G Pc Fo:3e5)(vs:4e5)(H:Hp)(Q:VK)(E:XK):Prop
 |mk (f:3e5) (x:Fm) (dH:vs=[.ref f]) (dI:nR C G Pc Fo 1 H f x.1 x.2) (dN:bJ x) (eK:∀e H',H e=none→H' e=some (.dK (g9 x))→au H H'→Q (.ref e) H')
def wt(C G Pc Fo:3e5):Sp:=Cn C G Pc Fo
def wu:av ["formula","amounts"] ["formula"] (aj nj):=cX
def Co(D:Def K mg "formula_amounts" "formula_amounts" nj ["formula"])(T:JC K mg C R G Pc Fo Ch uK uN uB uE uM uC uP uI uD uL uT eM eN eO)(c1:aD P w K mg base 7 Fo "counts" 1e5 (jX C G Pc Fo 1)):a5 P w K mg base 8 "formula_amounts" ["formula"] (wt C G Pc Fo):=by
 obtain⟨_,_,bo⟩:=c1;refine D.cN wu 0e7 0e1
 ·obtain⟨f,x,rfl,_⟩:=h;rfl
 ·obtain⟨fo,x,rfl,hF,aM,q⟩:=h;have hu:=cM hr;have big:=bgL;obtain⟨dx,l,ps,hf,_⟩:=id hF;have hz:(x.1.flatMap (b6 1)).length≤400:=le_trans aM.2.2 0e4;refine⟨_,(ai (az (i:=1) wu.nd rfl 0e6 (aH 2e1 T.br bo.m bo.ok 4e3 bo.b .nil a8)) (ai (cF hu (pv 1) (aZ (v:= .str "+") rfl T.sU 2e4) 3e6 rfl) (ao (aA (pv 1))))),?_⟩;refine⟨_,rfl,fo,dx,_,rfl,hf,kQ _ _ 0e0 0e0,fo,x.1,x.2,rfl,hF,aM.1,hz,λe H' ne he es=>?_⟩;have hl:=DZ aM;refine⟨_,rfl,fo,Fo,dx,_,_,rfl,es _ _ hf,T.br,T.jT,jQ _ _,_,rfl,e,_,rfl,i4.k (k:=Sum.inr "+") he 0e5,?_⟩;exact⟨_,rfl,q e _ ne aa λb o z=>by rw[ah (af z ne)];exact es _ _ z⟩
def NR(zs:List Tm):List Key:=zs.foldl (λks z=>eV ks ((cW 1 z.2.1).map 1e8)) []
noncomputable def Vc:Key→Option Str
 | .inr s=>some s
 | .inl _=>none
def Vd(zs:List Tm):List Str:=(NR zs).filterMap Vc
def yu(ks:List Key):Prop:=∀k∈ks,∃s:Str,k=Sum.inr s
def rf{ks:List Key}(h:yu ks):(ks.filterMap Vc).map Sum.inr=ks:=by
 induction ks with
 |nil=>rfl
 |cons k r ih=>
  obtain⟨s,rfl⟩:=h k 1e6;show (s::r.filterMap Vc).map Sum.inr=_;rw[map_cons,ih λk hk=>h k (mem_cons_of_mem _ hk)]
def Ax{ks ls:List Key}(h1:yu ks)(h2:yu ls):yu (eV ks ls):=λk hk=>by
 rcases nO.mp hk with h|h
 ·exact h1 k h
 ·exact h2 k h
def NS(xs:List iM):(cW 1 xs).map 1e8=eV [] ((xs.flatMap (b6 1)).map λp=>(Sum.inr p.1 :Key)):=by
 unfold cW;rw[qX,kN,map_map];rfl
def D0(xs:List iM):yu ((cW 1 xs).map 1e8):=by
 rw[NS];refine Ax (λk hk=>by cases hk) λk hk=>?_;obtain⟨p,_,rfl⟩:=mem_map.mp hk;exact 2e4
def JS{zs:List Tm}{i:Nat}{z:Tm}(h:zs[i]? =some z):NR (zs.take (i+1))=eV (NR (zs.take i)) ((cW 1 z.2.1).map 1e8):=by
 unfold NR;rw[take_snoc h,foldl_append];rfl
def JT(zs:List Tm):yu (NR zs):=by
 have:∀(zs:List Tm) (ks:List Key),yu ks→yu (zs.foldl (λks z=>eV ks ((cW 1 z.2.1).map 1e8)) ks):=by
  intro zs
  induction zs with
  |nil=>intro ks h;exact h
  |cons z r ih=>intro ks h;exact ih _ (Ax h (D0 _))
 exact this zs [] λk hk=>by cases hk
def rg(zs:List Tm):NR zs=(Vd zs).map Sum.inr:=(rf (JT zs)).symm
theorem tR:∀(more acc:0e2),(bF acc more).map 1e8=eV (acc.map 1e8) (more.map 1e8)
 | [],_=>rfl
 |p::r,acc=>by
  show (bF (putK acc p.1 p.2) r).map 1e8=eV (jM (acc.map 1e8) p.1) (r.map 1e8);rw[tR r,nM]
def lQ(zs:List Tm)(ms:3e8):Prop:=ms.Perm (Vd zs)∧PyProof.Rows.sortedS ms=true
def yU(zs:List Tm):Nat:=(zs.map λz=>(z.2.1.flatMap (b6 1)).length).sum
def JU{zs:List Tm}{i:Nat}{z:Tm}(h:zs[i]? =some z):yU (zs.take (i+1))=yU (zs.take i)+(z.2.1.flatMap (b6 1)).length:=by
 unfold yU;rw[take_snoc h,map_append,sum_append];simp
def JV(zs:List Tm)(i:Nat):yU (zs.take i)≤yU zs:=by
 unfold yU
 conv=>rhs;rw[←take_append_drop i zs,map_append,sum_append]
 omega
theorem tS{α β:Type}{p q:α→β→Prop}:∀{as:List α} {bs:List β},(∀a b,a∈as→p a b→q a b)→Paired p as bs→Paired q as bs
 |_,_,_, .nil=> .nil
 |_,_,h, .cons x t=> .cons (h _ _ 1e6 x) (tS (λa b ha=>h a b (mem_cons_of_mem _ ha)) t)
theorem Ay:∀(ls ks:List Key),(eV ks ls).length≤ks.length+ls.length
 | [],_=>le_refl _
 |k::r,ks=>by
  have h1:=Ay r (jM ks k)
  have h2:(jM ks k).length≤ks.length+1:=by
   unfold jM;split
   ·omega
   ·rw[length_append];exact le_refl _
  show (eV (jM ks k) r).length≤_;rw[length_cons];omega
inductive JW(C G Pc Fo Ch:3e5)(vs:4e5)(H:Hp)(Q:VK)(E:XK):Prop
 |mk (c:3e5) (xs ys:List Tm) (dH:vs=[.ref c]) (dI:dz C G Pc Fo Ch H c xs ys) (dN:(∀z∈xs++ys,bJ z.2)) (eK:(xs++ys).length≤20) (gj:yU (xs++ys)≤60) (i6:∀l ms H',lQ (xs++ys) ms→H l=none→H' l=some (.lst ((ms++[("+" :Str)]).map V.str))→au H H'→Q (.ref l) H')
def D4(C G Pc Fo Ch:3e5):Sp:=JW C G Pc Fo Ch
def rh:av ["self","found","count","formula"] 1e5 (aj xF):=cX
theorem mL{α β:Type}{p:α→β→Prop}:∀{as:List α} {bs:List β} {cs:List α} {ds:List β},Paired p as bs→Paired p cs ds→Paired p (as++cs) (bs++ds)
 |_,_,_,_, .nil,h=>h
 |_,_,_,_, .cons h t,h2=> .cons h (mL t h2)
def JX(D:aX K Ch "kinds" "Change.kinds" xF 1e5)(T:JR K mg C R G Pc Fo Ch uK uN uB uE uM uC uP uI uD uL uT eM eN eO)(c1:aD P w K mg base 7 Fo "counts" 1e5 (jX C G Pc Fo 1)):aD P w K mg base 8 Ch "kinds" 1e5 (D4 C G Pc Fo Ch):=by
 obtain⟨_,_,bo⟩:=c1;refine D.cN rh 0e7 0e1
 ·obtain⟨c,xs,ys,rfl,_⟩:=h;rfl
 ·obtain⟨c,xs,ys,rfl,⟨dx,l,r,hc,⟨ts,hl,hT⟩,⟨us,Mb,hU⟩⟩,aM,h8,h60,q⟩:=h;have hu:=cM hr;have big:=bgL;have hP:=mL hT hU;have lp:=Paired.length hP;refine⟨_,(ai (az (i:=1) rh.nd rfl 0e6 dq) (ai (bU PassesOwn.never rfl (cE (ay mw 3e6 3e6)) (ia rfl (a6 (aB (i:=2) rh.nd rfl 0e6) (a6 (aB (i:=3) rh.nd rfl 0e6) dY))) (ao (a9 (MV (pv 1) (aH (pv 3) T.br bo.m bo.ok 4e3 bo.b .nil a8) ⟨rfl,rfl,rfl,rfl⟩)))) (ao (aA (ay mw (bS (mW rfl) rfl T.nZ pk (ag (pv 1) ak)) (b7 (ag (aZ (v:= .str "+") rfl T.sU 2e4) ak))))))),?_⟩;refine λe0 uu=>?_;have s0:=au.new (o:= .dK []) uu;have hc0:=s0 _ _ hc;refine⟨_,rfl,c,Ch,dx,_,_,rfl,hc0,T.bY,T.iq,fj _ _,_,rfl,c,Ch,dx,_,_,rfl,hc0,T.bY,T.jo,gR _ _,l,r,_,_,rfl,rfl,s0 _ _ hl,s0 _ _ Mb,?_,λL hL=>?_⟩
  ·rw[length_map,length_map,←length_append,lp];omega
  have s1:=s0.trans (au.new (o:= .lst (ts.map V.ref++us.map V.ref)) hL);have VC:e0≠L:=af aa hL;refine⟨L,rfl,⟨_,bM.of aa⟩,dP (K:=K) (a:=L) (xs:=(ts++us).map V.ref) (λi σ H'=>∃(kvs:0e2) (v2 v3:Option V),σ=[some (.ref c),some (.ref e0),v2,v3]∧H' e0=some 3e0∧kvs.map 1e8=NR ((xs++ys).take i)∧kvs.length≤yU ((xs++ys).take i)∧au H H'∧H' L=some (.lst ((ts++us).map V.ref))) ?_ (λi σ H' _ ⟨_,_,_,_,_,_,_,_,z⟩=>bM.of z) ?_ ?_⟩
  ·exact⟨[],none,none,rfl,by rw[ah VC,aa],rfl,zero_le _,s1,by rw[aa,map_append]⟩
  ·rintro i v σ H' hi ⟨kvs,v2,v3,rfl,he,hk,l9,e,vS⟩;rw[getElem?_map] at hi;obtain⟨t,ht,rfl⟩:=gMp hi;obtain⟨z,hz,fo,h1,h2⟩:=bG hP ht;have Sw:=aM z (mem_of_getElem? hz);have zA:i< (xs++ys).length:=(List.getElem?_eq_some_iff.mp hz).1;obtain⟨dy,fl,fps,W2,_⟩:=id h2;refine⟨t,_,rfl,km.of (e _ _ h1),rfl,_,_,rfl,_,_,rfl,rfl,?_⟩;refine⟨_,rfl,e0,rfl, .inl ⟨_, .inl he⟩,_,rfl,fo,dy,_,rfl,e _ _ W2,kQ _ _ 0e0 0e0,fo,z.2.1,z.2.2,rfl,h2.same e,Sw.1,le_trans Sw.2.2 0e4,λb b8 nb hb e'=>?_⟩;have Sx:(cW 1 z.2.1).length≤(z.2.1.flatMap (b6 1)).length:=eP _;have Sy:=eD (cW 1 z.2.1) kvs;have hfs:=JU hz;have hfl:=JV (xs++ys) i;have hz7:=Sw.2.2;have neb:e0≠b:=af he nb;refine⟨b,kvs,_,rfl,e' _ _ he,hb,neb,by omega,bF kvs (cW 1 z.2.1),_,_,rfl,aa,?_,by omega,λb' o w=>?_,?_⟩
   ·rw[tR,hk,JS hz]
   ·rw[ah (af w uu)];exact e' _ _ (e _ _ w)
   ·rw[ah (Ne.symm VC)];exact e' _ _ vS
  ·rintro σ H' ⟨kvs,v2,v3,rfl,he,hk,l9,e,vS⟩;rw[length_map,lp] at hk l9;rw[take_length] at hk l9
   have oI:(Vd (xs++ys)).length<64:=by
    have:=congrArg List.length hk;rw[rg,length_map,length_map] at this;omega
   refine⟨_,rfl,e0,kvs,Vd (xs++ys),rfl, .inl he,by rw[hk,rg],oI,λm ms pm sm hm=>⟨(by show 1≤sizeLine;decide),λn hn=>?_⟩⟩;have WY:m≠n:=af aa hn;refine⟨m,n,ms.map V.str,[V.str "+"],rfl,rfl,by rw[ah WY,aa],aa,?_,λp hp=>?_⟩
   ·rw[length_map,pm.length_eq];show _+1≤sizeLine;omega
   have s2:=(au.new (o:= .lst (ms.map V.str)) hm).trans (au.new (o:= .lst [V.str "+"]) hn);have hpH:H p=none:=none_back (e.trans s2) hp;refine q p ms _ ⟨pm,sm⟩ hpH ?_ ((e.trans s2).trans (au.new hp));rw[aa,map_append];rfl
variable {uC uP uI uD uL uT eM eN eO:Tok}{Ch:3e5}
def fO(c:Int)(acc l all:0e2):List (Key×V):=l.foldl (λacc p=>bN acc p.1 (c*aE all p.1)) acc
theorem Az(c:Int)(all:0e2):∀(l acc:0e2),fO c acc l all=cH acc (l.map λp=>(p.1,c*aE all p.1))
 | [],_=>rfl
 |p::r,acc=>Az c all r _
theorem cS(c:Int)(all:0e2):∀(l acc:0e2),aU acc→aU (fO c acc l all)
 | [],_,h=>h
 |_::r,_,h=>cS c all r _ (h.add _ _)
theorem iA(c:Int)(all:0e2):∀(l acc:0e2),(fO c acc l all).length≤acc.length+l.length
 | [],_=>le_refl _
 |p::r,acc=>by
  have h1:=iA c all r (bN acc p.1 (c*aE all p.1));have h2:(bN acc p.1 (c*aE all p.1)).length≤acc.length+1:=bE _ _ _;show (fO c (bN acc p.1 (c*aE all p.1)) r all).length≤_;rw[length_cons];omega
def tT(c:Int)(hn:(D.map 1e8).Nodup)(acc:0e2)(j:Key):aE (fO c acc D D) j=aE acc j+c*aE D j:=by
 rw[Az,nN];congr 1;have e:=xX (λk=>c*aE D k) j hn;rw[map_map] at e
 have e2:sumK (D.map λp=>(p.1,c*aE D p.1)) j=if j∈D.map 1e8 then c*aE D j else 0:=by
  rw[←e];unfold sumK;rw[map_map];rfl
 rw[e2];split
 ·rfl
 ·rename_i h
  rw[lJ h,mul_zero]
def sumZ(zs:List Tm)(k:Key):Int:=(zs.map λz=>z.1*aE (g9 z.2) k).sum
def sumZ_snoc{zs:List Tm}{i:Nat}{z:Tm}(h:zs[i]? =some z)(k:Key):sumZ (zs.take (i+1)) k=sumZ (zs.take i) k+z.1*aE (g9 z.2) k:=by
 unfold sumZ;rw[take_snoc h,map_append,sum_append];simp
def Sz(x:Fm):((g9 x).map 1e8).Nodup:=kJ (gS _)
def NT(h:bJ x):(g9 x).length≤8:=by
 have h1:=DZ h;have h2:(g9 x).length≤(cW 1 x.1).length+1:=bE _ _ _;omega
theorem n4:∀(d:Nat) (m:Int) (t:Tr),oK d t→0≤m→∀p∈bb d m t,0≤p.2∧p.2≤999*(999^d*m)
 |d,m, .one k n,h,hm,p,hp=>by
  have e:bb d m (.one k n)=[(3e7,n*m)]:=by cases d<;>rfl
  rw[e] at hp;have h:ki k∧1≤n∧n≤999:=by cases d<;>exact h
  have ep:p=(3e7,n*m):=by simpa using hp
  rw[ep];have p1:(1 :Int)≤999^d:=Int.pow_pos 0e4
  have p2:m≤999^d*m:=by
   have:=Int.mul_le_mul_of_nonneg_right p1 hm
   rwa [one_mul] at this
  refine⟨mul_nonneg 0e5 hm,?_⟩;exact Int.le_trans (Int.mul_le_mul_of_nonneg_right h.2.2 hm) (Int.mul_le_mul_of_nonneg_left p2 0e4)
 |0,_, .gr _ _,h,_,_,_=>h.elim
 |d+1,m, .gr ts n,h,hm,p,hp=>by
  obtain⟨t,ht,hp⟩:=mem_flatMap.mp hp;obtain⟨_,h1,n1,n2⟩:=h;have nm:0≤n*m:=mul_nonneg 0e5 hm;obtain⟨q1,q2⟩:=n4 d (n*m) t (h1 t ht) nm p hp;refine⟨q1,Int.le_trans q2 ?_⟩;have p0:(0 :Int)≤999^d:=Int.le_of_lt (Int.pow_pos 0e4);have e:(999 :Int) ^(d+1)*m=999^d*(999*m):=by rw[Int.pow_succ,mul_assoc]
  rw[e];exact Int.mul_le_mul_of_nonneg_left (Int.mul_le_mul_of_nonneg_left (Int.mul_le_mul_of_nonneg_right n2 hm) p0) 0e4
def NU(h:bJ x):FL (2^60) (cW 1 x.1):=by
 have hb:=qQ (t:=1) (b:=1000000000000) 0e4 (x.1.flatMap (b6 1)) [] 0 (Int.le_refl _) (λp hp=>by cases hp) λp hp=>by
  obtain⟨y,hy,hp⟩:=mem_flatMap.mp hp;obtain⟨_,h1,n1,n2⟩:=jY h.1 y hy;obtain⟨t,ht,hp⟩:=mem_flatMap.mp hp;obtain⟨q1,q2⟩:=n4 1 y.1 t (h1 t ht) 0e5 p hp;rw[mul_one];refine⟨q1,?_⟩
  have:(999 :Int) ^1*y.1≤999*999:=by
   rw[show (999 :Int) ^1=999 from rfl];exact Int.mul_le_mul_of_nonneg_left n2 0e4
  omega
 intro p hp;obtain⟨i,e,b0,b1⟩:=hb p hp;refine⟨i,e,b0,?_⟩;have:=h.2.2;have:(2 :Int) ^60=1152921504606846976:=by decide
 have e7:((x.1.flatMap (b6 1)).length:Int)*1000000000000≤7*1000000000000:=Int.mul_le_mul_of_nonneg_right 0e5 0e4;omega
def D5(h:bJ x): -999≤x.2∧x.2≤999:=by
 obtain⟨h,_,_⟩:=h;obtain⟨xs,n⟩:=x
 cases xs with
 |nil=>
  have:n= -1:=h;subst this;exact 2e8
 |cons y r=>exact⟨h.2.2.1,h.2.2.2⟩
def pS(h:bJ x)(k:Key): -(2^64) <aE (g9 x) k∧aE (g9 x) k<2^64:=by
 unfold g9;rw[dZ];split
 ·have:=D5 h;omega
 ·have:=(NU h).Nc 0e4 k;omega
inductive tU(C G Pc Fo:3e5)(vs:4e5)(H:Hp)(Q:VK)(E:XK):Prop
 |mk (l:3e5) (xs:List Tm) (dH:vs=[.ref l]) (dI:ir C G Pc Fo H l xs) (dN:(∀x∈xs,bJ x.2)) (eK:xs.length≤20) (gj:∀e kvs H',H e=none→H' e=some 3e0→aU kvs→(∀k,aE kvs k=sumZ xs k)→au H H'→Q (.ref e) H')
def mh(C G Pc Fo:3e5):Sp:=tU C G Pc Fo
def dF:av ["terms","total","count","formula","amounts","kind"] ["terms"] (aj gP):=cX
def tV(D:Def K mg "side_amounts" "side_amounts" gP ["terms"])(T:JR K mg C R G Pc Fo Ch uK uN uB uE uM uC uP uI uD uL uT eM eN eO)(c1:a5 P w K mg base 8 "formula_amounts" ["formula"] (wt C G Pc Fo)):a5 P w K mg base 9 "side_amounts" ["terms"] (mh C G Pc Fo):=by
 obtain⟨_,_,n5⟩:=c1;refine D.cN dF 0e7 0e1
 ·obtain⟨l,xs,rfl,_⟩:=h;rfl
 ·obtain⟨l,xs,rfl,⟨ts,hl,hP⟩,aM,h20,q⟩:=h;have hu:=cM hr;have big:=bgL;have lp:=Paired.length hP;refine⟨_,(ai (az (i:=1) dF.nd rfl 0e6 dq) (ai (bU PassesOwn.never rfl (cE 2e1) (ia rfl (a6 (aB (i:=2) dF.nd rfl 0e6) (a6 (aB (i:=3) dF.nd rfl 0e6) dY))) (ai (az (i:=4) dF.nd rfl 0e6 (fz n5 hr (ag (pv 3) ak))) (ao (cY (bU PassesOwn.never rfl (cJ (pv 4)) (aB (i:=5) dF.nd rfl 0e6) (ao (cF hu (pv 1) (pv 5) (ay bZ (b5 hu (pv 1) (pv 5) aq ⟨rfl,rfl,rfl,rfl⟩) (ay fT (pv 2) (bX hu (pv 4) (pv 5) 2e7))) rfl))))))) (ao (aA (pv 1))))),?_⟩;refine λe0 uu=>?_;have s0:=au.new (o:= .dK []) uu;refine⟨_,rfl,l,rfl,⟨_,bM.of (s0 _ _ hl)⟩,dP (K:=K) (a:=l) (xs:=ts.map V.ref) (λi σ H'=>∃(kvs:0e2) (v2 v3 v4 v5:Option V),σ=[some (.ref l),some (.ref e0),v2,v3,v4,v5]∧H' e0=some 3e0∧aU kvs∧(∀k,aE kvs k=sumZ (xs.take i) k)∧kvs.length≤8*i∧au H H') ?_ (λi σ H' _ ⟨_,_,_,_,_,_,_,_,_,_,z⟩=>bM.of (z _ _ hl)) ?_ ?_⟩
  ·exact⟨[],none,none,none,none,rfl,aa,JH,λ_=>rfl,zero_le _,s0⟩
  ·rintro i v σ H' hi ⟨kvs,v2,v3,v4,v5,rfl,he,hI,hz,l9,e⟩;rw[getElem?_map] at hi;obtain⟨t,ht,rfl⟩:=gMp hi;obtain⟨z,W6,fo,h1,h2⟩:=bG hP ht;have Sw:=aM z (mem_of_getElem? W6);have zA:i<xs.length:=(List.getElem?_eq_some_iff.mp W6).1;have hal:=NT Sw;refine⟨t,_,rfl,km.of (e _ _ h1),rfl,_,_,rfl,_,_,rfl,rfl,?_⟩;refine⟨_,rfl,fo,z.2,rfl,h2.same e,Sw,λd H2 nd hd e2=>?_⟩;have NV:e0≠d:=af he nd;have Ve:=e2 _ _ he;dsimp only [cg];refine⟨_,rfl,d,g9 z.2,rfl,hd,λo nf=>cQ nf (λj σ H3=>∃w:Option V,σ=[some (.ref l),some (.ref e0),some (.int z.1),some (.ref fo),some (.ref d),w]∧H3=upd H2 e0 (.dK (fO z.1 kvs ((g9 z.2).take j) (g9 z.2)))) ?_ ?_ ?_ ?_⟩
   ·exact⟨v5,rfl,(eG Ve).symm⟩
   ·rintro j σ H3 ⟨_,_,rfl⟩;rw[ah (Ne.symm NV)];exact hd
   ·rintro j k v σ H3 hj ⟨w,rfl,rfl⟩;have xm:∀o',(upd (upd H2 e0 (.dK (fO z.1 kvs ((g9 z.2).take j) (g9 z.2)))) d o') e0=some (.dK (fO z.1 kvs ((g9 z.2).take j) (g9 z.2))):=λo'=>by rw[ah NV];exact aa
    have SA:=iA z.1 (g9 z.2) ((g9 z.2).take j) kvs;have P5:((g9 z.2).take j).length≤(g9 z.2).length:=length_take_le' _ _;have NL:=cS z.1 (g9 z.2) ((g9 z.2).take j) kvs hI;have hv:=(NQ z.2).d5 (mem_of_getElem? hj);have hsm:=pS Sw k;refine⟨_,rfl,e0,rfl, .inl ⟨_, .inl (xm _)⟩,_,rfl,_,fU.k (k:=k) (xm _),_,rfl,_,rfl,_,rfl,d,V.int (aE (g9 z.2) k),rfl, .inl ⟨_,k, .inr ⟨o,aa⟩,rfl,hv.symm⟩,_,_,rfl,rfl, .inr hsm,_,_,NL.at k,rfl,_,rfl,_,rfl,e0,_,rfl,i4.k (k:=k) (xm _) 0e5,?_⟩;refine⟨by rw[ah (Ne.symm NV)];exact aa,some (kV k),rfl,?_⟩;rw[nW NV hd];unfold fO;rw[take_snoc hj,foldl_append];rfl
   ·rintro σ H3 ⟨w,rfl,rfl⟩;rw[take_length];have SA:=iA z.1 (g9 z.2) (g9 z.2) kvs;refine⟨_,_,_,_,_,rfl,aa,cS z.1 (g9 z.2) (g9 z.2) kvs hI,λk=>?_,by omega,λb o' w'=>?_⟩
    ·rw[tT z.1 (Sz _),hz k,sumZ_snoc W6]
    ·rw[ah (af w' uu)];exact e2 _ _ (e _ _ w')
  ·rintro σ H' ⟨kvs,v2,v3,v4,v5,rfl,he,hI,hz,l9,e⟩;rw[length_map,lp,take_length] at hz;exact⟨_,rfl,q e0 kvs H' uu he hI hz e⟩
variable {uC uP uI uD uL uT eM eN eO:Tok}{Ch:3e5}
abbrev Tri:=Str×Int×Int
def W7{c A B:Prop}[Decidable c](hc:¬c)(h:A):if (!decide c)=true then A else B:=by
 rw[decide_eq_false hc];exact h
def D6(H:Hp)(t:3e5)(p:Tri):Prop:=H t=some (.tup [.str p.1, .int p.2.1, .int p.2.2])
def AA(ms:3e8)(xs ys:List Tm):List Tri:=ms.map λk=>(k,sumZ xs (Sum.inr k),sumZ ys (Sum.inr k))
def kY(ms:3e8)(xs ys:List Tm):List Tri:=(AA ms xs ys).filter λp=>!decide (p.2.1=p.2.2)
inductive NW(C G Pc Fo Ch:3e5)(vs:4e5)(H:Hp)(Q:VK)(E:XK):Prop
 |mk (c:3e5) (xs ys:List Tm) (dH:vs=[.ref c]) (dI:dz C G Pc Fo Ch H c xs ys) (dN:(∀z∈xs++ys,bJ z.2)) (eK:(xs++ys).length≤20) (gj:yU (xs++ys)≤60) (i6:∀L ts ms H',lQ (xs++ys) ms→H L=none→H' L=some (.lst (ts.map V.ref))→Paired (D6 H') ts (kY (ms++[("+" :Str)]) xs ys)→au H H'→Q (.ref L) H')
def Cp(C G Pc Fo Ch:3e5):Sp:=NW C G Pc Fo Ch
def yv:av ["self","lefts","rights","told"] 1e5 (aj vE):=cX
def JY:(Vd zs).length≤yU zs:=by
 have key:∀(zs:List Tm) (ks:List Key),(zs.foldl (λks z=>eV ks ((cW 1 z.2.1).map 1e8)) ks).length≤ks.length+yU zs:=by
  intro zs
  induction zs with
  |nil=>intro ks;exact le_refl _
  |cons z r ih=>
   intro ks;have h1:=ih (eV ks ((cW 1 z.2.1).map 1e8));have h2:(eV ks ((cW 1 z.2.1).map 1e8)).length≤ks.length+((cW 1 z.2.1).map 1e8).length:=Ay _ _;have h3:(cW 1 z.2.1).length≤(z.2.1.flatMap (b6 1)).length:=eP _;have h4:yU (z::r)=(z.2.1.flatMap (b6 1)).length+yU r:=rfl;rw[length_map] at h2;rw[foldl_cons];omega
 have h:=key zs [];have e:=congrArg List.length (rg zs);rw[length_map] at e;rw[←e];have h:(NR zs).length≤0+yU zs:=h;omega
def NY(D:aX K Ch "lost" "Change.lost" vE 1e5)(T:JR K mg C R G Pc Fo Ch uK uN uB uE uM uC uP uI uD uL uT eM eN eO)(c1:a5 P w K mg base 9 "side_amounts" ["terms"] (mh C G Pc Fo))(c2:aD P w K mg base 8 Ch "kinds" 1e5 (D4 C G Pc Fo Ch)):aD P w K mg base 10 Ch "lost" 1e5 (Cp C G Pc Fo Ch):=by
 obtain⟨_,_,kZ⟩:=c1;obtain⟨_,_,iB⟩:=c2;refine D.cN yv 0e7 0e1
 ·obtain⟨c,xs,ys,rfl,_⟩:=h;rfl
 ·obtain⟨c,xs,ys,rfl,hC,aM,h20,h60,q⟩:=h;have hu:=cM hr;have big:=bgL;obtain⟨dx,l,r,hc,hl,Mb⟩:=id hC;have hla:=length_append (as:=xs) (bs:=ys);refine⟨_,(ai (az (i:=1) yv.nd rfl (Or.inr rfl) (fz kZ hr (ag 3e6 ak))) (ai (az (i:=2) yv.nd rfl (Or.inr rfl) (fz kZ hr (ag 3e6 ak))) (ai (xo (i:=3) yv.nd rfl 0e6 (sc:=(aj vE)) (NX:=["self","lefts","rights","told"]) (N:=["kind","lefts","rights"]) (fr:=[none,some 1,some 2]) 0e8 rfl rfl rfl (cE (aH 2e1 T.bY iB.m iB.ok 4e3 iB.b .nil a8)) (λ_ _ _ _=>(aB (i:=0) (show (["kind","lefts","rights"]:List Str).Nodup by decide+kernel) rfl 0e6 (Or.inr rfl))) (λ_ _ _ _=>gf) (λ_ _ _ _=>(cj (ag 2e1 (ag (b5 hu (pv 1) 2e1 aq ⟨rfl,rfl,rfl,rfl⟩) (ag (b5 hu (pv 2) 2e1 aq ⟨rfl,rfl,rfl,rfl⟩) ak)))))) (ao (aA (gg (sc:=(aj vE)) (NX:=["self","lefts","rights","told"]) (N:=["each"]) (fr:=[none]) 0e8 rfl rfl rfl (cE (pv 3)) (λ_ _ _ _=>(aB (i:=0) (show (["each"]:List Str).Nodup by decide+kernel) rfl 0e6 (Or.inr rfl))) (λ_ _ _ _=>(qC (aL me (bQ (qF K rfl) 2e1 aq 2e7) (bQ (qF K rfl) 2e1 aq 2e7) (aO _)))) (λ_ _ _ _=>2e1))))))),?_⟩;refine⟨_,rfl,c,Ch,dx,_,_,rfl,hc,T.bY,T.iq,fj _ _,l,xs,rfl,hl,λx hx=>aM x (mem_append_left _ hx),by omega,λd1 k1 H1 nd1 Hg hI1 hz1 e1=>?_⟩;refine⟨_,rfl,c,Ch,dx,_,_,rfl,e1 _ _ hc,T.bY,T.jo,gR _ _,r,ys,rfl,Mb.same e1,λx hx=>aM x (mem_append_right _ hx),by omega,λd2 k2 H2 nd2 hd2 W0 hz2 e2=>?_⟩;have tW:=e1.trans e2;have hd12:=e2 _ _ Hg;dsimp only [cg];refine⟨_,rfl,c,dx,_,rfl,tW _ _ hc,tJ _ _ 0e0 0e0,c,xs,ys,rfl,hC.same tW,aM,h20,h60,λk ms H3 hK nk hk e3=>?_⟩;have e13:=tW.trans e3;have hd13:=e3 _ _ hd12;have hd23:=e3 _ _ hd2
  have Sy:(ms++[("+" :Str)]).length≤100:=by
   have h1:=hK.1.length_eq;have h2:=JY (zs:=xs++ys);rw[length_append];show _+1≤100;omega
  generalize hms:ms++[("+" :Str)]=mp at hk Sy;refine⟨k,rfl,⟨_,bM.of hk⟩,λL hL=>pj (K:=K) (a:=k) (L:=L) (xs:=mp.map V.str) H3 (fun σ=>∃v:Option V,σ=[v,some (.ref d1),some (.ref d2)]) (λi zs b8=>∃ts:List Addr,zs=ts.map V.ref∧ts.length=i∧(∀a∈ts,a≠L)∧Paired (D6 b8) ts ((AA mp xs ys).take i)) (bM.of hk) ?_ hL ⟨none,rfl⟩ (au.new hL) aa ⟨[],rfl,rfl,(λa ha=>by cases ha), .nil⟩ (by rw[length_map];omega) (λi ys _ ⟨ps,e1,e2,_⟩=>by rw[e1,length_map,e2];exact le_refl _) ?_ ?_⟩
  ·rintro i ys Ha Hb hb ⟨ds,h1,h2,h3,h4⟩;exact⟨ds,h1,h2,h3,tS (λa x ha z=>hb _ _ z (h3 a ha)) h4⟩
  ·rintro j w σ' H5 vs hj ⟨w1,rfl⟩ e5 uU ⟨ts,rfl,pT,hnL,W8⟩ N M hN;rw[getElem?_map] at hj;obtain⟨kk,hkk,rfl⟩:=gMp hj;have h1:=e5 _ _ hd13;have h2:=e5 _ _ hd23;have a1:=hI1.at (Sum.inr kk);have a2:=W0.at (Sum.inr kk);rw[hz1] at a1;rw[hz2] at a2;refine⟨_,rfl,_,rfl,d1,rfl, .inl ⟨_, .inl h1⟩,_,rfl,_,fU.k (k:=Sum.inr kk) h1,_,rfl,d2,rfl, .inl ⟨_, .inl h2⟩,_,rfl,_,fU.k (k:=Sum.inr kk) h2,(by show 3≤sizeLine;decide),λt ht=>?_⟩;have st:=au.new (o:= .tup [.str kk,(bK k1 (Sum.inr kk)).getD (.int 0),(bK k2 (Sum.inr kk)).getD (.int 0)]) ht;refine hN _ _ _ 2e4 (e5.trans st) (st _ _ uU) ⟨ts++[t],by rw[map_append];rfl,by rw[length_append,pT];rfl,λa ha=>?_,?_⟩
   ·rcases mem_append.mp ha with ha|ha
    ·exact hnL a ha
    ·have ea:a=t:=by simpa using ha
     subst ea;exact λz=>by rw[z,uU] at ht;cases ht
   have SD:(AA mp xs ys)[j]? =some (kk,sumZ xs (Sum.inr kk),sumZ ys (Sum.inr kk)):=by unfold AA;rw[getElem?_map,hkk];rfl
   rw[take_snoc SD];refine bT ?_ (aJ (λ_ _ z=>st _ _ z) W8);show (upd H5 t _) t=_;rw[aa,a1,a2]
  rintro H4 vs e4 DK ⟨ts,rfl,pT,_,W8⟩;have ltr:(AA mp xs ys).length=mp.length:=by unfold AA;rw[length_map]
  rw[length_map] at pT;rw[length_map,←ltr,take_length] at W8;dsimp only [cg];refine⟨_,rfl,L,rfl,⟨_,bM.of DK⟩,λL2 qa=>vB (K:=K) (a:=L) (L:=L2) (xs:=ts.map V.ref) H4 (fun σ=>∃v:Option V,σ=[v]) (λi zs=>∃us:List Addr,zs=us.map V.ref∧us.length≤i∧Paired (D6 H4) us (((AA mp xs ys).take i).filter λp=>!decide (p.2.1=p.2.2))) (bM.of DK) qa ⟨none,rfl⟩ (au.new qa) aa ⟨[],rfl,le_refl _, .nil⟩ (by rw[length_map];omega) (λi ys ⟨ps,e1,e2,_⟩=>by rw[e1,length_map];exact e2) ?_ ?_⟩
  ·rintro j w σ' H5 vs hj ⟨w1,rfl⟩ e5 uU ⟨us,rfl,Vf,Vg⟩ N M hN hM;rw[getElem?_map] at hj;obtain⟨t,ht,rfl⟩:=gMp hj;obtain⟨p,hp,RW⟩:=bG W8 ht;have RW:H4 t=some (.tup [.str p.1, .int p.2.1, .int p.2.2]):=RW;refine⟨_,rfl,t,_,_,V.int p.2.1,rfl,rfl,km.of (e5 _ _ RW),rfl,_,rfl,t,_,_,V.int p.2.2,rfl,rfl,km.of (e5 _ _ RW),rfl,rfl,_,rfl,?_⟩;by_cases hd:p.2.1=p.2.2
   ·refine C6 (by rw[hd]) ?_;refine hM _ _ 2e4 e5 uU ⟨us,rfl,by omega,?_⟩;rw[take_snoc hp,filter_append];have:[p].filter (λp=>!decide (p.2.1=p.2.2))=[]:=by simp [hd]
    rw[this,append_nil];exact Vg
   ·refine W7 (by intro z;injection z with z;exact hd z) ?_;refine⟨_,rfl,hN _ _ _ 2e4 e5 uU ⟨us++[t],by rw[map_append];rfl,by rw[length_append];show _+1≤_;omega,?_⟩⟩;rw[take_snoc hp,filter_append];have:[p].filter (λp=>!decide (p.2.1=p.2.2))=[p]:=by simp [hd]
    rw[this];refine bT ?_ ?_
    ·exact RW
    ·exact Vg
  rintro H5 vs e5 uU ⟨us,rfl,Vf,Vg⟩;have lts:=Paired.length W8;rw[length_map,lts,take_length] at Vg;have W9:=(e13.trans e4);rw[←hms] at Vg;exact q L2 us ms H5 hK (none_back W9 qa) uU (aJ (λ_ _ z=>e5 _ _ z) Vg) (W9.trans e5)
variable {uC uP uI uD uL uT:Tok}
def Cq(n:Nat)(kvs:0e2):Prop:=∀k,PJ n (aE kvs k)
def yw{i:Int}(h0: -(2^128) <i)(h1:i<2^128):PJ 128 i:=by
 show i.natAbs<2^128;omega
def NZ(h:FL (2^127) kvs):Cq 128 kvs:=λk=>by
 obtain⟨z0,z1⟩:=h.Nc 0e4 k;exact yw 0e5 0e5
def N0(kc kw l:0e2):Int:=(l.map λp=>aE kc p.1*aE kw p.1).sum
def JZ(kc kw:0e2){l:0e2}{i:Nat}{p:Key×V}(h:l[i]? =some p):N0 kc kw (l.take (i+1))=N0 kc kw (l.take i)+aE kc p.1*aE kw p.1:=by
 unfold N0;rw[take_snoc h,map_append,sum_append];simp
def J0{i j:Int}(h:PJ 128 i)(h':PJ 128 j):De i j:= .inr ⟨128,128,h,h',by decide⟩
inductive W'(vs:4e5)(H:Hp)(Q:VK)(E:XK):Prop
 |mk (c w:3e5) (kc kw:0e2) (dH:vs=[.ref c, .ref w]) (dI:H c=some (.dK kc)) (dN:H w=some (.dK kw)) (eK:c≠w) (gj:aU kw) (i6:aU kc) (mD:Cq 128 kw) (qY:Cq 128 kc) (zX:Q (.int (N0 kc kw kc)) H)
def Xa:Sp:=W'
def N2:av ["counts","weights","total","kind"] ["counts","weights"] (aj sCW):=cX
def Xb(D:Def K mg "counts_weight" "counts_weight" sCW ["counts","weights"]):a5 P w K mg base 1 "counts_weight" ["counts","weights"] Xa:=by
 refine D.cN N2 0e7 0e1
 ·obtain⟨c,w,kc,kw,rfl,_⟩:=h;rfl
 ·obtain⟨c,w,kc,kw,rfl,hc,hw,ncw,hI,hJ,fw,fc,q⟩:=h;have hu:=cM hr;refine⟨_,(ai (az (i:=2) N2.nd rfl 0e6 aq) (ai (cY (bU PassesOwn.never rfl (cJ 2e1) (aB (i:=3) N2.nd rfl 0e6) (ao (Q3 (i:=2) N2.nd rfl 0e6 (ay Dg (bX hu 2e1 (pv 3) 2e7) (b5 hu (pv 1) (pv 3) aq ⟨rfl,rfl,rfl,rfl⟩)) Q4)))) (ao (aA (pv 2))))),?_⟩;refine⟨_,rfl,c,_,rfl,hc,λo nf=>cQ nf (λi σ H'=>∃v:Option V,σ=[some (.ref c),some (.ref w),some (.int (N0 kc kw (kc.take i))),v]∧H'=H) ?_ (λi σ H' ⟨_,_,e⟩=>by rw[e];exact hc) ?_ ?_⟩
  ·exact⟨none,rfl,rfl⟩
  ·rintro i k v σ H' hi ⟨u,rfl,rfl⟩;have hw':(upd H' c (.dX o (.dK kc))) w=some (.dK kw):=by rw[ah (Ne.symm ncw)];exact hw
   have hv:=hJ.d5 (mem_of_getElem? hi);refine⟨_,rfl,_,rfl,_,rfl,c,V.int (aE kc k),rfl, .inl ⟨_,k, .inr ⟨o,aa⟩,rfl,hv.symm⟩,_,rfl,w,rfl, .inl ⟨_, .inl hw'⟩,_,rfl,_,fU.k (k:=k) hw',_,_,rfl,hI.at k,J0 (fc k) (fw k),_,_,rfl,rfl,?_⟩;refine⟨aa,some (kV k),?_,by rw[jt,eG hc]⟩;rw[JZ kc kw hi];rfl
  ·rintro σ H' ⟨v,rfl,rfl⟩;rw[take_length];exact⟨_,rfl,q⟩
inductive AB(C G Pc Fo:3e5)(d:Nat)(vs:4e5)(H:Hp)(Q:VK)(E:XK):Prop
 |mk (f u:3e5) (xs:List iM) (n:Int) (kw:0e2) (dH:vs=[.ref f, .ref u]) (dI:nR C G Pc Fo d H f xs n) (dN:Jj d xs n) (eK: -999≤n) (gj:n≤999) (i6:(xs.flatMap (b6 d)).length≤400) (mD:Cq 128 (cW d xs)) (qY:H u=some (.dK kw)) (zX:aU kw) (IX:Cq 128 kw) (Cr:∀H',au H H'→Q (.int (N0 (cW d xs) kw (cW d xs)+n*aE kw (Sum.inr "+"))) H')
def tX(C G Pc Fo:3e5)(d:Nat):Sp:=AB C G Pc Fo d
def Gu:av ["self","weights"] ["self","weights"] (aj nE):=cX
def AD(d:Nat)(D:aX K Fo "weight" "Formula.weight" nE ["self","weights"])(T:2e6)(c1:a5 P w K mg base 1 "counts_weight" ["counts","weights"] Xa)(c2:aD P w K mg base (2*d+5) Fo "counts" 1e5 (jX C G Pc Fo d)):aD P w K mg base (2*d+6) Fo "weight" ["self","weights"] (tX C G Pc Fo d):=by
 obtain⟨_,_,qu⟩:=c1;obtain⟨_,_,bo⟩:=c2;refine D.cN Gu 0e7 0e1
 ·obtain⟨f,u,xs,n,kw,rfl,_⟩:=h;rfl
 ·obtain⟨f,u,xs,n,kw,rfl,hF,Gi,n1,n2,hz,fc,hw,hI,fw,q⟩:=h;have hu:=cM hr;obtain⟨dx,l,ps,hf,_⟩:=id hF;refine⟨_,(ao (aA (ay bZ (fz qu hr (ag (aH 2e1 T.br bo.m bo.ok (hr.mono 0e5) bo.b .nil a8) (ag (pv 1) ak))) (ay Dg 3e6 (b5 hu (pv 1) (aZ (v:= .str "+") rfl T.sU 2e4) aq ⟨rfl,rfl,rfl,rfl⟩))))),?_⟩;refine⟨_,rfl,f,dx,_,rfl,hf,kQ _ _ 0e0 0e0,f,xs,n,rfl,hF,Gi,hz,λd H1 nd hd e1=>?_⟩;have hw1:=e1 _ _ hw;refine⟨_,rfl,d,u,_,kw,rfl,hd,hw1,Ne.symm (af hw nd),hI,cC _,fw,fc,?_⟩;exact⟨_,rfl,f,Fo,dx,_,_,rfl,e1 _ _ hf,T.br,T.jT,jQ _ _,_,rfl,u,rfl, .inl ⟨_, .inl hw1⟩,_,fU.k (k:=Sum.inr "+") hw1,_,_,rfl,hI.at _,J0 (yw 0e5 0e5) (fw _),_,_,rfl,rfl,q _ e1⟩
variable {uC uP uI uD uL uT:Tok}{St:3e5}
structure qv(K:0e9)(mg:1e3)(C R G Pc Fo St:3e5)(uK uN uB uE uM uC uP uI uD uL uT:Tok):Prop extends kR K mg C R G Pc Fo uK uN uB uE uM uC uP uI uD uL uT where
 ja:mg "dict" =none
 Xc:mg "sum" =none
 bB:uz K St
 dj:cy K St "amounts"
 yx:cy K St "gone"
 N3:mg "Store" =some (.ref St)
def nag:¬(("amounts" :Str)="gone"):=by decide+kernel
noncomputable def Bf(d g:3e5):List (Str×V):=cx "gone" (.ref g) (cx "amounts" (.ref d) [])
def fk(d g:3e5):(Bf d g).lookup ("amounts" :Str)=some (.ref d):=by
 unfold Bf;rw[aF,if_neg nag,aF,if_pos rfl]
def J1(d g:3e5):(Bf d g).lookup ("gone" :Str)=some (.ref g):=by
 unfold Bf;rw[aF,if_pos rfl]
def eY(d g:3e5){m:Str}(h1:¬m="gone")(h2:¬m="amounts"):(Bf d g).lookup m=none:=by
 unfold Bf;rw[aF,if_neg h1,aF,if_neg h2]
 all_goals rfl
def iC(St:3e5)(H:Hp)(st d g:3e5):Prop:=∃dx,H st=some (.ins St dx (Bf d g))
def D7(x:Str):Prop:=∃fm:Fm,bJ fm∧x=⟨(fL fm).toArray⟩
inductive N4(St:3e5)(vs:4e5)(H:Hp)(Q:VK)(E:XK):Prop
 |mk (st d g:3e5) (x:Str) (kvs:0e2) (dH:vs=[.ref st, .str x]) (dI:iC St H st d g) (dN:H d=some (.dK kvs)) (eK:aU kvs) (gj:D7 x) (i6:∀H',au H H'→Q (.int (aE kvs (Sum.inr x))) H')
def J2(St:3e5):Sp:=N4 St
inductive SE(St:3e5)(vs:4e5)(H:Hp)(Q:VK)(E:XK):Prop
 |mk (st d g:3e5) (x:Str) (m:Int) (kvs:0e2) (dH:vs=[.ref st, .str x, .int m]) (dI:iC St H st d g) (dN:H d=some (.dK kvs)) (eK:aU kvs) (gj:kvs.length≤1000) (i6:D7 x) (mD:∀H',Kept d H H'→H' d=some (.dK (bN kvs (Sum.inr x) m))→Q .cw H')
def J3(St:3e5):Sp:=SE St
def SF:av ["self","text"] ["self","text"] (aj Dt):=cX
def N5(D:aX K St "have" "Store.have" Dt ["self","text"])(T:3e3)(c1:a5 P w K mg base 11 "read_formula" ["text"] (yd C G Pc Fo 1)):aD P w K mg base 12 St "have" ["self","text"] (J2 St):=by
 obtain⟨_,_,iD⟩:=c1;refine D.cN SF 0e7 0e1
 ·obtain⟨st,d,g,x,kvs,rfl,_⟩:=h;rfl
 ·obtain⟨st,d,g,x,kvs,rfl,⟨dx,eC⟩,hd,hI,⟨fm,Gi,ex⟩,q⟩:=h;have hu:=cM hr;have uR:x.cps.toList=wL 1 fm.1 fm.2:=by rw[ex];rfl
  have hx4:x.length≤400:=by
   have:=Gi.2.1;rw[ex,a0];omega
  refine⟨_,(ai (a9 (fz iD hr (ag (pv 1) ak))) (ao (aA (b5 hu 3e6 (pv 1) aq ⟨rfl,rfl,rfl,rfl⟩)))),?_⟩;refine⟨_,rfl,x,fm.1,fm.2,rfl,uR,Gi.1,by decide,hx4,λf H1 nf hF e1=>?_⟩;refine⟨_,rfl,st,St,dx,_,_,rfl,e1 _ _ eC,T.bB,T.dj,fk _ _,d,rfl, .inl ⟨_, .inl (e1 _ _ hd)⟩,_,rfl,_,fU.k (k:=Sum.inr x) (e1 _ _ hd),?_⟩;have e:=hI.at (Sum.inr x);rw[e];exact q _ e1
def Xd:av ["self","text","many"] ["self","text","many"] (aj Nb):=cX
def SH(D:aX K St "put" "Store.put" Nb ["self","text","many"])(T:3e3)(c1:aD P w K mg base 12 St "have" ["self","text"] (J2 St)):aD P w K mg base 13 St "put" ["self","text","many"] (J3 St):=by
 obtain⟨_,_,yy⟩:=c1;refine D.cN Xd 0e7 0e1
 ·obtain⟨st,d,g,x,m,kvs,rfl,_⟩:=h;rfl
 ·obtain⟨st,d,g,x,m,kvs,rfl,⟨dx,eC⟩,hd,hI,hl,hx,q⟩:=h;have hu:=cM hr;refine⟨_,(ao (cF hu 3e6 (pv 1) (ay bZ (pq yy hr T.bB 2e1 (ag (pv 1) ak)) (pv 2)) rfl)),?_⟩;refine⟨_,rfl,st,dx,_,rfl,eC,eY _ _ 0e0 0e0,_,rfl,st,d,g,x,kvs,rfl,⟨dx,eC⟩,hd,hI,hx,λH1 e1=>?_⟩;refine⟨_,rfl,_,_,rfl,rfl,_,rfl,st,St,dx,_,_,rfl,e1 _ _ eC,T.bB,T.dj,fk _ _,_,rfl,d,_,rfl,i4.k (k:=Sum.inr x) (e1 _ _ hd) (lB hl),?_⟩;refine q _ (λb o z n=>?_) aa;rw[ah n];exact e1 _ _ z
variable {uC uP uI uD uL uT:Tok}{St:3e5}
def n6{kvs:0e2}{k:Key}(h:¬k∈kvs.map 1e8):bK kvs k=none:=by
 cases e:bK kvs k with
 |none=>rfl
 |some v=>exact absurd (qA e) h
def J4{kvs:0e2}{k:Key}(h:¬k∈kvs.map 1e8)(n:Int):bN kvs k n=kvs++[(k, .int n)]:=by
 unfold bN;rw[mT _ (n6 h),dv (n6 h),zero_add]
def N6(hn:(kvs.map 1e8).Nodup){z:Int}(h:(k,V.int z)∈kvs):aE kvs k=z:=dw (fH hn h)
def take_out{kvs:0e2}(hn:(kvs.map 1e8).Nodup){i:Nat}{p:Key×V}(h:kvs[i]? =some p):¬p.1∈(kvs.take i).map 1e8:=by
 intro m;have e:kvs.take (i+1)=kvs.take i++[p]:=take_snoc h;have hs:((kvs.take (i+1)).map 1e8).Nodup:=hn.sublist ((List.take_sublist _ _).map _);rw[e,map_append,List.nodup_append] at hs;exact hs.2.2 _ m p.1 2e9 rfl
inductive J7(St:3e5)(vs:4e5)(H:Hp)(Q:VK)(E:XK):Prop
 |mk (p dx:3e5) (v:V) (kvs:0e2) (dH:vs=[.ref p,v]) (dI:H p=some (.ins St dx [])) (dN:((v= .cw∧kvs=[])∨∃a,v= .ref a∧H a=some 3e0)) (eK:aU kvs) (gj:(kvs.map (·.1)).Nodup) (i6:(∀q∈kvs,∃x,q.1=Sum.inr x∧D7 x)) (mD:kvs.length≤900) (qY:∀d g H',H d=none→H g=none→d≠g→iC St H' p d g→H' d=some 3e0→H' g=some (.lst [])→(∀b o,H b=some o→b≠p→H' b=some o)→Q .cw H')
def D8(St:3e5):Sp:=J7 St
def D9:av ["self","amounts","text"] ["self","amounts"] (aj fZ):=cX
def J8(D:M8 K St "Store.__init__" fZ ["self","amounts"])(T:3e3)(c1:aD P w K mg base 13 St "put" ["self","text","many"] (J3 St)):ID P w K mg base rO 14 St ["self","amounts"] (D8 St):=by
 obtain⟨_,_,k7⟩:=c1;refine D.cN D9 0e7 0e1
 ·obtain⟨p,dx,v,kvs,rfl,_⟩:=h;rfl
 ·obtain⟨p,dx,v,kvs,rfl,hp,hv,hI,hn,hg,hl,q⟩:=h;have hu:=cM hr
  refine⟨_,(ai (eS 2e1 dq rfl) (ai (eS 2e1 (b7 ak) rfl) (ao (bC (mr (wY (pv 1))) (ao (cY (bU PassesOwn.never rfl (cJ (pv 1)) (aB (i:=2) D9.nd rfl 0e6) (ao (a9 (pq k7 hr T.bB 2e1 (ag (pv 2) (ag (bX hu (pv 1) (pv 2) 2e7) ak))))))))
      aN)))),?_⟩
  refine λd hd=>?_;have Xe:p≠d:=af hp hd;refine⟨_,rfl,p,St,dx,[],rfl,(by rw[ah Xe];exact hp),T.bB,T.dj,(by show 0<1000;decide),(by show 0≤sizeLine;decide),λg DL=>?_⟩;have npg:p≠g:=λz=>by rw[z,aa] at DL;cases DL
  rw[ah (Ne.symm npg)] at DL;have BY:d≠g:=λz=>by rw[z,aa] at DL;cases DL
  rw[ah (Ne.symm BY)] at DL;refine⟨_,rfl,p,St,dx,_,rfl,(by rw[ah npg,aa]),T.bB,T.yx,(by show 1<1000;decide),?_⟩;generalize hH1:upd (upd (upd (upd H d (.dK [])) p (.ins St dx (cx "amounts" (.ref d) []))) g (.lst [])) p (.ins St dx (cx "gone" (.ref g) (cx "amounts" (.ref d) [])))=H1;have h1p:H1 p=some (.ins St dx (Bf d g)):=by rw[←hH1,aa];rfl
  have h1d:H1 d=some (.dK []):=by rw[←hH1,ah (Ne.symm Xe),ah BY,ah (Ne.symm Xe),aa]
  have h1g:H1 g=some (.lst []):=by rw[←hH1,ah (Ne.symm npg),aa]
  have h1o:∀b o,H b=some o→b≠p→H1 b=some o:=λb o z n=>by
   rw[←hH1,ah n,ah (af z DL),ah n,ah (af z hd)];exact z
  rcases hv with ⟨rfl,rfl⟩ | ⟨a,rfl,ha⟩
  ·exact⟨_,rfl,_,rfl,d7 (q d g H1 hd DL BY ⟨dx,h1p⟩ h1d h1g h1o)⟩
  ·have nap:a≠p:=cI ha hp 3e4;have ha1:=h1o a _ ha nap;have nad:a≠d:=af ha hd;have nag:a≠g:=af ha DL;refine⟨_,rfl,_,rfl,gK ?_⟩;refine⟨_,rfl,a,kvs,rfl,ha1,λo nf=>cQ nf (λi σ H'=>∃v2:Option V,σ=[some (.ref p),some (.ref a),v2]∧H' d=some (.dK (kvs.take i))∧∀b o',H1 b=some o'→b≠d→H' b=some o') ?_ (λi σ H' ⟨_,_,_,e⟩=>e _ _ ha1 nad) ?_ ?_⟩
   ·exact⟨none,rfl,h1d,λb o' z _=>z⟩
   ·rintro i k v σ H' hi ⟨v2,rfl,iL,e⟩;obtain⟨x,ex,gx⟩:=hg _ (mem_of_getElem? hi);have ex:k=Sum.inr x:=ex;subst ex;have hv:=hI.d5 (mem_of_getElem? hi);obtain⟨z,ez⟩:=hI _ (mem_of_getElem? hi);have ez:v=V.int z:=ez;subst ez
    have W6:aE kvs (Sum.inr x)=z:=by
     have m:=mem_of_getElem? hi;exact dw (by rw[hv];exact congrArg some (by rw[N6 hn m]))
    have ql:(upd H' a (.dX o 3e0)) p=some (.ins St dx (Bf d g)):=by rw[ah (Ne.symm nap)];exact e _ _ h1p Xe
    have hdd:(upd H' a (.dX o 3e0)) d=some (.dK (kvs.take i)):=by rw[ah (Ne.symm nad)];exact iL
    refine⟨_,rfl,p,dx,_,rfl,ql,eY _ _ 0e0 0e0,_,rfl,_,rfl,_,rfl,a,V.int z,rfl, .inl ⟨_,Sum.inr x, .inr ⟨o,aa⟩,rfl,(by rw[hv,W6])⟩,p,d,g,x,z,kvs.take i,rfl,⟨dx,ql⟩,hdd,λq hq=>hI q (List.mem_of_mem_take hq),?_,gx,λH2 kp hd2=>?_⟩
    ·rw[length_take];omega
    ·refine⟨kp _ _ aa nad,some (.str x),rfl,?_,λb o' z' nb=>?_⟩
     ·rw[ah (Ne.symm nad),hd2,J4 (take_out hn hi),take_snoc hi]
     ·by_cases ba:b=a
      ·subst ba;rw[aa];rw[ha1] at z';exact z'
      ·rw[ah ba];refine kp _ _ ?_ nb;rw[ah ba];exact e _ _ z' nb
   ·rintro σ H' ⟨v2,rfl,iL,e⟩;rw[take_length] at iL;exact q d g H' hd DL BY ⟨dx,e _ _ h1p Xe⟩ iL (e _ _ h1g (Ne.symm BY)) λb o' z nb=>e _ _ (h1o b o' z nb) (af z hd)
variable {uC uP uI uD uL uT:Tok}{St:3e5}
noncomputable def u5(x:Fm)(k:Str):Int:=N0 (cW 1 x.1) [(Sum.inr k, .int 1)] (cW 1 x.1)+x.2*aE [(Sum.inr k, .int 1)] (Sum.inr "+")
def zv:V→Int
 | .int i=>i
 |_=>0
def Ea(q:Key×V)(x:Fm):Prop:=q.1=Sum.inr (1e7:Str)∧bJ x∧Cq 128 (cW 1 x.1)∧∀k, -(2^60) <u5 x k∧u5 x k<2^60
noncomputable def yz(kvs:0e2)(fs:List Fm)(k:Str):List Int:=List.zipWith (λq x=>zv q.2*u5 x k) kvs fs
inductive J9(St:3e5)(vs:4e5)(H:Hp)(Q:VK)(E:XK):Prop
 |mk (st d g:3e5) (k:Str) (kvs:0e2) (fs:List Fm) (dH:vs=[.ref st, .str k]) (dI:iC St H st d g) (dN:H d=some (.dK kvs)) (eK:aU kvs) (gj:kvs.length≤900) (i6:Paired Ea kvs fs) (mD:∀H',au H H'→Q (.int (yz kvs fs k).sum) H')
def Eb(St:3e5):Sp:=J9 St
def Ka{xs:List iM}{n:Int}(h:Jj 1 xs n): -999≤n∧n≤999:=by
 cases xs with
 |nil=>
  have h:n= -1:=h;omega
 |cons x r=>
  obtain⟨_,_,h1,h2⟩:=h;exact⟨h1,h2⟩
def N7(k:Str):Cq 128 [(Sum.inr k, .int 1)]:=λk'=>by
 have e:aE [(Sum.inr k, .int 1)] k'=if k'=Sum.inr k then 1 else 0:=by
  have:=dZ [] (Sum.inr k) k' 1;exact this
 rw[e];split
 ·exact yw 0e4 0e4
 ·exact yw 0e4 0e4
def N8(k:Str):aU [(Sum.inr k,V.int 1)]:=λp hp=>by
 have e:p=(Sum.inr k,V.int 1):=by simpa using hp
 exact⟨1,by rw[e]⟩
def N9:av ["self","kind"] ["self","kind"] (aj sC):=cX
def Kb(D:aX K St "total" "Store.total" sC ["self","kind"])(T:3e3)(c1:a5 P w K mg base 11 "read_formula" ["text"] (yd C G Pc Fo 1))(c2:aD P w K mg base 8 Fo "weight" ["self","weights"] (tX C G Pc Fo 1)):aD P w K mg base 12 St "total" ["self","kind"] (Eb St):=by
 obtain⟨_,_,iD⟩:=c1;obtain⟨_,_,pU⟩:=c2;refine D.cN N9 0e7 0e1
 ·obtain⟨st,d,g,k,kvs,fs,rfl,_⟩:=h;rfl
 ·obtain⟨st,d,g,k,kvs,fs,rfl,⟨dx,eC⟩,hd,hI,hl,hP,q⟩:=h;have hu:=cM hr;have big:=bgL;have gX:=Paired.length hP;refine⟨_,(ao (aA (bS (Ia rfl) rfl T.Xc RA (ag (qB (gg (sc:=(aj sC)) (NX:=["self","kind"]) (N:=["text","many","kind"]) (fr:=[none,none,some 1]) 0e8 rfl rfl rfl (zO 3e6) (λ_ _ _ _=>(xp K 2 rfl rfl (a6 (aB (i:=0) (show (["text","many","kind"]:List Str).Nodup by decide+kernel) rfl 0e6 (Or.inr rfl)) (a6 (aB (i:=1) (show (["text","many","kind"]:List Str).Nodup by decide+kernel) rfl 0e6 (Or.inr rfl)) dY)))) (λ_ _ _ _=>gf) (λ_ _ _ _=>(ay fT (pv 1) (pq pU hr T.br (fz iD hr (ag 2e1 ak)) (ag (jA (ib (pv 2) aq jz) rfl rfl 3e4 0e4) ak)))))) ak)))),?_⟩;refine⟨_,rfl,st,St,dx,_,_,rfl,eC,T.bB,T.dj,fk _ _,d,kvs,rfl,hd,λo nf L hL=>?_⟩;have nLd:L≠d:=λz=>by rw[z,aa] at hL;cases hL
  have hz:(upd H d (.dX o 3e0)) d=some (.dX o 3e0):=aa;refine Dk (J:=U6 d o kvs) (L:=L) kvs.length (upd H d (.dX o 3e0)) (fun σ=>∃v u:Option V,σ=[v,u,some (.str k)]) (λi ys=>ys=((yz kvs fs k).take i).map V.int) (items_go hz) (sj hz) hL ⟨none,none,rfl⟩ (au.new hL) aa rfl 0e5 ?_ ?_ ?_
  ·rintro i ys rfl;rw[length_map,length_take];omega
  ·rintro i σ H2 ys hi ⟨v,u,rfl⟩ hs qa rfl N M hN y H3 ⟨t,kk,vv,xj,ht,rfl,rfl⟩;obtain⟨x,hx,ek,Gi,fc,wb⟩:=bG hP xj;have ek:kk=Sum.inr (1e7:Str):=ek;subst ek;obtain⟨z,ez⟩:=hI _ (mem_of_getElem? xj);have ez:vv=V.int z:=ez;subst ez;have hzw:(yz kvs fs k)[i]? =some (z*u5 x k):=by unfold yz;rw[List.getElem?_zipWith,xj,hx];rfl
   have hx4:(1e7:Str).length≤400:=by
    have:=Gi.2.1;rw[a0];omega
   obtain⟨n1,n2⟩:=Ka Gi.1;have s3:=hs.trans (au.new (o:= .tup [.str 1e7, .int z]) ht);refine⟨t,_,rfl,km.of aa,rfl,_,_,rfl,_,_,rfl,rfl,_,rfl,_,rfl,_,x.1,x.2,rfl,rfl,Gi.1,by decide,hx4,λf4 H4 nf4 hF e4=>?_⟩;have hF4:=hF H4 λb o' _ z2=>z2;obtain⟨df,lf,pf,hf4,_⟩:=id hF4;refine⟨f4,df,_,rfl,hf4,kQ _ _ 0e0 0e0,λw5 hw5=>⟨_,rfl,aa,[(Sum.inr k, .int 1)],rfl,(by show 1≤15;decide),?_⟩⟩
   have s5:au H4 (upd (upd H4 w5 (.dK [])) w5 (.dK (bF [] [(Sum.inr k, .int 1)]))):=λb o' z'=>by
    rw[ah (af z' hw5),ah (af z' hw5)];exact z'
   have Xf:(x.1.flatMap (b6 1)).length≤400:=le_trans Gi.2.2 0e4;refine⟨f4,w5,x.1,x.2,[(Sum.inr k, .int 1)],rfl,hF4.same s5,Gi.1,n1,n2,Xf,fc,by rw[aa];rfl,N8 k,N7 k,λH6 e6=>?_⟩;have s6:=((e4.trans s5).trans e6);refine⟨_,_,rfl,rfl, .inr ⟨by have:=(wb k).1;show -(2^64) <u5 x k;omega,by have:=(wb k).2;show u5 x k<2^64;omega⟩,hN _ _ _ ⟨_,_,rfl⟩ (s3.trans s6) ?_ ?_⟩
   ·exact s6 _ _ (by rw[ah (af qa ht)];exact qa)
   ·rw[Fw hzw,map_append];rfl
  ·rintro H2 ys hs qa rfl;have oH:(yz kvs fs k).length≤kvs.length:=by unfold yz;rw[List.length_zipWith];omega
   refine⟨d,o,kvs,hs _ _ hz,nf,L,yz kvs fs k,rfl,bM.of ?_,q _ λb o' z'=>?_⟩
   ·rw[ah nLd,qa,List.take_of_length_le oH]
   ·by_cases bd:b=d
    ·subst bd;rw[aa];rw[hd] at z';exact z'
    ·rw[ah bd];exact hs _ _ (by rw[ah bd];exact z')
def fP(kvs:0e2):List (Key×V):=kvs.filter λq=>decide (0<zv q.2)
inductive Gv(St:3e5)(vs:4e5)(H:Hp)(Q:VK)(E:XK):Prop
 |mk (st d g:3e5) (kvs:0e2) (dH:vs=[.ref st]) (dI:iC St H st d g) (dN:H d=some (.dK kvs)) (eK:aU kvs) (gj:(kvs.map (·.1)).Nodup) (i6:kvs.length≤900) (mD:∀e H',H e=none→H' e=some (.dK (fP kvs))→au H H'→Q (.ref e) H')
def n9(St:3e5):Sp:=Gv St
def Kc:av 1e5 1e5 (aj nz):=cX
def PvS(L:3e5)(kvs:0e2)(H0:Hp):Nat→List V→Hp→Prop:=λi ys H'=>∃ps:List (Addr×Key×V),ys=ps.map (λp=>V.ref p.1)∧(∀p∈ps,H' p.1=some (.tup [kV p.2.1,p.2.2])∧p.1≠L)∧ps.map (·.2)=fP (kvs.take i)
def Ec(kvs:0e2):(fP kvs).length≤kvs.length:=List.length_filter_le _ _
def Gw(D:aX K St "stocks" "Store.stocks" nz 1e5)(T:3e3):aD P w K mg base 1 St "stocks" 1e5 (n9 St):=by
 refine D.cN Kc 0e7 0e1
 ·obtain⟨st,d,g,kvs,rfl,_⟩:=h;rfl
 ·obtain⟨st,d,g,kvs,rfl,⟨dx,eC⟩,hd,hI,hn,hl,q⟩:=h;have hu:=cM hr;have big:=bgL;refine⟨_,(ao (aA (bq (mz rfl) rfl T.ja gM (ag (qB (gg (sc:=(aj nz)) (NX:=1e5) (N:=["text","many"]) (fr:=[none,none]) 0e8 rfl rfl rfl (zO 3e6) (λ_ _ _ _=>(xp K 2 rfl rfl (a6 (aB (i:=0) (show (["text","many"]:List Str).Nodup by decide+kernel) rfl 0e6 (Or.inr rfl)) (a6 (aB (i:=1) (show (["text","many"]:List Str).Nodup by decide+kernel) rfl 0e6 (Or.inr rfl)) dY)))) (λ_ _ _ _=>(qC (aL mR (pv 1) aq (aO _)))) (λ_ _ _ _=>(cj (ag 2e1 (ag (pv 1) ak)))))) ak)))),?_⟩;refine⟨_,rfl,st,St,dx,_,_,rfl,eC,T.bB,T.dj,fk _ _,d,kvs,rfl,hd,λo nf L hL=>?_⟩;have nLd:L≠d:=λz=>by rw[z,aa] at hL;cases hL
  have hz:(upd H d (.dX o 3e0)) d=some (.dX o 3e0):=aa;refine FE (J:=U6 d o kvs) (L:=L) kvs.length (upd H d (.dX o 3e0)) (fun σ=>∃v u:Option V,σ=[v,u]) (PvS L kvs H) (items_go hz) (sj hz) ?_ hL ⟨none,none,rfl⟩ (au.new hL) aa ⟨[],rfl,(λp hp=>by cases hp),rfl⟩ 0e5 ?_ ?_ ?_
  ·rintro i ys H1 H2 e ⟨ps,e1,e2,e3⟩;exact⟨ps,e1,λp hp=>⟨e _ _ (e2 p hp).1 (e2 p hp).2,(e2 p hp).2⟩,e3⟩
  ·rintro i ys H1 ⟨ps,e1,_,e3⟩;have h1:=congrArg List.length e3;have h2:=Ec (kvs.take i);rw[length_map] at h1;rw[length_take] at h2;rw[e1,length_map];omega
  ·rintro i σ H2 ys hi ⟨v,u,rfl⟩ hs qa ⟨ps,rfl,e2,e3⟩ N M hN hM y H3 ⟨t,kk,vv,xj,ht,rfl,rfl⟩;obtain⟨z,ez⟩:=hI _ (mem_of_getElem? xj);have ez:vv=V.int z:=ez;subst ez;have s3:=hs.trans (au.new (o:= .tup [kV kk, .int z]) ht);have nU:(upd H2 t (.tup [kV kk, .int z])) L=some (.lst (ps.map λp=>V.ref p.1)):=by rw[ah (af qa ht)];exact qa
   refine⟨t,_,rfl,km.of aa,rfl,_,_,rfl,_,_,rfl,rfl,_,rfl,_,_,rfl,rfl,_,rfl,eF (λec=>?_) λec=>?_⟩
   ·have ec:0<z:=by simpa using ec
    refine⟨_,rfl,_,rfl,2e2,λt2 P'=>?_⟩;have s4:=au.new (o:= .tup [kV kk, .int z]) P';have Vh:L≠t2:=af nU P';refine hN _ _ _ ⟨_,_,rfl⟩ (s3.trans s4) (s4 _ _ nU) ⟨ps++[(t2,kk, .int z)],by rw[map_append];rfl,λp hp=>?_,?_⟩
    ·rcases mem_append.mp hp with hp|hp
     ·exact⟨s4 _ _ (au.new ht _ _ (e2 p hp).1),(e2 p hp).2⟩
     ·have e':p=(t2,kk, .int z):=by simpa using hp
      subst e';exact⟨aa,Ne.symm Vh⟩
    ·unfold fP at e3 ⊢;rw[map_append,e3,take_snoc xj,filter_append,show [(kk,V.int z)].filter (λq=>decide (0<zv q.2))=[(kk,V.int z)] by simp [zv,ec]];rfl
   ·have ec:¬0<z:=by simpa using ec
    refine hM _ _ ⟨_,_,rfl⟩ s3 nU ⟨ps,rfl,λp hp=>⟨au.new ht _ _ (e2 p hp).1,(e2 p hp).2⟩,?_⟩;unfold fP at e3 ⊢;rw[e3,take_snoc xj,filter_append,show [(kk,V.int z)].filter (λq=>decide (0<zv q.2))=[] by simp [zv,ec],append_nil]
  ·rintro H2 ys hs qa ⟨ps,rfl,e2,e3⟩;rw[take_length] at e3
   have s2:au H (upd H2 d 3e0):=λb o' z'=>by
    by_cases bd:b=d
    ·subst bd;rw[aa];rw[hd] at z';exact z'
    ·rw[ah bd];exact hs _ _ (by rw[ah bd];exact z')
   refine⟨d,o,kvs,hs _ _ hz,nf,L,ps,rfl,by rw[ah nLd];exact qa,λp hp=>?_,λe he=>?_⟩
   ·have p1:=(e2 p hp).1;rw[ah (cI p1 (hs _ _ hz) 3e4)];exact p1
   ·have e8:bF [] (ps.map (·.2))=fP kvs:=by
     rw[e3,nV _ [] (by rw[nil_append];exact(List.filter_sublist.map _).nodup hn),nil_append]
    rw[e8];exact q e _ (none_back s2 he) aa (s2.trans (au.new he))
variable {uC uP uI uD uL uT:Tok}{St:3e5}
theorem wx:∀(d:Nat) (m:Int) (t:Tr),oK d t→∀p∈bb d m t,∃k,ki k∧p.1=3e7
 |d,m, .one k n,h,p,hp=>by
  have e:bb d m (.one k n)=[(3e7,n*m)]:=by cases d<;>rfl
  rw[e] at hp;have h:ki k∧1≤n∧n≤999:=by cases d<;>exact h
  have ep:p=(3e7,n*m):=by simpa using hp
  exact⟨k,h.1,by rw[ep]⟩
 |0,_, .gr _ _,h,_,_=>h.elim
 |d+1,m, .gr ts n,h,p,hp=>by
  obtain⟨t,ht,hp⟩:=mem_flatMap.mp hp;exact wx d (n*m) t (h.2.1 t ht) p hp
def AE(h:ki k):(3e7:Str)≠"+" :=by
 obtain⟨c,rr,rfl,hc,_⟩:=h;rw[e43];intro z';have:=congrArg (λs:Str=>s.cps.toList) z'
 have e2:c=43:=by
  have h3:(c::rr)=[43]:=by simpa using this
  exact(List.cons.inj h3).1
 subst e2;simp [DB] at hc
def SI(hk:ki k){n:Int}(n1:1≤n)(n2:n≤999):Ge [.one k n]:=by
 refine⟨by simp,λt ht=>?_,?_,(by show 1≤5;decide)⟩
 ·have e:t= .one k n:=by simpa using ht
  subst e;exact⟨hk,n1,n2⟩
 ·have h1:=tG hk;have h2:=tF n1 n2;show ((k++aK n)++[]).length≤23;rw[append_nil,length_append];omega
def yA(hk:ki k):bJ ([(1,[.one k 1])],0):=P4 (JB (SI hk 0e4 0e4)) 0e4 0e4
def Cs(k:List Nat):fL ([(1,[.one k 1])],0)=k:=by
 show (k++aK 1++[])++([]++g8 0)=_;rw[WW,show g8 0=[] from rfl];simp
def Kd:bJ ([], -1):=⟨rfl,(by show 3≤33;decide),(by show 0≤7;decide)⟩
def Oa:(⟨(fL ([], -1)).toArray⟩:Str)="e^-" :=by decide+kernel
def lR{q:Key×V}(h:q∈putK kvs k v):q∈kvs∨q=(k,v):=by
 unfold putK at h;split at h
 ·obtain⟨r,hr,e⟩:=mem_map.mp h;subst e;split
  ·rename_i e
   exact .inr (by rw[e])
  ·exact .inl hr
 ·rcases mem_append.mp h with h|h
  ·exact .inl h
  ·exact .inr (by simpa using h)
def Ed{kvs:0e2}{k:Key}{v:V}{j:Key}(h:j∈(putK kvs k v).map 1e8):j∈kvs.map 1e8∨j=k:=by
 obtain⟨q,hq,rfl⟩:=mem_map.mp h;rcases lR hq with hq|hq
 ·exact .inl (mem_map_of_mem hq)
 ·exact .inr (by rw[hq])
theorem lS{Pk:Key→Prop}(t:Int):∀(as:List (Str×Int)) (acc:0e2),(∀q∈acc,Pk q.1)→(∀p∈as,Pk (Sum.inr p.1))→∀q∈aW t acc as,Pk q.1
 | [],_,h,_,q,hq=>h q hq
 |p::r,acc,h,h',q,hq=>by
  refine lS t r (bN acc (Sum.inr p.1) (p.2*t)) (λq hq=>?_) (λp hp=>h' p (mem_cons_of_mem _ hp)) q hq;rcases lR hq with hq|hq
  ·exact h q hq
  ·rw[hq];exact h' p 1e6
def k8{x:Fm}(h:bJ x):∀q∈cW 1 x.1,∃k,ki k∧q.1=Sum.inr (3e7:Str):=by
 refine lS (Pk:=λj=>∃k,ki k∧j=Sum.inr (3e7:Str)) 1 _ [] (λq hq=>by cases hq) λp hp=>?_;obtain⟨y,hy,hp⟩:=mem_flatMap.mp hp;have nY:=jY h.1 y hy;obtain⟨t,ht,hp⟩:=mem_flatMap.mp hp;obtain⟨k,hk,e⟩:=wx 1 y.1 t (nY.2.1 t ht) p hp;exact⟨k,hk,by rw[e]⟩
def Ke(h:bJ x):FL (2^50) (cW 1 x.1):=by
 have hb:=qQ (t:=1) (b:=1000000000000) 0e4 (x.1.flatMap (b6 1)) [] 0 (Int.le_refl _) (λp hp=>by cases hp) λp hp=>by
  obtain⟨y,hy,hp⟩:=mem_flatMap.mp hp;obtain⟨_,h1,n1,n2⟩:=jY h.1 y hy;obtain⟨t,ht,hp⟩:=mem_flatMap.mp hp;obtain⟨q1,q2⟩:=n4 1 y.1 t (h1 t ht) 0e5 p hp;rw[mul_one];refine⟨q1,?_⟩
  have:(999 :Int) ^1*y.1≤999*999:=by
   rw[show (999 :Int) ^1=999 from rfl];exact Int.mul_le_mul_of_nonneg_left n2 0e4
  omega
 intro p hp;obtain⟨i,e,b0,b1⟩:=hb p hp;refine⟨i,e,b0,?_⟩;have:=h.2.2;have:(2 :Int) ^50=1125899906842624:=by decide
 have e7:((x.1.flatMap (b6 1)).length:Int)*1000000000000≤7*1000000000000:=Int.mul_le_mul_of_nonneg_right 0e5 0e4;omega
def Kf(x:Fm):((cW 1 x.1).map 1e8).Nodup:=gS _
theorem AF(f:Key→Int)(j:Key):∀{l:0e2},(l.map 1e8).Nodup→(l.map λp=>f p.1*(if p.1=j then 1 else 0)).sum=if j∈l.map 1e8 then f j else 0
 | [],_=>rfl
 |p::r,hn=>by
  rw[map_cons,nodup_cons] at hn;rw[map_cons,sum_cons,AF f j hn.2,map_cons];by_cases e:p.1=j
  ·subst e;rw[if_pos rfl,if_neg hn.1,if_pos 1e6,mul_one,add_zero]
  ·rw[if_neg e,mul_zero,zero_add];by_cases m:j∈r.map 1e8
   ·rw[if_pos m,if_pos (mem_cons_of_mem _ m)]
   ·rw[if_neg m,if_neg (λz=>by rcases mem_cons.mp z with z|z;exact e z.symm;exact m z)]
def ri(k:Str)(k':Key):aE [(Sum.inr k, .int 1)] k'=if k'=Sum.inr k then 1 else 0:=dZ [] (Sum.inr k) k' 1
def Ob{D:0e2}(hn:(D.map 1e8).Nodup)(k:Str):N0 D [(Sum.inr k, .int 1)] D=aE D (Sum.inr k):=by
 have h:=AF (aE D) (Sum.inr k) hn;unfold N0;have e:(D.map λp=>aE D p.1*aE [(Sum.inr k,V.int 1)] p.1)=D.map λp=>aE D p.1*(if p.1=Sum.inr k then 1 else 0):=map_congr_left λp _=>by rw[ri]
 rw[e,h];split
 ·rfl
 ·rename_i m
  rw[dv (n6 m)]
def Ee(h:bJ x):¬(Sum.inr "+" :Key)∈(cW 1 x.1).map 1e8:=λm=>by
 obtain⟨q,hq,e⟩:=mem_map.mp m;obtain⟨k,hk,e'⟩:=k8 h q hq;rw[e] at e';injection e' with e';exact AE hk e'.symm
noncomputable def kD(x:Fm):List (Key×V):=putK (cW 1 x.1) (Sum.inr "+") (.int x.2)
def Kg{x:Fm}(h:bJ x)(k:Str):u5 x k=aE (kD x) (Sum.inr k):=by
 unfold u5 kD;rw[Ob (Kf x),dZ,ri];by_cases e:k="+"
 ·subst e;rw[if_pos rfl,if_pos rfl,dv (n6 (Ee h)),zero_add,mul_one]
 ·rw[if_neg (λz=>e (by injection z with z;exact z.symm)),if_neg (λz=>e (by injection z)),mul_zero,add_zero]
def SJ(h:bJ x)(k:Str): -(2^60) <u5 x k∧u5 x k<2^60:=by
 rw[Kg h];unfold kD;rw[dZ];split
 ·have:=Ka h.1;omega
 ·have:=(Ke h).Nc 0e4 (Sum.inr k);omega
def SK(h:bJ x)(v:V):Ea (Sum.inr (1e7:Str),v) x:=⟨rfl,h,NZ λp hp=>by
 obtain⟨i,e,b0,b1⟩:=Ke h p hp;have:(2 :Int) ^50≤2^127:=by decide
 exact⟨i,e,b0,by omega⟩,SJ h⟩
def Told(ws:List Fm)(s:Str):Prop:=s="e^-" ∨(∃w∈ws,s=⟨(fL w).toArray⟩)∨∃w∈ws,(Sum.inr s:Key)∈(cW 1 w.1).map 1e8
def pV{ws:List Fm}(h:∀w∈ws,bJ w)(t:Told ws s):D7 s:=by
 rcases t with rfl| ⟨w,hw,rfl⟩ | ⟨w,hw,hs⟩
 ·exact⟨_,Kd,Oa.symm⟩
 ·exact⟨w,h w hw,rfl⟩
 ·obtain⟨q,hq,e⟩:=mem_map.mp hs;obtain⟨k,hk,e'⟩:=k8 (h w hw) q hq;rw[e] at e';injection e' with e';exact⟨_,yA hk,by rw[Cs,e']⟩
variable {uC uP uI uD uL uT:Tok}{St:3e5}
def Ef:av ["_law_cell","_law_prime","_law_number"] ["_law_cell","_law_prime"] (aj xI):=cX
inductive SM(vs:4e5)(H:Hp)(Q:VK)(E:XK):Prop
 |mk (c p:Int) (dH:vs=[.int c, .int p]) (dI:0<p) (dN:p<2^60) (eK:∀n,Q (.int n) H)
def Qa:Sp:=SM
def SQ(D:Def K mg "_law_mixed" "_law_mixed" xI ["_law_cell","_law_prime"]):a5 P w K mg base 1 "_law_mixed" ["_law_cell","_law_prime"] Qa:=by
 refine D.cN Ef 0e7 0e1
 ·obtain⟨c,p,rfl,_⟩:=h;rfl
 ·obtain⟨c,p,rfl,p0,p1,q⟩:=h;have m0:0≤c%2147483647:=emod_nonneg _ 0e4;have m1:c%2147483647<2147483647:=emod_lt_of_pos _ 0e4;refine⟨_,(ai (az (i:=2) Ef.nd rfl 0e6 (ay bZ (ay bw 2e1 aq) aq)) (ao (aA (ay bw (ay bZ (ay fT (ay fT (pv 2) (pv 2)) aq) (pv 2)) (pv 1))))),?_⟩;refine⟨_,rfl,_,_,rfl,rfl,(by show (0 :Int) <2147483647;decide),_,_,rfl,rfl,?_⟩;refine⟨_,rfl,_,rfl,_,_,rfl,rfl, .inl ⟨by omega,by omega⟩,_,_,rfl,rfl, .inr 2e8,_,rfl,_,_,rfl,rfl,_,rfl,_,_,rfl,rfl,p0,q _⟩
def SR:aK 12=[49,50]:=by decide+kernel
def fig3:aK 3=[51]:=by decide+kernel
def tW:(".12" :Str)=⟨[46,49,50].toArray⟩:=by decide+kernel
def e413:(")3" :Str)=⟨[41,51].toArray⟩:=by decide+kernel
def Xg(ts:List Tr)(k:List Nat):wL 1 [(1,ts),(12,[.one k 1])] 0=ts.flatMap (bW 1)++([46,49,50]++k):=by
 show ts.flatMap (bW 1)++(((46::(aK 12++(k++aK 1++[])))++[])++[])=_;rw[SR,WW];simp
def Xh(h:Ge ts)(hk:ki k):okB [(1,ts),(12,[.one k 1])]:=by
 obtain⟨h1,h2,h3,h4⟩:=h;refine⟨by simp,λn n1 n2=>⟨rfl,λx hx=>?_,n1,n2⟩,?_,?_⟩
 ·have e:x=(1,ts)∨x=(12,[.one k 1]):=by simpa using hx
  rcases e with e|e
  ·subst e;exact⟨h1,h2,(by show (1 :Int)≤1;decide),(by show (1 :Int)≤999;decide)⟩
  ·subst e;refine⟨by simp,λu hu=>?_,(by show (1 :Int)≤12;decide),(by show (12 :Int)≤999;decide)⟩;have e:u= .one k 1:=by simpa using hu
   subst e;exact⟨hk,by decide,by decide⟩
 ·have:=tG hk;rw[Xg,length_append,length_append];show _+(3+_)≤29;omega
 ·show (ts.flatMap (bb 1 1)++([((3e7:Str),(1 :Int)*12)]++[]++[])).length≤7;rw[length_append];show _+1≤7;omega
def Xi(ts:List Tr)(k:List Nat):cW 1 [(1,ts),(12,[.one k 1])]=bN (cW 1 [(1,ts)]) (Sum.inr 3e7) 12:=by
 have e:([(1,ts),(12,[.one k 1])]:List iM).flatMap (b6 1)=([(1,ts)]:List iM).flatMap (b6 1)++[((3e7:Str),1*12)]:=by
  show ts.flatMap (bb 1 1)++([((3e7:Str),(1 :Int)*12)]++[]++[])=(ts.flatMap (bb 1 1)++[])++_;simp
 unfold cW aW;rw[e,foldl_append];rfl
noncomputable def K3(k0 k1 k2:List Nat):List Key:=[Sum.inr ⟨k0.toArray⟩,Sum.inr ⟨k1.toArray⟩,Sum.inr ⟨k2.toArray⟩]
def few3{kvs:0e2}(hn:(kvs.map 1e8).Nodup)(h:∀q∈kvs,q.1∈K3 k0 k1 k2):kvs.length≤3:=by
 have:(kvs.map 1e8).length≤(K3 k0 k1 k2).length:=List.Nodup.length_le_of_subset hn λk hk=>by
  obtain⟨q,hq,rfl⟩:=mem_map.mp hk;exact h q hq
 rw[length_map] at this;exact this
def Kh(h0:ki k0)(h1:ki k1)(h2:ki k2){i:Nat}(hi:i<3):∃k,ki k∧(Sum.inr (3e7:Str):Key)∈K3 k0 k1 k2∧uH [V.str ⟨k0.toArray⟩, .str ⟨k1.toArray⟩, .str ⟨k2.toArray⟩] (0+(i:Int))=some (V.str 3e7):=by
 match i,hi with
 |0,_=>exact⟨k0,h0,by simp [K3],rfl⟩
 |1,_=>exact⟨k1,h1,by simp [K3],rfl⟩
 |2,_=>exact⟨k2,h2,by simp [K3],rfl⟩
def SS{i:Nat}(hi:i<3):∃z,0<z∧z<100∧uH [V.int 1, .int 5, .int 25] (0+(i:Int))=some (V.int z):=by
 match i,hi with
 |0,_=>exact⟨1,by decide,by decide,rfl⟩
 |1,_=>exact⟨5,by decide,by decide,rfl⟩
 |2,_=>exact⟨25,by decide,by decide,rfl⟩
def PvM(o:Obj)(KV:0e2)(d D2:3e5)(H2:Hp):Nat→L2.St→Hp→Prop:=λi σ H'=>∃(v:Option V) (ps:List (Addr×Key×V)),σ=[v,some (.ref d)]∧H' d=some (.dX o (.dK KV))∧H' D2=some (.lst (ps.map λp=> .ref p.1))∧(∀p∈ps,H' p.1=some (.tup [kV p.2.1,p.2.2]))∧ps.map (·.2)=((KV.take i).map λp=>(p.1,V.int (3*aE KV p.1)))∧∀b o',H2 b=some o'→b≠d→H' b=some o'
inductive Gx(vs:4e5)(H:Hp)(Q:VK)(E:XK):Prop
 |mk (c:Int) (kl:3e5) (k0 k1 k2:List Nat) (dH:vs=[.int c, .ref kl]) (dI:H kl=some (.lst [.str ⟨k0.toArray⟩, .str ⟨k1.toArray⟩, .str ⟨k2.toArray⟩])) (dN:ki k0) (eK:ki k1) (gj:ki k2) (i6:∀(t:3e5) (x:Fm) H',bJ x→(cW 1 x.1).length≤3→Ah H' t x→au H H'→Q (.ref t) H')
def AG:Sp:=Gx
def dW:av ["_law_cell","_law_kinds","_law_counts","_law_text_here","_law_k","_law_count_here","_law_charge"] ["_law_cell","_law_kinds"] (aj nC):=cX
def Gy(D:Def K mg "_law_matter" "_law_matter" nC ["_law_cell","_law_kinds"])(T:3e3)(c4:a5 P w K mg base 1 "_law_figures" ["_law_count_here"] kK):
  a5 P w K mg base 2 "_law_matter" ["_law_cell","_law_kinds"] AG:=by
 obtain⟨_,_,qg⟩:=c4;refine D.cN dW 0e7 0e1
 ·obtain⟨c,kl,k0,k1,k2,rfl,_⟩:=h;rfl
 ·obtain⟨c,kl,k0,k1,k2,rfl,Oc,SU,okk1,okk2,q⟩:=h;have hu:=cM hr;have Od:=hr.ky;have big:=bgL
  refine⟨_,(ai (az (i:=2) dW.nd rfl (Or.inr rfl) dq) (ai (az (i:=3) dW.nd rfl 0e6 bh) (ai (bU PassesOwn.never rfl (lq rfl T.qR (ag aq ak)) (aB (i:=4) dW.nd rfl 0e6) (ai (az (i:=5) dW.nd rfl 0e6 (ay bw (ay bO 2e1 (bQ bP (b7 (ag aq (ag aq (ag aq ak)))) (pv 4) 2e7)) aq)) (ao (bC (aL mR (pv 5) aq (aO _)) (ai (cF hu (pv 2) (bQ bP (pv 1) (pv 4) 2e7) (ay bZ (b5 hu (pv 2) (bQ bP (pv 1) (pv 4) 2e7) aq ⟨rfl,rfl,rfl,rfl⟩) (pv 5)) rfl) (ao (az (i:=3) dW.nd rfl 0e6 (ay bj (ay bj (pv 3) (bQ bP (pv 1) (pv 4) 2e7)) (fz qg hr (ag (pv 5) ak))))))
        aN)))) (ai (az (i:=6) dW.nd rfl 0e6 (bQ bP (b7 (ag aq (ag aq (ag aq (ag (kg gB aq) (ag aq (ag (kg gB aq) ak))))))) (ay bw (ay bO 2e1 aq) aq) 2e7)) (ai (bC (aL dk (pv 3) bh (aO _)) (ao (aA (cj (ag bh (ag dq (ag (kg gB aq) ak))))))
      aN) (ai (bC (aL dk (ay bw (ay bO 2e1 aq) aq) aq (aO _)) (ai (az (i:=3) dW.nd rfl 0e6 (ay bj (ay bj bh (pv 3)) bh)) (ao (az (i:=2) dW.nd rfl (Or.inr rfl) (bq (mz rfl) rfl T.ja gM (ag (qB (gg (sc:=(aj nC)) (NX:=["_law_cell","_law_kinds","_law_counts","_law_text_here","_law_k","_law_count_here","_law_charge"]) (N:=["_law_kind_here","_law_counts"]) (fr:=[none,some 2]) 0e8 rfl rfl rfl (cJ (pv 2)) (λ_ _ _ _=>(aB (i:=0) (show (["_law_kind_here","_law_counts"]:List Str).Nodup by decide+kernel) rfl 0e6 (Or.inr rfl))) (λ_ _ _ _=>gf) (λ_ _ _ _=>(cj (ag 2e1 (ag (ay fT aq (bX hu (pv 1) 2e1 2e7)) ak)))))) ak)))))
      aN) (ai (bC (aL dk (ay bw (ay bO 2e1 aq) aq) aq (aO _)) (ai (az (i:=3) dW.nd rfl 0e6 (ay bj (ay bj (pv 3) bh) (bQ bP (pv 1) aq 2e7))) (ao (cF hu (pv 2) (bQ bP (pv 1) aq 2e7) (ay bZ (b5 hu (pv 2) (bQ bP (pv 1) aq 2e7) aq ⟨rfl,rfl,rfl,rfl⟩) aq) rfl)))
      aN) (ai (bC (aL me (pv 6) aq (aO _)) (ao (az (i:=3) dW.nd rfl 0e6 (ay bj (ay bj (ay bj (pv 3) bh) (fz qg hr (ag (bS zh rfl T.Jk Ie (ag (pv 6) ak)) ak))) (bQ bP (b7 (ag bh (ag bh ak))) (bq o6 rfl T.zU rV (ag (jw mR (pv 6) aq (aO _)) ak)) 2e7))))
      aN) (ao (aA (cj (ag (pv 3) (ag (pv 2) (ag (pv 6) ak)))))))))))))),?_⟩
  refine λd hd=>?_;refine⟨_,rfl,by decide,by decide,vd (λi σ H'=>∃(as:DP) (v3 v4:Option V),σ=[some (.int c),some (.ref kl),some (.ref d),some (.str ⟨(as.flatMap λa=>a.1++aK a.2).toArray⟩),v3,v4,none]∧Jy as∧(∀p∈pL as,(Sum.inr p.1 :Key)∈K3 k0 k1 k2)∧as.length≤i∧H' d=some (.dK (aW 1 [] (pL as)))∧au H H') ?_ ?_ ?_⟩
  ·exact⟨[],none,none,by rw[P2];rfl,(λa ha=>by cases ha),(λa ha=>by cases ha),le_refl _,aa,au.new hd⟩
  ·rintro i σ H' hi ⟨as,v3,v4,rfl,aM,Oe,hl,iL,e⟩;have hi3:i<3:=by have:i< (3 :Int).toNat:=hi;omega
   obtain⟨k,hk,SV,hka⟩:=Kh SU okk1 okk2 hi3;obtain⟨z,z0,z1,hza⟩:=SS hi3;have hkl':=e _ _ Oc;have sl:∀l,H' l=none→au H' (upd H' l (.lst [V.int 1, .int 5, .int 25])):=λl hl=>au.new hl;refine⟨_,rfl,(by show 3≤sizeLine;decide),λl uo=>⟨_,rfl,l,_,_,V.int z,rfl,rfl,bM.of aa,hza,_,_,rfl,rfl,⟨z0,by omega⟩,_,_,rfl,rfl,(by show (0 :Int) <5;decide),?_⟩⟩;have e2:=e.trans (sl l uo);have hd2:=sl l uo _ _ iL;have Gz:=sl l uo _ _ hkl';have m0:0≤c/z%5:=emod_nonneg _ 0e4;have m1:c/z%5<5:=emod_lt_of_pos _ 0e4;dsimp only [cg];generalize c/z%5=m at m0 m1 ⊢;generalize upd H' l (.lst [V.int 1, .int 5, .int 25])=H2 at e2 hd2 Gz ⊢;refine⟨_,rfl,_,_,rfl,rfl,_,rfl,eF (λem=>?_) λ_=>⟨as,_,_,rfl,aM,Oe,by omega,hd2,e2⟩⟩;have em:0<m:=by simpa using em
   have za:=lP aM;have zk:=tG hk;have zm:=il (n:=m) 0e5 0e5;have hI:aU (aW 1 [] (pL as)):=jK 1 _ _ λp hp=>by cases hp
   have l9:=jL 1 (pL as) [];have hal:(pL as).length=as.length:=by unfold pL;rw[length_map]
   rw[length_nil] at l9;refine⟨_,rfl,d,rfl, .inl ⟨_, .inl hd2⟩,_,rfl,_,rfl,kl,_,_,_,rfl,rfl,bM.of Gz,hka,_,fU.k (k:=Sum.inr 3e7) hd2,_,rfl,_,_,hI.at _,rfl,_,rfl,_,rfl,_,rfl,kl,_,_,_,rfl,rfl,bM.of Gz,hka,d,_,rfl,i4.k (k:=Sum.inr 3e7) hd2 0e5,?_⟩;have nkd:kl≠d:=af Oc hd;have U7:(upd H2 d (.dK (putK (aW 1 [] (pL as)) (Sum.inr 3e7) (.int (aE (aW 1 [] (pL as)) (Sum.inr 3e7)+m))))) kl=some (.lst [.str ⟨k0.toArray⟩, .str ⟨k1.toArray⟩, .str ⟨k2.toArray⟩]):=by rw[ah nkd];exact Gz
   refine⟨_,rfl,_,rfl,_,rfl,kl,_,_,_,rfl,rfl,bM.of U7,hka,_,_,rfl,rfl,by rw[a0,a0];omega,_,rfl,m,rfl,by omega,by omega,_,_,rfl,rfl,by rw[bg,a0,a0];omega,?_⟩;refine⟨as++[(k,m)],some (.int (0+(i:Int))),some (.int m),?_,?_,?_,?_,?_,?_⟩
   ·have ex:(⟨(as.flatMap λa=>a.1++aK a.2).toArray⟩:Str)++3e7++dM m=⟨((as++[(k,m)]).flatMap λa=>a.1++aK a.2).toArray⟩:=by
     rw[cR,bA,bA,flatMap_append,flatMap_cons,flatMap_nil,append_nil,append_assoc]
    rw[←ex];rfl
   ·intro a ha;rcases mem_append.mp ha with ha|ha
    ·exact aM a ha
    ·have ea:a=(k,m):=by simpa using ha
     subst ea;exact⟨hk,by omega,by omega⟩
   ·intro p hp;unfold pL at hp;rw[map_append] at hp;rcases mem_append.mp hp with hp|hp
    ·exact Oe p hp
    ·have ep:p=((3e7:Str),m):=by simpa using hp
     rw[ep];exact SV
   ·rw[length_append];show as.length+1≤i+1;omega
   ·rw[aa]
    have ec:aW 1 [] (pL (as++[(k,m)]))=bN (aW 1 [] (pL as)) (Sum.inr 3e7) (m*1):=by
     unfold pL aW;rw[map_append,foldl_append];rfl
    rw[ec,mul_one];rfl
   ·intro b o z;rw[ah (af z hd)];exact e2 _ _ z
  ·rintro σ H' ⟨as,v3,v4,rfl,aM,Oe,hl,iL,e⟩;have l3:as.length≤3:=hl;have l9:=e _ _ Oc;have za:=lP aM;have d0:0≤c/125%6:=emod_nonneg _ 0e4;have d1:c/125%6<6:=emod_lt_of_pos _ 0e4;obtain⟨v,hv,qp⟩:=pe (xs:=[V.int 0,V.int 0,V.int 1,V.int (-1),V.int 2,V.int (-14)]) d0 d1
   have hc:∃n,v=V.int n∧ -99≤n∧n≤99:=by
    simp only [mem_cons,not_mem_nil,or_false] at hv;rcases hv with rfl|rfl|rfl|rfl|rfl|rfl<;>exact⟨_,rfl,by decide,by decide⟩
   obtain⟨n,rfl,n1,n2⟩:=hc;refine⟨1,rfl,14,rfl,(by show 6≤sizeLine;decide),λl uo=>⟨_,rfl,_,_,rfl,rfl,2e8,_,_,rfl,rfl,(by show (0 :Int) <6;decide),l,_,_,V.int n,rfl,rfl,bM.of aa,qp,?_⟩⟩;have sl:=au.new (o:= .lst [V.int 0,V.int 0,V.int 1,V.int (-1),V.int 2,V.int (-14)]) uo;have e1:=e.trans sl;have Hg:=sl _ _ iL;have SW:=sl _ _ l9;dsimp only [cg];generalize upd H' l (.lst [V.int 0,V.int 0,V.int 1,V.int (-1),V.int 2,V.int (-14)])=H1 at e1 Hg SW ⊢;refine⟨_,rfl,rfl,_,rfl,eF (λet=>?_) λet=>?_⟩
   ·refine λd3 P9=>⟨1,rfl,(by show 3≤sizeLine;decide),λt ht=>?_⟩;have e0:("e^-" :Str)=⟨(fL ([], -1)).toArray⟩:=by decide+kernel
    refine q t ([], -1) _ ⟨rfl,(by show 3≤33;decide),(by show 0≤7;decide)⟩ (by show 0≤3;decide) ⟨d3,?_,?_⟩ (e1.trans ((au.new P9).trans (au.new ht)))
    ·rw[aa,←e0]
    ·rw[ah (af aa ht),aa];rfl
   have l1:1≤as.length:=by
    cases as with
    |nil=>exact absurd (by rw[P2];decide) et
    |cons a r=>rw[length_cons];omega
   have hkc:∀c:Int,∀q∈aW c [] (pL as),q.1∈K3 k0 k1 k2:=λc=>lS (Pk:=λj=>j∈K3 k0 k1 k2) c (pL as) [] (λq hq=>by cases hq) Oe;dsimp only [CW];refine gi (fun σ' H'=>∃(ts:List Tr) (d':3e5),σ'=[some (.int c),some (.ref kl),some (.ref d'),some (.str ⟨(ts.flatMap (bW 1)).toArray⟩),v3,v4,some (.int n)]∧Ge ts∧(∀q∈cW 1 [(1,ts)],q.1∈K3 k0 k1 k2)∧H d'=none∧H' d'=some (.dK (cW 1 [(1,ts)]))∧au H H') (λN hN=>?_) ?_
   ·refine⟨_,rfl,_,_,rfl,rfl,2e8,_,_,rfl,rfl,(by show (0 :Int) <4;decide),rfl,_,rfl,eF (λ_=>?_) λ_=>?_⟩
    ·have l40:("(" :Str).length=1:=by decide+kernel
     have l41:(")3" :Str).length=2:=by decide+kernel
     refine⟨_,rfl,_,_,rfl,rfl,by rw[l40,a0];omega,_,_,rfl,rfl,by rw[bg,l40,l41,a0];omega,?_⟩;refine⟨_,rfl,d,_,rfl,Hg,λo nf D2 Mc=>?_⟩;have hI:aU (aW 1 [] (pL as)):=jK 1 _ _ λp hp=>by cases hp
     have hn:((aW 1 [] (pL as)).map 1e8).Nodup:=xR 1 _ _ nodup_nil;have l9:=jL 1 (pL as) [];have hal:(pL as).length=as.length:=by unfold pL;rw[length_map]
     rw[length_nil] at l9;generalize hK:aW 1 [] (pL as)=KV at Hg hI hn l9;have NP:D2≠d:=λz=>by rw[z,aa] at Mc;cases Mc
     have W3:H1 D2=none:=by rwa [ah NP] at Mc
     have gen:∀i σ H',PvM o KV d D2 H1 i σ H'→H' d=some (.dX o (.dK KV)):=λi σ H' ⟨_,_,_,z,_⟩=>z;refine ph (a:=d) (D:=D2) (kvs:=KV) (PvM o KV d D2 H1) ?_ gen ?_ ?_
     ·exact⟨none,[],rfl,by rw[ah (Ne.symm NP),aa],aa,(λp hp=>by cases hp),rfl,λb o' z hb=>by rw[ah (af z W3),ah hb];exact z⟩
     ·rintro i k v σ H' hi ⟨v',ps,rfl,f1,f2,f3,f4,f5⟩ N hN;have hv:=hI.d5 (mem_of_getElem? hi)
      have gX:ps.length≤3:=by
       have:=congrArg List.length f4;rw[length_map,length_map,length_take] at this;omega
      refine⟨_,rfl,_,rfl,_,rfl,d,V.int (aE KV k),rfl, .inl ⟨_,k, .inr ⟨o,f1⟩,rfl,hv.symm⟩,_,_,rfl,rfl, .inl 2e8,2e2,λt ht=>?_⟩;have W4:D2≠t:=af f2 ht;have ndt:d≠t:=af f1 ht;refine⟨_,by rw[ah W4];exact f2,by rw[length_map];omega,hN _ _ ⟨_,ps++[(t,k,V.int (3*aE KV k))],rfl,?_,?_,?_,?_,?_⟩⟩
      ·rw[ah (Ne.symm NP),ah ndt];exact f1
      ·rw[aa,map_append];rfl
      ·intro p hp;rcases mem_append.mp hp with hp|hp
       ·have p1:=f3 p hp;rw[ah (cI p1 f2 3e4),ah (af p1 ht)];exact p1
       ·have e':p=(t,k,V.int (3*aE KV k)):=by simpa using hp
        subst e';rw[ah (Ne.symm W4)];exact aa
      ·rw[map_append,f4,take_snoc hi,map_append];rfl
      ·intro b o' e' hb;rw[ah (af e' W3),ah (af (f5 b o' e' hb) ht)];exact f5 b o' e' hb
     rintro σ H' ⟨v',ps,rfl,f1,f2,f3,f4,f5⟩;rw[take_length] at f4;refine⟨d,o,KV,f1,nf,D2,ps,rfl,by rw[ah NP];exact f2,λp hp=>by rw[ah (cI (f3 p hp) f1 3e4)];exact f3 p hp,λw hw=>?_⟩
     have e8:bF [] (ps.map (·.2))=scale 3 KV:=by
      rw[f4,nV _ [] (by rw[nil_append,map_map];exact hn),nil_append,we hI hn]
     have W5:au H1 (upd H' d (.dK KV)):=λb o' e=>by
      by_cases z:b=d
      ·subst z;rw[aa];exact Hg.symm.trans e
      ·rw[ah z];exact f5 b o' e z
     have s8:au H1 (upd (upd H' d (.dK KV)) w (.dK (bF [] (ps.map (·.2))))):=W5.trans (au.new hw);refine hN _ _ ⟨[.gr (as.map aT) 3],w,?_,Sr aM l1 l3 0e4 0e4,?_,none_back (e1.trans W5) hw,?_,e1.trans s8⟩
     ·have ex:("(" :Str)++(⟨(as.flatMap λa=>a.1++aK a.2).toArray⟩:Str)++")3" =⟨([Tr.gr (as.map aT) 3].flatMap (bW 1)).toArray⟩:=by
       rw[PZ,fig3,Sb,e413,show (⟨#[40]⟩:Str)=⟨[40].toArray⟩ from rfl,bA,bA];simp
      rw[←ex];rfl
     ·rw[P1,hK,←we hI hn];intro q hq;obtain⟨p,hp,rfl⟩:=mem_map.mp hq;exact hkc 1 p (by rw[hK];exact hp)
     ·rw[aa,P1,hK,e8]
    ·refine hN _ _ ⟨as.map aT,d,by rw[pM];rfl,JA aM l1 l3,by rw[PY];exact hkc 1,hd,by rw[PY];exact Hg,e1⟩
   rintro σ' H4 ⟨ts,d4,rfl,Of,A9,hd40,Nu,e4⟩;have SX:=e4 _ _ Oc;have z1:=Of.2.2.1;refine gi (fun σ' H'=>∃xs:List iM,σ'=[some (.int c),some (.ref kl),some (.ref d4),some (.str ⟨(wL 1 xs 0).toArray⟩),v3,v4,some (.int n)]∧okB xs∧(∀q∈cW 1 xs,q.1∈K3 k0 k1 k2)∧H' d4=some (.dK (cW 1 xs))∧au H H') (λN hN=>?_) ?_
   ·refine⟨_,rfl,_,_,rfl,rfl,2e8,_,_,rfl,rfl,(by show (0 :Int) <4;decide),rfl,_,rfl,eF (λ_=>?_) λ_=>?_⟩
    ·have l12:(".12" :Str).length=3:=by decide+kernel
     have zk:=tG SU;have hI:=pN [(1,ts)];have hl:=tH (JB Of).2.2.2;have ha0:uH [V.str ⟨k0.toArray⟩, .str ⟨k1.toArray⟩, .str ⟨k2.toArray⟩] 0=some (V.str ⟨k0.toArray⟩):=rfl;refine⟨_,rfl,_,_,rfl,rfl,by rw[l12,a0];omega,_,rfl,kl,_,_,_,rfl,rfl,bM.of SX,ha0,_,_,rfl,rfl,by rw[bg,l12,a0,a0];omega,?_⟩;refine⟨_,rfl,d4,rfl, .inl ⟨_, .inl Nu⟩,_,rfl,kl,_,_,_,rfl,rfl,bM.of SX,ha0,_,fU.k (k:=Sum.inr ⟨k0.toArray⟩) Nu,_,_,hI.at _,rfl,_,rfl,_,rfl,kl,_,_,_,rfl,rfl,bM.of SX,ha0,d4,_,rfl,i4.k (k:=Sum.inr ⟨k0.toArray⟩) Nu 0e5,?_⟩;refine hN _ _ ⟨[(1,ts),(12,[.one k0 1])],?_,Xh Of SU,?_,?_,λb o z=>?_⟩
     ·have ex:(⟨(ts.flatMap (bW 1)).toArray⟩:Str)++".12" ++⟨k0.toArray⟩=⟨(wL 1 [(1,ts),(12,[.one k0 1])] 0).toArray⟩:=by
       rw[Xg,tW,bA,bA];simp
      rw[←ex];rfl
     ·rw[Xi];intro q hq;rcases lR hq with hq|hq
      ·exact A9 q hq
      ·rw[hq];simp [K3]
     ·rw[aa,Xi];rfl
     ·rw[ah (af z hd40)];exact e4 _ _ z
    ·exact hN _ _ ⟨[(1,ts)],by rw[WX],JB Of,A9,Nu,e4⟩
   rintro σ' H5 ⟨xs,rfl,okb,hxk,Xj,e5⟩;have zb:=okb.2.2.1;refine gi (fun σ' H'=>σ'=[some (.int c),some (.ref kl),some (.ref d4),some (.str ⟨(wL 1 xs n).toArray⟩),v3,v4,some (.int n)]∧H' d4=some (.dK (cW 1 xs))∧au H H') (λN hN=>?_) ?_
   ·refine⟨_,rfl,rfl,_,rfl,eF (λe=>?_) λe=>?_⟩
    ·have e:¬n=0:=by simpa using e
     have a1:1≤(if n<0 then -n else n):=by split<;>omega
     have a2:(if n<0 then -n else n)≤999:=by split<;>omega
     have z:=il a1 a2;have g1:("^" :Str).length=1:=by decide+kernel
     have g2:(if 0<n then ("+" :Str) else ("-" :Str)).length=1:=by split<;>decide+kernel
     refine⟨_,rfl,_,_,rfl,rfl,by rw[g1,a0];omega,_,rfl,n,rfl,_,rfl,a1,a2,_,_,rfl,rfl,by rw[bg,g1,a0];omega,2e2,λy hy=>⟨_,rfl,_,_,rfl,rfl, .inr ⟨_,rfl,y,_,_,V.str _,rfl,rfl,bM.of aa,Ss n,_,_,rfl,rfl,?_,hN _ _ ⟨?_,?_,e5.trans (au.new hy)⟩⟩⟩⟩
     ·rw[bg,bg,a0,g1,g2];omega
     ·have ex:(⟨(wL 1 xs 0).toArray⟩:Str)++"^" ++dM (if n<0 then -n else n)++(if 0<n then ("+" :Str) else ("-" :Str))=⟨(wL 1 xs n).toArray⟩:=by
       rw[WV okb.1 n,←bA,NG e,←vH,←vH]
      rw[←ex];rfl
     ·rw[ah (af Xj hy)];exact Xj
    ·have e:n=0:=by simpa using e
     subst e;exact hN _ _ ⟨rfl,Xj,e5⟩
   rintro σ' H6 ⟨rfl,SY,e6⟩;exact⟨_,rfl,_,rfl,_,rfl,(by show 3≤sizeLine;decide),λt ht=>q t (xs,n) _ (P4 okb n1 n2) (few3 (gS _) hxk) ⟨d4,aa,by rw[ah (af SY ht)];exact SY⟩ (e6.trans (au.new ht))⟩
variable {HE Sh:3e5}
def oa{n:Int}(h0:0≤n)(h:n<10^60):(toString n:Str).length≤60:=by
 rw[PySem.ofString_length];obtain⟨m,rfl⟩:=eq_ofNat_of_zero_le h0;show (Nat.repr m).length≤60;rw[Nat.length_repr_le_iff 0e4];omega
def tY{n:Int}(h0:0≤n)(h:n<10^60):n.natAbs.log2<1920:=by
 by_cases e:n.natAbs=0
 ·rw[e];decide
 ·have:=(log2_lt e (k:=200)).mpr 0e5;omega
structure Og(K:0e9)(mg:1e3)(HE Sh:3e5):Prop where
 iV:mg "HallError" =some (.ref HE)
 jZ:IA K HE
 yB:PySem.W.M5 K HE
 Oh:mg "Short" =some (.ref Sh)
 S0:PySem.W.takerIn K Sh "step" =some none
 S1:PySem.W.takerIn K Sh "turn" =some none
 GA:PySem.W.takerIn K Sh "formula" =some none
 S2:PySem.W.takerIn K Sh "lack" =some none
 f_step:PySem.W.findIn K (.ref Sh) "step" =some none
 f_turn:PySem.W.findIn K (.ref Sh) "turn" =some none
 Vi:PySem.W.findIn K (.ref Sh) "formula" =some none
 f_lack:PySem.W.findIn K (.ref Sh) "lack" =some none
 Ki:XIs K Sh
 AH:PySem.W.mroIn K Sh (.ref HE)=some true
noncomputable def shF(st tn:Int)(x:Str)(lk:Int):List (Str×V):=cx "lack" (.int lk) (cx "formula" (.str x) (cx "turn" (.int tn) [("step", .int st)]))
inductive Kj(Sh:3e5)(vs:4e5)(H:Hp)(Q:VK)(E:XK):Prop
 |mk (e:3e5) (st tn:Int) (x:Str) (lk:Int) (dH:vs=[.ref e, .int st, .int tn, .str x, .int lk]) (dI:H e=some (p8 e Sh none)) (dN:0≤st) (eK:st<10^60) (gj:0≤tn) (i6:tn<10^60) (mD:x.length≤100) (qY:0≤lk) (zX:lk<10^60) (IX:∀dx H',H dx=none→dx≠e→H' e=some (p8 e Sh (some dx))→H' dx=some (ur dx (shF st tn x lk))→(∀b o,H b=some o→b≠e→H' b=some o)→Q .cw H')
def Eg(Sh:3e5):Sp:=Kj Sh
def Oi:av ["self","step","turn","formula","lack"] ["self","step","turn","formula","lack"] (aj xH):=cX
def Kk(D:BL K mg "Short" Sh HE "Short.__init__" xH ["self","step","turn","formula","lack"])(T:Og K mg HE Sh):sr P w K mg base 1 "Short" Sh HE ["self","step","turn","formula","lack"] (Eg Sh):=by
 obtain⟨f0,_,_,Z,_⟩:=id D;refine D.cN Oi 0e7 0e1
 ·obtain⟨e,st,tn,x,lk,rfl,_⟩:=h;rfl
 ·obtain⟨e,st,tn,x,lk,rfl,he,s0,s1,t0,t1,hx,l0,l1,q⟩:=h;have big:=bgL;have z1:=oa s0 s1;have z2:=oa t0 t1;have z3:=oa l0 l1;refine⟨_,(ai (a9 (zM rfl T.iV T.jZ 2e1 (Dp (cZ bh (cZ (mB (pv 1)) (cZ bh (cZ (mB (pv 2)) (cZ bh (cZ (mB (pv 3)) (cZ bh (cZ (mB (pv 4)) IB))))))))))) (ai (jI 2e1 (pv 1) rfl) (ai (jI 2e1 (pv 2) rfl) (ai (jI 2e1 (pv 3) rfl) (ao (jI 2e1 (pv 4) rfl)))))),?_⟩;have y1:("step " :Str).length=5:=by decide+kernel
  have y2:(", turn " :Str).length=7:=by decide+kernel
  have y3:(": of " :Str).length=5:=by decide+kernel
  have y4:(" there lacks " :Str).length=13:=by decide+kernel
  have y0:(Str.empty).length=0:=rfl;refine⟨_,rfl,_,rfl,?_,_,rfl, .inl ⟨_,rfl,tY s0 s1,_,rfl,?_,_,rfl,?_,_,rfl, .inl ⟨_,rfl,tY t0 t1,_,rfl,?_,_,rfl,?_,_,rfl, .inr ⟨_,rfl,by omega,_,rfl,?_,_,rfl,?_,_,rfl, .inl ⟨_,rfl,tY l0 l1,_,rfl,?_,?_,e,Sh,HE,f0,none,rfl,Z,he,?_⟩⟩⟩⟩⟩
  any_goals (simp only [bg,y0,y1,y2,y3,y4];omega)
  refine⟨_,rfl,_,rfl,e,Sh,HE,f0,rfl,Z,T.S0, .inl ⟨he,λdx u6 yV=>?_⟩⟩;have h1:(upd (upd H dx (ur dx [("step", .int st)])) e (p8 e Sh (some dx))) e=some (p8 e Sh (some dx)):=aa;have h2:(upd (upd H dx (ur dx [("step", .int st)])) e (p8 e Sh (some dx))) dx=some (ur dx [("step", .int st)]):=by rw[ah yV,aa]
  refine⟨_,rfl,_,rfl,e,Sh,HE,f0,rfl,Z,T.S1, .inr ⟨dx,_,h1,h2,(by show 1<1000;decide),?_⟩⟩;refine⟨_,rfl,_,rfl,e,Sh,HE,f0,rfl,Z,T.GA, .inr ⟨dx,_,by rw[ah (Ne.symm yV)];exact h1,aa,lt_of_le_of_lt (fe _ _ _) (by show 1+1<1000;decide),?_⟩⟩;refine⟨_,rfl,_,rfl,e,Sh,HE,f0,rfl,Z,T.S2, .inr ⟨dx,_,by rw[ah (Ne.symm yV),ah (Ne.symm yV)];exact h1,aa,lt_of_le_of_lt (fe _ _ _) (lt_of_le_of_lt (Nat.add_le_add_right (fe _ _ _) 1) (by show 1+1+1<1000;decide)),?_⟩⟩;refine q dx _ u6 yV (by rw[ah (Ne.symm yV),ah (Ne.symm yV),ah (Ne.symm yV)];exact h1) aa λb o z nb=>?_;have Qb:=af z u6;rw[ah Qb,ah Qb,ah Qb,ah nb,ah Qb];exact z
variable {HE Ub:3e5}
structure S3(K:0e9)(mg:1e3)(HE Ub:3e5):Prop where
 iV:mg "HallError" =some (.ref HE)
 jZ:IA K HE
 og:mg "Unbalanced" =some (.ref Ub)
 S4:PySem.W.takerIn K Ub "kind" =some none
 S5:PySem.W.takerIn K Ub "left" =some none
 Oj:PySem.W.takerIn K Ub "right" =some none
def AI{n:Int}(h0: -(10^60) <n)(h:n<10^60):(toString n:Str).length≤61:=by
 by_cases c:0≤n
 ·have:=oa c h;omega
 ·obtain⟨m,em⟩:=eq_ofNat_of_zero_le (show 0≤ -n by omega);have e:n= -(m:Int):=by omega
  subst e;rw[PySem.ofString_length]
  cases m with
  |zero=>exact absurd (Int.le_refl 0) (by simpa using c)
  |succ m=>
   show (("-" ++Nat.repr (m+1):String)).length≤61;rw[String.length_append]
   have:(Nat.repr (m+1)).length≤60:=by
    rw[Nat.length_repr_le_iff 0e4];omega
   have h1:("-" :String).length=1:=by decide
   omega
def AJ{n:Int}(h0: -(10^60) <n)(h:n<10^60):n.natAbs.log2<1920:=by
 by_cases e:n.natAbs=0
 ·rw[e];decide
 ·have:=(log2_lt e (k:=200)).mpr 0e5;omega
noncomputable def ubF(k:Str)(l r:Int):List (Str×V):=cx "right" (.int r) (cx "left" (.int l) [("kind", .str k)])
inductive Kl(Ub:3e5)(vs:4e5)(H:Hp)(Q:VK)(E:XK):Prop
 |mk (e:3e5) (k:Str) (l r:Int) (dH:vs=[.ref e, .str k, .int l, .int r]) (dI:H e=some (p8 e Ub none)) (dN:k.length≤100) (eK: -(10^60) <l) (gj:l<10^60) (i6: -(10^60) <r) (mD:r<10^60) (qY:∀dx H',H dx=none→dx≠e→H' e=some (p8 e Ub (some dx))→H' dx=some (ur dx (ubF k l r))→(∀b o,H b=some o→b≠e→H' b=some o)→Q .cw H')
def Eh(Ub:3e5):Sp:=Kl Ub
def Ol:av ["self","kind","left","right"] ["self","kind","left","right"] (aj xN):=cX
def Km(D:BL K mg "Unbalanced" Ub HE "Unbalanced.__init__" xN ["self","kind","left","right"])(T:S3 K mg HE Ub):sr P w K mg base 1 "Unbalanced" Ub HE ["self","kind","left","right"] (Eh Ub):=by
 obtain⟨f0,_,_,Z,_⟩:=id D;refine D.cN Ol 0e7 0e1
 ·obtain⟨e,k,l,r,rfl,_⟩:=h;rfl
 ·obtain⟨e,k,l,r,rfl,he,hk,l0,l1,r0,r1,q⟩:=h;have big:=bgL;have z2:=AI l0 l1;have z3:=AI r0 r1;refine⟨_,(ai (a9 (zM rfl T.iV T.jZ 2e1 (Dp (cZ bh (cZ (mB (pv 1)) (cZ bh (cZ (mB (pv 2)) (cZ bh (cZ (mB (pv 3)) (cZ bh IB)))))))))) (ai (jI 2e1 (pv 1) rfl) (ai (jI 2e1 (pv 2) rfl) (ao (jI 2e1 (pv 3) rfl))))),?_⟩;have y1:("the change is not even: " :Str).length=24:=by decide+kernel
  have y2:(" is " :Str).length=4:=by decide+kernel
  have y3:(" on the left, " :Str).length=14:=by decide+kernel
  have y4:(" on the right" :Str).length=13:=by decide+kernel
  have y0:(Str.empty).length=0:=rfl;refine⟨_,rfl,_,rfl,?_,_,rfl, .inr ⟨_,rfl,by omega,_,rfl,?_,_,rfl,?_,_,rfl, .inl ⟨_,rfl,AJ l0 l1,_,rfl,?_,_,rfl,?_,_,rfl, .inl ⟨_,rfl,AJ r0 r1,_,rfl,?_,_,rfl,?_,?_,e,Ub,HE,f0,none,rfl,Z,he,?_⟩⟩⟩⟩
  any_goals (simp only [bg,y0,y1,y2,y3,y4];omega)
  refine⟨_,rfl,_,rfl,e,Ub,HE,f0,rfl,Z,T.S4, .inl ⟨he,λdx u6 yV=>?_⟩⟩;have h1:(upd (upd H dx (ur dx [("kind", .str k)])) e (p8 e Ub (some dx))) e=some (p8 e Ub (some dx)):=aa;have h2:(upd (upd H dx (ur dx [("kind", .str k)])) e (p8 e Ub (some dx))) dx=some (ur dx [("kind", .str k)]):=by rw[ah yV,aa]
  refine⟨_,rfl,_,rfl,e,Ub,HE,f0,rfl,Z,T.S5, .inr ⟨dx,_,h1,h2,(by show 1<1000;decide),?_⟩⟩;refine⟨_,rfl,_,rfl,e,Ub,HE,f0,rfl,Z,T.Oj, .inr ⟨dx,_,by rw[ah (Ne.symm yV)];exact h1,aa,lt_of_le_of_lt (fe _ _ _) (by show 1+1<1000;decide),?_⟩⟩;refine q dx _ u6 yV (by rw[ah (Ne.symm yV),ah (Ne.symm yV)];exact h1) aa λb o z nb=>?_;have Qb:=af z u6;rw[ah Qb,ah Qb,ah nb,ah Qb];exact z
variable {uC uP uI uD uL uT eM eN eO uG uS:Tok}{Ch HE Sh:3e5}
noncomputable def oN(a t g:Int):Option Int:=if a<t then some 0 else if 0≤g then none else some ((a - t) /(-g)+1)
noncomputable def cU:List (Option Int)→Option Int
 | []=>none
 |none::r=>cU r
 |some i::r=>match cU r with
  |none=>some i
  |some j=>some (if j<i then j else i)
def aV(xs:List Tm):List (Key×V):=aW 1 [] (gm xs)
def iE(am:0e2)(xs ys:List Tm):Option Int:=cU ((aV xs).map λq=>oN (aE am q.1) (aE (aV xs) q.1) (aE (gH xs ys) q.1))
noncomputable def cq(am:0e2)(xs ys:List Tm)(m:Int):List (Key×V):=fO m am (gH xs ys) (gH xs ys)
noncomputable def gI(th tk:0e2):List (Key×V)→Option (Key×Int)
 | []=>none
 |q::r=>if 0<aE tk q.1 - aE th q.1 then some (q.1,aE tk q.1 - aE th q.1) else gI th tk r
def iF(th tk:0e2)(q:Key×V)(r:0e2):gI th tk (q::r)=if 0<aE tk q.1 - aE th q.1 then some (q.1,aE tk q.1 - aE th q.1) else gI th tk r:=rfl
noncomputable def oV:Option Int→V
 |none=> .cw
 |some i=> .int i
def smG(xs ys:List Tm):Prop:=∀k, -(2^62) <aE (gH xs ys) k∧aE (gH xs ys) k<2^62
inductive Om(C G Pc Fo Ch:3e5)(vs:4e5)(H:Hp)(Q:VK)(E:XK):Prop
 |mk (c am:3e5) (xs ys:List Tm) (kvs:0e2) (dH:vs=[.ref c, .ref am]) (dI:dz C G Pc Fo Ch H c xs ys) (dN:(∀x∈xs,bJ x.2)) (eK:(∀y∈ys,bJ y.2)) (gj:xs.length≤20) (i6:ys.length≤20) (mD:smG xs ys) (qY:H am=some (.dK kvs)) (zX:aU kvs) (IX:∀H',au H H'→Q (oV (iE kvs xs ys)) H')
def Ct(C G Pc Fo Ch:3e5):Sp:=Om C G Pc Fo Ch
inductive GB(C G Pc Fo Ch:3e5)(vs:4e5)(H:Hp)(Q:VK)(E:XK):Prop
 |mk (c am:3e5) (m:Int) (xs ys:List Tm) (kvs:0e2) (dH:vs=[.ref c, .int m, .ref am]) (dI:dz C G Pc Fo Ch H c xs ys) (dN:(∀x∈xs,bJ x.2)) (eK:(∀y∈ys,bJ y.2)) (gj:xs.length≤20) (i6:ys.length≤20) (mD:smG xs ys) (qY:H am=some (.dK kvs)) (zX:aU kvs) (IX:kvs.length≤900) (Cr:∀e H',H e=none→H' e=some (.dK (cq kvs xs ys m))→au H H'→Q (.ref e) H')
def tZ(C G Pc Fo Ch:3e5):Sp:=GB C G Pc Fo Ch
noncomputable def bx(am:0e2)(xs ys:List Tm)(m:Int):Option (Int×Key×Int):=match iE am xs ys with
 |none=>none
 |some t=>if m≤t then none else (gI (cq am xs ys t) (aV xs) (aV xs)).map λp=>(t,p.1,p.2)
inductive GC(C G Pc Fo Ch Sh:3e5)(vs:4e5)(H:Hp)(Q:VK)(E:XK):Prop
 |mk (c am:3e5) (m st:Int) (xs ys:List Tm) (kvs:0e2) (dH:vs=[.ref c, .int m, .ref am, .int st]) (dI:dz C G Pc Fo Ch H c xs ys) (dN:(∀x∈xs,bJ x.2)) (eK:(∀y∈ys,bJ y.2)) (gj:xs.length≤20) (i6:ys.length≤20) (mD:smG xs ys) (qY:H am=some (.dK kvs)) (zX:aU kvs) (IX:kvs.length≤900) (Cr:0≤st) (Oo:st<10^60) (S6:(∀t k l,bx kvs xs ys m=some (t,k,l)→0≤t+1∧t+1<10^60∧0≤l∧l<10^60)) (S7:(bx kvs xs ys m=none→∀H',au H H'→Q .cw H')) (S8:(∀t (x:Str) l e dx H',bx kvs xs ys m=some (t,Sum.inr x,l)→H' e=some (vC e Sh (some dx))→H' dx=some (ur dx (shF st (t+1) x l))→H e=none→H dx=none→au H H'→E (.ref Sh) (some dx) H'))
def AK(C G Pc Fo Ch Sh:3e5):Sp:=GC C G Pc Fo Ch Sh
def dG:av ["change","times","amounts","step","turns","there","taken","text","lack"] ["change","times","amounts","step"] (aj gQ):=cX
def GD(D:Def K mg "refuse_short" "refuse_short" gQ ["change","times","amounts","step"])(T:2e0)(TE:Og K mg HE Sh)(c1:a5 P w K mg base 10 "most_turns" ["change","amounts"] (Ct C G Pc Fo Ch))(c2:a5 P w K mg base 10 "turned" ["change","times","amounts"] (tZ C G Pc Fo Ch))(c3:a5 P w K mg base 8 "side_counts" ["terms"] (gU C G Pc Fo))(c4:sr P w K mg base 1 "Short" Sh HE ["self","step","turn","formula","lack"] (Eg Sh)):
  zQ P w K mg base 11 "refuse_short" ["change","times","amounts","step"] (AK C G Pc Fo Ch Sh):=by
 obtain⟨_,_,j2⟩:=c1;obtain⟨_,_,t4⟩:=c2;obtain⟨_,_,dE⟩:=c3;obtain⟨_,_,lT⟩:=c4;refine D.FF dG 0e7 0e1
 ·obtain⟨c,am,m,st,xs,ys,kvs,rfl,_⟩:=h;rfl
 ·obtain⟨c,am,m,st,xs,ys,kvs,rfl,hC,hx,hy,lx,ly,hG,yC,hI,hl,st0,st1,hb,q,qE⟩:=h;have hu:=cM hr;have big:=bgL
  refine⟨_,(ai (az (i:=4) dG.nd rfl 0e6 (fz j2 hr (ag 2e1 (ag (pv 2) ak)))) (ai (bC (PW.pt (vc (mr (oU (pv 4))) (rB (aL Pt (pv 1) (pv 4) (aO _))))) (ao
       Mn)
      aN) (ai (az (i:=5) dG.nd rfl 0e6 (fz t4 hr (ag 2e1 (ag (pv 4) (ag (pv 2) ak))))) (ai (az (i:=6) dG.nd rfl 0e6 (fz dE hr (ag 3e6 ak))) (ao (cY (bU Iz rfl (cJ (pv 6)) (aB (i:=7) dG.nd rfl 0e6) (ai (az (i:=8) dG.nd rfl 0e6 (ay oZ (bX hu (pv 6) (pv 7) 2e7) (b5 hu (pv 5) (pv 7) aq ⟨rfl,rfl,rfl,rfl⟩))) (ao (bC (aL mR (pv 8) aq (aO _)) (ao (zL rfl mX (zK lT.z lT.ok 4e3 rfl lT.g lT.kp lT.b (ag (pv 3) (ag (ay bZ (pv 4) aq) (ag (pv 7) (ag (pv 8) ak)))))))
        aN)))))))))),?_⟩
  refine⟨_,rfl,_,rfl,c,am,xs,ys,kvs,rfl,hC,hx,hy,lx,ly,hG,yC,hI,λH1 e1=>?_⟩
  cases hm:iE kvs xs ys with
  |none=>
   have hs:bx kvs xs ys m=none:=by unfold bx;rw[hm]
   refine⟨_,rfl,_,rfl,gK ?_⟩;exact q hs _ e1
  |some t=>
   refine⟨_,rfl,_,rfl,d7 ⟨_,rfl,_,rfl,_,_,rfl,rfl,_,rfl,eF (λem=>?_) λem=>?_⟩⟩
   ·have em:m≤t:=by simpa using em
    have hs:bx kvs xs ys m=none:=by unfold bx;rw[hm];simp [em]
    exact q hs _ e1
   have em:¬m≤t:=by simpa using em
   have hs:bx kvs xs ys m=(gI (cq kvs xs ys t) (aV xs) (aV xs)).map λp=>(t,p.1,p.2):=by unfold bx;rw[hm];simp [em]
   refine⟨_,rfl,_,rfl,_,rfl,c,am,t,xs,ys,kvs,rfl,hC.same e1,hx,hy,lx,ly,hG,e1 _ _ yC,hI,hl,λth H2 nth hth e2=>?_⟩;have tW:=e1.trans e2;obtain⟨dx,l,r,hc,hl',js⟩:=id hC;refine⟨_,rfl,c,Ch,dx,_,_,rfl,tW _ _ hc,T.bY,T.iq,fj _ _,l,xs,rfl,hl'.same tW,hx,lx,λtk H3 Xk A9 e3=>?_⟩;have A9:H3 tk=some (.dK (aV xs)):=A9;have e13:=tW.trans e3;have hth3:=e3 _ _ hth;have hIt:aU (cq kvs xs ys t):=cS _ _ _ _ hI;have hIk:aU (aV xs):=cC _;have htH:H tk=none:=none_back tW Xk;have nht:th≠tk:=af hth Xk
   have hinr:∀p∈aV xs,∃s:Str,p.1=Sum.inr s∧s.length≤100:=by
    refine lS (Pk:=λj=>∃s:Str,j=Sum.inr s∧s.length≤100) 1 _ [] (λq hq=>by cases hq) λp hp=>?_;obtain⟨z,hz,rfl⟩:=mem_map.mp hp;have:=(hx z hz).2.1;exact⟨_,rfl,by rw[a0];omega⟩
   dsimp only [cg];refine⟨_,rfl,tk,aV xs,rfl,A9,λo nf=>cQ nf (λi σ H'=>∃v7 v8:Option V,σ=[some (.ref c),some (.int m),some (.ref am),some (.int st),some (.int t),some (.ref th),some (.ref tk),v7,v8]∧H'=H3∧gI (cq kvs xs ys t) (aV xs) ((aV xs).drop i)=gI (cq kvs xs ys t) (aV xs) (aV xs)) ⟨none,none,rfl,rfl,rfl⟩ (λi σ H' ⟨_,_,_,z,_⟩=>by rw[z];exact A9) ?_ ?_⟩
   ·rintro i k v σ H' hi ⟨v7,v8,rfl,rfl,S9⟩;have hv:=hIk.d5 (mem_of_getElem? hi);have Xl:(upd H' tk (.dX o (.dK (aV xs)))) th=some (.dK (cq kvs xs ys t)):=by rw[ah nht];exact hth3
    have zA:=(List.getElem?_eq_some_iff.mp hi).1
    have Rz:(aV xs).drop i=(k,v)::(aV xs).drop (i+1):=by
     rw[drop_eq_getElem_cons zA];congr 1;exact(List.getElem?_eq_some_iff.mp hi).2
    refine⟨_,rfl,_,rfl,tk,V.int (aE (aV xs) k),rfl, .inl ⟨_,k, .inr ⟨o,aa⟩,rfl,hv.symm⟩,_,rfl,th,rfl, .inl ⟨_, .inl Xl⟩,_,rfl,_,fU.k (k:=k) Xl,?_⟩;rw[hIt.at k];refine⟨_,_,rfl,rfl,?_⟩;refine⟨_,rfl,_,_,rfl,rfl,_,rfl,eF (λec=>?_) λec=>?_⟩
    ·have ec:0<aE (aV xs) k - aE (cq kvs xs ys t) k:=by simpa using ec
     rw[Rz,iF,if_pos ec] at S9;obtain⟨x,ex,uR⟩:=hinr _ (mem_of_getElem? hi);have ex:k=Sum.inr x:=ex;subst ex;have vt:bx kvs xs ys m=some (t,Sum.inr x,aE (aV xs) (Sum.inr x) - aE (cq kvs xs ys t) (Sum.inr x)):=by rw[hs,←S9];rfl
     obtain⟨b1,b2,b3,b4⟩:=hb _ _ _ vt;refine⟨_,rfl,_,rfl,_,_,rfl,rfl,_,rfl,_,rfl,(by show 4≤100;decide),λe he=>?_⟩;have s4:au H (upd H' tk (.dX o (.dK (aV xs)))):=λb o' z=>by rw[ah (af z htH)];exact e13 _ _ z
     have s5:=s4.trans (au.new (o:=p8 e Sh none) he);refine⟨e,st,t+1,x,_,rfl,aa,st0,st1,b1,b2,uR,b3,b4,λdm H5 u6 yV h5e h5d k5=>⟨rfl,?_⟩⟩;refine⟨e,Sh,HE,_,some dm,rfl,lT.z,h5e,?_⟩;refine qE t x _ e dm _ vt aa (by rw[ah yV];exact h5d) (none_back s4 he) (none_back s5 u6) λb o' z=>?_;have Xm:b≠e:=af (s4 _ _ z) he;rw[ah Xm];exact k5 _ _ (s5 _ _ z) Xm
    ·have ec:¬0<aE (aV xs) k - aE (cq kvs xs ys t) k:=by simpa using ec
     refine⟨aa,_,_,rfl,by rw[jt,eG A9],?_⟩;rw[←S9,Rz,iF,if_neg ec]
   ·rintro σ H' ⟨v7,v8,rfl,rfl,S9⟩;rw[List.drop_length] at S9;refine q ?_ _ e13;rw[hs,←S9];rfl
variable {uC uP uI uD uL uT eM eN eO uG uS:Tok}{Ch HE Sh St:3e5}
structure Oq(K:0e9)(mg:1e3)(C R G Pc Fo Ch St:3e5)(uK uN uB uE uM uC uP uI uD uL uT eM eN eO uG uS:Tok):Prop extends nX K mg C R G Pc Fo Ch uK uN uB uE uM uC uP uI uD uL uT eM eN eO uG uS where
 lh:mg "enumerate" =none
 bB:uz K St
 dj:cy K St "amounts"
 yx:cy K St "gone"
def GF(x:Str)(xs ys:List Tm):Prop:=x.cps.toList=tQ xs++qt++tQ ys∧xs≠[]∧ys≠[]∧(∀t∈xs,dJ t)∧(∀t∈ys,dJ t)∧x.length≤400∧xs.length+ys.length≤8∧yU (xs++ys)≤60∧(∀t∈xs,bJ t.2)∧(∀t∈ys,bJ t.2)∧∀k,sumZ xs k=sumZ ys k
theorem rj(t b:Int)(k:Key)(hb:0≤b):∀(as:List (Str×Int)) (acc:0e2) (B:Int),(∀p∈as, -b≤p.2*t∧p.2*t≤b)→ -B≤aE acc k→aE acc k≤B→ -(B+as.length*b)≤aE (aW t acc as) k∧aE (aW t acc as) k≤B+as.length*b
 | [],acc,B,_,h1,h2=>by
   show -(B+((0 :Nat):Int)*b)≤aE acc k∧aE acc k≤B+((0 :Nat):Int)*b;simp;exact⟨h1,h2⟩
 |p::r,acc,B,h,h1,h2=>by
  have hp:=h p 1e6;have e:aE (bN acc (Sum.inr p.1) (p.2*t)) k=if k=Sum.inr p.1 then aE acc (Sum.inr p.1)+p.2*t else aE acc k:=dZ _ _ _ _
  have Hh: -(B+b)≤aE (bN acc (Sum.inr p.1) (p.2*t)) k∧aE (bN acc (Sum.inr p.1) (p.2*t)) k≤B+b:=by
   rw[e];split
   ·rename_i ek
    rw[←ek];omega
   ·omega
  have ih:=rj t b k hb r (bN acc (Sum.inr p.1) (p.2*t)) (B+b) (λq hq=>h q (mem_cons_of_mem _ hq)) Hh.1 Hh.2;have el:((p::r).length:Int)*b=b+(r.length:Int)*b:=by rw[length_cons];push_cast;rw[add_mul];omega
  rw[el];show -(B+(b+(r.length:Int)*b))≤aE (aW t (bN acc (Sum.inr p.1) (p.2*t)) r) k∧aE (aW t (bN acc (Sum.inr p.1) (p.2*t)) r) k≤B+(b+(r.length:Int)*b);omega
def Ot{KV:0e2}{B:Int}(hB:0≤B)(h:∀k, -B≤aE KV k∧aE KV k≤B)(L:0e2)(k:Key): -B≤aE (qf KV L) k∧aE (qf KV L) k≤B:=by
 cases e:bK (qf KV L) k with
 |none=>rw[dv e];omega
 |some v=>
  have hm:=fg e;obtain⟨q,_,GG⟩:=mem_map.mp hm;injection GG with e1 e2;rw[←e2] at e;rw[dw e];exact h _
def yD{x:Str}{xs ys:List Tm}(h:GF x xs ys):smG xs ys:=λk=>by
 obtain⟨_,_,_,h1,h2,_,hl,_⟩:=h
 have hy:∀p∈gm ys, -(10^12)≤p.2*1∧p.2*1≤10^12:=λp hp=>by
  obtain⟨z,hz,rfl⟩:=mem_map.mp hp;have:=h2 z hz;have b1:=this.1;have b2:=this.2.1;show -(10^12)≤z.1*1∧z.1*1≤10^12;omega
 have hx:∀p∈gm xs, -(10^12)≤p.2*(-1)∧p.2*(-1)≤10^12:=λp hp=>by
  obtain⟨z,hz,rfl⟩:=mem_map.mp hp;have:=h1 z hz;have b1:=this.1;have b2:=this.2.1;show -(10^12)≤z.1*(-1)∧z.1*(-1)≤10^12;omega
 have e:∀zs:List Tm,(gm zs).length=zs.length:=λzs=>by unfold gm;rw[length_map]
 have key:∀k, -(10^13)≤aE (wq xs ys) k∧aE (wq xs ys) k≤10^13:=λk=>by
  have a1:=rj 1 (10^12) k 0e4 (gm ys) [] 0 hy (Int.le_refl _) (Int.le_refl _);have a2:=rj (-1) (10^12) k 0e4 (gm xs) (aW 1 [] (gm ys)) (0+(gm ys).length*10^12) hx a1.1 a1.2;rw[e,e] at a2;show -(10^13)≤aE (aW (-1) (aW 1 [] (gm ys)) (gm xs)) k∧aE (aW (-1) (aW 1 [] (gm ys)) (gm xs)) k≤10^13;omega
 have:=Ot 0e4 key (wq xs ys) k;show -(2^62) <aE (qf (wq xs ys) (wq xs ys)) k∧aE (qf (wq xs ys) (wq xs ys)) k<2^62;omega
inductive Ou(C G Pc Fo Ch:3e5)(vs:4e5)(H:Hp)(Q:VK)(E:XK):Prop
 |mk (x:Str) (xs ys:List Tm) (dH:vs=[.str x]) (dI:GF x xs ys) (dN:∀c H',H c=none→NO C G Pc Fo Ch H H' c xs ys→au H H'→Q (.ref c) H')
def Kn(C G Pc Fo Ch:3e5):Sp:=Ou C G Pc Fo Ch
structure gW where
 xs:List Tm
 ys:List Tm
 x:Str
 m:Int
def wy(H:Hp)(t:3e5)(r:gW):Prop:=H t=some (.tup [.str r.x, .int r.m])
def iG(am:0e2)(rs:List gW):List (Key×V):=rs.foldl (λa r=>cq a r.xs r.ys r.m) am
def S'(rs:List gW)(i:Nat)(h:aU kvs):aU (iG kvs (rs.take i)):=by
 generalize rs.take i=l
 induction l generalizing kvs with
 |nil=>exact h
 |cons r l ih=>exact ih (cS _ _ _ _ h)
def Ta:∀{rs:List gW},(∀r∈rs,r.xs.length+r.ys.length≤8)→(iG kvs rs).length≤kvs.length+8*rs.length:=by
 intro rs
 induction rs generalizing kvs with
 |nil=>intro _;exact le_refl _
 |cons r l ih=>
  intro h;have h1:=ih (kvs:=cq kvs r.xs r.ys r.m) λq hq=>h q (mem_cons_of_mem _ hq);have h2:(cq kvs r.xs r.ys r.m).length≤kvs.length+(gH r.xs r.ys).length:=iA _ _ _ _;have h3:(gH r.xs r.ys).length≤(wq r.xs r.ys).length:=yp _ _;have h4:=yr r.xs r.ys;have h5:=h r 1e6;rw[length_cons];show (iG (cq kvs r.xs r.ys r.m) l).length≤_;omega
def Ei(d g a:3e5):cx "amounts" (.ref a) (Bf d g)=Bf a g:=by
 unfold Bf;simp [cx,nag]
variable {uC uP uI uD uL uT eM eN eO uG uS:Tok}{Ch HE Sh St:3e5}
def f9:av ["text","change","lost"] ["text"] (aj jl):=cX
def wz(h:∀k,sumZ xs k=sumZ ys k)(ms:3e8):kY ms xs ys=[]:=by
 unfold kY AA;rw[List.filter_map,List.map_eq_nil_iff,List.filter_eq_nil_iff];intro k _;simp [Function.comp,h]
def AL(D:Def K mg "read_even" "read_even" jl ["text"])(T:2e0)(c1:a5 P w K mg base 14 "read_change" ["text"] (pO C G Pc Fo Ch))(c2:aD P w K mg base 10 Ch "lost" 1e5 (Cp C G Pc Fo Ch)):a5 P w K mg base 15 "read_even" ["text"] (Kn C G Pc Fo Ch):=by
 obtain⟨_,_,jc⟩:=c1;obtain⟨_,_,cL⟩:=c2;refine D.cN f9 0e7 0e1
 ·obtain⟨x,xs,ys,rfl,_⟩:=h;rfl
 ·obtain⟨x,xs,ys,rfl,Ov,q⟩:=h;obtain⟨h1,h2,h3,h4,h5,h6,h7,h8,h9,NK,h11⟩:=id Ov
  refine⟨_,(ai (az (i:=1) f9.nd rfl 0e6 (fz jc hr (ag 2e1 ak))) (ai (az (i:=2) f9.nd rfl 0e6 (aH (pv 1) T.bY cL.m cL.ok 4e3 cL.b .nil a8)) (ai (bC (mS (pv 2) (λ_=>rfl)) (ao
       gq)
      aN) (ao (aA (pv 1)))))),?_⟩
  refine⟨_,rfl,x,xs,ys,rfl,h1,h2,h3,h4,h5,h6,h7,λc H1 nc hN e1=>?_⟩;have hC:=hN H1 λb o _ z=>z;obtain⟨dx,l,r,hc,_⟩:=id hC;refine⟨_,rfl,c,dx,_,rfl,hc,tJ _ _ 0e0 0e0,c,xs,ys,rfl,hC,λz hz=>?_,by rw[length_append];omega,h8,λL ts ms H2 hK nL hL hP e2=>?_⟩
  ·rcases mem_append.mp hz with z'|z'
   ·exact h9 z z'
   ·exact NK z z'
  rw[wz h11] at hP;cases hP;have Aa:H2 L=some (.lst []):=hL;refine⟨_,rfl,false, .inl ⟨_,bM.of Aa,rfl⟩,d7 ⟨_,rfl,q c H2 nc (λb8 k=>hN b8 λb o z1 z2=>k b o z1 (e2 _ _ z2)) (e1.trans e2)⟩⟩
variable {uC uP uI uD uL uT eM eN eO uG uS:Tok}{Ch HE Sh St Ub:3e5}
def cV(z:Tm)(a:List Tm)(k:Key):sumZ (z::a) k=z.1*aE (g9 z.2) k+sumZ a k:=by
 unfold sumZ;rw[map_cons,sum_cons]
def dA(k:Key):sumZ [] k=0:=rfl
def t5(x:Str)(xs ys:List Tm):Prop:=x.cps.toList=tQ xs++qt++tQ ys∧xs≠[]∧ys≠[]∧(∀t∈xs,dJ t)∧(∀t∈ys,dJ t)∧x.length≤400∧xs.length+ys.length≤8∧yU (xs++ys)≤60∧(∀t∈xs,bJ t.2)∧(∀t∈ys,bJ t.2)
def t5.ev(h:t5 x xs ys)(e:∀k,sumZ xs k=sumZ ys k):GF x xs ys:=by
 obtain⟨h1,h2,h3,h4,h5,h6,h7,h8,h9,NK⟩:=h;exact⟨h1,h2,h3,h4,h5,h6,h7,h8,h9,NK,e⟩
theorem t7:∀{zs:List Tm},(∀z∈zs,dJ z)→∀k, -((zs.length:Int)*10^32)≤sumZ zs k∧sumZ zs k≤(zs.length:Int)*10^32
 | [],_,k=>by rw[dA];decide
 |z::r,h,k=>by
  have ih:=t7 (λz hz=>h z (mem_cons_of_mem _ hz)) k;have hz:=h z 1e6;have hs:=pS hz.2.2 k;have b1:=hz.1;have b2:=hz.2.1;rw[cV,length_cons];push_cast;rw[add_mul]
  have m1:z.1*aE (g9 z.2) k≤10^12*2^64:=by
   by_cases c:0≤aE (g9 z.2) k
   ·exact mul_le_mul 0e5 0e5 c 0e4
   ·have:=Int.mul_nonpos_of_nonneg_of_nonpos (a:=z.1) (b:=aE (g9 z.2) k) 0e5 0e5;omega
  have m2: -(10^12*2^64)≤z.1*aE (g9 z.2) k:=by
   have:z.1* -aE (g9 z.2) k≤10^12*2^64:=by
    by_cases c:0≤ -aE (g9 z.2) k
    ·exact mul_le_mul 0e5 0e5 c 0e4
    ·have:=Int.mul_nonpos_of_nonneg_of_nonpos (a:=z.1) (b:= -aE (g9 z.2) k) 0e5 0e5;omega
   rw[mul_neg] at this;omega
  omega
inductive Ko(C G Pc Fo Ch Ub:3e5)(vs:4e5)(H:Hp)(Q:VK)(E:XK):Prop
 |mk (x:Str) (xs ys:List Tm) (dH:vs=[.str x]) (dI:t5 x xs ys) (dN:((∀k,sumZ xs k=sumZ ys k)→∀c H',H c=none→NO C G Pc Fo Ch H H' c xs ys→au H H'→Q (.ref c) H')) (eK:((∃k,sumZ xs k≠sumZ ys k)→∀ms p r e dx H',lQ (xs++ys) ms→kY (ms++[("+" :Str)]) xs ys=p::r→H' e=some (vC e Ub (some dx))→H' dx=some (ur dx (ubF p.1 p.2.1 p.2.2))→H e=none→H dx=none→au H H'→E (.ref Ub) (some dx) H'))
def Ej(C G Pc Fo Ch Ub:3e5):Sp:=Ko C G Pc Fo Ch Ub
theorem Ek(k:Key):∀(zs:List Tm) (acc:List Key),k∈zs.foldl (λks z=>eV ks ((cW 1 z.2.1).map 1e8)) acc↔k∈acc∨∃z∈zs,k∈(cW 1 z.2.1).map 1e8
 | [],acc=>by simp
 |z::r,acc=>by
  rw[foldl_cons,Ek k r,nO];constructor
  ·rintro ((h|h) | ⟨z',Ma,h⟩)
   ·exact .inl h
   ·exact .inr ⟨z,mem_cons_self ..,h⟩
   ·exact .inr ⟨z',mem_cons_of_mem _ Ma,h⟩
  ·rintro (h| ⟨z',Ma,h⟩)
   ·exact .inl (.inl h)
   ·rcases mem_cons.mp Ma with e|e
    ·rw[e] at h;exact .inl (.inr h)
    ·exact .inr ⟨z',e,h⟩
def kd_in{zs:List Tm}:s∈Vd zs↔∃z∈zs,(Sum.inr s:Key)∈(cW 1 z.2.1).map 1e8:=by
 have h:=Ek (Sum.inr s) zs [];rw[show zs.foldl (λks z=>eV ks ((cW 1 z.2.1).map 1e8)) []=NR zs from rfl,rg] at h;constructor
 ·intro hs;rcases h.mp (mem_map_of_mem hs) with z|z
  ·cases z
  ·exact z
 ·intro hs;obtain⟨s',vt,e⟩:=mem_map.mp (h.mpr (.inr hs));injection e with e;rw[←e];exact vt
def Cu(x:Fm)(k:Key):aE (g9 x) k=if k=Sum.inr ("+" :Str) then x.2 else aE (cW 1 x.1) k:=by
 unfold g9;rw[dZ]
theorem t8(hp:k≠Sum.inr ("+" :Str)):∀{zs:List Tm},(∀z∈zs,¬k∈(cW 1 z.2.1).map 1e8)→sumZ zs k=0
 | [],_=>dA _
 |z::r,h=>by
  rw[cV,t8 hp λz hz=>h z (mem_cons_of_mem _ hz),Cu,if_neg hp,lJ (h z 1e6),mul_zero,add_zero]
def GH{xs ys:List Tm}(hx:∀t∈xs++ys,bJ t.2)(hK:lQ (xs++ys) ms)(h:sumZ xs k≠sumZ ys k):∃p r,kY (ms++[("+" :Str)]) xs ys=p::r:=by
 have key:∀s:Str,s∈ms++[("+" :Str)]→sumZ xs (Sum.inr s)≠sumZ ys (Sum.inr s)→∃p r,kY (ms++[("+" :Str)]) xs ys=p::r:=λs hs hn=>by
  have hm:(s,sumZ xs (Sum.inr s),sumZ ys (Sum.inr s))∈kY (ms++[("+" :Str)]) xs ys:=mem_filter.mpr ⟨mem_map.mpr ⟨s,hs,rfl⟩,by simpa using hn⟩
  cases e:kY (ms++[("+" :Str)]) xs ys with
  |nil=>rw[e] at hm;cases hm
  |cons p r=>exact⟨p,r,rfl⟩
 by_cases hp:k=Sum.inr ("+" :Str)
 ·subst hp;exact key "+" 2e9 h
 ·by_cases hz:∃z∈xs++ys,k∈(cW 1 z.2.1).map 1e8
  ·obtain⟨z,hz,hk⟩:=hz;obtain⟨q,hq,eq⟩:=mem_map.mp hk;obtain⟨kk,_,ek⟩:=k8 (hx z hz) q hq;rw[eq] at ek;subst ek;exact key _ (mem_append_left _ (hK.1.mem_iff.mpr (kd_in.mpr ⟨z,hz,hk⟩))) h
  ·refine absurd ?_ h;rw[t8 hp λz Ma hk=>hz ⟨z,mem_append_left _ Ma,hk⟩,t8 hp λz Ma hk=>hz ⟨z,mem_append_right _ Ma,hk⟩]
def yE(D:Def K mg "read_even" "read_even" jl ["text"])(T:2e0)(TU:S3 K mg HE Ub)(c1:a5 P w K mg base 14 "read_change" ["text"] (pO C G Pc Fo Ch))(c2:aD P w K mg base 10 Ch "lost" 1e5 (Cp C G Pc Fo Ch))(c3:sr P w K mg base 1 "Unbalanced" Ub HE ["self","kind","left","right"] (Eh Ub)):zQ P w K mg base 15 "read_even" ["text"] (Ej C G Pc Fo Ch Ub):=by
 obtain⟨_,_,jc⟩:=c1;obtain⟨_,_,cL⟩:=c2;obtain⟨_,_,d6⟩:=c3;refine D.FF f9 0e7 0e1
 ·obtain⟨x,xs,ys,rfl,_⟩:=h;rfl
 ·obtain⟨x,xs,ys,rfl,Ov,q,qE⟩:=h;obtain⟨h1,h2,h3,h4,h5,h6,h7,h8,h9,NK⟩:=id Ov
  refine⟨_,(ai (az (i:=1) f9.nd rfl 0e6 (fz jc hr (ag 2e1 ak))) (ai (az (i:=2) f9.nd rfl 0e6 (aH (pv 1) T.bY cL.m cL.ok 4e3 cL.b .nil a8)) (ai (bC (mS (pv 2) (λ_=>rfl)) (ao (zL rfl mX (zK d6.z d6.ok 4e3 rfl d6.g d6.kp d6.b (ag (bQ jB (bQ bP (pv 2) aq 2e7) aq 2e7) (ag (bQ jB (bQ bP (pv 2) aq 2e7) aq 2e7) (ag (bQ jB (bQ bP (pv 2) aq 2e7) aq 2e7) ak))))))
      aN) (ao (aA (pv 1)))))),?_⟩
  refine⟨_,rfl,x,xs,ys,rfl,h1,h2,h3,h4,h5,h6,h7,λc H1 nc hN e1=>?_⟩;have hC:=hN H1 λb o _ z=>z;obtain⟨dx,l,r,hc,_⟩:=id hC
  have xb:∀z∈xs++ys,bJ z.2:=λz hz=>by
   rcases mem_append.mp hz with z'|z'
   ·exact h9 z z'
   ·exact NK z z'
  refine⟨_,rfl,c,dx,_,rfl,hc,tJ _ _ 0e0 0e0,c,xs,ys,rfl,hC,xb,by rw[length_append];omega,h8,λL ts ms H2 hK nL hL hP e2=>?_⟩;by_cases hs:∀k,sumZ xs k=sumZ ys k
  ·rw[wz hs] at hP;cases hP;have Aa:H2 L=some (.lst []):=hL;exact⟨_,rfl,false, .inl ⟨_,bM.of Aa,rfl⟩,d7 ⟨_,rfl,q hs c H2 nc (λb8 k=>hN b8 λb o z1 z2=>k b o z1 (e2 _ _ z2)) (e1.trans e2)⟩⟩
  ·have hs:∃k,sumZ xs k≠sumZ ys k:=Classical.byContradiction λn=>hs λk=>Classical.byContradiction λm=>n ⟨k,m⟩;obtain⟨k,hk⟩:=hs;obtain⟨p,rr,ep⟩:=GH xb hK hk;have UW:=ep;rw[ep] at hP
   obtain⟨t,Hm,rfl,ht⟩:∃t Hm,ts=t::Hm∧D6 H2 t p:=by
    cases hP with
    |cons a b=>exact⟨_,_,rfl,a⟩
   have ht:H2 t=some (.tup [.str p.1, .int p.2.1, .int p.2.2]):=ht;have hp:p∈kY (ms++[("+" :Str)]) xs ys:=by rw[ep];exact mem_cons_self ..
   obtain⟨s,hs,es⟩:=mem_map.mp (mem_filter.mp hp).1;have b1:=t7 h4 (Sum.inr s);have b2:=t7 h5 (Sum.inr s)
   have SA:s.length≤100:=by
    rcases mem_append.mp hs with hs|hs
    ·obtain⟨z,hz,hk⟩:=kd_in.mp (hK.1.mem_iff.mp hs);obtain⟨q,hq,eq⟩:=mem_map.mp hk;obtain⟨kk,⟨c,sl,rfl,_,_,h2⟩,ek⟩:=k8 (xb z hz) q hq;rw[eq] at ek;injection ek with ek;rw[ek,a0,length_cons];omega
    ·have UU:s="+" :=by simpa using hs
     rw[UU];decide+kernel
   subst es;have qp:uH ((t::Hm).map V.ref) 0=some (.ref t):=lA (j:=0) rfl;refine⟨_,rfl,true, .inl ⟨_,bM.of hL,rfl⟩,gK ?_⟩;refine⟨_,rfl,L,_,_, .ref t,rfl,rfl,bM.of hL,qp,t,_,_, .str s,rfl,rfl,km.of ht,rfl,_,rfl,L,_,_, .ref t,rfl,rfl,bM.of hL,qp,t,_,_,_,rfl,rfl,km.of ht,rfl,_,rfl,L,_,_, .ref t,rfl,rfl,bM.of hL,qp,t,_,_,_,rfl,rfl,km.of ht,rfl,(by show 3≤100;decide),λe he=>?_⟩;have s5:=au.new (o:=p8 e Ub none) he;refine⟨e,s,_,_,rfl,aa,SA,?_,?_,?_,?_,λdm H5 u6 yV h5e h5d k5=>⟨rfl,?_⟩⟩
   ·show -(10^60) <sumZ xs (Sum.inr s);omega
   ·show sumZ xs (Sum.inr s) <10^60;omega
   ·show -(10^60) <sumZ ys (Sum.inr s);omega
   ·show sumZ ys (Sum.inr s) <10^60;omega
   refine⟨e,Ub,HE,_,some dm,rfl,d6.z,h5e,?_⟩;have tW:=e1.trans e2;refine qE ⟨k,hk⟩ ms _ rr e dm _ hK UW aa (by rw[ah yV];exact h5d) (none_back tW he) (none_back (tW.trans s5) u6) λb o' z=>?_;have Xm:b≠e:=af (tW _ _ z) he;rw[ah Xm];exact k5 _ _ (s5 _ _ (tW _ _ z)) Xm
variable {uC uP uI uD uL uT eM eN eO uG uS:Tok}{Ch HE Sh St Ub:3e5}
def Bg(r:gW):Prop:=∀k,sumZ r.xs k=sumZ r.ys k
inductive Kp(C G Pc Fo Ch Sh St Ub:3e5)(vs:4e5)(H:Hp)(Q:VK)(E:XK):Prop
 |mk (st d g rl:3e5) (kvs:0e2) (gs:4e5) (ts:List Addr) (rs:List gW) (dH:vs=[.ref st, .ref rl]) (dI:iC St H st d g) (dN:H d=some (.dK kvs)) (eK:H g=some (.lst gs)) (gj:g≠rl) (i6:aU kvs) (mD:kvs.length≤400) (qY:H rl=some (.lst (ts.map V.ref))) (zX:Paired (wy H) ts rs) (IX:rs.length≤12) (Cr:gs.length≤1000) (Oo:(∀r∈rs,t5 r.x r.xs r.ys)) (S6:((∀r∈rs,Bg r)→∀i r t k l,rs[i]? =some r→bx (iG kvs (rs.take i)) r.xs r.ys r.m=some (t,k,l)→0≤t+1∧t+1<10^60∧0≤l∧l<10^60)) (S7:((∀r∈rs,Bg r)→(∀i r,rs[i]? =some r→bx (iG kvs (rs.take i)) r.xs r.ys r.m=none)→∀d' H',(d'=d∨H d'=none)→iC St H' st d' g→H' d'=some (.dK (iG kvs rs))→H' g=some (.lst (gs++ts.map V.ref))→(∀b o,H b=some o→b≠st→b≠g→H' b=some o)→Q .cw H')) (S8:((∀r∈rs,Bg r)→∀(i:Nat) r t (x:Str) l e dx H',rs[i]? =some r→(∀j r,j<i→rs[j]? =some r→bx (iG kvs (rs.take j)) r.xs r.ys r.m=none)→bx (iG kvs (rs.take i)) r.xs r.ys r.m=some (t,Sum.inr x,l)→H' e=some (vC e Sh (some dx))→H' dx=some (ur dx (shF (i:Nat) (t+1) x l))→H e=none→H dx=none→au H H'→E (.ref Sh) (some dx) H')) (Xn:(∀(i:Nat) r ms p rr e dx H',rs[i]? =some r→(∀j r,j<i→rs[j]? =some r→Bg r)→¬Bg r→lQ (r.xs++r.ys) ms→kY (ms++[("+" :Str)]) r.xs r.ys=p::rr→H' e=some (vC e Ub (some dx))→H' dx=some (ur dx (ubF p.1 p.2.1 p.2.2))→H e=none→H dx=none→au H H'→E (.ref Ub) (some dx) H'))
def yF(C G Pc Fo Ch Sh St Ub:3e5):Sp:=Kp C G Pc Fo Ch Sh St Ub
def j3:av ["self","rows","changes","amounts","step","change","times"] ["self","rows"] (aj sA):=cX
def PvG(C G Pc Fo Ch L:3e5)(H:Hp)(rs:List gW):Nat→List V→Hp→Prop:=λi ys H'=>∃cs:List Addr,(∀j r,j<i→rs[j]? =some r→Bg r)∧ys=cs.map V.ref∧cs.length=i∧Paired (λc (r:gW)=>∀b8:Hp,(∀b o,H b=none→b≠L→H' b=some o→b8 b=some o)→dz C G Pc Fo Ch b8 c r.xs r.ys) cs (rs.take i)
def Kq(D:aX K St "go_all" "Store.go_all" sA ["self","rows"])(T:Oq K mg C R G Pc Fo Ch St uK uN uB uE uM uC uP uI uD uL uT eM eN eO uG uS)(c1:zQ P w K mg base 15 "read_even" ["text"] (Ej C G Pc Fo Ch Ub))(c2:zQ P w K mg base 11 "refuse_short" ["change","times","amounts","step"] (AK C G Pc Fo Ch Sh))(c3:a5 P w K mg base 10 "turned" ["change","times","amounts"] (tZ C G Pc Fo Ch)):
  xA P w K mg base 17 St "go_all" ["self","rows"] (yF C G Pc Fo Ch Sh St Ub):=by
 obtain⟨_,_,fq⟩:=c1;obtain⟨_,_,fQ⟩:=c2;obtain⟨_,_,t4⟩:=c3;refine D.FF j3 0e7 0e1
 ·obtain⟨st,d,g,rl,kvs,gs,ts,rs,rfl,_⟩:=h;rfl
 ·obtain⟨st,d,g,rl,kvs,gs,ts,rs,rfl,⟨dx,eC⟩,hd,hg,ngr,hI,l9,Ow,hP,hr20,hg1,aM,hb,q,qE,qU⟩:=h;have hu:=cM hr;have big:=bgL;refine⟨_,(ai (IJ (i:=2) mX ⟨rfl,rfl⟩ j3.nd rfl 0e6 (sc:=(aj sA)) (NX:=["self","rows","changes","amounts","step","change","times"]) (N:=["text","times"]) (fr:=[none,none]) 0e8 rfl rfl rfl (cE (pv 1)) (λ_ _ _ _=>(xp K 2 rfl rfl (a6 (aB (i:=0) (show (["text","times"]:List Str).Nodup by decide+kernel) rfl 0e6 (Or.inr rfl)) (a6 (aB (i:=1) (show (["text","times"]:List Str).Nodup by decide+kernel) rfl 0e6 (Or.inr rfl)) dY)))) (λ_ _ _ _=>gf) (λ_ _ _ _ _=>(zJ fq.ok 4e3 rfl fq.g fq.kp fq.b .nil si (ag 2e1 ak)))) (ai (az (i:=3) j3.nd rfl 0e6 3e6) (ai (bU Iz rfl (Dj rfl T.lh (ag (pv 2) ak)) (ia rfl (a6 (aB (i:=4) j3.nd rfl 0e6) (a6 (aB (i:=5) j3.nd rfl 0e6) dY))) (ai (az (i:=6) j3.nd rfl 0e6 (bQ jB (bQ bP (pv 1) (pv 4) 2e7) aq 2e7)) (ai (a9 (zJ fQ.ok 4e3 rfl fQ.g fQ.kp fQ.b .nil mX (ag (pv 5) (ag (pv 6) (ag (pv 3) (ag (pv 4) ak)))))) (ao (az (i:=3) j3.nd rfl 0e6 (fz t4 hr (ag (pv 5) (ag (pv 6) (ag (pv 3) ak))))))))) (ai (eS 2e1 (pv 3) rfl) (ao (a9 (jg PySem.F.plainAttrs_list PySem.F.slot_list_extend PySem.F.type_list_extend Fh 3e6 (ag (pv 1) ak)))))))),?_⟩;have gX:=Paired.length hP;refine⟨_,rfl,rl,rfl,⟨_,bM.of Ow⟩,λL hL=>pj (K:=K) (a:=rl) (L:=L) (xs:=ts.map V.ref) H (fun σ=>∃v u:Option V,σ=[v,u]) (PvG C G Pc Fo Ch L H rs) (bM.of Ow) ?_ hL ⟨none,none,rfl⟩ (au.new hL) aa ⟨[],(λj r hj=>absurd hj (Nat.not_lt_zero _)),rfl,rfl, .nil⟩ (by rw[length_map];omega) ?_ ?_ ?_⟩
  ·rintro i ys Ha Hb Ft ⟨cs,h0,h1,h2,h3⟩;exact⟨cs,h0,h1,h2,aJ (λc r z b8 k=>z b8 λb o z1 z2 z3=>k b o z1 z2 (Ft _ _ z3 z2)) h3⟩
  ·rintro i ys H' ⟨cs,_,rfl,h2,_⟩;rw[length_map,h2];exact le_refl _
  ·rintro j w σ' H5 vs hj ⟨w1,w2,rfl⟩ e5 uU ⟨cs,Kr,rfl,Sx,hcP⟩ N M hN;rw[getElem?_map] at hj;obtain⟨t,ht,rfl⟩:=gMp hj;obtain⟨r,js,Cv⟩:=bG hP ht;have Cv:H t=some (.tup [.str r.x, .int r.m]):=Cv;refine⟨t,_,rfl,km.of (e5 _ _ Cv),rfl,_,_,rfl,_,_,rfl,rfl,?_⟩;refine⟨_,rfl,r.x,r.xs,r.ys,rfl,aM r (mem_of_getElem? js),λOv c H6 nc hN6 e6=>?_,fun⟨k,hk⟩ ms p rr e dm H6 hKm L4 he u6 ne Ox e6=>qU j r ms p rr e dm H6 js Kr (λz=>hk (z k)) hKm L4 he u6 (none_back e5 ne) (none_back e5 Ox) (e5.trans e6)⟩;refine hN _ _ _ ⟨_,_,rfl⟩ (e5.trans e6) (e6 _ _ uU) ⟨cs++[c],λj' r2 SD Kt=>?_,by rw[map_append];rfl,by rw[length_append,Sx];rfl,?_⟩
   ·rcases Nat.lt_succ_iff_lt_or_eq.mp SD with SD|SD
    ·exact Kr j' r2 SD Kt
    ·subst SD;have er:=Option.some.inj (js.symm.trans Kt);rw[←er];exact Ov
   rw[take_snoc js];refine bT (λb8 k=>hN6 b8 λb o z1 z2=>k b o (none_back e5 z1) (λz=>by rw[z,uU] at z1;cases z1) z2) (aJ (λc r z b8 k=>z b8 λb o z1 z2 z3=>k b o z1 z2 (e6 _ _ z3)) hcP)
  rintro H2 ys e2 qa ⟨cs,Kr,rfl,Sx,hcP⟩;rw[length_map] at Sx;have Cv:rs.take ts.length=rs:=by rw[gX,take_length]
  rw[length_map,Cv] at hcP;rw[length_map,gX] at Kr
  have Oy:∀r∈rs,Bg r:=λr hr=>by
   obtain⟨j,hj,e⟩:=List.mem_iff_getElem.mp hr;exact Kr j r hj (by rw[getElem?_eq_getElem hj,e])
  have hb:=hb Oy;have q:=q Oy;have qE:=qE Oy;have aM:∀r∈rs,GF r.x r.xs r.ys:=λr hr=>(aM r hr).ev (Oy r hr);refine⟨_,rfl,st,St,dx,_,_,rfl,e2 _ _ eC,T.bB,T.dj,fk _ _,?_⟩;dsimp only [cg];have hcl2:cs.length=rs.length:=by rw[Sx,gX]
  have hCh:∀{i:Nat} {c:3e5} {r:gW} {H':Hp},cs[i]? =some c→rs[i]? =some r→au H2 H'→dz C G Pc Fo Ch H' c r.xs r.ys:=fun {i c r H'} h1 h2 e=>by
   obtain⟨r',js,z⟩:=bG hcP h1;rw[h2] at js;cases js;exact z H' λb o _ _ z3=>e _ _ z3
  have hLH:H L=none:=hL;refine⟨_,rfl,L,rfl,⟨_,bM.of qa⟩,zC (K:=K) (a:=L) (xs:=cs.map V.ref) (λi σ H'=>∃(a:3e5) (v4 v5 v6:Option V),σ=[some (.ref st),some (.ref rl),some (.ref L),some (.ref a),v4,v5,v6]∧H' a=some (.dK (iG kvs (rs.take i)))∧(a=d∨H a=none)∧(∀j r,j<i→rs[j]? =some r→bx (iG kvs (rs.take j)) r.xs r.ys r.m=none)∧au H2 H') ?_ (λi σ H' ⟨_,_,_,_,_,_,_,_,z⟩=>bM.of (z _ _ qa)) ?_ ?_⟩
  ·exact⟨d,none,none,none,rfl,e2 _ _ hd, .inl rfl,(λj r hj=>absurd hj (Nat.not_lt_zero _)),au.refl _⟩
  ·rintro i v p σ H' hi hp ⟨a,v4,v5,v6,rfl,ha,jD,Ku,e3⟩;rw[getElem?_map] at hi;obtain⟨c,hc,rfl⟩:=gMp hi;have zA:i<rs.length:=by have:=(List.getElem?_eq_some_iff.mp hc).1;omega
   have Oz:=getElem?_eq_getElem zA;have P5:ts[i]? =some ts[i]:=getElem?_eq_getElem 0e5;obtain⟨r',js,Cv⟩:=bG hP P5;generalize ts[i]=t at P5 Cv;generalize rs[i]=r at Oz;have er:r=r':=Option.some.inj (Oz.symm.trans js);subst er;have Cv:H t=some (.tup [.str r.x, .int r.m]):=Cv;have Md:=aM r (mem_of_getElem? Oz);have s4:=e3.trans (au.new (o:= .tup [.int (i:Nat), .ref c]) hp);have Hn:=e2.trans s4;have Xo:=au.new (o:= .tup [.int (i:Nat), .ref c]) hp _ _ ha;refine⟨p,_,rfl,km.of aa,rfl,_,_,rfl,_,_,rfl,rfl,?_⟩;refine⟨_,rfl,_,rfl,rl,_,_, .ref t,rfl,rfl,bM.of (Hn _ _ Ow),lA (by rw[getElem?_map,P5];rfl),t,_,_, .int r.m,rfl,rfl,km.of (Hn _ _ Cv),rfl,?_⟩;have hIa:=S' rs i hI;have hla:=Ta (kvs:=kvs) (rs:=rs.take i) λr hr=>(aM r (List.mem_of_mem_take hr)).2.2.2.2.2.2.1;have oH:(rs.take i).length≤12:=by rw[length_take];omega
   dsimp only [cg];refine⟨_,rfl,_,rfl,_,rfl,_,rfl,c,a,r.m,(i:Nat),r.xs,r.ys,iG kvs (rs.take i),rfl,hCh hc Oz s4,Md.2.2.2.2.2.2.2.2.1,Md.2.2.2.2.2.2.2.2.2.1,by have:=Md.2.2.2.2.2.2.1;omega,by have:=Md.2.2.2.2.2.2.1;omega,yD Md,Xo,hIa,by omega,by omega,by omega,λt k l z=>hb i r t k l Oz z,λhs H5 e5=>?_,λt' x l e dm H5 hs he u6 ne Ox e5=>?_⟩
   ·refine⟨_,rfl,_,rfl,_,rfl,c,a,r.m,r.xs,r.ys,iG kvs (rs.take i),rfl,hCh hc Oz (s4.trans e5),Md.2.2.2.2.2.2.2.2.1,Md.2.2.2.2.2.2.2.2.2.1,by have:=Md.2.2.2.2.2.2.1;omega,by have:=Md.2.2.2.2.2.2.1;omega,yD Md,e5 _ _ Xo,hIa,by omega,λa' H6 na' ha' e6=>?_⟩;refine⟨a',_,_,_,rfl,?_, .inr (none_back (Hn.trans e5) na'),λj r2 hj Kt=>?_,(s4.trans e5).trans e6⟩
    ·rw[ha',take_snoc Oz];unfold iG;rw[foldl_append];rfl
    ·rcases Nat.lt_succ_iff_lt_or_eq.mp hj with hj|hj
     ·exact Ku j r2 hj Kt
     ·subst hj;have er:=Option.some.inj (Oz.symm.trans Kt);rw[←er];exact hs
   ·exact qE i r t' x l e dm H5 Oz Ku hs he u6 (none_back Hn ne) (none_back Hn Ox) (Hn.trans e5)
  ·rintro σ H' ⟨a,v4,v5,v6,rfl,ha,jD,Ku,e3⟩;rw[length_map,hcl2,take_length] at ha;have El:=e2.trans e3;have GI:=El _ _ eC;have hlf:(Bf d g).length<1000:=by unfold Bf;simp [cx,nag]
   refine⟨_,rfl,_,rfl,st,St,dx,_,rfl,GI,T.bB,T.dj,hlf,?_⟩;have nsg:st≠g:=cI eC hg 3e4;have nsr:st≠rl:=cI eC Ow 3e4;have nsa:st≠a:=cI GI ha 3e4;have nga:g≠a:=cI (El _ _ hg) ha 3e4;refine⟨_,rfl,st,St,dx,_,_,rfl,aa,T.bB,T.yx,(by rw[Ei];exact J1 _ _),?_⟩;have hg3:(upd H' st (.ins St dx (cx "amounts" (.ref a) (Bf d g)))) g=some (.lst gs):=by rw[ah (Ne.symm nsg)];exact El _ _ hg
   refine⟨.inl ⟨rfl,_,bM.of hg3⟩,_,rfl,g,rl,gs,ts.map V.ref,rfl,rfl,by rw[ah (Ne.symm nsg)];exact El _ _ hg,by rw[ah (Ne.symm nsr)];exact El _ _ Ow,by rw[length_map];omega,?_⟩;refine q (λi r hi=>Ku i r (by rw[length_map];have:=(List.getElem?_eq_some_iff.mp hi).1;omega) hi) a _ jD ⟨dx,by rw[ah nsg,aa,Ei]⟩ (by rw[ah (Ne.symm nga),ah (Ne.symm nsa)];exact ha) aa λb o z n1 n2=>?_;rw[ah n2,ah n1];exact El _ _ z
variable {uC uP uI uD uL uT eM eN eO uG uS:Tok}{Ch HE Sh St Ub:3e5}
inductive Xp(C G Pc Fo Ch Sh St Ub:3e5)(vs:4e5)(H:Hp)(Q:VK)(E:XK):Prop
 |mk (st d g:3e5) (kvs:0e2) (gs:4e5) (r:gW) (dH:vs=[.ref st, .str r.x, .int r.m]) (dI:iC St H st d g) (dN:H d=some (.dK kvs)) (eK:H g=some (.lst gs)) (gj:aU kvs) (i6:kvs.length≤400) (mD:gs.length≤1000) (qY:t5 r.x r.xs r.ys) (zX:(Bg r→∀t k l,bx kvs r.xs r.ys r.m=some (t,k,l)→0≤t+1∧t+1<10^60∧0≤l∧l<10^60)) (IX:(Bg r→bx kvs r.xs r.ys r.m=none→∀d' t H',(d'=d∨H d'=none)→iC St H' st d' g→H' d'=some (.dK (cq kvs r.xs r.ys r.m))→H' g=some (.lst (gs++[.ref t]))→wy H' t r→(∀b o,H b=some o→b≠st→b≠g→H' b=some o)→Q .cw H')) (Cr:(Bg r→∀t (x:Str) l e dx H',bx kvs r.xs r.ys r.m=some (t,Sum.inr x,l)→H' e=some (vC e Sh (some dx))→H' dx=some (ur dx (shF 0 (t+1) x l))→H e=none→H dx=none→au H H'→E (.ref Sh) (some dx) H')) (Oo:(∀ms p rr e dx H',¬Bg r→lQ (r.xs++r.ys) ms→kY (ms++[("+" :Str)]) r.xs r.ys=p::rr→H' e=some (vC e Ub (some dx))→H' dx=some (ur dx (ubF p.1 p.2.1 p.2.2))→H e=none→H dx=none→au H H'→E (.ref Ub) (some dx) H'))
def Tb(C G Pc Fo Ch Sh St Ub:3e5):Sp:=Xp C G Pc Fo Ch Sh St Ub
def scGo:av ["self","text","times"] ["self","text","times"] (aj FJ):=cX
def Xq(D:Dr K St "go" "Store.go" FJ ["self","text","times"] [1])(T:Oq K mg C R G Pc Fo Ch St uK uN uB uE uM uC uP uI uD uL uT eM eN eO uG uS)(c1:xA P w K mg base 17 St "go_all" ["self","rows"] (yF C G Pc Fo Ch Sh St Ub)):qH P w K mg base 18 St "go" ["self","text","times"] [1] (Tb C G Pc Fo Ch Sh St Ub):=by
 obtain⟨_,_,cD⟩:=c1;refine D.FF scGo 0e7 0e1
 ·obtain⟨st,d,g,kvs,gs,r,rfl,_⟩:=h;rfl
 ·obtain⟨st,d,g,kvs,gs,r,rfl,⟨dx,eC⟩,hd,hg,hI,l9,hg1,aM,hb,q,qE,qU⟩:=h;have big:=bgL;refine⟨_,(ao (a9 (mY 2e1 T.bB cD.m cD.ok 4e3 cD.b .nil mX (ag (b7 (ag (cj (ag (pv 1) (ag (pv 2) ak))) ak)) ak)))),?_⟩;refine⟨_,rfl,st,dx,_,rfl,eC,eY _ _ 0e0 0e0,_,rfl,_,rfl,2e2,λt ht=>⟨(by show 1≤sizeLine;decide),λrl Ow=>?_⟩⟩;have s1:=au.new (o:= .tup [.str r.x, .int r.m]) ht;have s2:=s1.trans (au.new (o:= .lst [.ref t]) Ow);have P':=au.new (o:= .lst [.ref t]) Ow _ _ (aa (H:=H) (a:=t) (o:= .tup [.str r.x, .int r.m]));have h0:([r]:List gW).take 0=[]:=rfl
  have one:∀{i:Nat} {r':gW},[r][i]? =some r'→i=0∧r'=r:=fun {i r'} z=>by
   match i,z with
   |0,z=>exact⟨rfl,(Option.some.inj z).symm⟩
  refine⟨st,d,g,rl,kvs,gs,[t],[r],rfl,⟨dx,s2 _ _ eC⟩,s2 _ _ hd,s2 _ _ hg,af (s1 _ _ hg) Ow,hI,l9,aa, .cons P' .nil,(by show 1≤12;decide),hg1,(λr' js=>by rw[mem_singleton.mp js];exact aM),λhv i r' t' k l z1 z2=>?_,λhv z d' H' h0 h1 h2 h3 h4=>?_,λhv i r' t' x l e dm H' z1 z2 z3 h1 h2 h3 h4 h5=>?_,λi r' ms p rr e dm H' z1 z2 z3 z4 z5 h1 h2 h3 h4 h5=>?_⟩
  ·obtain⟨rfl,rfl⟩:=one z1;exact hb (hv _ (mem_singleton_self _)) t' k l z2
  ·refine q (hv _ (mem_singleton_self _)) (z 0 r rfl) d' t H' (h0.imp id (none_back s2)) h1 h2 h3 (h4 _ _ P' ?_ ?_) λb o y n1 n2=>h4 _ _ (s2 _ _ y) n1 n2
   ·exact Ne.symm (af eC ht)
   ·exact Ne.symm (af hg ht)
  ·obtain⟨rfl,rfl⟩:=one z1;exact qE (hv _ (mem_singleton_self _)) t' x l e dm H' z3 h1 h2 (none_back s2 h3) (none_back s2 h4) (s2.trans h5)
  ·obtain⟨rfl,rfl⟩:=one z1;exact qU ms p rr e dm H' z3 z4 z5 h1 h2 (none_back s2 h3) (none_back s2 h4) (s2.trans h5)
variable {uC uP uI uD uL uT eM eN eO uG uS:Tok}{Ch HE Sh St:3e5}
inductive Cw(vs:4e5)(H:Hp)(Q:VK)(E:XK):Prop
 |mk (a t g:Int) (dH:vs=[.int a, .int t, .int g]) (dI: -(2^62) <g) (dN:Q (oV (oN a t g)) H)
def wA:Sp:=Cw
def GJ:av ["amount","taken","gain"] ["amount","taken","gain"] (aj nv):=cX
def Cy(D:Def K mg "turns_of" "turns_of" nv ["amount","taken","gain"]):a5 P w K mg base 1 "turns_of" ["amount","taken","gain"] wA:=by
 refine D.cN GJ 0e7 0e1
 ·obtain⟨a,t,g,rfl,_⟩:=h;rfl
 ·obtain⟨a,t,g,rfl,hg,q⟩:=h
  refine⟨_,(ai (bC (aL pZ 2e1 (pv 1) (aO _)) (ao (aA aq))
      aN) (ai (bC (aL VR (pv 2) aq (aO _)) (ao (aA mq))
      aN) (ao (aA (ay bZ (ay Im (ay oZ 2e1 (pv 1)) (kg gB (pv 2))) aq))))),?_⟩
  unfold oN at q;refine⟨_,rfl,_,rfl,_,_,rfl,rfl,_,rfl,eF (λe=>?_) λe=>?_⟩
  ·have e:a<t:=by simpa using e
   rw[if_pos e] at q;exact q
  have e:¬a<t:=by simpa using e
  rw[if_neg e] at q;refine⟨_,rfl,_,_,rfl,rfl,_,rfl,eF (λe=>?_) λe=>?_⟩
  ·have e:0≤g:=by simpa using e
   rw[if_pos e] at q;exact q
  have e:¬0≤g:=by simpa using e
  rw[if_neg e] at q;exact⟨_,rfl,_,rfl,_,_,rfl,rfl,_,rfl,_,rfl,_,_,rfl,rfl,⟨by omega,by omega⟩,_,_,rfl,rfl,q⟩
def oh:av ["change","times","amounts","gained","told","text"] ["change","times","amounts"] (aj qM):=cX
def GK(D:Def K mg "turned" "turned" qM ["change","times","amounts"])(T:2e0)(c1:a5 P w K mg base 9 "gains" ["change"] (yt C G Pc Fo Ch)):a5 P w K mg base 10 "turned" ["change","times","amounts"] (tZ C G Pc Fo Ch):=by
 obtain⟨_,_,yG⟩:=c1;refine D.cN oh 0e7 0e1
 ·obtain⟨c,am,m,xs,ys,kvs,rfl,_⟩:=h;rfl
 ·obtain⟨c,am,m,xs,ys,kvs,rfl,hC,hx,hy,lx,ly,hG,yC,hI,hl,q⟩:=h;have hu:=cM hr;have big:=bgL;refine⟨_,(ai (az (i:=3) oh.nd rfl 0e6 (fz yG hr (ag 2e1 ak))) (ai (az (i:=4) oh.nd rfl 0e6 (bq ig rfl T.ja gM (ag (pv 2) ak))) (ai (cY (bU PassesOwn.never rfl (cJ (pv 3)) (aB (i:=5) oh.nd rfl 0e6) (ao (cF hu (pv 4) (pv 5) (ay bZ (b5 hu (pv 4) (pv 5) aq ⟨rfl,rfl,rfl,rfl⟩) (ay fT (pv 1) (bX hu (pv 3) (pv 5) 2e7))) rfl)))) (ao (aA (pv 4)))))),?_⟩;refine⟨_,rfl,c,xs,ys,rfl,hC,hx,hy,lx,ly,λd H1 nd hd e1=>?_⟩;refine⟨_,rfl,am,_,rfl, .inl (e1 _ _ yC),λe0 uu=>?_⟩;have e01:H e0=none:=none_back e1 uu;have NV:e0≠d:=λz=>by rw[z,hd] at uu;cases uu
  have s2:=au.new (o:= .dK kvs) uu;have hd2:=s2 _ _ hd;have Ve:(upd H1 e0 3e0) e0=some 3e0:=aa;have e2:=e1.trans s2;generalize upd H1 e0 3e0=H2 at hd2 Ve e2
  have hgl:(gH xs ys).length≤40:=by
   have h3:(gH xs ys).length≤(wq xs ys).length:=yp _ _;have h4:=yr xs ys;omega
  have hIg:aU (gH xs ys):=DY _ _;dsimp only [cg];refine⟨_,rfl,d,gH xs ys,rfl,hd2,λo nf=>cQ nf (λj σ H3=>∃w:Option V,σ=[some (.ref c),some (.int m),some (.ref am),some (.ref d),some (.ref e0),w]∧H3=upd H2 e0 (.dK (fO m kvs ((gH xs ys).take j) (gH xs ys)))) ?_ ?_ ?_ ?_⟩
  ·exact⟨none,rfl,(eG Ve).symm⟩
  ·rintro j σ H3 ⟨_,_,rfl⟩;rw[ah (Ne.symm NV)];exact hd2
  ·rintro j k v σ H3 hj ⟨w,rfl,rfl⟩;have xm:∀o',(upd (upd H2 e0 (.dK (fO m kvs ((gH xs ys).take j) (gH xs ys)))) d o') e0=some (.dK (fO m kvs ((gH xs ys).take j) (gH xs ys))):=λo'=>by rw[ah NV];exact aa
   have SA:=iA m (gH xs ys) ((gH xs ys).take j) kvs;have P5:((gH xs ys).take j).length≤(gH xs ys).length:=length_take_le' _ _;have NL:=cS m (gH xs ys) ((gH xs ys).take j) kvs hI;have hv:=hIg.d5 (mem_of_getElem? hj);have hsm:=hG k;refine⟨_,rfl,e0,rfl, .inl ⟨_, .inl (xm _)⟩,_,rfl,_,fU.k (k:=k) (xm _),_,rfl,_,rfl,_,rfl,d,V.int (aE (gH xs ys) k),rfl, .inl ⟨_,k, .inr ⟨o,aa⟩,rfl,hv.symm⟩,_,_,rfl,rfl, .inr ⟨by omega,by omega⟩,_,_,NL.at k,rfl,_,rfl,_,rfl,e0,_,rfl,i4.k (k:=k) (xm _) 0e5,?_⟩;refine⟨by rw[ah (Ne.symm NV)];exact aa,some (kV k),rfl,?_⟩;rw[nW NV hd2];unfold fO;rw[take_snoc hj,foldl_append];rfl
  ·rintro σ H3 ⟨w,rfl,rfl⟩;rw[take_length];exact⟨_,rfl,q e0 _ e01 aa λb o' w'=>by rw[ah (af w' e01)];exact e2 _ _ w'⟩
variable {uC uP uI uD uL uT eM eN eO uG uS:Tok}{Ch HE Sh St:3e5}
structure Xr(K:0e9)(mg:1e3)(C R G Pc Fo Ch:3e5)(uK uN uB uE uM uC uP uI uD uL uT eM eN eO uG uS:Tok):Prop extends nX K mg C R G Pc Fo Ch uK uN uB uE uM uC uP uI uD uL uT eM eN eO uG uS where
 Xs:mg "min" =none
theorem t9:∀{l:List Int},l≠[]→∃b∈l,∀a∈l,b≤a
 | [],h=>absurd rfl h
 | [x],_=>⟨x,by simp,λa ha=>by simp at ha;omega⟩
 |x::y::r,_=>by
  obtain⟨b,hb,hle⟩:=t9 (l:=y::r) 2e9;by_cases c:x≤b
  ·exact⟨x,by simp,λa ha=>by
    rcases mem_cons.mp ha with z|z
    ·omega
    ·have:=hle a z;omega⟩
  ·exact⟨b,mem_cons_of_mem _ hb,λa ha=>by
    rcases mem_cons.mp ha with z|z
    ·omega
    ·exact hle a z⟩
theorem pW:∀{l:List (Option Int)},l.filterMap id=[]→cU l=none
 | [],_=>rfl
 |none::r,h=>pW (l:=r) (by simpa using h)
 |some i::r,h=>by simp at h
theorem j4:∀{l:List (Option Int)} {m:Int},m∈l.filterMap id→(∀a∈l.filterMap id,m≤a)→cU l=some m
 | [],m,h,_=>by simp at h
 |none::r,m,h,h'=>j4 (l:=r) (by simpa using h) (λa ha=>h' a (by simpa using ha))
 |some i::r,m,h,h'=>by
  have hi:m≤i:=h' i 2e9
  cases e:cU r with
  |none=>
   have er:r.filterMap id=[]:=by
    cases f:r.filterMap id with
    |nil=>rfl
    |cons a as=>
     obtain⟨b,hb,hle⟩:∃b∈r.filterMap id,∀a∈r.filterMap id,b≤a:=t9 (by rw[f];simp);rw[j4 hb hle] at e;cases e
   have hm:m=i:=by
    simp [er] at h;rcases h with h| ⟨h,_⟩<;>omega
   show (match cU r with|none=>some i|some j=>some (if j<i then j else i))=some m;rw[e,hm]
  |some j=>
   have hj:∃b∈r.filterMap id,∀a∈r.filterMap id,b≤a:=by
    apply t9;intro z;rw[pW z] at e;cases e
   obtain⟨b,hb,hle⟩:=hj
   have eb:j=b:=by
    have:=j4 hb hle;rw[e] at this;exact Option.some.inj this
   subst eb;have hmj:m≤j:=h' j (by rw[filterMap_cons];simp;exact .inr (by simpa using hb));show (match cU r with|none=>some i|some j=>some (if j<i then j else i))=some m;rw[e]
   have HY:m=i∨m∈r.filterMap id:=by
    rw[filterMap_cons] at h;simpa using h
   rcases HY with HY|HY
   ·subst HY;dsimp only;rw[if_neg 0e5]
   ·have:=hle m HY;dsimp only;split
    ·congr 1;omega
    ·congr 1;omega
def iW:av ["change","amounts","taken","gained","told"] ["change","amounts"] (aj fY):=cX
def OA(D:Def K mg "most_turns" "most_turns" fY ["change","amounts"])(T:Xr K mg C R G Pc Fo Ch uK uN uB uE uM uC uP uI uD uL uT eM eN eO uG uS)(c1:a5 P w K mg base 8 "side_counts" ["terms"] (gU C G Pc Fo))(c2:a5 P w K mg base 9 "gains" ["change"] (yt C G Pc Fo Ch))(c3:a5 P w K mg base 1 "turns_of" ["amount","taken","gain"] wA):a5 P w K mg base 10 "most_turns" ["change","amounts"] (Ct C G Pc Fo Ch):=by
 obtain⟨_,_,dE⟩:=c1;obtain⟨_,_,yG⟩:=c2;obtain⟨_,_,Cz⟩:=c3;refine D.cN iW 0e7 0e1
 ·obtain⟨c,am,xs,ys,kvs,rfl,_⟩:=h;rfl
 ·obtain⟨c,am,xs,ys,kvs,rfl,hC,hx,hy,lx,ly,hG,yC,hI,q⟩:=h;have hu:=cM hr;have big:=bgL;obtain⟨dx,l,r,hc,hl,Mb⟩:=id hC;refine⟨_,(ai (az (i:=2) iW.nd rfl (Or.inr rfl) (fz dE hr (ag 3e6 ak))) (ai (az (i:=3) iW.nd rfl (Or.inr rfl) (fz yG hr (ag 2e1 ak))) (ai (cY (xo (i:=4) iW.nd rfl 0e6 (sc:=(aj fY)) (NX:=["change","amounts","taken","gained","told"]) (N:=["text","taken","amounts","gained"]) (fr:=[none,some 2,some 1,some 3]) 0e8 rfl rfl rfl (cJ (pv 2)) (λ_ _ _ _=>(aB (i:=0) (show (["text","taken","amounts","gained"]:List Str).Nodup by decide+kernel) rfl 0e6 (Or.inr rfl))) (λ_ _ _ _=>gf) (λ_ _ _ _=>(fz Cz hr (ag (b5 hu (pv 2) 2e1 aq ⟨rfl,rfl,rfl,rfl⟩) (ag (bX hu (pv 1) 2e1 2e7) (ag (b5 hu (pv 3) 2e1 aq ⟨rfl,rfl,rfl,rfl⟩) ak))))))) (ao (aA (Na rfl rfl T.Xs (ag (gg (sc:=(aj fY)) (NX:=["change","amounts","taken","gained","told"]) (N:=["turns"]) (fr:=[none]) 0e8 rfl rfl rfl (cE (pv 4)) (λ_ _ _ _=>(aB (i:=0) (show (["turns"]:List Str).Nodup by decide+kernel) rfl 0e6 (Or.inr rfl))) (λ_ _ _ _=>(qC (mr (wY 2e1)))) (λ_ _ _ _=>2e1)) ak))))))),?_⟩;refine⟨_,rfl,c,Ch,dx,_,_,rfl,hc,T.bY,T.iq,fj _ _,l,xs,rfl,hl,hx,lx,λtk H1 Xk A9 e1=>?_⟩;refine⟨_,rfl,c,xs,ys,rfl,hC.same e1,hx,hy,lx,ly,λgn H2 ngn hgn e2=>?_⟩;have tW:=e1.trans e2;have htk2:H2 tk=some (.dK (aV xs)):=e2 _ _ A9;have hIk:aU (aV xs):=cC _;have hIg:aU (gH xs ys):=DY _ _
  have pT:(aV xs).length≤20:=by
   have:=eP (gm xs);have e:(gm xs).length=xs.length:=by unfold gm;rw[length_map]
   unfold aV;omega
  have ham2:=tW _ _ yC;have nat:am≠tk:=af yC Xk;have Xt:gn≠tk:=Ne.symm (af A9 ngn);refine⟨_,rfl,tk,aV xs,rfl,htk2,λo nf L hL=>?_⟩;have Vh:L≠tk:=λz=>by rw[z,aa] at hL;cases hL
  have Aa:H2 L=none:=by rwa [ah Vh] at hL
  refine ph (a:=tk) (D:=L) (kvs:=aV xs) (λi σ H'=>∃v:Option V,σ=[v,some (.ref tk),some (.ref am),some (.ref gn)]∧H' tk=some (.dX o (.dK (aV xs)))∧H' L=some (.lst (((aV xs).take i).map λq=>oV (oN (aE kvs q.1) (aE (aV xs) q.1) (aE (gH xs ys) q.1))))∧∀b o',H2 b=some o'→b≠tk→H' b=some o') ?_ (λi σ H' ⟨_,_,z,_⟩=>z) ?_ ?_
  ·exact⟨none,rfl,by rw[ah (Ne.symm Vh),aa],aa,λb o' z hb=>by rw[ah (af z Aa),ah hb];exact z⟩
  ·rintro i k v σ H' hi ⟨v',rfl,f1,f2,f3⟩ N hN;have hv:=hIk.d5 (mem_of_getElem? hi);have ha:=f3 _ _ ham2 nat;have hg:=f3 _ _ hgn Xt;have zA:=(List.getElem?_eq_some_iff.mp hi).1;refine⟨_,rfl,am,rfl, .inl ⟨_, .inl ha⟩,_,rfl,_,fU.k (k:=k) ha,_,rfl,_,rfl,tk,V.int (aE (aV xs) k),rfl, .inl ⟨_,k, .inr ⟨o,f1⟩,rfl,hv.symm⟩,_,rfl,gn,rfl, .inl ⟨_, .inl hg⟩,_,rfl,_,fU.k (k:=k) hg,?_⟩;rw[hI.at k,hIg.at k];refine⟨aE kvs k,aE (aV xs) k,aE (gH xs ys) k,rfl,(hG k).1,_,f2,by rw[length_map,length_take];omega,hN _ _ ⟨_,rfl,by rw[ah (Ne.symm Vh)];exact f1,?_,λb o' z hb=>by rw[ah (af z Aa)];exact f3 b o' z hb⟩⟩;rw[aa,take_snoc hi,map_append];rfl
  rintro σ H' ⟨v',rfl,f1,f2,f3⟩;rw[take_length] at f2;refine⟨tk,o,aV xs,f1,nf,?_⟩
  have s3:au H (upd H' tk (.dK (aV xs))):=λb o' z=>by
   have nb:b≠tk:=af z Xk;rw[ah nb];exact f3 _ _ (tW _ _ z) nb
  have nU:(upd H' tk (.dK (aV xs))) L=some (.lst ((aV xs).map λq=>oV (oN (aE kvs q.1) (aE (aV xs) q.1) (aE (gH xs ys) q.1)))):=by rw[ah Vh];exact f2
  have em:iE kvs xs ys=cU ((aV xs).map λq=>oN (aE kvs q.1) (aE (aV xs) q.1) (aE (gH xs ys) q.1)):=rfl;have eo:((aV xs).map λq=>oV (oN (aE kvs q.1) (aE (aV xs) q.1) (aE (gH xs ys) q.1)))=((aV xs).map λq=>oN (aE kvs q.1) (aE (aV xs) q.1) (aE (gH xs ys) q.1)).map oV:=by rw[map_map];rfl
  rw[eo] at nU;have hol:((aV xs).map λq=>oN (aE kvs q.1) (aE (aV xs) q.1) (aE (gH xs ys) q.1)).length≤20:=by rw[length_map];exact pT
  rw[em] at q;generalize ((aV xs).map λq=>oN (aE kvs q.1) (aE (aV xs) q.1) (aE (gH xs ys) q.1))=os at nU hol q;generalize upd H' tk (.dK (aV xs))=H3 at s3 nU ⊢;have hlen:∀i,((os.take i).filterMap id).length≤i:=λi=>le_trans (List.length_filterMap_le _ _) (by rw[length_take];omega);refine⟨_,rfl,L,rfl,⟨_,bM.of nU⟩,λM hM=>vB (K:=K) (a:=L) (L:=M) (xs:=os.map oV) H3 (fun σ=>∃v:Option V,σ=[v]) (λi ys=>ys=((os.take i).filterMap id).map V.int) (bM.of nU) hM ⟨none,rfl⟩ (au.new hM) aa rfl (by rw[length_map];omega) ?_ ?_ ?_⟩
  ·rintro i ys rfl;rw[length_map];exact hlen i
  ·rintro i v σ H5 ys hi ⟨w,rfl⟩ e5 Xu rfl N M' hN hM';rw[getElem?_map] at hi
   obtain⟨z,hz,rfl⟩:∃z,os[i]? =some z∧v=oV z:=by
    cases hh:os[i]? with
    |none=>rw[hh] at hi;cases hi
    |some z=>rw[hh] at hi;exact⟨z,rfl,(Option.some.inj hi).symm⟩
   cases z with
   |none=>
    refine⟨_,rfl,_,rfl,d7 (hM' _ _ 2e4 e5 Xu ?_)⟩;rw[take_snoc hz,List.filterMap_append];simp
   |some j=>
    refine⟨_,rfl,_,rfl,gK ⟨_,rfl,hN _ _ _ 2e4 e5 Xu ?_⟩⟩;rw[take_snoc hz,List.filterMap_append,map_append];rfl
  ·rintro H5 ys e5 Xu rfl;rw[length_map,take_length] at Xu;refine⟨M,os.filterMap id,rfl,bM.of Xu,λh0=>?_,λm hm hle=>?_⟩
   ·have:=q H5 (s3.trans e5);rw[pW h0] at this;exact this
   ·have:=q H5 (s3.trans e5);rw[j4 hm hle] at this;exact this
variable {uC uP uI uD uL uT eM eN eO uG uS:Tok}{Ch HE Sh St:3e5}
inductive Kv(St:3e5)(vs:4e5)(H:Hp)(Q:VK)(E:XK):Prop
 |mk (st d g:3e5) (x:Str) (kvs:0e2) (xs ys:List Tm) (dH:vs=[.ref st, .str x]) (dI:iC St H st d g) (dN:H d=some (.dK kvs)) (eK:aU kvs) (gj:GF x xs ys) (i6:∀H',au H H'→Q (oV (iE kvs xs ys)) H')
def Em(St:3e5):Sp:=Kv St
def OB:av ["self","text"] ["self","text"] (aj xO):=cX
def Kw(D:aX K St "most" "Store.most" xO ["self","text"])(T:Oq K mg C R G Pc Fo Ch St uK uN uB uE uM uC uP uI uD uL uT eM eN eO uG uS)(c1:a5 P w K mg base 15 "read_even" ["text"] (Kn C G Pc Fo Ch))(c2:a5 P w K mg base 10 "most_turns" ["change","amounts"] (Ct C G Pc Fo Ch)):aD P w K mg base 16 St "most" ["self","text"] (Em St):=by
 obtain⟨_,_,fq⟩:=c1;obtain⟨_,_,j2⟩:=c2;refine D.cN OB 0e7 0e1
 ·obtain⟨st,d,g,x,kvs,xs,ys,rfl,_⟩:=h;rfl
 ·obtain⟨st,d,g,x,kvs,xs,ys,rfl,⟨dx,eC⟩,hd,hI,Ov,q⟩:=h;obtain⟨_,_,_,_,_,_,h7,_,h9,NK,_⟩:=id Ov;refine⟨_,(ao (aA (fz j2 hr (ag (fz fq hr (ag (pv 1) ak)) (ag 3e6 ak))))),?_⟩;refine⟨_,rfl,x,xs,ys,rfl,Ov,λc H1 nc hN e1=>?_⟩;exact⟨_,rfl,st,St,dx,_,_,rfl,e1 _ _ eC,T.bB,T.dj,fk _ _,c,d,xs,ys,kvs,rfl,hN H1 λb o _ z=>z,h9,NK,by omega,by omega,yD Ov,e1 _ _ hd,hI,λH2 e2=>q H2 (e1.trans e2)⟩
variable {uC uP uI uD uL uT eM eN eO uG uS:Tok}{Ch HE Sh St:3e5}
variable {uC uP uI uD uL uT:Tok}{St:3e5}
def iX(H:Hp)(l:3e5)(ws:List Fm):Prop:=∃ts:List Addr,H l=some (.lst (ts.map V.ref))∧Paired (Ah H) ts ws
theorem iX.same{ws:List Fm}(h:iX H l ws)(e:au H H'):iX H' l ws:=let ⟨ts,h1,h2⟩:=h;⟨ts,e _ _ h1,aJ (λ_ _ z=>z.same e) h2⟩
inductive Kx(K:0e9)(vs:4e5)(H:Hp)(Q:VK)(E:XK):Prop
 |mk (a:3e5) (ns:List Int) (dH:vs=[.ref a]) (dI:bM K H a (ns.map V.int)) (dN:ns.length≤63) (eK:∀(l:3e5) (ws:List Fm) H',iX H' l ws→(∀w∈ws,bJ w)→(∀w∈ws,(cW 1 w.1).length≤3)→ws.length=3→au H H'→Q (.ref l) H')
def En(K:0e9):Sp:=Kx K
def Eo:av ["_law_script","_law_kinds"] ["_law_script"] (aj px):=cX
def Ky(D:Def K mg "_law_world" "_law_world" px ["_law_script"])(T:3e3)(c1:a5 P w K mg base 1 "_law_cell_at" ["_law_script","_law_k"] (sG K))(c2:a5 P w K mg base 1 "_law_mixed" ["_law_cell","_law_prime"] Qa)(c3:a5 P w K mg base 1 "_law_kind" ["_law_number"] DO)(c4:a5 P w K mg base 2 "_law_matter" ["_law_cell","_law_kinds"] AG):
  a5 P w K mg base 3 "_law_world" ["_law_script"] (En K):=by
 obtain⟨_,_,iY⟩:=c1;obtain⟨_,_,wB⟩:=c2;obtain⟨_,_,Kz⟩:=c3;obtain⟨_,_,CA⟩:=c4;refine D.cN Eo 0e7 0e1
 ·obtain⟨a,ns,rfl,_⟩:=h;rfl
 ·obtain⟨a,ns,rfl,hS,hlen,q⟩:=h;have hu:=cM hr;have Od:=hr.ky;have big:=bgL;refine⟨_,(ai (az (i:=1) Eo.nd rfl (Or.inr rfl) (gg (sc:=(aj px)) (NX:=["_law_script","_law_kinds"]) (N:=["_law_k","_law_script"]) (fr:=[none,some 0]) 0e8 rfl rfl rfl (lq rfl T.qR (ag aq ak)) (λ_ _ _ _=>(aB (i:=0) (show (["_law_k","_law_script"]:List Str).Nodup by decide+kernel) rfl 0e6 (Or.inr rfl))) (λ_ _ _ _=>gf) (λ_ _ _ _=>(fz Kz hr (ag (fz wB hr (ag (fz iY hr (ag (pv 1) (ag 2e1 ak))) (ag aq ak))) ak))))) (ao (aA (gg (sc:=(aj px)) (NX:=["_law_script","_law_kinds"]) (N:=["_law_k","_law_kinds","_law_script"]) (fr:=[none,some 1,some 0]) 0e8 rfl rfl rfl (lq rfl T.qR (ag aq ak)) (λ_ _ _ _=>(aB (i:=0) (show (["_law_k","_law_kinds","_law_script"]:List Str).Nodup by decide+kernel) rfl 0e6 (Or.inr rfl))) (λ_ _ _ _=>gf) (λ_ _ _ _=>(fz CA hr (ag (fz wB hr (ag (fz iY hr (ag (pv 2) (ag (ay bZ aq 2e1) ak))) (ag aq ak))) (ag (pv 1) ak)))))))),?_⟩;refine⟨_,rfl,by decide,by decide,λL hL=>Ih (L:=L) H (fun σ=>∃v:Option V,σ=[v,some (.ref a)]) (λi ys=>∃ks:List (List Nat),ys=ks.map (λk=>V.str 3e7)∧ks.length=i∧∀k∈ks,ki k) hL ⟨none,rfl⟩ (au.new hL) aa ⟨[],rfl,rfl,λk hk=>by cases hk⟩ 0e4 ?_ ?_ ?_⟩
  ·rintro i ys ⟨ks,rfl,e,_⟩;rw[length_map,e];exact le_refl _
  ·rintro i σ H2 ys hi ⟨v,rfl⟩ e2 qa ⟨ks,rfl,l9,oI⟩ N M hN;refine⟨_,rfl,_,rfl,a,ns,i,by rw[zero_add];rfl,e2.seq hS,hlen,λn=>⟨n,1000003,rfl,by decide,by decide,λn2=>⟨n2,rfl,λk H3 hk e3=>?_⟩⟩⟩;refine hN _ _ _ 2e4 (e2.trans e3) (e3 _ _ qa) ⟨ks++[k],by rw[map_append];rfl,by rw[length_append,l9];rfl,λk' PN=>?_⟩;rcases mem_append.mp PN with z|z
   ·exact oI k' z
   ·have:k'=k:=by simpa using z
    rw[this];exact hk
  rintro H2 ys e2 qa ⟨ks,rfl,l9,oI⟩
  obtain⟨k0,k1,k2,rfl⟩:∃k0 k1 k2,ks=[k0,k1,k2]:=by
   match ks,l9 with
   | [k0,k1,k2],_=>exact⟨k0,k1,k2,rfl⟩
  have hk0:=oI k0 2e9;have SW:=oI k1 2e9;have Gz:=oI k2 2e9;refine⟨_,rfl,by decide,by decide,λL3 nU=>Fv (L:=L3) H2 (fun σ=>∃v:Option V,σ=[v,some (.ref L),some (.ref a)]) (λi ys H'=>∃(ts ds:List Addr) (ws:List Fm),ys=ts.map V.ref∧ts.length=i∧(∀w∈ws,bJ w)∧(∀w∈ws,(cW 1 w.1).length≤3)∧Paired (λt x=>t≠L3∧∃d,d≠L3∧H' t=some (.tup [.str 1e7, .ref d, .int x.2])∧H' d=some (.dK (cW 1 x.1))) ts ws) ?_ nU ⟨none,rfl⟩ (au.new nU) aa ⟨[],[],[],rfl,rfl,(λk hk=>by cases hk),(λk hk=>by cases hk), .nil⟩ 0e4 ?_ ?_ ?_⟩
  ·rintro i ys Ha Hb hb ⟨ts,ds,ws,h1,h2,h3,h3',h4⟩;exact⟨ts,ds,ws,h1,h2,h3,h3',aJ (λt x ⟨n1,d,n2,z1,z2⟩=>⟨n1,d,n2,hb _ _ z1 n1,hb _ _ z2 n2⟩) h4⟩
  ·rintro i ys H' ⟨ts,ds,ws,rfl,h2,_⟩;rw[length_map,h2];exact le_refl _
  ·rintro i σ H5 ys hi ⟨v,rfl⟩ e5 uU ⟨ts,ds,ws,rfl,pT,aM,mM,hP⟩ N M hN;have ek:(3 :Int)+(0+(i:Int))=((3+i:Nat):Int):=by omega
   refine⟨_,rfl,_,rfl,_,_,rfl,rfl,a,ns,3+i,by rw[←ek];rfl,e5.seq (e2.seq hS),hlen,λn=>⟨n,1000033,rfl,by decide,by decide,λn2=>⟨_,rfl,n2,L,k0,k1,k2,rfl,e5 _ _ qa,hk0,SW,Gz,λt x H6 gT Tc hF e6=>?_⟩⟩⟩;obtain⟨d,h1,h2⟩:=hF;have Nx:=e6 _ _ uU;refine hN _ _ _ 2e4 (e5.trans e6) Nx ⟨ts++[t],ds,ws++[x],by rw[map_append];rfl,by rw[length_append,pT];rfl,λw hw=>?_,λw hw=>?_,?_⟩
   ·rcases mem_append.mp hw with z|z
    ·exact aM w z
    ·have:w=x:=by simpa using z
     rw[this];exact gT
   ·rcases mem_append.mp hw with z|z
    ·exact mM w z
    ·have:w=x:=by simpa using z
     rw[this];exact Tc
   ·exact bT ⟨cI h1 Nx 3e4,d,cI h2 Nx 3e4,h1,h2⟩ (aJ (λt x ⟨n1,d,n2,z1,z2⟩=>⟨n1,d,n2,e6 _ _ z1,e6 _ _ z2⟩) hP)
  ·rintro H5 ys e5 uU ⟨ts,ds,ws,rfl,pT,aM,mM,hP⟩;refine q L3 ws H5 ⟨ts,uU,aJ (λt x ⟨n1,d,n2,z1,z2⟩=>⟨d,z1,z2⟩) hP⟩ aM mM ?_ (e2.trans e5);rw[←Paired.length hP,pT];rfl
inductive KA(vs:4e5)(H:Hp)(Q:VK)(E:XK):Prop
 |mk (l:3e5) (ws:List Fm) (dH:vs=[.ref l]) (dI:iX H l ws) (dN:(∀w∈ws,bJ w)) (eK:ws.length=3) (gj:∀(e:3e5) (xs:3e8) H',H' e=some (.lst (xs.map V.str))→(∀x∈xs,Told ws x)→(∀x,Told ws x→x∈xs)→1≤xs.length→xs.length≤30→au H H'→Q (.ref e) H')
def Ep:Sp:=KA
def lU:av ["_law_world_here","_law_found","_law_text_here","_law_counts","_law_charge","_law_kind_here"] ["_law_world_here"] (aj xK):=cX
def oj(kvs:0e2)(k:Key)(v:V):k∈(putK kvs k v).map 1e8:=by
 unfold putK;split
 ·rename_i h
  obtain⟨q,hq,e⟩:=any_eq_true.mp h;have e:q.1=k:=by simpa using e
  exact mem_map.mpr ⟨(q.1,v),mem_map.mpr ⟨q,hq,by rw[if_pos e]⟩,e⟩
 ·rw[map_append];exact mem_append_right _ 2e9
def iH{kvs:0e2}{k j:Key}{v:V}(h:j∈kvs.map 1e8):j∈(putK kvs k v).map 1e8:=by
 obtain⟨q,hq,rfl⟩:=mem_map.mp h;unfold putK;split
 ·refine mem_map.mpr ⟨if q.1=k then (q.1,v) else q,mem_map.mpr ⟨q,hq,rfl⟩,?_⟩;split<;>rfl
 ·rw[map_append];exact mem_append_left _ (mem_map_of_mem hq)
def KC(ws:List Fm)(kvs:0e2):Prop:=(Sum.inr "e^-" :Key)∈kvs.map 1e8∧∀w∈ws,(Sum.inr (⟨(fL w).toArray⟩:Str):Key)∈kvs.map 1e8∧∀k∈(cW 1 w.1).map (·.1),k∈kvs.map 1e8
def KC.put{ws:List Fm}{kvs:0e2}(h:KC ws kvs)(k:Key)(v:V):KC ws (putK kvs k v):=⟨iH h.1,λw hw=>⟨iH (h.2 w hw).1,λj hj=>iH ((h.2 w hw).2 j hj)⟩⟩
def om(ws:List Fm)(kvs:0e2):Prop:=∀q∈kvs,∃s,q.1=Sum.inr s∧Told ws s
def om.put{ws:List Fm}(h:om ws kvs)(hs:Told ws s)(v:V):om ws (putK kvs (Sum.inr s) v):=λq hq=>by
 rcases lR hq with hq|hq
 ·exact h q hq
 ·exact⟨s,by rw[hq],hs⟩
def Er(kvs:0e2)(k:Key)(v:V):kvs.length≤(putK kvs k v).length:=by
 unfold putK;split
 ·rw[length_map];exact le_refl _
 ·rw[length_append];exact Nat.le_add_right _ _
theorem wC{ws:List Fm}:∀{kvs:0e2},om ws kvs→∃xs:List Str,(kvs.map λq=>kV q.1)=xs.map V.str∧(∀x∈xs,Told ws x)∧xs.length=kvs.length
 | [],_=>⟨[],rfl,(λx hx=>by cases hx),rfl⟩
 |p::r,h=>by
  obtain⟨xs,e,h1,h2⟩:=wC (kvs:=r) λq hq=>h q (mem_cons_of_mem _ hq);obtain⟨s,es,hs⟩:=h p 1e6;refine⟨s::xs,?_,λx hx=>?_,by rw[length_cons,length_cons,h2]⟩
  ·rw[map_cons,map_cons,e,es];rfl
  ·rcases mem_cons.mp hx with z|z
   ·rw[z];exact hs
   ·exact h1 x z
def KD(D:Def K mg "_law_texts" "_law_texts" xK ["_law_world_here"])(T:3e3):a5 P w K mg base 1 "_law_texts" ["_law_world_here"] Ep:=by
 refine D.cN lU 0e7 0e1
 ·obtain⟨l,ws,rfl,_⟩:=h;rfl
 ·obtain⟨l,ws,rfl,⟨ts,hl,hP⟩,aM,h3,q⟩:=h;have hu:=cM hr;have Od:=hr.ky;have big:=bgL;have gX:=Paired.length hP;refine⟨_,(ai (az (i:=1) lU.nd rfl 0e6 (jA (ib bh u9 jz) rfl rfl 3e4 0e4)) (ai (bU PassesOwn.never rfl (cE 2e1) (ia rfl (a6 (aB (i:=2) lU.nd rfl 0e6) (a6 (aB (i:=3) lU.nd rfl 0e6) (a6 (aB (i:=4) lU.nd rfl 0e6) dY)))) (ai (cF hu (pv 1) (pv 2) u9 rfl) (ao (cY (bU PassesOwn.never rfl (cJ (pv 3)) (aB (i:=5) lU.nd rfl 0e6) (ao (cF hu (pv 1) (pv 5) u9 rfl))))))) (ao (aA (bq (kE rfl) rfl T.n_list jF (ag (pv 1) ak)))))),?_⟩;refine λd hd=>?_;refine⟨aa,[(Sum.inr "e^-", .bl true)],rfl,(by show 1≤15;decide),?_⟩;have U3:(upd (upd H d (.dK [])) d (.dK (bF [] [(Sum.inr "e^-",V.bl true)]))) d=some (.dK [(Sum.inr "e^-", .bl true)]):=aa
  have s0:au H (upd (upd H d (.dK [])) d (.dK (bF [] [(Sum.inr "e^-",V.bl true)]))):=λb o z=>by
   rw[ah (af z hd),ah (af z hd)];exact z
  generalize upd (upd H d (.dK [])) d (.dK (bF [] [(Sum.inr "e^-",V.bl true)]))=H0 at U3 s0 ⊢;refine⟨_,rfl,l,rfl,⟨_,bM.of (s0 _ _ hl)⟩,dP (K:=K) (a:=l) (xs:=ts.map V.ref) (λi σ H'=>∃(kvs:0e2) (v2 v3 v4 v5:Option V),σ=[some (.ref l),some (.ref d),v2,v3,v4,v5]∧H' d=some 3e0∧om ws kvs∧KC (ws.take i) kvs∧1≤kvs.length∧kvs.length≤1+8*i∧au H H') ?_ (λi σ H' _ ⟨_,_,_,_,_,_,_,_,_,_,_,z⟩=>bM.of (z _ _ hl)) ?_ ?_⟩
  ·refine⟨_,none,none,none,none,rfl,U3,λq hq=>?_,⟨by simp,λw hw=>by cases hw⟩,le_refl _,le_refl _,s0⟩;have e:q=((Sum.inr ("e^-" :Str),V.bl true):Key×V):=by simpa using hq
   exact⟨"e^-",by rw[e], .inl rfl⟩
  ·rintro i v σ H' hi ⟨kvs,v2,v3,v4,v5,rfl,iL,hT,hS,SW,Gz,e⟩;rw[getElem?_map] at hi;obtain⟨t,ht,rfl⟩:=gMp hi;obtain⟨x,hx,cd,h1,h2⟩:=bG hP ht;have KG:=mem_of_getElem? hx;have gT:=aM x KG;have zA:i<3:=by have:=(List.getElem?_eq_some_iff.mp hx).1;omega
   have Sx:(cW 1 x.1).length≤7:=tH gT.2.2;have ncd:cd≠d:=af h2 hd;refine⟨t,_,rfl,km.of (e _ _ h1),rfl,_,_,rfl,_,_,rfl,_,_,rfl,rfl,?_⟩;refine⟨_,rfl,_,rfl,d,_,rfl,i4.k (k:=Sum.inr 1e7) iL 0e5,?_⟩;have hT1:=hT.put (.inr (.inl ⟨x,KG,rfl⟩)) (V.bl true);have uq:(putK kvs (Sum.inr (1e7:Str)) (V.bl true)).length≤kvs.length+1:=bE _ _ _;have hg1:kvs.length≤(putK kvs (Sum.inr (1e7:Str)) (V.bl true)).length:=Er _ _ _;have hS1:=hS.put (Sum.inr (1e7:Str)) (V.bl true);have Xv:=oj kvs (Sum.inr (1e7:Str)) (V.bl true);generalize putK kvs (Sum.inr (1e7:Str)) (V.bl true)=Xw at hT1 uq hg1 hS1 Xv ⊢;have e1:au H (upd H' d (.dK Xw)):=λb o z=>by rw[ah (af z hd)];exact e _ _ z
   have Hg:(upd H' d (.dK Xw)) d=some (.dK Xw):=aa;generalize upd H' d (.dK Xw)=H1 at e1 Hg ⊢;dsimp only [cg];refine⟨_,rfl,cd,cW 1 x.1,rfl,e1 _ _ h2,λo nf=>cQ nf (λj σ H3=>∃(w:Option V) (CB:0e2),σ=[some (.ref l),some (.ref d),some (.str 1e7),some (.ref cd),some (.int x.2),w]∧H3 d=some (.dK CB)∧om ws CB∧KC (ws.take i) CB∧(Sum.inr (1e7:Str):Key)∈CB.map 1e8∧(∀k∈((cW 1 x.1).take j).map (·.1),k∈CB.map 1e8)∧1≤CB.length∧CB.length≤2+8*i+j∧au H H3) ?_ (λj σ H3 ⟨_,_,_,_,_,_,_,_,_,_,z⟩=>z _ _ h2) ?_ ?_⟩
   ·exact⟨v5,Xw,rfl,Hg,hT1,hS1,Xv,(λk hk=>by cases hk),by omega,by omega,e1⟩
   ·rintro j k v σ H3 hj ⟨w,CB,rfl,P9,Vj,hS3,Td,Es,U7,hl3,e3⟩;obtain⟨kk,hkk,ek⟩:=k8 gT _ (mem_of_getElem? hj);have ek:k=Sum.inr (⟨kk.toArray⟩:Str):=ek;subst ek;have hjl:j< (cW 1 x.1).length:=(List.getElem?_eq_some_iff.mp hj).1;have Nu:(upd H3 cd (.dX o (.dK (cW 1 x.1)))) d=some (.dK CB):=by rw[ah (Ne.symm ncd)];exact P9
    refine⟨_,rfl,_,rfl,d,_,rfl,i4.k (k:=Sum.inr ⟨kk.toArray⟩) Nu 0e5,?_⟩;have hT4:=Vj.put (.inr (.inr ⟨x,KG,mem_map_of_mem (f:=1e8) (mem_of_getElem? hj)⟩)) (V.bl true);have Nt:(putK CB (Sum.inr (⟨kk.toArray⟩:Str)) (V.bl true)).length≤CB.length+1:=bE _ _ _;have hg4:CB.length≤(putK CB (Sum.inr (⟨kk.toArray⟩:Str)) (V.bl true)).length:=Er _ _ _;refine⟨by rw[ah ncd];exact aa,_,_,rfl,by rw[ah (Ne.symm ncd),aa],hT4,hS3.put _ _,iH Td,λk hk=>?_,by omega,by omega,λb o' z=>?_⟩
    ·rw[take_snoc hj,map_append] at hk;rcases mem_append.mp hk with hk|hk
     ·exact iH (Es k hk)
     ·have ek:k=Sum.inr (⟨kk.toArray⟩:Str):=by simpa using hk
      rw[ek];exact oj _ _ _
    by_cases bc:b=cd
    ·subst bc;rw[aa];rw[h2] at z;exact z
    ·rw[ah bc,ah (af z hd),ah bc];exact e3 _ _ z
   ·rintro σ H3 ⟨w,CB,rfl,P9,Vj,hS3,Td,Es,U7,hl3,e3⟩;rw[take_length] at Es;refine⟨CB,_,_,_,_,rfl,P9,Vj,⟨hS3.1,λw hw=>?_⟩,U7,by omega,e3⟩;rw[take_snoc hx] at hw;rcases mem_append.mp hw with hw|hw
    ·exact hS3.2 w hw
    ·have ew:w=x:=by simpa using hw
     rw[ew];exact⟨Td,Es⟩
  ·rintro σ H' ⟨kvs,v2,v3,v4,v5,rfl,iL,hT,hS,SW,Gz,e⟩;rw[length_map,gX,take_length] at hS;rw[length_map,gX,h3] at Gz;refine⟨_,rfl,d,kvs,rfl, .inl iL,λl2 uo=>?_⟩;have ex:∃xs:List Str,(kvs.map λq=>kV q.1)=xs.map V.str∧(∀x∈xs,Told ws x)∧xs.length=kvs.length:=wC hT;obtain⟨xs,ex,hxs,uR⟩:=ex;refine q l2 xs _ (by rw[aa,ex]) hxs (λs hs=>?_) 0e5 0e5 (e.trans (au.new uo))
   have hk:(Sum.inr s:Key)∈kvs.map 1e8:=by
    rcases hs with rfl| ⟨w,hw,rfl⟩ | ⟨w,hw,hs⟩
    ·exact hS.1
    ·exact(hS.2 w hw).1
    ·exact(hS.2 w hw).2 _ hs
   obtain⟨q',qy,e'⟩:=mem_map.mp hk
   have hm:V.str s∈xs.map V.str:=by
    rw[←ex];exact mem_map.mpr ⟨q',qy,by rw[e'];rfl⟩
   obtain⟨s',vt,e''⟩:=mem_map.mp hm;injection e'' with e'';rw[←e''];exact vt
variable {uC uP uI uD uL uT eM eN eO uG uS:Tok}{Ch HE Sh St:3e5}
def tm_at(y:Tm):uH [V.str ((toString y.1 :Str)++" " ++⟨(fL y.2).toArray⟩),V.str ⟨(fL y.2).toArray⟩] (if decide (V.int y.1=V.int 1)=true then 1 else 0)=some (V.str (tI y)):=by
 unfold tI;by_cases h:y.1=1
 ·rw[if_pos (decide_eq_true (by rw[h])),if_pos h];rfl
 ·rw[if_neg (by simpa using h),if_neg h];rfl
inductive KH(vs:4e5)(H:Hp)(Q:VK)(E:XK):Prop
 |mk (l r:3e5) (xs ys:List Tm) (dH:vs=[.ref l, .ref r]) (dI:cP H l xs) (dN:cP H r ys) (eK:(∀x∈xs,yg (10^40) x)) (gj:(∀y∈ys,yg (10^40) y)) (i6:xs.length≤10) (mD:ys.length≤10) (qY:∀H',au H H'→Q (.str (Txt.join " -> " [wg xs,wg ys])) H')
def Et:Sp:=KH
def pX:av ["_law_lefts","_law_rights","_law_sides","_law_side","_law_texts_here","_law_count_here","_law_formula"] ["_law_lefts","_law_rights"] (aj Dv):=cX
def KI(D:Def K mg "_law_text" "_law_text" Dv ["_law_lefts","_law_rights"])(T:qm K mg C):a5 P w K mg base 1 "_law_text" ["_law_lefts","_law_rights"] Et:=by
 refine D.cN pX 0e7 0e1
 ·obtain⟨l,r,xs,ys,rfl,_⟩:=h;rfl
 ·obtain⟨l,r,xs,ys,rfl,hxs,Fu,gT,nY,lx,ly,q⟩:=h;have big:=bgL;have hS:Paired (λa s=>cP H a s∧(∀x∈s,yg (10^40) x)∧s.length≤10) [l,r] [xs,ys]:= .cons ⟨hxs,gT,lx⟩ (.cons ⟨Fu,nY,ly⟩ .nil);refine⟨_,(ai (az (i:=2) pX.nd rfl 0e6 (b7 ak)) (ai (bU PassesOwn.never rfl (cE (b7 (ag 2e1 (ag (pv 1) ak)))) (aB (i:=3) pX.nd rfl 0e6) (ai (az (i:=4) pX.nd rfl 0e6 (b7 ak)) (ai (bU PassesOwn.never rfl (cE (pv 3)) (ia rfl (a6 (aB (i:=5) pX.nd rfl 0e6) (a6 (aB (i:=6) pX.nd rfl 0e6) dY))) (ao (a9 (jg PySem.F.plainAttrs_list PySem.F.slot_list_append PySem.F.type_list_append dB (pv 4) (ag (bQ bP (b7 (ag (ay bj (ay bj (bq jx rfl T.IP BE (ag (pv 5) ak)) bh) (bQ jB (pv 6) aq 2e7)) (ag (bQ jB (pv 6) aq 2e7) ak))) (bq o6 rfl T.zU rV (ag (jw dk (pv 5) aq (aO _)) ak)) 2e7) ak))))) (ao (a9 (jg PySem.F.plainAttrs_list PySem.F.slot_list_append PySem.F.type_list_append dB (pv 2) (ag (jg PySem.F.plainAttrs_str PySem.F.slot_str_join PySem.F.type_str_join qD bh (ag (pv 4) ak)) ak))))))) (ao (aA (jg PySem.F.plainAttrs_str PySem.F.slot_str_join PySem.F.type_str_join qD bh (ag (pv 2) ak)))))),?_⟩;refine⟨(by show 0≤sizeLine;decide),λD1 hD1=>?_⟩;have sD:=au.new (o:= .lst []) hD1;refine⟨_,rfl,_,rfl,2e2,λZ hZ=>?_⟩;have sZ:=au.new (o:= .lst [.ref l, .ref r]) hZ;have Mc:(upd (upd H D1 (.lst [])) Z (.lst [.ref l, .ref r])) D1=some (.lst []):=sZ _ _ aa;have hZ2:(upd (upd H D1 (.lst [])) Z (.lst [.ref l, .ref r])) Z=some (.lst [.ref l, .ref r]):=aa;have s2:=sD.trans sZ;have nZD:Z≠D1:=λz=>by rw[z,aa] at hZ;cases hZ
  have hZH:H Z=none:=none_back sD hZ;generalize upd (upd H D1 (.lst [])) Z (.lst [.ref l, .ref r])=H2 at Mc hZ2 s2 ⊢;refine⟨Z,rfl,⟨_,bM.of hZ2⟩,dP (K:=K) (a:=Z) (xs:=[l,r].map V.ref) (λi σ H'=>∃v3 v4 v5 v6:Option V,σ=[some (.ref l),some (.ref r),some (.ref D1),v3,v4,v5,v6]∧H' D1=some (.lst ((([xs,ys]:List (List Tm)).take i).map λs=>V.str (wg s)))∧H' Z=some (.lst [.ref l, .ref r])∧au H H') ?_ (λi σ H' _ ⟨_,_,_,_,_,_,z,_⟩=>bM.of z) ?_ ?_⟩
  ·exact⟨none,none,none,none,rfl,Mc,hZ2,s2⟩
  ·rintro i v σ H' hi ⟨v3,v4,v5,v6,rfl,DN,hZ',e⟩;rw[getElem?_map] at hi;obtain⟨a,ha,rfl⟩:=gMp hi;obtain⟨sd,hsd,⟨ts,hl,hP⟩,aM,NK⟩:=bG hS ha;have gX:=Paired.length hP;have zA:i<2:=(List.getElem?_eq_some_iff.mp hsd).1;refine⟨(by show 0≤sizeLine;decide),λD2 OC=>?_⟩;have sE:=au.new (o:= .lst []) OC;have nD12:D1≠D2:=af DN OC;have nZ2:Z≠D2:=af hZ' OC;have hD2H:H D2=none:=none_back e OC;dsimp only [cg];refine⟨_,rfl,a,rfl,⟨_,bM.of (sE _ _ (e _ _ hl))⟩,dP (K:=K) (a:=a) (xs:=ts.map V.ref) (λj σ H3=>∃w5 w6:Option V,σ=[some (.ref l),some (.ref r),some (.ref D1),some (.ref a),some (.ref D2),w5,w6]∧H3 D2=some (.lst ((sd.take j).map λx=>V.str (tI x)))∧H3 D1=some (.lst ((([xs,ys]:List (List Tm)).take i).map λs=>V.str (wg s)))∧H3 Z=some (.lst [.ref l, .ref r])∧au H H3) ?_ (λj σ H3 _ ⟨_,_,_,_,_,_,z⟩=>bM.of (z _ _ hl)) ?_ ?_⟩
   ·exact⟨v5,v6,rfl,aa,sE _ _ DN,sE _ _ hZ',e.trans sE⟩
   ·rintro j x σ H3 hj ⟨w5,w6,rfl,h2,h1,hz,e3⟩;obtain⟨t,y,rfl,hy,fm,ht,d,hf,hd⟩:=Ai (H:=H) hP hj;have gT:=aM y (mem_of_getElem? hy);have ez:=gT.2.2.2.1;have hjl:j<sd.length:=(List.getElem?_eq_some_iff.mp hy).1;have hzl:((sd.take j).map λx=>V.str (tI x)).length<sizeLine:=by rw[length_map,length_take];omega
    have l1:(" " :Str).length=1:=by decide+kernel
    have zi:=DQ (n:=y.1) (by have:=gT.1;omega) (by have:=gT.2.1;omega);refine⟨t,_,rfl,km.of (e3 _ _ ht),rfl,_,_,rfl,_,_,rfl,rfl,?_⟩;refine⟨_,rfl, .inl ⟨rfl,_,bM.of h2⟩,_,rfl,y.1,rfl,NH (by have:=gT.1;omega) (by have:=gT.2.1;omega),_,_,rfl,rfl,?_,_,rfl,fm,_,_,V.str ⟨(fL y.2).toArray⟩,rfl,rfl,km.of (e3 _ _ hf),rfl,_,_,rfl,rfl,?_,_,rfl,fm,_,_,V.str ⟨(fL y.2).toArray⟩,rfl,rfl,km.of (e3 _ _ hf),rfl,2e2,λY hY=>⟨_,rfl,rfl, .inr ⟨_,rfl,Y,_,_,V.str (tI y),rfl,rfl,bM.of aa,tm_at y,?_⟩⟩⟩
    ·rw[l1];exact le_trans (Nat.add_le_add_right zi 1) 0e4
    ·rw[bg,l1,a0];exact le_trans (Nat.add_le_add (Nat.add_le_add_right zi 1) ez) 0e4
    have sY:=au.new (o:= .lst [V.str ((toString y.1 :Str)++" " ++⟨(fL y.2).toArray⟩),V.str ⟨(fL y.2).toArray⟩]) hY;refine⟨D2,_,_,rfl,rfl,sY _ _ h2,hzl,_,_,rfl,?_,?_,?_,λb o z=>?_⟩
    ·rw[aa,take_snoc hy,map_append];rfl
    ·rw[ah nD12];exact sY _ _ h1
    ·rw[ah nZ2];exact sY _ _ hz
    ·rw[ah (af z hD2H)];exact sY _ _ (e3 _ _ z)
   ·rintro σ H3 ⟨w5,w6,rfl,h2,h1,hz,e3⟩;rw[length_map,gX,take_length] at h2;have l3:(" + " :Str).length=3:=by decide+kernel
    have z:=Dz (ys:=sd.map tI) (b:=100) λy hy=>by
     obtain⟨x,hx,rfl⟩:=mem_map.mp hy;exact DR (Int.le_refl _) (aM x hx)
    refine⟨_,rfl, .inl ⟨rfl,_,bM.of h1⟩,rfl,_,rfl," + ",D2,sd.map tI,rfl,rfl,bM.of (by rw[h2,map_map];rfl),?_,?_⟩
    ·rw[length_map] at z ⊢;rw[l3];omega
    refine⟨D1,_,_,rfl,rfl,h1,by rw[length_map,length_take];show min i 2<sizeLine;omega,_,_,_,_,rfl,?_,?_,λb o z=>?_⟩
    ·rw[aa,take_snoc hsd,map_append];rfl
    ·rw[ah nZD];exact hz
    ·rw[ah (af z hD1)];exact e3 _ _ z
  ·rintro σ H' ⟨v3,v4,v5,v6,rfl,DN,hZ',e⟩;have hx:=wj gT lx;have hy:=wj nY ly;have l4:(" -> " :Str).length=4:=by decide+kernel
   refine⟨rfl,_,rfl," -> ",D1,[wg xs,wg ys],rfl,rfl,bM.of DN,?_,q _ e⟩;show (wg xs).length+((wg ys).length+0)+2*(" -> " :Str).length≤16777216;rw[l4];omega
noncomputable def mi(am:0e2)(xs ys:List Tm):Nat→List (Key×V)
 |0=>am
 |t+1=>fO 1 (fO (-1) (mi am xs ys t) (aV xs) (aV xs)) (aV ys) (aV ys)
theorem AM(xs ys:List Tm)(h:aU am):∀t,aU (mi am xs ys t)
 |0=>h
 |t+1=>cS _ _ _ _ (cS _ _ _ _ (AM xs ys h t))
theorem lV:∀{l:0e2},gI th tk l=none→∀q∈l,aE tk q.1≤aE th q.1
 | [],_,q,hq=>by cases hq
 |p::r,h,q,hq=>by
  rw[iF] at h;split at h
  ·cases h
  ·rcases mem_cons.mp hq with rfl|hq
   ·omega
   ·exact lV h q hq
def aU.j5(h:aU kvs)(hm:k∈kvs.map 1e8):bK kvs k=some (.int (aE kvs k)):=by
 obtain⟨⟨k',v⟩,hp,e⟩:=mem_map.mp hm;have e:k'=k:=e;subst e;exact h.d5 hp
def Eu(x:Tm):tI x=⟨(ix x).toArray⟩:=by
 unfold tI ix zx;by_cases h:x.1=1
 ·rw[if_pos h,if_pos h,h,pA];rfl
 ·have e:(toString x.1 :Str)=⟨(aK x.1).toArray⟩:=by
   rw[←cR];unfold dM;rw[if_neg h]
  rw[if_neg h,if_neg h,e,e32,show (⟨#[32]⟩:Str)=⟨[32].toArray⟩ from rfl,bA,bA,append_assoc]
theorem Ew:∀xs:List Tm,Str.join " + " (xs.map tI)=⟨(tQ xs).toArray⟩
 | []=>rfl
 | [x]=>by
   show tI x=_;rw[Eu];show _=(⟨(ix x++[]).toArray⟩:Str);rw[append_nil]
 |x::y::r=>by
  have ih:=Ew (y::r);show tI x++" + " ++Str.join " + " ((y::r).map tI)=_;have ej:(" + " :Str)=⟨[32,43,32].toArray⟩:=by decide+kernel
  rw[ih,Eu,ej,bA,bA];congr 2;show ix x++[32,43,32]++(ix y++iy r)=ix x++(([32,43,32]++ix y)++iy r);simp only [append_assoc]
def AN(xs:List Tm):wg xs=⟨(tQ xs).toArray⟩:=by
 unfold wg;have e:=PyProof.Rows.join_closes (sep:=" + ") (sep':=" + ") (ys:=xs.map tI) rfl;rw[show Txt.join " + " (xs.map tI)=Str.join " + " (xs.map tI) by simpa using e];exact Ew xs
def AO(xs ys:List Tm):chS xs ys=⟨(tQ xs++qt++tQ ys).toArray⟩:=by
 unfold chS;have ea:(" -> " :Str)=⟨qt.toArray⟩:=by decide+kernel
 rw[AN,AN,ea,bA,bA]
def Ex(h:dJ x):(ix x).length≤46:=by
 obtain⟨h1,h2,_,h3,_⟩:=h;have:=P8 h1 h2
 have:(zx x.1).length≤1:=by
  unfold zx;split
  ·exact zero_le _
  ·exact le_refl _
 unfold ix;rw[length_append,length_append];omega
def OD{xs:List Tm}(h:∀x∈xs,dJ x):(iy xs).length≤49*xs.length:=by
 induction xs with
 |nil=>exact zero_le _
 |cons x r ih=>
  have h1:=Ex (h x 1e6);have h2:=ih λy hy=>h y (mem_cons_of_mem _ hy);have h3:=yn x;show (JL x++iy r).length≤_;rw[length_append,length_cons];omega
def Ey{xs:List Tm}(h:∀x∈xs,dJ x)(hn:xs≠[]):(tQ xs).length+3≤49*xs.length:=by
 cases xs with
 |nil=>exact absurd rfl hn
 |cons x r=>
  have h1:=Ex (h x 1e6);have h2:=OD λy hy=>h y (mem_cons_of_mem _ hy);show (ix x++iy r).length+3≤_;rw[length_append,length_cons];omega
def OE{xs ys:List Tm}(hx:∀x∈xs,dJ x)(hy:∀x∈ys,dJ x)(nx:xs≠[])(ny:ys≠[])(h:xs.length+ys.length≤8):(chS xs ys).length≤400:=by
 have h1:=Ey hx nx;have h2:=Ey hy ny;have h3:qt.length=4:=rfl;rw[AO,a0,length_append,length_append];omega
def KJ(a b:Str):Txt.join " -> " [a,b]=a++" -> " ++b:=by
 have e:=PyProof.Rows.join_closes (sep:=" -> ") (sep':=" -> ") (ys:=[a,b]) rfl;rw[show Txt.join " -> " [a,b]=Str.join " -> " [a,b] by simpa using e];rfl
theorem AQ:∀(d:Nat) (m:Int) (t:Tr),oK d t→1≤m→∀p∈bb d m t,1≤p.2
 |d,m, .one k n,h,hm,p,hp=>by
  have e:bb d m (.one k n)=[(3e7,n*m)]:=by cases d<;>rfl
  rw[e] at hp;have h:ki k∧1≤n∧n≤999:=by cases d<;>exact h
  have ep:p=(3e7,n*m):=by simpa using hp
  rw[ep];have:=mul_le_mul h.2.1 hm 0e4 0e5;simpa using this
 |0,_, .gr _ _,h,_,_,_=>h.elim
 |d+1,m, .gr ts n,h,hm,p,hp=>by
  obtain⟨t,ht,hp⟩:=mem_flatMap.mp hp;obtain⟨_,h1,n1,n2⟩:=h;have:=mul_le_mul n1 hm 0e4 0e5;exact AQ d (n*m) t (h1 t ht) (by simpa using this) p hp
theorem Ez:∀(d:Nat) (m:Int) (t:Tr),oK d t→bb d m t≠[]
 |d,m, .one k n,h=>by
  have e:bb d m (.one k n)=[(3e7,n*m)]:=by cases d<;>rfl
  rw[e];simp
 |0,_, .gr _ _,h=>h.elim
 |d+1,m, .gr ts n,h=>by
  obtain⟨h0,h1,_⟩:=h;intro z
  cases ts with
  |nil=>exact h0 rfl
  |cons t r=>
   have z:bb d (n*m) t++r.flatMap (bb d (n*m))=[]:=z;exact Ez d (n*m) t (h1 t 1e6) (List.append_eq_nil_iff.mp z).1
def Pos(kvs:0e2):Prop:=∀q∈kvs,∃i,q.2=V.int i∧1≤i
def Pos.nonneg(h:Pos kvs)(k:Key):0≤aE kvs k:=by
 cases e:bK kvs k with
 |none=>rw[dv e];exact Int.le_refl _
 |some v=>
  obtain⟨i,ei,hi⟩:=h _ (fg e);have ei:v=V.int i:=ei;rw[ei] at e;rw[dw e];omega
def Pos.one(h:Pos kvs)(hI:aU kvs)(hk:k∈kvs.map 1e8):1≤aE kvs k:=by
 have e:=hI.j5 hk;obtain⟨i,ei,hi⟩:=h _ (fg e);have ei:V.int (aE kvs k)=V.int i:=ei;injection ei with ei;omega
theorem yH:∀(as:List (Str×Int)) (acc:0e2),Pos acc→(∀p∈as,1≤p.2)→Pos (aW 1 acc as)
 | [],_,h,_=>h
 |p::r,acc,h,hp=>by
  have h1:=hp p 1e6;refine yH r (bN acc (Sum.inr p.1) (p.2*1)) (λq hq=>?_) λq hq=>hp q (mem_cons_of_mem _ hq);rcases lR hq with hq|hq
  ·exact h q hq
  ·rw[hq];refine⟨_,rfl,?_⟩;have:=h.nonneg (Sum.inr p.1);omega
theorem EA(t:Int){j:Key}:∀(as:List (Str×Int)) (acc:0e2),j∈acc.map 1e8→j∈(aW t acc as).map 1e8
 | [],_,h=>h
 |p::r,acc,h=>EA t r (bN acc (Sum.inr p.1) (p.2*t)) (iH h)
theorem CC(t:Int){p:Str×Int}:∀(as:List (Str×Int)) (acc:0e2),p∈as→(Sum.inr p.1 :Key)∈(aW t acc as).map 1e8
 | [],_,h=>by cases h
 |q::r,acc,h=>by
  rcases mem_cons.mp h with rfl|h
  ·exact EA t r _ (oj _ _ _)
  ·exact CC t r _ h
def KL(h:bJ x):Pos (cW 1 x.1):=yH _ _ (λq hq=>by cases hq) λp hp=>by
 obtain⟨y,hy,hp⟩:=mem_flatMap.mp hp;have nY:=jY h.1 y hy;obtain⟨t,ht,hp⟩:=mem_flatMap.mp hp;exact AQ 1 y.1 t (nY.2.1 t ht) nY.2.2.1 p hp
def Tf(h:bJ x)(k:Key):aE (cW 1 x.1) k≤7*1000000000:=by
 have hb:=qQ (t:=1) (b:=1000000000) 0e4 (x.1.flatMap (b6 1)) [] 0 (Int.le_refl _) (λp hp=>by cases hp) λp hp=>by
  obtain⟨y,hy,hp⟩:=mem_flatMap.mp hp;obtain⟨_,h1,n1,n2⟩:=jY h.1 y hy;obtain⟨t,ht,hp⟩:=mem_flatMap.mp hp;obtain⟨q1,q2⟩:=n4 1 y.1 t (h1 t ht) 0e5 p hp;rw[mul_one];refine⟨q1,?_⟩
  have:(999 :Int) ^1*y.1≤999*999:=by
   rw[show (999 :Int) ^1=999 from rfl];exact Int.mul_le_mul_of_nonneg_left n2 0e4
  omega
 have e7:((x.1.flatMap (b6 1)).length:Int)*1000000000≤7*1000000000:=Int.mul_le_mul_of_nonneg_right (by have:=h.2.2;omega) 0e4
 cases e:bK (cW 1 x.1) k with
 |none=>rw[dv e];decide
 |some v=>
  obtain⟨i,ei,b0,b1⟩:=hb _ (fg e);have ei:v=V.int i:=ei;rw[ei] at e;rw[dw e];omega
def Qc(h:bJ x)(hx:x.1≠[]):cW 1 x.1≠[]:=by
 intro z
 obtain⟨p,hp⟩:∃p,p∈x.1.flatMap (b6 1):=by
  cases e:x.1 with
  |nil=>exact absurd e hx
  |cons y r=>
   have nY:=jY h.1 y (by rw[e];exact mem_cons_self ..)
   cases e2:y.2 with
   |nil=>exact absurd e2 nY.1
   |cons t r2=>
    have hn:=Ez 1 y.1 t (nY.2.1 t (by rw[e2];exact mem_cons_self ..))
    cases e3:bb 1 y.1 t with
    |nil=>exact absurd e3 hn
    |cons p r3=>
     refine⟨p,mem_flatMap.mpr ⟨y,mem_cons_self ..,?_⟩⟩;unfold b6;rw[e2];exact mem_flatMap.mpr ⟨t,mem_cons_self ..,by rw[e3];exact mem_cons_self ..⟩
 have:=CC 1 _ [] hp;rw[show aW 1 [] (x.1.flatMap (b6 1))=[] from z] at this;cases this
noncomputable def Me(s:Str):Fm:=([(1,[.one s.cps.toList 1])],0)
def GL:Fm:=([], -1)
def AR(s:Str):(⟨(fL (Me s)).toArray⟩:Str)=s:=by
 unfold Me;rw[Cs]
def KN(s:Str):cW 1 (Me s).1=[(Sum.inr s, .int 1)]:=by
 show bN [] (Sum.inr (⟨s.cps.toList.toArray⟩:Str)) (1*1*1)=_;rw[Array.toArray_toList];rfl
def Tg(h:ki s.cps.toList):bJ (Me s):=yA h
def Xx(s:Str)(k:Key):aE (g9 (Me s)) k=if k=Sum.inr ("+" :Str) then 0 else if k=Sum.inr s then 1 else 0:=by
 unfold g9;rw[KN,dZ,ri];rfl
def Xy(k:Key):aE (g9 GL) k=if k=Sum.inr ("+" :Str) then -1 else 0:=by
 show aE (putK [] (Sum.inr ("+" :Str)) (.int (-1))) k=_;rw[dZ];rfl
def gw(a b:List Tm)(k:Key):sumZ (a++b) k=sumZ a k+sumZ b k:=by
 unfold sumZ;rw[map_append,sum_append]
noncomputable def OF(m:Int)(w:Fm)(s:Str):Tm:=(m*aE (cW 1 w.1) (Sum.inr s),Me s)
theorem wD(m:Int)(w:Fm)(k:Key):∀{ms:3e8},ms.Nodup→sumZ (ms.map (OF m w)) k=if k=Sum.inr ("+" :Str) then 0 else if k∈ms.map Sum.inr then m*aE (cW 1 w.1) k else 0
 | [],_=>by
   rw[map_nil,dA];split
   ·rfl
   ·rw[if_neg 2e9]
 |s::r,hn=>by
  rw[nodup_cons] at hn;rw[map_cons,cV,wD m w k hn.2];show m*aE (cW 1 w.1) (Sum.inr s)*aE (g9 (Me s)) k+_=_;rw[Xx];by_cases hp:k=Sum.inr ("+" :Str)
  ·rw[if_pos hp,if_pos hp,if_pos hp];simp
  rw[if_neg hp,if_neg hp,if_neg hp];by_cases hk:k=Sum.inr s
  ·have hnot:¬k∈r.map (Sum.inr:Str→Key):=λz=>by
    obtain⟨s',vt,e⟩:=mem_map.mp z;rw[hk] at e;injection e with e;rw[e] at vt;exact hn.1 vt
   rw[if_pos hk,if_neg hnot,if_pos (by rw[hk];exact mem_cons_self ..),hk];omega
  ·rw[if_neg hk];by_cases hr:k∈r.map (Sum.inr:Str→Key)
   ·rw[if_pos hr,if_pos (by rw[map_cons];exact mem_cons_of_mem _ hr)];omega
   ·rw[if_neg hr,if_neg (by rw[map_cons];intro z;rcases mem_cons.mp z with z|z;exact hk z;exact hr z)];omega
def Xz(m:Int)(w:Fm)(k:Key):sumZ [(m,w)] k=m*(if k=Sum.inr ("+" :Str) then w.2 else aE (cW 1 w.1) k):=by
 rw[cV,dA,add_zero];unfold g9;rw[dZ]
def XA(m:Int){w:Fm}(h:bJ w){ms:3e8}(hn:ms.Nodup)(hm:∀k,k∈(cW 1 w.1).map 1e8↔k∈ms.map (Sum.inr:Str→Key))(k:Key):sumZ [(m,w)] k=sumZ (ms.map (OF m w)) k+if k=Sum.inr ("+" :Str) then m*w.2 else 0:=by
 rw[Xz,wD m w k hn];by_cases hp:k=Sum.inr ("+" :Str)
 ·rw[if_pos hp,if_pos hp,if_pos hp];omega
 rw[if_neg hp,if_neg hp,if_neg hp,add_zero];by_cases hk:k∈ms.map (Sum.inr:Str→Key)
 ·rw[if_pos hk]
 ·rw[if_neg hk,lJ λz=>hk ((hm k).mp z),mul_zero]
def Mf(ws:List Fm)(z:Tm):Prop:=yg 100000000000 z∧Told ws (⟨(fL z.2).toArray⟩:Str)
def uv(ws:List Fm)(n:Nat)(xs ys:List Tm):Prop:=xs≠[]∧ys≠[]∧(∀x∈xs,Mf ws x)∧(∀y∈ys,Mf ws y)∧xs.length+ys.length≤n∧∀k,sumZ xs k=sumZ ys k
def uv.swap{ws:List Fm}{n:Nat}(h:uv ws n xs ys):uv ws n ys xs:=by
 obtain⟨h1,h2,h3,h4,h5,h6⟩:=h;exact⟨h2,h1,h4,h3,by omega,λk=>(h6 k).symm⟩
def EC(ws:List Fm){n:Int}(h1:1≤n)(h2:n≤10000):Mf ws (n,GL):=⟨⟨h1,by show n≤100000000000;omega,Kd⟩, .inl Oa⟩
def chg0{ws:List Fm}{w:Fm}(hw:w∈ws)(ok:bJ w)(h3:(cW 1 w.1).length≤3){m:Int}(m1:1≤m)(m3:m≤3){ks ms:3e8}(hk:(cW 1 w.1).map 1e8=ks.map Sum.inr)(pm:ms.Perm ks):
  uv ws 5 ([(m,w)]++if 0<w.2 then [(m*w.2,GL)] else []) (ms.map (OF m w)++if w.2<0 then [(0 - m*w.2,GL)] else []):=by
 have hc:=D5 ok
 have Qd:ms.Nodup:=by
  refine pm.nodup_iff.mpr ?_;have:=Kf w;rw[hk] at this;exact List.Pairwise.of_map (S:=(·≠·)) Sum.inr (λa b h e=>h (by rw[e])) this
 have XB:∀k,k∈(cW 1 w.1).map 1e8↔k∈ms.map (Sum.inr:Str→Key):=λk=>by rw[hk];exact(pm.map _).mem_iff.symm
 have Sy:ms.length≤3:=by
  have:=congrArg List.length hk;rw[length_map,length_map] at this;rw[pm.length_eq];omega
 have aM:∀s∈ms,Mf ws (OF m w s):=λs hs=>by
  have mP:=(XB (Sum.inr s)).mpr (mem_map_of_mem hs);have p1:=(KL ok).one (pN _) mP;have p2:=Tf ok (Sum.inr s);obtain⟨q,hq,e⟩:=mem_map.mp mP;obtain⟨k,hkk,e'⟩:=k8 ok q hq;rw[e] at e';injection e' with e';refine⟨⟨?_,?_,Tg (by rw[e'];exact hkk)⟩,?_⟩
  ·show 1≤m*aE (cW 1 w.1) (Sum.inr s);obtain rfl|rfl|rfl:m=1∨m=2∨m=3:=by omega
   all_goals omega
  ·show m*aE (cW 1 w.1) (Sum.inr s)≤100000000000;obtain rfl|rfl|rfl:m=1∨m=2∨m=3:=by omega
   all_goals omega
  ·show Told ws (⟨(fL (Me s)).toArray⟩:Str);rw[AR];exact .inr (.inr ⟨w,hw,mP⟩)
 have hwo:Mf ws (m,w):=⟨⟨m1,by show m≤100000000000;omega,ok⟩, .inr (.inl ⟨w,hw,rfl⟩)⟩;refine⟨by simp,?_,λx hx=>?_,λy hy=>?_,?_,λk=>?_⟩
 ·by_cases z:w.1=[]
  ·have e:w.2= -1:=by
    have:=ok.1;rw[z] at this;exact this
   rw[if_pos 0e5];simp
  ·intro z2;have z3:=(List.append_eq_nil_iff.mp z2).1;have z4:ms=[]:=by simpa using z3
   have:=Qc ok z
   have z5:(cW 1 w.1).length=0:=by
    have:=congrArg List.length hk;rw[length_map,length_map,←pm.length_eq,z4] at this;exact this
   exact this (List.length_eq_zero_iff.mp z5)
 ·rcases mem_append.mp hx with z|z
  ·rw[mem_singleton.mp z];exact hwo
  ·split at z
   ·rw[mem_singleton.mp z];obtain rfl|rfl|rfl:m=1∨m=2∨m=3:=by omega
    all_goals exact EC ws 0e5 0e5
   ·cases z
 ·rcases mem_append.mp hy with z|z
  ·obtain⟨s,hs,rfl⟩:=mem_map.mp z;exact aM s hs
  ·split at z
   ·rw[mem_singleton.mp z];obtain rfl|rfl|rfl:m=1∨m=2∨m=3:=by omega
    all_goals exact EC ws 0e5 0e5
   ·cases z
 ·rw[length_append,length_append,length_map]
  have a1:(if 0<w.2 then [(m*w.2,GL)] else []:List Tm).length+(if w.2<0 then [(0 - m*w.2,GL)] else []:List Tm).length≤1:=by
   by_cases c:0<w.2
   ·rw[if_pos c,if_neg 0e5];exact le_refl _
   ·rw[if_neg c];split
    ·exact le_refl _
    ·exact zero_le _
  show 1+_+_≤5;omega
 ·rw[gw,gw,XA m ok Qd XB k]
  have se:∀n:Int,sumZ [(n,GL)] k=n*if k=Sum.inr ("+" :Str) then -1 else 0:=λn=>by
   rw[cV,dA,add_zero,Xy]
  by_cases c:0<w.2
  ·rw[if_pos c,if_neg (by omega:¬w.2<0),se,dA];split<;>omega
  ·rw[if_neg c,dA];by_cases d:w.2<0
   ·rw[if_pos d,se];split<;>omega
   ·rw[if_neg d,dA];have:w.2=0:=by omega
    rw[this];split<;>omega
def uv.a{ws:List Fm}{n:Nat}(h:uv ws n xs ys)(hz:Mf ws z):uv ws (n+2) ([z]++xs) (ys++[z]):=by
 obtain⟨h1,h2,h3,h4,h5,h6⟩:=h;refine⟨by simp,by simp,λx hx=>?_,λx hx=>?_,by rw[length_append,length_append];show 1+_+(_+1)≤_;omega,λk=>by rw[gw,gw,h6 k];omega⟩
 ·rcases mem_append.mp hx with y|y
  ·rw[mem_singleton.mp y];exact hz
  ·exact h3 x y
 ·rcases mem_append.mp hx with y|y
  ·exact h4 x y
  ·rw[mem_singleton.mp y];exact hz
def uv.b{ws:List Fm}{n:Nat}(h:uv ws n xs ys){m:Int}(ho:o∈ws)(ok:bJ o)(m1:1≤m)(m4:m≤4):uv ws (n+3) (xs++[(m,o),(1,o)]) ([(m+1,o)]++ys):=by
 obtain⟨h1,h2,h3,h4,h5,h6⟩:=h;have hz:∀{i:Int},1≤i→i≤5→Mf ws (i,o):=fun {i} i1 i2=>⟨⟨i1,by show i≤100000000000;omega,ok⟩, .inr (.inl ⟨o,ho,rfl⟩)⟩;refine⟨by simp,by simp,λx hx=>?_,λx hx=>?_,by rw[length_append,length_append];show _+2+(1+_)≤_;omega,λk=>?_⟩
 ·rcases mem_append.mp hx with y|y
  ·exact h3 x y
  ·rcases mem_cons.mp y with y|y
   ·rw[y];exact hz 0e5 0e5
   ·rw[mem_singleton.mp y];exact hz 0e5 0e5
 ·rcases mem_append.mp hx with y|y
  ·rw[mem_singleton.mp y];exact hz 0e5 0e5
  ·exact h4 x y
 ·rw[gw,gw,h6 k,cV,cV,dA,cV,dA];show _+(m*aE (g9 o) k+(1*aE (g9 o) k+0))=((m+1)*aE (g9 o) k+0)+_;rw[add_mul];omega
def uv.mono{ws:List Fm}{n m:Nat}(h:uv ws n xs ys)(e:n≤m):uv ws m xs ys:=by
 obtain⟨h1,h2,h3,h4,h5,h6⟩:=h;exact⟨h1,h2,h3,h4,by omega,h6⟩
variable {uC uP uI uD uL uT eM eN eO uG uS:Tok}{Ch HE Sh St:3e5}
inductive CD(vs:4e5)(H:Hp)(Q:VK)(E:XK):Prop
 |mk (c:Int) (wl:3e5) (ws:List Fm) (dH:vs=[.int c, .ref wl]) (dI:iX H wl ws) (dN:(∀w∈ws,bJ w)) (eK:(∀w∈ws,(cW 1 w.1).length≤3)) (gj:ws.length=3) (i6:∀(t l r:3e5) (xs ys:List Tm) H',H' t=some (.tup [.ref l, .ref r])→cP H' l xs→cP H' r ys→uv ws 8 xs ys→au H H'→Q (.ref t) H')
def wF:Sp:=CD
def cu:av ["_law_cell","_law_world_here","_law_text_here","_law_counts","_law_charge","_law_many","_law_lefts","_law_rights","_law_other","_law_more"] ["_law_cell","_law_world_here"] (aj kI):=cX
def AS{wl:3e5}{ws:List Fm}(hP:Paired (Ah H) ts ws)(h3:ws.length=3)(c:Int):∃(t:3e5) (x:Fm),uH (ts.map V.ref) (c%3)=some (.ref t)∧x∈ws∧Ah H t x:=by
 have gX:=Paired.length hP;have c0:0≤c%3:=emod_nonneg _ 0e4;have c1:c%3<3:=emod_lt_of_pos _ 0e4;have hi:(c%3).toNat<ts.length:=by omega
 obtain⟨t,ht⟩:∃t,ts[(c%3).toNat]? =some t:=⟨_,getElem?_eq_getElem hi⟩;obtain⟨x,hx,hF⟩:=bG hP ht;refine⟨t,x,?_,mem_of_getElem? hx,hF⟩;have:=lA (xs:=ts.map V.ref) (j:=(c%3).toNat) (v:=V.ref t) (by rw[getElem?_map,ht];rfl)
 rwa [Int.toNat_of_nonneg c0] at this
def Qe{n:Int}(hd:H d=none)(hf:(upd H d (.dK [])) f=none)(hu:(upd (upd H d (.dK [])) f (.tup [.str "e^-", .ref d, .int (-1)])) u=none):d8 (upd (upd (upd H d (.dK [])) f (.tup [.str "e^-", .ref d, .int (-1)])) u (.tup [.int n, .ref f])) u (n,GL)∧au H (upd (upd (upd H d (.dK [])) f (.tup [.str "e^-", .ref d, .int (-1)])) u (.tup [.int n, .ref f])):=by
 have s1:=au.new (o:= .dK []) hd;have s2:=au.new (o:= .tup [.str "e^-", .ref d, .int (-1)]) hf;have s3:=au.new (o:= .tup [.int n, .ref f]) hu;refine⟨⟨f,aa,d,?_,s3 _ _ (s2 _ _ aa)⟩,(s1.trans s2).trans s3⟩;show _=some (HO.tup [.str ⟨(fL ([], -1)).toArray⟩, .ref d, .int (-1)]);rw[Oa];exact s3 _ _ aa
def CF(D:Def K mg "_law_change" "_law_change" kI ["_law_cell","_law_world_here"])(T:JR K mg C R G Pc Fo Ch uK uN uB uE uM uC uP uI uD uL uT eM eN eO):a5 P w K mg base 1 "_law_change" ["_law_cell","_law_world_here"] wF:=by
 refine D.cN cu 0e7 0e1
 ·obtain⟨c,wl,ws,rfl,_⟩:=h;rfl
 ·obtain⟨c,wl,ws,rfl,⟨ts,U1,hP⟩,aM,mM,h3,q⟩:=h;have hu:=cM hr;have big:=bgL
  refine⟨_,(ai (Hw (bQ bP (pv 1) (ay bw 2e1 aq) 2e7) (ia rfl (a6 (aB (i:=2) cu.nd rfl 0e6) (a6 (aB (i:=3) cu.nd rfl (Or.inr rfl)) (a6 (aB (i:=4) cu.nd rfl 0e6) dY))))) (ai (az (i:=5) cu.nd rfl (Or.inr rfl) (ay bZ aq (ay bw (ay bO 2e1 aq) aq))) (ai (az (i:=6) cu.nd rfl 0e6 (b7 (ag (cj (ag (pv 5) (ag (cj (ag (pv 2) (ag (pv 3) (ag (pv 4) ak)))) ak))) ak))) (ai (xo (i:=7) cu.nd rfl 0e6 (sc:=(aj kI)) (NX:=["_law_cell","_law_world_here","_law_text_here","_law_counts","_law_charge","_law_many","_law_lefts","_law_rights","_law_other","_law_more"]) (N:=["_law_kind_here","_law_many","_law_counts"]) (fr:=[none,some 5,some 3]) 0e8 rfl rfl rfl (cE (bS (mW rfl) rfl T.nZ pk (ag (pv 3) ak))) (λ_ _ _ _=>(aB (i:=0) (show (["_law_kind_here","_law_many","_law_counts"]:List Str).Nodup by decide+kernel) rfl 0e6 (Or.inr rfl))) (λ_ _ _ _=>gf) (λ_ _ _ _=>(cj (ag (ay fT (pv 1) (bX hu (pv 2) 2e1 2e7)) (ag (cj (ag 2e1 (ag (jA (ib 2e1 aq jz) rfl rfl 3e4 0e4) (ag aq ak)))) ak))))) (ai (bC (aL pZ (pv 4) aq (aO _)) (ao (a9 (jg PySem.F.plainAttrs_list PySem.F.slot_list_append PySem.F.type_list_append dB (pv 7) (ag (cj (ag (ay oZ aq (ay fT (pv 5) (pv 4))) (ag (cj (ag bh (ag dq (ag (kg gB aq) ak)))) ak))) ak))))
      aN) (ai (bC (aL mR (pv 4) aq (aO _)) (ao (a9 (jg PySem.F.plainAttrs_list PySem.F.slot_list_append PySem.F.type_list_append dB (pv 6) (ag (cj (ag (ay fT (pv 5) (pv 4)) (ag (cj (ag bh (ag dq (ag (kg gB aq) ak)))) ak))) ak))))
      aN) (ai (az (i:=8) cu.nd rfl 0e6 (bQ bP (pv 1) (ay bw (ay bO 2e1 aq) aq) 2e7)) (ai (az (i:=9) cu.nd rfl 0e6 (ay bZ aq (ay bw (ay bO 2e1 aq) aq))) (ai (bC (aL dk (ay bw (ay bO 2e1 aq) aq) aq (aO _)) (ai (az (i:=6) cu.nd rfl 0e6 (ay mw (b7 (ag (cj (ag (pv 9) (ag (pv 8) ak))) ak)) (pv 6))) (ao (az (i:=7) cu.nd rfl 0e6 (ay mw (pv 7) (b7 (ag (cj (ag (pv 9) (ag (pv 8) ak))) ak))))))
      aN) (ai (bC (aL dk (ay bw (ay bO 2e1 aq) aq) aq (aO _)) (ai (az (i:=6) cu.nd rfl 0e6 (ay mw (pv 6) (b7 (ag (cj (ag (pv 9) (ag (pv 8) ak))) (ag (cj (ag aq (ag (pv 8) ak))) ak))))) (ao (az (i:=7) cu.nd rfl 0e6 (ay mw (b7 (ag (cj (ag (ay bZ (pv 9) aq) (ag (pv 8) ak))) ak)) (pv 7)))))
      aN) (ai (bC (aL dk (ay bw (ay bO 2e1 aq) aq) aq (aO _)) (ao (aA (cj (ag (pv 7) (ag (pv 6) ak)))))
      aN) (ao (aA (cj (ag (pv 6) (ag (pv 7) ak)))))))))))))))),?_⟩
  obtain⟨t,x,qp,KG,cd,U4,hx2⟩:=AS (wl:=wl) hP h3 c;refine⟨_,rfl,_,rfl,_,_,rfl,rfl,(by show (0 :Int) <3;decide),wl,_,_,V.ref t,rfl,rfl,bM.of U1,qp,?_⟩;refine⟨t,_,rfl,km.of U4,rfl,_,_,rfl,_,_,rfl,_,_,rfl,rfl,?_⟩;refine⟨_,rfl,_,_,rfl,rfl,2e8,_,_,rfl,rfl,(by show (0 :Int) <3;decide),_,_,rfl,rfl,?_⟩;have m0:0≤c/3%3:=emod_nonneg _ 0e4;have m1:c/3%3<3:=emod_lt_of_pos _ 0e4;dsimp only [cg];obtain⟨m,em⟩:∃m,m=1+c/3%3:=2e4;rw[←em];have mm1:1≤m:=by omega
  have mm3:m≤3:=by omega
  clear em m0 m1;refine⟨_,rfl,_,rfl,_,rfl,_,rfl,(by show 3≤sizeLine;decide),λp hp=>⟨2e2,λq1 hq1=>⟨(by show 1≤sizeLine;decide),λL hL=>?_⟩⟩⟩;have s1:=au.new (o:= .tup [.str 1e7, .ref cd, .int x.2]) hp;have s2:=au.new (o:= .tup [.int m, .ref p]) hq1;have s3:=au.new (o:= .lst [.ref q1]) hL;have e3:=(s1.trans s2).trans s3;have nU:(upd (upd (upd H p (.tup [.str 1e7, .ref cd, .int x.2])) q1 (.tup [.int m, .ref p])) L (.lst [.ref q1])) L=some (.lst [.ref q1]):=aa;have Vj:d8 (upd (upd (upd H p (.tup [.str 1e7, .ref cd, .int x.2])) q1 (.tup [.int m, .ref p])) L (.lst [.ref q1])) q1 (m,x):=⟨p,s3 _ _ aa,cd,s3 _ _ (s2 _ _ aa),e3 _ _ hx2⟩;have hLH:H L=none:=none_back (s1.trans s2) hL;dsimp only [cg];generalize upd (upd (upd H p (.tup [.str 1e7, .ref cd, .int x.2])) q1 (.tup [.int m, .ref p])) L (.lst [.ref q1])=H3 at e3 nU Vj ⊢;have gT:=aM x KG;have Tc:=mM x KG;have oI:(((cW 1 x.1).map 1e8).filterMap Vc).map Sum.inr=(cW 1 x.1).map 1e8:=rf (D0 x.1);obtain⟨ks,eks⟩:∃ks,ks=((cW 1 x.1).map 1e8).filterMap Vc:=2e4;rw[←eks] at oI
  have l9:ks.length≤3:=by
   have:=congrArg List.length oI;rw[length_map,length_map] at this;omega
  refine⟨_,rfl,cd,cW 1 x.1,ks,rfl, .inl (e3 _ _ hx2),oI.symm,by omega,λl2 ms pm sm uo=>?_⟩;have s4:=au.new (o:= .lst (ms.map V.str)) uo;have Nt:(upd H3 l2 (.lst (ms.map V.str))) l2=some (.lst (ms.map V.str)):=aa;have e4:=e3.trans s4;have DK:=s4 _ _ nU;have hT4:=Vj.same s4;generalize upd H3 l2 (.lst (ms.map V.str))=H4 at e4 Nt DK hT4 ⊢;have Sy:ms.length≤3:=by rw[pm.length_eq];exact l9
  refine⟨l2,rfl,⟨_,bM.of Nt⟩,λR0 hR0=>pj (K:=K) (a:=l2) (L:=R0) (xs:=ms.map V.str) H4 (fun σ=>∃v:Option V,σ=[v,some (.int m),some (.ref cd)]) (λi ys H'=>∃us:List Addr,ys=us.map V.ref∧us.length=i∧Paired (λu z=>u≠R0∧∃f d,f≠R0∧d≠R0∧H' u=some (.tup [.int z.1, .ref f])∧H' f=some (.tup [.str ⟨(fL z.2).toArray⟩, .ref d, .int z.2.2])∧H' d=some (.dK (cW 1 z.2.1))) us ((ms.take i).map (OF m x))) (bM.of Nt) ?_ hR0 ⟨none,rfl⟩ (au.new hR0) aa ⟨[],rfl,rfl, .nil⟩ (by rw[length_map];omega) ?_ ?_ ?_⟩
  ·rintro i ys Ha Hb hb ⟨us,h1,h2,h4⟩;exact⟨us,h1,h2,aJ (λu z ⟨n1,f,d,n2,n3,z1,z2,z3⟩=>⟨n1,f,d,n2,n3,hb _ _ z1 n1,hb _ _ z2 n2,hb _ _ z3 n3⟩) h4⟩
  ·rintro i ys H' ⟨us,rfl,h2,_⟩;rw[length_map,h2];exact le_refl _
  ·rintro i v σ H5 ys hi ⟨v0,rfl⟩ e5 Jl ⟨us,rfl,Vf,XC⟩ N M hN;rw[getElem?_map] at hi;obtain⟨sk,hsk,rfl⟩:=gMp hi
   have mP:(Sum.inr sk:Key)∈(cW 1 x.1).map 1e8:=by
    rw[←oI];exact mem_map_of_mem (pm.mem_iff.mp (mem_of_getElem? hsk))
   have hv:=(pN x.1).j5 mP;have hcd5:H5 cd=some (.dK (cW 1 x.1)):=e5 _ _ (e4 _ _ hx2);refine⟨_,rfl,_,rfl,_,rfl,cd,V.int (aE (cW 1 x.1) (Sum.inr sk)),rfl, .inl ⟨_,Sum.inr sk, .inl hcd5,rfl,hv.symm⟩,_,_,rfl,rfl, .inl ⟨by omega,by omega⟩,?_⟩;refine⟨_,rfl,λd hd=>⟨_,rfl,aa,[(Sum.inr sk, .int 1)],rfl,(by show 1≤15;decide),(by show 3≤sizeLine;decide),λf' hf=>⟨2e2,λu XD=>?_⟩⟩⟩
   have t1:au H5 (upd (upd H5 d (.dK [])) d (.dK (bF [] [(Sum.inr sk,V.int 1)]))):=λb o z=>by
    rw[ah (af z hd),ah (af z hd)];exact z
   have t2:=au.new (o:= .tup [.str sk, .ref d, .int 0]) hf;have t3:=au.new (o:= .tup [.int (m*aE (cW 1 x.1) (Sum.inr sk)), .ref f']) XD;have e6:=(t1.trans t2).trans t3;have SY:=t3 _ _ (t2 _ _ (aa (H:=upd H5 d (.dK [])) (a:=d) (o:= .dK (bF [] [(Sum.inr sk,V.int 1)]))));have hf6:=t3 _ _ (aa (H:=upd (upd H5 d (.dK [])) d (.dK (bF [] [(Sum.inr sk,V.int 1)]))) (a:=f') (o:= .tup [.str sk, .ref d, .int 0]));have Ho:=e6 _ _ Jl;refine hN _ _ _ 2e4 (e5.trans e6) Ho ⟨us++[u],by rw[map_append];rfl,by rw[length_append,Vf];rfl,?_⟩;rw[take_snoc hsk,map_append];refine bT ⟨cI (aa (o:= .tup [.int (m*aE (cW 1 x.1) (Sum.inr sk)), .ref f'])) Ho 3e4,f',d,cI hf6 Ho 3e4,cI SY Ho 3e4,aa,?_,?_⟩ (aJ (λu z ⟨n1,f,d,n2,n3,z1,z2,z3⟩=>⟨n1,f,d,n2,n3,e6 _ _ z1,e6 _ _ z2,e6 _ _ z3⟩) XC)
   ·show _=some (HO.tup [.str ⟨(fL (Me sk)).toArray⟩, .ref d, .int 0]);rw[AR];exact hf6
   ·show _=some (HO.dK (cW 1 (Me sk).1));rw[KN];exact SY
  ·rintro H5 ys e5 Jl ⟨us,rfl,Vf,XC⟩;rw[length_map,take_length] at XC;have XE:Paired (d8 H5) us (ms.map (OF m x)):=aJ (λu z ⟨n1,f,d,n2,n3,z1,z2,z3⟩=>⟨f,z1,d,z2,z3⟩) XC;clear XC;have hR0H:H R0=none:=none_back e4 hR0;have nLR:L≠R0:=af DK hR0;have uU:=e5 _ _ DK;have hT5:=hT4.same e5;have e05:=e4.trans e5;have hul':us.length≤3:=by rw[Vf,length_map];exact Sy
   dsimp only [CW];refine gi (fun σ' H'=>∃us:List Addr,σ'=[some (.int c),some (.ref wl),some (.str 1e7),some (.ref cd),some (.int x.2),some (.int m),some (.ref L),some (.ref R0),none,none]∧H' R0=some (.lst (us.map V.ref))∧us.length≤4∧Paired (d8 H') us (ms.map (OF m x)++if x.2<0 then [(0 - m*x.2,GL)] else [])∧H' L=some (.lst [.ref q1])∧d8 H' q1 (m,x)∧au H H') (λN hN=>?_) ?_
   ·refine⟨_,rfl,_,_,rfl,rfl,_,rfl,eF (λen=>?_) λen=>?_⟩
    ·have en:x.2<0:=by simpa using en
     refine⟨_,rfl, .inl ⟨rfl,_,bM.of Jl⟩,_,rfl,_,rfl,_,_,rfl,rfl, .inl ⟨by omega,by omega⟩,_,_,rfl,rfl,λd hd=>⟨1,rfl,(by show 3≤sizeLine;decide),λf' hf=>⟨2e2,λu XD=>?_⟩⟩⟩;obtain⟨tu,t6⟩:=Qe (n:=0 - m*x.2) hd hf XD;have Ho:=t6 _ _ Jl;refine⟨R0,_,_,rfl,rfl,Ho,by rw[length_map];omega,hN _ _ ⟨us++[u],rfl,by rw[aa,map_append];rfl,by rw[length_append];show _+1≤4;omega,?_,?_,?_,?_⟩⟩
     ·rw[if_pos en];exact bT (tu.but Ho λb o z n=>by rw[ah n];exact z) (aJ (λa z h=>(h.same t6).but Ho λb o z n=>by rw[ah n];exact z) XE)
     ·rw[ah nLR];exact t6 _ _ uU
     ·exact(hT5.same t6).but Ho λb o z n=>by rw[ah n];exact z
     ·exact λb o z=>by rw[ah (af z hR0H)];exact t6 _ _ (e05 _ _ z)
    ·have en:¬x.2<0:=by simpa using en
     refine hN _ _ ⟨us,rfl,Jl,by omega,?_,uU,hT5,e05⟩;rw[if_neg en,append_nil];exact XE
   rintro σ' H6 ⟨us,rfl,Ho,hu4,XE,Nx,hT6,e6⟩;refine gi (fun σ' H'=>∃ls:List Addr,σ'=[some (.int c),some (.ref wl),some (.str 1e7),some (.ref cd),some (.int x.2),some (.int m),some (.ref L),some (.ref R0),none,none]∧H' R0=some (.lst (us.map V.ref))∧Paired (d8 H') us (ms.map (OF m x)++if x.2<0 then [(0 - m*x.2,GL)] else [])∧H' L=some (.lst (ls.map V.ref))∧Paired (d8 H') ls ([(m,x)]++if 0<x.2 then [(m*x.2,GL)] else [])∧au H H') (λN hN=>?_) ?_
   ·refine⟨_,rfl,_,_,rfl,rfl,_,rfl,eF (λen=>?_) λen=>?_⟩
    ·have en:0<x.2:=by simpa using en
     refine⟨_,rfl, .inl ⟨rfl,_,bM.of Nx⟩,_,rfl,_,rfl,_,_,rfl,rfl, .inl ⟨by omega,by omega⟩,λd hd=>⟨1,rfl,(by show 3≤sizeLine;decide),λf' hf=>⟨2e2,λu XD=>?_⟩⟩⟩;obtain⟨tu,t6⟩:=Qe (n:=m*x.2) hd hf XD;have Vk:=t6 _ _ Nx;refine⟨L,_,_,rfl,rfl,Vk,(by show 1<sizeLine;decide),hN _ _ ⟨[q1,u],rfl,?_,?_,?_,?_,?_⟩⟩
     ·rw[ah (Ne.symm nLR)];exact t6 _ _ Ho
     ·exact aJ (λa z h=>(h.same t6).but Vk λb o z n=>by rw[ah n];exact z) XE
     ·rw[aa];rfl
     ·rw[if_pos en];exact .cons ((hT6.same t6).but Vk λb o z n=>by rw[ah n];exact z) (.cons (tu.but Vk λb o z n=>by rw[ah n];exact z) .nil)
     ·exact λb o z=>by rw[ah (af z hLH)];exact t6 _ _ (e6 _ _ z)
    ·have en:¬0<x.2:=by simpa using en
     refine hN _ _ ⟨[q1],rfl,Ho,XE,Nx,?_,e6⟩;rw[if_neg en,append_nil];exact .cons hT6 .nil
   rintro σ' H7 ⟨ls,rfl,hR7,hPr,Vk,hPl,e7⟩;have hG:=chg0 KG gT Tc mm1 mm3 oI.symm pm;have yW:cP H7 L _:=⟨ls,Vk,hPl⟩;have yX:cP H7 R0 _:=⟨us,hR7,hPr⟩;generalize ([(m,x)]++if 0<x.2 then [(m*x.2,GL)] else [])=xs at hG yW;generalize (ms.map (OF m x)++if x.2<0 then [(0 - m*x.2,GL)] else [])=ys at hG yX;obtain⟨t2,o2,Sq,hom,XF⟩:=AS (wl:=wl) hP h3 (c/27);refine⟨_,rfl,_,rfl,_,_,rfl,rfl,2e8,_,_,rfl,rfl,(by show (0 :Int) <3;decide),wl,_,_,V.ref t2,rfl,rfl,bM.of (e7 _ _ U1),Sq,?_⟩;refine⟨_,rfl,_,_,rfl,rfl,2e8,_,_,rfl,rfl,(by show (0 :Int) <4;decide),_,_,rfl,rfl,?_⟩;have n0:0≤c/81%4:=emod_nonneg _ 0e4;have n1:c/81%4<4:=emod_lt_of_pos _ 0e4;dsimp only [cg,CW];obtain⟨mo,emo⟩:∃m,m=1+c/81%4:=2e4;rw[←emo];have mo1:1≤mo:=by omega
   have mo4:mo≤4:=by omega
   clear emo n0 n1;have okl:Mf ws (mo,o2):=⟨⟨mo1,by show mo≤100000000000;omega,aM o2 hom⟩, .inr (.inl ⟨o2,hom,rfl⟩)⟩;refine gi (fun σ' H'=>∃(L R0:3e5) (xs ys:List Tm),σ'=[some (.int c),some (.ref wl),some (.str 1e7),some (.ref cd),some (.int x.2),some (.int m),some (.ref L),some (.ref R0),some (.ref t2),some (.int mo)]∧cP H' L xs∧cP H' R0 ys∧uv ws 8 xs ys∧(¬c/9%3=1→uv ws 5 xs ys)∧au H H') (λN hN=>?_) ?_
   ·refine⟨_,rfl,_,_,rfl,rfl,2e8,_,_,rfl,rfl,(by show (0 :Int) <3;decide),rfl,_,rfl,eF (λev=>?_) λev=>?_⟩
    ·have ev:c/9%3=1:=by simpa using ev
     obtain⟨GN,vS,KO⟩:=yW;obtain⟨CG,eB,KP⟩:=yX;have l1:=Paired.length KO;have l2:=Paired.length KP;have l5:=hG.2.2.2.2.1;refine⟨_,rfl,_,rfl,2e2,λp hp=>⟨(by show 1≤sizeLine;decide),λq2 hq2=>?_⟩⟩;have s1:=au.new (o:= .tup [.int mo, .ref t2]) hp;have s2:=s1.trans (au.new (o:= .lst [.ref p]) hq2);have He:=au.new (o:= .lst [.ref p]) hq2 _ _ (aa (H:=H7) (a:=p) (o:= .tup [.int mo, .ref t2]));have XG:(upd (upd H7 p (.tup [.int mo, .ref t2])) q2 (.lst [.ref p])) q2=some (.lst [.ref p]):=aa;generalize upd (upd H7 p (.tup [.int mo, .ref t2])) q2 (.lst [.ref p])=H8 at s2 He XG ⊢;refine⟨_,rfl,q2,L,[.ref p],GN.map V.ref,rfl,rfl,XG,s2 _ _ vS,by rw[length_map];show 1+_≤_;omega,λL2 qa=>?_⟩;have s3:=au.new (o:= .lst ([.ref p]++GN.map V.ref)) qa;have XH:(upd H8 L2 (.lst ([.ref p]++GN.map V.ref))) L2=some (.lst ([.ref p]++GN.map V.ref)):=aa;have XI:=s2.trans s3;have Qf:=s3 _ _ He;generalize upd H8 L2 (.lst ([.ref p]++GN.map V.ref))=H9 at XI XH Qf ⊢;refine⟨_,rfl,_,rfl,_,rfl,2e2,λp' ql=>⟨(by show 1≤sizeLine;decide),λq3 XJ=>?_⟩⟩;have r1:=au.new (o:= .tup [.int mo, .ref t2]) ql;have r2:=r1.trans (au.new (o:= .lst [.ref p']) XJ);have Qg:=au.new (o:= .lst [.ref p']) XJ _ _ (aa (H:=H9) (a:=p') (o:= .tup [.int mo, .ref t2]));have XM:(upd (upd H9 p' (.tup [.int mo, .ref t2])) q3 (.lst [.ref p'])) q3=some (.lst [.ref p']):=aa;generalize upd (upd H9 p' (.tup [.int mo, .ref t2])) q3 (.lst [.ref p'])=Fp at r2 Qg XM ⊢;have s10:=XI.trans r2;refine⟨R0,q3,CG.map V.ref,[.ref p'],rfl,rfl,s10 _ _ eB,XM,by rw[length_map];show _+1≤_;omega,λR2 iJ=>?_⟩;have r3:=au.new (o:= .lst (CG.map V.ref++[.ref p'])) iJ;have GO:=s10.trans r3;refine hN _ _ ⟨L2,R2,[(mo,o2)]++xs,ys++[(mo,o2)],rfl,⟨[p]++GN,?_,?_⟩,⟨CG++[p'],?_,?_⟩,(hG.a okl).mono 0e4,λz=>absurd ev z,e7.trans GO⟩
     ·rw[map_append];exact r3 _ _ (r2 _ _ XH)
     ·exact .cons ⟨t2,r3 _ _ (r2 _ _ Qf),XF.same (e7.trans GO)⟩ (aJ (λa z h=>h.same GO) KO)
     ·rw[map_append];exact aa
     ·exact bT ⟨t2,r3 _ _ Qg,XF.same (e7.trans GO)⟩ (aJ (λa z h=>h.same GO) KP)
    ·have ev:¬c/9%3=1:=by simpa using ev
     exact hN _ _ ⟨L,R0,xs,ys,rfl,yW,yX,hG.mono 0e4,λ_=>hG,e7⟩
   clear yW yX hG;rintro σ' H8 ⟨L,R0,xs,ys,rfl,yW,yX,XN,hG5,e8⟩;refine gi (fun σ' H'=>∃(L R0:3e5) (xs ys:List Tm),σ'=[some (.int c),some (.ref wl),some (.str 1e7),some (.ref cd),some (.int x.2),some (.int m),some (.ref L),some (.ref R0),some (.ref t2),some (.int mo)]∧cP H' L xs∧cP H' R0 ys∧uv ws 8 xs ys∧au H H') (λN hN=>?_) ?_
   ·refine⟨_,rfl,_,_,rfl,rfl,2e8,_,_,rfl,rfl,(by show (0 :Int) <3;decide),rfl,_,rfl,eF (λev=>?_) λev=>?_⟩
    ·have ev:c/9%3=2:=by simpa using ev
     have hG:=hG5 0e5;obtain⟨GN,vS,KO⟩:=yW;obtain⟨CG,eB,KP⟩:=yX;have l1:=Paired.length KO;have l2:=Paired.length KP;have l5:=hG.2.2.2.2.1;refine⟨_,rfl,_,rfl,_,rfl,2e2,λp hp=>⟨_,rfl,2e2,λp1 hp1=>⟨2e2,λq2 hq2=>?_⟩⟩⟩;have s1:=au.new (o:= .tup [.int mo, .ref t2]) hp;have s1':=au.new (o:= .tup [.int 1, .ref t2]) hp1;have Ti:=au.new (o:= .lst [.ref p, .ref p1]) hq2;have s2:=(s1.trans s1').trans Ti;have He:=Ti _ _ (s1' _ _ (aa (H:=H8) (a:=p) (o:= .tup [.int mo, .ref t2])));have GP:=Ti _ _ (aa (H:=upd H8 p (.tup [.int mo, .ref t2])) (a:=p1) (o:= .tup [.int 1, .ref t2]));have XG:(upd (upd (upd H8 p (.tup [.int mo, .ref t2])) p1 (.tup [.int 1, .ref t2])) q2 (.lst [.ref p, .ref p1])) q2=some (.lst [.ref p, .ref p1]):=aa;generalize upd (upd (upd H8 p (.tup [.int mo, .ref t2])) p1 (.tup [.int 1, .ref t2])) q2 (.lst [.ref p, .ref p1])=H9 at s2 He GP XG ⊢;refine⟨L,q2,GN.map V.ref,[.ref p, .ref p1],rfl,rfl,s2 _ _ vS,XG,by rw[length_map];show _+2≤_;omega,λL2 qa=>?_⟩;have s3:=au.new (o:= .lst (GN.map V.ref++[.ref p, .ref p1])) qa;have XH:(upd H9 L2 (.lst (GN.map V.ref++[.ref p, .ref p1]))) L2=some (.lst (GN.map V.ref++[.ref p, .ref p1])):=aa;have XI:=s2.trans s3;have Qf:=s3 _ _ He;have XO:=s3 _ _ GP;generalize upd H9 L2 (.lst (GN.map V.ref++[.ref p, .ref p1]))=Fp at XI XH Qf XO ⊢;refine⟨_,rfl,_,_,rfl,rfl,_,rfl,2e2,λp' ql=>⟨(by show 1≤sizeLine;decide),λq3 XJ=>?_⟩⟩;have r1:=au.new (o:= .tup [.int (mo+1), .ref t2]) ql;have r2:=r1.trans (au.new (o:= .lst [.ref p']) XJ);have Qg:=au.new (o:= .lst [.ref p']) XJ _ _ (aa (H:=Fp) (a:=p') (o:= .tup [.int (mo+1), .ref t2]));have XM:(upd (upd Fp p' (.tup [.int (mo+1), .ref t2])) q3 (.lst [.ref p'])) q3=some (.lst [.ref p']):=aa;generalize upd (upd Fp p' (.tup [.int (mo+1), .ref t2])) q3 (.lst [.ref p'])=H11 at r2 Qg XM ⊢;have GO:=XI.trans r2;refine⟨_,rfl,q3,R0,[.ref p'],CG.map V.ref,rfl,rfl,XM,GO _ _ eB,by rw[length_map];show 1+_≤_;omega,λR2 iJ=>?_⟩;have r3:=au.new (o:= .lst ([.ref p']++CG.map V.ref)) iJ;have Hq:=GO.trans r3;refine hN _ _ ⟨L2,R2,xs++[(mo,o2),(1,o2)],[(mo+1,o2)]++ys,rfl,⟨GN++[p,p1],?_,?_⟩,⟨[p']++CG,?_,?_⟩,hG.b hom (aM o2 hom) mo1 mo4,e8.trans Hq⟩
     ·rw[map_append];exact r3 _ _ (r2 _ _ XH)
     ·exact mL (aJ (λa z h=>h.same Hq) KO) (.cons ⟨t2,r3 _ _ (r2 _ _ Qf),XF.same (e8.trans Hq)⟩ (.cons ⟨t2,r3 _ _ (r2 _ _ XO),XF.same (e8.trans Hq)⟩ .nil))
     ·rw[map_append];exact aa
     ·exact .cons ⟨t2,r3 _ _ Qg,XF.same (e8.trans Hq)⟩ (aJ (λa z h=>h.same Hq) KP)
    ·exact hN _ _ ⟨L,R0,xs,ys,rfl,yW,yX,XN,e8⟩
   clear yW yX XN hG5;rintro σ' H9 ⟨L,R0,xs,ys,rfl,yW,yX,XN,e9⟩;refine⟨_,rfl,_,_,rfl,rfl,2e8,_,_,rfl,rfl,(by show (0 :Int) <2;decide),rfl,_,rfl,eF (λev=>?_) λev=>?_⟩
   ·exact⟨_,rfl,_,rfl,2e2,λt hT=>q t R0 L ys xs _ aa (yX.same (au.new hT)) (yW.same (au.new hT)) XN.swap (e9.trans (au.new hT))⟩
   ·exact⟨_,rfl,_,rfl,2e2,λt hT=>q t L R0 xs ys _ aa (yW.same (au.new hT)) (yX.same (au.new hT)) XN (e9.trans (au.new hT))⟩
theorem hV(c:Int)(all:0e2):∀(l acc:0e2),(∀q∈l,q.1∈acc.map 1e8)→(fO c acc l all).map 1e8=acc.map 1e8
 | [],_,_=>rfl
 |p::r,acc,h=>by
  have e:(bN acc p.1 (c*aE all p.1)).map 1e8=acc.map 1e8:=by
   unfold bN;rw[nM];unfold jM;rw[if_pos (h p 1e6)]
  have:=hV c all r (bN acc p.1 (c*aE all p.1)) λq hq=>by rw[e];exact h q (mem_cons_of_mem _ hq)
  rw[e] at this;exact this
def XQ(t:Int)(k:Key):∀(as:List (Str×Int)) (acc:0e2),aE (aW t acc as) k=aE acc k+t*aE (aW 1 [] as) k:=by
 have key:∀(t:Int) (as:List (Str×Int)) (acc:0e2),aE (aW t acc as) k=aE acc k+t*(as.map λp=>if (Sum.inr p.1 :Key)=k then p.2 else 0).sum:=by
  intro t as
  induction as with
  |nil=>intro acc;show aE acc k=_;simp
  |cons p r ih=>
   intro acc;show aE (aW t (bN acc (Sum.inr p.1) (p.2*t)) r) k=_;rw[ih,xW,map_cons,sum_cons,mul_add,Int.add_assoc];congr 2;split
   ·rw[mul_comm]
   ·rw[mul_zero]
 intro as acc;rw[key t as acc,key 1 as []];show _=_+t*(0+1*_);rw[zero_add,one_mul]
def XR{KV:0e2}(hI:aU KV)(k:Key):aE (qf KV KV) k=aE KV k:=by
 cases e:bK (qf KV KV) k with
 |some v=>
  have hm:=fg e;obtain⟨q,_,GG⟩:=mem_map.mp hm;injection GG with e1 e2;rw[←e2] at e;rw[dw e,e1]
 |none=>
  rw[dv e];refine Classical.byContradiction λz=>?_;have mP:k∈KV.map 1e8:=Classical.byContradiction λh=>z (lJ h).symm;obtain⟨q,hq,rfl⟩:=mem_map.mp mP;refine kz e (mem_map.mpr ⟨(q.1,V.int (aE KV q.1)),mem_map.mpr ⟨q,mem_filter.mpr ⟨hq,decide_eq_true λh=>z h.symm⟩,rfl⟩,rfl⟩)
def AU(xs ys:List Tm)(k:Key):aE (gH xs ys) k=aE (aV ys) k - aE (aV xs) k:=by
 have e:aE (gH xs ys) k=aE (wq xs ys) k:=XR (yq xs ys) k;rw[e];show aE (aW (-1) (aV ys) (gm xs)) k=_;rw[XQ];show _+ -1*aE (aV xs) k=_;omega
def InK(am:0e2)(xs ys:List Tm):Prop:=(∀q∈aV xs,q.1∈am.map 1e8)∧∀q∈aV ys,q.1∈am.map 1e8
theorem wG(h:InK am xs ys):∀t,(mi am xs ys t).map 1e8=am.map 1e8
 |0=>rfl
 |t+1=>by
  have ih:=wG h t;have e1:=hV (-1) (aV xs) (aV xs) (mi am xs ys t) (by rw[ih];exact h.1);have e2:=hV 1 (aV ys) (aV ys) (fO (-1) (mi am xs ys t) (aV xs) (aV xs)) (by rw[e1,ih];exact h.2);show (fO 1 _ _ _).map _=_;rw[e2,e1,ih]
def KQ(xs:List Tm):((aV xs).map 1e8).Nodup:=gS _
theorem walk_z(am:0e2)(xs ys:List Tm)(k:Key):∀t:Nat,aE (mi am xs ys t) k=aE am k+t*(aE (aV ys) k - aE (aV xs) k)
 |0=>by show aE am k=_;simp
 |t+1=>by
  show aE (fO 1 _ _ _) k=_;rw[tT 1 (KQ ys),tT (-1) (KQ xs),walk_z am xs ys k t];push_cast;rw[add_mul];omega
def KR{xs ys:List Tm}(h:InK am xs ys):∀q∈gH xs ys,q.1∈am.map 1e8:=λq hq=>by
 have h1:=(Aw (wq xs ys) (wq xs ys)).mem (mem_map_of_mem (f:=1e8) hq);obtain⟨q',qy,e⟩:=mem_map.mp h1;rw[←e];refine lS (Pk:=λj=>j∈am.map 1e8) (-1) (gm xs) (aV ys) h.2 (λp hp=>?_) q' qy;have:=CC 1 (gm xs) [] hp;obtain⟨q2,h2,e2⟩:=mem_map.mp this;rw[←e2];exact h.1 q2 h2
def Qh(xs ys:List Tm):((gH xs ys).map 1e8).Nodup:=JN _ (Cm xs ys)
def ua(am:0e2)(xs ys:List Tm)(T:Int)(k:Key):aE (cq am xs ys T) k=aE am k+T*aE (gH xs ys) k:=tT T (Qh xs ys) am k
def GQ(hI:aU am)(hn:(am.map 1e8).Nodup)(h:InK am xs ys)(t:Nat):mi am xs ys t=cq am xs ys t:=by
 have k1:=wG h t;have k2:(cq am xs ys t).map 1e8=am.map 1e8:=hV _ _ _ _ (KR h);refine zV (AM xs ys hI t) (cS _ _ _ _ hI) (by rw[k1];exact hn) (by rw[k1,k2]) λk=>?_;rw[walk_z];rw[ua,AU]
theorem yI:∀{l:0e2},(∀q∈l,aE tk q.1≤aE th q.1)→gI th tk l=none
 | [],_=>rfl
 |p::r,h=>by
  rw[iF,if_neg (by have:=h p 1e6;omega)];exact yI λq hq=>h q (mem_cons_of_mem _ hq)
theorem wH{l':Int}:∀{l:0e2},gI th tk l=some (k,l')→∃q∈l,q.1=k∧l'=aE tk k - aE th k∧0<l'
 | [],h=>by cases h
 |p::r,h=>by
  rw[iF] at h;split at h
  ·rename_i c
   injection h with h;injection h with h1 h2;refine⟨p,mem_cons_self ..,h1,by rw[←h1,←h2],by rw[←h2];exact c⟩
  ·obtain⟨q,hq,z⟩:=wH h;exact⟨q,mem_cons_of_mem _ hq,z⟩
def oo{a t g:Int}(h:oN a t g=none)(j:Nat):t≤a+j*g:=by
 unfold oN at h;split at h
 ·cases h
 ·split at h
  ·rename_i h1 h2
   have:=mul_nonneg (Int.natCast_nonneg j) h2;omega
  ·cases h
def jq{a t g T:Int}(h:oN a t g=some T):0≤T∧(∀j:Int,0≤j→j<T→t≤a+j*g)∧a+T*g<t:=by
 unfold oN at h;split at h
 ·injection h with h;subst h;exact⟨Int.le_refl _,λj h1 h2=>by omega,by omega⟩
 ·split at h
  ·cases h
  ·rename_i h1 h2
   injection h with h;have gp:0< -g:=by omega
   have q0:0≤(a - t) /(-g):=Int.ediv_nonneg 0e5 0e5;refine⟨by omega,λj j0 j1=>?_,?_⟩
   ·have e1:=Int.ediv_mul_le (a - t) (b:= -g) 0e5;have e2:j*(-g)≤(a - t) /(-g)*(-g):=Int.mul_le_mul_of_nonneg_right 0e5 0e5;rw[mul_neg] at e2;omega
   ·have e1:=Int.lt_ediv_add_one_mul_self (a - t) gp;rw[h,mul_neg] at e1;omega
theorem lj:∀{l:List (Option Int)},cU l=none→∀o∈l,o=none
 | [],_,o,ho=>by cases ho
 |none::r,h,o,ho=>by
  rcases mem_cons.mp ho with z|z
  ·exact z
  ·exact lj (l:=r) h o z
 |some i::r,h,o,ho=>by
  have h:(match cU r with|none=>some i|some j=>some (if j<i then j else i))=none:=h
  cases e:cU r with
  |none=>rw[e] at h;cases h
  |some j=>rw[e] at h;cases h
theorem gy:∀{l:List (Option Int)} {T:Int},cU l=some T→some T∈l∧∀i,some i∈l→T≤i
 | [],_,h=>by cases h
 |none::r,T,h=>by
  obtain⟨h1,h2⟩:=gy (l:=r) h;refine⟨mem_cons_of_mem _ h1,λi hi=>?_⟩;rcases mem_cons.mp hi with z|z
  ·cases z
  ·exact h2 i z
 |some i::r,T,h=>by
  have h:(match cU r with|none=>some i|some j=>some (if j<i then j else i))=some T:=h
  cases e:cU r with
  |none=>
   rw[e] at h;injection h with h;subst h;refine⟨mem_cons_self ..,λj hj=>?_⟩;rcases mem_cons.mp hj with z|z
   ·injection z with z;omega
   ·have:=lj e _ z;cases this
  |some j=>
   rw[e] at h;injection h with h;obtain⟨h1,h2⟩:=gy e;refine⟨?_,λk hk=>?_⟩
   ·rw[←h];split
    ·exact mem_cons_of_mem _ h1
    ·exact mem_cons_self ..
   ·rw[←h];rcases mem_cons.mp hk with z|z
    ·injection z with z;split<;>omega
    ·have:=h2 k z;split<;>omega
def CH{n:Nat}(h:bx am xs ys n=none)(j:Nat)(hj:j<n):gI (mi am xs ys j) (aV xs) (aV xs)=none:=by
 refine yI λq hq=>?_;rw[walk_z];unfold bx at h
 cases e:iE am xs ys with
 |none=>
  have:=lj e _ (mem_map_of_mem hq);have:=oo this j;rw[AU] at this;exact this
 |some T=>
  rw[e] at h;obtain⟨h1,h2⟩:=gy e;dsimp only at h;by_cases c:(n:Int)≤T
  ·cases e2:oN (aE am q.1) (aE (aV xs) q.1) (aE (gH xs ys) q.1) with
   |none=>
    have:=oo e2 j;rw[AU] at this;exact this
   |some i=>
    have hi:=h2 i (by rw[←e2];exact mem_map_of_mem (f:=λq=>oN (aE am q.1) (aE (aV xs) q.1) (aE (gH xs ys) q.1)) hq);have:=(jq e2).2.1 j 0e5 0e5;rw[AU] at this;exact this
  ·rw[if_neg c] at h;exfalso;obtain⟨q',qy,e3⟩:=mem_map.mp h1;have hT:=jq e3
   have hl:gI (cq am xs ys T) (aV xs) (aV xs)=none:=by
    cases e4:gI (cq am xs ys T) (aV xs) (aV xs) with
    |none=>rfl
    |some p=>rw[e4] at h;cases h
   have:=lV hl q' qy;rw[ua] at this;omega
def CI(hI:aU am)(hn:(am.map 1e8).Nodup)(hk:InK am xs ys){n:Nat}{t:Int}{l:Int}(h:bx am xs ys n=some (t,k,l)):
  ∃t':Nat,t=t'∧t'<n∧(∀j,j<t'→gI (mi am xs ys j) (aV xs) (aV xs)=none)∧gI (mi am xs ys t') (aV xs) (aV xs)=some (k,l):=by
 unfold bx at h
 cases e:iE am xs ys with
 |none=>rw[e] at h;cases h
 |some T=>
  rw[e] at h;obtain⟨h1,h2⟩:=gy e;dsimp only at h;by_cases c:(n:Int)≤T
  ·rw[if_pos c] at h;cases h
  rw[if_neg c] at h;obtain⟨q',qy,e3⟩:=mem_map.mp h1;have hT:=jq e3;obtain⟨t',rfl⟩:=eq_ofNat_of_zero_le hT.1
  cases e4:gI (cq am xs ys t') (aV xs) (aV xs) with
  |none=>rw[e4] at h;cases h
  |some p=>
   rw[e4] at h;injection h with h;injection h with h3 h4;injection h4 with h5 h6;refine⟨t',h3.symm,by omega,λj hj=>yI λq hq=>?_,?_⟩
   ·rw[walk_z]
    cases e2:oN (aE am q.1) (aE (aV xs) q.1) (aE (gH xs ys) q.1) with
    |none=>
     have:=oo e2 j;rw[AU] at this;exact this
    |some i=>
     have hi:=h2 i (by rw[←e2];exact mem_map_of_mem (f:=λq=>oN (aE am q.1) (aE (aV xs) q.1) (aE (gH xs ys) q.1)) hq);have:=(jq e2).2.1 j 0e5 0e5;rw[AU] at this;exact this
   ·rw[GQ hI hn hk t',e4,←h5,←h6]
def yJ:av ["count"] ["count"] (aj iO):=cX
def ub(D:Def K mg "count_shown" "count_shown" iO ["count"])(T:qm K mg C):a5 P w K mg base 1 "count_shown" ["count"] kK:=by
 refine D.cN yJ 0e7 0e1
 ·obtain⟨n,rfl,_⟩:=h;rfl
 ·obtain⟨n,rfl,h1,h2,k⟩:=h
  refine⟨_,(ai (bC (aL dk 2e1 aq (aO _)) (ao (aA bh))
      aN) (ao (aA (bq jx rfl T.IP BE (ag 2e1 ak))))),?_⟩
  refine⟨_,rfl,rfl,_,rfl,eF (λe=>?_) λe=>?_⟩
  ·have e:n=1:=by simpa using e
   subst e;exact k
  ·have e:¬n=1:=by simpa using e
   refine⟨_,rfl,_,rfl,vy 0e5 0e5,?_⟩;unfold dM at k;rw[if_neg e] at k;exact k
def OG:av 1e5 1e5 (aj xD):=cX
def KU(D:aX K C "shown" "Atom.shown" xD 1e5)(T:qm K mg C)(c1:a5 P w K mg base 1 "count_shown" ["count"] kK):aD P w K mg base 2 C "shown" 1e5 (xS C):=by
 obtain⟨_,_,cK⟩:=c1;refine D.cN OG 0e7 0e1
 ·obtain⟨p,k,n,rfl,_⟩:=h;rfl
 ·obtain⟨p,k,n,rfl,⟨dx,hp⟩,hk,h1,h2,q⟩:=h;refine⟨_,(ao (aA (ay bj 3e6 (fz cK hr (ag 3e6 ak))))),?_⟩;refine⟨_,rfl,p,C,dx,_,_,rfl,hp,T.gD,T.xT,vF _ _,_,rfl,p,C,dx,_,_,rfl,hp,T.gD,T.sI,sF _ _,n,rfl,h1,h2,_,_,rfl,rfl,?_,q⟩;have:=il h1 h2;have:(100 :Nat)≤sizeLine:=by decide
  omega
def oq{xs:List Tm}(h:∀x∈xs,yg 100000000000 x)(h8:xs.length≤8)(k:Key):0≤aE (aV xs) k∧aE (aV xs) k≤800000000000:=by
 have hP:Pos (aV xs):=yH _ _ (λq hq=>by cases hq) λp hp=>by
  obtain⟨z,hz,rfl⟩:=mem_map.mp hp;exact(h z hz).1
 refine⟨hP.nonneg k,?_⟩
 have a1:=rj 1 100000000000 k 0e4 (gm xs) [] 0 (λp hp=>by
  obtain⟨z,hz,rfl⟩:=mem_map.mp hp;have b1:=(h z hz).1;have b2:=(h z hz).2.1;show -100000000000≤z.1*1∧z.1*1≤100000000000
  omega) (Int.le_refl _) (Int.le_refl _)
 have e:(gm xs).length=xs.length:=by unfold gm;rw[length_map]
 rw[e] at a1;show aE (aW 1 [] (gm xs)) k≤_;omega
def AV{ws:List Fm}{xs:List Tm}(h:∀x∈xs,Mf ws x):∀q∈aV xs,∃s,q.1=Sum.inr s∧Told ws s:=
 lS (Pk:=λj=>∃s,j=Sum.inr s∧Told ws s) 1 (gm xs) [] (λq hq=>by cases hq) λp hp=>by
  obtain⟨z,hz,rfl⟩:=mem_map.mp hp;exact⟨_,rfl,(h z hz).2⟩
structure yY(ws:List Fm)(am:0e2):Prop where
 int:aU am
 nd:(am.map 1e8).Nodup
 told:om ws am
 all:∀s,Told ws s→(Sum.inr s:Key)∈am.map 1e8
 nn:∀k,0≤aE am k
 len:am.length≤30
def ED{n n':Int}(h:1≤n)(h':1≤n')(b:n<10^12)(b':n'<10^12)(e:aK n=aK n'):n=n':=by
 obtain⟨m,rfl⟩:=eq_ofNat_of_zero_le (show 0≤n by omega);obtain⟨m',rfl⟩:=eq_ofNat_of_zero_le (show 0≤n' by omega);by_cases h1:m=1
 ·subst h1;rw[show aK ((1 :Nat):Int)=[] from pA] at e;rw[qV m' e.symm]
 ·by_cases h2:m'=1
  ·subst h2;rw[show aK ((1 :Nat):Int)=[] from pA] at e;exact absurd (qV m e) h1
  ·have e1:(dM (m:Int))=dM (m':Int):=by
    have:(dM (m:Int)).cps=(dM (m':Int)).cps:=Array.toList_inj.mp e;cases hh:dM (m:Int);cases hh':dM (m':Int);rw[hh,hh'] at this;exact congrArg _ this
   have a1:=xU m 0e5 h1;rw[e1,xU m' 0e5 h2] at a1;injection a1 with a1;exact a1.symm
theorem yK{f:Nat→Bool}:∀{a a' r r':List Nat},a.all f=true→a'.all f=true→Not f r→Not f r'→a++r=a'++r'→a=a'∧r=r'
 | [],[],_,_,_,_,_,_,e=>⟨rfl,e⟩
 | [],c::a',r,r',_,h,hr,_,e=>by
   rw[all_cons,and_eq_true] at h;have e:r=c::(a'++r'):=e;have:=hr c (by rw[e];rfl);rw[h.1] at this;cases this
 |c::a,[],r,r',h,_,_,hr,e=>by
  rw[all_cons,and_eq_true] at h;have e:c::(a++r)=r':=e;have:=hr c (by rw[←e];rfl);rw[h.1] at this;cases this
 |c::a,c'::a',r,r',h,h',hr,js,e=>by
  rw[all_cons,and_eq_true] at h h';rw[cons_append,cons_append] at e;injection e with e1 e2;obtain⟨e3,e4⟩:=yK h.2 h'.2 hr js e2;exact⟨by rw[e1,e3],e4⟩
def ou{n:Int}(h:1≤n):(aK n).all kL=true:=by
 obtain⟨m,rfl⟩:=eq_ofNat_of_zero_le (show 0≤n by omega);exact qT m
def AW{f g:Nat→Bool}(hfg:∀c,f c=true→g c=false)(ha:a.all f=true)(hr:Not g r):Not g (a++r):=by
 cases a with
 |nil=>exact hr
 |cons c a=>
  rw[all_cons,and_eq_true] at ha;intro d hd;have:c=d:=by simpa using hd
  rw[←this];exact hfg c ha.1
def Qi(c:Nat)(h:kL c=true):oJ c=false:=by
 unfold kL at h;unfold oJ;simp at h ⊢;omega
def CJ{n n':Int}(h:1≤n)(h':1≤n')(b:n<10^12)(b':n'<10^12)(hr:Not kL r)(js:Not kL r')(e:aK n++r=aK n'++r'):n=n'∧r=r':=by
 obtain⟨e1,e2⟩:=yK (ou h) (ou h') hr js e;exact⟨ED h h' b b' e1,e2⟩
def OH(h:ki k)(h':ki k')(hr:Not oJ r)(js:Not oJ r')(e:k++r=k'++r'):k=k'∧r=r':=by
 obtain⟨c,s,rfl,_,hs,_⟩:=h;obtain⟨c',s',rfl,_,vt,_⟩:=h';rw[cons_append,cons_append] at e;injection e with e1 e2;obtain⟨e3,e4⟩:=yK hs vt hr js e2;exact⟨by rw[e1,e3],e4⟩
def OI(c:Nat):Prop:=DB c=true∨c=40
def XS{c:Nat}(h:OI c):kL c=false∧oJ c=false:=by
 rcases h with h|h
 ·unfold DB at h;unfold kL oJ;simp at h ⊢;omega
 ·subst h;decide
def lW:∀(d:Nat) (t:Tr),oK d t→∃c l,bW d t=c::l∧OI c
 |d, .one k n,h=>by
  have h:ki k∧1≤n∧n≤999:=by cases d<;>exact h
  obtain⟨⟨c,s,rfl,hc,_⟩,_⟩:=h;refine⟨c,s++aK n,?_, .inl hc⟩;cases d<;>rfl
 |0, .gr _ _,h=>h.elim
 |d+1, .gr ts n,_=>⟨40,_,rfl, .inr rfl⟩
def OJ(r:List Nat):Prop:=∀c,r.head? =some c→kL c=false∧oJ c=false∧¬OI c
def OJ.f(h:OJ r):Not kL r:=λc hc=>(h c hc).1
def OJ.s(h:OJ r):Not oJ r:=λc hc=>(h c hc).2.1
def ow{d:Nat}{ts:List Tr}(h:∀t∈ts,oK d t)(hr:OJ r):Not kL (ts.flatMap (bW d)++r)∧Not oJ (ts.flatMap (bW d)++r):=by
 cases ts with
 |nil=>exact⟨hr.f,hr.s⟩
 |cons t ts=>
  obtain⟨c,l,e,hb⟩:=lW d t (h t 1e6);rw[flatMap_cons,e];have hx:=XS hb;refine⟨λx U2=>?_,λx U2=>?_⟩
  ·have:c=x:=by simpa using U2
   rw[←this];exact hx.1
  ·have:c=x:=by simpa using U2
   rw[←this];exact hx.2
def XT(d:Nat):Prop:=∀(t t':Tr) (r r':List Nat),oK d t→oK d t'→Not kL r→Not oJ r→Not kL r'→Not oJ r'→bW d t++r=bW d t'++r'→t=t'∧r=r'
theorem oz{d:Nat}(ih:XT d):∀(ts Hm:List Tr) (r r':List Nat),(∀t∈ts,oK d t)→(∀t∈Hm,oK d t)→OJ r→OJ r'→ts.flatMap (bW d)++r=Hm.flatMap (bW d)++r'→ts=Hm∧r=r'
 | [],[],_,_,_,_,_,_,e=>⟨rfl,e⟩
 | [],t::ts,r,r',_,h,hr,_,e=>by
   obtain⟨c,l,e1,hb⟩:=lW d t (h t 1e6);rw[flatMap_cons,e1] at e;exact absurd hb (hr c (by rw[show r=_ from e];rfl)).2.2
 |t::ts,[],r,r',h,_,_,hr,e=>by
  obtain⟨c,l,e1,hb⟩:=lW d t (h t 1e6);rw[flatMap_cons,e1] at e;exact absurd hb (hr c (by rw[show r'=_ from e.symm];rfl)).2.2
 |t::ts,t'::Hm,r,r',h,h',hr,js,e=>by
  rw[flatMap_cons,flatMap_cons,append_assoc,append_assoc] at e;have n1:=ow (λt ht=>h t (mem_cons_of_mem _ ht)) hr;have n2:=ow (λt ht=>h' t (mem_cons_of_mem _ ht)) js;obtain⟨e1,e2⟩:=ih t t' _ _ (h t 1e6) (h' t' 1e6) n1.1 n1.2 n2.1 n2.2 e;obtain⟨e3,e4⟩:=oz ih ts Hm r r' (λt ht=>h t (mem_cons_of_mem _ ht)) (λt ht=>h' t (mem_cons_of_mem _ ht)) hr js e2;exact⟨by rw[e1,e3],e4⟩
def uc{c:Nat}(l:List Nat)(h:kL c=false∧oJ c=false∧¬OI c):OJ (c::l):=λd hd=>by
 have:c=d:=by simpa using hd
 rw[←this];exact h
def XU:kL 41=false∧oJ 41=false∧¬OI 41:=⟨by decide,by decide,λz=>by rcases z with z|z<;>cases z⟩
def no46:kL 46=false∧oJ 46=false∧¬OI 46:=⟨by decide,by decide,λz=>by rcases z with z|z<;>cases z⟩
def no94:kL 94=false∧oJ 94=false∧¬OI 94:=⟨by decide,by decide,λz=>by rcases z with z|z<;>cases z⟩
def KW{d:Nat}{n n':Int}(h:oK d (.one k n))(h':oK d (.one k' n'))(f:Not kL r)(s:Not oJ r)(f':Not kL r')(s':Not oJ r')(e:bW d (.one k n)++r=bW d (.one k' n')++r'):Tr.one k n=Tr.one k' n'∧r=r':=by
 have h:ki k∧1≤n∧n≤999:=by cases d<;>exact h
 have h':ki k'∧1≤n'∧n'≤999:=by cases d<;>exact h'
 have tx:∀(k:List Nat) (n:Int),bW d (.one k n)=k++aK n:=λk n=>by cases d<;>rfl
 rw[tx,tx,append_assoc,append_assoc] at e;obtain⟨e1,e2⟩:=OH h.1 h'.1 (AW Qi (ou h.2.1) s) (AW Qi (ou h'.2.1) s') e;obtain⟨e3,e4⟩:=CJ h.2.1 h'.2.1 0e5 0e5 f f' e2;exact⟨by rw[e1,e3],e4⟩
def KY{d:Nat}{n:Int}(h:oK d (.one k n))(e:bW d (.one k n)++r=40::l):False:=by
 have h:ki k∧1≤n∧n≤999:=by cases d<;>exact h
 obtain⟨⟨c,s,rfl,hc,_⟩,_⟩:=h;have tx:bW d (.one (c::s) n)=(c::s)++aK n:=by cases d<;>rfl
 rw[tx] at e;have e:c::(s++aK n++r)=40::l:=by simpa using e
 injection e with e1 _;rw[e1] at hc;cases hc
theorem yL:∀d,XT d
 |0=>λt t' r r' h h' f s f' s' e=>by
  match t,t',h,h',e with
  | .one k n, .one k' n',h,h',e=>exact KW h h' f s f' s' e
  | .gr _ _,_,h,_,_=>exact h.elim
  | .one _ _, .gr _ _,_,h',_=>exact h'.elim
 |d+1=>λt t' r r' h h' f s f' s' e=>by
  match t,t',h,h',e with
  | .one k n, .one k' n',h,h',e=>exact KW h h' f s f' s' e
  | .one k n, .gr ts n',h,h',e=>exact(KY h e).elim
  | .gr ts n, .one k n',h,h',e=>exact(KY h' e.symm).elim
  | .gr ts n, .gr Hm n',h,h',e=>
    obtain⟨_,h1,n1,n2⟩:=h;obtain⟨_,h1',n1',n2'⟩:=h';have e:40::((ts.flatMap (bW d)++41::aK n)++r)=40::((Hm.flatMap (bW d)++41::aK n')++r'):=e;injection e with _ e;rw[append_assoc,append_assoc] at e;obtain⟨e1,e2⟩:=oz (yL d) ts Hm _ _ h1 h1' (uc _ XU) (uc _ XU) e;have e2:41::(aK n++r)=41::(aK n'++r'):=e2;injection e2 with _ e2;obtain⟨e3,e4⟩:=CJ n1 n1' 0e5 0e5 f f' e2;exact⟨by rw[e1,e3],e4⟩
def lX(xs:List iM)(hr:∀c,r.head? =some c→c=94):OJ (cn 1 xs++r):=by
 cases xs with
 |nil=>
  intro c hc;rw[hr c hc];exact no94
 |cons x xs=>exact uc _ no46
theorem EE:∀(xs Vl:List iM) (r r':List Nat),(∀x∈xs,Fz 1 x)→(∀x∈Vl,Fz 1 x)→(∀c,r.head? =some c→c=94)→(∀c,r'.head? =some c→c=94)→cn 1 xs++r=cn 1 Vl++r'→xs=Vl∧r=r'
 | [],[],_,_,_,_,_,_,e=>⟨rfl,e⟩
 | [],x::xs,r,r',_,_,hr,_,e=>by
   have e:r=46::_:=e;have:=hr 46 (by rw[e];rfl);cases this
 |x::xs,[],r,r',_,_,_,hr,e=>by
  have e:46::_=r':=e;have:=hr 46 (by rw[←e];rfl);cases this
 |x::xs,x'::Vl,r,r',h,h',hr,js,e=>by
  have ex:=h x 1e6;have VB:=h' x' 1e6
  have tx:∀(x:iM) (xs:List iM) (r:List Nat),cn 1 (x::xs)++r=46::(aK x.1++(x.2.flatMap (bW 1)++(cn 1 xs++r))):=λx xs r=>by
   unfold cn l8;rw[flatMap_cons];simp
  rw[tx,tx] at e;injection e with _ e;have s1:=lX xs hr;have s2:=lX Vl js;obtain⟨e1,e2⟩:=CJ ex.2.2.1 VB.2.2.1 (by have:=ex.2.2.2;omega) (by have:=VB.2.2.2;omega) (ow ex.2.1 s1).1 (ow VB.2.1 s2).1 e;obtain⟨e3,e4⟩:=oz (yL 1) _ _ _ _ ex.2.1 VB.2.1 s1 s2 e2;obtain⟨e5,e6⟩:=EE xs Vl r r' (λx hx=>h x (mem_cons_of_mem _ hx)) (λx hx=>h' x (mem_cons_of_mem _ hx)) hr js e4;exact⟨by rw[e5,show x=x' from Prod.ext e1 e3],e6⟩
def yM(n:Int):∀c,(g8 n).head? =some c→c=94:=λc hc=>by
 unfold g8 at hc;split at hc
 ·cases hc
 ·exact(Option.some.inj hc).symm
def Tj{n n':Int}(a: -999≤n)(b:n≤999)(a': -999≤n')(b':n'≤999)(e:g8 n=g8 n'):n=n':=by
 unfold g8 at e;by_cases h:n=0
 ·by_cases h':n'=0
  ·omega
  ·rw[if_pos h,if_neg h'] at e;cases e
 ·by_cases h':n'=0
  ·rw[if_neg h,if_pos h'] at e;cases e
  ·rw[if_neg h,if_neg h'] at e;injection e with _ e;obtain⟨e1,e2⟩:=List.append_inj' e rfl;have e3:=ED (by split<;>omega) (by split<;>omega) (by split<;>omega) (by split<;>omega) e1;injection e2 with e2 _;split at e2<;>split at e2<;>split at e3<;>split at e3<;>omega
def Tn(h:bJ x)(h':bJ y)(e:fL x=fL y):x=y:=by
 obtain⟨h,_,_⟩:=h;obtain⟨h',_,_⟩:=h';obtain⟨xs,n⟩:=x;obtain⟨ys,n'⟩:=y
 have hd:∀(x:iM) (xs:List iM) (n:Int),Fz 1 x→∃c l,wL 1 (x::xs) n=c::l∧OI c:=λx xs n ok=>by
  obtain⟨kq,ht,_⟩:=ok
  match hx:x.2,kq with
  |t::ts,_=>
   obtain⟨c,l,e1,hb⟩:=lW 1 t (ht t (by rw[hx];exact mem_cons_self ..));refine⟨c,l++(ts.flatMap (bW 1)++(cn 1 xs++g8 n)),?_,hb⟩;show x.2.flatMap (bW 1)++(cn 1 xs++g8 n)=_;rw[hx,flatMap_cons,e1];simp
 have Qj:∀{c:Nat},OI c→c≠101:=fun {c} hb z=>by
  rw[z] at hb;rcases hb with hb|hb<;>cases hb
 cases xs with
 |nil=>
  cases ys with
  |nil=>
   have h:n= -1:=h;have h':n'= -1:=h';rw[h,h']
  |cons y ys=>
   obtain⟨_,nY,_⟩:=h';obtain⟨c,l,e1,hb⟩:=hd y ys n' (nY y 1e6);have e:[101,94,45]=wL 1 (y::ys) n':=e;rw[e1] at e;injection e with e _;exact absurd e.symm (Qj hb)
 |cons x xs=>
  obtain⟨x1,gT,a,b⟩:=h
  cases ys with
  |nil=>
   obtain⟨c,l,e1,hb⟩:=hd x xs n (gT x 1e6);have e:wL 1 (x::xs) n=[101,94,45]:=e;rw[e1] at e;injection e with e _;exact absurd e (Qj hb)
  |cons y ys=>
   obtain⟨y1,nY,a',b'⟩:=h';have e:x.2.flatMap (bW 1)++(cn 1 xs++g8 n)=y.2.flatMap (bW 1)++(cn 1 ys++g8 n'):=e;obtain⟨e1,e2⟩:=oz (yL 1) _ _ _ _ (gT x 1e6).2.1 (nY y 1e6).2.1 (lX xs (yM n)) (lX ys (yM n')) e;obtain⟨e3,e4⟩:=EE xs ys _ _ (λz hz=>gT z (mem_cons_of_mem _ hz)) (λz hz=>nY z (mem_cons_of_mem _ hz)) (yM n) (yM n') e2;have e5:n=n':=Tj a b a' b' e4;rw[e3,e5,show x=y from Prod.ext (by rw[x1,y1]) e1]
open Classical in
noncomputable def cT (k:Key) (j:Key):Int:=if h:∃x,bJ x∧j=(Sum.inr (1e7:Str):Key) then aE (kD h.choose) k else 0
def KZ(h:bJ x)(k:Key):cT k (Sum.inr (1e7:Str))=aE (kD x) k:=by
 have hex:∃y,bJ y∧(Sum.inr (1e7:Str):Key)=Sum.inr (⟨(fL y).toArray⟩:Str):=⟨x,h,rfl⟩;unfold cT;rw[dif_pos hex];have hs:=hex.choose_spec
 have e:fL x=fL hex.choose:=by
  have h2:=hs.2;injection h2 with h2;injection h2 with h2;have:=congrArg Array.toList h2;simpa using this
 rw[←Tn h hs.1 e]
noncomputable def jd (am:0e2) (k:Key):Int:=(am.map λq=>zv q.2*cT k q.1).sum
def fR(q:Key×V)(am:0e2)(k:Key):jd (q::am) k=zv q.2*cT k q.1+jd am k:=by
 unfold jd;rw[map_cons,sum_cons]
def OL{p:Key×V}(h:¬p.1=j):putK (p::r) j v=p::putK r j v:=by
 unfold putK;rw[any_cons,decide_eq_false h,Bool.false_or];split
 ·rw[map_cons,if_neg h]
 ·rfl
def OM{p:Key×V}(h:p.1=j)(hn:¬j∈r.map 1e8):putK (p::r) j v=(p.1,v)::r:=by
 unfold putK;rw[any_cons,decide_eq_true h,Bool.true_or,if_pos rfl,map_cons,if_pos h];congr 1
 have:∀q∈r,(if q.1=j then (q.1,v) else q)=q:=λq hq=>by
  rw[if_neg λe=>hn (by rw[←e];exact mem_map_of_mem hq)]
 rw[map_congr_left this];simp
def K0{p:Key×V}{z:Int}(hz:p.2= .int z)(j:Key):aE (p::r) j=if p.1=j then z else aE r j:=by
 by_cases h:p.1=j
 ·rw[if_pos h];exact dw (by rw[cz h,hz])
 ·rw[if_neg h];unfold aE;rw[cA h]
theorem EF{z:Int}(k j:Key):∀{am:0e2},aU am→(am.map 1e8).Nodup→jd (putK am j (.int z)) k=jd am k+(z - aE am j)*cT k j
 | [],_,_=>by
   show jd [(j, .int z)] k=jd [] k+(z - aE [] j)*cT k j;rw[fR,show aE ([]:List (Key×V)) j=0 from rfl,Int.sub_zero];show z*cT k j+jd [] k=_;omega
 |p::r,hI,hn=>by
  rw[map_cons,nodup_cons] at hn;obtain⟨i,hi⟩:=hI p 1e6;by_cases h:p.1=j
  ·rw[OM h (by rw[←h];exact hn.1),fR,fR,K0 hi,if_pos h,hi,Int.sub_mul];show z*cT k p.1+jd r k=i*cT k p.1+jd r k+_;rw[h];omega
  ·rw[OL h,fR,fR,EF k j (λq hq=>hI q (mem_cons_of_mem _ hq)) hn.2,K0 hi,if_neg h];omega
def rm(k j:Key)(v:Int)(hI:aU am)(hn:(am.map 1e8).Nodup):jd (bN am j v) k=jd am k+v*cT k j:=by
 unfold bN;rw[EF k j hI hn];congr 2;omega
theorem AX(c:Int)(all:0e2)(k:Key):∀(l am:0e2),aU am→(am.map 1e8).Nodup→jd (fO c am l all) k=jd am k+c*(l.map λq=>aE all q.1*cT k q.1).sum
 | [],am,_,_=>by
   show jd am k=_;simp
 |q::r,am,hI,hn=>by
  show jd (fO c (bN am q.1 (c*aE all q.1)) r all) k=_;rw[AX c all k r _ (hI.add _ _) (kJ hn),rm k _ _ hI hn,map_cons,sum_cons,mul_add,mul_assoc];omega
def AY(hI:aU am)(hn:(am.map 1e8).Nodup)(k:Key):(am.map λq=>aE am q.1*cT k q.1).sum=jd am k:=by
 unfold jd;congr 1;refine map_congr_left λq hq=>?_;obtain⟨i,hi⟩:=hI q hq;have h1:bK am q.1=some q.2:=fH hn hq;rw[hi] at h1;rw[dw h1,hi];rfl
theorem yN(t:Int)(k:Key):∀(as:List (Str×Int)) (acc:0e2),aU acc→(acc.map 1e8).Nodup→jd (aW t acc as) k=jd acc k+t*(as.map λp=>p.2*cT k (Sum.inr p.1)).sum
 | [],acc,_,_=>by
   show jd acc k=_;simp
 |p::r,acc,hI,hn=>by
  show jd (aW t (bN acc (Sum.inr p.1) (p.2*t)) r) k=_;rw[yN t k r _ (hI.add _ _) (kJ hn),rm k _ _ hI hn,map_cons,sum_cons,mul_add,mul_comm p.2 t,mul_assoc];omega
theorem CK(k:Key):∀{zs:List Tm},(∀z∈zs,bJ z.2)→((gm zs).map λp=>p.2*cT k (Sum.inr p.1)).sum=sumZ zs k
 | [],_=>by rw[dA];rfl
 |z::r,h=>by
  have ih:=CK k (zs:=r) λz hz=>h z (mem_cons_of_mem _ hz);rw[cV,←ih];show (((⟨(fL z.2).toArray⟩:Str),z.1)::gm r |>.map λp=>p.2*cT k (Sum.inr p.1)).sum=_;rw[map_cons,sum_cons,KZ (h z 1e6)];rfl
def ON{KV:0e2}(hI:aU KV)(hn:(KV.map 1e8).Nodup)(k:Key):jd (qf KV KV) k=jd KV k:=by
 rw[←AY hI hn]
 have key:∀L:List (Key×V),jd (qf KV L) k=(L.map λq=>aE KV q.1*cT k q.1).sum:=λL=>by
  induction L with
  |nil=>rfl
  |cons q r ih=>
   unfold qf at ih ⊢;by_cases h:aE KV q.1=0
   ·rw[List.filter_cons_of_neg (by simpa using h),ih,map_cons,sum_cons,h];omega
   ·rw[List.filter_cons_of_pos (by simpa using h),map_cons,fR,ih,map_cons,sum_cons];rfl
 exact key KV
def To{xs ys:List Tm}(hx:∀z∈xs,bJ z.2)(hy:∀z∈ys,bJ z.2)(k:Key):jd (gH xs ys) k=sumZ ys k - sumZ xs k:=by
 unfold gH;rw[ON (yq xs ys) (Cm xs ys)];show jd (aW (-1) (aW 1 [] (gm ys)) (gm xs)) k=_;rw[yN (-1) k (gm xs) (aW 1 [] (gm ys)) (cC _) (gS _),yN 1 k (gm ys) [] (λp hp=>by cases hp) nodup_nil,CK k hx,CK k hy];show 0+1*sumZ ys k+ -1*sumZ xs k=_;omega
def AZ(hI:aU am)(hn:(am.map 1e8).Nodup){xs ys:List Tm}(hx:∀z∈xs,bJ z.2)(hy:∀z∈ys,bJ z.2)(he:∀k,sumZ xs k=sumZ ys k)(m:Int)(k:Key):jd (cq am xs ys m) k=jd am k:=by
 unfold cq;rw[AX m _ k _ am hI hn,AY (show aU (gH xs ys) from λq hq=>by obtain⟨p,_,rfl⟩:=mem_map.mp hq;exact 2e4) (Qh xs ys),To hx hy,he k];omega
theorem EG(k:Key):∀{am:0e2},aU am→(∀q∈am,0≤zv q.2)→jd (fP am) k=jd am k
 | [],_,_=>rfl
 |q::r,hI,h=>by
  have ih:=EG k (am:=r) (λq hq=>hI q (mem_cons_of_mem _ hq)) λq hq=>h q (mem_cons_of_mem _ hq);have h0:=h q 1e6;unfold fP at ih ⊢;rw[fR];by_cases c:0<zv q.2
  ·rw[List.filter_cons_of_pos (by simpa using c),fR,ih]
  ·rw[List.filter_cons_of_neg (by simpa using c),ih,show zv q.2=0 by omega];omega
def XW{am:0e2}(hI:aU am)(hn:(am.map 1e8).Nodup)(h:∀k,0≤aE am k):∀q∈am,0≤zv q.2:=λq hq=>by
 obtain⟨i,hi⟩:=hI q hq;have h1:bK am q.1=some q.2:=fH hn hq;rw[hi] at h1;have:=h q.1;rw[dw h1] at this;rw[hi];exact this
theorem A0(k:Str):∀{kvs:0e2} {fs:List Fm},Paired Ea kvs fs→(yz kvs fs k).sum=jd kvs (Sum.inr k)
 |_,_, .nil=>rfl
 |_,_, .cons (a:=q) (b:=x) h t=>by
  have ih:=A0 k t;unfold yz at ih ⊢;rw[List.zipWith_cons_cons,sum_cons,ih,fR,h.1,KZ h.2.1,Kg h.2.1]
variable {uC uP uI uD uL uT eM eN eO uG uS:Tok}{Ch HE Sh St Ub:3e5}
def put_in(kvs:0e2)(k:Key)(v:V):k∈(putK kvs k v).map 1e8:=by
 unfold putK;split
 ·rename_i h
  obtain⟨q,hq,e⟩:=any_eq_true.mp h;have e:q.1=k:=by simpa using e
  exact mem_map.mpr ⟨(q.1,v),mem_map.mpr ⟨q,hq,by rw[if_pos e]⟩,e⟩
 ·rw[map_append];exact mem_append_right _ 2e9
def j6{kvs:0e2}{k j:Key}{v:V}(h:j∈kvs.map 1e8):j∈(putK kvs k v).map 1e8:=by
 obtain⟨q,hq,rfl⟩:=mem_map.mp h;unfold putK;split
 ·refine mem_map.mpr ⟨if q.1=k then (q.1,v) else q,mem_map.mpr ⟨q,hq,rfl⟩,?_⟩;split<;>rfl
 ·rw[map_append];exact mem_append_left _ (mem_map_of_mem hq)
def TB(w:Fm)(s:Str):Prop:=s=⟨(fL w).toArray⟩∨(Sum.inr s:Key)∈(cW 1 w.1).map 1e8
theorem wI{α β:Type}{Rl:α→β→Prop}:∀{as:List α},(∀a∈as,∃b,Rl a b)→∃bs,Paired Rl as bs
 | [],_=>⟨[], .nil⟩
 |a::r,h=>by
  obtain⟨b,hb⟩:=h a 1e6;obtain⟨bs,hbs⟩:=wI (as:=r) λa ha=>h a (mem_cons_of_mem _ ha);exact⟨b::bs, .cons hb hbs⟩
def j5{kk:0e2}{j:Key}(h:j∈kk.map 1e8):∃v,bK kk j=some v∧(j,v)∈kk:=by
 cases e:bK kk j with
 |none=>exact absurd h (kz e)
 |some v=>exact⟨v,rfl,fg e⟩
def KS(ws:List Fm)(k:Key):Prop:=k=Sum.inr ("+" :Str)∨∃w∈ws,k∈(cW 1 w.1).map 1e8
structure XX(ws:List Fm)(x:Fm)(D:0e2):Prop where
 int:aU D
 nd:(D.map 1e8).Nodup
 z:∀k,aE D k=aE (kD x) k
 ks:∀j∈D.map (·.1),KS ws j
 len:D.length≤20
 ne:D≠[]
def KnB(ws:List Fm)(H0 H:Hp)(kn:3e5)(q:Key×V):Prop:=∃(x:Fm) (p:3e5) (D:0e2),q=(Sum.inr (1e7:Str), .ref p)∧bJ x∧H p=some (.dK D)∧XX ws x D∧H0 p=none∧p≠kn
def KnB.to{ws:List Fm}{q:Key×V}(h:KnB ws H0 H kn q)(e:∀b o,H b=some o→H0 b=none→b≠kn→H' b=some o):KnB ws H0 H' kn q:=let ⟨x,p,D,h1,h2,h3,h4,h5,h6⟩:=h;⟨x,p,D,h1,h2,e _ _ h3 h5 h6,h4,h5,h6⟩
def pY(ws:List Fm)(H0 H:Hp)(kn:3e5)(kk:0e2):Prop:=H kn=some (.dK kk)∧∀q∈kk,KnB ws H0 H kn q
def pY.put{ws:List Fm}(h:pY ws H0 H kn kk)(gT:bJ x)(hk:H' kn=some (.dK (putK kk (Sum.inr (1e7:Str)) (.ref p))))(hp:H' p=some (.dK D))(hD:XX ws x D)(h0:H0 p=none)(np:p≠kn)(e:∀b o,H b=some o→H0 b=none→b≠kn→H' b=some o):pY ws H0 H' kn (putK kk (Sum.inr (1e7:Str)) (.ref p)):=by
 refine⟨hk,λq hq=>?_⟩;rcases lR hq with hq|hq
 ·exact(h.2 q hq).to e
 ·exact⟨x,p,D,hq,gT,hp,hD,h0,np⟩
def pY.same{ws:List Fm}(h:pY ws H0 H kn kk)(e:au H H'):pY ws H0 H' kn kk:=⟨e _ _ h.1,λq hq=>(h.2 q hq).to λb o z _ _=>e _ _ z⟩
def XY{ws:List Fm}(hx:x∈ws)(ok:bJ x):XX ws x (putK (cW 1 x.1) (Sum.inr "+") (.int x.2)):=by
 refine⟨(pN _).put _ _,kJ (Kf x),λk=>rfl,λj hj=>?_,?_,λz=>?_⟩
 ·rcases Ed hj with hj|hj
  ·exact .inr ⟨x,hx,hj⟩
  ·exact .inl hj
 ·have h1:(putK (cW 1 x.1) (Sum.inr "+") (V.int x.2)).length≤(cW 1 x.1).length+1:=bE _ _ _;have h2:(cW 1 x.1).length≤7:=tH ok.2.2;omega
 ·have:=oj (cW 1 x.1) (Sum.inr "+") (V.int x.2);rw[z] at this;cases this
def XZ{ws:List Fm}(hx:x∈ws)(hko:ki ko)(mP:(Sum.inr (⟨ko.toArray⟩:Str):Key)∈(cW 1 x.1).map 1e8):XX ws ([(1,[.one ko 1])],0) [(Sum.inr (⟨ko.toArray⟩:Str), .int 1)]:=by
 refine⟨λp hp=>⟨1,by rw[mem_singleton.mp hp]⟩,by simp,λk=>?_,λj hj=>?_,by simp,by simp⟩
 ·have e:kD ([(1,[.one ko 1])],0)=putK [(Sum.inr (⟨ko.toArray⟩:Str), .int 1)] (Sum.inr "+") (.int 0):=rfl;rw[e,dZ,ri];by_cases hk:k=Sum.inr ("+" :Str)
  ·rw[if_pos hk,hk,if_neg];intro z;injection z with z;exact AE hko z.symm
  ·rw[if_neg hk]
 ·have ej:j=Sum.inr (⟨ko.toArray⟩:Str):=by simpa using hj
  rw[ej];exact .inr ⟨x,hx,mP⟩
def X0(ws:List Fm):XX ws ([], -1) [(Sum.inr ("+" :Str), .int (-1))]:=by
 refine⟨λp hp=>⟨-1,by rw[mem_singleton.mp hp]⟩,by simp,λk=>rfl,λj hj=> .inl (by simpa using hj),by simp,by simp⟩
inductive K1(vs:4e5)(H:Hp)(Q:VK)(E:XK):Prop
 |mk (l:3e5) (ws:List Fm) (dH:vs=[.ref l]) (dI:iX H l ws) (dN:(∀w∈ws,bJ w)) (eK:ws.length=3) (gj:∀kn kk H',H kn=none→pY ws H H' kn kk→(∀s,Told ws s→(Sum.inr s:Key)∈kk.map 1e8)→au H H'→Q (.ref kn) H')
def EH:Sp:=K1
def lY:av ["_law_world_here","_law_known_here","_law_text_here","_law_counts","_law_charge","_law_kind_here"] ["_law_world_here"] (aj xP):=cX
def K2(D:Def K mg "_law_known" "_law_known" xP ["_law_world_here"])(T:3e3):a5 P w K mg base 1 "_law_known" ["_law_world_here"] EH:=by
 refine D.cN lY 0e7 0e1
 ·obtain⟨l,ws,rfl,_⟩:=h;rfl
 ·obtain⟨l,ws,rfl,⟨ts,hl,hP⟩,aM,h3,q⟩:=h;have hu:=cM hr;have Od:=hr.ky;have big:=bgL;have gX:=Paired.length hP;refine⟨_,(ai (az (i:=1) lY.nd rfl 0e6 (jA (ib bh (jA (ib bh (kg gB aq) jz) rfl rfl 3e4 0e4) jz) rfl rfl 3e4 0e4)) (ai (bU PassesOwn.never rfl (cE 2e1) (ia rfl (a6 (aB (i:=2) lY.nd rfl 0e6) (a6 (aB (i:=3) lY.nd rfl 0e6) (a6 (aB (i:=4) lY.nd rfl 0e6) dY)))) (ai (cF hu (pv 1) (pv 2) (bq ig rfl T.ja gM (ag (pv 3) ak)) rfl) (ai (cF hu (bX hu (pv 1) (pv 2) 2e7) bh (pv 4) rfl) (ao (cY (bU PassesOwn.never rfl (cJ (pv 3)) (aB (i:=5) lY.nd rfl 0e6) (ao (cF hu (pv 1) (pv 5) (jA (ib (pv 5) aq jz) rfl rfl 3e4 0e4) rfl)))))))) (ao (aA (pv 1))))),?_⟩;refine λkn Vm=>λp hp=>⟨1,rfl,aa,[(Sum.inr "+", .int (-1))],rfl,(by show 1≤15;decide),?_⟩;have Hr:p≠kn:=λz=>by rw[z,aa] at hp;cases hp
  have Qk:H p=none:=by rwa [ah Hr] at hp
  refine⟨by rw[ah (Ne.symm Hr),ah (Ne.symm Hr),aa],[(Sum.inr "e^-", .ref p)],rfl,(by show 1≤15;decide),?_⟩
  have hK0:pY ws H (upd (upd (upd (upd H kn (.dK [])) p (.dK [])) p (.dK (bF [] [(Sum.inr "+", .int (-1))]))) kn (.dK (bF [] [(Sum.inr "e^-", .ref p)]))) kn [(Sum.inr ("e^-" :Str), .ref p)]:=by
   refine⟨by rw[aa];rfl,λq hq=>?_⟩;rw[mem_singleton.mp hq];exact⟨([], -1),p,_,by rw[Oa],Kd,by rw[ah Hr,aa];rfl,X0 ws,Qk,Hr⟩
  have s0:au H (upd (upd (upd (upd H kn (.dK [])) p (.dK [])) p (.dK (bF [] [(Sum.inr "+", .int (-1))]))) kn (.dK (bF [] [(Sum.inr "e^-", .ref p)]))):=λb o z=>by
   rw[ah (af z Vm),ah (af z Qk),ah (af z Qk),ah (af z Vm)];exact z
  generalize upd (upd (upd (upd H kn (.dK [])) p (.dK [])) p (.dK (bF [] [(Sum.inr "+", .int (-1))]))) kn (.dK (bF [] [(Sum.inr "e^-", .ref p)]))=H0 at hK0 s0 ⊢;dsimp only [cg];refine⟨_,rfl,l,rfl,⟨_,bM.of (s0 _ _ hl)⟩,dP (K:=K) (a:=l) (xs:=ts.map V.ref) (λi σ H'=>∃(kk:0e2) (v2 v3 v4 v5:Option V),σ=[some (.ref l),some (.ref kn),v2,v3,v4,v5]∧pY ws H H' kn kk∧(Sum.inr ("e^-" :Str):Key)∈kk.map 1e8∧(∀w∈ws.take i,∀s,TB w s→(Sum.inr s:Key)∈kk.map 1e8)∧kk.length≤1+8*i∧au H H') ?_ (λi σ H' _ ⟨_,_,_,_,_,_,_,_,_,_,z⟩=>bM.of (z _ _ hl)) ?_ ?_⟩
  ·exact⟨_,none,none,none,none,rfl,hK0,by simp,(λw hw=>by rw[List.take_zero] at hw;cases hw),le_refl _,s0⟩
  ·rintro i v σ H' hi ⟨kk,v2,v3,v4,v5,rfl,hK,hE,qw,l9,e⟩;rw[getElem?_map] at hi;obtain⟨t,ht,rfl⟩:=gMp hi;obtain⟨x,hx,cd,h1,h2⟩:=bG hP ht;have KG:=mem_of_getElem? hx;have gT:=aM x KG;have zA:i<3:=by have:=(List.getElem?_eq_some_iff.mp hx).1;omega
   have Sx:(cW 1 x.1).length≤7:=tH gT.2.2;have ncn:cd≠kn:=af h2 Vm;refine⟨t,_,rfl,km.of (e _ _ h1),rfl,_,_,rfl,_,_,rfl,_,_,rfl,rfl,?_⟩;refine⟨_,rfl,cd,_,rfl, .inl (e _ _ h2),λp hp=>?_⟩;have Hr:p≠kn:=λz=>by rw[z,hK.1] at hp;cases hp
   have Qk:H p=none:=none_back e hp;have SW:(upd H' p (.dK (cW 1 x.1))) kn=some (.dK kk):=by rw[ah (Ne.symm Hr)];exact hK.1
   refine⟨_,rfl,_,rfl,kn,_,rfl,i4.k (k:=Sum.inr 1e7) SW 0e5,?_⟩;have hv:bK (putK kk (Sum.inr (1e7:Str)) (.ref p)) (Sum.inr 1e7)=some (.ref p):=by rw[zp,if_pos rfl]
   have He:(upd (upd H' p (.dK (cW 1 x.1))) kn (.dK (putK kk (Sum.inr (1e7:Str)) (.ref p)))) p=some (.dK (cW 1 x.1)):=by rw[ah Hr,aa]
   refine⟨_,rfl,_,rfl,_,rfl,kn, .ref p,rfl, .inl ⟨_,Sum.inr 1e7, .inl aa,rfl,hv.symm⟩,p,_,rfl,i4.k (k:=Sum.inr "+") He 0e5,?_⟩;have hK1:pY ws H (upd (upd (upd H' p (.dK (cW 1 x.1))) kn (.dK (putK kk (Sum.inr (1e7:Str)) (.ref p)))) p (.dK (putK (cW 1 x.1) (Sum.inr "+") (.int x.2)))) kn (putK kk (Sum.inr (1e7:Str)) (.ref p)):=
    hK.put gT (by rw[ah (Ne.symm Hr),aa]) aa (XY KG gT) Qk Hr λb o z _ nb=>by
      rw[ah (af z hp),ah nb,ah (af z hp)];exact z
   have e1:au H (upd (upd (upd H' p (.dK (cW 1 x.1))) kn (.dK (putK kk (Sum.inr (1e7:Str)) (.ref p)))) p (.dK (putK (cW 1 x.1) (Sum.inr "+") (.int x.2)))):=λb o z=>by
    rw[ah (af z Qk),ah (af z Vm),ah (af z Qk)];exact e _ _ z
   generalize upd (upd (upd H' p (.dK (cW 1 x.1))) kn (.dK (putK kk (Sum.inr (1e7:Str)) (.ref p)))) p (.dK (putK (cW 1 x.1) (Sum.inr "+") (.int x.2)))=H1 at hK1 e1 ⊢;have uq:(putK kk (Sum.inr (1e7:Str)) (.ref p)).length≤kk.length+1:=bE _ _ _;dsimp only [cg];refine⟨_,rfl,cd,cW 1 x.1,rfl,e1 _ _ h2,λo nf=>cQ nf (λj σ H3=>∃(w:Option V) (yT:0e2),σ=[some (.ref l),some (.ref kn),some (.str 1e7),some (.ref cd),some (.int x.2),w]∧pY ws H H3 kn yT∧(Sum.inr ("e^-" :Str):Key)∈yT.map 1e8∧(∀w∈ws.take i,∀s,TB w s→(Sum.inr s:Key)∈yT.map 1e8)∧(Sum.inr (1e7:Str):Key)∈yT.map 1e8∧(∀q∈(cW 1 x.1).take j,q.1∈yT.map 1e8)∧yT.length≤1+8*i+1+j∧au H H3) ?_ (λj σ H3 ⟨_,_,_,_,_,_,_,_,_,z⟩=>z _ _ h2) ?_ ?_⟩
   ·exact⟨v5,_,rfl,hK1,j6 hE,λw hw s hs=>j6 (qw w hw s hs),put_in _ _ _,(λq hq=>by rw[List.take_zero] at hq;cases hq),by omega,e1⟩
   ·rintro j kx vx σ H3 hj ⟨w,yT,rfl,X2,Vn,Be,hx3,ht3,hl3,e3⟩;obtain⟨ko,hko,ek⟩:=k8 gT _ (mem_of_getElem? hj);have ek:kx=Sum.inr (⟨ko.toArray⟩:Str):=ek;subst ek;have SV:(Sum.inr (⟨ko.toArray⟩:Str):Key)∈(cW 1 x.1).map 1e8:=mem_map_of_mem (f:=1e8) (mem_of_getElem? hj);have hjl:j< (cW 1 x.1).length:=(List.getElem?_eq_some_iff.mp hj).1;refine λp2 Tp=>⟨_,rfl,aa,[(Sum.inr ⟨ko.toArray⟩, .int 1)],rfl,(by show 1≤15;decide),?_⟩;have OO:p2≠cd:=λz=>by rw[z,aa] at Tp;cases Tp
    have K4:H3 p2=none:=by rwa [ah OO] at Tp
    have Tq:H p2=none:=none_back e3 K4;have OP:p2≠kn:=λz=>by rw[z,X2.1] at K4;cases K4
    have SX:(upd (upd (upd H3 cd (.dX o (.dK (cW 1 x.1)))) p2 (.dK [])) p2 (.dK (bF [] [(Sum.inr ⟨ko.toArray⟩, .int 1)]))) kn=some (.dK yT):=by
     rw[ah (Ne.symm OP),ah (Ne.symm OP),ah (Ne.symm ncn)];exact X2.1
    refine⟨_,rfl,_,rfl,kn,_,rfl,i4.k (k:=Sum.inr ⟨ko.toArray⟩) SX 0e5,?_⟩;have hfx:(⟨(fL ([(1,[.one ko 1])],0)).toArray⟩:Str)=⟨ko.toArray⟩:=by rw[Cs]
    have Nt:(putK yT (Sum.inr (⟨ko.toArray⟩:Str)) (.ref p2)).length≤yT.length+1:=bE _ _ _;refine⟨by rw[ah ncn,ah (Ne.symm OO),ah (Ne.symm OO),aa],some (.str ⟨ko.toArray⟩),putK yT (Sum.inr (⟨ko.toArray⟩:Str)) (.ref p2),rfl,?_,j6 Vn,λw hw s hs=>j6 (Be w hw s hs),j6 hx3,λq hq=>?_,by omega,λb o' z=>?_⟩
    ·have key:=X2.put (H':=upd (upd (upd (upd (upd H3 cd (.dX o (.dK (cW 1 x.1)))) p2 (.dK [])) p2 (.dK (bF [] [(Sum.inr ⟨ko.toArray⟩, .int 1)]))) kn (.dK (putK yT (Sum.inr (⟨ko.toArray⟩:Str)) (.ref p2)))) cd (.dK (cW 1 x.1))) (x:=([(1,[.one ko 1])],0)) (p:=p2) (yA hko)
      (by rw[hfx,ah (Ne.symm ncn),aa]) (by rw[ah OO,ah OP,aa];rfl) (XZ KG hko SV) Tq OP λb o' z z0 nb=>by
       have nbc:b≠cd:=λy=>by rw[y,h2] at z0;cases z0
       rw[ah nbc,ah nb,ah (af z K4),ah (af z K4),ah nbc];exact z
     rw[hfx] at key;exact key
    ·rw[take_snoc hj] at hq;rcases mem_append.mp hq with hq|hq
     ·exact j6 (ht3 q hq)
     ·have GG:q=(Sum.inr (⟨ko.toArray⟩:Str),vx):=by simpa using hq
      rw[GG];exact put_in _ _ _
    ·by_cases bc:b=cd
     ·subst bc;rw[aa];rw[h2] at z;exact z
     ·rw[ah bc,ah (af z Vm),ah (af z Tq),ah (af z Tq),ah bc];exact e3 _ _ z
   ·rintro σ H3 ⟨w,yT,rfl,X2,Vn,Be,hx3,ht3,hl3,e3⟩;rw[take_length] at ht3;refine⟨yT,_,_,_,_,rfl,X2,Vn,λw hw s hs=>?_,by omega,e3⟩;rw[take_snoc hx] at hw;rcases mem_append.mp hw with hw|hw
    ·exact Be w hw s hs
    ·have ew:w=x:=by simpa using hw
     subst ew;rcases hs with rfl|hs
     ·exact hx3
     ·obtain⟨q,hq,GG⟩:=mem_map.mp hs;rw[←GG];exact ht3 q hq
  ·rintro σ H' ⟨kk,v2,v3,v4,v5,rfl,hK,hE,qw,l9,e⟩;rw[length_map,gX] at qw l9;rw[take_length] at qw;refine⟨_,rfl,q kn kk H' Vm hK (λs hs=>?_) e⟩;rcases hs with rfl| ⟨w,hw,rfl⟩ | ⟨w,hw,hs⟩
   ·exact hE
   ·exact qw w hw _ (.inl rfl)
   ·exact qw w hw _ (.inr hs)
variable {uC uP uI uD uL uT eM eN eO uG uS:Tok}{Ch HE Sh St Ub:3e5}
theorem A1(c:Int)(all:0e2):∀(l acc:0e2),(acc.map 1e8).Nodup→((fO c acc l all).map 1e8).Nodup
 | [],_,h=>h
 |q::r,acc,h=>A1 c all r (bN acc q.1 (c*aE all q.1)) (kJ h)
theorem wJ(c:Int)(all:0e2){j:Key}:∀(l acc:0e2),j∈acc.map 1e8→j∈(fO c acc l all).map 1e8
 | [],_,h=>h
 |q::r,acc,h=>wJ c all r (bN acc q.1 (c*aE all q.1)) (j6 h)
theorem A2(c:Int)(all:0e2):∀{l acc:0e2} {q:Key×V},q∈l→q.1∈(fO c acc l all).map 1e8
 |p::r,acc,q,h=>by
  rcases mem_cons.mp h with e|e
  ·rw[e];exact wJ c all r (bN acc p.1 (c*aE all p.1)) (put_in _ _ _)
  ·exact A2 c all (acc:=bN acc p.1 (c*aE all p.1)) e
theorem wK(c:Int)(all:0e2):∀{l acc:0e2},j∈(fO c acc l all).map 1e8→j∈acc.map 1e8∨j∈l.map 1e8
 | [],_,h=> .inl h
 |p::r,acc,h=>by
  rcases wK c all (l:=r) (acc:=bN acc p.1 (c*aE all p.1)) h with z|z
  ·rcases Ed z with z|z
   ·exact .inl z
   ·exact .inr (by rw[z,map_cons];exact mem_cons_self ..)
  ·exact .inr (mem_cons_of_mem _ z)
inductive GR(vs:4e5)(H:Hp)(Q:VK)(E:XK):Prop
 |mk (am kn:3e5) (ws:List Fm) (H0:Hp) (kvs kk:0e2) (dH:vs=[.ref am, .ref kn]) (dI:H am=some (.dK kvs)) (dN:aU kvs) (eK:(kvs.map (·.1)).Nodup) (gj:pY ws H0 H kn kk) (i6:(∀q∈kvs,q.1∈kk.map 1e8)) (mD:am≠kn) (qY:(∀q∈kk,∀p,q.2= .ref p→p≠am)) (zX:kvs.length≤40) (IX:∀e D H',H e=none→H' e=some (.dK D)→aU D→(D.map 1e8).Nodup→(∀k,aE D k=jd kvs k)→(∀j∈D.map (·.1),KS ws j)→(kvs≠[]→D≠[])→au H H'→Q (.ref e) H')
def ud:Sp:=GR
def oA:av ["_law_amounts_here","_law_known_here","_law_found","_law_text_here","_law_kind_here"] ["_law_amounts_here","_law_known_here"] (aj qO):=cX
def GS(D:Def K mg "_law_totals" "_law_totals" qO ["_law_amounts_here","_law_known_here"]):a5 P w K mg base 1 "_law_totals" ["_law_amounts_here","_law_known_here"] ud:=by
 refine D.cN oA 0e7 0e1
 ·obtain⟨am,kn,ws,H0,kvs,kk,rfl,_⟩:=h;rfl
 ·obtain⟨am,kn,ws,H0,kvs,kk,rfl,yC,hI,hn,hK,mP,nak,npa,hl,q⟩:=h;have hu:=cM hr;have Od:=hr.ky;have big:=bgL;refine⟨_,(ai (az (i:=2) oA.nd rfl 0e6 dq) (ai (cY (bU PassesOwn.never rfl (cJ 2e1) (aB (i:=3) oA.nd rfl 0e6) (ao (cY (bU PassesOwn.never rfl (cJ (bX hu (pv 1) (pv 3) 2e7)) (aB (i:=4) oA.nd rfl 0e6) (ao (cF hu (pv 2) (pv 4) (ay bZ (b5 hu (pv 2) (pv 4) aq ⟨rfl,rfl,rfl,rfl⟩) (ay fT (bX hu 2e1 (pv 3) 2e7) (bX hu (bX hu (pv 1) (pv 3) 2e7) (pv 4) 2e7))) rfl))))))) (ao (aA (pv 2))))),?_⟩;refine λe he=>?_;have s1:=au.new (o:= .dK []) he;have he1:(upd H e (.dK [])) e=some (.dK []):=aa;generalize upd H e (.dK [])=H1 at s1 he1 ⊢;have nea:e≠am:=Ne.symm (af yC he);have nek:e≠kn:=Ne.symm (af hK.1 he);dsimp only [cg];refine⟨_,rfl,am,kvs,rfl,s1 _ _ yC,λo nf=>cQ nf (λi σ H'=>∃(v3 v4:Option V) (W:0e2),σ=[some (.ref am),some (.ref kn),some (.ref e),v3,v4]∧H' e=some (.dK W)∧aU W∧(W.map 1e8).Nodup∧(∀k,aE W k=jd (kvs.take i) k)∧(∀j∈W.map (·.1),KS ws j)∧(0<i→W≠[])∧W.length≤20*i∧au H H') ?_ (λi σ H' ⟨_,_,_,_,_,_,_,_,_,_,_,z⟩=>z _ _ yC) ?_ ?_⟩
  ·exact⟨none,none,[],rfl,he1,(λp hp=>by cases hp),nodup_nil,(λk=>rfl),(λj hj=>by cases hj),(λz=>absurd z (lt_irrefl _)),le_refl _,s1⟩
  ·rintro i kx vx σ H' hi ⟨v3,v4,W,rfl,Dl,hIW,hnW,hzW,hkW,_,hlW,e'⟩;have zA:i<kvs.length:=(List.getElem?_eq_some_iff.mp hi).1;have hm:=mem_of_getElem? hi;obtain⟨z,ez⟩:=hI _ hm;have ez:vx=V.int z:=ez;subst ez;have hvz:bK kvs kx=some (V.int z):=fH hn hm;obtain⟨v,hv,hvm⟩:=j5 (mP _ hm);have hv:bK kk kx=some v:=hv;obtain⟨x,p,Ds,GG,gT,hp,hD,Qk,Hr⟩:=hK.2 _ hvm;injection GG with ek ev;have ek:kx=Sum.inr (1e7:Str):=ek;subst ev;have Ts:p≠am:=npa _ hvm p rfl;have WT:p≠e:=af hp he;have Gz:(upd H' am (.dX o 3e0)) kn=some (.dK kk):=by rw[ah (Ne.symm nak)];exact e' _ _ hK.1
   have He:(upd H' am (.dX o 3e0)) p=some (.dK Ds):=by rw[ah Ts];exact e' _ _ hp
   have Ve:(upd H' am (.dX o 3e0)) e=some (.dK W):=by rw[ah nea];exact Dl
   have ha2:(upd H' am (.dX o 3e0)) am=some (.dX o 3e0):=aa;have hDl:=hD.len;refine⟨_,rfl,_,rfl,kn, .ref p,rfl, .inl ⟨_,kx, .inl Gz,rfl,hv.symm⟩,p,Ds,rfl,He,λo2 nf2=>cQ nf2 (λj σ H3=>∃(v4:Option V),σ=[some (.ref am),some (.ref kn),some (.ref e),some (kV kx),v4]∧H3 e=some (.dK (fO z W (Ds.take j) Ds))∧H3 p=some (.dK Ds)∧H3 am=some (.dX o 3e0)∧∀b o',H b=some o'→b≠am→H3 b=some o') ?_ (λj σ H3 ⟨_,_,_,z,_⟩=>z) ?_ ?_⟩
   ·exact⟨v4,rfl,Ve,He,ha2,λb o' z nb=>by rw[ah nb];exact e' _ _ z⟩
   ·rintro j k2 v2 σ H3 hj ⟨v4,rfl,he3,Qf,ha3,k3⟩;have hm2:=mem_of_getElem? hj;have hv2:=hD.int.d5 hm2;have NL:=cS z Ds (Ds.take j) _ hIW;have SA:=iA z Ds (Ds.take j) W;have P5:(Ds.take j).length≤Ds.length:=length_take_le' _ _;have tb:=pS gT k2;have hz2:=hD.z k2;have hz3:aE (kD x) k2=aE (g9 x) k2:=rfl;have he4:(upd H3 p (.dX o2 (.dK Ds))) e=some (.dK (fO z W (Ds.take j) Ds)):=by rw[ah (Ne.symm WT)];exact he3
    have Xo:(upd H3 p (.dX o2 (.dK Ds))) am=some (.dX o 3e0):=by rw[ah (Ne.symm Ts)];exact ha3
    have SX:(upd H3 p (.dX o2 (.dK Ds))) kn=some (.dK kk):=by rw[ah (Ne.symm Hr)];exact k3 _ _ hK.1 (Ne.symm nak)
    have Qg:(upd H3 p (.dX o2 (.dK Ds))) p=some (.dX o2 (.dK Ds)):=aa;refine⟨_,rfl,e,rfl, .inl ⟨_, .inl he4⟩,_,rfl,_,fU.k (k:=k2) he4,_,rfl,_,rfl,am,V.int z,rfl, .inl ⟨_,kx, .inr ⟨o,Xo⟩,rfl,hvz.symm⟩,_,rfl,_,rfl,kn, .ref p,rfl, .inl ⟨_,kx, .inl SX,rfl,hv.symm⟩,_,rfl,p,V.int (aE Ds k2),rfl, .inl ⟨_,k2, .inr ⟨o2,Qg⟩,rfl,hv2.symm⟩,_,_,rfl,rfl, .inr ⟨by omega,by omega⟩,_,_,NL.at k2,rfl,_,rfl,_,rfl,e,_,rfl,i4.k (k:=k2) he4 0e5,?_⟩;refine⟨by rw[ah WT];exact Qg,_,rfl,?_,aa,?_,λb o' z' nb=>?_⟩
    ·rw[ah (Ne.symm WT),aa];unfold fO;rw[take_snoc hj,foldl_append];rfl
    ·rw[ah (Ne.symm Ts),ah (Ne.symm nea)];exact Xo
    ·by_cases bp:b=p
     ·subst bp;rw[aa];have:=k3 _ _ z' nb;rw[Qf] at this;exact this
     ·rw[ah bp,ah (af z' he),ah bp];exact k3 _ _ z' nb
   ·rintro σ H3 ⟨v4,rfl,he3,Qf,ha3,k3⟩;rw[take_length] at he3;have hvl:=iA z Ds Ds W;refine⟨ha3,_,_,_,rfl,by rw[ah nea];exact he3,cS _ _ _ _ hIW,A1 _ _ _ _ hnW,λk=>?_,λj hj=>?_,λ_ z'=>?_,by omega,λb o' z'=>?_⟩
    ·rw[tT z hD.nd,hzW,hD.z k,←KZ gT k,←ek,take_snoc hi];unfold jd;rw[map_append,sum_append];simp [zv]
    ·rcases wK z Ds hj with hj|hj
     ·exact hkW j hj
     ·exact hD.ks j hj
    ·obtain⟨d0,r0,e0⟩:∃d r,Ds=d::r:=by
      cases hds:Ds with
      |nil=>exact absurd hds hD.ne
      |cons d r=>exact⟨d,r,rfl⟩
     have:=A2 z Ds (l:=Ds) (acc:=W) (q:=d0) (by rw[e0];exact mem_cons_self ..);rw[z'] at this;cases this
    ·by_cases ba:b=am
     ·subst ba;rw[aa];rw[yC] at z';exact z'
     ·rw[ah ba];exact k3 _ _ z' ba
  ·rintro σ H' ⟨v3,v4,W,rfl,Dl,hIW,hnW,hzW,hkW,kq,hlW,e'⟩;rw[take_length] at hzW;exact⟨_,rfl,q e W H' he Dl hIW hnW hzW hkW (λz=>kq (length_pos_iff.mpr z)) e'⟩
variable {uC uP uI uD uL uT eM eN eO uG uS:Tok}{Ch HE Sh St Ub:3e5}
def OQ(hn:(kvs.map 1e8).Nodup):((fP kvs).map 1e8).Nodup:=(List.filter_sublist.map _).nodup hn
inductive OR(St:3e5)(vs:4e5)(H:Hp)(Q:VK)(E:XK):Prop
 |mk (st d g kn du so:3e5) (ws:List Fm) (H0:Hp) (kvs kk Dd:0e2) (ss:3e8) (dH:vs=[.ref st, .ref kn, .ref du, .ref so]) (dI:(∀w∈ws,bJ w)) (dN:iC St H st d g) (eK:H d=some (.dK kvs)) (gj:aU kvs) (i6:(kvs.map (·.1)).Nodup) (mD:om ws kvs) (qY:(∀k,0≤aE kvs k)) (zX:kvs.length≤40) (IX:pY ws H0 H kn kk) (Cr:(∀s,Told ws s→(Sum.inr s:Key)∈kk.map 1e8)) (Oo:H du=some (.dK Dd)) (S6:aU Dd) (S7:(Dd.map (·.1)).Nodup) (S8:(∀k,aE Dd k=jd kvs k)) (Xn:H so=some (.lst (ss.map V.str))) (h'16:(∀s∈ss,(Sum.inr s:Key)∈Dd.map 1e8)) (h'17:∀e H',H e=none→H' e=some (.dK (fP kvs))→au H H'→Q (.ref e) H')
def K5(St:3e5):Sp:=OR St
def mN:av ["_law_store","_law_known_here","_law_due","_law_some","_law_told","_law_text_here","_law_found","_law_kind_here","_law_total"] ["_law_store","_law_known_here","_law_due","_law_some"] (aj Dx):=cX
def OS(D:Def K mg "_law_kept" "_law_kept" Dx ["_law_store","_law_known_here","_law_due","_law_some"])(T:3e3)(c1:aD P w K mg base 1 St "stocks" 1e5 (n9 St))(c2:a5 P w K mg base 1 "_law_whole" ["_law_found"] DA)(c3:a5 P w K mg base 1 "_law_totals" ["_law_amounts_here","_law_known_here"] ud)(c4:aD P w K mg base 12 St "total" ["self","kind"] (Eb St)):a5 P w K mg base 13 "_law_kept" ["_law_store","_law_known_here","_law_due","_law_some"] (K5 St):=by
 obtain⟨_,_,a7⟩:=c1;obtain⟨_,_,wM⟩:=c2;obtain⟨_,_,j7⟩:=c3;obtain⟨_,_,u7⟩:=c4;refine D.cN mN 0e7 0e1
 ·obtain⟨st,d,g,kn,du,so,ws,H0,kvs,kk,Dd,ss,rfl,_⟩:=h;rfl
 ·obtain⟨st,d,g,kn,du,so,ws,H0,kvs,kk,Dd,ss,rfl,aM,⟨dx,eC⟩,hd,hI,hn,hT,Ql,hl,hK,qw,K6,Vo,Qd,Vp,X3,hss,q⟩:=h;have hu:=cM hr;have Od:=hr.ky;have big:=bgL
  refine⟨_,(ai (az (i:=4) mN.nd rfl 0e6 (aH 2e1 T.bB a7.m a7.ok 4e3 a7.b .nil a8)) (ai (bC (ku (iZ (bS kA rfl T.fJ eI (ag (pv 4) (ag (wX (v:= .ty "dict") rfl T.ja gM rfl) ak))))) (ao (aA mq))
      aN) (ai (cY (bU PassesOwn.never rfl (cJ (pv 4)) (aB (i:=5) mN.nd rfl 0e6) (ao (bC (PW.pt (vc (mr (Fg hu (pv 5) (pv 1))) (vc (ku (iZ (fz wM hr (ag (bX hu (pv 4) (pv 5) 2e7) ak)))) (rB (aL pZ (bX hu (pv 4) (pv 5) 2e7) aq (aO _)))))) (ao (aA mq))
        aN)))) (ai (az (i:=6) mN.nd rfl 0e6 (fz j7 hr (ag (pv 4) (ag (pv 1) ak)))) (ai (cY (bU PassesOwn.never rfl (cJ (pv 2)) (aB (i:=7) mN.nd rfl 0e6) (ao (bC (aL me (b5 hu (pv 6) (pv 7) aq ⟨rfl,rfl,rfl,rfl⟩) (bX hu (pv 2) (pv 7) 2e7) (aO _)) (ao (aA mq))
        aN)))) (ai (bU PassesOwn.never rfl (cE (pv 3)) (aB (i:=7) mN.nd rfl 0e6) (ai (az (i:=8) mN.nd rfl 0e6 (pq u7 hr T.bB 2e1 (ag (pv 7) ak))) (ao (bC (PW.pt (vc (ku (iZ (fz wM hr (ag (pv 8) ak)))) (rB (aL me (pv 8) (bX hu (pv 2) (pv 7) 2e7) (aO _))))) (ao (aA mq))
        aN)))) (ao (aA (pv 4))))))))),?_⟩
  refine⟨_,rfl,st,dx,_,rfl,eC,eY _ _ 0e0 0e0,st,d,g,kvs,rfl,⟨dx,eC⟩,hd,hI,hn,by omega,λue H1 X4 Qm e1=>?_⟩;have hIp:aU (fP kvs):=λp hp=>hI p ((mem_filter.mp hp).1);have Qn:=OQ hn;have hlp:=Ec kvs
  have X5:∀q∈fP kvs,q.1∈kk.map 1e8:=λq hq=>by
   obtain⟨s,es,hs⟩:=hT q (mem_filter.mp hq).1;rw[es];exact qw s hs
  have nuk:ue≠kn:=Ne.symm (af hK.1 X4);have nud:ue≠du:=Ne.symm (af K6 X4)
  have npu:∀q∈kk,∀p,q.2= .ref p→p≠ue:=λq hq p ep=>by
   obtain⟨x,p',D',GG,_,ql,_⟩:=hK.2 q hq;rw[GG] at ep;injection ep with ep;subst ep;exact af ql X4
  dsimp only [cg];refine⟨_,rfl,_,_,_,_,_,rfl,rfl, .dK Qm,T.k3,_,rfl,d7 ?_⟩;refine⟨_,rfl,ue,fP kvs,rfl,Qm,λo nf=>cQ nf (λi σ H'=>∃v5:Option V,σ=[some (.ref st),some (.ref kn),some (.ref du),some (.ref so),some (.ref ue),v5,none,none,none]∧H'=H1) ⟨none,rfl,rfl⟩ (λi σ H' ⟨_,_,z⟩=>by rw[z];exact Qm) ?_ ?_⟩
  ·rintro i k v σ H' hi ⟨v5,rfl,rfl⟩;have hm:=mem_of_getElem? hi;obtain⟨z,ez⟩:=hIp _ hm;have ez:v=V.int z:=ez;subst ez;have hz0:0<z:=of_decide_eq_true (mem_filter.mp hm).2;have hv:bK (fP kvs) k=some (V.int z):=fH Qn hm;have Gz:(upd H' ue (.dX o (.dK (fP kvs)))) kn=some (.dK kk):=by rw[ah (Ne.symm nuk)];exact e1 _ _ hK.1
   obtain⟨vk,hvk,_⟩:=j5 (X5 _ hm);have hvk:bK kk k=some vk:=hvk;refine⟨_,rfl,_,rfl,kn,some vk,rfl,(by rw[←hvk];exact fU.k (k:=k) Gz),_,rfl,d7 ?_⟩;refine⟨_,rfl,_,rfl,ue,V.int z,rfl, .inl ⟨_,k, .inr ⟨o,aa⟩,rfl,hv.symm⟩,z,rfl,_,rfl,d7 ?_⟩;refine⟨_,rfl,_,rfl,ue,V.int z,rfl, .inl ⟨_,k, .inr ⟨o,aa⟩,rfl,hv.symm⟩,_,_,rfl,rfl,_,rfl,eF (λec=>?_) λ_=>?_⟩
   ·have ec:z<1:=by simpa using ec
    omega
   ·exact⟨aa,some (kV k),rfl,by rw[jt,eG Qm]⟩
  rintro σ H' ⟨v5,rfl,rfl⟩;refine⟨_,rfl,_,rfl,ue,kn,ws,H0,fP kvs,kk,rfl,Qm,hIp,Qn,hK.same e1,X5,nuk,npu,by omega,λfo Df H2 nfo W2 hIf Hi hzf _ _ e2=>?_⟩;have tW:=e1.trans e2;have hzf:∀k,aE Df k=aE Dd k:=λk=>by rw[hzf,Vp,EG k hI (XW hI hn Ql)]
  have Tt:=tW _ _ K6;have nfd:fo≠du:=Ne.symm (af (e1 _ _ K6) nfo);dsimp only [cg];refine⟨_,rfl,du,Dd,rfl,Tt,λo nf=>cQ nf (λi σ H'=>∃v7:Option V,σ=[some (.ref st),some (.ref kn),some (.ref du),some (.ref so),some (.ref ue),v5,some (.ref fo),v7,none]∧H'=H2) ⟨none,rfl,rfl⟩ (λi σ H' ⟨_,_,z⟩=>by rw[z];exact Tt) ?_ ?_⟩
  ·rintro i k v σ H' hi ⟨v7,rfl,rfl⟩;have hm:=mem_of_getElem? hi;have hv:=Vo.d5 hm;have hf2:(upd H' du (.dX o (.dK Dd))) fo=some (.dK Df):=by rw[ah nfd];exact W2
   refine⟨_,rfl,fo,rfl, .inl ⟨_, .inl hf2⟩,_,rfl,_,fU.k (k:=k) hf2,?_⟩;rw[hIf.at k,hzf k];refine⟨_,rfl,_,rfl,du,V.int (aE Dd k),rfl, .inl ⟨_,k, .inr ⟨o,aa⟩,rfl,hv.symm⟩,rfl,_,rfl,C6 rfl ?_⟩;exact⟨aa,some (kV k),rfl,by rw[jt,eG Tt]⟩
  rintro σ H' ⟨v7,rfl,rfl⟩;have X6:=tW _ _ X3
  obtain⟨fs,hfs⟩:=wI (as:=kvs) (Rl:=Ea) λq hq=>by
   obtain⟨s,es,hs⟩:=hT q hq;obtain⟨x,gT,ex⟩:=pV aM hs;have qy:q=(Sum.inr (1e7:Str),q.2):=by rw[←ex,←es]
   exact⟨x,by rw[qy];exact SK gT q.2⟩
  refine⟨_,rfl,so,rfl,⟨_,bM.of X6⟩,dP (K:=K) (a:=so) (xs:=ss.map V.str) (λi σ H3=>∃v7 v8:Option V,σ=[some (.ref st),some (.ref kn),some (.ref du),some (.ref so),some (.ref ue),v5,some (.ref fo),v7,v8]∧au H' H3) ⟨v7,none,rfl,au.refl _⟩ (λi σ H3 _ ⟨_,_,_,z⟩=>bM.of (z _ _ X6)) ?_ ?_⟩
  ·rintro i x σ H3 hi ⟨v7,v8,rfl,e3⟩;rw[getElem?_map] at hi;obtain⟨sx,hx,rfl⟩:=gMp hi;have El:=tW.trans e3;have mP:=hss sx (mem_of_getElem? hx);have hv:=Vo.j5 mP;refine⟨_,rfl,st,dx,_,rfl,El _ _ eC,eY _ _ 0e0 0e0,_,rfl,st,d,g,sx,kvs,fs,rfl,⟨dx,El _ _ eC⟩,El _ _ hd,hI,by omega,hfs,λH4 e4=>?_⟩;rw[A0 sx hfs,←Vp];dsimp only [cg];refine⟨_,rfl,_,rfl,_,rfl,d7 ⟨_,rfl,_,rfl,_,rfl,du,V.int (aE Dd (Sum.inr sx)),rfl, .inl ⟨_,Sum.inr sx, .inl ((El.trans e4) _ _ K6),rfl,hv.symm⟩,rfl,_,rfl,C6 rfl ?_⟩⟩;exact⟨_,_,rfl,e3.trans e4⟩
  ·rintro σ H3 ⟨v7,v8,rfl,e3⟩;exact⟨_,rfl,q ue H3 X4 (e3 _ _ (e2 _ _ Qm)) (tW.trans e3)⟩
variable {uC uP uI uD uL uT eM eN eO uG uS:Tok}{Ch HE Sh St Ub:3e5}
structure OT(K:0e9)(mg:1e3)(C R G Pc Fo St HE Sh Ub:3e5)(uK uN uB uE uM uC uP uI uD uL uT:Tok):Prop extends qv K mg C R G Pc Fo St uK uN uB uE uM uC uP uI uD uL uT,Og K mg HE Sh where
 lh:mg "enumerate" =none
 nZ:mg "sorted" =none
 og:mg "Unbalanced" =some (.ref Ub)
 A3:PySem.W.mroIn K Ub (.ref HE)=some true
 K7:XIs K Ub
 iS:kitOne K (.ref Sh) (.ref Sh)=some true
 iU:kitOne K (.ref Ub) (.ref Ub)=some true
inductive GU(Sh St Ub:3e5)(vs:4e5)(H:Hp)(Q:VK)(E:XK):Prop
 |mk (st d g tl:3e5) (kvs:0e2) (gs:4e5) (ts:List Addr) (rs:List gW) (dH:vs=[.ref st, .ref tl]) (dI:iC St H st d g) (dN:H d=some (.dK kvs)) (eK:H g=some (.lst gs)) (gj:g≠tl) (i6:aU kvs) (mD:kvs.length≤400) (qY:H tl=some (.lst (ts.map V.ref))) (zX:Paired (wy H) ts rs) (IX:1≤rs.length) (Cr:rs.length≤2) (Oo:gs.length≤900) (S6:(∀r∈rs,t5 r.x r.xs r.ys)) (S7:((∀r∈rs,Bg r)→∀i r t k l,rs[i]? =some r→bx (iG kvs (rs.take i)) r.xs r.ys r.m=some (t,k,l)→0≤t+1∧t+1<10^60∧0≤l∧l<10^60)) (S8:((∀r∈rs,Bg r)→(∀i r,rs[i]? =some r→bx (iG kvs (rs.take i)) r.xs r.ys r.m=none)→∀d' K8 H',(d'=d∨H d'=none)→iC St H' st d' g→H' d'=some (.dK (iG kvs rs))→H' g=some (.lst K8)→K8.length≤gs.length+2→(∀b o,H b=some o→b≠st→b≠g→H' b=some o)→Q .cw H')) (Xn:((∀r∈rs,Bg r)→(∃i r p,rs[i]? =some r∧bx (iG kvs (rs.take i)) r.xs r.ys r.m=some p)→∀e H',RX H' e Sh→au H H'→Q (.ref e) H')) (h'16:((∃r∈rs,¬Bg r)→∀e H',RX H' e Ub→au H H'→Q (.ref e) H'))
def A4(Sh St Ub:3e5):Sp:=GU Sh St Ub
def oB:av ["_law_store","_law_texts_here","_law_caught_here","e"] ["_law_store","_law_texts_here"] (aj qP):=cX
def GV(D:Def K mg "_law_caught" "_law_caught" qP ["_law_store","_law_texts_here"])(T:OT K mg C R G Pc Fo St HE Sh Ub uK uN uB uE uM uC uP uI uD uL uT)(Z:PySem.W.fu K Sh HE f0)(ZU:PySem.W.fu K Ub HE f1)(c1:xA P w K mg base 17 St "go_all" ["self","rows"] (yF C G Pc Fo Ch Sh St Ub))(c2:qH P w K mg base 18 St "go" ["self","text","times"] [1] (Tb C G Pc Fo Ch Sh St Ub)):a5 P w K mg base 19 "_law_caught" ["_law_store","_law_texts_here"] (A4 Sh St Ub):=by
 obtain⟨_,_,cD⟩:=c1;obtain⟨_,_,eZ⟩:=c2;obtain⟨_,j8,j9⟩:=eZ.bs 1 0e4;refine D.cN oB 0e7 0e1
 ·obtain⟨st,d,g,tl,kvs,gs,ts,rs,rfl,_⟩:=h;rfl
 ·obtain⟨st,d,g,tl,kvs,gs,ts,rs,rfl,⟨dx,eC⟩,hd,hg,Xt,hI,l9,pT,hP,Vq,Kt,hgl,aM,hb,q,qS,qU⟩:=h;have big:=bgL;have gX:=Paired.length hP;refine⟨_,(ai (az (i:=2) oB.nd rfl 0e6 mq) (ai (M7 ⟨rfl,rfl⟩ (λ_ _=> (ao (bC (aL dk (bS (uO K rfl) rfl T.nH jE (ag (pv 1) ak)) aq (aO _)) (ao (a9 (mY 2e1 T.bB eZ.m eZ.ok 4e3 j9 j8 si (ag (bQ (qF K rfl) (bQ (zD K rfl) (pv 1) aq 2e7) aq 2e7) (ag (bQ (qF K rfl) (bQ (zD K rfl) (pv 1) aq 2e7) aq 2e7) ak))))) (ao (a9 (mY 2e1 T.bB cD.m cD.ok 4e3 cD.b .nil si (ag (pv 1) ak))))))) (λ_=>(RY K rfl (i:=3) rfl T.iV T.yB oB.nd rfl rfl (λ_=> (ao (az (i:=2) oB.nd rfl 0e6 (pv 3)))) (RT Dq)))) (ao (aA (pv 2))))),?_⟩;refine⟨_,rfl,tl,_,rfl, .inl (bM.of pT),rfl,_,rfl,eF (λhc=>?_) λhc=>?_⟩
  ·have hc:ts.length=1:=by
    have:V.int ((ts.map V.ref).length:Int)=V.int 1:=by simpa using hc
    injection this with this;rw[length_map] at this;omega
   obtain⟨t,rfl⟩:=List.length_eq_one_iff.mp hc
   obtain⟨r,rfl,Cv⟩:∃r,rs=[r]∧wy H t r:=by
    cases hP with
    |cons a b=>cases b;exact⟨_,rfl,a⟩
   have Cv:H t=some (.tup [.str r.x, .int r.m]):=Cv;have qp:uH ([t].map V.ref) 0=some (.ref t):=lA (j:=0) rfl;have one:∀{P:gW→Prop},P r→∀r'∈[r],P r':=fun {P} h r' js=>by rw[mem_singleton.mp js];exact h
   have i0:∀{i:Nat} {r':gW},[r][i]? =some r'→i=0∧r'=r:=fun {i r'} z=>by
    match i,z with
    |0,z=>exact⟨rfl,(Option.some.inj z).symm⟩
   refine⟨_,rfl,st,dx,_,rfl,eC,eY _ _ 0e0 0e0,_,rfl,tl,_,_, .ref t,rfl,rfl,bM.of pT,qp,t,_,_, .str r.x,rfl,rfl,km.of Cv,rfl,_,rfl,tl,_,_, .ref t,rfl,rfl,bM.of pT,qp,t,_,_, .int r.m,rfl,rfl,km.of Cv,rfl,st,d,g,kvs,gs,r,rfl,⟨dx,eC⟩,hd,hg,hI,l9,by omega,aM r (mem_singleton_self _),(λhv t k l z=>hb (one hv) 0 r t k l rfl z),λhv hs d' t' H' h0 h1 h2 h3 h4 h5=>?_,λhv t' x l e lN H' hs he u6 ne Ox e1=>?_,λms p rr e lN H' hv hKm L4 he u6 ne Ox e1=>?_⟩
   ·refine⟨_,rfl,q (one hv) (λi r' hi=>?_) d' _ H' h0 h1 h2 h3 (by rw[length_append];simp) h5⟩;obtain⟨rfl,rfl⟩:=i0 hi;exact hs
   ·refine⟨Sh,HE,f0,true,rfl,Z,T.AH,gK λe' Dl=>?_⟩;exact⟨_,rfl,_,rfl,qS (one hv) ⟨0,r,_,rfl,hs⟩ e' H' (.inr ⟨lN,_,Dl,u6⟩) e1⟩
   ·refine⟨Ub,HE,f1,true,rfl,ZU,T.A3,gK λe' Dl=>?_⟩;exact⟨_,rfl,_,rfl,qU ⟨r,mem_singleton_self _,hv⟩ e' H' (.inr ⟨lN,_,Dl,u6⟩) e1⟩
  ·refine⟨_,rfl,st,dx,_,rfl,eC,eY _ _ 0e0 0e0,_,rfl,st,d,g,tl,kvs,gs,ts,rs,rfl,⟨dx,eC⟩,hd,hg,Xt,hI,l9,pT,hP,by omega,by omega,aM,hb,λhv hs d' H' h0 h1 h2 h3 h4=>?_,λhv i r t' x l e lN H' z1 z2 hs he u6 ne Ox e1=>?_,λi r ms p rr e lN H' z1 z2 hv hKm L4 he u6 ne Ox e1=>?_⟩
   ·exact⟨_,rfl,q hv hs d' _ H' h0 h1 h2 h3 (by rw[length_append,length_map];omega) h4⟩
   ·refine⟨Sh,HE,f0,true,rfl,Z,T.AH,gK λe' Dl=>?_⟩;exact⟨_,rfl,_,rfl,qS hv ⟨i,r,_,z1,hs⟩ e' H' (.inr ⟨lN,_,Dl,u6⟩) e1⟩
   ·refine⟨Ub,HE,f1,true,rfl,ZU,T.A3,gK λe' Dl=>?_⟩;exact⟨_,rfl,_,rfl,qU ⟨r,mem_of_getElem? z1,hv⟩ e' H' (.inr ⟨lN,_,Dl,u6⟩) e1⟩
def Tu{xs ys:List Tm}(h1:xs≠[])(h2:ys≠[])(ox:∀t∈xs,dJ t)(oy:∀t∈ys,dJ t)(h5:xs.length+ys.length≤8):t5 (Txt.join " -> " [wg xs,wg ys]) xs ys:=by
 have et:Txt.join " -> " [wg xs,wg ys]=chS xs ys:=KJ _ _
 have fl:∀zs:List Tm,(∀t∈zs,dJ t)→yU zs≤7*zs.length:=λzs=>by
  induction zs with
  |nil=>intro _;exact le_refl _
  |cons z r ih=>
   intro h;have h1:=(h z 1e6).2.2.2.2;have h2:=ih λt ht=>h t (mem_cons_of_mem _ ht);unfold yU at h2 ⊢;rw[map_cons,sum_cons,length_cons];omega
 have hf:=fl (xs++ys) λt ht=>by
  rcases mem_append.mp ht with z|z
  ·exact ox t z
  ·exact oy t z
 rw[length_append] at hf;rw[et];exact⟨by rw[AO],h1,h2,ox,oy,OE ox oy h1 h2 h5,h5,by omega,λt ht=>(ox t ht).2.2,λt ht=>(oy t ht).2.2⟩
def K9(ok:bJ x):∃k,aE (g9 x) k≠0:=by
 by_cases z:x.1=[]
 ·have e:x.2= -1:=by
   have:=ok.1;rw[z] at this;exact this
  refine⟨Sum.inr ("+" :Str),?_⟩;rw[Cu,if_pos rfl];omega
 ·have kq:=Qc ok z
  cases hc:cW 1 x.1 with
  |nil=>exact absurd hc kq
  |cons q r=>
   have mP:q.1∈(cW 1 x.1).map 1e8:=by rw[hc];exact mem_cons_self ..
   have p1:=(KL ok).one (pN _) mP;refine⟨q.1,?_⟩;rw[Cu,if_neg λe=>Ee ok (by rw[←e];exact mP)];omega
def X7(hy:bJ y.2)(h:∀k,sumZ xs k=sumZ (zs++[y]) k):∃k,sumZ xs k≠sumZ (zs++[(y.1+1,y.2)]) k:=by
 obtain⟨k,hk⟩:=K9 hy;refine⟨k,λe=>hk ?_⟩;rw[h k,gw,gw,cV,cV,dA] at e;dsimp only at e;rw[add_mul] at e;omega
def CL{ws:List Fm}(h:∀s,Told ws s→(Sum.inr s:Key)∈am.map 1e8)(hG:uv ws 8 xs ys):InK am xs ys:=
 ⟨λq hq=>by obtain⟨s,e,t⟩:=AV hG.2.2.1 q hq;rw[e];exact h s t,λq hq=>by obtain⟨s,e,t⟩:=AV hG.2.2.2.1 q hq;rw[e];exact h s t⟩
structure OkQ(ws:List Fm)(r:gW):Prop where
 g:uv ws 8 r.xs r.ys
 m0:0≤r.m
def OU{m:Int}(h0:∀k,0≤aE am k)(hy:∀k,0≤aE (aV ys) k)(m0:0≤m)(hs:bx am xs ys m=none)(k:Key):0≤aE (cq am xs ys m) k:=by
 obtain⟨n,rfl⟩:=eq_ofNat_of_zero_le m0;rw[ua,AU];have h0k:=h0 k;have hyk:=hy k
 cases n with
 |zero=>simpa using h0k
 |succ n=>
  by_cases hk:k∈(aV xs).map 1e8
  ·obtain⟨q,hq,rfl⟩:=mem_map.mp hk;have:=lV (CH hs n (lt_succ_self n)) q hq;rw[walk_z] at this;push_cast;rw[add_mul];omega
  ·rw[lJ hk,Int.sub_zero];have:=mul_nonneg (Int.natCast_nonneg (n+1)) hyk;omega
def yY.turn{ws:List Fm}(h:yY ws am){r:gW}(hr:OkQ ws r)(hs:bx am r.xs r.ys r.m=none):yY ws (cq am r.xs r.ys r.m):=by
 have hk:(cq am r.xs r.ys r.m).map 1e8=am.map 1e8:=hV _ _ _ _ (KR (CL h.all hr.g));obtain⟨_,_,_,h4,h5,_⟩:=hr.g;refine⟨cS _ _ _ _ h.int,by rw[hk];exact h.nd,λq hq=>?_,λs hs=>by rw[hk];exact h.all s hs,OU h.nn (λk=>(oq (λx hx=>(h4 x hx).1) 0e5 k).1) hr.m0 hs,?_⟩
 ·have:=mem_map_of_mem (f:=1e8) hq;rw[hk] at this;obtain⟨q',qy,e'⟩:=mem_map.mp this;obtain⟨s,es,hs⟩:=h.told q' qy;exact⟨s,by rw[←e',es],hs⟩
 ·have:=congrArg List.length hk;rw[length_map,length_map] at this;rw[this];exact h.len
theorem yY.rows{ws:List Fm}:∀{rs:List gW} {am:0e2},yY ws am→(∀r∈rs,OkQ ws r)→(∀i r,rs[i]? =some r→bx (iG am (rs.take i)) r.xs r.ys r.m=none)→yY ws (iG am rs)∧∀k,jd (iG am rs) k=jd am k
 | [],_,h,_,_=>⟨h,λ_=>rfl⟩
 |r::l,am,h,ok,hs=>by
  have hr:=ok r 1e6;have h1:=h.turn hr (hs 0 r rfl);obtain⟨h2,h3⟩:=yY.rows h1 (λr' js=>ok r' (mem_cons_of_mem _ js)) λi r' hi=>hs (i+1) r' hi;refine⟨h2,λk=>?_⟩;show jd (iG (cq am r.xs r.ys r.m) l) k=_;rw[h3 k,AZ h.int h.nd (λz hz=>(hr.g.2.2.1 z hz).1.2.2) (λz hz=>(hr.g.2.2.2.1 z hz).1.2.2) hr.g.2.2.2.2.2]
def uf{ws:List Fm}(hI:aU am)(hn:(am.map 1e8).Nodup)(hG:uv ws 8 xs ys)(hk:InK am xs ys)(lo:∀k, -(10^58)≤aE am k){m:Int}(m0:0≤m)(m1:m<10^41){t:Int}{k:Key}{l:Int}(hs:bx am xs ys m=some (t,k,l)):0≤t+1∧t+1<10^60∧0≤l∧l<10^60:=by
 obtain⟨n,rfl⟩:=eq_ofNat_of_zero_le m0;obtain⟨h1,h2,h3,h4,h5,h6⟩:=hG;obtain⟨t',rfl,ht,Ku,hl⟩:=CI hI hn hk hs;obtain⟨q,hq,e1,e2,e3⟩:=wH hl;have b1:=oq (λx hx=>(h3 x hx).1) 0e5 k;have b2:=oq (λx hx=>(h4 x hx).1) 0e5 k;have b3:=lo k;rw[walk_z] at e2;refine⟨by omega,by omega,by omega,?_⟩
 cases t' with
 |zero=>
  have:((0 :Nat):Int)*(aE (aV ys) k - aE (aV xs) k)=0:=by simp
  omega
 |succ s=>
  have:=lV (Ku s (lt_succ_self s)) q hq;rw[walk_z,e1] at this;push_cast at e2;rw[add_mul] at e2;omega
def GW{a t g m:Int}(m0:0≤m)(h:∀T,oN a t g=some T→m≤T):oN (a+m*g) t g=(oN a t g).map λT=>T - m:=by
 cases e:oN a t g with
 |none=>
  obtain⟨n,rfl⟩:=eq_ofNat_of_zero_le m0;have h1:=oo e n;unfold oN at e ⊢;split at e
  ·cases e
  ·split at e
   ·rename_i h2 h3
    rw[if_neg 0e5,if_pos h3];rfl
   ·cases e
 |some T=>
  have hT:=h T e;have hs:=jq e;show _=some (T - m);by_cases c:m<T
  ·have h1:=hs.2.1 m m0 c;unfold oN at e ⊢;split at e
   ·injection e with e;omega
   ·split at e
    ·cases e
    ·rename_i h2 h3
     injection e with e;rw[if_neg 0e5,if_neg h3];congr 1;have:a+m*g - t=(a - t)+(-m)*(-g):=by rw[Int.neg_mul_neg];omega
     rw[this,Int.add_mul_ediv_right _ _ 0e5];omega
  ·have em:m=T:=by omega
   subst em;have h1:=hs.2.2;unfold oN;rw[if_pos h1];congr 1;omega
theorem mO(m:Int):∀l:List (Option Int),cU (l.map λo=>o.map λT=>T - m)=(cU l).map λT=>T - m
 | []=>rfl
 |none::r=>mO m r
 |some i::r=>by
  have ih:=mO m r;show (match cU (r.map λo=>o.map λT=>T - m) with|none=>some (i - m) |some j=>some (if j<i - m then j else i - m))=(match cU r with|none=>some i|some j=>some (if j<i then j else i):Option Int).map λT=>T - m;rw[ih]
  cases cU r with
  |none=>rfl
  |some j=>
   show some (if j - m<i - m then j - m else i - m)=some ((if j<i then j else i) - m);congr 1;split<;>split<;>omega
def GX{T:Int}(h:iE am xs ys=some T):0≤T∧bx am xs ys T=none∧iE (cq am xs ys T) xs ys=some 0:=by
 obtain⟨h1,h2⟩:=gy h;obtain⟨q0,hq0,e0⟩:=mem_map.mp h1;have T0:=(jq e0).1;refine⟨T0,?_,?_⟩
 ·unfold bx;rw[h];dsimp only;rw[if_pos (Int.le_refl _)]
 ·have:iE (cq am xs ys T) xs ys=(iE am xs ys).map λT'=>T' - T:=by
   unfold iE;rw[←mO,map_map];congr 1;refine map_congr_left λq hq=>?_;show oN (aE (cq am xs ys T) q.1) (aE (aV xs) q.1) (aE (gH xs ys) q.1)=(oN (aE am q.1) (aE (aV xs) q.1) (aE (gH xs ys) q.1)).map λT'=>T' - T;rw[ua];exact GW T0 λT' e=>h2 T' (by rw[←e];exact mem_map_of_mem (f:=λq=>oN (aE am q.1) (aE (aV xs) q.1) (aE (gH xs ys) q.1)) hq)
  rw[this,h];show some (T - T)=some 0;rw[Int.sub_self]
def GY(h:iE am xs ys=none)(m:Int):bx am xs ys m=none:=by
 unfold bx;rw[h]
def OV{ws:List Fm}(h:yY ws am)(hG:uv ws 8 xs ys){m:Int}(m0:0≤m)(m1:m<10^41)(k:Key): -(10^58)≤aE (cq am xs ys m) k:=by
 obtain⟨_,_,h3,h4,h5,_⟩:=hG;have b1:=oq (λx hx=>(h3 x hx).1) 0e5 k;have b2:=oq (λx hx=>(h4 x hx).1) 0e5 k;have b3:=h.nn k;have m1:m*aE (aV xs) k≤10^41*800000000000:=mul_le_mul 0e5 b1.2 b1.1 0e4;have m2:0≤m*aE (aV ys) k:=mul_nonneg m0 b2.1;rw[ua,AU,Int.mul_sub];omega
variable {uC uP uI uD uL uT eM eN eO uG uS:Tok}{Ch HE Sh St Ub:3e5}
def GZ:uH (xs++[v]) (-1)=some v:=by
 unfold uH Rj;rw[if_neg 0e4,if_pos (by rw[length_append];simp;omega)];show (xs++[v])[((-1 :Int)+((xs++[v]).length:Int)).toNat]? =some v;have:((-1 :Int)+((xs++[v]).length:Int)).toNat=xs.length:=by rw[length_append,List.length_singleton];omega
 rw[this];simp
theorem qh{α β:Type}{p:α→β→Prop}:∀{as:List α} {bs:List β},Paired p as bs→bs≠[]→∃as' a Ww b,as=as'++[a]∧bs=Ww++[b]∧Paired p as' Ww∧p a b
 |_,_, .nil,h=>absurd rfl h
 |_,_, .cons (a:=a) (b:=b) h t,_=>by
  cases t with
  |nil=>exact⟨[],a,[],b,rfl,rfl, .nil,h⟩
  |cons h' t'=>
   obtain⟨as',a',Ww,b',e1,e2,h1,h2⟩:=qh (.cons h' t') 3e4;exact⟨a::as',a',b::Ww,b',by rw[e1];rfl,by rw[e2];rfl, .cons h h1,h2⟩
inductive K'(St:3e5)(vs:4e5)(H:Hp)(Q:VK)(E:XK):Prop
 |mk (st d g wl:3e5) (c:Int) (ws:List Fm) (kvs:0e2) (gs:4e5) (dH:vs=[.ref st, .int c, .ref wl]) (dI:iC St H st d g) (dN:H d=some (.dK kvs)) (eK:H g=some (.lst gs)) (gj:gs.length≤800) (i6:yY ws kvs) (mD:iX H wl ws) (qY:(∀w∈ws,bJ w)) (zX:(∀w∈ws,(cW 1 w.1).length≤3)) (IX:ws.length=3) (Cr:∀d' Tv K8 H',(d'=d∨H d'=none)→iC St H' st d' g→H' d'=some (.dK Tv)→H' g=some (.lst K8)→K8.length≤gs.length+2→yY ws Tv→(∀k,jd Tv k=jd kvs k)→(∀b o,H b=some o→b≠st→b≠g→H' b=some o)→Q (.bl true) H')
def EI(St:3e5):Sp:=K' St
def kd:av ["_law_store","_law_cell","_law_world_here","_law_lefts","_law_rights","_law_text_here","_law_times","_law_before","_law_many","_law_caught_here"] ["_law_store","_law_cell","_law_world_here"] (aj Dw):=cX
def La(D:Def K mg "_law_gone" "_law_gone" Dw ["_law_store","_law_cell","_law_world_here"])(T:OT K mg C R G Pc Fo St HE Sh Ub uK uN uB uE uM uC uP uI uD uL uT)(Z:PySem.W.fu K Sh HE f0)(ZU:PySem.W.fu K Ub HE f1)(c1:a5 P w K mg base 1 "_law_change" ["_law_cell","_law_world_here"] wF)(c2:a5 P w K mg base 1 "_law_text" ["_law_lefts","_law_rights"] Et)(c3:aD P w K mg base 1 St "stocks" 1e5 (n9 St))(c4:aD P w K mg base 16 St "most" ["self","text"] (Em St))(c5:qH P w K mg base 18 St "go" ["self","text","times"] [1] (Tb C G Pc Fo Ch Sh St Ub))(c6:a5 P w K mg base 19 "_law_caught" ["_law_store","_law_texts_here"] (A4 Sh St Ub)):a5 P w K mg base 20 "_law_gone" ["_law_store","_law_cell","_law_world_here"] (EI St):=by
 obtain⟨_,_,CM⟩:=c1;obtain⟨_,_,Lb⟩:=c2;obtain⟨_,_,a7⟩:=c3;obtain⟨_,_,oC⟩:=c4;obtain⟨_,_,eZ⟩:=c5;obtain⟨_,_,ug⟩:=c6;obtain⟨_,j8,j9⟩:=eZ.bs 1 0e4;refine D.cN kd 0e7 0e1
 ·obtain⟨st,d,g,wl,c,ws,kvs,gs,rfl,_⟩:=h;rfl
 ·obtain⟨st,d,g,wl,c,ws,kvs,gs,rfl,⟨dx,eC⟩,hd,hg,hgl,hA,hW,aM,mM,h3,q⟩:=h;have hu:=cM hr;have Od:=hr.ky;have big:=bgL;have hlA:=hA.len
  refine⟨_,(ai (Hw (fz CM hr (ag (ay bw (ay bO (pv 1) aq) (ay rE aq aq)) (ag (pv 2) ak))) (ia rfl (a6 (aB (i:=3) kd.nd rfl 0e6) (a6 (aB (i:=4) kd.nd rfl 0e6) dY)))) (ai (bC (aL dk (ay bw (pv 1) aq) aq (aO _)) (ao (az (i:=4) kd.nd rfl 0e6 (ay mw (ie xg (pv 4) C5 (eQ (kg gB aq))) (b7 (ag (cj (ag (ay bZ (bQ jB (bQ bP (pv 4) (kg gB aq) 2e7) aq 2e7) aq) (ag (bQ jB (bQ bP (pv 4) (kg gB aq) 2e7) aq 2e7) ak))) ak)))))
      aN) (ai (az (i:=5) kd.nd rfl 0e6 (fz Lb hr (ag (pv 3) (ag (pv 4) ak)))) (ai (az (i:=6) kd.nd rfl 0e6 (bQ bP (b7 (ag (ay bw (ay bO (pv 1) aq) aq) (ag (ay bw (ay bO (pv 1) aq) (ay rE aq aq)) ak))) (ay bw (ay bO (pv 1) aq) aq) 2e7)) (ai (az (i:=7) kd.nd rfl 0e6 (bq ig rfl T.ja gM (ag (aH 2e1 T.bB a7.m a7.ok 4e3 a7.b .nil a8) ak))) (ai (bC (aL dk (ay bw (pv 1) aq) aq (aO _)) (ai (az (i:=8) kd.nd rfl 0e6 (pq oC hr T.bB 2e1 (ag (pv 5) ak))) (ai (bC (mr (oU (pv 8))) (ao (aA (Bi (oU (mY 2e1 T.bB eZ.m eZ.ok 4e3 j9 j8 Dq (ag (pv 5) (ag (pv 6) ak)))))))
        aN) (ao (aA (Bk (Bi (oU (fz ug hr (ag 2e1 (ag (b7 (ag (cj (ag (pv 5) (ag (pv 8) ak))) ak)) ak))))) (Bj (jw dk (pq oC hr T.bB 2e1 (ag (pv 5) ak)) aq (aO _))))))))
      aN) (ai (az (i:=9) kd.nd rfl 0e6 (fz ug hr (ag 2e1 (ag (ay Ro (b7 (ag (cj (ag (pv 5) (ag (pv 6) ak))) ak)) (ay bZ aq (ay bw (ay bO (pv 1) aq) aq))) ak)))) (ai (bC (mr (oU (pv 9))) (ao (aA (jw me (ay bw (pv 1) aq) aq (aO _))))
      aN) (ai (bC (PW.pt (vc (PW.pt (rC (aL dk (ay bw (pv 1) aq) aq (aO _)) (mQ (ku (iZ (bS mZ rfl T.fJ eI (ag (pv 9) (ag (aZ (v:= .ref _) rfl T.og rfl) ak)))))))) (rB (PW.pt (rC (aL me (ay bw (pv 1) aq) aq (aO _)) (mQ (ku (iZ (bS mZ rfl T.fJ eI (ag (pv 9) (ag (aZ (v:= .ref _) rfl T.Oh rfl) ak))))))))))) (ao (aA u9))
      aN) (ao (aA (jw (HV Od) (aH 2e1 T.bB a7.m a7.ok 4e3 a7.b .nil a8) (pv 7) (aO _))))))))))))),?_⟩
  refine⟨_,rfl,_,_,rfl,rfl,2e8,_,_,rfl,rfl,⟨by decide,by decide,by decide⟩,_,_,rfl,rfl,(by show (0 :Int) <10^(9 :Int).toNat;decide),_,rfl,_,wl,ws,rfl,hW,aM,mM,h3,λt0 l r0 xs ys0 H1 ht0 yW yX hG e1=>?_⟩;refine⟨t0,_,rfl,km.of ht0,rfl,_,_,rfl,_,_,rfl,rfl,?_⟩;obtain⟨g1,g2,g3,g4,g5,g6⟩:=id hG;have tw:∀{z:Tm},Mf ws z→dJ z:=fun {z} h=>⟨h.1.1,Int.le_trans h.1.2.1 0e4,h.1.2.2⟩;dsimp only [cg];refine gi (fun σ' H3=>∃(r:3e5) (ys:List Tm),σ'=[some (.ref st),some (.int c),some (.ref wl),some (.ref l),some (.ref r),none,none,none,none,none]∧cP H3 l xs∧cP H3 r ys∧ys≠[]∧ys.length=ys0.length∧(∀y∈ys,dJ y)∧(c%7≠3→ys=ys0)∧(c%7=3→∃k,sumZ xs k≠sumZ ys k)∧au H H3) (λN hN=>?_) ?_
  ·refine⟨_,rfl,_,_,rfl,rfl,(by show (0 :Int) <7;decide),rfl,_,rfl,eF (λhc=>?_) λhc=>?_⟩
   ·have hc:c%7=3:=by simpa using hc
    obtain⟨us,Va,hU⟩:=yX;obtain⟨CG,t,zs,y,rfl,rfl,hU',f1',ht,hf⟩:=qh hU g2;have Vf:=Paired.length hU';have hlz:zs.length≤8:=by rw[length_append] at g5;omega
    have nY:=g4 y 2e9;refine⟨_,rfl,1,rfl,_,rfl,r0,_,rfl,bM.of Va,λm hm=>?_⟩;rw[Ij,←List.map_dropLast,List.dropLast_concat];have s2:=au.new (o:= .lst (CG.map V.ref)) hm;have hm2:(upd H1 m (.lst (CG.map V.ref))) m=some (.lst (CG.map V.ref)):=aa;have qp:uH ((CG++[t]).map V.ref) (-1)=some (.ref t):=by rw[map_append];exact GZ
    generalize upd H1 m (.lst (CG.map V.ref))=H2 at s2 hm2 ⊢;have P':=s2 _ _ ht;have Kt:=s2 _ _ Va;refine⟨_,rfl,1,rfl,r0,_,_, .ref t,rfl,rfl,bM.of Kt,qp,t,_,_, .int y.1,rfl,rfl,km.of P',rfl,_,_,rfl,rfl,_,rfl,1,rfl,r0,_,_, .ref t,rfl,rfl,bM.of Kt,qp,t,_,_, .ref f1',rfl,rfl,km.of P',rfl,2e2,λtt htt=>⟨(by show 1≤sizeLine;decide),λzl hzl=>?_⟩⟩;have s3:=au.new (o:= .tup [.int (y.1+1), .ref f1']) htt;have s4:=au.new (o:= .lst [.ref tt]) hzl;have s24:=(s2.trans s3).trans s4;have htt4:=s4 _ _ (aa (H:=H2) (a:=tt) (o:= .tup [.int (y.1+1), .ref f1']));have hm4:=s4 _ _ (s3 _ _ hm2);refine⟨m,zl,_,_,rfl,rfl,hm4,aa,by rw[length_map];show _+1≤sizeLine;omega,λp hp=>?_⟩;have s5:=au.new (o:= .lst (CG.map V.ref++[.ref tt])) hp;have s15:=s24.trans s5;refine hN _ _ ⟨p,zs++[(y.1+1,y.2)],rfl,yW.same s15,⟨CG++[tt],by rw[aa,map_append];rfl,bT ⟨f1',s5 _ _ htt4,hf.same s15⟩ (aJ (λ_ _ z=>z.same s15) hU')⟩,by simp,by simp,λy' hy'=>?_,λz=>absurd hc z,λ_=>X7 nY.1.2.2 g6,e1.trans s15⟩;rcases mem_append.mp hy' with z|z
    ·exact tw (g4 y' (mem_append_left _ z))
    ·rw[mem_singleton.mp z];have b1:=nY.1.1;have b2:=nY.1.2.1;exact⟨by show 1≤y.1+1;omega,by show y.1+1≤_;omega,nY.1.2.2⟩
   ·have hc:c%7≠3:=by simpa using hc
    exact hN _ _ ⟨r0,ys0,rfl,yW,yX,g2,rfl,λy hy=>tw (g4 y hy),λ_=>rfl,λz=>absurd z hc,e1⟩
  clear yW yX ht0 e1;rintro σ' H2 ⟨r,ys,rfl,yW,yX,kq,hyl,nY,hEq,hUn,e2⟩;have w40:∀{z:Tm},dJ z→yg (10^40) z:=fun {z} h=>⟨h.1,Int.le_trans h.2.1 0e4,h.2.2⟩;have gT:∀x∈xs,dJ x:=λx hx=>tw (g3 x hx);refine⟨_,rfl,_,rfl,l,r,xs,ys,rfl,yW,yX,λx hx=>w40 (gT x hx),λx hx=>w40 (nY x hx),by omega,by omega,λH3 e3=>?_⟩;have X8:=Tu g1 kq gT nY 0e5;generalize Txt.join " -> " [wg xs,wg ys]=tx at X8 ⊢;have El:=e2.trans e3;clear yW yX e2 e3;refine⟨_,rfl,_,_,rfl,rfl,2e8,_,_,rfl,rfl,(by show (0 :Int) <13;decide),_,rfl,_,_,rfl,rfl,2e8,_,_,rfl,rfl,⟨by decide,by decide,by decide⟩,_,_,rfl,rfl,(by show (0 :Int) <10^(40 :Int).toNat;decide),2e2,λyl hyl'=>?_⟩;have s4:=au.new (o:= .lst [V.int (c/64%13),V.int (c/64%10^(40 :Int).toNat)]) hyl';have Tw:(upd H3 yl (.lst [V.int (c/64%13),V.int (c/64%10^(40 :Int).toNat)])) yl=some (.lst [V.int (c/64%13),V.int (c/64%10^(40 :Int).toNat)]):=aa;dsimp only;generalize upd H3 yl (.lst [V.int (c/64%13),V.int (c/64%10^(40 :Int).toNat)])=H4 at s4 Tw ⊢;have Hn:=El.trans s4
  obtain⟨m,m0,m1,qp⟩:∃m:Int,0≤m∧m<10^41∧uH [V.int (c/64%13),V.int (c/64%10^(40 :Int).toNat)] (c/8%2)=some (V.int m):=by
   have h2:c/8%2=0∨c/8%2=1:=by omega
   rcases h2 with h2|h2
   ·rw[h2];exact⟨_,emod_nonneg _ 0e4,Int.lt_trans (emod_lt_of_pos _ 0e4) 0e4,rfl⟩
   ·rw[h2];exact⟨_,emod_nonneg _ 0e4,Int.lt_trans (emod_lt_of_pos _ 0e4) 0e4,rfl⟩
  refine⟨_,rfl,_,_,rfl,rfl,2e8,_,_,rfl,rfl,(by show (0 :Int) <2;decide),yl,_,_,V.int m,rfl,rfl,bM.of Tw,qp,?_⟩;refine⟨_,rfl,st,dx,_,rfl,Hn _ _ eC,eY _ _ 0e0 0e0,st,d,g,kvs,rfl,⟨dx,Hn _ _ eC⟩,Hn _ _ hd,hA.int,hA.nd,by omega,λue H5 X4 Qm e5=>⟨ue,_,rfl, .inl Qm,λbf hbf=>?_⟩⟩;have s6:=au.new (o:= .dK (fP kvs)) hbf;have Tx:(upd H5 bf (.dK (fP kvs))) bf=some (.dK (fP kvs)):=aa;have Vr:=(Hn.trans e5).trans s6;generalize upd H5 bf (.dK (fP kvs))=H6 at s6 Tx Vr ⊢;have X9:=Vr _ _ eC;have SY:=Vr _ _ hd;have hg6:=Vr _ _ hg;have hIn:∀{zs:List Tm},uv ws 8 xs zs→InK kvs xs zs:=λh=>CL hA.all h;clear s4 Tw s6 Hn El e5;dsimp only [cg];refine⟨_,rfl,_,_,rfl,rfl,(by show (0 :Int) <7;decide),rfl,_,rfl,eF (λhc=>?_) λ_=>?_⟩
  ·have hc:c%7=4:=by simpa using hc
   have ey:=hEq 0e5;subst ey;have hEv:GF tx xs ys:=X8.ev g6;refine⟨_,rfl,st,dx,_,rfl,X9,eY _ _ 0e0 0e0,_,rfl,st,d,g,tx,kvs,xs,ys,rfl,⟨dx,X9⟩,SY,hA.int,hEv,λH7 e7=>?_⟩;have Vs:=Vr.trans e7;have X':=Vs _ _ eC;have hd7:=Vs _ _ hd;have hg7:=Vs _ _ hg
   cases hmo:iE kvs xs ys with
   |none=>
    have Ku:bx kvs xs ys m=none:=GY hmo m;refine⟨_,rfl,_,rfl,gK ?_⟩;refine⟨_,rfl,st,dx,_,rfl,X',eY _ _ 0e0 0e0,_,rfl,_,rfl,st,d,g,kvs,gs,⟨xs,ys,tx,m⟩,rfl,⟨dx,X'⟩,hd7,hg7,hA.int,by omega,by omega,X8,(λ_ t k l z=>by rw[show bx kvs xs ys m=_ from z] at Ku;cases Ku),λhv hs d' t H' h0 h1 h2 h3 h4 h5=>?_,λhv t x l e lN H' hs _ _ _ _ _=>(by rw[show bx kvs xs ys m=_ from hs] at Ku;cases Ku),λms p rr e lN H' hv _ _ _ _ _ _ _=>absurd g6 hv⟩;have hQ:OkQ ws ⟨xs,ys,tx,m⟩:=⟨hG,m0⟩;refine q d' _ _ H' (h0.imp id (none_back Vs)) h1 h2 h3 (by rw[length_append];simp) (hA.turn hQ hs) (λk=>AZ hA.int hA.nd (λz hz=>(g3 z hz).1.2.2) (λz hz=>(g4 z hz).1.2.2) g6 m k) λb o z n1 n2=>h5 _ _ (Vs _ _ z) n1 n2
   |some T0=>
    obtain⟨T00,hsn,WZ⟩:=GX hmo;refine⟨_,rfl,_,rfl,d7 ?_⟩;refine⟨_,rfl,_,rfl,_,rfl,2e2,λt ht=>⟨(by show 1≤sizeLine;decide),λtl pT=>?_⟩⟩;have s8:=au.new (o:= .tup [.str tx, .int T0]) ht;have s9:=s8.trans (au.new (o:= .lst [.ref t]) pT);have ht9:=au.new (o:= .lst [.ref t]) pT _ _ (aa (H:=H7) (a:=t) (o:= .tup [.str tx, .int T0]));have G0:=Vs.trans s9;have hQ:OkQ ws ⟨xs,ys,tx,T0⟩:=⟨hG,T00⟩
    have i0:∀{i:Nat} {r':gW},[(⟨xs,ys,tx,T0⟩:gW)][i]? =some r'→i=0∧r'=⟨xs,ys,tx,T0⟩:=fun {i r'} z=>by
     match i,z with
     |0,z=>exact⟨rfl,(Option.some.inj z).symm⟩
    have no:∀{i:Nat} {r':gW},[(⟨xs,ys,tx,T0⟩:gW)][i]? =some r'→bx (iG kvs ([(⟨xs,ys,tx,T0⟩:gW)].take i)) r'.xs r'.ys r'.m=none:=fun {i r'} z=>by
     obtain⟨rfl,rfl⟩:=i0 z;exact hsn
    refine⟨st,d,g,tl,kvs,gs,[t],[⟨xs,ys,tx,T0⟩],rfl,⟨dx,G0 _ _ eC⟩,G0 _ _ hd,G0 _ _ hg,af (s8 _ _ hg7) pT,hA.int,by omega,aa, .cons ht9 .nil,by simp,by simp,by omega,(λr' js=>by rw[mem_singleton.mp js];exact X8),(λ_ i r' t' k l z1 z2=>by rw[no z1] at z2;cases z2),λhv hs d' K8 H' h0 h1 h2 h3 h4 h5=>?_,λhv ⟨i,r',p,z1,z2⟩=>(by rw[no z1] at z2;cases z2),fun⟨r',js,hv⟩=>absurd (by rw[mem_singleton.mp js];exact g6) hv⟩;refine⟨_,rfl,gK ?_⟩;obtain⟨x5,GI⟩:=h1;obtain⟨Vt,L6⟩:=hA.rows (rs:=[⟨xs,ys,tx,T0⟩]) (λr' js=>by rw[mem_singleton.mp js];exact hQ) hs;refine⟨_,rfl,st,x5,_,rfl,GI,eY _ _ 0e0 0e0,_,rfl,st,d',g,tx,_,xs,ys,rfl,⟨x5,GI⟩,h2,Vt.int,hEv,λH8 e8=>?_⟩;rw[show iE (iG kvs [⟨xs,ys,tx,T0⟩]) xs ys=some 0 from WZ];refine⟨rfl,?_⟩;exact q d' _ K8 H8 (h0.imp id (none_back G0)) ⟨x5,e8 _ _ GI⟩ (e8 _ _ h2) (e8 _ _ h3) h4 Vt L6 λb o z n1 n2=>e8 _ _ (h5 _ _ (G0 _ _ z) n1 n2)
  ·refine⟨_,rfl,_,rfl,_,rfl,2e2,λt ht=>⟨(by show 1≤sizeLine;decide),λl1 uq=>?_⟩⟩;have s7:=au.new (o:= .tup [.str tx, .int m]) ht;have s8:=s7.trans (au.new (o:= .lst [.ref t]) uq);have ht8:=au.new (o:= .lst [.ref t]) uq _ _ (aa (H:=H6) (a:=t) (o:= .tup [.str tx, .int m]));have Ya:(upd (upd H6 t (.tup [.str tx, .int m])) l1 (.lst [.ref t])) l1=some (.lst [.ref t]):=aa;generalize upd (upd H6 t (.tup [.str tx, .int m])) l1 (.lst [.ref t])=H8 at s8 ht8 Ya ⊢;have h16:c/16%2=0∨c/16%2=1:=by omega
   refine⟨_,rfl,_,_,rfl,rfl,2e8,_,_,rfl,rfl,(by show (0 :Int) <2;decide),_,_,rfl,rfl,l1,_,[.ref t],rfl,rfl,Ya,by omega,by omega,(by show 1*(1+c/16%2).toNat≤sizeLine;omega),λtl pT=>?_⟩
   obtain⟨ts,rs,efl,hPr,Vu,Vq,Kt⟩:∃(ts:List Addr) (rs:List gW),(List.replicate (1+c/16%2).toNat [V.ref t]).flatten=ts.map V.ref∧(∀H':Hp,wy H' t ⟨xs,ys,tx,m⟩→Paired (wy H') ts rs)∧(∀r'∈rs,r'=⟨xs,ys,tx,m⟩)∧1≤rs.length∧rs.length≤2:=by
    rcases h16 with h|h
    ·rw[h];exact⟨[t],[⟨xs,ys,tx,m⟩],rfl,λH' z=> .cons z .nil,by simp,by simp,by simp⟩
    ·rw[h];exact⟨[t,t],[⟨xs,ys,tx,m⟩,⟨xs,ys,tx,m⟩],rfl,λH' z=> .cons z (.cons z .nil),by simp,by simp,by simp⟩
   rw[efl];have s9:=s8.trans (au.new (o:= .lst (ts.map V.ref)) pT);have ht9:=au.new (o:= .lst (ts.map V.ref)) pT _ _ ht8;have Yb:(upd H8 tl (.lst (ts.map V.ref))) tl=some (.lst (ts.map V.ref)):=aa;have Xt:g≠tl:=af (s8 _ _ hg6) pT;generalize upd H8 tl (.lst (ts.map V.ref))=H9 at s9 ht9 Yb ⊢;have G0:=Vr.trans s9
   have evn:(∀r'∈rs,Bg r')→c%7≠3:=λhv hc=>by
    obtain⟨k,hk⟩:=hUn hc
    cases Lc:rs with
    |nil=>rw[Lc] at Vq;simp at Vq
    |cons r1 rr=>
     have h1:r1∈rs:=by rw[Lc];exact mem_cons_self ..
     have h2:=hv r1 h1;rw[Vu r1 h1] at h2;exact hk (h2 k)
   have fl:p7 (fP kvs):=λp' ql=>by obtain⟨i,e⟩:=hA.int p' (mem_filter.mp ql).1;rw[e];rfl
   refine⟨st,d,g,tl,kvs,gs,ts,rs,rfl,⟨dx,G0 _ _ eC⟩,G0 _ _ hd,G0 _ _ hg,Xt,hA.int,by omega,Yb,hPr H9 ht9,Vq,Kt,by omega,(λr' js=>by rw[Vu r' js];exact X8),λhv i r' t' k l' z1 z2=>?_,λhv hs d' K8 H' h0 h1 h2 h3 h4 h5=>?_,λhv hsh e H' hE e1=>?_,fun⟨r',js,hv⟩ e H' hE e1=>?_⟩
   ·have Be:=evn hv;have ey:=hEq Be;subst ey;have er:=Vu r' (mem_of_getElem? z1);subst er
    match i,z1,z2 with
    |0,z1,z2=>exact uf hA.int hA.nd hG (hIn hG) (λk=>by have:=hA.nn k;omega) m0 m1 z2
    |1,z1,z2=>
     have e1t:rs.take 1=[⟨xs,ys,tx,m⟩]:=by
      cases Lc:rs with
      |nil=>rw[Lc] at Vq;simp at Vq
      |cons r1 rr=>rw[show r1=⟨xs,ys,tx,m⟩ from Vu r1 (by rw[Lc];exact mem_cons_self ..)];rfl
     rw[e1t] at z2;have hk:(cq kvs xs ys m).map 1e8=kvs.map 1e8:=hV _ _ _ _ (KR (hIn hG));exact uf (am:=cq kvs xs ys m) (cS _ _ _ _ hA.int) (by rw[hk];exact hA.nd) hG (CL (λs hs=>by rw[hk];exact hA.all s hs) hG) (OV hA hG m0 m1) m0 m1 z2
    |i+2,z1,_=>
     have:=(List.getElem?_eq_some_iff.mp z1).1;omega
   ·have Be:=evn hv;have ey:=hEq Be;subst ey;obtain⟨Vt,L6⟩:=hA.rows (rs:=rs) (λr' js=>by rw[Vu r' js];exact⟨hG,m0⟩) hs;refine⟨_,rfl,_,rfl,gK ?_⟩;refine⟨_,rfl,_,_,rfl,rfl,(by show (0 :Int) <7;decide),rfl,?_⟩;have eb:¬V.int (c%7)=V.int 3:=λz=>by injection z with z;exact Be z
    have hfin:=q d' _ K8 H' (h0.imp id (none_back G0)) h1 h2 h3 h4 Vt L6 λb o z n1 n2=>h5 _ _ (G0 _ _ z) n1 n2;show Q (V.bl (!decide (V.int (c%7)=V.int 3))) H';rw[decide_eq_false eb];exact hfin
   ·have Be:=evn hv;have eb:¬V.int (c%7)=V.int 3:=λz=>by injection z with z;exact Be z
    have OW:=G0.trans e1;refine⟨_,rfl,_,rfl,d7 ?_⟩;refine⟨_,rfl,_,_,rfl,rfl,(by show (0 :Int) <7;decide),rfl,_,rfl,eF (λz=>absurd (by simpa using z) eb) λ_=>?_⟩;refine d7 ?_;refine⟨_,rfl,_,_,rfl,rfl,(by show (0 :Int) <7;decide),rfl,_,rfl,eF (λ_=>?_) λz=>absurd (by simpa using z) Be⟩;refine⟨_,rfl,e,_,_,Sh,HE,f0,true,rfl,rfl,Z,T.Ki,hE,T.iS,_,rfl,d7 ?_⟩;refine⟨_,rfl,st,dx,_,rfl,OW _ _ eC,eY _ _ 0e0 0e0,st,d,g,kvs,rfl,⟨dx,OW _ _ eC⟩,OW _ _ hd,hA.int,hA.nd,by omega,λu2 Fp nu2 hu2 Mg=>⟨_,rfl,u2,bf,_,_,rfl,rfl, .inl hu2, .inl (Mg _ _ (e1 _ _ (s9 _ _ Tx))),fl,fl,λQn _=>?_⟩⟩;rw[rP Qn fl];have yO:=OW.trans Mg;exact q d kvs gs Fp (.inl rfl) ⟨dx,yO _ _ eC⟩ (yO _ _ hd) (yO _ _ hg) 0e5 hA (λ_=>rfl) λb o z _ _=>yO _ _ z
   ·have Be:c%7=3:=Classical.byContradiction λhc=>hv (by rw[Vu r' js,hEq hc];exact g6);have OW:=G0.trans e1;refine⟨_,rfl,_,rfl,d7 ?_⟩;refine⟨_,rfl,_,_,rfl,rfl,(by show (0 :Int) <7;decide),rfl,_,rfl,eF (λ_=>?_) λz=>absurd Be (by simpa using z)⟩;refine⟨_,rfl,e,_,_,Ub,HE,f1,true,rfl,rfl,ZU,T.K7,hE,T.iU,_,rfl,d7 ?_⟩;refine⟨_,rfl,_,_,rfl,rfl,(by show (0 :Int) <7;decide),rfl,_,rfl,eF (λz=>absurd Be (by simpa using z)) λ_=>?_⟩;refine d7 ?_;refine⟨_,rfl,st,dx,_,rfl,OW _ _ eC,eY _ _ 0e0 0e0,st,d,g,kvs,rfl,⟨dx,OW _ _ eC⟩,OW _ _ hd,hA.int,hA.nd,by omega,λu2 Fp nu2 hu2 Mg=>⟨_,rfl,u2,bf,_,_,rfl,rfl, .inl hu2, .inl (Mg _ _ (e1 _ _ (s9 _ _ Tx))),fl,fl,λQn _=>?_⟩⟩;rw[rP Qn fl];have yO:=OW.trans Mg;exact q d kvs gs Fp (.inl rfl) ⟨dx,yO _ _ eC⟩ (yO _ _ hd) (yO _ _ hg) 0e5 hA (λ_=>rfl) λb o z _ _=>yO _ _ z
variable {uC uP uI uD uL uT eM eN eO uG uS:Tok}{Ch HE Sh St Ub:3e5}
def G1(s:au H H')(h1:H' st=none)(h2:H' dx=none):au H (upd (upd H' dx (.own st)) st (.ins St dx [])):=λb o z=>by
 rw[ah (af (s _ _ z) h1),ah (af (s _ _ z) h2)];exact s _ _ z
theorem yY.add{ws:List Fm}(h:yY ws am)(hx:Told ws x){l:Int}(hl:0≤l):yY ws (bN am (Sum.inr x) l):=by
 have hk:(bN am (Sum.inr x) l).map 1e8=am.map 1e8:=by
  unfold bN;rw[nM];unfold jM;rw[if_pos (h.all x hx)]
 refine⟨h.int.add _ _,by rw[hk];exact h.nd,h.told.put hx _,λs hs=>by rw[hk];exact h.all s hs,λk=>?_,?_⟩
 ·rw[xW];have:=h.nn k;split<;>omega
 ·have:=congrArg List.length hk;rw[length_map,length_map] at this;rw[this];exact h.len
theorem filter_lt:∀{L:List Key},x∈L→(L.filter λy=>decide (y≠x)).length<L.length
 |y::L,h=>by
  by_cases e:y=x
  ·rw[List.filter_cons_of_neg (by simpa using e),length_cons];have:=List.length_filter_le (λy=>decide (y≠x)) L;omega
  ·rw[List.filter_cons_of_pos (by simpa using e),length_cons,length_cons];rcases mem_cons.mp h with z|z
   ·exact absurd z.symm e
   ·have:=filter_lt z;omega
theorem wN:∀{l L:List Key},l.Nodup→(∀x∈l,x∈L)→l.length≤L.length
 | [],_,_,_=>zero_le _
 |x::l,L,hn,h=>by
  rw[nodup_cons] at hn;have hx:=filter_lt (h x 1e6);have ih:=wN (L:=L.filter λy=>decide (y≠x)) hn.2 λy hy=>mem_filter.mpr ⟨h y (mem_cons_of_mem _ hy),decide_eq_true λe=>hn.1 (by rw[←e];exact hy)⟩;rw[length_cons];omega
def Ld{ws:List Fm}(h3:ws.length=3)(aM:∀w∈ws,bJ w)(mM:∀w∈ws,(cW 1 w.1).length≤3){D:0e2}(hn:(D.map 1e8).Nodup)(h:∀j∈D.map (·.1),KS ws j):∃ks:List Str,D.map 1e8=ks.map Sum.inr∧ks.length<64:=by
 have hlen:(D.map 1e8).length≤10:=by
  match ws,h3 with
  | [a,b,c],_=>
    have la:=mM a 2e9;have lb:=mM b 2e9;have lc:=mM c 2e9;refine le_trans (wN (L:=Sum.inr ("+" :Str)::((cW 1 a.1).map 1e8++((cW 1 b.1).map 1e8++(cW 1 c.1).map 1e8))) hn λj hj=>?_) ?_
    ·rcases h j hj with e| ⟨w,hw,hj⟩
     ·rw[e];exact mem_cons_self ..
     ·refine mem_cons_of_mem _ ?_;simp only [mem_cons,not_mem_nil,or_false] at hw;rcases hw with rfl|rfl|rfl
      ·exact mem_append_left _ hj
      ·exact mem_append_right _ (mem_append_left _ hj)
      ·exact mem_append_right _ (mem_append_right _ hj)
    ·rw[length_cons,length_append,length_append,length_map,length_map,length_map];omega
 have mP:yu (D.map 1e8):=λj hj=>by
  rcases h j hj with e| ⟨w,hw,hj⟩
  ·exact⟨_,e⟩
  ·obtain⟨q,hq,eq⟩:=mem_map.mp hj;obtain⟨k,_,ek⟩:=k8 (aM w hw) q hq;exact⟨_,by rw[←eq,ek]⟩
 refine⟨(D.map 1e8).filterMap Vc,(rf mP).symm,?_⟩;have:=congrArg List.length (rf mP);rw[length_map] at this;omega
def OX(s:Str)(c:Int):∃ss:List Str,uF [V.str s] none (some (c/2%2))=ss.map V.str∧∀x∈ss,x=s:=by
 have h2:c/2%2=0∨c/2%2=1:=by omega
 rcases h2 with h2|h2
 ·rw[h2];exact⟨[],rfl,λx hx=>by cases hx⟩
 ·rw[h2];exact⟨[s],rfl,λx hx=>by simpa using hx⟩
inductive Tz(K:0e9)(vs:4e5)(H:Hp)(Q:VK)(E:XK):Prop
 |mk (a:3e5) (ns:List Int) (dH:vs=[.ref a]) (dI:bM K H a (ns.map V.int)) (dN:ns.length≤63) (eK:∀H',Q (.bl true) H')
def EJ(K:0e9):Sp:=Tz K
def iI:av ["_law_script","_law_world_here","_law_known_here","_law_texts_here","_law_amounts_here","_law_k","_law_text_here","_law_cell","_law_store","_law_first","_law_held","_law_due"] ["_law_script"] (aj xM):=cX
structure Vv(ws:List Fm)(St:3e5)(HB H':Hp)(st am fi he p g:3e5)(cs:4e5)(F:0e2)(n:Nat)(d dx:3e5)(kvs ka:0e2)(gs:4e5):Prop where
 Le:H' st=some (.ins St dx (Bf d g))
 md:H' d=some 3e0
 mG:H' g=some (.lst gs)
 gl:gs.length≤2*n
 A:yY ws kvs
 OY:H' am=some (.dK ka)
 B:yY ws ka
 Yc:∀k,jd kvs k=jd ka k
 Yd:H' fi=some (.dK F)
 Ye:H' he=some (.dK F)
 mp:H' p=some (.lst cs)
 L8:d≠am
 ndf:d≠fi
 ndh:d≠he
 mhd:HB d=none
 ms:au HB H'
def Vv.same{ws:List Fm}{n:Nat}(h:Vv ws St HB H' st am fi he p g cs F n d dx kvs ka gs)(e:au H' b8):Vv ws St HB b8 st am fi he p g cs F n d dx kvs ka gs:=
 ⟨e _ _ h.Le,e _ _ h.md,e _ _ h.mG,h.gl,h.A,e _ _ h.OY,h.B,h.Yc,e _ _ h.Yd,e _ _ h.Ye,e _ _ h.mp,h.L8,h.ndf,h.ndh,h.mhd,h.ms.trans e⟩
def TJ(F:Hf K "law" "law" xM f fd)(T:OT K mg C R G Pc Fo St HE Sh Ub uK uN uB uE uM uC uP uI uD uL uT)(c1:a5 P w K mg base 3 "_law_world" ["_law_script"] (En K)) (c2:a5 P w K mg base 1 "_law_texts" ["_law_world_here"] Ep) (c3:a5 P w K mg base 1 "_law_cell_at" ["_law_script","_law_k"] (sG K)) (c4:a5 P w K mg base 1 "_law_known" ["_law_world_here"] EH) (c5:ID P w K mg base rO 14 St ["self","amounts"] (D8 St)) (c6:aD P w K mg base 1 St "stocks" 1e5 (n9 St)) (c7:aD P w K mg base 13 St "put" ["self","text","many"] (J3 St)) (c8:a5 P w K mg base 20 "_law_gone" ["_law_store","_law_cell","_law_world_here"] (EI St)) (c9:a5 P w K mg base 1 "_law_totals" ["_law_amounts_here","_law_known_here"] ud) (c10:a5 P w K mg base 13 "_law_kept" ["_law_store","_law_known_here","_law_due","_law_some"] (K5 St)):
  fD P w K mg base rO 21 f fd ["_law_script"] (EJ K):=by
 obtain⟨_,_,G2⟩:=c1;obtain⟨_,_,G3⟩:=c2;obtain⟨_,_,iY⟩:=c3;obtain⟨_,_,G4⟩:=c4;obtain⟨_,_,bB⟩:=c5;obtain⟨_,_,a7⟩:=c6;obtain⟨_,_,k7⟩:=c7;obtain⟨_,_,Lf⟩:=c8;obtain⟨_,_,j7⟩:=c9;obtain⟨_,_,A5⟩:=c10;have G5:=bB.b0;have G6:Vals [] []:= .nil;refine F.ok iI 0e7 (λaY A outer s H vs Q E hr h=>?_)
 ·obtain⟨a,ns,rfl,_⟩:=h;rfl
 ·obtain⟨a,ns,rfl,hS,hlen,q⟩:=h;have hu:=cM hr;have Od:=hr.ky;have hu64:=hr.units;have big:=bgL
  refine⟨_,(ai (az (i:=1) iI.nd rfl 0e6 (fz G2 hr (ag 2e1 ak))) (ai (az (i:=2) iI.nd rfl 0e6 (fz G4 hr (ag (pv 1) ak))) (ai (az (i:=3) iI.nd rfl 0e6 (fz G3 hr (ag (pv 1) ak))) (ai (az (i:=4) iI.nd rfl 0e6 dq) (ai (bU PassesOwn.never rfl (Dj rfl T.lh (ag (pv 3) ak)) (ia rfl (a6 (aB (i:=5) iI.nd rfl 0e6) (a6 (aB (i:=6) iI.nd rfl 0e6) dY))) (ai (az (i:=7) iI.nd rfl 0e6 (fz iY hr (ag 2e1 (ag (ay bZ aq (pv 5)) ak)))) (ao (cF hu (pv 4) (pv 6) (ay bw (ay bO (pv 7) aq) (bQ bP (b7 (ag aq (ag (ay rE aq aq) ak))) (bq o6 rfl T.zU rV (ag (jw dk (ay bw (pv 7) aq) aq (aO _)) ak)) 2e7)) rfl)))) (ai (az (i:=8) iI.nd rfl 0e6 (gb bB.m bB.ok 4e3 rfl T.N3 G5 G6 a8 (ag (bq ig rfl T.ja gM (ag (pv 4) ak)) ak))) (ai (az (i:=9) iI.nd rfl 0e6 (aH (pv 8) T.bB a7.m a7.ok 4e3 a7.b .nil a8)) (ai (az (i:=10) iI.nd rfl 0e6 (bq ig rfl T.ja gM (ag (pv 9) ak))) (ai (bU PassesOwn.never rfl (cE (ie xg 2e1 (eQ aq) (eQ aq))) (aB (i:=7) iI.nd rfl 0e6) (ai (bC (aL dk (ay bw (pv 7) aq) aq (aO _)) (ai (az (i:=6) iI.nd rfl 0e6 (bQ bP (pv 3) (ay bw (ay bw (ay bO (pv 7) aq) aq) (bS fF rfl T.nH jE (ag (pv 3) ak))) 2e7)) (ai (a9 (pq k7 hr T.bB (pv 8) (ag (pv 6) (ag (ay bw (ay bO (pv 7) aq) (ay rE aq aq)) ak)))) (ao (cF hu (pv 4) (pv 6) (ay bZ (bX hu (pv 4) (pv 6) 2e7) (ay bw (ay bO (pv 7) aq) (ay rE aq aq))) rfl)))) (ao (bC (ku (iZ (fz Lf hr (ag (pv 8) (ag (pv 7) (ag (pv 1) ak)))))) (ao (aA u9))
          aN))) (ai (az (i:=11) iI.nd rfl 0e6 (fz j7 hr (ag (pv 4) (ag (pv 2) ak)))) (ao (bC (mr (oU (fz A5 hr (ag (pv 8) (ag (pv 2) (ag (pv 11) (ag (ie xg (b7 (ag (bQ bP (bS (xr rfl) rfl T.nZ pk (ag (pv 11) ak)) (ay bw (ay bO (pv 7) aq) (bS Bx rfl T.nH jE (ag (pv 11) ak))) 2e7) ak)) C5 (eQ (ay bw (ay bO (pv 7) aq) aq))) ak))))))) (ao (aA u9))
        aN))))) (ai (az (i:=11) iI.nd rfl 0e6 (fz j7 hr (ag (pv 4) (ag (pv 2) ak)))) (ao (aA (Bk (Bi (wY (fz A5 hr (ag (pv 8) (ag (pv 2) (ag (pv 11) (ag (bq (kE rfl) rfl T.n_list jF (ag (pv 11) ak)) ak))))))) (Bj (jw (HV Od) (pv 9) (pv 10) (aO _)))))))))))))))),?_⟩
  refine⟨_,rfl,a,ns,rfl,hS,hlen,λwl ws H1 hW aM mM h3 e1=>?_⟩;refine⟨_,rfl,wl,ws,rfl,hW,aM,h3,λkn kk H2 nkn hK qw e2=>?_⟩;refine⟨_,rfl,wl,ws,rfl,hW.same e2,aM,h3,λtl us HB pT U5 xb hu1 hu2 e3=>?_⟩;have hWB:=(hW.same e2).same e3;have Vw:=hK.same e3;have eHB:=(e1.trans e2).trans e3;have hSB:=eHB.seq hS;clear hW hK e1 e2 e3;refine λam yC=>?_;have s4:=au.new (o:= .dK []) yC;have Yf:(upd HB am (.dK [])) am=some (.dK []):=aa;generalize upd HB am (.dK [])=H4 at s4 Yf ⊢;have nta:tl≠am:=af pT yC;dsimp only [cg];refine⟨_,rfl,tl,rfl,⟨_,bM.of (s4 _ _ pT)⟩,zC (K:=K) (a:=tl) (xs:=us.map V.str) (λi σ H'=>∃(kvs:0e2) (v5 v6 v7:Option V),σ=[some (.ref a),some (.ref wl),some (.ref kn),some (.ref tl),some (.ref am),v5,v6,v7,none,none,none,none]∧H' am=some 3e0∧aU kvs∧(kvs.map 1e8).Nodup∧om ws kvs∧(∀s∈us.take i,(Sum.inr s:Key)∈kvs.map 1e8)∧(∀k,0≤aE kvs k)∧kvs.length≤i∧au HB H') ?_ (λi σ H' ⟨_,_,_,_,_,_,_,_,_,_,_,_,z⟩=>bM.of (z _ _ pT)) ?_ ?_⟩
  ·exact⟨[],none,none,none,rfl,Yf,(λp hp=>by cases hp),nodup_nil,(λp hp=>by cases hp),(λp hp=>by cases hp),λk=>Int.le_refl _,le_refl _,s4⟩
  ·rintro i v p σ H' hi hp ⟨kvs,v5,v6,v7,rfl,ham',hI,hn,hT,mP,Ql,hl,e⟩;rw[getElem?_map] at hi;obtain⟨x,hx,rfl⟩:=gMp hi;have zA:i<us.length:=(List.getElem?_eq_some_iff.mp hx).1;have Vx:=U5 x (mem_of_getElem? hx);have s6:=au.new (o:= .tup [.int i, .str x]) hp;have G7:=s6 _ _ ham';have e6:=e.trans s6;refine⟨p,_,rfl,km.of aa,rfl,_,_,rfl,_,_,rfl,rfl,?_⟩;generalize upd H' p (.tup [.int i, .str x])=H6 at G7 e6 ⊢;have ek:(7 :Int)+(i:Int)=((7+i:Nat):Int):=by omega
   refine⟨_,rfl,_,rfl,_,_,rfl,rfl,a,ns,7+i,by rw[←ek];rfl,e6.seq hSB,hlen,λn8=>?_⟩;refine⟨_,rfl,_,_,rfl,rfl,2e8,_,_,rfl,rfl,⟨by decide,by decide,by decide⟩,2e2,λy hy=>?_⟩;have s7:=au.new (o:= .lst [V.int 61,V.int (10^(40 :Int).toNat)]) hy;have CN:=s7 _ _ G7;have e7:=e6.trans s7;have hy7:(upd H6 y (.lst [V.int 61,V.int (10^(40 :Int).toNat)])) y=some (.lst [V.int 61,V.int (10^(40 :Int).toNat)]):=aa;dsimp only;generalize upd H6 y (.lst [V.int 61,V.int (10^(40 :Int).toNat)])=H7 at CN e7 hy7 ⊢
   obtain⟨z,z0,qp⟩:∃z:Int,0<z∧uH [V.int 61,V.int (10^(40 :Int).toNat)] (if decide (V.int (n8%4)=V.int 1)=true then 1 else 0)=some (V.int z):=by
    split
    ·exact⟨_,by decide,rfl⟩
    ·exact⟨_,by decide,rfl⟩
   refine⟨_,rfl,_,_,rfl,rfl,(by show (0 :Int) <4;decide),rfl, .inr ⟨_,rfl,y,_,_,V.int z,rfl,rfl,bM.of hy7,qp,_,_,rfl,rfl,z0,?_⟩⟩;have uo:(putK kvs (Sum.inr x) (V.int (n8/4%z))).length≤kvs.length+1:=bE _ _ _;refine⟨_,rfl,_,rfl,am,_,rfl,i4.k (k:=Sum.inr x) CN 0e5,?_⟩;refine⟨_,_,_,_,rfl,aa,hI.put _ _,kJ hn,hT.put Vx _,λs hs=>?_,λk=>?_,le_trans (bE _ _ _) 0e5,λb o z=>?_⟩
   ·rw[take_snoc hx] at hs;rcases mem_append.mp hs with hs|hs
    ·exact iH (mP s hs)
    ·have es:s=x:=by simpa using hs
     rw[es];exact oj _ _ _
   ·rw[dZ];split
    ·exact emod_nonneg _ 0e5
    ·exact Ql k
   ·rw[ah (af z yC)];exact e7 _ _ z
  rintro σ H6 ⟨kvs,v5,v6,v7,rfl,G7,hI,hn,hT,mP,Ql,hl,e6⟩;rw[length_map] at mP hl;rw[take_length] at mP;have hA:yY ws kvs:=⟨hI,hn,hT,λs hs=>mP s (xb s hs),Ql,by omega⟩;have hlA:=hA.len;clear mP Ql hl hT hn hI;refine⟨_,rfl,am,_,rfl, .inl G7,λQY Ql=>?_⟩;have s7:=au.new (o:= .dK kvs) Ql;have CN:=s7 _ _ G7;have hh7:(upd H6 QY 3e0) QY=some 3e0:=aa;have e7:=e6.trans s7;generalize upd H6 QY 3e0=H7 at CN hh7 e7 ⊢;refine λst dx nst Ox nds=>?_;have nas:am≠st:=af CN nst;have s8:au H7 (upd (upd H7 dx (.own st)) st (.ins St dx [])):=G1 (au.refl _) nst Ox;have TN:=s8 _ _ CN;refine⟨st,dx, .ref QY,kvs,rfl,aa, .inr ⟨QY,rfl,s8 _ _ hh7⟩,hA.int,hA.nd,λq hq=>?_,by omega,λd g H9 nd ng BY hSt hd hg k9=>⟨rfl,?_⟩⟩
  ·obtain⟨s,es,hs⟩:=hA.told q hq;exact⟨s,es,pV aM hs⟩
  have OZ:=k9 _ _ TN nas;have L8:d≠am:=λz=>by rw[z,TN] at nd;cases nd
  have e8:=e7.trans s8;have hdB:HB d=none:=none_back e8 nd;have hstB:HB st=none:=none_back e7 nst;have hgB:HB g=none:=none_back e8 ng;have e9:au HB H9:=λb o z=>k9 _ _ (e8 _ _ z) (af (e7 _ _ z) nst);obtain⟨dm,O0⟩:=hSt;clear k9 nd ng s8 TN hh7 CN s7 e7 e8 G7 e6;refine⟨_,rfl,st,dm,_,rfl,O0,eY _ _ 0e0 0e0,st,d,g,kvs,rfl,⟨dm,O0⟩,hd,hA.int,hA.nd,by omega,λfi Fp nfi hfi Mg=>?_⟩;refine⟨_,rfl,fi,_,rfl, .inl hfi,λhe hhe=>?_⟩;have GO:=au.new (o:= .dK (fP kvs)) hhe;have Lg:(upd Fp he (.dK (fP kvs))) he=some (.dK (fP kvs)):=aa;have Lh:=Mg.trans GO;have nhd:d≠he:=af (Mg _ _ hd) hhe;have nfd:d≠fi:=af hd nfi;have nfa:am≠fi:=af OZ nfi;have nha:am≠he:=af (Mg _ _ OZ) hhe;have Li:=GO _ _ hfi;generalize upd Fp he (.dK (fP kvs))=H11 at GO Lg Lh Li ⊢;have Yg:=e9.trans Lh;obtain⟨cs,ecs,lcs⟩:=Ig ns (some 14) (some 28);refine⟨_,rfl,14,rfl,28,rfl,a,_,rfl,Yg.seq hSB,λp hp=>?_⟩;rw[ecs];have Hq:=au.new (o:= .lst (cs.map V.int)) hp;have GP:(upd H11 p (.lst (cs.map V.int))) p=some (.lst (cs.map V.int)):=aa;have ngp:p≠g:=Ne.symm (af (Lh _ _ hg) hp);generalize upd H11 p (.lst (cs.map V.int))=H12 at Hq GP ⊢;have G8:=Lh.trans Hq;have M0:Vv ws St HB H12 st am fi he p g (cs.map V.int) (fP kvs) 0 d dm kvs kvs []:=⟨G8 _ _ O0,G8 _ _ hd,G8 _ _ hg,le_refl _,hA,G8 _ _ OZ,hA,λ_=>rfl,Hq _ _ Li,Hq _ _ Lg,GP,L8,nfd,nhd,hdB,e9.trans G8⟩;have Qo:am≠kn:=Ne.symm (af Vw.1 yC)
  have Yh:∀q∈kk,∀p,q.2= .ref p→p≠am:=λq hq p ep=>by
   obtain⟨x,p',D',GG,_,ql,_⟩:=Vw.2 q hq;rw[GG] at ep;injection ep with ep;subst ep;exact af ql yC
  have tots:∀{ka:0e2},yY ws ka→ka≠[]:=fun {ka} h z=>by
   have:=h.all "e^-" (.inl rfl);rw[z] at this;cases this
  have Yi:∀{ka:0e2},yY ws ka→∀q∈ka,q.1∈kk.map 1e8:=fun {ka} h q hq=>by
   obtain⟨s,es,hs⟩:=h.told q hq;rw[es];exact qw s hs
  clear O0 hd hg OZ hfi Li Lg GP G8 Lh Hq GO Mg e9 Yg hdB L8 nfd nhd;refine⟨p,rfl,⟨_,bM.of M0.mp⟩,dP (K:=K) (a:=p) (xs:=cs.map V.int) (λi σ H'=>∃(v5 v6 v7 v11:Option V) (d dx:3e5) (kv ka:0e2) (gs:4e5),σ=[some (.ref a),some (.ref wl),some (.ref kn),some (.ref tl),some (.ref am),v5,v6,v7,some (.ref st),some (.ref fi),some (.ref he),v11]∧Vv ws St HB H' st am fi he p g (cs.map V.int) (fP kvs) i d dx kv ka gs) ⟨v5,v6,v7,none,d,dm,kvs,kvs,[],rfl,M0⟩ (λi σ H' _ ⟨_,_,_,_,_,_,_,_,_,_,M⟩=>bM.of M.mp) ?_ ?_⟩
  ·clear M0;rintro i x σ H' hi ⟨v5,v6,v7,v11,d,dx,kv,ka,gs,rfl,M⟩
   obtain⟨c,rfl⟩:∃c:Int,x=V.int c:=by
    rw[getElem?_map] at hi
    cases hm:cs[i]? with
    |none=>rw[hm] at hi;cases hi
    |some k=>rw[hm] at hi;exact⟨k,(Option.some.inj hi).symm⟩
   have zA:i<63:=by
    have:=(List.getElem?_eq_some_iff.mp hi).1;rw[length_map] at this;omega
   have hgl:=M.gl;have S9:=M.A.len;have hla:=M.B.len;dsimp only [cg];refine gi (fun σ' H3=>∃(v6:Option V) (d dx:3e5) (kv ka:0e2) (gs:4e5),σ'=[some (.ref a),some (.ref wl),some (.ref kn),some (.ref tl),some (.ref am),v5,v6,some (.int c),some (.ref st),some (.ref fi),some (.ref he),v11]∧Vv ws St HB H3 st am fi he p g (cs.map V.int) (fP kvs) (i+1) d dx kv ka gs) (λN hN=>?_) ?_
   ·refine⟨_,rfl,_,_,rfl,rfl,(by show (0 :Int) <7;decide),rfl,_,rfl,eF (λ_=>?_) λ_=>?_⟩
    ·have Yj:=M.ms _ _ pT;have pl:(0 :Int) < ((us.map V.str).length:Int):=by rw[length_map];omega
     obtain⟨v,hv,qp⟩:=pe (xs:=us.map V.str) (i:=c/7%64%((us.map V.str).length:Int)) (emod_nonneg _ 0e5) (emod_lt_of_pos _ pl);obtain⟨sx,hsx,rfl⟩:=mem_map.mp hv;have Vx:=U5 sx hsx;refine⟨_,rfl,_,rfl,_,_,rfl,rfl,2e8,_,_,rfl,rfl,(by show (0 :Int) <64;decide),_,rfl,tl,_,rfl, .inl (bM.of Yj),_,_,rfl,rfl,pl,tl,_,_,V.str sx,rfl,rfl,bM.of Yj,qp,?_⟩;have l0:0≤c/448%10^(40 :Int).toNat:=emod_nonneg _ 0e4;refine⟨_,rfl,st,dx,_,rfl,M.Le,eY _ _ 0e0 0e0,_,rfl,_,rfl,_,_,rfl,rfl,2e8,_,_,rfl,rfl,⟨by decide,by decide,by decide⟩,_,_,rfl,rfl,(by show (0 :Int) <10^(40 :Int).toNat;decide),st,d,g,sx,_,kv,rfl,⟨dx,M.Le⟩,M.md,M.A.int,by omega,pV aM Vx,λH5 kp Xj=>?_⟩;have Yk:=kp _ _ M.OY (Ne.symm M.L8);have hv2:=M.B.int.j5 (M.B.all sx Vx);have uo:(bN ka (Sum.inr sx) (c/448%10^(40 :Int).toNat)).length≤ka.length+1:=bE _ _ _;refine⟨_,rfl,_,rfl,am,V.int (aE ka (Sum.inr sx)),rfl, .inl ⟨_,Sum.inr sx, .inl Yk,rfl,hv2.symm⟩,_,rfl,_,_,rfl,rfl,2e8,_,_,rfl,rfl,⟨by decide,by decide,by decide⟩,_,_,rfl,rfl,(by show (0 :Int) <10^(40 :Int).toNat;decide),_,_,rfl,rfl,_,rfl,_,rfl,am,_,rfl,i4.k (k:=Sum.inr sx) Yk 0e5,?_⟩;have Vy:∀{b:3e5} {o:HO},H' b=some o→b≠d→b≠am→(upd H5 am (.dK (putK ka (Sum.inr sx) (.int (aE ka (Sum.inr sx)+(c/448%10^(40 :Int).toNat)))))) b=some o:=fun {b o} z n1 n2=>by rw[ah n2];exact kp _ _ z n1
     refine hN _ _ ⟨_,d,dx,bN kv (Sum.inr sx) (c/448%10^(40 :Int).toNat),bN ka (Sum.inr sx) (c/448%10^(40 :Int).toNat),gs,rfl,⟨Vy M.Le (cI M.Le M.md (by intro y;cases y)) (cI M.Le M.OY (by intro y;cases y)),by rw[ah M.L8];exact Xj,Vy M.mG (cI M.mG M.md (by intro y;cases y)) (cI M.mG M.OY (by intro y;cases y)),by omega,M.A.add Vx l0,aa,M.B.add Vx l0,λk=>by rw[rm k _ _ M.A.int M.A.nd,rm k _ _ M.B.int M.B.nd,M.Yc],Vy M.Yd (Ne.symm M.ndf) (Ne.symm nfa),Vy M.Ye (Ne.symm M.ndh) (Ne.symm nha),Vy M.mp (cI M.mp M.md (by intro y;cases y)) (cI M.mp M.OY (by intro y;cases y)),M.L8,M.ndf,M.ndh,M.mhd,λb o z=>Vy (M.ms _ _ z) (af z M.mhd) (af z yC)⟩⟩
    ·refine⟨_,rfl,_,rfl,_,rfl,st,d,g,wl,c,ws,kv,gs,rfl,⟨dx,M.Le⟩,M.md,M.mG,by omega,M.A,hWB.same M.ms,aM,mM,h3,λd' kv' K8 H5 h0 h1 h2 h3' h4 Vt L6 h5=>⟨_,rfl,d7 ?_⟩⟩;obtain⟨lN,h1⟩:=h1
     have nd':∀{b:3e5} {o:HO},H' b=some o→d≠b→d'≠b:=fun {b o} z n1=>by
      rcases h0 with rfl|h0
      ·exact n1
      ·exact Ne.symm (af z h0)
     have kept:∀{b:3e5} {D:0e2},H' b=some (.dK D)→H5 b=some (.dK D):=fun {b D} z=>h5 _ _ z (cI z M.Le (by intro y;cases y)) (cI z M.mG (by intro y;cases y));exact hN _ _ ⟨_,d',lN,kv',ka,K8,rfl,⟨h1,h2,h3',by omega,Vt,kept M.OY,M.B,λk=>by rw[L6,M.Yc],kept M.Yd,kept M.Ye,h5 _ _ M.mp (cI M.mp M.Le (by intro y;cases y)) ngp,nd' M.OY M.L8,nd' M.Yd M.ndf,nd' M.Ye M.ndh,by rcases h0 with rfl|h0;exact M.mhd;exact none_back M.ms h0,λb o z=>h5 _ _ (M.ms _ _ z) (af z hstB) (af z hgB)⟩⟩
   rintro σ' H3 ⟨v6',d2,lN,kv2,ka2,gs2,rfl,M2⟩;have hlk2:=M2.A.len;have hla2:=M2.B.len;refine⟨_,rfl,_,rfl,am,kn,ws,_,ka2,kk,rfl,M2.OY,M2.B.int,M2.B.nd,Vw.same M2.ms,Yi M2.B,Qo,Yh,by omega,λdu Dd H4 ndu K6 Vo Qd Vp hkd kq e4=>?_⟩;have hDne:=kq (tots M2.B);obtain⟨ks,oI,Yl⟩:=Ld h3 aM mM Qd hkd
   have l9:ks.length=Dd.length:=by
    have:=congrArg List.length oI;rw[length_map,length_map] at this;exact this.symm
   have hDl:0<Dd.length:=length_pos_iff.mpr hDne;dsimp only [cg];refine⟨_,rfl,_,rfl,_,rfl,_,rfl,du,Dd,ks,rfl, .inl K6,oI,Yl,λsl ms pm SA=>?_⟩;have s5:=au.new (o:= .lst (ms.map V.str)) SA;have Ym:(upd H4 sl (.lst (ms.map V.str))) sl=some (.lst (ms.map V.str)):=aa;generalize upd H4 sl (.lst (ms.map V.str))=H5 at s5 Ym ⊢;have Sy:ms.length=Dd.length:=by rw[pm.length_eq,l9]
   have pl:(0 :Int) < (Dd.length:Int):=by omega
   obtain⟨v,hv,qp⟩:=pe (xs:=ms.map V.str) (i:=c/3%(Dd.length:Int)) (emod_nonneg _ 0e5) (by rw[length_map,Sy];exact emod_lt_of_pos _ pl);obtain⟨sx,hsx,rfl⟩:=mem_map.mp hv;obtain⟨ss,ess,hss⟩:=OX sx c;refine⟨_,rfl,_,_,rfl,rfl,2e8,_,rfl,du,Dd,rfl, .inl (s5 _ _ K6),_,_,rfl,rfl,pl,sl,_,_,V.str sx,rfl,rfl,bM.of Ym,qp,(by show 1≤sizeLine;decide),λl1 uq=>?_⟩;have s6:=au.new (o:= .lst [V.str sx]) uq;have Yn:(upd H5 l1 (.lst [V.str sx])) l1=some (.lst [V.str sx]):=aa;generalize upd H5 l1 (.lst [V.str sx])=H6 at s6 Yn ⊢;refine⟨_,rfl,_,_,rfl,rfl,2e8,_,_,rfl,rfl,(by show (0 :Int) <2;decide),_,rfl,l1,_,rfl,bM.of Yn,λso X3=>?_⟩;rw[ess];have s7:=au.new (o:= .lst (ss.map V.str)) X3;have e47:=(s5.trans s6).trans s7;have M3:=M2.same (e4.trans e47);refine⟨st,d2,g,kn,du,so,ws,_,kv2,kk,Dd,ss,rfl,aM,⟨lN,M3.Le⟩,M3.md,M3.A.int,M3.A.nd,M3.A.told,M3.A.nn,by omega,Vw.same M3.ms,qw,e47 _ _ K6,Vo,Qd,(λk=>by rw[Vp,M3.Yc]),aa,(λx hx=>by rw[hss x hx,oI];exact mem_map_of_mem (pm.mem_iff.mp hsx)),λue H8 _ _ e8=>?_⟩;refine⟨_,rfl,d7 ?_⟩;exact⟨_,_,_,_,d2,lN,kv2,ka2,gs2,rfl,M3.same e8⟩
  ·rintro σ H' ⟨v5,v6,v7,v11,d,dx,kv,ka,gs,rfl,M⟩;have hlk2:=M.A.len;have hla2:=M.B.len;refine⟨_,rfl,_,rfl,am,kn,ws,_,ka,kk,rfl,M.OY,M.B.int,M.B.nd,Vw.same M.ms,Yi M.B,Qo,Yh,by omega,λdu Dd H4 ndu K6 Vo Qd Vp hkd kq e4=>?_⟩;obtain⟨ks,oI,Yl⟩:=Ld h3 aM mM Qd hkd
   have xj:(Dd.map λq=>kV q.1)=ks.map V.str:=by
    have:(Dd.map λq=>kV q.1)=(Dd.map 1e8).map kV:=by rw[map_map];rfl
    rw[this,oI,map_map];rfl
   dsimp only [cg];refine⟨_,rfl,_,rfl,_,rfl,_,rfl,du,Dd,rfl, .inl K6,λso X3=>?_⟩;rw[xj];have s5:=au.new (o:= .lst (ks.map V.str)) X3;have M3:=M.same (e4.trans s5);refine⟨st,d,g,kn,du,so,ws,_,kv,kk,Dd,ks,rfl,aM,⟨dx,M3.Le⟩,M3.md,M3.A.int,M3.A.nd,M3.A.told,M3.A.nn,by omega,Vw.same M3.ms,qw,s5 _ _ K6,Vo,Qd,(λk=>by rw[Vp,M3.Yc]),aa,(λx hx=>by rw[oI];exact mem_map_of_mem hx),λue H8 _ _ e8=>?_⟩;have M4:=M3.same e8;have fl:p7 (fP kvs):=λp' ql=>by obtain⟨i,e⟩:=hA.int p' (mem_filter.mp ql).1;rw[e];rfl
   refine⟨_,rfl,gK ?_⟩;refine⟨_,rfl,_,rfl,fi,he,_,_,rfl,rfl, .inl M4.Yd, .inl M4.Ye,fl,fl,λQn _=>?_⟩;rw[rP Qn fl];exact q _
end
def all_mk{l:PySem.W.OpenLaw}{w:World}{K:0e9}{h:Heap}{mg:1e3}{fa C Gr Pc Fo Rd Rc Ch St HE Sh Ub Yo Yp Yq Yr Ys EK Yt O1 Yu O2 Yv Yw Yx O3 Yy TQ TR TX TY Yz TZ T1 Lj T2 T3 Lk T4 T5 Ll YA YB YC YD YE YF YG YH YI YJ Qq Qr Qs Lm YK YL YM YN YO YQ YR YS Qt EL O4 YT YU O5 YV YW YX YY YZ Y0 O6 Y1 Y2 Y3 Y4 Y5 Y6 Y7 Y8 Y9 Y' Za Zb Zc Zd Ze T6:3e5}(X:K.In h)(G:h.Ns mainGlobals mg)(hfa:mg "law" =some (.ref fa))
  {T7 CO Zf Ln Zg Lo Zh Lp Zi Lq Zj Lr Zk Qu:Option Addr} {T8 Zl Zm Zn Zo Zp Zq:Array (Option Value)} {T9 CP CQ CS yP CT Zr Ls Lu Lv EM Lw Zs Lx Ly Lz EN LA Zt LB LC LD ES LF Zu LG LH LI ET LJ Zv LK LL LM EU LN Zw Qv Qw Qx LO Qy:Value}
  {yQ:3e5} {O7:Value} {O8:Option Addr} {O9:Array (Option Value)} {Ua:Nat} {LP:Tok}
  {EV:3e5} {Uc:Value} {Ud:Option Addr} {Ue:Array (Option Value)} {Zx:Nat} {Qz:Tok}
  {EW:3e5} {Ug:Value} {Uh:Option Addr} {Ui:Array (Option Value)} {Zy:Nat} {QA:Tok}
  {EX:3e5} {Uj:Value} {Uk:Option Addr} {Ul:Array (Option Value)} {Zz:Nat} {QB:Tok}
  {EY:3e5} {Um:Value} {Uo:Option Addr} {Up:Array (Option Value)} {ZA:Nat} {QC:Tok}
  {EZ:3e5} {Uq:Value} {Ur:Option Addr} {Us:Array (Option Value)} {ZC:Nat}
  {uK uN uB uE uM uC uP uI uD uL uT eM eN eO uG uS:Tok}
  (aC:nsIn K mainGlobals "Atom" =some (some (.ref C)))
  (aGr:nsIn K mainGlobals "Group" =some (some (.ref Gr)))
  (aPc:nsIn K mainGlobals "Piece" =some (some (.ref Pc)))
  (aFo:nsIn K mainGlobals "Formula" =some (some (.ref Fo)))
  (aRd:nsIn K mainGlobals "Reader" =some (some (.ref Rd)))
  (aRc:nsIn K mainGlobals "ChangeReader" =some (some (.ref Rc)))
  (aCh:nsIn K mainGlobals "Change" =some (some (.ref Ch)))
  (aSt:nsIn K mainGlobals "Store" =some (some (.ref St)))
  (aHE:nsIn K mainGlobals "HallError" =some (some (.ref HE)))
  (aSh:nsIn K mainGlobals "Short" =some (some (.ref Sh)))
  (aUb:nsIn K mainGlobals "Unbalanced" =some (some (.ref Ub)))
  (axig:nsIn K mainGlobals "is_great" =some (some (.ref Yo)))
  (lxig:dt K "is_great" "is_great" xB Yo)
  (axis:nsIn K mainGlobals "is_small" =some (some (.ref Yp)))
  (lxis:dt K "is_small" "is_small" xC Yp)
  (axif:nsIn K mainGlobals "is_figure" =some (some (.ref Yq)))
  (lxif:dt K "is_figure" "is_figure" qI Yq)
  (axcs:nsIn K mainGlobals "count_shown" =some (some (.ref Yr)))
  (lxcs:dt K "count_shown" "count_shown" iO Yr)
  (axps:nsIn K mainGlobals "parts_shown" =some (some (.ref Ys)))
  (lxps:dt K "parts_shown" "parts_shown" lE Ys)
  (ZD:PySem.W.findIn K (.ref C) "__init__" =some (some (.ref EK)))
  (ZE:PySem.W.isFn K (.ref EK)=true)
  (ZF:K.lookup EK=some ⟨T9,T7, .func (fnOf "__init__" "Atom.__init__" (bD jj) (aR jj) (aj jj) (.ref yQ) CP CQ CS CO yP CT),T8⟩)
  (QD:K.lookup yQ=some ⟨O7,O8, .seq #[.int 1 LP] Ua,O9⟩)
  (ZG:PySem.W.codeIn K yP "Atom.__init__" =true)
  (ZH:keepIn K (.ref EK)=true)
  (axsh:PySem.W.findIn K (.ref C) "shown" =some (some (.ref Yt)))
  (lxsh:dt K "shown" "Atom.shown" xD Yt)
  (axgi:PySem.W.findIn K (.ref Gr) "__init__" =some (some (.ref O1)))
  (ixgi:PySem.W.isFn K (.ref O1)=true)
  (lxgi:K.lookup O1=some ⟨Zr,Zf, .func (fnOf "__init__" "Group.__init__" (bD fV) (aR fV) (aj fV) (.ref EV) Ls Lu Lv Ln EM Lw),Zl⟩)
  (ZI:K.lookup EV=some ⟨Uc,Ud, .seq #[.int 1 Qz] Zx,Ue⟩)
  (cxgi:PySem.W.codeIn K EM "Group.__init__" =true)
  (kxgi:keepIn K (.ref O1)=true)
  (axgs:PySem.W.findIn K (.ref Gr) "shown" =some (some (.ref Yu)))
  (lxgs:dt K "shown" "Group.shown" lF Yu)
  (axpi:PySem.W.findIn K (.ref Pc) "__init__" =some (some (.ref O2)))
  (ixpi:PySem.W.isFn K (.ref O2)=true)
  (lxpi:K.lookup O2=some ⟨Zs,Zg, .func (fnOf "__init__" "Piece.__init__" (bD fW) (aR fW) (aj fW) (.ref EW) Lx Ly Lz Lo EN LA),Zm⟩)
  (ZJ:K.lookup EW=some ⟨Ug,Uh, .seq #[.int 1 QA] Zy,Ui⟩)
  (cxpi:PySem.W.codeIn K EN "Piece.__init__" =true)
  (kxpi:keepIn K (.ref O2)=true)
  (axpS:PySem.W.findIn K (.ref Pc) "shown" =some (some (.ref Yv)))
  (lxpS:dt K "shown" "Piece.shown" iP Yv)
  (axtl:nsIn K mainGlobals "refuse_too_long" =some (some (.ref Yw)))
  (lxtl:dt K "refuse_too_long" "refuse_too_long" m6 Yw)
  (axch:nsIn K mainGlobals "charge_shown" =some (some (.ref Yx)))
  (lxch:dt K "charge_shown" "charge_shown" gO Yx)
  (axfi:PySem.W.findIn K (.ref Fo) "__init__" =some (some (.ref O3)))
  (ixfi:PySem.W.isFn K (.ref O3)=true)
  (lxfi:K.lookup O3=some ⟨Zt,Zh, .func (fnOf "__init__" "Formula.__init__" (bD fX) (aR fX) (aj fX) (.ref EX) LB LC LD Lp ES LF),Zn⟩)
  (ZK:K.lookup EX=some ⟨Uj,Uk, .seq #[.int 0 QB] Zz,Ul⟩)
  (cxfi:PySem.W.codeIn K ES "Formula.__init__" =true)
  (kxfi:keepIn K (.ref O3)=true)
  (axfS:PySem.W.findIn K (.ref Fo) "shown" =some (some (.ref Yy)))
  (lxfS:dt K "shown" "Formula.shown" m7 Yy)
  (axri:PySem.W.findIn K (.ref Rd) "__init__" =some (some (.ref TQ)))
  (ZL:dt K "__init__" "Reader.__init__" su TQ)
  (axrs:PySem.W.findIn K (.ref Rd) "sign" =some (some (.ref TR)))
  (ZM:dt K "sign" "Reader.sign" zS TR)
  (axrt:PySem.W.findIn K (.ref Rd) "take" =some (some (.ref TX)))
  (ZN:dt K "take" "Reader.take" zT TX)
  (axra:PySem.W.findIn K (.ref Rd) "take_all" =some (some (.ref TY)))
  (ZO:dt K "take_all" "Reader.take_all" kF TY)
  (axre:PySem.W.findIn K (.ref Rd) "take_end" =some (some (.ref Yz)))
  (lxre:dt K "take_end" "Reader.take_end" m9 Yz)
  (axrw:PySem.W.findIn K (.ref Rd) "read_whole" =some (some (.ref TZ)))
  (ZP:dt K "read_whole" "Reader.read_whole" nh TZ)
  (axrl:PySem.W.findIn K (.ref Rd) "read_electron" =some (some (.ref T1)))
  (ZQ:dt K "read_electron" "Reader.read_electron" ik T1)
  (ZR:PySem.W.findIn K (.ref Rd) "read_parts" =some (some (.ref Lj)))
  (QE:dt K "read_parts" "Reader.read_parts" lG Lj)
  (axrp:PySem.W.findIn K (.ref Rd) "read_part" =some (some (.ref T2)))
  (ZS:dt K "read_part" "Reader.read_part" pw T2)
  (axrg:PySem.W.findIn K (.ref Rd) "read_group" =some (some (.ref T3)))
  (ZT:dt K "read_group" "Reader.read_group" jJ T3)
  (ZV:PySem.W.findIn K (.ref Rd) "read_atom" =some (some (.ref Lk)))
  (QF:dt K "read_atom" "Reader.read_atom" sv Lk)
  (axrc:PySem.W.findIn K (.ref Rd) "read_count" =some (some (.ref T4)))
  (ZW:dt K "read_count" "Reader.read_count" ni T4)
  (axrn:PySem.W.findIn K (.ref Rd) "read_number" =some (some (.ref T5)))
  (ZX:dt K "read_number" "Reader.read_number" kG T5)
  (ZY:PySem.W.findIn K (.ref Rd) "read_charge" =some (some (.ref Ll)))
  (QG:dt K "read_charge" "Reader.read_charge" kH Ll)
  (axrf:nsIn K mainGlobals "read_formula" =some (some (.ref YA)))
  (lxrf:dt K "read_formula" "read_formula" lH YA)
  (axpc:nsIn K mainGlobals "parts_counts" =some (some (.ref YB)))
  (lxpc:dt K "parts_counts" "parts_counts" ji YB)
  (axco:PySem.W.findIn K (.ref C) "counts" =some (some (.ref YC)))
  (lxco:dt K "counts" "Atom.counts" qJ YC)
  (axgc:PySem.W.findIn K (.ref Gr) "counts" =some (some (.ref YD)))
  (lxgc:dt K "counts" "Group.counts" jk YD)
  (axpC:PySem.W.findIn K (.ref Pc) "counts" =some (some (.ref YE)))
  (lxpC:dt K "counts" "Piece.counts" gN YE)
  (axfC:PySem.W.findIn K (.ref Fo) "counts" =some (some (.ref YF)))
  (lxfC:dt K "counts" "Formula.counts" m8 YF)
  (axci:PySem.W.findIn K (.ref Ch) "__init__" =some (some (.ref YG)))
  (lxci:dt K "__init__" "Change.__init__" xE YG)
  (axam:nsIn K mainGlobals "formula_amounts" =some (some (.ref YH)))
  (lxam:dt K "formula_amounts" "formula_amounts" nj YH)
  (axkd:PySem.W.findIn K (.ref Ch) "kinds" =some (some (.ref YI)))
  (lxkd:dt K "kinds" "Change.kinds" xF YI)
  (axrm:PySem.W.findIn K (.ref Rc) "read_term" =some (some (.ref YJ)))
  (lxrm:dt K "read_term" "ChangeReader.read_term" xG YJ)
  (ZZ:PySem.W.findIn K (.ref Rc) "read_lefts" =some (some (.ref Qq)))
  (Z0:dt K "read_lefts" "ChangeReader.read_lefts" qK Qq)
  (Z1:PySem.W.findIn K (.ref Rc) "read_rights" =some (some (.ref Qr)))
  (Z2:dt K "read_rights" "ChangeReader.read_rights" nq Qr)
  (Z3:PySem.W.findIn K (.ref Rc) "read_sides" =some (some (.ref Qs)))
  (Z4:dt K "read_sides" "ChangeReader.read_sides" qL Qs)
  (Ut:nsIn K mainGlobals "read_change" =some (some (.ref Lm)))
  (Uv:dt K "read_change" "read_change" nu Lm)
  (axsc:nsIn K mainGlobals "side_counts" =some (some (.ref YK)))
  (lxsc:dt K "side_counts" "side_counts" iQ YK)
  (axgn:nsIn K mainGlobals "gains" =some (some (.ref YL)))
  (lxgn:dt K "gains" "gains" sy YL)
  (axsa:nsIn K mainGlobals "side_amounts" =some (some (.ref YM)))
  (lxsa:dt K "side_amounts" "side_amounts" gP YM)
  (axlo:PySem.W.findIn K (.ref Ch) "lost" =some (some (.ref YN)))
  (lxlo:dt K "lost" "Change.lost" vE YN)
  (axev:nsIn K mainGlobals "read_even" =some (some (.ref YO)))
  (lxev:dt K "read_even" "read_even" jl YO)
  (axto:nsIn K mainGlobals "turns_of" =some (some (.ref YQ)))
  (lxto:dt K "turns_of" "turns_of" nv YQ)
  (axmo:nsIn K mainGlobals "most_turns" =some (some (.ref YR)))
  (lxmo:dt K "most_turns" "most_turns" fY YR)
  (axtu:nsIn K mainGlobals "turned" =some (some (.ref YS)))
  (lxtu:dt K "turned" "turned" qM YS)
  (Z5:nsIn K mainGlobals "refuse_short" =some (some (.ref Qt)))
  (Z6:dt K "refuse_short" "refuse_short" gQ Qt)
  (Z7:PySem.W.findIn K (.ref Sh) "__init__" =some (some (.ref EL)))
  (Z8:dt K "__init__" "Short.__init__" xH EL)
  (axsi:PySem.W.findIn K (.ref St) "__init__" =some (some (.ref O4)))
  (ixsi:PySem.W.isFn K (.ref O4)=true)
  (lxsi:K.lookup O4=some ⟨Zu,Zi, .func (fnOf "__init__" "Store.__init__" (bD fZ) (aR fZ) (aj fZ) (.ref EZ) LG LH LI Lq ET LJ),Zo⟩)
  (Z9:K.lookup EZ=some ⟨Uq,Ur, .seq #[.none] ZC,Us⟩)
  (cxsi:PySem.W.codeIn K ET "Store.__init__" =true)
  (kxsi:keepIn K (.ref O4)=true)
  (axsv:PySem.W.findIn K (.ref St) "have" =some (some (.ref YT)))
  (lxsv:dt K "have" "Store.have" Dt YT)
  (axsp:PySem.W.findIn K (.ref St) "put" =some (some (.ref YU)))
  (lxsp:dt K "put" "Store.put" Nb YU)
  (axso:PySem.W.findIn K (.ref St) "go" =some (some (.ref O5)))
  (ixso:PySem.W.isFn K (.ref O5)=true)
  (lxso:K.lookup O5=some ⟨Zv,Zj, .func (fnOf "go" "Store.go" (bD FJ) (aR FJ) (aj FJ) (.ref EY) LK LL LM Lr EU LN),Zp⟩)
  (Z':K.lookup EY=some ⟨Um,Uo, .seq #[.int 1 QC] ZA,Up⟩)
  (cxso:PySem.W.codeIn K EU "Store.go" =true)
  (aaa:keepIn K (.ref O5)=true)
  (axsy:PySem.W.findIn K (.ref St) "go_all" =some (some (.ref YV)))
  (lxsy:dt K "go_all" "Store.go_all" sA YV)
  (axss:PySem.W.findIn K (.ref St) "stocks" =some (some (.ref YW)))
  (lxss:dt K "stocks" "Store.stocks" nz YW)
  (axcw:nsIn K mainGlobals "counts_weight" =some (some (.ref YX)))
  (lxcw:dt K "counts_weight" "counts_weight" sCW YX)
  (axfW:PySem.W.findIn K (.ref Fo) "weight" =some (some (.ref YY)))
  (lxfW:dt K "weight" "Formula.weight" nE YY)
  (axst:PySem.W.findIn K (.ref St) "total" =some (some (.ref YZ)))
  (lxst:dt K "total" "Store.total" sC YZ)
  (axsm:PySem.W.findIn K (.ref St) "most" =some (some (.ref Y0)))
  (lxsm:dt K "most" "Store.most" xO Y0)
  (axub:PySem.W.findIn K (.ref Ub) "__init__" =some (some (.ref O6)))
  (lxub:dt K "__init__" "Unbalanced.__init__" xN O6)
  (axca:nsIn K mainGlobals "_law_cell_at" =some (some (.ref Y1)))
  (lxca:dt K "_law_cell_at" "_law_cell_at" qN Y1)
  (axmi:nsIn K mainGlobals "_law_mixed" =some (some (.ref Y2)))
  (lxmi:dt K "_law_mixed" "_law_mixed" xI Y2)
  (axwh:nsIn K mainGlobals "_law_whole" =some (some (.ref Y3)))
  (lxwh:dt K "_law_whole" "_law_whole" xJ Y3)
  (axki:nsIn K mainGlobals "_law_kind" =some (some (.ref Y4)))
  (lxki:dt K "_law_kind" "_law_kind" Du Y4)
  (axfg:nsIn K mainGlobals "_law_figures" =some (some (.ref Y5)))
  (lxfg:dt K "_law_figures" "_law_figures" nB Y5)
  (axlm:nsIn K mainGlobals "_law_matter" =some (some (.ref Y6)))
  (lxlm:dt K "_law_matter" "_law_matter" nC Y6)
  (axlw:nsIn K mainGlobals "_law_world" =some (some (.ref Y7)))
  (lxlw:dt K "_law_world" "_law_world" px Y7)
  (axlc:nsIn K mainGlobals "_law_change" =some (some (.ref Y8)))
  (lxlc:dt K "_law_change" "_law_change" kI Y8)
  (axlt:nsIn K mainGlobals "_law_text" =some (some (.ref Y9)))
  (lxlt:dt K "_law_text" "_law_text" Dv Y9)
  (axlx:nsIn K mainGlobals "_law_texts" =some (some (.ref Y')))
  (lxlx:dt K "_law_texts" "_law_texts" xK Y')
  (axlK:nsIn K mainGlobals "_law_known" =some (some (.ref Za)))
  (lxlK:dt K "_law_known" "_law_known" xP Za)
  (axlT:nsIn K mainGlobals "_law_totals" =some (some (.ref Zb)))
  (lxlT:dt K "_law_totals" "_law_totals" qO Zb)
  (axlP:nsIn K mainGlobals "_law_kept" =some (some (.ref Zc)))
  (lxlP:dt K "_law_kept" "_law_kept" Dx Zc)
  (axlU:nsIn K mainGlobals "_law_caught" =some (some (.ref Zd)))
  (lxlU:dt K "_law_caught" "_law_caught" qP Zd)
  (axlg:nsIn K mainGlobals "_law_gone" =some (some (.ref Ze)))
  (lxlg:dt K "_law_gone" "_law_gone" Dw Ze)
  (alaw:nsIn K mainGlobals "law" =some (some (.ref T6)))
  (llaw:K.lookup T6=some ⟨Zw,Zk, .func (fnOf "law" "law" (bD xM) (aR xM) (aj xM) .none Qv Qw Qx Qu LO Qy),Zq⟩)
  (claw:PySem.W.codeIn K LO "law" =true)
  (klaw:keepIn K (.ref T6)=true)
  (bxri:PySem.W.findIn K (.ref Rc) "__init__" =some (some (.ref TQ)))
  (bxrs:PySem.W.findIn K (.ref Rc) "sign" =some (some (.ref TR)))
  (bxrt:PySem.W.findIn K (.ref Rc) "take" =some (some (.ref TX)))
  (bxra:PySem.W.findIn K (.ref Rc) "take_all" =some (some (.ref TY)))
  (bxrw:PySem.W.findIn K (.ref Rc) "read_whole" =some (some (.ref TZ)))
  (bxrl:PySem.W.findIn K (.ref Rc) "read_electron" =some (some (.ref T1)))
  (aab:PySem.W.findIn K (.ref Rc) "read_parts" =some (some (.ref Lj)))
  (bxrp:PySem.W.findIn K (.ref Rc) "read_part" =some (some (.ref T2)))
  (bxrg:PySem.W.findIn K (.ref Rc) "read_group" =some (some (.ref T3)))
  (aac:PySem.W.findIn K (.ref Rc) "read_atom" =some (some (.ref Lk)))
  (bxrc:PySem.W.findIn K (.ref Rc) "read_count" =some (some (.ref T4)))
  (bxrn:PySem.W.findIn K (.ref Rc) "read_number" =some (some (.ref T5)))
  (aad:PySem.W.findIn K (.ref Rc) "read_charge" =some (some (.ref Ll)))
  (Uw:PySem.W.typeIn K (.ref EL)=some (.type "function"))
  (saSh:PySem.W.findIn K (.ref Sh) "__setattr__" =some 3e9)
  (gaSh:PySem.W.findIn K (.ref Sh) "__getattribute__" =some (some (.builtin "BaseException.__getattribute__")))
  (ghSh:PySem.W.findIn K (.ref Sh) "__getattr__" =some none)
  (kcSh:keepIn K (.ref Sh)=true)
  (obSh:∃(nm q:Str) (N:3e5) (bs:4e1) (sn:3e8) (sub:4e1) (ab:Bool) (col:Option Bool) (dd:Option Addr) (k0 k1 k2 k3 k5:Option Value),K.lookup Sh=some (excClassObj nm q Sh N bs (.ref HE::PySem.W.zH) true sn sub ab col dd k0 k1 k2 k3 k5 "ValueError.__new__"))
  (aae:PySem.W.typeIn K (.ref O6)=some (.type "function"))
  (saUb:PySem.W.findIn K (.ref Ub) "__setattr__" =some 3e9)
  (gaUb:PySem.W.findIn K (.ref Ub) "__getattribute__" =some (some (.builtin "BaseException.__getattribute__")))
  (ghUb:PySem.W.findIn K (.ref Ub) "__getattr__" =some none)
  (kcUb:keepIn K (.ref Ub)=true)
  (obUb:∃(nm q:Str) (N:3e5) (bs:4e1) (sn:3e8) (sub:4e1) (ab:Bool) (col:Option Bool) (dd:Option Addr) (k0 k1 k2 k3 k5:Option Value),K.lookup Ub=some (excClassObj nm q Ub N bs (.ref HE::PySem.W.zH) true sn sub ab col dd k0 k1 k2 k3 k5 "ValueError.__new__"))
  (pgC:PySem.W.plainGet K C Str.empty=true)
  (hdC:PySem.W.hasDictIn K C=true)
  (poC:PySem.W.plainOver K C=true)
  (saC:PySem.W.findIn K (.ref C) "__setattr__" =some 3e9)
  (mkC:PySem.W.makesIn K C=true)
  (kcC:keepIn K (.ref C)=true)
  (aaf:PySem.W.plainGet K Gr Str.empty=true)
  (aag:PySem.W.hasDictIn K Gr=true)
  (aah:PySem.W.plainOver K Gr=true)
  (aai:PySem.W.findIn K (.ref Gr) "__setattr__" =some 3e9)
  (mkGr:PySem.W.makesIn K Gr=true)
  (kcGr:keepIn K (.ref Gr)=true)
  (aaj:PySem.W.plainGet K Pc Str.empty=true)
  (aak:PySem.W.hasDictIn K Pc=true)
  (aal:PySem.W.plainOver K Pc=true)
  (aam:PySem.W.findIn K (.ref Pc) "__setattr__" =some 3e9)
  (mkPc:PySem.W.makesIn K Pc=true)
  (kcPc:keepIn K (.ref Pc)=true)
  (aan:PySem.W.plainGet K Fo Str.empty=true)
  (aao:PySem.W.hasDictIn K Fo=true)
  (aap:PySem.W.plainOver K Fo=true)
  (aaq:PySem.W.findIn K (.ref Fo) "__setattr__" =some 3e9)
  (mkFo:PySem.W.makesIn K Fo=true)
  (kcFo:keepIn K (.ref Fo)=true)
  (pgRd:PySem.W.plainGet K Rd Str.empty=true)
  (hdRd:PySem.W.hasDictIn K Rd=true)
  (poRd:PySem.W.plainOver K Rd=true)
  (saRd:PySem.W.findIn K (.ref Rd) "__setattr__" =some 3e9)
  (mkRd:PySem.W.makesIn K Rd=true)
  (kcRd:keepIn K (.ref Rd)=true)
  (pgRc:PySem.W.plainGet K Rc Str.empty=true)
  (hdRc:PySem.W.hasDictIn K Rc=true)
  (poRc:PySem.W.plainOver K Rc=true)
  (saRc:PySem.W.findIn K (.ref Rc) "__setattr__" =some 3e9)
  (mkRc:PySem.W.makesIn K Rc=true)
  (kcRc:keepIn K (.ref Rc)=true)
  (pgCh:PySem.W.plainGet K Ch Str.empty=true)
  (hdCh:PySem.W.hasDictIn K Ch=true)
  (poCh:PySem.W.plainOver K Ch=true)
  (saCh:PySem.W.findIn K (.ref Ch) "__setattr__" =some 3e9)
  (mkCh:PySem.W.makesIn K Ch=true)
  (kcCh:keepIn K (.ref Ch)=true)
  (aar:PySem.W.plainGet K St Str.empty=true)
  (aas:PySem.W.hasDictIn K St=true)
  (aat:PySem.W.plainOver K St=true)
  (aau:PySem.W.findIn K (.ref St) "__setattr__" =some 3e9)
  (mkSt:PySem.W.makesIn K St=true)
  (kcSt:keepIn K (.ref St)=true)
  (QH:PySem.W.findIn K (.ref C) "kind" =some none)
  (LQ:PySem.W.findIn K (.ref C) "count" =some none)
  (ngp:PySem.W.findIn K (.ref Gr) "parts" =some none)
  (ngc:PySem.W.findIn K (.ref Gr) "count" =some none)
  (npp:PySem.W.findIn K (.ref Pc) "parts" =some none)
  (npc:PySem.W.findIn K (.ref Pc) "count" =some none)
  (nfp:PySem.W.findIn K (.ref Fo) "pieces" =some none)
  (nfc:PySem.W.findIn K (.ref Fo) "charge" =some none)
  (nrt:PySem.W.findIn K (.ref Rd) "text" =some none)
  (nrp:PySem.W.findIn K (.ref Rd) "place" =some none)
  (nlf:PySem.W.findIn K (.ref Ch) "lefts" =some none)
  (nrf:PySem.W.findIn K (.ref Ch) "rights" =some none)
  (nct:PySem.W.findIn K (.ref Rc) "text" =some none)
  (ncp:PySem.W.findIn K (.ref Rc) "place" =some none)
  (nam:PySem.W.findIn K (.ref St) "amounts" =some none)
  (ngo:PySem.W.findIn K (.ref St) "gone" =some none)
  (fS1:PySem.W.findIn K (.ref Sh) "step" =some none)
  (fS2:PySem.W.findIn K (.ref Sh) "turn" =some none)
  (fS3:PySem.W.findIn K (.ref Sh) "formula" =some none)
  (fS4:PySem.W.findIn K (.ref Sh) "lack" =some none)
  (QI:nsIn K mainGlobals "len" =some none)
  (QJ:nsIn K mainGlobals "str" =some none)
  (QK:nsIn K mainGlobals "int" =some none)
  (LR:nsIn K mainGlobals "bool" =some none)
  (E1:nsIn K mainGlobals "range" =some none)
  (oE:nsIn K mainGlobals "isinstance" =some none)
  (LS:nsIn K mainGlobals "list" =some none)
  (QL:nsIn K mainGlobals "abs" =some none)
  (LU:nsIn K mainGlobals "dict" =some none)
  (aav:nsIn K mainGlobals "sum" =some none)
  (A6:nsIn K mainGlobals "sorted" =some none)
  (aaw:nsIn K mainGlobals "all" =some none)
  (aax:nsIn K mainGlobals "min" =some none)
  (qi:nsIn K mainGlobals "enumerate" =some none)
  (mj:nsIn K mainGlobals "LONGEST_KIND" =some (some (.int 3 uK)))
  (ll:nsIn K mainGlobals "LONGEST_COUNT" =some (some (.int 3 uN)))
  (oF:nsIn K mainGlobals "GROUP_BEGIN" =some (some (.str "(" uB)))
  (uh:nsIn K mainGlobals "GROUP_END" =some (some (.str ")" uE)))
  (gJ:nsIn K mainGlobals "MOST_GROUPS_AROUND" =some (some (.int 3 uM)))
  (oG:nsIn K mainGlobals "CHARGE_MARK" =some (some (.str "^" uC)))
  (QM:nsIn K mainGlobals "PLUS" =some (some (.str "+" uP)))
  (LV:nsIn K mainGlobals "MINUS" =some (some (.str "-" uI)))
  (uk:nsIn K mainGlobals "PIECE_DOT" =some (some (.str "." uD)))
  (wO:nsIn K mainGlobals "ELECTRON" =some (some (.str "e^-" uL)))
  (ml:nsIn K mainGlobals "LONGEST_TEXT" =some (some (.int 400 uT)))
  (Ux:nsIn K mainGlobals "BLANK" =some (some (.str " " eM)))
  (Uy:nsIn K mainGlobals "JOINT" =some (some (.str " + " eN)))
  (Uz:nsIn K mainGlobals "ARROW" =some (some (.str " -> " eO)))
  (ma:nsIn K mainGlobals "LONGEST_TERM_COUNT" =some (some (.int 12 uG)))
  (A7:nsIn K mainGlobals "MOST_TERMS" =some (some (.int 8 uS)))
  (hE1:PySem.W.specialIn K (.ref HE) "__getattribute__" =some (some (.builtin "type.__getattribute__")))
  (hE2:PySem.W.readsIn K HE (.type "type")=true)
  (Vn:PySem.W.findCls K (.ref HE) (.type "type") "__init__" =some (.val (.builtin "ValueError.__init__")))
  (hE4:∃(nm q:Str) (N:3e5) (bs bm:4e1) (hd:Bool) (sn:3e8) (sub:4e1) (ab:Bool) (col:Option Bool) (dd:Option Addr) (k0 k1 k2 k3 k5:Option Value) (nid:String),K.lookup HE=some (excClassObj nm q HE N bs bm hd sn sub ab col dd k0 k1 k2 k3 k5 nid)∧bm.contains (.type "BaseException")=true)
  (tS1:PySem.W.takerIn K Sh "step" =some none)
  (tS2:PySem.W.takerIn K Sh "turn" =some none)
  (tS3:PySem.W.takerIn K Sh "formula" =some none)
  (tS4:PySem.W.takerIn K Sh "lack" =some none)
  (t1:PySem.W.findIn K (.ref Sh) "__class__" =some (some (.builtin "object.__class__")))
  (t2:PySem.W.specialIn K (.builtin "object.__class__") "__get__" =some (some (.builtin "getset_descriptor.__get__")))
  (t3:PySem.W.takesIn K (.builtin "object.__class__")=some true)
  (uS1:PySem.W.mroIn K Sh (.ref HE)=some true)
  (uS2:PySem.W.mroIn K Sh (.ref Sh)=some true)
  (tU1:PySem.W.takerIn K Ub "kind" =some none)
  (tU2:PySem.W.takerIn K Ub "left" =some none)
  (tU3:PySem.W.takerIn K Ub "right" =some none)
  (tc:PySem.W.findIn K (.ref Ub) "__class__" =some (some (.builtin "object.__class__")))
  (uU1:PySem.W.mroIn K Ub (.ref HE)=some true)
  :∃fd:FuncData,(∀(s:Shared) (v:Value),BindsTo s fd ⟨[v],[]⟩ [("_law_script",v)])∧∀base:Heap,K.In base→base.Ns mainGlobals mg→fD l.prog w K mg base rO 21 fa fd ["_law_script"] (EJ K):=by
 have e:=hfa.symm.trans (mg_of X G alaw);cases e;have T:kR K mg C Rd Gr Pc Fo uK uN uB uE uM uC uP uI uD uL uT:=⟨⟨⟨⟨⟨pgC,hdC,poC,saC⟩,QH,LQ,mg_of X G aC,mg_none_of X G QI,mg_none_of X G QJ,mg_none_of X G QK,mg_none_of X G LR,mg_none_of X G E1,mg_none_of X G oE,gu,mV,gu,gu,gu⟩,⟨pgRd,hdRd,poRd,saRd⟩,nrt,nrp,mg_of X G mj,mg_of X G ll⟩,⟨aaf,aag,aah,aai⟩,ngp,ngc,mg_of X G aGr,mg_of X G oF,mg_of X G uh,mg_of X G gJ⟩,mg_of X G oG,mg_of X G QM,mg_of X G LV,⟨aaj,aak,aal,aam⟩,⟨aan,aao,aap,aaq⟩,npp,npc,nfp,nfc,mg_of X G aPc,mg_of X G aFo,mg_of X G uk,mg_of X G wO,mg_of X G ml,mg_none_of X G LS,mg_none_of X G QL⟩;have aay:Def K mg "is_great" "is_great" xB ["sign"]:=ck X G axig lxig 1e2;have aaz:Def K mg "is_small" "is_small" xC ["sign"]:=ck X G axis lxis 1e2;have aaA:Def K mg "is_figure" "is_figure" qI ["sign"]:=ck X G axif lxif 1e2;have aaB:Def K mg "count_shown" "count_shown" iO ["count"]:=ck X G axcs lxcs 1e2;have aaC:Def K mg "parts_shown" "parts_shown" lE ["parts"]:=ck X G axps lxps 1e2;have UA:l6 K C "Atom.__init__" jj ["self","kind","count"] [1]:=⟨_,_,_,lC (st:=jj) ZF ZG ZH,⟨mkC,ZD,ZE,kcC⟩,WH (⟨[.int 1 LP], .cons 2e4 (.nil),U8 rfl λ_ _ _ hk=>PySem.W.binds_K (K:=K) (fd:=fnOf "__init__" "Atom.__init__" (bD jj) (aR jj) (aj jj) (.ref yQ) CP CQ CS CO yP CT) hk rfl QD rfl rfl rfl⟩) (⟨[], .nil,WI rfl λ_ _ _ _ hk=>PySem.W.binds_K (K:=K) (fd:=fnOf "__init__" "Atom.__init__" (bD jj) (aR jj) (aj jj) (.ref yQ) CP CQ CS CO yP CT) hk rfl QD rfl rfl rfl⟩)⟩;have aaD:aX K C "shown" "Atom.shown" xD 1e5:=bI axsh lxsh 1e2;have aaE:l6 K Gr "Group.__init__" fV ["self","parts","count"] [1]:=⟨_,_,_,lC (st:=fV) lxgi cxgi kxgi,⟨mkGr,axgi,ixgi,kcGr⟩,WH (⟨[.int 1 Qz], .cons 2e4 (.nil),U8 rfl λ_ _ _ hk=>PySem.W.binds_K (K:=K) (fd:=fnOf "__init__" "Group.__init__" (bD fV) (aR fV) (aj fV) (.ref EV) Ls Lu Lv Ln EM Lw) hk rfl ZI rfl rfl rfl⟩) (⟨[], .nil,WI rfl λ_ _ _ _ hk=>PySem.W.binds_K (K:=K) (fd:=fnOf "__init__" "Group.__init__" (bD fV) (aR fV) (aj fV) (.ref EV) Ls Lu Lv Ln EM Lw) hk rfl ZI rfl rfl rfl⟩)⟩;have aaF:aX K Gr "shown" "Group.shown" lF 1e5:=bI axgs lxgs 1e2;have aaG:l6 K Pc "Piece.__init__" fW ["self","parts","count"] [1]:=⟨_,_,_,lC (st:=fW) lxpi cxpi kxpi,⟨mkPc,axpi,ixpi,kcPc⟩,WH (⟨[.int 1 QA], .cons 2e4 (.nil),U8 rfl λ_ _ _ hk=>PySem.W.binds_K (K:=K) (fd:=fnOf "__init__" "Piece.__init__" (bD fW) (aR fW) (aj fW) (.ref EW) Lx Ly Lz Lo EN LA) hk rfl ZJ rfl rfl rfl⟩) (⟨[], .nil,WI rfl λ_ _ _ _ hk=>PySem.W.binds_K (K:=K) (fd:=fnOf "__init__" "Piece.__init__" (bD fW) (aR fW) (aj fW) (.ref EW) Lx Ly Lz Lo EN LA) hk rfl ZJ rfl rfl rfl⟩)⟩;have aaH:aX K Pc "shown" "Piece.shown" iP 1e5:=bI axpS lxpS 1e2;have aaI:Def K mg "refuse_too_long" "refuse_too_long" m6 ["text"]:=ck X G axtl lxtl 1e2;have aaJ:Def K mg "charge_shown" "charge_shown" gO ["charge"]:=ck X G axch lxch 1e2;have aaK:l6 K Fo "Formula.__init__" fX ["self","pieces","charge"] [0]:=⟨_,_,_,lC (st:=fX) lxfi cxfi kxfi,⟨mkFo,axfi,ixfi,kcFo⟩,WH (⟨[.int 0 QB], .cons 2e4 (.nil),U8 rfl λ_ _ _ hk=>PySem.W.binds_K (K:=K) (fd:=fnOf "__init__" "Formula.__init__" (bD fX) (aR fX) (aj fX) (.ref EX) LB LC LD Lp ES LF) hk rfl ZK rfl rfl rfl⟩) (⟨[], .nil,WI rfl λ_ _ _ _ hk=>PySem.W.binds_K (K:=K) (fd:=fnOf "__init__" "Formula.__init__" (bD fX) (aR fX) (aj fX) (.ref EX) LB LC LD Lp ES LF) hk rfl ZK rfl rfl rfl⟩)⟩;have aaL:aX K Fo "shown" "Formula.shown" m7 1e5:=bI axfS lxfS 1e2;have aaM:l6 K Rd "Reader.__init__" su ["self","text"] []:=IG mkRd axri kcRd ZL 1e9;have aaN:l6 K Rc "Reader.__init__" su ["self","text"] []:=IG mkRc bxri kcRc ZL 1e9;have aaO:aX K Rd "sign" "Reader.sign" zS 1e5:=bI axrs ZM 1e2;have aaP:aX K Rc "sign" "Reader.sign" zS 1e5:=bI bxrs ZM 1e2;have aaQ:aX K Rd "take" "Reader.take" zT ["self","sign"]:=bI axrt ZN 1e9;have aaR:aX K Rc "take" "Reader.take" zT ["self","sign"]:=bI bxrt ZN 1e9;have aaS:aX K Rd "take_all" "Reader.take_all" kF ["self","signs"]:=bI axra ZO 1e9;have aaT:aX K Rc "take_all" "Reader.take_all" kF ["self","signs"]:=bI bxra ZO 1e9;have aaU:aX K Rd "take_end" "Reader.take_end" m9 1e5:=bI axre lxre 1e2;have aaV:aX K Rd "read_whole" "Reader.read_whole" nh 1e5:=bI axrw ZP 1e2;have aaW:aX K Rc "read_whole" "Reader.read_whole" nh 1e5:=bI bxrw ZP 1e2;have aaX:aX K Rd "read_electron" "Reader.read_electron" ik 1e5:=bI axrl ZQ 1e2;have aaY:aX K Rc "read_electron" "Reader.read_electron" ik 1e5:=bI bxrl ZQ 1e2;have UB:aX K Rd "read_parts" "Reader.read_parts" lG ["self","around"]:=bI ZR QE 1e9;have UC:aX K Rc "read_parts" "Reader.read_parts" lG ["self","around"]:=bI aab QE 1e9;have aaZ:aX K Rd "read_part" "Reader.read_part" pw ["self","around"]:=bI axrp ZS 1e9;have aa0:aX K Rc "read_part" "Reader.read_part" pw ["self","around"]:=bI bxrp ZS 1e9;have aa1:aX K Rd "read_group" "Reader.read_group" jJ ["self","around"]:=bI axrg ZT 1e9;have aa2:aX K Rc "read_group" "Reader.read_group" jJ ["self","around"]:=bI bxrg ZT 1e9;have UD:aX K Rd "read_atom" "Reader.read_atom" sv 1e5:=bI ZV QF 1e2;have UE:aX K Rc "read_atom" "Reader.read_atom" sv 1e5:=bI aac QF 1e2;have aa3:aX K Rd "read_count" "Reader.read_count" ni 1e5:=bI axrc ZW 1e2;have aa4:aX K Rc "read_count" "Reader.read_count" ni 1e5:=bI bxrc ZW 1e2;have aa5:aX K Rd "read_number" "Reader.read_number" kG ["self","longest"]:=bI axrn ZX 1e9;have aa6:aX K Rc "read_number" "Reader.read_number" kG ["self","longest"]:=bI bxrn ZX 1e9;have UG:aX K Rd "read_charge" "Reader.read_charge" kH 1e5:=bI ZY QG 1e2;have UH:aX K Rc "read_charge" "Reader.read_charge" kH 1e5:=bI aad QG 1e2;have aa7:Def K mg "read_formula" "read_formula" lH ["text"]:=ck X G axrf lxrf 1e2;have QN:Def K mg "parts_counts" "parts_counts" ji ["parts","times"]:=ck X G axpc lxpc 1e9;have aa8:aX K C "counts" "Atom.counts" qJ 1e5:=bI axco lxco 1e2;have aa9:aX K Gr "counts" "Group.counts" jk 1e5:=bI axgc lxgc 1e2;have aa':aX K Pc "counts" "Piece.counts" gN 1e5:=bI axpC lxpC 1e2;have aba:aX K Fo "counts" "Formula.counts" m8 1e5:=bI axfC lxfC 1e2;have abb:l6 K Ch "Change.__init__" xE ["self","lefts","rights"] []:=IG mkCh axci kcCh lxci (WG λ_ _ _ _ _ _ _ _ _=>rfl);have abc:Def K mg "formula_amounts" "formula_amounts" nj ["formula"]:=ck X G axam lxam 1e2;have abd:aX K Ch "kinds" "Change.kinds" xF 1e5:=bI axkd lxkd 1e2;have abe:aX K Rc "read_term" "ChangeReader.read_term" xG 1e5:=bI axrm lxrm 1e2;have UI:aX K Rc "read_lefts" "ChangeReader.read_lefts" qK 1e5:=bI ZZ Z0 1e2;have UJ:aX K Rc "read_rights" "ChangeReader.read_rights" nq 1e5:=bI Z1 Z2 1e2;have UK:aX K Rc "read_sides" "ChangeReader.read_sides" qL 1e5:=bI Z3 Z4 1e2;have Pa:Def K mg "read_change" "read_change" nu ["text"]:=ck X G Ut Uv 1e2;have abf:Def K mg "side_counts" "side_counts" iQ ["terms"]:=ck X G axsc lxsc 1e2;have abg:Def K mg "gains" "gains" sy ["change"]:=ck X G axgn lxgn 1e2;have abh:Def K mg "side_amounts" "side_amounts" gP ["terms"]:=ck X G axsa lxsa 1e2;have abi:aX K Ch "lost" "Change.lost" vE 1e5:=bI axlo lxlo 1e2;have QO:Def K mg "read_even" "read_even" jl ["text"]:=ck X G axev lxev 1e2;have abj:Def K mg "turns_of" "turns_of" nv ["amount","taken","gain"]:=ck X G axto lxto (WG λ_ _ _ _ _ _ _ _ _=>rfl);have abk:Def K mg "most_turns" "most_turns" fY ["change","amounts"]:=ck X G axmo lxmo 1e9;have abl:Def K mg "turned" "turned" qM ["change","times","amounts"]:=ck X G axtu lxtu (WG λ_ _ _ _ _ _ _ _ _=>rfl);have UL:Def K mg "refuse_short" "refuse_short" gQ ["change","times","amounts","step"]:=ck X G Z5 Z6 (ba4 λ_ _ _ _ _ _ _ _ _ _=>rfl);have CU:PySem.W.fu K Sh HE EL:=⟨obSh,Z7,Uw,saSh,gaSh,ghSh⟩;have UM:BL K mg "Short" Sh HE "Short.__init__" xH ["self","step","turn","formula","lack"]:=PQ CU (mg_of X G aSh) kcSh Z8 (ba5 λ_ _ _ _ _ _ _ _ _ _ _=>rfl);have abm:M8 K St "Store.__init__" fZ ["self","amounts"]:=⟨_,_,_,lC (st:=fZ) lxsi cxsi kxsi,⟨mkSt,axsi,ixsi,kcSt⟩,U8 rfl λ_ _ _ hk=>PySem.W.binds_K (K:=K) (fd:=fnOf "__init__" "Store.__init__" (bD fZ) (aR fZ) (aj fZ) (.ref EZ) LG LH LI Lq ET LJ) hk rfl Z9 rfl rfl rfl,bn1 rfl λ_ _ hk=>PySem.W.binds_K (K:=K) (fd:=fnOf "__init__" "Store.__init__" (bD fZ) (aR fZ) (aj fZ) (.ref EZ) LG LH LI Lq ET LJ) hk rfl Z9 rfl rfl rfl⟩;have abn:aX K St "have" "Store.have" Dt ["self","text"]:=bI axsv lxsv 1e9;have abo:aX K St "put" "Store.put" Nb ["self","text","many"]:=bI axsp lxsp (WG λ_ _ _ _ _ _ _ _ _=>rfl);have abp:Dr K St "go" "Store.go" FJ ["self","text","times"] [1]:=⟨_,_,_,lC (st:=FJ) lxso cxso aaa,⟨axso,ixso,aaa⟩,WH (⟨[.int 1 QC], .cons 2e4 (.nil),U8 rfl λ_ _ _ hk=>PySem.W.binds_K (K:=K) (fd:=fnOf "go" "Store.go" (bD FJ) (aR FJ) (aj FJ) (.ref EY) LK LL LM Lr EU LN) hk rfl Z' rfl rfl rfl⟩) (⟨[], .nil,WI rfl λ_ _ _ _ hk=>PySem.W.binds_K (K:=K) (fd:=fnOf "go" "Store.go" (bD FJ) (aR FJ) (aj FJ) (.ref EY) LK LL LM Lr EU LN) hk rfl Z' rfl rfl rfl⟩)⟩;have abq:aX K St "go_all" "Store.go_all" sA ["self","rows"]:=bI axsy lxsy 1e9;have abr:aX K St "stocks" "Store.stocks" nz 1e5:=bI axss lxss 1e2;have abt:Def K mg "counts_weight" "counts_weight" sCW ["counts","weights"]:=ck X G axcw lxcw 1e9;have abu:aX K Fo "weight" "Formula.weight" nE ["self","weights"]:=bI axfW lxfW 1e9;have abv:aX K St "total" "Store.total" sC ["self","kind"]:=bI axst lxst 1e9;have abw:aX K St "most" "Store.most" xO ["self","text"]:=bI axsm lxsm 1e9;have LW:PySem.W.fu K Ub HE O6:=⟨obUb,axub,aae,saUb,gaUb,ghUb⟩;have abx:BL K mg "Unbalanced" Ub HE "Unbalanced.__init__" xN ["self","kind","left","right"]:=PQ LW (mg_of X G aUb) kcUb lxub (ba4 λ_ _ _ _ _ _ _ _ _ _=>rfl);have aby:Def K mg "_law_cell_at" "_law_cell_at" qN ["_law_script","_law_k"]:=ck X G axca lxca 1e9;have abz:Def K mg "_law_mixed" "_law_mixed" xI ["_law_cell","_law_prime"]:=ck X G axmi lxmi 1e9;have abA:Def K mg "_law_whole" "_law_whole" xJ ["_law_found"]:=ck X G axwh lxwh 1e2;have abB:Def K mg "_law_kind" "_law_kind" Du ["_law_number"]:=ck X G axki lxki 1e2;have abC:Def K mg "_law_figures" "_law_figures" nB ["_law_count_here"]:=ck X G axfg lxfg 1e2;have abD:Def K mg "_law_matter" "_law_matter" nC ["_law_cell","_law_kinds"]:=ck X G axlm lxlm 1e9;have abE:Def K mg "_law_world" "_law_world" px ["_law_script"]:=ck X G axlw lxlw 1e2;have abF:Def K mg "_law_change" "_law_change" kI ["_law_cell","_law_world_here"]:=ck X G axlc lxlc 1e9;have abG:Def K mg "_law_text" "_law_text" Dv ["_law_lefts","_law_rights"]:=ck X G axlt lxlt 1e9;have abH:Def K mg "_law_texts" "_law_texts" xK ["_law_world_here"]:=ck X G axlx lxlx 1e2;have abI:Def K mg "_law_known" "_law_known" xP ["_law_world_here"]:=ck X G axlK lxlK 1e2;have abJ:Def K mg "_law_totals" "_law_totals" qO ["_law_amounts_here","_law_known_here"]:=ck X G axlT lxlT 1e9;have abK:Def K mg "_law_kept" "_law_kept" Dx ["_law_store","_law_known_here","_law_due","_law_some"]:=ck X G axlP lxlP (ba4 λ_ _ _ _ _ _ _ _ _ _=>rfl);have abL:Def K mg "_law_caught" "_law_caught" qP ["_law_store","_law_texts_here"]:=ck X G axlU lxlU 1e9;have abM:Def K mg "_law_gone" "_law_gone" Dw ["_law_store","_law_cell","_law_world_here"]:=ck X G axlg lxlg (WG λ_ _ _ _ _ _ _ _ _=>rfl);have Flaw:=Rr (st:=xM) llaw claw klaw;refine⟨fnOf "law" "law" (bD xM) (aR xM) (aj xM) .none Qv Qw Qx Qu LO Qy,λs v=> .of_eq rfl,λbase _ _=>?_⟩;have TH:JC K mg C Rc Gr Pc Fo Ch uK uN uB uE uM uC uP uI uD uL uT eM eN eO:=⟨⟨⟨⟨⟨⟨pgC,hdC,poC,saC⟩,QH,LQ,mg_of X G aC,mg_none_of X G QI,mg_none_of X G QJ,mg_none_of X G QK,mg_none_of X G LR,mg_none_of X G E1,mg_none_of X G oE,gu,mV,gu,gu,gu⟩,⟨pgRc,hdRc,poRc,saRc⟩,nct,ncp,mg_of X G mj,mg_of X G ll⟩,⟨aaf,aag,aah,aai⟩,ngp,ngc,mg_of X G aGr,mg_of X G oF,mg_of X G uh,mg_of X G gJ⟩,mg_of X G oG,mg_of X G QM,mg_of X G LV,⟨aaj,aak,aal,aam⟩,⟨aan,aao,aap,aaq⟩,npp,npc,nfp,nfc,mg_of X G aPc,mg_of X G aFo,mg_of X G uk,mg_of X G wO,mg_of X G ml,mg_none_of X G LS,mg_none_of X G QL⟩,mg_none_of X G LU,⟨pgCh,hdCh,poCh,saCh⟩,nlf,nrf,mg_of X G aCh,mg_of X G Ux,mg_of X G Uy,mg_of X G Uz⟩;have TK:nX K mg C Rc Gr Pc Fo Ch uK uN uB uE uM uC uP uI uD uL uT eM eN eO uG uS:=⟨TH,mg_of X G ma,mg_of X G aRc,mg_of X G A7⟩;have TL:JR K mg C Rc Gr Pc Fo Ch uK uN uB uE uM uC uP uI uD uL uT eM eN eO:=⟨TH,mg_none_of X G A6,mg_none_of X G aaw⟩;have TM:Xr K mg C Rc Gr Pc Fo Ch uK uN uB uE uM uC uP uI uD uL uT eM eN eO uG uS:=⟨TK,mg_none_of X G aax⟩;have TO:Oq K mg C Rc Gr Pc Fo Ch St uK uN uB uE uM uC uP uI uD uL uT eM eN eO uG uS:=⟨TK,mg_none_of X G qi,⟨aar,aas,aat,aau⟩,nam,ngo⟩;have TS:qv K mg C Rd Gr Pc Fo St uK uN uB uE uM uC uP uI uD uL uT:=⟨T,mg_none_of X G LU,mg_none_of X G aav,⟨aar,aas,aat,aau⟩,nam,ngo,mg_of X G aSt⟩;have TF:WS K mg C Rd Gr Pc Fo uK uN uB uE uM uC uP uI uD uL uT:=⟨T,mg_of X G aRd⟩;have TE:Og K mg HE Sh:=⟨mg_of X G aHE,⟨hE1,hE2,Vn⟩,⟨hE4⟩,mg_of X G aSh,tS1,tS2,tS3,tS4,fS1,fS2,fS3,fS4,⟨t1,t2,t3⟩,uS1⟩;have TA:qm K mg C:=T.tosP.touQ.toqm;have Pb:=IZ (P:=l.prog) (w:=w) (base:=base) aay;have abN:=Ja (P:=l.prog) (w:=w) (base:=base) aaz;have abO:=FW (P:=l.prog) (w:=w) (base:=base) aaA;have Pd:=ub (P:=l.prog) (w:=w) (base:=base) aaB TA;have abP:=Nz (P:=l.prog) (w:=w) (base:=base) UA TA;have q_sh:=KU aaD TA Pd;have abQ:=Jv (P:=l.prog) (w:=w) (base:=base) aaE T;have abR:=Jw (P:=l.prog) (w:=w) (base:=base) aaG T;have Pe:=Jx (P:=l.prog) (w:=w) (base:=base) aaK T;have abS:=B2 (P:=l.prog) (w:=w) (base:=base) aaI T;have q_ri:=zY (P:=l.prog) (w:=w) (base:=base) aaM T.tosP.touQ;have G9:=DE (P:=l.prog) (w:=w) (base:=base) aaO T.tosP.touQ;have Pf:=DF aaQ T.tosP.touQ G9;have q_ra:=sN aaS T.tosP.touQ Pf;have q_rn:=vN aa5 T.tosP.touQ G9 abO;have Pg:=vO aa3 T.tosP.touQ q_rn;have abT:=z7 UD T.tosP.touQ G9 Pb abN Pg abP;have abU:=sT aa1 aaZ UB T.tosP G9 Pb abT Pf Pg abQ 1;have abV:=sV UG T.toWM G9 Pf Pg;have q_rl:=nS 1 aaX T q_ra Pe;have q_rw:=vY 1 aaV T G9 Pf Pg abU abV q_rl abR Pe;have q_re:=BU (P:=l.prog) (w:=w) (base:=base) aaU T.tosP.touQ;have abW:=Ae 1 aa7 TF abS q_ri q_rw q_re;have q_ps:=vZ aaC aaF T.tosP q_sh Pd 1;have q_pS:=tD 1 aaH T q_ps Pd;have q_ch:=pK aaJ T Pd;have q_fS:=Ca 1 aaL T q_pS q_ch;have q_co:=Gf (P:=l.prog) (w:=w) (base:=base) aa8 TA;have q_pc:=tN QN aa9 T.tosP q_co 1;have q_pC:=qr 1 aa' T q_pc;have q_pP:=Ao 1 QN T q_pC;have UN:=Aq 1 aba T q_pP;have p_ri:=zY (P:=l.prog) (w:=w) (base:=base) aaN TH.tokR.tosP.touQ;have G':=DE (P:=l.prog) (w:=w) (base:=base) aaP TH.tokR.tosP.touQ;have LX:=DF aaR TH.tokR.tosP.touQ G';have UO:=sN aaT TH.tokR.tosP.touQ LX;have abX:=vN aa6 TH.tokR.tosP.touQ G' abO;have Ph:=vO aa4 TH.tokR.tosP.touQ abX;have abY:=z7 UE TH.tokR.tosP.touQ G' Pb abN Ph abP;have abZ:=sT aa2 aa0 UC TH.tokR.tosP G' Pb abY LX Ph abQ 1;have ab0:=sV UH TH.tokR.toWM G' LX Ph;have p_rl:=nS 1 aaY TH.tokR UO Pe;have p_rw:=vY 1 aaW TH.tokR G' LX Ph abZ ab0 p_rl abR Pe;have q_ci:=JF (P:=l.prog) (w:=w) (base:=base) abb TH;have ab1:=JK abe TK abX LX p_rw;have ab2:=Gm UI TK ab1 UO;have ab3:=Cf UJ TK ab1 UO;have ab4:=Gp UK TK ab2 ab3 q_ci;have LY:=Ck Pa TK abS p_ri ab4;have UP:=uZ abf TK q_fS;have ab5:=JQ abg TK UP;have q_am:=Co abc TH UN;have q_kd:=JX abd TL UN;have q_sa:=tV abh TL q_am;have ab6:=NY abi TL q_sa q_kd;have q_ev:=AL QO TK LY ab6;have q_to:=Cy (P:=l.prog) (w:=w) (base:=base) abj;have ab7:=OA abk TM UP ab5 q_to;have ab8:=GK abl TK ab5;have ab9:=Kk (P:=l.prog) (w:=w) (base:=base) UM TE;have aca:=GD UL TK TE ab7 ab8 UP ab9;have TU:S3 K mg HE Ub:=⟨mg_of X G aHE,⟨hE1,hE2,Vn⟩,mg_of X G aUb,tU1,tU2,tU3⟩;have q_ub:=Km (P:=l.prog) (w:=w) (base:=base) abx TU;have acb:=yE QO TK TU LY ab6 q_ub;have QP:=Kq abq TO acb aca ab8;have acd:=Xq abp TO QP;have q_ha:=N5 abn TS abW;have ace:=SH abo TS q_ha;have q_si:=J8 abm TS ace;have UQ:=Gw (P:=l.prog) (w:=w) (base:=base) abr TS;have q_cw:=Xb (P:=l.prog) (w:=w) (base:=base) abt;have q_fW:=AD 1 abu T q_cw UN;have acf:=Kb abv TS abW q_fW;have acg:=Cc (P:=l.prog) (w:=w) (base:=base) aby TA;have q_mi:=SQ (P:=l.prog) (w:=w) (base:=base) abz;have q_wh:=Js (P:=l.prog) (w:=w) (base:=base) abA TA;have q_ki:=Ju (P:=l.prog) (w:=w) (base:=base) abB TA;have q_fg:=Cb (P:=l.prog) (w:=w) (base:=base) abC TA;have q_lm:=Gy abD TS q_fg;have q_lw:=Ky abE TS acg q_mi q_ki q_lm;have q_lc:=CF (P:=l.prog) (w:=w) (base:=base) abF TL;have q_lt:=KI (P:=l.prog) (w:=w) (base:=base) abG TA;have q_lx:=KD (P:=l.prog) (w:=w) (base:=base) abH TS;have q_mS:=Kw abw TO q_ev ab7;have TV:OT K mg C Rd Gr Pc Fo St HE Sh Ub uK uN uB uE uM uC uP uI uD uL uT:=⟨TS,TE,mg_none_of X G qi,mg_none_of X G A6,mg_of X G aUb,uU1,⟨tc,t2,t3⟩,zR _,zR _⟩;have q_lK:=K2 (P:=l.prog) (w:=w) (base:=base) abI TS;have ach:=GS (P:=l.prog) (w:=w) (base:=base) abJ;have q_lP:=OS abK TS UQ q_wh ach acf;have q_lU:=GV abL TV CU LW QP acd;have q_lg:=La abM TV CU LW q_lc q_lt UQ q_mS acd q_lU;exact TJ Flaw TV q_lw q_lx acg q_lK q_si UQ ace q_lg ach q_lP
def walk{l:PySem.W.OpenLaw}{XP:(Str→Option Value)→Heap→Prop}{YP:World→Heap→Prop}{d:DefRec}{K:Params→PySem.W.Frag}(hn:l.most=some 63)(Wc:d.params.defaults=[])(hY:∀(w:World) (h:Heap),YP w h→(K w.params).In h)(F:∀(w:World) (mg:1e3) (fa:3e5) (h:Heap),(K w.params).In h→h.Ns mainGlobals mg→mg d.name=some (.ref fa)→
   ∃fd:FuncData,(∀(s:Shared) (u:Value),BindsTo s fd ⟨[u],[]⟩ [("_law_script",u)])∧∀base:Heap,(K w.params).In base→base.Ns mainGlobals mg→fD l.prog w (K w.params) mg base rO 21 fa fd ["_law_script"] (EJ (K w.params))):
  PySem.W.WalkO q loose XP YP l.row.toRowW d [] (λf vs=>PySem.call f vs):=
 L2.MJ (n:=63) (k:=21) (x:="_law_script") (CX:=λ_=>rO) (sp:=λw=>EJ (K w.params)) hn 0e4 Wc ⟨rfl,by decide,by decide⟩ hY F (λ_ _ a ns hl _ hS=>⟨a,ns,rfl,hS,hl,λ_=>rfl⟩) λ_ _ _ _ _ z=>z
end K55
open PySem PySem.W PyProof.Rows
namespace PySem.W.Fast
def tw1231976376330795587:=True
def tw13779978269088590748:=True
def tw11010641887616071915:=True
def tw15823974793740654484:=True
def tw11301534687503338193:=True
def tw7778805622134179734:=True
def tw10088466235263913228:=True
def tw7698481765334938849:=True
def tw13649248474584683844:=True
def tw12023906821266266137:=True
def tw9244625551855532087:=True
def tw1316164777910738066:=True
def tw13978795422544606007:=True
def tw17146393568989005314:=True
def tw16221175016576620487:=True
def tw599531583346139934:=True
def tw196582126609514684:=True
def tw4030506066273125096:=True
def tw4324377671512726377:=True
def tw3260641481601003170:=True
def tw13136208901722045635:=True
def tw13572808298757934392:=True
def tw15543468399653715554:=True
def tw4684161871696333926:=True
def tw5480845077008774710:=True
def tw6083990582541271762:=True
def tw2761333053508465199:=True
def tw14834975605643173173:=True
def tw648983074928840516:=True
def tw17353028283649407887:=True
def tw10605112761262293320:=True
def tw4448775565795657034:=True
def tw1715516042838080421:=True
def tw6747851920762484715:=True
def tw5605763409060289428:=True
def tw10899160738490845100:=True
def tw6016892028488646866:=True
def tw5489281497185473501:=True
def tw2282428398382197671:=True
def tw7985650214701436693:=True
def tw8483511918159227171:=True
def tw4129662828508585382:=True
def tw4737273836365929462:=True
def tw18121227063217125230:=True
def tw11734514041905892635:=True
def tw2482789033271447337:=True
def tw15381143674686379152:=True
def tw9883010840229718678:=True
def tw16070802361108739528:=True
def tw18026032449815989415:=True
def tw14321963745543171678:=True
def tw8434364759763145863:=True
def tw17338265777894009383:=True
def tw9350452811836163605:=True
def tw2616199464323683396:=True
def tw8316151499773954258:=True
def tw15548158561621306133:=True
def tw10579739814661525263:=True
def tw3004594130449750494:=True
def tw7890238482710294293:=True
def tw13682019206419216991:=True
def tw7543187978932937919:=True
def tw6044633235110158694:=True
def tw8870126871678413275:=True
def tw17870268010510129027:=True
def tw10176508096116260752:=True
def tw7801319665451094132:=True
def tw2215772408034682993:=True
def tw8547622546098563487:=True
def tw8427122088773868023:=True
def tw15362543131661590773:=True
def tw7888282084304548779:=True
def tw14075893299869948166:=True
def tw13660314499030433998:=True
def tw5042561344357322426:=True
def tw1898873680314564689:=True
def tw10827162528120514501:=True
def tw5398244167809498054:=True
def tw12354015112368951477:=True
def tw14036723132279216599:=True
def tw944400486941369727:=True
def tw5482915293359275200:=True
def tw13271593521184289634:=True
def tw1125575672409190094:=True
def tw7755508349671272797:=True
def tw2547881126715956242:=True
def tw16437732761203588404:=True
def tw11617688767456523249:=True
def tw3777526863934255835:=True
def tw7944204352513513318:=True
def tw10054355202615880972:=True
def tw4365254250276951514:=True
def tw3736515050255981743:=True
def tw1067985431888584822:=True
def tw12081367220760228333:=True
def tw8884765212192784657:=True
def tw5242482455505805251:=True
def tw1803134757732376521:=True
def tw2840323836975863343:=True
def tw15427550540140623977:=True
def tw17995687553701216776:=True
def tw7610464003169593345:=True
def tw10987676483392081193:=True
def tw16970485955503290405:=True
def tw6978164803791196977:=True
def tw13833944989476191091:=True
def tw16879497054854798406:=True
def tw13642719604808178713:=True
def tw380395330071447330:=True
def tw4855272538775594323:=True
def tw15187030883570522103:=True
def tw16300967312651155837:=True
def tw15086135982146532060:=True
def tw18203569775985726249:=True
def tw17070380064611889962:=True
def tw7994969888723826849:=True
def tw8172281590532115298:=True
def tw9468386647160010405:=True
def tw7004498446955760468:=True
def tw12136743733266605664:=True
def tw626832792331093454:=True
def tw6641312875068490867:=True
def tw17557244940697167047:=True
def tw14555695496141257220:=True
def tw1563099765387833779:=True
def tw3861073161329299487:=True
def tw9757839732090302244:=True
def tw5751078622648041220:=True
def tw2237541795269826726:=True
def tw6796104390630649576:=True
def tw8411152298672394421:=True
def tw13689011853869358316:=True
def tw6408351547432443445:=True
def tw15200766790747495268:=True
def tw6537760272118647926:=True
def tw4166411612347215693:=True
def tw14458771626910172845:=True
def tw4542655976024277152:=True
def tw4129460605884690446:=True
def tw10129583503642950539:=True
def tw16646661711259723448:=True
def tw11219871031449810374:=True
def tw7437886229805215018:=True
def tw6187364779315771759:=True
def tw15519747881262654576:=True
def tw17527658915328773267:=True
def tw4919100400778880018:=True
def tw11922140274674300171:=True
def tw128299143152304681:=True
def tw12156793569547453222:=True
def tw3921077976098156650:=True
def tw9747335639447671473:=True
def tw685659077650882082:=True
def tw5482683106360365913:=True
def tw7572661519919089051:=True
def tw3798094501427202503:=True
def tw6671563149311508754:=True
def tw45850783455130403:=True
def tw17359067003989224870:=True
def tw6118450008968300048:=True
def tw12497037596510617446:=True
def tw10498647040421419841:=True
def tw7078172303014462795:=True
def tw11678206184763282779:=True
def tw6672987229557817423:=True
def tw17260108276399328763:=True
def tw7807369239543500492:=True
def tw5351719219381520942:=True
def tw17440368946480344288:=True
def tw15341538152098629720:=True
def tw6894938240149690917:=True
def tw8693417345983699219:=True
def tw3072494712754798797:=True
def tw17510518588497539670:=True
def tw12097010863459607795:=True
def tw16812157797253585006:=True
def tw13694792342185059797:=True
def tw14957296268188907510:=True
def tw18064877482131875294:=True
def tw17655208193298333412:=True
def tw8232582973260764425:=True
def tw9666592138994753620:=True
def tw8842033198439787302:=True
def tw15396013054234902006:=True
def tw15805407486789424232:=True
def tw16144834468183404133:=True
def tw11633231387964442240:=True
def tw1660411139352258065:=True
def tw2137535155122551040:=True
def tw593243113441567269:=True
def tw2561362145540304472:=True
def tw10406823227791569322:=True
def tw3064504127693394767:=True
def tw6353736399799493153:=True
def tw12387691286232240249:=True
def tw2193290354237606967:=True
def tw16358149536323573272:=True
def tw1943684523391727759:=True
def tw13369446746838336366:=True
def tw9257279948863441494:=True
def tw1037162863678630172:=True
def tw11827593756742886531:=True
def tw10755993027742414701:=True
def tw6073728665784088848:=True
def tw3322133938568138887:=True
def tw4460546360754899950:=True
def tw7489254671114464772:=True
def tw8372731420504921091:=True
def tw554187129866523475:=True
def tw14425397492708876630:=True
def tw11172783968451868718:=True
def tw830577656855238235:=True
def tw8918832106993691247:=True
def tw14013949009022616233:=True
def tw3825968210260149596:=True
def tw10439084968336808582:=True
def tw14673746095687360014:=True
def tw6460455406471081630:=True
def tw7334026856895001513:=True
def tw415109850231366324:=True
def tw157109070948729817:=True
def tw12745600012554259347:=True
def tw10412382465574696210:=True
def tw14279711442280162592:=True
def tw15337630390049642695:=True
def tw13758909337481129590:=True
def tw17193368678190406681:=True
def tw719402217308192218:=True
def tw1506208356589622861:=True
def tw5601447007310105238:=True
def tw15730761885529323675:=True
def tw16971703831654461953:=True
def tw15852783523969561155:=True
def tw6474411717699042350:=True
def tw17458899630280345421:=True
def tw17548863750484079832:=True
def tw18408444013865775029:=True
def tw9848744907300811891:=True
def tw13351752694832604365:=True
def tw10860022103683667639:=True
def tw13112129139102105138:=True
def tw9591475022186436275:=True
def tw16369679911764159417:=True
def tw952976340061693346:=True
def tw17155588467283686967:=True
def tw14450420816812633140:=True
def tw11453968691871144333:=True
def tw11418570722312545178:=True
def tw6408598577656866494:=True
def tw5318264034788231935:=True
def tw507616344152080433:=True
def tw3431070476436031234:=True
def tw13328311504459035003:=True
def tw4639178382903772226:=True
def tw5490722681077327787:=True
def tw7833635684619790703:=True
def tw12927152696558132305:=True
def tw2933499566572104212:=True
def tw9011562095078626526:=True
def tw9282990613949615994:=True
def tw16427002909995620364:=True
def tw8987346313823261421:=True
def tw14318199163390093899:=True
def tw15633522585977285848:=True
def tw8835597286254349328:=True
def tw4657920071184380466:=True
def tw15774699839896798072:=True
def tw12138471619384351699:=True
def tw12853202563895058020:=True
def tw10001217743605148239:=True
def tw9374058247426113653:=True
def tw7012312154356862484:=True
def tw17302362032498150720:=True
def tw16669827497918426920:=True
def tw6435858132270979488:=True
def tw15328686516411936549:=True
def tw8398814403702661948:=True
def tw1502411144959974077:=True
def tw3443505175215427804:=True
def tw5759771159145088254:=True
def tw15520638618728470530:=True
def tw2970822158185672464:=True
def tw12844049700523764702:=True
def tw2238943170910116339:=True
def tw16498034411362207818:=True
def tw12704945180971679230:=True
def tw4839955815699267639:=True
def tw12411068003470508373:=True
def tw16719722249659038077:=True
def tw6553281384535546623:=True
def tw12215590063956852730:=True
def tw14877955377352375225:=True
def tw5236253175617002520:=True
def tw15295114876341924821:=True
def tw7153283087074347641:=True
def tw9918354168324347660:=True
def tw6537171940864373695:=True
def tw949267585272091530:=True
def tw2101427395983393810:=True
def tw10238129004873461764:=True
def tw398804041908022735:=True
def tw1491165309831828636:=True
def tw15506194737816390634:=True
def tw17257208528796100:=True
def tw15863406926313133572:=True
def tw3448522392503429504:=True
def tw14485234485917722742:=True
def tw2187646173137418964:=True
def tw15716461369130325642:=True
def tw3053172386632774853:=True
def tw1476960502201412110:=True
def tw11886418879520513064:=True
def tw16988989452135989599:=True
def tw13909248038713001158:=True
def tw10906249271050018583:=True
def tw11741541908788958706:=True
def tw17935076703864592103:=True
def tw3470397993137282385:=True
def tw17095040139332007759:=True
def tw12107813032748611745:=True
def tw3320659402483277606:=True
def tw12045031487386440129:=True
def tw5699856967963803240:=True
def tw6042649816936033824:=True
def tw6928869677845950389:=True
def tw16513843635692807933:=True
def tw13384863823244740491:=True
def tw949228360462916249:=True
def tw4612419461789021747:=True
def tw4461368904794644566:=True
def tw15412024661990726454:=True
def tw5190080042421616054:=True
def tw13193779484423781487:=True
def tw1800403390423213663:=True
def tw10028349302118749281:=True
def tw15063742121852057275:=True
def tw7334976791173644456:=True
def tw17967898456775560259:=True
def tw2580043053143655291:=True
def tw10731054277472877833:=True
def tw885625760685032253:=True
def tw16628160322715660255:=True
def tw1455880233461859947:=True
def tw5325335816434075951:=True
def tw14499584392187476705:=True
def tw10274985706570524772:=True
def tw15842959084273429475:=True
def tw1147483616683788361:=True
def tw8849060826416256388:=True
def tw11772603693477768138:=True
def tw18042279001726938087:=True
def tw17444699432912092634:=True
def tw9994685400392059413:=True
def tw15693505186341475398:=True
def tw9332457337372170905:=True
def tw11342002350783869704:=True
def tw16555368302155976656:=True
def tw1609781748019266428:=True
def tw5241079327151563199:=True
def tw7727399978149317479:=True
def tw16669325837379945600:=True
def tw15966015394683819162:=True
def tw17532559621494602389:=True
def tw7901077814477417811:=True
def tw16558480751686807457:=True
def tw2173955800927888762:=True
def tw16674770881443103813:=True
def tw15768907348273902247:=True
def tw9739559648511139487:=True
def tw6790667561942715852:=True
def tw10810370848278363415:=True
def tw18220780728291487244:=True
def tw17096771584433255456:=True
def tw15696441517184449159:=True
def tw13936825702883636045:=True
def tw2816231731143812822:=True
def tw2348985665845705213:=True
def tw7274551958086325454:=True
def tw14916580296741186246:=True
def tw7589065736641541497:=True
def tw12614159239103836732:=True
def tw13803403066611255821:=True
def tw2515592808945927703:=True
def tw4095462133729324843:=True
def tw12932078871823990004:=True
def tw15131778337160051862:=True
def tw7805609705654141028:=True
def tw10621279691718462192:=True
def tw15303808670963385232:=True
def tw2822700053100148787:=True
def tw11949029750634714517:=True
def tw5117485012596891168:=True
def tw15091863565321700439:=True
def tw13839170653141426368:=True
def tw5783374806702842740:=True
def tw8037244410303813781:=True
def tw13179093356470461239:=True
def tw11066668598315702644:=True
def tw3502428144430712810:=True
def tw17591270460705541757:=True
def tw3396628714319211010:=True
def tw13019852983378226559:=True
def tw2706066925557850944:=True
def tw3330772950761975710:=True
def tw7790093460519987365:=True
def tw121639490181408791:=True
def tw18176012349357993:=True
def tw7949215106889079463:=True
def tw562253596447853496:=True
def tw11651380978542027957:=True
def tw16359622123711416010:=True
def tw12224298892564082250:=True
def tw14267397367695712379:=True
def tw4963009636120346471:=True
def tw11989895367191460640:=True
def tw3413476361722079587:=True
def tw11821769954872631127:=True
def tw14242905947884998950:=True
def tw17508164479817005366:=True
def tw6216019816862718731:=True
def tw4696480343254983928:=True
def tw8949375582309525098:=True
def tw7752546311507768795:=True
def tw5767055281583426669:=True
def tw2634266647057471856:=True
def tw17217217884764989627:=True
def tw468655774733963655:=True
def tw11168122605137545051:=True
def tw12009255482359297695:=True
def tw80972370065965599:=True
def tw3036052764802649246:=True
def tw18427358747895392718:=True
def tw16746719541401036134:=True
def tw2430264904938811542:=True
def tw3495740381346337927:=True
def tw4469808266740528794:=True
def tw793452612793336956:=True
def tw17556244270420564054:=True
def tw16153428701902714694:=True
def tw303482991412539958:=True
def tw14745515157361158135:=True
def tw2099967264268685313:=True
def tw17567191004266068931:=True
def tw8506440280237819504:=True
def tw2030152860629266015:=True
def tw2854063398321846123:=True
def tw16686124643472574061:=True
def tw8529700739392947096:=True
def tw16947668997859458175:=True
def tw3403810484619154535:=True
def tw4392249348797266795:=True
def tw9291183733202265103:=True
def tw16804791501115868626:=True
def tw12905583828555018062:=True
def tw6870152282325233558:=True
def tw4610644315743231143:=True
def tw5410150210116823494:=True
def tw2644451801806039556:=True
def tw13745145228373283726:=True
def tw3980577445787942687:=True
def tw5243380360702783935:=True
def tw5693687057043322675:=True
def tw5701699858267014666:=True
def tw13282669209083484112:=True
def tw5417591184009491535:=True
def tw10707205624509635281:=True
def tw16479354725621798697:=True
def tw5001470634322342675:=True
def tw14052749460076676964:=True
def tw13825604693176786037:=True
def tw10584919096544796817:=True
def tw437525801369605328:=True
def tw2085902206901003864:=True
def tw3382577521491019959:=True
def tw7743926279805636826:=True
def tw17458719549528020634:=True
def tw3237897244973816840:=True
def tw14385985463024988382:=True
def tw2057447264522336398:=True
def tw13459892831716903932:=True
def tw186429845924393740:=True
def tw12917248919620362320:=True
def tw15901756676996925741:=True
def tw18439015439266193255:=True
def tw13800891521119677172:=True
def tw13046481738968176560:=True
def tw11538760114295301520:=True
def tw12884519062390994830:=True
def tw16182990152834124283:=True
def tw5519489333844788713:=True
def tw16735577835992176250:=True
def tw17493555986013034373:=True
def tw4546739333048787468:=True
def tw13425247602084906235:=True
def tw11032915868404024805:=True
def tw13729105275611042270:=True
def tw957001593266653472:=True
def tw14411112024518893236:=True
def tw17841696789053329485:=True
def tw9213822684011685671:=True
def tw8936083943555265516:=True
def tw3483568557228868059:=True
def tw17131860030740432460:=True
def tw17354271341780537774:=True
def tw498363708659344437:=True
def tw4199624484162687295:=True
def tw17518581519359836715:=True
def tw10006313667599847598:=True
def tw7188617756704538473:=True
def tw2266554556753203576:=True
def tw17292762258684064352:=True
def tw12225993449681593381:=True
def tw14635766421810215201:=True
def tw8901596221016585097:=True
def tw9144468571774651453:=True
def tw12751219199482368728:=True
def tw668040141607818777:=True
def tw3364380256679576341:=True
def tw9761127741659300649:=True
def tw13439613350762184688:=True
def tw15495009547101023515:=True
def tw9747546165566835087:=True
def tw9897801367654488609:=True
def tw8292667458676816979:=True
def tw2386922853068839974:=True
def tw14144916989756462285:=True
def tw2238498333204455976:=True
def tw10750242274038053640:=True
def tw8755473108244216540:=True
def tw8915458243355784777:=True
def tw16475605041005314477:=True
def tw14171208936107830966:=True
def tw767850145006214587:=True
def tw1859344409816946449:=True
def tw613242856082264875:=True
def tw12471291872981432248:=True
def tw2810620855950829781:=True
def tw7914484316760900967:=True
def tw2784400838958888489:=True
def tw5117249591940542458:=True
def tw10915467272199120026:=True
def tw12727603371499939788:=True
def tw3753865986449392847:=True
def tw4257026168542840369:=True
def tw8956279200498235584:=True
def tw2229423051775201681:=True
def tw11782624764421128147:=True
def tw8063652390368936140:=True
def tw15898496624598156953:=True
def tw14203175815778972316:=True
def tw1105057408281022560:=True
def tw2532309307763691410:=True
def tw1168544176431497533:=True
def tw13367210234885109426:=True
def tw8390534186952865451:=True
end PySem.W.Fast
set_option maxRecDepth 100000 in
set_option maxHeartbeats 0 in
theorem PySem.Challenge.cw_balancehall_k55_whole_totals_stay_holds : PySem.Challenge.rw_balancehall_k55_whole_totals_stay.Holds := by
 w_on;o_law;k_head;(case hw=>w_witness2)
 k_fill
 refine K55.walk (l:=PySem.Challenge.rw_balancehall_k55_whole_totals_stay) rfl rfl (fun w h Y=>PySem.W.kIn_of Y) ?F
 case F=>
  intro w mg fa h KX G Wd
  apply K55.all_mk KX G Wd
  all_goals first|k_is|exact⟨⟨_,⟨⟨_,_,_,_,_,_,_,_,_,rfl,by k_is,by k_is⟩,by k_is⟩⟩,by k_is⟩ |exact⟨_,_,_,_,_,_,_,_,_,_,_,_,_,_,_,_,_,by k_is,by decide+kernel⟩ |exact⟨_,_,_,_,_,_,_,_,_,_,_,_,_,_,by k_is⟩
